import PyProof.Rows.All
import Wide.All
import OpenK.AllK
import Wide.FinOn
import PyProof.EqAt
import PyProof.EqKinds
import PyProof.TupleCall
import KE.BitLaws
import Open.SpecLaws
import KE.OsHead
import KE.OsGo
import PySem.SetOps
import PyProof.SetScanFacts
import PyProof.SetRoads
import PyProof.TupleKey
import PyProof.IsRules
import PyProof.P3Eq
import PyProof.Rows.SetFrom
import PyProof.FactsAll.set_2
import VanbkmSpec
import PyVanbkm
import PySem.Challenge.RW_cellmoments_s01_answers
import KE.KTupSum
import KE.KDictSum
import KE.KDictLaws
import KE.KFind
set_option Elab.async false
set_option linter.all false
set_option maxRecDepth 100000
set_option maxHeartbeats 4000000
set_option compiler.extract_closed false
set_option hygiene false in
open Lean in
local macro_rules
 | `(command| #synth $s:str) => do
  let f ← `(fun X => Y)
  let g ← `(∀ X, Y)
  let r ← `(X → Y)
  let lam (x b : Term) : Term := ⟨f.raw.modifyArg 1 fun z => (z.setArg 0 (mkNullNode #[x])).setArg 3 b⟩
  let all (x b : Term) : Term := ⟨(g.raw.setArg 1 (mkNullNode #[x])).setArg 4 b⟩
  let arr (a b : Term) : Term := ⟨(r.raw.setArg 0 a).setArg 2 b⟩
  let id (s : String) : Term := mkIdent s.toName
  let ap (f : String) (a : Array Term) : Term := Syntax.mkApp (id f) a
  let li (s : String) (n : Nat) : List Term := (List.range n).map fun i => id s!"{s}{i}"
  return mkNullNode (← (s.getString.splitOn " ").toArray.mapM fun c => do
   let k := c.toNat! / 100
   let m := c.toNat! % 100
   let x := li "x" k
   let h := id "h"
   let A := (li "A" m).map fun a => Syntax.mkApp a x.toArray
   let F (z : Term) := x.foldr all (A.foldr arr z)
   let e := x.foldr (fun x b => ap "Exists" #[lam x b]) (A.dropLast.foldr (fun a b => ap "And" #[a, b]) A.getLast!)
   let ps := (List.range m).map fun j => let q := j.repeat (fun q => ap "And.right" #[q]) h; if j + 1 < m then ap "And.left" #[q] else q
   let b := x.foldr (fun x b => ap "Exists.elim" #[h, lam x (lam h b)]) (ap "f" (x ++ ps).toArray)
   let y := (x ++ li "h" m).toArray
   let t := (li "α" k).foldr arr (← `(Prop))
   let B : Array Ident := (li "A" m).toArray.map fun a => ⟨a⟩
   let v ← `(theorem $(mkIdent (.mkSimple s!"e{k}_{m}")) {$B* : $t} {G : Prop} (h : $e) (f : $(F (id "G"))) : G := $b)
   let w ← `(theorem $(mkIdent (.mkSimple s!"i{k}_{m}")) {$B* : $t} : $(F e) := fun $y* => ⟨$y,*⟩)
   return mkNullNode #[v, w])
#synth "2 3 4 5 6 7 101 102 103 104 105 201 202 203 204 205 206 210 301 302 303 304 305 306 307 401 402 403 404 405 406 408 502 503 504 506 603 604 605 606 607 610 611 612 703 704 705 707 709 803 804 806 807 902 903 904 906 907 1008 1009 1206 1306"
def spl (n : Nat) : List (Nat × Nat) :=
 let l := (List.range n).reverse.flatMap fun k => (List.range (n - k)).reverse.filterMap fun m => if k < 16 && 0 < k + m && m < 12 then some (k, m + 1) else none
 l.filter (fun (k, m) => k + m == n) ++ l.filter fun (k, m) => k + m != n
set_option hygiene false in
open Lean Parser.Tactic in
local macro_rules
 | `(tactic| obtain $p:rcasesPatMed := $e:term) => do
  let a := p.raw[0][0]
  let ps := a[1].getSepArgs
  let n := ps.size
  unless p.raw[0].getNumArgs == 1 && a.getKind == ``rcasesPat.tuple && 2 ≤ n && n ≤ 20 do Macro.throwUnsupported
  let c ← if e.raw.isIdent then `(tactic| try clear $(⟨e.raw⟩)) else `(tactic| skip)
  let rows ← (spl n).toArray.mapM fun (k, m) => do
   let j := k + m
   let is := (List.range j).toArray
   let last (i : Nat) := i + 1 == j && j < n
   let z (i : Nat) : Ident := mkIdent (.mkSimple s!"z{i}_")
   let nest (i : Nat) := last i || ps[i]![0][0].getNumArgs > 1 || ps[i]![0][0][0].getNumArgs > 1
   let r : Array (TSyntax `rintroPat) := is.map fun i => ⟨mkNode ``rintroPat.one #[if nest i then mkNode ``rcasesPat.one #[z i] else ps[i]![0][0][0]]⟩
   let o ← (is.filter nest).mapM fun i => do
    let s : Array (TSyntax ``rcasesPatLo) := (ps.extract i n).map fun s => ⟨s⟩
    let q : TSyntax ``rcasesPatMed ← if last i then `(rcasesPatMed| ⟨$s,*⟩) else pure ⟨ps[i]![0]⟩
    `(tactic| obtain $q := $(z i))
   `(tacticSeq| refine $(mkIdent (.mkSimple s!"e{k}_{m}")) $e ?_; $c:tactic; rintro $r*; $[$o:tactic];*)
  `(tactic| first $[| $rows:tacticSeq]* | rcases $e:term with $p:rcasesPatMed)
 | `(tactic| refine ⟨$ts,*⟩) => do
  let ts := ts.getElems
  let n := ts.size
  unless 2 ≤ n && n ≤ 20 && ts.all fun t => (t.raw.reprint.getD "").length < 250 do Macro.throwUnsupported
  let h ← `(?_)
  let rows ← (spl n).toArray.mapM fun (k, m) => do
   let l := mkIdent (.mkSimple s!"i{k}_{m}")
   let bs := ts.extract 0 (k + m - 1)
   let r := ts.extract (k + m - 1) n
   let v ← `(⟨$r,*⟩)
   let as := bs.push (if r.size == 1 then r[0]! else v)
   let q := (bs.map fun _ => h).push h
   let w ← if r.size > 1 && k + m ≤ 3 && bs.all fun t => !(t.raw.reprint.getD "").contains '?' then `(tacticSeq| refine $l $bs* ?_; refine $v) else `(tacticSeq| fail)
   `(tacticSeq| (fail_if_success fail_if_success refine $l $q*); first | $w | refine $l $as*)
  `(tactic| first $[| $rows:tacticSeq]* | refine (⟨$ts,*⟩))
 | `(tactic| exact ⟨$ts,*⟩) => do
  unless ts.getElems.size ≥ 3 do Macro.throwUnsupported
  `(tactic| first | (refine ⟨$ts,*⟩; done) | exact (⟨$ts,*⟩))
 | `(tactic| rintro $ps*) => do
  let tu (p : TSyntax `rintroPat) := p.raw[0].getKind == ``rcasesPat.tuple && p.raw[0][1].getSepArgs.size > 1
  unless ps.any tu do Macro.throwUnsupported
  let t ← ps.mapM fun p => do
   if tu p then `(tactic| (intro zr_; obtain $(⟨mkNode ``rcasesPatMed #[mkNullNode #[p.raw[0]]]⟩):rcasesPatMed := zr_)) else `(tactic| rintro $p)
  `(tactic| ($[$t:tactic];*))
 | `(tactic| exists $t) => `(tactic| (have nd : List.Nodup ($t : List PySem.Str) := (by decide +kernel); refine F.ok (⟨rfl, rfl, rfl, nd, rfl, by decide +kernel, by decide +kernel⟩ : L2.nZ $t _ _) (fun vs H Q E h => ?_) (fun YX Ar outer s H vs Q E hr h => ?_); next => repeat first | (rcases h with ⟨rfl, _⟩; rfl) | rcases h with ⟨_, h⟩))
open Lean in
local macro_rules
 | `(command| def $n:declId $s:optDeclSig $v:declVal) => `(command| noncomputable def $n:declId $s:optDeclSig $v:declVal)
 | `(command| abbrev $n:declId $s:optDeclSig $v:declVal) => `(command| noncomputable abbrev $n:declId $s:optDeclSig $v:declVal)
open PySem renaming Addr->aa,Value->ac,wpAny_bind->ah,Shared->ai,wpAny->aq,wpAny_pure->aw,model->aB,Stmt->aH,Heap->aM,World->aQ,sizeLine->aU,Paired->aY,Expr->aZ,Program->ba,Around->bh,sizeLine_eq->bC,starEach->bP,SetTable->cb,Scope->dv,mainGlobals->dB,PyData->dP,FuncData->dX,cLine->fb,backTo->fq,cellsFrom->fP,boot_len->fU,compareOp->fY,wpAny_holding->gW,NameKind->gY,mem_of_lookup->hG,sysModules->ia,DictEntry->ig,Reads->ir,wpAny_mono->iH,wpAny_call_entry->iU,compEnvC->i_,wpAny_isInstance->jr,putSet_of->jz,binaryOp->jZ,pyNext->kg,wpAny_truthy_bool->kG,wpAny_askSetting->lA,setSearchFrom->lG,setEpoch->lP,codeAny->lV,Params->md,atKey->mn,CmpOp->mq,rule->mz,behindInMarks->m_,attributeBase->ng,isInstance->nD,swapsWith->nL,pushCells->nM,valueAt->n8,holding->n9,bindL->oC,bindC->oE,wpAny_Call_Name_kw->oX,wpAny_newObj_type->oZ,wpAny_forIn_list->o4,wpAny_passesOwn->o8,bootBuiltins->pz,sliceBounds->pH,keywordEach->pI,backToKw->pR,ReadsAll->pT,Keyword->p7,BindsTo->p8,rawInt->qp,pyIter->qr,wpAny_storeSet_of->qS,wpAny_dictEntries->qT,wpAny_specialOf->qW,isSubtype_type->rb,wpAny_typeOf->rD,setAddHashed->rE,codeAny_mono->rF,setsByText->rQ,tupleKind->rV,getMethod->rW,standAt->sD,notedBy->sE,hashInt->sG,getItem->sI,callerA->sJ,isTrue->sS,Model->s_,tupleKind_room_in1->tV,ofAClassStatement->tY,wpAny_dictEpoch->t_,call_meets->uL,assignEach->uM,scanBound->uW,entryFor->vk,callWith->vm,intKind->vG,assign->vT,argsOk->vU,wpAny_typeNameOfWhole_keyiter->wB,wpAny_typeNameOf_keyiter->wD,wpAny_callSpecial?_slot->wG,hashByValue_scannable->wJ,wpAny_pyIter_slot->wV,foldedSetIterable->wW,wpAny_execs_nil->xb,pushCells_keeps->xc,letOwnedTupleGo->xf,codeAny_builtin->xg,wpAny_fieldsOf->xt,firstArgMember->xu,entryFor_alias->xw,wpAny_attempt->xB,call_meetsIn->xM,subscripted->x0,hashByValue->x4,wpAny_rule->yj,setEntries->yk,pickOrder->yI,setMerge->zi,wpAny_setField_rec->BF,wpAny_setState_of->BQ,wpAny_pyIter_list->BR,wpAny_Call_method->BS,searchCouldBeSeen->BU,wpAny_pyHash_int->Cd,wpAny_ite_split->Cz,wpAny_seqItems->CT,Within->DT,wpAny_of_eq->Ep,wpAny_alloc->Er,wpAny_call->E1,wpAny_Name->E2,builtinsNs->E3,eqIsQuiet->FT,wpAny_isTrue_Compare1->LR,wpAny_isOneOf_keyiter->LS,builtinLookup_eq_fast->LU,wpAny_binaryOp_same->Ml,evalArgs_none->Mm,wpAny_pyIter_tuple->Ms,wpAny_assign_Name->ME,slot_list_getitem->MF,eqIsQuiet_byValue->MG,wpAny_execs_cons->M3,setDiscardHashed->M4,call->Rb
open Vanbkm renaming Note->ao,cellNo->ax,State->aP,now->a_,noteAt->bj,result->bm,isPosition->bB,step->bS,graph->b9,within->cP,between->da,Edit->ej,Call->eB,passesAt->eS,sift->eV,apply->fj,told->fC,tellEdit->gj,passes->gy,ofNat->gJ,span->gM,applyAll->gU,workings->iD,madeName->iV,halve->iX,results->ju,withOnly->jS,Answer->jU,related->kJ,putMoment->lB,differ->lH,tellResult->mQ,hasMoment->mT,shrink->ph,editNo->pi,start->pA,ofRes->pB,draws->pC,blame->pD,EDITS->pF,tell->pJ,between->pZ,touches->rf,flips->rG,CELLS->rH,resultAt->ua,edited->um,withOnly->vj,applyAll->vn,tellResults->wM,allWorkings->wN,tellDiffer->wX,resultIn->xi,upward->xC,first->xN,Note->x5,tellBisect->BV,touching->CA,tellPair->CB,allRuns->CU,guilty->Dt,Result->Du,doPut->OT,Edit->PP
open Vanbkg renaming Cell->az,find->b_,board->cD,Working->cG,resIn->dI,comesTo->gl,findI->hZ,placed->iW,truth->jx,entryOf->lE,inOrder->rg,twice->uq,Cell->uF,entriesBy->w8,startOf->CV,stops->DS,valueOf->NU
open PySem.W renaming Frag->aA,WData->eM,mg_of->eU,hashAt->gt,findIn->iE,nsIn->iY,keepIn->jT,fnOf->kM,emptyDict->ly,instObj->mW,WellAll->n_,codeIn->rh,callWith_K->tW,isFn->ur,plainGet->w9,lookIn->xy,plainGet_of->Bx,methodObj->BW,hasDictIn->BX,takerIn->CC,makesIn->CD,length_le_weightAllW->Lf,cellsFrom_some->LL,methodCall_KW->LV,kdu_collect->Mn,callWith_K0->Mo,specialIn->MJ,plainOver->MK,kdl_dict->M7,handedIn->M8,WRecords->M9,WalkOS->N0
open List renaming length_map->aE,mem_map->aK,mem_cons->aV,map_cons->bb,mem_cons_of_mem->bq,mem_cons_self->bA,length_append->bG,map_map->bH,mem_filter->bM,mem_append->bT,map_append->bV,mem_singleton->bY,size_toArray->b6,getElem?_map->cq,length_cons->cC,range->cI,length_take->cO,getElem?_eq_getElem->cR,mem_of_getElem?->cU,take_length->dz,take_succ->dA,pairwise_map->ff,any_eq_true->fg,map_congr_left->fS,nodup_cons->fT,length->fV,length_filter_le->gg,getElem?_eq_some_iff->gE,not_mem_nil->gG,length_drop->gH,nodup_append->hJ,mem_append_right->iB,Nodup->i5,flatMap_append->jq,filter_cons->js,append_nil->jt,mem_range->jv,take_append_drop->kD,getElem_of_mem->kE,length_range->kI,filterMap_append->lv,mem_append_left->lw,flatMap_cons->lz,cons_append->lC,map_take->lI,any_map->lL,perm_ext_iff_of_nodup->mH,eraseIdx_cons_succ->mI,contains_iff_mem->mJ,mem_of_mem_take->mK,filterMap_cons->mL,mem_filterMap->mO,filter_append->mP,filter_congr->mR,append_assoc->mS,all_eq_true->mU,filter_map->mX,nodup_nil->mZ,any_cons->nj,lookup->ny,length_erase_of_mem->oU,filter_eq_self->oW,lookup_cons->o6,foldl_cons->o_,take_of_length_le->qM,length_eraseIdx->qN,pairwise_cons->qQ,getElem?_drop->qR,length_nil->qY,find?_cons->qZ,drop_drop->rj,map_drop->rB,range'->rO,length_eq_zero_iff->tM,length_pos_of_mem->tO,mem_of_mem_drop->tT,find?_eq_none->tX,foldl_append->tZ,getElem_mem->t9,range_succ->ub,replicate->ui,map_nil->uw,mem_of_find?_eq_some->wC,length_filterMap_le->wE,getElem?_cons_zero->wH,erase_cons_tail->wL,zip_cons_cons->wQ,mem_eraseDups->wR,map_inj_right->wS,getElem?_take->wT,mem_flatMap->w_,nil_append->xm,find?_some->xn,sum_cons->xF,all_cons->xG,getD_eq_getElem?_getD->A3,exists_cons_of_ne_nil->A4,filterMap_cons_some->A7,getElem?_cons_succ->A',range_succ_eq_map->Be,getElem?_set_self->Bf,find?_cons_of_neg->Bg,getElem?_eq_none->Bj,eraseIdx_sublist->Bk,concat_eq_append->Bl,mem_erase_of_ne->Bn,getElem?_set_ne->Bo,getElem?_of_mem->Bp,take_sublist->B0,mem_range'_1->B1,any_eq_false->B2,nodup_range->Cf,flatMap_map->Cg,of_mem_zip->CF,head?_drop->CG,map_id'->DX,map->Hw,mem_eraseIdx_iff_getElem->Ld,getElem?_append_right->Lm,pairwise_iff_getElem->Lu,getElem?_zip_eq_some->Lv,getElem?_append_left->Lw,filter_cons_of_neg->LH,sublist_cons_self->LN,pairwise_lt_range->LO,length_eq_one_iff->LP,find?_cons_of_pos->LQ,mem_of_mem_erase->LZ,getElem?_toArray->L5,erase_of_not_mem->L6,range_eq_range'->Mc,range'_append_1->Md,pairwise_append->Me,erase_cons_head->Mf,length_range'->Mx,filter_filter->My,filterMap_map->Mz,getElem_take->ML,getElem_drop->MM,find?_append->MN,drop_sublist->MO,range'_succ->Nh,take_left->N1,forIn_nil->N2,all_map->O0
open Nat renaming le_refl->aT,ne_of_lt->cx,le_trans->cV,zero_le->dJ,lt_of_lt_of_le->gh,lt_irrefl->gI,mul_assoc->jw,pow_succ->lK,mod_lt->nH,lt_succ_of_lt->o0,min_eq_left->o9,succ_pos->rJ,lt_succ_self->t8,zero_add->uu,le_of_eq->uv,pow_add->uG,add_sub_cancel->wP,le_of_succ_le->wZ,not_lt_zero->xl,ne_of_gt->xP,one_mul->x9,mul_mod->x_,le_succ->ya,lt_of_le_of_lt->BH,lt_trichotomy->BZ,mul_comm->DU,lt_trans->DV,le_of_lt->DW,mul_add->Eu,mod_mul->Ev,add_mul_mod_self_left->Ls,mul_mul_mul_comm->Mb,mod_eq_of_lt->Nc,max_eq_right->Nd,le_of_not_lt->Nf,div_eq_of_lt->Ng,two_pow_pos->Nv,strongRecOn->Nw,max_eq_left->Ny,succ_add->OX,sub_zero->OY,sub_self->OZ
open Ne renaming symm->aX
open Array renaming length_toList->bz,getElem?_eq_getElem->dS,getElem?_toList->fw,size_map->fB,getElem?_eq_some_iff->kz,mem_toList_iff->lx,forIn_toList->oY,toList_map->o7,getElem?_eq_none->tP,getElem_toList->tU,getElem_mem->w6,size_push->xp,toArray_toList->Br,replicate->CI,toList->D0,getD->E8,ext'->E9,mem_of_getElem?->L8,toList_extract->Mh,getElem_of_mem->Mi,getElem?_map->MA
open PySem.Heap renaming lt_size->bK,get?_push_of_some->cS,SameBut->cW,get?_push_size->cZ,size_push->iF,get?_update_self->oV
open Bool renaming false_eq_true->bO,false_ne_true->dF,eq_iff_iff->fh,not_true->fO,and_eq_true->hU,noConfusion->iC,not_false->kK,false_and->lF,or_eq_true->q_,false_or->xH,not_eq_true'->B5,not_eq_false->B6,and_false->C0,true_or->DZ,and_eq_true_iff->Mg,eq_false_iff->MR,true_and->Ox,and_comm->Oy,not_and->O1,not_or->P2
open Sum renaming inl->bQ,inr->p0
open PySem.Value renaming ref->cv,int->i8,none->jy,type->jX,bool->nE,str->uX,notImplemented->Ma,isInt_shape->MI,isStrOf->Op,isInt->PR,float->PU,bytes->PV
open PySem.SetTable renaming insertAt->cy,bits->cY,eraseAt->dC,runEnd->fI,below->fJ,leap->fR,Probe->iL,turns->kT,grown->kU,fill->nh,toList_insertAt->oT,below->uh,sizeAbove->yH,insertAt_perm->Bd,fresh->CY,fits->Dx,tooFull->M5,gaveWay->M6,road->Oq,drop->Ot
open Int renaming toNat_natCast->c_,toNat->pL,toNat_of_nonneg->Mp,natCast_emod->Ni
open PySem.PassesOwn renaming never->dG
open PySem.Paired renaming length->dH,snoc->PY
open Option renaming map_eq_some_iff->dU,isSome_some->wO,map_some->xk,isSome_map->BY,some->Et,isSome_iff_exists->Lz,isSome_none->Mv,getD_some->M_,getD_none->Na,none->PZ
open PySem.F renaming plainAttrs_list->fe,type_list_append->jo,slot_list_append->jp,slot_list_extend->kC,type_list_extend->lu,called_set->mN,slot_dict_keyiterator_next->qL,slot_tuple_hash->t7,plainAttrs_dict->A_,slot_dict_get->Bi,args_dict_keyiterator_next_1->Lb,entry_dict_keyiterator_next->Le,slot_dict_setdefault->Lg,slot_dict_keyiterator_iter->Lh,slot_list_remove->Ly,args_dict_get_3->LG,entry_dict_get->LM,slot_set_iter->LW,slot_dict_pop->LX,plain_set_new->LY,slot_dict_items->MQ,slot_dict_iter->Nl,slot_set_sub->N3
open PyVanbkm renaming shape->fA,answers->Ce,whole->CZ,answers_asked->LK,calls->NZ
open PySem.Obj renaming putSet->fW,mapSeq->E7,data_mapFields->Mw,mapFields->Ow
open Vanbkb renaming from_->f_,taken->gK,Graph->g9,wider->mj,makersOf->mV,sources->pc,sorted->pj,ready->pG,upFrom->qm,makerOf->ug,sickness->xj,insert->xD,sick->x6,states->Dv,sicknesses->MH,stateIn->NV,numbers->NW,circled->NX,order->OU,clear->OV,Cell->PQ
open Option.some renaming inj->gk,injEq->wY
open Sum.inl renaming inj->gz
open False renaming elim->gO
open PySem.PyData renaming eqv->ib,canLay0->mY,eqvAll->ni,int->nG,canLayAll0->qU,depthAll->qX,depth->ut
open PySem.SeqAt renaming shaped->iG,EqAt->Ra
open Or renaming inr->iK,inl->me
open PyFlat renaming calls->jV,call->rN,rows->x8,told->Es,row->E6,played->Ov
open PyProof.Rows renaming IntsAre->ka,envOfC->ma,boot_list->nN,AllBare->p9,seqObj->qo,boot_set->si,boot_any->sj,boot_sorted->uE,firstMet->zj,isInt->BG,subscriptTail->Ds,Constant_none->Dz,Subscript_->E5,callWith_type1->Lj,subscriptTail_builtinR->LJ
open PySem.Builtin.Frozenset renaming isAnySet->kF,unchanged->qO,updateFrom->tJ,isAnySet->A5,copyOf->Ch,sizeOf->LF,sizeOf->Nj,baseOf->Nk,newClass->Xa
open PySem.SetTable.probe renaming go->lQ,go->Xq
open PySem.Heap.SameBut renaming update->mM,refl->qV
open True renaming intro->nF
open PySem.Builtin.Tuple renaming tupleHashOf->oR,tupleItemsOf->W_
open VanbkmNeutral renaming step->qP,whole60->tQ,encode->wK,asked1->L_,callOf->Xl,asked->Xn
open PySem.NameKind renaming free->rq,cell->Dy
open PySem.W.Codec renaming encAll->rK,app->uY,denoteAll->xo,withinAll->Nz
open Classical renaming byContradiction->tK
open PySem.Builtin.List renaming listTooLong->tL,listLengthHint->Lk,listExtendWith->Ll
open ForInStep renaming yield->ue
open PySem.SetTable.layClean renaming free->ul
open PySem.Calls renaming callWith_builtin->wI,spliced_cons->wU,evalArgs_plain->Bq,spliced_nil->B4,Name_function_global->Lr,call_function_entry->Lx
open PySem.W.WData renaming weightAll->xh
open PySem.SetFound renaming there->xx
open PySem.Shared renaming TypeIs->xE
open PySem.Str renaming ofString->xO
open PySem.SetTable.below renaming go->zk
open PySem.Data renaming seq->zm
open PyProof.Rows.F renaming plain_set_update_loop->A2,entry_set_update_loop->K'
open PySem.Around renaming under_plainId->Bs,under->D1
open List.Perm renaming length_eq->By
open List.Sublist renaming refl->B3,append_left->LD
open List.cons renaming injEq->CH
open PySem.pickOrder renaming go->DR
open PySem.Code renaming isFrame->DY,frames->P0
open PySem.Walks renaming list->E4
open Vanbkg.Res renaming value->FU
open Prod renaming snd->Hv
open PySem.Challenge renaming rw_cellmoments_s01_answers->K_,pw_cellmoments_s01_answers->W8
open PySem.Builtin.Dict_items renaming ownsTuple->Li
open PySem.Builtin.Range renaming rangeSize->LI
open PySem.Builtin.Dict renaming showsAll->L7
open PySem.SeqAt.EqAt renaming str_int->Mt,int_str->Mu
open List.Pairwise renaming nil->MP,imp_of_mem->Xj
open PySem.Value.type renaming inj->NY
open PySem.ReadsAll renaming cons->Ou,nil->OW
open PySem.SetTable.sizeAbove renaming go->OS
open PySem.Reads renaming tuple->PX
open PySem.CmpOp renaming NotIn->P1
open PUnit renaming unit->Rc
open Std.Legacy.Range renaming forIn_eq_forIn_range'->W9,size->Xk
open PySem.EqMixed renaming ne_str_bool->Xb,ne_bool_str->Xc,eq_str_bool->Xd,eq_bool_str->Xe,ne_str_int->Xf,ne_int_str->Xg,eq_str_int->Xh,eq_int_str->Xi
open PySem.MeetsSeq.EqGives renaming int->Xm
open PySem.W.Looks renaming here->Xo
open PySem.Heap.IsSliceOf renaming new->Xp
open Vanbkm(editNo noteAt)
open Vanbkg(Res Entry)
open Vanbkb(above)
namespace L2
open PySem PySem.Spec PyProof.Rows
abbrev aJ:=Sum Int Str
def kS:aJ->ac->Bool
 | .inl k,v=>PR k v
 | .inr x,v=>Op x v
def WP(w:aQ):aJ->Int
 | .inl k=>sG k
 | .inr x=>hashStr w x
theorem jW:∀{k:aJ}{v:ac},kS k v=true->(∃i t,k=bQ i/\v=i8 i t)\/(∃x t,k=p0 x/\v=uX x t)
 | .inl i,v,h=>by obtain⟨t,e⟩:=MI (k:=i) (v:=v) h;exact .inl ⟨i,t,rfl,e⟩
 | .inr x,v,h=>by obtain⟨t,e⟩:=Value.isStrOf_shape (x:=x) (v:=v) h;exact .inr ⟨x,t,rfl,e⟩
theorem RP(i:Int)(t:Tok):kS (.inl i) (.int i t)=true:=by simp[kS,PR]
theorem RO(x:Str)(t:Tok):kS (.inr x) (.str x t)=true:=by simp[kS,Op]
theorem V6(a b:Int):decide ((bQ a:aJ)=bQ b)=(a==b):=by
 by_cases e:a=b
 .subst e;simp
 .have h:¬(bQ a:aJ)=bQ b:=λq=>e (gz q);rw[decide_eq_false h];exact(beq_eq_false_iff_ne.mpr e).symm
theorem V3(a b:Str):decide ((p0 a:aJ)=p0 b)=decide (a=b):=by
 by_cases e:a=b
 .subst e;simp
 .have h:¬(p0 a:aJ)=p0 b:=λq=>e (Sum.inr.inj q);rw[decide_eq_false h,decide_eq_false e]
theorem V5(a:Int)(b:Str):decide ((bQ a:aJ)=p0 b)=false:=decide_eq_false (λq=>nomatch q)
theorem V4(a:Str)(b:Int):decide ((p0 a:aJ)=bQ b)=false:=decide_eq_false (λq=>nomatch q)
def dN(prog:ba)(w:aQ):PySem.KeyKind prog w aJ where
 is:=kS
 hash:=WP w
 inj:=λv a b ha hb=>by
  rcases jW ha with⟨i,t,rfl,rfl⟩|⟨x,t,rfl,rfl⟩
  .rcases jW hb with⟨j,u,rfl,e⟩|⟨y,u,rfl,e⟩
   .injection e with e1 _;rw[e1]
   .exact nomatch e
  .rcases jW hb with⟨j,u,rfl,e⟩|⟨y,u,rfl,e⟩
   .exact nomatch e
   .injection e with e1 _;rw[e1]
 byValue:=λk v h=>by rcases jW h with⟨i,t,rfl,rfl⟩|⟨x,t,rfl,rfl⟩<;>rfl
 pyHash:=λhv h=>by
  rcases jW hv with⟨i,t,rfl,rfl⟩|⟨x,t,rfl,rfl⟩
  .exact Cd h
  .exact wpAny_pyHash_str h
 eqBool:=λhu hv h=>by
  rcases jW hu with⟨i,t,rfl,rfl⟩|⟨x,t,rfl,rfl⟩
  .rcases jW hv with⟨j,u,rfl,rfl⟩|⟨y,u,rfl,rfl⟩
   .rw[V6]at h;exact wpAny_eqBool_int h
   .rw[V5]at h;exact Mu i t y u _ _ _ _ h
  .rcases jW hv with⟨j,u,rfl,rfl⟩|⟨y,u,rfl,rfl⟩
   .rw[V4]at h;exact Mt x t j u _ _ _ _ h
   .rw[V3]at h;exact wpAny_eqBool_str h
 «strs»:=λk x t v h=>by
  rcases jW h with⟨i,u,rfl,e⟩|⟨y,u,rfl,e⟩
  .exact nomatch e
  .injection e with e1 _;subst e1;cases v<;>rfl
theorem Px(prog:ba)(w:aQ)(i:Int)(t:Tok):(dN prog w).is (.inl i) (.int i t)=true:=RP i t
theorem Pw(prog:ba)(w:aQ)(x:Str)(t:Tok):(dN prog w).is (.inr x) (.str x t)=true:=RO x t
inductive V where
 |non|bl (b:Bool)|int (i:Int)|str (x:Str)|byt (b:Array UInt8)|flt (b:UInt64)|ref (a:aa)|ty (n:String)
 deriving DecidableEq
def RelV:V->ac->Prop
 | .non,u=>u=jy
 | .bl b,u=>u=nE b
 | .int i,u=>∃t,u=i8 i t
 | .str x,u=>∃t,u=uX x t
 | .byt b,u=>∃t,u=PV b t
 | .flt b,u=>∃t,u=PU b t
 | .ref a,u=>u=cv a
 | .ty n,u=>u=jX n
abbrev aR:List V->List ac->Prop:=aY RelV
theorem aR.length{xs:List V}{us:List ac}(r:aR xs us):xs.length=us.length:=dH r
theorem aR.get:∀{xs:List V}{us:List ac}{i:Nat}{x:V},aR xs us->xs[i]? =some x->∃u,us[i]? =some u/\RelV x u
 |_,_,_,_,.nil,e=>by simp at e
 |_,_,0,_,.cons r _,e=>by simp at e;subst e;exact⟨_,rfl,r⟩
 |_,_,i+1,x,.cons _ t,e=>by obtain⟨u,h1,h2⟩:=aR.get (i:=i) (x:=x) t (by simpa using e);exact⟨u,by simpa using h1,h2⟩
theorem aR.append:∀{xs ys:List V}{us ws:List ac},aR xs us->aR ys ws->aR (xs++ys) (us++ws)
 |_,_,_,_,.nil,s=>s
 |_,_,_,_,.cons r t,s=> .cons r (aR.append t s)
theorem aR.take:∀{xs:List V}{us:List ac}(n:Nat),aR xs us->aR (xs.take n) (us.take n)
 |_,_,0,_=> .nil
 |_,_,_+1,.nil=> .nil
 |_,_,n+1,.cons r t=> .cons r (aR.take n t)
theorem aR.drop:∀{xs:List V}{us:List ac}(n:Nat),aR xs us->aR (xs.drop n) (us.drop n)
 |_,_,0,r=>r
 |_,_,_+1,.nil=> .nil
 |_,_,n+1,.cons _ t=>aR.drop n t
def gd:Option V->Option ac->Prop
 |some v,some u=>RelV v u
 |none,none=>True
 |_,_=>False
def KV{κ:Type}:List (κ×V)->List (κ×ac)->Prop:=aY λ(p:κ×V)(q:κ×ac)=>p.1=q.1/\RelV p.2 q.2
def kV:aJ->V
 | .inl i=> .int i
 | .inr x=> .str x
inductive HO where
  |lst (xs:List V)
  |tup (xs:List V)
  |dK (Yy:List (aJ×V))|dT (Yy:List (List aJ×V))
  |set (S:Int->Bool) (n:Nat)
  |ins (C dx:aa) (fs:List (Str×V))
  |own (x:aa)
  |xd (fs:List (Str×V))
  |met (f x:aa)
  |rng (lo hi:Int)
  |frz (o:Obj) (u:HO)
  |tbl (ps:Array ac)
  |ext (φ:aM->Prop)
abbrev Hp:=aa->Option HO
def upd(H:Hp)(a:aa)(o:HO):Hp:=λb=>if b=a then some o else H b
theorem am{H:Hp}{a:aa}{o:HO}:upd H a o a=some o:=by unfold upd;rw[if_pos rfl]
theorem aj{H:Hp}{a b:aa}{o:HO}(h:b≠a):upd H a o b=H b:=by unfold upd;rw[if_neg h]
theorem vo{H:Hp}{a:aa}{o u:HO}:upd (upd H a o) a u=upd H a u:=by funext b;unfold upd;split<;>rfl
theorem bx{H:Hp}{a b:aa}{o u:HO}(h:H a=some o)(h':H b=some u)(d:o≠u):a≠b:=by intro e;subst e;rw[h]at h';exact d (gk h')
theorem aG{H:Hp}{a b:aa}{o:HO}(h:H a=some o)(h':H b=none):a≠b:=by intro e;subst e;rw[h]at h';cases h'
section
variable(P:ba)(w:aQ)
def di(H:Hp)(h:aM)(a:aa):HO->Prop
 | .lst xs=>xs.length<=aU/\∃(YA:List ac)(n:Nat),aR xs YA/\h.get? a=some {cls:= .type "list",data:= .seq YA.toArray n}
 | .tup xs=>xs.length<=aU/\∃YA:List ac,aR xs YA/\IsTup h a YA.toArray
 | .dK Yy=>Yy.length<=aU/\(a==ia)=false/\∃vs,KV Yy vs/\h.DictOf (dN P w) a vs
 | .dT Yy=>Yy.length<=aU/\(a==ia)=false/\∃xs:List (List aJ×aa×ac),
   aY (λ(p:List aJ×V)(q:List aJ×aa×ac)=>p.1=q.1/\H q.2.1=some (.tup (p.1.map kV))/\RelV p.2 q.2.2) Yy xs/\
   ∃o es ep,h.get? a=some o/\o.ExactDict/\o.data= .dict es ep/\es.toList=xs.map (entryOfKey (rV (dN P w)))/\(xs.map (·.1)).Nodup
 | .set S n=>h.SetOf (vG P w) a S n
 | .ins C dx fs=>H dx=some (.own a)/\fs.length<=1000/\dx≠a/\h.get? a=some (mW C dx)/\
   ∃mA,h.Ns1 dx mA/\(∀f,gd (fs.lookup f) (mA f))/\DT mA (fs.map (·.1))
 | .own _=>∃o,h.get? a=some o
 | .xd fs=>∃mA,h.Ns1 a mA/\∀f,gd (fs.lookup f) (mA f)
 | .rng lo hi=>∃t u v,h.get? a=some {cls:= .type "range",data:= .fields #[.int lo t,.int hi u,.int 1 v]}
 | .frz o u=>h.get? a=some o/\di H h a u
 | .tbl ps=>h.get? a=some {cls:= .none,data:= .fields ps}
 | .met f x=>h.get? a=some (BW (.ref f) (.ref x))
 | .ext φ=>φ h/\(∃o,h.get? a=some o)/\∀h1 h2:aM,φ h1->(∀o,h1.get? a=some o->h2.get? a=some o)->φ h2
def cz(H:Hp)(h:aM):Prop:=∀a o,H a=some o->di P w H h a o
end
section
variable{P:ba}{w:aQ}{H H':Hp}{h h':aM}{a:aa}{o:HO}{f:aa}{fd:dX}
theorem di.lt(x:di P w H h a o):a<h.objs.size:=by
 cases o with
 |lst xs=>obtain⟨_,_,_,_,e⟩:=x;exact bK e
 |tup xs=>obtain⟨_,_,_,p⟩:=x;exact p.lt
 |dK Yy=>obtain⟨_,_,_,_,o,_,_,e,_⟩:=x;exact bK e
 |dT Yy=>obtain⟨_,_,_,_,o,_,_,e,_⟩:=x;exact bK e
 |set S n=>obtain⟨o,_,_,_,e,_⟩:=x;exact bK e
 |ins C dx fs=>obtain⟨_,_,_,e,_⟩:=x;exact bK e
 |own y=>obtain⟨_,e⟩:=x;exact bK e
 |xd fs=>obtain⟨_,⟨_,_,_,e,_⟩,_⟩:=x;exact bK e
 |rng lo hi=>obtain⟨_,_,_,e⟩:=x;exact bK e
 |frz ob u=>obtain⟨e,_⟩:=x;exact bK e
 |tbl ps=>exact bK (show h.get? a=some _ from x)
 |met f y=>exact bK (show h.get? a=some _ from x)
 |ext φ=>obtain⟨_,⟨_,e⟩,_⟩:=x;exact bK e
theorem aY.mapP{α β:Type}{F G:α->β->Prop}:∀{aaZ:List α}{aaY:List β},aY F aaZ aaY->(∀a b,F a b->G a b)->aY G aaZ aaY
 |_,_,.nil,_=> .nil
 |_,_,.cons r t,f=> .cons (f _ _ r) (aY.mapP t f)
theorem di.stay(x:di P w H h a o)(k:∀b u,(b=a\/H b=some (.own a))->h.get? b=some u->h'.get? b=some u)
  (ho:∀b,H b=some (.own a)->H' b=some (.own a))(ht:∀b xs,H b=some (.tup xs)->H' b=some (.tup xs)):di P w H' h' a o:=by
 induction o with
 |lst xs=>obtain⟨z,YA,n,r,e⟩:=x;exact⟨z,YA,n,r,k _ _ (.inl rfl) e⟩
 |tup xs=>obtain⟨z,YA,r,ob,e,c⟩:=x;exact⟨z,YA,r,ob,k _ _ (.inl rfl) e,c⟩
 |dK Yy=>obtain⟨z,y,vs,r,ob,es,ep,e,c⟩:=x;exact⟨z,y,vs,r,ob,es,ep,k _ _ (.inl rfl) e,c⟩
 |dT Yy=>obtain⟨z,y,xs,r,ob,es,ep,e,c⟩:=x;exact⟨z,y,xs,aY.mapP r λp q z=>⟨z.1,ht _ _ z.2.1,z.2.2⟩,ob,es,ep,k _ _ (.inl rfl) e,c⟩
 |set S n=>obtain⟨ob,es,ep,t,e,c⟩:=x;exact⟨ob,es,ep,t,k _ _ (.inl rfl) e,c⟩
 |ins C dx fs=>obtain⟨d,z,ne,e,mA,⟨od,es,ep,e2,c⟩,r⟩:=x;exact⟨ho _ d,z,ne,k _ _ (.inl rfl) e,mA,⟨od,es,ep,k _ _ (.inr d) e2,c⟩,r⟩
 |own y=>obtain⟨ob,e⟩:=x;exact⟨ob,k _ _ (.inl rfl) e⟩
 |xd fs=>obtain⟨mA,⟨od,es,ep,e,c⟩,r⟩:=x;exact⟨mA,⟨od,es,ep,k _ _ (.inl rfl) e,c⟩,r⟩
 |rng lo hi=>obtain⟨t,u,v,e⟩:=x;exact⟨t,u,v,k _ _ (.inl rfl) e⟩
 |frz ob u ih=>obtain⟨e,q⟩:=x;exact⟨k _ _ (.inl rfl) e,ih q⟩
 |tbl ps=>have e:h.get? a=some {cls:= .none,data:= .fields ps}:=x;show h'.get? a=some {cls:= .none,data:= .fields ps};exact k a _ (.inl rfl) e
 |met f y=>have e:h.get? a=some (BW (.ref f) (.ref y)):=x;show h'.get? a=some (BW (.ref f) (.ref y));exact k a _ (.inl rfl) e
 |ext φ=>obtain⟨p,⟨o,e⟩,st⟩:=x;exact⟨st _ _ p λo q=>k _ _ (.inl rfl) q,⟨o,k _ _ (.inl rfl) e⟩,st⟩
theorem cz.lt(x:cz P w H h)(e:H a=some o):a<h.objs.size:=(x a o e).lt
theorem cz.fresh(x:cz P w H h)(e:h.objs.size<=a):H a=none:=by
 cases q:H a with
 |none=>rfl
 |some u=>exact absurd (gh (x.lt q) e) (gI _)
theorem cz.kept(x:cz P w H h)(k:∀b u,h.get? b=some u->h'.get? b=some u):cz P w H h':=λa o e=>
 (x a o e).stay (λb u _ q=>k b u q) (λ_ q=>q) λ_ _ q=>q
theorem cz.laid(x:cz P w H h)(k:∀b u,h.get? b=some u->h'.get? b=some u)(hp:h.objs.size<=a)(new:di P w (upd H a o) h' a o):cz P w (upd H a o) h':=λb u e=>by
 have hn:=x.fresh hp;by_cases hb:b=a
 .subst hb;rw[am]at e;cases e;exact new
 .rw[aj hb]at e;exact(x b u e).stay (λc v _ q=>k c v q) (λc q=>by rw[aj (aG q hn)];exact q) λc xs q=>by rw[aj (aG q hn)];exact q
end
def Rd(H:Hp)(a:aa)(u:HO):Prop:=H a=some u\/∃o,H a=some (.frz o u)
theorem Rd.ok{P:ba}{w:aQ}{H:Hp}{h:aM}{a:aa}{u:HO}(r:Rd H a u)(x:cz P w H h):di P w H h a u:=by
 rcases r with r|⟨o,r⟩
 .exact x a u r
 .obtain⟨_,q⟩:=x a _ r;exact q
def jQ:Option HO->Prop
 |some (.lst _)=>True
 |some (.dK _)=>True
 |some (.dT _)=>True
 |some (.set _ _)=>True
 |some (.ins _ _ _)=>True
 |some (.ext _)=>True
 |_=>False
section
variable{P:ba}{w:aQ}{H:Hp}{h h':aM}{x e:aa}{o':HO}{f:aa}{fd:dX}
theorem cz.write(ok:cz P w H h)(mu:jQ (H x))(he:e=x\/H e=some (.own x))(k:∀b u,b≠e->h.get? b=some u->h'.get? b=some u)(heo:∃u,h'.get? e=some u)
  (new:di P w (upd H x o') h' x o'):cz P w (upd H x o') h':=λb u q=>by
 have aga:∀c y,H c=some (.own y)->c≠x:=λc y r z=>by subst z;rw[r]at mu;exact mu
 have ai1:∀c xs,H c=some (.tup xs)->c≠x:=λc xs r z=>by subst z;rw[r]at mu;exact mu
 by_cases hb:b=x
 .subst hb;rw[am]at q;cases q;exact new
 .rw[aj hb]at q;by_cases hbe:b=e
  .have q':H b=some (.own x):=by
    rcases he with z|z
    .exact absurd (hbe.trans z) hb
    .rw[hbe];exact z
   rw[q]at q';cases q';obtain⟨v,hv⟩:=heo;exact⟨v,by rw[hbe];exact hv⟩
  .refine(ok b u q).stay (λc v hc r=>k c v ?_ r) (λc r=>by rw[aj (aga c b r)];exact r) λc xs r=>by rw[aj (ai1 c xs r)];exact r
   rcases hc with rfl|hc
   .exact hbe
   .rintro rfl;rcases he with z|z
    .exact aga c b hc z
    .rw[hc]at z;cases z;exact hb rfl
end
structure Un(fs ex:List aa)(H H':Hp)(h h':aM):Prop where
 keep:∀b o,h.get? b=some o->H b=none->b∉fs->b∉ex->h'.get? b=some o
 slot:∀b o,h.get? b=some o->H b=none->b∈fs->b∉ex->∃sl,h'.get? b=some {o with slots:=sl}
 free:∀b o,h.get? b=some o->H b=none->b∉ex->H' b=none
 there:∀b o,h.get? b=some o->b∉ex->∃o',h'.get? b=some o'
 tups:∀b xs,H b=some (.tup xs)->H' b=some (.tup xs)
 frzs:∀b o u,H b=some (.frz o u)->H' b=some (.frz o u)
 tbls:∀b ps,H b=some (.tbl ps)->∃more,H' b=some (.tbl (ps++more))
section
variable{fs fs' ex ex':List aa}{H H1 H2:Hp}{h h1 h2 h':aM}{a x e:aa}{o:HO}
theorem Un.any(u:Un fs ex H H1 h h1){b:aa}{ob:Obj}(q:h.get? b=some ob)(n:H b=none)(hx:b∉ex):∃sl,h1.get? b=some {ob with slots:=sl}:=by
 by_cases hb:b∈fs
 .exact u.slot b ob q n hb hx
 .exact⟨ob.slots,u.keep b ob q n hb hx⟩
theorem Un.kept(k:∀b u,h.get? b=some u->h'.get? b=some u):Un fs ex H H h h':=
 ⟨λb ob q _ _ _=>k b ob q,λb ob q _ _ _=>⟨ob.slots,k b ob q⟩,λ_ _ _ n _=>n,λb ob q _=>⟨ob,k b ob q⟩,λ_ _ q=>q,λ_ _ _ q=>q,λ_ ps q=>⟨#[],by rw[q];simp⟩⟩
theorem Un.refl:Un fs ex H H h h:=Un.kept λ_ _ q=>q
theorem Un.laid(k:∀b u,h.get? b=some u->h'.get? b=some u)(hp:h.objs.size<=a)(hn:H a=none):Un fs ex H (upd H a o) h h' where
 keep:=λb u q _ _ _=>k b u q
 slot:=λb u q _ _ _=>⟨u.slots,k b u q⟩
 free:=λb u q n _=>by rw[aj (cx (gh (bK q) hp))];exact n
 there:=λb u q _=>⟨u,k b u q⟩
 tups:=λb xs q=>by rw[aj (aG q hn)];exact q
 frzs:=λb u xs q=>by rw[aj (aG q hn)];exact q
 tbls:=λb ps q=>⟨#[],by rw[aj (aG q hn),q];simp⟩
theorem Un.write(mu:jQ (H x))(he:e=x\/H e=some (.own x))(k:∀b u,b≠e->h.get? b=some u->h'.get? b=some u)(heo:∃u,h'.get? e=some u):Un fs ex H (upd H x o) h h':=by
 have hx:∀b,H b=none->b≠x:=λb n z=>by subst z;rw[n]at mu;exact mu
 have hb:∀b,H b=none->b≠e:=λb n z=>by
  subst z;rcases he with r|r
  .exact hx b n r
  .rw[n]at r;cases r
 have hm:∀b u,H b=some u->¬jQ (some u)->b≠x:=λb u q nm z=>by subst z;rw[q]at mu;exact nm mu
 refine⟨λb u q n _ _=>k b u (hb b n) q,λb u q n _ _=>⟨u.slots,k b u (hb b n) q⟩,λb u q n _=>by rw[aj (hx b n)];exact n,λb u q _=>?_,
  λb xs q=>by rw[aj (hm b _ q λz=>z)];exact q,λb u xs q=>by rw[aj (hm b _ q λz=>z)];exact q,λb ps q=>⟨#[],by rw[aj (hm b _ q λz=>z),q];simp⟩⟩
 by_cases hbe:b=e
 .subst hbe;exact heo
 .exact⟨u,k b u hbe q⟩
end
def wq(h:aM)(H:Hp):List aa:=(cI h.objs.size).filter λa=>(H a).isSome
def kZ(h:aM)(H:Hp):aM:=PySem.W.hideAll h (wq h H)
theorem RS(h:aM)(H:Hp):(kZ h H).objs.size=h.objs.size:=PySem.W.hideAll_size _ _
theorem Tb{h:aM}{H:Hp}{b:aa}{o:Obj}(e:h.get? b=some o)(n:H b=none):(kZ h H).get? b=some o:=
 PySem.W.hideAll_get _ e λhm=>by have q:(H b).isSome=true:=(bM.mp hm).2;rw[n]at q;simp at q
theorem UQ{h:aM}{H:Hp}{b:aa}{o:Obj}(e:(kZ h H).get? b=some o):h.get? b=some o/\H b=none:=by
 have e':h.get? b=some o:=PySem.W.of_hideAll (wq h H) e;refine⟨e',?_⟩;cases q:H b with
 |none=>rfl
 |some x=>have hm:b∈wq h H:=bM.mpr ⟨jv.mpr (bK e'),by simp[q]⟩;have z:(kZ h H).get? b=none:=PySem.W.hideAll_none (wq h H) hm;rw[z]at e;cases e
structure Mod(K:aA)(mg:Str->Option ac)(Yx:aM):Prop where
 kin:K.In Yx
 glob:Yx.Ns dB mg
 blt:∃mb,Yx.Ns E3 mb/\∀x:Str,x≠"__name__"->mb x=pz x
 nolimit:Yx.NoLimit
structure Cx where
 prog:ba
 w:aQ
 K:aA
 mg:Str->Option ac
 Yx:aM
 A:bh
 N:List Str
 s_0:ai
 H_0:Hp
 env:Env
 outer:List Env
 stack:List Env
 ex:List aa
 fn:Str->Bool
 calm:Bool
 pn:List (aa×Obj)
 xe:ac->ai->Prop
def jP(l:List Env):List aa:=l.filterMap (·.frame)
abbrev Cx.fs(X:Cx):List aa:=jP X.outer
def qJ(sc:dv)(x:Str):Prop:=sc.names.lookup x=some .local\/sc.names.lookup x=some .cell\/sc.names.lookup x=some .free
def Loc(sc:dv)(x:Str):Prop:=sc.names.lookup x=some .local\/sc.names.lookup x=some .cell
def Look(env:Env)(h:aM)(m:Str->Option ac)(x:Str)(u:ac):Prop:=
 (env.kindOf x=some .local/\m x=some u)\/((env.kindOf x=some .cell\/env.kindOf x=some .free)/\∃c,env.cells.lookup x=some c/\h.IsCell c (some u))
structure Cx.Ok(X:Cx):Prop where
 mod:Mod X.K X.mg X.Yx
 kind:X.env.scope.kind= .function
 glob:X.env.globals=dB
 blt:X.env.builtins=E3
 above:X.s_0.heap.objs.size<=X.env.locals
 inj:∀x y c,X.env.cells.lookup x=some c->X.env.cells.lookup y=some c->x=y
 has:∀x,(X.env.kindOf x=some .cell\/X.env.kindOf x=some .free)->∃c,X.env.cells.lookup x=some c
 cab:∀x c,X.fn x=true->X.env.cells.lookup x=some c->X.s_0.heap.objs.size<=c
 hd:X.calm=true->X.A.handled=none
 frames:X.A.frames=some X.stack
 stk:X.stack=X.outer\/(X.stack=X.env::X.outer/\X.env.frame=some X.env.locals)
 exf:∀b∈X.ex,b≠X.env.locals/\∀x c,X.env.cells.lookup x=some c->c≠b
 bs:∀b o,X.Yx.get? b=some o->X.s_0.heap.get? b=some o/\X.H_0 b=none
 bsz:X.Yx.objs.size<=X.s_0.heap.objs.size
 ac_:∀b o,X.Yx.get? b=some o->b∉X.ex
 acP:∀b∈X.ex,b∉X.fs
 funs:X.s_0.heap.FunFrames X.Yx X.outer
 frf:∀b∈X.fs,X.H_0 b=none
structure Inv(X:Cx)(Yw:List (aa×Obj))(σ:List (Option V))(H:Hp)(s:ai):Prop where
 ok:X.Ok
 os:s.os=X.s_0.os
 bare:p9 s.gens
 Yx:Un X.fs X.ex X.H_0 H X.s_0.heap s.heap
 loc:∃m,s.heap.Ns X.env.locals m/\∀(i:Nat)(x:Str)(v:V),X.N[i]? =some x->σ[i]? =some (some v)->qJ X.env.scope x->∃u,RelV v u/\Look X.env s.heap m x u
 cell:∀x c,X.env.cells.lookup x=some c->∃v,s.heap.IsCell c v
 free:H X.env.locals=none
 Φ:∀x c,X.env.cells.lookup x=some c->H c=none
 pin:∀p∈X.pn++Yw,s.heap.get? p.1=some p.2/\H p.1=none/\p.1≠X.env.locals/\p.1∉X.fs/\∀v,p.2.data≠ .cell v
 YB:cz X.prog X.w H s.heap
 len:σ.length=X.N.length
section
variable{X:Cx}{Yw:List (aa×Obj)}{σ:List (Option V)}{H H':Hp}{s:ai}{h':aM}
theorem Cx.Ok.nofr(ok:X.Ok){b:aa}{o:Obj}(e:X.Yx.get? b=some o):b∉X.fs:=λhb=>by have:=(ok.funs.mem hb).1;rw[e]at this;cases this
theorem Inv.bs(I:Inv X Yw σ H s):∀b o,X.Yx.get? b=some o->s.heap.get? b=some o/\H b=none:=λb o e=>
 ⟨I.Yx.keep b o (I.ok.bs b o e).1 (I.ok.bs b o e).2 (I.ok.nofr e) (I.ok.ac_ b o e),I.Yx.free b o (I.ok.bs b o e).1 (I.ok.bs b o e).2 (I.ok.ac_ b o e)⟩
theorem Inv.bk(I:Inv X Yw σ H s):∀b o,X.Yx.get? b=some o->s.heap.get? b=some o:=λb o e=>(I.bs b o e).1
theorem Inv.mod(I:Inv X Yw σ H s):Mod X.K X.mg X.Yx:=I.ok.mod
theorem Inv.kIn(I:Inv X Yw σ H s):X.K.In s.heap:=I.ok.mod.kin.keeps I.bk
theorem Inv.lt(I:Inv X Yw σ H s):X.env.locals<s.heap.objs.size:=let⟨_,hn,_⟩:=I.loc;hn.lt
theorem Inv.sz(I:Inv X Yw σ H s):X.s_0.heap.objs.size<=s.heap.objs.size:=cV I.ok.above (DW I.lt)
theorem Inv.nofs(I:Inv X Yw σ H s){a:aa}(h:s.heap.objs.size<=a):a∉X.fs:=λhb=>by obtain⟨_,o,ho,_⟩:=I.ok.funs.mem hb;exact absurd (gh (bK ho) (cV I.sz h)) (gI _)
theorem Inv.cne(I:Inv X Yw σ H s):∀x c,X.env.cells.lookup x=some c->c≠X.env.locals:=λx c e z=>by obtain⟨v,o,ho,hd⟩:=I.cell x c e;obtain⟨m,⟨o',es,ep,Η,Z1,_⟩,_⟩:=I.loc;rw[z,Η]at ho;cases ho;rw[Z1]at hd;cases hd
theorem Inv.funs(I:Inv X Yw σ H s):s.heap.FunFrames X.Yx X.outer:=by
 have all:∀(l:List Env),(∀b∈jP l,b∈X.fs)->X.s_0.heap.FunFrames X.Yx l->s.heap.FunFrames X.Yx l:=by
  intro l;induction l with
  |nil=>intro _ _;trivial
  |cons env r ih=>intro hs hl;obtain⟨hk,⟨L,o,hf,hn,ho,hd⟩,hr⟩:=hl;have hL:L∈X.fs:=hs L (by unfold jP;rw[mL,hf];exact bA);obtain⟨sl,e⟩:=I.Yx.slot L o ho (I.ok.frf L hL) hL λz=>I.ok.acP L z hL;exact⟨hk,⟨L,_,hf,hn,e,hd⟩,ih (λb hb=>hs b (by unfold jP;rw[mL,hf];exact bq _ hb)) hr⟩
 exact all X.outer (λ_ hb=>hb) I.ok.funs
theorem Inv.stack(I:Inv X Yw σ H s):s.heap.FunFrames X.Yx X.stack:=by
 rcases I.ok.stk with e|⟨e,hf⟩
 .rw[e];exact I.funs
 .rw[e];obtain⟨m,hn,_⟩:=I.loc;refine .cons (by rw[I.ok.kind];decide) hf hn ?_ I.funs;exact Heap.get?_none_of_le (cV I.ok.bsz I.ok.above)
theorem Inv.stkSub(I:Inv X Yw σ H s):∀b∈jP X.stack,b∈X.env.locals::X.fs:=λb hb=>by
 rcases I.ok.stk with e|⟨e,hf⟩
 .rw[e]at hb;exact bq _ hb
 .rw[e]at hb;unfold jP at hb;rw[mL,hf]at hb;exact hb
theorem Inv.stkFree(I:Inv X Yw σ H s):∀b∈jP X.stack,H b=none:=λb hb=>by
 rcases aV.mp (I.stkSub b hb)with e|hb
 .rw[e];exact I.free
 .obtain⟨_,o,ho,_⟩:=I.ok.funs.mem hb;exact I.Yx.free b o ho (I.ok.frf b hb) λz=>I.ok.acP b z hb
theorem Inv.step{g':Array GenState}{t':Nat}{d':Drawn}{ch:List aa}(I:Inv X Yw σ H s)
  (hch:∀b∈ch,(b∈X.ex\/X.s_0.heap.objs.size<=b)/\b≠X.env.locals/\(∀x c,X.env.cells.lookup x=some c->c≠b)/\∀p∈X.pn++Yw,p.1≠b)
  (keep:∀b o,b≠X.env.locals->b∉X.fs->b∉ch->s.heap.get? b=some o->H b=none->h'.get? b=some o)
  (slot:∀b o,b≠X.env.locals->b∈X.fs->b∉ch->s.heap.get? b=some o->H b=none->∃sl,h'.get? b=some {o with slots:=sl})(free:∀b o,b∉ch->s.heap.get? b=some o->H b=none->H' b=none)
  (there:∀b o,b∉ch->s.heap.get? b=some o->∃o',h'.get? b=some o')
  (tups:∀b xs,H b=some (.tup xs)->H' b=some (.tup xs))(frzs:∀b o u,H b=some (.frz o u)->H' b=some (.frz o u))(tbls:∀b ps,H b=some (.tbl ps)->∃more,H' b=some (.tbl (ps++more)))
  (ns:∀m,s.heap.Ns X.env.locals m->h'.Ns X.env.locals m)(YB:cz X.prog X.w H' h')(hg:p9 g'):
  Inv X Yw σ H' {s with heap:=h',gens:=g',drawn:=d',toks:=t'}:=by
 have neL:∀b o,X.s_0.heap.get? b=some o->b≠X.env.locals:=λb o e=>cx (gh (bK e) I.ok.above);have neC:∀b o,X.s_0.heap.get? b=some o->b∉X.ex->b∉ch:=λb o e hx hb=>by
  rcases(hch b hb).1 with z|z
  .exact hx z
  .exact absurd (gh (bK e) z) (gI _)
 have ahC:∀x c,X.env.cells.lookup x=some c->∀v,s.heap.IsCell c v->h'.IsCell c v:=λx c e v⟨o,ho,hd⟩=>by
  have nch:c∉ch:=λz=>(hch c z).2.2.1 x c e rfl;by_cases hc:c∈X.fs
  .obtain⟨sl,q⟩:=slot c o (I.cne x c e) hc nch ho (I.Φ x c e);exact⟨_,q,hd⟩
  .exact⟨o,keep c o (I.cne x c e) hc nch ho (I.Φ x c e),hd⟩
 refine⟨I.ok,I.os,hg,⟨λb o e n hb hx=>?_,λb o e n hb hx=>?_,λb o e n hx=>?_,λb o e hx=>?_,λb xs e=>tups b xs (I.Yx.tups b xs e),λb o xs e=>frzs b o xs (I.Yx.frzs b o xs e),λb ps e=>?_⟩,?_,λx c e=>?_,?_,λx c e=>?_,λp hp=>?_,YB,I.len⟩
 .exact keep b o (neL b o e) hb (neC b o e hx) (I.Yx.keep b o e n hb hx) (I.Yx.free b o e n hx)
 .obtain⟨sl,e1⟩:=I.Yx.slot b o e n hb hx;obtain⟨sl',e2⟩:=slot b _ (neL b o e) hb (neC b o e hx) e1 (I.Yx.free b o e n hx);exact⟨sl',e2⟩
 .obtain⟨o',e1⟩:=I.Yx.there b o e hx;exact free b o' (neC b o e hx) e1 (I.Yx.free b o e n hx)
 .obtain⟨o',e1⟩:=I.Yx.there b o e hx;exact there b o' (neC b o e hx) e1
 .obtain⟨m1,e1⟩:=I.Yx.tbls b ps e;obtain⟨m2,e2⟩:=tbls b _ e1;exact⟨m1++m2,by rw[e2,Array.append_assoc]⟩
 .obtain⟨m,hn,hl⟩:=I.loc;refine⟨m,ns m hn,λi x v e1 e2 e3=>?_⟩;obtain⟨u,r,l⟩:=hl i x v e1 e2 e3;refine⟨u,r,?_⟩;rcases l with l|⟨k,c,e,z⟩
  .exact .inl l
  .exact .inr ⟨k,c,e,ahC x c e _ z⟩
 .obtain⟨v,z⟩:=I.cell x c e;exact⟨v,ahC x c e v z⟩
 .obtain⟨m,⟨o,_,_,ho,_⟩,_⟩:=I.loc;exact free _ o (λz=>(hch _ z).2.1 rfl) ho I.free
 .obtain⟨v,o,ho,hd⟩:=I.cell x c e;exact free c o (λz=>(hch c z).2.2.1 x c e rfl) ho (I.Φ x c e)
 .obtain⟨e,n,ne,nf,d⟩:=I.pin p hp;have nch:p.1∉ch:=λz=>(hch p.1 z).2.2.2 p hp rfl;exact⟨keep p.1 p.2 ne nf nch e n,free p.1 p.2 nch e n,ne,nf,d⟩
theorem Inv.un{t':Nat}(I:Inv X Yw σ H s)(u:Un X.fs [] H H' s.heap h')(YB:cz X.prog X.w H' h'):Inv X Yw σ H' {s with heap:=h',toks:=t'}:=by
 obtain⟨m,⟨o,es,ep,ho,r⟩,_⟩:=id I.loc;obtain⟨sl,hL⟩:=u.any ho I.free (by simp);exact I.step (g':=s.gens) (d':=s.drawn) (ch:=[]) (λ_ z=>nomatch z) (λb o _ hb _ e n=>u.keep b o e n hb (by simp)) (λb o _ hb _ e n=>u.slot b o e n hb (by simp)) (λb o _ e n=>u.free b o e n (by simp)) (λb o _ e=>u.there b o e (by simp)) u.tups u.frzs u.tbls (λm' hm=>by
  obtain⟨o',YH,Y2,Η,r'⟩:=hm;rw[ho]at Η;cases Η;exact⟨_,YH,Y2,hL,r'⟩) YB I.bare
theorem Inv.call{g':Array GenState}{t':Nat}{d':Drawn}{ch:List aa}(I:Inv X Yw σ H s)(u:Un (jP X.stack) ch H H' s.heap h')(YB:cz X.prog X.w H' h')(hg:p9 g')
  (hch:∀b∈ch,(b∈X.ex\/X.s_0.heap.objs.size<=b)/\b≠X.env.locals/\(∀x c,X.env.cells.lookup x=some c->c≠b)/\∀p∈X.pn++Yw,p.1≠b):
  Inv X Yw σ H' {s with heap:=h',gens:=g',drawn:=d',toks:=t'}:=by
 obtain⟨m,⟨o,es,ep,ho,r⟩,_⟩:=id I.loc;obtain⟨sl,hL⟩:=u.any ho I.free λz=>(hch _ z).2.1 rfl;exact I.step (ch:=ch) hch (λb o hL hb hc e n=>u.keep b o e n (λz=>(aV.mp (I.stkSub b z)).elim hL hb) hc) (λb o _ _ hc e n=>u.any e n hc) (λb o hc e n=>u.free b o e n hc) (λb o hc e=>u.there b o e hc) u.tups u.frzs u.tbls (λm' hm=>by
  obtain⟨o',YH,Y2,Η,r'⟩:=hm;rw[ho]at Η;cases Η;exact⟨_,YH,Y2,hL,r'⟩) YB hg
theorem Inv.turned{t':Nat}{it:aa}(I:Inv X Yw σ H s)(k:∀b o,b≠it->s.heap.get? b=some o->h'.get? b=some o)(hn:H it=none)(hL:it≠X.env.locals)
  (h1:it∈X.ex\/X.s_0.heap.objs.size<=it)(h2:∀x c,X.env.cells.lookup x=some c->c≠it)(h3:∀p∈X.pn++Yw,p.1≠it):Inv X Yw σ H {s with heap:=h',toks:=t'}:=by
 have nit:∀b u,H b=some u->b≠it:=λb u e z=>by rw[z,hn]at e;cases e
 refine I.step (g':=s.gens) (d':=s.drawn) (ch:=[it]) (λb hb=>?_) (λb o _ _ hc e _=>k b o (λz=>hc (by simp[z])) e) (λb o _ _ hc e _=>⟨o.slots,k b o (λz=>hc (by simp[z])) e⟩) (λ_ _ _ _ n=>n)
  (λb o hc e=>⟨o,k b o (λz=>hc (by simp[z])) e⟩) (λ_ _ e=>e) (λ_ _ _ e=>e) (λb ps e=>⟨#[],by rw[e];simp⟩) (λm hm=>?_) (λb u e=>?_) I.bare
 .have e:b=it:=by simpa using hb
  subst e;exact⟨h1,hL,h2,h3⟩
 .obtain⟨o,es,ep,ho,r⟩:=hm;exact⟨o,es,ep,k _ o (aX hL) ho,r⟩
 .refine(I.YB b u e).stay (λc v hc q=>k c v ?_ q) (λ_ q=>q) λ_ _ q=>q;rcases hc with z|z
  .rw[z];exact nit b u e
  .exact nit c _ z
theorem Inv.tok(I:Inv X Yw σ H s)(t:Nat):Inv X Yw σ H {s with toks:=t}:=I.un (h':=s.heap) (t':=t) Un.refl I.YB
theorem Inv.kept{t':Nat}(I:Inv X Yw σ H s)(k:∀b u,s.heap.get? b=some u->h'.get? b=some u):Inv X Yw σ H {s with heap:=h',toks:=t'}:=I.un (Un.kept k) (I.YB.kept k)
theorem Inv.laid{a:aa}{o:HO}{t':Nat}(I:Inv X Yw σ H s)(k:∀b u,s.heap.get? b=some u->h'.get? b=some u)(hp:s.heap.objs.size<=a)(new:di X.prog X.w (upd H a o) h' a o):
  Inv X Yw σ (upd H a o) {s with heap:=h',toks:=t'}:=I.un (Un.laid k hp (I.YB.fresh hp)) (I.YB.laid k hp new)
theorem Inv.write{x e:aa}{o:HO}{t':Nat}(I:Inv X Yw σ H s)(mu:jQ (H x))(he:e=x\/H e=some (.own x))(k:∀b u,b≠e->s.heap.get? b=some u->h'.get? b=some u)(heo:∃u,h'.get? e=some u)
  (new:di X.prog X.w (upd H x o) h' x o):Inv X Yw σ (upd H x o) {s with heap:=h',toks:=t'}:=I.un (Un.write mu he k heo) (I.YB.write mu he k heo new)
theorem Inv.weak{YD:List (Option V)}(I:Inv X Yw σ H s)(hl:YD.length=σ.length)(w:∀(i:Nat)v,YD[i]? =some (some v)->σ[i]? =some (some v)):Inv X Yw YD H s:=
 ⟨I.ok,I.os,I.bare,I.Yx,let⟨m,hn,Z9⟩:=I.loc;⟨m,hn,λi x v e1 e2 e3=>Z9 i x v e1 (w i v e2) e3⟩,I.cell,I.free,I.Φ,I.pin,I.YB,hl.trans I.len⟩
theorem Inv.pins_of{ag5:List (aa×Obj)}(I:Inv X Yw σ H s)(h:∀p∈ag5,s.heap.get? p.1=some p.2/\H p.1=none/\p.1≠X.env.locals/\p.1∉X.fs/\∀v,p.2.data≠ .cell v):Inv X ag5 σ H s:=
 ⟨I.ok,I.os,I.bare,I.Yx,I.loc,I.cell,I.free,I.Φ,λp hp=>(bT.mp hp).elim (λz=>I.pin p (lw _ z)) (h p),I.YB,I.len⟩
theorem yY{N:List Str}(hN:N.Nodup){i j:Nat}{x:Str}(a:N[i]? =some x)(b:N[j]? =some x):i=j:=by obtain⟨h1,e1⟩:=gE.mp a;obtain⟨h2,e2⟩:=gE.mp b;exact(List.getElem_inj hN).mp (e1.trans e2.symm)
theorem Fh{M:s_}{A:bh}{E:ac->ai->Prop}{i:Nat}{x:Str}{v:V}{u:ac}{Q:Unit->ai->Prop}(I:Inv X Yw σ H s)(hN:X.N.Nodup)(hi:X.N[i]? =some x)(hx:Loc X.env.scope x)(r:RelV v u)
  (h:∀s',Inv X Yw (σ.set i (some v)) H s'->(∃a,cW a s.heap s'.heap/\(a=X.env.locals\/X.env.cells.lookup x=some a))->Q () s')(hf:X.fn x=true\/X.env.scope.names.lookup x=some .local:=by first|exact .inl rfl|exact .inr rfl|assumption):aq M A (storeName X.env x u) Q E s:=by
 obtain⟨m,hn,hl⟩:=id I.loc;have ak9:(X.env.scope.kind== .class||(X.env.scope.kind== .module&&X.env.locals !=X.env.globals))=false:=by rw[I.ok.kind];rfl
 have agW:i<σ.length:=by rw[I.len];exact(gE.mp hi).1
 have cne:=I.cne;have afI:∀{a:aa}{h':aM},(∃o,s.heap.get? a=some o/\H a=none)->cW a s.heap h'->cz X.prog X.w H h':=λ{a h'}ha hs b ob e=>by
  obtain⟨_,_,abI⟩:=ha;refine(I.YB b ob e).stay (λc w' hc q=>(hs.2 c ?_).trans q) (λ_ q=>q) λ_ _ q=>q;rintro rfl;rcases hc with rfl|hc
  .rw[abI]at e;cases e
  .rw[abI]at hc;cases hc
 rcases hx with hk|hk
 .refine wpAny_storeName_local hk hn (λh' hn' hs=>?_) ak9;obtain⟨oL,_,_,hoL,_⟩:=id hn;refine h _ ⟨I.ok,I.os,I.bare,⟨λb o e n hb hx=>?_,λb o e n hb hx=>?_,I.Yx.free,λb o e hx=>?_,I.Yx.tups,I.Yx.frzs,I.Yx.tbls⟩,⟨_,hn',λj y v' e1 e2 e3=>?_⟩,λy c e=>?_,I.free,I.Φ,λp hp=>?_,afI ⟨oL,hoL,I.free⟩ hs,by simpa using I.len⟩ ⟨_,hs,.inl rfl⟩
  .exact(hs.2 b (cx (gh (bK e) I.ok.above))).trans (I.Yx.keep b o e n hb hx)
  .obtain⟨sl,e1⟩:=I.Yx.slot b o e n hb hx;exact⟨sl,(hs.2 b (cx (gh (bK e) I.ok.above))).trans e1⟩
  .obtain⟨o',e1⟩:=I.Yx.there b o e hx;exact⟨o',(hs.2 b (cx (gh (bK e) I.ok.above))).trans e1⟩
  .by_cases hj:j=i
   .subst hj;rw[hi]at e1;cases e1;rw[Bf agW]at e2;cases e2;exact⟨u,r,.inl ⟨hk,by simp⟩⟩
   .rw[Bo (aX hj)]at e2;obtain⟨u',r',q⟩:=hl j y v' e1 e2 e3;refine⟨u',r',?_⟩;rcases q with⟨k,e⟩|⟨k,c,e,z⟩
    .refine .inl ⟨k,?_⟩;have:y≠x:=λe=>hj (yY hN e1 (e▸hi));simp[this,e]
    .exact .inr ⟨k,c,e,z.sameBut hs (cne y c e)⟩
  .obtain⟨w',z⟩:=I.cell y c e;exact⟨w',z.sameBut hs (cne y c e)⟩
  .obtain⟨e,n,ne,nf,d⟩:=I.pin p hp;exact⟨(hs.2 p.1 ne).trans e,n,ne,nf,d⟩
 .have hfn:X.fn x=true:=by
   rcases hf with z|z
   .exact z
   .rw[z]at hk;cases hk
  obtain⟨c,hc⟩:=I.ok.has x (.inl hk);obtain⟨w',z⟩:=I.cell x c hc;refine wpAny_storeName_cell I.ok.kind hk hc z (λh' Z2 hs=>?_);obtain⟨oc,hoc,ajy⟩:=id z;refine h {s with heap:=h'} ⟨I.ok,I.os,I.bare,⟨λb o e n hb hx=>?_,λb o e n hb hx=>?_,I.Yx.free,λb o e hx=>?_,I.Yx.tups,I.Yx.frzs,I.Yx.tbls⟩,⟨m,hn.sameBut hs (aX (cne x c hc)),λj y v' e1 e2 e3=>?_⟩,λy c' e=>?_,I.free,I.Φ,λp hp=>?_,afI ⟨oc,hoc,I.Φ x c hc⟩ hs,by simpa using I.len⟩ ⟨c,hs,.inr hc⟩
  .exact(hs.2 b (cx (gh (bK e) (I.ok.cab x c hfn hc)))).trans (I.Yx.keep b o e n hb hx)
  .obtain⟨sl,e1⟩:=I.Yx.slot b o e n hb hx;exact⟨sl,(hs.2 b (cx (gh (bK e) (I.ok.cab x c hfn hc)))).trans e1⟩
  .obtain⟨o',e1⟩:=I.Yx.there b o e hx;exact⟨o',(hs.2 b (cx (gh (bK e) (I.ok.cab x c hfn hc)))).trans e1⟩
  .by_cases hj:j=i
   .subst hj;rw[hi]at e1;cases e1;rw[Bf agW]at e2;cases e2;exact⟨u,r,.inr ⟨.inl hk,c,hc,Z2⟩⟩
   .rw[Bo (aX hj)]at e2;obtain⟨u',r',q⟩:=hl j y v' e1 e2 e3;refine⟨u',r',?_⟩;rcases q with q|⟨k,c',e,z'⟩
    .exact .inl q
    .refine .inr ⟨k,c',e,z'.sameBut hs ?_⟩;rintro rfl;exact hj (yY hN e1 (I.ok.inj _ _ _ e hc▸hi))
  .by_cases ZF:c'=c
   .subst ZF;exact⟨_,Z2⟩
   .obtain⟨w2,z2⟩:=I.cell y c' e;exact⟨w2,z2.sameBut hs ZF⟩
  .obtain⟨e,n,ne,nf,d⟩:=I.pin p hp;refine⟨(hs.2 p.1 ?_).trans e,n,ne,nf,d⟩;intro q;rw[q,hoc]at e;have q':oc=p.2:=gk e;exact d w' (by rw[<-q'];exact ajy)
theorem F1{M:s_}{A:bh}{E:ac->ai->Prop}{i:Nat}{x:Str}{v:V}{u:ac}{Q:Unit->ai->Prop}(I:Inv X Yw σ H s)(hN:X.N.Nodup)(hi:X.N[i]? =some x)(hx:Loc X.env.scope x)(r:RelV v u)
  (h:∀s',Inv X Yw (σ.set i (some v)) H s'->Q () s')(hf:X.fn x=true\/X.env.scope.names.lookup x=some .local:=by first|exact .inl rfl|exact .inr rfl|assumption):aq M A (storeName X.env x u) Q E s:=
 Fh I hN hi hx r (λs' I' _=>h s' I') hf
theorem Inv.call'{s':ai}{ch:List aa}(I:Inv X Yw σ H s)(ho:s'.os=s.os)(u:Un (jP X.stack) ch H H' s.heap s'.heap)(YB:cz X.prog X.w H' s'.heap)(hg:p9 s'.gens)
  (hch:∀b∈ch,(b∈X.ex\/X.s_0.heap.objs.size<=b)/\b≠X.env.locals/\(∀x c,X.env.cells.lookup x=some c->c≠b)/\∀p∈X.pn++Yw,p.1≠b):Inv X Yw σ H' s':=by
 obtain⟨h',g',d',t',o'⟩:=s';have e:o'=s.os:=ho;subst e;exact I.call (g':=g') (t':=t') (d':=d') u YB hg hch
end
abbrev XK:=ac->Option aa->Hp->Prop
abbrev St:=List (Option V)
abbrev VK:=V->Hp->Prop
abbrev TE:=St->Hp->VK->Prop
abbrev TT:=St->Hp->(Bool->Hp->Prop)->Prop
abbrev TA:=St->Hp->(List V->Hp->Prop)->Prop
structure Ends where
 nx:St->Hp->Prop
 rt:VK
 bk:St->Hp->Prop:=λ_ _=>False
 ct:St->Hp->Prop:=λ_ _=>False
abbrev TS:=Ends->St->Hp->Prop
def EP(X:Cx)(Yw:List (aa×Obj))(σ:St)(Q:VK)(u:ac)(s':ai):Prop:=∃v H',Inv X Yw σ H' s'/\RelV v u/\Q v H'
def TP(X:Cx)(Yw:List (aa×Obj))(σ:St)(Q:Bool->Hp->Prop)(b:Bool)(s':ai):Prop:=∃H',Inv X Yw σ H' s'/\Q b H'
def AP(X:Cx)(Yw:List (aa×Obj))(σ:St)(Q:List V->Hp->Prop)(us:List ac)(s':ai):Prop:=∃vs H',Inv X Yw σ H' s'/\aR vs us/\Q vs H'
def SP(X:Cx)(Yw:List (aa×Obj))(D:Ends)(f:Flow)(s':ai):Prop:=
 match f with
 | .next=>∃YD H',Inv X Yw YD H' s'/\D.nx YD H'
 | .brk=>∃YD H',Inv X Yw YD H' s'/\D.bk YD H'
 | .cont=>∃YD H',Inv X Yw YD H' s'/\D.ct YD H'
 | .ret u=>∃v YD H',Inv X Yw YD H' s'/\RelV v u/\D.rt v H'
def PE(X:Cx)(e:aZ)(t:TE):Prop:=
 ∀(Yw:List (aa×Obj))(s:ai)(σ:St)(H:Hp)(Q:VK),Inv X Yw σ H s->t σ H Q->aq (aB X.prog X.w) X.A (eval e X.env) (EP X Yw σ Q) X.xe s
def PT(X:Cx)(e:aZ)(t:TT):Prop:=
 ∀(Yw:List (aa×Obj))(s:ai)(σ:St)(H:Hp)(Q:Bool->Hp->Prop),Inv X Yw σ H s->t σ H Q->aq (aB X.prog X.w) X.A (sS e X.env (eval e X.env)) (TP X Yw σ Q) X.xe s
def PW(X:Cx)(e:aZ)(t:TT):Prop:=
 ∀(whole:Sem ac)(Yw:List (aa×Obj))(s:ai)(σ:St)(H:Hp)(Q:Bool->Hp->Prop),Inv X Yw σ H s->t σ H Q->aq (aB X.prog X.w) X.A (sS e X.env whole) (TP X Yw σ Q) X.xe s
theorem PW.pt{X:Cx}{e:aZ}{t:TT}(h:PW X e t):PT X e t:=h _
def PA(X:Cx)(es:List aZ)(t:TA):Prop:=
 ∀(pos:Pos)(Yw:List (aa×Obj))(s:ai)(σ:St)(H:Hp)(Q:List V->Hp->Prop),Inv X Yw σ H s->t σ H Q->aq (aB X.prog X.w) X.A (spliced (fq pos (bP es X.env))) (AP X Yw σ Q) X.xe s
def PS(X:Cx)(st:aH)(t:TS):Prop:=
 ∀(Yw:List (aa×Obj))(s:ai)(σ:St)(H:Hp)(D:Ends),Inv X Yw σ H s->t D σ H->aq (aB X.prog X.w) X.A (exec st X.env) (SP X Yw D) X.xe s
def iQ(X:Cx)(st:List aH)(t:TS):Prop:=
 ∀(Yw:List (aa×Obj))(s:ai)(σ:St)(H:Hp)(D:Ends),Inv X Yw σ H s->t D σ H->aq (aB X.prog X.w) X.A (execs st X.env) (SP X Yw D) X.xe s
theorem aW{α:Type}{t:Sem α}{Q Q':α->ai->Prop}{M:s_}{A:bh}{E:ac->ai->Prop}{s:ai}(h:aq M A t Q E s)(hQ:∀a s,Q a s->Q' a s):aq M A t Q' E s:=iH h hQ λ_ _ x=>x
section
variable{X:Cx}
def mr(i:Nat):TE:=λσ H Q=>∃v,σ[i]? =some (some v)/\Q v H
def tC(v:V):TE:=λ_ H Q=>Q v H
theorem Jo{i:Nat}{x:Str}{pos:Pos}(hN:X.N[i]? =some x)(hv:qJ X.env.scope x)(hd:(x==("__debug__":Str))=false:=by decide)(ο:(x==("__classdict__":Str))=false:=by decide):PE X (.Name x pos) (mr i):=by
 intro Yw s σ H Q I h;obtain⟨v,e,h⟩:=h;obtain⟨m,hn,hl⟩:=I.loc;obtain⟨u,r,l⟩:=hl i x v hN e hv;have fin:EP X Yw σ Q u s:=⟨v,H,I,r,h⟩;rcases l with⟨hk,hm⟩|⟨hk,c,hc,ah2⟩
 .exact E2 (wpAny_loadName_local I.ok.kind hk hn hm fin) hd
 .rcases hk with hk|hk
  .exact E2 (wpAny_loadName_cell I.ok.kind hk hc ah2 fin) hd
  .exact E2 (wpAny_loadName_free I.ok.kind hk hc ah2 fin ο) hd
theorem be{i j pos}:PE X (.Constant (.int i) j pos) (tC (.int i)):=λ_ _ _ H _ I h=>wpAny_Constant_int ⟨.int i,H,I.tok _,⟨_,rfl⟩,h⟩
theorem Wz{b j pos}:PE X (.Constant (.bool b) j pos) (tC (.bl b)):=λ_ _ _ H _ I h=>Constant_bool ⟨.bl b,H,I,rfl,h⟩
theorem Jp{j pos}:PE X (.Constant .none j pos) (tC .non):=λ_ _ _ H _ I h=>Dz ⟨.non,H,I,rfl,h⟩
def Gl(X:Cx)(x:Str):Prop:=X.env.kindOf x=some .globalImplicit
theorem sB{E:ac->ai->Prop}{Yw:List (aa×Obj)}{s:ai}{σ:St}{H:Hp}{x:Str}{u:ac}{pos:Pos}{Q:ac->ai->Prop}(I:Inv X Yw σ H s)(hg:Gl X x)(hm:X.mg x=some u)(h:Q u s)
  (hd:(x==("__debug__":Str))=false:=by decide):aq (aB X.prog X.w) X.A (eval (.Name x pos) X.env) Q E s:=
 Lr I.ok.kind hg (Calls.loadGlobal_global (by rw[I.ok.glob];exact I.mod.glob.keeps I.bk) hm h) hd
theorem Ae{E:ac->ai->Prop}{Yw:List (aa×Obj)}{s:ai}{σ:St}{H:Hp}{x:Str}{u:ac}{pos:Pos}{Q:ac->ai->Prop}(I:Inv X Yw σ H s)(hg:Gl X x)(hm:X.mg x=none)(hv:pz x=some u)(h:Q u s)
  (hn:x≠"__name__":=by decide)(hd:(x==("__debug__":Str))=false:=by decide):aq (aB X.prog X.w) X.A (eval (.Name x pos) X.env) Q E s:=by
 obtain⟨mb,h1,h2⟩:=I.mod.blt;exact Lr I.ok.kind hg (Calls.loadGlobal_builtin (by rw[I.ok.glob];exact I.mod.glob.keeps I.bk) hm (by rw[I.ok.blt];exact h1.keeps I.bk) ((h2 x hn).trans hv) h) hd
theorem Ia{x:Str}{v:V}{u:ac}{pos:Pos}(hg:Gl X x)(hm:X.mg x=some u)(r:RelV v u)(hd:(x==("__debug__":Str))=false:=by decide):PE X (.Name x pos) (tC v):=
 λ_ _ _ H _ I h=>sB I hg hm ⟨v,H,I,r,h⟩ hd
variable{a b:aZ}{ta tb:TE}{pos:Pos}
def PC(X:Cx)(op:mq)(a b:aZ)(t:TE):Prop:=
 ∀(Yw:List (aa×Obj))(s:ai)(σ:St)(H:Hp)(Q:VK),Inv X Yw σ H s->t σ H Q->
  aq (aB X.prog X.w) X.A (eval a X.env) (λv YO=>aq (aB X.prog X.w) X.A (eval b X.env) (λu Zr=>aq (aB X.prog X.w) X.A (fY op v u) (EP X Yw σ Q) X.xe Zr) X.xe YO) X.xe s
theorem GD(b:aZ){op:mq}(h:op≠ .In)(h2:op≠ .NotIn):m_ op b=false:=by
 have e1:(op==CmpOp.In)=false:=by cases op<;>first|rfl|exact absurd rfl h
 have e2:(op==P1)=false:=by cases op<;>first|rfl|exact absurd rfl h2
 cases b<;>simp[m_,e1,e2]
def Kt(ta:TE):TE:=λσ H Q=>ta σ H λx H1=>Q (.bl (decide (x= .non))) H1
def JS(ta:TE):TE:=λσ H Q=>ta σ H λx H1=>Q (.bl (!decide (x= .non))) H1
theorem RelV.none_iff{x:V}{v:ac}(r:RelV x v):(v==jy)=decide (x= .non):=by
 cases x with
 |non=>cases r;rfl
 |bl _=>cases r;rfl
 |int _=>obtain⟨t,rfl⟩:=r;rfl
 |str _=>obtain⟨t,rfl⟩:=r;rfl
 |byt _=>obtain⟨t,rfl⟩:=r;rfl
 |flt _=>obtain⟨t,rfl⟩:=r;rfl
 |ref _=>cases r;rfl
 |ty _=>cases r;rfl
theorem Jr{j ZN}(ha:PE X a ta):PC X .Is a (.Constant .none j ZN) (Kt ta):=by intro Yw s σ H Q I h;refine aW (ha Yw s σ H _ I h) λv s1 zz=>?_;obtain⟨x,H1,I1,r1,q1⟩:=zz;exact Dz (is_none_gen ⟨.bl _,H1,I1,by rw[r1.none_iff];rfl,q1⟩)
theorem UL{j ZN}(ha:PE X a ta):PC X .IsNot a (.Constant .none j ZN) (JS ta):=by intro Yw s σ H Q I h;refine aW (ha Yw s σ H _ I h) λv s1 zz=>?_;obtain⟨x,H1,I1,r1,q1⟩:=zz;exact Dz (isnot_none_gen ⟨.bl _,H1,I1,by rw[r1.none_iff];rfl,q1⟩)
def tB(t:TE):TT:=λσ H Q=>t σ H λx H1=>∃c,x= .bl c/\Q c H1
theorem Jq{op:mq}{t:TE}(h:PC X op a b t)(h1:m_ op b=false:=by first|exact GD _ (by decide) (by decide)|rfl):PE X (.Compare a [op] [b] pos) t:=λYw s σ H Q I hw=>wpAny_Compare1 (h Yw s σ H Q I hw) h1
theorem qe{op:mq}{t:TE}(h:PC X op a b t)(h1:m_ op b=false:=by first|exact GD _ (by decide) (by decide)|rfl):PT X (.Compare a [op] [b] pos) (tB t):=by intro Yw s σ H Q I hw;refine LR (aW (h Yw s σ H _ I hw) λv s1 h1=>aW h1 λu s2 h2=>aW h2 λc s3 zz=>?_) h1;obtain⟨x,H1,I1,r1,q1⟩:=zz;obtain⟨d,rfl,q⟩:=q1;cases r1;exact kG ⟨H1,I1,q⟩
theorem cg{e:aZ}{t:TE}(h:PE X e t)(he:∀whole,sS e X.env whole=(do let v <-whole;sD e.pos;n9 [v] (truthy v)):=by intro _;rfl):PT X e (tB t):=by intro Yw s σ H Q I hw;refine isTrue_plain (aW (h Yw s σ H _ I hw) λv s1 zz=>?_) (he _);obtain⟨x,H1,I1,r1,q1⟩:=zz;obtain⟨d,rfl,q⟩:=q1;cases r1;exact kG ⟨H1,I1,q⟩
variable{tA tB':TT}{YU:List aZ}
def Kw(t u:TT):TT:=λσ H Q=>t σ H λc H1=>if c=true then u σ H1 Q else Q false H1
def KY(t u:TT):TT:=λσ H Q=>t σ H λc H1=>if c=true then Q true H1 else u σ H1 Q
def Kr(t:TT):TT:=λσ H Q=>t σ H λc H1=>Q (!c) H1
theorem zA(ha:PT X a tA):PW X (.BoolOp .And [a] pos) tA:=by
 intro wh Yw s σ H Q I h;refine isTrue_and (aW (ha Yw s σ H Q I h) λc s1 e=>?_);cases c with
 |true=>exact isTrue_and_nil e
 |false=>exact e
theorem z7(ha:PT X a tA):PW X (.BoolOp .Or [a] pos) tA:=by
 intro wh Yw s σ H Q I h;refine isTrue_or (aW (ha Yw s σ H Q I h) λc s1 e=>?_);cases c with
 |false=>exact isTrue_or_nil e
 |true=>exact e
theorem z8(ha:PT X a tA)(hb:PW X (.BoolOp .And (b::YU) pos) tB'):PW X (.BoolOp .And (a::b::YU) pos) (Kw tA tB'):=by
 intro wh Yw s σ H Q I h;refine isTrue_and (aW (ha Yw s σ H _ I h) λc s1⟨H1,I1,q1⟩=>?_);cases c with
 |true=>exact hb wh Yw s1 σ H1 Q I1 q1
 |false=>exact⟨H1,I1,q1⟩
theorem Al(ha:PT X a tA)(hb:PW X (.BoolOp .Or (b::YU) pos) tB'):PW X (.BoolOp .Or (a::b::YU) pos) (KY tA tB'):=by
 intro wh Yw s σ H Q I h;refine isTrue_or (aW (ha Yw s σ H _ I h) λc s1⟨H1,I1,q1⟩=>?_);cases c with
 |true=>exact⟨H1,I1,q1⟩
 |false=>exact hb wh Yw s1 σ H1 Q I1 q1
theorem dO(ha:PT X a tA):PT X (.UnaryOp .Not a pos) (Kr tA):=by intro Yw s σ H Q I h;exact isTrue_not (ha Yw s σ H (λc H1=>Q (!c) H1) I h)
def JY(ta tb:TE):TE:=λσ H Q=>ta σ H λx H1=>∃c,x= .bl c/\if c=true then tb σ H1 Q else Q (.bl false) H1
def Kq(ta tb:TE):TE:=λσ H Q=>ta σ H λx H1=>∃c,x= .bl c/\if c=true then Q (.bl true) H1 else tb σ H1 Q
def Ws(ta:TE):TE:=λσ H Q=>ta σ H λx H1=>∃c,x= .bl c/\Q (.bl (!c)) H1
theorem qg{op}{t:TE}(h:PE X a t):PE X (.BoolOp op [a] pos) t:=λYw s σ H Q I hw=>BoolOp_one (h Yw s σ H Q I hw)
theorem z_(ha:PE X a ta)(hb:PE X (.BoolOp .And (b::YU) pos) tb):PE X (.BoolOp .And (a::b::YU) pos) (JY ta tb):=by
 intro Yw s σ H Q I h;refine BoolOp_and (aW (ha Yw s σ H _ I h) λv s1 zz=>?_);obtain⟨x,H1,I1,r1,q1⟩:=zz;obtain⟨c,rfl,q1⟩:=q1;cases r1;refine kG ?_;cases c with
 |true=>exact hb Yw s1 σ H1 Q I1 q1
 |false=>exact⟨.bl false,H1,I1,rfl,q1⟩
theorem vZ(ha:PE X a ta)(hb:PE X (.BoolOp .Or (b::YU) pos) tb):PE X (.BoolOp .Or (a::b::YU) pos) (Kq ta tb):=by
 intro Yw s σ H Q I h;refine BoolOp_or (aW (ha Yw s σ H _ I h) λv s1 zz=>?_);obtain⟨x,H1,I1,r1,q1⟩:=zz;obtain⟨c,rfl,q1⟩:=q1;cases r1;refine kG ?_;cases c with
 |false=>exact hb Yw s1 σ H1 Q I1 q1
 |true=>exact⟨.bl true,H1,I1,rfl,q1⟩
def KZ(t:TT)(ta tb:TE):TE:=λσ H Q=>t σ H λc H1=>if c=true then ta σ H1 Q else tb σ H1 Q
theorem vc{c:aZ}(hc:PT X c tA)(ha:PE X a ta)(hb:PE X b tb):PE X (.IfExp c a b pos) (KZ tA ta tb):=by
 intro Yw s σ H Q I h;refine wpAny_IfExp (aW (hc Yw s σ H _ I h) λd s1⟨H1,I1,q1⟩=>?_);cases d with
 |true=>exact ha Yw s1 σ H1 Q I1 q1
 |false=>exact hb Yw s1 σ H1 Q I1 q1
end
def ay(K:aA)(H:Hp)(a:aa)(xs:List V):Prop:=
 Rd H a (.lst xs)\/
  ∃(o:Obj)(YA:Array ac)(n:Nat),K.lookup a=some o/\o.cls= .type "list"/\o.dict=none/\o.data= .seq YA n/\YA.size<=aU/\aR xs YA.toList
def a9(K:aA)(H:Hp)(a:aa)(xs:List V):Prop:=
 Rd H a (.tup xs)\/
  ∃(o:Obj)(YA:Array ac)(n:Nat),K.lookup a=some o/\o.cls= .type "tuple"/\o.data= .seq YA n/\YA.size<=aU/\aR xs YA.toList
def WW:ac->Option V
 | .none=>some .non
 | .bool b=>some (.bl b)
 | .int i _=>some (.int i)
 | .str x _=>some (.str x)
 | .bytes b _=>some (.byt b)
 | .float b _=>some (.flt b)
 | .ref a=>some (.ref a)
 | .type n=>some (.ty n)
 |_=>none
theorem RelV.abs{x:V}{u:ac}(r:RelV x u):WW u=some x:=by
 cases x with
 |non=>cases r;rfl
 |bl _=>cases r;rfl
 |int _=>obtain⟨t,rfl⟩:=r;rfl
 |str _=>obtain⟨t,rfl⟩:=r;rfl
 |byt _=>obtain⟨t,rfl⟩:=r;rfl
 |flt _=>obtain⟨t,rfl⟩:=r;rfl
 |ref _=>cases r;rfl
 |ty _=>cases r;rfl
theorem RelV.inj{x y:V}{u:ac}(r:RelV x u)(q:RelV y u):x=y:=gk (r.abs.symm.trans q.abs)
theorem aR.inj:∀{xs ys:List V}{us:List ac},aR xs us->aR ys us->xs=ys:=by
 intro xs ys us h;induction h generalizing ys with
 |nil=>intro k;cases k;rfl
 |cons r t ih=>intro k;cases k with|cons r' t'=>rw[r.inj r',ih t']
section
variable{X:Cx}{Yw:List (aa×Obj)}{σ:St}{H:Hp}{s:ai}{a:aa}{xs ys:List V}
theorem ay.of{K:aA}(h:H a=some (.lst xs)):ay K H a xs:= .inl (.inl h)
theorem a9.of{K:aA}(h:H a=some (.tup xs)):a9 K H a xs:= .inl (.inl h)
theorem Inv.list(I:Inv X Yw σ H s)(h:ay X.K H a xs):∃YA:List ac,aR xs YA/\PlainL s.heap a YA.toArray/\xs.length<=aU:=by
 rcases h with h|⟨o,YA,n,hk,hc,hd,hs,hz,r⟩
 .obtain⟨z,YA,n,r,e⟩:=h.ok I.YB;exact⟨YA,r,⟨_,n,e,rfl,rfl,rfl⟩,z⟩
 .refine⟨YA.toList,r,⟨o,n,I.kIn a o hk,hc,hd,by simpa using hs⟩,?_⟩;have e:=r.length;simp only[bz]at e
  lia
theorem Inv.tuple(I:Inv X Yw σ H s)(h:a9 X.K H a xs):∃YA:List ac,aR xs YA/\IsTup s.heap a YA.toArray/\xs.length<=aU:=by
 rcases h with h|⟨o,YA,n,hk,hc,hs,hz,r⟩
 .obtain⟨z,YA,r,p⟩:=h.ok I.YB;exact⟨YA,r,p,z⟩
 .refine⟨YA.toList,r,⟨o,I.kIn a o hk,hc,n,by simpa using hs⟩,?_⟩;have e:=r.length;simp only[bz]at e
  lia
theorem Inv.list_inj(I:Inv X Yw σ H s)(h:ay X.K H a xs)(h':ay X.K H a ys):xs=ys:=by
 obtain⟨YA,r,⟨o,n,e,_,_,d⟩,_⟩:=I.list h;obtain⟨its',r',⟨o',n',e',_,_,d'⟩,_⟩:=I.list h';rw[e]at e';cases e';rw[d]at d';injection d' with d1 _;have:YA=its':=by simpa using congrArg D0 d1
 subst this;exact r.inj r'
theorem Inv.tuple_inj(I:Inv X Yw σ H s)(h:a9 X.K H a xs)(h':a9 X.K H a ys):xs=ys:=by
 obtain⟨YA,r,⟨o,e,_,n,d⟩,_⟩:=I.tuple h;obtain⟨its',r',⟨o',e',_,n',d'⟩,_⟩:=I.tuple h';rw[e]at e';cases e';rw[d]at d';injection d' with d1 _;have:YA=its':=by simpa using congrArg D0 d1
 subst this;exact r.inj r'
end
abbrev Cx.wish(X:Cx)(E:ac->ai->Prop):Cx:={X with xe:=E}
abbrev Cx.nox(X:Cx):Cx:=X.wish λ_ _=>False
theorem Cx.Ok.wish{X:Cx}(ok:X.Ok)(E:ac->ai->Prop):(X.wish E).Ok:=
 ⟨ok.mod,ok.kind,ok.glob,ok.blt,ok.above,ok.inj,ok.has,ok.cab,ok.hd,ok.frames,ok.stk,ok.exf,ok.bs,ok.bsz,ok.ac_,ok.acP,ok.funs,ok.frf⟩
theorem Cx.Ok.unwish{X:Cx}{E:ac->ai->Prop}(ok:(X.wish E).Ok):X.Ok:=
 ⟨ok.mod,ok.kind,ok.glob,ok.blt,ok.above,ok.inj,ok.has,ok.cab,ok.hd,ok.frames,ok.stk,ok.exf,ok.bs,ok.bsz,ok.ac_,ok.acP,ok.funs,ok.frf⟩
section
variable{X:Cx}{Yw:List (aa×Obj)}{σ:St}{H:Hp}{s:ai}{E:ac->ai->Prop}
theorem Inv.wish(I:Inv X Yw σ H s)(E:ac->ai->Prop):Inv (X.wish E) Yw σ H s:=⟨I.ok.wish E,I.os,I.bare,I.Yx,I.loc,I.cell,I.free,I.Φ,I.pin,I.YB,I.len⟩
theorem Inv.unwish(I:Inv (X.wish E) Yw σ H s):Inv X Yw σ H s:=⟨I.ok.unwish,I.os,I.bare,I.Yx,I.loc,I.cell,I.free,I.Φ,I.pin,I.YB,I.len⟩
theorem SP.unwish{D:Ends}{f:Flow}{s':ai}(h:SP (X.wish E) Yw D f s'):SP X Yw D f s':=by
 cases f with
 |next=>obtain⟨YD,H',I,q⟩:=h;exact⟨YD,H',I.unwish,q⟩
 |brk=>obtain⟨YD,H',I,q⟩:=h;exact⟨YD,H',I.unwish,q⟩
 |cont=>obtain⟨YD,H',I,q⟩:=h;exact⟨YD,H',I.unwish,q⟩
 |ret u=>obtain⟨v,YD,H',I,r,q⟩:=h;exact⟨v,YD,H',I.unwish,r,q⟩
theorem iQ.nox{st:List aH}{t:TS}(h:iQ X.nox st t):iQ X st t:=λYw s σ H D I hw=>
 iH (h Yw s σ H D (I.wish _) hw) (λ_ _ q=>q.unwish) λ_ _ z=>gO z
end
section
variable{X:Cx}{st:aH}{YU:List aH}{t u:TS}{e:aZ}{te:TE}{pos:Pos}
def JT:TS:=λD σ H=>D.nx σ H
def Kn(t u:TS):TS:=λD σ H=>t {D with nx:=u D} σ H
theorem br:iQ X [] JT:=λ_ _ σ H _ I h=>xb ⟨σ,H,I,h⟩
theorem ap(h1:PS X st t)(h2:iQ X YU u):iQ X (st::YU) (Kn t u):=by
 intro Yw s σ H D I h;refine M3 (aW (h1 Yw s σ H {D with nx:=u D} I h) λf s1 q=>?_);cases f with
 |next=>obtain⟨YD,H',I',q⟩:=q;exact h2 Yw s1 YD H' D I' q
 |ret v=>exact q
 |brk=>exact q
 |cont=>exact q
theorem au(h1:PS X st t):iQ X [st] t:=by
 intro Yw s σ H D I h;refine M3 (aW (h1 Yw s σ H D I h) λf s1 q=>?_);cases f with
 |next=>exact xb q
 |ret v=>exact q
 |brk=>exact q
 |cont=>exact q
theorem Inv.quiet{Yw:List (aa×Obj)}{σ:St}{H:Hp}{s:ai}(I:Inv X Yw σ H s):interactive X.env=false:=by simp[interactive,I.ok.kind]
def JU(te:TE):TS:=λD σ H=>te σ H λ_ H1=>D.nx σ H1
theorem cX(he:PE X e te)(hs:nL e none pos.line X.env=pure false:=by rfl):PS X (.Expr e pos) (JU te):=by intro Yw s σ H D I h;exact wpAny_Expr_any (aW (he Yw s σ H _ I h) λv s1 zz=>e2_3 zz λx H1 I1 r1 q1=>⟨σ,H1,I1,q1⟩) I.quiet hs
def Ko(te:TE):TS:=λD σ H=>te σ H D.rt
theorem aF(he:PE X e te):PS X (.Return (some e) pos) (Ko te):=by intro Yw s σ H D I h;exact wpAny_Return_some (aW (he Yw s σ H _ I h) λv s1 zz=>e2_3 zz λx H1 I1 r1 q1=>⟨x,σ,H1,I1,r1,q1⟩)
def Wq:TS:=λD _ H=>D.rt .non H
def Ax(c:TT)(t u:TS):TS:=λD σ H=>c σ H λb H1=>if b=true then t D σ H1 else u D σ H1
theorem bp{c:aZ}{a b:List aH}{tc:TT}(hc:PT X c tc)(ha:iQ X a t)(hb:iQ X b u):PS X (.If c a b pos) (Ax tc t u):=by
 intro Yw s σ H D I h;refine wpAny_If (aW (hc Yw s σ H _ I h) λd s1⟨H1,I1,q1⟩=>?_);cases d with
 |true=>exact ha Yw s1 σ H1 D I1 q1
 |false=>exact hb Yw s1 σ H1 D I1 q1
end
abbrev TG:=V->St->Hp->(St->Hp->Prop)->Prop
abbrev oP:=List V->St->Hp->(St->Hp->Prop)->Prop
def PG(X:Cx)(target:aZ)(t:TG):Prop:=
 ∀(Yw:List (aa×Obj))(s:ai)(σ:St)(H:Hp)(v:V)(u:ac)(Q:St->Hp->Prop),Inv X Yw σ H s->RelV v u->t v σ H Q->
  aq (aB X.prog X.w) X.A (vT target X.env u) (λ_ s'=>∃YD H',Inv X Yw YD H' s'/\Q YD H') X.xe s
def wz(X:Cx)(ts:List aZ)(t:oP):Prop:=
 ∀(Yw:List (aa×Obj))(s:ai)(σ:St)(H:Hp)(vs:List V)(us:List ac)(Q:St->Hp->Prop),Inv X Yw σ H s->aR vs us->t vs σ H Q->
  aq (aB X.prog X.w) X.A (assignInOrder ((uM ts X.env).map (·.2)) us) (λ_ s'=>∃YD H',Inv X Yw YD H' s'/\Q YD H') X.xe s
section
variable{X:Cx}{pos:Pos}
def gB(i:Nat):TG:=λv σ H Q=>Q (σ.set i (some v)) H
theorem zC{i:Nat}{x:Str}(hN:X.N.Nodup)(hi:X.N[i]? =some x)(hx:Loc X.env.scope x)(hf:X.fn x=true\/X.env.scope.names.lookup x=some .local:=by first|exact .inl rfl|exact .inr rfl|assumption):PG X (.Name x pos) (gB i):=by intro Yw s σ H v u Q I r h;exact ME (F1 I hN hi hx r (λs' I'=>⟨_,H,I',h⟩) hf)
def WR:oP:=λvs σ H Q=>vs=[]/\Q σ H
def WD(t:TG)(u:oP):oP:=λvs σ H Q=>∃v r,vs=v::r/\t v σ H λYD H'=>u r YD H' Q
theorem UH:wz X [] WR:=by intro Yw s σ H vs us Q I r h;obtain⟨e,h⟩:=h;subst e;cases r;exact assignInOrder_nil ⟨σ,H,I,h⟩
theorem Gu{e:aZ}{es:List aZ}{t:TG}{u:oP}(h1:PG X e t)(h2:wz X es u)
  (hs:(uM (e::es) X.env).map (·.2)=vT e X.env::(uM es X.env).map (·.2):=by rfl):wz X (e::es) (WD t u):=by
 intro Yw s σ H vs us Q I r h;obtain⟨v,vr,e1,h⟩:=h;subst e1;cases r with
 |cons r rr=>rw[hs];refine assignInOrder_cons (aW (h1 Yw s σ H _ _ _ I r h) λ_ s1⟨σ1,H1,I1,q1⟩=>?_);exact h2 Yw s1 σ1 H1 _ _ Q I1 rr q1
def WQ(K:aA)(n:Nat)(t:oP):TG:=λv σ H Q=>∃a xs,v= .ref a/\a9 K H a xs/\xs.length=n/\t xs σ H Q
theorem VO{es:List aZ}{k:Nat}{t:oP}{n:Nat}(hc:X.calm=true)(h:wz X es t)
  (hn:(uM es X.env).length=n:=by rfl)(ZY:(uM es X.env).findIdx? (·.1)=none:=by rfl):PG X (.Tuple es k pos) (WQ X.K n t):=by
 intro Yw s σ H v u Q I r hw;obtain⟨a,xs,e1,hq,hl,hw⟩:=hw;subst e1;cases r;obtain⟨YA,rv,ht,hz⟩:=I.tuple hq;refine assign_Tuple_tuple (I.ok.hd hc) ht (by simp[hn,<-hl,rv.length]) ZY λh' hx=>?_;have I1:Inv X Yw σ H {s with heap:=h'}:=I.kept (t':=s.toks) λb o e=>hx b o (cx (bK e)) e;exact h Yw _ σ H xs _ Q I1 (by simpa using rv) hw
def v9(te:TE)(g:TG):TS:=λD σ H=>te σ H λx H1=>g x σ H1 D.nx
theorem ke{i:Nat}{x:Str}{e:aZ}{te:TE}{ZN:Pos}(hN:X.N.Nodup)(hi:X.N[i]? =some x)(hx:Loc X.env.scope x)(he:PE X e te)(hs:nL e (some (.Name x ZN)) pos.line X.env=pure false:=by rfl)(hf:X.fn x=true\/X.env.scope.names.lookup x=some .local:=by first|exact .inl rfl|exact .inr rfl|assumption):
  PS X (.Assign [.Name x ZN] e pos) (v9 te (gB i)):=by
 intro Yw s σ H D I h;refine wpAny_Assign_Name (aW (he Yw s σ H _ I h) λv s1 zz=>?_) hs;obtain⟨y,H1,I1,r1,q1⟩:=zz;exact F1 I1 hN hi hx r1 (λs2 I2=>⟨_,H1,I2,q1⟩) hf
end
section
variable{X:Cx}{pos:Pos}
def zV(c:TT)(tb:TS):TS:=λD σ H=>∃W:Nat->St->Hp->Prop,(∃m,W m σ H)/\∀m σ H,W m σ H->
 c σ H λb H1=>if b=true then∃N:St->Hp->Prop,(∀YD H',N YD H'->∃m',m'<m/\W m' YD H')/\tb {D with nx:=N,ct:=N,bk:=D.nx} σ H1 else D.nx σ H1
theorem pO{c:aZ}{body:List aH}{tc:TT}{tb:TS}(hp:PassesOwn (aB X.prog X.w) X.A X.env X.xe)(hc:PT X c tc)(hb:iQ X body tb):PS X (.While c body [] pos) (zV tc tb):=by
 intro Yw s σ H D I h;obtain⟨W,⟨m0,w0⟩,aaQ⟩:=h;refine wpAny_While (codeAny_whileLoop (λn s'=>∃YD H',Inv X Yw YD H' s'/\W n YD H') ?_ m0 ⟨σ,H,I,w0⟩);rintro n s1 ⟨σ1,H1,I1,w1⟩;refine o8 hp (aW (hc Yw s1 σ1 H1 _ I1 (aaQ n σ1 H1 w1)) λb s2⟨H2,I2,q2⟩=>?_);cases b with
 |true=>
  obtain⟨N,hN,q2⟩:=q2;rw[if_pos rfl];refine o8 hp (aW (hb Yw s2 σ1 H2 _ I2 q2) λf s3 q3=>?_);cases f with
  |next=>obtain⟨υ,H3,I3,n3⟩:=q3;obtain⟨m',hm,w3⟩:=hN υ H3 n3;exact⟨m',hm,υ,H3,I3,w3⟩
  |cont=>obtain⟨υ,H3,I3,n3⟩:=q3;obtain⟨m',hm,w3⟩:=hN υ H3 n3;exact⟨m',hm,υ,H3,I3,w3⟩
  |brk=>exact q3
  |ret v=>exact q3
 |false=>rw[if_neg dF];exact xb ⟨σ1,H2,I2,q2⟩
end
structure It where
 go:Nat->Hp->Prop
 yld:Nat->Hp->V->Hp->Prop
 stop:Nat->Hp->Prop
def jO(X:Cx)(Yw:List (aa×Obj))(H:Hp)(b:aa):Prop:=
 H b=none/\b≠X.env.locals/\b∉X.fs/\(b∈X.ex\/X.s_0.heap.objs.size<=b)/\(∀x c,X.env.cells.lookup x=some c->c≠b)/\∀p∈X.pn++Yw,p.1≠b
theorem Inv.fpOk{X:Cx}{Yw:List (aa×Obj)}{σ:St}{H H':Hp}{s:ai}{b:aa}(I:Inv X Yw σ H s)(hb:s.heap.objs.size<=b)(hn:H' b=none):jO X Yw H' b:=by
 refine⟨hn,xP (gh I.lt hb),I.nofs hb,.inr (cV I.sz hb),λx c e z=>?_,λp hp z=>?_⟩
 .obtain⟨v,q⟩:=I.cell x c e;exact absurd (gh q.lt (by rw[z];exact hb)) (gI _)
 .exact absurd (gh (bK (I.pin p hp).1) (by rw[z];exact hb)) (gI _)
structure mw(P:ba)(w:aQ)(K:aA)(tg:aZ)(J:It)(fp:List aa)(it:aa)(tn:Nat->aM->Prop):Prop where
 mem:it∈fp
 obj:∀i h,tn i h->∀b∈fp,∃o,h.get? b=some o/\∀v,o.data≠ .cell v
 keep:∀i h h',tn i h->(∀b∈fp,∀o,h.get? b=some o->h'.get? b=some o)->tn i h'
 item:∀(X:Cx),X.prog=P->X.w=w->X.K=K->X.calm=true->∀(i:Nat)(Yw:List (aa×Obj))(s:ai)(σ:St)(H:Hp)(E:ac->ai->Prop),Inv X Yw σ H s->(∀b∈fp,jO X Yw H b)->tn i s.heap->J.go i H->
  aq (aB P w) X.A (kg (.ref it)) (λr s1=>∃u,r=some u/\ aq (aB P w) X.A (xf tg (.ref it) u) (λ_ s2=>∃x H',Inv X Yw σ H' s2/\RelV x u/\J.yld i H x H'/\tn (i+1) s2.heap/\∀b∈fp,H' b=none) E s1) E s
 done:∀(X:Cx),X.prog=P->X.w=w->X.K=K->X.calm=true->∀(i:Nat)(Yw:List (aa×Obj))(s:ai)(σ:St)(H:Hp)(E:ac->ai->Prop),Inv X Yw σ H s->(∀b∈fp,jO X Yw H b)->tn i s.heap->J.stop i H->
  aq (aB P w) X.A (kg (.ref it)) (λr s1=>r=none/\Inv X Yw σ H s1) E s
 self:∀(A:bh)(i:Nat)(s:ai)(Q:ac->ai->Prop)(E:ac->ai->Prop),tn i s.heap->Q (.ref it) s->aq (aB P w) A (qr (.ref it)) Q E s
abbrev TI:=St->Hp->(It->Hp->Prop)->Prop
def wy(X:Cx)(Yw:List (aa×Obj))(σ:St)(tg:aZ)(R:It->Hp->Prop)(itv:ac)(s2:ai):Prop:=
 ∃(it:aa)(fp:List aa)(tn:Nat->aM->Prop)(J:It)(H':Hp),itv= .ref it/\Inv X Yw σ H' s2/\mw X.prog X.w X.K tg J fp it tn/\tn 0 s2.heap/\(∀b∈fp,jO X Yw H' b)/\R J H'
def PI(X:Cx)(tg iter:aZ)(wi:TI):Prop:=
 ∀(Yw:List (aa×Obj))(s:ai)(σ:St)(H:Hp)(R:It->Hp->Prop),Inv X Yw σ H s->wi σ H R->
  aq (aB X.prog X.w) X.A (eval iter X.env) (λv s1=>aq (aB X.prog X.w) X.A (qr v) (wy X Yw σ tg R) X.xe s1) X.xe s
theorem sY{M:s_}{A:bh}{E:ac->ai->Prop}{s:ai}{tg:aZ}{it:aa}{u:ac}{o:Obj}{n:String}{vs:Array ac}{Q:Unit->ai->Prop}(ho:s.heap.get? it=some o)(hc:o.cls= .type n)(hd:o.data= .fields vs)
  (hn:["enumerate","zip","dict_itemiterator","dict_reverseitemiterator","odict_iterator","itertools.zip_longest","itertools.pairwise"].contains n=false)(hQ:Q () s):aq M A (xf tg (.ref it) u) Q E s:=by
 unfold xf;cases tg<;>first
  |exact aw hQ
  |(cases u<;>first
    |exact aw hQ
    |(refine ah (wpAny_load ho ?_)
      rw[hc,hd];show aq M A (if(["enumerate","zip","dict_itemiterator","dict_reverseitemiterator","odict_iterator","itertools.zip_longest","itertools.pairwise"].contains n&&vs[0]? ==some (qp _))=true then _ else _) Q E s;rw[if_neg (by intro h;rw[hn,lF]at h;cases h)];exact aw hQ))
def iT(K:aA)(a:aa):It:=
 ⟨λi H=>∃xs x,ay K H a xs/\xs[i]? =some x,λi H x H'=>H'=H/\∀xs,ay K H a xs->xs[i]? =some x,λi H=>∃xs,ay K H a xs/\xs.length<=i⟩
def iS(K:aA)(a:aa):It:=
 ⟨λi H=>∃xs x,a9 K H a xs/\xs[i]? =some x,λi H x H'=>H'=H/\∀xs,a9 K H a xs->xs[i]? =some x,λi H=>∃xs,a9 K H a xs/\xs.length<=i⟩
def jm(lo:Int)(n:Nat):It:=⟨λi _=>i<n,λi H x H'=>H'=H/\x= .int (lo+i),λi _=>n<=i⟩
theorem Rj{P:ba}{w:aQ}{K:aA}{tg:aZ}(a it:aa):mw P w K tg (iT K a) [it] it (λi h=>h.IsListIter it a i) where
 mem:=by simp
 obj:=λi h st b hb=>by
  have e:b=it:=by simpa using hb
  subst e;obtain⟨o,e,c,d⟩:=st;exact⟨o,e,λv z=>by rw[d]at z;cases z⟩
 keep:=λi h h' st k=>st.at λo e=>k it (by simp) o e
 item:=by intro X hP hw hK hc i Yw s σ H E I hf st hg;subst hP hw hK;obtain⟨xs,x,hq,hx⟩:=hg;obtain⟨YA,rv,p,hz⟩:=I.list hq;obtain⟨u,hu,ru⟩:=rv.get hx;obtain⟨f0,f1,f2,f3,f4,f5⟩:=hf it (by simp);refine wpAny_pyNext_list_item st p.isList (x:=u) (by simpa using hu) λh' Γ sb=>?_;have I1:Inv X Yw σ H {s with heap:=h'}:=I.turned (t':=s.toks) (λb o hb e=>(sb.2 b hb).trans e) f0 f1 f3 f4 f5;obtain⟨o,e,c,d⟩:=id Γ;exact⟨u,rfl,sY (s:={s with heap:=h'}) e c d (by decide) ⟨x,H,I1,ru,⟨rfl,λys hy=>by rw[I.list_inj hy hq];exact hx⟩,Γ,λb hb=>(hf b hb).1⟩⟩
 done:=by intro X hP hw hK hc i Yw s σ H E I hf st hg;subst hP hw hK;obtain⟨xs,hq,hx⟩:=hg;obtain⟨YA,rv,p,hz⟩:=I.list hq;obtain⟨f0,f1,f2,f3,f4,f5⟩:=hf it (by simp);have hl:=rv.length;exact wpAny_pyNext_list_end (I.ok.hd hc) st p.isList (by simp;lia) λh' eb=>⟨rfl,I.turned (t':=s.toks) (λb o hb e=>eb b o hb e) f0 f1 f3 f4 f5⟩
 self:=λ_ _ _ _ _ st h=>wpAny_pyIter_listiter st h
theorem P6{P:ba}{w:aQ}{K:aA}{tg:aZ}(a it:aa):mw P w K tg (iS K a) [it] it (λi h=>h.IsTupleIter it a i) where
 mem:=by simp
 obj:=λi h st b hb=>by
  have e:b=it:=by simpa using hb
  subst e;obtain⟨o,e,c,d⟩:=st;exact⟨o,e,λv z=>by rw[d]at z;cases z⟩
 keep:=λi h h' st k=>st.at λo e=>k it (by simp) o e
 item:=by intro X hP hw hK hc i Yw s σ H E I hf st hg;subst hP hw hK;obtain⟨xs,x,hq,hx⟩:=hg;obtain⟨YA,rv,p,hz⟩:=I.tuple hq;obtain⟨u,hu,ru⟩:=rv.get hx;obtain⟨f0,f1,f2,f3,f4,f5⟩:=hf it (by simp);refine wpAny_pyNext_tuple_item st (show s.heap.IsTuple a YA.toArray from p) (x:=u) (by simpa using hu) λh' Γ sb=>?_;have I1:Inv X Yw σ H {s with heap:=h'}:=I.turned (t':=s.toks) (λb o hb e=>(sb.2 b hb).trans e) f0 f1 f3 f4 f5;obtain⟨o,e,c,d⟩:=id Γ;exact⟨u,rfl,sY (s:={s with heap:=h'}) e c d (by decide) ⟨x,H,I1,ru,⟨rfl,λys hy=>by rw[I.tuple_inj hy hq];exact hx⟩,Γ,λb hb=>(hf b hb).1⟩⟩
 done:=by intro X hP hw hK hc i Yw s σ H E I hf st hg;subst hP hw hK;obtain⟨xs,hq,hx⟩:=hg;obtain⟨YA,rv,p,hz⟩:=I.tuple hq;obtain⟨f0,f1,f2,f3,f4,f5⟩:=hf it (by simp);have hl:=rv.length;exact wpAny_pyNext_tuple_end (I.ok.hd hc) st (show s.heap.IsTuple a YA.toArray from p) (by simp;lia) λh' eb=>⟨rfl,I.turned (t':=s.toks) (λb o hb e=>eb b o hb e) f0 f1 f3 f4 f5⟩
 self:=λ_ _ _ _ _ st h=>wpAny_pyIter_tupleiter st h
theorem P7{P:ba}{w:aQ}{K:aA}{tg:aZ}(it:aa)(lo:Int)(n:Nat):mw P w K tg (jm lo n) [it] it (λi h=>IsRangeIter h it (lo+(i:Nat)*1) ((n:Int)-(i:Nat)) 1) where
 mem:=by simp
 obj:=λi h st b hb=>by
  have e:b=it:=by simpa using hb
  subst e;exact⟨_,st,λv z=>by
   have z':Data.fields _=Data.cell v:=z;cases z'⟩
 keep:=λi h h' st k=>k it (by simp) _ st
 item:=by intro X hP hw hK hc i Yw s σ H E I hf st hg;subst hP hw hK;obtain⟨f0,f1,f2,f3,f4,f5⟩:=hf it (by simp);have W:=Walks.range (prog:=X.prog) (w:=X.w) (I.ok.hd hc) it lo 1 n;refine W.item i s _ _ hg st λv h' tk hv Γ kk=>?_;obtain⟨t,rfl⟩:=hv;have I1:Inv X Yw σ H {s with heap:=h',toks:=tk}:=I.turned (λb o hb e=>kk b o (by simpa using hb) e) f0 f1 f3 f4 f5;refine⟨_,rfl,sY (s:={s with heap:=h',toks:=tk}) (n:="range_iterator") Γ rfl rfl (by decide) ⟨.int (lo+i),H,I1,⟨t,?_⟩,⟨rfl,rfl⟩,Γ,λb hb=>(hf b hb).1⟩⟩;rw[Int.mul_one]
 done:=by intro X hP hw hK hc i Yw s σ H E I hf st hg;subst hP hw hK;obtain⟨f0,f1,f2,f3,f4,f5⟩:=hf it (by simp);exact wpAny_pyNext_range_end (I.ok.hd hc) st (by have:n<=i:=hg;lia) λh' eb=>⟨rfl,I.turned (t':=s.toks) (λb o hb e=>eb b o hb e) f0 f1 f3 f4 f5⟩
 self:=λ_ _ _ _ _ st h=>wpAny_pyIter_rangeiter st h
section
variable{X:Cx}{tg:aZ}
def As(K:aA)(tl:TE):TI:=λσ H R=>tl σ H λx H1=>∃a,x= .ref a/\(∃xs,ay K H1 a xs)/\R (iT K a) H1
def AK(K:aA)(tl:TE):TI:=λσ H R=>tl σ H λx H1=>∃a,x= .ref a/\(∃xs,a9 K H1 a xs)/\R (iS K a) H1
theorem dY{l:aZ}{tl:TE}(hl:PE X l tl):PI X tg l (As X.K tl):=by
 intro Yw s σ H R I h;refine aW (hl Yw s σ H _ I h) λv s1 zz=>?_;obtain⟨x,H1,I1,r1,q1⟩:=zz;obtain⟨a,e,⟨xs,hq⟩,q⟩:=q1;subst e;cases r1;obtain⟨YA,rv,p,hz⟩:=I1.list hq;refine BR p.isList ?_;refine⟨s1.heap.objs.size,[s1.heap.objs.size],_,_,H1,rfl,I1.kept (t':=s1.toks) λb o e=>cS _ e,Rj a _,⟨_,cZ _ rfl,rfl,rfl⟩,λb hb=>?_,q⟩;have e:b=s1.heap.objs.size:=by simpa using hb
 subst e;exact I1.fpOk (aT _) (I1.YB.fresh (aT _))
theorem vL{l:aZ}{tl:TE}(hl:PE X l tl):PI X tg l (AK X.K tl):=by
 intro Yw s σ H R I h;refine aW (hl Yw s σ H _ I h) λv s1 zz=>?_;obtain⟨x,H1,I1,r1,q1⟩:=zz;obtain⟨a,e,⟨xs,hq⟩,q⟩:=q1;subst e;cases r1;obtain⟨YA,rv,p,hz⟩:=I1.tuple hq;refine Ms (show s1.heap.IsTuple a YA.toArray from p) ?_;refine⟨s1.heap.objs.size,[s1.heap.objs.size],_,_,H1,rfl,I1.kept (t':=s1.toks) λb o e=>cS _ e,P6 a _,⟨_,cZ _ rfl,rfl,rfl⟩,λb hb=>?_,q⟩;have e:b=s1.heap.objs.size:=by simpa using hb
 subst e;exact I1.fpOk (aT _) (I1.YB.fresh (aT _))
theorem SE{Yw:List (aa×Obj)}{σ:St}{H:Hp}{s:ai}{R:It->Hp->Prop}{E:ac->ai->Prop}{lo hi:Int}{t u v:Tok}{tk:Nat}(I:Inv X Yw σ H s)(h1: -(2^62)<=lo)(h2:lo<2^62)(h3: -(2^62)<=hi)(h4:hi<2^62)
  (q:R (jm lo (hi-lo).toNat) H):aq (aB X.prog X.w) X.A (qr (.ref s.heap.objs.size)) (wy X Yw σ tg R) E {s with heap:=s.heap.push {cls:= .type "range",data:= .fields #[.int lo t,.int hi u,.int 1 v]},toks:=tk}:=by
 refine wpAny_pyIter_range (IsRange.new ..) (small_one h1 h2 h3 h4) ?_;have I1:Inv X Yw σ H {s with heap:=s.heap.push {cls:= .type "range",data:= .fields #[.int lo t,.int hi u,.int 1 v]},toks:=tk}:=I.kept λb o e=>cS _ e;refine⟨(s.heap.push {cls:= .type "range",data:= .fields #[.int lo t,.int hi u,.int 1 v]}).objs.size,[(s.heap.push {cls:= .type "range",data:= .fields #[.int lo t,.int hi u,.int 1 v]}).objs.size],_,_,H,rfl,I1.kept (t':=tk) λb o e=>cS _ e,P7 _ lo (hi-lo).toNat,?_,λb hb=>?_,q⟩
 .have e1:lo+((0:Nat):Int)*1=lo:=by simp
  have e2:(((hi-lo).toNat:Nat):Int)-((0:Nat):Int)=LI lo hi 1:=by rw[rangeSize_one];split<;>lia
  show IsRangeIter _ _ (lo+((0:Nat):Int)*1) ((((hi-lo).toNat:Nat):Int)-((0:Nat):Int)) 1;rw[e1,e2];exact cZ _ rfl
 .have e:b=(s.heap.push {cls:= .type "range",data:= .fields #[.int lo t,.int hi u,.int 1 v]}).objs.size:=by simpa using hb
  subst e;exact I1.fpOk (aT _) (I1.YB.fresh (aT _))
def WB(ta:TA):TI:=λσ H R=>ta σ H λvs H1=>∃j:Int,vs=[.int j]/\ -(2^62)<=j/\j<2^62/\R (jm 0 j.toNat) H1
def Aq(ta:TA):TI:=λσ H R=>ta σ H λvs H1=>∃i j:Int,vs=[.int i,.int j]/\(-(2^62)<=i/\i<2^62/\ -(2^62)<=j/\j<2^62)/\R (jm i (j-i).toNat) H1
theorem yt{a b:aZ}{ta:TA}{p pos:Pos}(hg:Gl X "range")(hm:X.mg "range"=none)(ha:PA X [a,b] ta)(hs:bP [a,b] X.env=[(false,eval a X.env),(false,eval b X.env)]:=by rfl)(hs2:bP [b] X.env=[(false,eval b X.env)]:=by rfl):
  PI X tg (.Call (.Name "range" p) [a,b] [] pos) (Aq ta):=by
 intro Yw s σ H R I h;refine Call_ (Ae I hg hm boot_range (Lj (aW (ha pos Yw s σ H _ I h) λus s1 zz=>?_) (by rw[hs,hs2]) (by rw[hs2];rfl)));obtain⟨vs,H1,I1,r1,q1⟩:=zz;obtain⟨i,j,e,⟨q1,q2,q3,q4⟩,q⟩:=q1;subst e;cases r1 with
 |cons r rr=>
  cases rr with
  |cons r' rr=>cases rr;obtain⟨t,rfl⟩:=r;obtain⟨t',rfl⟩:=r';exact call_range_2 (SE I1 q1 q2 q3 q4 q)
def oF(wi:TI)(g:TG)(tb:TS):TS:=λD σ H=>wi σ H λJ H1=>∃W:Nat->Nat->St->Hp->Prop,(∃m,W 0 m σ H1)/\∀i m σ H,W i m σ H->
 (J.stop i H/\D.nx σ H)\/(J.go i H/\∃N:St->Hp->Prop,(∀YD H',N YD H'->∃m',m'<m/\W (i+1) m' YD H')/\∀x H',J.yld i H x H'->g x σ H' λYF H2=>tb {D with nx:=N,ct:=N,bk:=D.nx} YF H2)
def sL(fp:List aa)(h:aM):List (aa×Obj):=fp.filterMap λb=>(h.get? b).map λo=>(b,o)
theorem yf{fp:List aa}{h:aM}{b:aa}{o:Obj}(hb:b∈fp)(e:h.get? b=some o):(b,o)∈sL fp h:=mO.mpr ⟨b,hb,by rw[e];rfl⟩
theorem RF{fp:List aa}{h:aM}{p:aa×Obj}(hp:p∈sL fp h):p.1∈fp/\h.get? p.1=some p.2:=by
 obtain⟨b,hb,e⟩:=mO.mp hp;cases q:h.get? b with
 |none=>rw[q]at e;cases e
 |some o=>rw[q]at e;have e':(b,o)=p:=gk e;subst e';exact⟨hb,q⟩
theorem Inv.pinned{Yw:List (aa×Obj)}{σ:St}{H:Hp}{s:ai}{fp:List aa}(I:Inv X Yw σ H s)(hf:∀b∈fp,jO X Yw H b)(ho:∀b∈fp,∃o,s.heap.get? b=some o/\∀v,o.data≠ .cell v):Inv X (Yw++sL fp s.heap) σ H s:=
 I.pins_of λp hp=>(bT.mp hp).elim (λz=>I.pin p (iB _ z)) λz=>by obtain⟨hb,e⟩:=RF z;obtain⟨f0,f1,f2,_⟩:=hf p.1 hb;obtain⟨o,e',d⟩:=ho p.1 hb;rw[e]at e';cases e';exact⟨e,f0,f1,f2,d⟩
theorem Inv.unpinned{Yw pl:List (aa×Obj)}{σ:St}{H:Hp}{s:ai}(I:Inv X (Yw++pl) σ H s):Inv X Yw σ H s:=I.pins_of λp hp=>I.pin p (iB _ (lw _ hp))
theorem fH{iter:aZ}{body:List aH}{wi:TI}{g:TG}{tb:TS}{pos:Pos}(hp:PassesOwn (aB X.prog X.w) X.A X.env X.xe)(hc:X.calm=true)(hi:PI X tg iter wi)(hg:PG X tg g)(hb:iQ X body tb)
  (hs:∀x,wW iter X.env x=pure x:=by intro _;rfl):PS X (.For tg iter body [] pos) (oF wi g tb):=by
 intro Yw s σ H D I h;refine wpAny_For (aW (hi Yw s σ H _ I h) λv s1 h1=>aW h1 λitv s2 h2=>?_) hs;obtain⟨it,fp,tn,J,H2,e,I2,T,st2,f2,W,⟨m0,w0⟩,aaQ⟩:=h2;subst e;have aaR:∀{H':Hp},(∀b∈fp,H' b=none)->∀b∈fp,jO X Yw H' b:=λhn b hb=>⟨hn b hb,(f2 b hb).2⟩;refine codeAny_forLoop_any (λn s'=>∃i YD H',Inv X Yw YD H' s'/\tn i s'.heap/\(∀b∈fp,H' b=none)/\W i n YD H') ?_ m0 ⟨0,σ,H2,I2,st2,λb hb=>(f2 b hb).1,w0⟩;rintro n s3 ⟨i,υ,H3,I3,st3,fr3,w3⟩;rcases aaQ i n υ H3 w3 with⟨stop,qn⟩|⟨go,N,hN,step⟩
 .refine o8 hp (aW (T.done X rfl rfl rfl hc i Yw s3 υ H3 X.xe I3 (aaR fr3) st3 stop) λr s4⟨hr,I4⟩=>?_);subst hr;exact xb ⟨υ,H3,I4,qn⟩
 .refine o8 hp (aW (T.item X rfl rfl rfl hc i Yw s3 υ H3 X.xe I3 (aaR fr3) st3 go) λr s4⟨u,hr,h4⟩=>?_);subst hr;refine o8 hp (aW h4 λ_ s5 zz=>?_);obtain⟨x,H5,I5,r5,y5,st5,fr5⟩:=zz;have I5':=I5.pinned (aaR fr5) (T.obj _ _ st5);refine o8 hp (aW (hg _ s5 υ H5 x u _ I5' r5 (step x H5 y5)) λ_ s6⟨σ6,H6,I6,q6⟩=>?_);refine o8 hp (aW (hb _ s6 σ6 H6 _ I6 q6) λf s7 q7=>?_);have again:∀{τ:St}{H7:Hp},Inv X (Yw++sL fp s5.heap) τ H7 s7->N τ H7->∃m,m<n/\∃i YD H',Inv X Yw YD H' s7/\tn i s7.heap/\(∀b∈fp,H' b=none)/\W i m YD H':=λ{τ H7}I7 n7=>by obtain⟨m',hm,w7⟩:=hN τ H7 n7;refine⟨m',hm,i+1,τ,H7,I7.unpinned,T.keep _ _ _ st5 λb hb o e=>(I7.pin (b,o) (iB _ (iB _ (yf hb e)))).1,λb hb=>?_,w7⟩;obtain⟨o,e,d⟩:=T.obj _ _ st5 b hb;exact(I7.pin (b,o) (iB _ (iB _ (yf hb e)))).2.1
  cases f with
  |next=>obtain⟨τ,H7,I7,n7⟩:=q7;exact again I7 n7
  |cont=>obtain⟨τ,H7,I7,n7⟩:=q7;exact again I7 n7
  |brk=>obtain⟨τ,H7,I7,q7⟩:=q7;exact⟨τ,H7,I7.unpinned,q7⟩
  |ret v=>obtain⟨x7,τ,H7,I7,r7,q7⟩:=q7;exact⟨x7,τ,H7,I7.unpinned,r7,q7⟩
end
theorem Th{K:aA}{a:aa}{xs:List V}{g:TG}{tb:TS}{D:Ends}{σ:St}{H:Hp}(Pv:Nat->St->Hp->Prop)(h0:Pv 0 σ H)(hl:∀i σ H,i<=xs.length->Pv i σ H->ay K H a xs)
  (hs:∀i x σ H,xs[i]? =some x->Pv i σ H->g x σ H λYF H2=>tb {D with nx:=Pv (i+1),ct:=Pv (i+1),bk:=D.nx} YF H2)(hd:∀σ H,Pv xs.length σ H->D.nx σ H):
  ∃W:Nat->Nat->St->Hp->Prop,(∃m,W 0 m σ H)/\∀i m σ H,W i m σ H->
   ((iT K a).stop i H/\D.nx σ H)\/((iT K a).go i H/\∃N:St->Hp->Prop,(∀YD H',N YD H'->∃m',m'<m/\W (i+1) m' YD H')/\∀x H',(iT K a).yld i H x H'->g x σ H' λYF H2=>tb {D with nx:=N,ct:=N,bk:=D.nx} YF H2):=by
 refine⟨λi m σ H=>m=xs.length-i/\i<=xs.length/\Pv i σ H,⟨xs.length,by simp,dJ _,h0⟩,?_⟩;rintro i m σ H ⟨rfl,hi,p⟩;have q:=hl i σ H hi p;by_cases YK:i<xs.length
 .refine .inr ⟨⟨xs,xs[i],q,by simp[YK]⟩,Pv (i+1),λYD H' p'=>⟨xs.length-(i+1),by lia,rfl,YK,p'⟩,λx H' y=>?_⟩;obtain⟨e,y⟩:=y;subst e;exact hs i x σ _ (y xs q) p
 .have e:i=xs.length:=by lia
  subst e;exact .inl ⟨⟨xs,q,aT _⟩,hd σ H p⟩
theorem U_{K:aA}{a:aa}{xs:List V}{g:TG}{tb:TS}{D:Ends}{σ:St}{H:Hp}(Pv:Nat->St->Hp->Prop)(h0:Pv 0 σ H)(hl:∀i σ H,i<=xs.length->Pv i σ H->a9 K H a xs)
  (hs:∀i x σ H,xs[i]? =some x->Pv i σ H->g x σ H λYF H2=>tb {D with nx:=Pv (i+1),ct:=Pv (i+1),bk:=D.nx} YF H2)(hd:∀σ H,Pv xs.length σ H->D.nx σ H):
  ∃W:Nat->Nat->St->Hp->Prop,(∃m,W 0 m σ H)/\∀i m σ H,W i m σ H->
   ((iS K a).stop i H/\D.nx σ H)\/((iS K a).go i H/\∃N:St->Hp->Prop,(∀YD H',N YD H'->∃m',m'<m/\W (i+1) m' YD H')/\∀x H',(iS K a).yld i H x H'->g x σ H' λYF H2=>tb {D with nx:=N,ct:=N,bk:=D.nx} YF H2):=by
 refine⟨λi m σ H=>m=xs.length-i/\i<=xs.length/\Pv i σ H,⟨xs.length,by simp,dJ _,h0⟩,?_⟩;rintro i m σ H ⟨rfl,hi,p⟩;have q:=hl i σ H hi p;by_cases YK:i<xs.length
 .refine .inr ⟨⟨xs,xs[i],q,by simp[YK]⟩,Pv (i+1),λYD H' p'=>⟨xs.length-(i+1),by lia,rfl,YK,p'⟩,λx H' y=>?_⟩;obtain⟨e,y⟩:=y;subst e;exact hs i x σ _ (y xs q) p
 .have e:i=xs.length:=by lia
  subst e;exact .inl ⟨⟨xs,q,aT _⟩,hd σ H p⟩
theorem RX{lo:Int}{n:Nat}{g:TG}{tb:TS}{D:Ends}{σ:St}{H:Hp}(Pv:Nat->St->Hp->Prop)(h0:Pv 0 σ H)
  (hs:∀i σ H,i<n->Pv i σ H->g (.int (lo+i)) σ H λYF H2=>tb {D with nx:=Pv (i+1),ct:=Pv (i+1),bk:=D.nx} YF H2)(hd:∀σ H,Pv n σ H->D.nx σ H):
  ∃W:Nat->Nat->St->Hp->Prop,(∃m,W 0 m σ H)/\∀i m σ H,W i m σ H->
   ((jm lo n).stop i H/\D.nx σ H)\/((jm lo n).go i H/\∃N:St->Hp->Prop,(∀YD H',N YD H'->∃m',m'<m/\W (i+1) m' YD H')/\∀x H',(jm lo n).yld i H x H'->g x σ H' λYF H2=>tb {D with nx:=N,ct:=N,bk:=D.nx} YF H2):=by
 refine⟨λi m σ H=>m=n-i/\i<=n/\Pv i σ H,⟨n,by simp,dJ _,h0⟩,?_⟩;rintro i m σ H ⟨rfl,hi,p⟩;by_cases YK:i<n
 .refine .inr ⟨YK,Pv (i+1),λYD H' p'=>⟨n-(i+1),by lia,rfl,YK,p'⟩,λx H' y=>?_⟩;obtain⟨e,y⟩:=y;subst e y;exact hs i σ _ YK p
 .have e:i=n:=by lia
  subst e;exact .inl ⟨aT _,hd σ H p⟩
theorem FX{c:TT}{tb:TS}{D:Ends}{σ:St}{H:Hp}(Pv:St->Hp->Prop)(μ:St->Hp->Nat)(h0:Pv σ H)
  (hs:∀σ H,Pv σ H->c σ H λb H1=>if b=true then tb {D with nx:=λYD H'=>Pv YD H'/\μ YD H'<μ σ H,ct:=λYD H'=>Pv YD H'/\μ YD H'<μ σ H,bk:=D.nx} σ H1 else D.nx σ H1)
  (mono:∀σ H Q Q',(∀b H1,Q b H1->Q' b H1)->c σ H Q->c σ H Q'):zV c tb D σ H:=by
 refine⟨λm σ H=>m=μ σ H/\Pv σ H,⟨_,rfl,h0⟩,?_⟩;rintro m σ H ⟨rfl,p⟩;refine mono σ H _ _ (λb H1 q=>?_) (hs σ H p);cases b with
 |true=>exact⟨_,λYD H'⟨p',l⟩=>⟨_,l,rfl,p'⟩,q⟩
 |false=>exact q
abbrev R2:=V->V->Hp->VK->Prop
def du(X:Cx)(f:ac->ac->Sem ac)(r:R2):Prop:=
 ∀(Yw:List (aa×Obj))(s:ai)(σ:St)(H:Hp)(x y:V)(v u:ac)(Q:VK),Inv X Yw σ H s->RelV x v->RelV y u->r x y H Q->
  aq (aB X.prog X.w) X.A (f v u) (EP X Yw σ Q) X.xe s
def dh(X:Cx)(f:ac)(r:List V->Hp->VK->Prop):Prop:=
 ∀(Yw:List (aa×Obj))(s:ai)(σ:St)(H:Hp)(xs:List V)(us:List ac)(Q:VK),Inv X Yw σ H s->aR xs us->r xs H Q->
  aq (aB X.prog X.w) X.A (call f us) (EP X Yw σ Q) X.xe s
def WX(X:Cx)(r:V->Hp->(Bool->Hp->Prop)->Prop):Prop:=
 ∀(Yw:List (aa×Obj))(s:ai)(σ:St)(H:Hp)(x:V)(v:ac)(Q:Bool->Hp->Prop),Inv X Yw σ H s->RelV x v->r x H Q->
  aq (aB X.prog X.w) X.A (truthy v) (TP X Yw σ Q) X.xe s
def tu(r:R2)(ta tb:TE):TE:=λσ H Q=>ta σ H λx H1=>tb σ H1 λy H2=>r x y H2 Q
def rI(C:Int->Int->Prop)(g:Int->Int->V):R2:=λx y H Q=>∃i j,x= .int i/\y= .int j/\C i j/\Q (g i j) H
def li(g:Int->Int->V):R2:=λx y H Q=>∃i j,x= .int i/\y= .int j/\Q (g i j) H
section
variable{X:Cx}{a b c:aZ}{ta tb tc:TE}{pos:Pos}
theorem AM(ha:PE X a ta)(hb:PE X b tb){Yw:List (aa×Obj)}{s:ai}{σ:St}{H:Hp}{R:V->V->Hp->Prop}(I:Inv X Yw σ H s)
  (h:ta σ H λx H1=>tb σ H1 λy H2=>R x y H2){Q:ac->ai->Prop}{f:ac->ac->Sem ac}
  (hf:∀v u s2 x y H2,Inv X Yw σ H2 s2->RelV x v->RelV y u->R x y H2->aq (aB X.prog X.w) X.A (f v u) Q X.xe s2):
  aq (aB X.prog X.w) X.A (eval a X.env) (λv YO=>aq (aB X.prog X.w) X.A (eval b X.env) (λu Zr=>aq (aB X.prog X.w) X.A (f v u) Q X.xe Zr) X.xe YO) X.xe s:=by
 refine aW (ha Yw s σ H _ I h) λv s1 zz=>?_;obtain⟨x,H1,I1,r1,q1⟩:=zz;refine aW (hb Yw s1 σ H1 _ I1 q1) λu s2 zz=>?_;obtain⟨y,H2,I2,r2,q2⟩:=zz;exact hf v u s2 x y H2 I2 r1 r2 q2
theorem bn{op:Operator}{r:R2}(ho:du X (jZ op) r)(ha:PE X a ta)(hb:PE X b tb):PE X (.BinOp a op b pos) (tu r ta tb):=by intro Yw s σ H Q I h;exact wpAny_BinOp (AM ha hb I h λv u s2 x y H2 I2 rx ry q=>ho Yw s2 σ H2 x y v u Q I2 rx ry q)
theorem AU{f:ac->ac->Sem ac}{C:Int->Int->Prop}{g:Int->Int->Int}
  (mz:∀(i j:Int)(t u:Tok)(s:ai)(Q:ac->ai->Prop)(E:ac->ai->Prop),C i j->Q (.int (g i j) s.toks) {s with toks:=s.toks+1}->aq (aB X.prog X.w) X.A (f (.int i t) (.int j u)) Q E s):
  du X f (rI C λi j=> .int (g i j)):=by
 intro Yw s σ H x y v u Q I rx ry h;obtain⟨i,j,rfl,rfl,hc,q⟩:=h;obtain⟨t,rfl⟩:=rx;obtain⟨t',rfl⟩:=ry;exact mz i j t t' s _ _ hc ⟨.int (g i j),H,I.tok _,⟨_,rfl⟩,q⟩
theorem KN{f:ac->ac->Sem ac}{g:Int->Int->Int}
  (mz:∀(i j:Int)(t u:Tok)(s:ai)(Q:ac->ai->Prop)(E:ac->ai->Prop),Q (.int (g i j) s.toks) {s with toks:=s.toks+1}->aq (aB X.prog X.w) X.A (f (.int i t) (.int j u)) Q E s):
  du X f (li λi j=> .int (g i j)):=by
 intro Yw s σ H x y v u Q I rx ry h;obtain⟨i,j,rfl,rfl,q⟩:=h;obtain⟨t,rfl⟩:=rx;obtain⟨t',rfl⟩:=ry;exact mz i j t t' s _ _ ⟨.int (g i j),H,I.tok _,⟨_,rfl⟩,q⟩
theorem we{f:ac->ac->Sem ac}{g:Int->Int->Bool}
  (mz:∀(i j:Int)(t u:Tok)(s:ai)(Q:ac->ai->Prop)(E:ac->ai->Prop),Q (.bool (g i j)) s->aq (aB X.prog X.w) X.A (f (.int i t) (.int j u)) Q E s):
  du X f (li λi j=> .bl (g i j)):=by
 intro Yw s σ H x y v u Q I rx ry h;obtain⟨i,j,rfl,rfl,q⟩:=h;obtain⟨t,rfl⟩:=rx;obtain⟨t',rfl⟩:=ry;exact mz i j t t' s _ _ ⟨.bl (g i j),H,I,rfl,q⟩
def W0(i j:Int):Prop:=0<j/\j<1073741824
def AO(i j:Int):Prop:=(-(2^64)<i/\i<2^64)\/(-(2^64)<j/\j<2^64)
theorem AO.ok{i j:Int}(h:AO i j):IntMulOk i j:=by
 rcases h with⟨h1,h2⟩|⟨h1,h2⟩
 .exact .of_left (intBits_le_64 h1 h2)
 .exact .of_right (intBits_le_64 h1 h2)
theorem eI:du X (jZ .Add) (li λi j=> .int (i+j)):=KN λ_ _ _ _ _ _ _ q=>add_int q
theorem jD:du X (jZ .Sub) (li λi j=> .int (i-j)):=KN λ_ _ _ _ _ _ _ q=>sub_int q
theorem qh:du X (jZ .Mult) (rI AO λi j=> .int (i*j)):=AU λ_ _ _ _ _ _ _ hc q=>mul_int q hc.ok
theorem zE:du X (jZ .FloorDiv) (rI W0 λi j=> .int (i/j)):=AU λi j _ _ _ _ _ hc q=>by have h1:(0:Int)<j:=hc.1;have h2:j<1073741824:=hc.2;exact floordiv_int (by lia) (by rw[Int.fdiv_eq_ediv_of_nonneg i (by lia)];exact q) (.inl (PyProof.noPylong_small (by lia)))
theorem qi:du X (jZ .Mod) (rI (λ_ j=>0<j) λi j=> .int (i%j)):=AU λi j _ _ _ _ _ hc q=>by have h1:(0:Int)<j:=hc;exact mod_int' (by lia) (by rw[Int.fmod_eq_emod_of_nonneg i (by lia)];exact q)
end
def tj:V->V->Bool
 | .non,.non=>true| .non,.int _=>true| .int _,.non=>true| .non,.bl _=>true| .bl _,.non=>true| .non,.str _=>true| .str _,.non=>true
 | .int _,.int _=>true| .bl _,.bl _=>true| .str _,.str _=>true| .byt _,.byt _=>true
 | .int _,.str _=>true| .str _,.int _=>true| .bl _,.str _=>true| .str _,.bl _=>true
 |_,_=>false
def K3:R2:=λx y H Q=>tj x y=true/\Q (.bl (decide (x=y))) H
def AR:R2:=λx y H Q=>tj x y=true/\Q (.bl (!decide (x=y))) H
theorem IG{i j:Int}:decide (V.int i=V.int j)=(i==j):=by rw[fh];simp
theorem JM{i j:Bool}:decide (V.bl i=V.bl j)=(i==j):=by rw[fh];simp
theorem IF{i j:Str}:decide (V.str i=V.str j)=(i==j):=by rw[fh];simp
theorem IH{i j:Array UInt8}:decide (V.byt i=V.byt j)=(i.toList==j.toList):=by rw[fh];cases i;cases j;simp
section
variable{X:Cx}{a b c:aZ}{ta tb tc:TE}{pos:Pos}
theorem dg{Yw:List (aa×Obj)}{σ:St}{H:Hp}{s:ai}{Q:VK}{k k':Bool}(I:Inv X Yw σ H s)(q:Q (.bl k) H)(e:k=k'):EP X Yw σ Q (.bool k') s:=by subst e;exact⟨.bl k,H,I,rfl,q⟩
theorem g8:du X (fY .Eq) K3:=by
 intro Yw s σ H x y v u Q I rx ry h;obtain⟨hs,q⟩:=h;cases x with
 |non=>
  cases rx;cases y with
  |non=>cases ry;exact PySem.EqNone.eq_none_none (dg I q (by simp))
  |bl j=>cases ry;exact PySem.EqNone.eq_none_bool (dg I q (by simp))
  |int j=>obtain⟨t',rfl⟩:=ry;exact PySem.EqNone.eq_none_int (dg I q (by simp))
  |str j=>obtain⟨t',rfl⟩:=ry;exact PySem.EqNone.eq_none_str (dg I q (by simp))
  |_=>exact absurd (show false=true from hs) dF
 |bl i=>
  cases rx;cases y with
  |non=>cases ry;exact PySem.EqNone.eq_bool_none (dg I q (by simp))
  |bl j=>cases ry;exact eq_bool (dg I q JM)
  |str j=>obtain⟨t',rfl⟩:=ry;exact Xe (dg I q (by simp))
  |_=>exact absurd (show false=true from hs) dF
 |int i=>
  obtain⟨t,rfl⟩:=rx;cases y with
  |non=>cases ry;exact PySem.EqNone.eq_int_none (dg I q (by simp))
  |int j=>obtain⟨t',rfl⟩:=ry;exact eq_int (dg I q IG)
  |str j=>obtain⟨t',rfl⟩:=ry;exact Xi (dg I q (by simp))
  |_=>exact absurd (show false=true from hs) dF
 |str i=>
  obtain⟨t,rfl⟩:=rx;cases y with
  |non=>cases ry;exact PySem.EqNone.eq_str_none (dg I q (by simp))
  |bl j=>cases ry;exact Xd (dg I q (by simp))
  |int j=>obtain⟨t',rfl⟩:=ry;exact Xh (dg I q (by simp))
  |str j=>obtain⟨t',rfl⟩:=ry;exact eq_str (dg I q IF)
  |_=>exact absurd (show false=true from hs) dF
 |byt i=>
  obtain⟨t,rfl⟩:=rx;cases y with
  |byt j=>obtain⟨t',rfl⟩:=ry;exact PySem.W.eq_bytes (dg I q IH)
  |_=>exact absurd (show false=true from hs) dF
 |_=>cases y<;>exact absurd (show false=true from hs) dF
theorem jG:du X (fY .NotEq) AR:=by
 intro Yw s σ H x y v u Q I rx ry h;obtain⟨hs,q⟩:=h;cases x with
 |non=>
  cases rx;cases y with
  |non=>cases ry;exact PySem.EqNone.ne_none_none (dg I q (by simp))
  |bl j=>cases ry;exact PySem.EqNone.ne_none_bool (dg I q (by simp))
  |int j=>obtain⟨t',rfl⟩:=ry;exact PySem.EqNone.ne_none_int (dg I q (by simp))
  |str j=>obtain⟨t',rfl⟩:=ry;exact PySem.EqNone.ne_none_str (dg I q (by simp))
  |_=>exact absurd (show false=true from hs) dF
 |bl i=>
  cases rx;cases y with
  |non=>cases ry;exact PySem.EqNone.ne_bool_none (dg I q (by simp))
  |bl j=>cases ry;exact ne_bool (dg I q (congrArg not JM))
  |str j=>obtain⟨t',rfl⟩:=ry;exact Xc (dg I q (by simp))
  |_=>exact absurd (show false=true from hs) dF
 |int i=>
  obtain⟨t,rfl⟩:=rx;cases y with
  |non=>cases ry;exact PySem.EqNone.ne_int_none (dg I q (by simp))
  |int j=>obtain⟨t',rfl⟩:=ry;exact ne_int (dg I q (congrArg not IG))
  |str j=>obtain⟨t',rfl⟩:=ry;exact Xg (dg I q (by simp))
  |_=>exact absurd (show false=true from hs) dF
 |str i=>
  obtain⟨t,rfl⟩:=rx;cases y with
  |non=>cases ry;exact PySem.EqNone.ne_str_none (dg I q (by simp))
  |bl j=>cases ry;exact Xb (dg I q (by simp))
  |int j=>obtain⟨t',rfl⟩:=ry;exact Xf (dg I q (by simp))
  |str j=>obtain⟨t',rfl⟩:=ry;exact ne_str (dg I q (congrArg not IF))
  |_=>exact absurd (show false=true from hs) dF
 |byt i=>
  obtain⟨t,rfl⟩:=rx;cases y with
  |byt j=>obtain⟨t',rfl⟩:=ry;exact PySem.W.ne_bytes (dg I q (congrArg not IH))
  |_=>exact absurd (show false=true from hs) dF
 |_=>cases y<;>exact absurd (show false=true from hs) dF
theorem Kh:du X (fY .Lt) (li λi j=> .bl (decide (i<j))):=we λ_ _ _ _ _ _ _ q=>lt_int q
theorem io:du X (fY .LtE) (li λi j=> .bl (decide (i<=j))):=we λ_ _ _ _ _ _ _ q=>le_int q
theorem qw:du X (fY .Gt) (li λi j=> .bl (decide (j<i))):=we λ_ _ _ _ _ _ _ q=>gt_int q
theorem WA:du X (fY .GtE) (li λi j=> .bl (decide (j<=i))):=we λ_ _ _ _ _ _ _ q=>ge_int q
theorem bZ(b:aZ){op:mq}(h:op≠ .In:=by decide)(h2:op≠ .NotIn:=by decide):m_ op b=false:=by
 have e1:(op==CmpOp.In)=false:=by cases op<;>first|rfl|exact absurd rfl h
 have e2:(op==P1)=false:=by cases op<;>first|rfl|exact absurd rfl h2
 cases b<;>simp[m_,e1,e2]
theorem ii{op:mq}{r:R2}(ho:du X (fY op) r)(ha:PE X a ta)(hb:PE X b tb)(hm:m_ op b=false):PE X (.Compare a [op] [b] pos) (tu r ta tb):=by intro Yw s σ H Q I h;exact wpAny_Compare1 (AM ha hb I h λv u s2 x y H2 I2 rx ry q=>ho Yw s2 σ H2 x y v u Q I2 rx ry q) hm
def Ak(t:TE):TT:=λσ H Q=>t σ H λx H'=>∃k,x= .bl k/\Q k H'
theorem db{op:mq}{r:R2}(ho:du X (fY op) r)(ha:PE X a ta)(hb:PE X b tb)(hm:m_ op b=false):PT X (.Compare a [op] [b] pos) (Ak (tu r ta tb)):=by
 intro Yw s σ H Q I h;refine LR (aW (ha Yw s σ H _ I h) λv s1 zz=>e2_3 zz λx H1 I1 r1 q1=>aW (hb Yw s1 σ H1 _ I1 q1) λu s2 zz=>e2_3 zz λy H2 I2 r2 q2=> aW (ho Yw s2 σ H2 x y v u _ I2 r1 r2 q2) λc s3 zz=>?_) hm
 obtain⟨z,H3,I3,r3,k,e,q3⟩:=zz;subst e;cases r3;exact kG ⟨H3,I3,q3⟩
def zW(r r':R2)(ta tb tc:TE):TE:=λσ H Q=>ta σ H λx H1=>tb σ H1 λy H2=>r x y H2 λz H3=>∃k,z= .bl k/\
 (if k=true then tc σ H3 λw' H4=>r' y w' H4 Q else Q (.bl false) H3)
theorem Gw{op op':mq}{r r':R2}(ho:du X (fY op) r)(Η:du X (fY op') r')(ha:PE X a ta)(hb:PE X b tb)(hc:PE X c tc)
  (hm:lastMarks [op,op'] [b,c]=false:=by with_unfolding_all rfl):PE X (.Compare a [op,op'] [b,c] pos) (zW r r' ta tb tc):=by
 intro Yw s σ H Q I h;refine Compare_chain (aW (ha Yw s σ H _ I h) λv s1 zz=>e2_3 zz λx H1 I1 r1 q1=>chain_link (aW (hb Yw s1 σ H1 _ I1 q1) λu s2 zz=>e2_3 zz λy H2 I2 r2 q2=> aW (ho Yw s2 σ H2 x y v u _ I2 r1 r2 q2) λd s3 zz=>?_)) hm
 obtain⟨z,H3,I3,r3,k,e,q3⟩:=zz;subst e;cases r3;refine kG ?_;cases k with
 |false=>exact ite_ff ⟨.bl false,H3,I3,rfl,q3⟩
 |true=>exact ite_tt (chain_last (aW (hc Yw s3 σ H3 _ I3 q3) λw' s4 zz=>e2_3 zz λz' H4 I4 r4 q4=>Η Yw s4 σ H4 y z' u w' Q I4 r2 r4 q4))
theorem va{op op':mq}{r r':R2}(ho:du X (fY op) r)(Η:du X (fY op') r')(ha:PE X a ta)(hb:PE X b tb)(hc:PE X c tc)
  (hm:lastMarks [op,op'] [b,c]=false:=by with_unfolding_all rfl):PT X (.Compare a [op,op'] [b,c] pos) (Ak (zW r r' ta tb tc)):=by
 intro Yw s σ H Q I h;refine isTrue_chain (aW (ha Yw s σ H _ I h) λv s1 zz=>e2_3 zz λx H1 I1 r1 q1=>test_link (aW (hb Yw s1 σ H1 _ I1 q1) λu s2 zz=>e2_3 zz λy H2 I2 r2 q2=> aW (ho Yw s2 σ H2 x y v u _ I2 r1 r2 q2) λd s3 zz=>?_)) hm
 obtain⟨z,H3,I3,r3,k,e,q3⟩:=zz;subst e;cases r3;refine kG ?_;cases k with
 |false=>obtain⟨k',e',q'⟩:=q3;cases e';exact ite_ff ⟨H3,I3,q'⟩
 |true=>refine ite_tt (test_last (aW (hc Yw s3 σ H3 _ I3 q3) λw' s4 zz=>e2_3 zz λz' H4 I4 r4 q4=>aW (Η Yw s4 σ H4 y z' u w' _ I4 r2 r4 q4) λd' s5 zz=>?_));obtain⟨z2,H5,I5,r5,k2,e2,q5⟩:=zz;subst e2;cases r5;exact kG ⟨H5,I5,q5⟩
def wm(K:aA)(x:V)(H:Hp)(k:Bool):Prop:=
 match x with
 | .non=>k=false
 | .bl b=>k=b
 | .int i=>k=(i !=0)
 | .str y=>y.length<=aU/\k=((y.length:Int) !=0)
 | .byt y=>y.size<=aU/\k=((y.size:Int) !=0)
 | .ref p=>(∃xs,ay K H p xs/\k= !xs.isEmpty)\/(∃xs,a9 K H p xs/\k= !xs.isEmpty)\/∃Yy,H p=some (.dK Yy)/\k= !Yy.isEmpty
 |_=>False
theorem QY{κ:Type}{Yy:List (κ×V)}{vs:List (κ×ac)}(r:KV Yy vs):(!vs.isEmpty)= !Yy.isEmpty:=by cases r<;>rfl
theorem EQ{xs:List V}{YA:List ac}(r:aR xs YA):(!YA.toArray.isEmpty)= !xs.isEmpty:=by cases r<;>simp
theorem vP:(aU:Nat)<2^63:=by rw[bC];decide
theorem Vq:WX X (λx H Q=>∃k,wm X.K x H k/\Q k H):=by
 intro Yw s σ H x v Q I rx h;obtain⟨k,e,q⟩:=h;have hl:=vP;have hs:aU=16777216:=bC;cases x with
 |non=>cases rx;have e':k=false:=e;subst e';exact truthy_none ⟨H,I,q⟩
 |bl b=>cases rx;have e':k=b:=e;subst e';exact kG ⟨H,I,q⟩
 |int i=>obtain⟨t,rfl⟩:=rx;have e':k=(i !=0):=e;subst e';exact PySem.P.truthy_int ⟨H,I,q⟩
 |str y=>obtain⟨t,rfl⟩:=rx;obtain⟨hy,e'⟩:y.length<=aU/\k=((y.length:Int) !=0):=e;subst e';exact PySem.P.truthy_str (by lia) ⟨H,I.tok _,q⟩
 |byt y=>obtain⟨t,rfl⟩:=rx;obtain⟨hy,e'⟩:y.size<=aU/\k=((y.size:Int) !=0):=e;subst e';exact PySem.W.truthy_bytes (by lia) ⟨H,I.tok _,q⟩
 |ref p=>
  cases rx;have e':(∃xs,ay X.K H p xs/\k= !xs.isEmpty)\/(∃xs,a9 X.K H p xs/\k= !xs.isEmpty)\/∃Yy,H p=some (.dK Yy)/\k= !Yy.isEmpty:=e;rcases e' with⟨xs,hx,e'⟩|⟨xs,hx,e'⟩|⟨Yy,hx,e'⟩
  .subst e';obtain⟨YA,r,pl,hz⟩:=I.list hx;have YG:=r.length;exact wpAny_truthy_list pl.isList (by simp only[b6];lia) ⟨H,I.tok _,by rw[EQ r];exact q⟩
  .subst e';obtain⟨YA,r,pl,hz⟩:=I.tuple hx;have YG:=r.length;exact truthy_tuple pl (by simp only[b6];lia) ⟨H,I.tok _,by rw[EQ r];exact q⟩
  .subst e';obtain⟨hz,hS,vs,r,m⟩:Yy.length<=aU/\(p==ia)=false/\∃vs,KV Yy vs/\s.heap.DictOf (dN X.prog X.w) p vs:=I.YB p _ hx;have YG:Yy.length=vs.length:=dH r;exact wpAny_truthy_dict hS m (by lia) ⟨H,I.tok _,by rw[QY r];exact q⟩
 |_=>exact(show False from e).elim
theorem Gr(ha:PE X a ta)(he:∀whole,sS a X.env whole=(do let v <-whole;sD a.pos;n9 [v] (truthy v))):
  PT X a (λσ H Q=>ta σ H λx H'=>∃k,wm X.K x H' k/\Q k H'):=by
 intro Yw s σ H Q I h;exact isTrue_plain (aW (ha Yw s σ H _ I h) λv s1 zz=>e2_3 zz λx H1 I1 r1 q1=>Vq Yw s1 σ H1 x v Q I1 r1 q1) (he _)
theorem vals1{x:V}{us:List ac}(r:aR [x] us):∃u,us=[u]/\RelV x u:=by
 cases r with
 |cons r1 r2=>cases r2;exact⟨_,rfl,r1⟩
end
structure oM(h:aM)(x dx C:aa)(mA:Str->Option ac):Prop where
 obj:h.get? x=some (mW C dx)
 ns:h.Ns1 dx mA
 ne:dx≠x
theorem RK{h:aM}{dx:aa}{mA:Str->Option ac}(n:h.Ns1 dx mA):∃od,h.get? dx=some od/\∀name,xy name od=some (mA name):=by
 obtain⟨o,es,ep,ho,hd,hk,_,hm⟩:=n;refine⟨o,ho,λname=>?_⟩;have e:=hm name;unfold nsFind findBy at e;rw[<-Array.find?_toList]at e;unfold xy;rw[hd];dsimp only;split
 .rename_i y q;rw[q]at e;exact congrArg some e
 .rename_i q;rw[q]at e;have a:es.toList.any (·.refKey)=false:=by rw[B2];intro y hy;obtain⟨z,t,abe⟩:=hk y (lx.mp hy);simp[DictEntry.refKey,abe]
  have a':¬es.toList.any (·.refKey)=true:=by rw[a];exact dF
  rw[if_neg a'];exact congrArg some e
theorem oM.look{h:aM}{x dx C:aa}{mA:Str->Option ac}(I:oM h x dx C mA):∃od,PySem.W.InstAt h x (mW C dx) C (some od)/\∀name,xy name od=some (mA name):=
 let⟨od,ho,hl⟩:=RK I.ns
 ⟨od,⟨I.obj,rfl,rfl,ho⟩,hl⟩
section
variable{prog:ba}{w:aQ}{A:bh}{E:ac->ai->Prop}{s:ai}{K:aA}{x dx C f:aa}{mA:Str->Option ac}{name:Str}{v:ac}
theorem U8{amA:Bool}{Q:ac->ai->Prop}(X:K.In s.heap)(I:oM s.heap x dx C mA)(hg:w9 K C name=true)(hh:BX K C=true)
  (ha:iE K (.ref C) name=some none)(hv:mA name=some v)(hv':M8 v=true)(h:Q v {s with toks:=s.toks+1}):
  aq (aB prog w) A (getAttr (.ref x) name amA) Q E s:=by
 obtain⟨od,J,hl⟩:=I.look;exact PySem.W.get_value X J (Bx hg).1 (PySem.W.findObj_own hh ha rfl (by rw[hl,hv])) hv' h
theorem Td{pl:Sem Bool}{Q:ac×List ac->ai->Prop}(X:K.In s.heap)(I:oM s.heap x dx C mA)(hg:w9 K C name=true)
  (hf:iE K (.ref C) name=some (some (.ref f)))(ht:ur K (.ref f)=true)(hv:mA name=none)(h:Q (.ref f,[.ref x]) s):
  aq (aB prog w) A (rW (.ref x) name pl) Q E s:=by
 obtain⟨od,J,hl⟩:=I.look;exact PySem.W.method_fn X J (Bx hg).1 (Bx hg).2 hf (beq_iff_eq.mp ht) (by show(xy name od).map (·.isSome)=some false;rw[hl,hv];rfl) h
theorem Uq{ns:List Str}{Q:Unit->ai->Prop}(X:K.In s.heap)(I:oM s.heap x dx C mA)
  (hs:iE K (.ref C) "__setattr__"=some (some (.builtin "object.__setattr__")))(hp:MK K C=true)(ht:CC K C name=some none)(hh:BX K C=true)
  (hw:DT mA ns)(YV:ns.length<=aU)
  (h:∀h',oM h' x dx C (λy=>if y=name then some v else mA y)->cW dx s.heap h'->Q () {s with heap:=h',toks:=s.toks+2}):
  aq (aB prog w) A (setAttr (.ref x) name v) Q E s:=by
 obtain⟨od,J,hl⟩:=I.look;refine PySem.W.set_plain X J hs (PySem.W.osa_open (s:={s with toks:=s.toks+1}) (r:=none) X J hp ht λb=>?_);obtain⟨cd,hc,Z1⟩:=PySem.W.any_some hh;have hx:s.heap.get? x=some ⟨.ref C,some dx,.plain,#[]⟩:=I.obj;refine ah (aw (ah (ah (wpAny_loadPart hx (ah (Xo (s:={s with toks:=s.toks+1}) (PySem.W.looks_clsIn X hc) ?_))))));rw[Z1];refine aw (a:=some dx) (ah (aw (ah ?_)));refine wpAny_nsSet1 (s:={s with toks:=s.toks+1}) I.ns λh' hn2 hs2=>?_;obtain⟨oD,esD,epD,hoD,hdD,hcD⟩:=hn2.count (PySem.Within.cons name v hw);refine ah (wpAny_lookBehind hoD (by rw[hdD];exact pastItsLine_dict (cV hcD (by rw[cC];lia))) ?_);exact aw (h _ ⟨(hs2.2 _ (aX I.ne)).trans I.obj,hn2,I.ne⟩ hs2)
theorem S5{R:Result->ai->Prop}{vs:List ac}{kw:List (Str×ac)}(X:K.In s.heap)(hm:CD K C=true)
  (hi:iE K (.ref C) "__init__"=some (some (.ref f)))(hf:PySem.W.typeIn K (.ref f)=some (.type "function"))
  (h:lV (aB prog w) (A.under (.builtin "type.__call__" ⟨.ref C::vs,kw⟩)) (.call (.ref f) ⟨.ref (s.heap.objs.size+1)::vs,kw⟩) (PySem.W.InitBack (s.heap.objs.size+1) R) {s with heap:=(s.heap.push ly).push (mW C s.heap.objs.size)}):
  lV (aB prog w) A (.call (.ref C) ⟨vs,kw⟩) R s:=by
 obtain⟨hh,g,d,t,os⟩:=s;exact PySem.W.make_core (PySem.W.makes_of X hm) (PySem.W.looks_findIn X hi) (λself=>PySem.W.bind_fn X self hf) (.inl rfl) h
end
def bE(f:Str)(v:V):List (Str×V)->List (Str×V)
 |[]=>[(f,v)]
 |(g,x)::r=>if g=f then(g,v)::r else(g,x)::bE f v r
theorem Ec(f g:Str)(v:V):∀fs:List (Str×V),(bE f v fs).lookup g=if g=f then some v else fs.lookup g
 |[]=>by
  show ny g [(f,v)]=_;by_cases h:g=f
  .have hb:(g==f)=true:=beq_iff_eq.mpr h;simp only[ny,hb,if_pos h]
  .have hb:(g==f)=false:=beq_eq_false_iff_ne.mpr h;simp only[ny,hb,if_neg h]
 |(k,x)::r=>by
  have ih:=Ec f g v r;rw[show bE f v ((k,x)::r)=(if k=f then(k,v)::r else(k,x)::bE f v r)from rfl];by_cases hk:k=f
  .rw[if_pos hk];by_cases h:g=k
   .have hb:(g==k)=true:=beq_iff_eq.mpr h;simp only[ny,hb,if_pos (h.trans hk)]
   .have hb:(g==k)=false:=beq_eq_false_iff_ne.mpr h;simp only[ny,hb,if_neg (λe:g=f=>h (e.trans hk.symm))]
  .rw[if_neg hk];by_cases h:g=k
   .have hb:(g==k)=true:=beq_iff_eq.mpr h;simp only[ny,hb,if_neg (λe:g=f=>hk (h.symm.trans e))]
   .have hb:(g==k)=false:=beq_eq_false_iff_ne.mpr h;simp only[ny,hb];exact ih
theorem yy(f:Str)(v:V):∀fs:List (Str×V),f∈(bE f v fs).map (·.1)/\∀g,g∈fs.map (·.1)->g∈(bE f v fs).map (·.1)
 |[]=>⟨by simp[bE],λg h=>by simp at h⟩
 |(k,x)::r=>by
  obtain⟨i1,i2⟩:=yy f v r;rw[show bE f v ((k,x)::r)=(if k=f then(k,v)::r else(k,x)::bE f v r)from rfl];by_cases hk:k=f
  .rw[if_pos hk];subst hk;exact⟨by simp,λg h=>by simpa using h⟩
  .rw[if_neg hk];refine⟨?_,λg h=>?_⟩
   .rw[bb];exact bq _ i1
   .rw[bb]at h ⊢;rcases aV.mp h with e|e
    .exact aV.mpr (.inl e)
    .exact bq _ (i2 g e)
theorem iZ(f:Str)(v:V):∀fs:List (Str×V),(bE f v fs).length<=fs.length+1
 |[]=>by simp[bE]
 |(k,x)::r=>by
  have ih:=iZ f v r;rw[show bE f v ((k,x)::r)=(if k=f then(k,v)::r else(k,x)::bE f v r)from rfl];by_cases hk:k=f
  .rw[if_pos hk,cC,cC];lia
  .rw[if_neg hk,cC,cC];lia
theorem gd.some_of{v:V}{o:Option ac}(r:gd (some v) o):∃u,o=some u/\RelV v u:=by
 cases o with
 |none=>exact(show False from r).elim
 |some u=>exact⟨u,rfl,r⟩
theorem gd.none_of{o:Option ac}(r:gd none o):o=none:=by
 cases o with
 |none=>rfl
 |some u=>exact(show False from r).elim
theorem RT{v:V}{u:ac}(r:RelV v u):M8 u=true:=by
 cases v with
 |non=>cases(show u=jy from r);rfl
 |bl b=>cases(show u=nE b from r);rfl
 |int i=>obtain⟨t,e⟩:=(show∃t,u=i8 i t from r);cases e;rfl
 |str x=>obtain⟨t,e⟩:=(show∃t,u=uX x t from r);cases e;rfl
 |byt b=>obtain⟨t,e⟩:=(show∃t,u=PV b t from r);cases e;rfl
 |flt b=>obtain⟨t,e⟩:=(show∃t,u=PU b t from r);cases e;rfl
 |ref a=>cases(show u=cv a from r);rfl
 |ty n=>cases(show u=jX n from r);rfl
section
variable{P:ba}{w:aQ}{H H':Hp}{h h':aM}{a C dx:aa}{fs fs':List (Str×V)}{f:aa}{fd:dX}
theorem zK(YB:cz P w H h)(e:H a=some (.ins C dx fs)):∃mA,oM h a dx C mA/\(∀f,gd (fs.lookup f) (mA f))/\DT mA (fs.map (·.1))/\fs.length<=1000/\H dx=some (.own a):=by obtain⟨d,z,ne,ob,mA,n,r,q⟩:=(show di P w H h a (.ins C dx fs)from YB a _ e);exact⟨mA,⟨ob,n,ne⟩,r,q,z,d⟩
end
structure dR(K:aA)(C:aa):Prop where
 pg:w9 K C Str.empty=true
 hd:BX K C=true
 po:MK K C=true
 sa:iE K (.ref C) "__setattr__"=some (some (.builtin "object.__setattr__"))
theorem dR.get{K:aA}{C:aa}(c:dR K C)(f:Str):w9 K C f=true:=c.pg
def cJ(K:aA)(C:aa)(f:Str):Prop:=iE K (.ref C) f=some none
theorem cJ.taker{K:aA}{C:aa}{f:Str}(n:cJ K C f):CC K C f=some none:=by unfold CC;rw[show iE K (.ref C) f=some none from n];rfl
structure Yv(K:aA)(C:aa)(f:Str)(v:V)(u:ac):Prop where
 at_:iE K (.ref C) f=some (some u)
 rel:RelV v u
 get:MJ K u "__get__"=some none
 cp:PySem.W.copiedNames.contains f=false
structure tp(K:aA)(C:aa)(m:Str)(f:aa):Prop where
 at_:iE K (.ref C) m=some (some (.ref f))
 fn:ur K (.ref f)=true
 kp:jT K (.ref f)=true
section
variable{X:Cx}{Yw:List (aa×Obj)}{σ:St}{H:Hp}{s:ai}{a C dx:aa}{fs:List (Str×V)}{f:Str}{v:V}{A:bh}{E:ac->ai->Prop}
theorem Q3{b:Bool}{Q:ac->ai->Prop}(I:Inv X Yw σ H s)(e:H a=some (.ins C dx fs))(c:dR X.K C)(n:cJ X.K C f)(l:fs.lookup f=some v)
  (h:∀u s',Inv X Yw σ H s'->RelV v u->Q u s'):aq (aB X.prog X.w) A (getAttr (.ref a) f b) Q E s:=by
 obtain⟨mA,O,r,_,_,_⟩:=zK I.YB e;obtain⟨u,hu,ru⟩:=gd.some_of (v:=v) (o:=mA f) (by rw[<-l];exact r f);exact U8 I.kIn O (c.get f) c.hd n hu (RT ru) (h u _ (I.tok _) ru)
theorem ER{m:Str}{g:aa}{pl:Sem Bool}{Q:ac×List ac->ai->Prop}(I:Inv X Yw σ H s)(e:H a=some (.ins C dx fs))(c:dR X.K C)(k:tp X.K C m g)(l:fs.lookup m=none)
  (h:Q (.ref g,[.ref a]) s):aq (aB X.prog X.w) A (rW (.ref a) m pl) Q E s:=by
 obtain⟨mA,O,r,_,_,_⟩:=zK I.YB e;have hn:mA m=none:=gd.none_of (by rw[<-l];exact r m);exact Td I.kIn O (c.get m) k.at_ k.fn hn h
theorem Qk{y:V}{u:ac}{Q:Unit->ai->Prop}(I:Inv X Yw σ H s)(e:H a=some (.ins C dx fs))(c:dR X.K C)(n:cJ X.K C f)(hl:fs.length<1000)(ry:RelV y u)
  (h:∀s',Inv X Yw σ (upd H a (.ins C dx (bE f y fs))) s'->Q () s'):aq (aB X.prog X.w) A (setAttr (.ref a) f u) Q E s:=by
 obtain⟨mA,O,r,wi,_,ho⟩:=zK I.YB e;have hz:(fs.map (·.1)).length<=aU:=by rw[aE,bC];lia
 refine Uq I.kIn O c.sa c.po n.taker c.hd wi hz λh' O' sb=>h _ ?_;have hd:∃o,h'.get? dx=some o:=let⟨o,_,_,e',_⟩:=O'.ns;⟨o,e'⟩;refine I.write (x:=a) (e:=dx) (by rw[e];exact nF) (.inr ho) (λb q hb z=>(sb.2 b hb).trans z) hd ?_;refine⟨by rw[aj O.ne];exact ho,?_,O.ne,O'.obj,_,O'.ns,λg=>?_,λg hg=>?_⟩
 .have:=iZ f y fs;lia
 .show gd ((bE f y fs).lookup g) (if g=f then some u else mA g);rw[Ec];by_cases q:g=f
  .rw[if_pos q,if_pos q];exact ry
  .rw[if_neg q,if_neg q];exact r g
 .by_cases q:g=f
  .rw[q];exact(yy f y fs).1
  .refine(yy f y fs).2 g (wi g λz=>hg ?_);show(if g=f then some u else mA g)=none;rw[if_neg q];exact z
theorem Inv.made(I:Inv X Yw σ H s):Inv X Yw σ (upd (upd H s.heap.objs.size (.own (s.heap.objs.size+1))) (s.heap.objs.size+1) (.ins C s.heap.objs.size []))
  {s with heap:=(s.heap.push ly).push (mW C s.heap.objs.size)}:=by
 have e1:(s.heap.push ly).get? s.heap.objs.size=some ly:=cZ s.heap rfl;have e2:((s.heap.push ly).push (mW C s.heap.objs.size)).get? (s.heap.objs.size+1)=some (mW C s.heap.objs.size):=by have:=cZ (s.heap.push ly) (o:=mW C s.heap.objs.size) rfl;rwa[iF]at this
 have e3:(s.heap.push ly).Ns s.heap.objs.size (λ_=>none):=⟨ly,#[],_,e1,rfl,(λe he=>absurd he (by simp)),λ_=>rfl⟩;have I1:=I.laid (a:=s.heap.objs.size) (o:= .own (s.heap.objs.size+1)) (h':=s.heap.push ly) (t':=s.toks) (λb u q=>cS _ q) (aT _) ⟨_,e1⟩;refine I1.laid (a:=s.heap.objs.size+1) (o:= .ins C s.heap.objs.size []) (t':=s.toks) (λb u q=>cS _ q) (uv (iF _ _)) ?_;have ne:s.heap.objs.size≠s.heap.objs.size+1:=cx (t8 _);refine⟨by rw[aj ne,am],dJ _,ne,e2,λ_=>none,(Heap.Ns1.of_empty e3).at λo q=>cS _ q,λ_=>nF,λy hy=>absurd rfl hy⟩
theorem Vh{prog:ba}{w:aQ}{env:Env}{e:aZ}{f:Str}{pos:Pos}{s:ai}{Q:ac->ai->Prop}(hb:ng e f env (eval e env)=eval e env)
  (h:aq (aB prog w) A (eval e env) (λo YO=>aq (aB prog w) A (getAttr o f true) Q E YO) E s):aq (aB prog w) A (eval (.Attribute e f pos) env) Q E s:=
 Attribute_any_ h (by rw[arm_eval_Attribute,hb])
end
def Az(K:aA)(ta:TE)(f:Str):TE:=λσ H Q=>ta σ H λx H1=>∃a C dx fs v,x= .ref a/\H1 a=some (.ins C dx fs)/\dR K C/\cJ K C f/\fs.lookup f=some v/\Q v H1
def Kz(K:aA)(ta tv:TE)(f:Str):TS:=λD σ H=>tv σ H λy H1=>ta σ H1 λx H2=>∃a C dx fs,x= .ref a/\H2 a=some (.ins C dx fs)/\dR K C/\cJ K C f/\fs.length<1000/\
 D.nx σ (upd H2 a (.ins C dx (bE f y fs)))
section
variable{X:Cx}{o e value:aZ}{f:Str}{pos ZN abq:Pos}{ta tv:TE}
theorem aD(he:PE X e ta)(hb:ng e f X.env (eval e X.env)=eval e X.env):PE X (.Attribute e f pos) (Az X.K ta f):=by intro Yw s σ H Q I h;refine Vh hb (aW (he Yw s σ H _ I h) λu s1 zz=>?_);obtain⟨x,H1,I1,rx,a,C,dx,fs,v,ex,ea,c,n,l,q⟩:=zz;subst ex;obtain rfl:u=cv a:=rx;exact Q3 I1 ea c n l λu' s2 I2 ru=>⟨v,H1,I2,ru,q⟩
theorem df(ha:PE X o ta)(hv:PE X value tv)(hs:nL value (some (.Attribute o f ZN)) pos.line X.env=pure false):PS X (.Assign [.Attribute o f ZN] value pos) (Kz X.K ta tv f):=by intro Yw s σ H D I h;refine plainObj_wpAny_Assign_Attribute (aW (hv Yw s σ H _ I h) λu s1 zz=>e2_3 zz λy H1 I1 ry q=>aW (ha Yw s1 σ H1 _ I1 q) λov s2 zz=>?_) hs;obtain⟨x,H2,I2,rx,a,C,dx,fs,ex,ea,c,n,l,q2⟩:=zz;subst ex;obtain rfl:ov=cv a:=rx;exact Qk I2 ea c n l ry λs3 I3=>⟨σ,_,I3,q2⟩
end
section
variable{X:Cx}{Yw:List (aa×Obj)}{σ:St}{H:Hp}{s:ai}{A:bh}{E:ac->ai->Prop}{Q:ac->ai->Prop}{c:ac}{b:Bool}
inductive jN(K:aA)(H:Hp):V->ac->Prop where
 |non:jN K H .non (.type "NoneType")
 |bl (x:Bool):jN K H (.bl x) (.type "bool")
 |int (i:Int):jN K H (.int i) (.type "int")
 |str (x:Str):jN K H (.str x) (.type "str")
 |flt (x:UInt64):jN K H (.flt x) (.type "float")
 |lst {a:aa} {xs:List V} (e:H a=some (.lst xs)):jN K H (.ref a) (.type "list")
 |frz {a:aa} {o:Obj} {xs:List V} (e:H a=some (.frz o (.lst xs))):jN K H (.ref a) (.type "list")
 |tup {a:aa} {xs:List V} (e:H a=some (.tup xs)):jN K H (.ref a) (.type "tuple")
 |dK {a:aa} {Yy:List (aJ×V)} (e:H a=some (.dK Yy)):jN K H (.ref a) (.type "dict")
 |dT {a:aa} {Yy:List (List aJ×V)} (e:H a=some (.dT Yy)):jN K H (.ref a) (.type "dict")
 |ins {a C dx:aa} {fs:List (Str×V)} (e:H a=some (.ins C dx fs)) (cl:dR K C) (ha:iE K (.ref C) "__class__"=some (some (.builtin "object.__class__")))
   (hn:MJ K (.builtin "object.__class__") "__get__"=some (some (.builtin "getset_descriptor.__get__"))) (htk:PySem.W.takesIn K (.builtin "object.__class__")=some true)
   (hm:PySem.W.mroIn K C (.type "object")=some true):jN K H (.ref a) (.ref C)
end
structure cr(k:Nat)(A:bh):Prop where
 hd:A.handled=none
 dp:A.depth+3*k+5<recursionLimit
 un:A.units+16*k+200<fb
theorem cr.mono{j k:Nat}{A:bh}(r:cr k A)(h:j<=k):cr j A:=⟨r.hd,by have:=r.dp;lia,by have:=r.un;lia⟩
theorem cr.deeper{k:Nat}{A:bh}(r:cr (k+1) A)(env:Env):cr k (A.deeper env):=
 ⟨r.hd,by have:=r.dp;show A.depth+1+3*k+5<_;lia,by have:=r.un;show A.units+3+16*k+200<_;lia⟩
theorem QW{A:bh}{C:aa}{us:List ac}{kw:List (Str×ac)}:(A.under (.builtin "type.__call__" ⟨.ref C::us,kw⟩)).depth=A.depth+1:=by
 first|rfl|simp[D1,Code.weight,Code.isCreation,Code.isGuard,Code.isCaller,P0,DY,guardIds]
theorem QV{A:bh}{C:aa}{us:List ac}{kw:List (Str×ac)}:(A.under (.builtin "type.__call__" ⟨.ref C::us,kw⟩)).units=A.units+1:=by
 first|rfl|simp[D1,Code.cUnits,P0,DY]
theorem cr.make{k:Nat}{A:bh}(r:cr (k+1) A)(C:aa)(us:List ac)(kw:List (Str×ac)):cr k (A.under (.builtin "type.__call__" ⟨.ref C::us,kw⟩)):=
 ⟨r.hd,by have:=r.dp;rw[QW];lia,by have:=r.un;rw[QV];lia⟩
theorem cr.depth{k:Nat}{A:bh}(r:cr k A):A.depth<recursionLimit:=by have:=r.dp;lia
theorem cr.units{k:Nat}{A:bh}(r:cr k A):A.units+64<fb:=by have:=r.un;lia
def qA:TA:=λ_ H Q=>Q [] H
def JW(ta:TE)(tr:TA):TA:=λσ H Q=>ta σ H λx H1=>tr σ H1 λxs H2=>Q (x::xs) H2
section
variable{X:Cx}{e:aZ}{es:List aZ}{te:TE}{t:TA}{pos:Pos}
theorem ak:PA X [] qA:=λ_ _ _ _ H Q I h=>B4 ⟨[],H,I,.nil,h⟩
theorem af(ha:PE X e te)(hr:PA X es t)(hs:bP (e::es) X.env=(false,eval e X.env)::bP es X.env:=by rfl):PA X (e::es) (JW te t):=by intro pos Yw s σ H Q I h;rw[hs];show aq _ _ (spliced ((false,eval e X.env)::fq pos (bP es X.env))) _ _ s;refine wU (aW (ha Yw s σ H _ I h) λu s1 zz=>?_);obtain⟨x,H1,I1,r1,q1⟩:=zz;exact aW (hr pos Yw s1 σ H1 _ I1 q1) λus s2 zz=>e2_3 zz λxs H2 I2 r2 q2=>⟨x::xs,H2,I2,.cons r1 r2,q2⟩
def Km(t:TA):TE:=λσ H Q=>t σ H λxs H1=>xs.length<=aU/\∀p,H1 p=none->Q (.ref p) (upd H1 p (.tup xs))
def Ks(t:TA):TE:=λσ H Q=>t σ H λxs H1=>xs.length<=aU/\∀p,H1 p=none->Q (.ref p) (upd H1 p (.lst xs))
theorem qf{x1}(h:PA X es t):PE X (.Tuple es x1 pos) (Km t):=by intro Yw s σ H Q I hq;refine wpAny_Tuple_spliced (aW (h pos Yw s σ H _ I hq) λus s1⟨xs,H1,I1,r,z,q⟩=>⟨by rw[<-r.length];exact z,?_⟩);have hf:H1 s1.heap.objs.size=none:=I1.YB.fresh (aT _);refine⟨.ref s1.heap.objs.size,upd H1 s1.heap.objs.size (.tup xs),I1.laid (t':=s1.toks) (λb u e=>cS _ e) (aT _) ?_,rfl,q _ hf⟩;exact⟨z,us,r,⟨_,cZ _ rfl,rfl,_,rfl⟩⟩
theorem bI(h:PA X es t):PE X (.List es pos) (Ks t):=by intro Yw s σ H Q I hq;refine wpAny_List_spliced (aW (h pos Yw s σ H _ I hq) λus s1⟨xs,H1,I1,r,z,q⟩=>⟨by rw[<-r.length];exact z,?_⟩);have hf:H1 s1.heap.objs.size=none:=I1.YB.fresh (aT _);refine⟨.ref s1.heap.objs.size,upd H1 s1.heap.objs.size (.lst xs),I1.laid (t':=s1.toks) (λb u e=>cS _ e) (aT _) ?_,rfl,q _ hf⟩;exact⟨z,us,0,r,cZ _ rfl⟩
end
abbrev Sp:=List V->Hp->VK->XK->Prop
abbrev gx:=List Env->Hp->ai->XK->ac->ai->Prop
structure oN(P:ba)(w:aQ)(K:aA)(mg:Str->Option ac)(Yx:aM)(A:bh)(outer:List Env)(s:ai)(H:Hp):Prop where
 frames:A.frames=some outer
 mod:Mod K mg Yx
 bs:∀b o,Yx.get? b=some o->s.heap.get? b=some o/\H b=none
 bsz:Yx.objs.size<=s.heap.objs.size
 funs:s.heap.FunFrames Yx outer
 frf:∀b∈jP outer,H b=none
 YB:cz P w H s.heap
 bare:p9 s.gens
def CE(outer:List Env)(P:ba)(w:aQ)(H:Hp)(s:ai)(Q:VK)(u:ac)(s':ai):Prop:=
 ∃v H',s'.os=s.os/\p9 s'.gens/\Un (jP outer) [] H H' s.heap s'.heap/\cz P w H' s'.heap/\RelV v u/\Q v H'
def CR(CX:gx)(outer:List Env)(P:ba)(w:aQ)(H:Hp)(s:ai)(Q:VK)(E:XK)(r:Result)(s':ai):Prop:=
 match r with
 | .ok (.ret u)=>CE outer P w H s Q u s'
 | .ok _=>False
 | .error e=>CX outer H s E e s'
structure aI(P:ba)(w:aQ)(K:aA)(mg:Str->Option ac)(Yx:aM)(CX:gx)(k:Nat)(f:aa)(fd:dX)(ps:List Str)(sp:Sp):Prop where
 len:∀vs H Q E,sp vs H Q E->vs.length=ps.length
 run:∀(A:bh)(outer:List Env)(s:ai)(H:Hp)(args:Args)(us:List ac)(vs:List V)(Q:VK)(E:XK),cr k A->oN P w K mg Yx A outer s H->p8 s fd args (ps.zip us)->aR vs us->sp vs H Q E->
  lV (aB P w) A (.call (.ref f) args) (CR CX outer P w H s Q E) s
theorem aI.mono{P:ba}{w:aQ}{K:aA}{mg:Str->Option ac}{Yx:aM}{CX:gx}{j k:Nat}{f:aa}{fd:dX}{ps:List Str}{sp:Sp}(F:aI P w K mg Yx CX j f fd ps sp)(h:j<=k):
  aI P w K mg Yx CX k f fd ps sp:=⟨F.len,λA outer s H args us vs Q E hr=>F.run A outer s H args us vs Q E (hr.mono h)⟩
theorem oN.make{P:ba}{w:aQ}{K:aA}{mg:Str->Option ac}{Yx:aM}{A:bh}{outer:List Env}{s:ai}{H:Hp}(e:oN P w K mg Yx A outer s H)(C:aa)(us:List ac)(kw:List (Str×ac)):
  oN P w K mg Yx (A.under (.builtin "type.__call__" ⟨.ref C::us,kw⟩)) outer s H:=⟨by first|exact e.frames|(simpa[D1,Code.envs,DY,pushEnvs]using e.frames),e.mod,e.bs,e.bsz,e.funs,e.frf,e.YB,e.bare⟩
section
variable{X:Cx}{Yw:List (aa×Obj)}{σ:St}{H:Hp}{s s':ai}
theorem Inv.env0(I:Inv X Yw σ H s):oN X.prog X.w X.K X.mg X.Yx X.A X.stack s H:=
 ⟨I.ok.frames,I.ok.mod,I.bs,cV I.ok.bsz I.sz,I.stack,I.stkFree,I.YB,I.bare⟩
theorem Inv.after{Q:VK}{u:ac}(I:Inv X Yw σ H s)(h:CE X.stack X.prog X.w H s Q u s'):EP X Yw σ Q u s':=by obtain⟨v,H',os,bare,un,YB,r,q⟩:=h;obtain⟨hh,g,d,t,os'⟩:=s';obtain rfl:os'=s.os:=os;exact⟨v,H',I.call (h':=hh) (g':=g) (d':=d) (t':=t) (ch:=[]) un YB bare (λb z=>absurd z (by simp)),r,q⟩
end
def JX(sp:Sp)(dvs:List V)(E:XK)(t:TA):TE:=λσ H Q=>t σ H λvs H1=>sp (vs++dvs) H1 Q E
def vV(C:aa)(m:Str)(sp:Sp)(dvs:List V)(E:XK)(ta:TE)(t:TA):TE:=λσ H Q=>ta σ H λx H1=>∃a dx fs,x= .ref a/\H1 a=some (.ins C dx fs)/\fs.lookup m=none/\
 t σ H1 λvs H2=>sp (x::(vs++dvs)) H2 Q E
def vW(C:aa)(sp:Sp)(dvs:List V)(E:XK)(t:TA):TE:=λσ H Q=>t σ H λvs H1=>∀x dx,H1 x=none->H1 dx=none->dx≠x->
 sp (.ref x::(vs++dvs)) (upd (upd H1 dx (.own x)) x (.ins C dx [])) (λv H2=>v= .non/\Q (.ref x) H2) E
def Binds(K:aA)(fd:dX)(ps:List Str)(ds:List ac):Prop:=
 ∀(s:ai)(us:List ac),K.In s.heap->(us++ds).length=ps.length->p8 s fd ⟨us,[]⟩ (ps.zip (us++ds))
theorem Binds.all{K:aA}{fd:dX}{ps:List Str}(h:∀us:List ac,us.length=ps.length->bindArgs fd ⟨us,[]⟩=pure (ps.zip us)):Binds K fd ps []:=λs us _ hl=>by rw[jt]at hl ⊢;exact .of_eq (h us hl)
def l_(CX:gx)(X:Cx)(E:XK):Prop:=∀(Yw:List (aa×Obj))(σ:St)(H:Hp)(s:ai)(e:ac)(s':ai),Inv X Yw σ H s->CX X.stack H s E e s'->X.xe e s'
section
variable{X:Cx}{CX:gx}{k:Nat}{f C:aa}{fd:dX}{ps:List Str}{sp:Sp}{dvs:List V}{ds:List ac}{E:XK}{x m:Str}{p pos Y3:Pos}{e o:aZ}{es:List aZ}{ta:TE}{t:TA}
theorem vI{Yw:List (aa×Obj)}{σ:St}{H:Hp}{s:ai}{Q:VK}{us:List ac}{vs:List V}(F:aI X.prog X.w X.K X.mg X.Yx CX k f fd ps sp)(hr:cr k X.A)(hb:Binds X.K fd ps ds)(hd:aR dvs ds)(hx:l_ CX X E)
  (I:Inv X Yw σ H s)(r:aR vs us)(h:sp (vs++dvs) H Q E):aq (aB X.prog X.w) X.A (call (.ref f) us) (EP X Yw σ Q) X.xe s:=by
 have r2:aR (vs++dvs) (us++ds):=r.append hd;have hl:(us++ds).length=ps.length:=by rw[<-r2.length];exact F.len _ _ _ _ h
 refine E1 (rF (F.run X.A X.stack s H ⟨us,[]⟩ (us++ds) (vs++dvs) Q E hr I.env0 (hb s us I.kIn hl) r2 h) λr s' hq=>?_);cases r with
 |error e=>exact hx Yw σ H s e s' I hq
 |ok fl=>
  cases fl with
  |ret u=>exact I.after hq
  |next=>exact gO hq
  |brk=>exact gO hq
  |cont=>exact gO hq
theorem UK(F:aI X.prog X.w X.K X.mg X.Yx CX k f fd ps sp)(hr:cr k X.A)(hg:Gl X x)(hm:X.mg x=some (.ref f))(hk:jT X.K (.ref f)=true)(hb:Binds X.K fd ps ds)(hd:aR dvs ds)(hx:l_ CX X E)
  (ha:PA X (e::es) t)(ZE:(x==("__debug__":Str))=false:=by decide)(he:bP (e::es) X.env=(false,eval e X.env)::bP es X.env:=by rfl)(YZ:(fq pos (bP es X.env)).any (·.1)=false:=by rfl):
  PE X (.Call (.Name x p) (e::es) [] pos) (JX sp dvs E t):=by
 intro Yw s σ H Q I h;refine oX (sB I hg hm ?_ ZE);refine tW (h₀:=X.Yx) I.ok.mod.kin hk (aW (ha pos Yw s σ H _ I h) λus s1 zz=>e2_3 zz λvs H1 I1 r q=>⟨I1.kIn,?_⟩) he YZ;exact vI F hr hb hd hx I1 r q
theorem UI{pl:Sem Bool}(he:PE X o ta)(c:dR X.K C)(hm:tp X.K C m f)(F:aI X.prog X.w X.K X.mg X.Yx CX k f fd ps sp)(hr:cr k X.A)(hb:Binds X.K fd ps ds)(hd:aR dvs ds)(hx:l_ CX X E)(ha:PA X (e::es) t)
  (ZY:bP (e::es) X.env=(false,eval e X.env)::bP es X.env:=by rfl)(YZ:(fq pos (bP es X.env)).any (·.1)=false:=by rfl)
  (ht:eval (.Call (.Attribute o m Y3) (e::es) [] pos) X.env=(do
   let ov <-eval o X.env
   sD Y3.atName
   let(f,first) <-n9 [ov] (rW ov m pl)
   vm pos f first (fq pos (bP (e::es) X.env)) (pR pos (pI [] X.env))):=by rfl):
  PE X (.Call (.Attribute o m Y3) (e::es) [] pos) (vV C m sp dvs E ta t):=by
 intro Yw s σ H Q I h;refine LV (pl:=pl) (aW (he Yw s σ H _ I h) λu s1 zz=>?_) ht;obtain⟨x,H1,I1,rx,a,dx,fs,ex,ea,l,q⟩:=zz;subst ex;obtain rfl:u=cv a:=rx;refine ER I1 ea c hm l ?_;refine tW (first:=[.ref a]) (h₀:=X.Yx) I.ok.mod.kin hm.kp (aW (ha pos Yw s1 σ H1 _ I1 q) λus s2 zz=>e2_3 zz λvs H2 I2 r q2=>⟨I2.kIn,?_⟩) ZY YZ
 exact vI (us:= .ref a::us) (vs:= .ref a::vs) F hr hb hd hx I2 (.cons rfl r) q2
theorem SM{pl:Sem Bool}(he:PE X o ta)(c:dR X.K C)(hm:tp X.K C m f)(F:aI X.prog X.w X.K X.mg X.Yx CX k f fd ps sp)(hr:cr k X.A)(hb:Binds X.K fd ps ds)(hd:aR dvs ds)(hx:l_ CX X E)
  (ht:eval (.Call (.Attribute o m Y3) [] [] pos) X.env=(do
   let ov <-eval o X.env
   sD Y3.atName
   let(f,first) <-n9 [ov] (rW ov m pl)
   vm pos f first (fq pos (bP [] X.env)) (pR pos (pI [] X.env))):=by rfl):
  PE X (.Call (.Attribute o m Y3) [] [] pos) (vV C m sp dvs E ta qA):=by
 intro Yw s σ H Q I h;refine LV (pl:=pl) (aW (he Yw s σ H _ I h) λu s1 zz=>?_) ht;obtain⟨x,H1,I1,rx,a,dx,fs,ex,ea,l,q⟩:=zz;subst ex;obtain rfl:u=cv a:=rx;refine ER I1 ea c hm l ?_;exact Mo (first:=[.ref a]) I1.kIn hm.kp (vI (us:=[.ref a]) (vs:=[.ref a]) F hr hb hd hx I1 (.cons rfl .nil) q)
structure Mk(K:aA)(C f:aa):Prop where
 makes:CD K C=true
 init:iE K (.ref C) "__init__"=some (some (.ref f))
 fn:ur K (.ref f)=true
 kp:jT K (.ref C)=true
theorem yR{Yw:List (aa×Obj)}{σ:St}{H:Hp}{s:ai}{Q:VK}{us:List ac}{vs:List V}(M:Mk X.K C f)(F:aI X.prog X.w X.K X.mg X.Yx CX k f fd ps sp)(hr:cr (k+1) X.A)(hb:Binds X.K fd ps ds)(hd:aR dvs ds)
  (hx:l_ CX X E)(I:Inv X Yw σ H s)(r:aR vs us)
  (h:∀x dx,H x=none->H dx=none->dx≠x->sp (.ref x::(vs++dvs)) (upd (upd H dx (.own x)) x (.ins C dx [])) (λv H2=>v= .non/\Q (.ref x) H2) E):
  aq (aB X.prog X.w) X.A (call (.ref C) us) (EP X Yw σ Q) X.xe s:=by
 have hq:=h (s.heap.objs.size+1) s.heap.objs.size (I.YB.fresh (ya _)) (I.YB.fresh (aT _)) (cx (t8 _));have I2:=Inv.made (C:=C) I;have r2:aR (V.ref (s.heap.objs.size+1)::(vs++dvs)) (cv (s.heap.objs.size+1)::(us++ds)):= .cons rfl (r.append hd);have hl:(cv (s.heap.objs.size+1)::us++ds).length=ps.length:=by have e:=r2.length;rw[F.len _ _ _ _ hq]at e;exact e.symm
 refine E1 (S5 (f:=f) I.kIn M.makes M.init (beq_iff_eq.mp M.fn) (rF (F.run _ X.stack _ _ ⟨cv (s.heap.objs.size+1)::us,[]⟩ (cv (s.heap.objs.size+1)::(us++ds)) _ _ E (hr.make C us []) (I2.env0.make C us []) (hb _ (cv (s.heap.objs.size+1)::us) I2.kIn hl) r2 hq) λr s' hq'=>?_))
 cases r with
 |error e=>exact hx Yw σ _ _ e s' I2 hq'
 |ok fl=>
  cases fl with
  |ret u=>obtain⟨v,H',I3,rv,ev,q3⟩:=I2.after hq';subst ev;exact⟨rv,⟨V.ref (s.heap.objs.size+1),H',I3,rfl,q3⟩⟩
  |next=>exact gO hq'
  |brk=>exact gO hq'
  |cont=>exact gO hq'
theorem UJ(M:Mk X.K C f)(F:aI X.prog X.w X.K X.mg X.Yx CX k f fd ps sp)(hr:cr (k+1) X.A)(hg:Gl X x)(hm:X.mg x=some (.ref C))(hb:Binds X.K fd ps ds)(hd:aR dvs ds)(hx:l_ CX X E)
  (ha:PA X (e::es) t)(ZE:(x==("__debug__":Str))=false:=by decide)(he:bP (e::es) X.env=(false,eval e X.env)::bP es X.env:=by rfl)(YZ:(fq pos (bP es X.env)).any (·.1)=false:=by rfl):
  PE X (.Call (.Name x p) (e::es) [] pos) (vW C sp dvs E t):=by
 intro Yw s σ H Q I h;refine oX (sB I hg hm ?_ ZE);refine tW (h₀:=X.Yx) I.ok.mod.kin M.kp (aW (ha pos Yw s σ H _ I h) λus s1 zz=>e2_3 zz λvs H1 I1 r q=>⟨I1.kIn,?_⟩) he YZ;exact yR M F hr hb hd hx I1 r q
theorem SN(M:Mk X.K C f)(F:aI X.prog X.w X.K X.mg X.Yx CX k f fd ps sp)(hr:cr (k+1) X.A)(hg:Gl X x)(hm:X.mg x=some (.ref C))(hb:Binds X.K fd ps ds)(hd:aR dvs ds)(hx:l_ CX X E)
  (ZE:(x==("__debug__":Str))=false:=by decide):PE X (.Call (.Name x p) [] [] pos) (vW C sp dvs E qA):=by
 intro Yw s σ H Q I h;refine oX (sB I hg hm ?_ ZE);exact Mo I.kIn M.kp (yR (us:=[]) M F hr hb hd hx I .nil h)
end
section
variable{X:Cx}{CX:gx}{k:Nat}{f C:aa}{fd:dX}{ps ks:List Str}{sp:Sp}{E:XK}{x m:Str}{p pos Y3 anD:Pos}{e o:aZ}{es:List aZ}{kws:List p7}{te ta:TE}{t tk:TA}{nm:Option Str}
structure XW(K:aA)(fd:dX)(ps ks:List Str)(g:List ac->List ac->List ac)(gV:List V->List V->List V):Prop where
 to:∀(s:ai)(us ws:List ac),K.In s.heap->(g us ws).length=ps.length->p8 s fd ⟨us,ks.zip ws⟩ (ps.zip (g us ws))
 rel:∀{vs:List V}{us:List ac}{zs:List V}{ws:List ac},aR vs us->aR zs ws->aR (gV vs zs) (g us ws)
variable{g:List ac->List ac->List ac}{gV:List V->List V->List V}
end
structure nZ(N P:List Str)(sc:dv):Prop where
 kind:sc.kind= .function
 co:sc.isCoroutine=false
 gen:sc.isGenerator=false
 nd:N.Nodup
 pre:N.take P.length=P
 par:∀x∈P,sc.names.lookup x=some .local\/sc.names.lookup x=some .cell
 ai8:∀y∈sc.names,y.2≠ .free
theorem FP{kindOf:Str->Option gY}{x:Str}:∀{binds:List (Str×ac)}{m:Str->Option ac},(∀v,(x,v)∉binds)->oC kindOf binds m x=m x
 |[],_,_=>rfl
 |(n,v)::r,m,h=>by
  unfold oC;rw[FP λw hw=>h w (bq _ hw)];split
  .have:x≠n:=by rintro rfl;exact h v bA
   simp[this]
  .rfl
theorem FR{kindOf:Str->Option gY}{x:Str}:∀{binds:List (Str×ac)}{m:Str->Option ac},(∀v,(x,v)∉binds)->oE kindOf binds m x=m x
 |[],_,_=>rfl
 |(n,v)::r,m,h=>by
  unfold oE;rw[FR λw hw=>h w (bq _ hw)];split
  .rfl
  .have:x≠n:=by rintro rfl;exact h v bA
   simp[this]
theorem FQ{kindOf:Str->Option gY}{x:Str}{v:ac}:∀{P:List Str}{vs:List ac}{i:Nat}{m:Str->Option ac},P.Nodup->P[i]? =some x->vs[i]? =some v->kindOf x=some .local->
  oC kindOf (P.zip vs) m x=some v
 |[],_,_,_,_,h,_,_=>by simp at h
 |_::_,[],_,_,_,_,h,_=>by simp at h
 |p::P,w::vs,0,m,nd,h1,h2,hk=>by simp at h1 h2;subst h1;subst h2;show oC kindOf ((p,w)::P.zip vs) m p=_;unfold oC;rw[FP λv hv=>(fT.mp nd).1 (CF hv).1,if_pos hk];simp
 |p::P,w::vs,i+1,m,nd,h1,h2,hk=>by show oC kindOf ((p,w)::P.zip vs) m x=_;unfold oC;exact FQ (i:=i) (fT.mp nd).2 (by simpa using h1) (by simpa using h2) hk
theorem FS{kindOf:Str->Option gY}{x:Str}{v:ac}:∀{P:List Str}{vs:List ac}{i:Nat}{m:Str->Option ac},P.Nodup->P[i]? =some x->vs[i]? =some v->kindOf x≠some .local->
  oE kindOf (P.zip vs) m x=some v
 |[],_,_,_,_,h,_,_=>by simp at h
 |_::_,[],_,_,_,_,h,_=>by simp at h
 |p::P,w::vs,0,m,nd,h1,h2,hk=>by simp at h1 h2;subst h1;subst h2;show oE kindOf ((p,w)::P.zip vs) m p=_;unfold oE;rw[FR λv hv=>(fT.mp nd).1 (CF hv).1,if_neg hk];simp
 |p::P,w::vs,i+1,m,nd,h1,h2,hk=>by show oE kindOf ((p,w)::P.zip vs) m x=_;unfold oE;exact FS (i:=i) (fT.mp nd).2 (by simpa using h1) (by simpa using h2) hk
def start(N:List Str)(vs:List V):St:=vs.map some++ui (N.length-vs.length) none
def jM(CX:gx)(P:ba)(w:aQ)(K:aA)(mg:Str->Option ac)(Yx:aM)(N:List Str)(YJ:Str)(scope:dv)(f:aa)(cd:ac)(A:bh)(outer:List Env)(s:ai)(H:Hp)(E:XK):Cx where
 prog:=P
 w:=w
 K:=K
 mg:=mg
 Yx:=Yx
 A:=A.deeper (ma YJ scope s.heap.objs.size f cd)
 N:=N
 s_0:=s
 H_0:=H
 env:=ma YJ scope s.heap.objs.size f cd
 outer:=outer
 stack:=ma YJ scope s.heap.objs.size f cd::outer
 ex:=[]
 calm:=true
 fn:=λ_=>true
 pn:=[]
 xe:=λe s'=>aq (aB P w) (A.deeper (ma YJ scope s.heap.objs.size f cd)) (leaving (ma YJ scope s.heap.objs.size f cd) e) (λ_ s''=>CX outer H s E e s'') (λe' s''=>CX outer H s E e' s'') s'
theorem Ho{sc:dv}{n:Nat}{x:Str}(h:sc.names.lookup x=some .cell):∃c,(fP n sc.names []).lookup x=some c:=by have q:=LL sc.names n [] (.inl h);exact Lz.mp q
theorem RR{CX:gx}{P:ba}{w:aQ}{K:aA}{mg:Str->Option ac}{Yx:aM}{N ps:List Str}{YJ:Str}{scope:dv}{f:aa}{cd:ac}{A:bh}{outer:List Env}{s s1:ai}{H:Hp}{E:XK}{us:List ac}{vs:List V}
  (S:nZ N ps scope)(hd:A.handled=none)(e0:oN P w K mg Yx A outer s H)(hl:vs.length=ps.length)(r:aR vs us)
  (x:InCallC s s.heap.objs.size (oC (ma YJ scope s.heap.objs.size f cd).kindOf (ps.zip us) λ_=>none) (fP (s.heap.objs.size+1) scope.names []) (oE (ma YJ scope s.heap.objs.size f cd).kindOf (ps.zip us) λ_=>none) s1):
  Inv (jM CX P w K mg Yx N YJ scope f cd A outer s H E) [] (start N vs) H s1:=by
 have YZ:ps.length<=N.length:=by have:=congrArg fV S.pre;rw[cO]at this;lia
 obtain⟨h1,tk,rfl,hk⟩:=x.done;have noA:∀b:aa,b∉(jM CX P w K mg Yx N YJ scope f cd A outer s H E).ex:=λb z=>absurd (show b∈([]:List aa)from z) (by simp);refine⟨⟨e0.mod,S.kind,rfl,rfl,aT _,λy z c h1 h2=>?_,λy hy=>?_,λy c _ h=>?_,λ_=>hd,Around.frames_deeper e0.frames,.inr ⟨rfl,rfl⟩,λb z=>absurd z (noA b),e0.bs,e0.bsz,λb _ _=>noA b,λb z=>absurd z (noA b),e0.funs,e0.frf⟩,
  rfl,e0.bare,Un.kept hk,⟨_,x.toInCall.ns,λi y v h1 h2 h3=>?_⟩,λy c h=>⟨_,x.cell y c h⟩,e0.YB.fresh (aT _),λy c h=>?_,λp hp=>absurd (show p∈([]:List (aa×Obj))from hp) (by simp),e0.YB.kept hk,?_⟩
 .exact name_of_addr x.apart (hG h1) (hG h2)
 .have hy:scope.names.lookup y=some .cell\/scope.names.lookup y=some .free:=hy;rcases hy with hy|hy
  .exact Ho hy
  .exact absurd rfl (S.ai8 _ (hG hy))
 .exact DW (x.above y c (hG h))
 .have hi:i<vs.length:=by
   unfold start at h2;by_cases hi:i<vs.length
   .exact hi
   .rw[Lm (by simpa using hi)]at h2;rw[List.getElem?_replicate]at h2;split at h2<;>cases h2
  have ha:vs[i]? =some v:=by
   unfold start at h2;rw[Lw (by simpa using hi),cq]at h2;cases e:vs[i]? with
   |none=>rw[e]at h2;cases h2
   |some a=>rw[e]at h2;cases h2;rfl
  obtain⟨u,hu,rv⟩:=r.get ha;have hp:ps[i]? =some y:=by rw[<-S.pre,List.getElem?_take_of_lt (by lia)];exact h1
  have ndP:ps.Nodup:=by rw[<-S.pre];exact S.nd.sublist (B0 _ _)
  refine⟨u,rv,?_⟩;rcases S.par y (cU hp)with k|k
  .exact .inl ⟨k,FQ ndP hp hu k⟩
  .obtain⟨c,e⟩:=Ho (n:=s.heap.objs.size+1) k;refine .inr ⟨.inl k,c,e,?_⟩;have q:=x.cell y c e;rw[FS ndP hp hu (by show scope.names.lookup y≠_;rw[k];decide)]at q;exact q
 .exact e0.YB.fresh (DW (x.above y c (hG h)))
 .unfold start;show _=N.length;rw[bG,aE,List.length_replicate]
  lia
theorem WE{CX:gx}{P:ba}{w:aQ}{K:aA}{mg:Str->Option ac}{Yx:aM}{k:Nat}{f:aa}{name YJ:Str}{params:Arguments}{body:List aH}{scope:dv}{dV kV Zv pm YX ct oc:ac}{an od:Option aa}
  {Ν:Array (Option ac)}{N ps:List Str}{sp:Sp}(lk:K.lookup f=some ⟨oc,od,.func (kM name YJ params body scope dV kV Zv pm an YX ct),Ν⟩)(ο:rh K YX YJ=true)(S:nZ N ps scope)
  (len:∀vs H Q E,sp vs H Q E->vs.length=ps.length)
  (afd:∀(A:bh)(outer:List Env)(s:ai)(H:Hp)(vs:List V)(Q:VK)(E:XK),cr k (A.deeper (ma YJ scope s.heap.objs.size f YX))->sp vs H Q E-> ∃t,iQ (jM CX P w K mg Yx N YJ scope f YX A outer s H E) body t/\t {nx:=λ_ H'=>Q .non H',rt:=Q} (start N vs) H):
  aI P w K mg Yx CX (k+1) f (kM name YJ params body scope dV kV Zv pm an YX ct) ps sp:=by
 refine⟨len,λA outer s H args us vs Q E hr e0 hb r θ=>?_⟩;have hl:=len _ _ _ _ θ;have KX:K.In s.heap:=e0.mod.kin.keeps λb o e=>(e0.bs b o e).1;have lim:s.heap.NoLimit:=e0.mod.nolimit.keeps λb o e=>(e0.bs b o e).1;have ajP:∀y∈ps.zip us,scope.names.lookup y.1=some .local\/(scope.names.lookup y.1=some .cell/\((fP (s.heap.objs.size+1) scope.names []).lookup y.1).isSome=true):=λ⟨n,v⟩hy=>by
  rcases S.par n (CF hy).1 with q|q
  .exact .inl q
  .exact .inr ⟨q,LL _ _ _ (.inl q)⟩
 refine codeAny_call_function hr.depth (KX _ _ lk) rfl S.co S.gen rfl (PySem.W.codeRec_of KX ο) (hb _ _ _ _ ?_);refine wpAny_newFunctionEnv_cells S.kind ajP λenv he s1 x=>?_;subst he;refine⟨lim.keeps x.toInCall.keep,codeAny_func ?_⟩;obtain⟨t,ht,hq⟩:=afd A outer s H vs Q E (hr.deeper _) θ;have I:Inv (jM CX P w K mg Yx N YJ scope f YX A outer s H E) [] (start N vs) H s1:=RR S hr.hd e0 hl r x;refine iH (ht [] s1 (start N vs) H _ I hq) (λfl s' hs=>?_) λe s' hs=>hs;have fin:∀{YD:St}{H':Hp}{v:V}{u:ac},Inv (jM CX P w K mg Yx N YJ scope f YX A outer s H E) [] YD H' s'->RelV v u->Q v H'->CE outer P w H s Q u s':=
  λ{YD H' v u}J rv q=>⟨v,H',J.os,J.bare,J.Yx,J.YB,rv,q⟩
 cases fl with
 |ret u=>obtain⟨v,YD,H',J,rv,q⟩:=hs;exact fin J rv q
 |next=>obtain⟨YD,H',J,q⟩:=hs;exact fin (v:=V.non) (u:=jy) J rfl q
 |brk=>obtain⟨_,_,_,q⟩:=hs;exact gO q
 |cont=>obtain⟨_,_,_,q⟩:=hs;exact gO q
section
variable{X:Cx}{x:Str}{p pos:Pos}{e:aZ}{es:List aZ}{t:TA}{id T:String}{r:List V->Hp->VK->Prop}
def AQ(r:List V->Hp->VK->Prop)(t:TA):TE:=λσ H Q=>t σ H λvs H1=>r vs H1 Q
theorem cE(hc:dh X (.builtin id) r)(hg:Gl X x)(hm:X.mg x=none)(hv:pz x=some (.builtin id))(ha:PA X (e::es) t)(hn:x≠"__name__":=by decide)(ZE:(x==("__debug__":Str))=false:=by decide)
  (he:bP (e::es) X.env=(false,eval e X.env)::bP es X.env:=by rfl)(YZ:(fq pos (bP es X.env)).any (·.1)=false:=by rfl):PE X (.Call (.Name x p) (e::es) [] pos) (AQ r t):=by
 intro Yw s σ H Q I h;refine oX (Ae I hg hm hv ?_ hn ZE);exact PyProof.Rows.callWith_builtin1 (aW (ha pos Yw s σ H _ I h) λus s1 zz=>e2_3 zz λvs H1 I1 r1 q1=>hc Yw s1 σ H1 vs us Q I1 r1 q1) he YZ
theorem fX(hc:dh X (.type T) r)(hg:Gl X x)(hm:X.mg x=none)(hv:pz x=some (.type T))(ha:PA X (e::es) t)(hn:x≠"__name__":=by decide)(ZE:(x==("__debug__":Str))=false:=by decide)
  (he:bP (e::es) X.env=(false,eval e X.env)::bP es X.env:=by rfl)(YZ:(fq pos (bP es X.env)).any (·.1)=false:=by rfl):PE X (.Call (.Name x p) (e::es) [] pos) (AQ r t):=by
 intro Yw s σ H Q I h;refine oX (Ae I hg hm hv ?_ hn ZE);exact Lj (aW (ha pos Yw s σ H _ I h) λus s1 zz=>e2_3 zz λvs H1 I1 r1 q1=>hc Yw s1 σ H1 vs us Q I1 r1 q1) he YZ
end
end L2
namespace HT
open PySem PyProof.Rows
section
variable{prog:ba}{w:aQ}{A:bh}{E:ac->ai->Prop}{s:ai}
def gD(n d:Nat):Option Int->Nat
 |none=>d
 |some v=>if v<0 then(v+(n:Int)).toNat else min v.toNat n
theorem Sw(n d:Nat):gD n d none=d:=rfl
theorem zw(n d k:Nat):gD n d (some (k:Int))=min k n:=by show(if(k:Int)<0 then((k:Int)+(n:Int)).toNat else min (k:Int).toNat n)=min k n;rw[if_neg (by lia),c_]
end
end HT
namespace L2
open PySem PySem.Spec PyProof.Rows
abbrev TO:=St->Hp->(Option Int->Hp->Prop)->Prop
def PO(X:Cx)(e:Option aZ)(t:TO):Prop:=
 ∀(Yw:List (aa×Obj))(s:ai)(σ:St)(H:Hp)(Q:Option Int->Hp->Prop),Inv X Yw σ H s->t σ H Q->
  aq (aB X.prog X.w) X.A (evalPart e X.env) (λu s'=>∃o H',Inv X Yw σ H' s'/\IsPart u o/\Q o H') X.xe s
def HD:TO:=λ_ H Q=>Q none H
def JR(t:TE):TO:=λσ H Q=>t σ H λx H1=>∃i,x= .int i/\Q (some i) H1
section
variable{X:Cx}{e:aZ}{te:TE}{lo hi:Option aZ}{tl th:TO}{pos p2:Pos}
theorem HZ:PO X none HD:=by intro Yw s σ H Q I h;rw[evalPart_none];exact aw ⟨none,H,I,.none,h⟩
theorem j_(h:PE X e te):PO X (some e) (JR te):=by intro Yw s σ H Q I hw;rw[evalPart_some];refine aW (h Yw s σ H _ I hw) λu s1 zz=>?_;obtain⟨x,H1,I1,r1,q1⟩:=zz;obtain⟨i,rfl,q⟩:=q1;obtain⟨t,rfl⟩:=r1;exact⟨some i,H1,I1,.int i t,q⟩
def K8(X:Cx)(r:V->Option Int->Option Int->Hp->VK->Prop):Prop:=
 ∀(Yw:List (aa×Obj))(s:ai)(σ:St)(H:Hp)(x:V)(v vl vu:ac)(lo hi:Option Int)(sl:aa)(Q:VK),Inv X Yw σ H s->RelV x v->s.heap.IsSliceOf sl vl vu .none->IsPart vl lo->IsPart vu hi->r x lo hi H Q->
  ∃T id,typeLookup (.type T) "__getitem__"=pure (some (.builtin id))/\s.TypeIs v T/\aq (aB X.prog X.w) X.A (sI v (.ref sl)) (EP X Yw σ Q) X.xe s
def KW(r:V->Option Int->Option Int->Hp->VK->Prop)(te:TE)(tl th:TO):TE:=λσ H Q=>te σ H λx H1=>tl σ H1 λl H2=>th σ H2 λu H3=>r x l u H3 Q
theorem pQ{r:V->Option Int->Option Int->Hp->VK->Prop}(hr:K8 X r)(he:PE X e te)(hl:PO X lo tl)(hu:PO X hi th):PE X (.Subscript e (.Slice lo hi none p2) pos) (KW r te tl th):=by intro Yw s σ H Q I h;refine E5 (aW (he Yw s σ H _ I h) λv s1 zz=>?_);obtain⟨x,H1,I1,r1,q1⟩:=zz;refine wpAny_Slice (aW (hl Yw s1 σ H1 _ I1 q1) λvl s2 zz=>e2_3 zz λl H2 I2 pl q2=>aW (hu Yw s2 σ H2 _ I2 q2) λvu s3 zz=>?_);obtain⟨u,H3,I3,pu,q3⟩:=zz;rw[evalPart_none];refine aw ?_;have I4:Inv X Yw σ H3 {s3 with heap:=s3.heap.push {cls:= .type "slice",data:= .fields #[vl,vu,.none]}}:=I3.kept (t':=s3.toks) λb ob q=>cS _ q;obtain⟨T,id,hT,ht,hg⟩:=hr Yw {s3 with heap:=s3.heap.push {cls:= .type "slice",data:= .fields #[vl,vu,.none]}} σ H3 x v vl vu l u s3.heap.objs.size Q I4 r1 (Xp ..) pl pu q3;show aq (aB X.prog X.w) X.A (Ds e (.Slice lo hi none p2) v (.ref s3.heap.objs.size)) (EP X Yw σ Q) X.xe {s3 with heap:=s3.heap.push {cls:= .type "slice",data:= .fields #[vl,vu,.none]}};exact tail_any (ops:=[.ref s3.heap.objs.size,v]) ht hT hg (by with_unfolding_all rfl)
def k_(xs:List V)(lo hi:Option Int):List V:=(xs.drop (HT.gD xs.length 0 lo)).take (HT.gD xs.length xs.length hi-HT.gD xs.length 0 lo)
theorem PK(xs:List V)(lo hi:Option Int):(k_ xs lo hi).length<=xs.length:=by
 unfold k_;rw[cO,gH]
 lia
end
def qG(n:Nat)(i:Int):Option Nat:=if 0<=i then(if i<n then some i.toNat else none)else if -(n:Int)<=i then some (i+n).toNat else none
def ku{α:Type}(xs:List α)(i:Int):Option α:=(qG xs.length i).bind λj=>xs[j]?
theorem U4{n:Nat}{i:Int}{j:Nat}(h:qG n i=some j):seqIndex? i n=some j/\j<n/\ -(n:Int)<=i/\i<n:=by
 unfold qG at h;by_cases h0:0<=i
 .rw[if_pos h0]at h;by_cases h1:i<n
  .rw[if_pos h1]at h;have e:i.toNat=j:=gk h;exact⟨by rw[seqIndex_of h0 h1,e],by lia,by lia,h1⟩
  .rw[if_neg h1]at h;cases h
 .rw[if_neg h0]at h;by_cases h1: -(n:Int)<=i
  .rw[if_pos h1]at h;have e:(i+n).toNat=j:=gk h;exact⟨by rw[seqIndex_neg (by lia) h1,e],by lia,h1,by lia⟩
  .rw[if_neg h1]at h;cases h
theorem IQ{α:Type}{xs:List α}{i:Int}{v:α}(h:ku xs i=some v):∃j,seqIndex? i xs.length=some j/\xs[j]? =some v/\j<xs.length/\ -(xs.length:Int)<=i/\i<xs.length:=by
 unfold ku at h;cases e:qG xs.length i with
 |none=>rw[e]at h;cases h
 |some j=>rw[e]at h;obtain⟨h1,h2,h3,h4⟩:=U4 e;exact⟨j,h1,h,h2,h3,h4⟩
theorem pY{α:Type}{xs:List α}{j:Nat}{v:α}(h:xs[j]? =some v):ku xs (j:Int)=some v:=by
 have hj:j<xs.length:=(gE.mp h).1;have e:qG xs.length (j:Int)=some j:=by unfold qG;rw[if_pos (by lia),if_pos (by lia)];simp
 unfold ku;rw[e];exact h
def Vl(b:aZ):Prop:=∀o i,x0 b false o i=operate [o,i] (sI o i)
def tF(X:Cx)(r:R2):Prop:=
 ∀(value slice:aZ)(Yw:List (aa×Obj))(s:ai)(σ:St)(H:Hp)(x y:V)(v u:ac)(Q:VK),Inv X Yw σ H s->RelV x v->RelV y u->r x y H Q->
  x0 slice false v u=operate [v,u] (sI v u)->aq (aB X.prog X.w) X.A (Ds value slice v u) (EP X Yw σ Q) X.xe s
def tE(X:Cx)(id:String)(r:V->List V->Hp->VK->Prop):Prop:=
 ∀(Yw:List (aa×Obj))(s:ai)(σ:St)(H:Hp)(x:V)(xs:List V)(v:ac)(us:List ac)(Q:VK),Inv X Yw σ H s->RelV x v->aR xs us->r x xs H Q->
  aq (aB X.prog X.w) X.A (call (.builtin id) (v::us)) (EP X Yw σ Q) X.xe s
section
variable{X:Cx}{a b:aZ}{ta tb:TE}{pos:Pos}
theorem cH{r:R2}(hr:tF X r)(ha:PE X a ta)(hb:PE X b tb)(hs:Vl b):PE X (.Subscript a b pos) (tu r ta tb):=by intro Yw s σ H Q I h;exact E5 (AM ha hb I h λv u s2 x y H2 I2 rx ry q=>hr a b Yw s2 σ H2 x y v u Q I2 rx ry q (hs _ _))
def AF(K:aA):R2:=λx y H Q=>∃p xs i v,x= .ref p/\y= .int i/\ay K H p xs/\ku xs i=some v/\Q v H
def AE(K:aA):R2:=λx y H Q=>∃p xs i v,x= .ref p/\y= .int i/\a9 K H p xs/\ku xs i=some v/\Q v H
theorem eG:tF X (AF X.K):=by
 intro value slice Yw s σ H x y v u Q I rx ry h hs;obtain⟨p,xs,i,z,rfl,rfl,hq,he,q⟩:=h;cases rx;obtain⟨t,rfl⟩:=ry;obtain⟨YA,r,pl,hz⟩:=I.list hq;obtain⟨j,h1,h2,h3,h4,h5⟩:=IQ he;obtain⟨w,ew,Z5⟩:=r.get h2;have hl:=r.length;have hn:=vP;have fin:EP X Yw σ Q w s:=⟨z,H,I,Z5,q⟩;by_cases h0:0<=i
 .have hj:i.toNat=j:=by rw[seqIndex_of h0 h5]at h1;exact gk h1
  exact item_listR pl.isList h0 (by lia) (by rw[hj];simpa using ew) fin hs
 .have hj:(i+(YA.toArray.size:Int)).toNat=j:=by rw[seqIndex_neg (by lia) h4]at h1;rw[b6,<-hl];exact gk h1
  exact LJ (x:=w) pl.isList.typeIs MF.lookup
   (wpAny_getItem_list_neg (Q:=λr s'=>r=w/\EP X Yw σ Q r s') pl.isList (by lia) (by rw[b6]<;>lia) (by lia) (by rw[hj];simpa using ew) ⟨rfl,fin⟩) hs
theorem lY:tF X (AE X.K):=by
 intro value slice Yw s σ H x y v u Q I rx ry h hs;obtain⟨p,xs,i,z,rfl,rfl,hq,he,q⟩:=h;cases rx;obtain⟨t,rfl⟩:=ry;obtain⟨YA,r,pl,hz⟩:=I.tuple hq;obtain⟨j,h1,h2,h3,h4,h5⟩:=IQ he;obtain⟨w,ew,Z5⟩:=r.get h2;have hl:=r.length;have hn:=vP;have fin:EP X Yw σ Q w s:=⟨z,H,I,Z5,q⟩;exact LJ (x:=w) pl.typeIs slot_tuple_getitem.lookup
  (getItem_tuple (j:=j) (Q:=λr s'=>r=w/\EP X Yw σ Q r s') pl (by lia) (by lia) (by rw[b6,<-hl];exact h1) (by simpa using ew) ⟨rfl,fin⟩) hs
theorem OC(lo hi:Option Int)(n:Nat):(pH lo hi none n).1=((HT.gD n 0 lo:Nat):Int)/\(pH lo hi none n).2.1=((HT.gD n n hi:Nat):Int)/\(pH lo hi none n).2.2=1:=by
 refine⟨?_,?_,rfl⟩
 .cases lo with
  |none=>simp[pH,HT.gD]
  |some i=>
   simp only[pH,HT.gD,Na,show(1:Int)>0 by decide,if_true];by_cases h:i<0
   .simp only[h,if_true]<;>lia
   .simp only[h,if_false]<;>lia
 .cases hi with
  |none=>simp[pH,HT.gD]
  |some i=>
   simp only[pH,HT.gD,Na,show(1:Int)>0 by decide,if_true];by_cases h:i<0
   .simp only[h,if_true]<;>lia
   .simp only[h,if_false]<;>lia
theorem N6(YA:List ac)(lo hi:Option Int):slicePick YA.toArray lo hi none=((YA.drop (HT.gD YA.length 0 lo)).take (HT.gD YA.length YA.length hi-HT.gD YA.length 0 lo)).toArray:=by obtain⟨h1,h2,h3⟩:=OC lo hi YA.toArray.size;unfold slicePick;rw[h1,h2,h3];simp only[sliceRange_one,pick_run,b6]<;>rfl
def KA(K:aA):V->Option Int->Option Int->Hp->VK->Prop:=λx lo hi H Q=>∃a xs,x= .ref a/\ay K H a xs/\∀p,H p=none->Q (.ref p) (upd H p (.lst (k_ xs lo hi)))
theorem pV:K8 X (KA X.K):=by intro Yw s σ H x v vl vu lo hi sl Q I rx hs pl pu h;obtain⟨a,xs,rfl,hx,q⟩:=h;cases rx;obtain⟨YA,r,ht,hz⟩:=I.list hx;have YG:=r.length;refine⟨"list",_,MF.lookup,ht.isList.typeIs,?_⟩;refine wpAny_getItem_list_slice ht.isList hs pl pu .none (by simp) ?_ (by rw[b6]<;>lia);rw[N6,<-YG];refine⟨.ref s.heap.objs.size,_,I.laid (t':=s.toks) (o:= .lst (k_ xs lo hi)) (λb ob q=>cS _ q) (aT _) ?_,rfl,q _ (I.YB.fresh (aT _))⟩;exact⟨cV (PK xs lo hi) hz,_,0,(r.drop (HT.gD xs.length 0 lo)).take (HT.gD xs.length xs.length hi-HT.gD xs.length 0 lo),cZ _ rfl⟩
def jI:V->Bool
 | .non=>true
 | .bl _=>true
 | .int _=>true
 | .str _=>true
 |_=>false
def mE:V->V->Bool
 | .non,.non=>true
 | .bl a,.bl b=>a==b
 | .bl a,.int b=>(if a then 1 else 0)==b
 | .int a,.bl b=>a==(if b then 1 else 0)
 | .int a,.int b=>a==b
 | .str a,.str b=>a==b
 |_,_=>false
theorem V9{A:bh}{s:ai}{y x:V}{u v:ac}(ry:RelV y u)(rx:RelV x v)(fy:jI y=true)(fx:jI x=true):Ra A s u v (mE y x):=by
 cases y with
 |non=>
  cases ry;cases x with
  |non=>cases rx;exact SeqAt.EqAt.same _
  |bl b=>cases rx;exact SeqAt.EqAt.none_bool b
  |int b=>obtain⟨t,rfl⟩:=rx;exact SeqAt.EqAt.none_int b t
  |str b=>obtain⟨t,rfl⟩:=rx;exact SeqAt.EqAt.none_str b t
  |_=>exact absurd (show false=true from fx) dF
 |bl a=>
  cases ry;cases x with
  |non=>cases rx;exact SeqAt.EqAt.bool_none a
  |bl b=>cases rx;exact SeqAt.EqAt.bool_bool a b
  |int b=>obtain⟨t,rfl⟩:=rx;exact SeqAt.EqAt.bool_int a b t
  |str b=>obtain⟨t,rfl⟩:=rx;exact SeqAt.EqAt.bool_str a b t
  |_=>exact absurd (show false=true from fx) dF
 |int a=>
  obtain⟨t',rfl⟩:=ry;cases x with
  |non=>cases rx;exact SeqAt.EqAt.int_none a t'
  |bl b=>cases rx;exact SeqAt.EqAt.int_bool a t' b
  |int b=>obtain⟨t,rfl⟩:=rx;exact SeqAt.EqAt.int_int a t' b t
  |str b=>obtain⟨t,rfl⟩:=rx;exact Mu a t' b t
  |_=>exact absurd (show false=true from fx) dF
 |str a=>
  obtain⟨t',rfl⟩:=ry;cases x with
  |non=>cases rx;exact SeqAt.EqAt.str_none a t'
  |bl b=>cases rx;exact SeqAt.EqAt.str_bool a t' b
  |int b=>obtain⟨t,rfl⟩:=rx;exact Mt a t' b t
  |str b=>obtain⟨t,rfl⟩:=rx;exact SeqAt.EqAt.str_str a t' b t
  |_=>exact absurd (show false=true from fx) dF
 |_=>exact absurd (show false=true from fy) dF
def lq(x:V)(u:ac):Bool:=match u with
 | .none=>mE .non x
 | .bool b=>mE (.bl b) x
 | .int i _=>mE (.int i) x
 | .str z _=>mE (.str z) x
 |_=>false
theorem JI{x y:V}{u:ac}(r:RelV y u)(f:jI y=true):lq x u=mE y x:=by
 cases y with
 |non=>cases r;rfl
 |bl b=>cases r;rfl
 |int i=>obtain⟨t,rfl⟩:=r;rfl
 |str z=>obtain⟨t,rfl⟩:=r;rfl
 |_=>exact absurd (show false=true from f) dF
theorem zS{x:V}:∀{xs:List V}{us:List ac},aR xs us->xs.all jI=true->us.any (lq x)=xs.any λy=>mE y x
 |_,_,.nil,_=>rfl
 |y::xs,u::us,.cons r t,f=>by rw[xG,hU]at f;rw[nj,nj,JI r f.1,zS t f.2]
theorem y0{A:bh}{s:ai}{x:V}{v:ac}(rx:RelV x v)(fx:jI x=true):∀{xs:List V}{us:List ac},aR xs us->xs.all jI=true->∀u∈us,Ra A s u v (lq x u)
 |_,_,.nil,_=>λu hu=>by cases hu
 |y::xs,u::us,.cons r t,f=>λu' hu=>by
  rw[xG,hU]at f;rcases aV.mp hu with rfl|hu
  .rw[JI r f.1];exact V9 r rx f.1 fx
  .exact y0 rx fx t f.2 u' hu
def lm(x:V)(xs:List V):Bool:=xs.any λy=>mE y x
def AT(K:aA)(neg:Bool):R2:=λx y H Q=>∃p xs,y= .ref p/\(ay K H p xs\/a9 K H p xs)/\jI x=true/\xs.all jI=true/\Q (.bl (if neg then !lm x xs else lm x xs)) H
theorem FD:du X (fY .In) (AT X.K false):=by
 intro Yw s σ H x y v u Q I rx ry h;obtain⟨p,xs,rfl,hq,fx,fs,q⟩:=h;cases ry;rcases hq with hq|hq
 .obtain⟨YA,r,pl,hz⟩:=I.list hq;refine SeqAt.in_listAt (lq x) pl.isList (λw hw=>y0 rx fx r fs w (by simpa using hw)) ⟨.bl _,H,I,rfl,?_⟩;rw[show YA.toArray.any (lq x)=YA.any (lq x)by simp,zS r fs];exact q
 .obtain⟨YA,r,pl,hz⟩:=I.tuple hq;refine SeqAt.in_tupleAt (lq x) pl (λw hw=>y0 rx fx r fs w (by simpa using hw)) ⟨.bl _,H,I,rfl,?_⟩;rw[show YA.toArray.any (lq x)=YA.any (lq x)by simp,zS r fs];exact q
theorem xK:dh X (.builtin "len") (λxs H Q=>∃p ys,xs=[.ref p]/\(ay X.K H p ys\/a9 X.K H p ys)/\Q (.int ys.length) H):=by
 intro Yw s σ H xs us Q I r h;obtain⟨p,ys,rfl,hq,q⟩:=h;obtain⟨u,rfl,rx⟩:=vals1 r;cases rx;have hn:=vP;rcases hq with hq|hq
 .obtain⟨YA,r',pl,hz⟩:=I.list hq;have YG:=r'.length;exact Calls.call_len_list pl.isList (by simp only[b6]<;>lia) ⟨.int ys.length,H,I.tok _,⟨s.toks+1,by rw[b6,YG]⟩,q⟩
 .obtain⟨YA,r',pl,hz⟩:=I.tuple hq;have YG:=r'.length;exact len_tuple pl (by simp only[b6]<;>lia) ⟨.int ys.length,H,I.tok _,⟨s.toks+1,by rw[b6,YG]⟩,q⟩
theorem DQ:dh X (.type "list") (λxs H Q=>∃p ys,xs=[.ref p]/\(ay X.K H p ys\/a9 X.K H p ys)/\∀l,H l=none->Q (.ref l) (upd H l (.lst ys))):=by
 intro Yw s σ H xs us Q I r h;obtain⟨p,ys,rfl,hq,q⟩:=h;obtain⟨u,rfl,rx⟩:=vals1 r;cases rx;have fin:∀(YA:List ac),aR ys YA->ys.length<=aU->∀(h':aM)(c':Nat),(∀b o',s.heap.get? b=some o'->h'.get? b=some o')->
   h'.get? s.heap.objs.size=some {cls:= .type "list",dict:=none,data:= .seq YA.toArray c',slots:= #[]}->EP X Yw σ Q (.ref s.heap.objs.size) {s with heap:=h'}:=λYA r' hz h' c' kp e=>
  ⟨.ref s.heap.objs.size,_,I.laid (t':=s.toks) kp (aT _) (show di X.prog X.w _ h' _ (.lst ys)from⟨hz,YA,c',r',e⟩),rfl,q _ (I.YB.fresh (aT _))⟩
 rcases hq with hq|hq
 .obtain⟨YA,r',pl,hz⟩:=I.list hq;have YG:=r'.length;obtain⟨o,ho,hc,n,hd⟩:=pl.isList;exact call_list_seq p (.inl rfl) ho hc hd (λh' c' kp e=>fin YA r' hz h' c' kp e) (by simp only[b6]<;>lia)
 .obtain⟨YA,r',pl,hz⟩:=I.tuple hq;have YG:=r'.length;obtain⟨o,ho,hc,n,hd⟩:=pl;exact call_list_seq p (.inr rfl) ho hc hd (λh' c' kp e=>fin YA r' hz h' c' kp e) (by simp only[b6]<;>lia)
theorem Om:dh X (.type "tuple") (λxs H Q=>∃p ys,xs=[.ref p]/\((ay X.K H p ys/\∀l,H l=none->Q (.ref l) (upd H l (.tup ys)))\/(a9 X.K H p ys/\Q (.ref p) H))):=by
 intro Yw s σ H xs us Q I r h;obtain⟨p,ys,rfl,h⟩:=h;obtain⟨u,rfl,rx⟩:=vals1 r;cases rx;rcases h with⟨hq,q⟩|⟨hq,q⟩
 .obtain⟨YA,r',pl,hz⟩:=I.list hq;have YG:=r'.length;refine call_tuple_list pl.isList (λh' kp=>?_) (by simp only[b6]<;>lia);have I1:Inv X Yw σ H {s with heap:=h'}:=I.kept (t':=s.toks) kp;have I2:Inv X Yw σ (upd H h'.objs.size (.tup ys)) {s with heap:=h'.push {cls:= .type "tuple",data:= .seq YA.toArray}}:=
   I1.laid (t':=s.toks) (λb o e=>cS _ e) (aT _) (show di X.prog X.w _ _ _ (.tup ys)from⟨hz,YA,r',IsTup.new _ _⟩)
  exact⟨.ref h'.objs.size,_,I2,rfl,q _ (I1.YB.fresh (aT _))⟩
 .obtain⟨YA,r',pl,hz⟩:=I.tuple hq;exact call_tuple_same pl ⟨.ref p,H,I,rfl,q⟩
def lg(K:aA)(T:String)(x:V)(H:Hp):Prop:=match x with
 | .str _=>T="str"
 | .int _=>T="int"
 | .ref p=>(T="list"/\∃xs,ay K H p xs)\/(T="tuple"/\∃o,K.lookup p=some o/\o.cls= .type "tuple"/\o.dict=none)\/
   (T="dict"/\((∃Yy,H p=some (.dK Yy))\/∃Yy,H p=some (.dT Yy)))\/(T="set"/\∃S n,H p=some (.set S n))
 |_=>False
theorem IX{Yw:List (aa×Obj)}{σ:St}{H:Hp}{s:ai}{T:String}{x:V}{v:ac}(I:Inv X Yw σ H s)(r:RelV x v)(ty:lg X.K T x H):
  s.TypeIs v T/\∀a,v= .ref a->∃ob,s.heap.get? a=some ob/\ob.dict=none:=by
 cases x with
 |str z=>obtain⟨t,rfl⟩:=r;cases(show T="str" from ty);exact⟨typeIs_str s z t,λ_ e=>nomatch e⟩
 |int i=>obtain⟨t,rfl⟩:=r;cases(show T="int" from ty);exact⟨typeIs_int s i t,λ_ e=>nomatch e⟩
 |ref p=>
  cases r;rcases ty with⟨rfl,xs,hq⟩|⟨rfl,o,hk,hc,hd⟩|⟨rfl,hk⟩|⟨rfl,S,n,hk⟩
  .obtain⟨YA,_,pl,_⟩:=I.list hq;refine⟨pl.isList.typeIs,λa e=>?_⟩;cases e;obtain⟨o,n,e,c,hd,_⟩:=pl;exact⟨o,e,hd⟩
  .refine⟨⟨o,I.kIn p o hk,hc⟩,λa e=>?_⟩;cases e;exact⟨o,I.kIn _ o hk,hd⟩
  .have z:∃o,s.heap.get? p=some o/\o.ExactDict:=by
    rcases hk with⟨Yy,hk⟩|⟨Yy,hk⟩
    .obtain⟨_,_,_,_,o,_,_,e,ex,_⟩:=I.YB p _ hk;exact⟨o,e,ex⟩
    .obtain⟨_,_,_,_,o,_,_,e,ex,_⟩:=I.YB p _ hk;exact⟨o,e,ex⟩
   obtain⟨o,e,ex⟩:=z;refine⟨⟨o,e,ex.1⟩,λa e2=>?_⟩;cases e2;exact⟨o,e,ex.2.1⟩
  .obtain⟨o,_,_,_,e,ex,_⟩:=I.YB p _ hk;refine⟨⟨o,e,ex.1⟩,λa e2=>?_⟩;cases e2;exact⟨o,e,ex.2.1⟩
 |_=>exact gO ty
def Kv(K:aA)(T:String)(r:V->List V->Hp->VK->Prop)(to:TE):TE:=λσ H Q=>to σ H λx H1=>lg K T x H1/\r x [] H1 Q
def K0(K:aA)(T:String)(r:V->List V->Hp->VK->Prop)(to:TE)(t:TA):TE:=λσ H Q=>to σ H λx H1=>lg K T x H1/\t σ H1 λxs H2=>r x xs H2 Q
variable{o e:aZ}{es:List aZ}{to:TE}{t:TA}{name:Str}{Y3 Y_:Pos}{T id:String}{r:V->List V->Hp->VK->Prop}
theorem VP(pa:PlainAttrs T)(slot:Slot T name id)(hty:typeOf (.builtin id)=pure (.type "method_descriptor"))(hm:tE X id r)(ho:PE X o to)
  (acK:ng o name X.env (eval o X.env)=eval o X.env:=by rfl)(acB:(Y3.endLine==Y_.line)=true:=by rfl):PE X (.Call (.Attribute o name Y3) [] [] Y_) (Kv X.K T r to):=by
 intro Yw s σ H Q I h;refine wpAny_Call_method0_late acK acB (aW (ho Yw s σ H _ I h) λv s1 zz=>?_);obtain⟨x,H1,I1,r1,ty,q1⟩:=zz;obtain⟨h1,h2⟩:=IX I1 r1 ty;exact⟨T,id,pa,slot,hty,h1,h2,wI rfl (Mm (hm Yw s1 σ H1 x [] v [] Q I1 r1 .nil q1))⟩
theorem eY(pa:PlainAttrs T)(slot:Slot T name id)(hty:typeOf (.builtin id)=pure (.type "method_descriptor"))(hm:tE X id r)(ho:PE X o to)(ha:PA X (e::es) t)
  (acK:ng o name X.env (eval o X.env)=eval o X.env:=by rfl)
  (adI:((fq Y_ (bP (e::es) X.env)).all (λx=> !x.1)&&(pR Y_ (pI [] X.env)).all (λx=>x.1.isSome) &&decide ((e::es).length+([]:List p7).length+(if([]:List p7).isEmpty then 0 else 1)<30))=true:=by rfl)
  (acB:(Y3.endLine==Y_.line)=true:=by rfl)(hs:bP (e::es) X.env=(false,eval e X.env)::bP es X.env:=by rfl)(ajt:(fq Y_ (bP es X.env)).any (·.1)=false:=by rfl):
  PE X (.Call (.Attribute o name Y3) (e::es) [] Y_) (K0 X.K T r to t):=by
 intro Yw s σ H Q I h;refine wpAny_Call_method_late acK adI acB rfl (aW (ho Yw s σ H _ I h) λv s1 zz=>?_);obtain⟨x,H1,I1,r1,ty,q1⟩:=zz;obtain⟨h1,h2⟩:=IX I1 r1 ty;refine⟨T,id,pa,slot,hty,h1,h2,?_⟩;have hA:=ha Y_ Yw s1 σ H1 _ I1 q1;rw[hs]at hA ⊢;refine wI (by show(false||(fq Y_ (bP es X.env)).any (·.1))=false;rw[ajt]<;>rfl) (Bq ?_);exact aW hA λus s2 zz=>e2_3 zz λvs H2 I2 r2 q2=>hm Yw s2 σ H2 x vs v us Q I2 r1 r2 q2
end
def A1(X:Cx)(id:String)(r:V->List V->Hp->VK->Prop):Prop:=
 ∀(Yw:List (aa×Obj))(s:ai)(σ:St)(H:Hp)(x:V)(xs:List V)(v:ac)(us:List ac)(Q:VK),Inv X Yw σ H s->RelV x v->aR xs us->r x xs H Q->
  aq (aB X.prog X.w) X.A (call (.builtin id) (v::us)) (EP X Yw σ Q) X.xe s
theorem aR.one:∀{x:V}{us:List ac},aR [x] us->∃u,us=[u]/\RelV x u:=by intro x us h;cases h with|cons r t=>cases t;exact⟨_,rfl,r⟩
theorem aR.two:∀{x y:V}{us:List ac},aR [x,y] us->∃u v,us=[u,v]/\RelV x u/\RelV y v:=by intro x y us h;cases h with|cons r t=>obtain⟨v,e,q⟩:=aR.one t;exact⟨_,v,by rw[e],r,q⟩
theorem aR.zero:∀{us:List ac},aR [] us->us=[]
 |_,.nil=>rfl
theorem aR.dropLast{xs:List V}{us:List ac}(h:aR xs us):aR xs.dropLast us.dropLast:=by
 induction h with
 |nil=>exact .nil
 |cons r t ih=>
  cases t with
  |nil=>exact .nil
  |cons q t'=>exact .cons r ih
theorem aR.eraseIdx:∀{xs:List V}{us:List ac}(i:Nat),aR xs us->aR (xs.eraseIdx i) (us.eraseIdx i)
 |_,_,_,.nil=> .nil
 |_,_,0,.cons _ t=>t
 |_,_,i+1,.cons r t=> .cons r (aR.eraseIdx i t)
theorem Q4{α:Type}(l:List α):l.eraseIdx (l.length-1)=l.dropLast:=by
 induction l with
 |nil=>rfl
 |cons a r ih=>
  cases r with
  |nil=>rfl
  |cons b r=>
   have e:(a::b::r).length-1=((b::r).length-1)+1:=by
    have h1:(a::b::r).length=r.length+2:=rfl;have h2:(b::r).length=r.length+1:=rfl
    lia
   rw[e,mI,ih]
   all_goals rfl
theorem FI{α:Type}:∀(l:List α)(i:Nat),(l.eraseIdx i).length<=l.length
 |[],_=>aT _
 |_::_,0=>ya _
 |_::r,i+1=>Nat.succ_le_succ (FI r i)
section
variable{X:Cx}{Yw:List (aa×Obj)}{σ:St}{H:Hp}{s:ai}{l b:aa}{xs ys zs:List V}
theorem Inv.lset{YA its':List ac}{n:Nat}{f:Array ac->Array ac}{t':Nat}(I:Inv X Yw σ H s)(hH:H l=some (.lst xs))
  (e:s.heap.get? l=some {cls:= .type "list",data:= .seq YA.toArray n})(hf:f YA.toArray=its'.toArray)(hv:aR ys its')(hz:ys.length<=aU):
  Inv X Yw σ (upd H l (.lst ys)) {s with heap:=s.heap.update l (E7 f),toks:=t'}:=by
 have q:=PySem.IsL.update e f;rw[hf]at q;refine I.write (x:=l) (e:=l) (by rw[hH];exact trivial) (.inl rfl) (λb' u hb hu=>(Heap.get?_update_other s.heap (E7 f) (aX hb)).trans hu) ⟨_,q⟩ ?_;exact⟨hz,its',_,hv,q⟩
theorem Inv.lnew{YA:List ac}{t':Nat}(I:Inv X Yw σ H s)(hv:aR ys YA)(hz:ys.length<=aU):
  Inv X Yw σ (upd H s.heap.objs.size (.lst ys)) {s with heap:=s.heap.push {cls:= .type "list",data:= .seq YA.toArray},toks:=t'}:=
 I.laid (λ_ _ q=>cS _ q) (aT _) ⟨hz,YA,0,hv,cZ _ rfl⟩
theorem Inv.fresh(I:Inv X Yw σ H s):H s.heap.objs.size=none:=I.YB.fresh (aT _)
theorem Inv.lstM(I:Inv X Yw σ H s)(hH:H l=some (.lst xs)):xs.length<=aU/\∃(YA:List ac)(n:Nat),aR xs YA/\xs.length=YA.length/\s.heap.get? l=some {cls:= .type "list",data:= .seq YA.toArray n}:=by obtain⟨z,YA,n,r,e⟩:=I.YB l _ hH;exact⟨z,YA,n,r,r.length,e⟩
theorem Gz{n:Nat}(h:n<=aU):tL n=false:=by unfold tL;exact decide_eq_false (by lia)
end
section
variable{X:Cx}
def HY:V->List V->Hp->VK->Prop:=λx vs H Q=>∃l xs y,x= .ref l/\vs=[y]/\H l=some (.lst xs)/\xs.length<aU/\Q .non (upd H l (.lst (xs++[y])))
theorem i6:A1 X "list.append" HY:=by
 intro Yw s σ H x vs v us Q I rx rv h;obtain⟨l,xs,y,rfl,rfl,hH,hz,q⟩:=h;cases rx;obtain⟨u,rfl,ru⟩:=rv.one;obtain⟨z,YA,n,r,hl,e⟩:=I.lstM hH;refine uL F.slot_list_append ⟨_,e,rfl⟩ F.entry_list_append (F.args_list_append_2 _ _) (PySem.list_append l YA.toArray n u (by rw[b6];lia)) ⟨e,?_⟩;refine⟨.non,_,I.lset (its':=YA++[u]) hH e (by simp) (r.append (.cons ru .nil)) ?_,rfl,q⟩;rw[bG,List.length_singleton]
 lia
def zy:V->List V->Hp->VK->Prop:=λx vs H Q=>∃l b xs zs,x= .ref l/\vs=[.ref b]/\H l=some (.lst xs)/\H b=some (.lst zs)/\xs.length+zs.length<=aU/\Q .non (upd H l (.lst (xs++zs)))
theorem rS:A1 X "list.extend" zy:=by
 intro Yw s σ H x vs v us Q I rx rv h;obtain⟨l,b,xs,zs,rfl,rfl,hH,hB,hz,q⟩:=h;cases rx;obtain⟨u,rfl,ru⟩:=rv.one;cases ru;obtain⟨z,YA,n,r,hl,e⟩:=I.lstM hH;obtain⟨z2,aab,n2,r2,Y6,e2⟩:=I.lstM hB;have YV:YA.toArray.size+aab.toArray.size<=aU:=by rw[b6,b6];lia
 have acA:¬(!YA.toArray.isEmpty&&tL (YA.toArray.size+aab.toArray.size))=true:=by rw[Gz YV,C0];exact dF
 refine uL F.slot_list_extend ⟨_,e,rfl⟩ F.entry_list_extend (F.args_list_extend_2 _ _)
  (AutoSeq1.list_extend_list_list_0 l YA.toArray n b aab.toArray n2 acA (by rw[b6];lia) (by lia)) ⟨e,e2,?_⟩
 refine⟨.non,_,I.lset (its':=YA++aab) hH e (by simp) (r.append r2) ?_,rfl,q⟩;rw[bG]
 lia
def KC:V->List V->Hp->VK->Prop:=λx vs H Q=>∃l xs y,x= .ref l/\vs=[]/\H l=some (.lst xs)/\xs[xs.length-1]? =some y/\Q y (upd H l (.lst xs.dropLast))
theorem VT:A1 X "list.pop" KC:=by
 intro Yw s σ H x vs v us Q I rx rv h;obtain⟨l,xs,y,rfl,rfl,hH,hy,q⟩:=h;cases rx;have hus:=rv.zero;subst hus;obtain⟨z,YA,n,r,hl,e⟩:=I.lstM hH;obtain⟨u,hu,ru⟩:=r.get hy;have hy':YA.toArray[YA.toArray.size-1]? =some u:=by show YA.toArray[YA.length-1]? =some u;rw[<-fw,<-hl];exact hu
 refine uL F.slot_list_pop ⟨_,e,rfl⟩ F.entry_list_pop (F.args_list_pop_1 _) (MeetsSeq.list_pop_last l YA.toArray n u hy' (by rw[b6];lia)) ⟨e,?_⟩;refine⟨y,_,I.lset (its':=YA.dropLast) hH e ?_ r.dropLast ?_,ru,q⟩
 .show YA.toArray.eraseIdxIfInBounds (YA.toArray.size-1)=YA.dropLast.toArray;rw[b6,List.eraseIdxIfInBounds_toArray,Q4]
 .rw[List.length_dropLast]
  lia
def KI:R2:=λx y H Q=>∃l b xs zs,x= .ref l/\y= .ref b/\H l=some (.lst xs)/\H b=some (.lst zs)/\xs.length+zs.length<=aU/\∀p,H p=none->Q (.ref p) (upd H p (.lst (xs++zs)))
theorem kR:du X (jZ .Add) KI:=by
 intro Yw s σ H x y v u Q I rx ry h;obtain⟨l,b,xs,zs,rfl,rfl,hH,hB,hz,q⟩:=h;cases rx;cases ry;obtain⟨z,YA,n,r,hl,e⟩:=I.lstM hH;obtain⟨z2,aab,n2,r2,Y6,e2⟩:=I.lstM hB;refine PySem.P.add_list e e2 ?_ (by rw[b6,b6];lia);have ea:YA.toArray++aab.toArray=(YA++aab).toArray:=by simp
 rw[ea];exact⟨.ref _,_,I.lnew (t':=s.toks) (r.append r2) (by rw[bG];lia),rfl,q _ I.fresh⟩
end
section
variable{prog:ba}{w:aQ}{A:bh}{E:ac->ai->Prop}{s:ai}
set_option maxRecDepth 100000 in
end
theorem aR.ints:∀{ns:List Int}{us:List ac},aR (ns.map V.int) us->ka us ns
 |[],us,h=>by rw[uw]at h;cases h;exact IntsAre.nil
 |n::ns,us,h=>by
  rw[bb]at h;cases h with
  |cons r t=>obtain⟨k,rfl⟩:=r;exact IntsAre.cons n k (aR.ints t)
theorem rC:∀{us:List ac}{ns:List Int},ka us ns->aR (ns.map V.int) us
 |_,_,.nil=>by rw[uw];exact Paired.nil
 |_,_,.cons n t h=>by rw[bb];exact Paired.cons (show RelV (V.int n) (i8 n t)from⟨t,rfl⟩) (rC h)
theorem aR.bls:∀{bs:List Bool}{us:List ac},aR (bs.map V.bl) us->us=bs.map nE
 |[],us,h=>by rw[uw]at h;cases h;rfl
 |b::bs,us,h=>by
  rw[bb]at h;cases h with
  |cons r t=>cases r;rw[aR.bls t,bb]
theorem aR.ref1{a:aa}{us:List ac}(r:aR [V.ref a] us):us=[cv a]:=by
 cases r with
 |cons r t=>cases t;cases r;rfl
section
variable{prog:ba}{w:aQ}{A:bh}{E:ac->ai->Prop}{s:ai}{l:aa}{YA:List ac}{ns:List Int}{Q:ac->ai->Prop}
theorem UY(hh:A.handled=none)(hl:s.heap.IsList l YA.toArray)(hi:ka YA ns)(Y0:0<ns.length)
  (h:∀h' tk M t',(∀b o,s.heap.get? b=some o->h'.get? b=some o)->M∈ns->(∀a,a∈ns->a<=M)->Q (.int M t') {s with heap:=h',toks:=tk}):aq (aB prog w) A (call (.builtin "max") [.ref l]) Q E s:=by
 obtain⟨xs,e⟩:=hi.allInts.items;have hn:numsOf (intItems xs).toList=ns:=by rw[<-e];exact hi.numsOf
 rw[nums_intItems]at hn;subst hn;rw[e]at hl;have YV:0<xs.size:=by simpa using Y0
 refine PySem.max_intList hh hl YV λv h' tk hv hk=>?_;obtain⟨t,rfl⟩:=intItems_at hv;obtain⟨h1,h2⟩:=argBest_gt (numAt xs) (xs.size-1);refine h h' tk _ t hk ?_ λa ha=>?_
 .rw[numAt_eq];exact PySem.getD_mem (by rw[aE,bz];lia)
 .obtain⟨j,hj,rfl⟩:=mem_getD ha;rw[aE,bz]at hj;rw[<-numAt_eq];exact h2 j (by lia)
end
section
variable{X:Cx}
def WN(K:aA):List V->Hp->VK->Prop:=λvs H Q=>∃(a:aa)(ns:List Int),vs=[V.ref a]/\ay K H a (ns.map V.int)/\Q (.int ns.sum) H
def KG(K:aA):List V->Hp->VK->Prop:=λvs H Q=>∃(a:aa)(ns:List Int),vs=[V.ref a]/\ay K H a (ns.map V.int)/\0<ns.length/\∀m,m∈ns->(∀y,y∈ns->y<=m)->Q (.int m) H
theorem We(hc:X.calm=true):dh X (.builtin "max") (KG X.K):=by intro Yw s σ H vs us Q I r h;obtain⟨a,ns,rfl,hs,Y0,q⟩:=h;obtain⟨YA,rv,hl,_⟩:=I.list hs;rw[aR.ref1 r];exact UY (I.ok.hd hc) hl.isList rv.ints Y0 λh' tk m t' hk h1 h2=>⟨.int _,H,I.kept hk,⟨_,rfl⟩,q m h1 h2⟩
def HS(K:aA):List V->Hp->VK->Prop:=λvs H Q=>∃(a:aa)(ns:List Int),vs=[V.ref a]/\ay K H a (ns.map V.int)/\ns.length<64/\
 ∀(YM:List Int)(p:aa),YM.Perm ns->YM.Pairwise (·<=·)->H p=none->Q (.ref p) (upd H p (.lst (YM.map V.int)))
theorem zt{n:Nat}(h:n<64):n<=aU:=by rw[bC];lia
theorem R6:dh X (.builtin "sorted") (HS X.K):=by
 intro Yw s σ H vs us Q I r h;obtain⟨a,ns,rfl,hs,h64,q⟩:=h;obtain⟨YA,rv,hl,_⟩:=I.list hs;rw[aR.ref1 r];have hi:=rv.ints;refine PyProof.Rows.sorted_ints hl.isList hi (by rw[hi.length];exact h64) λout YM h1 h2 h3=>?_;obtain⟨ep,he'⟩:=PyProof.Rows.sortedAll_at s.heap YA out;have YG:(YM.map V.int).length<=aU:=by rw[aE,h2.length_eq];exact zt h64
 exact⟨.ref _,upd H (s.heap.objs.size+1) (.lst (YM.map V.int)),I.laid (t':=s.toks) (λ_ _=>PyProof.Rows.sortedAll_old) (ya _) ⟨YG,out.toList,ep,rC h1,he'⟩,rfl,q YM _ h2 h3 (I.YB.fresh (ya _))⟩
end
theorem GX{prog:ba}{w:aQ}{A:bh}{E:ac->ai->Prop}{s:ai}{l:aa}{items:Array ac}{Q:ac->ai->Prop}(hl:s.heap.IsList l items)
  (h:∀Zr:ai,Zr={s with heap:=s.heap.push {cls:= .type "list_iterator",data:= .fields #[.ref l,.int 0 0]}}-> (Zr.heap.IsListIter s.heap.objs.size l 0/\Zr.heap.IsList l items)->l≠s.heap.objs.size->Q (.ref s.heap.objs.size) Zr):aq (aB prog w) A (qr (.ref l)) Q E s:=by
 have YK:l<s.heap.objs.size:=by obtain⟨_,e,_⟩:=hl;exact bK e
 exact BR hl (h _ rfl ⟨⟨_,cZ _ rfl,rfl,rfl⟩,hl.push _⟩ (cx YK))
theorem D4{prog:ba}{w:aQ}{A:bh}{bs:List Bool}{YA:List ac}(e:YA=bs.map nE):
  TruthOf prog w A (λi v=>YA.toArray[i]? =some v) (λi=>bs.getD i false):=λi v s Q E hv hq=>by
 have hv':YA[i]? =some v:=by simpa using hv
 rw[e,cq]at hv';obtain⟨b,hb,rfl⟩:=dU.mp hv';have hg:bs.getD i false=b:=by rw[A3,hb]<;>rfl
 have hq':Q (bs.getD i false) s:=hq;rw[hg]at hq';exact kG hq'
theorem any_range:∀bs:List Bool,(cI bs.length).any (λi=>bs.getD i false)=bs.any id
 |[]=>rfl
 |b::bs=>by
  rw[cC,Be,nj,lL,nj,<-any_range bs]
  all_goals rfl
theorem all_range:∀bs:List Bool,(cI bs.length).all (λi=>bs.getD i false)=bs.all id
 |[]=>rfl
 |b::bs=>by
  rw[cC,Be,xG,O0,xG,<-all_range bs]
  all_goals rfl
section
variable{X:Cx}
def AG(K:aA):List V->Hp->VK->Prop:=λvs H Q=>∃(a:aa)(bs:List Bool),vs=[V.ref a]/\ay K H a (bs.map V.bl)/\Q (.bl (bs.any id)) H
def KJ(K:aA):List V->Hp->VK->Prop:=λvs H Q=>∃(a:aa)(bs:List Bool),vs=[V.ref a]/\ay K H a (bs.map V.bl)/\Q (.bl (bs.all id)) H
theorem ql(hc:X.calm=true):dh X (.builtin "any") (AG X.K):=by
 intro Yw s σ H vs us Q I r h;obtain⟨a,bs,rfl,hs,q⟩:=h;obtain⟨YA,rv,hl,_⟩:=I.list hs;rw[aR.ref1 r];have hb:=rv.bls;refine call_any_walk (GX hl.isList λZr e2 st Y0=>?_);subst e2;refine⟨_,_,_,_,_,_,_,rfl,E4 (A:=X.A.in1) (I.ok.hd hc) _ a Y0 YA.toArray,st,D4 hb,λh' tk hk=>?_⟩;refine⟨.bl _,H,I.kept λb o eo=>hk b o (λY1=>?_) (cS _ eo),?_,q⟩
 .rcases aV.mp Y1 with e1|Y1
  .exact absurd (e1▸bK eo) (gI _)
  .cases Y1
 .show nE _=nE _;rw[<-any_range,hb,b6,aE]
theorem Wg(hc:X.calm=true):dh X (.builtin "all") (KJ X.K):=by
 intro Yw s σ H vs us Q I r h;obtain⟨a,bs,rfl,hs,q⟩:=h;obtain⟨YA,rv,hl,_⟩:=I.list hs;rw[aR.ref1 r];have hb:=rv.bls;refine call_all_walk (GX hl.isList λZr e2 st Y0=>?_);subst e2;refine⟨_,_,_,_,_,_,_,rfl,E4 (A:=X.A.in1) (I.ok.hd hc) _ a Y0 YA.toArray,st,D4 hb,λh' tk hk=>?_⟩;refine⟨.bl _,H,I.kept λb o eo=>hk b o (λY1=>?_) (cS _ eo),?_,q⟩
 .rcases aV.mp Y1 with e1|Y1
  .exact absurd (e1▸bK eo) (gI _)
  .cases Y1
 .show nE _=nE _;rw[<-all_range,hb,b6,aE]
end
mutual
inductive Dp(K:aA)(H:Hp):V->dP->Prop
 |non:Dp K H .non .none
 |bl (b:Bool):Dp K H (.bl b) (.bool b)
 |int (i:Int):Dp K H (.int i) (.int i)
 |str (x:Str):Dp K H (.str x) (.str x)
 |lst {a:aa} {xs:List V} {ds:List dP}:ay K H a xs->oB K H xs ds->Dp K H (.ref a) (.list ds)
 |tup {a:aa} {xs:List V} {ds:List dP}:a9 K H a xs->oB K H xs ds->Dp K H (.ref a) (.tuple ds)
inductive oB(K:aA)(H:Hp):List V->List dP->Prop
 |nil:oB K H [] []
 |cons {v:V} {vs:List V} {d:dP} {ds:List dP}:Dp K H v d->oB K H vs ds->oB K H (v::vs) (d::ds)
end
section
variable{X:Cx}{Yw:List (aa×Obj)}{σ:St}{H:Hp}{s:ai}
mutual
theorem Dp.reads(I:Inv X Yw σ H s):∀(d:dP)(v:V)(u:ac),Dp X.K H v d->RelV v u->∃as,ir s.heap u d as
 | .none,_,_,h,r=>by cases h;cases r;exact⟨_,Reads.none⟩
 | .bool b,_,_,h,r=>by cases h;cases r;exact⟨_,Reads.bool b⟩
 | .int i,_,_,h,r=>by cases h;obtain⟨t,rfl⟩:=r;exact⟨_,Reads.int i t⟩
 | .str x,_,_,h,r=>by cases h;obtain⟨t,rfl⟩:=r;exact⟨_,Reads.str x t⟩
 | .list ds,_,_,h,r=>by
  cases h with
  |lst hs ha=>cases r;obtain⟨YA,rv,⟨o,n,ho,hc,_,hd⟩,_⟩:=I.list hs;obtain⟨as,hr⟩:=Dp.readsAll I ds _ YA ha rv;exact⟨_,Reads.list ho hc hd hr⟩
 | .tuple ds,_,_,h,r=>by
  cases h with
  |tup hs ha=>cases r;obtain⟨YA,rv,⟨o,ho,hc,n,hd⟩,_⟩:=I.tuple hs;obtain⟨as,hr⟩:=Dp.readsAll I ds _ YA ha rv;exact⟨_,PX ho hc hd hr⟩
 | .dict _,_,_,h,_=>by cases h
theorem Dp.readsAll(I:Inv X Yw σ H s):∀(ds:List dP)(vs:List V)(us:List ac),oB X.K H vs ds->aR vs us->∃as,pT s.heap us ds as
 |[],_,_,h,r=>by cases h;cases r;exact⟨_,OW⟩
 |d::ds,_,_,h,r=>by
  cases h with
  |cons h1 h2=>
   cases r with
   |cons r1 r2=>obtain⟨as,q1⟩:=Dp.reads I d _ _ h1 r1;obtain⟨bs,q2⟩:=Dp.readsAll I ds _ _ h2 r2;exact⟨_,Ou q1 q2⟩
end
end
section
variable{X:Cx}
def KH(K:aA):R2:=λx y H Q=>∃d e,Dp K H x d/\Dp K H y e/\iG d=true/\iG e=true/\Q (.bl (ib d e)) H
def AD(K:aA):R2:=λx y H Q=>∃d e,Dp K H x d/\Dp K H y e/\iG d=true/\iG e=true/\Q (.bl (!ib d e)) H
theorem Ju(hu:X.A.units+64<fb):du X (fY .Eq) (KH X.K):=by intro Yw s σ H x y v u Q I rx ry h;obtain⟨d,e,hd,he,sd,se,q⟩:=h;obtain⟨as,r1⟩:=Dp.reads I d x v hd rx;obtain⟨bs,r2⟩:=Dp.reads I e y u he ry;exact SeqAt.compareEq_shaped r1 r2 sd se hu ⟨.bl _,H,I,rfl,q⟩
theorem Js(hu:X.A.units+64<fb):du X (fY .NotEq) (AD X.K):=by intro Yw s σ H x y v u Q I rx ry h;obtain⟨d,e,hd,he,sd,se,q⟩:=h;obtain⟨as,r1⟩:=Dp.reads I d x v hd rx;obtain⟨bs,r2⟩:=Dp.reads I e y u he ry;exact SeqAt.compareNe_shaped r1 r2 sd se hu ⟨.bl _,H,I,rfl,q⟩
end
abbrev cK(h:aM)(c:aa)(v:Option ac):Prop:=h.IsCell c v
def WM(scope sc:dv):dv:=
 {scope with names:=scope.names.map λ(n,k)=>if(k== .free&&sc.kind== .function&&sc.names.lookup n==some .cell)then(n,.cell)else(n,k)}
def fE(cells:List (Str×aa)):List (Str×gY)->List (Str×aa)->List (Str×aa)
 |[],acc=>acc
 |(n,k)::r,acc=>if k== .free then fE cells r ((n,(cells.lookup n).getD 0)::acc)else fE cells r acc
theorem DP(env:Env)(f:Str×gY->List (Str×aa)->Sem (ForInStep (List (Str×aa))))
  (hf:∀n k c,f (n,k) c=if k== .free then(do let a <-cellOf env n;pure (.yield ((n,a)::c)))else pure (.yield c)):
  ∀(names:List (Str×gY))(acc:List (Str×aa)),(∀y∈names,y.2= .free->∃c,env.cells.lookup y.1=some c)->forIn names acc f=pure (fE env.cells names acc)
 |[],acc,_=>by rw[N2];rfl
 |(n,k)::r,acc,h=>by
  rw[List.forIn_cons,hf];have ih:=λacc=>DP env f hf r acc λy hy=>h y (bq _ hy);unfold fE;by_cases hk:(k==rq)=true
  .rw[if_pos hk,if_pos hk];obtain⟨c,hc⟩:=h (n,k) bA (by simpa using hk);have e:cellOf env n=pure c:=by unfold cellOf;rw[hc]
   rw[e];have e2:(env.cells.lookup n).getD 0=c:=by rw[hc];rfl
   rw[e2];exact ih _
  .rw[if_neg hk,if_neg hk];exact ih _
theorem Q9{scope:dv}{env:Env}(h:∀y∈scope.names,y.2= .free->∃c,env.cells.lookup y.1=some c):closureFor scope env=pure (fE env.cells scope.names []):=by simp only[closureFor];rw[DP env _ (λn k c=>rfl) scope.names [] h];rfl
theorem mem_lookup{α:Type}:∀{l:List (Str×α)}{n:Str}{c:α},(n,c)∈l->∃c',l.lookup n=some c'
 |(k,v)::r,n,c,h=>by
  rw[o6];cases hb:n==k with
  |true=>exact⟨_,rfl⟩
  |false=>
   rcases aV.mp h with e|h
   .cases e;simp at hb
   .exact mem_lookup h
theorem uC{cells:List (Str×aa)}:∀{names:List (Str×gY)}{acc:List (Str×aa)}{n:Str}{c:aa},(n,c)∈fE cells names acc->(n,c)∈acc\/((n,.free)∈names/\c=(cells.lookup n).getD 0)
 |[],_,_,_,h=> .inl h
 |(m,k)::r,acc,n,c,h=>by
  unfold fE at h;split at h
  .rename_i hk;have hk:k= .free:=by simpa using hk
   rcases uC h with h|⟨h1,h2⟩
   .rcases aV.mp h with e|h
    .cases e;exact .inr ⟨hk▸bA,rfl⟩
    .exact .inl h
   .exact .inr ⟨bq _ h1,h2⟩
  .rcases uC h with h|⟨h1,h2⟩
   .exact .inl h
   .exact .inr ⟨bq _ h1,h2⟩
theorem xZ{cells:List (Str×aa)}:∀{names:List (Str×gY)}{acc:List (Str×aa)}{p:Str×aa},p∈acc->p∈fE cells names acc
 |[],_,_,h=>h
 |(m,k)::r,acc,p,h=>by
  unfold fE;split
  .exact xZ (bq _ h)
  .exact xZ h
theorem xY{cells:List (Str×aa)}:∀{names:List (Str×gY)}{acc:List (Str×aa)}{n:Str},(n,.free)∈names->(n,(cells.lookup n).getD 0)∈fE cells names acc
 |(m,k)::r,acc,n,h=>by
  unfold fE;rcases aV.mp h with e|h
  .cases e;exact xZ bA
  .split
   .exact xY h
   .exact xY h
theorem rU:∀{names:List (Str×gY)}{h:aM}{acc:List (Str×aa)}{x:Str}{c:aa},(x,c)∈fP h.objs.size names acc->
  (x,c)∈acc\/((x,.cell)∈names/\h.objs.size<=c/\cK (nM h names) c none)
 |[],_,_,_,_,h=> .inl h
 |(n,k)::r,h,acc,x,c,hm=>by
  unfold fP at hm;unfold nM;split at hm
  .rename_i hk;rw[if_pos hk];have hk:k= .cell:=by simpa using hk
   rw[<-iF h {cls:= .type "cell",data:= .cell none}]at hm;rcases rU hm with hm|⟨h1,h2,h3⟩
   .rcases aV.mp hm with e|hm
    .cases e;exact .inr ⟨hk▸bA,aT _,_,xc r _ _ _ (cZ _ rfl),rfl⟩
    .exact .inl hm
   .rw[iF]at h2;exact .inr ⟨bq _ h1,wZ h2,h3⟩
  .rename_i hk;rw[if_neg hk];rcases rU hm with hm|⟨h1,h2,h3⟩
   .exact .inl hm
   .exact .inr ⟨bq _ h1,h2,h3⟩
theorem uT:∀{names:List (Str×gY)}{n:Nat}{acc:List (Str×aa)}{p:Str×aa},p∈acc->p∈fP n names acc
 |[],_,_,_,h=>h
 |(m,k)::r,n,acc,p,h=>by
  unfold fP;split
  .exact uT (bq _ h)
  .exact uT h
theorem yE:∀{names:List (Str×gY)}{n:Nat}{acc:List (Str×aa)}{x:Str},(x,.cell)∈names->∃c,(x,c)∈fP n names acc
 |(m,k)::r,n,acc,x,h=>by
  unfold fP;rcases aV.mp h with e|h
  .cases e;exact⟨n,uT bA⟩
  .split
   .exact yE h
   .exact yE h
theorem yD:∀{names:List (Str×gY)}{h:aM}{acc:List (Str×aa)}{x y:Str}{c:aa},(∀p∈acc,p.2<h.objs.size)->(∀x y c,(x,c)∈acc->(y,c)∈acc->x=y)->
  (x,c)∈fP h.objs.size names acc->(y,c)∈fP h.objs.size names acc->x=y
 |[],_,_,_,_,_,_,hi,h1,h2=>hi _ _ _ h1 h2
 |(n,k)::r,h,acc,x,y,c,hl,hi,h1,h2=>by
  unfold fP at h1 h2;split at h1
  .rename_i hk;rw[if_pos hk]at h2;rw[<-iF h {cls:= .type "cell",data:= .cell none}]at h1 h2;refine yD (h:=h.push _) (λp hp=>?_) (λx y c a b=>?_) h1 h2
   .rw[iF];rcases aV.mp hp with rfl|hp
    .exact t8 _
    .exact o0 (hl p hp)
   .rcases aV.mp a with e|a<;>rcases aV.mp b with e'|b
    .cases e;cases e';rfl
    .cases e;exact absurd (hl _ b) (gI _)
    .cases e';exact absurd (hl _ a) (gI _)
    .exact hi _ _ _ a b
  .rename_i hk;rw[if_neg hk]at h2;exact yD hl hi h1 h2
theorem Pt{M:s_}{A:bh}{E:ac->ai->Prop}{s:ai}{scope:dv}{globals:aa}{afv:List (Str×aa)}{YJ:Str}{func:Option aa}{code:ac}{ahG:Env}{builtins:aa}{Q:Env->ai->Prop}
  (h:Q (newEnv scope s.heap.objs.size globals (fP (s.heap.objs.size+1) scope.names afv) YJ func code (some ahG) builtins) {s with heap:=nM (s.heap.push {cls:= .type "dict",data:= .dict #[]}) scope.names}):
  aq M A (newFunctionEnv scope globals afv [] YJ func code (some ahG) builtins) Q E s:=by
 simp only[newFunctionEnv,wO,if_true];refine ah (Er ?_);refine ah (wpAny_layCells _ (λn k c=>rfl) scope.names afv _ _ ?_);rw[show({s with heap:=s.heap.push {cls:= .type "dict",data:= .dict #[]}}:ai).heap.objs.size=s.heap.objs.size+1 from iF ..];rw[N2];exact ah (aw (aw h))
theorem xU{sc:dv}:∀{names:List (Str×gY)}{x:Str}{k:gY},
  (names.map λ(n,k)=>if(k==rq&&sc.kind== .function&&sc.names.lookup n==some .cell)then(n,Dy)else(n,k)).lookup x=some k->
  ∃k',names.lookup x=some k'/\(k=k'\/(k'= .free/\k= .cell))
 |[],_,_,h=>by simp at h
 |(n,ack)::r,x,k,h=>by
  have ih:= @xU sc r x k;have h':ny x ((if(ack==rq&&sc.kind== .function&&sc.names.lookup n==some .cell)=true then(n,Dy)else(n,ack))::(r.map _))=some k:=h;cases hx:x==n with
  |true=>
   simp only[o6,hx];by_cases hc:(ack==rq&&sc.kind== .function&&sc.names.lookup n==some .cell)=true
   .rw[if_pos hc]at h';simp only[o6,hx]at h';cases h';simp only[hU,beq_iff_eq]at hc;exact⟨ack,rfl,.inr ⟨hc.1.1,rfl⟩⟩
   .rw[if_neg hc]at h';simp only[o6,hx]at h';cases h';exact⟨_,rfl,.inl rfl⟩
  |false=>
   simp only[o6,hx];by_cases hc:(ack==rq&&sc.kind== .function&&sc.names.lookup n==some .cell)=true
   .rw[if_pos hc]at h';simp only[o6,hx]at h';exact ih h'
   .rw[if_neg hc]at h';simp only[o6,hx]at h';exact ih h'
structure sZ(N:List Str)(sc scope:dv)(own:List (Str×Nat)):Prop where
 kind:scope.kind= .function
 uniq:∀y∈scope.names,scope.names.lookup y.1=some y.2
 ix:∀p∈own,N[p.2]? =some p.1
 free:∀y∈scope.names,y.2= .free->sc.names.lookup y.1=some .cell\/sc.names.lookup y.1=some .free
 own:∀y∈scope.names,y.2= .local\/y.2= .cell->y.1∈own.map (·.1)\/y.1∉N
def bv(σ:St):List Nat->St
 |[]=>σ
 |v::vs=>(bv σ vs).set v none
theorem xQ(σ:St):∀vs:List Nat,(bv σ vs).length=σ.length
 |[]=>rfl
 |v::vs=>by unfold bv;rw[List.length_set,xQ σ vs]
theorem ym{σ:St}{i:Nat}{x:V}:∀{vs:List Nat},(bv σ vs)[i]? =some (some x)->σ[i]? =some (some x)/\i∉vs
 |[],h=>⟨h,by simp⟩
 |v::vs,h=>by
  unfold bv at h;by_cases hi:v=i
  .subst hi;by_cases hv:v<(bv σ vs).length
   .rw[Bf hv]at h;cases h
   .rw[Bj (by simpa using hv)]at h;cases h
  .rw[Bo hi]at h;obtain⟨h1,h2⟩:=ym h;exact⟨h1,by simp only[aV,not_or];exact⟨λe=>hi e.symm,h2⟩⟩
abbrev Cx.blk(X:Cx)(s:ai)(H:Hp)(scope:dv)(Y5:Env)(fp:List aa):Cx:={X with s_0:=s,H_0:=H,env:=Y5,outer:=X.stack,ex:=fp,fn:=λx=>scope.names.lookup x==some .cell,pn:=[],xe:=λ_ _=>False}
section
variable{X:Cx}{Yw:List (aa×Obj)}{σ:St}{H:Hp}{s:ai}
theorem PN{scope:dv}{own:List (Str×Nat)}{fp:List aa}(I:Inv X Yw σ H s)(ok:sZ X.N X.env.scope scope own)(hN:X.N.Nodup)(hfp:∀b∈fp,jO X Yw H b/\b<s.heap.objs.size):
  Inv (X.blk s H scope (i_ scope (fP (s.heap.objs.size+1) scope.names (fE X.env.cells scope.names [])) s.heap.objs.size X.env) fp) [] (bv σ (own.map (·.2))) H {s with heap:=nM (s.heap.push {cls:= .type "dict",data:= .dict #[]}) scope.names}:=by
 have abI:∀y∈scope.names,y.2= .free->∃c,X.env.cells.lookup y.1=some c:=λy hy e=>by
  rcases ok.free y hy e with k|k
  .exact I.ok.has _ (.inl k)
  .exact I.ok.has _ (.inr k)
 generalize acI:i_ scope (fP (s.heap.objs.size+1) scope.names (fE X.env.cells scope.names [])) s.heap.objs.size X.env=Y5;have kp:∀b o,s.heap.get? b=some o->(nM (s.heap.push {cls:= .type "dict",data:= .dict #[]}) scope.names).get? b=some o:=λb o e=>xc _ _ _ _ (cS _ e);have hL:Y5.locals=s.heap.objs.size:=by rw[<-acI];rfl
 have Zb:Y5.cells=fP (s.heap.objs.size+1) scope.names (fE X.env.cells scope.names []):=by rw[<-acI];rfl
 have hsc:Y5.scope=WM scope X.env.scope:=by rw[<-acI];rfl
 rw[<-iF s.heap {cls:= .type "dict",data:= .dict #[]}]at Zb;have cm:∀{y c},(y,c)∈fE X.env.cells scope.names []->X.env.cells.lookup y=some c/\c<s.heap.objs.size:=λ{y c}hm=>by
  rcases uC hm with hm|⟨h1,rfl⟩
  .cases hm
  .obtain⟨c,hc⟩:=abI _ h1 rfl;rw[hc];obtain⟨w,z⟩:=I.cell _ _ hc;exact⟨rfl,z.lt⟩
 have mem:∀{y c},Y5.cells.lookup y=some c->(X.env.cells.lookup y=some c/\c<s.heap.objs.size)\/(s.heap.objs.size+1<=c/\cK (nM (s.heap.push {cls:= .type "dict",data:= .dict #[]}) scope.names) c none):=λ{y c}e=>by
  rw[Zb]at e;rcases rU (hG e)with hm|⟨_,h2,h3⟩
  .exact .inl (cm hm)
  .rw[iF]at h2;exact .inr ⟨h2,h3⟩
 have look:∀{y},scope.names.lookup y=some .free->∃c,Y5.cells.lookup y=some c/\X.env.cells.lookup y=some c:=λ{y}hl=>by
  have hy:(y,rq)∈scope.names:=hG hl;obtain⟨c',e'⟩:=mem_lookup (uT (names:=scope.names) (n:=(s.heap.push {cls:= .type "dict",data:= .dict #[]}).objs.size) (xY (cells:=X.env.cells) (acc:=[]) hy));rw[<-Zb]at e';refine⟨c',e',?_⟩;rw[Zb]at e';rcases rU (hG e')with hm|⟨h1,_,_⟩
  .exact(cm hm).1
  .have:=ok.uniq _ h1;rw[hl]at this;cases this
 have okB:(X.blk s H scope Y5 fp).Ok:=by
  refine⟨I.ok.mod,by show Y5.scope.kind=_;rw[hsc];exact ok.kind,by show Y5.globals=_;rw[<-acI];exact I.ok.glob,by show Y5.builtins=_;rw[<-acI];exact I.ok.blt,by show s.heap.objs.size<=Y5.locals;rw[hL];exact aT _,
   λy z c e1 e2=>?_,λy hy=>?_,λy c z e=>?_,I.ok.hd,I.ok.frames,.inl rfl,λb hb=>⟨?_,λy c e z=>?_⟩,I.bs,cV I.ok.bsz I.sz,λb o e hb=>?_,λb hb z=>?_,I.stack,I.stkFree⟩
  .have e1:Y5.cells.lookup y=some c:=e1;have e2:Y5.cells.lookup z=some c:=e2;rw[Zb]at e1 e2;refine yD (λp hp=>?_) (λy z c a b=>I.ok.inj y z c (cm a).1 (cm b).1) (hG e1) (hG e2);rw[iF];exact o0 (cm (y:=p.1) (c:=p.2) hp).2
  .show∃c,Y5.cells.lookup y=some c;have key:∀k,Y5.kindOf y=some k->(k= .cell\/k= .free)->∃c,Y5.cells.lookup y=some c:=λk hk hk'=>by
    unfold Env.kindOf at hk;rw[hsc]at hk;obtain⟨k',e,r⟩:=xU hk;have:k'= .cell\/k'= .free:=by
     rcases r with rfl|⟨rfl,_⟩
     .exact hk'
     .exact .inr rfl
    rcases this with rfl|rfl
    .obtain⟨c,hm⟩:=yE (n:=(s.heap.push {cls:= .type "dict",data:= .dict #[]}).objs.size) (acc:=fE X.env.cells scope.names []) (hG e);obtain⟨c',e'⟩:=mem_lookup hm;exact⟨c',by rw[Zb];exact e'⟩
    .obtain⟨c,h1,_⟩:=look e;exact⟨c,h1⟩
   rcases hy with hy|hy
   .exact key _ hy (.inl rfl)
   .exact key _ hy (.inr rfl)
  .have z:(scope.names.lookup y==some Dy)=true:=z;have z:scope.names.lookup y=some .cell:=by simpa using z
   have e:Y5.cells.lookup y=some c:=e;rw[Zb]at e;rcases rU (hG e)with hm|⟨_,h2,_⟩
   .rcases uC hm with hm|⟨h1,_⟩
    .cases hm
    .have q:=ok.uniq _ h1;rw[z]at q;cases q
   .rw[iF]at h2;exact wZ h2
  .show b≠Y5.locals;rw[hL];exact cx (hfp b hb).2
  .have e:Y5.cells.lookup y=some c:=e;rcases mem e with⟨h1,_⟩|⟨h1,_⟩
   .exact(hfp b hb).1.2.2.2.2.1 y c h1 z
   .have h2:s.heap.objs.size+1<=b:=by rw[<-z];exact h1
    exact absurd (gh (hfp b hb).2 (wZ h2)) (gI _)
  .rcases(hfp b hb).1.2.2.2.1 with z|z
   .exact I.ok.ac_ b o e z
   .exact absurd (gh (bK e) (cV I.ok.bsz z)) (gI _)
  .rcases aV.mp (I.stkSub b z)with z|z
   .exact(hfp b hb).1.2.1 z
   .exact(hfp b hb).1.2.2.1 z
 refine⟨okB,rfl,I.bare,Un.kept kp,⟨λ_=>none,?_,λi y av e1 e2 e3=>?_⟩,λy c e=>?_,?_,λy c e=>?_,λp hp=>?_,I.YB.kept kp,by rw[xQ];exact I.len⟩
 .show Heap.Ns _ Y5.locals _;rw[hL];exact Heap.Ns.keeps (Heap.Ns.new ..) λb o e=>xc _ _ _ _ e
 .obtain⟨e2,Y0⟩:=ym e2;have hfr:scope.names.lookup y=some .free/\(Y5.kindOf y=some .cell\/Y5.kindOf y=some .free):=by
   have key:∀k,Y5.scope.names.lookup y=some k->k= .local\/k= .cell\/k= .free->scope.names.lookup y=some .free/\(Y5.kindOf y=some .cell\/Y5.kindOf y=some .free):=λk hk hk'=>by
    have hk0:=hk;rw[hsc]at hk;obtain⟨k',e,r⟩:=xU hk;have no:¬(k'= .local\/k'= .cell):=λhh=>by
     rcases ok.own _ (hG e) hh with e'|e'
     .obtain⟨p,hp,hpy⟩:=aK.mp e';have e3:=ok.ix p hp;have:p.1=y:=hpy;rw[this]at e3;exact Y0 (aK.mpr ⟨p,hp,yY hN e3 e1⟩)
     .exact e' (cU e1)
    rcases r with rfl|⟨rfl,rfl⟩
    .rcases hk' with rfl|rfl|rfl
     .exact absurd (.inl rfl) no
     .exact absurd (.inr rfl) no
     .exact⟨e,.inr hk0⟩
    .exact⟨e,.inl hk0⟩
   have e3:qJ Y5.scope y:=e3;rcases e3 with e3|e3|e3
   .exact key _ e3 (.inl rfl)
   .exact key _ e3 (.inr (.inl rfl))
   .exact key _ e3 (.inr (.inr rfl))
  obtain⟨m,hn,hl⟩:=I.loc;have aj6:qJ X.env.scope y:=(ok.free _ (hG hfr.1) rfl).elim (λk=> .inr (.inl k)) (λk=> .inr (.inr k));obtain⟨w,r,q⟩:=hl i y av e1 e2 aj6;refine⟨w,r,.inr ⟨hfr.2,?_⟩⟩;obtain⟨c,h1,h2⟩:=look hfr.1;rcases q with⟨k,_⟩|⟨_,c',e',z⟩
  .have k:X.env.scope.names.lookup y=some .local:=k;rcases ok.free _ (hG hfr.1) rfl with k'|k'<;>rw[show X.env.scope.names.lookup y=_ from k']at k<;>cases k
  .rw[h2]at e';cases e';exact⟨c,h1,z.keeps kp⟩
 .have e:Y5.cells.lookup y=some c:=e;rcases mem e with⟨h1,_⟩|⟨_,z⟩
  .obtain⟨w,z⟩:=I.cell y c h1;exact⟨w,z.keeps kp⟩
  .exact⟨_,z⟩
 .show H Y5.locals=none;rw[hL];exact I.YB.fresh (aT _)
 .have e:Y5.cells.lookup y=some c:=e;rcases mem e with⟨h1,_⟩|⟨h1,_⟩
  .exact I.Φ y c h1
  .exact I.YB.fresh (wZ h1)
 .exact absurd (show p∈([]:List (aa×Obj))++[]from hp) (by simp)
theorem Wj{E:ac->ai->Prop}{D:aa}{xs:List V}{y:V}{v:ac}{Q:ac->ai->Prop}(I:Inv X Yw σ H s)(hD:H D=some (.lst xs))(hz:xs.length<aU)(r:RelV y v)
  (h:∀s',Inv X Yw σ (upd H D (.lst (xs++[y]))) s'->Q .none s'):aq (aB X.prog X.w) X.A (call (.builtin "list.append") [.ref D,v]) Q E s:=by
 obtain⟨hz',YA,n,ri,e⟩:=I.YB D _ hD;have hl:=ri.length;refine append_at («hsz»:=by rw[b6];lia) e λh' sb Η=>?_;refine h {s with heap:=h'} (I.write (t':=s.toks) (by rw[hD];trivial) (.inl rfl) (λb u hb q=>(sb.2 b hb).trans q) ⟨_,Η⟩ ⟨by rw[bG];exact hz,YA++[v],n+1,ri.append (.cons r .nil),?_⟩);rw[Η];simp
def tD(X:Cx)(ZA:List aZ)(t:TT):Prop:=
 ∀(Yw:List (aa×Obj))(s:ai)(σ:St)(H:Hp)(Q:Bool->Hp->Prop),Inv X Yw σ H s->t σ H Q->
  aq (aB X.prog X.w) X.A (forIn ZA true λc r=>if r=true then do let ok <-sS c X.env (eval c X.env);pure (ue ok)else pure (ue r)) (TP X Yw σ Q) X.xe s
def Kl:TT:=λ_ H Q=>Q true H
theorem ja:tD X [] Kl:=λ_ _ _ H _ I h=>wpAny_tests_nil ⟨H,I,h⟩
theorem sw{c:aZ}{t:TT}(h:PT X c t):tD X [c] t:=λYw s σ H Q I hw=>wpAny_tests_one (h Yw s σ H Q I hw)
end
theorem qz{α:Type}{t:Sem α}{Q Q':α->ai->Prop}{M:s_}{A:bh}{E:ac->ai->Prop}{s:ai}(h:aq M A t Q (λ_ _=>False) s)(hQ:∀a s,Q a s->Q' a s):aq M A t Q' E s:=iH h hQ λ_ _ z=>gO z
theorem OR{prog:ba}{w:aQ}{A:bh}{R:Result->ai->Prop}{s:ai}{ZM target iter:aZ}{ZA:List aZ}{scope:dv}{pos:Pos}{it acc:ac}{env:Env}(I:Nat->ai->Prop)
  (aaQ:∀n s,I n s->aq (aB prog w) A (kg it) (λr YO=>match r with
   |none=>R (.ok .next) YO
   |some v=>aq (aB prog w) A (xf target it v) (λ_ afP=>aq (aB prog w) A (vT target env v) (λ_ Zr=> aq (aB prog w) A (forIn ZA true λc r=>if r=true then do let ok <-sS c env (eval c env);pure (ue ok)else pure (ue r)) (λok abr=> if ok=true then aq (aB prog w) A (eval ZM env) (λx afO=> aq (aB prog w) A (call (.builtin "list.append") [acc,x]) (λ_ afN=>∃m,m<n/\I m afN) (sE (aB prog w) A env λe s'=>R (.error e) s') afO) (sE (aB prog w) A env λe s'=>R (.error e) s') abr else∃m,m<n/\I m abr) (sE (aB prog w) A env λe s'=>R (.error e) s') Zr) (sE (aB prog w) A env λe s'=>R (.error e) s') afP) (sE (aB prog w) A env λe s'=>R (.error e) s') YO) (sE (aB prog w) A env λe s'=>R (.error e) s') s)
  (n:Nat)(h:I n s):
  lV (aB prog w) A (.compLoop (.ListComp ZM [⟨target,iter,ZA,0⟩] scope pos) 0 it acc env) R s:=by
 refine codeAny_loop rfl I (λn s hI=>?_) n h;show aq _ A ((compTurn (.ListComp ZM [⟨target,iter,ZA,0⟩] scope pos) 0 it acc env).onRaise (λx=>do noteFrame x env;theTreesLotGoes x)) _ _ s;refine wpAny_noted ?_;rw[compTurn_list];refine ah (wpAny_standAt (ah (iH (aaQ n s hI) (λr YO adq=>?_) λ_ _ h'=>h')));cases r with
 |none=>exact aw adq
 |some v=>
  refine ah (iH adq (λ_ afP aj0=>?_) λ_ _ h'=>h');refine ah (iH aj0 (λ_ Zr aco=>ah (iH aco (λok abr adp=>?_) λ_ _ h'=>h')) λ_ _ h'=>h');cases ok with
  |false=>exact aw ⟨rfl,adp⟩
  |true=>exact ah (ah (iH adp (λx afO aj'=>ah (iH aj' (λ_ afN aiZ=>aw (aw ⟨rfl,aiZ⟩)) λ_ _ h'=>h')) λ_ _ h'=>h'))
section
variable{X:Cx}
def mB(wi:TI)(g:TG)(tt:TT)(te:TE)(vs:List Nat):TE:=λσ H Q=>wi σ H λJ H1=>∀D,H1 D=none->∃W:Nat->Nat->Hp->Prop,(∃m,W 0 m (upd H1 D (.lst [])))/\∀i m H,W i m H->
 (J.stop i H/\Q (.ref D) H)\/(J.go i H/\∃Nx:Hp->Prop,(∀H',Nx H'->∃m',m'<m/\W (i+1) m' H')/\∀x H',J.yld i H x H'->g x (bv σ vs) H' λYF H2=>bv YF vs=bv σ vs/\tt YF H2 λb H3=> if b=true then te YF H3 λy H4=>∃acc,H4 D=some (.lst acc)/\acc.length<aU/\Nx (upd H4 D (.lst (acc++[y])))else Nx H3)
theorem Il{Yw:List (aa×Obj)}{s:ai}{σ:St}{H:Hp}{Q:VK}{ZM tg iter:aZ}{ZA:List aZ}{scope:dv}{own:List (Str×Nat)}{pos ZN:Pos}{wi:TI}{g:TG}{tt:TT}{te:TE}{use:Option (ac->Sem Unit)}{Qf:ac->ai->Prop}
  (hc:X.calm=true)(hN:X.N.Nodup)(I:Inv X Yw σ H s)(hi:PI X tg iter wi)(ok:sZ X.N X.env.scope scope own)
  (hg:∀(s:ai)(H:Hp)(C:aa)(cl:List (Str×aa))(fp:List aa),PG (X.blk s H scope (i_ scope cl C X.env) fp) tg g)(ht:∀(s:ai)(H:Hp)(C:aa)(cl:List (Str×aa))(fp:List aa),tD (X.blk s H scope (i_ scope cl C X.env) fp) ZA tt)
  (he:∀(s:ai)(H:Hp)(C:aa)(cl:List (Str×aa))(fp:List aa),PE (X.blk s H scope (i_ scope cl C X.env) fp) ZM te)(hs:∀x,wW iter X.env x=pure x)
  (h:mB wi g tt te (own.map (·.2)) σ H Q)
  (hRR:∀D C s' m H',Inv X Yw σ H' s'->Q (.ref D) H'->s'.heap.Ns C m->jO X Yw H' C->compPost (aB X.prog X.w) X.A X.xe use Qf (.ref D) C (.ok .next) s'):
  aq (aB X.prog X.w) X.A (comprehension (.ListComp ZM [⟨tg,iter,ZA,0⟩] scope pos) scope X.env ZN (newList []) false (eval iter X.env) use) Qf X.xe s:=by
 have abI:∀y∈scope.names,y.2= .free->∃c,X.env.cells.lookup y.1=some c:=λy hy e=>by
  rcases ok.free y hy e with k|k
  .exact I.ok.has _ (.inl k)
  .exact I.ok.has _ (.inr k)
 refine wpAny_comprehension_free (use:=use) rfl hs (Q9 abI) ok.kind (λy hy e=>by rw[ok.uniq y hy,e])
  (aW (hi Yw s σ H _ I h) λxv s1 hx=>aW hx λitv s2 h2=>?_)
 obtain⟨it,fp,tn,J,H2,e,I2,T,st2,f2,q⟩:=h2;subst e;refine oZ (Pt ?_) (by show 0<=aU;decide);generalize hD:s2.heap.objs.size=D;have hDn:H2 D=none:=I2.YB.fresh (uv hD);obtain⟨W,⟨m0,w0⟩,aaQ⟩:=q D hDn;generalize hs3:({s2 with heap:=s2.heap.push {cls:= .type "list",data:= .seq ([]:List ac).toArray}}:ai)=s3;have I3:Inv X Yw σ (upd H2 D (.lst [])) s3:=by rw[<-hs3];refine I2.laid (t':=s2.toks) (λb o e=>cS _ e) (uv hD) ⟨dJ _,[],0,.nil,?_⟩;rw[<-hD];exact cZ _ rfl
 have h3:s3.heap=s2.heap.push {cls:= .type "list",data:= .seq ([]:List ac).toArray}:=by rw[<-hs3]
 have sz:∀b∈fp,b<s2.heap.objs.size:=λb hb=>by obtain⟨o,e,_⟩:=T.obj _ _ st2 b hb;exact bK e
 have f3:∀b∈fp,jO X Yw (upd H2 D (.lst [])) b/\b<s3.heap.objs.size:=λb hb=>by have YK:=sz b hb;refine⟨⟨?_,(f2 b hb).2⟩,by rw[h3,iF];exact o0 YK⟩;rw[aj (by rw[<-hD];exact cx YK)];exact(f2 b hb).1
 have st3:tn 0 s3.heap:=T.keep _ _ _ st2 λb _ o e=>by rw[h3];exact cS _ e
 have I4:=PN I3 ok hN f3;have pg:=hg s3 (upd H2 D (.lst [])) s3.heap.objs.size (fP (s3.heap.objs.size+1) scope.names (fE X.env.cells scope.names [])) fp;have pt:=ht s3 (upd H2 D (.lst [])) s3.heap.objs.size (fP (s3.heap.objs.size+1) scope.names (fE X.env.cells scope.names [])) fp;have pe:=he s3 (upd H2 D (.lst [])) s3.heap.objs.size (fP (s3.heap.objs.size+1) scope.names (fE X.env.cells scope.names [])) fp;show lV _ _ (.compStart (.ListComp ZM [⟨tg,iter,ZA,0⟩] scope pos) 0 (.ref it) (.ref D) (i_ scope (fP (s3.heap.objs.size+1) scope.names (fE X.env.cells scope.names [])) s3.heap.objs.size X.env)) (compPost (aB X.prog X.w) X.A X.xe use Qf (.ref D) s3.heap.objs.size) {s3 with heap:=nM (s3.heap.push {cls:= .type "dict",data:= .dict #[]}) scope.names};have nfp:∀b∈fp,(upd H2 D (.lst [])) b=none:=λb hb=>(f3 b hb).1.1;generalize hce:i_ scope (fP (s3.heap.objs.size+1) scope.names (fE X.env.cells scope.names [])) s3.heap.objs.size X.env=ce at I4 pg pt pe ⊢;have cL:ce.locals=s3.heap.objs.size:=by subst hce;rfl
 generalize ZT:upd H2 D (.lst [])=H3 at I3 I4 pg pt pe w0 nfp f3;generalize hs4:({s3 with heap:=nM (s3.heap.push {cls:= .type "dict",data:= .dict #[]}) scope.names}:ai)=s4 at I4 ⊢;have st4:tn 0 s4.heap:=T.keep _ _ _ st3 λb _ o e=>by rw[<-hs4];exact xc _ _ _ _ (cS _ e)
 have aaR:∀{YD:St}{H':Hp}{s':ai},Inv (X.blk s3 H3 scope ce fp) [] YD H' s'->(∀b∈fp,H' b=none)->∀b∈fp,jO (X.blk s3 H3 scope ce fp) [] H' b:=λ{YD H' s'}I' hn b hb=>
  ⟨hn b hb,(I'.ok.exf b hb).1,I'.ok.acP b hb,.inl hb,λx c e=>(I'.ok.exf b hb).2 x c e,λp hp=>absurd (show p∈([]:List (aa×Obj))++[]from hp) (by simp)⟩
 have loop:lV (aB X.prog X.w) X.A (.compLoop (.ListComp ZM [⟨tg,iter,ZA,0⟩] scope pos) 0 (.ref it) (.ref D) ce) (compPost (aB X.prog X.w) X.A X.xe use Qf (.ref D) s3.heap.objs.size) s4:=by
  refine OR (λn s'=>∃i H',Inv (X.blk s3 H3 scope ce fp) [] (bv σ (own.map (·.2))) H' s'/\tn i s'.heap/\(∀b∈fp,H' b=none)/\W i n H') ?_ m0 ⟨0,H3,I4,st4,nfp,w0⟩;rintro n s5 ⟨i,H5,I5,st5,n5,w5⟩;rcases aaQ i n H5 w5 with⟨stop,qq⟩|⟨go,Nx,hNx,step⟩
  .have td:=T.done (X.blk s3 H3 scope ce fp) rfl rfl rfl hc i [] s5 _ H5 (λ_ _=>False) I5 (aaR I5 n5) st5 stop;refine qz td λr s6⟨hr,I6⟩=>?_;subst hr;have I7:Inv X Yw σ H5 s6:=I3.call' (ch:=fp) I6.os I6.Yx I6.YB I6.bare λb hb=>⟨(f3 b hb).1.2.2.2.1,(f3 b hb).1.2.1,(f3 b hb).1.2.2.2.2.1,(f3 b hb).1.2.2.2.2.2⟩;have nC:H5 s3.heap.objs.size=none:=by have z:H5 ce.locals=none:=I6.free;rw[cL]at z;exact z
   obtain⟨m,hn,_⟩:=I6.loc;have hn:s6.heap.Ns ce.locals m:=hn;rw[cL]at hn;exact hRR D s3.heap.objs.size s6 m H5 I7 qq hn (I3.fpOk (aT _) nC)
  .have ti:=T.item (X.blk s3 H3 scope ce fp) rfl rfl rfl hc i [] s5 _ H5 (λ_ _=>False) I5 (aaR I5 n5) st5 go;refine qz ti λr s6⟨u,hr,h6⟩=>?_;subst hr;refine qz h6 λ_ s7 zz=>?_;obtain⟨x,H7,I7,r7,y7,st7,n7⟩:=zz;have I7':=I7.pinned (aaR I7 n7) (T.obj _ _ st7);refine qz (pg _ s7 _ H7 x u _ I7' r7 (step x H7 y7)) λ_ s8 zz=>?_;obtain⟨σ8,H8,I8,hw8,q8⟩:=zz;refine qz (pt _ s8 σ8 H8 _ I8 q8) λb s9⟨H9,I9,q9⟩=>?_;have fin:∀{s':ai}{H':Hp},Inv (X.blk s3 H3 scope ce fp) ([]++sL fp s7.heap) σ8 H' s'->Nx H'->∃m,m<n/\∃i H',Inv (X.blk s3 H3 scope ce fp) [] (bv σ (own.map (·.2))) H' s'/\tn i s'.heap/\(∀b∈fp,H' b=none)/\W i m H':=λ{s' H'}I' nx=>by
    obtain⟨m',hm,w'⟩:=hNx H' nx;have ag6:∀b∈fp,∀o,s7.heap.get? b=some o->s'.heap.get? b=some o/\H' b=none:=λb hb o e=>
     let z:=I'.pin (b,o) (iB _ (iB _ (yf hb e)))
     ⟨z.1,z.2.1⟩
    have hl:(bv σ (own.map (·.2))).length=σ8.length:=by rw[<-hw8,xQ]
    refine⟨m',hm,i+1,H',(I'.unpinned (Yw:=[])).weak hl (λj v e=>?_),T.keep _ _ _ st7 λb hb o e=>(ag6 b hb o e).1,λb hb=>?_,w'⟩
    .rw[<-hw8]at e;exact(ym e).1
    .obtain⟨o,e,_⟩:=T.obj _ _ st7 b hb;exact(ag6 b hb o e).2
   cases b with
   |false=>simp only[bO,if_false]at q9 ⊢;exact fin I9 q9
   |true=>simp only[if_true]at q9 ⊢;refine qz (pe _ s9 σ8 H9 _ I9 q9) λz s10 zz=>?_;obtain⟨yv,H10,I10,r10,acc,akB,aj2,nx⟩:=zz;exact Wj (X:=X.blk s3 H3 scope ce fp) I10 akB aj2 r10 λs11 I11=>fin I11 nx
 exact codeAny_compStart_list loop (T.self X.A 0 _ _ _ st4 loop)
theorem jF{ZM tg iter:aZ}{ZA:List aZ}{scope:dv}{own:List (Str×Nat)}{pos:Pos}{wi:TI}{g:TG}{tt:TT}{te:TE}(hc:X.calm=true)(hN:X.N.Nodup)(hi:PI X tg iter wi)(ok:sZ X.N X.env.scope scope own)
  (hg:∀(s:ai)(H:Hp)(C:aa)(cl:List (Str×aa))(fp:List aa),PG (X.blk s H scope (i_ scope cl C X.env) fp) tg g)(ht:∀(s:ai)(H:Hp)(C:aa)(cl:List (Str×aa))(fp:List aa),tD (X.blk s H scope (i_ scope cl C X.env) fp) ZA tt)
  (he:∀(s:ai)(H:Hp)(C:aa)(cl:List (Str×aa))(fp:List aa),PE (X.blk s H scope (i_ scope cl C X.env) fp) ZM te)(hs:∀x,wW iter X.env x=pure x:=by intro _;rfl):
  PE X (.ListComp ZM [⟨tg,iter,ZA,0⟩] scope pos) (mB wi g tt te (own.map (·.2))):=by
 intro Yw s σ H Q I h;rw[eval_ListComp];refine Il hc hN I hi ok hg ht he hs h λD C s' m H' I' q hn f=>⟨m,hn,λh'' sb=>?_⟩;obtain⟨f0,f1,f2,f3,f4,f5⟩:=f;exact⟨.ref D,H',I'.turned (t':=s'.toks) (λb o hb e=>(sb.2 b hb).trans e) f0 f1 f3 f4 f5,rfl,q⟩
theorem pP{i:Nat}{y:Str}{py:Pos}{ZM tg iter:aZ}{ZA:List aZ}{scope:dv}{own:List (Str×Nat)}{pos afR:Pos}{wi:TI}{g:TG}{tt:TT}{te:TE}(hc:X.calm=true)(hN:X.N.Nodup)(hy:X.N[i]? =some y)(hyl:X.env.scope.names.lookup y=some .local)
  (hsw:nL (.ListComp ZM [⟨tg,iter,ZA,0⟩] scope pos) (some (.Name y py)) afR.line X.env=pure true)(hi:PI X tg iter wi)(ok:sZ X.N X.env.scope scope own)
  (hg:∀(s:ai)(H:Hp)(C:aa)(cl:List (Str×aa))(fp:List aa),PG (X.blk s H scope (i_ scope cl C X.env) fp) tg g)(ht:∀(s:ai)(H:Hp)(C:aa)(cl:List (Str×aa))(fp:List aa),tD (X.blk s H scope (i_ scope cl C X.env) fp) ZA tt)
  (he:∀(s:ai)(H:Hp)(C:aa)(cl:List (Str×aa))(fp:List aa),PE (X.blk s H scope (i_ scope cl C X.env) fp) ZM te)(hs:∀x,wW iter X.env x=pure x:=by intro _;rfl):
  PS X (.Assign [.Name y py] (.ListComp ZM [⟨tg,iter,ZA,0⟩] scope pos) afR) (v9 (mB wi g tt te (own.map (·.2))) (gB i)):=by
 intro Yw s σ H D I h;rw[exec_Assign_Name_used _ _ _ _ hsw];refine ah (wpAny_standAt (ah ?_));show aq _ X.A (do let _ <-comprehension (.ListComp ZM [⟨tg,iter,ZA,0⟩] scope pos) scope X.env (firstIterPos [⟨tg,iter,ZA,0⟩] pos) (newList []) false (eval iter X.env) (some (vT (.Name y py) X.env))) _ _ s;have h:mB wi g tt te (own.map (·.2)) σ H (λx H1=>gB i x σ H1 D.nx):=h;refine ah (aW (Il (Qf:=λ_ s'=>SP X Yw D .next s') hc hN I hi ok hg ht he hs h λL C s' m H' I' q hn f=>?_) λ_ s' hq=>aw (aw hq))
 show aq _ _ (vT (.Name y py) X.env (.ref L)) _ _ _;refine ME (Fh (v:=V.ref L) I' hN hy (.inl hyl) rfl (λs2 I2⟨a,sb,ha⟩=>?_) (.inr hyl));obtain⟨f0,f1,f2,f3,f4,f5⟩:=f;have haC:C≠a:=by
  rcases ha with z|z
  .rw[z];exact f1
  .exact λe=>f4 y a z e.symm
 refine⟨m,hn.sameBut sb haC,λh3 ZJ=>?_⟩;exact⟨_,H',I2.turned (t':=s2.toks) (λb o hb e=>(ZJ.2 b hb).trans e) f0 f1 f3 f4 f5,q⟩
theorem pU{ZM:aZ}{gs:List Comprehension}{scope:dv}{pos py:Pos}{y:Str}{l:Nat}{env:Env}(hk:env.scope.kind= .function)(hy:env.scope.names.lookup y=some .local)(hl:(py.line==pos.line)=true)
  (ha:(scope.names.any λ(n,k)=>n==y&&(k== .local||k== .cell))=false):nL (.ListComp ZM gs scope pos) (some (.Name y py)) l env=pure true:=by
 have ky:env.kindOf y=some .local:=hy;have hb:env.blockKind= .function:=by unfold Env.blockKind;rw[hk];rfl
 unfold nL;simp only[hb,ky,ha,Expr.pos,hl];rfl
end
theorem U0{K:aA}{a:aa}{xs:List V}{g:TG}{tt:TT}{te:TE}{vs:List Nat}{σ:St}{H1:Hp}{D:aa}{Qd:Hp->Prop}(Pv:Nat->Hp->Prop)(h0:Pv 0 (upd H1 D (.lst [])))(hl:∀i H,i<=xs.length->Pv i H->ay K H a xs)
  (hs:∀i x H,xs[i]? =some x->Pv i H->g x (bv σ vs) H λYF H2=>bv YF vs=bv σ vs/\tt YF H2 λb H3=> if b=true then te YF H3 λy H4=>∃acc,H4 D=some (.lst acc)/\acc.length<aU/\Pv (i+1) (upd H4 D (.lst (acc++[y])))else Pv (i+1) H3)(hd:∀H,Pv xs.length H->Qd H):
  ∃W:Nat->Nat->Hp->Prop,(∃m,W 0 m (upd H1 D (.lst [])))/\∀i m H,W i m H->
   ((iT K a).stop i H/\Qd H)\/((iT K a).go i H/\∃Nx:Hp->Prop,(∀H',Nx H'->∃m',m'<m/\W (i+1) m' H')/\∀x H',(iT K a).yld i H x H'->g x (bv σ vs) H' λYF H2=>bv YF vs=bv σ vs/\tt YF H2 λb H3=> if b=true then te YF H3 λy H4=>∃acc,H4 D=some (.lst acc)/\acc.length<aU/\Nx (upd H4 D (.lst (acc++[y])))else Nx H3):=by
 refine⟨λi m H=>m=xs.length-i/\i<=xs.length/\Pv i H,⟨xs.length,by simp,dJ _,h0⟩,?_⟩;rintro i m H ⟨rfl,hi,p⟩;have q:=hl i H hi p;by_cases YK:i<xs.length
 .refine .inr ⟨⟨xs,xs[i],q,by simp[YK]⟩,Pv (i+1),λH' p'=>⟨xs.length-(i+1),by lia,rfl,YK,p'⟩,λx H' y=>?_⟩;obtain⟨e,y⟩:=y;subst e;exact hs i x _ (y xs q) p
 .have e:i=xs.length:=by lia
  subst e;exact .inl ⟨⟨xs,q,aT _⟩,hd H p⟩
theorem V2{K:aA}{a:aa}{xs:List V}{g:TG}{tt:TT}{te:TE}{vs:List Nat}{σ:St}{H1:Hp}{D:aa}{Qd:Hp->Prop}(Pv:Nat->Hp->Prop)(h0:Pv 0 (upd H1 D (.lst [])))(hl:∀i H,i<=xs.length->Pv i H->a9 K H a xs)
  (hs:∀i x H,xs[i]? =some x->Pv i H->g x (bv σ vs) H λYF H2=>bv YF vs=bv σ vs/\tt YF H2 λb H3=> if b=true then te YF H3 λy H4=>∃acc,H4 D=some (.lst acc)/\acc.length<aU/\Pv (i+1) (upd H4 D (.lst (acc++[y])))else Pv (i+1) H3)(hd:∀H,Pv xs.length H->Qd H):
  ∃W:Nat->Nat->Hp->Prop,(∃m,W 0 m (upd H1 D (.lst [])))/\∀i m H,W i m H->
   ((iS K a).stop i H/\Qd H)\/((iS K a).go i H/\∃Nx:Hp->Prop,(∀H',Nx H'->∃m',m'<m/\W (i+1) m' H')/\∀x H',(iS K a).yld i H x H'->g x (bv σ vs) H' λYF H2=>bv YF vs=bv σ vs/\tt YF H2 λb H3=> if b=true then te YF H3 λy H4=>∃acc,H4 D=some (.lst acc)/\acc.length<aU/\Nx (upd H4 D (.lst (acc++[y])))else Nx H3):=by
 refine⟨λi m H=>m=xs.length-i/\i<=xs.length/\Pv i H,⟨xs.length,by simp,dJ _,h0⟩,?_⟩;rintro i m H ⟨rfl,hi,p⟩;have q:=hl i H hi p;by_cases YK:i<xs.length
 .refine .inr ⟨⟨xs,xs[i],q,by simp[YK]⟩,Pv (i+1),λH' p'=>⟨xs.length-(i+1),by lia,rfl,YK,p'⟩,λx H' y=>?_⟩;obtain⟨e,y⟩:=y;subst e;exact hs i x _ (y xs q) p
 .have e:i=xs.length:=by lia
  subst e;exact .inl ⟨⟨xs,q,aT _⟩,hd H p⟩
def KQ(N:List Str)(sc scope:dv)(own:List (Str×Nat)):Bool:=
 (match scope.kind with| .function=>true|_=>false)&&(scope.names.all λy=>decide (scope.names.lookup y.1=some y.2))&&(own.all λp=>decide (N[p.2]? =some p.1))&&
  (scope.names.all λy=>match y.2 with
   | .free=>(match sc.names.lookup y.1 with|some .cell=>true|some .free=>true|_=>false)
   | .local=>decide (y.1∈own.map (·.1))||decide (y.1∉N)
   | .cell=>decide (y.1∈own.map (·.1))||decide (y.1∉N)
   |_=>true)
theorem gA{N:List Str}{sc scope:dv}{own:List (Str×Nat)}(h:KQ N sc scope own=true):sZ N sc scope own:=by
 unfold KQ at h;simp only[hU,mU,decide_eq_true_eq]at h;obtain⟨⟨⟨h1,h2⟩,h3⟩,h4⟩:=h;refine⟨?_,h2,h3,λy hy e=>?_,λy hy e=>?_⟩
 .split at h1
  .assumption
  .cases h1
 .have q:=h4 y hy;simp only[e]at q;split at q<;>first|exact .inl (by assumption)|exact .inr (by assumption)|cases q
 .have q:=h4 y hy;rcases e with e|e<;>(simp only[e,q_,decide_eq_true_eq]at q;exact q)
section
variable{κ:Type}[DecidableEq κ]
def bf(Yy:List (κ×V))(k:κ):Option V:=(Yy.find? λkv=>decide (kv.1=k)).map (·.2)
def cM(Yy:List (κ×V))(k:κ)(v:V):List (κ×V):=
 if(Yy.any λkv=>decide (kv.1=k))=true then Yy.map (λkv=>if kv.1=k then(kv.1,v)else kv)else Yy++[(k,v)]
def jc(Yy:List (κ×V))(k:κ):List (κ×V):=Yy.filter λkv=>decide (kv.1≠k)
theorem gn{p:κ×V}{r:List (κ×V)}{k:κ}(e:p.1=k):bf (p::r) k=some p.2:=by simp[bf,qZ,e]
theorem gp{p:κ×V}{r:List (κ×V)}{k:κ}(e:¬p.1=k):bf (p::r) k=bf r k:=by simp[bf,qZ,e]
theorem nP(k:κ):∀Yy:List (κ×V),(Yy.any λkv=>decide (kv.1=k))=(bf Yy k).isSome
 |[]=>rfl
 |p::r=>by
  rw[nj];by_cases e:p.1=k
  .simp only[gn e,decide_eq_true e,DZ,wO]
  .rw[gp e,decide_eq_false e,xH];exact nP k r
theorem FY(k j:κ)(y:V):∀Yy:List (κ×V),bf (Yy.map λkv=>if kv.1=k then(kv.1,y)else kv) j=(bf Yy j).map λx=>if j=k then y else x
 |[]=>rfl
 |p::r=>by
  have ih:=FY k j y r;rw[bb];by_cases h:p.1=k
  .rw[if_pos h];by_cases e:p.1=j
   .rw[gn (p:=(p.1,y)) e,gn e,xk,if_pos (e.symm.trans h)]
   .rw[gp (p:=(p.1,y)) e,gp e,ih]
  .rw[if_neg h];by_cases e:p.1=j
   .rw[gn (p:=p) e,gn e,xk,if_neg (λz=>h (e.trans z))]
   .rw[gp (p:=p) e,gp e,ih]
theorem Fc(k j:κ)(y:V):∀Yy:List (κ×V),bf Yy k=none->bf (Yy++[(k,y)]) j=if j=k then some y else bf Yy j
 |[],_=>by
  by_cases e:k=j
  .rw[if_pos e.symm];exact gn (p:=(k,y)) e
  .rw[if_neg (λz=>e z.symm)];exact gp (p:=(k,y)) e
 |p::r,hn=>by
  rw[lC];have hk:¬p.1=k:=λz=>by rw[gn z]at hn;cases hn
  rw[gp hk]at hn;have ih:=Fc k j y r hn;by_cases e:p.1=j
  .rw[gn e,gn e,if_neg (λz=>hk (e.trans z))]
  .rw[gp e,gp e,ih]
theorem Sb(Yy:List (κ×V))(k j:κ)(y:V):bf (cM Yy k y) j=if j=k then some y else bf Yy j:=by
 unfold cM;by_cases a:(Yy.any λkv=>decide (kv.1=k))=true
 .rw[if_pos a,FY];rw[nP]at a;by_cases e:j=k
  .obtain⟨x,hx⟩:=Lz.mp a;rw[if_pos e,e,hx,xk,if_pos rfl]
  .rw[if_neg e];cases bf Yy j with
   |none=>rfl
   |some x=>rw[xk,if_neg e]
 .rw[if_neg a];refine Fc k j y Yy ?_;rw[nP]at a;cases q:bf Yy k with
  |none=>rfl
  |some x=>rw[q]at a;exact(a rfl).elim
theorem xV(Yy:List (κ×V))(k:κ)(v:V):(cM Yy k v).length<=Yy.length+1:=by
 unfold cM;split
 .rw[aE];lia
 .rw[bG,cC,qY];lia
theorem nT{Yy:List (κ×V)}{k:κ}(v:V)(h:bf Yy k=none):cM Yy k v=Yy++[(k,v)]:=by unfold cM;rw[nP,h];exact if_neg (by decide)
theorem gd.isSome_eq{o:Option V}{u:Option ac}(r:gd o u):o.isSome=u.isSome:=by
 cases o with
 |none=>cases u with
  |none=>rfl
  |some _=>exact(show False from r).elim
 |some _=>cases u with
  |none=>exact(show False from r).elim
  |some _=>rfl
theorem gd.getD{o:Option V}{u:Option ac}{d:V}{d':ac}(r:gd o u)(rd:RelV d d'):RelV (o.getD d) (u.getD d'):=by
 cases o with
 |none=>cases u with
  |none=>exact rd
  |some _=>exact(show False from r).elim
 |some _=>cases u with
  |none=>exact(show False from r).elim
  |some _=>exact r
theorem KV.val{Yy:List (κ×V)}{vs:List (κ×ac)}(r:KV Yy vs)(k:κ):gd (bf Yy k) (n8 vs k):=by
 unfold KV at r;induction r with
 |nil=>exact nF
 | @cons p q ps qs h t ih=>
  obtain⟨h1,h2⟩:=h;by_cases e:p.1=k
  .have e':q.1=k:=h1.symm.trans e;have b:n8 (q::qs) k=some q.2:=by simp[n8,qZ,e']
   rw[gn e,b];exact h2
  .have e':¬q.1=k:=λz=>e (h1.trans z);have b:n8 (q::qs) k=n8 qs k:=by simp[n8,qZ,e']
   rw[gp e,b];exact ih
theorem KV.any{Yy:List (κ×V)}{vs:List (κ×ac)}(r:KV Yy vs)(k:κ):(Yy.any λkv=>decide (kv.1=k))=vs.any λkv=>decide (kv.1=k):=by
 unfold KV at r;induction r with
 |nil=>rfl
 |cons h t ih=>rw[nj,nj,ih,h.1]
theorem KV.repl{Yy:List (κ×V)}{vs:List (κ×ac)}(r:KV Yy vs)(k:κ){y:V}{u:ac}(ry:RelV y u):
  KV (Yy.map λkv=>if kv.1=k then(kv.1,y)else kv) (vs.map λkv=>if kv.1=k then(kv.1,u)else kv):=by
 unfold KV at r ⊢;induction r with
 |nil=>exact .nil
 | @cons p q ps qs h t ih=>
  rw[bb,bb];refine .cons ?_ ih;obtain⟨h1,h2⟩:=h;by_cases e:p.1=k
  .rw[if_pos e,if_pos (h1.symm.trans e)];exact⟨h1,ry⟩
  .rw[if_neg e,if_neg (λz=>e (h1.trans z))];exact⟨h1,h2⟩
theorem KV.put{Yy:List (κ×V)}{vs:List (κ×ac)}(r:KV Yy vs)(k:κ){y:V}{u:ac}(ry:RelV y u):KV (cM Yy k y) (stored vs k u):=by
 unfold cM stored;rw[r.any k];by_cases e:(vs.any λkv=>decide (kv.1=k))=true
 .rw[if_pos e,if_pos e];exact r.repl k ry
 .rw[if_neg e,if_neg e];exact PY r ⟨rfl,ry⟩
theorem KV.drop{Yy:List (κ×V)}{vs:List (κ×ac)}(r:KV Yy vs)(k:κ):KV (jc Yy k) (without vs k):=by
 unfold KV at r ⊢;unfold jc without;induction r with
 |nil=>exact .nil
 | @cons p q ps qs h t ih=>
  obtain⟨h1,h2⟩:=h;rw[js,js];by_cases e:p.1=k
  .have a:¬decide (p.1≠k)=true:=by simp[e]
   have b:¬decide (q.1≠k)=true:=by simp[h1.symm.trans e]
   rw[if_neg a,if_neg b];exact ih
  .have e':¬q.1=k:=λz=>e (h1.trans z);have a:decide (p.1≠k)=true:=by simp[e]
   have b:decide (q.1≠k)=true:=by simp[e']
   rw[if_pos a,if_pos b];exact .cons ⟨h1,h2⟩ ih
theorem KV.length{Yy:List (κ×V)}{vs:List (κ×ac)}(r:KV Yy vs):Yy.length=vs.length:=dH r
theorem Tj(Yy:List (κ×V))(k:κ):(jc Yy k).length<=Yy.length:=gg _ _
end
theorem mf{P:ba}{w:aQ}{k:aJ}{u:ac}(r:RelV (kV k) u):(dN P w).is k u=true:=by
 cases k with
 |inl i=>obtain⟨t,e⟩:=(show∃t,u=i8 i t from r);subst e;exact Px P w i t
 |inr x=>obtain⟨t,e⟩:=(show∃t,u=uX x t from r);subst e;exact Pw P w x t
theorem FK{P:ba}{w:aQ}:∀{ks:List aJ}{us:List ac},aR (ks.map kV) us->ItemsAre (dN P w) ks us
 |[],_,r=>by rw[uw]at r;cases r;exact .nil
 |k::ks,_,r=>by
  rw[bb]at r;cases r with
  |cons h t=>exact .cons (mf h) (FK t)
abbrev KT(H:Hp):List (List aJ×V)->List (List aJ×aa×ac)->Prop:=aY λp q=>p.1=q.1/\H q.2.1=some (.tup (p.1.map kV))/\RelV p.2 q.2.2
theorem KT.val{H:Hp}{Yy:List (List aJ×V)}{xs:List (List aJ×aa×ac)}(r:KT H Yy xs)(k:List aJ):gd (bf Yy k) ((mn xs k).map (·.2)):=by
 induction r with
 |nil=>exact nF
 | @cons p q ps qs h t ih=>
  obtain⟨h1,_,h2⟩:=h;by_cases e:p.1=k
  .have e':q.1=k:=h1.symm.trans e;have b:mn (q::qs) k=some q.2:=by simp[mn,qZ,e']
   rw[gn e,b];exact h2
  .have e':¬q.1=k:=λz=>e (h1.trans z);have b:mn (q::qs) k=mn qs k:=by simp[mn,qZ,e']
   rw[gp e,b];exact ih
theorem KT.repl{H:Hp}{Yy:List (List aJ×V)}{xs:List (List aJ×aa×ac)}(r:KT H Yy xs)(k:List aJ){y:V}{u:ac}(ry:RelV y u):
  KT H (Yy.map λkv=>if kv.1=k then(kv.1,y)else kv) (xs.map (putAt k u)):=by
 induction r with
 |nil=>exact .nil
 | @cons p q ps qs h t ih=>
  rw[bb,bb];refine .cons ?_ ih;obtain⟨h1,h2,h3⟩:=h;unfold putAt;by_cases e:p.1=k
  .rw[if_pos e,if_pos (h1.symm.trans e)];exact⟨h1,h2,ry⟩
  .rw[if_neg e,if_neg (λz=>e (h1.trans z))];exact⟨h1,h2,h3⟩
theorem KT.put{H:Hp}{Yy:List (List aJ×V)}{xs:List (List aJ×aa×ac)}(r:KT H Yy xs)(k:List aJ){b:aa}{y:V}{u:ac}(hb:H b=some (.tup (k.map kV)))(ry:RelV y u):
  KT H (cM Yy k y) (storedH xs k b u):=by
 have e:(Yy.any λkv=>decide (kv.1=k))=(mn xs k).isSome:=by rw[nP,(r.val k).isSome_eq,BY]
 unfold cM storedH;rw[e];by_cases q:(mn xs k).isSome=true
 .rw[if_pos q,if_pos q];exact r.repl k ry
 .rw[if_neg q,if_neg q];exact PY r ⟨rfl,hb,ry⟩
theorem KT.keeps{H H':Hp}{Yy:List (List aJ×V)}{xs:List (List aJ×aa×ac)}(r:KT H Yy xs)(ht:∀b ys,H b=some (.tup ys)->H' b=some (.tup ys)):KT H' Yy xs:=
 aY.mapP r λ_ _ z=>⟨z.1,ht _ _ z.2.1,z.2.2⟩
section
variable{P:ba}{w:aQ}{H:Hp}{h:aM}{a:aa}{f:aa}{fd:dX}
theorem J4{u:HO}(ok:cz P w H h)(e:Rd H a u):di P w H h a u:=e.ok ok
theorem jd{Yy:List (aJ×V)}(ok:cz P w H h)(e:Rd H a (.dK Yy)):Yy.length<=aU/\(a==ia)=false/\∃vs,KV Yy vs/\h.DictOf (dN P w) a vs:=
 show di P w H h a (.dK Yy)from J4 ok e
theorem Av{Yy:List (aJ×V)}(ok:cz P w H h)(e:H a=some (.dK Yy)):Yy.length<=aU/\(a==ia)=false/\∃vs,KV Yy vs/\h.DictOf (dN P w) a vs:=jd ok (.inl e)
theorem qj{ks:List aJ}(ok:cz P w H h)(e:H a=some (.tup (ks.map kV))):(rV (dN P w)).is h ks a:=by obtain⟨_,YA,r,o,h1,h2,n,h3⟩:=(show di P w H h a (.tup (ks.map kV))from ok a _ e);exact⟨o,YA.toArray,n,h1,h2,h3,by simpa using FK r⟩
theorem oA{Yy:List (List aJ×V)}(ok:cz P w H h)(e:Rd H a (.dT Yy)):Yy.length<=aU/\(a==ia)=false/\
  ∃xs,KT H Yy xs/\h.DictOfH (rV (dN P w)) a xs:=by
 obtain⟨z,y,xs,r,o,es,ep,h1,h2,h3,h4,h5⟩:=(show di P w H h a (.dT Yy)from J4 ok e);refine⟨z,y,xs,r,o,es,ep,h1,h2,h3,h4,λx hx=>?_,h5⟩;have all:∀{l:List (List aJ×V)}{m:List (List aJ×aa×ac)},KT H l m->∀x∈m,(rV (dN P w)).is h x.1 x.2.1:=by
  intro l m q;induction q with
  |nil=>intro x hx;exact nomatch hx
  | @cons p q ps qs hq t ih=>
   intro x hx;rcases aV.mp hx with e|hx
   .subst e;exact qj ok (by rw[<-hq.1];exact hq.2.1)
   .exact ih x hx
 exact all r x hx
theorem WF{Yy:List (List aJ×V)}(ok:cz P w H h)(e:H a=some (.dT Yy)):Yy.length<=aU/\(a==ia)=false/\
  ∃xs,KT H Yy xs/\h.DictOfH (rV (dN P w)) a xs:=oA ok (.inl e)
end
def gw(H:Hp)(a:aa)(y:V)(r:Option V):Prop:=
 (∃Yy k,Rd H a (.dK Yy)/\y=kV k/\r=bf Yy k)\/∃Yy k b,Rd H a (.dT Yy)/\y= .ref b/\H b=some (.tup (k.map kV))/\r=bf Yy k
def mx(H:Hp)(a:aa)(y v:V)(H':Hp):Prop:=
 (∃Yy k,H a=some (.dK Yy)/\y=kV k/\Yy.length<aU/\H'=upd H a (.dK (cM Yy k v)))\/
 ∃Yy k b,H a=some (.dT Yy)/\y= .ref b/\H b=some (.tup (k.map kV))/\Yy.length<aU/\H'=upd H a (.dT (cM Yy k v))
theorem gw.k{H:Hp}{a:aa}{Yy:List (aJ×V)}{k:aJ}(e:H a=some (.dK Yy)):gw H a (kV k) (bf Yy k):= .inl ⟨Yy,k,.inl e,rfl,rfl⟩
theorem mx.k{H:Hp}{a:aa}{Yy:List (aJ×V)}{k:aJ}{v:V}(e:H a=some (.dK Yy))(hl:Yy.length<aU):mx H a (kV k) v (upd H a (.dK (cM Yy k v))):= .inl ⟨Yy,k,e,rfl,hl,rfl⟩
section
variable{X:Cx}{Yw:List (aa×Obj)}{σ:St}{H:Hp}{s:ai}{a:aa}{y v:V}{u r:ac}{o:Option V}{A:bh}{E:ac->ai->Prop}
theorem Inv.big(I:Inv X Yw σ H s):ia<s.heap.objs.size:=by have h:dB<s.heap.objs.size:=(I.mod.glob.keeps I.bk).lt;exact DV (by decide) h
theorem R5{Q:ac->ai->Prop}(hu:A.units+1<fb)(I:Inv X Yw σ H s)(g:gw H a y (some v))(ry:RelV y u)(h:∀w' s',Inv X Yw σ H s'->RelV v w'->Q w' s'):
  aq (aB X.prog X.w) A (sI (.ref a) u) Q E s:=by
 rcases g with⟨Yy,k,e,ey,l⟩|⟨Yy,k,b,e,ey,eb,l⟩
 .subst ey;obtain⟨z,hd,vs,rel,dd⟩:=jd I.YB e;obtain⟨w',hw,Z5⟩:=gd.some_of (v:=v) (o:=n8 vs k) (by rw[l];exact rel.val k);exact wpAny_getItem_of (mf ry) dd.mapOf hw (h w' _ (I.tok _) Z5)
 .subst ey;cases(show u=cv b from ry);obtain⟨z,hd,xs,rel,dd⟩:=oA I.YB e;obtain⟨w',hw,Z5⟩:=gd.some_of (v:=v) (o:=(mn xs k).map (·.2)) (by rw[l];exact rel.val k);obtain⟨p,hp,ZO⟩:=dU.mp hw;refine wpAny_getItem_heap (tV hu) (qj I.YB eb) dd hp ?_;rw[ZO];exact h w' _ (I.tok _) Z5
theorem WT{Q:ac->ai->Prop}(hu:A.units+1<fb)(I:Inv X Yw σ H s)(g:gw H a y o)(ry:RelV y u)(h:∀s',Inv X Yw σ H s'->Q (.bool o.isSome) s'):
  aq (aB X.prog X.w) A (fY .In u (.ref a)) Q E s:=by
 rcases g with⟨Yy,k,e,ey,l⟩|⟨Yy,k,b,e,ey,eb,l⟩
 .subst ey;obtain⟨z,hd,vs,rel,dd⟩:=jd I.YB e;refine wpAny_in_of (mf ry) hd dd.mapOf ?_;rw[<-(rel.val k).isSome_eq,<-l];exact h _ (I.tok _)
 .subst ey;cases(show u=cv b from ry);obtain⟨z,hd,xs,rel,dd⟩:=oA I.YB e;refine wpAny_in_heap (tV hu) (qj I.YB eb) hd dd ?_;have q:=(rel.val k).isSome_eq;rw[BY]at q;rw[<-q,<-l];exact h _ (I.tok _)
theorem Va{Q:ac->ai->Prop}(hu:A.units+1<fb)(I:Inv X Yw σ H s)(g:gw H a y o)(ry:RelV y u)(h:∀s',Inv X Yw σ H s'->Q (.bool (!o.isSome)) s'):
  aq (aB X.prog X.w) A (fY .NotIn u (.ref a)) Q E s:=by
 rcases g with⟨Yy,k,e,ey,l⟩|⟨Yy,k,b,e,ey,eb,l⟩
 .subst ey;obtain⟨z,hd,vs,rel,dd⟩:=jd I.YB e;refine wpAny_notIn_of (mf ry) hd dd.mapOf ?_;rw[<-(rel.val k).isSome_eq,<-l];exact h _ (I.tok _)
 .subst ey;cases(show u=cv b from ry);obtain⟨z,hd,xs,rel,dd⟩:=oA I.YB e;refine wpAny_notIn_heap (tV hu) (qj I.YB eb) hd dd ?_;have q:=(rel.val k).isSome_eq;rw[BY]at q;rw[<-q,<-l];exact h _ (I.tok _)
theorem vC{h':aM}{t':Nat}{ob:HO}(I:Inv X Yw σ H s)(mu:jQ (H a))(hs:cW a s.heap h')(he:∃q,h'.get? a=some q)(new:di X.prog X.w (upd H a ob) h' a ob):
  Inv X Yw σ (upd H a ob) {s with heap:=h',toks:=t'}:=
 I.write (x:=a) (e:=a) mu (.inl rfl) (λb q hb z=>(hs.2 b hb).trans z) he new
theorem vR{P:ba}{w:aQ}{H':Hp}{h':aM}{Yy:List (aJ×V)}{vs:List (aJ×ac)}(z:Yy.length<=aU)(hd:(a==ia)=false)(rel:KV Yy vs)(dd:h'.DictOf (dN P w) a vs):
  di P w H' h' a (.dK Yy):=⟨z,hd,vs,rel,dd⟩
theorem R3{H':Hp}{Q:Unit->ai->Prop}(hu:A.units+1<fb)(I:Inv X Yw σ H s)(g:mx H a y v H')(ry:RelV y u)(rv:RelV v r)(h:∀s',Inv X Yw σ H' s'->Q () s'):
  aq (aB X.prog X.w) A (setItem (.ref a) u r) Q E s:=by
 rcases g with⟨Yy,k,e,ey,l,eH⟩|⟨Yy,k,b,e,ey,eb,l,eH⟩
 .subst ey eH;obtain⟨z,hd,vs,rel,dd⟩:=Av I.YB e;have hz:vs.length<=aU:=by rw[<-rel.length];exact z
  have hl:(cM Yy k v).length<=aU:=by have:=xV Yy k v;lia
  refine wpAny_setItem_pairs («hsz»:=hz) (mf ry) dd λh' ρ hs=>h _ ?_;have he:∃q,h'.get? a=some q:=let⟨q,_,_,hq,_⟩:=ρ;⟨q,hq⟩;exact vC I (by rw[e];exact nF) hs he (vR hl hd (rel.put k rv) ρ)
 .subst ey eH;cases(show u=cv b from ry);obtain⟨z,hd,xs,rel,dd⟩:=WF I.YB e;have hz:xs.length<=aU:=by rw[<-dH rel];exact z
  have hl:(cM Yy k v).length<=aU:=by have:=xV Yy k v;lia
  refine wpAny_setItem_heap («hsz»:=hz) (tV hu) (qj I.YB eb) dd λh' ρ hs=>h _ ?_;obtain⟨q,es,ep,hq,h2,h3,h4,_,h5⟩:=ρ;refine vC I (by rw[e];exact nF) hs ⟨q,hq⟩ ⟨hl,hd,_,(rel.put k eb rv).keeps λc ys ec=>?_,q,es,ep,hq,h2,h3,h4,h5⟩;rw[aj (bx ec e (λz=>nomatch z))];exact ec
end
section
variable{X:Cx}{Yw:List (aa×Obj)}{σ:St}{H:Hp}{s:ai}{a:aa}{Yy:List (aJ×V)}{k:aJ}{u:ac}{A:bh}{E:ac->ai->Prop}
theorem WI{v:V}{more:List ac}{Q:ac->ai->Prop}(I:Inv X Yw σ H s)(e:H a=some (.dK Yy))(ry:RelV (kV k) u)(l:bf Yy k=some v)(hm:more=[]\/∃x,more=[x])
  (h:∀w' s',Inv X Yw σ (upd H a (.dK (jc Yy k))) s'->RelV v w'->Q w' s'):aq (aB X.prog X.w) A (call (.builtin "dict.pop") (.ref a::u::more)) Q E s:=by
 obtain⟨z,hd,vs,rel,dd⟩:=Av I.YB e;obtain⟨w',hw,Z5⟩:=gd.some_of (v:=v) (o:=n8 vs k) (by rw[<-l];exact rel.val k);have hp:(keyPart u).isSome=true:=by
  cases k with
  |inl i=>obtain⟨t,q⟩:=(show∃t,u=i8 i t from ry);subst q;rfl
  |inr x=>obtain⟨t,q⟩:=(show∃t,u=uX x t from ry);subst q;rfl
 have ha:vU "dict.pop" ⟨.ref a::u::more,[]⟩:=by
  rcases hm with q|⟨x,q⟩
  .subst q;exact PySem.F.args_dict_pop_2 _ _
  .subst q;exact PySem.F.args_dict_pop_3 _ _ _
 refine xM LX dd.typeIs PySem.F.entry_dict_pop ha (meets_dict_pop_there (dN X.prog X.w) a (mf ry) more hm hp)
  ⟨vs,w',dd,by rw[<-rel.length];exact z,hw,λh' ρ hs=>h w' _ ?_ Z5⟩
 have he:∃q,h'.get? a=some q:=let⟨q,_,_,hq,_⟩:=ρ;⟨q,hq⟩;exact vC I (by rw[e];exact nF) hs he (vR (cV (Tj Yy k) z) hd (rel.drop k) ρ)
theorem WJ{Q:ac->ai->Prop}(I:Inv X Yw σ H s)(e:Rd H a (.dK Yy))(h:∀t s',Inv X Yw σ H s'->Q (.int Yy.length t) s'):aq (aB X.prog X.w) A (call (.builtin "len") [.ref a]) Q E s:=by obtain⟨z,hd,vs,rel,dd⟩:=jd I.YB e;refine call_len_dict hd dd (by rw[<-rel.length];rw[bC]at z;lia) ?_;rw[<-rel.length];exact h _ _ (I.tok _)
end
def KS(i:aZ):Prop:=∀ov iv,x0 i false ov iv=operate [ov,iv] (sI ov iv)
theorem Uk{prog:ba}{w:aQ}{A:bh}{E:ac->ai->Prop}{s:ai}{env:Env}{value slice:aZ}{pos:Pos}{T id:String}{Q:ac->ai->Prop}
  (hl:typeLookup (.type T) "__getitem__"=pure (some (.builtin id)))(hs:KS slice)
  (h:aq (aB prog w) A (eval value env) (λo YO=>aq (aB prog w) A (eval slice env) (λi Zr=>Zr.TypeIs o T/\aq (aB prog w) A (sI o i) Q E Zr) E YO) E s):
  aq (aB prog w) A (eval (.Subscript value slice pos) env) Q E s:=by
 refine E5 (iH h (λo YO adq=>iH adq (λi Zr aco=>?_) λ_ _ x=>x) λ_ _ x=>x);obtain⟨hT,aco⟩:=aco;unfold Ds;refine ah ?_;rw[getitemInPython_of_ne hT.not_modules];refine ah (qW hT hl ?_);have fin:aq (aB prog w) A (x0 slice false o i) (λr abr=>aq (aB prog w) A (letTemporaryGo value o r >>= λ_=>pure r) Q E abr) E Zr:=by rw[hs o i];exact wpAny_operating (iH aco (λr abr adp=>ah (wpAny_letTemporaryGo (aw adp))) λ_ _ x=>x)
 first
  |exact aw (ah fin)
  |exact ah (aw (ah fin))
  |exact ah fin
theorem PJ{X:Cx}{Yw:List (aa×Obj)}{σ:St}{H:Hp}{s:ai}{a:aa}{y:V}{o:Option V}(I:Inv X Yw σ H s)(g:gw H a y o):s.TypeIs (.ref a) "dict":=by
 rcases g with⟨Yy,k,e,_,_⟩|⟨Yy,k,b,e,_,_,_⟩
 .obtain⟨_,_,vs,_,dd⟩:=jd I.YB e;exact dd.typeIs
 .obtain⟨_,_,xs,_,dd⟩:=oA I.YB e;exact dd.typeIs
def JV(td ty:TE):TE:=λσ H Q=>td σ H λx H1=>ty σ H1 λy H2=>∃a v,x= .ref a/\gw H2 a y (some v)/\Q v H2
def Ku(ty td:TE):TE:=λσ H Q=>ty σ H λy H1=>td σ H1 λx H2=>∃a o,x= .ref a/\gw H2 a y o/\Q (.bl o.isSome) H2
def HF(ty td:TE):TE:=λσ H Q=>ty σ H λy H1=>td σ H1 λx H2=>∃a o,x= .ref a/\gw H2 a y o/\Q (.bl (!o.isSome)) H2
def J3(td ty tv:TE):TS:=λD σ H=>tv σ H λv H1=>td σ H1 λx H2=>ty σ H2 λy H3=>∃a H4,x= .ref a/\mx H3 a y v H4/\D.nx σ H4
section
variable{X:Cx}{o i e value:aZ}{pos ZN abq:Pos}{td ty tv:TE}
theorem fm(hu:X.A.units+1<fb)(ho:PE X o td)(hi:PE X i ty)(hs:KS i):PE X (.Subscript o i pos) (JV td ty):=by intro Yw s σ H Q I h;refine Uk PySem.F.slot_dict_getitem.lookup hs (aW (ho Yw s σ H _ I h) λu s1 zz=>e2_3 zz λx H1 I1 rx q1=>aW (hi Yw s1 σ H1 _ I1 q1) λiv s2 zz=>?_);obtain⟨y,H2,I2,ry,a,v,ex,g,q2⟩:=zz;subst ex;obtain rfl:u=cv a:=rx;exact⟨PJ I2 g,R5 hu I2 g ry λw' s3 I3 Z5=>⟨v,H2,I3,Z5,q2⟩⟩
theorem Aa(hu:X.A.units+1<fb)(hi:PE X i ty)(ho:PE X o td):PC X .In i o (Ku ty td):=by intro Yw s σ H Q I h;refine aW (hi Yw s σ H _ I h) λiv s1 zz=>e2_3 zz λy H1 I1 ry q1=>aW (ho Yw s1 σ H1 _ I1 q1) λu s2 zz=>?_;obtain⟨x,H2,I2,rx,a,ov,ex,g,q2⟩:=zz;subst ex;obtain rfl:u=cv a:=rx;exact WT hu I2 g ry λs3 I3=>⟨.bl ov.isSome,H2,I3,rfl,q2⟩
theorem Fy(hu:X.A.units+1<fb)(hi:PE X i ty)(ho:PE X o td):PC X .NotIn i o (HF ty td):=by intro Yw s σ H Q I h;refine aW (hi Yw s σ H _ I h) λiv s1 zz=>e2_3 zz λy H1 I1 ry q1=>aW (ho Yw s1 σ H1 _ I1 q1) λu s2 zz=>?_;obtain⟨x,H2,I2,rx,a,ov,ex,g,q2⟩:=zz;subst ex;obtain rfl:u=cv a:=rx;exact Va hu I2 g ry λs3 I3=>⟨.bl (!ov.isSome),H2,I3,rfl,q2⟩
theorem j9(hu:X.A.units+1<fb)(ho:PE X o td)(hi:PE X i ty)(hv:PE X value tv)(hs:nL value (some (.Subscript o i ZN)) pos.line X.env=pure false):
  PS X (.Assign [.Subscript o i ZN] value pos) (J3 td ty tv):=by
 intro Yw s σ H D I h;refine wpAny_Assign_Subscript (aW (hv Yw s σ H _ I h) λr s1 zz=>e2_3 zz λv H1 I1 rv q1=>aW (ho Yw s1 σ H1 _ I1 q1) λu s2 zz=>e2_3 zz λx H2 I2 rx q2=>aW (hi Yw s2 σ H2 _ I2 q2) λiv s3 zz=>?_) hs;obtain⟨y,H3,I3,ry,a,H4,ex,g,q3⟩:=zz;subst ex;obtain rfl:u=cv a:=rx;exact R3 hu I3 g ry rv λs4 I4=>⟨σ,H4,I4,q3⟩
end
theorem Tl{P:ba}{w:aQ}{H:Hp}(h:aM)(hb:ia<h.objs.size):di P w H (h.push {cls:= .type "dict",data:= .dict #[]}) h.objs.size (.dK []):=
 ⟨dJ _,beq_eq_false_iff_ne.mpr (aX (cx hb)),[],.nil,Heap.DictOf.new h⟩
def I0:TE:=λ_ H Q=>∀p,H p=none->Q (.ref p) (upd H p (.dK []))
section
variable{X:Cx}{pos:Pos}
theorem jY:PE X (.Dict [] [] pos) I0:=λYw s σ H Q I h=>
 wpAny_Dict_empty ⟨.ref s.heap.objs.size,_,I.laid (a:=s.heap.objs.size) (o:= .dK []) (t':=s.toks) (λ_ _ q=>cS _ q) (aT _) (Tl s.heap I.big),rfl,h _ (I.YB.fresh (aT _))⟩
end
structure M1(X:Cx)(o:aZ)(m:Str)(Y3:Pos)(e:aZ)(Y_:Pos):Prop where
 Yx:ng o m X.env (eval o X.env)=eval o X.env
 YI:((fq Y_ (bP [e] X.env)).all (λx=> !x.1)&&(pR Y_ (pI [] X.env)).all (λx=>x.1.isSome) &&decide (([e]:List aZ).length+([]:List p7).length+(if([]:List p7).isEmpty then 0 else 1)<30))=true
 line:(Y3.endLine==Y_.line)=true
 trees:fq Y_ (bP [e] X.env)=[(false,eval e X.env)]
structure M2(X:Cx)(o:aZ)(m:Str)(Y3:Pos)(e f:aZ)(Y_:Pos):Prop where
 Yx:ng o m X.env (eval o X.env)=eval o X.env
 YI:((fq Y_ (bP [e,f] X.env)).all (λx=> !x.1)&&(pR Y_ (pI [] X.env)).all (λx=>x.1.isSome) &&decide (([e,f]:List aZ).length+([]:List p7).length+(if([]:List p7).isEmpty then 0 else 1)<30))=true
 line:(Y3.endLine==Y_.line)=true
 trees:fq Y_ (bP [e,f] X.env)=[(false,eval e X.env),(false,eval f X.env)]
def qK(H:Hp)(a:aa):Prop:=(∃Yy,Rd H a (.dK Yy))\/∃Yy,Rd H a (.dT Yy)
theorem JB{X:Cx}{Yw:List (aa×Obj)}{σ:St}{H:Hp}{s:ai}{a:aa}(I:Inv X Yw σ H s)(d:qK H a):
  s.TypeIs (.ref a) "dict"/\(∀b,cv a= .ref b->∃ob,s.heap.get? b=some ob/\ob.dict=none)/\(a==ia)=false:=by
 rcases d with⟨Yy,e⟩|⟨Yy,e⟩
 .obtain⟨_,hd,vs,_,dd⟩:=jd I.YB e;refine⟨dd.typeIs,λb q=>?_,hd⟩;cases q;obtain⟨ob,_,_,h1,h2,_⟩:=dd;exact⟨ob,h1,h2.2.1⟩
 .obtain⟨_,hd,xs,_,dd⟩:=oA I.YB e;refine⟨dd.typeIs,λb q=>?_,hd⟩;cases q;obtain⟨ob,_,_,h1,h2,_⟩:=dd;exact⟨ob,h1,h2.2.1⟩
section
variable{X:Cx}{Yw:List (aa×Obj)}{σ:St}{H:Hp}{s:ai}{a:aa}{y d:V}{u r:ac}{o:Option V}{A:bh}{E:ac->ai->Prop}
theorem Wb{Q:ac->ai->Prop}(hu:A.units+1<fb)(I:Inv X Yw σ H s)(g:gw H a y o)(ry:RelV y u)(rd:RelV d r)(h:∀w' s',Inv X Yw σ H s'->RelV (o.getD d) w'->Q w' s'):
  aq (aB X.prog X.w) A (call (.builtin "dict.get") [.ref a,u,r]) Q E s:=by
 rcases g with⟨Yy,k,e,ey,l⟩|⟨Yy,k,b,e,ey,eb,l⟩
 .subst ey;obtain⟨z,hd,vs,rel,dd⟩:=jd I.YB e;refine xM Bi dd.typeIs LM (LG _ _ _) (meets_dict_get_default (dN X.prog X.w) a (mf ry) hd r) ⟨_,dd.mapOf,h _ _ (I.tok _) ?_⟩;rw[l];exact(rel.val k).getD rd
 .subst ey;cases(show u=cv b from ry);obtain⟨z,hd,xs,rel,dd⟩:=oA I.YB e;refine xM Bi dd.typeIs LM (LG _ _ _) (meetsH_dict_get_default (rV (dN X.prog X.w)) a b hd r) ⟨tV hu,k,xs,qj I.YB eb,dd,h _ _ (I.tok _) ?_⟩;rw[l];exact(rel.val k).getD rd
end
def I_(td ty tx:TE):TE:=λσ H Q=>td σ H λx H1=>∃a,x= .ref a/\qK H1 a/\ty σ H1 λy H2=>tx σ H2 λz H3=>∃o,gw H3 a y o/\Q (o.getD z) H3
def IZ(td ty:TE):TE:=λσ H Q=>td σ H λx H1=>∃a,x= .ref a/\qK H1 a/\ty σ H1 λy H2=>∃Yy k v,H2 a=some (.dK Yy)/\y=kV k/\bf Yy k=some v/\Q v (upd H2 a (.dK (jc Yy k)))
section
variable{X:Cx}{o e f:aZ}{Y3 Y_:Pos}{td ty tx:TE}
theorem yU(hu:X.A.units+1<fb)(ho:PE X o td)(he:PE X e ty)(hf:PE X f tx)(m:M2 X o "get" Y3 e f Y_):PE X (.Call (.Attribute o "get" Y3) [e,f] [] Y_) (I_ td ty tx):=by
 intro Yw s σ H Q I h;refine BS m.Yx m.YI m.line A_ Bi PySem.F.type_dict_get (aW (ho Yw s σ H _ I h) λu s1 zz=>?_);obtain⟨x,H1,I1,rx,a,ex,d,q1⟩:=zz;subst ex;obtain rfl:u=cv a:=rx;obtain⟨t1,t2,_⟩:=JB I1 d;refine⟨t1,t2,?_⟩;rw[m.trees];refine wI rfl (Bq (wU (aW (he Yw s1 σ H1 _ I1 q1) λiv s2 zz=>e2_3 zz λy H2 I2 ry q2=> wU (aW (hf Yw s2 σ H2 _ I2 q2) λfv s3 zz=>B4 ?_))))
 obtain⟨z,H3,I3,rz,ov,g,q3⟩:=zz;exact Wb hu I3 g ry rz λw' s4 I4 Z5=>⟨_,H3,I4,Z5,q3⟩
theorem Gv(ho:PE X o td)(he:PE X e ty)(m:M1 X o "pop" Y3 e Y_):PE X (.Call (.Attribute o "pop" Y3) [e] [] Y_) (IZ td ty):=by intro Yw s σ H Q I h;refine BS m.Yx m.YI m.line A_ LX PySem.F.type_dict_pop (aW (ho Yw s σ H _ I h) λu s1 zz=>?_);obtain⟨x,H1,I1,rx,a,ex,d,q1⟩:=zz;subst ex;obtain rfl:u=cv a:=rx;obtain⟨t1,t2,_⟩:=JB I1 d;refine⟨t1,t2,?_⟩;rw[m.trees];refine wI rfl (Bq (wU (aW (he Yw s1 σ H1 _ I1 q1) λiv s2 zz=>B4 ?_)));obtain⟨y,H2,I2,ry,Yy,k,v,ea,ey,l,q2⟩:=zz;subst ey;exact WI I2 ea ry l (.inl rfl) λw' s3 I3 Z5=>⟨v,_,I3,Z5,q2⟩
end
section
variable{X:Cx}{Yw:List (aa×Obj)}{σ:St}{H:Hp}{s:ai}{a:aa}{Yy:List (aJ×V)}{A:bh}{E:ac->ai->Prop}
theorem Tp{Q:ac->ai->Prop}(I:Inv X Yw σ H s)(e:Rd H a (.dK Yy))(h:∀p s',H p=none->Inv X Yw σ (upd H p (.dK Yy)) s'->Q (.ref p) s'):aq (aB X.prog X.w) A (call (.type "dict") [.ref a]) Q E s:=by obtain⟨z,hd,vs,rel,dd⟩:=jd I.YB e;refine kt_call_dict hd dd (by rw[<-rel.length];exact z) λh' ρ hs=>?_;refine h _ _ (I.YB.fresh (aT _)) (I.laid (a:=s.heap.objs.size) (o:= .dK Yy) (t':=s.toks) (λb q hq=>?_) (aT _) (vR z (beq_eq_false_iff_ne.mpr (aX (cx I.big))) rel ρ));exact(hs.2 b (cx (bK hq))).trans (cS _ hq)
end
section
variable{X:Cx}{Yw:List (aa×Obj)}{σ:St}{H:Hp}{s:ai}{h':aM}
theorem Inv.turnedNew{t':Nat}{ch:List aa}{T:aa}{ob:HO}(I:Inv X Yw σ H s)(k:∀b o,b∉ch->s.heap.get? b=some o->h'.get? b=some o)(hf:∀b∈ch,jO X Yw H b)(hT:s.heap.objs.size<=T)
  (new:di X.prog X.w (upd H T ob) h' T ob):Inv X Yw σ (upd H T ob) {s with heap:=h',toks:=t'}:=by
 have hn:H T=none:=I.YB.fresh hT;have nit:∀b u,H b=some u->b∉ch:=λb u e z=>by have q:=(hf b z).1;rw[q]at e;cases e
 refine I.step (g':=s.gens) (d':=s.drawn) (ch:=ch) (λb hb=>⟨(hf b hb).2.2.2.1,(hf b hb).2.1,(hf b hb).2.2.2.2.1,(hf b hb).2.2.2.2.2⟩) (λb o _ _ hc e _=>k b o hc e) (λb o _ _ hc e _=>⟨o.slots,k b o hc e⟩)
  (λb o _ e n=>?_) (λb o hc e=>⟨o,k b o hc e⟩) (λb xs e=>?_) (λb o u e=>?_) (λb ps e=>⟨#[],?_⟩) (λm hm=>?_) (λb u e=>?_) I.bare
 .rw[aj (cx (gh (bK e) hT))];exact n
 .rw[aj (aG e hn)];exact e
 .rw[aj (aG e hn)];exact e
 .rw[aj (aG e hn),e];simp
 .obtain⟨o,es,ep,ho,r⟩:=hm;exact⟨o,es,ep,k _ o (λz=>(hf _ z).2.1 rfl) ho,r⟩
 .by_cases hb:b=T
  .subst hb;rw[am]at e;cases e;exact new
  .rw[aj hb]at e;refine(I.YB b u e).stay (λc v hc q=>k c v ?_ q) (λc q=>by rw[aj (aG q hn)];exact q) λc xs q=>by rw[aj (aG q hn)];exact q
   rcases hc with z|z
   .rw[z];exact nit b u e
   .exact nit c _ z
theorem Inv.lock{d:aa}{u:HO}(I:Inv X Yw σ H s)(h:H d=some u)(mu:jQ (some u)):∃od,Inv X Yw σ (upd H d (.frz od u)) s:=by
 have x:=I.YB d u h;have ex:∃od,s.heap.get? d=some od:=by
  cases u with
  |lst xs=>obtain⟨_,_,_,_,e⟩:=x;exact⟨_,e⟩
  |dK Yy=>obtain⟨_,_,_,_,o,_,_,e,_⟩:=x;exact⟨o,e⟩
  |dT Yy=>obtain⟨_,_,_,_,o,_,_,e,_⟩:=x;exact⟨o,e⟩
  |set S n=>obtain⟨o,_,_,_,e,_⟩:=x;exact⟨o,e⟩
  |ins C dx fs=>obtain⟨_,_,_,e,_⟩:=x;exact⟨_,e⟩
  |ext φ=>obtain⟨_,⟨_,e⟩,_⟩:=x;exact⟨_,e⟩
  |_=>exact gO mu
 obtain⟨od,e⟩:=ex;have new:di X.prog X.w (upd H d (.frz od u)) s.heap d (.frz od u):=by
  refine⟨e,x.stay (λb v _ q=>q) (λb q=>?_) λb xs q=>?_⟩
  .rw[aj (λz=>by rw[z,h]at q;cases q;exact mu)];exact q
  .rw[aj (λz=>by rw[z,h]at q;cases q;exact mu)];exact q
 exact⟨od,I.write (x:=d) (e:=d) (t':=s.toks) (h':=s.heap) (by rw[h];exact mu) (.inl rfl) (λb v _ q=>q) ⟨od,e⟩ new⟩
theorem Inv.nofrz{d:aa}{u:HO}(I:Inv X Yw σ H s)(h:H d=some u)(mu:jQ (some u)):∀o' u',X.H_0 d≠some (.frz o' u'):=λo' u' e=>by have q:=I.Yx.frzs d o' u' e;rw[h]at q;cases q;exact mu
theorem Inv.unlock{d:aa}{od:Obj}{u:HO}(I:Inv X Yw σ H s)(h:H d=some (.frz od u))(hn:∀o' u',X.H_0 d≠some (.frz o' u')):Inv X Yw σ (upd H d u) s:=by
 have neH:∀b o,H b=some o->(∀o' u',o≠ .frz o' u')->b≠d:=λb o e Y0 z=>by rw[z,h]at e;cases e;exact Y0 _ _ rfl
 have neN:∀b,H b=none->b≠d:=λb e z=>by rw[z,h]at e;cases e
 refine⟨I.ok,I.os,I.bare,⟨I.Yx.keep,I.Yx.slot,λb o e n hx=>?_,I.Yx.there,λb xs e=>?_,λb o x e=>?_,λb ps e=>?_⟩,I.loc,I.cell,?_,λx c e=>?_,λp hp=>?_,λb o e=>?_,I.len⟩
 .rw[aj (neN b (I.Yx.free b o e n hx))];exact I.Yx.free b o e n hx
 .have q:=I.Yx.tups b xs e;rw[aj (neH b _ q (λ_ _ z=>nomatch z))];exact q
 .have q:=I.Yx.frzs b o x e;rw[aj (λz=>by rw[z]at e;exact hn _ _ e)];exact q
 .obtain⟨m,q⟩:=I.Yx.tbls b ps e;exact⟨m,by rw[aj (neH b _ q (λ_ _ z=>nomatch z))];exact q⟩
 .rw[aj (neN _ I.free)];exact I.free
 .rw[aj (neN c (I.Φ x c e))];exact I.Φ x c e
 .obtain⟨e,n,r⟩:=I.pin p hp;exact⟨e,by rw[aj (neN _ n)];exact n,r⟩
 .by_cases hb:b=d
  .rw[hb,am]at e;cases e;rw[hb];obtain⟨_,x⟩:=I.YB d _ h;exact x.stay (λc v _ q=>q) (λc q=>by rw[aj (neH c _ q (λ_ _ z=>nomatch z))];exact q) λc xs q=>by rw[aj (neH c _ q (λ_ _ z=>nomatch z))];exact q
  .rw[aj hb]at e;exact(I.YB b o e).stay (λc v _ q=>q) (λc q=>by rw[aj (neH c _ q (λ_ _ z=>nomatch z))];exact q) λc xs q=>by rw[aj (neH c _ q (λ_ _ z=>nomatch z))];exact q
end
def Wt(t:TS):TS:=λD σ H=>∃d u,H d=some u/\jQ (some u)/\∀od,t ⟨λYD H'=>H' d=some (.frz od u)/\D.nx YD (upd H' d u),λv H'=>H' d=some (.frz od u)/\D.rt v (upd H' d u),λYD H'=>H' d=some (.frz od u)/\D.bk YD (upd H' d u),λYD H'=>H' d=some (.frz od u)/\D.ct YD (upd H' d u)⟩ σ (upd H d (.frz od u))
def IY(t:TE):TE:=λσ H Q=>∃d u,H d=some u/\jQ (some u)/\∀od,t σ (upd H d (.frz od u)) λv H'=>H' d=some (.frz od u)/\Q v (upd H' d u)
section
variable{X:Cx}
theorem vx{st:aH}{t:TS}(h:PS X st t):PS X st (Wt t):=by
 intro Yw s σ H D I hw;obtain⟨d,u,hd,mu,hw⟩:=hw;obtain⟨od,I1⟩:=I.lock hd mu;refine aW (h Yw s σ _ _ I1 (hw od)) λf s1 q=>?_;cases f with
 |next=>obtain⟨YD,H',I2,e,q⟩:=q;exact⟨YD,_,I2.unlock e (I.nofrz hd mu),q⟩
 |brk=>obtain⟨YD,H',I2,e,q⟩:=q;exact⟨YD,_,I2.unlock e (I.nofrz hd mu),q⟩
 |cont=>obtain⟨YD,H',I2,e,q⟩:=q;exact⟨YD,_,I2.unlock e (I.nofrz hd mu),q⟩
 |ret v=>obtain⟨x,YD,H',I2,r,e,q⟩:=q;exact⟨x,YD,_,I2.unlock e (I.nofrz hd mu),r,q⟩
theorem zD{e:aZ}{t:TE}(h:PE X e t):PE X e (IY t):=by intro Yw s σ H Q I hw;obtain⟨d,u,hd,mu,hw⟩:=hw;obtain⟨od,I1⟩:=I.lock hd mu;refine aW (h Yw s σ _ _ I1 (hw od)) λv s1 zz=>?_;obtain⟨x,H1,I2,r,e2,q⟩:=zz;exact⟨x,_,I2.unlock e2 (I.nofrz hd mu),r,q⟩
theorem z9{tg:aZ}{Yw:List (aa×Obj)}{σ:St}{H:Hp}{s:ai}{R:It->Hp->Prop}{J:It}{tn:Nat->aM->Prop}{tk:Nat}(I:Inv X Yw σ H s)(o:Obj)
  (T:mw X.prog X.w X.K tg J [s.heap.objs.size] s.heap.objs.size tn)(st:tn 0 (s.heap.push o))(q:R J H):wy X Yw σ tg R (.ref s.heap.objs.size) {s with heap:=s.heap.push o,toks:=tk}:=by
 refine⟨s.heap.objs.size,[s.heap.objs.size],tn,J,H,rfl,I.kept λb ob e=>cS _ e,T,st,λb hb=>?_,q⟩;have e:b=s.heap.objs.size:=by simpa using hb
 subst e;exact I.fpOk (aT _) (I.YB.fresh (aT _))
end
section
variable{prog:ba}{w:aQ}{A:bh}{E:ac->ai->Prop}{s:ai}
theorem FJ{d:aa}{o:Obj}{es:Array ig}{ep:Nat}{Q:ac->ai->Prop}(hd:(d==ia)=false)(ho:s.heap.get? d=some o)(hc:o.ExactDict)(aaF:o.data= .dict es ep)
  (hQ:Q (.ref s.heap.objs.size) {s with heap:=s.heap.push {cls:= .type "dict_keyiterator",data:= .fields #[.ref d,.int 0 0,.int es.size 0,.int ep 0]}}):
  aq (aB prog w) A (qr (.ref d)) Q E s:=by
 have hT:s.TypeIs (.ref d) "dict":=⟨o,ho,hc.1⟩;refine wV hT Nl (iU Nl hT F.entry_dict_iter ?_ (F.args_dict_iter_1 _));unfold Builtin.«dict.__iter__»;refine ah ?_;unfold Builtin.Dict.dictSlotNone;refine ah (wpAny_notOrdered_dict hT ?_);show aq _ _ (pure (cv d)) _ _ s;refine aw ?_;show aq _ _ (L7 d >>= _) _ _ s;unfold L7;rw[if_neg (by rw[hd];exact dF)];refine ah (aw ?_);refine ah (qT ho aaF ?_);refine ah (t_ ho aaF ?_);refine ah (oZ (aw ⟨_,rfl,"dict_keyiterator",_,⟨_,cZ _ rfl,rfl⟩,qL.lookup,?_⟩));simpa[qp]using hQ
theorem Oi{it d:aa}{i n ep:Nat}{od:Obj}{es:Array ig}{en:ig}{Q:Option ac->ai->Prop}(ZZ:s.heap.IsKeyIter it d i n ep)(Ζ:s.heap.get? d=some od)(hdd:od.data= .dict es ep)
  (YV:es.size=n)(hx:es[i]? =some en)(hQ:∀h',h'.IsKeyIter it d (i+1) n ep->cW it s.heap h'->Q (some en.key) {s with heap:=h'}):aq (aB prog w) A (kg (.ref it)) Q E s:=by
 obtain⟨o,ho,hc,hd⟩:=id ZZ;unfold kg;refine ah (xB (wG (name:=xO "__next__") ZZ.typeIs qL (iU qL ZZ.typeIs Le ?_ (Lb _))))
 refine ah (aw ?_);refine ah ?_;refine ah ?_
 first|refine ah (wB ZZ.typeIs (aw ?_))|refine ah (wD ZZ.typeIs (aw ?_))
 refine ah (xt ho hd ?_);have aeZ:Li "dict_keyiterator"=false:=by decide
 simp only[aeZ,bO,if_false];show aq _ _ (if(cv d==jy)=true then _ else _) _ _ s;rw[if_neg (show¬((cv d==jy)=true)from dF)];refine ah (aw ?_);refine ah (qT Ζ hdd ?_);rw[if_neg (by rw[YV];simp)];refine ah (aw ?_);refine ah (t_ Ζ hdd ?_);rw[if_neg (by simp)];refine aw ?_;obtain⟨ajI,hen⟩:=kz.mp hx;simp only[show¬((i:Int)<0)from by lia,if_false,c_,dS ajI];refine ah ?_
 first|refine ah (wB ZZ.typeIs (aw ?_))|refine ah (wD ZZ.typeIs (aw ?_))
 refine ah (LS ZZ.typeIs ?_);show aq _ _ (setField (.ref it) 1 (qp ((i:Int)+1)) >>= _) _ _ s;refine ah (wpAny_setField ho hd (by simp) ?_);have agX:(s.heap.update it (Ow (·.setIfInBounds 1 (qp ((i:Int)+1))))).IsKeyIter it d (i+1) n ep:=
  ⟨_,oV _ ho (Obj.isFreed_of_fields (Mw hd _)),(Obj.cls_mapFields ..).trans hc,by rw[Mw hd];simp[qp]⟩
 refine ah (gW ?_);refine ah (LS (s:={s with heap:=s.heap.update it (Ow (·.setIfInBounds 1 (qp ((i:Int)+1))))}) agX.typeIs ?_);show aq _ _ (pure es[i].key) _ _ _;rw[hen];exact aw (aw ⟨_,rfl,aw (hQ _ agX (mM ..))⟩)
theorem DD{it d:aa}{i n ep:Nat}{od:Obj}{es:Array ig}{Q:Option ac->ai->Prop}(hh:A.handled=none)(ZZ:s.heap.IsKeyIter it d i n ep)(Ζ:s.heap.get? d=some od)(hdd:od.data= .dict es ep)
  (YV:es.size=n)(hge:n<=i)(hQ:∀h',Heap.ExtBut it s.heap h'->Q none {s with heap:=h'}):aq (aB prog w) A (kg (.ref it)) Q E s:=by
 obtain⟨o,ho,hc,hd⟩:=id ZZ;unfold kg;refine ah (xB (wG (name:=xO "__next__") ZZ.typeIs qL (iU qL ZZ.typeIs Le ?_ (Lb _))))
 refine ah (aw ?_);refine ah ?_;refine ah ?_
 first|refine ah (wB ZZ.typeIs (aw ?_))|refine ah (wD ZZ.typeIs (aw ?_))
 refine ah (xt ho hd ?_);have aeZ:Li "dict_keyiterator"=false:=by decide
 simp only[aeZ,bO,if_false];show aq _ _ (if(cv d==jy)=true then _ else _) _ _ s;rw[if_neg (show¬((cv d==jy)=true)from dF)];refine ah (aw ?_);refine ah (qT Ζ hdd ?_);rw[if_neg (by rw[YV];simp)];refine ah (aw ?_);refine ah (t_ Ζ hdd ?_);rw[if_neg (by simp)];refine aw ?_;have ajW:es.size<=i:=by rw[YV];exact hge
 simp only[show¬((i:Int)<0)from by lia,if_false,c_,tP ajW];refine ah ?_
 first|refine ah (wB ZZ.typeIs (aw ?_))|refine ah (wD ZZ.typeIs (aw ?_))
 show aq _ _ (setField (.ref it) 0 .none >>= _) _ _ s;refine ah (wpAny_setField ho hd (by simp) ?_);show aq _ _ (newExc (.type "StopIteration") [] >>= _) _ _ _;refine ah ?_;simp only[newExc,newTuple];refine ah (oZ ?_ (by size_fits));refine ah (m:=xu _ _) (Ep (a:=jy) (by first|rfl|(simp only[xu];rfl)) ?_)
 refine oZ ?_ (by size_fits);simp only[raiseNew];refine ah (wpAny_handled ?_);rw[show A.in1.handled=none from hh];refine ah (aw (wpAny_throw ?_));refine ah (jr (T:="StopIteration") (b:=true) ⟨_,cZ _ rfl,rfl⟩ isSubtype_stop ?_);exact aw (hQ _ (((mM ..).extBut.push _).push _))
end
theorem Jy{κ:Type}{Yy:List (κ×V)}{vs:List (κ×ac)}(h:KV Yy vs):∀{i:Nat}{k:κ}{v:V},Yy[i]? =some (k,v)->∃u,vs[i]? =some (k,u)/\RelV v u:=by
 unfold KV at h;induction h with
 |nil=>intro i k v e;simp at e
 | @cons a b aaZ aaY r t ih=>
  intro i k v e;cases i with
  |zero=>simp only[wH,wY]at e;subst e;refine⟨b.2,?_,r.2⟩;simp only[wH];exact congrArg some (Prod.ext r.1.symm rfl)
  |succ j=>simp only[A']at e ⊢;exact ih e
theorem h_{α β:Type}{G:α->β->Prop}{aaZ:List α}{aaY:List β}(h:aY G aaZ aaY):∀{i:Nat}{a:α},aaZ[i]? =some a->∃b,aaY[i]? =some b/\G a b:=by
 induction h with
 |nil=>intro i a e;simp at e
 | @cons a b aaZ aaY r t ih=>
  intro i a' e;cases i with
  |zero=>simp only[wH,wY]at e;subst e;exact⟨b,rfl,r⟩
  |succ j=>simp only[A']at e ⊢;exact ih e
theorem rY{k:aJ}{u:ac}(h:kS k u=true):RelV (kV k) u:=by
 rcases jW h with⟨i,t,rfl,rfl⟩|⟨x,t,rfl,rfl⟩
 .exact⟨t,rfl⟩
 .exact⟨t,rfl⟩
section
variable{X:Cx}{Yw:List (aa×Obj)}{σ:St}{H:Hp}{s:ai}{d:aa}{o:Obj}
theorem Inv.frzK{Yy:List (aJ×V)}(I:Inv X Yw σ H s)(h:H d=some (.frz o (.dK Yy))):
  (d==ia)=false/\s.heap.get? d=some o/\o.ExactDict/\∃(es:Array ig)(ep:Nat)(vs:List (aJ×ac)),o.data= .dict es ep/\es.size=Yy.length/\KV Yy vs/\s.heap.DictAt (dN X.prog X.w) d vs ep:=by
 obtain⟨hd,z,hs,vs,kv,o',es,ep,ho,hx,Za,r⟩:=I.YB d _ h;rw[hd]at ho;cases ho;refine⟨hs,hd,hx,es,ep,vs,Za,?_,kv,o,es,hd,hx,Za,r⟩;have l1:=r.2.1.length;have l2:Yy.length=vs.length:=dH kv;rw[bz]at l1
 lia
theorem Inv.frzT{Yy:List (List aJ×V)}(I:Inv X Yw σ H s)(h:H d=some (.frz o (.dT Yy))):
  (d==ia)=false/\s.heap.get? d=some o/\o.ExactDict/\∃(es:Array ig)(ep:Nat),o.data= .dict es ep/\es.size=Yy.length/\
   ∀(i:Nat)(k:List aJ)(v:V),Yy[i]? =some (k,v)->∃(en:ig)(q:aa),es[i]? =some en/\en.key= .ref q/\H q=some (.tup (k.map kV)):=by
 obtain⟨hd,z,hs,xs,pr,o',es,ep,ho,hx,Za,he,_⟩:=I.YB d _ h;rw[hd]at ho;cases ho;refine⟨hs,hd,hx,es,ep,Za,?_,λi k v e=>?_⟩
 .have l1:es.size=xs.length:=size_of_entries he;have l2:Yy.length=xs.length:=dH pr
  lia
 .obtain⟨b,hb,e1,e2,_⟩:=h_ pr e;have q:=entry_at he i;rw[hb]at q;exact⟨_,b.2.1,q,rfl,e2⟩
end
def oQ(d:aa)(o:Obj)(Yy:List (aJ×V)):It:=
 ⟨λi H=>H d=some (.frz o (.dK Yy))/\i<Yy.length,λi H x H'=>H'=H/\∃k v,Yy[i]? =some (k,v)/\x=kV k,λi H=>H d=some (.frz o (.dK Yy))/\Yy.length<=i⟩
def wn(d:aa)(o:Obj)(Yy:List (List aJ×V)):It:=
 ⟨λi H=>H d=some (.frz o (.dT Yy))/\i<Yy.length,λi H x H'=>H'=H/\∃(k:List aJ)(v:V)(q:aa),Yy[i]? =some (k,v)/\x= .ref q/\H q=some (.tup (k.map kV)),λi H=>H d=some (.frz o (.dT Yy))/\Yy.length<=i⟩
def wA(d:aa)(o:Obj)(Yy:List (aJ×V)):It:=
 ⟨λi H=>H d=some (.frz o (.dK Yy))/\i<Yy.length,λi H x H'=>∃T k v,Yy[i]? =some (k,v)/\x= .ref T/\H T=none/\H'=upd H T (.tup [kV k,v]),λi H=>H d=some (.frz o (.dK Yy))/\Yy.length<=i⟩
theorem pX{o:Obj}{es YH:Array ig}{ep Y2:Nat}(h:o.data= .dict es ep)(h':o.data= .dict YH Y2):YH=es/\Y2=ep:=by rw[h]at h';cases h';exact⟨rfl,rfl⟩
section
variable{P:ba}{w:aQ}{K:aA}{tg:aZ}{d:aa}{o:Obj}{es:Array ig}{ep:Nat}{f:aa}{fd:dX}
theorem Rk{Yy:List (aJ×V)}(it:aa)(Ζ:o.data= .dict es ep):mw P w K tg (oQ d o Yy) [it] it (λi h=>h.IsKeyIter it d i Yy.length ep) where
 mem:=by simp
 obj:=λi h st b hb=>by
  have e:b=it:=by simpa using hb
  subst e;obtain⟨oi,e,c,dd⟩:=st;exact⟨oi,e,λv z=>by rw[dd]at z;cases z⟩
 keep:=λi h h' st k=>st.at λoi e=>k it (by simp) oi e
 item:=by intro X hP hw hK hc i Yw s σ H E I hf st hg;subst hP hw hK;obtain⟨hd,hi⟩:=hg;obtain⟨f0,f1,f2,f3,f4,f5⟩:=hf it (by simp);obtain⟨hs,Υ,hx,YH,Y2,vs,Za,YV,kv,hm⟩:=I.frzK hd;obtain⟨rfl,rfl⟩:=pX Ζ Za;obtain⟨⟨k,v⟩,Θ⟩:∃p,Yy[i]? =some p:=⟨Yy[i],cR hi⟩;obtain⟨u,hu,ru⟩:=Jy kv Θ;have hl:Yy.length=vs.length:=dH kv;rw[hl]at st;refine wpAny_pyNext_dict_item st hm hu λkey h' abe Γ sb=>?_;have I1:Inv X Yw σ H {s with heap:=h'}:=I.turned (t':=s.toks) (λb ob hb e=>(sb.2 b hb).trans e) f0 f1 f3 f4 f5;obtain⟨oi,e,c,dd⟩:=id Γ;refine⟨key,rfl,sY (s:={s with heap:=h'}) e c dd (by decide) ⟨kV k,H,I1,rY (show kS k key=true from abe),⟨rfl,k,v,Θ,rfl⟩,?_,λb hb=>(hf b hb).1⟩⟩;show h'.IsKeyIter it d (i+1) Yy.length _;rw[hl];exact Γ
 done:=by intro X hP hw hK hc i Yw s σ H E I hf st hg;subst hP hw hK;obtain⟨hd,hi⟩:=hg;obtain⟨f0,f1,f2,f3,f4,f5⟩:=hf it (by simp);obtain⟨hs,Υ,hx,YH,Y2,vs,Za,YV,kv,hm⟩:=I.frzK hd;obtain⟨rfl,rfl⟩:=pX Ζ Za;exact DD (I.ok.hd hc) st Υ Za YV hi λh' eb=>⟨rfl,I.turned (t':=s.toks) (λb ob hb e=>eb b ob hb e) f0 f1 f3 f4 f5⟩
 self:=λA i s Q E st h=>wpAny_pyIter_keyiter st h
theorem P8{Yy:List (List aJ×V)}(it:aa)(Ζ:o.data= .dict es ep):mw P w K tg (wn d o Yy) [it] it (λi h=>h.IsKeyIter it d i Yy.length ep) where
 mem:=by simp
 obj:=λi h st b hb=>by
  have e:b=it:=by simpa using hb
  subst e;obtain⟨oi,e,c,dd⟩:=st;exact⟨oi,e,λv z=>by rw[dd]at z;cases z⟩
 keep:=λi h h' st k=>st.at λoi e=>k it (by simp) oi e
 item:=by intro X hP hw hK hc i Yw s σ H E I hf st hg;subst hP hw hK;obtain⟨hd,hi⟩:=hg;obtain⟨f0,f1,f2,f3,f4,f5⟩:=hf it (by simp);obtain⟨hs,Υ,hx,YH,Y2,Za,YV,ent⟩:=I.frzT hd;obtain⟨rfl,rfl⟩:=pX Ζ Za;obtain⟨⟨k,v⟩,Θ⟩:∃p,Yy[i]? =some p:=⟨Yy[i],cR hi⟩;obtain⟨en,q,hen,abe,hq⟩:=ent i k v Θ;refine Oi st Υ Za YV hen λh' Γ sb=>?_;have I1:Inv X Yw σ H {s with heap:=h'}:=I.turned (t':=s.toks) (λb ob hb e=>(sb.2 b hb).trans e) f0 f1 f3 f4 f5;obtain⟨oi,e,c,dd⟩:=id Γ;exact⟨en.key,rfl,sY (s:={s with heap:=h'}) e c dd (by decide) ⟨.ref q,H,I1,abe,⟨rfl,k,v,q,Θ,rfl,hq⟩,Γ,λb hb=>(hf b hb).1⟩⟩
 done:=by intro X hP hw hK hc i Yw s σ H E I hf st hg;subst hP hw hK;obtain⟨hd,hi⟩:=hg;obtain⟨f0,f1,f2,f3,f4,f5⟩:=hf it (by simp);obtain⟨hs,Υ,hx,YH,Y2,Za,YV,ent⟩:=I.frzT hd;obtain⟨rfl,rfl⟩:=pX Ζ Za;exact DD (I.ok.hd hc) st Υ Za YV hi λh' eb=>⟨rfl,I.turned (t':=s.toks) (λb ob hb e=>eb b ob hb e) f0 f1 f3 f4 f5⟩
 self:=λA i s Q E st h=>by refine wV st.typeIs Lh (iU Lh st.typeIs F.entry_dict_keyiterator_iter ?_ (F.args_dict_keyiterator_iter_1 _));show aq _ _ (ret (.ref it)) _ _ s;exact aw ⟨_,rfl,"dict_keyiterator",_,st.typeIs,qL.lookup,h⟩
theorem P9{Yy:List (aJ×V)}{adV:List aZ}{kk:Nat}{abq:Pos}(it:aa)(Ζ:o.data= .dict es ep):
  mw P w K (.Tuple adV kk abq) (wA d o Yy) [it] it (λi h=>∃ok ov,IsItemIter h it d i Yy.length ep ok ov) where
 mem:=by simp
 obj:=λi h st b hb=>by
  have e:b=it:=by simpa using hb
  subst e;obtain⟨ok,ov,e⟩:=st;exact⟨_,e,λv z=>nomatch z⟩
 keep:=λi h h' st k=>let⟨ok,ov,e⟩:=st;⟨ok,ov,k it (by simp) _ e⟩
 item:=by
  intro X hP hw hK hc i Yw s σ H E I hf st hg;subst hP hw hK;obtain⟨hd,hi⟩:=hg;obtain⟨hs,Υ,hx,YH,Y2,vs,Za,YV,kv,hm⟩:=I.frzK hd;obtain⟨rfl,rfl⟩:=pX Ζ Za;obtain⟨⟨k,v⟩,Θ⟩:∃p,Yy[i]? =some p:=⟨Yy[i],cR hi⟩;obtain⟨u,hu,ru⟩:=Jy kv Θ;have hl:Yy.length=vs.length:=dH kv;obtain⟨ok,ov,he⟩:=st;rw[hl]at he;have YK:it<s.heap.objs.size:=bK he;refine wpAny_pyNext_items_item he hm hu λkey h' abe ho hT hz hk=>?_;refine⟨_,rfl,wpAny_letOwnedTupleGo_items (s:={s with heap:=h'}) ho λh'' he' sb=>?_⟩;have hT2:h''.get? s.heap.objs.size=some {cls:= .type "tuple",data:= .seq #[key,u]}:=(sb.2 _ (xP YK)).trans hT;have new:di X.prog X.w (upd H s.heap.objs.size (.tup [kV k,v])) h'' s.heap.objs.size (.tup [kV k,v]):=
   ⟨by show 2<=aU;decide,[key,u],.cons (rY (show kS k key=true from abe)) (.cons ru .nil),⟨_,hT2,rfl,_,rfl⟩⟩
  have I1:Inv X Yw σ (upd H s.heap.objs.size (.tup [kV k,v])) {s with heap:=h''}:=
   I.turnedNew (t':=s.toks) (ch:=[it]) (λb ob hb e=>(sb.2 b (by simpa using hb)).trans (hk b ob (by simpa using hb) e)) hf (aT _) new
  refine⟨.ref s.heap.objs.size,_,I1,rfl,⟨_,k,v,Θ,rfl,I.YB.fresh (aT _),rfl⟩,⟨key,u,?_⟩,λb hb=>?_⟩
  .rw[hl];exact he'
  .have e:b=it:=by simpa using hb
   rw[e,aj (cx YK)];exact(hf it (by simp)).1
 done:=by intro X hP hw hK hc i Yw s σ H E I hf st hg;subst hP hw hK;obtain⟨hd,hi⟩:=hg;obtain⟨f0,f1,f2,f3,f4,f5⟩:=hf it (by simp);obtain⟨hs,Υ,hx,YH,Y2,vs,Za,YV,kv,hm⟩:=I.frzK hd;obtain⟨rfl,rfl⟩:=pX Ζ Za;have hl:Yy.length=vs.length:=dH kv;obtain⟨ok,ov,he⟩:=st;rw[hl]at he;exact wpAny_pyNext_items_end (I.ok.hd hc) he hm (Bj (by lia)) λh' eb=>⟨rfl,I.turned (t':=s.toks) (λb ob hb e=>eb b ob hb e) f0 f1 f3 f4 f5⟩
 self:=λA i s Q E st h=>let⟨_,_,e⟩:=st;PySem.W.kcp_self e h
end
def Au(td:TE):TI:=λσ H R=>td σ H λx H1=>∃d o,x= .ref d/\((∃Yy,H1 d=some (.frz o (.dK Yy))/\R (oQ d o Yy) H1)\/∃Yy,H1 d=some (.frz o (.dT Yy))/\R (wn d o Yy) H1)
def JG(td:TE):TI:=λσ H R=>td σ H λx H1=>∃d o Yy,x= .ref d/\H1 d=some (.frz o (.dK Yy))/\R (wA d o Yy) H1
section
variable{X:Cx}{tg e:aZ}{td:TE}{Y3 Y_:Pos}
theorem sx(he:PE X e td):PI X tg e (Au td):=by
 intro Yw s σ H R I h;refine aW (he Yw s σ H _ I h) λu s1 zz=>?_;obtain⟨x,H1,I1,rx,d,o,ex,q⟩:=zz;subst ex;obtain rfl:u=cv d:=rx;rcases q with⟨Yy,hd,q⟩|⟨Yy,hd,q⟩
 .obtain⟨hs,Υ,hx,es,ep,vs,Za,YV,kv,hm⟩:=I1.frzK hd;refine FJ hs Υ hx Za (z9 (tk:=s1.toks) I1 _ (Rk _ Za) ⟨_,cZ _ rfl,rfl,?_⟩ q);rw[YV]<;>rfl
 .obtain⟨hs,Υ,hx,es,ep,Za,YV,ent⟩:=I1.frzT hd;refine FJ hs Υ hx Za (z9 (tk:=s1.toks) I1 _ (P8 _ Za) ⟨_,cZ _ rfl,rfl,?_⟩ q);rw[YV]<;>rfl
theorem SK{adV:List aZ}{kk:Nat}{abq:Pos}(he:PE X e td)(acK:ng e "items" X.env (eval e X.env)=eval e X.env:=by rfl)(acB:(Y3.endLine==Y_.line)=true:=by rfl):
  PI X (.Tuple adV kk abq) (.Call (.Attribute e "items" Y3) [] [] Y_) (JG td):=by
 intro Yw s σ H R I h;refine BS (T:="dict") (id:="dict.items") acK rfl acB F.plainAttrs_dict MQ F.type_dict_items (aW (he Yw s σ H _ I h) λu s1 zz=>?_);obtain⟨x,H1,I1,rx,d,o,Yy,ex,hd,q⟩:=zz;subst ex;obtain rfl:u=cv d:=rx;obtain⟨hs,Υ,hx,es,ep,vs,Za,YV,kv,hm⟩:=I1.frzK hd;have hl:Yy.length=vs.length:=dH kv;refine⟨hm.dictOf.typeIs,hm.dictOf.mapOf.noDict,?_⟩;have I2:Inv X Yw σ H1 {s1 with heap:=s1.heap.push {cls:= .type "dict_items",data:= .fields #[.ref d]}}:=I1.kept (t':=s1.toks) λb ob q=>cS _ q;have fin:aq (aB X.prog X.w) X.A (qr (.ref s1.heap.objs.size)) (wy X Yw σ (.Tuple adV kk abq) R) X.xe {s1 with heap:=s1.heap.push {cls:= .type "dict_items",data:= .fields #[.ref d]}}:=by refine wpAny_pyIter_items (d:=d) («knd»:=dN X.prog X.w) ⟨_,cZ _ rfl,rfl,rfl⟩ (hm.push _) (z9 (tk:=s1.toks) I2 _ (P9 _ Za) ⟨.none,.none,?_⟩ q);rw[hl];exact cZ _ rfl
 show aq _ _ (vm Y_ (.builtin "dict.items") [.ref d] [] []) _ X.xe s1;exact method_meetsIn MQ F.entry_dict_items rfl (Mm ⟨rfl,hm.dictOf.typeIs,F.args_dict_items_1 _,_,meets_dict_items (dN X.prog X.w) d hs,⟨vs,hm.dictOf⟩,fin⟩)
end
end L2
section
namespace Bits
open PySem PyProof.Rows
end Bits
end
section
namespace TL
open PySem PySem.Builtin PySem.Builtin.Str PySem.StrLaws
end TL
end
namespace L2
open PySem PySem.Spec PyProof.Rows
end L2
namespace Att
open PySem PySem.W PySem.Calls PyProof.Rows
end Att
namespace L2
open PySem PySem.Spec PyProof.Rows
def cf(s:aH)(j:Nat):aH:=match s with
 | .ClassDef _ _ _ body _ _ _ _ _ _ _=>body.getD j (.Pass ⟨0,0,0,0⟩)
 |_=> .Pass ⟨0,0,0,0⟩
def lU(s:aH):Arguments:=match s with
 | .FunctionDef _ a _ _ _ _ _ _ _ _=>a
 |_=>{posonlyargs:=[],args:=[],vararg:=none,kwonlyargs:=[],kw_defaults:=[],kwarg:=none,defaults:=[]}
def kP(s:aH):List aH:=match s with
 | .FunctionDef _ _ b _ _ _ _ _ _ _=>b
 |_=>[]
def gX(s:aH):dv:=match s with
 | .FunctionDef _ _ _ _ _ _ sc _ _ _=>sc
 |_=>{kind:= .function,names:=[],isGenerator:=false,isCoroutine:=false}
abbrev aN:gx:=λ_ _ _ _ _ _=>False
abbrev E0:XK:=λ_ _ _=>False
theorem ox{X:Cx}:l_ aN X E0:=λ_ _ _ _ _ _ _ h=>h.elim
structure aO(K:aA)(x YJ:Str)(st:aH)(f:aa)(fd:dX):Prop where
 ex:∃(oc:ac)(od:Option aa)(kV Zv pm:ac)(an:Option aa)(YX ct:ac)(Ν:Array (Option ac)),
  fd=kM x YJ (lU st) (kP st) (gX st) .none kV Zv pm an YX ct/\K.lookup f=some ⟨oc,od,.func fd,Ν⟩/\rh K YX YJ=true
 kp:jT K (.ref f)=true
section
variable{P:ba}{w:aQ}{K:aA}{mg:Str->Option ac}{Yx:aM}{f:aa}{fd:dX}
theorem aO.ok{x YJ:Str}{st:aH}{f:aa}{fd:dX}{N ps:List Str}{k:Nat}{sp:Sp}(F:aO K x YJ st f fd)(S:nZ N ps (gX st))(len:∀vs H Q E,sp vs H Q E->vs.length=ps.length)
  (afd:∀(YX:ac)(A:bh)(outer:List Env)(s:ai)(H:Hp)(vs:List V)(Q:VK)(E:XK),cr k (A.deeper (ma YJ (gX st) s.heap.objs.size f YX))->sp vs H Q E-> ∃t,iQ (jM aN P w K mg Yx N YJ (gX st) f YX A outer s H E).nox (kP st) t/\t {nx:=λ_ H'=>Q .non H',rt:=Q} (start N vs) H):aI P w K mg Yx aN (k+1) f fd ps sp:=by
 obtain⟨oc,od,kV,Zv,pm,an,YX,ct,Ν,rfl,lk,ο⟩:=F.ex;refine WE lk ο S len λA outer s H vs Q E hr θ=>?_;obtain⟨t,h,q⟩:=afd YX A outer s H vs Q E hr θ;exact⟨t,h.nox,q⟩
theorem aO.binds{x YJ:Str}{st:aH}{f:aa}{fd:dX}{ps:List Str}(F:aO K x YJ st f fd)
  (h:∀(kV Zv pm:ac)(an:Option aa)(YX ct:ac)(us:List ac),us.length=ps.length->bindArgs (kM x YJ (lU st) (kP st) (gX st) .none kV Zv pm an YX ct) ⟨us,[]⟩=pure (ps.zip us)):Binds K fd ps []:=by
 obtain⟨oc,od,kV,Zv,pm,an,YX,ct,Ν,rfl,lk,ο⟩:=F.ex;exact .all (h kV Zv pm an YX ct)
theorem Ag{x YJ:Str}{st:aH}{f:aa}{oc:ac}{od an:Option aa}{Ν:Array (Option ac)}{kV Zv pm YX ct:ac}(l:K.lookup f=some ⟨oc,od,.func (kM x YJ (lU st) (kP st) (gX st) .none kV Zv pm an YX ct),Ν⟩)
  (c:rh K YX YJ=true)(k:jT K (.ref f)=true):aO K x YJ st f (kM x YJ (lU st) (kP st) (gX st) .none kV Zv pm an YX ct):=⟨⟨oc,od,kV,Zv,pm,an,YX,ct,Ν,rfl,l,c⟩,k⟩
end
theorem b8{A:bh}{k:Nat}(hr:cr k A):A.units+1<fb:=BH (Nat.add_le_add_left (by decide:1<=64) _) hr.units
section
variable{X:Cx}
theorem pv(i:Nat){x:Str}{pos:Pos}(hN:X.N[i]? =some x:=by rfl)(hv:qJ X.env.scope x:=by first|exact me rfl|exact iK (me rfl)|exact iK (iK rfl))(hd:(x==("__debug__":Str))=false:=by decide)
  (ο:(x==("__classdict__":Str))=false:=by decide):PE X (.Name x pos) (mr i):=Jo hN hv hd ο
theorem R7:dh X (.builtin "len") (λxs H Q=>∃a Yy,xs=[V.ref a]/\H a=some (.dK Yy)/\Q (.int Yy.length) H):=by intro Yw s σ H xs us Q I r h;obtain⟨a,Yy,rfl,ha,q⟩:=h;obtain⟨u,rfl,ru⟩:=vals1 r;cases ru;exact WJ I (.inl ha) λt s' I'=>⟨.int Yy.length,H,I',⟨t,rfl⟩,q⟩
end
def ag(H H':Hp):Prop:=∀b o,H b=some o->H' b=some o
theorem ag.refl(H:Hp):ag H H:=λ_ _ h=>h
theorem ag.trans{H H1 H2:Hp}(a:ag H H1)(b:ag H1 H2):ag H H2:=λc o h=>b c o (a c o h)
theorem ag.free{H H':Hp}(e:ag H H'){l:aa}(h:H' l=PZ):H l=PZ:=by
 cases q:H l with
 |none=>rfl
 |some o=>rw[e l o q]at h;cases h
theorem ag.seq{K:aA}{H H':Hp}{a:aa}{xs:List V}(e:ag H H')(h:ay K H a xs):ay K H' a xs:=by
 rcases h with(h|⟨o,h⟩)|h
 .exact .inl (.inl (e _ _ h))
 .exact .inl (.inr ⟨o,e _ _ h⟩)
 .exact .inr h
section
variable{κ:Type}[DecidableEq κ]
theorem sk{Yy:List (κ×V)}{k:κ}{v:V}(h:bf Yy k=some v):k∈Yy.map (·.1):=by
 have q:(Yy.any λkv=>decide (kv.1=k))=true:=by
  rw[nP,h]
  all_goals rfl
 obtain⟨p,hp,e⟩:=fg.mp q;exact aK.mpr ⟨p,hp,of_decide_eq_true e⟩
end
end L2
section
namespace L2
open PySem PySem.Spec PyProof.Rows
open PySem.W (WData Codec OpenSpec Well WellAll ReadsW ReadsAllW)
mutual
inductive Dw(K:aA)(H:Hp):V->eM->Prop
 |non:Dw K H .non .none
 |bl (b:Bool):Dw K H (.bl b) (.bool b)
 |int (i:Int):Dw K H (.int i) (.int i)
 |str (x:Str):Dw K H (.str x) (.str x)
 |byt (b:Array UInt8):Dw K H (.byt b) (.bytes b.toList)
 |lst {a:aa} {xs:List V} {ds:List eM}:ay K H a xs->jf K H xs ds->Dw K H (.ref a) (.list ds)
 |tup {a:aa} {xs:List V} {ds:List eM}:a9 K H a xs->jf K H xs ds->Dw K H (.ref a) (.tuple ds)
inductive jf(K:aA)(H:Hp):List V->List eM->Prop
 |nil:jf K H [] []
 |cons {v:V} {vs:List V} {d:eM} {ds:List eM}:Dw K H v d->jf K H vs ds->jf K H (v::vs) (d::ds)
end
theorem IC{K:aA}{H:Hp}:∀ns:List Int,jf K H (ns.map V.int) (ns.map WData.int)
 |[]=> .nil
 |n::r=> .cons (.int n) (IC r)
theorem Ir{K:aA}{H:Hp}:∀(ns:List Int)(xs:List V),jf K H xs (ns.map WData.int)->xs=ns.map V.int
 |[],xs,h=>by cases h;rfl
 |n::r,xs,h=>by
  cases h with
  |cons h1 h2=>cases h1;rw[Ir r _ h2]<;>rfl
section
variable{P:ba}{w:aQ}{K:aA}{H:Hp}{h:aM}{R:M9}{cl:Str->Option aa}{f:aa}{fd:dX}
theorem VL{a:aa}{xs:List V}(YB:cz P w H h)(KX:K.In h)(q:ay K H a xs):∃(YA:List ac)(o:Obj)(n:Nat),aR xs YA/\h.get? a=some o/\o.cls= .type "list"/\o.data= .seq YA.toArray n:=by
 rcases q with q|⟨o,YA,n,e,hc,_,hd,_,hv⟩
 .obtain⟨_,YA,n,hv,e⟩:=(show di P w H h a (.lst xs)from q.ok YB);exact⟨YA,_,n,hv,e,rfl,rfl⟩
 .exact⟨YA.toList,o,n,hv,KX _ _ e,hc,by simp[hd]⟩
theorem VJ{a:aa}{xs:List V}(YB:cz P w H h)(KX:K.In h)(q:a9 K H a xs):∃(YA:List ac)(o:Obj)(n:Nat),aR xs YA/\h.get? a=some o/\o.cls= .type "tuple"/\o.data= .seq YA.toArray n:=by
 rcases q with q|⟨o,YA,n,e,hc,hd,_,hv⟩
 .obtain⟨_,YA,hv,o,e,hc,n,hd⟩:=(show di P w H h a (.tup xs)from q.ok YB);exact⟨YA,o,n,hv,e,hc,hd⟩
 .exact⟨YA.toList,o,n,hv,KX _ _ e,hc,by simp[hd]⟩
mutual
theorem Dw.reads(YB:cz P w H h)(KX:K.In h):∀(d:eM)(v:V)(u:ac),Dw K H v d->RelV v u->∃as,ReadsW R cl h u d as
 | .none,_,_,x,r=>by cases x;cases r;exact⟨_,ReadsW.none⟩
 | .bool b,_,_,x,r=>by cases x;cases r;exact⟨_,ReadsW.bool b⟩
 | .int i,_,_,x,r=>by cases x;obtain⟨t,rfl⟩:=r;exact⟨_,ReadsW.int i t⟩
 | .str s,_,_,x,r=>by cases x;obtain⟨t,rfl⟩:=r;exact⟨_,ReadsW.str s t⟩
 | .bytes b,_,_,x,r=>by cases x;obtain⟨t,rfl⟩:=r;exact⟨_,ReadsW.bytes _ t⟩
 | .list ds,_,_,x,r=>by
  cases x with
  |lst hs ha=>cases r;obtain⟨YA,o,n,rv,ho,hc,hd⟩:=VL YB KX hs;obtain⟨as,hr⟩:=Dw.readsAll YB KX ds _ YA ha rv;exact⟨_,ReadsW.list ho hc hd hr⟩
 | .tuple ds,_,_,x,r=>by
  cases x with
  |tup hs ha=>cases r;obtain⟨YA,o,n,rv,ho,hc,hd⟩:=VJ YB KX hs;obtain⟨as,hr⟩:=Dw.readsAll YB KX ds _ YA ha rv;exact⟨_,ReadsW.tuple ho hc hd hr⟩
 | .float _,_,_,x,_=>by cases x
 | .dict _,_,_,x,_=>by cases x
 | .bytearray _,_,_,x,_=>by cases x
 | .set _,_,_,x,_=>by cases x
 | .frozenset _,_,_,x,_=>by cases x
 | .obj _ _,_,_,x,_=>by cases x
theorem Dw.readsAll(YB:cz P w H h)(KX:K.In h):∀(ds:List eM)(vs:List V)(us:List ac),jf K H vs ds->aR vs us->∃as,ReadsAllW R cl h us ds as
 |[],_,_,x,r=>by cases x;cases r;exact⟨_,ReadsAllW.nil⟩
 |d::ds,_,_,x,r=>by
  cases x with
  |cons h1 h2=>
   cases r with
   |cons r1 r2=>obtain⟨as,q1⟩:=Dw.reads YB KX d _ _ h1 r1;obtain⟨bs,q2⟩:=Dw.readsAll YB KX ds _ _ h2 r2;exact⟨_,ReadsAllW.cons q1 q2⟩
end
end
mutual
def iA:eM->Bool
 | .none=>true
 | .bool _=>true
 | .int _=>true
 | .str _=>true
 | .bytes _=>true
 | .list xs=>jh xs
 | .tuple xs=>jh xs
 |_=>false
def jh:List eM->Bool
 |[]=>true
 |x::r=>iA x&&jh r
end
theorem Gs{α:Type}{f:α->eM}(h:∀a,iA (f a)=true):∀l:List α,jh (l.map f)=true
 |[]=>rfl
 |x::r=>by show(iA (f x)&&jh (r.map f))=true;rw[h x,Gs h r]<;>rfl
theorem lX:∀(c:Codec)(a:c.denote),iA (c.enc a)=true
 | .unit,_=>rfl
 | .bool,_=>rfl
 | .int _ _,_=>rfl
 | .nat _ _,_=>rfl
 | .u8,_=>rfl
 | .bytes _ _,_=>rfl
 | .text _ _ _ _,_=>rfl
 | .list _ _ c,a=>Gs (λx=>lX c x) a
 | .pair c d,a=>by show(iA (c.enc a.1)&&(iA (d.enc a.2)&&true))=true;rw[lX c a.1,lX d a.2]<;>rfl
 | .triple c d e,a=>by show(iA (c.enc a.1)&&(iA (d.enc a.2.1)&&(iA (e.enc a.2.2)&&true)))=true;rw[lX c a.1,lX d a.2.1,lX e a.2.2]<;>rfl
 | .option c,none=>rfl
 | .option c,some x=>lX c x
theorem Fv:∀(cs:List Codec)(a:xo cs),jh (rK cs a)=true
 |[],_=>rfl
 |c::cs,a=>by show(iA (c.enc a.1)&&jh (rK cs a.2))=true;rw[lX c a.1,Fv cs a.2]<;>rfl
theorem yb:∀{xs:List eM}{d:eM},d∈xs->d.weight<=xh xs
 |[],d,h=>absurd h (by simp)
 |x::r,d,h=>by
  show d.weight<=x.weight+1+xh r;rcases aV.mp h with e|m
  .rw[e]
   lia
  .have z:=yb m
   lia
def gC:ac->V
 | .none=> .non
 | .bool b=> .bl b
 | .int i _=> .int i
 | .str x _=> .str x
 | .bytes b _=> .byt b
 | .ref a=> .ref a
 |_=> .non
def iR(A:List aa):ac->Prop
 | .none=>True
 | .bool _=>True
 | .int _ _=>True
 | .str _ _=>True
 | .bytes _ _=>True
 | .ref a=>a∈A
 |_=>False
theorem iR.mono{A B:List aa}(h:∀a∈A,a∈B):∀{u:ac},iR A u->iR B u:=λ{u}x=>by
 cases u with
 |ref a=>exact h a x
 |none=>trivial
 |bool b=>trivial
 |int i t=>trivial
 |str s t=>trivial
 |bytes b t=>trivial
 |_=>exact gO x
theorem SD{A:List aa}{u:ac}(x:iR A u):RelV (gC u) u:=by
 cases u with
 |ref a=>rfl
 |none=>rfl
 |bool b=>rfl
 |int i t=>exact⟨t,rfl⟩
 |str s t=>exact⟨t,rfl⟩
 |bytes b t=>exact⟨t,rfl⟩
 |_=>exact gO x
theorem pM{A:List aa}:∀{vs:List ac},(∀u∈vs,iR A u)->aR (vs.map gC) vs
 |[],_=> .nil
 |u::r,h=> .cons (SD (h u (bA ..))) (pM λx hx=>h x (bq _ hx))
def jg(h:aM)(A:List aa)(a:aa):Prop:=∃vs:List ac,vs.length<=aU/\(∀u∈vs,iR A u)/\
 (h.get? a=some {cls:= .type "list",data:= .seq vs.toArray}\/h.get? a=some {cls:= .type "tuple",data:= .seq vs.toArray})
theorem jg.mono{h:aM}{A B:List aa}{a:aa}(k:∀a∈A,a∈B)(x:jg h A a):jg h B a:=by obtain⟨vs,h1,h2,h3⟩:=x;exact⟨vs,h1,λu hu=>(h2 u hu).mono k,h3⟩
theorem ux{P:md}{h:aM}:∀{vs:List ac}{ds:List eM},n_ P h vs ds->vs.length=ds.length
 |_,_,.nil=>rfl
 |_,_,.cons _ b=>by show _+1=_+1;rw[ux b]
theorem Fa{P:md}{h:aM}{v:ac}{ds:List eM}(x:Well P h v (.list ds)):∃(a:aa)(vs:List ac),v= .ref a/\h.get? a=some {cls:= .type "list",data:= .seq vs.toArray}/\n_ P h vs ds:=by
 cases x with
 |list ho ZS=>exact⟨_,_,rfl,ho,ZS⟩
theorem Ew{P:md}{h:aM}{v:ac}{ds:List eM}(x:Well P h v (.tuple ds)):∃(a:aa)(vs:List ac),v= .ref a/\h.get? a=some {cls:= .type "tuple",data:= .seq vs.toArray}/\n_ P h vs ds:=by
 cases x with
 |tuple ho ZS=>exact⟨_,_,rfl,ho,ZS⟩
theorem Fb{P:md}{h:aM}{us:List ac}{d:eM}{ds:List eM}(x:n_ P h us (d::ds)):∃(v:ac)(vs:List ac),us=v::vs/\Well P h v d/\n_ P h vs ds:=by
 cases x with
 |cons a b=>exact⟨_,_,rfl,a,b⟩
theorem sy{n:Nat}(h:n<=1048576):n<=aU:=cV h (by decide)
section
variable{P:md}{h:aM}
mutual
theorem Tx:∀(d:eM)(v:ac),Well P h v d->iA d=true->d.weight<=1048576->∃A:List aa,iR A v/\∀a∈A,jg h A a
 | .none,_,x,_,_=>by cases x;exact⟨[],trivial,λa m=>absurd m (by simp)⟩
 | .bool b,_,x,_,_=>by cases x;exact⟨[],trivial,λa m=>absurd m (by simp)⟩
 | .int i,_,x,_,_=>by cases x;exact⟨[],trivial,λa m=>absurd m (by simp)⟩
 | .str s,_,x,_,_=>by cases x;exact⟨[],trivial,λa m=>absurd m (by simp)⟩
 | .bytes b,_,x,_,_=>by cases x;exact⟨[],trivial,λa m=>absurd m (by simp)⟩
 | .list ds,_,x,p,z=>by
  obtain⟨a,vs,rfl,ho,ZS⟩:=Fa x;have z2:xh ds<=1048576:=z;obtain⟨A,h1,h2⟩:=vi ds _ ZS p λd hd=>cV (yb hd) z2;have k:∀b∈A,b∈a::A:=λb hb=>bq _ hb;refine⟨a::A,bA ..,λb hb=>?_⟩;rcases aV.mp hb with e|m
  .rw[e];exact⟨vs,sy (by rw[ux ZS];exact cV (Lf ds) z2),λu hu=>(h1 u hu).mono k,.inl ho⟩
  .exact(h2 b m).mono k
 | .tuple ds,_,x,p,z=>by
  obtain⟨a,vs,rfl,ho,ZS⟩:=Ew x;have z2:xh ds<=1048576:=z;obtain⟨A,h1,h2⟩:=vi ds _ ZS p λd hd=>cV (yb hd) z2;have k:∀b∈A,b∈a::A:=λb hb=>bq _ hb;refine⟨a::A,bA ..,λb hb=>?_⟩;rcases aV.mp hb with e|m
  .rw[e];exact⟨vs,sy (by rw[ux ZS];exact cV (Lf ds) z2),λu hu=>(h1 u hu).mono k,.inr ho⟩
  .exact(h2 b m).mono k
 | .float _,_,_,p,_=>iC (show false=true from p)
 | .dict _,_,_,p,_=>iC (show false=true from p)
 | .bytearray _,_,_,p,_=>iC (show false=true from p)
 | .set _,_,_,p,_=>iC (show false=true from p)
 | .frozenset _,_,_,p,_=>iC (show false=true from p)
 | .obj _ _,_,_,p,_=>iC (show false=true from p)
theorem vi:∀(ds:List eM)(vs:List ac),n_ P h vs ds->jh ds=true->(∀d∈ds,d.weight<=1048576)->∃A:List aa,(∀u∈vs,iR A u)/\∀a∈A,jg h A a
 |[],_,x,_,_=>by cases x;exact⟨[],λu m=>absurd m (by simp),λa m=>absurd m (by simp)⟩
 |d::ds,_,x,p,z=>by
  obtain⟨v,vs,rfl,x1,x2⟩:=Fb x;have q:iA d=true/\jh ds=true:=Mg.mp p;obtain⟨A,a1,a2⟩:=Tx d v x1 q.1 (z d (bA ..));obtain⟨B,b1,b2⟩:=vi ds vs x2 q.2 λe he=>z e (bq _ he);have kA:∀b∈A,b∈A++B:=λb hb=>bT.mpr (.inl hb);have kB:∀b∈B,b∈A++B:=λb hb=>bT.mpr (.inr hb);refine⟨A++B,λu hu=>?_,λb hb=>?_⟩
  .rcases aV.mp hu with e|m
   .rw[e];exact a1.mono kA
   .exact(b1 u m).mono kB
  .rcases bT.mp hb with m|m
   .exact(a2 b m).mono kA
   .exact(b2 b m).mono kB
end
end
def wg(o:Obj):Option HO:=match o.data with
 | .seq vs _=>if(o.cls==jX "list")=true then some (.frz o (.lst (vs.toList.map gC)))else some (.frz o (.tup (vs.toList.map gC)))
 |_=>none
def gc(K:aA)(h:aM)(A:List aa):Hp:=λb=>if b∈A then(if(K.lookup b).isNone=true then(h.get? b).bind wg else none)else none
def qy(H:Hp):Prop:=∀b,H b=none\/∃o u,H b=some (.frz o u)
theorem G7(vs:List ac):wg {cls:= .type "list",data:= .seq vs.toArray}=some (.frz {cls:= .type "list",data:= .seq vs.toArray} (.lst (vs.map gC))):=by show(if(jX "list"==jX "list")=true then some (HO.frz {cls:= .type "list",data:= .seq vs.toArray} (.lst (vs.toArray.toList.map gC)))else some (HO.frz {cls:= .type "list",data:= .seq vs.toArray} (.tup (vs.toArray.toList.map gC))))=_;rw[if_pos (beq_self_eq_true _)]
theorem G0(vs:List ac):wg {cls:= .type "tuple",data:= .seq vs.toArray}=some (.frz {cls:= .type "tuple",data:= .seq vs.toArray} (.tup (vs.map gC))):=by show(if(jX "tuple"==jX "list")=true then some (HO.frz {cls:= .type "tuple",data:= .seq vs.toArray} (.lst (vs.toArray.toList.map gC)))else some (HO.frz {cls:= .type "tuple",data:= .seq vs.toArray} (.tup (vs.toArray.toList.map gC))))=_;rw[if_neg (by decide)]
section
variable{P:ba}{w:aQ}{K:aA}{h:aM}{A:List aa}{f:aa}{fd:dX}
theorem vF{b:aa}{o:Obj}(hb:b∈A)(hk:K.lookup b=none)(e:h.get? b=some o):gc K h A b=wg o:=by unfold gc;rw[if_pos hb,hk,if_pos (show(none:Option Obj).isNone=true from rfl),e]<;>rfl
theorem UR{b:aa}{u:HO}(q:gc K h A b=some u):b∈A/\K.lookup b=none:=by
 unfold gc at q;by_cases hb:b∈A
 .rw[if_pos hb]at q;cases hk:K.lookup b with
  |none=>exact⟨hb,rfl⟩
  |some o=>rw[hk,if_neg (by simp)]at q;cases q
 .rw[if_neg hb]at q;cases q
theorem vE(ar:∀a∈A,jg h A a){b:aa}{u:HO}(q:gc K h A b=some u):K.lookup b=none/\∃vs:List ac,vs.length<=aU/\(∀u∈vs,iR A u)/\
  ((h.get? b=some {cls:= .type "list",data:= .seq vs.toArray}/\u= .frz {cls:= .type "list",data:= .seq vs.toArray} (.lst (vs.map gC)))\/ (h.get? b=some {cls:= .type "tuple",data:= .seq vs.toArray}/\u= .frz {cls:= .type "tuple",data:= .seq vs.toArray} (.tup (vs.map gC)))):=by
 obtain⟨hb,hk⟩:=UR q;obtain⟨vs,h1,h2,h3⟩:=ar b hb;refine⟨hk,vs,h1,h2,?_⟩;rcases h3 with e|e
 .rw[vF hb hk e,G7]at q;exact .inl ⟨e,(gk q).symm⟩
 .rw[vF hb hk e,G0]at q;exact .inr ⟨e,(gk q).symm⟩
theorem R8(ar:∀a∈A,jg h A a):qy (gc K h A):=λb=>by
 cases q:gc K h A b with
 |none=>exact .inl rfl
 |some u=>
  obtain⟨_,vs,_,_,⟨_,e⟩|⟨_,e⟩⟩:=vE ar q
  .exact .inr ⟨_,_,by rw[e]⟩
  .exact .inr ⟨_,_,by rw[e]⟩
theorem Vi(ar:∀a∈A,jg h A a):cz P w (gc K h A) h:=λb u q=>by
 obtain⟨_,vs,h1,h2,⟨e,rfl⟩|⟨e,rfl⟩⟩:=vE ar q
 .exact⟨e,by rw[aE];exact h1,vs,_,pM h2,e⟩
 .exact⟨e,by rw[aE];exact h1,vs,pM h2,_,e,rfl,_,rfl⟩
theorem vt{c c':ac}{vs us:List ac}(e:(some {cls:=c,data:= .seq vs.toArray}:Option Obj)=some {cls:=c',data:= .seq us.toArray}):c=c'/\vs=us:=by have e1:=gk e;have e2:c=c':=congrArg Obj.cls e1;have e3:zm vs.toArray=zm us.toArray:=congrArg Obj.data e1;injection e3 with e4;refine⟨e2,?_⟩;have e5:=congrArg D0 e4;simpa using e5
theorem WV(KX:K.In h)(ar:∀a∈A,jg h A a){a:aa}{vs:List ac}(ha:a∈A)(e:h.get? a=some {cls:= .type "list",data:= .seq vs.toArray}):(∀u∈vs,iR A u)/\ay K (gc K h A) a (vs.map gC):=by
 obtain⟨us,h1,h2,h3⟩:=ar a ha;have hu:us=vs:=by
  rcases h3 with q|q
  .rw[e]at q;exact(vt q).2.symm
  .rw[e]at q;exact absurd (NY (vt q).1) (by decide)
 subst hu;refine⟨h2,?_⟩;cases hk:K.lookup a with
 |none=>exact .inl (.inr ⟨_,by rw[vF ha hk e,G7]⟩)
 |some o=>have e2:=KX a o hk;rw[e]at e2;obtain rfl:=gk e2;exact .inr ⟨_,us.toArray,_,hk,rfl,rfl,rfl,by rw[b6];exact h1,by simpa using pM h2⟩
theorem WU(KX:K.In h)(ar:∀a∈A,jg h A a){a:aa}{vs:List ac}(ha:a∈A)(e:h.get? a=some {cls:= .type "tuple",data:= .seq vs.toArray}):(∀u∈vs,iR A u)/\a9 K (gc K h A) a (vs.map gC):=by
 obtain⟨us,h1,h2,h3⟩:=ar a ha;have hu:us=vs:=by
  rcases h3 with q|q
  .rw[e]at q;exact absurd (NY (vt q).1) (by decide)
  .rw[e]at q;exact(vt q).2.symm
 subst hu;refine⟨h2,?_⟩;cases hk:K.lookup a with
 |none=>exact .inl (.inr ⟨_,by rw[vF ha hk e,G0]⟩)
 |some o=>have e2:=KX a o hk;rw[e]at e2;obtain rfl:=gk e2;exact .inr ⟨_,us.toArray,_,hk,rfl,rfl,by rw[b6];exact h1,by simpa using pM h2⟩
mutual
theorem V_{Pm:md}(KX:K.In h)(ar:∀a∈A,jg h A a):∀(d:eM)(v:ac),Well Pm h v d->iA d=true->iR A v->Dw K (gc K h A) (gC v) d
 | .none,_,x,_,_=>by cases x;exact .non
 | .bool b,_,x,_,_=>by cases x;exact .bl b
 | .int i,_,x,_,_=>by cases x;exact .int i
 | .str s,_,x,_,_=>by cases x;exact .str s
 | .bytes b,_,x,_,_=>by cases x;have z:=Dw.byt (K:=K) (H:=gc K h A) b.toArray;exact z
 | .list ds,_,x,p,hu=>by obtain⟨a,vs,rfl,ho,ZS⟩:=Fa x;obtain⟨h2,hs⟩:=WV KX ar hu ho;exact .lst hs (vQ KX ar ds _ ZS p h2)
 | .tuple ds,_,x,p,hu=>by obtain⟨a,vs,rfl,ho,ZS⟩:=Ew x;obtain⟨h2,hs⟩:=WU KX ar hu ho;exact .tup hs (vQ KX ar ds _ ZS p h2)
 | .float _,_,_,p,_=>iC (show false=true from p)
 | .dict _,_,_,p,_=>iC (show false=true from p)
 | .bytearray _,_,_,p,_=>iC (show false=true from p)
 | .set _,_,_,p,_=>iC (show false=true from p)
 | .frozenset _,_,_,p,_=>iC (show false=true from p)
 | .obj _ _,_,_,p,_=>iC (show false=true from p)
theorem vQ{Pm:md}(KX:K.In h)(ar:∀a∈A,jg h A a):∀(ds:List eM)(vs:List ac),n_ Pm h vs ds->jh ds=true->(∀u∈vs,iR A u)->jf K (gc K h A) (vs.map gC) ds
 |[],_,x,_,_=>by cases x;exact .nil
 |d::ds,_,x,p,hu=>by obtain⟨v,vs,rfl,x1,x2⟩:=Fb x;have q:iA d=true/\jh ds=true:=Mg.mp p;exact .cons (V_ KX ar d v x1 q.1 (hu _ (bA ..))) (vQ KX ar ds vs x2 q.2 λu m=>hu u (bq _ m))
end
end
theorem Rr{P:ba}{w:aQ}{K:aA}{mg mb:Str->Option ac}{CX:gx}{k:Nat}{fa:aa}{fd:dX}{ps:List Str}{sp:Sp}{YO:ai}{aa8:List ac}{ds:List eM}{R:M9}{cl:Str->Option aa}{d0:eM}
  (KX:K.In YO.heap)(ZP:YO.heap.Ns dB mg)(hb:YO.heap.Ns E3 mb)(hbb:∀x:Str,x≠"__name__"->mb x=pz x)(ajK:YO.heap.NoLimit)(hg:YO.gens= #[])
  (Ε:n_ w.params YO.heap aa8 ds)(YZ:jh ds=true)(hwt:∀d∈ds,d.weight<=1048576)(hr:cr k sJ)
  (F:∀Yx:aM,K.In Yx->Yx.Ns dB mg->aI P w K mg Yx CX k fa fd ps sp)(ake:∀(s:ai)(us:List ac),us.length=ps.length->p8 s fd ⟨us,[]⟩ (ps.zip us))(YG:ds.length=ps.length)
  (θ:∀(H:Hp)(xs:List V),qy H->jf K H xs ds->sp xs H (λv H'=>Dw K H' v d0) λ_ _ _=>False)
  (hCX:∀H e s',CX [] H YO (λ_ _ _=>False) e s'->False):
  lV (aB P w) sJ (.call (.ref fa) ⟨aa8,[]⟩) (λr s'=>∃u as,r= .ok (.ret u)/\ReadsW R cl s'.heap u d0 as/\OldK YO.heap s'.heap/\s'.os=YO.os/\p9 s'.gens) YO:=by
 obtain⟨A,ho,ar⟩:=vi ds aa8 Ε YZ hwt;have hO:qy (gc K YO.heap A):=R8 ar;have YB:cz P w (gc K YO.heap A) YO.heap:=Vi ar;have hS:=vQ KX ar ds aa8 Ε YZ ho;have hV:=pM ho;have hK:∀b u,gc K YO.heap A b=some u->K.lookup b=none:=λb u q=>(vE ar q).1;have noA:∀{b:aa}{o:Obj}{es:Array ig}{ep:Nat},YO.heap.get? b=some o->o.data= .dict es ep->gc K YO.heap A b=none:=λ{b o es ep}e d=>by
  cases q:gc K YO.heap A b with
  |none=>rfl
  |some u=>
   obtain⟨_,vs,_,_,⟨e2,_⟩|⟨e2,_⟩⟩:=vE ar q
   .rw[e2]at e;cases e;have d':zm vs.toArray _=Data.dict es ep:=d;cases d'
   .rw[e2]at e;cases e;have d':zm vs.toArray _=Data.dict es ep:=d;cases d'
 generalize gc K YO.heap A=H at hO YB hS hK noA;have ahE:∀{b:aa}{o:Obj},YO.heap.get? b=some o->H b=none->(kZ YO.heap H).get? b=some o:=λe n=>Tb e n;have nsK:∀{b:aa}{m:Str->Option ac},YO.heap.Ns b m->(kZ YO.heap H).Ns b m:=λ{b m}⟨o,es,ep,e,d,r⟩=>⟨o,es,ep,ahE e (noA e d),d,r⟩;have nK:∀b o,K.lookup b=some o->H b=none:=λb o e=>by
  cases q:H b with
  |none=>rfl
  |some u=>rw[hK b u q]at e;cases e
 have hKb:K.In (kZ YO.heap H):=λb o e=>ahE (KX b o e) (nK b o e);have hM:Mod K mg (kZ YO.heap H):=⟨hKb,nsK ZP,⟨mb,nsK hb,hbb⟩,let⟨mc,h1,h2⟩:=ajK;⟨mc,nsK h1,h2⟩⟩;have e0:oN P w K mg (kZ YO.heap H) sJ [] YO H:=⟨rfl,hM,λb o e=>UQ e,uv (RS _ _),trivial,λb hb=>absurd (show b∈([]:List aa)from hb) (by simp),YB,.of_eq hg⟩;have hl:aa8.length=ps.length:=by rw[ux Ε];exact YG
 refine rF ((F _ hKb (nsK ZP)).run sJ [] YO H ⟨aa8,[]⟩ aa8 (aa8.map gC) _ _ hr e0 (ake YO aa8 hl) hV (θ H _ hO hS)) λr s' x=>?_;cases r with
 |error e=>exact(hCX H e s' x).elim
 |ok fl=>
  cases fl with
  |next=>exact gO x
  |brk=>exact gO x
  |cont=>exact gO x
  |ret u=>
   obtain⟨v,H',os,bare,un,agJ,r',q⟩:=x;have kept:∀b o,YO.heap.get? b=some o->s'.heap.get? b=some o:=λb o e=>by
    cases q2:H b with
    |none=>exact un.keep b o e q2 (by intro z;exact absurd (show b∈([]:List aa)from z) (by simp)) (by simp)
    |some u2=>
     rcases hO b with z|⟨ob,u3,z⟩
     .rw[q2]at z;cases z
     .have z2:=un.frzs b ob _ z;obtain⟨e1,_⟩:=YB b _ z;obtain⟨e2,_⟩:=agJ b _ z2;rw[e]at e1;cases e1;exact e2
   have KX':K.In s'.heap:=λb o e=>kept b o (KX b o e);obtain⟨as,hrd⟩:=Dw.reads (R:=R) (cl:=cl) agJ KX' d0 v u q r';exact⟨u,as,rfl,hrd,OldK.of_keep kept,os,bare⟩
theorem NR{ds:List eM}(h:WData.layableAll ds=true):∀d∈ds,d.weight<=1048576:=λd hd=>
 (PySem.W.layableW_iff.mp (mU.mp h d hd)).2.2
theorem ES:∀(cs:List Codec)(a:xo cs),(rK cs a).length=cs.length
 |[],_=>rfl
 |c::cs,a=>by show(rK cs a.2).length+1=cs.length+1;rw[ES cs a.2]
theorem Rg{r:OpenSpec}{k:Nat}{q:ba}{aev:List Str}{XP:(Str->Option ac)->aM->Prop}{YP:aQ->aM->Prop}{d:DefRec}{K:md->aA}{CX:aQ->gx}{ps:List Str}{sp:aQ->Sp}
  (aeQ:r.wellSaid=true)(hdf:d.params.defaults=[])(YG:r.args.length=ps.length)(hr:cr k sJ)
  (hY:∀(w:aQ)(h:aM),YP w h->(K w.params).In h)
  (F:∀(w:aQ)(mg:Str->Option ac)(fa:aa)(h:aM),YP w h->(K w.params).In h->h.Ns dB mg->mg d.name=some (.ref fa)-> ∃fd:dX,(∀(s:ai)(us:List ac),us.length=ps.length->p8 s fd ⟨us,[]⟩ (ps.zip us))/\ ∀Yx:aM,(K w.params).In Yx->Yx.Ns dB mg->aI r.prog w (K w.params) mg Yx (CX w) k fa fd ps (sp w))
  (θ:∀(w:aQ)(H:Hp)(xs:List V)(a:xo r.args),qy H->Nz r.args a=true->uY r.args r.asked a=true->jf (K w.params) H xs (rK r.args a)-> sp w xs H (λv H'=>Dw (K w.params) H' v (r.ret.enc (uY r.args r.f a))) λ_ _ _=>False)
  (hCX:∀(w:aQ)(H:Hp)(s:ai)(e:ac)(s':ai),CX w [] H s (λ_ _ _=>False) e s'->False):
  N0 q aev XP YP r d [] (λf vs=>Rb f vs):=by
 intro w s_0 YO mg mb G Y fa o pm cd Zv dV kV ho hd ο hD hmg hg args aa8 as ajr ajM hrd Ε hlo;obtain⟨a,e1,e2⟩:=PySem.W.os_pre_some ajr;obtain⟨e3,hwi⟩:=Codec.encAll_of_decAll r.args args a e1;subst e3;have KX:=hY w _ Y;obtain⟨fd,hb,hF⟩:=F w mg fa _ Y KX G.T.g hmg;refine PySem.W.enter_call (rF (Rr (R:=[]) (cl:=classAt s_0.heap) (d0:=r.ret.enc (uY r.args r.f a)) KX G.T.g G.T.b G.T.builtins G.T.nolimit hg Ε (Fv _ _) (NR ajM) hr hF hb (by rw[ES];exact YG) (λH xs hO hS=>θ w H xs a hO hwi e2 hS) λH e s'=>hCX w H YO e s') λr' s' hq=>?_)
 obtain⟨u,ZX,rfl,h1,h2,h3,h4⟩:=hq;exact⟨.inl ⟨u,_,ZX,rfl,λ_=>rfl,h1,(OpenSpec.post_iff aeQ hwi _ _).mpr rfl,λz=>iC (show false=true from z)⟩,h2,h3,h4⟩
theorem P4{r:OpenSpec}{k:Nat}{q:ba}{aev:List Str}{XP:(Str->Option ac)->aM->Prop}{YP:aQ->aM->Prop}{d:DefRec}{K:md->aA}{CX:gx}{ps:List Str}{sp:aA->Sp}
  (aeQ:r.wellSaid=true)(hdf:d.params.defaults=[])(YG:r.args.length=ps.length)(hr:cr k sJ)
  (hY:∀(w:aQ)(h:aM),YP w h->(K w.params).In h)
  (F:∀(w:aQ)(mg:Str->Option ac)(fa:aa)(h:aM),YP w h->(K w.params).In h->h.Ns dB mg->mg d.name=some (.ref fa)-> ∃fd:dX,(∀(s:ai)(us:List ac),us.length=ps.length->p8 s fd ⟨us,[]⟩ (ps.zip us))/\ ∀Yx:aM,(K w.params).In Yx->Yx.Ns dB mg->aI r.prog w (K w.params) mg Yx CX k fa fd ps (sp (K w.params)))
  (θ:∀(K:aA)(H:Hp)(xs:List V)(a:xo r.args),qy H->Nz r.args a=true->uY r.args r.asked a=true->jf K H xs (rK r.args a)-> sp K xs H (λv H'=>Dw K H' v (r.ret.enc (uY r.args r.f a))) λ_ _ _=>False)
  (hCX:∀(H:Hp)(s:ai)(e:ac)(s':ai),CX [] H s (λ_ _ _=>False) e s'->False):
  N0 q aev XP YP r d [] (λf vs=>Rb f vs):=
 Rg (K:=K) (CX:=λ_=>CX) (sp:=λw=>sp (K w.params)) aeQ hdf YG hr hY F (λw H xs a h1 h2 h3 h4=>θ (K w.params) H xs a h1 h2 h3 h4) λ_ H s e s'=>hCX H s e s'
end L2
end
namespace Vm
open PySem PySem.SetTable
theorem KL:∀k:Nat,∃m,5^2^k=1+2^(k+2)*(2*m+1)
 |0=>⟨0,rfl⟩
 |k+1=>by
  obtain⟨m,e⟩:=KL k;refine⟨m+2^k*(2*m+1)*(2*m+1),?_⟩;have e1:5^2^(k+1)=5^2^k*5^2^k:=by rw[<-uG];congr 1;rw[lK];lia
  rw[e1,e];have e2:2^(k+1+2)=2*2^(k+2):=by rw[lK];lia
  have e3:2^(k+2)=4*2^k:=by rw[uG];lia
  rw[e2,e3];generalize 2^k=b;have ec:2*(m+b*(2*m+1)*(2*m+1))+1=(2*m+1)+2*(b*(2*m+1)*(2*m+1)):=by lia
  rw[ec];generalize 2*m+1=c;have l1:(1+4*b*c)*(1+4*b*c)=1+2*(4*b*c)+4*b*c*(4*b*c):=by generalize 4*b*c=y;rw[Nat.add_mul,Eu,x9,Eu,x9,Nat.mul_one];lia
  have l2:4*b*c*(4*b*c)=2*(4*b)*(2*(b*c*c)):=by
   have:4*b*c*(4*b*c)=16*(b*c*(b*c)):=by rw[jw 4 b c,Mb]
   have:b*(b*c*c)=b*c*(b*c):=by rw[jw b c c,jw,<-jw c b c,DU c b,jw b c c]
   have e6:2*(4*b)*(2*(b*c*c))=16*(b*(b*c*c)):=by rw[<-jw 2 4 b,Mb,DU (2*4) 2]
   lia
  rw[l1,l2,Eu];have:2*(4*b*c)=2*(4*b)*c:=by rw[jw 2]
  lia
theorem Jg:∀(k u v:Nat),u%4=1->v%4=1->∃n,n<2^k/\(5^n*u)%2^(k+2)=v%2^(k+2)
 |0,u,v,hu,hv=>⟨0,by decide,by simp[hu,hv]⟩
 |k+1,u,v,hu,hv=>by
  obtain⟨n,hn,e⟩:=Jg k u v hu hv;obtain⟨m,em⟩:=KL k;have hx:(5^n*u)%2=1:=by
   have:5^n%2=1:=by rw[Nat.pow_mod];simp
   rw[x_,this];lia
  have e2:2^(k+1+2)=2^(k+2)*2:=lK ..;have e3:2^(k+1)=2^k*2:=lK ..;generalize hX:5^n*u=x at e hx;have hp:0<2^(k+2):=Nv _;by_cases c:x%2^(k+1+2)=v%2^(k+1+2)
  .exact⟨n,by lia,by rw[hX];exact c⟩
  .refine⟨2^k+n,by lia,?_⟩;rw[uG,jw,hX,em,e2];rw[e2]at c;generalize 2^(k+2)=P at*;have ex:x%(P*2)=x%P+P*(x/P%2):=Ev;have ev:v%(P*2)=v%P+P*(v/P%2):=Ev;have e4:(1+P*(2*m+1))*x=x+P*((2*m+1)*x):=by rw[Nat.add_mul,x9,jw]
   rw[e4];have e5:(x+P*((2*m+1)*x))%(P*2)=x%P+P*((x/P+(2*m+1)*x)%2):=by rw[Ev,Ls,Nat.add_mul_div_left _ _ hp]
   rw[e5,ev,e];congr 2;have o:((2*m+1)*x)%2=1:=by rw[x_];simp[hx]
   have d:x/P%2≠v/P%2:=λz=>c (by rw[ex,ev,e,z])
   lia
def fN(M:Nat):Nat->Nat->Nat
 |0,i=>i
 |n+1,i=>fN M n ((i*5+1)%M)
theorem JH{k:Nat}:∀(n i:Nat),i<2^k->fN (2^k) n i<2^k/\(4*fN (2^k) n i+1)%2^(k+2)=(5^n*(4*i+1))%2^(k+2)
 |0,i,h=>⟨h,by simp[fN]⟩
 |n+1,i,h=>by
  have hp:0<2^k:=Nv _;obtain⟨h1,h2⟩:=JH n ((i*5+1)%2^k) (nH _ hp);refine⟨h1,?_⟩;show(4*fN (2^k) n ((i*5+1)%2^k)+1)%2^(k+2)=_;rw[h2,show 5^(n+1)=5^n*5 from lK ..,jw (5^n)];rw[x_,x_ (5^n) (5*(4*i+1))];congr 2;have e:2^(k+2)=4*2^k:=by rw[uG];lia
  rw[e];have e2:5*(4*i+1)=4*(i*5+1)+1:=by lia
  rw[e2];generalize i*5+1=y;generalize 2^k=P at*;have:=Nat.mod_add_div y P;have e3:4*y+1=4*(y%P)+1+4*P*(y/P):=by rw[jw];lia
  rw[e3,Ls]
theorem He{k i j:Nat}(hi:i<2^k)(hj:j<2^k):∃n,n<2^k/\fN (2^k) n i=j:=by
 obtain⟨n,hn,e⟩:=Jg k (4*i+1) (4*j+1) (by lia) (by lia);obtain⟨h1,h2⟩:=JH n i hi;refine⟨n,hn,?_⟩;rw[<-h2]at e;have e4:2^(k+2)=4*2^k:=by rw[uG];lia
 rw[e4,Nc (by lia),Nc (by lia)]at e
 lia
def jk(mask:Nat)(p:iL):iL:=if p.more>0 then{p with j:=p.j+1,more:=p.more-1}else{p with j:=(fR mask p.i p.perturb).1,more:=fI mask (fR mask p.i p.perturb).1-(fR mask p.i p.perturb).1,i:=(fR mask p.i p.perturb).1,perturb:=(fR mask p.i p.perturb).2}
theorem JQ(t:cb)(p:iL):t.advance p=jk t.mask p:=rfl
def it(mask:Nat):Nat->iL->iL
 |0,p=>p
 |n+1,p=>it mask n (jk mask p)
theorem lZ(mask:Nat):∀(a b:Nat)(p:iL),it mask (a+b) p=it mask b (it mask a p)
 |0,b,p=>by rw[uu];rfl
 |a+1,b,p=>by rw[OX];exact lZ mask a b _
theorem zI(mask n:Nat)(p:iL):it mask (n+1) p=jk mask (it mask n p):=lZ mask n 1 p
def head(mask i Y':Nat)(d:Option Nat):iL:={j:=i,more:=fI mask i-i,i:=i,perturb:=Y',dummy:=d}
theorem sK{mask i Y':Nat}{d:Option Nat}:∀m,m<=fI mask i-i->it mask m (head mask i Y' d)={j:=i+m,more:=fI mask i-i-m,i:=i,perturb:=Y',dummy:=d}
 |0,_=>rfl
 |m+1,h=>by
  rw[zI,sK m (by lia)];unfold jk;rw[if_pos (show fI mask i-i-m>0 by lia)];simp only[Probe.mk.injEq,and_true]
  lia
theorem yQ{mask i Y':Nat}{d:Option Nat}:it mask (fI mask i-i+1) (head mask i Y' d)=head mask (fR mask i Y').1 (fR mask i Y').2 d:=by rw[zI,sK _ (aT _)];unfold jk;rw[if_neg (show¬fI mask i-i-(fI mask i-i)>0 by lia)];rfl
theorem Ut(mask i:Nat):fI mask i-i<=9:=by unfold fI;split<;>lia
def fM(mask:Nat):Nat->Nat×Nat->Nat×Nat
 |0,x=>x
 |n+1,x=>fM mask n (fR mask x.1 x.2)
theorem Jz{mask:Nat}{d:Option Nat}:∀(n:Nat)(x:Nat×Nat),∃m,m<=10*n/\it mask m (head mask x.1 x.2 d)=head mask (fM mask n x).1 (fM mask n x).2 d
 |0,x=>⟨0,by lia,rfl⟩
 |n+1,x=>by obtain⟨m,h1,h2⟩:=Jz (d:=d) n (fR mask x.1 x.2);have:=Ut mask x.1;refine⟨fI mask x.1-x.1+1+m,by lia,?_⟩;rw[lZ,yQ,h2];rfl
theorem zL(mask:Nat):∀(a b:Nat)(x:Nat×Nat),fM mask (a+b) x=fM mask b (fM mask a x)
 |0,b,x=>by rw[uu];rfl
 |a+1,b,x=>by rw[OX];exact zL mask a b _
theorem y9{mask:Nat}:∀(n i:Nat),fM mask n (i,0)=(fN (mask+1) n i,0)
 |0,i=>rfl
 |n+1,i=>by
  show fM mask n (fR mask i 0)=_;have e:fR mask i 0=((i*5+1)%(mask+1),0):=by unfold fR;simp
  rw[e,y9 n];rfl
theorem y_{mask:Nat}:∀(n:Nat)(x:Nat×Nat),(fM mask n x).2=x.2/32^n
 |0,x=>by simp[fM]
 |n+1,x=>by show(fM mask n (fR mask x.1 x.2)).2=_;rw[y_ n];show x.2/32/32^n=_;rw[Nat.div_div_eq_div_mul,lK,DU]
theorem Af{mask:Nat}:∀(n:Nat)(x:Nat×Nat),x.1<mask+1->(fM mask n x).1<mask+1
 |0,x,h=>h
 |n+1,x,h=>Af n _ (nH _ (rJ _))
theorem WL{mask k i Y' j:Nat}{d:Option Nat}(hk:mask+1=2^k)(hi:i<mask+1)(hp:Y'<2^64)(hj:j<=mask):∃n,n<=10*(mask+13)/\(it mask n (head mask i Y' d)).j=j:=by
 have h1:=Af (mask:=mask) 13 (i,Y') hi;have h2:(fM mask 13 (i,Y')).2=0:=by rw[y_];exact Ng (gh hp (by decide))
 rw[hk]at h1;obtain⟨n,hn,e⟩:=He (k:=k) h1 (show j<2^k by lia);have e2:fM mask (13+n) (i,Y')=(j,0):=by
  rw[zL];have:fM mask 13 (i,Y')=((fM mask 13 (i,Y')).1,0):=by rw[<-h2]
  rw[this,y9,hk,e]
 obtain⟨m,hm,em⟩:=Jz (mask:=mask) (d:=d) (13+n) (i,Y');refine⟨m,by lia,?_⟩;rw[em,e2];rfl
theorem Qg(t:cb)(h:Int):t.probeStart h=head t.mask (cY h%(t.mask+1)) (cY h) none:=rfl
theorem IP(h:Int):cY h<2^64:=by
 unfold cY;have h1:=Int.emod_lt_of_pos h (show(0:Int)<2^64 by decide);have h2:=Int.emod_nonneg h (show(2:Int)^64≠0 by decide)
 lia
theorem PL{t:cb}{k j:Nat}(h:Int)(hk:t.mask+1=2^k)(hj:j<=t.mask):∃n,n<=10*(t.mask+13)/\(it t.mask n (t.probeStart h)).j=j:=by rw[Qg];exact WL hk (nH _ (rJ _)) (IP h) hj
abbrev ji(xs:Array Nat):Prop:=∀a b:Nat,(ab:a<b)->(h:b<xs.size)->xs[a]'(DV ab h)<xs[b]
theorem zg{xs:Array Nat}(hr:ji xs)(j:Nat):∀(f lo hi:Nat),lo<=hi->hi<=xs.size->hi-lo<=f->(∀a,a<lo->(h:a<xs.size)->xs[a]<j)->(∀a,hi<=a->(h:a<xs.size)->j<=xs[a])->
  zk xs j f lo hi<=xs.size/\(∀a,a<zk xs j f lo hi->(h:a<xs.size)->xs[a]<j)/\(∀a,zk xs j f lo hi<=a->(h:a<xs.size)->j<=xs[a])
 |0,lo,hi,h1,h2,h3,h4,h5=>by
  have e:lo=hi:=by lia
  subst e;exact⟨h2,h4,h5⟩
 |f+1,lo,hi,h1,h2,h3,h4,h5=>by
  unfold zk;by_cases c:lo<hi
  .rw[if_pos c];have hm:(lo+hi)/2<xs.size:=by lia
   have eg:xs.getD ((lo+hi)/2) j=xs[(lo+hi)/2]:=by simp[E8,hm]
   by_cases d:xs[(lo+hi)/2]<j
   .simp only[eg,d,if_true];refine zg hr j f _ _ (by lia) h2 (by lia) (λa ha h=>?_) h5;by_cases z:a=(lo+hi)/2
    .subst z;exact d
    .exact DV (hr a _ (by lia) hm) d
   .simp only[eg,d,if_false];refine zg hr j f _ _ (by lia) (by lia) (by lia) h4 λa ha h=>?_;by_cases z:a=(lo+hi)/2
    .subst z;lia
    .have:=hr _ a (show(lo+hi)/2<a by lia) h
     lia
  .rw[if_neg c];have e:lo=hi:=by lia
   subst e;exact⟨h2,h4,h5⟩
theorem sf{xs:Array Nat}(hr:ji xs)(j:Nat):fJ xs j<=xs.size/\(∀a,a<fJ xs j->(h:a<xs.size)->xs[a]<j)/\(∀a,fJ xs j<=a->(h:a<xs.size)->j<=xs[a]):=
 zg hr j xs.size 0 xs.size (dJ _) (aT _) (by lia) (λa h=>by lia) (λa h1 h2=>by lia)
theorem sg{xs:Array Nat}(hr:ji xs){i:Nat}(h:i<xs.size):fJ xs xs[i]=i:=by
 obtain⟨h1,h2,h3⟩:=sf hr xs[i];rcases BZ (fJ xs xs[i]) i with c|c|c
 .have:=h3 _ (aT _) (by lia);have:=hr _ _ c h
  lia
 .exact c
 .have:=h2 i c h
  lia
structure ge(t:cb)(hs:Array Int):Prop where
 pw:∃k,t.mask+1=2^k
 rise:ji t.place
 le:∀i,(h:i<t.place.size)->t.place[i]<=t.mask
 sz:t.place.size=hs.size
 nd:t.dummies= #[]
 room:t.place.size<=t.mask
 rch:∀x∈t.place.toList.zip hs.toList,∃n,(it t.mask n (t.probeStart x.2)).j=x.1/\∀l,l<n->(it t.mask l (t.probeStart x.2)).j∈t.place.toList
theorem zM(j:Nat):has #[] j=false:=by simp[has]
theorem Rs{t:cb}{hs:Array Int}(ok:ge t hs){i:Nat}(h:i<t.place.size):t.slot t.place[i]= .live i:=by unfold slot;simp only[sg ok.rise h];rw[if_pos (by simp[h])]
theorem EC{t:cb}{hs:Array Int}(ok:ge t hs){j:Nat}(h:j∉t.place.toList):t.slot j= .empty:=by
 unfold slot;rw[if_neg,if_neg]
 .rw[ok.nd,zM];simp
 .intro z;have z:t.place[fJ t.place j]? =some j:=by simpa using z
  exact h (lx.mpr (L8 z))
theorem Qj{t:cb}{hs:Array Int}(ok:ge t hs)(j:Nat):(∃i,∃h:i<t.place.size,t.place[i]=j/\t.slot j= .live i)\/(j∉t.place.toList/\t.slot j= .empty):=by
 by_cases h:j∈t.place.toList
 .obtain⟨i,hi,e⟩:=kE h;have Zd:i<t.place.size:=by simpa using hi
  have e':t.place[i]=j:=by simpa using e
  exact .inl ⟨i,Zd,e',by rw[<-e'];exact Rs ok Zd⟩
 .exact .inr ⟨h,EC ok h⟩
theorem Eb:∀(n:Nat)(l:List Nat),(∀j,j<n->j∈l)->n<=l.length
 |0,l,_=>dJ _
 |n+1,l,h=>by
  have:=Eb n (l.erase n) λj hj=>(Bn (by lia)).mpr (h j (by lia));have hn:=h n (by lia);rw[oU hn]at this;have:=tO hn
  lia
theorem RW{t:cb}{hs:Array Int}(ok:ge t hs):∃j,j<=t.mask/\j∉t.place.toList:=by
 refine tK λc=>?_;have:=Eb (t.mask+1) t.place.toList λj hj=>tK λz=>c ⟨j,by lia,z⟩;have h2:=ok.room;rw[bz]at this
 lia
theorem Qi{t:cb}{j:Nat}(h:t.slot j= .dummy):t.dummies≠#[]:=λz=>by
 unfold slot at h;simp only[z,zM]at h;split at h
 .cases h
 .simp at h
structure mG(t:cb)(hs:Array Int):Prop where
 pw:∃k,t.mask+1=2^k
 rise:ji t.place
 rd:ji t.dummies
 sz:t.place.size=hs.size
 free:∃j,j<=t.mask/\t.slot j= .empty
 rch:∀x∈t.place.toList.zip hs.toList,∃n,(it t.mask n (t.probeStart x.2)).j=x.1/\∀l,l<n->t.slot (it t.mask l (t.probeStart x.2)).j≠ .empty
theorem ge.used{t:cb}{hs:Array Int}(ok:ge t hs){j:Nat}:t.slot j≠ .empty↔j∈t.place.toList:=by
 rcases Qj ok j with⟨i,h,e1,e2⟩|⟨e1,e2⟩
 .rw[e2,<-e1];simp
 .rw[e2];exact⟨λz=>absurd rfl z,λz=>absurd z e1⟩
theorem ge.f{t:cb}{hs:Array Int}(ok:ge t hs):mG t hs:=by obtain⟨j,h1,h2⟩:=RW ok;refine⟨ok.pw,ok.rise,by rw[ok.nd];intro i j h1 h2;simp at h2,ok.sz,⟨j,h1,EC ok h2⟩,λx hx=>?_⟩;obtain⟨n,e1,e2⟩:=ok.rch x hx;exact⟨n,e1,λl hl=>ok.used.mpr (e2 l hl)⟩
theorem Qh{t:cb}{hs:Array Int}(ok:mG t hs){i:Nat}(h:i<t.place.size):t.slot t.place[i]= .live i:=by unfold slot;simp only[sg ok.rise h];rw[if_pos (by simp[h])]
theorem EB{t:cb}{j i:Nat}(h:t.slot j= .live i):∃h:i<t.place.size,t.place[i]=j:=by
 unfold slot at h;dsimp only at h;split at h
 .rename_i z;cases h;have z:t.place[fJ t.place j]? =some j:=by simpa using z
  exact kz.mp z
 .split at h<;>cases h
theorem xW{t:cb}{hs:Array Int}(ok:mG t hs)(h:Int):∃n,n<=10*(t.mask+13)/\t.slot (it t.mask n (t.probeStart h)).j= .empty/\∀l,l<n->t.slot (it t.mask l (t.probeStart h)).j≠ .empty:=by
 obtain⟨j,hj,hn⟩:=ok.free;obtain⟨k,hk⟩:=ok.pw;obtain⟨n,h1,h2⟩:=PL h hk hj;have key:∀m:Nat,m<=10*(t.mask+13)->t.slot (it t.mask m (t.probeStart h)).j= .empty->∃n,n<=10*(t.mask+13)/\t.slot (it t.mask n (t.probeStart h)).j= .empty/\∀l,l<n->t.slot (it t.mask l (t.probeStart h)).j≠ .empty:=by
  intro m;induction m using Nw with
  |ind m ih=>
   intro hm hx;by_cases c:∃l,l<m/\t.slot (it t.mask l (t.probeStart h)).j= .empty
   .obtain⟨l,h1,h2⟩:=c;exact ih l h1 (by lia) h2
   .exact⟨m,hm,hx,λl hl z=>c ⟨l,hl,z⟩⟩
 exact key n h1 (by rw[h2];exact hn)
def wd(p:iL)(d:Option Nat):iL:={p with dummy:=d}
theorem Ac(m:Nat)(p:iL)(d:Option Nat):jk m (wd p d)=wd (jk m p) d:=by unfold jk;show(if p.more>0 then _ else _)=_;split<;>rfl
def Meets(t:cb)(gt:Nat->Int)(h:Int)(n f:Nat)(p:iL)(d:Option Nat):Prop:=
  ∃d',(t.dummies= #[]->d'=d)/\((lQ t gt h f (wd p d)=some (.empty (it t.mask n p).j d')/\∀l,l<n->∀i,t.slot (it t.mask l p).j= .live i->gt i≠h)\/
  ∃m i,m<n/\t.slot (it t.mask m p).j= .live i/\gt i=h/\lQ t gt h f (wd p d)=some (.candidate (it t.mask m p).j i (wd (it t.mask (m+1) p) d'))/\∀l,l<m->∀i,t.slot (it t.mask l p).j= .live i->gt i≠h)
theorem zb{t:cb}(gt:Nat->Int)(h:Int):∀(n f:Nat)(p:iL)(d:Option Nat),n<f->t.slot (it t.mask n p).j= .empty->(∀l,l<n->t.slot (it t.mask l p).j≠ .empty)->Meets t gt h n f p d
 |0,f+1,p,d,_,h1,_=>by refine⟨d,λ_=>rfl,.inl ⟨?_,λl hl=>by lia⟩⟩;have h1:t.slot (wd p d).j= .empty:=h1;unfold lQ;rw[h1];rfl
 |n+1,f+1,p,d,hf,h1,h2=>by
  have Ι:t.slot (wd p d).j≠ .empty:=h2 0 (by lia);have ih:=λd=>zb gt h n f (jk t.mask p) d (by lia) h1 λl hl=>h2 (l+1) (by lia);have more:∀d2,(t.dummies= #[]->d2=d)->lQ t gt h (f+1) (wd p d)=lQ t gt h f (wd (jk t.mask p) d2)->(∀i,t.slot p.j= .live i->gt i≠h)->Meets t gt h (n+1) (f+1) p d:=λd2 e0 eg z=>by
   have z0:∀{m:Nat},(∀l,l<m->∀i,t.slot (it t.mask l (jk t.mask p)).j= .live i->gt i≠h)->∀l,l<m+1->∀i,t.slot (it t.mask l p).j= .live i->gt i≠h:=by
    intro m y l hl i' Zd;cases l with
    |zero=>exact z i' Zd
    |succ l=>exact y l (by lia) i' Zd
   obtain⟨d',e1,e2⟩:=ih d2;refine⟨d',λy=>(e1 y).trans (e0 y),?_⟩;rw[eg];rcases e2 with⟨g1,g2⟩|⟨m,i',m1,m2,m3,m4,m5⟩
   .exact .inl ⟨g1,z0 g2⟩
   .exact .inr ⟨m+1,i',by lia,m2,m3,m4,z0 m5⟩
  cases e:t.slot (wd p d).j with
  |empty=>exact absurd e Ι
  |dummy=>
   refine more (some p.j) (λy=>absurd y (Qi e)) ?_ λi hi=>by have e:t.slot p.j= .dummy:=e;rw[e]at hi;cases hi
   rw[lQ,e,<-Ac];rfl
  |live i=>
   have eg:lQ t gt h (f+1) (wd p d)=if(gt i==h)=true then some (.candidate p.j i (t.advance (wd p d)))else lQ t gt h f (t.advance (wd p d)):=by rw[lQ,e];rfl
   have e:t.slot p.j= .live i:=e;by_cases c:gt i=h
   .refine⟨d,λ_=>rfl,.inr ⟨0,i,by lia,e,c,?_,λl hl=>by lia⟩⟩;rw[eg,if_pos (by simpa using c),JQ,Ac];rfl
   .refine more d (λ_=>rfl) (by rw[eg,if_neg (by simpa using c),JQ,Ac]) λi' Zd=>by rw[e]at Zd;cases Zd;exact c
theorem nS{xs:Array Nat}:ji xs↔xs.toList.Pairwise (·<·):=by
 rw[Lu];constructor
 .intro h i j hi hj Κ;have:=h i j Κ (by simpa using hj);simpa using this
 .intro h a b ab hb;have:=h a b (by simp;lia) (by simpa using hb) ab;simpa using this
theorem TC{α β:Type}(p:Nat)(x:α)(y:β)(a:List α)(b:List β)(e:a.length=b.length):(a.take p++x::a.drop p).zip (b.take p++y::b.drop p)=(a.zip b).take p++(x,y)::(a.zip b).drop p:=by rw[List.zip_append (by rw[cO,cO,e]),wQ];have h1:(a.zip b).take p=(a.take p).zip (b.take p):=List.take_zipWith ..;have h2:(a.zip b).drop p=(a.drop p).zip (b.drop p):=List.drop_zipWith ..;rw[h1,h2]
theorem Jn{t:cb}{hs:Array Int}(ok:ge t hs){h:Int}{n:Nat}(room:t.place.size+1<=t.mask)(h1:(it t.mask n (t.probeStart h)).j∉t.place.toList)(Y4:(it t.mask n (t.probeStart h)).j<=t.mask)(h2:∀l,l<n->(it t.mask l (t.probeStart h)).j∈t.place.toList):
  ge (t.put (it t.mask n (t.probeStart h)).j).1 (cy hs (t.put (it t.mask n (t.probeStart h)).j).2 h)/\(t.put (it t.mask n (t.probeStart h)).j).2<=hs.size:=by
 generalize hj:(it t.mask n (t.probeStart h)).j=j at h1 Y4;obtain⟨b1,b2,b3⟩:=sf ok.rise j;have e1:(t.put j).1={t with place:=cy t.place (fJ t.place j) j,dummies:= #[]}:=by unfold put;rw[ok.nd,zM];rfl
 have e2:(t.put j).2=fJ t.place j:=rfl;rw[e1,e2];generalize hp:fJ t.place j=p at b1 b2 b3;have YV:=ok.sz;have el:t.place.toList.length=hs.toList.length:=by rw[bz,bz];exact YV
 have tl:=oT t.place p j;have th:=oT hs p h;have mem:∀x,x∈(cy t.place p j).toList↔x=j\/x∈t.place.toList:=λx=>by
  rw[tl,bT,aV]
  conv=>rhs;rw[<-kD p t.place.toList,bT]
  constructor
  .rintro(z|z|z)
   .exact .inr (.inl z)
   .exact .inl z
   .exact .inr (.inr z)
  .rintro(z|z|z)
   .exact .inr (.inl z)
   .exact .inl z
   .exact .inr (.inr z)
 have agj:(cy t.place p j).size=t.place.size+1:=by
  rw[<-bz,tl,bG,cC,cO,gH,bz]
  lia
 have ail:(cy hs p h).size=hs.size+1:=by
  rw[<-bz,th,bG,cC,cO,gH,bz]
  lia
 refine⟨⟨ok.pw,?_,λi hi=>?_,?_,rfl,?_,λx hx=>?_⟩,by lia⟩
 .rw[nS];show(cy t.place p j).toList.Pairwise (·<·);have hr:=nS.mp ok.rise;rw[tl,Me];have d3:∀x∈t.place.toList.drop p,j<x:=λx hx=>by
   obtain⟨i,hi,e⟩:=kE hx;rw[MM]at e;rw[gH,bz]at hi;have:=b3 (p+i) (by lia) (by lia);rw[tU]at e;rw[e]at this;have ne:x≠j:=λz=>h1 (z▸tT hx)
   lia
  have d2:∀x∈t.place.toList.take p,x<j:=λx hx=>by
   obtain⟨i,hi,e⟩:=kE hx;rw[ML,tU]at e;rw[cO,bz]at hi;have:=b2 i (by lia) (by lia)
   lia
  refine⟨hr.sublist (B0 _ _),qQ.mpr ⟨d3,hr.sublist (MO _ _)⟩,λa ha b hb=>?_⟩;rcases aV.mp hb with rfl|hb
  .exact d2 a ha
  .have:=d2 a ha;have:=d3 b hb
   lia
 .have:(cy t.place p j)[i]∈(cy t.place p j).toList:=lx.mpr (w6 _);show(cy t.place p j)[i]<=t.mask;rcases(mem _).mp this with z|z
  .rw[z];exact Y4
  .obtain⟨i',Zd,e⟩:=kE z;rw[tU]at e;rw[<-e];exact ok.le i' _
 .show(cy t.place p j).size=_;rw[agj,ail,YV]
 .show(cy t.place p j).size<=t.mask;rw[agj];exact room
 .show∃n,(it t.mask n (t.probeStart x.2)).j=x.1/\∀l,l<n->(it t.mask l (t.probeStart x.2)).j∈(cy t.place p j).toList;have hx:x∈(cy t.place p j).toList.zip (cy hs p h).toList:=hx;rw[tl,th,TC p j h _ _ el]at hx;have hx:x=(j,h)\/x∈t.place.toList.zip hs.toList:=by
   rcases bT.mp hx with z|z
   .exact .inr (mK z)
   .rcases aV.mp z with z|z
    .exact .inl z
    .exact .inr (tT z)
  rcases hx with rfl|hx
  .exact⟨n,hj,λl hl=>(mem _).mpr (.inr (h2 l hl))⟩
  .obtain⟨m,m1,m2⟩:=ok.rch x hx;exact⟨m,m1,λl hl=>(mem _).mpr (.inr (m2 l hl))⟩
theorem Jw:∀(k:Nat)(l:List Nat),l.Nodup->(∀n∈l,n<k)->l.length<=k
 |0,l,_,h=>by
  cases l with
  |nil=>exact aT _
  |cons a l=>exact absurd (h a bA) (xl _)
 |k+1,l,nd,h=>by
  have ih:=Jw k (l.erase k) (nd.erase k) λn hn=>by
   have h1:=h n (LZ hn);have h2:n≠k:=λe=>by rw[e]at hn;exact absurd hn (by rw[nd.mem_erase_iff];simp)
   lia
  by_cases hk:k∈l
  .rw[oU hk]at ih
   lia
  .rw[L6 hk]at ih
   lia
theorem AJ{owner:Array (Option Nat)}{j:Nat}:(owner.getD j (some 0)).isNone=true↔owner[j]? =some none:=by
 unfold E8;by_cases h:j<owner.size
 .simp[h,dS h]
 .simp[h,tP (Nf h)]
theorem AW{owner:Array (Option Nat)}{j:Nat}(h:j<owner.size)(hn:owner[j]?≠some none):∃k,owner[j]? =some (some k):=by
 rw[dS h]at hn ⊢;cases e:owner[j]with
 |none=>rw[e]at hn;exact absurd rfl hn
 |some k=>exact⟨k,rfl⟩
theorem zx(mask i:Nat)(h:i<=mask):i<=fI mask i/\fI mask i<=mask:=by unfold fI;split<;>lia
theorem Iv{mask:Nat}{owner:Array (Option Nat)}(YV:owner.size=mask+1):∀(f i Y' N:Nat),N<f->i<=mask->owner[(fM mask N (i,Y')).1]? =some none->
  ∃j n,ul mask owner f i Y'=some j/\owner[j]? =some none/\(it mask n (head mask i Y' none)).j=j/\∀l,l<n->∃k,owner[(it mask l (head mask i Y' none)).j]? =some (some k)
 |f+1,i,Y',N,hN,hi,he=>by
  obtain⟨r1,r2⟩:=zx mask i hi;unfold ul;cases e:(cI (fI mask i+1-i)).find? λk=>(owner.getD (i+k) (some 0)).isNone with
  |some k=>obtain⟨k1,k2,k3⟩:=List.find?_range_eq_some.mp e;have k2:=jv.mp k2;refine⟨i+k,k,rfl,AJ.mp k1,by rw[sK k (by lia)],λl hl=>?_⟩;rw[sK l (by lia)];have:=k3 l hl;exact AW (show i+l<owner.size by lia) λz=>by rw[AJ.mpr z]at this;cases this
  |none=>
   have k3:=List.find?_range_eq_none.mp e;have own:∀l,l<=fI mask i-i->∃k,owner[(it mask l (head mask i Y' none)).j]? =some (some k):=λl hl=>by rw[sK l hl];have:=k3 l (by lia);exact AW (show i+l<owner.size by lia) λz=>by rw[AJ.mpr z]at this;cases this
   have hN0:N≠0:=λz=>by subst z;obtain⟨k,hk⟩:=own 0 (dJ _);have hk:owner[i]? =some (some k):=hk;have he:owner[i]? =some none:=he;rw[hk]at he;cases he
   obtain⟨M,rfl⟩:∃M,N=M+1:=⟨N-1,by lia⟩;obtain⟨j,n,q1,q2,q3,q4⟩:=Iv YV f (fR mask i Y').1 (fR mask i Y').2 M (by lia) (by
    have:(fR mask i Y').1<mask+1:=nH _ (rJ _)
    lia) he
   refine⟨j,fI mask i-i+1+n,q1,q2,?_,λl hl=>?_⟩
   .rw[lZ,yQ];exact q3
   .by_cases c:l<=fI mask i-i
    .exact own l c
    .obtain⟨m,rfl⟩:∃m,l=fI mask i-i+1+m:=⟨l-(fI mask i-i+1),by lia⟩;rw[lZ,yQ];exact q4 m (by lia)
structure kq(mask:Nat)(hs:List Int)(o:Array (Option Nat))(k:Nat):Prop where
 sz:o.size=mask+1
 own:∀(j i:Nat),o[j]? =some (some i)->i<k
 inj:∀(j j' i:Nat),o[j]? =some (some i)->o[j']? =some (some i)->j=j'
 all:∀i:Nat,i<k->∃j:Nat,o[j]? =some (some i)
 rch:∀(j i:Nat)(h:Int),o[j]? =some (some i)->hs[i]? =some h->∃n,(it mask n (head mask (cY h%(mask+1)) (cY h) none)).j=j/\∀l,l<n->∃i',o[(it mask l (head mask (cY h%(mask+1)) (cY h) none)).j]? =some (some i')
theorem kq.free{mask:Nat}{hs:List Int}{o:Array (Option Nat)}{k:Nat}(L:kq mask hs o k)(hk:k<=mask):∃j,j<=mask/\o[j]? =some none:=by
 refine tK λc=>?_;have all:∀j,j<=mask->∃i,o[j]? =some (some i):=λj hj=>AW (by rw[L.sz];lia) λz=>c ⟨j,hj,z⟩;let g:Nat->Nat:=λj=>match o[j]? with
  |some (some i)=>i
  |_=>0
 have hg:∀j,j<=mask->o[j]? =some (some (g j)):=λj hj=>by
  obtain⟨i,e⟩:=all j hj;have:g j=i:=by show(match o[j]? with|some (some i)=>i|_=>0)=i;rw[e]
  rw[this];exact e
 have:=Jw k ((cI (mask+1)).map g) (by
  rw[i5,ff];refine(Cf (n:=mask+1)).imp_of_mem λ{a b}ha hb ne z=>ne ?_;have ha:=jv.mp ha;have hb:=jv.mp hb;exact L.inj a b (g a) (hg a (by lia)) (by rw[z];exact hg b (by lia))) λn hn=>by obtain⟨j,hj,rfl⟩:=aK.mp hn;have hj:=jv.mp hj;exact L.own j _ (hg j (by lia))
 rw[aE,kI]at this
 lia
theorem zu{o:Array (Option Nat)}{j j':Nat}{v:Option Nat}(h:j<o.size):(o.setIfInBounds j v)[j']? =if j'=j then some v else o[j']? :=by
 rw[Array.getElem?_setIfInBounds];by_cases c:j=j'
 .subst c;simp[h]
 .rw[if_neg c,if_neg (λz=>c z.symm)]
theorem kq.more{mask:Nat}{hs:List Int}{o:Array (Option Nat)}{k kk:Nat}{h:Int}(pw:mask+1=2^kk)(L:kq mask hs o k)(hk:k<=mask)(hh:hs[k]? =some h):∃j,ul mask o (kT mask) (cY h%(mask+1)) (cY h)=some j/\kq mask hs (o.setIfInBounds j (some k)) (k+1):=by
 obtain⟨j0,hj0,he0⟩:=L.free hk;have hi:cY h%(mask+1)<mask+1:=nH _ (rJ _);have hN:∃N,N<=mask+13/\(fM mask N (cY h%(mask+1),cY h)).1=j0:=by
  have h1:=Af (mask:=mask) 13 (cY h%(mask+1),cY h) hi;have h2:(fM mask 13 (cY h%(mask+1),cY h)).2=0:=by rw[y_];exact Ng (gh (IP h) (by decide))
  rw[pw]at h1;obtain⟨n,hn,e⟩:=He (k:=kk) h1 (show j0<2^kk by lia);refine⟨13+n,by lia,?_⟩;rw[zL];have:fM mask 13 (cY h%(mask+1),cY h)=((fM mask 13 (cY h%(mask+1),cY h)).1,0):=by rw[<-h2]
  rw[this,y9];rw[pw];exact e
 obtain⟨N,hN,eN⟩:=hN;obtain⟨j,n,q1,q2,q3,q4⟩:=Iv L.sz (kT mask) (cY h%(mask+1)) (cY h) N (by unfold kT;lia) (by lia) (by rw[eN];exact he0);have hj:j<o.size:=(kz.mp q2).1;have keep:∀{j' i:Nat},o[j']? =some (some i)->(o.setIfInBounds j (some k))[j']? =some (some i):=λ{j' i}e=>by rw[zu hj,if_neg (λz=>by rw[z,q2]at e;cases e)];exact e
 have back:∀{j' i:Nat},(o.setIfInBounds j (some k))[j']? =some (some i)->(j'=j/\i=k)\/(j'≠j/\o[j']? =some (some i)):=λ{j' i}e=>by
  rw[zu hj]at e;by_cases z:j'=j
  .rw[if_pos z]at e;cases e;exact .inl ⟨z,rfl⟩
  .rw[if_neg z]at e;exact .inr ⟨z,e⟩
 refine⟨j,q1,by rw[Array.size_setIfInBounds];exact L.sz,λj' i e=>?_,λa b i ea eb=>?_,λi Zd=>?_,λj' i h' e eh=>?_⟩
 .rcases back e with⟨_,z⟩|⟨_,z⟩
  .lia
  .have:=L.own _ _ z;lia
 .rcases back ea with⟨z1,z2⟩|⟨z1,z2⟩<;>rcases back eb with⟨y1,y2⟩|⟨y1,y2⟩
  .rw[z1,y1]
  .have:=L.own _ _ y2;lia
  .have:=L.own _ _ z2;lia
  .exact L.inj a b i z2 y2
 .by_cases z:i=k
  .subst z;exact⟨j,by rw[zu hj,if_pos rfl]⟩
  .obtain⟨j',e⟩:=L.all i (by lia);exact⟨j',keep e⟩
 .rcases back e with⟨z1,z2⟩|⟨z1,z2⟩
  .subst z1 z2;rw[hh]at eh;cases eh;refine⟨n,q3,λl hl=>?_⟩;obtain⟨i',e'⟩:=q4 l hl;exact⟨i',keep e'⟩
  .obtain⟨n',m1,m2⟩:=L.rch j' i h' z2 eh;refine⟨n',m1,λl hl=>?_⟩;obtain⟨i',e'⟩:=m2 l hl;exact⟨i',keep e'⟩
def AH(mask:Nat)(acc:Option (Array (Option Nat)×Nat))(h:Int):Option (Array (Option Nat)×Nat):=do
 let(owner,k) <-acc;let j <-ul mask owner (kT mask) (cY h%(mask+1)) (cY h)
 pure (owner.setIfInBounds j (some k),k+1)
theorem GQ{mask kk:Nat}{hs:List Int}(pw:mask+1=2^kk)(hl:hs.length<=mask):∀(l:List Int)(o:Array (Option Nat))(k:Nat),kq mask hs o k->k<=hs.length->hs.drop k=l->∃o',l.foldl (AH mask) (some (o,k))=some (o',hs.length)/\kq mask hs o' hs.length
 |[],o,k,L,hk,e=>by
  have:hs.length<=k:=by
   have:=congrArg fV e;rw[gH]at this;simp at this
   lia
  have c:k=hs.length:=by lia
  subst c;exact⟨o,rfl,L⟩
 |h::l,o,k,L,_,e=>by
  have hh:hs[k]? =some h:=by
   have:(hs.drop k)[0]? =some h:=by rw[e];rfl
   rw[qR]at this;exact this
  have hk:k<hs.length:=(gE.mp hh).1;obtain⟨j,q1,q2⟩:=L.more pw (by lia) hh;have e':hs.drop (k+1)=l:=by rw[<-rj,e];rfl
  obtain⟨o',r1,r2⟩:=GQ pw hl l _ _ q2 hk e';refine⟨o',?_,r2⟩;rw[o_];have:AH mask (some (o,k)) h=some (o.setIfInBounds j (some k),k+1):=by show(ul mask o (kT mask) (cY h%(mask+1)) (cY h)).bind (λj=>some (o.setIfInBounds j (some k),k+1))=_;rw[q1];rfl
  rw[this];exact r1
theorem PB(mask:Nat)(hs:Array Int):layClean mask hs=(hs.toList.foldl (AH mask) (some (CI (mask+1) none,0))).map (·.1):=by unfold layClean;rw[<-Array.foldl_toList];rfl
theorem RM{mask kk:Nat}{hs:Array Int}(pw:mask+1=2^kk)(hl:hs.size<=mask):∃o,layClean mask hs=some o/\kq mask hs.toList o hs.size:=by
 have L0:kq mask hs.toList (CI (mask+1) none) 0:=by
  have no:∀(j i:Nat),(CI (mask+1) (none:Option Nat))[j]?≠some (some i):=λj i e=>by rw[Array.getElem?_replicate]at e;split at e<;>cases e
  exact⟨by simp,λj i e=>absurd e (no j i),λj j' i e=>absurd e (no j i),λi h=>absurd h (xl _),λj i h e=>absurd e (no j i)⟩
 obtain⟨o,e1,e2⟩:=GQ (hs:=hs.toList) pw (by rw[bz];exact hl) hs.toList _ 0 L0 (dJ _) rfl;rw[bz]at e1 e2;exact⟨o,by rw[PB,e1];rfl,e2⟩
def dD(mask:Nat)(o:Array (Option Nat)):List (Nat×Nat):=(cI (mask+1)).filterMap λj=>(o.getD j none).map (j,·)
theorem getD_none{o:Array (Option Nat)}{j i:Nat}:o.getD j none=some i↔o[j]? =some (some i):=by
 unfold E8;by_cases h:j<o.size
 .simp[h,dS h]
 .simp[h,tP (Nf h)]
theorem SX{mask:Nat}{hs:List Int}{o:Array (Option Nat)}{k:Nat}(L:kq mask hs o k){x:Nat×Nat}:x∈dD mask o↔o[x.1]? =some (some x.2):=by
 unfold dD;rw[mO];constructor
 .rintro⟨j,hj,e⟩;obtain⟨i,e1,rfl⟩:=dU.mp e;exact getD_none.mp e1
 .intro e;have hj:x.1<o.size:=(kz.mp e).1;refine⟨x.1,jv.mpr (by rw[L.sz]at hj;exact hj),?_⟩;rw[getD_none.mpr e];rfl
theorem y6(o:Array (Option Nat)):∀l:List Nat,(l.filterMap λj=>(o.getD j none).map (j,·)).map (·.1)=l.filter λj=>(o.getD j none).isSome
 |[]=>rfl
 |a::l=>by
  rw[mL,js];cases e:o.getD a none with
  |none=>exact y6 o l
  |some i=>exact congrArg (a::·) (y6 o l)
theorem Im{β:Type}{mask kk:Nat}{es:Array (Int×β)}(fi mo:Nat)(led pl:Bool)(pw:mask+1=2^kk)(hl:es.size<=mask):
  ∃t order,laid mask fi mo led pl (es.map (·.1))=some (t,order)/\(order.filterMap (es[·]?)).size=es.size/\(order.filterMap (es[·]?)).toList.Perm es.toList/\ge t ((order.filterMap (es[·]?)).map (·.1))/\t.mask=mask/\t.finger=fi/\t.led=led/\t.moves=mo/\t.plain=pl/\order.toList.Perm (cI es.size):=by
 obtain⟨o,e1,L⟩:=RM (hs:=es.map (·.1)) pw (by rw[fB];exact hl);rw[fB]at L;have ml:∀{x:Nat×Nat},x∈dD mask o↔o[x.1]? =some (some x.2):=SX L;have lt:∀x∈dD mask o,x.2<es.size:=λx hx=>L.own _ _ (ml.mp hx);have pf:((dD mask o).map (·.1)).Pairwise (·<·):=by unfold dD;rw[y6];exact(LO (n:=mask+1)).filter _
 have Z6:((dD mask o).map (·.2)).Nodup:=by
  rw[i5,ff];rw[ff]at pf;exact pf.imp_of_mem λ{a b}ha hb h z=>by
   have:=L.inj a.1 b.1 a.2 (ml.mp ha) (by rw[z];exact ml.mp hb)
   lia
 have pr:((dD mask o).map (·.2)).Perm (cI es.size):=by
  rw[mH Z6 Cf];intro i;rw[jv,aK];constructor
  .rintro⟨x,hx,rfl⟩;exact lt x hx
  .intro h;obtain⟨j,e⟩:=L.all i h;exact⟨(j,i),ml.mpr e,rfl⟩
 have eT:(((dD mask o).map (·.2)).toArray.filterMap (es[·]?)).toList=((dD mask o).map (·.2)).filterMap (es[·]?):=by rw[Array.toList_filterMap]
 have pE:(((dD mask o).map (·.2)).toArray.filterMap (es[·]?)).toList.Perm es.toList:=by rw[eT];refine(pr.filterMap _).trans ?_;rw[filterMap_getElem?_range]
 refine⟨{mask:=mask,place:=((dD mask o).map (·.1)).toArray,dummies:= #[],finger:=fi,led:=led,moves:=mo,plain:=pl},((dD mask o).map (·.2)).toArray,?_,?_,pE,?_,rfl,rfl,rfl,rfl,rfl,pr⟩
 .unfold laid;rw[e1];rfl
 .rw[<-bz,pE.length_eq,bz]
 have esz:(((dD mask o).map (·.2)).toArray.filterMap (es[·]?)).size=es.size:=by rw[<-bz,pE.length_eq,bz]
 have ag4:(dD mask o).length=es.size:=by have:=pr.length_eq;rw[aE,kI]at this;exact this
 have zl:((dD mask o).map (·.1)).zip ((((dD mask o).map (·.2)).toArray.filterMap (es[·]?)).map (·.1)).toList=(dD mask o).map λx=>(x.1,((es[x.2]?).map (·.1)).getD 0):=by
  rw[o7,eT];have:((dD mask o).map (·.2)).filterMap (es[·]?)=(dD mask o).filterMap λx=>es[x.2]? :=by rw[Mz];rfl
  rw[this];have key:∀l:List (Nat×Nat),(∀x∈l,x.2<es.size)->(l.map (·.1)).zip ((l.filterMap λx=>es[x.2]?).map (·.1))=l.map λx=>(x.1,((es[x.2]?).map (·.1)).getD 0):=by
   intro l;induction l with
   |nil=>intro _;rfl
   |cons a l ih=>intro h;have ha:=h a bA;rw[mL,dS ha,bb,bb,wQ,ih λx hx=>h x (bq _ hx),bb,dS ha];rfl
  exact key _ lt
 refine⟨⟨kk,pw⟩,nS.mpr pf,λi hi=>?_,?_,rfl,?_,λx hx=>?_⟩
 .show((dD mask o).map (·.1)).toArray[i]<=mask;have:((dD mask o).map (·.1)).toArray[i]∈(dD mask o).map (·.1):=by rw[List.getElem_toArray];exact t9 _
  obtain⟨x,hx,e⟩:=aK.mp this;have:=(kz.mp (ml.mp hx)).1;rw[L.sz]at this
  lia
 .show((dD mask o).map (·.1)).toArray.size=_;rw[fB,esz,b6,aE,ag4]
 .show((dD mask o).map (·.1)).toArray.size<=mask;rw[b6,aE,ag4];exact hl
 .have hx:x∈((dD mask o).map (·.1)).zip ((((dD mask o).map (·.2)).toArray.filterMap (es[·]?)).map (·.1)).toList:=hx;rw[zl]at hx;obtain⟨y,hy,rfl⟩:=aK.mp hx;have YK:=lt y hy;rw[dS YK];have hh:(es.map (·.1)).toList[y.2]? =some es[y.2].1:=by rw[fw,MA,dS YK];rfl
  obtain⟨n,n1,n2⟩:=L.rch y.1 y.2 _ (ml.mp hy) hh;refine⟨n,n1,λl hl=>?_⟩;obtain⟨i',e'⟩:=n2 l hl;exact aK.mpr ⟨(_,i'),ml.mpr e',rfl⟩
structure KD(prog:ba)(w:aQ)(K:Type)[DecidableEq K]where
 is:aM->K->ac->Prop
 hash:K->Int
 room:bh->Prop
 scan:Bool
 scan_is:∀{h k v},is h k v->v.scannable=scan
 ref:∀{h k v},scan=false->is h k v->∃b,v= .ref b
 st:∀{h h':aM}{k v},is h k v->(∀b o YA m,h.get? b=some o->o.data= .seq YA m->h'.get? b=some o)->is h' k v
 eqB:scan=false->∀{A:bh}{E:ac->ai->Prop}{s:ai}{a b:K}{u v:ac}{Q:Bool->ai->Prop},room A->is s.heap a u->is s.heap b v->Q (decide (a=b)) s->aq (aB prog w) A (PySem.eqBool u v) Q E s
 byV:∀{A:bh}{E:ac->ai->Prop}{s:ai}{k:K}{v:ac}{Q:Bool->ai->Prop},is s.heap k v->Q true s->aq (aB prog w) A (x4 8 v) Q E s
 seen:scan=false->∀{A:bh}{E:ac->ai->Prop}{s:ai}{k:K}{v:ac}{vs:List ac}{Q:Bool->ai->Prop},is s.heap k v->(∀y∈vs,∃k,is s.heap k y)->Q false s->aq (aB prog w) A (BU v vs) Q E s
theorem KD.keep{prog:ba}{w:aQ}{K:Type}[DecidableEq K](Yz:KD prog w K){h h':aM}{k:K}{v:ac}{a:aa}{o:Obj}{es ep t}(hx:Yz.is h k v)(ho:h.get? a=some o)(hd:o.data= .set es ep t)(sb:cW a h h'):Yz.is h' k v:=
 Yz.st hx λb ob YA m e e2=>by
  have:b≠a:=λz=>by rw[z,ho]at e;cases e;rw[hd]at e2;cases e2
  rw[sb.2 b this];exact e
structure ci(h:aM)(a:aa)(es:Array (Int×ac))(ep:Nat)(t:cb):Prop where
 ob:∃o,h.get? a=some o/\o.ExactSet/\o.data= .set es ep t
 ok:ge t (es.map (·.1))
 Ψ:t.place.size*5<t.mask*3
 plain:t.plain=true
 small:t.mask<=8191
section
variable{prog:ba}{w:aQ}{K:Type}[DecidableEq K](Yz:KD prog w K)
def cB(h:aM)(es:Array (Int×ac))(ks:List K):Prop:=es.size=ks.length/\∀(i:Nat)(e:Int×ac)(k:K),es[i]? =some e->ks[i]? =some k->e.1=Yz.hash k/\Yz.is h k e.2
variable{Yz}
variable{A:bh}{E:ac->ai->Prop}{s:ai}{a:aa}{es:Array (Int×ac)}{ep:Nat}{t:cb}{ks:List K}
theorem ge.fits{t:cb}{hs:Array Int}(ok:ge t hs):t.fits hs.size=true:=by unfold Dx nh;rw[ok.nd];simp[ok.sz];have:=ok.room;rw[ok.sz]at this;exact this
theorem ci.fit(S:ci s.heap a es ep t):t.fits es.size=true:=by have:=S.ok.fits;rw[fB]at this;exact this
structure ko(h:aM)(a:aa)(es:Array (Int×ac))(ep:Nat)(t:cb):Prop where
 ob:∃o,h.get? a=some o/\o.ExactSet/\o.data= .set es ep t
 ok:mG t (es.map (·.1))
 fit:t.fits es.size=true
 odd:t.gaveWay=false
 small:t.mask<=8191
theorem ko.state(S:ko s.heap a es ep t){Q:(Array (Int×ac)×Nat×cb)->ai->Prop}(h:Q (es,ep,t) s):aq (aB prog w) A (setState a) Q E s:=by obtain⟨o,h1,h2,h3⟩:=S.ob;exact BQ h1 h3 S.fit h
theorem ci.state(S:ci s.heap a es ep t){Q:(Array (Int×ac)×Nat×cb)->ai->Prop}(h:Q (es,ep,t) s):aq (aB prog w) A (setState a) Q E s:=by obtain⟨o,h1,h2,h3⟩:=S.ob;exact BQ h1 h3 S.fit h
theorem ci.odd(S:ci s.heap a es ep t):t.gaveWay=false:=by
 obtain⟨k,hk⟩:=S.ok.pw;have:=S.Ψ;unfold M6;cases k with
 |zero=>lia
 |succ k=>
  rw[lK]at hk;have:t.mask%2=1:=by lia
  simp[this]
theorem ci.F(S:ci s.heap a es ep t):ko s.heap a es ep t:=⟨S.ob,S.ok.f,S.fit,S.odd,S.small⟩
theorem D7(ZP:Yz.scan=false)(hr:Yz.room A)(S:ko s.heap a es ep t)(L:cB Yz s.heap es ks){x:ac}{k:K}(hx:Yz.is s.heap k x){Μ:Bool}(had:Μ=true->t.dummies= #[]){Q:SetFound->ai->Prop}{N:Nat}
  (hN:t.slot (it t.mask N (t.probeStart (Yz.hash k))).j= .empty)(hl:∀l,l<N->t.slot (it t.mask l (t.probeStart (Yz.hash k))).j≠ .empty)(hb:N<=10*(t.mask+13))
  (h1:k∈ks->∀o,(Μ=false->∃i,o=some i/\ks[i]? =some k)->Q (.there o) s)(h2:k∉ks->∀j b,(t.dummies= #[]->j=(it t.mask N (t.probeStart (Yz.hash k))).j/\b=false)->Q (.free j b) s):
  ∀(d m f:Nat),N=m+d->d<f->(∀l,l<m->∀i,t.slot (it t.mask l (t.probeStart (Yz.hash k))).j= .live i->ks[i]?≠some k)->
   ∀(ac4:Option iL)(dd:Option Nat),(t.dummies= #[]->dd=none)->ac4.getD (t.probeStart (Yz.hash k))=wd (it t.mask m (t.probeStart (Yz.hash k))) dd->aq (aB prog w) A (lG a x (Yz.hash k) Μ f ac4) Q E s:=by
 intro d;induction d using Nw with
 |ind d ih=>
  intro m f hd hf hm ac4 dd hdd ZY;obtain⟨f,rfl⟩:∃g,f=g+1:=⟨f-1,by lia⟩;unfold lG;refine ah (S.state ?_);dsimp only;rw[S.odd];simp only[bO,↓reduceIte];obtain⟨d',Z1,key⟩:=zb (t:=t) (λi=>(es[i]?.map (·.1)).getD 0) (Yz.hash k) d (10*kT t.mask) (it t.mask m (t.probeStart (Yz.hash k))) dd (by unfold kT;lia) (by rw[<-lZ,<-hd];exact hN) λl Z9=>by rw[<-lZ];exact hl _ (by lia)
  have Z1:t.dummies= #[]->d'=none:=λz=>(Z1 z).trans (hdd z);rw[<-ZY]at key;generalize hp:t.probe _ (Yz.hash k) (ac4.getD (t.probeStart (Yz.hash k)))=mt;have hp:Xq t (λi=>(es[i]?.map (·.1)).getD 0) (Yz.hash k) (10*kT t.mask) (ac4.getD (t.probeStart (Yz.hash k)))=mt:=hp;simp only[<-lZ]at key;rcases key with⟨g1,g2⟩|⟨m',i,g1,g2,g3,g4,g5⟩
  .rw[g1]at hp;subst hp;dsimp only;have nk:k∉ks:=λhk=>by
    obtain⟨i,hi⟩:=Bp hk;have Z0:i<ks.length:=(gE.mp hi).1;have ZD:i<es.size:=by rw[L.1];exact Z0
    obtain⟨e1,e2⟩:=L.2 i es[i] k (dS ZD) hi;have YZ:i<t.place.size:=by rw[S.ok.sz,fB];exact ZD
    have hz:(t.place[i],es[i].1)∈t.place.toList.zip (es.map (·.1)).toList:=by refine List.mem_iff_getElem?.mpr ⟨i,?_⟩;rw[Lv];exact⟨by rw[fw,dS YZ],by rw[fw,MA,dS ZD];rfl⟩
    obtain⟨n,n1,n2⟩:=S.ok.rch _ hz;rw[e1]at n1 n2;have ZB:t.slot (it t.mask n (t.probeStart (Yz.hash k))).j= .live i:=by rw[n1];exact Qh S.ok YZ
    have hnN:n<N:=by
     rcases BZ n N with c|c|c
     .exact c
     .subst c;rw[hN]at ZB;cases ZB
     .exact absurd hN (n2 N c)
    by_cases c:n<m
    .exact hm n c i ZB hi
    .refine g2 (n-m) (by lia) i (by rw[show m+(n-m)=n by lia];exact ZB) ?_;rw[dS ZD];exact e1
   have ee:(it t.mask (m+d) (t.probeStart (Yz.hash k))).j=(it t.mask N (t.probeStart (Yz.hash k))).j:=by rw[hd]
   cases d' with
   |none=>exact aw (h2 nk _ _ λ_=>⟨ee,rfl⟩)
   |some j=>
    have nad:Μ=false:=by
     cases Μ with
     |false=>rfl
     |true=>exact absurd (Z1 (had rfl)) (by simp)
    subst nad;simp only[lF,bO,↓reduceIte];exact aw (h2 nk _ _ λz=>absurd (Z1 z) (by simp))
  .rw[g4]at hp;subst hp;dsimp only;obtain⟨YZ,_⟩:=EB g2;have ZD:i<es.size:=by have:=S.ok.sz;rw[fB]at this;lia
   have Z0:i<ks.length:=by rw[<-L.1];exact ZD
   obtain⟨e1,e2⟩:=L.2 i es[i] ks[i] (dS ZD) (cR Z0);have ZS:∀y∈((es.filter (·.1==Yz.hash k)).toList.map (·.2)),∃k,Yz.is s.heap k y:=λy hy=>by
    obtain⟨e,he,rfl⟩:=aK.mp hy;have he:=(Array.mem_filter.mp (lx.mp he)).1;obtain⟨q,hq,eq⟩:=Mi he;have hq':q<ks.length:=by rw[<-L.1];exact hq
    exact⟨_,(L.2 q e ks[q] (by rw[dS hq,eq]) (cR hq')).2⟩
   have Τ:es[i]? =some (es[i].1,es[i].2):=dS ZD;have next:¬ks[i]=k->aq (aB prog w) A (lG a x (Yz.hash k) Μ f (some (wd (it t.mask (m+(m'+1)) (t.probeStart (Yz.hash k))) d'))) Q E s:=λY0=>by
    refine ih (d-(m'+1)) (by lia) (m+(m'+1)) f (by lia) (by lia) (λl Z9 i' Zd hk'=>?_) _ d' Z1 rfl;by_cases c:l<m
    .exact hm l c i' Zd hk'
    .by_cases c2:l=m+m'
     .subst c2;rw[g2]at Zd;cases Zd;rw[cR Z0]at hk';exact Y0 (gk hk')
     .have acF:i'<es.size:=by
       obtain⟨h',_⟩:=EB Zd;have:=S.ok.sz;rw[fB]at this
       lia
      refine g5 (l-m) (by lia) i' (by rw[show m+(l-m)=l by lia];exact Zd) ?_;rw[dS acF];exact(L.2 i' es[i'] k (dS acF) hk').1
   have YU:aq (aB prog w) A (do
     let adU <-n9 [es[i].2] (eqBool es[i].2 x);let __x <-setState a
     if(Μ&&adU)=true then pure (xx none)
      else
       match __x.2.snd.sameMemory t.moves t.mask with
       |some same=>
        match if same=true then __x.2.snd.slot (it t.mask (m+m') (t.probeStart (Yz.hash k))).j else Slot.empty with
        |Slot.live i'=>
         match __x.fst[i']? with
         |some (fst,y')=>do
          let __do_lift <-isSame y' es[i].2;let ac3 <-pure (if __do_lift=true then some i' else none)
          match ac3 with
           |none=>do
            mz "set.search.anew"
            lG a x (Yz.hash k) Μ f none
           |some i'=>
            if adU=true then pure (xx (some i'))
            else lG a x (Yz.hash k) Μ f (some (wd (it t.mask (m+(m'+1)) (t.probeStart (Yz.hash k))) d'))
         |none=>do
          let ac3 <-pure none
          match ac3 with
           |none=>do
            mz "set.search.anew"
            lG a x (Yz.hash k) Μ f none
           |some i'=>
            if adU=true then pure (xx (some i'))
            else lG a x (Yz.hash k) Μ f (some (wd (it t.mask (m+(m'+1)) (t.probeStart (Yz.hash k))) d'))
        |x_1=>do
         let ac3 <-pure none
         match ac3 with
          |none=>do
           mz "set.search.anew"
           lG a x (Yz.hash k) Μ f none
          |some i'=>
           if adU=true then pure (xx (some i'))
           else lG a x (Yz.hash k) Μ f (some (wd (it t.mask (m+(m'+1)) (t.probeStart (Yz.hash k))) d'))
       |x=>unsupported "set.changed-during-lookup:is-the-new-block-at-the-old-address") Q E s:=by
    refine ah (gW (Yz.eqB ZP hr e2 hx ?_));refine ah (S.state ?_);dsimp only;have same:∀{R:Bool->ai->Prop},R true s->aq (aB prog w) A (isSame es[i].2 es[i].2) R E s:=λ{R}r=>by obtain⟨b,eb⟩:=Yz.ref ZP e2;rw[eb];exact wpAny_isSame_ref_self r
    have hsm:t.sameMemory t.moves t.mask=some true:=by unfold SetTable.sameMemory;simp
    by_cases c:ks[i]=k
    .have hk:k∈ks:=c▸t9 Z0;rw[decide_eq_true c];cases Μ with
     |true=>simp only[Bool.and_self,↓reduceIte];exact aw (h1 hk none (by simp))
     |false=>simp only[lF,bO,↓reduceIte,hsm,g2,Τ];refine ah (same ?_);simp only[↓reduceIte];exact ah (aw (aw (h1 hk _ λ_=>⟨i,rfl,by rw[cR Z0,c]⟩)))
    .rw[decide_eq_false c];simp only[C0,bO,↓reduceIte,hsm,g2,Τ];refine ah (same ?_);simp only[↓reduceIte];exact ah (aw (next c))
   by_cases led:(!t.led)=true
   .rw[if_pos led];refine ah (Yz.seen ZP hx ZS ?_);simp only[bO,↓reduceIte,Τ];exact YU
   .rw[if_neg led];simp only[Τ];exact YU
end
theorem Ht(n:Nat):∀(f k:Nat),n<2^(k+f)->∃k',OS n f (2^k)=2^k'/\n<2^k'/\k<=k'/\(2^k'<=2^k\/2^k'<=2*n)
 |0,k,h=>⟨k,rfl,h,aT _,.inl (aT _)⟩
 |f+1,k,h=>by
  unfold OS;by_cases c:2^k<=n
  .rw[if_pos c,<-lK];obtain⟨k',e1,e2,e3,e4⟩:=Ht n f (k+1) (by rw[show k+1+f=k+(f+1)by lia];exact h);refine⟨k',e1,e2,by lia,.inr ?_⟩;rcases e4 with e4|e4
   .rw[lK]at e4;lia
   .exact e4
  .rw[if_neg c];exact⟨k,rfl,by lia,aT _,.inl (aT _)⟩
theorem TB{n:Nat}(h:n<=4095):∃k,yH n=2^k/\n<2^k/\8<=2^k/\2^k<=8192:=by
 obtain⟨k,e1,e2,e3,e4⟩:=Ht n 64 3 (BH h (by decide));refine⟨k,e1,e2,?_,?_⟩
 .exact Nat.pow_le_pow_right (show 2>0 by decide) e3
 .rcases e4 with e4|e4
  .have:(2:Nat)^3=8:=rfl
   lia
  .lia
section
variable{prog:ba}{w:aQ}{A:bh}{E:ac->ai->Prop}{s:ai}{a:aa}{es:Array (Int×ac)}{ep:Nat}{t:cb}
theorem Fq{β:Type}{t:cb}{es:Array (Int×β)}{wanted:Nat}(hw:wanted<=4095)(h2:es.size*2<=wanted)(h0:0<wanted):∃t' order,t.relaid (es.map (·.1)) wanted=some (t',order)/\(order.filterMap (es[·]?)).size=es.size/\(order.filterMap (es[·]?)).toList.Perm es.toList/\
  ge t' ((order.filterMap (es[·]?)).map (·.1))/\wanted<=t'.mask/\t'.mask<=8191/\t'.led=t.led/\t'.plain=t.plain/\order.toList.Perm (cI es.size)/\yH wanted<=aU:=by
 obtain⟨k,a1,a2,a3,a4⟩:=TB hw;have pw:yH wanted-1+1=2^k:=by lia
 obtain⟨t',order,l1,l2,l3,l4,l5,l6,l7,l8,l9,l10⟩:=Im (es:=es) t.finger (t.movedTo (yH wanted-1)) t.led t.plain pw (by lia);exact⟨t',order,l1,l2,l3,l4,by lia,by lia,l7,l9,l10,by rw[bC];lia⟩
theorem Gd{o:Obj}(ho:s.heap.get? a=some o)(hex:o.ExactSet)(hd:o.data= .set es ep t)(ok:ge t (es.map (·.1)))(pl:t.plain=true){wanted:Nat}(hw:wanted<=4095)(h2:es.size*2<=wanted)(h0:0<wanted)
  {Q:Unit->ai->Prop}(h:∀h' YH t',cW a s.heap h'->ci h' a YH (ep+1) t'->YH.toList.Perm es.toList->t'.led=t.led->wanted<=t'.mask->Q () {s with heap:=h'}):aq (aB prog w) A (setRelay a wanted) Q E s:=by
 have hf:=ok.fits;rw[fB]at hf;obtain⟨t',order,l1,l2,l3,l4,l5,l6,l7,l8,_,l9⟩:=Fq (t:=t) (es:=es) hw h2 h0;unfold setRelay;refine ah (BQ ho hd hf ?_);dsimp only;rw[if_neg (by lia),l1];refine ah ?_;show aq _ _ (if((order.filterMap (es[·]?)).size !=es.size)=true then _ else _) _ _ _;rw[if_neg (by simp[l2])];refine aw ?_;refine qS ho hd ?_ (by rw[l2,bC];lia);have hg:(s.heap.update a (fW (order.filterMap (es[·]?)) t')).get? a=some {o with data:= .set (order.filterMap (es[·]?)) (ep+1) t'}:=by have:=oV (fW (order.filterMap (es[·]?)) t') ho (by rw[jz _ t' hd];rfl);rw[jz _ t' hd]at this;exact this
 refine h _ _ t' (mM s.heap a _) ⟨⟨_,hg,hex,rfl⟩,l4,?_,by rw[l8];exact pl,l6⟩ l3 l7 l5;rw[l4.sz,fB,l2]
 lia
end
theorem Kj{t:cb}{hs:Array Int}(ok:ge t hs)(h:Int)(n:Nat):(it t.mask n (t.probeStart h)).j<=t.mask:=by
 have key:∀n,(it t.mask n (t.probeStart h)).j+(it t.mask n (t.probeStart h)).more<=t.mask:=by
  intro n;induction n with
  |zero=>
   have hi:cY h%(t.mask+1)<t.mask+1:=nH _ (rJ _);have:=zx t.mask (cY h%(t.mask+1)) (by lia);show cY h%(t.mask+1)+(fI t.mask (cY h%(t.mask+1))-cY h%(t.mask+1))<=t.mask
   lia
  |succ n ih=>
   rw[zI];generalize it t.mask n (t.probeStart h)=p at ih;unfold jk;split
   .show p.j+1+(p.more-1)<=t.mask
    lia
   .have hi:(fR t.mask p.i p.perturb).1<t.mask+1:=nH _ (rJ _);have:=zx t.mask (fR t.mask p.i p.perturb).1 (by lia);show(fR t.mask p.i p.perturb).1+(fI t.mask (fR t.mask p.i p.perturb).1-(fR t.mask p.i p.perturb).1)<=t.mask
    lia
 have:=key n
 lia
theorem Pc{α β:Type}{f:α->β}{l l':List β}(h:l.Perm l'):∀zs:List α,zs.map f=l->∃zs':List α,zs'.Perm zs/\zs'.map f=l':=by
 induction h with
 |nil=>intro zs e;exact⟨zs,.refl _,e⟩
 |cons x _ ih=>
  intro zs e;cases zs with
  |nil=>cases e
  |cons z zs=>rw[bb]at e;injection e with e1 e2;obtain⟨zs',p1,p2⟩:=ih zs e2;exact⟨z::zs',p1.cons z,by rw[bb,e1,p2]⟩
 |swap x y l=>
  intro zs e
  match zs,e with
  |a::b::zs,e=>simp only[bb,CH]at e;exact⟨b::a::zs,.swap _ _ _,by simp[e.1,e.2.1,e.2.2]⟩
 |trans _ _ ih1 ih2=>intro zs e;obtain⟨z1,p1,e1⟩:=ih1 zs e;obtain⟨z2,p2,e2⟩:=ih2 z1 e1;exact⟨z2,p2.trans p1,e2⟩
section
variable{prog:ba}{w:aQ}{K:Type}[DecidableEq K]{Yz:KD prog w K}{A:bh}{E:ac->ai->Prop}{s:ai}{a:aa}{es YH:Array (Int×ac)}{ep:Nat}{t:cb}{ks:List K}{h h':aM}
theorem cB.perm(L:cB Yz h es ks)(p:YH.toList.Perm es.toList):∃YC,cB Yz h YH YC/\YC.Perm ks:=by
 have el:es.toList.length=ks.length:=by rw[bz];exact L.1
 have e1:(es.toList.zip ks).map Prod.fst=es.toList:=List.map_fst_zip (by lia);have e2:(es.toList.zip ks).map Hv=ks:=List.map_snd_zip (by lia);obtain⟨zs,p1,p2⟩:=Pc p.symm _ e1;refine⟨zs.map Hv,⟨?_,λi e k hi hk=>?_⟩,?_⟩
 .rw[<-bz,<-p2,aE,aE]
 .rw[<-fw,<-p2,cq]at hi;rw[cq]at hk;obtain⟨z,hz,rfl⟩:=dU.mp hi;rw[hz]at hk;cases hk;obtain⟨j,hj⟩:=Bp (p1.mem_iff.mp (cU hz));rw[Lv]at hj;exact L.2 j z.1 z.2 (by rw[<-fw];exact hj.1) hj.2
 .have:=p1.map Hv;rw[e2]at this;exact this
theorem cB.push(L:cB Yz h es ks){k:K}{x:ac}(hx:Yz.is h k x):cB Yz h (es.push (Yz.hash k,x)) (ks++[k]):=by
 refine⟨by rw[xp,bG,L.1];rfl,λi e k' hi hk=>?_⟩;rw[Array.getElem?_push]at hi;by_cases c:i=es.size
 .rw[if_pos c]at hi;cases hi;rw[c,L.1,Lm (aT _),OZ]at hk;cases hk;exact⟨rfl,hx⟩
 .rw[if_neg c]at hi;have YK:i<es.size:=(kz.mp hi).1;rw[Lw (by rw[<-L.1];exact YK)]at hk;exact L.2 i e k' hi hk
theorem cB.keep(L:cB Yz h es ks){o:Obj}{es0 ep0 t0}(ho:h.get? a=some o)(hd:o.data= .set es0 ep0 t0)(sb:cW a h h'):cB Yz h' es ks:=⟨L.1,λi e k hi hk=>⟨(L.2 i e k hi hk).1,Yz.keep (L.2 i e k hi hk).2 ho hd sb⟩⟩
theorem Rq(S:ci s.heap a es ep t)(L:cB Yz s.heap es ks){k:K}{x:ac}(hx:Yz.is s.heap k x)(YI:es.size<=1000){N:Nat}(hN:(it t.mask N (t.probeStart (Yz.hash k))).j∉t.place.toList)(hl:∀l,l<N->(it t.mask l (t.probeStart (Yz.hash k))).j∈t.place.toList)(Y4:(it t.mask N (t.probeStart (Yz.hash k))).j<=t.mask)
  {Q:Bool->ai->Prop}(q:∀h' YH Y2 t' YC,cW a s.heap h'->ci h' a YH Y2 t'->cB Yz h' YH YC->YC.Perm (ks++[k])->t'.led=t.led->Q true {s with heap:=h'}):
  aq (aB prog w) A (do
   storeSet a (cy es (t.put (it t.mask N (t.probeStart (Yz.hash k))).j).2 (Yz.hash k,x)) (t.put (it t.mask N (t.probeStart (Yz.hash k))).j).1
   if(t.put (it t.mask N (t.probeStart (Yz.hash k))).j).1.tooFull=true then do
    setRelay a (kU (es.size+1))
    pure true
   else pure true) Q E s:=by
 obtain⟨o,ho,hex,hd⟩:=S.ob;have room:t.place.size+1<=t.mask:=by have:=S.Ψ;lia
 obtain⟨pk,pp⟩:=Jn S.ok room hN Y4 hl;generalize(it t.mask N (t.probeStart (Yz.hash k))).j=j at pk pp;rw[fB]at pp;have em:(t.put j).1.mask=t.mask:=rfl;have el:(t.put j).1.led=t.led:=rfl;have epl:(t.put j).1.plain=t.plain:=rfl;generalize(t.put j).1=t1 at*;generalize(t.put j).2=p at*;have afq:cy (es.map (·.1)) p (Yz.hash k)=(cy es p (Yz.hash k,x)).map (·.1):=by apply E9;rw[oT,o7,o7,oT,bV,bb,lI,rB]
 rw[afq]at pk;have p1:(cy es p (Yz.hash k,x)).toList.Perm (es.push (Yz.hash k,x)).toList:=Bd ..;have YV:(cy es p (Yz.hash k,x)).size=es.size+1:=by rw[<-bz,p1.length_eq,bz,xp]
 generalize cy es p (Yz.hash k,x)=Zf at*;refine ah (qS ho hd ?_ (by rw[YV,bC];lia));have hg:(s.heap.update a (fW Zf t1)).get? a=some {o with data:= .set Zf (ep+1) t1}:=by have:=oV (fW Zf t1) ho (by rw[jz _ t1 hd];rfl);rw[jz _ t1 hd]at this;exact this
 have sb:=mM s.heap a (fW Zf t1);obtain⟨Zk,k1,k2⟩:=(L.push hx).perm p1;have Ο:=k1.keep ho hd sb;by_cases c:t1.tooFull=true
 .rw[if_pos c];refine ah (Gd (s:={s with heap:=s.heap.update a (fW Zf t1)}) hg hex rfl pk (by rw[epl];exact S.plain) (by unfold kU;split<;>lia) (by unfold kU;rw[YV];split<;>lia) (by unfold kU;split<;>lia) λh' YH t' sb' S' p' adF _=>?_);obtain⟨YL,m1,m2⟩:=(Ο.keep hg rfl sb').perm p';refine aw ?_;exact q h' YH _ t' YL (sb.trans sb') S' m1 (m2.trans k2) (by rw[adF,el])
 .rw[if_neg c];refine aw (q _ Zf _ t1 Zk sb ⟨⟨_,hg,hex,rfl⟩,pk,?_,by rw[epl];exact S.plain,by rw[em];exact S.small⟩ Ο k2 el);unfold M5 nh at c;rw[pk.nd]at c;simp at c
  lia
theorem Wm(ZP:Yz.scan=false)(hr:Yz.room A)(S:ci s.heap a es ep t)(L:cB Yz s.heap es ks){k:K}{x:ac}(hx:Yz.is s.heap k x)(YI:es.size<=1000){Q:Bool->ai->Prop}
  (q1:k∈ks->Q false s)(q2:k∉ks->∀h' YH Y2 t' YC,cW a s.heap h'->ci h' a YH Y2 t'->cB Yz h' YH YC->YC.Perm (ks++[k])->t'.led=t.led->Q true {s with heap:=h'}):
  aq (aB prog w) A (rE a x (Yz.hash k)) Q E s:=by
 obtain⟨N,n1,n2',n3'⟩:=xW S.ok.f (Yz.hash k);have n2:(it t.mask N (t.probeStart (Yz.hash k))).j∉t.place.toList:=λz=>S.ok.used.mpr z n2';have n3:∀l,l<N->(it t.mask l (t.probeStart (Yz.hash k))).j∈t.place.toList:=λl hl=>S.ok.used.mp (n3' l hl);unfold rE;refine gW ?_;unfold setAddHashedIn;refine ah (S.state ?_);dsimp only;have hsc:byScan x es=false:=by unfold byScan;rw[Yz.scan_is hx,ZP];rfl
 rw[hsc];simp only[bO,↓reduceIte];unfold setSearch;refine ah (D7 ZP hr S.F L hx (λ_=>S.ok.nd) n2' n3' n1 (λhk o _=>?_) (λhk j b hj=>?_) N 0 100000 (by lia) (by have:=S.small;lia) (λl hl=>by lia) none none (λ_=>rfl) rfl)
 .exact aw (q1 hk)
 .obtain⟨rfl,rfl⟩:=hj S.ok.nd;dsimp only;refine ah (S.state ?_);dsimp only;have YZ:(t.put (it t.mask N (t.probeStart (Yz.hash k))).j).1.plain=true:=S.plain;rw[YZ];simp only[↓reduceIte];refine ah (Yz.byV hx ?_);simp only[↓reduceIte,kK,Ox];exact Rq S L hx YI n2 n3 (Kj S.ok _ _) (q2 hk)
theorem Wl{kk:KeyKind prog w K}(hs:Yz.scan=true)(hk:∀h k v,Yz.is h k v↔kk.is k v=true/\v.scannable=true/\plainKind v=true)(hh:∀k,Yz.hash k=kk.hash k)(S:ci s.heap a es ep t)(L:cB Yz s.heap es ks){k:K}{x:ac}(hx:Yz.is s.heap k x)(YI:es.size<=1000){Q:Bool->ai->Prop}
  (q1:k∈ks->Q false s)(q2:k∉ks->∀h' YH Y2 t' YC,cW a s.heap h'->ci h' a YH Y2 t'->cB Yz h' YH YC->YC.Perm (ks++[k])->t'.led=t.led->Q true {s with heap:=h'}):
  aq (aB prog w) A (rE a x (Yz.hash k)) Q E s:=by
 obtain⟨o,ho,hex,hd⟩:=S.ob;have hel:ElemsOf kk es.toList:=λe he=>by
  obtain⟨i,hi,e1⟩:=kE he;have Zd:i<ks.length:=by rw[<-L.1];simpa using hi
  have e2:es[i]? =some e:=by rw[<-fw,cR hi,e1]
  obtain⟨l1,l2⟩:=L.2 i e ks[i] e2 (cR Zd);obtain⟨m1,m2,_⟩:=(hk _ _ _).mp l2;exact⟨⟨_,m1,by rw[l1,hh]⟩,m2⟩
 obtain⟨x1,x2,x3⟩:=(hk _ _ _).mp hx;unfold rE;refine gW ?_;unfold setAddHashedIn;refine ah (S.state ?_);dsimp only;rw[byScan_of x2 (by unfold uW;lia) hel];simp only[↓reduceIte];unfold setAddByScan;refine ah (ah (yj ?_));rw[hh];refine ah (wpAny_setScan_of x1 ho hd S.fit hel ?_);have mem:∀k',k'∈ks↔∃e∈es.toList,kk.is k' e.2=true:=λk'=>by
  constructor
  .intro z;obtain⟨i,hi⟩:=Bp z;have ZD:i<es.size:=by rw[L.1];exact(gE.mp hi).1
   exact⟨es[i],lx.mpr (w6 _),((hk _ _ _).mp (L.2 i es[i] k' (dS ZD) hi).2).1⟩
  .rintro⟨e,he,z⟩;obtain⟨i,hi,e1⟩:=kE he;have Zd:i<ks.length:=by rw[<-L.1];simpa using hi
   have e2:es[i]? =some e:=by rw[<-fw,cR hi,e1]
   have:=(L.2 i e ks[i] e2 (cR Zd)).2;rw[kk.inj _ _ _ z ((hk _ _ _).mp this).1];exact t9 Zd
 cases hr:List.findIdx? (λe=>kk.is k e.2) es.toList with
 |some j=>dsimp only;obtain⟨hj,hpj,_⟩:=List.findIdx?_eq_some_iff_getElem.mp hr;exact aw (aw (q1 ((mem k).mpr ⟨_,t9 hj,hpj⟩)))
 |none=>
  dsimp only;have nk:k∉ks:=λz=>by obtain⟨e,he,hp⟩:=(mem k).mp z;have:=List.findIdx?_eq_none_iff.mp hr e he;rw[hp]at this;exact iC this
  obtain⟨N,n1,n2',n3'⟩:=xW S.ok.f (kk.hash k);have n2:(it t.mask N (t.probeStart (kk.hash k))).j∉t.place.toList:=λz=>S.ok.used.mpr z n2';have n3:∀l,l<N->(it t.mask l (t.probeStart (kk.hash k))).j∈t.place.toList:=λl hl=>S.ok.used.mp (n3' l hl);have room:t.place.size+1<=t.mask:=by have:=S.Ψ;lia
  obtain⟨pk,pp⟩:=Jn S.ok room n2 (Kj S.ok _ _) n3;have efs:t.freeSlot (kk.hash k)=some ((it t.mask N (t.probeStart (kk.hash k))).j,false):=by
   unfold SetTable.freeSlot;obtain⟨d',e1,e2⟩:=zb (t:=t) (λ_=>kk.hash k+1) (kk.hash k) N (10*kT t.mask) (t.probeStart (kk.hash k)) none (by unfold kT;lia) n2' n3';have e1:=e1 S.ok.nd;subst e1;rcases e2 with⟨e2,_⟩|⟨_,_,_,_,e3,_⟩
   .have e2:t.probe (λ_=>kk.hash k+1) (kk.hash k) (t.probeStart (kk.hash k))=_:=e2;rw[e2];rfl
   .exact absurd e3 (by show¬kk.hash k+1=kk.hash k;lia)
  generalize(it t.mask N (t.probeStart (kk.hash k))).j=j at pk pp efs;rw[fB]at pp;have em:(t.put j).1.mask=t.mask:=rfl;have el:(t.put j).1.led=t.led:=rfl;have epl:(t.put j).1.plain=t.plain:=rfl;have eL:layNew t es (kk.hash k) x=(cy es (t.put j).2 (kk.hash k,x),(t.put j).1.orStandIn (cy es (t.put j).2 (kk.hash k,x)).size,false,!(t.put j).1.fits (cy es (t.put j).2 (kk.hash k,x)).size):=by unfold layNew;rw[efs]
  rw[eL];generalize(t.put j).1=t1 at*;generalize(t.put j).2=p at*;have afq:cy (es.map (·.1)) p (kk.hash k)=(cy es p (kk.hash k,x)).map (·.1):=by apply E9;rw[oT,o7,o7,oT,bV,bb,lI,rB]
  rw[afq]at pk;have p1:(cy es p (kk.hash k,x)).toList.Perm (es.push (kk.hash k,x)).toList:=Bd ..;have YV:(cy es p (kk.hash k,x)).size=es.size+1:=by rw[<-bz,p1.length_eq,bz,xp]
  have Lp:=L.push hx;rw[hh]at Lp;obtain⟨Zk,k1,k2⟩:=Lp.perm p1;generalize cy es p (kk.hash k,x)=Zf at*;have fit:=pk.fits;rw[fB]at fit;dsimp only;unfold SetTable.orStandIn;rw[fit];simp only[↓reduceIte,fO];refine ah (aw ?_);rw[epl,S.plain];simp only[↓reduceIte];refine ah ?_;rw[wJ 8 x2,x3];refine aw ?_;simp only[↓reduceIte];refine ah (qS ho hd ?_ (by rw[YV,bC];lia));have hg:(s.heap.update a (fW Zf t1)).get? a=some {o with data:= .set Zf (ep+1) t1}:=by have:=oV (fW Zf t1) ho (by rw[jz _ t1 hd];rfl);rw[jz _ t1 hd]at this;exact this
  have sb:=mM s.heap a (fW Zf t1);have Ο:=k1.keep ho hd sb;by_cases c:t1.tooFull=true
  .rw[if_pos (by rw[c];rfl)];obtain⟨t',order,l1,l2,l3,l4,l5,l6,l7,l8,l9,l10⟩:=Fq (t:=t1) (es:=Zf) (wanted:=kU Zf.size) (by unfold kU;split<;>lia) (by unfold kU;split<;>lia) (by unfold kU;split<;>lia);have ahq:=l4.fits;rw[fB]at ahq;have eR:relayAll t1 Zf (kU Zf.size)=(order.filterMap (Zf[·]?),t',false):=by
    unfold relayAll;rw[l1];dsimp only;have:coversAll order Zf.size=true:=by unfold coversAll;rw[List.isPerm_iff];exact l9
    rw[this,ahq];rfl
   rw[eR];generalize order.filterMap (Zf[·]?)=Zi at*;dsimp only;refine ah (aw ?_);refine ah (qS hg rfl ?_ (by rw[l2,YV,bC];lia));have hg2:((s.heap.update a (fW Zf t1)).update a (fW Zi t')).get? a=some {o with data:= .set Zi (ep+1+1) t'}:=by have:=oV (fW Zi t') hg (by rw[jz (o:={o with data:= .set Zf (ep+1) t1}) _ t' rfl];rfl);rw[jz (o:={o with data:= .set Zf (ep+1) t1}) _ t' rfl]at this;exact this
   have Zc:=mM (s.heap.update a (fW Zf t1)) a (fW Zi t');obtain⟨YL,m1,m2⟩:=(Ο.keep hg rfl Zc).perm l3;refine aw (aw (q2 nk _ Zi _ t' YL (sb.trans Zc) ⟨⟨_,hg2,hex,rfl⟩,l4,?_,by rw[l8,epl];exact S.plain,l6⟩ m1 (m2.trans k2) (by rw[l7,el])));rw[l4.sz,fB,l2];unfold kU at l5;split at l5<;>lia
  .rw[if_neg (by simpa using c)];refine aw (aw (q2 nk _ Zf _ t1 Zk sb ⟨⟨_,hg,hex,rfl⟩,pk,?_,by rw[epl];exact S.plain,by rw[em];exact S.small⟩ Ο k2 el));unfold M5 nh at c;rw[pk.nd]at c;simp at c
   lia
end
theorem lJ{α:Type}(xs:Array α)(p:Nat):(dC xs p).toList=xs.toList.eraseIdx p:=by unfold dC;rw[Array.toList_append,Mh,Mh,List.eraseIdx_eq_take_drop_succ];have e:(xs.toList.drop (p+1)).take (xs.size-(p+1))=xs.toList.drop (p+1):=qM (by simp);simp[List.extract,e]
theorem GI{α β:Type}(f:α->β):∀(i:Nat)(a:List α),(a.map f).eraseIdx i=(a.eraseIdx i).map f
 |_,[]=>by simp
 |0,_::_=>rfl
 |i+1,x::a=>by rw[bb,mI,mI,bb,GI f i a]
theorem Hf{α:Type}[DecidableEq α]{k:α}:∀{l:List α}{i:Nat},l.Nodup->l[i]? =some k->l.eraseIdx i=l.erase k
 |[],_,_,h=>by cases h
 |x::l,0,_,h=>by cases h;simp
 |x::l,i+1,nd,h=>by rw[fT]at nd;have hk:=cU (show l[i]? =some k from h);have ne:x≠k:=λz=>nd.1 (z▸hk);rw[mI,Hf nd.2 h,wL (by simpa using ne)]
theorem E_{α β:Type}:∀(i:Nat)(a:List α)(b:List β),(a.eraseIdx i).zip (b.eraseIdx i)=(a.zip b).eraseIdx i
 |_,[],b=>by simp
 |_,_::_,[]=>by simp
 |0,_::_,_::_=>rfl
 |i+1,x::a,y::b=>by rw[mI,mI,wQ,E_ i a b,wQ,mI]
theorem uB{xs:Array Nat}(hr:ji xs){j:Nat}:has xs j=true↔j∈xs.toList:=by
 unfold has;rw[beq_iff_eq];constructor
 .intro z;exact lx.mpr (L8 z)
 .intro z;obtain⟨i,hi,e⟩:=kE z;have Zd:i<xs.size:=by simpa using hi
  have e':xs[i]=j:=by simpa using e
  rw[<-e',sg hr Zd];exact dS Zd
theorem mG.empty_iff{t:cb}{hs:Array Int}(ok:mG t hs){j:Nat}:t.slot j= .empty↔j∉t.place.toList/\j∉t.dummies.toList:=by
 have hp:=uB (j:=j) ok.rise;have hd:=uB (j:=j) ok.rd;unfold has at hp;unfold slot;dsimp only;by_cases c:(t.place[fJ t.place j]? ==some j)=true
 .rw[if_pos c];exact⟨λz=>(by cases z),λz=>absurd (hp.mp c) z.1⟩
 .rw[if_neg c];by_cases c2:has t.dummies j=true
  .rw[if_pos c2];exact⟨λz=>(by cases z),λz=>absurd (hd.mp c2) z.2⟩
  .rw[if_neg c2];exact⟨λ_=>⟨λz=>c (hp.mpr z),λz=>c2 (hd.mpr z)⟩,λ_=>rfl⟩
theorem SA{xs:Array Nat}(hr:ji xs){j:Nat}(h:j∉xs.toList):ji (cy xs (fJ xs j) j)/\∀x,x∈(cy xs (fJ xs j) j).toList↔x=j\/x∈xs.toList:=by
 obtain⟨b1,b2,b3⟩:=sf hr j;generalize fJ xs j=p at b1 b2 b3;have tl:=oT xs p j;refine⟨?_,λx=>?_⟩
 .rw[nS,tl,Me];have hr:=nS.mp hr;have d3:∀x∈xs.toList.drop p,j<x:=λx hx=>by
   obtain⟨i,hi,e⟩:=kE hx;rw[MM]at e;rw[gH,bz]at hi;have:=b3 (p+i) (by lia) (by lia);rw[tU]at e;rw[e]at this;have ne:x≠j:=λz=>h (z▸tT hx)
   lia
  have d2:∀x∈xs.toList.take p,x<j:=λx hx=>by
   obtain⟨i,hi,e⟩:=kE hx;rw[ML,tU]at e;rw[cO,bz]at hi;have:=b2 i (by lia) (by lia)
   lia
  refine⟨hr.sublist (B0 _ _),qQ.mpr ⟨d3,hr.sublist (MO _ _)⟩,λa ha b hb=>?_⟩;rcases aV.mp hb with rfl|hb
  .exact d2 a ha
  .have:=d2 a ha;have:=d3 b hb
   lia
 .rw[tl,bT,aV]
  conv=>rhs;rw[<-kD p xs.toList,bT]
  constructor
  .rintro(z|z|z)
   .exact .inr (.inl z)
   .exact .inl z
   .exact .inr (.inr z)
  .rintro(z|z|z)
   .exact .inr (.inl z)
   .exact .inl z
   .exact .inr (.inr z)
theorem Ti{t:cb}{hs:Array Int}(ok:mG t hs){i:Nat}(hi:i<t.place.size)(nd:t.place[i]∉t.dummies.toList):mG (t.drop i) (dC hs i)/\(t.drop i).mask=t.mask/\(t.drop i).dummies.size=t.dummies.size+1/\(t.drop i).place.size+1=t.place.size/\(t.drop i).led=t.led/\(t.drop i).plain=t.plain/\∀x,x∈(t.drop i).dummies.toList↔x=t.place[i]\/x∈t.dummies.toList:=by
 have e0:t.drop i={t with place:=dC t.place i,dummies:=cy t.dummies (fJ t.dummies t.place[i]) t.place[i]}:=by unfold Ot;rw[dS hi]
 obtain⟨r1,r2⟩:=SA ok.rd nd;have tlp:=lJ t.place i;have sub:(dC t.place i).toList.Sublist t.place.toList:=by rw[tlp];exact Bk _ _
 have szp:(dC t.place i).size+1=t.place.size:=by
  rw[<-bz,tlp,qN,if_pos (by simpa using hi),bz]
  lia
 have szd:(cy t.dummies (fJ t.dummies t.place[i]) t.place[i]).size=t.dummies.size+1:=by have:=(Bd t.dummies (fJ t.dummies t.place[i]) t.place[i]).length_eq;rw[bz,bz,xp]at this;exact this
 have Y1:∀x,x∈t.place.toList->x=t.place[i]\/x∈(dC t.place i).toList:=λx hx=>by
  rw[tlp];obtain⟨a,ha,e⟩:=kE hx;by_cases c:a=i
  .subst c;exact .inl (by simpa using e.symm)
  .refine .inr ?_;exact Ld.mpr ⟨a,ha,c,e⟩
 rw[e0];refine⟨?_,rfl,szd,szp,rfl,rfl,r2⟩;have rp:ji (dC t.place i):=nS.mpr ((nS.mp ok.rise).sublist sub);have emp:∀j,t.slot j= .empty↔({t with place:=dC t.place i,dummies:=cy t.dummies (fJ t.dummies t.place[i]) t.place[i]}:cb).slot j= .empty:=λj=>by
  have key:({t with place:=dC t.place i,dummies:=cy t.dummies (fJ t.dummies t.place[i]) t.place[i]}:cb).slot j= .empty↔j∉(dC t.place i).toList/\j∉(cy t.dummies (fJ t.dummies t.place[i]) t.place[i]).toList:=by
   have hp:=uB (j:=j) rp;have hd:=uB (j:=j) r1;unfold has at hp;unfold slot;dsimp only;by_cases c:((dC t.place i)[fJ (dC t.place i) j]? ==some j)=true
   .rw[if_pos c];exact⟨λz=>(by cases z),λz=>absurd (hp.mp c) z.1⟩
   .rw[if_neg c];by_cases c2:has (cy t.dummies (fJ t.dummies t.place[i]) t.place[i]) j=true
    .rw[if_pos c2];exact⟨λz=>(by cases z),λz=>absurd (hd.mp c2) z.2⟩
    .rw[if_neg c2];exact⟨λ_=>⟨λz=>c (hp.mpr z),λz=>c2 (hd.mpr z)⟩,λ_=>rfl⟩
  rw[key,ok.empty_iff,r2];constructor
  .rintro⟨a,b⟩;exact⟨λz=>a (sub.subset z),λz=>z.elim (λq=>a (by rw[q];exact lx.mpr (w6 _))) b⟩
  .rintro⟨a,b⟩;exact⟨λz=>(Y1 j z).elim (λq=>b (.inl q)) a,λz=>b (.inr z)⟩
 refine⟨ok.pw,rp,r1,?_,?_,λx hx=>?_⟩
 .show(dC t.place i).size=(dC hs i).size;have:=ok.sz;have szh:(dC hs i).size+1=hs.size:=by
   rw[<-bz,lJ,qN,if_pos (by rw[bz];lia),bz]
   lia
  lia
 .obtain⟨j,h1,h2⟩:=ok.free;exact⟨j,h1,(emp j).mp h2⟩
 .have hx:x∈(dC t.place i).toList.zip (dC hs i).toList:=hx;rw[tlp,lJ,E_]at hx;obtain⟨n,n1,n2⟩:=ok.rch x ((Bk _ _).subset hx);exact⟨n,n1,λl hl z=>n2 l hl ((emp _).mpr z)⟩
section
variable{prog:ba}{w:aQ}{K:Type}[DecidableEq K]{Yz:KD prog w K}{A:bh}{E:ac->ai->Prop}{s:ai}{a:aa}{es:Array (Int×ac)}{ep:Nat}{t:cb}{ks:List K}
theorem Ix(ZP:Yz.scan=false)(hr:Yz.room A)(S:ko s.heap a es ep t)(L:cB Yz s.heap es ks){k:K}{x:ac}(hx:Yz.is s.heap k x){Q:Option Nat->ai->Prop}
  (q1:∀i,ks[i]? =some k->Q (some i) s)(q2:k∉ks->Q none s):aq (aB prog w) A (setFind a x (Yz.hash k)) Q E s:=by
 obtain⟨N,n1,n2,n3⟩:=xW S.ok (Yz.hash k);unfold setFind setFindIn;refine ah (S.state ?_);dsimp only;have hsc:byScan x es=false:=by unfold byScan;rw[Yz.scan_is hx,ZP];rfl
 rw[hsc];simp only[bO,↓reduceIte];unfold setSearch;refine ah (D7 ZP hr S L hx (λz=>by cases z) n2 n3 n1 (λhk o ho=>?_) (λhk j b hj=>?_) N 0 100000 (by lia) (by have:=S.small;lia) (λl hl=>by lia) none none (λ_=>rfl) rfl)
 .obtain⟨i,rfl,hi⟩:=ho rfl;exact aw (q1 i hi)
 .exact aw (q2 hk)
theorem cB.erase{h:aM}(L:cB Yz h es ks)(i:Nat):cB Yz h (dC es i) (ks.eraseIdx i):=by
 have tl:=lJ es i;have key:∀(m:Nat)(e:Int×ac)(k:K),(es.toList.eraseIdx i)[m]? =some e->(ks.eraseIdx i)[m]? =some k->e.1=Yz.hash k/\Yz.is h k e.2:=λm e k h1 h2=>by
  rw[List.getElem?_eraseIdx]at h1 h2;by_cases c:m<i
  .rw[if_pos c]at h1 h2;exact L.2 m e k (by rw[<-fw];exact h1) h2
  .rw[if_neg c]at h1 h2;exact L.2 (m+1) e k (by rw[<-fw];exact h1) h2
 refine⟨?_,λm e k h1 h2=>key m e k (by rw[<-tl,fw];exact h1) h2⟩;rw[<-bz,tl,qN,qN,bz,L.1]
theorem Q6(ZP:Yz.scan=false)(hr:Yz.room A)(S:ko s.heap a es ep t)(L:cB Yz s.heap es ks)(nd:ks.Nodup)(dis:∀x∈t.place.toList,x∉t.dummies.toList){k:K}{x:ac}(hx:Yz.is s.heap k x){Q:Bool->ai->Prop}
  (q1:k∉ks->Q false s)(q2:k∈ks->∀h' YH t',cW a s.heap h'->ko h' a YH (ep+1) t'->cB Yz h' YH (ks.erase k)->(∀x∈t'.place.toList,x∉t'.dummies.toList)->t'.dummies.size=t.dummies.size+1->t'.mask=t.mask->Q true {s with heap:=h'}):
  aq (aB prog w) A (M4 a x (Yz.hash k)) Q E s:=by
 unfold M4;refine ah (Ix ZP hr S L hx (λi hi=>?_) λhk=>aw (q1 hk));dsimp only;refine ah (S.state ?_);dsimp only;obtain⟨o,ho,hex,hd⟩:=S.ob;have Z0:i<ks.length:=(gE.mp hi).1;have ZD:i<es.size:=by rw[L.1];exact Z0
 have YZ:i<t.place.size:=by have:=S.ok.sz;rw[fB]at this;lia
 obtain⟨f1,f2,f3,f4,_,_,f5⟩:=Ti S.ok YZ (dis _ (lx.mpr (w6 _)));have esz:(dC es i).size+1=es.size:=by
  rw[<-bz,lJ,qN,if_pos (by rw[bz];exact ZD),bz]
  lia
 have fit:=S.fit;unfold Dx nh at fit;simp only[hU,beq_iff_eq,decide_eq_true_eq]at fit;have hzz:(dC es i).size<=aU:=by
  have:=S.small;rw[bC]
  lia
 refine ah (qS ho hd ?_ hzz);refine ah (wpAny_point (aw ?_));have hg:(s.heap.update a (fW (dC es i) (t.drop i))).get? a=some {o with data:= .set (dC es i) (ep+1) (t.drop i)}:=by have:=oV (fW (dC es i) (t.drop i)) ho (by rw[jz _ (t.drop i) hd];rfl);rw[jz _ (t.drop i) hd]at this;exact this
 have sb:=mM s.heap a (fW (dC es i) (t.drop i));have ek:ks.eraseIdx i=ks.erase k:=by exact Hf nd hi
 refine q2 (cU hi) _ _ _ sb ⟨⟨_,hg,hex,rfl⟩,?_,?_,?_,by rw[f2];exact S.small⟩ ?_ ?_ f3 f2
 .have em:dC (es.map (·.1)) i=(dC es i).map (·.1):=by apply E9;rw[lJ,o7,o7,lJ,GI]
  rw[<-em];exact f1
 .unfold Dx nh;simp only[hU,beq_iff_eq,decide_eq_true_eq];rw[f2,f3]
  lia
 .unfold M6;rw[f2];exact S.odd
 .rw[<-ek];exact(L.erase i).keep ho hd sb
 .intro x hx z;have e0:(t.drop i).place=dC t.place i:=by unfold Ot;rw[dS YZ]
  rw[e0,lJ]at hx;rcases(f5 x).mp z with e|e
  .obtain⟨m,hm,Y0,em⟩:=Ld.mp hx;have hm':m<t.place.size:=by simpa using hm
   have em:t.place[m]=t.place[i]:=by rw[<-e];simpa using em
   have:=sg S.ok.rise hm';rw[em,sg S.ok.rise YZ]at this;exact Y0 this.symm
  .exact dis x ((Bk _ _).subset hx) e
end
def Nt:Nat->dP->Prop
 |0,d=>∃i,d= .int i
 |n+1,d=>(∃i,d= .int i)\/∃ds,d= .tuple ds/\∀x∈ds,Nt n x
theorem Nt.int{n:Nat}{i:Int}:Nt n (.int i):=by
 cases n with
 |zero=>exact⟨i,rfl⟩
 |succ n=>exact .inl ⟨i,rfl⟩
def kh:Nat->dP->Int
 |_,.int i=>sG i
 |n+1,.tuple ds=>reduceHash (oR (ds.map (kh n)))
 |_,_=>0
section
variable{h h':aM}
mutual
theorem EG(kk:∀b o YA m,h.get? b=some o->o.data= .seq YA m->h'.get? b=some o):∀(n:Nat)(d:dP)(v:ac)(as:List aa),Nt n d->ir h v d as->∃bs,ir h' v d bs
 |n,.int i,v,as,_,r=>by cases r;exact⟨_,Reads.int i _⟩
 |n+1,.tuple ds,v,as,hn,r=>by
  rcases hn with⟨i,e⟩|⟨ds',e,hn⟩
  .cases e
  .cases e;cases r with
   |tuple ho hc hd hr=>obtain⟨bs,q⟩:=C5 kk n ds _ _ hn hr;exact⟨_,PX (kk _ _ _ _ ho hd) hc hd q⟩
 |0,.tuple ds,v,as,hn,r=>by obtain⟨i,e⟩:=hn;cases e
 |n,.none,v,as,hn,r=>by cases n with
  |zero=>obtain⟨i,e⟩:=hn;cases e
  |succ n=>rcases hn with⟨i,e⟩|⟨ds',e,_⟩<;>cases e
 |n,.bool _,v,as,hn,r=>by cases n with
  |zero=>obtain⟨i,e⟩:=hn;cases e
  |succ n=>rcases hn with⟨i,e⟩|⟨ds',e,_⟩<;>cases e
 |n,.str _,v,as,hn,r=>by cases n with
  |zero=>obtain⟨i,e⟩:=hn;cases e
  |succ n=>rcases hn with⟨i,e⟩|⟨ds',e,_⟩<;>cases e
 |n,.list _,v,as,hn,r=>by cases n with
  |zero=>obtain⟨i,e⟩:=hn;cases e
  |succ n=>rcases hn with⟨i,e⟩|⟨ds',e,_⟩<;>cases e
 |n,.dict _,v,as,hn,r=>by cases n with
  |zero=>obtain⟨i,e⟩:=hn;cases e
  |succ n=>rcases hn with⟨i,e⟩|⟨ds',e,_⟩<;>cases e
theorem C5(kk:∀b o YA m,h.get? b=some o->o.data= .seq YA m->h'.get? b=some o):∀(n:Nat)(ds:List dP)(vs:List ac)(as:List aa),(∀x∈ds,Nt n x)->pT h vs ds as->∃bs,pT h' vs ds bs
 |n,[],vs,as,_,r=>by cases r;exact⟨_,OW⟩
 |n,d::ds,vs,as,hn,r=>by
  cases r with
  |cons r1 r2=>obtain⟨b1,q1⟩:=EG kk n d _ _ (hn d bA) r1;obtain⟨b2,q2⟩:=C5 kk n ds _ _ (λx hx=>hn x (bq _ hx)) r2;exact⟨_,Ou q1 q2⟩
end
end
theorem lO{h:aM}{n:Nat}{d:dP}{v:ac}{as:List aa}(hn:Nt n d)(r:ir h v d as):(∃i t,d= .int i/\v= .int i t)\/
  ∃m ds a o items k bs,n=m+1/\d= .tuple ds/\v= .ref a/\h.get? a=some o/\o.cls= .type "tuple"/\o.data= .seq items k/\pT h items.toList ds bs/\∀x∈ds,Nt m x:=by
 have int:∀i,d= .int i->∃i t,d= .int i/\v= .int i t:=λi e=>by subst e;cases r;exact⟨i,_,rfl,rfl⟩
 cases n with
 |zero=>obtain⟨i,e⟩:=hn;exact .inl (int i e)
 |succ n=>
  rcases hn with⟨i,e⟩|⟨ds,rfl,hn⟩
  .exact .inl (int i e)
  .cases r with
   |tuple ho hc hd hr=>exact .inr ⟨n,ds,_,_,_,_,_,rfl,rfl,rfl,ho,hc,hd,hr,hn⟩
section
variable{prog:ba}{w:aQ}{A:bh}{E:ac->ai->Prop}{s:ai}
theorem UT:∀(n:Nat)(d:dP)(v:ac)(as:List aa){A:bh}{E:ac->ai->Prop}{s:ai}{Q:Int->ai->Prop},A.units+n<fb->Nt n d->ir s.heap v d as->(∀tk,Q (kh n d) {s with toks:=tk})->aq (aB prog w) A (pyHash v) Q E s:=by
 intro n;induction n with
 |zero=>
  intro d v as A E s Q hu hn r q;rcases lO hn r with⟨i,t,rfl,rfl⟩|⟨m,_,_,_,_,_,_,e,_⟩
  .exact Cd (q _)
  .cases e
 |succ n ih=>
  intro d v as A E s Q hu hn r q;rcases lO hn r with⟨i,t,rfl,rfl⟩|⟨m,ds,a,o,items,k,bs,e,rfl,rfl,ho,hc,hd,hr,hn⟩
  .exact Cd (q _)
  cases e;have hT:s.TypeIs (.ref a) "tuple":=⟨o,ho,hc⟩;unfold pyHash
  first|unfold pyHashByItsType|skip
  first|refine ah (wpAny_cRoomFor_or (.inr (by lia)) ?_)|skip
  refine ah (qW hT t7.lookup ?_);show aq _ _ (if(some (Value.builtin "tuple.__hash__")==some jy)=true then _ else _) Q E s;rw[if_neg (by rw[beq_builtin_none];exact dF)];refine ah (qW hT t7.lookup ?_);show aq _ _ (callSpecialIfBoundUnlessNone? (.ref a) "__hash__" _ >>= _) Q E s;refine ah (wpAny_callSpecialIfBoundUnlessNone?_slot hT t7 (iU t7 hT F.entry_tuple_hash ?_ (F.args_tuple_hash_1 _)));show aq _ _ (W_ (.ref a) >>= _) _ _ s;refine ah (wpAny_tupleItemsOf ho hd ?_);refine ah ?_;rw[<-oY];refine o4 _
   (λYU(b:Array Int)s'=>∃done left as,ds=done++left/\pT s.heap YU left as/\b.toList=done.map (kh n)/\∃tk,s'={s with toks:=tk})
   _ ?_ ?_ _ _ ⟨[],ds,bs,rfl,hr,rfl,s.toks,rfl⟩
  .rintro x YU b s' ⟨done,left,as,rfl,hl,hb,tk,rfl⟩;cases hl with
   | @cons _ _ k ds' ZX bs' h1 Z9=>
    refine ah (ih k x ZX (by show A.units+1+n<fb;lia) (hn k (by simp)) h1 λtk2=>?_)
    first
     |exact aw ⟨done++[k],ds',bs',by simp,Z9,by simp[hb],tk2,rfl⟩
     |exact ah (aw (aw ⟨done++[k],ds',bs',by simp,Z9,by simp[hb],tk2,rfl⟩))
  .rintro b s' ⟨done,left,as,rfl,hl,hb,tk,rfl⟩;cases hl;have q:∀tk,Q (reduceHash (oR (done.map (kh n)))) {s with toks:=tk}:=λtk=>by have:=q tk;rwa[jt]at this
   show aq _ _ (retInt (oR b.toList)) _ _ _;rw[hb];refine wpAny_ret_mkInt ?_;show aq _ _ (if(decide (-(2:Int)^63<=oR (done.map (kh n)))&&decide (oR (done.map (kh n))<2^63))=true then _ else _) Q E _;unfold reduceHash at q;by_cases hr:(decide (-(2:Int)^63<=oR (done.map (kh n)))&&decide (oR (done.map (kh n))<2^63))=true
   .rw[if_pos hr];rw[if_pos hr]at q;exact aw (q _)
   .rw[if_neg hr];rw[if_neg hr]at q;exact ah (yj (aw (q _)))
theorem zF{n:Nat}{f:ac->Sem Bool}{b0:Bool}{g:ac->Option Bool×PUnit->Sem (ForInStep (Option Bool×PUnit))}(hg:∀x r,r.1=none->(∀{E:ac->ai->Prop}{Q:Bool->ai->Prop},Q b0 s->aq (aB prog w) A (f x) Q E s)->∀{Q:ForInStep (Option Bool×PUnit)->ai->Prop},(∀r',r'.1=none->Q (.yield r') s)->aq (aB prog w) A (g x r) Q E s)
  (ih:∀(d:dP)(v:ac)(as:List aa),Nt n d->ir s.heap v d as->∀{E:ac->ai->Prop}{Q:Bool->ai->Prop},Q b0 s->aq (aB prog w) A (f v) Q E s)
  {vs:List ac}{ds:List dP}{as:List aa}(hn:∀x∈ds,Nt n x)(hr:pT s.heap vs ds as){r0:Option Bool×PUnit}(h0:r0.1=none){Q:Option Bool×PUnit->ai->Prop}(q:∀r,r.1=none->Q r s):
  aq (aB prog w) A (forIn vs r0 g) Q E s:=by
 refine o4 _ (λYU r s'=>r.1=none/\s'=s/\∃left as,(∀x∈left,Nt n x)/\pT s.heap YU left as) _ ?_ ?_ _ _ ⟨h0,rfl,ds,as,hn,hr⟩
 .rintro x YU r s' ⟨ZL,rfl,left,as,hn,hl⟩;cases hl with
  | @cons _ _ k ds' ZX bs' h1 Z9=>exact hg x r ZL (λq=>ih k x ZX (hn k bA) h1 q) λr' hr'=>⟨hr',rfl,ds',bs',λx hx=>hn x (bq _ hx),Z9⟩
 .rintro r s' ⟨ZL,rfl,_⟩;exact q r ZL
theorem VR:∀(n:Nat){m:Nat}(d:dP)(v:ac)(as:List aa){A:bh}{E:ac->ai->Prop}{Q:Bool->ai->Prop},n<=m->Nt n d->ir s.heap v d as->Q true s->aq (aB prog w) A (x4 m v) Q E s:=by
 intro n;induction n with
 |zero=>
  intro m d v as A E Q hm hn r q;rcases lO hn r with⟨i,t,rfl,rfl⟩|⟨m,_,_,_,_,_,_,e,_⟩
  .rw[wJ m rfl];exact aw q
  .cases e
 |succ n ih=>
  intro m d v as A E Q hm hn r q;rcases lO hn r with⟨i,t,rfl,rfl⟩|⟨m',ds,a,o,items,k,bs,e,rfl,rfl,ho,hc,hd,hr,hn⟩
  .rw[wJ m rfl];exact aw q
  cases e;obtain⟨m,rfl⟩:∃j,m=j+1:=⟨m-1,by lia⟩;have hT:s.TypeIs (.ref a) "tuple":=⟨o,ho,hc⟩;unfold x4;refine ah (qW hT t7.lookup ?_);dsimp only;refine ah (CT ho hd ?_);refine ah ?_;show aq _ _ (forIn items _ _) _ _ s;rw[<-oY];refine zF (n:=n) (f:=x4 m) (b0:=true) (λx r ZL hx Q q=>?_) (λd v as hn r{E Q}q=>ih d v as (by lia) hn r q) hn hr rfl λr ZL=>?_
  .refine ah (hx ?_);simp only[fO,bO,if_false];exact aw (q _ rfl)
  .obtain⟨r1,r2⟩:=r;have ZL:r1=none:=ZL;subst ZL;exact aw q
theorem Gy:∀(n:Nat){m:Nat}(d:dP)(v:ac)(as:List aa){A:bh}{E:ac->ai->Prop}{Q:Bool->ai->Prop},n<=m->Nt n d->ir s.heap v d as->Q true s->aq (aB prog w) A (FT m v) Q E s:=by
 intro n;induction n with
 |zero=>
  intro m d v as A E Q hm hn r q;rcases lO hn r with⟨i,t,rfl,rfl⟩|⟨m,_,_,_,_,_,_,e,_⟩
  .rw[MG m rfl];exact aw q
  .cases e
 |succ n ih=>
  intro m d v as A E Q hm hn r q;rcases lO hn r with⟨i,t,rfl,rfl⟩|⟨m',ds,a,o,items,k,bs,e,rfl,rfl,ho,hc,hd,hr,hn⟩
  .rw[MG m rfl];exact aw q
  cases e;obtain⟨m,rfl⟩:∃j,m=j+1:=⟨m-1,by lia⟩;have hT:s.TypeIs (.ref a) "tuple":=⟨o,ho,hc⟩;unfold FT;refine ah (qW hT F.slot_tuple_eq.lookup ?_);show aq _ _ (nD (.ref a) (.type "tuple") >>= _) _ _ s;refine ah (jr hT isSubtype_tuple_tuple ?_);simp only[fO,bO,if_false];refine ah (CT ho hd ?_);refine ah ?_;show aq _ _ (forIn items _ _) _ _ s;rw[<-oY];refine zF (n:=n) (f:=FT m) (b0:=true) (λx r ZL hx Q q=>?_) (λd v as hn r{E Q}q=>ih d v as (by lia) hn r q) hn hr rfl λr ZL=>?_
  .refine ah (hx ?_);simp only[fO,bO,if_false];exact aw (q _ rfl)
  .obtain⟨r1,r2⟩:=r;have ZL:r1=none:=ZL;subst ZL;exact aw q
theorem Jv:∀(n:Nat){m:Nat}(d:dP)(v:ac)(as:List aa){A:bh}{E:ac->ai->Prop}{Q:Bool->ai->Prop},n<=m->Nt n d->ir s.heap v d as->Q false s->aq (aB prog w) A (tY m v) Q E s:=by
 intro n;induction n with
 |zero=>
  intro m d v as A E Q hm hn r q;rcases lO hn r with⟨i,t,rfl,rfl⟩|⟨m,_,_,_,_,_,_,e,_⟩
  .unfold tY;exact aw q
  .cases e
 |succ n ih=>
  intro m d v as A E Q hm hn r q;rcases lO hn r with⟨i,t,rfl,rfl⟩|⟨m',ds,a,o,items,k,bs,e,rfl,rfl,ho,hc,hd,hr,hn⟩
  .unfold tY;exact aw q
  cases e;obtain⟨m,rfl⟩:∃j,m=j+1:=⟨m-1,by lia⟩;have hT:s.TypeIs (.ref a) "tuple":=⟨o,ho,hc⟩;unfold tY;refine ah (rD hT ?_);refine ah (aw ?_);refine ah (CT ho hd ?_);refine ah ?_;show aq _ _ (forIn items _ _) _ _ s;rw[<-oY];refine zF (n:=n) (f:=tY m) (b0:=false) (λx r ZL hx Q q=>?_) (λd v as hn r{E Q}q=>ih d v as (by lia) hn r q) hn hr rfl λr ZL=>?_
  .refine ah (hx ?_);simp only[bO,if_false];exact aw (q _ rfl)
  .obtain⟨r1,r2⟩:=r;have ZL:r1=none:=ZL;subst ZL;exact aw q
theorem US{x:ac}{d:dP}{as:List aa}{vs:List ac}{Q:Bool->ai->Prop}(hn:Nt 8 d)(r:ir s.heap x d as)(hv:∀y∈vs,∃d as,Nt 8 d/\ir s.heap y d as)(q:Q false s):aq (aB prog w) A (BU x vs) Q E s:=by
 unfold BU;refine ah ?_;refine o4 _ (λYU r s'=>r.1=none/\s'=s/\∀y∈YU,∃d as,Nt 8 d/\ir s.heap y d as) _ ?_ ?_ _ _ ⟨rfl,rfl,hv⟩
 .rintro y YU r' s' ⟨hr,rfl,hv⟩;obtain⟨d2,as2,n2,r2⟩:=hv y bA;have Zl:∀y∈YU,∃d as,Nt 8 d/\ir s'.heap y d as:=λy hy=>hv y (bq _ hy);dsimp only;refine Cz (λ_=>?_) λ_=>?_
  .exact aw ⟨rfl,rfl,Zl⟩
  .refine ah (Gy 8 d x as (aT _) hn r ?_);simp only[fO,bO,if_false];refine ah (Gy 8 d2 y as2 (aT _) n2 r2 ?_);simp only[fO,bO,if_false];refine ah (Jv 8 d x as (aT _) hn r ?_);simp only[bO,if_false];refine ah (Jv 8 d2 y as2 (aT _) n2 r2 ?_);simp only[bO,if_false];exact aw ⟨rfl,rfl,Zl⟩
 .rintro⟨r1,r2⟩ s' ⟨hr,rfl,_⟩;simp only at hr;subst hr;exact aw q
end
end Vm
namespace Vm
open PySem PySem.SetTable PySem.Builtin
def bt(w:aQ):Bool:=w.params.followText "set-order"
theorem Iz{α:Type}:∀(l:List α)(i:Nat)(h:i<l.length),(l[i]::l.eraseIdx i).Perm l
 |[],i,h=>by simp at h
 |x::l,0,h=> .refl _
 |x::l,i+1,h=>by rw[mI,List.getElem_cons_succ];exact(List.Perm.swap _ _ _).trans ((Iz l i (by simpa using h)).cons x)
theorem H_{α:Type}(next:Nat->Nat):∀(f k:Nat)(left:List α)(out:Array α),left.length=f->(DR next f k left out).toList.Perm (out.toList++left)
 |0,k,left,out,h=>by rw[tM.mp h];unfold DR;simp
 |f+1,k,left,out,h=>by
  have YK:next k%left.length<left.length:=nH _ (by lia)
  unfold DR;rw[cR YK];dsimp only;refine(H_ next f (k+1) _ _ (by rw[qN,if_pos YK];lia)).trans ?_
  rw[Array.toList_push,mS];refine List.Perm.append_left _ ?_;exact Iz left _ YK
theorem Fx{α:Type}(next:Nat->Nat)(xs:Array α):(yI next xs).toList.Perm xs.toList:=by
 have:=H_ next xs.size 0 xs.toList #[] (bz)
 exact this
section
variable{prog:ba}{w:aQ}{K:Type}[DecidableEq K]{Yz:KD prog w K}{A:bh}{E:ac->ai->Prop}{s:ai}{a r o:aa}{ks ks0:List K}{h h':aM}
structure bN(Yz:KD prog w K)(h:aM)(a:aa)(ks:List K):Prop where
 ex:∃es ep t,ci h a es ep t/\cB Yz h es ks/\t.led= !bt w
 nd:ks.Nodup
def my(Yz:KD prog w K):Prop:=∀{A:bh}{E:ac->ai->Prop}{s:ai}{a:aa}{es:Array (Int×ac)}{ep:Nat}{t:cb}{ks:List K}{k:K}{x:ac}{Q:Bool->ai->Prop},Yz.room A->ci s.heap a es ep t->cB Yz s.heap es ks->Yz.is s.heap k x->es.size<=1000->
  (k∈ks->Q false s)->(k∉ks->∀h' YH Y2 t' YC,cW a s.heap h'->ci h' a YH Y2 t'->cB Yz h' YH YC->YC.Perm (ks++[k])->t'.led=t.led->Q true {s with heap:=h'})->aq (aB prog w) A (rE a x (Yz.hash k)) Q E s
theorem bN.add(ad:my Yz)(hr:Yz.room A)(S:bN Yz s.heap a ks){k:K}{x:ac}(hx:Yz.is s.heap k x)(YI:ks.length<=1000){Q:Bool->ai->Prop}
  (q:∀h' YC,cW a s.heap h'->bN Yz h' a YC->(∀j,j∈YC↔j∈ks\/j=k)->∀b,Q b {s with heap:=h'}):aq (aB prog w) A (rE a x (Yz.hash k)) Q E s:=by
 obtain⟨es,ep,t,S1,L,hl⟩:=S.ex;refine ad hr S1 L hx (by rw[L.1];exact YI) (λhk=>?_) λhk h' YH Y2 t' YC sb S' L' p l'=>?_
 .exact q s.heap ks (qV a s.heap) S (λj=>⟨.inl,λz=>z.elim id λe=>e▸hk⟩) _
 .refine q h' YC sb ⟨⟨YH,Y2,t',S',L',by rw[l'];exact hl⟩,p.nodup_iff.mpr ?_⟩ (λj=>?_) _
  .rw[hJ];exact⟨S.nd,by simp,λx hx y hy e=>hk (by rw[<-bY.mp hy,<-e];exact hx)⟩
  .rw[p.mem_iff,bT,bY]
theorem bN.keep(S:bN Yz h a ks)(k1:∀o,h.get? a=some o->h'.get? a=some o)(k2:∀k v,Yz.is h k v->Yz.is h' k v):bN Yz h' a ks:=by obtain⟨es,ep,t,S1,L,hl⟩:=S.ex;obtain⟨o,h1,h2⟩:=S1.ob;exact⟨⟨es,ep,t,⟨⟨o,k1 _ h1,h2⟩,S1.ok,S1.Ψ,S1.plain,S1.small⟩,⟨L.1,λi e k hi hk=>⟨(L.2 i e k hi hk).1,k2 _ _ (L.2 i e k hi hk).2⟩⟩,hl⟩,S.nd⟩
theorem Tg{β:Type}(led:Bool):ge (.fresh 0 0 led) ((#[]:Array (Int×β)).map (·.1)):=⟨⟨3,rfl⟩,λi j h1 h2=>by simp[CY]at h2,λi h=>by simp[CY]at h,by rw[fB];rfl,rfl,dJ 7,λx hx=>by simp[CY]at hx⟩
theorem yz(hp:h.get? a=some {cls:= .type "set",dict:=none,data:= .set #[] 0 (.fresh 0 0 (!bt w))}):bN Yz h a []:=
 ⟨⟨#[],0,.fresh 0 0 (!bt w),⟨⟨_,hp,⟨rfl,rfl,rfl⟩,rfl⟩,Tg _,show 0<21 by decide,rfl,show 7<=8191 by decide⟩,⟨rfl,λi e k hi=>by simp at hi⟩,rfl⟩,mZ⟩
theorem Ic{Q:ac->ai->Prop}(q:∀h',h'=s.heap.push {cls:= .type "set",dict:=none,data:= .set #[] 0 (.fresh 0 0 (!bt w))}->bN Yz h' s.heap.objs.size []->Q (.ref s.heap.objs.size) {s with heap:=h'}):aq (aB prog w) A (newSet (.type "set")) Q E s:=by unfold newSet rQ;refine ah (ah (lA (aw ?_)));dsimp only;simp only[newObj];exact ah (Er (aw (q _ rfl (yz (cZ _ rfl)))))
theorem TF{es:Array (Int×ac)}{ep:Nat}{t:cb}(S:ci s.heap a es ep t)(hl:t.led= !bt w){Q:Array (Int×ac)->ai->Prop}(q:∀YH,YH.toList.Perm es.toList->Q YH s):aq (aB prog w) A (setWalk a) Q E s:=by
 unfold setWalk rQ;refine ah (S.state ?_);dsimp only;refine ah (ah (lA (aw ?_)));show aq _ _ (if bt w=true then _ else _) _ _ _;cases hb:bt w with
 |true=>simp only[↓reduceIte];exact ah (lA (aw (q _ (Fx _ _))))
 |false=>rw[hb]at hl;simp only[bO,↓reduceIte];show aq _ _ (if(!t.plain&&es.size>1)=true then _ else _) _ _ _;rw[S.plain];simp only[fO,lF,bO,↓reduceIte];refine ah ?_;show aq _ _ (if(!t.led&&es.size>1)=true then _ else _) _ _ _;rw[hl];simp only[kK,fO,lF,bO,↓reduceIte];exact aw (aw (q es (.refl _)))
theorem yJ{es:Array (Int×ac)}{ep:Nat}{t:cb}{others:List aa}{f:Option aa}(S:ci s.heap a es ep t)(hl:t.led= !bt w){Q:Array (Int×ac)->ai->Prop}(q:∀YH,YH.toList.Perm es.toList->Q YH s):aq (aB prog w) A (setWalkUnseen a others f) Q E s:=by unfold setWalkUnseen rQ;refine ah (S.state ?_);dsimp only;refine ah (ah (lA (aw ?_)));show aq _ _ (if(bt w||t.led&&t.plain||decide (es.size<=1))=true then _ else _) _ _ _;rw[if_pos (by rw[hl,S.plain];cases bt w<;>simp)];exact TF S hl q
end
theorem sM{α:Type}[DecidableEq α]:∀(l r:List α),l.Nodup->(∀n∈l,n∈r)->l.length<=r.length
 |[],r,_,_=>dJ _
 |a::l,r,nd,h=>by
  rw[fT]at nd;have ha:=h a bA;have:=sM l (r.erase a) nd.2 λn hn=>(Bn λe:n=a=>nd.1 (e▸hn)).mpr (h n (bq _ hn));rw[oU ha]at this;have:=tO ha;rw[cC]
  lia
section
variable{prog:ba}{w:aQ}{K:Type}[DecidableEq K]{Yz:KD prog w K}{A:bh}{E:ac->ai->Prop}{s:ai}{a r o:aa}{ks ks0:List K}{h h':aM}
theorem bN.typeIs(S:bN Yz s.heap a ks):s.TypeIs (.ref a) "set":=by obtain⟨es,ep,t,S1,_⟩:=S.ex;obtain⟨o,h1,h2,_⟩:=S1.ob;exact⟨o,h1,h2.1⟩
theorem bN.other(S:bN Yz h a ks)(R:bN Yz h r ks0)(ne:a≠r)(sb:cW r h h'):bN Yz h' a ks:=by obtain⟨es,ep,t,S1,_⟩:=R.ex;obtain⟨o,h1,_,h3⟩:=S1.ob;exact S.keep (λo e=>by rw[sb.2 a ne];exact e) λk v z=>Yz.keep z h1 h3 sb
theorem bN.room(S:bN Yz s.heap a ks){n:Nat}(YI:ks.length+n<=1000){Q:Unit->ai->Prop}
  (q:∀h' YC es ep t,cW a s.heap h'->bN Yz h' a YC->YC.Perm ks->ci h' a es ep t->cB Yz h' es YC->t.led= !bt w->(ks.length+n)*5<t.mask*3->Q () {s with heap:=h'}):aq (aB prog w) A (setRoomFor a n) Q E s:=by
 obtain⟨es,ep,t,S1,L,hl⟩:=S.ex;obtain⟨o,h1,h2,h3⟩:=S1.ob;have sz:t.place.size=ks.length:=by rw[S1.ok.sz,fB,L.1]
 unfold setRoomFor;refine ah (S1.state ?_);dsimp only;unfold SetTable.roomFor nh;rw[S1.ok.nd,sz];by_cases c:(ks.length+(#[]:Array Nat).size+n)*5>=t.mask*3
 .rw[if_pos c];dsimp only;have c:(ks.length+n)*5>=t.mask*3:=by simpa using c
  refine Gd h1 h2 h3 S1.ok S1.plain (by lia) (by rw[L.1];lia) (by have:=S1.Ψ;lia) λh' YH t' sb S' p adF hm=>?_;obtain⟨YC,L',p'⟩:=(L.keep h1 h3 sb).perm p;exact q h' YC YH _ t' sb ⟨⟨YH,_,t',S',L',by rw[adF];exact hl⟩,p'.nodup_iff.mpr S.nd⟩ p' S' L' (by rw[adF];exact hl) (by have:=S1.Ψ;lia)
 .rw[if_neg c];have c:¬(ks.length+n)*5>=t.mask*3:=by simpa using c
  exact aw (q s.heap ks es ep t (qV a s.heap) S (.refl _) S1 L hl (by lia))
theorem Ea(Sr:bN Yz s.heap r [])(So:bN Yz s.heap o ks)(ne:r≠o)(YI:ks.length<=1000){amJ:Sem Unit}{Q:Unit->ai->Prop}(q:∀h' YC,cW r s.heap h'->bN Yz h' r YC->YC.Perm ks->Q () {s with heap:=h'}):aq (aB prog w) A (zi r o amJ) Q E s:=by
 obtain⟨eo,epo,to,Zw,Lo,hlo⟩:=So.ex;have ner:(r==o)=false:=by simpa using ne
 unfold zi;rw[ner];simp only[bO,↓reduceIte];refine ah (Zw.state ?_);dsimp only;by_cases ce:eo.isEmpty=true
 .rw[if_pos ce];have:ks=[]:=tM.mp (by rw[<-Lo.1];simpa using ce);subst this;exact aw (q s.heap [] (qV r s.heap) Sr (.refl _))
 rw[if_neg ce];refine ah (Sr.room (n:=eo.size) (by rw[Lo.1];simpa using YI) λh1 Zk Zf ep1 t1 sb1 S1 p1 T1 L1 Zm hm=>?_);have e1:Zk=[]:=p1.eq_nil;subst e1;have z1:Zf= #[]:=by have:=L1.1;exact Array.eq_empty_of_size_eq_zero this
 subst z1;refine ah (T1.state (s:={s with heap:=h1}) ?_);dsimp only;have zp:t1.place.size=0:=by rw[T1.ok.sz];simp
 have So2:=So.other Sr (aX ne) sb1;obtain⟨ob,g1,g2,g3⟩:=T1.ob;have YV:eo.size<=1000:=by rw[Lo.1];exact YI
 have Lo2:cB Yz h1 eo ks:=by obtain⟨esr,epr,tr,Sr1,_⟩:=Sr.ex;obtain⟨o',r1,_,r3⟩:=Sr1.ob;exact Lo.keep r1 r3 sb1
 have fin:∀(Zi:Array (Int×ac))(t2:cb),Zi.toList.Perm eo.toList->ge t2 (Zi.map (·.1))->Zi.size*5<t2.mask*3->t2.plain=true->t2.mask<=8191->t2.led= !bt w->aq (aB prog w) A (storeSet r Zi t2) Q E {s with heap:=h1}:=λZi t2 p ok ro pl sm hl=>by
  have esz:Zi.size=eo.size:=by rw[<-bz,p.length_eq,bz]
  refine qS (s:={s with heap:=h1}) g1 g3 ?_ (by rw[esz,bC];lia);have hg:(h1.update r (fW Zi t2)).get? r=some {ob with data:= .set Zi (ep1+1) t2}:=by have:=oV (fW Zi t2) g1 (by rw[jz _ t2 g3];rfl);rw[jz _ t2 g3]at this;exact this
  have Zc:=mM h1 r (fW Zi t2);obtain⟨YL,L2,p2⟩:=(Lo2.keep g1 g3 Zc).perm p;exact q _ YL (sb1.trans Zc) ⟨⟨Zi,_,t2,⟨⟨_,hg,g2,rfl⟩,ok,by rw[ok.sz,fB];exact ro,pl,sm⟩,L2,hl⟩,p2.nodup_iff.mpr So.nd⟩ p2
 unfold Oq nh;rw[T1.ok.nd,zp];simp only[Array.size_empty,Nat.add_zero,bne_self_eq_false,bO,↓reduceIte];by_cases c:(t1.mask==to.mask&&to.dummies.isEmpty)=true
 .rw[if_pos c];dsimp only;have ro:=Zw.Ψ;rw[Zw.ok.sz,fB]at ro;exact fin eo _ (.refl _) ⟨Zw.ok.pw,Zw.ok.rise,Zw.ok.le,Zw.ok.sz,Zw.ok.nd,Zw.ok.room,Zw.ok.rch⟩ ro (by show(t1.plain&&to.plain)=true;rw[T1.plain,Zw.plain];rfl) Zw.small (by show(t1.led&&to.led)=_;rw[Zm,hlo];cases bt w<;>rfl)
 .rw[if_neg c];dsimp only;obtain⟨k,hk⟩:=T1.ok.pw;have hm:eo.size*5<t1.mask*3:=by simpa using hm
  obtain⟨t',order,l1,l2,l3,l4,l5,l6,l7,l8,l9,l10⟩:=Im (es:=eo) t1.finger t1.moves (t1.led&&to.led) (t1.plain&&to.plain) hk (by lia);rw[l1];refine ah ?_;show aq _ _ (if((order.filterMap (eo[·]?)).size !=eo.size)=true then _ else _) _ _ _;rw[if_neg (by simp[l2])];refine aw ?_;exact fin _ t' l3 l4 (by rw[l2,l5];exact hm) (by rw[l9,T1.plain,Zw.plain];rfl) (by rw[l5];exact T1.small) (by rw[l7,Zm,hlo];cases bt w<;>rfl)
theorem bN.epoch(S:bN Yz s.heap a ks){Q:Nat->ai->Prop}(q:∀es ep t,ci s.heap a es ep t->cB Yz s.heap es ks->t.led= !bt w->Q ep s):aq (aB prog w) A (lP a) Q E s:=by obtain⟨es,ep,t,S1,L,hl⟩:=S.ex;unfold lP;exact ah (S1.state (aw (q es ep t S1 L hl)))
theorem QT(ad:my Yz)(hr:Yz.room A)(Sr:bN Yz s.heap r ks0)(So:bN Yz s.heap o ks)(ne:r≠o)(n0:ks0≠[])(YI:ks0.length+ks.length<=500){id:String}{was:Nat}(hw:∃es t,ci s.heap o es was t){Q:Unit->ai->Prop}
  (q:∀h' YC,cW r s.heap h'->bN Yz h' r YC->(∀j,j∈YC↔j∈ks0\/j∈ks)->Q () {s with heap:=h'}):aq (aB prog w) A (zi r o (qO id o was)) Q E s:=by
 obtain⟨eo,epo,to,Zw,Lo,hlo⟩:=So.ex;have ew:epo=was:=by obtain⟨es,t,S2⟩:=hw;obtain⟨o1,a1,_,a3⟩:=S2.ob;obtain⟨o2,b1,_,b3⟩:=Zw.ob;rw[b1]at a1;cases a1;rw[b3]at a3;injection a3
 subst ew;have ner:(r==o)=false:=by simpa using ne
 unfold zi;rw[ner];simp only[bO,↓reduceIte];refine ah (Zw.state ?_);dsimp only;by_cases ce:eo.isEmpty=true
 .rw[if_pos ce];have:ks=[]:=tM.mp (by rw[<-Lo.1];simpa using ce);subst this;exact aw (q s.heap ks0 (qV r s.heap) Sr λj=>by simp)
 rw[if_neg ce];refine ah (Sr.room (n:=eo.size) (by rw[Lo.1];lia) λh1 Zk Zf ep1 t1 sb1 S1 p1 T1 L1 Zm hm=>?_);refine ah (T1.state (s:={s with heap:=h1}) ?_);dsimp only;have So2:=So.other Sr (aX ne) sb1;have adl:∀h2,cW r s.heap h2->ci h2 o eo epo to:=λh2 sb=>by obtain⟨o1,a1,a2,a3⟩:=Zw.ob;exact⟨⟨o1,by rw[sb.2 o (aX ne)];exact a1,a2,a3⟩,Zw.ok,Zw.Ψ,Zw.plain,Zw.small⟩
 obtain⟨or,r1,_,r3⟩:∃o,s.heap.get? r=some o/\o.ExactSet/\∃es ep t,o.data= .set es ep t:=by obtain⟨es,ep,t,S2,_⟩:=Sr.ex;obtain⟨o,a,b,c⟩:=S2.ob;exact⟨o,a,b,es,ep,t,c⟩
 obtain⟨esr,epr,tr,r3⟩:=r3;have ajm:t1.road to= .oneByOne:=by
  unfold Oq nh;rw[if_pos];have:t1.place.size=ks0.length:=by rw[T1.ok.sz,fB,L1.1,p1.length_eq]
  have:0<ks0.length:=List.length_pos_iff.mpr n0;rw[bne_iff_ne]
  lia
 rw[ajm];dsimp only;refine ah (yJ (s:={s with heap:=h1}) (adl h1 sb1) hlo λYH p=>?_);obtain⟨Y9,Lo',po⟩:=Lo.perm p;refine ah ?_;show aq _ _ (forIn YH _ _) _ _ _;rw[<-oY];refine o4 _ (λYU(_:PUnit)s'=>∃h' n YC,s'={s with heap:=h'}/\cW r s.heap h'/\bN Yz h' r YC/\YU=YH.toList.drop n/\n<=Y9.length/\YC.length<=ks0.length+n/\∀j,j∈YC↔j∈ks0\/j∈Y9.take n) _ ?_ ?_ _ _ ⟨h1,0,Zk,rfl,sb1,S1,rfl,dJ _,by rw[p1.length_eq];lia,λj=>by rw[p1.mem_iff];simp⟩
 .rintro⟨hh,x⟩ YU u s' ⟨h2,n,YL,rfl,Zc,S2,Zl,hn,YG,Y1⟩;have Τ:YH[n]? =some (hh,x):=by rw[<-fw,<-CG,<-Zl];rfl
  have Zu:n<Y9.length:=by have:=(kz.mp Τ).1;rw[Lo'.1]at this;exact this
  have hk:Y9[n]? =some Y9[n]:=cR Zu;obtain⟨e1,e2⟩:=Lo'.2 n _ _ Τ hk;have e1:hh=Yz.hash Y9[n]:=e1;subst e1;have hlk:Y9.length=ks.length:=po.length_eq;refine ah (gW (S2.add (s:={s with heap:=h2}) ad hr (Yz.keep e2 r1 r3 Zc) (by lia) λh3 ks3 ZJ S3 hm3 b=>?_));have afW:=Zc.trans ZJ;have T3:=adl h3 afW;refine ah ?_;unfold qO lP;refine ah (ah (T3.state (s:={s with heap:=h3}) (aw ?_)));simp only[bne_self_eq_false,bO,↓reduceIte];refine aw ?_;refine ah (T3.state (s:={s with heap:=h3}) ?_);simp only[bne_self_eq_false,bO,↓reduceIte];refine aw ⟨h3,n+1,ks3,rfl,afW,S3,?_,Zu,?_,λj=>?_⟩
  .rw[<-rj,<-Zl];rfl
  .have:=sM ks3 (YL++[Y9[n]]) S3.nd λj hj=>by rw[bT,bY];exact(hm3 j).mp hj
   rw[bG]at this;simp at this
   lia
  .have et:Y9.take (n+1)=Y9.take n++[Y9[n]]:=by rw[dA,hk];rfl
   rw[hm3,Y1,et,bT,bY];constructor
   .rintro((z|z)|z)
    .exact .inl z
    .exact .inr (.inl z)
    .exact .inr (.inr z)
   .rintro(z|z|z)
    .exact .inl (.inl z)
    .exact .inl (.inr z)
    .exact .inr z
 .rintro u s' ⟨h2,n,YL,rfl,Zc,S2,Zl,hn,YG,Y1⟩;refine aw (q h2 YL Zc S2 λj=>?_);have:n=Y9.length:=by
   have:=congrArg fV Zl;rw[gH,qY,bz,Lo'.1]at this
   lia
  rw[Y1,this,dz,po.mem_iff]
end
theorem OP:vk table "set.__or__"=some Builtin.«frozenset.__or__»:=xw (id':="frozenset.__or__") (by kernel_rfl) rfl (by decide+kernel) (by kernel_rfl)
theorem Ol:vk table "set.__sub__"=some Builtin.«frozenset.__sub__»:=xw (id':="frozenset.__sub__") (by kernel_rfl) rfl (by decide+kernel) (by kernel_rfl)
theorem D5:isSubtype (.type "set") (.type "set")=pure true:=by rw[rb];kernel_rfl
section
variable{prog:ba}{w:aQ}{K:Type}[DecidableEq K]{Yz:KD prog w K}{A:bh}{E:ac->ai->Prop}{s:ai}{a r o:aa}{ks ks0 Zk YL:List K}{h h':aM}
def gS(h h':aM):Prop:=∀b o,b<h.objs.size->h.get? b=some o->h'.get? b=some o
theorem bN.old(S:bN Yz h a ks)(k:gS h h'):bN Yz h' a ks:=S.keep (λo e=>k a o (bK e) e) λj v z=>Yz.st z λb ob YA m e _=>k b ob (bK e) e
theorem on(S:bN Yz s.heap a ks){Q:Bool->ai->Prop}(q:Q true s):aq (aB prog w) A (kF (.ref a)) Q E s:=by unfold kF;show aq _ _ (nD (.ref a) (.type "set") >>= _) _ _ _;exact ah (jr S.typeIs D5 (aw q))
theorem Hr(S:bN Yz s.heap a ks){Q:ac->ai->Prop}(q:Q (.type "set") s):aq (aB prog w) A (Nk a) Q E s:=by unfold Nk;exact ah (jr S.typeIs D5 (aw q))
theorem u9(S:bN Yz s.heap a ks){Q:Nat->ai->Prop}(q:Q ks.length s):aq (aB prog w) A (Nj a) Q E s:=by obtain⟨es,ep,t,S1,L,_⟩:=S.ex;unfold Nj yk;refine ah (ah (S1.state (aw ?_)));exact aw (by rw[L.1];exact q)
theorem rZ(ob:Obj):gS h (h.push ob):=λb o hb e=>cS _ e
theorem gS.but(k:gS h h'){h2:aM}(sb:cW h.objs.size h' h2):gS h h2:=λb o hb e=>by rw[sb.2 b (cx hb)];exact k b o hb e
theorem JO(S:bN Yz s.heap o ks)(YI:ks.length<=1000){Q:ac->ai->Prop}(q:∀h' YC,gS s.heap h'->bN Yz h' s.heap.objs.size YC->YC.Perm ks->Q (.ref s.heap.objs.size) {s with heap:=h'}):aq (aB prog w) A (Ch o) Q E s:=by
 unfold Ch;refine ah (Hr S ?_);refine ah (Ic (Yz:=Yz) λh1 e1 S1=>?_);refine ah (aw ?_);have o1:gS s.heap h1:=by rw[e1];exact rZ _
 have So:=S.old o1;have ne:s.heap.objs.size≠o:=λz=>by obtain⟨es,ep,t,T,_⟩:=S.ex;obtain⟨ob,g,_⟩:=T.ob;have:=bK g;rw[<-z]at this;exact absurd this (gI _)
 refine ah (Ea (s:={s with heap:=h1}) S1 So ne YI λh2 YL sb S2 p=>aw (q h2 YL (o1.but sb) S2 p))
theorem TJ(ad:my Yz)(hr:Yz.room A.in1)(S1:bN Yz s.heap a Zk)(S2:bN Yz s.heap o YL)(ne:a≠o)(YI:Zk.length+YL.length<=500){Q:ac->ai->Prop}
  (q:∀h' YC,gS s.heap h'->bN Yz h' s.heap.objs.size YC->(∀j,j∈YC↔j∈Zk\/j∈YL)->Q (.ref s.heap.objs.size) {s with heap:=h'}):aq (aB prog w) A (jZ .BitOr (.ref a) (.ref o)) Q E s:=by
 refine Ml (op:= .BitOr) (T:="set") S1.typeIs S2.typeIs F.fills_set_or F.slot_set_or (iU F.slot_set_or S1.typeIs OP ?_ (F.args_set_or_2 _ _));show aq _ _ ((kF (.ref a) <&&> kF (.ref o)) >>= _) _ _ _;refine ah ?_;show aq _ _ (kF (.ref a) >>= _) _ _ _;refine ah (on S1 ?_);show aq _ _ (kF (.ref o)) _ _ _;refine on S2 ?_;simp only[fO,bO,↓reduceIte];refine ah (aw ?_);refine ah ?_;show aq _ _ (Ch a >>= _) _ _ _;refine ah (JO S1 (by lia) λh1 k1 o1 C p=>?_);have ner:(cv o !=cv a)=true:=by simpa using aX ne
 rw[if_pos ner];refine ah (aw ?_);have So:=S2.old o1;have nep:s.heap.objs.size≠o:=λz=>by obtain⟨es,ep,t,T,_⟩:=S2.ex;obtain⟨ob,g,_⟩:=T.ob;have:=bK g;rw[<-z]at this;exact absurd this (gI _)
 refine ah (gW ?_);unfold Frozenset.updateFrom;refine ah (on (s:={s with heap:=h1}) So ?_);simp only[↓reduceIte];refine ah (aw ?_);unfold Frozenset.merge;refine ah (So.epoch (s:={s with heap:=h1}) λes ep t T L hl=>?_);have fin:∀h' YC,cW s.heap.objs.size h1 h'->bN Yz h' s.heap.objs.size YC->(∀j,j∈YC↔j∈Zk\/j∈YL)->aq (aB prog w) A.in1 (pure (cv s.heap.objs.size)) (λv s'=>aq (aB prog w) A.in1 (ret v) (λfin s'=>∃v,fin=Fin.done (Flow.ret v)/\v≠Ma/\Q v s') E s') E {s with heap:=h'}:=
  λh' YC sb S' hm=>aw (aw ⟨_,rfl,(λe=>nomatch e),q h' YC (o1.but sb) S' hm⟩)
 cases hk:k1 with
 |nil=>rw[hk]at C p;have e1:Zk=[]:=p.symm.eq_nil;exact Ea (s:={s with heap:=h1}) C So nep (by lia) λh2 k2 sb S' p2=>fin h2 k2 sb S' λj=>by rw[p2.mem_iff,e1];simp
 |cons x l=>exact QT (s:={s with heap:=h1}) ad hr C So nep (by rw[hk];simp) (by rw[p.length_eq];exact YI) ⟨es,t,T⟩ λh2 k2 sb S' hm=>fin h2 k2 sb S' λj=>by rw[hm,p.mem_iff]
structure tI(h:aM)(a:aa)(n:Nat):Prop where
 ex:∃ob es ep t,h.get? a=some ob/\ob.ExactSet/\ob.data= .set es ep t/\t.fits es.size=true/\es.size=n
theorem Wa(ad:my Yz)(ZP:Yz.scan=false)(hr:Yz.room A.in1)(S1:bN Yz s.heap a Zk)(S2:bN Yz s.heap o YL)(ne:a≠o)(f1:Zk.length<=12)(f2:YL.length<=12){Q:ac->ai->Prop}
  (q:∀h',gS s.heap h'->tI h' s.heap.objs.size (Zk.filter λk=> !YL.contains k).length->Q (.ref s.heap.objs.size) {s with heap:=h'}):aq (aB prog w) A (jZ .Sub (.ref a) (.ref o)) Q E s:=by
 refine Ml (op:= .Sub) (T:="set") S1.typeIs S2.typeIs F.fills_set_sub N3 (iU N3 S1.typeIs Ol ?_ (F.args_set_sub_2 _ _));show aq _ _ ((kF (.ref a) <&&> kF (.ref o)) >>= _) _ _ _;refine ah ?_;show aq _ _ (kF (.ref a) >>= _) _ _ _;refine ah (on S1 ?_);show aq _ _ (kF (.ref o)) _ _ _;refine on S2 ?_;simp only[fO,bO,↓reduceIte];refine ah (aw ?_);refine ah ?_;unfold Frozenset.difference;dsimp only;refine ah (on S2 ?_);simp only[fO,bO,↓reduceIte];refine ah (aw ?_);simp only[lF,bO,↓reduceIte];refine ah (u9 S2 ?_);refine ah (u9 S1 ?_);have npo:s.heap.objs.size≠o:=λz=>by obtain⟨es,ep,t,T,_⟩:=S2.ex;obtain⟨ob,g,_⟩:=T.ob;have:=bK g;rw[<-z]at this;exact absurd this (gI _)
 have npa:s.heap.objs.size≠a:=λz=>by obtain⟨es,ep,t,T,_⟩:=S1.ex;obtain⟨ob,g,_⟩:=T.ob;have:=bK g;rw[<-z]at this;exact absurd this (gI _)
 have fin:∀(h':aM)(YC:List K),gS s.heap h'->tI h' s.heap.objs.size YC.length->YC.Nodup->(∀j,j∈YC↔j∈Zk/\j∉YL)->aq (aB prog w) A.in1 (pure (cv s.heap.objs.size)) (λv s'=>aq (aB prog w) A.in1 (ret v) (λfin s'=>∃v,fin=Fin.done (Flow.ret v)/\v≠Ma/\Q v s') E s') E {s with heap:=h'}:=
  λh' YC ol c nd hm=>by
   have e:YC.length=(Zk.filter λk=> !YL.contains k).length:=by refine By ((mH nd (S1.nd.filter _)).mpr λj=>?_);rw[hm,bM];simp
   rw[e]at c;exact aw (aw ⟨_,rfl,(λe=>nomatch e),q h' ol c⟩)
 by_cases c:Zk.length/4>YL.length
 .rw[if_pos c];refine ah (yj ?_);refine ah (JO S1 (by lia) λh1 k1 o1 C p=>?_);refine ah (aw ?_);have So:=S2.old o1;refine ah (gW ?_);unfold Frozenset.differenceUpdate;have nb:(cv o==cv s.heap.objs.size)=false:=by simpa using aX npo
  rw[nb];simp only[bO,↓reduceIte];refine ah (on (s:={s with heap:=h1}) So ?_);simp only[↓reduceIte];refine ah (aw ?_);refine ah (u9 (s:={s with heap:=h1}) So ?_);refine ah (u9 (s:={s with heap:=h1}) C ?_);rw[if_neg (by lia)];obtain⟨eo,epo,to,To,Lo,hlo⟩:=So.ex;refine ah ?_;unfold lP;refine ah (To.state (s:={s with heap:=h1}) (aw ?_));refine ah (gW ?_);refine ah (yJ (s:={s with heap:=h1}) To hlo λYH pw=>?_);obtain⟨Y9,Lo',po⟩:=Lo.perm pw;refine ah ?_;show aq _ _ (forIn YH _ _) _ _ _;rw[<-oY];obtain⟨esc,epc,tc,Tc,Lc,hlc⟩:=C.ex;obtain⟨oc,r1,_,r3⟩:=Tc.ob;have adl:∀h2,cW s.heap.objs.size h1 h2->ci h2 o eo epo to:=λh2 sb=>by obtain⟨ob,a1,a2,a3⟩:=To.ob;exact⟨⟨ob,by rw[sb.2 o (aX npo)];exact a1,a2,a3⟩,To.ok,To.Ψ,To.plain,To.small⟩
  have szc:tc.place.size=Zk.length:=by rw[Tc.ok.sz,fB,Lc.1,p.length_eq]
  have rc:=Tc.Ψ;refine o4 _ (λYU(_:PUnit)s'=>∃h' n es ep t kk,s'={s with heap:=h'}/\cW s.heap.objs.size h1 h'/\ko h' s.heap.objs.size es ep t/\cB Yz h' es kk/\kk.Nodup/\(∀x∈t.place.toList,x∉t.dummies.toList)/\t.dummies.size<=n/\t.mask=tc.mask/\YU=YH.toList.drop n/\n<=Y9.length/\∀j,j∈kk↔j∈Zk/\j∉Y9.take n) _ ?_ ?_ _ _
   ⟨h1,0,esc,epc,tc,k1,rfl,qV _ _,Tc.F (s:={s with heap:=h1}),Lc,C.nd,(λx _ z=>by rw[Tc.ok.nd]at z;simp at z),by rw[Tc.ok.nd];exact aT _,rfl,rfl,dJ _,λj=>by rw[p.mem_iff];simp⟩
  .rintro⟨hh,x⟩ YU u s' ⟨h2,n,Zi,ep2,t2,kk,rfl,Zc,F2,L2,Z6,afu,dd2,mk2,Zl,hn,Y1⟩;have Τ:YH[n]? =some (hh,x):=by rw[<-fw,<-CG,<-Zl];rfl
   have Zu:n<Y9.length:=by have:=(kz.mp Τ).1;rw[Lo'.1]at this;exact this
   have hk:Y9[n]? =some Y9[n]:=cR Zu;obtain⟨e1,e2⟩:=Lo'.2 n _ _ Τ hk;have e1:hh=Yz.hash Y9[n]:=e1;subst e1;have et:Y9.take (n+1)=Y9.take n++[Y9[n]]:=by rw[dA,hk];rfl
   have ac1:∀h3 es3 ep3 t3 Δ,cW s.heap.objs.size h1 h3->ko h3 s.heap.objs.size es3 ep3 t3->cB Yz h3 es3 Δ->Δ.Nodup->(∀x∈t3.place.toList,x∉t3.dummies.toList)->t3.dummies.size<=n+1->t3.mask=tc.mask->(∀j,j∈Δ↔j∈Zk/\j∉Y9.take (n+1))->_:=λh3 es3 ep3 t3 Δ ZJ F3 L3 nd3 aft dd3 mk3 hm3=>
    (show _/\_ from⟨adl h3 ZJ,(⟨h3,n+1,es3,ep3,t3,Δ,rfl,ZJ,F3,L3,nd3,aft,dd3,mk3,by rw[<-rj,<-Zl];rfl,Zu,hm3⟩:∃h' n es ep t kk,({s with heap:=h3}:ai)={s with heap:=h'}/\cW s.heap.objs.size h1 h'/\ko h' s.heap.objs.size es ep t/\cB Yz h' es kk/\kk.Nodup/\(∀x∈t.place.toList,x∉t.dummies.toList)/\t.dummies.size<=n/\t.mask=tc.mask/\YU=YH.toList.drop n/\n<=Y9.length/\∀j,j∈kk↔j∈Zk/\j∉Y9.take n)⟩)
   refine ah (gW (Q6 (s:={s with heap:=h2}) ZP hr F2 L2 Z6 afu (Yz.keep e2 r1 r3 Zc) (λZC=>?_) λZC h3 es3 t3 ZJ F3 L3 aft dd3 mk3=>?_))
   .obtain⟨T3,afl⟩:=ac1 h2 Zi ep2 t2 kk Zc F2 L2 Z6 afu (by lia) mk2 λj=>by rw[Y1,et,bT,bY];refine and_congr_right λhj=>⟨λz y=>y.elim z λe=>ZC (e▸(Y1 j).mpr ⟨hj,z⟩),λz y=>z (.inl y)⟩
    refine ah ?_;unfold qO lP;refine ah (ah (T3.state (s:={s with heap:=h2}) (aw ?_)));simp only[bne_self_eq_false,bO,↓reduceIte];exact aw (aw afl)
   .obtain⟨T3,afl⟩:=ac1 h3 es3 _ t3 (kk.erase Y9[n]) (Zc.trans ZJ) F3 L3 (Z6.erase _) aft (by lia) (by rw[mk3];exact mk2) λj=>by rw[Z6.mem_erase_iff,Y1,et,bT,bY];exact⟨λz=>⟨z.2.1,λy=>y.elim z.2.2 z.1⟩,λz=>⟨λy=>z.2 (.inr y),z.1,λy=>z.2 (.inl y)⟩⟩
    refine ah ?_;unfold qO lP;refine ah (ah (T3.state (s:={s with heap:=h3}) (aw ?_)));simp only[bne_self_eq_false,bO,↓reduceIte];exact aw (aw afl)
  .rintro u s' ⟨h2,n,Zi,ep2,t2,kk,rfl,Zc,F2,L2,Z6,afu,dd2,mk2,Zl,hn,Y1⟩;have hnk:n=Y9.length:=by
    have:=congrArg fV Zl;rw[gH,qY,bz,Lo'.1]at this
    lia
   have hlk:Y9.length=YL.length:=po.length_eq;refine aw ?_;unfold setTidy;refine ah (F2.state (s:={s with heap:=h2}) ?_);dsimp only;have:t2.tooManyDummies=false:=by
    unfold SetTable.tooManyDummies;simp
    lia
   rw[this];simp only[bO,↓reduceIte];refine aw ?_;obtain⟨ob,g1,g2,g3⟩:=F2.ob;exact fin h2 kk (o1.but Zc) ⟨ob,Zi,ep2,t2,g1,g2,g3,F2.fit,L2.1⟩ Z6 λj=>by rw[Y1,hnk,dz,po.mem_iff]
 .rw[if_neg c];refine ah (Hr S1 ?_);refine ah (Ic (Yz:=Yz) λh1 e1 C=>?_);refine ah (aw ?_);have o1:gS s.heap h1:=by rw[e1];exact rZ _
  have Sa:=S1.old o1;have So:=S2.old o1;obtain⟨ea,epa,ta,Ta,La,hla⟩:=Sa.ex;unfold lP;refine ah (ah (Ta.state (s:={s with heap:=h1}) (aw ?_)));refine ah (gW ?_);refine ah (yJ (s:={s with heap:=h1}) Ta hla λYH pw=>?_);obtain⟨Z7,La',pa⟩:=La.perm pw;refine ah ?_;show aq _ _ (forIn YH _ _) _ _ _;rw[<-oY];have aip:∀h2,cW s.heap.objs.size h1 h2->ci h2 a ea epa ta:=λh2 sb=>by obtain⟨ob,a1,a2,a3⟩:=Ta.ob;exact⟨⟨ob,by rw[sb.2 a (aX npa)];exact a1,a2,a3⟩,Ta.ok,Ta.Ψ,Ta.plain,Ta.small⟩
  obtain⟨oc,r1,_,r3⟩:∃o,h1.get? s.heap.objs.size=some o/\o.ExactSet/\∃es ep t,o.data= .set es ep t:=by obtain⟨es,ep,t,S2,_⟩:=C.ex;obtain⟨o,a,b,c⟩:=S2.ob;exact⟨o,a,b,es,ep,t,c⟩
  obtain⟨esr,epr,tr,r3⟩:=r3;refine o4 _ (λYU(_:PUnit)s'=>∃h' n YC,s'={s with heap:=h'}/\cW s.heap.objs.size h1 h'/\bN Yz h' s.heap.objs.size YC/\YU=YH.toList.drop n/\n<=Z7.length/\YC.length<=n/\∀j,j∈YC↔j∈Z7.take n/\j∉YL) _ ?_ ?_ _ _ ⟨h1,0,[],rfl,qV _ _,C,rfl,dJ _,aT _,λj=>by simp⟩
  .rintro⟨hh,x⟩ YU u s' ⟨h2,n,kk,rfl,Zc,C2,Zl,hn,YG,Y1⟩;have Τ:YH[n]? =some (hh,x):=by rw[<-fw,<-CG,<-Zl];rfl
   have Zu:n<Z7.length:=by have:=(kz.mp Τ).1;rw[La'.1]at this;exact this
   have hk:Z7[n]? =some Z7[n]:=cR Zu;obtain⟨e1,e2⟩:=La'.2 n _ _ Τ hk;have e1:hh=Yz.hash Z7[n]:=e1;subst e1;have hx:=Yz.keep e2 r1 r3 Zc;have et:Z7.take (n+1)=Z7.take n++[Z7[n]]:=by rw[dA,hk];rfl
   have hlk:Z7.length=Zk.length:=pa.length_eq;have So2:=So.other C (aX npo) Zc;obtain⟨eo,epo,to,To,Lo,hlo⟩:=So2.ex;have ac1:∀(h3:aM)(Δ:List K),cW s.heap.objs.size h1 h3->bN Yz h3 s.heap.objs.size Δ->Δ.length<=n+1->(∀j,j∈Δ↔j∈Z7.take (n+1)/\j∉YL)->∀{Qf:ForInStep PUnit->ai->Prop},((∃h' n YC,({s with heap:=h3}:ai)={s with heap:=h'}/\cW s.heap.objs.size h1 h'/\bN Yz h' s.heap.objs.size YC/\YU=YH.toList.drop n/\n<=Z7.length/\YC.length<=n/\∀j,j∈YC↔j∈Z7.take n/\j∉YL)->Qf (.yield Rc) {s with heap:=h3})->aq (aB prog w) A.in1 (do
     qO (toString "frozenset."++toString "__sub__") a epa
     pure (ue Rc)) Qf E {s with heap:=h3}:=λh3 Δ ZJ C3 hl3 hm3 Qf hq=>by
    refine ah ?_;unfold qO lP;refine ah (ah ((aip h3 ZJ).state (s:={s with heap:=h3}) (aw ?_)));simp only[bne_self_eq_false,bO,↓reduceIte];exact aw (aw (hq ⟨h3,n+1,Δ,rfl,ZJ,C3,by rw[<-rj,<-Zl];rfl,Zu,hl3,hm3⟩))
   refine ah (gW ?_);refine ah (Ix (s:={s with heap:=h2}) ZP hr To.F Lo hx (λi hi=>?_) λZC=>?_)
   .refine ah (aw ?_);simp only[wO,fO,bO,↓reduceIte];refine aw (ac1 h2 kk Zc C2 (by lia) (λj=>?_) id);rw[Y1,et,bT,bY];exact⟨λz=>⟨.inl z.1,z.2⟩,λz=>⟨z.1.elim id λe=>absurd (e▸cU hi) z.2,z.2⟩⟩
   .refine ah (aw ?_);simp only[Mv,kK,↓reduceIte];refine ah (C2.add (s:={s with heap:=h2}) ad hr hx (by lia) λh3 Δ ZJ C3 hm3 b=>?_);refine aw (ac1 h3 Δ (Zc.trans ZJ) C3 ?_ (λj=>?_) id)
    .have:=sM Δ (kk++[Z7[n]]) C3.nd λj hj=>by rw[bT,bY];exact(hm3 j).mp hj
     rw[bG]at this;simp at this
     lia
    .rw[hm3,Y1,et,bT,bY];exact⟨λz=>z.elim (λy=>⟨.inl y.1,y.2⟩) λy=>⟨.inr y,y▸ZC⟩,λz=>z.1.elim (λy=> .inl ⟨y,z.2⟩) .inr⟩
  .rintro u s' ⟨h2,n,kk,rfl,Zc,C2,Zl,hn,YG,Y1⟩;have hnk:n=Z7.length:=by
    have:=congrArg fV Zl;rw[gH,qY,bz,La'.1]at this
    lia
   refine aw ?_;obtain⟨Zi,ep2,t2,T2,L2,_⟩:=C2.ex;obtain⟨ob,g1,g2,g3⟩:=T2.ob;exact fin h2 kk (o1.but Zc) ⟨ob,Zi,ep2,t2,g1,g2,g3,T2.fit (s:={s with heap:=h2}),L2.1⟩ C2.nd λj=>by rw[Y1,hnk,dz,pa.mem_iff]
end
end Vm
namespace Vm
open PySem PySem.Spec PyProof.Rows
section
variable{prog:ba}{w:aQ}{A:bh}{E:ac->ai->Prop}{s:ai}
theorem Tt(a:ac){Q₁:ac->ai->Prop}
  (h:Q₁ (.ref s.heap.objs.size) {s with heap:=s.heap.push {cls:= .type "set",dict:=none,data:= .set #[] 0 (.fresh 0 0 (!bt w))}}):
  lV (aB prog w) A (.call (.builtin "set.__new__") ⟨[.type "set",a],[]⟩) (wants Q₁ E) s:=by
 refine codeAny_of_tree ?_;show aq _ A.in1 (do checkBuiltinCall "set.__new__" ⟨[.type "set",a],[]⟩;again (.builtin "set.__new__" ⟨[.type "set",a],[]⟩)) _ _ s;refine ah (Ep (PySem.F.newCall_set_1 a) (aw ⟨plainId_quiet LY _,xg PySem.F.entry_set_new ?_⟩));rw[Bs LY _];unfold Builtin.«set.__new__» Xa;have η:=sub_set_self;obtain⟨hp,g,d,tk,os⟩:=s;dsimp only
 wp_walk
 refine lA (aw ?_);dsimp only;simp only[newObj];refine ah (Er (aw ?_));exact aw h
theorem ze{x:ac}{Q:ac->ai->Prop}
  (h:aq (aB prog w) A.in1.in1 (tJ "set.__init__" s.heap.objs.size x) (λ_ s2=>Q (.ref s.heap.objs.size) s2) E {s with heap:=s.heap.push {cls:= .type "set",dict:=none,data:= .set #[] 0 (.fresh 0 0 (!bt w))}}):
  aq (aB prog w) A (call (.type "set") [x]) Q E s:=by
 obtain⟨c,tl,anM⟩:=mN.mro;have anN:=mN.made;have η:=mN.sub;refine E1 (codeAny_of_tree ?_);show aq _ _ (callAny (.type "set") _) _ _ _;refine aw ⟨Code.quiet_builtin _ (by decide+kernel),xg PySem.F.entry_type_call ?_⟩;rw[Around.under_plain (weight_type_call_type "set" [x] []) rfl];have h1:=mN.notType;have h2:=mN.canCreate;have hct:=PySem.F.typeCall_set_1 x
 repeat(any_goals(first|assumption|wp_step))
 refine rF (Tt x (E:=E) (Q₁:=λobj YO=>obj= .ref s.heap.objs.size/\YO={s with heap:=s.heap.push {cls:= .type "set",dict:=none,data:= .set #[] 0 (.fresh 0 0 (!bt w))}}) ⟨rfl,rfl⟩) λr YO hr=>?_;cases r with
 |error e=>exact hr
 |ok fl=>
  cases fl with
  |ret obj=>
   obtain⟨rfl,rfl⟩:=hr;have hS:(s.heap.push {cls:= .type "set",dict:=none,data:= .set #[] 0 (.fresh 0 0 (!bt w))}).get? s.heap.objs.size=some {cls:= .type "set",dict:=none,data:= .set #[] 0 (.fresh 0 0 (!bt w))}:=cZ _ rfl;have hT:xE {s with heap:=s.heap.push {cls:= .type "set",dict:=none,data:= .set #[] 0 (.fresh 0 0 (!bt w))}} (.ref s.heap.objs.size) "set":=⟨_,hS,rfl⟩;have hli:=mN.init.lookup;have hbi:=mN.init.bind (.ref s.heap.objs.size)
   repeat(any_goals(first|assumption|wp_step))
   refine rF (codeAny_call_builtin (R:=wants (λr Zr=>r= .none/\Q (.ref s.heap.objs.size) Zr) E) mN.init.plain PySem.F.entry_set_init (check_set_init_1 hT ?_)) λahU Zr aeT=>?_
   .unfold Builtin.«set.__init__» noKeywords;generalize hPI:tJ=PI at h
    wp_walk
    exact iH h (λ_ s' hq=>aw ⟨rfl,hq⟩) λ_ _ e=>e
   .cases ahU with
    |error e=>exact aeT
    |ok alB=>
     cases alB with
     |ret r=>
      obtain⟨rfl,hq⟩:=aeT
      repeat(any_goals(first|assumption|wp_step))
     |_=>exact aeT.elim
  |_=>exact hr.elim
def Aj{K:Type}[DecidableEq K](Yz:KD prog w K):Prop:=∀{A:bh}{E:ac->ai->Prop}{s:ai}{k:K}{v:ac}{Q:Int->ai->Prop},Yz.room A->Yz.is s.heap k v->(∀tk,s.toks<=tk->Q (Yz.hash k) {s with toks:=tk})->aq (aB prog w) A (pyHash v) Q E s
section
variable{K:Type}[DecidableEq K]{Yz:KD prog w K}
theorem Sc(ad:my Yz)(hs:Aj Yz){R:Result->ai->Prop}{I l S:aa}{items:Array ac}{ks0:List K}(hh:A.in1.handled=none)(hr:Yz.room A.in1)(Y0:l≠I)(hSf:S∉[I,l])(hb:items.size<=500)(YG:ks0.length=items.size):
  ∀(m i:Nat)(s:ai)(ks:List K),items.size-i=m->i<=items.size->s.heap.IsListIter I l i/\s.heap.IsList l items->(∀(j:Nat)(v:ac)(k:K),items[j]? =some v->ks0[j]? =some k->Yz.is s.heap k v)->bN Yz s.heap S ks->ks.length<=i->(∀j,j∈ks↔j∈ks0.take i)->
   (∀s' YC,Moved [S,I] (λa b=>b=a) s s'->bN Yz s'.heap S YC->(∀j,j∈YC↔j∈ks0)->R (.ok (.ret .none)) s')->
   lV (aB prog w) A (.builtin "set.update.loop" ⟨[.ref S,.ref I],[]⟩) R s:=by
 have W:=(E4 (prog:=prog) (w:=w) hh I l Y0 items).toS;have hSw:S∉[I]:=λh=>hSf (W.sub _ h);have η:∀b∈[I],b∈[S,I]:=λb hb=>bq _ hb;intro m;induction m with
 |zero=>
  intro i s ks hk hi ZY ZD hS Y4 Y1 hR;have Ι:i=items.size:=by lia
  subst Ι;refine xg K' ?_;rw[Bs A2 _];show aq _ A.in1 (kg (.ref I) >>= _) _ _ s;refine ah (W.done s _ _ ZY λs' hm=>?_);show aq _ A.in1 (ret jy) _ _ s';refine aw (hR s' ks (hm.mono η) (hS.keep (λo e=>hm.heap S _ hSw e) λk v z=>Yz.st z λb ob YA mm e e2=>hm.heap b ob (λhb=>?_) e) λj=>by rw[Y1,<-YG,dz]);obtain⟨o1,h1,h2,h3⟩:=ZY.1;rw[bY.mp hb,h1]at e;cases e;rw[h3]at e2;cases e2
 |succ m ih=>
  intro i s ks hk hi ZY ZD hS Y4 Y1 hR;have YK:i<items.size:=by lia
  refine xg K' ?_;rw[Bs A2 _];show aq _ A.in1 (kg (.ref I) >>= _) _ _ s;refine ah (W.item i s _ _ YK ZY λv s' hP ajg hm=>?_);have stI:∀b ob YA mm,s.heap.get? b=some ob->ob.data= .seq YA mm->s'.heap.get? b=some ob:=λb ob YA mm e e2=>hm.heap b ob (λhb=>by
   obtain⟨o1,h1,h2,h3⟩:=ZY.1;rw[bY.mp hb,h1]at e;cases e;rw[h3]at e2;cases e2) e
  have acF:∀(j:Nat)(v:ac)(k:K),items[j]? =some v->ks0[j]? =some k->Yz.is s'.heap k v:=λj v k h1 h2=>Yz.st (ZD j v k h1 h2) stI;have hS':=hS.keep (h':=s'.heap) (λo e=>hm.heap S _ hSw e) λk v z=>Yz.st z stI;have hki:ks0[i]? =some ks0[i]:=cR (by lia);have hx:=acF i v _ hP hki;show aq _ A.in1 (n9 [v] (setAdd S v) >>= _) _ _ s';refine ah (gW ?_);unfold setAdd;refine gW ?_;refine ah (hs hr hx λtk htk=>?_);refine hS'.add (s:={s' with toks:=tk}) ad hr hx (by lia) λh2 YL sb S2 hm2 b=>?_;have et:ks0.take (i+1)=ks0.take i++[ks0[i]]:=by rw[dA,hki];rfl
  have oS:∃o es ep t,s'.heap.get? S=some o/\o.data= .set es ep t:=by obtain⟨es,ep,t,T,_⟩:=hS'.ex;obtain⟨o,a,_,c⟩:=T.ob;exact⟨o,es,ep,t,a,c⟩
  obtain⟨oS,esS,epS,tS,oS1,oS2⟩:=oS;refine aw ⟨plainId_quiet A2 _,ih (i+1) _ YL (by lia) YK (W.frame _ s' _ _ ajg htk λb hb o e=>?_) (λj v k h1 h3=>Yz.keep (acF j v k h1 h3) oS1 oS2 sb) S2 ?_ (λj=>?_) λs'' YC ajH akp ajG=>?_⟩
  .rw[sb.2 b (λh:b=S=>hSf (by rw[<-h];exact hb))];exact e
  .have:=sM YL (ks++[ks0[i]]) S2.nd λj hj=>by rw[bT,bY];exact(hm2 j).mp hj
   rw[bG]at this;simp at this
   lia
  .rw[hm2,Y1,et,bT,bY]
  .refine hR s'' YC (Moved.trans W.gtrans ((hm.mono η).then_heap htk λb o hb e=>?_) ajH) akp ajG;rw[sb.2 b (λh:b=S=>hb (by rw[h];exact bA))];exact e
theorem Sq(ad:my Yz)(hs:Aj Yz)(hr:Yz.room A.in1.in1.in1){l:aa}{items:Array ac}{ks0:List K}{Q:ac->ai->Prop}(hh:A.handled=none)(hl:s.heap.IsList l items)(hb:items.size<=500)(YG:ks0.length=items.size)
  (ZD:∀(j:Nat)(v:ac)(k:K),items[j]? =some v->ks0[j]? =some k->Yz.is s.heap k v)
  (h:∀(h':aM)(tk:Nat)(ks:List K),gS s.heap h'->bN Yz h' s.heap.objs.size ks->(∀j,j∈ks↔j∈ks0)->Q (.ref s.heap.objs.size) {s with heap:=h',toks:=tk}):
  aq (aB prog w) A (call (.type "set") [.ref l]) Q E s:=by
 refine ze ?_;obtain⟨ol,ω,Zb,nl,hdl⟩:=hl;have o1:gS s.heap (s.heap.push {cls:= .type "set",dict:=none,data:= .set #[] 0 (.fresh 0 0 (!bt w))}):=rZ _;have S0:bN Yz (s.heap.push {cls:= .type "set",dict:=none,data:= .set #[] 0 (.fresh 0 0 (!bt w))}) s.heap.objs.size []:=yz (cZ _ rfl);have sz:(s.heap.push {cls:= .type "set",dict:=none,data:= .set #[] 0 (.fresh 0 0 (!bt w))}).objs.size=s.heap.objs.size+1:=iF ..;generalize s.heap.push {cls:= .type "set",dict:=none,data:= .set #[] 0 (.fresh 0 0 (!bt w))}=h1 at o1 S0 sz;have hlS:l<s.heap.objs.size:=bK ω;have acy:=o1 l _ hlS ω;have Zm:h1.IsList l items:=⟨_,acy,Zb,nl,hdl⟩;have hT:xE {s with heap:=h1} (.ref l) "list":=⟨_,acy,Zb⟩;unfold tJ A5;refine ah ?_;show aq _ _ (nD (.ref l) (.type "set") >>= _) _ _ _;refine ah (jr hT PySem.F.sub_list_set ?_);show aq _ _ (nD (.ref l) (.type "frozenset")) _ _ _;refine jr hT PySem.F.sub_list_frozenset ?_;simp only[bO,↓reduceIte];refine ah (rD hT ?_);have Y0:(jX "list"==jX "dict")=false:=by decide
 rw[Y0];simp only[bO,↓reduceIte];refine ah (BR (s:={s with heap:=h1}) Zm ?_);refine ah (wpAny_runValue ?_);have hh3:A.in1.in1.in1.handled=none:=by simp[hh]
 have k2:∀b ob,h1.get? b=some ob->(h1.push {cls:= .type "list_iterator",data:= .fields #[.ref l,.int 0 0]}).get? b=some ob:=λb ob e=>cS _ e;refine Sc (A:=A.in1.in1) ad hs hh3 hr (I:=h1.objs.size) (l:=l) (S:=s.heap.objs.size) (ks0:=ks0) (by rw[sz];exact cx (o0 hlS)) (by rw[sz];simp only[aV,gG,or_false,not_or];exact⟨cx (t8 _),xP hlS⟩) hb YG _ 0 _ [] rfl (dJ _) ⟨⟨_,cZ _ rfl,rfl,rfl⟩,Zm.push _⟩ (λj v k e1 e2=>Yz.st (ZD j v k e1 e2) λb ob YA mm e _=>k2 _ _ (o1 _ _ (bK e) e)) (S0.keep (λo e=>k2 _ _ e) λk v z=>Yz.st z λb ob YA mm e _=>k2 _ _ e) (aT _) (λj=>by simp) λs' YC hm hS' Y1=>?_;obtain⟨h',g',d',tk',os'⟩:=s';have eg:g'=s.gens:=hm.gens;have ed:d'=s.drawn:=hm.drawn;have eo:os'=s.os:=hm.os;subst eg;subst ed;subst eo;refine aw (h h' tk' YC (λb o hb e=>?_) hS' Y1);exact hm.heap b o (by rw[sz];simp only[aV,gG,or_false,not_or];exact⟨cx hb,cx (o0 hb)⟩) (k2 _ _ (o1 b o hb e))
end
end
end Vm
namespace Vm
theorem rk{α:Type}:∀(l:List α)(p q:α->Bool),(∀x∈l,p x=true->q x=true)->(l.filter q).length=(l.filter p).length->l.filter q=l.filter p
 |[],_,_,_,_=>rfl
 |a::l,p,q,h,e=>by
  have hl:∀x∈l,p x=true->q x=true:=λx hx=>h x (bq _ hx);have le:(l.filter p).length<=(l.filter q).length:=by
   clear e h;induction l with
   |nil=>exact aT _
   |cons b l ih=>
    have ih:=ih λx hx=>hl x (bq _ hx);have hb:=hl b bA;rw[js,js];by_cases pb:p b=true
    .rw[if_pos pb,if_pos (hb pb)];simp only[cC];lia
    .rw[if_neg pb];by_cases qb:q b=true
     .rw[if_pos qb];simp only[cC];lia
     .rw[if_neg qb];exact ih
  rw[js,js]at e ⊢;by_cases pa:p a=true
  .have qa:=h a bA pa;rw[if_pos pa,if_pos qa]at e ⊢;simp only[cC,Nat.add_right_cancel_iff]at e;rw[rk l p q hl e]
  .rw[if_neg pa]at e ⊢;by_cases qa:q a=true
   .rw[if_pos qa]at e;simp only[cC]at e
    lia
   .rw[if_neg qa]at e ⊢;exact rk l p q hl e
theorem xz{α:Type}(l:List α)(p q:α->Bool)(h:∀x∈l,p x=true->q x=true):(l.filter p).length<=(l.filter q).length:=by
 induction l with
 |nil=>exact aT _
 |cons b l ih=>
  have ih:=ih λx hx=>h x (bq _ hx);have hb:=h b bA;rw[js,js];by_cases pb:p b=true
  .rw[if_pos pb,if_pos (hb pb)];simp only[cC];lia
  .rw[if_neg pb];by_cases qb:q b=true
   .rw[if_pos qb];simp only[cC];lia
   .rw[if_neg qb];exact ih
theorem filter_all{α:Type}(l:List α):(l.filter λ_=>true)=l:=oW.mpr λ_ _=>rfl
inductive Up(g:g9):Nat->Nat->Prop where
 |one {n m:Nat}:m∈f_ g n->Up g n m
 |more {n k m:Nat}:Up g n k->m∈f_ g k->Up g n m
theorem Up.trans{g:g9}{a b c:Nat}(h:Up g a b)(k:Up g b c):Up g a c:=by
 induction k with
 |one e=>exact .more h e
 |more _ e ih=>exact .more ih e
theorem Up.head{g:g9}{a b c:Nat}(h:b∈f_ g a)(k:Up g b c):Up g a c:=Up.trans (.one h) k
structure mF(g:g9):Prop where
 nd:(g.map λr=>r.1).Nodup
 sub:∀r∈g,∃p:Nat->Bool,r.2=(g.map λr=>r.1).filter p
theorem vB{g:g9}(ok:mF g){r:Nat×List Nat}(h:r∈g):f_ g r.1=r.2:=by
 have key:∀(l:g9),(l.map λr=>r.1).Nodup->r∈l->l.find? (λq=>q.1==r.1)=some r:=by
  intro l;induction l with
  |nil=>intro _ h;cases h
  |cons a l ih=>
   intro nd h;rw[bb,fT]at nd;rcases aV.mp h with rfl|h
   .simp
   .have ne:a.1≠r.1:=λe=>nd.1 (e▸aK.mpr ⟨r,h,rfl⟩);rw[Bg (by simpa using ne)];exact ih nd.2 h
 unfold f_;rw[key g ok.nd h]
theorem FL{g:g9}{n:Nat}(h:n∉g.map λr=>r.1):f_ g n=[]:=by
 have e:g.find? (λq=>q.1==n)=none:=by rw[tX];intro q hq e;exact h (aK.mpr ⟨q,hq,by simpa using e⟩)
 unfold f_;rw[e]
theorem FM{g:g9}(ok:mF g)(n:Nat):∃p:Nat->Bool,f_ g n=(g.map λr=>r.1).filter p:=by
 by_cases h:n∈g.map λr=>r.1
 .obtain⟨r,hr,rfl⟩:=aK.mp h;rw[vB ok hr];exact ok.sub r hr
 .rw[FL h];exact⟨λ_=>false,by simp⟩
theorem uf{g:g9}(ok:mF g){n m:Nat}(h:m∈f_ g n):m∈g.map λr=>r.1:=by obtain⟨p,e⟩:=FM ok n;rw[e]at h;exact(bM.mp h).1
theorem Tf{g:g9}{n m:Nat}(h:m∈f_ g n):n∈g.map λr=>r.1:=by
 by_cases q:n∈g.map λr=>r.1
 .exact q
 .rw[FL q]at h;cases h
theorem yu{g:g9}(ok:mF g){l:List Nat}{m:Nat}(hl:∀x∈l,x∈g.map λr=>r.1):m∈mj g l↔m∈l\/∃x∈l,m∈f_ g x:=by
 unfold mj;rw[bM];constructor
 .rintro⟨h1,h2⟩;rw[q_,fg]at h2;rcases h2 with h2|⟨r,hr,h2⟩
  .exact .inl (by simpa using h2)
  .rw[hU]at h2;refine .inr ⟨r.1,by simpa using h2.1,?_⟩;rw[vB ok hr];simpa using h2.2
 .rintro(h|⟨x,hx,h⟩)
  .exact⟨hl m h,by simp[h]⟩
  .refine⟨uf ok h,?_⟩;rw[q_,fg];obtain⟨r,hr,rfl⟩:=aK.mp (hl x hx);refine .inr ⟨r,hr,?_⟩;rw[vB ok hr]at h;simp[hx,h]
theorem O4{g:g9}(ok:mF g):∀(k:Nat)(l:List Nat)(p:Nat->Bool),l=(g.map λr=>r.1).filter p->g.length<=l.length+k->
  (∀x∈l,x∈qm g k l)/\(∀x∈qm g k l,∀y∈f_ g x,y∈qm g k l)/\(∀P:Nat->Prop,(∀x∈l,P x)->(∀x y,P x->y∈f_ g x->P y)->∀x∈qm g k l,P x)/\(∃q:Nat->Bool,qm g k l=(g.map λr=>r.1).filter q):=by
 intro k;induction k with
 |zero=>
  intro l p e YG;refine⟨λx h=>h,λx _ y hy=>?_,λP h _ x hx=>h x hx,p,e⟩;have aly:(g.map λr=>r.1).filter p=(g.map λr=>r.1).filter λ_=>true:=by
   refine(rk _ p (λ_=>true) (λ_ _ _=>rfl) ?_).symm;have h1:=xz (g.map λr=>r.1) p (λ_=>true) λ_ _ _=>rfl;rw[filter_all,aE]at h1 ⊢;rw[<-e]at h1 ⊢
   lia
  show y∈l;rw[e,aly,filter_all];exact uf ok hy
 |succ k ih=>
  intro l p e YG;have hl:∀x∈l,x∈g.map λr=>r.1:=λx hx=>by rw[e]at hx;exact(bM.mp hx).1
  have hw:mj g l=(g.map λr=>r.1).filter λn=>l.contains n||g.any λr=>l.contains r.1&&r.2.contains n:=rfl;have η:∀x∈g.map (λr=>r.1),p x=true->(l.contains x||g.any λr=>l.contains r.1&&r.2.contains x)=true:=λx hx px=>by
   have:x∈l:=by rw[e];exact bM.mpr ⟨hx,px⟩
   simp[this]
  unfold qm;by_cases c:((mj g l).length==l.length)=true
  .have ew:mj g l=l:=by
    rw[hw,e];refine rk _ _ _ ?_ ?_
    .rw[<-e];exact η
    .rw[<-e,<-hw];simpa using c
   simp only[c,if_true];refine⟨λx h=>h,λx hx y hy=>?_,λP h _ x hx=>h x hx,p,e⟩;rw[<-ew];exact(yu ok hl).mpr (.inr ⟨x,hx,hy⟩)
  .have le:l.length<=(mj g l).length:=by
    rw[hw]
    conv=>lhs;rw[e]
    exact xz _ _ _ η
   have lt:l.length<(mj g l).length:=by
    have:¬(mj g l).length=l.length:=by simpa using c
    lia
   obtain⟨i1,i2,i3,i4⟩:=ih (mj g l) _ hw (by lia);simp only[c,if_false];refine⟨λx hx=>i1 x ((yu ok hl).mpr (.inl hx)),i2,λP h0 h1=>i3 P (λx hx=>?_) h1,i4⟩;rcases(yu ok hl).mp hx with h|⟨z,hz,h⟩
   .exact h0 x h
   .exact h1 z x (h0 z hz) h
theorem R_{g:g9}(ok:mF g)(n m:Nat):m∈above g n↔Up g n m:=by
 obtain⟨p,e⟩:=FM ok n;obtain⟨h1,h2,h3,_⟩:=O4 ok g.length (f_ g n) p e (by lia);constructor
 .exact h3 (λx=>Up g n x) (λx hx=> .one hx) (λx y hx hy=> .more hx hy) m
 .intro h;show m∈qm g g.length (f_ g n);induction h with
  |one e=>exact h1 _ e
  |more _ e ih=>exact h2 _ ih _ e
theorem Up.node{g:g9}(ok:mF g){n m:Nat}(h:Up g n m):m∈g.map λr=>r.1:=by
 cases h with
 |one e=>exact uf ok e
 |more _ e=>exact uf ok e
theorem Up.src{g:g9}{n m:Nat}(h:Up g n m):n∈g.map λr=>r.1:=by
 induction h with
 |one e=>exact Tf e
 |more _ _ ih=>exact ih
end Vm
namespace Vm
structure jE(c:az):Prop where
 n1:1<=c.number
 n2:c.number<=99
 nm:c.name<=31
 kd:c.kind<=5
 cn:c.const<=96
 rl:c.reads.length<=6
 rd:c.reads.Nodup
 rn:∀x∈c.reads,x<=31
structure Wf(s:ao):Prop where
 Α:(s.cells.map λc=>c.number).Pairwise (·<·)
 YI:s.cells.length<=12
 cell:∀c∈s.cells,jE c
 seed:s.seed<=1000
theorem Wf.nd{s:ao}(w:Wf s):(s.cells.map λc=>c.number).Nodup:=w.Α.imp λh=>cx h
def mk(s:ao)(x:Nat):List Nat:=(s.cells.filter λc=>c.name==x).map λc=>c.number
def one(l:List Nat):Option Nat:=match l with
 |[n]=>some n
 |_=>none
def src(s:ao)(c:az):List Nat:=c.reads.filterMap λx=>one (mk s x)
def bd(c:az):PQ:=⟨c.number,false,[c.name],pj c.reads⟩
theorem zf(s:ao):cD s=⟨s.cells.map bd⟩:=rfl
theorem uA(s:ao)(x:Nat):mV (cD s) x=mk s x:=by
 unfold mV mk;rw[zf];show((s.cells.map bd).filter λc=>c.makes.contains x).map (λc=>c.number)=_;rw[mX,bH];have e:((λc:PQ=>c.makes.contains x) ∘ bd)=λc:az=>c.name==x:=by
  funext c;show([c.name].contains x)=_;simp[Bool.beq_comm (a:=c.name),eq_comm];by_cases h:x=c.name
  .subst h;simp
  .have h2:¬c.name=x:=λq=>h q.symm;simp[h,h2]
 rw[e];rfl
theorem EN(s:ao)(x:Nat):ug (cD s) x=one (mk s x):=by
 unfold ug one;rw[uA];cases mk s x with
 |nil=>rfl
 |cons a l=>cases l<;>rfl
theorem V1{s:ao}{x n:Nat}:n∈mk s x↔∃c∈s.cells,c.name=x/\c.number=n:=by
 unfold mk;simp only[aK,bM,beq_iff_eq];constructor
 .rintro⟨c,⟨h1,h2⟩,h3⟩;exact⟨c,h1,h2,h3⟩
 .rintro⟨c,h1,h2,h3⟩;exact⟨c,⟨h1,h2⟩,h3⟩
theorem yW{l:List Nat}{n:Nat}:one l=some n↔l=[n]:=by
 unfold one;split
 .simp
 .rename_i h;constructor
  .intro e;cases e
  .intro e;exact(h n e).elim
theorem EM{x y:Nat}:∀{l:List Nat},y∈xD x l↔y=x\/y∈l
 |[]=>by unfold xD;simp
 |z::r=>by
  unfold xD;split
  .simp
  .rw[aV,EM,aV];constructor
   .rintro(h|h|h)<;>simp[h]
   .rintro(h|h|h)<;>simp[h]
theorem uJ{y:Nat}:∀{l:List Nat},y∈pj l↔y∈l
 |[]=>by unfold pj;simp
 |z::r=>by show y∈xD z (pj r)↔_;rw[EM,uJ,aV]
theorem EJ(s:ao):NW (cD s)=s.cells.map λc=>c.number:=by unfold NW;rw[zf];show(s.cells.map bd).map (λc=>c.number)=_;rw[bH];rfl
theorem UX{s:ao}{c:az}{m:Nat}:m∈src s c↔∃x∈c.reads,mk s x=[m]:=by unfold src;rw[mO];simp only[yW]
theorem Py{s:ao}{c:az}{m:Nat}:m∈pc (cD s) (bd c)↔m∈src s c:=by
 unfold pc;rw[EJ];simp only[bM,mJ,mO,EN,yW,UX];show(_/\∃a,a∈pj c.reads/\_)↔_;simp only[uJ];constructor
 .rintro⟨_,x,h1,h2⟩;exact⟨x,h1,h2⟩
 .rintro⟨x,h1,h2⟩;refine⟨?_,x,h1,h2⟩;have:m∈mk s x:=by rw[h2];simp
  obtain⟨d,hd,_,e⟩:=V1.mp this;exact aK.mpr ⟨d,hd,e⟩
theorem za(s:ao):b9 s=s.cells.map λc=>(c.number,pc (cD s) (bd c)):=by unfold b9 Vanbkb.graph;rw[zf];show(s.cells.map bd).map _=_;rw[bH];rfl
theorem nq(s:ao):(b9 s).map (λr=>r.1)=s.cells.map λc=>c.number:=by rw[za,bH];rfl
theorem oO{s:ao}(w:Wf s):mF (b9 s) where
 nd:=by rw[nq];exact w.nd
 sub:=λr hr=>by rw[nq];rw[za]at hr;obtain⟨c,_,rfl⟩:=aK.mp hr;refine⟨λm=>((bd c).reads.filterMap λx=>ug (cD s) x).contains m,?_⟩;show pc (cD s) (bd c)=_;unfold pc;rw[EJ]
theorem pq{s:ao}(w:Wf s){c:az}(hc:c∈s.cells){m:Nat}:m∈f_ (b9 s) c.number↔m∈src s c:=by
 have h:(c.number,pc (cD s) (bd c))∈b9 s:=by rw[za];exact aK.mpr ⟨c,hc,rfl⟩
 have e:=vB (oO w) h;rw[show f_ (b9 s) c.number=pc (cD s) (bd c)from e];exact Py
theorem sO{s:ao}(w:Wf s){c d:az}(hc:c∈s.cells)(hd:d∈s.cells)(e:c.number=d.number):c=d:=by
 have key:∀l:List az,(l.map λc=>c.number).Nodup->c∈l->d∈l->c=d:=by
  intro l;induction l with
  |nil=>intro _ h;cases h
  |cons a l ih=>
   intro nd h1 h2;rw[bb,fT]at nd;rcases aV.mp h1 with e1|h3<;>rcases aV.mp h2 with e2|h4
   .rw[e1,e2]
   .rw[<-e1]at nd;exact absurd (show c.number∈l.map (λc=>c.number)from aK.mpr ⟨d,h4,e.symm⟩) nd.1
   .rw[<-e2]at nd;exact absurd (show d.number∈l.map (λc=>c.number)from aK.mpr ⟨c,h3,e⟩) nd.1
   .exact ih nd.2 h3 h4
 exact key _ w.nd hc hd
theorem i7{s:ao}(w:Wf s){c:az}(hc:c∈s.cells):b_ s c.number=some c:=by
 unfold b_;cases e:s.cells.find? λd=>d.number==c.number with
 |none=>rw[tX]at e;exact absurd (e c hc) (by simp)
 |some d=>
  have h1:=wC e;have h2:d.number=c.number:=by simpa using xn e
  rw[sO w h1 hc h2]
theorem r_{s:ao}{n:Nat}{c:az}(h:b_ s n=some c):c∈s.cells/\c.number=n:=
 ⟨wC h,by simpa using xn h⟩
theorem FN{s:ao}{n:Nat}(h:b_ s n=none):n∉s.cells.map λc=>c.number:=λq=>by obtain⟨c,hc,rfl⟩:=aK.mp q;have:=tX.mp h c hc;simp at this
def bU(s:ao)(n:Nat):List Nat:=above (b9 s) n
theorem iJ{s:ao}(w:Wf s){n m:Nat}:m∈bU s n↔Up (b9 s) n m:=R_ (oO w) n m
def own(s:ao)(c:az):Nat:=
 if 1<(mk s c.name).length then 2
 else if c.number∈bU s c.number then 3
 else if∃x∈c.reads,(mk s x).length=0 then 4
 else if∃x∈c.reads,1<(mk s x).length then 5
 else 0
theorem O9(s:ao)(c:az):xj (cD s) (b9 s) (bd c)=own s c:=by
 unfold xj own;have e0:((bd c).broken=true)=False:=by simp[bd]
 have e1:(((bd c).makes.any λx=>decide (2<=(mV (cD s) x).length))=true)=(1<(mk s c.name).length):=by show(([c.name].any λx=>decide (2<=(mV (cD s) x).length))=true)=_;simp only[nj,List.any_nil,Bool.or_false,decide_eq_true_eq,uA];exact propext ⟨λh=>h,λh=>h⟩
 have e2:(NX (b9 s) (bd c).number=true)=(c.number∈bU s c.number):=by unfold NX bU;show((above (b9 s) c.number).contains c.number=true)=_;simp
 have e3:(((bd c).reads.any λx=>(mV (cD s) x).isEmpty)=true)=(∃x∈c.reads,(mk s x).length=0):=by show(((pj c.reads).any λx=>(mV (cD s) x).isEmpty)=true)=_;simp only[fg,uJ,uA,List.isEmpty_iff,tM]
 have e4:(((bd c).reads.any λx=>decide (2<=(mV (cD s) x).length))=true)=(∃x∈c.reads,1<(mk s x).length):=by show(((pj c.reads).any λx=>decide (2<=(mV (cD s) x).length))=true)=_;simp only[fg,uJ,uA,decide_eq_true_eq];exact propext ⟨λh=>h,λh=>h⟩
 simp only[e0,e1,e2,e3,e4,if_false]
def ft(s:ao)(n:Nat):Nat:=match b_ s n with
 |some c=>own s c
 |none=>0
def bF(s:ao)(c:az):Nat:=if own s c≠0 then own s c else if∃m∈bU s c.number,ft s m≠0 then 6 else 0
theorem C4(s:ao):MH (cD s)=s.cells.map λc=>(c.number,own s c):=by unfold MH;show(s.cells.map bd).map (λc=>(c.number,xj (cD s) (b9 s) c))=_;rw[bH];refine fS λc _=>?_;show(c.number,xj (cD s) (b9 s) (bd c))=_;rw[O9]
theorem SW{s:ao}(w:Wf s){n:Nat}:n∈x6 (cD s)↔ft s n≠0:=by
 unfold x6;rw[C4];simp only[aK,bM,decide_eq_true_eq];constructor
 .rintro⟨x,⟨⟨c,hc,rfl⟩,h⟩,rfl⟩;show ft s c.number≠0;unfold ft;rw[i7 w hc];have h:0<own s c:=h;show own s c≠0
  lia
 .intro h;unfold ft at h;cases e:b_ s n with
  |none=>rw[e]at h;exact absurd rfl h
  |some c=>rw[e]at h;obtain⟨hc,rfl⟩:=r_ e;have h:own s c≠0:=h;exact⟨(c.number,own s c),⟨⟨c,hc,rfl⟩,by show 0<own s c;lia⟩,rfl⟩
theorem Fi{s:ao}(w:Wf s):Dv (cD s)=s.cells.map λc=>(c.number,bF s c):=by
 unfold Dv;rw[C4];show(s.cells.map λc=>(c.number,own s c)).map _=_;rw[bH];refine fS λc _=>?_;show(c.number,if 0<own s c then own s c else if((above (b9 s) c.number).any λm=>(x6 (cD s)).contains m)=true then 6 else 0)=(c.number,bF s c);congr 1;unfold bF;have e:(((above (b9 s) c.number).any λm=>(x6 (cD s)).contains m)=true)=(∃m∈bU s c.number,ft s m≠0):=by simp only[fg,mJ,SW w];rfl
 simp only[e];by_cases h:own s c=0
 .simp[h]
 .have h':0<own s c:=by lia
  simp[h,h']
theorem Ci{α:Type}(f:az->α){l:List az}{c:az}(nd:(l.map λc=>c.number).Nodup)(hc:c∈l):(l.map λc=>(c.number,f c)).find? (λx=>x.1==c.number)=some (c.number,f c):=by
 induction l with
 |nil=>cases hc
 |cons a l ih=>
  rw[bb,fT]at nd;rw[bb];rcases aV.mp hc with rfl|h
  .simp
  .have ne:¬a.number=c.number:=λe=>nd.1 (e▸aK.mpr ⟨c,h,rfl⟩);rw[Bg (by simpa using ne)];exact ih nd.2 h
theorem Oj{α:Type}(f:az->α){l:List az}{n:Nat}(h:n∉l.map λc=>c.number):(l.map λc=>(c.number,f c)).find? (λx=>x.1==n)=none:=by rw[tX];intro x hx e;obtain⟨c,hc,rfl⟩:=aK.mp hx;exact h (aK.mpr ⟨c,hc,by simpa using e⟩)
theorem Qe{s:ao}(w:Wf s){c:az}(hc:c∈s.cells):NV (Dv (cD s)) c.number=some (bF s c):=by unfold NV;rw[Fi w,Ci _ w.nd hc];rfl
def bJ(s:ao):List Nat:=(s.cells.filter λc=>bF s c==0).map λc=>c.number
theorem Tu{s:ao}(w:Wf s):OV (cD s)=bJ s:=by unfold OV bJ;rw[Fi w,mX,bH];rfl
theorem ik{s:ao}{n:Nat}:n∈bJ s↔∃c∈s.cells,bF s c=0/\c.number=n:=by
 unfold bJ;simp only[aK,bM,beq_iff_eq];constructor
 .rintro⟨c,⟨h1,h2⟩,h3⟩;exact⟨c,h1,h2,h3⟩
 .rintro⟨c,h1,h2,h3⟩;exact⟨c,⟨h1,h2⟩,h3⟩
theorem IN{s:ao}(w:Wf s):(bJ s).Pairwise (·<·):=by unfold bJ;have:=w.Α;rw[ff]at this ⊢;exact this.filter _
theorem Wh{s:ao}(w:Wf s):(bJ s).Nodup:=(IN w).imp λh=>cx h
theorem u0{s:ao}{c:az}:bF s c=0↔own s c=0/\∀m∈bU s c.number,ft s m=0:=by
 unfold bF;by_cases h:own s c=0
 .by_cases h2:∃m∈bU s c.number,ft s m≠0
  .simp only[h,ne_eq,not_true_eq_false,if_false,h2,if_true];constructor
   .intro q;lia
   .rintro⟨_,q⟩;obtain⟨m,hm,hn⟩:=h2;exact absurd (q m hm) hn
  .have h3:∀m∈bU s c.number,ft s m=0:=λm hm=>by
    by_cases q:ft s m=0
    .exact q
    .exact absurd ⟨m,hm,q⟩ h2
   simp only[h,ne_eq,not_true_eq_false,if_false,h2];exact⟨λ_=>⟨trivial,h3⟩,λ_=>trivial⟩
 .simp[h]
theorem JP{s:ao}(w:Wf s){n m:Nat}(hn:n∈bJ s)(h:m∈bU s n):m∈bJ s:=by
 obtain⟨c,hc,ht,rfl⟩:=ik.mp hn;obtain⟨_,hu⟩:=u0.mp ht;have u:=(iJ w).mp h;have hm:=u.node (oO w);rw[nq]at hm;obtain⟨d,hd,rfl⟩:=aK.mp hm;refine ik.mpr ⟨d,hd,u0.mpr ⟨?_,λk hk=>?_⟩,rfl⟩
 .have:=hu _ h;unfold ft at this;rw[i7 w hd]at this;exact this
 .exact hu k ((iJ w).mpr (u.trans ((iJ w).mp hk)))
theorem EY{s:ao}(w:Wf s){n:Nat}(hn:n∈bJ s):n∉bU s n:=by
 obtain⟨c,hc,ht,rfl⟩:=ik.mp hn;intro q;have h:=(u0.mp ht).1;unfold own at h;split at h
 .lia
 .lia
def mD(s:ao)(wt:List Nat):List Nat:=wt.filter λn=> !(bU s n).any λu=>wt.contains u
theorem Ge{s:ao}(w:Wf s){wt:List Nat}(hw:∀n∈wt,n∈bJ s)(h:wt≠[]):mD s wt≠[]:=by
 have key:∀(k:Nat)(n:Nat),n∈wt->(wt.filter λu=>(bU s n).contains u).length<=k->∃m,m∈mD s wt:=by
  intro k;induction k with
  |zero=>
   intro n hn e;refine⟨n,bM.mpr ⟨hn,?_⟩⟩;rw[B5,B2];intro u hu q;have:u∈wt.filter λu=>(bU s n).contains u:=bM.mpr ⟨by simpa using q,by simpa using hu⟩;have:=tO this
   lia
  |succ k ih=>
   intro n hn e;by_cases q:(bU s n).any (λu=>wt.contains u)=true
   .rw[fg]at q;obtain⟨u,hu,hw'⟩:=q;have hw':u∈wt:=by simpa using hw'
    refine ih u hw' ?_;have lt:(wt.filter λz=>(bU s u).contains z).length<(wt.filter λz=>(bU s n).contains z).length:=by
     have sub:∀z∈wt,(bU s u).contains z=true->(bU s n).contains z=true:=λz _ hz=>by
      have hz:z∈bU s u:=by simpa using hz
      have:z∈bU s n:=(iJ w).mpr (((iJ w).mp hu).trans ((iJ w).mp hz));simpa using this
     have le:(wt.filter λz=>(bU s u).contains z).length<=(wt.filter λz=>(bU s n).contains z).length:=xz wt _ _ sub;by_cases e:(wt.filter λz=>(bU s n).contains z).length=(wt.filter λz=>(bU s u).contains z).length
     .have e2:=rk wt _ _ sub e;have h1:u∈wt.filter λz=>(bU s n).contains z:=bM.mpr ⟨hw',by simpa using hu⟩;rw[e2]at h1;have h2:=(bM.mp h1).2;exact absurd (by simpa using h2) (EY w (hw u hw'))
     .lia
    lia
   .exact⟨n,bM.mpr ⟨hn,by simpa using q⟩⟩
 obtain⟨n,hn⟩:=List.exists_mem_of_ne_nil wt h;obtain⟨m,hm⟩:=key _ n hn (aT _);exact List.ne_nil_of_mem hm
structure fK(s:ao)(done:List Nat):Prop where
 sub:∀n∈done,n∈bJ s
 up:∀n∈done,∀m∈f_ (b9 s) n,m∈done
 nd:done.Nodup
def bc(s:ao)(done:List Nat):List Nat:=(bJ s).filter λn=> !done.contains n
theorem fK.above{s:ao}(w:Wf s){done:List Nat}(D:fK s done){n m:Nat}(hn:n∈done)(h:Up (b9 s) n m):m∈done:=by
 induction h with
 |one e=>exact D.up _ hn _ e
 |more _ e ih=>exact D.up _ ih _ e
theorem vJ{s:ao}(w:Wf s){done:List Nat}(D:fK s done):mD s (bc s done)=pG (b9 s) (bJ s) done:=by
 unfold mD pG bc;rw[My];refine mR λn hn=>?_;rw[Oy];congr 1;rw[fh,B5,B2,mU];constructor
 .intro h m hm;have hu:m∈bU s n:=(iJ w).mpr (.one hm);have hc:=JP w hn hu;have:=h m hu;simp only[mJ,bM,not_and]at this;have:=this hc;simpa using this
 .intro h u hu q;simp only[mJ,bM]at q;have hu:=(iJ w).mp hu;have key:u∈done:=by
   have:∀m,Up (b9 s) n m->m∈done:=by
    intro m hm;induction hm with
    |one e=>simpa using h _ e
    |more _ e ih=>exact D.up _ ih _ e
   exact this u hu
  have q2:=q.2;simp[key]at q2
theorem fK.nil(s:ao):fK s []:=⟨λ_ h=>(by cases h),λ_ h=>(by cases h),mZ⟩
theorem fK.snoc{s:ao}(w:Wf s){done:List Nat}(D:fK s done){n:Nat}{r:List Nat}(h:mD s (bc s done)=n::r):fK s (done++[n])/\n∈bc s done/\bc s (done++[n])=(bc s done).erase n:=by
 have hn:n∈mD s (bc s done):=by rw[h];exact bA
 have hw:n∈bc s done:=(bM.mp hn).1;have hc:n∈bJ s:=(bM.mp hw).1;have hnd:n∉done:=by have:=(bM.mp hw).2;simpa using this
 refine⟨⟨λm hm=>?_,λm hm k hk=>?_,?_⟩,hw,?_⟩
 .rcases bT.mp hm with q|q
  .exact D.sub m q
  .rw[bY]at q;rw[q];exact hc
 .rcases bT.mp hm with q|q
  .exact lw _ (D.up m q k hk)
  .rw[bY]at q;subst q;rw[vJ w D]at hn;have:=(bM.mp hn).2;rw[hU,mU]at this;exact lw _ (by simpa using this.2 k hk)
 .rw[hJ];exact⟨D.nd,by simp,λa ha b hb=>by rw[bY]at hb;rw[hb];intro e;exact hnd (e▸ha)⟩
 .unfold bc;have nd:=Wh w;rw[List.Nodup.erase_eq_filter (nd.filter _),My];refine mR λm _=>?_;rw[List.contains_append,P2,Oy];congr 1;by_cases e:m=n
  .subst e;simp
  .simp[e]
theorem yc{s:ao}(w:Wf s){done:List Nat}(D:fK s done)(k:Nat){n:Nat}{r:List Nat}(h:mD s (bc s done)=n::r):gK (b9 s) (bJ s) (k+1) done=gK (b9 s) (bJ s) k (done++[n]):=by
 show(match pG (b9 s) (bJ s) done with
  |[]=>done
  |n::_=>gK (b9 s) (bJ s) k (done++[n]))=_
 rw[<-vJ w D,h]
theorem yp{s:ao}(w:Wf s){done:List Nat}(D:fK s done)(k:Nat)(h:bc s done=[]):gK (b9 s) (bJ s) k done=done:=by
 cases k with
 |zero=>rfl
 |succ k=>
  show(match pG (b9 s) (bJ s) done with
   |[]=>done
   |n::_=>gK (b9 s) (bJ s) k (done++[n]))=_
  rw[<-vJ w D,h];rfl
def ord(s:ao):List Nat:=OU (cD s)
theorem Ab{s:ao}(w:Wf s):ord s=gK (b9 s) (bJ s) s.cells.length []:=by unfold ord OU;rw[Tu w];show gK (b9 s) (bJ s) (s.cells.map bd).length []=_;rw[aE]
theorem xR(s:ao)(done:List Nat):(bc s done).length<=s.cells.length:=by
 have h1:=gg (λn=> !done.contains n) (bJ s);have h2:(bJ s).length<=s.cells.length:=by unfold bJ;rw[aE];exact gg _ _
 unfold bc
 lia
theorem P'{s:ao}(w:Wf s):∀(k:Nat)(done:List Nat),fK s done->(bc s done).length<=k->fK s (gK (b9 s) (bJ s) k done)/\bc s (gK (b9 s) (bJ s) k done)=[]:=by
 intro k;induction k with
 |zero=>intro done D h;have e:bc s done=[]:=tM.mp (by lia);rw[yp w D 0 e];exact⟨D,e⟩
 |succ k ih=>
  intro done D h;by_cases e:bc s done=[]
  .rw[yp w D _ e];exact⟨D,e⟩
  .have hr:=Ge w (λn hn=>(bM.mp hn).1) e;obtain⟨n,r,er⟩:=A4 hr;obtain⟨D',hw,ew⟩:=D.snoc w er;rw[yc w D k er];refine ih _ D' ?_;rw[ew,oU hw]
   lia
theorem iI{s:ao}(w:Wf s):fK s (ord s)/\∀n,n∈ord s↔n∈bJ s:=by
 obtain⟨D,e⟩:=P' w s.cells.length [] (fK.nil s) (xR s []);rw[<-Ab w]at D e;refine⟨D,λn=>⟨D.sub n,λh=>?_⟩⟩;by_cases q:n∈ord s
 .exact q
 .have:n∈bc s (ord s):=bM.mpr ⟨h,by simpa using q⟩;rw[e]at this;cases this
end Vm
namespace Vm
theorem Fg(g:g9)(ok:List Nat):∀(k:Nat)(done:List Nat),∃t,gK g ok k done=done++t
 |0,done=>⟨[],by simp[gK]⟩
 |k+1,done=>by
  show∃t,(match pG g ok done with
   |[]=>done
   |n::_=>gK g ok k (done++[n]))=done++t
  cases pG g ok done with
  |nil=>exact⟨[],by simp⟩
  |cons n _=>obtain⟨t,e⟩:=Fg g ok k (done++[n]);exact⟨n::t,by show gK g ok k (done++[n])=_;rw[e];simp⟩
theorem P_{s:ao}(w:Wf s):∀(k:Nat)(done:List Nat)(i:Nat),fK s done->done.length<=i->fK s ((gK (b9 s) (bJ s) k done).take i):=by
 intro k;induction k with
 |zero=>intro done i D h;show fK s (done.take i);rw[qM h];exact D
 |succ k ih=>
  intro done i D h;cases e:mD s (bc s done)with
  |nil=>
   have e1:gK (b9 s) (bJ s) (k+1) done=done:=by
    show(match pG (b9 s) (bJ s) done with
     |[]=>done
     |n::_=>gK (b9 s) (bJ s) k (done++[n]))=_
    rw[<-vJ w D,e]
   rw[e1,qM h];exact D
  |cons n r=>
   rw[yc w D k e];obtain⟨D',_,_⟩:=D.snoc w e;by_cases q:i=done.length
   .obtain⟨t,et⟩:=Fg (b9 s) (bJ s) k (done++[n]);rw[et,q,mS,N1];exact D
   .exact ih _ i D' (by simp;lia)
theorem Gx{s:ao}(w:Wf s)(i:Nat):fK s ((ord s).take i):=by rw[Ab w];exact P_ w _ [] i (fK.nil s) (dJ _)
def lk(w:cG):Option Res:=some (gl w)
def gR(s:ao)(o:List az):List Entry:=w8 s o lk
theorem yK(s:ao):jx s=gR s (rg s):=rfl
theorem R0(s:ao)(o:List az)(c:az):gR s (o++[c])=gR s o++[lE s (cD s) lk (gR s o) c]:=by unfold gR w8;simp only[tZ,o_,List.foldl_nil]
theorem NT(s:ao)(b:Vanbkb.State)(look:cG->Option Res)(l:List Entry)(c:az):(lE s b look l c).number=c.number:=by
 unfold lE;dsimp only;split
 .rfl
 .split<;>rfl
theorem zc(s:ao):∀(o:List az)(l:List Entry),∃t,o.foldl (λl c=>l++[lE s (cD s) lk l c]) l=l++t/\t.map (λe=>e.number)=o.map λc=>c.number
 |[],l=>⟨[],by simp⟩
 |c::o,l=>by
  obtain⟨t,e,en⟩:=zc s o (l++[lE s (cD s) lk l c]);refine⟨lE s (cD s) lk l c::t,?_,?_⟩
  .rw[o_,e,mS];rfl
  .rw[bb,bb,en,NT]
theorem PF(s:ao)(o o':List az):∃t,gR s (o++o')=gR s o++t/\t.map (λe=>e.number)=o'.map λc=>c.number:=by unfold gR w8;dsimp only;rw[tZ];exact zc s o' _
theorem xI(s:ao)(o:List az):(gR s o).map (λe=>e.number)=o.map λc=>c.number:=by obtain⟨t,e,en⟩:=zc s o [];unfold gR w8;dsimp only;rw[e];simpa using en
theorem BJ{l t:List Entry}{n:Nat}(h:n∈l.map λe=>e.number):dI (l++t) n=dI l n:=by
 unfold dI;rw[MN];cases e:l.find? λe=>e.number==n with
 |some x=>rfl
 |none=>obtain⟨x,hx,rfl⟩:=aK.mp h;have:=tX.mp e x hx;simp at this
theorem Mq{l t:List Entry}{n:Nat}(h:n∉l.map λe=>e.number):dI (l++t) n=dI t n:=by
 unfold dI;rw[MN];cases e:l.find? λe=>e.number==n with
 |some x=>exact absurd (aK.mpr ⟨x,wC e,by simpa using xn e⟩) h
 |none=>rfl
theorem EF{l:List Entry}{n:Nat}(h:n∉l.map λe=>e.number):dI l n=none:=by
 unfold dI;cases e:l.find? λe=>e.number==n with
 |some x=>exact absurd (aK.mpr ⟨x,wC e,by simpa using xn e⟩) h
 |none=>rfl
def two:Option Res->Nat×Nat
 |some r=>pB r
 |none=>(0,0)
def resT(s:ao)(n:Nat):Nat×Nat:=two (dI (jx s) n)
def eZ(s:ao)(c:az):Bool:=(src s c).any λm=>(resT s m).1 !=1
def wk(s:ao)(c:az):cG:=⟨c.kind,c.const,CV s c,(src s c).map λm=>(resT s m).2⟩
def iO(s:ao)(c:az):Entry:=if eZ s c=true then⟨c.number,none,some .held⟩else⟨c.number,some (wk s c),some (gl (wk s c))⟩
theorem xX(s:ao)(c:az):(iO s c).number=c.number:=by unfold iO;split<;>rfl
theorem Hg(s:ao)(c:az):(iO s c).res=some (if eZ s c=true then .held else gl (wk s c)):=by
 unfold iO;split
 .rename_i h;simp[h]
 .rename_i h;simp[h]
theorem map_bind{α β γ:Type}(f:α->Option β)(g:β->Option γ):∀(l:List α),(∀x∈l,∃m,f x=some m)->l.map (λx=>(f x).bind g)=(l.filterMap f).map g
 |[],_=>rfl
 |a::l,h=>by obtain⟨m,e⟩:=h a bA;rw[bb,A7 e,bb,map_bind f g l λx hx=>h x (bq _ hx),e];rfl
theorem PM{s:ao}{c:az}(h:own s c=0):∀x∈c.reads,∃m,one (mk s x)=some m:=by
 intro x hx;have h2:¬(∃x∈c.reads,(mk s x).length=0)/\¬(∃x∈c.reads,1<(mk s x).length):=by
  unfold own at h;by_cases a1:1<(mk s c.name).length
  .rw[if_pos a1]at h;lia
  .rw[if_neg a1]at h;by_cases a2:c.number∈bU s c.number
   .rw[if_pos a2]at h;lia
   .rw[if_neg a2]at h;by_cases a3:∃x∈c.reads,(mk s x).length=0
    .rw[if_pos a3]at h;lia
    .rw[if_neg a3]at h;by_cases a4:∃x∈c.reads,1<(mk s x).length
     .rw[if_pos a4]at h;lia
     .exact⟨a3,a4⟩
 have l0:¬(mk s x).length=0:=λq=>h2.1 ⟨x,hx,q⟩;have l1:¬1<(mk s x).length:=λq=>h2.2 ⟨x,hx,q⟩;have l2:(mk s x).length=1:=by lia
 obtain⟨m,e⟩:=LP.mp l2;exact⟨m,by rw[e];rfl⟩
theorem Nr{l:List (Option Res)}(h:∀r∈l,∃v,r=some (FU v)):(l.filterMap NU)=l.map λr=>(two r).2:=by
 induction l with
 |nil=>rfl
 |cons a l ih=>obtain⟨v,rfl⟩:=h a bA;have e:NU (some (FU v))=some v:=rfl;rw[A7 e,bb,ih λr hr=>h r (bq _ hr)];rfl
theorem Q5{s:ao}{c:az}{l:List Entry}(h0:own s c=0)(hs:∀m∈src s c,∃r,dI l m=some r/\dI (jx s) m=some r):lE s (cD s) lk l c=iO s c:=by
 have e1:(c.reads.map λx=>(ug (cD s) x).bind λm=>dI l m)=(src s c).map λm=>dI l m:=by
  have:(λx=>(ug (cD s) x).bind λm=>dI l m)=λx=>(one (mk s x)).bind λm=>dI l m:=by funext x;rw[EN]
  rw[this];exact map_bind _ _ _ (PM h0)
 have e2:(src s c).map (λm=>dI l m)=(src s c).map λm=>dI (jx s) m:=by refine fS λm hm=>?_;obtain⟨r,h1,h2⟩:=hs m hm;rw[h1,h2]
 unfold lE iO;dsimp only;rw[e1,e2];have e3:(((src s c).map λm=>dI (jx s) m).any DS)=eZ s c:=by
  unfold eZ;rw[lL,fh,fg,fg];constructor
  .rintro⟨m,hm,q⟩;refine⟨m,hm,?_⟩;obtain⟨r,_,h2⟩:=hs m hm;have q:DS (dI (jx s) m)=true:=q;unfold resT;rw[h2]at q ⊢;cases r with
   |value v=>cases q
   |refused=>rfl
   |held=>rfl
  .rintro⟨m,hm,q⟩;refine⟨m,hm,?_⟩;obtain⟨r,_,h2⟩:=hs m hm;show DS (dI (jx s) m)=true;unfold resT at q;rw[h2]at q ⊢;cases r with
   |value v=>simp[two,pB]at q
   |refused=>rfl
   |held=>rfl
 rw[e3];by_cases hh:eZ s c=true
 .rw[if_pos hh,if_pos hh]
 .rw[if_neg hh,if_neg hh];have all:∀r∈((src s c).map λm=>dI (jx s) m),∃v,r=some (FU v):=by
   intro r hr;obtain⟨m,hm,rfl⟩:=aK.mp hr;obtain⟨q,_,h2⟩:=hs m hm;rw[h2];cases q with
   |value v=>exact⟨v,rfl⟩
   |refused=>refine absurd ?_ hh;unfold eZ;rw[fg];exact⟨m,hm,by unfold resT;rw[h2];rfl⟩
   |held=>refine absurd ?_ hh;unfold eZ;rw[fg];exact⟨m,hm,by unfold resT;rw[h2];rfl⟩
  rw[Nr all,bH];rw[if_neg (by simp)];rfl
theorem yg(s:ao):rg s=(ord s).filterMap λn=>b_ s n:=rfl
theorem xq{s:ao}:∀(l:List Nat),(∀n∈l,n∈bJ s)->(l.filterMap λn=>b_ s n).map (λc=>c.number)=l
 |[],_=>rfl
 |n::l,h=>by
  obtain⟨c,hc,_,e⟩:=ik.mp (h n bA);cases q:b_ s n with
  |none=>exact absurd (aK.mpr ⟨c,hc,e⟩) (FN q)
  |some d=>rw[A7 q,bb,(r_ q).2,xq l λn hn=>h n (bq _ hn)]
theorem yL{s:ao}(w:Wf s){i:Nat}{c:az}(hc:c∈s.cells)(hi:(ord s)[i]? =some c.number):∀m∈src s c,m∈(ord s).take i:=by
 intro m hm;have D:=Gx w (i+1);have YK:i<(ord s).length:=by
  by_cases q:i<(ord s).length
  .exact q
  .rw[Bj (by lia)]at hi;cases hi
 have e:(ord s).take (i+1)=(ord s).take i++[c.number]:=by rw[dA,hi];rfl
 rw[e]at D;have h1:=D.up c.number (iB _ bA) m ((pq w hc).mpr hm);rcases bT.mp h1 with q|q
 .exact q
 .rw[bY]at q;subst q;have Zb:c.number∈bJ s:=D.sub _ (iB _ bA);exact absurd ((iJ w).mpr (.one ((pq w hc).mpr hm))) (EY w Zb)
theorem RZ{s:ao}(w:Wf s):∀i,i<=(ord s).length->gR s (((ord s).take i).filterMap λn=>b_ s n)=(((ord s).take i).filterMap λn=>b_ s n).map (iO s)/\(∀n∈(ord s).take i,∃r,dI (gR s (((ord s).take i).filterMap λn=>b_ s n)) n=some r):=by
 intro i;induction i with
 |zero=>intro _;refine⟨rfl,λn hn=>?_⟩;simp at hn
 |succ i ih=>
  intro hi;obtain⟨ih1,ih2⟩:=ih (by lia);have YK:i<(ord s).length:=by lia
  obtain⟨n,hn⟩:∃n,(ord s)[i]? =some n:=⟨_,cR YK⟩;have Zb:n∈bJ s:=(iI w).1.sub n (cU hn);obtain⟨c,hc,ht,rfl⟩:=ik.mp Zb;have e:(ord s).take (i+1)=(ord s).take i++[c.number]:=by rw[dA,hn];rfl
  have e2:((ord s).take (i+1)).filterMap (λn=>b_ s n)=((ord s).take i).filterMap (λn=>b_ s n)++[c]:=by rw[e,lv];congr 1;simp[i7 w hc]
  have ae5:(gR s (((ord s).take i).filterMap λn=>b_ s n)).map (λe=>e.number)=(ord s).take i:=by rw[xI];exact xq _ λn hn=>(Gx w i).sub n hn
  have step:lE s (cD s) lk (gR s (((ord s).take i).filterMap λn=>b_ s n)) c=iO s c:=by
   refine Q5 (u0.mp ht).1 λm hm=>?_;have hm':=yL w hc hn m hm;obtain⟨r,hr⟩:=ih2 m hm';refine⟨r,hr,?_⟩;have split:(ord s).filterMap (λn=>b_ s n)=((ord s).take i).filterMap (λn=>b_ s n)++((ord s).drop i).filterMap (λn=>b_ s n):=by rw[<-lv,kD]
   rw[yK,yg,split];obtain⟨t,et,_⟩:=PF s (((ord s).take i).filterMap λn=>b_ s n) (((ord s).drop i).filterMap λn=>b_ s n);rw[et,BJ (by rw[ae5];exact hm'),hr]
  have main:gR s (((ord s).take (i+1)).filterMap λn=>b_ s n)=gR s (((ord s).take i).filterMap λn=>b_ s n)++[iO s c]:=by rw[e2,R0,step]
  refine⟨?_,λn' hn'=>?_⟩
  .rw[main,ih1,e2,bV];rfl
  .rw[main];rw[e]at hn';by_cases q:n'∈(ord s).take i
   .rw[BJ (by rw[ae5];exact q)];exact ih2 n' q
   .rcases bT.mp hn' with q'|q'
    .exact absurd q' q
    .rw[bY]at q';subst q';rw[Mq (by rw[ae5];exact q)];refine⟨if eZ s c=true then .held else gl (wk s c),?_⟩;unfold dI;rw[LQ (by rw[xX];simp)];exact Hg s c
theorem Ff{s:ao}(w:Wf s):jx s=(rg s).map (iO s):=by have h:=(RZ w (ord s).length (aT _)).1;rw[dz]at h;exact h
theorem xa{s:ao}(w:Wf s):(rg s).map (λc=>c.number)=ord s:=xq _ λn hn=>(iI w).1.sub n hn
theorem Fp{s:ao}:∀(l:List az)(c:az),(l.map λc=>c.number).Nodup->c∈l->dI (l.map (iO s)) c.number=some (if eZ s c=true then .held else gl (wk s c))
 |[],_,_,h=>by cases h
 |a::l,c,nd,h=>by
  rw[bb,fT]at nd;unfold dI;rw[bb];rcases aV.mp h with rfl|h
  .rw[LQ (by rw[xX];simp)];exact Hg s c
  .have ne:¬a.number=c.number:=λe=>nd.1 (e▸aK.mpr ⟨c,h,rfl⟩);rw[Bg (by rw[xX];simpa using ne)];exact Fp l c nd.2 h
theorem Pz{s:ao}(w:Wf s){c:az}(hc:c∈s.cells)(ht:bF s c=0):c∈rg s:=by rw[yg,mO];exact⟨c.number,((iI w).2 _).mpr (ik.mpr ⟨c,hc,ht,rfl⟩),i7 w hc⟩
theorem D8{s:ao}(w:Wf s){c:az}(hc:c∈s.cells)(ht:bF s c=0):dI (jx s) c.number=some (if eZ s c=true then .held else gl (wk s c)):=by rw[Ff w];refine Fp _ c ?_ (Pz w hc ht);rw[xa w];exact(iI w).1.nd
theorem EE{s:ao}(w:Wf s){c:az}(hc:c∈s.cells)(ht:bF s c=0):resT s c.number=if eZ s c=true then(3,0)else pB (gl (wk s c)):=by unfold resT;rw[D8 w hc ht];split<;>rfl
theorem yd{s:ao}(w:Wf s):ju s=s.cells.map λc=>(c.number,if bF s c=0 then resT s c.number else(4,bF s c)):=by
 unfold ju;dsimp only;refine fS λc hc=>?_;congr 1;by_cases ht:bF s c=0
 .rw[if_pos ht];unfold resT;rw[D8 w hc ht];rfl
 .rw[if_neg ht];have:dI (jx s) c.number=none:=by refine EF ?_;rw[yK,xI,xa w];intro q;obtain⟨d,hd,htd,e⟩:=ik.mp (((iI w).2 _).mp q);rw[sO w hd hc e]at htd;exact ht htd
  rw[this,Qe w hc];rfl
def wc(s:ao)(c:az):Nat×Nat:=if bF s c=0 then resT s c.number else(4,bF s c)
theorem uQ{s:ao}(w:Wf s){c:az}(hc:c∈s.cells):bm s c.number=wc s c:=by unfold bm xi;rw[yd w,Ci (λc=>if bF s c=0 then resT s c.number else(4,bF s c)) w.nd hc];rfl
theorem xS{s:ao}(w:Wf s){n:Nat}(h:n∉s.cells.map λc=>c.number):bm s n=(0,0):=by unfold bm xi;rw[yd w,Oj (λc=>if bF s c=0 then resT s c.number else(4,bF s c)) h];rfl
theorem O2{s:ao}(w:Wf s):(jx s).filterMap (λe=>e.work)=(rg s).filterMap λc=>if eZ s c=true then none else some (wk s c):=by rw[Ff w,Mz];congr 1;funext c;show(iO s c).work=_;unfold iO;split<;>rfl
theorem sV(n:Nat):n%97<=96:=by lia
theorem DE:∀(l:List Nat)(k:Nat),k<=96->(∀v∈l,v<=96)->l.foldl max k<=96
 |[],k,h,_=>h
 |a::l,k,h,hl=>by
  rw[o_];refine DE l _ ?_ λv hv=>hl v (bq _ hv);have:=hl a bA
  lia
theorem Q8{w:cG}(hc:w.const<=96)(hv:∀v∈w.values,v<=96){v:Nat}(h:gl w= .value v):v<=96:=by
 unfold gl at h;dsimp only at h;split at h
 .cases h;exact sV _
 .cases h;exact sV _
 .cases h;exact DE _ _ hc hv
 .split at h
  .cases h
  .cases h;exact sV _
 .cases h;exact sV _
 .cases h;exact sV _
theorem Uu{s:ao}(w:Wf s):∀n,(resT s n).2<=96:=by
 have key:∀i,i<=(ord s).length->∀n∈(ord s).take i,(resT s n).2<=96:=by
  intro i;induction i with
  |zero=>intro _ n hn;simp at hn
  |succ i ih=>
   intro hi n hn;have YK:i<(ord s).length:=by lia
   obtain⟨n',hn'⟩:∃n,(ord s)[i]? =some n:=⟨_,cR YK⟩;have e:(ord s).take (i+1)=(ord s).take i++[n']:=by rw[dA,hn'];rfl
   rw[e]at hn;rcases bT.mp hn with q|q
   .exact ih (by lia) n q
   .rw[bY]at q;subst q;have Zb:n∈bJ s:=(iI w).1.sub n (cU hn');obtain⟨c,hc,ht,rfl⟩:=ik.mp Zb;rw[EE w hc ht];by_cases hh:eZ s c=true
    .rw[if_pos hh];decide
    .rw[if_neg hh];cases e:gl (wk s c)with
     |refused=>decide
     |held=>decide
     |value v=>refine Q8 (w.cell c hc).cn ?_ e;intro v hv;have hv:v∈(src s c).map λm=>(resT s m).2:=hv;obtain⟨m,hm,rfl⟩:=aK.mp hv;exact ih (by lia) m (yL w hc hn' m hm)
 intro n;by_cases q:n∈ord s
 .exact key _ (aT _) n (by rw[dz];exact q)
 .unfold resT;rw[EF (by rw[yK,xI,xa w];exact q)];decide
theorem Nu(w:cG):gl w≠ .held:=by
 unfold gl;dsimp only;split
 .intro h;cases h
 .intro h;cases h
 .intro h;cases h
 .split<;>(intro h;cases h)
 .intro h;cases h
 .intro h;cases h
end Vm
namespace Vm
def g0:ej->Prop
 | .put c=>jE c
 | .drop n=>1<=n/\n<=99
 | .seed x=>x<=1000
abbrev gT(l:List az):Prop:=(l.map λc=>c.number).Pairwise (·<·)
theorem sh{c:az}{l:List az}(h:gT (c::l)):gT l/\∀d∈l,c.number<d.number:=by unfold gT at h;rw[bb,qQ]at h;exact⟨h.2,λd hd=>h.1 _ (aK.mpr ⟨d,hd,rfl⟩)⟩
theorem zh{c:az}{l:List az}(h:gT l)(k:∀d∈l,c.number<d.number):gT (c::l):=by unfold gT;rw[bb,qQ];refine⟨λn hn=>?_,h⟩;obtain⟨d,hd,rfl⟩:=aK.mp hn;exact k d hd
theorem nB{c d:az}:∀{l:List az},gT l->(d∈iW c l↔d=c\/(d∈l/\d.number≠c.number))
 |[],_=>by simp[iW]
 |a::l,h=>by
  obtain⟨ht,hl⟩:=sh h;unfold iW;by_cases h1:c.number<a.number
  .rw[if_pos h1];constructor
   .intro q;rcases aV.mp q with q|q
    .exact .inl q
    .refine .inr ⟨q,?_⟩;rcases aV.mp q with rfl|q
     .lia
     .have:=hl d q;lia
   .rintro(rfl|⟨q,_⟩)
    .exact bA
    .exact bq _ q
  .rw[if_neg h1];by_cases h2:c.number=a.number
   .rw[if_pos h2];constructor
    .intro q;rcases aV.mp q with q|q
     .exact .inl q
     .refine .inr ⟨bq _ q,?_⟩;have:=hl d q;lia
    .rintro(rfl|⟨q,ne⟩)
     .exact bA
     .rcases aV.mp q with rfl|q
      .exact absurd h2.symm ne
      .exact bq _ q
   .rw[if_neg h2,aV,nB ht,aV];constructor
    .rintro(rfl|rfl|⟨q,ne⟩)
     .exact .inr ⟨.inl rfl,λe=>h2 e.symm⟩
     .exact .inl rfl
     .exact .inr ⟨.inr q,ne⟩
    .rintro(rfl|⟨rfl|q,ne⟩)
     .exact .inr (.inl rfl)
     .exact .inl rfl
     .exact .inr (.inr ⟨q,ne⟩)
theorem yi{c:az}:∀{l:List az},gT l->gT (iW c l)
 |[],_=>by show gT [c];unfold gT;simp
 |a::l,h=>by
  obtain⟨ht,hl⟩:=sh h;unfold iW;by_cases h1:c.number<a.number
  .rw[if_pos h1];refine zh h λd hd=>?_;rcases aV.mp hd with rfl|q
   .exact h1
   .have:=hl d q;lia
  .rw[if_neg h1];by_cases h2:c.number=a.number
   .rw[if_pos h2];exact zh ht λd hd=>by have:=hl d hd;lia
   .rw[if_neg h2];refine zh (yi ht) λd hd=>?_;rcases(nB ht).mp hd with rfl|⟨q,_⟩
    .lia
    .exact hl d q
theorem IR:∀{l r:List az},gT l->gT r->(∀c,c∈l↔c∈r)->l=r
 |[],[],_,_,_=>rfl
 |[],b::r,_,_,h=>absurd ((h b).mpr bA) (by simp)
 |a::l,[],_,_,h=>absurd ((h a).mp bA) (by simp)
 |a::l,b::r,hl,hr,h=>by
  obtain⟨tl,ll⟩:=sh hl;obtain⟨tr,lr⟩:=sh hr;have e:a=b:=by
   rcases aV.mp ((h a).mp bA)with e|q
   .exact e
   .rcases aV.mp ((h b).mpr bA)with e|q'
    .exact e.symm
    .have h1:=lr a q;have h2:=ll b q'
     lia
  subst e;rw[IR tl tr λc=>?_];constructor
  .intro q;rcases aV.mp ((h c).mp (bq _ q))with e|q'
   .subst e;exact absurd (ll c q) (gI _)
   .exact q'
  .intro q;rcases aV.mp ((h c).mpr (bq _ q))with e|q'
   .subst e;exact absurd (lr c q) (gI _)
   .exact q'
theorem len_placed{c:az}:∀{l:List az},gT l->(iW c l).length=if(c.number∈l.map λc=>c.number)then l.length else l.length+1
 |[],_=>by simp[iW]
 |a::l,h=>by
  obtain⟨ht,hl⟩:=sh h;unfold iW;by_cases h1:c.number<a.number
  .rw[if_pos h1,if_neg]
   .rfl
   .intro q;rw[bb]at q;rcases aV.mp q with q|q
    .lia
    .obtain⟨d,hd,e⟩:=aK.mp q;have:=hl d hd
     lia
  .rw[if_neg h1];by_cases h2:c.number=a.number
   .rw[if_pos h2,if_pos (by simp[h2])];rfl
   .rw[if_neg h2,cC,len_placed ht];simp only[bb,aV,h2,false_or];split<;>simp
theorem sC{s:ao}{n:Nat}:(b_ s n).isSome=true↔n∈s.cells.map λc=>c.number:=by
 constructor
 .intro h;cases e:b_ s n with
  |none=>rw[e]at h;cases h
  |some c=>obtain⟨h1,h2⟩:=r_ e;exact aK.mpr ⟨c,h1,h2⟩
 .intro h;cases e:b_ s n with
  |none=>exact absurd h (FN e)
  |some c=>rfl
theorem uU(s:ao)(c:az):fj s (.put c)=if(b_ s c.number).isSome=true\/s.cells.length<rH then{s with cells:=iW c s.cells}else s:=rfl
theorem Hh:Wf ({}:ao):=⟨MP,by decide,λc h=>(by cases h),by decide⟩
theorem Hs{s:ao}{e:ej}(w:Wf s)(h:g0 e):Wf (fj s e):=by
 cases e with
 |put c=>
  have h:jE c:=h;rw[uU];by_cases q:(b_ s c.number).isSome=true\/s.cells.length<rH
  .rw[if_pos q];refine⟨yi w.Α,?_,λd hd=>?_,w.seed⟩
   .show(iW c s.cells).length<=12;rw[len_placed w.Α];have hc:rH=12:=rfl;have:=w.YI;rw[sC]at q;split
    .lia
    .rename_i n;rcases q with q|q
     .exact absurd q n
     .lia
   .rcases(nB w.Α).mp hd with rfl|⟨k,_⟩
    .exact h
    .exact w.cell d k
  .rw[if_neg q];exact w
 |drop n=>refine⟨?_,cV (gg _ _) w.YI,λd hd=>w.cell d (bM.mp hd).1,w.seed⟩;show gT (s.cells.filter λc=>c.number !=n);have:=w.Α;unfold gT;rw[ff]at this ⊢;exact this.filter _
 |seed x=>exact⟨w.Α,w.YI,w.cell,h⟩
theorem uD:∀{l:List ej}{s:ao},Wf s->(∀e∈l,g0 e)->Wf (gU s l)
 |[],_,w,_=>w
 |e::l,s,w,h=>uD (l:=l) (s:=fj s e) (Hs w (h e bA)) λe he=>h e (bq _ he)
theorem Dq(s:ao)(l:List ej)(e:ej):gU s (l++[e])=fj (gU s l) e:=by unfold gU;rw[tZ];rfl
theorem G8{s:ao}{c:az}(q:c.number∈s.cells.map (λc=>c.number)\/s.cells.length<12):(b_ s c.number).isSome=true\/s.cells.length<rH:=q.imp sC.mpr id
theorem Fu{s:ao}{c:az}(q:c.number∈s.cells.map (λc=>c.number)\/s.cells.length<12):(fj s (.put c)).cells=iW c s.cells/\(fj s (.put c)).seed=s.seed:=by rw[uU,if_pos (G8 q)];exact⟨rfl,rfl⟩
theorem SJ{s:ao}{c:az}(q:¬(c.number∈s.cells.map (λc=>c.number)\/s.cells.length<12)):fj s (.put c)=s:=by rw[uU,if_neg λz=>q (z.imp sC.mp id)]
theorem SY{s:ao}{n:Nat}{c:az}:c∈(fj s (.drop n)).cells↔c∈s.cells/\c.number≠n:=by show c∈s.cells.filter (λc=>c.number !=n)↔_;rw[bM];simp
structure Yb(s:ao):Prop where
 kept:s.kept=[]
 under:s.under=[]
 shown:s.shown=[]
 count:s.count=0
theorem SG{s:ao}(w:Wf s){c:az}(q:c.number∈s.cells.map (λc=>c.number)\/s.cells.length<12):(fj s (.put c)==s)=decide (b_ s c.number=some c):=by
 rw[fh,beq_iff_eq,decide_eq_true_eq];constructor
 .intro e;have h1:c∈s.cells:=by rw[<-e,(Fu q).1];exact(nB w.Α).mpr (.inl rfl)
  exact i7 w h1
 .intro e;have h1:=(r_ e).1;have e2:iW c s.cells=s.cells:=IR (yi w.Α) w.Α λd=>by
   rw[nB w.Α];constructor
   .rintro(rfl|⟨h,_⟩)
    .exact h1
    .exact h
   .intro h;by_cases k:d.number=c.number
    .exact .inl (sO w h h1 k)
    .exact .inr ⟨h,k⟩
  rw[uU,if_pos (G8 q),e2]
theorem R1{s:ao}{n:Nat}(h:n∈s.cells.map λc=>c.number):(fj s (.drop n)==s)=false:=by rw[beq_eq_false_iff_ne];intro e;obtain⟨c,hc,rfl⟩:=aK.mp h;rw[<-e]at hc;exact(SY.mp hc).2 rfl
theorem Ru{s:ao}{x:Nat}:(fj s (.seed x)==s)=decide (x=s.seed):=by
 rw[fh,beq_iff_eq,decide_eq_true_eq];constructor
 .intro e;have:=congrArg Vanbkg.State.seed e;exact this
 .intro e;show({s with seed:=x}:ao)=s;rw[e]
theorem dM{s:aP}(h:∀e∈s.edits,g0 e)(p:Nat):Wf (bj s p):=uD Hh λe he=>h e (mK he)
theorem VS(s:aP):a_ s=gU {} s.edits:=by unfold a_ bj;rw[dz]
abbrev g_(l:List (Nat×Nat)):Prop:=(l.map λy=>y.1).Pairwise (·<·)
theorem FF{y:Nat×Nat}{l:List (Nat×Nat)}(h:g_ (y::l)):g_ l/\∀d∈l,y.1<d.1:=by unfold g_ at h;rw[bb,qQ]at h;exact⟨h.2,λd hd=>h.1 _ (aK.mpr ⟨d,hd,rfl⟩)⟩
theorem yw{y:Nat×Nat}{l:List (Nat×Nat)}(h:g_ l)(k:∀d∈l,y.1<d.1):g_ (y::l):=by unfold g_;rw[bb,qQ];refine⟨λn hn=>?_,h⟩;obtain⟨d,hd,rfl⟩:=aK.mp hn;exact k d hd
theorem uk{x p:Nat}{d:Nat×Nat}:∀{l:List (Nat×Nat)},g_ l->(d∈lB x p l↔d=(x,p)\/(d∈l/\d.1≠x))
 |[],_=>by simp[lB]
 |a::l,h=>by
  obtain⟨ht,hl⟩:=FF h;unfold lB;by_cases h1:x<a.1
  .rw[if_pos h1];constructor
   .intro q;rcases aV.mp q with q|q
    .exact .inl q
    .refine .inr ⟨q,?_⟩;rcases aV.mp q with rfl|q
     .lia
     .have:=hl d q;lia
   .rintro(rfl|⟨q,_⟩)
    .exact bA
    .exact bq _ q
  .rw[if_neg h1];by_cases h2:x=a.1
   .rw[if_pos h2];constructor
    .intro q;rcases aV.mp q with q|q
     .exact .inl q
     .refine .inr ⟨bq _ q,?_⟩;have:=hl d q;lia
    .rintro(rfl|⟨q,ne⟩)
     .exact bA
     .rcases aV.mp q with rfl|q
      .exact absurd h2.symm ne
      .exact bq _ q
   .rw[if_neg h2,aV,uk ht,aV];constructor
    .rintro(rfl|rfl|⟨q,ne⟩)
     .exact .inr ⟨.inl rfl,λe=>h2 e.symm⟩
     .exact .inl rfl
     .exact .inr ⟨.inr q,ne⟩
    .rintro(rfl|⟨rfl|q,ne⟩)
     .exact .inr (.inl rfl)
     .exact .inl rfl
     .exact .inr (.inr ⟨q,ne⟩)
theorem CK{x p:Nat}:∀{l:List (Nat×Nat)},g_ l->g_ (lB x p l)
 |[],_=>by show g_ [(x,p)];unfold g_;simp
 |a::l,h=>by
  obtain⟨ht,hl⟩:=FF h;unfold lB;by_cases h1:x<a.1
  .rw[if_pos h1];refine yw h λd hd=>?_;rcases aV.mp hd with rfl|q
   .exact h1
   .have:=hl d q;show x<d.1;lia
  .rw[if_neg h1];by_cases h2:x=a.1
   .rw[if_pos h2];exact yw ht λd hd=>by have:=hl d hd;show x<d.1;lia
   .rw[if_neg h2];refine yw (CK ht) λd hd=>?_;rcases(uk ht).mp hd with rfl|⟨q,_⟩
    .show a.1<x;lia
    .exact hl d q
structure cw(s:aP):Prop where
 ed:∀e∈s.edits,g0 e
 YI:s.edits.length<=40
 aam:g_ s.moments
 mom:∀y∈s.moments,y.1<=31/\y.2<=s.edits.length
theorem Sn:cw pA:=⟨λe h=>(by cases h),by decide,MP,λy h=>(by cases h)⟩
end Vm
namespace Vm
open PyFlat
inductive bR:List Int->eB->List Int->Prop where
 |put {n x k c:Int} {r t:List Int}:r.length<=40->bR (0::n::x::k::c::(r.length:Int)::(r++t)) (.put n x k c r) t
 |drop {n:Int} {t:List Int}:bR (1::n::t) (.drop n) t
 |seed {x:Int} {t:List Int}:bR (2::x::t) (.seed x) t
 |moment {x:Int} {t:List Int}:bR (3::x::t) (.moment x) t
 |lose {x:Int} {t:List Int}:bR (4::x::t) (.lose x) t
 |moments {t:List Int}:bR (5::t) .moments t
 |back {p:Int} {t:List Int}:bR (6::p::t) (.back p) t
 |now {t:List Int}:bR (7::t) .now t
 |result {n p:Int} {t:List Int}:bR (8::n::p::t) (.result n p) t
 |results {p:Int} {t:List Int}:bR (9::p::t) (.results p) t
 |differ {p q:Int} {t:List Int}:bR (10::p::q::t) (.differ p q) t
 |edits {p q:Int} {t:List Int}:bR (11::p::q::t) (.edits p q) t
 |blame {n p:Int} {t:List Int}:bR (12::n::p::t) (.blame n p) t
 |flips {n p q:Int} {t:List Int}:bR (13::n::p::q::t) (.flips n p q) t
 |bisect {n p q:Int} {t:List Int}:bR (14::n::p::q::t) (.bisect n p q) t
 |touching {n p q:Int} {t:List Int}:bR (15::n::p::q::t) (.touching n p q) t
 |guilty {n p q:Int} {t:List Int}:bR (16::n::p::q::t) (.guilty n p q) t
 |shrink {n p q:Int} {t:List Int}:bR (17::n::p::q::t) (.shrink n p q) t
 |workings {p q:Int} {t:List Int}:bR (18::p::q::t) (.workings p q) t
 |runs {p q:Int} {t:List Int}:bR (19::p::q::t) (.runs p q) t
theorem yG(p:Int)(r:List Int):rN fA (p::r)=match fA p with
  |none=>none
  |some (n,k)=>if r.length<n then none else match x8 k (r.drop n)with
   |none=>none
   |some (xs,t)=>some ((p::r.take n)::xs,t):=rfl
theorem Sz(m:Int)(u:List Int):E6 (m::u)=if 0<=m/\m.toNat<=u.length then some (u.take m.toNat,u.drop m.toNat)else none:=rfl
theorem Sy(r:List Int):x8 1 r=match E6 r with
  |none=>none
  |some (x,s)=>some ([x],s):=by
 unfold x8;cases E6 r with
 |none=>rfl
 |some p=>rfl
theorem f8{p:Int}{r:List Int}{n:Nat}{c:List (List Int)}{t:List Int}(hs:fA p=some (n,0))(h:rN fA (p::r)=some (c,t)):n<=r.length/\c=[p::r.take n]/\t=r.drop n:=by
 rw[yG,hs]at h;dsimp only at h;by_cases q:r.length<n
 .rw[if_pos q]at h;cases h
 .rw[if_neg q]at h;have e:x8 0 (r.drop n)=some ([],r.drop n):=rfl;rw[e]at h;cases h;exact⟨by lia,rfl,rfl⟩
theorem Tw{r:List Int}{c:List (List Int)}{t:List Int}(h:rN fA (0::r)=some (c,t)):∃n x k d:Int,∃w:List Int,r=n::x::k::d::(w.length:Int)::(w++t)/\c=[[0,n,x,k,d],w]:=by
 rw[yG,show fA 0=some (4,1)from rfl]at h;dsimp only at h;by_cases q:r.length<4
 .rw[if_pos q]at h;cases h
 .rw[if_neg q]at h
  match r,q,h with
  |n::x::k::d::r',q,h=>
   have e:(n::x::k::d::r').drop 4=r':=rfl;rw[e,Sy]at h;cases r' with
   |nil=>cases h
   |cons m u=>
    rw[Sz]at h;by_cases hm:0<=m/\m.toNat<=u.length
    .rw[if_pos hm]at h;cases h;refine⟨n,x,k,d,u.take m.toNat,?_,rfl⟩;rw[kD,cO,o9 hm.2,Mp hm.1]
    .rw[if_neg hm]at h;cases h
  |[],q,_=>exact absurd (by simp) q
  |[_],q,_=>exact absurd (by simp) q
  |[_,_],q,_=>exact absurd (by simp) q
  |[_,_,_],q,_=>exact absurd (by simp) q
theorem qu{r:List Int}(h:1<=r.length):∃a t,r=a::t/\r.take 1=[a]/\r.drop 1=t:=by
 match r,h with
 |a::t,_=>exact⟨a,t,rfl,rfl,rfl⟩
theorem qt{r:List Int}(h:2<=r.length):∃a b t,r=a::b::t/\r.take 2=[a,b]/\r.drop 2=t:=by
 match r,h with
 |a::b::t,_=>exact⟨a,b,t,rfl,rfl,rfl⟩
 |[_],h=>simp at h
theorem sT{r:List Int}(h:3<=r.length):∃a b c t,r=a::b::c::t/\r.take 3=[a,b,c]/\r.drop 3=t:=by
 match r,h with
 |a::b::c::t,_=>exact⟨a,b,c,t,rfl,rfl,rfl⟩
 |[_],h=>simp at h
 |[_,_],h=>simp at h
theorem O_{p:Int}{n k:Nat}(h:fA p=some (n,k)):p=0\/p=1\/p=2\/p=3\/p=4\/p=5\/p=6\/p=7\/p=8\/p=9\/p=10\/p=11\/p=12\/p=13\/p=14\/p=15\/p=16\/p=17\/p=18\/p=19:=by
 by_cases q:0<=p/\p<=19
 .obtain⟨m,rfl⟩:=Int.eq_ofNat_of_zero_le q.1;have hm:m<20:=by lia
  revert hm;clear q h;revert m;decide
 .exfalso;have hh:∀k:Int,0<=k->k<=19->¬p=k:=λk a b e=>q (e▸⟨a,b⟩);have e:fA p=none:=by unfold fA;rw[if_neg (hh 0 (by decide) (by decide)),if_neg (hh 1 (by decide) (by decide)),if_neg (hh 2 (by decide) (by decide)),if_neg (hh 3 (by decide) (by decide)),if_neg (hh 4 (by decide) (by decide)),if_neg (hh 5 (by decide) (by decide)),if_neg (hh 6 (by decide) (by decide)),if_neg (hh 7 (by decide) (by decide)),if_neg (hh 8 (by decide) (by decide)),if_neg (hh 9 (by decide) (by decide)),if_neg (hh 10 (by decide) (by decide)),if_neg (hh 11 (by decide) (by decide)),if_neg (hh 12 (by decide) (by decide)),if_neg (hh 13 (by decide) (by decide)),if_neg (hh 14 (by decide) (by decide)),if_neg (hh 15 (by decide) (by decide)),if_neg (hh 16 (by decide) (by decide)),if_neg (hh 17 (by decide) (by decide)),if_neg (hh 18 (by decide) (by decide)),if_neg (hh 19 (by decide) (by decide))]
  rw[e]at h;cases h
theorem HC{l:List Int}{c:List (List Int)}{t:List Int}(h:rN fA l=some (c,t)):∃k,(L_ c=true->bR l k t)/\Xl c=some k/\CZ c=c:=by
 cases l with
 |nil=>cases h
 |cons p r=>
  cases hs:fA p with
  |none=>rw[yG,hs]at h;cases h
  |some nk=>
   obtain⟨n,k⟩:=nk;rcases O_ hs with rfl|rfl|rfl|rfl|rfl|rfl|rfl|rfl|rfl|rfl|rfl|rfl|rfl|rfl|rfl|rfl|rfl|rfl|rfl|rfl
   .obtain⟨n,x,k,d,w,rfl,rfl⟩:=Tw h;refine⟨_,λha=> .put ?_,rfl,rfl⟩;have ha:(tQ n&&(tQ x&&(tQ k&&(tQ d&&(w.all (λz=>tQ z)&&decide (w.length<=40))))))=true:=ha;simp only[hU,decide_eq_true_eq]at ha;exact ha.2.2.2.2.2
   .obtain⟨hl,rfl,rfl⟩:=f8 rfl h;obtain⟨a,t,rfl,e1,e2⟩:=qu hl;rw[e1,e2];exact⟨_,λ_=> .drop,rfl,rfl⟩
   .obtain⟨hl,rfl,rfl⟩:=f8 rfl h;obtain⟨a,t,rfl,e1,e2⟩:=qu hl;rw[e1,e2];exact⟨_,λ_=> .seed,rfl,rfl⟩
   .obtain⟨hl,rfl,rfl⟩:=f8 rfl h;obtain⟨a,t,rfl,e1,e2⟩:=qu hl;rw[e1,e2];exact⟨_,λ_=> .moment,rfl,rfl⟩
   .obtain⟨hl,rfl,rfl⟩:=f8 rfl h;obtain⟨a,t,rfl,e1,e2⟩:=qu hl;rw[e1,e2];exact⟨_,λ_=> .lose,rfl,rfl⟩
   .obtain⟨hl,rfl,rfl⟩:=f8 rfl h;exact⟨_,λ_=> .moments,rfl,rfl⟩
   .obtain⟨hl,rfl,rfl⟩:=f8 rfl h;obtain⟨a,t,rfl,e1,e2⟩:=qu hl;rw[e1,e2];exact⟨_,λ_=> .back,rfl,rfl⟩
   .obtain⟨hl,rfl,rfl⟩:=f8 rfl h;exact⟨_,λ_=> .now,rfl,rfl⟩
   .obtain⟨hl,rfl,rfl⟩:=f8 rfl h;obtain⟨a,b,t,rfl,e1,e2⟩:=qt hl;rw[e1,e2];exact⟨_,λ_=> .result,rfl,rfl⟩
   .obtain⟨hl,rfl,rfl⟩:=f8 rfl h;obtain⟨a,t,rfl,e1,e2⟩:=qu hl;rw[e1,e2];exact⟨_,λ_=> .results,rfl,rfl⟩
   .obtain⟨hl,rfl,rfl⟩:=f8 rfl h;obtain⟨a,b,t,rfl,e1,e2⟩:=qt hl;rw[e1,e2];exact⟨_,λ_=> .differ,rfl,rfl⟩
   .obtain⟨hl,rfl,rfl⟩:=f8 rfl h;obtain⟨a,b,t,rfl,e1,e2⟩:=qt hl;rw[e1,e2];exact⟨_,λ_=> .edits,rfl,rfl⟩
   .obtain⟨hl,rfl,rfl⟩:=f8 rfl h;obtain⟨a,b,t,rfl,e1,e2⟩:=qt hl;rw[e1,e2];exact⟨_,λ_=> .blame,rfl,rfl⟩
   .obtain⟨hl,rfl,rfl⟩:=f8 rfl h;obtain⟨a,b,c,t,rfl,e1,e2⟩:=sT hl;rw[e1,e2];exact⟨_,λ_=> .flips,rfl,rfl⟩
   .obtain⟨hl,rfl,rfl⟩:=f8 rfl h;obtain⟨a,b,c,t,rfl,e1,e2⟩:=sT hl;rw[e1,e2];exact⟨_,λ_=> .bisect,rfl,rfl⟩
   .obtain⟨hl,rfl,rfl⟩:=f8 rfl h;obtain⟨a,b,c,t,rfl,e1,e2⟩:=sT hl;rw[e1,e2];exact⟨_,λ_=> .touching,rfl,rfl⟩
   .obtain⟨hl,rfl,rfl⟩:=f8 rfl h;obtain⟨a,b,c,t,rfl,e1,e2⟩:=sT hl;rw[e1,e2];exact⟨_,λ_=> .guilty,rfl,rfl⟩
   .obtain⟨hl,rfl,rfl⟩:=f8 rfl h;obtain⟨a,b,c,t,rfl,e1,e2⟩:=sT hl;rw[e1,e2];exact⟨_,λ_=> .shrink,rfl,rfl⟩
   .obtain⟨hl,rfl,rfl⟩:=f8 rfl h;obtain⟨a,b,t,rfl,e1,e2⟩:=qt hl;rw[e1,e2];exact⟨_,λ_=> .workings,rfl,rfl⟩
   .obtain⟨hl,rfl,rfl⟩:=f8 rfl h;obtain⟨a,b,t,rfl,e1,e2⟩:=qt hl;rw[e1,e2];exact⟨_,λ_=> .runs,rfl,rfl⟩
inductive lf:List Int->List eB->Prop where
 |nil:lf [] []
 |cons {l t:List Int} {k:eB} {ks:List eB}:bR l k t->lf t ks->lf l (k::ks)
def ki:aP->List eB->List Int
 |_,[]=>[]
 |s,k::ks=>(((bS s k).2.more.length+1:Nat):Int)::(bS s k).2.number::(bS s k).2.more++ki (bS s k).1 ks
theorem sy:∀(f:Nat)(l:List Int)(cs:List (List (List Int))),jV fA f l=some cs->(∀c∈cs,L_ c=true)->∃ks,lf l ks/\ks.length=cs.length/\∀s,Es (Ov qP s cs)=ki s ks
 |f,[],cs,h,_=>by
  have e:jV fA f []=some []:=by cases f<;>rfl
  rw[e]at h;cases h;exact⟨[],.nil,rfl,λs=>rfl⟩
 |0,p::r,cs,h,_=>by cases h
 |f+1,p::r,cs,h,ha=>by
  unfold jV at h;cases hc:rN fA (p::r)with
  |none=>rw[hc]at h;cases h
  |some ct=>
   obtain⟨c,t⟩:=ct;rw[hc]at h;dsimp only at h;cases ht:jV fA f t with
   |none=>rw[ht]at h;cases h
   |some cs'=>
    rw[ht]at h;cases h;obtain⟨k,tk,hk,_⟩:=HC hc;have tk:=tk (ha c bA);obtain⟨ks,hl,YG,hp⟩:=sy f t cs' ht λc hc=>ha c (bq _ hc);refine⟨k::ks,.cons tk hl,by simp[YG],λs=>?_⟩;have e1:qP s c=((bS s k).1,wK (bS s k).2):=by unfold qP;rw[hk]
    show Es ((qP s c).2::Ov qP (qP s c).1 cs')=_;rw[e1];have e2:=hp (bS s k).1;unfold Es at e2 ⊢;rw[lz,e2];show(((wK (bS s k).2).length:Nat):Int)::wK (bS s k).2++ki (bS s k).1 ks=ki s (k::ks);unfold wK;rw[cC];rfl
theorem Ij:∀(f:Nat)(l:List Int)(cs:List (List (List Int))),jV fA f l=some cs->cs.map CZ=cs
 |f,[],cs,h=>by
  have e:jV fA f []=some []:=by cases f<;>rfl
  rw[e]at h;cases h;rfl
 |0,p::r,cs,h=>by cases h
 |f+1,p::r,cs,h=>by
  unfold jV at h;cases hc:rN fA (p::r)with
  |none=>rw[hc]at h;cases h
  |some ct=>
   obtain⟨c,t⟩:=ct;rw[hc]at h;dsimp only at h;cases ht:jV fA f t with
   |none=>rw[ht]at h;cases h
   |some cs'=>rw[ht]at h;cases h;obtain⟨_,_,_,hw⟩:=HC hc;rw[bb,hw,Ij f t cs' ht]
theorem Tv(l:List Int):NZ l=jV fA l.length l:=by
 unfold NZ;cases e:jV fA l.length l with
 |none=>rfl
 |some cs=>show some (cs.map CZ)=some cs;rw[Ij _ _ _ e]
theorem V'{l:List Int}(h:LK l=true):∃ks,lf l ks/\1<=ks.length/\ks.length<=400/\Ce l=ki pA ks:=by
 unfold LK at h;unfold Ce;rw[Tv]at h ⊢;cases e:jV fA l.length l with
 |none=>rw[e]at h;cases h
 |some cs=>rw[e]at h;dsimp only at h ⊢;unfold Xn at h;simp only[hU,decide_eq_true_eq,mU]at h;obtain⟨_,h1,h2,h3⟩:=h;obtain⟨ks,hl,YG,hp⟩:=sy _ _ _ e h1;exact⟨ks,hl,by lia,by lia,hp pA⟩
end Vm
namespace Vm
open PySem PySem.Spec PyProof.Rows L2
def aS(i:Nat):aH:=W8.main.body.getD i (.Pass ⟨0,0,0,0⟩)
abbrev C8:aH:=aS 18
abbrev CL:aH:=aS 19
abbrev B7:aH:=aS 20
abbrev DH:aH:=aS 21
abbrev C_:aH:=aS 23
abbrev DG:aH:=aS 24
abbrev Ck:aH:=aS 25
abbrev Cj:aH:=aS 26
abbrev En:aH:=cf (aS 34) 0
abbrev DO:aH:=cf (aS 34) 1
abbrev yA:aH:=aS 35
abbrev CN:aH:=aS 36
abbrev B8:aH:=aS 38
abbrev DK:aH:=aS 39
abbrev ET:aH:=aS 43
abbrev EV:aH:=aS 44
abbrev xJ:aH:=aS 45
abbrev yB:aH:=aS 46
abbrev B9:aH:=aS 48
abbrev Co:aH:=aS 49
abbrev DJ:aH:=aS 50
abbrev Cr:aH:=aS 51
abbrev Ef:aH:=aS 52
abbrev CQ:aH:=cf (aS 54) 0
abbrev Cv:aH:=cf (aS 54) 1
abbrev BC:aH:=cf (aS 54) 2
abbrev BN:aH:=cf (aS 54) 3
abbrev Cy:aH:=cf (aS 55) 0
abbrev Cc:aH:=cf (aS 55) 1
abbrev Bw:aH:=cf (aS 55) 2
abbrev BE:aH:=cf (aS 55) 3
abbrev Cu:aH:=cf (aS 56) 0
abbrev B_:aH:=cf (aS 56) 1
abbrev Bt:aH:=cf (aS 56) 2
abbrev BA:aH:=cf (aS 56) 3
abbrev Db:aH:=aS 59
abbrev EU:aH:=aS 60
abbrev Eg:aH:=aS 61
abbrev De:aH:=aS 62
abbrev Cw:aH:=cf (aS 65) 0
abbrev Bu:aH:=cf (aS 65) 1
abbrev Bv:aH:=cf (aS 65) 2
abbrev A8:aH:=cf (aS 65) 3
abbrev Bh:aH:=cf (aS 65) 4
abbrev Cm:aH:=aS 72
abbrev DF:aH:=aS 73
abbrev xA:aH:=aS 74
abbrev Dc:aH:=aS 82
abbrev C6:aH:=aS 83
abbrev Dl:aH:=cf (aS 85) 0
abbrev Ba:aH:=cf (aS 85) 1
abbrev Ee:aH:=aS 86
abbrev DI:aH:=aS 87
abbrev Cq:aH:=aS 88
abbrev Em:aH:=cf (aS 90) 0
abbrev B':aH:=cf (aS 90) 1
abbrev BO:aH:=cf (aS 90) 2
abbrev Ca:aH:=cf (aS 90) 3
abbrev Do:aH:=cf (aS 90) 4
abbrev CS:aH:=cf (aS 93) 0
abbrev A9:aH:=cf (aS 93) 1
abbrev Bc:aH:=cf (aS 93) 2
abbrev BD:aH:=cf (aS 93) 3
abbrev BP:aH:=cf (aS 93) 4
abbrev Cb:aH:=cf (aS 93) 5
abbrev A6:aH:=cf (aS 93) 6
abbrev Bb:aH:=cf (aS 93) 7
abbrev Bm:aH:=cf (aS 93) 8
abbrev Cp:aH:=aS 96
abbrev BL:aH:=aS 97
abbrev C9:aH:=aS 98
abbrev C7:aH:=aS 99
abbrev Bz:aH:=aS 100
abbrev Dn:aH:=cf (aS 102) 0
abbrev BM:aH:=cf (aS 102) 1
abbrev Dm:aH:=cf (aS 102) 2
abbrev BB:aH:=cf (aS 102) 3
abbrev BK:aH:=aS 104
abbrev Dd:aH:=aS 105
abbrev CM:aH:=aS 106
abbrev FO:aH:=aS 107
abbrev EW:aH:=aS 109
abbrev Ek:aH:=aS 110
abbrev Eh:aH:=aS 111
abbrev Dh:aH:=aS 112
abbrev Ej:aH:=aS 113
abbrev CP:aH:=aS 114
abbrev El:aH:=aS 115
abbrev EX:aH:=aS 116
abbrev Dg:aH:=aS 117
abbrev CO:aH:=aS 118
abbrev Dj:aH:=aS 119
abbrev DM:aH:=aS 120
abbrev DN:aH:=aS 121
abbrev DL:aH:=aS 122
abbrev Dk:aH:=aS 123
abbrev Ct:aH:=aS 124
abbrev Di:aH:=aS 125
abbrev Df:aH:=aS 126
abbrev Cs:aH:=aS 127
abbrev Ei:aH:=aS 128
abbrev yC:aH:=aS 130
section
variable(P:ba)(w:aQ)(K:aA)(mg:Str->Option ac)(Yx:aM)
def Gf(k:Nat)(x:Str)(ps:List Str)(sp:Sp):Prop:=∃f fd,aI P w K mg Yx aN k f fd ps sp/\mg x=some (.ref f)/\jT K (.ref f)=true/\Binds K fd ps []
def Gm(k:Nat)(C:aa)(m:Str)(ps:List Str)(sp:Sp):Prop:=∃f fd,aI P w K mg Yx aN k f fd ps sp/\dR K C/\tp K C m f/\Binds K fd ps []
def Gi(k:Nat)(C:aa)(x:Str)(ps:List Str)(sp:Sp):Prop:=∃f fd,aI P w K mg Yx aN k f fd ps sp/\Mk K C f/\mg x=some (.ref C)/\Binds K fd ps []
end
section
variable{P:ba}{w:aQ}{K:aA}{mg:Str->Option ac}{Yx:aM}{j k:Nat}{C:aa}{x m:Str}{ps:List Str}{sp:Sp}{f:aa}{fd:dX}
theorem Gf.mono(g:Gf P w K mg Yx j x ps sp)(h:j<=k):Gf P w K mg Yx k x ps sp:=by obtain⟨f,fd,h1,h2,h3,h4⟩:=g;exact⟨f,fd,h1.mono h,h2,h3,h4⟩
theorem Gm.mono(g:Gm P w K mg Yx j C m ps sp)(h:j<=k):Gm P w K mg Yx k C m ps sp:=by obtain⟨f,fd,h1,h2,h3,h4⟩:=g;exact⟨f,fd,h1.mono h,h2,h3,h4⟩
theorem Gi.mono(g:Gi P w K mg Yx j C x ps sp)(h:j<=k):Gi P w K mg Yx k C x ps sp:=by obtain⟨f,fd,h1,h2,h3,h4⟩:=g;exact⟨f,fd,h1.mono h,h2,h3,h4⟩
end
def tG(sp:Sp)(t:TA):TE:=λσ H Q=>t σ H λvs H1=>sp vs H1 Q E0
def qE(C:aa)(m:Str)(sp:Sp)(ta:TE)(t:TA):TE:=λσ H Q=>ta σ H λx H1=>∃a dx fs,x= .ref a/\H1 a=some (.ins C dx fs)/\fs.lookup m=none/\t σ H1 λvs H2=>sp (x::vs) H2 Q E0
def qF(C:aa)(sp:Sp)(t:TA):TE:=λσ H Q=>t σ H λvs H1=>∀x dx,H1 x=none->H1 dx=none->dx≠x->sp (.ref x::vs) (upd (upd H1 dx (.own x)) x (.ins C dx [])) (λv H2=>v= .non/\Q (.ref x) H2) E0
section
variable{X:Cx}{k:Nat}{C:aa}{x m:Str}{ps:List Str}{sp:Sp}{p pos Y3:Pos}{e o:aZ}{es:List aZ}{ta:TE}{t:TA}
theorem SU:JX sp [] E0 t=tG sp t:=by funext σ H Q;show(t σ H λvs H1=>sp (vs++[]) H1 Q E0)=_;simp only[jt];rfl
theorem GF:vV C m sp [] E0 ta t=qE C m sp ta t:=by unfold vV qE;simp only[jt]
theorem GG:vW C sp [] E0 t=qF C sp t:=by unfold vW qF;simp only[jt]
theorem bL(g:Gf X.prog X.w X.K X.mg X.Yx k x ps sp)(hr:cr k X.A)(ha:PA X (e::es) t)(hg:Gl X x:=by rfl)(ZE:(x==("__debug__":Str))=false:=by decide)
  (he:bP (e::es) X.env=(false,eval e X.env)::bP es X.env:=by rfl)(YZ:(fq pos (bP es X.env)).any (·.1)=false:=by rfl):PE X (.Call (.Name x p) (e::es) [] pos) (tG sp t):=by
 obtain⟨f,fd,h1,h2,h3,h4⟩:=g;rw[<-SU];exact UK h1 hr hg h2 h3 h4 .nil ox ha ZE he YZ
theorem bw(g:Gm X.prog X.w X.K X.mg X.Yx k C m ps sp)(hr:cr k X.A){pl:Sem Bool}(he:PE X o ta)(ha:PA X (e::es) t)
  (ZY:bP (e::es) X.env=(false,eval e X.env)::bP es X.env:=by rfl)(YZ:(fq pos (bP es X.env)).any (·.1)=false:=by rfl)
  (ht:eval (.Call (.Attribute o m Y3) (e::es) [] pos) X.env=(do
   let ov <-eval o X.env
   sD Y3.atName
   let(f,first) <-n9 [ov] (rW ov m pl)
   vm pos f first (fq pos (bP (e::es) X.env)) (pR pos (pI [] X.env))):=by rfl):PE X (.Call (.Attribute o m Y3) (e::es) [] pos) (qE C m sp ta t):=by
 obtain⟨f,fd,h1,h2,h3,h4⟩:=g;rw[<-GF];exact UI he h2 h3 h1 hr h4 .nil ox ha ZY YZ ht
theorem bo(g:Gm X.prog X.w X.K X.mg X.Yx k C m ps sp)(hr:cr k X.A){pl:Sem Bool}(he:PE X o ta)
  (ht:eval (.Call (.Attribute o m Y3) [] [] pos) X.env=(do
   let ov <-eval o X.env
   sD Y3.atName
   let(f,first) <-n9 [ov] (rW ov m pl)
   vm pos f first (fq pos (bP [] X.env)) (pR pos (pI [] X.env))):=by rfl):PE X (.Call (.Attribute o m Y3) [] [] pos) (qE C m sp ta qA):=by
 obtain⟨f,fd,h1,h2,h3,h4⟩:=g;rw[<-GF];exact SM he h2 h3 h1 hr h4 .nil ox ht
theorem oI(g:Gi X.prog X.w X.K X.mg X.Yx k C x ps sp)(hr:cr (k+1) X.A)(ha:PA X (e::es) t)(hg:Gl X x:=by rfl)(ZE:(x==("__debug__":Str))=false:=by decide)
  (he:bP (e::es) X.env=(false,eval e X.env)::bP es X.env:=by rfl)(YZ:(fq pos (bP es X.env)).any (·.1)=false:=by rfl):PE X (.Call (.Name x p) (e::es) [] pos) (qF C sp t):=by
 obtain⟨f,fd,h1,h2,h3,h4⟩:=g;rw[<-GG];exact UJ h2 h1 hr hg h3 h4 .nil ox ha ZE he YZ
theorem Am(g:Gi X.prog X.w X.K X.mg X.Yx k C x ps sp)(hr:cr (k+1) X.A)(hg:Gl X x:=by rfl)(ZE:(x==("__debug__":Str))=false:=by decide):PE X (.Call (.Name x p) [] [] pos) (qF C sp qA):=by obtain⟨f,fd,h1,h2,h3,h4⟩:=g;rw[<-GG];exact SN h2 h1 hr hg h3 h4 .nil ox ZE
def cj(mg:Str->Option ac)(x:Str)(i:Int):Prop:=∃t,mg x=some (.int i t)
theorem bg{i:Int}(h:cj X.mg x i)(hg:Gl X x:=by rfl)(hd:(x==("__debug__":Str))=false:=by decide):PE X (.Name x pos) (tC (.int i)):=by obtain⟨t,h⟩:=h;exact Ia hg h ⟨t,rfl⟩ hd
theorem PE.or{t u:TE}(h:PE X e t)(h':PE X e u):PE X e (λσ H Q=>t σ H Q\/u σ H Q):=by
 intro Yw s σ H Q I q;rcases q with q|q
 .exact h Yw s σ H Q I q
 .exact h' Yw s σ H Q I q
end
structure Ad0 where
 Cl:aa
 Pu:aa
 Dr:aa
 Se:aa
 Nb:aa
 Hi:aa
 Re:aa
 Wi:aa
 Pg:aa
structure Ad extends Ad0 where
 kf:aA
structure KR(A:Ad0)(K:aA)(mg:Str->Option ac):Prop where
 YY:dR K A.Cl
 Zz:cJ K A.Cl "number"
 aaO:cJ K A.Cl "name"
 abn:cJ K A.Cl "kind"
 ad1:cJ K A.Cl "constant"
 ς:cJ K A.Cl "reads"
 cPu:dR K A.Pu
 acY:cJ K A.Pu "cell"
 cDr:dR K A.Dr
 ad0:cJ K A.Dr "number"
 cSe:dR K A.Se
 afC:cJ K A.Se "new_seed"
 Zq:dR K A.Nb
 Β:cJ K A.Nb "cells"
 abm:cJ K A.Nb "seed"
 YR:dR K A.Hi
 aaN:cJ K A.Hi "edits"
 aaM:cJ K A.Hi "moments"
 Zy:cJ K A.Hi "pages"
 Y8:dR K A.Pg
 aaL:cJ K A.Pg "notebook"
 acZ:cJ K A.Pg "wiring"
 aau:cJ K A.Pg "results"
 ad':cJ K A.Pg "workings"
 cRe:dR K A.Re
 acX:cJ K A.Re "numbers"
 acW:cJ K A.Re "place"
 Λ:dR K A.Wi
 afB:cJ K A.Wi "makers"
 abX:cJ K A.Wi "sources"
 abl:cJ K A.Wi "above"
 len:mg "len"=none
 sorted:mg "sorted"=none
 any:mg "any"=none
 all:mg "all"=none
 sum:mg "sum"=none
 max:mg "max"=none
 set:mg "set"=none
 list:mg "list"=none
 tuple:mg "tuple"=none
 dict:mg "dict"=none
 range:mg "range"=none
 ab5:cj mg "ALLOWED" 0
 aiW:cj mg "BAD_NUMBER" (-1)
 aiX:cj mg "BAD_KIND" (-2)
 aiY:cj mg "BAD_CONSTANT" (-3)
 aiz:cj mg "TOO_MANY_READS" (-4)
 agv:cj mg "BAD_NAME" (-5)
 aiB:cj mg "READ_TWICE" (-6)
 aiD:cj mg "NO_ROOM" (-7)
 aiF:cj mg "NO_CELL" (-8)
 aiV:cj mg "BAD_SEED" (-9)
 Ω:cj mg "BAD_POSITION" (-10)
 aiE:cj mg "NO_MOMENT" (-11)
 agu:cj mg "NO_CHANGE" (-12)
 aeL:cj mg "HISTORY_FULL" (-13)
 aiA:cj mg "TOO_MANY_BETWEEN" (-14)
 aiC:cj mg "PASSES_AT_Q" (-15)
 aiR:cj mg "FAILS_AT_P_OR_PASSES_AT_Q" (-16)
 aiG:cj mg "MOST_TO_SHRINK" 12
 aiQ:cj mg "FIRST_NUMBER" 1
 aiM:cj mg "LAST_NUMBER" 99
 aiN:cj mg "LAST_NAME" 31
 aiO:cj mg "LAST_KIND" 5
 aiP:cj mg "LAST_CONSTANT" 96
 aiH:cj mg "MOST_READS" 6
 aiL:cj mg "LAST_SEED" 1000
 aiJ:cj mg "MOST_CELLS" 12
 aiI:cj mg "MOST_EDITS" 40
 acn:cj mg "CLEAR" 0
 aiS:cj mg "DOUBLE" 2
 aiT:cj mg "CIRCLE" 3
 aiK:cj mg "MISSING" 4
 aix:cj mg "UNSURE" 5
 aiU:cj mg "BEHIND" 6
 abB:cj mg "MODULUS" 97
 agt:cj mg "SEEDED_KIND" 5
 aeK:cj mg "SHOWS" 1
 aiy:cj mg "TROUBLED" 4
structure Txt(A:Ad)(K:aA)(mg:Str->Option ac):Prop extends KR A.toAd0 K mg where
 eK:A.kf=K
theorem _root_.L2.cr.m{j k:Nat}{A:bh}(r:cr k A)(h:j<=k:=by decide):cr j A:=r.mono h
section
variable{X:Cx}(i:Nat){x:Str}{e:aZ}{te:TE}{pos ZN:Pos}
theorem pS(hN:X.N.Nodup)(he:PE X e te)(hi:X.N[i]? =some x:=by rfl)(hx:Loc X.env.scope x:=by exact me rfl)(hs:nL e (some (.Name x ZN)) pos.line X.env=pure false:=by rfl)(hf:X.fn x=true\/X.env.scope.names.lookup x=some .local:=by first|exact .inl rfl|exact .inr rfl|assumption):PS X (.Assign [.Name x ZN] e pos) (v9 te (gB i)):=ke hN hi hx he hs hf
theorem pN(hN:X.N.Nodup)(hi:X.N[i]? =some x:=by rfl)(hx:Loc X.env.scope x:=by exact me rfl)(hf:X.fn x=true\/X.env.scope.names.lookup x=some .local:=by first|exact .inl rfl|exact .inr rfl|assumption):PG X (.Name x pos) (gB i):=zC hN hi hx hf
end
section
variable{i:Nat}{σ:L2.St}{H:Hp}{Q:VK}{v:V}{D:Ends}{t u:TS}{te ta tb td ty tv tx:TE}{tA tB':TT}{tt:TT}{r r':R2}{B:Bool->Hp->Prop}{K:aA}{f:Str}{QL:List V->Hp->Prop}{al:TA}{g:TG}{x y:V}{QS:L2.St->Hp->Prop}{C:aa}{m:Str}{sp:Sp}
theorem T6:mr i σ H Q=∃v,σ[i]? =some (some v)/\Q v H:=rfl
theorem Wv:tC v σ H Q=Q v H:=rfl
theorem Uj:Kw tA tB' σ H B=tA σ H λc H1=>if c=true then tB' σ H1 B else B false H1:=rfl
theorem VC:KY tA tB' σ H B=tA σ H λc H1=>if c=true then B true H1 else tB' σ H1 B:=rfl
theorem Ua:Kr tA σ H B=tA σ H λc H1=>B (!c) H1:=rfl
theorem Sm:JY ta tb σ H Q=ta σ H λx H1=>∃c,x= .bl c/\if c=true then tb σ H1 Q else Q (.bl false) H1:=rfl
theorem T_:Kq ta tb σ H Q=ta σ H λx H1=>∃c,x= .bl c/\if c=true then Q (.bl true) H1 else tb σ H1 Q:=rfl
theorem Sh:Ws ta σ H Q=ta σ H λx H1=>∃c,x= .bl c/\Q (.bl (!c)) H1:=rfl
theorem VE:KZ tA ta tb σ H Q=tA σ H λc H1=>if c=true then ta σ H1 Q else tb σ H1 Q:=rfl
theorem Ww:L2.tB te σ H B=te σ H λx H1=>∃c,x= .bl c/\B c H1:=rfl
theorem Sd:Ak te σ H B=te σ H λx H'=>∃k,x= .bl k/\B k H':=rfl
theorem T8:Kn t u D σ H=t {D with nx:=u D} σ H:=rfl
theorem Si:JT D σ H=D.nx σ H:=rfl
theorem Sj:JU te D σ H=te σ H λ_ H1=>D.nx σ H1:=rfl
theorem T9:Ko te D σ H=te σ H D.rt:=rfl
theorem Sf:Wq D σ H=D.rt .non H:=rfl
theorem HE:Ax tA t u D σ H=tA σ H λb H1=>if b=true then t D σ H1 else u D σ H1:=rfl
theorem Te:gB i v σ H QS=QS (σ.set i (some v)) H:=rfl
theorem Ui:v9 te g D σ H=te σ H λx H1=>g x σ H1 D.nx:=rfl
theorem VD:tu r ta tb σ H Q=ta σ H λx H1=>tb σ H1 λy H2=>r x y H2 Q:=rfl
theorem VN{g:Int->Int->V}:li g x y H Q=∃i j,x= .int i/\y= .int j/\Q (g i j) H:=rfl
theorem Wy{Cn:Int->Int->Prop}{g:Int->Int->V}:rI Cn g x y H Q=∃i j,x= .int i/\y= .int j/\Cn i j/\Q (g i j) H:=rfl
theorem Rp{tc:TE}:zW r r' ta tb tc σ H Q=ta σ H λx H1=>tb σ H1 λy H2=>r x y H2 λz H3=>∃k,z= .bl k/\(if k=true then tc σ H3 λw' H4=>r' y w' H4 Q else Q (.bl false) H3):=rfl
theorem Uf:Az K ta f σ H Q=ta σ H λx H1=>∃a C dx fs v,x= .ref a/\H1 a=some (.ins C dx fs)/\dR K C/\cJ K C f/\fs.lookup f=some v/\Q v H1:=rfl
theorem Ur:Kz K ta tv f D σ H=tv σ H λy H1=>ta σ H1 λx H2=>∃a C dx fs,x= .ref a/\H2 a=some (.ins C dx fs)/\dR K C/\cJ K C f/\fs.length<1000/\D.nx σ (upd H2 a (.ins C dx (bE f y fs))):=rfl
theorem Ub:qA σ H QL=QL [] H:=rfl
theorem Sl:JW ta al σ H QL=ta σ H λx H1=>al σ H1 λxs H2=>QL (x::xs) H2:=rfl
theorem T7:Km al σ H Q=al σ H λxs H1=>xs.length<=aU/\∀p,H1 p=none->Q (.ref p) (upd H1 p (.tup xs)):=rfl
theorem Uc:Ks al σ H Q=al σ H λxs H1=>xs.length<=aU/\∀p,H1 p=none->Q (.ref p) (upd H1 p (.lst xs)):=rfl
theorem Wu:tG sp al σ H Q=al σ H λvs H1=>sp vs H1 Q E0:=rfl
theorem VF:qE C m sp ta al σ H Q=ta σ H λx H1=>∃a dx fs,x= .ref a/\H1 a=some (.ins C dx fs)/\fs.lookup m=none/\al σ H1 λvs H2=>sp (x::vs) H2 Q E0:=rfl
theorem VG:qF C sp al σ H Q=al σ H λvs H1=>∀x dx,H1 x=none->H1 dx=none->dx≠x->sp (.ref x::vs) (upd (upd H1 dx (.own x)) x (.ins C dx [])) (λv H2=>v= .non/\Q (.ref x) H2) E0:=rfl
theorem Sk:JV td ty σ H Q=td σ H λx H1=>ty σ H1 λy H2=>∃a v,x= .ref a/\gw H2 a y (some v)/\Q v H2:=rfl
theorem Ug:Ku ty td σ H Q=ty σ H λy H1=>td σ H1 λx H2=>∃a o,x= .ref a/\gw H2 a y o/\Q (.bl o.isSome) H2:=rfl
theorem Qc:HF ty td σ H Q=ty σ H λy H1=>td σ H1 λx H2=>∃a o,x= .ref a/\gw H2 a y o/\Q (.bl (!o.isSome)) H2:=rfl
theorem Sx:J3 td ty tv D σ H=tv σ H λv H1=>td σ H1 λx H2=>ty σ H2 λy H3=>∃a H4,x= .ref a/\mx H3 a y v H4/\D.nx σ H4:=rfl
theorem Rn:I0 σ H Q=∀p,H p=none->Q (.ref p) (upd H p (.dK [])):=rfl
theorem Ro:I_ td ty tx σ H Q=td σ H λx H1=>∃a,x= .ref a/\qK H1 a/\ty σ H1 λy H2=>tx σ H2 λz H3=>∃o,gw H3 a y o/\Q (o.getD z) H3:=rfl
theorem Rm:IZ td ty σ H Q=td σ H λx H1=>∃a,x= .ref a/\qK H1 a/\ty σ H1 λy H2=>∃Yy k v,H2 a=some (.dK Yy)/\y=kV k/\bf Yy k=some v/\Q v (upd H2 a (.dK (jc Yy k))):=rfl
theorem Uh{Ty:String}{rm:V->List V->Hp->VK->Prop}:Kv K Ty rm ta σ H Q=ta σ H λx H1=>lg K Ty x H1/\rm x [] H1 Q:=rfl
theorem VI{Ty:String}{rm:V->List V->Hp->VK->Prop}:K0 K Ty rm ta al σ H Q=ta σ H λx H1=>lg K Ty x H1/\al σ H1 λxs H2=>rm x xs H2 Q:=rfl
theorem Ud:Kt ta σ H Q=ta σ H λx H1=>Q (.bl (decide (x= .non))) H1:=rfl
theorem Qq{vs:List V}:HY x vs H Q=∃l xs y,x= .ref l/\vs=[y]/\H l=some (.lst xs)/\xs.length<aU/\Q .non (upd H l (.lst (xs++[y]))):=rfl
theorem UD:AF K x y H Q=∃p xs i v,x= .ref p/\y= .int i/\ay K H p xs/\ku xs i=some v/\Q v H:=rfl
theorem UC:AE K x y H Q=∃p xs i v,x= .ref p/\y= .int i/\a9 K H p xs/\ku xs i=some v/\Q v H:=rfl
theorem UE{a b:Int}:K3 (.int a) (.int b) H Q=Q (.bl (decide (a=b))) H:=by
 have e:decide (V.int a=V.int b)=decide (a=b):=by
  by_cases h:a=b
  .subst h;simp
  .have h2:¬V.int a=V.int b:=λq=>h (V.int.inj q);simp[h,h2]
 show(tj (.int a) (.int b)=true/\_)=_;rw[e];exact propext ⟨λh=>h.2,λh=>⟨rfl,h⟩⟩
theorem Uz{a b:Int}:AR (.int a) (.int b) H Q=Q (.bl (!decide (a=b))) H:=by
 have e:decide (V.int a=V.int b)=decide (a=b):=by
  by_cases h:a=b
  .subst h;simp
  .have h2:¬V.int a=V.int b:=λq=>h (V.int.inj q);simp[h,h2]
 show(tj (.int a) (.int b)=true/\_)=_;rw[e];exact propext ⟨λh=>h.2,λh=>⟨rfl,h⟩⟩
theorem VH{rc:List V->Hp->VK->Prop}:AQ rc al σ H Q=al σ H λvs H1=>rc vs H1 Q:=rfl
theorem Sg{QO:Option Int->Hp->Prop}:JR te σ H QO=te σ H λx H1=>∃i,x= .int i/\QO (some i) H1:=rfl
theorem Qa{QO:Option Int->Hp->Prop}:HD σ H QO=QO none H:=rfl
theorem VB{rs:V->Option Int->Option Int->Hp->VK->Prop}{tl th:TO}:KW rs te tl th σ H Q=te σ H λx H1=>tl σ H1 λl H2=>th σ H2 λu H3=>rs x l u H3 Q:=rfl
theorem Uw{lo hi:Option Int}:KA K x lo hi H Q=∃a xs,x= .ref a/\ay K H a xs/\∀p,H p=none->Q (.ref p) (upd H p (.lst (k_ xs lo hi))):=rfl
theorem Uv{vs:List V}:WN K vs H Q=∃(a:aa)(ns:List Int),vs=[V.ref a]/\ay K H a (ns.map V.int)/\Q (.int ns.sum) H:=rfl
theorem UB{vs:List V}:KG K vs H Q=∃(a:aa)(ns:List Int),vs=[V.ref a]/\ay K H a (ns.map V.int)/\0<ns.length/\∀m,m∈ns->(∀y,y∈ns->y<=m)->Q (.int m) H:=rfl
theorem UF{vs:List V}:AG K vs H Q=∃(a:aa)(bs:List Bool),vs=[V.ref a]/\ay K H a (bs.map V.bl)/\Q (.bl (bs.any id)) H:=rfl
theorem UG{vs:List V}:KJ K vs H Q=∃(a:aa)(bs:List Bool),vs=[V.ref a]/\ay K H a (bs.map V.bl)/\Q (.bl (bs.all id)) H:=rfl
theorem VM{n:Bool}:AT K n x y H Q=∃p xs,y= .ref p/\(ay K H p xs\/a9 K H p xs)/\jI x=true/\xs.all jI=true/\Q (.bl (if n then !lm x xs else lm x xs)) H:=rfl
def je(J:It)(g:TG)(tb:TS)(D:Ends)(σ:L2.St)(H1:Hp):Prop:=∃W:Nat->Nat->L2.St->Hp->Prop,(∃m,W 0 m σ H1)/\∀i m σ H,W i m σ H->
 (J.stop i H/\D.nx σ H)\/(J.go i H/\∃N:L2.St->Hp->Prop,(∀YD H',N YD H'->∃m',m'<m/\W (i+1) m' YD H')/\∀x H',J.yld i H x H'->g x σ H' λYF H2=>tb {D with nx:=N,ct:=N,bk:=D.nx} YF H2)
theorem OA:oF (As K ta) g t D σ H=ta σ H λx H1=>∃a,x= .ref a/\(∃xs,ay K H1 a xs)/\je (iT K a) g t D σ H1:=rfl
theorem O8:oF (AK K ta) g t D σ H=ta σ H λx H1=>∃a,x= .ref a/\(∃xs,a9 K H1 a xs)/\je (iS K a) g t D σ H1:=rfl
theorem OB:oF (Au ta) g t D σ H=ta σ H λx H1=>∃d o,x= .ref d/\((∃Yy,H1 d=some (.frz o (.dK Yy))/\je (oQ d o Yy) g t D σ H1)\/∃Yy,H1 d=some (.frz o (.dT Yy))/\je (wn d o Yy) g t D σ H1):=rfl
theorem N5:oF (JG ta) g t D σ H=ta σ H λx H1=>∃d o Yy,x= .ref d/\H1 d=some (.frz o (.dK Yy))/\je (wA d o Yy) g t D σ H1:=rfl
theorem NB:oF (WB al) g t D σ H=al σ H λvs H1=>∃j:Int,vs=[.int j]/\ -(2^62)<=j/\j<2^62/\je (jm 0 j.toNat) g t D σ H1:=rfl
theorem NA:oF (Aq al) g t D σ H=al σ H λvs H1=>∃i j:Int,vs=[.int i,.int j]/\(-(2^62)<=i/\i<2^62/\ -(2^62)<=j/\j<2^62)/\je (jm i (j-i).toNat) g t D σ H1:=rfl
theorem ie{a:aa}{xs:List V}(Pv:Nat->L2.St->Hp->Prop)(h0:Pv 0 σ H)(hl:∀i σ H,i<=xs.length->Pv i σ H->ay K H a xs)
  (hs:∀(i:Nat)(x:V)σ H,xs[i]? =some x->Pv i σ H->g x σ H λYF H2=>t {D with nx:=Pv (i+1),ct:=Pv (i+1),bk:=D.nx} YF H2)(hd:∀σ H,Pv xs.length σ H->D.nx σ H):je (iT K a) g t D σ H:=Th Pv h0 hl hs hd
theorem GK{a:aa}{xs:List V}(Pv:Nat->L2.St->Hp->Prop)(h0:Pv 0 σ H)(hl:∀i σ H,i<=xs.length->Pv i σ H->a9 K H a xs)
  (hs:∀(i:Nat)(x:V)σ H,xs[i]? =some x->Pv i σ H->g x σ H λYF H2=>t {D with nx:=Pv (i+1),ct:=Pv (i+1),bk:=D.nx} YF H2)(hd:∀σ H,Pv xs.length σ H->D.nx σ H):je (iS K a) g t D σ H:=U_ Pv h0 hl hs hd
theorem EO{lo:Int}{n:Nat}(Pv:Nat->L2.St->Hp->Prop)(h0:Pv 0 σ H)
  (hs:∀i σ H,i<n->Pv i σ H->g (.int (lo+i)) σ H λYF H2=>t {D with nx:=Pv (i+1),ct:=Pv (i+1),bk:=D.nx} YF H2)(hd:∀σ H,Pv n σ H->D.nx σ H):je (jm lo n) g t D σ H:=RX Pv h0 hs hd
theorem FH{d:aa}{o:Obj}{Yy:List (aJ×V)}(Pv:Nat->L2.St->Hp->Prop)(h0:Pv 0 σ H)(hl:∀i σ H,i<=Yy.length->Pv i σ H->H d=some (.frz o (.dK Yy)))
  (hs:∀(i:Nat)(k:aJ)(v:V)σ H,Yy[i]? =some (k,v)->Pv i σ H->g (kV k) σ H λYF H2=>t {D with nx:=Pv (i+1),ct:=Pv (i+1),bk:=D.nx} YF H2)(hd:∀σ H,Pv Yy.length σ H->D.nx σ H):je (oQ d o Yy) g t D σ H:=by
 refine⟨λi m σ H=>m=Yy.length-i/\i<=Yy.length/\Pv i σ H,⟨Yy.length,by simp,dJ _,h0⟩,?_⟩;rintro i m σ H ⟨rfl,hi,p⟩;have q:=hl i σ H hi p;by_cases YK:i<Yy.length
 .refine .inr ⟨⟨q,YK⟩,Pv (i+1),λYD H' p'=>⟨Yy.length-(i+1),by lia,rfl,YK,p'⟩,λx H' y=>?_⟩;obtain⟨e,k,v,e1,e2⟩:=y;subst e e2;exact hs i k v σ _ e1 p
 .have e:i=Yy.length:=by lia
  subst e;exact .inl ⟨⟨q,aT _⟩,hd σ H p⟩
theorem QX{d:aa}{o:Obj}{Yy:List (aJ×V)}(Pv:Nat->L2.St->Hp->Prop)(h0:Pv 0 σ H)(hl:∀i σ H,i<=Yy.length->Pv i σ H->H d=some (.frz o (.dK Yy)))
  (hs:∀(i:Nat)(k:aJ)(v:V)σ H T,Yy[i]? =some (k,v)->Pv i σ H->H T=none->g (.ref T) σ (upd H T (.tup [kV k,v])) λYF H2=>t {D with nx:=Pv (i+1),ct:=Pv (i+1),bk:=D.nx} YF H2)(hd:∀σ H,Pv Yy.length σ H->D.nx σ H):je (wA d o Yy) g t D σ H:=by
 refine⟨λi m σ H=>m=Yy.length-i/\i<=Yy.length/\Pv i σ H,⟨Yy.length,by simp,dJ _,h0⟩,?_⟩;rintro i m σ H ⟨rfl,hi,p⟩;have q:=hl i σ H hi p;by_cases YK:i<Yy.length
 .refine .inr ⟨⟨q,YK⟩,Pv (i+1),λYD H' p'=>⟨Yy.length-(i+1),by lia,rfl,YK,p'⟩,λx H' y=>?_⟩;obtain⟨T,k,v,e1,e2,e3,e4⟩:=y;subst e2 e4;exact hs i k v σ _ T e1 p e3
 .have e:i=Yy.length:=by lia
  subst e;exact .inl ⟨⟨q,aT _⟩,hd σ H p⟩
def jl(J:It)(g:TG)(tt:TT)(te:TE)(vs:List Nat)(σ:L2.St)(H1:Hp)(Q:VK):Prop:=∀D,H1 D=none->∃W:Nat->Nat->Hp->Prop,(∃m,W 0 m (upd H1 D (.lst [])))/\∀i m H,W i m H->
 (J.stop i H/\Q (.ref D) H)\/(J.go i H/\∃Nx:Hp->Prop,(∀H',Nx H'->∃m',m'<m/\W (i+1) m' H')/\∀x H',J.yld i H x H'->g x (bv σ vs) H' λYF H2=>bv YF vs=bv σ vs/\tt YF H2 λb H3=> if b=true then te YF H3 λy H4=>∃acc,H4 D=some (.lst acc)/\acc.length<aU/\Nx (upd H4 D (.lst (acc++[y])))else Nx H3)
class HP where
 p:Prop
class HK where
 q:VK
def AL[i:HP]:Prop:=i.p
theorem IW{P:Prop}(h:P): @AL ⟨P⟩:=h
def v8[i:HK]:VK:=i.q
theorem TK(h:Q v H): @v8 ⟨Q⟩ v H:=h
theorem Ue:Ax tA t u D σ H=tA σ H λb H1=>if b=true then @AL ⟨t D σ H1⟩else @AL ⟨u D σ H1⟩:=rfl
theorem XX:tG sp al σ H Q=al σ H λvs H1=>sp vs H1 (@v8 ⟨Q⟩) E0:=rfl
theorem XU:qE C m sp ta al σ H Q=ta σ H λx H1=>∃a dx fs,x= .ref a/\H1 a=some (.ins C dx fs)/\fs.lookup m=none/\al σ H1 λvs H2=>sp (x::vs) H2 (@v8 ⟨Q⟩) E0:=rfl
theorem XV:qF C sp al σ H Q=al σ H λvs H1=>∀x dx,H1 x=none->H1 dx=none->dx≠x->sp (.ref x::vs) (upd (upd H1 dx (.own x)) x (.ins C dx [])) (λv H2=>v= .non/\ @v8 ⟨Q⟩ (.ref x) H2) E0:=rfl
theorem Yc{p:V->Prop}:(∃u,some (some v)=some (some u)/\p u)=p v:=propext ⟨λ⟨_,e,h⟩=>by cases e;exact h,λh=>⟨_,rfl,h⟩⟩
theorem XR{b:Option V}:gB 0 v (b::σ) H QS=QS (some v::σ) H:=rfl
theorem XQ{a0 b:Option V}:gB 1 v (a0::b::σ) H QS=QS (a0::some v::σ) H:=rfl
theorem XO{a0 a1 b:Option V}:gB 2 v (a0::a1::b::σ) H QS=QS (a0::a1::some v::σ) H:=rfl
theorem XN{a0 a1 a2 b:Option V}:gB 3 v (a0::a1::a2::b::σ) H QS=QS (a0::a1::a2::some v::σ) H:=rfl
theorem XM{a0 a1 a2 a3 b:Option V}:gB 4 v (a0::a1::a2::a3::b::σ) H QS=QS (a0::a1::a2::a3::some v::σ) H:=rfl
theorem XJ{a0 a1 a2 a3 a4 b:Option V}:gB 5 v (a0::a1::a2::a3::a4::b::σ) H QS=QS (a0::a1::a2::a3::a4::some v::σ) H:=rfl
theorem XI{a0 a1 a2 a3 a4 a5 b:Option V}:gB 6 v (a0::a1::a2::a3::a4::a5::b::σ) H QS=QS (a0::a1::a2::a3::a4::a5::some v::σ) H:=rfl
theorem XH{a0 a1 a2 a3 a4 a5 a6 b:Option V}:gB 7 v (a0::a1::a2::a3::a4::a5::a6::b::σ) H QS=QS (a0::a1::a2::a3::a4::a5::a6::some v::σ) H:=rfl
theorem XG{a0 a1 a2 a3 a4 a5 a6 a7 b:Option V}:gB 8 v (a0::a1::a2::a3::a4::a5::a6::a7::b::σ) H QS=QS (a0::a1::a2::a3::a4::a5::a6::a7::some v::σ) H:=rfl
theorem XF{a0 a1 a2 a3 a4 a5 a6 a7 a8 b:Option V}:gB 9 v (a0::a1::a2::a3::a4::a5::a6::a7::a8::b::σ) H QS=QS (a0::a1::a2::a3::a4::a5::a6::a7::a8::some v::σ) H:=rfl
theorem lh:1<=aU:=by decide
theorem X0{a:V}{l:List V}:Hw Et (a::l)=some a::Hw Et l:=rfl
theorem X1:Hw Et ([]:List V)=[]:=rfl
theorem X6{a:Option V}{l l':List (Option V)}:a::l++l'=a::(l++l'):=rfl
theorem X7{l:List (Option V)}:[]++l=l:=rfl
theorem XY{n:Nat}{a:Option V}:ui (n+1) a=a::ui n a:=rfl
theorem XZ{a:Option V}:ui 0 a=[]:=rfl
theorem X2{a:Str}{l:List Str}:(a::l).length=l.length+1:=rfl
theorem X3:([]:List Str).length=0:=rfl
theorem X4{a:V}{l:List V}:(a::l).length=l.length+1:=rfl
theorem X5:([]:List V).length=0:=rfl
theorem XS:mr 0 (some v::σ) H Q=Q v H:=propext ⟨λ⟨_,e,h⟩=>by cases e;exact h,λh=>⟨v,rfl,h⟩⟩
theorem XT{a:Option V}:mr (i+1) (a::σ) H Q=mr i σ H Q:=rfl
theorem Yl{c:Bool}{p:Bool->Prop}:(∃k,V.bl c= .bl k/\p k)=p c:=propext ⟨λ⟨_,e,h⟩=>by cases e;exact h,λh=>⟨_,rfl,h⟩⟩
theorem Yk{a:Int}{p:Int->Prop}:(∃k,V.int a= .int k/\p k)=p a:=propext ⟨λ⟨_,e,h⟩=>by cases e;exact h,λh=>⟨_,rfl,h⟩⟩
theorem Yj{a b:Int}{p:Int->Int->Prop}:(∃i j,V.int a= .int i/\V.int b= .int j/\p i j)=p a b:=propext ⟨λ⟨_,_,e,e',h⟩=>by cases e;cases e';exact h,λh=>⟨_,_,rfl,rfl,h⟩⟩
section
variable{b:aa}{α β γ δ:Type}
theorem Yh{p:aa->Prop}:(∃a,V.ref b= .ref a/\p a)=p b:=propext ⟨λ⟨_,e,h⟩=>by cases e;exact h,λh=>⟨_,rfl,h⟩⟩
theorem Yg{p:aa->α->Prop}:(∃a u,V.ref b= .ref a/\p a u)=∃u,p b u:=propext ⟨λ⟨_,u,e,h⟩=>by cases e;exact⟨u,h⟩,λ⟨u,h⟩=>⟨_,u,rfl,h⟩⟩
theorem Yf{p:aa->α->β->Prop}:(∃a u v,V.ref b= .ref a/\p a u v)=∃u v,p b u v:=propext ⟨λ⟨_,u,v,e,h⟩=>by cases e;exact⟨u,v,h⟩,λ⟨u,v,h⟩=>⟨_,u,v,rfl,h⟩⟩
theorem Ye{p:aa->α->β->γ->Prop}:(∃a u v w,V.ref b= .ref a/\p a u v w)=∃u v w,p b u v w:=propext ⟨λ⟨_,u,v,w,e,h⟩=>by cases e;exact⟨u,v,w,h⟩,λ⟨u,v,w,h⟩=>⟨_,u,v,w,rfl,h⟩⟩
theorem Yd{p:aa->α->β->γ->δ->Prop}:(∃a u v w z,V.ref b= .ref a/\p a u v w z)=∃u v w z,p b u v w z:=propext ⟨λ⟨_,u,v,w,z,e,h⟩=>by cases e;exact⟨u,v,w,z,h⟩,λ⟨u,v,w,z,h⟩=>⟨_,u,v,w,z,rfl,h⟩⟩
theorem Yi{j:Int}{p:α->Int->β->Prop}:(∃u i v,V.int j= .int i/\p u i v)=∃u v,p u j v:=propext ⟨λ⟨u,_,v,e,h⟩=>by cases e;exact⟨u,v,h⟩,λ⟨u,v,h⟩=>⟨u,_,v,rfl,h⟩⟩
end
theorem Ap{o:Option HO}{p:aa->aa->List (Str×V)->Prop}:(match o with|some (.ins C dx fs)=>p C dx fs|_=>False)=∃C dx fs,o=some (.ins C dx fs)/\p C dx fs:=propext ⟨λh=>by
  split at h
  .exact⟨_,_,_,rfl,h⟩
  .exact h.elim,λ⟨_,_,_,e,h⟩=>by subst e;exact h⟩
theorem KO{o:Option V}{p:V->Prop}:(match o with|some v=>p v|none=>False)=∃v,o=some v/\p v:=by
 cases o with
 |none=>exact propext ⟨λh=>h.elim,λ⟨_,e,_⟩=>by cases e⟩
 |some v=>exact propext ⟨λh=>⟨v,rfl,h⟩,λ⟨_,e,h⟩=>by cases e;exact h⟩
theorem Ki{o:Option HO}{p:List V->Prop}:(match o with|some (.lst xs)=>p xs|_=>False)=∃xs,o=some (.lst xs)/\p xs:=propext ⟨λh=>by
  split at h
  .exact⟨_,rfl,h⟩
  .exact h.elim,λ⟨_,e,h⟩=>by subst e;exact h⟩
theorem JC{o:Option HO}{p:aa->List (Str×V)->Prop}:(match o,C with|some (.ins C' dx fs),C=>C'=C/\p dx fs|_,_=>False)=∃dx fs,o=some (.ins C dx fs)/\p dx fs:=propext ⟨λh=>by
  split at h
  .obtain⟨e,h⟩:=h;subst e;exact⟨_,_,rfl,h⟩
  .exact h.elim,λ⟨_,_,e,h⟩=>by subst e;exact⟨rfl,h⟩⟩
section
variable{b:aa}
theorem X_{p:V->Prop}:(∃C dx fs v,H b=some (.ins C dx fs)/\dR K C/\cJ K C f/\fs.lookup f=some v/\p v)=(match H b with|some (.ins C _ fs)=>dR K C/\cJ K C f/\(match fs.lookup f with|some v=>p v|none=>False)|_=>False):=by rw[Ap (o:=H b) (p:=λC _ fs=>dR K C/\cJ K C f/\(match fs.lookup f with|some v=>p v|none=>False))];simp only[KO];exact propext ⟨λ⟨C,dx,fs,v,h1,h2,h3,h4,h5⟩=>⟨C,dx,fs,h1,h2,h3,v,h4,h5⟩,λ⟨C,dx,fs,h1,h2,h3,v,h4,h5⟩=>⟨C,dx,fs,v,h1,h2,h3,h4,h5⟩⟩
theorem X8{p:aa->aa->List (Str×V)->Prop}:(∃C dx fs,H b=some (.ins C dx fs)/\p C dx fs)=(match H b with|some (.ins C dx fs)=>p C dx fs|_=>False):=Ap.symm
theorem X9{p:aa->List (Str×V)->Prop}:(∃dx fs,H b=some (.ins C dx fs)/\p dx fs)=(match H b,C with|some (.ins C' dx fs),C=>C'=C/\p dx fs|_,_=>False):=JC.symm
theorem X'{p:List V->V->Prop}:(∃xs y,[x]=[y]/\H b=some (.lst xs)/\p xs y)=(match H b with|some (.lst xs)=>p xs x|_=>False):=by rw[Ki (o:=H b) (p:=λxs=>p xs x)];exact propext ⟨λ⟨xs,y,e,h1,h2⟩=>by cases e;exact⟨xs,h1,h2⟩,λ⟨xs,h1,h2⟩=>⟨xs,x,rfl,h1,h2⟩⟩
end
theorem O6{vs:List Nat}:mB (As K ta) g tt te vs σ H Q=ta σ H λx H1=>∃a,x= .ref a/\(∃xs,ay K H1 a xs)/\jl (iT K a) g tt te vs σ H1 Q:=rfl
theorem Qb{vs:List Nat}:mB (AK K ta) g tt te vs σ H Q=ta σ H λx H1=>∃a,x= .ref a/\(∃xs,a9 K H1 a xs)/\jl (iS K a) g tt te vs σ H1 Q:=rfl
theorem O7{vs:List Nat}:mB (Au ta) g tt te vs σ H Q=ta σ H λx H1=>∃d o,x= .ref d/\((∃Yy,H1 d=some (.frz o (.dK Yy))/\jl (oQ d o Yy) g tt te vs σ H1 Q)\/∃Yy,H1 d=some (.frz o (.dT Yy))/\jl (wn d o Yy) g tt te vs σ H1 Q):=rfl
theorem S7{a:aa}{xs:List V}{vs:List Nat}(fv:V->List V)(hl:ay K H a xs)(hz:(xs.flatMap fv).length<=aU)
  (hs:∀(i:Nat)(x:V)(d:aa)(H1:Hp)(acc:List V),xs[i]? =some x->H d=none->H1 d=some (.lst acc)->acc.length+(fv x).length<=aU->ag H H1->g x (bv σ vs) H1 λYF H2=>bv YF vs=bv σ vs/\tt YF H2 λb H3=> if b=true then te YF H3 λy H4=>∃ZI,H4 d=some (.lst ZI)/\ZI.length<aU/\(upd H4 d (.lst (ZI++[y]))) d=some (.lst (acc++fv x))/\ag H (upd H4 d (.lst (ZI++[y])))else H3 d=some (.lst (acc++fv x))/\ag H H3)
  (hd:∀d H1,H d=none->H1 d=some (.lst (xs.flatMap fv))->ag H H1->Q (.ref d) H1):jl (iT K a) g tt te vs σ H Q:=by
 intro d Zn;have s0:ag H (upd H d (.lst [])):=λb o e=>by rw[aj (aG e Zn)];exact e
 refine U0 (K:=K) (a:=a) (xs:=xs) (Qd:=λH1=>Q (.ref d) H1) (λi H1=>H1 d=some (.lst ((xs.take i).flatMap fv))/\ag H H1) ⟨by rw[am];simp,s0⟩ (λi H1 _ h=>h.2.seq hl) ?_ (λH1 h=>hd d H1 Zn (by rw[dz]at h;exact h.1) h.2);rintro i x H1 hi ⟨h1,h2⟩;have e1:xs.take (i+1)=xs.take i++[x]:=by rw[dA,hi];rfl
 have e2:(xs.take (i+1)).flatMap fv=(xs.take i).flatMap fv++fv x:=by rw[e1,jq];simp
 have χ:((xs.take i).flatMap fv).length+(fv x).length<=aU:=by
  have e3:xs=xs.take (i+1)++xs.drop (i+1):=(kD _ _).symm;have e4:(xs.flatMap fv).length=((xs.take (i+1)).flatMap fv).length+((xs.drop (i+1)).flatMap fv).length:=by
   conv=>lhs;rw[e3]
   rw[jq,bG]
  rw[e2,bG]at e4
  lia
 rw[e2];exact hs i x d H1 _ hi Zn h1 χ h2
theorem UZ{a:aa}{xs:List V}{vs:List Nat}(fv:V->List V)(hl:a9 K H a xs)(hz:(xs.flatMap fv).length<=aU)
  (hs:∀(i:Nat)(x:V)(d:aa)(H1:Hp)(acc:List V),xs[i]? =some x->H d=none->H1 d=some (.lst acc)->acc.length+(fv x).length<=aU->ag H H1->g x (bv σ vs) H1 λYF H2=>bv YF vs=bv σ vs/\tt YF H2 λb H3=> if b=true then te YF H3 λy H4=>∃ZI,H4 d=some (.lst ZI)/\ZI.length<aU/\(upd H4 d (.lst (ZI++[y]))) d=some (.lst (acc++fv x))/\ag H (upd H4 d (.lst (ZI++[y])))else H3 d=some (.lst (acc++fv x))/\ag H H3)
  (hd:∀d H1,H d=none->H1 d=some (.lst (xs.flatMap fv))->ag H H1->Q (.ref d) H1):jl (iS K a) g tt te vs σ H Q:=by
 intro d Zn;have s0:ag H (upd H d (.lst [])):=λb o e=>by rw[aj (aG e Zn)];exact e
 refine V2 (K:=K) (a:=a) (xs:=xs) (Qd:=λH1=>Q (.ref d) H1) (λi H1=>H1 d=some (.lst ((xs.take i).flatMap fv))/\ag H H1) ⟨by rw[am];simp,s0⟩ (λi H1 _ h=>?_) ?_ (λH1 h=>hd d H1 Zn (by rw[dz]at h;exact h.1) h.2)
 .rcases hl with(q|⟨o,q⟩)|q
  .exact .inl (.inl (h.2 _ _ q))
  .exact .inl (.inr ⟨o,h.2 _ _ q⟩)
  .exact .inr q
 rintro i x H1 hi ⟨h1,h2⟩;have e1:xs.take (i+1)=xs.take i++[x]:=by rw[dA,hi];rfl
 have e2:(xs.take (i+1)).flatMap fv=(xs.take i).flatMap fv++fv x:=by rw[e1,jq];simp
 have χ:((xs.take i).flatMap fv).length+(fv x).length<=aU:=by
  have e3:xs=xs.take (i+1)++xs.drop (i+1):=(kD _ _).symm;have e4:(xs.flatMap fv).length=((xs.take (i+1)).flatMap fv).length+((xs.drop (i+1)).flatMap fv).length:=by
   conv=>lhs;rw[e3]
   rw[jq,bG]
  rw[e2,bG]at e4
  lia
 rw[e2];exact hs i x d H1 _ hi Zn h1 χ h2
theorem S8{dd:aa}{o:Obj}{Yy:List (aJ×V)}{vs:List Nat}(fv:aJ->List V)(hl:H dd=some (.frz o (.dK Yy)))(hz:((Yy.map (·.1)).flatMap fv).length<=aU)
  (hs:∀(i:Nat)(k:aJ)(v:V)(d:aa)(H1:Hp)(acc:List V),Yy[i]? =some (k,v)->H d=none->H1 d=some (.lst acc)->acc.length+(fv k).length<=aU->ag H H1->g (kV k) (bv σ vs) H1 λYF H2=>bv YF vs=bv σ vs/\tt YF H2 λb H3=> if b=true then te YF H3 λy H4=>∃ZI,H4 d=some (.lst ZI)/\ZI.length<aU/\(upd H4 d (.lst (ZI++[y]))) d=some (.lst (acc++fv k))/\ag H (upd H4 d (.lst (ZI++[y])))else H3 d=some (.lst (acc++fv k))/\ag H H3)
  (hd:∀d H1,H d=none->H1 d=some (.lst ((Yy.map (·.1)).flatMap fv))->ag H H1->Q (.ref d) H1):jl (oQ dd o Yy) g tt te vs σ H Q:=by
 intro d Zn;have s0:ag H (upd H d (.lst [])):=λb o e=>by rw[aj (aG e Zn)];exact e
 refine⟨λi m H1=>m=Yy.length-i/\i<=Yy.length/\H1 d=some (.lst (((Yy.map (·.1)).take i).flatMap fv))/\ag H H1,⟨Yy.length,by simp,dJ _,by rw[am];simp,s0⟩,?_⟩;rintro i m H1 ⟨rfl,hi,h1,h2⟩;by_cases YK:i<Yy.length
 .refine .inr ⟨⟨h2 _ _ hl,YK⟩,λH1=>H1 d=some (.lst (((Yy.map (·.1)).take (i+1)).flatMap fv))/\ag H H1,λH' p'=>⟨Yy.length-(i+1),by lia,rfl,YK,p'⟩,λx H' y=>?_⟩;obtain⟨e,k,v,e1,e2⟩:=y;subst e e2;have hk:(Yy.map (·.1))[i]? =some k:=by rw[cq,e1];rfl
  have q1:(Yy.map (·.1)).take (i+1)=(Yy.map (·.1)).take i++[k]:=by rw[dA,hk];rfl
  have q2:((Yy.map (·.1)).take (i+1)).flatMap fv=((Yy.map (·.1)).take i).flatMap fv++fv k:=by rw[q1,jq];simp
  have χ:(((Yy.map (·.1)).take i).flatMap fv).length+(fv k).length<=aU:=by
   have e3:Yy.map (·.1)=(Yy.map (·.1)).take (i+1)++(Yy.map (·.1)).drop (i+1):=(kD _ _).symm;have e4:((Yy.map (·.1)).flatMap fv).length=(((Yy.map (·.1)).take (i+1)).flatMap fv).length+(((Yy.map (·.1)).drop (i+1)).flatMap fv).length:=by
    conv=>lhs;rw[e3]
    rw[jq,bG]
   rw[q2,bG]at e4
   lia
  rw[q2];exact hs i k v d H' _ e1 Zn h1 χ h2
 .have e:i=Yy.length:=by lia
  subst e;refine .inl ⟨⟨h2 _ _ hl,aT _⟩,hd d H1 Zn ?_ h2⟩;have e5:(Yy.map (·.1)).length=Yy.length:=aE _;rw[<-e5,dz]at h1;exact h1
end
theorem eD{H:Hp}{a:aa}{Yy:List (aJ×V)}{n:Int}{o:Option V}(h:H a=some (.dK Yy)):gw H a (.int n) o↔bf Yy (.inl n)=o:=by
 constructor
 .rintro(⟨aaz,k,e,ey,l⟩|⟨aaz,k,b,e,ey,_⟩)
  .have e':aaz=Yy:=by
    rcases e with e|⟨o',e⟩
    .rw[h]at e;cases e;rfl
    .rw[h]at e;cases e
   subst e';cases k with
   |inl i=>cases ey;exact l.symm
   |inr z=>cases ey
  .cases ey
 .rintro rfl;exact gw.k (k:=bQ n) h
theorem vh{H:Hp}{a:aa}{ob:Obj}{Yy:List (aJ×V)}{n:Int}{o:Option V}(h:H a=some (.frz ob (.dK Yy))):gw H a (.int n) o↔bf Yy (.inl n)=o:=by
 constructor
 .rintro(⟨aaz,k,e,ey,l⟩|⟨aaz,k,b,e,ey,_⟩)
  .have e':aaz=Yy:=by
    rcases e with e|⟨o',e⟩
    .rw[h]at e;cases e
    .rw[h]at e;cases e;rfl
   subst e';cases k with
   |inl i=>cases ey;exact l.symm
   |inr z=>cases ey
  .cases ey
 .rintro rfl;exact .inl ⟨Yy,.inl n,.inr ⟨ob,h⟩,rfl,rfl⟩
theorem jB{H H':Hp}{a:aa}{Yy:List (aJ×V)}{n:Int}{v:V}(h:H a=some (.dK Yy)):mx H a (.int n) v H'↔Yy.length<aU/\upd H a (.dK (cM Yy (.inl n) v))=H':=by
 constructor
 .rintro(⟨aaz,k,e,ey,l,eH⟩|⟨aaz,k,b,e,ey,_⟩)
  .rw[h]at e;cases e;cases k with
   |inl i=>cases ey;exact⟨l,eH.symm⟩
   |inr z=>cases ey
  .cases ey
 .rintro⟨l,rfl⟩;exact mx.k (k:=bQ n) h l
theorem sQ{H:Hp}{a:aa}{Yy:List (aJ×V)}(h:H a=some (.dK Yy)):qK H a=True:=eq_true (.inl ⟨Yy,.inl h⟩)
theorem dZ{K:aA}{H:Hp}{a:aa}{xs:List V}(h:H a=some (.lst xs)):lg K "list" (.ref a) H=True:=eq_true (.inl ⟨rfl,xs,ay.of h⟩)
theorem ag.new{H:Hp}{p:aa}{o:HO}(h:H p=none):ag H (upd H p o):=λb u e=>by rw[aj (aG e h)];exact e
theorem sU{K:aA}{H H':Hp}{a:aa}{xs:List V}(e:ag H H')(h:a9 K H a xs):a9 K H' a xs:=by
 rcases h with(h|⟨o,h⟩)|h
 .exact .inl (.inl (e _ _ h))
 .exact .inl (.inr ⟨o,e _ _ h⟩)
 .exact .inr h
section
variable{X:Cx}
def J6(K:aA):List V->Hp->VK->Prop:=λvs H Q=>∃(a:aa)(ns:List Int),vs=[V.ref a]/\a9 K H a (ns.map V.int)/\Q (.int ns.sum) H
theorem Vb(hc:X.calm=true):dh X (.builtin "sum") (J6 X.K):=by
 intro Yw s σ H vs us Q I r h;obtain⟨a,ns,rfl,hs,q⟩:=h;obtain⟨YA,rv,hl,_⟩:=I.tuple hs;rw[aR.ref1 r];have hi:=rv.ints;obtain⟨xs,e⟩:=hi.allInts.items;have hn:numsOf (intItems xs).toList=ns:=by rw[<-e];exact hi.numsOf
 rw[nums_intItems]at hn;have Z9:s.heap.IsTuple a YA.toArray:=hl;rw[e]at Z9;refine PySem.W.ktm_sumG (I.ok.hd hc) Z9 λh' tk t' hk=>?_;have fin:EP X Yw σ Q (.int ns.sum t') {s with heap:=h',toks:=tk}:=⟨.int _,H,I.kept hk,⟨_,rfl⟩,q⟩;rw[preSum_eq,qM (by simp),hn];exact fin
def Gp(K:aA):V->List V->Hp->VK->Prop:=λx vs H Q=>∃l b xs zs,x= .ref l/\vs=[.ref b]/\H l=some (.lst xs)/\a9 K H b zs/\xs.length+zs.length<=aU/\Q .non (upd H l (.lst (xs++zs)))
theorem QU{l b:aa}{xs:Array ac}{n:Nat}{ob:Obj}{ys:Array ac}{m:Nat}(hc:ob.cls= .type "tuple")(hd:ob.data= .seq ys m)(acA:¬(!xs.isEmpty&&tL (xs.size+ys.size))=true)(h1:xs.size<=aU)(h2:xs.size+ys.size<=aU+1):
  PySem.Meets (Builtin.«list.extend» ⟨[.ref l,.ref b],[]⟩) (λ_ R s=>s.heap.get? l=some (qo "list" xs n)/\s.heap.get? b=some ob/\R (.ok (.ret .none)) {s with heap:=s.heap.update l (E7 λx=>x++ys)}):=
 .of_wp λprog w A R s⟨hl,hb,h⟩=>by show aq _ A.in1 (Ll (.ref l) (.ref b) .none) _ _ s;unfold Ll;refine ah (rD (T:="tuple") ⟨ob,hb,hc⟩ ?_);rw[if_pos (by simp)];refine ah (listItems_at hb hd ?_);refine ah (listItems_at hl rfl ?_);rw[if_neg acA];refine ah (listUpdate_at hl rfl ?_ h1 (by rw[Array.size_append];exact h2));exact aw ⟨_,rfl,h⟩
theorem uI:tE X "list.extend" (Gp X.K):=by
 intro Yw s σ H x vs v us Q I rx rv h;obtain⟨l,b,xs,zs,rfl,rfl,hH,hB,hz,q⟩:=h;cases rx;obtain⟨u,rfl,ru⟩:=rv.one;cases ru;obtain⟨z,YA,n,r,hl,e⟩:=I.lstM hH;obtain⟨aab,r2,⟨ob,e2,c2,n2,d2⟩,z2⟩:=I.tuple hB;have Y6:=r2.length;have acA:¬(!YA.toArray.isEmpty&&tL (YA.toArray.size+aab.toArray.size))=true:=by rw[Gz (by rw[b6,b6];lia),C0];exact dF
 refine uL kC ⟨_,e,rfl⟩ PySem.F.entry_list_extend (PySem.F.args_list_extend_2 _ _) (QU (n:=n) c2 d2 acA (by rw[b6];lia) (by rw[b6,b6];lia)) ⟨e,e2,?_⟩;refine⟨.non,_,I.lset (its':=YA++aab) hH e (by simp) (r.append r2) ?_,rfl,q⟩;rw[bG]
 lia
def HV:V->List V->Hp->VK->Prop:=λx vs H Q=>∃(l:aa)(ns:List Int)(n:Int),x= .ref l/\vs=[.int n]/\H l=some (.lst (ns.map V.int))/\n∈ns/\Q .non (upd H l (.lst ((ns.erase n).map V.int)))
theorem QZ{n:Int}:∀{ns:List Int}{us:List ac},ka us ns->∀(j:Nat)(u:ac),us[j]? =some u->∃m t,ns[j]? =some m/\u=i8 m t:=by
 intro ns us h;induction h with
 |nil=>intro j u e;simp at e
 |cons n t _ ih=>
  intro j u e;cases j with
  |zero=>simp at e;subst e;exact⟨n,t,rfl,rfl⟩
  |succ j=>simpa using ih j u (by simpa using e)
theorem G'{n:Int}:∀{ns:List Int},n∈ns->∃j,ns[j]? =some n/\(∀i m,i<j->ns[i]? =some m->m≠n)/\ns.erase n=ns.eraseIdx j
 |a::ns,h=>by
  by_cases e:a=n
  .subst e;exact⟨0,rfl,λi m hi=>absurd hi (xl _),by simp⟩
  .have h':n∈ns:=by
    rcases aV.mp h with q|q
    .exact absurd q.symm e
    .exact q
   obtain⟨j,h1,h2,h3⟩:=G' h';refine⟨j+1,by simpa using h1,λi m hi hm=>?_,?_⟩
   .cases i with
    |zero=>simp at hm;subst hm;exact e
    |succ i=>exact h2 i m (by lia) (by simpa using hm)
   .rw[wL (by simpa using e),h3];rfl
theorem FG{α β:Type}(f:α->β):∀(l:List α)(i:Nat),(l.map f).eraseIdx i=(l.eraseIdx i).map f
 |[],i=>by simp
 |a::l,0=>rfl
 |a::l,i+1=>by show f a::(l.map f).eraseIdx i=f a::(l.eraseIdx i).map f;rw[FG f l i]
theorem P5{xs:List V}{us:List ac}(h:aR xs us)(i:Nat):aR (xs.eraseIdx i) (us.eraseIdx i):=aR.eraseIdx i h
theorem RJ:tE X "list.remove" HV:=by
 intro Yw s σ H x vs v us Q I rx rv h;obtain⟨l,ns,n,rfl,rfl,hH,hn,q⟩:=h;cases rx;obtain⟨u,rfl,ru⟩:=rv.one;obtain⟨t,rfl⟩:=ru;obtain⟨z,YA,nn,r,hl,e⟩:=I.lstM hH;have hi:ka YA ns:=r.ints;have YG:ns.length=YA.length:=by rw[aE]at hl;exact hl
 obtain⟨j,h1,h2,h3⟩:=G' hn;have hj:j<YA.length:=by rw[<-YG];exact(gE.mp h1).1
 have at_:∀(i:Nat)(YK:i<YA.toArray.size),∃m tk,ns[i]? =some m/\YA.toArray[i]=i8 m tk:=λi YK=>by
  have e1:YA[i]? =some YA.toArray[i]:=by simp
  obtain⟨m,tk,h1,h2⟩:=QZ (n:=n) hi i _ e1;exact⟨m,tk,h1,h2⟩
 refine uL Ly ⟨_,e,rfl⟩ PySem.F.entry_list_remove (PySem.F.args_list_remove_2 _ _)
  (MeetsSeq.list_remove l YA.toArray nn (.int n t) (BG n) (λy hy=>?_) j (by simpa using hj) ?_ (λi hm YK=>?_) (by rw[b6,<-hl];exact z)) ⟨e,?_⟩
 .obtain⟨i,Zd,rfl⟩:=Mi hy;obtain⟨m,tk,_,e2⟩:=at_ i Zd;rw[e2];exact Xm m n tk t
 .obtain⟨m,tk,h4,h5⟩:=at_ j (by simpa using hj);rw[h5];rw[h1]at h4;cases h4;simp[BG]
 .obtain⟨m,tk,h4,h5⟩:=at_ i hm;rw[h5];have:=h2 i m YK h4;simp[BG,this]
 .refine⟨.non,_,I.lset (its':=YA.eraseIdx j) hH e (by simp) ?_ ?_,rfl,q⟩
  .rw[h3];have:=P5 r j;rw[FG]at this;exact this
  .rw[aE,h3];have:=FI ns j;rw[aE]at z
   lia
def Gj:List V->Hp->VK->Prop:=λvs H Q=>∃(a:aa)(Yy:List (aJ×V))(ns:List Int),vs=[V.ref a]/\Rd H a (.dK Yy)/\Yy.map (·.1)=ns.map bQ/\ns.length<64/\
 ∀(YM:List Int)(p:aa),YM.Perm ns->YM.Pairwise (·<=·)->H p=none->Q (.ref p) (upd H p (.lst (YM.map V.int)))
theorem uS:∀{us:List ac}{ns:List Int},us.length=ns.length->(∀(j:Nat)(u:ac),us[j]? =some u->∃n t,ns[j]? =some n/\u=i8 n t)->ka us ns
 |[],[],_,_=> .nil
 |[],_::_,h,_=>by simp at h
 |_::_,[],h,_=>by simp at h
 |u::us,n::ns,h,k=>by obtain⟨m,t,h1,rfl⟩:=k 0 u rfl;simp at h1;subst h1;exact .cons n t (uS (by simpa using h) λj v hv=>by simpa using k (j+1) v (by simpa using hv))
theorem yh(hc:X.calm=true):dh X (.builtin "sorted") Gj:=by
 intro Yw s σ H vs us Q I r h;obtain⟨a,Yy,ns,rfl,hd,hk,h64,q⟩:=h;rw[aR.ref1 r];obtain⟨hz,lo,vl,rel,dd⟩:=jd I.YB hd;have YG:Yy.length=vl.length:=rel.length;have hln:Yy.length=ns.length:=by have:=congrArg fV hk;rw[aE,aE]at this;exact this
 obtain⟨ep,hat⟩:=dd.dictAt;refine Lx kind_sorted plain_sorted entry_sorted (args_sorted1 _) ?_;unfold Builtin.«sorted»;refine ah (m:=checkCount "sorted" 1 1 _) (aw ?_);refine ah (Mn (A:=X.A.in1) (M7 («knd»:=dN X.prog X.w) («kvs»:=vl) (ep:=ep) lo) (I.ok.hd hc) hat (by rw[<-YG];exact hz) λh' tk acc hkp aa4=>?_);have hl:acc.toList.length=vl.length:=by rw[bz];exact aa4.1
 have hI:ka acc.toList ns:=uS (by lia) λj u hu=>by
  obtain⟨k,x,hx,ZC⟩:=aa4.2 j u (by rw[<-fw];exact hu);have hj:j<Yy.length:=by
   have:=(gE.mp hx).1
   lia
  obtain⟨kv,Θ⟩:∃kv,Yy[j]? =some kv:=⟨_,cR hj⟩;obtain⟨b,hb,e1,_⟩:=h_ rel Θ;rw[hx]at hb;cases hb;have h1:(Yy.map (·.1))[j]? =some kv.1:=by rw[cq,Θ];rfl
  rw[hk,cq]at h1;obtain⟨n,hn,e2⟩:=dU.mp h1;have e1:kv.1=k:=e1;rw[<-e1,<-e2]at ZC;obtain⟨t,et⟩:=(show∃t,u=i8 n t from rY (k:=bQ n) ZC);exact⟨n,t,hn,et⟩
 refine ah (wpAny_newList ?_ (by rw[hl,<-YG];exact hz));have hoL:(h'.push (qo "list" acc.toList.toArray 0)).get? h'.objs.size=some (qo "list" acc.toList.toArray 0):=cZ _ rfl;refine ah (gW (iU slot_list_sort ⟨_,hoL,rfl⟩ entry_list_sort (list_sort_tree hoL hI (by lia) λout YM a1 a2 a3=>⟨_,rfl,?_⟩) (args_list_sort _)));refine aw ⟨_,rfl,?_⟩;obtain⟨Y2,he'⟩:=sortedHeap_at (vs:=acc.toList) (out:=out) hoL;have I1:L2.Inv X Yw σ H {s with heap:=h',toks:=tk}:=I.kept hkp;have Zu:(YM.map V.int).length<=aU:=by rw[aE,a2.length_eq];exact zt h64
 refine⟨.ref h'.objs.size,upd H h'.objs.size (.lst (YM.map V.int)),I1.laid (t':=tk) (λb o e=>?_) (aT _) ⟨Zu,out.toList,Y2,rC a1,he'⟩,rfl,q YM _ a2 a3 (I1.YB.fresh (aT _))⟩;have e3:=cS (qo "list" acc.toList.toArray 0) e;rw[sortedHeap_old (cx (bK e)) (bK e3)];exact e3
end
section
variable{prog:ba}{w:aQ}{A:bh}{E:ac->ai->Prop}{s:ai}
abbrev iw(ns:List Int):List Int:=zj (λi=>ns.getD i 0) ns.length
theorem Rt{l:aa}{items:Array ac}{ns:List Int}{Q:ac->ai->Prop}
  (hh:A.handled=none)(hl:s.heap.IsTuple l items)(hi:ka items.toList ns)(hb:items.size+1<uW)
  (h:∀(h':aM)(tk:Nat),h'.SetOf (vG prog w) s.heap.objs.size (λk'=>(iw ns).any (·==k')) (iw ns).length-> (∀b o,b<s.heap.objs.size->s.heap.get? b=some o->h'.get? b=some o)->Q (.ref s.heap.objs.size) {s with heap:=h',toks:=tk}):
  aq (aB prog w) A (call (.type "set") [.ref l]) Q E s:=by
 have en:ns.length=items.size:=by have:=hi.length;rw[bz]at this;exact this.symm
 unfold iw at h;rw[en]at h;refine ze ?_;obtain⟨ol,ω,Zb,nl,hdl⟩:=hl;have o1:gS s.heap (s.heap.push {cls:= .type "set",dict:=none,data:= .set #[] 0 (.fresh 0 0 (!bt w))}):=rZ _;have S0:(s.heap.push {cls:= .type "set",dict:=none,data:= .set #[] 0 (.fresh 0 0 (!bt w))}).get? s.heap.objs.size=_:=cZ _ rfl;have sz:(s.heap.push {cls:= .type "set",dict:=none,data:= .set #[] 0 (.fresh 0 0 (!bt w))}).objs.size=s.heap.objs.size+1:=iF ..;generalize s.heap.push {cls:= .type "set",dict:=none,data:= .set #[] 0 (.fresh 0 0 (!bt w))}=h1 at o1 S0 sz;have hlS:l<s.heap.objs.size:=bK ω;have acy:=o1 l _ hlS ω;have Zm:h1.IsTuple l items:=⟨_,acy,Zb,nl,hdl⟩;have hT:xE {s with heap:=h1} (.ref l) "tuple":=⟨_,acy,Zb⟩;unfold tJ A5;refine ah ?_;show aq _ _ (nD (.ref l) (.type "set") >>= _) _ _ _;refine ah (jr hT PySem.F.sub_tuple_set ?_);show aq _ _ (nD (.ref l) (.type "frozenset")) _ _ _;refine jr hT PySem.F.sub_tuple_frozenset ?_;simp only[bO,↓reduceIte];refine ah (rD hT ?_);have Y0:(jX "tuple"==jX "dict")=false:=by decide
 rw[Y0];simp only[bO,↓reduceIte];refine ah (Ms (s:={s with heap:=h1}) Zm ?_);refine ah (wpAny_runValue ?_);have hh3:A.in1.in1.in1.handled=none:=by simp[hh]
 have aj7:∀(i:Nat)(v:ac),items[i]? =some v->∃t,v= .int ((λi=>ns.getD i 0) i) t:=λi v hv=>
  IntsAre.int_at hi i v (by rw[fw];exact hv)
 refine codeAny_set_update_loopS (A:=A.in1.in1) ((Walks.tuple hh3 h1.objs.size l (by rw[sz];exact cx (o0 hlS)) items).toS) s.heap.objs.size
  (by rw[sz];simp only[aV,gG,or_false,not_or];exact⟨cx (t8 _),xP hlS⟩) (λi=>ns.getD i 0) aj7 hb (items.size-0) 0 _ (by lia) (dJ _)
  ⟨⟨_,cZ _ rfl,rfl,rfl⟩,(Zm.at λo e=>cS _ e)⟩ (SetOf_congr ((setObjOf_fresh («knd»:=vG prog w) (!bt w)).setOf (cS _ S0) (by unfold uW;lia)) (λ_=>rfl) rfl) λs' hm hS'=>?_
 obtain⟨h',g',d',tk',os'⟩:=s';have eg:g'=s.gens:=hm.gens;have ed:d'=s.drawn:=hm.drawn;have eo:os'=s.os:=hm.os;subst eg;subst ed;subst eo;refine aw (h h' tk' hS' λb o hb e=>?_);exact hm.heap b o (by rw[sz];simp only[aV,gG,or_false,not_or];exact⟨cx hb,cx (o0 hb)⟩) (cS _ (o1 b o hb e))
end
theorem Ig(val:Nat->Int):∀(i:Nat)(k:Int),(zj val i).any (·==k)=true↔∃j,j<i/\val j=k:=by
 intro i k;rw[firstMet_any];simp only[fg,aK,jv,beq_iff_eq];constructor
 .rintro⟨x,⟨j,hj,rfl⟩,e⟩;exact⟨j,hj,e⟩
 .rintro⟨j,hj,e⟩;exact⟨_,⟨j,hj,rfl⟩,e⟩
theorem Ih(val:Nat->Int):∀i:Nat,(zj val i).length=i↔∀a b,a<b->b<i->val a≠val b
 |0=>by simp[firstMet_zero]
 |i+1=>by
  have ih:=Ih val i;have le:=firstMet_length_le val i;rw[firstMet_succ,step_length];by_cases h:(zj val i).any (·==val i)=true
  .rw[if_pos h];constructor
   .intro e;lia
   .intro k;obtain⟨j,hj,e⟩:=(Ig val i (val i)).mp h;exact absurd e (k j i hj (by lia))
  .rw[if_neg h];constructor
   .intro e a b Ze hb;by_cases q:b=i
    .subst q;intro z;exact h ((Ig val b (val b)).mpr ⟨a,Ze,z⟩)
    .exact ih.mp (by lia) a b Ze (by lia)
   .intro k;have:=ih.mpr λa b Ze hb=>k a b Ze (by lia)
    lia
theorem EK(ns:List Int):(iw ns).length=ns.length↔ns.Nodup:=by
 unfold iw;rw[Ih,i5,Lu];constructor
 .intro h i j hi hj Κ e;refine h i j Κ hj ?_;simp only[A3,cR hi,cR hj,M_];exact e
 .intro h a b Ze hb e;have ha:a<ns.length:=by lia
  simp only[A3,cR ha,cR hb,M_]at e;exact h a b ha hb Ze e
section
variable{X:Cx}
def J9(K:aA):List V->Hp->VK->Prop:=λvs H Q=>∃(a:aa)(ns:List Int),vs=[V.ref a]/\a9 K H a (ns.map V.int)/\ns.length<=1000/\
 ∀(S:Int->Bool)(p:aa),H p=none->Q (.ref p) (upd H p (.set S (iw ns).length))
theorem Vc(hc:X.calm=true):dh X (.type "set") (J9 X.K):=by intro Yw s σ H vs us Q I r h;obtain⟨a,ns,rfl,hs,hn,q⟩:=h;obtain⟨YA,rv,hl,_⟩:=I.tuple hs;rw[aR.ref1 r];have hi:=rv.ints;have Y4:=hi.length;refine Rt (ns:=ns) (I.ok.hd hc) (show s.heap.IsTuple a YA.toArray from hl) hi (by rw[b6];unfold uW;lia) λh' tk hS hk=>?_;exact⟨.ref s.heap.objs.size,_,I.laid (t':=tk) (o:= .set (λk'=>(iw ns).any (·==k')) (iw ns).length) (λb o e=>hk b o (bK e) e) (aT _) hS,rfl,q _ _ (I.YB.fresh (aT _))⟩
def Kb:List V->Hp->VK->Prop:=λvs H Q=>∃(a:aa)(S:Int->Bool)(n:Nat),vs=[V.ref a]/\H a=some (.set S n)/\Q (.int n) H
theorem Vd:dh X (.builtin "len") Kb:=by intro Yw s σ H vs us Q I r h;obtain⟨a,S,n,rfl,hs,q⟩:=h;rw[aR.ref1 r];obtain⟨o,es,ep,t,h1,h2,h3,h4,h5,h6,h7,h8⟩:=(show s.heap.SetOf (vG X.prog X.w) a S n from I.YB a _ hs);subst h8;refine call_len_set h1 h2 h3 h7 (by unfold uW at h6;lia) ⟨.int es.size,H,I.tok _,⟨_,rfl⟩,q⟩
def HU:V->List V->Hp->VK->Prop:=λx xs H Q=>∃(a:aa)(Yy:List (aJ×V))(n:Int)(v:V),x= .ref a/\xs=[.int n,v]/\H a=some (.dK Yy)/\Yy.length<aU/\
 (∀y,bf Yy (.inl n)=some y->Q y H)/\(bf Yy (.inl n)=none->Q v (upd H a (.dK (cM Yy (.inl n) v))))
theorem RI:tE X "dict.setdefault" HU:=by
 intro Yw s σ H x xs v us Q I rx rv h;obtain⟨a,Yy,n,z,rfl,rfl,hH,hz,q1,q2⟩:=h;cases rx;obtain⟨u1,u2,rfl,r1,r2⟩:=rv.two;obtain⟨hz',hd,vs,rel,dd⟩:=Av I.YB hH;have hk:(dN X.prog X.w).is (bQ n:aJ) u1=true:=mf (k:=bQ n) r1;refine xM Lg dd.typeIs PySem.F.entry_dict_setdefault (PySem.F.args_dict_setdefault_3 _ _ _) (PySem.kt_meets_setdefault (dN X.prog X.w) a hk hd u2)
  ⟨vs,dd,by rw[<-rel.length];exact hz',λy hy=>?_,λhn h' ρ hs=>?_⟩
 .have rr:=rel.val (bQ n:aJ);rw[hy]at rr;cases e:bf Yy (bQ n:aJ)with
  |none=>rw[e]at rr;exact(show False from rr).elim
  |some y'=>rw[e]at rr;exact⟨y',H,I.tok _,rr,q1 y' e⟩
 .have rr:=rel.val (bQ n:aJ);rw[hn]at rr;have e:bf Yy (bQ n:aJ)=none:=by
   cases e:bf Yy (bQ n:aJ)with
   |none=>rfl
   |some y'=>rw[e]at rr;exact(show False from rr).elim
  have he:∃q,h'.get? a=some q:=let⟨q,_,_,hq,_⟩:=ρ;⟨q,hq⟩;refine⟨z,_,vC I (by rw[hH];exact nF) hs he (vR ?_ hd (rel.put (bQ n:aJ) r2) ρ),r2,q2 e⟩;have:=xV Yy (bQ n:aJ) z
  lia
end
def Callee(P:ba)(w:aQ)(K:aA)(mg:Str->Option ac)(Yx:aM)(k:Nat)(f:aa)(sp:Sp):Prop:=∃fd ps,aI P w K mg Yx aN k f fd ps sp/\jT K (.ref f)=true/\Binds K fd ps []
def Ja(P:ba)(w:aQ)(K:aA)(mg:Str->Option ac)(Yx:aM)(k:Nat)(i:Nat)(al:TA):TE:=λσ H Q=>∃(f:aa)(sp:Sp),σ[i]? =some (some (.ref f))/\Callee P w K mg Yx k f sp/\al σ H λvs H1=>sp vs H1 Q E0
theorem SO{X:Cx}{k i:Nat}{x:Str}{p pos:Pos}{e:aZ}{es:List aZ}{t:TA}(hr:cr k X.A)(ha:PA X (e::es) t)(hN:X.N[i]? =some x:=by rfl)
  (hv:qJ X.env.scope x:=by first|exact me rfl|exact iK (me rfl)|exact iK (iK rfl))(ZE:(x==("__debug__":Str))=false:=by decide)(ο:(x==("__classdict__":Str))=false:=by decide)
  (he:bP (e::es) X.env=(false,eval e X.env)::bP es X.env:=by rfl)(YZ:(fq pos (bP es X.env)).any (·.1)=false:=by rfl):
  PE X (.Call (.Name x p) (e::es) [] pos) (Ja X.prog X.w X.K X.mg X.Yx k i t):=by
 intro Yw s σ H Q I h;obtain⟨f,sp,e1,⟨fd,ps,h1,h3,h4⟩,q⟩:=h;refine oX (aW (Jo (pos:=p) hN hv ZE ο Yw s σ H (λv H1=>v= .ref f/\H1=H) I ⟨.ref f,e1,rfl,rfl⟩) λu s1⟨v,H1,I1,rv,ev,eH⟩=>?_);subst ev eH;cases rv;refine tW (h₀:=X.Yx) I.ok.mod.kin h3 (aW (ha pos Yw s1 σ H1 _ I1 q) λus s2⟨vs,H2,I2,r,q2⟩=>⟨I2.kIn,?_⟩) he YZ;exact vI h1 hr h4 .nil ox I2 r (by rw[jt];exact q2)
theorem Xt{P:ba}{w:aQ}{K:aA}{mg:Str->Option ac}{Yx:aM}{k i:Nat}{al:TA}{σ:L2.St}{H:Hp}{Q:VK}:Ja P w K mg Yx k i al σ H Q=∃(f:aa)(sp:Sp),σ[i]? =some (some (.ref f))/\Callee P w K mg Yx k f sp/\al σ H λvs H1=>sp vs H1 Q E0:=rfl
theorem XE{σ:L2.St}{H:Hp}{B:Bool->Hp->Prop}:Kl σ H B=B true H:=rfl
theorem Xw{σ:L2.St}:bv σ []=σ:=rfl
theorem Xs{σ:L2.St}{v:Nat}{vs:List Nat}:bv σ (v::vs)=(bv σ vs).set v none:=rfl
theorem Xy{K:aA}{vs:List V}{H:Hp}{Q:VK}:J6 K vs H Q=∃(a:aa)(ns:List Int),vs=[V.ref a]/\a9 K H a (ns.map V.int)/\Q (.int ns.sum) H:=rfl
theorem Xr{vs:List V}{H:Hp}{Q:VK}:Gj vs H Q=∃(a:aa)(Yy:List (aJ×V))(ns:List Int),vs=[V.ref a]/\Rd H a (.dK Yy)/\Yy.map (·.1)=ns.map bQ/\ns.length<64/\
 ∀(YM:List Int)(p:aa),YM.Perm ns->YM.Pairwise (·<=·)->H p=none->Q (.ref p) (upd H p (.lst (YM.map V.int))):=rfl
theorem Xz{K:aA}{vs:List V}{H:Hp}{Q:VK}:J9 K vs H Q=∃(a:aa)(ns:List Int),vs=[V.ref a]/\a9 K H a (ns.map V.int)/\ns.length<=1000/\∀(S:Int->Bool)(p:aa),H p=none->Q (.ref p) (upd H p (.set S (iw ns).length)):=rfl
theorem XB{vs:List V}{H:Hp}{Q:VK}:Kb vs H Q=∃(a:aa)(S:Int->Bool)(n:Nat),vs=[V.ref a]/\H a=some (.set S n)/\Q (.int n) H:=rfl
theorem rM:∀{l r:List Int},l.Pairwise (·<=·)->r.Pairwise (·<=·)->l.Perm r->l=r:=by intro l r hl hr hp;exact List.Perm.eq_of_pairwise (λa b _ _ h1 h2=>Int.le_antisymm h1 h2) hl hr hp
theorem Yt{CX:gx}{P:ba}{w:aQ}{K:aA}{mg:Str->Option ac}{Yx:aM}{N:List Str}{YJ:Str}{scope:dv}{f:aa}{cd:ac}{A:bh}{outer:List Env}{s:ai}{H:Hp}{E:XK}:(jM CX P w K mg Yx N YJ scope f cd A outer s H E).K=K:=rfl
theorem Yr{CX:gx}{P:ba}{w:aQ}{K:aA}{mg:Str->Option ac}{Yx:aM}{N:List Str}{YJ:Str}{scope:dv}{f:aa}{cd:ac}{A:bh}{outer:List Env}{s:ai}{H:Hp}{E:XK}:(jM CX P w K mg Yx N YJ scope f cd A outer s H E).prog=P:=rfl
theorem Yq{CX:gx}{P:ba}{w:aQ}{K:aA}{mg:Str->Option ac}{Yx:aM}{N:List Str}{YJ:Str}{scope:dv}{f:aa}{cd:ac}{A:bh}{outer:List Env}{s:ai}{H:Hp}{E:XK}:(jM CX P w K mg Yx N YJ scope f cd A outer s H E).w=w:=rfl
theorem Ys{CX:gx}{P:ba}{w:aQ}{K:aA}{mg:Str->Option ac}{Yx:aM}{N:List Str}{YJ:Str}{scope:dv}{f:aa}{cd:ac}{A:bh}{outer:List Env}{s:ai}{H:Hp}{E:XK}:(jM CX P w K mg Yx N YJ scope f cd A outer s H E).mg=mg:=rfl
theorem Yu{CX:gx}{P:ba}{w:aQ}{K:aA}{mg:Str->Option ac}{Yx:aM}{N:List Str}{YJ:Str}{scope:dv}{f:aa}{cd:ac}{A:bh}{outer:List Env}{s:ai}{H:Hp}{E:XK}:(jM CX P w K mg Yx N YJ scope f cd A outer s H E).Yx=Yx:=rfl
theorem Ya{X:Cx}{s:ai}{H:Hp}{scope:dv}{env:Env}{fp:List aa}:(X.blk s H scope env fp).K=X.K:=rfl
section
variable{a b c d:Str}{p q r s:V}
theorem Yp:((bE a p []).length<1000)=True:=eq_true (by have:=iZ a p [];simp at this;lia)
theorem Yo:((bE b q (bE a p [])).length<1000)=True:=eq_true (by have h1:=iZ a p [];have h2:=iZ b q (bE a p []);simp at h1;lia)
theorem Yn:((bE c r (bE b q (bE a p []))).length<1000)=True:=eq_true (by have h1:=iZ a p [];have h2:=iZ b q (bE a p []);have h3:=iZ c r (bE b q (bE a p []));simp at h1;lia)
theorem Ym:((bE d s (bE c r (bE b q (bE a p [])))).length<1000)=True:=eq_true (by have h1:=iZ a p [];have h2:=iZ b q (bE a p []);have h3:=iZ c r (bE b q (bE a p []));have h4:=iZ d s (bE c r (bE b q (bE a p [])));simp at h1;lia)
end
section
variable{X:Cx}
def J5(K:aA):List V->Hp->VK->Prop:=λvs H Q=>∃p ys,vs=[.ref p]/\ay K H p ys/\∀l,H l=none->Q (.ref l) (upd H l (.tup ys))
def Jk(K:aA):List V->Hp->VK->Prop:=λvs H Q=>∃p ys,vs=[.ref p]/\ay K H p ys/\∀l,H l=none->Q (.ref l) (upd H l (.lst ys))
def Ji(K:aA):List V->Hp->VK->Prop:=λvs H Q=>∃p ys,vs=[.ref p]/\a9 K H p ys/\∀l,H l=none->Q (.ref l) (upd H l (.lst ys))
def Kd(K:aA):List V->Hp->VK->Prop:=λvs H Q=>∃p ys,vs=[.ref p]/\ay K H p ys/\Q (.int ys.length) H
def Ka(K:aA):List V->Hp->VK->Prop:=λvs H Q=>∃p ys,vs=[.ref p]/\a9 K H p ys/\Q (.int ys.length) H
def Ke:List V->Hp->VK->Prop:=λvs H Q=>∃p Yy,vs=[.ref p]/\H p=some (.dK Yy)/\Q (.int Yy.length) H
theorem II:dh X (.type "tuple") (J5 X.K):=λYw s σ H xs us Q I r⟨p,ys,e,h1,h2⟩=>Om Yw s σ H xs us Q I r ⟨p,ys,e,.inl ⟨h1,h2⟩⟩
theorem Hm:dh X (.type "list") (Jk X.K):=λYw s σ H xs us Q I r⟨p,ys,e,h1,h2⟩=>DQ Yw s σ H xs us Q I r ⟨p,ys,e,.inl h1,h2⟩
theorem zd:dh X (.type "list") (Ji X.K):=λYw s σ H xs us Q I r⟨p,ys,e,h1,h2⟩=>DQ Yw s σ H xs us Q I r ⟨p,ys,e,.inr h1,h2⟩
theorem kQ:dh X (.builtin "len") (Kd X.K):=λYw s σ H xs us Q I r⟨p,ys,e,h1,h2⟩=>xK Yw s σ H xs us Q I r ⟨p,ys,e,.inl h1,h2⟩
theorem zP:dh X (.builtin "len") (Ka X.K):=λYw s σ H xs us Q I r⟨p,ys,e,h1,h2⟩=>xK Yw s σ H xs us Q I r ⟨p,ys,e,.inr h1,h2⟩
theorem zQ:dh X (.builtin "len") Ke:=λYw s σ H xs us Q I r⟨p,Yy,e,h1,h2⟩=>R7 Yw s σ H xs us Q I r ⟨p,Yy,e,h1,h2⟩
end
section
variable{K:aA}{vs:List V}{H:Hp}{Q:VK}
theorem Xx:J5 K vs H Q=∃p ys,vs=[.ref p]/\ay K H p ys/\∀l,H l=none->Q (.ref l) (upd H l (.tup ys)):=rfl
theorem Xv:Jk K vs H Q=∃p ys,vs=[.ref p]/\ay K H p ys/\∀l,H l=none->Q (.ref l) (upd H l (.lst ys)):=rfl
theorem Xu:Ji K vs H Q=∃p ys,vs=[.ref p]/\a9 K H p ys/\∀l,H l=none->Q (.ref l) (upd H l (.lst ys)):=rfl
theorem XC:Kd K vs H Q=∃p ys,vs=[.ref p]/\ay K H p ys/\Q (.int ys.length) H:=rfl
theorem XA:Ka K vs H Q=∃p ys,vs=[.ref p]/\a9 K H p ys/\Q (.int ys.length) H:=rfl
theorem XD:Ke vs H Q=∃p Yy,vs=[.ref p]/\H p=some (.dK Yy)/\Q (.int Yy.length) H:=rfl
end
set_option hygiene false in
open Lean in
local macro_rules
 |`(tactic|simp![$args,*])=>do
  let l <-("T6 Wv Uj VC Ua Sm T_ Sh VE Ww Sd T8 Si Sj T9 Sf HE Te Ui VD VN Wy Rp Uf Ur Ub Sl T7 Uc Wu VF VG Sk Ug Qc Sx Rn Ro Rm Uh VI Ud Qq UD UC UE Uz VH Sg Qa VB Uw Uv UB UF UG VM OA O8 OB N5 NB NA O6 Qb O7 Xt Xy Xr Xz XB XE Xw Xs Yp Yo Yn Ym Xx Xv Xu XC XA XD L2.start List.map_cons List.map_nil List.length_cons List.length_nil List.replicate List.append_nil List.cons_append List.nil_append List.getElem?_cons_zero List.getElem?_cons_succ List.set_cons_zero List.set_cons_succ List.set_nil Nat.sub_self Nat.zero_add Nat.reduceAdd Nat.reduceSub Nat.reduceMul Nat.reduceLT Option.some.injEq exists_eq_left' exists_eq_left exists_eq' exists_and_left exists_and_right V.int.injEq V.bl.injEq V.ref.injEq List.cons.injEq HO.ins.injEq HO.lst.injEq HO.tup.injEq HO.dK.injEq and_true true_and and_assoc decide_eq_true_eq Bool.not_eq_true' decide_eq_false_iff_not am vo Yt Yr Yq Ys Yu Ya if_true if_false Bool.false_eq_true ite_true ite_false forall_eq' forall_eq implies_true".splitOn " ").toArray.mapM λs=>`(Parser.Tactic.simpLemma| $(mkIdent s.toName):ident)
  `(tactic|try simp only[$l,*,$args,*])
 |`(tactic|simp_arith![$args,*])=>do
  let d <-("L2.start X0 X1 X6 X7 XY XZ X2 X3 X4 X5 Nat.reduceAdd Nat.reduceSub Yt Yr Yq Ys Yu Ya Xw Xs Yp Yo Yn Ym".splitOn " ").toArray.mapM λs=>`(Parser.Tactic.simpLemma| $(mkIdent s.toName):ident);let l <-("Yc XS XT Yl Yk Yj Yh Yg Yf Ye Yd Yi X_ X8 X9 X' Wv Uj VC Ua Sm T_ Sh VE Ww Sd T8 Si Sj T9 Sf XR XQ XO XN XM XJ XI XH XG XF Ui VD VN Wy Rp Uf Ur Ub Sl T7 Uc XX XU XV Sk Ug Qc Sx Rn Ro Rm Uh VI Ud Qq UD UC UE Uz VH Sg Qa VB Uw Uv UB UF UG VM OA O8 OB N5 NB NA O6 Qb O7 Xt Xy Xr Xz XB XE Xx Xv Xu XC XA XD".splitOn " ").toArray.mapM λs=>`(Parser.Tactic.simpLemma|↓ $(mkIdent s.toName):ident);let u <-("Te Xw Xs Yp Yo Yn Ym L2.start List.map_cons List.map_nil List.length_cons List.length_nil List.replicate List.append_nil List.cons_append List.nil_append List.getElem?_cons_zero List.getElem?_cons_succ List.set_cons_zero List.set_cons_succ List.set_nil Nat.sub_self Nat.zero_add Nat.reduceAdd Nat.reduceSub Nat.reduceMul Nat.reduceLT Option.some.injEq exists_eq_left' exists_eq_left exists_eq' exists_and_left exists_and_right V.int.injEq V.bl.injEq V.ref.injEq List.cons.injEq HO.ins.injEq HO.lst.injEq HO.tup.injEq HO.dK.injEq and_true true_and and_assoc decide_eq_true_eq Bool.not_eq_true' decide_eq_false_iff_not am vo Yt Yr Yq Ys Yu Ya if_true if_false Bool.false_eq_true ite_true ite_false forall_eq' forall_eq implies_true".splitOn " ").toArray.mapM λs=>`(Parser.Tactic.simpLemma| $(mkIdent s.toName):ident)
  `(tactic|((try with_reducible first|refine IW ?_|refine TK ?_);(try dsimp only[$d,*]);(try simp only[$l,*,$u,*,$args,*]);simp![Ap,JC,KO,Ki,$args,*]))
 |`(tactic|dsimp![$args,*])=>`(tactic|simp_arith![↓Ue,$args,*])
 |`(tactic|simp_all![$args,*])=>`(tactic|simp_arith![↓HE,$args,*])
 |`(tactic|rw[$rs,*])=>`(tactic|(rewrite [$rs,*];(try (with_reducible rfl));(try with_reducible refine IW ?_)))
variable{P:ba}{w:aQ}{K:aA}{mg:Str->Option ac}{Yx:aM}{A:Ad}{f:aa}{fd:dX}
section
def iM(n x k c:Int)(t:aa):List (Str×V):=[("number",.int n),("name",.int x),("kind",.int k),("constant",.int c),("reads",.ref t)]
theorem fZ{n x k c:Int}{t:aa}:(iM n x k c t).lookup ("number":Str)=some (.int n):=by rfl
theorem oe{n x k c:Int}{t:aa}:(iM n x k c t).lookup ("name":Str)=some (.int x):=by rfl
theorem og{n x k c:Int}{t:aa}:(iM n x k c t).lookup ("kind":Str)=some (.int k):=by rfl
theorem vK{n x k c:Int}{t:aa}:(iM n x k c t).lookup ("constant":Str)=some (.int c):=by rfl
theorem jC{n x k c:Int}{t:aa}:(iM n x k c t).lookup ("reads":Str)=some (.ref t):=by rfl
structure e_(A:Ad)(H:Hp)(a:aa)(n x k c:Int)(r:List Int):Prop where
 ex:∃dx t,H a=some (.ins A.Cl dx (iM n x k c t))/\H t=some (.tup (r.map V.int))
def iN(l:List Nat):List Int:=l.map λn:Nat=>(n:Int)
def cK(A:Ad)(H:Hp)(a:aa)(c:uF):Prop:=e_ A H a c.number c.name c.kind c.const (iN c.reads)
def ot(a:aa):List (Str×V):=[("cell",.ref a)]
def om(n:Int):List (Str×V):=[("number",.int n)]
def oa(n:Int):List (Str×V):=[("new_seed",.int n)]
def eJ(A:Ad)(H:Hp)(a:aa):PP->Prop
 | .put c=>∃dx ca,H a=some (.ins A.Pu dx (ot ca))/\cK A H ca c
 | .drop n=>∃dx,H a=some (.ins A.Dr dx (om n))
 | .seed x=>∃dx,H a=some (.ins A.Se dx (oa x))
def ip(d:aa)(s:Int):List (Str×V):=[("cells",.ref d),("seed",.int s)]
def dt(x:uF×aa):aJ×V:=(.inl (x.1.number:Int),.ref x.2)
structure eW(A:Ad)(H:Hp)(d:aa)(YE:List (uF×aa))(s:x5):Prop where
 d:H d=some (.dK (YE.map dt))
 nd:(YE.map λx=>x.1.number).Nodup
 mem:∀c,c∈YE.map (·.1)↔c∈s.cells
 cell:∀x∈YE,cK A H x.2 x.1
structure cQ(A:Ad)(H:Hp)(nb dx d:aa)(s:x5):Prop where
 nb:H nb=some (.ins A.Nb dx (ip d s.seed))
 cs:∃YE,eW A H d YE s
def d_(e p m:aa):List (Str×V):=[("edits",.ref e),("pages",.ref p),("moments",.ref m)]
def cu(y:Nat×Nat):aJ×V:=(.inl (y.1:Int),.int (y.2:Int))
def f9(l:aa)(i:Int):List (Str×V):=[("numbers",.ref l),("place",.int i)]
def Kp(H H':Hp)(M:List aa):Prop:=∀b o,H b=some o->b∉M->H' b=some o
theorem Kp.of{H H':Hp}(h:ag H H')(M:List aa):Kp H H' M:=λb o e _=>h b o e
theorem Kp.same{H H':Hp}(h:Kp H H' []):ag H H':=λb o e=>h b o e (by simp)
theorem Kp.refl(H:Hp)(M:List aa):Kp H H M:=λ_ _ e _=>e
theorem Kp.trans{H H1 H2:Hp}{M:List aa}(a:Kp H H1 M)(b:Kp H1 H2 M):Kp H H2 M:=λc o e n=>b c o (a c o e n) n
theorem Kp.mono{H H':Hp}{M N:List aa}(a:Kp H H' M)(h:∀b∈M,b∈N):Kp H H' N:=λc o e n=>a c o e λq=>n (h c q)
theorem Kp.upd{H:Hp}{p:aa}{o:HO}{M:List aa}(h:p∈M):Kp H (L2.upd H p o) M:=λb u e n=>by have hb:b≠p:=λq=>n (by rw[q];exact h);rw[L2.aj hb];exact e
theorem e_.kp{A:Ad}{H H':Hp}{a:aa}{n x k c:Int}{r:List Int}{M:List aa}(h:e_ A H a n x k c r)(s:Kp H H' M)(hM:∀b∈M,∀C dx fs,H b=some (.ins C dx fs)->C≠A.Cl)(hT:∀b∈M,∀xs,H b≠some (.tup xs)):e_ A H' a n x k c r:=by obtain⟨dx,t,h1,h2⟩:=h.ex;exact⟨dx,t,s _ _ h1 (λq=>hM _ q _ _ _ h1 rfl),s _ _ h2 λq=>hT _ q _ h2⟩
theorem e_.same{A:Ad}{H H':Hp}{a:aa}{n x k c:Int}{r:List Int}(h:e_ A H a n x k c r)(s:ag H H'):e_ A H' a n x k c r:=by obtain⟨dx,t,h1,h2⟩:=h.ex;exact⟨dx,t,s _ _ h1,s _ _ h2⟩
theorem cK.same{A:Ad}{H H':Hp}{a:aa}{c:uF}(h:cK A H a c)(s:ag H H'):cK A H' a c:=e_.same h s
theorem eJ.same{A:Ad}{H H':Hp}{a:aa}{e:PP}(h:eJ A H a e)(s:ag H H'):eJ A H' a e:=by
 cases e with
 |put c=>obtain⟨dx,ca,h1,h2⟩:=h;exact⟨dx,ca,s _ _ h1,h2.same s⟩
 |drop n=>obtain⟨dx,h1⟩:=h;exact⟨dx,s _ _ h1⟩
 |seed x=>obtain⟨dx,h1⟩:=h;exact⟨dx,s _ _ h1⟩
theorem eW.same{A:Ad}{H H':Hp}{d:aa}{YE:List (uF×aa)}{s:x5}(g:eW A H d YE s)(k:ag H H'):eW A H' d YE s:=⟨k _ _ g.d,g.nd,g.mem,λx hx=>(g.cell x hx).same k⟩
theorem cQ.same{A:Ad}{H H':Hp}{nb dx d:aa}{s:x5}(g:cQ A H nb dx d s)(k:ag H H'):cQ A H' nb dx d s:=by obtain⟨YE,h⟩:=g.cs;exact⟨k _ _ g.nb,YE,h.same k⟩
theorem nX{e p m:aa}:(d_ e p m).lookup ("edits":Str)=some (.ref e):=by rfl
theorem gq{e p m:aa}:(d_ e p m).lookup ("pages":Str)=some (.ref p):=by rfl
theorem pW{e p m:aa}:(d_ e p m).lookup ("moments":Str)=some (.ref m):=by rfl
theorem ij{d:aa}{s:Int}:(ip d s).lookup ("cells":Str)=some (.ref d):=by rfl
theorem zG{d:aa}{s:Int}:(ip d s).lookup ("seed":Str)=some (.int s):=by rfl
theorem vw{a:aa}:(ot a).lookup ("cell":Str)=some (.ref a):=by rfl
theorem vg{n:Int}:(om n).lookup ("number":Str)=some (.int n):=by rfl
theorem Gc{n:Int}:(oa n).lookup ("new_seed":Str)=some (.int n):=by rfl
theorem sv{l:aa}{i:Int}:(f9 l i).lookup ("numbers":Str)=some (.ref l):=by rfl
theorem vv{l:aa}{i:Int}:(f9 l i).lookup ("place":Str)=some (.int i):=by rfl
end
section
local macro_rules
 |`(tactic|simp![$args,*])=>`(tactic|simp only[T6,Wv,Uj,VC,Ua,Sm,T_,Sh,VE,Ww,Sd,T8,Si,Sj,T9,Sf,HE,Te,Ui,VD,VN,Wy,Rp,Uf,Ur,Ub,Sl,T7,Uc,Wu,VF,VG,Sk,Ug,Qc,Sx,Rn,Ro,Rm,Uh,VI,Ud,Qq,UD,UC,UE,Uz,VH,Sg,Qa,VB,Uw,Uv,UB,UF,UG,VM,OA,O8,OB,N5,NB,NA,O6,Qb,O7,L2.start,bb,uw,cC,qY,ui,jt,lC,xm,wH,A',List.set_cons_zero,List.set_cons_succ,List.set_nil,OZ,uu,Nat.reduceAdd,Nat.reduceSub,Nat.reduceMul,wY,exists_eq_left',exists_eq_left,exists_eq',exists_and_left,exists_and_right,V.int.injEq,V.bl.injEq,V.ref.injEq,CH,HO.ins.injEq,HO.lst.injEq,HO.tup.injEq,HO.dK.injEq,and_true,true_and,and_assoc,decide_eq_true_eq,B5,decide_eq_false_iff_not,am,if_true,if_false,bO,ite_true,ite_false,forall_eq',forall_eq,implies_true,$args,*])
section
def vN(l:List Nat):List V:=l.map λn:Nat=>V.int (n:Int)
theorem gZ{l:List Nat}{i:Nat}{x:V}(h:(vN l)[i]? =some x):∃n:Nat,l[i]? =some n/\x=V.int (n:Int):=by unfold vN at h;rw[cq]at h;obtain⟨n,hn,e⟩:=dU.mp h;exact⟨n,hn,e.symm⟩
theorem bW(l:List Nat):(vN l).length=l.length:=aE _
def yN:Sp:=λvs H Q _=>∃n:Int,vs=[.int n]/\Q (.bl (decide (0<=n)&&decide (n<=31))) H
theorem Ql:nZ ["number"] ["number"] (gX yA):=⟨rfl,rfl,rfl,by decide+kernel,rfl,by decide+kernel,by decide+kernel⟩
theorem Qr(F:aO K "is_name" "is_name" yA f fd)(T:Txt A K mg):aI P w K mg Yx aN 1 f fd ["number"] yN:=by
 refine F.ok Ql (λvs H Q E h=>?_) (λYX A outer s H vs Q E hr h=>?_)
 .obtain⟨n,rfl,_⟩:=h;rfl
 .obtain⟨n,rfl,q⟩:=h;refine⟨_,au (aF (Gw io io be (pv 0) (bg T.aiN))),?_⟩;simp![];by_cases h:0<=n
  .simpa[h]using q
  .simpa[h]using q
def Fn:Sp:=λvs H Q _=>∃a b:Int,vs=[.int a,.int b]/\0<=b/\b<=96/\Q (if b=0 then .non else .int (a/b%97)) H
theorem Qm:nZ ["upper","lower"] ["upper","lower"] (gX yB):=⟨rfl,rfl,rfl,by decide+kernel,rfl,by decide+kernel,by decide+kernel⟩
theorem Qt(F:aO K "divided" "divided" yB f fd)(T:Txt A K mg):aI P w K mg Yx aN 1 f fd ["upper","lower"] Fn:=by
 refine F.ok Qm (λvs H Q E h=>?_) (λYX A outer s H vs Q E hr h=>?_)
 .obtain⟨a,b,rfl,_⟩:=h;rfl
 .obtain⟨a,b,rfl,h0,h1,q⟩:=h;refine⟨_,ap (bp (db g8 (pv 1) be (bZ _)) (au (aF Jp)) br) (au (aF (bn qi (bn zE (pv 0) (pv 1)) (bg T.abB)))),?_⟩;simp![];by_cases h:b=0
  .rw[if_pos h];rw[if_pos h]at q;exact q
  .rw[if_neg h];rw[if_neg h]at q;exact⟨⟨by lia,by lia⟩,by decide,q⟩
def Fl:Sp:=λvs H Q _=>∃(a:aa)(ns:List Nat),vs=[.ref a]/\a9 K H a (vN ns)/\(∀n∈ns,n<=96)/\Q (.int ((ns.foldl (·*·) 1:Nat):Int)) H
theorem uj:nZ ["values","product","value"] ["values"] (gX xJ):=⟨rfl,rfl,rfl,by decide+kernel,rfl,by decide+kernel,by decide+kernel⟩
theorem N'(F:aO K "product_of" "product_of" xJ f fd):aI P w K mg Yx aN 1 f fd ["values"] (Fl (K:=K)):=by
 refine F.ok uj (λvs H Q E h=>?_) (λYX A outer s H vs Q E hr h=>?_)
 .obtain⟨a,ns,rfl,_⟩:=h;rfl
 .obtain⟨a,ns,rfl,hs,hn,q⟩:=h;refine⟨_,ap (ke (i:=1) uj.nd rfl (me rfl) be) (ap (fH dG rfl (vL (pv 0)) (zC (i:=2) uj.nd rfl (me rfl)) (au (ke (i:=1) uj.nd rfl (me rfl) (bn qh (pv 1) (pv 2))))) (au (aF (pv 1)))),?_⟩
  simp![];refine⟨⟨_,hs⟩,GK (K:=K) (a:=a) (xs:=vN ns) (λi σ H'=>H'=H/\∃v:Option V,σ=[some (.ref a),some (.int (((ns.take i).foldl (·*·) 1:Nat):Int)),v]) ⟨rfl,none,rfl⟩ (λi σ H' _ h=>h.1▸hs) ?_ ?_⟩
  .rintro i x σ H' hi ⟨rfl,v,rfl⟩;obtain⟨n,hn',rfl⟩:=gZ hi;simp![];have e:ns.take (i+1)=ns.take i++[n]:=by rw[dA,hn'];rfl
   refine⟨.inr ⟨?_,?_⟩,?_⟩
   .lia
   .have:=hn n (cU hn');lia
   .rw[e,tZ];simp
  .rintro σ H' ⟨rfl,v,rfl⟩;simp![];rw[bW,dz];exact q
end
end
section
section
variable{σ:L2.St}{H:Hp}{Q:VK}{g:TG}{tt:TT}{te:TE}{K:aA}{vs:List Nat}
theorem oz{α:Type}(p:α->Bool)(f:α->V):∀l:List α,l.flatMap (λx=>if p x=true then[f x]else[])=(l.filter p).map f
 |[]=>rfl
 |a::l=>by
  rw[lz,oz p f l,js];by_cases h:p a=true
  .rw[if_pos h,if_pos h];rfl
  .rw[if_neg h,if_neg h];rfl
theorem ve{d:aa}{H1:Hp}{acc:List V}{x y:V}{b:Bool}(hd:H d=none)(h1:H1 d=some (.lst acc))(hz:acc.length+(if b=true then[y]else[]).length<=aU)(s1:ag H H1)
  (hs:∀(R:V->Hp->Prop)(R':Hp->Prop),(b=true->∀H4,ag H1 H4->R y H4)->(b=false->∀H4,ag H1 H4->R' H4)->g x (bv σ vs) H1 λYF H2=>bv YF vs=bv σ vs/\tt YF H2 λc H3=>if c=true then te YF H3 R else R' H3):
  g x (bv σ vs) H1 λYF H2=>bv YF vs=bv σ vs/\tt YF H2 λc H3=>
   if c=true then te YF H3 λy' H4=>∃ZI,H4 d=some (.lst ZI)/\ZI.length<aU/\(upd H4 d (.lst (ZI++[y']))) d=some (.lst (acc++if b=true then[y]else[]))/\ag H (upd H4 d (.lst (ZI++[y'])))else H3 d=some (.lst (acc++if b=true then[y]else[]))/\ag H H3:=by
 refine hs _ _ (λhb H4 s4=>?_) λhb H4 s4=>?_
 .rw[hb]at hz ⊢;refine⟨acc,s4 _ _ h1,by simp at hz;lia,by rw[am];simp,λb o e=>?_⟩;rw[aj (aG e hd)];exact s4 _ _ (s1 _ _ e)
 .rw[hb];exact⟨by simpa using s4 _ _ h1,s1.trans s4⟩
theorem jA{a:aa}{xs:List V}(p:V->Bool)(f:V->V)(hl:ay K H a xs)(hz:xs.length<=aU)
  (hs:∀(i:Nat)(x:V)(H1:Hp)(R:V->Hp->Prop)(R':Hp->Prop),xs[i]? =some x->ag H H1->(p x=true->∀H4,ag H1 H4->R (f x) H4)->(p x=false->∀H4,ag H1 H4->R' H4)-> g x (bv σ vs) H1 λYF H2=>bv YF vs=bv σ vs/\tt YF H2 λc H3=>if c=true then te YF H3 R else R' H3)
  (hd:∀d H1,H d=none->H1 d=some (.lst ((xs.filter p).map f))->ag H H1->Q (.ref d) H1):jl (iT K a) g tt te vs σ H Q:=by
 refine S7 (λx=>if p x=true then[f x]else[]) hl ?_ (λi x d H1 acc hi hd h1 hz s1=>ve hd h1 hz s1 λR R'=>hs i x H1 R R' hi s1) λd H1 hn h1 s1=>hd d H1 hn (by rw[oz]at h1;exact h1) s1;rw[oz,aE];exact cV (gg _ _) hz
theorem Ik{a:aa}{xs:List V}(p:V->Bool)(f:V->V)(hl:a9 K H a xs)(hz:xs.length<=aU)
  (hs:∀(i:Nat)(x:V)(H1:Hp)(R:V->Hp->Prop)(R':Hp->Prop),xs[i]? =some x->ag H H1->(p x=true->∀H4,ag H1 H4->R (f x) H4)->(p x=false->∀H4,ag H1 H4->R' H4)-> g x (bv σ vs) H1 λYF H2=>bv YF vs=bv σ vs/\tt YF H2 λc H3=>if c=true then te YF H3 R else R' H3)
  (hd:∀d H1,H d=none->H1 d=some (.lst ((xs.filter p).map f))->ag H H1->Q (.ref d) H1):jl (iS K a) g tt te vs σ H Q:=by
 refine UZ (λx=>if p x=true then[f x]else[]) hl ?_ (λi x d H1 acc hi hd h1 hz s1=>ve hd h1 hz s1 λR R'=>hs i x H1 R R' hi s1) λd H1 hn h1 s1=>hd d H1 hn (by rw[oz]at h1;exact h1) s1;rw[oz,aE];exact cV (gg _ _) hz
theorem y8{dd:aa}{o:Obj}{Yy:List (aJ×V)}(p:aJ->Bool)(f:aJ->V)(hl:H dd=some (.frz o (.dK Yy)))(hz:Yy.length<=aU)
  (hs:∀(i:Nat)(k:aJ)(v:V)(H1:Hp)(R:V->Hp->Prop)(R':Hp->Prop),Yy[i]? =some (k,v)->ag H H1->(p k=true->∀H4,ag H1 H4->R (f k) H4)->(p k=false->∀H4,ag H1 H4->R' H4)-> g (kV k) (bv σ vs) H1 λYF H2=>bv YF vs=bv σ vs/\tt YF H2 λc H3=>if c=true then te YF H3 R else R' H3)
  (hd:∀d H1,H d=none->H1 d=some (.lst (((Yy.map (·.1)).filter p).map f))->ag H H1->Q (.ref d) H1):jl (oQ dd o Yy) g tt te vs σ H Q:=by
 refine S8 (λx=>if p x=true then[f x]else[]) hl ?_ (λi k v d H1 acc hi hd h1 hz s1=>ve hd h1 hz s1 λR R'=>hs i k v H1 R R' hi s1) λd H1 hn h1 s1=>hd d H1 hn (by rw[oz]at h1;exact h1) s1;rw[oz,aE];exact cV (gg _ _) (by rw[aE];exact hz)
end
section
variable{X:Cx}{e a b:aZ}{ta tb:TE}{f:Str}{pos:Pos}
theorem v0(K:aA)(he:PE X e ta)(hb:ng e f X.env (eval e X.env)=eval e X.env:=by rfl)(hK:X.K=K:=by rfl):PE X (.Attribute e f pos) (Az K ta f):=by rw[<-hK];exact aD he hb
theorem Iq(K:aA)(hK:X.K=K:=by rfl):tF X (AE K):=by rw[<-hK];exact lY
theorem GV(K:aA)(hK:X.K=K:=by rfl):tF X (AF K):=by rw[<-hK];exact eG
theorem Jt(K:aA)(hK:X.K=K:=by rfl):du X (fY .In) (AT K false):=by rw[<-hK];exact FD
theorem Ve(K:aA)(hc:X.calm=true:=by rfl)(hK:X.K=K:=by rfl):dh X (.builtin "any") (AG K):=by rw[<-hK];exact ql hc
end
theorem gP{n:Nat}(h:n<=1000):n<=aU:=cV h (by decide)
end
section
section
def EA(A:Ad):Sp:=λvs H Q _=>∃(p dx rl:aa)(n x k c:Int)(r:List Int),vs=[.ref p,.int n,.int x,.int k,.int c,.ref rl]/\H p=some (.ins A.Cl dx [])/\H rl=some (.lst (r.map V.int))/\
 ∀H':Hp,e_ A H' p n x k c r->Kp H H' [p]->Q .non H'
theorem OO(F:aO K "__init__" "Cell.__init__" En f fd)(T:Txt A K mg):aI P w K mg Yx aN 1 f fd ["self","number","name","kind","constant","reads"] (EA A):=by
 exists ["self","number","name","kind","constant","reads"]
 .obtain⟨p,dx,rl,n,x,k,c,r,rfl,hp,hl,q⟩:=h;refine⟨_,ap (df (pv 0) (pv 1) rfl) (ap (df (pv 0) (pv 2) rfl) (ap (df (pv 0) (pv 3) rfl) (ap (df (pv 0) (pv 4) rfl) (au (df (pv 0) (fX II rfl T.tuple boot_tuple (af (pv 5) ak)) rfl))))),?_⟩
  have ne:rl≠p:=bx hl hp (by intro z;cases z)
  dsimp![hp,T.YY,T.Zz,T.aaO,T.abn,T.ad1,T.ς]
  refine⟨_,ay.of (by rw[aj ne];exact hl),λt ht=>?_⟩;have nt:p≠t:=aG am ht;have hpt:H t=none:=by rw[aj (aX nt)]at ht;exact ht
  dsimp![aj nt,T.YY,T.ς]
  refine q _ ⟨dx,t,?_,?_⟩ λb o e hb=>?_
  .rw[am];rfl
  .rw[aj (aX nt),am]
  .have Z_:b≠p:=by simpa using hb
   rw[aj Z_,aj (aG e hpt),aj Z_];exact e
def HI(A:Ad):Sp:=λvs H Q _=>∃(p:aa)(n x k c:Int)(r:List Int),vs=[.ref p]/\e_ A H p n x k c r/\
 ∀(H':Hp)(t u:aa),H' t=some (.tup [.int n,.int x,.int k,.int c,.ref u])->H' u=some (.tup (r.map V.int))->ag H H'->Q (.ref t) H'
theorem Oh(F:aO K "parts" "Cell.parts" DO f fd)(T:Txt A K mg):aI P w K mg Yx aN 1 f fd ["self"] (HI A):=by
 exists ["self"]
 .obtain⟨p,n,x,k,c,r,rfl,⟨dx,u,hp,hu⟩,q⟩:=h;refine⟨_,au (aF (qf (af (aD (pv 0) rfl) (af (aD (pv 0) rfl) (af (aD (pv 0) rfl) (af (aD (pv 0) rfl) (af (aD (pv 0) rfl) ak))))))),?_⟩
  dsimp![hp,T.YY,T.Zz,T.aaO,T.abn,T.ad1,T.ς,fZ,oe,og,vK,jC]
  refine⟨by decide,λt ht=>q _ t u am ?_ (ag.new ht)⟩;rw[aj (aG hu ht)];exact hu
def bD(n lo hi:Int):Bool:=decide (lo<=n)&&decide (n<=hi)
def bX(n x k c:Int)(r:List Int):Int:=
 if bD n 1 99=false then -1
 else if(bD x 0 31&&r.all λy=>bD y 0 31)=false then -5
 else if¬r.Nodup then -6
 else if 6<r.length then -4
 else if bD k 0 5=false then -2
 else if bD c 0 96=false then -3
 else 0
def K4:V->Bool
 | .int y=>bD y 0 31
 |_=>false
theorem ints_get{r:List Int}{i:Nat}{x:V}(h:(r.map V.int)[i]? =some x):∃y:Int,r[i]? =some y/\x=V.int y:=by rw[cq]at h;obtain⟨n,hn,e⟩:=dU.mp h;exact⟨n,hn,e.symm⟩
def Jf(A:Ad):Sp:=λvs H Q _=>∃(p:aa)(n x k c:Int)(r:List Int),vs=[.ref p]/\e_ A H p n x k c r/\r.length<=40/\∀H':Hp,ag H H'->Q (.int (bX n x k c r)) H'
theorem No(F:aO K "cell_refusal" "cell_refusal" CN f fd)(T:Txt A K mg)(G:Gf P w K mg Yx 1 "is_name" ["number"] yN):aI P w K mg Yx aN 2 f fd ["cell"] (Jf A):=by
 exists ["cell","name"]
 .obtain⟨p,n,x,k,c,r,rfl,hR,YG,q⟩:=h;refine⟨_,ap (bp (dO (va io io (bg T.aiQ) (aD (pv 0) rfl) (bg T.aiM))) (au (aF (bg T.aiW))) br) (ap (bp (PW.pt (Al (dO (cg (bL G hr (af (aD (pv 0) rfl) ak)))) (z7 (dO (cg (cE (Wg rfl) rfl T.all boot_all (af (jF (own:=[("name",1)]) rfl nd (vL (aD (pv 0) rfl)) (gA (by rfl)) (λ_ _ _ _ _=>pN 1 nd) (λ_ _ _ _ _=>ja) (λ_ _ _ _ _=>bL G hr (af (pv 1) ak))) ak))))))) (au (aF (bg T.agv))) br) (ap (bp (db jG (cE Vd rfl T.len fU (af (fX (Vc rfl) rfl T.set si (af (aD (pv 0) rfl) ak)) ak)) (cE zP rfl T.len fU (af (aD (pv 0) rfl) ak)) (bZ _)) (au (aF (bg T.aiB))) br) (ap (bp (db qw (cE zP rfl T.len fU (af (aD (pv 0) rfl) ak)) (bg T.aiH) (bZ _)) (au (aF (bg T.aiz))) br) (ap (bp (dO (va io io be (aD (pv 0) rfl) (bg T.aiO))) (au (aF (bg T.aiX))) br) (ap (bp (dO (va io io be (aD (pv 0) rfl) (bg T.aiP))) (au (aF (bg T.aiY))) br) (au (aF (bg T.ab5)))))))),?_⟩
  obtain⟨dx,u,hp,hu⟩:=hR.ex
  dsimp![hp,T.YY,T.Zz,fZ]
  have hn:bD n 1 99=(decide (1<=n)&&decide (n<=99)):=rfl;by_cases c1:1<=n
  case neg=>
   rw[if_neg c1];have e:bX n x k c r= -1:=by unfold bX;rw[if_pos (by simp[bD,c1])]
   exact e▸q H (ag.refl H)
  rw[if_pos c1];by_cases c2:n<=99
  case neg=>
   rw[if_pos c2];have e:bX n x k c r= -1:=by unfold bX;rw[if_pos (by simp[bD,c2])]
   exact e▸q H (ag.refl H)
  rw[if_neg (by simpa using c2)];have ZG:¬bD n 1 99=false:=by simp[bD,c1,c2]
  dsimp![hp,T.YY,T.aaO,oe]
  refine⟨x,rfl,_,rfl,?_⟩
  dsimp![]
  by_cases c3:bD x 0 31=true
  case neg=>
   have c3':(decide (0<=x)&&decide (x<=31))=false:=by simpa[bD]using c3
   rw[if_pos c3'];have e:bX n x k c r= -5:=by unfold bX;rw[if_neg ZG,if_pos (by simp[c3])]
   exact e▸q H (ag.refl H)
  rw[if_neg (by have:=c3;unfold bD at this;simp[this])]
  dsimp![hp,T.YY,T.ς,jC]
  refine⟨⟨_,a9.of hu⟩,Ik (K:=K) (xs:=r.map V.int) (λ_=>true) (λv=> .bl (K4 v)) (a9.of hu) (by rw[aE];exact gP (by lia)) ?_ ?_⟩
  .intro i v H1 R R' hi s1 h1 h2;obtain⟨y,hy,rfl⟩:=ints_get hi
   dsimp![]
   exact⟨y,rfl,h1 rfl H1 (ag.refl H1)⟩
  .intro d H1 hd h1 s1
   dsimp![]
   have e0:(List.filter (λ_=>true) (r.map V.int)).map (λv=>V.bl (K4 v))=(r.map λy=>bD y 0 31).map V.bl:=by rw[filter_all,bH,bH];rfl
   rw[e0]at h1;refine⟨_,ay.of h1,?_⟩;have e1:(r.map λy=>bD y 0 31).all id=r.all λy=>bD y 0 31:=by rw[O0];rfl
   rw[e1];by_cases c4:(r.all λy=>bD y 0 31)=true
   case neg=>
    rw[if_pos (by simpa using c4)];have e:bX n x k c r= -5:=by unfold bX;rw[if_neg ZG,if_pos (by simp[c4])]
    exact e▸q H1 s1
   rw[if_neg (by simp[c4])];have h2:¬(bD x 0 31&&r.all λy=>bD y 0 31)=false:=by simp[c3,c4]
   have Zx:=s1 _ _ hp;have ψ:=s1 _ _ hu
   dsimp![Zx,T.YY,T.ς,jC]
   refine⟨_,a9.of ψ,by lia,λS p2 ZO=>?_⟩;have np:p≠p2:=aG Zx ZO;have nu:u≠p2:=aG ψ ZO;have s2:ag H (upd H1 p2 (.set S (iw r).length)):=s1.trans (ag.new ZO);have hp3:=s2 _ _ hp;have ε:=s2 _ _ hu
   dsimp![hp3,T.YY,T.ς,jC]
   refine⟨S,(iw r).length,rfl,_,a9.of ε,?_⟩;rw[aE];by_cases c5:r.Nodup
   case neg=>
    have c5':¬((iw r).length:Int)=(r.length:Int):=λz=>c5 ((EK r).mp (by lia));rw[if_pos c5'];have e:bX n x k c r= -6:=by unfold bX;rw[if_neg ZG,if_neg h2,if_pos c5]
    exact e▸q _ s2
   have c5':((iw r).length:Int)=(r.length:Int):=by have:=(EK r).mpr c5;lia
   rw[if_neg (not_not_intro c5')]
   dsimp![hp3,T.YY,T.ς,jC]
   refine⟨_,a9.of ε,?_⟩;rw[aE];have fin:∀z:Int,bX n x k c r=z->Q (.int z) (upd H1 p2 (.set S (iw r).length)):=λz e=>e▸q _ s2;have h3:¬¬r.Nodup:=not_not_intro c5;by_cases c6:6<(r.length:Int)
   case pos=>rw[if_pos c6];exact fin _ (by unfold bX;rw[if_neg ZG,if_neg h2,if_neg h3,if_pos (by lia)])
   rw[if_neg c6]
   dsimp![hp3,T.YY,T.abn,og]
   have h4:¬6<r.length:=by lia
   have hk:bD k 0 5=(decide (0<=k)&&decide (k<=5)):=rfl;have hc:bD c 0 96=(decide (0<=c)&&decide (c<=96)):=rfl;by_cases c7:0<=k
   case neg=>rw[if_neg c7];exact fin _ (by unfold bX;rw[if_neg ZG,if_neg h2,if_neg h3,if_neg h4,if_pos (by simp[hk,c7])])
   rw[if_pos c7];by_cases c8:k<=5
   case neg=>rw[if_pos c8];exact fin _ (by unfold bX;rw[if_neg ZG,if_neg h2,if_neg h3,if_neg h4,if_pos (by simp[hk,c8])])
   rw[if_neg (not_not_intro c8)]
   dsimp![hp3,T.YY,T.ad1,vK]
   have h5:¬bD k 0 5=false:=by simp[hk,c7,c8]
   by_cases c9:0<=c
   case neg=>rw[if_neg c9];exact fin _ (by unfold bX;rw[if_neg ZG,if_neg h2,if_neg h3,if_neg h4,if_neg h5,if_pos (by simp[hc,c9])])
   rw[if_pos c9];by_cases ZH:c<=96
   case neg=>rw[if_pos ZH];exact fin _ (by unfold bX;rw[if_neg ZG,if_neg h2,if_neg h3,if_neg h4,if_neg h5,if_pos (by simp[hc,ZH])])
   rw[if_neg (not_not_intro ZH)];exact fin _ (by unfold bX;rw[if_neg ZG,if_neg h2,if_neg h3,if_neg h4,if_neg h5,if_neg (by simp[hc,c9,ZH])])
end
end
section
def b5(s:ao)(n:Int):Bool:=(hZ s n).isSome
theorem G_(s:ao)(n:Nat):b5 s (n:Int)=decide (n∈s.cells.map λc=>c.number):=by
 have e:hZ s (n:Int)=b_ s n:=by unfold hZ;rw[if_neg (by lia),c_]
 unfold b5;rw[e,fh,sC,decide_eq_true_eq]
theorem i9{s:ao}{n:Int}:b5 s n=true↔∃c∈s.cells,(c.number:Int)=n:=by
 unfold b5 hZ;by_cases h:n<0
 .rw[if_pos h];constructor
  .intro q;cases q
  .rintro⟨c,_,e⟩;lia
 .rw[if_neg h,sC,aK];constructor
  .rintro⟨c,hc,e⟩;exact⟨c,hc,by lia⟩
  .rintro⟨c,hc,e⟩;exact⟨c,hc,by lia⟩
section
variable{A:Ad}{H H':Hp}{d:aa}{YE:List (az×aa)}{s:ao}
theorem IE{s:ao}(w:Wf s){n:Int}(h:b5 s n=true):g0 (.drop n.toNat):=by
 obtain⟨c,hc,e⟩:=i9.mp h;have:=(w.cell c hc).n1;have:=(w.cell c hc).n2;show 1<=n.toNat/\n.toNat<=99
 lia
theorem rR{x:az×aa}:∀{YE:List (az×aa)},(YE.map λx=>x.1.number).Nodup->x∈YE->bf (YE.map dt) (.inl (x.1.number:Int))=some (.ref x.2)
 |a::YE,nd,h=>by
  rw[bb,fT]at nd;rw[bb];rcases aV.mp h with e|h
  .subst e;exact gn rfl
  .have ne:¬(dt a).1= .inl (x.1.number:Int):=λq=>by
    have q':(a.1.number:Int)=(x.1.number:Int):=gz q;have q2:a.1.number=x.1.number:=by lia
    exact nd.1 (by rw[q2];exact aK.mpr ⟨x,h,rfl⟩)
   rw[gp ne];exact rR nd.2 h
theorem zo{n:Int}{v:V}:∀{YE:List (az×aa)},bf (YE.map dt) (.inl n)=some v->∃x∈YE,(x.1.number:Int)=n/\v= .ref x.2
 |[],h=>by cases h
 |a::YE,h=>by
  rw[bb]at h;by_cases e:(dt a).1= .inl n
  .rw[gn e]at h;cases h;exact⟨a,bA,gz e,rfl⟩
  .rw[gp e]at h;obtain⟨x,hx,h1,h2⟩:=zo h;exact⟨x,bq _ hx,h1,h2⟩
theorem eW.has(g:eW A H d YE s)(n:Int):(bf (YE.map dt) (.inl n)).isSome=b5 s n:=by
 rw[fh,i9];constructor
 .intro h;cases e:bf (YE.map dt) (.inl n)with
  |none=>rw[e]at h;cases h
  |some v=>obtain⟨x,hx,h1,_⟩:=zo e;exact⟨x.1,(g.mem _).mp (aK.mpr ⟨x,hx,rfl⟩),h1⟩
 .rintro⟨c,hc,rfl⟩;obtain⟨x,hx,rfl⟩:=aK.mp ((g.mem c).mpr hc);rw[rR g.nd hx];rfl
theorem eW.get(g:eW A H d YE s){c:az}(hc:c∈s.cells):∃a,bf (YE.map dt) (.inl (c.number:Int))=some (.ref a)/\cK A H a c:=by obtain⟨x,hx,rfl⟩:=aK.mp ((g.mem c).mpr hc);exact⟨x.2,rR g.nd hx,g.cell x hx⟩
theorem eW.fst_nd(g:eW A H d YE s):(YE.map (·.1)).Nodup:=by have:=g.nd;rw[i5,ff]at this ⊢;exact this.imp λh q=>h (by rw[q])
theorem eW.perm(g:eW A H d YE s)(w:Wf s):(YE.map (·.1)).Perm s.cells:=by
 have Z6:s.cells.Nodup:=by have:=w.nd;rw[i5,ff]at this;exact this.imp λh q=>h (by rw[q])
 exact(mH g.fst_nd Z6).mpr g.mem
theorem eW.len(g:eW A H d YE s)(w:Wf s):(YE.map dt).length=s.cells.length:=by have:=(g.perm w).length_eq;rw[aE]at this ⊢;exact this
theorem eW.keys(g:eW A H d YE s)(w:Wf s):(YE.map dt).map (·.1)=(YE.map λx=>(x.1.number:Int)).map bQ/\(YE.map λx=>(x.1.number:Int)).Perm (s.cells.map λc=>(c.number:Int)):=by refine⟨by rw[bH,bH];rfl,?_⟩;have:=(g.perm w).map λc:az=>(c.number:Int);rw[bH]at this;exact this
theorem yT(Yy:List (aJ×V))(k:aJ)(v:V):cM Yy k v=if(bf Yy k).isSome=true then Yy.map (λkv=>if kv.1=k then(kv.1,v)else kv)else Yy++[(k,v)]:=by unfold cM;rw[nP]
theorem eW.put(g:eW A H d YE s)(w:Wf s){c:az}{ca:aa}(YW:cK A H' ca c)(hH:H' d=some (.dK (cM (YE.map dt) (.inl (c.number:Int)) (.ref ca))))(hk:∀x∈YE,cK A H' x.2 x.1)
  (s':ao)(hs:s'.cells=iW c s.cells):∃afw,eW A H' d afw s':=by
 by_cases hh:b5 s c.number=true
 .refine⟨YE.map λx=>if x.1.number=c.number then(c,ca)else x,?_,?_,λc'=>?_,λx hx=>?_⟩
  .rw[hH,yT,g.has,if_pos hh,bH,bH];congr 2;refine fS λx _=>?_;show(if(dt x).1=(.inl (c.number:Int):aJ)then((dt x).1,V.ref ca)else dt x)=dt (if x.1.number=c.number then(c,ca)else x);by_cases e:x.1.number=c.number
   .rw[if_pos e,if_pos (by show(bQ (x.1.number:Int):aJ)=_;rw[e])];show((bQ (x.1.number:Int):aJ),V.ref ca)=(bQ (c.number:Int),V.ref ca);rw[e]
   .rw[if_neg e,if_neg (λq=>e (by have q':(x.1.number:Int)=(c.number:Int):=gz q;lia))]
  .have e:(YE.map λx=>if x.1.number=c.number then(c,ca)else x).map (λx=>x.1.number)=YE.map λx=>x.1.number:=by
    rw[bH];refine fS λx _=>?_;show(if x.1.number=c.number then(c,ca)else x).1.number=x.1.number;split
    .rename_i h;exact h.symm
    .rfl
   rw[e];exact g.nd
  .rw[hs,nB w.Α,bH,aK];constructor
   .rintro⟨x,hx,rfl⟩;show(if x.1.number=c.number then(c,ca)else x).1=c\/_;by_cases e:x.1.number=c.number
    .rw[if_pos e];exact .inl rfl
    .exact .inr ⟨by show(if x.1.number=c.number then(c,ca)else x).1∈s.cells;rw[if_neg e];exact(g.mem _).mp (aK.mpr ⟨x,hx,rfl⟩),by show(if x.1.number=c.number then(c,ca)else x).1.number≠c.number;rw[if_neg e];exact e⟩
   .rintro(rfl|⟨h1,h2⟩)
    .obtain⟨y,hy,e⟩:=i9.mp hh;obtain⟨x,hx,rfl⟩:=aK.mp ((g.mem y).mpr hy);exact⟨x,hx,by show(if x.1.number=c'.number then(c',ca)else x).1=c';rw[if_pos (by lia)]⟩
    .obtain⟨x,hx,rfl⟩:=aK.mp ((g.mem c').mpr h1);exact⟨x,hx,by show(if x.1.number=c.number then(c,ca)else x).1=x.1;rw[if_neg h2]⟩
  .obtain⟨y,hy,rfl⟩:=aK.mp hx;split
   .exact YW
   .exact hk y hy
 .have hn:∀c'∈s.cells,c'.number≠c.number:=λc' Z2 e=>hh (i9.mpr ⟨c',Z2,by lia⟩);refine⟨YE++[(c,ca)],?_,?_,λc'=>?_,λx hx=>?_⟩
  .rw[hH,yT,g.has,if_neg hh,bV];rfl
  .rw[bV,hJ];refine⟨g.nd,by simp,λa ha b hb=>?_⟩;have hb:b=c.number:=by simpa using hb
   obtain⟨x,hx,rfl⟩:=aK.mp ha;rw[hb];exact hn x.1 ((g.mem _).mp (aK.mpr ⟨x,hx,rfl⟩))
  .rw[hs,nB w.Α,bV,bT,g.mem];constructor
   .rintro(h|h)
    .exact .inr ⟨h,hn c' h⟩
    .exact .inl (by simpa using h)
   .rintro(rfl|⟨h,_⟩)
    .exact .inr (by simp)
    .exact .inl h
  .rcases bT.mp hx with h|h
   .exact hk x h
   .have:x=(c,ca):=by simpa using h
    rw[this];exact YW
theorem eW.drop(g:eW A H d YE s){n:Nat}(hH:H' d=some (.dK (jc (YE.map dt) (.inl (n:Int)))))(hk:∀x∈YE,cK A H' x.2 x.1)
  (s':ao)(hs:s'.cells=s.cells.filter λc=>c.number !=n):∃afw,eW A H' d afw s':=by
 refine⟨YE.filter λx=>x.1.number !=n,?_,?_,λc=>?_,λx hx=>hk x (bM.mp hx).1⟩
 .rw[hH];unfold jc;rw[mX];congr 3;refine mR λx _=>?_;show decide ((bQ (x.1.number:Int):aJ)≠bQ (n:Int))=(x.1.number !=n);by_cases e:x.1.number=n
  .simp[e]
  .have:¬(bQ (x.1.number:Int):aJ)=bQ (n:Int):=λq=>e (by have:=gz q;lia);simp[e,this]
 .have:=g.nd;rw[i5,ff]at this ⊢;exact this.filter _
 .rw[hs,bM,aK];constructor
  .rintro⟨x,hx,rfl⟩;obtain⟨h1,h2⟩:=bM.mp hx;exact⟨(g.mem _).mp (aK.mpr ⟨x,h1,rfl⟩),h2⟩
  .rintro⟨h1,h2⟩;obtain⟨x,hx,rfl⟩:=aK.mp ((g.mem c).mpr h1);exact⟨x,bM.mpr ⟨hx,h2⟩,rfl⟩
end
theorem e_.keep{A:Ad}{H H':Hp}{a:aa}{n x k c:Int}{r:List Int}{M:List aa}(h:e_ A H a n x k c r)(s:Kp H H' M)
  (hM:∀b∈M,∀o,H b=some o->(∀C dx n x k c t,o≠ .ins C dx (iM n x k c t))/\∀xs,o≠ .tup xs):e_ A H' a n x k c r:=by
 obtain⟨dx,t,h1,h2⟩:=h.ex;exact⟨dx,t,s _ _ h1 λq=>(hM _ q _ h1).1 _ _ _ _ _ _ _ rfl,s _ _ h2 λq=>(hM _ q _ h2).2 _ rfl⟩
def Wr(o:HO):Prop:=(∃xs,o= .lst xs)\/(∃Yy,o= .dK Yy)\/(∃C dx d s,o= .ins C dx (ip d s))\/(∃C dx e p m,o= .ins C dx (d_ e p m))\/(∃C dx l i,o= .ins C dx (f9 l i))
theorem Wr.noraw{o:HO}(h:Wr o):(∀C dx n x k c t,o≠ .ins C dx (iM n x k c t))/\∀xs,o≠ .tup xs:=by
 rcases h with⟨xs,rfl⟩|⟨Yy,rfl⟩|⟨C,dx,d,s,rfl⟩|⟨C,dx,e,p,m,rfl⟩|⟨C,dx,l,i,rfl⟩
 .exact⟨λ_ _ _ _ _ _ _ q=>(by cases q),λ_ q=>(by cases q)⟩
 .exact⟨λ_ _ _ _ _ _ _ q=>(by cases q),λ_ q=>(by cases q)⟩
 .refine⟨λC' dx' n x k c t q=>?_,λ_ q=>(by cases q)⟩;injection q with _ _ q;have:=congrArg fV q;simp[ip,iM]at this
 .refine⟨λC' dx' n x k c t q=>?_,λ_ q=>(by cases q)⟩;injection q with _ _ q;have:=congrArg fV q;simp[d_,iM]at this
 .refine⟨λC' dx' n x k c t q=>?_,λ_ q=>(by cases q)⟩;injection q with _ _ q;have:=congrArg fV q;simp[f9,iM]at this
theorem cK.keep{A:Ad}{H H':Hp}{a:aa}{c:az}{M:List aa}(h:cK A H a c)(s:Kp H H' M)(hM:∀b∈M,∀o,H b=some o->Wr o):cK A H' a c:=e_.keep h s λb hb o e=>(hM b hb o e).noraw
theorem Wr.noedit{o:HO}(h:Wr o):(∀C dx a,o≠ .ins C dx (ot a))/\(∀C dx n,o≠ .ins C dx (om n))/\(∀C dx n,o≠ .ins C dx (oa n)):=by
 rcases h with⟨xs,rfl⟩|⟨Yy,rfl⟩|⟨C,dx,d,s,rfl⟩|⟨C,dx,e,p,m,rfl⟩|⟨C,dx,l,i,rfl⟩
 .exact⟨λ_ _ _ q=>(by cases q),λ_ _ _ q=>(by cases q),λ_ _ _ q=>(by cases q)⟩
 .exact⟨λ_ _ _ q=>(by cases q),λ_ _ _ q=>(by cases q),λ_ _ _ q=>(by cases q)⟩
 all_goals
  refine⟨λ_ _ _ q=>?_,λ_ _ _ q=>?_,λ_ _ _ q=>?_⟩<;>
  .injection q with _ _ q;have:=congrArg fV q;simp[ip,d_,f9,ot,om,oa]at this
theorem eJ.keep{A:Ad}{H H':Hp}{a:aa}{e:ej}{M:List aa}(h:eJ A H a e)(s:Kp H H' M)(hM:∀b∈M,∀o,H b=some o->Wr o):eJ A H' a e:=by
 cases e with
 |put c=>obtain⟨dx,ca,h1,h2⟩:=h;exact⟨dx,ca,s _ _ h1 λq=>(hM _ q _ h1).noedit.1 _ _ _ rfl,h2.keep s hM⟩
 |drop n=>obtain⟨dx,h1⟩:=h;exact⟨dx,s _ _ h1 λq=>(hM _ q _ h1).noedit.2.1 _ _ _ rfl⟩
 |seed x=>obtain⟨dx,h1⟩:=h;exact⟨dx,s _ _ h1 λq=>(hM _ q _ h1).noedit.2.2 _ _ _ rfl⟩
theorem cQ.wr{A:Ad}{H:Hp}{nb dx d:aa}{s:ao}(g:cQ A H nb dx d s):∀b∈[nb,d],∀o,H b=some o->Wr o:=by
 intro b hb o e;obtain⟨YE,hc⟩:=g.cs;rcases aV.mp hb with rfl|hb
 .rw[g.nb]at e;cases e;exact .inr (.inr (.inl ⟨_,_,_,_,rfl⟩))
 .rw[bY.mp hb,hc.d]at e;cases e;exact .inr (.inl ⟨_,rfl⟩)
end
section
section
def yM(A:Ad):Sp:=λvs H Q _=>∃p dx:aa,vs=[.ref p]/\H p=some (.ins A.Nb dx [])/\∀(H':Hp)(d:aa),cQ A H' p dx d {}->Kp H H' [p]->H d=none->Q .non H'
theorem QG(F:aO K "__init__" "Notebook.__init__" Cw f fd)(T:Txt A K mg):aI P w K mg Yx aN 1 f fd ["self"] (yM A):=by
 exists ["self"]
 .obtain⟨p,dx,rfl,hp,q⟩:=h;refine⟨_,ap (df (pv 0) jY rfl) (au (df (pv 0) be rfl)),?_⟩
  dsimp![]
  intro d hd;have nd:p≠d:=aG hp hd
  dsimp![aj nd,hp,T.Zq,T.Β,T.abm]
  refine q _ d ⟨by rw[am];rfl,[],by rw[aj (aX nd),am];rfl,mZ,λc=>by simp,λx hx=>by cases hx⟩ (λb o e hb=>?_) hd;have hb:b≠p:=by simpa using hb
  rw[aj hb,aj (aG e hd)];exact e
def nI(A:Ad):Sp:=λvs H Q _=>∃(nb dx d:aa)(n:Int)(s:ao),vs=[.ref nb,.int n]/\cQ A H nb dx d s/\Q (.bl (b5 s n)) H
theorem RA(F:aO K "has_cell" "Notebook.has_cell" Bv f fd)(T:Txt A K mg):aI P w K mg Yx aN 1 f fd ["self","number"] (nI A):=by
 exists ["self","number"]
 .obtain⟨nb,dx,d,n,s,rfl,g,q⟩:=h;obtain⟨YE,hc⟩:=g.cs;refine⟨_,au (aF (Jq (Aa (b8 hr) (pv 1) (aD (pv 0) rfl)) (by with_unfolding_all rfl))),?_⟩
  dsimp![g.nb,T.Zq,T.Β,ij,eD hc.d,hc.has]
  exact q
def zY(A:Ad):Sp:=λvs H Q _=>∃(nb dx d:aa)(n:Int)(s:ao),vs=[.ref nb,.int n]/\cQ A H nb dx d s/\Wf s/\Q (.bl (b5 s n||decide (s.cells.length<12))) H
theorem QF(F:aO K "has_room_for" "Notebook.has_room_for" A8 f fd)(T:Txt A K mg):aI P w K mg Yx aN 1 f fd ["self","number"] (zY A):=by
 exists ["self","number"]
 .obtain⟨nb,dx,d,n,s,rfl,g,ws,q⟩:=h;obtain⟨YE,hc⟩:=g.cs;refine⟨_,au (aF (vZ (Jq (Aa (b8 hr) (pv 1) (aD (pv 0) rfl)) (by with_unfolding_all rfl)) (qg (ii Kh (cE zQ rfl T.len fU (af (aD (pv 0) rfl) ak)) (bg T.aiJ) (bZ _))))),?_⟩
  dsimp![g.nb,T.Zq,T.Β,ij,eD hc.d,hc.has,hc.d,hc.len ws]
  by_cases h:b5 s n=true
  .rw[if_pos h];rw[h]at q;exact q
  .rw[if_neg h];have h':b5 s n=false:=by simpa using h
   rw[h']at q;have e:decide ((s.cells.length:Int)<12)=decide (s.cells.length<12):=by
    by_cases z:s.cells.length<12
    .simp[z];lia
    .simp[z];lia
   rw[e];exact q
def Fm(A:Ad):Sp:=λvs H Q _=>∃(nb dx d:aa)(s:ao),vs=[.ref nb]/\cQ A H nb dx d s/\Wf s/\
 ∀(H':Hp)(l:aa)(as:List aa),H' l=some (.lst (as.map V.ref))->aY (cK A H') as s.cells->ag H H'->H l=none->Q (.ref l) H'
def mv(YE:List (az×aa))(v:V):V:=match v with
 | .int n=>(bf (YE.map dt) (.inl n)).getD .non
 |_=> .non
theorem SR(F:aO K "in_order" "Notebook.in_order" Bu f fd)(T:Txt A K mg):aI P w K mg Yx aN 1 f fd ["self"] (Fm A):=by
 exists ["self","number"]
 .obtain⟨nb,dx,d,s,rfl,g,ws,q⟩:=h;obtain⟨YE,hc⟩:=g.cs;refine⟨_,au (aF (jF (own:=[("number",1)]) rfl nd (dY (cE (yh rfl) rfl T.sorted uE (af (aD (pv 0) rfl) ak))) (gA (by rfl)) (λ_ _ _ _ _=>pN 1 nd) (λ_ _ _ _ _=>ja) (λ_ _ _ _ _=>by exact fm (b8 hr) (v0 K (pv 0)) (pv 1) (λ_ _=>rfl)))),?_⟩
  obtain⟨hk1,ZC⟩:=hc.keys ws
  dsimp![g.nb,T.Zq,T.Β,ij]
  refine⟨_,.inl hc.d,_,hk1,?_,λYM p Zx ZO hp=>?_⟩
  .rw[ZC.length_eq,aE];have:=ws.YI
   lia
  have en:YM=s.cells.map λc=>(c.number:Int):=by refine rM ZO ?_ (Zx.trans ZC);have:=ws.Α;rw[ff]at this ⊢;exact this.imp λh=>by lia
  subst en;have s0:=ag.new (o:=HO.lst ((s.cells.map λc=>(c.number:Int)).map V.int)) hp;refine⟨⟨_,ay.of am⟩,jA (K:=K) (xs:=(s.cells.map λc=>(c.number:Int)).map V.int) (λ_=>true) (mv YE) (ay.of am) ?_ ?_ ?_⟩
  .rw[aE,aE];exact gP (by have:=ws.YI;lia)
  .intro i v H1 R R' hi s1 h1 h2;rw[cq,cq]at hi;obtain⟨y,hy,rfl⟩:=dU.mp hi;obtain⟨c,ZF,rfl⟩:=dU.mp hy;obtain⟨a,Zo,Z3⟩:=hc.get (cU ZF);have g1:=(g.same s0).same s1;have d1:=s1 _ _ (s0 _ _ hc.d)
   dsimp![g1.nb,T.Zq,T.Β,ij,eD d1,Zo]
   have e:mv YE (.int (c.number:Int))= .ref a:=by show(bf (YE.map dt) (.inl (c.number:Int))).getD .non= .ref a;rw[Zo];rfl
   exact e▸h1 rfl H1 (ag.refl H1)
  .intro dl H1 hd h1 s1;have hh:∀l:List az,(∀c∈l,c∈s.cells)->∃as:List aa,((l.map λc=>(c.number:Int)).map V.int).map (mv YE)=as.map V.ref/\aY (cK A H1) as l:=by
    intro l;induction l with
    |nil=>intro _;exact⟨[],rfl,.nil⟩
    |cons c l ih=>
     intro hl;obtain⟨as,e1,e2⟩:=ih λc hc=>hl c (bq _ hc);obtain⟨a,Zo,Z3⟩:=hc.get (hl c bA);refine⟨a::as,?_,.cons ((Z3.same s0).same s1) e2⟩;rw[bb,bb,bb,bb,e1];have e:mv YE (.int (c.number:Int))= .ref a:=by show(bf (YE.map dt) (.inl (c.number:Int))).getD .non= .ref a;rw[Zo];rfl
     rw[e]
   obtain⟨as,e1,e2⟩:=hh s.cells λc hc=>hc;rw[filter_all,e1]at h1;exact q H1 dl as h1 e2 (s0.trans s1) (s0.free hd)
def qB(A:Ad)(ok:ej->Prop):Sp:=λvs H Q _=>∃(e nb dx d:aa)(ed:ej)(s:ao),vs=[.ref e,.ref nb]/\eJ A H e ed/\ok ed/\cQ A H nb dx d s/\Wf s/\g0 ed/\
 ∀H':Hp,cQ A H' nb dx d (fj s ed)->Kp H H' [nb,d]->Q .non H'
def oy:ej->Prop
 | .put _=>True
 |_=>False
def oj:ej->Prop
 | .drop _=>True
 |_=>False
def oh:ej->Prop
 | .seed _=>True
 |_=>False
theorem Ry(F:aO K "do_on" "PutEdit.do_on" Cv f fd)(T:Txt A K mg)(G:Gm P w K mg Yx 1 A.Nb "has_room_for" ["self","number"] (zY A)):aI P w K mg Yx aN 2 f fd ["self","notebook"] (qB A oy):=by
 exists ["self","notebook"]
 .obtain⟨e,nb,dx,d,ed,s,rfl,he,hp,g,ws,YB,q⟩:=h;cases ed with
  |drop n=>exact hp.elim
  |seed x=>exact hp.elim
  |put c=>
   obtain⟨Zj,ca,ZQ,he2⟩:=he;obtain⟨YE,hc⟩:=g.cs;obtain⟨dc,tc,YW,ZK⟩:=he2.ex;refine⟨_,au (bp (cg (bw G hr (pv 1) (af (aD (aD (pv 0) rfl) rfl) ak))) (au (j9 (b8 hr) (aD (pv 1) rfl) (aD (aD (pv 0) rfl) rfl) (aD (pv 0) rfl) rfl)) br),?_⟩
   simp_all![ZQ,g.nb,YW,T.cPu,T.acY,T.YY,T.Zz,T.Zq,T.Β,vw,fZ,ij]
   refine⟨by rfl,nb,dx,d,(c.number:Int),s,rfl,g,ws,?_⟩
   simp_all![ZQ,g.nb,YW,T.cPu,T.acY,T.YY,T.Zz,T.Zq,T.Β,vw,fZ,ij,jB hc.d]
   have cond:(b5 s (c.number:Int)||decide (s.cells.length<12))=true↔(c.number∈s.cells.map (λc=>c.number)\/s.cells.length<12):=by rw[q_,G_,decide_eq_true_eq,decide_eq_true_eq]
   by_cases h:(b5 s (c.number:Int)||decide (s.cells.length<12))=true
   .rw[if_pos h];have hq:=cond.mp h;obtain⟨p1,p2⟩:=Fu hq;have nd1:nb≠d:=bx g.nb hc.d (by intro z;cases z);have kp:Kp H (upd H d (.dK (cM (YE.map dt) (.inl (c.number:Int)) (.ref ca)))) [nb,d]:=Kp.upd (by simp);refine⟨BH (uv (hc.len ws)) (by have:=ws.YI;rw[bC];lia),q _ ⟨?_,hc.put ws (he2.keep kp g.wr) am (λx hx=>(hc.cell x hx).keep kp g.wr) _ p1⟩ kp⟩;rw[aj nd1,g.nb,p2]
   .rw[if_neg h];have e:=SJ (λz=>h (cond.mpr z));refine q H ?_ (Kp.refl H _);rw[e];exact g
theorem QN(F:aO K "do_on" "DropEdit.do_on" Cc f fd)(T:Txt A K mg)(G:Gm P w K mg Yx 1 A.Nb "has_cell" ["self","number"] (nI A)):aI P w K mg Yx aN 2 f fd ["self","notebook"] (qB A oj):=by
 exists ["self","notebook"]
 .obtain⟨e,nb,dx,d,ed,s,rfl,he,hp,g,ws,YB,q⟩:=h;cases ed with
  |put c=>exact hp.elim
  |seed x=>exact hp.elim
  |drop n=>
   obtain⟨Zj,ZQ⟩:=he;obtain⟨YE,hc⟩:=g.cs;refine⟨_,au (bp (cg (bw G hr (pv 1) (af (aD (pv 0) rfl) ak))) (au (cX (Gv (aD (pv 1) rfl) (aD (pv 0) rfl) ⟨rfl,rfl,rfl,rfl⟩))) br),?_⟩
   simp_all![ZQ,g.nb,T.cDr,T.ad0,T.Zq,T.Β,vg,ij]
   refine⟨by rfl,nb,dx,d,(n:Int),s,rfl,g,?_⟩
   simp_all![ZQ,g.nb,T.cDr,T.ad0,T.Zq,T.Β,vg,ij,sQ hc.d,hc.d]
   have nd1:nb≠d:=bx g.nb hc.d (by intro z;cases z);by_cases h:b5 s (n:Int)=true
   .rw[if_pos h];obtain⟨c,hc1,hc2⟩:=i9.mp h;obtain⟨a,Zo,Z3⟩:=hc.get hc1;rw[hc2]at Zo;have kp:Kp H (upd H d (.dK (jc (YE.map dt) (.inl (n:Int))))) [nb,d]:=Kp.upd (by simp);refine⟨.inl (n:Int),rfl,⟨_,Zo⟩,q _ ⟨?_,hc.drop am (λx hx=>(hc.cell x hx).keep kp g.wr) _ rfl⟩ kp⟩;rw[aj nd1,g.nb];rfl
   .rw[if_neg h];refine q H ?_ (Kp.refl H _);have e:fj s (.drop n)=s:=by
     show({s with cells:=s.cells.filter λc=>c.number !=n}:ao)=s;have:(s.cells.filter λc=>c.number !=n)=s.cells:=oW.mpr λc Z2=>by have:c.number≠n:=λz=>h (i9.mpr ⟨c,Z2,by lia⟩);simpa using this
     rw[this]
    rw[e];exact g
theorem Qw(F:aO K "do_on" "SeedEdit.do_on" B_ f fd)(T:Txt A K mg):aI P w K mg Yx aN 2 f fd ["self","notebook"] (qB A oh):=by
 exists ["self","notebook"]
 .obtain⟨e,nb,dx,d,ed,s,rfl,he,hp,g,ws,YB,q⟩:=h;cases ed with
  |put c=>exact hp.elim
  |drop n=>exact hp.elim
  |seed x=>
   obtain⟨Zj,ZQ⟩:=he;obtain⟨YE,hc⟩:=g.cs;refine⟨_,au (df (pv 1) (aD (pv 0) rfl) rfl),?_⟩
   dsimp![ZQ,g.nb,T.cSe,T.afC,T.Zq,T.abm,Gc]
   have nd1:d≠nb:=bx hc.d g.nb (by intro z;cases z);have kp:Kp H (upd H nb (.ins A.Nb dx (bE "seed" (.int x) (ip d s.seed)))) [nb,d]:=Kp.upd (by simp);refine⟨by show 2<1000;decide,q _ ⟨by rw[am];rfl,YE,by rw[aj nd1];exact hc.d,hc.nd,hc.mem,λx hx=>(hc.cell x hx).keep kp g.wr⟩ kp⟩
end
end
section
theorem JN(xs:List V)(k:Nat):k_ xs none (some (k:Int))=xs.take k:=by
 unfold k_;rw[HT.Sw,HT.zw,List.drop_zero,OY];by_cases h:k<=xs.length
 .rw[o9 h]
 .rw[Nat.min_eq_right (by lia),dz,qM (by lia)]
theorem vS(xs:List V)(i j:Nat)(h:i<=j)(hj:j<=xs.length):k_ xs (some (i:Int)) (some (j:Int))=(xs.drop i).take (j-i):=by unfold k_;rw[HT.zw,HT.zw,o9 hj,o9 (by lia)]
theorem xT{α β:Type}{F:α->β->Prop}{l:List α}{r:List β}{a:α}{b:β}(h:aY F l r)(k:F a b):aY F (l++[a]) (r++[b]):=by
 induction h with
 |nil=>exact .cons k .nil
 |cons h1 _ ih=>exact .cons h1 ih
theorem uR:∀(k:Nat)(l:List Nat),l.Nodup->(∀n∈l,n<k)->l.length<=k
 |0,l,_,h=>by
  cases l with
  |nil=>exact aT _
  |cons a l=>exact absurd (h a bA) (xl _)
 |k+1,l,nd,h=>by
  have ih:=uR k (l.erase k) (nd.erase k) λn hn=>by
   have h1:=h n (LZ hn);have h2:n≠k:=λe=>by rw[e]at hn;exact absurd hn (by rw[nd.mem_erase_iff];simp)
   lia
  by_cases hk:k∈l
  .rw[oU hk]at ih
   lia
  .rw[L6 hk]at ih
   lia
theorem D9{α β:Type}{F:α->β->Prop}{l:List α}{r:List β}(h:aY F l r):∀p:Nat,aY F (l.take p) (r.take p):=by
 induction h with
 |nil=>intro p;simp only[List.take_nil];exact .nil
 |cons k _ ih=>
  intro p;cases p with
  |zero=>exact .nil
  |succ p=>exact .cons k (ih p)
theorem U2{ms:List (Nat×Nat)}{i:Nat}{k:aJ}{v:V}(h:(ms.map cu)[i]? =some (k,v)):∃y,ms[i]? =some y/\k= .inl (y.1:Int)/\v= .int (y.2:Int):=by rw[cq]at h;obtain⟨y,hy,e⟩:=dU.mp h;cases e;exact⟨y,hy,rfl,rfl⟩
theorem Fe{ms:List (Nat×Nat)}{n:Nat}(h:n∉ms.map λy=>y.1):bf (ms.map cu) (.inl (n:Int))=none:=by
 cases e:bf (ms.map cu) (.inl (n:Int))with
 |none=>rfl
 |some v=>have:=sk e;rw[bH]at this;obtain⟨y,hy,q⟩:=aK.mp this;have q':(y.1:Int)=(n:Int):=gz q;exact absurd (aK.mpr ⟨y,hy,by lia⟩) h
end
section
def eP(cs:List az)(x:Nat):List Nat:=(cs.filter λc=>c.name==x).map λc=>c.number
theorem vd(cs:List az)(c:az)(x:Nat):eP (cs++[c]) x=if c.name=x then eP cs x++[c.number]else eP cs x:=by
 unfold eP;rw[mP,bV];by_cases h:c.name=x
 .rw[if_pos h];simp[h]
 .rw[if_neg h];simp[h]
structure fD(H:Hp)(d:aa)(cs:List az):Prop where
 ex:∃Yy,H d=some (.dK Yy)/\Yy.length<=1000/\∀x:Nat,(eP cs x=[]/\bf Yy (.inl (x:Int))=none)\/∃a,bf Yy (.inl (x:Int))=some (.ref a)/\H a=some (.lst (vN (eP cs x)))/\eP cs x≠[]
theorem fD.same{H H':Hp}{d:aa}{cs:List az}(h:fD H d cs)(k:ag H H'):fD H' d cs:=by
 obtain⟨Yy,h1,h2,h3⟩:=h.ex;refine⟨Yy,k _ _ h1,h2,λx=>?_⟩;rcases h3 x with z|⟨a,e1,e2,e3⟩
 .exact .inl z
 .exact .inr ⟨a,e1,k _ _ e2,e3⟩
def lj(y:Nat×aa):aJ×V:=(.inl (y.1:Int),.ref y.2)
theorem uN{x:Nat×aa}:∀{nm:List (Nat×aa)},(nm.map λy=>y.1).Nodup->x∈nm->bf (nm.map lj) (.inl (x.1:Int))=some (.ref x.2)
 |a::nm,nd,h=>by
  rw[bb,fT]at nd;rw[bb];rcases aV.mp h with e|h
  .subst e;exact gn rfl
  .have ne:¬(lj a).1= .inl (x.1:Int):=λq=>by
    have q':(a.1:Int)=(x.1:Int):=gz q;have q2:a.1=x.1:=by lia
    exact nd.1 (by rw[q2];exact aK.mpr ⟨x,h,rfl⟩)
   rw[gp ne];exact uN nd.2 h
theorem Fd{x:Nat}{nm:List (Nat×aa)}(h:x∉nm.map λy=>y.1):bf (nm.map lj) (.inl (x:Int))=none:=by
 cases e:bf (nm.map lj) (.inl (x:Int))with
 |none=>rfl
 |some v=>have:=sk e;rw[bH]at this;obtain⟨y,hy,q⟩:=aK.mp this;have q':(y.1:Int)=(x:Int):=gz q;exact absurd (aK.mpr ⟨y,hy,by lia⟩) h
structure jJ(H0 H:Hp)(d:aa)(nm:List (Nat×aa))(cs:List az):Prop where
 same:ag H0 H
 dd:H d=some (.dK (nm.map lj))
 hd:H0 d=none
 nn:(nm.map λy=>y.1).Nodup
 na:(nm.map λy=>y.2).Nodup
 fr:∀y∈nm,H0 y.2=none
 at_:∀y∈nm,H y.2=some (.lst (vN (eP cs y.1)))/\eP cs y.1≠[]
 no:∀x,x∉(nm.map λy=>y.1)->eP cs x=[]
 len:nm.length<=cs.length
theorem Uo{nm:List (Nat×aa)}(h:(nm.map λy=>y.2).Nodup){y z:Nat×aa}(hy:y∈nm)(hz:z∈nm)(e:y.2=z.2):y=z:=by
 induction nm with
 |nil=>cases hy
 |cons a l ih=>
  rw[bb,fT]at h;rcases aV.mp hy with e1|h1<;>rcases aV.mp hz with e2|h2
  .rw[e1,e2]
  .exact absurd (show a.2∈l.map (λy=>y.2)from aK.mpr ⟨z,h2,by rw[<-e,e1]⟩) h.1
  .exact absurd (show a.2∈l.map (λy=>y.2)from aK.mpr ⟨y,h1,by rw[e,e2]⟩) h.1
  .exact ih h.2 h1 h2
theorem U9{nm:List (Nat×aa)}(h:(nm.map λy=>y.1).Nodup){y z:Nat×aa}(hy:y∈nm)(hz:z∈nm)(e:y.1=z.1):y=z:=by
 induction nm with
 |nil=>cases hy
 |cons a l ih=>
  rw[bb,fT]at h;rcases aV.mp hy with e1|h1<;>rcases aV.mp hz with e2|h2
  .rw[e1,e2]
  .exact absurd (show a.1∈l.map (λy=>y.1)from aK.mpr ⟨z,h2,by rw[<-e,e1]⟩) h.1
  .exact absurd (show a.1∈l.map (λy=>y.1)from aK.mpr ⟨y,h1,by rw[e,e2]⟩) h.1
  .exact ih h.2 h1 h2
theorem lR(l:List Nat)(n:Nat):vN (l++[n])=vN l++[V.int (n:Int)]:=by unfold vN;rw[bV];rfl
theorem jJ.there{H0 H H':Hp}{d:aa}{nm:List (Nat×aa)}{cs:List az}(I:jJ H0 H d nm cs){c:az}{y:Nat×aa}(hy:y∈nm)(e:y.1=c.name)(k:Kp H H' [y.2])(hn:H' y.2=some (.lst (vN (eP cs c.name++[c.number])))):jJ H0 H' d nm (cs++[c]):=by
 have nd:d≠y.2:=bx I.dd (I.at_ y hy).1 (by intro z;cases z);refine⟨λb o q=>k b o (I.same b o q) (by simpa using aG q (I.fr y hy)),k _ _ I.dd (by simpa using nd),I.hd,I.nn,I.na,I.fr,λz hz=>?_,λx hx=>?_,by rw[bG];have:=I.len;lia⟩
 .rw[vd];by_cases q:c.name=z.1
  .have ez:z=y:=U9 I.nn hz hy (by rw[e,q]);subst ez;rw[if_pos q];rw[q]at hn;exact⟨hn,by simp⟩
  .rw[if_neg q];have nz:z.2≠y.2:=λq2=>q (by rw[Uo I.na hz hy q2,e]);exact⟨k _ _ (I.at_ z hz).1 (by simpa using nz),(I.at_ z hz).2⟩
 .rw[vd,if_neg (λq=>hx (by rw[<-q,<-e];exact aK.mpr ⟨y,hy,rfl⟩))];exact I.no x hx
theorem jJ.new{H0 H H':Hp}{d p:aa}{nm:List (Nat×aa)}{cs:List az}(I:jJ H0 H d nm cs){c:az}(hx:c.name∉nm.map λy=>y.1)(hp:H p=none)(k:Kp H H' [d])(hd:H' d=some (.dK ((nm++[(c.name,p)]).map lj)))(hn:H' p=some (.lst (vN [c.number]))):jJ H0 H' d (nm++[(c.name,p)]) (cs++[c]):=by
 have hp0:=I.same.free hp;have np:∀y∈nm,y.2≠p:=λy hy=>aG (I.at_ y hy).1 hp;refine⟨λb o q=>k b o (I.same b o q) (by simpa using aG q I.hd),hd,I.hd,?_,?_,λy hy=>?_,λz hz=>?_,λx hx2=>?_,by rw[bG,bG];have:=I.len;simp;lia⟩
 .rw[bV,hJ];refine⟨I.nn,by simp,λa ha b hb q=>hx ?_⟩;have hb:b=c.name:=by simpa using hb
  rw[<-hb,<-q];exact ha
 .rw[bV,hJ];refine⟨I.na,by simp,λa ha b hb q=>?_⟩;have hb:b=p:=by simpa using hb
  obtain⟨y,hy,e⟩:=aK.mp ha;exact np y hy (by rw[e,q,hb])
 .rcases bT.mp hy with h|h
  .exact I.fr y h
  .have:y=(c.name,p):=by simpa using h
   rw[this];exact hp0
 .rw[vd];rcases bT.mp hz with h|h
  .have ne:¬c.name=z.1:=λq=>hx (by rw[q];exact aK.mpr ⟨z,h,rfl⟩);rw[if_neg ne];have nd:z.2≠d:=bx (I.at_ z h).1 I.dd (by intro q;cases q);exact⟨k _ _ (I.at_ z h).1 (by simpa using nd),(I.at_ z h).2⟩
  .have:z=(c.name,p):=by simpa using h
   subst this;rw[if_pos rfl,I.no _ hx];exact⟨hn,by simp⟩
 .rw[bV,bT,not_or]at hx2;have:¬c.name=x:=λq=>hx2.2 (by simp[q]);rw[vd,if_neg this];exact I.no x hx2.1
theorem jJ.fin{H0 H:Hp}{d:aa}{nm:List (Nat×aa)}{cs:List az}(I:jJ H0 H d nm cs)(hl:cs.length<=12):fD H d cs:=by
 refine⟨_,I.dd,by rw[aE];have:=I.len;lia,λx=>?_⟩;by_cases h:x∈nm.map λy=>y.1
 .obtain⟨y,hy,rfl⟩:=aK.mp h;exact .inr ⟨y.2,uN I.nn hy,(I.at_ y hy).1,(I.at_ y hy).2⟩
 .exact .inl ⟨I.no x h,Fd h⟩
theorem Vp{K:aA}{H:Hp}{a:aa}{Yy:List (aJ×V)}(h:H a=some (.dK Yy)):lg K "dict" (.ref a) H=True:=eq_true (.inr (.inr (.inl ⟨rfl,.inl ⟨_,h⟩⟩)))
theorem Qo{x:V}{xs:List V}{H:Hp}{Q:VK}:HU x xs H Q=∃(a:aa)(Yy:List (aJ×V))(n:Int)(v:V),x= .ref a/\xs=[.int n,v]/\H a=some (.dK Yy)/\Yy.length<aU/\
 (∀y,bf Yy (.inl n)=some y->Q y H)/\(bf Yy (.inl n)=none->Q v (upd H a (.dK (cM Yy (.inl n) v)))):=rfl
section
structure iy(A:Ad)(H:Hp)(l:aa)(cs:List az):Prop where
 ex:∃as:List aa,H l=some (.lst (as.map V.ref))/\aY (cK A H) as cs
theorem iy.same{H H':Hp}{l:aa}{cs:List az}(h:iy A H l cs)(k:ag H H'):iy A H' l cs:=by obtain⟨as,h1,h2⟩:=h.ex;exact⟨as,k _ _ h1,aY.mapP h2 λa c q=>q.same k⟩
def F'(A:Ad):Sp:=λvs H Q _=>∃(l:aa)(cs:List az),vs=[.ref l]/\iy A H l cs/\cs.length<=12/\∀(H':Hp)(d:aa),fD H' d cs->ag H H'->Q (.ref d) H'
theorem OD(F:aO K "makers_in" "makers_in" Ee f fd)(T:Txt A K mg):aI P w K mg Yx aN 1 f fd ["cells"] (F' A):=by
 exists ["cells","makers","cell"]
 .obtain⟨l,cs,rfl,ξ,YG,q⟩:=h;obtain⟨as,h1,h2⟩:=ξ.ex;refine⟨_,ap (pS 1 nd jY) (ap (fH dG rfl (dY (pv 0)) (pN 2 nd) (au (cX (eY fe jp jo i6 (eY A_ Lg PySem.F.type_dict_setdefault RI (pv 1) (af (aD (pv 2) rfl) (af (bI ak) ak))) (af (aD (pv 2) rfl) ak))))) (au (aF (pv 1)))),?_⟩
  dsimp![]
  intro d hd;have s0:=ag.new (o:=HO.dK []) hd;refine⟨⟨_,ay.of (s0 _ _ h1)⟩,ie (K:=K) (xs:=as.map V.ref) (λi σ H2=>(∃v:Option V,σ=[some (.ref l),some (.ref d),v])/\∃nm,jJ H H2 d nm (cs.take i)) ?_ (λi σ H2 _⟨_,nm,I⟩=>ay.of (I.same _ _ h1)) ?_ ?_⟩
  .exact⟨⟨none,rfl⟩,[],s0,am,hd,mZ,mZ,λy hy=>(by cases hy),λy hy=>(by cases hy),λx _=>rfl,dJ _⟩
  .rintro i x σ H2 hi ⟨⟨v,rfl⟩,nm,I⟩;rw[cq]at hi;obtain⟨a,ha,rfl⟩:=dU.mp hi;obtain⟨c,hc,hC⟩:=h_ h2 ha;obtain⟨dc,tc,YW,ZK⟩:=(hC.same I.same).ex;have e1:cs.take (i+1)=cs.take i++[c]:=by rw[dA,hc];rfl
   have hz:(nm.map lj).length<aU:=by
    rw[aE,bC];have:=I.len;rw[cO]at this
    lia
   dsimp![Vp I.dd,YW,T.YY,T.aaO,T.Zz,oe,fZ]
   refine⟨by decide,λp hp=>?_⟩;have sp:=ag.new (o:=HO.lst []) hp;have d2:=sp _ _ I.dd
   dsimp![Qo]
   refine⟨_,d2,hz,λy hy=>?_,λhn=>?_⟩
   .--the name is there
    by_cases hx:c.name∈nm.map λy=>y.1
    .obtain⟨z,hz1,χ⟩:=aK.mp hx;rw[<-χ,uN I.nn hz1]at hy;cases hy;have hl:=sp _ _ (I.at_ z hz1).1;have acJ:=sp _ _ YW
     dsimp![dZ hl,hl,acJ,T.YY,T.Zz,fZ]
     refine⟨?_,nm,?_⟩
     .rw[bW,bC];have h5:(eP (cs.take i) z.1).length<=(cs.take i).length:=by unfold eP;rw[aE];exact gg _ _
      rw[cO]at h5
      lia
     .rw[e1];refine jJ.there (H:=upd H2 p (.lst [])) ⟨I.same.trans sp,d2,I.hd,I.nn,I.na,I.fr,λy hy=>⟨sp _ _ (I.at_ y hy).1,(I.at_ y hy).2⟩,I.no,I.len⟩ hz1 χ (Kp.upd (by simp)) ?_;rw[am,lR,χ]
    .rw[Fd hx]at hy;cases hy
   .--the name is new
    have hx:c.name∉nm.map λy=>y.1:=λhx=>by obtain⟨z,hz1,χ⟩:=aK.mp hx;rw[<-χ,uN I.nn hz1]at hn;cases hn
    have nd:p≠d:=λz=>by rw[z,I.dd]at hp;cases hp
    have hl:upd (upd H2 p (.lst [])) d (.dK (cM (nm.map lj) (.inl (c.name:Int)) (.ref p))) p=some (.lst []):=by rw[aj nd,am]
    have acJ:upd (upd H2 p (.lst [])) d (.dK (cM (nm.map lj) (.inl (c.name:Int)) (.ref p))) a=some (.ins A.Cl dc (iM c.number c.name c.kind c.const tc)):=by rw[aj (bx YW I.dd (by intro z;cases z))];exact sp _ _ YW
    dsimp![dZ hl,hl,acJ,T.YY,T.Zz,fZ]
    refine⟨by decide,nm++[(c.name,p)],?_⟩;rw[e1];refine jJ.new (p:=p) I hx hp (λb o q hb=>?_) ?_ ?_
    .have hb:b≠d:=by simpa using hb
     rw[aj (aG q hp),aj hb,aj (aG q hp)];exact q
    .rw[aj (aX nd),am,nT _ hn,bV];rfl
    .rw[am];rfl
  .rintro σ H2 ⟨⟨v,rfl⟩,nm,I⟩
   dsimp![]
   have e2:(as.map V.ref).length=cs.length:=by rw[aE];exact dH h2
   rw[e2,dz]at I;exact q H2 d (I.fin YG) I.same
end
end
section
def Kx(cs:List az)(c:az):List Nat:=c.reads.filterMap λx=>one (eP cs x)
theorem Um(s:ao)(c:az):Kx s.cells c=src s c:=rfl
theorem Jx(s:ao)(x:Nat):eP s.cells x=mk s x:=rfl
theorem iq(l:List Nat):(iN l).map V.int=vN l:=by unfold iN vN;rw[bH];rfl
theorem uH{x:V}{vs:List V}{H:Hp}{Q:VK}:zy x vs H Q=∃l b xs zs,x= .ref l/\vs=[.ref b]/\H l=some (.lst xs)/\H b=some (.lst zs)/\xs.length+zs.length<=aU/\Q .non (upd H l (.lst (xs++zs))):=rfl
theorem Ux{x:V}{vs:List V}{H:Hp}{Q:VK}:KC x vs H Q=∃l xs y,x= .ref l/\vs=[]/\H l=some (.lst xs)/\xs[xs.length-1]? =some y/\Q y (upd H l (.lst xs.dropLast)):=rfl
def Kc(K:aA):List V->Hp->VK->Prop:=λvs H Q=>∃p ys,vs=[.ref p]/\(ay K H p ys\/a9 K H p ys)/\Q (.int ys.length) H
theorem IL{X:Cx}:dh X (.builtin "len") (Kc X.K):=λYw s σ H xs us Q I r⟨p,ys,e,h1,h2⟩=>xK Yw s σ H xs us Q I r ⟨p,ys,e,h1,h2⟩
theorem Go{K:aA}{vs:List V}{H:Hp}{Q:VK}:Kc K vs H Q=∃p ys,vs=[.ref p]/\(ay K H p ys\/a9 K H p ys)/\Q (.int ys.length) H:=rfl
theorem ic{α:Type}[DecidableEq α]:∀(l r:List α),l.Nodup->(∀n∈l,n∈r)->l.length<=r.length
 |[],r,_,_=>dJ _
 |a::l,r,nd,h=>by
  rw[fT]at nd;have ha:=h a bA;have ih:=ic l (r.erase a) nd.2 λn hn=>by have:n≠a:=λe=>nd.1 (e▸hn);exact(Bn this).mpr (h n (bq _ hn))
  rw[oU ha]at ih;have:=tO ha;simp only[cC]
  lia
section
def Fj(A:Ad):Sp:=λvs H Q _=>∃(a d:aa)(c:az)(cs:List az),vs=[.ref a,.ref d]/\cK A H a c/\c.reads.length<=6/\fD H d cs/\∀(H':Hp)(l:aa),H' l=some (.lst (vN (Kx cs c)))->ag H H'->H l=none->Q (.ref l) H'
theorem N_(F:aO K "sources_of" "sources_of" DI f fd)(T:Txt A K mg):aI P w K mg Yx aN 1 f fd ["cell","makers"] (Fj A):=by
 exists ["cell","makers","sources","name","making"]
 .obtain⟨a,d,c,cs,rfl,hC,hl6,hM,q⟩:=h;obtain⟨dc,tc,YW,ZK⟩:=hC.ex;rw[iq]at ZK;refine⟨_,ap (pS 2 nd (bI ak)) (ap (fH dG rfl (vL (aD (pv 0) rfl)) (pN 3 nd) (ap (pS 4 nd (yU (b8 hr) (pv 1) (pv 3) (qf ak) ⟨rfl,rfl,rfl,rfl⟩)) (au (bp (db g8 (cE IL rfl T.len fU (af (pv 4) ak)) be (bZ _)) (au (cX (eY fe jp jo i6 (pv 2) (af (cH eG (pv 4) be (λ_ _=>rfl)) ak)))) br)))) (au (aF (pv 2)))),?_⟩
  simp_all![]
  refine⟨by decide,λl hl=>?_⟩;have s0:=ag.new (o:=HO.lst []) hl
  simp_all![s0 _ _ YW,T.YY,T.ς,jC]
  refine⟨⟨_,a9.of (s0 _ _ ZK)⟩,GK (K:=K) (xs:=vN c.reads) (λi σ H2=>(∃v3 v4:Option V,σ=[some (.ref a),some (.ref d),some (.ref l),v3,v4])/\H2 l=some (.lst (vN ((c.reads.take i).filterMap λx=>one (eP cs x))))/\ag H H2) ?_ (λi σ H2 _ z=>a9.of (z.2.2 _ _ ZK)) ?_ ?_⟩
  .exact⟨⟨none,none,rfl⟩,by rw[am];rfl,s0⟩
  .rintro i x σ H2 hi ⟨⟨v3,v4,rfl⟩,h2,s2⟩;obtain⟨nx,hnx,rfl⟩:=gZ hi;obtain⟨Yy,k1,k2,k3⟩:=(hM.same s2).ex;have e1:c.reads.take (i+1)=c.reads.take i++[nx]:=by rw[dA,hnx];rfl
   simp_all![sQ k1]
   refine⟨by decide,λp hp=>?_⟩;have sp:=ag.new (o:=HO.tup []) hp;have Ο:=sp _ _ k1;have h2':=sp _ _ h2
   simp_all![eD Ο,Go]
   have YG:(vN ((c.reads.take i).filterMap λx=>one (eP cs x))).length<aU:=by
    rw[bW,bC];have:=wE (λx=>one (eP cs x)) (c.reads.take i);rw[cO]at this
    lia
   rcases k3 nx with⟨z1,z2⟩|⟨ml,z1,z2,z3⟩
   .rw[z2];refine⟨p,rfl,_,.inr (a9.of am),?_⟩;rw[if_neg (by decide)];refine⟨?_,s2.trans sp⟩;rw[h2',e1,lv];have:one (eP cs nx)=none:=by rw[z1];rfl
    simp[this]
   .rw[z1];have z2':=sp _ _ z2;refine⟨ml,rfl,_,.inl (ay.of z2'),?_⟩;rw[bW];by_cases c1:((eP cs nx).length:Int)=1
    .rw[if_pos c1];have c2:(eP cs nx).length=1:=by lia
     obtain⟨m,em⟩:=LP.mp c2;have o1:one (eP cs nx)=some m:=by rw[em];rfl
     simp_all![dZ h2',h2']
     refine⟨_,rfl,_,ay.of z2',.int (m:Int),by rw[em];rfl,YG,?_,λb o e=>?_⟩
     .rw[e1,lv,<-lR];simp[o1]
     .rw[aj (aG e hl)];exact sp _ _ (s2 _ _ e)
    .rw[if_neg c1];refine⟨?_,s2.trans sp⟩;rw[h2',e1,lv];have:one (eP cs nx)=none:=by
      cases e:one (eP cs nx)with
      |none=>rfl
      |some m=>rw[yW]at e;rw[e]at c1;exact absurd rfl c1
     simp[this]
  .rintro σ H2 ⟨⟨v3,v4,rfl⟩,h2,s2⟩
   simp_all![]
   rw[bW,dz]at h2;exact q H2 l h2 s2 hl
structure sR(H:Hp)(so:aa)(s:ao):Prop where
 ex:∃Yy,H so=some (.dK Yy)/\∀c∈s.cells,∃a,bf Yy (.inl (c.number:Int))=some (.ref a)/\H a=some (.lst (vN (src s c)))
theorem sR.same{H H':Hp}{so:aa}{s:ao}(h:sR H so s)(k:ag H H'):sR H' so s:=by obtain⟨Yy,h1,h2⟩:=h.ex;exact⟨Yy,k _ _ h1,λc hc=>let⟨a,e1,e2⟩:=h2 c hc;⟨a,e1,k _ _ e2⟩⟩
def dq(n:Nat):aJ×V:=(.inl (n:Int),.bl true)
theorem Aw(found:List Nat)(n:Nat):(bf (found.map dq) (.inl (n:Int))).isSome=decide (n∈found):=by
 induction found with
 |nil=>rfl
 |cons a l ih=>
  rw[bb];by_cases e:a=n
  .subst e;rw[gn (show(dq a).1=bQ (a:Int)from rfl)];simp
  .have:¬(dq a).1= .inl (n:Int):=λq=>e (by have:=gz q;lia);rw[gp this,ih];have e':¬n=a:=λq=>e q.symm;simp[e']
structure iP(H:Hp)(d:aa)(s:ao)(n:Nat):Prop where
 ex:∃found:List Nat,H d=some (.dK (found.map dq))/\found.Nodup/\found.length<=12/\∀m,m∈found↔m∈bU s n
theorem iP.same{H H':Hp}{d:aa}{s:ao}{n:Nat}(h:iP H d s n)(k:ag H H'):iP H' d s n:=by obtain⟨fo,h1,h2⟩:=h.ex;exact⟨fo,k _ _ h1,h2⟩
structure jR(s:ao)(c:az)(found bc:List Nat):Prop where
 nd:found.Nodup
 up:∀x,x∈found\/x∈bc->Up (b9 s) c.number x
 st:∀y∈src s c,y∈found\/y∈bc
 cl:∀x∈found,∀y∈f_ (b9 s) x,y∈found\/y∈bc
theorem jR.len{s:ao}(w:Wf s){c:az}{found bc:List Nat}(D:jR s c found bc):found.length<=12:=by
 have h1:=ic found (s.cells.map λc=>c.number) D.nd λn hn=>by have:=(D.up n (.inl hn)).node (oO w);rw[nq]at this;exact this
 rw[aE]at h1;have:=w.YI
 lia
theorem vp{s:ao}(c:az)(h:c.reads.length<=6):(src s c).length<=6:=cV (wE _ _) h
theorem jR.old{s:ao}{c:az}{found bc:List Nat}{u:Nat}(D:jR s c found (bc++[u]))(h:u∈found):jR s c found bc:=by
 have key:∀y,y∈found\/y∈bc++[u]->y∈found\/y∈bc:=λy hy=>by
  rcases hy with q|q
  .exact .inl q
  .rcases bT.mp q with q|q
   .exact .inr q
   .rw[bY.mp q];exact .inl h
 exact⟨D.nd,λx hx=>D.up x (hx.imp id λq=>lw _ q),λy hy=>key y (D.st y hy),λx hx y hy=>key y (D.cl x hx y hy)⟩
theorem jR.new{s:ao}(w:Wf s){c:az}{found bc:List Nat}{u:Nat}(D:jR s c found (bc++[u]))(h:u∉found){e:az}(he:e∈s.cells)(eu:e.number=u):jR s c (found++[u]) (bc++src s e):=by
 have hu:=D.up u (.inr (iB _ (bY.mpr rfl)));have key:∀y,y∈found\/y∈bc++[u]->y∈found++[u]\/y∈bc++src s e:=λy hy=>by
  rcases hy with q|q
  .exact .inl (lw _ q)
  .rcases bT.mp q with q|q
   .exact .inr (lw _ q)
   .exact .inl (iB _ q)
 have hs:∀y,y∈src s e↔y∈f_ (b9 s) u:=λy=>by rw[<-eu];exact(pq w he).symm
 refine⟨?_,λx hx=>?_,λy hy=>key y (D.st y hy),λx hx y hy=>?_⟩
 .rw[hJ];exact⟨D.nd,by simp,λa ha b hb q=>h (by rw[<-bY.mp hb,<-q];exact ha)⟩
 .rcases hx with q|q
  .rcases bT.mp q with q|q
   .exact D.up x (.inl q)
   .rw[bY.mp q];exact hu
  .rcases bT.mp q with q|q
   .exact D.up x (.inr (lw _ q))
   .exact .more hu ((hs x).mp q)
 .rcases bT.mp hx with q|q
  .exact key y (D.cl x q y hy)
  .rw[bY.mp q]at hy;exact .inr (iB _ ((hs y).mpr hy))
theorem jR.fin{s:ao}(w:Wf s){c:az}(hc:c∈s.cells){found:List Nat}(D:jR s c found [])(m:Nat):m∈found↔m∈bU s c.number:=by
 rw[iJ w];constructor
 .intro h;exact D.up m (.inl h)
 .intro h;induction h with
  |one e=>exact(D.st _ ((pq w hc).mp e)).resolve_right (by simp)
  |more _ e ih=>exact(D.cl _ ih _ e).resolve_right (by simp)
def HQ:Sp:=λvs H Q _=>∃(so:aa)(c:az)(s:ao),vs=[.int (c.number:Int),.ref so]/\sR H so s/\Wf s/\c∈s.cells/\∀(H':Hp)(d:aa),iP H' d s c.number->ag H H'->H d=none->Q (.ref d) H'
theorem EL{K:aA}{i:Nat}{σ:L2.St}{H:Hp}{Q Q':Bool->Hp->Prop}(h:∀b H1,Q b H1->Q' b H1):(mr i σ H λx H'=>∃k,wm K x H' k/\Q k H')->mr i σ H λx H'=>∃k,wm K x H' k/\Q' k H':=by rintro⟨v,e,k,t,q⟩;exact⟨v,e,k,t,h _ _ q⟩
structure W7(s:ao)(c:az)(H:Hp)(so ZU wl:aa)(σ:L2.St)(H2:Hp):Prop where
 ex:∃(found bc:List Nat)(v:Option V),σ=[some (.int (c.number:Int)),some (.ref so),some (.ref ZU),some (.ref wl),v]/\H2 ZU=some (.dK (found.map dq))/\H2 wl=some (.lst (vN bc))/\ag H H2/\jR s c found bc/\bc.length<=7*found.length+6
def AZ(ZU wl:aa)(H2:Hp):Nat:=match H2 ZU,H2 wl with
 |some (.dK Yy),some (.lst xs)=>7*(12-Yy.length)+xs.length
 |_,_=>0
theorem Ah{ZU wl:aa}{H2:Hp}{found bc:List Nat}(h1:H2 ZU=some (.dK (found.map dq)))(h2:H2 wl=some (.lst (vN bc))):AZ ZU wl H2=7*(12-found.length)+bc.length:=by unfold AZ;rw[h1,h2];simp only[aE,bW]
theorem MX(F:aO K "numbers_above" "numbers_above" Cq f fd)(T:Txt A K mg):aI P w K mg Yx aN 1 f fd ["number","sources"] HQ:=by
 exists ["number","sources","found","waiting","upper"]
 .obtain⟨so,c,s,rfl,hS,ws,hc,q⟩:=h;obtain⟨Yy,k1,k2⟩:=hS.ex;refine⟨_,ap (pS 2 nd jY) (ap (pS 3 nd (fX Hm rfl T.list nN (af (fm (b8 hr) (pv 1) (pv 0) (λ_ _=>rfl)) ak))) (ap (pO dG (Gr (pv 3) (λ_=>rfl)) (ap (pS 4 nd (VP fe PySem.F.slot_list_pop PySem.F.type_list_pop VT (pv 3))) (au (bp (qe (Fy (b8 hr) (pv 4) (pv 2)) (by with_unfolding_all rfl)) (ap (j9 (b8 hr) (pv 2) (pv 4) Wz rfl) (au (cX (eY fe kC lu rS (pv 3) (af (fm (b8 hr) (pv 1) (pv 4) (λ_ _=>rfl)) ak))))) br)))) (au (aF (pv 2))))),?_⟩
  simp_all![]
  intro ZU hfd;have s0:=ag.new (o:=HO.dK []) hfd;obtain⟨a,Zo,Z3⟩:=k2 c hc
  simp_all![eD (s0 _ _ k1),Zo]
  refine⟨_,ay.of (s0 _ _ Z3),λwl Ε=>?_⟩;have s1:=ag.new (o:=HO.lst (vN (src s c))) Ε;have adr:H wl=none:=s0.free Ε;have nfw:ZU≠wl:=aG am Ε;refine FX (W7 s c H so ZU wl) (λ_ H2=>AZ ZU wl H2) ?_ ?_ (λσ H Q Q' h=>EL h)
  .refine⟨[],src s c,none,rfl,?_,am,s0.trans s1,⟨mZ,λx hx=>?_,λy hy=> .inr hy,λx hx=>(by cases hx)⟩,by have:=vp (s:=s) c (ws.cell c hc).rl;simp;lia⟩
   .rw[aj nfw,am];rfl
   .rcases hx with q|q
    .cases q
    .exact .one ((pq ws hc).mpr q)
  .rintro σ H2 ⟨found,bc,v,rfl,h1,h2,s2,D,hwb⟩;rw[Ah h1 h2];have Ο:=s2 _ _ k1
   simp_all![]
   refine⟨!(vN bc).isEmpty,.inl ⟨_,ay.of h2,rfl⟩,?_⟩;rcases List.eq_nil_or_concat bc with rfl|⟨wt,u,rfl⟩
   .simp_all![vN,List.isEmpty_nil,fO]
    exact q H2 ZU ⟨found,h1,D.nd,D.len ws,D.fin ws hc⟩ s2 hfd
   .rw[Bl]at h2 D ⊢;have Y0:(!(vN (wt++[u])).isEmpty)=true:=by rw[lR];simp
    rw[Y0,if_pos rfl];have ajN:(vN (wt++[u]))[(vN (wt++[u])).length-1]? =some (.int (u:Int)):=by rw[lR];simp
    have ak5:(vN (wt++[u])).dropLast=vN wt:=by rw[lR];simp
    simp_all![dZ h2,Ux,h2,ajN,ak5]
    have ZG:upd H2 wl (.lst (vN wt)) ZU=some (.dK (found.map dq)):=by rw[aj nfw];exact h1
    have s3:ag H (upd H2 wl (.lst (vN wt))):=λb o e=>by rw[aj (aG e adr)];exact s2 _ _ e
    have hu:=D.up u (.inr (by simp));have hun:=hu.node (oO ws);rw[nq]at hun;obtain⟨e,he,eu⟩:=aK.mp hun
    simp_all![eD ZG,Aw]
    by_cases Ι:u∈found
    .simp_all![Ι,decide_true,fO]
     refine⟨⟨found,wt,some (.int (u:Int)),rfl,ZG,am,s3,D.old Ι,by rw[Bl,bG]at hwb;simp at hwb;lia⟩,?_⟩;rw[Ah ZG am,bG];simp
    .simp_all![Ι,decide_false,kK,jB ZG]
     have anS:=D.len ws;have D2:=D.new ws Ι he eu;have agS:=D2.len ws;rw[bG]at agS;have anR:found.length+1<=12:=agS;have ajo:cM (found.map dq) (.inl (u:Int)) (.bl true)=(found++[u]).map dq:=by
      rw[nT _ (by
       cases z:bf (found.map dq) (.inl (u:Int))with
       |none=>rfl
       |some v=>
        have:=Aw found u;rw[z]at this;simp[Ι]at this),bV]
      rfl
     rw[ajo];have ahh:upd (upd H2 wl (.lst (vN wt))) ZU (.dK ((found++[u]).map dq)) wl=some (.lst (vN wt)):=by rw[aj (aX nfw),am]
     have s4:ag H (upd (upd H2 wl (.lst (vN wt))) ZU (.dK ((found++[u]).map dq))):=λb o e=>by rw[aj (aG e hfd)];exact s3 _ _ e
     obtain⟨ae,ah7,akh⟩:=k2 e he;rw[eu]at ah7;have l6:=vp (s:=s) e (ws.cell e he).rl;refine⟨by rw[aE,bC];lia,?_⟩
     simp_all![dZ ahh,eD (s4 _ _ k1),ah7,uH,ahh,s4 _ _ akh]
     rw[Bl,bG]at hwb;have anE:wt.length+1<=7*found.length+6:=hwb;have e9:vN wt++vN (src s e)=vN (wt++src s e):=by unfold vN;rw[bV]
     have f1:upd (upd (upd H2 wl (.lst (vN wt))) ZU (.dK ((found++[u]).map dq))) wl (.lst (vN (wt++src s e))) ZU=some (.dK ((found++[u]).map dq)):=by rw[aj nfw,am]
     rw[e9];refine⟨by rw[bW,bW,bC];lia,⟨found++[u],wt++src s e,some (.int (u:Int)),rfl,f1,am,λb o e=>?_,D2,?_⟩,?_⟩
     .rw[aj (aG e adr)];exact s4 _ _ e
     .rw[bG,bG];simp
      lia
     .rw[Ah f1 am,bG,bG,bG];simp
      lia
end
end
section
structure dE(H:Hp)(d:aa)(cs:List az)(φ:Hp->az->aa->Prop):Prop where
 ex:∃xs:List (az×aa),xs.map (·.1)=cs/\H d=some (.dK (xs.map dt))/\∀x∈xs,x.2≠d/\φ H x.1 x.2
theorem dE.mono{H H':Hp}{d:aa}{cs:List az}{φ:Hp->az->aa->Prop}(t:dE H d cs φ)(hd:∀o,H d=some o->H' d=some o)(hφ:∀c a,φ H c a->φ H' c a):dE H' d cs φ:=by obtain⟨xs,h1,h2,h3⟩:=t.ex;exact⟨xs,h1,hd _ h2,λx hx=>⟨(h3 x hx).1,hφ _ _ (h3 x hx).2⟩⟩
theorem dE.get{H:Hp}{d:aa}{s:ao}{φ:Hp->az->aa->Prop}(t:dE H d s.cells φ)(w:Wf s):∃Yy,H d=some (.dK Yy)/\∀c∈s.cells,∃a,bf Yy (.inl (c.number:Int))=some (.ref a)/\φ H c a:=by obtain⟨xs,h1,h2,h3⟩:=t.ex;refine⟨_,h2,λc hc=>?_⟩;rw[<-h1]at hc;obtain⟨x,hx,rfl⟩:=aK.mp hc;refine⟨x.2,rR ?_ hx,(h3 x hx).2⟩;have:=w.nd;rw[<-h1,bH]at this;exact this
theorem dE.snoc{H H':Hp}{d a:aa}{cs:List az}{c:az}{φ:Hp->az->aa->Prop}{Yy:List (aJ×V)}(t:dE H d cs φ)(hk:H d=some (.dK Yy))(hn:∀c'∈cs,c'.number≠c.number)(hH:H' d=some (.dK (cM Yy (.inl (c.number:Int)) (.ref a))))(ha:a≠d)(hφ:∀c' a',a'≠d->φ H c' a'->φ H' c' a')(hc:φ H' c a):dE H' d (cs++[c]) φ:=by
 obtain⟨xs,h1,h2,h3⟩:=t.ex;rw[h2]at hk;cases hk;have nv:bf (xs.map dt) (.inl (c.number:Int))=none:=by
  cases e:bf (xs.map dt) (.inl (c.number:Int))with
  |none=>rfl
  |some v=>obtain⟨x,hx,e1,_⟩:=zo e;exact absurd (by lia) (hn x.1 (by rw[<-h1];exact aK.mpr ⟨x,hx,rfl⟩))
 refine⟨xs++[(c,a)],by rw[bV,h1];rfl,by rw[hH,nT _ nv,bV];rfl,λx hx=>?_⟩;rcases bT.mp hx with h|h
 .exact⟨(h3 x h).1,hφ _ _ (h3 x h).1 (h3 x h).2⟩
 .have:x=(c,a):=by simpa using h
  subst this;exact⟨ha,hc⟩
def oH(s:ao):Hp->az->aa->Prop:=λH c a=>H a=some (.lst (vN (src s c)))
def tm(s:ao):Hp->az->aa->Prop:=λH c a=>iP H a s c.number
def oq(m so:aa):List (Str×V):=[("makers",.ref m),("sources",.ref so)]
theorem TD{m so:aa}:(oq m so).lookup ("makers":Str)=some (.ref m):=by rfl
theorem Hz{m so:aa}:(oq m so).lookup ("sources":Str)=some (.ref so):=by rfl
def kX(m so ab:aa):List (Str×V):=[("makers",.ref m),("sources",.ref so),("above",.ref ab)]
theorem IU{m so ab:aa}:(kX m so ab).lookup ("makers":Str)=some (.ref m):=by rfl
theorem IT{m so ab:aa}:(kX m so ab).lookup ("sources":Str)=some (.ref so):=by rfl
theorem p_{m so ab:aa}:(kX m so ab).lookup ("above":Str)=some (.ref ab):=by rfl
structure gQ(A:Ad)(H:Hp)(p:aa)(s:ao):Prop where
 ex:∃dx m so ab,H p=some (.ins A.Wi dx (kX m so ab))/\fD H m s.cells/\dE H so s.cells (oH s)/\dE H ab s.cells (tm s)
theorem dE.sameS{H H':Hp}{d:aa}{cs:List az}{s:ao}(t:dE H d cs (oH s))(k:ag H H'):dE H' d cs (oH s):=t.mono (λo e=>k _ _ e) λ_ _ z=>k _ _ z
theorem dE.sameU{H H':Hp}{d:aa}{cs:List az}{s:ao}(t:dE H d cs (tm s))(k:ag H H'):dE H' d cs (tm s):=t.mono (λo e=>k _ _ e) λ_ _ z=>iP.same z k
theorem gQ.same{A:Ad}{H H':Hp}{p:aa}{s:ao}(h:gQ A H p s)(k:ag H H'):gQ A H' p s:=by obtain⟨dx,m,so,ab,h1,h2,h3,h4⟩:=h.ex;exact⟨dx,m,so,ab,k _ _ h1,h2.same k,h3.sameS k,h4.sameU k⟩
theorem dE.srcs{H:Hp}{so:aa}{s:ao}(t:dE H so s.cells (oH s))(w:Wf s):sR H so s:=by obtain⟨Yy,h1,h2⟩:=t.get w;exact⟨Yy,h1,h2⟩
theorem uo{s:ao}(w:Wf s){i:Nat}{c:az}(h:s.cells[i]? =some c):∀c'∈s.cells.take i,c'.number≠c.number:=by
 intro c' Z2 e;have nd:=w.nd;have hi:i<s.cells.length:=(gE.mp h).1;have e2:s.cells.take (i+1)=s.cells.take i++[c]:=by rw[dA,h];rfl
 rw[<-kD (i+1) s.cells,e2,bV,bV]at nd;have:=(hJ.mp (hJ.mp nd).1).2.2;exact this c'.number (aK.mpr ⟨c',Z2,rfl⟩) c.number (by simp) e
section
def F4(A:Ad):Sp:=λvs H Q _=>∃(p dx l:aa)(s:ao),vs=[.ref p,.ref l]/\H p=some (.ins A.Wi dx [])/\iy A H l s.cells/\Wf s/\∀H':Hp,gQ A H' p s->Kp H H' [p]->Q .non H'
structure W1(A:Ad)(s:ao)(H:Hp)(p dx l m so:aa)(i:Nat)(σ:L2.St)(H2:Hp):Prop where
 st:∃v:Option V,σ=[some (.ref p),some (.ref l),v]
 hp:H2 p=some (.ins A.Wi dx (oq m so))
 hm:fD H2 m s.cells
 hso:dE H2 so (s.cells.take i) (oH s)
 kp:Kp H H2 [p]
structure W2(A:Ad)(s:ao)(H:Hp)(p dx l m so ab:aa)(i:Nat)(σ:L2.St)(H2:Hp):Prop where
 st:∃v:Option V,σ=[some (.ref p),some (.ref l),v]
 hp:H2 p=some (.ins A.Wi dx (kX m so ab))
 hm:fD H2 m s.cells
 hso:dE H2 so s.cells (oH s)
 Ze:dE H2 ab (s.cells.take i) (tm s)
 kp:Kp H H2 [p]
theorem iy.kp{H H':Hp}{l p:aa}{cs:List az}{C dx:aa}{fs:List (Str×V)}(h:iy A H l cs)(hp:H p=some (.ins C dx []))(k:Kp H H' [p]):iy A H' l cs:=by
 obtain⟨as,h1,h2⟩:=h.ex;have nr:∀b∈[p],∀o,H b=some o->(∀C dx n x k c t,o≠ .ins C dx (iM n x k c t))/\∀xs,o≠ .tup xs:=λb hb o e=>by rw[bY.mp hb,hp]at e;cases e;exact⟨λ_ _ _ _ _ _ _ z=>(by cases z),λ_ z=>(by cases z)⟩
 refine⟨as,k _ _ h1 ?_,aY.mapP h2 λa c q=>e_.keep q k nr⟩;simpa using bx h1 hp (by intro z;cases z)
theorem fD.upd{H:Hp}{m d:aa}{cs:List az}{o:HO}(h:fD H m cs)(hm:d≠m)(hd:∀xs,H d≠some (.lst xs)):fD (upd H d o) m cs:=by
 obtain⟨Yy,h1,h2,h3⟩:=h.ex;refine⟨Yy,by rw[aj (aX hm)];exact h1,h2,λx=>?_⟩;rcases h3 x with z|⟨a,e1,e2,e3⟩
 .exact .inl z
 .exact .inr ⟨a,e1,by rw[aj (λz=>hd _ (z▸e2))];exact e2,e3⟩
theorem fD.is{H:Hp}{m:aa}{cs:List az}(h:fD H m cs):∃Yy,H m=some (.dK Yy):=let⟨Yy,h1,_⟩:=h.ex;⟨Yy,h1⟩
theorem dE.is{H:Hp}{d:aa}{cs:List az}{φ:Hp->az->aa->Prop}(t:dE H d cs φ):∃Yy,H d=some (.dK Yy)/\Yy.length=cs.length:=by obtain⟨xs,h1,h2,_⟩:=t.ex;exact⟨_,h2,by rw[aE,<-h1,aE]⟩
theorem Qv(F:aO K "__init__" "Wiring.__init__" Dl f fd)(T:Txt A K mg)(G1:Gf P w K mg Yx 1 "makers_in" ["cells"] (F' A))(G2:Gf P w K mg Yx 1 "sources_of" ["cell","makers"] (Fj A))(G3:Gf P w K mg Yx 1 "numbers_above" ["number","sources"] HQ):
  aI P w K mg Yx aN 2 f fd ["self","cells"] (F4 A):=by
 exists ["self","cells","cell"]
 .obtain⟨p,dx,l,s,rfl,hp,ξ,ws,q⟩:=h;refine⟨_,ap (df (pv 0) (bL G1 hr (af (pv 1) ak)) rfl) (ap (df (pv 0) jY rfl) (ap (fH dG rfl (dY (pv 1)) (pN 2 nd) (au (j9 (b8 hr) (aD (pv 0) rfl) (aD (pv 2) rfl) (bL G2 hr (af (pv 2) (af (aD (pv 0) rfl) ak))) rfl))) (ap (df (pv 0) jY rfl) (au (fH dG rfl (dY (pv 1)) (pN 2 nd) (au (j9 (b8 hr) (aD (pv 0) rfl) (aD (pv 2) rfl) (bL G3 hr (af (aD (pv 2) rfl) (af (aD (pv 0) rfl) ak))) rfl))))))),?_⟩
  dsimp![]
  refine⟨l,s.cells,rfl,ξ,ws.YI,λH1 m hm s1=>?_⟩;have p1:=s1 _ _ hp
  dsimp![p1,T.Λ,T.afB,T.abX]
  intro so hso;obtain⟨km,hkm⟩:=hm.is;have npm:p≠m:=bx p1 hkm (by intro z;cases z);have nps:p≠so:=aG am hso;have abF:H1 so=none:=by rw[aj (aX nps)]at hso;exact hso
  dsimp![aj nps,T.Λ,T.abX]
  have ef:bE "sources" (V.ref so) (bE "makers" (V.ref m) [])=oq m so:=rfl;rw[ef];generalize hH2:upd (upd (upd H1 p (.ins A.Wi dx (bE "makers" (V.ref m) []))) so (.dK [])) p (.ins A.Wi dx (oq m so))=H2;have k2:Kp H H2 [p]:=λb o e hb=>by
   have Z_:b≠p:=by simpa using hb
   rw[<-hH2,aj Z_,aj (aG (s1 _ _ e) abF),aj Z_];exact s1 _ _ e
  have p2:H2 p=some (.ins A.Wi dx (oq m so)):=by rw[<-hH2,am]
  have so2:H2 so=some (.dK []):=by rw[<-hH2,aj (aX nps),am]
  have m2:fD H2 m s.cells:=by
   rw[<-hH2];refine fD.upd (fD.upd (fD.upd hm npm (λxs z=>by rw[p1]at z;cases z)) ?_ ?_) npm ?_
   .exact λz=>by rw[z]at abF;rw[abF]at hkm;cases hkm
   .intro xs z;rw[hso]at z;cases z
   .intro xs z;rw[aj nps,am]at z;cases z
  obtain⟨as,a1,a2⟩:=(ξ.kp (fs:=[]) hp k2).ex;have abT:(as.map V.ref).length=s.cells.length:=by rw[aE];exact dH a2
  have asU:∀{H':Hp}{ZX:List aa},Kp H H' [p]->H' l=some (.lst (ZX.map V.ref))->ZX=as:=λ{H' ZX}k b1=>by
   obtain⟨as0,c1,_⟩:=ξ.ex;have nl:l∉[p]:=by simpa using bx c1 hp (by intro z;cases z)
   rw[k2 _ _ c1 nl]at a1;rw[k _ _ c1 nl]at b1;have:=gk (b1.symm.trans a1);injection this with this;exact(wS (λ_ _ z=>V.ref.inj z)).mp this
  have ajh:H so=none:=s1.free abF;have nsm:so≠m:=λz=>by rw[z]at abF;rw[abF]at hkm;cases hkm
  refine⟨⟨_,ay.of a1⟩,ie (K:=K) (xs:=as.map V.ref) (W1 A s H p dx l m so) ⟨⟨none,rfl⟩,p2,m2,⟨[],rfl,so2,λx hx=>(by cases hx)⟩,k2⟩ (λi σ H3 _ z=>?_) ?_ ?_⟩
  .obtain⟨ZX,b1,_⟩:=(ξ.kp (fs:=[]) hp z.kp).ex;rw[<-asU z.kp b1];exact ay.of b1
  .rintro i x σ H3 hi ⟨⟨v,rfl⟩,i1,i2,i3,i4⟩;rw[cq]at hi;obtain⟨a,ha,rfl⟩:=dU.mp hi;obtain⟨ZX,b1,b2⟩:=(ξ.kp (fs:=[]) hp i4).ex;have eas:ZX=as:=asU i4 b1;subst eas;obtain⟨c,hc,hC⟩:=h_ b2 ha;have e1:s.cells.take (i+1)=s.cells.take i++[c]:=by rw[dA,hc];rfl
   have Zh:c∈s.cells:=cU hc
   dsimp![i1,T.Λ,T.afB,T.abX,TD,Hz]
   refine⟨a,m,c,s.cells,rfl,hC,(ws.cell c Zh).rl,i2,λH4 ls hls s4 hln=>?_⟩;rw[Um]at hls;obtain⟨dc,tc,YW,ZK⟩:=(cK.same hC s4).ex;obtain⟨Yy,hk,Ρ⟩:=(i3.sameS s4).is;have ajq:p≠so:=bx (s4 _ _ i1) hk (by intro z;cases z);have agO:ls≠so:=bx hls hk (by intro z;cases z)
   dsimp![s4 _ _ i1,YW,T.Λ,T.abX,T.YY,T.Zz,Hz,fZ,jB hk]
   refine⟨by rw[Ρ,cO,bC];have:=ws.YI;lia,⟨some (.ref a),rfl⟩,by rw[aj ajq];exact s4 _ _ i1,?_,?_,λb o e hb=>?_⟩
   .exact(i2.same s4).upd nsm λxs z=>by rw[hk]at z;cases z
   .rw[e1];refine(i3.sameS s4).snoc hk (uo ws hc) am agO (λc' a' hn z=>?_) ?_
    .show upd H4 so _ a'=_;rw[aj hn];exact z
    .show upd H4 so _ ls=_;rw[aj agO];exact hls
   .rw[aj (aG e ajh)];exact s4 _ _ (i4 _ _ e hb)
  .rintro σ H3 ⟨⟨v,rfl⟩,i1,i2,i3,i4⟩;rw[abT,dz]at i3
   dsimp![]
   intro ab Ze;have npa:p≠ab:=aG i1 Ze;have ah8:H ab=none:=by
    cases z:H ab with
    |none=>rfl
    |some o=>
     by_cases zp:ab=p
     .exact absurd zp.symm npa
     .rw[i4 _ _ z (by simpa using zp)]at Ze;cases Ze
   dsimp![aj npa,i1,T.Λ,T.abl]
   have ef2:bE "above" (V.ref ab) (oq m so)=kX m so ab:=rfl;refine⟨by show 2<1000;decide,?_⟩;rw[ef2];generalize Z4:upd (upd H3 ab (.dK [])) p (.ins A.Wi dx (kX m so ab))=H4;have k4:Kp H H4 [p]:=λb o e hb=>by
    have Z_:b≠p:=by simpa using hb
    rw[<-Z4,aj Z_,aj (aG e ah8)];exact i4 _ _ e hb
   have kk:Kp H3 H4 [p]:=λb o e hb=>by
    have Z_:b≠p:=by simpa using hb
    rw[<-Z4,aj Z_,aj (aG e Ze)];exact e
   have p4:H4 p=some (.ins A.Wi dx (kX m so ab)):=by rw[<-Z4,am]
   have ab4:H4 ab=some (.dK []):=by rw[<-Z4,aj (aX npa),am]
   obtain⟨anw,hk3,_⟩:=i3.is;have m4:fD H4 m s.cells:=by
    rw[<-Z4];refine fD.upd (fD.upd i2 ?_ (λxs z=>by rw[Ze]at z;cases z)) npm ?_
    .intro z;obtain⟨km3,adG⟩:=i2.is;rw[z]at Ze;rw[Ze]at adG;cases adG
    .intro xs z;rw[aj npa,i1]at z;cases z
   have t4:dE H4 so s.cells (oH s):=i3.mono (λo e=>kk _ _ e (by simpa using aX nps)) λc a z=>kk _ _ z (by simpa using bx (show H3 a=_ from z) i1 (by intro z;cases z));have nas:ab≠so:=λz=>by rw[z,hk3]at Ze;cases Ze
   have nam:ab≠m:=λz=>by obtain⟨km3,adG⟩:=i2.is;rw[z,adG]at Ze;cases Ze
   obtain⟨as4,a41,a42⟩:=(ξ.kp (fs:=[]) hp k4).ex;have eas:as4=as:=asU k4 a41;subst eas;refine⟨⟨_,ay.of a41⟩,ie (K:=K) (xs:=as4.map V.ref) (W2 A s H p dx l m so ab) ⟨⟨_,rfl⟩,p4,m4,t4,⟨[],rfl,ab4,λx hx=>(by cases hx)⟩,k4⟩ (λi σ H5 _ z=>?_) ?_ ?_⟩
   .obtain⟨ZX,b1,_⟩:=(ξ.kp (fs:=[]) hp z.kp).ex;rw[<-asU z.kp b1];exact ay.of b1
   .rintro i x σ H5 hi ⟨⟨v5,rfl⟩,j1,j2,j3,j4,j5⟩;rw[cq]at hi;obtain⟨a,ha,rfl⟩:=dU.mp hi;obtain⟨ZX,b1,b2⟩:=(ξ.kp (fs:=[]) hp j5).ex;have eas:ZX=as4:=asU j5 b1;subst eas;obtain⟨c,hc,hC⟩:=h_ b2 ha;have e1:s.cells.take (i+1)=s.cells.take i++[c]:=by rw[dA,hc];rfl
    have Zh:c∈s.cells:=cU hc;obtain⟨dc5,tc5,akb,anH⟩:=hC.ex
    dsimp![j1,akb,T.Λ,T.abX,T.abl,T.YY,T.Zz,fZ,IT,p_]
    refine⟨so,c,s,rfl,j3.srcs ws,ws,Zh,λH6 ud hud s6 Zn=>?_⟩;obtain⟨dc,tc,YW,ZK⟩:=(cK.same hC s6).ex;obtain⟨Yy,hk,Ρ⟩:=(j4.sameU s6).is;have ajv:p≠ab:=npa;have agB:ud≠ab:=λz=>by obtain⟨kv5,hk5,_⟩:=j4.is;rw[z,hk5]at Zn;cases Zn
    dsimp![s6 _ _ j1,YW,T.Λ,T.abl,T.YY,T.Zz,p_,fZ,jB hk]
    refine⟨by rw[Ρ,cO,bC];have:=ws.YI;lia,⟨some (.ref a),rfl⟩,by rw[aj ajv];exact s6 _ _ j1,?_,?_,?_,λb o e hb=>?_⟩
    .exact(j2.same s6).upd nam λxs z=>by rw[hk]at z;cases z
    .refine(j3.sameS s6).mono (λo e=>by rw[aj (aX nas)];exact e) λc a z=>?_;have z':H6 a=some (.lst (vN (src s c))):=z;show upd H6 ab _ a=_;rw[aj (bx z' hk (by intro z;cases z))];exact z'
    .rw[e1];refine(j4.sameU s6).snoc hk (uo ws hc) am agB (λc' a' hn z=>?_) ?_
     .obtain⟨fo,f1,f2⟩:=(show iP H6 a' s c'.number from z).ex;exact⟨fo,by rw[aj hn];exact f1,f2⟩
     .obtain⟨fo,f1,f2⟩:=hud.ex;exact⟨fo,by rw[aj agB];exact f1,f2⟩
    .rw[aj (aG e ah8)];exact s6 _ _ (j5 _ _ e hb)
   .rintro σ H5 ⟨⟨v5,rfl⟩,j1,j2,j3,j4,j5⟩;rw[abT,dz]at j4;exact q H5 ⟨dx,m,so,ab,j1,j2,j3,j4⟩ j5
end
end
section
theorem yq{te:TE}{σ:L2.St}{H:Hp}{Q:VK}:IY te σ H Q=∃d u,H d=some u/\jQ (some u)/\∀od,te σ (upd H d (.frz od u)) λv H'=>H' d=some (.frz od u)/\Q v (upd H' d u):=rfl
theorem yx{H H':Hp}{d:aa}{od:Obj}{u:HO}(k:ag (upd H d (.frz od u)) H')(h:H d=some u):ag H (upd H' d u):=λb o e=>by
 by_cases z:b=d
 .subst z;rw[am,<-h];exact e
 .rw[aj z];exact k b o (by rw[aj z];exact e)
theorem dE.gets{H:Hp}{d:aa}{s:ao}{φ:Hp->az->aa->Prop}(t:dE H d s.cells φ)(w:Wf s):∃Yy,H d=some (.dK Yy)/\∀c∈s.cells,∃a,bf Yy (.inl (c.number:Int))=some (.ref a)/\a≠d/\φ H c a:=by obtain⟨xs,h1,h2,h3⟩:=t.ex;refine⟨_,h2,λc hc=>?_⟩;rw[<-h1]at hc;obtain⟨x,hx,rfl⟩:=aK.mp hc;refine⟨x.2,rR ?_ hx,(h3 x hx).1,(h3 x hx).2⟩;have:=w.nd;rw[<-h1,bH]at this;exact this
section
def J1(A:Ad):Sp:=λvs H Q _=>∃(p:aa)(x:Nat)(s:ao),vs=[.ref p,.int (x:Int)]/\gQ A H p s/\∀H':Hp,ag H H'->Q (.int ((mk s x).length:Int)) H'
theorem Rx(F:aO K "how_many_make" "Wiring.how_many_make" Ba f fd)(T:Txt A K mg):aI P w K mg Yx aN 1 f fd ["self","name"] (J1 A):=by
 exists ["self","name"]
 .obtain⟨p,x,s,rfl,hW,q⟩:=h;obtain⟨dx,m,so,ab,h1,h2,h3,h4⟩:=hW.ex;obtain⟨Yy,k1,k2,k3⟩:=h2.ex;refine⟨_,au (aF (cE IL rfl T.len fU (af (yU (b8 hr) (aD (pv 0) rfl) (pv 1) (qf ak) ⟨rfl,rfl,rfl,rfl⟩) ak))),?_⟩
  dsimp![h1,T.Λ,T.afB,IU,sQ k1]
  refine⟨by decide,λt ht=>?_⟩;have st:=ag.new (o:=HO.tup []) ht
  dsimp![eD (st _ _ k1),Go]
  rcases k3 x with⟨z1,z2⟩|⟨a,z1,z2,z3⟩
  .rw[z2];refine⟨t,rfl,_,.inr (a9.of am),?_⟩;have:=q _ st;rw[<-Jx,z1]at this;exact this
  .rw[z1];refine⟨a,rfl,_,.inl (ay.of (st _ _ z2)),?_⟩;rw[bW,Jx];exact q _ st
def J0(A:Ad):Sp:=λvs H Q _=>∃(a p:aa)(c:az)(s:ao),vs=[.ref a,.ref p]/\cK A H a c/\gQ A H p s/\Wf s/\c∈s.cells/\∀H':Hp,ag H H'->Q (.int (own s c:Int)) H'
def wf(s:ao):V->V
 | .int x=> .int ((mk s x.toNat).length:Int)
 |_=> .non
def ww:V->V
 | .int x=> .bl (decide (1<x))
 |_=> .non
theorem NJ(F:aO K "own_trouble" "own_trouble" Dc f fd)(T:Txt A K mg)(G:Gm P w K mg Yx 1 A.Wi "how_many_make" ["self","name"] (J1 A)):aI P w K mg Yx aN 2 f fd ["cell","wiring"] (J0 A):=by
 exists ["cell","wiring","making","name","count"]
 .obtain⟨a,p,c,s,rfl,hC,hW,ws,hc,q⟩:=h;refine⟨_,ap (bp (db qw (bw G hr (pv 1) (af (aD (pv 0) rfl) ak)) be (bZ _)) (au (aF (bg T.aiS))) br) (ap (bp (qe (Aa (b8 hr) (aD (pv 0) rfl) (fm (b8 hr) (aD (pv 1) rfl) (aD (pv 0) rfl) (λ_ _=>rfl))) (by with_unfolding_all rfl)) (au (aF (bg T.aiT))) br) (ap (pP (i:=2) (own:=[("name",3)]) rfl nd rfl rfl (pU rfl rfl rfl rfl) (vL (aD (pv 0) rfl)) (gA (by rfl)) (λ_ _ _ _ _=>pN 3 nd) (λ_ _ _ _ _=>ja) (λ_ _ _ _ _=>by exact bw G hr (pv 1) (af (pv 3) ak))) (ap (bp (db FD be (pv 2) (by with_unfolding_all rfl)) (au (aF (bg T.aiK))) br) (ap (bp (cg (cE (ql rfl) rfl T.any sj (af (jF (own:=[("count",4)]) rfl nd (dY (pv 2)) (gA (by rfl)) (λ_ _ _ _ _=>pN 4 nd) (λ_ _ _ _ _=>ja) (λ_ _ _ _ _=>by exact ii qw (pv 4) be (bZ _))) ak))) (au (aF (bg T.aix))) br) (au (aF (bg T.acn))))))),?_⟩
  obtain⟨dc,tc,YW,ZK⟩:=hC.ex;rw[iq]at ZK;obtain⟨dx,m,so,ab,h1,h2,h3,h4⟩:=hW.ex
  simp_all![h1,YW,T.YY,T.aaO,oe]
  refine⟨by rfl,p,c.name,s,rfl,hW,λH1 s1=>?_⟩
  simp_all![]
  by_cases c1:1<((mk s c.name).length:Int)
  .rw[if_pos c1];have e:own s c=2:=by unfold own;rw[if_pos (by lia)]
   have:=q H1 s1;rw[e]at this;exact this
  rw[if_neg c1];have d1:¬1<(mk s c.name).length:=by lia
  obtain⟨kva,ka1,ka2⟩:=(h4.sameU s1).gets ws;obtain⟨ud,ψ,hu2,ε⟩:=ka2 c hc;obtain⟨fo,f1,f2,f3,f4⟩:=(show iP H1 ud s c.number from ε).ex
  simp_all![s1 _ _ h1,s1 _ _ YW,T.YY,T.Zz,T.Λ,T.abl,fZ,p_,eD ka1,ψ,eD f1,Aw]
  by_cases c2:c.number∈fo
  .rw[if_pos c2];have e:own s c=3:=by unfold own;rw[if_neg d1,if_pos ((f4 _).mp c2)]
   have:=q H1 s1;rw[e]at this;exact this
  rw[if_neg c2];have d2:¬c.number∈bU s c.number:=λz=>c2 ((f4 _).mpr z)
  simp_all![T.ς,jC]
  refine⟨⟨_,a9.of (s1 _ _ ZK)⟩,Ik (K:=K) (xs:=vN c.reads) (λ_=>true) (wf s) (a9.of (s1 _ _ ZK)) (by rw[bW];exact gP (by have:=(ws.cell c hc).rl;lia)) ?_ ?_⟩
  .intro i v H2 R R' hi s2 r1 r2;obtain⟨nx,hnx,rfl⟩:=gZ hi;have hW2:=(hW.same s1).same s2;obtain⟨dx2,m2,so2,ab2,w1,_⟩:=hW2.ex
   simp_all![w1]
   exact⟨by rfl,p,nx,s,rfl,hW2,λH3 s3=>r1 rfl H3 s3⟩
  .intro ml H2 hml Y6 s2;have e0:((vN c.reads).filter λ_=>true).map (wf s)=vN (c.reads.map λx=>(mk s x).length):=by rw[filter_all];unfold vN;rw[bH,bH];refine fS λx _=>?_;show wf s (.int (x:Int))=_;unfold wf;simp
   rw[e0]at Y6;have s12:=s1.trans s2
   simp_all![]
   refine⟨_,.inl (ay.of Y6),by rfl,?_,?_⟩
   .rw[mU];intro v hv;obtain⟨n,_,rfl⟩:=aK.mp hv;rfl
   have e1:lm (.int 0) (vN (c.reads.map λx=>(mk s x).length))=decide (∃x∈c.reads,(mk s x).length=0):=by
    unfold lm vN;rw[fh,fg,decide_eq_true_eq];constructor
    .rintro⟨v,hv,e⟩;rw[bH]at hv;obtain⟨x,hx,rfl⟩:=aK.mp hv;refine⟨x,hx,?_⟩;have e:(((mk s x).length:Int)==0)=true:=e;have:=eq_of_beq e
     lia
    .rintro⟨x,hx,e⟩;refine⟨.int 0,?_,rfl⟩;rw[bH];exact aK.mpr ⟨x,hx,by show V.int ((mk s x).length:Int)=_;rw[e];rfl⟩
   rw[e1];by_cases c3:∃x∈c.reads,(mk s x).length=0
   .rw[if_pos (by simpa using c3)];have e:own s c=4:=by unfold own;rw[if_neg d1,if_neg d2,if_pos c3]
    have:=q H2 s12;rw[e]at this;exact this
   rw[if_neg (by simpa using c3)];refine⟨⟨_,ay.of Y6⟩,jA (K:=K) (xs:=vN (c.reads.map λx=>(mk s x).length)) (λ_=>true) ww (ay.of Y6) (by rw[bW,aE];exact gP (by have:=(ws.cell c hc).rl;lia)) ?_ ?_⟩
   .intro i v H3 R R' hi s3 r1 r2;obtain⟨nx,hnx,rfl⟩:=gZ hi
    simp_all![]
    exact r1 rfl H3 (ag.refl H3)
   .intro bl H3 hbl hl3 s3;have e2:((vN (c.reads.map λx=>(mk s x).length)).filter λ_=>true).map ww=(c.reads.map λx=>decide (1<(mk s x).length)).map V.bl:=by
     rw[filter_all];unfold vN;rw[bH,bH,bH];refine fS λx _=>?_;show ww (.int ((mk s x).length:Int))=_;unfold ww;congr 1;by_cases z:1<(mk s x).length
     .simp[z];lia
     .simp[z];lia
    rw[e2]at hl3
    simp_all![]
    refine⟨_,ay.of hl3,?_⟩;have e3:((c.reads.map λx=>decide (1<(mk s x).length)).any id)=decide (∃x∈c.reads,1<(mk s x).length):=by
     rw[fh,lL,fg,decide_eq_true_eq];constructor
     .rintro⟨x,hx,e⟩;exact⟨x,hx,of_decide_eq_true e⟩
     .rintro⟨x,hx,e⟩;exact⟨x,hx,decide_eq_true e⟩
    rw[e3];have ag1:=s12.trans s3;by_cases c4:∃x∈c.reads,1<(mk s x).length
    .rw[if_pos (by simpa using c4)];have e:own s c=5:=by unfold own;rw[if_neg d1,if_neg d2,if_neg c3,if_pos c4]
     have:=q H3 ag1;rw[e]at this;exact this
    .rw[if_neg (by simpa using c4)];have e:own s c=0:=by unfold own;rw[if_neg d1,if_neg d2,if_neg c3,if_neg c4]
     have:=q H3 ag1;rw[e]at this;exact this
end
end
section
def fL(g:az->Nat)(c:az):aJ×V:=(.inl (c.number:Int),.int (g c:Int))
theorem tf{g:az->Nat}{c:az}:∀{cs:List az},(cs.map λc=>c.number).Nodup->c∈cs->bf (cs.map (fL g)) (.inl (c.number:Int))=some (.int (g c:Int))
 |a::cs,nd,h=>by
  rw[bb,fT]at nd;rw[bb];rcases aV.mp h with e|h
  .subst e;exact gn rfl
  .have ne:¬(fL g a).1= .inl (c.number:Int):=λq=>by
    have q':(a.number:Int)=(c.number:Int):=gz q;have q2:a.number=c.number:=by lia
    exact nd.1 (by rw[q2];exact aK.mpr ⟨c,h,rfl⟩)
   rw[gp ne];exact tf nd.2 h
theorem Rh{g:az->Nat}{n:Nat}{cs:List az}(h:∀c∈cs,c.number≠n):bf (cs.map (fL g)) (.inl (n:Int))=none:=by
 cases e:bf (cs.map (fL g)) (.inl (n:Int))with
 |none=>rfl
 |some v=>have:=sk e;rw[bH]at this;obtain⟨y,hy,q⟩:=aK.mp this;have q':(y.number:Int)=(n:Int):=gz q;exact absurd (by lia) (h y hy)
theorem zH{g:az->Nat}{cs:List az}{i:Nat}{k:aJ}{v:V}(h:(cs.map (fL g))[i]? =some (k,v)):∃c,cs[i]? =some c/\k= .inl (c.number:Int)/\v= .int (g c:Int):=by rw[cq]at h;obtain⟨y,hy,e⟩:=dU.mp h;cases e;exact⟨y,hy,rfl,rfl⟩
theorem Io{fo:List Nat}{i:Nat}{k:aJ}{v:V}(h:(fo.map dq)[i]? =some (k,v)):∃n,fo[i]? =some n/\k= .inl (n:Int):=by rw[cq]at h;obtain⟨y,hy,e⟩:=dU.mp h;cases e;exact⟨y,hy,rfl⟩
def A0(s:ao):aJ->V
 | .inl n=> .bl (decide (ft s n.toNat≠0))
 |_=> .non
theorem UM{s:ao}(w:Wf s){c:az}(h:c∈s.cells):ft s c.number=own s c:=by unfold ft;rw[i7 w h]
section
def Ey(A:Ad):Sp:=λvs H Q _=>∃(l p:aa)(s:ao),vs=[.ref l,.ref p]/\iy A H l s.cells/\gQ A H p s/\Wf s/\∀(H':Hp)(d:aa),H' d=some (.dK (s.cells.map (fL (bF s))))->ag H H'->H d=none->Q (.ref d) H'
structure T1(s:ao)(H:Hp)(l p ow:aa)(i:Nat)(σ:L2.St)(H2:Hp):Prop where
 st:∃v:Option V,σ=[some (.ref l),some (.ref p),some (.ref ow),v,none,none,none,none]
 ow:H2 ow=some (.dK ((s.cells.take i).map (fL (own s))))
 sm:ag H H2
structure T2(s:ao)(H:Hp)(l p ow tr:aa)(od:Obj)(v3:Option V)(i:Nat)(σ:L2.St)(H2:Hp):Prop where
 st:∃v5 v6:Option V,σ=[some (.ref l),some (.ref p),some (.ref ow),v3,some (.ref tr),v5,v6,none]
 ow:H2 ow=some (.frz od (.dK (s.cells.map (fL (own s)))))
 tr:H2 tr=some (.dK ((s.cells.take i).map (fL (bF s))))
 sm:ag H H2
theorem GS{g:az->Nat}{s:ao}(ws:Wf s){i:Nat}{c:az}(hc:s.cells[i]? =some c):cM ((s.cells.take i).map (fL g)) (.inl (c.number:Int)) (.int (g c:Int))=(s.cells.take (i+1)).map (fL g):=by
 have e1:s.cells.take (i+1)=s.cells.take i++[c]:=by rw[dA,hc];rfl
 rw[nT _ (Rh (uo ws hc)),e1,bV];rfl
theorem NC(F:aO K "troubles_in" "troubles_in" C6 f fd)(T:Txt A K mg)(G:Gf P w K mg Yx 2 "own_trouble" ["cell","wiring"] (J0 A)):aI P w K mg Yx aN 3 f fd ["cells","wiring"] (Ey A):=by
 exists ["cells","wiring","own","cell","troubles","number","behind","upper"]
 .obtain⟨l,p,s,rfl,ξ,hW,ws,q⟩:=h;refine⟨_,ap (ke (i:=2) nd rfl (iK rfl) jY) (ap (fH dG rfl (dY (pv 0)) (pN 3 nd) (au (j9 (b8 hr) (pv 2) (aD (pv 3) rfl) (bL G hr (af (pv 3) (af (pv 1) ak))) rfl))) (ap (pS 4 nd jY) (ap (vx (fH dG rfl (sx (pv 2)) (pN 5 nd) (ap (pS 6 nd (cE (ql rfl) rfl T.any sj (af (zD (jF (own:=[("upper",7)]) rfl nd (sx (fm (b8 hr) (aD (pv 1) rfl) (pv 5) (λ_ _=>rfl))) (gA (by rfl)) (λ_ _ _ _ _=>pN 7 nd) (λ_ _ _ _ _=>ja) (λ_ _ _ _ _=>by exact ii jG (fm (b8 hr) (pv 2) (pv 7) (λ_ _=>rfl)) (bg T.acn) (bZ _)))) ak))) (au (j9 (b8 hr) (pv 4) (pv 5) (vc (PW.pt (z8 (db g8 (fm (b8 hr) (pv 2) (pv 5) (λ_ _=>rfl)) (bg T.acn) (bZ _)) (zA (cg (pv 6))))) (bg T.aiU) (fm (b8 hr) (pv 2) (pv 5) (λ_ _=>rfl))) rfl))))) (au (aF (pv 4)))))),?_⟩
  obtain⟨as,a1,a2⟩:=ξ.ex;have abT:(as.map V.ref).length=s.cells.length:=by rw[aE];exact dH a2
  dsimp![]
  intro ow how;have s0:=ag.new (o:=HO.dK []) how;refine⟨⟨_,ay.of (s0 _ _ a1)⟩,ie (K:=K) (xs:=as.map V.ref) (T1 s H l p ow) ⟨⟨none,rfl⟩,am,s0⟩ (λi σ H2 _ z=>ay.of (z.sm _ _ a1)) ?_ ?_⟩
  .rintro i x σ H2 hi ⟨⟨v,rfl⟩,i1,i2⟩;rw[cq]at hi;obtain⟨a,ha,rfl⟩:=dU.mp hi;obtain⟨c,hc,hC⟩:=h_ a2 ha;have Zh:c∈s.cells:=cU hc
   dsimp![]
   refine⟨a,p,c,s,rfl,hC.same i2,hW.same i2,ws,Zh,λH3 s3=>?_⟩;obtain⟨dc,tc,YW,ZK⟩:=((hC.same i2).same s3).ex;have k3:=s3 _ _ i1
   dsimp![YW,T.YY,T.Zz,fZ,jB k3]
   refine⟨by rw[aE,cO,bC];have:=ws.YI;lia,⟨some (.ref a),rfl⟩,?_,λb o e=>?_⟩
   .rw[am,GS ws hc]
   .rw[aj (aG e how)];exact s3 _ _ (i2 _ _ e)
  .rintro σ H2 ⟨⟨v3,rfl⟩,i1,i2⟩;rw[abT,dz]at i1
   dsimp![]
   intro tr ζ;have agC:H tr=none:=i2.free ζ;have str:=ag.new (o:=HO.dK []) ζ;have now:ow≠tr:=aG i1 ζ;refine⟨ow,_,str _ _ i1,trivial,λod=>?_⟩
   dsimp![]
   have smo:∀{X:Hp}{oo:HO},ag H X->ag H (upd X ow oo):=λ{X oo}k b o e=>by rw[aj (aG e how)];exact k _ _ e
   refine⟨od,.inl ⟨_,rfl,FH (T2 s H l p ow tr od v3) ⟨⟨none,none,rfl⟩,am,by rw[aj (aX now),am];rfl,smo (i2.trans str)⟩ (λi σ H3 _ z=>z.ow) ?_ ?_⟩⟩
   .rintro i k v σ H3 hi ⟨⟨v5,v6,rfl⟩,j1,j2,j3⟩;obtain⟨c,hc,rfl,rfl⟩:=zH hi;have Zh:c∈s.cells:=cU hc;obtain⟨dx,m,so,ab,w1,w2,w3,w4⟩:=(hW.same j3).ex;obtain⟨kva,ka1,ka2⟩:=w4.gets ws;obtain⟨ud,ψ,hu2,ε⟩:=ka2 c Zh;obtain⟨fo,f1,f2,f3,f4⟩:=(show iP H3 ud s c.number from ε).ex;have npu:p≠ud:=bx w1 f1 (by intro z;cases z);have nou:ow≠ud:=bx j1 f1 (by intro z;cases z);have aaA:kV (.inl (c.number:Int))=V.int (c.number:Int):=rfl
    dsimp![aaA,yq]
    refine⟨ud,_,f1,trivial,λou=>?_⟩;have L1:upd H3 ud (.frz ou (.dK (fo.map dq))) p=some (.ins A.Wi dx (kX m so ab)):=by rw[aj npu];exact w1
    have L2':upd H3 ud (.frz ou (.dK (fo.map dq))) ab=some (.dK kva):=by rw[aj (aX hu2)];exact ka1
    have L3:upd H3 ud (.frz ou (.dK (fo.map dq))) ow=some (.frz od (.dK (s.cells.map (fL (own s))))):=by rw[aj nou];exact j1
    dsimp![L1,T.Λ,T.abl,p_,eD L2',ψ]
    refine⟨ou,.inl ⟨_,rfl,y8 (λ_=>true) (A0 s) am (by rw[aE];exact gP (by lia)) ?_ ?_⟩⟩
    .intro i2 k2 v2 H4 R R' ZC s4 r1 r2;obtain⟨n,hn,rfl⟩:=Io ZC;have hna:=(f4 n).mp (cU hn);have hnn:=((iJ ws).mp hna).node (oO ws);rw[nq]at hnn;obtain⟨e,he,rfl⟩:=aK.mp hnn;have aez:kV (.inl (e.number:Int))=V.int (e.number:Int):=rfl
     dsimp![aez,vh (s4 _ _ L3),tf ws.nd he]
     have eb:A0 s (.inl (e.number:Int))= .bl (!decide ((own s e:Int)=0)):=by
      show V.bl (decide (ft s (e.number:Int).toNat≠0))=_;rw[c_,UM ws he];congr 1;by_cases z:own s e=0
      .simp[z]
      .simp[z]
     have:=r1 rfl H4 (ag.refl H4);rw[eb]at this;exact this
    .intro bl H4 hbl hl4 s4;have hu4:H4 ud=some (.frz ou (.dK (fo.map dq))):=s4 _ _ am;have s34:ag H3 (upd H4 ud (.dK (fo.map dq))):=yx s4 f1;refine⟨hu4,?_⟩;have nbu:bl≠ud:=λz=>by rw[z,am]at hbl;cases hbl
     have e5:(((fo.map dq).map (·.1)).filter λ_=>true).map (A0 s)=(fo.map λn=>decide (ft s n≠0)).map V.bl:=by rw[filter_all,bH,bH,bH];refine fS λn _=>?_;show V.bl (decide (ft s (n:Int).toNat≠0))=_;rw[c_];rfl
     rw[e5]at hl4;have af6:upd H4 ud (.dK (fo.map dq)) bl=some (.lst ((fo.map λn=>decide (ft s n≠0)).map V.bl)):=by rw[aj nbu];exact hl4
     dsimp![]
     refine⟨_,ay.of af6,?_⟩;have e6:(fo.map λn=>decide (ft s n≠0)).any id=decide (∃m∈bU s c.number,ft s m≠0):=by
      rw[fh,lL,fg,decide_eq_true_eq];constructor
      .rintro⟨x,hx,e⟩;exact⟨x,(f4 x).mp hx,of_decide_eq_true e⟩
      .rintro⟨x,hx,e⟩;exact⟨x,(f4 x).mpr hx,decide_eq_true e⟩
     rw[e6];generalize hH5:upd H4 ud (.dK (fo.map dq))=H5 at s34;have o5:=s34 _ _ j1;have t5:=s34 _ _ j2
     dsimp![vh o5,tf ws.nd Zh]
     have fin:∀z:Int,z=(bF s c:Int)->(∃ahI,mx H5 tr (V.int (c.number:Int)) (V.int z) ahI/\T2 s H l p ow tr od v3 (i+1) [some (V.ref l),some (V.ref p),some (V.ref ow),v3,some (V.ref tr),some (V.int (c.number:Int)),some (V.bl (decide (∃m∈bU s c.number,ft s m≠0))),none] ahI):=by rintro z rfl;refine⟨_,(jB t5).mpr ⟨by rw[aE,cO,bC];have:=ws.YI;lia,rfl⟩,⟨_,_,rfl⟩,by rw[aj now];exact o5,by rw[am,GS ws hc],λb o e=>?_⟩;rw[aj (aG e agC)];exact s34 _ _ (j3 _ _ e)
     by_cases c1:(own s c:Int)=0
     .rw[if_pos c1];have c1':own s c=0:=by lia
      by_cases c2:∃m,m∈bU s c.number/\ft s m≠0
      .rw[if_pos c2];exact fin _ (by unfold bF;rw[if_neg (by simpa using c1'),if_pos c2];rfl)
      .rw[if_neg c2];exact fin _ (by unfold bF;rw[if_neg (by simpa using c1'),if_neg c2,c1'])
     .rw[if_neg c1];have c1':own s c≠0:=by lia
      exact fin _ (by unfold bF;rw[if_pos c1'])
   .rintro σ H3 ⟨⟨v5,v6,rfl⟩,j1,j2,j3⟩;rw[aE,dz]at j2;refine⟨j1,?_⟩
    dsimp![]
    refine q _ tr (by rw[aj (aX now)];exact j2) (smo j3) agC
end
end
section
structure dQ(H:Hp)(a:aa)(k:cG):Prop where
 ex:∃t,H a=some (.tup [.int (k.kind:Int),.int (k.const:Int),.int (k.start:Int),.ref t])/\H t=some (.tup (vN k.values))
theorem dQ.same{H H':Hp}{a:aa}{k:cG}(h:dQ H a k)(s:ag H H'):dQ H' a k:=by obtain⟨t,h1,h2⟩:=h.ex;exact⟨t,s _ _ h1,s _ _ h2⟩
structure AN(k:cG):Prop where
 kind:k.kind<=5
 cn:k.const<=96
 vs:∀v∈k.values,v<=96
 len:k.values.length<=6
def AB:Res->V
 | .value v=> .int (v:Int)
 |_=> .non
theorem Jc:∀l:List Nat,(iN l).sum=(l.sum:Int)
 |[]=>rfl
 |a::l=>by
  show((a:Int)::iN l).sum=((a::l).sum:Int);rw[xF,xF,Jc l]
  lia
theorem zB:∀(l:List Nat)(a:Nat),l.foldl (λa v=>a*v) a=a*l.foldl (·*·) 1
 |[],a=>by simp
 |x::l,a=>by rw[o_,o_,zB l (a*x),zB l (1*x),jw,x9]
theorem Ii:∀(l:List Nat)(a:Nat),l.foldl max a∈a::l/\∀y∈a::l,y<=l.foldl max a
 |[],a=>by simp
 |x::l,a=>by
  obtain⟨h1,h2⟩:=Ii l (max a x);rw[o_];have hm:=h2 (max a x) bA;refine⟨?_,λy hy=>?_⟩
  .rcases aV.mp h1 with e|e
   .by_cases z:a<=x
    .rw[Nd z]at e;rw[Nd z,e];simp
    .rw[Ny (by lia)]at e;rw[Ny (by lia),e];simp
   .exact bq _ (bq _ e)
  .rcases aV.mp hy with e|e
   .lia
   .rcases aV.mp e with e|e
    .lia
    .exact h2 y (bq _ e)
theorem kO{x y:V}{H:Hp}{Q:VK}:KI x y H Q=∃l b xs zs,x= .ref l/\y= .ref b/\H l=some (.lst xs)/\H b=some (.lst zs)/\xs.length+zs.length<=aU/\∀p,H p=none->Q (.ref p) (upd H p (.lst (xs++zs))):=rfl
theorem Jb:∀l:List Nat,(∀v∈l,v<=96)->l.sum<=96*l.length
 |[],_=>by simp
 |a::l,h=>by
  have:=Jb l λv hv=>h v (bq _ hv);have:=h a bA;rw[xF,cC]
  lia
section
def HH(A:Ad):Sp:=λvs H Q _=>∃(a:aa)(c:az)(s:ao),vs=[.ref a,.int (s.seed:Int)]/\cK A H a c/\s.seed<=1000/\Q (.int (CV s c:Int)) H
theorem Pd(F:aO K "start_of" "start_of" ET f fd)(T:Txt A K mg):aI P w K mg Yx aN 1 f fd ["cell","seed"] (HH A):=by
 exists ["cell","seed"]
 .obtain⟨a,c,s,rfl,hC,hs,q⟩:=h;obtain⟨dc,tc,YW,ZK⟩:=hC.ex;refine⟨_,au (aF (vc (db g8 (aD (pv 0) rfl) (bg T.agt) (bZ _)) (bn eI (bn qh be (pv 1)) (aD (pv 0) rfl)) be)),?_⟩
  dsimp![YW,T.YY,T.abn,T.Zz,og,fZ]
  unfold CV at q;by_cases h:(c.kind:Int)=5
  .rw[if_pos h];rw[if_pos (by lia)]at q;refine⟨.inl ⟨by decide,by decide⟩,?_⟩;have e:(((100*s.seed+c.number:Nat)):Int)=100*(s.seed:Int)+(c.number:Int):=by lia
   rw[e]at q;exact q
  .rw[if_neg h];rw[if_neg (by lia)]at q;exact q
def HM(K:aA):Sp:=λvs H Q _=>∃(a:aa)(k:cG),vs=[.ref a]/\dQ H a k/\AN k/\∀H':Hp,ag H H'->Q (AB (gl k)) H'
theorem Ph(F:aO K "comes_to" "comes_to" EV f fd)(T:Txt A K mg)(G1:Gf P w K mg Yx 1 "product_of" ["values"] (Fl (K:=K)))(G2:Gf P w K mg Yx 1 "divided" ["upper","lower"] Fn):aI P w K mg Yx aN 2 f fd ["working"] (HM K):=by
 exists ["working","kind","constant","values","total"]
 .obtain⟨a,k,rfl,hw,ok,q⟩:=h;obtain⟨t,h1,h2⟩:=hw.ex;refine⟨_,ap (pS 1 nd (cH lY (pv 0) be (λ_ _=>rfl))) (ap (pS 2 nd (cH lY (pv 0) be (λ_ _=>rfl))) (ap (pS 3 nd (cH lY (pv 0) be (λ_ _=>rfl))) (ap (pS 4 nd (cE (Vb rfl) rfl T.sum boot_sum (af (pv 3) ak))) (ap (bp (db g8 (pv 1) be (bZ _)) (au (aF (bn qi (bn eI (pv 2) (pv 4)) (bg T.abB)))) br) (ap (bp (db g8 (pv 1) be (bZ _)) (au (aF (bn qi (bn qh (pv 2) (bL G1 hr (af (pv 3) ak))) (bg T.abB)))) br) (ap (bp (db g8 (pv 1) be (bZ _)) (au (aF (cE (We rfl) rfl T.max boot_max (af (bn kR (bI (af (pv 2) ak)) (fX zd rfl T.list nN (af (pv 3) ak))) ak)))) br) (ap (bp (db g8 (pv 1) be (bZ _)) (au (aF (bL G2 hr (af (bn qh be (pv 2)) (af (bn qi (pv 4) (bg T.abB)) ak))))) br) (ap (bp (db g8 (pv 1) be (bZ _)) (au (aF (bn qi (bn eI (pv 2) (bn zE (pv 4) be)) (bg T.abB)))) br) (au (aF (bn qi (bn eI (bn eI (bn qh be (cH lY (pv 0) be (λ_ _=>rfl))) (bn qh be (pv 2))) (pv 4)) (bg T.abB)))))))))))),?_⟩
  have hW:a9 K H a [.int (k.kind:Int),.int (k.const:Int),.int (k.start:Int),.ref t]:=a9.of h1;have hV:a9 K H t ((iN k.values).map V.int):=a9.of (by rw[iq];exact h2)
  simp_all![]
  refine⟨_,hW,_,rfl,_,hW,_,rfl,_,hW,_,rfl,t,rfl,_,hV,?_⟩;rw[Jc];have q0:=q H (ag.refl H);have anI:k.values.sum<=96*6:=cV (Jb _ ok.vs) (Nat.mul_le_mul_left _ ok.len)
  simp_all![kO]
  have cT:gl k=match k.kind with
    |0=> .value ((k.const+k.values.sum)%97)
    |1=> .value (k.values.foldl (λa v=>a*v) k.const%97)
    |2=> .value (k.values.foldl max k.const)
    |3=>if k.values.sum%97=0 then .refused else .value (1000*k.const/(k.values.sum%97)%97)
    |4=> .value ((k.const+k.values.sum/16)%97)
    |_=> .value ((41*k.start+13*k.const+k.values.sum)%97):=rfl
  by_cases c0:(k.kind:Int)=0
  .rw[if_pos c0];rw[cT,show k.kind=0 by lia]at q0;refine⟨by decide,?_⟩;have e:(((k.const+k.values.sum)%97:Nat):Int)=((k.const:Int)+(k.values.sum:Int))%97:=by lia
   rw[<-e];exact q0
  rw[if_neg c0];by_cases c1:(k.kind:Int)=1
  .rw[if_pos c1];rw[cT,show k.kind=1 by lia]at q0;refine⟨t,k.values,rfl,a9.of h2,ok.vs,?_⟩
   simp_all![]
   refine⟨.inl ⟨by lia,by have:=ok.cn;lia⟩,by decide,?_⟩;have e:((k.values.foldl (λa v=>a*v) k.const%97:Nat):Int)=(k.const:Int)*((k.values.foldl (·*·) 1:Nat):Int)%97:=by
    rw[zB]
    lia
   rw[<-e];exact q0
  rw[if_neg c1];by_cases c2:(k.kind:Int)=2
  .rw[if_pos c2];rw[cT,show k.kind=2 by lia]at q;refine⟨by decide,λp hp=>?_⟩;have sp:=ag.new (o:=HO.lst [V.int (k.const:Int)]) hp;refine⟨_,a9.of (sp _ _ h2),λl hl=>?_⟩;have sl:=ag.new (o:=HO.lst (vN k.values)) hl;have npl:p≠l:=aG am hl;refine⟨[V.int (k.const:Int)],by rw[aj npl,am],?_,λr hr'=>?_⟩
   .rw[bW,bC];have:=ok.len;simp
    lia
   refine⟨(k.const:Int)::iN k.values,ay.of (by rw[am];simp[<-iq]),by simp,λm hm ZS=>?_⟩;obtain⟨m1,m2⟩:=Ii k.values k.const;have e:m=((k.values.foldl max k.const:Nat):Int):=by
    have a1:((k.values.foldl max k.const:Nat):Int)∈(k.const:Int)::iN k.values:=by
     rcases aV.mp m1 with z|z
     .rw[z];simp
     .exact bq _ (aK.mpr ⟨_,z,rfl⟩)
    have a2:=ZS _ a1;have a3:m<=((k.values.foldl max k.const:Nat):Int):=by
     rcases aV.mp hm with z|z
     .have:=m2 k.const bA;lia
     .obtain⟨y,hy,rfl⟩:=aK.mp z;have:=m2 y (bq _ hy)
      lia
    lia
   rw[e];exact q _ ((sp.trans sl).trans (ag.new hr'))
  rw[if_neg c2];by_cases c3:(k.kind:Int)=3
  .rw[if_pos c3];rw[cT,show k.kind=3 by lia]at q0;refine⟨.inl ⟨by decide,by decide⟩,by decide,_,_,rfl,by lia,by lia,?_⟩;have e:((k.values.sum:Int)%97=0)↔k.values.sum%97=0:=by lia
   by_cases z:k.values.sum%97=0
   .rw[if_pos (e.mpr z)];simp only[z,if_true]at q0;exact q0
   .rw[if_neg (λy=>z (e.mp y))];simp only[z,if_false]at q0;have e2:(((1000*k.const/(k.values.sum%97)%97:Nat)):Int)=1000*(k.const:Int)/((k.values.sum:Int)%97)%97:=by rw[Ni,Int.natCast_ediv,Int.natCast_mul,Ni];rfl
    rw[<-e2];exact q0
  rw[if_neg c3];by_cases c4:(k.kind:Int)=4
  .rw[if_pos c4];rw[cT,show k.kind=4 by lia]at q0;refine⟨⟨by decide,by decide⟩,by decide,?_⟩;have e:(((k.const+k.values.sum/16)%97:Nat):Int)=((k.const:Int)+(k.values.sum:Int)/16)%97:=by lia
   rw[<-e];exact q0
  rw[if_neg c4];rw[cT,show k.kind=5 by have:=ok.kind;lia]at q0;refine⟨_,hW,_,rfl,_,rfl,.inl ⟨by decide,by decide⟩,.inl ⟨by decide,by decide⟩,by decide,?_⟩;have e:(((41*k.start+13*k.const+k.values.sum)%97:Nat):Int)=(41*(k.start:Int)+13*(k.const:Int)+(k.values.sum:Int))%97:=by lia
  rw[<-e];exact q0
end
end
section
theorem Qp{x:V}{vs:List V}{H:Hp}{Q:VK}:HV x vs H Q=∃(l:aa)(ns:List Int)(n:Int),x= .ref l/\vs=[.int n]/\H l=some (.lst (ns.map V.int))/\n∈ns/\Q .non (upd H l (.lst ((ns.erase n).map V.int))):=rfl
theorem Qn{K:aA}{vs:List V}{H:Hp}{Q:VK}:HS K vs H Q=∃(a:aa)(ns:List Int),vs=[V.ref a]/\ay K H a (ns.map V.int)/\ns.length<64/\∀(YM:List Int)(p:aa),YM.Perm ns->YM.Pairwise (·<=·)->H p=none->Q (.ref p) (upd H p (.lst (YM.map V.int))):=rfl
theorem S_(l:List Nat)(n:Nat):(iN l).erase (n:Int)=iN (l.erase n):=by
 induction l with
 |nil=>rfl
 |cons a l ih=>
  show((a:Int)::iN l).erase (n:Int)=iN ((a::l).erase n);by_cases e:a=n
  .subst e;rw[Mf,Mf]
  .have e':¬(a:Int)=(n:Int):=by lia
   rw[wL (by simpa using e'),wL (by simpa using e),ih];rfl
theorem JE{l:List Nat}{n:Nat}:(n:Int)∈iN l↔n∈l:=by
 unfold iN;rw[aK];constructor
 .rintro⟨m,hm,e⟩;have:m=n:=by lia
  rw[<-this];exact hm
 .intro h;exact⟨n,h,rfl⟩
theorem JD(n:Nat)(l:List Nat):lm (.int (n:Int)) (vN l)=l.contains n:=by
 unfold lm vN;rw[lL,fh,fg,mJ];constructor
 .rintro⟨m,hm,e⟩;have e:((m:Int)==(n:Int))=true:=e;have:=eq_of_beq e;have:m=n:=by lia
  rw[<-this];exact hm
 .intro h;exact⟨n,h,by show((n:Int)==(n:Int))=true;simp⟩
theorem Iw(l:List Nat):(vN l).all jI=true:=by rw[mU];intro v hv;obtain⟨n,_,rfl⟩:=aK.mp hv;rfl
def AC(s:ao)(wt:List Nat):V->Bool
 | .int n=> !(bU s n.toNat).any λu=>wt.contains u
 |_=>false
def K5(wt:List Nat):aJ->V
 | .inl n=> .bl (wt.contains n.toNat)
 |_=> .non
theorem Ri(s:ao)(wt l:List Nat):((vN l).filter (AC s wt)).map (λv=>v)=vN (l.filter λn=> !(bU s n).any λu=>wt.contains u):=by rw[DX];unfold vN;rw[mX];congr 1
section
def HJ:Sp:=λvs H Q _=>∃(cl ab:aa)(s:ao),vs=[.ref cl,.ref ab]/\H cl=some (.lst (vN (bJ s)))/\dE H ab s.cells (tm s)/\Wf s/\∀(H':Hp)(l:aa),H' l=some (.lst (vN (ord s)))->ag H H'->H l=none->Q (.ref l) H'
structure W5(s:ao)(H:Hp)(cl ab ol wl:aa)(σ:L2.St)(H2:Hp):Prop where
 ex:∃(done:List Nat)(k:Nat)(v:Option V),σ=[some (.ref cl),some (.ref ab),some (.ref ol),some (.ref wl),v,none,none]/\H2 ol=some (.lst (vN done))/\H2 wl=some (.lst (vN (bc s done)))/\ag H H2/\fK s done/\
  (bc s done).length<=k/\gK (b9 s) (bJ s) k done=ord s
def AS(wl:aa)(H2:Hp):Nat:=match H2 wl with
 |some (.lst xs)=>xs.length
 |_=>0
theorem Jh{wl:aa}{H2:Hp}{l:List Nat}(h:H2 wl=some (.lst (vN l))):AS wl H2=l.length:=by unfold AS;rw[h];exact bW l
theorem vD{s:ao}(w:Wf s):(bJ s).length<=12:=by unfold bJ;rw[aE];exact cV (gg _ _) w.YI
theorem MU(F:aO K "running_order" "running_order" Cm f fd)(T:Txt A K mg):aI P w K mg Yx aN 1 f fd ["clear","above"] HJ:=by
 exists ["clear","above","order","waiting","ready","number","upper"]
 .obtain⟨cl,ab,s,rfl,Zb,Ze,ws,q⟩:=h;refine⟨_,ap (pS 2 nd (bI ak)) (ap (ke (i:=3) nd rfl (iK rfl) (cE R6 rfl T.sorted uE (af (pv 0) ak))) (ap (pO dG (Gr (pv 3) (λ_=>rfl)) (ap (pP (i:=4) (own:=[("number",5)]) rfl nd rfl rfl (pU rfl rfl rfl rfl) (dY (pv 3)) (gA (by rfl)) (λ_ _ _ _ _=>pN 5 nd) (λ_ _ _ _ _=>by exact sw (dO (cg (cE (Ve K) rfl T.any sj (af (zD (jF (own:=[("upper",6)]) rfl nd (sx (fm (b8 hr) (pv 1) (pv 5) (λ_ _=>rfl))) (gA (by rfl)) (λ_ _ _ _ _=>pN 6 nd) (λ_ _ _ _ _=>ja)
      (λ_ _ _ _ _=>by exact ii (Jt K) (pv 6) (pv 3) (by with_unfolding_all rfl)))) ak)))))
     (λ_ _ _ _ _=>by exact pv 5))
    (ap (cX (eY fe jp jo i6 (pv 2) (af (cH eG (pv 4) be (λ_ _=>rfl)) ak)))
    (au (cX (eY fe Ly PySem.F.type_list_remove RJ (pv 3) (af (cH eG (pv 4) be (λ_ _=>rfl)) ak)))))))
   (au (aF (pv 2))))),?_⟩
  dsimp![]
  refine⟨by decide,λol ω=>?_⟩;have s0:=ag.new (o:=HO.lst []) ω
  dsimp![Qn]
  refine⟨iN (bJ s),ay.of (by rw[iq];exact s0 _ _ Zb),by unfold iN;rw[aE];have:=vD ws;lia,λYM wl p1 p2 Ε=>?_⟩;have en:YM=iN (bJ s):=by refine rM p2 ?_ p1;unfold iN;rw[ff];exact(IN ws).imp λh=>by lia
  subst en;rw[iq];have s1:=ag.new (o:=HO.lst (vN (bJ s))) Ε;have adr:H wl=none:=s0.free Ε;have now:ol≠wl:=aG am Ε;refine FX (W5 s H cl ab ol wl) (λ_ H2=>AS wl H2) ?_ ?_ (λσ H Q Q' h=>EL h)
  .refine⟨[],s.cells.length,none,rfl,by rw[aj now,am];rfl,?_,s0.trans s1,fK.nil s,xR s [],(Ab ws).symm⟩;rw[am];congr 2;unfold bc;rw[show(λn=> !([]:List Nat).contains n)=λ_=>true from by funext n;rfl,filter_all]
  .rintro σ H2 ⟨done,k,v,rfl,h1,h2,s2,D,hk,agI⟩;rw[Jh h2];have akj:=Ze.sameU s2;obtain⟨kva,ka1,ka2⟩:=akj.gets ws
   dsimp![]
   refine⟨!(vN (bc s done)).isEmpty,.inl ⟨_,ay.of h2,rfl⟩,?_⟩;by_cases hw:bc s done=[]
   .have e:(!(vN (bc s done)).isEmpty)=false:=by rw[hw];rfl
    rw[e]
    dsimp![]
    have e2:=yp ws D k hw;rw[agI]at e2;exact q H2 ol (by rw[e2];exact h1) s2 ω
   .have e:(!(vN (bc s done)).isEmpty)=true:=by obtain⟨a,l,e⟩:=A4 hw;rw[e];rfl
    rw[e,if_pos rfl];refine⟨⟨_,ay.of h2⟩,jA (K:=K) (xs:=vN (bc s done)) (AC s (bc s done)) (λv=>v) (ay.of h2) (by rw[bW];exact gP (by have:=xR s done;have:=ws.YI;lia)) ?_ ?_⟩
    .intro i x H3 R R' hi s3 r1 r2;obtain⟨n,hn,rfl⟩:=gZ hi;have hnw:=cU hn;have hnc:=(bM.mp hnw).1;obtain⟨c,hc,_,rfl⟩:=ik.mp hnc;obtain⟨ud,ψ,hu2,ε⟩:=ka2 c hc;obtain⟨fo,f1,f2,f3,f4⟩:=(show iP H2 ud s c.number from ε).ex;have f1':=s3 _ _ f1;have h2':=s3 _ _ h2
     dsimp![yq]
     refine⟨ud,_,f1',trivial,λou=>?_⟩;have L1:upd H3 ud (.frz ou (.dK (fo.map dq))) ab=some (.dK kva):=by rw[aj (aX hu2)];exact s3 _ _ ka1
     have L2':upd H3 ud (.frz ou (.dK (fo.map dq))) wl=some (.lst (vN (bc s done))):=by rw[aj (bx h2' f1' (by intro z;cases z))];exact h2'
     dsimp![eD L1,ψ]
     refine⟨ou,.inl ⟨_,rfl,y8 (λ_=>true) (K5 (bc s done)) am (by rw[aE];exact gP (by lia)) ?_ ?_⟩⟩
     .intro i2 k2 v2 H4 R4 R4' ZC s4 t1 t2;obtain⟨m,hm,rfl⟩:=Io ZC;have aez:kV (.inl (m:Int))=V.int (m:Int):=rfl
      dsimp![aez]
      refine⟨_,.inl (ay.of (s4 _ _ L2')),rfl,Iw _,?_⟩;rw[JD];have:=t1 rfl H4 (ag.refl H4);exact this
     .intro bl H4 hbl hl4 s4;have hu4:H4 ud=some (.frz ou (.dK (fo.map dq))):=s4 _ _ am;have s34:ag H3 (upd H4 ud (.dK (fo.map dq))):=yx s4 f1';refine⟨hu4,?_⟩;have nbu:bl≠ud:=λz=>by rw[z,am]at hbl;cases hbl
      have e5:(((fo.map dq).map (·.1)).filter λ_=>true).map (K5 (bc s done))=(fo.map λm=>(bc s done).contains m).map V.bl:=by rw[filter_all,bH,bH,bH];refine fS λn _=>?_;show V.bl ((bc s done).contains (n:Int).toNat)=_;rw[c_];rfl
      rw[e5]at hl4;have af6:upd H4 ud (.dK (fo.map dq)) bl=some (.lst ((fo.map λm=>(bc s done).contains m).map V.bl)):=by rw[aj nbu];exact hl4
      dsimp![]
      refine⟨_,ay.of af6,?_⟩;have e6:(fo.map λm=>(bc s done).contains m).any id=(bU s c.number).any λu=>(bc s done).contains u:=by
       rw[fh,lL,fg,fg];constructor
       .rintro⟨x,hx,e⟩;exact⟨x,(f4 x).mp hx,e⟩
       .rintro⟨x,hx,e⟩;exact⟨x,(f4 x).mpr hx,e⟩
      rw[e6];have e7:AC s (bc s done) (.int (c.number:Int))= !(bU s c.number).any λu=>(bc s done).contains u:=by show(!(bU s (c.number:Int).toNat).any λu=>(bc s done).contains u)=_;rw[c_]
      rw[e7]at r1 r2;by_cases z:((bU s c.number).any λu=>(bc s done).contains u)=false
      .rw[if_pos z];exact r1 (by rw[z];rfl) _ s34
      .rw[if_neg z];have z':((bU s c.number).any λu=>(bc s done).contains u)=true:=by simpa using z
       exact r2 (by rw[z'];rfl) _ s34
    .intro rl H3 hrl hl3 s3;rw[Ri]at hl3;have hr:=Ge ws (λn hn=>(bM.mp hn).1) hw;obtain⟨n,r,er⟩:=A4 hr;have er':(bc s done).filter (λn=> !(bU s n).any λu=>(bc s done).contains u)=n::r:=er;rw[er']at hl3;obtain⟨D',hnw,ew⟩:=D.snoc ws er;have ZG:=s3 _ _ h1;have h2':=s3 _ _ h2;have nro:rl≠ol:=λz=>by rw[z,h1]at hrl;cases hrl
     have nrw:rl≠wl:=λz=>by rw[z,h2]at hrl;cases hrl
     have YG:done.length<=12:=by
      have:=ic done (bJ s) D.nd D.sub;have:=vD ws
      lia
     dsimp![dZ ZG,ZG]
     have a0:ku (vN (n::r)) 0=some (V.int (n:Int)):=pY (j:=0) rfl;refine⟨_,ay.of hl3,V.int (n:Int),a0,by rw[bW,bC];lia,?_⟩;have e8:vN done++[V.int (n:Int)]=vN (done++[n]):=(lR done n).symm;rw[e8];have w3:upd H3 ol (.lst (vN (done++[n]))) wl=some (.lst (vN (bc s done))):=by rw[aj (aX now)];exact h2'
     have r3:upd H3 ol (.lst (vN (done++[n]))) rl=some (.lst (vN (n::r))):=by rw[aj nro];exact hl3
     dsimp![dZ w3,Qp]
     refine⟨_,ay.of r3,V.int (n:Int),a0,iN (bc s done),(n:Int),rfl,by rw[iq];exact w3,JE.mpr hnw,?_⟩;rw[S_,iq,<-ew];have hkk:(bc s (done++[n])).length+1=(bc s done).length:=by
      rw[ew,oU hnw];have:=tO hnw
      lia
     obtain⟨k',rfl⟩:∃k',k=k'+1:=⟨k-1,by lia⟩;refine⟨⟨done++[n],k',some (.ref rl),rfl,by rw[aj now,am],am,λb o e=>?_,D',by lia,?_⟩,?_⟩
     .rw[aj (aG e adr),aj (aG e ω)];exact s3 _ _ (s2 _ _ e)
     .rw[<-agI,yc ws D k' er]
     .rw[Jh am]
      lia
end
end
section
def IsT(K:aA)(mg:Str->Option ac)(x:Str)(xs:List V):Prop:=∃a,mg x=some (.ref a)/\∀H:Hp,a9 K H a xs
structure gu(K:aA)(H:Hp)(rd:aa)(ks:List Nat)(s:ao):Prop where
 ex:∃Yy,H rd=some (.dK Yy)/\Yy.map (·.1)=(iN ks).map bQ/\ks.Nodup/\∀n∈ks,∃t,bf Yy (.inl (n:Int))=some (.ref t)/\a9 K H t [.int ((bm s n).1:Int),.int ((bm s n).2:Int)]
theorem gu.same{K:aA}{H H':Hp}{rd:aa}{ks:List Nat}{s:ao}(h:gu K H rd ks s)(k:ag H H'):gu K H' rd ks s:=by obtain⟨Yy,h1,h2,h3,h4⟩:=h.ex;exact⟨Yy,k _ _ h1,h2,h3,λn hn=>let⟨t,e1,e2⟩:=h4 n hn;⟨t,e1,sU k e2⟩⟩
theorem sn{K:aA}{H:Hp}{a d:aa}{o:HO}{xs:List V}(h:a9 K H a xs)(hd:∀o,H d=some o->(∀ys,o≠ .tup ys)/\∀ob ys,o≠ .frz ob (.tup ys)):a9 K (upd H d o) a xs:=by
 rcases h with(h|⟨ob,h⟩)|h
 .exact .inl (.inl (by rw[aj (λz=>(hd _ (z▸h)).1 _ rfl)];exact h))
 .exact .inl (.inr ⟨ob,by rw[aj (λz=>(hd _ (z▸h)).2 _ _ rfl)];exact h⟩)
 .exact .inr h
theorem gu.put{K:aA}{H:Hp}{rd t:aa}{ks:List Nat}{s:ao}{n:Nat}{Yy:List (aJ×V)}(h:gu K H rd ks s)(hk:H rd=some (.dK Yy))(hn:n∉ks)(ht:a9 K H t [.int ((bm s n).1:Int),.int ((bm s n).2:Int)]):
  gu K (upd H rd (.dK (cM Yy (.inl (n:Int)) (.ref t)))) rd (ks++[n]) s:=by
 obtain⟨aaz,h1,h2,h3,h4⟩:=h.ex;rw[h1]at hk;cases hk;have nv:bf Yy (.inl (n:Int))=none:=by
  cases e:bf Yy (.inl (n:Int))with
  |none=>rfl
  |some v=>have:=sk e;rw[h2]at this;obtain⟨y,hy,q⟩:=aK.mp this;rw[gz q]at hy;exact absurd (JE.mp hy) hn
 have nt:∀o,H rd=some o->(∀ys,o≠ .tup ys)/\∀ob ys,o≠ .frz ob (.tup ys):=λo e=>by rw[h1]at e;cases e;exact⟨λ_ z=>(by cases z),λ_ _ z=>(by cases z)⟩
 refine⟨_,am,?_,?_,λm hm=>?_⟩
 .rw[nT _ nv,bV,h2];unfold iN;rw[bV,bV];rfl
 .rw[hJ];exact⟨h3,by simp,λa ha b hb z=>hn (by rw[<-bY.mp hb,<-z];exact ha)⟩
 .rw[Sb];by_cases e:m=n
  .subst e;exact⟨t,by rw[if_pos rfl],sn ht nt⟩
  .have e':¬(bQ (m:Int):aJ)=bQ (n:Int):=λz=>e (by have:=gz z;lia);rw[if_neg e'];rcases bT.mp hm with q|q
   .obtain⟨t',e1,e2⟩:=h4 m q;exact⟨t',e1,sn e2 nt⟩
   .exact absurd (bY.mp q) e
theorem gu.len{K:aA}{H:Hp}{rd:aa}{ks:List Nat}{s:ao}(h:gu K H rd ks s):∃Yy,H rd=some (.dK Yy)/\Yy.length=ks.length:=by obtain⟨Yy,h1,h2,_⟩:=h.ex;have:=congrArg fV h2;rw[aE,aE]at this;unfold iN at this;rw[aE]at this;exact⟨Yy,h1,this⟩
theorem zq{s:ao}(w:Wf s){c:az}(hc:c∈s.cells)(ht:bF s c=0){m:Nat}(hm:m∈src s c):bm s m=resT s m:=by have h1:m∈bU s c.number:=(iJ w).mpr (.one ((pq w hc).mpr hm));have h2:=JP w (ik.mpr ⟨c,hc,ht,rfl⟩) h1;obtain⟨d,hd,htd,rfl⟩:=ik.mp h2;rw[uQ w hd];unfold wc;rw[if_pos htd]
theorem DC{s:ao}(w:Wf s){c:az}(hc:c∈s.cells)(ht:bF s c=0):bm s c.number=if eZ s c=true then(3,0)else pB (gl (wk s c)):=by rw[uQ w hc];unfold wc;rw[if_pos ht,EE w hc ht]
theorem Wn{s:ao}(w:Wf s){c:az}(hc:c∈s.cells):AN (wk s c):=by
 refine⟨(w.cell c hc).kd,(w.cell c hc).cn,λv hv=>?_,?_⟩
 .have hv:v∈(src s c).map λm=>(resT s m).2:=hv;obtain⟨m,_,rfl⟩:=aK.mp hv;exact Uu w m
 .show((src s c).map λm=>(resT s m).2).length<=6;rw[aE];exact vp c (w.cell c hc).rl
def yX(s:ao):V->V
 | .int n=> .bl (!decide (((bm s n.toNat).1:Int)=1))
 |_=> .non
def v_(s:ao):V->V
 | .int n=> .int ((bm s n.toNat).2:Int)
 |_=> .non
section
def D6(A:Ad)(K:aA):Sp:=λvs H Q _=>∃(a so rd:aa)(c:az)(s:ao)(ks:List Nat),vs=[.ref a,.int (s.seed:Int),.ref so,.ref rd]/\cK A H a c/\H so=some (.lst (vN (src s c)))/\gu K H rd ks s/\(∀m∈src s c,m∈ks)/\Wf s/\c∈s.cells/\bF s c=0/\
 (eZ s c=true->∀H':Hp,ag H H'->Q .non H')/\(eZ s c=false->∀(H':Hp)(a':aa),dQ H' a' (wk s c)->ag H H'->Q (.ref a') H')
theorem N7(F:aO K "working_of" "working_of" DF f fd)(T:Txt A K mg)(G:Gf P w K mg Yx 1 "start_of" ["cell","seed"] (HH A)):aI P w K mg Yx aN 2 f fd ["cell","seed","sources","results"] (D6 A K):=by
 exists ["cell","seed","sources","results","values","number"]
 .obtain⟨a,so,rd,c,s,ks,rfl,hC,hso,hR,η,ws,hc,ht,q1,q2⟩:=h;refine⟨_,ap (bp (cg (cE (ql rfl) rfl T.any sj (af (jF (own:=[("number",5)]) rfl nd (dY (pv 2)) (gA (by rfl)) (λ_ _ _ _ _=>pN 5 nd) (λ_ _ _ _ _=>ja) (λ_ _ _ _ _=>by exact ii jG (cH (Iq K) (fm (b8 hr) (pv 3) (pv 5) (λ_ _=>rfl)) be (λ_ _=>rfl)) (bg T.aeK) (bZ _))) ak))) (au (aF Jp)) br) (ap (pS 4 nd (fX II rfl T.tuple boot_tuple (af (jF (own:=[("number",5)]) rfl nd (dY (pv 2)) (gA (by rfl)) (λ_ _ _ _ _=>pN 5 nd) (λ_ _ _ _ _=>ja) (λ_ _ _ _ _=>by exact cH (Iq K) (fm (b8 hr) (pv 3) (pv 5) (λ_ _=>rfl)) be (λ_ _=>rfl))) ak))) (au (aF (qf (af (aD (pv 0) rfl) (af (aD (pv 0) rfl) (af (bL G hr (af (pv 0) (af (pv 1) ak))) (af (pv 4) ak)))))))),?_⟩
  have l6:=vp (s:=s) c (ws.cell c hc).rl;obtain⟨Yy,k1,k2,k3,k4⟩:=hR.ex
  simp_all![]
  refine⟨⟨_,ay.of hso⟩,jA (K:=K) (xs:=vN (src s c)) (λ_=>true) (yX s) (ay.of hso) (by rw[bW];exact gP (by lia)) ?_ ?_⟩
  .intro i x H1 R R' hi s1 r1 r2;obtain⟨n,hn,rfl⟩:=gZ hi;obtain⟨t,e1,e2⟩:=k4 n (η n (cU hn))
   simp_all![eD (s1 _ _ k1),e1]
   refine⟨_,sU s1 e2,_,rfl,?_⟩
   simp_all![]
   have:=r1 rfl H1 (ag.refl H1);have e3:yX s (.int (n:Int))= .bl (!decide (((bm s n).1:Int)=1)):=by show V.bl (!decide (((bm s (n:Int).toNat).1:Int)=1))=_;rw[c_]
   rw[e3]at this;exact this
  .intro bl H1 hbl Zm s1;have e4:((vN (src s c)).filter λ_=>true).map (yX s)=((src s c).map λm=> !decide (((bm s m).1:Int)=1)).map V.bl:=by rw[filter_all];unfold vN;rw[bH,bH];refine fS λn _=>?_;show V.bl (!decide (((bm s (n:Int).toNat).1:Int)=1))=_;rw[c_];rfl
   rw[e4]at Zm
   simp_all![]
   refine⟨_,ay.of Zm,?_⟩;have e5:((src s c).map λm=> !decide (((bm s m).1:Int)=1)).any id=eZ s c:=by
    unfold eZ;rw[fh,lL,fg,fg];constructor
    .rintro⟨m,hm,e⟩;refine⟨m,hm,?_⟩;have e:(!decide (((bm s m).1:Int)=1))=true:=e;rw[zq ws hc ht hm]at e;have:¬((resT s m).1:Int)=1:=by simpa using e
     have:(resT s m).1≠1:=by lia
     simpa using this
    .rintro⟨m,hm,e⟩;refine⟨m,hm,?_⟩;show(!decide (((bm s m).1:Int)=1))=true;rw[zq ws hc ht hm];have:(resT s m).1≠1:=by simpa using e
     have:¬((resT s m).1:Int)=1:=by lia
     simpa using this
   rw[e5];by_cases hh:eZ s c=true
   .rw[if_pos hh];exact q1 hh H1 s1
   rw[if_neg hh];have hh':eZ s c=false:=by simpa using hh
   have so1:=s1 _ _ hso;refine⟨⟨_,ay.of so1⟩,jA (K:=K) (xs:=vN (src s c)) (λ_=>true) (v_ s) (ay.of so1) (by rw[bW];exact gP (by lia)) ?_ ?_⟩
   .intro i x H2 R R' hi s2 r1 r2;obtain⟨n,hn,rfl⟩:=gZ hi;obtain⟨t,e1,e2⟩:=k4 n (η n (cU hn))
    simp_all![eD (s2 _ _ (s1 _ _ k1)),e1]
    refine⟨_,sU s2 (sU s1 e2),_,rfl,?_⟩;have:=r1 rfl H2 (ag.refl H2);have e3:v_ s (.int (n:Int))= .int ((bm s n).2:Int):=by show V.int ((bm s (n:Int).toNat).2:Int)=_;rw[c_]
    rw[e3]at this;exact this
   .intro vl H2 hvl Y6 s2;have e6:((vN (src s c)).filter λ_=>true).map (v_ s)=vN (wk s c).values:=by rw[filter_all];show(vN (src s c)).map (v_ s)=vN ((src s c).map λm=>(resT s m).2);unfold vN;rw[bH,bH];refine fS λn hn=>?_;show V.int ((bm s (n:Int).toNat).2:Int)=V.int ((resT s n).2:Int);rw[c_,zq ws hc ht hn]
    rw[e6]at Y6
    simp_all![]
    refine⟨_,ay.of Y6,λtv htv=>?_⟩;have s3:=ag.new (o:=HO.tup (vN (wk s c).values)) htv;have sA:=(s1.trans s2).trans s3;obtain⟨dc,tc,YW,ZK⟩:=(hC.same sA).ex
    simp_all![YW,T.YY,T.abn,T.ad1,og,vK]
    refine⟨a,c,s,rfl,hC.same sA,ws.seed,?_⟩
    simp_all![]
    refine⟨by decide,λr hr'=>?_⟩;refine q2 hh' _ r ⟨tv,am,?_⟩ (sA.trans (ag.new hr'));rw[aj (aG am hr'),am]
def F7(K:aA):Sp:=λvs H Q _=>(vs=[.non]/\∀t,a9 K H t [.int 3,.int 0]->Q (.ref t) H)\/
 ∃(a:aa)(k:cG),vs=[.ref a]/\dQ H a k/\AN k/\∀(H':Hp)(t:aa),a9 K H' t [.int ((pB (gl k)).1:Int),.int ((pB (gl k)).2:Int)]->ag H H'->Q (.ref t) H'
theorem CJ:nZ ["working","value"] ["working"] (gX xA):=⟨rfl,rfl,rfl,by decide+kernel,rfl,by decide+kernel,by decide+kernel⟩
theorem wu{X:Cx}{x:Str}{a:aa}{pos:Pos}(h:X.mg x=some (.ref a))(hg:Gl X x:=by rfl)(hd:(x==("__debug__":Str))=false:=by decide):PE X (.Name x pos) (tC (.ref a)):=Ia hg h rfl hd
theorem NH(F:aO K "result_from" "result_from" xA f fd)(T:Txt A K mg)(tH:IsT K mg "HELD" [.int 3,.int 0])(tR:IsT K mg "REFUSED" [.int 2,.int 0])(G:Gf P w K mg Yx 2 "comes_to" ["working"] (HM K)):aI P w K mg Yx aN 3 f fd ["working"] (F7 K):=by
 refine F.ok CJ (λvs H Q E h=>?_) (λYX Ar outer s H vs Q E hr h=>?_)
 .rcases h with⟨rfl,_⟩|⟨a,k,rfl,_⟩
  .rfl
  .rfl
 .obtain⟨hA,h1,h2⟩:=tH;obtain⟨rA,r1,r2⟩:=tR;refine⟨_,ap (bp (qe (Jr (pv 0))) (au (aF (wu h1))) br) (ap (pS 1 CJ.nd (bL G hr (af (pv 0) ak))) (ap (bp (qe (Jr (pv 1))) (au (aF (wu r1))) br) (au (aF (qf (af (bg T.aeK) (af (pv 1) ak))))))),?_⟩
  rcases h with⟨rfl,q⟩|⟨a,k,rfl,hw,ok,q⟩
  .simp_all![]
   exact q hA (h2 H)
  .have ne:(V.ref a=V.non)=False:=eq_false (λz=>by cases z)
   simp_all![ne]
   refine⟨a,k,rfl,hw,ok,λH1 s1=>?_⟩
   simp_all![]
   cases e:gl k with
   |value v=>
    rw[e]at q;have ne2:(AB (.value v)=V.non)=False:=eq_false (λz=>by cases z)
    simp_all![ne2]
    exact⟨by decide,λt ht=>q _ t (a9.of am) (s1.trans (ag.new ht))⟩
   |refused=>
    rw[e]at q;have ne2:(AB .refused=V.non)=True:=eq_true rfl
    simp_all![ne2]
    exact q H1 rA (r2 H1) s1
   |held=>exact absurd e (Nu k)
end
end
section
def jb(nb wi rs wk:aa):List (Str×V):=[("notebook",.ref nb),("wiring",.ref wi),("results",.ref rs),("workings",.ref wk)]
section
variable{nb wi rs wk:aa}
theorem nW:(jb nb wi rs wk).lookup ("notebook":Str)=some (.ref nb):=by rfl
theorem vy:(jb nb wi rs wk).lookup ("wiring":Str)=some (.ref wi):=by rfl
theorem lT:(jb nb wi rs wk).lookup ("results":Str)=some (.ref rs):=by rfl
theorem vz:(jb nb wi rs wk).lookup ("workings":Str)=some (.ref wk):=by rfl
end
theorem F0{ta:TE}{σ:L2.St}{H:Hp}{Q:VK}:JS ta σ H Q=ta σ H λx H1=>Q (.bl (!decide (x= .non))) H1:=rfl
def iu(s:ao)(l:List Nat):List cG:=(l.filterMap λn=>b_ s n).filterMap λc=>if eZ s c=true then none else some (wk s c)
structure eX(A:Ad)(H:Hp)(a:aa)(s:ao):Prop where
 ex:∃dx nb wi rs wk dn d ks,∃ws:List aa,H a=some (.ins A.Pg dx (jb nb wi rs wk))/\cQ A H nb dn d s/\gQ A H wi s/\gu A.kf H rs ks s/\(∀n,n∈ks↔n∈s.cells.map λc=>c.number)/\H wk=some (.lst (ws.map V.ref))/\aY (dQ H) ws (iu s (ord s))
theorem eX.same{A:Ad}{H H':Hp}{a:aa}{s:ao}(h:eX A H a s)(k:ag H H'):eX A H' a s:=by obtain⟨dx,nb,wi,rs,wk,dn,d,ks,ws,h1,h2,h3,h4,h5,h6,h7⟩:=h.ex;exact⟨dx,nb,wi,rs,wk,dn,d,ks,ws,k _ _ h1,h2.same k,h3.same k,h4.same k,h5,k _ _ h6,aY.mapP h7 λa b q=>q.same k⟩
def iz(s:ao)(l:List az):List Nat:=(l.filter λc=>decide (bF s c≠0)).map λc=>c.number
def sX(s:ao):aJ->Bool
 | .inl n=>match b_ s n.toNat with
  |some c=>decide (bF s c=0)
  |none=>false
 |_=>false
theorem FZ{s:ao}{i:Nat}{c:az}(h:s.cells[i]? =some c):iz s (s.cells.take (i+1))=if bF s c≠0 then iz s (s.cells.take i)++[c.number]else iz s (s.cells.take i):=by
 have e1:s.cells.take (i+1)=s.cells.take i++[c]:=by rw[dA,h];rfl
 unfold iz;rw[e1,mP,bV];by_cases z:bF s c=0
 .simp[z]
 .simp[z]
theorem TN{s:ao}(w:Wf s){i:Nat}{c:az}(h:s.cells[i]? =some c):c.number∉iz s (s.cells.take i):=λz=>by obtain⟨c',Z2,e⟩:=aK.mp z;exact uo w h c' (bM.mp Z2).1 e
theorem HB(s:ao)(l:List az):(iz s l).length<=l.length:=by unfold iz;rw[aE];exact gg _ _
section
variable{A:Ad}{H H':Hp}{pa wi nb dn d l C dx:aa}{s:ao}{fs:List (Str×V)}
theorem gQ.but(g:gQ A H wi s)(hp:H pa=some (.ins C dx fs))(hf:fs.lookup ("makers":Str)=none)(k:∀b o,H b=some o->b≠pa->H' b=some o):gQ A H' wi s:=by
 obtain⟨dw,m,so,ab,h1,h2,h3,h4⟩:=g.ex;have nw:wi≠pa:=λz=>by rw[z,hp]at h1;cases h1;rw[IU]at hf;cases hf
 have kd:∀b Yy,H b=some (.dK Yy)->H' b=some (.dK Yy):=λb Yy e=>k b _ e (bx e hp (by intro z;cases z));have kl:∀b xs,H b=some (.lst xs)->H' b=some (.lst xs):=λb Yy e=>k b _ e (bx e hp (by intro z;cases z));obtain⟨Yy,m1,m2,m3⟩:=h2.ex;refine⟨dw,m,so,ab,k _ _ h1 nw,⟨Yy,kd _ _ m1,m2,λx=>?_⟩,h3.mono (λo e=>?_) (λc a z=>kl _ _ z),h4.mono (λo e=>?_) λc a z=>?_⟩
 .rcases m3 x with z|⟨a,e1,e2,e3⟩
  .exact .inl z
  .exact .inr ⟨a,e1,kl _ _ e2,e3⟩
 .obtain⟨kv,q,_⟩:=h3.is;rw[q]at e;cases e;exact kd _ _ q
 .obtain⟨kv,q,_⟩:=h4.is;rw[q]at e;cases e;exact kd _ _ q
 .obtain⟨fo,e1,e2⟩:=(show iP H a s c.number from z).ex;exact⟨fo,kd _ _ e1,e2⟩
theorem cK.but{a:aa}{c:az}(g:cK A H a c)(hp:H pa=some (.ins C dx fs))(hf:fs.lookup ("reads":Str)=none)(k:∀b o,H b=some o->b≠pa->H' b=some o):cK A H' a c:=by obtain⟨dc,t,e1,e2⟩:=g.ex;exact⟨dc,t,k _ _ e1 (λz=>by rw[z,hp]at e1;cases e1;rw[jC]at hf;cases hf),k _ _ e2 (bx e2 hp (by intro z;cases z))⟩
theorem cQ.but(g:cQ A H nb dn d s)(hp:H pa=some (.ins C dx fs))(hf:fs.lookup ("cells":Str)=none)(hf2:fs.lookup ("reads":Str)=none)(k:∀b o,H b=some o->b≠pa->H' b=some o):cQ A H' nb dn d s:=by
 obtain⟨YE,hc⟩:=g.cs;have n1:nb≠pa:=λz=>by have h:=g.nb;rw[z,hp]at h;cases h;rw[ij]at hf;cases hf
 exact⟨k _ _ g.nb n1,YE,k _ _ hc.d (bx hc.d hp (by intro z;cases z)),hc.nd,hc.mem,λx hx=>(hc.cell x hx).but hp hf2 k⟩
theorem iy.but{cs:List az}(g:iy A H l cs)(hp:H pa=some (.ins C dx fs))(hf:fs.lookup ("reads":Str)=none)(k:∀b o,H b=some o->b≠pa->H' b=some o):iy A H' l cs:=by obtain⟨as,h1,h2⟩:=g.ex;exact⟨as,k _ _ h1 (bx h1 hp (by intro z;cases z)),aY.mapP h2 λa c q=>q.but hp hf k⟩
theorem dQ.but{a:aa}{k:cG}(h:dQ H a k)(kt:∀b xs,H b=some (.tup xs)->H' b=some (.tup xs)):dQ H' a k:=by obtain⟨t,h1,h2⟩:=h.ex;exact⟨t,kt _ _ h1,kt _ _ h2⟩
end
theorem E'{s:ao}(w:Wf s){c:az}(hc:c∈s.cells)(l:List Nat):iu s (l++[c.number])=iu s l++(if eZ s c=true then[]else[wk s c]):=by
 unfold iu;rw[lv,lv];congr 1;rw[mL,i7 w hc];by_cases h:eZ s c=true
 .simp[h]
 .simp[h]
section
def HN(A:Ad):Sp:=λvs H Q _=>∃(pa dx nb wi rd wk tr:aa)(s:ao),vs=[.ref pa,.ref tr]/\H pa=some (.ins A.Pg dx (jb nb wi rd wk))/\H tr=some (.dK (s.cells.map (fL (bF s))))/\H rd=some (.dK [])/\tr≠rd/\Wf s/\
 ∀H':Hp,gu A.kf H' rd (iz s s.cells) s->(∀b o,H b=some o->b≠rd->H' b=some o)->Q .non H'
structure Q1(K:aA)(s:ao)(H:Hp)(pa tr rd:aa)(od:Obj)(i:Nat)(σ:L2.St)(H2:Hp):Prop where
 st:∃v:Option V,σ=[some (.ref pa),some (.ref tr),v]
 hTr:H2 tr=some (.frz od (.dK (s.cells.map (fL (bF s)))))
 hRd:gu K H2 rd (iz s (s.cells.take i)) s
 sm:∀b o,H b=some o->b≠tr->b≠rd->H2 b=some o
theorem Pp(F:aO K "set_aside" "Page.set_aside" B' f fd)(T:Txt A K mg):aI P w K mg Yx aN 1 f fd ["self","troubles"] (HN A):=by
 exists ["self","troubles","number"]
 .obtain⟨pa,dx,nb,wi,rd,wk,tr,s,rfl,hp,ζ,hrd,ntr,ws,q⟩:=h;refine⟨_,au (vx (fH dG rfl (sx (pv 1)) (pN 2 nd) (au (bp (db jG (fm (b8 hr) (pv 1) (pv 2) (λ_ _=>rfl)) (bg T.acn) (bZ _)) (au (j9 (b8 hr) (aD (pv 0) rfl) (pv 2) (qf (af (bg T.aiy) (af (fm (b8 hr) (pv 1) (pv 2) (λ_ _=>rfl)) ak))) rfl)) br)))),?_⟩
  have np1:pa≠tr:=bx hp ζ (by intro z;cases z);have np2:pa≠rd:=bx hp hrd (by intro z;cases z)
  simp_all![]
  refine⟨tr,_,ζ,trivial,λod=>?_⟩
  simp_all![]
  refine⟨od,.inl ⟨_,rfl,FH (Q1 A.kf s H pa tr rd od) ⟨⟨none,rfl⟩,am,⟨[],by rw[aj (aX ntr)];exact hrd,rfl,mZ,λn hn=>(by cases hn)⟩,λb o e h1 h2=>by rw[aj h1];exact e⟩ (λi σ H5 _ z=>z.hTr) ?_ ?_⟩⟩
  .rintro i k v σ H5 hi ⟨⟨v5,rfl⟩,j1,j2,j3⟩;obtain⟨c,hc,rfl,rfl⟩:=zH hi;have Zh:c∈s.cells:=cU hc;have aaA:kV (.inl (c.number:Int))=V.int (c.number:Int):=rfl;obtain⟨Yy,k1,k2⟩:=j2.len
   simp_all![aaA,vh j1,tf ws.nd Zh]
   by_cases z:(bF s c:Int)=0
   .rw[if_neg (by simpa using z)];have z':bF s c=0:=by lia
    refine⟨⟨_,rfl⟩,j1,?_,j3⟩;rw[FZ hc,if_neg (by simpa using z')];exact j2
   .rw[if_pos (by simpa using z)];have z':bF s c≠0:=by lia
    refine⟨by decide,λt ht=>?_⟩;have st:=ag.new (o:=HO.tup [V.int 4,V.int (bF s c:Int)]) ht;have Ο:=st _ _ k1;have hp':=st _ _ (j3 _ _ hp np1 np2)
    simp_all![hp',T.Y8,T.aau,lT,jB Ο]
    have acv:bm s c.number=(4,bF s c):=by rw[uQ ws Zh];unfold wc;rw[if_neg z']
    refine⟨by rw[k2,bC];have h1:=HB s (s.cells.take i);rw[cO]at h1;have:=ws.YI;lia,⟨_,rfl⟩,by rw[aj ntr];exact st _ _ j1,?_,λb o e h1 h2=>?_⟩
    .rw[FZ hc,if_pos z'];refine(j2.same st).put Ο (TN ws hc) (a9.of ?_);rw[am,acv];rfl
    .rw[aj h2];exact st _ _ (j3 b o e h1 h2)
  .rintro σ H5 ⟨⟨v5,rfl⟩,j1,j2,j3⟩;rw[aE,dz]at j2;refine⟨j1,?_⟩;refine q _ ?_ λb o e h1=>?_
   .obtain⟨Yy,r1,r2,r3,r4⟩:=j2.ex;refine⟨Yy,by rw[aj (aX ntr)];exact r1,r2,r3,λn hn=>?_⟩;obtain⟨t,t1,t2⟩:=r4 n hn;refine⟨t,t1,sn t2 λo e=>?_⟩;rw[j1]at e;cases e;exact⟨λ_ z=>(by cases z),λ_ _ z=>(by cases z)⟩
   .by_cases z:b=tr
    .rw[z,ζ]at e;cases e;rw[z,am]
    .rw[aj z];exact j3 b o e z h1
def Ky(A:Ad):Sp:=λvs H Q _=>∃(pa dx nb wi rd wk cl dn d:aa)(s:ao)(F:Hp),vs=[.ref pa,.ref cl]/\H pa=some (.ins A.Pg dx (jb nb wi rd wk))/\H cl=some (.lst (vN (bJ s)))/\ag F H/\F rd=none/\F wk=none/\cQ A F nb dn d s/\gQ A F wi s/\gu A.kf H rd (iz s s.cells) s/\H wk=some (.lst [])/\Wf s/\
 ∀(H':Hp)(ks:List Nat)(ws:List aa),gu A.kf H' rd ks s->(∀n,n∈ks↔n∈s.cells.map λc=>c.number)->H' wk=some (.lst (ws.map V.ref))->aY (dQ H') ws (iu s (ord s))->(∀b o,H b=some o->b≠rd->b≠wk->H' b=some o)->Q .non H'
structure Q2(A:Ad)(s:ao)(H:Hp)(pa cl rd wk lo:aa)(i:Nat)(σ:L2.St)(H2:Hp):Prop where
 st:∃v v' v'':Option V,σ=[some (.ref pa),some (.ref cl),v,v',v'']
 hLo:H2 lo=some (.lst (vN (ord s)))
 hRd:gu A.kf H2 rd (iz s s.cells++(ord s).take i) s
 hWk:∃ws:List aa,H2 wk=some (.lst (ws.map V.ref))/\aY (dQ H2) ws (iu s ((ord s).take i))/\ws.length<=i
 sm:∀b o,H b=some o->b≠rd->b≠wk->H2 b=some o
theorem SQ(F:aO K "go_through" "Page.go_through" BO f fd)(T:Txt A K mg)(G4:Gf P w K mg Yx 1 "running_order" ["clear","above"] HJ)(G5:Gf P w K mg Yx 2 "working_of" ["cell","seed","sources","results"] (D6 A K))(G6:Gf P w K mg Yx 3 "result_from" ["working"] (F7 K)):aI P w K mg Yx aN 4 f fd ["self","clear"] (Ky A):=by
 have eK:=T.eK;subst eK
 exists ["self","clear","number","cell","working"]
 .obtain⟨pa,dx,nb,wi,rd,wk,cl,dn,d,s,F,rfl,hp,Zb,sF,fr,fk,gF,wF,hR,hwk,ws,q⟩:=h;have Z8:=hr.mono (show 2<=3 by decide);have YQ:=hr.mono (show 1<=3 by decide);refine⟨_,au (fH dG rfl (dY (bL G4 YQ (af (pv 1) (af (aD (aD (pv 0) rfl) rfl) ak)))) (pN 2 nd) (ap (pS 3 nd (fm (b8 hr) (aD (aD (pv 0) rfl) rfl) (pv 2) (λ_ _=>rfl))) (ap (pS 4 nd (bL G5 Z8 (af (pv 3) (af (aD (aD (pv 0) rfl) rfl) (af (fm (b8 hr) (aD (aD (pv 0) rfl) rfl) (pv 2) (λ_ _=>rfl)) (af (aD (pv 0) rfl) ak)))))) (ap (j9 (b8 hr) (aD (pv 0) rfl) (pv 2) (bL G6 hr (af (pv 4) ak)) rfl) (au (bp (qe (UL (pv 4))) (au (cX (eY fe jp jo i6 (aD (pv 0) rfl) (af (pv 4) ak)))) br)))))),?_⟩
  have np1:pa≠wk:=bx hp hwk (by intro z;cases z);obtain⟨kv0,aeU,_⟩:=hR.len;have np2:pa≠rd:=bx hp aeU (by intro z;cases z);have nrw:rd≠wk:=bx aeU hwk (by intro z;cases z);obtain⟨dxw,m,so,ab,w1,w2,w3,w4⟩:=(wF.same sF).ex
  simp_all![hp,T.Y8,T.acZ,vy,w1,T.Λ,T.abl,p_]
  refine⟨cl,ab,s,rfl,Zb,w4,ws,λHd lo hlo sd agP=>?_⟩;have abT:(vN (ord s)).length=(ord s).length:=bW _;have nlr:lo≠rd:=aX (aG aeU agP);have nlw:lo≠wk:=aX (aG hwk agP)
  simp_all![]
  refine⟨⟨_,ay.of hlo⟩,ie (K:=A.kf) (xs:=vN (ord s)) (Q2 A s H pa cl rd wk lo) ⟨⟨_,_,_,rfl⟩,hlo,by rw[List.take_zero,jt];exact hR.same sd,⟨[],sd _ _ hwk,.nil,aT _⟩,λb o e _ _=>sd _ _ e⟩ (λi σ H7 _ z=>ay.of z.hLo) ?_ ?_⟩
  .rintro i x σ H7 hi ⟨⟨v,v',v'',rfl⟩,j1,j2,⟨wa,j3,j4,j6⟩,j5⟩;obtain⟨n,hn,rfl⟩:=gZ hi;have ajD:n∈bJ s:=(iI ws).1.sub n (cU hn);obtain⟨c,Zh,htz,rfl⟩:=ik.mp ajD;have sF7:ag F H7:=λb o e=>j5 b o (sF b o e) (aG e fr) (aG e fk);have g7:=gF.same sF7;obtain⟨YE,ah0⟩:=g7.cs;obtain⟨ca,akc,acJ⟩:=ah0.get Zh;obtain⟨ao_,m7,so7,ab7,y1,y2,y3,y4⟩:=(wF.same sF7).ex;obtain⟨kvS,kS1,kS2⟩:=y3.gets ws;obtain⟨sa,ajj,anJ,aji⟩:=kS2 c Zh;have hp7:=j5 _ _ hp np2 np1
   simp_all![hp7,T.Y8,T.aaL,T.acZ,T.aau,nW,vy,lT,g7.nb,y1,T.Zq,T.Β,T.abm,ij,zG,eD ah0.d,akc,T.Λ,T.abX,IT,eD kS1,ajj]
   have ajB:c.number∉iz s s.cells++(ord s).take i:=λz=>by
    rcases bT.mp z with z|z
    .obtain⟨c',Z2,e⟩:=aK.mp z;obtain⟨hc1,hc2⟩:=bM.mp Z2;rw[sO ws hc1 Zh e]at hc2;simp[htz]at hc2
    .have nd:=(iI ws).1.nd;have e2:(ord s).take (i+1)=(ord s).take i++[c.number]:=by rw[dA,hn];rfl
     rw[<-kD (i+1) (ord s),e2]at nd;exact(hJ.mp (hJ.mp nd).1).2.2 _ z c.number (by simp) rfl
   have e9:(ord s).take (i+1)=(ord s).take i++[c.number]:=by rw[dA,hn];rfl
   have Z0:i<12:=by
    have h3:=ic (ord s) (bJ s) (iI ws).1.nd (iI ws).1.sub;have h2:=vD ws;have:=(gE.mp hn).1
    lia
   have fin:∀(H8:Hp)(t:aa),ag H7 H8->a9 A.kf H8 t [.int ((bm s c.number).1:Int),.int ((bm s c.number).2:Int)]->
     ∃Yy,H8 rd=some (.dK Yy)/\Yy.length<aU/\∀H9,H9=upd H8 rd (.dK (cM Yy (.inl (c.number:Int)) (.ref t)))->H9 pa=some (.ins A.Pg dx (jb nb wi rd wk))/\H9 lo=some (.lst (vN (ord s)))/\gu A.kf H9 rd (iz s s.cells++(ord s).take (i+1)) s/\
      (H9 wk=some (.lst (wa.map V.ref))/\aY (dQ H9) wa (iu s ((ord s).take i)))/\(∀b o,H b=some o->b≠rd->b≠wk->H9 b=some o)/\∀a k,dQ H8 a k->dQ H9 a k:=λH8 t s8 h8=>by
    have r8:=j2.same s8;obtain⟨Yy,k1,k2⟩:=r8.len;refine⟨Yy,k1,?_,?_⟩
    .rw[k2,bG,bC];have h1:=HB s s.cells;have:=ws.YI;rw[cO]
     lia
    .rintro H9 rfl;have kt:∀a k,dQ H8 a k->dQ (upd H8 rd (.dK (cM Yy (.inl (c.number:Int)) (.ref t)))) a k:=λa k z=>z.but λb xs e=>by rw[aj (bx e k1 (by intro z;cases z))];exact e
     refine⟨by rw[aj np2];exact s8 _ _ hp7,by rw[aj nlr];exact s8 _ _ j1,?_,⟨by rw[aj (aX nrw)];exact s8 _ _ j3,aY.mapP j4 λa b z=>kt _ _ (z.same s8)⟩,λb o e h1 h2=>by rw[aj h1];exact s8 _ _ (j5 _ _ e h1 h2),kt⟩;rw[e9,<-mS];exact r8.put k1 ajB h8
   have η:∀m∈src s c,m∈iz s s.cells++(ord s).take i:=λm hm=>iB _ (yL ws Zh hn m hm);refine⟨ca,sa,rd,c,s,_,rfl,acJ,aji,j2,η,ws,Zh,htz,λhh H8 s8=>?_,λhh H8 a' agy s8=>?_⟩
   .simp_all![]
    refine .inl ⟨rfl,λt ht=>?_⟩;have acv:bm s c.number=(3,0):=by rw[DC ws Zh htz,if_pos hh]
    obtain⟨Yy,k1,k2,k3⟩:=fin H8 t s8 (by rw[acv];exact ht)
    simp_all![s8 _ _ hp7,T.Y8,T.aau,lT,jB k1]
    refine⟨k2,?_⟩;generalize hH9:upd H8 rd (.dK (cM Yy (.inl (c.number:Int)) (.ref t)))=H9;obtain⟨f1,f2,f3,⟨f4,f5⟩,f6,f7⟩:=k3 H9 hH9.symm
    simp_all![F0,decide_true,fO]
    refine⟨⟨_,_,_,rfl⟩,f2,f3,⟨wa,f4,?_,by lia⟩,f6⟩;rw[e9,E' ws Zh,if_pos hh,jt];exact f5
   .simp_all![]
    refine .inr ⟨a',Vm.wk s c,rfl,agy,Wn ws Zh,λH9 t ht s9=>?_⟩;have acv:bm s c.number=pB (gl (Vm.wk s c)):=by rw[DC ws Zh htz,if_neg (by simp[hh])]
    obtain⟨Yy,k1,k2,k3⟩:=fin H9 t (s8.trans s9) (by rw[acv];exact ht)
    simp_all![s9 _ _ (s8 _ _ hp7),T.Y8,T.aau,lT,jB k1]
    refine⟨k2,?_⟩;generalize hH9:upd H9 rd (.dK (cM Yy (.inl (c.number:Int)) (.ref t)))=Hx;obtain⟨f1,f2,f3,⟨f4,f5⟩,f6,f7⟩:=k3 Hx hH9.symm;have ne:(V.ref a'=V.non)=False:=eq_false (λz=>by cases z)
    simp_all![F0,ne,decide_false,kK,f1,T.Y8,T.ad',vz,dZ f4,f4]
    refine⟨by rw[aE,bC];lia,⟨_,_,_,rfl⟩,by rw[aj nlw];exact f2,?_,⟨wa++[a'],by rw[am,bV];rfl,?_,by rw[bG];simp;lia⟩,λb o e h1 h2=>by rw[aj h2];exact f6 b o e h1 h2⟩
    .obtain⟨ain,r1,r2,r3,r4⟩:=f3.ex;refine⟨ain,by rw[aj nrw];exact r1,r2,r3,λn hn=>?_⟩;obtain⟨t',t1,t2⟩:=r4 n hn;refine⟨t',t1,sn t2 λo e=>?_⟩;rw[f4]at e;cases e;exact⟨λ_ z=>(by cases z),λ_ _ z=>(by cases z)⟩
    .have kt:∀a k,dQ Hx a k->dQ (upd Hx wk (.lst (wa.map V.ref++[V.ref a']))) a k:=λa k z=>z.but λb xs e=>by rw[aj (bx e f4 (by intro z;cases z))];exact e
     rw[e9,E' ws Zh,if_neg (by simp[hh])];exact xT (aY.mapP f5 λa b z=>kt _ _ z) (kt _ _ (f7 _ _ (agy.same s9)))
  .rintro σ H7 ⟨⟨v,v',v'',rfl⟩,j1,j2,⟨wa,j3,j4,j6⟩,j5⟩;rw[abT,dz]at j2 j4;refine q H7 _ wa j2 (λn=>?_) j3 j4 j5;rw[bT,(iI ws).2 n];constructor
   .rintro(z|z)
    .obtain⟨c,hc,rfl⟩:=aK.mp z;exact aK.mpr ⟨c,(bM.mp hc).1,rfl⟩
    .obtain⟨c,hc,_,rfl⟩:=ik.mp z;exact aK.mpr ⟨c,hc,rfl⟩
   .intro z;obtain⟨c,hc,rfl⟩:=aK.mp z;by_cases e:bF s c=0
    .exact .inr (ik.mpr ⟨c,hc,e,rfl⟩)
    .exact .inl (aK.mpr ⟨c,bM.mpr ⟨hc,by simpa using e⟩,rfl⟩)
end
end
section
def fc(a:jU):List Int:=a.number::a.more
theorem gu.at{K:aA}{H:Hp}{rd:aa}{ks:List Nat}{s:ao}(h:gu K H rd ks s)(w:Wf s)(hks:∀n,n∈ks↔n∈s.cells.map λc=>c.number)(n:Int):∃Yy,H rd=some (.dK Yy)/\
  ((∃t,bf Yy (.inl n)=some (.ref t)/\a9 K H t [.int ((bm s (ax n)).1:Int),.int ((bm s (ax n)).2:Int)])\/(bf Yy (.inl n)=none/\bm s (ax n)=(0,0))):=by
 obtain⟨Yy,h1,h2,h3,h4⟩:=h.ex;refine⟨Yy,h1,?_⟩;by_cases hn:∃m∈ks,(m:Int)=n
 .obtain⟨m,hm,rfl⟩:=hn;obtain⟨c,hc,rfl⟩:=aK.mp ((hks m).mp hm);have hw:=w.cell c hc;have e:ax (c.number:Int)=c.number:=by unfold ax cP;rw[if_pos (by have:=hw.n1;have:=hw.n2;simp;lia),c_]
  rw[e];exact .inl (h4 _ hm)
 .refine .inr ⟨?_,?_⟩
  .cases e:bf Yy (.inl n)with
   |none=>rfl
   |some v=>have:=sk e;rw[h2]at this;obtain⟨y,hy,q⟩:=aK.mp this;obtain⟨m,hm,rfl⟩:=aK.mp hy;exact absurd ⟨m,hm,gz q⟩ hn
  .refine xS w λz=>?_;obtain⟨c,hc,e⟩:=aK.mp z;have hw:=w.cell c hc;unfold ax at e;by_cases q:cP n 1 99=true
   .rw[if_pos q]at e;unfold cP at q;simp at q;exact hn ⟨c.number,(hks _).mpr (aK.mpr ⟨c,hc,rfl⟩),by lia⟩
   .rw[if_neg q]at e;have:=hw.n1
    lia
theorem rT{s:aP}{p:Int}(h:bB s p=true):p=((p.toNat:Nat):Int)/\p.toNat<=s.edits.length:=by
 unfold bB cP gJ at h;simp at h
 lia
theorem ag.two{H:Hp}{a b:aa}{o u:HO}(h1:H a=none)(h2:H b=none):ag H (upd (upd H a o) b u):=λc v e=>by rw[aj (aG e h2),aj (aG e h1)];exact e
def eO(H:Hp)(M:List aa):Hp:=λb=>if b∈M then none else H b
theorem nO{H:Hp}{M:List aa}{b:aa}{o:HO}(h:H b=some o)(n:b∉M):eO H M b=some o:=by unfold eO;rw[if_neg n];exact h
theorem uZ{H:Hp}{M:List aa}{b:aa}(n:b∈M):eO H M b=none:=by unfold eO;rw[if_pos n]
theorem lM{H:Hp}{M:List aa}:ag (eO H M) H:=λb o e=>by
 unfold eO at e;by_cases n:b∈M
 .rw[if_pos n]at e;cases e
 .rw[if_neg n]at e;exact e
section
def u7(A:Ad):Sp:=λvs H Q _=>∃(pa dx nb dn d:aa)(s:ao),vs=[.ref pa,.ref nb]/\H pa=some (.ins A.Pg dx [])/\cQ A H nb dn d s/\Wf s/\∀H':Hp,eX A H' pa s->(∀b o,H b=some o->b≠pa->H' b=some o)->Q .non H'
theorem QD(F:aO K "__init__" "Page.__init__" Em f fd)(T:Txt A K mg)(G1:Gm P w K mg Yx 1 A.Nb "in_order" ["self"] (Fm A))(G2:Gi P w K mg Yx 2 A.Wi "Wiring" ["self","cells"] (F4 A))(G3:Gf P w K mg Yx 3 "troubles_in" ["cells","wiring"] (Ey A))
  (G4:Gm P w K mg Yx 1 A.Pg "set_aside" ["self","troubles"] (HN A))(G5:Gm P w K mg Yx 4 A.Pg "go_through" ["self","clear"] (Ky A)):aI P w K mg Yx aN 5 f fd ["self","notebook"] (u7 A):=by
 exists ["self","notebook","cells","troubles","number"]
 .obtain⟨pa,dx,nb,dn,d,s,rfl,hp,g,ws,q⟩:=h;have hr3:=hr.mono (show 3<=4 by decide);have YQ:=hr.mono (show 1<=4 by decide);refine⟨_,ap (pS 2 nd (bo G1 YQ (pv 1))) (ap (df (pv 0) (pv 1) rfl) (ap (df (pv 0) (oI G2 hr3 (af (pv 2) ak)) rfl) (ap (df (pv 0) jY rfl) (ap (df (pv 0) (bI ak) rfl) (ap (ke (i:=3) nd rfl (iK rfl) (bL G3 hr3 (af (pv 2) (af (aD (pv 0) rfl) ak)))) (ap (cX (bw G4 YQ (pv 0) (af (pv 3) ak))) (au (cX (bw G5 hr (pv 0) (af (zD (jF (own:=[("number",4)]) rfl nd (sx (pv 3)) (gA (by rfl)) (λ_ _ _ _ _=>pN 4 nd) (λ_ _ _ _ _=>by exact sw (db g8 (fm (b8 hr) (pv 3) (pv 4) (λ_ _=>rfl)) (bg T.acn) (bZ _))) (λ_ _ _ _ _=>by exact pv 4))) ak)))))))))),?_⟩
  dsimp![g.nb]
  refine⟨by rfl,nb,dn,d,s,rfl,g,ws,λH1 cl as Zb Zt s1 ak_=>?_⟩;have hCs:iy A H1 cl s.cells:=⟨as,Zb,Zt⟩;have Zx:=s1 _ _ hp;have npc:pa≠cl:=aG hp ak_
  dsimp![Zx,T.Y8,T.aaL]
  have e1:bE "notebook" (V.ref nb) []=([("notebook",.ref nb)]:List (Str×V)):=rfl;rw[e1];generalize ahf:upd H1 pa (.ins A.Pg dx [("notebook",V.ref nb)])=H1a;have pa1:H1a pa=some (.ins A.Pg dx [("notebook",V.ref nb)]):=by rw[<-ahf,am]
  have k1a:∀b o,H1 b=some o->b≠pa->H1a b=some o:=λb o e n=>by rw[<-ahf,aj n];exact e
  intro wi dw hwi hdw Y0;have sW:ag H1a (upd (upd H1a dw (.own wi)) wi (.ins A.Wi dw [])):=ag.two hdw hwi;refine⟨wi,dw,cl,s,rfl,am,(hCs.but Zx rfl k1a).same sW,ws,λH2 hWi kW=>⟨rfl,?_⟩⟩;have s2:ag H1a H2:=λb o e=>kW b o (sW b o e) (by simpa using aG e hwi);have pa2:=s2 _ _ pa1
  dsimp![pa2,T.Y8,T.acZ]
  have e2:bE "wiring" (V.ref wi) ([("notebook",.ref nb)]:List (Str×V))=([("notebook",.ref nb),("wiring",.ref wi)]:List (Str×V)):=rfl;rw[e2];intro rd hrd;generalize ZT:upd H2 pa (.ins A.Pg dx [("notebook",V.ref nb),("wiring",.ref wi)])=H3 at hrd;have pa3:H3 pa=some (.ins A.Pg dx [("notebook",V.ref nb),("wiring",.ref wi)]):=by rw[<-ZT,am]
  have k3:∀b o,H2 b=some o->b≠pa->H3 b=some o:=λb o e n=>by rw[<-ZT,aj n];exact e
  have npr:pa≠rd:=aG pa3 hrd
  dsimp![aj npr,pa3,T.Y8,T.aau]
  have e3:bE "results" (V.ref rd) ([("notebook",.ref nb),("wiring",.ref wi)]:List (Str×V))=([("notebook",.ref nb),("wiring",.ref wi),("results",.ref rd)]:List (Str×V)):=rfl;rw[e3];refine⟨by decide,λwk hwk=>?_⟩;generalize Z4:upd (upd H3 rd (.dK [])) pa (.ins A.Pg dx [("notebook",V.ref nb),("wiring",.ref wi),("results",.ref rd)])=H4 at hwk;have pa4:H4 pa=some (.ins A.Pg dx [("notebook",V.ref nb),("wiring",.ref wi),("results",.ref rd)]):=by rw[<-Z4,am]
  have rd4:H4 rd=some (.dK []):=by rw[<-Z4,aj (aX npr),am]
  have k4:∀b o,H3 b=some o->b≠pa->H4 b=some o:=λb o e n=>by rw[<-Z4,aj n,aj (aG e hrd)];exact e
  have npw:pa≠wk:=aG pa4 hwk;have nrw:rd≠wk:=aG rd4 hwk
  dsimp![aj npw,pa4,T.Y8,T.ad']
  have e4:bE "workings" (V.ref wk) ([("notebook",.ref nb),("wiring",.ref wi),("results",.ref rd)]:List (Str×V))=jb nb wi rd wk:=rfl;rw[e4];generalize hH5:upd (upd H4 wk (.lst [])) pa (.ins A.Pg dx (jb nb wi rd wk))=H5;have pa5:H5 pa=some (.ins A.Pg dx (jb nb wi rd wk)):=by rw[<-hH5,am]
  have wk5:H5 wk=some (.lst []):=by rw[<-hH5,aj (aX npw),am]
  have rd5:H5 rd=some (.dK []):=by rw[<-hH5,aj (aX npr),aj nrw];exact rd4
  have k5:∀b o,H4 b=some o->b≠pa->H5 b=some o:=λb o e n=>by rw[<-hH5,aj n,aj (aG e hwk)];exact e
  have kF2:∀b o,H2 b=some o->b≠pa->eO H5 [pa,rd,wk] b=some o:=λb o e n=>by have h3:=k3 b o e n;have h4:=k4 b o h3 n;exact nO (k5 b o h4 n) (by simp[n,aG h3 hrd,aG h4 hwk])
  have kF1:∀b o,H1 b=some o->b≠pa->eO H5 [pa,rd,wk] b=some o:=λb o e n=>kF2 b o (s2 _ _ (k1a b o e n)) n;have sF:ag (eO H5 [pa,rd,wk]) H5:=lM;have wF:gQ A (eO H5 [pa,rd,wk]) wi s:=hWi.but pa2 rfl kF2;have gF:cQ A (eO H5 [pa,rd,wk]) nb dn d s:=(g.same s1).but Zx rfl rfl kF1;have cF:iy A (eO H5 [pa,rd,wk]) cl s.cells:=hCs.but Zx rfl kF1;have fr:eO H5 [pa,rd,wk] rd=none:=uZ (by simp);have fk:eO H5 [pa,rd,wk] wk=none:=uZ (by simp);have kH:∀b o,H b=some o->b≠pa->H5 b=some o/\b≠rd/\b≠wk:=λb o e n=>by have:=kF1 b o (s1 _ _ e) n;exact⟨sF _ _ this,aG this fr,aG this fk⟩
  generalize eO H5 [pa,rd,wk]=Fz at sF wF gF cF fr fk
  dsimp![pa5,T.Y8,T.acZ,vy]
  refine⟨cl,wi,s,rfl,cF.same sF,wF.same sF,ws,λH6 tr ζ s6 aja=>?_⟩;have pa6:=s6 _ _ pa5;have ntr:tr≠rd:=aX (aG rd5 aja)
  dsimp![pa6]
  refine⟨by rfl,pa,dx,nb,wi,rd,wk,tr,s,rfl,pa6,ζ,s6 _ _ rd5,ntr,ws,λH7 hR7 k7=>?_⟩;have tr7:=k7 _ _ ζ ntr;have npt:pa≠tr:=bx pa6 ζ (by intro z;cases z);have nwt:wk≠tr:=bx (s6 _ _ wk5) ζ (by intro z;cases z);have pa7:=k7 _ _ pa6 npr;have wk7:=k7 _ _ (s6 _ _ wk5) (aX nrw)
  dsimp![pa7,yq]
  refine⟨by rfl,tr,_,tr7,trivial,λod=>?_⟩
  dsimp![]
  refine⟨od,.inl ⟨_,rfl,y8 (sX s) kV am (by rw[aE];exact gP (by have:=ws.YI;lia)) ?_ ?_⟩⟩
  .intro i2 k2 v2 H8 R R' ZC s8 r1 r2;obtain⟨c,hc,rfl,rfl⟩:=zH ZC;have Zh:c∈s.cells:=cU hc;have aaA:kV (.inl (c.number:Int))=V.int (c.number:Int):=rfl;have tr8:=s8 _ _ (am (H:=H7) (a:=tr) (o:= .frz od (.dK (s.cells.map (fL (bF s))))));have eC:sX s (.inl (c.number:Int))=decide (bF s c=0):=by show(match b_ s (c.number:Int).toNat with|some c=>decide (bF s c=0)|none=>false)=_;rw[c_,i7 ws Zh]
   rw[eC]at r1 r2;rw[aaA]at r1
   dsimp![aaA,vh tr8,tf ws.nd Zh]
   by_cases z:(bF s c:Int)=0
   .rw[if_pos z];exact r1 (by simp;lia) H8 (ag.refl H8)
   .rw[if_neg z];exact r2 (by simp;lia) H8 (ag.refl H8)
  .intro lc H8 hlc hl8 s8;have tr8:=s8 _ _ (am (H:=H7) (a:=tr) (o:= .frz od (.dK (s.cells.map (fL (bF s))))));have s8':ag H7 (upd H8 tr (.dK (s.cells.map (fL (bF s))))):=yx s8 tr7;have nlt:lc≠tr:=λz=>by rw[z,am]at hlc;cases hlc
   have e7:(((s.cells.map (fL (bF s))).map (·.1)).filter (sX s)).map kV=vN (bJ s):=by
    have hh:∀l:List az,(∀c∈l,c∈s.cells)->(((l.map (fL (bF s))).map (·.1)).filter (sX s)).map kV=vN ((l.filter λc=>bF s c==0).map λc=>c.number):=by
     intro l;induction l with
     |nil=>intro _;rfl
     |cons c l ih=>
      intro hl;have ih:=ih λc hc=>hl c (bq _ hc);have eC:sX s (fL (bF s) c).1=decide (bF s c=0):=by show(match b_ s (c.number:Int).toNat with|some c=>decide (bF s c=0)|none=>false)=_;rw[c_,i7 ws (hl c bA)]
      rw[bb,bb,js,js,eC];by_cases z:bF s c=0
      .rw[if_pos (by simpa using z),if_pos (by simpa using z),bb,ih,bb];rfl
      .rw[if_neg (by simpa using z),if_neg (by simpa using z),ih]
    exact hh s.cells λc hc=>hc
   rw[e7]at hl8;refine⟨tr8,?_⟩;generalize hHc:upd H8 tr (.dK (s.cells.map (fL (bF s))))=Hc at s8';have lcC:Hc lc=some (.lst (vN (bJ s))):=by rw[<-hHc,aj nlt];exact hl8
   have sFc:ag Fz Hc:=λb o e=>s8' _ _ (k7 _ _ (s6 _ _ (sF _ _ e)) (aG e fr))
   dsimp![]
   refine⟨pa,dx,nb,wi,rd,wk,lc,dn,d,s,Fz,rfl,s8' _ _ pa7,lcC,sFc,fr,fk,gF,wF,hR7.same s8',s8' _ _ wk7,ws,λH9 ks wa z1 z2 z3 z4 z5=>?_⟩;have sF9:ag Fz H9:=λb o e=>z5 b o (sFc b o e) (aG e fr) (aG e fk);refine q H9 ⟨dx,nb,wi,rd,wk,dn,d,ks,wa,z5 _ _ (s8' _ _ pa7) npr npw,gF.same sF9,wF.same sF9,z1,z2,z3,z4⟩ λb o e n=>?_;obtain⟨h5,n1,n2⟩:=kH b o e n;exact z5 _ _ (s8' _ _ (k7 _ _ (s6 _ _ h5) n1)) n1 n2
def ss(A:Ad):Sp:=λvs H Q _=>∃(pa:aa)(n:Int)(s:ao),vs=[.ref pa,.int n]/\eX A H pa s/\Wf s/\∀t,a9 A.kf H t [.int ((bm s (ax n)).1:Int),.int ((bm s (ax n)).2:Int)]->Q (.ref t) H
theorem Rz(F:aO K "result_of" "Page.result_of" Ca f fd)(T:Txt A K mg)(tN:IsT K mg "NO_SUCH_CELL" [.int 0,.int 0]):aI P w K mg Yx aN 1 f fd ["self","number"] (ss A):=by
 have eK:=T.eK;subst eK
 exists ["self","number"]
 .obtain⟨pa,n,s,rfl,hP,ws,q⟩:=h;obtain⟨dx,nb,wi,rs,wk,dn,d,ks,wa,h1,h2,h3,h4,h5,h6,h7⟩:=hP.ex;obtain⟨nA,n1,n2⟩:=tN;refine⟨_,au (aF (yU (b8 hr) (aD (pv 0) rfl) (pv 1) (wu n1) ⟨rfl,rfl,rfl,rfl⟩)),?_⟩;obtain⟨Yy,k1,k2⟩:=h4.at ws h5 n
  dsimp![h1,T.Y8,T.aau,lT,sQ k1,eD k1]
  rcases k2 with⟨t,k3,k4⟩|⟨k3,k4⟩
  .rw[k3];exact q t k4
  .rw[k3];refine q nA ?_;rw[k4];exact n2 H
def rX(A:Ad):Sp:=λvs H Q _=>∃(pa:aa)(n:Int)(s:ao),vs=[.ref pa,.int n]/\eX A H pa s/\Wf s/\Q (.bl (gy s (ax n))) H
theorem QC(F:aO K "passes" "Page.passes" Do f fd)(T:Txt A K mg)(G1:Gm P w K mg Yx 1 A.Pg "result_of" ["self","number"] (ss A)):aI P w K mg Yx aN 2 f fd ["self","number"] (rX A):=by
 have eK:=T.eK;subst eK
 exists ["self","number","result"]
 .obtain⟨pa,n,s,rfl,hP,ws,q⟩:=h;obtain⟨dx,nb,wi,rs,wk,dn,d,ks,wa,h1,_⟩:=hP.ex;refine⟨_,ap (pS 2 nd (bw G1 hr (pv 0) (af (pv 1) ak))) (au (aF (z_ (ii g8 (cH lY (pv 2) be (λ_ _=>rfl)) (bg T.aeK) (bZ _)) (qg (ii jG (cH lY (pv 2) be (λ_ _=>rfl)) be (bZ _)))))),?_⟩
  dsimp![h1]
  refine⟨by rfl,pa,n,s,rfl,hP,ws,λt ht=>?_⟩
  dsimp![]
  refine⟨_,ht,_,rfl,?_⟩
  dsimp![]
  have e:gy s (ax n)=(((bm s (ax n)).1==1)&&((bm s (ax n)).2 !=0)):=rfl;rw[e]at q;generalize bm s (ax n)=r at ht q;by_cases c:(r.1:Int)=1
  .rw[if_pos c];have c':r.1=1:=by lia
   refine⟨_,ht,_,rfl,?_⟩
   dsimp![]
   rw[c']at q;have e2:(!decide ((r.2:Int)=0))=(r.2 !=0):=by
    by_cases z:r.2=0
    .simp[z]
    .have:¬(r.2:Int)=0:=by lia
     simp[z]
   rw[e2];exact q
  .rw[if_neg c];have c':¬r.1=1:=by lia
   have e2:(r.1==1)=false:=by simpa using c'
   rw[e2]at q;exact q
end
end
section
theorem boot_dict:pz "dict"=some (.type "dict"):=by decide+kernel
theorem Hq:pz "range"=some (.type "range"):=by decide+kernel
section
variable{X:Cx}
def Jm:List V->Hp->VK->Prop:=λvs H Q=>∃(a:aa)(Yy:List (aJ×V)),vs=[V.ref a]/\H a=some (.dK Yy)/\∀p,H p=none->Q (.ref p) (upd H p (.dK Yy))
theorem Ts(hc:X.calm=true):dh X (.type "dict") Jm:=by intro Yw s σ H vs us Q I r h;obtain⟨a,Yy,rfl,hd,q⟩:=h;rw[aR.ref1 r];exact Tp I (.inl hd) λp s' hp I'=>⟨.ref p,_,I',rfl,q p hp⟩
theorem Rw{vs:List V}{H:Hp}{Q:VK}:Jm vs H Q=∃(a:aa)(Yy:List (aJ×V)),vs=[V.ref a]/\H a=some (.dK Yy)/\∀p,H p=none->Q (.ref p) (upd H p (.dK Yy)):=rfl
def Jl:List V->Hp->VK->Prop:=λvs H Q=>∃(a:aa)(Yy:List (aJ×V))(ns:List Int),vs=[V.ref a]/\H a=some (.dK Yy)/\Yy.map (·.1)=ns.map bQ/\∀p,H p=none->Q (.ref p) (upd H p (.lst (ns.map V.int)))
theorem Rv{vs:List V}{H:Hp}{Q:VK}:Jl vs H Q=∃(a:aa)(Yy:List (aJ×V))(ns:List Int),vs=[V.ref a]/\H a=some (.dK Yy)/\Yy.map (·.1)=ns.map bQ/\∀p,H p=none->Q (.ref p) (upd H p (.lst (ns.map V.int))):=rfl
theorem S9{Yy:List (aJ×V)}{vl:List (aJ×ac)}{ns:List Int}{us:List ac}(rel:KV Yy vl)(hk:Yy.map (·.1)=ns.map bQ)(hl:us.length=vl.length)
  (h:∀(j:Nat)(u:ac),us[j]? =some u->∃k x,vl[j]? =some (k,x)/\(dN X.prog X.w).is k u=true):ka us ns:=by
 have YG:Yy.length=vl.length:=rel.length;have hln:Yy.length=ns.length:=by have:=congrArg fV hk;rw[aE,aE]at this;exact this
 refine uS (by lia) λj u hu=>?_;obtain⟨k,x,hx,ZC⟩:=h j u hu;have hj:j<Yy.length:=by
  have:=(gE.mp hx).1
  lia
 obtain⟨kv,Θ⟩:∃kv,Yy[j]? =some kv:=⟨_,cR hj⟩;obtain⟨b,hb,e1,_⟩:=h_ rel Θ;rw[hx]at hb;cases hb;have h1:(Yy.map (·.1))[j]? =some kv.1:=by rw[cq,Θ];rfl
 rw[hk,cq]at h1;obtain⟨n,hn,e2⟩:=dU.mp h1;have e1:kv.1=k:=e1;rw[<-e1,<-e2]at ZC;obtain⟨t,et⟩:=(show∃t,u=i8 n t from rY (k:=bQ n) ZC);exact⟨n,t,hn,et⟩
theorem Tr(hc:X.calm=true):dh X (.type "list") Jl:=by
 intro Yw s σ H vs us Q I r h;obtain⟨a,Yy,ns,rfl,hd,hk,q⟩:=h;rw[aR.ref1 r];obtain⟨hz,lo,vl,rel,dd⟩:=jd I.YB (.inl hd);have YG:Yy.length=vl.length:=rel.length;obtain⟨ep,hat⟩:=dd.dictAt;refine PySem.W.kdl_call (M7 («knd»:=dN X.prog X.w) («kvs»:=vl) (ep:=ep) lo) (I.ok.hd hc) hat (by rw[<-YG];exact hz) λh' tk acc c' hkp hS aa4=>?_;have hI:ka acc.toList ns:=S9 (X:=X) rel hk (by rw[bz];exact aa4.1) λj u hu=>aa4.2 j u (by rw[<-fw];exact hu);have hln:(ns.map V.int).length<=aU:=by have:=congrArg fV hk;rw[aE,aE]at this;rw[aE,<-this];exact hz
 exact⟨.ref s.heap.objs.size,upd H s.heap.objs.size (.lst (ns.map V.int)),I.laid (t':=tk) hkp (aT _) ⟨hln,acc.toList,c',rC hI,by rw[Br];exact hS⟩,rfl,q _ (I.YB.fresh (aT _))⟩
def J':List V->Hp->VK->Prop:=λvs H Q=>∃i j:Int,vs=[V.int i,V.int j]/\∀p,H p=none->Q (.ref p) (upd H p (.rng i j))
theorem Gn{vs:List V}{H:Hp}{Q:VK}:J' vs H Q=∃i j:Int,vs=[V.int i,V.int j]/\∀p,H p=none->Q (.ref p) (upd H p (.rng i j)):=rfl
theorem IK:dh X (.type "range") J':=by
 intro Yw s σ H vs us Q I r h;obtain⟨i,j,rfl,q⟩:=h;cases r with
 |cons r rr=>
  cases rr with
  |cons r' rr=>cases rr;obtain⟨t,rfl⟩:=r;obtain⟨t',rfl⟩:=r';exact call_range_2 ⟨.ref s.heap.objs.size,upd H s.heap.objs.size (.rng i j),I.laid (λb o e=>cS _ e) (aT _) ⟨_,_,_,cZ _ rfl⟩,rfl,q _ (I.YB.fresh (aT _))⟩
def Jj:List V->Hp->VK->Prop:=λvs H Q=>∃(a:aa)(i j:Int),vs=[V.ref a]/\H a=some (.rng i j)/\(0<=i/\i<=1000/\0<=j/\j<=1000)/\∀p,H p=none->Q (.ref p) (upd H p (.lst ((cI (j-i).toNat).map λk:Nat=>V.int (i+(k:Int)))))
theorem Ft{vs:List V}{H:Hp}{Q:VK}:Jj vs H Q=∃(a:aa)(i j:Int),vs=[V.ref a]/\H a=some (.rng i j)/\(0<=i/\i<=1000/\0<=j/\j<=1000)/\∀p,H p=none->Q (.ref p) (upd H p (.lst ((cI (j-i).toNat).map λk:Nat=>V.int (i+(k:Int))))):=rfl
theorem Ex{i:Int}:∀{us:List ac}(n k:Nat),us.length=n->(∀(j:Nat)(u:ac),us[j]? =some u->∃t,u=i8 (i+((k+j:Nat):Int)*1) t)->aR ((rO k n).map λk:Nat=>V.int (i+(k:Int))) us
 |[],0,_,_,_=> .nil
 |[],_+1,_,h,_=>by simp at h
 |u::us,0,_,h,_=>by simp at h
 |u::us,n+1,k,h,g=>by obtain⟨t,e⟩:=g 0 u rfl;rw[Nh,bb];refine .cons ⟨t,by rw[e];simp⟩ (Ex n (k+1) (by simpa using h) λj v hv=>?_);obtain⟨t,e⟩:=g (j+1) v (by simpa using hv);exact⟨t,by rw[e];congr 2;lia⟩
theorem Hl(hc:X.calm=true):dh X (.type "list") Jj:=by
 intro Yw s σ H vs us Q I r h;obtain⟨a,i,j,rfl,hd,⟨b1,b2,b3,b4⟩,q⟩:=h;rw[aR.ref1 r];obtain⟨t,u,v,e⟩:=(show∃t u v,s.heap.get? a=some {cls:= .type "range",data:= .fields #[.int i t,.int j u,.int 1 v]}from I.YB a _ hd);have hn:LI i j 1=((j-i).toNat:Nat):=by rw[rangeSize_one];split<;>lia
 refine call_list_range (I.ok.hd hc) (show IsRange s.heap a i j 1 t u v from e) (small_one (by lia) (by lia) (by lia) (by lia)) hn (by lia) λh' tk acc c' hkp hS aa4=>?_;have hV:aR ((cI (j-i).toNat).map λk:Nat=>V.int (i+(k:Int))) acc.toList:=by rw[Mc];refine Ex _ 0 (by rw[bz];exact aa4.1) λm u hu=>?_;obtain⟨t,et⟩:=aa4.2 m u (by rw[<-fw];exact hu);exact⟨t,by rw[et,uu]⟩
 have hln:((cI (j-i).toNat).map λk:Nat=>V.int (i+(k:Int))).length<=aU:=by rw[aE,kI,bC];lia
 exact⟨.ref s.heap.objs.size,upd H s.heap.objs.size (.lst ((cI (j-i).toNat).map λk:Nat=>V.int (i+(k:Int)))),I.laid (t':=tk) hkp (aT _) ⟨hln,acc.toList,c',hV,by rw[Br];exact hS⟩,rfl,q _ (I.YB.fresh (aT _))⟩
end
end
section
def An(R:Hp->VK->Prop):Nat->Hp->VK->Prop
 |0,H,Q=>R H Q
 |n+1,H,Q=>∃d u,H d=some u/\jQ (some u)/\∀od,An R n (upd H d (.frz od u)) λv H'=>H' d=some (.frz od u)/\Q v (upd H' d u)
def Ay(n:Nat)(C:aa)(sp:Sp)(t:TA):TE:=λσ H Q=>t σ H λvs H1=>An (λH Q=>∀x dx,H x=none->H dx=none->dx≠x->sp (.ref x::vs) (upd (upd H dx (.own x)) x (.ins C dx [])) (λv H2=>v= .non/\Q (.ref x) H2) E0) n H1 Q
theorem GO{X:Cx}{Yw:List (aa×Obj)}{σ:L2.St}{R:Hp->VK->Prop}{t:Sem ac}(h:∀(H:Hp)(s:ai)(Q:VK),Inv X Yw σ H s->R H Q->aq (aB X.prog X.w) X.A t (EP X Yw σ Q) X.xe s):
  ∀(n:Nat)(H:Hp)(s:ai)(Q:VK),Inv X Yw σ H s->An R n H Q->aq (aB X.prog X.w) X.A t (EP X Yw σ Q) X.xe s
 |0,H,s,Q,I,q=>h H s Q I q
 |n+1,H,s,Q,I,q=>by obtain⟨d,u,hd,mu,q⟩:=q;obtain⟨od,I1⟩:=I.lock hd mu;refine aW (GO h n _ s _ I1 (q od)) λv s1⟨x,H1,I2,r,e2,q⟩=>?_;exact⟨x,_,I2.unlock e2 (I.nofrz hd mu),r,q⟩
theorem Kg{X:Cx}{k n:Nat}{C:aa}{x:Str}{ps:List Str}{sp:Sp}{p pos:Pos}{e:aZ}{es:List aZ}{t:TA}(g:Gi X.prog X.w X.K X.mg X.Yx k C x ps sp)(hr:cr (k+1) X.A)(ha:PA X (e::es) t)(hg:Gl X x:=by rfl)(ZE:(x==("__debug__":Str))=false:=by decide)
  (he:bP (e::es) X.env=(false,eval e X.env)::bP es X.env:=by rfl)(YZ:(fq pos (bP es X.env)).any (·.1)=false:=by rfl):PE X (.Call (.Name x p) (e::es) [] pos) (Ay n C sp t):=by
 obtain⟨f,fd,h1,h2,h3,h4⟩:=g;intro Yw s σ H Q I h;refine oX (sB I hg h3 ?_ ZE);refine tW (h₀:=X.Yx) I.ok.mod.kin h2.kp (aW (ha pos Yw s σ H _ I h) λus s1⟨vs,H1,I1,r,q⟩=>⟨I1.kIn,?_⟩) he YZ;refine GO (λH s Q I q=>?_) n H1 s1 Q I1 q;exact yR (dvs:=[]) (ds:=[]) h2 h1 hr h4 .nil ox I r (by simpa only[jt]using q)
def Pl:HO->Prop
 | .lst _=>True
 | .dK _=>True
 | .tup _=>True
 | .frz _ (.tup _)=>True
 | .ins _ _ fs=>fs.lookup ("edits":Str)=none/\fs.lookup ("numbers":Str)=none
 |_=>False
section
variable{A:Ad}{H H':Hp}{a l nb dn d:aa}{s:ao}
theorem e_.pl{n x k c:Int}{r:List Int}(h:e_ A H a n x k c r)(kk:∀b o,H b=some o->Pl o->H' b=some o):e_ A H' a n x k c r:=by obtain⟨dx,t,h1,h2⟩:=h.ex;exact⟨dx,t,kk _ _ h1 ⟨rfl,rfl⟩,kk _ _ h2 trivial⟩
theorem cQ.pl(g:cQ A H nb dn d s)(kk:∀b o,H b=some o->Pl o->H' b=some o):cQ A H' nb dn d s:=by obtain⟨YE,hc⟩:=g.cs;exact⟨kk _ _ g.nb ⟨rfl,rfl⟩,YE,kk _ _ hc.d trivial,hc.nd,hc.mem,λx hx=>e_.pl (hc.cell x hx) kk⟩
theorem gQ.pl(g:gQ A H a s)(kk:∀b o,H b=some o->Pl o->H' b=some o):gQ A H' a s:=by
 obtain⟨dw,m,so,ab,h1,h2,h3,h4⟩:=g.ex;obtain⟨Yy,m1,m2,m3⟩:=h2.ex;refine⟨dw,m,so,ab,kk _ _ h1 ⟨rfl,rfl⟩,⟨Yy,kk _ _ m1 trivial,m2,λx=>?_⟩,h3.mono (λo e=>?_) (λc a z=>kk _ _ z trivial),h4.mono (λo e=>?_) λc a z=>?_⟩
 .rcases m3 x with z|⟨a,e1,e2,e3⟩
  .exact .inl z
  .exact .inr ⟨a,e1,kk _ _ e2 trivial,e3⟩
 .obtain⟨kv,q,_⟩:=h3.is;rw[q]at e;cases e;exact kk _ _ q trivial
 .obtain⟨kv,q,_⟩:=h4.is;rw[q]at e;cases e;exact kk _ _ q trivial
 .obtain⟨fo,e1,e2⟩:=(show iP H a s c.number from z).ex;exact⟨fo,kk _ _ e1 trivial,e2⟩
theorem eX.pl(h:eX A H a s)(kk:∀b o,H b=some o->Pl o->H' b=some o):eX A H' a s:=by
 obtain⟨dx,nb,wi,rs,wk,dn,d,ks,ws,h1,h2,h3,h4,h5,h6,h7⟩:=h.ex;obtain⟨Yy,r1,r2,r3,r4⟩:=h4.ex;refine⟨dx,nb,wi,rs,wk,dn,d,ks,ws,kk _ _ h1 ⟨rfl,rfl⟩,h2.pl kk,h3.pl kk,⟨Yy,kk _ _ r1 trivial,r2,r3,λn hn=>?_⟩,h5,kk _ _ h6 trivial,aY.mapP h7 λa b q=>q.but λb xs e=>kk _ _ e trivial⟩;obtain⟨t,t1,t2⟩:=r4 n hn;refine⟨t,t1,?_⟩;rcases t2 with(q|⟨o,q⟩)|q
 .exact .inl (.inl (kk _ _ q trivial))
 .exact .inl (.inr ⟨o,kk _ _ q trivial⟩)
 .exact .inr q
end
def wp(o:HO):Prop:=∃C dx l i,o= .ins C dx (f9 l i)
open Classical in
noncomputable def fz(H:Hp)(M:List aa):Hp:=λb=>if b∈M\/(∃o,H b=some o/\wp o)then none else H b
section
variable{H H':Hp}{M M' N:List aa}{b:aa}{o:HO}
theorem qk:fz H M b=some o↔H b=some o/\b∉M/\¬wp o:=by
 unfold fz;by_cases h:b∈M\/(∃o,H b=some o/\wp o)
 .rw[if_pos h];constructor
  .intro z;cases z
  .rintro⟨h1,h2,h3⟩;rcases h with z|⟨o',e,z⟩
   .exact absurd z h2
   .rw[h1]at e;cases e;exact absurd z h3
 .rw[if_neg h];exact⟨λe=>⟨e,λz=>h (.inl z),λz=>h (.inr ⟨o,e,z⟩)⟩,λe=>e.1⟩
theorem nY:ag (fz H M) H:=λb o e=>(qk.mp e).1
theorem qx(k:Kp H H' N)(hN:∀b∈N,b∈M\/∃o,H b=some o/\wp o)(hM:∀b∈M',b∈M\/H b=none):ag (fz H M) (fz H' M'):=λb o e=>by
 obtain⟨h1,h2,h3⟩:=qk.mp e;refine qk.mpr ⟨k b o h1 λz=>?_,λz=>?_,h3⟩
 .rcases hN b z with q|⟨o',q,r⟩
  .exact h2 q
  .rw[h1]at q;cases q;exact h3 r
 .rcases hM b z with q|q
  .exact h2 q
  .rw[h1]at q;cases q
theorem Iu(k:ag H H'):ag (fz H M) (fz H' M):=qx (Kp.of k []) (λb hb=>by cases hb) λb hb=> .inl hb
end
def jH(s:aP):List ao:=(cI (s.edits.length+1)).map (bj s)
structure bu(A:Ad)(H:Hp)(hi dx le lp dm:aa)(s:aP):Prop where
 h:H hi=some (.ins A.Hi dx (d_ le lp dm))
 ed:∃es:List aa,H le=some (.lst (es.map V.ref))/\aY (eJ A H) es s.edits
 mo:∃ms:List (Nat×Nat),H dm=some (.dK (ms.map cu))/\(ms.map λy=>y.1).Nodup/\∀y,y∈ms↔y∈s.moments
 pg:∃ps:List aa,H lp=some (.lst (ps.map V.ref))/\aY (eX A (fz H [hi,le,lp,dm])) ps (jH s)
 nl:le≠lp
section
variable{A:Ad}{H H':Hp}{h dx le lp dm:aa}{s:aP}
theorem bu.same(g:bu A H h dx le lp dm s)(k:ag H H'):bu A H' h dx le lp dm s:=by obtain⟨es,h1,h2⟩:=g.ed;obtain⟨ms,h3,h4⟩:=g.mo;obtain⟨ps,h5,h6⟩:=g.pg;exact⟨k _ _ g.h,⟨es,k _ _ h1,aY.mapP h2 λa e q=>q.same k⟩,⟨ms,k _ _ h3,h4⟩,⟨ps,k _ _ h5,aY.mapP h6 λa e q=>q.same (Iu k)⟩,g.nl⟩
theorem bu.len(g:bu A H h dx le lp dm s):∃es:List aa,H le=some (.lst (es.map V.ref))/\aY (eJ A H) es s.edits/\es.length=s.edits.length:=by obtain⟨es,h1,h2⟩:=g.ed;exact⟨es,h1,h2,dH h2⟩
theorem FE(s:aP):(jH s).length=s.edits.length+1:=by unfold jH;rw[aE,kI]
theorem RG{s:aP}{p:Nat}(h:p<=s.edits.length):(jH s)[p]? =some (bj s p):=by unfold jH;rw[cq,List.getElem?_range (by lia)];rfl
theorem uz{α β:Type}{F:α->β->Prop}{l:List α}{r:List β}(h:aY F l r):∀{i:Nat}{b:β},r[i]? =some b->∃a,l[i]? =some a/\F a b:=by
 induction h with
 |nil=>intro i b e;cases e
 |cons k _ ih=>
  intro i b e;cases i with
  |zero=>cases e;exact⟨_,rfl,k⟩
  |succ i=>exact ih e
theorem bu.page(g:bu A H h dx le lp dm s):∃ps:List aa,H lp=some (.lst (ps.map V.ref))/\ps.length=s.edits.length+1/\∀p,p<=s.edits.length->∃pa,ps[p]? =some pa/\eX A (fz H [h,le,lp,dm]) pa (bj s p):=by obtain⟨ps,h5,h6⟩:=g.pg;exact⟨ps,h5,by rw[dH h6,FE],λp hp=>uz h6 (RG hp)⟩
theorem bu.wr(g:bu A H h dx le lp dm s):∀b∈[h,le,lp,dm],∀o,H b=some o->Wr o:=by
 intro b hb o e;obtain⟨es,h1,_⟩:=g.ed;obtain⟨ms,h3,_⟩:=g.mo;obtain⟨ps,h5,_⟩:=g.pg;rcases aV.mp hb with rfl|hb
 .rw[g.h]at e;cases e;exact .inr (.inr (.inr (.inl ⟨_,_,_,_,_,rfl⟩)))
 .rcases aV.mp hb with rfl|hb
  .rw[h1]at e;cases e;exact .inl ⟨_,rfl⟩
  .rcases aV.mp hb with rfl|hb
   .rw[h5]at e;cases e;exact .inl ⟨_,rfl⟩
   .rw[bY.mp hb,h3]at e;cases e;exact .inr (.inl ⟨_,rfl⟩)
theorem bu.ne(g:bu A H h dx le lp dm s):h≠le/\h≠dm/\le≠dm/\h≠lp/\lp≠dm:=by obtain⟨es,h1,_⟩:=g.ed;obtain⟨ms,h3,_⟩:=g.mo;obtain⟨ps,h5,_⟩:=g.pg;exact⟨bx g.h h1 (by intro z;cases z),bx g.h h3 (by intro z;cases z),bx h1 h3 (by intro z;cases z),bx g.h h5 (by intro z;cases z),bx h5 h3 (by intro z;cases z)⟩
theorem bu.has(g:bu A H h dx le lp dm s):∀b∈[h,le,lp,dm],H b≠none:=by
 intro b hb e;obtain⟨es,h1,_⟩:=g.ed;obtain⟨ms,h3,_⟩:=g.mo;obtain⟨ps,h5,_⟩:=g.pg;rcases aV.mp hb with rfl|hb
 .rw[g.h]at e;cases e
 .rcases aV.mp hb with rfl|hb
  .rw[h1]at e;cases e
  .rcases aV.mp hb with rfl|hb
   .rw[h5]at e;cases e
   .rw[bY.mp hb,h3]at e;cases e
theorem eX.in_fz{a:aa}{n:ao}{M:List aa}(h:eX A H a n)(hM:∀b∈M,∀o,H b=some o->¬Pl o)(k:∀b o,H b=some o->b∉M->H' b=some o):eX A (fz H' M) a n:=h.pl λb o e z=>by have nb:b∉M:=λq=>hM b q o e z;refine qk.mpr ⟨k b o e nb,nb,λq=>?_⟩;obtain⟨C,dx,l,i,rfl⟩:=q;have z2:(f9 l i).lookup ("numbers":Str)=none:=z.2;rw[sv]at z2;cases z2
end
section
def zX(A:Ad):Sp:=λvs H Q _=>∃(nb dn d le:aa)(s:ao)(es:List aa)(Y7:List ej),vs=[.ref nb,.ref le]/\cQ A H nb dn d s/\Wf s/\H le=some (.lst (es.map V.ref))/\aY (eJ A H) es Y7/\(∀e∈Y7,g0 e)/\
 ∀(H':Hp)(nb' dn' d':aa),cQ A H' nb' dn' d' (gU s Y7)->ag H H'->H nb'=none->H d'=none->Q (.ref nb') H'
theorem QE(F:aO K "with_edits" "Notebook.with_edits" Bh f fd)(T:Txt A K mg)(GN:Gi P w K mg Yx 1 A.Nb "Notebook" ["self"] (yM A))
  (G1:Gm P w K mg Yx 2 A.Pu "do_on" ["self","notebook"] (qB A oy))(G2:Gm P w K mg Yx 2 A.Dr "do_on" ["self","notebook"] (qB A oj))(G3:Gm P w K mg Yx 2 A.Se "do_on" ["self","notebook"] (qB A oh)):
  aI P w K mg Yx aN 3 f fd ["self","edits"] (zX A):=by
 exists ["self","edits","edited","edit"]
 .obtain⟨ob,don,od,le,s,es,Y7,rfl,g,hw0,h1,h2,YB,q⟩:=h;obtain⟨YE,hc⟩:=g.cs;refine⟨_,ap (pS 2 nd (Am GN hr)) (ap (df (pv 2) (fX (Ts rfl) rfl T.dict boot_dict (af (aD (pv 0) rfl) ak)) rfl) (ap (df (pv 2) (aD (pv 0) rfl) rfl) (ap (fH dG rfl (dY (pv 1)) (pN 3 nd) (au (cX (PE.or (bw G1 hr (pv 3) (af (pv 2) ak)) (PE.or (bw G2 hr (pv 3) (af (pv 2) ak)) (bw G3 hr (pv 3) (af (pv 2) ak))))))) (au (aF (pv 2)))))),?_⟩
  dsimp![]
  intro nb dn hnb Zn Y0;refine⟨nb,dn,rfl,am,λH1 d gN kp hd=>⟨rfl,?_⟩⟩;have s1:ag H H1:=λb o e=>kp b o (by rw[aj (aG e hnb),aj (aG e Zn)];exact e) (by simpa using aG e hnb);have g1:=g.same s1;have hc1:=hc.same s1;have nbo:nb≠ob:=aX (aG g.nb hnb)
  dsimp![g1.nb,T.Zq,T.Β,T.abm,ij,Rw,hc1.d]
  intro d' Z1;have hd0:H d'=none:=s1.free Z1;have s2:=ag.new (o:=HO.dK (YE.map dt)) Z1;have nd':nb≠d':=aG gN.nb Z1
  dsimp![aj nd',gN.nb,T.Zq,T.Β,T.abm]
  have e1:bE "cells" (V.ref d') (ip d (({}:ao).seed:Int))=ip d' (({}:ao).seed:Int):=rfl;rw[e1];refine⟨by show 2<1000;decide,?_⟩;have o2:upd (upd H1 d' (.dK (YE.map dt))) nb (.ins A.Nb dn (ip d' (({}:ao).seed:Int))) ob=some (.ins A.Nb don (ip od s.seed)):=by rw[aj (aX nbo)];exact s2 _ _ g1.nb
  dsimp![o2,T.Zq,T.abm,zG]
  have e2:bE "seed" (V.int (s.seed:Int)) (ip d' (({}:ao).seed:Int))=ip d' (s.seed:Int):=rfl;rw[e2];refine⟨by show 2<1000;decide,?_⟩;generalize ZT:upd (upd H1 d' (.dK (YE.map dt))) nb (.ins A.Nb dn (ip d' (s.seed:Int)))=H3;have s3:ag H H3:=λb o e=>by rw[<-ZT,aj (aG e hnb)];exact s2 _ _ (s1 _ _ e)
  have g3:cQ A H3 nb dn d' s:=⟨by rw[<-ZT,am],YE,by rw[<-ZT,aj (aX nd'),am],hc.nd,hc.mem,λx hx=>(hc.cell x hx).same s3⟩;refine⟨⟨_,ay.of (s3 _ _ h1)⟩,ie (K:=K) (xs:=es.map V.ref) (λi σ H2=>(∃v:Option V,σ=[some (.ref ob),some (.ref le),some (.ref nb),v])/\ag H H2/\cQ A H2 nb dn d' (gU s (Y7.take i))) ⟨⟨none,rfl⟩,s3,g3⟩ (λi σ H2 _ z=>ay.of (z.2.1 _ _ h1)) ?_ ?_⟩
  .rintro i x σ H2 hi ⟨⟨v,rfl⟩,sH,gi⟩;rw[cq]at hi;obtain⟨e,he,rfl⟩:=dU.mp hi;obtain⟨ed,ν,hE⟩:=h_ h2 he;have hE2:=hE.same sH;have hw:Wf (gU s (Y7.take i)):=uD hw0 λe he=>YB e (mK he);have aaB:g0 ed:=YB ed (cU ν);have e1:Y7.take (i+1)=Y7.take i++[ed]:=by rw[dA,ν];rfl
   have fin:∀H3:Hp,cQ A H3 nb dn d' (fj (gU s (Y7.take i)) ed)->Kp H2 H3 [nb,d']->
     ag H H3/\cQ A H3 nb dn d' (gU s (Y7.take (i+1))):=λH3 g3 k3=>by
    refine⟨λb o e=>k3 b o (sH b o e) ?_,by rw[e1,Dq];exact g3⟩;simp only[aV,gG,or_false,not_or];exact⟨aG e hnb,aG e hd0⟩
   dsimp![]
   cases ed with
   |put c=>obtain⟨Zj,ca,e1,e2⟩:=hE2;refine .inl ⟨_,_,e1,rfl,e,nb,dn,d',.put c,_,rfl,⟨Zj,ca,e1,e2⟩,trivial,gi,hw,aaB,λH3 g3 k3=>⟨⟨_,rfl⟩,fin H3 g3 k3⟩⟩
   |drop n=>obtain⟨Zj,e1⟩:=hE2;refine .inr (.inl ⟨_,_,e1,rfl,e,nb,dn,d',.drop n,_,rfl,⟨Zj,e1⟩,trivial,gi,hw,aaB,λH3 g3 k3=>⟨⟨_,rfl⟩,fin H3 g3 k3⟩⟩)
   |seed x=>obtain⟨Zj,e1⟩:=hE2;refine .inr (.inr ⟨_,_,e1,rfl,e,nb,dn,d',.seed x,_,rfl,⟨Zj,e1⟩,trivial,gi,hw,aaB,λH3 g3 k3=>⟨⟨_,rfl⟩,fin H3 g3 k3⟩⟩)
  .rintro σ H2 ⟨⟨v,rfl⟩,sH,gi⟩
   dsimp![]
   refine q H2 nb dn d' ?_ sH hnb hd0;have e2:(es.map V.ref).length=Y7.length:=by rw[aE];exact dH h2
   rw[e2,dz]at gi;exact gi
end
end
section
theorem Pq{s:aP}{e:ej}{p:Nat}(h:p<=s.edits.length):bj {s with edits:=s.edits++[e]} p=bj s p:=by show gU {} ((s.edits++[e]).take p)=gU {} (s.edits.take p);rw[List.take_append_of_le_length h]
theorem QR(s:aP)(e:ej):jH {s with edits:=s.edits++[e]}=jH s++[fj (a_ s) e]:=by
 unfold jH;show(cI ((s.edits++[e]).length+1)).map _=_;rw[bG,show s.edits.length+[e].length+1=(s.edits.length+1)+1 from rfl,ub,bV];congr 1
 .refine fS λp hp=>Pq ?_;have:=jv.mp hp
  lia
 .show[gU {} ((s.edits++[e]).take (s.edits.length+1))]=_;rw[qM (by simp),Dq,VS]
theorem QQ{s:aP}{p:Nat}(h:p<=s.edits.length)(mo:List (Nat×Nat)):jH {edits:=s.edits.take p,moments:=mo}=(jH s).take (p+1):=by unfold jH;show(cI ((s.edits.take p).length+1)).map _=_;rw[cO,o9 h,<-lI,List.take_range,o9 (by lia)];refine fS λk hk=>?_;have:=jv.mp hk;show gU {} ((s.edits.take p).take k)=gU {} (s.edits.take k);rw[List.take_take,o9 (by lia)]
section
def qc(A:Ad):Sp:=λvs H Q _=>∃(h dx le lp dm:aa)(s:aP),vs=[.ref h]/\bu A H h dx le lp dm s/\Q (.int s.edits.length) H
theorem QI(F:aO K "last_position" "History.last_position" A9 f fd)(T:Txt A K mg):aI P w K mg Yx aN 1 f fd ["self"] (qc A):=by
 exists ["self"]
 .obtain⟨h,dx,le,lp,dm,s,rfl,g,q⟩:=h;obtain⟨es,h1,h2,h3⟩:=g.len;refine⟨_,au (aF (cE kQ rfl T.len fU (af (aD (pv 0) rfl) ak))),?_⟩
  dsimp![g.h,T.YR,T.aaN,nX]
  refine⟨_,ay.of h1,?_⟩;rw[aE,h3];exact q
def nQ(A:Ad):Sp:=λvs H Q _=>∃(h dx le lp dm:aa)(p:Int)(s:aP),vs=[.ref h,.int p]/\bu A H h dx le lp dm s/\Q (.bl (bB s p)) H
theorem RD(F:aO K "has_position" "History.has_position" Bc f fd)(T:Txt A K mg)(G:Gm P w K mg Yx 1 A.Hi "last_position" ["self"] (qc A)):aI P w K mg Yx aN 2 f fd ["self","p"] (nQ A):=by
 exists ["self","p"]
 .obtain⟨h,dx,le,lp,dm,p,s,rfl,g,q⟩:=h;refine⟨_,au (aF (Gw io io be (pv 1) (bo G hr (pv 0)))),?_⟩
  dsimp![g.h]
  have e:bB s p=(decide (0<=p)&&decide (p<=(s.edits.length:Int))):=rfl;rw[e]at q;by_cases c:0<=p
  .rw[if_pos c];refine⟨by rfl,h,dx,le,lp,dm,s,rfl,g,?_⟩
   dsimp![]
   simpa[c]using q
  .rw[if_neg c];simpa[c]using q
def vH(A:Ad):Sp:=λvs H Q _=>∃(h dx le lp dm:aa)(s:aP),vs=[.ref h]/\bu A H h dx le lp dm s/\Q (.bl (decide (40<=s.edits.length))) H
theorem QK(F:aO K "is_full" "History.is_full" BP f fd)(T:Txt A K mg):aI P w K mg Yx aN 1 f fd ["self"] (vH A):=by
 exists ["self"]
 .obtain⟨h,dx,le,lp,dm,s,rfl,g,q⟩:=h;obtain⟨es,h1,h2,h3⟩:=g.len;refine⟨_,au (aF (ii WA (cE kQ rfl T.len fU (af (aD (pv 0) rfl) ak)) (bg T.aiI) (bZ _))),?_⟩
  dsimp![g.h,T.YR,T.aaN,nX]
  refine⟨_,ay.of h1,?_⟩;rw[aE,h3];have e:decide ((40:Int)<=(s.edits.length:Int))=decide (40<=s.edits.length):=by
   by_cases z:40<=s.edits.length
   .simp[z];lia
   .simp[z];lia
  rw[e];exact q
def lW(A:Ad):Sp:=λvs H Q _=>∃(h dx le lp dm:aa)(p q:Int)(s:aP),vs=[.ref h,.int p,.int q]/\bu A H h dx le lp dm s/\Q (.bl (bB s p&&bB s q&&decide (p<=q))) H
theorem QH(F:aO K "has_span" "History.has_span" BD f fd)(T:Txt A K mg)(G:Gm P w K mg Yx 2 A.Hi "has_position" ["self","p"] (nQ A)):aI P w K mg Yx aN 3 f fd ["self","p","q"] (lW A):=by
 exists ["self","p","q"]
 .obtain⟨h,dx,le,lp,dm,p,q,s,rfl,g,k⟩:=h;refine⟨_,au (aF (z_ (bw G hr (pv 0) (af (pv 1) ak)) (z_ (bw G hr (pv 0) (af (pv 2) ak)) (qg (ii io (pv 1) (pv 2) (bZ _)))))),?_⟩
  dsimp![g.h]
  refine⟨by rfl,h,dx,le,lp,dm,p,s,rfl,g,?_⟩;cases c1:bB s p with
  |false=>rw[c1]at k;dsimp![];exact k
  |true=>
   dsimp![g.h]
   refine⟨by rfl,h,dx,le,lp,dm,q,s,rfl,g,?_⟩;rw[c1]at k;cases c2:bB s q with
   |false=>rw[c2]at k;dsimp![];exact k
   |true=>rw[c2]at k;dsimp![];exact k
def zZ(A:Ad):Sp:=λvs H Q _=>∃(h dx le lp dm:aa)(k:Nat)(s:aP),vs=[.ref h,.int ((k+1:Nat):Int)]/\bu A H h dx le lp dm s/\k<s.edits.length/\∀(es:List aa)(e:aa)(ed:ej),H le=some (.lst (es.map V.ref))->es[k]? =some e->s.edits[k]? =some ed->eJ A H e ed->Q (.ref e) H
theorem QM(F:aO K "edit_of_number" "History.edit_of_number" A6 f fd)(T:Txt A K mg):aI P w K mg Yx aN 1 f fd ["self","k"] (zZ A):=by
 exists ["self","k"]
 .obtain⟨h,dx,le,lp,dm,k,s,rfl,g,hk,q⟩:=h;obtain⟨es,h1,h2,h3⟩:=g.len;refine⟨_,au (aF (cH eG (aD (pv 0) rfl) (bn jD (pv 1) be) (λ_ _=>rfl))),?_⟩
  dsimp![g.h,T.YR,T.aaN,nX]
  have he:es[k]? =some es[k]:=cR (by lia);obtain⟨ed,ν,hE⟩:=h_ h2 he;refine⟨_,ay.of h1,V.ref es[k],?_,q es _ ed h1 he ν hE⟩;rw[show((k+1:Nat):Int)-1=(k:Int)by lia];exact pY (by rw[cq,he];rfl)
def su(A:Ad):Sp:=λvs H Q _=>∃(h dx le lp dm:aa)(s:aP),vs=[.ref h]/\bu A H h dx le lp dm s/\
 ∀(nb dn d:aa),cQ A (fz H [h,le,lp,dm]) nb dn d (a_ s)->Q (.ref nb) H
theorem RC(F:aO K "notebook_now" "History.notebook_now" Bb f fd)(T:Txt A K mg)(G:Gm P w K mg Yx 1 A.Hi "last_position" ["self"] (qc A)):
  aI P w K mg Yx aN 2 f fd ["self"] (su A):=by
 exists ["self"]
 .obtain⟨h,dx,le,lp,dm,s,rfl,g,q⟩:=h;obtain⟨ps,h1,h2,h3⟩:=g.page;obtain⟨pa,e1,e2⟩:=h3 s.edits.length (aT _);obtain⟨dxp,nb,wi,rs,wk,dn,d,ks,ws,p1,p2,_⟩:=e2.ex;refine⟨_,au (aF (aD (cH eG (aD (pv 0) rfl) (bo G hr (pv 0)) (λ_ _=>rfl)) rfl)),?_⟩
  dsimp![g.h,T.YR,T.Zy,gq]
  refine⟨by rfl,h,dx,le,lp,dm,s,rfl,g,?_⟩
  dsimp![]
  refine⟨_,ay.of h1,V.ref pa,pY (by rw[cq,e1];rfl),?_⟩
  dsimp![nY _ _ p1,T.Y8,T.aaL,nW]
  exact q nb dn d p2
def u6(A:Ad):Sp:=λvs H Q _=>∃(h dx le lp dm e:aa)(s:aP)(ed:ej),vs=[.ref h,.ref e]/\bu A H h dx le lp dm s/\cw s/\eJ A H e ed/\g0 ed/\
 ∀H':Hp,bu A H' h dx le lp dm {s with edits:=s.edits++[ed]}->Kp H H' [h,le,lp,dm]->Q .non H'
theorem RB(F:aO K "record" "History.record" Cb f fd)(T:Txt A K mg)(GP:Gi P w K mg Yx 5 A.Pg "Page" ["self","notebook"] (u7 A))(GW:Gm P w K mg Yx 3 A.Nb "with_edits" ["self","edits"] (zX A))(GN:Gm P w K mg Yx 2 A.Hi "notebook_now" ["self"] (su A)):
  aI P w K mg Yx aN 7 f fd ["self","edit"] (u6 A):=by
 exists ["self","edit"]
 .obtain⟨h,dx,le,lp,dm,e,s,ed,rfl,g,ok,he,YB,q⟩:=h;obtain⟨es,h1,h2,h3⟩:=g.len;obtain⟨ms,h4,h5⟩:=g.mo;obtain⟨ps,h6,h7⟩:=g.pg;obtain⟨n1,n2,n3,n4,n5⟩:=g.ne;have n6:=g.nl;have hw:=dM ok.ed s.edits.length;refine⟨_,ap (cX (eY fe jp jo i6 (aD (pv 0) rfl) (af (Kg (n:=3) GP hr (af (bw GW hr.m (bo GN hr.m (pv 0)) (af (bI (af (pv 1) ak)) ak)) ak)) ak))) (au (cX (eY fe jp jo i6 (aD (pv 0) rfl) (af (pv 1) ak)))),?_⟩
  dsimp![g.h,T.YR,T.Zy,gq,dZ h6,Ay]
  refine⟨by rfl,h,dx,le,lp,dm,s,rfl,g,λnb dn d gN=>?_⟩;have gN0:=gN.same nY
  dsimp![gN0.nb]
  refine⟨by rfl,by decide,λl hl=>?_⟩;have s1:=ag.new (o:=HO.lst [V.ref e]) hl;refine⟨nb,dn,d,l,a_ s,[e],[ed],rfl,gN0.same s1,hw,am,.cons (he.same s1) .nil,λx hx=>by rw[bY.mp hx];exact YB,λH2 nb' dn' d' g2 s2 anK Z1=>?_⟩;have s12:=s1.trans s2;have h4':=s1 _ _ h4;have eA:gU (a_ s) [ed]=fj (a_ s) ed:=rfl;rw[eA]at g2;have le2:=s12 _ _ h1;have lp2:=s12 _ _ h6;have dm2:=s12 _ _ h4;refine⟨le,_,le2,trivial,λo1=>⟨lp,.lst (ps.map V.ref),by rw[aj (aX n6)];exact lp2,trivial,λo2=>⟨dm,.dK (ms.map cu),by rw[aj (aX n5),aj (aX n3)];exact dm2,trivial,λo3=>?_⟩⟩⟩;generalize hL:upd (upd (upd H2 le (.frz o1 (.lst (es.map V.ref)))) lp (.frz o2 (.lst (ps.map V.ref)))) dm (.frz o3 (.dK (ms.map cu)))=HL;have L1:HL le=some (.frz o1 (.lst (es.map V.ref))):=by rw[<-hL,aj n3,aj n6,am]
  have L2':HL lp=some (.frz o2 (.lst (ps.map V.ref))):=by rw[<-hL,aj n5,am]
  have L3:HL dm=some (.frz o3 (.dK (ms.map cu))):=by rw[<-hL,am]
  have L4:∀b o,H2 b=some o->b∉[le,lp,dm]->HL b=some o:=λb o e hb=>by simp only[aV,gG,or_false,not_or]at hb;rw[<-hL,aj hb.2.2,aj hb.2.1,aj hb.1];exact e
  intro pa dp Zt hdp Y0;have sP:ag HL (upd (upd HL dp (.own pa)) pa (.ins A.Pg dp [])):=ag.two hdp Zt;have nm:∀b o,H2 b=some o->(∀xs,o≠ .lst xs)->b≠dm->b∉[le,lp,dm]:=λb o eb z nd=>by simp only[aV,gG,or_false,not_or];exact⟨bx eb le2 (z _),bx eb lp2 (z _),nd⟩
  have gL:cQ A HL nb' dn' d' (fj (a_ s) ed):=by obtain⟨YE,hc⟩:=g2.cs;refine⟨L4 _ _ g2.nb (nm _ _ g2.nb (λ_ z=>by cases z) (bx g2.nb dm2 (by intro z;cases z))),YE,L4 _ _ hc.d (nm _ _ hc.d (λ_ z=>by cases z) (λz=>by rw[z,h4']at Z1;cases Z1)),hc.nd,hc.mem,λx hx=>?_⟩;obtain⟨dc,tc,c1,c2⟩:=(hc.cell x hx).ex;exact⟨dc,tc,L4 _ _ c1 (nm _ _ c1 (λ_ z=>by cases z) (bx c1 dm2 (by intro z;cases z))),L4 _ _ c2 (nm _ _ c2 (λ_ z=>by cases z) (bx c2 dm2 (by intro z;cases z)))⟩
  refine⟨pa,dp,nb',dn',d',_,rfl,am,gL.same sP,Hs hw YB,λH3 hP k3=>⟨rfl,?_⟩⟩;have k3L:ag HL H3:=λb o eb=>k3 b o (sP _ _ eb) (aG eb Zt);have a1:=k3L _ _ L1;have a2:=k3L _ _ L2';have a3:=k3L _ _ L3;refine⟨a3,by rw[aj n5];exact a2,by rw[aj n6,aj n3];exact a1,?_⟩;generalize Z4:upd (upd (upd H3 dm (.dK (ms.map cu))) lp (.lst (ps.map V.ref))) le (.lst (es.map V.ref))=H4;have b1:H4 le=some (.lst (es.map V.ref)):=by rw[<-Z4,am]
  have b2:H4 lp=some (.lst (ps.map V.ref)):=by rw[<-Z4,aj (aX n6),am]
  have b3:H4 dm=some (.dK (ms.map cu)):=by rw[<-Z4,aj (aX n3),aj (aX n5),am]
  have b4:∀b o,H3 b=some o->b∉[le,lp,dm]->H4 b=some o:=λb o eb hb=>by simp only[aV,gG,or_false,not_or]at hb;rw[<-Z4,aj hb.1,aj hb.2.1,aj hb.2.2];exact eb
  have sH4:ag H H4:=λb o eb=>by
   have e2:=s12 _ _ eb;by_cases z1:b=le
   .rw[z1]at e2 ⊢;rw[le2]at e2;rw[<-e2];exact b1
   by_cases z2:b=lp
   .rw[z2]at e2 ⊢;rw[lp2]at e2;rw[<-e2];exact b2
   by_cases z3:b=dm
   .rw[z3]at e2 ⊢;rw[dm2]at e2;rw[<-e2];exact b3
   have hb:b∉[le,lp,dm]:=by simp[z1,z2,z3]
   exact b4 _ _ (k3L _ _ (L4 _ _ e2 hb)) hb
  have g4:=g.same sH4;have YZ:ps.length=s.edits.length+1:=by rw[dH h7,FE]
  have YI:=ok.YI
  dsimp![b2]
  refine⟨by rw[aE,bC];lia,?_⟩;have c1:upd H4 lp (.lst (ps.map V.ref++[V.ref pa])) h=some (.ins A.Hi dx (d_ le lp dm)):=by rw[aj n4];exact g4.h
  have c2:upd H4 lp (.lst (ps.map V.ref++[V.ref pa])) le=some (.lst (es.map V.ref)):=by rw[aj n6];exact b1
  dsimp![c1,T.YR,T.aaN,nX,dZ c2,c2]
  refine⟨by rw[aE,bC];lia,?_⟩;generalize hH6:upd (upd H4 lp (.lst (ps.map V.ref++[V.ref pa]))) le (.lst (es.map V.ref++[V.ref e]))=H6;have k46:Kp H4 H6 [h,le,lp,dm]:=λb o eb hb=>by simp only[aV,gG,or_false,not_or]at hb;rw[<-hH6,aj hb.2.1,aj hb.2.2.1];exact eb
  have k6:Kp H H6 [h,le,lp,dm]:=(Kp.of sH4 _).trans k46;refine q H6 ⟨by rw[<-hH6,aj n1];exact c1,⟨es++[e],by rw[<-hH6,am,bV];rfl,xT (aY.mapP h2 λa b k=>(k.same sH4).keep k46 g4.wr) ((he.same sH4).keep k46 g4.wr)⟩,⟨ms,by rw[<-hH6,aj (aX n3),aj (aX n5)];exact b3,h5⟩,⟨ps++[pa],by rw[<-hH6,aj (aX n6),am,bV];rfl,?_⟩,n6⟩ k6;rw[QR];refine xT (aY.mapP h7 λa b k=>k.same (qx k6 (λb hb=> .inl hb) λb hb=> .inl hb)) (hP.in_fz (λb hb o eb=>?_) λb o eb hb=>?_)
  .have hh3:H3 h=some (.ins A.Hi dx (d_ le lp dm)):=k3L _ _ (L4 _ _ (s12 _ _ g.h) (by simp[n1,n2,n4]));simp only[aV,gG,or_false]at hb;rcases hb with rfl|rfl|rfl|rfl
   .rw[hh3]at eb;cases eb;intro z;have z1:=z.1;rw[nX]at z1;cases z1
   .rw[a1]at eb;cases eb;exact λz=>z
   .rw[a2]at eb;cases eb;exact λz=>z
   .rw[a3]at eb;cases eb;exact λz=>z
  .exact k46 b o (b4 b o eb (λz=>hb (bq _ z))) hb
def Ga(A:Ad):Sp:=λvs H Q _=>∃p dx:aa,vs=[.ref p]/\H p=some (.ins A.Hi dx [])/\∀(H':Hp)(le lp dm:aa),bu A H' p dx le lp dm pA->Kp H H' [p]->H le=none->H lp=none->H dm=none->Q .non H'
theorem QJ(F:aO K "__init__" "History.__init__" CS f fd)(T:Txt A K mg)(GP:Gi P w K mg Yx 5 A.Pg "Page" ["self","notebook"] (u7 A))(GN:Gi P w K mg Yx 1 A.Nb "Notebook" ["self"] (yM A)):aI P w K mg Yx aN 7 f fd ["self"] (Ga A):=by
 exists ["self"]
 .obtain⟨p,dx,rfl,hp,q⟩:=h;refine⟨_,ap (df (pv 0) (bI ak) rfl) (ap (df (pv 0) (bI (af (Kg (n:=1) GP hr (af (Am GN hr.m) ak)) ak)) rfl) (au (df (pv 0) jY rfl))),?_⟩
  dsimp![]
  refine⟨by decide,λle Y4=>?_⟩;have n1:p≠le:=aG hp Y4
  dsimp![aj n1,hp,T.YR,T.aaN,Ay]
  have e1:bE "edits" (V.ref le) []=([("edits",.ref le)]:List (Str×V)):=rfl;rw[e1];generalize hHa:upd (upd H le (.lst [])) p (.ins A.Hi dx [("edits",V.ref le)])=Ha;have a1:Ha p=some (.ins A.Hi dx [("edits",V.ref le)]):=by rw[<-hHa,am]
  have a2:Ha le=some (.lst []):=by rw[<-hHa,aj (aX n1),am]
  have a3:∀b o,H b=some o->b≠p->Ha b=some o:=λb o e n=>by rw[<-hHa,aj n,aj (aG e Y4)];exact e
  intro nb dn hnb Zn Y0;refine⟨nb,dn,rfl,am,λHb d gN kp hd=>⟨rfl,?_⟩⟩;have sN:ag Ha (upd (upd Ha dn (.own nb)) nb (.ins A.Nb dn [])):=ag.two Zn hnb;have sb:ag Ha Hb:=λb o e=>kp b o (sN _ _ e) (by simpa using aG e hnb);have le2:=sb _ _ a2;refine⟨le,.lst [],le2,trivial,λo1=>?_⟩;have L4:∀b o,Hb b=some o->(∀xs,o≠ .lst xs)->upd Hb le (.frz o1 (.lst [])) b=some o:=λb o e z=>by rw[aj (bx e le2 (z _))];exact e
  generalize hL:upd Hb le (.frz o1 (.lst []))=HL at L4;have L1:HL le=some (.frz o1 (.lst [])):=by rw[<-hL,am]
  have gL:cQ A HL nb dn d {}:=by obtain⟨YE,hc⟩:=gN.cs;refine⟨L4 _ _ gN.nb (λ_ z=>by cases z),YE,L4 _ _ hc.d (λ_ z=>by cases z),hc.nd,hc.mem,λx hx=>?_⟩;obtain⟨dc,tc,c1,c2⟩:=(hc.cell x hx).ex;exact⟨dc,tc,L4 _ _ c1 (λ_ z=>by cases z),L4 _ _ c2 (λ_ z=>by cases z)⟩
  intro pa dp Zt hdp ajC;have sP:ag HL (upd (upd HL dp (.own pa)) pa (.ins A.Pg dp [])):=ag.two hdp Zt;refine⟨pa,dp,nb,dn,d,{},rfl,am,gL.same sP,Hh,λH3 hP k3=>⟨rfl,?_⟩⟩;have k3L:ag HL H3:=λb o eb=>k3 b o (sP _ _ eb) (aG eb Zt);have p3:H3 p=some (.ins A.Hi dx [("edits",V.ref le)]):=k3L _ _ (L4 _ _ (sb _ _ a1) λ_ z=>by cases z);have l3:=k3L _ _ L1;refine⟨l3,by decide,λlp ι=>?_⟩;have n2:p≠lp:=aG (show upd H3 le (.lst []) p=_ by rw[aj n1];exact p3) ι;have n3:le≠lp:=aG am ι;have p4:upd (upd H3 le (.lst [])) lp (.lst [V.ref pa]) p=some (.ins A.Hi dx [("edits",V.ref le)]):=by rw[aj n2,aj n1];exact p3
  dsimp![p4,T.YR,T.Zy]
  have e2:bE "pages" (V.ref lp) ([("edits",.ref le)]:List (Str×V))=([("edits",.ref le),("pages",.ref lp)]:List (Str×V)):=rfl;rw[e2];intro dm ZR;have anW:=ZR;have n4:p≠dm:=aG am ZR;rw[aj (aX n4)]at ZR;have n5:lp≠dm:=aG am ZR;rw[aj (aX n5)]at ZR;have n6:le≠dm:=aG am ZR;rw[aj (aX n6)]at ZR;rw[aj (aX n3)]at ι
  dsimp![aj n4,T.YR,T.aaM]
  have e3:bE "moments" (V.ref dm) ([("edits",.ref le),("pages",.ref lp)]:List (Str×V))=d_ le lp dm:=rfl;rw[e3];generalize hH7:upd (upd (upd (upd (upd H3 le (.lst [])) lp (.lst [V.ref pa])) p (.ins A.Hi dx [("edits",V.ref le),("pages",V.ref lp)])) dm (.dK [])) p (.ins A.Hi dx (d_ le lp dm))=H7;have k7:∀b o,H3 b=some o->b∉[p,le,lp,dm]->H7 b=some o:=λb o eb hb=>by simp only[aV,gG,or_false,not_or]at hb;rw[<-hH7,aj hb.1,aj hb.2.2.2,aj hb.1,aj hb.2.2.1,aj hb.2.1];exact eb
  have kH:∀b o,H b=some o->b≠p->H3 b=some o/\b≠le:=λb o eb n=>by have nl:=aG eb Y4;have:=sb _ _ (a3 b o eb n);refine⟨k3L _ _ ?_,nl⟩;rw[<-hL,aj nl];exact this
  refine q H7 le lp dm ⟨by rw[<-hH7,am],⟨[],by rw[<-hH7,aj (aX n1),aj n6,aj (aX n1),aj n3,am];rfl,.nil⟩,⟨[],by rw[<-hH7,aj (aX n4),am];rfl,mZ,λy=>Iff.rfl⟩,⟨[pa],by rw[<-hH7,aj (aX n2),aj n5,aj (aX n2),am];rfl,.cons (hP.in_fz (λb hb o eb=>?_) k7) .nil⟩,n3⟩ (λb o eb hb=>?_) Y4 ?_ ?_
  .simp only[aV,gG,or_false]at hb;rcases hb with rfl|rfl|rfl|rfl
   .rw[p3]at eb;cases eb;intro z;have z1:=z.1;cases z1
   .rw[l3]at eb;cases eb;exact λz=>z
   .rw[ι]at eb;cases eb
   .rw[ZR]at eb;cases eb
  .have Z_:b≠p:=by simpa using hb
   obtain⟨h3,nl⟩:=kH b o eb Z_;exact k7 b o h3 (by simp[Z_,nl,aG h3 ι,aG h3 ZR])
  .cases z:H lp with
   |none=>rfl
   |some o=>obtain⟨h3,_⟩:=kH lp o z (aX n2);rw[ι]at h3;cases h3
  .cases z:H dm with
   |none=>rfl
   |some o=>obtain⟨h3,_⟩:=kH dm o z (aX n4);rw[ZR]at h3;cases h3
end
end
section
section
def J2(A:Ad):Sp:=λvs H Q _=>∃(h dx le lp dm:aa)(p:Nat)(s:aP),vs=[.ref h,.int (p:Int)]/\bu A H h dx le lp dm s/\cw s/\p<=s.edits.length/\
 ∀(H':Hp)(YN YS YT:aa),bu A H' h dx YN YS YT {edits:=s.edits.take p,moments:=s.moments.filter λy=>decide (y.2<=p)}->Kp H H' [h]->H YN=none->Q .non H'
theorem RE(F:aO K "cut_behind" "History.cut_behind" Bm f fd)(T:Txt A K mg):aI P w K mg Yx aN 1 f fd ["self","p"] (J2 A):=by
 exists ["self","p","kept","name","position"]
 .obtain⟨h,dx,le,lp,dm,p,s,rfl,g,ok,YZ,q⟩:=h;obtain⟨es,h1,h2,h3⟩:=g.len;obtain⟨ms,h4,h5,h6⟩:=g.mo;obtain⟨n1,n2,n3,n4,n5⟩:=g.ne;obtain⟨ps,h8,h9⟩:=g.pg;refine⟨_,ap (df (pv 0) (pQ pV (aD (pv 0) rfl) HZ (j_ (pv 1))) rfl) (ap (df (pv 0) (pQ pV (aD (pv 0) rfl) HZ (j_ (bn eI (pv 1) be))) rfl) (ap (pS 2 nd jY) (ap (vx (fH dG rfl (SK (aD (pv 0) rfl)) (VO rfl (Gu (pN 3 nd) (Gu (pN 4 nd) UH))) (au (bp (db io (pv 4) (pv 1) (bZ _)) (au (j9 (b8 hr) (pv 2) (pv 3) (pv 4) rfl)) br)))) (au (df (pv 0) (pv 2) rfl))))),?_⟩
  simp_all![g.h,T.YR,T.aaN,nX]
  refine⟨_,ay.of h1,λYN Y4=>?_⟩;rw[JN,<-lI];have m1:h≠YN:=aG g.h Y4
  simp_all![aj m1,g.h,T.YR,T.aaN]
  have eF:bE "edits" (.ref YN) (d_ le lp dm)=d_ YN lp dm:=rfl;rw[eF];refine⟨by show 3<1000;decide,?_⟩;generalize hHa:upd (upd H YN (.lst ((es.take p).map V.ref))) h (.ins A.Hi dx (d_ YN lp dm))=Ha;have Zo:Ha h=some (.ins A.Hi dx (d_ YN lp dm)):=by rw[<-hHa,am]
  have Z3:Ha YN=some (.lst ((es.take p).map V.ref)):=by rw[<-hHa,aj (aX m1),am]
  have ha3:∀b o,H b=some o->b≠h->Ha b=some o:=λb o e n=>by rw[<-hHa,aj n,aj (aG e Y4)];exact e
  have ha4:=ha3 _ _ h8 (aX n4)
  simp_all![Zo,T.YR,T.Zy,gq]
  refine⟨_,ay.of ha4,λYS ι=>?_⟩;rw[show((p:Int)+1)=((p+1:Nat):Int)by lia,JN,<-lI];have m5:h≠YS:=aG Zo ι;have m6:YN≠YS:=aG Z3 ι;have ajJ:H YS=none:=by
   cases z:H YS with
   |none=>rfl
   |some o=>have:=ha3 _ _ z (aX m5);rw[ι]at this;cases this
  simp_all![aj m5,Zo,T.YR,T.Zy]
  have eF1:bE "pages" (.ref YS) (d_ YN lp dm)=d_ YN YS dm:=rfl;rw[eF1];refine⟨by show 3<1000;decide,λYT ZR=>?_⟩;generalize hHb:upd (upd Ha YS (.lst ((ps.take (p+1)).map V.ref))) h (.ins A.Hi dx (d_ YN YS dm))=Hb at ZR;have hb1:Hb h=some (.ins A.Hi dx (d_ YN YS dm)):=by rw[<-hHb,am]
  have hb2:Hb YS=some (.lst ((ps.take (p+1)).map V.ref)):=by rw[<-hHb,aj (aX m5),am]
  have hb4:∀b o,Ha b=some o->b≠h->Hb b=some o:=λb o e n=>by rw[<-hHb,aj n,aj (aG e ι)];exact e
  have hb3:=hb4 _ _ Z3 (aX m1);have m2:h≠YT:=aG hb1 ZR;have m3:YN≠YT:=aG hb3 ZR;have m7:YS≠YT:=aG hb2 ZR;have adL:H YT=none:=by
   cases z:H YT with
   |none=>rfl
   |some o=>have:=hb4 _ _ (ha3 _ _ z (aX m2)) (aX m2);rw[ZR]at this;cases this
  generalize hH1:upd Hb YT (.dK [])=H1;have a1:H1 h=some (.ins A.Hi dx (d_ YN YS dm)):=by rw[<-hH1,aj m2];exact hb1
  have a2:H1 YN=some (.lst ((es.take p).map V.ref)):=by rw[<-hH1,aj m3];exact hb3
  have a6:H1 YS=some (.lst ((ps.take (p+1)).map V.ref)):=by rw[<-hH1,aj m7];exact hb2
  have a3:H1 YT=some (.dK []):=by rw[<-hH1,am]
  have a5:Kp H H1 [h]:=λb o e hb=>by
   have hb:b≠h:=by simpa using hb
   rw[<-hH1,aj (aG e adL)];exact hb4 _ _ (ha3 _ _ e hb) hb
  have a4:H1 dm=some (.dK (ms.map cu)):=a5 _ _ h4 (by simpa using aX n2);have m4:YT≠dm:=aX (aG h4 adL);refine⟨dm,.dK (ms.map cu),a4,trivial,λod=>?_⟩
  simp_all![aj n2,a1,T.YR,T.aaM,pW]
  refine⟨od,ms.map cu,rfl,QX (λi σ H2=>(∃v3 v4:Option V,σ=[some (.ref h),some (.int (p:Int)),some (.ref YT),v3,v4])/\H2 dm=some (.frz od (.dK (ms.map cu)))/\ H2 YT=some (.dK (((ms.take i).filter λy=>decide (y.2<=p)).map cu))/\∀b o,H1 b=some o->b≠dm->b≠YT->H2 b=some o) ?_ (λi σ H2 _ z=>z.2.1) ?_ ?_⟩
  .exact⟨⟨none,none,rfl⟩,am,by rw[aj m4,a3];rfl,λb o e nb _=>by rw[aj nb];exact e⟩
  .rintro i k v σ H2 T' hi ⟨⟨v3,v4,rfl⟩,b1,b2,b3⟩ hT;obtain⟨y,hy,rfl,rfl⟩:=U2 hi;refine⟨T',_,rfl,a9.of am,rfl,_,_,rfl,?_⟩;refine⟨_,_,rfl,rfl,?_⟩;have c1:YT≠T':=aG b2 hT;have c2:dm≠T':=aG b1 hT;have d2:(upd H2 T' (.tup [V.int (y.1:Int),V.int (y.2:Int)])) YT=some (.dK (((ms.take i).filter λy=>decide (y.2<=p)).map cu)):=by rw[aj c1];exact b2
   have e1:ms.take (i+1)=ms.take i++[y]:=by rw[dA,hy];rfl
   have hny:y.1∉((ms.take i).filter λy=>decide (y.2<=p)).map λy=>y.1:=λz=>by have h7:=h5;rw[<-kD (i+1) ms,e1,bV,bV]at h7;have h8:=(hJ.mp (hJ.mp h7).1).2.2;obtain⟨y',hy',e⟩:=aK.mp z;exact h8 y'.1 (aK.mpr ⟨y',(bM.mp hy').1,rfl⟩) y.1 (by simp) e
   have aaA:kV (.inl (y.1:Int))=V.int (y.1:Int):=rfl
   simp_all![aaA,jB d2]
   have YU:∀b o,H1 b=some o->b≠dm->b≠YT->(upd H2 T' (.tup [V.int (y.1:Int),V.int (y.2:Int)])) b=some o:=λb o e n1 n2=>by rw[aj (aG (b3 b o e n1 n2) hT)];exact b3 b o e n1 n2
   by_cases c:(y.2:Int)<=(p:Int)
   .rw[if_pos c];refine⟨?_,by rw[aj (aX m4),aj c2];exact b1,?_,λb o e n1 n2=>by rw[aj n2];exact YU b o e n1 n2⟩
    .rw[aE,bC];have h9:ms.length<=32:=by
      have Y4:(ms.map λy=>y.1).length<=32:=uR 32 _ h5 λn hn=>by
       obtain⟨y,hy,rfl⟩:=aK.mp hn;have:=(ok.mom y ((h6 y).mp hy)).1
       lia
      rw[aE]at Y4;exact Y4
     have h10:=gg (λy:Nat×Nat=>decide (y.2<=p)) (ms.take i);have h11:(ms.take i).length<=ms.length:=by rw[cO];lia
     lia
    .rw[nT _ (Fe hny),e1,mP,bV];have c':y.2<=p:=by lia
     simp[c',cu]
   .rw[if_neg c];refine⟨by rw[aj c2];exact b1,?_,YU⟩;have c':¬y.2<=p:=by lia
    rw[aj c1,b2,e1,mP];simp[c']
  .rintro σ H2 ⟨⟨v3,v4,rfl⟩,b1,b2,b3⟩;refine⟨b1,?_⟩;have d1:upd H2 dm (.dK (ms.map cu)) h=some (.ins A.Hi dx (d_ YN YS dm)):=by rw[aj n2];exact b3 _ _ a1 n2 m2
   simp_all![d1,T.YR,T.aaM]
   refine⟨by show 3<1000;decide,?_⟩;have eF2:bE "moments" (.ref YT) (d_ YN YS dm)=d_ YN YS YT:=rfl;rw[eF2];rw[aE,dz]at b2;have k9:Kp H (upd (upd H2 dm (.dK (ms.map cu))) h (.ins A.Hi dx (d_ YN YS YT))) [h]:=λb o e hb=>by
    have Z_:b≠h:=by simpa using hb
    rw[aj Z_];by_cases z:b=dm
    .rw[z,am,<-h4,<-z];exact e
    .rw[aj z];exact b3 b o (a5 b o e hb) z (aG e adL)
   refine q _ YN YS YT ⟨am,⟨es.take p,?_,aY.mapP (D9 h2 p) λa b k=>k.keep (k9.mono (N:=[h,le,lp,dm]) (by simp)) g.wr⟩,⟨(ms.filter λy=>decide (y.2<=p)),?_,?_,λy=>?_⟩,⟨ps.take (p+1),?_,?_⟩,m6⟩ k9 Y4
   .rw[aj (aX m1),aj (bx a2 a4 (by intro z;cases z))];exact b3 _ _ a2 (bx a2 a4 (by intro z;cases z)) m3
   .rw[aj (aX m2),aj m4];exact b2
   .rw[i5,ff]at h5 ⊢;exact h5.filter _
   .show y∈ms.filter _↔y∈s.moments.filter _;rw[bM,bM,h6]
   .rw[aj (aX m5),aj (bx a6 a4 (by intro z;cases z))];exact b3 _ _ a6 (bx a6 a4 (by intro z;cases z)) m7
   .rw[QQ YZ];refine aY.mapP (D9 h9 (p+1)) λa b k=>k.same (qx k9 (λb hb=> .inl (by simp at hb;simp[hb])) λb hb=>?_);simp only[aV,gG,or_false]at hb;rcases hb with rfl|rfl|rfl|rfl
    .exact .inl (by simp)
    .exact .inr Y4
    .exact .inr ajJ
    .exact .inr adL
end
end
section
section
def mC(A:Ad)(f:Int->Int->eB):Sp:=λvs H Q _=>∃(h dx le lp dm:aa)(s:aP)(n p:Int),vs=[.ref h,.int n,.int p]/\bu A H h dx le lp dm s/\cw s/\
 ∀(H':Hp)(l:aa),H' l=some (.lst ((fc (fC s (f n p))).map V.int))->ag H H'->H l=none->Q (.ref l) H'
def K1(A:Ad)(f:Int->eB):Sp:=λvs H Q _=>∃(h dx le lp dm:aa)(s:aP)(p:Int),vs=[.ref h,.int p]/\bu A H h dx le lp dm s/\cw s/\
 ∀(H':Hp)(l:aa),H' l=some (.lst ((fc (fC s (f p))).map V.int))->ag H H'->H l=none->Q (.ref l) H'
theorem nU{s:aP}{p:Int}(h:bB s p=true):∃k:Nat,p=(k:Int)/\k<=s.edits.length:=let⟨e1,e2⟩:=rT h;⟨p.toNat,e1,e2⟩
theorem bu.at{H:Hp}{h dx le lp dm:aa}{s:aP}(g:bu A H h dx le lp dm s):∃ps:List aa,H lp=some (.lst (ps.map V.ref))/\ps.length=s.edits.length+1/\∀k:Nat,k<=s.edits.length->∃pa dp nb wi rs wk:aa,ps[k]? =some pa/\ku (ps.map V.ref) (k:Int)=some (.ref pa)/\H pa=some (.ins A.Pg dp (jb nb wi rs wk))/\eX A H pa (bj s k):=by obtain⟨ps,h1,h2,h3⟩:=g.page;refine⟨ps,h1,h2,λk hk=>?_⟩;obtain⟨pa,e1,e2⟩:=h3 k hk;have e3:=e2.same nY;obtain⟨dp,nb,wi,rs,wk,dn,d,ks,ws,q1,_⟩:=e3.ex;exact⟨pa,dp,nb,wi,rs,wk,e1,pY (by rw[cq,e1];rfl),q1,e3⟩
theorem NE(F:aO K "tell_result" "tell_result" C8 f fd)(T:Txt A K mg)(G1:Gm P w K mg Yx 2 A.Hi "has_position" ["self","p"] (nQ A))(G2:Gm P w K mg Yx 1 A.Pg "result_of" ["self","number"] (ss A)):
  aI P w K mg Yx aN 3 f fd ["history","number","p"] (mC A λn p=> .result n p):=by
 have eK:=T.eK;subst eK
 exists ["history","number","p"]
 .obtain⟨h,dx,le,lp,dm,s,n,p,rfl,g,ok,q⟩:=h;refine⟨_,ap (bp (dO (cg (bw G1 hr (pv 0) (af (pv 2) ak)))) (au (aF (bI (af (bg T.Ω) ak)))) br) (au (aF (fX zd rfl T.list nN (af (bw G2 hr.m (cH eG (aD (pv 0) rfl) (pv 2) (λ_ _=>rfl)) (af (pv 1) ak)) ak)))),?_⟩
  dsimp![g.h]
  refine⟨by rfl,h,dx,le,lp,dm,p,s,rfl,g,?_⟩
  dsimp![]
  have et:fC s (.result n p)=if bB s p=true then CB (ua s (ax n) p.toNat)else⟨-10,[]⟩:=rfl;rw[et]at q;by_cases c:bB s p=true
  .rw[if_neg (by simp[c])];rw[if_pos c]at q;obtain⟨k,rfl,hk⟩:=nU c;obtain⟨ps,h1,_,h2⟩:=g.at;obtain⟨pa,dp,nb,wi,rs,wk,_,e2,e3,e4⟩:=h2 k hk
   dsimp![g.h,T.YR,T.Zy,gq]
   refine⟨_,ay.of h1,_,e2,?_⟩
   dsimp![e3]
   refine⟨by rfl,pa,n,_,rfl,e4,dM ok.ed k,λt ht=>?_⟩
   dsimp![]
   exact⟨_,ht,λl hl=>q _ l am (ag.new hl) hl⟩
  .rw[if_pos (by simpa using c)];rw[if_neg c]at q;exact⟨by decide,λl hl=>q _ l am (ag.new hl) hl⟩
def qD(s:ao)(n:Nat):List Int:=[(n:Int),((bm s n).1:Int),((bm s n).2:Int)]
structure TR(K:aA)(s:ao)(H:Hp)(h:aa)(p:Int)(rd tl sl:aa)(i:Nat)(σ:L2.St)(H2:Hp):Prop where
 st:∃v:Option V,σ=[some (.ref h),some (.int p),some (.ref rd),some (.ref tl),v]
 tl:H2 tl=some (.lst ((((s.cells.length:Int))::(((s.cells.map λc=>c.number).take i).flatMap (qD s))).map V.int))
 sl:H2 sl=some (.lst (vN (s.cells.map λc=>c.number)))
 sm:ag H H2
theorem HA(s:ao):∀l:List Nat,(l.flatMap (qD s)).length=3*l.length
 |[]=>rfl
 |a::l=>by rw[lz,bG,HA s l];simp[qD];lia
theorem uy{K:aA}{x:V}{vs:List V}{H:Hp}{Q:VK}:Gp K x vs H Q=∃l b xs zs,x= .ref l/\vs=[.ref b]/\H l=some (.lst xs)/\a9 K H b zs/\xs.length+zs.length<=aU/\Q .non (upd H l (.lst (xs++zs))):=rfl
theorem Nm(F:aO K "tell_results" "tell_results" CL f fd)(T:Txt A K mg)(G1:Gm P w K mg Yx 2 A.Hi "has_position" ["self","p"] (nQ A)):
  aI P w K mg Yx aN 3 f fd ["history","p"] (K1 A λp=> .results p):=by
 have eK:=T.eK;subst eK
 exists ["history","p","results","told","number"]
 .obtain⟨h,dx,le,lp,dm,s,p,rfl,g,ok,q⟩:=h;refine⟨_,ap (bp (dO (cg (bw G1 hr (pv 0) (af (pv 1) ak)))) (au (aF (bI (af (bg T.Ω) ak)))) br) (ap (pS 2 nd (aD (cH eG (aD (pv 0) rfl) (pv 1) (λ_ _=>rfl)) rfl)) (ap (pS 3 nd (bI (af (cE zQ rfl T.len fU (af (pv 2) ak)) ak))) (ap (fH dG rfl (dY (cE (yh rfl) rfl T.sorted uE (af (pv 2) ak))) (pN 4 nd) (ap (cX (eY fe jp jo i6 (pv 3) (af (pv 4) ak))) (au (cX (eY fe kC lu uI (pv 3) (af (fm (b8 hr) (pv 2) (pv 4) (λ_ _=>rfl)) ak)))))) (au (aF (pv 3)))))),?_⟩
  dsimp![g.h]
  refine⟨by rfl,h,dx,le,lp,dm,p,s,rfl,g,?_⟩
  dsimp![]
  by_cases c:bB s p=true
  .rw[if_neg (by simp[c])];obtain⟨k,rfl,hk⟩:=nU c;obtain⟨ps,h1,_,h2⟩:=g.at;obtain⟨pa,dp,nb,wi,rd,wk,_,e2,e3,e4⟩:=h2 k hk;have hw:Wf (bj s k):=dM ok.ed _;obtain⟨dx2,nb2,wi2,rd2,wk2,dn2,d2,ks,ws2,q1,_,_,hR,hks,_⟩:=e4.ex;rw[e3]at q1;cases q1;generalize hno:bj s k=no at hR hks hw
   dsimp![g.h,T.YR,T.Zy,gq]
   refine⟨_,ay.of h1,_,e2,?_⟩
   dsimp![e3,T.Y8,T.aau,lT]
   obtain⟨Yy,k1,k2,k3,k4⟩:=hR.ex;have Ρ:Yy.length=ks.length:=by have:=congrArg fV k2;unfold iN at this;rw[aE,aE,aE]at this;exact this
   have agH:ks.Perm (no.cells.map λc=>c.number):=(mH k3 hw.nd).mpr hks;have Y6:ks.length=no.cells.length:=by have:=agH.length_eq;rw[aE]at this;exact this
   dsimp![k1]
   refine⟨by decide,λtl Zg=>?_⟩;have s3:=ag.new (o:=HO.lst [V.int (Yy.length:Int)]) Zg;have Ο:=s3 _ _ k1
   dsimp![]
   refine⟨_,.inl Ο,iN ks,k2,by unfold iN;rw[aE,Y6];have:=hw.YI;lia,λYM sl p1 p2 ZB=>?_⟩;have en:YM=iN (no.cells.map λc=>c.number):=by
    refine rM p2 ?_ (p1.trans ?_)
    .unfold iN;rw[ff];exact hw.Α.imp λh=>by lia
    .unfold iN;exact agH.map _
   subst en;rw[iq];have s4:=ag.new (o:=HO.lst (vN (no.cells.map λc=>c.number))) ZB;have Ξ:tl≠sl:=aG am ZB;have abD:H tl=none:=Zg;have ajO:(Yy.length:Int)=(no.cells.length:Int):=by lia
   refine⟨⟨_,ay.of am⟩,ie (K:=A.kf) (xs:=vN (no.cells.map λc=>c.number)) (TR A.kf no H h k rd tl sl) ⟨⟨none,rfl⟩,by rw[aj Ξ,am,ajO];rfl,am,s3.trans s4⟩ (λi σ H5 _ z=>ay.of z.sl) ?_ ?_⟩
   .rintro i x σ H5 hi ⟨⟨v,rfl⟩,j1,j2,j3⟩;obtain⟨n,hn,rfl⟩:=gZ hi;have hnk:n∈ks:=(hks n).mpr (cU hn);obtain⟨t,t1,t2⟩:=k4 n hnk;have e3:(no.cells.map λc=>c.number).take (i+1)=(no.cells.map λc=>c.number).take i++[n]:=by rw[dA,hn];rfl
    have YG:((((no.cells.length:Int))::(((no.cells.map λc=>c.number).take i).flatMap (qD no))).map V.int).length<=100:=by
     rw[aE,cC,HA,cO,aE];have:=hw.YI
     lia
    generalize hL:(((no.cells.length:Int))::(((no.cells.map λc=>c.number).take i).flatMap (qD no))).map V.int=L at j1 YG
    dsimp![dZ j1,j1]
    refine⟨by rw[bC];lia,?_⟩;have m1:upd H5 tl (.lst (L++[V.int (n:Int)])) tl=some (.lst (L++[V.int (n:Int)])):=am;have ntr:rd≠tl:=aG k1 Zg;have k5:upd H5 tl (.lst (L++[V.int (n:Int)])) rd=some (.dK Yy):=by rw[aj ntr];exact j3 _ _ k1
    have t5:a9 A.kf (upd H5 tl (.lst (L++[V.int (n:Int)]))) t [.int ((bm no n).1:Int),.int ((bm no n).2:Int)]:=sn (sU j3 t2) λo e=>by rw[j1]at e;cases e;exact⟨λ_ z=>(by cases z),λ_ _ z=>(by cases z)⟩
    dsimp![dZ m1,eD k5,t1,uy]
    refine⟨_,t5,by rw[bG,bC];simp;lia,⟨_,rfl⟩,?_,by rw[aj (aX Ξ)];exact j2,λb o e=>?_⟩
    .rw[am,e3,jq,<-hL,<-lC,bV];simp[qD]
    .rw[aj (aG e Zg)];exact j3 _ _ e
   .rintro σ H5 ⟨⟨v,rfl⟩,j1,j2,j3⟩
    dsimp![]
    rw[bW,dz]at j1;refine q H5 tl ?_ j3 abD;rw[j1];congr 2;show _=(fc (if bB s (k:Int)=true then wM (ju (bj s k))else⟨-10,[]⟩)).map V.int;rw[if_pos c,hno];congr 1;unfold fc wM;have hrs:ju no=no.cells.map λc=>(c.number,bm no c.number):=by rw[yd hw];refine fS λc hc=>?_;rw[uQ hw hc];rfl
    rw[hrs];show _=((no.cells.map λc=>(c.number,bm no c.number)).length:Int)::_;rw[aE];congr 1;rw[Cg,Cg];rfl
  .rw[if_pos (by simpa using c)];refine⟨by decide,λl hl=>q _ l ?_ (ag.new hl) hl⟩;rw[am];have et:fc (fC s (.results p))=[-10]:=by show fc (if bB s p=true then wM (ju (bj s p.toNat))else⟨-10,[]⟩)=_;rw[if_neg c];rfl
   rw[et];rfl
end
end
section
def gv(n x k c:Int)(r:List Int):az:=⟨n.toNat,x.toNat,k.toNat,c.toNat,r.map pL⟩
theorem j8{n lo hi:Int}:bD n lo hi=true↔lo<=n/\n<=hi:=by unfold bD;simp
theorem zn{n lo hi:Int}:bD n lo hi=false↔¬(lo<=n/\n<=hi):=by rw[<-j8];simp
theorem GZ:∀{r:List Int},(∀y∈r,0<=y)->iN (r.map pL)=r
 |[],_=>rfl
 |y::r,h=>by have h1:=h y bA;show((y.toNat:Nat):Int)::iN (r.map pL)=y::r;rw[GZ λz hz=>h z (bq _ hz),Mp h1]
theorem Ps{r:List Int}(h:∀y∈r,0<=y)(nd:r.Nodup):(r.map pL).Nodup:=by rw[i5,ff];refine Xj ?_ nd;intro a b ha hb Y0 e;have:=h a ha;have:=h b hb;exact Y0 (by lia)
structure KU(n x k c:Int)(r:List Int):Prop where
 en:n=((gv n x k c r).number:Int)
 ex:x=((gv n x k c r).name:Int)
 ek:k=((gv n x k c r).kind:Int)
 ec:c=((gv n x k c r).const:Int)
 er:r=iN (gv n x k c r).reads
theorem zN{n x k c:Int}{r:List Int}(h:bX n x k c r=0):jE (gv n x k c r)/\KU n x k c r:=by
 unfold bX at h;by_cases c1:bD n 1 99=false
 .rw[if_pos c1]at h;cases h
 rw[if_neg c1]at h;by_cases c2:(bD x 0 31&&r.all λy=>bD y 0 31)=false
 .rw[if_pos c2]at h;cases h
 rw[if_neg c2]at h;by_cases c3:¬r.Nodup
 .rw[if_pos c3]at h;cases h
 rw[if_neg c3]at h;by_cases c4:6<r.length
 .rw[if_pos c4]at h;cases h
 rw[if_neg c4]at h;by_cases c5:bD k 0 5=false
 .rw[if_pos c5]at h;cases h
 rw[if_neg c5]at h;by_cases c6:bD c 0 96=false
 .rw[if_pos c6]at h;cases h
 have d1:=j8.mp (by simpa using c1:bD n 1 99=true);have d2:bD x 0 31=true/\(r.all λy=>bD y 0 31)=true:=by simpa only[B6,hU]using c2
 have d5:=j8.mp (by simpa using c5:bD k 0 5=true);have d6:=j8.mp (by simpa using c6:bD c 0 96=true);have d7:=j8.mp d2.1;have d8:∀y∈r,0<=y/\y<=31:=λy hy=>j8.mp (mU.mp d2.2 y hy);have d9:∀y∈r,0<=y:=λy hy=>(d8 y hy).1;refine⟨⟨?_,?_,?_,?_,?_,?_,Ps d9 (Classical.not_not.mp c3),?_⟩,⟨?_,?_,?_,?_,(GZ d9).symm⟩⟩
 .show 1<=n.toNat;lia
 .show n.toNat<=99;lia
 .show x.toNat<=31;lia
 .show k.toNat<=5;lia
 .show c.toNat<=96;lia
 .show(r.map pL).length<=6;rw[aE];lia
 .intro y hy;obtain⟨z,hz,rfl⟩:=aK.mp hy;have:=d8 z hz
  lia
 .show n=((n.toNat:Nat):Int);lia
 .show x=((x.toNat:Nat):Int);lia
 .show k=((k.toNat:Nat):Int);lia
 .show c=((c.toNat:Nat):Int);lia
theorem yo:∀r:List Int,uq r=true↔¬r.Nodup
 |[]=>by simp[uq]
 |y::r=>by show(r.contains y||uq r)=true↔_;rw[q_,yo r,fT,mJ];by_cases h:y∈r<;>simp[h]
def il(s:ao)(n x k c:Int)(r:List Int):Bool:=match hZ s n with
 |some d=>decide ((d.number:Int)=n/\(d.name:Int)=x/\(d.kind:Int)=k/\(d.const:Int)=c/\iN d.reads=r)
 |none=>false
def gr(s:aP)(n x k c:Int)(r:List Int):Int:=
 if bX n x k c r≠0 then bX n x k c r
 else if(b5 (a_ s) n||decide ((a_ s).cells.length<12))=false then -7
 else if il (a_ s) n x k c r=true then -12
 else if 40<=s.edits.length then -13
 else 0
theorem JF:∀{a b:List Nat},iN a=iN b->a=b
 |[],[],_=>rfl
 |[],_::_,h=>by cases h
 |_::_,[],h=>by cases h
 |x::a,y::b,h=>by have h':(x:Int)::iN a=(y:Int)::iN b:=h;rw[CH]at h';rw[JF h'.2,Int.ofNat_inj.mp h'.1]
theorem Sv{s:ao}{n x k c:Int}{r:List Int}(h:KU n x k c r):il s n x k c r=decide (b_ s (gv n x k c r).number=some (gv n x k c r)):=by
 have hn:¬n<0:=by have:=h.en;lia
 have e:hZ s n=b_ s (gv n x k c r).number:=by unfold hZ;rw[if_neg hn];rfl
 unfold il;rw[e];cases hf:b_ s (gv n x k c r).number with
 |none=>simp
 |some d=>
  rw[fh,decide_eq_true_eq,decide_eq_true_eq,wY];constructor
  .rintro⟨h1,h2,h3,h4,h5⟩;obtain⟨a,b,c',d',e'⟩:=d;have h1:(a:Int)=n:=h1;have h2:(b:Int)=x:=h2;have h3:(c':Int)=k:=h3;have h4:(d':Int)=c:=h4;have h5:iN e'=r:=h5;have k1:a=(gv n x k c r).number:=by have:=h.en;lia
   have k2:b=(gv n x k c r).name:=by have:=h.ex;lia
   have k3:c'=(gv n x k c r).kind:=by have:=h.ek;lia
   have k4:d'=(gv n x k c r).const:=by have:=h.ec;lia
   have k5:e'=(gv n x k c r).reads:=JF (h5.trans h.er);rw[k1,k2,k3,k4,k5]
  .intro q;subst q;exact⟨h.en.symm,h.ex.symm,h.ek.symm,h.ec.symm,h.er.symm⟩
theorem nJ{s:aP}{n x k c:Int}{r:List Int}(h:bX n x k c r≠0):gr s n x k c r=bX n x k c r:=by unfold gr;rw[if_pos h]
theorem u5{s:aP}(ok:cw s)(n x k c:Int)(r:List Int):bS s (.put n x k c r)=
  if gr s n x k c r=0 then({s with edits:=s.edits++[.put (gv n x k c r)]},⟨if b5 (a_ s) n=true then 0 else 1,[]⟩)else(s,⟨gr s n x k c r,[]⟩):=by
 have hw:Wf (a_ s):=dM ok.ed _;show OT s n x k c r=_;unfold OT um;have e:xN ([(!cP n 1 99,-1),(!cP x 0 31|| !(r.all λx=>cP x 0 31),-5),(uq r,-6),(decide (6<r.length),-4),(!cP k 0 5,-2),(!cP c 0 96,-3),(!(hZ (a_ s) n).isSome&&decide (rH<=(a_ s).cells.length),-7)] ++[(fj (a_ s) (.put ⟨n.toNat,x.toNat,k.toNat,c.toNat,r.map pL⟩)==a_ s,-12),(decide (pF<=s.edits.length),-13)])=if gr s n x k c r=0 then none else some (gr s n x k c r):=by
  simp only[lC,xm,xN];by_cases c1:bD n 1 99=false
  .have e0:bX n x k c r= -1:=by unfold bX;rw[if_pos c1]
   rw[nJ (by rw[e0];decide),e0];have:cP n 1 99=false:=c1;simp[this]
  have c1':cP n 1 99=true:=(by simpa using c1:bD _ _ _=true);by_cases c2:(bD x 0 31&&r.all λy=>bD y 0 31)=false
  .have e0:bX n x k c r= -5:=by unfold bX;rw[if_neg c1,if_pos c2]
   rw[nJ (by rw[e0];decide),e0];have:(cP x 0 31&&r.all λy=>cP y 0 31)=false:=c2;have ahM:(!cP x 0 31|| !(r.all λy=>cP y 0 31))=true:=by rw[<-O1,this];rfl
   rw[ahM,c1'];rfl
  have c2':(!cP x 0 31|| !(r.all λy=>cP y 0 31))=false:=by
   rw[<-O1];have:(cP x 0 31&&r.all λy=>cP y 0 31)=true:=by have:=c2;simp only[B6]at this;exact this
   rw[this];rfl
  rw[c1',c2'];by_cases c3:¬r.Nodup
  .have e0:bX n x k c r= -6:=by unfold bX;rw[if_neg c1,if_neg c2,if_pos c3]
   rw[nJ (by rw[e0];decide),e0,(yo r).mpr c3];rfl
  have c3':uq r=false:=by rw[<-Bool.not_eq_true,yo];exact c3
  rw[c3'];by_cases c4:6<r.length
  .have e0:bX n x k c r= -4:=by unfold bX;rw[if_neg c1,if_neg c2,if_neg c3,if_pos c4]
   rw[nJ (by rw[e0];decide),e0,decide_eq_true c4];rfl
  rw[decide_eq_false c4];by_cases c5:bD k 0 5=false
  .have e0:bX n x k c r= -2:=by unfold bX;rw[if_neg c1,if_neg c2,if_neg c3,if_neg c4,if_pos c5]
   rw[nJ (by rw[e0];decide),e0];have:cP k 0 5=false:=c5;rw[this];rfl
  have c5':cP k 0 5=true:=(by simpa using c5:bD _ _ _=true);rw[c5'];by_cases c6:bD c 0 96=false
  .have e0:bX n x k c r= -3:=by unfold bX;rw[if_neg c1,if_neg c2,if_neg c3,if_neg c4,if_neg c5,if_pos c6]
   rw[nJ (by rw[e0];decide),e0];have:cP c 0 96=false:=c6;rw[this];rfl
  have c6':cP c 0 96=true:=(by simpa using c6:bD _ _ _=true);rw[c6'];have e0:bX n x k c r=0:=by unfold bX;rw[if_neg c1,if_neg c2,if_neg c3,if_neg c4,if_neg c5,if_neg c6]
  obtain⟨ho,hn⟩:=zN e0;have e1:gr s n x k c r=if(b5 (a_ s) n||decide ((a_ s).cells.length<12))=false then -7
    else if il (a_ s) n x k c r=true then -12 else if 40<=s.edits.length then -13 else 0:=by
   unfold gr;rw[if_neg (by simp[e0])]
  have c7:(!(hZ (a_ s) n).isSome&&decide (rH<=(a_ s).cells.length))= !(b5 (a_ s) n||decide ((a_ s).cells.length<12)):=by
   show(!b5 (a_ s) n&&decide (12<=(a_ s).cells.length))=_;rw[P2];congr 1;by_cases z:(a_ s).cells.length<12
   .simp[z]
   .simp[z];lia
  rw[c7,e1];by_cases c8:(b5 (a_ s) n||decide ((a_ s).cells.length<12))=false
  .rw[c8];rfl
  rw[if_neg c8];have c8':(b5 (a_ s) n||decide ((a_ s).cells.length<12))=true:=by simpa only[B6]using c8
  rw[c8'];have hq:(gv n x k c r).number∈(a_ s).cells.map (λc=>c.number)\/(a_ s).cells.length<12:=by rw[q_,decide_eq_true_eq,hn.en,G_,decide_eq_true_eq]at c8';exact c8'
  have e2:(fj (a_ s) (.put ⟨n.toNat,x.toNat,k.toNat,c.toNat,r.map pL⟩)==a_ s)=il (a_ s) n x k c r:=by rw[Sv hn];exact SG hw hq
  rw[e2];by_cases c9:il (a_ s) n x k c r=true
  .rw[c9];rfl
  have c9':il (a_ s) n x k c r=false:=by simpa using c9
  rw[c9'];by_cases ZH:40<=s.edits.length
  .have:decide (pF<=s.edits.length)=true:=decide_eq_true ZH;rw[this,if_pos ZH];rfl
  .have:decide (pF<=s.edits.length)=false:=decide_eq_false ZH;rw[this,if_neg ZH];rfl
 dsimp only;rw[e];by_cases z:gr s n x k c r=0
 .rw[if_pos z,if_pos z];rfl
 .rw[if_neg z,if_neg z];rfl
theorem uP{s:aP}(ok:cw s)(n:Int):bS s (.drop n)=
  if b5 (a_ s) n=false then(s,⟨-8,[]⟩)else if 40<=s.edits.length then(s,⟨-13,[]⟩)else({s with edits:=s.edits++[.drop n.toNat]},⟨0,[]⟩):=by
 show um s [((hZ (a_ s) n).isNone,-8)] (.drop n.toNat) 0=_;unfold um;simp only[lC,xm,xN];have e:(hZ (a_ s) n).isNone= !b5 (a_ s) n:=by unfold b5;cases hZ (a_ s) n<;>rfl
 rw[e];by_cases c:b5 (a_ s) n=false
 .rw[c];rfl
 .have c':b5 (a_ s) n=true:=by simpa using c
  obtain⟨d,hd,Zn⟩:=i9.mp c';have e2:(fj (a_ s) (.drop n.toNat)==a_ s)=false:=R1 (aK.mpr ⟨d,hd,by lia⟩);rw[c',e2];by_cases ZH:40<=s.edits.length
  .have:decide (pF<=s.edits.length)=true:=decide_eq_true ZH;rw[this,if_pos ZH];rfl
  .have:decide (pF<=s.edits.length)=false:=decide_eq_false ZH;rw[this,if_neg ZH];rfl
theorem uO(s:aP)(x:Int):bS s (.seed x)=
  if bD x 0 1000=false then(s,⟨-9,[]⟩)else if x=((a_ s).seed:Int)then(s,⟨-12,[]⟩)else if 40<=s.edits.length then(s,⟨-13,[]⟩)else({s with edits:=s.edits++[.seed x.toNat]},⟨0,[]⟩):=by
 show um s [(!cP x 0 1000,-9)] (.seed x.toNat) 0=_;unfold um;simp only[lC,xm,xN];have e0:cP x 0 1000=bD x 0 1000:=rfl;rw[e0];by_cases c:bD x 0 1000=false
 .rw[c];rfl
 .have c':bD x 0 1000=true:=by simpa using c
  have d:=j8.mp c';have e2:(fj (a_ s) (.seed x.toNat)==a_ s)=decide (x=((a_ s).seed:Int)):=by
   rw[Ru];by_cases z:x=((a_ s).seed:Int)
   .rw[decide_eq_true z,decide_eq_true (by lia)]
   .rw[decide_eq_false z,decide_eq_false (by lia)]
  rw[c',e2];by_cases z:x=((a_ s).seed:Int)
  .rw[decide_eq_true z,if_pos z];rfl
  rw[decide_eq_false z,if_neg z];by_cases ZH:40<=s.edits.length
  .have:decide (pF<=s.edits.length)=true:=decide_eq_true ZH;rw[this,if_pos ZH];rfl
  .have:decide (pF<=s.edits.length)=false:=decide_eq_false ZH;rw[this,if_neg ZH];rfl
def qv(n x k c:Int)(r:List Int):dP:= .tuple [.int n,.int x,.int k,.int c,.tuple (r.map nG)]
theorem uK{K:aA}{H:Hp}:∀r:List Int,oB K H (r.map V.int) (r.map nG)
 |[]=> .nil
 |y::r=> .cons (.int y) (uK r)
theorem Hk{K:aA}{H:Hp}{t u:aa}{n x k c:Int}{r:List Int}(h:H t=some (.tup [.int n,.int x,.int k,.int c,.ref u]))(hu:H u=some (.tup (r.map V.int))):Dp K H (.ref t) (qv n x k c r):=
 .tup (a9.of h) (.cons (.int n) (.cons (.int x) (.cons (.int k) (.cons (.int c) (.cons (.tup (a9.of hu) (uK r)) .nil)))))
theorem r6:∀r:List Int,qU (r.map nG)=true/\qX (r.map nG)=0
 |[]=>⟨by simp[qU],by simp[qX]⟩
 |y::r=>by obtain⟨h1,h2⟩:=r6 r;simp[qU,qX,mY,ut,h1,h2]
theorem DB(n x k c:Int)(r:List Int):iG (qv n x k c r)=true:=by obtain⟨h1,h2⟩:=r6 r;simp[iG,qv,mY,qU,ut,qX,h1,h2]
theorem vf:∀r q:List Int,ni (r.map nG) (q.map nG)=decide (r=q)
 |[],[]=>by simp[ni]
 |[],_::_=>by simp[ni]
 |_::_,[]=>by simp[ni]
 |a::r,b::q=>by have:=vf r q;simp[ni,ib,this];by_cases h:a=b<;>simp[h]
theorem RY(n x k c n' x' k' c':Int)(r r':List Int):ib (qv n x k c r) (qv n' x' k' c' r')=decide (n=n'/\x=x'/\k=k'/\c=c'/\r=r'):=by have:=vf r r';rw[fh];simp[qv,ib,ni,this]
end
section
section
def F_(A:Ad):Sp:=λvs H Q _=>∃p dx ca:aa,vs=[.ref p,.ref ca]/\H p=some (.ins A.Pu dx [])/\Q .non (upd H p (.ins A.Pu dx (ot ca)))
theorem QB(F:aO K "__init__" "PutEdit.__init__" CQ f fd)(T:Txt A K mg):aI P w K mg Yx aN 1 f fd ["self","cell"] (F_ A):=by
 exists ["self","cell"]
 .obtain⟨p,dx,ca,rfl,hp,q⟩:=h;refine⟨_,au (df (pv 0) (pv 1) rfl),?_⟩
  dsimp![hp,T.cPu,T.acY]
  exact q
def Gb(A:Ad):Sp:=λvs H Q _=>∃(p dx:aa)(n:Int),vs=[.ref p,.int n]/\H p=some (.ins A.Dr dx [])/\Q .non (upd H p (.ins A.Dr dx (om n)))
theorem QP(F:aO K "__init__" "DropEdit.__init__" Cy f fd)(T:Txt A K mg):aI P w K mg Yx aN 1 f fd ["self","number"] (Gb A):=by
 exists ["self","number"]
 .obtain⟨p,dx,n,rfl,hp,q⟩:=h;refine⟨_,au (df (pv 0) (pv 1) rfl),?_⟩
  dsimp![hp,T.cDr,T.ad0]
  exact q
def F6(A:Ad):Sp:=λvs H Q _=>∃(p dx:aa)(n:Int),vs=[.ref p,.int n]/\H p=some (.ins A.Se dx [])/\Q .non (upd H p (.ins A.Se dx (oa n)))
theorem Qx(F:aO K "__init__" "SeedEdit.__init__" Cu f fd)(T:Txt A K mg):aI P w K mg Yx aN 1 f fd ["self","new_seed"] (F6 A):=by
 exists ["self","new_seed"]
 .obtain⟨p,dx,n,rfl,hp,q⟩:=h;refine⟨_,au (df (pv 0) (pv 1) rfl),?_⟩
  dsimp![hp,T.cSe,T.afC]
  exact q
theorem HX{x y:V}{H:Hp}{Q:VK}:KH K x y H Q=∃d e,Dp K H x d/\Dp K H y e/\iG d=true/\iG e=true/\Q (.bl (ib d e)) H:=rfl
def F9(A:Ad):Sp:=λvs H Q _=>∃(h dx le lp dm nb dn d ca:aa)(s:aP)(n x k c:Int)(r:List Int),vs=[.ref h,.ref nb,.ref ca]/\bu A H h dx le lp dm s/\cw s/\cQ A H nb dn d (a_ s)/\e_ A H ca n x k c r/\r.length<=40/\
 ∀H':Hp,ag H H'->Q (.int (gr s n x k c r)) H'
theorem NI(F:aO K "put_refusal" "put_refusal" Db f fd)(T:Txt A K mg)(G1:Gf P w K mg Yx 2 "cell_refusal" ["cell"] (Jf A))(G2:Gm P w K mg Yx 1 A.Nb "has_room_for" ["self","number"] (zY A))(G3:Gm P w K mg Yx 1 A.Nb "has_cell" ["self","number"] (nI A))
  (G4:Gm P w K mg Yx 1 A.Cl "parts" ["self"] (HI A))(G5:Gm P w K mg Yx 1 A.Hi "is_full" ["self"] (vH A)):
  aI P w K mg Yx aN 3 f fd ["history","notebook","cell"] (F9 A):=by
 exists ["history","notebook","cell","refusal"]
 .obtain⟨h,dx,le,lp,dm,nb,dn,d,ca,s,n,x,k,c,r,rfl,g,ok,gN,hR,acw,q⟩:=h;have hw:Wf (a_ s):=dM ok.ed _;have YQ:=hr.mono (show 1<=2 by decide);refine⟨_,ap (pS 3 nd (bL G1 hr (af (pv 2) ak))) (ap (bp (db jG (pv 3) (bg T.ab5) (bZ _)) (au (aF (pv 3))) br) (ap (bp (dO (cg (bw G2 YQ (pv 1) (af (aD (pv 2) rfl) ak)))) (au (aF (bg T.aiD))) br) (ap (bp (PW.pt (z8 (cg (bw G3 YQ (pv 1) (af (aD (pv 2) rfl) ak))) (zA (db (Ju hr.units) (bo G4 YQ (fm (b8 hr) (aD (pv 1) rfl) (aD (pv 2) rfl) (λ_ _=>rfl))) (bo G4 YQ (pv 2)) (bZ _))))) (au (aF (bg T.agu))) br) (ap (bp (cg (bo G5 YQ (pv 0))) (au (aF (bg T.aeL))) br) (au (aF (bg T.ab5))))))),?_⟩
  simp_all![]
  refine⟨ca,n,x,k,c,r,rfl,hR,acw,λH1 s1=>?_⟩;have hR1:=hR.same s1;have g1:=g.same s1;have gN1:=gN.same s1;obtain⟨dc,u,Zx,ψ⟩:=hR1.ex;obtain⟨YE,hc1⟩:=gN1.cs
  simp_all![Zx,gN1.nb,T.YY,T.Zz,fZ]
  by_cases c0:bX n x k c r=0
  case neg=>rw[if_pos c0];rw[<-nJ (s:=s) c0];exact q H1 s1
  rw[if_neg (not_not_intro c0)];have e1:gr s n x k c r=if(b5 (a_ s) n||decide ((a_ s).cells.length<12))=false then -7
    else if il (a_ s) n x k c r=true then -12 else if 40<=s.edits.length then -13 else 0:=by
   unfold gr;rw[if_neg (not_not_intro c0)]
  rw[e1]at q;refine⟨by rfl,nb,dn,d,n,_,rfl,gN1,hw,?_⟩
  simp_all![]
  by_cases c1:(b5 (a_ s) n||decide ((a_ s).cells.length<12))=false
  .rw[if_pos c1];rw[if_pos c1]at q;exact q H1 s1
  rw[if_neg c1];rw[if_neg c1]at q
  simp_all![Zx,gN1.nb,T.YY,T.Zz,fZ]
  refine⟨by rfl,nb,dn,d,n,_,rfl,gN1,?_⟩
  simp_all![]
  by_cases c2:b5 (a_ s) n=true
  .rw[if_pos c2];obtain⟨cc,ZF,hcn⟩:=i9.mp c2;obtain⟨a,Zo,Z3⟩:=hc1.get ZF;rw[hcn]at Zo;obtain⟨dcc,uc,Zt,hua⟩:=Z3.ex
   simp_all![Zx,gN1.nb,T.YY,T.Zz,fZ,T.Zq,T.Β,ij,eD hc1.d,Zo,Zt]
   refine⟨by rfl,a,_,_,_,_,_,rfl,Z3,λH2 t u2 ht hu2 s2=>?_⟩;have ZO:=s2 _ _ Zx
   simp_all![ZO]
   refine⟨by rfl,ca,n,x,k,c,r,rfl,hR1.same s2,λH3 t3 u3 ht3 ε s3=>?_⟩
   simp_all![HX]
   refine⟨_,Hk (s3 _ _ ht) (s3 _ _ hu2),_,Hk ht3 ε,DB _ _ _ _ _,DB _ _ _ _ _,?_⟩;rw[RY];have es:il (a_ s) n x k c r=decide ((cc.number:Int)=n/\(cc.name:Int)=x/\(cc.kind:Int)=k/\(cc.const:Int)=c/\iN cc.reads=r):=by
    have e:hZ (a_ s) n=some cc:=by unfold hZ;rw[if_neg (by lia),<-hcn,c_];exact i7 hw ZF
    unfold il;rw[e]
   rw[es]at q;have s4:ag H H3:=(s1.trans s2).trans s3;by_cases c3:decide ((cc.number:Int)=n/\(cc.name:Int)=x/\(cc.kind:Int)=k/\(cc.const:Int)=c/\iN cc.reads=r)=true
   .rw[if_pos c3];rw[if_pos c3]at q;exact q H3 s4
   rw[if_neg c3];rw[if_neg c3]at q
   simp_all![(g.same s4).h]
   refine⟨by rfl,h,dx,le,lp,dm,s,rfl,g.same s4,?_⟩
   simp_all![]
   by_cases c4:40<=s.edits.length
   .rw[if_pos c4];rw[if_pos c4]at q;exact q H3 s4
   .rw[if_neg c4];rw[if_neg c4]at q;exact q H3 s4
  .rw[if_neg c2];have es:il (a_ s) n x k c r=false:=by
    unfold b5 at c2;unfold il;cases e:hZ (a_ s) n with
    |none=>rfl
    |some d=>rw[e]at c2;exact absurd rfl c2
   rw[es]at q
   simp_all![g1.h]
   refine⟨by rfl,h,dx,le,lp,dm,s,rfl,g1,?_⟩
   simp_all![]
   by_cases c4:40<=s.edits.length
   .rw[if_pos c4];rw[if_neg (by decide),if_pos c4]at q;exact q H1 s1
   .rw[if_neg c4];rw[if_neg (by decide),if_neg c4]at q;exact q H1 s1
theorem Pb{s:aP}{n x k c:Int}{r:List Int}(h:gr s n x k c r=0):bX n x k c r=0/\s.edits.length<40:=by
 unfold gr at h;by_cases c0:bX n x k c r=0
 .refine⟨c0,?_⟩;rw[if_neg (not_not_intro c0)]at h;by_cases c1:(b5 (a_ s) n||decide ((a_ s).cells.length<12))=false
  .rw[if_pos c1]at h;cases h
  rw[if_neg c1]at h;by_cases c2:il (a_ s) n x k c r=true
  .rw[if_pos c2]at h;cases h
  rw[if_neg c2]at h;by_cases c3:40<=s.edits.length
  .rw[if_pos c3]at h;cases h
  lia
 .rw[if_pos c0]at h;exact absurd h c0
def Fr(H H':Hp):Prop:=∀b,H' b=none->H b=none
theorem Kp.free{H H':Hp}{M:List aa}(k:Kp H H' M)(hM:∀b∈M,H' b≠none):Fr H H':=λb e=>by
 cases q:H b with
 |none=>rfl
 |some o=>
  by_cases z:b∈M
  .exact absurd e (hM b z)
  .rw[k b o q z]at e;cases e
def tq(A:Ad)(H:Hp)(h dx le lp dm:aa)(r:aP×jU)(Q:VK):Prop:=∀(H':Hp)(YN YS YT:aa),bu A H' h dx YN YS YT r.1->Kp H H' [h,le,lp,dm]->(YN=le\/H YN=none)->Fr H H'->Q (.int r.2.number) H'
theorem tq.none{H H':Hp}{h dx le lp dm:aa}{s:aP}{a:Int}{Q:VK}(q:tq A H h dx le lp dm (s,⟨a,[]⟩) Q)(g:bu A H h dx le lp dm s)(k:ag H H'):Q (.int a) H':=q H' le lp dm (g.same k) (Kp.of k _) (.inl rfl) λb e=>k.free e
def Fk(A:Ad):Sp:=λvs H Q _=>∃(h dx le lp dm ca:aa)(s:aP)(n x k c:Int)(r:List Int),vs=[.ref h,.ref ca]/\bu A H h dx le lp dm s/\cw s/\e_ A H ca n x k c r/\r.length<=40/\
 tq A H h dx le lp dm (bS s (.put n x k c r)) Q
theorem Pf(F:aO K "put_cell" "put_cell" EU f fd)(T:Txt A K mg)(G1:Gm P w K mg Yx 2 A.Hi "notebook_now" ["self"] (su A))(G2:Gf P w K mg Yx 3 "put_refusal" ["history","notebook","cell"] (F9 A))
  (G3:Gm P w K mg Yx 7 A.Hi "record" ["self","edit"] (u6 A))(G4:Gi P w K mg Yx 1 A.Pu "PutEdit" ["self","cell"] (F_ A))(G5:Gm P w K mg Yx 1 A.Nb "has_cell" ["self","number"] (nI A)):
  aI P w K mg Yx aN 8 f fd ["history","cell"] (Fk A):=by
 exists ["history","cell","notebook","refusal"]
 .obtain⟨h,dx,le,lp,dm,ca,s,n,x,k,c,r,rfl,g,ok,hR,acw,q⟩:=h;have YQ:=hr.mono (show 1<=7 by decide);refine⟨_,ap (pS 2 nd (bo G1 hr.m (pv 0))) (ap (pS 3 nd (bL G2 hr.m (af (pv 0) (af (pv 2) (af (pv 1) ak))))) (ap (bp (db jG (pv 3) (bg T.ab5) (bZ _)) (au (aF (pv 3))) br) (ap (cX (bw G3 hr (pv 0) (af (oI G4 hr.m (af (pv 1) ak)) ak))) (au (aF (vc (cg (bw G5 YQ (pv 2) (af (aD (pv 1) rfl) ak))) be be)))))),?_⟩
  simp_all![g.h]
  refine⟨by rfl,h,dx,le,lp,dm,s,rfl,g,λnb dn d gF=>?_⟩;have gN:=gF.same nY
  simp_all![]
  refine⟨h,dx,le,lp,dm,nb,dn,d,ca,s,n,x,k,c,r,rfl,g,ok,gN,hR,acw,λH2 s2=>?_⟩;rw[u5 ok]at q
  simp_all![(g.same s2).h]
  by_cases c0:gr s n x k c r=0
  case neg=>rw[if_pos c0];rw[if_neg c0]at q;exact q.none g s2
  rw[if_neg (not_not_intro c0)];rw[if_pos c0]at q;obtain⟨hcr,adI⟩:=Pb c0;obtain⟨YB,hn⟩:=zN hcr;refine⟨by rfl,λe de he hde Y0=>⟨e,de,ca,rfl,am,rfl,?_⟩⟩;have s3:ag H2 (upd (upd H2 de (.own e)) e (.ins A.Pu de (ot ca))):=ag.two hde he;rw[vo];generalize ZT:upd (upd H2 de (.own e)) e (.ins A.Pu de (ot ca))=H3 at s3;have Zs:=s2.trans s3;have hE:eJ A H3 e (.put (gv n x k c r)):=by refine⟨de,ca,by rw[<-ZT,am],?_⟩;unfold cK;rw[<-hn.en,<-hn.ex,<-hn.ek,<-hn.ec,<-hn.er];exact hR.same Zs
  have g3:=g.same Zs;refine⟨h,dx,le,lp,dm,e,s,_,rfl,g3,ok,hE,YB,λH4 g4 k4=>?_⟩;have gN4:cQ A H4 nb dn d (a_ s):=(gF.same (Iu Zs)).same ((qx (M':=[h,le,lp,dm]) k4 (λb hb=> .inl hb) λb hb=> .inl hb).trans nY);obtain⟨dc,u,hp,hu⟩:=((hR.same Zs).keep k4 λb hb o e=>(g3.wr b hb o e).noraw).ex
  simp_all![gN4.nb,hp,T.YY,T.Zz,fZ]
  refine⟨by rfl,nb,dn,d,n,_,rfl,gN4,?_⟩
  simp_all![]
  have q4:=q H4 le lp dm g4 ((Kp.of Zs _).trans k4) (.inl rfl) (λb e=>Zs.free (k4.free g4.has b e));by_cases c5:b5 (a_ s) n=true
  .rw[if_pos c5];have e5:((if b5 (a_ s) n=true then 0 else 1:Int))=0:=if_pos c5;exact e5▸q4
  .rw[if_neg c5];have e5:((if b5 (a_ s) n=true then 0 else 1:Int))=1:=if_neg c5;exact e5▸q4
def kb(A:Ad)(f:Int->eB):Sp:=λvs H Q _=>∃(h dx le lp dm:aa)(s:aP)(n:Int),vs=[.ref h,.int n]/\bu A H h dx le lp dm s/\cw s/\tq A H h dx le lp dm (bS s (f n)) Q
theorem OF(F:aO K "drop_cell" "drop_cell" Eg f fd)(T:Txt A K mg)(G1:Gm P w K mg Yx 2 A.Hi "notebook_now" ["self"] (su A))(G2:Gm P w K mg Yx 1 A.Hi "is_full" ["self"] (vH A))
  (G3:Gm P w K mg Yx 7 A.Hi "record" ["self","edit"] (u6 A))(G4:Gi P w K mg Yx 1 A.Dr "DropEdit" ["self","number"] (Gb A))(G5:Gm P w K mg Yx 1 A.Nb "has_cell" ["self","number"] (nI A)):
  aI P w K mg Yx aN 8 f fd ["history","number"] (kb A .drop):=by
 exists ["history","number"]
 .obtain⟨h,dx,le,lp,dm,s,n,rfl,g,ok,q⟩:=h;have YQ:=hr.mono (show 1<=7 by decide);refine⟨_,ap (bp (dO (cg (bw G5 YQ (bo G1 hr.m (pv 0)) (af (pv 1) ak)))) (au (aF (bg T.aiF))) br) (ap (bp (cg (bo G2 YQ (pv 0))) (au (aF (bg T.aeL))) br) (ap (cX (bw G3 hr (pv 0) (af (oI G4 hr.m (af (pv 1) ak)) ak))) (au (aF be)))),?_⟩
  rw[uP ok]at q
  simp_all![g.h]
  refine⟨by rfl,h,dx,le,lp,dm,s,rfl,g,λnb dn d gF=>?_⟩;have gN:=gF.same nY;have s1:=ag.refl H;have g1:=g
  simp_all![gN.nb]
  refine⟨by rfl,nb,dn,d,n,_,rfl,gN,?_⟩
  simp_all![g1.h]
  by_cases c0:b5 (a_ s) n=false
  .rw[if_pos c0];rw[if_pos c0]at q;exact q.none g s1
  rw[if_neg c0];rw[if_neg c0]at q;refine⟨by rfl,h,dx,le,lp,dm,s,rfl,g1,?_⟩
  simp_all![g1.h]
  by_cases c4:40<=s.edits.length
  .rw[if_pos c4];rw[if_pos c4]at q;exact q.none g s1
  rw[if_neg c4];rw[if_neg c4]at q;refine⟨by rfl,λe de he hde Y0=>⟨e,de,n,rfl,am,rfl,?_⟩⟩;have s3:ag H (upd (upd H de (.own e)) e (.ins A.Dr de (om n))):=ag.two hde he;rw[vo];generalize ZT:upd (upd H de (.own e)) e (.ins A.Dr de (om n))=H3 at s3;have Zs:=s1.trans s3;have hE:eJ A H3 e (.drop n.toNat):=by
   have c0':b5 (a_ s) n=true:=by simpa using c0
   obtain⟨d,_,hd⟩:=i9.mp c0';have e:((n.toNat:Nat):Int)=n:=by lia
   refine⟨de,?_⟩;rw[e,<-ZT,am]
  refine⟨h,dx,le,lp,dm,e,s,_,rfl,g.same Zs,ok,hE,IE (s:=a_ s) (dM ok.ed _) (by simpa using c0),λH4 g4 k4=>?_⟩;exact q H4 le lp dm g4 ((Kp.of Zs _).trans k4) (.inl rfl) (λb e=>Zs.free (k4.free g4.has b e))
theorem NK(F:aO K "change_seed" "change_seed" De f fd)(T:Txt A K mg)(G1:Gm P w K mg Yx 2 A.Hi "notebook_now" ["self"] (su A))(G2:Gm P w K mg Yx 1 A.Hi "is_full" ["self"] (vH A))
  (G3:Gm P w K mg Yx 7 A.Hi "record" ["self","edit"] (u6 A))(G4:Gi P w K mg Yx 1 A.Se "SeedEdit" ["self","new_seed"] (F6 A)):
  aI P w K mg Yx aN 8 f fd ["history","new_seed"] (kb A .seed):=by
 exists ["history","new_seed"]
 .obtain⟨h,dx,le,lp,dm,s,n,rfl,g,ok,q⟩:=h;have YQ:=hr.mono (show 1<=7 by decide);refine⟨_,ap (bp (dO (va io io be (pv 1) (bg T.aiL))) (au (aF (bg T.aiV))) br) (ap (bp (db g8 (aD (bo G1 hr.m (pv 0)) rfl) (pv 1) (bZ _)) (au (aF (bg T.agu))) br) (ap (bp (cg (bo G2 YQ (pv 0))) (au (aF (bg T.aeL))) br) (ap (cX (bw G3 hr (pv 0) (af (oI G4 hr.m (af (pv 1) ak)) ak))) (au (aF be))))),?_⟩
  rw[uO]at q
  simp_all![g.h]
  by_cases c1:0<=n
  case neg=>rw[if_neg c1];rw[if_pos (zn.mpr (by lia))]at q;exact q.none g (ag.refl H)
  rw[if_pos c1];by_cases c2:n<=1000
  case neg=>rw[if_pos c2];rw[if_pos (zn.mpr (by lia))]at q;exact q.none g (ag.refl H)
  rw[if_neg (not_not_intro c2)];rw[if_neg (by rw[zn];lia)]at q;refine⟨by rfl,h,dx,le,lp,dm,s,rfl,g,λnb dn d gF=>?_⟩;have gN:=gF.same nY;have s1:=ag.refl H;have g1:=g
  simp_all![gN.nb,T.Zq,T.abm,zG,g1.h]
  by_cases c3:((a_ s).seed:Int)=n
  .rw[if_pos c3];rw[if_pos c3.symm]at q;exact q.none g s1
  rw[if_neg c3];rw[if_neg (aX c3)]at q;refine⟨by rfl,h,dx,le,lp,dm,s,rfl,g1,?_⟩
  simp_all![g1.h]
  by_cases c4:40<=s.edits.length
  .rw[if_pos c4];rw[if_pos c4]at q;exact q.none g s1
  rw[if_neg c4];rw[if_neg c4]at q;refine⟨by rfl,λe de he hde Y0=>⟨e,de,n,rfl,am,rfl,?_⟩⟩;have s3:ag H (upd (upd H de (.own e)) e (.ins A.Se de (oa n))):=ag.two hde he;rw[vo];generalize ZT:upd (upd H de (.own e)) e (.ins A.Se de (oa n))=H3 at s3;have Zs:=s1.trans s3;have hE:eJ A H3 e (.seed n.toNat):=by
   have e:((n.toNat:Nat):Int)=n:=by lia
   refine⟨de,?_⟩;rw[e,<-ZT,am]
  refine⟨h,dx,le,lp,dm,e,s,_,rfl,g.same Zs,ok,hE,(show n.toNat<=1000 by lia),λH4 g4 k4=>?_⟩;exact q H4 le lp dm g4 ((Kp.of Zs _).trans k4) (.inl rfl) (λb e=>Zs.free (k4.free g4.has b e))
end
end
section
theorem U1{ms:List (Nat×Nat)}:(ms.map cu).map (·.1)=(ms.map λy=>(y.1:Int)).map bQ:=by rw[bH,bH];rfl
theorem TH{ms:List (Nat×Nat)}{n:Int}{v:V}(h:bf (ms.map cu) (.inl n)=some v):∃y∈ms,(y.1:Int)=n/\v= .int (y.2:Int):=by
 induction ms with
 |nil=>cases h
 |cons y l ih=>
  rw[bb]at h;by_cases e:(cu y).1=(.inl n:aJ)
  .rw[gn e]at h;cases h;exact⟨y,bA,gz e,rfl⟩
  .rw[gp e]at h;obtain⟨z,hz,h1,h2⟩:=ih h;exact⟨z,bq _ hz,h1,h2⟩
theorem yn{ms:List (Nat×Nat)}(nd:(ms.map λy=>y.1).Nodup){y:Nat×Nat}(h:y∈ms):bf (ms.map cu) (.inl (y.1:Int))=some (.int (y.2:Int)):=by
 induction ms with
 |nil=>cases h
 |cons z l ih=>
  rw[bb,fT]at nd;rw[bb];by_cases e:(cu z).1=(.inl (y.1:Int):aJ)
  .rw[gn e];rcases aV.mp h with rfl|h
   .rfl
   .have q:(z.1:Int)=(y.1:Int):=gz e;exact absurd (aK.mpr ⟨y,h,by lia⟩) nd.1
  .rw[gp e];rcases aV.mp h with rfl|h
   .exact absurd rfl e
   .exact ih nd.2 h
theorem WO(ms:List (Nat×Nat))(nd:(ms.map λy=>y.1).Nodup)(x p:Nat):∃ms':List (Nat×Nat),cM (ms.map cu) (.inl (x:Int)) (.int (p:Int))=ms'.map cu/\(ms'.map λy=>y.1).Nodup/\∀y,y∈ms'↔y=(x,p)\/(y∈ms/\y.1≠x):=by
 by_cases h:x∈ms.map λy=>y.1
 .refine⟨ms.map λy=>if y.1=x then(x,p)else y,?_,?_,λy=>?_⟩
  .obtain⟨z,hz,rfl⟩:=aK.mp h;rw[yT,yn nd hz,wO,if_pos rfl,bH,bH];refine fS λy _=>?_;show(if(cu y).1=(.inl (z.1:Int):aJ)then((cu y).1,V.int (p:Int))else cu y)=cu (if y.1=z.1 then(z.1,p)else y);by_cases e:y.1=z.1
   .rw[if_pos e,if_pos (by show(bQ (y.1:Int):aJ)=_;rw[e])];show((bQ (y.1:Int):aJ),V.int (p:Int))=(bQ (z.1:Int),V.int (p:Int));rw[e]
   .rw[if_neg e,if_neg (λq=>e (by have q':(y.1:Int)=(z.1:Int):=gz q;lia))]
  .have e:(ms.map λy=>if y.1=x then(x,p)else y).map (λy=>y.1)=ms.map λy=>y.1:=by
    rw[bH];refine fS λy _=>?_;show(if y.1=x then(x,p)else y).1=y.1;split
    .rename_i h;exact h.symm
    .rfl
   rw[e];exact nd
  .rw[aK];constructor
   .rintro⟨z,hz,rfl⟩;by_cases e:z.1=x
    .rw[if_pos e];exact .inl rfl
    .rw[if_neg e];exact .inr ⟨hz,e⟩
   .rintro(rfl|⟨h1,h2⟩)
    .obtain⟨z,hz,e⟩:=aK.mp h;exact⟨z,hz,if_pos e⟩
    .exact⟨y,h1,if_neg h2⟩
 .refine⟨ms++[(x,p)],?_,?_,λy=>?_⟩
  .rw[nT _ (Fe h),bV];rfl
  .rw[bV,hJ];refine⟨nd,by simp,λa ha b hb=>?_⟩;have hb:b=x:=by simpa using hb
   rw[hb];exact λe=>h (e▸ha)
  .rw[bT];constructor
   .rintro(h1|h1)
    .exact .inr ⟨h1,λe=>h (aK.mpr ⟨y,h1,e⟩)⟩
    .exact .inl (by simpa using h1)
   .rintro(rfl|⟨h1,_⟩)
    .exact .inr (by simp)
    .exact .inl h1
theorem WG(ms:List (Nat×Nat))(x:Nat):jc (ms.map cu) (.inl (x:Int))=(ms.filter λy=>y.1 !=x).map cu:=by
 unfold jc;rw[mX];congr 1;refine mR λy _=>?_;show decide ((bQ (y.1:Int):aJ)≠bQ (x:Int))=(y.1 !=x);by_cases e:y.1=x
 .simp[e]
 .have:¬(bQ (y.1:Int):aJ)=bQ (x:Int):=λq=>e (by have:=gz q;lia);simp[e,this]
theorem Ie{s:aP}(ok:cw s){ms:List (Nat×Nat)}(nd:(ms.map λy=>y.1).Nodup)(h:∀y,y∈ms↔y∈s.moments):ms.length<=32:=by
 have Y4:(ms.map λy=>y.1).length<=32:=uR 32 _ nd λn hn=>by
  obtain⟨y,hy,rfl⟩:=aK.mp hn;have:=(ok.mom y ((h y).mp hy)).1
  lia
 rw[aE]at Y4;exact Y4
theorem cw.mnd{s:aP}(ok:cw s):(s.moments.map λy=>y.1).Nodup:=ok.aam.imp λh=>cx h
theorem cw.mnd2{s:aP}(ok:cw s):s.moments.Nodup:=by have:=ok.mnd;rw[i5,ff]at this;exact this.imp λh q=>h (by rw[q])
theorem RH{ms:List (Nat×Nat)}(nd:(ms.map λy=>y.1).Nodup):ms.Nodup:=by rw[i5,ff]at nd;exact nd.imp λh q=>h (by rw[q])
theorem SV{s:aP}(ok:cw s){ms:List (Nat×Nat)}(nd:(ms.map λy=>y.1).Nodup)(h:∀y,y∈ms↔y∈s.moments):ms.Perm s.moments:=(mH (RH nd) ok.mnd2).mpr h
theorem G9{s:aP}{x:Int}:mT s x=true↔∃y∈s.moments,(y.1:Int)=x:=by
 unfold mT;rw[hU,decide_eq_true_eq,fg];constructor
 .rintro⟨h0,y,hy,e⟩;have e:y.1=x.toNat:=by simpa using e
  exact⟨y,hy,by lia⟩
 .rintro⟨y,hy,e⟩;exact⟨by lia,y,hy,by simpa using(show y.1=x.toNat by lia)⟩
section
theorem bu.mom{H H':Hp}{h dx le lp dm:aa}{s:aP}{ms':List (Nat×Nat)}{mo:List (Nat×Nat)}(g:bu A H h dx le lp dm s)(hH:H'=upd H dm (.dK (ms'.map cu)))(nd:(ms'.map λy=>y.1).Nodup)(hm:∀y,y∈ms'↔y∈mo):
  bu A H' h dx le lp dm {s with moments:=mo}/\Kp H H' [h,le,lp,dm]:=by
 obtain⟨n1,n2,n3,n4,n5⟩:=g.ne;obtain⟨es,h1,h2⟩:=g.ed;obtain⟨ps,h5,h6⟩:=g.pg;have k:Kp H H' [h,le,lp,dm]:=by rw[hH];exact Kp.upd (by simp)
 exact⟨⟨by rw[hH,aj n2];exact g.h,⟨es,by rw[hH,aj n3];exact h1,aY.mapP h2 λa b q=>q.keep k g.wr⟩,⟨ms',by rw[hH,am],nd,hm⟩,⟨ps,by rw[hH,aj n5];exact h5,aY.mapP h6 λa b q=>q.same (qx k (λb hb=> .inl hb) λb hb=> .inl hb)⟩,g.nl⟩,k⟩
theorem Pe(F:aO K "remember_moment" "remember_moment" BK f fd)(T:Txt A K mg)(G1:Gf P w K mg Yx 1 "is_name" ["number"] yN)(G2:Gm P w K mg Yx 1 A.Hi "last_position" ["self"] (qc A)):
  aI P w K mg Yx aN 5 f fd ["history","name"] (kb A .moment):=by
 exists ["history","name"]
 .obtain⟨h,dx,le,lp,dm,s,n,rfl,g,ok,q⟩:=h;have YQ:=hr.mono (show 1<=4 by decide);obtain⟨ms,h4,h5,h6⟩:=g.mo;refine⟨_,ap (bp (dO (cg (bL G1 YQ (af (pv 1) ak)))) (au (aF (bg T.agv))) br) (ap (j9 (b8 hr) (aD (pv 0) rfl) (pv 1) (bo G2 YQ (pv 0)) rfl) (au (aF (bo G2 YQ (pv 0))))),?_⟩
  simp_all![]
  refine⟨n,rfl,?_⟩
  simp_all![g.h]
  have ZV:bS s (.moment n)=if bD n 0 31=true then({s with moments:=lB n.toNat s.edits.length s.moments},⟨(s.edits.length:Int),[]⟩)else(s,⟨-5,[]⟩):=rfl;rw[ZV]at q;by_cases c:bD n 0 31=true
  .have c':(decide (0<=n)&&decide (n<=31))=true:=c;rw[c',if_neg (by decide)];rw[if_pos c]at q;have hn:=j8.mp c;refine⟨by rfl,h,dx,le,lp,dm,s,rfl,g,?_⟩
   simp_all![g.h,T.YR,T.aaM,pW,jB h4]
   have en:n=((n.toNat:Nat):Int):=by lia
   obtain⟨ms',e1,e2,e3⟩:=WO ms h5 n.toNat s.edits.length;rw[<-en]at e1;obtain⟨g2,k2⟩:=g.mom (ms':=ms') (mo:=lB n.toNat s.edits.length s.moments) rfl e2 λy=>by rw[e3,uk ok.aam,h6]
   rw[e1];refine⟨by rw[aE,bC];have:=Ie ok h5 h6;lia,?_⟩
   simp_all![g2.h]
   exact⟨by rfl,h,dx,le,lp,dm,_,rfl,g2,q _ le lp dm g2 k2 (.inl rfl) (k2.free g2.has)⟩
  .have c':(decide (0<=n)&&decide (n<=31))=false:=by
    have:bD n 0 31=false:=by simpa using c
    exact this
   rw[c',if_pos rfl];rw[if_neg c]at q;exact q.none g (ag.refl H)
theorem UP(F:aO K "lose_moment" "lose_moment" Dd f fd)(T:Txt A K mg):aI P w K mg Yx aN 5 f fd ["history","name"] (kb A .lose):=by
 exists ["history","name"]
 .obtain⟨h,dx,le,lp,dm,s,n,rfl,g,ok,q⟩:=h;obtain⟨ms,h4,h5,h6⟩:=g.mo;refine⟨_,ap (bp (qe (Fy (b8 hr) (pv 1) (aD (pv 0) rfl)) (by with_unfolding_all rfl)) (au (aF (bg T.aiE))) br) (ap (cX (Gv (aD (pv 0) rfl) (pv 1) ⟨rfl,rfl,rfl,rfl⟩)) (au (aF be))),?_⟩
  simp_all![g.h,T.YR,T.aaM,pW,eD h4,sQ h4,h4]
  have ZV:bS s (.lose n)=if mT s n=true then({s with moments:=s.moments.filter λy=>y.1 !=n.toNat},⟨0,[]⟩)else(s,⟨-11,[]⟩):=rfl;rw[ZV]at q;cases ev:bf (ms.map cu) (.inl n)with
  |none=>
   have c:¬mT s n=true:=λz=>by obtain⟨y,hy,e⟩:=G9.mp z;rw[<-e,yn h5 ((h6 y).mpr hy)]at ev;cases ev
   rw[if_neg c]at q;rw[Mv,if_pos rfl];exact q.none g (ag.refl H)
  |some v=>
   obtain⟨y,hy,e1,e2⟩:=TH ev;rw[if_pos (G9.mpr ⟨y,(h6 y).mp hy,e1⟩)]at q;rw[if_neg (by simp)];refine⟨.inl n,rfl,⟨v,ev⟩,?_⟩;have en:n=((n.toNat:Nat):Int):=by lia
   have ed:jc (ms.map cu) (.inl n)=(ms.filter λy=>y.1 !=n.toNat).map cu:=by rw[en];exact WG ms n.toNat
   obtain⟨g2,k2⟩:=g.mom (ms':=ms.filter λy=>y.1 !=n.toNat) (mo:=s.moments.filter λy=>y.1 !=n.toNat) rfl (by
    rw[i5,ff]at h5 ⊢;exact h5.filter _) λy=>by rw[bM,bM,h6]
   rw[ed];exact q _ le lp dm g2 k2 (.inl rfl) (k2.free g2.has)
def K2(A:Ad)(c:eB):Sp:=λvs H Q _=>∃(h dx le lp dm:aa)(s:aP),vs=[.ref h]/\bu A H h dx le lp dm s/\cw s/\
 ∀(H':Hp)(l:aa),H' l=some (.lst ((fc (fC s c)).map V.int))->ag H H'->H l=none->Q (.ref l) H'
def qH(y:Nat×Nat):List Int:=[(y.1:Int),(y.2:Int)]
structure TM(s:aP)(H:Hp)(h tl sl:aa)(i:Nat)(σ:L2.St)(H2:Hp):Prop where
 st:∃v:Option V,σ=[some (.ref h),some (.ref tl),v]
 tl:H2 tl=some (.lst ((((s.moments.length:Int))::((s.moments.take i).flatMap qH)).map V.int))
 sl:H2 sl=some (.lst ((s.moments.map λy=>(y.1:Int)).map V.int))
 sm:ag H H2
theorem ID:∀l:List (Nat×Nat),(l.flatMap qH).length=2*l.length
 |[]=>rfl
 |a::l=>by rw[lz,bG,ID l];simp[qH];lia
theorem Nn(F:aO K "tell_moments" "tell_moments" CM f fd)(T:Txt A K mg):aI P w K mg Yx aN 5 f fd ["history"] (K2 A .moments):=by
 exists ["history","told","name"]
 .obtain⟨h,dx,le,lp,dm,s,rfl,g,ok,q⟩:=h;obtain⟨ms,h4,h5,h6⟩:=g.mo;have hpm:=SV ok h5 h6;have adI:=Ie ok h5 h6;refine⟨_,ap (pS 1 nd (bI (af (cE zQ rfl T.len fU (af (aD (pv 0) rfl) ak)) ak))) (ap (fH dG rfl (dY (cE (yh rfl) rfl T.sorted uE (af (aD (pv 0) rfl) ak))) (pN 2 nd) (au (cX (eY fe kC lu rS (pv 1) (af (bI (af (pv 2) (af (fm (b8 hr) (aD (pv 0) rfl) (pv 2) (λ_ _=>rfl)) ak))) ak))))) (au (aF (pv 1)))),?_⟩
  dsimp![g.h,T.YR,T.aaM,pW,h4]
  refine⟨by decide,λtl Zg=>?_⟩;have s3:=ag.new (o:=HO.lst [V.int ((ms.map cu).length:Int)]) Zg;have g3:=g.same s3;have h4':=s3 _ _ h4
  dsimp![g3.h,T.YR,T.aaM,pW]
  refine⟨_,.inl h4',_,U1,by rw[aE];lia,λYM sl p1 p2 ZB=>?_⟩;have en:YM=s.moments.map λy=>(y.1:Int):=by refine rM p2 ?_ (p1.trans (hpm.map _));have:=ok.aam;rw[g_,ff]at this;rw[ff];exact this.imp λh=>by lia
  subst en;have s4:=ag.new (o:=HO.lst ((s.moments.map λy=>(y.1:Int)).map V.int)) ZB;have Ξ:tl≠sl:=aG am ZB;have Ρ:((ms.map cu).length:Int)=(s.moments.length:Int):=by rw[aE,hpm.length_eq]
  have hml:s.moments.length<=32:=by rw[<-hpm.length_eq];exact adI
  refine⟨⟨_,ay.of am⟩,ie (K:=K) (xs:=(s.moments.map λy=>(y.1:Int)).map V.int) (TM s H h tl sl) ⟨⟨none,rfl⟩,by rw[aj Ξ,am,Ρ];rfl,am,s3.trans s4⟩ (λi σ H5 _ z=>ay.of z.sl) ?_ ?_⟩
  .rintro i x σ H5 hi ⟨⟨v,rfl⟩,j1,j2,j3⟩;rw[cq,cq]at hi;obtain⟨n,hn,rfl⟩:=dU.mp hi;obtain⟨y,hy,rfl⟩:=dU.mp hn;have e3:s.moments.take (i+1)=s.moments.take i++[y]:=by rw[dA,hy];rfl
   have YG:((((s.moments.length:Int))::((s.moments.take i).flatMap qH)).map V.int).length<=100:=by
    rw[aE,cC,ID,cO]
    lia
   generalize hL:(((s.moments.length:Int))::((s.moments.take i).flatMap qH)).map V.int=L at j1 YG;have hym:y∈ms:=(h6 y).mpr (cU hy);have g5:=g.same j3;have h45:=j3 _ _ h4
   dsimp![dZ j1,g5.h,T.YR,T.aaM,pW,eD h45,yn h5 hym]
   refine⟨by decide,λb hb=>?_⟩;have ntb:tl≠b:=aG j1 hb
   dsimp![uH,aj ntb,j1]
   refine⟨by rw[bC];lia,⟨_,rfl⟩,?_,?_,λc o e=>?_⟩
   .rw[am,e3,jq,<-hL,<-lC,bV];simp[qH]
   .rw[aj (aX Ξ),aj (aG j2 hb)];exact j2
   .rw[aj (aG e Zg),aj (aG (j3 _ _ e) hb)];exact j3 _ _ e
  .rintro σ H5 ⟨⟨v,rfl⟩,j1,j2,j3⟩
   dsimp![]
   rw[aE,aE,dz]at j1;refine q H5 tl ?_ j3 Zg;rw[j1];rfl
theorem Qs(F:aO K "go_back" "go_back" FO f fd)(T:Txt A K mg)(G1:Gm P w K mg Yx 2 A.Hi "has_position" ["self","p"] (nQ A))(G2:Gm P w K mg Yx 1 A.Hi "last_position" ["self"] (qc A))(G3:Gm P w K mg Yx 1 A.Hi "cut_behind" ["self","p"] (J2 A)):
  aI P w K mg Yx aN 5 f fd ["history","p"] (kb A .back):=by
 exists ["history","p","gone"]
 .obtain⟨h,dx,le,lp,dm,s,n,rfl,g,ok,q⟩:=h;have YQ:=hr.mono (show 1<=4 by decide);refine⟨_,ap (bp (dO (cg (bw G1 hr.m (pv 0) (af (pv 1) ak)))) (au (aF (bg T.Ω))) br) (ap (pS 2 nd (bn jD (bo G2 YQ (pv 0)) (pv 1))) (ap (cX (bw G3 YQ (pv 0) (af (pv 1) ak))) (au (aF (pv 2))))),?_⟩
  simp![g.h];refine⟨by rfl,h,dx,le,lp,dm,n,s,rfl,g,?_⟩;simp![g.h];have ZV:bS s (.back n)=if bB s n=true then({edits:=s.edits.take n.toNat,moments:=s.moments.filter λy=>decide (y.2<=n.toNat)},⟨((s.edits.length-n.toNat:Nat):Int),[]⟩)else(s,⟨-10,[]⟩):=rfl;rw[ZV]at q;by_cases c:bB s n=true
  .rw[c,if_neg (by decide)];rw[if_pos c]at q;obtain⟨e1,e2⟩:=rT c;refine⟨by rfl,h,dx,le,lp,dm,s,rfl,g,?_⟩;simp![g.h];refine⟨by rfl,h,dx,le,lp,dm,n.toNat,s,by rw[<-e1],g,ok,e2,λH1 YN YS YT g1 k1 hl=>?_⟩;have e3:(s.edits.length:Int)-n=((s.edits.length-n.toNat:Nat):Int):=by lia
   rw[e3];exact q H1 YN YS YT g1 (k1.mono (by simp)) (.inr hl) (k1.free λc hc=>g1.has c (by simp at hc;simp[hc]))
  .have c':bB s n=false:=by simpa using c
   rw[c',if_pos rfl];rw[if_neg c]at q;exact q.none g (ag.refl H)
end
end
section
def kj(K:aA)(H:Hp)(a:aa)(xs:List V):Prop:=(∃o,H a=some (.frz o (.lst xs)))\/
  ∃(o:Obj)(YA:Array ac)(n:Nat),K.lookup a=some o/\o.cls= .type "list"/\o.dict=none/\o.data= .seq YA n/\YA.size<=aU/\aR xs YA.toList
theorem kj.sq{K:aA}{H:Hp}{a:aa}{xs:List V}(h:kj K H a xs):ay K H a xs:=by
 rcases h with⟨o,h⟩|h
 .exact .inl (.inr ⟨o,h⟩)
 .exact .inr h
theorem kj.of{K:aA}{H:Hp}{a:aa}{xs:List V}(h:ay K H a xs)(f:qy H):kj K H a xs:=by
 rcases h with(h|⟨o,h⟩)|h
 .rcases f a with e|⟨o,u,e⟩
  .rw[e]at h;cases h
  .rw[e]at h;cases h
 .exact .inl ⟨o,h⟩
 .exact .inr h
theorem kj.keep{K:aA}{H H':Hp}{a:aa}{xs:List V}{M:List aa}(h:kj K H a xs)(k:Kp H H' M)(hM:∀b∈M,∀o u,H b≠some (.frz o u)):kj K H' a xs:=by
 rcases h with⟨o,h⟩|h
 .exact .inl ⟨o,k _ _ h λz=>hM _ z _ _ h⟩
 .exact .inr h
structure dy(A:Ad)(K:aA)(H:Hp)(R dr L:aa)(i:Nat)(xs:List Int):Prop where
 re:H R=some (.ins A.Re dr (f9 L (i:Int)))
 src:kj K H L (xs.map V.int)
theorem dy.keep{A:Ad}{K:aA}{H H':Hp}{R dr L:aa}{i:Nat}{xs:List Int}{M:List aa}(h:dy A K H R dr L i xs)(k:Kp H H' M)(hR:R∉M)(hM:∀b∈M,∀o u,H b≠some (.frz o u)):dy A K H' R dr L i xs:=
 ⟨k _ _ h.re hR,h.src.keep k hM⟩
theorem dy.same{A:Ad}{K:aA}{H H':Hp}{R dr L:aa}{i:Nat}{xs:List Int}(h:dy A K H R dr L i xs)(k:ag H H'):dy A K H' R dr L i xs:=h.keep (M:=[]) (Kp.of k []) (by simp) (λb hb=>by cases hb)
theorem Fs{L:aa}{i j:Int}:bE "place" (.int j) (f9 L i)=f9 L j:=rfl
section
def F8(A:Ad):Sp:=λvs H Q _=>∃p dx L:aa,vs=[.ref p,.ref L]/\H p=some (.ins A.Re dx [])/\Q .non (upd H p (.ins A.Re dx (f9 L 0)))
theorem QA(F:aO K "__init__" "Reader.__init__" Dn f fd)(T:Txt A K mg):aI P w K mg Yx aN 1 f fd ["self","numbers"] (F8 A):=by
 exists ["self","numbers"]
 .obtain⟨p,dx,L,rfl,hp,q⟩:=h;refine⟨_,ap (df (pv 0) (pv 1) rfl) (au (df (pv 0) be rfl)),?_⟩
  dsimp![hp,T.cRe,T.acX,T.acW]
  exact q
def Jd(A:Ad)(K:aA):Sp:=λvs H Q _=>∃(R dr L:aa)(i:Nat)(xs:List Int),vs=[.ref R]/\dy A K H R dr L i xs/\Q (.bl (decide (i<xs.length))) H
theorem Qz(F:aO K "has_more" "Reader.has_more" BM f fd)(T:Txt A K mg):aI P w K mg Yx aN 1 f fd ["self"] (Jd A K):=by
 exists ["self"]
 .obtain⟨R,dr,L,i,xs,rfl,g,q⟩:=h;refine⟨_,au (aF (ii Kh (aD (pv 0) rfl) (cE kQ rfl T.len fU (af (aD (pv 0) rfl) ak)) (bZ _))),?_⟩
  dsimp![g.re,T.cRe,T.acX,T.acW,sv,vv]
  refine⟨_,g.src.sq,?_⟩;rw[aE];have e:decide ((i:Int)<(xs.length:Int))=decide (i<xs.length):=by
   by_cases z:i<xs.length
   .simp[z]
   .simp[z]
  rw[e];exact q
def fF(A:Ad)(K:aA):Sp:=λvs H Q _=>∃(R dr L:aa)(i:Nat)(xs:List Int)(y:Int),vs=[.ref R]/\dy A K H R dr L i xs/\xs[i]? =some y/\∀H':Hp,dy A K H' R dr L (i+1) xs->Kp H H' [R]->Q (.int y) H'
theorem dy.wr{H:Hp}{R dr L:aa}{i:Nat}{xs:List Int}(g:dy A K H R dr L i xs):∀b∈[R],∀o u,H b≠some (.frz o u):=λb hb o u e=>by rw[bY.mp hb,g.re]at e;cases e
theorem dy.at{H:Hp}{R dr L:aa}{i j:Nat}{xs:List Int}(g:dy A K H R dr L i xs):dy A K (upd H R (.ins A.Re dr (f9 L (j:Int)))) R dr L j xs/\Kp H (upd H R (.ins A.Re dr (f9 L (j:Int)))) [R]:=by have k:Kp H (upd H R (.ins A.Re dr (f9 L (j:Int)))) [R]:=Kp.upd (by simp);exact⟨⟨am,g.src.keep k g.wr⟩,k⟩
theorem Qy(F:aO K "take" "Reader.take" Dm f fd)(T:Txt A K mg):aI P w K mg Yx aN 1 f fd ["self"] (fF A K):=by
 exists ["self","number"]
 .obtain⟨R,dr,L,i,xs,y,rfl,g,hy,q⟩:=h;refine⟨_,ap (pS 1 nd (cH eG (aD (pv 0) rfl) (aD (pv 0) rfl) (λ_ _=>rfl))) (ap (df (pv 0) (bn eI (aD (pv 0) rfl) be) rfl) (au (aF (pv 1)))),?_⟩
  dsimp![g.re,T.cRe,T.acX,T.acW,sv,vv]
  have e:(xs.map V.int)[i]? =some (.int y):=by rw[cq,hy];rfl
  obtain⟨g2,k2⟩:=g.at (j:=i+1);refine⟨_,g.src.sq,_,pY e,by show 2<1000;decide,?_⟩;rw[Fs];exact q _ g2 k2
def HG(A:Ad)(K:aA):Sp:=λvs H Q _=>∃(R dr L:aa)(i:Nat)(xs r t:List Int),vs=[.ref R]/\dy A K H R dr L i xs/\xs.drop i=(r.length:Int)::(r++t)/\
 ∀(H':Hp)(l:aa),dy A K H' R dr L (i+1+r.length) xs->H' l=some (.lst (r.map V.int))->H l=none->Kp H H' [R]->Q (.ref l) H'
theorem b7{α:Type}{xs:List α}{i:Nat}{y:α}{t:List α}(h:xs.drop i=y::t):xs[i]? =some y/\xs.drop (i+1)=t/\i+t.length+1=xs.length:=by
 have h1:xs[i]? =(xs.drop i)[0]? :=by rw[qR];rfl
 refine⟨by rw[h1,h];rfl,?_,?_⟩
 .have:xs.drop (i+1)=(xs.drop i).drop 1:=by rw[rj]
  rw[this,h];rfl
 .have:=congrArg fV h;rw[gH,cC]at this
  lia
theorem Pn(F:aO K "take_list" "Reader.take_list" BB f fd)(T:Txt A K mg)(G:Gm P w K mg Yx 1 A.Re "take" ["self"] (fF A K)):aI P w K mg Yx aN 2 f fd ["self"] (HG A K):=by
 exists ["self","length","begin"]
 .obtain⟨R,dr,L,i,xs,r,t,rfl,g,hd,q⟩:=h;obtain⟨d1,d2,d3⟩:=b7 hd;refine⟨_,ap (pS 1 nd (bo G hr (pv 0))) (ap (pS 2 nd (aD (pv 0) rfl)) (ap (df (pv 0) (bn eI (pv 2) (pv 1)) rfl) (au (aF (pQ pV (aD (pv 0) rfl) (j_ (pv 2)) (j_ (aD (pv 0) rfl))))))),?_⟩
  dsimp![g.re]
  refine⟨by rfl,R,dr,L,i,xs,_,rfl,g,d1,λH1 g1 k1=>?_⟩
  dsimp![g1.re,T.cRe,T.acX,T.acW,sv,vv]
  refine⟨by show 2<1000;decide,?_⟩;rw[Fs];have ei:((i+1:Nat):Int)+(r.length:Int)=((i+1+r.length:Nat):Int):=by lia
  rw[ei];obtain⟨g2,k2⟩:=g1.at (j:=i+1+r.length);generalize upd H1 R (.ins A.Re dr (f9 L ((i+1+r.length:Nat):Int)))=H2 at g2 k2
  dsimp![g2.re,T.cRe,T.acX,T.acW,sv,vv]
  refine⟨_,g2.src.sq,λl hl=>?_⟩;rw[vS _ _ _ (by lia) (by rw[aE];rw[bG]at d3;lia)];have er:((xs.map V.int).drop (i+1)).take (i+1+r.length-(i+1))=r.map V.int:=by rw[<-rB,d2,Nat.add_sub_cancel_left,<-lI,N1]
  rw[er];have k3:=k1.trans k2;refine q _ l (g2.same (ag.new hl)) am ?_ (k3.trans (Kp.of (ag.new hl) _));cases e:H l with
  |none=>rfl
  |some o=>
   have nR:l∉[R]:=by intro z;rw[bY.mp z,g2.re]at hl;cases hl
   rw[k3 _ _ e nR]at hl;cases hl
end
end
section
section
variable{l t:List Int}{c:eB}
def Tk(m:Int)(l:List Int)(c:eB)(t:List Int):Prop:=List.getD [(∃(n x k d:Int)(r:List Int),l=n::x::k::d::(r.length:Int)::(r++t)/\c= .put n x k d r/\r.length<=40),(∃n:Int,l=n::t/\c= .drop n),(∃n:Int,l=n::t/\c= .seed n),(∃n:Int,l=n::t/\c= .moment n),(∃n:Int,l=n::t/\c= .lose n),(l=t/\c= .moments),(∃n:Int,l=n::t/\c= .back n),(l=t/\c= .now),(∃n p:Int,l=n::p::t/\c= .result n p),(∃n:Int,l=n::t/\c= .results n),(∃n p:Int,l=n::p::t/\c= .differ n p),(∃n p:Int,l=n::p::t/\c= .edits n p),(∃n p:Int,l=n::p::t/\c= .blame n p),(∃n p q:Int,l=n::p::q::t/\c= .flips n p q),(∃n p q:Int,l=n::p::q::t/\c= .bisect n p q),(∃n p q:Int,l=n::p::q::t/\c= .touching n p q),(∃n p q:Int,l=n::p::q::t/\c= .guilty n p q),(∃n p q:Int,l=n::p::q::t/\c= .shrink n p q),(∃n p:Int,l=n::p::t/\c= .workings n p),(∃n p:Int,l=n::p::t/\c= .runs n p)] m.toNat False
theorem fQ{L:List Int}{m:Int}(h:bR L c t)(e:L=m::l):Tk m l c t:=by
 cases h<;>cases e<;>first|exact⟨_,_,_,rfl,rfl⟩|exact⟨_,_,rfl,rfl⟩|exact⟨_,rfl,rfl⟩|exact⟨rfl,rfl⟩|exact⟨_,_,_,_,_,rfl,rfl,‹_›⟩
theorem VA(h:bR (0::l) c t):∃(n x k d:Int)(r:List Int),l=n::x::k::d::(r.length:Int)::(r++t)/\c= .put n x k d r/\r.length<=40:=fQ h rfl
theorem Vz(h:bR (1::l) c t):∃n:Int,l=n::t/\c= .drop n:=fQ h rfl
theorem Vy(h:bR (2::l) c t):∃n:Int,l=n::t/\c= .seed n:=fQ h rfl
theorem Vx(h:bR (3::l) c t):∃n:Int,l=n::t/\c= .moment n:=fQ h rfl
theorem Vw(h:bR (4::l) c t):∃n:Int,l=n::t/\c= .lose n:=fQ h rfl
theorem Vv(h:bR (5::l) c t):l=t/\c= .moments:=fQ h rfl
theorem Vu(h:bR (6::l) c t):∃n:Int,l=n::t/\c= .back n:=fQ h rfl
theorem Vt(h:bR (7::l) c t):l=t/\c= .now:=fQ h rfl
theorem Vs(h:bR (8::l) c t):∃n p:Int,l=n::p::t/\c= .result n p:=fQ h rfl
theorem Vr(h:bR (9::l) c t):∃n:Int,l=n::t/\c= .results n:=fQ h rfl
theorem T5(h:bR (10::l) c t):∃n p:Int,l=n::p::t/\c= .differ n p:=fQ h rfl
theorem T4(h:bR (11::l) c t):∃n p:Int,l=n::p::t/\c= .edits n p:=fQ h rfl
theorem T0(h:bR (12::l) c t):∃n p:Int,l=n::p::t/\c= .blame n p:=fQ h rfl
theorem TZ(h:bR (13::l) c t):∃n p q:Int,l=n::p::q::t/\c= .flips n p q:=fQ h rfl
theorem TY(h:bR (14::l) c t):∃n p q:Int,l=n::p::q::t/\c= .bisect n p q:=fQ h rfl
theorem TX(h:bR (15::l) c t):∃n p q:Int,l=n::p::q::t/\c= .touching n p q:=fQ h rfl
theorem TW(h:bR (16::l) c t):∃n p q:Int,l=n::p::q::t/\c= .guilty n p q:=fQ h rfl
theorem TV(h:bR (17::l) c t):∃n p q:Int,l=n::p::q::t/\c= .shrink n p q:=fQ h rfl
theorem TU(h:bR (18::l) c t):∃n p:Int,l=n::p::t/\c= .workings n p:=fQ h rfl
theorem TQ(h:bR (19::l) c t):∃n p:Int,l=n::p::t/\c= .runs n p:=fQ h rfl
theorem Rl(h:bR l c t):∃(m:Nat)(r:List Int),l=(m:Int)::r/\m<20:=by
 cases h
 .exact⟨0,_,rfl,by decide⟩
 .exact⟨1,_,rfl,by decide⟩
 .exact⟨2,_,rfl,by decide⟩
 .exact⟨3,_,rfl,by decide⟩
 .exact⟨4,_,rfl,by decide⟩
 .exact⟨5,_,rfl,by decide⟩
 .exact⟨6,_,rfl,by decide⟩
 .exact⟨7,_,rfl,by decide⟩
 .exact⟨8,_,rfl,by decide⟩
 .exact⟨9,_,rfl,by decide⟩
 .exact⟨10,_,rfl,by decide⟩
 .exact⟨11,_,rfl,by decide⟩
 .exact⟨12,_,rfl,by decide⟩
 .exact⟨13,_,rfl,by decide⟩
 .exact⟨14,_,rfl,by decide⟩
 .exact⟨15,_,rfl,by decide⟩
 .exact⟨16,_,rfl,by decide⟩
 .exact⟨17,_,rfl,by decide⟩
 .exact⟨18,_,rfl,by decide⟩
 .exact⟨19,_,rfl,by decide⟩
end
theorem cw.more{s:aP}(ok:cw s){e:ej}(h:g0 e)(hl:s.edits.length<40):cw {s with edits:=s.edits++[e]}:=by
 refine⟨λe' he=>?_,?_,ok.aam,λy hy=>?_⟩
 .rcases bT.mp he with h1|h1
  .exact ok.ed _ h1
  .have:e'=e:=by simpa using h1
   rw[this];exact h
 .show(s.edits++[e]).length<=40;rw[bG];simp
  lia
 .have:=ok.mom y hy;refine⟨this.1,?_⟩;show y.2<=(s.edits++[e]).length;rw[bG]
  lia
theorem EH{s:aP}{n x k c:Int}{r:List Int}(h:gr s n x k c r=0):bX n x k c r=0/\s.edits.length<40:=by
 unfold gr at h;by_cases c0:bX n x k c r=0
 .refine⟨c0,?_⟩;rw[if_neg (not_not_intro c0)]at h;by_cases c1:(b5 (a_ s) n||decide ((a_ s).cells.length<12))=false
  .rw[if_pos c1]at h;cases h
  rw[if_neg c1]at h;by_cases c2:il (a_ s) n x k c r=true
  .rw[if_pos c2]at h;cases h
  rw[if_neg c2]at h;by_cases c3:40<=s.edits.length
  .rw[if_pos c3]at h;cases h
  lia
 .rw[if_pos c0]at h;exact absurd h c0
theorem Ul{s:aP}(ok:cw s)(c:eB):cw (bS s c).1:=by
 cases c
 case put n x k c r=>
  rw[u5 ok];by_cases z:gr s n x k c r=0
  .rw[if_pos z];exact ok.more (zN (EH z).1).1 (EH z).2
  .rw[if_neg z];exact ok
 case drop n=>
  rw[uP ok];by_cases z:b5 (a_ s) n=false
  .rw[if_pos z];exact ok
  rw[if_neg z];by_cases z2:40<=s.edits.length
  .rw[if_pos z2];exact ok
  rw[if_neg z2];exact ok.more (IE (s:=a_ s) (dM ok.ed _) (by simpa using z)) (by lia)
 case seed x=>
  rw[uO];by_cases z:bD x 0 1000=false
  .rw[if_pos z];exact ok
  rw[if_neg z];by_cases z1:x=((a_ s).seed:Int)
  .rw[if_pos z1];exact ok
  rw[if_neg z1];by_cases z2:40<=s.edits.length
  .rw[if_pos z2];exact ok
  rw[if_neg z2];have h:=j8.mp (by simpa using z:bD x 0 1000=true);exact ok.more (show x.toNat<=1000 by lia) (by lia)
 case moment x=>
  have ZV:bS s (.moment x)=if bD x 0 31=true then({s with moments:=lB x.toNat s.edits.length s.moments},⟨(s.edits.length:Int),[]⟩)else(s,⟨-5,[]⟩):=rfl;rw[ZV];by_cases z:bD x 0 31=true
  .rw[if_pos z];refine⟨ok.ed,ok.YI,CK ok.aam,λy hy=>?_⟩;rcases(uk ok.aam).mp hy with rfl|⟨h1,_⟩
   .have h:=j8.mp z;exact⟨by show x.toNat<=31;lia,aT _⟩
   .exact ok.mom y h1
  .rw[if_neg z];exact ok
 case lose x=>
  have ZV:bS s (.lose x)=if mT s x=true then({s with moments:=s.moments.filter λy=>y.1 !=x.toNat},⟨0,[]⟩)else(s,⟨-11,[]⟩):=rfl;rw[ZV];by_cases z:mT s x=true
  .rw[if_pos z];refine⟨ok.ed,ok.YI,?_,λy hy=>ok.mom y (bM.mp hy).1⟩;have:=ok.aam;rw[g_,ff]at this ⊢;exact this.filter _
  .rw[if_neg z];exact ok
 case back p=>
  have ZV:bS s (.back p)=if bB s p=true then({edits:=s.edits.take p.toNat,moments:=s.moments.filter λy=>decide (y.2<=p.toNat)},⟨((s.edits.length-p.toNat:Nat):Int),[]⟩)else(s,⟨-10,[]⟩):=rfl;rw[ZV];by_cases z:bB s p=true
  .rw[if_pos z];obtain⟨e1,e2⟩:=rT z;refine⟨λe he=>ok.ed e (mK he),?_,?_,λy hy=>?_⟩
   .show(s.edits.take p.toNat).length<=40;rw[cO];have:=ok.YI
    lia
   .have:=ok.aam;rw[g_,ff]at this ⊢;exact this.filter _
   .obtain⟨h1,h2⟩:=bM.mp hy;refine⟨(ok.mom y h1).1,?_⟩;show y.2<=(s.edits.take p.toNat).length;rw[cO];have:y.2<=p.toNat:=by simpa using h2
    lia
  .rw[if_neg z];exact ok
 all_goals exact ok
theorem r9{α β:Type}(f:α->List β)(k:Nat):∀l:List α,(∀a∈l,(f a).length<=k)->(l.flatMap f).length<=k*l.length
 |[],_=>by simp
 |a::l,h=>by
  have h1:=r9 f k l λb hb=>h b (bq _ hb);have h2:=h a bA;rw[lz,bG,cC,Nat.mul_succ]
  lia
theorem UW{s:aP}(ok:cw s):s.moments.length<=32:=by
 have Y4:(s.moments.map λy=>y.1).length<=32:=uR 32 _ (ok.aam.imp λh=>cx h) λn hn=>by
  obtain⟨y,hy,rfl⟩:=aK.mp hn;have:=(ok.mom y hy).1
  lia
 rw[aE]at Y4;exact Y4
theorem lN{s:aP}{p q:Int}{f:Nat->Nat->jU}(h:∀p q:Nat,p<=s.edits.length->q<=s.edits.length->p<=q->(f p q).more.length<=900):(gM s p q f).more.length<=900:=by
 unfold gM;by_cases z:(bB s p&&bB s q&&decide (p<=q))=true
 .rw[if_pos z];simp only[hU,decide_eq_true_eq]at z;obtain⟨a1,a2⟩:=rT z.1.1;obtain⟨b1,b2⟩:=rT z.1.2;exact h _ _ a2 b2 (by lia)
 .rw[if_neg z];simp
theorem Eo(p q:Nat):(da p q).length=q-p:=by unfold da;rw[aE,kI]
theorem u4(l:List Nat):(pJ l).more.length=l.length:=aE _
theorem yP(s:aP)(n p:Nat):∀(l k:List Nat),(eV s n p k l).length<=k.length+l.length
 |[],k=>by simp[eV]
 |a::l,k=>by
  unfold eV;split
  .have:=yP s n p l (k++[a]);rw[bG]at this;simp at this ⊢
   lia
  .have:=yP s n p l k;simp
   lia
theorem ED(s:aP)(n p:Nat):∀(k:Nat)(l:List Nat),(ph s n p k l).length<=l.length
 |0,l=>aT _
 |k+1,l=>by
  unfold ph;dsimp only;split
  .exact aT _
  .have h1:=ED s n p k (eV s n p [] l);have h2:=yP s n p l [];simp at h2
   lia
theorem Vj{s:aP}(ok:cw s)(c:eB):(bS s c).2.more.length<=900:=by
 have YI:=ok.YI;have pos:∀p:Int,Wf (bj s p.toNat):=λp=>dM ok.ed _;have bl:∀(p q:Nat)(f:Nat->Bool),p<=s.edits.length->q<=s.edits.length->((da p q).filter f).length<=900:=λp q f h1 h2=>by
  have:=gg f (da p q);rw[Eo]at this
  lia
 cases c
 case put n x k c r=>rw[u5 ok];split<;>simp
 case drop n=>
  rw[uP ok];split
  .simp
  .split<;>simp
 case seed x=>
  rw[uO];split
  .simp
  .split
   .simp
   .split<;>simp
 case moment x=>have ZV:bS s (.moment x)=if bD x 0 31=true then({s with moments:=lB x.toNat s.edits.length s.moments},⟨(s.edits.length:Int),[]⟩)else(s,⟨-5,[]⟩):=rfl;rw[ZV];split<;>simp
 case lose x=>have ZV:bS s (.lose x)=if mT s x=true then({s with moments:=s.moments.filter λy=>y.1 !=x.toNat},⟨0,[]⟩)else(s,⟨-11,[]⟩):=rfl;rw[ZV];split<;>simp
 case back p=>have ZV:bS s (.back p)=if bB s p=true then({edits:=s.edits.take p.toNat,moments:=s.moments.filter λy=>decide (y.2<=p.toNat)},⟨((s.edits.length-p.toNat:Nat):Int),[]⟩)else(s,⟨-10,[]⟩):=rfl;rw[ZV];split<;>simp
 case moments=>
  show(s.moments.flatMap λy=>[gJ y.1,gJ y.2]).length<=900;have h1:=r9 (λy:Nat×Nat=>[gJ y.1,gJ y.2]) 2 s.moments λ_ _=>by simp
  have h2:=UW ok
  lia
 case now=>simp[bS,fC]
 case result n p=>show(if bB s p=true then CB _ else⟨-10,[]⟩:jU).more.length<=900;split<;>simp[CB]
 case results p=>
  show(if bB s p=true then wM (ju (bj s p.toNat))else⟨-10,[]⟩:jU).more.length<=900;split
  .have h1:=r9 (λx:Nat×Du=>gJ x.1::mQ x.2) 3 (ju (bj s p.toNat)) λ_ _=>by simp[mQ]
   have h2:(ju (bj s p.toNat)).length=(bj s p.toNat).cells.length:=by unfold ju;rw[aE]
   have:=(pos p).YI;show((ju (bj s p.toNat)).flatMap λx=>gJ x.1::mQ x.2).length<=900
   lia
  .simp
 case differ p q=>
  show(if(bB s p&&bB s q)=true then wX (lH (bj s p.toNat) (bj s q.toNat))else⟨-10,[]⟩:jU).more.length<=900;split
  .have h1:=r9 (λx:Nat×Du×Du=>gJ x.1::mQ x.2.1++mQ x.2.2) 5 (lH (bj s p.toNat) (bj s q.toNat)) λ_ _=>by simp[mQ]
   have h2:(lH (bj s p.toNat) (bj s q.toNat)).length<=100:=by unfold lH;dsimp only;rw[aE];have:=gg (λn=>xi (ju (bj s p.toNat)) n !=xi (ju (bj s q.toNat)) n) (cI 100);rw[kI]at this;exact this
   show((lH (bj s p.toNat) (bj s q.toNat)).flatMap λx=>gJ x.1::mQ x.2.1++mQ x.2.2).length<=900
   lia
  .simp
 case edits p q=>
  refine lN λp q hp hq hpq=>?_;have h1:=r9 gj 12 ((s.edits.take q).drop p) λe he=>by
   have ho:=ok.ed e (mK (tT he));cases e with
   |put c=>have:=jE.rl ho;simp[gj];lia
   |drop n=>simp[gj]
   |seed x=>simp[gj]
  have h2:((s.edits.take q).drop p).length<=40:=by rw[gH,cO];lia
  show(((s.edits.take q).drop p).flatMap gj).length<=900
  lia
 case blame n p=>show(if bB s p=true then⟨_,[]⟩else⟨-10,[]⟩:jU).more.length<=900;split<;>simp
 case flips n p q=>refine lN λp q hp hq hpq=>?_;rw[u4];exact bl p q _ hp hq
 case bisect n p q=>refine lN λp q hp hq hpq=>?_;unfold BV;split<;>simp
 case touching n p q=>refine lN λp q hp hq hpq=>?_;rw[u4];exact bl p q _ hp hq
 case guilty n p q=>
  refine lN λp q hp hq hpq=>?_;split
  .simp
  .rw[u4];exact bl p q _ hp hq
 case shrink n p q=>
  refine lN λp q hp hq hpq=>?_;split
  .simp
  .split
   .simp
   .rw[u4];have h1:=ED s (ax n) p (q-p+1) (da p q);rw[Eo]at h1
    lia
 case workings p q=>exact lN λp q hp hq hpq=>by simp
 case runs p q=>exact lN λp q hp hq hpq=>by simp
theorem Tz{s:aP}(ok:cw s)(c:eB):(fc (bS s c).2).length<=901:=by
 have:=Vj ok c;unfold fc;rw[cC]
 lia
end
section
section
theorem dy.wr2{H:Hp}{R dr L:aa}{i:Nat}{xs:List Int}(g:dy A K H R dr L i xs):∀b∈[R],∀o,H b=some o->Wr o:=λb hb o e=>by rw[bY.mp hb,g.re]at e;cases e;exact .inr (.inr (.inr (.inr ⟨_,_,_,_,rfl⟩)))
theorem bu.nR{H:Hp}{h dx le lp dm R dr L:aa}{s:aP}{i:Nat}{xs:List Int}(g:bu A H h dx le lp dm s)(r:dy A K H R dr L i xs):R∉[h,le,lp,dm]:=by
 obtain⟨es,h1,_⟩:=g.ed;obtain⟨ms,h3,_⟩:=g.mo;obtain⟨ps,h5,_⟩:=g.pg;have n1:R≠h:=bx r.re g.h λz=>by injection z with _ _ z;unfold f9 d_ at z;injection z with z _;injection z with z _;exact absurd z (by decide)
 have n2:R≠le:=bx r.re h1 (by intro z;cases z);have n3:R≠dm:=bx r.re h3 (by intro z;cases z);have n4:R≠lp:=bx r.re h5 (by intro z;cases z);simp[n1,n2,n3,n4]
theorem bu.keepR{H H':Hp}{h dx le lp dm R dr L:aa}{s:aP}{i:Nat}{xs:List Int}(g:bu A H h dx le lp dm s)(r:dy A K H R dr L i xs)(k:Kp H H' [R]):bu A H' h dx le lp dm s:=by
 have n:=g.nR r;simp only[aV,gG,or_false,not_or]at n;obtain⟨es,h1,h2⟩:=g.ed;obtain⟨ms,h3,h4⟩:=g.mo;obtain⟨ps,h5,h6⟩:=g.pg;exact⟨k _ _ g.h (by simpa using aX n.1),⟨es,k _ _ h1 (by simpa using aX n.2.1),aY.mapP h2 λa e q=>q.keep k r.wr2⟩,⟨ms,k _ _ h3 (by simpa using aX n.2.2.2),h4⟩,⟨ps,k _ _ h5 (by simpa using aX n.2.2.1),aY.mapP h6 λa e q=>q.same (qx k (λb hb=>by have z:=bY.mp hb;subst z;exact .inr ⟨_,r.re,_,_,_,_,rfl⟩) λb hb=> .inl hb)⟩,g.nl⟩
theorem bu.wrF{H:Hp}{h dx le lp dm:aa}{s:aP}(g:bu A H h dx le lp dm s):∀b∈[h,le,lp,dm],∀o u,H b≠some (.frz o u):=λb hb o u e=>by have:=g.wr b hb _ e;rcases this with⟨_,q⟩|⟨_,q⟩|⟨_,_,_,_,q⟩|⟨_,_,_,_,_,q⟩|⟨_,_,_,_,q⟩<;>cases q
def tz(A:Ad)(K:aA)(H:Hp)(h dx le lp dm R dr L:aa)(s:aP)(xs:List Int)(c:eB)(t:List Int)(Q:VK):Prop:=
 ∀(H':Hp)(YN YS YT l:aa)(i':Nat),bu A H' h dx YN YS YT (bS s c).1->dy A K H' R dr L i' xs->xs.drop i'=t->H' l=some (.lst ((fc (bS s c).2).map V.int))->H l=none->Kp H H' [h,le,lp,dm,R]->(YN=le\/H YN=none)->Fr H H'->Q (.ref l) H'
def fG(A:Ad)(K:aA)(m:Int):Sp:=λvs H Q _=>∃(h dx le lp dm R dr L:aa)(s:aP)(i:Nat)(xs t:List Int)(c:eB),vs=[.ref h,.ref R]/\bu A H h dx le lp dm s/\cw s/\dy A K H R dr L i xs/\bR (m::xs.drop i) c t/\tz A K H h dx le lp dm R dr L s xs c t Q
section
variable{H H1:Hp}{h dx le lp dm R dr L:aa}{s:aP}{xs t:List Int}{c:eB}{Q:VK}{i':Nat}
theorem tz.act(q:tz A K H h dx le lp dm R dr L s xs c t Q)(k:Kp H H1 [R])(g1:bu A H1 h dx le lp dm s)(r1:dy A K H1 R dr L i' xs)(ht:xs.drop i'=t)(hm:(bS s c).2.more=[]):
  tq A H1 h dx le lp dm (bS s c) (λv H2=>∀p,H2 p=none->Q (.ref p) (upd H2 p (.lst [v]))):=by
 intro H2 YN YS YT g2 k2 hl fr p hp;have s3:=ag.new (o:=HO.lst [V.int (bS s c).2.number]) hp;have f1:Fr H H1:=k.free λb hb e=>by rw[bY.mp hb,r1.re]at e;cases e
 refine q _ YN YS YT p i' (g2.same s3) ((r1.keep k2 (g1.nR r1) g1.wrF).same s3) ht ?_ (f1 _ (fr _ hp)) ?_ ?_ λb e=>f1 b (fr b (s3.free e))
 .rw[am];unfold fc;rw[hm];rfl
 .exact((k.mono (N:=[h,le,lp,dm,R]) (by simp)).trans (k2.mono (N:=[h,le,lp,dm,R]) λb hb=>lw [R] hb)).trans (Kp.of s3 _)
 .rcases hl with e|e
  .exact .inl e
  .exact .inr (f1 _ e)
theorem tz.tell(q:tz A K H h dx le lp dm R dr L s xs c t Q)(k:Kp H H1 [R])(g1:bu A H1 h dx le lp dm s)(r1:dy A K H1 R dr L i' xs)(ht:xs.drop i'=t)(ZY:bS s c=(s,fC s c)):
  ∀(H2:Hp)(l:aa),H2 l=some (.lst ((fc (fC s c)).map V.int))->ag H1 H2->H1 l=none->Q (.ref l) H2:=by
 intro H2 l hl s2 hn;have f1:Fr H H1:=k.free λb hb e=>by rw[bY.mp hb,r1.re]at e;cases e
 refine q H2 le lp dm l i' ?_ (r1.same s2) ht ?_ (f1 _ hn) ((k.mono (N:=[h,le,lp,dm,R]) (by simp)).trans (Kp.of s2 _)) (.inl rfl) λb e=>f1 b (s2.free e)
 .rw[ZY];exact g1.same s2
 .rw[ZY];exact hl
end
theorem VY{s:aP}(ok:cw s)(n:Int):(bS s (.drop n)).2.more=[]:=by
 rw[uP ok];split
 .rfl
 .split<;>rfl
theorem VZ{s:aP}(ok:cw s)(n x k c:Int)(r:List Int):(bS s (.put n x k c r)).2.more=[]:=by rw[u5 ok];split<;>rfl
theorem VX{s:aP}(n:Int):(bS s (.seed n)).2.more=[]:=by
 rw[uO];split
 .rfl
 .split
  .rfl
  .split<;>rfl
theorem VW{s:aP}(n:Int):(bS s (.moment n)).2.more=[]:=by show(if cP n 0 31=true then _ else _:aP×jU).2.more=[];split<;>rfl
theorem VV{s:aP}(n:Int):(bS s (.lose n)).2.more=[]:=by show(if mT s n=true then _ else _:aP×jU).2.more=[];split<;>rfl
theorem VU{s:aP}(n:Int):(bS s (.back n)).2.more=[]:=by show(if cP n 0 (gJ s.edits.length)=true then _ else _:aP×jU).2.more=[];split<;>rfl
theorem OJ(F:aO K "call_drop" "call_drop" Ek f fd)(T:Txt A K mg)(GT:Gm P w K mg Yx 1 A.Re "take" ["self"] (fF A K))(G:Gf P w K mg Yx 8 "drop_cell" ["history","number"] (kb A .drop)):aI P w K mg Yx aN 10 f fd ["history","reader"] (fG A K 1):=by
 exists ["history","reader"]
 .obtain⟨h,dx,le,lp,dm,R,dr,L,s,i,xs,t,c,rfl,g,ok,rd,tk,q⟩:=h;obtain⟨n,e1,rfl⟩:=Vz tk;obtain⟨d1,d2,d3⟩:=b7 e1;refine⟨_,au (aF (bI (af (bL G hr.m (af (pv 0) (af (bo GT hr.m (pv 1)) ak))) ak))),?_⟩
  dsimp![rd.re]
  refine⟨by rfl,R,dr,L,i,xs,n,rfl,rd,d1,λH1 r1 k1=>?_⟩;have g1:=g.keepR rd k1;refine⟨h,dx,le,lp,dm,s,n,rfl,g1,ok,λH2 YN YS YT g2 k2 hl fr=>⟨lh,?_⟩⟩;exact q.act k1 g1 r1 d2 (VY ok n) H2 YN YS YT g2 k2 hl fr
theorem OG(F:aO K "call_seed" "call_seed" Eh f fd)(T:Txt A K mg)(GT:Gm P w K mg Yx 1 A.Re "take" ["self"] (fF A K))(G:Gf P w K mg Yx 8 "change_seed" ["history","new_seed"] (kb A .seed)):aI P w K mg Yx aN 10 f fd ["history","reader"] (fG A K 2):=by
 exists ["history","reader"]
 .obtain⟨h,dx,le,lp,dm,R,dr,L,s,i,xs,t,c,rfl,g,ok,rd,tk,q⟩:=h;obtain⟨n,e1,rfl⟩:=Vy tk;obtain⟨d1,d2,d3⟩:=b7 e1;refine⟨_,au (aF (bI (af (bL G hr.m (af (pv 0) (af (bo GT hr.m (pv 1)) ak))) ak))),?_⟩
  dsimp![rd.re]
  refine⟨by rfl,R,dr,L,i,xs,n,rfl,rd,d1,λH1 r1 k1=>?_⟩;have g1:=g.keepR rd k1;refine⟨h,dx,le,lp,dm,s,n,rfl,g1,ok,λH2 YN YS YT g2 k2 hl fr=>⟨lh,?_⟩⟩;exact q.act k1 g1 r1 d2 (VX n) H2 YN YS YT g2 k2 hl fr
theorem NN(F:aO K "call_moment" "call_moment" Dh f fd)(T:Txt A K mg)(GT:Gm P w K mg Yx 1 A.Re "take" ["self"] (fF A K))(G:Gf P w K mg Yx 5 "remember_moment" ["history","name"] (kb A .moment)):aI P w K mg Yx aN 10 f fd ["history","reader"] (fG A K 3):=by
 exists ["history","reader"]
 .obtain⟨h,dx,le,lp,dm,R,dr,L,s,i,xs,t,c,rfl,g,ok,rd,tk,q⟩:=h;obtain⟨n,e1,rfl⟩:=Vx tk;obtain⟨d1,d2,d3⟩:=b7 e1;refine⟨_,au (aF (bI (af (bL G hr.m (af (pv 0) (af (bo GT hr.m (pv 1)) ak))) ak))),?_⟩
  dsimp![rd.re]
  refine⟨by rfl,R,dr,L,i,xs,n,rfl,rd,d1,λH1 r1 k1=>?_⟩;have g1:=g.keepR rd k1;refine⟨h,dx,le,lp,dm,s,n,rfl,g1,ok,λH2 YN YS YT g2 k2 hl fr=>⟨lh,?_⟩⟩;exact q.act k1 g1 r1 d2 (VW n) H2 YN YS YT g2 k2 hl fr
theorem OI(F:aO K "call_lose" "call_lose" Ej f fd)(T:Txt A K mg)(GT:Gm P w K mg Yx 1 A.Re "take" ["self"] (fF A K))(G:Gf P w K mg Yx 5 "lose_moment" ["history","name"] (kb A .lose)):aI P w K mg Yx aN 10 f fd ["history","reader"] (fG A K 4):=by
 exists ["history","reader"]
 .obtain⟨h,dx,le,lp,dm,R,dr,L,s,i,xs,t,c,rfl,g,ok,rd,tk,q⟩:=h;obtain⟨n,e1,rfl⟩:=Vw tk;obtain⟨d1,d2,d3⟩:=b7 e1;refine⟨_,au (aF (bI (af (bL G hr.m (af (pv 0) (af (bo GT hr.m (pv 1)) ak))) ak))),?_⟩
  dsimp![rd.re]
  refine⟨by rfl,R,dr,L,i,xs,n,rfl,rd,d1,λH1 r1 k1=>?_⟩;have g1:=g.keepR rd k1;refine⟨h,dx,le,lp,dm,s,n,rfl,g1,ok,λH2 YN YS YT g2 k2 hl fr=>⟨lh,?_⟩⟩;exact q.act k1 g1 r1 d2 (VV n) H2 YN YS YT g2 k2 hl fr
theorem OK(F:aO K "call_back" "call_back" El f fd)(T:Txt A K mg)(GT:Gm P w K mg Yx 1 A.Re "take" ["self"] (fF A K))(G:Gf P w K mg Yx 5 "go_back" ["history","p"] (kb A .back)):aI P w K mg Yx aN 10 f fd ["history","reader"] (fG A K 6):=by
 exists ["history","reader"]
 .obtain⟨h,dx,le,lp,dm,R,dr,L,s,i,xs,t,c,rfl,g,ok,rd,tk,q⟩:=h;obtain⟨n,e1,rfl⟩:=Vu tk;obtain⟨d1,d2,d3⟩:=b7 e1;refine⟨_,au (aF (bI (af (bL G hr.m (af (pv 0) (af (bo GT hr.m (pv 1)) ak))) ak))),?_⟩
  dsimp![rd.re]
  refine⟨by rfl,R,dr,L,i,xs,n,rfl,rd,d1,λH1 r1 k1=>?_⟩;have g1:=g.keepR rd k1;refine⟨h,dx,le,lp,dm,s,n,rfl,g1,ok,λH2 YN YS YT g2 k2 hl fr=>⟨lh,?_⟩⟩;exact q.act k1 g1 r1 d2 (VU n) H2 YN YS YT g2 k2 hl fr
theorem Nq(F:aO K "call_moments" "call_moments" CP f fd)(T:Txt A K mg)(G:Gf P w K mg Yx 5 "tell_moments" ["history"] (K2 A .moments)):aI P w K mg Yx aN 10 f fd ["history","reader"] (fG A K 5):=by
 exists ["history","reader"]
 .obtain⟨h,dx,le,lp,dm,R,dr,L,s,i,xs,t,c,rfl,g,ok,rd,tk,q⟩:=h;obtain⟨e1,rfl⟩:=Vv tk;refine⟨_,au (aF (bL G hr.m (af (pv 0) ak))),?_⟩
  dsimp![]
  exact⟨h,dx,le,lp,dm,s,rfl,g,ok,q.tell (Kp.refl H _) g rd e1 rfl⟩
theorem Pk(F:aO K "call_now" "call_now" EX f fd)(T:Txt A K mg)(G:Gm P w K mg Yx 1 A.Hi "last_position" ["self"] (qc A)):aI P w K mg Yx aN 10 f fd ["history","reader"] (fG A K 7):=by
 exists ["history","reader"]
 .obtain⟨h,dx,le,lp,dm,R,dr,L,s,i,xs,t,c,rfl,g,ok,rd,tk,q⟩:=h;obtain⟨e1,rfl⟩:=Vt tk;refine⟨_,au (aF (bI (af (bo G hr.m (pv 0)) ak))),?_⟩
  dsimp![g.h]
  refine⟨by rfl,h,dx,le,lp,dm,s,rfl,g,lh,λl hl=>?_⟩;exact q.tell (Kp.refl H _) g rd e1 rfl _ l am (ag.new hl) hl
theorem NM(F:aO K "call_result" "call_result" Dg f fd)(T:Txt A K mg)(GT:Gm P w K mg Yx 1 A.Re "take" ["self"] (fF A K))(G:Gf P w K mg Yx 3 "tell_result" ["history","number","p"] (mC A λn p=> .result n p)):aI P w K mg Yx aN 10 f fd ["history","reader"] (fG A K 8):=by
 exists ["history","reader","number","p"]
 .obtain⟨h,dx,le,lp,dm,R,dr,L,s,i,xs,t,c,rfl,g,ok,rd,tk,q⟩:=h;obtain⟨n,p,e1,rfl⟩:=Vs tk;obtain⟨d1,d2,d3⟩:=b7 e1;obtain⟨d4,d5,d6⟩:=b7 d2;refine⟨_,ap (pS 2 nd (bo GT hr.m (pv 1))) (ap (pS 3 nd (bo GT hr.m (pv 1))) (au (aF (bL G hr.m (af (pv 0) (af (pv 2) (af (pv 3) ak))))))),?_⟩
  dsimp![rd.re]
  refine⟨by rfl,R,dr,L,i,xs,n,rfl,rd,d1,λH1 r1 k1=>?_⟩
  dsimp![r1.re]
  refine⟨by rfl,R,dr,L,i+1,xs,p,rfl,r1,d4,λH2 r2 k2=>?_⟩
  dsimp![]
  have k12:=k1.trans k2;have g2:=g.keepR rd k12;exact⟨h,dx,le,lp,dm,s,n,p,rfl,g2,ok,q.tell k12 g2 r2 d5 rfl⟩
theorem Np(F:aO K "call_results" "call_results" CO f fd)(T:Txt A K mg)(GT:Gm P w K mg Yx 1 A.Re "take" ["self"] (fF A K))(G:Gf P w K mg Yx 3 "tell_results" ["history","p"] (K1 A λp=> .results p)):aI P w K mg Yx aN 10 f fd ["history","reader"] (fG A K 9):=by
 exists ["history","reader"]
 .obtain⟨h,dx,le,lp,dm,R,dr,L,s,i,xs,t,c,rfl,g,ok,rd,tk,q⟩:=h;obtain⟨n,e1,rfl⟩:=Vr tk;obtain⟨d1,d2,d3⟩:=b7 e1;refine⟨_,au (aF (bL G hr.m (af (pv 0) (af (bo GT hr.m (pv 1)) ak)))),?_⟩
  dsimp![rd.re]
  refine⟨by rfl,R,dr,L,i,xs,n,rfl,rd,d1,λH1 r1 k1=>?_⟩;have g1:=g.keepR rd k1;exact⟨h,dx,le,lp,dm,s,n,rfl,g1,ok,q.tell k1 g1 r1 d2 rfl⟩
theorem Pj(F:aO K "call_put" "call_put" EW f fd)(T:Txt A K mg)(GT:Gm P w K mg Yx 1 A.Re "take" ["self"] (fF A K))(GL:Gm P w K mg Yx 2 A.Re "take_list" ["self"] (HG A K))(GC:Gi P w K mg Yx 1 A.Cl "Cell" ["self","number","name","kind","constant","reads"] (EA A))(G:Gf P w K mg Yx 8 "put_cell" ["history","cell"] (Fk A)):aI P w K mg Yx aN 10 f fd ["history","reader"] (fG A K 0):=by
 exists ["history","reader","number","name","kind","constant","reads"]
 .obtain⟨h,dx,le,lp,dm,R,dr,L,s,i,xs,t,c,rfl,g,ok,rd,tk,q⟩:=h;obtain⟨n,x,k,c,r,e1,rfl,acw⟩:=VA tk;obtain⟨a1,a2,_⟩:=b7 e1;obtain⟨b1,b2,_⟩:=b7 a2;obtain⟨c1,c2,_⟩:=b7 b2;obtain⟨d1,d2,_⟩:=b7 c2;have YQ:=hr.mono (show 1<=9 by decide);refine⟨_,ap (pS 2 nd (bo GT YQ (pv 1))) (ap (pS 3 nd (bo GT YQ (pv 1))) (ap (pS 4 nd (bo GT YQ (pv 1))) (ap (pS 5 nd (bo GT YQ (pv 1))) (ap (pS 6 nd (bo GL hr.m (pv 1))) (au (aF (bI (af (bL G hr.m (af (pv 0) (af (oI GC hr.m (af (pv 2) (af (pv 3) (af (pv 4) (af (pv 5) (af (pv 6) ak)))))) ak))) ak)))))))),?_⟩
  dsimp![rd.re]
  refine⟨by rfl,R,dr,L,i,xs,n,rfl,rd,a1,λH1 r1 k1=>?_⟩
  dsimp![r1.re]
  refine⟨by rfl,R,dr,L,i+1,xs,x,rfl,r1,b1,λH2 r2 k2=>?_⟩
  dsimp![r2.re]
  refine⟨by rfl,R,dr,L,i+1+1,xs,k,rfl,r2,c1,λH3 r3 k3=>?_⟩
  dsimp![r3.re]
  refine⟨by rfl,R,dr,L,i+1+1+1,xs,c,rfl,r3,d1,λH4 r4 k4=>?_⟩
  dsimp![r4.re]
  refine⟨by rfl,R,dr,L,i+1+1+1+1,xs,r,t,rfl,r4,d2,λH5 l r5 hl hln k5=>?_⟩;have kk:=(((k1.trans k2).trans k3).trans k4).trans k5
  dsimp![]
  intro ca dc YW hdc Y0;have s6:ag H5 (upd (upd H5 dc (.own ca)) ca (.ins A.Cl dc [])):=ag.two hdc YW;refine⟨ca,dc,l,n,x,k,c,r,rfl,am,s6 _ _ hl,λH6 hR k6=>⟨rfl,?_⟩⟩;have s56:ag H5 H6:=λb o e=>k6 b o (s6 b o e) (by simpa using aG e YW);have k06:Kp H H6 [R]:=kk.trans (Kp.of s56 _);have g6:=g.keepR rd k06;refine⟨h,dx,le,lp,dm,ca,s,n,x,k,c,r,rfl,g6,ok,hR,acw,λH7 YN YS YT g7 k7 hl7 fr=>⟨lh,?_⟩⟩;have et:xs.drop (i+1+1+1+1+1+r.length)=t:=by have:=(b7 d2).2.1;rw[<-rj,this,List.drop_left]
  exact q.act k06 g6 (r5.same s56) et (VZ ok n x k c r) H7 YN YS YT g7 k7 hl7 fr
end
end
section
section
theorem eJ.pl{H H':Hp}{a:aa}{e:ej}(h:eJ A H a e)(kk:∀b o,H b=some o->Pl o->H' b=some o):eJ A H' a e:=by
 cases e with
 |put c=>obtain⟨dx,ca,h1,h2⟩:=h;exact⟨dx,ca,kk _ _ h1 ⟨rfl,rfl⟩,e_.pl h2 kk⟩
 |drop n=>obtain⟨dx,h1⟩:=h;exact⟨dx,kk _ _ h1 ⟨rfl,rfl⟩⟩
 |seed x=>obtain⟨dx,h1⟩:=h;exact⟨dx,kk _ _ h1 ⟨rfl,rfl⟩⟩
theorem bu.wo{H:Hp}{h dx le lp dm t:aa}{s:aP}{od:Obj}{ys:List V}(g:bu A H h dx le lp dm s)(ht:H t=some (.frz od (.lst ys))):bu A (eO H [t]) h dx le lp dm s:=by
 have kn:∀b o,H b=some o->(∀o' u,o≠ .frz o' u)->eO H [t] b=some o:=λb o e z=>nO e (by simpa using bx e ht (z _ _));have kk:∀b o,H b=some o->Pl o->eO H [t] b=some o:=λb o e z=>nO e λq=>by rw[bY.mp q,ht]at e;cases e;exact z
 obtain⟨es,h1,h2⟩:=g.ed;obtain⟨ms,h3,h4⟩:=g.mo;obtain⟨ps,h5,h6⟩:=g.pg;refine⟨kn _ _ g.h (λ_ _ z=>by cases z),⟨es,kn _ _ h1 (λ_ _ z=>by cases z),aY.mapP h2 λa e q=>q.pl kk⟩,⟨ms,kn _ _ h3 (λ_ _ z=>by cases z),h4⟩,⟨ps,kn _ _ h5 (λ_ _ z=>by cases z),aY.mapP h6 λa e q=>q.pl λb o e z=>?_⟩,g.nl⟩;obtain⟨e1,e2,e3⟩:=qk.mp e;exact qk.mpr ⟨kk b o e1 z,e2,e3⟩
theorem Hy{H H':Hp}{t:aa}(k:∀b o,H b=some o->b≠t->H' b=some o):ag (eO H [t]) (eO H' [t]):=λb o e=>by
 have hn:b∉[t]:=λz=>by rw[uZ z]at e;cases e
 exact nO (k b o (lM _ _ e) (by simpa using hn)) hn
theorem Vn{H H':Hp}{t:aa}(k:∀b o,H b=some o->b≠t->H' b=some o):ag (eO H [t]) H':=(Hy k).trans lM
def WZ(P:ba)(w:aQ)(K:aA)(mg:Str->Option ac)(Yx:aM)(A:Ad)(j:Nat):Prop:=∃fs:List aa,IsT K mg "CALLS" (fs.map V.ref)/\∀m:Nat,m<20->∃f,fs[m]? =some f/\Callee P w K mg Yx j f (fG A K (m:Int))
def vY(K:aA):Sp:=λvs H Q _=>∃(a:aa)(xs:List Int)(ks:List eB),vs=[.ref a]/\kj K H a (xs.map V.int)/\lf xs ks/\ks.length<=400/\∀(H':Hp)(p:aa),H' p=some (.lst ((ki pA ks).map V.int))->Q (.ref p) H'
structure AI(A:Ad)(K:aA)(xs:List Int)(ks0:List eB)(aL R dr h dx tl:aa)(m:Nat)(σ:L2.St)(H:Hp):Prop where
 ex:∃(s:aP)(i:Nat)(ks:List eB)(ts:List Int)(le lp dm:aa)(v4 v5:Option V),σ=[some (.ref aL),some (.ref R),some (.ref h),some (.ref tl),v4,v5]/\m=ks.length/\lf (xs.drop i) ks/\cw s/\bu A (eO H [tl]) h dx le lp dm s/\dy A K H R dr aL i xs/\H tl=some (.lst (ts.map V.int))/\ts++ki s ks=ki pA ks0/\ts.length+1000*ks.length<=400000
theorem S6{l:List Int}{ks:List eB}(h:lf l ks):(l=[]/\ks=[])\/∃(k:eB)(YC:List eB)(t:List Int),ks=k::YC/\bR l k t/\lf t YC:=by
 cases h with
 |nil=>exact .inl ⟨rfl,rfl⟩
 |cons a b=>exact .inr ⟨_,_,_,rfl,a,b⟩
theorem Qu{j:Nat}(F:aO K "answers" "answers" yC f fd)(T:Txt A K mg)(hj:9<=j)(GR:Gi P w K mg Yx 1 A.Re "Reader" ["self","numbers"] (F8 A))(GH:Gi P w K mg Yx 7 A.Hi "History" ["self"] (Ga A))(GM:Gm P w K mg Yx 1 A.Re "has_more" ["self"] (Jd A K))(GT:Gm P w K mg Yx 1 A.Re "take" ["self"] (fF A K))(D:WZ P w K mg Yx A j):
  aI P w K mg Yx aN (j+1) f fd ["calls"] (vY K):=by
 obtain⟨fs,⟨cA,t1,t2⟩,hC⟩:=D
 exists ["calls","reader","history","told","call","answer"]
 .obtain⟨aL,xs,ks0,rfl,hs,hL,hk,q⟩:=h;refine⟨_,ap (pS 1 nd (oI GR (hr.mono (by lia)) (af (pv 0) ak))) (ap (pS 2 nd (Am GH (hr.mono (by lia)))) (ap (pS 3 nd (bI ak)) (ap (pO dG (cg (bo GM (hr.mono (by lia)) (pv 1))) (ap (pS 4 nd (cH lY (wu t1) (bo GT (hr.mono (by lia)) (pv 1)) (λ_ _=>rfl))) (ap (vx (pS 5 nd (SO (i:=4) hr (af (pv 2) (af (pv 1) ak))))) (ap (cX (eY fe jp jo i6 (pv 3) (af (cE kQ rfl T.len fU (af (pv 5) ak)) ak))) (au (cX (eY fe kC lu rS (pv 3) (af (pv 5) ak)))))))) (au (aF (pv 3)))))),?_⟩
  dsimp![]
  intro R dr hR hdr Y0;refine⟨R,dr,aL,rfl,am,rfl,?_⟩;rw[vo];have s1:ag H (upd (upd H dr (.own R)) R (.ins A.Re dr (f9 aL 0))):=ag.two hdr hR;have r1:dy A K (upd (upd H dr (.own R)) R (.ins A.Re dr (f9 aL 0))) R dr aL 0 xs:=⟨am,hs.keep (M:=[]) (Kp.of s1 []) (λb hb=>by cases hb)⟩;generalize upd (upd H dr (.own R)) R (.ins A.Re dr (f9 aL 0))=H1 at s1 r1
  dsimp![]
  intro h dx hh hdx ajC;have s2:ag H1 (upd (upd H1 dx (.own h)) h (.ins A.Hi dx [])):=ag.two hdx hh;refine⟨h,dx,rfl,am,λH2 le lp dm g2 k2 Y4 ι ZR=>⟨rfl,?_⟩⟩;have s12:ag H1 H2:=λb o e=>k2 b o (s2 b o e) (by simpa using aG e hh);have r2:=r1.same s12
  dsimp![]
  refine⟨by decide,λtl Zg=>?_⟩;have s3:=ag.new (o:=HO.lst []) Zg;have w0:AI A K xs ks0 aL R dr h dx tl ks0.length [some (.ref aL),some (.ref R),some (.ref h),some (.ref tl),none,none] (upd H2 tl (.lst [])):=by exact⟨pA,0,ks0,[],le,lp,dm,none,none,rfl,rfl,hL,Sn,g2.same λb o e=>nO (s3 _ _ e) (by simpa using aG e Zg),r2.same s3,am,rfl,by simp;lia⟩
  unfold zV;refine⟨AI A K xs ks0 aL R dr h dx tl,⟨_,w0⟩,?_⟩;rintro m σ H3 ⟨s,i,ks,ts,le,lp,dm,v4,v5,rfl,rfl,hL,ok,g,rd,ht,hp,hb⟩
  dsimp![rd.re]
  refine⟨by rfl,R,dr,aL,i,xs,rfl,rd,?_⟩
  dsimp![]
  rcases S6 hL with⟨e1,rfl⟩|⟨k,YC,t,rfl,tk,hL'⟩
  .have e2:¬i<xs.length:=by
    have:=congrArg fV e1;rw[gH]at this;simp at this
    lia
   rw[if_neg e2];refine q H3 tl ?_;rw[ht,<-hp];simp[ki]
  .obtain⟨m,r,e1,hm⟩:=Rl tk;obtain⟨d1,d2,d3⟩:=b7 e1;rw[if_pos (by lia)];refine⟨AI A K xs ks0 aL R dr h dx tl YC.length,λYD H' z=>⟨YC.length,by simp,z⟩,?_⟩
   dsimp![rd.re]
   refine⟨by rfl,R,dr,aL,i,xs,_,rfl,rd,d1,λH4 r4 k4=>?_⟩;obtain⟨fa,f1,f2⟩:=hC m hm;have f3:(fs.map V.ref)[m]? =some (.ref fa):=by rw[cq,f1];rfl
   have nR:R≠tl:=bx rd.re ht (by intro z;cases z);have ht4:H4 tl=some (.lst (ts.map V.int)):=k4 _ _ ht (by simpa using aX nR);have noF:∀{X:Hp}{ys:List V},X tl=some (.lst ys)->∀b∈[tl],∀o u,X b≠some (.frz o u):=λ{X ys}hx b hb o u e=>by rw[bY.mp hb,hx]at e;cases e
   have rdW:dy A K (eO H3 [tl]) R dr aL i xs:=rd.keep (M:=[tl]) (λb o e n=>nO e n) (by simpa using nR) (noF ht);have g4:bu A (eO H4 [tl]) h dx le lp dm s:=g.keepR rdW λb o e n=>by
    have hn:b∉[tl]:=λz=>by rw[uZ z]at e;cases e
    exact nO (k4 b o (lM _ _ e) n) hn
   dsimp![]
   refine⟨_,t2 H4,_,pY f3,tl,_,ht4,trivial,λod=>?_⟩;generalize hHL:upd H4 tl (.frz od (.lst (ts.map V.int)))=HL;have htL:HL tl=some (.frz od (.lst (ts.map V.int))):=by rw[<-hHL,am]
   have kL:∀b o,H4 b=some o->b≠tl->HL b=some o:=λb o e n=>by rw[<-hHL,aj n];exact e
   have gL:=g4.same (Vn kL);have rL:dy A K HL R dr aL (i+1) xs:=r4.keep (M:=[tl]) (λb o e n=>kL b o e (by simpa using n)) (by simpa using nR) (noF ht4)
   dsimp![]
   refine⟨_,f2,?_⟩;have tk':bR ((m:Int)::xs.drop (i+1)) k t:=by rw[d2,<-e1];exact tk
   refine⟨h,dx,le,lp,dm,R,dr,aL,s,i+1,xs,t,k,rfl,gL,ok,rL,tk',λH5 YN YS YT l i' g5 r5 ht5 hl hln k5 Y4 fr=>?_⟩;obtain⟨es4,he4,_⟩:=gL.ed;obtain⟨ms4,hm4,_⟩:=gL.mo;obtain⟨ps4,hp4,_⟩:=gL.pg;have n1:tl∉[h,le,lp,dm,R]:=by have a1:tl≠h:=bx htL gL.h (by intro z;cases z);have a2:tl≠dm:=bx htL hm4 (by intro z;cases z);have a3:tl≠le:=bx htL he4 (by intro z;cases z);have a4:tl≠lp:=bx htL hp4 (by intro z;cases z);simp[a1,a2,a3,a4,aX nR]
   have agE:=k5 _ _ htL n1;have nl:tl≠l:=aG htL hln;have g5w:=g5.wo agE;have YG:=Tz ok k;refine⟨agE,?_⟩;generalize hH6:upd H5 tl (.lst (ts.map V.int))=H6;have ht6:H6 tl=some (.lst (ts.map V.int)):=by rw[<-hH6,am]
   have hl6:H6 l=some (.lst ((fc (bS s k).2).map V.int)):=by rw[<-hH6,aj (aX nl)];exact hl
   have k6:∀b o,H5 b=some o->b≠tl->H6 b=some o:=λb o e n=>by rw[<-hH6,aj n];exact e
   generalize ah6:fc (bS s k).2=an at hl6 YG;have Z_:ts.length+1000*(YC.length+1)<=400000:=hb
   dsimp![dZ ht6,ht6]
   refine⟨_,ay.of hl6,by rw[aE,bC];lia,?_⟩;have ht7:upd H5 tl (.lst (ts.map V.int++[V.int ((an.map V.int).length:Int)])) tl=some (.lst (ts.map V.int++[V.int ((an.map V.int).length:Int)])):=am;have hl7:upd H5 tl (.lst (ts.map V.int++[V.int ((an.map V.int).length:Int)])) l=some (.lst (an.map V.int)):=by rw[aj (aX nl),<-ah6];exact hl
   dsimp![dZ ht7,uH,hl7]
   refine⟨by rw[bG,aE,aE,bC];simp;lia,?_⟩;have k8:∀b o,H5 b=some o->b≠tl->upd H5 tl (.lst (ts.map V.int++[V.int ((an.map V.int).length:Int)]++an.map V.int)) b=some o:=λb o e n=>by rw[aj n];exact e
   refine⟨(bS s k).1,i',YC,ts++[(an.length:Int)]++an,YN,YS,YT,_,_,rfl,rfl,by rw[ht5];exact hL',Ul ok k,g5w.same (Hy k8),?_,?_,?_,?_⟩
   .refine⟨k8 _ _ r5.re nR,rd.src.keep (M:=[h,le,lp,dm,R,tl]) (λb o e n=>?_) λb hb o u e=>?_⟩
    .simp only[aV,gG,or_false,not_or]at n;obtain⟨z1,z2,z3,z4,z5,z6⟩:=n;exact k8 _ _ (k5 _ _ (kL _ _ (k4 _ _ e (by simpa using z5)) z6) (by simp[z1,z2,z3,z4,z5])) z6
    .obtain⟨es3,he3,_⟩:=g.ed;obtain⟨ms3,hm3,_⟩:=g.mo;obtain⟨ps3,hp3,_⟩:=g.pg;simp only[aV,gG,or_false]at hb;rcases hb with rfl|rfl|rfl|rfl|rfl|rfl
     .rw[lM _ _ g.h]at e;cases e
     .rw[lM _ _ he3]at e;cases e
     .rw[lM _ _ hp3]at e;cases e
     .rw[lM _ _ hm3]at e;cases e
     .rw[rd.re]at e;cases e
     .rw[ht]at e;cases e
   .rw[am,bV,bV,aE];rfl
   .rw[<-hp];show _=ts++((((bS s k).2.more.length+1:Nat):Int)::(bS s k).2.number::(bS s k).2.more++ki (bS s k).1 YC);rw[<-ah6];unfold fc;simp
   .simp
    lia
end
end
section
theorem yF{c:az}(h:jE c):ax (c.number:Int)=c.number:=by unfold ax cP;rw[if_pos (by have:=h.n1;have:=h.n2;simp;lia),c_]
theorem Iy{s:ao}(w:Wf s){n:Int}(h:¬b5 s n=true):b_ s (ax n)=none:=by
 cases e:b_ s (ax n)with
 |none=>rfl
 |some c=>
  obtain⟨hc,e2⟩:=r_ e;have hw:=w.cell c hc;refine absurd (i9.mpr ⟨c,hc,?_⟩) h;unfold ax at e2;by_cases q:cP n 1 99=true
  .rw[if_pos q]at e2;unfold cP at q;simp at q
   lia
  .rw[if_neg q]at e2;have:=hw.n1
   lia
theorem V0{s:ao}(w:Wf s){c:az}(hc:c∈s.cells){x:az}:x∈xC s c.number↔x∈s.cells/\(x.number=c.number\/x.number∈bU s c.number):=by unfold xC;rw[i7 w hc];show x∈s.cells.filter (λd=>d.number==c.number||(bU s c.number).contains d.number)↔_;rw[bM];simp
section
theorem Hn{H H1:Hp}{d:aa}{YE:List (az×aa)}{s:ao}(hc:eW A H d YE s)(k:ag H H1):∀l:List Nat,(∀n∈l,n∈s.cells.map λc=>c.number)->
  ∃(as:List aa)(cs:List az),(vN l).map (mv YE)=as.map V.ref/\aY (cK A H1) as cs/\(cs.map λc=>c.number)=l/\∀c∈cs,c∈s.cells
 |[],_=>⟨[],[],rfl,.nil,rfl,λc hc=>by cases hc⟩
 |n::l,h=>by
  obtain⟨as,cs,e1,e2,e3,e4⟩:=Hn hc k l λm hm=>h m (bq _ hm);obtain⟨c,ZF,rfl⟩:=aK.mp (h n bA);obtain⟨a,Zo,Z3⟩:=hc.get ZF;refine⟨a::as,c::cs,?_,.cons (Z3.same k) e2,by rw[bb,e3],λc' Z2=>?_⟩
  .rw[show vN (c.number::l)=V.int (c.number:Int)::vN l from rfl,bb,e1];have e:mv YE (.int (c.number:Int))= .ref a:=by show(bf (YE.map dt) (.inl (c.number:Int))).getD .non= .ref a;rw[Zo];rfl
   rw[e];rfl
  .rcases aV.mp Z2 with rfl|q
   .exact ZF
   .exact e4 _ q
def AA(A:Ad):Sp:=λvs H Q _=>∃(n:Int)(pa:aa)(s:ao),vs=[.int n,.ref pa]/\eX A H pa s/\Wf s/\
 ∀(H':Hp)(l:aa)(as:List aa)(cs:List az),H' l=some (.lst (as.map V.ref))->aY (cK A H) as cs->(∀c,c∈cs↔c∈xC s (ax n))->(∀c∈cs,jE c)->cs.length<=13->ag H H'->H l=none->Q (.ref l) H'
theorem MD(F:aO K "cell_and_above" "cell_and_above" B9 f fd)(T:Txt A K mg)(G1:Gm P w K mg Yx 1 A.Nb "has_cell" ["self","number"] (nI A)):aI P w K mg Yx aN 2 f fd ["number","page"] (AA A):=by
 have eK:=T.eK;subst eK
 exists ["number","page","numbers","upper"]
 .obtain⟨n,pa,s,rfl,g,ws,q⟩:=h;refine⟨_,ap (bp (dO (cg (bw G1 hr (aD (pv 1) rfl) (af (pv 0) ak)))) (au (aF (bI ak))) br) (ap (pS 2 nd (bn kR (bI (af (pv 0) ak)) (fX (Tr rfl) rfl T.list nN (af (fm (b8 hr) (aD (aD (pv 1) rfl) rfl) (pv 0) (λ_ _=>rfl)) ak)))) (au (aF (jF (own:=[("upper",3)]) rfl nd (dY (pv 2)) (gA (by rfl)) (λ_ _ _ _ _=>pN 3 nd) (λ_ _ _ _ _=>ja) (λ_ _ _ _ _=>by exact fm (b8 hr) (v0 A.kf (v0 A.kf (pv 1))) (pv 3) (λ_ _=>rfl)))))),?_⟩
  obtain⟨dx,nb,wi,rs,wk,dn,d,ks,wa,h1,h2,h3,_⟩:=g.ex;obtain⟨YE,hc⟩:=h2.cs
  simp_all![h1,T.Y8,T.aaL,nW,h2.nb]
  refine⟨by rfl,nb,dn,d,n,s,rfl,h2,?_⟩
  simp_all![]
  by_cases z:b5 s n=true
  .rw[if_neg (by simp[z])];obtain⟨c,ZF,rfl⟩:=i9.mp z;rw[yF (ws.cell c ZF)]at q;obtain⟨dw,m,so,ab,w1,w2,w3,w4⟩:=h3.ex;obtain⟨kva,ka1,ka2⟩:=w4.gets ws;obtain⟨ud,ψ,hu2,ε⟩:=ka2 c ZF;obtain⟨fo,f1,f2,f3,f4⟩:=(show iP H ud s c.number from ε).ex;refine⟨by decide,λl1 Zm=>?_⟩;have s1:=ag.new (o:=HO.lst [V.int (c.number:Int)]) Zm
   simp_all![s1 _ _ h1,T.Y8,T.acZ,vy,s1 _ _ w1,T.Λ,T.abl,p_,eD (s1 _ _ ka1),ψ,Rv,s1 _ _ f1]
   refine⟨iN fo,by unfold iN;rw[bH,bH];rfl,λl2 Y6=>?_⟩;rw[iq];have s2:=ag.new (o:=HO.lst (vN fo)) Y6;have n12:l1≠l2:=aG am Y6;have e1:upd (upd H l1 (.lst [V.int (c.number:Int)])) l2 (.lst (vN fo)) l1=some (.lst [V.int (c.number:Int)]):=by rw[aj n12,am]
   simp_all![kO,e1]
   refine⟨by rw[bW,bC];lia,λl3 hl3=>?_⟩;have s3:=ag.new (o:=HO.lst (vN (c.number::fo))) hl3;rw[show V.int (c.number:Int)::vN fo=vN (c.number::fo)from rfl];have Zs:=(s1.trans s2).trans s3;generalize ZT:upd (upd (upd H l1 (.lst [V.int (c.number:Int)])) l2 (.lst (vN fo))) l3 (.lst (vN (c.number::fo)))=H3 at Zs;have l3e:H3 l3=some (.lst (vN (c.number::fo))):=by rw[<-ZT,am]
   have Ι:∀n∈c.number::fo,n∈s.cells.map λc=>c.number:=λn hn=>by
    rcases aV.mp hn with rfl|z
    .exact aK.mpr ⟨c,ZF,rfl⟩
    .have:=((iJ ws).mp ((f4 _).mp z)).node (oO ws);rw[nq]at this;exact this
   refine⟨⟨_,ay.of l3e⟩,jA (K:=A.kf) (xs:=vN (c.number::fo)) (λ_=>true) (mv YE) (ay.of l3e) (by rw[bW];exact gP (by simp;lia)) ?_ ?_⟩
   .intro i v H4 R R' hi s4 r1 r2;obtain⟨m,hm,rfl⟩:=gZ hi;obtain⟨c',Z2,rfl⟩:=aK.mp (Ι m (cU hm));obtain⟨a,Zo,Z3⟩:=hc.get Z2;have n4:=(h2.same Zs).same s4
    simp_all![s4 _ _ (Zs _ _ h1),T.Y8,T.aaL,nW,n4.nb,T.Zq,T.Β,ij,eD (s4 _ _ (Zs _ _ hc.d)),Zo]
    have e:mv YE (.int (c'.number:Int))= .ref a:=by show(bf (YE.map dt) (.inl (c'.number:Int))).getD .non= .ref a;rw[Zo];rfl
    exact e▸r1 rfl H4 (ag.refl H4)
   .intro dl H4 hd h4 s4;obtain⟨as,cs,e1,e2,e3,e4⟩:=Hn hc (ag.refl H) (c.number::fo) Ι;rw[filter_all,e1]at h4;refine q H4 dl as cs h4 e2 (λx=>?_) (λx hx=>ws.cell x (e4 x hx)) ?_ (Zs.trans s4) (Zs.free hd)
    .rw[V0 ws ZF];constructor
     .intro hx;refine⟨e4 x hx,?_⟩;have:x.number∈c.number::fo:=by rw[<-e3];exact aK.mpr ⟨x,hx,rfl⟩
      rcases aV.mp this with z|z
      .exact .inl z
      .exact .inr ((f4 _).mp z)
     .rintro⟨hx,hz⟩;have:x.number∈c.number::fo:=by
       rcases hz with z|z
       .rw[z];exact bA
       .exact bq _ ((f4 _).mpr z)
      rw[<-e3]at this;obtain⟨y,hy,e⟩:=aK.mp this;rw[<-sO ws (e4 y hy) hx e];exact hy
    .have:=congrArg fV e3;rw[aE]at this;rw[this];simp
     lia
  .rw[if_pos (by simpa using z)];refine⟨by decide,λl hl=>q _ l [] [] am .nil (λc=>?_) (λc hc=>by cases hc) (by decide) (ag.new hl) hl⟩;unfold xC;rw[Iy ws z]
theorem _root_.L2.ag.put{F H:Hp}{a:aa}{o:HO}(k:ag F H)(n:F a=none):ag F (upd H a o):=λb u e=>by rw[aj (aG e n)];exact k b u e
def jL(cs:List az):List Nat:=cs.flatMap λc=>c.name::c.reads
theorem yZ:∀cs:List az,(∀c∈cs,jE c)->(jL cs).length<=7*cs.length
 |[],_=>aT _
 |c::cs,h=>by
  have:=yZ cs λc hc=>h c (bq _ hc);have:=(h c bA).rl;show(jL (c::cs)).length<=_;unfold jL at*;rw[lz,bG,cC,cC]
  lia
structure RN(H:Hp)(n:Int)(pa nl l:aa)(as:List aa)(cs:List az)(i:Nat)(σ:L2.St)(H2:Hp):Prop where
 st:∃v:Option V,σ=[some (.int n),some (.ref pa),some (.ref nl),v]
 tl:H2 nl=some (.lst (vN (jL (cs.take i))))
 sl:H2 l=some (.lst (as.map V.ref))
 sm:ag H H2
def JZ(A:Ad):Sp:=λvs H Q _=>∃(n:Int)(pa:aa)(s:ao),vs=[.int n,.ref pa]/\eX A H pa s/\Wf s/\
 ∀(H':Hp)(l:aa)(ns:List Nat),H' l=some (.lst (vN ns))->(∀x,x∈ns↔x∈kJ s (ax n))->ns.length<=100->ag H H'->H l=none->Q (.ref l) H'
theorem MV(F:aO K "related_names" "related_names" Co f fd)(T:Txt A K mg)(G1:Gf P w K mg Yx 2 "cell_and_above" ["number","page"] (AA A)):aI P w K mg Yx aN 3 f fd ["number","page"] (JZ A):=by
 exists ["number","page","names","cell"]
 .obtain⟨n,pa,s,rfl,g,ws,q⟩:=h;refine⟨_,ap (pS 2 nd (bI ak)) (ap (fH dG rfl (dY (bL G1 hr (af (pv 0) (af (pv 1) ak)))) (pN 3 nd) (ap (cX (eY fe jp jo i6 (pv 2) (af (aD (pv 3) rfl) ak))) (au (cX (eY fe kC lu uI (pv 2) (af (aD (pv 3) rfl) ak)))))) (au (aF (pv 2)))),?_⟩
  dsimp![]
  refine⟨by decide,λnl Zu=>?_⟩;have s1:=ag.new (o:=HO.lst []) Zu;refine⟨n,pa,s,rfl,g.same s1,ws,λH2 l as cs h1 h2 h3 hk h4 s2 hl=>?_⟩
  dsimp![]
  refine⟨⟨_,ay.of h1⟩,?_⟩;have h2':∀i a,as[i]? =some a->∃c,cs[i]? =some c/\cK A H a c:=λi a e=>by obtain⟨c,e1,e2⟩:=h_ h2 e;obtain⟨dc,tc,c1,c2⟩:=e2.ex;exact⟨c,e1,dc,tc,by rwa[aj (λz=>by rw[z,am]at c1;cases c1)]at c1,by rwa[aj (λz=>by rw[z,am]at c2;cases c2)]at c2⟩
  have nll:nl≠l:=aG am hl;have hla:as.length=cs.length:=dH h2;have YI:=yZ cs hk;refine ie (K:=K) (xs:=as.map V.ref) (RN H n pa nl l as cs) ⟨⟨none,rfl⟩,s2 _ _ am,h1,s1.trans s2⟩ (λi σ H5 _ z=>ay.of z.sl) ?_ ?_
  .rintro i x σ H5 hi ⟨⟨v,rfl⟩,j1,j2,j3⟩;rw[cq]at hi;obtain⟨a,ha,rfl⟩:=dU.mp hi;obtain⟨c,hc,YW⟩:=h2' i a ha;obtain⟨dc,tc,c1,c2⟩:=YW.ex;have e3:cs.take (i+1)=cs.take i++[c]:=by rw[dA,hc];rfl
   have e4:jL (cs.take (i+1))=jL (cs.take i)++(c.name::c.reads):=by unfold jL;rw[e3,jq];simp
   have YG:(vN (jL (cs.take i))).length<=91:=by
    rw[bW];have:=yZ (cs.take i) λc hc=>hk c (mK hc);rw[cO]at this
    lia
   have hrl:=(hk c (cU hc)).rl;rw[iq]at c2;generalize hL:vN (jL (cs.take i))=L at j1 YG
   dsimp![dZ j1,j1,j3 _ _ c1,T.YY,T.aaO,oe]
   refine⟨by rw[bC];lia,?_⟩;have m1:upd H5 nl (.lst (L++[V.int (c.name:Int)])) nl=some (.lst (L++[V.int (c.name:Int)])):=am;have s5:ag H (upd H5 nl (.lst (L++[V.int (c.name:Int)]))):=j3.put Zu
   dsimp![dZ m1,s5 _ _ c1,T.YY,T.ς,jC,uy]
   refine⟨_,a9.of (s5 _ _ c2),by rw[bG,bW,bC];simp;lia,⟨_,rfl⟩,?_,by rw[aj (aX nll)];exact j2,j3.put Zu⟩;rw[am,e4,<-hL];unfold vN;rw[bV,bb,mS];rfl
  .rintro σ H5 ⟨⟨v,rfl⟩,j1,j2,j3⟩
   dsimp![]
   rw[aE,hla,dz]at j1;refine q H5 nl (jL cs) j1 (λx=>?_) (by lia) j3 Zu;unfold jL kJ;rw[w_,w_];constructor
   .rintro⟨c,hc,hx⟩;exact⟨c,(h3 c).mp hc,hx⟩
   .rintro⟨c,hc,hx⟩;exact⟨c,(h3 c).mpr hc,hx⟩
def Je(A:Ad):Sp:=λvs H Q _=>∃(n:Int)(pa:aa)(s:ao),vs=[.int n,.ref pa]/\eX A H pa s/\Wf s/\
 ∀(H':Hp)(l:aa),H' l=some (.lst (vN (iV s (ax n))))->ag H H'->H l=none->Q (.ref l) H'
theorem Oa(F:aO K "names_made" "names_made" DJ f fd)(T:Txt A K mg)(G1:Gm P w K mg Yx 1 A.Nb "has_cell" ["self","number"] (nI A)):aI P w K mg Yx aN 2 f fd ["number","page"] (Je A):=by
 exists ["number","page"]
 .obtain⟨n,pa,s,rfl,g,ws,q⟩:=h;refine⟨_,au (aF (vc (cg (bw G1 hr (aD (pv 1) rfl) (af (pv 0) ak))) (bI (af (aD (fm (b8 hr) (aD (aD (pv 1) rfl) rfl) (pv 0) (λ_ _=>rfl)) rfl) ak)) (bI ak))),?_⟩;obtain⟨dx,nb,wi,rs,wk,dn,d,ks,wa,h1,h2,h3,_⟩:=g.ex;obtain⟨YE,hc⟩:=h2.cs
  dsimp![h1,T.Y8,T.aaL,nW,h2.nb]
  refine⟨by rfl,nb,dn,d,n,s,rfl,h2,?_⟩
  dsimp![]
  by_cases z:b5 s n=true
  .rw[if_pos z];obtain⟨c,ZF,rfl⟩:=i9.mp z;rw[yF (ws.cell c ZF)]at q;obtain⟨a,Zo,Z3⟩:=hc.get ZF;obtain⟨dc,tc,c1,c2⟩:=Z3.ex
   dsimp![h1,T.Y8,T.aaL,nW,h2.nb,T.Zq,T.Β,ij,eD hc.d,Zo,c1,T.YY,T.aaO,oe]
   refine⟨by decide,λl hl=>q _ l ?_ (ag.new hl) hl⟩;unfold iV;rw[i7 ws ZF,am];rfl
  .rw[if_neg z];refine⟨by decide,λl hl=>q _ l ?_ (ag.new hl) hl⟩;unfold iV;rw[Iy ws z,am];rfl
def wv(R:List Nat)(v:V):V:= .bl (lm v (vN R))
def zr(A:Ad):Sp:=λvs H Q _=>∃(m n:Int)(pa pb:aa)(a b:ao),vs=[.int m,.int n,.ref pa,.ref pb]/\eX A H pa a/\Wf a/\eX A H pb b/\Wf b/\
 ∀H':Hp,ag H H'->Q (.bl ((iV a (ax m)++iV b (ax m)).any λx=>(kJ a (ax n)++kJ b (ax n)).contains x)) H'
theorem GJ(s:ao)(n:Nat):(iV s n).length<=1:=by unfold iV;split<;>simp
theorem IV(a b:List Nat):vN a++vN b=vN (a++b):=by unfold vN;rw[bV]
theorem MY(F:aO K "makes_related" "makes_related" Cr f fd)(T:Txt A K mg)(G1:Gf P w K mg Yx 3 "related_names" ["number","page"] (JZ A))(G2:Gf P w K mg Yx 2 "names_made" ["number","page"] (Je A)):aI P w K mg Yx aN 4 f fd ["maker","number","before","after"] (zr A):=by
 have eK:=T.eK;subst eK
 exists ["maker","number","before","after","related","made","name"]
 .obtain⟨m,n,pa,pb,a,b,rfl,ga,wa,gb,wb,q⟩:=h;have Z8:=hr.mono (show 2<=3 by decide);refine⟨_,ap (ke (i:=4) nd rfl (iK rfl) (bn kR (bL G1 hr (af (pv 1) (af (pv 2) ak))) (bL G1 hr (af (pv 1) (af (pv 3) ak))))) (ap (pS 5 nd (bn kR (bL G2 Z8 (af (pv 0) (af (pv 2) ak))) (bL G2 Z8 (af (pv 0) (af (pv 3) ak))))) (au (aF (cE (ql rfl) rfl T.any sj (af (jF (own:=[("name",6)]) rfl nd (dY (pv 5)) (gA (by rfl)) (λ_ _ _ _ _=>pN 6 nd) (λ_ _ _ _ _=>ja) (λ_ _ _ _ _=>by exact ii (Jt A.kf) (pv 6) (pv 4) (by with_unfolding_all rfl))) ak))))),?_⟩
  dsimp![]
  refine⟨n,pa,a,rfl,ga,wa,λH1 l1 r1 a1 a2 a3 s1 n1=>?_⟩
  dsimp![]
  refine⟨n,pb,b,rfl,gb.same s1,wb,λH2 l2 r2 b1 b2 b3 s2 n2=>?_⟩
  dsimp![kO,s2 _ _ a1,b1]
  refine⟨by rw[bW,bW,bC];lia,λp1 Zx=>?_⟩;rw[IV];have s3:=(s1.trans s2).trans (ag.new (o:=HO.lst (vN (r1++r2))) Zx);generalize ZT:upd H2 p1 (.lst (vN (r1++r2)))=H3 at s3;have p3:H3 p1=some (.lst (vN (r1++r2))):=by rw[<-ZT,am]
  dsimp![]
  refine⟨m,pa,a,rfl,ga.same s3,wa,λH4 l4 c1 s4 n4=>?_⟩
  dsimp![]
  refine⟨m,pb,b,rfl,(gb.same s3).same s4,wb,λH5 l5 d1 s5 n5=>?_⟩;have k1:=GJ a (ax m);have k2:=GJ b (ax m)
  dsimp![kO,s5 _ _ c1,d1]
  refine⟨by rw[bW,bW,bC];lia,λp2 ZO=>?_⟩;rw[IV];generalize hM:iV a (ax m)++iV b (ax m)=M at q;have hMl:M.length<=2:=by rw[<-hM,bG];lia
  have s6:=(s4.trans s5).trans (ag.new (o:=HO.lst (vN M)) ZO);generalize hH6:upd H5 p2 (.lst (vN M))=H6 at s6;have p6:H6 p2=some (.lst (vN M)):=by rw[<-hH6,am]
  dsimp![]
  refine⟨⟨_,ay.of p6⟩,jA (K:=A.kf) (xs:=vN M) (λ_=>true) (wv (r1++r2)) (ay.of p6) (by rw[bW];exact gP (by lia)) ?_ ?_⟩
  .intro i v H7 R R' hi s7 t1 t2;obtain⟨x,hx,rfl⟩:=gZ hi
   dsimp![]
   exact⟨_,.inl (ay.of (s7 _ _ (s6 _ _ p3))),rfl,Iw _,t1 rfl H7 (ag.refl H7)⟩
  .intro dl H7 hd h7 s7;have e0:((vN M).filter λ_=>true).map (wv (r1++r2))=(M.map λx=>(r1++r2).contains x).map V.bl:=by rw[filter_all];unfold vN;rw[bH,bH];refine fS λx _=>?_;show wv (r1++r2) (.int (x:Int))=_;unfold wv;rw[JD];rfl
   rw[e0]at h7
   dsimp![]
   refine⟨_,ay.of h7,?_⟩;have e1:(M.map λx=>(r1++r2).contains x).any id=M.any λx=>(kJ a (ax n)++kJ b (ax n)).contains x:=by rw[lL];congr 1;funext x;show(r1++r2).contains x=_;rw[fh,mJ,mJ,bT,bT,a2,b2]
   rw[e1];exact q H7 ((s3.trans s6).trans s7)
def v7(H:Hp):V->V
 | .ref a=>match H a with
  |some (.ins _ _ fs)=>match fs.lookup ("kind":Str)with
   |some (.int k)=> .bl (decide (k=5))
   |_=> .non
  |_=> .non
 |_=> .non
theorem GU{H:Hp}{a:aa}{c:az}(h:cK A H a c):v7 H (.ref a)= .bl (decide ((c.kind:Int)=5)):=by obtain⟨dx,t,h1,h2⟩:=h.ex;simp only[v7,h1,og]
theorem kinds_of{H:Hp}:∀{as:List aa}{cs:List az},aY (cK A H) as cs->(as.map V.ref).map (v7 H)=(cs.map λc=>c.kind==5).map V.bl
 |_,_,.nil=>rfl
 |_,_,.cons (b:=c) h r=>by
  rw[bb,bb,kinds_of r,GU h,bb,bb];congr 2;by_cases z:c.kind=5
  .simp[z]
  .have z2:¬(c.kind:Int)=5:=by lia
   simp[z,z2]
def F5(A:Ad):Sp:=λvs H Q _=>∃(n:Int)(pa:aa)(s:ao),vs=[.int n,.ref pa]/\eX A H pa s/\Wf s/\∀H':Hp,ag H H'->Q (.bl (pC s (ax n))) H'
theorem OE(F:aO K "is_seeded" "is_seeded" Ef f fd)(T:Txt A K mg)(G1:Gf P w K mg Yx 2 "cell_and_above" ["number","page"] (AA A)):aI P w K mg Yx aN 3 f fd ["number","page"] (F5 A):=by
 have eK:=T.eK;subst eK
 exists ["number","page","cell"]
 .obtain⟨n,pa,s,rfl,g,ws,q⟩:=h;refine⟨_,au (aF (cE (ql rfl) rfl T.any sj (af (jF (own:=[("cell",2)]) rfl nd (dY (bL G1 hr (af (pv 0) (af (pv 1) ak)))) (gA (by rfl)) (λ_ _ _ _ _=>pN 2 nd) (λ_ _ _ _ _=>ja) (λ_ _ _ _ _=>by exact ii g8 (v0 A.kf (pv 2)) (bg T.agt) (bZ _))) ak))),?_⟩
  dsimp![]
  refine⟨n,pa,s,rfl,g,ws,λH2 l as cs h1 h2 h3 hk h4 s2 hl=>?_⟩
  dsimp![]
  refine⟨⟨_,ay.of h1⟩,jA (K:=A.kf) (xs:=as.map V.ref) (λ_=>true) (v7 H) (ay.of h1) (by rw[aE,dH h2];exact gP (by lia)) ?_ ?_⟩
  .intro i v H7 R R' hi s7 t1 t2;rw[cq]at hi;obtain⟨a,ha,rfl⟩:=dU.mp hi;obtain⟨c,hc,YW⟩:=h_ h2 ha;obtain⟨dc,tc,c1,c2⟩:=YW.ex;rw[GU YW]at t1
   dsimp![s7 _ _ (s2 _ _ c1),T.YY,T.abn,og]
   exact t1 rfl H7 (ag.refl H7)
  .intro dl H7 hd h7 s7;rw[filter_all,kinds_of h2]at h7
   dsimp![]
   refine⟨_,ay.of h7,?_⟩;have e1:(cs.map λc=>c.kind==5).any id=pC s (ax n):=by
    unfold pC;rw[lL,fh,fg,fg];constructor
    .rintro⟨c,hc,e⟩;exact⟨c,(h3 c).mp hc,e⟩
    .rintro⟨c,hc,e⟩;exact⟨c,(h3 c).mpr hc,e⟩
   rw[e1];exact q H7 (s2.trans s7)
end
end
section
theorem rP{k:Nat}(h1:1<=k)(h2:k<=99):ax (k:Int)=k:=by unfold ax cP;rw[if_pos (by simp;lia),c_]
theorem vM{k:Nat}{n:Int}(h1:1<=k)(h2:k<=99):n=(k:Int)↔k=ax n:=by
 constructor
 .intro e;rw[e,rP h1 h2]
 .intro e;unfold ax at e;by_cases q:cP n 1 99=true
  .rw[if_pos q]at e;unfold cP at q;simp at q
   lia
  .rw[if_neg q]at e
   lia
section
def qd(A:Ad)(ok:ej->Prop):Sp:=λvs H Q _=>∃(e:aa)(ed:ej),vs=[.ref e]/\eJ A H e ed/\ok ed/\g0 ed/\∀(H':Hp)(l:aa),H' l=some (.lst ((gj ed).map V.int))->ag H H'->H l=none->Q (.ref l) H'
theorem Po(F:aO K "laid_out" "PutEdit.laid_out" BC f fd)(T:Txt A K mg):aI P w K mg Yx aN 1 f fd ["self"] (qd A oy):=by
 exists ["self","cell"]
 .obtain⟨e,ed,rfl,he,hp,YB,q⟩:=h;cases ed with
  |drop n=>exact hp.elim
  |seed x=>exact hp.elim
  |put c=>
   obtain⟨Zj,ca,ZQ,he2⟩:=he;obtain⟨dc,tc,YW,ZK⟩:=he2.ex;refine⟨_,ap (pS 1 nd (aD (pv 0) rfl)) (au (aF (bn kR (bI (af be (af (aD (pv 1) rfl) (af (aD (pv 1) rfl) (af (aD (pv 1) rfl) (af (aD (pv 1) rfl) (af (cE zP rfl T.len fU (af (aD (pv 1) rfl) ak)) ak))))))) (fX zd rfl T.list nN (af (aD (pv 1) rfl) ak))))),?_⟩
   dsimp![ZQ,T.cPu,T.acY,vw,YW,T.YY,T.Zz,T.aaO,T.abn,T.ad1,T.ς,fZ,oe,og,vK,jC]
   refine⟨_,a9.of ZK,by decide,λl1 h1=>?_⟩;have s1:=ag.new (o:=HO.lst [.int 0,.int (c.number:Int),.int (c.name:Int),.int (c.kind:Int),.int (c.const:Int),.int (((iN c.reads).map V.int).length:Int)]) h1;have e1:upd H l1 (HO.lst [.int 0,.int (c.number:Int),.int (c.name:Int),.int (c.kind:Int),.int (c.const:Int),.int (((iN c.reads).map V.int).length:Int)]) l1=_:=am;generalize upd H l1 (HO.lst [.int 0,.int (c.number:Int),.int (c.name:Int),.int (c.kind:Int),.int (c.const:Int),.int (((iN c.reads).map V.int).length:Int)])=H1 at s1 e1
   dsimp![s1 _ _ YW,T.YY,T.ς,jC]
   refine⟨_,a9.of (s1 _ _ ZK),λl2 h2=>?_⟩;have s2:=ag.new (o:=HO.lst ((iN c.reads).map V.int)) h2;have hrl:c.reads.length<=6:=(show jE c from YB).rl;have Z0:((iN c.reads).map V.int).length=c.reads.length:=by unfold iN;rw[aE,aE]
   dsimp![kO,s2 _ _ e1]
   refine⟨by rw[Z0,bC];lia,λl3 h3=>?_⟩;refine q _ l3 ?_ ((s1.trans s2).trans (ag.new h3)) ((s1.trans s2).free h3);rw[am,Z0];rfl
theorem ON(F:aO K "laid_out" "DropEdit.laid_out" Bw f fd)(T:Txt A K mg):aI P w K mg Yx aN 1 f fd ["self"] (qd A oj):=by
 exists ["self"]
 .obtain⟨e,ed,rfl,he,hp,YB,q⟩:=h;cases ed with
  |put c=>exact hp.elim
  |seed x=>exact hp.elim
  |drop n=>
   obtain⟨Zj,ZQ⟩:=he;refine⟨_,au (aF (bI (af be (af (aD (pv 0) rfl) ak)))),?_⟩
   dsimp![ZQ,T.cDr,T.ad0,vg]
   exact⟨by decide,λl hl=>q _ l am (ag.new hl) hl⟩
theorem OL(F:aO K "laid_out" "SeedEdit.laid_out" Bt f fd)(T:Txt A K mg):aI P w K mg Yx aN 1 f fd ["self"] (qd A oh):=by
 exists ["self"]
 .obtain⟨e,ed,rfl,he,hp,YB,q⟩:=h;cases ed with
  |put c=>exact hp.elim
  |drop n=>exact hp.elim
  |seed x=>
   obtain⟨Zj,ZQ⟩:=he;refine⟨_,au (aF (bI (af be (af (aD (pv 0) rfl) ak)))),?_⟩
   dsimp![ZQ,T.cSe,T.afC,Gc]
   exact⟨by decide,λl hl=>q _ l am (ag.new hl) hl⟩
def nV(A:Ad)(ok:ej->Prop):Sp:=λvs H Q _=>∃(e pa pb:aa)(n:Int)(ed:ej)(a b:ao),vs=[.ref e,.int n,.ref pa,.ref pb]/\eJ A H e ed/\ok ed/\g0 ed/\eX A H pa a/\Wf a/\eX A H pb b/\Wf b/\
 ∀H':Hp,ag H H'->Q (.bl (rf a b ed (ax n))) H'
theorem OM(F:aO K "touches" "PutEdit.touches" BN f fd)(T:Txt A K mg)(G1:Gf P w K mg Yx 4 "makes_related" ["maker","number","before","after"] (zr A)):aI P w K mg Yx aN 5 f fd ["self","number","before","after"] (nV A oy):=by
 exists ["self","number","before","after"]
 .obtain⟨e,pa,pb,n,ed,a,b,rfl,he,hp,YB,ga,wa,gb,wb,q⟩:=h;cases ed with
  |drop n=>exact hp.elim
  |seed x=>exact hp.elim
  |put c=>
   obtain⟨Zj,ca,ZQ,he2⟩:=he;obtain⟨dc,tc,YW,ZK⟩:=he2.ex;have ck:jE c:=YB;refine⟨_,au (aF (vZ (ii g8 (pv 1) (aD (aD (pv 0) rfl) rfl) (bZ _)) (qg (bL G1 hr (af (aD (aD (pv 0) rfl) rfl) (af (pv 1) (af (pv 2) (af (pv 3) ak)))))))),?_⟩;have et:rf a b (.put c) (ax n)=(c.number==ax n||(iV a c.number++iV b c.number).any λx=>(kJ a (ax n)++kJ b (ax n)).contains x):=rfl;rw[et]at q
   dsimp![ZQ,T.cPu,T.acY,vw,YW,T.YY,T.Zz,fZ]
   by_cases z:n=(c.number:Int)
   .rw[if_pos z];have:=(vM ck.n1 ck.n2).mp z;rw[<-this,beq_self_eq_true,DZ]at q;exact q H (ag.refl H)
   .rw[if_neg z];have:(c.number==ax n)=false:=by rw[beq_eq_false_iff_ne];exact λe=>z ((vM ck.n1 ck.n2).mpr e)
    rw[this,xH]at q;refine⟨(c.number:Int),n,pa,pb,a,b,rfl,ga,wa,gb,wb,λH' s'=>?_⟩;rw[yF ck];exact q H' s'
theorem Og(F:aO K "touches" "DropEdit.touches" BE f fd)(T:Txt A K mg)(G1:Gf P w K mg Yx 4 "makes_related" ["maker","number","before","after"] (zr A)):aI P w K mg Yx aN 5 f fd ["self","number","before","after"] (nV A oj):=by
 exists ["self","number","before","after"]
 .obtain⟨e,pa,pb,n,ed,a,b,rfl,he,hp,YB,ga,wa,gb,wb,q⟩:=h;cases ed with
  |put c=>exact hp.elim
  |seed x=>exact hp.elim
  |drop k=>
   obtain⟨Zj,ZQ⟩:=he;obtain⟨k1,k2⟩:1<=k/\k<=99:=YB;refine⟨_,au (aF (vZ (ii g8 (pv 1) (aD (pv 0) rfl) (bZ _)) (qg (bL G1 hr (af (aD (pv 0) rfl) (af (pv 1) (af (pv 2) (af (pv 3) ak)))))))),?_⟩;have et:rf a b (.drop k) (ax n)=(k==ax n||(iV a k++iV b k).any λx=>(kJ a (ax n)++kJ b (ax n)).contains x):=rfl;rw[et]at q
   dsimp![ZQ,T.cDr,T.ad0,vg]
   by_cases z:n=(k:Int)
   .rw[if_pos z];have:=(vM k1 k2).mp z;rw[<-this,beq_self_eq_true,DZ]at q;exact q H (ag.refl H)
   .rw[if_neg z];have:(k==ax n)=false:=by rw[beq_eq_false_iff_ne];exact λe=>z ((vM k1 k2).mpr e)
    rw[this,xH]at q;refine⟨(k:Int),n,pa,pb,a,b,rfl,ga,wa,gb,wb,λH' s'=>?_⟩;rw[rP k1 k2];exact q H' s'
theorem Of(F:aO K "touches" "SeedEdit.touches" BA f fd)(T:Txt A K mg)(G1:Gf P w K mg Yx 3 "is_seeded" ["number","page"] (F5 A)):aI P w K mg Yx aN 5 f fd ["self","number","before","after"] (nV A oh):=by
 exists ["self","number","before","after"]
 .obtain⟨e,pa,pb,n,ed,a,b,rfl,he,hp,YB,ga,wa,gb,wb,q⟩:=h;cases ed with
  |put c=>exact hp.elim
  |drop x=>exact hp.elim
  |seed x=>
   have hr3:=hr.mono (show 3<=4 by decide);refine⟨_,au (aF (vZ (bL G1 hr3 (af (pv 1) (af (pv 2) ak))) (qg (bL G1 hr3 (af (pv 1) (af (pv 3) ak)))))),?_⟩;have et:rf a b (.seed x) (ax n)=(pC a (ax n)||pC b (ax n)):=rfl;rw[et]at q
   dsimp![]
   refine⟨n,pa,a,rfl,ga,wa,λH1 s1=>?_⟩
   dsimp![]
   by_cases z:pC a (ax n)=true
   .rw[if_pos z];rw[z]at q;exact q H1 s1
   .rw[if_neg z];have z':pC a (ax n)=false:=by simpa using z
    rw[z',xH]at q;exact⟨n,pb,b,rfl,gb.same s1,wb,λH2 s2=>q H2 (s1.trans s2)⟩
theorem kN{s:aP}{p q:Int}(h:(bB s p&&bB s q&&decide (p<=q))=true):∃i j:Nat,p=(i:Int)/\q=(j:Int)/\i<=j/\j<=s.edits.length/\∀f,gM s p q f=f i j:=by have h':=h;rw[hU,hU,decide_eq_true_eq]at h;obtain⟨⟨h1,h2⟩,h3⟩:=h;obtain⟨i,rfl,hi⟩:=nU h1;obtain⟨j,rfl,hj⟩:=nU h2;refine⟨i,j,rfl,rfl,by lia,hj,λf=>?_⟩;unfold gM;rw[if_pos h',c_,c_]
theorem lS{s:aP}{p q:Int}(h:¬(bB s p&&bB s q&&decide (p<=q))=true)(f:Nat->Nat->jU):gM s p q f=⟨-10,[]⟩:=if_neg h
theorem zU:∀l:List ej,(∀e∈l,g0 e)->(l.flatMap gj).length<=12*l.length
 |[],_=>aT _
 |e::l,h=>by
  have ih:=zU l λe he=>h e (bq _ he);have h1:(gj e).length<=12:=by
   have:=h e bA;cases e with
   |put c=>
    have hrl:c.reads.length<=6:=(show jE c from this).rl;show([0,_,_,_,_,_]++c.reads.map gJ:List Int).length<=12;rw[bG,aE];simp
    lia
   |drop n=>show 2<=12;decide
   |seed n=>show 2<=12;decide
  rw[lz,bG,cC]
  lia
structure K7(H:Hp)(h:aa)(p q:Int)(tl sl:aa)(es:List aa)(Y7:List ej)(i:Nat)(σ:L2.St)(H2:Hp):Prop where
 st:∃v:Option V,σ=[some (.ref h),some (.int p),some (.int q),some (.ref tl),v]
 tl:H2 tl=some (.lst (((q-p)::((Y7.take i).flatMap gj)).map V.int))
 sl:H2 sl=some (.lst (es.map V.ref))
 sm:ag H H2
theorem N9(F:aO K "tell_edits" "tell_edits" DH f fd)(T:Txt A K mg)(G1:Gm P w K mg Yx 3 A.Hi "has_span" ["self","p","q"] (lW A))(LA:Gm P w K mg Yx 1 A.Pu "laid_out" ["self"] (qd A oy))(LB:Gm P w K mg Yx 1 A.Dr "laid_out" ["self"] (qd A oj))(LC:Gm P w K mg Yx 1 A.Se "laid_out" ["self"] (qd A oh)):
  aI P w K mg Yx aN 4 f fd ["history","p","q"] (mC A λp q=> .edits p q):=by
 have eK:=T.eK;subst eK
 exists ["history","p","q","told","edit"]
 .obtain⟨h,dx,le,lp,dm,s,p,q,rfl,g,ok,k⟩:=h;have YQ:=hr.mono (show 1<=3 by decide);refine⟨_,ap (bp (dO (cg (bw G1 hr (pv 0) (af (pv 1) (af (pv 2) ak))))) (au (aF (bI (af (bg T.Ω) ak)))) br) (ap (pS 3 nd (bI (af (bn jD (pv 2) (pv 1)) ak))) (ap (fH dG rfl (dY (pQ pV (aD (pv 0) rfl) (j_ (pv 1)) (j_ (pv 2)))) (pN 4 nd) (au (cX (eY fe kC lu rS (pv 3) (af (PE.or (bo LA YQ (pv 4)) (PE.or (bo LB YQ (pv 4)) (bo LC YQ (pv 4)))) ak))))) (au (aF (pv 3))))),?_⟩
  simp_all![g.h]
  refine⟨by rfl,h,dx,le,lp,dm,p,q,s,rfl,g,?_⟩
  simp_all![]
  have et:fC s (.edits p q)=gM s p q λp q=>⟨gJ (q-p),((s.edits.take q).drop p).flatMap gj⟩:=rfl;rw[et]at k;by_cases c:(bB s p&&bB s q&&decide (p<=q))=true
  .rw[if_neg (by simp[c])];obtain⟨i0,j0,rfl,rfl,Κ,hj,hf⟩:=kN c;rw[hf]at k;obtain⟨es,h1,h2,h3⟩:=g.len;refine⟨by decide,λtl Zg=>?_⟩;have s1:=ag.new (o:=HO.lst [V.int ((j0:Int)-(i0:Int))]) Zg;have ZG:=s1 _ _ h1
   simp_all![s1 _ _ g.h,T.YR,T.aaN,nX]
   refine⟨_,ay.of ZG,λsl ZB=>?_⟩;rw[vS _ _ _ Κ (by rw[aE,h3];exact hj),<-rB,<-lI];have s2:=ag.new (o:=HO.lst (((es.drop i0).take (j0-i0)).map V.ref)) ZB;have Ξ:tl≠sl:=aG am ZB;have eE:(s.edits.take j0).drop i0=(s.edits.drop i0).take (j0-i0):=List.drop_take;generalize hes:(es.drop i0).take (j0-i0)=YH at s2;generalize adK:(s.edits.drop i0).take (j0-i0)=Y7 at eE;have hpr:∀m a,YH[m]? =some a->∃ed,Y7[m]? =some ed/\eJ A H a ed/\g0 ed:=λm a e=>by
    rw[<-hes,wT]at e;split at e
    .rename_i hm;rw[qR]at e;obtain⟨ed,e1,e2⟩:=h_ h2 e;exact⟨ed,by rw[<-adK,wT,if_pos hm,qR];exact e1,e2,ok.ed ed (cU e1)⟩
    .cases e
   have YG:YH.length=Y7.length:=by rw[<-hes,<-adK,cO,cO,gH,gH,h3]
   have YB:∀e∈Y7,g0 e:=λe he=>ok.ed e (by rw[<-adK]at he;exact tT (mK he));have hel:Y7.length<=40:=by
    have:=ok.YI;rw[<-adK,cO,gH]
    lia
   refine⟨⟨_,ay.of am⟩,ie (K:=A.kf) (xs:=YH.map V.ref) (K7 H h i0 j0 tl sl YH Y7) ⟨⟨none,rfl⟩,by rw[aj Ξ,am];rfl,am,s1.trans s2⟩ (λi σ H5 _ z=>ay.of z.sl) ?_ ?_⟩
   .rintro i x σ H5 hi ⟨⟨v,rfl⟩,j1,j2,j3⟩;rw[cq]at hi;obtain⟨e,he,rfl⟩:=dU.mp hi;obtain⟨ed,ν,hE,aaB⟩:=hpr i e he;have hE5:=hE.same j3;have e3:Y7.take (i+1)=Y7.take i++[ed]:=by rw[dA,ν];rfl
    have hl5:((((j0:Int)-(i0:Int))::((Y7.take i).flatMap gj)).map V.int).length<=500:=by
     have:=zU (Y7.take i) λe he=>YB e (mK he);rw[cO]at this;rw[aE,cC]
     lia
    have hl6:((gj ed).map V.int).length<=12:=by
     have:=zU [ed] λe he=>by rw[bY.mp he];exact aaB
     rw[lz,List.flatMap_nil,jt]at this;rw[aE];exact this
    have e4:(((j0:Int)-(i0:Int))::((Y7.take (i+1)).flatMap gj)).map V.int=(((j0:Int)-(i0:Int))::((Y7.take i).flatMap gj)).map V.int++(gj ed).map V.int:=by rw[e3,jq,<-lC,bV];simp
    generalize hL:(((j0:Int)-(i0:Int))::((Y7.take i).flatMap gj)).map V.int=L at j1 hl5 e4;have fin:∀(H6:Hp)(l:aa),H6 l=some (.lst ((gj ed).map V.int))->ag H5 H6->H5 l=none->zy (.ref tl) [.ref l] H6 λ_ H7=>K7 H h i0 j0 tl sl YH Y7 (i+1) [some (.ref h),some (.int (i0:Int)),some (.int (j0:Int)),some (.ref tl),some (.ref e)] H7:=λH6 l h6 s6 _=>by refine⟨tl,l,L,_,rfl,rfl,s6 _ _ j1,h6,by rw[bC];lia,⟨_,rfl⟩,by rw[am,e4],by rw[aj (aX Ξ)];exact s6 _ _ j2,(j3.trans s6).put Zg⟩
    simp_all![dZ j1]
    cases ed with
    |put c=>obtain⟨Zj,ca,e1,e2⟩:=hE5;exact .inl ⟨_,_,e1,rfl,e,.put c,rfl,⟨Zj,ca,e1,e2⟩,trivial,aaB,fin⟩
    |drop n=>obtain⟨Zj,e1⟩:=hE5;exact .inr (.inl ⟨_,_,e1,rfl,e,.drop n,rfl,⟨Zj,e1⟩,trivial,aaB,fin⟩)
    |seed x=>obtain⟨Zj,e1⟩:=hE5;exact .inr (.inr ⟨_,_,e1,rfl,e,.seed x,rfl,⟨Zj,e1⟩,trivial,aaB,fin⟩)
   .rintro σ H5 ⟨⟨v,rfl⟩,j1,j2,j3⟩
    simp_all![]
    rw[aE,YG,dz]at j1;refine k H5 tl ?_ j3 Zg;rw[j1,eE];unfold fc;show some (HO.lst ((((j0:Int)-(i0:Int))::Y7.flatMap gj).map V.int))=some (HO.lst ((((j0-i0:Nat):Int)::Y7.flatMap gj).map V.int));rw[show((j0-i0:Nat):Int)=(j0:Int)-(i0:Int)by lia]
  .rw[if_pos (by simpa using c)];rw[lS c]at k;exact⟨by decide,λl hl=>k _ l am (ag.new hl) hl⟩
end
end
section
def kr(A:Ad)(f:Int->Int->Int->eB):Sp:=λvs H Q _=>∃(h dx le lp dm:aa)(s:aP)(n p q:Int),vs=[.ref h,.int n,.int p,.int q]/\bu A H h dx le lp dm s/\cw s/\
 ∀(H':Hp)(l:aa),H' l=some (.lst ((fc (fC s (f n p q))).map V.int))->ag H H'->H l=none->Q (.ref l) H'
theorem UA{a b:Bool}{H:Hp}{Q:VK}:AR (.bl a) (.bl b) H Q=Q (.bl (a !=b)) H:=by
 have e:(!decide (V.bl a=V.bl b))=(a !=b):=by cases a<;>cases b<;>simp
 show(tj (.bl a) (.bl b)=true/\_)=_;rw[e];exact propext ⟨λh=>h.2,λh=>⟨rfl,h⟩⟩
theorem HW{K:aA}{x y:V}{H:Hp}{Q:VK}:AD K x y H Q=∃d e,Dp K H x d/\Dp K H y e/\iG d=true/\iG e=true/\Q (.bl (!ib d e)) H:=rfl
def d2(r:Nat×Nat):dP:= .tuple [.int (r.1:Int),.int (r.2:Int)]
theorem wx{K:aA}{H:Hp}{t:aa}{r:Nat×Nat}(h:a9 K H t [.int (r.1:Int),.int (r.2:Int)]):Dp K H (.ref t) (d2 r):= .tup h (.cons (.int _) (.cons (.int _) .nil))
theorem vq(r:Nat×Nat):iG (d2 r)=true:=by simp[iG,d2,mY,qU,ut,qX]
theorem KP(r q:Nat×Nat):ib (d2 r) (d2 q)=decide (r=q):=by
 obtain⟨a,b⟩:=r;obtain⟨c,d⟩:=q;rw[fh];simp[d2,ib,ni]
 lia
theorem uV(l:List Nat):(fc (pJ l)).map V.int=V.int (l.length:Int)::vN l:=by unfold fc pJ vN;rw[bb,bH];rfl
theorem N4{al:TA}{g:TG}{tt:TT}{te:TE}{vs:List Nat}{σ:L2.St}{H:Hp}{Q:VK}:mB (Aq al) g tt te vs σ H Q=al σ H λus H1=>∃i j:Int,us=[.int i,.int j]/\(-(2^62)<=i/\i<2^62/\ -(2^62)<=j/\j<2^62)/\jl (jm i (j-i).toNat) g tt te vs σ H1 Q:=rfl
theorem RL{σ:L2.St}{H:Hp}{Q:VK}{g:TG}{tt:TT}{te:TE}{vs:List Nat}{lo:Int}{n:Nat}(p:Nat->Bool)(f:Nat->V)(hz:n<=aU)
  (hs:∀(i:Nat)(H1:Hp)(R:V->Hp->Prop)(R':Hp->Prop),i<n->ag H H1->(p i=true->∀H4,ag H1 H4->R (f i) H4)->(p i=false->∀H4,ag H1 H4->R' H4)-> g (.int (lo+i)) (bv σ vs) H1 λYF H2=>bv YF vs=bv σ vs/\tt YF H2 λc H3=>if c=true then te YF H3 R else R' H3)
  (hd:∀d H1,H d=none->H1 d=some (.lst (((cI n).filter p).map f))->ag H H1->Q (.ref d) H1):jl (jm lo n) g tt te vs σ H Q:=by
 intro d Zn;have s0:ag H (upd H d (.lst [])):=ag.new Zn;refine⟨λi m H1=>m=n-i/\i<=n/\H1 d=some (.lst (((cI i).filter p).map f))/\ag H H1,⟨n,by simp,dJ _,by rw[am];rfl,s0⟩,?_⟩;rintro i m H1 ⟨rfl,hi,h1,h2⟩;by_cases YK:i<n
 .refine .inr ⟨YK,λH2=>H2 d=some (.lst (((cI (i+1)).filter p).map f))/\ag H H2,λH2⟨q1,q2⟩=>⟨n-(i+1),by lia,rfl,YK,q1,q2⟩,λx H' y=>?_⟩;obtain⟨e,y⟩:=y;subst e y;have e2:((cI (i+1)).filter p).map f=((cI i).filter p).map f++if p i=true then[f i]else[]:=by
   rw[ub,mP,bV];congr 1;by_cases z:p i=true
   .simp[z]
   .simp[z]
  rw[e2];refine ve (b:=p i) (y:=f i) Zn h1 ?_ h2 λR R'=>hs i _ R R' YK h2;have:=gg p (cI i);rw[kI]at this;rw[aE];split<;>simp<;>lia
 .have e:i=n:=by lia
  subst e;exact .inl ⟨aT _,hd d H1 Zn h1 h2⟩
theorem xr(p q:Nat)(f:Nat->Bool):(da p q).filter f=((cI (q-p)).filter λi=>f (p+1+i)).map λi=>p+1+i:=by unfold da;rw[mX];rfl
section
theorem NG(F:aO K "tell_blamed" "tell_blamed" C_ f fd)(T:Txt A K mg)(G1:Gm P w K mg Yx 2 A.Hi "has_position" ["self","p"] (nQ A))(G2:Gm P w K mg Yx 1 A.Pg "result_of" ["self","number"] (ss A)):
  aI P w K mg Yx aN 3 f fd ["history","number","p"] (mC A λn p=> .blame n p):=by
 have eK:=T.eK;subst eK
 exists ["history","number","p","k"]
 .obtain⟨h,dx,le,lp,dm,s,n,p,rfl,g,ok,q⟩:=h;have YQ:=hr.mono (show 1<=2 by decide);refine⟨_,ap (bp (dO (cg (bw G1 hr (pv 0) (af (pv 2) ak)))) (au (aF (bI (af (bg T.Ω) ak)))) br) (ap (pS 3 nd (pv 2)) (ap (pO dG (PW.pt (z8 (db qw (pv 3) be (bZ _)) (zA (db (Ju hr.units) (bw G2 YQ (cH eG (aD (pv 0) rfl) (pv 3) (λ_ _=>rfl)) (af (pv 1) ak)) (bw G2 YQ (cH eG (aD (pv 0) rfl) (bn jD (pv 3) be) (λ_ _=>rfl)) (af (pv 1) ak)) (bZ _))))) (au (pS 3 nd (bn jD (pv 3) be)))) (au (aF (bI (af (pv 3) ak)))))),?_⟩
  simp_all![g.h]
  refine⟨by rfl,h,dx,le,lp,dm,p,s,rfl,g,?_⟩
  simp_all![]
  have et:fC s (.blame n p)=if bB s p=true then⟨gJ (pD s (ax n) p.toNat),[]⟩else⟨-10,[]⟩:=rfl;rw[et]at q;by_cases c:bB s p=true
  .rw[if_neg (by simp[c])];rw[if_pos c]at q;obtain⟨k0,rfl,hk0⟩:=nU c;rw[c_]at q;obtain⟨ps,h1,_,h2⟩:=g.at;refine⟨λm σ H2=>H=H2/\m<=k0/\σ=[some (.ref h),some (.int n),some (.int (k0:Int)),some (.int (m:Int))]/\pD s (ax n) k0=pD s (ax n) m,⟨k0,rfl,aT _,rfl,rfl⟩,?_⟩;rintro m σ _ ⟨rfl,hm,rfl,hb⟩;rw[hb]at q
   simp_all![]
   cases m with
   |zero=>
    rw[if_neg (by lia)]
    simp_all![]
    exact⟨by decide,λl hl=>q _ l am (ag.new hl) hl⟩
   |succ m=>
    rw[if_pos (by lia)];obtain⟨pa,dp,nb,wi,rs,wk,_,e2,e3,e4⟩:=h2 (m+1) (by lia);obtain⟨pb,dpb,nbb,wib,rsb,wkb,_,b2,b3,b4⟩:=h2 m (by lia)
    simp_all![g.h,T.YR,T.Zy,gq]
    refine⟨_,ay.of h1,_,e2,?_⟩
    simp_all![e3]
    refine⟨by rfl,pa,n,_,rfl,e4,dM ok.ed _,λt ht=>?_⟩
    simp_all![g.h,T.YR,T.Zy,gq]
    rw[show((m+1:Nat):Int)-1=(m:Int)by lia];refine⟨_,ay.of h1,_,b2,?_⟩
    simp_all![b3]
    refine⟨by rfl,pb,n,_,rfl,b4,dM ok.ed _,λu hu=>?_⟩
    simp_all![HX]
    refine⟨_,wx ht,_,wx hu,vq _,vq _,?_⟩;rw[KP];have eb:pD s (ax n) (m+1)=if ua s (ax n) (m+1)≠ua s (ax n) m then m+1 else pD s (ax n) m:=rfl;rw[eb]at q hb;by_cases z:bm (bj s (m+1)) (ax n)=bm (bj s m) (ax n)
    .rw[if_pos (decide_eq_true z)];rw[if_neg (λy=>y z)]at hb;refine⟨λYD H'=>H=H'/\m<=k0/\YD=[some (.ref h),some (.int n),some (.int (k0:Int)),some (.int (m:Int))]/\pD s (ax n) k0=pD s (ax n) m,λYD H' hw=>⟨m,by lia,hw⟩,?_⟩
     simp_all![]
     exact⟨by lia,by first|exact hb|(constructor<;>first|lia|exact hb)⟩
    .rw[if_neg (by simpa using z)];rw[if_pos (show ua s (ax n) (m+1)≠ua s (ax n) m from z)]at q
     simp_all![]
     exact⟨by decide,λl hl=>q _ l am (ag.new hl) hl⟩
  .rw[if_pos (by simpa using c)];rw[if_neg c]at q;exact⟨by decide,λl hl=>q _ l am (ag.new hl) hl⟩
theorem N8(F:aO K "tell_flips" "tell_flips" DG f fd)(T:Txt A K mg)(G1:Gm P w K mg Yx 3 A.Hi "has_span" ["self","p","q"] (lW A))(G2:Gm P w K mg Yx 2 A.Pg "passes" ["self","number"] (rX A)):
  aI P w K mg Yx aN 4 f fd ["history","number","p","q"] (kr A λn p q=> .flips n p q):=by
 have eK:=T.eK;subst eK
 exists ["history","number","p","q","pages","flips","k"]
 .obtain⟨h,dx,le,lp,dm,s,n,p,q,rfl,g,ok,k⟩:=h;have Z8:=hr.mono (show 2<=3 by decide);refine⟨_,ap (bp (dO (cg (bw G1 hr (pv 0) (af (pv 2) (af (pv 3) ak))))) (au (aF (bI (af (bg T.Ω) ak)))) br) (ap (ke (i:=4) nd rfl (iK rfl) (aD (pv 0) rfl)) (ap (pP (i:=5) (own:=[("k",6)]) rfl nd rfl rfl (pU rfl rfl rfl rfl) (yt rfl T.range (af (bn eI (pv 2) be) (af (bn eI (pv 3) be) ak))) (gA (by rfl)) (λ_ _ _ _ _=>pN 6 nd) (λ_ _ _ _ _=>by exact sw (db jG (bw G2 Z8 (cH (GV A.kf) (pv 4) (bn jD (pv 6) be) (λ_ _=>rfl)) (af (pv 1) ak)) (bw G2 Z8 (cH (GV A.kf) (pv 4) (pv 6) (λ_ _=>rfl)) (af (pv 1) ak)) (bZ _))) (λ_ _ _ _ _=>by exact pv 6)) (au (aF (bn kR (bI (af (cE kQ rfl T.len fU (af (pv 5) ak)) ak)) (pv 5)))))),?_⟩
  dsimp![g.h]
  refine⟨by rfl,h,dx,le,lp,dm,p,q,s,rfl,g,?_⟩
  dsimp![]
  have et:fC s (.flips n p q)=gM s p q λp q=>pJ (rG s (ax n) p q):=rfl;rw[et]at k;by_cases c:(bB s p&&bB s q&&decide (p<=q))=true
  .rw[if_neg (by simp[c])];obtain⟨i0,j0,rfl,rfl,Κ,hj,hf⟩:=kN c;rw[hf,uV]at k;obtain⟨ps,h1,_,h2⟩:=g.at;have YI:=ok.YI
   dsimp![g.h,T.YR,T.Zy,gq,N4]
   have en:((j0:Int)+1-((i0:Int)+1)).toNat=j0-i0:=by lia
   rw[en];refine⟨by lia,by lia,by lia,by lia,RL (λi=>eS s (ax n) (i0+i) !=eS s (ax n) (i0+1+i)) (λi=> .int ((i0+1+i:Nat):Int)) (by rw[bC];lia) ?_ ?_⟩
   .intro i H1 R R' hi s1 r1 r2;obtain⟨pa,dp,nb,wi,rs,wk,_,e2,e3,e4⟩:=h2 (i0+i) (by lia);obtain⟨pb,dpb,nbb,wib,rsb,wkb,_,b2,b3,b4⟩:=h2 (i0+1+i) (by lia)
    dsimp![]
    rw[show(i0:Int)+1+(i:Int)-1=((i0+i:Nat):Int)by lia];refine⟨_,ay.of (s1 _ _ h1),_,e2,?_⟩
    dsimp![s1 _ _ e3]
    refine⟨by rfl,pa,n,_,rfl,e4.same s1,dM ok.ed _,?_⟩
    dsimp![]
    rw[show(i0:Int)+1+(i:Int)=((i0+1+i:Nat):Int)by lia];refine⟨_,ay.of (s1 _ _ h1),_,b2,?_⟩
    dsimp![s1 _ _ b3]
    refine⟨by rfl,pb,n,_,rfl,b4.same s1,dM ok.ed _,?_⟩
    dsimp![UA]
    show if(eS s (ax n) (i0+i) !=eS s (ax n) (i0+1+i))=true then _ else _;by_cases z:(eS s (ax n) (i0+i) !=eS s (ax n) (i0+1+i))=true
    .rw[if_pos z];exact r1 z H1 (ag.refl H1)
    .rw[if_neg z];exact r2 (by simpa using z) H1 (ag.refl H1)
   .intro fl H1 hfl Zm s1;have e1:((cI (j0-i0)).filter λi=>eS s (ax n) (i0+i) !=eS s (ax n) (i0+1+i)).map (λi=>V.int ((i0+1+i:Nat):Int))=vN (rG s (ax n) i0 j0):=by
     unfold rG vN;rw[xr,bH];have:∀i,i0+1+i-1=i0+i:=λi=>by lia
     simp only[this];rfl
    rw[e1]at Zm;have YG:(rG s (ax n) i0 j0).length<=40:=by
     unfold rG;refine cV (gg _ _) ?_;unfold da;rw[aE,kI]
     lia
    generalize rG s (ax n) i0 j0=fls at k Zm YG
    dsimp![]
    refine⟨_,ay.of Zm,by decide,λl1 hl=>?_⟩;have n1:fl≠l1:=aG Zm hl
    dsimp![kO,aj n1,Zm]
    refine⟨by rw[bW,bC];lia,λl2 Y6=>?_⟩;have s2:=s1.trans (ag.new (o:=HO.lst [V.int ((vN fls).length:Int)]) hl);refine k _ l2 ?_ (s2.trans (ag.new Y6)) (s2.free Y6);rw[am,bW]
  .rw[if_pos (by simpa using c)];rw[lS c]at k;exact⟨by decide,λl hl=>k _ l am (ag.new hl) hl⟩
theorem RU{s:aP}{n a b:Nat}(h:b<=a+1):∀f,iX s n f a b=(b,0)
 |0=>rfl
 |f+1=>by unfold iX;rw[if_pos h]
structure BI(s:aP)(H:Hp)(h:aa)(n:Int)(p q m:Nat)(σ:L2.St)(H2:Hp):Prop where
 hp:H=H2
 st:∃(a b c fu:Nat)(v:Option V),σ=[some (.ref h),some (.int n),some (.int (p:Int)),some (.int (q:Int)),some (.int (a:Int)),some (.int (b:Int)),some (.int (c:Int)),v]/\a<=b/\b<=s.edits.length/\m=b-a/\b-a<=fu/\
  iX s (ax n) 40 p q=((iX s (ax n) fu a b).1,(iX s (ax n) fu a b).2+c)
theorem MT(F:aO K "tell_bisected" "tell_bisected" Ck f fd)(T:Txt A K mg)(G1:Gm P w K mg Yx 3 A.Hi "has_span" ["self","p","q"] (lW A))(G2:Gm P w K mg Yx 2 A.Pg "passes" ["self","number"] (rX A)):
  aI P w K mg Yx aN 4 f fd ["history","number","p","q"] (kr A λn p q=> .bisect n p q):=by
 have eK:=T.eK;subst eK
 exists ["history","number","p","q","a","b","looked_at","m"]
 .obtain⟨h,dx,le,lp,dm,s,n,p,q,rfl,g,ok,k⟩:=h;have Z8:=hr.mono (show 2<=3 by decide);refine⟨_,ap (bp (dO (cg (bw G1 hr (pv 0) (af (pv 2) (af (pv 3) ak))))) (au (aF (bI (af (bg T.Ω) ak)))) br) (ap (bp (PW.pt (Al (dO (cg (bw G2 Z8 (cH eG (aD (pv 0) rfl) (pv 2) (λ_ _=>rfl)) (af (pv 1) ak)))) (z7 (cg (bw G2 Z8 (cH eG (aD (pv 0) rfl) (pv 3) (λ_ _=>rfl)) (af (pv 1) ak)))))) (au (aF (bI (af (bg T.aiR) ak)))) br) (ap (pS 4 nd (pv 2)) (ap (pS 5 nd (pv 3)) (ap (pS 6 nd be) (ap (pO dG (db qw (pv 5) (bn eI (pv 4) be) (bZ _)) (ap (pS 7 nd (bn zE (bn eI (pv 4) (pv 5)) be)) (ap (pS 6 nd (bn eI (pv 6) be)) (au (bp (cg (bw G2 Z8 (cH eG (aD (pv 0) rfl) (pv 7) (λ_ _=>rfl)) (af (pv 1) ak))) (au (pS 4 nd (pv 7))) (au (pS 5 nd (pv 7)))))))) (au (aF (bI (af (pv 5) (af (pv 6) ak)))))))))),?_⟩
  simp_all![g.h]
  refine⟨by rfl,h,dx,le,lp,dm,p,q,s,rfl,g,?_⟩
  simp_all![]
  have et:fC s (.bisect n p q)=gM s p q λp q=>BV s (ax n) p q:=rfl;rw[et]at k;by_cases c:(bB s p&&bB s q&&decide (p<=q))=true
  .rw[if_neg (by simp[c])];obtain⟨i0,j0,rfl,rfl,Κ,hj,hf⟩:=kN c;rw[hf]at k;obtain⟨ps,h1,_,h2⟩:=g.at;have YI:=ok.YI;obtain⟨pa,dp,nb,wi,rs,wk,_,e2,e3,e4⟩:=h2 i0 (by lia);obtain⟨pb,dpb,nbb,wib,rsb,wkb,_,b2,b3,b4⟩:=h2 j0 (by lia)
   simp_all![g.h,T.YR,T.Zy,gq]
   refine⟨_,ay.of h1,_,e2,?_⟩
   simp_all![e3]
   refine⟨by rfl,pa,n,_,rfl,e4,dM ok.ed _,?_⟩;have et2:BV s (ax n) i0 j0=if eS s (ax n) i0=true/\eS s (ax n) j0=false then⟨gJ (iX s (ax n) 40 i0 j0).1,[gJ (iX s (ax n) 40 i0 j0).2]⟩else⟨-16,[]⟩:=rfl;rw[et2]at k;by_cases z1:eS s (ax n) i0=true
   .rw[show gy (bj s i0) (ax n)=true from z1]
    simp_all![fO]
    simp_all![g.h,T.YR,T.Zy,gq]
    refine⟨_,ay.of h1,_,b2,?_⟩
    simp_all![b3]
    refine⟨by rfl,pb,n,_,rfl,b4,dM ok.ed _,?_⟩;by_cases z2:eS s (ax n) j0=true
    .rw[show gy (bj s j0) (ax n)=true from z2];rw[if_neg (λy=>by rw[z2]at y;exact absurd y.2 (by decide))]at k
     simp_all![]
     exact⟨by decide,λl hl=>k _ l am (ag.new hl) hl⟩
    .have z2':eS s (ax n) j0=false:=by simpa using z2
     rw[show gy (bj s j0) (ax n)=false from z2'];rw[if_pos ⟨z1,z2'⟩]at k
     simp_all![]
     refine⟨BI s H h n i0 j0,⟨j0-i0,rfl,i0,j0,0,40,none,rfl,Κ,hj,rfl,by lia,rfl⟩,?_⟩;rintro m σ _ ⟨rfl,a,b,cc,fu,v,rfl,Ze,hb,rfl,hfu,hh⟩
     simp_all![]
     by_cases y:(a:Int)+1<(b:Int)
     .rw[if_pos y];refine⟨λYD H'=>∃m',m'<b-a/\BI s H h n i0 j0 m' YD H',λYD H' hw=>hw,?_⟩
      simp_all![]
      have em:((a:Int)+(b:Int))/2=(((a+b)/2:Nat):Int):=by lia
      refine⟨⟨by decide,by decide⟩,?_⟩;rw[em];obtain⟨pm,dpm,nbm,wim,rsm,wkm,_,m2,m3,m4⟩:=h2 ((a+b)/2) (by lia)
      simp_all![g.h,T.YR,T.Zy,gq]
      refine⟨_,ay.of h1,_,m2,?_⟩
      simp_all![m3]
      refine⟨by rfl,pm,n,_,rfl,m4,dM ok.ed _,?_⟩;obtain⟨Z',rfl⟩:∃Z',fu=Z'+1:=⟨fu-1,by lia⟩;have e5:iX s (ax n) (Z'+1) a b=((if eS s (ax n) ((a+b)/2)=true then iX s (ax n) Z' ((a+b)/2) b else iX s (ax n) Z' a ((a+b)/2)).1,(if eS s (ax n) ((a+b)/2)=true then iX s (ax n) Z' ((a+b)/2) b else iX s (ax n) Z' a ((a+b)/2)).2+1):=by
       conv=>lhs;unfold iX
       rw[if_neg (by lia)]
      rw[e5]at hh;have ec:(cc:Int)+1=((cc+1:Nat):Int):=by lia
      by_cases x:eS s (ax n) ((a+b)/2)=true
      .rw[show gy (bj s ((a+b)/2)) (ax n)=true from x];rw[if_pos x]at hh
       simp_all![]
       exact⟨b-(a+b)/2,by lia,rfl,(a+b)/2,b,cc+1,Z',_,by rw[ec],by lia,hb,rfl,by lia,by rw[hh];simp;lia⟩
      .have x':eS s (ax n) ((a+b)/2)=false:=by simpa using x
       rw[show gy (bj s ((a+b)/2)) (ax n)=false from x'];rw[if_neg x]at hh
       simp_all![]
       exact⟨(a+b)/2-a,by lia,rfl,a,(a+b)/2,cc+1,Z',_,by rw[ec],by lia,by lia,rfl,by lia,by rw[hh];simp;lia⟩
     .rw[if_neg y];rw[hh,RU (by lia)]at k
      simp_all![]
      refine⟨by decide,λl hl=>k _ l ?_ (ag.new hl) hl⟩;rw[am,uu];rfl
   .have z1':eS s (ax n) i0=false:=by simpa using z1
    rw[show gy (bj s i0) (ax n)=false from z1'];rw[if_neg (λy=>z1 y.1)]at k
    simp_all![kK]
    exact⟨by decide,λl hl=>k _ l am (ag.new hl) hl⟩
  .rw[if_pos (by simpa using c)];rw[lS c]at k;exact⟨by decide,λl hl=>k _ l am (ag.new hl) hl⟩
theorem PH{s:aP}{k:Nat}:pi s (k+1)=s.edits[k]? :=by unfold pi;rw[if_neg (by lia),wP]
def jK(s:aP)(n p:Nat)(i:Nat):Bool:=match s.edits[p+i]? with
 |some e=>rf (bj s (p+i)) (bj s (p+1+i)) e n
 |none=>false
def im(f:Nat->Bool)(p m:Nat):List Nat:=((cI m).filter f).map λi=>p+1+i
theorem vb(f:Nat->Bool)(p m:Nat):(im f p m).length<=m:=by unfold im;rw[aE];refine cV (gg _ _) ?_;rw[kI];exact aT _
theorem Fw(f:Nat->Bool)(p m:Nat):im f p (m+1)=if f m=true then im f p m++[p+1+m]else im f p m:=by
 unfold im;rw[ub,mP,bV];by_cases z:f m=true
 .simp[z]
 .simp[z]
theorem O5(s:aP)(n p q:Nat):CA s n p q=im (jK s n p) p (q-p):=by
 unfold CA im;rw[xr];congr 1;refine mR λi _=>?_;have e1:p+1+i=p+i+1:=by lia
 have e2:p+i+1-1=p+i:=by lia
 simp only[e1,PH,e2];unfold jK;rw[e1];rfl
structure tw(s:aP)(H:Hp)(h:aa)(n:Int)(p q:Nat)(lp tl:aa)(i:Nat)(σ:L2.St)(H2:Hp):Prop where
 st:∃v:Option V,σ=[some (.ref h),some (.int n),some (.int (p:Int)),some (.int (q:Int)),some (.ref lp),some (.ref tl),v]
 tl:H2 tl=some (.lst (vN (im (jK s (ax n) p) p i)))
 sm:ag H H2
theorem MS(F:aO K "tell_touching" "tell_touching" Cj f fd)(T:Txt A K mg)(G1:Gm P w K mg Yx 3 A.Hi "has_span" ["self","p","q"] (lW A))(G2:Gm P w K mg Yx 1 A.Hi "edit_of_number" ["self","k"] (zZ A))
  (GA:Gm P w K mg Yx 5 A.Pu "touches" ["self","number","before","after"] (nV A oy))(GB:Gm P w K mg Yx 5 A.Dr "touches" ["self","number","before","after"] (nV A oj))(GC:Gm P w K mg Yx 5 A.Se "touches" ["self","number","before","after"] (nV A oh)):
  aI P w K mg Yx aN 6 f fd ["history","number","p","q"] (kr A λn p q=> .touching n p q):=by
 have eK:=T.eK;subst eK
 exists ["history","number","p","q","pages","touching","k"]
 .obtain⟨h,dx,le,lp,dm,s,n,p,q,rfl,g,ok,k⟩:=h;have hr3:=hr.mono (show 3<=5 by decide);have YQ:=hr.mono (show 1<=5 by decide);refine⟨_,ap (bp (dO (cg (bw G1 hr3 (pv 0) (af (pv 2) (af (pv 3) ak))))) (au (aF (bI (af (bg T.Ω) ak)))) br) (ap (pS 4 nd (aD (pv 0) rfl)) (ap (pS 5 nd (bI ak)) (ap (fH dG rfl (yt rfl T.range (af (bn eI (pv 2) be) (af (bn eI (pv 3) be) ak))) (pN 6 nd) (au (bp (cg (PE.or (bw GA hr (bw G2 YQ (pv 0) (af (pv 6) ak)) (af (pv 1) (af (cH eG (pv 4) (bn jD (pv 6) be) (λ_ _=>rfl)) (af (cH eG (pv 4) (pv 6) (λ_ _=>rfl)) ak)))) (PE.or (bw GB hr (bw G2 YQ (pv 0) (af (pv 6) ak)) (af (pv 1) (af (cH eG (pv 4) (bn jD (pv 6) be) (λ_ _=>rfl)) (af (cH eG (pv 4) (pv 6) (λ_ _=>rfl)) ak)))) (bw GC hr (bw G2 YQ (pv 0) (af (pv 6) ak)) (af (pv 1) (af (cH eG (pv 4) (bn jD (pv 6) be) (λ_ _=>rfl)) (af (cH eG (pv 4) (pv 6) (λ_ _=>rfl)) ak))))))) (au (cX (eY fe jp jo i6 (pv 5) (af (pv 6) ak)))) br))) (au (aF (bn kR (bI (af (cE kQ rfl T.len fU (af (pv 5) ak)) ak)) (pv 5))))))),?_⟩
  simp![g.h];refine⟨by rfl,h,dx,le,lp,dm,p,q,s,rfl,g,?_⟩;simp![];have et:fC s (.touching n p q)=gM s p q λp q=>pJ (CA s (ax n) p q):=rfl;rw[et]at k;by_cases c:(bB s p&&bB s q&&decide (p<=q))=true
  .rw[if_neg (by simp[c])];obtain⟨i0,j0,rfl,rfl,Κ,hj,hf⟩:=kN c;rw[hf,uV,O5]at k;obtain⟨ps,h1,_,h2⟩:=g.at;have YI:=ok.YI;simp![g.h,T.YR,T.Zy,gq];refine⟨by decide,λtl Zg=>?_⟩;have en:((j0:Int)+1-((i0:Int)+1)).toNat=j0-i0:=by lia
   rw[en];refine⟨by lia,by lia,by lia,by lia,EO (tw s H h n i0 j0 lp tl) ⟨⟨none,rfl⟩,am,ag.new Zg⟩ ?_ ?_⟩
   .rintro i σ H5 hi ⟨⟨v,rfl⟩,j1,j3⟩;obtain⟨pa,dp,nb,wi,rs,wk,_,e2,e3,e4⟩:=h2 (i0+i) (by lia);obtain⟨pb,dpb,nbb,wib,rsb,wkb,_,b2,b3,b4⟩:=h2 (i0+1+i) (by lia);have g5:=g.same j3;have YG:=vb (jK s (ax n) i0) i0 i;have fin:∀H6:Hp,ag H5 H6->if jK s (ax n) i0 i=true then(lg A.kf "list" (.ref tl) H6/\∃x,H6 tl=some (.lst x)/\x.length<aU/\tw s H h n i0 j0 lp tl (i+1) [some (.ref h),some (.int n),some (.int (i0:Int)),some (.int (j0:Int)),some (.ref lp),some (.ref tl),some (.int ((i0+i+1:Nat):Int))] (upd H6 tl (.lst (x++[.int ((i0+i+1:Nat):Int)]))))
      else tw s H h n i0 j0 lp tl (i+1) [some (.ref h),some (.int n),some (.int (i0:Int)),some (.int (j0:Int)),some (.ref lp),some (.ref tl),some (.int ((i0+i+1:Nat):Int))] H6:=λH6 s6=>by
     have es:=Fw (jK s (ax n) i0) i0 i;have j6:=s6 _ _ j1;by_cases z:jK s (ax n) i0 i=true
     .rw[if_pos z];rw[if_pos z]at es;refine⟨by rw[dZ j6];trivial,_,j6,by rw[bW,bC];lia,⟨_,rfl⟩,?_,(j3.trans s6).put Zg⟩;rw[am,es,lR,show i0+1+i=i0+i+1 by lia]
     .rw[if_neg z];rw[if_neg z]at es;exact⟨⟨_,rfl⟩,by rw[es];exact j6,j3.trans s6⟩
    have ek:(i0:Int)+1+(i:Int)=((i0+i+1:Nat):Int):=by lia
    have ek1:((i0+i+1:Nat):Int)-1=((i0+i:Nat):Int):=by lia
    have ek2:((i0+1+i:Nat):Int)=((i0+i+1:Nat):Int):=by lia
    rw[ek2]at b2;rw[ek];have YK:i0+i<s.edits.length:=by lia
    have ν:s.edits[i0+i]? =some s.edits[i0+i]:=cR YK;have YB:=ok.ed _ (t9 YK);have et2:jK s (ax n) i0 i=rf (bj s (i0+i)) (bj s (i0+1+i)) s.edits[i0+i] (ax n):=by unfold jK;rw[ν]
    rw[et2]at fin;generalize s.edits[i0+i]=ed at ν YB fin;have go:∀(e:aa)(okp:ej->Prop),eJ A H5 e ed->okp ed->nV A okp [.ref e,.int n,.ref pa,.ref pb] H5 (λx H6=>∃c,x=V.bl c/\if c=true then(lg A.kf "list" (.ref tl) H6/\∃x,H6 tl=some (.lst x)/\x.length<aU/\tw s H h n i0 j0 lp tl (i+1) [some (.ref h),some (.int n),some (.int (i0:Int)),some (.int (j0:Int)),some (.ref lp),some (.ref tl),some (.int ((i0+i+1:Nat):Int))] (upd H6 tl (.lst (x++[.int ((i0+i+1:Nat):Int)]))))else tw s H h n i0 j0 lp tl (i+1) [some (.ref h),some (.int n),some (.int (i0:Int)),some (.int (j0:Int)),some (.ref lp),some (.ref tl),some (.int ((i0+i+1:Nat):Int))] H6) E0:=λe okp hE ho=>⟨e,pa,pb,n,ed,_,_,rfl,hE,ho,YB,e4.same j3,dM ok.ed _,b4.same j3,dM ok.ed _,λH6 s6=>⟨_,rfl,fin H6 s6⟩⟩;simp![g5.h,dZ j1];rw[ek1];have p5:=ay.of (K:=A.kf) (j3 _ _ h1);cases ed with
    |put c=>refine .inl ⟨by rfl,h,dx,le,lp,dm,i0+i,s,rfl,g5,YK,λes e ed' f1 f2 f3 f4=>?_⟩;rw[ν]at f3;cases f3;obtain⟨Zj,ca,q1,q2⟩:=f4;exact⟨e,rfl,_,_,q1,rfl,_,p5,_,e2,_,p5,_,b2,go e oy ⟨Zj,ca,q1,q2⟩ trivial⟩
    |drop m=>refine .inr (.inl ⟨by rfl,h,dx,le,lp,dm,i0+i,s,rfl,g5,YK,λes e ed' f1 f2 f3 f4=>?_⟩);rw[ν]at f3;cases f3;obtain⟨Zj,q1⟩:=f4;exact⟨e,rfl,_,_,q1,rfl,_,p5,_,e2,_,p5,_,b2,go e oj ⟨Zj,q1⟩ trivial⟩
    |seed m=>refine .inr (.inr ⟨by rfl,h,dx,le,lp,dm,i0+i,s,rfl,g5,YK,λes e ed' f1 f2 f3 f4=>?_⟩);rw[ν]at f3;cases f3;obtain⟨Zj,q1⟩:=f4;exact⟨e,rfl,_,_,q1,rfl,_,p5,_,e2,_,p5,_,b2,go e oh ⟨Zj,q1⟩ trivial⟩
   .rintro σ H5 ⟨⟨v,rfl⟩,j1,j3⟩;have YG:=vb (jK s (ax n) i0) i0 (j0-i0);generalize im (jK s (ax n) i0) i0 (j0-i0)=fls at k j1 YG;simp![];refine⟨_,ay.of j1,by decide,λl1 hl=>?_⟩;have n1:tl≠l1:=aG j1 hl;simp![kO,aj n1,j1];refine⟨by rw[bW,bC];lia,λl2 Y6=>?_⟩;have s2:=j3.trans (ag.new (o:=HO.lst [V.int ((vN fls).length:Int)]) hl);refine k _ l2 ?_ (s2.trans (ag.new Y6)) (s2.free Y6);rw[am,bW]
  .rw[if_pos (by simpa using c)];rw[lS c]at k;exact⟨by decide,λl hl=>k _ l am (ag.new hl) hl⟩
end
end
section
theorem pd(p q:Nat):pZ p q=rO (p+1) (q-p):=by unfold da;rw[Mc,List.map_add_range']
theorem xL(s:ao)(a b:List ej):vn s (a++b)=vn (vn s a) b:=tZ
theorem IB{s:aP}{k:Nat}(h:k<s.edits.length):editNo s (k+1)=some s.edits[k]:=by unfold pi;rw[if_neg (by lia),wP];exact cR h
theorem Pr{s:aP}{k:Nat}(h:k<s.edits.length):noteAt s (k+1)=fj (noteAt s k) s.edits[k]:=by show vn {} (s.edits.take (k+1))=_;rw[List.take_succ_eq_append_getElem h,xL];rfl
theorem DA{s:aP}{p:Nat}:∀i,p+i<=s.edits.length->vj s p (rO (p+1) i)=noteAt s (p+i)
 |0,_=>rfl
 |i+1,h=>by
  have ih:=DA i (show p+i<=s.edits.length by lia);unfold jS at*;rw[List.range'_concat,lv,xL,ih];have e:p+1+1*i=(p+i)+1:=by lia
  rw[e,mL,IB (show p+i<s.edits.length by lia)];show fj _ _=_;rw[show p+(i+1)=p+i+1 by lia,Pr (by lia)]
theorem Oz(s:aP)(p:Nat)(a b:List Nat):vj s p (a++b)=vn (vj s p a) (b.filterMap λk=>editNo s k):=by unfold jS;rw[lv,xL]
theorem On{p q i:Nat}(h:i<q-p):pZ p q=rO (p+1) i++(p+1+i)::pZ (p+1+i) q:=by
 rw[pd,pd];have e1:q-p=i+(1+(q-(p+1+i))):=by lia
 rw[e1,<-Md,<-Md];congr 1
theorem O3{p q i:Nat}(h:i<q-p):((pZ p q).filter λj=>j !=p+1+i)=rO (p+1) i++pZ (p+1+i) q:=by
 rw[On h,mP,LH (by simp)];congr 1
 .refine oW.mpr λx hx=>?_;rw[B1]at hx;simp
  lia
 .refine oW.mpr λx hx=>?_;rw[pd,B1]at hx;simp
  lia
theorem Q0{s:aP}{p q i:Nat}(h:i<q-p)(hq:q<=s.edits.length):vj s p ((pZ p q).filter λj=>j !=p+1+i)=vj s (p+i) (pZ (p+1+i) q):=by rw[O3 h,Oz,DA i (by lia)];rfl
theorem u_(s:aP)(n p:Nat):∀r kept:List Nat,(eV s n p kept r).Sublist (kept++r)
 |[],kept=>by unfold eV;simp
 |k::r,kept=>by
  unfold eV;split
  .have:=u_ s n p r (kept++[k]);rw[mS]at this;exact this
  .exact(u_ s n p r kept).trans (LD (LN _ _) _)
theorem Fo{s:aP}{n p:Nat}{l:List Nat}:(eV s n p [] l).length=l.length↔eV s n p [] l=l:=
 ⟨λe=>(u_ s n p l []).eq_of_length e,λe=>by rw[e]⟩
end
section
section
def yO(A:Ad):Sp:=λvs H Q _=>∃(h dx le lp dm kl:aa)(s:aP)(n:Int)(p:Nat)(ks:List Nat),vs=[.ref h,.int n,.int (p:Int),.ref kl]/\bu A H h dx le lp dm s/\cw s/\p<=s.edits.length/\H kl=some (.lst (vN ks))/\(∀k∈ks,1<=k/\k<=s.edits.length)/\ks.length<=40/\
 ∀H':Hp,ag H H'->Q (.bl (gy (jS s p ks) (ax n))) H'
def AX(es:List aa):V->V
 | .int n=>match es[n.toNat-1]? with
  |some e=> .ref e
  |none=> .non
 |_=> .non
theorem JL{es:List aa}{k:Nat}{e:aa}(h:es[k]? =some e):AX es (.int ((k+1:Nat):Int))= .ref e:=by show(match es[((k+1:Nat):Int).toNat-1]? with|some e=>V.ref e|none=>V.non)=_;rw[c_,wP,h]
theorem JK{H:Hp}{es:List aa}{s:aP}(h2:aY (eJ A H) es s.edits):∀ks:List Nat,(∀k∈ks,1<=k/\k<=s.edits.length)->∃as:List aa,(vN ks).map (AX es)=as.map V.ref/\aY (eJ A H) as (ks.filterMap λk=>pi s k)
 |[],_=>⟨[],rfl,.nil⟩
 |k::ks,h=>by
  obtain⟨as,e1,e2⟩:=JK h2 ks λk hk=>h k (bq _ hk);obtain⟨k1,k2⟩:=h k bA;obtain⟨j,rfl⟩:∃j,k=j+1:=⟨k-1,by lia⟩;obtain⟨e,f1,f2⟩:=uz h2 (cR (show j<s.edits.length by lia));refine⟨e::as,?_,?_⟩
  .rw[show vN ((j+1)::ks)=V.int ((j+1:Nat):Int)::vN ks from rfl,bb,e1,JL f1];rfl
  .rw[mL,IB (show j<s.edits.length by lia)];exact .cons f2 e2
theorem D3{s:aP}(ok:cw s)(p:Nat)(ks:List Nat):Wf (jS s p ks):=uD (dM ok.ed p) λe he=>by
 obtain⟨k,_,hk⟩:=mO.mp he;unfold pi at hk;split at hk
 .cases hk
 .exact ok.ed e (cU hk)
theorem MW(F:aO K "passes_behind" "passes_behind" Cp f fd)(T:Txt A K mg)(G1:Gm P w K mg Yx 1 A.Hi "edit_of_number" ["self","k"] (zZ A))(GP:Gi P w K mg Yx 5 A.Pg "Page" ["self","notebook"] (u7 A))(GW:Gm P w K mg Yx 3 A.Nb "with_edits" ["self","edits"] (zX A))(G2:Gm P w K mg Yx 2 A.Pg "passes" ["self","number"] (rX A)):
  aI P w K mg Yx aN 7 f fd ["history","number","p","edit_numbers"] (yO A):=by
 have eK:=T.eK;subst eK
 exists ["history","number","p","edit_numbers","edits","k"]
 .obtain⟨h,dx,le,lp,dm,kl,s,n,p,ks,rfl,g,ok,hp,Ρ,hks,hkz,q⟩:=h;have YQ:=hr.mono (show 1<=6 by decide);have Z8:=hr.mono (show 2<=6 by decide);have hr3:=hr.mono (show 3<=6 by decide);refine⟨_,ap (pP (i:=4) (own:=[("k",5)]) rfl nd rfl rfl (pU rfl rfl rfl rfl) (dY (pv 3)) (gA (by rfl)) (λ_ _ _ _ _=>pN 5 nd) (λ_ _ _ _ _=>ja) (λ_ _ _ _ _=>by exact bw G1 YQ (pv 0) (af (pv 5) ak))) (au (aF (bw G2 Z8 (oI GP hr (af (bw GW hr3 (aD (cH eG (aD (pv 0) rfl) (pv 2) (λ_ _=>rfl)) rfl) (af (pv 4) ak)) ak)) (af (pv 1) ak)))),?_⟩
  obtain⟨es,h1,h2,h3⟩:=g.len
  dsimp![]
  refine⟨⟨_,ay.of Ρ⟩,jA (K:=A.kf) (xs:=vN ks) (λ_=>true) (AX es) (ay.of Ρ) (by rw[bW];exact gP (by lia)) ?_ ?_⟩
  .intro i v H1 R R' hi s1 r1 r2;obtain⟨k,hk,rfl⟩:=gZ hi;obtain⟨k1,k2⟩:=hks k (cU hk);obtain⟨j,rfl⟩:∃j,k=j+1:=⟨k-1,by lia⟩;have g1:=g.same s1
   dsimp![g1.h]
   refine⟨by rfl,h,dx,le,lp,dm,j,s,rfl,g1,by lia,λYH e ed f1 f2 f3 f4=>?_⟩;have ee:YH=es:=by rw[s1 _ _ h1]at f1;have f1:es.map V.ref=YH.map V.ref:=HO.lst.inj (gk f1);exact((wS λa b z=>V.ref.inj z).mp f1).symm
   rw[ee]at f2;rw[JL f2]at r1;exact r1 rfl H1 (ag.refl H1)
  .intro el H1 hel Zm s1;obtain⟨as,e1,e2⟩:=JK h2 ks hks;rw[filter_all,e1]at Zm;have g1:=g.same s1;obtain⟨ps,p1,_,p2⟩:=g1.at;obtain⟨pa,dp,nb,wi,rs,wk,_,b2,b3,b4⟩:=p2 p hp;obtain⟨dxp,nbp,wip,rsp,wkp,dn,d,YL,ws2,c1,c2,_⟩:=b4.ex;rw[b3]at c1;cases c1
   dsimp![g1.h,T.YR,T.Zy,gq]
   refine⟨_,ay.of p1,_,b2,?_⟩
   dsimp![b3,T.Y8,T.aaL,nW,c2.nb]
   refine⟨by rfl,nb,dn,d,el,bj s p,as,ks.filterMap λk=>pi s k,rfl,c2,dM ok.ed p,Zm,aY.mapP e2 λa b z=>z.same s1,λe he=>?_,λH2 nb' dn' d' g2 s2 _ _=>?_⟩
   .obtain⟨k,_,hk⟩:=mO.mp he;unfold pi at hk;split at hk
    .cases hk
    .exact ok.ed e (cU hk)
   intro pa' dp' Zt hdp Y0;refine⟨pa',dp',nb',dn',d',_,rfl,am,g2.same (ag.two hdp Zt),D3 ok p ks,λH3 hP k3=>⟨rfl,?_⟩⟩;obtain⟨dx3,nb3,wi3,rs3,wk3,dn3,d3,ks3,wa3,o1,_⟩:=hP.ex;have s3:ag H2 H3:=λb o e=>k3 b o (ag.two hdp Zt b o e) (aG e Zt)
   dsimp![o1]
   exact⟨by rfl,pa',n,_,rfl,hP,D3 ok p ks,q H3 ((s1.trans s2).trans s3)⟩
def frf(s:aP)(n p q:Int):Int:=if(bB s p&&bB s q&&decide (p<=q))=true then(if eS s (ax n) q.toNat=true then -15 else 0)else -10
def yr(A:Ad):Sp:=λvs H Q _=>∃(h dx le lp dm:aa)(s:aP)(n p q:Int),vs=[.ref h,.int n,.int p,.int q]/\bu A H h dx le lp dm s/\cw s/\Q (.int (frf s n p q)) H
theorem Mr(F:aO K "failing_refusal" "failing_refusal" BL f fd)(T:Txt A K mg)(G1:Gm P w K mg Yx 3 A.Hi "has_span" ["self","p","q"] (lW A))(G2:Gm P w K mg Yx 2 A.Pg "passes" ["self","number"] (rX A)):
  aI P w K mg Yx aN 4 f fd ["history","number","p","q"] (yr A):=by
 have eK:=T.eK;subst eK
 exists ["history","number","p","q"]
 .obtain⟨h,dx,le,lp,dm,s,n,p,q,rfl,g,ok,k⟩:=h;have Z8:=hr.mono (show 2<=3 by decide);refine⟨_,ap (bp (dO (cg (bw G1 hr (pv 0) (af (pv 2) (af (pv 3) ak))))) (au (aF (bg T.Ω))) br) (ap (bp (cg (bw G2 Z8 (cH eG (aD (pv 0) rfl) (pv 3) (λ_ _=>rfl)) (af (pv 1) ak))) (au (aF (bg T.aiC))) br) (au (aF (bg T.ab5)))),?_⟩
  dsimp![g.h]
  refine⟨by rfl,h,dx,le,lp,dm,p,q,s,rfl,g,?_⟩
  dsimp![]
  unfold frf at k;by_cases c:(bB s p&&bB s q&&decide (p<=q))=true
  .rw[if_neg (by simp[c])];rw[if_pos c]at k;obtain⟨i0,j0,rfl,rfl,Κ,hj,hf⟩:=kN c;rw[c_]at k;obtain⟨ps,h1,_,h2⟩:=g.at;obtain⟨pb,dpb,nbb,wib,rsb,wkb,_,b2,b3,b4⟩:=h2 j0 (by lia)
   dsimp![g.h,T.YR,T.Zy,gq]
   refine⟨_,ay.of h1,_,b2,?_⟩
   dsimp![b3]
   refine⟨by rfl,pb,n,_,rfl,b4,dM ok.ed _,?_⟩;by_cases z2:eS s (ax n) j0=true
   .rw[show gy (bj s j0) (ax n)=true from z2];rw[if_pos z2]at k
    dsimp![]
    exact k
   .rw[show gy (bj s j0) (ax n)=false from MR.mpr z2];rw[if_neg z2]at k
    dsimp![]
    exact k
  .rw[if_pos (by simpa using c)];rw[if_neg c]at k;exact k
def oJ(s:aP)(n p q i:Nat):Bool:=gy (jS s (p+i) (da (p+1+i) q)) n
theorem RV{s:aP}{n p q:Nat}(hq:q<=s.edits.length):Dt s n p q=im (oJ s n p q) p (q-p):=by unfold Dt im;show((da p q).filter λk=>gy (jS s p ((da p q).filter λj=>j !=k)) n)=_;rw[xr];congr 1;refine mR λi hi=>?_;rw[Q0 (jv.mp hi) hq];rfl
theorem Gg(a b:Nat):((cI ((b:Int)+1-((a:Int)+1)).toNat).map λk:Nat=>V.int ((a:Int)+1+(k:Int)))=vN (da a b):=by rw[show((b:Int)+1-((a:Int)+1)).toNat=b-a by lia];unfold vN da;rw[bH];refine fS λi _=>?_;show V.int _=V.int _;congr 1
theorem Ai{s:aP}{a b:Nat}(h:b<=s.edits.length):∀k∈da a b,1<=k/\k<=s.edits.length:=λk hk=>by
 rw[pd,B1]at hk
 lia
theorem zR(a b:Nat):(da a b).length=b-a:=by rw[pd,Mx]
structure W3(f:Nat->Bool)(H:Hp)(h:aa)(n:Int)(p q:Nat)(tl:aa)(i:Nat)(σ:L2.St)(H2:Hp):Prop where
 st:∃v:Option V,σ=[some (.ref h),some (.int n),some (.int (p:Int)),some (.int (q:Int)),some (.int 0),some (.ref tl),v]
 tl:H2 tl=some (.lst (vN (im f p i)))
 sm:ag H H2
theorem NF(F:aO K "tell_guilty" "tell_guilty" C9 f fd)(T:Txt A K mg)(G1:Gf P w K mg Yx 4 "failing_refusal" ["history","number","p","q"] (yr A))(G2:Gf P w K mg Yx 7 "passes_behind" ["history","number","p","edit_numbers"] (yO A)):
  aI P w K mg Yx aN 8 f fd ["history","number","p","q"] (kr A λn p q=> .guilty n p q):=by
 exists ["history","number","p","q","refusal","guilty","k"]
 .obtain⟨h,dx,le,lp,dm,s,n,p,q,rfl,g,ok,k⟩:=h;have hr4:=hr.mono (show 4<=7 by decide);refine⟨_,ap (pS 4 nd (bL G1 hr4 (af (pv 0) (af (pv 1) (af (pv 2) (af (pv 3) ak)))))) (ap (bp (db jG (pv 4) (bg T.ab5) (bZ _)) (au (aF (bI (af (pv 4) ak)))) br) (ap (pS 5 nd (bI ak)) (ap (fH dG rfl (yt rfl T.range (af (bn eI (pv 2) be) (af (bn eI (pv 3) be) ak))) (pN 6 nd) (au (bp (cg (bL G2 hr (af (pv 0) (af (pv 1) (af (bn jD (pv 6) be) (af (fX (Hl rfl) rfl T.list nN (af (fX IK rfl T.range Hq (af (bn eI (pv 6) be) (af (bn eI (pv 3) be) ak))) ak)) ak)))))) (au (cX (eY fe jp jo i6 (pv 5) (af (pv 6) ak)))) br))) (au (aF (bn kR (bI (af (cE kQ rfl T.len fU (af (pv 5) ak)) ak)) (pv 5))))))),?_⟩
  simp_all![]
  refine⟨h,dx,le,lp,dm,s,n,p,q,rfl,g,ok,?_⟩
  simp_all![]
  have et:fC s (.guilty n p q)=gM s p q λp q=>if eS s (ax n) q=true then⟨-15,[]⟩else pJ (Dt s (ax n) p q):=rfl;rw[et]at k;by_cases c:(bB s p&&bB s q&&decide (p<=q))=true
  .obtain⟨i0,j0,rfl,rfl,Κ,hj,hf⟩:=kN c;rw[hf]at k;by_cases z:eS s (ax n) j0=true
   .rw[if_pos z]at k;have ef:frf s n i0 j0= -15:=by unfold frf;rw[if_pos c,c_,if_pos z]
    rw[ef,if_pos (by decide)]
    simp_all![]
    exact⟨by decide,λl hl=>k _ l am (ag.new hl) hl⟩
   .rw[if_neg z,uV,RV hj]at k;have ef:frf s n i0 j0=0:=by unfold frf;rw[if_pos c,c_,if_neg z]
    rw[ef,if_neg (by decide)]
    simp_all![]
    have YI:=ok.YI;refine⟨by decide,λtl Zg=>?_⟩;have en:((j0:Int)+1-((i0:Int)+1)).toNat=j0-i0:=by lia
    rw[en];refine⟨by lia,by lia,by lia,by lia,EO (W3 (oJ s (ax n) i0 j0) H h n i0 j0 tl) ⟨⟨none,rfl⟩,am,ag.new Zg⟩ ?_ ?_⟩
    .rintro i σ H5 hi ⟨⟨v,rfl⟩,j1,j3⟩;have YG:=vb (oJ s (ax n) i0 j0) i0 i
     simp_all![Gn]
     intro ra hra;have sr:=ag.new (o:=HO.rng ((i0:Int)+1+(i:Int)+1) ((j0:Int)+1)) hra
     simp_all![Ft,HO.rng.injEq]
     refine⟨by lia,by lia,by lia,by lia,λll hll=>?_⟩;rw[show(i0:Int)+1+(i:Int)=((i0+1+i:Nat):Int)by lia,Gg,show((i0+1+i:Nat):Int)-1=((i0+i:Nat):Int)by lia];rw[show(i0:Int)+1+(i:Int)=((i0+1+i:Nat):Int)by lia]at sr hll;have sl:=sr.trans (ag.new (o:=HO.lst (vN (da (i0+1+i) j0))) hll);refine⟨h,dx,le,lp,dm,ll,s,n,i0+i,da (i0+1+i) j0,rfl,(g.same j3).same sl,ok,by lia,am,Ai hj,by rw[zR];lia,λH6 s6=>?_⟩;have s56:=sl.trans s6;have es:=Fw (oJ s (ax n) i0 j0) i0 i
     simp_all![]
     by_cases x:oJ s (ax n) i0 j0 i=true
     .rw[if_pos x]at es;rw[show gy (jS s (i0+i) (da (i0+1+i) j0)) (ax n)=true from x];have j6:=s56 _ _ j1
      simp_all![dZ j6,j6]
      refine⟨by rw[bW,bC];lia,⟨_,rfl⟩,?_,(j3.trans s56).put Zg⟩;rw[am,es,lR]
     .rw[if_neg x]at es;rw[show gy (jS s (i0+i) (da (i0+1+i) j0)) (ax n)=false from MR.mpr x]
      simp_all![]
      exact⟨⟨_,rfl⟩,by rw[es];exact s56 _ _ j1,j3.trans s56⟩
    .rintro σ H5 ⟨⟨v,rfl⟩,j1,j3⟩;have YG:=vb (oJ s (ax n) i0 j0) i0 (j0-i0);generalize im (oJ s (ax n) i0 j0) i0 (j0-i0)=fls at k j1 YG
     simp_all![]
     refine⟨_,ay.of j1,by decide,λl1 hl=>?_⟩;have n1:tl≠l1:=aG j1 hl
     simp_all![kO,aj n1,j1]
     refine⟨by rw[bW,bC];lia,λl2 Y6=>?_⟩;have s2:=j3.trans (ag.new (o:=HO.lst [V.int ((vN fls).length:Int)]) hl);refine k _ l2 ?_ (s2.trans (ag.new Y6)) (s2.free Y6);rw[am,bW]
  .rw[lS c]at k;have ef:frf s n p q= -10:=by unfold frf;rw[if_neg c]
   rw[ef,if_pos (by decide)]
   simp_all![]
   exact⟨by decide,λl hl=>k _ l am (ag.new hl) hl⟩
def Ez(A:Ad):Sp:=λvs H Q _=>∃(h dx le lp dm kl:aa)(s:aP)(n:Int)(p:Nat)(ks:List Nat),vs=[.ref h,.int n,.int (p:Int),.ref kl]/\bu A H h dx le lp dm s/\cw s/\p<=s.edits.length/\H kl=some (.lst (vN ks))/\(∀k∈ks,1<=k/\k<=s.edits.length)/\ks.Nodup/\ks.length<=40/\
 ∀(H':Hp)(l:aa),H' l=some (.lst (vN (eV s (ax n) p [] ks)))->ag H H'->H l=none->Q (.ref l) H'
def AV(k:Nat):V->Bool
 | .int n=> !decide (n=(k:Int))
 |_=>false
theorem Vo(k:Nat)(l:List Nat):((vN l).filter (AV k)).map (λv=>v)=vN (l.filter λj=>j !=k):=by
 rw[DX];unfold vN;rw[mX];congr 1;refine mR λj _=>?_;show(!decide ((j:Int)=(k:Int)))=(j !=k);by_cases z:j=k
 .subst z;simp
 .have z2:¬(j:Int)=(k:Int):=by lia
  simp[z,z2]
structure SI(s:aP)(H:Hp)(h kl:aa)(n:Int)(p:Nat)(ks:List Nat)(i:Nat)(σ:L2.St)(H2:Hp):Prop where
 ex:∃(kept:List Nat)(ll:aa)(v w:Option V),σ=[some (.ref h),some (.int n),some (.int (p:Int)),some (.ref kl),some (.ref ll),v,w,none]/\H2 ll=some (.lst (vN (kept++ks.drop i)))/\H ll=none/\eV s (ax n) p [] ks=eV s (ax n) p kept (ks.drop i)/\(kept++ks.drop i).Sublist ks
 sm:ag H H2
theorem Mj(F:aO K "without_needless" "without_needless" Bz f fd)(T:Txt A K mg)(G2:Gf P w K mg Yx 7 "passes_behind" ["history","number","p","edit_numbers"] (yO A)):
  aI P w K mg Yx aN 8 f fd ["history","number","p","edit_numbers"] (Ez A):=by
 exists ["history","number","p","edit_numbers","left","k","others","other"]
 .obtain⟨h,dx,le,lp,dm,kl,s,n,p,ks,rfl,g,ok,hp,Ρ,hks,hnd,hkz,q⟩:=h;refine⟨_,ap (pS 4 nd (fX Hm rfl T.list nN (af (pv 3) ak))) (ap (fH dG rfl (dY (pv 3)) (zC (i:=5) nd rfl (iK rfl)) (ap (pP (i:=6) (own:=[("other",7)]) rfl nd rfl rfl (pU rfl rfl rfl rfl) (dY (pv 4)) (gA (by rfl)) (λ_ _ _ _ _=>pN 7 nd) (λ_ _ _ _ _=>by exact sw (db jG (pv 7) (pv 5) (bZ _))) (λ_ _ _ _ _=>by exact pv 7)) (au (bp (dO (cg (bL G2 hr (af (pv 0) (af (pv 1) (af (pv 2) (af (pv 6) ak))))))) (au (pS 4 nd (pv 6))) br)))) (au (aF (pv 4)))),?_⟩
  simp_all![]
  refine⟨_,ay.of Ρ,λl0 hl0=>?_⟩;have s0:=ag.new (o:=HO.lst (vN ks)) hl0;refine⟨⟨_,ay.of (s0 _ _ Ρ)⟩,ie (K:=K) (xs:=vN ks) (SI s H h kl n p ks) ⟨⟨[],l0,none,none,rfl,am,hl0,rfl,B3 _⟩,s0⟩ (λi σ H5 _ z=>ay.of (z.sm _ _ Ρ)) ?_ ?_⟩
  .rintro i x σ H5 hi ⟨⟨kept,ll,v,w,rfl,j1,j2,j3,j4⟩,j5⟩;obtain⟨k,hk,rfl⟩:=gZ hi;have ed:ks.drop i=k::ks.drop (i+1):=by obtain⟨YK,e⟩:=gE.mp hk;rw[List.drop_eq_getElem_cons YK,e]
   rw[ed]at j1 j3 j4;generalize hdr:ks.drop (i+1)=r at j1 j3 j4 ed;have Z6:=j4.nodup hnd;have ef:(kept++k::r).filter (λj=>j !=k)=kept++r:=by
    rw[hJ]at Z6;obtain⟨_,n2,n3⟩:=Z6;rw[fT]at n2;rw[mP,LH (by simp)];congr 1
    .refine oW.mpr λa ha=>?_;have:=n3 a ha k bA;simpa using this
    .refine oW.mpr λa ha=>?_;have:a≠k:=λz=>n2.1 (by rw[<-z];exact ha);simpa using this
   have YG:(kept++k::r).length<=40:=cV j4.length_le hkz;have ae0:(kept++r).Sublist (kept++k::r):=LD (LN _ _) _
   simp_all![]
   refine⟨⟨_,ay.of j1⟩,jA (K:=K) (xs:=vN (kept++k::r)) (AV k) (λv=>v) (ay.of j1) (by rw[bW];exact gP (by lia)) ?_ ?_⟩
   .intro i2 x2 H6 R R' hi2 s6 r1 r2;obtain⟨m,hm,rfl⟩:=gZ hi2;have e0:AV k (.int (m:Int))= !decide ((m:Int)=(k:Int)):=rfl;rw[e0]at r1 r2
    simp_all![]
    by_cases z:(m:Int)=(k:Int)
    .rw[if_neg (by simpa using z)];exact r2 (by simpa using z) H6 (ag.refl H6)
    .rw[if_pos (by simpa using z)];exact r1 (by simpa using z) H6 (ag.refl H6)
   .intro ol H6 ω hl6 s6;rw[Vo,ef]at hl6;have s56:=j5.trans s6
    simp_all![]
    refine⟨h,dx,le,lp,dm,ol,s,n,p,kept++r,rfl,g.same s56,ok,hp,hl6,λa ha=>hks a ((ae0.trans j4).subset ha),cV ae0.length_le YG,λH7 s7=>?_⟩;have s57:=s56.trans s7;have es:eV s (ax n) p kept (k::r)=if gy (jS s p (kept++r)) (ax n)=true then eV s (ax n) p (kept++[k]) r else eV s (ax n) p kept r:=by
     conv=>lhs;unfold eV
    rw[es]at j3
    simp_all![]
    by_cases z:gy (jS s p (kept++r)) (ax n)=true
    .rw[if_pos z]at j3;rw[z]
     simp_all![fO]
     refine⟨⟨kept++[k],ll,_,_,rfl,?_,j2,by rw[hdr];exact j3,?_⟩,s57⟩
     .rw[hdr,mS];exact s7 _ _ (s6 _ _ j1)
     .rw[hdr,mS];exact j4
    .rw[if_neg z]at j3;rw[show gy (jS s p (kept++r)) (ax n)=false by simpa using z]
     simp_all![kK]
     exact⟨⟨kept,ol,_,_,rfl,by rw[hdr];exact s7 _ _ hl6,j5.free ω,by rw[hdr];exact j3,by rw[hdr];exact ae0.trans j4⟩,s57⟩
  .rintro σ H5 ⟨⟨kept,ll,v,w,rfl,j1,j2,j3,j4⟩,j5⟩;rw[bW,List.drop_length]at j1 j3
   simp_all![]
   refine q H5 ll ?_ j5 j2;rw[j3,j1,jt];unfold eV;rfl
def dL(l:List Nat):dP:= .list ((iN l).map nG)
theorem K6{H:Hp}{a:aa}{l:List Nat}(h:H a=some (.lst (vN l))):Dp K H (.ref a) (dL l):= .lst (ay.of (by rw[iq];exact h)) (uK (iN l))
theorem HR(l:List Nat):iG (dL l)=true:=by obtain⟨h1,h2⟩:=r6 (iN l);simp[iG,dL,mY,ut,h1,h2]
theorem WS(a b:List Nat):ib (dL a) (dL b)=decide (a=b):=by
 have h1:=vf (iN a) (iN b);have e:(iN a=iN b)↔a=b:=wS λx y z=>by lia
 rw[fh];simp[dL,ib,h1,e]
structure SH(s:aP)(H:Hp)(h:aa)(n:Int)(p q m:Nat)(σ:L2.St)(H2:Hp):Prop where
 ex:∃(l:List Nat)(la lb:aa)(fu:Nat),σ=[some (.ref h),some (.int n),some (.int (p:Int)),some (.int (q:Int)),some (.int 0),some (.ref la),some (.ref lb)]/\m=l.length/\H2 la=some (.lst (vN l))/\H2 lb=some (.lst (vN (eV s (ax n) p [] l)))/\l.Sublist (da p q)/\l.length<fu/\
  ph s (ax n) p (q-p+1) (da p q)=ph s (ax n) p fu l
 sm:ag H H2
theorem ND(F:aO K "tell_shrunk" "tell_shrunk" C7 f fd)(T:Txt A K mg)(G1:Gf P w K mg Yx 4 "failing_refusal" ["history","number","p","q"] (yr A))(G2:Gf P w K mg Yx 8 "without_needless" ["history","number","p","edit_numbers"] (Ez A)):
  aI P w K mg Yx aN 9 f fd ["history","number","p","q"] (kr A λn p q=> .shrink n p q):=by
 exists ["history","number","p","q","refusal","left","shorter"]
 .obtain⟨h,dx,le,lp,dm,s,n,p,q,rfl,g,ok,k⟩:=h;have hr4:=hr.mono (show 4<=8 by decide);refine⟨_,ap (pS 4 nd (bL G1 hr4 (af (pv 0) (af (pv 1) (af (pv 2) (af (pv 3) ak)))))) (ap (bp (db jG (pv 4) (bg T.ab5) (bZ _)) (au (aF (bI (af (pv 4) ak)))) br) (ap (bp (db qw (bn jD (pv 3) (pv 2)) (bg T.aiG) (bZ _)) (au (aF (bI (af (bg T.aiA) ak)))) br) (ap (pS 5 nd (fX (Hl rfl) rfl T.list nN (af (fX IK rfl T.range Hq (af (bn eI (pv 2) be) (af (bn eI (pv 3) be) ak))) ak))) (ap (pS 6 nd (bL G2 hr (af (pv 0) (af (pv 1) (af (pv 2) (af (pv 5) ak)))))) (ap (pO dG (db (Js hr.units) (pv 6) (pv 5) (bZ _)) (ap (pS 5 nd (pv 6)) (au (pS 6 nd (bL G2 hr (af (pv 0) (af (pv 1) (af (pv 2) (af (pv 5) ak))))))))) (au (aF (bn kR (bI (af (cE kQ rfl T.len fU (af (pv 5) ak)) ak)) (pv 5))))))))),?_⟩
  dsimp![]
  refine⟨h,dx,le,lp,dm,s,n,p,q,rfl,g,ok,?_⟩
  dsimp![]
  have et:fC s (.shrink n p q)=gM s p q λp q=>if eS s (ax n) q=true then⟨-15,[]⟩else if 12<q-p then⟨-14,[]⟩else pJ (ph s (ax n) p (q-p+1) (da p q)):=rfl;rw[et]at k;by_cases c:(bB s p&&bB s q&&decide (p<=q))=true
  .obtain⟨i0,j0,rfl,rfl,Κ,hj,hf⟩:=kN c;rw[hf]at k;by_cases z:eS s (ax n) j0=true
   .rw[if_pos z]at k;have ef:frf s n i0 j0= -15:=by unfold frf;rw[if_pos c,c_,if_pos z]
    rw[ef,if_pos (by decide)]
    dsimp![]
    exact⟨by decide,λl hl=>k _ l am (ag.new hl) hl⟩
   .rw[if_neg z]at k;have ef:frf s n i0 j0=0:=by unfold frf;rw[if_pos c,c_,if_neg z]
    rw[ef,if_neg (by decide)]
    dsimp![]
    by_cases x:12<j0-i0
    .rw[if_pos x]at k;rw[if_pos (by lia)]
     dsimp![]
     exact⟨by decide,λl hl=>k _ l am (ag.new hl) hl⟩
    .rw[if_neg x,uV]at k;rw[if_neg (by lia)];have YI:=ok.YI
     dsimp![Gn]
     intro ra hra
     dsimp![Ft,HO.rng.injEq]
     refine⟨by lia,by lia,by lia,by lia,λll hll=>?_⟩;rw[Gg];have s1:=(ag.new (o:=HO.rng ((i0:Int)+1) ((j0:Int)+1)) hra).trans (ag.new (o:=HO.lst (vN (da i0 j0))) hll);generalize hH1:upd (upd H ra (.rng ((i0:Int)+1) ((j0:Int)+1))) ll (.lst (vN (da i0 j0)))=H1 at s1;have l1:H1 ll=some (.lst (vN (da i0 j0))):=by rw[<-hH1,am]
     have bnd:(da i0 j0).Nodup:=by rw[pd];exact List.nodup_range'
     have bln:∀l:List Nat,l.Sublist (da i0 j0)->l.length<=40:=λl hl=>by
      have:=hl.length_le;rw[zR]at this
      lia
     dsimp![]
     refine⟨h,dx,le,lp,dm,ll,s,n,i0,da i0 j0,rfl,g.same s1,ok,by lia,l1,Ai hj,bnd,bln _ (B3 _),λH2 lb hb s2 _=>?_⟩;refine⟨SH s H h n i0 j0,⟨_,⟨da i0 j0,ll,lb,j0-i0+1,rfl,rfl,s2 _ _ l1,hb,B3 _,by rw[zR];lia,rfl⟩,s1.trans s2⟩,?_⟩;rintro m σ H3 ⟨⟨l,la,lb,fu,rfl,rfl,a1,a2,a3,a4,a5⟩,s3⟩;have k3:=u_ s (ax n) i0 l [];have k4:(eV s (ax n) i0 [] l).Sublist l:=k3
     dsimp![HW]
     refine⟨_,K6 a2,_,K6 a1,HR _,HR _,?_⟩;rw[WS];obtain⟨Z',rfl⟩:∃Z',fu=Z'+1:=⟨fu-1,by lia⟩;have e5:ph s (ax n) i0 (Z'+1) l=if(eV s (ax n) i0 [] l).length=l.length then l else ph s (ax n) i0 Z' (eV s (ax n) i0 [] l):=rfl;rw[e5]at a5;by_cases y:eV s (ax n) i0 [] l=l
     .rw[if_neg (by simpa using y)];rw[if_pos (Fo.mpr y)]at a5;rw[a5]at k;have anQ:=bln l a3
      dsimp![]
      refine⟨_,ay.of a1,by decide,λl1 hl=>?_⟩;have n1:la≠l1:=aG a1 hl
      dsimp![kO,aj n1,a1]
      refine⟨by rw[bW,bC];lia,λl2 Y6=>?_⟩;have s4:=s3.trans (ag.new (o:=HO.lst [V.int ((vN l).length:Int)]) hl);refine k _ l2 ?_ (s4.trans (ag.new Y6)) (s4.free Y6);rw[am,bW]
     .rw[if_pos (by simpa using y)];have yl:¬(eV s (ax n) i0 [] l).length=l.length:=λe=>y (Fo.mp e);rw[if_neg yl]at a5;have yle:=k4.length_le;refine⟨λYD H'=>∃m',m'<l.length/\SH s H h n i0 j0 m' YD H',λYD H' hw=>hw,?_⟩
      dsimp![]
      refine⟨h,dx,le,lp,dm,lb,s,n,i0,eV s (ax n) i0 [] l,rfl,g.same s3,ok,by lia,a2,λa ha=>Ai hj a ((k4.trans a3).subset ha),(k4.trans a3).nodup bnd,bln _ (k4.trans a3),λH4 lc hc s4 _=>?_⟩;exact⟨_,by lia,⟨_,lb,lc,Z',rfl,rfl,s4 _ _ a2,hc,k4.trans a3,by lia,a5⟩,s3.trans s4⟩
  .rw[lS c]at k;have ef:frf s n p q= -10:=by unfold frf;rw[if_neg c]
   rw[ef,if_pos (by decide)]
   dsimp![]
   exact⟨by decide,λl hl=>k _ l am (ag.new hl) hl⟩
end
end
section
open PySem PySem.Spec PyProof.Rows
section
variable{prog:ba}{w:aQ}{A:bh}{E:ac->ai->Prop}{s:ai}
theorem Nt.mono:∀{n m:Nat}{d:dP},n<=m->Nt n d->Nt m d:=by
 intro n;induction n with
 |zero=>intro m d _ h;obtain⟨i,rfl⟩:=h;exact Nt.int
 |succ n ih=>
  intro m d hm h;obtain⟨m,rfl⟩:∃j,m=j+1:=⟨m-1,by lia⟩;rcases h with⟨i,rfl⟩|⟨ds,rfl,h⟩
  .exact Nt.int
  .exact .inr ⟨ds,rfl,λx hx=>ih (by lia) (h x hx)⟩
def kdOf(prog:ba)(w:aQ){K:Type}[DecidableEq K](U:K->ac->Prop)(ZW:K->dP)(hn:∀k,Nt 2 (ZW k))(ht:∀k,∃ds,ZW k= .tuple ds)(he:∀a b,ib (ZW a) (ZW b)=decide (a=b))(hl:∀k,mY (ZW k)=true)(hd:∀k,(ZW k).depth<=8):KD prog w K where
 is h k v:=U k v/\∃as,ir h v (ZW k) as
 hash k:=kh 2 (ZW k)
 room A:=A.units+16<fb
 scan:=false
 scan_is:=λ{h k v}⟨_,as,r⟩=>by obtain⟨ds,e⟩:=ht k;rw[e]at r;cases r;rfl
 ref:=λ{h k v}_⟨_,as,r⟩=>by obtain⟨ds,e⟩:=ht k;rw[e]at r;cases r;exact⟨_,rfl⟩
 st:=λ{h h' k v}⟨u,as,r⟩kk=>⟨u,EG kk 2 _ _ _ (hn k) r⟩
 eqB:=λ_{A E s a b u v Q}hr⟨_,as,r1⟩⟨_,bs,r2⟩q=>SeqAt.eqBoolOverData prog w A E s u v _ _ as bs Q r1 r2 (hl a) (hl b) (by have:=hd a;lia) (by rw[he];exact q)
 byV:=λ{A E s k v Q}⟨_,as,r⟩q=>VR 2 _ _ as (by lia) (hn k) r q
 seen:=λ_{A E s k v vs Q}⟨_,as,r⟩hv q=>US (Nt.mono (by lia) (hn k)) r (λy hy=>by
  obtain⟨k',_,ZX,r'⟩:=hv y hy;exact⟨_,ZX,Nt.mono (by lia) (hn k'),r'⟩) q
section
variable{K:Type}[DecidableEq K]{U:K->ac->Prop}{ZW:K->dP}{hn:∀k,Nt 2 (ZW k)}{ht:∀k,∃ds,ZW k= .tuple ds}{he:∀a b,ib (ZW a) (ZW b)=decide (a=b)}{hl:∀k,mY (ZW k)=true}{hd:∀k,(ZW k).depth<=8}
theorem Ip:my (kdOf prog w U ZW hn ht he hl hd):=λhr S L hx YI q1 q2=>Wm rfl hr S L hx YI q1 q2
theorem RQ:Aj (kdOf prog w U ZW hn ht he hl hd):=λ{A E s k v Q}hr⟨_,as,r⟩q=>by have hr:A.units+16<fb:=hr;exact wpAny_with_toks (aT s.toks) (UT 2 _ v as (by lia) (hn k) r λtk htk=>q tk htk)
end
def mh(prog:ba)(w:aQ):KD prog w Int where
 is h k v:=∃t,v= .int k t
 hash:=sG
 room _:=True
 scan:=true
 scan_is:=λ{h k v}⟨t,e⟩=>by rw[e];rfl
 ref:=λ{h k v}z=>by cases z
 st:=λ{h h' k v}z _=>z
 eqB:=λz=>by cases z
 byV:=λ{A E s k v Q}⟨t,e⟩q=>by rw[e,wJ 8 rfl];exact aw q
 seen:=λz=>by cases z
theorem GY:my (mh prog w):=λ{A E s a es ep t ks k x Q}hr S L hx YI q1 q2=>Wl (Yz:=mh prog w) (kk:=vG prog w) rfl (λh k v=>⟨λz=>by obtain⟨t,e⟩:=z;subst e;exact⟨intKind_is _ _ _ _,rfl,rfl⟩,λz=>MI z.1⟩) (λk=>rfl) S L hx YI q1 q2
theorem set_dict{d:aa}{o:Obj}{es:Array ig}{ep:Nat}{ns:List Int}{Q:ac->ai->Prop}(ho:s.heap.get? d=some o)(hex:o.cls= .type "dict")(aaF:o.data= .dict es ep)(hsm:(d==ia)=false)(hb:es.size<=400)(YG:ns.length=es.size)(hnd:ns.Nodup)
  (ZD:∀(j:Nat)(e:ig)(k:Int),es[j]? =some e->ns[j]? =some k->e.hash=sG k/\∃t,e.key= .int k t)
  (h:∀(h':aM)(ks:List Int),gS s.heap h'->bN (mh prog w) h' s.heap.objs.size ks->(∀j,j∈ks↔j∈ns)->Q (.ref s.heap.objs.size) {s with heap:=h'}):
  aq (aB prog w) A (call (.type "set") [.ref d]) Q E s:=by
 refine ze ?_;have o1:gS s.heap (s.heap.push {cls:= .type "set",dict:=none,data:= .set #[] 0 (.fresh 0 0 (!bt w))}):=rZ _;have S0:bN (mh prog w) (s.heap.push {cls:= .type "set",dict:=none,data:= .set #[] 0 (.fresh 0 0 (!bt w))}) s.heap.objs.size []:=yz (cZ _ rfl);generalize s.heap.push {cls:= .type "set",dict:=none,data:= .set #[] 0 (.fresh 0 0 (!bt w))}=h1 at o1 S0;have hdS:d<s.heap.objs.size:=bK ho;have ho1:=o1 d _ hdS ho;have hT:xE {s with heap:=h1} (.ref d) "dict":=⟨_,ho1,hex⟩;unfold tJ A5;refine ah ?_;show aq _ _ (nD (.ref d) (.type "set") >>= _) _ _ _;refine ah (jr (b:=false) hT (by rw[rb];kernel_rfl) ?_);show aq _ _ (nD (.ref d) (.type "frozenset")) _ _ _;refine jr (b:=false) hT (by rw[rb];kernel_rfl) ?_;simp only[bO,↓reduceIte];refine ah (rD hT ?_);simp only[beq_self_eq_true,↓reduceIte];refine ah (yj ?_);refine ah (aw ?_);rw[hsm];simp only[bO,↓reduceIte];refine ah (t_ (s:={s with heap:=h1}) ho1 aaF ?_);refine ah (qT (s:={s with heap:=h1}) ho1 aaF ?_);have nd:d≠s.heap.objs.size:=cx hdS;refine ah (S0.room (s:={s with heap:=h1}) (n:=es.size) (by simp;lia) λh2 YL _ _ _ Zc S2 p2 _ _ _ _=>?_);have e2:YL=[]:=p2.eq_nil;subst e2;have dk:∀h',cW s.heap.objs.size h1 h'->h'.get? d=some o:=λh' sb=>by rw[sb.2 d nd];exact ho1
 refine ah (qT (s:={s with heap:=h2}) (dk h2 Zc) aaF ?_);refine ah ?_;rw[W9];simp only[Xk,OY,wP,Nat.div_one];refine o4 _ (λYU(_:PUnit)s'=>∃h' n YC,s'={s with heap:=h'}/\cW s.heap.objs.size h1 h'/\bN (mh prog w) h' s.heap.objs.size YC/\YU=rO n (es.size-n)/\n<=es.size/\YC.length<=n/\∀j,j∈YC↔j∈ns.take n) _ ?_ ?_ _ _ ⟨h2,0,[],rfl,Zc,S2,by simp,dJ _,aT _,λj=>by simp⟩
 .rintro i YU u s' ⟨h3,n,ks3,rfl,ZJ,S3,Zl,hn,ajL,Y1⟩;have Y0:es.size-n≠0:=λz=>by rw[z]at Zl;cases Zl
  have Zu:n<es.size:=by lia
  rw[show es.size-n=(es.size-(n+1))+1 by lia,Nh]at Zl;injection Zl with e1 e2;subst e1 e2;refine ah (qT (s:={s with heap:=h3}) (dk h3 ZJ) aaF ?_);rw[dS Zu];dsimp only;have hki:ns[i]? =some ns[i]:=cR (by lia);obtain⟨q1,t,q2⟩:=ZD i _ _ (dS Zu) hki;rw[q1,q2];refine ah (gW (S3.add (s:={s with heap:=h3}) GY trivial (k:=ns[i]) ⟨t,rfl⟩ (by lia) λh4 ks4 sb4 S4 hm4 b=>?_));have afV:=ZJ.trans sb4;refine ah (t_ (s:={s with heap:=h4}) (dk h4 afV) aaF ?_);simp only[bne_self_eq_false,bO,↓reduceIte];have et:ns.take (i+1)=ns.take i++[ns[i]]:=by rw[dA,hki];rfl
  refine aw ⟨h4,i+1,ks4,rfl,afV,S4,rfl,Zu,?_,λj=>?_⟩
  .have:=sM ks4 (ks3++[ns[i]]) S4.nd λj hj=>by rw[bT,bY];exact(hm4 j).mp hj
   rw[bG]at this;simp at this
   lia
  .rw[hm4,Y1,et,bT,bY]
 .rintro u s' ⟨h3,n,ks3,rfl,ZJ,S3,Zl,hn,ajL,Y1⟩;have hnk:n=es.size:=by
   have:=congrArg fV Zl;rw[Mx,qY]at this
   lia
  refine aw (h h3 ks3 (o1.but ZJ) S3 λj=>?_);rw[Y1,hnk,<-YG,dz]
end
end
section
open PySem PySem.Spec PyProof.Rows
theorem pK:Slot "set_iterator" "__next__" "set_iterator.__next__":=
 .of (owner:="set_iterator") (n:="__next__") (by rw[typeLookup_type,LU];kernel_rfl) (by decide+kernel) (by decide+kernel) (by decide+kernel)
  (by first|exact .inl (by decide+kernel)|exact .inr (by decide+kernel)) (by rw[rb];kernel_rfl)
theorem Ed:vk table "set_iterator.__next__"=some Builtin.«set_iterator.__next__»:=entryFor_of_tree (by kernel_rfl)
theorem D_:Manifest.owners.lookup (String.ofList ['r','o','t','a','r','e','t','i','_','t','e','s'].reverse)=some Manifest.sig_set_iterator:=by kernel_rfl
theorem EZ(a:ac):vU "set_iterator.__next__" ⟨[a],[]⟩:=by unfold vU;rw[signature?_of (id:="set_iterator.__next__") (n:=['_','_','t','x','e','n','_','_']) (o:=['r','o','t','a','r','e','t','i','_','t','e','s']) (by kernel_rfl) D_];kernel_rfl
theorem OQ:vk table "set.__iter__"=some Builtin.«frozenset.__iter__»:=xw (id':="frozenset.__iter__") (by kernel_rfl) rfl (by decide+kernel) (by kernel_rfl)
theorem C1:Slot "set_iterator" "__iter__" "set_iterator.__iter__":=
 .of (owner:="set_iterator") (n:="__iter__") (by rw[typeLookup_type,LU];kernel_rfl) (by decide+kernel) (by decide+kernel) (by decide+kernel)
  (by first|exact .inl (by decide+kernel)|exact .inr (by decide+kernel)) (by rw[rb];kernel_rfl)
theorem NS:vk table "set_iterator.__iter__"=some Builtin.«dict_keyiterator.__iter__»:=xw (id':="dict_keyiterator.__iter__") (by kernel_rfl) rfl (by decide+kernel) (by kernel_rfl)
theorem Oo(a:ac):vU "set_iterator.__iter__" ⟨[a],[]⟩:=by unfold vU;rw[signature?_of (id:="set_iterator.__iter__") (n:=['_','_','r','e','t','i','_','_']) (o:=['r','o','t','a','r','e','t','i','_','t','e','s']) (by kernel_rfl) D_];kernel_rfl
def Ao(a:aa)(n ep slot i:Nat):Obj:={cls:= .type "set_iterator",data:= .fields #[.int slot 0,.int i 0,.ref a,.int n 0,.int ep 0]}
def kY(w:aQ)(a:aa)(es:Array (Int×ac))(ep:Nat):Array (Int×ac):=if bt w=true then yI (w.params.setOrder a ep) es else es
theorem yV(w:aQ)(a:aa)(es:Array (Int×ac))(ep:Nat):(kY w a es ep).toList.Perm es.toList:=by
 unfold kY;split
 .exact Fx _ _
 .exact .refl _
structure W6(w:aQ)(I a:aa)(es:Array (Int×ac))(ep:Nat)(t:cb)(i:Nat)(h:aM):Prop where
 ex:∃slot:Nat,h.get? I=some (Ao a es.size ep slot i)/\(bt w=false->uh t.place slot=i)
 set:ci h a es ep t
section
variable{prog:ba}{w:aQ}{A:bh}{E:ac->ai->Prop}{s:ai}{I a:aa}{es:Array (Int×ac)}{ep:Nat}{t:cb}
theorem ci.at{h h':aM}(S:ci h a es ep t)(k:∀o,h.get? a=some o->h'.get? a=some o):ci h' a es ep t:=by obtain⟨o,h1,h2⟩:=S.ob;exact⟨⟨o,k _ h1,h2⟩,S.ok,S.Ψ,S.plain,S.small⟩
theorem Ib(hl:t.led= !bt w)(S:ci s.heap a es ep t){slot i:Nat}(hs:bt w=false->uh t.place slot=i){Q:Option (ac×Nat)->ai->Prop}
  (q1:∀e n,(kY w a es ep)[i]? =some e->(bt w=false->uh t.place n=i+1)->Q (some (e.2,n)) s)(q2:(kY w a es ep)[i]? =none->Q none s):aq (aB prog w) A (setNext a slot i ep) Q E s:=by
 unfold setNext rQ;refine ah (S.state ?_);dsimp only;refine ah (ah (lA (aw ?_)));show aq _ _ (if bt w=true then _ else _) _ _ _;unfold kY at q1 q2;cases hb:bt w with
 |true=>
  rw[hb]at q1 q2;simp only[↓reduceIte,bne_self_eq_false,bO]at q1 q2 ⊢;unfold setWalk rQ;refine ah (ah (S.state ?_));dsimp only;refine ah (ah (lA (aw ?_)));show aq _ _ (if bt w=true then _ else _) _ _ _;rw[hb];simp only[↓reduceIte];refine ah (lA (aw (aw ?_)));show Q (Option.map _ (yI (w.params.setOrder a ep) es)[i]?) s;cases e:(yI (w.params.setOrder a ep) es)[i]? with
  |none=>exact q2 e
  |some x=>exact q1 x slot e (λz=>by cases z)
 |false=>
  rw[hb]at q1 q2 hl;simp only[bO,↓reduceIte]at q1 q2 ⊢;show aq _ _ (if(!t.plain&&es.size>1)=true then _ else _) _ _ _;rw[S.plain];simp only[fO,lF,bO,↓reduceIte];refine ah ?_;show aq _ _ (if(!t.led&& !es.isEmpty)=true then _ else _) _ _ _;rw[hl];simp only[kK,fO,lF,bO,↓reduceIte];refine aw (aw ?_);rw[hs hb];have sz:t.place.size=es.size:=by rw[S.ok.sz,fB]
  by_cases c:i<es.size
  .have c2:i<t.place.size:=by lia
   rw[dS c,dS c2];refine q1 es[i] (t.place[i]+1) (dS c) λ_=>?_;obtain⟨b1,b2,b3⟩:=sf S.ok.rise (t.place[i]+1);rcases BZ (uh t.place (t.place[i]+1)) (i+1)with z|z|z
   .have:=b3 i (by lia) c2
    lia
   .exact z
   .have h1:=b2 (i+1) z (by lia);have:=S.ok.rise i (i+1) (by lia) (by lia)
    lia
  .rw[tP (by lia)];exact q2 (tP (by lia))
theorem Rf(hh:A.handled=none)(ne:a≠I)(hl:t.led= !bt w):Walks prog w A I [I,a] [I] es.size (λi v=>∃e,(kY w a es ep)[i]? =some e/\v=e.2) (W6 w I a es ep t) where
 sub:=λb hb=>by simp at hb;simp[hb]
 frame:=λi h h' st hk=>by obtain⟨slot,h1,h2⟩:=st.ex;exact⟨⟨slot,hk I (by simp) _ h1,h2⟩,st.set.at λo e=>hk a (by simp) o e⟩
 item:=λi s Q E hi st hQ=>by
  obtain⟨slot,h1,h2⟩:=st.ex;have hT:s.TypeIs (.ref I) "set_iterator":=⟨_,h1,rfl⟩;unfold kg;refine ah (xB (wG (name:=xO "__next__") hT pK (iU pK hT Ed ?_ (EZ _))));show aq _ _ (fieldsOf (.ref I) >>= _) _ _ s;refine ah (xt h1 rfl ?_);dsimp only;unfold yk;refine ah (ah (st.set.state (aw ?_)));simp only[bne_self_eq_false,bO,↓reduceIte,c_];refine ah (Ib hl st.set h2 (λe n he hn=>?_) λhn=>?_)
  .dsimp only;refine ah (BF h1 (by simp) λh3 e3 s3=>?_);refine ah (BF (s:={s with heap:=h3}) e3 (by simp) λh4 e4 s4=>?_);have s34:=s3.trans s4;refine aw ⟨_,rfl,aw (hQ _ h4 s.toks ⟨e,he,rfl⟩ ⟨⟨n,?_,hn⟩,st.set.at λo e=>by rw[s34.2 a ne];exact e⟩ λb o hb e=>?_)⟩
   .rw[e4];simp[Ao,qp]
   .rw[s34.2 b (λz=>hb (by simp[z]))];exact e
  .have:(kY w a es ep).size=es.size:=by rw[<-bz,(yV w a es ep).length_eq,bz]
   rw[Array.getElem?_eq_none_iff]at hn
   lia
 done:=λs Q E st hQ=>by
  obtain⟨slot,h1,h2⟩:=st.ex;have hT:s.TypeIs (.ref I) "set_iterator":=⟨_,h1,rfl⟩;unfold kg;refine ah (xB (wG (name:=xO "__next__") hT pK (iU pK hT Ed ?_ (EZ _))));show aq _ _ (fieldsOf (.ref I) >>= _) _ _ s;refine ah (xt h1 rfl ?_);dsimp only;unfold yk;refine ah (ah (st.set.state (aw ?_)));simp only[bne_self_eq_false,bO,↓reduceIte,c_];refine ah (Ib hl st.set h2 (λe n he hn=>?_) λhn=>?_)
  .have:(kY w a es ep).size=es.size:=by rw[<-bz,(yV w a es ep).length_eq,bz]
   have:=(kz.mp he).1
   lia
  .dsimp only;refine ah (BF h1 (by simp) λh3 e3 s3=>?_);show aq _ _ (newExc (.type "StopIteration") [] >>= _) _ _ _;refine ah ?_;simp only[newExc,newTuple];refine ah (oZ ?_ (by size_fits));refine ah (m:=xu _ _) (Ep (a:=jy) (by first|rfl|(simp only[xu];rfl)) ?_)
   refine oZ ?_ (by size_fits);simp only[raiseNew];refine ah (wpAny_handled ?_);rw[show A.in1.handled=none from hh];refine ah (aw (wpAny_throw ?_));refine ah (jr (T:="StopIteration") (b:=true) ⟨_,cZ _ rfl,rfl⟩ isSubtype_stop ?_);refine aw (hQ _ s.toks λb o hb e=>?_);exact(s3.extBut.push _).push _ b o (λz=>hb (by simp[z])) e
 self:=λi s Q E st hQ=>by obtain⟨slot,h1,h2⟩:=st.ex;have hT:s.TypeIs (.ref I) "set_iterator":=⟨_,h1,rfl⟩;refine wV hT C1 (iU C1 hT NS ?_ (Oo _));show aq _ _ (ret (.ref I)) _ _ s;exact aw ⟨_,rfl,"set_iterator",_,hT,pK.lookup,hQ⟩
theorem Su{Q:Bool->ai->Prop}(hT:s.TypeIs (.ref a) "set")(h:Q false s):aq (aB prog w) A (Lk (.ref a)) Q E s:=by
 unfold Lk;refine ah (qW hT PySem.F.slot_set_len.lookup ?_);generalize hid:("set.__len__":String)=id0
 wp_delta
 rw[show splitId id0=some ("set","__len__")from by subst hid;decide+kernel];subst hid;refine ah (jr (T:="set") (b:=true) hT (by rw[rb];kernel_rfl) ?_);refine Cz (λZe=>absurd Ze (by decide)) (λ_=>?_);refine Cz (λ_=>?_) (λZe=>absurd (by decide+kernel) Ze);refine ah (rD hT ?_);exact aw h
theorem ci.typeIs(S:ci s.heap a es ep t):s.TypeIs (.ref a) "set":=by obtain⟨o,h1,h2,_⟩:=S.ob;exact⟨o,h1,h2.1⟩
theorem ci.lt{h:aM}(S:ci h a es ep t):a<h.objs.size:=by obtain⟨o,h1,_⟩:=S.ob;exact bK h1
theorem Ss(S:ci s.heap a es ep t){Q:ac->ai->Prop}(q:Q (.ref s.heap.objs.size) {s with heap:=s.heap.push (Ao a es.size ep 0 0)}):aq (aB prog w) A (qr (.ref a)) Q E s:=by
 refine wV S.typeIs LW (iU LW S.typeIs OQ ?_ (PySem.F.args_set_iter_1 _));show aq _ _ (LF a >>= _) _ _ s;unfold LF yk;refine ah (ah (ah (S.state (aw (aw ?_)))));unfold setDrawn rQ;refine ah (ah (S.state ?_));dsimp only;refine ah (ah (lA (aw (aw ?_))));have e:(!w.params.followText "set-order"&&(!t.plain&&es.size>1))=false:=by rw[S.plain];simp
 show aq _ _ (if(!w.params.followText "set-order"&&(!t.plain&&decide (es.size>1)))=true then _ else _) _ _ _;rw[if_neg (by rw[e];exact dF)];refine ah (aw ?_);unfold lP;refine ah (ah (S.state (aw ?_)));refine ah (oZ (aw ⟨_,rfl,"set_iterator",_,⟨_,cZ _ rfl,rfl⟩,pK.lookup,?_⟩));exact q
theorem Q_{xs:Array Nat}(hr:ji xs):uh xs 0=0:=by
 obtain⟨b1,b2,_⟩:=sf hr 0;refine tK λc=>?_;have:=b2 0 (by lia) (by lia)
 lia
theorem U3(hl:t.led= !bt w):PySem.W.KdlSrc prog w "set" a a es.size (λi v=>∃e,(kY w a es ep)[i]? =some e/\v=e.2) (λh=>ci h a es ep t) where
 type:=λ_ S=>S.typeIs
 there:=λ_ S=>⟨S.lt,S.lt⟩
 keep:=λ_ _ S hk=>S.at λo e=>hk a (.inl rfl) o e
 notList:=by decide
 notTuple:=by decide
 hint:=λ_ _ _ _ S hq=>Su S.typeIs hq
 iter:=λA s hh S=>⟨_,_,(λ_ _ hq=>Ss S hq),Rf hh (cx S.lt) hl,⟨⟨0,cZ _ rfl,λ_=>Q_ S.ok.rise⟩,S.at λo e=>cS _ e⟩⟩
end
end
section
def dW(k:cG):dP:= .tuple [.int (k.kind:Int),.int (k.const:Int),.int (k.start:Int),.tuple ((iN k.values).map nG)]
theorem WK(k:cG):Nt 2 (dW k):= .inr ⟨_,rfl,λx hx=>by
 simp only[aV,gG,or_false]at hx;rcases hx with rfl|rfl|rfl|rfl
 .exact Nt.int
 .exact Nt.int
 .exact Nt.int
 .exact .inr ⟨_,rfl,λy hy=>by obtain⟨i,_,rfl⟩:=aK.mp hy;exact Nt.int⟩⟩
theorem WC{a b:List Nat}:iN a=iN b↔a=b:=wS λx y z=>by lia
theorem Wd(a b:cG):ib (dW a) (dW b)=decide (a=b):=by have:=vf (iN a.values) (iN b.values);obtain⟨a1,a2,a3,a4⟩:=a;obtain⟨b1,b2,b3,b4⟩:=b;rw[fh];simp[dW,ib,ni,this,WC];constructor<;>rintro⟨h1,h2,h3,h4⟩<;>exact⟨by lia,by lia,by lia,h4⟩
theorem Wc(k:cG):mY (dW k)=true:=by obtain⟨h1,h2⟩:=r6 (iN k.values);simp[dW,mY,qU,h1]
theorem Tq(k:cG):(dW k).depth<=8:=by obtain⟨h1,h2⟩:=r6 (iN k.values);simp[dW,ut,qX,h2]
abbrev kW(P:ba)(w:aQ)(U:cG->ac->Prop):KD P w cG:=kdOf P w U dW WK (λ_=>⟨_,rfl⟩) Wd Wc Tq
def WY(w:aQ)(a:aa)(el:List (Int×ac))(h:aM):Prop:=∃ep t,ci h a el.toArray ep t/\t.led= !bt w
def dj(w:aQ)(a:aa)(el:List (Int×ac)):HO:= .ext (WY w a el)
def qC(a:aa)(n:Nat):HO:= .ext λh=>tI h a n
theorem zv{P:ba}{w:aQ}{H:Hp}{h:aM}{a:aa}{es:Array (Int×ac)}{ep:Nat}{t:cb}(S:ci h a es ep t)(hl:t.led= !bt w):di P w H h a (dj w a es.toList):=by obtain⟨o,h1,_⟩:=S.ob;exact⟨⟨ep,t,by rw[Br];exact S,hl⟩,⟨o,h1⟩,λ_ _⟨ep,t,S,l⟩k=>⟨ep,t,S.at k,l⟩⟩
theorem Vg{P:ba}{w:aQ}{H:Hp}{h:aM}{a:aa}{n:Nat}(S:tI h a n):di P w H h a (qC a n):=by obtain⟨o,es,ep,t,h1,h2⟩:=S.ex;exact⟨⟨o,es,ep,t,h1,h2⟩,⟨o,h1⟩,λ_ _⟨o,es,ep,t,g1,g2⟩k=>⟨o,es,ep,t,k _ g1,g2⟩⟩
def kx(H:Hp)(e:Int×ac)(k:cG):Prop:=e.1=kh 2 (dW k)/\∃b,e.2= .ref b/\dQ H b k
def jn(e:Int×ac)(k:Int):Prop:=e.1=sG k/\∃t,e.2= .int k t
theorem ye{α β:Type}{F:α->β->Prop}:∀{l:List α}{r:List β},l.length=r.length->(∀(i:Nat)(a:α)(b:β),l[i]? =some a->r[i]? =some b->F a b)->aY F l r
 |[],[],_,_=> .nil
 |[],_::_,h,_=>by simp at h
 |_::_,[],h,_=>by simp at h
 |a::l,b::r,h,k=> .cons (k 0 a b rfl rfl) (ye (by simpa using h) λi x y e1 e2=>k (i+1) x y e1 e2)
theorem JJ{P:ba}{w:aQ}{K:Type}[DecidableEq K]{Yz:KD P w K}{h:aM}{el:List (Int×ac)}{ks:List K}(p:aY (λe k=>e.1=Yz.hash k/\Yz.is h k e.2) el ks):cB Yz h el.toArray ks:=by refine⟨by rw[b6,dH p],λi e k hi hk=>?_⟩;rw[L5]at hi;obtain⟨k',e1,e2⟩:=h_ p hi;rw[hk]at e1;cases e1;exact e2
section
variable{X:Cx}{Yw:List (aa×Obj)}{σ:L2.St}{H:Hp}{s:ai}
theorem FW(I:L2.Inv X Yw σ H s){b:aa}{k:cG}(h:dQ H b k):∃as,ir s.heap (.ref b) (dW k) as:=by obtain⟨t,h1,h2⟩:=h.ex;rw[<-iq]at h2;exact Dp.reads I (dW k) (.ref b) (.ref b) (.tup (a9.of h1) (.cons (.int _) (.cons (.int _) (.cons (.int _) (.cons (.tup (a9.of h2) (uK _)) .nil))))) rfl
theorem IS(I:L2.Inv X Yw σ H s){el:List (Int×ac)}{ks:List cG}(p:aY (kx H) el ks):cB (kW X.prog X.w λ_ _=>True) s.heap el.toArray ks:=JJ (aY.mapP p λe k z=>by
 obtain⟨e1,b,e2,e3⟩:=z;exact⟨e1,trivial,by rw[e2];exact FW I e3⟩)
def J8(w:aQ)(K:aA):List V->Hp->VK->Prop:=λvs H Q=>∃(a:aa)(ws:List aa)(ks:List cG),vs=[V.ref a]/\ay K H a (ws.map V.ref)/\aY (dQ H) ws ks/\ks.length<=500/\
 ∀(el:List (Int×ac))(YC:List cG)(p:aa),aY (kx H) el YC->YC.Nodup->(∀k,k∈YC↔k∈ks)->H p=none->Q (.ref p) (upd H p (dj w p el))
theorem zO(hc:X.calm=true)(hu:X.A.units+64<fb):dh X (.type "set") (J8 X.w X.K):=by
 intro Yw s σ H vs us Q I r h;obtain⟨a,ws,ks,rfl,hl,hp,hz,q⟩:=h;rw[aR.ref1 r];obtain⟨YA,rv,⟨o,n,ho,Zb,_,hd⟩,_⟩:=I.list hl;have YG:ks.length=YA.toArray.size:=by rw[b6,<-rv.length,aE,dH hp]
 refine Sq (Yz:=kW X.prog X.w λk v=>∃b,v= .ref b/\dQ H b k) (ks0:=ks) Ip RQ (by show X.A.units+1+1+1+16<fb;lia) (I.ok.hd hc) ⟨o,ho,Zb,n,hd⟩ (by lia) YG (λj v k e1 e2=>?_) λh' tk YC ol S' mem=>?_
 .rw[L5]at e1;obtain⟨b,b1,b2⟩:=uz hp e2;have:(ws.map V.ref)[j]? =some (.ref b):=by rw[cq,b1];rfl
  obtain⟨u,u1,u2⟩:=h_ rv this;rw[e1]at u1;cases u1;have u2:v= .ref b:=u2;rw[u2];exact⟨⟨b,rfl,b2⟩,FW I b2⟩
 .obtain⟨es,ep,t,T,L,hl⟩:=S'.ex;exact⟨.ref s.heap.objs.size,_,I.laid (t':=tk) (o:=dj X.w s.heap.objs.size es.toList) (λb o e=>ol b o (bK e) e) (aT _) (zv T hl),rfl,q es.toList YC _ (ye (by rw[bz,L.1]) λi e k e1 e2=>by
   obtain⟨l1,l2,_⟩:=L.2 i e k (by rw[<-fw];exact e1) e2;exact⟨l1,l2⟩) S'.nd mem (I.YB.fresh (aT _))⟩
def Wx(w:aQ):List V->Hp->VK->Prop:=λvs H Q=>∃a n,vs=[V.ref a]/\((∃el,H a=some (dj w a el)/\n=el.length)\/H a=some (qC a n))/\n<=1000/\Q (.int (n:Nat)) H
theorem IM:dh X (.builtin "len") (Wx X.w):=by
 intro Yw s σ H vs us Q I r h;obtain⟨a,n,rfl,h,hn,q⟩:=h;rw[aR.ref1 r];have:tI s.heap a n:=by
  rcases h with⟨el,h,e⟩|h
  .obtain⟨⟨ep,t,S,_⟩,_⟩:=I.YB a _ h;obtain⟨o,h1,h2,h3⟩:=S.ob;exact⟨o,_,ep,t,h1,h2,h3,S.fit,by rw[b6,e]⟩
  .exact(I.YB a _ h).1
 obtain⟨o,es,ep,t,h1,h2,h3,h4,h5⟩:=this.ex;subst h5;exact call_len_set h1 h2 h3 h4 (by lia) ⟨.int es.size,H,I.tok _,⟨_,rfl⟩,q⟩
def J7(w:aQ):R2:=λx y H Q=>∃(a b:aa)(el Χ:List (Int×ac))(ks YC:List cG),x= .ref a/\y= .ref b/\a≠b/\H a=some (dj w a el)/\H b=some (dj w b Χ)/\aY (kx H) el ks/\aY (kx H) Χ YC/\ks.Nodup/\YC.Nodup/\ks.length<=12/\YC.length<=12/\
 ∀p,H p=none->Q (.ref p) (upd H p (qC p (ks.filter λk=> !YC.contains k).length))
theorem UN(hu:X.A.units+64<fb):du X (jZ .Sub) (J7 X.w):=by intro Yw s σ H x y v u Q I rx ry h;obtain⟨a,b,el,Χ,ks,YC,rfl,rfl,ne,h1,h2,p1,p2,n1,n2,l1,l2,q⟩:=h;cases rx;cases ry;obtain⟨⟨ep,t,S,hl⟩,_⟩:=I.YB a _ h1;obtain⟨⟨Y2,t',S',Z9⟩,_⟩:=I.YB b _ h2;refine Wa (Yz:=kW X.prog X.w λ_ _=>True) Ip rfl (by show X.A.units+1+16<fb;lia) ⟨⟨_,ep,t,S,IS I p1,hl⟩,n1⟩ ⟨⟨_,Y2,t',S',IS I p2,Z9⟩,n2⟩ ne l1 l2 λh' ol c=>?_;exact⟨.ref s.heap.objs.size,_,I.laid (t':=s.toks) (o:=qC s.heap.objs.size _) (λb o e=>ol b o (bK e) e) (aT _) (Vg c),rfl,q _ (I.YB.fresh (aT _))⟩
theorem zJ{el:List (Int×ac)}{ks:List Int}{h:aM}(p:aY jn el ks):cB (mh X.prog X.w) h el.toArray ks:=JJ (aY.mapP p λe k z=>z)
theorem IA{es:Array (Int×ac)}{ks:List Int}{h:aM}(L:cB (mh X.prog X.w) h es ks):aY jn es.toList ks:=ye (by rw[bz,L.1]) λi e k e1 e2=>L.2 i e k (by rw[<-fw];exact e1) e2
theorem FC{P:ba}{w:aQ}{K:Type}[DecidableEq K]{Yz:KeyKind P w K}:∀{es:List ig}{Yy:List (K×ac)}{j:Nat}{e:ig},Pairs Yz es Yy->es[j]? =some e->∃kv,Yy[j]? =some kv/\Yz.is kv.1 e.key=true
 |_,_,_,_,.nil,h=>by cases h
 |_,_,0,_,.cons h1 _ _,h=>by cases h;exact⟨_,rfl,h1⟩
 |_,_,j+1,_,.cons _ _ r,h=>by obtain⟨kv,a,b⟩:=FC (j:=j) r h;exact⟨kv,a,b⟩
def J_(w:aQ):List V->Hp->VK->Prop:=λvs H Q=>∃(a:aa)(Yy:List (aJ×V))(ns:List Int),vs=[V.ref a]/\H a=some (.dK Yy)/\Yy.map (·.1)=ns.map bQ/\ns.Nodup/\ns.length<=400/\
 ∀(el:List (Int×ac))(ks:List Int)(p:aa),aY jn el ks->ks.Nodup->(∀k,k∈ks↔k∈ns)->H p=none->Q (.ref p) (upd H p (dj w p el))
theorem IJ:dh X (.type "set") (J_ X.w):=by
 intro Yw s σ H vs us Q I r h;obtain⟨a,Yy,ns,rfl,hd,hk,nd,hz,q⟩:=h;rw[aR.ref1 r];obtain⟨_,lo,vl,rel,dd⟩:=jd I.YB (.inl hd);obtain⟨o,es,ep,h1,h2,h3,h4,h5,h6⟩:=dd;have YG:Yy.length=vl.length:=rel.length;have hln:Yy.length=ns.length:=by have:=congrArg fV hk;rw[aE,aE]at this;exact this
 have hes:es.size=vl.length:=by rw[<-h5.length];simp
 have at_:∀(j:Nat)(e:ig)(k:Int),es[j]? =some e->ns[j]? =some k->e.hash=sG k/\∃t,e.key= .int k t:=λj e k e1 e2=>by
  rw[<-fw]at e1;obtain⟨kv,v1,v2⟩:=FC h5 e1;obtain⟨kv',w1,w2,_⟩:=uz rel v1;have h1:(Yy.map (·.1))[j]? =some kv'.1:=by rw[cq,w1];rfl
  rw[hk,cq,e2]at h1;have h1:bQ k=kv'.1:=gk h1;have e3:kv.1= .inl k:=w2.symm.trans h1.symm;rw[e3]at v2;obtain⟨k2,g1,g2⟩:=h4 e (lx.mp (cU e1));rw[(dN X.prog X.w).inj _ _ _ g1 v2]at g2;exact⟨g2,(show∃t,e.key=i8 k t from rY (k:=bQ k) v2)⟩
 refine set_dict (ns:=ns) h1 h2.1 h3 lo (by lia) (by lia) nd at_ λh' ks ol S mem=>?_;obtain⟨YH,Y2,t,T,L,hl⟩:=S.ex;exact⟨.ref s.heap.objs.size,_,I.laid (t':=s.toks) (o:=dj X.w s.heap.objs.size YH.toList) (λb o e=>ol b o (bK e) e) (aT _) (zv T hl),rfl,q _ ks _ (IA L) S.nd mem (I.YB.fresh (aT _))⟩
def KE(w:aQ):R2:=λx y H Q=>∃(a b:aa)(el Χ:List (Int×ac))(ks YC:List Int),x= .ref a/\y= .ref b/\a≠b/\H a=some (dj w a el)/\H b=some (dj w b Χ)/\aY jn el ks/\aY jn Χ YC/\ks.Nodup/\YC.Nodup/\ks.length+YC.length<=400/\
 ∀(π:List (Int×ac))(YL:List Int)(p:aa),aY jn π YL->YL.Nodup->(∀k,k∈YL↔k∈ks\/k∈YC)->H p=none->Q (.ref p) (upd H p (dj w p π))
theorem VQ:du X (jZ .BitOr) (KE X.w):=by intro Yw s σ H x y v u Q I rx ry h;obtain⟨a,b,el,Χ,ks,YC,rfl,rfl,ne,h1,h2,p1,p2,n1,n2,l1,q⟩:=h;cases rx;cases ry;obtain⟨⟨ep,t,S,hl⟩,_⟩:=I.YB a _ h1;obtain⟨⟨Y2,t',S',Z9⟩,_⟩:=I.YB b _ h2;refine TJ (Yz:=mh X.prog X.w) GY trivial ⟨⟨_,ep,t,S,zJ p1,hl⟩,n1⟩ ⟨⟨_,Y2,t',S',zJ p2,Z9⟩,n2⟩ ne (by lia) λh' YL ol S2 mem=>?_;obtain⟨Zi,ep2,t2,T2,Lq,Y6⟩:=S2.ex;exact⟨.ref s.heap.objs.size,_,I.laid (t':=s.toks) (o:=dj X.w s.heap.objs.size Zi.toList) (λb o e=>ol b o (bK e) e) (aT _) (zv T2 Y6),rfl,q _ YL _ (IA Lq) S2.nd mem (I.YB.fresh (aT _))⟩
def Gh(w:aQ):List V->Hp->VK->Prop:=λvs H Q=>∃(a:aa)(el:List (Int×ac))(ks:List Int),vs=[V.ref a]/\H a=some (dj w a el)/\aY jn el ks/\ks.length<64/\
 ∀(YM:List Int)(p:aa),YM.Perm ks->YM.Pairwise (·<=·)->H p=none->Q (.ref p) (upd H p (.lst (YM.map V.int)))
theorem Q7(hc:X.calm=true):dh X (.builtin "sorted") (Gh X.w):=by
 intro Yw s σ H vs us Q I r h;obtain⟨a,el,ks,rfl,h1,p1,h64,q⟩:=h;rw[aR.ref1 r];obtain⟨⟨ep,t,S,hl⟩,_⟩:=I.YB a _ h1;have Y4:el.length=ks.length:=dH p1;refine Lx kind_sorted plain_sorted entry_sorted (args_sorted1 _) ?_;unfold Builtin.«sorted»;refine ah (m:=checkCount "sorted" 1 1 _) (aw ?_);refine ah (Mn (A:=X.A.in1) (U3 (ep:=ep) hl) (I.ok.hd hc) S (by rw[b6,bC];lia) λh' tk acc hkp aa4=>?_);obtain⟨YL,Lq,p2⟩:=(zJ (X:=X) (h:=s.heap) p1).perm (yV X.w a el.toArray ep);have YV:acc.toList.length=YL.length:=by rw[bz,aa4.1,b6,Y4,p2.length_eq]
 have hI:ka acc.toList YL:=uS YV λj u hu=>by
  obtain⟨e,e1,e2⟩:=aa4.2 j u (by rw[<-fw];exact hu);have hj:j<YL.length:=by rw[<-YV];exact(gE.mp hu).1
  obtain⟨_,tt,l2⟩:=Lq.2 j e YL[j] e1 (cR hj);exact⟨YL[j],tt,cR hj,by rw[e2];exact l2⟩
 refine ah (wpAny_newList ?_ (by rw[YV,p2.length_eq,bC];lia));have hoL:(h'.push (qo "list" acc.toList.toArray 0)).get? h'.objs.size=some (qo "list" acc.toList.toArray 0):=cZ _ rfl;refine ah (gW (iU slot_list_sort ⟨_,hoL,rfl⟩ entry_list_sort (list_sort_tree hoL hI (by rw[YV,p2.length_eq];lia) λout YM a1 a2 a3=>⟨_,rfl,?_⟩) (args_list_sort _)));refine aw ⟨_,rfl,?_⟩;obtain⟨Y2,he'⟩:=sortedHeap_at (vs:=acc.toList) (out:=out) hoL;have I1:L2.Inv X Yw σ H {s with heap:=h',toks:=tk}:=I.kept hkp;have Zu:(YM.map V.int).length<=aU:=by rw[aE,a2.length_eq,p2.length_eq];exact zt h64
 refine⟨.ref h'.objs.size,upd H h'.objs.size (.lst (YM.map V.int)),I1.laid (t':=tk) (λb o e=>?_) (aT _) ⟨Zu,out.toList,Y2,rC a1,he'⟩,rfl,q YM _ (a2.trans p2) a3 (I1.YB.fresh (aT _))⟩;have e3:=cS (qo "list" acc.toList.toArray 0) e;rw[sortedHeap_old (cx (bK e)) (bK e3)];exact e3
end
end
section
theorem vA{α:Type}[BEq α][LawfulBEq α]:∀(n:Nat)(l:List α),l.length<=n->l.eraseDups.Nodup
 |_,[],_=>by simp
 |0,_::_,h=>by simp at h
 |n+1,a::l,h=>by
  rw[List.eraseDups_cons,fT];refine⟨λz=>?_,vA n _ ?_⟩
  .have:=(bM.mp (wR.mp z)).2;simp at this
  .have:=gg (λb=> !b==a) l;rw[cC]at h
   lia
theorem Hj{α:Type}[DecidableEq α]{ks l:List α}(nd:ks.Nodup)(h:∀k,k∈ks↔k∈l):ks.length=l.eraseDups.length:=
 By ((mH nd (vA _ l (aT _))).mpr λk=>by rw[h,wR])
theorem Wo{s:ao}(w:Wf s):iD s=(iu s (ord s)).eraseDups:=by unfold iD;rw[O2 w,yg];rfl
theorem vO{s:ao}(w:Wf s){k:cG}:k∈iD s↔k∈iu s (ord s):=by rw[Wo w,wR]
theorem Wp(s:ao):(iD s).Nodup:=vA _ _ (aT _)
theorem FV{s:ao}(w:Wf s):(iu s (ord s)).length<=12:=by
 have h1:=ic (ord s) (bJ s) (iI w).1.nd λn hn=>((iI w).2 n).mp hn;have h2:=vD w;unfold iu;refine cV (wE _ _) (cV (wE _ _) ?_)
 lia
def oK(s:aP)(p:Nat):Nat->Nat
 |0=>(iD (bj s p)).length
 |i+1=>((iD (bj s (p+1+i))).filter λk=> !(iD (bj s (p+i))).contains k).length
def Kf(s:aP)(p:Nat):Nat->List cG
 |0=>[]
 |i+1=>iD (bj s (p+i))
theorem Vf(s:aP)(p i:Nat):oK s p i=((iD (bj s (p+i))).filter λk=> !(Kf s p i).contains k).length:=by
 cases i with
 |zero=>show(iD (bj s p)).length=((iD (bj s p)).filter λk=> !([]:List cG).contains k).length;exact congrArg fV (oW.mpr λk _=>rfl).symm
 |succ i=>show((iD (bj s (p+1+i))).filter _).length=_;rw[show p+1+i=p+(i+1)by lia];rfl
theorem Us(s:aP)(p q:Nat):CU s p q=((cI (q-p+1)).map (oK s p)).sum:=by unfold CU da;rw[Be,bb,xF,bH,bH];congr 2;refine fS λi _=>?_;show((iD (bj s (p+1+i))).filter λk=> !(iD (bj s (p+1+i-1))).contains k).length=oK s p (i+1);rw[show p+1+i-1=p+i by lia];rfl
theorem Vk{s:aP}(ok:cw s)(p q:Nat):wN s p q=((cI (q+1-p)).flatMap λi=>iu (bj s (p+i)) (ord (bj s (p+i)))).eraseDups.length:=by
 unfold wN;refine Hj (vA _ _ (aT _)) λk=>?_;rw[wR,w_,w_];constructor
 .rintro⟨i,hi,hk⟩;exact⟨i,hi,(vO (dM ok.ed _)).mp hk⟩
 .rintro⟨i,hi,hk⟩;exact⟨i,hi,(vO (dM ok.ed _)).mpr hk⟩
theorem yS{w:aQ}{K:aA}{vs:List V}{H:Hp}{Q:VK}:J8 w K vs H Q=∃(a:aa)(ws:List aa)(ks:List cG),vs=[V.ref a]/\ay K H a (ws.map V.ref)/\aY (dQ H) ws ks/\ks.length<=500/\
 ∀(el:List (Int×ac))(YC:List cG)(p:aa),aY (kx H) el YC->YC.Nodup->(∀k,k∈YC↔k∈ks)->H p=none->Q (.ref p) (upd H p (dj w p el)):=rfl
theorem kx.same{H H':Hp}{e:Int×ac}{k:cG}(h:kx H e k)(s:ag H H'):kx H' e k:=by obtain⟨h1,b,h2,h3⟩:=h;exact⟨h1,b,h2,h3.same s⟩
section
def vX(A:Ad)(f:Int->Int->eB):Sp:=λvs H Q _=>∃(h dx le lp dm:aa)(s:aP)(p q:Int),vs=[.ref h,.int p,.int q]/\bu A H h dx le lp dm s/\cw s/\∀H':Hp,ag H H'->Q (.int (fC s (f p q)).number) H'
def wj(s:aP)(p i:Nat):List cG:=(cI i).flatMap λi=>iu (bj s (p+i)) (ord (bj s (p+i)))
theorem R9(s:aP)(p i:Nat):wj s p (i+1)=wj s p i++iu (bj s (p+i)) (ord (bj s (p+i))):=by unfold wj;rw[ub,jq];simp
structure CW(s:aP)(H:Hp)(h:aa)(p q:Nat)(ml sl:aa)(ps:List aa)(i:Nat)(σ:L2.St)(H2:Hp):Prop where
 st:∃v:Option V,σ=[some (.ref h),some (.int (p:Int)),some (.int (q:Int)),some (.ref ml),v]
 ml:∃ws:List aa,H2 ml=some (.lst (ws.map V.ref))/\aY (dQ H) ws (wj s p i)/\ws.length<=12*i
 sl:H2 sl=some (.lst (ps.map V.ref))
 sm:ag H H2
theorem EI{α β:Type}{F:α->β->Prop}:∀{a c:List α}{b d:List β},aY F a b->aY F c d->aY F (a++c) (b++d)
 |_,_,_,_,.nil,h=>h
 |_,_,_,_,.cons x r,h=> .cons x (EI r h)
theorem MC(F:aO K "count_workings" "count_workings" B8 f fd)(T:Txt A K mg)(G1:Gm P w K mg Yx 3 A.Hi "has_span" ["self","p","q"] (lW A)):
  aI P w K mg Yx aN 4 f fd ["history","p","q"] (vX A λp q=> .workings p q):=by
 have eK:=T.eK;subst eK
 exists ["history","p","q","met","page"]
 .obtain⟨h,dx,le,lp,dm,s,p,q,rfl,g,ok,k⟩:=h;refine⟨_,ap (bp (dO (cg (bw G1 hr (pv 0) (af (pv 1) (af (pv 2) ak))))) (au (aF (bg T.Ω))) br) (ap (pS 3 nd (bI ak)) (ap (fH dG rfl (dY (pQ pV (aD (pv 0) rfl) (j_ (pv 1)) (j_ (bn eI (pv 2) be)))) (pN 4 nd) (au (cX (eY fe kC lu rS (pv 3) (af (aD (pv 4) rfl) ak))))) (au (aF (cE IM rfl T.len fU (af (fX (zO rfl hr.units) rfl T.set si (af (pv 3) ak)) ak)))))),?_⟩
  dsimp![g.h]
  refine⟨by rfl,h,dx,le,lp,dm,p,q,s,rfl,g,?_⟩
  dsimp![]
  have et:fC s (.workings p q)=gM s p q λp q=>⟨gJ (wN s p q),[]⟩:=rfl;rw[et]at k;by_cases c:(bB s p&&bB s q&&decide (p<=q))=true
  .rw[if_neg (by simp[c])];obtain⟨i0,j0,rfl,rfl,Κ,hj,hf⟩:=kN c;rw[hf]at k;have YI:=ok.YI;obtain⟨ps,h1,h3,h2⟩:=g.at;refine⟨by decide,λml hml=>?_⟩;have s1:=ag.new (o:=HO.lst []) hml
   dsimp![s1 _ _ g.h,T.YR,T.Zy,gq]
   refine⟨_,ay.of (s1 _ _ h1),λsl ZB=>?_⟩;rw[show(j0:Int)+1=((j0+1:Nat):Int)by lia,vS _ _ _ (by lia) (by rw[aE];lia),<-rB,<-lI];have s2:=ag.new (o:=HO.lst (((ps.drop i0).take (j0+1-i0)).map V.ref)) ZB;have Ξ:ml≠sl:=aG am ZB;generalize hps:(ps.drop i0).take (j0+1-i0)=ps' at s2;have YG:ps'.length=j0+1-i0:=by rw[<-hps,cO,gH];lia
   refine⟨⟨_,ay.of am⟩,ie (K:=A.kf) (xs:=ps'.map V.ref) (CW s H h i0 j0 ml sl ps') ⟨⟨none,rfl⟩,⟨[],by rw[aj Ξ,am];rfl,.nil,aT _⟩,am,s1.trans s2⟩ (λi σ H5 _ z=>ay.of z.sl) ?_ ?_⟩
   .rintro i x σ H5 hi ⟨⟨v,rfl⟩,⟨ws,j1,j4,j5⟩,j2,j3⟩;rw[cq]at hi;obtain⟨pa,Zt,rfl⟩:=dU.mp hi;have Z0:i<j0+1-i0:=by
     have:=(gE.mp Zt).1
     lia
    rw[<-hps,wT,if_pos Z0,qR]at Zt;obtain⟨pa',dp,nb,wi,rs,wk,e1,e2,e3,e4⟩:=h2 (i0+i) (by lia);rw[Zt]at e1;cases e1;obtain⟨dx2,nb2,wi2,rs2,wk2,dn2,d2,YL,ws2,q1,_,_,_,_,hw1,hw2⟩:=e4.ex;rw[e3]at q1;cases q1;have hw:=FV (dM ok.ed (i0+i));have Ε:ws2.length<=12:=by rw[dH hw2];exact hw
    dsimp![dZ j1,j3 _ _ e3,T.Y8,T.ad',vz,uH,j1,j3 _ _ hw1]
    refine⟨by rw[aE,aE,bC];lia,⟨_,rfl⟩,⟨ws++ws2,by rw[am,bV],by rw[R9];exact EI j4 hw2,by rw[bG];lia⟩,by rw[aj (aX Ξ)];exact j2,j3.put hml⟩
   .rintro σ H5 ⟨⟨v,rfl⟩,⟨ws,j1,j4,j5⟩,j2,j3⟩;rw[aE,YG]at j4 j5
    dsimp![yS]
    refine⟨ws,ay.of j1,_,aY.mapP j4 λa b z=>z.same j3,by rw[<-dH j4];lia,λel YC sp p1 p2 p3 θ=>?_⟩;have e5:YC.length=wN s i0 j0:=by rw[Vk ok];exact Hj p2 p3
    refine⟨sp,_,rfl,.inl ⟨el,am,rfl⟩,?_,?_⟩
    .rw[dH p1];have:=ic YC _ p2 λk hk=>(p3 k).mp hk;rw[<-dH j4]at this
     lia
    .rw[dH p1,e5];exact k _ (j3.trans (ag.new θ))
  .rw[if_pos (by simpa using c)];rw[lS c]at k;exact k H (ag.refl H)
end
end
section
theorem SF{w:aQ}{x y:V}{H:Hp}{Q:VK}:J7 w x y H Q=∃(a b:aa)(el Χ:List (Int×ac))(ks YC:List cG),x= .ref a/\y= .ref b/\a≠b/\H a=some (dj w a el)/\H b=some (dj w b Χ)/\aY (kx H) el ks/\aY (kx H) Χ YC/\ks.Nodup/\YC.Nodup/\ks.length<=12/\YC.length<=12/\
 ∀p,H p=none->Q (.ref p) (upd H p (qC p (ks.filter λk=> !YC.contains k).length)):=rfl
theorem Tn{ks YC W W':List cG}(n1:ks.Nodup)(h1:∀k,k∈ks↔k∈W)(h2:∀k,k∈YC↔k∈W')(n2:W.Nodup):(ks.filter λk=> !YC.contains k).length=(W.filter λk=> !W'.contains k).length:=by refine By ((mH (n1.filter _) (n2.filter _)).mpr λk=>?_);rw[bM,bM,h1];simp[h2]
section
structure CR(s:aP)(H:Hp)(h:aa)(p q:Nat)(sl:aa)(ps:List aa)(i:Nat)(σ:L2.St)(H2:Hp):Prop where
 st:∃(bl:aa)(v:Option V)(ws:List aa)(ks:List cG),σ=[some (.ref h),some (.int (p:Int)),some (.int (q:Int)),some (.int ((((cI i).map (oK s p)).sum:Nat):Int)),some (.ref bl),v]/\H2 bl=some (.lst (ws.map V.ref))/\aY (dQ H2) ws ks/\(∀k,k∈ks↔k∈Kf s p i)/\ks.length<=12
 sl:H2 sl=some (.lst (ps.map V.ref))
 sm:ag H H2
theorem Ob(F:aO K "count_runs" "count_runs" DK f fd)(T:Txt A K mg)(G1:Gm P w K mg Yx 3 A.Hi "has_span" ["self","p","q"] (lW A)):
  aI P w K mg Yx aN 4 f fd ["history","p","q"] (vX A λp q=> .runs p q):=by
 have eK:=T.eK;subst eK
 exists ["history","p","q","runs","before","page"]
 .obtain⟨h,dx,le,lp,dm,s,p,q,rfl,g,ok,k⟩:=h;refine⟨_,ap (bp (dO (cg (bw G1 hr (pv 0) (af (pv 1) (af (pv 2) ak))))) (au (aF (bg T.Ω))) br) (ap (pS 3 nd be) (ap (pS 4 nd (bI ak)) (ap (fH dG rfl (dY (pQ pV (aD (pv 0) rfl) (j_ (pv 1)) (j_ (bn eI (pv 2) be)))) (pN 5 nd) (ap (pS 3 nd (bn eI (pv 3) (cE IM rfl T.len fU (af (bn (UN hr.units) (fX (zO rfl hr.units) rfl T.set si (af (aD (pv 5) rfl) ak)) (fX (zO rfl hr.units) rfl T.set si (af (pv 4) ak))) ak)))) (au (pS 4 nd (aD (pv 5) rfl))))) (au (aF (pv 3)))))),?_⟩
  dsimp![g.h]
  refine⟨by rfl,h,dx,le,lp,dm,p,q,s,rfl,g,?_⟩
  dsimp![]
  have et:fC s (.runs p q)=gM s p q λp q=>⟨gJ (CU s p q),[]⟩:=rfl;rw[et]at k;by_cases c:(bB s p&&bB s q&&decide (p<=q))=true
  .rw[if_neg (by simp[c])];obtain⟨i0,j0,rfl,rfl,Κ,hj,hf⟩:=kN c;rw[hf,Us]at k;have YI:=ok.YI;obtain⟨ps,h1,h3,h2⟩:=g.at;refine⟨by decide,λbl hbl=>?_⟩;have s1:=ag.new (o:=HO.lst []) hbl
   dsimp![s1 _ _ g.h,T.YR,T.Zy,gq]
   refine⟨_,ay.of (s1 _ _ h1),λsl ZB=>?_⟩;rw[show(j0:Int)+1=((j0+1:Nat):Int)by lia,vS _ _ _ (by lia) (by rw[aE];lia),<-rB,<-lI];have s2:=ag.new (o:=HO.lst (((ps.drop i0).take (j0+1-i0)).map V.ref)) ZB;have Ξ:bl≠sl:=aG am ZB;generalize hps:(ps.drop i0).take (j0+1-i0)=ps' at s2;have YG:ps'.length=j0+1-i0:=by rw[<-hps,cO,gH];lia
   refine⟨⟨_,ay.of am⟩,ie (K:=A.kf) (xs:=ps'.map V.ref) (CR s H h i0 j0 sl ps') ⟨⟨bl,none,[],[],rfl,by rw[aj Ξ,am];rfl,.nil,λk=>Iff.rfl,by decide⟩,am,s1.trans s2⟩ (λi σ H5 _ z=>ay.of z.sl) ?_ ?_⟩
   .rintro i x σ H5 hi ⟨⟨bl,v,ws,ks,rfl,j1,j4,j5,j6⟩,j2,j3⟩;rw[cq]at hi;obtain⟨pa,Zt,rfl⟩:=dU.mp hi;have Z0:i<j0+1-i0:=by
     have:=(gE.mp Zt).1
     lia
    rw[<-hps,wT,if_pos Z0,qR]at Zt;obtain⟨pa',dp,nb,wi,rs,wk,e1,e2,e3,e4⟩:=h2 (i0+i) (by lia);rw[Zt]at e1;cases e1;obtain⟨dx2,nb2,wi2,rs2,wk2,dn2,d2,YL,ws2,q1,_,_,_,_,hw1,hw2⟩:=e4.ex;rw[e3]at q1;cases q1;have hwf:=dM ok.ed (i0+i);have hw:=FV hwf
    dsimp![j3 _ _ e3,T.Y8,T.ad',vz,yS]
    refine⟨ws2,ay.of (j3 _ _ hw1),_,aY.mapP hw2 λa b z=>z.same j3,by lia,λel1 k1 p1 a1 a2 a3 Zx=>?_⟩;have t1:=ag.new (o:=dj w p1 el1) Zx
    dsimp![yS]
    refine⟨ws,ay.of (t1 _ _ j1),_,aY.mapP j4 λa b z=>z.same t1,by lia,λπ k2 p2 b1 b2 b3 ZO=>?_⟩;have t2:=ag.new (o:=dj w p2 π) ZO;have t12:=t1.trans t2;have np:p1≠p2:=aG am ZO
    dsimp![SF]
    refine⟨np,el1,by rw[aj np,am],π,rfl,k1,aY.mapP a1 λa b z=>z.same t12,k2,aY.mapP b1 λa b z=>z.same t2,a2,b2,?_,?_,λp3 hp3=>?_⟩
    .have:=ic k1 _ a2 λk hk=>(a3 k).mp hk
     lia
    .have:=ic k2 _ b2 λk hk=>(b3 k).mp hk
     lia
    .have en:(k1.filter λk=> !k2.contains k).length=oK s i0 i:=by rw[Vf];exact Tn a2 (λk=>by rw[a3,vO hwf]) (λk=>by rw[b3,j5]) (Wp _)
     have hb:oK s i0 i<=12:=by
      rw[<-en];have:=ic k1 _ a2 λk hk=>(a3 k).mp hk;have:=gg (λk=> !k2.contains k) k1
      lia
     rw[en];have t3:=ag.new (o:=qC p3 (oK s i0 i)) hp3;have ad7:=t12.trans t3;have j7:=j3.trans ad7;refine⟨p3,_,rfl,.inr am,by lia,?_⟩
     dsimp![j7 _ _ e3,T.Y8,T.ad',vz]
     refine⟨⟨wk,some (.ref pa),ws2,_,?_,j7 _ _ hw1,aY.mapP hw2 λa b z=>z.same j7,λk=>(vO hwf).symm,hw⟩,ad7 _ _ j2,j7⟩;rw[ub,bV,List.sum_append];simp
   .rintro σ H5 ⟨⟨bl,v,ws,ks,rfl,j1,j4,j5,j6⟩,j2,j3⟩
    dsimp![]
    rw[aE,YG,show j0+1-i0=j0-i0+1 by lia];exact k H5 j3
  .rw[if_pos (by simpa using c)];rw[lS c]at k;exact k H (ag.refl H)
end
end
section
theorem UO{X:Cx}(K:aA)(hu:X.A.units+64<fb)(hK:X.K=K:=by rfl):du X (fY .NotEq) (AD K):=by rw[<-hK];exact Js hu
theorem Gk{w:aQ}{vs:List V}{H:Hp}{Q:VK}:J_ w vs H Q=∃(a:aa)(Yy:List (aJ×V))(ns:List Int),vs=[V.ref a]/\H a=some (.dK Yy)/\Yy.map (·.1)=ns.map bQ/\ns.Nodup/\ns.length<=400/\
 ∀(el:List (Int×ac))(ks:List Int)(p:aa),aY jn el ks->ks.Nodup->(∀k,k∈ks↔k∈ns)->H p=none->Q (.ref p) (upd H p (dj w p el)):=rfl
theorem Uy{w:aQ}{x y:V}{H:Hp}{Q:VK}:KE w x y H Q=∃(a b:aa)(el Χ:List (Int×ac))(ks YC:List Int),x= .ref a/\y= .ref b/\a≠b/\H a=some (dj w a el)/\H b=some (dj w b Χ)/\aY jn el ks/\aY jn Χ YC/\ks.Nodup/\YC.Nodup/\ks.length+YC.length<=400/\
 ∀(π:List (Int×ac))(YL:List Int)(p:aa),aY jn π YL->YL.Nodup->(∀k,k∈YL↔k∈ks\/k∈YC)->H p=none->Q (.ref p) (upd H p (dj w p π)):=rfl
theorem Pa{w:aQ}{vs:List V}{H:Hp}{Q:VK}:Gh w vs H Q=∃(a:aa)(el:List (Int×ac))(ks:List Int),vs=[V.ref a]/\H a=some (dj w a el)/\aY jn el ks/\ks.length<64/\
 ∀(YM:List Int)(p:aa),YM.Perm ks->YM.Pairwise (·<=·)->H p=none->Q (.ref p) (upd H p (.lst (YM.map V.int))):=rfl
def qI(a b:ao)(n:Nat):Bool:=decide (bm a n≠bm b n)
def AY(a b:ao):V->Bool
 | .int n=>qI a b (ax n)
 |_=>false
def eQ(a b:ao):List Nat:=(cI 100).filter (qI a b)
def oG(a b:ao)(n:Nat):List Int:=[(n:Int),((bm a n).1:Int),((bm a n).2:Int),((bm b n).1:Int),((bm b n).2:Int)]
theorem Gq(a b:ao):∀l:List Nat,(l.flatMap (oG a b)).length=5*l.length
 |[]=>rfl
 |n::l=>by rw[lz,bG,Gq a b l];simp[oG];lia
theorem U'(a b:ao):fc (wX (lH a b))=((eQ a b).length:Int)::(eQ a b).flatMap (oG a b):=by
 have e:lH a b=(eQ a b).map λn=>(n,bm a n,bm b n):=by
  unfold lH eQ;show((cI 100).filter λn=>bm a n !=bm b n).map (λn=>(n,bm a n,bm b n))=_;congr 1;refine mR λn _=>?_;unfold qI;by_cases z:bm a n=bm b n
  .simp[z]
  .simp[z]
 rw[e];unfold fc wX;rw[aE];show((eQ a b).length:Int)::_=_;congr 1;rw[Cg];rfl
theorem Kk{a b:ao}(wa:Wf a)(wb:Wf b){n:Nat}(h:qI a b n=true):n∈(a.cells.map λc=>c.number)\/n∈b.cells.map λc=>c.number:=by refine tK λc=>?_;have h1:=xS wa λz=>c (.inl z);have h2:=xS wb λz=>c (.inr z);unfold qI at h;rw[h1,h2]at h;simp at h
theorem WH{a b:ao}(wa:Wf a)(wb:Wf b){ns:List Int}(hs:ns.Pairwise (·<=·))(nd:ns.Nodup)(hm:∀k,k∈ns↔(∃n:Nat,n∈(a.cells.map λc=>c.number)/\(n:Int)=k)\/∃n:Nat,n∈(b.cells.map λc=>c.number)/\(n:Int)=k):((ns.map V.int).filter (AY a b)).map (λv=>v)=vN (eQ a b):=by
 have hno:∀k,k∈ns->∃n:Nat,(n:Int)=k/\1<=n/\n<=99:=λk hk=>by
  rcases(hm k).mp hk with⟨n,hn,e⟩|⟨n,hn,e⟩
  .obtain⟨c,hc,rfl⟩:=aK.mp hn;exact⟨_,e,(wa.cell c hc).n1,(wa.cell c hc).n2⟩
  .obtain⟨c,hc,rfl⟩:=aK.mp hn;exact⟨_,e,(wb.cell c hc).n1,(wb.cell c hc).n2⟩
 have key:ns.filter (λk=>qI a b (ax k))=iN (eQ a b):=by
  have Z6:(iN (eQ a b)).Nodup:=by unfold iN;rw[i5,ff];exact(Cf.filter _).imp λh z=>h (by lia)
  refine rM (hs.filter _) ?_ ((mH (nd.filter _) Z6).mpr λk=>?_)
  .unfold iN;rw[ff];exact(LO.filter _).imp λh=>by lia
  .rw[bM];unfold iN eQ;rw[aK];constructor
   .rintro⟨hk,hd⟩;obtain⟨n,rfl,n1,n2⟩:=hno k hk;rw[rP n1 n2]at hd;exact⟨n,bM.mpr ⟨jv.mpr (by lia),hd⟩,rfl⟩
   .rintro⟨n,hn,rfl⟩;obtain⟨_,hd⟩:=bM.mp hn;have Ι:=Kk wa wb hd;have hk:(n:Int)∈ns:=(hm _).mpr (Ι.imp (λz=>⟨n,z,rfl⟩) λz=>⟨n,z,rfl⟩);obtain⟨m,e,m1,m2⟩:=hno _ hk;have e:m=n:=by lia
    subst e;exact⟨hk,by rw[rP m1 m2];exact hd⟩
 rw[DX,mX,<-iq,<-key];rfl
section
structure W4(a b:ao)(H:Hp)(h pa pb th dl tl:aa)(p q:Int)(i:Nat)(σ:L2.St)(H2:Hp):Prop where
 st:∃v:Option V,σ=[some (.ref h),some (.int p),some (.int q),some (.ref pa),some (.ref pb),some (.ref th),some (.ref dl),some (.ref tl),v]
 tl:H2 tl=some (.lst ((((eQ a b).length:Int)::(((eQ a b).take i).flatMap (oG a b))).map V.int))
 dl:H2 dl=some (.lst (vN (eQ a b)))
 sm:ag H H2
theorem MB(F:aO K "tell_differing" "tell_differing" B7 f fd)(T:Txt A K mg)(G1:Gm P w K mg Yx 2 A.Hi "has_position" ["self","p"] (nQ A))(G2:Gm P w K mg Yx 1 A.Pg "result_of" ["self","number"] (ss A)):
  aI P w K mg Yx aN 3 f fd ["history","p","q"] (mC A λp q=> .differ p q):=by
 have eK:=T.eK;subst eK
 exists ["history","p","q","at_p","at_q","there","differing","told","number"]
 .obtain⟨h,dx,le,lp,dm,s,p,q,rfl,g,ok,k⟩:=h;have YQ:=hr.mono (show 1<=2 by decide);refine⟨_,ap (bp (PW.pt (Al (dO (cg (bw G1 hr (pv 0) (af (pv 1) ak)))) (z7 (dO (cg (bw G1 hr (pv 0) (af (pv 2) ak))))))) (au (aF (bI (af (bg T.Ω) ak)))) br) (ap (ke (i:=3) nd rfl (iK rfl) (cH eG (aD (pv 0) rfl) (pv 1) (λ_ _=>rfl))) (ap (ke (i:=4) nd rfl (iK rfl) (cH eG (aD (pv 0) rfl) (pv 2) (λ_ _=>rfl))) (ap (pS 5 nd (cE (Q7 rfl) rfl T.sorted uE (af (bn VQ (fX IJ rfl T.set si (af (aD (pv 3) rfl) ak)) (fX IJ rfl T.set si (af (aD (pv 4) rfl) ak))) ak))) (ap (pP (i:=6) (own:=[("number",8)]) rfl nd rfl rfl (pU rfl rfl rfl rfl) (dY (pv 5)) (gA (by rfl)) (λ_ _ _ _ _=>pN 8 nd) (λ_ _ _ _ _=>by exact sw (db (UO A.kf hr.units) (bw G2 YQ (pv 3) (af (pv 8) ak)) (bw G2 YQ (pv 4) (af (pv 8) ak)) (bZ _))) (λ_ _ _ _ _=>by exact pv 8)) (ap (pS 7 nd (bI (af (cE kQ rfl T.len fU (af (pv 6) ak)) ak))) (ap (fH dG rfl (dY (pv 6)) (pN 8 nd) (ap (cX (eY fe jp jo i6 (pv 7) (af (pv 8) ak))) (ap (cX (eY fe kC lu uI (pv 7) (af (bw G2 YQ (pv 3) (af (pv 8) ak)) ak))) (au (cX (eY fe kC lu uI (pv 7) (af (bw G2 YQ (pv 4) (af (pv 8) ak)) ak))))))) (au (aF (pv 7))))))))),?_⟩
  simp_all![g.h]
  refine(⟨by rfl,h,dx,le,lp,dm,p,s,rfl,g,?_⟩);have et:fC s (.differ p q)=if(bB s p&&bB s q)=true then wX (lH (bj s p.toNat) (bj s q.toNat))else⟨-10,[]⟩:=rfl;rw[et]at k;cases c1:bB s p with
  |false=>
   rw[c1,lF,if_neg (by decide)]at k
   simp_all![kK]
   exact⟨by decide,λl hl=>k _ l am (ag.new hl) hl⟩
  |true=>
   rw[c1,Ox]at k
   simp_all![fO,g.h]
   refine(⟨by rfl,h,dx,le,lp,dm,q,s,rfl,g,?_⟩);cases c2:bB s q with
   |false=>
    rw[c2,if_neg (by decide)]at k
    simp_all![kK]
    exact⟨by decide,λl hl=>k _ l am (ag.new hl) hl⟩
   |true=>
    rw[c2,if_pos rfl]at k
    simp_all![fO,g.h,T.YR,T.Zy,gq]
    obtain⟨i0,rfl,hi0⟩:=nU c1;obtain⟨j0,rfl,hj0⟩:=nU c2;rw[c_,c_]at k;obtain⟨ps,h1,_,h2⟩:=g.at;obtain⟨pa,dp,nb,wi,rs,wk,_,e2,e3,e4⟩:=h2 i0 hi0;obtain⟨pb,dpb,nbb,wib,rsb,wkb,_,b2,b3,b4⟩:=h2 j0 hj0;have wa:Wf (bj s i0):=dM ok.ed _;have wb:Wf (bj s j0):=dM ok.ed _;generalize bj s i0=na at*;generalize bj s j0=nc at*;obtain⟨_,_,_,_,_,_,_,ksA,_,q1,_,_,hRA,hkA,_⟩:=e4.ex;rw[e3]at q1;cases q1;obtain⟨_,_,_,_,_,_,_,ksB,_,q2,_,_,hRB,hkB,_⟩:=b4.ex;rw[b3]at q2;cases q2;obtain⟨kvA,kA1,kA2,kA3,_⟩:=hRA.ex;obtain⟨kvB,kB1,kB2,kB3,_⟩:=hRB.ex;have ndN:∀{l:List Nat},l.Nodup->(iN l).Nodup:=λ{l}hl=>by unfold iN;rw[i5,ff];exact hl.imp λh z=>h (by lia)
    have lnA:(iN ksA).length<=12:=by
     unfold iN;rw[aE];have:=ic ksA _ kA3 λn hn=>(hkA n).mp hn;rw[aE]at this;have:=wa.YI
     lia
    have lnB:(iN ksB).length<=12:=by
     unfold iN;rw[aE];have:=ic ksB _ kB3 λn hn=>(hkB n).mp hn;rw[aE]at this;have:=wb.YI
     lia
    refine⟨_,ay.of h1,_,e2,?_⟩
    simp_all![g.h,T.YR,T.Zy,gq]
    refine⟨_,ay.of h1,_,b2,?_⟩
    simp_all![e3,T.Y8,T.aau,lT,Gk,kA1]
    refine⟨iN ksA,kA2,ndN kA3,by lia,λel1 n1 p1 a1 a2 a3 Zx=>?_⟩;have t1:=ag.new (o:=dj w p1 el1) Zx
    simp_all![t1 _ _ b3,T.Y8,T.aau,lT,Gk,t1 _ _ kB1]
    refine⟨iN ksB,kB2,ndN kB3,by lia,λπ n2 p2 d1 d2 d3 ZO=>?_⟩;have t2:=ag.new (o:=dj w p2 π) ZO;have np:p1≠p2:=aG am ZO;have l1:n1.length<=12:=cV (ic n1 _ a2 λk hk=>(a3 k).mp hk) lnA;have l2:n2.length<=12:=cV (ic n2 _ d2 λk hk=>(d3 k).mp hk) lnB
    simp_all![Uy]
    refine(⟨np,el1,by rw[aj np,am],π,rfl,n1,a1,n2,d1,a2,d2,by lia,λel3 n3 p3 f1 f2 f3 hp3=>?_⟩);have t3:=ag.new (o:=dj w p3 el3) hp3;have ad7:=(t1.trans t2).trans t3;have l3:n3.length<=24:=by
     have:=ic n3 (n1++n2) f2 λk hk=>bT.mpr ((f3 k).mp hk);rw[bG]at this
     lia
    simp_all![Pa]
    refine(⟨el3,rfl,n3,f1,by lia,λYM th g1 g2 hth=>?_⟩);have t4:=ad7.trans (ag.new (o:=HO.lst (YM.map V.int)) hth);have lns:YM.length<=24:=by rw[g1.length_eq];exact l3
    have hdf:=WH wa wb g2 (g1.nodup_iff.mpr f2) λk=>by
     rw[g1.mem_iff,f3,a3,d3];unfold iN;rw[aK,aK];refine or_congr ⟨?_,?_⟩ ⟨?_,?_⟩
     .rintro⟨n,hn,e⟩;exact⟨n,(hkA n).mp hn,e⟩
     .rintro⟨n,hn,e⟩;exact⟨n,(hkA n).mpr hn,e⟩
     .rintro⟨n,hn,e⟩;exact⟨n,(hkB n).mp hn,e⟩
     .rintro⟨n,hn,e⟩;exact⟨n,(hkB n).mpr hn,e⟩
    generalize Z4:upd (upd (upd (upd H p1 (dj w p1 el1)) p2 (dj w p2 π)) p3 (dj w p3 el3)) th (.lst (YM.map V.int))=H4 at t4;have th4:H4 th=some (.lst (YM.map V.int)):=by rw[<-Z4,am]
    simp_all![]
    refine⟨⟨_,ay.of th4⟩,jA (K:=A.kf) (xs:=YM.map V.int) (AY na nc) (λv=>v) (ay.of th4) (by rw[aE];exact gP (by lia)) ?_ ?_⟩
    .intro i v H5 R R' hi s5 r1 r2;rw[cq]at hi;obtain⟨n,hn,rfl⟩:=dU.mp hi;have t5:=t4.trans s5
     simp_all![t5 _ _ e3]
     refine(⟨by rfl,pa,n,_,rfl,e4.same t5,wa,λt ht=>?_⟩)
     simp_all![t5 _ _ b3]
     refine(⟨by rfl,pb,n,_,rfl,b4.same t5,wb,λu hu=>?_⟩)
     simp_all![HW]
     refine(⟨_,wx ht,_,wx hu,vq _,vq _,?_⟩);rw[KP];have ed:AY na nc (.int n)=decide (bm na (ax n)≠bm nc (ax n)):=rfl;rw[ed]at r1 r2;by_cases z:bm na (ax n)=bm nc (ax n)
     .rw[if_neg (by simpa using z)];exact r2 (by simpa using z) H5 (ag.refl H5)
     .rw[if_pos (by simpa using z)];exact r1 (by simpa using z) H5 (ag.refl H5)
    .intro dl H5 hdl hl5 s5;rw[hdf]at hl5;have t5:=t4.trans s5;have lD:(eQ na nc).length<=100:=by unfold eQ;refine cV (gg _ _) ?_;rw[kI];exact aT _
     have hno:∀n∈eQ na nc,1<=n/\n<=99:=λn hn=>by
      rcases Kk wa wb (bM.mp hn).2 with z|z
      .obtain⟨c,hc,rfl⟩:=aK.mp z;exact⟨(wa.cell c hc).n1,(wa.cell c hc).n2⟩
      .obtain⟨c,hc,rfl⟩:=aK.mp z;exact⟨(wb.cell c hc).n1,(wb.cell c hc).n2⟩
     simp_all![]
     refine⟨_,ay.of hl5,by decide,λtl Zg=>?_⟩;have t6:=ag.new (o:=HO.lst [V.int ((vN (eQ na nc)).length:Int)]) Zg;have nt:dl≠tl:=aG hl5 Zg;have abD:H tl=none:=t5.free Zg;refine⟨⟨_,ay.of (t6 _ _ hl5)⟩,ie (K:=A.kf) (xs:=vN (eQ na nc)) (W4 na nc H h pa pb th dl tl i0 j0) ⟨⟨none,rfl⟩,by rw[am,bW];rfl,t6 _ _ hl5,t5.trans t6⟩ (λi σ H5 _ z=>ay.of z.dl) ?_ ?_⟩
     .rintro i x σ H7 hi ⟨⟨v,rfl⟩,j1,j2,j3⟩;obtain⟨n,hn,rfl⟩:=gZ hi;obtain⟨m1,m2⟩:=hno n (cU hn);have ec:ax (n:Int)=n:=rP m1 m2;have e3':(eQ na nc).take (i+1)=(eQ na nc).take i++[n]:=by rw[dA,hn];rfl
      have YG:((((eQ na nc).length:Int)::(((eQ na nc).take i).flatMap (oG na nc))).map V.int).length<=510:=by
       rw[aE,cC,Gq,cO]
       lia
      generalize hL:(((eQ na nc).length:Int)::(((eQ na nc).take i).flatMap (oG na nc))).map V.int=L at j1 YG
      simp_all![dZ j1,j1]
      refine⟨by rw[bC];lia,?_⟩;have s8:ag H (upd H7 tl (.lst (L++[V.int (n:Int)]))):=j3.put abD;have m8:upd H7 tl (.lst (L++[V.int (n:Int)])) tl=some (.lst (L++[V.int (n:Int)])):=am;generalize hH8:upd H7 tl (.lst (L++[V.int (n:Int)]))=H8 at s8 m8
      simp_all![dZ m8,s8 _ _ e3]
      refine(⟨by rfl,pa,n,_,rfl,e4.same s8,wa,λt ht=>?_⟩)
      simp_all![uy,m8]
      refine⟨_,ht,by rw[bG,bC];simp;lia,?_⟩;rw[ec];generalize hL9:L++[V.int (n:Int)]++[V.int ((bm na n).1:Int),V.int ((bm na n).2:Int)]=L9;have s9:ag H (upd H8 tl (.lst L9)):=s8.put abD;have m9:upd H8 tl (.lst L9) tl=some (.lst L9):=am;have hl9:L9.length<=520:=by rw[<-hL9,bG,bG];simp;lia
      have d9:upd H8 tl (.lst L9) dl=some (.lst (vN (eQ na nc))):=by rw[aj nt,<-hH8,aj nt];exact j2
      generalize upd H8 tl (.lst L9)=H9 at s9 m9 d9
      simp_all![dZ m9,s9 _ _ b3]
      refine(⟨by rfl,pb,n,_,rfl,b4.same s9,wb,λu hu=>?_⟩)
      simp_all![uy,m9]
      refine(⟨_,hu,by rw[bC];simp;lia,⟨_,rfl⟩,?_,by rw[aj nt];exact d9,s9.put abD⟩);rw[am,e3',jq,<-lC,bV,hL,<-hL9,ec];simp[oG]
     .rintro σ H7 ⟨⟨v,rfl⟩,j1,j2,j3⟩
      simp_all![]
      rw[bW,dz]at j1;refine k H7 tl ?_ j3 abD;rw[j1,U']
end
end
section
section
theorem UV{s:aP}(p q:Int):(fC s (.workings p q)).more=[]:=by show(gM s p q _).more=[];unfold gM;split<;>rfl
theorem UU{s:aP}(p q:Int):(fC s (.runs p q)).more=[]:=by show(gM s p q _).more=[];unfold gM;split<;>rfl
theorem NP(F:aO K "call_differ" "call_differ" Dj f fd)(T:Txt A K mg)(GT:Gm P w K mg Yx 1 A.Re "take" ["self"] (fF A K))(G:Gf P w K mg Yx 3 "tell_differing" ["history","p","q"] (mC A λp q=> .differ p q)):aI P w K mg Yx aN 10 f fd ["history","reader"] (fG A K 10):=by
 exists ["history","reader","p","q"]
 .obtain⟨h,dx,le,lp,dm,R,dr,L,s,i,xs,t,c,rfl,g,ok,rd,tk,q⟩:=h;obtain⟨a,b,e1,rfl⟩:=T5 tk;obtain⟨d0,f0,_⟩:=b7 e1;obtain⟨d1,f1,_⟩:=b7 f0;refine⟨_,ap (pS 2 nd (bo GT hr.m (pv 1))) (ap (pS 3 nd (bo GT hr.m (pv 1))) (au (aF (bL G hr.m (af (pv 0) (af (pv 2) (af (pv 3) ak))))))),?_⟩
  dsimp![rd.re]
  refine⟨by rfl,R,dr,L,i,xs,a,rfl,rd,d0,λH1 r1 k1=>?_⟩
  dsimp![r1.re]
  refine⟨by rfl,R,dr,L,i+1,xs,b,rfl,r1,d1,λH2 r2 k2=>?_⟩
  dsimp![]
  have kk:=k1.trans k2;have g2:=g.keepR rd kk;exact⟨h,dx,le,lp,dm,s,a,b,rfl,g2,ok,q.tell kk g2 r2 f1 rfl⟩
theorem Od(F:aO K "call_edits" "call_edits" DM f fd)(T:Txt A K mg)(GT:Gm P w K mg Yx 1 A.Re "take" ["self"] (fF A K))(G:Gf P w K mg Yx 4 "tell_edits" ["history","p","q"] (mC A λp q=> .edits p q)):aI P w K mg Yx aN 10 f fd ["history","reader"] (fG A K 11):=by
 exists ["history","reader","p","q"]
 .obtain⟨h,dx,le,lp,dm,R,dr,L,s,i,xs,t,c,rfl,g,ok,rd,tk,q⟩:=h;obtain⟨a,b,e1,rfl⟩:=T4 tk;obtain⟨d0,f0,_⟩:=b7 e1;obtain⟨d1,f1,_⟩:=b7 f0;refine⟨_,ap (pS 2 nd (bo GT hr.m (pv 1))) (ap (pS 3 nd (bo GT hr.m (pv 1))) (au (aF (bL G hr.m (af (pv 0) (af (pv 2) (af (pv 3) ak))))))),?_⟩
  dsimp![rd.re]
  refine⟨by rfl,R,dr,L,i,xs,a,rfl,rd,d0,λH1 r1 k1=>?_⟩
  dsimp![r1.re]
  refine⟨by rfl,R,dr,L,i+1,xs,b,rfl,r1,d1,λH2 r2 k2=>?_⟩
  dsimp![]
  have kk:=k1.trans k2;have g2:=g.keepR rd kk;exact⟨h,dx,le,lp,dm,s,a,b,rfl,g2,ok,q.tell kk g2 r2 f1 rfl⟩
theorem Oe(F:aO K "call_blame" "call_blame" DN f fd)(T:Txt A K mg)(GT:Gm P w K mg Yx 1 A.Re "take" ["self"] (fF A K))(G:Gf P w K mg Yx 3 "tell_blamed" ["history","number","p"] (mC A λp q=> .blame p q)):aI P w K mg Yx aN 10 f fd ["history","reader"] (fG A K 12):=by
 exists ["history","reader","number","p"]
 .obtain⟨h,dx,le,lp,dm,R,dr,L,s,i,xs,t,c,rfl,g,ok,rd,tk,q⟩:=h;obtain⟨a,b,e1,rfl⟩:=T0 tk;obtain⟨d0,f0,_⟩:=b7 e1;obtain⟨d1,f1,_⟩:=b7 f0;refine⟨_,ap (pS 2 nd (bo GT hr.m (pv 1))) (ap (pS 3 nd (bo GT hr.m (pv 1))) (au (aF (bL G hr.m (af (pv 0) (af (pv 2) (af (pv 3) ak))))))),?_⟩
  dsimp![rd.re]
  refine⟨by rfl,R,dr,L,i,xs,a,rfl,rd,d0,λH1 r1 k1=>?_⟩
  dsimp![r1.re]
  refine⟨by rfl,R,dr,L,i+1,xs,b,rfl,r1,d1,λH2 r2 k2=>?_⟩
  dsimp![]
  have kk:=k1.trans k2;have g2:=g.keepR rd kk;exact⟨h,dx,le,lp,dm,s,a,b,rfl,g2,ok,q.tell kk g2 r2 f1 rfl⟩
theorem Oc(F:aO K "call_flips" "call_flips" DL f fd)(T:Txt A K mg)(GT:Gm P w K mg Yx 1 A.Re "take" ["self"] (fF A K))(G:Gf P w K mg Yx 4 "tell_flips" ["history","number","p","q"] (kr A λn p q=> .flips n p q)):aI P w K mg Yx aN 10 f fd ["history","reader"] (fG A K 13):=by
 exists ["history","reader","number","p","q"]
 .obtain⟨h,dx,le,lp,dm,R,dr,L,s,i,xs,t,c,rfl,g,ok,rd,tk,q⟩:=h;obtain⟨a,b,c,e1,rfl⟩:=TZ tk;obtain⟨d0,f0,_⟩:=b7 e1;obtain⟨d1,f1,_⟩:=b7 f0;obtain⟨d2,f2,_⟩:=b7 f1;refine⟨_,ap (pS 2 nd (bo GT hr.m (pv 1))) (ap (pS 3 nd (bo GT hr.m (pv 1))) (ap (pS 4 nd (bo GT hr.m (pv 1))) (au (aF (bL G hr.m (af (pv 0) (af (pv 2) (af (pv 3) (af (pv 4) ak))))))))),?_⟩
  dsimp![rd.re]
  refine⟨by rfl,R,dr,L,i,xs,a,rfl,rd,d0,λH1 r1 k1=>?_⟩
  dsimp![r1.re]
  refine⟨by rfl,R,dr,L,i+1,xs,b,rfl,r1,d1,λH2 r2 k2=>?_⟩
  dsimp![r2.re]
  refine⟨by rfl,R,dr,L,i+1+1,xs,c,rfl,r2,d2,λH3 r3 k3=>?_⟩
  dsimp![]
  have kk:=(k1.trans k2).trans k3;have g2:=g.keepR rd kk;exact⟨h,dx,le,lp,dm,s,a,b,c,rfl,g2,ok,q.tell kk g2 r3 f2 rfl⟩
theorem NQ(F:aO K "call_bisect" "call_bisect" Dk f fd)(T:Txt A K mg)(GT:Gm P w K mg Yx 1 A.Re "take" ["self"] (fF A K))(G:Gf P w K mg Yx 4 "tell_bisected" ["history","number","p","q"] (kr A λn p q=> .bisect n p q)):aI P w K mg Yx aN 10 f fd ["history","reader"] (fG A K 14):=by
 exists ["history","reader","number","p","q"]
 .obtain⟨h,dx,le,lp,dm,R,dr,L,s,i,xs,t,c,rfl,g,ok,rd,tk,q⟩:=h;obtain⟨a,b,c,e1,rfl⟩:=TY tk;obtain⟨d0,f0,_⟩:=b7 e1;obtain⟨d1,f1,_⟩:=b7 f0;obtain⟨d2,f2,_⟩:=b7 f1;refine⟨_,ap (pS 2 nd (bo GT hr.m (pv 1))) (ap (pS 3 nd (bo GT hr.m (pv 1))) (ap (pS 4 nd (bo GT hr.m (pv 1))) (au (aF (bL G hr.m (af (pv 0) (af (pv 2) (af (pv 3) (af (pv 4) ak))))))))),?_⟩
  dsimp![rd.re]
  refine⟨by rfl,R,dr,L,i,xs,a,rfl,rd,d0,λH1 r1 k1=>?_⟩
  dsimp![r1.re]
  refine⟨by rfl,R,dr,L,i+1,xs,b,rfl,r1,d1,λH2 r2 k2=>?_⟩
  dsimp![r2.re]
  refine⟨by rfl,R,dr,L,i+1+1,xs,c,rfl,r2,d2,λH3 r3 k3=>?_⟩
  dsimp![]
  have kk:=(k1.trans k2).trans k3;have g2:=g.keepR rd kk;exact⟨h,dx,le,lp,dm,s,a,b,c,rfl,g2,ok,q.tell kk g2 r3 f2 rfl⟩
theorem M0(F:aO K "call_touching" "call_touching" Ct f fd)(T:Txt A K mg)(GT:Gm P w K mg Yx 1 A.Re "take" ["self"] (fF A K))(G:Gf P w K mg Yx 6 "tell_touching" ["history","number","p","q"] (kr A λn p q=> .touching n p q)):aI P w K mg Yx aN 10 f fd ["history","reader"] (fG A K 15):=by
 exists ["history","reader","number","p","q"]
 .obtain⟨h,dx,le,lp,dm,R,dr,L,s,i,xs,t,c,rfl,g,ok,rd,tk,q⟩:=h;obtain⟨a,b,c,e1,rfl⟩:=TX tk;obtain⟨d0,f0,_⟩:=b7 e1;obtain⟨d1,f1,_⟩:=b7 f0;obtain⟨d2,f2,_⟩:=b7 f1;refine⟨_,ap (pS 2 nd (bo GT hr.m (pv 1))) (ap (pS 3 nd (bo GT hr.m (pv 1))) (ap (pS 4 nd (bo GT hr.m (pv 1))) (au (aF (bL G hr.m (af (pv 0) (af (pv 2) (af (pv 3) (af (pv 4) ak))))))))),?_⟩
  dsimp![rd.re]
  refine⟨by rfl,R,dr,L,i,xs,a,rfl,rd,d0,λH1 r1 k1=>?_⟩
  dsimp![r1.re]
  refine⟨by rfl,R,dr,L,i+1,xs,b,rfl,r1,d1,λH2 r2 k2=>?_⟩
  dsimp![r2.re]
  refine⟨by rfl,R,dr,L,i+1+1,xs,c,rfl,r2,d2,λH3 r3 k3=>?_⟩
  dsimp![]
  have kk:=(k1.trans k2).trans k3;have g2:=g.keepR rd kk;exact⟨h,dx,le,lp,dm,s,a,b,c,rfl,g2,ok,q.tell kk g2 r3 f2 rfl⟩
theorem NO(F:aO K "call_guilty" "call_guilty" Di f fd)(T:Txt A K mg)(GT:Gm P w K mg Yx 1 A.Re "take" ["self"] (fF A K))(G:Gf P w K mg Yx 8 "tell_guilty" ["history","number","p","q"] (kr A λn p q=> .guilty n p q)):aI P w K mg Yx aN 10 f fd ["history","reader"] (fG A K 16):=by
 exists ["history","reader","number","p","q"]
 .obtain⟨h,dx,le,lp,dm,R,dr,L,s,i,xs,t,c,rfl,g,ok,rd,tk,q⟩:=h;obtain⟨a,b,c,e1,rfl⟩:=TW tk;obtain⟨d0,f0,_⟩:=b7 e1;obtain⟨d1,f1,_⟩:=b7 f0;obtain⟨d2,f2,_⟩:=b7 f1;refine⟨_,ap (pS 2 nd (bo GT hr.m (pv 1))) (ap (pS 3 nd (bo GT hr.m (pv 1))) (ap (pS 4 nd (bo GT hr.m (pv 1))) (au (aF (bL G hr.m (af (pv 0) (af (pv 2) (af (pv 3) (af (pv 4) ak))))))))),?_⟩
  dsimp![rd.re]
  refine⟨by rfl,R,dr,L,i,xs,a,rfl,rd,d0,λH1 r1 k1=>?_⟩
  dsimp![r1.re]
  refine⟨by rfl,R,dr,L,i+1,xs,b,rfl,r1,d1,λH2 r2 k2=>?_⟩
  dsimp![r2.re]
  refine⟨by rfl,R,dr,L,i+1+1,xs,c,rfl,r2,d2,λH3 r3 k3=>?_⟩
  dsimp![]
  have kk:=(k1.trans k2).trans k3;have g2:=g.keepR rd kk;exact⟨h,dx,le,lp,dm,s,a,b,c,rfl,g2,ok,q.tell kk g2 r3 f2 rfl⟩
theorem NL(F:aO K "call_shrink" "call_shrink" Df f fd)(T:Txt A K mg)(GT:Gm P w K mg Yx 1 A.Re "take" ["self"] (fF A K))(G:Gf P w K mg Yx 9 "tell_shrunk" ["history","number","p","q"] (kr A λn p q=> .shrink n p q)):aI P w K mg Yx aN 10 f fd ["history","reader"] (fG A K 17):=by
 exists ["history","reader","number","p","q"]
 .obtain⟨h,dx,le,lp,dm,R,dr,L,s,i,xs,t,c,rfl,g,ok,rd,tk,q⟩:=h;obtain⟨a,b,c,e1,rfl⟩:=TV tk;obtain⟨d0,f0,_⟩:=b7 e1;obtain⟨d1,f1,_⟩:=b7 f0;obtain⟨d2,f2,_⟩:=b7 f1;refine⟨_,ap (pS 2 nd (bo GT hr.m (pv 1))) (ap (pS 3 nd (bo GT hr.m (pv 1))) (ap (pS 4 nd (bo GT hr.m (pv 1))) (au (aF (bL G hr.m (af (pv 0) (af (pv 2) (af (pv 3) (af (pv 4) ak))))))))),?_⟩
  dsimp![rd.re]
  refine⟨by rfl,R,dr,L,i,xs,a,rfl,rd,d0,λH1 r1 k1=>?_⟩
  dsimp![r1.re]
  refine⟨by rfl,R,dr,L,i+1,xs,b,rfl,r1,d1,λH2 r2 k2=>?_⟩
  dsimp![r2.re]
  refine⟨by rfl,R,dr,L,i+1+1,xs,c,rfl,r2,d2,λH3 r3 k3=>?_⟩
  dsimp![]
  have kk:=(k1.trans k2).trans k3;have g2:=g.keepR rd kk;exact⟨h,dx,le,lp,dm,s,a,b,c,rfl,g2,ok,q.tell kk g2 r3 f2 rfl⟩
theorem MZ(F:aO K "call_workings" "call_workings" Cs f fd)(T:Txt A K mg)(GT:Gm P w K mg Yx 1 A.Re "take" ["self"] (fF A K))(G:Gf P w K mg Yx 4 "count_workings" ["history","p","q"] (vX A λp q=> .workings p q)):aI P w K mg Yx aN 10 f fd ["history","reader"] (fG A K 18):=by
 exists ["history","reader","p","q"]
 .obtain⟨h,dx,le,lp,dm,R,dr,L,s,i,xs,t,c,rfl,g,ok,rd,tk,q⟩:=h;obtain⟨a,b,e1,rfl⟩:=TU tk;obtain⟨d0,f0,_⟩:=b7 e1;obtain⟨d1,f1,_⟩:=b7 f0;refine⟨_,ap (pS 2 nd (bo GT hr.m (pv 1))) (ap (pS 3 nd (bo GT hr.m (pv 1))) (au (aF (bI (af (bL G hr.m (af (pv 0) (af (pv 2) (af (pv 3) ak)))) ak))))),?_⟩
  dsimp![rd.re]
  refine⟨by rfl,R,dr,L,i,xs,a,rfl,rd,d0,λH1 r1 k1=>?_⟩
  dsimp![r1.re]
  refine⟨by rfl,R,dr,L,i+1,xs,b,rfl,r1,d1,λH2 r2 k2=>?_⟩
  dsimp![]
  have kk:=k1.trans k2;have g2:=g.keepR rd kk;refine⟨h,dx,le,lp,dm,s,a,b,rfl,g2,ok,λH9 s9=>⟨lh,λl hl=>?_⟩⟩;refine q.tell kk g2 r2 f1 rfl _ l ?_ (s9.trans (ag.new hl)) (s9.free hl);rw[am];unfold fc;rw[UV];rfl
theorem OH(F:aO K "call_runs" "call_runs" Ei f fd)(T:Txt A K mg)(GT:Gm P w K mg Yx 1 A.Re "take" ["self"] (fF A K))(G:Gf P w K mg Yx 4 "count_runs" ["history","p","q"] (vX A λp q=> .runs p q)):aI P w K mg Yx aN 10 f fd ["history","reader"] (fG A K 19):=by
 exists ["history","reader","p","q"]
 .obtain⟨h,dx,le,lp,dm,R,dr,L,s,i,xs,t,c,rfl,g,ok,rd,tk,q⟩:=h;obtain⟨a,b,e1,rfl⟩:=TQ tk;obtain⟨d0,f0,_⟩:=b7 e1;obtain⟨d1,f1,_⟩:=b7 f0;refine⟨_,ap (pS 2 nd (bo GT hr.m (pv 1))) (ap (pS 3 nd (bo GT hr.m (pv 1))) (au (aF (bI (af (bL G hr.m (af (pv 0) (af (pv 2) (af (pv 3) ak)))) ak))))),?_⟩
  dsimp![rd.re]
  refine⟨by rfl,R,dr,L,i,xs,a,rfl,rd,d0,λH1 r1 k1=>?_⟩
  dsimp![r1.re]
  refine⟨by rfl,R,dr,L,i+1,xs,b,rfl,r1,d1,λH2 r2 k2=>?_⟩
  dsimp![]
  have kk:=k1.trans k2;have g2:=g.keepR rd kk;refine⟨h,dx,le,lp,dm,s,a,b,rfl,g2,ok,λH9 s9=>⟨lh,λl hl=>?_⟩⟩;refine q.tell kk g2 r2 f1 rfl _ l ?_ (s9.trans (ag.new hl)) (s9.free hl);rw[am];unfold fc;rw[UU];rfl
end
end
section
abbrev zT(x YJ:Str)(st:aH)(ps:List Str):Prop:=∀(kV Zv pm:ac)(an:Option aa)(YX ct:ac)(us:List ac),us.length=ps.length->bindArgs (kM x YJ (lU st) (kP st) (gX st) .none kV Zv pm an YX ct) ⟨us,[]⟩=pure (ps.zip us)
def bi(K:aA)(mg:Str->Option ac)(x:Str)(st:aH)(ps:List Str):Prop:=∃f fd,aO K x x st f fd/\mg x=some (.ref f)/\Binds K fd ps []
def cN(K:aA)(C:aa)(m YJ:Str)(st:aH)(ps:List Str):Prop:=∃f fd,aO K m YJ st f fd/\tp K C m f/\Binds K fd ps []
def jj(K:aA)(mg:Str->Option ac)(C:aa)(x YJ:Str)(st:aH)(ps:List Str):Prop:=∃f fd,aO K "__init__" YJ st f fd/\Mk K C f/\mg x=some (.ref C)/\Binds K fd ps []
section
variable{P:ba}{w:aQ}{K:aA}{mg:Str->Option ac}{Yx h:aM}{x m YJ:Str}{st:aH}{ps:List Str}{f C:aa}{oc:ac}{od an:Option aa}{Ν:Array (Option ac)}{kV Zv pm YX ct:ac}{k:Nat}{sp:Sp}{f:aa}{fd:dX}
theorem bi.gf(P:ba)(w:aQ)(Yx:aM)(g:bi K mg x st ps)(ok:∀f fd,aO K x x st f fd->aI P w K mg Yx aN k f fd ps sp):Gf P w K mg Yx k x ps sp:=by obtain⟨f,fd,h1,h2,h3⟩:=g;exact⟨f,fd,ok f fd h1,h2,h1.kp,h3⟩
theorem cN.gm(P:ba)(w:aQ)(Yx:aM)(g:cN K C m YJ st ps)(c:dR K C)(ok:∀f fd,aO K m YJ st f fd->aI P w K mg Yx aN k f fd ps sp):Gm P w K mg Yx k C m ps sp:=by obtain⟨f,fd,h1,h2,h3⟩:=g;exact⟨f,fd,ok f fd h1,c,h2,h3⟩
theorem jj.gi(P:ba)(w:aQ)(Yx:aM)(g:jj K mg C x YJ st ps)(ok:∀f fd,aO K "__init__" YJ st f fd->aI P w K mg Yx aN k f fd ps sp):Gi P w K mg Yx k C x ps sp:=by obtain⟨f,fd,h1,h2,h3,h4⟩:=g;exact⟨f,fd,ok f fd h1,h2,h3,h4⟩
theorem U7(X:K.In h)(G:h.Ns dB mg)(b:zT x x st ps)(a:iY K dB x=some (some (.ref f)))(l:K.lookup f=some ⟨oc,od,.func (kM x x (lU st) (kP st) (gX st) .none kV Zv pm an YX ct),Ν⟩)(c:rh K YX x=true)(kp:jT K (.ref f)=true):bi K mg x st ps:=
 have F:=Ag (st:=st) l c kp
 ⟨f,_,F,eU X G a,F.binds b⟩
theorem U5(b:zT m YJ st ps)(a:iE K (.ref C) m=some (some (.ref f)))(i:ur K (.ref f)=true)(l:K.lookup f=some ⟨oc,od,.func (kM m YJ (lU st) (kP st) (gX st) .none kV Zv pm an YX ct),Ν⟩)(c:rh K YX YJ=true)(kp:jT K (.ref f)=true):cN K C m YJ st ps:=
 have F:=Ag (st:=st) l c kp
 ⟨f,_,F,⟨a,i,kp⟩,F.binds b⟩
theorem U6(X:K.In h)(G:h.Ns dB mg)(b:zT "__init__" YJ st ps)(aC:iY K dB x=some (some (.ref C)))(a:iE K (.ref C) "__init__"=some (some (.ref f)))(i:ur K (.ref f)=true)(l:K.lookup f=some ⟨oc,od,.func (kM "__init__" YJ (lU st) (kP st) (gX st) .none kV Zv pm an YX ct),Ν⟩)(c:rh K YX YJ=true)(kp:jT K (.ref f)=true)
  (mk:CD K C=true)(kc:jT K (.ref C)=true):jj K mg C x YJ st ps:=
 have F:=Ag (st:=st) l c kp
 ⟨f,_,F,⟨mk,a,i,kc⟩,eU X G aC,F.binds b⟩
theorem V7{i:Int}{t}(X:K.In h)(G:h.Ns dB mg)(a:iY K dB x=some (some (.int i t))):cj mg x i:=⟨t,eU X G a⟩
theorem JA{c:aa}{o:Obj}{YA:Array ac}{n:Nat}{xs:List V}(X:K.In h)(G:h.Ns dB mg)(a:iY K dB x=some (some (.ref c)))(l:K.lookup c=some o)(h1:o.cls= .type "tuple")(h2:o.data= .seq YA n)(h3:YA.size<=aU)(h4:aR xs YA.toList):IsT K mg x xs:=
 ⟨c,eU X G a,λH=> .inr ⟨o,YA,n,l,h1,h2,h3,h4⟩⟩
def Hu(K:aA)(mg:Str->Option ac)(names:List Str):Prop:=∃fs:List aa,IsT K mg "CALLS" (fs.map V.ref)/\fs.length=names.length/\∀(i:Nat)(x:Str)(f:aa),names[i]? =some x->fs[i]? =some f->mg x=some (.ref f)
inductive mi(mg:Str->Option ac):List Str->List aa->Prop
 |nil:mi mg [] []
 |cons {x:Str} {xs:List Str} {f:aa} {fs:List aa}:mg x=some (.ref f)->mi mg xs fs->mi mg (x::xs) (f::fs)
theorem mi.at{mg:Str->Option ac}{xs:List Str}{fs:List aa}(h:mi mg xs fs):∀(i:Nat)(x:Str)(f:aa),xs[i]? =some x->fs[i]? =some f->mg x=some (.ref f):=by
 induction h with
 |nil=>intro i x f h1;simp at h1
 |cons a _ ih=>
  intro i x f h1 h2;cases i with
  |zero=>have e1:=gk (show some _=some x from h1);have e2:=gk (show some _=some f from h2);rw[<-e1,<-e2];exact a
  |succ i=>exact ih i x f h1 h2
theorem mi.len{mg:Str->Option ac}{xs:List Str}{fs:List aa}(h:mi mg xs fs):fs.length=xs.length:=by
 induction h with
 |nil=>rfl
 |cons _ _ ih=>rw[cC,cC,ih]
theorem PD{names:List Str}{fs:List aa}(t:IsT K mg "CALLS" (fs.map V.ref))(n:mi mg names fs):Hu K mg names:=⟨fs,t,n.len,n.at⟩
theorem Gf.up{j:Nat}(g:Gf P w K mg Yx j x ps sp)(h:j<=k:=by decide):Gf P w K mg Yx k x ps sp:=g.mono h
theorem Gm.up{j:Nat}(g:Gm P w K mg Yx j C m ps sp)(h:j<=k:=by decide):Gm P w K mg Yx k C m ps sp:=g.mono h
theorem Gi.up{j:Nat}(g:Gi P w K mg Yx j C x ps sp)(h:j<=k:=by decide):Gi P w K mg Yx k C x ps sp:=g.mono h
theorem Gf.callee{g:Gf P w K mg Yx k x ps sp}{f:aa}(h:mg x=some (.ref f)):Callee P w K mg Yx k f sp:=by obtain⟨f',fd,h1,h2,h3,h4⟩:=g;rw[h]at h2;cases h2;exact⟨fd,ps,h1,h3,h4⟩
end
end
section
structure K9(A:Ad0)(K:aA)(mg:Str->Option ac):Prop where
 T:KR A K mg
 ahP:IsT K mg "HELD" [.int 3,.int 0]
 ahN:IsT K mg "REFUSED" [.int 2,.int 0]
 ahO:IsT K mg "NO_SUCH_CELL" [.int 0,.int 0]
 Zp:cN K A.Re "take" "Reader.take" Dm ["self"]
 aeh:cN K A.Re "take_list" "Reader.take_list" BB ["self"]
 aeJ:jj K mg A.Cl "Cell" "Cell.__init__" En ["self","number","name","kind","constant","reads"]
 aaX:cN K A.Hi "last_position" "History.last_position" A9 ["self"]
 abz:cN K A.Hi "notebook_now" "History.notebook_now" Bb ["self"]
 am6:bi K mg "is_name" yA ["number"]
 ame:bi K mg "cell_refusal" CN ["cell"]
 adj:cN K A.Nb "has_room_for" "Notebook.has_room_for" A8 ["self","number"]
 aax:cN K A.Nb "has_cell" "Notebook.has_cell" Bv ["self","number"]
 aet:cN K A.Cl "parts" "Cell.parts" DO ["self"]
 acj:cN K A.Hi "is_full" "History.is_full" BP ["self"]
 alW:bi K mg "put_refusal" Db ["history","notebook","cell"]
 aeo:cN K A.Nb "in_order" "Notebook.in_order" Bu ["self"]
 am3:bi K mg "makers_in" Ee ["cells"]
 alR:bi K mg "sources_of" DI ["cell","makers"]
 am0:bi K mg "numbers_above" Cq ["number","sources"]
 aeD:jj K mg A.Wi "Wiring" "Wiring.__init__" Dl ["self","cells"]
 aed:cN K A.Wi "how_many_make" "Wiring.how_many_make" Ba ["self","name"]
 am':bi K mg "own_trouble" Dc ["cell","wiring"]
 alE:bi K mg "troubles_in" C6 ["cells","wiring"]
 aem:cN K A.Pg "set_aside" "Page.set_aside" B' ["self","troubles"]
 alS:bi K mg "running_order" Cm ["clear","above"]
 alQ:bi K mg "start_of" ET ["cell","seed"]
 alC:bi K mg "working_of" DF ["cell","seed","sources","results"]
 alY:bi K mg "product_of" xJ ["values"]
 am_:bi K mg "divided" yB ["upper","lower"]
 amc:bi K mg "comes_to" EV ["working"]
 alT:bi K mg "result_from" xA ["working"]
 aen:cN K A.Pg "go_through" "Page.go_through" BO ["self","clear"]
 acm:jj K mg A.Pg "Page" "Page.__init__" Em ["self","notebook"]
 ado:jj K mg A.Nb "Notebook" "Notebook.__init__" Cw ["self"]
 ael:cN K A.Pu "do_on" "PutEdit.do_on" Cv ["self","notebook"]
 aes:cN K A.Dr "do_on" "DropEdit.do_on" Cc ["self","notebook"]
 aeg:cN K A.Se "do_on" "SeedEdit.do_on" B_ ["self","notebook"]
 adi:cN K A.Nb "with_edits" "Notebook.with_edits" Bh ["self","edits"]
 aci:cN K A.Hi "record" "History.record" Cb ["self","edit"]
 aeG:jj K mg A.Pu "PutEdit" "PutEdit.__init__" CQ ["self","cell"]
 alX:bi K mg "put_cell" EU ["history","cell"]
 amn:bi K mg "call_put" EW ["history","reader"]
 aeI:jj K mg A.Dr "DropEdit" "DropEdit.__init__" Cy ["self","number"]
 am9:bi K mg "drop_cell" Eg ["history","number"]
 amv:bi K mg "call_drop" Ek ["history","reader"]
 aeE:jj K mg A.Se "SeedEdit" "SeedEdit.__init__" Cu ["self","new_seed"]
 amd:bi K mg "change_seed" De ["history","new_seed"]
 amj:bi K mg "call_seed" Eh ["history","reader"]
 alU:bi K mg "remember_moment" BK ["history","name"]
 amq:bi K mg "call_moment" Dh ["history","reader"]
 am4:bi K mg "lose_moment" Dd ["history","name"]
 amr:bi K mg "call_lose" Ej ["history","reader"]
 alJ:bi K mg "tell_moments" CM ["history"]
 amp:bi K mg "call_moments" CP ["history","reader"]
 aay:cN K A.Hi "has_position" "History.has_position" Bc ["self","p"]
 aep:cN K A.Hi "cut_behind" "History.cut_behind" Bm ["self","p"]
 am7:bi K mg "go_back" FO ["history","p"]
 amz:bi K mg "call_back" El ["history","reader"]
 amo:bi K mg "call_now" EX ["history","reader"]
 abx:cN K A.Pg "result_of" "Page.result_of" Ca ["self","number"]
 alI:bi K mg "tell_result" C8 ["history","number","p"]
 amm:bi K mg "call_result" Dg ["history","reader"]
 alH:bi K mg "tell_results" CL ["history","p"]
 aml:bi K mg "call_results" CO ["history","reader"]
 alN:bi K mg "tell_differing" B7 ["history","p","q"]
 amw:bi K mg "call_differ" Dj ["history","reader"]
 aan:cN K A.Hi "has_span" "History.has_span" BD ["self","p","q"]
 aek:cN K A.Pu "laid_out" "PutEdit.laid_out" BC ["self"]
 aer:cN K A.Dr "laid_out" "DropEdit.laid_out" Bw ["self"]
 aef:cN K A.Se "laid_out" "SeedEdit.laid_out" Bt ["self"]
 alM:bi K mg "tell_edits" DH ["history","p","q"]
 amu:bi K mg "call_edits" DM ["history","reader"]
 alO:bi K mg "tell_blamed" C_ ["history","number","p"]
 amx:bi K mg "call_blame" DN ["history","reader"]
 aby:cN K A.Pg "passes" "Page.passes" Do ["self","number"]
 alL:bi K mg "tell_flips" DG ["history","number","p","q"]
 amt:bi K mg "call_flips" DL ["history","reader"]
 alP:bi K mg "tell_bisected" Ck ["history","number","p","q"]
 amy:bi K mg "call_bisect" Dk ["history","reader"]
 adk:cN K A.Hi "edit_of_number" "History.edit_of_number" A6 ["self","k"]
 amf:bi K mg "cell_and_above" B9 ["number","page"]
 alV:bi K mg "related_names" Co ["number","page"]
 am1:bi K mg "names_made" DJ ["number","page"]
 am2:bi K mg "makes_related" Cr ["maker","number","before","after"]
 aej:cN K A.Pu "touches" "PutEdit.touches" BN ["self","number","before","after"]
 aeq:cN K A.Dr "touches" "DropEdit.touches" BE ["self","number","before","after"]
 am5:bi K mg "is_seeded" Ef ["number","page"]
 aee:cN K A.Se "touches" "SeedEdit.touches" BA ["self","number","before","after"]
 alF:bi K mg "tell_touching" Cj ["history","number","p","q"]
 amh:bi K mg "call_touching" Ct ["history","reader"]
 am8:bi K mg "failing_refusal" BL ["history","number","p","q"]
 alZ:bi K mg "passes_behind" Cp ["history","number","p","edit_numbers"]
 alK:bi K mg "tell_guilty" C9 ["history","number","p","q"]
 ams:bi K mg "call_guilty" Di ["history","reader"]
 alD:bi K mg "without_needless" Bz ["history","number","p","edit_numbers"]
 alG:bi K mg "tell_shrunk" C7 ["history","number","p","q"]
 ami:bi K mg "call_shrink" Df ["history","reader"]
 ama:bi K mg "count_workings" B8 ["history","p","q"]
 amg:bi K mg "call_workings" Cs ["history","reader"]
 amb:bi K mg "count_runs" DK ["history","p","q"]
 amk:bi K mg "call_runs" Ei ["history","reader"]
 aeF:jj K mg A.Re "Reader" "Reader.__init__" Dn ["self","numbers"]
 aei:cN K A.Re "has_more" "Reader.has_more" BM ["self"]
 aeH:jj K mg A.Hi "History" "History.__init__" CS ["self"]
 calls:Hu K mg ["call_put","call_drop","call_seed","call_moment","call_lose","call_moments","call_back","call_now","call_result","call_results","call_differ","call_edits","call_blame","call_flips","call_bisect","call_touching","call_guilty","call_shrink","call_workings","call_runs"]
section
theorem Wk{A:Ad0}(S:K9 A K mg){f:aa}{fd:dX}(F:aO K "answers" "answers" yC f fd):aI P w K mg Yx aN 11 f fd ["calls"] (vY K):=by
 have T:Txt ⟨A,K⟩ K mg:=⟨S.T,rfl⟩;have Zp:=S.Zp.gm P w Yx T.cRe (λf fd F=>Qy F T);have aeh:=S.aeh.gm P w Yx T.cRe (λf fd F=>Pn F T Zp.up);have aeJ:=S.aeJ.gi P w Yx (λf fd F=>OO F T);have aaX:=S.aaX.gm P w Yx T.YR (λf fd F=>QI F T);have abz:=S.abz.gm P w Yx T.YR (λf fd F=>RC F T aaX.up);have ahk:=S.am6.gf P w Yx (λf fd F=>Qr F T);have alb:=S.ame.gf P w Yx (λf fd F=>No F T ahk.up);have adj:=S.adj.gm P w Yx T.Zq (λf fd F=>QF F T);have aax:=S.aax.gm P w Yx T.Zq (λf fd F=>RA F T);have aet:=S.aet.gm P w Yx T.YY (λf fd F=>Oh F T);have acj:=S.acj.gm P w Yx T.YR (λf fd F=>QK F T);have akX:=S.alW.gf P w Yx (λf fd F=>NI F T alb.up adj.up aax.up aet.up acj.up);have aeo:=S.aeo.gm P w Yx T.Zq (λf fd F=>SR F T);have al2:=S.am3.gf P w Yx (λf fd F=>OD F T);have akS:=S.alR.gf P w Yx (λf fd F=>N_ F T);have al0:=S.am0.gf P w Yx (λf fd F=>MX F T);have aeD:=S.aeD.gi P w Yx (λf fd F=>Qv F T al2.up akS.up al0.up);have aed:=S.aed.gm P w Yx T.Λ (λf fd F=>Rx F T);have al':=S.am'.gf P w Yx (λf fd F=>NJ F T aed.up);have akF:=S.alE.gf P w Yx (λf fd F=>NC F T al'.up);have aem:=S.aem.gm P w Yx T.Y8 (λf fd F=>Pp F T);have akT:=S.alS.gf P w Yx (λf fd F=>MU F T);have akR:=S.alQ.gf P w Yx (λf fd F=>Pd F T);have akD:=S.alC.gf P w Yx (λf fd F=>N7 F T akR.up);have akZ:=S.alY.gf P w Yx (λf fd F=>N' F);have al7:=S.am_.gf P w Yx (λf fd F=>Qt F T);have al_:=S.amc.gf P w Yx (λf fd F=>Ph F T akZ.up al7.up);have akU:=S.alT.gf P w Yx (λf fd F=>NH F T S.ahP S.ahN al_.up);have aen:=S.aen.gm P w Yx T.Y8 (λf fd F=>SQ F T akT.up akD.up akU.up);have acm:=S.acm.gi P w Yx (λf fd F=>QD F T aeo.up aeD.up akF.up aem.up aen.up);have ado:=S.ado.gi P w Yx (λf fd F=>QG F T);have ael:=S.ael.gm P w Yx T.cPu (λf fd F=>Ry F T adj.up);have aes:=S.aes.gm P w Yx T.cDr (λf fd F=>QN F T aax.up);have aeg:=S.aeg.gm P w Yx T.cSe (λf fd F=>Qw F T);have adi:=S.adi.gm P w Yx T.Zq (λf fd F=>QE F T ado.up ael.up aes.up aeg.up);have aci:=S.aci.gm P w Yx T.YR (λf fd F=>RB F T acm.up adi.up abz.up);have aeG:=S.aeG.gi P w Yx (λf fd F=>QB F T);have akY:=S.alX.gf P w Yx (λf fd F=>Pf F T abz.up akX.up aci.up aeG.up aax.up);have alj:=S.amn.gf P w Yx (λf fd F=>Pj F T Zp.up aeh.up aeJ.up akY.up);have aeI:=S.aeI.gi P w Yx (λf fd F=>QP F T);have al6:=S.am9.gf P w Yx (λf fd F=>OF F T abz.up acj.up aci.up aeI.up aax.up);have als:=S.amv.gf P w Yx (λf fd F=>OJ F T Zp.up al6.up);have aeE:=S.aeE.gi P w Yx (λf fd F=>Qx F T);have ala:=S.amd.gf P w Yx (λf fd F=>NK F T abz.up acj.up aci.up aeE.up);have alf:=S.amj.gf P w Yx (λf fd F=>OG F T Zp.up ala.up);have akV:=S.alU.gf P w Yx (λf fd F=>Pe F T ahk.up aaX.up);have aln:=S.amq.gf P w Yx (λf fd F=>NN F T Zp.up akV.up);have al3:=S.am4.gf P w Yx (λf fd F=>UP F T);have alo:=S.amr.gf P w Yx (λf fd F=>OI F T Zp.up al3.up);have akK:=S.alJ.gf P w Yx (λf fd F=>Nn F T);have alm:=S.amp.gf P w Yx (λf fd F=>Nq F T akK.up);have aay:=S.aay.gm P w Yx T.YR (λf fd F=>RD F T aaX.up);have aep:=S.aep.gm P w Yx T.YR (λf fd F=>RE F T);have al5:=S.am7.gf P w Yx (λf fd F=>Qs F T aay.up aaX.up aep.up);have alw:=S.amz.gf P w Yx (λf fd F=>OK F T Zp.up al5.up);have alk:=S.amo.gf P w Yx (λf fd F=>Pk F T aaX.up);have abx:=S.abx.gm P w Yx T.Y8 (λf fd F=>Rz F T S.ahO);have akJ:=S.alI.gf P w Yx (λf fd F=>NE F T aay.up abx.up);have ali:=S.amm.gf P w Yx (λf fd F=>NM F T Zp.up akJ.up);have akI:=S.alH.gf P w Yx (λf fd F=>Nm F T aay.up);have alh:=S.aml.gf P w Yx (λf fd F=>Np F T Zp.up akI.up);have akO:=S.alN.gf P w Yx (λf fd F=>MB F T aay.up abx.up);have alt:=S.amw.gf P w Yx (λf fd F=>NP F T Zp.up akO.up);have aan:=S.aan.gm P w Yx T.YR (λf fd F=>QH F T aay.up);have aek:=S.aek.gm P w Yx T.cPu (λf fd F=>Po F T);have aer:=S.aer.gm P w Yx T.cDr (λf fd F=>ON F T);have aef:=S.aef.gm P w Yx T.cSe (λf fd F=>OL F T);have akN:=S.alM.gf P w Yx (λf fd F=>N9 F T aan.up aek.up aer.up aef.up);have alr:=S.amu.gf P w Yx (λf fd F=>Od F T Zp.up akN.up);have akP:=S.alO.gf P w Yx (λf fd F=>NG F T aay.up abx.up);have alu:=S.amx.gf P w Yx (λf fd F=>Oe F T Zp.up akP.up);have aby:=S.aby.gm P w Yx T.Y8 (λf fd F=>QC F T abx.up);have akM:=S.alL.gf P w Yx (λf fd F=>N8 F T aan.up aby.up);have alq:=S.amt.gf P w Yx (λf fd F=>Oc F T Zp.up akM.up);have akQ:=S.alP.gf P w Yx (λf fd F=>MT F T aan.up aby.up);have alv:=S.amy.gf P w Yx (λf fd F=>NQ F T Zp.up akQ.up);have adk:=S.adk.gm P w Yx T.YR (λf fd F=>QM F T);have ahm:=S.amf.gf P w Yx (λf fd F=>MD F T aax.up);have akW:=S.alV.gf P w Yx (λf fd F=>MV F T ahm.up);have al1:=S.am1.gf P w Yx (λf fd F=>Oa F T aax.up);have ahj:=S.am2.gf P w Yx (λf fd F=>MY F T akW.up al1.up);have aej:=S.aej.gm P w Yx T.cPu (λf fd F=>OM F T ahj.up);have aeq:=S.aeq.gm P w Yx T.cDr (λf fd F=>Og F T ahj.up);have al4:=S.am5.gf P w Yx (λf fd F=>OE F T ahm.up);have aee:=S.aee.gm P w Yx T.cSe (λf fd F=>Of F T al4.up);have akG:=S.alF.gf P w Yx (λf fd F=>MS F T aan.up adk.up aej.up aeq.up aee.up);have ald:=S.amh.gf P w Yx (λf fd F=>M0 F T Zp.up akG.up);have ahl:=S.am8.gf P w Yx (λf fd F=>Mr F T aan.up aby.up);have ahi:=S.alZ.gf P w Yx (λf fd F=>MW F T adk.up acm.up adi.up aby.up);have akL:=S.alK.gf P w Yx (λf fd F=>NF F T ahl.up ahi.up);have alp:=S.ams.gf P w Yx (λf fd F=>NO F T Zp.up akL.up);have akE:=S.alD.gf P w Yx (λf fd F=>Mj F T ahi.up);have akH:=S.alG.gf P w Yx (λf fd F=>ND F T ahl.up akE.up);have ale:=S.ami.gf P w Yx (λf fd F=>NL F T Zp.up akH.up);have al8:=S.ama.gf P w Yx (λf fd F=>MC F T aan.up);have alc:=S.amg.gf P w Yx (λf fd F=>MZ F T Zp.up al8.up);have al9:=S.amb.gf P w Yx (λf fd F=>Ob F T aan.up);have alg:=S.amk.gf P w Yx (λf fd F=>OH F T Zp.up al9.up);have aeF:=S.aeF.gi P w Yx (λf fd F=>QA F T);have aei:=S.aei.gm P w Yx T.cRe (λf fd F=>Qz F T);have aeH:=S.aeH.gi P w Yx (λf fd F=>QJ F T acm.up ado.up);obtain⟨fs,h1,h2,h3⟩:=S.calls;refine Qu F T (by decide) aeF.up aeH.up aei.up Zp.up ⟨fs,h1,λm hm=>?_⟩;have hf:fs[m]? =some (fs[m]'(by rw[h2];exact hm)):=cR _;refine⟨_,hf,?_⟩;revert hf;generalize fs[m]'(by rw[h2];exact hm)=f;intro hf;exact match m,hm,hf with
 |0,_,hf=>alj.up.callee (h3 0 _ _ rfl hf)
 |1,_,hf=>als.up.callee (h3 1 _ _ rfl hf)
 |2,_,hf=>alf.up.callee (h3 2 _ _ rfl hf)
 |3,_,hf=>aln.up.callee (h3 3 _ _ rfl hf)
 |4,_,hf=>alo.up.callee (h3 4 _ _ rfl hf)
 |5,_,hf=>alm.up.callee (h3 5 _ _ rfl hf)
 |6,_,hf=>alw.up.callee (h3 6 _ _ rfl hf)
 |7,_,hf=>alk.up.callee (h3 7 _ _ rfl hf)
 |8,_,hf=>ali.up.callee (h3 8 _ _ rfl hf)
 |9,_,hf=>alh.up.callee (h3 9 _ _ rfl hf)
 |10,_,hf=>alt.up.callee (h3 10 _ _ rfl hf)
 |11,_,hf=>alr.up.callee (h3 11 _ _ rfl hf)
 |12,_,hf=>alu.up.callee (h3 12 _ _ rfl hf)
 |13,_,hf=>alq.up.callee (h3 13 _ _ rfl hf)
 |14,_,hf=>alv.up.callee (h3 14 _ _ rfl hf)
 |15,_,hf=>ald.up.callee (h3 15 _ _ rfl hf)
 |16,_,hf=>alp.up.callee (h3 16 _ _ rfl hf)
 |17,_,hf=>ale.up.callee (h3 17 _ _ rfl hf)
 |18,_,hf=>alc.up.callee (h3 18 _ _ rfl hf)
 |19,_,hf=>alg.up.callee (h3 19 _ _ rfl hf)
 |n+20,hm,_=>absurd hm (by lia)
end
end
end Vm
theorem PySem.W.Fast.te13052408679150730464:True:=trivial
theorem PySem.W.Fast.te5452508617037859911:True:=trivial
theorem PySem.W.Fast.te16555476440528808052:True:=trivial
theorem PySem.W.Fast.te4868988410673395695:True:=trivial
namespace Vm
open PySem PySem.Spec PyProof.Rows L2
def Ln{α:Type}:(List α->Prop)->Nat->Prop
 |P,0=>P []
 |P,n+1=>∀a,Ln (λl=>P (a::l)) n
theorem ln{α:Type}{n:Nat}:∀{P:List α->Prop},Ln P n->∀us:List α,us.length=n->P us:=by
 induction n with
 |zero=>intro P h us e;cases us with|nil=>exact h|cons a us=>cases e
 |succ n ih=>intro P h us e;cases us with|nil=>cases e|cons a us=>exact ih (h a) us (Nat.succ.inj e)
theorem V8{P:ba}{w:aQ}{K:aA}{h:aM}{mg:Str->Option ac}{fa Cl Pu Dr Se Nb Hi Re Wi Pg:aa}(X:K.In h)(G:h.Ns dB mg)(hfa:mg "answers"=some (.ref fa))(aCl:iY K dB "Cell"=some (some (.ref Cl)))(aPu:iY K dB "PutEdit"=some (some (.ref Pu)))(aDr:iY K dB "DropEdit"=some (some (.ref Dr)))(aSe:iY K dB "SeedEdit"=some (some (.ref Se)))(aNb:iY K dB "Notebook"=some (some (.ref Nb)))(aHi:iY K dB "History"=some (some (.ref Hi)))(aRe:iY K dB "Reader"=some (some (.ref Re)))(aWi:iY K dB "Wiring"=some (some (.ref Wi)))(aPg:iY K dB "Page"=some (some (.ref Pg)))(S:K9 ⟨Cl,Pu,Dr,Se,Nb,Hi,Re,Wi,Pg⟩ K mg)(F:bi K mg "answers" yC ["calls"]):
  ∃fd:dX,(∀(s:ai)(us:List ac),us.length=(["calls"]:List Str).length->p8 s fd ⟨us,[]⟩ ((["calls"]:List Str).zip us))/\∀Yx:aM,K.In Yx->Yx.Ns dB mg->aI P w K mg Yx aN 11 fa fd ["calls"] (vY K):=by
 obtain⟨f,fd,h1,h2,h3⟩:=F;rw[hfa]at h2;cases h2;obtain⟨oc,od,kV,Zv,pm,an,YX,ct,Ν,rfl,lk,ο⟩:=h1.ex;exact⟨_,λs=>ln (by intro _;exact .of_eq rfl),λYx _ _=>Wk S h1⟩
end Vm
open PySem PySem.W PyProof.Rows
set_option maxRecDepth 100000 in
set_option maxHeartbeats 0 in
theorem PySem.Challenge.cw_cellmoments_s01_answers_holds : PySem.Challenge.rw_cellmoments_s01_answers.Holds := by
 w_on;k_headS;(case hw=>exact⟨[.list [.int 7]],by decide+kernel,by decide+kernel⟩)
 k_fillS
 refine L2.P4 (r:=K_) (k:=11) (CX:=L2.aN) (ps:=["calls"]) (sp:=Vm.vY) (by decide+kernel) rfl rfl ⟨rfl,by decide,by decide⟩ (λw h Y=>PySem.W.kIn_of Y) ?F ?S (λ_ _ _ _ z=>z)
 case F=>
  intro w mg fa h Y KX G hmg
  refine Vm.V8 KX G hmg (by k_is) (by k_is) (by k_is) (by k_is) (by k_is) (by k_is) (by k_is) (by k_is) (by k_is) ?SS ?FA
  case' SS=>constructor
  case' T=>constructor
  all_goals first|exact Vm.V7 KX G (by k_is)|exact PySem.W.mg_none_of KX G (by k_is)|refine Vm.U7 KX G ?_ (by k_is) (by k_is) (by k_is) (by k_is)|refine Vm.U5 ?_ (by k_is) (by k_is) (by k_is) (by k_is) (by k_is)|refine Vm.U6 KX G ?_ (by k_is) (by k_is) (by k_is) (by k_is) (by k_is) (by k_is) (by k_is) (by k_is)|exact⟨by k_is,by k_is,by k_is,by k_is⟩|exact Vm.JA KX G (by k_is) (by k_is) rfl rfl (by decide) (.cons ⟨_,rfl⟩ (.cons ⟨_,rfl⟩ .nil))|(show iE _ _ _=_;k_is)|exact Vm.PD (fs:=[_,_,_,_,_,_,_,_,_,_,_,_,_,_,_,_,_,_,_,_]) (Vm.JA KX G (by k_is) (by k_is) rfl rfl (by decide) (.cons rfl (.cons rfl (.cons rfl (.cons rfl (.cons rfl (.cons rfl (.cons rfl (.cons rfl (.cons rfl (.cons rfl (.cons rfl (.cons rfl (.cons rfl (.cons rfl (.cons rfl (.cons rfl (.cons rfl (.cons rfl (.cons rfl (.cons rfl .nil))))))))))))))))))))) (.cons (eU KX G (by k_is)) (.cons (eU KX G (by k_is)) (.cons (eU KX G (by k_is)) (.cons (eU KX G (by k_is)) (.cons (eU KX G (by k_is)) (.cons (eU KX G (by k_is)) (.cons (eU KX G (by k_is)) (.cons (eU KX G (by k_is)) (.cons (eU KX G (by k_is)) (.cons (eU KX G (by k_is)) (.cons (eU KX G (by k_is)) (.cons (eU KX G (by k_is)) (.cons (eU KX G (by k_is)) (.cons (eU KX G (by k_is)) (.cons (eU KX G (by k_is)) (.cons (eU KX G (by k_is)) (.cons (eU KX G (by k_is)) (.cons (eU KX G (by k_is)) (.cons (eU KX G (by k_is)) (.cons (eU KX G (by k_is)) .nil))))))))))))))))))))
  all_goals exact λ_ _ _ _ _ _=>Vm.ln (by(repeat intro _);exact rfl)
 case S=>
  intro K H xs a hO hwi akg hx
  cases hx with
  |cons h1 h2=>
   cases h2
   cases h1 with
   |lst hs ha=>
    have e:=L2.Ir a.1 _ ha
    subst e
    obtain⟨ks,q1,_,q2,q3⟩:=Vm.V' (l:=a.1) akg
    refine⟨_,a.1,ks,rfl,Vm.kj.of hs hO,q1,q2,λH' p hp=>?_⟩
    have hp':H' p=some (.lst ((Ce a.1).map L2.V.int)):=by rw[q3];exact hp
    exact .lst (L2.ay.of hp') (L2.IC _)
