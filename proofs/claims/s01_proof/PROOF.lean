import PyProof.Rows.All
import Wide.All
import OpenK.AllK
import Wide.FinOn
import PyProof.EqAt
import PyProof.EqKinds
import PyProof.TupleCall
import KE.BitLaws
import Open.SpecLaws
import KE.OsHead
import KE.OsGo
import KE.SpHead
import KE.OsShapes
import KE.KDictList
import KE.KSortTupAny
import KE.KSortTupUse
import KE.KSortedAny
import PySem.Challenge.RW_cellsheets_s01_answers
import PySv69
set_option Elab.async false
set_option linter.all false
set_option maxRecDepth 100000
set_option maxHeartbeats 0
set_option autoImplicit true
set_option compiler.extract_closed false
set_option tactic.hygienic false
set_option genSizeOf false
section
def rwWell:PySem.Challenge.rw_cellsheets_s01_answers.wellSaid=true:=by decide+kernel
open PySem PySem.W PyProof.Rows
local macro_rules|`(tactic|o_law)=>`(tactic|skip)
local macro_rules|`(tactic|k_head)=>`(tactic|k_headS)
local macro_rules|`(tactic|w_witness2)=>`(tactic|exact ⟨[.list []],by decide+kernel,by decide+kernel⟩)
local macro_rules|`(command|#version)=>do
 let mut a:=#[]
 for n in `PySem.Challenge.pw_cellsheets_s01_answers::((List.range 1240).map (s!"o_{·}")++["heap_1","view_1"]++[13,85,129,158,187,217,248,263,342,413,471,565,634,716,756,1029,1111,1114,1200].flatMap λk=>[s!"sts_{k}",s!"sts_{k-1}"]).map (.str `hd) do
  a:=a.push (<-`(command|theorem $(Lean.mkIdent (.str `PySem.W.Fast s!"tw{n.hash}")) :True:=trivial)).raw
 return Lean.mkNullNode a
#version
open_top hd for PySem.Challenge.rw_cellsheets_s01_answers
end
abbrev ag:=PySem.Addr
def au:=@if_neg
def az:=@if_pos
def aD:=@decide_eq_true
abbrev aH:=PySem.FuncData
abbrev aJ:=PySem.Shared
def aX:=@decide_eq_true_eq
def ba:=@decide_eq_false
def cb:=@of_decide_eq_true
def cK:=@congrArg
def fO:=@beq_iff_eq
abbrev kE:=PySem.Program
def lg:=@decide_eq_decide
def lC:=@if_false
def nA:=@beq_eq_false_iff_ne
def rb:=@if_true
def EJ:=@bne_iff_ne
def Kb:=@of_decide_eq_false
def QF:=@beq_self_eq_true
def acF:=@decide_eq_true_iff
def atn:=@ne_eq
def az5:=@or_false
open List renaming length_map->ae,length_cons->ak,mem_map->aG,length_append->aI,mem_cons_of_mem->aL,mem_cons_self->aM,getElem?_eq_some_iff->aQ,map_append->aT,getElem?_map->aV,mem_cons->aY,getElem?_eq_getElem->aZ,mem_filter->bo,map_map->bq,mem_singleton->br,mem_map_of_mem->bu,size_toArray->bz,mem_of_getElem?->bI,mem_append->bL,nodup_cons->bR,map_cons->bW,length_take->b7,append_assoc->cz,filter_eq_self->cD,length_filter_le->cN,filter_cons->cQ,map_congr_left->cW,append_nil->cX,take_length->de,pairwise_map->dm,mem_append_right->dB,nodup_append->dH,take_append_drop->dP,length_drop->eh,all_eq_true->eA,filter_sublist->eG,cons_append->eQ,filter_append->eT,getD_eq_getElem?_getD->eY,find?_cons->fT,range->f7,mem_append_left->gg,length->gh,pairwise_iff_getElem->gs,length_nil->gu,flatMap_append->gE,flatMap_cons->gJ,filter_congr->gK,mem_filterMap->gW,all_cons->gX,flatten_singleton->iw,mem_range->iM,getD_cons_zero->jC,filterMap_cons->jD,length_singleton->j0,getElem?_set->kL,map_nil->lD,getD_cons_succ->lL,lookup_cons->ml,take_of_length_le->mq,pairwise_cons->mK,Nodup->nI,perm_ext_iff_of_nodup->ou,mem_iff_getElem->oJ,drop_eq_getElem_cons->pM,flatMap_map->pV,nil_append->sk,length_set->sm,pairwise_lt_range->uD,flatMap_singleton->uE,lookup->uH,length_range->uI,flatten_cons->uJ,mem_flatMap->wq,getElem?_set_ne->xS,any_cons->xX,map_id->zg,flatten_append->zh,filter_map->zi,getElem?_append_right->zM,take_zero->Bf,length_eq_zero_iff->EL,getElem?_replicate->EM,getElem?_cons_zero->EN,any_eq_true->Ho,getElem?_set_self->HV,drop_eq_nil_of_le->HW,getElem?_eq_none->Kf,filterMap_append->Kg,all_nil->Kh,forIn_nil->NX,sum_cons->QI,any_map->Va,not_mem_nil->Vg,map_flatMap->Vh,mem_zipIdx_iff_getElem?->Wl,of_mem_zip->XO,forIn_cons->XQ,filter_nil->XR,take_left->aah,length_filterMap_le->acL,mem_singleton_self->acX,map_take->acY,map->acZ,getElem?_cons_succ->ac0,range_succ_eq_map->aeL,length_pos_of_mem->aeM,filter_eq_nil_iff->aeN,set_append_right->afT,perm_append_comm->afU,pairwise_flatMap->afV,length_replicate->afW,getElem_toArray->ahK,getElem?_take->akk,find?_eq_none->akl,filterMap_map->akm,ext_getElem?->akT,any_eq_false->akU,zipIdx_cons->amQ,perm_middle->amR,nodup_range->amS,getElem_map->amT,drop_length->amU,zipIdx_nil->anP,range_succ->anQ,drop_zero->apV,drop_drop->apW,map_drop->aqH,map_set->atM,all_map->atN,filter->avf
open PySem renaming wpAny_bind->af,wpAny_pure->aN,mem_of_lookup->dk,wpAny_truthy_bool->dR,wpAny_call_entry->eW,wpAny_callSpecial?_slot->fz,wpAny_setField_rec->gw,wpAny_Call_Name_kw->gx,wpAny_newObj_type->gT,wpAny_dictEntries->gU,wpAny_field->ip,wpAny_mono->jT,tupleKind_room_in1->kC,wpAny_Call_method->lU,wpAny_typeNameOfWhole_itemiter->mn,wpAny_typeNameOfWhole_keyiter->mW,wpAny_passesOwn->oV,size_of_entries->oW,wpAny_holding->pR,Value->pT,wpAny_typeNameOf_itemiter->rn,wpAny_seqItems->rq,wpAny_typeNameOf_keyiter->sY,wpAny_execs_nil->uT,wpAny_dictEpoch->uU,wpAny_notOrdered_dict->yh,evalArgs_none->yi,wpAny_attempt->A9,call_meetsIn->EI,wpAny_setField->Hi,wpAny_pyIter_slot->IV,wpAny_letGo->Lu,sizeLine_eq->Lv,wpAny_isOneOf_itemiter->NV,pushCells_keeps->Pf,codeAny_mono->Pg,wpAny_rule->QE,wpAny_fieldsOf->RU,wpAny_pyIter_list->ZX,seqIndex_neg->aad,wpAny_isInstance->acD,wpAny_execs_cons->acE,seqIndex_of->aeH,Within->aeK,wpAny_missedRemoval_other->ahy,method_meetsIn->ahz,isSubtype_stop->ahA,wpAny_onRaise->akf,wpAny_handled->akg,nums_intItems->akh,wpAny_getItem_list_neg->akO,wpAny_isTrue_Compare1->amM,wpAny_isOneOf_keyiter->amN,wpAny_updateSeq_pair->anJ,wpAny_loadName_local->anK,getD_mem->anO,wpAny_throw->apQ,wpAny_of_eq->apR,wpAny_loadName_cell->apS,wpAny_pyIter_tuple->aqA,numAt_eq->aqB,entry_at->aqE,wpAny_call->atj,wpAny_Name->atk,wpAny_Assign_Name->atl,slot_list_getitem->atm,meets_dict_values->ato,wpAny_pyIter_zip->auR,wpAny_Dict_empty->auS,noFill_tuple_add->auT,call->auW,wpAny_newTuple->az3,wpAny_Compare1->az4,wpAny_standAt->aDk,seq_tuple_add->aDl,intBits_le_64->aDm,evalPart_none->aDn,call_list_seq->aDo,concat_meets->aEx
open PySem.W renaming Frag->ah,findIn->gm,emptyDict->iq,keepIn->jf,instObj->ku,callWith_K->mj,hideAll_none->nB,plainGet->uV,hideAll_get->xQ,of_hideAll->ze,fnOf->zf,hasDictIn->Ba,funFrames_hide->Ez,methodCall_KW->Hj,isFn->Hk,hideAll->Hl,lookIn->Ke,plainGet_of->LA,callWith_K0->LB,mg_of->NW,plainOver->Ph,methodObj->Pj,length_le_weightAllW->RV,takerIn->U7,makesIn->U8,codeIn->Wi,excIn->ZZ,cellsFrom_some->aae,nsIn->acI,kdl_call->ahY,handedIn->ahZ,WalkOS->akR
open Option.some renaming inj->ay,injEq->dU
open PySem.Heap renaming get?_push_of_some->aB,get?_push_size->bf,lt_size->bK,size_push->dJ,SameBut->hZ,get?_update_self->vL,get?_update_other->aeO,FlyingW->afX,ExtBut->ah2,MadeExcOf->ap0
open Bool renaming and_eq_true->aC,false_ne_true->bj,true_and->bM,false_and->cq,eq_iff_iff->cO,and_true->dh,false_eq_true->eB,and_false->eU,noConfusion->fy,decide_and->kM,and_assoc->pO,or_eq_true->so,not_eq_true->wt,eq_false_iff->DF,false_or->EO,decide_or->NZ,true_or->afZ,and_eq_true_iff->ahL,and_comm->aqM
open Sv69Neutral renaming natural->aP,step->m9,octets->wo,asked1->IW,wide->acW,callOf->ayv
open Nat renaming le_refl->aS,le_trans->b9,lt_of_lt_of_le->cF,ne_of_lt->dX,le_of_lt->dY,zero_le->eI,lt_irrefl->g0,ne_of_beq_eq_false->iD,le_add_right->jc,add_sub_cancel_left->jv,ne_of_gt->nE,min_eq_left->nG,le_of_ble_eq_true->nH,lt_of_le_of_lt->sO,le_add_left->sP,lt_succ_self->xR,le_of_eq->Be,le_of_succ_le->EB,le_of_not_lt->HU,lt_or_gt_of_ne->Ry,add_sub_cancel->Rz,lt_succ_of_lt->U9,sub_self->Vf,le_succ->Z4,succ_mul->ahH,lt_or_ge->ahI,add_comm->ahJ,zero_add->ave,mod_lt->aAc
open Sv69 renaming cellTo->aU,nat->bA,formulaIn->bH,many->bQ,areaTo->bT,does->bU,ofBytes->bV,bytes->cg,valueIn->cw,Book->cy,Content->cE,nameOk->cI,spot->dA,said->dG,leads->dQ,formulaOk->dZ,areaOk->d7,spotIn->eE,copied->eF,valueOut->eP,Change->eZ,size->fw,putCell->fQ,most->fR,follow->fS,sheetIn->gj,fits->gV,sizes->gZ,ok->h9,copiedAll->ju,followAll->j9,meant->kJ,deep->kK,leadsAll->lI,before->lJ,fresh->mm,whole_->nc,opOk->ng,HOME->pJ,alongIn->rf,cellOk->uG,spotArea->xV,out->xW,formulasOk->zb,contentOut->zd,contentIn->Bc,Call->DB,sheetTo->Kc,P->Kd,num->Lx,nameByte->QG,titleOk->U6,empty->acG,inOrder->afQ,along->akQ,outs->anL,fail->anM,deeps->ayw,CELLS->ayx,REF->aDp
open Sum renaming inl->bh,inr->ZY
open PySem.Value renaming ref->bw,none->fZ,int->oX,bool->pW,type->CG,str->Wh,isStrOf->apT,isInt->atr,float->att,bytes->atu
open Option renaming bind_some->bG,bind_assoc->dD,isSome_iff_exists->gD,map->jV,some->sZ,none->DC,isSome_map->QH,bind_none->RW,map_some->Ve,map_eq_some_iff->acJ,map_eq_none_iff->acK,isSome_some->ahD,isNone_some->ahE,isNone_none->ahF,getD_none->akj
open Wbk renaming Formula->bO,Cell->bP,Area->cH,utf8->gO,between->iK,Bytes->iW,Spot->oq,Value->pS,ROWS->vG,COLS->vH,Along->Lw,fits->atq
open List.cons renaming inj->cu
open PySem.F renaming plainAttrs_list->cV,type_list_extend->fE,slot_list_extend->fF,slot_dict_keyiterator_next->fL,slot_dict_itemiterator_next->jk,slot_dict_pop->jU,slot_dict_keyiterator_iter->nh,type_list_append->pK,slot_list_append->pL,slot_tuple_iterator_next->pN,plainAttrs_dict->rh,slot_dict_values->DE,entry_dict_pop->EA,type_dict_pop->Hm,slot_dict_get->Hn,slot_zip_next->NY,excBase_Exception->Wj,plainAttrs_dict->Wm,args_dict_itemiterator_next_1->Wn,args_tuple_add_2->XM,entry_dict_itemiterator_next->XS,args_dict_keyiterator_next_1->XT,args_dict_keyiterator_iter_1->XU,entry_tuple_add->Z0,args_dict_pop_3->Z1,args_dict_pop_2->Z2,args_dict_get_2->Z3,entry_dict_keyiterator_next->Z5,entry_dict_keyiterator_iter->Z6,slot_tuple_add->aaf,entry_dict_get->aag,args_tuple_iterator_next_1->aai,entry_tuple_iterator_next->acN,slot_dict_items_iter->ah3,args_dict_values_1->akV,entry_dict_values->amV,type_dict_values->anR,slot_dict_items->ap1,args_zip_next_1->ap2,slot_dict_iter->aqK,entry_zip_next->aqL,slot_dict_len->atP
open Wbk.Cell.mk renaming injEq->df
open Int renaming toNat_natCast->dz,toNat_of_nonneg->iL,mul_nonneg->CH,natCast_mul->apY,ediv_nonneg->apZ,mul_comm->avg,le_refl->ayz
open UInt8 renaming ofNat->dI,toNat_ofNat'->ahX,toNat->atv
open Sv69.Area renaming at_->d6,within->iP
open List.Perm renaming append_right->fo,of_eq->ji,trans->wc,append_left->EC,symm->HX,refl->Vb,eq_of_pairwise->Vi,swap->ah1,map->aDu
open PySem.Builtin.SmallTypes renaming nextOf->fM,ownedTupleIsFree->iN,ownedTupleHandOut->zL
open Array renaming length_toList->fP,getElem?_eq_getElem->j7,getElem?_toList->mX,toArray_toList->wu,getElem?_eq_some_iff->XX,getElem?_eq_none->ac1,toList->aeP
open PySem.Paired renaming length->fX,snoc->aqG
open PySv69 renaming shape->gd,whole->zK,answers->XJ,answers_asked->aeJ,bound->apU
open PySem.Builtin.Range renaming rangeSize->gB,small->Wo,rangeFitsLong->atR
open PyProof.Rows renaming callWith_type1->gC,Constant_none->ako,subscriptTail_builtinR->akP,ite_tt->aqC,ite_ff->aqD,chain_link->atp,Subscript_->atw,iadd_int->avc,callWith_builtin1->avd,test_link->ayu,Compare_chain->aDw,listItems_at->aEu,isTrue_plain->aEv,isTrue_chain->aEw
open Sv69.Along renaming to_->gH
open False renaming elim->gI
open PySem.Challenge renaming rw_cellsheets_s01_answers->gM
open Classical renaming byContradiction->ir
open PySem.Builtin.Dict_items renaming ownsTuple->iy,ownedTupleIsFree->zN,ownedTupleFields->zO,pairFromOwner->CI,newIterator->akW,dictOf->akX
open PySem.Calls renaming spliced_cons->iX,callWith_builtin->jE,evalArgs_plain->kz,spliced_nil->kD,Name_function_global->XW,call_function_entry->Z7
open PySem.Heap.SameBut renaming update->i4
open PyFlat renaming rows->jZ,call->lh,calls->pU,row->IX
open Prod.mk renaming inj->kZ
open PySem.Str renaming ofString->lK,empty->aDr
open Or renaming inl->oY,inr->EK
open PySem.Builtin.Dict renaming showsAll->rl,keyAndDefault->Pk,takeOut->Wq,pendingCount->avj,noArgs->avk,dictSlotNone->avl
open True renaming intro->uF
open Wbk.Area renaming rows->vI,cols->vJ,has->amO
open PySem.NameKind renaming free->vK,cell->XN
open List.Pairwise renaming imp->xT,filter->Vj,imp_of_mem->atO
open PySem.Builtin.List renaming listTooLong->xY,listExtendWith->avi
open Wbk.Spot renaming cell->Bb
open PySem.Obj renaming data_mapFields->Bd,mapSeq->LH,isFreed_of_fields->ahG,data_mapDictKeys->ah0,cls_mapFields->amP,mapFields->atL
open Ne renaming symm->DD
open ForInStep renaming yield->ED
open Sv69.Cell renaming put->Ly,across->afR,along->ahC
open Sv69.Book renaming put->Lz,sheet->Rx,change->afS,at_->aDq
open Prod renaming fst->LC,ext->Wk
open Wbk.Along renaming from_->Rv
open PySem.SeqAt.EqAt renaming of_refs->acH,str_int->az8,same->az9,int_str->aAa,int_int->aAb
open PyProof.Rows.G renaming tupKeyC->acM
open PySem.Around renaming under->ac2
open Sum.inl renaming inj->aeI
open PySem.Code renaming isFrame->afY,frames->avh
open PySem.Value.type renaming inj->ahB
open PySem.SeqAt renaming EqAt->aki
open PySem.Data renaming seq->akn,dict->aAd
open PyInside renaming call->akS
open PySem.Shared renaming TypeIs->anN,heap->aqF
open PySem.IsRange renaming new->apX
open PySem.Heap.UpToSlots renaming of_keeps->aqI
open PySem.Heap.IsSliceOf renaming new->aqJ
open StateT renaming run->atx
open PySem.W.Looks renaming here->aty
open PySem.EqMixed renaming ne_str_int->atA,ne_str_bool->atB,ne_int_str->atD,ne_bool_str->atE,eq_str_int->atF,eq_str_bool->atG,eq_int_str->atH,eq_bool_str->atJ
open PySem.CmpOp renaming NotIn->atQ,In->aAe
open PySem.Walks renaming list->auU
open Sv69.Content renaming ok->auV
open PySem.Within renaming cons->auX
open PySem.EqNone renaming ne_str_none->auY,ne_none_str->auZ,ne_none_none->au0,ne_none_int->au1,ne_none_bool->au2,ne_int_none->au3,ne_bool_none->au4,eq_str_none->au5,eq_none_str->au6,eq_none_none->au7,eq_none_int->au8,eq_none_bool->au9,eq_int_none->ava,eq_bool_none->avb
open PyProof.Rows.IsTup renaming new->ayy
open PySem.Heap.IsList renaming push->ayA
open PySem.Heap.DictOf renaming new->ayB
open PySem.SeqAt.RcAt renaming lists_lengths->az6,lists->az7
open PySem.IsL renaming update->aDs
open PySem.PassesOwn renaming leaving->aDt
open PySem.DictEntry renaming refKey->aDv
open Nat.succ renaming inj->aEy
open PySem.MeetsSeq renaming list_pop_last->aEz
open PySem.Heap.Ns1 renaming of_empty->aEA
open Function renaming comp->aEB
open PySem.Data.seq renaming injEq->aEC
inductive Ez2 {a b} (p:a->b->Prop):Prop|mk i j:p i j->Ez2 p
inductive Ez3 {a b c} (p:a->b->c->Prop):Prop|mk i j k:p i j k->Ez3 p
inductive Ez4 {a b c d} (p:a->b->c->d->Prop):Prop|mk i j k l:p i j k l->Ez4 p
inductive Ez5 {a b c d e} (p:a->b->c->d->e->Prop):Prop|mk i j k l m:p i j k l m->Ez5 p
inductive Ez6 {a b c d e f} (p:a->b->c->d->e->f->Prop):Prop|mk i j k l m n:p i j k l m n->Ez6 p
inductive Ez7 {a b c d e f g} (p:a->b->c->d->e->f->g->Prop):Prop|mk i j k l m n o:p i j k l m n o->Ez7 p
inductive Ez8 {a b c d e f g h} (p:a->b->c->d->e->f->g->h->Prop):Prop|mk i j k l m n o q:p i j k l m n o q->Ez8 p
local macro_rules|`(∃$xs:explicitBinders,$b)=>do
 let r:=xs.raw[0]
 let gs:=if r.isOfKind `Lean.unbracketedExplicitBinders then #[(r[0].getArgs,if r[1].getNumArgs=0 then none else some r[1][1])]else r.getArgs.map λg=>(g[1].getArgs,some g[3])
 let l:=gs.toList.flatMap λ(a,t)=>a.toList.map (·,t)
 if l.length<2 then throw .unsupportedSyntax
 let k:=min 8 l.length
 let mut e:=b
 let mut n:=0
 for (x,t) in l.reverse do
  let x:Lean.Term:=⟨x[0]⟩
  e<-match t with|some t=> `(fun($x:term : $(⟨t⟩))=>$e)|none=> `(fun $x=>$e)
  n:=n+1
  if n=k then e<- `($(Lean.mkIdent (.mkSimple s!"Ez{k}")) $e)
  if n>k then e<- `(Exists $e)
 return e
local macro_rules|`(command|$m:declModifiers def $n:declId $s:optDeclSig $v:declVal)=>if m.raw.getArgs.all (·.isNone) then `(command|noncomputable def $n:declId $s:optDeclSig $v:declVal) else throw .unsupportedSyntax
local macro_rules(kind:=Lean.Parser.Command.declaration)|s=>if s.getPos?.isNone then throw .unsupportedSyntax else return s.rewriteBottomUp (·.setInfo .none)
noncomputable section
set_option hygiene false
local macro_rules|`(tactic|cases $h:ident)=>`(tactic|first|subst $h|(injection $h;done)|(replace $h:ident:=Option.some.inj $h;cases $h:ident)|((first|replace $h:ident:=Prod.mk.inj $h|replace $h:ident:=List.cons.inj $h);obtain⟨$h:ident,qY⟩:=$h;cases $h:ident;cases qY)|cases ($h))
set_option hygiene true
local macro_rules|`(tactic|fail)=>`(tactic|omega +splitNatSub)
local macro_rules|`(tactic|omega)=>`(tactic|lia +lia)
namespace L2
open PySem PySem.Spec PyProof.Rows
variable {us dM ds its':List pT} {x m qual:Str} {u cd doc pm Ri ct oc cls ov:pT} {a it ti l C dx d L z ia ib la lb:ag} {P prog:kE} {w:World} {h h' h1 base:Heap} {e c tg iter À value:Expr} {ex ch S:List ag} {pins:List (ag×Obj)} {s s' s2:aJ} {g':Array GenState} {t' i n ep ka kb kk:Nat} {d':Drawn} {N ps:List Str} {M:Model} {A:Around} {op î ź:CmpOp} {rest es æ ÿ:List Expr} {K:ah} {st Þ:Stmt} {pos' ű apos p2 iA np aoZ:Pos} {lo:Int} {pl:PySem.Sem Bool} {body aeZ:List Stmt} {mA mg:Str->Option pT} {ns:List Int} {kw:List (Str×pT)} {env:Env} {fd:aH} {outer:List Env} {kindOf:Str->Option NameKind} {sc scope:Scope} {an:Option ag} {od:Obj} {osl:Array (Option pT)} {T:String} {own:List (Str×Nat)} {en:DictEntry} {cl:Str->Option ag} {Pm:Params}
abbrev Key:=Sum Int Str
def MQ:Key->Value->Bool
 |.inl k,v=>atr k v
 |.inr x,v=>apT x v
def awe (w:World):Key->Int
 |.inl k=>hashInt k
 |.inr x=>hashStr w x
theorem jd:∀{k:Key} {v:Value},MQ k v=true->(∃i t,k=bh i/\v=oX i t)\/(∃x t,k=ZY x/\v=Wh x t)
 |.inl i,v,h=>by
  obtain⟨t,e⟩:=Value.isInt_shape (k:=i) (v:=v) h;exact .inl ⟨i,t,rfl,e⟩
 |.inr x,v,h=>by
  obtain⟨t,e⟩:=Value.isStrOf_shape (x:=x) (v:=v) h;exact .inr ⟨x,t,rfl,e⟩
def agK (i:Int) (t:Tok):MQ (.inl i) (.int i t)=true:=by simp[MQ,atr]
def agJ (x:Str) (t:Tok):MQ (.inr x) (.str x t)=true:=by simp[MQ,apT]
def aoO (a b:Int):decide ((bh a:Key)=bh b)=(a==b):=by
 by_cases e:a=b
 ·subst e;simp
 ·have h:¬(bh a:Key)=bh b:=λq=>e (aeI q)
  rw[ba h];exact(nA.mpr e).symm
def aoL (a b:Str):decide ((ZY a:Key)=ZY b)=decide (a=b):=by
 by_cases e:a=b
 ·subst e;simp
 ·have h:¬(ZY a:Key)=ZY b:=λq=>e (Sum.inr.inj q)
  rw[ba h,ba e]
def aoN (a:Int) (b:Str):decide ((bh a:Key)=ZY b)=false:=ba (λq=>nomatch q)
def aoM (a:Str) (b:Int):decide ((ZY a:Key)=bh b)=false:=ba (λq=>nomatch q)
def fG (prog:kE) (w:World):PySem.KeyKind prog w Key where
 is:=MQ
 hash:=awe w
 inj:=λv a b n l=>by
  rcases jd n with⟨i,t,rfl,rfl⟩|⟨x,t,rfl,rfl⟩
  ·rcases jd l with⟨j,u,rfl,e⟩|⟨y,u,rfl,e⟩
   ·injection e with d _;rw[d]
   ·exact nomatch e
  ·rcases jd l with⟨j,u,rfl,e⟩|⟨y,u,rfl,e⟩
   ·exact nomatch e
   ·injection e with d _;rw[d]
 byValue:=λk v h=>by
  rcases jd h with⟨i,t,rfl,rfl⟩|⟨x,t,rfl,rfl⟩<;>rfl
 pyHash:=λg h=>by
  rcases jd g with⟨i,t,rfl,rfl⟩|⟨x,t,rfl,rfl⟩
  ·exact wpAny_pyHash_int h
  ·exact wpAny_pyHash_str h
 eqBool:=λm g h=>by
  rcases jd m with⟨i,t,rfl,rfl⟩|⟨x,t,rfl,rfl⟩
  ·rcases jd g with⟨j,u,rfl,rfl⟩|⟨y,u,rfl,rfl⟩
   ·rw[aoO]at h;exact wpAny_eqBool_int h
   ·rw[aoN]at h;exact aAa i t y u _ _ _ _ h
  ·rcases jd g with⟨j,u,rfl,rfl⟩|⟨y,u,rfl,rfl⟩
   ·rw[aoM]at h;exact az8 x t j u _ _ _ _ h
   ·rw[aoL]at h;exact wpAny_eqBool_str h
 «strs»:=λk x t v h=>by
  rcases jd h with⟨i,u,rfl,e⟩|⟨y,u,rfl,e⟩
  ·exact nomatch e
  ·injection e with d _
   subst d;cases v<;>rfl
def abk (prog:kE) (w:World) (i:Int) (t:Tok):(fG prog w).is (.inl i) (.int i t)=true:=agK i t
def abj (prog:kE) (w:World) (x:Str) (t:Tok):(fG prog w).is (.inr x) (.str x t)=true:=agJ x t
inductive V where
 |m6|bl (b:Bool)|int (i:Int)|str (x:Str)|Zv (b:Array UInt8)|flt (b:UInt64)|ref (a:ag)|ty (n:String)
 deriving DecidableEq
variable {xs dvs:List V} {y:V}
def RelV:V->Value->Prop
 |.m6,u=>u=fZ
 |.bl b,u=>u=pW b
 |.int i,u=>∃t,u=oX i t
 |.str x,u=>∃t,u=Wh x t
 |.Zv b,u=>∃t,u=atu b t
 |.flt b,u=>∃t,u=att b t
 |.ref a,u=>u=bw a
 |.ty n,u=>u=CG n
abbrev Vals:List V->List Value->Prop:=Paired RelV
def Vals.length (r:Vals xs us):xs.length=us.length:=fX r
theorem Vals.get:∀{xs:List V} {us:List Value} {i:Nat} {x:V},Vals xs us->xs[i]? =some x->∃u,us[i]? =some u/\RelV x u
 |_,_,_,_,.nil,e=>by simp at e
 |_,_,0,_,.cons r _,e=>by simp at e;subst e;exact⟨_,rfl,r⟩
 |_,_,i+1,x,.cons _ t,e=>by
  obtain⟨u,h1,f⟩:=Vals.get (i:=i) (x:=x) t (by simpa using e);exact⟨u,by simpa using h1,f⟩
theorem Vals.set {x:V} {u:Value} (r:RelV x u):∀{xs:List V} {us:List Value} (i:Nat),Vals xs us->Vals (xs.set i x) (us.set i u)
 |_,_,_,.nil=>.nil
 |_,_,0,.cons _ t=>.cons r t
 |_,_,i+1,.cons q t=>.cons q (Vals.set r i t)
theorem Vals.append {xs ys:List V} {us ws:List Value} (h:Vals xs us) (s:Vals ys ws):Vals (xs++ys) (us++ws):=by
 induction h with
 |nil=>exact s
 |cons r _ i=>exact .cons r i
theorem Vals.take:∀{xs:List V} {us:List Value} (n:Nat),Vals xs us->Vals (xs.take n) (us.take n)
 |_,_,0,_=>.nil
 |_,_,_+1,.nil=>.nil
 |_,_,n+1,.cons r t=>.cons r (Vals.take n t)
theorem Vals.drop:∀{xs:List V} {us:List Value} (n:Nat),Vals xs us->Vals (xs.drop n) (us.drop n)
 |_,_,0,r=>r
 |_,_,_+1,.nil=>.nil
 |_,_,n+1,.cons _ t=>Vals.drop n t
def Co:Option V->Option Value->Prop
 |some v,some u=>RelV v u
 |none,none=>True
 |_,_=>False
def KV {κ:Type}:List (κ×V)->List (κ×Value)->Prop:=Paired fun(p:κ×V) (q:κ×Value)=>p.1=q.1/\RelV p.2 q.2
def kV:Key->V
 |.inl i=>.int i
 |.inr x=>.str x
inductive HO where
 |lst (xs:List V)
 |tup (xs:List V)
 |dK (kvs:List (Key×V))|dT (kvs:List (List Key×V))
 |set (S:Int->Bool) (n:Nat)
 |ins (C dx:ag) (fs:List (Str×V))
 |own (x:ag)
 |xd (fs:List (Str×V))
 |met (f x:ag)
 |rng (lo hi:Int)
 |gb (o:Obj) (u:HO)
 |tbl (ps:Array Value)
 |ext (φ:Heap->Prop)
variable {ob:HO}
abbrev Hp:=ag->Option HO
variable {H H' H1 H2 H4:Hp}
def bB (H:Hp) (a:ag) (o:HO):Hp:=λb=>if b=a then some o else H b
def ao:bB H a o a=some o:=by unfold bB;rw[az rfl]
def aw {b:ag} (h:b≠a):bB H a o b=H b:=by unfold bB;rw[au h]
def C1 {b:ag} {u:HO} (h:H a=some o) (h':H b=some u) (d:o≠u):a≠b:=by
 intro e;subst e;rw[h]at h';exact d (ay h')
def bp {b:ag} (h:H a=some o) (h':H b=none):a≠b:=by
 intro e;subst e;rw[h]at h';cases h'
section
variable (P:kE) (w:World)
def js (H:Hp) (h:Heap) (a:ag):HO->Prop
 |.lst xs=>xs.length<=sizeLine/\∃(F:List Value) (n:Nat),Vals xs F/\h.get? a=some {cls:=.type "list",data:=.seq F.toArray n}
 |.tup xs=>xs.length<=sizeLine/\∃F:List Value,Vals xs F/\IsTup h a F.toArray
 |.dK kvs=>kvs.length<=sizeLine/\(a==sysModules)=false/\∃vs,KV kvs vs/\h.DictOf (fG P w) a vs
 |.dT kvs=>kvs.length<=sizeLine/\(a==sysModules)=false/\∃xs:List (List Key×ag×Value),
  Paired (fun(p:List Key×V) (q:List Key×ag×Value)=>p.1=q.1/\H q.2.1=some (.tup (p.1.map kV))/\RelV p.2 q.2.2) kvs xs/\
  ∃o es ep,h.get? a=some o/\o.ExactDict/\o.data=.dict es ep/\es.toList=xs.map (entryOfKey (tupleKind (fG P w)))/\(xs.map (·.1)).Nodup
 |.set S n=>h.SetOf (intKind P w) a S n
 |.ins C dx fs=>H dx=some (.own a)/\fs.length<=1000/\dx≠a/\h.get? a=some (ku C dx)/\
  ∃B,h.Ns1 dx B/\(∀f,Co (fs.lookup f) (B f))/\aeK B (fs.map (·.1))
 |.own _=>∃o,h.get? a=some o
 |.xd fs=>∃B,h.Ns1 a B/\∀f,Co (fs.lookup f) (B f)
 |.rng lo hi=>∃t u v,h.get? a=some {cls:=.type "range",data:=.fields #[.int lo t,.int hi u,.int 1 v]}
 |.gb o u=>h.get? a=some o/\js H h a u
 |.tbl ps=>h.get? a=some {cls:=.none,data:=.fields ps}
 |.met f x=>h.get? a=some (Pj (.ref f) (.ref x))
 |.ext b=>b h/\(∃o,h.get? a=some o)/\∀h1 d:Heap,b h1->(∀o,h1.get? a=some o->d.get? a=some o)->b d
def EH (H:Hp) (h:Heap):Prop:=∀a o,H a=some o->js P w H h a o
end
def js.lt (x:js P w H h a o):a<h.objs.size:=by
 cases o with
 |lst d=>obtain⟨_,_,_,_,e⟩:=x;exact bK e
 |tup d=>obtain⟨_,_,_,p⟩:=x;exact p.lt
 |dK b=>obtain⟨_,_,_,_,o,_,_,e,_⟩:=x;exact bK e
 |dT b=>obtain⟨_,_,_,_,o,_,_,e,_⟩:=x;exact bK e
 |set S n=>obtain⟨o,_,_,_,e,_⟩:=x;exact bK e
 |ins C dx fs=>obtain⟨_,_,_,e,_⟩:=x;exact bK e
 |own y=>obtain⟨_,e⟩:=x;exact bK e
 |xd fs=>obtain⟨_,⟨_,_,_,e,_⟩,_⟩:=x;exact bK e
 |rng lo j=>obtain⟨_,_,_,e⟩:=x;exact bK e
 |gb ob u=>obtain⟨e,_⟩:=x;exact bK e
 |tbl i=>exact bK (show h.get? a=some _ from x)
 |met f y=>exact bK (show h.get? a=some _ from x)
 |ext g=>obtain⟨_,⟨_,e⟩,_⟩:=x;exact bK e
theorem Paired.Rh {α q:Type} {F G:α->q->Prop} {B:List α} {I:List q} (h:Paired F B I) (f:∀a b,F a b->G a b):Paired G B I:=by
 induction h with
 |nil=>exact .nil
 |cons r _ i=>exact .cons (f _ _ r) i
def js.QJ (x:js P w H h a o) (k:∀b u,(b=a\/H b=some (.own a))->h.get? b=some u->h'.get? b=some u)
 (F:∀b,H b=some (.own a)->H' b=some (.own a)) (B:∀b xs,H b=some (.tup xs)->H' b=some (.tup xs)):js P w H' h' a o:=by
 induction o with
 |lst xs=>obtain⟨z,s,n,r,e⟩:=x;exact⟨z,s,n,r,k _ _ (.inl rfl) e⟩
 |tup xs=>obtain⟨z,s,r,ob,e,c⟩:=x;exact⟨z,s,r,ob,k _ _ (.inl rfl) e,c⟩
 |dK m=>obtain⟨z,y,E,r,ob,g,i,e,c⟩:=x;exact⟨z,y,E,r,ob,g,i,k _ _ (.inl rfl) e,c⟩
 |dT m=>
  obtain⟨z,y,xs,r,ob,g,i,e,c⟩:=x;exact⟨z,y,xs,Paired.Rh r λp q z=>⟨z.1,B _ _ z.2.1,z.2.2⟩,ob,g,i,k _ _ (.inl rfl) e,c⟩
 |set S n=>obtain⟨ob,g,i,t,e,c⟩:=x;exact⟨ob,g,i,t,k _ _ (.inl rfl) e,c⟩
 |ins C dx fs=>
  obtain⟨d,z,ne,e,l,⟨j,g,i,L,c⟩,r⟩:=x;exact⟨F _ d,z,ne,k _ _ (.inl rfl) e,l,⟨j,g,i,k _ _ (.inr d) L,c⟩,r⟩
 |own y=>obtain⟨ob,e⟩:=x;exact⟨ob,k _ _ (.inl rfl) e⟩
 |xd fs=>obtain⟨l,⟨j,g,i,e,c⟩,r⟩:=x;exact⟨l,⟨j,g,i,k _ _ (.inl rfl) e,c⟩,r⟩
 |rng lo Q=>obtain⟨t,u,v,e⟩:=x;exact⟨t,u,v,k _ _ (.inl rfl) e⟩
 |gb ob u J=>obtain⟨e,q⟩:=x;exact⟨k _ _ (.inl rfl) e,J q⟩
 |tbl D=>
  have e:h.get? a=some {cls:=.none,data:=.fields D}:=x;show h'.get? a=some {cls:=.none,data:=.fields D};exact k a _ (.inl rfl) e
 |met f y=>
  have e:h.get? a=some (Pj (.ref f) (.ref y)):=x;show h'.get? a=some (Pj (.ref f) (.ref y));exact k a _ (.inl rfl) e
 |ext M=>obtain⟨p,⟨o,e⟩,st⟩:=x;exact⟨st _ _ p λo q=>k _ _ (.inl rfl) q,⟨o,k _ _ (.inl rfl) e⟩,st⟩
def EH.lt (x:EH P w H h) (e:H a=some o):a<h.objs.size:=(x a o e).lt
def EH.fresh (x:EH P w H h) (e:h.objs.size<=a):H a=none:=by
 cases q:H a with
 |none=>rfl
 |some u=>exact absurd (cF (x.lt q) e) (g0 _)
def EH.kept (x:EH P w H h) (k:∀b u,h.get? b=some u->h'.get? b=some u):EH P w H h':=λa o e=>
 (x a o e).QJ (λb u _ q=>k b u q) (λ_ q=>q) λ_ _ q=>q
def EH.laid (x:EH P w H h) (k:∀b u,h.get? b=some u->h'.get? b=some u) (f:h.objs.size<=a) (new:js P w (bB H a o) h' a o):EH P w (bB H a o) h':=λb u e=>by
 have d:=x.fresh f;by_cases g:b=a
 ·subst g;rw[ao]at e;cases e;exact new
 ·rw[aw g]at e;exact(x b u e).QJ (λc v _ q=>k c v q) (λc q=>by rw[aw (bp q d)];exact q) λc i q=>by rw[aw (bp q d)];exact q
def Rd (H:Hp) (a:ag) (u:HO):Prop:=H a=some u\/∃o,H a=some (.gb o u)
def Rd.ok {u:HO} (r:Rd H a u) (x:EH P w H h):js P w H h a u:=by
 rcases r with r|⟨o,r⟩
 ·exact x a u r
 ·obtain⟨_,q⟩:=x a _ r;exact q
def Mut:Option HO->Prop
 |some (.lst _)=>True
 |some (.dK _)=>True
 |some (.dT _)=>True
 |some (.set _ _)=>True
 |some (.ins _ _ _)=>True
 |some (.ext _)=>True
 |_=>False
def EH.write {x:ag} {e:ag} (ok:EH P w H h) (f:Mut (H x)) (G:e=x\/H e=some (.own x)) (k:∀b u,b≠e->h.get? b=some u->h'.get? b=some u) (B:∃u,h'.get? e=some u)
 (new:js P w (bB H x F) h' x F):EH P w (bB H x F) h':=λb u q=>by
 have a:∀c y,H c=some (.own y)->c≠x:=λc y r z=>by subst z;rw[r]at f;exact f
 have l:∀c g,H c=some (.tup g)->c≠x:=λc g r z=>by subst z;rw[r]at f;exact f
 by_cases j:b=x
 ·subst j;rw[ao]at q;cases q;exact new
 ·rw[aw j]at q;by_cases d:b=e
  ·have m:H b=some (.own x):=by
    rcases G with z|z
    ·exact absurd (d.trans z) j
    ·rw[d];exact z
   rw[q]at m;cases m;obtain⟨v,n⟩:=B;exact⟨v,by rw[d];exact n⟩
  ·refine(ok b u q).QJ (λc v i r=>k c v ?_ r) (λc r=>by rw[aw (a c b r)];exact r) λc g r=>by rw[aw (l c g r)];exact r
   rcases i with rfl|i
   ·exact d
   ·rintro rfl
    rcases G with z|z
    ·exact a c b i z
    ·rw[i]at z;cases z;exact j rfl
structure Un (fs ex:List ag) (H H':Hp) (h h':Heap):Prop where
 keep:∀b o,h.get? b=some o->H b=none->b∉fs->b∉ex->h'.get? b=some o
 slot:∀b o,h.get? b=some o->H b=none->b∈fs->b∉ex->∃sl,h'.get? b=some {o with slots:=sl}
 free:∀b o,h.get? b=some o->H b=none->b∉ex->H' b=none
 there:∀b o,h.get? b=some o->b∉ex->∃o',h'.get? b=some o'
 R0:∀b xs,H b=some (.tup xs)->H' b=some (.tup xs)
 OV:∀b o u,H b=some (.gb o u)->H' b=some (.gb o u)
 R3:∀b ps,H b=some (.tbl ps)->∃more,H' b=some (.tbl (ps++more))
def Un.any {fs:List ag} (u:Un fs ex H H1 h h1) {b:ag} {ob:Obj} (q:h.get? b=some ob) (n:H b=none) (f:b∉ex):∃B,h1.get? b=some {ob with slots:=B}:=by
 by_cases a:b∈fs
 ·exact u.slot b ob q n a f
 ·exact⟨ob.slots,u.keep b ob q n a f⟩
def Un.kept {fs:List ag} (k:∀b u,h.get? b=some u->h'.get? b=some u):Un fs ex H H h h':=
 ⟨λb ob q _ _ _=>k b ob q,λb ob q _ _ _=>⟨ob.slots,k b ob q⟩,λ_ _ _ n _=>n,λb ob q _=>⟨ob,k b ob q⟩,λ_ _ q=>q,λ_ _ _ q=>q,λ_ a q=>⟨#[],by rw[q];simp⟩⟩
def Un.refl {fs:List ag}:Un fs ex H H h h:=Un.kept λ_ _ q=>q
def Un.laid {fs:List ag} (k:∀b u,h.get? b=some u->h'.get? b=some u) (B:h.objs.size<=a) (f:H a=none):Un fs ex H (bB H a o) h h' where
 keep:=λb u q _ _ _=>k b u q
 slot:=λb u q _ _ _=>⟨u.slots,k b u q⟩
 free:=λb u q n _=>by rw[aw (dX (cF (bK q) B))];exact n
 there:=λb u q _=>⟨u,k b u q⟩
 R0:=λb d q=>by rw[aw (bp q f)];exact q
 OV:=λb u d q=>by rw[aw (bp q f)];exact q
 R3:=λb e q=>⟨#[],by rw[aw (bp q f),q];simp⟩
def Un.write {fs:List ag} {x:ag} {e:ag} (f:Mut (H x)) (F:e=x\/H e=some (.own x)) (k:∀b u,b≠e->h.get? b=some u->h'.get? b=some u) (B:∃u,h'.get? e=some u):Un fs ex H (bB H x o) h h':=by
 have g:∀b,H b=none->b≠x:=λb n z=>by subst z;rw[n]at f;exact f
 have i:∀b,H b=none->b≠e:=λb n z=>by
  subst z;rcases F with r|r
  ·exact g b n r
  ·rw[n]at r;cases r
 have a:∀b u,H b=some u->¬Mut (some u)->b≠x:=λb u q nm z=>by subst z;rw[q]at f;exact nm f
 refine⟨λb u q n _ _=>k b u (i b n) q,λb u q n _ _=>⟨u.slots,k b u (i b n) q⟩,λb u q n _=>by rw[aw (g b n)];exact n,λb u q _=>?_,
  λb j q=>by rw[aw (a b _ q λz=>z)];exact q,λb u j q=>by rw[aw (a b _ q λz=>z)];exact q,λb l q=>⟨#[],by rw[aw (a b _ q λz=>z),q];simp⟩⟩
 by_cases d:b=e
 ·subst d;exact B
 ·exact⟨u,k b u d q⟩
def trk (h:Heap) (H:Hp):List ag:=(f7 h.objs.size).filter λa=>(H a).isSome
def Zh (h:Heap) (H:Hp):Heap:=Hl h (trk h H)
def agU (h:Heap) (H:Hp):(Zh h H).objs.size=h.objs.size:=PySem.W.hideAll_size _ _
def aji {b:ag} (e:h.get? b=some o) (n:H b=none):(Zh h H).get? b=some o:=
 xQ _ e λa=>by
  have q:(H b).isSome=true:=(bo.mp a).2;rw[n]at q;simp at q
def alJ {b:ag} (e:(Zh h H).get? b=some o):h.get? b=some o/\H b=none:=by
 have a:h.get? b=some o:=ze (trk h H) e;refine⟨a,?_⟩;cases q:H b with
 |none=>rfl
 |some x=>
  have d:b∈trk h H:=bo.mpr ⟨iM.mpr (bK a),by simp[q]⟩;have z:(Zh h H).get? b=none:=nB (trk h H) d;rw[z]at e;cases e
structure Mod (K:ah) (mg:Str->Option Value) (base:Heap):Prop where
 kin:K.In base
 glob:base.Ns mainGlobals mg
 blt:∃mb,base.Ns builtinsNs mb/\∀x:Str,x≠"__name__"->mb x=bootBuiltins x
 nolimit:base.NoLimit
structure Cx where
 prog:kE
 w:World
 K:ah
 mg:Str->Option Value
 base:Heap
 A:Around
 N:List Str
 PL:aJ
 H_0:Hp
 env:Env
 outer:List Env
 stack:List Env
 ex:List ag
 fn:Str->Bool
 calm:Bool
 pn:List (ag×Obj)
 xe:Value->aJ->Prop
variable {X:Cx}
def EG (l:List Env):List ag:=l.filterMap (·.frame)
abbrev Cx.fs (X:Cx):List ag:=EG X.outer
def Vis (f:Scope) (x:Str):Prop:=f.names.lookup x=some .local\/f.names.lookup x=some .cell\/f.names.lookup x=some .free
def Loc (f:Scope) (x:Str):Prop:=f.names.lookup x=some .local\/f.names.lookup x=some .cell
def Look (env:Env) (h:Heap) (m:Str->Option Value) (x:Str) (u:Value):Prop:=
 (env.kindOf x=some .local/\m x=some u)\/((env.kindOf x=some .cell\/env.kindOf x=some .free)/\∃c,env.cells.lookup x=some c/\h.IsCell c (some u))
structure Cx.Ok (X:Cx):Prop where
 mod:Mod X.K X.mg X.base
 kind:X.env.scope.kind=.function
 glob:X.env.globals=mainGlobals
 blt:X.env.builtins=builtinsNs
 above:X.PL.heap.objs.size<=X.env.locals
 inj:∀x y c,X.env.cells.lookup x=some c->X.env.cells.lookup y=some c->x=y
 has:∀x,(X.env.kindOf x=some .cell\/X.env.kindOf x=some .free)->∃c,X.env.cells.lookup x=some c
 cab:∀x c,X.fn x=true->X.env.cells.lookup x=some c->X.PL.heap.objs.size<=c
 hd:X.calm=true->X.A.handled=none
 frames:X.A.frames=some X.stack
 stk:X.stack=X.outer\/(X.stack=X.env::X.outer/\X.env.frame=some X.env.locals)
 exf:∀b∈X.ex,b≠X.env.locals/\∀x c,X.env.cells.lookup x=some c->c≠b
 bs:∀b o,X.base.get? b=some o->X.PL.heap.get? b=some o/\X.H_0 b=none
 bsz:X.base.objs.size<=X.PL.heap.objs.size
 agx:∀b o,X.base.get? b=some o->b∉X.ex
 ag7:∀b∈X.ex,b∉X.fs
 MX:X.PL.heap.FunFrames X.base X.outer
 frf:∀b∈X.fs,X.H_0 b=none
structure Inv (X:Cx) (pins:List (ag×Obj)) (σ:List (Option V)) (H:Hp) (s:aJ):Prop where
 ok:X.Ok
 os:s.os=X.PL.os
 bare:AllBare s.gens
 base:Un X.fs X.ex X.H_0 H X.PL.heap s.heap
 loc:∃m,s.heap.Ns X.env.locals m/\∀(i:Nat) (x:Str) (v:V),X.N[i]? =some x->σ[i]? =some (some v)->Vis X.env.scope x->∃u,RelV v u/\Look X.env s.heap m x u
 cell:∀x c,X.env.cells.lookup x=some c->∃v,s.heap.IsCell c v
 free:H X.env.locals=none
 vi:∀x c,X.env.cells.lookup x=some c->H c=none
 pin:∀p∈X.pn++pins,s.heap.get? p.1=some p.2/\H p.1=none/\p.1≠X.env.locals/\p.1∉X.fs/\∀v,p.2.data≠ .cell v
 eR:EH X.prog X.w H s.heap
 len:σ.length=X.N.length
def Cx.Ok.av7 (ok:X.Ok) {b:ag} (e:X.base.get? b=some o):b∉X.fs:=λa=>by
 have:=(ok.MX.mem a).1;rw[e]at this;cases this
def Inv.bs (I:Inv X pins σ H s):∀b o,X.base.get? b=some o->s.heap.get? b=some o/\H b=none:=λb o e=>
 ⟨I.base.keep b o (I.ok.bs b o e).1 (I.ok.bs b o e).2 (I.ok.av7 e) (I.ok.agx b o e),I.base.free b o (I.ok.bs b o e).1 (I.ok.bs b o e).2 (I.ok.agx b o e)⟩
def Inv.bk (I:Inv X pins σ H s):∀b o,X.base.get? b=some o->s.heap.get? b=some o:=λb o e=>(I.bs b o e).1
def Inv.mod (I:Inv X pins σ H s):Mod X.K X.mg X.base:=I.ok.mod
def Inv.W2 (I:Inv X pins σ H s):X.K.In s.heap:=I.ok.mod.kin.keeps I.bk
def Inv.lt (I:Inv X pins σ H s):X.env.locals<s.heap.objs.size:=let⟨_,a,_⟩:=I.loc;a.lt
def Inv.sz (I:Inv X pins σ H s):X.PL.heap.objs.size<=s.heap.objs.size:=b9 I.ok.above (dY I.lt)
def Inv.av6 (I:Inv X pins σ H s) (h:s.heap.objs.size<=a):a∉X.fs:=λd=>by
 obtain⟨_,o,b,_⟩:=I.ok.MX.mem d;exact absurd (cF (bK b) (b9 I.sz h)) (g0 _)
def Inv.cne (I:Inv X pins σ H s):∀x c,X.env.cells.lookup x=some c->c≠X.env.locals:=λx c e z=>by
 obtain⟨v,o,a,hd⟩:=I.cell x c e;obtain⟨m,⟨g,h,i,d,b,_⟩,_⟩:=I.loc;rw[z,d]at a;cases a;rw[b]at hd;cases hd
def Inv.MX (I:Inv X pins σ H s):s.heap.FunFrames X.base X.outer:=by
 have all:∀(l:List Env),(∀b∈EG l,b∈X.fs)->X.PL.heap.FunFrames X.base l->s.heap.FunFrames X.base l:=by
  intro l
  induction l with
  |nil=>intro _ _;trivial
  |cons env r i=>
   intro h p;obtain⟨u,⟨L,o,a,n,m,hd⟩,j⟩:=p;have g:L∈X.fs:=h L (by unfold EG;rw[jD,a];exact aM);obtain⟨x,e⟩:=I.base.slot L o m (I.ok.frf L g) g λz=>I.ok.ag7 L z g
   exact⟨u,⟨L,_,a,n,e,hd⟩,i (λb d=>h b (by unfold EG;rw[jD,a];exact aL _ d)) j⟩
 exact all X.outer (λ_ d=>d) I.ok.MX
def Inv.stack (I:Inv X pins σ H s):s.heap.FunFrames X.base X.stack:=by
 rcases I.ok.stk with e|⟨e,b⟩
 ·rw[e];exact I.MX
 ·rw[e];obtain⟨m,a,_⟩:=I.loc;refine .cons (by rw[I.ok.kind];decide) b a ?_ I.MX;exact Heap.get?_none_of_le (b9 I.ok.bsz I.ok.above)
def Inv.N7 (I:Inv X pins σ H s):∀b∈EG X.stack,b∈X.env.locals::X.fs:=λb a=>by
 rcases I.ok.stk with e|⟨e,d⟩
 ·rw[e]at a;exact aL _ a
 ·rw[e]at a;unfold EG at a;rw[jD,d]at a;exact a
def Inv.RD (I:Inv X pins σ H s):∀b∈EG X.stack,H b=none:=λb a=>by
 rcases aY.mp (I.N7 b a)with e|a
 ·rw[e];exact I.free
 ·obtain⟨_,o,d,_⟩:=I.ok.MX.mem a;exact I.base.free b o d (I.ok.frf b a) λz=>I.ok.ag7 b z a
def Inv.step (I:Inv X pins σ H s)
 (F:∀b∈ch,(b∈X.ex\/X.PL.heap.objs.size<=b)/\b≠X.env.locals/\(∀x c,X.env.cells.lookup x=some c->c≠b)/\∀p∈X.pn++pins,p.1≠b)
 (keep:∀b o,b≠X.env.locals->b∉X.fs->b∉ch->s.heap.get? b=some o->H b=none->h'.get? b=some o)
 (slot:∀b o,b≠X.env.locals->b∈X.fs->b∉ch->s.heap.get? b=some o->H b=none->∃G,h'.get? b=some {o with slots:=G}) (free:∀b o,b∉ch->s.heap.get? b=some o->H b=none->H' b=none)
 (there:∀b o,b∉ch->s.heap.get? b=some o->∃f,h'.get? b=some f)
 (R0:∀b xs,H b=some (.tup xs)->H' b=some (.tup xs)) (OV:∀b o u,H b=some (.gb o u)->H' b=some (.gb o u)) (R3:∀b ps,H b=some (.tbl ps)->∃B,H' b=some (.tbl (ps++B)))
 (ns:∀m,s.heap.Ns X.env.locals m->h'.Ns X.env.locals m) (eR:EH X.prog X.w H' h') (U:AllBare g'):
 Inv X pins σ H' {s with heap:=h',gens:=g',drawn:=d',toks:=t'}:=by
 have D:∀b o,X.PL.heap.get? b=some o->b≠X.env.locals:=λb o e=>dX (cF (bK e) I.ok.above)
 have h:∀b o,X.PL.heap.get? b=some o->b∉X.ex->b∉ch:=λb o e a y=>by
  rcases(F b y).1 with z|z
  ·exact a z
  ·exact absurd (cF (bK e) z) (g0 _)
 have cellK:∀x c,X.env.cells.lookup x=some c->∀v,s.heap.IsCell c v->h'.IsCell c v:=λx c e v ⟨o,C,hd⟩=>by
  have g:c∉ch:=λz=>(F c z).2.2.1 x c e rfl
  by_cases P:c∈X.fs
  ·obtain⟨G,q⟩:=slot c o (I.cne x c e) P g C (I.vi x c e);exact⟨_,q,hd⟩
  ·exact⟨o,keep c o (I.cne x c e) P g C (I.vi x c e),hd⟩
 refine⟨I.ok,I.os,U,⟨λb o e n y a=>?_,λb o e n y a=>?_,λb o e n a=>?_,λb o e a=>?_,λb xs e=>R0 b xs (I.base.R0 b xs e),λb o xs e=>OV b o xs (I.base.OV b o xs e),λb ps e=>?_⟩,?_,λx c e=>?_,?_,λx c e=>?_,λp M=>?_,eR,I.len⟩
 ·exact keep b o (D b o e) y (h b o e a) (I.base.keep b o e n y a) (I.base.free b o e n a)
 ·obtain⟨G,j⟩:=I.base.slot b o e n y a;obtain⟨J,E⟩:=slot b _ (D b o e) y (h b o e a) j (I.base.free b o e n a);exact⟨J,E⟩
 ·obtain⟨f,j⟩:=I.base.there b o e a;exact free b f (h b o e a) j (I.base.free b o e n a)
 ·obtain⟨f,j⟩:=I.base.there b o e a;exact there b f (h b o e a) j
 ·obtain⟨S,j⟩:=I.base.R3 b ps e;obtain⟨Q,E⟩:=R3 b _ j;exact⟨S++Q,by rw[E,Array.append_assoc]⟩
 ·obtain⟨m,T,O⟩:=I.loc;refine⟨m,ns m T,λi x v j E Y=>?_⟩;obtain⟨u,r,l⟩:=O i x v j E Y;refine⟨u,r,?_⟩;rcases l with l|⟨k,c,e,z⟩
  ·exact .inl l
  ·exact .inr ⟨k,c,e,cellK x c e _ z⟩
 ·obtain⟨v,z⟩:=I.cell x c e;exact⟨v,cellK x c e v z⟩
 ·obtain⟨m,⟨o,_,_,C,_⟩,_⟩:=I.loc;exact free _ o (λz=>(F _ z).2.1 rfl) C I.free
 ·obtain⟨v,o,C,hd⟩:=I.cell x c e;exact free c o (λz=>(F c z).2.2.1 x c e rfl) C (I.vi x c e)
 ·obtain⟨e,n,ne,L,d⟩:=I.pin p M;have g:p.1∉ch:=λz=>(F p.1 z).2.2.2 p M rfl
  exact⟨keep p.1 p.2 ne L g e n,free p.1 p.2 g e n,ne,L,d⟩
def Inv.un (I:Inv X pins σ H s) (u:Un X.fs [] H H' s.heap h') (eR:EH X.prog X.w H' h'):Inv X pins σ H' {s with heap:=h',toks:=t'}:=by
 obtain⟨m,⟨o,D,E,d,r⟩,_⟩:=id I.loc;obtain⟨x,l⟩:=u.any d I.free (by simp)
 exact I.step (g':=s.gens) (d':=s.drawn) (ch:=[]) (λ_ z=>nomatch z) (λb o _ a _ e n=>u.keep b o e n a (by simp)) (λb o _ a _ e n=>u.slot b o e n a (by simp)) (λb o _ e n=>u.free b o e n (by simp)) (λb o _ e=>u.there b o e (by simp)) u.R0 u.OV u.R3 (λC j=>by
  obtain⟨y,p,h,g,i⟩:=j;rw[d]at g;cases g;exact⟨_,p,h,l,i⟩) eR I.bare
def Inv.call (I:Inv X pins σ H s) (u:Un (EG X.stack) ch H H' s.heap h') (eR:EH X.prog X.w H' h') (q:AllBare g')
 (f:∀b∈ch,(b∈X.ex\/X.PL.heap.objs.size<=b)/\b≠X.env.locals/\(∀x c,X.env.cells.lookup x=some c->c≠b)/\∀p∈X.pn++pins,p.1≠b):
 Inv X pins σ H' {s with heap:=h',gens:=g',drawn:=d',toks:=t'}:=by
 obtain⟨m,⟨o,L,M,g,r⟩,_⟩:=id I.loc;obtain⟨D,d⟩:=u.any g I.free λz=>(f _ z).2.1 rfl
 exact I.step (ch:=ch) f (λb o d y a e n=>u.keep b o e n (λz=>(aY.mp (I.N7 b z)).elim d y) a) (λb o _ _ a e n=>u.any e n a) (λb o a e n=>u.free b o e n a) (λb o a e=>u.there b o e a) u.R0 u.OV u.R3 (λJ l=>by
  obtain⟨E,C,i,h,j⟩:=l;rw[g]at h;cases h;exact⟨_,C,i,d,j⟩) eR q
def Inv.turned (I:Inv X pins σ H s) (k:∀b o,b≠it->s.heap.get? b=some o->h'.get? b=some o) (B:H it=none) (f:it≠X.env.locals)
 (O:it∈X.ex\/X.PL.heap.objs.size<=it) (G:∀x c,X.env.cells.lookup x=some c->c≠it) (F:∀p∈X.pn++pins,p.1≠it):Inv X pins σ H {s with heap:=h',toks:=t'}:=by
 have d:∀b u,H b=some u->b≠it:=λb u e z=>by rw[z,B]at e;cases e
 refine I.step (g':=s.gens) (d':=s.drawn) (ch:=[it]) (λb i=>?_) (λb o _ _ a e _=>k b o (λz=>a (by simp[z])) e) (λb o _ _ a e _=>⟨o.slots,k b o (λz=>a (by simp[z])) e⟩) (λ_ _ _ _ n=>n)
  (λb o a e=>⟨o,k b o (λz=>a (by simp[z])) e⟩) (λ_ _ e=>e) (λ_ _ _ e=>e) (λb y e=>⟨#[],by rw[e];simp⟩) (λm h=>?_) (λb u e=>?_) I.bare
 ·have e:b=it:=by simpa using i
  subst e;exact⟨O,f,G,F⟩
 ·obtain⟨o,j,l,g,r⟩:=h;exact⟨o,j,l,k _ o (DD f) g,r⟩
 ·refine(I.eR b u e).QJ (λc v a q=>k c v ?_ q) (λ_ q=>q) λ_ _ q=>q
  rcases a with z|z
  ·rw[z];exact d b u e
  ·exact d c _ z
def Inv.tok (I:Inv X pins σ H s) (t:Nat):Inv X pins σ H {s with toks:=t}:=I.un (h':=s.heap) (t':=t) Un.refl I.eR
def Inv.kept (I:Inv X pins σ H s) (k:∀b u,s.heap.get? b=some u->h'.get? b=some u):Inv X pins σ H {s with heap:=h',toks:=t'}:=I.un (Un.kept k) (I.eR.kept k)
def Inv.laid (I:Inv X pins σ H s) (k:∀b u,s.heap.get? b=some u->h'.get? b=some u) (f:s.heap.objs.size<=a) (new:js X.prog X.w (bB H a o) h' a o):
 Inv X pins σ (bB H a o) {s with heap:=h',toks:=t'}:=I.un (Un.laid k f (I.eR.fresh f)) (I.eR.laid k f new)
def Inv.write {x e:ag} (I:Inv X pins σ H s) (q:Mut (H x)) (B:e=x\/H e=some (.own x)) (k:∀b u,b≠e->s.heap.get? b=some u->h'.get? b=some u) (f:∃u,h'.get? e=some u)
 (new:js X.prog X.w (bB H x o) h' x o):Inv X pins σ (bB H x o) {s with heap:=h',toks:=t'}:=I.un (Un.write q B k f) (I.eR.write q B k f new)
def Inv.weak (I:Inv X pins σ H s) (q:f.length=σ.length) (w:∀(i:Nat) v,f[i]? =some (some v)->σ[i]? =some (some v)):Inv X pins f H s:=
 ⟨I.ok,I.os,I.bare,I.base,let⟨m,b,a⟩:=I.loc;⟨m,b,λi x v g e d=>a i x v g (w i v e) d⟩,I.cell,I.free,I.vi,I.pin,I.eR,q.trans I.len⟩
def Inv.afd {f:List (ag×Obj)} (I:Inv X pins σ H s) (h:∀p∈f,s.heap.get? p.1=some p.2/\H p.1=none/\p.1≠X.env.locals/\p.1∉X.fs/\∀v,p.2.data≠ .cell v):Inv X f σ H s:=
 ⟨I.ok,I.os,I.bare,I.base,I.loc,I.cell,I.free,I.vi,λp a=>(bL.mp a).elim (λz=>I.pin p (gg _ z)) (h p),I.eR,I.len⟩
def To (f:N.Nodup) {j:Nat} (a:N[i]? =some x) (b:N[j]? =some x):i=j:=by
 obtain⟨h,e⟩:=aQ.mp a;obtain⟨g,d⟩:=aQ.mp b;exact(List.getElem_inj f).mp (e.trans d.symm)
def agd {E:Value->aJ->Prop} {Q:Unit->aJ->Prop} (I:Inv X pins σ H s) (hN:X.N.Nodup) (hi:X.N[i]? =some x) (f:Loc X.env.scope x) (r:RelV v u)
 (h:∀s',Inv X pins (σ.set i (some v)) H s'->(∃a,hZ a s.heap s'.heap/\(a=X.env.locals\/X.env.cells.lookup x=some a))->Q () s') (hf:X.fn x=true\/X.env.scope.names.lookup x=some .local:=by first|exact .inl rfl|exact .inr rfl|assumption):wpAny M A (storeName X.env x u) Q E s:=by
 obtain⟨m,hn,hl⟩:=id I.loc;have axm:(X.env.scope.kind== .class||(X.env.scope.kind== .module&&X.env.locals != X.env.globals))=false:=by rw[I.ok.kind];rfl
 have L:i<σ.length:=by rw[I.len];exact(aQ.mp hi).1
 have cne:=I.cne
 have à:∀{a:ag} {h':Heap},(∃o,s.heap.get? a=some o/\H a=none)->hZ a s.heap h'->EH X.prog X.w H h':=fun {a h'} ha g b ob e=>by
  obtain⟨_,_,W7⟩:=ha;refine(I.eR b ob e).QJ (λc O C q=>(g.2 c ?_).trans q) (λ_ q=>q) λ_ _ q=>q
  rintro rfl
  rcases C with rfl|C
  ·rw[W7]at e;cases e
  ·rw[W7]at C;cases C
 rcases f with J|J
 ·refine wpAny_storeName_local J hn (λh' Ù g=>?_) axm;obtain⟨oL,_,_,hoL,_⟩:=id hn;refine h _ ⟨I.ok,I.os,I.bare,⟨λb o e n T f=>?_,λb o e n T f=>?_,I.base.free,λb o e f=>?_,I.base.R0,I.base.OV,I.base.R3⟩,⟨_,Ù,λj y Y l D e3=>?_⟩,λy c e=>?_,I.free,I.vi,λp hp=>?_,à ⟨oL,hoL,I.free⟩ g,by simpa using I.len⟩ ⟨_,g,.inl rfl⟩
  ·exact(g.2 b (dX (cF (bK e) I.ok.above))).trans (I.base.keep b o e n T f)
  ·obtain⟨sl,l⟩:=I.base.slot b o e n T f;exact⟨sl,(g.2 b (dX (cF (bK e) I.ok.above))).trans l⟩
  ·obtain⟨o',l⟩:=I.base.there b o e f;exact⟨o',(g.2 b (dX (cF (bK e) I.ok.above))).trans l⟩
  ·by_cases P:j=i
   ·subst P;rw[hi]at l;cases l;rw[HV L]at D;cases D;exact⟨u,r,.inl ⟨J,by simp⟩⟩
   ·rw[xS (DD P)]at D;obtain⟨Z,r',q⟩:=hl j y Y l D e3;refine⟨Z,r',?_⟩;rcases q with⟨k,e⟩|⟨k,c,e,z⟩
    ·refine .inl ⟨k,?_⟩;have:y≠x:=λe=>P (To hN l (e▸hi))
     simp[this,e]
    ·exact .inr ⟨k,c,e,z.sameBut g (cne y c e)⟩
  ·obtain⟨O,z⟩:=I.cell y c e;exact⟨O,z.sameBut g (cne y c e)⟩
  ·obtain⟨e,n,ne,nf,d⟩:=I.pin p hp;exact⟨(g.2 p.1 ne).trans e,n,ne,nf,d⟩
 ·have S:X.fn x=true:=by
   rcases hf with z|z
   ·exact z
   ·rw[z]at J;cases J
  obtain⟨c,C⟩:=I.ok.has x (.inl J);obtain⟨O,z⟩:=I.cell x c C;refine wpAny_storeName_cell I.ok.kind J C z (λh' G g=>?_);obtain⟨oc,B,awR⟩:=id z;refine h {s with heap:=h'} ⟨I.ok,I.os,I.bare,⟨λb o e n T f=>?_,λb o e n T f=>?_,I.base.free,λb o e f=>?_,I.base.R0,I.base.OV,I.base.R3⟩,⟨m,hn.sameBut g (DD (cne x c C)),λj y Y l D e3=>?_⟩,λy U e=>?_,I.free,I.vi,λp hp=>?_,à ⟨oc,B,I.vi x c C⟩ g,by simpa using I.len⟩ ⟨c,g,.inr C⟩
  ·exact(g.2 b (dX (cF (bK e) (I.ok.cab x c S C)))).trans (I.base.keep b o e n T f)
  ·obtain⟨sl,l⟩:=I.base.slot b o e n T f;exact⟨sl,(g.2 b (dX (cF (bK e) (I.ok.cab x c S C)))).trans l⟩
  ·obtain⟨o',l⟩:=I.base.there b o e f;exact⟨o',(g.2 b (dX (cF (bK e) (I.ok.cab x c S C)))).trans l⟩
  ·by_cases P:j=i
   ·subst P;rw[hi]at l;cases l;rw[HV L]at D;cases D;exact⟨u,r,.inr ⟨.inl J,c,C,G⟩⟩
   ·rw[xS (DD P)]at D;obtain⟨Z,r',q⟩:=hl j y Y l D e3;refine⟨Z,r',?_⟩;rcases q with q|⟨k,U,e,z'⟩
    ·exact .inl q
    ·refine .inr ⟨k,U,e,z'.sameBut g ?_⟩
     rintro rfl
     exact P (To hN l (I.ok.inj _ _ _ e C▸hi))
  ·by_cases F:U=c
   ·subst F;exact⟨_,G⟩
   ·obtain⟨w2,z2⟩:=I.cell y U e;exact⟨w2,z2.sameBut g F⟩
  ·obtain⟨e,n,ne,nf,d⟩:=I.pin p hp;refine⟨(g.2 p.1 ?_).trans e,n,ne,nf,d⟩;intro q;rw[q,B]at e;have q':oc=p.2:=ay e;exact d O (by rw[<-q'];exact awR)
def LQ {E:Value->aJ->Prop} {Q:Unit->aJ->Prop} (I:Inv X pins σ H s) (F:X.N.Nodup) (hi:X.N[i]? =some x) (q:Loc X.env.scope x) (r:RelV v u)
 (h:∀f,Inv X pins (σ.set i (some v)) H f->Q () f) (B:X.fn x=true\/X.env.scope.names.lookup x=some .local:=by first|exact .inl rfl|exact .inr rfl|assumption):wpAny M A (storeName X.env x u) Q E s:=
 agd I F hi q r (λf a _=>h f a) B
def Inv.ajW (I:Inv X pins σ H s) (f:s'.os=s.os) (u:Un (EG X.stack) ch H H' s.heap s'.heap) (eR:EH X.prog X.w H' s'.heap) (q:AllBare s'.gens)
 (B:∀b∈ch,(b∈X.ex\/X.PL.heap.objs.size<=b)/\b≠X.env.locals/\(∀x c,X.env.cells.lookup x=some c->c≠b)/\∀p∈X.pn++pins,p.1≠b):Inv X pins σ H' s':=by
 obtain⟨d,g',d',t',a⟩:=s';have e:a=s.os:=f;subst e;exact I.call (g':=g') (t':=t') (d':=d') u eR q B
abbrev XK:=Value->Option ag->Hp->Prop
abbrev St:=List (Option V)
variable {σ:L2.St}
abbrev VK:=V->Hp->Prop
abbrev TE:=St->Hp->VK->Prop
variable {ta te tc to tl td ty tv:TE}
abbrev TT:=St->Hp->(Bool->Hp->Prop)->Prop
variable {tA tB' tt:TT}
abbrev TA:=St->Hp->(List V->Hp->Prop)->Prop
structure Ends where
 nx:St->Hp->Prop
 rt:VK
 bk:St->Hp->Prop:=λ_ _=>False
 ct:St->Hp->Prop:=λ_ _=>False
variable {D:Ends}
abbrev TS:=Ends->St->Hp->Prop
variable {tb th:TS}
inductive EP (X:Cx) (pins:List (ag×Obj)) (f:St) (Q:VK) (u:Value) (q:aJ):Prop|mk v H' (i:Inv X pins f H' q) (r:RelV v u) (h:Q v H'):EP X pins f Q u q
inductive TP (X:Cx) (pins:List (ag×Obj)) (f:St) (Q:Bool->Hp->Prop) (b:Bool) (q:aJ):Prop|mk H' (i:Inv X pins f H' q) (h:Q b H'):TP X pins f Q b q
inductive AP (X:Cx) (pins:List (ag×Obj)) (f:St) (Q:List V->Hp->Prop) (us:List Value) (q:aJ):Prop|mk vs H' (i:Inv X pins f H' q) (r:Vals vs us) (h:Q vs H'):AP X pins f Q us q
inductive I_n (X:Cx) (pins:List (ag×Obj)) (P:St->Hp->Prop) (q:aJ):Prop|mk a H' (i:Inv X pins a H' q) (h:P a H'):I_n X pins P q
inductive I_r (X:Cx) (pins:List (ag×Obj)) (P:VK) (u:Value) (q:aJ):Prop|mk v a H' (i:Inv X pins a H' q) (r:RelV v u) (h:P v H'):I_r X pins P u q
def SP (X:Cx) (pins:List (ag×Obj)) (D:Ends) (f:Flow) (q:aJ):Prop:=
 match f with
 |.next=>I_n X pins D.nx q
 |.brk=>I_n X pins D.bk q
 |.cont=>I_n X pins D.ct q
 |.ret u=>I_r X pins D.rt u q
def PE (X:Cx) (e:Expr) (t:TE):Prop:=
 ∀(pins:List (ag×Obj)) (s:aJ) (σ:St) (H:Hp) (Q:VK),Inv X pins σ H s->t σ H Q->wpAny (model X.prog X.w) X.A (eval e X.env) (EP X pins σ Q) X.xe s
def PT (X:Cx) (e:Expr) (t:TT):Prop:=
 ∀(pins:List (ag×Obj)) (s:aJ) (σ:St) (H:Hp) (Q:Bool->Hp->Prop),Inv X pins σ H s->t σ H Q->wpAny (model X.prog X.w) X.A (isTrue e X.env (eval e X.env)) (TP X pins σ Q) X.xe s
def PW (X:Cx) (e:Expr) (t:TT):Prop:=
 ∀(whole:Sem Value) (pins:List (ag×Obj)) (s:aJ) (σ:St) (H:Hp) (Q:Bool->Hp->Prop),Inv X pins σ H s->t σ H Q->wpAny (model X.prog X.w) X.A (isTrue e X.env whole) (TP X pins σ Q) X.xe s
def PW.pt (h:PW X e t):PT X e t:=h _
def PA (X:Cx) (es:List Expr) (t:TA):Prop:=
 ∀(pos:Pos) (pins:List (ag×Obj)) (s:aJ) (σ:St) (H:Hp) (Q:List V->Hp->Prop),Inv X pins σ H s->t σ H Q->wpAny (model X.prog X.w) X.A (spliced (backTo pos (starEach es X.env))) (AP X pins σ Q) X.xe s
def PS (X:Cx) (st:Stmt) (t:TS):Prop:=
 ∀(pins:List (ag×Obj)) (s:aJ) (σ:St) (H:Hp) (D:Ends),Inv X pins σ H s->t D σ H->wpAny (model X.prog X.w) X.A (exec st X.env) (SP X pins D) X.xe s
def PSs (X:Cx) (st:List Stmt) (t:TS):Prop:=
 ∀(pins:List (ag×Obj)) (s:aJ) (σ:St) (H:Hp) (D:Ends),Inv X pins σ H s->t D σ H->wpAny (model X.prog X.w) X.A (execs st X.env) (SP X pins D) X.xe s
def gn {α:Type} {t:Sem α} {Q f:α->aJ->Prop} {E:Value->aJ->Prop} (h:wpAny M A t Q E s) (q:∀a s,Q a s->f a s):wpAny M A t f E s:=jT h q λ_ _ x=>x
inductive aqR (i:Nat) (σ:St) (H:Hp) (Q:VK):Prop|mk v (e:σ[i]? =some (some v)) (h:Q v H):aqR i σ H Q
def tC (v:V):TE:=λ_ H Q=>Q v H
def aop (B:X.N[i]? =some x) (q:Vis X.env.scope x) (hd:(x==("__debug__":Str))=false:=by decide) (f:(x==("__classdict__":Str))=false:=by decide):PE X (.Name x pos) (aqR i):=by
 intro b s n H Q I h;obtain⟨v,e,h⟩:=h;obtain⟨m,o,y⟩:=I.loc;obtain⟨u,r,l⟩:=y i x v B e q;have g:EP X b n Q u s:=⟨v,H,I,r,h⟩;rcases l with⟨a,p⟩|⟨a,c,j,d⟩
 ·exact atk (anK I.ok.kind a o p g) hd
 ·rcases a with a|a
  ·exact atk (apS I.ok.kind a j d g) hd
  ·exact atk (wpAny_loadName_free I.ok.kind a j d g f) hd
def bc {i j pos}:PE X (.Constant (.int i) j pos) (tC (.int i)):=λ_ _ _ H _ I h=>wpAny_Constant_int ⟨.int i,H,I.tok _,⟨_,rfl⟩,h⟩
def Ft {b j pos}:PE X (.Constant (.bool b) j pos) (tC (.bl b)):=λ_ _ _ H _ I h=>Constant_bool ⟨.bl b,H,I,rfl,h⟩
def KG {j pos}:PE X (.Constant .none j pos) (tC .m6):=λ_ _ _ H _ I h=>ako ⟨.m6,H,I,rfl,h⟩
def BA {x j pos}:PE X (.Constant (.str x) j pos) (tC (.str x)):=λ_ _ _ H _ I h=>Calls.Constant_str ⟨.str x,H,I.tok _,⟨_,rfl⟩,h⟩
def Gl (X:Cx) (x:Str):Prop:=X.env.kindOf x=some .globalImplicit
def yF {E:Value->aJ->Prop} {Q:Value->aJ->Prop} (I:Inv X pins σ H s) (q:Gl X x) (f:X.mg x=some u) (h:Q u s)
 (hd:(x==("__debug__":Str))=false:=by decide):wpAny (model X.prog X.w) X.A (eval (.Name x pos) X.env) Q E s:=
 XW I.ok.kind q (Calls.loadGlobal_global (by rw[I.ok.glob];exact I.mod.glob.keeps I.bk) f h) hd
def KW {E:Value->aJ->Prop} {Q:Value->aJ->Prop} (I:Inv X pins σ H s) (F:Gl X x) (B:X.mg x=none) (f:bootBuiltins x=some u) (h:Q u s)
 (q:x≠"__name__":=by decide) (hd:(x==("__debug__":Str))=false:=by decide):wpAny (model X.prog X.w) X.A (eval (.Name x pos) X.env) Q E s:=by
 obtain⟨d,b,a⟩:=I.mod.blt;exact XW I.ok.kind F (Calls.loadGlobal_builtin (by rw[I.ok.glob];exact I.mod.glob.keeps I.bk) B (by rw[I.ok.blt];exact b.keeps I.bk) ((a x q).trans f) h) hd
def aff (q:Gl X x) (f:X.mg x=some u) (r:RelV v u) (hd:(x==("__debug__":Str))=false:=by decide):PE X (.Name x pos) (tC v):=
 λ_ _ _ H _ I h=>yF I q f ⟨v,H,I,r,h⟩ hd
def PC (X:Cx) (f:CmpOp) (a b:Expr) (t:TE):Prop:=
 ∀(pins:List (ag×Obj)) (s:aJ) (σ:St) (H:Hp) (Q:VK),Inv X pins σ H s->t σ H Q->
  wpAny (model X.prog X.w) X.A (eval a X.env) (λv e=>wpAny (model X.prog X.w) X.A (eval b X.env) (λu d=>wpAny (model X.prog X.w) X.A (compareOp f v u) (EP X pins σ Q) X.xe d) X.xe e) X.xe s
def abb (b:Expr) (h:op≠ .In) (f:op≠ .NotIn):behindInMarks op b=false:=by
 have d:(op==aAe)=false:=by cases op<;>first|rfl|exact absurd rfl h
 have a:(op==atQ)=false:=by cases op<;>first|rfl|exact absurd rfl f
 cases b<;>simp[behindInMarks,d,a]
def avD (f:TE):TE:=fun σ H Q=>f σ H λx H1=>Q (.bl (decide (x=.m6))) H1
def aqU (f:TE):TE:=fun σ H Q=>f σ H λx H1=>Q (.bl (!decide (x=.m6))) H1
def RelV.aa9 {x:V} (r:RelV x v):(v==fZ)=decide (x=.m6):=by
 cases x with
 |m6=>cases r;rfl
 |bl _=>cases r;rfl
 |int _=>obtain⟨t,rfl⟩:=r;rfl
 |str _=>obtain⟨t,rfl⟩:=r;rfl
 |Zv _=>obtain⟨t,rfl⟩:=r;rfl
 |flt _=>obtain⟨t,rfl⟩:=r;rfl
 |ref _=>cases r;rfl
 |ty _=>cases r;rfl
def YE {a:Expr} {j pos'} (f:PE X a ta):PC X .Is a (.Constant .none j pos') (avD ta):=by
 intro b s d H Q I h;refine gn (f b s d H _ I h) λv l ⟨x,i,g,r1,e⟩=>?_
 exact ako (is_none_gen ⟨.bl _,i,g,by rw[r1.aa9];rfl,e⟩)
def alF {a:Expr} {j pos'} (f:PE X a ta):PC X .IsNot a (.Constant .none j pos') (aqU ta):=by
 intro b s d H Q I h;refine gn (f b s d H _ I h) λv l ⟨x,i,g,r1,e⟩=>?_
 exact ako (isnot_none_gen ⟨.bl _,i,g,by rw[r1.aa9];rfl,e⟩)
inductive I_b (x:V) (H:Hp) (Q:Bool->Hp->Prop):Prop|mk c (e:x=.bl c) (h:Q c H):I_b x H Q
def tB (t:TE):TT:=fun σ H Q=>t σ H λx H1=>I_b x H1 Q
def ady {a:Expr} (h:PC X op a b t) (f:behindInMarks op b=false:=by first|exact abb _ (by decide) (by decide)|rfl):PE X (.Compare a [op] [b] pos) t:=λd s e H Q I g=>az4 (h d s e H Q I g) f
def Bz {a:Expr} {b:Expr} (h:PC X op a b t) (f:behindInMarks op b=false:=by first|exact abb _ (by decide) (by decide)|rfl):PT X (.Compare a [op] [b] pos) (tB t):=by
 intro e s g H Q I j;refine amM (gn (h e s g H _ I j) λv y f=>gn f λu p l=>gn l λc o ⟨x,n,m,r1,i⟩=>?_) f;obtain⟨d,rfl,q⟩:=i;cases r1;exact dR ⟨n,m,q⟩
def iG (h:PE X e t) (f:∀whole,isTrue e X.env whole=(do let v <-whole;standAt e.pos;holding [v] (truthy v)):=by intro _;rfl):PT X e (tB t):=by
 intro a s b H Q I i;refine aEv (gn (h a s b H _ I i) λv m ⟨x,l,j,r1,g⟩=>?_) (f _);obtain⟨d,rfl,q⟩:=g;cases r1;exact dR ⟨l,j,q⟩
def avH (t u:TT):TT:=fun σ H Q=>t σ H λc H1=>if c=true then u σ H1 Q else Q false H1
def tOr (t u:TT):TT:=fun σ H Q=>t σ H λc H1=>if c=true then Q true H1 else u σ H1 Q
def avB (t:TT):TT:=fun σ H Q=>t σ H λc H1=>Q (!c) H1
def RI {a:Expr} (f:PT X a tA):PW X (.BoolOp .And [a] pos) tA:=by
 intro g b s d H Q I h;refine isTrue_and (gn (f b s d H Q I h) λc i e=>?_);cases c with
 |true=>exact isTrue_and_nil e
 |false=>exact e
def Ov {a:Expr} (f:PT X a tA):PW X (.BoolOp .Or [a] pos) tA:=by
 intro g b s d H Q I h;refine isTrue_or (gn (f b s d H Q I h) λc i e=>?_);cases c with
 |false=>exact isTrue_or_nil e
 |true=>exact e
def Yw {a:Expr} (q:PT X a tA) (f:PW X (.BoolOp .And (b::rest) pos) tB'):PW X (.BoolOp .And (a::b::rest) pos) (avH tA tB'):=by
 intro l d s e H Q I h;refine isTrue_and (gn (q d s e H _ I h) λc m ⟨j,i,g⟩=>?_);cases c with
 |true=>exact f l d m e j Q i g
 |false=>exact⟨j,i,g⟩
def SO {a:Expr} (q:PT X a tA) (f:PW X (.BoolOp .Or (b::rest) pos) tB'):PW X (.BoolOp .Or (a::b::rest) pos) (tOr tA tB'):=by
 intro l d s e H Q I h;refine isTrue_or (gn (q d s e H _ I h) λc m ⟨j,i,g⟩=>?_);cases c with
 |true=>exact⟨j,i,g⟩
 |false=>exact f l d m e j Q i g
def ki {a:Expr} (f:PT X a tA):PT X (.UnaryOp .Not a pos) (avB tA):=by
 intro b s d H Q I h;exact isTrue_not (gn (f b s d H (λc e=>Q (!c) e) I h) λ_ _ ⟨m,l,j⟩=>⟨m,l,j⟩)
def aq3 (f tb:TE):TE:=fun σ H Q=>f σ H λx H1=>∃c,x=.bl c/\if c=true then tb σ H1 Q else Q (.bl false) H1
def avA (f tb:TE):TE:=fun σ H Q=>f σ H λx H1=>∃c,x=.bl c/\if c=true then Q (.bl true) H1 else tb σ H1 Q
def BB {a:Expr} {op} (h:PE X a t):PE X (.BoolOp op [a] pos) t:=λb s d H Q I e=>BoolOp_one (h b s d H Q I e)
def Ox {a:Expr} {tb:TE} (q:PE X a ta) (f:PE X (.BoolOp .And (b::rest) pos) tb):PE X (.BoolOp .And (a::b::rest) pos) (aq3 ta tb):=by
 intro d s g H Q I h;refine BoolOp_and (gn (q d s g H _ I h) λv l ⟨x,j,i,r1,e⟩=>?_);obtain⟨c,rfl,e⟩:=e;cases r1;refine dR ?_;cases c with
 |true=>exact f d l g j Q i e
 |false=>exact⟨.bl false,j,i,rfl,e⟩
def afe {a:Expr} {tb:TE} (q:PE X a ta) (f:PE X (.BoolOp .Or (b::rest) pos) tb):PE X (.BoolOp .Or (a::b::rest) pos) (avA ta tb):=by
 intro d s g H Q I h;refine BoolOp_or (gn (q d s g H _ I h) λv l ⟨x,j,i,r1,e⟩=>?_);obtain⟨c,rfl,e⟩:=e;cases r1;refine dR ?_;cases c with
 |false=>exact f d l g j Q i e
 |true=>exact⟨.bl true,j,i,rfl,e⟩
def tIf (t:TT) (f tb:TE):TE:=fun σ H Q=>t σ H λc H1=>if c=true then f σ H1 Q else tb σ H1 Q
def jP {a:Expr} {b:Expr} {tb:TE} (f:PT X c tA) (B:PE X a ta) (q:PE X b tb):PE X (.IfExp c a b pos) (tIf tA ta tb):=by
 intro e s g H Q I h;refine wpAny_IfExp (gn (f e s g H _ I h) λd i ⟨m,l,j⟩=>?_);cases d with
 |true=>exact B e i g m Q l j
 |false=>exact q e i g m Q l j
def dv (K:ah) (H:Hp) (a:ag) (xs:List V):Prop:=
 Rd H a (.lst xs)\/
  ∃(o:Obj) (dM:Array Value) (n:Nat),K.lookup a=some o/\o.cls=.type "list"/\o.dict=none/\o.data=.seq dM n/\dM.size<=sizeLine/\Vals xs dM.toList
def gL (K:ah) (H:Hp) (a:ag) (xs:List V):Prop:=
 Rd H a (.tup xs)\/
  ∃(o:Obj) (dM:Array Value) (n:Nat),K.lookup a=some o/\o.cls=.type "tuple"/\o.data=.seq dM n/\dM.size<=sizeLine/\Vals xs dM.toList
def ayk:Value->Option V
 |.none=>some .m6
 |.bool b=>some (.bl b)
 |.int i _=>some (.int i)
 |.str x _=>some (.str x)
 |.bytes b _=>some (.Zv b)
 |.float b _=>some (.flt b)
 |.ref a=>some (.ref a)
 |.type n=>some (.ty n)
 |_=>none
def RelV.abs {x:V} (r:RelV x u):ayk u=some x:=by
 cases x with
 |m6=>cases r;rfl
 |bl _=>cases r;rfl
 |int _=>obtain⟨t,rfl⟩:=r;rfl
 |str _=>obtain⟨t,rfl⟩:=r;rfl
 |Zv _=>obtain⟨t,rfl⟩:=r;rfl
 |flt _=>obtain⟨t,rfl⟩:=r;rfl
 |ref _=>cases r;rfl
 |ty _=>cases r;rfl
def RelV.inj {x:V} (r:RelV x u) (q:RelV y u):x=y:=ay (r.abs.symm.trans q.abs)
theorem Vals.inj {xs ys:List V} {us:List Value} (h:Vals xs us) (g:Vals ys us):xs=ys:=by
 induction h generalizing ys with
 |nil=>cases g;rfl
 |cons r t i=>cases g with|cons q f=>rw[r.inj q,i f]
def dv.of (h:H a=some (.lst xs)):dv K H a xs:=.inl (.inl h)
def gL.of (h:H a=some (.tup xs)):gL K H a xs:=.inl (.inl h)
def Inv.list (I:Inv X pins σ H s) (h:dv X.K H a xs):∃f:List Value,Vals xs f/\PlainL s.heap a f.toArray/\xs.length<=sizeLine:=by
 rcases h with h|⟨o,f,n,d,g,hd,b,i,r⟩
 ·obtain⟨z,f,n,r,e⟩:=h.ok I.eR;exact⟨f,r,⟨_,n,e,rfl,rfl,rfl⟩,z⟩
 ·refine⟨f.toList,r,⟨o,n,I.W2 a o d,g,hd,by simpa using b⟩,?_⟩;have e:=r.length;simp only[fP]at e;omega
def Inv.tuple (I:Inv X pins σ H s) (h:gL X.K H a xs):∃f:List Value,Vals xs f/\IsTup s.heap a f.toArray/\xs.length<=sizeLine:=by
 rcases h with h|⟨o,f,n,d,g,b,i,r⟩
 ·obtain⟨z,f,r,p⟩:=h.ok I.eR;exact⟨f,r,p,z⟩
 ·refine⟨f.toList,r,⟨o,I.W2 a o d,g,n,by simpa using b⟩,?_⟩;have e:=r.length;simp only[fP]at e;omega
def Inv.MN (I:Inv X pins σ H s) (h:dv X.K H a xs) (h':dv X.K H a ys):xs=ys:=by
 obtain⟨j,r,⟨o,n,e,_,_,d⟩,_⟩:=I.list h;obtain⟨its',i,⟨m,p,b,_,_,g⟩,_⟩:=I.list h';rw[e]at b;cases b;rw[d]at g;injection g with l _
 have:j=its':=by simpa using cK aeP l
 subst this;exact r.inj i
def Inv.Ww (I:Inv X pins σ H s) (h:gL X.K H a xs) (h':gL X.K H a ys):xs=ys:=by
 obtain⟨j,r,⟨o,e,_,n,d⟩,_⟩:=I.tuple h;obtain⟨its',i,⟨m,b,_,p,g⟩,_⟩:=I.tuple h';rw[e]at b;cases b;rw[d]at g;injection g with l _
 have:j=its':=by simpa using cK aeP l
 subst this;exact r.inj i
abbrev Cx.Vk (X:Cx) (E:Value->aJ->Prop):Cx:={X with xe:=E}
abbrev Cx.nox (X:Cx):Cx:=X.Vk λ_ _=>False
def Cx.Ok.Vk (ok:X.Ok) (E:Value->aJ->Prop):(X.Vk E).Ok:=
 ⟨ok.mod,ok.kind,ok.glob,ok.blt,ok.above,ok.inj,ok.has,ok.cab,ok.hd,ok.frames,ok.stk,ok.exf,ok.bs,ok.bsz,ok.agx,ok.ag7,ok.MX,ok.frf⟩
def Cx.Ok.Kj {E:Value->aJ->Prop} (ok:(X.Vk E).Ok):X.Ok:=
 ⟨ok.mod,ok.kind,ok.glob,ok.blt,ok.above,ok.inj,ok.has,ok.cab,ok.hd,ok.frames,ok.stk,ok.exf,ok.bs,ok.bsz,ok.agx,ok.ag7,ok.MX,ok.frf⟩
def Inv.Vk (I:Inv X pins σ H s) (E:Value->aJ->Prop):Inv (X.Vk E) pins σ H s:=⟨I.ok.Vk E,I.os,I.bare,I.base,I.loc,I.cell,I.free,I.vi,I.pin,I.eR,I.len⟩
def Inv.Kj {E:Value->aJ->Prop} (I:Inv (X.Vk E) pins σ H s):Inv X pins σ H s:=⟨I.ok.Kj,I.os,I.bare,I.base,I.loc,I.cell,I.free,I.vi,I.pin,I.eR,I.len⟩
def am2:TS:=λD σ H=>D.nx σ H
def L_d (D:Ends) (σ:St) (f:Ends->St->Prop):Prop:=f D σ
def aqS (t u:TS):TS:=λD σ H=>t {D with nx:=u D} σ H
def cv:PSs X [] am2:=λ_ _ a H _ I h=>uT ⟨a,H,I,h⟩
def aj {rest:List Stmt} {t:TS} {u:TS} (F:PS X st t) (B:PSs X rest u):PSs X (st::rest) (aqS t u):=by
 intro a s b H D I h;refine acE (gn (F a s b H {D with nx:=u D} I h) λf e q=>?_)
 cases f with
 |next=>
  obtain⟨d,i,g,q⟩:=q;exact B a e d i D g q
 |ret v=>exact q
 |brk=>exact q
 |cont=>exact q
def aq (B:PS X st t):PSs X [st] t:=by
 intro a s b H D I h;refine acE (gn (B a s b H D I h) λf d q=>?_);cases f with
 |next=>exact uT q
 |ret v=>exact q
 |brk=>exact q
 |cont=>exact q
def aqZ:TS:=λD σ H=>D.ct σ H
def alB:PS X (.Pass pos) am2:=λ_ _ a H _ I h=>wpAny_Pass ⟨a,H,I,h⟩
def aaX:PS X (.Continue pos) aqZ:=λ_ _ a H _ I h=>wpAny_Continue ⟨a,H,I,h⟩
def Inv.quiet (I:Inv X pins σ H s):interactive X.env=false:=by simp[interactive,I.ok.kind]
def aqX (f:TE):TS:=λD σ H=>f σ H λ_ H1=>D.nx σ H1
def cC (q:PE X e te) (f:swapsWith e none pos.line X.env=pure false:=by rfl):PS X (.Expr e pos) (aqX te):=by
 intro a s b H D I h;exact wpAny_Expr_any (gn (q a s b H _ I h) λv j ⟨x,i,g,r1,d⟩=>⟨b,i,g,d⟩) I.quiet f
def avz (f:TE):TS:=λD σ H=>f σ H D.rt
def aW (f:PE X e te):PS X (.Return (some e) pos) (avz te):=by
 intro a s b H D I h;exact wpAny_Return_some (gn (f a s b H _ I h) λv j ⟨x,i,g,r1,d⟩=>⟨x,b,i,g,r1,d⟩)
def aqV (c:TT) (t u:TS):TS:=λD σ H=>c σ H λb H1=>if b=true then t D σ H1 else u D σ H1
def ee {t:TS} {u:TS} {a b:List Stmt} {f:TT} (q:PT X c f) (F:PSs X a t) (B:PSs X b u):PS X (.If c a b pos) (aqV f t u):=by
 intro e s g H D I h;refine wpAny_If (gn (q e s g H _ I h) λd i ⟨m,l,j⟩=>?_);cases d with
 |true=>exact F e i g m D l j
 |false=>exact B e i g m D l j
abbrev TG:=V->St->Hp->(St->Hp->Prop)->Prop
variable {g:TG}
abbrev TGs:=List V->St->Hp->(St->Hp->Prop)->Prop
def PG (X:Cx) (f:Expr) (t:TG):Prop:=
 ∀(pins:List (ag×Obj)) (s:aJ) (σ:St) (H:Hp) (v:V) (u:Value) (Q:St->Hp->Prop),Inv X pins σ H s->RelV v u->t v σ H Q->
  wpAny (model X.prog X.w) X.A (assign f X.env u) (λ_=>I_n X pins Q) X.xe s
def PGs (X:Cx) (ts:List Expr) (t:TGs):Prop:=
 ∀(pins:List (ag×Obj)) (s:aJ) (σ:St) (H:Hp) (vs:List V) (us:List Value) (Q:St->Hp->Prop),Inv X pins σ H s->Vals vs us->t vs σ H Q->
  wpAny (model X.prog X.w) X.A (assignInOrder ((assignEach ts X.env).map (·.2)) us) (λ_=>I_n X pins Q) X.xe s
abbrev apH:=V->V->V->Hp->(Hp->Prop)->Prop
def apJ (X:Cx) (t:apH):Prop:=
 ∀(pins:List (ag×Obj)) (s:aJ) (σ:St) (H:Hp) (o i v:V) (ov a u:Value) (Q:Hp->Prop),Inv X pins σ H s->RelV o ov->RelV i a->RelV v u->t o i v H Q->
  wpAny (model X.prog X.w) X.A (setItem ov a u) (λ_ s'=>∃H',Inv X pins σ H' s'/\Q H') X.xe s
abbrev TIp:=V->V->Hp->VK->Prop
def PIp (X:Cx) (f:Operator) (t:TIp):Prop:=
 ∀(pins:List (ag×Obj)) (s:aJ) (σ:St) (H:Hp) (x y:V) (v u:Value) (Q:VK),Inv X pins σ H s->RelV x v->RelV y u->t x y H Q->
  wpAny (model X.prog X.w) X.A (inplaceOp f v u) (EP X pins σ Q) X.xe s
def aju (i:Nat):TG:=λv σ H Q=>Q (σ.set i (some v)) H
def eC (i:Nat) (B:X.N.Nodup) (hi:X.N[i]? =some x:=by rfl) (f:Loc X.env.scope x:=by exact oY rfl) (q:X.fn x=true\/X.env.scope.names.lookup x=some .local:=by first|exact .inl rfl|exact .inr rfl|assumption):PG X (.Name x pos) (aju i):=by
 intro a s d H v u Q I r h;exact wpAny_assign_Name (LQ I B hi f r (λe b=>⟨_,H,b,h⟩) q)
def axE:TGs:=λvs σ H Q=>vs=[]/\Q σ H
def asE (t:TG) (u:TGs):TGs:=λvs σ H Q=>∃v r,vs=v::r/\t v σ H fun a H'=>u r a H' Q
def YA:PGs X [] axE:=by
 intro a s b H d g Q I r h;obtain⟨e,h⟩:=h;subst e;cases r;exact assignInOrder_nil ⟨b,H,I,h⟩
def Ae {t:TG} {u:TGs} (B:PG X e t) (q:PGs X es u)
 (f:(assignEach (e::es) X.env).map (·.2)=assign e X.env::(assignEach es X.env).map (·.2):=by rfl):PGs X (e::es) (asE t u):=by
 intro a s b H o x Q I r h;obtain⟨v,p,l,h⟩:=h;subst l;cases r with
 |cons r i=>
  rw[f];refine assignInOrder_cons (gn (B a s b H _ _ _ I r h) λ_ g ⟨d,n,m,j⟩=>?_);exact q a g d n _ _ Q m i j
def axC (K:ah) (n:Nat) (t:TGs):TG:=λv σ H Q=>∃a xs,v=.ref a/\gL K H a xs/\xs.length=n/\t xs σ H Q
def adx {k:Nat} (B:X.calm=true) (h:PGs X es t)
 (q:(assignEach es X.env).length=n:=by rfl) (f:(assignEach es X.env).findIdx? (·.1)=none:=by rfl):PG X (.Tuple es k pos) (axC X.K n t):=by
 intro d s i H v u Q I r g;obtain⟨a,l,C,x,y,g⟩:=g;subst C;cases r;obtain⟨J,j,p,E⟩:=I.tuple x;refine assign_Tuple_tuple (I.ok.hd B) p (by simp[q,<-y,j.length]) f λz m=>?_
 have D:Inv X d i H {s with heap:=z}:=I.kept (t':=s.toks) λb o e=>m b o (dX (bK e)) e
 exact h d _ i H l _ Q D (by simpa using j) g
def axD (to ti:TE) (t:apH):TG:=λv σ H Q=>to σ H λo H1=>ti σ H1 λi H2=>t o i v H2 λa=>Q σ a
def aiw {o i:Expr} {ti:TE} (B:PE X o to) (hi:PE X i ti) (q:apJ X t)
 (F:∀v,assign (.Subscript o i pos) X.env v=(do
  let ov <-holding [v] (eval o X.env)
  let f <-holding [v,ov] (eval i X.env)
  standAt pos
  holding [v,ov,f] (setItem ov f v)
  release [v,ov,f] []):=by intro _;rfl):PG X (.Subscript o i pos) (axD to ti t):=by
 intro a s b H v u Q I r h;rw[F];refine af (pR (gn (B a s b H _ I h) λov e ⟨x,E,z,r1,m⟩=>?_));refine af (pR (gn (hi a e b E _ z m) λf d ⟨y,D,p,g,l⟩=>?_));refine af (aDk (af (pR (gn (q a d b D x y v ov f u _ p r1 g r l) λ_ J ⟨C,n,j⟩=>?_))));exact wpAny_release ⟨b,C,n,j⟩
def aq2 (f:TE) (g:TG):TS:=λD σ H=>f σ H λx H1=>g x σ H1 D.nx
def aiu (G:PE X e te) (F:PG X tg g) (B:swapsWithSole [tg] e pos.line X.env=pure false:=by rfl) (f:swappedStores [tg] e X.env=pure none:=by rfl)
 (O:(assignEach [tg] X.env).map (·.2)=[assign tg X.env]:=by rfl):PS X (.Assign [tg] e pos) (aq2 te g):=by
 intro a s b H D I h;refine wpAny_Assign_stores (gn (G a s b H _ I h) λv d ⟨x,l,j,r1,i⟩=>?_) B f;rw[O];exact gn (F a d b l x v _ j r1 i) λ_ m q=>q
def bS (i:Nat) (G:X.N.Nodup) (F:PE X e te) (hi:X.N[i]? =some x:=by rfl) (f:Loc X.env.scope x:=by exact oY rfl) (q:swapsWith e (some (.Name x pos')) pos.line X.env=pure false:=by rfl) (B:X.fn x=true\/X.env.scope.names.lookup x=some .local:=by first|exact .inl rfl|exact .inr rfl|assumption):
 PS X (.Assign [.Name x pos'] e pos) (aq2 te (aju i)):=by
 intro a s b H D I h;refine atl (gn (F a s b H _ I h) λv n ⟨y,l,j,r1,d⟩=>?_) q;exact LQ j G hi f r1 (λm g=>⟨_,l,g,d⟩) B
def avG (i:Nat) (f:TE) (ti:TIp):TS:=λD σ H=>∃x,σ[i]? =some (some x)/\f σ H λy H1=>ti x y H1 λz H2=>D.nx (σ.set i (some z)) H2
def aoo {f:Operator} {ti:TIp} (O:X.N.Nodup) (hi:X.N[i]? =some x) (q:Loc X.env.scope x) (G:PE X e te) (B:PIp X f ti) (F:X.fn x=true\/X.env.scope.names.lookup x=some .local:=by first|exact .inl rfl|exact .inr rfl|assumption):
 PS X (.AugAssign (.Name x pos') f e pos) (avG i te ti):=by
 intro a s n H D I h;obtain⟨v,S,h⟩:=h;obtain⟨m,L,P⟩:=I.loc;have g:Vis X.env.scope x:=by rcases q with k|k;exact .inl k;exact .inr (.inl k)
 obtain⟨u,r,l⟩:=P i x v hi S g;refine wpAny_AugAssign_Name ?_
 have go:wpAny (model X.prog X.w) X.A (eval e X.env) (λw d=>wpAny (model X.prog X.w) X.A (inplaceOp f u w) (λr o=>wpAny (model X.prog X.w) X.A (storeName X.env x r) (λ_=>SP X a D .next) X.xe o) X.xe d) X.xe s:=by
  refine gn (G a s n H _ I h) λw p ⟨y,H1,Y,r1,J⟩=>?_
  refine gn (B a p n H1 v y u w _ Y r r1 J) λz s2 ⟨zv,Z,U,C,E⟩=>?_
  exact LQ U O hi q C (λs3 T=>⟨_,Z,T,E⟩) F
 rcases l with⟨b,M⟩|⟨b,c,Q,j⟩
 ·exact anK I.ok.kind b L M go
 ·rcases b with b|b
  ·exact apS I.ok.kind b Q j go
  ·rcases q with k|k
   ·have:X.env.scope.names.lookup x=some .free:=b;rw[k]at this;cases this
   ·have:X.env.scope.names.lookup x=some .free:=b;rw[k]at this;cases this
def aq1 (to ti F:TE) (B:V->V->Hp->VK->Prop) (f:TIp) (q:apH):TS:=λD σ H=>to σ H λo H1=>ti σ H1 λi H2=>B o i H2 λx d=>F σ d λy H4=>f x y H4 λz b=>q o i z b λa=>D.nx σ a
def atf (X:Cx) (t:V->V->Hp->VK->Prop):Prop:=
 ∀(pins:List (ag×Obj)) (s:aJ) (σ:St) (H:Hp) (o i:V) (ov a:Value) (Q:VK),Inv X pins σ H s->RelV o ov->RelV i a->t o i H Q->
  wpAny (model X.prog X.w) X.A (getItem ov a) (EP X pins σ Q) X.xe s
def alC {o i:Expr} {ti:TE} {F:V->V->Hp->VK->Prop} {B:TIp} {O:Operator} (ho:PE X o to) (hi:PE X i ti) (hg:atf X F) (he:PE X e te) (Z:PIp X O B) (Y:apJ X G)
 (ha:∀f q new,augStore i f q new=(do holding [new,f,q] (setItem f q new);release [new,f,q] [];pure .next):=by intros;rfl):PS X (.AugAssign (.Subscript o i ű) O e pos) (aq1 to ti te F B G):=by
 intro a s b H D I h;refine wpAny_AugAssign_SubscriptAny (gn (ho a s b H _ I h) λf C ⟨j,H1,I1,r1,U⟩=>?_) ha;refine gn (hi a C b H1 _ I1 U) λq z ⟨g,H2,I2,l,T⟩=>?_
 refine gn (hg a z b H2 j g f q _ I2 r1 l T) λd y ⟨p,H3,I3,L,S⟩=>?_
 refine gn (he a y b H3 _ I3 S) λv x ⟨n,H4,I4,J,Q⟩=>?_
 refine gn (Z a x b H4 p n d v _ I4 L J Q) λnew u ⟨m,H5,I5,E,P⟩=>?_
 exact gn (Y a u b H5 j g m f q new _ I5 r1 l E P) λ_ s6 ⟨H6,I6,M⟩=>⟨b,H6,I6,M⟩
def ipI (f:Int->Int->Int):TIp:=λx y H Q=>∃i j,x=.int i/\y=.int j/\Q (.int (f i j)) H
def aoR:PIp X .Add (ipI λi j=>i+j):=by
 intro a s g H x y v u Q I r1 b h;obtain⟨i,j,e,d,q⟩:=h;subst e;subst d;obtain⟨t,rfl⟩:=r1;obtain⟨l,rfl⟩:=b;exact iadd_int ⟨.int _,H,I.tok _,⟨_,rfl⟩,q⟩
def aoQ:PIp X .Sub (ipI λi j=>i - j):=by
 intro a s g H x y v u Q I r1 b h;obtain⟨i,j,e,d,q⟩:=h;subst e;subst d;obtain⟨t,rfl⟩:=r1;obtain⟨l,rfl⟩:=b;exact isub_int ⟨.int _,H,I.tok _,⟨_,rfl⟩,q⟩
structure It where
 go:Nat->Hp->Prop
 yld:Nat->Hp->V->Hp->Prop
 stop:Nat->Hp->Prop
variable {J:It}
def iC (X:Cx) (pins:List (ag×Obj)) (H:Hp) (b:ag):Prop:=
 H b=none/\b≠X.env.locals/\b∉X.fs/\(b∈X.ex\/X.PL.heap.objs.size<=b)/\(∀x c,X.env.cells.lookup x=some c->c≠b)/\∀p∈X.pn++pins,p.1≠b
def Inv.D5 {b:ag} (I:Inv X pins σ H s) (f:s.heap.objs.size<=b) (B:H' b=none):iC X pins H' b:=by
 refine⟨B,nE (cF I.lt f),I.av6 f,.inr (b9 I.sz f),λx c e z=>?_,λp a z=>?_⟩
 ·obtain⟨v,q⟩:=I.cell x c e;exact absurd (cF q.lt (by rw[z];exact f)) (g0 _)
 ·exact absurd (cF (bK (I.pin p a).1) (by rw[z];exact f)) (g0 _)
structure Turn (P:kE) (w:World) (K:ah) (tg:Expr) (J:It) (fp:List ag) (it:ag) (tn:Nat->Heap->Prop):Prop where
 mem:it∈fp
 obj:∀i h,tn i h->∀b∈fp,∃o,h.get? b=some o/\∀v,o.data≠ .cell v
 keep:∀i h h',tn i h->(∀b∈fp,∀o,h.get? b=some o->h'.get? b=some o)->tn i h'
 item:∀(X:Cx),X.prog=P->X.w=w->X.K=K->X.calm=true->∀(i:Nat) (pins:List (ag×Obj)) (s:aJ) (σ:St) (H:Hp) (E:Value->aJ->Prop),Inv X pins σ H s->(∀b∈fp,iC X pins H b)->tn i s.heap->J.go i H->
  wpAny (model P w) X.A (pyNext (.ref it)) (λr s1=>∃u,r=some u/\
   wpAny (model P w) X.A (letOwnedTupleGo tg (.ref it) u) (λ_ s2=>∃x H',Inv X pins σ H' s2/\RelV x u/\J.yld i H x H'/\tn (i+1) s2.heap/\∀b∈fp,H' b=none) E s1) E s
 done:∀(X:Cx),X.prog=P->X.w=w->X.K=K->X.calm=true->∀(i:Nat) (pins:List (ag×Obj)) (s:aJ) (σ:St) (H:Hp) (E:Value->aJ->Prop),Inv X pins σ H s->(∀b∈fp,iC X pins H b)->tn i s.heap->J.stop i H->
  wpAny (model P w) X.A (pyNext (.ref it)) (λr s1=>r=none/\Inv X pins σ H s1) E s
 self:∀(A:Around) (i:Nat) (s:aJ) (Q:Value->aJ->Prop) (E:Value->aJ->Prop),tn i s.heap->Q (.ref it) s->wpAny (model P w) A (pyIter (.ref it)) Q E s
abbrev TI:=St->Hp->(It->Hp->Prop)->Prop
variable {wi:TI}
def PIE (X:Cx) (pins:List (ag×Obj)) (B:St) (F:Expr) (R:It->Hp->Prop) (f:Value) (q:aJ):Prop:=
 ∃(it:ag) (fp:List ag) (tn:Nat->Heap->Prop) (J:It) (H':Hp),f=.ref it/\Inv X pins B H' q/\Turn X.prog X.w X.K F J fp it tn/\tn 0 q.heap/\(∀b∈fp,iC X pins H' b)/\R J H'
def PI (X:Cx) (q iter:Expr) (f:TI):Prop:=
 ∀(pins:List (ag×Obj)) (s:aJ) (σ:St) (H:Hp) (R:It->Hp->Prop),Inv X pins σ H s->f σ H R->
  wpAny (model X.prog X.w) X.A (eval iter X.env) (λv a=>wpAny (model X.prog X.w) X.A (pyIter v) (PIE X pins σ q R) X.xe a) X.xe s
def Xa {E:Value->aJ->Prop} {n:String} {Q:Unit->aJ->Prop} (q:s.heap.get? it=some o) (F:o.cls=.type n) (hd:o.data=.fields vs)
 (B:["enumerate","zip","dict_itemiterator","dict_reverseitemiterator","odict_iterator","itertools.zip_longest","itertools.pairwise"].contains n=false) (f:Q () s):wpAny M A (letOwnedTupleGo tg (.ref it) u) Q E s:=by
 unfold letOwnedTupleGo
 cases tg<;>first
  |exact aN f
  |(cases u<;>first
   |exact aN f
   |(refine af (wpAny_load q ?_)
     rw[F,hd];show wpAny M A (if(["enumerate","zip","dict_itemiterator","dict_reverseitemiterator","odict_iterator","itertools.zip_longest","itertools.pairwise"].contains n&&vs[0]? ==some (rawInt _))=true then _ else _) Q E s;rw[au (by intro h;rw[B,cq]at h;cases h)];exact aN f))
def Itl (K:ah) (a:ag):It:=
 ⟨λi H=>∃xs x,dv K H a xs/\xs[i]? =some x,λi H x H'=>H'=H/\∀xs,dv K H a xs->xs[i]? =some x,λi H=>∃xs,dv K H a xs/\xs.length<=i⟩
def Itt (K:ah) (a:ag):It:=
 ⟨λi H=>∃xs x,gL K H a xs/\xs[i]? =some x,λi H x H'=>H'=H/\∀xs,gL K H a xs->xs[i]? =some x,λi H=>∃xs,gL K H a xs/\xs.length<=i⟩
def Itr (lo:Int) (n:Nat):It:=⟨λi _=>i<n,λi H x H'=>H'=H/\x=.int (lo+i),λi _=>n<=i⟩
def af6 (a it:ag):Turn P w K tg (Itl K a) [it] it (λi h=>h.IsListIter it a i)where
 mem:=by simp
 obj:=λi h st b j=>by
  have e:b=it:=by simpa using j
  subst e;obtain⟨o,e,c,d⟩:=st;exact⟨o,e,λv z=>by rw[d]at z;cases z⟩
 keep:=λi h n st k=>st.at λo e=>k it (by simp) o e
 item:=by
  intro X hP D L B i g s q H E I m st J;subst hP D L;obtain⟨G,x,l,C⟩:=J;obtain⟨dM,y,p,Y⟩:=I.list l;obtain⟨u,hu,U⟩:=y.get C;obtain⟨f,T,f2,S,Q,M⟩:=m it (by simp);refine wpAny_pyNext_list_item st p.isList (x:=u) (by simpa using hu) λn F O=>?_
  have I1:Inv X g q H {s with heap:=n}:=I.turned (t':=s.toks) (λb o j e=>(O.2 b j).trans e) f T S Q M
  obtain⟨o,e,c,d⟩:=id F;exact⟨u,rfl,Xa (s:={s with heap:=n}) e c d (by decide) ⟨x,H,I1,U,⟨rfl,λys Z=>by rw[I.MN Z l];exact C⟩,F,λb j=>(m b j).1⟩⟩
 done:=by
  intro X hP D L B i g s q H E I m st J;subst hP D L;obtain⟨G,l,C⟩:=J;obtain⟨dM,y,p,Y⟩:=I.list l;obtain⟨f,T,f2,S,Q,M⟩:=m it (by simp);have hl:=y.length;exact wpAny_pyNext_list_end (I.ok.hd B) st p.isList (by simp;omega) λn eb=>⟨rfl,I.turned (t':=s.toks) (λb o j e=>eb b o j e) f T S Q M⟩
 self:=λ_ _ _ _ _ st h=>wpAny_pyIter_listiter st h
def ac5 (a it:ag):Turn P w K tg (Itt K a) [it] it (λi h=>h.IsTupleIter it a i)where
 mem:=by simp
 obj:=λi h st b j=>by
  have e:b=it:=by simpa using j
  subst e;obtain⟨o,e,c,d⟩:=st;exact⟨o,e,λv z=>by rw[d]at z;cases z⟩
 keep:=λi h n st k=>st.at λo e=>k it (by simp) o e
 item:=by
  intro X hP D L F i g s B H E I m st J;subst hP D L;obtain⟨O,x,l,C⟩:=J;obtain⟨q,y,p,Z⟩:=I.tuple l;obtain⟨u,hu,Y⟩:=y.get C;obtain⟨f,T,f2,S,Q,M⟩:=m it (by simp);refine wpAny_pyNext_tuple_item st (show s.heap.IsTuple a q.toArray from p) (x:=u) (by simpa using hu) λn G U=>?_
  have I1:Inv X g B H {s with heap:=n}:=I.turned (t':=s.toks) (λb o j e=>(U.2 b j).trans e) f T S Q M
  obtain⟨o,e,c,d⟩:=id G;exact⟨u,rfl,Xa (s:={s with heap:=n}) e c d (by decide) ⟨x,H,I1,Y,⟨rfl,λys hy=>by rw[I.Ww hy l];exact C⟩,G,λb j=>(m b j).1⟩⟩
 done:=by
  intro X hP D L F i g s B H E I m st J;subst hP D L;obtain⟨O,l,C⟩:=J;obtain⟨q,y,p,Z⟩:=I.tuple l;obtain⟨f,T,f2,S,Q,M⟩:=m it (by simp);have hl:=y.length;exact wpAny_pyNext_tuple_end (I.ok.hd F) st (show s.heap.IsTuple a q.toArray from p) (by simp;omega) λn eb=>⟨rfl,I.turned (t':=s.toks) (λb o j e=>eb b o j e) f T S Q M⟩
 self:=λ_ _ _ _ _ st h=>wpAny_pyIter_tupleiter st h
def ac6 (it:ag) (lo:Int) (n:Nat):Turn P w K tg (Itr lo n) [it] it (λi h=>IsRangeIter h it (lo+(i:Nat) * 1) ((n:Int) - (i:Nat)) 1)where
 mem:=by simp
 obj:=λi h st b d=>by
  have e:b=it:=by simpa using d
  subst e
  exact⟨_,st,λv z=>by
   have Q:Data.fields _=Data.cell v:=z;cases Q⟩
 keep:=λi h j st k=>k it (by simp) _ st
 item:=by
  intro X hP l u p i a s L H E I g st m;subst hP l u;obtain⟨J,D,f,C,y,x⟩:=g it (by simp);have W:=Walks.range (prog:=X.prog) (w:=X.w) (I.ok.hd p) it lo 1 n;refine W.item i s _ _ m st λv j tk T M S=>?_
  obtain⟨t,rfl⟩:=T;have B:Inv X a L H {s with heap:=j,toks:=tk}:=I.turned (λb o d e=>S b o (by simpa using d) e) J D C y x
  refine⟨_,rfl,Xa (s:={s with heap:=j,toks:=tk}) (n:="range_iterator") M rfl rfl (by decide) ⟨.int (lo+i),H,B,⟨t,?_⟩,⟨rfl,rfl⟩,M,λb d=>(g b d).1⟩⟩
  rw[Int.mul_one]
 done:=by
  intro X hP l u p i a s L H E I g st m;subst hP l u;obtain⟨J,D,f,C,y,x⟩:=g it (by simp);exact wpAny_pyNext_range_end (I.ok.hd p) st (by have:n<=i:=m;omega) λj q=>⟨rfl,I.turned (t':=s.toks) (λb o d e=>q b o d e) J D C y x⟩
 self:=λ_ _ _ _ _ st h=>wpAny_pyIter_rangeiter st h
def arQ (K:ah) (tl:TE):TI:=fun σ H R=>tl σ H λx H1=>∃a,x=.ref a/\(∃xs,dv K H1 a xs)/\R (Itl K a) H1
def awj (K:ah) (tl:TE):TI:=fun σ H R=>tl σ H λx H1=>∃a,x=.ref a/\(∃xs,gL K H1 a xs)/\R (Itt K a) H1
def jO {l:Expr} (f:PE X l tl):PI X tg l (arQ X.K tl):=by
 intro d s i H R I h;refine gn (f d s i H _ I h) λv s1 ⟨x,u,g,r1,j⟩=>?_
 obtain⟨a,e,⟨y,m⟩,q⟩:=j;subst e;cases r1;obtain⟨D,z,p,C⟩:=g.list m;refine ZX p.isList ?_;refine⟨s1.heap.objs.size,[s1.heap.objs.size],_,_,u,rfl,g.kept (t':=s1.toks) λb o e=>aB _ e,af6 a _,⟨_,bf _ rfl,rfl,rfl⟩,λb n=>?_,q⟩;have e:b=s1.heap.objs.size:=by simpa using n
 subst e;exact g.D5 (aS _) (g.eR.fresh (aS _))
def adw {l:Expr} (f:PE X l tl):PI X tg l (awj X.K tl):=by
 intro d s i H R I h;refine gn (f d s i H _ I h) λv s1 ⟨x,y,g,r1,j⟩=>?_
 obtain⟨a,e,⟨z,m⟩,q⟩:=j;subst e;cases r1;obtain⟨u,C,p,D⟩:=g.tuple m;refine aqA (show s1.heap.IsTuple a u.toArray from p) ?_;refine⟨s1.heap.objs.size,[s1.heap.objs.size],_,_,y,rfl,g.kept (t':=s1.toks) λb o e=>aB _ e,ac5 a _,⟨_,bf _ rfl,rfl,rfl⟩,λb n=>?_,q⟩;have e:b=s1.heap.objs.size:=by simpa using n
 subst e;exact g.D5 (aS _) (g.eR.fresh (aS _))
def aiq {R:It->Hp->Prop} {E:Value->aJ->Prop} {hi:Int} {u:Tok} {tk:Nat} (I:Inv X pins σ H s) (G: -(2 ^ 62)<=lo) (F:lo<2 ^ 62) (B: -(2 ^ 62)<=hi) (f:hi<2 ^ 62)
 (q:R (Itr lo (hi - lo).toNat) H):wpAny (model X.prog X.w) X.A (pyIter (.ref s.heap.objs.size)) (PIE X pins σ tg R) E {s with heap:=s.heap.push {cls:=.type "range",data:=.fields #[.int lo t,.int hi u,.int 1 v]},toks:=tk}:=by
 refine wpAny_pyIter_range (apX ..) (small_one G F B f) ?_;have a:Inv X pins σ H {s with heap:=s.heap.push {cls:=.type "range",data:=.fields #[.int lo t,.int hi u,.int 1 v]},toks:=tk}:=I.kept λb o e=>aB _ e
 refine⟨(s.heap.push {cls:=.type "range",data:=.fields #[.int lo t,.int hi u,.int 1 v]}).objs.size,[(s.heap.push {cls:=.type "range",data:=.fields #[.int lo t,.int hi u,.int 1 v]}).objs.size],_,_,H,rfl,
  a.kept (t':=tk) λb o e=>aB _ e,ac6 _ lo (hi - lo).toNat,?_,λb d=>?_,q⟩
 ·have h:lo+((0:Nat):Int) * 1=lo:=by simp
  have g:(((hi - lo).toNat:Nat):Int) - ((0:Nat):Int)=gB lo hi 1:=by rw[rangeSize_one];split<;>omega
  show IsRangeIter _ _ (lo+((0:Nat):Int) * 1) ((((hi - lo).toNat:Nat):Int) - ((0:Nat):Int)) 1;rw[h,g];exact bf _ rfl
 ·have e:b=(s.heap.push {cls:=.type "range",data:=.fields #[.int lo t,.int hi u,.int 1 v]}).objs.size:=by simpa using d
  subst e;exact a.D5 (aS _) (a.eR.fresh (aS _))
def arP (f:TA):TI:=fun σ H R=>f σ H λvs H1=>∃j:Int,vs=[.int j]/\ -(2 ^ 62)<=j/\j<2 ^ 62/\R (Itr 0 j.toNat) H1
def WR {a:Expr} {f:TA} {p:Pos} (G:Gl X "range") (F:X.mg "range"=none) (O:PA X [a] f) (B:starEach [a] X.env=[(false,eval a X.env)]:=by rfl):PI X tg (.Call (.Name "range" p) [a] [] pos) (arP f):=by
 intro b s g H R I h;refine Call_ (KW I G F boot_range (gC (gn (O pos b s g H _ I h) λo u ⟨n,x,m,r1,d⟩=>?_) B rfl));obtain⟨j,e,d,l,q⟩:=d;subst e;cases r1 with
 |cons r i=>
  cases i;obtain⟨t,rfl⟩:=r;exact call_range_1 (aiq m (by fail) (by fail) d l (by simpa using q))
def an2 (f:TI) (g:TG) (tb:TS):TS:=λD σ H=>f σ H λJ H1=>∃W:Nat->Nat->St->Hp->Prop,(∃m,W 0 m σ H1)/\∀i m σ H,W i m σ H->
 (J.stop i H/\D.nx σ H)\/(J.go i H/\∃N:St->Hp->Prop,(∀a H',N a H'->∃m',m'<m/\W (i+1) m' a H')/\∀x H',J.yld i H x H'->g x σ H' fun b H2=>tb {D with nx:=N,ct:=N,bk:=D.nx} b H2)
def SU (fp:List ag) (h:Heap):List (ag×Obj):=fp.filterMap λb=>(h.get? b).map λo=>(b,o)
def KR {fp:List ag} {b:ag} (f:b∈fp) (e:h.get? b=some o):(b,o)∈SU fp h:=gW.mpr ⟨b,f,by rw[e];rfl⟩
def agw {fp:List ag} {p:ag×Obj} (f:p∈SU fp h):p.1∈fp/\h.get? p.1=some p.2:=by
 obtain⟨b,a,e⟩:=gW.mp f;cases q:h.get? b with
 |none=>rw[q]at e;cases e
 |some o=>
  rw[q]at e;have d:(b,o)=p:=ay e;subst d;exact⟨a,q⟩
def Inv.pinned {fp:List ag} (I:Inv X pins σ H s) (q:∀b∈fp,iC X pins H b) (f:∀b∈fp,∃o,s.heap.get? b=some o/\∀v,o.data≠ .cell v):Inv X (pins++SU fp s.heap) σ H s:=
 I.afd λp h=>(bL.mp h).elim (λz=>I.pin p (dB _ z)) λz=>by
  obtain⟨a,e⟩:=agw z;obtain⟨l,j,i,_⟩:=q p.1 a;obtain⟨o,g,d⟩:=f p.1 a;rw[e]at g;cases g;exact⟨e,l,j,i,d⟩
def Inv.LP {pl:List (ag×Obj)} (I:Inv X (pins++pl) σ H s):Inv X pins σ H s:=I.afd λp a=>I.pin p (dB _ (gg _ a))
def aon (B:PassesOwn (model X.prog X.w) X.A X.env X.xe) (hc:X.calm=true) (hi:PI X tg iter wi) (hg:PG X tg g) (q:PSs X body tb)
 (hs:∀x,foldedSetIterable iter X.env x=pure x:=by intro _;rfl):PS X (.For tg iter body [] pos) (an2 wi g tb):=by
 intro a s O H D I h;refine wpAny_For (gn (hi a s O H _ I h) λv s1 h1=>gn h1 λitv s2 h2=>?_) hs;obtain⟨it,fp,tn,J,H2,e,I2,T,QK,f2,W,⟨m0,w0⟩,Ν⟩:=h2;subst e;have P:∀{H':Hp},(∀b∈fp,H' b=none)->∀b∈fp,iC X a H' b:=λhn b q=>⟨hn b q,(f2 b q).2⟩
 refine codeAny_forLoop_any (λn s'=>∃i z H',Inv X a z H' s'/\tn i s'.heap/\(∀b∈fp,H' b=none)/\W i n z H') ?_ m0 ⟨0,O,H2,I2,QK,λb q=>(f2 b q).1,w0⟩
 rintro n Z ⟨i,C,L,I3,U,fr3,w3⟩
 rcases Ν i n C L w3 with⟨stop,qn⟩|⟨go,N,hN,step⟩
 ·refine oV B (gn (T.done X rfl rfl rfl hc i a Z C L X.xe I3 (P fr3) U stop) λr s4 ⟨F,I4⟩=>?_);subst F;exact uT ⟨C,L,I4,qn⟩
 ·refine oV B (gn (T.item X rfl rfl rfl hc i a Z C L X.xe I3 (P fr3) U go) λr s4 ⟨u,F,h4⟩=>?_);subst F;refine oV B (gn h4 λ_ Y ⟨x,H5,I5,r5,y5,Q,fr5⟩=>?_);have G:=I5.pinned (P fr5) (T.obj _ _ Q);refine oV B (gn (hg _ Y C H5 x u _ G r5 (step x H5 y5)) λ_ s6 ⟨M,H6,I6,q6⟩=>?_);refine oV B (gn (q _ s6 M H6 _ I6 q6) λf S y=>?_)
  have again:∀{j:St} {p:Hp},Inv X (a++SU fp Y.heap) j p S->N j p->∃m,m<n/\∃i z H',Inv X a z H' S/\tn i S.heap/\(∀b∈fp,H' b=none)/\W i m z H':=fun {j p} l E=>by
   obtain⟨m',hm,w7⟩:=hN j p E;refine⟨m',hm,i+1,j,p,l.LP,T.keep _ _ _ Q λb q o e=>(l.pin (b,o) (dB _ (dB _ (KR q e)))).1,λb q=>?_,w7⟩;obtain⟨o,e,d⟩:=T.obj _ _ Q b q;exact(l.pin (b,o) (dB _ (dB _ (KR q e)))).2.1
  cases f with
  |next=>obtain⟨j,p,l,E⟩:=y;exact again l E
  |cont=>obtain⟨j,p,l,E⟩:=y;exact again l E
  |brk=>obtain⟨j,p,l,y⟩:=y;exact⟨j,p,l.LP,y⟩
  |ret v=>obtain⟨x7,j,p,l,r7,y⟩:=y;exact⟨x7,j,p,l.LP,r7,y⟩
def ajx (Pv:Nat->St->Hp->Prop) (U:Pv 0 σ H) (O:∀i σ H,i<=xs.length->Pv i σ H->dv K H a xs)
 (I:∀i x σ H,xs[i]? =some x->Pv i σ H->g x σ H fun F G=>tb {D with nx:=Pv (i+1),ct:=Pv (i+1),bk:=D.nx} F G) (hd:∀σ H,Pv xs.length σ H->D.nx σ H):
 ∃W:Nat->Nat->St->Hp->Prop,(∃m,W 0 m σ H)/\∀i m σ H,W i m σ H->
  ((Itl K a).stop i H/\D.nx σ H)\/((Itl K a).go i H/\∃N:St->Hp->Prop,(∀B f,N B f->∃m',m'<m/\W (i+1) m' B f)/\∀x f,(Itl K a).yld i H x f->g x σ f fun F G=>tb {D with nx:=N,ct:=N,bk:=D.nx} F G):=by
 refine⟨λi m σ H=>m=xs.length - i/\i<=xs.length/\Pv i σ H,⟨xs.length,by simp,eI _,U⟩,?_⟩
 rintro i m σ H ⟨rfl,h,p⟩
 have q:=O i σ H h p;by_cases b:i<xs.length
 ·refine .inr ⟨⟨xs,xs[i],q,by simp[b]⟩,Pv (i+1),fun B f d=>⟨xs.length - (i+1),by omega,rfl,b,d⟩,λx f y=>?_⟩;obtain⟨e,y⟩:=y;subst e;exact I i x σ _ (y xs q) p
 ·have e:i=xs.length:=by omega
  subst e;exact .inl ⟨⟨xs,q,aS _⟩,hd σ H p⟩
def amu (Pv:Nat->St->Hp->Prop) (U:Pv 0 σ H) (O:∀i σ H,i<=xs.length->Pv i σ H->gL K H a xs)
 (I:∀i x σ H,xs[i]? =some x->Pv i σ H->g x σ H fun F G=>tb {D with nx:=Pv (i+1),ct:=Pv (i+1),bk:=D.nx} F G) (hd:∀σ H,Pv xs.length σ H->D.nx σ H):
 ∃W:Nat->Nat->St->Hp->Prop,(∃m,W 0 m σ H)/\∀i m σ H,W i m σ H->
  ((Itt K a).stop i H/\D.nx σ H)\/((Itt K a).go i H/\∃N:St->Hp->Prop,(∀B f,N B f->∃m',m'<m/\W (i+1) m' B f)/\∀x f,(Itt K a).yld i H x f->g x σ f fun F G=>tb {D with nx:=N,ct:=N,bk:=D.nx} F G):=by
 refine⟨λi m σ H=>m=xs.length - i/\i<=xs.length/\Pv i σ H,⟨xs.length,by simp,eI _,U⟩,?_⟩
 rintro i m σ H ⟨rfl,h,p⟩
 have q:=O i σ H h p;by_cases b:i<xs.length
 ·refine .inr ⟨⟨xs,xs[i],q,by simp[b]⟩,Pv (i+1),fun B f d=>⟨xs.length - (i+1),by omega,rfl,b,d⟩,λx f y=>?_⟩;obtain⟨e,y⟩:=y;subst e;exact I i x σ _ (y xs q) p
 ·have e:i=xs.length:=by omega
  subst e;exact .inl ⟨⟨xs,q,aS _⟩,hd σ H p⟩
def ag2 (Pv:Nat->St->Hp->Prop) (I:Pv 0 σ H)
 (G:∀i σ H,i<n->Pv i σ H->g (.int (lo+i)) σ H fun B F=>tb {D with nx:=Pv (i+1),ct:=Pv (i+1),bk:=D.nx} B F) (hd:∀σ H,Pv n σ H->D.nx σ H):
 ∃W:Nat->Nat->St->Hp->Prop,(∃m,W 0 m σ H)/\∀i m σ H,W i m σ H->
  ((Itr lo n).stop i H/\D.nx σ H)\/((Itr lo n).go i H/\∃N:St->Hp->Prop,(∀q f,N q f->∃m',m'<m/\W (i+1) m' q f)/\∀x f,(Itr lo n).yld i H x f->g x σ f fun B F=>tb {D with nx:=N,ct:=N,bk:=D.nx} B F):=by
 refine⟨λi m σ H=>m=n - i/\i<=n/\Pv i σ H,⟨n,by simp,eI _,I⟩,?_⟩
 rintro i m σ H ⟨rfl,d,p⟩
 by_cases a:i<n
 ·refine .inr ⟨a,Pv (i+1),fun q f b=>⟨n - (i+1),by omega,rfl,a,b⟩,λx f y=>?_⟩;obtain⟨e,y⟩:=y;subst e y;exact G i σ _ a p
 ·have e:i=n:=by omega
  subst e;exact .inl ⟨aS _,hd σ H p⟩
abbrev R2:=V->V->Hp->VK->Prop
variable {r' r2:R2}
def LG (X:Cx) (f:Value->Value->Sem Value) (r:R2):Prop:=
 ∀(pins:List (ag×Obj)) (s:aJ) (σ:St) (H:Hp) (x y:V) (v u:Value) (Q:VK),Inv X pins σ H s->RelV x v->RelV y u->r x y H Q->
  wpAny (model X.prog X.w) X.A (f v u) (EP X pins σ Q) X.xe s
def UnR (X:Cx) (f:Value->Sem Value) (r:V->Hp->VK->Prop):Prop:=
 ∀(pins:List (ag×Obj)) (s:aJ) (σ:St) (H:Hp) (x:V) (v:Value) (Q:VK),Inv X pins σ H s->RelV x v->r x H Q->
  wpAny (model X.prog X.w) X.A (f v) (EP X pins σ Q) X.xe s
def ra (X:Cx) (f:Value) (r:List V->Hp->VK->Prop):Prop:=
 ∀(pins:List (ag×Obj)) (s:aJ) (σ:St) (H:Hp) (xs:List V) (us:List Value) (Q:VK),Inv X pins σ H s->Vals xs us->r xs H Q->
  wpAny (model X.prog X.w) X.A (call f us) (EP X pins σ Q) X.xe s
def aym (X:Cx) (r:V->Hp->(Bool->Hp->Prop)->Prop):Prop:=
 ∀(pins:List (ag×Obj)) (s:aJ) (σ:St) (H:Hp) (x:V) (v:Value) (Q:Bool->Hp->Prop),Inv X pins σ H s->RelV x v->r x H Q->
  wpAny (model X.prog X.w) X.A (truthy v) (TP X pins σ Q) X.xe s
def tOp (r:R2) (f tb:TE):TE:=fun σ H Q=>f σ H λx H1=>tb σ H1 λy H2=>r x y H2 Q
def tUn (r:V->Hp->VK->Prop) (f:TE):TE:=fun σ H Q=>f σ H λx H1=>r x H1 Q
def rI (C:Int->Int->Prop) (g:Int->Int->V):R2:=λx y H Q=>∃i j,x=.int i/\y=.int j/\C i j/\Q (g i j) H
inductive rI0 (g:Int->Int->V) (x y:V) (H:Hp) (Q:VK):Prop|mk i j (a:x=.int i) (b:y=.int j) (h:Q (g i j) H):rI0 g x y H Q
def rU (g:Int->V):V->Hp->VK->Prop:=λx H Q=>∃i,x=.int i/\Q (g i) H
def apD {a:Expr} {b:Expr} {tb:TE} (Z:PE X a ta) (Y:PE X b tb) {R:V->V->Hp->Prop} (I:Inv X pins σ H s)
 (h:ta σ H λx O=>tb σ O λy q=>R x y q) {Q:Value->aJ->Prop} {f:Value->Value->Sem Value}
 (U:∀v u G x y q,Inv X pins σ q G->RelV x v->RelV y u->R x y q->wpAny (model X.prog X.w) X.A (f v u) Q X.xe G):
 wpAny (model X.prog X.w) X.A (eval a X.env) (λv F=>wpAny (model X.prog X.w) X.A (eval b X.env) (λu B=>wpAny (model X.prog X.w) X.A (f v u) Q X.xe B) X.xe F) X.xe s:=by
 refine gn (Z pins s σ H _ I h) λv d ⟨x,O,l,r1,i⟩=>?_
 refine gn (Y pins d σ O _ l i) λu G ⟨y,q,j,e,g⟩=>?_
 exact U v u G x y q j r1 e g
def gi {a:Expr} {tb:TE} {f:Operator} (B:LG X (binaryOp f) r) (G:PE X a ta) (F:PE X b tb):PE X (.BinOp a f b pos) (tOp r ta tb):=by
 intro d s e H Q I h;exact wpAny_BinOp (apD G F I h λv u g x y m l j i q=>B d g e m x y v u Q l j i q)
def aix {a:Expr} {f:UnaryOp} {r:V->Hp->VK->Prop} (q:UnR X (unaryOp f) r) (B:PE X a ta):PE X (.UnaryOp f a pos) (tUn r ta):=by
 intro b s d H Q I h;exact UnaryOp_ (gn (B b s d H _ I h) λv e ⟨x,j,i,r1,g⟩=>q b e d j x v Q i r1 g)
def opI {f:Value->Value->Sem Value} {C:Int->Int->Prop} {g:Int->Int->Int}
 (rule:∀(i j:Int) (t u:Tok) (s:aJ) (Q:Value->aJ->Prop) (E:Value->aJ->Prop),C i j->Q (.int (g i j) s.toks) {s with toks:=s.toks+1}->wpAny (model X.prog X.w) X.A (f (.int i t) (.int j u)) Q E s):
 LG X f (rI C λi j=>.int (g i j)):=by
 intro a s m H x y v u Q I e d h;obtain⟨i,j,rfl,rfl,l,q⟩:=h;obtain⟨t,rfl⟩:=e;obtain⟨b,rfl⟩:=d;exact rule i j t b s _ _ l ⟨.int (g i j),H,I.tok _,⟨_,rfl⟩,q⟩
def arx {f:Value->Value->Sem Value} {g:Int->Int->Int}
 (rule:∀(i j:Int) (t u:Tok) (s:aJ) (Q:Value->aJ->Prop) (E:Value->aJ->Prop),Q (.int (g i j) s.toks) {s with toks:=s.toks+1}->wpAny (model X.prog X.w) X.A (f (.int i t) (.int j u)) Q E s):
 LG X f (rI0 λi j=>.int (g i j)):=by
 intro a s l H x y v u Q I e d h;obtain⟨i,j,rfl,rfl,q⟩:=h;obtain⟨t,rfl⟩:=e;obtain⟨b,rfl⟩:=d;exact rule i j t b s _ _ ⟨.int (g i j),H,I.tok _,⟨_,rfl⟩,q⟩
def alH {f:Value->Value->Sem Value} {g:Int->Int->Bool}
 (rule:∀(i j:Int) (t u:Tok) (s:aJ) (Q:Value->aJ->Prop) (E:Value->aJ->Prop),Q (.bool (g i j)) s->wpAny (model X.prog X.w) X.A (f (.int i t) (.int j u)) Q E s):
 LG X f (rI0 λi j=>.bl (g i j)):=by
 intro a s l H x y v u Q I e d h;obtain⟨i,j,rfl,rfl,q⟩:=h;obtain⟨t,rfl⟩:=e;obtain⟨b,rfl⟩:=d;exact rule i j t b s _ _ ⟨.bl (g i j),H,I,rfl,q⟩
def ake (i j:Int):Prop:=(-(2 ^ 64)<i/\i<2 ^ 64)\/(-(2 ^ 64)<j/\j<2 ^ 64)
def ake.ok {i j:Int} (h:ake i j):IntMulOk i j:=by
 rcases h with⟨b,a⟩|⟨b,a⟩
 ·exact .of_left (aDm b a)
 ·exact .of_right (aDm b a)
def kl:LG X (binaryOp .Add) (rI0 λi j=>.int (i+j)):=arx λ_ _ _ _ _ _ _ q=>add_int q
def lP:LG X (binaryOp .Sub) (rI0 λi j=>.int (i - j)):=arx λ_ _ _ _ _ _ _ q=>sub_int q
def adA:LG X (binaryOp .Mult) (rI ake λi j=>.int (i * j)):=opI λ_ _ _ _ _ _ _ a q=>mul_int q a.ok
def unI {f:Value->Sem Value} {g:Int->Int}
 (rule:∀(i:Int) (t:Tok) (s:aJ) (Q:Value->aJ->Prop) (E:Value->aJ->Prop),Q (.int (g i) s.toks) {s with toks:=s.toks+1}->wpAny (model X.prog X.w) X.A (f (.int i t)) Q E s):
 UnR X f (rU λi=>.int (g i)):=by
 intro a s d H x v Q I b h;obtain⟨i,rfl,q⟩:=h;obtain⟨t,rfl⟩:=b;exact rule i t s _ _ ⟨.int (g i),H,I.tok _,⟨_,rfl⟩,q⟩
def ac4:UnR X (unaryOp .USub) (rU λi=>.int (-i)):=unI λ_ _ _ _ _ q=>neg_int q
def ara:V->V->Bool
 |.m6,.m6=>true|.m6,.int _=>true|.int _,.m6=>true|.m6,.bl _=>true|.bl _,.m6=>true|.m6,.str _=>true|.str _,.m6=>true
 |.int _,.int _=>true|.bl _,.bl _=>true|.str _,.str _=>true|.Zv _,.Zv _=>true
 |.int _,.str _=>true|.str _,.int _=>true|.bl _,.str _=>true|.str _,.bl _=>true
 |_,_=>false
def rEq:R2:=λx y H Q=>ara x y=true/\Q (.bl (decide (x=y))) H
def rNe:R2:=λx y H Q=>ara x y=true/\Q (.bl (!decide (x=y))) H
def afH {i j:Int}:decide (V.int i=V.int j)=(i==j):=by
 rw[cO];simp
def ajL {i j:Bool}:decide (V.bl i=V.bl j)=(i==j):=by
 rw[cO];simp
def afG {i j:Str}:decide (V.str i=V.str j)=(i==j):=by
 rw[cO];simp
def afI {i:Array UInt8}:decide (V.Zv i=V.Zv j)=(i.toList==j.toList):=by
 rw[cO];cases i;cases j;simp
def gG {k f:Bool} (I:Inv X pins σ H s) (q:Q (.bl k) H) (e:k=f):EP X pins σ Q (.bool f) s:=by
 subst e;exact⟨.bl k,H,I,rfl,q⟩
def arw:LG X (compareOp .Eq) rEq:=by
 intro g s l H x y v u Q I e a h;obtain⟨d,q⟩:=h;cases x with
 |m6=>
  cases e;cases y with
  |m6=>cases a;exact au7 (gG I q (by simp))
  |bl j=>cases a;exact au9 (gG I q (by simp))
  |int j=>obtain⟨b,rfl⟩:=a;exact au8 (gG I q (by simp))
  |str j=>obtain⟨b,rfl⟩:=a;exact au6 (gG I q (by simp))
  |_=>exact absurd (show false=true from d) bj
 |bl i=>
  cases e;cases y with
  |m6=>cases a;exact avb (gG I q (by simp))
  |bl j=>cases a;exact eq_bool (gG I q ajL)
  |str j=>obtain⟨b,rfl⟩:=a;exact atJ (gG I q (by simp))
  |_=>exact absurd (show false=true from d) bj
 |int i=>
  obtain⟨t,rfl⟩:=e;cases y with
  |m6=>cases a;exact ava (gG I q (by simp))
  |int j=>obtain⟨b,rfl⟩:=a;exact eq_int (gG I q afH)
  |str j=>obtain⟨b,rfl⟩:=a;exact atH (gG I q (by simp))
  |_=>exact absurd (show false=true from d) bj
 |str i=>
  obtain⟨t,rfl⟩:=e;cases y with
  |m6=>cases a;exact au5 (gG I q (by simp))
  |bl j=>cases a;exact atG (gG I q (by simp))
  |int j=>obtain⟨b,rfl⟩:=a;exact atF (gG I q (by simp))
  |str j=>obtain⟨b,rfl⟩:=a;exact eq_str (gG I q afG)
  |_=>exact absurd (show false=true from d) bj
 |Zv i=>
  obtain⟨t,rfl⟩:=e;cases y with
  |Zv j=>obtain⟨b,rfl⟩:=a;exact PySem.W.eq_bytes (gG I q afI)
  |_=>exact absurd (show false=true from d) bj
 |_=>cases y<;>exact absurd (show false=true from d) bj
def aru:LG X (compareOp .NotEq) rNe:=by
 intro g s l H x y v u Q I e a h;obtain⟨d,q⟩:=h;cases x with
 |m6=>
  cases e;cases y with
  |m6=>cases a;exact au0 (gG I q (by simp))
  |bl j=>cases a;exact au2 (gG I q (by simp))
  |int j=>obtain⟨b,rfl⟩:=a;exact au1 (gG I q (by simp))
  |str j=>obtain⟨b,rfl⟩:=a;exact auZ (gG I q (by simp))
  |_=>exact absurd (show false=true from d) bj
 |bl i=>
  cases e;cases y with
  |m6=>cases a;exact au4 (gG I q (by simp))
  |bl j=>cases a;exact ne_bool (gG I q (cK not ajL))
  |str j=>obtain⟨b,rfl⟩:=a;exact atE (gG I q (by simp))
  |_=>exact absurd (show false=true from d) bj
 |int i=>
  obtain⟨t,rfl⟩:=e;cases y with
  |m6=>cases a;exact au3 (gG I q (by simp))
  |int j=>obtain⟨b,rfl⟩:=a;exact ne_int (gG I q (cK not afH))
  |str j=>obtain⟨b,rfl⟩:=a;exact atD (gG I q (by simp))
  |_=>exact absurd (show false=true from d) bj
 |str i=>
  obtain⟨t,rfl⟩:=e;cases y with
  |m6=>cases a;exact auY (gG I q (by simp))
  |bl j=>cases a;exact atB (gG I q (by simp))
  |int j=>obtain⟨b,rfl⟩:=a;exact atA (gG I q (by simp))
  |str j=>obtain⟨b,rfl⟩:=a;exact ne_str (gG I q (cK not afG))
  |_=>exact absurd (show false=true from d) bj
 |Zv i=>
  obtain⟨t,rfl⟩:=e;cases y with
  |Zv j=>obtain⟨b,rfl⟩:=a;exact PySem.W.ne_bytes (gG I q (cK not afI))
  |_=>exact absurd (show false=true from d) bj
 |_=>cases y<;>exact absurd (show false=true from d) bj
def S7:LG X (compareOp .Lt) (rI0 λi j=>.bl (decide (i<j))):=alH λ_ _ _ _ _ _ _ q=>lt_int q
def kF:LG X (compareOp .LtE) (rI0 λi j=>.bl (decide (i<=j))):=alH λ_ _ _ _ _ _ _ q=>le_int q
def Js:LG X (compareOp .Gt) (rI0 λi j=>.bl (decide (j<i))):=alH λ_ _ _ _ _ _ _ q=>gt_int q
def arv:LG X (compareOp .GtE) (rI0 λi j=>.bl (decide (j<=i))):=alH λ_ _ _ _ _ _ _ q=>ge_int q
def aiJ (b:Expr) (h:op≠ .In:=by decide) (f:op≠ .NotIn:=by decide):behindInMarks op b=false:=by
 have d:(op==aAe)=false:=by cases op<;>first|rfl|exact absurd rfl h
 have a:(op==atQ)=false:=by cases op<;>first|rfl|exact absurd rfl f
 cases b<;>simp[behindInMarks,d,a]
def qf {a:Expr} {tb:TE} (f:LG X (compareOp op) r) (G:PE X a ta) (F:PE X b tb) (B:behindInMarks op b=false:=by exact aiJ _):PE X (.Compare a [op] [b] pos) (tOp r ta tb):=by
 intro d s e H Q I h;exact az4 (apD G F I h λv u g x y m l j i q=>f d g e m x y v u Q l j i q) B
def ah9 (t:TE):TT:=fun σ H Q=>t σ H λx H'=>∃k,x=.bl k/\Q k H'
def cS {a:Expr} {b:Expr} {tb:TE} {r:R2} (f:LG X (compareOp op) r) (F:PE X a ta) (B:PE X b tb) (q:behindInMarks op b=false:=by exact aiJ _):PT X (.Compare a [op] [b] pos) (ah9 (tOp r ta tb)):=by
 intro d s g H Q I h
 refine amM (gn (F d s g H _ I h) λv j ⟨x,M,E,r1,p⟩=>gn (B d j g M _ E p) λu i ⟨y,L,D,m,o⟩=>
  gn (f d i g L x y v u _ D r1 m o) λc P ⟨z,J,C,l,k,e,n⟩=>?_) q
 subst e;cases l;exact dR ⟨J,C,n⟩
def aid (r B:R2) (q tb f:TE):TE:=fun σ H Q=>q σ H λx H1=>tb σ H1 λy H2=>r x y H2 λz a=>∃k,z=.bl k/\
 (if k=true then f σ a λb H4=>B y b H4 Q else Q (.bl false) a)
def Fq {a:Expr} {b:Expr} {tb:TE} {r:R2} (f:LG X (compareOp op) r) (O:LG X (compareOp î) r') (G:PE X a ta) (F:PE X b tb) (B:PE X c tc)
 (q:lastMarks [op,î] [b,c]=false:=by with_unfolding_all rfl):PE X (.Compare a [op,î] [b,c] pos) (aid r r' ta tb tc):=by
 intro g s i H Q I h
 refine aDw (gn (G g s i H _ I h) λv J ⟨x,H1,Z,r1,T⟩=>atp (gn (F g J i H1 _ Z T) λu E ⟨y,H2,Y,j,S⟩=>
  gn (f g E i H2 x y v u _ Y r1 j S) λd D ⟨z,n,m,M,k,e,l⟩=>?_)) q
 subst e;cases M;refine dR ?_;cases k with
 |false=>exact aqD ⟨.bl false,n,m,rfl,l⟩
 |true=>exact aqC (chain_last (gn (B g D i n _ m l) λp C ⟨o,H4,U,L,P⟩=>O g C i H4 y o u p Q U j L P))
def Mt {a:Expr} {b:Expr} {tb:TE} {r:R2} (F:LG X (compareOp op) r) (LD:LG X (compareOp î) r') (Y:PE X a ta) (U:PE X b tb) (O:PE X c tc)
 (G:lastMarks [op,î] [b,c]=false:=by with_unfolding_all rfl):PT X (.Compare a [op,î] [b,c] pos) (ah9 (aid r r' ta tb tc)):=by
 intro g s i H Q I h
 refine aEw (gn (Y g s i H _ I h) λv J ⟨x,H1,I1,r1,q⟩=>ayu (gn (U g J i H1 _ I1 q) λu E ⟨y,H2,I2,j,f⟩=>
  gn (F g E i H2 x y v u _ I2 r1 j f) λd D ⟨z,n,m,P,k,e,l⟩=>?_)) G
 subst e;cases P;refine dR ?_;cases k with
 |false=>
  obtain⟨k',e',B⟩:=l;cases e';exact aqD ⟨n,m,B⟩
 |true=>
  refine aqC (test_last (gn (O g D i n _ m l) λp C ⟨o,H4,I4,M,T⟩=>gn (LD g C i H4 y o u p _ I4 j M T) λd' s5 ⟨z2,H5,I5,L,k2,Z,S⟩=>?_));subst Z;cases L;exact dR ⟨H5,I5,S⟩
def aci (K:ah) (x:V) (H:Hp) (k:Bool):Prop:=
 match x with
 |.m6=>k=false
 |.bl b=>k=b
 |.int i=>k=(i != 0)
 |.str y=>y.length<=sizeLine/\k=((y.length:Int) != 0)
 |.Zv y=>y.size<=sizeLine/\k=((y.size:Int) != 0)
 |.ref p=>(∃xs,dv K H p xs/\k= !xs.isEmpty)\/(∃xs,gL K H p xs/\k= !xs.isEmpty)\/∃kvs,H p=some (.dK kvs)/\k= !kvs.isEmpty
 |_=>False
def adT {κ:Type} {kvs:List (κ×V)} {vs:List (κ×Value)} (r:KV kvs vs):(!vs.isEmpty)= !kvs.isEmpty:=by
 cases r<;>rfl
def TN (r:Vals xs dM):(!dM.toArray.isEmpty)= !xs.isEmpty:=by
 cases r<;>simp
def OO:(sizeLine:Nat)<2 ^ 63:=by rw[Lv];decide
def anY:aym X (λx H Q=>∃k,aci X.K x H k/\Q k H):=by
 intro o s E H x v Q I g h;obtain⟨k,e,q⟩:=h;have L:=OO;have J:sizeLine=16777216:=Lv;cases x with
 |m6=>
  cases g;have a:k=false:=e;subst a;exact truthy_none ⟨H,I,q⟩
 |bl b=>
  cases g;have a:k=b:=e;subst a;exact dR ⟨H,I,q⟩
 |int i=>
  obtain⟨t,rfl⟩:=g;have a:k=(i != 0):=e;subst a;exact PySem.P.truthy_int ⟨H,I,q⟩
 |str y=>
  obtain⟨t,rfl⟩:=g;obtain⟨z,a⟩:y.length<=sizeLine/\k=((y.length:Int) != 0):=e;subst a;exact PySem.P.truthy_str (by omega) ⟨H,I.tok _,q⟩
 |Zv y=>
  obtain⟨t,rfl⟩:=g;obtain⟨z,a⟩:y.size<=sizeLine/\k=((y.size:Int) != 0):=e;subst a;exact PySem.W.truthy_bytes (by omega) ⟨H,I.tok _,q⟩
 |ref p=>
  cases g;have a:(∃d,dv X.K H p d/\k= !d.isEmpty)\/(∃d,gL X.K H p d/\k= !d.isEmpty)\/∃kvs,H p=some (.dK kvs)/\k= !kvs.isEmpty:=e;rcases a with⟨d,j,a⟩|⟨d,j,a⟩|⟨kvs,j,a⟩
  ·subst a;obtain⟨D,r,l,u⟩:=I.list j;have n:=r.length;exact wpAny_truthy_list l.isList (by simp only[bz];omega) ⟨H,I.tok _,by rw[TN r];exact q⟩
  ·subst a;obtain⟨D,r,l,u⟩:=I.tuple j;have n:=r.length;exact truthy_tuple l (by simp only[bz];omega) ⟨H,I.tok _,by rw[TN r];exact q⟩
  ·subst a;obtain⟨u,C,vs,r,m⟩:kvs.length<=sizeLine/\(p==sysModules)=false/\∃vs,KV kvs vs/\s.heap.DictOf (fG X.prog X.w) p vs:=I.eR p _ j;have n:kvs.length=vs.length:=fX r;exact wpAny_truthy_dict C m (by omega) ⟨H,I.tok _,by rw[adT r];exact q⟩
 |_=>exact(show False from e).elim
def SQ {a:Expr} (F:PE X a ta) (B:∀whole,isTrue a X.env whole=(do let v <-whole;standAt a.pos;holding [v] (truthy v))):
 PT X a (fun f H Q=>ta f H λx q=>∃k,aci X.K x q k/\Q k q):=by
 intro b s f H Q I h;exact aEv (gn (F b s f H _ I h) λv d ⟨x,i,g,r1,e⟩=>anY b d f i x v Q g r1 e) (B _)
def vals1 {x:V} (r:Vals [x] us):∃u,us=[u]/\RelV x u:=by
 cases r with
 |cons r1 a=>cases a;exact⟨_,rfl,r1⟩
def vals2 {x:V} (r:Vals [x,y] us):∃u w',us=[u,w']/\RelV x u/\RelV y w':=by
 cases r with
 |cons r1 d=>
  cases d with
  |cons b a=>cases a;exact⟨_,_,rfl,r1,b⟩
def Xw (f:X.calm=true):ra X (.builtin "max") (λxs H Q=>∃i j,xs=[.int i,.int j]/\Q (.int (if j>i then j else i)) H):=by
 intro b s d H xs g Q I r h;obtain⟨i,j,rfl,q⟩:=h;obtain⟨u,e,rfl,⟨t,rfl⟩,⟨l,rfl⟩⟩:=vals2 r;refine max_two_ints (I.ok.hd f) λm tk k=>⟨_,H,I.kept k,?_,q⟩
 by_cases a:j>i
 ·rw[az a,az a];exact⟨_,rfl⟩
 ·rw[au a,au a];exact⟨_,rfl⟩
def ahj (f:X.calm=true):ra X (.builtin "min") (λxs H Q=>∃i j,xs=[.int i,.int j]/\Q (.int (if j<i then j else i)) H):=by
 intro b s d H xs g Q I r h;obtain⟨i,j,rfl,q⟩:=h;obtain⟨u,e,rfl,⟨t,rfl⟩,⟨l,rfl⟩⟩:=vals2 r;refine min_two_ints (I.ok.hd f) λm tk k=>⟨_,H,I.kept k,?_,q⟩
 by_cases a:j<i
 ·rw[az a,az a];exact⟨_,rfl⟩
 ·rw[au a,au a];exact⟨_,rfl⟩
def ajV:ra X (.builtin "ord") (λxs H Q=>∃x,xs=[.str x]/\x.length=1/\Q (.int (x.cps.getD 0 0:Nat)) H):=by
 intro a s d H xs e Q I r h;obtain⟨x,rfl,b,q⟩:=h;obtain⟨u,rfl,t,rfl⟩:=vals1 r;exact ord_of_one b ⟨.int _,H,I.tok _,⟨_,rfl⟩,q⟩
structure aew (h:Heap) (x dx C:ag) (mA:Str->Option Value):Prop where
 obj:h.get? x=some (ku C dx)
 ns:h.Ns1 dx mA
 ne:dx≠x
def agG (n:h.Ns1 dx mA):∃f,h.get? dx=some f/\∀name,Ke name f=some (mA name):=by
 obtain⟨o,b,p,i,hd,l,_,j⟩:=n;refine⟨o,i,λname=>?_⟩;have e:=j name;unfold nsFind findBy at e;rw[<-Array.find?_toList]at e;unfold Ke;rw[hd];dsimp only;split
 ·rename_i y q
  rw[q]at e;exact cK some e
 ·rename_i q
  rw[q]at e
  have a:b.toList.any (·.refKey)=false:=by
   rw[akU];intro y g;obtain⟨z,t,d⟩:=l y (Array.mem_toList_iff.mp g);simp[aDv,d]
  have m:¬b.toList.any (·.refKey)=true:=by rw[a];exact bj
  rw[au m];exact cK some e
def aew.look {x:ag} (I:aew h x dx C mA):∃f,PySem.W.InstAt h x (ku C dx) C (some f)/\∀name,Ke name f=some (mA name):=
 let⟨f,a,b⟩:=agG I.ns
 ⟨f,⟨I.obj,rfl,rfl,a⟩,b⟩
def get_map {E:Value->aJ->Prop} {x:ag} {name:Str} {f:Bool} {Q:Value->aJ->Prop} (X:K.In s.heap) (I:aew s.heap x dx C mA) (G:uV K C name=true) (F:Ba K C=true)
 (O:gm K (.ref C) name=some none) (B:mA name=some v) (q:ahZ v=true) (h:Q v {s with toks:=s.toks+1}):
 wpAny (model prog w) A (getAttr (.ref x) name f) Q E s:=by
 obtain⟨b,J,a⟩:=I.look;exact PySem.W.get_value X J (LA G).1 (PySem.W.findObj_own F O rfl (by rw[a,B])) q h
def ajs {E:Value->aJ->Prop} {x:ag} {f:ag} {name:Str} {Q:Value×List Value->aJ->Prop} (X:K.In s.heap) (I:aew s.heap x dx C mA) (q:uV K C name=true)
 (G:gm K (.ref C) name=some (some (.ref f))) (F:Hk K (.ref f)=true) (B:mA name=none) (h:Q (.ref f,[.ref x]) s):
 wpAny (model prog w) A (getMethod (.ref x) name pl) Q E s:=by
 obtain⟨a,J,b⟩:=I.look;exact PySem.W.method_fn X J (LA q).1 (LA q).2 G (fO.mp F) (by show(Ke name a).map (·.isSome)=some false;rw[b,B];rfl) h
def alr {E:Value->aJ->Prop} {x:ag} {name:Str} {ns:List Str} {Q:Unit->aJ->Prop} (X:K.In s.heap) (I:aew s.heap x dx C mA)
 (B:gm K (.ref C) "__setattr__"=some (some (.builtin "object.__setattr__"))) (F:Ph K C=true) (q:U7 K C name=some none) (G:Ba K C=true)
 (f:aeK mA ns) (hsz:ns.length<=sizeLine)
 (h:∀h',aew h' x dx C (λy=>if y=name then some v else mA y)->hZ dx s.heap h'->Q () {s with heap:=h',toks:=s.toks+2}):
 wpAny (model prog w) A (setAttr (.ref x) name v) Q E s:=by
 obtain⟨u,J,D⟩:=I.look;refine PySem.W.set_plain X J B (PySem.W.osa_open (s:={s with toks:=s.toks+1}) (r:=none) X J F q λb=>?_)
 obtain⟨H,n,l⟩:=PySem.W.any_some G;have m:s.heap.get? x=some ⟨.ref C,some dx,.plain,#[]⟩:=I.obj
 refine af (aN (af (af (wpAny_loadPart m (af (aty (s:={s with toks:=s.toks+1}) (PySem.W.looks_clsIn X n) ?_))))))
 rw[l];refine aN (a:=some dx) (af (aN (af ?_)));refine wpAny_nsSet1 (s:={s with toks:=s.toks+1}) I.ns λh' i j=>?_
 obtain⟨z,o,p,d,e,g⟩:=i.count (auX name v f);refine af (wpAny_lookBehind d (by rw[e];exact pastItsLine_dict (b9 g (by rw[ak];omega))) ?_);exact aN (h _ ⟨(j.2 _ (DD I.ne)).trans I.obj,i,I.ne⟩ j)
def aiV {f:ag} {R:Result->aJ->Prop} (X:K.In s.heap) (B:U8 K C=true)
 (hi:gm K (.ref C) "__init__"=some (some (.ref f))) (F:PySem.W.typeIn K (.ref f)=some (.type "function"))
 (h:codeAny (model prog w) (A.under (.builtin "type.__call__" ⟨.ref C::vs,q⟩)) (.call (.ref f) ⟨.ref (s.heap.objs.size+1)::vs,q⟩) (PySem.W.InitBack (s.heap.objs.size+1) R)
  {s with heap:=(s.heap.push iq).push (ku C s.heap.objs.size)}):
 codeAny (model prog w) A (.call (.ref C) ⟨vs,q⟩) R s:=by
 obtain⟨a,g,d,t,os⟩:=s;exact PySem.W.make_core (PySem.W.makes_of X B) (PySem.W.looks_findIn X hi) (λself=>PySem.W.bind_fn X self F) (.inl rfl) h
def yc (f:Str) (v:V):List (Str×V)->List (Str×V)
 |[]=>[(f,v)]
 |(g,x)::r=>if g=f then(g,v)::r else(g,x)::yc f v r
theorem PU (f g:Str) (v:V):∀fs:List (Str×V),(yc f v fs).lookup g=if g=f then some v else fs.lookup g
 |[]=>by
  show uH g [(f,v)]=_;by_cases h:g=f
  ·have q:(g==f)=true:=fO.mpr h;simp only[uH,q,az h]
  ·have q:(g==f)=false:=nA.mpr h;simp only[uH,q,au h]
 |(k,x)::r=>by
  have b:=PU f g v r;rw[show yc f v ((k,x)::r)=(if k=f then(k,v)::r else(k,x)::yc f v r)from rfl];by_cases a:k=f
  ·rw[az a];by_cases h:g=k
   ·have q:(g==k)=true:=fO.mpr h;simp only[uH,q,az (h.trans a)]
   ·have q:(g==k)=false:=nA.mpr h;simp only[uH,q,au (λe:g=f=>h (e.trans a.symm))]
  ·rw[au a];by_cases h:g=k
   ·have q:(g==k)=true:=fO.mpr h;simp only[uH,q,au (λe:g=f=>a (h.symm.trans e))]
   ·have q:(g==k)=false:=nA.mpr h;simp only[uH,q];exact b
theorem OR (f:Str) (v:V):∀fs:List (Str×V),f∈(yc f v fs).map (·.1)/\∀g,g∈fs.map (·.1)->g∈(yc f v fs).map (·.1)
 |[]=>⟨by simp[yc],λg h=>by simp at h⟩
 |(k,x)::r=>by
  obtain⟨B,q⟩:=OR f v r;rw[show yc f v ((k,x)::r)=(if k=f then(k,v)::r else(k,x)::yc f v r)from rfl];by_cases a:k=f
  ·rw[az a];subst a;exact⟨by simp,λg h=>by simpa using h⟩
  ·rw[au a];refine⟨?_,λg h=>?_⟩
   ·rw[bW];exact aL _ B
   ·rw[bW]at h⊢;rcases aY.mp h with e|e
    ·exact aY.mpr (.inl e)
    ·exact aL _ (q g e)
theorem PX (f:Str) (v:V):∀fs:List (Str×V),(yc f v fs).length<=fs.length+1
 |[]=>by simp[yc]
 |(k,x)::r=>by
  have q:=PX f v r;rw[show yc f v ((k,x)::r)=(if k=f then(k,v)::r else(k,x)::yc f v r)from rfl];by_cases a:k=f
  ·rw[az a,ak,ak];omega
  ·rw[au a,ak,ak];omega
def Co.some_of (r:Co (some v) o):∃u,o=some u/\RelV v u:=by
 cases o with
 |none=>exact(show False from r).elim
 |some u=>exact⟨u,rfl,r⟩
def Co.none_of (r:Co none o):o=none:=by
 cases o with
 |none=>rfl
 |some u=>exact(show False from r).elim
def agZ (r:RelV v u):ahZ u=true:=by
 cases v with
 |m6=>cases(show u=fZ from r);rfl
 |bl b=>cases(show u=pW b from r);rfl
 |int i=>obtain⟨t,e⟩:=(show ∃t,u=oX i t from r);cases e;rfl
 |str x=>obtain⟨t,e⟩:=(show ∃t,u=Wh x t from r);cases e;rfl
 |Zv b=>obtain⟨t,e⟩:=(show ∃t,u=atu b t from r);cases e;rfl
 |flt b=>obtain⟨t,e⟩:=(show ∃t,u=att b t from r);cases e;rfl
 |ref a=>cases(show u=bw a from r);rfl
 |ty n=>cases(show u=CG n from r);rfl
def Zc {fs:List (Str×V)} (eR:EH P w H h) (e:H a=some (.ins C dx fs)):∃B,aew h a dx C B/\(∀f,Co (fs.lookup f) (B f))/\aeK B (fs.map (·.1))/\fs.length<=1000/\H dx=some (.own a):=by
 obtain⟨d,z,ne,ob,B,n,r,q⟩:=(show js P w H h a (.ins C dx fs)from eR a _ e);exact⟨B,⟨ob,n,ne⟩,r,q,z,d⟩
structure Vd (K:ah) (C:ag):Prop where
 pg:uV K C aDr=true
 hd:Ba K C=true
 po:Ph K C=true
 sa:gm K (.ref C) "__setattr__"=some (some (.builtin "object.__setattr__"))
def Vd.get (c:Vd K C) (f:Str):uV K C f=true:=c.pg
def fK (K:ah) (C:ag) (f:Str):Prop:=gm K (.ref C) f=some none
def fK.aqQ {f:Str} (n:fK K C f):U7 K C f=some none:=by
 unfold U7;rw[show gm K (.ref C) f=some none from n];rfl
structure Meth (K:ah) (C:ag) (m:Str) (f:ag):Prop where
 at_:gm K (.ref C) m=some (some (.ref f))
 fn:Hk K (.ref f)=true
 kp:jf K (.ref f)=true
def T1 {fs:List (Str×V)} {f:Str} {E:Value->aJ->Prop} {b:Bool} {Q:Value->aJ->Prop} (I:Inv X pins σ H s) (e:H a=some (.ins C dx fs)) (c:Vd X.K C) (n:fK X.K C f) (l:fs.lookup f=some v)
 (h:∀u q,Inv X pins σ H q->RelV v u->Q u q):wpAny (model X.prog X.w) A (getAttr (.ref a) f b) Q E s:=by
 obtain⟨g,O,r,_,_,_⟩:=Zc I.eR e;obtain⟨u,i,d⟩:=Co.some_of (v:=v) (o:=g f) (by rw[<-l];exact r f);exact get_map I.W2 O (c.get f) c.hd n i (agZ d) (h u _ (I.tok _) d)
def K0 {fs:List (Str×V)} {E:Value->aJ->Prop} {g:ag} {Q:Value×List Value->aJ->Prop} (I:Inv X pins σ H s) (e:H a=some (.ins C dx fs)) (c:Vd X.K C) (k:Meth X.K C m g) (l:fs.lookup m=none)
 (h:Q (.ref g,[.ref a]) s):wpAny (model X.prog X.w) A (getMethod (.ref a) m pl) Q E s:=by
 obtain⟨b,O,r,_,_,_⟩:=Zc I.eR e;have d:b m=none:=Co.none_of (by rw[<-l];exact r m);exact ajs I.W2 O (c.get m) k.at_ k.fn d h
def Sv {fs:List (Str×V)} {f:Str} {E:Value->aJ->Prop} {Q:Unit->aJ->Prop} (I:Inv X pins σ H s) (e:H a=some (.ins C dx fs)) (c:Vd X.K C) (n:fK X.K C f) (G:fs.length<1000) (F:RelV y u)
 (h:∀B,Inv X pins σ (bB H a (.ins C dx (yc f y fs))) B->Q () B):wpAny (model X.prog X.w) A (setAttr (.ref a) f u) Q E s:=by
 obtain⟨j,O,r,i,_,l⟩:=Zc I.eR e;have p:(fs.map (·.1)).length<=sizeLine:=by rw[ae,Lv];omega
 refine alr I.W2 O c.sa c.po n.aqQ c.hd i p λL d m=>h _ ?_
 have hd:∃o,L.get? dx=some o:=let⟨o,_,_,M,_⟩:=d.ns;⟨o,M⟩
 refine I.write (x:=a) (e:=dx) (by rw[e];exact uF) (.inr l) (λb q J z=>(m.2 b J).trans z) hd ?_;refine⟨by rw[aw O.ne];exact l,?_,O.ne,d.obj,_,d.ns,λg=>?_,λg D=>?_⟩
 ·have:=PX f y fs;omega
 ·show Co ((yc f y fs).lookup g) (if g=f then some u else j g);rw[PU];by_cases q:g=f
  ·rw[az q,az q];exact F
  ·rw[au q,au q];exact r g
 ·by_cases q:g=f
  ·rw[q];exact(OR f y fs).1
  ·refine(OR f y fs).2 g (i g λz=>D ?_);show(if g=f then some u else j g)=none;rw[au q];exact z
def Inv.made (I:Inv X pins σ H s):Inv X pins σ (bB (bB H s.heap.objs.size (.own (s.heap.objs.size+1))) (s.heap.objs.size+1) (.ins C s.heap.objs.size []))
 {s with heap:=(s.heap.push iq).push (ku C s.heap.objs.size)}:=by
 have d:(s.heap.push iq).get? s.heap.objs.size=some iq:=bf s.heap rfl
 have j:((s.heap.push iq).push (ku C s.heap.objs.size)).get? (s.heap.objs.size+1)=some (ku C s.heap.objs.size):=by
  have:=bf (s.heap.push iq) (o:=ku C s.heap.objs.size) rfl
  rwa [dJ]at this
 have i:(s.heap.push iq).Ns s.heap.objs.size (λ_=>none):=⟨iq,#[],_,d,rfl,(λe h=>absurd h (by simp)),λ_=>rfl⟩
 have l:=I.laid (a:=s.heap.objs.size) (o:=.own (s.heap.objs.size+1)) (h':=s.heap.push iq) (t':=s.toks) (λb u q=>aB _ q) (aS _) ⟨_,d⟩;refine l.laid (a:=s.heap.objs.size+1) (o:=.ins C s.heap.objs.size []) (t':=s.toks) (λb u q=>aB _ q) (Be (dJ _ _)) ?_;have ne:s.heap.objs.size≠s.heap.objs.size+1:=dX (xR _);refine⟨by rw[aw ne,ao],eI _,ne,j,λ_=>none,(aEA i).at λo q=>aB _ q,λ_=>uF,λy g=>absurd rfl g⟩
def amG {E:Value->aJ->Prop} {f:Str} {Q:Value->aJ->Prop} (B:attributeBase e f env (eval e env)=eval e env)
 (h:wpAny (model prog w) A (eval e env) (λo q=>wpAny (model prog w) A (getAttr o f true) Q E q) E s):wpAny (model prog w) A (eval (.Attribute e f pos) env) Q E s:=
 Attribute_any_ h (by rw[arm_eval_Attribute,B])
def ath (X:Cx) (f:Operator) (rd:V->V->Hp->VK->Prop):Prop:=
 ∀(pins:List (ag×Obj)) (s:aJ) (σ:St) (H:Hp) (x y:V) (u v:Value) (Q:VK),Inv X pins σ H s->RelV x u->RelV y v->rd x y H Q->wpAny (model X.prog X.w) X.A (inplaceOp f u v) (EP X pins σ Q) X.xe s
def av1:V->V->Hp->VK->Prop:=λx y H Q=>∃i j,x=.int i/\y=.int j/\Q (.int (i+j)) H
def ai3:ath X .Add av1:=by
 rintro b s g H x y u v Q I e d ⟨i,j,rfl,rfl,q⟩
 obtain⟨t,rfl⟩:=(show ∃t,u=oX i t from e);obtain⟨a,rfl⟩:=(show ∃a,v=oX j a from d);exact avc ⟨.int (i+j),H,I.tok _,⟨_,rfl⟩,q⟩
structure oS (k:Nat) (A:Around):Prop where
 hd:A.handled=none
 dp:A.depth+3 * k+5<recursionLimit
 un:A.units+16 * k+200<cLine
def oS.mono {j k:Nat} (r:oS k A) (h:j<=k):oS j A:=⟨r.hd,by have:=r.dp;omega,by have:=r.un;omega⟩
def oS.deeper {k:Nat} (r:oS (k+1) A) (env:Env):oS k (A.deeper env):=
 ⟨r.hd,by have:=r.dp;show A.depth+1+3 * k+5<_;omega,by have:=r.un;show A.units+3+16 * k+200<_;omega⟩
def adS:(A.under (.builtin "type.__call__" ⟨.ref C::us,kw⟩)).depth=A.depth+1:=by
 first|rfl|simp[ac2,Code.weight,Code.isCreation,Code.isGuard,Code.isCaller,avh,afY,guardIds]
def adR:(A.under (.builtin "type.__call__" ⟨.ref C::us,kw⟩)).units=A.units+1:=by
 first|rfl|simp[ac2,Code.cUnits,avh,afY]
def oS.make {k:Nat} (r:oS (k+1) A) (C:ag) (us:List Value) (f:List (Str×Value)):oS k (A.under (.builtin "type.__call__" ⟨.ref C::us,f⟩)):=
 ⟨r.hd,by have:=r.dp;rw[adS];omega,by have:=r.un;rw[adR];omega⟩
def oS.depth {k:Nat} (r:oS k A):A.depth<recursionLimit:=by have:=r.dp;omega
def oS.units {k:Nat} (r:oS k A):A.units+64<cLine:=by have:=r.un;omega
def ak4:TA:=λ_ H Q=>Q [] H
def aq0 (q:TE) (f:TA):TA:=fun σ H Q=>q σ H λx H1=>f σ H1 λxs H2=>Q (x::xs) H2
def ai:PA X [] ak4:=λ_ _ _ _ H Q I h=>kD ⟨[],H,I,.nil,h⟩
def aa (B:PE X e te) (q:PA X es t) (f:starEach (e::es) X.env=(false,eval e X.env)::starEach es X.env:=by rfl):PA X (e::es) (aq0 te t):=by
 intro pos a s b H Q I h;rw[f];show wpAny _ _ (spliced ((false,eval e X.env)::backTo pos (starEach es X.env))) _ _ s;refine iX (gn (B a s b H _ I h) λu g ⟨x,p,n,r1,l⟩=>?_);exact gn (q pos a g b p _ n l) λy z ⟨d,o,m,i,j⟩=>⟨x::d,o,m,.cons r1 i,j⟩
def avx (t:TA):TE:=fun σ H Q=>t σ H λxs H1=>xs.length<=sizeLine/\∀p,H1 p=none->Q (.ref p) (bB H1 p (.tup xs))
def avC (t:TA):TE:=fun σ H Q=>t σ H λxs H1=>xs.length<=sizeLine/\∀p,H1 p=none->Q (.ref p) (bB H1 p (.lst xs))
def YB {f} (h:PA X es t):PE X (.Tuple es f pos) (avx t):=by
 intro a s j H Q I n;refine wpAny_Tuple_spliced (gn (h pos a s j H _ I n) λm d ⟨l,i,g,r,z,q⟩=>⟨by rw[<-r.length];exact z,?_⟩);have o:i d.heap.objs.size=none:=g.eR.fresh (aS _);refine⟨.ref d.heap.objs.size,bB i d.heap.objs.size (.tup l),g.laid (t':=d.toks) (λb u e=>aB _ e) (aS _) ?_,rfl,q _ o⟩;exact⟨z,m,r,⟨_,bf _ rfl,rfl,_,rfl⟩⟩
def di (h:PA X es t):PE X (.List es pos) (avC t):=by
 intro a s j H Q I n;refine wpAny_List_spliced (gn (h pos a s j H _ I n) λm d ⟨l,i,g,r,z,q⟩=>⟨by rw[<-r.length];exact z,?_⟩);have o:i d.heap.objs.size=none:=g.eR.fresh (aS _);refine⟨.ref d.heap.objs.size,bB i d.heap.objs.size (.lst l),g.laid (t':=d.toks) (λb u e=>aB _ e) (aS _) ?_,rfl,q _ o⟩;exact⟨z,m,0,r,bf _ rfl⟩
abbrev Sp:=List V->Hp->VK->XK->Prop
variable {sp:Sp}
abbrev CXT:=List Env->Hp->aJ->XK->Value->aJ->Prop
structure aeF (P:kE) (w:World) (K:ah) (mg:Str->Option Value) (base:Heap) (A:Around) (outer:List Env) (s:aJ) (H:Hp):Prop where
 frames:A.frames=some outer
 mod:Mod K mg base
 bs:∀b o,base.get? b=some o->s.heap.get? b=some o/\H b=none
 bsz:base.objs.size<=s.heap.objs.size
 MX:s.heap.FunFrames base outer
 frf:∀b∈EG outer,H b=none
 eR:EH P w H s.heap
 bare:AllBare s.gens
variable {CX:CXT}
def CE (outer:List Env) (P:kE) (w:World) (H:Hp) (s:aJ) (Q:VK) (u:Value) (f:aJ):Prop:=
 ∃v H',f.os=s.os/\AllBare f.gens/\Un (EG outer) [] H H' s.heap f.heap/\EH P w H' f.heap/\RelV v u/\Q v H'
def CR (CX:CXT) (outer:List Env) (P:kE) (w:World) (H:Hp) (s:aJ) (Q:VK) (E:XK) (r:Result) (f:aJ):Prop:=
 match r with
 |.ok (.ret u)=>CE outer P w H s Q u f
 |.ok _=>False
 |.error e=>CX outer H s E e f
structure A3 (P:kE) (w:World) (K:ah) (mg:Str->Option Value) (base:Heap) (CX:CXT) (k:Nat) (f:ag) (fd:aH) (ps:List Str) (sp:Sp):Prop where
 len:∀vs H Q E,sp vs H Q E->vs.length=ps.length
 run:∀(A:Around) (outer:List Env) (s:aJ) (H:Hp) (args:Args) (us:List Value) (vs:List V) (Q:VK) (E:XK),oS k A->aeF P w K mg base A outer s H->BindsTo s fd args (ps.zip us)->Vals vs us->sp vs H Q E->
  codeAny (model P w) A (.call (.ref f) args) (CR CX outer P w H s Q E) s
def A3.mono {j k:Nat} {f:ag} (F:A3 P w K mg base CX j f fd ps sp) (h:j<=k):
 A3 P w K mg base CX k f fd ps sp:=⟨F.len,λA outer s H args b a Q E d=>F.run A outer s H args b a Q E (d.mono h)⟩
def aeF.make (e:aeF P w K mg base A outer s H) (C:ag) (us:List Value) (f:List (Str×Value)):
 aeF P w K mg base (A.under (.builtin "type.__call__" ⟨.ref C::us,f⟩)) outer s H:=⟨by first|exact e.frames|(simpa [ac2,Code.envs,afY,pushEnvs]using e.frames),e.mod,e.bs,e.bsz,e.MX,e.frf,e.eR,e.bare⟩
def Inv.apq (I:Inv X pins σ H s):aeF X.prog X.w X.K X.mg X.base X.A X.stack s H:=
 ⟨I.ok.frames,I.ok.mod,I.bs,b9 I.ok.bsz I.sz,I.stack,I.RD,I.eR,I.bare⟩
def Inv.after (I:Inv X pins σ H s) (h:CE X.stack X.prog X.w H s Q u s'):EP X pins σ Q u s':=by
 obtain⟨v,i,os,bare,un,eR,r,q⟩:=h;obtain⟨e,g,d,t,a⟩:=s';obtain rfl:a=s.os:=os;exact⟨v,i,I.call (h':=e) (g':=g) (d':=d) (t':=t) (ch:=[]) un eR bare (λb z=>absurd z (by simp)),r,q⟩
def am5 (sp:Sp) (dvs:List V) (E:XK) (t:TA):TE:=fun σ H Q=>t σ H λvs H1=>sp (vs++dvs) H1 Q E
inductive I_m (C:ag) (m:Str) (x:V) (H:Hp) (R:Prop):Prop|mk a dx fs (e:x=.ref a) (b:H a=some (.ins C dx fs)) (c:fs.lookup m=none) (h:R):I_m C m x H R
def am3 (C:ag) (m:Str) (sp:Sp) (dvs:List V) (E:XK) (f:TE) (t:TA):TE:=fun σ H Q=>f σ H λx H1=>I_m C m x H1 ( t σ H1 λvs H2=>sp (x::(vs++dvs)) H2 Q E)
def am4 (C:ag) (sp:Sp) (dvs:List V) (E:XK) (t:TA):TE:=fun σ H Q=>t σ H λvs H1=>∀x dx,H1 x=none->H1 dx=none->dx≠x->
 sp (.ref x::(vs++dvs)) (bB (bB H1 dx (.own x)) x (.ins C dx [])) (λv H2=>v=.m6/\Q (.ref x) H2) E
def Binds (K:ah) (f:aH) (ps:List Str) (ds:List Value):Prop:=
 ∀(s:aJ) (us:List Value),K.In s.heap->(us++ds).length=ps.length->BindsTo s f ⟨us,[]⟩ (ps.zip (us++ds))
def Binds.all (h:∀us:List Value,us.length=ps.length->bindArgs fd ⟨us,[]⟩=pure (ps.zip us)):Binds K fd ps []:=λs us _ a=>by
 rw[cX]at a⊢;exact .of_eq (h us a)
def Passes (CX:CXT) (X:Cx) (E:XK):Prop:=∀(pins:List (ag×Obj)) (σ:St) (H:Hp) (s:aJ) (e:Value) (s':aJ),Inv X pins σ H s->CX X.stack H s E e s'->X.xe e s'
def Oo {k:Nat} {f:ag} (F:A3 X.prog X.w X.K X.mg X.base CX k f fd ps sp) (B:oS k X.A) (G:Binds X.K fd ps ds) (hd:Vals dvs ds) (q:Passes CX X E)
 (I:Inv X pins σ H s) (r:Vals vs us) (h:sp (vs++dvs) H Q E):wpAny (model X.prog X.w) X.A (call (.ref f) us) (EP X pins σ Q) X.xe s:=by
 have b:Vals (vs++dvs) (us++ds):=r.append hd;have g:(us++ds).length=ps.length:=by rw[<-b.length];exact F.len _ _ _ _ h
 refine atj (Pg (F.run X.A X.stack s H ⟨us,[]⟩ (us++ds) (vs++dvs) Q E B I.apq (G s us I.W2 g) b h) λr d a=>?_);cases r with
 |error e=>exact q pins σ H s e d I a
 |ok i=>
  cases i with
  |ret u=>exact I.after a
  |next=>exact gI a
  |brk=>exact gI a
  |cont=>exact gI a
def bN {k:Nat} {f:ag} {E:XK} {pos:Pos} (F:A3 X.prog X.w X.K X.mg X.base CX k f fd ps sp) (U:oS n X.A) (Y:X.mg x=some (.ref f)) (Z:jf X.K (.ref f)=true) (hb:Binds X.K fd ps ds)
 (ha:PA X (e::es) t) (G:(x==("__debug__":Str))=false:=by decide) (he:starEach (e::es) X.env=(false,eval e X.env)::starEach es X.env:=by rfl) (Iz:(backTo pos (starEach es X.env)).any (·.1)=false:=by rfl) (hd:Vals dvs ds:=by exact .nil) (O:Passes CX X E:=by first|exact Fu|exact SY) (hg:Gl X x:=by rfl) (B:k<=n:=by decide):
 PE X (.Call (.Name x p) (e::es) [] pos) (am5 sp dvs E t):=by
 intro a s d H Q I h;refine gx (yF I hg Y ?_ G);refine mj (h₀:=X.base) I.ok.mod.kin Z (gn (ha pos a s d H _ I h) λi j ⟨g,l,b,r,q⟩=>⟨b.W2,?_⟩) he Iz;exact Oo F (U.mono B) hb hd O b r q
def aa0 {k:Nat} {f:ag} (F:A3 X.prog X.w X.K X.mg X.base CX k f fd ps sp) (O:oS n X.A) (U:X.mg x=some (.ref f)) (Y:jf X.K (.ref f)=true) (hb:Binds X.K fd ps ds)
 (B:(x==("__debug__":Str))=false:=by decide) (hd:Vals dvs ds:=by exact .nil) (G:Passes CX X E:=by first|exact Fu|exact SY) (Z:Gl X x:=by rfl) (q:k<=n:=by decide):PE X (.Call (.Name x p) [] [] pos) (am5 sp dvs E ak4):=by
 intro a s b H Q I h;refine gx (yF I Z U ?_ B);exact LB I.W2 Y (Oo (us:=[]) F (O.mono q) hb hd G I .nil h)
def bx {k:Nat} {f:ag} {E:XK} {pos:Pos} {o:Expr} (he:PE X o ta) (c:Vd X.K C) (B:Meth X.K C m f) (F:A3 X.prog X.w X.K X.mg X.base CX k f fd ps sp) (Z:oS n X.A) (hb:Binds X.K fd ps ds) (ha:PA X (e::es) t)
 (G:starEach (e::es) X.env=(false,eval e X.env)::starEach es X.env:=by rfl) (Iz:(backTo pos (starEach es X.env)).any (·.1)=false:=by rfl)
 (Y:eval (.Call (.Attribute o m apos) (e::es) [] pos) X.env=(do
  let ov <-eval o X.env
  standAt apos.atName
  let(f,first) <-holding [ov] (getMethod ov m pl)
  callWith pos f first (backTo pos (starEach (e::es) X.env)) (backToKw pos (keywordEach [] X.env))):=by rfl) (hd:Vals dvs ds:=by exact .nil) (U:Passes CX X E:=by first|exact Fu|exact SY) (O:k<=n:=by decide):
 PE X (.Call (.Attribute o m apos) (e::es) [] pos) (am3 C m sp dvs E ta t):=by
 intro b s d H Q I h;refine Hj (pl:=pl) (gn (he b s d H _ I h) λu j ⟨x,D,i,p,a,dx,fs,ex,z,l,q⟩=>?_) Y;subst ex;obtain rfl:u=bw a:=p;refine K0 i z c B l ?_;refine mj (first:=[.ref a]) (h₀:=X.base) I.ok.mod.kin B.kp (gn (ha pos b j d D _ i q) λus J ⟨vs,L,g,r,y⟩=>⟨g.W2,?_⟩) G Iz;exact Oo (us:=.ref a::us) (vs:=.ref a::vs) F (Z.mono O) hb hd U g (.cons rfl r) y
def fA {k:Nat} {f:ag} {E:XK} {pos:Pos} {o:Expr} (Z:PE X o ta) (c:Vd X.K C) (B:Meth X.K C m f) (F:A3 X.prog X.w X.K X.mg X.base CX k f fd ps sp) (Y:oS n X.A) (hb:Binds X.K fd ps ds)
 (U:eval (.Call (.Attribute o m apos) [] [] pos) X.env=(do
  let ov <-eval o X.env
  standAt apos.atName
  let(f,first) <-holding [ov] (getMethod ov m pl)
  callWith pos f first (backTo pos (starEach [] X.env)) (backToKw pos (keywordEach [] X.env))):=by rfl) (hd:Vals dvs ds:=by exact .nil) (O:Passes CX X E:=by first|exact Fu|exact SY) (G:k<=n:=by decide):
 PE X (.Call (.Attribute o m apos) [] [] pos) (am3 C m sp dvs E ta ak4):=by
 intro b s e H Q I h;refine Hj (pl:=pl) (gn (Z b s e H _ I h) λu j ⟨x,p,d,g,a,dx,fs,ex,i,l,q⟩=>?_) U;subst ex;obtain rfl:u=bw a:=g;refine K0 d i c B l ?_;exact LB (first:=[.ref a]) d.W2 B.kp (Oo (us:=[.ref a]) (vs:=[.ref a]) F (Y.mono G) hb hd O d (.cons rfl .nil) q)
structure Mk (K:ah) (C f:ag):Prop where
 makes:U8 K C=true
 init:gm K (.ref C) "__init__"=some (some (.ref f))
 fn:Hk K (.ref f)=true
 kp:jf K (.ref C)=true
def aaN {k:Nat} {f:ag} (M:Mk X.K C f) (F:A3 X.prog X.w X.K X.mg X.base CX k f fd ps sp) (B:oS (k+1) X.A) (G:Binds X.K fd ps ds) (hd:Vals dvs ds)
 (q:Passes CX X E) (I:Inv X pins σ H s) (r:Vals vs us)
 (h:∀x dx,H x=none->H dx=none->dx≠x->sp (.ref x::(vs++dvs)) (bB (bB H dx (.own x)) x (.ins C dx [])) (λv O=>v=.m6/\Q (.ref x) O) E):
 wpAny (model X.prog X.w) X.A (call (.ref C) us) (EP X pins σ Q) X.xe s:=by
 have g:=h (s.heap.objs.size+1) s.heap.objs.size (I.eR.fresh (Z4 _)) (I.eR.fresh (aS _)) (dX (xR _));have b:=Inv.made (C:=C) I;have d:Vals (V.ref (s.heap.objs.size+1)::(vs++dvs)) (bw (s.heap.objs.size+1)::(us++ds)):=.cons rfl (r.append hd)
 have m:(bw (s.heap.objs.size+1)::us++ds).length=ps.length:=by
  have e:=d.length;rw[F.len _ _ _ _ g]at e;exact e.symm
 refine atj (aiV (f:=f) I.W2 M.makes M.init (fO.mp M.fn) (Pg (F.run _ X.stack _ _ ⟨bw (s.heap.objs.size+1)::us,[]⟩ (bw (s.heap.objs.size+1)::(us++ds)) _ _ E (B.make C us [])
  (b.apq.make C us []) (G _ (bw (s.heap.objs.size+1)::us) b.W2 m) d g) λr i a=>?_))
 cases r with
 |error e=>exact q pins σ _ _ e i b a
 |ok n=>
  cases n with
  |ret u=>
   obtain⟨v,y,p,j,o,l⟩:=b.after a;subst o;exact⟨j,⟨V.ref (s.heap.objs.size+1),y,p,rfl,l⟩⟩
  |next=>exact gI a
  |brk=>exact gI a
  |cont=>exact gI a
def jy {k:Nat} {f:ag} {E:XK} {pos:Pos} (M:Mk X.K C f) (F:A3 X.prog X.w X.K X.mg X.base CX k f fd ps sp) (U:oS n X.A) (Y:X.mg x=some (.ref C)) (hb:Binds X.K fd ps ds)
 (ha:PA X (e::es) t) (G:(x==("__debug__":Str))=false:=by decide) (he:starEach (e::es) X.env=(false,eval e X.env)::starEach es X.env:=by rfl) (Iz:(backTo pos (starEach es X.env)).any (·.1)=false:=by rfl) (hd:Vals dvs ds:=by exact .nil) (O:Passes CX X E:=by first|exact Fu|exact SY) (Z:Gl X x:=by rfl) (B:k+1<=n:=by decide):
 PE X (.Call (.Name x p) (e::es) [] pos) (am4 C sp dvs E t):=by
 intro a s d H Q I h;refine gx (yF I Z Y ?_ G);refine mj (h₀:=X.base) I.ok.mod.kin M.kp (gn (ha pos a s d H _ I h) λi j ⟨g,l,b,r,q⟩=>⟨b.W2,?_⟩) he Iz;exact aaN M F (U.mono B) hb hd O b r q
def aiy {k:Nat} {f:ag} (M:Mk X.K C f) (F:A3 X.prog X.w X.K X.mg X.base CX k f fd ps sp) (O:oS n X.A) (U:X.mg x=some (.ref C)) (Z:Binds X.K fd ps ds)
 (B:(x==("__debug__":Str))=false:=by decide) (hd:Vals dvs ds:=by exact .nil) (G:Passes CX X E:=by first|exact Fu|exact SY) (Y:Gl X x:=by rfl) (q:k+1<=n:=by decide):PE X (.Call (.Name x p) [] [] pos) (am4 C sp dvs E ak4):=by
 intro a s b H Q I h;refine gx (yF I Y U ?_ B);exact LB I.W2 M.kp (aaN (us:=[]) M F (O.mono q) Z hd G I .nil h)
structure aR (N P:List Str) (sc:Scope):Prop where
 kind:sc.kind=.function
 co:sc.isCoroutine=false
 gen:sc.isGenerator=false
 nd:N.Nodup
 pre:N.take P.length=P
 par:∀x∈P,sc.names.lookup x=some .local\/sc.names.lookup x=some .cell
 aow:∀y∈sc.names,y.2≠ .free
theorem Xz {kindOf:Str->Option NameKind} {x:Str}:∀{binds:List (Str×Value)} {m:Str->Option Value},(∀v,(x,v)∉binds)->bindL kindOf binds m x=m x
 |[],_,_=>rfl
 |(n,v)::r,m,h=>by
  unfold bindL;rw[Xz λw f=>h w (aL _ f)];split
  ·have:x≠n:=by rintro rfl;exact h v aM
   simp[this]
  ·rfl
theorem XB {kindOf:Str->Option NameKind} {x:Str}:∀{binds:List (Str×Value)} {m:Str->Option Value},(∀v,(x,v)∉binds)->bindC kindOf binds m x=m x
 |[],_,_=>rfl
 |(n,v)::r,m,h=>by
  unfold bindC;rw[XB λw f=>h w (aL _ f)];split
  ·rfl
  ·have:x≠n:=by rintro rfl;exact h v aM
   simp[this]
theorem XA {kindOf:Str->Option NameKind} {x:Str} {v:Value}:∀{P:List Str} {vs:List Value} {i:Nat} {m:Str->Option Value},P.Nodup->P[i]? =some x->vs[i]? =some v->kindOf x=some .local->
 bindL kindOf (P.zip vs) m x=some v
 |[],_,_,_,_,h,_,_=>by simp at h
 |_::_,[],_,_,_,_,h,_=>by simp at h
 |p::P,w::vs,0,m,nd,h1,f,q=>by
  simp at h1 f;subst h1;subst f;show bindL kindOf ((p,w)::P.zip vs) m p=_;unfold bindL;rw[Xz λv B=>(bR.mp nd).1 (XO B).1,az q];simp
 |p::P,w::vs,i+1,m,nd,h1,f,q=>by
  show bindL kindOf ((p,w)::P.zip vs) m x=_;unfold bindL;exact XA (i:=i) (bR.mp nd).2 (by simpa using h1) (by simpa using f) q
theorem XC {kindOf:Str->Option NameKind} {x:Str} {v:Value}:∀{P:List Str} {vs:List Value} {i:Nat} {m:Str->Option Value},P.Nodup->P[i]? =some x->vs[i]? =some v->kindOf x≠some .local->
 bindC kindOf (P.zip vs) m x=some v
 |[],_,_,_,_,h,_,_=>by simp at h
 |_::_,[],_,_,_,_,h,_=>by simp at h
 |p::P,w::vs,0,m,nd,h1,f,q=>by
  simp at h1 f;subst h1;subst f;show bindC kindOf ((p,w)::P.zip vs) m p=_;unfold bindC;rw[XB λv B=>(bR.mp nd).1 (XO B).1,au q];simp
 |p::P,w::vs,i+1,m,nd,h1,f,q=>by
  show bindC kindOf ((p,w)::P.zip vs) m x=_;unfold bindC;exact XC (i:=i) (bR.mp nd).2 (by simpa using h1) (by simpa using f) q
def start (N:List Str) (vs:List V):St:=vs.map some++List.replicate (N.length - vs.length) none
def IB (CX:CXT) (P:kE) (w:World) (K:ah) (mg:Str->Option Value) (base:Heap) (N:List Str) (B:Str) (q:Scope) (f:ag) (F:Value) (A:Around) (outer:List Env) (s:aJ) (H:Hp) (E:XK):Cx where
 prog:=P
 w:=w
 K:=K
 mg:=mg
 base:=base
 A:=A.deeper (envOfC B q s.heap.objs.size f F)
 N:=N
 PL:=s
 H_0:=H
 env:=envOfC B q s.heap.objs.size f F
 outer:=outer
 stack:=envOfC B q s.heap.objs.size f F::outer
 ex:=[]
 calm:=true
 fn:=λ_=>true
 pn:=[]
 xe:=λe s'=>wpAny (model P w) (A.deeper (envOfC B q s.heap.objs.size f F)) (leaving (envOfC B q s.heap.objs.size f F) e) (λ_ a=>CX outer H s E e a) (λb a=>CX outer H s E b a) s'
def ab2 (h:sc.names.lookup x=some .cell):∃c,(cellsFrom n sc.names []).lookup x=some c:=by
 have q:=aae sc.names n [] (.inl h);exact gD.mp q
def agM {f:ag}
 (S:aR N ps scope) (hd:A.handled=none) (B:aeF P w K mg base A outer s H) (F:vs.length=ps.length) (r:Vals vs us)
 (x:InCallC s s.heap.objs.size (bindL (envOfC qual scope s.heap.objs.size f cd).kindOf (ps.zip us) λ_=>none) (cellsFrom (s.heap.objs.size+1) scope.names []) (bindC (envOfC qual scope s.heap.objs.size f cd).kindOf (ps.zip us) λ_=>none) s1):
 Inv (IB CX P w K mg base N qual scope f cd A outer s H E) [] (start N vs) H s1:=by
 have T:ps.length<=N.length:=by have:=cK gh S.pre;rw[b7]at this;omega
 obtain⟨o,tk,rfl,J⟩:=x.done;have C:∀b:ag,b∉(IB CX P w K mg base N qual scope f cd A outer s H E).ex:=λb z=>absurd (show b∈([]:List ag)from z) (by simp)
 refine⟨⟨B.mod,S.kind,rfl,rfl,aS _,λy z c o d=>?_,λy g=>?_,λy c _ h=>?_,λ_=>hd,Around.frames_deeper B.frames,.inr ⟨rfl,rfl⟩,λb z=>absurd z (C b),B.bs,B.bsz,λb _ _=>C b,λb z=>absurd z (C b),B.MX,B.frf⟩,
  rfl,B.bare,Un.kept J,⟨_,x.toInCall.ns,λi y v o d Q=>?_⟩,λy c h=>⟨_,x.cell y c h⟩,B.eR.fresh (aS _),λy c h=>?_,λp l=>absurd (show p∈([]:List (ag×Obj))from l) (by simp),B.eR.kept J,?_⟩
 ·exact name_of_addr x.apart (dk o) (dk d)
 ·have g:scope.names.lookup y=some .cell\/scope.names.lookup y=some .free:=g;rcases g with g|g
  ·exact ab2 g
  ·exact absurd rfl (S.aow _ (dk g))
 ·exact dY (x.above y c (dk h))
 ·have m:i<vs.length:=by
   unfold start at d;by_cases m:i<vs.length
   ·exact m
   ·rw[zM (by simpa using m)]at d;rw[EM]at d;split at d<;>cases d
  have M:vs[i]? =some v:=by
   unfold start at d;rw[List.getElem?_append_left (by simpa using m),aV]at d;cases e:vs[i]? with
   |none=>rw[e]at d;cases d
   |some a=>rw[e]at d;cases (d);rfl
  obtain⟨u,D,L⟩:=r.get M
  have l:ps[i]? =some y:=by
   rw[<-S.pre,List.getElem?_take_of_lt (by omega)];exact o
  have j:ps.Nodup:=by rw[<-S.pre];exact S.nd.sublist (List.take_sublist _ _)
  refine⟨u,L,?_⟩;rcases S.par y (bI l)with k|k
  ·exact .inl ⟨k,XA j l D k⟩
  ·obtain⟨c,e⟩:=ab2 (n:=s.heap.objs.size+1) k;refine .inr ⟨.inl k,c,e,?_⟩;have q:=x.cell y c e;rw[XC j l D (by show scope.names.lookup y≠_;rw[k];decide)]at q;exact q
 ·exact B.eR.fresh (dY (x.above y c (dk h)))
 ·unfold start;show _=N.length;rw[aI,ae,afW];omega
def asN {k:Nat} {f:ag} {name:Str} {G:Arguments} {dV kV:Value} {od:Option ag}
 (lk:K.lookup f=some ⟨oc,od,.func (zf name F G O B dV kV Z pm an Y ct),osl⟩) (ì:Wi K Y F=true) (S:aR N ps B)
 (len:∀vs H Q E,sp vs H Q E->vs.length=ps.length)
 (ajp:∀(A:Around) (outer:List Env) (s:aJ) (H:Hp) (vs:List V) (Q:VK) (E:XK),oS k (A.deeper (envOfC F B s.heap.objs.size f Y))->sp vs H Q E->
  ∃t,PSs (IB CX P w K mg base N F B f Y A outer s H E) O t/\t {nx:=λ_ U=>Q .m6 U,rt:=Q} (start N vs) H):
 A3 P w K mg base CX (k+1) f (zf name F G O B dV kV Z pm an Y ct) ps sp:=by
 refine⟨len,λA outer s H args C vs Q E j d hb r p=>?_⟩;have T:=len _ _ _ _ p;have z:K.In s.heap:=d.mod.kin.keeps λb o e=>(d.bs b o e).1
 have i:s.heap.NoLimit:=d.mod.nolimit.keeps λb o e=>(d.bs b o e).1
 have l:∀y∈ps.zip C,B.names.lookup y.1=some .local\/(B.names.lookup y.1=some .cell/\((cellsFrom (s.heap.objs.size+1) B.names []).lookup y.1).isSome=true):=fun⟨n,v⟩ D=>by
  rcases S.par n (XO D).1 with q|q
  ·exact .inl q
  ·exact .inr ⟨q,aae _ _ _ (.inl q)⟩
 refine codeAny_call_function j.depth (z _ _ lk) rfl S.co S.gen rfl (PySem.W.codeRec_of z ì) (hb _ _ _ _ ?_);refine wpAny_newFunctionEnv_cells S.kind l λenv X s1 x=>?_
 subst X;refine⟨i.keeps x.toInCall.keep,codeAny_func ?_⟩;obtain⟨t,L,M⟩:=ajp A outer s H vs Q E (j.deeper _) p;have I:Inv (IB CX P w K mg base N F B f Y A outer s H E) [] (start N vs) H s1:=agM S j.hd d T r x;refine jT (L [] s1 (start N vs) H _ I M) (λfl s' a=>?_) λe s' a=>a
 have m:∀{g:St} {U:Hp} {v:V} {u:Value},Inv (IB CX P w K mg base N F B f Y A outer s H E) [] g U s'->RelV v u->Q v U->CE outer P w H s Q u s':=
  fun {g U v u} J h q=>⟨v,U,J.os,J.bare,J.base,J.eR,h,q⟩
 cases fl with
 |ret u=>
  obtain⟨v,g,U,J,h,q⟩:=a;exact m J h q
 |next=>
  obtain⟨g,U,J,q⟩:=a;exact m (v:=V.m6) (u:=fZ) J rfl q
 |brk=>
  obtain⟨_,_,_,q⟩:=a;exact gI q
 |cont=>
  obtain⟨_,_,_,q⟩:=a;exact gI q
def tCB (r:List V->Hp->VK->Prop) (t:TA):TE:=fun σ H Q=>t σ H λvs H1=>r vs H1 Q
def cG {pos:Pos} {id:String} {r:List V->Hp->VK->Prop} (U:ra X (.builtin id) r) (G:Gl X x) (F:X.mg x=none) (q:bootBuiltins x=some (.builtin id)) (Y:PA X (e::es) t) (B:x≠"__name__":=by decide) (f:(x==("__debug__":Str))=false:=by decide)
 (O:starEach (e::es) X.env=(false,eval e X.env)::starEach es X.env:=by rfl) (Z:(backTo pos (starEach es X.env)).any (·.1)=false:=by rfl):PE X (.Call (.Name x p) (e::es) [] pos) (tCB r t):=by
 intro a s b H Q I h;refine gx (KW I G F q ?_ B f);exact avd (gn (Y pos a s b H _ I h) λg i ⟨d,m,l,r1,j⟩=>U a i b m d g Q l r1 j) O Z
def sA {pos:Pos} {r:List V->Hp->VK->Prop} (U:ra X (.type T) r) (G:Gl X x) (F:X.mg x=none) (q:bootBuiltins x=some (.type T)) (Y:PA X (e::es) t) (B:x≠"__name__":=by decide) (f:(x==("__debug__":Str))=false:=by decide)
 (O:starEach (e::es) X.env=(false,eval e X.env)::starEach es X.env:=by rfl) (Z:(backTo pos (starEach es X.env)).any (·.1)=false:=by rfl):PE X (.Call (.Name x p) (e::es) [] pos) (tCB r t):=by
 intro a s b H Q I h;refine gx (KW I G F q ?_ B f);exact gC (gn (Y pos a s b H _ I h) λg i ⟨d,m,l,r1,j⟩=>U a i b m d g Q l r1 j) O Z
namespace HT
open PySem PyProof.Rows
section
open PySem.SeqAt
open PySem.AutoSeq1 (wpAny_loadPart')
open PySem.MeetsSeq PySem.MeetsSeq2 PySem.MeetsSeq3
end
def amD {E:Value->aJ->Prop} {t b:ag} {Q:Value->aJ->Prop} (q:IsTup s.heap t vs.toArray) (B:IsTup s.heap b ws.toArray) (f:vs≠[])
 (G:ws=[]->Q (.ref t) s) (F:ws≠[]->Q (.ref s.heap.objs.size) {s with heap:=s.heap.push {cls:=.type "tuple",data:=.seq (vs++ws).toArray}})
 (hsz:vs.length+ws.length<=sizeLine):wpAny (model prog w) A (binaryOp .Add (.ref t) (.ref b)) Q E s:=by
 obtain⟨⟨cls,p,data,l⟩,i,o,n,hd⟩:=id q;obtain⟨⟨x,d,data2,a⟩,g,u,m,j⟩:=id B;simp only at o hd u j;subst o hd u j;have e:vs.toArray++ws.toArray=(vs++ws).toArray:=by simp
 by_cases h:ws=[]
 ·exact aEx ⟨_,i,rfl⟩ ⟨_,g,rfl⟩ auT aDl aaf Z0 (XM _ _)
   (tuple_addW1 t b vs.toArray ws.toArray n m p d l a (by simpa using f) (by simp[h])) ⟨i,g,G h⟩
 ·refine aEx ⟨_,i,rfl⟩ ⟨_,g,rfl⟩ auT aDl aaf Z0 (XM _ _)
   (tuple_addW2 t b vs.toArray ws.toArray n m p d l a (by simpa using f) (by simpa using h) (by rw[bz,bz];exact hsz)) ⟨i,g,?_⟩
  rw[e];exact F h
def sIx (n d:Nat):Option Int->Nat
 |none=>d
 |some v=>if v<0 then(v+(n:Int)).toNat else min v.toNat n
def Mm (n d k:Nat):sIx n d (some (k:Int))=min k n:=by
 show(if(k:Int)<0 then((k:Int)+(n:Int)).toNat else min (k:Int).toNat n)=min k n;rw[au (by omega),dz]
end HT
abbrev TO:=St->Hp->(Option Int->Hp->Prop)->Prop
def PO (X:Cx) (e:Option Expr) (t:TO):Prop:=
 ∀(pins:List (ag×Obj)) (s:aJ) (σ:St) (H:Hp) (Q:Option Int->Hp->Prop),Inv X pins σ H s->t σ H Q->
  wpAny (model X.prog X.w) X.A (evalPart e X.env) (λu s'=>∃o H',Inv X pins σ H' s'/\IsPart u o/\Q o H') X.xe s
def ak3:TO:=λ_ H Q=>Q none H
def aqT (t:TE):TO:=fun σ H Q=>t σ H λx H1=>∃i,x=.int i/\Q (some i) H1
def alD:PO X none ak3:=by
 intro a s b H Q I h;rw[aDn];exact aN ⟨none,H,I,.none,h⟩
def Mu (h:PE X e te):PO X (some e) (aqT te):=by
 intro a s b H Q I g;rw[evalPart_some];refine gn (h a s b H _ I g) λu m ⟨x,l,j,r1,d⟩=>?_
 obtain⟨i,rfl,q⟩:=d;obtain⟨t,rfl⟩:=r1;exact⟨some i,l,j,.int i t,q⟩
def SlR (X:Cx) (r:V->Option Int->Option Int->Hp->VK->Prop):Prop:=
 ∀(a:List (ag×Obj)) (s:aJ) (b:St) (H:Hp) (x:V) (v e d:Value) (lo h:Option Int) (g:ag) (Q:VK),Inv X a b H s->RelV x v->s.heap.IsSliceOf g e d .none->IsPart e lo->IsPart d h->r x lo h H Q->
  ∃T id,typeLookup (.type T) "__getitem__"=pure (some (.builtin id))/\s.TypeIs v T/\wpAny (model X.prog X.w) X.A (getItem v (.ref g)) (EP X a b Q) X.xe s
def tSl (r:V->Option Int->Option Int->Hp->VK->Prop) (q:TE) (tl f:TO):TE:=fun σ H Q=>q σ H λx H1=>tl σ H1 λl H2=>f σ H2 λu a=>r x l u a Q
def SV {lo:Option Expr} {hi:Option Expr} {tl:TO} {f:TO} {r:V->Option Int->Option Int->Hp->VK->Prop} (F:SlR X r) (O:PE X e te) (G:PO X lo tl) (B:PO X hi f):PE X (.Subscript e (.Slice lo hi none p2) pos) (tSl r te tl f):=by
 intro a s g H Q I h;refine atw (gn (O a s g H _ I h) λv o ⟨x,Z,U,r1,z⟩=>?_);refine wpAny_Slice (gn (G a o g Z _ U z) λj n ⟨l,Y,S,D,y⟩=>gn (B a n g Y _ S y) λi d ⟨u,m,P,C,p⟩=>?_);rw[aDn];refine aN ?_;have M:Inv X a g m {d with heap:=d.heap.push {cls:=.type "slice",data:=.fields #[j,i,.none]}}:=P.kept (t':=d.toks) λb ob q=>aB _ q
 obtain⟨T,id,L,E,J⟩:=F a {d with heap:=d.heap.push {cls:=.type "slice",data:=.fields #[j,i,.none]}} g m x v j i l u d.heap.objs.size Q M r1 (aqJ ..) D C p
 show wpAny (model X.prog X.w) X.A (subscriptTail e (.Slice lo hi none p2) v (.ref d.heap.objs.size)) (EP X a g Q) X.xe {d with heap:=d.heap.push {cls:=.type "slice",data:=.fields #[j,i,.none]}}
 exact tail_any (ops:=[.ref d.heap.objs.size,v]) E L J (by with_unfolding_all rfl)
def Ur (xs:List V) (lo hi:Option Int):List V:=(xs.drop (HT.sIx xs.length 0 lo)).take (HT.sIx xs.length xs.length hi - HT.sIx xs.length 0 lo)
def abY (xs:List V) (lo hi:Option Int):(Ur xs lo hi).length<=xs.length:=by
 unfold Ur;rw[b7,eh];omega
def arl (K:ah):R2:=λx y H Q=>∃a b xs ys,x=.ref a/\y=.ref b/\gL K H a xs/\gL K H b ys/\xs≠[]/\xs.length+ys.length<=sizeLine/\
 (ys=[]->Q (.ref a) H)/\(ys≠[]->∀p,H p=none->Q (.ref p) (bB H p (.tup (xs++ys))))
def Vals.YS (r:Vals xs us):us=[]↔xs=[]:=by
 cases r with
 |nil=>simp
 |cons _ _=>simp
def alG:LG X (binaryOp .Add) (arl X.K):=by
 intro e s M H x y v u Q I m l h;obtain⟨a,b,j,i,rfl,rfl,L,J,E,g,p,n⟩:=h;cases m;cases l;obtain⟨P,r1,D,_⟩:=I.tuple L;obtain⟨S,d,C,_⟩:=I.tuple J;refine HT.amD D C (λz=>E (r1.YS.mp z)) (λz=>⟨.ref a,H,I,rfl,p (d.YS.mp z)⟩) (λz=>?_) (by rw[<-r1.length,<-d.length];exact g);refine⟨.ref s.heap.objs.size,_,I.laid (t':=s.toks) (o:=.tup (j++i)) (λb ob q=>aB _ q) (aS _) ?_,rfl,n (λw=>z (d.YS.mpr w)) _ (I.eR.fresh (aS _))⟩;exact⟨by rw[aI];exact g,_,r1.append d,ayy _ _⟩
def ixN (n:Nat) (i:Int):Option Nat:=if 0<=i then(if i<n then some i.toNat else none)else if -(n:Int)<=i then some (i+n).toNat else none
def ky {α:Type} (xs:List α) (i:Int):Option α:=(ixN xs.length i).bind λj=>xs[j]?
def afq {i:Int} {j:Nat} (h:ixN n i=some j):seqIndex? i n=some j/\j<n/\ -(n:Int)<=i/\i<n:=by
 unfold ixN at h;by_cases b:0<=i
 ·rw[az b]at h;by_cases a:i<n
  ·rw[az a]at h;have e:i.toNat=j:=ay h;exact⟨by rw[aeH b a,e],by omega,by omega,a⟩
  ·rw[au a]at h;cases h
 ·rw[au b]at h;by_cases a: -(n:Int)<=i
  ·rw[az a]at h;have e:(i+n).toNat=j:=ay h;exact⟨by rw[aad (by omega) a,e],by omega,a,by omega⟩
  ·rw[au a]at h;cases h
def ZG {α:Type} {xs:List α} {i:Int} {v:α} (h:ky xs i=some v):∃j,seqIndex? i xs.length=some j/\xs[j]? =some v/\j<xs.length/\ -(xs.length:Int)<=i/\i<xs.length:=by
 unfold ky at h;cases e:ixN xs.length i with
 |none=>rw[e]at h;cases h
 |some j=>
  rw[e]at h;obtain⟨g,d,b,a⟩:=afq e;exact⟨j,g,h,d,b,a⟩
def bD {α:Type} {xs:List α} {j:Nat} {v:α} (h:xs[j]? =some v):ky xs (j:Int)=some v:=by
 have a:j<xs.length:=(aQ.mp h).1
 have e:ixN xs.length (j:Int)=some j:=by
  unfold ixN;rw[az (by omega),az (by omega)];simp
 unfold ky;rw[e];exact h
def amI (b:Expr):Prop:=∀o i,subscripted b false o i=operate [o,i] (getItem o i)
def IxR (X:Cx) (r:R2):Prop:=
 ∀(value a:Expr) (pins:List (ag×Obj)) (s:aJ) (σ:St) (H:Hp) (x y:V) (v u:Value) (Q:VK),Inv X pins σ H s->RelV x v->RelV y u->r x y H Q->
  subscripted a false v u=operate [v,u] (getItem v u)->wpAny (model X.prog X.w) X.A (subscriptTail value a v u) (EP X pins σ Q) X.xe s
def MtR (X:Cx) (id:String) (r:V->List V->Hp->VK->Prop):Prop:=
 ∀(pins:List (ag×Obj)) (s:aJ) (σ:St) (H:Hp) (x:V) (xs:List V) (v:Value) (us:List Value) (Q:VK),Inv X pins σ H s->RelV x v->Vals xs us->r x xs H Q->
  wpAny (model X.prog X.w) X.A (call (.builtin id) (v::us)) (EP X pins σ Q) X.xe s
def cP {a:Expr} {tb:TE} (B:IxR X r) (G:PE X a ta) (F:PE X b tb) (f:amI b:=by exact λ_ _=>rfl):PE X (.Subscript a b pos) (tOp r ta tb):=by
 intro d s e H Q I h;exact atw (apD G F I h λv u g x y m l j i q=>B a b d g e m x y v u Q l j i q (f _ _))
inductive ark (K:ah) (x y:V) (H:Hp) (Q:VK):Prop|mk p xs i v (a:x=.ref p) (b:y=.int i) (c:dv K H p xs) (e:ky xs i=some v) (h:Q v H):ark K x y H Q
inductive arj (K:ah) (x y:V) (H:Hp) (Q:VK):Prop|mk p xs i v (a:x=.ref p) (b:y=.int i) (c:gL K H p xs) (e:ky xs i=some v) (h:Q v H):arj K x y H Q
def dW {X:Cx}:IxR X (ark X.K):=by
 intro value F a s g H x y v u Q I E D h m;obtain⟨p,G,i,z,rfl,rfl,J,M,q⟩:=h;cases E;obtain⟨t,rfl⟩:=D;obtain⟨f,r,d,O⟩:=I.list J;obtain⟨j,b,T,Y,S,P⟩:=ZG M;obtain⟨w,o,B⟩:=r.get T;have L:=r.length;have U:=OO;have l:EP X a g Q w s:=⟨z,H,I,B,q⟩;by_cases n:0<=i
 ·have e:i.toNat=j:=by
   rw[aeH n P]at b;exact ay b
  exact item_listR d.isList n (by omega) (by rw[e];simpa using o) l m
 ·have e:(i+(f.toArray.size:Int)).toNat=j:=by
   rw[aad (by omega) S]at b;rw[bz,<-L];exact ay b
  exact akP (x:=w) d.isList.typeIs atm.lookup
   (akO (Q:=λr C=>r=w/\EP X a g Q r C) d.isList (by omega) (by rw[bz]<;>omega) (by omega) (by rw[e];simpa using o) ⟨rfl,l⟩) m
def fg {X:Cx}:IxR X (arj X.K):=by
 intro value P a s b H x y v u Q I m l h n;obtain⟨p,S,i,z,rfl,rfl,o,D,q⟩:=h;cases m;obtain⟨t,rfl⟩:=l;obtain⟨O,r,d,T⟩:=I.tuple o;obtain⟨j,J,E,G,F,B⟩:=ZG D;obtain⟨w,L,M⟩:=r.get E;have C:=r.length;have f:=OO;have e:EP X a b Q w s:=⟨z,H,I,M,q⟩
 exact akP (x:=w) d.typeIs slot_tuple_getitem.lookup
  (getItem_tuple (j:=j) (Q:=λr g=>r=w/\EP X a b Q r g) d (by omega) (by omega) (by rw[bz,<-C];exact J) (by simpa using L) ⟨rfl,e⟩) n
def adQ (f:List Value) (n j:Nat) (u:Value):LH (·.setIfInBounds j u) {cls:=.type "list",data:=.seq f.toArray n}={cls:=.type "list",data:=.seq (f.set j u).toArray n}:=by
 simp[LH]
def Inv.lst {p:ag} (I:Inv X pins σ H s) (h:H p=some (.lst xs)):
 ∃(f:List Value) (n:Nat),Vals xs f/\s.heap.get? p=some {cls:=.type "list",data:=.seq f.toArray n}/\xs.length<=sizeLine:=by
 obtain⟨z,f,n,r,e⟩:=I.eR p _ h;exact⟨f,n,r,e,z⟩
def Inv.aoI {p:ag} {B:Nat} {f:Obj->Obj} (I:Inv X pins σ H s) (h:H p=some (.lst xs))
 (G:s.heap.get? p=some {cls:=.type "list",data:=.seq dM.toArray n}) (F:f {cls:=.type "list",data:=.seq dM.toArray n}={cls:=.type "list",data:=.seq its'.toArray B}) (r:Vals ys its') (hz:ys.length<=sizeLine) (t:Nat):
 Inv X pins σ (bB H p (.lst ys)) {s with heap:=s.heap.update p f,toks:=t}:=by
 have e:(s.heap.update p f).get? p=some {cls:=.type "list",data:=.seq its'.toArray B}:=by
  rw[vL f G (by rw[F]<;>rfl),F]
 refine I.write (x:=p) (e:=p) (by rw[h];trivial) (.inl rfl) (λb u a q=>(aeO _ _ (DD a)).trans q) ⟨_,e⟩ ?_;exact⟨hz,its',B,r,e⟩
def ari:V->V->V->Hp->(Hp->Prop)->Prop:=λo i v H Q=>∃p xs k j,o=.ref p/\i=.int k/\H p=some (.lst xs)/\ixN xs.length k=some j/\Q (bB H p (.lst (xs.set j v)))
def set_list:apJ X ari:=by
 intro a s D H o i v T f u Q I L M J h;obtain⟨p,E,k,j,rfl,rfl,l,S,q⟩:=h;cases L;obtain⟨t,rfl⟩:=M;obtain⟨z,n,r,d,P⟩:=I.lst l;obtain⟨b,F,x,m⟩:=afq S;have e:=r.length;have B:=OO
 have C:Inv X a D (bB H p (.lst (E.set j v))) {s with heap:=s.heap.update p (LH (·.setIfInBounds j u))}:=
  I.aoI l d (adQ z n j u) (r.set J j) (by rw[sm];exact P) s.toks
 by_cases y:0<=k
 ·have g:k.toNat=j:=by
   rw[aeH y m]at b;exact ay b
  exact PySem.W.ki_setAt d y (by omega) (by rw[bz,<-e];exact m) (by rw[g];exact⟨_,C,q⟩)
 ·have g:(k+(z.toArray.size:Int)).toNat=j:=by
   rw[aad (by omega) x]at b;rw[bz,<-e];exact ay b
  exact PySem.W.ki_setBack d (by omega) (by rw[bz,<-e];exact x) (by omega) (by rw[g];exact⟨_,C,q⟩)
def Yf (lo hi:Option Int) (n:Nat):(sliceBounds lo hi none n).1=((HT.sIx n 0 lo:Nat):Int)/\(sliceBounds lo hi none n).2.1=((HT.sIx n n hi:Nat):Int)/\(sliceBounds lo hi none n).2.2=1:=by
 refine⟨?_,?_,rfl⟩
 ·cases lo with
  |none=>simp[sliceBounds,HT.sIx]
  |some i=>
   simp only[sliceBounds,HT.sIx,akj,show(1:Int)>0 by decide,rb];by_cases h:i<0
   ·simp only[h,rb]<;>omega
   ·simp only[h,lC]<;>omega
 ·cases hi with
  |none=>simp[sliceBounds,HT.sIx]
  |some i=>
   simp only[sliceBounds,HT.sIx,akj,show(1:Int)>0 by decide,rb];by_cases h:i<0
   ·simp only[h,rb]<;>omega
   ·simp only[h,lC]<;>omega
def Vu (f:List Value) (lo hi:Option Int):slicePick f.toArray lo hi none=((f.drop (HT.sIx f.length 0 lo)).take (HT.sIx f.length f.length hi - HT.sIx f.length 0 lo)).toArray:=by
 obtain⟨d,b,a⟩:=Yf lo hi f.toArray.size;unfold slicePick;rw[d,b,a];simp only[sliceRange_one,pick_run,bz]<;>rfl
def avU (K:ah):V->Option Int->Option Int->Hp->VK->Prop:=λx lo hi H Q=>∃a xs,x=.ref a/\dv K H a xs/\∀p,H p=none->Q (.ref p) (bB H p (.lst (Ur xs lo hi)))
def Yg:SlR X (avU X.K):=by
 intro g s z H x v D C lo e E Q I l y n m h;obtain⟨a,d,rfl,u,q⟩:=h;cases l;obtain⟨J,r,i,p⟩:=I.list u;have j:=r.length;refine⟨"list",_,atm.lookup,i.isList.typeIs,?_⟩;refine wpAny_getItem_list_slice i.isList y n m .none (by simp) ?_ (by rw[bz]<;>omega);rw[Vu,<-j];refine⟨.ref s.heap.objs.size,_,I.laid (t':=s.toks) (o:=.lst (Ur d lo e)) (λb ob q=>aB _ q) (aS _) ?_,rfl,q _ (I.eR.fresh (aS _))⟩;exact⟨b9 (abY d lo e) p,_,0,(r.drop (HT.sIx d.length 0 lo)).take (HT.sIx d.length d.length e - HT.sIx d.length 0 lo),bf _ rfl⟩
def eL:ra X (.builtin "len") (λxs H Q=>∃p ys,xs=[.ref p]/\(dv X.K H p ys\/gL X.K H p ys)/\Q (.int ys.length) H):=by
 intro g s m H xs n Q I r h;obtain⟨p,ys,rfl,a,q⟩:=h;obtain⟨u,rfl,i⟩:=vals1 r;cases i;have o:=OO;rcases a with a|a
 ·obtain⟨l,d,e,j⟩:=I.list a;have b:=d.length;exact Calls.call_len_list e.isList (by simp only[bz]<;>omega) ⟨.int ys.length,H,I.tok _,⟨s.toks+1,by rw[bz,b]⟩,q⟩
 ·obtain⟨l,d,e,j⟩:=I.tuple a;have b:=d.length;exact len_tuple e (by simp only[bz]<;>omega) ⟨.int ys.length,H,I.tok _,⟨s.toks+1,by rw[bz,b]⟩,q⟩
def Zu:ra X (.type "list") (λxs H Q=>∃p ys,xs=[.ref p]/\(dv X.K H p ys\/gL X.K H p ys)/\∀l,H l=none->Q (.ref l) (bB H l (.lst ys))):=by
 intro j s J H xs P Q I r h;obtain⟨p,ys,rfl,x,q⟩:=h;obtain⟨u,rfl,M⟩:=vals1 r;cases M
 have D:∀(d:List Value),Vals ys d->ys.length<=sizeLine->∀(a:Heap) (i:Nat),(∀b E,s.heap.get? b=some E->a.get? b=some E)->
  a.get? s.heap.objs.size=some {cls:=.type "list",dict:=none,data:=.seq d.toArray i,slots:= #[]}->EP X j J Q (.ref s.heap.objs.size) {s with heap:=a}:=λd g m a i kp e=>
  ⟨.ref s.heap.objs.size,_,I.laid (t':=s.toks) kp (aS _) (show js X.prog X.w _ a _ (.lst ys)from⟨m,d,i,g,e⟩),rfl,q _ (I.eR.fresh (aS _))⟩
 rcases x with x|x
 ·obtain⟨d,g,y,m⟩:=I.list x;have L:=g.length;obtain⟨o,z,C,n,hd⟩:=y.isList;exact aDo p (.inl rfl) z C hd (λa i kp e=>D d g m a i kp e) (by simp only[bz]<;>omega)
 ·obtain⟨d,g,y,m⟩:=I.tuple x;have L:=g.length;obtain⟨o,z,C,n,hd⟩:=y;exact aDo p (.inr rfl) z C hd (λa i kp e=>D d g m a i kp e) (by simp only[bz]<;>omega)
def om:ra X (.type "tuple") (λxs H Q=>∃p ys,xs=[.ref p]/\((dv X.K H p ys/\∀l,H l=none->Q (.ref l) (bB H l (.tup ys)))\/(gL X.K H p ys/\Q (.ref p) H))):=by
 intro a s n H xs E Q I r h;obtain⟨p,ys,rfl,h⟩:=h;obtain⟨u,rfl,z⟩:=vals1 r;cases z;rcases h with⟨j,q⟩|⟨j,q⟩
 ·obtain⟨m,g,i,x⟩:=I.list j;have D:=g.length;refine call_tuple_list i.isList (λd kp=>?_) (by simp only[bz]<;>omega);have y:Inv X a n H {s with heap:=d}:=I.kept (t':=s.toks) kp
  have C:Inv X a n (bB H d.objs.size (.tup ys)) {s with heap:=d.push {cls:=.type "tuple",data:=.seq m.toArray}}:=
   y.laid (t':=s.toks) (λb o e=>aB _ e) (aS _) (show js X.prog X.w _ _ _ (.tup ys)from⟨x,m,g,ayy _ _⟩)
  exact⟨.ref d.objs.size,_,C,rfl,q _ (y.eR.fresh (aS _))⟩
 ·obtain⟨m,g,i,x⟩:=I.tuple j;exact call_tuple_same i ⟨.ref p,H,I,rfl,q⟩
def tyV (K:ah) (T:String) (x:V) (H:Hp):Prop:=match x with
 |.str _=>T="str"
 |.int _=>T="int"
 |.ref p=>(T="list"/\∃b,dv K H p b)\/(T="tuple"/\∃o,K.lookup p=some o/\o.cls=.type "tuple"/\o.dict=none)\/
  (T="dict"/\((∃a,H p=some (.dK a))\/∃a,H p=some (.dT a)))\/(T="set"/\∃S n,H p=some (.set S n))
 |_=>False
def ah6 {x:V} (I:Inv X pins σ H s) (r:RelV x v) (ty:tyV X.K T x H):
 s.TypeIs v T/\∀a,v=.ref a->∃ob,s.heap.get? a=some ob/\ob.dict=none:=by
 cases x with
 |str z=>
  obtain⟨t,rfl⟩:=r;cases(show T="str" from ty);exact⟨typeIs_str s z t,λ_ e=>nomatch e⟩
 |int i=>
  obtain⟨t,rfl⟩:=r;cases(show T="int" from ty);exact⟨typeIs_int s i t,λ_ e=>nomatch e⟩
 |ref p=>
  cases r;rcases ty with⟨rfl,m,j⟩|⟨rfl,o,b,l,hd⟩|⟨rfl,b⟩|⟨rfl,S,n,b⟩
  ·obtain⟨u,_,h,_⟩:=I.list j;refine⟨h.isList.typeIs,λa e=>?_⟩;cases e;obtain⟨o,n,e,c,hd,_⟩:=h;exact⟨o,e,hd⟩
  ·refine⟨⟨o,I.W2 p o b,l⟩,λa e=>?_⟩;cases e;exact⟨o,I.W2 _ o b,hd⟩
  ·have z:∃o,s.heap.get? p=some o/\o.ExactDict:=by
    rcases b with⟨d,b⟩|⟨d,b⟩
    ·obtain⟨_,_,_,_,o,_,_,e,ex,_⟩:=I.eR p _ b;exact⟨o,e,ex⟩
    ·obtain⟨_,_,_,_,o,_,_,e,ex,_⟩:=I.eR p _ b;exact⟨o,e,ex⟩
   obtain⟨o,e,ex⟩:=z;refine⟨⟨o,e,ex.1⟩,λa g=>?_⟩;cases g;exact⟨o,e,ex.2.1⟩
  ·obtain⟨o,_,_,_,e,ex,_⟩:=I.eR p _ b;refine⟨⟨o,e,ex.1⟩,λa g=>?_⟩;cases g;exact⟨o,e,ex.2.1⟩
 |_=>exact gI ty
def avF (K:ah) (T:String) (r:V->List V->Hp->VK->Prop) (to:TE):TE:=fun b H Q=>to b H λx a=>tyV K T x a/\r x [] a Q
def tBM (K:ah) (T:String) (r:V->List V->Hp->VK->Prop) (to:TE) (t:TA):TE:=fun a H Q=>to a H λx b=>tyV K T x b/\t a b λd e=>r x d e Q
def aoq {o:Expr} {name:Str} {id:String} {r:V->List V->Hp->VK->Prop} (q:PlainAttrs T) (slot:Slot T name id) (f:typeOf (.builtin id)=pure (.type "method_descriptor")) (F:MtR X id r) (B:PE X o to)
 (G:attributeBase o name X.env (eval o X.env)=eval o X.env:=by rfl) (O:(apos.endLine==iA.line)=true:=by rfl):PE X (.Call (.Attribute o name apos) [] [] iA) (avF X.K T r to):=by
 intro a s b H Q I h;refine wpAny_Call_method0_late G O (gn (B a s b H _ I h) λv e ⟨x,l,d,r1,ty,g⟩=>?_);obtain⟨j,i⟩:=ah6 d r1 ty;exact⟨T,id,q,slot,f,j,i,jE rfl (yi (F a e b l x [] v [] Q d r1 .nil g))⟩
def CW {o:Expr} {name:Str} {id:String} {r:V->List V->Hp->VK->Prop} (F:PlainAttrs T) (slot:Slot T name id) (f:typeOf (.builtin id)=pure (.type "method_descriptor")) (U:MtR X id r) (O:PE X o to) (Y:PA X (e::es) t)
 (Z:attributeBase o name X.env (eval o X.env)=eval o X.env:=by rfl)
 (q:((backTo iA (starEach (e::es) X.env)).all (λx=> !x.1)&&(backToKw iA (keywordEach [] X.env)).all (λx=>x.1.isSome)
  &&decide ((e::es).length+([]:List Keyword).length+(if([]:List Keyword).isEmpty then 0 else 1)<30))=true:=by rfl)
 (MT:(apos.endLine==iA.line)=true:=by rfl) (G:starEach (e::es) X.env=(false,eval e X.env)::starEach es X.env:=by rfl) (B:(backTo iA (starEach es X.env)).any (·.1)=false:=by rfl):
 PE X (.Call (.Attribute o name apos) (e::es) [] iA) (tBM X.K T r to t):=by
 intro a s b H Q I h;refine wpAny_Call_method_late Z q MT rfl (gn (O a s b H _ I h) λv m ⟨x,E,g,r1,ty,u⟩=>?_);obtain⟨z,y⟩:=ah6 g r1 ty;refine⟨T,id,F,slot,f,z,y,?_⟩;have d:=Y iA a m b E _ g u;rw[G]at d⊢;refine jE (by show(false||(backTo iA (starEach es X.env)).any (·.1))=false;rw[B]<;>rfl) (kz ?_);exact gn d λj l ⟨i,D,C,n,p⟩=>U a l b D x i v j Q C r1 n p
def MtM (X:Cx) (id:String) (r:V->List V->Hp->VK->Prop):Prop:=
 ∀(pins:List (ag×Obj)) (s:aJ) (σ:St) (H:Hp) (x:V) (xs:List V) (v:Value) (us:List Value) (Q:VK),Inv X pins σ H s->RelV x v->Vals xs us->r x xs H Q->
  wpAny (model X.prog X.w) X.A (call (.builtin id) (v::us)) (EP X pins σ Q) X.xe s
theorem Vals.one {x:V} {us:List Value} (h:Vals [x] us):∃u,us=[u]/\RelV x u:=by
 cases h with|cons r t=>cases t;exact⟨_,rfl,r⟩
theorem Vals.zero:∀{us:List Value},Vals [] us->us=[]
 |_,.nil=>rfl
def Vals.dropLast (h:Vals xs us):Vals xs.dropLast us.dropLast:=by
 induction h with
 |nil=>exact .nil
 |cons r t a=>
  cases t with
  |nil=>exact .nil
  |cons q b=>exact .cons r a
def ad9 {α:Type} (l:List α):l.eraseIdx (l.length - 1)=l.dropLast:=by
 induction l with
 |nil=>rfl
 |cons a r d=>
  cases r with
  |nil=>rfl
  |cons b r=>
   have e:(a::b::r).length - 1=((b::r).length - 1)+1:=by
    have h:(a::b::r).length=r.length+2:=rfl;have g:(b::r).length=r.length+1:=rfl;omega
   rw[e,List.eraseIdx_cons_succ,d]
   all_goals rfl
def Inv.aoJ {f:Array Value->Array Value} (I:Inv X pins σ H s) (G:H l=some (.lst xs))
 (e:s.heap.get? l=some {cls:=.type "list",data:=.seq dM.toArray n}) (F:f dM.toArray=its'.toArray) (B:Vals ys its') (hz:ys.length<=sizeLine):
 Inv X pins σ (bB H l (.lst ys)) {s with heap:=s.heap.update l (LH f),toks:=t'}:=by
 have q:=aDs e f;rw[F]at q;refine I.write (x:=l) (e:=l) (by rw[G];exact trivial) (.inl rfl) (λd u b a=>(aeO s.heap (LH f) (DD b)).trans a) ⟨_,q⟩ ?_;exact⟨hz,its',_,B,q⟩
def Inv.awa (I:Inv X pins σ H s) (f:Vals ys dM) (hz:ys.length<=sizeLine):
 Inv X pins σ (bB H s.heap.objs.size (.lst ys)) {s with heap:=s.heap.push {cls:=.type "list",data:=.seq dM.toArray},toks:=t'}:=
 I.laid (λ_ _ q=>aB _ q) (aS _) ⟨hz,dM,0,f,bf _ rfl⟩
def Inv.fresh (I:Inv X pins σ H s):H s.heap.objs.size=none:=I.eR.fresh (aS _)
def Inv.aiW (I:Inv X pins σ H s) (q:H l=some (.lst xs)):xs.length<=sizeLine/\∃(f:List Value) (n:Nat),Vals xs f/\xs.length=f.length/\s.heap.get? l=some {cls:=.type "list",data:=.seq f.toArray n}:=by
 obtain⟨z,f,n,r,e⟩:=I.eR l _ q;exact⟨z,f,n,r,r.length,e⟩
def aiI (h:n<=sizeLine):xY n=false:=by
 unfold xY;exact ba (by omega)
def aly:V->List V->Hp->VK->Prop:=λx vs H Q=>∃l xs y,x=.ref l/\vs=[y]/\H l=some (.lst xs)/\xs.length<sizeLine/\Q .m6 (bB H l (.lst (xs++[y])))
def HA:MtM X "list.append" aly:=by
 intro a s m H x p v C Q I g i h;obtain⟨l,o,y,rfl,rfl,b,D,q⟩:=h;cases g;obtain⟨u,rfl,j⟩:=i.one;obtain⟨z,d,n,r,E,e⟩:=I.aiW b;refine call_meets F.slot_list_append ⟨_,e,rfl⟩ F.entry_list_append (F.args_list_append_2 _ _) (PySem.list_append l d.toArray n u (by rw[bz];omega)) ⟨e,?_⟩;refine⟨.m6,_,I.aoJ (its':=d++[u]) b e (by simp) (r.append (.cons j .nil)) ?_,rfl,q⟩;rw[aI,j0];omega
def avV:V->List V->Hp->VK->Prop:=λx vs H Q=>∃l xs y,x=.ref l/\vs=[]/\H l=some (.lst xs)/\xs[xs.length - 1]? =some y/\Q y (bB H l (.lst xs.dropLast))
def aoF:MtM X "list.pop" avV:=by
 intro g s E H x L v M Q I j m h;obtain⟨l,J,y,rfl,rfl,i,p,q⟩:=h;cases j;have d:=m.zero;subst d;obtain⟨z,a,n,r,D,e⟩:=I.aiW i;obtain⟨u,C,o⟩:=r.get p
 have b:a.toArray[a.toArray.size - 1]? =some u:=by
  show a.toArray[a.length - 1]? =some u;rw[<-mX,<-D];exact C
 refine call_meets F.slot_list_pop ⟨_,e,rfl⟩ F.entry_list_pop (F.args_list_pop_1 _) (aEz l a.toArray n u b (by rw[bz];omega)) ⟨e,?_⟩;refine⟨y,_,I.aoJ (its':=a.dropLast) i e ?_ r.dropLast ?_,o,q⟩
 ·show a.toArray.eraseIdxIfInBounds (a.toArray.size - 1)=a.dropLast.toArray;rw[bz,List.eraseIdxIfInBounds_toArray,ad9]
 ·rw[List.length_dropLast];omega
def avY:R2:=λx y H Q=>∃l b xs zs,x=.ref l/\y=.ref b/\H l=some (.lst xs)/\H b=some (.lst zs)/\xs.length+zs.length<=sizeLine/\∀p,H p=none->Q (.ref p) (bB H p (.lst (xs++zs)))
def aos:LG X (binaryOp .Add) avY:=by
 intro a s E H x y v u Q I j i h;obtain⟨l,b,S,L,rfl,rfl,o,p,f,q⟩:=h;cases j;cases i;obtain⟨z,d,n,r,B,e⟩:=I.aiW o;obtain⟨M,g,T,m,J,D⟩:=I.aiW p;refine PySem.P.add_list e D ?_ (by rw[bz,bz];omega);have C:d.toArray++g.toArray=(d++g).toArray:=by simp
 rw[C];exact⟨.ref _,_,I.awa (t':=s.toks) (r.append m) (by rw[aI];omega),rfl,q _ I.fresh⟩
theorem Vals.ints:∀{ns:List Int} {us:List Value},Vals (ns.map V.int) us->IntsAre us ns
 |[],us,h=>by
  rw[lD]at h;cases h;exact IntsAre.nil
 |n::ns,us,h=>by
  rw[bW]at h;cases h with
  |cons r t=>
   obtain⟨k,rfl⟩:=r;exact IntsAre.cons n k (Vals.ints t)
theorem LK:∀{us:List Value} {ns:List Int},IntsAre us ns->Vals (ns.map V.int) us
 |_,_,.nil=>by rw[lD];exact Paired.nil
 |_,_,.cons n t h=>by rw[bW];exact Paired.cons (show RelV (V.int n) (oX n t)from⟨t,rfl⟩) (LK h)
theorem Vals.bls:∀{bs:List Bool} {us:List Value},Vals (bs.map V.bl) us->us=bs.map pW
 |[],us,h=>by
  rw[lD]at h;cases h;rfl
 |b::bs,us,h=>by
  rw[bW]at h;cases h with
  |cons r t=>
   cases r;rw[Vals.bls t,bW]
def Vals.agk (r:Vals [V.ref a] us):us=[bw a]:=by
 cases r with
 |cons r t=>
  cases t;cases r;rfl
def ak8 {E:Value->aJ->Prop} {Q:Value->aJ->Prop} (q:A.handled=none) (f:s.heap.IsList l dM.toArray) (hi:IntsAre dM ns)
 (h:∀h' tk t',(∀b o,s.heap.get? b=some o->h'.get? b=some o)->Q (.int ns.sum t') {s with heap:=h',toks:=tk}):wpAny (model prog w) A (call (.builtin "sum") [.ref l]) Q E s:=by
 obtain⟨d,e⟩:=hi.allInts.items;have a:numsOf (intItems d).toList=ns:=by rw[<-e];exact hi.numsOf
 rw[akh]at a;rw[e]at f;refine PySem.sum_intListG q f λh' tk t' g=>?_
 have:=h h' tk t' g;rw[preSum_eq,mq (by simp),a];exact this
def al4 {E:Value->aJ->Prop} {Q:Value->aJ->Prop} (q:A.handled=none) (f:s.heap.IsList l dM.toArray) (hi:IntsAre dM ns) (B:0<ns.length)
 (h:∀h' tk M t',(∀b o,s.heap.get? b=some o->h'.get? b=some o)->M∈ns->(∀a,a∈ns->a<=M)->Q (.int M t') {s with heap:=h',toks:=tk}):wpAny (model prog w) A (call (.builtin "max") [.ref l]) Q E s:=by
 obtain⟨xs,e⟩:=hi.allInts.items;have g:numsOf (intItems xs).toList=ns:=by rw[<-e];exact hi.numsOf
 rw[akh]at g;subst g;rw[e]at f;have d:0<xs.size:=by simpa using B
 refine PySem.max_intList q f d λv h' tk i m=>?_
 obtain⟨t,rfl⟩:=intItems_at i;obtain⟨x,u⟩:=argBest_gt (numAt xs) (xs.size - 1);refine h h' tk _ t m ?_ λa p=>?_
 ·rw[aqB];exact anO (by rw[ae,fP];omega)
 ·obtain⟨j,n,rfl⟩:=mem_getD p;rw[ae,fP]at n;rw[<-aqB];exact u j (by omega)
def alV {E:Value->aJ->Prop} {Q:Value->aJ->Prop} (q:A.handled=none) (f:s.heap.IsList l dM.toArray) (hi:IntsAre dM ns) (B:0<ns.length)
 (h:∀h' tk M t',(∀b o,s.heap.get? b=some o->h'.get? b=some o)->M∈ns->(∀a,a∈ns->M<=a)->Q (.int M t') {s with heap:=h',toks:=tk}):wpAny (model prog w) A (call (.builtin "min") [.ref l]) Q E s:=by
 obtain⟨xs,e⟩:=hi.allInts.items;have g:numsOf (intItems xs).toList=ns:=by rw[<-e];exact hi.numsOf
 rw[akh]at g;subst g;rw[e]at f;have d:0<xs.size:=by simpa using B
 refine PySem.min_intList q f d λv h' tk i m=>?_
 obtain⟨t,rfl⟩:=intItems_at i;obtain⟨x,u⟩:=argBest_lt (numAt xs) (xs.size - 1);refine h h' tk _ t m ?_ λa p=>?_
 ·rw[aqB];exact anO (by rw[ae,fP];omega)
 ·obtain⟨j,n,rfl⟩:=mem_getD p;rw[ae,fP]at n;rw[<-aqB];exact u j (by omega)
def avT (K:ah):List V->Hp->VK->Prop:=λvs H Q=>∃(a:ag) (ns:List Int),vs=[V.ref a]/\dv K H a (ns.map V.int)/\Q (.int ns.sum) H
def avX (K:ah):List V->Hp->VK->Prop:=λvs H Q=>∃(a:ag) (ns:List Int),vs=[V.ref a]/\dv K H a (ns.map V.int)/\0<ns.length/\∀m,m∈ns->(∀y,y∈ns->y<=m)->Q (.int m) H
def avW (K:ah):List V->Hp->VK->Prop:=λvs H Q=>∃(a:ag) (ns:List Int),vs=[V.ref a]/\dv K H a (ns.map V.int)/\0<ns.length/\∀m,m∈ns->(∀y,y∈ns->m<=y)->Q (.int m) H
def ajR (f:X.calm=true):ra X (.builtin "sum") (avT X.K):=by
 intro b s j H l m Q I r h;obtain⟨a,ns,rfl,e,q⟩:=h;obtain⟨p,d,g,_⟩:=I.list e;rw[Vals.agk r];exact ak8 (I.ok.hd f) g.isList d.ints λo tk n i=>⟨.int _,H,I.kept i,⟨_,rfl⟩,q⟩
def ajS (f:X.calm=true):ra X (.builtin "max") (avX X.K):=by
 intro b s o H p u Q I r h;obtain⟨a,ns,rfl,e,n,q⟩:=h;obtain⟨z,d,g,_⟩:=I.list e;rw[Vals.agk r];exact al4 (I.ok.hd f) g.isList d.ints n λy tk m x i l j=>⟨.int _,H,I.kept i,⟨_,rfl⟩,q m l j⟩
def Zr (f:X.calm=true):ra X (.builtin "min") (avW X.K):=by
 intro b s o H p u Q I r h;obtain⟨a,ns,rfl,e,n,q⟩:=h;obtain⟨z,d,g,_⟩:=I.list e;rw[Vals.agk r];exact alV (I.ok.hd f) g.isList d.ints n λy tk m x i l j=>⟨.int _,H,I.kept i,⟨_,rfl⟩,q m l j⟩
def abE {E:Value->aJ->Prop} {Q:Value->aJ->Prop} (B:s.heap.IsList l q)
 (h:∀f:aJ,f={s with heap:=s.heap.push {cls:=.type "list_iterator",data:=.fields #[.ref l,.int 0 0]}}->
  (f.heap.IsListIter s.heap.objs.size l 0/\f.heap.IsList l q)->l≠s.heap.objs.size->Q (.ref s.heap.objs.size) f):wpAny (model prog w) A (pyIter (.ref l)) Q E s:=by
 have F:l<s.heap.objs.size:=by obtain⟨_,e,_⟩:=B;exact bK e
 exact ZX B (h _ rfl ⟨⟨_,bf _ rfl,rfl,rfl⟩,B.push _⟩ (dX F))
def Pl {bs:List Bool} (e:dM=bs.map pW):
 TruthOf prog w A (λi v=>dM.toArray[i]? =some v) (λi=>bs.getD i false):=λi v s Q E g h=>by
 have a:dM[i]? =some v:=by simpa using g
 rw[e,aV]at a;obtain⟨b,l,rfl⟩:=acJ.mp a;have j:bs.getD i false=b:=by rw[eY,l]<;>rfl
 have d:Q (bs.getD i false) s:=h;rw[j]at d;exact dR d
theorem any_range:∀bs:List Bool,(f7 bs.length).any (λi=>bs.getD i false)=bs.any id
 |[]=>rfl
 |b::bs=>by
  rw[ak,aeL,xX,Va,xX,<-any_range bs]
  all_goals rfl
theorem all_range:∀bs:List Bool,(f7 bs.length).all (λi=>bs.getD i false)=bs.all id
 |[]=>rfl
 |b::bs=>by
  rw[ak,aeL,gX,atN,gX,<-all_range bs]
  all_goals rfl
def avZ (K:ah):List V->Hp->VK->Prop:=λvs H Q=>∃(a:ag) (bs:List Bool),vs=[V.ref a]/\dv K H a (bs.map V.bl)/\Q (.bl (bs.any id)) H
def av0 (K:ah):List V->Hp->VK->Prop:=λvs H Q=>∃(a:ag) (bs:List Bool),vs=[V.ref a]/\dv K H a (bs.map V.bl)/\Q (.bl (bs.all id)) H
def apv (f:X.calm=true):ra X (.builtin "any") (avZ X.K):=by
 intro g s C H D E Q I r h;obtain⟨a,bs,rfl,m,q⟩:=h;obtain⟨y,l,n,_⟩:=I.list m;rw[Vals.agk r];have i:=l.bls;refine call_any_walk (abE n.isList λe u st z=>?_);subst u;refine⟨_,_,_,_,_,_,_,rfl,auU (A:=X.A.in1) (I.ok.hd f) _ a z y.toArray,st,Pl i,λJ tk p=>?_⟩;refine⟨.bl _,H,I.kept λb o j=>p b o (λd=>?_) (aB _ j),?_,q⟩
 ·rcases aY.mp d with x|d
  ·exact absurd (x▸bK j) (g0 _)
  ·cases d
 ·show pW _=pW _;rw[<-any_range,i,bz,ae]
def OW (f:X.calm=true):ra X (.builtin "all") (av0 X.K):=by
 intro g s C H D E Q I r h;obtain⟨a,bs,rfl,m,q⟩:=h;obtain⟨y,l,n,_⟩:=I.list m;rw[Vals.agk r];have i:=l.bls;refine call_all_walk (abE n.isList λe u st z=>?_);subst u;refine⟨_,_,_,_,_,_,_,rfl,auU (A:=X.A.in1) (I.ok.hd f) _ a z y.toArray,st,Pl i,λJ tk p=>?_⟩;refine⟨.bl _,H,I.kept λb o j=>p b o (λd=>?_) (aB _ j),?_,q⟩
 ·rcases aY.mp d with x|d
  ·exact absurd (x▸bK j) (g0 _)
  ·cases d
 ·show pW _=pW _;rw[<-all_range,i,bz,ae]
abbrev akc (h:Heap) (c:ag) (v:Option Value):Prop:=h.IsCell c v
def avR (f q:Scope):Scope:=
 {f with names:=f.names.map fun(n,k)=>if(k== .free&&q.kind== .function&&q.names.lookup n==some .cell)then(n,.cell)else(n,k)}
def iB (cells:List (Str×ag)):List (Str×NameKind)->List (Str×ag)->List (Str×ag)
 |[],acc=>acc
 |(n,k)::r,acc=>if k== .free then iB cells r ((n,(cells.lookup n).getD 0)::acc)else iB cells r acc
theorem Nn (env:Env) (f:Str×NameKind->List (Str×ag)->Sem (ForInStep (List (Str×ag))))
 (B:∀n k c,f (n,k) c=if k== .free then(do let a <-cellOf env n;pure (.yield ((n,a)::c)))else pure (.yield c)):
 ∀(names:List (Str×NameKind)) (acc:List (Str×ag)),(∀y∈names,y.2=.free->∃c,env.cells.lookup y.1=some c)->forIn names acc f=pure (iB env.cells names acc)
 |[],acc,_=>by rw[NX];rfl
 |(n,k)::r,acc,h=>by
  rw[XQ,B];have q:=λacc=>Nn env f B r acc λy g=>h y (aL _ g)
  unfold iB;by_cases b:(k==vK)=true
  ·rw[az b,az b];obtain⟨c,d⟩:=h (n,k) aM (by simpa using b);have e:cellOf env n=pure c:=by unfold cellOf;rw[d]
   rw[e];have i:(env.cells.lookup n).getD 0=c:=by rw[d];rfl
   rw[i];exact q _
  ·rw[au b,au b];exact q _
def aej (h:∀y∈f.names,y.2=.free->∃c,env.cells.lookup y.1=some c):closureFor f env=pure (iB env.cells f.names []):=by
 simp only[closureFor];rw[Nn env _ (λn k c=>rfl) f.names [] h];rfl
theorem mem_lookup {α:Type}:∀{l:List (Str×α)} {n:Str} {c:α},(n,c)∈l->∃q,l.lookup n=some q
 |(k,v)::r,n,c,h=>by
  rw[ml];cases f:n==k with
  |true=>exact⟨_,rfl⟩
  |false=>
   rcases aY.mp h with e|h
   ·cases e;simp at f
   ·exact mem_lookup h
theorem yX {cells:List (Str×ag)}:∀{names:List (Str×NameKind)} {acc:List (Str×ag)} {n:Str} {c:ag},(n,c)∈iB cells names acc->(n,c)∈acc\/((n,.free)∈names/\c=(cells.lookup n).getD 0)
 |[],_,_,_,h=>.inl h
 |(m,k)::r,acc,n,c,h=>by
  unfold iB at h;split at h
  ·rename_i f
   have f:k=.free:=by simpa using f
   rcases yX h with h|⟨b,a⟩
   ·rcases aY.mp h with e|h
    ·cases e;exact .inr ⟨f▸aM,rfl⟩
    ·exact .inl h
   ·exact .inr ⟨aL _ b,a⟩
  ·rcases yX h with h|⟨b,a⟩
   ·exact .inl h
   ·exact .inr ⟨aL _ b,a⟩
theorem Gz {cells:List (Str×ag)}:∀{names:List (Str×NameKind)} {acc:List (Str×ag)} {p:Str×ag},p∈acc->p∈iB cells names acc
 |[],_,_,h=>h
 |(m,k)::r,acc,p,h=>by
  unfold iB;split
  ·exact Gz (aL _ h)
  ·exact Gz h
theorem Gy {cells:List (Str×ag)}:∀{names:List (Str×NameKind)} {acc:List (Str×ag)} {n:Str},(n,.free)∈names->(n,(cells.lookup n).getD 0)∈iB cells names acc
 |(m,k)::r,acc,n,h=>by
  unfold iB;rcases aY.mp h with e|h
  ·cases e;exact Gz aM
  ·split
   ·exact Gy h
   ·exact Gy h
theorem AQ:∀{names:List (Str×NameKind)} {h:Heap} {acc:List (Str×ag)} {x:Str} {c:ag},(x,c)∈cellsFrom h.objs.size names acc->
 (x,c)∈acc\/((x,.cell)∈names/\h.objs.size<=c/\akc (pushCells h names) c none)
 |[],_,_,_,_,h=>.inl h
 |(n,k)::r,h,acc,x,c,hm=>by
  unfold cellsFrom at hm;unfold pushCells;split at hm
  ·rename_i f
   rw[az f];have f:k=.cell:=by simpa using f
   rw[<-dJ h {cls:=.type "cell",data:=.cell none}]at hm;rcases AQ hm with hm|⟨d,a,b⟩
   ·rcases aY.mp hm with e|hm
    ·cases e;exact .inr ⟨f▸aM,aS _,_,Pf r _ _ _ (bf _ rfl),rfl⟩
    ·exact .inl hm
   ·rw[dJ]at a;exact .inr ⟨aL _ d,EB a,b⟩
  ·rename_i f
   rw[au f];rcases AQ hm with hm|⟨d,a,b⟩
   ·exact .inl hm
   ·exact .inr ⟨aL _ d,a,b⟩
theorem HN:∀{names:List (Str×NameKind)} {n:Nat} {acc:List (Str×ag)} {p:Str×ag},p∈acc->p∈cellsFrom n names acc
 |[],_,_,_,h=>h
 |(m,k)::r,n,acc,p,h=>by
  unfold cellsFrom;split
  ·exact HN (aL _ h)
  ·exact HN h
theorem OY:∀{names:List (Str×NameKind)} {n:Nat} {acc:List (Str×ag)} {x:Str},(x,.cell)∈names->∃c,(x,c)∈cellsFrom n names acc
 |(m,k)::r,n,acc,x,h=>by
  unfold cellsFrom;rcases aY.mp h with e|h
  ·cases e;exact⟨n,HN aM⟩
  ·split
   ·exact OY h
   ·exact OY h
theorem OX:∀{names:List (Str×NameKind)} {h:Heap} {acc:List (Str×ag)} {x y:Str} {c:ag},(∀p∈acc,p.2<h.objs.size)->(∀x y c,(x,c)∈acc->(y,c)∈acc->x=y)->
 (x,c)∈cellsFrom h.objs.size names acc->(y,c)∈cellsFrom h.objs.size names acc->x=y
 |[],_,_,_,_,_,_,hi,h1,f=>hi _ _ _ h1 f
 |(n,k)::r,h,acc,x,y,c,q,hi,h1,f=>by
  unfold cellsFrom at h1 f;split at h1
  ·rename_i F
   rw[az F]at f;rw[<-dJ h {cls:=.type "cell",data:=.cell none}]at h1 f;refine OX (h:=h.push _) (λp B=>?_) (λx y c a b=>?_) h1 f
   ·rw[dJ];rcases aY.mp B with rfl|B
    ·exact xR _
    ·exact U9 (q p B)
   ·rcases aY.mp a with e|a<;>rcases aY.mp b with e'|b
    ·cases e;cases e';rfl
    ·cases (e);exact absurd (q _ b) (g0 _)
    ·cases (e');exact absurd (q _ a) (g0 _)
    ·exact hi _ _ _ a b
  ·rename_i F
   rw[au F]at f;exact OX q hi h1 f
def abc {E:Value->aJ->Prop} {globals:ag} {G:List (Str×ag)} {B:Option ag} {code:Value} {f:ag} {Q:Env->aJ->Prop}
 (h:Q (newEnv q s.heap.objs.size globals (cellsFrom (s.heap.objs.size+1) q.names G) F B code (some I) f)
  {s with heap:=pushCells (s.heap.push {cls:=.type "dict",data:=.dict #[]}) q.names}):
 wpAny M A (newFunctionEnv q globals G [] F B code (some I) f) Q E s:=by
 simp only[newFunctionEnv,ahD,rb];refine af (wpAny_alloc ?_);refine af (wpAny_layCells _ (λn k c=>rfl) q.names G _ _ ?_);rw[show({s with heap:=s.heap.push {cls:=.type "dict",data:=.dict #[]}}:aJ).heap.objs.size=s.heap.objs.size+1 from dJ ..]
 rw[NX];exact af (aN (aN h))
theorem FU {f:Scope}:∀{names:List (Str×NameKind)} {x:Str} {k:NameKind},
 (names.map fun(n,k)=>if(k==vK&&f.kind== .function&&f.names.lookup n==some .cell)then(n,XN)else(n,k)).lookup x=some k->
 ∃B,names.lookup x=some B/\(k=B\/(B=.free/\k=.cell))
 |[],_,_,h=>by simp at h
 |(n,q)::r,x,k,h=>by
  have F:= @FU f r x k;have a:uH x ((if(q==vK&&f.kind== .function&&f.names.lookup n==some .cell)=true then(n,XN)else(n,q))::(r.map _))=some k:=h;cases d:x==n with
  |true=>
   simp only[ml,d];by_cases b:(q==vK&&f.kind== .function&&f.names.lookup n==some .cell)=true
   ·rw[az b]at a;simp only[ml,d]at a;cases a;simp only[aC,fO]at b;exact⟨q,rfl,.inr ⟨b.1.1,rfl⟩⟩
   ·rw[au b]at a;simp only[ml,d]at a;cases a;exact⟨_,rfl,.inl rfl⟩
  |false=>
   simp only[ml,d];by_cases b:(q==vK&&f.kind== .function&&f.names.lookup n==some .cell)=true
   ·rw[az b]at a;simp only[ml,d]at a;exact F a
   ·rw[au b]at a;simp only[ml,d]at a;exact F a
structure acC (N:List Str) (sc scope:Scope) (own:List (Str×Nat)):Prop where
 kind:scope.kind=.function
 uniq:∀y∈scope.names,scope.names.lookup y.1=some y.2
 ix:∀p∈own,N[p.2]? =some p.1
 free:∀y∈scope.names,y.2=.free->sc.names.lookup y.1=some .cell\/sc.names.lookup y.1=some .free
 own:∀y∈scope.names,y.2=.local\/y.2=.cell->y.1∈own.map (·.1)\/y.1∉N
def wipe (f:St):List Nat->St
 |[]=>f
 |v::vs=>(wipe f vs).set v none
theorem ER (f:St):∀vs:List Nat,(wipe f vs).length=f.length
 |[]=>rfl
 |v::vs=>by unfold wipe;rw[sm,ER f vs]
theorem N1 {f:St} {i:Nat} {x:V}:∀{vs:List Nat},(wipe f vs)[i]? =some (some x)->f[i]? =some (some x)/\i∉vs
 |[],h=>⟨h,by simp⟩
 |v::vs,h=>by
  unfold wipe at h;by_cases hi:v=i
  ·subst hi;by_cases q:v<(wipe f vs).length
   ·rw[HV q]at h;cases h
   ·rw[Kf (by simpa using q)]at h;cases h
  ·rw[xS hi]at h;obtain⟨h1,B⟩:=N1 h;exact⟨h1,by simp only[aY,not_or];exact⟨λe=>hi e.symm,B⟩⟩
abbrev Cx.Zx (X:Cx) (s:aJ) (H:Hp) (f:Scope) (q:Env) (fp:List ag):Cx:={X with PL:=s,H_0:=H,env:=q,outer:=X.stack,ex:=fp,fn:=λx=>f.names.lookup x==some .cell,pn:=[],xe:=λ_ _=>False}
def ab5 {fp:List ag} (I:Inv X pins σ H s) (ok:acC X.N X.env.scope scope own) (hN:X.N.Nodup) (B:∀b∈fp,iC X pins H b/\b<s.heap.objs.size):
 Inv (X.Zx s H scope (compEnvC scope (cellsFrom (s.heap.objs.size+1) scope.names (iB X.env.cells scope.names [])) s.heap.objs.size X.env) fp) [] (wipe σ (own.map (·.2))) H {s with heap:=pushCells (s.heap.push {cls:=.type "dict",data:=.dict #[]}) scope.names}:=by
 have W7:∀y∈scope.names,y.2=.free->∃c,X.env.cells.lookup y.1=some c:=λy G e=>by
  rcases ok.free y G e with k|k
  ·exact I.ok.has _ (.inl k)
  ·exact I.ok.has _ (.inr k)
 generalize F:compEnvC scope (cellsFrom (s.heap.objs.size+1) scope.names (iB X.env.cells scope.names [])) s.heap.objs.size X.env=f;have kp:∀b o,s.heap.get? b=some o->(pushCells (s.heap.push {cls:=.type "dict",data:=.dict #[]}) scope.names).get? b=some o:=λb o e=>Pf _ _ _ _ (aB _ e)
 have Y:f.locals=s.heap.objs.size:=by rw[<-F];rfl
 have O:f.cells=cellsFrom (s.heap.objs.size+1) scope.names (iB X.env.cells scope.names []):=by rw[<-F];rfl
 have U:f.scope=avR scope X.env.scope:=by rw[<-F];rfl
 rw[<-dJ s.heap {cls:=.type "dict",data:=.dict #[]}]at O
 have P:∀{y c},(y,c)∈iB X.env.cells scope.names []->X.env.cells.lookup y=some c/\c<s.heap.objs.size:=fun {y c} h=>by
  rcases yX h with h|⟨d,rfl⟩
  ·cases h
  ·obtain⟨c,hc⟩:=W7 _ d rfl;rw[hc];obtain⟨w,z⟩:=I.cell _ _ hc;exact⟨rfl,z.lt⟩
 have mem:∀{y c},f.cells.lookup y=some c->(X.env.cells.lookup y=some c/\c<s.heap.objs.size)\/(s.heap.objs.size+1<=c/\akc (pushCells (s.heap.push {cls:=.type "dict",data:=.dict #[]}) scope.names) c none):=fun {y c} e=>by
  rw[O]at e;rcases AQ (dk e)with h|⟨_,u,h3⟩
  ·exact .inl (P h)
  ·rw[dJ]at u;exact .inr ⟨u,h3⟩
 have look:∀{y},scope.names.lookup y=some .free->∃c,f.cells.lookup y=some c/\X.env.cells.lookup y=some c:=fun {y} S=>by
  have G:(y,vK)∈scope.names:=dk S;obtain⟨T,j⟩:=mem_lookup (HN (names:=scope.names) (n:=(s.heap.push {cls:=.type "dict",data:=.dict #[]}).objs.size) (Gy (cells:=X.env.cells) (acc:=[]) G))
  rw[<-O]at j;refine⟨T,j,?_⟩;rw[O]at j;rcases AQ (dk j)with h|⟨d,_,_⟩
  ·exact(P h).1
  ·have:=ok.uniq _ d;rw[S]at this;cases this
 have okB:(X.Zx s H scope f fp).Ok:=by
  refine⟨I.ok.mod,by show f.scope.kind=_;rw[U];exact ok.kind,by show f.globals=_;rw[<-F];exact I.ok.glob,by show f.builtins=_;rw[<-F];exact I.ok.blt,by show s.heap.objs.size<=f.locals;rw[Y];exact aS _,
   λy z c E D=>?_,λy G=>?_,λy c z e=>?_,I.ok.hd,I.ok.frames,.inl rfl,λb C=>⟨?_,λy c e z=>?_⟩,I.bs,b9 I.ok.bsz I.sz,λb o e C=>?_,λb C z=>?_,I.stack,I.RD⟩
  ·have E:f.cells.lookup y=some c:=E;have D:f.cells.lookup z=some c:=D;rw[O]at E D;refine OX (λp L=>?_) (λy z c a b=>I.ok.inj y z c (P a).1 (P b).1) (dk E) (dk D);rw[dJ];exact U9 (P (y:=p.1) (c:=p.2) L).2
  ·show ∃c,f.cells.lookup y=some c
   have g:∀k,f.kindOf y=some k->(k=.cell\/k=.free)->∃c,f.cells.lookup y=some c:=λk J Z=>by
    unfold Env.kindOf at J;rw[U]at J;obtain⟨x,e,r⟩:=FU J
    have:x=.cell\/x=.free:=by
     rcases r with rfl|⟨rfl,_⟩
     ·exact Z
     ·exact .inr rfl
    rcases this with rfl|rfl
    ·obtain⟨c,h⟩:=OY (n:=(s.heap.push {cls:=.type "dict",data:=.dict #[]}).objs.size) (acc:=iB X.env.cells scope.names []) (dk e)
     obtain⟨T,j⟩:=mem_lookup h;exact⟨T,by rw[O];exact j⟩
    ·obtain⟨c,d,_⟩:=look e;exact⟨c,d⟩
   rcases G with G|G
   ·exact g _ G (.inl rfl)
   ·exact g _ G (.inr rfl)
  ·have z:(scope.names.lookup y==some XN)=true:=z;have z:scope.names.lookup y=some .cell:=by simpa using z
   have e:f.cells.lookup y=some c:=e;rw[O]at e;rcases AQ (dk e)with h|⟨_,u,_⟩
   ·rcases yX h with h|⟨d,_⟩
    ·cases h
    ·have q:=ok.uniq _ d;rw[z]at q;cases q
   ·rw[dJ]at u;exact EB u
  ·show b≠f.locals;rw[Y];exact dX (B b C).2
  ·have e:f.cells.lookup y=some c:=e;rcases mem e with⟨d,_⟩|⟨d,_⟩
   ·exact(B b C).1.2.2.2.2.1 y c d z
   ·have u:s.heap.objs.size+1<=b:=by rw[<-z];exact d
    exact absurd (cF (B b C).2 (EB u)) (g0 _)
  ·rcases(B b C).1.2.2.2.1 with z|z
   ·exact I.ok.agx b o e z
   ·exact absurd (cF (bK e) (b9 I.ok.bsz z)) (g0 _)
  ·rcases aY.mp (I.N7 b z)with z|z
   ·exact(B b C).1.2.1 z
   ·exact(B b C).1.2.2.1 z
 refine⟨okB,rfl,I.bare,Un.kept kp,⟨λ_=>none,?_,λi y av E D l=>?_⟩,λy c e=>?_,?_,λy c e=>?_,λp L=>?_,I.eR.kept kp,by rw[ER];exact I.len⟩
 ·show Heap.Ns _ f.locals _;rw[Y];exact Heap.Ns.keeps (Heap.Ns.new ..) λb o e=>Pf _ _ _ _ e
 ·obtain⟨D,B9⟩:=N1 D
  have Q:scope.names.lookup y=some .free/\(f.kindOf y=some .cell\/f.kindOf y=some .free):=by
   have g:∀k,f.scope.names.lookup y=some k->k=.local\/k=.cell\/k=.free->scope.names.lookup y=some .free/\(f.kindOf y=some .cell\/f.kindOf y=some .free):=λk J Z=>by
    have M:=J;rw[U]at J;obtain⟨x,e,r⟩:=FU J
    have no:¬(x=.local\/x=.cell):=λhh=>by
     rcases ok.own _ (dk e) hh with j|j
     ·obtain⟨p,L,hpy⟩:=aG.mp j;have l:=ok.ix p L;have:p.1=y:=hpy;rw[this]at l;exact B9 (aG.mpr ⟨p,L,To hN l E⟩)
     ·exact j (bI E)
    rcases r with rfl|⟨rfl,rfl⟩
    ·rcases Z with rfl|rfl|rfl
     ·exact absurd (.inl rfl) no
     ·exact absurd (.inr rfl) no
     ·exact⟨e,.inr M⟩
    ·exact⟨e,.inl M⟩
   have l:Vis f.scope y:=l;rcases l with l|l|l
   ·exact g _ l (.inl rfl)
   ·exact g _ l (.inr (.inl rfl))
   ·exact g _ l (.inr (.inr rfl))
  obtain⟨m,hn,S⟩:=I.loc;have awn:Vis X.env.scope y:=(ok.free _ (dk Q.1) rfl).elim (λk=>.inr (.inl k)) (λk=>.inr (.inr k));obtain⟨w,r,q⟩:=S i y av E D awn;refine⟨w,r,.inr ⟨Q.2,?_⟩⟩;obtain⟨c,d,u⟩:=look Q.1;rcases q with⟨k,_⟩|⟨_,T,j,z⟩
  ·have k:X.env.scope.names.lookup y=some .local:=k;rcases ok.free _ (dk Q.1) rfl with x|x<;>rw[show X.env.scope.names.lookup y=_ from x]at k<;>cases k
  ·rw[u]at j;cases j;exact⟨c,d,z.keeps kp⟩
 ·have e:f.cells.lookup y=some c:=e;rcases mem e with⟨d,_⟩|⟨_,z⟩
  ·obtain⟨w,z⟩:=I.cell y c d;exact⟨w,z.keeps kp⟩
  ·exact⟨_,z⟩
 ·show H f.locals=none;rw[Y];exact I.eR.fresh (aS _)
 ·have e:f.cells.lookup y=some c:=e;rcases mem e with⟨d,_⟩|⟨d,_⟩
  ·exact I.vi y c d
  ·exact I.eR.fresh (EB d)
 ·exact absurd (show p∈([]:List (ag×Obj))++[]from L) (by simp)
def apG {E:Value->aJ->Prop} {D:ag} {Q:Value->aJ->Prop} (I:Inv X pins σ H s) (B:H D=some (.lst xs)) (hz:xs.length<sizeLine) (r:RelV y v)
 (h:∀f,Inv X pins σ (bB H D (.lst (xs++[y]))) f->Q .none f):wpAny (model X.prog X.w) X.A (call (.builtin "list.append") [.ref D,v]) Q E s:=by
 obtain⟨i,m,n,a,e⟩:=I.eR D _ B;have o:=a.length;refine append_at (hsz:=by rw[bz];omega) e λl g d=>?_
 refine h {s with heap:=l} (I.write (t':=s.toks) (by rw[B];trivial) (.inl rfl) (λb u j q=>(g.2 b j).trans q) ⟨_,d⟩ ⟨by rw[aI];exact hz,m++[v],n+1,a.append (.cons r .nil),?_⟩);rw[d];simp
def PTs (X:Cx) (f:List Expr) (t:TT):Prop:=
 ∀(pins:List (ag×Obj)) (s:aJ) (σ:St) (H:Hp) (Q:Bool->Hp->Prop),Inv X pins σ H s->t σ H Q->
  wpAny (model X.prog X.w) X.A (forIn f true λc r=>if r=true then do let ok <-isTrue c X.env (eval c X.env);pure (ED ok)else pure (ED r)) (TP X pins σ Q) X.xe s
def avw:TT:=λ_ H Q=>Q true H
def oA:PTs X [] avw:=λ_ _ _ H _ I h=>wpAny_tests_nil ⟨H,I,h⟩
def Yy (h:PT X c t):PTs X [c] t:=λa s b H Q I d=>wpAny_tests_one (h a s b H Q I d)
def af9 {α:Type} {t:Sem α} {Q f:α->aJ->Prop} {E:Value->aJ->Prop} (h:wpAny M A t Q (λ_ _=>False) s) (q:∀a s,Q a s->f a s):wpAny M A t f E s:=jT h q λ_ _ z=>gI z
theorem Zt {R:Result->aJ->Prop} {O:Value} (I:Nat->aJ->Prop)
 (Ν:∀n s,I n s->wpAny (model prog w) A (pyNext O) (λr f=>match r with
  |none=>R (.ok .next) f
  |some v=>wpAny (model prog w) A (letOwnedTupleGo Y O v) (λ_ Z=>wpAny (model prog w) A (assign Y env v) (λ_ G=>
   wpAny (model prog w) A (forIn æ true λc r=>if r=true then do let ok <-isTrue c env (eval c env);pure (ED ok)else pure (ED r)) (λok U=>
    if ok=true then wpAny (model prog w) A (eval À env) (λx F=>
     wpAny (model prog w) A (call (.builtin "list.append") [acc,x]) (λ_ B=>∃m,m<n/\I m B) (notedBy (model prog w) A env λe q=>R (.error e) q) F) (notedBy (model prog w) A env λe q=>R (.error e) q) U
    else ∃m,m<n/\I m U) (notedBy (model prog w) A env λe q=>R (.error e) q) G) (notedBy (model prog w) A env λe q=>R (.error e) q) Z) (notedBy (model prog w) A env λe q=>R (.error e) q) f) (notedBy (model prog w) A env λe q=>R (.error e) q) s)
 (n:Nat) (h:I n s):
 codeAny (model prog w) A (.compLoop (.ListComp À [⟨Y,iter,æ,0⟩] scope pos) 0 O acc env) R s:=by
 refine codeAny_loop rfl I (λn s o=>?_) n h;show wpAny _ A ((compTurn (.ListComp À [⟨Y,iter,æ,0⟩] scope pos) 0 O acc env).onRaise (λx=>do noteFrame x env;theTreesLotGoes x)) _ _ s;refine wpAny_noted ?_;rw[compTurn_list];refine af (aDk (af (jT (Ν n s o) (λr f i=>?_) λ_ _ a=>a)));cases r with
 |none=>exact aN i
 |some v=>
  refine af (jT i (λ_ Z b=>?_) λ_ _ a=>a);refine af (jT b (λ_ G l=>af (jT l (λok U j=>?_) λ_ _ a=>a)) λ_ _ a=>a);cases ok with
  |false=>exact aN ⟨rfl,j⟩
  |true=>
   exact af (af (jT j (λx F g=>af (jT g (λ_ B d=>aN (aN ⟨rfl,d⟩)) λ_ _ a=>a)) λ_ _ a=>a))
def tLc (f:TI) (g:TG) (q:TT) (B:TE) (vs:List Nat):TE:=fun σ H Q=>f σ H λJ H1=>∀D,H1 D=none->∃W:Nat->Nat->Hp->Prop,(∃m,W 0 m (bB H1 D (.lst [])))/\∀i m H,W i m H->
 (J.stop i H/\Q (.ref D) H)\/(J.go i H/\∃d:Hp->Prop,(∀H',d H'->∃m',m'<m/\W (i+1) m' H')/\∀x H',J.yld i H x H'->g x (wipe σ vs) H' fun a H2=>wipe a vs=wipe σ vs/\q a H2 λb e=>
  if b=true then B a e λy H4=>∃acc,H4 D=some (.lst acc)/\acc.length<sizeLine/\d (bB H4 D (.lst (acc++[y])))else d e)
def al8 {Q:VK} {pos:Pos} {use:Option (Value->Sem Unit)} {Qf:Value->aJ->Prop}
 (hc:X.calm=true) (hN:X.N.Nodup) (I:Inv X pins σ H s) (hi:PI X tg iter wi) (ok:acC X.N X.env.scope scope own)
 (hg:∀(s:aJ) (H:Hp) (C:ag) (cl:List (Str×ag)) (fp:List ag),PG (X.Zx s H scope (compEnvC scope cl C X.env) fp) tg g) (ht:∀(s:aJ) (H:Hp) (C:ag) (cl:List (Str×ag)) (fp:List ag),PTs (X.Zx s H scope (compEnvC scope cl C X.env) fp) æ tt)
 (he:∀(s:aJ) (H:Hp) (C:ag) (cl:List (Str×ag)) (fp:List ag),PE (X.Zx s H scope (compEnvC scope cl C X.env) fp) À te) (hs:∀x,foldedSetIterable iter X.env x=pure x)
 (h:tLc wi g tt te (own.map (·.2)) σ H Q)
 (hRR:∀D C f m H',Inv X pins σ H' f->Q (.ref D) H'->f.heap.Ns C m->iC X pins H' C->compPost (model X.prog X.w) X.A X.xe use Qf (.ref D) C (.ok .next) f):
 wpAny (model X.prog X.w) X.A (comprehension (.ListComp À [⟨tg,iter,æ,0⟩] scope pos) scope X.env pos' (newList []) false (eval iter X.env) use) Qf X.xe s:=by
 have W7:∀y∈scope.names,y.2=.free->∃c,X.env.cells.lookup y.1=some c:=λy hy e=>by
  rcases ok.free y hy e with k|k
  ·exact I.ok.has _ (.inl k)
  ·exact I.ok.has _ (.inr k)
 refine wpAny_comprehension_free (use:=use) rfl hs (aej W7) ok.kind (λy hy e=>by rw[ok.uniq y hy,e])
  (gn (hi pins s σ H _ I h) λxv s1 hx=>gn hx λitv s2 h2=>?_)
 obtain⟨it,fp,tn,J,E,e,I2,T,QK,f2,q⟩:=h2;subst e;refine gT (abc ?_) (by show 0<=sizeLine;decide);generalize Z:s2.heap.objs.size=D;have hDn:E D=none:=I2.eR.fresh (Be Z);obtain⟨W,⟨m0,w0⟩,Ν⟩:=q D hDn;generalize ń:({s2 with heap:=s2.heap.push {cls:=.type "list",data:=.seq ([]:List Value).toArray}}:aJ)=s3
 have I3:Inv X pins σ (bB E D (.lst [])) s3:=by
  rw[<-ń];refine I2.laid (t':=s2.toks) (λb o e=>aB _ e) (Be Z) ⟨eI _,[],0,.nil,?_⟩;rw[<-Z];exact bf _ rfl
 have h3:s3.heap=s2.heap.push {cls:=.type "list",data:=.seq ([]:List Value).toArray}:=by rw[<-ń]
 have sz:∀b∈fp,b<s2.heap.objs.size:=λb a=>by
  obtain⟨o,e,_⟩:=T.obj _ _ QK b a;exact bK e
 have M:∀b∈fp,iC X pins (bB E D (.lst [])) b/\b<s3.heap.objs.size:=λb a=>by
  have yH:=sz b a;refine⟨⟨?_,(f2 b a).2⟩,by rw[h3,dJ];exact U9 yH⟩;rw[aw (by rw[<-Z];exact dX yH)];exact(f2 b a).1
 have Ð:tn 0 s3.heap:=T.keep _ _ _ QK λb _ o e=>by rw[h3];exact aB _ e
 have I4:=ab5 I3 ok hN M;have pg:=hg s3 (bB E D (.lst [])) s3.heap.objs.size (cellsFrom (s3.heap.objs.size+1) scope.names (iB X.env.cells scope.names [])) fp;have pt:=ht s3 (bB E D (.lst [])) s3.heap.objs.size (cellsFrom (s3.heap.objs.size+1) scope.names (iB X.env.cells scope.names [])) fp;have pe:=he s3 (bB E D (.lst [])) s3.heap.objs.size (cellsFrom (s3.heap.objs.size+1) scope.names (iB X.env.cells scope.names [])) fp;show codeAny _ _ (.compStart (.ListComp À [⟨tg,iter,æ,0⟩] scope pos) 0 (.ref it) (.ref D) (compEnvC scope (cellsFrom (s3.heap.objs.size+1) scope.names (iB X.env.cells scope.names [])) s3.heap.objs.size X.env)) (compPost (model X.prog X.w) X.A X.xe use Qf (.ref D) s3.heap.objs.size) {s3 with heap:=pushCells (s3.heap.push {cls:=.type "dict",data:=.dict #[]}) scope.names}
 have G:∀b∈fp,(bB E D (.lst [])) b=none:=λb a=>(M b a).1.1
 generalize œ:compEnvC scope (cellsFrom (s3.heap.objs.size+1) scope.names (iB X.env.cells scope.names [])) s3.heap.objs.size X.env=ce at I4 pg pt pe⊢;have cL:ce.locals=s3.heap.objs.size:=by subst œ;rfl
 generalize hH3:bB E D (.lst [])=d at I3 I4 pg pt pe w0 G M;generalize hs4:({s3 with heap:=pushCells (s3.heap.push {cls:=.type "dict",data:=.dict #[]}) scope.names}:aJ)=s4 at I4⊢
 have ą:tn 0 s4.heap:=T.keep _ _ _ Ð λb _ o e=>by rw[<-hs4];exact Pf _ _ _ _ (aB _ e)
 have ţ:∀{η:St} {H':Hp} {f:aJ},Inv (X.Zx s3 d scope ce fp) [] η H' f->(∀b∈fp,H' b=none)->∀b∈fp,iC (X.Zx s3 d scope ce fp) [] H' b:=fun {η H' f} F S b a=>
  ⟨S b a,(F.ok.exf b a).1,F.ok.ag7 b a,.inl a,λx c e=>(F.ok.exf b a).2 x c e,λp hp=>absurd (show p∈([]:List (ag×Obj))++[]from hp) (by simp)⟩
 have l:codeAny (model X.prog X.w) X.A (.compLoop (.ListComp À [⟨tg,iter,æ,0⟩] scope pos) 0 (.ref it) (.ref D) ce) (compPost (model X.prog X.w) X.A X.xe use Qf (.ref D) s3.heap.objs.size) s4:=by
  refine Zt (λn f=>∃i H',Inv (X.Zx s3 d scope ce fp) [] (wipe σ (own.map (·.2))) H' f/\tn i f.heap/\(∀b∈fp,H' b=none)/\W i n H') ?_ m0 ⟨0,d,I4,ą,G,w0⟩
  rintro n s5 ⟨i,P,I5,á,n5,w5⟩
  rcases Ν i n P w5 with⟨stop,qq⟩|⟨go,Nx,hNx,step⟩
  ·have td:=T.done (X.Zx s3 d scope ce fp) rfl rfl rfl hc i [] s5 _ P (λ_ _=>False) I5 (ţ I5 n5) á stop;refine af9 td λr s6 ⟨hr,B⟩=>?_
   subst hr;have I7:Inv X pins σ P s6:=I3.ajW (ch:=fp) B.os B.base B.eR B.bare λb a=>⟨(M b a).1.2.2.2.1,(M b a).1.2.1,(M b a).1.2.2.2.2.1,(M b a).1.2.2.2.2.2⟩
   have nC:P s3.heap.objs.size=none:=by
    have z:P ce.locals=none:=B.free;rw[cL]at z;exact z
   obtain⟨m,S,_⟩:=B.loc;have S:s6.heap.Ns ce.locals m:=S;rw[cL]at S;exact hRR D s3.heap.objs.size s6 m P I7 qq S (I3.D5 (aS _) nC)
  ·have ti:=T.item (X.Zx s3 d scope ce fp) rfl rfl rfl hc i [] s5 _ P (λ_ _=>False) I5 (ţ I5 n5) á go;refine af9 ti λr s6 ⟨u,hr,h6⟩=>?_
   subst hr;refine af9 h6 λ_ s7 ⟨x,H7,I7,r7,y7,L,n7⟩=>?_
   have I7':=I7.pinned (ţ I7 n7) (T.obj _ _ L);refine af9 (pg _ s7 _ H7 x u _ I7' r7 (step x H7 y7)) λ_ s8 ⟨σ8,H8,I8,O,q8⟩=>?_
   refine af9 (pt _ s8 σ8 H8 _ I8 q8) λb s9 ⟨H9,I9,Y⟩=>?_
   have θ:∀{f:aJ} {H':Hp},Inv (X.Zx s3 d scope ce fp) ([]++SU fp s7.heap) σ8 H' f->Nx H'->∃m,m<n/\∃i H',Inv (X.Zx s3 d scope ce fp) [] (wipe σ (own.map (·.2))) H' f/\tn i f.heap/\(∀b∈fp,H' b=none)/\W i m H':=fun {f H'} F nx=>by
    obtain⟨m',hm,w'⟩:=hNx H' nx
    have U:∀b∈fp,∀o,s7.heap.get? b=some o->f.heap.get? b=some o/\H' b=none:=λb a o e=>
     let z:=F.pin (b,o) (dB _ (dB _ (KR a e)))
     ⟨z.1,z.2.1⟩
    have hl:(wipe σ (own.map (·.2))).length=σ8.length:=by rw[<-O,ER]
    refine⟨m',hm,i+1,H',(F.LP (pins:=[])).weak hl (λj v e=>?_),T.keep _ _ _ L λb a o e=>(U b a o e).1,λb a=>?_,w'⟩
    ·rw[<-O]at e;exact(N1 e).1
    ·obtain⟨o,e,_⟩:=T.obj _ _ L b a;exact(U b a o e).2
   cases b with
   |false=>
    simp only[eB,lC]at Y⊢;exact θ I9 Y
   |true=>
    simp only[rb]at Y⊢;refine af9 (pe _ s9 σ8 H9 _ I9 Y) λz s10 ⟨yv,H10,I10,r10,acc,axz,awk,nx⟩=>?_
    exact apG (X:=X.Zx s3 d scope ce fp) I10 axz awk r10 λs11 I11=>θ I11 nx
 exact codeAny_compStart_list l (T.self X.A 0 _ _ _ ą l)
def ars (U:X.calm=true) (Y:X.N.Nodup) (hi:PI X tg iter wi) (ok:acC X.N X.env.scope scope own)
 (G:∀(s:aJ) (H:Hp) (C:ag) (cl:List (Str×ag)) (fp:List ag),PG (X.Zx s H scope (compEnvC scope cl C X.env) fp) tg g) (B:∀(s:aJ) (H:Hp) (C:ag) (cl:List (Str×ag)) (fp:List ag),PTs (X.Zx s H scope (compEnvC scope cl C X.env) fp) æ tt)
 (O:∀(s:aJ) (H:Hp) (C:ag) (cl:List (Str×ag)) (fp:List ag),PE (X.Zx s H scope (compEnvC scope cl C X.env) fp) À te) (F:∀x,foldedSetIterable iter X.env x=pure x:=by intro _;rfl):
 PE X (.ListComp À [⟨tg,iter,æ,0⟩] scope pos) (tLc wi g tt te (own.map (·.2))):=by
 intro a s L H Q I h;rw[eval_ListComp];refine al8 U Y I hi ok G B O F h λD C i m J E q j f=>⟨m,j,λM d=>?_⟩
 obtain⟨z,y,P,u,p,n⟩:=f;exact⟨.ref D,J,E.turned (t':=i.toks) (λb o l e=>(d.2 b l).trans e) z y u p n,rfl,q⟩
def aiZ {vs:List Nat} {D:ag} {O:Hp->Prop} (Pv:Nat->Hp->Prop) (Y:Pv 0 (bB H1 D (.lst [])))
 (U:∀i H,i<n->Pv i H->g (.int (lo+i)) (wipe σ vs) H fun f I=>wipe f vs=wipe σ vs/\tt f I λb F=>
  if b=true then te f F λy B=>∃acc,B D=some (.lst acc)/\acc.length<sizeLine/\Pv (i+1) (bB B D (.lst (acc++[y])))else Pv (i+1) F) (hd:∀H,Pv n H->O H):
 ∃W:Nat->Nat->Hp->Prop,(∃m,W 0 m (bB H1 D (.lst [])))/\∀i m H,W i m H->
  ((Itr lo n).stop i H/\O H)\/((Itr lo n).go i H/\∃G:Hp->Prop,(∀q,G q->∃m',m'<m/\W (i+1) m' q)/\∀x q,(Itr lo n).yld i H x q->g x (wipe σ vs) q fun f I=>wipe f vs=wipe σ vs/\tt f I λb F=>
    if b=true then te f F λy B=>∃acc,B D=some (.lst acc)/\acc.length<sizeLine/\G (bB B D (.lst (acc++[y])))else G F):=by
 refine⟨λi m H=>m=n - i/\i<=n/\Pv i H,⟨n,by simp,eI _,Y⟩,?_⟩
 rintro i m H ⟨rfl,h,p⟩
 by_cases a:i<n
 ·refine .inr ⟨a,Pv (i+1),λq d=>⟨n - (i+1),by omega,rfl,a,d⟩,λx q y=>?_⟩;obtain⟨e,y⟩:=y;subst e y;exact U i _ a p
 ·have e:i=n:=by omega
  subst e;exact .inl ⟨aS _,hd H p⟩
def al7 {vs:List Nat} {D:ag} {U:Hp->Prop} (Pv:Nat->Hp->Prop) (h0:Pv 0 (bB H1 D (.lst []))) (Z:∀i H,i<=xs.length->Pv i H->dv K H a xs)
 (Y:∀i x H,xs[i]? =some x->Pv i H->g x (wipe σ vs) H fun f O=>wipe f vs=wipe σ vs/\tt f O λb G=>
  if b=true then te f G λy F=>∃acc,F D=some (.lst acc)/\acc.length<sizeLine/\Pv (i+1) (bB F D (.lst (acc++[y])))else Pv (i+1) G) (hd:∀H,Pv xs.length H->U H):
 ∃W:Nat->Nat->Hp->Prop,(∃m,W 0 m (bB H1 D (.lst [])))/\∀i m H,W i m H->
  ((Itl K a).stop i H/\U H)\/((Itl K a).go i H/\∃I:Hp->Prop,(∀B,I B->∃m',m'<m/\W (i+1) m' B)/\∀x B,(Itl K a).yld i H x B->g x (wipe σ vs) B fun f O=>wipe f vs=wipe σ vs/\tt f O λb G=>
    if b=true then te f G λy F=>∃acc,F D=some (.lst acc)/\acc.length<sizeLine/\I (bB F D (.lst (acc++[y])))else I G):=by
 refine⟨λi m H=>m=xs.length - i/\i<=xs.length/\Pv i H,⟨xs.length,by simp,eI _,h0⟩,?_⟩
 rintro i m H ⟨rfl,j,p⟩
 have q:=Z i H j p;by_cases d:i<xs.length
 ·refine .inr ⟨⟨xs,xs[i],q,by simp[d]⟩,Pv (i+1),λB h=>⟨xs.length - (i+1),by omega,rfl,d,h⟩,λx B y=>?_⟩;obtain⟨e,y⟩:=y;subst e;exact Y i x _ (y xs q) p
 ·have e:i=xs.length:=by omega
  subst e;exact .inl ⟨⟨xs,q,aS _⟩,hd H p⟩
def aoK {vs:List Nat} {D:ag} {U:Hp->Prop} (Pv:Nat->Hp->Prop) (h0:Pv 0 (bB H1 D (.lst []))) (Z:∀i H,i<=xs.length->Pv i H->gL K H a xs)
 (Y:∀i x H,xs[i]? =some x->Pv i H->g x (wipe σ vs) H fun f O=>wipe f vs=wipe σ vs/\tt f O λb G=>
  if b=true then te f G λy F=>∃acc,F D=some (.lst acc)/\acc.length<sizeLine/\Pv (i+1) (bB F D (.lst (acc++[y])))else Pv (i+1) G) (hd:∀H,Pv xs.length H->U H):
 ∃W:Nat->Nat->Hp->Prop,(∃m,W 0 m (bB H1 D (.lst [])))/\∀i m H,W i m H->
  ((Itt K a).stop i H/\U H)\/((Itt K a).go i H/\∃I:Hp->Prop,(∀B,I B->∃m',m'<m/\W (i+1) m' B)/\∀x B,(Itt K a).yld i H x B->g x (wipe σ vs) B fun f O=>wipe f vs=wipe σ vs/\tt f O λb G=>
    if b=true then te f G λy F=>∃acc,F D=some (.lst acc)/\acc.length<sizeLine/\I (bB F D (.lst (acc++[y])))else I G):=by
 refine⟨λi m H=>m=xs.length - i/\i<=xs.length/\Pv i H,⟨xs.length,by simp,eI _,h0⟩,?_⟩
 rintro i m H ⟨rfl,j,p⟩
 have q:=Z i H j p;by_cases d:i<xs.length
 ·refine .inr ⟨⟨xs,xs[i],q,by simp[d]⟩,Pv (i+1),λB h=>⟨xs.length - (i+1),by omega,rfl,d,h⟩,λx B y=>?_⟩;obtain⟨e,y⟩:=y;subst e;exact Y i x _ (y xs q) p
 ·have e:i=xs.length:=by omega
  subst e;exact .inl ⟨⟨xs,q,aS _⟩,hd H p⟩
def as8 (N:List Str) (q f:Scope) (own:List (Str×Nat)):Bool:=
 (match f.kind with|.function=>true|_=>false)&&(f.names.all λy=>decide (f.names.lookup y.1=some y.2))&&(own.all λp=>decide (N[p.2]? =some p.1))&&
  (f.names.all λy=>match y.2 with
   |.free=>(match q.names.lookup y.1 with|some .cell=>true|some .free=>true|_=>false)
   |.local=>decide (y.1∈own.map (·.1))||decide (y.1∉N)
   |.cell=>decide (y.1∈own.map (·.1))||decide (y.1∉N)
   |_=>true)
def jq (h:as8 N sc scope own=true):acC N sc scope own:=by
 unfold as8 at h;simp only[aC,eA,aX]at h;obtain⟨⟨⟨d,i⟩,g⟩,b⟩:=h;refine⟨?_,i,g,λy a e=>?_,λy a e=>?_⟩
 ·split at d
  ·assumption
  ·cases d
 ·have q:=b y a;simp only[e]at q;split at q<;>first|exact .inl (by assumption)|exact .inr (by assumption)|cases q
 ·have q:=b y a;rcases e with e|e<;>(simp only[e,so,aX]at q;exact q)
section
variable {κ:Type} [DecidableEq κ]
def gF (kvs:List (κ×V)) (k:κ):Option V:=(kvs.find? λa=>decide (a.1=k)).map (·.2)
def putK (kvs:List (κ×V)) (k:κ) (v:V):List (κ×V):=
 if(kvs.any λa=>decide (a.1=k))=true then kvs.map (λa=>if a.1=k then(a.1,v)else a)else kvs++[(k,v)]
def qJ (kvs:List (κ×V)) (k:κ):List (κ×V):=kvs.filter λa=>decide (a.1≠k)
def LL {p:κ×V} {r:List (κ×V)} (e:p.1=k):gF (p::r) k=some p.2:=by simp[gF,fT,e]
def LM {p:κ×V} {r:List (κ×V)} (e:¬p.1=k):gF (p::r) k=gF r k:=by simp[gF,fT,e]
theorem LN (k:κ):∀kvs:List (κ×V),(kvs.any λf=>decide (f.1=k))=(gF kvs k).isSome
 |[]=>rfl
 |p::r=>by
  rw[xX];by_cases e:p.1=k
  ·simp only[LL e,aD e,afZ,ahD]
  ·rw[LM e,ba e,EO];exact LN k r
def PV (kvs:List (κ×V)) (k:κ) (v:V):(putK kvs k v).length<=kvs.length+1:=by
 unfold putK;split
 ·rw[ae];omega
 ·rw[aI,ak,gu];omega
def ait {kvs:List (κ×V)} (v:V) (h:gF kvs k=none):putK kvs k v=kvs++[(k,v)]:=by
 unfold putK;rw[LN,h];exact au (by decide)
def Co.AB {u:Option Value} (r:Co o u):o.isSome=u.isSome:=by
 cases o with
 |none=>cases u with
  |none=>rfl
  |some _=>exact(show False from r).elim
 |some _=>cases u with
  |none=>exact(show False from r).elim
  |some _=>rfl
def Co.getD {u:Option Value} {d:V} {d':Value} (r:Co o u) (rd:RelV d d'):RelV (o.getD d) (u.getD d'):=by
 cases o with
 |none=>cases u with
  |none=>exact rd
  |some _=>exact(show False from r).elim
 |some _=>cases u with
  |none=>exact(show False from r).elim
  |some _=>exact r
def KV.val {kvs:List (κ×V)} {vs:List (κ×Value)} (r:KV kvs vs) (k:κ):Co (gF kvs k) (valueAt vs k):=by
 unfold KV at r
 induction r with
 |nil=>exact uF
 | @cons p q l a h t i=>
   obtain⟨g,j⟩:=h;by_cases e:p.1=k
   ·have d:q.1=k:=g.symm.trans e;have b:valueAt (q::a) k=some q.2:=by simp[valueAt,fT,d]
    rw[LL e,b];exact j
   ·have d:¬q.1=k:=λz=>e (g.trans z)
    have b:valueAt (q::a) k=valueAt a k:=by simp[valueAt,fT,d]
    rw[LM e,b];exact i
def KV.any {kvs:List (κ×V)} {vs:List (κ×Value)} (r:KV kvs vs) (k:κ):(kvs.any λf=>decide (f.1=k))=vs.any λf=>decide (f.1=k):=by
 unfold KV at r
 induction r with
 |nil=>rfl
 |cons h t a=>rw[xX,xX,a,h.1]
def KV.aog {kvs:List (κ×V)} {vs:List (κ×Value)} (r:KV kvs vs) (k:κ) (B:RelV y u):
 KV (kvs.map λf=>if f.1=k then(f.1,y)else f) (vs.map λf=>if f.1=k then(f.1,u)else f):=by
 unfold KV at r⊢
 induction r with
 |nil=>exact .nil
 | @cons p q i g h t b=>
   rw[bW,bW];refine .cons ?_ b;obtain⟨a,d⟩:=h;by_cases e:p.1=k
   ·rw[az e,az (a.symm.trans e)];exact⟨a,B⟩
   ·rw[au e,au (λz=>e (a.trans z))];exact⟨a,d⟩
def KV.put {kvs:List (κ×V)} {vs:List (κ×Value)} (r:KV kvs vs) (k:κ) (f:RelV y u):KV (putK kvs k y) (stored vs k u):=by
 unfold putK stored;rw[r.any k];by_cases e:(vs.any λa=>decide (a.1=k))=true
 ·rw[az e,az e];exact r.aog k f
 ·rw[au e,au e];exact aqG r ⟨rfl,f⟩
def KV.drop {kvs:List (κ×V)} {vs:List (κ×Value)} (r:KV kvs vs) (k:κ):KV (qJ kvs k) (without vs k):=by
 unfold KV at r⊢;unfold qJ without
 induction r with
 |nil=>exact .nil
 | @cons p q m l h t g=>
   obtain⟨d,i⟩:=h;rw[cQ,cQ];by_cases e:p.1=k
   ·have a:¬decide (p.1≠k)=true:=by simp[e]
    have b:¬decide (q.1≠k)=true:=by simp[d.symm.trans e]
    rw[au a,au b];exact g
   ·have j:¬q.1=k:=λz=>e (d.trans z)
    have a:decide (p.1≠k)=true:=by simp[e]
    have b:decide (q.1≠k)=true:=by simp[j]
    rw[az a,az b];exact .cons ⟨d,i⟩ g
def KV.length {kvs:List (κ×V)} {vs:List (κ×Value)} (r:KV kvs vs):kvs.length=vs.length:=fX r
def Uj (kvs:List (κ×V)) (k:κ):(qJ kvs k).length<=kvs.length:=cN _ _
end
def TM (r:RelV (kV k) u):(fG P w).is k u=true:=by
 cases k with
 |inl i=>obtain⟨t,e⟩:=(show ∃t,u=oX i t from r);subst e;exact abk P w i t
 |inr x=>obtain⟨t,e⟩:=(show ∃t,u=Wh x t from r);subst e;exact abj P w x t
theorem W3 {P:kE} {w:World}:∀{f:List Key} {us:List Value},Vals (f.map kV) us->ItemsAre (fG P w) f us
 |[],_,r=>by rw[lD]at r;cases r;exact .nil
 |k::f,_,r=>by
  rw[bW]at r;cases r with
  |cons h t=>exact .cons (TM h) (W3 t)
abbrev KT (H:Hp):List (List Key×V)->List (List Key×ag×Value)->Prop:=Paired λp q=>p.1=q.1/\H q.2.1=some (.tup (p.1.map kV))/\RelV p.2 q.2.2
def KT.val {kvs:List (List Key×V)} {xs:List (List Key×ag×Value)} (r:KT H kvs xs) (k:List Key):Co (gF kvs k) ((atKey xs k).map (·.2)):=by
 induction r with
 |nil=>exact uF
 | @cons p q l a h t i=>
   obtain⟨g,_,j⟩:=h;by_cases e:p.1=k
   ·have d:q.1=k:=g.symm.trans e;have b:atKey (q::a) k=some q.2:=by simp[atKey,fT,d]
    rw[LL e,b];exact j
   ·have d:¬q.1=k:=λz=>e (g.trans z)
    have b:atKey (q::a) k=atKey a k:=by simp[atKey,fT,d]
    rw[LM e,b];exact i
def KT.aog {kvs:List (List Key×V)} {xs:List (List Key×ag×Value)} (r:KT H kvs xs) (k:List Key) (B:RelV y u):
 KT H (kvs.map λf=>if f.1=k then(f.1,y)else f) (xs.map (putAt k u)):=by
 induction r with
 |nil=>exact .nil
 | @cons p q j i h t d=>
   rw[bW,bW];refine .cons ?_ d;obtain⟨a,b,g⟩:=h;unfold putAt;by_cases e:p.1=k
   ·rw[az e,az (a.symm.trans e)];exact⟨a,b,B⟩
   ·rw[au e,au (λz=>e (a.trans z))];exact⟨a,b,g⟩
def KT.put {kvs:List (List Key×V)} {xs:List (List Key×ag×Value)} (r:KT H kvs xs) (k:List Key) {b:ag} (B:H b=some (.tup (k.map kV))) (f:RelV y u):
 KT H (putK kvs k y) (storedH xs k b u):=by
 have e:(kvs.any λa=>decide (a.1=k))=(atKey xs k).isSome:=by
  rw[LN,(r.val k).AB,QH]
 unfold putK storedH;rw[e];by_cases q:(atKey xs k).isSome=true
 ·rw[az q,az q];exact r.aog k f
 ·rw[au q,au q];exact aqG r ⟨rfl,B,f⟩
def KT.keeps {kvs:List (List Key×V)} {xs:List (List Key×ag×Value)} (r:KT H kvs xs) (f:∀b ys,H b=some (.tup ys)->H' b=some (.tup ys)):KT H' kvs xs:=
 Paired.Rh r λ_ _ z=>⟨z.1,f _ _ z.2.1,z.2.2⟩
def am7 {u:HO} (ok:EH P w H h) (e:Rd H a u):js P w H h a u:=e.ok ok
def Qb {kvs:List (Key×V)} (ok:EH P w H h) (e:Rd H a (.dK kvs)):kvs.length<=sizeLine/\(a==sysModules)=false/\∃vs,KV kvs vs/\h.DictOf (fG P w) a vs:=
 show js P w H h a (.dK kvs)from am7 ok e
def afE {kvs:List (Key×V)} (ok:EH P w H h) (e:H a=some (.dK kvs)):kvs.length<=sizeLine/\(a==sysModules)=false/\∃vs,KV kvs vs/\h.DictOf (fG P w) a vs:=Qb ok (.inl e)
def FX (ok:EH P w H h) (e:H a=some (.tup (f.map kV))):(tupleKind (fG P w)).is h f a:=by
 obtain⟨_,i,r,o,g,d,n,b⟩:=(show js P w H h a (.tup (f.map kV))from ok a _ e);exact⟨o,i.toArray,n,g,d,b,by simpa using W3 r⟩
def Ui {kvs:List (List Key×V)} (ok:EH P w H h) (e:Rd H a (.dT kvs)):kvs.length<=sizeLine/\(a==sysModules)=false/\
 ∃xs,KT H kvs xs/\h.DictOfH (tupleKind (fG P w)) a xs:=by
 obtain⟨z,y,xs,r,o,C,D,u,s,n,j,i⟩:=(show js P w H h a (.dT kvs)from am7 ok e);refine⟨z,y,xs,r,o,C,D,u,s,n,j,λx b=>?_,i⟩
 have all:∀{l:List (List Key×V)} {m:List (List Key×ag×Value)},KT H l m->∀x∈m,(tupleKind (fG P w)).is h x.1 x.2.1:=by
  intro l m q
  induction q with
  |nil=>intro x b;exact nomatch b
  | @cons p q J E d t g=>
    intro x b;rcases aY.mp b with e|b
    ·subst e;exact FX ok (by rw[<-d.1];exact d.2.1)
    ·exact g x b
 exact all r x b
def abV {kvs:List (List Key×V)} (ok:EH P w H h) (e:H a=some (.dT kvs)):kvs.length<=sizeLine/\(a==sysModules)=false/\
 ∃xs,KT H kvs xs/\h.DictOfH (tupleKind (fG P w)) a xs:=Ui ok (.inl e)
def jt (H:Hp) (a:ag) (y:V) (r:Option V):Prop:=
 (∃kvs k,Rd H a (.dK kvs)/\y=kV k/\r=gF kvs k)\/∃kvs k b,Rd H a (.dT kvs)/\y=.ref b/\H b=some (.tup (k.map kV))/\r=gF kvs k
def Ey (H:Hp) (a:ag) (y v:V) (f:Hp):Prop:=
 (∃kvs k,H a=some (.dK kvs)/\y=kV k/\kvs.length<sizeLine/\f=bB H a (.dK (putK kvs k v)))\/
 ∃kvs k b,H a=some (.dT kvs)/\y=.ref b/\H b=some (.tup (k.map kV))/\kvs.length<sizeLine/\f=bB H a (.dT (putK kvs k v))
def jt.k {H:Hp} {a:ag} {kvs:List (Key×V)} {k:Key} (e:H a=some (.dK kvs)):jt H a (kV k) (gF kvs k):=.inl ⟨kvs,k,.inl e,rfl,rfl⟩
def jt.t {H:Hp} {a b:ag} {kvs:List (List Key×V)} {k:List Key} (e:H a=some (.dT kvs)) (f:H b=some (.tup (k.map kV))):jt H a (.ref b) (gF kvs k):=.inr ⟨kvs,k,b,.inl e,rfl,f,rfl⟩
def Ey.k {kvs:List (Key×V)} {k:Key} {v:V} (e:H a=some (.dK kvs)) (f:kvs.length<sizeLine):Ey H a (kV k) v (bB H a (.dK (putK kvs k v))):=.inl ⟨kvs,k,e,rfl,f,rfl⟩
def Ey.t {b:ag} {kvs:List (List Key×V)} {k:List Key} {v:V} (e:H a=some (.dT kvs)) (q:H b=some (.tup (k.map kV))) (f:kvs.length<sizeLine):
 Ey H a (.ref b) v (bB H a (.dT (putK kvs k v))):=.inr ⟨kvs,k,b,e,rfl,q,f,rfl⟩
def Inv.big (I:Inv X pins σ H s):sysModules<s.heap.objs.size:=by
 have h:mainGlobals<s.heap.objs.size:=(I.mod.glob.keeps I.bk).lt;exact Nat.lt_trans (by decide) h
def ahc {E:Value->aJ->Prop} {Q:Value->aJ->Prop} (F:A.units+1<cLine) (I:Inv X pins σ H s) (g:jt H a y (some v)) (B:RelV y u) (h:∀f q,Inv X pins σ H q->RelV v f->Q f q):
 wpAny (model X.prog X.w) A (getItem (.ref a) u) Q E s:=by
 rcases g with⟨d,k,e,j,l⟩|⟨d,k,b,e,j,L,l⟩
 ·subst j;obtain⟨z,hd,D,rel,m⟩:=Qb I.eR e;obtain⟨f,i,n⟩:=Co.some_of (v:=v) (o:=valueAt D k) (by rw[l];exact rel.val k);exact wpAny_getItem_of (TM B) m.mapOf i (h f _ (I.tok _) n)
 ·subst j;cases(show u=bw b from B);obtain⟨z,hd,C,rel,m⟩:=Ui I.eR e;obtain⟨f,i,n⟩:=Co.some_of (v:=v) (o:=(atKey C k).map (·.2)) (by rw[l];exact rel.val k);obtain⟨p,J,x⟩:=acJ.mp i;refine wpAny_getItem_heap (kC F) (FX I.eR L) m J ?_;rw[x];exact h f _ (I.tok _) n
def axX {E:Value->aJ->Prop} {Q:Value->aJ->Prop} (F:A.units+1<cLine) (I:Inv X pins σ H s) (g:jt H a y o) (B:RelV y u) (h:∀f,Inv X pins σ H f->Q (.bool o.isSome) f):
 wpAny (model X.prog X.w) A (compareOp .In u (.ref a)) Q E s:=by
 rcases g with⟨d,k,e,i,l⟩|⟨d,k,b,e,i,m,l⟩
 ·subst i;obtain⟨z,hd,p,rel,j⟩:=Qb I.eR e;refine wpAny_in_of (TM B) hd j.mapOf ?_;rw[<-(rel.val k).AB,<-l];exact h _ (I.tok _)
 ·subst i;cases(show u=bw b from B);obtain⟨z,hd,n,rel,j⟩:=Ui I.eR e;refine wpAny_in_heap (kC F) (FX I.eR m) hd j ?_;have q:=(rel.val k).AB;rw[QH]at q;rw[<-q,<-l];exact h _ (I.tok _)
def amA {E:Value->aJ->Prop} {Q:Value->aJ->Prop} (F:A.units+1<cLine) (I:Inv X pins σ H s) (g:jt H a y o) (B:RelV y u) (h:∀f,Inv X pins σ H f->Q (.bool (!o.isSome)) f):
 wpAny (model X.prog X.w) A (compareOp .NotIn u (.ref a)) Q E s:=by
 rcases g with⟨d,k,e,i,l⟩|⟨d,k,b,e,i,m,l⟩
 ·subst i;obtain⟨z,hd,p,rel,j⟩:=Qb I.eR e;refine wpAny_notIn_of (TM B) hd j.mapOf ?_;rw[<-(rel.val k).AB,<-l];exact h _ (I.tok _)
 ·subst i;cases(show u=bw b from B);obtain⟨z,hd,n,rel,j⟩:=Ui I.eR e;refine wpAny_notIn_heap (kC F) (FX I.eR m) hd j ?_;have q:=(rel.val k).AB;rw[QH]at q;rw[<-q,<-l];exact h _ (I.tok _)
def M8 (I:Inv X pins σ H s) (f:Mut (H a)) (B:hZ a s.heap h') (F:∃q,h'.get? a=some q) (new:js X.prog X.w (bB H a ob) h' a ob):
 Inv X pins σ (bB H a ob) {s with heap:=h',toks:=t'}:=
 I.write (x:=a) (e:=a) f (.inl rfl) (λb q d z=>(B.2 b d).trans z) F new
def ajJ {kvs:List (Key×V)} {vs:List (Key×Value)} (z:kvs.length<=sizeLine) (hd:(a==sysModules)=false) (rel:KV kvs vs) (dd:h'.DictOf (fG P w) a vs):
 js P w H' h' a (.dK kvs):=⟨z,hd,vs,rel,dd⟩
def ahb {E:Value->aJ->Prop} {Q:Unit->aJ->Prop} (G:A.units+1<cLine) (I:Inv X pins σ H s) (g:Ey H a y v H') (B:RelV y u) (F:RelV v r) (h:∀f,Inv X pins σ H' f->Q () f):
 wpAny (model X.prog X.w) A (setItem (.ref a) u r) Q E s:=by
 rcases g with⟨d,k,e,p,l,x⟩|⟨d,k,b,e,p,L,l,x⟩
 ·subst p x;obtain⟨z,hd,P,rel,C⟩:=afE I.eR e;have m:P.length<=sizeLine:=by rw[<-rel.length];exact z
  have o:(putK d k v).length<=sizeLine:=by have:=PV d k v;omega
  refine wpAny_setItem_pairs (hsz:=m) (TM B) C λD i n=>h _ ?_
  have S:∃q,D.get? a=some q:=let⟨q,_,_,j,_⟩:=i;⟨q,j⟩
  exact M8 I (by rw[e];exact uF) n S (ajJ o hd (rel.put k F) i)
 ·subst p x;cases(show u=bw b from B);obtain⟨z,hd,M,rel,C⟩:=abV I.eR e;have m:M.length<=sizeLine:=by rw[<-fX rel];exact z
  have o:(putK d k v).length<=sizeLine:=by have:=PV d k v;omega
  refine wpAny_setItem_heap (hsz:=m) (kC G) (FX I.eR L) C λD i n=>h _ ?_
  obtain⟨q,Z,ep,j,Y,U,O,_,T⟩:=i;refine M8 I (by rw[e];exact uF) n ⟨q,j⟩ ⟨o,hd,_,(rel.put k L F).keeps λc ys J=>?_,q,Z,ep,j,Y,U,O,T⟩;rw[aw (C1 J e (λz=>nomatch z))];exact J
def asZ {kvs:List (Key×V)} {E:Value->aJ->Prop} {Q:Value->aJ->Prop} (I:Inv X pins σ H s) (e:H a=some (.dK kvs)) (F:RelV (kV k) u) (l:gF kvs k=some v) (O:f=[]\/∃x,f=[x])
 (h:∀B G,Inv X pins σ (bB H a (.dK (qJ kvs k))) G->RelV v B->Q B G):wpAny (model X.prog X.w) A (call (.builtin "dict.pop") (.ref a::u::f)) Q E s:=by
 obtain⟨z,hd,d,rel,g⟩:=afE I.eR e;obtain⟨B,j,J⟩:=Co.some_of (v:=v) (o:=valueAt d k) (by rw[<-l];exact rel.val k)
 have p:(keyPart u).isSome=true:=by
  cases k with
  |inl i=>obtain⟨t,q⟩:=(show ∃t,u=oX i t from F);subst q;rfl
  |inr x=>obtain⟨t,q⟩:=(show ∃t,u=Wh x t from F);subst q;rfl
 have C:argsOk "dict.pop" ⟨.ref a::u::f,[]⟩:=by
  rcases O with q|⟨x,q⟩
  ·subst q;exact Z2 _ _
  ·subst q;exact Z1 _ _ _
 refine EI jU g.typeIs EA C (meets_dict_pop_there (fG X.prog X.w) a (TM F) f O p)
  ⟨d,B,g,by rw[<-rel.length];exact z,j,λD b m=>h B _ ?_ J⟩
 have y:∃q,D.get? a=some q:=let⟨q,_,_,n,_⟩:=b;⟨q,n⟩
 exact M8 I (by rw[e];exact uF) m y (ajJ (b9 (Uj kvs k) z) hd (rel.drop k) b)
def as0 {kvs:List (Key×V)} {E:Value->aJ->Prop} {Q:Value->aJ->Prop} (I:Inv X pins σ H s) (e:Rd H a (.dK kvs)) (h:∀t f,Inv X pins σ H f->Q (.int kvs.length t) f):wpAny (model X.prog X.w) A (call (.builtin "len") [.ref a]) Q E s:=by
 obtain⟨z,hd,d,rel,b⟩:=Qb I.eR e;refine call_len_dict hd b (by rw[<-rel.length];rw[Lv]at z;omega) ?_;rw[<-rel.length];exact h _ _ (I.tok _)
def atg (i:Expr):Prop:=∀ov a,subscripted i false ov a=operate [ov,a] (getItem ov a)
def alb {E:Value->aJ->Prop} {id:String} {Q:Value->aJ->Prop}
 (F:typeLookup (.type T) "__getitem__"=pure (some (.builtin id))) (B:atg q)
 (h:wpAny (model prog w) A (eval value env) (λo f=>wpAny (model prog w) A (eval q env) (λi s₂=>s₂.TypeIs o T/\wpAny (model prog w) A (getItem o i) Q E s₂) E f) E s):
 wpAny (model prog w) A (eval (.Subscript value q pos) env) Q E s:=by
 refine atw (jT h (λo f g=>jT g (λi s₂ b=>?_) λ_ _ x=>x) λ_ _ x=>x);obtain⟨e,b⟩:=b;unfold subscriptTail;refine af ?_;rw[getitemInPython_of_ne e.not_modules];refine af (wpAny_specialOf e F ?_)
 have a:wpAny (model prog w) A (subscripted q false o i) (λr d=>wpAny (model prog w) A (letTemporaryGo value o r>>= λ_=>pure r) Q E d) E s₂:=by
  rw[B o i];exact wpAny_operating (jT b (λr d j=>af (wpAny_letTemporaryGo (aN j))) λ_ _ x=>x)
 first
  |exact aN (af a)
  |exact af (aN (af a))
  |exact af a
def abW (I:Inv X pins σ H s) (g:jt H a y o):s.TypeIs (.ref a) "dict":=by
 rcases g with⟨d,k,e,_,_⟩|⟨d,k,b,e,_,_,_⟩
 ·obtain⟨_,_,j,_,h⟩:=Qb I.eR e;exact h.typeIs
 ·obtain⟨_,_,i,_,h⟩:=Ui I.eR e;exact h.typeIs
def aqY (f ty:TE):TE:=fun σ H Q=>f σ H λx H1=>ty σ H1 λy H2=>∃a v,x=.ref a/\jt H2 a y (some v)/\Q v H2
def avE (ty f:TE):TE:=fun σ H Q=>ty σ H λy H1=>f σ H1 λx H2=>∃a o,x=.ref a/\jt H2 a y o/\Q (.bl o.isSome) H2
def ak7 (ty f:TE):TE:=fun σ H Q=>ty σ H λy H1=>f σ H1 λx H2=>∃a o,x=.ref a/\jt H2 a y o/\Q (.bl (!o.isSome)) H2
def arc (q ty f:TE):TS:=λD σ H=>f σ H λv H1=>q σ H1 λx H2=>ty σ H2 λy b=>∃a H4,x=.ref a/\Ey b a y v H4/\D.nx σ H4
def l4 {i:Expr} (f:X.A.units+1<cLine) (B:PE X o td) (hi:PE X i ty) (q:atg i):PE X (.Subscript o i pos) (aqY td ty):=by
 intro b s d H Q I h;refine alb PySem.F.slot_dict_getitem.lookup q (gn (B b s d H _ I h) λu j ⟨x,J,D,m,p⟩=>gn (hi b j d J _ D p) λS P ⟨y,E,e,l,a,v,ex,g,n⟩=>?_);subst ex;obtain rfl:u=bw a:=m;exact⟨abW e g,ahc f e g l λL M C z=>⟨v,E,C,z,n⟩⟩
def aiB {i:Expr} (f:X.A.units+1<cLine) (hi:PE X i ty) (q:PE X o td):PC X .In i o (avE ty td):=by
 intro b s d H Q I h;refine gn (hi b s d H _ I h) λP e ⟨y,J,D,j,n⟩=>gn (q b e d J _ D n) λu M ⟨x,E,C,l,a,p,ex,g,m⟩=>?_
 subst ex;obtain rfl:u=bw a:=l;exact axX f C g j λL z=>⟨.bl p.isSome,E,z,rfl,m⟩
def Af {i:Expr} (f:X.A.units+1<cLine) (hi:PE X i ty) (q:PE X o td):PC X .NotIn i o (ak7 ty td):=by
 intro b s d H Q I h;refine gn (hi b s d H _ I h) λP e ⟨y,J,D,j,n⟩=>gn (q b e d J _ D n) λu M ⟨x,E,C,l,a,p,ex,g,m⟩=>?_
 subst ex;obtain rfl:u=bw a:=l;exact amA f C g j λL z=>⟨.bl (!p.isSome),E,z,rfl,m⟩
def vN {i:Expr} (q:X.A.units+1<cLine) (F:PE X o td) (hi:PE X i ty) (f:PE X value tv) (B:swapsWith value (some (.Subscript o i pos')) pos.line X.env=pure false):
 PS X (.Assign [.Subscript o i pos'] value pos) (arc td ty tv):=by
 intro b s d H D I h;refine wpAny_Assign_Subscript (gn (f b s d H _ I h) λr j ⟨v,S,M,n,C⟩=>gn (F b j d S _ M C) λu e ⟨x,Q,L,m,z⟩=>gn (hi b e d Q _ L z) λO G ⟨y,U,J,l,a,P,ex,g,p⟩=>?_) B;subst ex;obtain rfl:u=bw a:=m;exact ahb q J g l n λT E=>⟨d,P,E,p⟩
def ajK (h:Heap) (f:sysModules<h.objs.size):js P w H (h.push {cls:=.type "dict",data:=.dict #[]}) h.objs.size (.dK []):=
 ⟨eI _,nA.mpr (DD (dX f)),[],.nil,ayB h⟩
def ajH (h:Heap) (f:sysModules<h.objs.size):js P w H (h.push {cls:=.type "dict",data:=.dict #[]}) h.objs.size (.dT []):=
 ⟨eI _,nA.mpr (DD (dX f)),[],.nil,_,#[],0,bf _ rfl,⟨rfl,rfl,rfl⟩,rfl,rfl,List.nodup_nil⟩
def an5:TE:=λ_ H Q=>∀p,H p=none->Q (.ref p) (bB H p (.dK []))
def an4:TE:=λ_ H Q=>∀p,H p=none->Q (.ref p) (bB H p (.dT []))
def Fp:PE X (.Dict [] [] pos) an5:=λb s d H Q I h=>
 auS ⟨.ref s.heap.objs.size,_,I.laid (a:=s.heap.objs.size) (o:=.dK []) (t':=s.toks) (λ_ _ q=>aB _ q) (aS _) (ajK s.heap I.big),rfl,h _ (I.eR.fresh (aS _))⟩
def Fo:PE X (.Dict [] [] pos) an4:=λb s d H Q I h=>
 auS ⟨.ref s.heap.objs.size,_,I.laid (a:=s.heap.objs.size) (o:=.dT []) (t':=s.toks) (λ_ _ q=>aB _ q) (aS _) (ajH s.heap I.big),rfl,h _ (I.eR.fresh (aS _))⟩
structure M1 (X:Cx) (o:Expr) (m:Str) (apos:Pos) (e:Expr) (iA:Pos):Prop where
 base:attributeBase o m X.env (eval o X.env)=eval o X.env
 Zl:((backTo iA (starEach [e] X.env)).all (λx=> !x.1)&&(backToKw iA (keywordEach [] X.env)).all (λx=>x.1.isSome)
  &&decide (([e]:List Expr).length+([]:List Keyword).length+(if([]:List Keyword).isEmpty then 0 else 1)<30))=true
 line:(apos.endLine==iA.line)=true
 trees:backTo iA (starEach [e] X.env)=[(false,eval e X.env)]
structure M2 (X:Cx) (o:Expr) (m:Str) (apos:Pos) (e f:Expr) (iA:Pos):Prop where
 base:attributeBase o m X.env (eval o X.env)=eval o X.env
 Zl:((backTo iA (starEach [e,f] X.env)).all (λx=> !x.1)&&(backToKw iA (keywordEach [] X.env)).all (λx=>x.1.isSome)
  &&decide (([e,f]:List Expr).length+([]:List Keyword).length+(if([]:List Keyword).isEmpty then 0 else 1)<30))=true
 line:(apos.endLine==iA.line)=true
 trees:backTo iA (starEach [e,f] X.env)=[(false,eval e X.env),(false,eval f X.env)]
def IsD (H:Hp) (a:ag):Prop:=(∃kvs,Rd H a (.dK kvs))\/∃kvs,Rd H a (.dT kvs)
def Za (I:Inv X pins σ H s) (d:IsD H a):
 s.TypeIs (.ref a) "dict"/\(∀b,bw a=.ref b->∃ob,s.heap.get? b=some ob/\ob.dict=none)/\(a==sysModules)=false:=by
 rcases d with⟨h,e⟩|⟨h,e⟩
 ·obtain⟨_,hd,m,_,g⟩:=Qb I.eR e;refine⟨g.typeIs,λb q=>?_,hd⟩;cases q;obtain⟨ob,_,_,j,i,_⟩:=g;exact⟨ob,j,i.2.1⟩
 ·obtain⟨_,hd,l,_,g⟩:=Ui I.eR e;refine⟨g.typeIs,λb q=>?_,hd⟩;cases q;obtain⟨ob,_,_,j,i,_⟩:=g;exact⟨ob,j,i.2.1⟩
def aps {E:Value->aJ->Prop} {Q:Value->aJ->Prop} (F:A.units+1<cLine) (I:Inv X pins σ H s) (g:jt H a y o) (B:RelV y u) (h:∀f q,Inv X pins σ H q->RelV (o.getD .m6) f->Q f q):
 wpAny (model X.prog X.w) A (call (.builtin "dict.get") [.ref a,u]) Q E s:=by
 rcases g with⟨i,k,e,j,l⟩|⟨i,k,b,e,j,n,l⟩
 ·subst j;obtain⟨z,hd,p,rel,d⟩:=Qb I.eR e;refine EI Hn d.typeIs aag (Z3 _ _) (meets_dict_get (fG X.prog X.w) a (TM B) hd) ⟨_,d.mapOf,h _ _ (I.tok _) ?_⟩;rw[l];exact(rel.val k).getD rfl
 ·subst j;cases(show u=bw b from B);obtain⟨z,hd,m,rel,d⟩:=Ui I.eR e;refine EI Hn d.typeIs aag (Z3 _ _) (meetsH_dict_get (tupleKind (fG X.prog X.w)) a b hd) ⟨kC F,k,m,FX I.eR n,d,h _ _ (I.tok _) ?_⟩;rw[l];exact(rel.val k).getD rfl
def an6 (f ty:TE):TE:=fun σ H Q=>f σ H λx H1=>∃a,x=.ref a/\IsD H1 a/\ty σ H1 λy H2=>∃o,jt H2 a y o/\Q (o.getD .m6) H2
def an3 (f ty:TE):TE:=fun σ H Q=>f σ H λx H1=>∃a,x=.ref a/\IsD H1 a/\ty σ H1 λy H2=>∃kvs k v,H2 a=some (.dK kvs)/\y=kV k/\gF kvs k=some v/\Q v (bB H2 a (.dK (qJ kvs k)))
def aiA (f:X.A.units+1<cLine) (q:PE X o td) (B:PE X e ty) (m:M1 X o "get" apos e iA):PE X (.Call (.Attribute o "get" apos) [e] [] iA) (an6 td ty):=by
 intro b s i H Q I h;refine lU m.base m.Zl m.line rh Hn PySem.F.type_dict_get (gn (q b s i H _ I h) λu p ⟨x,S,j,C,a,ex,d,E⟩=>?_);subst ex;obtain rfl:u=bw a:=C;obtain⟨n,l,_⟩:=Za j d;refine⟨n,l,?_⟩;rw[m.trees];refine jE rfl (kz (iX (gn (B b p i S _ j E) λY O ⟨y,P,M,z,U,g,D⟩=>kD ?_)));exact aps f M g z λT G L J=>⟨_,P,L,J,D⟩
def aiz (f:PE X o td) (q:PE X e ty) (m:M1 X o "pop" apos e iA):PE X (.Call (.Attribute o "pop" apos) [e] [] iA) (an3 td ty):=by
 intro b s g H Q I h;refine lU m.base m.Zl m.line rh jU Hm (gn (f b s g H _ I h) λu p ⟨x,B,i,C,a,ex,d,E⟩=>?_);subst ex;obtain rfl:u=bw a:=C;obtain⟨n,j,_⟩:=Za i d;refine⟨n,j,?_⟩;rw[m.trees];refine jE rfl (kz (iX (gn (q b p g B _ i E) λU O ⟨y,Y,T,z,J,k,v,M,L,l,D⟩=>kD ?_)));subst L;exact asZ T M z l (.inl rfl) λF G S P=>⟨v,_,S,P,D⟩
def Inv.akY (I:Inv X pins σ H s) (k:∀b o,b∉ch->s.heap.get? b=some o->h'.get? b=some o) (f:∀b∈ch,iC X pins H b):Inv X pins σ H {s with heap:=h',toks:=t'}:=by
 have g:∀b u,H b=some u->b∉ch:=λb u e z=>by
  have q:=(f b z).1;rw[q]at e;cases e
 refine I.step (g':=s.gens) (d':=s.drawn) (ch:=ch) (λb d=>⟨(f b d).2.2.2.1,(f b d).2.1,(f b d).2.2.2.2.1,(f b d).2.2.2.2.2⟩) (λb o _ _ a e _=>k b o a e) (λb o _ _ a e _=>⟨o.slots,k b o a e⟩)
  (λ_ _ _ _ n=>n) (λb o a e=>⟨o,k b o a e⟩) (λ_ _ e=>e) (λ_ _ _ e=>e) (λb p e=>⟨#[],by rw[e];simp⟩) (λm i=>?_) (λb u e=>?_) I.bare
 ·obtain⟨o,j,l,h,r⟩:=i;exact⟨o,j,l,k _ o (λz=>(f _ z).2.1 rfl) h,r⟩
 ·refine(I.eR b u e).QJ (λc v a q=>k c v ?_ q) (λ_ q=>q) λ_ _ q=>q
  rcases a with z|z
  ·rw[z];exact g b u e
  ·exact g c _ z
def Inv.Wv {T:ag} (I:Inv X pins σ H s) (k:∀b o,b∉ch->s.heap.get? b=some o->h'.get? b=some o) (f:∀b∈ch,iC X pins H b) (B:s.heap.objs.size<=T)
 (new:js X.prog X.w (bB H T ob) h' T ob):Inv X pins σ (bB H T ob) {s with heap:=h',toks:=t'}:=by
 have g:H T=none:=I.eR.fresh B
 have h:∀b u,H b=some u->b∉ch:=λb u e z=>by
  have q:=(f b z).1;rw[q]at e;cases e
 refine I.step (g':=s.gens) (d':=s.drawn) (ch:=ch) (λb d=>⟨(f b d).2.2.2.1,(f b d).2.1,(f b d).2.2.2.2.1,(f b d).2.2.2.2.2⟩) (λb o _ _ a e _=>k b o a e) (λb o _ _ a e _=>⟨o.slots,k b o a e⟩)
  (λb o _ e n=>?_) (λb o a e=>⟨o,k b o a e⟩) (λb i e=>?_) (λb o u e=>?_) (λb y e=>⟨#[],?_⟩) (λm l=>?_) (λb u e=>?_) I.bare
 ·rw[aw (dX (cF (bK e) B))];exact n
 ·rw[aw (bp e g)];exact e
 ·rw[aw (bp e g)];exact e
 ·rw[aw (bp e g),e];simp
 ·obtain⟨o,p,x,j,r⟩:=l;exact⟨o,p,x,k _ o (λz=>(f _ z).2.1 rfl) j,r⟩
 ·by_cases d:b=T
  ·subst d;rw[ao]at e;cases e;exact new
  ·rw[aw d]at e;refine(I.eR b u e).QJ (λc v a q=>k c v ?_ q) (λc q=>by rw[aw (bp q g)];exact q) λc i q=>by rw[aw (bp q g)];exact q
   rcases a with z|z
   ·rw[z];exact h b u e
   ·exact h c _ z
def Inv.lock {u:HO} (I:Inv X pins σ H s) (h:H d=some u) (f:Mut (some u)):∃od,Inv X pins σ (bB H d (.gb od u)) s:=by
 have x:=I.eR d u h
 have ex:∃od,s.heap.get? d=some od:=by
  cases u with
  |lst g=>obtain⟨_,_,_,_,e⟩:=x;exact⟨_,e⟩
  |dK a=>obtain⟨_,_,_,_,o,_,_,e,_⟩:=x;exact⟨o,e⟩
  |dT a=>obtain⟨_,_,_,_,o,_,_,e,_⟩:=x;exact⟨o,e⟩
  |set S n=>obtain⟨o,_,_,_,e,_⟩:=x;exact⟨o,e⟩
  |ins C dx fs=>obtain⟨_,_,_,e,_⟩:=x;exact⟨_,e⟩
  |ext i=>obtain⟨_,⟨_,e⟩,_⟩:=x;exact⟨_,e⟩
  |_=>exact gI f
 obtain⟨od,e⟩:=ex
 have new:js X.prog X.w (bB H d (.gb od u)) s.heap d (.gb od u):=by
  refine⟨e,x.QJ (λb v _ q=>q) (λb q=>?_) λb g q=>?_⟩
  ·rw[aw (λz=>by rw[z,h]at q;cases q;exact f)];exact q
  ·rw[aw (λz=>by rw[z,h]at q;cases q;exact f)];exact q
 exact⟨od,I.write (x:=d) (e:=d) (t':=s.toks) (h':=s.heap) (by rw[h];exact f) (.inl rfl) (λb v _ q=>q) ⟨od,e⟩ new⟩
def Inv.aba {u:HO} (I:Inv X pins σ H s) (h:H d=some u) (F:Mut (some u)):∀B f,X.H_0 d≠some (.gb B f):=λB f e=>by
 have q:=I.base.OV d B f e;rw[h]at q;cases q;exact F
def Inv.unlock {u:HO} (I:Inv X pins σ H s) (h:H d=some (.gb od u)) (F:∀B f,X.H_0 d≠some (.gb B f)):Inv X pins σ (bB H d u) s:=by
 have a:∀b o,H b=some o->(∀B f,o≠ .gb B f)->b≠d:=λb o e C z=>by
  rw[z,h]at e;cases e;exact C _ _ rfl
 have neN:∀b,H b=none->b≠d:=λb e z=>by rw[z,h]at e;cases e
 refine⟨I.ok,I.os,I.bare,⟨I.base.keep,I.base.slot,λb o e n j=>?_,I.base.there,λb g e=>?_,λb o x e=>?_,λb l e=>?_⟩,I.loc,I.cell,?_,λx c e=>?_,λp y=>?_,λb o e=>?_,I.len⟩
 ·rw[aw (neN b (I.base.free b o e n j))];exact I.base.free b o e n j
 ·have q:=I.base.R0 b g e;rw[aw (a b _ q (λ_ _ z=>nomatch z))];exact q
 ·have q:=I.base.OV b o x e;rw[aw (λz=>by rw[z]at e;exact F _ _ e)];exact q
 ·obtain⟨m,q⟩:=I.base.R3 b l e;exact⟨m,by rw[aw (a b _ q (λ_ _ z=>nomatch z))];exact q⟩
 ·rw[aw (neN _ I.free)];exact I.free
 ·rw[aw (neN c (I.vi x c e))];exact I.vi x c e
 ·obtain⟨e,n,r⟩:=I.pin p y;exact⟨e,by rw[aw (neN _ n)];exact n,r⟩
 ·by_cases i:b=d
  ·rw[i,ao]at e;cases e;rw[i];obtain⟨_,x⟩:=I.eR d _ h;exact x.QJ (λc v _ q=>q) (λc q=>by rw[aw (a c _ q (λ_ _ z=>nomatch z))];exact q) λc g q=>by rw[aw (a c _ q (λ_ _ z=>nomatch z))];exact q
  ·rw[aw i]at e;exact(I.eR b o e).QJ (λc v _ q=>q) (λc q=>by rw[aw (a c _ q (λ_ _ z=>nomatch z))];exact q) λc g q=>by rw[aw (a c _ q (λ_ _ z=>nomatch z))];exact q
def aeW (t:TS):TS:=λD σ H=>∃d u,H d=some u/\Mut (some u)/\∀od,t ⟨fun a H'=>H' d=some (.gb od u)/\D.nx a (bB H' d u),λv H'=>H' d=some (.gb od u)/\D.rt v (bB H' d u),fun a H'=>H' d=some (.gb od u)/\D.bk a (bB H' d u),fun a H'=>H' d=some (.gb od u)/\D.ct a (bB H' d u)⟩ σ (bB H d (.gb od u))
def aia (t:TE):TE:=fun σ H Q=>∃d u,H d=some u/\Mut (some u)/\∀od,t σ (bB H d (.gb od u)) λv H'=>H' d=some (.gb od u)/\Q v (bB H' d u)
def Hv (h:PS X st t):PS X st (aeW t):=by
 intro g s m H D I j;obtain⟨d,u,hd,i,j⟩:=j;obtain⟨n,o⟩:=I.lock hd i;refine gn (h g s m _ _ o (j n)) λf p q=>?_
 cases f with
 |next=>obtain⟨a,l,b,e,q⟩:=q;exact⟨a,_,b.unlock e (I.aba hd i),q⟩
 |brk=>obtain⟨a,l,b,e,q⟩:=q;exact⟨a,_,b.unlock e (I.aba hd i),q⟩
 |cont=>obtain⟨a,l,b,e,q⟩:=q;exact⟨a,_,b.unlock e (I.aba hd i),q⟩
 |ret v=>obtain⟨x,a,l,b,r,e,q⟩:=q;exact⟨x,a,_,b.unlock e (I.aba hd i),r,q⟩
def YC (h:PE X e t):PE X e (aia t):=by
 intro a s i H Q I b;obtain⟨d,u,hd,g,b⟩:=b;obtain⟨j,n⟩:=I.lock hd g;refine gn (h a s i _ _ n (b j)) λv o ⟨x,p,m,r,l,q⟩=>?_
 exact⟨x,_,m.unlock l (I.aba hd g),r,q⟩
def Yz {R:It->Hp->Prop} {tn:Nat->Heap->Prop} {tk:Nat} (I:Inv X pins σ H s) (o:Obj)
 (T:Turn X.prog X.w X.K tg J [s.heap.objs.size] s.heap.objs.size tn) (st:tn 0 (s.heap.push o)) (q:R J H):PIE X pins σ tg R (.ref s.heap.objs.size) {s with heap:=s.heap.push o,toks:=tk}:=by
 refine⟨s.heap.objs.size,[s.heap.objs.size],tn,J,H,rfl,I.kept λb ob e=>aB _ e,T,st,λb a=>?_,q⟩;have e:b=s.heap.objs.size:=by simpa using a
 subst e;exact I.D5 (aS _) (I.eR.fresh (aS _))
def RgC (i j c:Int) (n:Nat):Prop:=c≠0/\c.natAbs<1073741824/\Wo i j c=true/\gB i j c=n
def OS {E:Value->aJ->Prop} {es:Array DictEntry} {Q:Value->aJ->Prop} (hd:(d==sysModules)=false) (q:s.heap.get? d=some o) (G:o.ExactDict) (f:o.data=.dict es ep)
 (I:Q (.ref s.heap.objs.size) {s with heap:=s.heap.push {cls:=.type "dict_keyiterator",data:=.fields #[.ref d,.int 0 0,.int es.size 0,.int ep 0]}}):
 wpAny (model prog w) A (pyIter (.ref d)) Q E s:=by
 have B:s.TypeIs (.ref d) "dict":=⟨o,q,G.1⟩;refine IV B aqK (eW aqK B F.entry_dict_iter ?_ (F.args_dict_iter_1 _));unfold Builtin.«dict.__iter__»;refine af ?_;unfold avl;refine af (yh B ?_);show wpAny _ _ (pure (bw d)) _ _ s;refine aN ?_;show wpAny _ _ (rl d>>= _) _ _ s;unfold rl;rw[au (by rw[hd];exact bj)];refine af (aN ?_);refine af (gU q f ?_);refine af (uU q f ?_);refine af (gT (aN ⟨_,rfl,"dict_keyiterator",_,⟨_,bf _ rfl,rfl⟩,fL.lookup,?_⟩));simpa [rawInt]using I
def Jw {E:Value->aJ->Prop} {es:Array DictEntry} {Q:Option Value->aJ->Prop} (f:s.heap.IsKeyIter it d i n ep) (q:s.heap.get? d=some od) (B:od.data=.dict es ep)
 (hsz:es.size=n) (F:es[i]? =some en) (G:∀h',h'.IsKeyIter it d (i+1) n ep->hZ it s.heap h'->Q (some en.key) {s with heap:=h'}):wpAny (model prog w) A (pyNext (.ref it)) Q E s:=by
 obtain⟨o,b,h,hd⟩:=id f;unfold pyNext
 refine af (A9 (fz (name:=lK "__next__") f.typeIs fL
  (eW fL f.typeIs Z5 ?_ (XT _))))
 refine af (aN ?_);refine af ?_;refine af ?_
 first|refine af (mW f.typeIs (aN ?_))|refine af (sY f.typeIs (aN ?_))
 refine af (RU b hd ?_);have g:iy "dict_keyiterator"=false:=by decide
 simp only[g,eB,lC];show wpAny _ _ (if(bw d==fZ)=true then _ else _) _ _ s;rw[au (show ¬((bw d==fZ)=true)from bj)];refine af (aN ?_);refine af (gU q B ?_);rw[au (by rw[hsz];simp)];refine af (aN ?_);refine af (uU q B ?_);rw[au (by simp)];refine aN ?_;obtain⟨e,j⟩:=XX.mp F;simp only[show ¬((i:Int)<0)from by omega,lC,dz,j7 e];refine af ?_
 first|refine af (mW f.typeIs (aN ?_))|refine af (sY f.typeIs (aN ?_))
 refine af (amN f.typeIs ?_);show wpAny _ _ (setField (.ref it) 1 (rawInt ((i:Int)+1))>>= _) _ _ s;refine af (Hi b hd (by simp) ?_)
 have a:(s.heap.update it (atL (·.setIfInBounds 1 (rawInt ((i:Int)+1))))).IsKeyIter it d (i+1) n ep:=
  ⟨_,vL _ b (ahG (Bd hd _)),(amP ..).trans h,by rw[Bd hd];simp[rawInt]⟩
 refine af (pR ?_);refine af (amN (s:={s with heap:=s.heap.update it (atL (·.setIfInBounds 1 (rawInt ((i:Int)+1))))}) a.typeIs ?_)
 show wpAny _ _ (pure es[i].key) _ _ _;rw[j];exact aN (aN ⟨_,rfl,aN (G _ a (i4 ..))⟩)
def BQ {E:Value->aJ->Prop} {es:Array DictEntry} {Q:Option Value->aJ->Prop} (G:A.handled=none) (f:s.heap.IsKeyIter it d i n ep) (B:s.heap.get? d=some od) (F:od.data=.dict es ep)
 (hsz:es.size=n) (q:n<=i) (I:∀h',ah2 it s.heap h'->Q none {s with heap:=h'}):wpAny (model prog w) A (pyNext (.ref it)) Q E s:=by
 obtain⟨o,h,j,hd⟩:=id f;unfold pyNext
 refine af (A9 (fz (name:=lK "__next__") f.typeIs fL
  (eW fL f.typeIs Z5 ?_ (XT _))))
 refine af (aN ?_);refine af ?_;refine af ?_
 first|refine af (mW f.typeIs (aN ?_))|refine af (sY f.typeIs (aN ?_))
 refine af (RU h hd ?_);have g:iy "dict_keyiterator"=false:=by decide
 simp only[g,eB,lC];show wpAny _ _ (if(bw d==fZ)=true then _ else _) _ _ s;rw[au (show ¬((bw d==fZ)=true)from bj)];refine af (aN ?_);refine af (gU B F ?_);rw[au (by rw[hsz];simp)];refine af (aN ?_);refine af (uU B F ?_);rw[au (by simp)];refine aN ?_;have e:es.size<=i:=by rw[hsz];exact q
 simp only[show ¬((i:Int)<0)from by omega,lC,dz,ac1 e];refine af ?_
 first|refine af (mW f.typeIs (aN ?_))|refine af (sY f.typeIs (aN ?_))
 show wpAny _ _ (setField (.ref it) 0 .none>>= _) _ _ s;refine af (Hi h hd (by simp) ?_);show wpAny _ _ (newExc (.type "StopIteration") []>>= _) _ _ _;refine af ?_;simp only[newExc,newTuple];refine af (gT ?_ (by size_fits));refine af (m:=firstArgMember _ _) (apR (a:=fZ) (by first|rfl|(simp only[firstArgMember];rfl)) ?_);refine gT ?_ (by size_fits);simp only[raiseNew];refine af (akg ?_);rw[show A.in1.handled=none from G];refine af (aN (apQ ?_));refine af (acD (T:="StopIteration") (b:=true) ⟨_,bf _ rfl,rfl⟩ ahA ?_);exact aN (I _ (((i4 ..).extBut.push _).push _))
def ai1 {κ:Type} {kvs:List (κ×V)} {vs:List (κ×Value)} (h:KV kvs vs):∀{i:Nat} {k:κ} {v:V},kvs[i]? =some (k,v)->∃u,vs[i]? =some (k,u)/\RelV v u:=by
 unfold KV at h
 induction h with
 |nil=>intro i k v e;simp at e
 | @cons a b g l r t d=>
   intro i k v e;cases i with
   |zero=>
    simp only[EN,dU]at e;subst e;refine⟨b.2,?_,r.2⟩;simp only[EN];exact cK some (Wk r.1.symm rfl)
   |succ j=>
    simp only[ac0]at e⊢;exact d e
def f9 {α B:Type} {G:α->B->Prop} {f:List α} {q:List B} (h:Paired G f q):∀{i:Nat} {a:α},f[i]? =some a->∃b,q[i]? =some b/\G a b:=by
 induction h with
 |nil=>intro i a e;simp at e
 | @cons a b f q r t d=>
   intro i g e;cases i with
   |zero=>
    simp only[EN,dU]at e;subst e;exact⟨b,rfl,r⟩
   |succ j=>
    simp only[ac0]at e⊢;exact d e
def aaS (h:MQ k u=true):RelV (kV k) u:=by
 rcases jd h with⟨i,t,rfl,rfl⟩|⟨x,t,rfl,rfl⟩
 ·exact⟨t,rfl⟩
 ·exact⟨t,rfl⟩
def Inv.ag0 {kvs:List (Key×V)} (I:Inv X pins σ H s) (h:H d=some (.gb o (.dK kvs))):
 (d==sysModules)=false/\s.heap.get? d=some o/\o.ExactDict/\∃(es:Array DictEntry) (ep:Nat) (vs:List (Key×Value)),o.data=.dict es ep/\es.size=kvs.length/\KV kvs vs/\s.heap.DictAt (fG X.prog X.w) d vs ep:=by
 obtain⟨hd,z,j,vs,b,l,es,ep,g,e,a,r⟩:=I.eR d _ h;rw[hd]at g;cases g;refine⟨j,hd,e,es,ep,vs,a,?_,b,o,es,hd,e,a,r⟩;have i:=r.2.1.length;have m:kvs.length=vs.length:=fX b;rw[fP]at i;omega
def Inv.apm {X:Cx} {pins:List (ag×Obj)} {f:St} {H:Hp} {s:aJ} {d:ag} {o:Obj} {kvs:List (List Key×V)} (I:Inv X pins f H s) (h:H d=some (.gb o (.dT kvs))):
 (d==sysModules)=false/\s.heap.get? d=some o/\o.ExactDict/\∃(es:Array DictEntry) (ep:Nat),o.data=.dict es ep/\es.size=kvs.length/\
  ∀(i:Nat) (k:List Key) (v:V),kvs[i]? =some (k,v)->∃(en:DictEntry) (q:ag),es[i]? =some en/\en.key=.ref q/\H q=some (.tup (k.map kV)):=by
 obtain⟨hd,z,n,xs,a,x,es,ep,g,m,l,j,_⟩:=I.eR d _ h;rw[hd]at g;cases g;refine⟨n,hd,m,es,ep,l,?_,λi k v e=>?_⟩
 ·have C:es.size=xs.length:=oW j;have y:kvs.length=xs.length:=fX a;omega
 ·obtain⟨b,p,D,u,_⟩:=f9 a e;have q:=aqE j i;rw[p]at q;exact⟨_,b.2.1,q,rfl,u⟩
def Itk (d:ag) (o:Obj) (kvs:List (Key×V)):It:=
 ⟨λi H=>H d=some (.gb o (.dK kvs))/\i<kvs.length,λi H x H'=>H'=H/\∃k v,kvs[i]? =some (k,v)/\x=kV k,λi H=>H d=some (.gb o (.dK kvs))/\kvs.length<=i⟩
def amJ (d:ag) (o:Obj) (kvs:List (List Key×V)):It:=
 ⟨λi H=>H d=some (.gb o (.dT kvs))/\i<kvs.length,λi H x H'=>H'=H/\∃(k:List Key) (v:V) (q:ag),kvs[i]? =some (k,v)/\x=.ref q/\H q=some (.tup (k.map kV)),λi H=>H d=some (.gb o (.dT kvs))/\kvs.length<=i⟩
def Itd (d:ag) (o:Obj) (kvs:List (Key×V)):It:=
 ⟨λi H=>H d=some (.gb o (.dK kvs))/\i<kvs.length,λi H x H'=>H'=H/\∃k,kvs[i]? =some (k,x),λi H=>H d=some (.gb o (.dK kvs))/\kvs.length<=i⟩
def yR {o:Obj} {es q:Array DictEntry} {ep f:Nat} (h:o.data=.dict es ep) (h':o.data=.dict q f):q=es/\f=ep:=by
 rw[h]at h';cases h';exact⟨rfl,rfl⟩
def af7 {P:kE} {w:World} {K:ah} {tg:Expr} {d:ag} {o:Obj} {es:Array DictEntry} {ep:Nat} {kvs:List (Key×V)} (it:ag) (G:o.data=.dict es ep):Turn P w K tg (Itk d o kvs) [it] it (λi h=>h.IsKeyIter it d i kvs.length ep)where
 mem:=by simp
 obj:=λi h st b g=>by
  have e:b=it:=by simpa using g
  subst e;obtain⟨n,e,c,F⟩:=st;exact⟨n,e,λv z=>by rw[F]at z;cases z⟩
 keep:=λi h m st k=>st.at λn e=>k it (by simp) n e
 item:=by
  intro X hP D M hc i a s O H E I y st L;subst hP D M;obtain⟨hd,J⟩:=L;obtain⟨B,q,f2,f,T,S⟩:=y it (by simp);obtain⟨hs,VV,hx,N0,Μ,vs,x,l,C,Y⟩:=I.ag0 hd;obtain⟨rfl,rfl⟩:=yR G x;obtain⟨⟨k,v⟩,U⟩:∃p,kvs[i]? =some p:=⟨kvs[i],aZ J⟩;obtain⟨u,hu,ru⟩:=ai1 C U;have Z:kvs.length=vs.length:=fX C;rw[Z]at st;refine wpAny_pyNext_dict_item st Y hu λj m ū ET sb=>?_
  have I1:Inv X a O H {s with heap:=m}:=I.turned (t':=s.toks) (λb ob g e=>(sb.2 b g).trans e) B q f T S
  obtain⟨n,e,c,F⟩:=id ET;refine⟨j,rfl,Xa (s:={s with heap:=m}) e c F (by decide) ⟨kV k,H,I1,aaS (show MQ k j=true from ū),⟨rfl,k,v,U,rfl⟩,?_,λb g=>(y b g).1⟩⟩
  show m.IsKeyIter it d (i+1) kvs.length _;rw[Z];exact ET
 done:=by
  intro X hP D M hc i a s O H E I y st L;subst hP D M;obtain⟨hd,J⟩:=L;obtain⟨B,q,f2,f,T,S⟩:=y it (by simp);obtain⟨hs,VV,hx,N0,Μ,vs,x,l,C,Y⟩:=I.ag0 hd;obtain⟨rfl,rfl⟩:=yR G x;exact BQ (I.ok.hd hc) st VV x l J λm eb=>⟨rfl,I.turned (t':=s.toks) (λb ob g e=>eb b ob g e) B q f T S⟩
 self:=λA i s Q E st h=>wpAny_pyIter_keyiter st h
def ac7 {P:kE} {w:World} {K:ah} {tg:Expr} {d:ag} {o:Obj} {es:Array DictEntry} {ep:Nat} {kvs:List (List Key×V)} (it:ag) (B:o.data=.dict es ep):Turn P w K tg (amJ d o kvs) [it] it (λi h=>h.IsKeyIter it d i kvs.length ep)where
 mem:=by simp
 obj:=λi h st b j=>by
  have e:b=it:=by simpa using j
  subst e;obtain⟨m,e,c,f⟩:=st;exact⟨m,e,λv z=>by rw[f]at z;cases z⟩
 keep:=λi h u st k=>st.at λm e=>k it (by simp) m e
 item:=by
  intro X hP x D U i a s F H E I n st C;subst hP x D;obtain⟨hd,y⟩:=C;obtain⟨T,S,f2,M,L,J⟩:=n it (by simp);obtain⟨hs,VV,hx,N0,Z,l,g,O⟩:=I.apm hd;obtain⟨rfl,rfl⟩:=yR B l;obtain⟨⟨k,v⟩,G⟩:∃p,kvs[i]? =some p:=⟨kvs[i],aZ y⟩;obtain⟨en,q,Vc,ū,hq⟩:=O i k v G;refine Jw st VV l g Vc λu Y sb=>?_
  have I1:Inv X a F H {s with heap:=u}:=I.turned (t':=s.toks) (λb ob j e=>(sb.2 b j).trans e) T S M L J
  obtain⟨m,e,c,f⟩:=id Y;exact⟨en.key,rfl,Xa (s:={s with heap:=u}) e c f (by decide) ⟨.ref q,H,I1,ū,⟨rfl,k,v,q,G,rfl,hq⟩,Y,λb j=>(n b j).1⟩⟩
 done:=by
  intro X hP x D U i a s F H E I n st C;subst hP x D;obtain⟨hd,y⟩:=C;obtain⟨T,S,f2,M,L,J⟩:=n it (by simp);obtain⟨hs,VV,hx,N0,Z,l,g,O⟩:=I.apm hd;obtain⟨rfl,rfl⟩:=yR B l;exact BQ (I.ok.hd U) st VV l g y λu eb=>⟨rfl,I.turned (t':=s.toks) (λb ob j e=>eb b ob j e) T S M L J⟩
 self:=λA i s Q E st h=>by
  refine IV st.typeIs nh (eW nh st.typeIs Z6 ?_ (XU _));show wpAny _ _ (ret (.ref it)) _ _ s;exact aN ⟨_,rfl,"dict_keyiterator",_,st.typeIs,fL.lookup,h⟩
def af4 {P:kE} {w:World} {K:ah} {tg:Expr} {d:ag} {o:Obj} {es:Array DictEntry} {ep:Nat} {kvs:List (Key×V)} (it:ag) (G:o.data=.dict es ep):Turn P w K tg (Itd d o kvs) [it] it (λi h=>h.IsValIter it d i kvs.length ep)where
 mem:=by simp
 obj:=λi h st b g=>by
  have e:b=it:=by simpa using g
  subst e;obtain⟨l,e,c,F⟩:=st;exact⟨l,e,λv z=>by rw[F]at z;cases z⟩
 keep:=λi h j st k=>st.at λl e=>k it (by simp) l e
 item:=by
  intro X hP C M Z i a s O H E I x st L;subst hP C M;obtain⟨hd,Y⟩:=L;obtain⟨B,q,f2,f,T,S⟩:=x it (by simp);obtain⟨hs,VV,hx,N0,Μ,vs,y,D,m,J⟩:=I.ag0 hd;obtain⟨rfl,rfl⟩:=yR G y;obtain⟨⟨k,v⟩,U⟩:∃p,kvs[i]? =some p:=⟨kvs[i],aZ Y⟩;obtain⟨u,hu,ru⟩:=ai1 m U;have n:kvs.length=vs.length:=fX m;rw[n]at st;refine wpAny_pyNext_values_item st J hu λj ET sb=>?_
  have I1:Inv X a O H {s with heap:=j}:=I.turned (t':=s.toks) (λb ob g e=>(sb.2 b g).trans e) B q f T S
  obtain⟨l,e,c,F⟩:=id ET;refine⟨u,rfl,Xa (s:={s with heap:=j}) e c F (by decide) ⟨v,H,I1,ru,⟨rfl,k,U⟩,?_,λb g=>(x b g).1⟩⟩
  show j.IsValIter it d (i+1) kvs.length _;rw[n];exact ET
 done:=by
  intro X hP C M Z i a s O H E I x st L;subst hP C M;obtain⟨hd,Y⟩:=L;obtain⟨B,q,f2,f,T,S⟩:=x it (by simp);obtain⟨hs,VV,hx,N0,Μ,vs,y,D,m,J⟩:=I.ag0 hd;obtain⟨rfl,rfl⟩:=yR G y;have n:kvs.length=vs.length:=fX m;rw[n]at st;exact wpAny_pyNext_values_end (I.ok.hd Z) st J (Kf (by omega)) λj eb=>⟨rfl,I.turned (t':=s.toks) (λb ob g e=>eb b ob g e) B q f T S⟩
 self:=λA i s Q E st h=>wpAny_pyIter_valiter st h
def arR (f:TE):TI:=fun σ H R=>f σ H λx H1=>∃d o,x=.ref d/\((∃kvs,H1 d=some (.gb o (.dK kvs))/\R (Itk d o kvs) H1)\/∃kvs,H1 d=some (.gb o (.dT kvs))/\R (amJ d o kvs) H1)
def arN (f:TE):TI:=fun σ H R=>f σ H λx H1=>∃d o kvs,x=.ref d/\H1 d=some (.gb o (.dK kvs))/\R (Itd d o kvs) H1
def Mv (f:PE X e td):PI X tg e (arR td):=by
 intro b s p H R I h;refine gn (f b s p H _ I h) λu n ⟨x,M,i,y,d,o,ex,q⟩=>?_
 subst ex;obtain rfl:u=bw d:=y;rcases q with⟨j,hd,q⟩|⟨j,hd,q⟩
 ·obtain⟨m,VV,l,z,C,E,g,a,J,L⟩:=i.ag0 hd;refine OS m VV l g (Yz (tk:=n.toks) i _ (af7 _ g) ⟨_,bf _ rfl,rfl,?_⟩ q);rw[a]<;>rfl
 ·obtain⟨m,VV,l,z,C,g,a,D⟩:=i.apm hd;refine OS m VV l g (Yz (tk:=n.toks) i _ (ac7 _ g) ⟨_,bf _ rfl,rfl,?_⟩ q);rw[a]<;>rfl
def ago (f:PE X e td) (B:attributeBase e "values" X.env (eval e X.env)=eval e X.env:=by rfl) (F:(apos.endLine==iA.line)=true:=by rfl):PI X tg (.Call (.Attribute e "values" apos) [] [] iA) (arN td):=by
 intro a s j H R I h;refine lU (T:="dict") (id:="dict.values") B rfl F Wm DE anR (gn (f a s j H _ I h) λu g ⟨x,L,m,p,d,o,l,ex,hd,q⟩=>?_);subst ex;obtain rfl:u=bw d:=p;obtain⟨D,VV,M,P,Q,vs,y,C,z,i⟩:=m.ag0 hd;have E:l.length=vs.length:=fX z;refine⟨i.dictOf.typeIs,i.dictOf.mapOf.noDict,?_⟩;have J:Inv X a j L {g with heap:=g.heap.push {cls:=.type "dict_values",data:=.fields #[.ref d]}}:=m.kept (t':=g.toks) λb ob q=>aB _ q
 have n:wpAny (model X.prog X.w) X.A (pyIter (.ref g.heap.objs.size)) (PIE X a j tg R) X.xe {g with heap:=g.heap.push {cls:=.type "dict_values",data:=.fields #[.ref d]}}:=by
  refine wpAny_pyIter_values (d:=d) (knd:=fG X.prog X.w) ⟨_,bf _ rfl,rfl,rfl⟩ (i.push _) (Yz (tk:=g.toks) J _ (af4 _ y) ⟨_,bf _ rfl,rfl,?_⟩ q);rw[E]<;>rfl
 show wpAny _ _ (callWith iA (.builtin "dict.values") [.ref d] [] []) _ X.xe g;exact ahz DE amV rfl (yi ⟨rfl,i.dictOf.typeIs,akV _,_,ato (fG X.prog X.w) d D,⟨vs,i.dictOf⟩,n⟩)
def ahk:bootBuiltins "zip"=some (.type "zip"):=by decide+kernel
section
namespace ays
open PySem PyProof.Rows
end ays
end
section
namespace TL
open PySem PySem.Builtin PySem.Builtin.Str PySem.StrLaws
end TL
end
namespace Att
open PySem PySem.W PySem.Calls PyProof.Rows
end Att
def inClass (s:Stmt) (j:Nat):Stmt:=match s with
 |.ClassDef _ _ _ body _ _ _ _ _ _ _=>body.getD j (.Pass ⟨0,0,0,0⟩)
 |_=>.Pass ⟨0,0,0,0⟩
def RN (s:Stmt):Arguments:=match s with
 |.FunctionDef _ a _ _ _ _ _ _ _ _=>a
 |_=>{posonlyargs:=[],args:=[],vararg:=none,kwonlyargs:=[],kw_defaults:=[],kwarg:=none,defaults:=[]}
def M7 (s:Stmt):List Stmt:=match s with
 |.FunctionDef _ _ b _ _ _ _ _ _ _=>b
 |_=>[]
def aE (s:Stmt):Scope:=match s with
 |.FunctionDef _ _ _ _ _ _ sc _ _ _=>sc
 |_=>{kind:=.function,names:=[],isGenerator:=false,isCoroutine:=false}
abbrev E0:XK:=λ_ _ _=>False
structure gc (K:ah) (x qual:Str) (st:Stmt) (f:ag) (fd:aH):Prop where
 ex:∃(oc:Value) (od:Option ag) (kV doc pm:Value) (an:Option ag) (Ri ct:Value) (osl:Array (Option Value)),
  fd=zf x qual (RN st) (M7 st) (aE st) .none kV doc pm an Ri ct/\K.lookup f=some ⟨oc,od,.func fd,osl⟩/\Wi K Ri qual=true
 kp:jf K (.ref f)=true
def gc.binds {f:ag} (F:gc K x qual st f fd)
 (h:∀(kV q B:Value) (G:Option ag) (I ct:Value) (us:List Value),us.length=ps.length->bindArgs (zf x qual (RN st) (M7 st) (aE st) .none kV q B G I ct) ⟨us,[]⟩=pure (ps.zip us)):Binds K fd ps []:=by
 obtain⟨e,d,kV,q,B,G,I,ct,a,rfl,lk,b⟩:=F.ex;exact .all (h kV q B G I ct)
def apl {f:ag} {O:Option ag} {kV:Value} (l:K.lookup f=some ⟨oc,O,.func (zf x q (RN st) (M7 st) (aE st) .none kV B I U G ct),F⟩)
 (c:Wi K G q=true) (k:jf K (.ref f)=true):gc K x q st f (zf x q (RN st) (M7 st) (aE st) .none kV B I U G ct):=⟨⟨oc,O,kV,B,I,U,G,ct,F,rfl,l,c⟩,k⟩
def iu {k:Nat} (f:oS k A):A.units+1<cLine:=sO (Nat.add_le_add_left (by decide:1<=64) _) f.units
def dO (h:n<=1000):n<sizeLine:=sO h (by decide)
def pv (i:Nat) (B:X.N[i]? =some x:=by rfl) (q:Vis X.env.scope x:=by first|exact oY rfl|exact EK (oY rfl)|exact EK (EK rfl)) (hd:(x==("__debug__":Str))=false:=by decide)
 (f:(x==("__classdict__":Str))=false:=by decide):PE X (.Name x pos) (aqR i):=aop B q hd f
def Xx:ra X (.builtin "len") (λxs H Q=>∃a kvs,xs=[V.ref a]/\H a=some (.dK kvs)/\Q (.int kvs.length) H):=by
 intro b s i H xs j Q I r h;obtain⟨a,kvs,rfl,e,q⟩:=h;obtain⟨u,rfl,d⟩:=vals1 r;cases d;exact as0 I (.inl e) λt l g=>⟨.int kvs.length,H,g,⟨t,rfl⟩,q⟩
def arL {A B:Prop} (h:B):if false=true then A else B:=by
 rw[au bj];exact h
def arJ {A B:Prop} (h:A):if true=true then A else B:=by
 rw[az rfl];exact h
def bt (H f:Hp):Prop:=∀b o,H b=some o->f b=some o
def bt.refl (H:Hp):bt H H:=λ_ _ h=>h
def bt.trans (a:bt H H1) (b:bt H1 H2):bt H H2:=λc o h=>b c o (a c o h)
def bt.seq (e:bt H H') (h:dv K H a xs):dv K H' a xs:=by
 rcases h with(h|⟨o,h⟩)|h
 ·exact .inl (.inl (e _ _ h))
 ·exact .inl (.inr ⟨o,e _ _ h⟩)
 ·exact .inr h
section
variable {κ:Type} [DecidableEq κ]
end
def bt.made {x:ag} (nx:H x=DC) (nd:H dx=DC) (k:∀b o,(bB (bB H dx (.own x)) x (.ins C dx [])) b=some o->b≠x->H1 b=some o):bt H H1:=λb o e=>
 k b o (by rw[aw (bp e nx),aw (bp e nd)];exact e) (bp e nx)
def js.afs (x:js P w H h a o):∃u,h.get? a=some u:=by
 cases o with
 |lst d=>obtain⟨_,_,_,_,e⟩:=x;exact⟨_,e⟩
 |tup d=>obtain⟨_,_,_,_,e,_⟩:=x;exact⟨_,e⟩
 |dK b=>obtain⟨_,_,_,_,o,_,_,e,_⟩:=x;exact⟨_,e⟩
 |dT b=>obtain⟨_,_,_,_,o,_,_,e,_⟩:=x;exact⟨_,e⟩
 |set S n=>obtain⟨o,_,_,_,e,_⟩:=x;exact⟨_,e⟩
 |ins C dx fs=>obtain⟨_,_,_,e,_⟩:=x;exact⟨_,e⟩
 |own y=>obtain⟨_,e⟩:=x;exact⟨_,e⟩
 |xd fs=>obtain⟨_,⟨_,_,_,e,_⟩,_⟩:=x;exact⟨_,e⟩
 |rng lo j=>obtain⟨_,_,_,e⟩:=x;exact⟨_,e⟩
 |gb ob u=>obtain⟨e,_⟩:=x;exact⟨_,e⟩
 |tbl i=>exact⟨_,(show h.get? a=some _ from x)⟩
 |met f y=>exact⟨_,(show h.get? a=some _ from x)⟩
 |ext g=>obtain⟨_,⟨_,e⟩,_⟩:=x;exact⟨_,e⟩
def ayn (h:Heap) (e T:ag) (f q:Value):Prop:=∃b a d ts,h.get? e=some b/\(b.cls=f/\a[0]? =some q)/\b.data=.fields a/\a[1]? =some (.ref T)/\T≠e/\h.get? T=some d/\d.data=.fields ts/\ts[3]? =some .none
def RT (P:kE) (w:World):CXT:=λouter H s E g a=>∃(e T:ag) (b h:Value) (d:Hp),g=.ref e/\a.os=s.os/\AllBare a.gens/\Un (EG outer) [] H d s.heap a.heap/\EH P w d a.heap/\
 ayn a.heap e T b h/\s.heap.get? e=none/\s.heap.get? T=none/\d e=none/\d T=none/\E b none d
def ajO {f:ag} {e T:ag} (J:Inv (IB (RT P w) P w K mg base N qual scope f cd A outer s H E) pins σ H2 s2)
 (I:∀b o,s2.heap.get? b=some o->b∉EG (envOfC qual scope s.heap.objs.size f cd::outer)->b≠e->b≠T->B.get? b=some o) (fl:afX B outer e cls a0 h') (Y:s2.heap.UpToSlots h')
 (O:s.heap.get? e=none) (t0:s.heap.get? T=none) (F:H2 e=none) (G:H2 T=none) (hE:E cls none H2):
 RT P w outer H s E (.ref e) {s2 with heap:=h'}:=by
 have M:∀b,b∈EG (envOfC qual scope s.heap.objs.size f cd::outer)->b=s.heap.objs.size\/b∈EG outer:=λb d=>by
  rcases aY.mp (J.N7 b d)with q|q
  ·exact .inl q
  ·exact .inr q
 obtain⟨k1,k2,k3,Z,vs,g,oT,ts,a1,a2,a3,a4,a5,a6,X,S,a9⟩:=fl;have keep:∀b o,s2.heap.get? b=some o->b∉EG (envOfC qual scope s.heap.objs.size f cd::outer)->b≠e->b≠T->h'.get? b=some o:=λb o q L D n3=>k1 b o (I b o q L D n3)
 have C:∀b o,s2.heap.get? b=some o->b∈EG (envOfC qual scope s.heap.objs.size f cd::outer)->∃m,h'.get? b=some {o with slots:=m}:=λb o q d=>by
  obtain⟨_,o',l,hd⟩:=J.stack.mem d;rw[q]at l;cases l;exact Y b o q hd
 have nD:∀b o,s2.heap.get? b=some o->b∈EG (envOfC qual scope s.heap.objs.size f cd::outer)->∀vs,o.data≠ .fields vs:=λb o q d=>by
  obtain⟨_,o',l,hd⟩:=J.stack.mem d;rw[q]at l;cases l;exact hd
 have Q:∀o,s2.heap.get? g=some o->g≠e->g≠T->False:=λo q L D=>by
  by_cases d:g∈EG (envOfC qual scope s.heap.objs.size f cd::outer)
  ·obtain⟨m,z⟩:=C g o q d;rw[X]at z;cases z;exact nD g o q d ts S
  ·have:=I g o q d L D;rw[a5]at this;cases this
 have h:∀b o,s.heap.get? b=some o->b≠e/\b≠T:=λb o q=>⟨λz=>by(subst z;rw[O]at q;cases q),λz=>by(subst z;rw[t0]at q;cases q)⟩
 have j:∀b o,s.heap.get? b=some o->∃o',s2.heap.get? b=some o':=λb o q=>J.base.there b o q (by simp[IB])
 have x:∀b o,s.heap.get? b=some o->b∉EG outer->b∉EG (envOfC qual scope s.heap.objs.size f cd::outer):=λb o q d z=>by
  rcases M b z with r|r
  ·exact absurd (bK q) (by rw[r];exact g0 _)
  ·exact d r
 refine⟨e,g,cls,a0,H2,rfl,J.os,J.bare,⟨λb o q n d i=>?_,λb o q n d i=>?_,λb o q n i=>?_,λb o q i=>?_,J.base.R0,J.base.OV,J.base.R3⟩,λa o q=>?_,⟨Z,vs,oT,ts,a1,a2,a3,a4,a6,X,S,a9⟩,O,?_,F,?_,hE⟩
 ·exact keep b o (J.base.keep b o q n d i) (x b o q d) (h b o q).1 (h b o q).2
 ·obtain⟨m,z⟩:=J.base.slot b o q n d i;obtain⟨p,U⟩:=C b _ z (by unfold EG;rw[jD];exact aL _ d);exact⟨p,U⟩
 ·exact J.base.free b o q n i
 ·obtain⟨o',z⟩:=j b o q;by_cases d:b∈EG (envOfC qual scope s.heap.objs.size f cd::outer)
  ·obtain⟨m,y⟩:=C b o' z d;exact⟨_,y⟩
  ·exact⟨o',keep b o' z d (h b o q).1 (h b o q).2⟩
 ·refine(J.eR a o q).QJ (λb u d r=>keep b u r (λz=>?_) (λz=>?_) λz=>?_) (λ_ r=>r) λ_ _ r=>r
  ·have n:=J.RD b z;rcases d with rfl|d
   ·rw[q]at n;cases n
   ·rw[d]at n;cases n
  ·subst z;rcases d with rfl|d
   ·rw[q]at F;cases F
   ·rw[d]at F;cases F
  ·subst z;rcases d with rfl|d
   ·rw[q]at G;cases G
   ·rw[d]at G;cases G
 ·cases q:s.heap.get? g with
  |none=>rfl
  |some o=>
   obtain⟨o',z⟩:=j g o q;exact(Q o' z (h g o q).1 (h g o q).2).elim
 ·cases q:H2 g with
  |none=>rfl
  |some o=>
   obtain⟨u,z⟩:=(J.eR g o q).afs;exact(Q u z (λy=>by rw[y,F]at q;cases q) λy=>by rw[y,G]at q;cases q).elim
def Fu {f:ag}:Passes (RT P w) (IB (RT P w) P w K mg base N qual scope f cd A outer s H E) E:=by
 rintro a h H1 p ev s2 I ⟨e,T,d,a0,H2,rfl,L,M,un,eR,l,G,n,F,m,X⟩
 have J:Inv (IB (RT P w) P w K mg base N qual scope f cd A outer s H E) a h H2 s2:=I.ajW (ch:=[]) L un eR M (λb z=>absurd z (by simp))
 have g:∀b,p.heap.get? b=none->s.heap.get? b=none:=λb q=>by
  cases r:s.heap.get? b with
  |none=>rfl
  |some o=>
   obtain⟨o',z⟩:=I.base.there b o r (by simp[IB]);rw[q]at z;cases z
 obtain⟨u,i,x,ts,a1,a2,a3,a4,Z,Y,U,O⟩:=l
 have IA:∀env∈(envOfC qual scope s.heap.objs.size f cd::outer),∀b,env.frame=some b->b∈e::T::EG (envOfC qual scope s.heap.objs.size f cd::outer):=λenv Q b S=>
  aL _ (aL _ (gW.mpr ⟨env,Q,S⟩))
 have FL:afX (Hl s2.heap (e::T::EG (envOfC qual scope s.heap.objs.size f cd::outer))) (envOfC qual scope s.heap.objs.size f cd::outer) e d a0 s2.heap:=
  ⟨λb o q=>ze _ q,nB _ (aM),Ez J.stack IA,u,i,T,x,ts,a1,a2,a3,a4,nB _ (aL _ aM),Z,Y,U,O⟩
 refine wpAny_leaves_onW J.ok.frames rfl FL λh' B j=>?_
 refine ajO (T:=T) J (λb o q D C y=>xQ _ q ?_) B j (g e G) (g T n) F m X;intro z;rcases aY.mp z with z|z
 ·exact C z
 ·rcases aY.mp z with z|z
  ·exact y z
  ·exact D z
def aol {f:ag} {e:ag} (J:Inv (IB (RT P w) P w K mg base N qual scope f cd A outer s H E) pins σ H2 s2)
 (B:ap0 s2.heap h1 e cls args) (F:E cls none H2):(IB (RT P w) P w K mg base N qual scope f cd A outer s H E).xe (.ref e) {s2 with heap:=h1}:=by
 have n:∀env∈(envOfC qual scope s.heap.objs.size f cd::outer),∀b,env.frame=some b->b∈EG (envOfC qual scope s.heap.objs.size f cd::outer):=λenv j b a=>gW.mpr ⟨env,j,a⟩
 have g:s.heap.get? e=none:=by
  cases r:s.heap.get? e with
  |none=>rfl
  |some o=>
   obtain⟨p,z⟩:=J.base.there e o r (by simp[IB]);rw[B.new]at z;cases z
 have d:H2 e=none:=by
  cases q:H2 e with
  |none=>rfl
  |some o=>
   obtain⟨u,z⟩:=(J.eR e o q).afs;rw[B.new]at z;cases z
 refine wpAny_leaves_madeW (s:={s2 with heap:=h1}) J.ok.frames rfl (λb o q=>ze (EG (envOfC qual scope s.heap.objs.size f cd::outer)) q) (Ez J.stack n) B λl t m C a h=>?_
 show RT P w outer H s E (.ref e) {s2 with heap:=l}
 exact ajO (T:=e) J (λb o q i y x=>xQ _ q i) m ((aqI B.keeps).trans h) g g d d F
structure aj6 (K:ah) (mg:Str->Option Value) (x:Str) (C:ag):Prop where
 own:∀h:Heap,K.In h->h.Ns mainGlobals mg->OwnCls x C [.type "Exception",.type "BaseException",.type "object"] "Exception.__new__" mg h
 mg:mg x=some (.ref C)
def anZ (C:ag) (E:XK) (t:TA):TS:=λ_ σ H=>t σ H λvs H1=>vs.length<=sizeLine/\E (.ref C) none H1
def Raises (X:Cx) (E:XK):Prop:=∀(pins:List (ag×Obj)) (σ:St) (H2:Hp) (s2:aJ) (h1:Heap) (e:ag) (cls:Value) (args:List Value),Inv X pins σ H2 s2->ap0 s2.heap h1 e cls args->E cls none H2->X.xe (.ref e) {s2 with heap:=h1}
def tM (R:Raises X E) (O:aj6 X.K X.mg x C) (U:Gl X x) (Y:X.calm=true) (Z:PA X (f::rest) t) (G:(x==("__debug__":Str))=false:=by decide)
 (F:starEach (f::rest) X.env=(false,eval f X.env)::starEach rest X.env:=by rfl) (B:(backTo iA (starEach rest X.env)).any (·.1)=false:=by rfl):
 PS X (.Raise (some (.Call (.Name x np) (f::rest) [] iA)) none pos) (anZ C E t):=by
 intro a s i H D I h;obtain⟨tl,N,nm,q,bs,hdct,sn,sub,ab,col,dd,k0,k1,k2,k3,k5,mN,u,o,g,T⟩:=(O.own _ I.mod.kin I.mod.glob).obj
 refine wpAny_Raise_call_subT (C:=C) (nm:=nm) (q:=q) (N:=N) (bs:=bs) (bm:=tl) (hdct:=hdct) (sn:=sn) (sub:=sub) (ab:=ab) (col:=col) (dd:=dd) (k0:=k0) (k1:=k1) (k2:=k2) (k3:=k3) (k5:=k5)
  Wj (mN:=mN) (T.hasType Wj.hasBase) (I.ok.hd Y) (by rw[F];show(false||(backTo iA (starEach rest X.env)).any (·.1))=false;rw[B];rfl) g (yF I U O.mg ⟨rfl,?_⟩ G)
 have j:=Z iA a s i H _ I h;rw[F]at j⊢;refine kz (jT j (λl b ⟨L,J,d,r,n,p⟩=>⟨rfl,?_,?_,?_,?_,?_⟩) λ_ _ y=>y)
 ·show l.length<=sizeLine;rw[<-r.length];exact n
 ·exact d.bk _ _ u
 ·exact o.keeps d.bk
 ·exact T.keeps d.bk
 ·intro z e m;exact R a i J b z e _ _ d m p
def Inv.fly {B:Heap} {e T:ag} (J:Inv X pins σ H s) (hB:∀b o,s.heap.get? b=some o->b∉EG X.stack->b≠e->b≠T->B.get? b=some o) (k1:B.StaysIn h') (f:s.heap.UpToSlots h')
 (e0:X.PL.heap.get? e=none) (t0:X.PL.heap.get? T=none) (G:H e=none) (F:H T=none) (ep:∀p∈X.pn++pins,p.1≠e/\p.1≠T):Inv X pins σ H {s with heap:=h'}:=by
 have keep:∀b o,s.heap.get? b=some o->b∉EG X.stack->b≠e->b≠T->h'.get? b=some o:=λb o q n1 n2 n3=>k1 b o (hB b o q n1 n2 n3)
 have Z:∀b o,s.heap.get? b=some o->b∈EG X.stack->∃j,h'.get? b=some {o with slots:=j}:=λb o q d=>by
  obtain⟨_,C,D,hd⟩:=J.stack.mem d;rw[q]at D;cases D;exact f b o q hd
 have Q:∀b o,s.heap.get? b=some o->b∈X.fs->∃j,h'.get? b=some {o with slots:=j}:=λb o q d=>by
  obtain⟨_,C,D,hd⟩:=J.MX.mem d;rw[q]at D;cases D;exact f b o q hd
 have E:∀b o,X.PL.heap.get? b=some o->b≠e/\b≠T:=λb o q=>⟨λz=>by(subst z;rw[e0]at q;cases q),λz=>by(subst z;rw[t0]at q;cases q)⟩
 have P:∀b o,X.PL.heap.get? b=some o->b∉X.fs->b∉EG X.stack:=λb o q d z=>by
  rcases aY.mp (J.N7 b z)with r|r
  ·exact absurd (cF (bK q) J.ok.above) (by rw[r];exact g0 _)
  ·exact d r
 have cellK:∀c v,s.heap.IsCell c v->h'.IsCell c v:=λc v ⟨o,ho,hd⟩=>by
  obtain⟨j,q⟩:=f c o ho λvs z=>by rw[hd]at z;cases z
  exact⟨_,q,hd⟩
 refine⟨J.ok,J.os,J.bare,⟨λb o q n d g=>?_,λb o q n d g=>?_,λb o q n g=>?_,λb o q g=>?_,J.base.R0,J.base.OV,J.base.R3⟩,?_,λx c h=>?_,J.free,J.vi,λp S=>?_,λa o q=>?_,J.len⟩
 ·exact keep b o (J.base.keep b o q n d g) (P b o q d) (E b o q).1 (E b o q).2
 ·obtain⟨j,z⟩:=J.base.slot b o q n d g;obtain⟨M,Y⟩:=Q b _ z d;exact⟨M,Y⟩
 ·exact J.base.free b o q n g
 ·obtain⟨C,z⟩:=J.base.there b o q g;by_cases d:b∈EG X.stack
  ·obtain⟨j,y⟩:=Z b C z d;exact⟨_,y⟩
  ·exact⟨C,keep b C z d (E b o q).1 (E b o q).2⟩
 ·obtain⟨m,hn,hl⟩:=J.loc;refine⟨m,f.ns hn,λi x v O I L=>?_⟩;obtain⟨u,r,l⟩:=hl i x v O I L;refine⟨u,r,?_⟩;rcases l with l|⟨k,c,a,z⟩
  ·exact .inl l
  ·exact .inr ⟨k,c,a,cellK c _ z⟩
 ·obtain⟨v,z⟩:=J.cell x c h;exact⟨v,cellK c v z⟩
 ·obtain⟨O,I,L,U,a5⟩:=J.pin p S;refine⟨keep p.1 p.2 O (λz=>?_) (ep p S).1 (ep p S).2,I,L,U,a5⟩;rcases aY.mp (J.N7 p.1 z)with r|r
  ·exact L r
  ·exact U r
 ·refine(J.eR a o q).QJ (λb u d r=>keep b u r (λz=>?_) (λz=>?_) λz=>?_) (λ_ r=>r) λ_ _ r=>r
  ·have n:=J.RD b z;rcases d with rfl|d
   ·rw[q]at n;cases n
   ·rw[d]at n;cases n
  ·subst z;rcases d with rfl|d
   ·rw[q]at G;cases G
   ·rw[d]at G;cases G
  ·subst z;rcases d with rfl|d
   ·rw[q]at F;cases F
   ·rw[d]at F;cases F
abbrev Cx.marked (X:Cx) (e:ag):Cx:={X with A:=X.A.mark (some (.ref e)),calm:=false}
def Inv.marked (I:Inv X pins σ H s) (e:ag):Inv (X.marked e) pins σ H s:=
 ⟨⟨I.ok.mod,I.ok.kind,I.ok.glob,I.ok.blt,I.ok.above,I.ok.inj,I.ok.has,I.ok.cab,λz=>(by cases z),I.ok.frames,I.ok.stk,I.ok.exf,I.ok.bs,I.ok.bsz,I.ok.agx,I.ok.ag7,I.ok.MX,I.ok.frf⟩,I.os,I.bare,I.base,I.loc,I.cell,I.free,I.vi,I.pin,I.eR,I.len⟩
def Inv.unmarked {e:ag} (ok:X.Ok) (I:Inv (X.marked e) pins σ H s):Inv X pins σ H s:=⟨ok,I.os,I.bare,I.base,I.loc,I.cell,I.free,I.vi,I.pin,I.eR,I.len⟩
def SP.unmarked {e:ag} (ok:X.Ok) (h:SP (X.marked e).nox pins D f s'):SP X pins D f s':=by
 cases f with
 |next=>obtain⟨a,b,I,q⟩:=h;exact⟨a,b,Inv.unmarked ok I.Kj,q⟩
 |brk=>obtain⟨a,b,I,q⟩:=h;exact⟨a,b,Inv.unmarked ok I.Kj,q⟩
 |cont=>obtain⟨a,b,I,q⟩:=h;exact⟨a,b,Inv.unmarked ok I.Kj,q⟩
 |ret u=>obtain⟨v,a,b,I,r,q⟩:=h;exact⟨v,a,b,Inv.unmarked ok I.Kj,r,q⟩
def apA {rest:List ExceptHandler} (I:Inv X pins σ H1 s) (c:RT X.prog X.w X.stack H1 s E U s2)
 (hex:X.ex=[]) (f:X.stack=X.env::X.outer) (hf:X.env.frame=some L) (O:aj6 X.K X.mg x C) (hg:Gl X x) (hs:∀e,PSs (X.marked e).nox (Þ::aeZ) th) (hE:∀B d F,E B d F->B=.ref C/\th D σ F) (Γ:(x==("__debug__":Str))=false:=by decide):
 wpAny (model X.prog X.w) X.A (noteFrame U X.env) (λ_ G=>wpAny (model X.prog X.w) X.A (setFlight U none) (λ_ π=>
  wpAny (model X.prog X.w) X.A (handleBy U X.env (.ExceptHandler (some (.Name x np)) none (Þ::aeZ) aoZ::rest)) (SP X pins D) X.xe π) X.xe G) X.xe s2:=by
 obtain⟨e,T,B,a0,F,rfl,ho,n,un,eR,tr,H,l,eH,Q,u⟩:=c;obtain⟨rfl,m⟩:=hE _ _ _ u;have J:Inv X pins σ F s2:=I.ajW (ch:=[]) ho un eR n (λb z=>absurd z (by simp))
 have i:∀b,s.heap.get? b=none->X.PL.heap.get? b=none:=λb q=>by
  cases r:X.PL.heap.get? b with
  |none=>rfl
  |some o=>
   obtain⟨o',z⟩:=I.base.there b o r (by rw[hex];simp);rw[q]at z;cases z
 have fp:∀p∈X.pn++pins,p.1≠e/\p.1≠T:=λp S=>⟨λz=>by(have:=(I.pin p S).1;rw[z,H]at this;cases this),λz=>by(have:=(I.pin p S).1;rw[z,l]at this;cases this)⟩
 obtain⟨oe,vs,oT,ts,a1,a2,a3,a4,a6,a7,a8,a9⟩:=tr
 have IA:∀env∈X.stack,∀b,env.frame=some b->b∈e::T::EG X.stack:=λenv he b hb=>
  aL _ (aL _ (gW.mpr ⟨env,he,hb⟩))
 have FL:afX (Hl s2.heap (e::T::EG X.stack)) X.stack e (.ref C) a0 s2.heap:=
  ⟨λb o q=>ze _ q,nB _ (aM),Ez J.stack IA,oe,vs,T,oT,ts,a1,a2,a3,a4,nB _ (aL _ aM),a6,a7,a8,a9⟩
 have Z:∀b o,s2.heap.get? b=some o->b∉EG X.stack->b≠e->b≠T->(Hl s2.heap (e::T::EG X.stack)).get? b=some o:=λb o q n1 n2 n3=>xQ _ q λz=>by
  rcases aY.mp z with z|z
  ·exact n2 z
  ·rcases aY.mp z with z|z
   ·exact n3 z
   ·exact n1 z
 have ĝ:X.A.frames=some (X.env::X.outer):=by rw[<-f];exact J.ok.frames
 rw[f]at FL;refine wpAny_looks_onW ĝ hf FL λh4 P h=>?_
 refine wpAny_landsW P λh5 a g=>?_
 have J5:Inv X pins σ F {s2 with heap:=h5}:=J.fly Z (by rw[f];exact a.1) (h.trans g) (i e H) (i T l) eH Q fp;refine wpAny_handleBy_cons (codeAny_handlers_test (yF (X:=X.marked e) (J5.marked e) hg O.mg ?_ Γ)) (by intro q;cases q);obtain⟨bm,N,nm,qn,bs,Y,sn,sub,ab,col,dd,k0,k1,k2,k3,k5,mN,hC,hN,hni,TL⟩:=((O.own _ J.ok.mod.kin J.ok.mod.glob).keeps J5.bk).obj;obtain⟨ob,F4,M⟩:=a.there;refine wpAny_excMatches_sub_self hC F4 M (TL.hasType rfl) (codeAny_handlers_suite ?_);refine lands_againW a λh6 y j=>?_
 have J6:Inv X pins σ F {s2 with heap:=h6}:=J.fly Z (by rw[f];exact y.1) ((h.trans g).trans j) (i e H) (i T l) eH Q fp;exact jT (hs e pins {s2 with heap:=h6} σ F D ((J6.marked e).Vk _) m) (λfl s' q=>SP.unmarked J.ok q) λ_ _ z=>z.elim
def avy (sp:Sp) (C:ag) (i:Nat) (t:TA) (f:TS):TS:=λD σ H=>t σ H λvs H1=>sp vs H1 (λv H2=>D.nx (σ.set i (some v)) H2) (λcls _ H2=>cls=.ref C/\f D σ H2)
def SR {k:Nat} {f:ag} {fn B:Str}
 (F:A3 X.prog X.w X.K X.mg X.base (RT X.prog X.w) k f fd ps sp) (hr:oS k X.A) (hg:Gl X fn) (hm:X.mg fn=some (.ref f)) (hk:jf X.K (.ref f)=true) (hb:Binds X.K fd ps []) (ha:PA X.nox (e::es) t)
 (hN:X.N.Nodup) (hi:X.N[i]? =some x) (hx:Loc X.env.scope x) (O:aj6 X.K X.mg B C) (U:Gl X B) (hs:∀e,PSs (X.marked e).nox (Þ::aeZ) th)
 (hex:X.ex=[]) (agP:X.stack=X.env::X.outer) (hf:X.env.frame=some L)
 (G:swapsWith (.Call (.Name fn p) (e::es) [] iA) (some (.Name x p1)) apos.line X.env=pure false:=by rfl) (Y:X.fn x=true\/X.env.scope.names.lookup x=some .local:=by first|exact .inl rfl|exact .inr rfl|assumption)
 (Γ:(fn==("__debug__":Str))=false:=by decide) (Z:(B==("__debug__":Str))=false:=by decide)
 (he:starEach (e::es) X.env=(false,eval e X.env)::starEach es X.env:=by rfl) (Iz:(backTo iA (starEach es X.env)).any (·.1)=false:=by rfl):
 PS X (.Try [.Assign [.Name x p1] (.Call (.Name fn p) (e::es) [] iA) apos] [.ExceptHandler (some (.Name B np)) none (Þ::aeZ) aoZ] [] [] pos) (avy sp C i t th):=by
 intro a s j H D I h;refine wpAny_Try_except (acE (atl (gx (yF I hg hm ?_ Γ)) G));refine mj (h₀:=X.base) I.ok.mod.kin hk (jT (ha iA a s j H _ (I.Vk _) h) (λg s1 ⟨E,o,m,r,q⟩=>?_) λ_ _ z=>z.elim) he Iz;have d:Inv X a j o s1:=m.Kj;refine⟨d.W2,?_⟩;have S:g.length=ps.length:=by rw[<-r.length];exact F.len _ _ _ _ q
 have y:=hb s1 g d.W2 (by rw[cX];exact S);rw[cX]at y;refine atj (Pg (F.run X.A X.stack s1 o ⟨g,[]⟩ g E _ _ hr d.apq y r q) λP J b=>?_);cases P with
 |error ev=>exact apA d (show RT X.prog X.w X.stack o s1 (λl _ n=>l=.ref C/\th D j n) ev J from b) hex agP hf O U hs (λ_ _ _ z=>z) Z
 |ok T=>
  cases T with
  |ret u=>
   obtain⟨v,n,I2,M,Q⟩:=d.after b;refine LQ I2 hN hi hx M (λs3 I3=>?_) Y;exact uT (uT ⟨_,n,I3,Q⟩)
  |next=>exact gI b
  |brk=>exact gI b
  |cont=>exact gI b
def gc.gp {f:ag} {k:Nat} (F:gc K x qual st f fd) (S:aR N ps (aE st)) (len:∀vs H Q E,sp vs H Q E->vs.length=ps.length)
 (B:∀(q:Value) (A:Around) (outer:List Env) (s:aJ) (H:Hp) (vs:List V) (Q:VK) (E:XK),oS k (A.deeper (envOfC qual (aE st) s.heap.objs.size f q))->sp vs H Q E->
  ∃t,PSs (IB (RT P w) P w K mg base N qual (aE st) f q A outer s H E) (M7 st) t/\t {nx:=λ_ G=>Q .m6 G,rt:=Q} (start N vs) H):A3 P w K mg base (RT P w) (k+1) f fd ps sp:=by
 obtain⟨j,i,kV,g,h,l,q,ct,d,rfl,lk,a⟩:=F.ex;exact asN lk a S len λA outer s H vs Q E e b=>B q A outer s H vs Q E e b
def yu {f:ag}:Raises (IB (RT P w) P w K mg base N qual scope f cd A outer s H E) E:=
 λ_ _ _ _ _ _ _ _ J a b=>aol J a b
def BC {f:ag}:
 PassesOwn (model P w) (A.deeper (envOfC qual scope s.heap.objs.size f cd)) (envOfC qual scope s.heap.objs.size f cd) (IB (RT P w) P w K mg base N qual scope f cd A outer s H E).xe:=aDt
abbrev FO (P:kE) (w:World) (K:ah) (mg:Str->Option Value) (base:Heap):=A3 P w K mg base (RT P w)
def aeX (r G F:R2) (B tb q f:TE):TE:=fun σ H Q=>B σ H λx H1=>tb σ H1 λy H2=>r x y H2 λz e=>∃k,z=.bl k/\
 (if k=true then q σ e λa H4=>G y a H4 λg d=>∃b,g=.bl b/\(if b=true then f σ d λh i=>F a h i Q else Q (.bl false) d)else Q (.bl false) e)
def agq {a:Expr} {d:Expr} {tb:TE} (ho:LG X (compareOp op) r) (LD:LG X (compareOp î) r') (f:LG X (compareOp ź) r2) (ha:PE X a ta) (hb:PE X b tb) (hc:PE X c tc) (hd:PE X d td)
 (hm:lastMarks [op,î,ź] [b,c,d]=false:=by with_unfolding_all rfl):PE X (.Compare a [op,î,ź] [b,c,d] pos) (aeX r r' r2 ta tb tc td):=by
 intro g s i H Q I h
 refine aDw (gn (ha g s i H _ I h) λv F ⟨x,H1,I1,r1,q1⟩=>atp (gn (hb g F i H1 _ I1 q1) λu B ⟨y,H2,I2,j,q2⟩=>
  gn (ho g B i H2 x y v u _ I2 r1 j q2) λd1 q ⟨z,J,D,U,k,e,p⟩=>?_)) hm
 subst e;cases U;refine dR ?_;cases k with
 |false=>exact aqD ⟨.bl false,J,D,rfl,p⟩
 |true=>
  refine aqC (atp (gn (hc g q i J _ D p) λm T ⟨l,H4,I4,n,Z⟩=>gn (LD g T i H4 y l u m _ I4 j n Z) λd5 S ⟨z5,E,C,O,k5,e5,o⟩=>?_));subst e5;cases O;refine dR ?_;cases k5 with
  |false=>exact aqD ⟨.bl false,E,C,rfl,o⟩
  |true=>exact aqC (chain_last (gn (hd g S i E _ C o) λM P ⟨L,H6,I6,G,Y⟩=>f g P i H6 l L m M Q I6 n G Y))
def agn {a:Expr} {d:Expr} {tb:TE} (ho:LG X (compareOp op) r) (LD:LG X (compareOp î) r') (f:LG X (compareOp ź) r2) (ha:PE X a ta) (hb:PE X b tb) (hc:PE X c tc) (hd:PE X d td)
 (hm:lastMarks [op,î,ź] [b,c,d]=false:=by with_unfolding_all rfl):PT X (.Compare a [op,î,ź] [b,c,d] pos) (ah9 (aeX r r' r2 ta tb tc td)):=by
 intro g s i H Q I h
 refine aEw (gn (ha g s i H _ I h) λv O ⟨x,H1,I1,r1,q1⟩=>ayu (gn (hb g O i H1 _ I1 q1) λu G ⟨y,H2,I2,m,q2⟩=>
  gn (ho g G i H2 x y v u _ I2 r1 m q2) λd1 F ⟨z,M,J,r3,k,e,D⟩=>?_)) hm
 subst e;cases r3;refine dR ?_;cases k with
 |false=>
  obtain⟨k',l,j⟩:=D;cases l;exact aqD ⟨M,J,j⟩
 |true=>
  refine aqC (ayu (gn (hc g F i M _ J D) λo B ⟨n,H4,I4,p,q4⟩=>gn (LD g B i H4 y n u o _ I4 m p q4) λd5 q ⟨z5,L,E,Z,k5,e5,C⟩=>?_));subst e5;cases Z;refine dR ?_;cases k5 with
  |false=>
   obtain⟨k',l,j⟩:=C;cases l;exact aqD ⟨L,E,j⟩
  |true=>
   refine aqC (test_last (gn (hd g q i L _ E C) λS T ⟨P,H6,I6,Y,q6⟩=>gn (f g T i H6 n P o S _ I6 p Y q6) λd' s7 ⟨z2,H7,I7,U,k2,e2,q7⟩=>?_));subst e2;cases U;exact dR ⟨H7,I7,q7⟩
inductive I_w (C:ag) (f:Str) (x:V) (H:Hp) (Q:VK):Prop|mk a dx fs v (e:x=.ref a) (b:H a=some (.ins C dx fs)) (c:fs.lookup f=some v) (h:Q v H):I_w C f x H Q
def aqW (C:ag) (f:Str) (q:TE):TE:=fun σ H Q=>q σ H λx H1=>I_w C f x H1 Q
def aK {f:Str} (cl:Vd X.K C) (na:fK X.K C f) (B:PE X e ta) (F:attributeBase e f X.env (eval e X.env)=eval e X.env:=by rfl):PE X (.Attribute e f pos) (aqW C f ta):=by
 intro b s d H Q I h;refine amG F (gn (B b s d H _ I h) λu z ⟨x,o,n,g,a,dx,fs,v,ex,j,l,q⟩=>?_);subst ex;obtain rfl:u=bw a:=g;exact T1 n j cl na l λp y m i=>⟨v,o,m,i,q⟩
def arb (C:ag) (f:Str) (B q:TE):TS:=λD σ H=>q σ H λy H1=>B σ H1 λx H2=>∃a dx fs,x=.ref a/\H2 a=some (.ins C dx fs)/\fs.length<1000/\D.nx σ (bB H2 a (.ins C dx (yc f y fs)))
def fU {f:Str} (cl:Vd X.K C) (na:fK X.K C f) (G:PE X o ta) (B:PE X value tv) (F:swapsWith value (some (.Attribute o f pos')) pos.line X.env=pure false:=by rfl):PS X (.Assign [.Attribute o f pos'] value pos) (arb C f ta tv):=by
 intro b s d H D I h;refine plainObj_wpAny_Assign_Attribute (gn (B b s d H _ I h) λu e ⟨y,J,E,g,q⟩=>gn (G b e d J _ E q) λm M ⟨x,P,z,i,a,dx,fs,ex,n,l,j⟩=>?_) F;subst ex;obtain rfl:m=bw a:=i;exact Sv z n cl na l g λL p=>⟨d,_,p,j⟩
def ail (C:ag) (f:Str) (B q:TE) (rd:V->V->Hp->VK->Prop):TS:=λD σ H=>B σ H λx H1=>∃a dx fs v,x=.ref a/\H1 a=some (.ins C dx fs)/\fs.lookup f=some v/\
 q σ H1 λy H2=>rd v y H2 λz e=>∃d b,e a=some (.ins C d b)/\b.length<1000/\D.nx σ (bB e a (.ins C d (yc f z b)))
def SS {f:Str} {F:Operator} {rd:V->V->Hp->VK->Prop} (cl:Vd X.K C) (na:fK X.K C f) (O:PE X o ta) (G:PE X value tv) (B:ath X F rd):PS X (.AugAssign (.Attribute o f ű) F value pos) (ail C f ta tv rd):=by
 intro b s d H D I h;refine wpAny_AugAssign_AttributeAny (gn (O b s d H _ I h) λM s1 ⟨x,H1,I1,p,a,dx,fs,v,ex,S,l,q⟩=>?_);subst ex;obtain rfl:M=bw a:=p;refine T1 I1 S cl na l λu j I2 E=>gn (G b j d H1 _ I2 q) λg i ⟨y,H2,Z,n,L⟩=>gn (B b i d H2 v y u g _ Z E n L) λw4 s4 ⟨z,H3,Y,m,T,Q,e,P,J⟩=>?_
 exact Sv Y e cl na P m λs5 U=>⟨d,_,U,J⟩
def bE {z:Int} (q:Gl X x) (f:∃t,X.mg x=some (.int z t)) (hd:(x==("__debug__":Str))=false:=by decide):PE X (.Name x pos) (tC (.int z)):=by
 obtain⟨t,f⟩:=f;exact aff q f ⟨t,rfl⟩ hd
def l0 {r:ag} (q:Gl X x) (f:X.mg x=some (.ref r)) (hd:(x==("__debug__":Str))=false:=by decide):PE X (.Name x pos) (tC (.ref r)):=aff q f rfl hd
structure FnAt (P:kE) (w:World) (K:ah) (mg:Str->Option Value) (base:Heap) (CX:CXT) (k:Nat) (f:ag) (ps:List Str) (sp:Sp):Prop where
 ok:∃fd,A3 P w K mg base CX k f fd ps sp/\Binds K fd ps []
 kp:jf K (.ref f)=true
def an7 (Fs:ag->Sp->Prop) (E:XK) (q:TE) (t:TA):TE:=fun σ H Q=>q σ H λx a=>∃f sp,x=.ref f/\Fs f sp/\t σ a λvs H1=>sp vs H1 Q E
def SX {k:Nat} {Fs:ag->Sp->Prop} (hF:∀f sp,Fs f sp->FnAt X.prog X.w X.K X.mg X.base CX k f ps sp) (O:oS k X.A) (G:Passes CX X E)
 (U:PE X (.Name x p) B) (Z:PA X (e::es) t) (Y:starEach (e::es) X.env=(false,eval e X.env)::starEach es X.env:=by rfl) (Iz:(backTo pos (starEach es X.env)).any (·.1)=false:=by rfl):
 PE X (.Call (.Name x p) (e::es) [] pos) (an7 Fs E B t):=by
 intro a s d H Q I h;refine gx (gn (U a s d H _ I h) λu i ⟨y,o,n,r0,f,sp,m,b,j⟩=>?_);subst m;obtain rfl:u=bw f:=r0;obtain⟨⟨J,F,l⟩,kp⟩:=hF f sp b;refine mj (h₀:=X.base) I.ok.mod.kin kp (gn (Z pos a i d o _ n j) λC D ⟨z,L,g,r,q⟩=>⟨g.W2,?_⟩) Y Iz;exact Oo (dvs:=[]) (ds:=[]) F O l .nil G g r (by rw[cX];exact q)
def cJ (S:List ag) (H f:Hp):Prop:=∀b o,H b=some o->b∉S->f b=some o
def cJ.same (h:bt H H'):cJ S H H':=λb o e _=>h b o e
def cJ.trans (a:cJ S H H1) (b:cJ S H1 H2):cJ S H H2:=λc o e n=>b c o (a c o e n) n
def cJ.refl (S:List ag) (H:Hp):cJ S H H:=λ_ _ e _=>e
def bt.bB {p:ag} (a:bt H H') (f:H' p=none):bt H (bB H' p o):=λb u e=>by
 rw[aw (bp (a b u e) f)];exact a b u e
def bt.new {p:ag} (f:H p=none):bt H (L2.bB H p o):=(bt.refl H).bB f
def awg {c A B:Prop} [Decidable c] (q:c->A) (f:¬c->B):if decide c=true then A else B:=by
 by_cases h:c
 ·rw[az (aD h)];exact q h
 ·rw[au (by rw[ba h];exact bj)];exact f h
def arK {c A B:Prop} [Decidable c] (q:¬c->A) (f:c->B):if(!decide c)=true then A else B:=by
 by_cases h:c
 ·rw[au (by rw[aD h];exact bj)];exact f h
 ·rw[az (by rw[ba h];rfl)];exact q h
def awh {b:Bool} {A B:Prop} (q:b=true->A) (f:b=false->B):if b=true then A else B:=by
 cases b with
 |true=>exact arJ (q rfl)
 |false=>exact arL (f rfl)
def qi {Q:VK} {b c:Int} (k:Q (.int b) H) (e:c=b):Q (.int c) H:=by rw[e];exact k
def i7:LG X (compareOp .Eq) (rI0 λi j=>.bl (decide (i=j))):=by
 rintro a s b H x y v u Q I g d ⟨i,j,rfl,rfl,q⟩
 refine arw a s b H _ _ v u Q I g d ⟨rfl,?_⟩
 have e:decide (V.int i=V.int j)=decide (i=j):=by
  by_cases h:i=j
  ·rw[h];simp
  ·rw[ba h,ba (λz=>h (V.int.inj z))]
 first|exact e▸q|(rw[e];exact q)
def sE:LG X (compareOp .NotEq) (rI0 λi j=>.bl (!decide (i=j))):=by
 rintro a s b H x y v u Q I g d ⟨i,j,rfl,rfl,q⟩
 refine aru a s b H _ _ v u Q I g d ⟨rfl,?_⟩
 have e:decide (V.int i=V.int j)=decide (i=j):=by
  by_cases h:i=j
  ·rw[h];simp
  ·rw[ba h,ba (λz=>h (V.int.inj z))]
 first|exact e▸q|(rw[e];exact q)
section
variable {p c:Prop} [Decidable p] [Decidable c]
def qT {Q:VK} (k:Q (.bl (decide p)) H) (e:p):Q (.bl true) H:=by rw[aD e]at k;exact k
def qF {Q:VK} (k:Q (.bl (decide p)) H) (e:¬p):Q (.bl false) H:=by rw[ba e]at k;exact k
def qD {Q:VK} (k:Q (.bl (decide p)) H) (e:c↔p):Q (.bl (decide c)) H:=by
 by_cases h:c
 ·rw[aD h];exact qT k (e.mp h)
 ·rw[ba h];exact qF k (λz=>h (e.mpr z))
def qN {Q:VK} (k:Q (.bl (decide p)) H) (e:¬c↔p):Q (.bl (!decide c)) H:=by
 by_cases h:c
 ·rw[aD h];exact qF k (λz=>e.mpr z h)
 ·rw[ba h];exact qT k (e.mp h)
end
def SY {P:PySem.Program} {w:PySem.World} {X:Cx}:Passes (RT P w) X E0:=λ_ _ _ _ _ _ _ h=>by
 obtain⟨_,_,_,_,_,_,_,_,_,_,_,_,_,_,_,h⟩:=h;exact h.elim
open PySem PySem.Spec PyProof.Rows in
def an0 (Ms:ag->ag->Sp->Prop) (m:Str) (E:XK) (q:TE) (t:TA):TE:=fun σ H Q=>q σ H λx H1=>∃a C dx fs f sp,x=.ref a/\H1 a=some (.ins C dx fs)/\fs.lookup m=none/\Ms C f sp/\t σ H1 λvs H2=>sp (x::vs) H2 Q E
open PySem PySem.Spec PyProof.Rows in
def SW {k:Nat} {Ms:ag->ag->Sp->Prop} (hF:∀C f sp,Ms C f sp->Vd X.K C/\Meth X.K C m f/\FnAt X.prog X.w X.K X.mg X.base CX k f ps sp) (U:oS k X.A) (G:Passes CX X E)
 (Y:PE X o ta) (Z:PA X (e::es) t) (B:starEach (e::es) X.env=(false,eval e X.env)::starEach es X.env:=by rfl) (Iz:(backTo pos (starEach es X.env)).any (·.1)=false:=by rfl)
 (O:eval (.Call (.Attribute o m apos) (e::es) [] pos) X.env=(do
  let ov <-eval o X.env
  standAt apos.atName
  let(f,first) <-holding [ov] (getMethod ov m pl)
  callWith pos f first (backTo pos (starEach (e::es) X.env)) (backToKw pos (keywordEach [] X.env))):=by rfl):
 PE X (.Call (.Attribute o m apos) (e::es) [] pos) (an0 Ms m E ta t):=by
 intro b s d H Q I h;refine Hj (pl:=pl) (gn (Y b s d H _ I h) λu j ⟨x,L,i,n,a,C,dx,fs,f,sp,ex,J,l,D,q⟩=>?_) O;subst ex;obtain rfl:u=bw a:=n;obtain⟨c,y,⟨P,F,z⟩,kp⟩:=hF C f sp D;refine K0 i J c y l ?_;refine mj (first:=[.ref a]) (h₀:=X.base) I.ok.mod.kin kp (gn (Z pos b j d L _ i q) λus M ⟨vs,S,g,r,p⟩=>⟨g.W2,?_⟩) B Iz;exact Oo (us:=.ref a::us) (vs:=.ref a::vs) (dvs:=[]) (ds:=[]) F U z .nil G g (.cons rfl r) (by rw[cX];exact p)
section
open PySem
def jI:bootBuiltins "len"=some (.builtin "len"):=by decide+kernel
def Uu:bootBuiltins "min"=some (.builtin "min"):=by decide+kernel
def Zw:bootBuiltins "max"=some (.builtin "max"):=by decide+kernel
def apC:bootBuiltins "any"=some (.builtin "any"):=by decide+kernel
def O0:bootBuiltins "all"=some (.builtin "all"):=by decide+kernel
def ajX:bootBuiltins "sum"=some (.builtin "sum"):=by decide+kernel
def apB:bootBuiltins "ord"=some (.builtin "ord"):=by decide+kernel
def Xy:bootBuiltins "sorted"=some (.builtin "sorted"):=by decide+kernel
def GC:bootBuiltins "tuple"=some (.type "tuple"):=by decide+kernel
def RO:bootBuiltins "list"=some (.type "list"):=by decide+kernel
end
def pQ (K:ah) (a:ag) (xs:List V):Prop:=∃(o:Obj) (dM:Array Value) (n:Nat),K.lookup a=some o/\o.cls=.type "tuple"/\o.data=.seq dM n/\dM.size<=sizeLine/\Vals xs dM.toList
def pQ.sq (h:pQ K a xs) (H:Hp):gL K H a xs:=.inr h
def anU {q:Option ag} {f:Array Value} (l:K.lookup a=some ⟨.type "tuple",q,.seq f n,sl⟩) (z:f.size<=sizeLine) (v:Vals xs f.toList):pQ K a xs:=⟨_,f,n,l,rfl,rfl,z,v⟩
structure Pa (H1:Hp) (D:ag) (xs:List V) (p:V->Bool) (f:V->V) (i:Nat) (H:Hp):Prop where
 free:H1 D=none
 same:bt H1 H
 acc:H D=some (.lst (((xs.take i).filter p).map f))
def Pa.zero {D:ag} {p:V->Bool} {f:V->V} (q:H1 D=none):Pa H1 D xs p f 0 (bB H1 D (.lst [])):=⟨q,bt.new q,ao⟩
def take_one {α:Type} {l:List α} {x:α} (h:l[i]? =some x):l.take (i+1)=l.take i++[x]:=by
 rw[List.take_succ,h];rfl
def Pa.yes {D:ag} {p:V->Bool} {f:V->V} {x:V} (h:Pa H1 D xs p f i H) (q:xs[i]? =some x) (F:p x=true) (s:bt H H4) (G:xs.length<=sizeLine) (B:y=f x):∃acc,H4 D=some (.lst acc)/\acc.length<sizeLine/\Pa H1 D xs p f (i+1) (bB H4 D (.lst (acc++[y]))):=by
 subst B;refine⟨_,s _ _ h.acc,?_,h.free,λb o e=>?_,?_⟩
 ·rw[ae];have:=cN p (xs.take i);have a:=(aQ.mp q).1;rw[b7]at this;omega
 ·rw[aw (bp e h.free)];exact s _ _ (h.same _ _ e)
 ·rw[ao,take_one q,eT,cQ,az F,aT];rfl
def Pa.done {D:ag} {p:V->Bool} {f:V->V} (h:Pa H1 D xs p f xs.length H):bt H1 H/\H D=some (.lst ((xs.filter p).map f)):=⟨h.same,by rw[h.acc,de]⟩
def all_map {α:Type} (l:List α) (g:α->Bool):(l.map g).all id=l.all g:=by rw[atN];rfl
def any_map {α:Type} (l:List α) (g:α->Bool):(l.map g).any id=l.any g:=by rw[Va];rfl
def bt.nj (e:bt H H') (h:gL K H a xs):gL K H' a xs:=by
 rcases h with(h|⟨o,h⟩)|h
 ·exact .inl (.inl (e _ _ h))
 ·exact .inl (.inr ⟨o,e _ _ h⟩)
 ·exact .inr h
@[irreducible] def Lk (J:It) (g:TG) (tb:TS) (D:Ends) (σ:St) (H1:Hp):Prop:=∃W:Nat->Nat->St->Hp->Prop,(∃m,W 0 m σ H1)/\∀i m σ H,W i m σ H->
 (J.stop i H/\D.nx σ H)\/(J.go i H/\∃N:St->Hp->Prop,(∀η H',N η H'->∃m',m'<m/\W (i+1) m' η H')/\∀x H',J.yld i H x H'->g x σ H' fun ζ H2=>tb {D with nx:=N,ct:=N,bk:=D.nx} ζ H2)
def aic (f:TI) (g:TG) (tb:TS):TS:=λD σ H=>f σ H λJ H1=>Lk J g tb D σ H1
def j8 (q:PassesOwn (model X.prog X.w) X.A X.env X.xe) (F:X.calm=true) (hi:PI X tg iter wi) (B:PG X tg g) (G:PSs X body tb)
 (f:∀x,foldedSetIterable iter X.env x=pure x:=by intro _;rfl):PS X (.For tg iter body [] pos) (aic wi g tb):=by
 have e:aic wi g tb=an2 wi g tb:=by
  funext D a H
  unfold aic an2 Lk;rfl
 rw[e];exact aon q F hi B G f
def pw (Pv:Nat->St->Hp->Prop) (F:Pv 0 σ H) (B:∀i σ H,i<=xs.length->Pv i σ H->dv K H a xs)
 (q:∀i x σ H,xs[i]? =some x->Pv i σ H->L_d {D with nx:=Pv (i+1),ct:=Pv (i+1),bk:=D.nx} σ fun D σ=>g x σ H fun f G=>tb D f G) (hd:∀σ H,Pv xs.length σ H->D.nx σ H):Lk (Itl K a) g tb D σ H:=by
 unfold Lk;exact ajx Pv F B q hd
def ajy (Pv:Nat->St->Hp->Prop) (F:Pv 0 σ H) (B:∀i σ H,i<=xs.length->Pv i σ H->gL K H a xs)
 (q:∀i x σ H,xs[i]? =some x->Pv i σ H->L_d {D with nx:=Pv (i+1),ct:=Pv (i+1),bk:=D.nx} σ fun D σ=>g x σ H fun f G=>tb D f G) (hd:∀σ H,Pv xs.length σ H->D.nx σ H):Lk (Itt K a) g tb D σ H:=by
 unfold Lk;exact amu Pv F B q hd
def ad4 (Pv:Nat->St->Hp->Prop) (B:Pv 0 σ H)
 (q:∀i σ H,i<n->Pv i σ H->L_d {D with nx:=Pv (i+1),ct:=Pv (i+1),bk:=D.nx} σ fun D σ=>g (.int (lo+i)) σ H fun f F=>tb D f F) (hd:∀σ H,Pv n σ H->D.nx σ H):Lk (Itr lo n) g tb D σ H:=by
 unfold Lk;exact ag2 Pv B q hd
@[irreducible] def ZV (W:Nat->L2.St->Hp->Prop) (m:Nat) (σ:L2.St) (H:Hp):Prop:=∃m',m'<m/\W m' σ H
def less {W:Nat->L2.St->Hp->Prop} {m m':Nat} (h:m'<m) (w:W m' σ H):ZV W m σ H:=by unfold ZV;exact⟨m',h,w⟩
def ZV.out {W:Nat->L2.St->Hp->Prop} {m:Nat} (h:ZV W m σ H):∃m',m'<m/\W m' σ H:=by unfold ZV at h;exact h
@[irreducible] def WhileI (c:TT) (tb:TS) (D:Ends) (σ:St) (H:Hp):Prop:=∃W:Nat->St->Hp->Prop,(∃m,W m σ H)/\∀m σ H,W m σ H->
 c σ H λb H1=>if b=true then tb {D with nx:=ZV W m,ct:=ZV W m,bk:=D.nx} σ H1 else D.nx σ H1
def aeV (c:TT) (tb:TS):TS:=λD σ H=>WhileI c tb D σ H
def Ow {q:TT} (B:PassesOwn (model X.prog X.w) X.A X.env X.xe) (F:PT X c q) (G:PSs X body tb):PS X (.While c body [] pos) (aeV q tb):=by
 intro a s J H D I h;unfold aeV WhileI at h;obtain⟨W,⟨m0,P⟩,L⟩:=h;refine wpAny_While (codeAny_whileLoop (λn T=>∃x E,Inv X a x E T/\W n x E) ?_ m0 ⟨J,H,I,P⟩)
 rintro n S ⟨d,C,O,M⟩
 refine oV B (gn (F a S d C _ O (L n d C M)) λb Q ⟨z,y,l⟩=>?_);cases b with
 |true=>
  rw[az rfl]at l;rw[az rfl];refine oV B (gn (G a Q d z _ y l) λf U e=>?_);cases f with
  |next=>
   obtain⟨g,u,p,j⟩:=e;obtain⟨m,o,i⟩:=j.out;exact⟨m,o,g,u,p,i⟩
  |cont=>
   obtain⟨g,u,p,j⟩:=e;obtain⟨m,o,i⟩:=j.out;exact⟨m,o,g,u,p,i⟩
  |brk=>exact e
  |ret v=>exact e
 |false=>
  rw[au bj];exact uT ⟨d,z,y,l⟩
def ac3 {c:TT} (W:Nat->St->Hp->Prop) (B:∃m,W m σ H) (q:∀m σ H,W m σ H->
 L_d {D with nx:=ZV W m,ct:=ZV W m,bk:=D.nx} σ fun N σ=>c σ H λb f=>if b=true then tb N σ f else D.nx σ f):WhileI c tb D σ H:=by
 unfold WhileI;exact⟨W,B,q⟩
@[irreducible] def LcI (J:It) (g:TG) (tt:TT) (te:TE) (vs:List Nat) (σ:St) (H1:Hp) (Q:VK):Prop:=∀D,H1 D=none->∃W:Nat->Nat->Hp->Prop,(∃m,W 0 m (bB H1 D (.lst [])))/\∀i m H,W i m H->
 (J.stop i H/\Q (.ref D) H)\/(J.go i H/\∃Nx:Hp->Prop,(∀H',Nx H'->∃m',m'<m/\W (i+1) m' H')/\∀x H',J.yld i H x H'->g x (wipe σ vs) H' fun ζ H2=>wipe ζ vs=wipe σ vs/\tt ζ H2 λb H3=>
  if b=true then te ζ H3 λy H4=>∃acc,H4 D=some (.lst acc)/\acc.length<sizeLine/\Nx (bB H4 D (.lst (acc++[y])))else Nx H3)
def an1 (f:TI) (g:TG) (q:TT) (B:TE) (vs:List Nat):TE:=fun σ H Q=>f σ H λJ H1=>LcI J g q B vs σ H1 Q
def oN (G:X.calm=true) (I:X.N.Nodup) (hi:PI X tg iter wi) (ok:acC X.N X.env.scope scope own)
 (B:∀(s:aJ) (H:Hp) (C:ag) (cl:List (Str×ag)) (fp:List ag),PG (X.Zx s H scope (compEnvC scope cl C X.env) fp) tg g) (f:∀(s:aJ) (H:Hp) (C:ag) (cl:List (Str×ag)) (fp:List ag),PTs (X.Zx s H scope (compEnvC scope cl C X.env) fp) æ tt)
 (F:∀(s:aJ) (H:Hp) (C:ag) (cl:List (Str×ag)) (fp:List ag),PE (X.Zx s H scope (compEnvC scope cl C X.env) fp) À te) (q:∀x,foldedSetIterable iter X.env x=pure x:=by intro _;rfl):
 PE X (.ListComp À [⟨tg,iter,æ,0⟩] scope pos) (an1 wi g tt te (own.map (·.2))):=by
 have e:an1 wi g tt te (own.map (·.2))=tLc wi g tt te (own.map (·.2)):=by
  funext a H Q
  unfold an1 tLc LcI;rfl
 rw[e];exact ars G I hi ok B f F q
@[irreducible] def jJ (D:ag) (N:Hp->Prop) (y:V) (H4:Hp):Prop:=∃acc,H4 D=some (.lst acc)/\acc.length<sizeLine/\N (bB H4 D (.lst (acc++[y])))
def FV {D:ag} {N:Hp->Prop} (h:∃acc,H4 D=some (.lst acc)/\acc.length<sizeLine/\N (bB H4 D (.lst (acc++[y])))):jJ D N y H4:=by unfold jJ;exact h
def HH {D:ag} {N:Hp->Prop}:jJ D N=λy f=>∃acc,f D=some (.lst acc)/\acc.length<sizeLine/\N (bB f D (.lst (acc++[y]))):=by
 funext y f
 unfold jJ;rfl
def MO {vs:List Nat} (Pv:ag->Nat->Hp->Prop) (I:∀D,H1 D=none->Pv D 0 (bB H1 D (.lst []))) (G:∀D i H,Pv D i H->dv K H a xs)
 (F:∀D i x H,H1 D=none->xs[i]? =some x->Pv D i H->g x (wipe σ vs) H fun f O=>wipe f vs=wipe σ vs/\tt f O λb B=>if b=true then te f B (jJ D (Pv D (i+1)))else Pv D (i+1) B)
 (hd:∀D H,H1 D=none->Pv D xs.length H->Q (.ref D) H):LcI (Itl K a) g tt te vs σ H1 Q:=by
 unfold LcI;intro D d;refine al7 (Pv D) (I D d) (λi H _ h=>G D i H h) (λi x H e h=>?_) (λH h=>hd D H d h);have q:=F D i x H d e h;rw[HH]at q;exact q
def al9 {vs:List Nat} (Pv:ag->Nat->Hp->Prop) (I:∀D,H1 D=none->Pv D 0 (bB H1 D (.lst []))) (G:∀D i H,Pv D i H->gL K H a xs)
 (F:∀D i x H,H1 D=none->xs[i]? =some x->Pv D i H->g x (wipe σ vs) H fun f O=>wipe f vs=wipe σ vs/\tt f O λb B=>if b=true then te f B (jJ D (Pv D (i+1)))else Pv D (i+1) B)
 (hd:∀D H,H1 D=none->Pv D xs.length H->Q (.ref D) H):LcI (Itt K a) g tt te vs σ H1 Q:=by
 unfold LcI;intro D d;refine aoK (Pv D) (I D d) (λi H _ h=>G D i H h) (λi x H e h=>?_) (λH h=>hd D H d h);have q:=F D i x H d e h;rw[HH]at q;exact q
def abB {vs:List Nat} (p:V->Bool) (f:V->V) (G:dv K H1 a xs) (hz:xs.length<=sizeLine)
 (F:∀D i x H,H1 D=none->xs[i]? =some x->Pa H1 D xs p f i H->g x (wipe σ vs) H fun q I=>wipe q vs=wipe σ vs/\tt q I λb B=>if b=true then te q B (jJ D (Pa H1 D xs p f (i+1)))else Pa H1 D xs p f (i+1) B)
 (hd:∀D H,H1 D=none->bt H1 H->H D=some (.lst ((xs.filter p).map f))->Q (.ref D) H):LcI (Itl K a) g tt te vs σ H1 Q:=
 MO (λD=>Pa H1 D xs p f) (λD d=>Pa.zero d) (λD i H h=>h.same.seq G) F (λD H d h=>hd D H d h.done.1 h.done.2)
def afm {vs:List Nat} (p:V->Bool) (f:V->V) (G:gL K H1 a xs) (hz:xs.length<=sizeLine)
 (F:∀D i x H,H1 D=none->xs[i]? =some x->Pa H1 D xs p f i H->g x (wipe σ vs) H fun q I=>wipe q vs=wipe σ vs/\tt q I λb B=>if b=true then te q B (jJ D (Pa H1 D xs p f (i+1)))else Pa H1 D xs p f (i+1) B)
 (hd:∀D H,H1 D=none->bt H1 H->H D=some (.lst ((xs.filter p).map f))->Q (.ref D) H):LcI (Itt K a) g tt te vs σ H1 Q:=
 al9 (λD=>Pa H1 D xs p f) (λD d=>Pa.zero d) (λD i H h=>h.same.nj G) F (λD H d h=>hd D H d h.done.1 h.done.2)
def Pa.next {D:ag} {p:V->Bool} {f:V->V} {x:V} (h:Pa H1 D xs p f i H) (B:xs[i]? =some x) (F:p x=true) (s:bt H H4) (G:xs.length<=sizeLine) (q:y=f x):jJ D (Pa H1 D xs p f (i+1)) y H4:=FV (h.yes B F s G q)
def intOf:V->Int
 |.int i=>i
 |_=>0
def abz {l:List Int} {g:Int->Bool} {p:V->Bool} (f:∀v,p v=true):(((l.map V.int).filter p).map λv=>V.bl (g (intOf v)))=(l.map g).map V.bl:=by
 rw[cD.mpr (λv _=>f v),bq,bq];rfl
def RM {l:List Int} {x:V} (h:(l.map V.int)[i]? =some x):∃z,x=.int z/\l[i]? =some z:=by
 rw[aV]at h;cases e:l[i]? with
 |none=>rw[e]at h;cases h
 |some z=>rw[e]at h;exact⟨z,(ay h).symm,rfl⟩
def ajt:atf X (ark X.K):=by
 intro a s n H x y v u Q I C o h;obtain⟨p,f,i,z,rfl,rfl,D,J,q⟩:=h;cases C;obtain⟨t,rfl⟩:=o;obtain⟨S,r,g,B⟩:=I.list D;obtain⟨j,b,P,G,M,L⟩:=ZG J;obtain⟨w,m,T⟩:=r.get P;have E:=r.length;have F:=OO;have e:EP X a n Q w s:=⟨z,H,I,T,q⟩;by_cases l:0<=i
 ·have d:i.toNat=j:=by
   rw[aeH l L]at b;exact ay b
  exact wpAny_getItem_list g.isList l (by omega) (by rw[d];simpa using m) e
 ·have d:(i+(S.toArray.size:Int)).toNat=j:=by
   rw[aad (by omega) M]at b;rw[bz,<-E];exact ay b
  exact akO g.isList (by omega) (by rw[bz]<;>omega) (by omega) (by rw[d];simpa using m) e
def yG (h:X.K=K:=by rfl):IxR X (arj K):=by subst h;exact fg
def JY (h:X.K=K:=by rfl):ra X (.builtin "len") (λxs H Q=>∃p ys,xs=[.ref p]/\(dv K H p ys\/gL K H p ys)/\Q (.int ys.length) H):=by subst h;exact eL
structure LcG {δ:Type} (H1:Hp) (D:ag) (ds:List δ) (p:δ->Bool) (f:δ->V) (i:Nat) (H:Hp):Prop where
 free:H1 D=none
 same:bt H1 H
 acc:H D=some (.lst (((ds.take i).filter p).map f))
def LcG.zero {q:Type} {D:ag} {ds:List q} {p:q->Bool} {f:q->V} (B:H1 D=none):LcG H1 D ds p f 0 (bB H1 D (.lst [])):=⟨B,bt.new B,ao⟩
def LcG.next {q:Type} {D:ag} {ds:List q} {p:q->Bool} {f:q->V} {x:q} (h:LcG H1 D ds p f i H) (B:ds[i]? =some x) (G:p x=true) (s:bt H H4) (I:ds.length<=sizeLine) (F:y=f x):jJ D (LcG H1 D ds p f (i+1)) y H4:=by
 subst F;refine FV ⟨_,s _ _ h.acc,?_,h.free,λb o e=>?_,?_⟩
 ·rw[ae];have:=cN p (ds.take i);have a:=(aQ.mp B).1;rw[b7]at this;omega
 ·rw[aw (bp e h.free)];exact s _ _ (h.same _ _ e)
 ·rw[ao,take_one B,eT,cQ,az G,aT];rfl
def LcG.no {q:Type} {D:ag} {ds:List q} {p:q->Bool} {f:q->V} {x:q} (h:LcG H1 D ds p f i H) (B:ds[i]? =some x) (F:p x=false) (s:bt H H4):LcG H1 D ds p f (i+1) H4:=by
 refine⟨h.free,h.same.trans s,?_⟩;rw[s _ _ h.acc,take_one B,eT,cQ,au (by rw[F];exact bj),XR,cX]
def MP {B:Type} {vs:List Nat} (ds:List B) (p:B->Bool) (f:B->V) (O:dv K H1 a xs) (G:xs.length=ds.length)
 (I:∀D i x d H,H1 D=none->xs[i]? =some x->ds[i]? =some d->LcG H1 D ds p f i H->g x (wipe σ vs) H fun q U=>wipe q vs=wipe σ vs/\tt q U λb F=>if b=true then te q F (jJ D (LcG H1 D ds p f (i+1)))else LcG H1 D ds p f (i+1) F)
 (hd:∀D H,H1 D=none->bt H1 H->H D=some (.lst ((ds.filter p).map f))->Q (.ref D) H):LcI (Itl K a) g tt te vs σ H1 Q:=by
 refine MO (xs:=xs) (λD=>LcG H1 D ds p f) (λD e=>LcG.zero e) (λD i H h=>h.same.seq O) (λD i x H e j h=>?_) (λD H e h=>?_)
 ·have l:=(aQ.mp j).1;exact I D i x _ H e j (aZ (by omega)) h
 ·refine hd D H e h.same ?_;rw[h.acc,G,de]
def adG {E:Value->aJ->Prop} {j t:ag} {dM} {x:Value} {Q:Value->aJ->Prop} (f:s.heap.IsTupleIter j t i) (F:s.heap.IsTuple t dM) (q:dM[i]? =some x)
 (B:∀h',h'.IsTupleIter j t (i+1)->hZ j s.heap h'->Q x {s with heap:=h'}):wpAny (model P w) A (fM (.ref j)) Q E s:=by
 obtain⟨h,b,e,a⟩:=id f;obtain⟨g,d,_,l,dt⟩:=F;unfold fM;refine af (fz (name:=lK "__next__") f.typeIs pN (eW pN f.typeIs acN ?_ (aai _)));show wpAny _ _ (field (.ref j) 0>>= _) _ _ s;refine af (ip b a (x:=.ref t) rfl ?_);show wpAny _ _ (if(bw t==fZ)=true then _ else _) _ _ _;rw[au (show ¬((bw t==fZ)=true) by exact bj)];show wpAny _ _ (field (.ref j) 1>>= _) _ _ s;refine af (ip b a (x:=.int i 0) rfl ?_);show wpAny _ _ (seqItems? (.ref t)>>= _) _ _ _;refine af (rq d dt ?_);simp only[q,dz];refine af (Hi b a (by simp) (aN ⟨x,rfl,(aN (B _ ?_ (i4 ..)))⟩));refine⟨_,vL _ b (ahG (Bd a _)),(amP ..).trans e,?_⟩;rw[Bd a];simp[rawInt]
def VO {E:Value->aJ->Prop} {j t:ag} {dM} {Q:Value->aJ->Prop} (q:A.handled=none) (f:s.heap.IsTupleIter j t i) (G:s.heap.IsTuple t dM) (B:dM[i]? =none)
 (F:∀h' e,ah2 j s.heap h'->(∃o,h'.get? e=some o/\o.cls=.type "StopIteration")->E (.ref e) {s with heap:=h'}):wpAny (model P w) A (fM (.ref j)) Q E s:=by
 obtain⟨l,b,p,d⟩:=id f;obtain⟨h,g,_,n,dt⟩:=G;unfold fM;refine af (fz (name:=lK "__next__") f.typeIs pN (eW pN f.typeIs acN ?_ (aai _)));show wpAny _ _ (field (.ref j) 0>>= _) _ _ s;refine af (ip b d (x:=.ref t) rfl ?_);show wpAny _ _ (if(bw t==fZ)=true then _ else _) _ _ _;rw[au (show ¬((bw t==fZ)=true) by exact bj)];show wpAny _ _ (field (.ref j) 1>>= _) _ _ s;refine af (ip b d (x:=.int i 0) rfl ?_);show wpAny _ _ (seqItems? (.ref t)>>= _) _ _ _;refine af (rq g dt ?_);simp only[B,dz];refine af (QE (af (Hi b d (by simp) ?_)));show wpAny _ _ (newExc (.type "StopIteration") []>>= _) _ _ _;refine af ?_;simp only[newTuple,newExc];refine af (gT ?_ (by(size_fits)));refine af (m:=firstArgMember _ _) (apR (a:=fZ) (by(first|rfl|(simp only[firstArgMember];rfl))) ?_);refine(gT ?_ (by size_fits));simp only[raiseNew];refine af (akg ?_)
 (first|rw[show A.in1.handled=none from q]|rw[q])
 refine(af (aN (apQ ?_)));exact F _ _ (((i4 ..).extBut.push _).push _) ⟨_,bf _ rfl,rfl⟩
def af3 {E:Value->aJ->Prop} {f:ag} {xs:Array Value} {x y a:Value} {Q:Value->aJ->Prop} (D:ZipApart z ti f ia ib la lb)
 (hz:IsZip s.heap z ti f .none) (O:IsPair s.heap ti (.ref ia) (.ref ib)) (q:IsPair s.heap f a b)
 (ha:s.heap.IsTupleIter ia la ka) (hb:s.heap.IsListIter ib lb kb) (U:s.heap.IsTuple la xs) (Y:s.heap.IsList lb ys) (hx:xs[ka]? =some x) (hy:ys[kb]? =some y)
 (hQ:∀h',IsZip h' z ti f (rawInt s.heap.objs.size)->IsPair h' f x y->h'.IsTupleIter ia la (ka+1)->h'.IsListIter ib lb (kb+1)->IsPair h' s.heap.objs.size x y->h'.objs.size=s.heap.objs.size+1->
  (∀c o,c≠z->c≠f->c≠ia->c≠ib->s.heap.get? c=some o->h'.get? c=some o)->Q (.ref s.heap.objs.size) {s with heap:=h'}):
 wpAny (model P w) A (Builtin.«zip.__next__» ⟨[.ref z],[]⟩) (λI s'=>∃v,I=.done (.ret v)/\Q v s') E s:=by
 show wpAny _ _ (field (.ref z) 2>>= _) _ _ s;refine af (ip hz rfl (x:=pW false) rfl ?_);show wpAny _ _ (field (.ref z) 3>>= _) _ _ s;refine af (ip hz rfl (x:=bw ti) rfl ?_);refine af (rq O rfl ?_);show wpAny _ _ (iN (.ref z)>>= _) _ _ s;refine af ?_;unfold iN;refine af (ip hz rfl (x:=fZ) rfl (aN ?_));simp only[rb];refine(af (QE ?_));refine af (ip hz rfl (x:=bw f) rfl ?_);refine af (gw hz (by simp) λg1 J d=>?_)
 replace J:IsZip g1 z ti f .ellipsis:=J
 refine af ?_;simp only[anP,amQ,NX,XQ];refine(af (af (akf ?_)));show wpAny _ _ (fM (.ref ia)>>= _) _ _ _;refine af (adG (ha.extBut d.extBut D.i1z) (U.extBut d.extBut D.l1z) hx λg2 a2 h=>aN ?_);have B:IsPair g2 f a b:=h.extBut _ _ D.TOi1 (d.extBut _ _ D.TOz q);refine af (rq B rfl ?_);refine af (anJ B λg3 L g=>?_)
 replace L:IsPair g3 f x b:=L
 refine(af (Lu (aN ?_)));refine(af (af (akf ?_)));show wpAny _ _ (fM (.ref ib)>>= _) _ _ _;refine af (wpAny_nextOf_list_item (((hb.extBut d.extBut D.i2z).extBut h.extBut D.i12.symm).extBut g.extBut D.TOi2.symm) (((Y.extBut d.extBut D.l2z).extBut h.extBut D.l2i1).extBut g.extBut D.l2TO) hy λg4 b4 l=>aN ?_);have X:IsPair g4 f x b:=l.extBut _ _ D.TOi2 L;refine af (rq X rfl ?_);refine af (anJ X λg5 C j=>?_)
 replace C:IsPair g5 f x y:=C
 refine(af (Lu (aN (aN ?_))));refine af (rq C rfl ?_);refine(af (az3 ?_));have m:g5.objs.size=s.heap.objs.size:=by rw[j.1,l.1,g.1,h.1,d.1]
 have T:IsZip g5 z ti f .ellipsis:=j.extBut _ _ D.TOz.symm (l.extBut _ _ D.i2z.symm (g.extBut _ _ D.TOz.symm (h.extBut _ _ D.i1z.symm J)))
 have k5:∀c o,c≠z->c≠f->c≠ia->c≠ib->s.heap.get? c=some o->g5.get? c=some o:=λc o c1 c2 c3 c4 e=>
  j.extBut _ _ c2 (l.extBut _ _ c4 (g.extBut _ _ c2 (h.extBut _ _ c3 (d.extBut _ _ c1 e))))
 have a5:g5.IsTupleIter ia la (ka+1):=((a2.extBut g.extBut D.TOi1.symm).extBut l.extBut D.i12).extBut j.extBut D.TOi1.symm;have b5:g5.IsListIter ib lb (kb+1):=b4.extBut j.extBut D.TOi2.symm;have i:z<g5.objs.size:=bK T;show wpAny _ _ (zL (.ref z) (.ref g5.objs.size)>>= _) _ _ _;refine af ?_;unfold zL;have Z:IsZip (g5.push {cls:=.type "tuple",data:=.seq #[x,y]}) z ti f .ellipsis:=aB _ T
 refine af (gw Z (by simp) λg7 H S=>?_)
 replace H:IsZip g7 z ti f (rawInt g5.objs.size):=H
 refine gw H (by simp) λn p M=>?_
 replace p:IsZip n z ti f (rawInt g5.objs.size):=p
 have u:∀c o,c≠z->g5.get? c=some o->n.get? c=some o:=λc o c1 e=>M.extBut _ _ c1 (S.extBut _ _ c1 (aB _ e))
 have G:IsPair n g5.objs.size x y:=M.extBut _ _ (nE i) (S.extBut _ _ (nE i) (bf _ rfl));have F:n.objs.size=g5.objs.size+1:=by rw[M.1,S.1,dJ]
 rw[m]at p G F;refine aN ⟨_,rfl,?_⟩;show Q (.ref g5.objs.size) _;rw[m];exact hQ n p (u _ _ D.TOz C) (a5.at λo e=>u _ o D.i1z e) (b5.at λo e=>u _ o D.i2z e) G F λc o c1 c2 c3 c4 e=>u c o c1 (k5 c o c1 c2 c3 c4 e)
def ah5 {E:Value->aJ->Prop} {f:ag} {kb:Nat} {xs ys:Array Value} {a b:Value} {Q:Fin->aJ->Prop} (I:A.handled=none) (D:ZipApart z ti f ia ib la lb)
 (hz:IsZip s.heap z ti f .none) (B:IsPair s.heap ti (.ref ia) (.ref ib)) (O:s.heap.IsTupleIter ia la ka) (F:s.heap.IsTuple la xs) (G:xs[ka]? =none)
 (U:∀h' e,(∀c o,c≠z->c≠f->c≠ia->c≠ib->s.heap.get? c=some o->h'.get? c=some o)->(∃o,h'.get? e=some o/\o.cls=.type "StopIteration")->E (.ref e) {s with heap:=h'}):
 wpAny (model P w) A (Builtin.«zip.__next__» ⟨[.ref z],[]⟩) Q E s:=by
 show wpAny _ _ (field (.ref z) 2>>= _) _ _ s;refine af (ip hz rfl (x:=pW false) rfl ?_);show wpAny _ _ (field (.ref z) 3>>= _) _ _ s;refine af (ip hz rfl (x:=bw ti) rfl ?_);refine af (rq B rfl ?_);show wpAny _ _ (iN (.ref z)>>= _) _ _ s;refine af ?_;unfold iN;refine af (ip hz rfl (x:=fZ) rfl (aN ?_));simp only[rb];refine(af (QE ?_));refine af (ip hz rfl (x:=bw f) rfl ?_);refine af (gw hz (by simp) λC d g=>?_)
 replace d:IsZip C z ti f .ellipsis:=d
 refine af ?_;simp only[anP,amQ,NX,XQ];refine(af (af (akf ?_)));show wpAny _ _ (fM (.ref ia)>>= _) _ _ _;refine af (VO I (O.extBut g.extBut D.i1z) (F.extBut g.extBut D.l1z) G λy e l p=>?_);obtain⟨n,h,m⟩:=p;have i:IsZip y z ti f .ellipsis:=l _ _ D.i1z.symm d
 have ne:e≠z:=λq=>by
  subst q;rw[i]at h;cases h;simp at m
 refine gw i (by simp) λu _ j=>U u e (λc o c1 _ c3 _ q=>j.extBut _ _ c1 (l _ _ c3 (g.extBut _ _ c1 q))) ⟨n,j.extBut _ _ ne h,m⟩
def agz {E:Value->aJ->Prop} {f:ag} {xs:Array Value} {x y a:Value} {Q:Option Value->aJ->Prop} (D:ZipApart z ti f ia ib la lb)
 (hz:IsZip s.heap z ti f .none) (B:IsPair s.heap ti (.ref ia) (.ref ib)) (q:IsPair s.heap f a b)
 (Y:s.heap.IsTupleIter ia la ka) (U:s.heap.IsListIter ib lb kb) (F:s.heap.IsTuple la xs) (G:s.heap.IsList lb ys) (O:xs[ka]? =some x) (I:ys[kb]? =some y)
 (Z:∀h',IsZip h' z ti f (rawInt s.heap.objs.size)->IsPair h' f x y->h'.IsTupleIter ia la (ka+1)->h'.IsListIter ib lb (kb+1)->IsPair h' s.heap.objs.size x y->h'.objs.size=s.heap.objs.size+1->
  (∀c o,c≠z->c≠f->c≠ia->c≠ib->s.heap.get? c=some o->h'.get? c=some o)->Q (some (.ref s.heap.objs.size)) {s with heap:=h'}):
 wpAny (model P w) A (pyNext (.ref z)) Q E s:=by
 have ty:s.TypeIs (.ref z) "zip":=⟨_,hz,rfl⟩;unfold pyNext
 exact af (A9 (fz (name:=lK "__next__") ty NY (eW NY ty aqL
  (af3 D hz B q Y U F G O I λh' l j i h g e d=>aN (Z h' l j i h g e d)) (ap2 _))))
def YU {E:Value->aJ->Prop} {f:ag} {xs:Array Value} {Q:Option Value->aJ->Prop} (G:A.handled=none) (D:ZipApart z ti f ia ib la lb)
 (hz:IsZip s.heap z ti f .none) (q:IsPair s.heap ti (.ref ia) (.ref ib)) (I:s.heap.IsTupleIter ia la ka) (B:s.heap.IsTuple la xs) (F:xs[ka]? =none)
 (O:∀h',(∀c o,c≠z->c≠f->c≠ia->c≠ib->s.heap.get? c=some o->h'.get? c=some o)->Q none {s with heap:=h'}):wpAny (model P w) A (pyNext (.ref z)) Q E s:=by
 have ty:s.TypeIs (.ref z) "zip":=⟨_,hz,rfl⟩;unfold pyNext
 refine af (A9 (fz (name:=lK "__next__") ty NY (eW NY ty aqL
  (ah5 (kb:=0) (ys:= #[]) (a:=.none) (b:=.none) G D hz q I B F λh' e d g=>?_) (ap2 _))))
 obtain⟨o,h,i⟩:=g;exact af (acD (T:="StopIteration") (b:=true) ⟨o,h,i⟩ ahA (aN (O _ d)))
def aro {h:Heap} (I:o1.isFreed=false) (G:o2.isFreed=false) (F:o3.isFreed=false) (B:o4.isFreed=false) (f:o5.isFreed=false):
 let g:=((((h.push o1).push o2).push o3).push o4).push o5
 g.get? h.objs.size=some o1/\g.get? (h.objs.size+1)=some o2/\g.get? (h.objs.size+2)=some o3/\g.get? (h.objs.size+3)=some o4/\g.get? (h.objs.size+4)=some o5/\g.objs.size=h.objs.size+5/\∀c o,h.get? c=some o->g.get? c=some o:=by
 have e:(h.push o1).objs.size=h.objs.size+1:=dJ ..;have d:((h.push o1).push o2).objs.size=h.objs.size+2:=by rw[dJ,e]
 have b:(((h.push o1).push o2).push o3).objs.size=h.objs.size+3:=by rw[dJ,d]
 have a:((((h.push o1).push o2).push o3).push o4).objs.size=h.objs.size+4:=by rw[dJ,b]
 refine⟨?_,?_,?_,?_,?_,by rw[dJ,a],λc o q=>aB _ (aB _ (aB _ (aB _ (aB _ q))))⟩
 ·exact aB _ (aB _ (aB _ (aB _ (bf _ I))))
 ·rw[<-e];exact aB _ (aB _ (aB _ (bf _ G)))
 ·rw[<-d];exact aB _ (aB _ (bf _ F))
 ·rw[<-b];exact aB _ (bf _ B)
 ·rw[<-a];exact bf _ f
def adO (f q:ag) (xs ys:Array Value):
 Meets (Builtin.«zip.__new__» ⟨[.type "zip",.ref f,.ref q],[]⟩) (λ_ R s=>s.heap.IsTuple f xs/\s.heap.IsList q ys/\
  ∀h',IsZip h' (s.heap.objs.size+4) (s.heap.objs.size+2) (s.heap.objs.size+3) .none->IsPair h' (s.heap.objs.size+2) (.ref s.heap.objs.size) (.ref (s.heap.objs.size+1))->
   IsPair h' (s.heap.objs.size+3) .none .none->h'.IsTupleIter s.heap.objs.size f 0->h'.IsListIter (s.heap.objs.size+1) q 0->h'.objs.size=s.heap.objs.size+5->
   (∀c o,s.heap.get? c=some o->h'.get? c=some o)->R (.ok (.ret (.ref (s.heap.objs.size+4)))) {s with heap:=h'}):=
 .of_wp λprog w A R s h=>by
  obtain⟨a,g,d,tk,os⟩:=s;obtain⟨b,e,h⟩:=h;have z:=sub_zip;have j:Heap.IsTuple (aqF ⟨a,g,d,tk,os⟩) f xs:=b;have i:Heap.IsList (aqF ⟨a.push {cls:=.type "tuple_iterator",data:=.fields #[.ref f,.int 0 0]},g,d,tk,os⟩) q ys:=ayA e _
  wp_walk using aqA j,ZX i
  refine⟨_,rfl,?_⟩;simp only[dJ,Nat.add_assoc,Nat.reduceAdd]
  obtain⟨y,x,u,p,n,l,m⟩:=aro (h:=a) (o1:={cls:=.type "tuple_iterator",data:=.fields #[.ref f,.int 0 0]}) (o2:={cls:=.type "list_iterator",data:=.fields #[.ref q,.int 0 0]})
   (o3:={cls:=.type "tuple",data:=.seq #[.ref a.objs.size,.ref (a.objs.size+1)]}) (o4:={cls:=.type "tuple",data:=.seq #[.none,.none]})
   (o5:={cls:=.type "zip",data:=.fields #[.none,.bool false,.bool false,.ref (a.objs.size+2),.ref (a.objs.size+3)]}) rfl rfl rfl rfl rfl
  exact h _ n u p ⟨_,y,rfl,rfl⟩ ⟨_,x,rfl,rfl⟩ l m
def ahi {E:Value->aJ->Prop} {xs:Array Value} {Q:Value->aJ->Prop} (f:s.heap.IsTuple la xs) (q:s.heap.IsList lb ys)
 (h:∀h',IsZip h' (s.heap.objs.size+4) (s.heap.objs.size+2) (s.heap.objs.size+3) .none->IsPair h' (s.heap.objs.size+2) (.ref s.heap.objs.size) (.ref (s.heap.objs.size+1))->
  IsPair h' (s.heap.objs.size+3) .none .none->h'.IsTupleIter s.heap.objs.size la 0->h'.IsListIter (s.heap.objs.size+1) lb 0->h'.objs.size=s.heap.objs.size+5->
  (∀c o,s.heap.get? c=some o->h'.get? c=some o)->Q (.ref (s.heap.objs.size+4)) {s with heap:=h'}):
 wpAny (model P w) A (call (.type "zip") [.ref la,.ref lb]) Q E s:=by
 refine callType_new F.called_zip (by decide) (F.typeCall_zip_2 _ _) (F.newCall_zip_2 _ _) (λobj=>F.args_object_init_3 obj _ _) F.entry_zip_new (adO la lb xs ys) ⟨f,q,λh' a j i g e d b=>?_⟩;exact⟨⟨_,a,rfl⟩,h h' a j i g e d b⟩
def apN (K:ah) (a b:ag):It:=
 ⟨λi H=>∃(d e:List V) (x y:V),gL K H a d/\dv K H b e/\d[i]? =some x/\e[i]? =some y,
  λi H v g=>∃T x y,v=.ref T/\H T=none/\g=bB H T (.tup [x,y])/\(∀d,gL K H a d->d[i]? =some x)/\∀e,dv K H b e->e[i]? =some y,
  λi H=>∃d:List V,gL K H a d/\d.length<=i⟩
def af5 {b TI TO f i2:ag} (D:ZipApart z TI TO f i2 a b):
 Turn P w K (.Tuple ÿ kk ű) (apN K a b) [z,TI,TO,f,i2] z (λi h=>IsZip h z TI TO .none/\IsPair h TI (.ref f) (.ref i2)/\(∃x y,IsPair h TO x y)/\h.IsTupleIter f a i/\h.IsListIter i2 b i)where
 mem:=by simp
 obj:=λi h st c U=>by
  obtain⟨n,g,⟨x,y,C⟩,⟨o1,e1,_,d1⟩,⟨o2,e2,_,d2⟩⟩:=st;have e':c=z\/c=TI\/c=TO\/c=f\/c=i2:=by simpa using U
  rcases e' with q|q|q|q|q
  ·rw[q];exact⟨_,n,λv q=>nomatch q⟩
  ·rw[q];exact⟨_,g,λv q=>nomatch q⟩
  ·rw[q];exact⟨_,C,λv q=>nomatch q⟩
  ·rw[q];exact⟨o1,e1,λv q=>by rw[d1]at q;cases q⟩
  ·rw[q];exact⟨o2,e2,λv q=>by rw[d2]at q;cases q⟩
 keep:=λi h h' st k=>by
  obtain⟨n,g,⟨x,y,C⟩,L,B⟩:=st;exact⟨k z (by simp) _ n,k TI (by simp) _ g,⟨x,y,k TO (by simp) _ C⟩,L.at λo q=>k f (by simp) o q,B.at λo q=>k i2 (by simp) o q⟩
 item:=by
  intro X hP hw hK U i m s σ H E I O st hg;subst hP hw hK;obtain⟨n,g,⟨x0,y0,C⟩,L,B⟩:=st;obtain⟨xs,ys,x,y,j,S,hx,hy⟩:=hg;obtain⟨dM,rv,p0,_⟩:=I.tuple j;have p:s.heap.IsTuple a dM.toArray:=p0;obtain⟨DZ,rv2,p2,_⟩:=I.list S;obtain⟨u,hu,ru⟩:=rv.get hx;obtain⟨F,hu2,ru2⟩:=rv2.get hy;have M:z<s.heap.objs.size:=bK n;refine agz D n g C L B p p2.isList (x:=u) (y:=F) (by simpa using hu) (by simpa using hu2) λh' z' TO' h1' h2' hT hsz G=>?_
  refine⟨_,rfl,wpAny_letOwnedTupleGo_zip (s:={s with heap:=h'}) z' λY Z J=>?_⟩
  have hT2:Y.get? s.heap.objs.size=some {cls:=.type "tuple",data:=.seq #[u,F]}:=(J.2 _ (nE M)).trans hT
  have new:js X.prog X.w (bB H s.heap.objs.size (.tup [x,y])) Y s.heap.objs.size (.tup [x,y]):=
   ⟨by show 2<=sizeLine;decide,[u,F],.cons ru (.cons ru2 .nil),⟨_,hT2,rfl,_,rfl⟩⟩
  have I1:Inv X m σ (bB H s.heap.objs.size (.tup [x,y])) {s with heap:=Y}:=
   I.Wv (t':=s.toks) (ch:=[z,TI,TO,f,i2]) (λc o e q=>(J.2 c (λd=>e (by simp[d]))).trans (G c o (λd=>e (by simp[d])) (λd=>e (by simp[d])) (λd=>e (by simp[d])) (λd=>e (by simp[d])) q)) O (aS _) new
  refine⟨.ref s.heap.objs.size,_,I1,rfl,⟨_,x,y,rfl,I.eR.fresh (aS _),rfl,λl hl=>by rw[I.Ww hl j];exact hx,λl hl=>by rw[I.MN hl S];exact hy⟩,⟨Z,?_,⟨u,F,?_⟩,?_,?_⟩,λc T=>?_⟩
  ·exact(J.2 _ D.TIz).trans (G _ _ D.TIz D.TITO D.TIi1 D.TIi2 g)
  ·exact(J.2 _ D.TOz).trans TO'
  ·exact h1'.at λo q=>(J.2 _ D.i1z).trans q
  ·exact h2'.at λo q=>(J.2 _ D.i2z).trans q
  ·have yH:c<s.heap.objs.size:=by
    have e':c=z\/c=TI\/c=TO\/c=f\/c=i2:=by simpa using T
    rcases e' with q|q|q|q|q
    ·rw[q];exact M
    ·rw[q];exact bK g
    ·rw[q];exact bK C
    ·rw[q];obtain⟨_,e1,_⟩:=L;exact bK e1
    ·rw[q];obtain⟨_,e2,_⟩:=B;exact bK e2
   rw[aw (dX yH)];exact(O c T).1
 done:=by
  intro X hP hw hK U i m s σ H E I O st hg;subst hP hw hK;obtain⟨n,g,⟨x0,y0,C⟩,L,B⟩:=st;obtain⟨xs,j,ao7⟩:=hg;obtain⟨dM,rv,p0,_⟩:=I.tuple j;have p:s.heap.IsTuple a dM.toArray:=p0;have l1:=rv.length
  exact YU (I.ok.hd U) D n g L p (by simp;omega) λh' G=>⟨rfl,I.akY (t':=s.toks) (ch:=[z,TI,TO,f,i2]) (λc o e q=>
   G c o (λd=>e (by simp[d])) (λd=>e (by simp[d])) (λd=>e (by simp[d])) (λd=>e (by simp[d])) q) O⟩
 self:=λA i s Q E st h=>auR st.1 h
def arO (K:ah) (f:TA):TI:=fun σ H R=>f σ H λvs H1=>∃a b xs ys,vs=[.ref a,.ref b]/\gL K H1 a xs/\dv K H1 b ys/\R (apN K a b) H1
def alE {B:TA} (U:Gl X "zip") (G:X.mg "zip"=none) (Y:PA X [e,f] B)
 (F:starEach [e,f] X.env=(false,eval e X.env)::starEach [f] X.env:=by rfl) (Iz:(backTo pos (starEach [f] X.env)).any (·.1)=false:=by rfl):
 PI X (.Tuple ÿ kk ű) (.Call (.Name "zip" p) [e,f] [] pos) (arO X.K B):=by
 intro d s n H R I h;refine Call_ (KW I U G ahk (gC (gn (Y pos d s n H _ I h) λus s1 ⟨vs,C,g,r1,M⟩=>?_) F Iz));obtain⟨a,b,xs,ys,ex,l,j,q⟩:=M;subst ex;cases r1 with
 |cons r i=>
  cases i with
  |cons L i=>
   cases i;cases r;cases L;obtain⟨dM,rv,P,_⟩:=g.tuple l;have x:s1.heap.IsTuple a dM.toArray:=P;obtain⟨DZ,J,u,_⟩:=g.list j;have S:a<s1.heap.objs.size:=let⟨_,e,_⟩:=x;bK e
   have Q:b<s1.heap.objs.size:=u.lt;refine ahi x u.isList λh' y D E h1 Z T O=>auR y ?_
   have I2:Inv X d n C {s1 with heap:=h'}:=g.kept (t':=s1.toks) O
   refine⟨s1.heap.objs.size+4,[s1.heap.objs.size+4,s1.heap.objs.size+2,s1.heap.objs.size+3,s1.heap.objs.size,s1.heap.objs.size+1],_,_,C,rfl,I2,af5 (PySem.W.ktu_apart s1.heap.objs.size a b S Q),⟨y,D,⟨_,_,E⟩,h1,Z⟩,λc m=>?_,q⟩;have e':c=s1.heap.objs.size+4\/c=s1.heap.objs.size+2\/c=s1.heap.objs.size+3\/c=s1.heap.objs.size\/c=s1.heap.objs.size+1:=by simpa using m
   have o:s1.heap.objs.size<=c:=by
    rcases e' with z|z|z|z|z
    ·rw[z];exact jc _ _
    ·rw[z];exact jc _ _
    ·rw[z];exact jc _ _
    ·rw[z];exact aS _
    ·rw[z];exact jc _ _
   exact g.D5 o (g.eR.fresh o)
def ag3 {b:ag} (Pv:Nat->St->Hp->Prop) (B:xs.length<=ys.length) (G:Pv 0 σ H) (F:∀i σ H,i<=xs.length->Pv i σ H->gL K H a xs/\dv K H b ys)
 (q:∀i x y σ H T,xs[i]? =some x->ys[i]? =some y->H T=none->Pv i σ H->L_d {D with nx:=Pv (i+1),ct:=Pv (i+1),bk:=D.nx} σ fun D σ=>g (.ref T) σ (bB H T (.tup [x,y])) fun f I=>tb D f I) (hd:∀σ H,Pv xs.length σ H->D.nx σ H):Lk (apN K a b) g tb D σ H:=by
 unfold Lk;refine⟨λi m σ H=>i<=xs.length/\m=xs.length - i/\Pv i σ H,⟨_,eI _,rfl,G⟩,?_⟩
 rintro i m σ H ⟨p,rfl,j⟩
 obtain⟨d,l⟩:=F i σ H p j;rcases ahI i xs.length with h|h
 ·refine .inr ⟨⟨xs,ys,_,_,d,l,aZ h,aZ (cF h B)⟩,Pv (i+1),fun C z u=>⟨xs.length - (i+1),by omega,by omega,rfl,u⟩,?_⟩
  rintro v z ⟨T,x,y,rfl,s,rfl,o,n⟩
  exact q i x y σ H T (o _ d) (n _ l) s j
 ·have e:i=xs.length:=by omega
  subst e;exact .inl ⟨⟨xs,d,h⟩,hd σ H j⟩
section
variable {κ:Type} [DecidableEq κ]
def adD (xs:List (κ×ag×Value)) (k:κ):List (κ×ag×Value):=xs.filter λx=>decide (x.1≠k)
def agv {xs:List (κ×ag×Value)} (h:k∉xs.map (·.1)):adD xs k=xs:=cD.mpr λx a=>by
 simp only[aX];exact λe=>h (e▸bu a)
theorem Th:∀{xs:List (κ×ag×Value)} {j:Nat} {k:κ} {p:ag×Value},(xs.map (·.1)).Nodup->xs[j]? =some (k,p)->adD xs k=xs.eraseIdx j
 |[],_,_,_,_,h=>by cases h
 |x::xs,0,k,p,f,h=>by
  obtain rfl:x=(k,p):=ay h;show avf _ _=xs;rw[cQ,au (by simp)];exact agv (bR.mp f).1
 |x::xs,j+1,k,p,f,h=>by
  have h:xs[j]? =some (k,p):=h;obtain⟨b,a⟩:=bR.mp f;have ne:x.1≠k:=λe=>b (by show x.1∈_;rw[e];exact aG.mpr ⟨_,bI h,rfl⟩)
  show avf _ _=x::xs.eraseIdx j;rw[cQ,az (by simpa using ne)];exact cK _ (Th a h)
theorem Xm {α q:Type} (f:α->q):∀(l:List α) (j:Nat),(l.map f).eraseIdx j=(l.eraseIdx j).map f
 |[],_=>rfl
 |_::_,0=>rfl
 |x::l,j+1=>cK (f x::·) (Xm f l j)
def am0 {knd:HeapKind P w κ} {E:Value->aJ->Prop} {xs:List (κ×ag×Value)} {k:κ} {Q:Option DictEntry->aJ->Prop} (f:knd.room A) (B:knd.is s.heap k a) (I:s.heap.DictOfH knd d xs) (hz:xs.length<=sizeLine)
 (G:atKey xs k=none->Q none {s with toks:=s.toks+knd.draws k})
 (F:∀e,(atKey xs k).map (·.2)=some e.val->∀h',h'.DictOfH knd d (adD xs k)->hZ d s.heap h'->Q (some e) {s with heap:=h',toks:=s.toks+knd.draws k}):
 wpAny (model P w) A (Wq d (.ref a)) Q E s:=by
 obtain⟨o,m,z,b,y,hd,i,g,h⟩:=I;have u:=oW i;unfold Wq
 (try with_reducible refine pR ?_)
 refine af (knd.pyHash f B (af (wpAny_dictFind_heap (s:={s with toks:=s.toks+knd.draws k}) f B b hd i g h (λq=>?_) (λj p l=>?_))))
 ·exact aN (G (atKey_none_of_get q))
 ·refine af (gU (s:={s with toks:=s.toks+knd.draws k}) b hd ?_)
  rw[aqE i j,l];refine af (wpAny_updateDictKeys (hz:=by omega) (s:={s with toks:=s.toks+knd.draws k}) b hd (aN (F _ ?_ _ ⟨_,_,z+1,vL _ b (Obj.isFreed_of_dict (ah0 hd _)),y.mapDictKeys _,ah0 hd _,?_,?_,?_⟩ (i4 ..))))
  ·rw[atKey_of_get h l];rfl
  ·rw[Th h l];have:(m.eraseIdxIfInBounds j).toList=m.toList.eraseIdx j:=by simp
   rw[this,i,Xm]
  ·intro x n;exact knd.keeps (g x (bo.mp n).1) b hd (i4 ..)
  ·exact(eG.map _).nodup h
def abr {knd:HeapKind P w κ} (d a:ag) (hd:(d==sysModules)=false) (x:Value):
 MeetsIn P w (Builtin.«dict.pop» ⟨[.ref d,.ref a,x],[]⟩) (λA R s=>knd.room A.in1/\∃k xs,knd.is s.heap k a/\s.heap.DictOfH knd d xs/\xs.length<=sizeLine/\
  (atKey xs k=none->∀t,R (.ok (.ret x)) {s with toks:=t})/\
  ∀v,(atKey xs k).map (·.2)=some v->∀h' t,h'.DictOfH knd d (adD xs k)->hZ d s.heap h'->R (.ok (.ret v)) {s with heap:=h',toks:=t}):=
 .of_wp λA R s ⟨y,k,xs,E,b,u,j,m⟩=>by
  obtain⟨o,l,Q,D,M,p,J,H,L⟩:=id b;have z:=oW J;unfold Builtin.«dict.pop»;refine af ?_;unfold Pk;refine af (yh b.typeIs ?_);show wpAny _ _ (pure (d,bw a,some x)) _ _ s;refine aN ?_;have kp:(keyPart (bw a)).isSome=false:=rfl;simp only[kp,eB,lC];refine af (gU D p (af (aN ?_)));cases h:l.isEmpty with
  |true=>
   have i:atKey xs k=none:=by
    have:l.size=0:=by simpa using h
    have:xs=[]:=EL.mp (by omega);subst this;rfl
   simp only[rb];refine af (QE (af (aN ?_)));simp only[ahF,rb];refine af (ahy hd ?_);exact af (QE (aN ⟨x,rfl,j i _⟩))
  |false=>
   simp only[eB,lC];refine af (am0 y E b u (λi=>?_) (λe g h' n C=>?_))
   ·simp only[ahF,rb];refine af (ahy hd ?_);exact af (QE (aN ⟨x,rfl,j i _⟩))
   ·simp only[ahE,eB,lC];exact af (Lu (aN ⟨e.val,rfl,m _ g h' _ n C⟩))
end
def KT.off {kvs:List (List Key×V)} {xs:List (List Key×ag×Value)} (r:KT H kvs xs) (k:List Key):KT H (qJ kvs k) (adD xs k):=by
 induction r with
 |nil=>exact .nil
 | @cons p q d b h t a=>
   unfold qJ adD at *;rw[cQ,cQ];by_cases e:p.1=k
   ·rw[au (by simpa using e),au (by rw[<-h.1];simpa using e)];exact a
   ·rw[az (by simpa using e),az (by rw[<-h.1];simpa using e)];exact .cons h a
def amy {b:ag} {kvs:List (List Key×V)} {E:Value->aJ->Prop} {r:Value} {Q:Value->aJ->Prop} (F:A.units+1<cLine) (I:Inv X pins σ H s) (e:H a=some (.dT kvs)) (U:H b=some (.tup (k.map kV)))
 (O:∀v,gF kvs k=some v->∀B f,Inv X pins σ (bB H a (.dT (qJ kvs k))) f->RelV v B->Q B f) (G:gF kvs k=none->∀f,Inv X pins σ H f->Q r f):
 wpAny (model X.prog X.w) A (call (.builtin "dict.pop") [.ref a,.ref b,r]) Q E s:=by
 obtain⟨z,hd,u,rel,n⟩:=abV I.eR e;have d:=rel.val k
 refine EI jU n.typeIs EA (Z1 _ _ _) (abr (knd:=tupleKind (fG X.prog X.w)) a b hd r)
  ⟨kC F,k,u,FX I.eR U,n,by rw[<-fX rel];exact z,λD t=>?_,λv x P t p C=>?_⟩
 ·refine G ?_ _ (I.tok _);rw[D]at d;cases g:gF kvs k with
  |none=>rfl
  |some y=>rw[g]at d;exact d.elim
 ·rw[x]at d;cases g:gF kvs k with
  |none=>rw[g]at d;exact d.elim
  |some y=>
   rw[g]at d;refine O y g v _ ?_ d;obtain⟨q,J,L,l,o,j,i,_,h⟩:=p;refine M8 I (by rw[e];exact uF) C ⟨q,l⟩ ⟨b9 (Uj kvs k) z,hd,_,(rel.off k).keeps λc M m=>?_,q,J,L,l,o,j,i,h⟩;rw[aw (C1 m e (λz=>nomatch z))];exact m
def ak5 (q ty f:TE):TE:=fun σ H Q=>q σ H λx H1=>∃a,x=.ref a/\IsD H1 a/\ty σ H1 λy H2=>f σ H2 λz d=>∃kvs k b,d a=some (.dT kvs)/\y=.ref b/\d b=some (.tup (k.map kV))/\
 (∀v,gF kvs k=some v->Q v (bB d a (.dT (qJ kvs k))))/\(gF kvs k=none->Q z d)
def WT (U:X.A.units+1<cLine) (Y:PE X o td) (he:PE X e ty) (Z:PE X f q) (m:M2 X o "pop" apos e f iA):PE X (.Call (.Attribute o "pop" apos) [e,f] [] iA) (ak5 td ty q):=by
 intro g s i H Q I h;refine lU m.base m.Zl m.line rh jU Hm (gn (Y g s i H _ I h) λu J ⟨x,H1,n,P,a,ex,d,F⟩=>?_);subst ex;obtain rfl:u=bw a:=P;obtain⟨C,p,_⟩:=Za n d;refine⟨C,p,?_⟩;rw[m.trees]
 refine jE rfl (kz (iX (gn (he g J i H1 _ n F) λO E ⟨y,H2,I2,M,B⟩=>
  iX (gn (Z g E i H2 _ I2 B) λfv s3 ⟨z,H3,I3,L,G,k,b,ea,ey,eb,T,S⟩=>kD ?_))))
 subst ey;obtain rfl:O=bw b:=M;exact amy U I3 ea eb (λv l w' D j VE=>⟨v,_,j,VE,T v l⟩) (λl D j=>⟨z,_,j,L,S l⟩)
def adF {E:Value->aJ->Prop} {es:Array DictEntry} {Q:Option Value->aJ->Prop} (F:IsItemIter s.heap it d i n ep ok ov) (O:s.heap.get? d=some od) (I:od.data=.dict es ep) (hsz:es.size=n) (U:es[i]? =some en)
 (Y:∀h',IsItemIterOut h' it d (i+1) n ep en.key en.val s.heap.objs.size->h'.get? s.heap.objs.size=some {cls:=.type "tuple",data:=.seq #[en.key,en.val]}->h'.objs.size=s.heap.objs.size+1->
  (∀b o,b≠it->s.heap.get? b=some o->h'.get? b=some o)->Q (some (.ref s.heap.objs.size)) {s with heap:=h'}):wpAny (model P w) A (pyNext (.ref it)) Q E s:=by
 obtain⟨hp,g,B,tk,os⟩:=s;have ty:anN ⟨hp,g,B,tk,os⟩ (.ref it) "dict_itemiterator":=⟨_,F,rfl⟩;unfold pyNext
 refine af (A9 (fz (name:=lK "__next__") ty jk
  (eW jk ty XS ?_ (Wn _))))
 refine(af (aN ?_));refine(af ?_);refine(af ?_)
 (first|refine af (mn ty (aN ?_))|refine af (rn ty (aN ?_)))
 refine(af (RU F rfl ?_));have G:iy "dict_itemiterator"=true:=by decide
 simp only[G,rb]
 (show wpAny _ _ (if(bw d==fZ)=true then _ else _) _ _ _)
 (rw[au (show ¬((bw d==fZ)=true)from bj)])
 refine(af (aN ?_));refine(af (gU O I ?_))
 (rw[au (by rw[hsz];simp)])
 refine(af (aN ?_));refine(af (uU O I ?_));rw[au (by simp)];refine(aN ?_);obtain⟨lt,Z⟩:=XX.mp U
 (simp only[show ¬((i:Int)<0)from by omega,lC,dz,j7 lt,Z])
 refine(af ?_)
 (first|refine af (mn ty (aN ?_))|refine af (rn ty (aN ?_)))
 refine(af (NV ty ?_))
 (show wpAny _ _ (setField (.ref it) 3 (rawInt ((i:Int)+1))>>= _) _ _ ⟨hp,g,B,tk,os⟩)
 refine(af (gw F (by simp) λg1 q f=>?_))
 (replace f:hZ it hp g1:=f)
 replace q:IsItemIter g1 it d (i+1) n ep ok ov:=by
  have e:((i+1:Nat):Int)=(i:Int)+1:=by omega
  unfold IsItemIter;rw[e];simpa [rawInt]using q
 have h:anN ⟨g1,g,B,tk,os⟩ (.ref it) "dict_itemiterator":=⟨_,q,rfl⟩;refine(af (pR ?_));refine(af (NV h ?_));refine(af (NV h ?_))
 (show wpAny _ _ (CI (.ref it) 6 en.key en.val) _ _ ⟨g1,g,B,tk,os⟩)
 unfold CI;refine(af (az3 ?_));have y:IsItemIter (g1.push {cls:=.type "tuple",data:=.seq #[en.key,en.val]}) it d (i+1) n ep ok ov:=aB _ q
 generalize C:g1.push {cls:=.type "tuple",data:=.seq #[en.key,en.val]}=z at y
 have D:g1.objs.size=hp.objs.size:=f.1;have a:it<hp.objs.size:=bK F;have T:z.get? hp.objs.size=some {cls:=.type "tuple",data:=.seq #[en.key,en.val]}:=by rw[<-C,<-D];exact bf _ rfl
 have S:z.objs.size=hp.objs.size+1:=by rw[<-C,dJ,D]
 have X:∀b o,b≠it->hp.get? b=some o->z.get? b=some o:=λb o j e=>by rw[<-C];exact aB _ (f.extBut b o j e)
 (show wpAny _ _ (zN (.ref it)>>= _) _ _ ⟨z,g,B,tk,os⟩)
 rw[D]
 clear C q f h D g1
 refine(af ?_);unfold zN;refine(af (ip y rfl (x:=.none) rfl (aN ?_)));simp only[rb];refine(af (ip y rfl (x:=ok) rfl ?_));refine(af (ip y rfl (x:=ov) rfl ?_));refine(af (gw y (by simp) λg3 M u=>?_))
 (replace u:hZ it z g3:=u)
 (replace M:IsItemIter g3 it d (i+1) n ep en.key ov:=M)
 refine(af (gw M (by simp) λg4 L p=>?_))
 (replace p:hZ it g3 g4:=p)
 (replace L:IsItemIter g4 it d (i+1) n ep en.key en.val:=L)
 refine(af (gw L (by simp) λg5 J m=>?_))
 (replace m:hZ it g4 g5:=m)
 (replace J:IsItemIterOut g5 it d (i+1) n ep en.key en.val hp.objs.size:=J)
 refine(af (gw J (by simp) λg6 H l=>?_))
 (replace l:hZ it g5 g6:=l)
 (replace H:IsItemIterOut g6 it d (i+1) n ep en.key en.val hp.objs.size:=H)
 refine(af (Lu (aN (aN ⟨_,rfl,aN (Y g6 H ?_ ?_ ?_)⟩))))
 ·exact l.extBut _ _ (nE a) (m.extBut _ _ (nE a) (p.extBut _ _ (nE a) (u.extBut _ _ (nE a) T)))
 ·show g6.objs.size=hp.objs.size+1
  (rw[l.1,m.1,p.1,u.1,S])
 ·exact λb o j e=>l.extBut b o j (m.extBut b o j (p.extBut b o j (u.extBut b o j (X b o j e))))
def VN {E:Value->aJ->Prop} {es:Array DictEntry} {Q:Option Value->aJ->Prop} (G:A.handled=none) (f:IsItemIter s.heap it d i n ep ok ov) (B:s.heap.get? d=some od) (q:od.data=.dict es ep) (hsz:es.size=n) (F:n<=i)
 (I:∀h',ah2 it s.heap h'->Q none {s with heap:=h'}):wpAny (model P w) A (pyNext (.ref it)) Q E s:=by
 have ty:s.TypeIs (.ref it) "dict_itemiterator":=⟨_,f,rfl⟩;unfold pyNext
 refine af (A9 (fz (name:=lK "__next__") ty jk
  (eW jk ty XS ?_ (Wn _))))
 refine(af (aN ?_));refine(af ?_);refine(af ?_)
 (first|refine af (mn ty (aN ?_))|refine af (rn ty (aN ?_)))
 refine(af (RU f rfl ?_));have e:iy "dict_itemiterator"=true:=by decide
 simp only[e,rb]
 (show wpAny _ _ (if(bw d==fZ)=true then _ else _) _ _ s)
 (rw[au (show ¬((bw d==fZ)=true)from bj)])
 refine(af (aN ?_));refine(af (gU B q ?_))
 (rw[au (by rw[hsz];simp)])
 refine(af (aN ?_));refine(af (uU B q ?_));rw[au (by simp)];refine(aN ?_);have g:es.size<=i:=by rw[hsz];exact F
 (simp only[show ¬((i:Int)<0)from by omega,lC,dz,ac1 g])
 refine(af ?_)
 (first|refine af (mn ty (aN ?_))|refine af (rn ty (aN ?_)))
 (show wpAny _ _ (setField (.ref it) 2 .none>>= _) _ _ s)
 refine(af (Hi f rfl (by simp) ?_))
 (show wpAny _ _ (newExc (.type "StopIteration") []>>= _) _ _ _)
 refine(af ?_);simp only[newExc,newTuple];refine(af (gT ?_ (by size_fits)));refine(af (m:=firstArgMember _ _) (apR (a:=fZ) (by first|rfl|(simp only[firstArgMember];rfl)) ?_));refine(gT ?_ (by size_fits));simp only[raiseNew];refine(af (akg ?_))
 (rw[show A.in1.handled=none from G])
 refine(af (aN (apQ ?_)));refine(af (acD (T:="StopIteration") (b:=true) ⟨_,bf _ rfl,rfl⟩ ahA ?_));exact aN (I _ (((i4 ..).extBut.push _).push _))
def Y8 (d:ag) (hd:(d==sysModules)=false):
 MeetsIn P w (Builtin.«dict.items» ⟨[.ref d],[]⟩) (λ_ R s=>s.TypeIs (.ref d) "dict"/\R (.ok (.ret (.ref s.heap.objs.size))) {s with heap:=s.heap.push {cls:=.type "dict_items",data:=.fields #[.ref d]}}):=
 .of_wp λA R s ⟨ty,h⟩=>by
  unfold Builtin.«dict.items»;refine af ?_;unfold avk;refine af (yh ty ?_);show wpAny _ _ (pure d) _ _ s;refine aN ?_
  (show wpAny _ _ (rl d>>= _) _ _ s)
  unfold rl;rw[au (show ¬(d==sysModules)=true by rw[hd];exact bj)];exact af (aN (af (gT (aN ⟨_,rfl,h⟩))))
def abD {E:Value->aJ->Prop} {v:ag} {es:Array DictEntry} {Q:Value->aJ->Prop} (f:s.heap.IsItemsView v d) (G:s.heap.get? d=some od) (B:od.data=.dict es ep) (hsz:es.size=n)
 (I:Q (.ref s.heap.objs.size) {s with heap:=s.heap.push {cls:=.type "dict_itemiterator",data:=.fields #[.none,.bool false,.ref d,.int 0 0,.int n 0,.int ep 0,.none,.none]}}):
 wpAny (model P w) A (pyIter (.ref v)) Q E s:=by
 obtain⟨Y,O,c1,U⟩:=id f;refine IV f.typeIs ah3 (eW ah3 f.typeIs F.entry_dict_items_iter (?_) (F.args_dict_items_iter_1 _));unfold Builtin.«dict_items.__iter__»;refine af (aN ?_);refine af ?_;unfold akX;refine af (ip O U (x:=.ref d) rfl (aN ?_));refine af ?_;unfold akW;refine af (gU G B (af (uU G B ?_)));have q:iy "dict_itemiterator"=true:=by decide
 simp only[q,rb];refine gT (aN ⟨_,rfl,"dict_itemiterator",_,⟨_,bf _ rfl,rfl⟩,(jk.lookup),?_⟩) ?_
 ·simpa [rawInt,hsz,zO]using I
 ·simp only[sizeOk,zO,bz,aI,ak,gu,Lv];omega
def apO (d:ag) (o:Obj) (kvs:List (List Key×V)):It:=
 ⟨λi H=>H d=some (.gb o (.dT kvs))/\i<kvs.length,λi H x a=>∃(T:ag) (k:List Key) (v:V) (q:ag),kvs[i]? =some (k,v)/\x=.ref T/\H T=none/\H q=some (.tup (k.map kV))/\a=bB H T (.tup [.ref q,v]),λi H=>H d=some (.gb o (.dT kvs))/\kvs.length<=i⟩
def Inv.ajv {kvs:List (List Key×V)} (I:Inv X pins σ H s) (h:H d=some (.gb o (.dT kvs))):
 (d==sysModules)=false/\s.heap.get? d=some o/\o.ExactDict/\∃(es:Array DictEntry) (ep:Nat),o.data=.dict es ep/\es.size=kvs.length/\
  ∀(i:Nat) (k:List Key) (v:V),kvs[i]? =some (k,v)->∃(en:DictEntry) (q:ag),es[i]? =some en/\en.key=.ref q/\H q=some (.tup (k.map kV))/\RelV v en.val:=by
 obtain⟨hd,z,n,xs,a,y,es,ep,g,m,l,j,_⟩:=I.eR d _ h;rw[hd]at g;cases g;refine⟨n,hd,m,es,ep,l,?_,λi k v e=>?_⟩
 ·have D:es.size=xs.length:=oW j;have C:kvs.length=xs.length:=fX a;omega
 ·obtain⟨b,p,E,x,u⟩:=L2.f9 a e;have q:=aqE j i;rw[p]at q;exact⟨_,b.2.1,q,rfl,x,u⟩
def aam {es:Array DictEntry} {kvs:List (List Key×V)} (it:ag) (B:o.data=.dict es ep):
 Turn P w K (.Tuple ÿ kk ű) (apO d o kvs) [it] it (λi h=>∃ok f,IsItemIter h it d i kvs.length ep ok f)where
 mem:=by simp
 obj:=λi h st b g=>by
  have e:b=it:=by simpa using g
  subst e;obtain⟨ok,f,e⟩:=st;exact⟨_,e,λv z=>nomatch z⟩
 keep:=λi h L st k=>let⟨ok,f,e⟩:=st;⟨ok,f,k it (by simp) _ e⟩
 item:=by
  intro X hP x J O i a s M H E I m st C;subst hP x J;obtain⟨hd,y⟩:=C;obtain⟨hs,VV,Z,N0,U,l,j,T⟩:=Inv.ajv I hd;obtain⟨rfl,rfl⟩:=yR B l;obtain⟨⟨k,v⟩,S⟩:∃p,kvs[i]? =some p:=⟨kvs[i],aZ y⟩;obtain⟨en,q,Vc,Y,hq,hv⟩:=T i k v S;obtain⟨ok,f,n⟩:=st;have F:it<s.heap.objs.size:=bK n;refine adF n VV l j Vc λL ho hT hz hk=>?_
  refine⟨_,rfl,wpAny_letOwnedTupleGo_items (s:={s with heap:=L}) ho λu OU G=>?_⟩
  have D:u.get? s.heap.objs.size=some {cls:=.type "tuple",data:=.seq #[en.key,en.val]}:=(G.2 _ (nE F)).trans hT
  have new:js X.prog X.w (bB H s.heap.objs.size (.tup [.ref q,v])) u s.heap.objs.size (.tup [.ref q,v]):=
   ⟨by show 2<=sizeLine;decide,[en.key,en.val],.cons (show RelV (.ref q) en.key from Y) (.cons hv .nil),⟨_,D,rfl,_,rfl⟩⟩
  have I1:Inv X a M (bB H s.heap.objs.size (.tup [.ref q,v])) {s with heap:=u}:=
   I.Wv (t':=s.toks) (ch:=[it]) (λb ob g e=>(G.2 b (by simpa using g)).trans (hk b ob (by simpa using g) e)) m (aS _) new
  refine⟨.ref s.heap.objs.size,_,I1,rfl,⟨_,k,v,q,S,rfl,I.eR.fresh (aS _),hq,rfl⟩,⟨en.key,en.val,OU⟩,λb g=>?_⟩;have e:b=it:=by simpa using g
  rw[e,aw (dX F)];exact(m it (by simp)).1
 done:=by
  intro X hP x J O i a s M H E I m st C;subst hP x J;obtain⟨hd,y⟩:=C;obtain⟨f0,f1,f2,f3,f4,f5⟩:=m it (by simp);obtain⟨hs,VV,Z,N0,U,l,j,T⟩:=Inv.ajv I hd;obtain⟨rfl,rfl⟩:=yR B l;obtain⟨ok,f,n⟩:=st;exact VN (I.ok.hd O) n VV l j y λL eb=>⟨rfl,I.turned (t':=s.toks) (λb ob g e=>eb b ob g e) f0 f1 f3 f4 f5⟩
 self:=λA i s Q E st h=>let⟨_,_,e⟩:=st;PySem.W.kcp_self e h
def amb (f:TE):TI:=fun σ H R=>f σ H λx H1=>∃d o kvs,x=.ref d/\H1 d=some (.gb o (.dT kvs))/\R (apO d o kvs) H1
def WS (f:PE X e td) (B:attributeBase e "items" X.env (eval e X.env)=eval e X.env:=by rfl) (G:(apos.endLine==iA.line)=true:=by rfl):
 PI X (.Tuple ÿ kk ű) (.Call (.Attribute e "items" apos) [] [] iA) (amb td):=by
 intro a s i H R I h;refine lU (T:="dict") (id:="dict.items") B rfl G Wm ap1 F.type_dict_items (gn (f a s i H _ I h) λu g ⟨x,E,n,y,d,o,z,ex,hd,q⟩=>?_);subst ex;obtain rfl:u=bw d:=y;obtain⟨C,VV,m,L,M,l,j,J⟩:=Inv.ajv n hd;have ty:g.TypeIs (.ref d) "dict":=⟨o,VV,m.1⟩;refine⟨ty,λb q=>by cases q;exact⟨o,VV,m.2.1⟩,?_⟩;have D:Inv X a i E {g with heap:=g.heap.push {cls:=.type "dict_items",data:=.fields #[.ref d]}}:=n.kept (t':=g.toks) λb ob q=>aB _ q
 have p:wpAny (model X.prog X.w) X.A (pyIter (.ref g.heap.objs.size)) (PIE X a i (.Tuple ÿ kk ű) R) X.xe {g with heap:=g.heap.push {cls:=.type "dict_items",data:=.fields #[.ref d]}}:=by
  refine abD (d:=d) ⟨_,bf _ rfl,rfl,rfl⟩ (aB _ VV) l j (Yz (tk:=g.toks) D _ (aam _ l) ⟨.none,.none,?_⟩ q);exact bf _ rfl
 show wpAny _ _ (callWith iA (.builtin "dict.items") [.ref d] [] []) _ X.xe g;exact ahz ap1 F.entry_dict_items rfl (yi ⟨rfl,ty,F.args_dict_items_1 _,_,Y8 d C,ty,p⟩)
theorem aal {κ:Type} {kvs:List (κ×V)} {vs:List (κ×Value)} (h:KV kvs vs):Vals (kvs.map (·.2)) (vs.map (·.2)):=by
 induction h with
 |nil=>exact .nil
 |cons a _ i=>exact .cons a.2 i
def agc (f:TE):TE:=fun σ H Q=>f σ H λx H1=>∃d kvs,x=.ref d/\H1 d=some (.dK kvs)/\∀l,H1 l=none->Q (.ref l) (bB H1 l (.lst (kvs.map (·.2))))
def aaZ (U:X.calm=true) (G:Gl X "list") (B:X.mg "list"=none) (O:PE X e td)
 (MV:attributeBase e "values" X.env (eval e X.env)=eval e X.env:=by rfl) (MT:(apos.endLine==iA.line)=true:=by rfl)
 (f:starEach [.Call (.Attribute e "values" apos) [] [] iA] X.env=(false,eval (.Call (.Attribute e "values" apos) [] [] iA) X.env)::starEach [] X.env:=by rfl) (Iz:(backTo pos (starEach [] X.env)).any (·.1)=false:=by rfl):
 PE X (.Call (.Name "list" p) [.Call (.Attribute e "values" apos) [] [] iA] [] pos) (agc td):=by
 intro a s y H Q I h;refine gx (KW I G B RO ?_ (by decide) (by decide));refine gC ?_ f Iz;rw[f];show wpAny _ _ (spliced ((false,eval (.Call (.Attribute e "values" apos) [] [] iA) X.env)::backTo pos (starEach [] X.env))) _ _ s;refine iX ?_;refine lU (T:="dict") (id:="dict.values") MV rfl MT Wm DE anR (gn (O a s y H _ I h) λu g ⟨x,H1,n,L,d,kvs,ex,hd,q⟩=>?_);subst ex;obtain rfl:u=bw d:=L;obtain⟨z,m,i,rel,l⟩:=afE n.eR hd;obtain⟨o,Z,ep,P,E,M,F,J,S⟩:=id l;have da:g.heap.DictAt (fG X.prog X.w) d i ep:=⟨o,Z,P,E,M,F,J,S⟩;refine⟨l.typeIs,l.mapOf.noDict,?_⟩;have D:Inv X a y H1 {g with heap:=g.heap.push {cls:=.type "dict_values",data:=.fields #[.ref d]}}:=n.kept (t':=g.toks) λb ob q=>aB _ q
 show wpAny _ _ (callWith iA (.builtin "dict.values") [.ref d] [] []) _ X.xe g;refine ahz DE amV rfl (yi ⟨rfl,l.typeIs,akV _,_,ato (fG X.prog X.w) d m,⟨i,l⟩,?_⟩);refine kD ?_;refine ahY (PySem.W.kdl_values (knd:=fG X.prog X.w) (d:=d) (r:=g.heap.objs.size) (kvs:=i) (ep:=ep)) (n.ok.hd U) ⟨⟨_,bf _ rfl,rfl,rfl⟩,da.push _⟩ (by rw[<-rel.length];exact z) λh' tk acc c' kp en C=>?_
 have Y:acc.toList=i.map (·.2):=PySem.W.kdl_vals_eq acc.toList (by rw[fP];exact C.1) λj v e=>C.2 j v (by rw[<-mX];exact e)
 refine⟨.ref _,_,D.laid (t':=tk) (o:=.lst (kvs.map (·.2))) kp (aS _) ⟨by rw[ae];exact z,i.map (·.2),c',aal rel,?_⟩,rfl,q _ (D.eR.fresh (aS _))⟩;rw[<-Y,wu];exact en
def avL {es:Array DictEntry} (lo:(d==sysModules)=false) (B:o.ExactDict) (f:o.data=.dict es ep):
 PySem.W.KdlSrc P w "dict" d d es.size (λi v=>∃en,es[i]? =some en/\v=en.key) (λh=>h.get? d=some o)where
 type:=λ_ h=>⟨o,h,B.1⟩
 there:=λ_ h=>⟨bK h,bK h⟩
 keep:=λ_ _ h k=>k d (.inl rfl) o h
 notList:=by decide
 notTuple:=by decide
 hint:=λ_ _ s _ h q=>PySem.W.kdl_hint_dict ⟨o,h,B.1⟩ q
 iter:=λA s y h=>⟨_,λi g=>g.IsKeyIter s.heap.objs.size d i es.size ep/\g.get? d=some o,λ_ _ q=>OS lo h B f q,
  {sub:=λb a=>by simp at a;simp[a]
   frame:=λi g H st k=>⟨st.1.at λl e=>k _ (by simp) l e,k d (by simp) _ st.2⟩
   item:=λi j Q E u st m=>by
    obtain⟨C,x⟩:=st;have ne:d≠s.heap.objs.size:=dX (bK h);exact Jw C x f rfl (j7 u) λn D p=>m _ n j.toks ⟨_,j7 u,rfl⟩ ⟨D,(p.2 _ ne).trans x⟩ λb l a e=>(p.2 b (by simpa using a)).trans e
   done:=λj Q E st m=>BQ y st.1 st.2 f rfl (aS _) λn z=>m n j.toks λb l a e=>z b l (by simpa using a) e
   self:=λi j Q E st q=>by
    refine IV st.1.typeIs nh (eW nh st.1.typeIs Z6 ?_ (XU _));show wpAny _ _ (ret (.ref s.heap.objs.size)) _ _ j;exact aN ⟨_,rfl,"dict_keyiterator",_,st.1.typeIs,fL.lookup,q⟩},
  ⟨⟨_,bf _ rfl,rfl,rfl⟩,aB _ h⟩⟩
def aeD (H:Hp):List ag->List (List Key×V)->Prop:=Paired λq a=>H q=some (.tup (a.1.map kV))
theorem afo {kvs:List (List Key×V)} {xs:List (List Key×ag×Value)} (h:KT H kvs xs):aeD H (xs.map (·.2.1)) kvs:=by
 induction h with
 |nil=>exact .nil
 |cons h _ i=>exact .cons h.2.1 i
theorem N2:∀l:List ag,Vals (l.map V.ref) (l.map bw)
 |[]=>.nil
 |_::l=>.cons rfl (N2 l)
def aen (f:X.calm=true):ra X (.type "list") (λxs H Q=>∃d kvs,xs=[.ref d]/\H d=some (.dT kvs)/\∀l B,H l=none->aeD H B kvs->Q (.ref l) (bB H l (.lst (B.map V.ref)))):=by
 intro b s P H xs T Q I r h;obtain⟨d,kvs,rfl,hd,q⟩:=h;obtain⟨u,rfl,n⟩:=vals1 r;cases n;obtain⟨z,lo,ys,rel,L⟩:=abV I.eR hd;obtain⟨o,O,U,D,x,p,m,E,F⟩:=id L;have C:=oW m;have S:kvs.length=ys.length:=fX rel;refine ahY (avL lo x p) (I.ok.hd f) D (by omega) λG tk acc M kp en e=>?_
 have J:acc.toList=(ys.map (·.2.1)).map bw:=by
  refine akT λj=>?_
  rw[mX,bq,aV];cases i:acc[j]? with
  |none=>
   have:acc.size<=j:=by simpa using i
   rw[Kf (by have:=e.1;omega)];rfl
  |some v=>
   obtain⟨Y,a,rfl⟩:=e.2 j v i;rw[aqE m j]at a;cases g:ys[j]? with
   |none=>rw[g]at a;cases a
   |some y=>
    rw[g]at a;cases a;rfl
 refine⟨.ref _,_,I.laid (t':=tk) (o:=.lst ((ys.map (·.2.1)).map V.ref)) kp (aS _) ⟨by rw[ae,ae];omega,acc.toList,M,by rw[J];exact N2 _,by rw[wu];exact en⟩,rfl,q _ _ (I.eR.fresh (aS _)) (afo rel)⟩
theorem Wt {kvs:List (Key×V)} {vs:List (Key×Value)} {acc:List Value} (r:KV kvs vs):acc.length=vs.length->(∀(j:Nat) (v:Value),acc[j]? =some v->∃k,∃x,vs[j]? =some (k,x)/\(fG P w).is k v=true)->Vals (kvs.map λq=>kV q.1) acc:=by
 unfold KV at r;induction r generalizing acc with
 |nil=>cases acc;exact λ_ _=>.nil;exact (nomatch ·)
 |cons h t i=>
  cases acc;exact (nomatch ·);intro B f
  obtain⟨k,x,e,F⟩:=f 0 _ rfl;have e:=ay e;refine .cons ?_ (i (aEy B) λj u a=>f (j+1) u a);refine aaS (show MQ _ _=true from ?_);rw[h.1,e];exact F
def adP {es:Array DictEntry} (hd:(d==sysModules)=false) (f:o.data=.dict es ep):
 MeetsIn P w (Builtin.«dict.__len__» ⟨[.ref d],[]⟩) (λ_ R s=>s.heap.get? d=some o/\R (.ok (.ret (.int es.size s.toks))) {s with toks:=s.toks+1}):=
 .of_wp λA R s ⟨a,h⟩=>by
  (show wpAny _ _ (dictSize d>>= _) _ _ s)
  unfold dictSize;refine af (af (gU a f (aN ?_)))
  (show wpAny _ _ (avj d>>= _) _ _ s)
  refine af (wpAny_pendingCount_other hd (wpAny_ret_mkInt ?_));rw[Nat.add_zero];exact h
def OZ:ra X (.builtin "len") (λxs H Q=>∃a kvs,xs=[V.ref a]/\H a=some (.dT kvs)/\Q (.int kvs.length) H):=by
 intro e s D H xs J Q I r h;obtain⟨d,kvs,rfl,hd,q⟩:=h;obtain⟨u,rfl,i⟩:=vals1 r;cases i;obtain⟨z,lo,ys,rel,C⟩:=abV I.eR hd;obtain⟨o,b,P,g,l,j,x,p,M⟩:=id C;have n:=oW x;have E:kvs.length=ys.length:=fX rel;have L:=Lv;have ty:s.TypeIs (.ref d) "dict":=⟨o,g,l.1⟩;refine Z7 kind_len plain_len entry_len (args_len1 _) ?_;unfold Builtin.«len»;refine af (m:=oneArg "len" _) (aN ?_);refine af (m:=callSpecial? (.ref d) (lK "__len__")) (fz (name:=lK "__len__") ty atP (EI atP ty F.entry_dict_len (F.args_dict_len_1 _) (adP lo j) ⟨g,?_⟩));show wpAny _ _ _ _ _ {s with toks:=s.toks+1}
 refine af (pR (aN (af (Lu ?_))));show wpAny _ _ (if((b.size:Nat):Int)<0 then _ else _) _ _ _;rw[au (show ¬((b.size:Nat):Int)<0 by omega)];show wpAny _ _ (if((b.size:Nat):Int)≥2 ^ 63 then _ else _) _ _ _;rw[au (show ¬((b.size:Nat):Int)≥2 ^ 63 by omega)];have y:b.size=kvs.length:=by omega
 rw[y];exact af (wpAny_mkInt (aN ⟨_,rfl,.int kvs.length,H,I.tok _,⟨_,rfl⟩,q⟩))
def T5 (Pv:Nat->L2.St->Hp->Prop) (I:Pv 0 σ H) (q:∀i σ H,i<n->Pv i σ H->J.go i H) (B:∀σ H,Pv n σ H->J.stop n H)
 (G:∀i x σ H f,i<n->Pv i σ H->J.yld i H x f->g x σ f fun F O=>tb {D with nx:=Pv (i+1),ct:=Pv (i+1),bk:=D.nx} F O) (hd:∀σ H,Pv n σ H->D.nx σ H):Lk J g tb D σ H:=by
 unfold Lk;refine⟨λi m σ H=>i<=n/\m=n - i/\Pv i σ H,⟨_,eI _,rfl,I⟩,?_⟩
 rintro i m σ H ⟨l,rfl,a⟩
 rcases ahI i n with h|h
 ·exact .inr ⟨q i σ H h a,Pv (i+1),fun j f d=>⟨n - (i+1),by omega,by omega,rfl,d⟩,λx f b=>G i x σ H f h a b⟩
 ·have e:i=n:=by omega
  subst e;exact .inl ⟨B σ H a,hd σ H a⟩
def Xc {kvs:List (Key×V)} (Pv:Nat->L2.St->Hp->Prop) (F:Pv 0 σ H) (f:∀i σ H,Pv i σ H->H d=some (.gb o (.dK kvs)))
 (B:∀i k v σ H,kvs[i]? =some (k,v)->Pv i σ H->L_d {D with nx:=Pv (i+1),ct:=Pv (i+1),bk:=D.nx} σ fun D σ=>g (kV k) σ H fun q G=>tb D q G) (hd:∀σ H,Pv kvs.length σ H->D.nx σ H):Lk (Itk d o kvs) g tb D σ H:=
 T5 (n:=kvs.length) Pv F (λi σ H a h=>⟨f i σ H h,a⟩) (fun σ H h=>⟨f _ σ H h,aS _⟩) (λi x σ H j a h b=>by
  obtain⟨rfl,k,v,e,rfl⟩:=b;exact B i k v σ j e h) hd
def ad5 {kvs:List (List Key×V)} (Pv:Nat->L2.St->Hp->Prop) (G:Pv 0 σ H) (f:∀i σ H,Pv i σ H->H d=some (.gb o (.dT kvs)))
 (F:∀i k v q σ H,kvs[i]? =some (k,v)->H q=some (.tup (k.map kV))->Pv i σ H->L_d {D with nx:=Pv (i+1),ct:=Pv (i+1),bk:=D.nx} σ fun D σ=>g (.ref q) σ H fun B I=>tb D B I) (hd:∀σ H,Pv kvs.length σ H->D.nx σ H):Lk (amJ d o kvs) g tb D σ H:=
 T5 (n:=kvs.length) Pv G (λi σ H a h=>⟨f i σ H h,a⟩) (fun σ H h=>⟨f _ σ H h,aS _⟩) (λi x σ H j a h b=>by
  obtain⟨rfl,k,v,q,e,rfl,eq⟩:=b;exact F i k v q σ j e eq h) hd
def PZ {kvs:List (List Key×V)} (Pv:Nat->L2.St->Hp->Prop) (G:Pv 0 σ H) (f:∀i σ H,Pv i σ H->H d=some (.gb o (.dT kvs)))
 (F:∀i k v q T σ H,kvs[i]? =some (k,v)->H q=some (.tup (k.map kV))->H T=none->Pv i σ H->L_d {D with nx:=Pv (i+1),ct:=Pv (i+1),bk:=D.nx} σ fun D σ=>g (.ref T) σ (bB H T (.tup [.ref q,v])) fun B I=>tb D B I) (hd:∀σ H,Pv kvs.length σ H->D.nx σ H):Lk (apO d o kvs) g tb D σ H:=
 T5 (n:=kvs.length) Pv G (λi σ H a h=>⟨f i σ H h,a⟩) (fun σ H h=>⟨f _ σ H h,aS _⟩) (λi x σ H l a h b=>by
  obtain⟨T,k,v,q,e,rfl,j,eq,rfl⟩:=b;exact F i k v q T σ H e eq j h) hd
def afl {vs:List Nat} (Pv:ag->Nat->Hp->Prop) (U:∀D,H1 D=none->Pv D 0 (bB H1 D (.lst []))) (F:∀D i H,i<n->Pv D i H->J.go i H) (I:∀D H,Pv D n H->J.stop n H)
 (O:∀D i x H f,H1 D=none->i<n->Pv D i H->J.yld i H x f->g x (wipe σ vs) f fun B Y=>wipe B vs=wipe σ vs/\tt B Y λb G=>if b=true then te B G (jJ D (Pv D (i+1)))else Pv D (i+1) G)
 (hd:∀D H,H1 D=none->Pv D n H->Q (.ref D) H):LcI J g tt te vs σ H1 Q:=by
 unfold LcI;intro D d;refine⟨λi m H=>i<=n/\m=n - i/\Pv D i H,⟨_,eI _,rfl,U D d⟩,?_⟩
 rintro i m H ⟨o,rfl,a⟩
 rcases ahI i n with h|h
 ·refine .inr ⟨F D i H h a,Pv D (i+1),λf l=>⟨n - (i+1),by omega,by omega,rfl,l⟩,λx f j=>?_⟩;have q:=O D i x H f d h a j;rw[HH]at q;exact q
 ·have e:i=n:=by omega
  subst e;exact .inl ⟨I D H a,hd D H d a⟩
def ai0 {vs:List Nat} {kvs:List (Key×V)} (Pv:ag->Nat->Hp->Prop) (G:∀D,H1 D=none->Pv D 0 (bB H1 D (.lst []))) (q:∀D i H,Pv D i H->H d=some (.gb o (.dK kvs)))
 (F:∀D i k x H,H1 D=none->kvs[i]? =some (k,x)->Pv D i H->g x (wipe σ vs) H fun f I=>wipe f vs=wipe σ vs/\tt f I λb B=>if b=true then te f B (jJ D (Pv D (i+1)))else Pv D (i+1) B)
 (hd:∀D H,H1 D=none->Pv D kvs.length H->Q (.ref D) H):LcI (Itd d o kvs) g tt te vs σ H1 Q:=
 afl (n:=kvs.length) Pv G (λD i H a h=>⟨q D i H h,a⟩) (λD H h=>⟨q D _ H h,aS _⟩) (λD i x H m l a h j=>by
  obtain⟨rfl,k,e⟩:=j;exact F D i k x m l e h) hd
def W0 {vs:List Nat} {kvs:List (List Key×V)} (Pv:ag->Nat->Hp->Prop) (I:∀D,H1 D=none->Pv D 0 (bB H1 D (.lst []))) (B:∀D i H,Pv D i H->H d=some (.gb o (.dT kvs)))
 (G:∀D i k v q H,H1 D=none->kvs[i]? =some (k,v)->H q=some (.tup (k.map kV))->Pv D i H->g (.ref q) (wipe σ vs) H fun f O=>wipe f vs=wipe σ vs/\tt f O λb F=>if b=true then te f F (jJ D (Pv D (i+1)))else Pv D (i+1) F)
 (hd:∀D H,H1 D=none->Pv D kvs.length H->Q (.ref D) H):LcI (amJ d o kvs) g tt te vs σ H1 Q:=
 afl (n:=kvs.length) Pv I (λD i H a h=>⟨B D i H h,a⟩) (λD H h=>⟨B D _ H h,aS _⟩) (λD i x H m l a h j=>by
  obtain⟨rfl,k,v,q,e,rfl,eq⟩:=j;exact G D i k v q m l e eq h) hd
theorem IZ {xs ys:List Int} {us:List Value} (a:Vals (xs.map V.int) us) (b:Vals (ys.map V.int) us):xs=ys:=(List.map_inj_right λ_ _ e=>V.int.inj e).mp (Vals.inj a b)
def aeR {xs:List Int} (r:Vals (xs.map V.int) us) {j:Nat} (h:j<us.length):∃t,us[j]=oX (xs.getD j 0) t:=by
 have d:(xs.map V.int).length=us.length:=r.length;rw[ae]at d;obtain⟨u,a,b⟩:=r.get (i:=j) (x:=V.int xs[j]) (by rw[aV,aZ (by omega)];rfl);obtain⟨t,e⟩:=(show ∃t,u=oX xs[j] t from b);refine⟨t,?_⟩;rw[aZ h]at a;rw[ay a,e,eY,aZ (by omega)];rfl
def range_all {xs ys:List Int} (h:xs.length=ys.length):((f7 xs.length).all λj=>xs.getD j 0==ys.getD j 0)=decide (xs=ys):=by
 by_cases e:xs=ys
 ·subst e;rw[aD rfl];simp
 ·rw[ba e];rw[DF];intro q;apply e;refine List.ext_getElem h λj a b=>?_
  have:=eA.mp q j (iM.mpr a);rw[fO,eY,eY,aZ a,aZ b]at this;exact this
def ag8 {b:ag} {xs ys:List Int} (B:s.heap.IsList a us.toArray) (F:s.heap.IsList b vs.toArray) (r:Vals (xs.map V.int) us) (f:Vals (ys.map V.int) vs) (G:A.units<cLine):
 aki A s (.ref a) (.ref b) (decide (xs=ys)):=by
 have g:(xs.map V.int).length=us.length:=r.length;have l:(ys.map V.int).length=vs.length:=f.length;rw[ae]at g l;by_cases e:a=b
 ·subst e;obtain⟨o,y,_,H,z⟩:=B;obtain⟨D,m,_,E,n⟩:=F;rw[y]at m;cases m;rw[z]at n
  have:us=vs:=by
   have:=n;simp only[aEC]at this;exact(List.toArray_inj this.1)
  subst this;rw[aD (IZ r f)];exact az9 _
 ·by_cases h:us.length=vs.length
  ·rw[<-range_all (by omega)]
   have d:=az7 (A:=A) (e:=λj=>xs.getD j 0==ys.getD j 0) B F (by simpa using h) G (λj u p=>by
    obtain⟨t,x⟩:=aeR r (j:=j) (by simpa using u);obtain⟨C,i⟩:=aeR f (j:=j) (by simpa using p);rw[ahK,ahK,x,i];exact aAb _ _ _ _)
   rw[show us.toArray.size=xs.length by simp[g]]at d;exact acH e d
  ·rw[ba (λq=>h (by rw[<-g,<-l,q]))];exact acH e (az6 B F (by simpa using h) G)
theorem TQ:∀{xs ys:List Int},xs.map V.int=ys.map V.int->xs=ys
 |[],[],_=>rfl
 |[],_::_,h=>by cases h
 |_::_,[],h=>by cases h
 |x::xs,y::ys,h=>by
  have h:V.int x::xs.map V.int=V.int y::ys.map V.int:=h;injection h with b a
  rw[V.int.inj b,TQ a]
def UJ (K:ah) (H:Hp):List ag->List (List Int)->Prop:=Paired λq row=>dv K H q (row.map V.int)
def alx (K:ah) (neg:Bool):R2:=λx y H Q=>∃(b p:ag) (ys:List Int) (a:List ag) (rows:List (List Int)),x=.ref b/\y=.ref p/\dv K H b (ys.map V.int)/\dv K H p (a.map V.ref)/\UJ K H a rows/\Q (.bl (if neg=true then !decide (ys∈rows)else decide (ys∈rows))) H
open Classical in
theorem aaR (I:Inv X pins σ H s) {ys:List Int}:∀{f:List ag} {rows:List (List Int)},UJ X.K H f rows->
 ((f.map bw).any λv=>decide (∃q,v=.ref q/\dv X.K H q (ys.map V.int)))=decide (ys∈rows)
 |_,_,.nil=>by simp
 |q::f,row::rows,.cons h t=>by
  rw[bW,xX,aaR I t];by_cases e:row=ys
  ·subst e;rw[aD ⟨q,rfl,h⟩,afZ,aD aM]
  ·have:¬∃B,bw q=.ref B/\dv X.K H B (ys.map V.int):=by
    rintro⟨B,b,a⟩
    cases b;have:=I.MN h a;exact e (TQ this)
   rw[ba this,EO];simp[DD e]
theorem aaP {q:ag} {f:List ag} {rows:List (List Int)} (h:UJ K H f rows) (m:q∈f):∃row:List Int,dv K H q (row.map V.int):=by
 induction h with
 |nil=>cases m
 |cons h _ i=>
  rcases aY.mp m with rfl|m
  ·exact⟨_,h⟩
  ·exact i m
theorem LJ:∀{l:List ag} {us:List Value},Vals (l.map V.ref) us->us=l.map bw
 |[],_,.nil=>rfl
 |_::_,u::_,.cons h t=>by
  rw[LJ t];cases(show u=bw _ from h);rfl
open Classical in
def ama (F:X.A.units+1<cLine) (I:Inv X pins σ H s) {b p:ag} {ys:List Int} {f:List ag} {rows:List (List Int)} (O:dv X.K H b (ys.map V.int)) (G:dv X.K H p (f.map V.ref)) (B:UJ X.K H f rows):
 ∃(dM:List Value),s.heap.IsList p dM.toArray/\∃e:Value->Bool,(∀y,y∈dM.toArray->aki X.A.in1 s y (.ref b) (e y))/\dM.toArray.any e=decide (ys∈rows):=by
 obtain⟨dM,r,m,_⟩:=I.list G;obtain⟨z,j,n,_⟩:=I.list O;have i:=LJ r;refine⟨dM,m.isList,λv=>decide (∃q,v=.ref q/\dv X.K H q (ys.map V.int)),λy g=>?_,?_⟩
 ·have g:y∈dM:=by simpa using g
  rw[i]at g;obtain⟨q,o,rfl⟩:=aG.mp g;obtain⟨row,a⟩:=aaP B o;obtain⟨C,r1,l,_⟩:=I.list a;have h:=ag8 (A:=X.A.in1) l.isList n.isList r1 j F
  have:decide (∃d,bw q=.ref d/\dv X.K H d (ys.map V.int))=decide (row=ys):=by
   by_cases e:row=ys
   ·subst e;rw[aD ⟨q,rfl,a⟩,aD rfl]
   ·rw[ba e,ba]
    rintro⟨d,x,u⟩
    cases x;exact e (TQ (I.MN a u))
  show aki X.A.in1 s (.ref q) (.ref b) (decide (∃d,bw q=.ref d/\dv X.K H d (ys.map V.int)));rw[this];exact h
 ·rw[show dM.toArray.any (λv=>decide (∃q,v=.ref q/\dv X.K H q (ys.map V.int)))=dM.any (λv=>decide (∃q,v=.ref q/\dv X.K H q (ys.map V.int))) by simp,i];exact aaR I B
def adB (f:X.A.units+1<cLine):LG X (compareOp .In) (alx X.K false):=by
 intro a s z H x y v u Q I g d h;obtain⟨b,p,C,D,rows,rfl,rfl,n,j,i,q⟩:=h;cases d;cases g;obtain⟨E,l,e,m,o⟩:=ama f I n j i;refine SeqAt.in_listAt e l m ⟨.bl _,H,I,rfl,?_⟩;rw[o];exact q
def ais (K:ah):V->List V->Hp->VK->Prop:=λx vs H Q=>∃l b xs zs,x=.ref l/\vs=[.ref b]/\H l=some (.lst xs)/\(dv K H b zs\/gL K H b zs)/\xs.length+zs.length<=sizeLine/\Q .m6 (bB H l (.lst (xs++zs)))
def ad8 {E:Value->aJ->Prop} {b:ag} {q:Array Value} {I:Nat} {Q:Value->aJ->Prop}
 (e:s.heap.get? l=some {cls:=.type "list",data:=.seq q n}) (G:s.heap.get? b=some o) (f:o.cls=.type "list"\/o.cls=.type "tuple") (hd:o.data=.seq B I) (hz:q.size+B.size<=sizeLine)
 (h:Q .none {s with heap:=s.heap.update l (LH λx=>x++B)}):wpAny (model P w) A (call (.builtin "list.extend") [.ref l,.ref b]) Q E s:=by
 refine eW F.slot_list_extend ⟨_,e,rfl⟩ F.entry_list_extend ?_ (F.args_list_extend_2 _ _);refine af (aN ?_);unfold avi;refine af (wpAny_typeOf_ref G ?_);rw[az (by rcases f with f|f<;>rw[f]<;>simp)];refine af (aEu G hd (af (aEu e rfl ?_)));have a:(!q.isEmpty&&xY (q.size+B.size))=false:=by rw[aiI hz,eU]
 rw[au (by rw[a];exact bj)];refine af (listUpdate_at e rfl ?_ (by omega) (by rw[Array.size_append];omega));exact aN ⟨_,rfl,h⟩
def mB:MtM X "list.extend" (ais X.K):=by
 intro i s E H x F v G Q I L M h;obtain⟨l,b,B,J,rfl,rfl,D,p,O,q⟩:=h;cases L;obtain⟨u,rfl,P⟩:=M.one;cases P;obtain⟨z,T,n,r,U,e⟩:=I.aiW D
 have C:∀(a:List Value) (o:Obj) (g:Nat),Vals J a->s.heap.get? b=some o->(o.cls=.type "list"\/o.cls=.type "tuple")->o.data=.seq a.toArray g->wpAny (model X.prog X.w) X.A (call (.builtin "list.extend") [.ref l,.ref b]) (EP X i E Q) X.xe s:=by
  intro a o g d j m hd;have f:=d.length;refine ad8 e j m hd (by rw[bz,bz];omega) ?_;refine⟨.m6,_,I.aoJ (its':=T++a) D e (by simp) (r.append d) ?_,rfl,q⟩;rw[aI];omega
 rcases p with p|p
 ·obtain⟨a,d,S,y⟩:=I.list p;obtain⟨o,j,m,g,hd⟩:=S.isList;exact C a o g d j (.inl m) hd
 ·obtain⟨a,d,⟨o,j,m,g,hd⟩,y⟩:=I.tuple p;exact C a o g d j (.inr m) hd
theorem MR:∀{ns:List Int} {us:List Value},Vals (ns.map V.int) us->IntsAre us ns
 |[],_,h=>by cases h;exact .nil
 |n::ns,_,h=>by
  cases h with
  |cons a t=>
   obtain⟨tk,rfl⟩:=a;exact .cons _ _ (MR t)
def aef (B:X.calm=true):ra X (.builtin "sorted") (λxs H Q=>∃(d:ag) (kvs:List (Key×V)) (ns:List Int),xs=[.ref d]/\H d=some (.dK kvs)/\kvs.map (λO=>kV O.1)=ns.map V.int/\
 ∀(f:List Int) (p:ag),f.Perm ns->f.Pairwise (·<=·)->H p=none->Q (.ref p) (bB H p (.lst (f.map V.int)))):=by
 intro g s M H xs us Q I r h;obtain⟨d,kvs,ns,rfl,hd,x,q⟩:=h;obtain⟨u,rfl,F⟩:=vals1 r;cases F;obtain⟨z,lo,vs,rel,dd⟩:=afE I.eR hd;obtain⟨o,es,ep,U,S,G,hk,T,Y⟩:=id dd;have da:s.heap.DictAt (fG X.prog X.w) d vs ep:=⟨o,es,U,S,G,hk,T,Y⟩;have ε:kvs.length=vs.length:=rel.length;have Z:kvs.length=ns.length:=by have:=cK gh x;simpa using this
 refine Z7 kind_sorted plain_sorted entry_sorted (args_sorted1 _) ?_;show wpAny _ _ (checkCount "sorted" 1 1 1>>= _) _ _ s;refine af (aN ?_);refine af (PySem.W.kdu_collect (PySem.W.kdl_dict (knd:=fG X.prog X.w) (kvs:=vs) (ep:=ep) lo) (I.ok.hd B) da (by omega) λi tk acc kp y=>?_)
 have C:Vals (ns.map V.int) acc.toList:=by
  rw[<-x];exact Wt rel (by rw[fP];exact y.1) (λj v e=>y.2 j v (by rw[<-mX];exact e))
 have l:=MR C;have m:acc.toList.length<=sizeLine:=by rw[<-C.length,ae];omega
 refine af (wpAny_newList ?_ m);refine af (pR ?_);refine eW slot_list_sort ⟨_,bf _ rfl,rfl⟩ entry_list_sort ?_ (args_list_sort _);refine list_sort_treeAny (n:=0) (bf _ rfl) l m λout f h1 D h3=>⟨_,rfl,?_⟩
 refine aN ⟨_,rfl,?_⟩;obtain⟨P,OU⟩:=sortedHeap_at (out:=out) (vs:=acc.toList) (n:=0) (h:=i.push (seqObj "list" acc.toList.toArray 0)) (a:=i.objs.size) (bf _ rfl);have L:Inv X g M H {s with heap:=i,toks:=tk}:=I.kept (t':=tk) kp
 refine⟨.ref _,bB H i.objs.size (.lst (f.map V.int)),L.laid (t':=tk) (λb o E=>?_) (aS _) ⟨by rw[ae,D.length_eq];omega,out.toList,P,LK h1,OU⟩,rfl,q f _ D h3 (L.eR.fresh (aS _))⟩;have hb:=bK E;have J:=aB (seqObj "list" acc.toList.toArray 0) E;exact(sortedHeap_old (dX hb) (bK J)).trans J
def KH (a b:Int×Int):Prop:=a.1<b.1\/(a.1=b.1/\a.2<=b.2)
def yZ (K:ah) (H:Hp) (ts:List ag) (ps:List (Int×Int)):Prop:=Paired (λt (p:Int×Int)=>gL K H t [V.int p.1,V.int p.2]) ts ps
def abC (p:Int×Int):List (Int ⊕ List Nat):=[bh p.1,bh p.2]
def PQ:Nat->Bool:=λ_=>false
def pairOf (h:Heap) (v:Value):Int×Int:=match acM h PQ v with
 |some [bh a,bh b]=>(a,b)
 |_=>(0,0)
def agt {a b:Int×Int} (h:lexLt itemOrd (abC b) (abC a)=false):KH a b:=by
 unfold abC at h;rw[lex_false]at h;obtain⟨g,d⟩:=h;have g:decide (b.1<a.1)=false:=g;have g:=Kb g;rcases d with d|d
 ·have d:decide (a.1<b.1)=true:=d;exact .inl (cb d)
 ·rw[lex_false]at d;have i:decide (b.2<a.2)=false:=d.1;have i:=Kb i;by_cases e:a.1<b.1
  ·exact .inl e
  ·exact .inr ⟨by omega,by omega⟩
theorem afn (I:Inv X pins σ H s):∀{ts:List ag} {ps:List (Int×Int)},yZ X.K H ts ps->(∃fs,TupsOf s.heap PQ (ts.map bw) fs)/\Paired (λt p=>gL X.K H t [V.int p.1,V.int p.2]/\acM s.heap PQ (.ref t)=some (abC p)) ts ps
 |[],_,h=>by cases h;exact⟨⟨_,.nil⟩,.nil⟩
 |t::ts,_,h=>by
  cases h with
  |cons a r=>
   obtain⟨⟨fs,q⟩,f⟩:=afn I r;obtain⟨u,g,⟨o,d,e,n,hd⟩,m⟩:=I.tuple a;cases g with
   |cons r1 b=>
    cases b with
    |cons i b=>
     cases b;obtain⟨l,rfl⟩:=r1;obtain⟨j,rfl⟩:=i;refine⟨⟨_::fs,.cons ⟨t,o,_,n,rfl,d,e,hd,rfl,λ_=>⟨_,_,rfl⟩,λz=>by cases z⟩ q⟩,.cons ⟨a,?_⟩ f⟩;exact G.tupKeyC_of d e hd rfl
theorem IY:∀{ts:List ag} {us:List Value},Vals (ts.map V.ref) us->us=ts.map bw
 |[],_,h=>by cases h;rfl
 |t::ts,_,h=>by
  cases h with
  |cons a r=>cases a;rw[IY r];rfl
theorem S0 {α f:Type} {R:α->f->Prop} {xs:List α} {ys:List f} (h:Paired R xs ys):∀x∈xs,∃y,R x y:=by
 induction h with
 |nil=>intro x q;cases q
 |cons a _ i=>
  intro z hz;rcases aY.mp hz with rfl|hz
  ·exact⟨_,a⟩
  ·exact i z hz
theorem Jq {α q:Type} {R:α->q->Prop} {f:α->q}:∀{xs:List α},(∀x∈xs,R x (f x))->Paired R xs (xs.map f)
 |[],_=>.nil
 |x::xs,h=>.cons (h x aM) (Jq λz hz=>h z (aL _ hz))
theorem Jr {α q:Type} {R:α->q->Prop} {f:α->q} (B:∀x y,R x y->y=f x) {xs:List α} {ys:List q} (h:Paired R xs ys):ys=xs.map f:=by
 induction h with
 |nil=>rfl
 |cons a _ i=>rw[bW,<-B _ _ a,<-i]
def addrOf:Value->ag
 |.ref a=>a
 |_=>0
def air (K:ah):List V->Hp->VK->Prop:=λvs H Q=>∃(a:ag) (ts:List ag) (ps:List (Int×Int)),vs=[V.ref a]/\dv K H a (ts.map V.ref)/\yZ K H ts ps/\
 ∀(d:List ag) (b:List (Int×Int)) (p:ag),yZ K H d b->b.Perm ps->b.Pairwise KH->H p=none->Q (.ref p) (bB H p (.lst (d.map V.ref)))
def aee:ra X (.builtin "sorted") (air X.K):=by
 intro U s σ H vs us Q I r h;obtain⟨a,ts,ps,rfl,hs,hp,q⟩:=h;obtain⟨dM,rv,hl,L⟩:=I.list hs;rw[Vals.agk r];obtain rfl:=IY rv;rw[ae]at L;obtain⟨⟨fs,y⟩,hk⟩:=afn I hp
 have u:∀v∈ts.map bw,∃t p,v=.ref t/\gL X.K H t [V.int p.1,V.int p.2]/\acM s.heap PQ v=some (abC p):=λv d=>by
  obtain⟨t,y,rfl⟩:=aG.mp d;obtain⟨p,C,J⟩:=S0 hk t y;exact⟨t,p,rfl,C,J⟩
 have m:∀{v:Value} {p:Int×Int},acM s.heap PQ v=some (abC p)->pairOf s.heap v=p:=fun {v p} e=>by
  unfold pairOf abC at *;rw[e]
 refine G.sorted_tups (shape:=PQ) (fs:=fs) hl.isList y (λv d=>?_) (by rw[ae];exact L) λET C J _=>?_
 ·obtain⟨t,p,_,_,e⟩:=u v d;exact⟨_,e⟩
 generalize arrOf ET=arr at C J
 have TV:arr.toList.Perm ((ts.map bw).map λv=>(v,v)):=by
  have e:=C.toList
  have F:(pairsOf (ts.map bw)).toList=(ts.map bw).map λv=>(v,v):=by
   unfold pairsOf;rw[Array.toList_zip];generalize ts.map bw=l;show l.zip l=_
   induction l with
   |nil=>rfl
   |cons x l ih=>rw[List.zip_cons_cons,ih];rfl
  rw[F]at e;exact e
 have O:∀D∈arr.toList,D.1=D.2/\D.2∈ts.map bw:=λD S=>by
  obtain⟨v,d,rfl⟩:=aG.mp (TV.mem_iff.mp S);exact⟨rfl,d⟩
 have o:(arr.toList.map (·.2)).Perm (ts.map bw):=by
  have e:=TV.map (·.2);rw[bq]at e;refine e.trans (ji ?_);exact List.map_id'' (λ_=>rfl) _
 have ð:ps=(ts.map bw).map (pairOf s.heap):=by
  rw[bq];refine Jr (λt p hr=>?_) hk;exact(m hr.2).symm
 obtain⟨ep,OU⟩:=sortedAll_at s.heap (ts.map bw) (Array.map (λx=>x.snd) arr);obtain⟨b,g⟩:∃l,l=arr.toList.map (·.2):=⟨_,rfl⟩;rw[<-g]at o
 have M:b=(b.map addrOf).map bw:=by
  rw[bq];refine(zg _).symm.trans (cW λv d=>?_);obtain⟨t,_,e,_⟩:=u v (o.mem_iff.mp d);subst e;rfl
 have ε:b.length=ts.length:=by rw[o.length_eq,ae]
 refine⟨.ref _,bB H (s.heap.objs.size+1) (.lst ((b.map addrOf).map V.ref)),I.laid (t':=s.toks) (λ_ _=>sortedAll_old) (Z4 _) ⟨by rw[ae,ae,ε];exact L,b,ep,?_,?_⟩,rfl,q (b.map addrOf) (b.map (pairOf s.heap)) _ ?_ ?_ ?_ (I.eR.fresh (Z4 _))⟩
 ·have e:=N2 (b.map addrOf);rw[<-M]at e;exact e
 ·rw[OU]
  congr 2
  rw[g];rw[<-Array.toList_map,wu]
 ·have:=Jq (R:=λt (p:Int×Int)=>gL X.K H t [V.int p.1,V.int p.2]) (xs:=b.map addrOf) (f:=λt=>pairOf s.heap (.ref t)) (λt y=>by
   obtain⟨v,d,rfl⟩:=aG.mp y;obtain⟨t,p,e,h3,E⟩:=u v (o.mem_iff.mp d);subst e;show gL X.K H t _;rw[show pairOf s.heap (bw (addrOf (bw t)))=p from m E];exact h3)
  rw[bq]at this
  have e:b.map ((λt=>pairOf s.heap (bw t))∘addrOf)=b.map (pairOf s.heap):=by
   refine cW λv d=>?_
   obtain⟨t,_,e,_⟩:=u v (o.mem_iff.mp d);subst e;rfl
  rw[e]at this;exact this
 ·rw[ð];exact o.map _
 ·rw[gs];intro i j hi hj T;rw[amT,amT];have B:i<arr.size:=by simpa [g]using hi
  have z:j<arr.size:=by simpa [g]using hj
  have P:(pairsOf (ts.map bw)).size=arr.size:=C.size_eq.symm;have hh:=J i j (dY T) (by rw[P];exact z)
  have Y:∀n (Z:n<arr.size) (Ù:n<b.length),∃p,KK (G.tupKindC s.heap PQ) arr n=abC p/\pairOf s.heap b[n]=p:=by
   intro n Z Ù;have S:arr[n]∈arr.toList:=by simp
   obtain⟨d1,d2⟩:=O _ S;obtain⟨t,p,e,h3,E⟩:=u _ d2;refine⟨p,?_,?_⟩
   ·unfold KK;rw[j7 Z];show(acM s.heap PQ arr[n].1).getD []=_;rw[d1,E];rfl
   ·refine m ?_;have:b[n]=arr[n].2:=by simp[g]
    rw[this];exact E
  obtain⟨p1,k1,e1⟩:=Y i B (by simpa using hi);obtain⟨p2,k2,F⟩:=Y j z (by simpa using hj);rw[k1,k2]at hh;rw[e1,F];exact agt hh
def wC (i c:Int) (n:Nat):List Int:=(f7 n).map λk=>i+(k:Nat) * c
def af2 {i c:Int} (q:acc.length=n) (f:∀(j:Nat) (v:Value),acc[j]? =some v->∃t,v=.int (i+(j:Nat) * c) t):Vals ((wC i c n).map V.int) acc:=by
 subst q;unfold wC;rw[bq]
 have gen:∀(l:List Value) (k:Nat),(∀(j:Nat) (v:Value),l[j]? =some v->∃t,v=.int (i+((k+j:Nat):Int) * c) t)->Vals ((List.range' k l.length).map (V.int∘fun(m:Nat)=>i+(m:Int) * c)) l:=by
  intro l
  induction l with
  |nil=>intro k _;exact .nil
  |cons v l b=>
   intro k a;rw[ak,List.range'_succ,bW];refine .cons ?_ (b (k+1) λj u d=>?_)
   ·obtain⟨t,e⟩:=a 0 v rfl;exact⟨t,e⟩
   ·obtain⟨t,e⟩:=a (j+1) u d;refine⟨t,?_⟩;rw[e,show k+(j+1)=k+1+j by omega]
 rw[List.range_eq_range'];refine gen acc 0 λj v g=>?_
 rw[ave];exact f j v g
def aib (f:TA):TE:=fun σ H Q=>f σ H λvs H1=>∃(i j c:Int) (n:Nat),vs=[.int i,.int j,.int c]/\RgC i j c n/\n<=5000/\∀l,H1 l=none->Q (.ref l) (bB H1 l (.lst ((wC i c n).map V.int)))
def YD {a:Expr} {O:TA} (G:X.calm=true) (hg:Gl X "list") (Z:X.mg "list"=none) (B:Gl X "range") (f:X.mg "range"=none) (ha:PA X [a,b,c] O)
 (Y:starEach [a,b,c] X.env=(false,eval a X.env)::starEach [b,c] X.env:=by rfl) (Iz:(backTo iA (starEach [b,c] X.env)).any (·.1)=false:=by rfl)
 (U:starEach [.Call (.Name "range" p2) [a,b,c] [] iA] X.env=(false,eval (.Call (.Name "range" p2) [a,b,c] [] iA) X.env)::starEach [] X.env:=by rfl) (F:(backTo pos (starEach [] X.env)).any (·.1)=false:=by rfl):
 PE X (.Call (.Name "list" p) [.Call (.Name "range" p2) [a,b,c] [] iA] [] pos) (aib O):=by
 intro d s x H Q I h;refine gx (KW I hg Z RO ?_ (by decide) (by decide));refine gC ?_ U F;rw[U];show wpAny _ _ (spliced ((false,eval (.Call (.Name "range" p2) [a,b,c] [] iA) X.env)::backTo pos (starEach [] X.env))) _ _ s;refine iX ?_;refine Call_ (KW I B f boot_range (gC (gn (ha iA d s x H _ I h) λS m ⟨P,M,C,r1,E⟩=>?_) Y Iz));obtain⟨i,j,k,n,e,⟨c0,c1,c2,c3⟩,J,q⟩:=E;subst e;cases r1 with
 |cons r g=>
  cases g with
  |cons D g=>
   cases g with
   |cons u g=>
    cases g;obtain⟨t,rfl⟩:=r;obtain⟨t',rfl⟩:=D;obtain⟨l,rfl⟩:=u;refine call_range_3 c0 ?_ (.inl (PyProof.noPylong_small c1));refine kD ?_;have z:Inv X d x M {m with heap:=m.heap.push {cls:=.type "range",data:=.fields #[.int i t,.int j t',.int k l]}}:=C.kept (t':=m.toks) λb o e=>aB _ e
    refine call_list_range (n:=n) (C.ok.hd G) (apX ..) c2 c3 (by fail) λT tk acc L kp en y=>?_
    refine⟨.ref _,_,z.laid (t':=tk) (o:=.lst ((wC i k n).map V.int)) kp (aS _) ⟨by unfold wC;rw[ae,ae,uI];exact b9 J (by decide),acc.toList,L,af2 (by rw[fP];exact y.1) (λj v e=>y.2 j v (by rw[<-mX];exact e)),by rw[wu];exact en⟩,rfl,q _ (z.eR.fresh (aS _))⟩
section
variable {κ:Type} [DecidableEq κ]
def abt {knd:HeapKind P w κ} (d a:ag) (hd:(d==sysModules)=false):
 MeetsIn P w (Builtin.«dict.pop» ⟨[.ref d,.ref a],[]⟩) (λA R s=>knd.room A.in1/\∃k xs v,knd.is s.heap k a/\s.heap.DictOfH knd d xs/\xs.length<=sizeLine/\(atKey xs k).map (·.2)=some v/\
  ∀h' t,h'.DictOfH knd d (adD xs k)->hZ d s.heap h'->R (.ok (.ret v)) {s with heap:=h',toks:=t}):=
 .of_wp λA R s ⟨x,k,xs,v,D,h,u,b,m⟩=>by
  obtain⟨o,l,M,C,L,p,H,E,J⟩:=id h;have y:=oW H;unfold Builtin.«dict.pop»;refine af ?_;unfold Pk;refine af (yh h.typeIs ?_);show wpAny _ _ (pure (d,bw a,none)) _ _ s;refine aN ?_;have kp:(keyPart (bw a)).isSome=false:=rfl;simp only[kp,eB,lC];refine af (gU C p (af (aN ?_)));cases i:l.isEmpty with
  |true=>
   have j:atKey xs k=none:=by
    have:l.size=0:=by simpa using i
    have:xs=[]:=EL.mp (by omega);subst this;rfl
   rw[j]at b;cases b
  |false=>
   simp only[eB,lC];refine af (am0 x D h u (λj=>?_) (λe g h' n z=>?_))
   ·rw[j]at b;cases b
   ·simp only[ahE,eB,lC];rw[b]at g;cases g;exact af (Lu (aN ⟨e.val,rfl,m h' _ n z⟩))
end
def amz {b:ag} {kvs:List (List Key×V)} {E:Value->aJ->Prop} {Q:Value->aJ->Prop} {v:V} (G:A.units+1<cLine) (I:Inv X pins σ H s) (e:H a=some (.dT kvs)) (U:H b=some (.tup (k.map kV))) (F:gF kvs k=some v)
 (O:∀f B,Inv X pins σ (bB H a (.dT (qJ kvs k))) B->RelV v f->Q f B):
 wpAny (model X.prog X.w) A (call (.builtin "dict.pop") [.ref a,.ref b]) Q E s:=by
 obtain⟨z,hd,m,rel,o⟩:=abV I.eR e;have d:=rel.val k;rw[F]at d;cases j:(atKey m k).map (·.2)with
 |none=>rw[j]at d;exact d.elim
 |some f=>
  rw[j]at d
  refine EI jU o.typeIs EA (Z2 _ _) (abt (knd:=tupleKind (fG X.prog X.w)) a b hd)
   ⟨kC G,k,m,f,FX I.eR U,o,by rw[<-fX rel];exact z,j,λJ t u x=>?_⟩
  refine O f _ ?_ d;obtain⟨q,y,C,l,p,i,h,_,g⟩:=u;refine M8 I (by rw[e];exact uF) x ⟨q,l⟩ ⟨b9 (Uj kvs k) z,hd,_,(rel.off k).keeps λc D n=>?_,q,y,C,l,p,i,h,g⟩;rw[aw (C1 n e (λz=>nomatch z))];exact n
def ak6 (f ty:TE):TE:=fun σ H Q=>f σ H λx H1=>∃a,x=.ref a/\IsD H1 a/\ty σ H1 λy H2=>∃kvs k b v,H2 a=some (.dT kvs)/\y=.ref b/\H2 b=some (.tup (k.map kV))/\gF kvs k=some v/\Q v (bB H2 a (.dT (qJ kvs k)))
def WU (f:X.A.units+1<cLine) (q:PE X o td) (B:PE X e ty) (m:M1 X o "pop" apos e iA):PE X (.Call (.Attribute o "pop" apos) [e] [] iA) (ak6 td ty):=by
 intro g s i H Q I h;refine lU m.base m.Zl m.line rh jU Hm (gn (q g s i H _ I h) λu z ⟨x,U,j,D,a,ex,d,J⟩=>?_);subst ex;obtain rfl:u=bw a:=D;obtain⟨p,n,_⟩:=Za j d;refine⟨p,n,?_⟩;rw[m.trees];refine jE rfl (kz (iX (gn (B g z i U _ j J) λM s2 ⟨y,H2,O,C,L,k,b,v,T,P,S,l,E⟩=>kD ?_)));subst P;obtain rfl:M=bw b:=C;exact amz f O T S l λY Z G F=>⟨v,_,G,F,E⟩
section
open PySem.W (WData Codec OpenSpec Well WellAll ReadsW ReadsAllW)
mutual
inductive Dw (K:ah) (H:Hp):V->WData->Prop
 |m6:Dw K H .m6 .none
 |bl (b:Bool):Dw K H (.bl b) (.bool b)
 |int (i:Int):Dw K H (.int i) (.int i)
 |str (x:Str):Dw K H (.str x) (.str x)
 |Zv (b:Array UInt8):Dw K H (.Zv b) (.bytes b.toList)
 |lst {a:ag} {xs:List V} {ds:List WData}:dv K H a xs->A8 K H xs ds->Dw K H (.ref a) (.list ds)
 |tup {a:ag} {xs:List V} {ds:List WData}:gL K H a xs->A8 K H xs ds->Dw K H (.ref a) (.tuple ds)
inductive A8 (K:ah) (H:Hp):List V->List WData->Prop
 |nil:A8 K H [] []
 |cons {v:V} {vs:List V} {d:WData} {ds:List WData}:Dw K H v d->A8 K H vs ds->A8 K H (v::vs) (d::ds)
end
theorem afC:∀ns:List Int,A8 K H (ns.map V.int) (ns.map WData.int)
 |[]=>.nil
 |n::r=>.cons (.int n) (afC r)
theorem aft:∀(ns:List Int) (xs:List V),A8 K H xs (ns.map WData.int)->xs=ns.map V.int
 |[],xs,h=>by
  cases h;rfl
 |n::r,xs,h=>by
  cases h with
  |cons h1 f=>
   cases h1;rw[aft r _ f]<;>rfl
section
variable {R:PySem.W.WRecords}
def aoa (eR:EH P w H h) (B:K.In h) (q:dv K H a xs):∃(f:List Value) (o:Obj) (n:Nat),Vals xs f/\h.get? a=some o/\o.cls=.type "list"/\o.data=.seq f.toArray n:=by
 rcases q with q|⟨o,f,n,e,d,_,hd,_,b⟩
 ·obtain⟨_,f,n,b,e⟩:=(show js P w H h a (.lst xs)from q.ok eR);exact⟨f,_,n,b,e,rfl,rfl⟩
 ·exact⟨f.toList,o,n,b,B _ _ e,d,by simp[hd]⟩
def an9 (eR:EH P w H h) (B:K.In h) (q:gL K H a xs):∃(f:List Value) (o:Obj) (n:Nat),Vals xs f/\h.get? a=some o/\o.cls=.type "tuple"/\o.data=.seq f.toArray n:=by
 rcases q with q|⟨o,f,n,e,d,hd,_,b⟩
 ·obtain⟨_,f,b,o,e,d,n,hd⟩:=(show js P w H h a (.tup xs)from q.ok eR);exact⟨f,o,n,b,e,d,hd⟩
 ·exact⟨f.toList,o,n,b,B _ _ e,d,by simp[hd]⟩
mutual
theorem Dw.reads (eR:EH P w H h) (f:K.In h):∀(d:WData) (v:V) (u:Value),Dw K H v d->RelV v u->∃q,ReadsW R cl h u d q
 |.none,_,_,x,r=>by
  cases x;cases r;exact⟨_,ReadsW.none⟩
 |.bool b,_,_,x,r=>by
  cases x;cases r;exact⟨_,ReadsW.bool b⟩
 |.int i,_,_,x,r=>by
  cases x;obtain⟨t,rfl⟩:=r;exact⟨_,ReadsW.int i t⟩
 |.str s,_,_,x,r=>by
  cases x;obtain⟨t,rfl⟩:=r;exact⟨_,ReadsW.str s t⟩
 |.bytes b,_,_,x,r=>by
  cases x;obtain⟨t,rfl⟩:=r;exact⟨_,ReadsW.bytes _ t⟩
 |.list p,_,_,x,r=>by
  cases x with
  |lst e m=>
   cases r;obtain⟨y,o,n,a,j,l,hd⟩:=aoa eR f e;obtain⟨q,g⟩:=Dw.readsAll eR f p _ y m a;exact⟨_,ReadsW.list j l hd g⟩
 |.tuple p,_,_,x,r=>by
  cases x with
  |tup e m=>
   cases r;obtain⟨y,o,n,a,j,l,hd⟩:=an9 eR f e;obtain⟨q,g⟩:=Dw.readsAll eR f p _ y m a;exact⟨_,ReadsW.tuple j l hd g⟩
 |.float _,_,_,x,_=>by cases x
 |.dict _,_,_,x,_=>by cases x
 |.bytearray _,_,_,x,_=>by cases x
 |.set _,_,_,x,_=>by cases x
 |.frozenset _,_,_,x,_=>by cases x
 |.obj _ _,_,_,x,_=>by cases x
theorem Dw.readsAll (eR:EH P w H h) (q:K.In h):∀(ds:List WData) (vs:List V) (us:List Value),A8 K H vs ds->Vals vs us->∃f,ReadsAllW R cl h us ds f
 |[],_,_,x,r=>by
  cases x;cases r;exact⟨_,ReadsAllW.nil⟩
 |d::ds,_,_,x,r=>by
  cases x with
  |cons h1 F=>
   cases r with
   |cons r1 r2=>
    obtain⟨f,B⟩:=Dw.reads eR q d _ _ h1 r1;obtain⟨bs,a⟩:=Dw.readsAll eR q ds _ _ F r2;exact⟨_,ReadsAllW.cons B a⟩
end
end
mutual
def plW:WData->Bool
 |.none=>true
 |.bool _=>true
 |.int _=>true
 |.str _=>true
 |.bytes _=>true
 |.list xs=>QZ xs
 |.tuple xs=>QZ xs
 |_=>false
def QZ:List WData->Bool
 |[]=>true
 |x::r=>plW x&&QZ r
end
theorem aaY {α:Type} {f:α->WData} (h:∀a,plW (f a)=true):∀l:List α,QZ (l.map f)=true
 |[]=>rfl
 |x::r=>by
  show(plW (f x)&&QZ (r.map f))=true;rw[h x,aaY h r]<;>rfl
theorem Fn:∀(c:Codec) (a:c.denote),plW (c.enc a)=true
 |.unit,_=>rfl
 |.bool,_=>rfl
 |.int _ _,_=>rfl
 |.nat _ _,_=>rfl
 |.u8,_=>rfl
 |.bytes _ _,_=>rfl
 |.text _ _ _ _,_=>rfl
 |.list _ _ c,a=>aaY (λx=>Fn c x) a
 |.pair c d,a=>by
  show(plW (c.enc a.1)&&(plW (d.enc a.2)&&true))=true;rw[Fn c a.1,Fn d a.2]<;>rfl
 |.triple c d e,a=>by
  show(plW (c.enc a.1)&&(plW (d.enc a.2.1)&&(plW (e.enc a.2.2)&&true)))=true;rw[Fn c a.1,Fn d a.2.1,Fn e a.2.2]<;>rfl
 |.option c,none=>rfl
 |.option c,some x=>Fn c x
theorem WQ:∀(cs:List Codec) (a:Codec.denoteAll cs),QZ (Codec.encAll cs a)=true
 |[],_=>rfl
 |c::cs,a=>by
  show(plW (c.enc a.1)&&QZ (Codec.encAll cs a.2))=true;rw[Fn c a.1,WQ cs a.2]<;>rfl
theorem Ki:∀{xs:List WData} {d:WData},d∈xs->d.weight<=WData.weightAll xs
 |[],d,h=>absurd h (by simp)
 |x::r,d,h=>by
  show d.weight<=x.weight+1+WData.weightAll r;rcases aY.mp h with e|m
  ·rw[e];omega
  ·have z:=Ki m;omega
def toV:Value->V
 |.none=>.m6
 |.bool b=>.bl b
 |.int i _=>.int i
 |.str x _=>.str x
 |.bytes b _=>.Zv b
 |.ref a=>.ref a
 |_=>.m6
def OkU (A:List ag):Value->Prop
 |.none=>True
 |.bool _=>True
 |.int _ _=>True
 |.str _ _=>True
 |.bytes _ _=>True
 |.ref a=>a∈A
 |_=>False
def OkU.mono {A B:List ag} (h:∀a∈A,a∈B):∀{u:Value},OkU A u->OkU B u:=fun {u} x=>by
 cases u with
 |ref a=>exact h a x
 |none=>trivial
 |bool b=>trivial
 |int i t=>trivial
 |str s t=>trivial
 |bytes b t=>trivial
 |_=>exact gI x
def aio {A:List ag} (x:OkU A u):RelV (toV u) u:=by
 cases u with
 |ref a=>rfl
 |none=>rfl
 |bool b=>rfl
 |int i t=>exact⟨t,rfl⟩
 |str s t=>exact⟨t,rfl⟩
 |bytes b t=>exact⟨t,rfl⟩
 |_=>exact gI x
theorem zP {A:List ag}:∀{vs:List Value},(∀u∈vs,OkU A u)->Vals (vs.map toV) vs
 |[],_=>.nil
 |u::r,h=>.cons (aio (h u (aM ..))) (zP λx f=>h x (aL _ f))
def DA (h:Heap) (A:List ag) (a:ag):Prop:=∃vs:List Value,vs.length<=sizeLine/\(∀u∈vs,OkU A u)/\
 (h.get? a=some {cls:=.type "list",data:=.seq vs.toArray}\/h.get? a=some {cls:=.type "tuple",data:=.seq vs.toArray})
def DA.mono {A B:List ag} (k:∀a∈A,a∈B) (x:DA h A a):DA h B a:=by
 obtain⟨b,i,g,e⟩:=x;exact⟨b,i,λu d=>(g u d).mono k,e⟩
theorem yj {P:Params}:∀{vs:List Value} {ds:List WData},WellAll P h vs ds->vs.length=ds.length
 |_,_,.nil=>rfl
 |_,_,.cons _ b=>by
  show _+1=_+1;rw[yj b]
def Wr {P:Params} {ds:List WData} (x:Well P h v (.list ds)):∃(a:ag) (vs:List Value),v=.ref a/\h.get? a=some {cls:=.type "list",data:=.seq vs.toArray}/\WellAll P h vs ds:=by
 cases x with
 |list b d=>exact⟨_,_,rfl,b,d⟩
def RX {P:Params} {ds:List WData} (x:Well P h v (.tuple ds)):∃(a:ag) (vs:List Value),v=.ref a/\h.get? a=some {cls:=.type "tuple",data:=.seq vs.toArray}/\WellAll P h vs ds:=by
 cases x with
 |tuple b d=>exact⟨_,_,rfl,b,d⟩
def Ws {P:Params} {d:WData} {ds:List WData} (x:WellAll P h us (d::ds)):∃(v:Value) (vs:List Value),us=v::vs/\Well P h v d/\WellAll P h vs ds:=by
 cases x with
 |cons a b=>exact⟨_,_,rfl,a,b⟩
def afk (h:n<=1048576):n<=sizeLine:=b9 h (by decide)
section
variable {P:Params}
mutual
theorem aj2:∀(d:WData) (v:Value),Well P h v d->plW d=true->d.weight<=1048576->∃A:List ag,OkU A v/\∀a∈A,DA h A a
 |.none,_,x,_,_=>by
  cases x;exact⟨[],trivial,λa m=>absurd m (by simp)⟩
 |.bool b,_,x,_,_=>by
  cases x;exact⟨[],trivial,λa m=>absurd m (by simp)⟩
 |.int i,_,x,_,_=>by
  cases x;exact⟨[],trivial,λa m=>absurd m (by simp)⟩
 |.str s,_,x,_,_=>by
  cases x;exact⟨[],trivial,λa m=>absurd m (by simp)⟩
 |.bytes b,_,x,_,_=>by
  cases x;exact⟨[],trivial,λa m=>absurd m (by simp)⟩
 |.list ds,_,x,p,z=>by
  obtain⟨a,vs,rfl,q,f⟩:=Wr x;have j:WData.weightAll ds<=1048576:=z;obtain⟨A,o,n⟩:=NA ds _ f p λd hd=>b9 (Ki hd) j
  have k:∀b∈A,b∈a::A:=λb g=>aL _ g
  refine⟨a::A,aM ..,λb g=>?_⟩;rcases aY.mp g with e|m
  ·rw[e];exact⟨vs,afk (by rw[yj f];exact b9 (RV ds) j),λu l=>(o u l).mono k,.inl q⟩
  ·exact(n b m).mono k
 |.tuple ds,_,x,p,z=>by
  obtain⟨a,vs,rfl,q,f⟩:=RX x;have j:WData.weightAll ds<=1048576:=z;obtain⟨A,o,n⟩:=NA ds _ f p λd hd=>b9 (Ki hd) j
  have k:∀b∈A,b∈a::A:=λb g=>aL _ g
  refine⟨a::A,aM ..,λb g=>?_⟩;rcases aY.mp g with e|m
  ·rw[e];exact⟨vs,afk (by rw[yj f];exact b9 (RV ds) j),λu l=>(o u l).mono k,.inr q⟩
  ·exact(n b m).mono k
 |.float _,_,_,p,_=>fy (show false=true from p)
 |.dict _,_,_,p,_=>fy (show false=true from p)
 |.bytearray _,_,_,p,_=>fy (show false=true from p)
 |.set _,_,_,p,_=>fy (show false=true from p)
 |.frozenset _,_,_,p,_=>fy (show false=true from p)
 |.obj _ _,_,_,p,_=>fy (show false=true from p)
theorem NA:∀(ds:List WData) (vs:List Value),WellAll P h vs ds->QZ ds=true->(∀d∈ds,d.weight<=1048576)->∃A:List ag,(∀u∈vs,OkU A u)/\∀a∈A,DA h A a
 |[],_,x,_,_=>by
  cases x;exact⟨[],λu m=>absurd m (by simp),λa m=>absurd m (by simp)⟩
 |d::ds,_,x,p,z=>by
  obtain⟨v,vs,rfl,F,f⟩:=Ws x;have q:plW d=true/\QZ ds=true:=ahL.mp p;obtain⟨A,C,y⟩:=aj2 d v F q.1 (z d (aM ..));obtain⟨B,s,o⟩:=NA ds vs f q.2 λe n=>z e (aL _ n)
  have j:∀b∈A,b∈A++B:=λb g=>bL.mpr (.inl g)
  have i:∀b∈B,b∈A++B:=λb g=>bL.mpr (.inr g)
  refine⟨A++B,λu l=>?_,λb g=>?_⟩
  ·rcases aY.mp l with e|m
   ·rw[e];exact C.mono j
   ·exact(s u m).mono i
  ·rcases bL.mp g with m|m
   ·exact(y b m).mono j
   ·exact(o b m).mono i
end
end
def amh (o:Obj):Option HO:=match o.data with
 |.seq vs _=>if(o.cls==CG "list")=true then some (.gb o (.lst (vs.toList.map toV)))else some (.gb o (.tup (vs.toList.map toV)))
 |_=>none
def Cn (K:ah) (h:Heap) (A:List ag):Hp:=λb=>if b∈A then(if(K.lookup b).isNone=true then(h.get? b).bind amh else none)else none
def XG (H:Hp):Prop:=∀b,H b=none\/∃o u,H b=some (.gb o u)
def abI (vs:List Value):amh {cls:=.type "list",data:=.seq vs.toArray}=some (.gb {cls:=.type "list",data:=.seq vs.toArray} (.lst (vs.map toV))):=by
 show(if(CG "list"==CG "list")=true then some (HO.gb {cls:=.type "list",data:=.seq vs.toArray} (.lst (vs.toArray.toList.map toV)))else some (HO.gb {cls:=.type "list",data:=.seq vs.toArray} (.tup (vs.toArray.toList.map toV))))=_;rw[az (QF _)]
def abH (vs:List Value):amh {cls:=.type "tuple",data:=.seq vs.toArray}=some (.gb {cls:=.type "tuple",data:=.seq vs.toArray} (.tup (vs.map toV))):=by
 show(if(CG "tuple"==CG "list")=true then some (HO.gb {cls:=.type "tuple",data:=.seq vs.toArray} (.lst (vs.toArray.toList.map toV)))else some (HO.gb {cls:=.type "tuple",data:=.seq vs.toArray} (.tup (vs.toArray.toList.map toV))))=_;rw[au (by decide)]
section
variable {A:List ag}
def RR {A:List ag} {b:ag} (q:b∈A) (f:K.lookup b=none) (e:h.get? b=some o):Cn K h A b=amh o:=by
 unfold Cn;rw[az q,f,az (show(none:Option Obj).isNone=true from rfl),e]<;>rfl
def alK {A:List ag} {b:ag} {u:HO} (q:Cn K h A b=some u):b∈A/\K.lookup b=none:=by
 unfold Cn at q;by_cases a:b∈A
 ·rw[az a]at q;cases d:K.lookup b with
  |none=>exact⟨a,rfl⟩
  |some o=>
   rw[d,au (by simp)]at q;cases q
 ·rw[au a]at q;cases q
def RQ (f:∀a∈A,DA h A a) {b:ag} {u:HO} (q:Cn K h A b=some u):K.lookup b=none/\∃vs:List Value,vs.length<=sizeLine/\(∀u∈vs,OkU A u)/\
 ((h.get? b=some {cls:=.type "list",data:=.seq vs.toArray}/\u=.gb {cls:=.type "list",data:=.seq vs.toArray} (.lst (vs.map toV)))\/
  (h.get? b=some {cls:=.type "tuple",data:=.seq vs.toArray}/\u=.gb {cls:=.type "tuple",data:=.seq vs.toArray} (.tup (vs.map toV)))):=by
 obtain⟨g,d⟩:=alK q;obtain⟨vs,l,j,i⟩:=f b g;refine⟨d,vs,l,j,?_⟩;rcases i with e|e
 ·rw[RR g d e,abI]at q;exact .inl ⟨e,(ay q).symm⟩
 ·rw[RR g d e,abH]at q;exact .inr ⟨e,(ay q).symm⟩
def ahm (f:∀a∈A,DA h A a):XG (Cn K h A):=λb=>by
 cases q:Cn K h A b with
 |none=>exact .inl rfl
 |some u=>
  obtain⟨_,d,_,_,⟨_,e⟩|⟨_,e⟩⟩:=RQ f q
  ·exact .inr ⟨_,_,by rw[e]⟩
  ·exact .inr ⟨_,_,by rw[e]⟩
def amH (f:∀a∈A,DA h A a):EH P w (Cn K h A) h:=λb u q=>by
 obtain⟨_,d,i,g,⟨e,rfl⟩|⟨e,rfl⟩⟩:=RQ f q
 ·exact⟨e,by rw[ae];exact i,d,_,zP g,e⟩
 ·exact⟨e,by rw[ae];exact i,d,zP g,_,e,rfl,_,rfl⟩
def RF {c:Value} (e:(some {cls:=c,data:=.seq vs.toArray}:Option Obj)=some {cls:=c',data:=.seq us.toArray}):c=c'/\vs=us:=by
 have a:=ay e;have h:c=c':=cK Obj.cls a;have g:akn vs.toArray=akn us.toArray:=cK Obj.data a;injection g with d
 refine⟨h,?_⟩;have b:=cK aeP d;simpa using b
def ayg {K:ah} {h:Heap} (F:K.In h) (B:∀a∈A,DA h A a) {a:ag} {vs:List Value} (f:a∈A) (e:h.get? a=some {cls:=.type "list",data:=.seq vs.toArray}):(∀u∈vs,OkU A u)/\dv K (Cn K h A) a (vs.map toV):=by
 obtain⟨d,m,g,l⟩:=B a f
 have j:d=vs:=by
  rcases l with q|q
  ·rw[e]at q;exact(RF q).2.symm
  ·rw[e]at q;exact absurd (ahB (RF q).1) (by decide)
 subst j;refine⟨g,?_⟩;cases b:K.lookup a with
 |none=>exact .inl (.inr ⟨_,by rw[RR f b e,abI]⟩)
 |some o=>
  have i:=F a o b;rw[e]at i;obtain rfl:=ay i;exact .inr ⟨_,d.toArray,_,b,rfl,rfl,rfl,by rw[bz];exact m,by simpa using zP g⟩
def ayf {K:ah} {h:Heap} (F:K.In h) (B:∀a∈A,DA h A a) {a:ag} {vs:List Value} (f:a∈A) (e:h.get? a=some {cls:=.type "tuple",data:=.seq vs.toArray}):(∀u∈vs,OkU A u)/\gL K (Cn K h A) a (vs.map toV):=by
 obtain⟨d,m,g,l⟩:=B a f
 have j:d=vs:=by
  rcases l with q|q
  ·rw[e]at q;exact absurd (ahB (RF q).1) (by decide)
  ·rw[e]at q;exact(RF q).2.symm
 subst j;refine⟨g,?_⟩;cases b:K.lookup a with
 |none=>exact .inl (.inr ⟨_,by rw[RR f b e,abH]⟩)
 |some o=>
  have i:=F a o b;rw[e]at i;obtain rfl:=ay i;exact .inr ⟨_,d.toArray,_,b,rfl,rfl,by rw[bz];exact m,by simpa using zP g⟩
mutual
theorem apr {B:Params} (q:K.In h) (f:∀a∈A,DA h A a):∀(d:WData) (v:Value),Well B h v d->plW d=true->OkU A v->Dw K (Cn K h A) (toV v) d
 |.none,_,x,_,_=>by
  cases x;exact .m6
 |.bool b,_,x,_,_=>by
  cases x;exact .bl b
 |.int i,_,x,_,_=>by
  cases x;exact .int i
 |.str s,_,x,_,_=>by
  cases x;exact .str s
 |.bytes b,_,x,_,_=>by
  cases x;have z:=Dw.Zv (K:=K) (H:=Cn K h A) b.toArray;exact z
 |.list m,_,x,p,e=>by
  obtain⟨a,o,rfl,j,n⟩:=Wr x;obtain⟨l,g⟩:=ayg q f e j;exact .lst g (Zo q f m _ n p l)
 |.tuple m,_,x,p,e=>by
  obtain⟨a,o,rfl,j,n⟩:=RX x;obtain⟨l,g⟩:=ayf q f e j;exact .tup g (Zo q f m _ n p l)
 |.float _,_,_,p,_=>fy (show false=true from p)
 |.dict _,_,_,p,_=>fy (show false=true from p)
 |.bytearray _,_,_,p,_=>fy (show false=true from p)
 |.set _,_,_,p,_=>fy (show false=true from p)
 |.frozenset _,_,_,p,_=>fy (show false=true from p)
 |.obj _ _,_,_,p,_=>fy (show false=true from p)
theorem Zo {O:Params} (F:K.In h) (B:∀a∈A,DA h A a):∀(ds:List WData) (vs:List Value),WellAll O h vs ds->QZ ds=true->(∀u∈vs,OkU A u)->A8 K (Cn K h A) (vs.map toV) ds
 |[],_,x,_,_=>by
  cases x;exact .nil
 |d::ds,_,x,p,f=>by
  obtain⟨v,vs,rfl,I,G⟩:=Ws x;have q:plW d=true/\QZ ds=true:=ahL.mp p;exact .cons (apr F B d v I q.1 (f _ (aM ..))) (Zo F B ds vs G q.2 λu m=>f u (aL _ m))
end
end
def agf {U:Str->Option Value} {k:Nat} {fa:ag} {ds:List WData}
 (KX:K.In s₁.heap) (ã:s₁.heap.Ns mainGlobals mg) (hb:s₁.heap.Ns builtinsNs U) (Z:∀x:Str,x≠"__name__"->U x=bootBuiltins x) (aw4:s₁.heap.NoLimit) (hg:s₁.gens= #[])
 (B:WellAll w.params s₁.heap f ds) (Iz:QZ ds=true) (Y:∀d∈ds,d.weight<=1048576) (hr:oS k callerA)
 (F:∀base:Heap,K.In base->base.Ns mainGlobals mg->A3 P w K mg base CX k fa fd ps sp) (asz:∀(s:aJ) (us:List Value),us.length=ps.length->BindsTo s fd ⟨us,[]⟩ (ps.zip us)) (ε:ds.length=ps.length)
 (Ê:∀(H:Hp) (xs:List V),XG H->A8 K H xs ds->sp xs H (λv H'=>Dw K H' v d0) λ_ _ _=>False)
 (hCX:∀H e s',CX [] H s₁ (λ_ _ _=>False) e s'->False):
 codeAny (model P w) callerA (.call (.ref fa) ⟨f,[]⟩) (λr s'=>∃u as,r=.ok (.ret u)/\ReadsW R cl s'.heap u d0 as/\OldK s₁.heap s'.heap/\s'.os=s₁.os/\AllBare s'.gens) s₁:=by
 obtain⟨A,ho,O⟩:=NA ds f B Iz Y;have hO:XG (Cn K s₁.heap A):=ahm O;have eR:EH P w (Cn K s₁.heap A) s₁.heap:=amH O;have hS:=Zo KX O ds f B Iz ho;have hV:=zP ho;have hK:∀b u,Cn K s₁.heap A b=some u->K.lookup b=none:=λb u q=>(RQ O q).1
 have ż:∀{b:ag} {o:Obj} {es:Array DictEntry} {ep:Nat},s₁.heap.get? b=some o->o.data=.dict es ep->Cn K s₁.heap A b=none:=fun {b o es ep} e d=>by
  cases q:Cn K s₁.heap A b with
  |none=>rfl
  |some u=>
   obtain⟨_,vs,_,_,⟨I,_⟩|⟨I,_⟩⟩:=RQ O q
   ·rw[I]at e;cases e;have d':akn vs.toArray _=aAd es ep:=d;cases d'
   ·rw[I]at e;cases e;have d':akn vs.toArray _=aAd es ep:=d;cases d'
 generalize Cn K s₁.heap A=H at hO eR hS hK ż;have ä:∀{b:ag} {o:Obj},s₁.heap.get? b=some o->H b=none->(Zh s₁.heap H).get? b=some o:=λe n=>aji e n
 have sU:∀{b:ag} {m:Str->Option Value},s₁.heap.Ns b m->(Zh s₁.heap H).Ns b m:=fun {b m} ⟨o,es,ep,e,d,r⟩=>⟨o,es,ep,ä e (ż e d),d,r⟩
 have nK:∀b o,K.lookup b=some o->H b=none:=λb o e=>by
  cases q:H b with
  |none=>rfl
  |some u=>
   rw[hK b u q]at e;cases e
 have G:K.In (Zh s₁.heap H):=λb o e=>ä (KX b o e) (nK b o e)
 have hM:Mod K mg (Zh s₁.heap H):=⟨G,sU ã,⟨U,sU hb,Z⟩,let⟨mc,h1,h2⟩:=aw4;⟨mc,sU h1,h2⟩⟩;have D:aeF P w K mg (Zh s₁.heap H) callerA [] s₁ H:=⟨rfl,hM,λb o e=>alJ e,Be (agU _ _),trivial,λb hb=>absurd (show b∈([]:List ag)from hb) (by simp),eR,.of_eq hg⟩;have y:f.length=ps.length:=by rw[yj B];exact ε
 refine Pg ((F _ G (sU ã)).run callerA [] s₁ H ⟨f,[]⟩ f (f.map toV) _ _ hr D (asz s₁ f y) hV (Ê H _ hO hS)) λr s' x=>?_
 cases r with
 |error e=>exact(hCX H e s' x).elim
 |ok C=>
  cases C with
  |next=>exact gI x
  |brk=>exact gI x
  |cont=>exact gI x
  |ret u=>
   obtain⟨v,H',os,bare,un,a,l,q⟩:=x
   have kept:∀b o,s₁.heap.get? b=some o->s'.heap.get? b=some o:=λb o e=>by
    cases h:H b with
    |none=>exact un.keep b o e h (by intro z;exact absurd (show b∈([]:List ag)from z) (by simp)) (by simp)
    |some J=>
     rcases hO b with z|⟨ob,E,z⟩
     ·rw[h]at z;cases z
     ·have j:=un.OV b ob _ z;obtain⟨i,_⟩:=eR b _ z;obtain⟨I,_⟩:=a b _ j;rw[e]at i;cases i;exact I
   have g:K.In s'.heap:=λb o e=>kept b o (KX b o e)
   obtain⟨as,p⟩:=Dw.reads (R:=R) (cl:=cl) a g d0 v u q l;exact⟨u,as,rfl,p,OldK.of_keep kept,os,bare⟩
def TJ {ds:List WData} (h:WData.layableAll ds=true):∀d∈ds,d.weight<=1048576:=λd hd=>
 (PySem.W.layableW_iff.mp (eA.mp h d hd)).2.2
theorem Uh:∀(cs:List Codec) (a:Codec.denoteAll cs),(Codec.encAll cs a).length=cs.length
 |[],_=>rfl
 |c::cs,a=>by
  show(Codec.encAll cs a.2).length+1=cs.length+1;rw[Uh cs a.2]
def af1 {k:Nat} {ø:List Str} {XP:(Str->Option Value)->Heap->Prop} {YP:World->Heap->Prop} {d:DefRec} {K:Params->ah} {CX:World->CXT} {sp:World->Sp}
 (Z:r.wellSaid=true) (ō:d.params.defaults=[]) (ε:r.args.length=ps.length) (hr:oS k callerA)
 (hY:∀(w:World) (h:Heap),YP w h->(K w.params).In h)
 (F:∀(w:World) (mg:Str->Option Value) (I:ag) (h:Heap),YP w h->(K w.params).In h->h.Ns mainGlobals mg->mg d.name=some (.ref I)->
  ∃U:aH,(∀(s:aJ) (us:List Value),us.length=ps.length->BindsTo s U ⟨us,[]⟩ (ps.zip us))/\
   ∀base:Heap,(K w.params).In base->base.Ns mainGlobals mg->A3 r.prog w (K w.params) mg base (CX w) k I U ps (sp w))
 (Ê:∀(w:World) (H:Hp) (xs:List V) (a:Codec.denoteAll r.args),XG H->Codec.withinAll r.args a=true->Codec.app r.args r.asked a=true->A8 (K w.params) H xs (Codec.encAll r.args a)->
  sp w xs H (λv H'=>Dw (K w.params) H' v (r.ret.enc (Codec.app r.args r.f a))) λ_ _ _=>False)
 (O:∀(w:World) (H:Hp) (s:aJ) (e:Value) (B:aJ),CX w [] H s (λ_ _ _=>False) e B->False):
 akR q ø XP YP r d [] (λf vs=>auW f vs):=by
 intro w PL i mg mb G Y I o pm cd doc dV kV ho hd ì hD m E args ρ as n p pj l D;obtain⟨a,e1,e2⟩:=PySem.W.os_pre_some n;obtain⟨e3,j⟩:=Codec.encAll_of_decAll r.args args a e1;subst e3;have y:=hY w _ Y;obtain⟨U,J,P⟩:=F w mg I _ Y y G.T.g m
 refine PySem.W.enter_call (Pg (agf (R:=[]) (cl:=classAt PL.heap) (d0:=r.ret.enc (Codec.app r.args r.f a)) y G.T.g G.T.b G.T.builtins G.T.nolimit E l (WQ _ _) (TJ p) hr P J (by rw[Uh];exact ε)
  (λH xs M L=>Ê w H xs a M j e2 L) λH e B=>O w H i e B) λr' B C=>?_)
 obtain⟨u,x,rfl,h1,X,S,Q⟩:=C;exact⟨.inl ⟨u,_,x,rfl,λ_=>rfl,h1,(OpenSpec.post_iff Z j _ _).mpr rfl,λz=>fy (show false=true from z)⟩,X,S,Q⟩
end
def Hw {x:Str} {pos':Pos} {j} (F:Gl X "ord") (q:X.mg "ord"=none) (B:x.length=1:=by rfl) (f:x.cps.getD 0 0=n:=by rfl)
 (G:starEach [.Constant (.str x) j pos'] X.env=(false,eval (.Constant (.str x) j pos') X.env)::starEach [] X.env:=by rfl) (O:(backTo pos (starEach [] X.env)).any (·.1)=false:=by rfl):PE X (.Call (.Name "ord" p) [.Constant (.str x) j pos'] [] pos) (tC (.int n)):=by
 intro a s b H Q I h;refine cG ajV F q apB (aa BA ai) (by decide) (by decide) G O a s b H Q I ?_;refine⟨x,rfl,B,?_⟩;rw[f];exact h
end L2
namespace CS
open PySem PySem.Spec PyProof.Rows L2
open PySem.W (WData Codec OpenSpec Well WellAll ReadsW ReadsAllW)
def walk_specF {r:OpenSpec} {k:Nat} {q:kE} {Z:List Str} {XP:(Str->Option Value)->Heap->Prop} {O:World->Heap->Prop} {d:PySem.DefRec} {K:Params->ah} {ps:List Str} {sp:ah->Sp}
 (G:r.wellSaid=true) (Y:d.params.defaults=[]) (U:r.args.length=ps.length) (hr:oS k callerA)
 (hY:∀(w:World) (h:Heap),O w h->(K w.params).In h)
 (F:∀(w:World) (mg:Str->Option Value) (B:ag) (h:Heap),(K w.params).In h->h.Ns mainGlobals mg->mg d.name=some (.ref B)->
  ∃I:aH,(∀(s:aJ) (us:List Value),us.length=ps.length->BindsTo s I ⟨us,[]⟩ (ps.zip us))/\
   ∀base:Heap,(K w.params).In base->base.Ns mainGlobals mg->A3 r.prog w (K w.params) mg base (RT r.prog w) k B I ps (sp (K w.params)))
 (Ê:∀(K:ah) (H:Hp) (xs:List V) (a:Codec.denoteAll r.args),XG H->Codec.withinAll r.args a=true->Codec.app r.args r.asked a=true->A8 K H xs (Codec.encAll r.args a)->
  sp K xs H (λv H'=>Dw K H' v (r.ret.enc (Codec.app r.args r.f a))) λ_ _ _=>False):
 akR q Z XP O r d [] (λf vs=>auW f vs):=
 af1 (K:=K) (CX:=λw=>RT r.prog w) (sp:=λw=>sp (K w.params)) G Y U hr hY (λw mg B h _=>F w mg B h) (λw H xs a j i g b=>Ê (K w.params) H xs a j i g b) λw H s e l z=>by
  obtain⟨_,_,_,_,_,_,_,_,_,_,_,_,_,_,_,z⟩:=z;exact z
abbrev Rw:=gM
def amv {sp:ah->Sp}
 (F:∀(w:World) (mg:Str->Option Value) (B:ag) (h:Heap),(hd.heap_1 w.params).In h->h.Ns mainGlobals mg->mg "answers"=some (.ref B)->
  ∃q:aH,(∀(s:aJ) (us:List Value),us.length=1->BindsTo s q ⟨us,[]⟩ ((["calls"]:List Str).zip us))/\
   ∀base:Heap,(hd.heap_1 w.params).In base->base.Ns mainGlobals mg->A3 Rw.prog w (hd.heap_1 w.params) mg base (RT Rw.prog w) 15 B q ["calls"] (sp (hd.heap_1 w.params)))
 (S:∀(K:ah) (H:Hp) (xs:List V) (a:Codec.denoteAll Rw.args),XG H->Codec.withinAll Rw.args a=true->Codec.app Rw.args Rw.asked a=true->A8 K H xs (Codec.encAll Rw.args a)->
  sp K xs H (λv G=>Dw K G v (Rw.ret.enc (Codec.app Rw.args Rw.f a))) λ_ _ _=>False):Rw.Holds:=by
 refine hd ?_
 w_on
 k_fillS
 exact walk_specF (r:=gM) (k:=15) (ps:=["calls"]) (sp:=sp) rwWell rfl rfl ⟨rfl,by decide,by decide⟩ (λw h Y=>PySem.W.kIn_of Y) F S
end CS
section
namespace CS
open PySem PySem.Spec PyProof.Rows L2
local macro_rules|`(tactic|lia)=>`(tactic|exact⟨rfl,rfl,rfl,by decide+kernel,rfl,by decide+kernel,by decide+kernel⟩)
variable {H H' H1 H2 H4:Hp} {P:kE} {w:World} {K:ah} {mg:Str->Option pT} {base h:Heap} {Q Q1 Q':VK} {way z s0:Int} {l told rest nm:List Int} {b:cy} {o u:HO} {C dx tl lm d D dc:ag} {xs ys:List V} {E:XK} {pos' lo hi i n M at_ most j fN:Nat} {v:V} {c own c' to:bP} {ts S:List ag} {sh:Option Nat} {kvs:List (L2.Key×L2.V)} {rows:Bool} {tt:TT} {te:TE} {vs:List Nat} {σ:L2.St} {od:Obj} {qual:Str} {st:Stmt} {oc doc pm Ri ct:pT} {an:Option ag} {sl:Array (Option pT)} {fd:aH} {dM:Array pT}
def top (i:Nat):Stmt:=PySem.Challenge.pw_cellsheets_s01_answers.main.body.getD i (.Pass ⟨0,0,0,0⟩)
abbrev PK:Stmt:=inClass (top 24) 0
abbrev wR:Stmt:=inClass (top 24) 1
abbrev SM:Stmt:=inClass (top 24) 2
abbrev Ml:Stmt:=inClass (top 24) 3
abbrev Fi:Stmt:=inClass (top 24) 4
abbrev wU:Stmt:=inClass (top 24) 5
abbrev yr:Stmt:=inClass (top 24) 6
abbrev wQ:Stmt:=inClass (top 24) 7
abbrev WJ:Stmt:=top 25
abbrev WK:Stmt:=top 26
abbrev Mj:Stmt:=inClass (top 28) 0
abbrev wL:Stmt:=inClass (top 28) 1
abbrev pd:Stmt:=inClass (top 29) 0
abbrev qb:Stmt:=inClass (top 29) 1
abbrev qd:Stmt:=inClass (top 30) 0
abbrev rL:Stmt:=inClass (top 30) 1
abbrev PJ:Stmt:=inClass (top 31) 0
abbrev yq:Stmt:=inClass (top 31) 1
abbrev Aa:Stmt:=inClass (top 32) 0
abbrev p9:Stmt:=inClass (top 32) 1
abbrev Jo:Stmt:=inClass (top 35) 0
abbrev wN:Stmt:=inClass (top 35) 1
abbrev u9:Stmt:=inClass (top 35) 2
abbrev Jn:Stmt:=inClass (top 35) 3
abbrev tJ:Stmt:=inClass (top 35) 4
abbrev wM:Stmt:=inClass (top 35) 5
abbrev yp:Stmt:=inClass (top 35) 6
abbrev nN:Stmt:=inClass (top 35) 7
abbrev tI:Stmt:=inClass (top 35) 8
abbrev SG:Stmt:=top 38
abbrev aik:Stmt:=top 39
abbrev WH:Stmt:=top 40
abbrev SH:Stmt:=top 42
abbrev zZ:Stmt:=top 43
abbrev z0:Stmt:=top 44
abbrev WI:Stmt:=top 45
abbrev Pw:Stmt:=top 46
abbrev Pr:Stmt:=top 47
abbrev Fh:Stmt:=inClass (top 53) 0
abbrev wO:Stmt:=inClass (top 53) 1
abbrev tK:Stmt:=inClass (top 53) 2
abbrev E8:Stmt:=top 54
abbrev Jg:Stmt:=top 55
abbrev Pt:Stmt:=top 56
abbrev Ma:Stmt:=top 57
abbrev Mc:Stmt:=top 58
abbrev L9:Stmt:=top 60
abbrev yn:Stmt:=top 61
abbrev Mb:Stmt:=top 62
abbrev Pu:Stmt:=top 63
abbrev CP:Stmt:=top 64
abbrev rB:Stmt:=top 65
abbrev rC:Stmt:=top 66
abbrev wJ:Stmt:=top 67
abbrev uX:Stmt:=top 68
abbrev o8:Stmt:=top 69
abbrev o7:Stmt:=top 70
abbrev CO:Stmt:=top 71
abbrev Md:Stmt:=top 72
abbrev CT:Stmt:=top 74
abbrev E9:Stmt:=top 75
abbrev Fb:Stmt:=top 76
abbrev CQ:Stmt:=top 78
abbrev Jf:Stmt:=top 79
abbrev z9:Stmt:=top 80
abbrev Fd:Stmt:=top 81
abbrev E7:Stmt:=top 82
abbrev Fc:Stmt:=top 91
abbrev SI:Stmt:=top 92
abbrev pZ:Stmt:=top 93
abbrev Px:Stmt:=top 94
abbrev WG:Stmt:=top 95
abbrev Me:Stmt:=top 96
abbrev Ff:Stmt:=top 97
abbrev yo:Stmt:=top 98
abbrev tu:Stmt:=top 99
abbrev Je:Stmt:=top 100
abbrev Ji:Stmt:=top 101
abbrev Pq:Stmt:=top 102
abbrev Py:Stmt:=top 103
abbrev Fe:Stmt:=top 104
abbrev Jh:Stmt:=top 105
abbrev z4:Stmt:=top 106
abbrev CU:Stmt:=top 110
abbrev CV:Stmt:=inClass (top 111) 0
abbrev rD:Stmt:=inClass (top 111) 1
abbrev tG:Stmt:=inClass (top 111) 2
abbrev rG:Stmt:=inClass (top 111) 3
abbrev lZ:Stmt:=inClass (top 111) 4
abbrev u0:Stmt:=inClass (top 111) 5
abbrev Fg:Stmt:=inClass (top 111) 6
abbrev p8:Stmt:=inClass (top 111) 7
abbrev nL:Stmt:=inClass (top 111) 8
abbrev nM:Stmt:=inClass (top 111) 9
abbrev lY:Stmt:=inClass (top 111) 10
abbrev mx:Stmt:=inClass (top 111) 11
abbrev tD:Stmt:=inClass (top 111) 12
abbrev p5:Stmt:=inClass (top 111) 13
abbrev tw:Stmt:=inClass (top 111) 14
abbrev o9:Stmt:=inClass (top 111) 15
abbrev tE:Stmt:=inClass (top 111) 16
abbrev rJ:Stmt:=inClass (top 111) 17
abbrev uY:Stmt:=inClass (top 111) 18
abbrev rK:Stmt:=inClass (top 111) 19
abbrev uZ:Stmt:=inClass (top 111) 20
abbrev tF:Stmt:=inClass (top 111) 21
abbrev u7:Stmt:=inClass (top 111) 22
abbrev wK:Stmt:=inClass (top 111) 23
abbrev rF:Stmt:=inClass (top 111) 24
abbrev rE:Stmt:=inClass (top 111) 25
abbrev p7:Stmt:=inClass (top 111) 26
abbrev SK:Stmt:=top 113
abbrev Mf:Stmt:=top 114
abbrev PF:Stmt:=top 115
abbrev SJ:Stmt:=top 116
abbrev Jk:Stmt:=top 117
abbrev Jl:Stmt:=top 118
abbrev Pp:Stmt:=top 119
abbrev PB:Stmt:=top 120
abbrev PH:Stmt:=top 121
abbrev Mh:Stmt:=top 122
abbrev Pz:Stmt:=top 123
abbrev PD:Stmt:=top 124
abbrev Mi:Stmt:=top 125
abbrev Mg:Stmt:=top 126
abbrev Jj:Stmt:=top 127
abbrev Jm:Stmt:=top 129
abbrev WL:Stmt:=top 130
abbrev acz:List Str:=["self","sheet","first_row","last_row","first_column","last_column"]
def Yp:aR acz ["self","sheet","first_row","last_row","first_column","last_column"] (aE PK):=by lia
abbrev Li:List Str:=["self"]
def Im:aR Li ["self"] (aE wR):=by lia
abbrev aeC:List Str:=["self","row","column"]
def aaL:aR aeC ["self","row","column"] (aE SM):=by lia
abbrev ZU:List Str:=["self","area"]
def VD:aR ZU ["self","area"] (aE Ml):=by lia
abbrev UW:List Str:=["self","sheet","down","right"]
def QX:aR UW ["self","sheet","down","right"] (aE Fi):=by lia
abbrev Lj:List Str:=["self","way"]
def Io:aR Lj ["self","way"] (aE wU):=by lia
abbrev NK:List Str:=["self","way"]
def KC:aR NK ["self","way"] (aE yr):=by lia
abbrev Lh:List Str:=["self","way","first","last"]
def Il:aR Lh ["self","way","first","last"] (aE wQ):=by lia
abbrev ahs:List Str:=["sheet","row","column"]
def adp:aR ahs ["sheet","row","column"] (aE WJ):=by lia
abbrev aht:List Str:=["sheet","way","lo","hi"]
def adq:aR aht ["sheet","way","lo","hi"] (aE WK):=by lia
abbrev ZT:List Str:=["self","band","way","start","many"]
def Jd:aR ZT ["self","band","way","start","many"] (aE Mj):=by lia
abbrev Ld:List Str:=["self","area","first","last"]
def gS:aR Ld ["self","area"] (aE wL):=by lia
abbrev A1:List Str:=["self","place"]
def zo:aR A1 ["self","place"] (aE pd):=by lia
abbrev Cu:List Str:=["self","place"]
def zX:aR Cu ["self","place"] (aE qb):=by lia
abbrev Cv:List Str:=["self","place"]
def zY:aR Cv ["self","place"] (aE qd):=by lia
abbrev En:List Str:=["self","place"]
def Bu:aR En ["self","place"] (aE rL):=by lia
abbrev acy:List Str:=["self","source","target"]
def Yo:aR acy ["self","source","target"] (aE PJ):=by lia
abbrev NJ:List Str:=["self","area","down","right"]
def oM:aR NJ ["self","area"] (aE yq):=by lia
abbrev O9:List Str:=["self","sheet"]
def L8:aR O9 ["self","sheet"] (aE Aa):=by lia
abbrev Ct:List Str:=["self","area"]
def zW:aR Ct ["self","area"] (aE p9):=by lia
abbrev We:List Str:=["self","told"]
def SF:aR We ["self","told"] (aE Jo):=by lia
abbrev Lf:List Str:=["self"]
def Ij:aR Lf ["self"] (aE wN):=by lia
abbrev IM:List Str:=["self"]
def E4:aR IM ["self"] (aE u9):=by lia
abbrev Wd:List Str:=["self","number"]
def E3:aR Wd ["self"] (aE Jn):=by lia
abbrev GY:List Str:=["self","least","most","number"]
def rA:aR GY ["self","least","most"] (aE tJ):=by lia
abbrev Le:List Str:=["self","many","start"]
def uW:aR Le ["self","many"] (aE wM):=by lia
abbrev NI:List Str:=["self"]
def KA:aR NI ["self"] (aE yp):=by lia
abbrev zC:List Str:=["self","shortest","longest"]
def ya:aR zC ["self","shortest","longest"] (aE nN):=by lia
abbrev GX:List Str:=["self","start"]
def DL:aR GX ["self","start"] (aE tI):=by lia
abbrev aex:List Str:=["first","shape"]
def Pn:aR aex ["first"] (aE SG):=by lia
abbrev apK:List Str:=["shape","followers","follower"]
def Ym:aR apK ["shape","followers"] (aE aik):=by lia
abbrev ahq:List Str:=["octets","position","shape","behind"]
def wH:aR ahq ["octets"] (aE WH):=by lia
abbrev aey:List Str:=["octets"]
def aaJ:aR aey ["octets"] (aE SH):=by lia
abbrev O5:List Str:=["octet"]
def L1:aR O5 ["octet"] (aE zZ):=by lia
abbrev O6:List Str:=["octet"]
def L3:aR O6 ["octet"] (aE z0):=by lia
abbrev ahr:List Str:=["octets","octet"]
def Kz:aR ahr ["octets"] (aE WI):=by lia
abbrev acp:List Str:=["reader"]
def Yk:aR acp ["reader"] (aE Pw):=by lia
abbrev acm:List Str:=["reader","shortest","longest"]
def Yh:aR acm ["reader","shortest","longest"] (aE Pr):=by lia
abbrev UU:List Str:=["self","kind","parts"]
def QW:aR UU ["self","kind","parts"] (aE Fh):=by lia
abbrev Lg:List Str:=["self"]
def Ik:aR Lg ["self"] (aE wO):=by lia
abbrev GZ:List Str:=["self","numbers","part"]
def lO:aR GZ ["self"] (aE tK):=by lia
abbrev UM:List Str:=["reader"]
def QU:aR UM ["reader"] (aE E8):=by lia
abbrev V6:List Str:=["reader"]
def Sz:aR V6 ["reader"] (aE Jg):=by lia
abbrev acn:List Str:=["reader"]
def Yi:aR acn ["reader"] (aE Pt):=by lia
abbrev ZK:List Str:=["reader"]
def Vv:aR ZK ["reader"] (aE Ma):=by lia
abbrev ZM:List Str:=["reader"]
def Vx:aR ZM ["reader"] (aE Mc):=by lia
abbrev ZJ:List Str:=["reader","least_kind","kind","read"]
def zk:aR ZJ ["reader","least_kind"] (aE L9):=by lia
abbrev NG:List Str:=["reader"]
def Ky:aR NG ["reader"] (aE yn):=by lia
abbrev ZL:List Str:=["reader"]
def Vw:aR ZL ["reader"] (aE Mb):=by lia
abbrev aco:List Str:=["reader"]
def Yj:aR aco ["reader"] (aE Pu):=by lia
abbrev Ro:List Str:=["reader"]
def Oi:aR Ro ["reader"] (aE CP):=by lia
abbrev Ef:List Str:=["reader"]
def Bo:aR Ef ["reader"] (aE rB):=by lia
abbrev Eg:List Str:=["reader"]
def Bp:aR Eg ["reader"] (aE rC):=by lia
abbrev Lb:List Str:=["reader"]
def Ii:aR Lb ["reader"] (aE wJ):=by lia
abbrev IH:List Str:=["reader"]
def EW:aR IH ["reader"] (aE uX):=by lia
abbrev AZ:List Str:=["reader"]
def zm:aR AZ ["reader"] (aE o8):=by lia
abbrev AY:List Str:=["reader"]
def zl:aR AY ["reader"] (aE o7):=by lia
abbrev Rn:List Str:=["reader"]
def Oh:aR Rn ["reader"] (aE CO):=by lia
abbrev ZN:List Str:=["reader","rows","columns","index"]
def sR:aR ZN ["reader"] (aE Md):=by lia
abbrev Rq:List Str:=["part"]
def Oj:aR Rq ["part"] (aE CT):=by lia
abbrev UN:List Str:=["reader","parts","counted","missing","start","read","inner","part"]
def gq:aR UN ["reader"] (aE E9):=by lia
abbrev UO:List Str:=["told","reader","kind","parts"]
def lj:aR UO ["told"] (aE Fb):=by lia
abbrev Rp:List Str:=["way","place","source","target","first","step"]
def sv:aR Rp ["way","place","source","target"] (aE CQ):=by lia
abbrev V5:List Str:=["spot","source","target"]
def Sy:aR V5 ["spot","source","target"] (aE Jf):=by lia
abbrev O8:List Str:=["spot","source","target"]
def L4:aR O8 ["spot","source","target"] (aE z9):=by lia
abbrev UQ:List Str:=["spots","source","target","spot"]
def uL:aR UQ ["spots","source","target"] (aE Fd):=by lia
abbrev UL:List Str:=["spot","source","target","columns","spots","row","column"]
def jK:aR UL ["spot","source","target"] (aE E7):=by lia
abbrev UP:List Str:=["part"]
def QV:aR UP ["part"] (aE Fc):=by lia
abbrev aez:List Str:=["part","index"]
def EX:aR aez ["part"] (aE SI):=by lia
abbrev Cp:List Str:=["told","reader","part"]
def kf:aR Cp ["told"] (aE pZ):=by lia
abbrev acq:List Str:=["part","indexes","own_place","index"]
def Bq:aR acq ["part","indexes","own_place"] (aE Px):=by lia
abbrev ahp:List Str:=["part","own"]
def ado:aR ahp ["part","own"] (aE WG):=by lia
abbrev ZO:List Str:=["part","own"]
def Vy:aR ZO ["part","own"] (aE Me):=by lia
abbrev US:List Str:=["part","own","rows","columns","sheet"]
def CM:aR US ["part","own","rows","columns"] (aE Ff):=by lia
abbrev NH:List Str:=["part","own","sheets","area"]
def wG:aR NH ["part","own","sheets"] (aE yo):=by lia
abbrev GQ:List Str:=["content","own","sheets","part"]
def lM:aR GQ ["content","own","sheets"] (aE tu):=by lia
abbrev V4:List Str:=["told","indexes","places","own_place","index","place"]
def wF:aR V4 ["told","indexes","places","own_place"] (aE Je):=by lia
abbrev V8:List Str:=["before","first","last"]
def SD:aR V8 ["before","first","last"] (aE Ji):=by lia
abbrev ack:List Str:=["part","own","own_after","change","rows","columns","area","told","rows_after","columns_after"]
def kN:aR ack ["part","own","own_after","change"] (aE Pq):=by lia
abbrev acr:List Str:=["part","own","own_after","change"]
def Yl:aR acr ["part","own","own_after","change"] (aE Py):=by lia
abbrev UR:List Str:=["content","own","own_after","change","part"]
def uM:aR UR ["content","own","own_after","change"] (aE Fe):=by lia
abbrev V7:List Str:=["part","own","sheets"]
def SA:aR V7 ["part","own","sheets"] (aE Jh):=by lia
abbrev O7:List Str:=["content","own","sheets","part"]
def pY:aR O7 ["content","own","sheets"] (aE z4):=by lia
abbrev Rr:List Str:=[]
def Ol:aR Rr [] (aE CU):=by lia
abbrev Rt:List Str:=["self"]
def Om:aR Rt ["self"] (aE CV):=by lia
abbrev Eh:List Str:=["self"]
def Bs:aR Eh ["self"] (aE rD):=by lia
abbrev GW:List Str:=["self","title","sheet","number"]
def jw:aR GW ["self","title"] (aE tG):=by lia
abbrev Ek:List Str:=["self","sheet"]
def Bt:aR Ek ["self","sheet"] (aE rG):=by lia
abbrev v9:List Str:=["self","areas","area"]
def fe:aR v9 ["self","areas"] (aE lZ):=by lia
abbrev IK:List Str:=["self","sheet","row","column","told","own","refusal","content"]
def jM:aR IK ["self","sheet","row","column","told"] (aE u0):=by lia
abbrev UT:List Str:=["self","sheet","spot","content","standing"]
def CN:aR UT ["self","sheet","spot","content"] (aE Fg):=by lia
abbrev Cs:List Str:=["self","standing"]
def kh:aR Cs ["self"] (aE p8):=by lia
abbrev zA:List Str:=["self","sheet","way","start","many","lo","hi","refusal","change"]
def jF:aR zA ["self","sheet","way","start","many","lo","hi"] (aE nL):=by lia
abbrev zB:List Str:=["self","sheet","way","start","many","lo","hi","refusal"]
def mY:aR zB ["self","sheet","way","start","many","lo","hi"] (aE nM):=by lia
abbrev vZ:List Str:=["self","sheet","way","start","many","lo","hi","band"]
def ll:aR vZ ["self","sheet","way","start","many","lo","hi"] (aE lY):=by lia
abbrev xJ:List Str:=["self","sheet","change","spot"]
def i5:aR xJ ["self","sheet","change"] (aE mx):=by lia
abbrev GS:List Str:=["self","source","to_sheet","to_row","to_column","target","refusal"]
def lN:aR GS ["self","source","to_sheet","to_row","to_column"] (aE tD):=by lia
abbrev Cq:List Str:=["self","change","before","sheet","own","name"]
def fC:aR Cq ["self","change"] (aE p5):=by lia
abbrev GR:List Str:=["self","sheet","standing","change","spot","content","own","own_after","place"]
def gf:aR GR ["self","sheet","standing","change"] (aE tw):=by lia
abbrev A0:List Str:=["self","area","spot"]
def jW:aR A0 ["self","area"] (aE o9):=by lia
abbrev GU:List Str:=["self","source","target","refusal","filled","copies","spot"]
def hJ:aR GU ["self","source","target"] (aE tE):=by lia
abbrev El:List Str:=["self","source","target","copies","spot","content","place"]
def gQ:aR El ["self","source","target"] (aE rJ):=by lia
abbrev II:List Str:=["self","area","spot"]
def tm:aR II ["self","area"] (aE uY):=by lia
abbrev Em:List Str:=["self","area","refusal","many"]
def kO:aR Em ["self","area"] (aE rK):=by lia
abbrev IJ:List Str:=["self","name","told","reference"]
def tq:aR IJ ["self","name","told"] (aE uZ):=by lia
abbrev GV:List Str:=["self","name"]
def DK:aR GV ["self","name"] (aE tF):=by lia
abbrev IL:List Str:=["self","name","reference"]
def E2:aR IL ["self","name","reference"] (aE u7):=by lia
abbrev Lc:List Str:=["self","sheet","row","column","refusal","content"]
def nr:aR Lc ["self","sheet","row","column"] (aE wK):=by lia
abbrev Ej:List Str:=["self","area","refusal","spots","listed","spot"]
def gP:aR Ej ["self","area"] (aE rF):=by lia
abbrev Ei:List Str:=["self","listed","name","reference"]
def i6:aR Ei ["self"] (aE rE):=by lia
abbrev Cr:List Str:=["self","listed","sheet"]
def kg:aR Cr ["self"] (aE p7):=by lia
abbrev aeB:List Str:=["book","reader"]
def aaK:aR aeB ["book","reader"] (aE SK):=by lia
abbrev ZP:List Str:=["book","reader"]
def Vz:aR ZP ["book","reader"] (aE Mf):=by lia
abbrev acw:List Str:=["book","reader"]
def Yn:aR acw ["book","reader"] (aE PF):=by lia
abbrev aeA:List Str:=["book","reader","place"]
def Po:aR aeA ["book","reader"] (aE SJ):=by lia
abbrev Wa:List Str:=["book","reader","told"]
def EY:aR Wa ["book","reader"] (aE Jk):=by lia
abbrev Wb:List Str:=["book","reader","told"]
def EZ:aR Wb ["book","reader"] (aE Jl):=by lia
abbrev acj:List Str:=["reader","told"]
def L0:aR acj ["reader"] (aE Pp):=by lia
abbrev acu:List Str:=["book","reader","source","target"]
def Br:aR acu ["book","reader"] (aE PB):=by lia
abbrev acx:List Str:=["book","reader","source"]
def L7:aR acx ["book","reader"] (aE PH):=by lia
abbrev ZR:List Str:=["book","reader"]
def VB:aR ZR ["book","reader"] (aE Mh):=by lia
abbrev acs:List Str:=["book","reader","name"]
def L5:aR acs ["book","reader"] (aE Pz):=by lia
abbrev acv:List Str:=["book","reader","place"]
def L6:aR acv ["book","reader"] (aE PD):=by lia
abbrev ZS:List Str:=["book","reader"]
def VC:aR ZS ["book","reader"] (aE Mi):=by lia
abbrev ZQ:List Str:=["book","reader"]
def VA:aR ZQ ["book","reader"] (aE Mg):=by lia
abbrev V9:List Str:=["book","reader"]
def SE:aR V9 ["book","reader"] (aE Jj):=by lia
abbrev Wc:List Str:=["book","reader","call"]
def E1:aR Wc ["book","reader"] (aE Jm):=by lia
abbrev ahu:List Str:=["calls","book","reader","told","answer"]
def wI:aR ahu ["calls"] (aE WL):=by lia
set_option genInjectivity false in
structure Ad where
 m8:ag
 GB:ag
 gv:ag
 il:ag
 JZ:ag
 kT:ag
 kU:ag
 jA:ag
 mF:ag
 bg:ag
 P9:ag
 Qs:aH
 xp:ag
 xB:aH
 Ug:ag
 Uq:aH
 M6:ag
 Nl:aH
 Gj:ag
 Gx:aH
 xq:ag
 xC:aH
 yQ:ag
 yW:aH
 xo:ag
 xA:aH
 Xj:ag
 Xq:aH
 Xk:ag
 Xr:aH
 vV:ag
 Nk:aH
 ig:ag
 xu:aH
 pA:ag
 pE:aH
 qG:ag
 qQ:aH
 qI:ag
 qR:aH
 rV:ag
 sf:aH
 P8:ag
 Qr:aH
 qE:ag
 yV:aH
 AJ:ag
 AO:aH
 kR:ag
 qP:aH
 JK:ag
 JW:aH
 xm:ag
 xx:aH
 vq:ag
 vB:aH
 JJ:ag
 JV:aH
 ui:ag
 uw:aH
 xl:ag
 xw:aH
 yP:ag
 yU:aH
 nX:ag
 oh:aH
 uh:ag
 uv:aH
 Uc:ag
 Uk:aH
 ajF:ag
 ajN:aH
 Xh:ag
 Xo:aH
 Ud:ag
 Ul:aH
 AF:ag
 AK:aH
 AG:ag
 AL:aH
 Xi:ag
 Xp:aH
 P5:ag
 Qj:aH
 P2:ag
 Qg:aH
 Gi:ag
 Gw:aH
 xn:ag
 xy:aH
 uj:ag
 uy:aH
 qt:ag
 Gm:aH
 sW:ag
 JO:aH
 yM:ag
 Qh:aH
 vT:ag
 Na:aH
 vU:ag
 Nc:aH
 M3:ag
 M9:aH
 yN:ag
 yS:aH
 M4:ag
 Nb:aH
 P4:ag
 Qi:aH
 lz:ag
 Dk:aH
 hR:ag
 rW:aH
 hU:ag
 rX:aH
 jn:ag
 xr:aH
 i3:ag
 vv:aH
 gA:ag
 pC:aH
 gy:ag
 pB:aH
 ly:ag
 Dj:aH
 qv:ag
 Nd:aH
 Dg:ag
 Dm:aH
 Ga:ag
 Gn:aH
 Gb:ag
 Gp:aH
 Df:ag
 Dl:aH
 JF:ag
 JN:aH
 AI:ag
 AN:aH
 Ge:ag
 Gr:aH
 F9:ag
 Gk:aH
 Gd:ag
 Gq:aH
 Ue:ag
 Um:aH
 qu:ag
 qK:aH
 P6:ag
 Qk:aH
 Xg:ag
 Xn:aH
 M5:ag
 Nf:aH
 Gg:ag
 Gu:aH
 yO:ag
 yT:aH
 ub:ag
 uk:aH
 JE:ag
 JM:aH
 JH:ag
 JQ:aH
 P1:ag
 Qe:aH
 P7:ag
 Ql:aH
 Gf:ag
 Gs:aH
 JG:ag
 JP:aH
 AH:ag
 AM:aH
 Dh:ag
 Dn:aH
 Di:ag
 Dp:aH
 rO:ag
 rY:aH
 ug:ag
 uu:aH
 rR:ag
 r9:aH
 ma:ag
 me:aH
 vn:ag
 vz:aH
 Gh:ag
 Gv:aH
 qC:ag
 qO:aH
 nV:ag
 nZ:aH
 nW:ag
 og:aH
 l9:ag
 md:aH
 mC:ag
 mD:aH
 ud:ag
 uo:aH
 qA:ag
 qL:aH
 uc:ag
 um:aH
 pz:ag
 pD:aH
 ue:ag
 uq:aH
 rS:ag
 sd:aH
 vk:ag
 vw:aH
 rT:ag
 se:aH
 vm:ag
 vy:aH
 uf:ag
 ur:aH
 vp:ag
 vA:aH
 xk:ag
 xt:aH
 rQ:ag
 r8:aH
 rP:ag
 rZ:aH
 qB:ag
 qM:aH
 xj:ag
 Up:aH
 qw:ag
 Ng:aH
 t9:ag
 Qp:aH
 xi:ag
 Uo:aH
 nS:ag
 JS:aH
 nU:ag
 JT:aH
 P0:ag
 Qc:aH
 tY:ag
 Qn:aH
 ua:ag
 Qq:aH
 qy:ag
 Ni:aH
 tX:ag
 Qm:aH
 tZ:ag
 Qo:aH
 qz:ag
 Nj:aH
 qx:ag
 Nh:aH
 nR:ag
 JR:aH
 JI:ag
 JU:aH
 Xl:ag
 Xs:aH
 R4:ag
 Kt:ag
 Ks:ag
 Kr:ag
 Kq:ag
 Kp:ag
 Ko:ag
 Kn:ag
 Km:ag
 Kl:ag
 CJ:ag
 yl:ag
 X1:ag
 wB:ag
 mv:ag
 mr:ag
 Hq:ag
 mw:ag
 iF:ag
 iE:ag
 ah8:ag
 RC:ag
structure Txt (K:ah) (mg:Str->Option Value) (A:Ad):Prop where
 bC:Vd K A.m8
 yE:mg "Area"=some (.ref A.m8)
 du:fK K A.m8 "sheet"
 cU:fK K A.m8 "first_row"
 fV:fK K A.m8 "last_row"
 cB:fK K A.m8 "first_column"
 eJ:fK K A.m8 "last_column"
 yB:Mk K A.m8 A.P9
 vg:Meth K A.m8 "is_on_sheet" A.xp
 abu:Meth K A.m8 "has" A.Ug
 sV:Meth K A.m8 "holds" A.M6
 C7:Meth K A.m8 "shifted" A.Gj
 iZ:Meth K A.m8 "first_place" A.xq
 ie:Meth K A.m8 "last_place" A.yQ
 vf:Meth K A.m8 "with_places" A.xo
 as3:Vd K A.GB
 arG:mg "Shift"=some (.ref A.GB)
 akv:fK K A.GB "band"
 alR:fK K A.GB "way"
 aiM:fK K A.GB "start"
 aku:fK K A.GB "many"
 arE:Mk K A.GB A.vV
 acP:Meth K A.GB "area_after" A.ig
 eK:Vd K A.gv
 Y4:mg "Insertion"=some (.ref A.gv)
 qk:fK K A.gv "band"
 ko:fK K A.gv "way"
 w6:fK K A.gv "start"
 yA:fK K A.gv "many"
 YY:Mk K A.gv A.vV
 Az:Meth K A.gv "area_after" A.ig
 nQ:Meth K A.gv "first_after" A.pA
 Ay:Meth K A.gv "last_after" A.qG
 eS:Vd K A.il
 abq:mg "Deletion"=some (.ref A.il)
 Ao:fK K A.il "band"
 oE:fK K A.il "way"
 jS:fK K A.il "start"
 sG:fK K A.il "many"
 abi:Mk K A.il A.vV
 B6:Meth K A.il "area_after" A.ig
 AA:Meth K A.il "first_after" A.qI
 B5:Meth K A.il "last_after" A.rV
 sX:Vd K A.JZ
 al3:mg "Move"=some (.ref A.JZ)
 qj:fK K A.JZ "source"
 mz:fK K A.JZ "target"
 alU:Mk K A.JZ A.P8
 KS:Meth K A.JZ "area_after" A.qE
 Ce:Vd K A.kT
 Y2:mg "SheetLoss"=some (.ref A.kT)
 wZ:fK K A.kT "sheet"
 YX:Mk K A.kT A.AJ
 Ax:Meth K A.kT "area_after" A.kR
 bJ:Vd K A.jA
 OK:mg "Reader"=some (.ref A.jA)
 my:fK K A.jA "told"
 eX:fK K A.jA "position"
 OI:Mk K A.jA A.JK
 ny:Meth K A.jA "is_at_end" A.xm
 tV:Meth K A.jA "expect_end" A.vq
 kq:Meth K A.jA "take" A.JJ
 bZ:Meth K A.jA "take_within" A.ui
 ft:Meth K A.jA "take_many" A.xl
 kQ:Meth K A.jA "take_row" A.yP
 m7:Meth K A.jA "take_row_within" A.nX
 lR:Meth K A.jA "taken_since" A.uh
 ij:Vd K A.mF
 KP:mg "Content"=some (.ref A.mF)
 lu:fK K A.mF "kind"
 jg:fK K A.mF "parts"
 KN:Mk K A.mF A.Gi
 Iy:Meth K A.mF "is_empty" A.xn
 DY:Meth K A.mF "as_numbers" A.uj
 aF:Vd K A.bg
 abp:mg "Workbook"=some (.ref A.bg)
 cA:fK K A.bg "titles"
 cT:fK K A.bg "cells"
 dC:fK K A.bg "names"
 abh:Mk K A.bg A.Di
 BY:Meth K A.bg "start_anew" A.rO
 DX:Meth K A.bg "add_sheet" A.ug
 B1:Meth K A.bg "drop_sheet" A.rR
 dF:Meth K A.bg "refusal_of_areas" A.ma
 FR:Meth K A.bg "set_cell" A.vn
 Rg:Meth K A.bg "put" A.Gh
 ph:Meth K A.bg "count_cells" A.qC
 yf:Meth K A.bg "insert_places" A.nV
 yg:Meth K A.bg "delete_places" A.nW
 lx:Meth K A.bg "refusal_of_shift" A.l9
 vP:Meth K A.bg "would_lose_some" A.mC
 DT:Meth K A.bg "move_area" A.ud
 iS:Meth K A.bg "make_change" A.qA
 DS:Meth K A.bg "take_over" A.uc
 fm:Meth K A.bg "spots_within" A.pz
 DU:Meth K A.bg "fill_area" A.ue
 B3:Meth K A.bg "copies_for" A.rS
 tU:Meth K A.bg "take_out" A.vk
 B4:Meth K A.bg "clear_area" A.rT
 FQ:Meth K A.bg "set_name" A.vm
 DV:Meth K A.bg "drop_name" A.uf
 FT:Meth K A.bg "put_name" A.vp
 Iw:Meth K A.bg "look_at" A.xk
 B0:Meth K A.bg "list_cells" A.rQ
 BZ:Meth K A.bg "list_names" A.rP
 Aw:Meth K A.bg "list_sheets" A.qB
 fH:aj6 K mg "NotWellMade" A.kU
 acB:gc K "__init__" "Area.__init__" PK A.P9 A.Qs
 kI:Binds K A.Qs ["self","sheet","first_row","last_row","first_column","last_column"] []
 Lr:gc K "is_on_sheet" "Area.is_on_sheet" wR A.xp A.xB
 xI:Binds K A.xB ["self"] []
 aeE:gc K "has" "Area.has" SM A.Ug A.Uq
 aet:Binds K A.Uq ["self","row","column"] []
 ZW:gc K "holds" "Area.holds" Ml A.M6 A.Nl
 vY:Binds K A.Nl ["self","area"] []
 U5:gc K "shifted" "Area.shifted" Fi A.Gj A.Gx
 GP:Binds K A.Gx ["self","sheet","down","right"] []
 Ls:gc K "first_place" "Area.first_place" wU A.xq A.xC
 jr:Binds K A.xC ["self","way"] []
 NU:gc K "last_place" "Area.last_place" yr A.yQ A.yW
 iU:Binds K A.yW ["self","way"] []
 Lq:gc K "with_places" "Area.with_places" wQ A.xo A.xA
 xH:Binds K A.xA ["self","way","first","last"] []
 sN:gc K "cell_at" "cell_at" WJ A.Xj A.Xq
 wm:Binds K A.Xq ["sheet","row","column"] []
 sH:mg "cell_at"=some (.ref A.Xj)
 HS:gc K "band_of" "band_of" WK A.Xk A.Xr
 O3:Binds K A.Xr ["sheet","way","lo","hi"] []
 KO:mg "band_of"=some (.ref A.Xk)
 NS:gc K "__init__" "Shift.__init__" Mj A.vV A.Nk
 Nv:Binds K A.Nk ["self","band","way","start","many"] []
 kY:gc K "area_after" "Shift.area_after" wL A.ig A.xu
 xF:Binds K A.xu ["self","area"] []
 A7:gc K "first_after" "Insertion.first_after" pd A.pA A.pE
 pF:Binds K A.pE ["self","place"] []
 CD:gc K "last_after" "Insertion.last_after" qb A.qG A.qQ
 Ck:Binds K A.qQ ["self","place"] []
 CF:gc K "first_after" "Deletion.first_after" qd A.qI A.qR
 Cm:Binds K A.qR ["self","place"] []
 Ex:gc K "last_after" "Deletion.last_after" rL A.rV A.sf
 Ee:Binds K A.sf ["self","place"] []
 acA:gc K "__init__" "Move.__init__" PJ A.P8 A.Qr
 acf:Binds K A.Qr ["self","source","target"] []
 y9:gc K "area_after" "Move.area_after" yq A.qE A.yV
 Nw:Binds K A.yV ["self","area"] []
 Pe:gc K "__init__" "SheetLoss.__init__" Aa A.AJ A.AO
 O4:Binds K A.AO ["self","sheet"] []
 qZ:gc K "area_after" "SheetLoss.area_after" p9 A.kR A.qP
 Cj:Binds K A.qP ["self","area"] []
 Wg:gc K "__init__" "Reader.__init__" Jo A.JK A.JW
 zy:Binds K A.JW ["self","told"] []
 Ln:gc K "is_at_end" "Reader.is_at_end" wN A.xm A.xx
 oR:Binds K A.xx ["self"] []
 IU:gc K "expect_end" "Reader.expect_end" u9 A.vq A.vB
 vD:Binds K A.vB ["self"] []
 Wf:gc K "take" "Reader.take" Jn A.JJ A.JV
 lH:Binds K A.JV ["self"] []
 Hg:gc K "take_within" "Reader.take_within" tJ A.ui A.uw
 cf:Binds K A.uw ["self","least","most"] []
 Lm:gc K "take_many" "Reader.take_many" wM A.xl A.xw
 fJ:Binds K A.xw ["self","many"] []
 NT:gc K "take_row" "Reader.take_row" yp A.yP A.yU
 mh:Binds K A.yU ["self"] []
 zI:gc K "take_row_within" "Reader.take_row_within" nN A.nX A.oh
 oo:Binds K A.oh ["self","shortest","longest"] []
 Hf:gc K "taken_since" "Reader.taken_since" tI A.uh A.uv
 mG:Binds K A.uv ["self","start"] []
 UY:gc K "shape_of" "shape_of" SG A.Uc A.Uk
 aeo:Binds K A.Uk ["first"] []
 abl:mg "shape_of"=some (.ref A.Uc)
 aka:gc K "fits" "fits" aik A.ajF A.ajN
 apE:Binds K A.ajN ["shape","followers"] []
 alX:mg "fits"=some (.ref A.ajF)
 Pc:gc K "is_utf8" "is_utf8" WH A.Xh A.Xo
 XE:Binds K A.Xo ["octets"] []
 Tu:mg "is_utf8"=some (.ref A.Xh)
 UZ:gc K "is_title" "is_title" SH A.Ud A.Ul
 aep:Binds K A.Ul ["octets"] []
 abn:mg "is_title"=some (.ref A.Ud)
 sL:gc K "may_begin_name" "may_begin_name" zZ A.AF A.AK
 AV:Binds K A.AK ["octet"] []
 yC:mg "may_begin_name"=some (.ref A.AF)
 A4:gc K "may_be_in_name" "may_be_in_name" z0 A.AG A.AL
 O1:Binds K A.AL ["octet"] []
 MH:mg "may_be_in_name"=some (.ref A.AG)
 Pd:gc K "is_name" "is_name" WI A.Xi A.Xp
 XF:Binds K A.Xp ["octets"] []
 Tv:mg "is_name"=some (.ref A.Xi)
 y8:gc K "read_name" "read_name" Pw A.P5 A.Qj
 GF:Binds K A.Qj ["reader"] []
 BV:mg "read_name"=some (.ref A.P5)
 G3:gc K "read_utf8" "read_utf8" Pr A.P2 A.Qg
 Qu:Binds K A.Qg ["reader","shortest","longest"] []
 ME:mg "read_utf8"=some (.ref A.P2)
 U4:gc K "__init__" "Content.__init__" Fh A.Gi A.Gw
 xG:Binds K A.Gw ["self","kind","parts"] []
 Lo:gc K "is_empty" "Content.is_empty" wO A.xn A.xy
 K9:Binds K A.xy ["self"] []
 Hh:gc K "as_numbers" "Content.as_numbers" tK A.uj A.uy
 GO:Binds K A.uy ["self"] []
 G4:gc K "read_nothing" "read_nothing" E8 A.qt A.Gm
 Ux:Binds K A.Gm ["reader"] []
 ahO:mg "read_nothing"=some (.ref A.qt)
 J3:gc K "read_number" "read_number" Jg A.sW A.JO
 VY:Binds K A.JO ["reader"] []
 aiP:mg "read_number"=some (.ref A.sW)
 Qy:gc K "read_text" "read_text" Pt A.yM A.Qh
 ab8:Binds K A.Qh ["reader"] []
 alW:mg "read_text"=some (.ref A.yM)
 NL:gc K "read_truth" "read_truth" Ma A.vT A.Na
 Zy:Binds K A.Na ["reader"] []
 akw:mg "read_truth"=some (.ref A.vT)
 NM:gc K "read_error" "read_error" Mc A.vU A.Nc
 Zz:Binds K A.Nc ["reader"] []
 akx:mg "read_error"=some (.ref A.vU)
 Cw:gc K "read_value" "read_value" L9 A.M3 A.M9
 Nr:Binds K A.M9 ["reader","least_kind"] []
 Jy:mg "read_value"=some (.ref A.M3)
 qX:gc K "read_full_value" "read_full_value" yn A.yN A.yS
 yY:Binds K A.yS ["reader"] []
 w8:mg "read_full_value"=some (.ref A.yN)
 Cy:gc K "read_sheet" "read_sheet" Mb A.M4 A.Nb
 Nt:Binds K A.Nb ["reader"] []
 Jz:mg "read_sheet"=some (.ref A.M4)
 y6:gc K "read_spot" "read_spot" Pu A.P4 A.Qi
 GD:Binds K A.Qi ["reader"] []
 BU:mg "read_spot"=some (.ref A.P4)
 Dy:gc K "read_constant" "read_constant" CP A.lz A.Dk
 Rk:Binds K A.Dk ["reader"] []
 agD:mg "read_constant"=some (.ref A.lz)
 si:gc K "read_cell_reference" "read_cell_reference" rB A.hR A.rW
 D6:Binds K A.rW ["reader"] []
 Y0:mg "read_cell_reference"=some (.ref A.hR)
 sj:gc K "read_area_reference" "read_area_reference" rC A.hU A.rX
 D7:Binds K A.rX ["reader"] []
 Y1:mg "read_area_reference"=some (.ref A.hU)
 xK:gc K "read_use_of_name" "read_use_of_name" wJ A.jn A.xr
 K7:Binds K A.xr ["reader"] []
 acO:mg "read_use_of_name"=some (.ref A.jn)
 vF:gc K "read_table_column" "read_table_column" uX A.i3 A.vv
 ID:Binds K A.vv ["reader"] []
 abm:mg "read_table_column"=some (.ref A.i3)
 pI:gc K "read_operation_on_one" "read_operation_on_one" o8 A.gA A.pC
 AU:Binds K A.pC ["reader"] []
 VQ:mg "read_operation_on_one"=some (.ref A.gA)
 pH:gc K "read_operation_on_two" "read_operation_on_two" o7 A.gy A.pB
 AS:Binds K A.pB ["reader"] []
 VP:mg "read_operation_on_two"=some (.ref A.gy)
 Dx:gc K "read_function" "read_function" CO A.ly A.Dj
 Rj:Binds K A.Dj ["reader"] []
 agC:mg "read_function"=some (.ref A.ly)
 NN:gc K "read_array" "read_array" Md A.qv A.Nd
 ZA:Binds K A.Nd ["reader"] []
 aky:mg "read_array"=some (.ref A.qv)
 Dz:gc K "parts_counted" "parts_counted" CT A.Dg A.Dm
 Rl:Binds K A.Dm ["part"] []
 OJ:mg "parts_counted"=some (.ref A.Dg)
 xM:gc K "read_formula" "read_formula" E9 A.Ga A.Gn
 GG:Binds K A.Gn ["reader"] []
 C3:mg "read_formula"=some (.ref A.Ga)
 G5:gc K "read_content" "read_content" Fb A.Gb A.Gp
 Uy:Binds K A.Gp ["told"] []
 Q9:mg "read_content"=some (.ref A.Gb)
 uQ:gc K "places_filled" "places_filled" CQ A.Df A.Dl
 Ds:Binds K A.Dl ["way","place","source","target"] []
 Aq:mg "places_filled"=some (.ref A.Df)
 zE:gc K "rows_filled" "rows_filled" Jf A.JF A.JN
 J1:Binds K A.JN ["spot","source","target"] []
 FH:mg "rows_filled"=some (.ref A.JF)
 sM:gc K "columns_filled" "columns_filled" z9 A.AI A.AN
 AW:Binds K A.AN ["spot","source","target"] []
 yD:mg "columns_filled"=some (.ref A.AI)
 G8:gc K "count_filled" "count_filled" Fd A.Ge A.Gr
 Uz:Binds K A.Gr ["spots","source","target"] []
 Ra:mg "count_filled"=some (.ref A.Ge)
 G1:gc K "spots_filled" "spots_filled" E7 A.F9 A.Gk
 Uw:Binds K A.Gk ["spot","source","target"] []
 Q8:mg "spots_filled"=some (.ref A.F9)
 mI:gc K "is_reference" "is_reference" Fc A.Gd A.Gq
 qU:Binds K A.Gq ["part"] []
 oF:mg "is_reference"=some (.ref A.Gd)
 U0:gc K "is_fixed" "is_fixed" SI A.Ue A.Um
 aeq:Binds K A.Um ["part"] []
 abo:mg "is_fixed"=some (.ref A.Ue)
 qY:gc K "read_fixed_reference" "read_fixed_reference" pZ A.qu A.qK
 Cg:Binds K A.qK ["told"] []
 Ap:mg "read_fixed_reference"=some (.ref A.qu)
 G6:gc K "places_at" "places_at" Px A.P6 A.Qk
 Qv:Binds K A.Qk ["part","indexes","own_place"] []
 MF:mg "places_at"=some (.ref A.P6)
 Pb:gc K "rows_of" "rows_of" WG A.Xg A.Xn
 XD:Binds K A.Xn ["part","own"] []
 Ts:mg "rows_of"=some (.ref A.Xg)
 Cz:gc K "columns_of" "columns_of" Me A.M5 A.Nf
 Nu:Binds K A.Nf ["part","own"] []
 JA:mg "columns_of"=some (.ref A.M5)
 xN:gc K "area_between" "area_between" Ff A.Gg A.Gu
 GH:Binds K A.Gu ["part","own","rows","columns"] []
 C4:mg "area_between"=some (.ref A.Gg)
 mi:gc K "leads_somewhere" "leads_somewhere" yo A.yO A.yT
 qS:Binds K A.yT ["part","own","sheets"] []
 oP:mg "leads_somewhere"=some (.ref A.yO)
 mJ:gc K "all_lead_somewhere" "all_lead_somewhere" tu A.ub A.uk
 uA:Binds K A.uk ["content","own","sheets"] []
 rN:mg "all_lead_somewhere"=some (.ref A.ub)
 zD:gc K "tell_places" "tell_places" Je A.JE A.JM
 J0:Binds K A.JM ["told","indexes","places","own_place"] []
 FG:mg "tell_places"=some (.ref A.JE)
 zF:gc K "in_order_of" "in_order_of" Ji A.JH A.JQ
 J2:Binds K A.JQ ["before","first","last"] []
 FI:mg "in_order_of"=some (.ref A.JH)
 Qx:gc K "said_anew" "said_anew" Pq A.P1 A.Qe
 ab7:Binds K A.Qe ["part","own","own_after","change"] []
 YZ:mg "said_anew"=some (.ref A.P1)
 G7:gc K "part_anew" "part_anew" Py A.P7 A.Ql
 Qw:Binds K A.Ql ["part","own","own_after","change"] []
 MG:mg "part_anew"=some (.ref A.P7)
 G9:gc K "content_anew" "content_anew" Fe A.Gf A.Gs
 UA:Binds K A.Gs ["content","own","own_after","change"] []
 Rb:mg "content_anew"=some (.ref A.Gf)
 J4:gc K "part_copied" "part_copied" Jh A.JG A.JP
 VZ:Binds K A.JP ["part","own","sheets"] []
 Tt:mg "part_copied"=some (.ref A.JG)
 A5:gc K "content_copied" "content_copied" z4 A.AH A.AM
 O2:Binds K A.AM ["content","own","sheets"] []
 MI:mg "content_copied"=some (.ref A.AH)
 uR:gc K "cell_of_names" "cell_of_names" CU A.Dh A.Dn
 Dt:Binds K A.Dn [] []
 Ar:mg "cell_of_names"=some (.ref A.Dh)
 Ru:gc K "__init__" "Workbook.__init__" CV A.Di A.Dp
 Rm:Binds K A.Dp ["self"] []
 Ep:gc K "start_anew" "Workbook.start_anew" rD A.rO A.rY
 D8:Binds K A.rY ["self"] []
 He:gc K "add_sheet" "Workbook.add_sheet" tG A.ug A.uu
 GN:Binds K A.uu ["self","title"] []
 Et:gc K "drop_sheet" "Workbook.drop_sheet" rG A.rR A.r9
 Eb:Binds K A.r9 ["self","sheet"] []
 wb:gc K "refusal_of_areas" "Workbook.refusal_of_areas" lZ A.ma A.me
 dN:Binds K A.me ["self","areas"] []
 IS:gc K "set_cell" "Workbook.set_cell" u0 A.vn A.vz
 IF:Binds K A.vz ["self","sheet","row","column","told"] []
 U3:gc K "put" "Workbook.put" Fg A.Gh A.Gv
 UB:Binds K A.Gv ["self","sheet","spot","content"] []
 CC:gc K "count_cells" "Workbook.count_cells" p8 A.qC A.qO
 qV:Binds K A.qO ["self"] []
 zG:gc K "insert_places" "Workbook.insert_places" nL A.nV A.nZ
 zu:Binds K A.nZ ["self","sheet","way","start","many","lo","hi"] []
 zH:gc K "delete_places" "Workbook.delete_places" nM A.nW A.og
 zw:Binds K A.og ["self","sheet","way","start","many","lo","hi"] []
 wa:gc K "refusal_of_shift" "Workbook.refusal_of_shift" lY A.l9 A.md
 mf:Binds K A.md ["self","sheet","way","start","many","lo","hi"] []
 xO:gc K "would_lose_some" "Workbook.would_lose_some" mx A.mC A.mD
 xE:Binds K A.mD ["self","sheet","change"] []
 Hb:gc K "move_area" "Workbook.move_area" tD A.ud A.uo
 GJ:Binds K A.uo ["self","source","to_sheet","to_row","to_column"] []
 CA:gc K "make_change" "Workbook.make_change" p5 A.qA A.qL
 ja:Binds K A.qL ["self","change"] []
 Ha:gc K "take_over" "Workbook.take_over" tw A.uc A.um
 GI:Binds K A.um ["self","sheet","standing","change"] []
 A6:gc K "spots_within" "Workbook.spots_within" o9 A.pz A.pD
 fD:Binds K A.pD ["self","area"] []
 Hc:gc K "fill_area" "Workbook.fill_area" tE A.ue A.uq
 GK:Binds K A.uq ["self","source","target"] []
 Eu:gc K "copies_for" "Workbook.copies_for" rJ A.rS A.sd
 Ec:Binds K A.sd ["self","source","target"] []
 IP:gc K "take_out" "Workbook.take_out" uY A.vk A.vw
 vC:Binds K A.vw ["self","area"] []
 Ew:gc K "clear_area" "Workbook.clear_area" rK A.rT A.se
 Ed:Binds K A.se ["self","area"] []
 IQ:gc K "set_name" "Workbook.set_name" uZ A.vm A.vy
 IE:Binds K A.vy ["self","name","told"] []
 Hd:gc K "drop_name" "Workbook.drop_name" tF A.uf A.ur
 GL:Binds K A.ur ["self","name"] []
 IT:gc K "put_name" "Workbook.put_name" u7 A.vp A.vA
 IG:Binds K A.vA ["self","name","reference"] []
 Ll:gc K "look_at" "Workbook.look_at" wK A.xk A.xt
 K8:Binds K A.xt ["self","sheet","row","column"] []
 Es:gc K "list_cells" "Workbook.list_cells" rF A.rQ A.r8
 Ea:Binds K A.r8 ["self","area"] []
 Er:gc K "list_names" "Workbook.list_names" rE A.rP A.rZ
 D9:Binds K A.rZ ["self"] []
 CB:gc K "list_sheets" "Workbook.list_sheets" p7 A.qB A.qM
 Ci:Binds K A.qM ["self"] []
 U2:gc K "call_new" "call_new" SK A.xj A.Up
 aes:Binds K A.Up ["book","reader"] []
 ane:mg "call_new"=some (.ref A.xj)
 NO:gc K "call_sheet" "call_sheet" Mf A.qw A.Ng
 ZC:Binds K A.Ng ["book","reader"] []
 akz:mg "call_sheet"=some (.ref A.qw)
 QC:gc K "call_gone" "call_gone" PF A.t9 A.Qp
 acd:Binds K A.Qp ["book","reader"] []
 al1:mg "call_gone"=some (.ref A.t9)
 U1:gc K "call_set" "call_set" SJ A.xi A.Uo
 aer:Binds K A.Uo ["book","reader"] []
 anc:mg "call_set"=some (.ref A.xi)
 J8:gc K "call_insert" "call_insert" Jk A.nS A.JS
 V1:Binds K A.JS ["book","reader"] []
 aiR:mg "call_insert"=some (.ref A.nS)
 J9:gc K "call_delete" "call_delete" Jl A.nU A.JT
 V2:Binds K A.JT ["book","reader"] []
 aiS:mg "call_delete"=some (.ref A.nU)
 pG:gc K "take_area" "take_area" Pp A.P0 A.Qc
 uz:Binds K A.Qc ["reader"] []
 ql:mg "take_area"=some (.ref A.P0)
 QA:gc K "call_move" "call_move" PB A.tY A.Qn
 aca:Binds K A.Qn ["book","reader"] []
 alZ:mg "call_move"=some (.ref A.tY)
 QD:gc K "call_fill" "call_fill" PH A.ua A.Qq
 ace:Binds K A.Qq ["book","reader"] []
 al2:mg "call_fill"=some (.ref A.ua)
 NQ:gc K "call_clear" "call_clear" Mh A.qy A.Ni
 ZE:Binds K A.Ni ["book","reader"] []
 akB:mg "call_clear"=some (.ref A.qy)
 Qz:gc K "call_name" "call_name" Pz A.tX A.Qm
 ab9:Binds K A.Qm ["book","reader"] []
 alY:mg "call_name"=some (.ref A.tX)
 QB:gc K "call_look" "call_look" PD A.tZ A.Qo
 acb:Binds K A.Qo ["book","reader"] []
 al0:mg "call_look"=some (.ref A.tZ)
 NR:gc K "call_cells" "call_cells" Mi A.qz A.Nj
 ZF:Binds K A.Nj ["book","reader"] []
 akC:mg "call_cells"=some (.ref A.qz)
 NP:gc K "call_names" "call_names" Mg A.qx A.Nh
 ZD:Binds K A.Nh ["book","reader"] []
 akA:mg "call_names"=some (.ref A.qx)
 J7:gc K "call_sheets" "call_sheets" Jj A.nR A.JR
 V0:Binds K A.JR ["book","reader"] []
 aiQ:mg "call_sheets"=some (.ref A.nR)
 Ka:gc K "answer_next" "answer_next" Jm A.JI A.JU
 V3:Binds K A.JU ["book","reader"] []
 Tw:mg "answer_next"=some (.ref A.JI)
 XH:gc K "answers" "answers" WL A.Xl A.Xs
 aqv:Binds K A.Xs ["calls"] []
 adL:mg "answers"=some (.ref A.Xl)
 xa:∃t,mg "MOST_SHEETS"=some (.int (64) t)
 PR:∃t,mg "LAST_ROW"=some (.int (4095) t)
 FN:∃t,mg "LAST_COLUMN"=some (.int (255) t)
 JB:∃t,mg "MOST_CELLS"=some (.int (16384) t)
 VS:∃t,mg "MOST_NAMES"=some (.int (256) t)
 Tz:∃t,mg "MOST_LISTED"=some (.int (1024) t)
 Av:∃t,mg "LONGEST_TITLE"=some (.int (64) t)
 C6:∃t,mg "LONGEST_NAME"=some (.int (64) t)
 Rf:∃t,mg "LONGEST_TEXT"=some (.int (4096) t)
 FK:∃t,mg "NUMBERS_END"=some (.int (1000000000000000000000000000000000000) t)
 VR:∃t,mg "MOST_PARTS"=some (.int (256) t)
 adM:∃t,mg "DEEPEST"=some (.int (32) t)
 MK:∃t,mg "MOST_ARGUMENTS"=some (.int (64) t)
 C5:∃t,mg "LONGEST_SIDE"=some (.int (64) t)
 nP:∃t,mg "ALONG_ROWS"=some (.int (0) t)
 OM:∃t,mg "ALONG_COLUMNS"=some (.int (1) t)
 i8:∃t,mg "DONE"=some (.int (0) t)
 FJ:∃t,mg "WRONG_PLACE"=some (.int (-1) t)
 Au:∃t,mg "NO_SUCH_SHEET"=some (.int (-2) t)
 Rc:∃t,mg "NO_SUCH_NAME"=some (.int (-2) t)
 jh:∃t,mg "NOT_WELL_MADE"=some (.int (-3) t)
 OL:∃t,mg "ALREADY_THERE"=some (.int (-4) t)
 w9:∃t,mg "NO_ROOM"=some (.int (-5) t)
 agE:mg "SHAPES"=some (.ref A.R4)
 Tx:∃t,mg "VALUE"=some (.int (0) t)
 xc:∃t,mg "FORMULA"=some (.int (1) t)
 TC:∃t,mg "EMPTY"=some (.int (0) t)
 aiU:∃t,mg "ARRAY"=some (.int (8) t)
 As:mg "VALUE_READERS"=some (.ref A.CJ)
 xb:mg "FORMULA_READERS"=some (.ref A.yl)
 ML:∃t,mg "CELL_REFERENCE"=some (.int (1) t)
 MM:∃t,mg "AREA_REFERENCE"=some (.int (2) t)
 BW:∃t,mg "OWN_SHEET"=some (.int (0) t)
 TB:∃t,mg "FIXED"=some (.int (1) t)
 Y3:mg "ROWS"=some (.ref A.X1)
 KQ:mg "COLUMNS"=some (.ref A.Hq)
 afj:mg "LOST"=some (.ref A.ah8)
 MJ:∃t,mg "NOTHING_STANDS"=some (.int (0) t)
 Iv:∃t,mg "SOMETHING_STANDS"=some (.int (1) t)
 aiT:mg "CALLS"=some (.ref A.RC)
 agb:pQ K A.R4 [.ref A.Kt,.ref A.Ks,.ref A.Kr,.ref A.Kq,.ref A.Kp,.ref A.Ko,.ref A.Kn,.ref A.Km,.ref A.Kl]
 aax:pQ K A.Kt [.int (0),.int (127),.int (0),.int (128),.int (191)]
 aaw:pQ K A.Ks [.int (194),.int (223),.int (1),.int (128),.int (191)]
 aav:pQ K A.Kr [.int (224),.int (224),.int (2),.int (160),.int (191)]
 aau:pQ K A.Kq [.int (225),.int (236),.int (2),.int (128),.int (191)]
 aat:pQ K A.Kp [.int (237),.int (237),.int (2),.int (128),.int (159)]
 aas:pQ K A.Ko [.int (238),.int (239),.int (2),.int (128),.int (191)]
 aar:pQ K A.Kn [.int (240),.int (240),.int (3),.int (144),.int (191)]
 aaq:pQ K A.Km [.int (241),.int (243),.int (3),.int (128),.int (191)]
 aap:pQ K A.Kl [.int (244),.int (244),.int (3),.int (128),.int (143)]
 zR:pQ K A.CJ [.ref A.qt,.ref A.sW,.ref A.yM,.ref A.vT,.ref A.vU]
 wA:pQ K A.yl [.ref A.lz,.ref A.hR,.ref A.hU,.ref A.jn,.ref A.i3,.ref A.gA,.ref A.gy,.ref A.ly,.ref A.qv]
 RB:pQ K A.X1 [.ref A.wB,.ref A.mv,.ref A.mr]
 ap4:pQ K A.wB []
 N6:pQ K A.mv [.int (2)]
 N5:pQ K A.mr [.int (2),.int (6)]
 Kk:pQ K A.Hq [.ref A.mw,.ref A.iF,.ref A.iE]
 ak2:pQ K A.mw []
 Bi:pQ K A.iF [.int (4)]
 Bh:pQ K A.iE [.int (4),.int (8)]
 aeU:pQ K A.ah8 [.int (0),.int (4),.int (3)]
 ah7:pQ K A.RC [.ref A.xj,.ref A.qw,.ref A.t9,.ref A.xi,.ref A.nS,.ref A.nU,.ref A.tY,.ref A.ua,.ref A.qy,.ref A.tX,.ref A.tZ,.ref A.qz,.ref A.qx,.ref A.nR]
 OG:mg "all"=none
 aoy:mg "any"=none
 jG:mg "len"=none
 RK:mg "list"=none
 YR:mg "max"=none
 Tq:mg "min"=none
 OF:mg "ord"=none
 Tp:mg "range"=none
 WW:mg "sorted"=none
 aiK:mg "sum"=none
 FE:mg "tuple"=none
 aox:mg "zip"=none
section
variable {K:ah} {C:ag} {h:Heap} {mg:Str->Option Value} {x:Str}
def mgI {z:Int} {tk:Tok} (X:K.In h) (G:h.Ns mainGlobals mg) (a:acI K mainGlobals x=some (some (.int z tk))):∃tk,mg x=some (.int z tk):=⟨tk,NW X G a⟩
set_option tactic.hygienic true in
def art {f:List Value} {B:String} (X:K.In h) (G:h.Ns mainGlobals mg) (e:acI K mainGlobals x=some (some (.ref C))) (q:ZZ K C f B=true):OwnCls x C f B mg h:=by
 refine⟨NW X G e,?_⟩;unfold ZZ at q;split at q
 next D E b lk=>
  split at q
  next L H n m j i u g em o=>
   simp only[fO,aC,Bool.not_eq_true']at q;obtain⟨⟨⟨⟨⟨rfl,rfl⟩,dl⟩,tl⟩,ok⟩,d⟩:=q;obtain⟨nm,bs,y,ns,s,hd,p,sub,J,a,del⟩:=E;dsimp only at em dl ok d;subst em dl
   have z:b= #[n,m,j,i,some (.builtin u),g]:=by
    obtain⟨l⟩:=b;simp only at o;rw[o]
   subst z;exact⟨H,ns,nm,s,bs,hd,p,sub,J,a,D,n,m,j,i,g,_,X _ _ lk,.of_isNs (PySem.W.isNs_of_in X ok),PySem.W.nsMap_none_of_in X ok d,PySem.W.tail_of_in X tl⟩
  next=>cases q
 next=>cases q
def clO (pg:uV K C aDr=true) (hd:Ba K C=true) (po:Ph K C=true) (sa:gm K (.ref C) "__setattr__"=some (some (.builtin "object.__setattr__"))):Vd K C:=⟨pg,hd,po,sa⟩
def naO {x:Str} (n:gm K (.ref C) x=some none):fK K C x:=n
def mkO {f:ag} (mk:U8 K C=true) (i:gm K (.ref C) "__init__"=some (some (.ref f))) (fn:Hk K (.ref f)=true) (q:jf K (.ref C)=true):Mk K C f:=⟨mk,i,fn,q⟩
def meO {m:Str} {f:ag} (a:gm K (.ref C) m=some (some (.ref f))) (fn:Hk K (.ref f)=true) (k:jf K (.ref f)=true):Meth K C m f:=⟨a,fn,k⟩
def xcO {mg:Str->Option Value} {h:Heap} {x:Str} (X:K.In h) (G:h.Ns mainGlobals mg) (a:acI K mainGlobals x=some (some (.ref C))) (q:ZZ K C [.type "Exception",.type "BaseException",.type "object"] "Exception.__new__"=true):aj6 K mg x C:=⟨λe b d=>art b d a q,NW X G a⟩
end
def b_0 {p:List Value->Prop} (h:p []):∀u:List Value,u.length=0->p u:=λu e=>by rw[EL.mp e];exact h
def b_s {p:List Value->Prop} {n:Nat} (h:∀x u,u.length=n->p (x::u)):∀u:List Value,u.length=n+1->p u
 |_::_,e=>h _ _ (Nat.succ.inj e)
def txt {w:World} {h:Heap} {mg:Str->Option Value} (f:(hd.heap_1 w.params).In h) (G:h.Ns mainGlobals mg):∃A,Txt (hd.heap_1 w.params) mg A:=by
 have:gM=gM/\hd.heap_1=hd.heap_1:=by
  k_fillS
  exact⟨rfl,rfl⟩
 clear this
 refine'⟨CS.Ad.mk ..,?_⟩
 rotate_right
 constructor
 all_goals try dsimp only
 all_goals try exact NW f G (by k_is)
 all_goals try exact CS.meO (by k_is) (by as_aux_lemma=>k_is) (by as_aux_lemma=>k_is)
 all_goals try exact CS.mkO (by as_aux_lemma=>k_is) (by k_is) (by as_aux_lemma=>k_is) (by as_aux_lemma=>k_is)
 all_goals try exact L2.apl (by k_is) (by as_aux_lemma=>k_is) (by as_aux_lemma=>k_is)
 case fH=>
  refine CS.xcO f G (by k_is) ?_
  first|k_exc|k_is
 all_goals first
  |exact CS.clO (by as_aux_lemma=>k_is) (by as_aux_lemma=>k_is) (by as_aux_lemma=>k_is) (by as_aux_lemma=>k_is)
  |exact CS.naO (by as_aux_lemma=>k_is)
  |exact CS.mgI f G (by k_is)
  |exact PySem.W.mg_none_of f G (by k_is)
  |(refine .all ?_;repeat refine CS.b_s λ_=>?_
    exact CS.b_0 rfl)
  |exact L2.anU (by k_is) (by decide) (by repeat' first|exact .nil|exact⟨_,rfl⟩|rfl|refine .cons ?_ ?_)
local macro_rules|`(tactic|walk_at "a")=>`(tactic|first|((with_reducible show(@Eq (Option (Option L2.V)) _ _));rfl)|((with_reducible show(@Eq L2.V _ _));rfl)|((with_reducible show(@Eq (List L2.V) _ _));rfl)|assumption|rfl|exact ao|exact nH rfl|exact oY (by assumption)|exact⟨_,by assumption⟩|exact dY (dO (nH rfl))|exact EK (by assumption)|exact oY ⟨rfl,_,by assumption⟩|exact EK ⟨rfl,_,by assumption⟩|fail|(constructor;done))
def letX {X:L2.Cx} {s} {D:Ends} {σ:L2.St} {H:L2.Hp} (h:let Y:=X;let E:=D;let S:=σ;∃t,PSs Y s t/\t E S H):∃t,PSs X s t/\t D σ H:=h
def seqD {D σ f} (h:let E:=D;let S:=σ;f E S):L_d D σ f:=h
def seqL {t u:TS} {D:Ends} {σ:L2.St} {H:L2.Hp} (h:let E:Ends:={D with nx:=u D};let S:=σ;t E S H):aqS t u D σ H:=h
def seqA {i v σ H Q} (h:Q (List.set σ i (some v)) H):aju i v σ H Q:=h
def seqI {c t u D σ H} (h:let a:=t;let e:=u;c σ H λb H1=>if b=true then a D σ H1 else e D σ H1):aqV c t u D σ H:=h
def seqW {c b D σ H} (h:let B:=b;let E:=D;L2.WhileI c B E σ H):aeV c b D σ H:=h
def seqF {f g b D σ H} (h:let B:=b;let E:=D;f σ H λJ H1=>L2.Lk J g B E σ H1):aic f g b D σ H:=h
local macro_rules|`(tactic|walk_at "")=>`(tactic|first
 |with_reducible first
  |refine seqA ?_
  |(refine seqL ?_;intro _ _)
  |(refine seqD ?_;intro _ _)
  |(refine seqI ?_;intro _ _)
  |(refine seqW ?_;intro _ _)
  |(refine seqF ?_;intro _ _)
 |(apply aqR.mk;walk_at "a")
 |(apply I_w.mk;iterate 3 walk_at "a")
 |(apply I_m.mk;iterate 3 walk_at "a")
 |(apply rI0.mk;iterate 2 walk_at "a")
 |(apply I_b.mk;walk_at "a")
 |(apply arj.mk;iterate 4 walk_at "a")
 |(apply ark.mk;iterate 4 walk_at "a")
 |apply Exists.intro
 |(refine And.intro ?l ?_;(case l=>walk_at "a"))
 |apply Ez2.mk
 |apply Ez3.mk
 |apply Ez4.mk
 |apply Ez5.mk
 |apply Ez6.mk
 |apply Ez7.mk
 |apply Ez8.mk
 |((with_reducible show@ite _ _ _ _ _);first
  |(refine arJ ?_)|(refine arL ?_)
  |((refine awg (fun h=>?_) (fun h=>?_))<;>try (exfalso;fail))
  |((refine arK (fun h=>?_) (fun h=>?_))<;>try (exfalso;fail))
  |(refine awh (fun h=>?_) (fun h=>?_))))
local macro_rules|`(tactic|lk)=>`(tactic|repeat' (walk_at ""))
local macro_rules|`(tactic|walk_at "b")=>`(tactic|first|exact qT (by assumption) (by fail)|exact qF (by assumption) (by fail)|exact qD (by assumption) (by fail)|exact qN (by assumption) (by fail))
set_option hygiene false
local macro_rules|`(tactic|exists $t:term)=>`(tactic|(refine $t (fun vs H Q E h=>?l) (fun Ri A' outer s H vs Q E hr h=>letX ?_);(case l=>(first|obtain⟨rfl,_⟩:=h|obtain⟨_,rfl,_⟩:=h|obtain⟨_,_,rfl,_⟩:=h|obtain⟨_,_,_,rfl,_⟩:=h|obtain⟨_,_,_,_,rfl,_⟩:=h|obtain⟨_,_,_,_,_,rfl,_⟩:=h|obtain⟨_,_,_,_,_,_,rfl,_⟩:=h|obtain⟨_,_,_,_,_,_,_,rfl,_⟩:=h|obtain⟨_,_,_,_,_,_,_,_,rfl,_⟩:=h|obtain⟨_,_,_,_,_,_,_,_,_,rfl,_⟩:=h|obtain⟨_,_,_,_,_,_,_,_,_,_,rfl,_⟩:=h|obtain⟨_,_,_,_,_,_,_,_,_,_,_,rfl,_⟩:=h|obtain⟨_,_,_,_,_,_,_,_,_,_,_,_,rfl,_⟩:=h);rfl);intro xX9 xX8 xX7))
local macro_rules|`(tactic|exists $t:term,0)=>`(tactic|(refine⟨_,$t,?_⟩;lk))
set_option hygiene true
variable {A:Ad} (T:Txt K mg A)
structure b8 where
 sheet:Int
 r0:Int
 r1:Int
 c0:Int
 c1:Int
variable {band iO:b8}
def arF (x:b8):List (Str×V):=[("sheet",.int x.sheet),("first_row",.int x.r0),("last_row",.int x.r1),("first_column",.int x.c0),("last_column",.int x.c1)]
def bX (A:Ad) (H:Hp) (a:ag) (x:b8):Prop:=∃dx,H a=some (.ins A.m8 dx (arF x))
def bX.same {a:ag} (h:bX A H a x) (s:bt H H'):bX A H' a x:=let⟨dx,e⟩:=h;⟨dx,s _ _ e⟩
def b8.on (x:b8):Bool:=decide (0<=x.r0/\x.r0<=x.r1/\x.r1<=4095/\0<=x.c0/\x.c0<=x.c1/\x.c1<=255)
def b8.holds (x y:b8):Bool:=decide (x.sheet=y.sheet/\x.r0<=y.r0/\y.r1<=x.r1/\x.c0<=y.c0/\y.c1<=x.c1)
def b8.shifted (x:b8) (sheet down right:Int):b8:=⟨sheet,x.r0+down,x.r1+down,x.c0+right,x.c1+right⟩
def b8.first (x:b8) (f:Int):Int:=if f=0 then x.r0 else x.c0
def b8.last (x:b8) (f:Int):Int:=if f=0 then x.r1 else x.c1
def b8.put (x:b8) (f p q:Int):b8:=if f=0 then⟨x.sheet,p,q,x.c0,x.c1⟩else⟨x.sheet,x.r0,x.r1,p,q⟩
def je (s r c:Int):b8:=⟨s,r,r,c,c⟩
def jY (s f lo hi:Int):b8:=if f=0 then⟨s,0,4095,lo,hi⟩else⟨s,lo,hi,0,255⟩
def y3 (A:Ad) (H:Hp) (Q:VK) (x:b8):Prop:=∀H' p,bt H H'->H p=none->bX A H' p x->Q (.ref p) H'
def LX (A:Ad):Sp:=λvs H Q _=>∃(p dx:ag) (x:b8),vs=[.ref p,.int x.sheet,.int x.r0,.int x.r1,.int x.c0,.int x.c1]/\H p=some (.ins A.m8 dx [])/\∀H':Hp,H' p=some (.ins A.m8 dx (arF x))->cJ [p] H H'->Q .m6 H'
def jR:=show FO P w K mg base 1 _ _ _ (LX A) by
 exists T.acB.gp Yp
 obtain⟨p,dx,x,rfl,d,k⟩:=h
 exists (aj (fU T.bC T.du (pv 0) (pv 1))
  (aj (fU T.bC T.cU (pv 0) (pv 2))
  (aj (fU T.bC T.fV (pv 0) (pv 3))
  (aj (fU T.bC T.cB (pv 0) (pv 4))
  (aq (fU T.bC T.eJ (pv 0) (pv 5))))))),0
 refine k _ ao (λb o e n=>?_);have a:b≠p:=λz=>n (by rw[z];exact aM)
 rw[aw a,aw a,aw a,aw a,aw a];exact e
def BR (k:y3 A H Q x) (p dx:ag) (f:H p=none) (hd:H dx=none) (n:dx≠p) (E:XK) (xs:List V) (B:xs=[.int x.sheet,.int x.r0,.int x.r1,.int x.c0,.int x.c1]):
 LX A (.ref p::xs) (bB (bB H dx (.own p)) p (.ins A.m8 dx [])) (λv F=>v=.m6/\Q (.ref p) F) E:=by
 subst B;refine⟨p,dx,x,rfl,ao,λa e s=>⟨rfl,k a p ?_ f ⟨dx,e⟩⟩⟩;exact bt.made f hd (λb o q m=>s b o q (by simpa using m))
def Ig (A:Ad):Sp:=λvs H Q _=>∃a x,vs=[.ref a]/\bX A H a x/\Q (.bl x.on) H
def ve:=show FO P w K mg base 1 _ _ _ (Ig A) by
 exists T.Lr.gp Im
 obtain⟨a,x,rfl,⟨dx,b⟩,k⟩:=h
 exists (aj (ee (ki (agn kF kF kF bc (aK T.bC T.cU (pv 0)) (aK T.bC T.fV (pv 0)) (bE rfl T.PR))) (aq (aW Ft)) cv)
  (aq (aW (agq kF kF kF bc (aK T.bC T.cB (pv 0)) (aK T.bC T.eJ (pv 0)) (bE rfl T.FN))))),0
 all_goals walk_at "b"
def b8.has (x:b8) (r c:Int):Bool:=decide (x.r0<=r/\r<=x.r1/\x.c0<=c/\c<=x.c1)
def aaG (A:Ad):Sp:=λvs H Q _=>∃a x r c,vs=[.ref a,.int r,.int c]/\bX A H a x/\Q (.bl (x.has r c)) H
def aa8:=show FO P w K mg base 1 _ _ _ (aaG A) by
 exists T.aeE.gp aaL
 obtain⟨a,x,r,c,rfl,⟨dx,b⟩,k⟩:=h
 exists (aq (aW (Ox (Fq kF kF (aK T.bC T.cU (pv 0)) (pv 1) (aK T.bC T.fV (pv 0))) (BB (Fq kF kF (aK T.bC T.cB (pv 0)) (pv 2) (aK T.bC T.eJ (pv 0))))))),0
 all_goals walk_at "b"
def Vt (A:Ad):Sp:=λvs H Q _=>∃a x b y,vs=[.ref a,.ref b]/\bX A H a x/\bX A H b y/\Q (.bl (x.holds y)) H
def sT:=show FO P w K mg base 1 _ _ _ (Vt A) by
 exists T.ZW.gp VD
 obtain⟨a,x,b,y,rfl,⟨dx,e⟩,⟨g,d⟩,k⟩:=h
 exists (aj (ee (cS sE (aK T.bC T.du (pv 0)) (aK T.bC T.du (pv 1))) (aq (aW Ft)) cv)
  (aj (ee (PW.pt (SO (cS S7 (aK T.bC T.cU (pv 1)) (aK T.bC T.cU (pv 0))) (Ov (cS Js (aK T.bC T.fV (pv 1)) (aK T.bC T.fV (pv 0)))))) (aq (aW Ft)) cv)
  (aq (aW (Ox (qf kF (aK T.bC T.cB (pv 0)) (aK T.bC T.cB (pv 1))) (BB (qf kF (aK T.bC T.eJ (pv 1)) (aK T.bC T.eJ (pv 0))))))))),0
 all_goals walk_at "b"
def QT (A:Ad):Sp:=λvs H Q _=>∃a x s d r,vs=[.ref a,.int s,.int d,.int r]/\bX A H a x/\y3 A H Q (x.shifted s d r)
def C0:=show FO P w K mg base 3 _ _ _ (QT A) by
 exists T.U5.gp QX
 obtain⟨a,x,i,d,r,rfl,⟨dx,j⟩,k⟩:=h
 exists (aq (aW (jy T.yB (jR T) hr T.yE T.kI (aa (pv 1) (aa (gi kl (aK T.bC T.cU (pv 0)) (pv 2)) (aa (gi kl (aK T.bC T.fV (pv 0)) (pv 2)) (aa (gi kl (aK T.bC T.cB (pv 0)) (pv 3)) (aa (gi kl (aK T.bC T.eJ (pv 0)) (pv 3)) ai)))))))),0
 intro p dx g e b;exact BR k p dx g e b _ _ rfl
def Ih (A:Ad):Sp:=λvs H Q _=>∃a x z,vs=[.ref a,.int z]/\bX A H a x/\Q (.int (x.first z)) H
def iY:=show FO P w K mg base 1 _ _ _ (Ih A) by
 exists T.Ls.gp Io
 obtain⟨a,x,z,rfl,⟨dx,b⟩,k⟩:=h
 exists (aq (aW (jP (cS i7 (pv 1) (bE rfl T.nP)) (aK T.bC T.cU (pv 0)) (aK T.bC T.cB (pv 0))))),0
 ·exact qi k (by rw[b8.first,az (by assumption)])
 ·exact qi k (by rw[b8.first,au (by assumption)])
def Kx (A:Ad):Sp:=λvs H Q _=>∃a x z,vs=[.ref a,.int z]/\bX A H a x/\Q (.int (x.last z)) H
def ic:=show FO P w K mg base 1 _ _ _ (Kx A) by
 exists T.NU.gp KC
 obtain⟨a,x,z,rfl,⟨dx,b⟩,k⟩:=h
 exists (aq (aW (jP (cS i7 (pv 1) (bE rfl T.nP)) (aK T.bC T.fV (pv 0)) (aK T.bC T.eJ (pv 0))))),0
 ·exact qi k (by rw[b8.last,az (by assumption)])
 ·exact qi k (by rw[b8.last,au (by assumption)])
def Ie (A:Ad):Sp:=λvs H Q _=>∃a x z p q,vs=[.ref a,.int z,.int p,.int q]/\bX A H a x/\y3 A H Q (x.put z p q)
def vb:=show FO P w K mg base 3 _ _ _ (Ie A) by
 exists T.Lq.gp Il
 obtain⟨a,x,z,p,q,rfl,⟨dx,g⟩,k⟩:=h
 refine⟨_,(aj (ee (cS i7 (pv 1) (bE rfl T.nP)) (aq (aW (jy T.yB (jR T) hr T.yE T.kI (aa (aK T.bC T.du (pv 0)) (aa (pv 2) (aa (pv 3) (aa (aK T.bC T.cB (pv 0)) (aa (aK T.bC T.eJ (pv 0)) ai)))))))) cv)
  (aq (aW (jy T.yB (jR T) hr T.yE T.kI (aa (aK T.bC T.du (pv 0)) (aa (aK T.bC T.cU (pv 0)) (aa (aK T.bC T.fV (pv 0)) (aa (pv 2) (aa (pv 3) ai))))))))),?_⟩
 unfold b8.put at k
 lk
 ·rw[az (by assumption)]at k;intro p dx e d b;exact BR k p dx e d b _ _ rfl
 ·rw[au (by assumption)]at k;intro p dx e d b;exact BR k p dx e d b _ _ rfl
def adj (A:Ad):Sp:=λvs H Q _=>∃s r c,vs=[.int s,.int r,.int c]/\y3 A H Q (je s r c)
def sF:=show FO P w K mg base 3 _ _ _ (adj A) by
 exists T.sN.gp adp
 obtain⟨e,r,c,rfl,k⟩:=h
 exists (aq (aW (jy T.yB (jR T) hr T.yE T.kI (aa (pv 0) (aa (pv 1) (aa (pv 1) (aa (pv 2) (aa (pv 2) ai)))))))),0
 intro p dx d b a;exact BR k p dx d b a _ _ rfl
def adk (A:Ad):Sp:=λvs H Q _=>∃s z lo hi,vs=[.int s,.int z,.int lo,.int hi]/\y3 A H Q (jY s z lo hi)
def KI:=show FO P w K mg base 3 _ _ _ (adk A) by
 exists T.HS.gp adq
 obtain⟨e,z,lo,g,rfl,k⟩:=h
 refine⟨_,(aj (ee (cS i7 (pv 1) (bE rfl T.nP)) (aq (aW (jy T.yB (jR T) hr T.yE T.kI (aa (pv 0) (aa bc (aa (bE rfl T.PR) (aa (pv 2) (aa (pv 3) ai)))))))) cv)
  (aq (aW (jy T.yB (jR T) hr T.yE T.kI (aa (pv 0) (aa (pv 2) (aa (pv 3) (aa bc (aa (bE rfl T.FN) ai))))))))),?_⟩
 unfold jY at k
 lk
 ·rw[az (by assumption)]at k;intro p dx d b a;exact BR k p dx d b a _ _ rfl
 ·rw[au (by assumption)]at k;intro p dx d b a;exact BR k p dx d b a _ _ rfl
inductive XI where
 |put (band:b8) (way st many:Int)
 |del (band:b8) (way st many:Int)
 |mov (src tgt:b8)
 |KU (sheet:Int)
variable {ch:XI}
def shF (b:ag) (q st f:Int):List (Str×V):=[("band",.ref b),("way",.int q),("start",.int st),("many",.int f)]
def moF (b c:ag):List (Str×V):=[("source",.ref b),("target",.ref c)]
def loF (z:Int):List (Str×V):=[("sheet",.int z)]
def uS (A:Ad) (H:Hp) (a:ag):XI->Prop
 |.put band way st f=>∃dx b,H a=some (.ins A.gv dx (shF b way st f))/\bX A H b band
 |.del band way st f=>∃dx b,H a=some (.ins A.il dx (shF b way st f))/\bX A H b band
 |.mov B q=>∃dx b c,H a=some (.ins A.JZ dx (moF b c))/\bX A H b B/\bX A H c q
 |.KU z=>∃dx,H a=some (.ins A.kT dx (loF z))
def uS.same {a:ag} (h:uS A H a ch) (s:bt H H'):uS A H' a ch:=by
 cases ch with
 |put=>obtain⟨dx,b,e,h⟩:=h;exact⟨dx,b,s _ _ e,h.same s⟩
 |del=>obtain⟨dx,b,e,h⟩:=h;exact⟨dx,b,s _ _ e,h.same s⟩
 |mov=>obtain⟨dx,b,c,e,h,d⟩:=h;exact⟨dx,b,c,s _ _ e,h.same s,d.same s⟩
 |KU=>obtain⟨dx,e⟩:=h;exact⟨dx,s _ _ e⟩
def iH (st many p:Int):Int:=if p<st then p else p+many
def oG (B:b8) (F st q p:Int):Int:=let f:=iH st q p;let l:=B.last F;if l<f then l else f
def jo (st many p:Int):Int:=if p<st then p else(if st>p - many then st else p - many)
def kS (st many p:Int):Int:=if p<st then p else(if st - 1>p - many then st - 1 else p - many)
def shifted (B:b8) (q:Int) (f l:Int->Int) (x:b8):Option b8:=
 if B.holds x=true then(if l (x.last q)<f (x.first q)then none else some (x.put q (f (x.first q)) (l (x.last q))))else some x
def XI.after:XI->b8->Option b8
 |.put band way st f,x=>shifted band way (iH st f) (oG band way st f) x
 |.del band way st f,x=>shifted band way (jo st f) (kS st f) x
 |.mov src q,x=>if src.holds x=true then some (x.shifted q.sheet (q.r0 - src.r0) (q.c0 - src.c0))else if q.holds x=true then none else some x
 |.KU z,x=>if x.sheet=z then none else some x
def ahx (A:Ad) (H:Hp) (v:V):Option b8->Prop
 |none=>v=.m6
 |some x=>∃p,v=.ref p/\bX A H p x
def Jb (C:ag):Sp:=λvs H Q _=>∃(p dx b:ag) (way st a:Int),vs=[.ref p,.ref b,.int way,.int st,.int a]/\H p=some (.ins C dx [])/\∀H':Hp,H' p=some (.ins C dx (shF b way st a))->cJ [p] H H'->Q .m6 H'
def MC:=show FO P w K mg base 1 _ _ _ (Jb A.gv) by
 exists T.NS.gp Jd
 obtain⟨p,dx,b,g,st,d,rfl,i,k⟩:=h
 exists (aj (fU T.eK T.qk (pv 0) (pv 1))
  (aj (fU T.eK T.ko (pv 0) (pv 2))
  (aj (fU T.eK T.w6 (pv 0) (pv 3))
  (aq (fU T.eK T.yA (pv 0) (pv 4)))))),0
 refine k _ ao (λb o e n=>?_);have a:b≠p:=λz=>n (by rw[z];exact aM)
 rw[aw a,aw a,aw a,aw a];exact e
def OE:=show FO P w K mg base 1 _ _ _ (Jb A.il) by
 exists T.NS.gp Jd
 obtain⟨p,dx,b,g,st,d,rfl,i,k⟩:=h
 exists (aj (fU T.eS T.Ao (pv 0) (pv 1))
  (aj (fU T.eS T.oE (pv 0) (pv 2))
  (aj (fU T.eS T.jS (pv 0) (pv 3))
  (aq (fU T.eS T.sG (pv 0) (pv 4)))))),0
 refine k _ ao (λb o e n=>?_);have a:b≠p:=λz=>n (by rw[z];exact aM)
 rw[aw a,aw a,aw a,aw a];exact e
def Ye (A:Ad):Sp:=λvs H Q _=>∃(p dx b c:ag),vs=[.ref p,.ref b,.ref c]/\H p=some (.ins A.JZ dx [])/\∀H':Hp,H' p=some (.ins A.JZ dx (moF b c))->cJ [p] H H'->Q .m6 H'
def YO:=show FO P w K mg base 1 _ _ _ (Ye A) by
 exists T.acA.gp Yo
 obtain⟨p,dx,b,c,rfl,d,k⟩:=h
 exists (aj (fU T.sX T.qj (pv 0) (pv 1))
  (aq (fU T.sX T.mz (pv 0) (pv 2)))),0
 refine k _ ao (λb o e n=>?_);have a:b≠p:=λz=>n (by rw[z];exact aM)
 rw[aw a,aw a];exact e
def LW (A:Ad):Sp:=λvs H Q _=>∃(p dx:ag) (z:Int),vs=[.ref p,.int z]/\H p=some (.ins A.kT dx [])/\∀H':Hp,H' p=some (.ins A.kT dx (loF z))->cJ [p] H H'->Q .m6 H'
def MB:=show FO P w K mg base 1 _ _ _ (LW A) by
 exists T.Pe.gp L8
 obtain⟨p,dx,z,rfl,d,k⟩:=h
 exists (aq (fU T.Ce T.wZ (pv 0) (pv 1))),0
 refine k _ ao (λb o e n=>?_);have a:b≠p:=λz=>n (by rw[z];exact aM)
 rw[aw a];exact e
def zj (A:Ad):Sp:=λvs H Q _=>∃a dx b way st d p,vs=[.ref a,.int p]/\H a=some (.ins A.gv dx (shF b way st d))/\Q (.int (iH st d p)) H
def nO:=show FO P w K mg base 1 _ _ _ (zj A) by
 exists T.A7.gp zo
 obtain⟨a,dx,b,e,st,d,p,rfl,g,k⟩:=h
 exists (aq (aW (jP (cS S7 (pv 1) (aK T.eK T.w6 (pv 0))) (pv 1) (gi kl (pv 1) (aK T.eK T.yA (pv 0)))))),0
 ·exact qi k (by rw[iH,az (by assumption)])
 ·exact qi k (by rw[iH,au (by assumption)])
def zU (A:Ad):Sp:=λvs H Q _=>∃a dx b band way st d p,vs=[.ref a,.int p]/\H a=some (.ins A.gv dx (shF b way st d))/\bX A H b band/\Q (.int (oG band way st d p)) H
def Al:=show FO P w K mg base 2 _ _ _ (zU A) by
 exists T.CD.gp zX
 obtain⟨a,dx,b,e,g,st,d,p,rfl,i,⟨m,j⟩,k⟩:=h
 exists (aq (aW (cG (ahj rfl) rfl T.Tq Uu (aa (bx (pv 0) T.eK T.nQ (nO T) hr T.pF (aa (pv 1) ai)) (aa (bx (aK T.eK T.qk (pv 0)) T.bC T.ie (ic T) hr T.iU (aa (aK T.eK T.ko (pv 0)) ai)) ai))))),0
 exact k
def zV (A:Ad):Sp:=λvs H Q _=>∃a dx b way st d p,vs=[.ref a,.int p]/\H a=some (.ins A.il dx (shF b way st d))/\Q (.int (jo st d p)) H
def An:=show FO P w K mg base 1 _ _ _ (zV A) by
 exists T.CF.gp zY
 obtain⟨a,dx,b,e,st,d,p,rfl,g,k⟩:=h
 exists (aq (aW (jP (cS S7 (pv 1) (aK T.eS T.jS (pv 0))) (pv 1) (cG (Xw rfl) rfl T.YR Zw (aa (gi lP (pv 1) (aK T.eS T.sG (pv 0))) (aa (aK T.eS T.jS (pv 0)) ai)))))),0
 all_goals exact qi k (by unfold jo;split<;>first|rfl|omega)
def Bk (A:Ad):Sp:=λvs H Q _=>∃a dx b way st d p,vs=[.ref a,.int p]/\H a=some (.ins A.il dx (shF b way st d))/\Q (.int (kS st d p)) H
def BO:=show FO P w K mg base 1 _ _ _ (Bk A) by
 exists T.Ex.gp Bu
 obtain⟨a,dx,b,e,st,d,p,rfl,g,k⟩:=h
 exists (aq (aW (jP (cS S7 (pv 1) (aK T.eS T.jS (pv 0))) (pv 1) (cG (Xw rfl) rfl T.YR Zw (aa (gi lP (pv 1) (aK T.eS T.sG (pv 0))) (aa (gi lP (aK T.eS T.jS (pv 0)) bc) ai)))))),0
 all_goals exact qi k (by unfold kS;split<;>first|rfl|omega)
def pX (A:Ad) (f:XI->Prop):Sp:=λvs H Q _=>∃a ch b x,vs=[.ref a,.ref b]/\f ch/\uS A H a ch/\bX A H b x/\∀H' v,bt H H'->ahx A H' v (ch.after x)->Q v H'
def anh:XI->Prop|.put _ _ _ _=>True|_=>False
def anj:XI->Prop|.del _ _ _ _=>True|_=>False
def ani:XI->Prop|.mov _ _=>True|_=>False
def ai2:XI->Prop|.KU _=>True|_=>False
def holds_iff {x:b8}:x.holds y=true↔(x.sheet=y.sheet/\x.r0<=y.r0/\y.r1<=x.r1/\x.c0<=y.c0/\y.c1<=x.c1):=acF
def su {f l:Int->Int} (h:¬(band.sheet=x.sheet/\band.r0<=x.r0/\x.r1<=band.r1/\band.c0<=x.c0/\x.c1<=band.c1)):shifted band way f l x=some x:=by
 unfold shifted;rw[au (λz=>h (holds_iff.mp z))]
def mL {f l:Int->Int} (h:band.sheet=x.sheet/\band.r0<=x.r0/\x.r1<=band.r1/\band.c0<=x.c0/\x.c1<=band.c1) (g:l (x.last way)<f (x.first way)):shifted band way f l x=none:=by
 unfold shifted;rw[az (holds_iff.mpr h),az g]
def oZ {f l:Int->Int} (h:band.sheet=x.sheet/\band.r0<=x.r0/\x.r1<=band.r1/\band.c0<=x.c0/\x.c1<=band.c1) (g:¬l (x.last way)<f (x.first way)):shifted band way f l x=some (x.put way (f (x.first way)) (l (x.last way))):=by
 unfold shifted;rw[az (holds_iff.mpr h),au g]
def ND {b q:ag} {o:Option b8} (k:∀f v,bt H f->ahx A f v o->Q v f) (B:H b=some (.ins A.m8 q (arF x))) (e:o=some x):Q (.ref b) H:=k H _ (bt.refl H) (by rw[e];exact⟨b,rfl,q,B⟩)
def NF {o:Option b8} (k:∀f v,bt H f->ahx A f v o->Q v f) (e:o=none):Q .m6 H:=k H _ (bt.refl H) (by rw[e];rfl)
def ZH {o:Option b8} (k:∀f v,bt H f->ahx A f v o->Q v f) (e:o=some x):y3 A H Q x:=λf p s _ a=>k f _ s (by rw[e];exact⟨p,rfl,a⟩)
def Am:=show FO P w K mg base 4 _ _ _ (pX A anh) by
 exists T.kY.gp gS
 obtain⟨a,o,b,x,rfl,d,p,⟨y,j⟩,k⟩:=h
 refine⟨_,(aj (ee (ki (iG (bx (aK T.eK T.qk (pv 0)) T.bC T.sV (sT T) hr T.vY (aa (pv 1) ai)))) (aq (aW (pv 1))) cv)
  (aj (bS 2 gS.nd (bx (pv 0) T.eK T.nQ (nO T) hr T.pF (aa (bx (pv 1) T.bC T.iZ (iY T) hr T.jr (aa (aK T.eK T.ko (pv 0)) ai)) ai)))
  (aj (bS 3 gS.nd (bx (pv 0) T.eK T.Ay (Al T) hr T.Ck (aa (bx (pv 1) T.bC T.ie (ic T) hr T.iU (aa (aK T.eK T.ko (pv 0)) ai)) ai)))
  (aj (ee (cS Js (pv 2) (pv 3)) (aq (aW KG)) cv)
  (aq (aW (bx (pv 1) T.bC T.vf (vb T) hr T.xH (aa (aK T.eK T.ko (pv 0)) (aa (pv 2) (aa (pv 3) ai)))))))))),?_⟩
 cases o with
 |put g i st e=>
  obtain⟨dx,z,u,n,m⟩:=p
  lk
  ·exact ND k j (su (by assumption))
  ·exact NF k (mL (by assumption) (by assumption))
  ·exact ZH k (oZ (by assumption) (by assumption))
 |del _ _ _ _=>exact d.elim
 |mov _ _=>exact d.elim
 |KU _=>exact d.elim
def BP:=show FO P w K mg base 4 _ _ _ (pX A anj) by
 exists T.kY.gp gS
 obtain⟨a,o,b,x,rfl,d,p,⟨y,j⟩,k⟩:=h
 refine⟨_,(aj (ee (ki (iG (bx (aK T.eS T.Ao (pv 0)) T.bC T.sV (sT T) hr T.vY (aa (pv 1) ai)))) (aq (aW (pv 1))) cv)
  (aj (bS 2 gS.nd (bx (pv 0) T.eS T.AA (An T) hr T.Cm (aa (bx (pv 1) T.bC T.iZ (iY T) hr T.jr (aa (aK T.eS T.oE (pv 0)) ai)) ai)))
  (aj (bS 3 gS.nd (bx (pv 0) T.eS T.B5 (BO T) hr T.Ee (aa (bx (pv 1) T.bC T.ie (ic T) hr T.iU (aa (aK T.eS T.oE (pv 0)) ai)) ai)))
  (aj (ee (cS Js (pv 2) (pv 3)) (aq (aW KG)) cv)
  (aq (aW (bx (pv 1) T.bC T.vf (vb T) hr T.xH (aa (aK T.eS T.oE (pv 0)) (aa (pv 2) (aa (pv 3) ai)))))))))),?_⟩
 cases o with
 |del g i st e=>
  obtain⟨dx,z,u,n,m⟩:=p
  lk
  ·exact ND k j (su (by assumption))
  ·exact NF k (mL (by assumption) (by assumption))
  ·exact ZH k (oZ (by assumption) (by assumption))
 |put _ _ _ _=>exact d.elim
 |mov _ _=>exact d.elim
 |KU _=>exact d.elim
def KJ:=show FO P w K mg base 4 _ _ _ (pX A ani) by
 exists T.y9.gp oM
 obtain⟨a,n,b,x,rfl,g,o,⟨C,m⟩,k⟩:=h
 refine⟨_,(aj (ee (iG (bx (aK T.sX T.qj (pv 0)) T.bC T.sV (sT T) hr T.vY (aa (pv 1) ai))) (aj (bS 2 oM.nd (gi lP (aK T.bC T.cU (aK T.sX T.mz (pv 0))) (aK T.bC T.cU (aK T.sX T.qj (pv 0)))))
  (aj (bS 3 oM.nd (gi lP (aK T.bC T.cB (aK T.sX T.mz (pv 0))) (aK T.bC T.cB (aK T.sX T.qj (pv 0)))))
  (aq (aW (bx (pv 1) T.bC T.C7 (C0 T) hr T.GP (aa (aK T.bC T.du (aK T.sX T.mz (pv 0))) (aa (pv 2) (aa (pv 3) ai)))))))) cv)
  (aj (ee (iG (bx (aK T.sX T.mz (pv 0)) T.bC T.sV (sT T) hr T.vY (aa (pv 1) ai))) (aq (aW KG)) cv)
  (aq (aW (pv 1))))),?_⟩
 cases n with
 |mov src d=>
  obtain⟨dx,M,L,p,⟨J,y⟩,D,u⟩:=o;have e:∀H' v,bt H H'->ahx A H' v (if src.holds x=true then some (x.shifted d.sheet (d.r0 - src.r0) (d.c0 - src.c0))else if d.holds x=true then none else some x)->Q v H':=k
  lk
  ·exact ZH e (by rw[az (holds_iff.mpr (by assumption))])
  ·rename_i j i
   exact NF e (by rw[au (λz=>j (holds_iff.mp z)),az (holds_iff.mpr i)])
  ·rename_i j i
   exact ND e m (by rw[au (λz=>j (holds_iff.mp z)),au (λz=>i (holds_iff.mp z))])
 |put _ _ _ _=>exact g.elim
 |del _ _ _ _=>exact g.elim
 |KU _=>exact g.elim
def Ak:=show FO P w K mg base 1 _ _ _ (pX A ai2) by
 exists T.qZ.gp zW
 obtain⟨a,i,b,x,rfl,d,j,⟨n,g⟩,k⟩:=h;refine⟨_,(aq (aW (jP (cS i7 (aK T.bC T.du (pv 1)) (aK T.Ce T.wZ (pv 0))) KG (pv 1)))),?_⟩;cases i with
 |KU z=>
  obtain⟨dx,m⟩:=j;have e:∀H' v,bt H H'->ahx A H' v (if x.sheet=z then none else some x)->Q v H':=k
  lk
  ·exact NF e (az (by assumption))
  ·exact ND e g (au (by assumption))
 |put _ _ _ _=>exact d.elim
 |del _ _ _ _=>exact d.elim
 |mov _ _=>exact d.elim
inductive ef (A:Ad):ag->ag->Sp->Prop
 |put:ef A A.gv A.ig (pX A anh)
 |del:ef A A.il A.ig (pX A anj)
 |mov:ef A A.JZ A.qE (pX A ani)
 |KU:ef A A.kT A.kR (pX A ai2)
def mH:∀C f sp,ef A C f sp->Vd K C/\Meth K C "area_after" f/\FnAt P w K mg base (RT P w) 4 f ["self","area"] sp:=by
 intro C f sp h;cases h with
 |put=>exact⟨T.eK,T.Az,⟨_,Am T,T.xF⟩,T.kY.kp⟩
 |del=>exact⟨T.eS,T.B6,⟨_,BP T,T.xF⟩,T.kY.kp⟩
 |mov=>exact⟨T.sX,T.KS,⟨_,(KJ T).mono (by decide),T.Nw⟩,T.y9.kp⟩
 |KU=>exact⟨T.Ce,T.Ax,⟨_,(Ak T).mono (by decide),T.Cj⟩,T.qZ.kp⟩
def R (α:Type):Type:=List Int->Option (α×List Int)
def R.bind {α β:Type} (p:R α) (f:α->R β):R β:=λl=>match p l with
 |none=>none
 |some (x,r)=>f x r
def R.pure {α:Type} (x:α):R α:=λl=>some (x,l)
def R.fail {α:Type}:R α:=λ_=>none
def tk:R Int:=λl=>match l with
 |[]=>none
 |z::r=>some (z,r)
def oz (lo hi:Int):R Int:=tk.bind λz=>if z<lo\/hi<z then R.fail else R.pure z
def Wx (n:Nat):R (List Int):=λl=>if l.length<n then none else some (l.take n,l.drop n)
def R1 (lo hi:Int):R (List Int):=(oz lo hi).bind λn=>Wx n.toNat
def rdF (l:ag) (pos:Nat):List (Str×V):=[("told",.ref l),("position",.int pos)]
def iI (A:Ad) (K:ah) (H:Hp) (r tl:ag) (told:List Int) (pos:Nat):Prop:=∃dx,H r=some (.ins A.jA dx (rdF tl pos))/\dv K H tl (told.map V.int)/\pos<=told.length
def cJ.seq {r l:ag} {fs:List (Str×V)} (k:cJ [r] H H') (f:H r=some (.ins C dx fs)) (h:dv K H l xs):dv K H' l xs:=by
 rcases h with(h|⟨o,h⟩)|h
 ·exact .inl (.inl (k _ _ h (by have:=C1 h f (by intro z;cases z);simpa using this)))
 ·exact .inl (.inr ⟨o,k _ _ h (by have:=C1 h f (by intro z;cases z);simpa using this)⟩)
 ·exact .inr h
def jb (A:Ad) (K:ah) {α:Type} (p:R α) (ret:α->Hp->Hp->V->Prop) (r tl:ag) (told:List Int) (pos:Nat) (H:Hp) (Q:VK) (E:XK):Prop:=
 match p (told.drop pos)with
 |none=>∀H',cJ [r] H H'->E (.ref A.kU) none H'
 |some (x,rest)=>∀H' pos' v,cJ [r] H H'->iI A K H' r tl told pos'->told.drop pos'=rest->pos<=pos'->ret x H H' v->Q v H'
def wV:Int->Hp->Hp->V->Prop:=λz _ _ v=>v=.int z
def Bv {α:Type}:α->Hp->Hp->V->Prop:=λ_ _ _ v=>v=.m6
def alv:List Int->Hp->Hp->V->Prop:=λl H H' v=>∃q,v=.ref q/\H q=none/\H' q=some (.lst (l.map V.int))
def d8 (A:Ad) (K:ah) {α:Type} (p:R α) (ret:α->Hp->Hp->V->Prop):Sp:=λvs H Q E=>∃r tl told pos,vs=[.ref r]/\iI A K H r tl told pos/\jb A K p ret r tl told pos H Q E
def amK (r:ag) {α:Type} (ret:α->Hp->Hp->V->Prop):Prop:=∀x a H1 H2 v,cJ [r] a H1->(∃o,H1 r=some o)->ret x H1 H2 v->ret x a H2 v
def tW {r:ag}:amK r wV:=λ_ _ _ _ _ _ _ h=>h
def F3 {α:Type} {r:ag}:amK (α:=α) r Bv:=λ_ _ _ _ _ _ _ h=>h
def anp {r:ag}:amK r alv:=by
 rintro x d i g v k ⟨o,b⟩ ⟨q,e,n,h⟩
 refine⟨q,e,?_,h⟩;cases z:d q with
 |none=>rfl
 |some u=>
  by_cases a:q=r
  ·rw[a,b]at n;cases n
  ·rw[k q u z (by simpa using a)]at n;cases n
def jb.seq {α I:Type} {p:R α} {f:α->R I} {ret:I->Hp->Hp->V->Prop} {F:α->Hp->Hp->V->Prop} {r:ag} {pos:Nat}
 (k:jb A K (p.bind f) ret r tl told pos H Q E) (G:amK r ret) (c:∀x q B v,cJ [r] H q->iI A K q r tl told B->pos<=B->p (told.drop pos)=some (x,told.drop B)->F x H q v->jb A K (f x) ret r tl told B q Q E->Q1 v q):jb A K p F r tl told pos H Q1 E:=by
 unfold jb at k⊢;cases e:p (told.drop pos)with
 |none=>
  have g:(p.bind f) (told.drop pos)=none:=by unfold R.bind;rw[e]
  rw[g]at k;exact k
 |some y=>
  obtain⟨x,rest⟩:=y;have g:(p.bind f) (told.drop pos)=f x rest:=by unfold R.bind;rw[e]
  rw[g]at k;intro q B v kp i hd j s;refine c x q B v kp i j (by rw[hd];exact e) s ?_;unfold jb;rw[hd];cases l:f x rest with
  |none=>
   rw[l]at k;exact λh a=>k h (kp.trans a)
  |some z=>
   rw[l]at k;exact λh b v a m o d n=>k h b v (kp.trans a) m o (b9 j d) (G _ _ _ _ _ kp (let⟨_,z,_⟩:=i;⟨_,z⟩) n)
def jb.bad {α:Type} {p:R α} {ret:α->Hp->Hp->V->Prop} {r:ag} {pos:Nat} (k:jb A K p ret r tl told pos H Q E) (e:p (told.drop pos)=DC) (kp:cJ [r] H H'):E (.ref A.kU) DC H':=by
 unfold jb at k;rw[e]at k;exact k H' kp
def jb.good {α:Type} {p:R α} {ret:α->Hp->Hp->V->Prop} {r:ag} {pos:Nat} {x:α} (k:jb A K p ret r tl told pos H Q E) (e:p (told.drop pos)=sZ (x,rest)) (kp:cJ [r] H H')
 (q:iI A K H' r tl told pos') (hd:told.drop pos'=rest) (B:pos<=pos') (f:ret x H H' v):Q v H':=by
 unfold jb at k;rw[e]at k;exact k H' pos' v kp q hd B f
def TK {r:ag}:cJ [r] H (bB H r o):=λb u e n=>by rw[aw (by simpa using n)];exact e
def iI.adv {r:ag} {pos:Nat} (f:H r=sZ (.ins A.jA dx (rdF tl pos))) (B:dv K H tl (told.map V.int)) (q:pos'<=told.length):iI A K (bB H r (.ins A.jA dx (rdF tl pos'))) r tl told pos':=
 ⟨dx,ao,cJ.seq TK f B,q⟩
def iI.keep {r:ag} {pos:Nat} (h:iI A K H r tl told pos) (k:bt H H'):iI A K H' r tl told pos:=
 let⟨dx,a,d,b⟩:=h;⟨dx,k _ _ a,k.seq d,b⟩
def drop_cons {pos:Nat} (h:told.drop pos=z::rest):told[pos]? =sZ z/\told.drop (pos+1)=rest/\pos<told.length:=by
 have a:pos<told.length:=by
  by_cases q:pos<told.length
  ·exact q
  ·rw[HW (by omega)]at h;cases h
 refine⟨?_,?_,a⟩
 ·rw[pM a]at h;rw[aZ a];exact cK sZ (cu h).1
 ·rw[pM a]at h;exact(cu h).2
def drop_nil {pos:Nat} (h:told.drop pos=[]) (f:pos<=told.length):pos=told.length:=by
 have:=cK gh h;rw[eh]at this;simp at this;omega
def afL {pos:Nat} (h:told[pos]? =sZ z):ky (told.map V.int) (pos:Int)=sZ (V.int z):=bD (by rw[aV,h];rfl)
def Sm (A:Ad):Sp:=λvs H Q _=>∃(p dx l:ag),vs=[.ref p,.ref l]/\H p=sZ (.ins A.jA dx [])/\∀H':Hp,H' p=sZ (.ins A.jA dx (rdF l 0))->cJ [p] H H'->Q .m6 H'
def wY:=show FO P w K mg base 1 _ _ _ (Sm A) by
 exists T.Wg.gp SF
 obtain⟨p,dx,l,rfl,d,k⟩:=h
 exists (aj (fU T.bJ T.my (pv 0) (pv 1))
  (aq (fU T.bJ T.eX (pv 0) bc))),0
 refine k _ ao (λb o e n=>?_);have a:b≠p:=λz=>n (by rw[z];exact aM)
 rw[aw a,aw a];exact e
def Ib (A:Ad) (K:ah):Sp:=λvs H Q _=>∃r tl told pos,vs=[.ref r]/\iI A K H r tl told pos/\Q (.bl (decide (pos=told.length))) H
def nv:=show FO P w K mg base 1 _ _ _ (Ib A K) by
 exists T.Ln.gp Ij
 obtain⟨r,tl,a,pos,rfl,⟨dx,hr,d,b⟩,k⟩:=h
 exists (aq (aW (qf i7 (aK T.bJ T.eX (pv 0)) (cG eL rfl T.jG jI (aa (aK T.bJ T.my (pv 0)) ai))))),0
 exact qD k (by rw[ae];omega)
structure ayr (pos n:Nat) (q e:Prop):Prop where
 yes:pos=n->q
 no:pos≠n->e
def EV (A:Ad) (K:ah):Sp:=λvs H Q E=>∃r tl told pos,vs=[.ref r]/\iI A K H r tl told pos/\ayr pos told.length (Q .m6 H) (E (.ref A.kU) DC H)
def tS:=show FO P w K mg base 2 _ _ _ (EV A K) by
 exists T.IU.gp E4
 obtain⟨r,tl,a,pos,rfl,d,k⟩:=h;refine⟨_,(aq (ee (ki (iG (fA (pv 0) T.bJ T.ny (nv T) hr T.oR))) (aq (tM yu T.fH rfl rfl (aa BA ai))) cv)),?_⟩;obtain⟨dx,hr,g,e⟩:=id d;by_cases h:pos=a.length
 ·have b:=k.yes h
  lk
  exact b
 ·have b:=k.no h
  lk
  exact b
def km:=show FO P w K mg base 2 _ _ _ (d8 A K tk wV) by
 exists T.Wf.gp E3
 obtain⟨r,tl,a,pos,rfl,b,k⟩:=h
 refine⟨_,(aj (ee (iG (fA (pv 0) T.bJ T.ny (nv T) hr T.oR)) (aq (tM yu T.fH rfl rfl (aa BA ai))) cv)
  (aj (bS 1 E3.nd (cP dW (aK T.bJ T.my (pv 0)) (aK T.bJ T.eX (pv 0))))
  (aj (SS T.bJ T.eX (pv 0) bc ai3)
  (aq (aW (pv 1)))))),?_⟩
 obtain⟨dx,hr,g,d⟩:=id b;rcases hd:a.drop pos with _|⟨z,rest⟩
 ·have e:=drop_nil hd d
  lk
  exact k.bad (by rw[hd];rfl) (cJ.refl _ _)
 ·obtain⟨m,j,i⟩:=drop_cons hd;have n:=afL m
  lk
  exact k.good (by rw[hd];rfl) TK (iI.adv (pos':=pos+1) hr g i) j (Z4 _) rfl
def DI (A:Ad) (K:ah):Sp:=λvs H Q E=>∃r tl told pos lo hi,vs=[.ref r,.int lo,.int hi]/\iI A K H r tl told pos/\jb A K (oz lo hi) wV r tl told pos H Q E
def bY:=show FO P w K mg base 3 _ _ _ (DI A K) by
 exists T.Hg.gp rA
 obtain⟨r,tl,b,pos,lo,n,rfl,e,k⟩:=h
 refine⟨_,(aj (bS 3 rA.nd (fA (pv 0) T.bJ T.kq (km T) hr T.lH))
  (aj (ee (PW.pt (SO (cS S7 (pv 3) (pv 1)) (Ov (cS Js (pv 3) (pv 2))))) (aq (tM yu T.fH rfl rfl (aa BA ai))) cv)
  (aq (aW (pv 3))))),?_⟩
 obtain⟨dx,hr,m,j⟩:=id e
 lk
 refine jb.seq k tW (λx p o v kp d i u g a=>?_);subst g
 lk
 ·exact a.bad (by rw[az (oY (by assumption))];rfl) (cJ.refl _ _)
 ·exact a.bad (by rw[az (EK (by assumption))];rfl) (cJ.refl _ _)
 ·exact a.good (by rw[au (by omega)];rfl) (cJ.refl _ _) d rfl (aS _) rfl
def ajP {a b:Nat} (q:a<=told.length) (f:b<=told.length):Ur (told.map V.int) (some (a:Int)) (some (b:Int))=((told.drop a).take (b - a)).map V.int:=by
 unfold Ur;rw[HT.Mm,HT.Mm,ae,nG q,nG f,acY,aqH]
def DH (A:Ad) (K:ah):Sp:=λvs H Q _=>∃(r tl:ag) (told:List Int) (pos st:Nat),vs=[.ref r,.int st]/\iI A K H r tl told pos/\st<=pos/\∀q,H q=none->Q (.ref q) (bB H q (.lst (((told.drop st).take (pos - st)).map V.int)))
def lQ:=show FO P w K mg base 1 _ _ _ (DH A K) by
 exists T.Hf.gp DL
 obtain⟨r,tl,a,pos,st,rfl,b,g,k⟩:=h;refine⟨_,(aq (aW (SV Yg (aK T.bJ T.my (pv 0)) (Mu (pv 1)) (Mu (aK T.bJ T.eX (pv 0)))))),?_⟩;obtain⟨dx,hr,i,e⟩:=id b
 lk
 intro q d;rw[ajP (by omega) e];exact k q d
def Ia (A:Ad) (K:ah):Sp:=λvs H Q E=>∃(r tl:ag) (told:List Int) (pos n:Nat),vs=[.ref r,.int n]/\iI A K H r tl told pos/\jb A K (Wx n) alv r tl told pos H Q E
def fq:=show FO P w K mg base 2 _ _ _ (Ia A K) by
 exists T.Lm.gp uW
 obtain⟨r,tl,told,pos,n,rfl,i,k⟩:=h
 refine⟨_,(aj (ee (cS Js (pv 1) (gi lP (cG eL rfl T.jG jI (aa (aK T.bJ T.my (pv 0)) ai)) (aK T.bJ T.eX (pv 0)))) (aq (tM yu T.fH rfl rfl (aa BA ai))) cv)
  (aj (bS 2 uW.nd (aK T.bJ T.eX (pv 0)))
  (aj (SS T.bJ T.eX (pv 0) (pv 1) ai3)
  (aq (aW (bx (pv 0) T.bJ T.lR (lQ T) hr T.mG (aa (pv 2) ai))))))),?_⟩
 obtain⟨dx,hr,j,u⟩:=id i;have p:(told.map V.int).length=told.length:=ae ..;by_cases g:told.length - pos<n
 ·lk
  exact k.bad (by unfold Wx;rw[az (by rw[eh];exact g)]) (cJ.refl _ _)
 ·have d:=iI.adv (A:=A) (pos':=pos+n) hr j (by omega)
  lk
  intro q a;have m:(told.drop pos).take (pos+n - pos)=(told.drop pos).take n:=by rw[jv]
  have e:=bt.new (o:=.lst (((told.drop pos).take n).map V.int)) a;rw[m];have b:q≠r:=λz=>by rw[z,ao]at a;cases a
  refine k.good (pos':=pos+n) (by unfold Wx;rw[au (by rw[eh];exact g)]) (TK.trans (cJ.same e)) (d.keep e) (by rw[apW]) (jc _ _) ⟨q,rfl,?_,ao⟩;rw[aw b]at a;exact a
def wz {lo hi:Int} {r:List Int} (h:oz lo hi l=some (z,r)):lo<=z/\z<=hi:=by
 unfold oz R.bind at h;cases l with
 |nil=>cases h
 |cons y l=>
  simp only[tk]at h;by_cases c:y<lo\/hi<y
  ·rw[az c]at h;cases h
  ·rw[au c]at h;have:=(kZ (ay h)).1;omega
def xZ (A:Ad) (K:ah):Sp:=λvs H Q E=>∃(r tl:ag) (told:List Int) (pos lo:Nat) (hi:Int),vs=[.ref r,.int lo,.int hi]/\iI A K H r tl told pos/\jb A K (R1 lo hi) alv r tl told pos H Q E
def mZ:=show FO P w K mg base 4 _ _ _ (xZ A K) by
 exists T.zI.gp ya
 obtain⟨r,tl,a,pos,lo,p,rfl,b,k⟩:=h;refine⟨_,(aq (aW (bx (pv 0) T.bJ T.ft (fq T) hr T.fJ (aa (bx (pv 0) T.bJ T.bZ (bY T) hr T.cf (aa (pv 1) (aa (pv 2) ai))) ai)))),?_⟩;obtain⟨dx,hr,o,m⟩:=id b
 lk
 refine jb.seq k anp (λx y u v kp i j g e d=>?_);subst e;obtain⟨n,rfl⟩:∃n:Nat,x=n:=⟨x.toNat,by have:=wz g;omega⟩
 lk
 exact d
def Kw (A:Ad) (K:ah):Sp:=λvs H Q E=>∃(r tl:ag) (told:List Int) (pos n:Nat) (rest:List Int),vs=[.ref r]/\iI A K H r tl told pos/\told.drop pos=(n:Int)::rest/\jb A K (tk.bind λn=>Wx n.toNat) alv r tl told pos H Q E
def kP:=show FO P w K mg base 3 _ _ _ (Kw A K) by
 exists T.NT.gp KA
 obtain⟨r,tl,a,pos,n,rest,rfl,d,hd,k⟩:=h;refine⟨_,(aq (aW (bx (pv 0) T.bJ T.ft (fq T) hr T.fJ (aa (fA (pv 0) T.bJ T.kq (km T) hr T.lH) ai)))),?_⟩;obtain⟨dx,hr,o,m⟩:=id d
 lk
 refine jb.seq k anp (λx u p v kp i j b g e=>?_);subst g;obtain rfl:x=(n:Int):=by rw[hd]at b;exact(kZ (ay b)).1.symm
 lk
 exact e
def mM:List (List Int):=[[0,127,0,128,191],[194,223,1,128,191],[224,224,2,160,191],[225,236,2,128,191],[237,237,2,128,159],[238,239,2,128,191],[240,240,3,144,191],[241,243,3,128,191],[244,244,3,128,143]]
def shC (z:Int) (s:List Int):Bool:=decide (s.getD 0 0<=z/\z<=s.getD 1 0)
def shapeOf (z:Int):Option (List Int):=mM.find? (shC z)
def follow (z:Int):Bool:=decide (128<=z/\z<=191)
def HK (lo hi:Int):List Int->Bool
 |[]=>true
 |c::_=>decide (lo<=c/\c<=hi)
def l8 (s l:List Int):Bool:=decide (s.getD 2 0<=l.length)&&(HK (s.getD 3 0) (s.getD 4 0) l&&l.all follow)
def Ja:Nat->List Int->Bool
 |_,[]=>true
 |0,_::_=>true
 |n+1,c::r=>match shapeOf c with
  |none=>false
  |some s=>l8 s (r.take (s.getD 2 0).toNat)&&Ja n (r.drop (s.getD 2 0).toNat)
def nJ (l:List Int):Bool:=Ja l.length l
def WD {s:List Int} (h:mM[i]? =some s):∃a b d e:Int,∃c:Nat,s=[a,b,c,d,e]/\c<=3:=by
 have m:s∈mM:=bI h;simp only[mM,aY,List.mem_nil_iff,az5]at m;rcases m with rfl|rfl|rfl|rfl|rfl|rfl|rfl|rfl|rfl
 ·exact⟨0,127,128,191,0,rfl,by decide⟩
 ·exact⟨194,223,128,191,1,rfl,by decide⟩
 ·exact⟨224,224,160,191,2,rfl,by decide⟩
 ·exact⟨225,236,128,191,2,rfl,by decide⟩
 ·exact⟨237,237,128,159,2,rfl,by decide⟩
 ·exact⟨238,239,128,191,2,rfl,by decide⟩
 ·exact⟨240,240,144,191,3,rfl,by decide⟩
 ·exact⟨241,243,128,191,3,rfl,by decide⟩
 ·exact⟨244,244,128,143,3,rfl,by decide⟩
def Ss {s:List Int} (h:shapeOf z=some s):∃a b d e:Int,∃c:Nat,s=[a,b,c,d,e]/\c<=3:=by
 obtain⟨i,g,e⟩:=oJ.mp (List.mem_of_find?_eq_some h);exact WD (i:=i) (by rw[aZ g,e])
def alo (A:Ad):List ag:=[A.Kt,A.Ks,A.Kr,A.Kq,A.Kp,A.Ko,A.Kn,A.Km,A.Kl]
theorem avN (T:Txt K mg A):∀(i:Nat) (x:V),((alo A).map V.ref)[i]? =some x->∃a s,x=.ref a/\mM[i]? =some s/\pQ K a (s.map V.int)
 |0,x,h=>⟨_,_,(ay h).symm,rfl,T.aax⟩
 |1,x,h=>⟨_,_,(ay h).symm,rfl,T.aaw⟩
 |2,x,h=>⟨_,_,(ay h).symm,rfl,T.aav⟩
 |3,x,h=>⟨_,_,(ay h).symm,rfl,T.aau⟩
 |4,x,h=>⟨_,_,(ay h).symm,rfl,T.aat⟩
 |5,x,h=>⟨_,_,(ay h).symm,rfl,T.aas⟩
 |6,x,h=>⟨_,_,(ay h).symm,rfl,T.aar⟩
 |7,x,h=>⟨_,_,(ay h).symm,rfl,T.aaq⟩
 |8,x,h=>⟨_,_,(ay h).symm,rfl,T.aap⟩
 |i+9,x,h=>by simp[alo]at h
def aaA (K:ah):Sp:=λvs H Q _=>∃z,vs=[.int z]/\(shapeOf z=none->Q .m6 H)/\∀s a,shapeOf z=some s->pQ K a (s.map V.int)->Q (.ref a) H
def aa3:=show FO P w K mg base 1 _ _ _ (aaA K) by
 exists T.UY.gp Pn
 obtain⟨z,rfl,C,y⟩:=h
 refine⟨_,(aj (j8 BC rfl (adw (l0 rfl T.agE)) (eC 1 Pn.nd)
  (aq (ee (Mt kF kF (cP fg (pv 1) bc) (pv 0) (cP fg (pv 1) bc)) (aq (aW (pv 1))) cv)))
  (aq (aW KG))),?_⟩
 have L:gL K H A.R4 ((alo A).map V.ref):=T.agb.sq H
 lk
 refine ajy (xs:=(alo A).map V.ref) (λi d b=>∃v,d=[some (.int z),v]/\b=H/\shapeOf z=(mM.drop i).find? (shC z)) ⟨_,rfl,rfl,rfl⟩ (λi d b _ ⟨_,_,e,_⟩=>by rw[e];exact L) ?_ ?_
 ·rintro i x d b D ⟨v,rfl,rfl,e⟩
  obtain⟨a,s,rfl,u,p⟩:=avN T i x D
  have hd:mM.drop i=s::mM.drop (i+1):=by
   obtain⟨J,e⟩:=aQ.mp u;rw[pM J,e]
  obtain⟨o,n,j,g,m,rfl,_⟩:=WD u;rw[hd,fT]at e;have M:=p.sq b
  lk
  ·rw[show shC z [o,n,(m:Int),j,g]=true from aD ⟨by assumption,by assumption⟩]at e;exact y _ a e p
  ·rw[show shC z [o,n,(m:Int),j,g]=false from ba (λh=>absurd h.2 (by assumption))]at e;exact e
  ·rw[show shC z [o,n,(m:Int),j,g]=false from ba (λh=>absurd h.1 (by assumption))]at e;exact e
 ·rintro d b ⟨v,rfl,rfl,e⟩
  lk
  exact C e
def axG (h:128<=z):decide (z<=191)=follow z:=by
 unfold follow;exact lg.mpr ⟨λg=>⟨h,g⟩,λg=>g.2⟩
def axF (h:¬128<=z):false=follow z:=(ba (λg=>h g.1)).symm
def Ua {F q f:Int} {B:Nat}:l8 [s0,F,(B:Int),q,f] l=(decide ((B:Int)<=l.length)&&(HK q f l&&l.all follow)):=rfl
def Yv {b c:Bool} (k:Q (.bl b) H) (e:b=c):Q (.bl c) H:=by rw[<-e];exact k
def alh (K:ah):Sp:=λvs H Q _=>∃a b s l,vs=[.ref a,.ref b]/\(∃z,shapeOf z=some s)/\pQ K a (s.map V.int)/\dv K H b (l.map V.int)/\l.length<=3/\∀H',bt H H'->Q (.bl (l8 s l)) H'
def alI:=show FO P w K mg base 1 _ _ _ (alh K) by
 exists T.aka.gp Ym
 obtain⟨a,b,M,l,rfl,⟨z,O⟩,U,S,hn,k⟩:=h
 refine⟨_,(aj (ee (cS S7 (cG eL rfl T.jG jI (aa (pv 1) ai)) (cP fg (pv 0) bc)) (aq (aW Ft)) cv)
  (aj (ee (PW.pt (Yw (SQ (pv 1) (λ_=>rfl)) (RI (ki (Mt kF kF (cP fg (pv 0) bc) (cP dW (pv 1) bc) (cP fg (pv 0) bc)))))) (aq (aW Ft)) cv)
  (aq (aW (cG (OW rfl) rfl T.OG O0 (aa (oN (own:=[("follower",2)]) rfl Ym.nd (jO (pv 1)) (jq rfl) (λ_ _ _ _ _=>(eC 2 Ym.nd)) (λ_ _ _ _ _=>oA) (λ_ _ _ _ _=>(Fq kF kF bc (pv 2) bc))) ai)))))),?_⟩
 obtain⟨B,M,p,o,u,rfl,_⟩:=Ss O;have hq:=U.sq H;have L:(l.map V.int).length=l.length:=ae ..;have F:=k H (bt.refl H);by_cases hc:l.length<u
 ·lk
  exact Yv F (by rw[Ua,ba (by omega),cq])
 ·have I:HK p o l=true->l8 [B,M,(u:Int),p,o] l=l.all follow:=λh=>by
   rw[Ua,aD (show(u:Int)<=l.length by omega),h,bM,bM]
  have bad:HK p o l=false->l8 [B,M,(u:Int),p,o] l=false:=λh=>by
   rw[Ua,h,cq,eU]
  have m:∀{g:TG} {X:TT} {f:TE} {vs:List Nat} {C:L2.St} {Q':VK},HK p o l=true->(∀D i z d,Pa H D (l.map V.int) (λ_=>true) (λv=>V.bl (follow (intOf v))) i d->(l.map V.int)[i]? =some (V.int z)->g (.int z) (wipe C vs) d fun J H2=>wipe J vs=wipe C vs/\X J H2 λb G=>if b=true then f J G (jJ D (Pa H D (l.map V.int) (λ_=>true) (λv=>V.bl (follow (intOf v))) (i+1)))else Pa H D (l.map V.int) (λ_=>true) (λv=>V.bl (follow (intOf v))) (i+1) G)->
   (∀D d (bs:List Bool),d D=some (.lst (bs.map V.bl))->Q (.bl (bs.all id)) d->Q' (.ref D) d)->LcI (Itl K b) g X f vs C H Q':=λy h1 h2=>by
   refine abB (λ_=>true) (λv=>V.bl (follow (intOf v))) S (by rw[L];exact dY (dO (by omega))) (λD i x d _ n h=>?_) (λD d hD Y e=>?_)
   ·obtain⟨z,rfl,_⟩:=RM n;exact h1 D i z d h n
   ·rw[abz (λ_=>rfl)]at e;exact h2 D d _ e (by rw[all_map,<-I y];exact k d Y)
  cases l with
  |nil=>
   have hT:aci K (.ref b) H false:=.inl ⟨_,S,rfl⟩
   lk
   refine m rfl (λD i z d h n=>?_) (λD d bs e q=>?_)
   ·simp at n
   ·have sq:dv K d D (bs.map V.bl):=dv.of e
    lk
    exact q
  |cons c r=>
   have hT:aci K (.ref b) H true:=.inl ⟨_,S,rfl⟩;have Z:ky ((c::r).map V.int) 0=some (V.int c):=bD (j:=0) rfl;by_cases y:p<=c/\c<=o
   ·lk
    refine m (aD y) (λD i z d h n=>?_) (λD d bs e q=>?_)
    ·lk
     ·exact h.next n rfl (bt.refl _) (by rw[L];exact dY (dO (by omega))) (cK V.bl (axG (by assumption)))
     ·exact h.next n rfl (bt.refl _) (by rw[L];exact dY (dO (by omega))) (cK V.bl (axF (by assumption)))
    ·have sq:dv K d D (bs.map V.bl):=dv.of e
     lk
     exact q
   ·lk
    all_goals exact Yv F (bad (ba y))
theorem RZ:∀(n m:Nat) (l:List Int),l.length<=n->l.length<=m->Ja n l=Ja m l
 |n,m,[],_,_=>by cases n<;>cases m<;>rfl
 |0,m,c::r,h,_=>by simp at h
 |n+1,0,c::r,_,h=>by simp at h
 |n+1,m+1,c::r,h1,f=>by
  unfold Ja;cases shapeOf c with
  |none=>rfl
  |some s=>
   simp only[ak]at h1 f;have e:=RZ n m (r.drop (s.getD 2 0).toNat) (by rw[eh];omega) (by rw[eh];omega);simp only[e]
def Wu {c:Int} {r:List Int} (h:shapeOf c=none):nJ (c::r)=false:=by
 show Ja (r.length+1) (c::r)=false;unfold Ja;rw[h]
def wd {c:Int} {r s:List Int} (h:shapeOf c=some s):nJ (c::r)=(l8 s (r.take (s.getD 2 0).toNat)&&nJ (r.drop (s.getD 2 0).toNat)):=by
 show Ja (r.length+1) (c::r)=_;unfold Ja;rw[h];show(l8 s (r.take (s.getD 2 0).toNat)&&Ja r.length (r.drop (s.getD 2 0).toNat))=_;rw[RZ r.length _ _ (by rw[eh];omega) (aS _)];rfl
def amB {a b:Nat} (f:a<=told.length) (q:a<=b):Ur (told.map V.int) (some (a:Int)) (some (b:Int))=((told.drop a).take (b - a)).map V.int:=by
 unfold Ur;rw[HT.Mm,HT.Mm,ae,nG f,acY,aqH];by_cases h:b<=told.length
 ·rw[nG h]
 ·rw[Nat.min_eq_right (by omega),mq (by rw[eh,ae];omega),mq (by rw[eh,ae];omega)]
def adh (K:ah):Sp:=λvs H Q _=>∃b l,vs=[.ref b]/\dv K H b (l.map V.int)/\∀H',bt H H'->Q (.bl (nJ l)) H'
def Tb:=show FO P w K mg base 2 _ _ _ (adh K) by
 exists T.Pc.gp wH
 obtain⟨b,l,rfl,O,k⟩:=h
 refine⟨_,(aj (bS 1 wH.nd bc)
  (aj (Ow BC (cS S7 (pv 1) (cG eL rfl T.jG jI (aa (pv 0) ai)))
  (aj (bS 2 wH.nd (bN (aa3 T) hr T.abl T.UY.kp T.aeo (aa (cP dW (pv 0) (pv 1)) ai)))
  (aj (ee (Bz (YE (pv 2))) (aq (aW Ft)) cv)
  (aj (bS 3 wH.nd (gi kl (gi kl (pv 1) bc) (cP fg (pv 2) bc)))
  (aj (ee (ki (iG (bN (alI T) hr T.alX T.aka.kp T.apE (aa (pv 2) (aa (SV Yg (pv 0) (Mu (gi kl (pv 1) bc)) (Mu (pv 3))) ai))))) (aq (aW Ft)) cv)
  (aq (bS 1 wH.nd (pv 3))))))))
  (aq (aW Ft)))),?_⟩
 have X:(l.map V.int).length=l.length:=ae ..
 lk
 refine ac3 (λm C Z=>∃(pos:Nat) (L J:Option V),C=[some (.ref b),some (.int pos),L,J]/\m=l.length - pos/\bt H Z/\pos<=l.length+3/\nJ l=nJ (l.drop pos)) ⟨_,0,none,none,rfl,rfl,bt.refl _,eI _,rfl⟩ ?_
 rintro m C u ⟨pos,L,J,rfl,rfl,p,hp,e⟩
 have ó:=p.seq O;have X:(l.map V.int).length=l.length:=ae ..;rcases hd:l.drop pos with _|⟨c,r⟩
 ·rw[hd]at e;have:l.length<=pos:=List.drop_eq_nil_iff.mp hd
  lk
  exact Yv (k u p) e
 ·obtain⟨Y,S,h3⟩:=drop_cons hd;have hv:=afL Y
  lk
  refine⟨λM=>?_,λs2 a z F=>?_⟩
  ·lk
   exact Yv (k u p) (by rw[e,hd,Wu M])
  ·obtain⟨j,i,g,d,n,rfl,M⟩:=Ss z;have hq:=F.sq u
   have B:Ur (l.map V.int) (some ((pos:Int)+1)) (some ((pos:Int)+1+(n:Int)))=((r.take n)).map V.int:=by
    have:=amB (told:=l) (a:=pos+1) (b:=pos+1+n) (by omega) (by omega);rw[S,jv]at this;exact this
   have I:(r.take n).length<=3:=by rw[b7];omega
   lk
   intro q f;rw[B];have U:=bt.new (o:=.lst ((r.take n).map V.int)) f;have G:dv K (bB u q (.lst ((r.take n).map V.int))) q ((r.take n).map V.int):=dv.of ao
   lk
   intro H2 y;have D:bt H H2:=(p.trans U).trans y
   lk
   ·rename_i x
    exact Yv (k H2 D) (by rw[e,hd,wd z];show(l8 [j,i,(n:Int),g,d] (r.take n)&&_)=false;rw[show l8 [j,i,(n:Int),g,d] (r.take n)=false by simpa using x,cq])
   ·rename_i x
    refine less (m':=l.length - (pos+1+n)) (by omega) ⟨pos+1+n,_,_,rfl,rfl,D,by omega,?_⟩;rw[e,hd,wd z];show(l8 [j,i,(n:Int),g,d] (r.take n)&&nJ (r.drop n))=_;rw[show l8 [j,i,(n:Int),g,d] (r.take n)=true by simpa using x,bM,<-apW,S]
def N4 (l:List Int):Bool:=decide (1<=l.length/\l.length<=64)&&(l.all (λz=>decide (32<=z))&&nJ l)
def adE (z:Int):Bool:=decide ((65<=z/\z<=90)\/z=95)
def nmB (z:Int):Bool:=decide (((65<=z/\z<=90)\/z=95)\/(48<=z/\z<=57)\/z=46)
def Jx (l:List Int):Bool:=decide (1<=l.length/\l.length<=64)&&(adE (l.headD 0)&&l.all nmB)
def Ou:R Unit:=(R1 1 64).bind λl=>if Jx l=true then R.pure ()else R.fail
def Bx (lo hi:Int):R Unit:=(R1 lo hi).bind λl=>if nJ l=true then R.pure ()else R.fail
def aaE (K:ah):Sp:=λvs H Q _=>∃b l,vs=[.ref b]/\dv K H b (l.map V.int)/\∀H',bt H H'->Q (.bl (N4 l)) H'
def aa4:=show FO P w K mg base 3 _ _ _ (aaE K) by
 exists T.UZ.gp aaJ
 obtain⟨b,l,rfl,p,k⟩:=h
 refine⟨_,(aj (ee (ki (Mt kF kF bc (cG eL rfl T.jG jI (aa (pv 0) ai)) (bE rfl T.Av))) (aq (aW Ft)) cv)
  (aq (aW (Ox (qf arv (cG (Zr rfl) rfl T.Tq Uu (aa (pv 0) ai)) bc) (BB (bN (Tb T) hr T.Tu T.Pc.kp T.XE (aa (pv 0) ai))))))),?_⟩
 have o:(l.map V.int).length=l.length:=ae ..;have e:=k H (bt.refl H);by_cases a:1<=l.length/\l.length<=64
 ·have u:0<l.length:=a.1
  lk
  intro m j d
  lk
  ·intro n i;refine Yv (k n i) ?_;unfold N4;rw[aD a,bM,eA.mpr (λz g=>aD (by have:=d z g;omega)),bM]
  ·refine Yv e ?_;unfold N4;rw[DF.mpr (λh=>absurd (cb (eA.mp h m j)) (by assumption)),cq,eU]
 ·lk
  all_goals exact Yv e (by unfold N4;rw[ba a,cq])
def LR:Sp:=λvs H Q _=>∃z,vs=[.int z]/\Q (.bl (adE z)) H
def yw:=show FO P w K mg base 1 _ _ _ LR by
 exists T.sL.gp L1
 obtain⟨z,rfl,k⟩:=h
 exists (aq (aW (afe (Fq kF kF (Hw (n:=65) rfl T.OF) (pv 0) (Hw (n:=90) rfl T.OF)) (BB (qf i7 (pv 0) (Hw (n:=95) rfl T.OF)))))),0
 all_goals walk_at "b"
def LS:Sp:=λvs H Q _=>∃z,vs=[.int z]/\Q (.bl (nmB z)) H
def Mz:=show FO P w K mg base 2 _ _ _ LS by
 exists T.A4.gp L3
 obtain⟨z,rfl,k⟩:=h
 exists (aq (aW (afe (bN (yw T) hr T.yC T.sL.kp T.AV (aa (pv 0) ai)) (afe (Fq kF kF (Hw (n:=48) rfl T.OF) (pv 0) (Hw (n:=57) rfl T.OF)) (BB (qf i7 (pv 0) (Hw (n:=46) rfl T.OF))))))),0
 all_goals walk_at "b"
def adi (K:ah):Sp:=λvs H Q _=>∃b l,vs=[.ref b]/\dv K H b (l.map V.int)/\∀H',bt H H'->Q (.bl (Jx l)) H'
def Tc:=show FO P w K mg base 3 _ _ _ (adi K) by
 exists T.Pd.gp Kz
 obtain⟨b,l,rfl,u,k⟩:=h
 refine⟨_,(aj (ee (ki (Mt kF kF bc (cG eL rfl T.jG jI (aa (pv 0) ai)) (bE rfl T.C6))) (aq (aW Ft)) cv)
  (aq (aW (Ox (bN (yw T) hr T.yC T.sL.kp T.AV (aa (cP dW (pv 0) bc) ai)) (BB (cG (OW rfl) rfl T.OG O0 (aa (oN (own:=[("octet",1)]) rfl Kz.nd (jO (pv 0)) (jq rfl) (λ_ _ _ _ _=>(eC 1 Kz.nd)) (λ_ _ _ _ _=>oA) (λ_ _ _ _ _=>(bN (Mz T) hr T.MH T.A4.kp T.O1 (aa (pv 1) ai)))) ai))))))),?_⟩
 have g:(l.map V.int).length=l.length:=ae ..;have m:=k H (bt.refl H);by_cases a:1<=l.length/\l.length<=64
 ·cases l with
  |nil=>simp at a
  |cons c r=>
   have y:ky ((c::r).map V.int) 0=some (V.int c):=bD (j:=0) rfl;by_cases o:(65<=c/\c<=90)\/c=95
   ·lk
    refine abB (λ_=>true) (λv=>V.bl (nmB (intOf v))) u (by rw[g];exact dY (dO (by omega))) (λD i x d _ n h=>?_) (λD d C p e=>?_)
    ·obtain⟨z,rfl,_⟩:=RM n
     lk
     exact h.next n rfl (bt.refl _) (by rw[g];exact dY (dO (by omega))) rfl
    ·rw[abz (λ_=>rfl)]at e;have sq:dv K d D (((c::r).map nmB).map V.bl):=dv.of e
     lk
     refine Yv (k d p) ?_;rw[all_map];unfold Jx;rw[aD a,show adE ((c::r).headD 0)=true from aD o,bM,bM]
   ·lk
    all_goals exact Yv m (by unfold Jx;rw[show adE ((c::r).headD 0)=false from ba o,cq,eU])
 ·lk
  all_goals exact Yv m (by unfold Jx;rw[ba a,cq])
def BF:=show FO P w K mg base 5 _ _ _ (d8 A K Ou Bv) by
 exists T.y8.gp Yk
 obtain⟨r,tl,d,pos,rfl,j,k⟩:=h;refine⟨_,(aq (ee (ki (iG (bN (Tc T) hr T.Tv T.Pd.kp T.XF (aa (bx (pv 0) T.bJ T.m7 (mZ T) hr T.oo (aa bc (aa (bE rfl T.C6) ai))) ai)))) (aq (tM yu T.fH rfl rfl (aa BA ai))) cv)),?_⟩;obtain⟨dx,hr,z,y⟩:=id j
 lk
 refine jb.seq (p:=R1 1 64) (f:=λl=>if Jx l=true then R.pure ()else R.fail) k F3 (λx n C v kp i o J m e=>?_);obtain⟨q,rfl,u,g⟩:=m;have sq:dv K n q (x.map V.int):=dv.of g
 lk
 intro D a
 lk
 ·rename_i b
  exact e.bad (by rw[au (by simpa using b)];rfl) (cJ.same a)
 ·rename_i b
  exact e.good (by rw[az (by simpa using b)];rfl) (cJ.same a) (i.keep a) rfl (aS _) rfl
def X7 (A:Ad) (K:ah):Sp:=λvs H Q E=>∃(r tl:ag) (told:List Int) (pos lo:Nat) (hi:Int),vs=[.ref r,.int lo,.int hi]/\iI A K H r tl told pos/\jb A K (Bx lo hi) Bv r tl told pos H Q E
def Mw:=show FO P w K mg base 5 _ _ _ (X7 A K) by
 exists T.G3.gp Yh
 obtain⟨r,tl,d,pos,lo,n,rfl,j,k⟩:=h;refine⟨_,(aq (ee (ki (iG (bN (Tb T) hr T.Tu T.Pc.kp T.XE (aa (bx (pv 0) T.bJ T.m7 (mZ T) hr T.oo (aa (pv 1) (aa (pv 2) ai))) ai)))) (aq (tM yu T.fH rfl rfl (aa BA ai))) cv)),?_⟩;obtain⟨dx,hr,C,z⟩:=id j
 lk
 refine jb.seq (p:=R1 lo n) (f:=λl=>if nJ l=true then R.pure ()else R.fail) k F3 (λx o D v kp i u L m e=>?_);obtain⟨q,rfl,y,g⟩:=m;have sq:dv K o q (x.map V.int):=dv.of g
 lk
 intro J a
 lk
 ·rename_i b
  exact e.bad (by rw[au (by simpa using b)];rfl) (cJ.same a)
 ·rename_i b
  exact e.good (by rw[az (by simpa using b)];rfl) (cJ.same a) (i.keep a) rfl (aS _) rfl
def aaW:R Unit:=(oz (1 - 1000000000000000000000000000000000000) (1000000000000000000000000000000000000 - 1)).bind λ_=>R.pure ()
def adu:R Unit:=Bx 0 4096
def Mo:R Unit:=(oz 0 1).bind λ_=>R.pure ()
def Mp:R Unit:=(oz 1 8).bind λ_=>R.pure ()
def rdV (k:Int):R Unit:=if k=0 then R.pure ()else if k=1 then aaW else if k=2 then adu else if k=3 then Mo else Mp
def mP (f:Int):R Unit:=(oz f 4).bind rdV
def sy:R Unit:=mP 1
def Hu:R Unit:=(oz 0 64).bind λ_=>R.pure ()
def Fj:R Unit:=(oz 0 1).bind λ_=>tk.bind λ_=>(oz 0 1).bind λ_=>tk.bind λ_=>R.pure ()
def Fl (p:R Unit):Nat->R Unit
 |0=>R.pure ()
 |n+1=>p.bind λ_=>Fl p n
def fr0:R Int:=sy.bind λ_=>R.pure 0
def fr1:R Int:=Hu.bind λ_=>Fj.bind λ_=>R.pure 0
def fr2:R Int:=Hu.bind λ_=>Fj.bind λ_=>Fj.bind λ_=>R.pure 0
def fr3:R Int:=Ou.bind λ_=>R.pure 0
def fr4:R Int:=Ou.bind λ_=>(Bx 1 64).bind λ_=>(oz 0 9).bind λ_=>R.pure 0
def fr5:R Int:=(oz 20 22).bind λ_=>R.pure 1
def fr6:R Int:=(oz 1 12).bind λ_=>R.pure 2
def fr7:R Int:=Ou.bind λ_=>oz 0 64
def fr8:R Int:=(oz 1 64).bind λr=>(oz 1 64).bind λc=>(Fl sy (r * c).toNat).bind λ_=>R.pure 0
def jb.end {α:Type} {x:α} {ret:α->Hp->Hp->V->Prop} {r:ag} {pos:Nat} (k:jb A K (R.pure x) ret r tl told pos H Q E) (q:iI A K H r tl told pos) (s:bt H H') (f:ret x H H' v):Q v H':=
 k.good rfl (cJ.same s) (q.keep s) rfl (aS _) f
def R.bind_assoc {α q B:Type} (p:R α) (f:α->R q) (g:q->R B):(p.bind f).bind g=p.bind λx=>(f x).bind g:=by
 funext l
 unfold R.bind;cases p l<;>rfl
def jb.wk {α:Type} {p:R α} {ret:α->Hp->Hp->V->Prop} {r:ag} {pos:Nat} (k:jb A K p ret r tl told pos H Q E) (h:∀x v q,ret x H q v->Q v q->Q' v q):jb A K p ret r tl told pos H Q' E:=by
 unfold jb at k⊢;cases e:p (told.drop pos)with
 |none=>rw[e]at k;exact k
 |some y=>rw[e]at k;exact λi g v a b c d f=>h _ _ _ f (k i g v a b c d f)
def jb.wkN {α:Type} {p:R α} {r:ag} {pos:Nat} (k:jb A K p Bv r tl told pos H Q E) (h:∀f,Q .m6 f->Q' .m6 f):jb A K p Bv r tl told pos H Q' E:=k.wk λx v f e q=>by(cases e;exact h f q)
def Q3:=show FO P w K mg base 1 _ _ _ (d8 A K (R.pure ()) Bv) by
 exists T.G4.gp QU
 obtain⟨r,tl,a,pos,rfl,b,k⟩:=h
 exists (aq alB),0
 exact k.end b (bt.refl _) rfl
def S9:=show FO P w K mg base 4 _ _ _ (d8 A K aaW Bv) by
 exists T.J3.gp Sz
 obtain⟨r,tl,a,pos,rfl,d,k⟩:=h;refine⟨_,(aq (cC (bx (pv 0) T.bJ T.bZ (bY T) hr T.cf (aa (gi lP bc (bE rfl T.FK)) (aa (gi lP (bE rfl T.FK) bc) ai))))),?_⟩;obtain⟨dx,hr,m,j⟩:=id d
 lk
 refine jb.seq k F3 (λx o n v kp b g p i e=>?_)
 lk
 exact e.end b (bt.refl _) rfl
def YI:=show FO P w K mg base 6 _ _ _ (d8 A K adu Bv) by
 exists T.Qy.gp Yi
 obtain⟨r,tl,a,pos,rfl,b,k⟩:=h;refine⟨_,(aq (cC (bN (Mw T) hr T.ME T.G3.kp T.Qu (aa (pv 0) (aa bc (aa (bE rfl T.Rf) ai)))))),?_⟩;refine⟨_,rfl,r,tl,a,pos,0,4096,rfl,b,?_⟩;exact k.wkN λ_ q=>q
def VF:=show FO P w K mg base 4 _ _ _ (d8 A K Mo Bv) by
 exists T.NL.gp Vv
 obtain⟨r,tl,a,pos,rfl,d,k⟩:=h;refine⟨_,(aq (cC (bx (pv 0) T.bJ T.bZ (bY T) hr T.cf (aa bc (aa bc ai))))),?_⟩;obtain⟨dx,hr,m,j⟩:=id d
 lk
 refine jb.seq k F3 (λx o n v kp b g p i e=>?_)
 lk
 exact e.end b (bt.refl _) rfl
def VG:=show FO P w K mg base 4 _ _ _ (d8 A K Mp Bv) by
 exists T.NM.gp Vx
 obtain⟨r,tl,a,pos,rfl,d,k⟩:=h;refine⟨_,(aq (cC (bx (pv 0) T.bJ T.bZ (bY T) hr T.cf (aa bc (aa bc ai))))),?_⟩;obtain⟨dx,hr,m,j⟩:=id d
 lk
 refine jb.seq k F3 (λx o n v kp b g p i e=>?_)
 lk
 exact e.end b (bt.refl _) rfl
inductive UX (A:Ad) (K:ah):ag->Sp->Prop
 |c0:UX A K A.qt (d8 A K (R.pure ()) Bv)
 |c1:UX A K A.sW (d8 A K aaW Bv)
 |c2:UX A K A.yM (d8 A K adu Bv)
 |c3:UX A K A.vT (d8 A K Mo Bv)
 |c4:UX A K A.vU (d8 A K Mp Bv)
def as9:∀f sp,UX A K f sp->FnAt P w K mg base (RT P w) 6 f ["reader"] sp:=by
 intro f sp h;cases h with
 |c0=>exact⟨⟨_,(Q3 T).mono (by decide),T.Ux⟩,T.G4.kp⟩
 |c1=>exact⟨⟨_,(S9 T).mono (by decide),T.VY⟩,T.J3.kp⟩
 |c2=>exact⟨⟨_,(YI T).mono (by decide),T.ab8⟩,T.Qy.kp⟩
 |c3=>exact⟨⟨_,(VF T).mono (by decide),T.Zy⟩,T.NL.kp⟩
 |c4=>exact⟨⟨_,(VG T).mono (by decide),T.Zz⟩,T.NM.kp⟩
def Vm (A:Ad) (K:ah):Sp:=λvs H Q E=>∃(r tl:ag) (told:List Int) (pos:Nat) (lo:Int),vs=[.ref r,.int lo]/\0<=lo/\iI A K H r tl told pos/\jb A K (mP lo) Bv r tl told pos H Q E
def Jt:=show FO P w K mg base 7 _ _ _ (Vm A K) by
 exists T.Cw.gp zk
 obtain⟨r,tl,a,pos,lo,rfl,i,b,k⟩:=h
 refine⟨_,(aj (bS 2 zk.nd (bx (pv 0) T.bJ T.bZ (bY T) hr T.cf (aa (pv 1) (aa (gi lP (cG eL rfl T.jG jI (aa (l0 rfl T.As) ai)) bc) ai))))
  (aj (bS 3 zk.nd (cP fg (l0 rfl T.As) (pv 2)))
  (aq (cC (SX (Fs:=UX A K) (as9 T) (hr.mono (by decide)) Fu (pv 3) (aa (pv 0) ai)))))),?_⟩
 obtain⟨dx,hr,C,z⟩:=id b;have D:=T.zR.sq H
 lk
 refine jb.seq (p:=oz lo 4) (f:=rdV) k F3 (λx m J v kp u y n g d=>?_);subst g;have j:=T.zR.sq m;obtain⟨e,o⟩:=wz n;obtain rfl|rfl|rfl|rfl|rfl:x=0\/x=1\/x=2\/x=3\/x=4:=by omega
 all_goals (lk)
 all_goals exact jb.wkN d (λ_ q=>q)
def wX:=show FO P w K mg base 8 _ _ _ (d8 A K sy Bv) by
 exists T.qX.gp Ky
 obtain⟨r,tl,a,pos,rfl,b,k⟩:=h;refine⟨_,(aq (cC (bN (Jt T) hr T.Jy T.Cw.kp T.Nr (aa (pv 0) (aa (gi kl (bE rfl T.TC) bc) ai))))),?_⟩;obtain⟨dx,hr,e,d⟩:=id b
 lk
 exact jb.wkN k (λ_ q=>q)
def Ju:=show FO P w K mg base 4 _ _ _ (d8 A K Hu Bv) by
 exists T.Cy.gp Vw
 obtain⟨r,tl,a,pos,rfl,d,k⟩:=h;refine⟨_,(aq (cC (bx (pv 0) T.bJ T.bZ (bY T) hr T.cf (aa bc (aa (bE rfl T.xa) ai))))),?_⟩;obtain⟨dx,hr,m,j⟩:=id d
 lk
 refine jb.seq k F3 (λx o n v kp b g p i e=>?_)
 lk
 exact e.end b (bt.refl _) rfl
def BE:=show FO P w K mg base 4 _ _ _ (d8 A K Fj Bv) by
 exists T.y6.gp Yj
 obtain⟨r,tl,j,pos,rfl,p,k⟩:=h
 refine⟨_,(aj (cC (bx (pv 0) T.bJ T.bZ (bY T) hr T.cf (aa bc (aa bc ai))))
  (aj (cC (fA (pv 0) T.bJ T.kq (km T) hr T.lH))
  (aj (cC (bx (pv 0) T.bJ T.bZ (bY T) hr T.cf (aa bc (aa bc ai))))
  (aq (cC (fA (pv 0) T.bJ T.kq (km T) hr T.lH)))))),?_⟩
 obtain⟨dx,hr,g,e⟩:=id p
 lk
 refine jb.seq k F3 (λx f J v kp o a i b C=>?_);obtain⟨dx,hr,g,e⟩:=id o
 lk
 refine jb.seq C F3 (λx X D v kp m a i b z=>?_);obtain⟨dx,hr,g,e⟩:=id m
 lk
 refine jb.seq z F3 (λx S q v kp n a i b y=>?_);obtain⟨dx,hr,g,e⟩:=id n
 lk
 refine jb.seq y F3 (λx M L v kp d a i b u=>?_)
 lk
 exact u.end d (bt.refl _) rfl
def OB:=show FO P w K mg base 9 _ _ _ (d8 A K fr0 wV) by
 exists T.Dy.gp Oi
 obtain⟨r,tl,a,pos,rfl,e,k⟩:=h
 exists (aj (cC (bN (wX T) hr T.w8 T.qX.kp T.yY (aa (pv 0) ai)))
  (aq (aW bc))),0
 refine jb.seq k tW (λx m j v kp b g n i d=>?_)
 lk
 exact d.end b (bt.refl _) rfl
def BG:=show FO P w K mg base 5 _ _ _ (d8 A K fr1 wV) by
 exists T.si.gp Bo
 obtain⟨r,tl,a,pos,rfl,o,k⟩:=h
 exists (aj (cC (bN (Ju T) hr T.Jz T.Cy.kp T.Nt (aa (pv 0) ai)))
  (aj (cC (bN (BE T) hr T.BU T.y6.kp T.GD (aa (pv 0) ai)))
  (aq (aW bc)))),0
 refine jb.seq k tW (λx y p v kp m d j i g=>?_)
 lk
 refine jb.seq g tW (λx u n v kp b d j i e=>?_)
 lk
 exact e.end b (bt.refl _) rfl
def BH:=show FO P w K mg base 5 _ _ _ (d8 A K fr2 wV) by
 exists T.sj.gp Bp
 obtain⟨r,tl,a,pos,rfl,u,k⟩:=h
 exists (aj (cC (bN (Ju T) hr T.Jz T.Cy.kp T.Nt (aa (pv 0) ai)))
  (aj (cC (bN (BE T) hr T.BU T.y6.kp T.GD (aa (pv 0) ai)))
  (aj (cC (bN (BE T) hr T.BU T.y6.kp T.GD (aa (pv 0) ai)))
  (aq (aW bc))))),0
 refine jb.seq k tW (λx D y v kp o b e d m=>?_)
 lk
 refine jb.seq m tW (λx C p v kp n b e d j=>?_)
 lk
 refine jb.seq j tW (λx z J v kp g b e d i=>?_)
 lk
 exact i.end g (bt.refl _) rfl
def Ip:=show FO P w K mg base 6 _ _ _ (d8 A K fr3 wV) by
 exists T.xK.gp Ii
 obtain⟨r,tl,a,pos,rfl,e,k⟩:=h
 exists (aj (cC (bN (BF T) hr T.BV T.y8.kp T.GF (aa (pv 0) ai)))
  (aq (aW bc))),0
 refine jb.seq k tW (λx m j v kp b g n i d=>?_)
 lk
 exact d.end b (bt.refl _) rfl
def Fx:=show FO P w K mg base 6 _ _ _ (d8 A K fr4 wV) by
 exists T.vF.gp EW
 obtain⟨r,tl,a,pos,rfl,z,k⟩:=h
 exists (aj (cC (bN (BF T) hr T.BV T.y8.kp T.GF (aa (pv 0) ai)))
  (aj (cC (bN (Mw T) hr T.ME T.G3.kp T.Qu (aa (pv 0) (aa bc (aa (bE rfl T.Av) ai)))))
  (aj (cC (bx (pv 0) T.bJ T.bZ (bY T) hr T.cf (aa bc (aa bc ai))))
  (aq (aW bc))))),0
 refine jb.seq k tW (λx M u v kp j b e d o=>?_);refine⟨_,rfl,r,tl,a,u,1,64,rfl,j,?_⟩;refine jb.seq (p:=Bx 1 64) o tW (λx L y v kp g b e d n=>?_);obtain⟨dx,hr,D,C⟩:=id g
 lk
 refine jb.seq n tW (λx J S v kp i b e d m=>?_)
 lk
 exact m.end i (bt.refl _) rfl
def zq:=show FO P w K mg base 4 _ _ _ (d8 A K fr5 wV) by
 exists T.pI.gp zm
 obtain⟨r,tl,a,pos,rfl,d,k⟩:=h
 refine⟨_,(aj (cC (bx (pv 0) T.bJ T.bZ (bY T) hr T.cf (aa bc (aa bc ai))))
  (aq (aW bc))),?_⟩
 obtain⟨dx,hr,m,j⟩:=id d
 lk
 refine jb.seq k tW (λx o n v kp b g p i e=>?_)
 lk
 exact e.end b (bt.refl _) rfl
def zp:=show FO P w K mg base 4 _ _ _ (d8 A K fr6 wV) by
 exists T.pH.gp zl
 obtain⟨r,tl,a,pos,rfl,d,k⟩:=h
 refine⟨_,(aj (cC (bx (pv 0) T.bJ T.bZ (bY T) hr T.cf (aa bc (aa bc ai))))
  (aq (aW bc))),?_⟩
 obtain⟨dx,hr,m,j⟩:=id d
 lk
 refine jb.seq k tW (λx o n v kp b g p i e=>?_)
 lk
 exact e.end b (bt.refl _) rfl
def OA:=show FO P w K mg base 6 _ _ _ (d8 A K fr7 wV) by
 exists T.Dx.gp Oh
 obtain⟨r,tl,a,pos,rfl,e,k⟩:=h
 exists (aj (cC (bN (BF T) hr T.BV T.y8.kp T.GF (aa (pv 0) ai)))
  (aq (aW (bx (pv 0) T.bJ T.bZ (bY T) hr T.cf (aa bc (aa (bE rfl T.MK) ai)))))),0
 refine jb.seq k tW (λx o n v kp b g p i d=>?_);obtain⟨dx,hr,m,j⟩:=id b
 lk
 exact d
def VH:=show FO P w K mg base 9 _ _ _ (d8 A K fr8 wV) by
 exists T.NN.gp sR
 obtain⟨r,tl,b,pos,rfl,q,k⟩:=h
 refine⟨_,(aj (bS 1 sR.nd (bx (pv 0) T.bJ T.bZ (bY T) hr T.cf (aa bc (aa (bE rfl T.C5) ai))))
  (aj (bS 2 sR.nd (bx (pv 0) T.bJ T.bZ (bY T) hr T.cf (aa bc (aa (bE rfl T.C5) ai))))
  (aj (j8 BC rfl (WR rfl T.Tp (aa (gi adA (pv 1) (pv 2)) ai)) (eC 3 sR.nd)
  (aq (cC (bN (wX T) hr T.w8 T.qX.kp T.yY (aa (pv 0) ai)))))
  (aq (aW bc))))),?_⟩
 obtain⟨dx,hr,I,C⟩:=id q
 lk
 refine jb.seq k tW (λx H1 fN v kp X z Z e G=>?_);subst e;obtain⟨dx,hr,I,C⟩:=id X
 lk
 refine jb.seq G tW (λy H2 f v kp J z S e F=>?_);subst e;obtain⟨a0,U⟩:=wz Z;obtain⟨b0,O⟩:=wz S;have D:ake x y:=.inl ⟨by omega,by omega⟩;have m0:0<=x * y:=CH (by omega) (by omega)
 have m1:x * y<=4096:=by
  have:=Int.mul_le_mul U O (by omega) (by decide);omega
 lk
 refine ad4 (n:=(x * y).toNat) (λi j g=>∃a o,j=[some (.ref r),some (.int x),some (.int y),o]/\iI A K g r tl b a/\jb A K ((Fl sy ((x * y).toNat - i)).bind λ_=>R.pure 0) wV r tl b a g Q E) ⟨f,none,rfl,J,F⟩ ?_ ?_
 ·rintro i j g hi ⟨a,o,rfl,p,d⟩
  obtain⟨m,D⟩:∃m,(x * y).toNat - i=m+1:=⟨(x * y).toNat - i - 1,by omega⟩;have M:(x * y).toNat - (i+1)=m:=by omega
  rw[D,show Fl sy (m+1)=sy.bind λ_=>Fl sy m from rfl,R.bind_assoc]at d
  lk
  refine jb.seq d tW (λu H3 Y v kp L z C e B=>?_);refine⟨Y,_,rfl,L,?_⟩;rw[M];exact B
 ·rintro j g ⟨a,o,rfl,p,d⟩
  rw[Vf]at d
  lk
  exact jb.end (x:=(0:Int)) d p (bt.refl _) rfl
inductive Dv (A:Ad) (K:ah):ag->Sp->Prop
 |c0:Dv A K A.lz (d8 A K fr0 wV)
 |c1:Dv A K A.hR (d8 A K fr1 wV)
 |c2:Dv A K A.hU (d8 A K fr2 wV)
 |c3:Dv A K A.jn (d8 A K fr3 wV)
 |c4:Dv A K A.i3 (d8 A K fr4 wV)
 |c5:Dv A K A.gA (d8 A K fr5 wV)
 |c6:Dv A K A.gy (d8 A K fr6 wV)
 |c7:Dv A K A.ly (d8 A K fr7 wV)
 |c8:Dv A K A.qv (d8 A K fr8 wV)
def ata:∀f sp,Dv A K f sp->FnAt P w K mg base (RT P w) 9 f ["reader"] sp:=by
 intro f sp h;cases h with
 |c0=>exact⟨⟨_,(OB T).mono (by decide),T.Rk⟩,T.Dy.kp⟩
 |c1=>exact⟨⟨_,(BG T).mono (by decide),T.D6⟩,T.si.kp⟩
 |c2=>exact⟨⟨_,(BH T).mono (by decide),T.D7⟩,T.sj.kp⟩
 |c3=>exact⟨⟨_,(Ip T).mono (by decide),T.K7⟩,T.xK.kp⟩
 |c4=>exact⟨⟨_,(Fx T).mono (by decide),T.ID⟩,T.vF.kp⟩
 |c5=>exact⟨⟨_,(zq T).mono (by decide),T.AU⟩,T.pI.kp⟩
 |c6=>exact⟨⟨_,(zp T).mono (by decide),T.AS⟩,T.pH.kp⟩
 |c7=>exact⟨⟨_,(OA T).mono (by decide),T.Rj⟩,T.Dx.kp⟩
 |c8=>exact⟨⟨_,(VH T).mono (by decide),T.ZA⟩,T.NN.kp⟩
def frK (k:Int):R Int:=if k=0 then fr0 else if k=1 then fr1 else if k=2 then fr2 else if k=3 then fr3 else if k=4 then fr4 else if k=5 then fr5 else if k=6 then fr6 else if k=7 then fr7 else fr8
def Jp:R (List Int×Int):=λl=>match((oz 0 8).bind frK) l with
 |none=>none
 |some (inner,r)=>some ((l.take (l.length - r.length),inner),r)
def adz {B:Type} (g:List Int×Int->R B) (l:List Int):(Jp.bind g) l=(((oz 0 8).bind frK).bind λinner=>λf=>g (l.take (l.length - f.length),inner) f) l:=by
 have h:∀q:R Int,(R.bind (λl=>match q l with|none=>none|some (inner,r)=>some ((l.take (l.length - r.length),inner),r)) g) l=(q.bind λinner=>λf=>g (l.take (l.length - f.length),inner) f) l:=λq=>by
  unfold R.bind;dsimp only;cases q l<;>rfl
 exact h _
def K5 (part:List Int):Int:=if part.getD 0 0=8 then 1+part.getD 1 0 * part.getD 2 0 else 1
def C8:Nat->List (List Int)->Int->List Nat->R (List (List Int))
 |_,parts,_,[]=>R.pure parts
 |0,_,_,_::_=>R.fail
 |f+1,parts,q,0::m=>C8 f parts q m
 |f+1,parts,q,(n+1)::m=>Jp.bind λp=>if 256<q+K5 p.1\/32<(m.length+1)then R.fail else C8 f (parts++[p.1]) (q+K5 p.1) (p.2.toNat::n::m)
def mQ:R (List (List Int)):=λl=>C8 (2 * l.length+2) [] 0 [1] l
def Suf {α:Type} (p:R α):Prop:=∀l x r,p l=some (x,r)->∃c,l=c++r
def hG {α:Type} (x:α):Suf (R.pure x):=λl y r h=>⟨[],by cases (h);rfl⟩
def R8 {α:Type}:Suf (R.fail:R α):=λl y r h=>by cases h
def dS {α q:Type} {p:R α} {f:α->R q} (B:Suf p) (F:∀x,Suf (f x)):Suf (p.bind f):=λl y r h=>by
 unfold R.bind at h;cases e:p l with
 |none=>rw[e]at h;cases h
 |some z=>
  obtain⟨x,s⟩:=z;rw[e]at h;obtain⟨c,a⟩:=B l x s e;obtain⟨d,hd⟩:=F x s y r h;exact⟨c++d,by rw[a,hd,cz]⟩
def ac9:Suf tk:=λl y r h=>by
 cases l with
 |nil=>cases h
 |cons z l=>cases h;exact⟨[_],rfl⟩
def lW (lo hi:Int):Suf (oz lo hi):=dS ac9 λz=>by
 by_cases h:z<lo\/hi<z
 ·rw[az h];exact R8
 ·rw[au h];exact hG z
def ak9 (n:Nat):Suf (Wx n):=λl y r h=>by
 unfold Wx at h;split at h
 ·cases h
 ·cases h;exact⟨l.take n,(dP n l).symm⟩
def ae0 (lo hi:Int):Suf (R1 lo hi):=dS (lW _ _) λn=>ak9 _
def lX {c:Prop} [Decidable c] {α:Type} {p q:R α} (B:Suf p) (f:Suf q):Suf (if c then p else q):=by
 by_cases h:c
 ·rw[az h];exact B
 ·rw[au h];exact f
def R6:Suf Ou:=dS (ae0 _ _) λl=>lX (hG _) R8
def aay (lo hi:Int):Suf (Bx lo hi):=dS (ae0 _ _) λl=>lX (hG _) R8
def aq4 (k:Int):Suf (rdV k):=lX (hG _) (lX (dS (lW _ _) λ_=>hG _) (lX (aay _ _) (lX (dS (lW _ _) λ_=>hG _) (dS (lW _ _) λ_=>hG _))))
def WA (k:Int):Suf (mP k):=dS (lW _ _) aq4
theorem R7:∀n,Suf (Fl sy n)
 |0=>hG _
 |n+1=>dS (WA 1) λ_=>R7 n
def WB:Suf Hu:=dS (lW _ _) λ_=>hG _
def R5:Suf Fj:=dS (lW _ _) λ_=>dS ac9 λ_=>dS (lW _ _) λ_=>dS ac9 λ_=>hG _
def ala (k:Int):Suf (frK k):=
 lX (dS (WA 1) λ_=>hG _) (lX (dS WB λ_=>dS R5 λ_=>hG _) (lX (dS WB λ_=>dS R5 λ_=>dS R5 λ_=>hG _)
  (lX (dS R6 λ_=>hG _) (lX (dS R6 λ_=>dS (aay _ _) λ_=>dS (lW _ _) λ_=>hG _) (lX (dS (lW _ _) λ_=>hG _)
   (lX (dS (lW _ _) λ_=>hG _) (lX (dS R6 λ_=>lW _ _) (dS (lW _ _) λr=>dS (lW _ _) λc=>dS (R7 _) λ_=>hG _))))))))
def ES {lo hi:Int} {r:List Int} (h:oz lo hi l=some (z,r)):l=z::r:=by
 unfold oz R.bind at h;cases l with
 |nil=>cases h
 |cons y l=>
  simp only[tk]at h;by_cases c:y<lo\/hi<y
  ·rw[az c]at h;cases h
  ·rw[au c]at h;cases h;rfl
def bind_some {α q:Type} {p:R α} {f:α->R q} {r:List Int} {y:q} (h:(p.bind f) l=some (y,r)):∃x s,p l=some (x,s)/\f x s=some (y,r):=by
 unfold R.bind at h;cases e:p l with
 |none=>rw[e]at h;cases h
 |some z=>rw[e]at h;exact⟨z.1,z.2,rfl,h⟩
def abQ {r:List Int} {n:Int} (h:fr8 l=some (n,r)):n=0/\∃a b d,l=a::b::(d++r)/\1<=a/\a<=64/\1<=b/\b<=64:=by
 obtain⟨a,s,g,h⟩:=bind_some h;obtain⟨b,p,e,h⟩:=bind_some h;obtain⟨u,o,i,h⟩:=bind_some h;have m:=ES g;have j:=ES e;obtain⟨d,hd⟩:=R7 _ _ _ _ i;cases h;exact⟨rfl,a,b,d,by rw[m,j,hd],(wz g).1,(wz g).2,(wz e).1,(wz e).2⟩
def ag1 {k n:Int} {r:List Int} (h:frK k l=some (n,r)):0<=n/\n<=64:=by
 unfold frK at h;split at h
 ·obtain⟨_,_,_,h⟩:=bind_some h;cases h;exact⟨by decide,by decide⟩
 split at h
 ·obtain⟨_,_,_,h⟩:=bind_some h;obtain⟨_,_,_,h⟩:=bind_some h;cases h;exact⟨by decide,by decide⟩
 split at h
 ·obtain⟨_,_,_,h⟩:=bind_some h;obtain⟨_,_,_,h⟩:=bind_some h;obtain⟨_,_,_,h⟩:=bind_some h;cases h;exact⟨by decide,by decide⟩
 split at h
 ·obtain⟨_,_,_,h⟩:=bind_some h;cases h;exact⟨by decide,by decide⟩
 split at h
 ·obtain⟨_,_,_,h⟩:=bind_some h;obtain⟨_,_,_,h⟩:=bind_some h;obtain⟨_,_,_,h⟩:=bind_some h;cases h;exact⟨by decide,by decide⟩
 split at h
 ·obtain⟨_,_,_,h⟩:=bind_some h;cases h;exact⟨by decide,by decide⟩
 split at h
 ·obtain⟨_,_,_,h⟩:=bind_some h;cases h;exact⟨by decide,by decide⟩
 split at h
 ·obtain⟨_,_,_,h⟩:=bind_some h;exact wz h
 ·rw[(abQ h).1];exact⟨by decide,by decide⟩
def agr {k n:Int} {s r:List Int} (B:oz 0 8 l=some (k,s)) (f:frK k s=some (n,r)):∃c,l=(k::c)++r/\(k=8->∃a b d,c=a::b::d/\1<=a/\a<=64/\1<=b/\b<=64):=by
 have h:=ES B;by_cases g:k=8
 ·subst g;obtain⟨_,a,b,d,e,q⟩:=abQ (l:=s) f;exact⟨a::b::d,by rw[h,e];rfl,λ_=>⟨a,b,d,rfl,q⟩⟩
 ·obtain⟨c,i⟩:=ala k _ _ _ f;exact⟨c,by rw[h,i];rfl,λz=>absurd z g⟩
def coF (kind:Int) (l:ag):List (Str×V):=[("kind",.int kind),("parts",.ref l)]
def QS (A:Ad):Sp:=λvs H Q _=>∃(p dx l:ag) (kind:Int),vs=[.ref p,.int kind,.ref l]/\H p=some (.ins A.mF dx [])/\∀H':Hp,H' p=some (.ins A.mF dx (coF kind l))->cJ [p] H H'->Q .m6 H'
def uO:=show FO P w K mg base 1 _ _ _ (QS A) by
 exists T.U4.gp QW
 obtain⟨p,dx,l,kind,rfl,d,k⟩:=h
 exists (aj (fU T.ij T.lu (pv 0) (pv 1))
  (aq (fU T.ij T.jg (pv 0) (pv 2)))),0
 refine k _ ao (λb o e n=>?_);have a:b≠p:=λz=>n (by rw[z];exact aM)
 rw[aw a,aw a];exact e
def Ob (K:ah):Sp:=λvs H Q _=>∃(a:ag) (k:Int) (c:List Int),vs=[.ref a]/\gL K H a ((k::c).map V.int)/\(k=8->∃a b d,c=a::b::d/\1<=a/\a<=64/\1<=b/\b<=64)/\Q (.int (K5 (k::c))) H
def OC:=show FO P w K mg base 1 _ _ _ (Ob K) by
 exists T.Dz.gp Oj
 obtain⟨a,b,c,rfl,C,i,k⟩:=h;refine⟨_,(aq (aW (jP (cS i7 (cP fg (pv 0) bc) (bE rfl T.aiU)) (gi kl bc (gi adA (cP fg (pv 0) bc) (cP fg (pv 0) bc))) bc))),?_⟩;have g:ky ((b::c).map V.int) 0=some (V.int b):=bD (j:=0) rfl;by_cases e:b=8
 ·obtain⟨x,y,d,rfl,z,u,p,o⟩:=i e;have m:ky ((b::x::y::d).map V.int) 1=some (V.int x):=bD (j:=1) rfl;have n:ky ((b::x::y::d).map V.int) 2=some (V.int y):=bD (j:=2) rfl;have D:ake x y:=.inl ⟨by omega,by omega⟩
  lk
  exact qi k (az (show(b::x::y::d).getD 0 0=8 from e)).symm
 ·lk
  exact qi k (au (show ¬(b::c).getD 0 0=8 from e)).symm
def ZI (K:ah) (H:Hp) (ts:List ag) (parts:List (List Int)):Prop:=Paired (λt (p:List Int)=>gL K H t (p.map V.int)) ts parts
def qW (K:ah) (H:Hp) (l:ag) (parts:List (List Int)):Prop:=∃ts,H l=some (.lst (ts.map V.ref))/\ZI K H ts parts
def jb.aq9 {α G:Type} {p:R α} {f:α->R G} {ret:G->Hp->Hp->V->Prop} {F:α->Hp->Hp->V->Prop} {r:ag} {pos:Nat}
 (k:jb A K (p.bind f) ret r tl told pos H Q E) (I:cJ [r] H H1) (c:∀x B q v,cJ [r] H1 B->iI A K B r tl told q->pos<=q->p (told.drop pos)=some (x,told.drop q)->F x H1 B v->jb A K (f x) ret r tl told q H Q E->Q1 v B):jb A K p F r tl told pos H1 Q1 E:=by
 unfold jb at k⊢;cases e:p (told.drop pos)with
 |none=>
  have g:(p.bind f) (told.drop pos)=none:=by unfold R.bind;rw[e]
  rw[g]at k;exact λh kp=>k h (I.trans kp)
 |some y=>
  obtain⟨x,rest⟩:=y;have g:(p.bind f) (told.drop pos)=f x rest:=by unfold R.bind;rw[e]
  rw[g]at k;intro B q v kp s hd i o;refine c x B q v kp s i (by rw[hd];exact e) o ?_;unfold jb;rw[hd];cases j:f x rest with
  |none=>
   rw[j]at k;exact k
  |some z=>
   rw[j]at k;exact λh a v b l n d m=>k h a v b l n (b9 i d) m
def jb.congr {α:Type} {p f:R α} {ret:α->Hp->Hp->V->Prop} {r:ag} {pos:Nat} (k:jb A K p ret r tl told pos H Q E) (e:p (told.drop pos)=f (told.drop pos)):jb A K f ret r tl told pos H Q E:=by
 unfold jb at k⊢;rw[<-e];exact k
def alu (K:ah):List (List Int)->Hp->Hp->V->Prop:=λparts H H' v=>∃l,v=.ref l/\H l=none/\qW K H' l parts
def sr (s:List Nat):List V:=s.reverse.map fun(n:Nat)=>V.int (n:Int)
def zS (n:Nat) (s:List Nat):sr (n::s)=sr s++[V.int n]:=by unfold sr;rw[List.reverse_cons,aT];rfl
def ym (s:List Nat):(sr s).length=s.length:=by unfold sr;rw[ae,List.length_reverse]
def ae1 (n:Nat) (s:List Nat):(sr (n::s))[s.length]? =some (V.int n):=by
 rw[zS,zM (by rw[ym];exact aS _),ym,Vf];rfl
def aif (n:Nat) (s:List Nat):ixN (sr (n::s)).length (-1)=some s.length:=by
 unfold ixN;rw[ym,au (by decide),ak,az (by omega)];exact cK some (by omega)
def an8 (n:Nat) (s:List Nat):ky (sr (n::s)) (-1)=some (V.int n):=by
 unfold ky;rw[aif];exact ae1 n s
def ald (n:Nat) (s:List Nat):(sr (n::s)).dropLast=sr s:=by rw[zS,List.dropLast_concat]
def alc (n m:Nat) (s:List Nat):(sr (n::s)).set s.length (V.int m)=sr (m::s):=by
 rw[zS,zS,afT _ _ (by rw[ym];exact aS _),ym,Vf];rfl
def aie (n:Nat) (s:List Nat):(sr (n::s))[(sr (n::s)).length - 1]? =some (V.int n):=by
 rw[ym,ak,Rz];exact ae1 n s
def age (h0:dv K H tl xs) (q:dv K H1 tl xs) (f:H lm=none):dv K (bB H1 lm o) tl xs:=by
 rcases h0 with h0|h0
 ·have ne:tl≠lm:=by
   rcases h0 with h0|⟨_,h0⟩
   ·exact bp h0 f
   ·exact bp h0 f
  rcases q with(h|⟨u,h⟩)|h
  ·exact .inl (.inl (by rw[aw ne];exact h))
  ·exact .inl (.inr ⟨u,by rw[aw ne];exact h⟩)
  ·exact .inr h
 ·exact .inr h0
def iI.other {r:ag} {pos:Nat} (h:iI A K H1 r tl told pos) (B:dv K H tl (told.map V.int)) (f:H lm=none) (q:H1 lm=some (.lst ys)):iI A K (bB H1 lm o) r tl told pos:=
 let⟨dx,a,d,b⟩:=h;⟨dx,by rw[aw (C1 a q (by intro z;cases z))];exact a,age B d f,b⟩
def B7 {r:ag} (k:cJ [r] H H1) (f:H lm=none):cJ [r] H (bB H1 lm o):=λb u e n=>by rw[aw (bp e f)];exact k b u e n
def ZI.mono {parts:List (List Int)} (h:ZI K H ts parts) (f:∀t xs,gL K H t xs->gL K H' t xs):ZI K H' ts parts:=Paired.Rh h λt p q=>f t _ q
def Hr {a:ag} (h:gL K H a xs) (f:H lm=some (.lst ys)):gL K (bB H lm o) a xs:=by
 rcases h with(h|⟨u,h⟩)|h
 ·exact .inl (.inl (by rw[aw (C1 h f (by intro z;cases z))];exact h))
 ·exact .inl (.inr ⟨u,by rw[aw (C1 h f (by intro z;cases z))];exact h⟩)
 ·exact .inr h
def ae3 {a r:ag} {fs:List (Str×V)} (h:gL K H a xs) (k:cJ [r] H H') (f:H r=some (.ins C dx fs)):gL K H' a xs:=by
 rcases h with(h|⟨u,h⟩)|h
 ·exact .inl (.inl (k _ _ h (by have:=C1 h f (by intro z;cases z);simpa using this)))
 ·exact .inl (.inr ⟨u,k _ _ h (by have:=C1 h f (by intro z;cases z);simpa using this)⟩)
 ·exact .inr h
theorem tP {α f:Type} {F:α->f->Prop} {xs:List α} {ys:List f} {x:α} {y:f} (h:Paired F xs ys) (g:F x y):Paired F (xs++[x]) (ys++[y]):=by
 induction h with
 |nil=>exact .cons g .nil
 |cons r _ i=>exact .cons r i
theorem eM {α f:Type} {F:α->f->Prop}:∀{xs:List α} {ys:List f},Paired F xs ys->xs.length=ys.length
 |_,_,.nil=>rfl
 |_,_,.cons _ t=>by rw[ak,ak,eM t]
structure ati (A:Ad) (K:ah) (r tl lp lm:ag) (told:List Int) (H:Hp) (Q:VK) (E:XK) (m:Nat) (σ:L2.St) (H':Hp):Prop where
 ex:∃(pos:Nat) (parts:List (List Int)) (i9:Int) (stack:List Nat) (v4 v5 v6 v7:Option V),σ=[some (.ref r),some (.ref lp),some (.int i9),some (.ref lm),v4,v5,v6,v7]/\cJ [r] H H'/\iI A K H' r tl told pos/\
  qW K H' lp parts/\H' lm=some (.lst (sr stack))/\lp≠lm/\H lp=none/\H lm=none/\parts.length<=256/\stack.length<=33/\0<=i9/\(parts.length:Int)<=i9/\2 * (told.length - pos)+stack.length<=m/\
  jb A K (C8 m parts i9 stack) (alu K) r tl told pos H Q E
def CY:=show FO P w K mg base 10 _ _ _ (d8 A K mQ (alu K)) by
 exists T.xM.gp gq
 obtain⟨r,tl,g,pos,rfl,pj,k⟩:=h
 refine⟨_,(aj (bS 1 gq.nd (di ai))
  (aj (bS 2 gq.nd bc)
  (aj (bS 3 gq.nd (di (aa bc ai)))
  (aj (Ow BC (SQ (pv 3) (λ_=>rfl))
  (aj (ee (cS i7 (cP dW (pv 3) (aix ac4 bc)) bc) (aj (cC (aoq cV PySem.F.slot_list_pop PySem.F.type_list_pop aoF (pv 3)))
  (aq aaX)) cv)
  (aj (alC (pv 3) (aix ac4 bc) ajt bc aoQ set_list)
  (aj (bS 4 gq.nd (aK T.bJ T.eX (pv 0)))
  (aj (bS 5 gq.nd (cP fg (l0 rfl T.xb) (bx (pv 0) T.bJ T.bZ (bY T) hr T.cf (aa bc (aa (gi lP (cG eL rfl T.jG jI (aa (l0 rfl T.xb) ai)) bc) ai)))))
  (aj (bS 6 gq.nd (SX (Fs:=Dv A K) (ata T) (hr.mono (by decide)) Fu (pv 5) (aa (pv 0) ai)))
  (aj (bS 7 gq.nd (sA om rfl T.FE GC (aa (bx (pv 0) T.bJ T.lR (lQ T) hr T.mG (aa (pv 4) ai)) ai)))
  (aj (cC (CW cV pL pK HA (pv 1) (aa (pv 7) ai)))
  (aj (aoo (i:=2) gq.nd rfl (oY rfl) (bN (OC T) hr T.OJ T.Dz.kp T.Rl (aa (pv 7) ai)) aoR)
  (aj (ee (PW.pt (SO (cS Js (pv 2) (bE rfl T.VR)) (Ov (cS Js (cG eL rfl T.jG jI (aa (pv 3) ai)) (bE rfl T.adM))))) (aq (tM yu T.fH rfl rfl (aa BA ai))) cv)
  (aq (cC (CW cV pL pK HA (pv 3) (aa (pv 6) ai))))))))))))))
  (aq (aW (pv 1))))))),?_⟩
 obtain⟨dx,hr,hl,hp⟩:=id pj
 lk
 intro u S
 lk
 intro lm o;have ne:u≠lm:=λz=>by rw[<-z,ao]at o;cases o
 have L:H lm=none:=by rw[aw (DD ne)]at o;exact o
 have s1:bt H (bB (bB H u (.lst [])) lm (.lst [.int 1])):=(bt.new S).bB o
 lk
 refine ac3 (ati A K r tl u lm g H Q E) ⟨2 * (g.drop pos).length+2,⟨pos,[],0,[1],_,_,_,_,rfl,cJ.same s1,pj.keep s1,⟨[],by rw[aw ne];exact ao,.nil⟩,ao,ne,S,L,by decide,by decide,by decide,by decide,by rw[eh];simp,k⟩⟩ ?_
 rintro m σ x ⟨fN,parts,y,stack,v4,v5,v6,v7,rfl,kp,ť,⟨ts,B,J⟩,M,-,-,-,b1,b2,b3,b4,hm,k1⟩
 cases stack with
 |nil=>
  have hT:aci K (.ref lm) x false:=.inl ⟨_,dv.of M,rfl⟩
  lk
  exact k1.good (by cases m<;>rfl) kp ť rfl (aS _) ⟨u,rfl,S,ts,B,J⟩
 |cons n st=>
  have hT:aci K (.ref lm) x true:=.inl ⟨_,dv.of M,by rw[zS];simp⟩;have sqm:dv K x lm (sr (n::st)):=dv.of M;have hat:=an8 n st;have hix:=aif n st;have Η:=aie n st;obtain⟨m,rfl⟩:∃m',m=m'+1:=⟨m - 1,by simp at hm;omega⟩;cases n with
  |zero=>
   lk
   rw[ald];simp only[ak]at hm b2;refine less (m':=m) (xR _) ⟨fN,parts,y,st,_,_,_,_,rfl,B7 kp L,ť.other hl L M,⟨ts,by rw[aw ne];exact B,J.mono λt xs q=>Hr q M⟩,ao,ne,S,L,b1,by omega,b3,b4,by omega,?_⟩;exact k1
  |succ n=>
   have e1:(((n+1:Nat):Int) - 1)=(n:Int):=by omega
   have hH2:bB x lm (.lst ((sr ((n+1)::st)).set st.length (V.int (((n+1:Nat):Int) - 1))))=bB x lm (.lst (sr (n::st))):=by rw[e1,alc]
   have aja:iI A K (bB x lm (.lst ((sr ((n+1)::st)).set st.length (V.int (((n+1:Nat):Int) - 1))))) r tl g fN:=ť.other hl L M;obtain⟨dx2,υ,Ì,â⟩:=id aja;have hS:=T.wA.sq (bB x lm (.lst ((sr ((n+1)::st)).set st.length (V.int (((n+1:Nat):Int) - 1)))));have FW:cJ [r] H (bB x lm (.lst ((sr ((n+1)::st)).set st.length (V.int (((n+1:Nat):Int) - 1))))):=B7 kp L
   lk
   have k2:jb A K (((oz 0 8).bind frK).bind λinner=>λr'=>(λp:List Int×Int=>if 256<y+K5 p.1\/32<(st.length+1)then R.fail else C8 m (parts++[p.1]) (y+K5 p.1) (p.2.toNat::n::st)) ((g.drop fN).take ((g.drop fN).length - r'.length),inner) r') (alu K) r tl g fN H Q E:=by
    refine k1.congr ?_;exact adz _ _
   have k2:=k2.congr (congrFun (R.bind_assoc _ _ _) _);refine jb.aq9 (p:=oz 0 8) k2 FW (λj H3 Fm v KY ai9 le3 ř hv k3=>?_);subst hv;have hS3:=T.wA.sq H3;obtain⟨hk0,hk8⟩:=wz ř
   obtain⟨f,hFs,aCs⟩:∃f,Dv A K f (d8 A K (frK j) wV)/\ky [V.ref A.lz,V.ref A.hR,V.ref A.hU,V.ref A.jn,V.ref A.i3,V.ref A.gA,V.ref A.gy,V.ref A.ly,V.ref A.qv] j=some (V.ref f):=by
    obtain rfl|rfl|rfl|rfl|rfl|rfl|rfl|rfl|rfl:j=0\/j=1\/j=2\/j=3\/j=4\/j=5\/j=6\/j=7\/j=8:=by omega
    ·exact⟨_,.c0,rfl⟩
    ·exact⟨_,.c1,rfl⟩
    ·exact⟨_,.c2,rfl⟩
    ·exact⟨_,.c3,rfl⟩
    ·exact⟨_,.c4,rfl⟩
    ·exact⟨_,.c5,rfl⟩
    ·exact⟨_,.c6,rfl⟩
    ·exact⟨_,.c7,rfl⟩
    ·exact⟨_,.c8,rfl⟩
   obtain⟨dx3,ï,hl3,hp3⟩:=id ai9
   lk
   refine jb.aq9 k3 (FW.trans KY) (λinner U QY v Ε arW le4 Z hv k4=>?_);subst hv;obtain⟨dx4,hr4,hl4,hp4⟩:=id arW;obtain⟨c,hc,h8⟩:=agr ř Z;have ε:(g.drop fN).length - (g.drop QY).length=QY - fN:=by rw[eh,eh];omega
   have G:(g.drop fN).take (QY - fN)=j::c:=by
    rw[<-ε,hc,aI,Rz,aah]
   have aBl:fN<=QY:=b9 le3 le4
   have aBg:fN<QY:=by
    have:=cK gh G;rw[b7,ak]at this;omega
   lk
   rw[G];intro q hq;have ĭ:dv K (bB U q (.lst ((j::c).map V.int))) q ((j::c).map V.int):=dv.of ao
   lk
   refine oY ⟨ĭ,λt ht=>?_⟩;have I:bt U (bB (bB U q (.lst ((j::c).map V.int))) t (.tup ((j::c).map V.int))):=(bt.new hq).bB ht
   have aqP:∀b ys,bB x lm (.lst ((sr ((n+1)::st)).set st.length (V.int (((n+1:Nat):Int) - 1)))) b=some (.lst ys)->U b=some (.lst ys):=λb ys e=>by
    have a1:=KY b _ e (by have:=C1 e υ (by intro z;cases z);simpa using this);exact Ε b _ a1 (by have:=C1 a1 ï (by intro z;cases z);simpa using this)
   have aw1:=aqP u _ (by rw[aw ne];exact B);have aw3:=aqP lm _ (by rw[hH2];exact ao);have avs:∀b xs,gL K x b xs->gL K U b xs:=λb xs e=>ae3 (ae3 (Hr e M) KY υ) Ε ï
   generalize hH6:bB (bB U q (.lst ((j::c).map V.int))) t (.tup ((j::c).map V.int))=O at I;have D:=I _ _ aw1;have aw2:=I _ _ aw3;have ht6:O t=some (.tup ((j::c).map V.int)):=by rw[<-hH6];exact ao
   have aAx:dv K O u (ts.map V.ref):=dv.of D;have É:ts.length=parts.length:=eM J;have htl:(ts.map V.ref).length<sizeLine:=by rw[ae,É];exact dO (by omega)
   have avM:gL K (bB O u (.lst (ts.map V.ref++[V.ref t]))) t ((j::c).map V.int):=Hr (gL.of ht6) D;have C:bB O u (.lst (ts.map V.ref++[V.ref t])) lm=some (.lst (sr (n::st))):=by rw[aw (DD ne)];exact aw2
   have ayK:dv K (bB O u (.lst (ts.map V.ref++[V.ref t]))) lm (sr (n::st)):=dv.of C;have hsl:(sr (n::st)).length<sizeLine:=by rw[ym];exact dO (by simp only[ak]at b2⊢;omega)
   have aBG:(sr (n::st)).length=st.length+1:=ym _
   have k5:jb A K (if 256<y+K5 (j::c)\/32<(st.length+1)then R.fail else C8 m (parts++[j::c]) (y+K5 (j::c)) (inner.toNat::n::st)) (alu K) r tl g QY H Q E:=by
    refine k4.congr ?_;show(if 256<y+K5 ((g.drop fN).take ((g.drop fN).length - (g.drop QY).length))\/32<(st.length+1)then R.fail else C8 m (parts++[(g.drop fN).take ((g.drop fN).length - (g.drop QY).length)]) (y+K5 ((g.drop fN).take ((g.drop fN).length - (g.drop QY).length))) (inner.toNat::n::st)) (g.drop QY)=_;rw[ε,G]
   have X:cJ [r] H (bB O u (.lst (ts.map V.ref++[V.ref t]))):=B7 (((FW.trans KY).trans Ε).trans (cJ.same I)) S
   have iA:1<=K5 (j::c):=by
    unfold K5;split
    ·rename_i hk
     obtain⟨a,b,d,rfl,a0,_,b0,_⟩:=h8 hk;show 1<=1+a * b;have:=CH (show 0<=a by omega) (show 0<=b by omega);omega
    ·exact ayz _
   lk
   ·exact k5.bad (by rw[az (oY (by assumption))];rfl) X
   ·exact k5.bad (by rw[az (EK (by omega))];rfl) X
   ·rename_i Y W8
    have Y:¬256<y+K5 (j::c):=Y;have W8:¬(32:Int)<((sr (n::st)).length:Int):=W8;rw[au (by omega)]at k5;obtain⟨hi0,hi1⟩:=ag1 Z;have ei:V.int inner=V.int ((inner.toNat:Nat):Int):=by rw[iL hi0]
    rw[ei,<-zS];simp only[ak]at hm b2;refine less (m':=m) (xR _) ⟨QY,parts++[j::c],y+K5 (j::c),inner.toNat::n::st,_,_,_,_,rfl,B7 X L,?_,⟨ts++[t],?_,?_⟩,ao,ne,S,L,?_,?_,?_,?_,?_,k5⟩
    ·exact((arW.keep I).other hl S D).other hl L C
    ·rw[aw ne,aT];exact ao
    ·exact tP (J.mono λb xs e=>Hr (Hr (I.nj (avs b xs e)) D) C) (Hr avM C)
    ·rw[aI,j0];omega
    ·simp only[ak];omega
    ·omega
    ·rw[aI,j0];omega
    ·simp only[ak];omega
structure hW where
 kind:Int
 parts:List (List Int)
def nz (A:Ad) (K:ah) (H:Hp) (a:ag) (c:hW):Prop:=∃dx l,H a=some (.ins A.mF dx (coF c.kind l))/\qW K H l c.parts
def qW.same {l:ag} {ps:List (List Int)} (h:qW K H l ps) (s:bt H H'):qW K H' l ps:=let⟨ts,e,t⟩:=h;⟨ts,s _ _ e,t.mono λ_ _ q=>s.nj q⟩
def nz.same {a:ag} {c:hW} (h:nz A K H a c) (s:bt H H'):nz A K H' a c:=let⟨dx,l,e,t⟩:=h;⟨dx,l,s _ _ e,t.same s⟩
def hW.empty (c:hW):Bool:=decide (c.kind=0)&&decide ((c.parts.headD []).headD 0=0)
def Ic (A:Ad) (K:ah):Sp:=λvs H Q _=>∃a c z p ps,vs=[.ref a]/\nz A K H a c/\c.parts=(z::p)::ps/\Q (.bl c.empty) H
def Ir:=show FO P w K mg base 1 _ _ _ (Ic A K) by
 exists T.Lo.gp Ik
 obtain⟨a,c,z,p,m,rfl,⟨dx,l,n,ts,g,b⟩,d,k⟩:=h;refine⟨_,(aq (aW (Ox (qf i7 (aK T.ij T.lu (pv 0)) (bE rfl T.Tx)) (BB (qf i7 (cP fg (cP dW (aK T.ij T.jg (pv 0)) bc) bc) (bE rfl T.TC)))))),?_⟩;rw[d]at b;cases ts with
 |nil=>cases b
 |cons t ts=>
  have e:gL K H t ((z::p).map V.int):=by cases b with|cons r _=>exact r
  have sq:dv K H l ((t::ts).map V.ref):=dv.of g;have zz:ky ((t::ts).map V.ref) 0=some (V.ref t):=bD (j:=0) rfl;have i:ky ((z::p).map V.int) 0=some (V.int z):=bD (j:=0) rfl
  lk
  ·exact Yv k (by unfold hW.empty;rw[d,aD (by assumption),bM];rfl)
  ·exact Yv k (by unfold hW.empty;rw[ba (by assumption),cq])
def lE (l:List Int):Option hW:=match oz 0 1 l with
 |none=>none
 |some (k,r)=>if k=0 then(match mP 0 r with|some (_,[])=>some ⟨0,[r]⟩|_=>none)else(match mQ r with|some (ps,[])=>some ⟨1,ps⟩|_=>none)
def QN (A:Ad) (K:ah):Sp:=λvs H Q E=>∃tl told,vs=[.ref tl]/\dv K H tl (told.map V.int)/\(lE told=none->∀H',bt H H'->E (.ref A.kU) none H')/\∀c,lE told=some c->∀H' a,bt H H'->H a=none->nz A K H' a c->Q (.ref a) H'
def jb.intro {α:Type} {p:R α} {ret:α->Hp->Hp->V->Prop} {r:ag} {pos:Nat} (B:p (told.drop pos)=none->∀f,cJ [r] H f->E (.ref A.kU) none f)
 (q:∀x f pos' v,p (told.drop pos)=some (x,told.drop pos')->cJ [r] H f->iI A K f r tl told pos'->pos<=pos'->ret x H f v->Q v f):jb A K p ret r tl told pos H Q E:=by
 unfold jb;cases e:p (told.drop pos)with
 |none=>exact B e
 |some y=>
  obtain⟨x,rest⟩:=y;intro f pos' v kp b hd d a;exact q x f pos' v (by rw[hd];exact e) kp b d a
def o6 {r:ag} (s:bt H H1) (f:H r=none) (k:cJ [r] H1 H2):bt H H2:=λb o e=>k b o (s b o e) (by have:=bp e f;simpa using this)
def aok (h:oz 0 1 told=none):lE told=none:=by unfold lE;rw[h]
def Yt {r:List Int} (h:oz 0 1 told=some (0,r)):lE told=(match mP 0 r with|some (_,[])=>some ⟨0,[r]⟩|_=>none):=by
 unfold lE;rw[h];exact az rfl
def Yu {r:List Int} {k:Int} (h:oz 0 1 told=some (k,r)) (f:¬k=0):lE told=(match mQ r with|some (ps,[])=>some ⟨1,ps⟩|_=>none):=by
 unfold lE;rw[h];exact au f
def Hy {pos:Nat} (h:pos<=told.length):told.drop pos=[]↔pos=told.length:=⟨λe=>drop_nil e h,λe=>HW (by omega)⟩
def Q4:=show FO P w K mg base 11 _ _ _ (QN A K) by
 exists T.G5.gp lj
 obtain⟨tl,d,rfl,hl,f,k2⟩:=h
 refine⟨_,(aj (bS 1 lj.nd (jy T.OI (wY T) hr T.OK T.zy (aa (pv 0) ai)))
  (aj (bS 2 lj.nd (bx (pv 1) T.bJ T.bZ (bY T) hr T.cf (aa (bE rfl T.Tx) (aa (bE rfl T.xc) ai))))
  (aj (ee (cS i7 (pv 2) (bE rfl T.Tx)) (aj (cC (bN (Jt T) hr T.Jy T.Cw.kp T.Nr (aa (pv 1) (aa (bE rfl T.TC) ai))))
  (aq (bS 3 lj.nd (di (aa (sA om rfl T.FE GC (aa (bx (pv 1) T.bJ T.lR (lQ T) hr T.mG (aa bc ai)) ai)) ai))))) (aq (bS 3 lj.nd (bN (CY T) hr T.C3 T.xM.kp T.GG (aa (pv 1) ai)))))
  (aj (cC (fA (pv 1) T.bJ T.tV (tS T) hr T.vD))
  (aq (aW (jy T.KN (uO T) hr T.KP T.xG (aa (pv 2) (aa (pv 3) ai))))))))),?_⟩
 refine⟨_,rfl,λr dr J n2 n3=>⟨r,dr,tl,rfl,ao,λH1 e1 xg=>⟨rfl,?_⟩⟩⟩;have s1:bt H H1:=bt.made J n2 (λb o q m=>xg b o q (by simpa using m));have ť:iI A K H1 r tl d 0:=⟨dr,e1,s1.seq hl,eI _⟩;obtain⟨dx1,vh,ó,EF⟩:=id ť
 lk
 refine jb.intro (λe O kp=>f (aok e) O (o6 s1 J kp)) (λZ H2 tN v i FW aja le2 hv=>?_);subst hv;have Y:bt H H2:=o6 s1 J FW;obtain⟨dx2,υ,Ì,â⟩:=id aja;have i:oz 0 1 d=some (Z,d.drop tN):=i;obtain⟨hk0,hk1⟩:=wz i
 have ar0:d.drop 1=d.drop tN:=by
  have:=ES i;generalize d.drop tN=q at this;rw[this];rfl
 have awQ:tN=1:=by
  have a:=cK gh ar0;have b:=cK gh (ES i);simp only[eh,ak]at a b;omega
 subst awQ;by_cases hk:Z=0
 ·subst hk;have hz:(0:Int)<=0:=ayz _
  lk
  refine jb.intro (p:=mP 0) (λe O kp=>f (by rw[Yt i,e]) O (o6 Y J kp)) (λu H3 j v U KY S le3 hv=>?_);have s3:bt H H3:=o6 Y J KY;obtain⟨dx3,ï,hl3,hp3⟩:=id S;have U:mP 0 (d.drop 1)=some (u,d.drop j):=U;refine⟨_,rfl,r,dx3,_,rfl,ï,rfl,r,tl,d,j,1,rfl,S,le3,λq hq=>⟨q,_,rfl,oY ⟨dv.of ao,λt ht=>?_⟩⟩⟩;have s4:bt H3 (bB (bB H3 q (.lst (((d.drop 1).take (j - 1)).map V.int))) t (.tup (((d.drop 1).take (j - 1)).map V.int))):=(bt.new hq).bB ht;refine⟨dY (dO (nH rfl)),λC ü=>?_⟩;have s5:=s4.bB (o:=.lst [.ref t]) ü;have y:=S.keep s5;have D:=s3.trans s5
  have n:qW K (bB (bB (bB H3 q (.lst (((d.drop 1).take (j - 1)).map V.int))) t (.tup (((d.drop 1).take (j - 1)).map V.int))) C (.lst [.ref t])) C [(d.drop 1).take (j - 1)]:=by
   refine⟨[t],ao,.cons (gL.of ?_) .nil⟩;rw[aw (λz=>by rw[<-z,ao]at ü;cases ü)];exact ao
  generalize bB (bB (bB H3 q (.lst (((d.drop 1).take (j - 1)).map V.int))) t (.tup (((d.drop 1).take (j - 1)).map V.int))) C (.lst [.ref t])=H5 at y D n;obtain⟨dx5,hr5,hl5,g⟩:=id y;by_cases x:j=d.length
  ·have hn:=(Hy g).mpr x
   lk
   refine⟨λ_=>?_,λz=>absurd x z⟩
   lk
   intro a F L m2 m3;refine⟨a,F,C,0,rfl,ao,λH6 e6 M=>⟨rfl,?_⟩⟩;have X:bt H5 H6:=bt.made L m2 (λb o q m=>M b o q (by simpa using m));refine k2 ⟨0,[d.drop 1]⟩ (by rw[Yt i,U,hn]) H6 a (D.trans X) (by cases z:H a with|none=>rfl|some o=>(rw[D _ _ z]at L;cases L)) ⟨F,C,e6,?_⟩;have I:=n.same X;rw[mq (by rw[eh];omega)]at I;exact I
  ·lk
   refine⟨λz=>absurd z x,λ_=>?_⟩;refine f ?_ H5 D;rw[Yt i,U];cases hd:d.drop j with
   |nil=>exact absurd ((Hy g).mp hd) x
   |cons z zs=>rfl
 ·lk
  refine jb.intro (λe O kp=>f (by rw[Yu i hk,e]) O (o6 Y J kp)) (λps H5 G v B kp5 y le5 hv=>?_);obtain⟨C,rfl,_,n⟩:=hv;have D:bt H H5:=o6 Y J kp5;obtain⟨dx5,hr5,hl5,g⟩:=id y;by_cases x:G=d.length
  ·have hn:=(Hy g).mpr x
   lk
   refine⟨λ_=>?_,λz=>absurd x z⟩
   lk
   intro a F L m2 m3;refine⟨a,F,C,Z,rfl,ao,λH6 e6 M=>⟨rfl,?_⟩⟩;have X:bt H5 H6:=bt.made L m2 (λb o q m=>M b o q (by simpa using m));obtain rfl:Z=1:=by omega
   exact k2 ⟨1,ps⟩ (by rw[Yu i hk,B,hn]) H6 a (D.trans X) (by cases z:H a with|none=>rfl|some o=>(rw[D _ _ z]at L;cases L)) ⟨F,C,e6,n.same X⟩
  ·lk
   refine⟨λz=>absurd z x,λ_=>?_⟩;refine f ?_ H5 D;rw[Yu i hk,B];cases hd:d.drop G with
   |nil=>exact absurd ((Hy g).mp hd) x
   |cons z zs=>rfl
def lS (p:List Int):Bool:=decide (p.getD 0 0=1\/p.getD 0 0=2)
def qe (f z own:Int):Int:=if f=1 then z else own+z
inductive Ref:List Int->Prop
 |one (s f r g c:Int):Ref [1,s,f,r,g,c]
 |two (s f r g c f' r' g' c':Int):Ref [2,s,f,r,g,c,f',r',g',c']
def Ab (own:Int):List Int->List Int
 |[_,_,f,r,_,_]=>[qe f r own]
 |[_,_,f,r,_,_,q,r',_,_]=>[qe f r own,qe q r' own]
 |_=>[]
def Dr (own:Int):List Int->List Int
 |[_,_,_,_,g,c]=>[qe g c own]
 |[_,_,_,_,g,c,_,_,g',c']=>[qe g c own,qe g' c' own]
 |_=>[]
def loL:List Int->Int
 |[]=>0
 |a::l=>l.foldl min a
def hiL:List Int->Int
 |[]=>0
 |a::l=>l.foldl max a
def vE (p:List Int) (own:b8):b8:=⟨if p.getD 1 0=0 then own.sheet else p.getD 1 0 - 1,loL (Ab own.r0 p),hiL (Ab own.r0 p),loL (Dr own.c0 p),hiL (Dr own.c0 p)⟩
def rm (f:List Int) (first last:Int):List Int:=if f.getLastD 0<f.headD 0 then [last,first]else [first,last]
def QO (K:ah):Sp:=λvs H Q _=>∃(a:ag) (z:Int) (p:List Int),vs=[.ref a]/\gL K H a ((z::p).map V.int)/\Q (.bl (lS (z::p))) H
def oC:=show FO P w K mg base 1 _ _ _ (QO K) by
 exists T.mI.gp QV
 obtain⟨a,z,p,rfl,d,k⟩:=h;refine⟨_,(aq (aW (afe (qf i7 (cP fg (pv 0) bc) (bE rfl T.ML)) (BB (qf i7 (cP fg (pv 0) bc) (bE rfl T.MM)))))),?_⟩;have b:ky ((z::p).map V.int) 0=some (V.int z):=bD (j:=0) rfl;have k:Q (.bl (decide (z=1\/z=2))) H:=k
 lk
 all_goals walk_at "b"
def X8 (K:ah):Sp:=λvs H Q _=>∃(a b:ag) (p:List Int) (ix:List Nat) (own:Int),vs=[.ref a,.ref b,.int own]/\gL K H a (p.map V.int)/\gL K H b (ix.map fun(i:Nat)=>V.int (i:Int))/\ix.length<=2/\(∀i∈ix,i+1<p.length)/\
 ∀H' q,bt H H'->H q=none->H' q=some (.lst ((ix.map fun(i:Nat)=>qe (p.getD i 0) (p.getD (i+1) 0) own).map V.int))->Q (.ref q) H'
def Mx:=show FO P w K mg base 1 _ _ _ (X8 K) by
 exists T.G6.gp Bq
 obtain⟨a,b,p,ix,own,rfl,z,u,J,g,k⟩:=h
 exists (aq (aW (oN (own:=[("index",3)]) rfl Bq.nd (adw (pv 1)) (jq rfl) (λ_ _ _ _ _=>(eC 3 Bq.nd)) (λ_ _ _ _ _=>oA) (λ_ _ _ _ _=>(jP (cS i7 (cP (yG (K:=K)) (pv 0) (pv 3)) (bE rfl T.TB)) (cP (yG (K:=K)) (pv 0) (gi kl (pv 3) bc)) (gi kl (pv 2) (cP (yG (K:=K)) (pv 0) (gi kl (pv 3) bc)))))))),0
 refine afm (xs:=ix.map fun(i:Nat)=>V.int (i:Int)) (λ_=>true) (λv=>V.int (qe (p.getD (intOf v).toNat 0) (p.getD ((intOf v).toNat+1) 0) own)) u (by rw[ae];exact dY (dO (by omega))) (λD i x n m d h=>?_) (λD n m o e=>?_)
 ·rw[aV]at d;cases e:ix[i]? with
  |none=>rw[e]at d;cases d
  |some j=>
   rw[e]at d;obtain rfl:V.int (j:Int)=x:=ay d;have L:=g j (bI e);have y:=h.same.nj z;have zz:ky (p.map V.int) (j:Int)=some (V.int (p.getD j 0)):=bD (by rw[aV,eY,aZ (by omega)];rfl);have C:ky (p.map V.int) ((j:Int)+1)=some (V.int (p.getD (j+1) 0)):=bD (j:=j+1) (by rw[aV,eY,aZ (by omega)];rfl)
   lk
   ·exact h.next (by rw[aV,e];rfl) rfl (bt.refl _) (by rw[ae];exact dY (dO (by omega))) (cK V.int (az (by assumption)).symm)
   ·exact h.next (by rw[aV,e];rfl) rfl (bt.refl _) (by rw[ae];exact dY (dO (by omega))) (cK V.int (au (by assumption)).symm)
 ·refine k n D o m ?_;rw[e,cD.mpr (λ_ _=>rfl),bq,bq];rfl
def adf (A:Ad) (K:ah):Sp:=λvs H Q _=>∃(a b:ag) (p:List Int) (x:b8),vs=[.ref a,.ref b]/\gL K H a (p.map V.int)/\Ref p/\bX A H b x/\∀H' q,bt H H'->H q=none->H' q=some (.lst ((Ab x.r0 p).map V.int))->Q (.ref q) H'
def S8:=show FO P w K mg base 2 _ _ _ (adf A K) by
 exists T.Pb.gp ado
 obtain⟨a,b,p,x,rfl,d,J,⟨dx,u⟩,k⟩:=h;refine⟨_,(aq (aW (bN (Mx T) hr T.MF T.G6.kp T.Qv (aa (pv 0) (aa (cP fg (l0 rfl T.Y3) (cP fg (pv 0) bc)) (aa (aK T.bC T.cU (pv 1)) ai)))))),?_⟩;have y:=T.RB.sq H;cases J with
 |one s f r g c=>
  have i:ky (([1,s,f,r,g,c]:List Int).map V.int) 0=some (V.int 1):=bD (j:=0) rfl;have zz:ky [V.ref A.wB,V.ref A.mv,V.ref A.mr] 1=some (V.ref A.mv):=bD (j:=1) rfl;refine⟨_,rfl,_,rfl,a,_,_,_,rfl,rfl,d,i,A.X1,_,_,_,rfl,rfl,y,zz,_,rfl,b,dx,_,_,rfl,u,rfl,a,A.mv,[1,s,f,r,g,c],[2],x.r0,rfl,d,T.N6.sq H,by decide,by simp,λm q s n e=>k m q s n e⟩
 |two s f r g c C o z D=>
  have i:ky (([2,s,f,r,g,c,C,o,z,D]:List Int).map V.int) 0=some (V.int 2):=bD (j:=0) rfl;have zz:ky [V.ref A.wB,V.ref A.mv,V.ref A.mr] 2=some (V.ref A.mr):=bD (j:=2) rfl;refine⟨_,rfl,_,rfl,a,_,_,_,rfl,rfl,d,i,A.X1,_,_,_,rfl,rfl,y,zz,_,rfl,b,dx,_,_,rfl,u,rfl,a,A.mr,[2,s,f,r,g,c,C,o,z,D],[2,6],x.r0,rfl,d,T.N5.sq H,by decide,by simp,λm q s n e=>k m q s n e⟩
def Vr (A:Ad) (K:ah):Sp:=λvs H Q _=>∃(a b:ag) (p:List Int) (x:b8),vs=[.ref a,.ref b]/\gL K H a (p.map V.int)/\Ref p/\bX A H b x/\∀H' q,bt H H'->H q=none->H' q=some (.lst ((Dr x.c0 p).map V.int))->Q (.ref q) H'
def Jv:=show FO P w K mg base 2 _ _ _ (Vr A K) by
 exists T.Cz.gp Vy
 obtain⟨a,b,p,x,rfl,d,J,⟨dx,u⟩,k⟩:=h;refine⟨_,(aq (aW (bN (Mx T) hr T.MF T.G6.kp T.Qv (aa (pv 0) (aa (cP fg (l0 rfl T.KQ) (cP fg (pv 0) bc)) (aa (aK T.bC T.cB (pv 1)) ai)))))),?_⟩;have y:=T.Kk.sq H;cases J with
 |one s f r g c=>
  have i:ky (([1,s,f,r,g,c]:List Int).map V.int) 0=some (V.int 1):=bD (j:=0) rfl;have zz:ky [V.ref A.mw,V.ref A.iF,V.ref A.iE] 1=some (V.ref A.iF):=bD (j:=1) rfl;refine⟨_,rfl,_,rfl,a,_,_,_,rfl,rfl,d,i,A.Hq,_,_,_,rfl,rfl,y,zz,_,rfl,b,dx,_,_,rfl,u,rfl,a,A.iF,[1,s,f,r,g,c],[4],x.c0,rfl,d,T.Bi.sq H,by decide,by simp,λm q s n e=>k m q s n e⟩
 |two s f r g c C o z D=>
  have i:ky (([2,s,f,r,g,c,C,o,z,D]:List Int).map V.int) 0=some (V.int 2):=bD (j:=0) rfl;have zz:ky [V.ref A.mw,V.ref A.iF,V.ref A.iE] 2=some (V.ref A.iE):=bD (j:=2) rfl;refine⟨_,rfl,_,rfl,a,_,_,_,rfl,rfl,d,i,A.Hq,_,_,_,rfl,rfl,y,zz,_,rfl,b,dx,_,_,rfl,u,rfl,a,A.iE,[2,s,f,r,g,c,C,o,z,D],[4,8],x.c0,rfl,d,T.Bh.sq H,by decide,by simp,λm q s n e=>k m q s n e⟩
def Few (l:List Int):Prop:=(∃a,l=[a])\/∃a b,l=[a,b]
def Ref.abT {p:List Int} (h:Ref p) (o:Int):Few (Ab o p):=by cases h with|one=>exact .inl ⟨_,rfl⟩|two=>exact .inr ⟨_,_,rfl⟩
def Ref.abU {p:List Int} (h:Ref p) (o:Int):Few (Dr o p):=by cases h with|one=>exact .inl ⟨_,rfl⟩|two=>exact .inr ⟨_,_,rfl⟩
def anf (h:Few l) {m:Int} (hm:m∈l) (f:∀y,y∈l->m<=y):m=loL l:=by
 rcases h with⟨a,rfl⟩|⟨a,b,rfl⟩
 ·exact br.mp hm
 ·have e:=f a (by simp);have d:=f b (by simp);show m=min a b;rcases aY.mp hm with rfl|hm
  ·omega
  ·have:=br.mp hm;omega
def anv (h:Few l) {m:Int} (hm:m∈l) (f:∀y,y∈l->y<=m):m=hiL l:=by
 rcases h with⟨a,rfl⟩|⟨a,b,rfl⟩
 ·exact br.mp hm
 ·have e:=f a (by simp);have d:=f b (by simp);show m=max a b;rcases aY.mp hm with rfl|hm
  ·omega
  ·have:=br.mp hm;omega
def Few.pos (h:Few l):0<l.length:=by rcases h with⟨a,rfl⟩|⟨a,b,rfl⟩<;>simp
def QR (A:Ad) (K:ah):Sp:=λvs H Q _=>∃(a b e g:ag) (z s:Int) (p:List Int) (x:b8) (rows d:List Int),vs=[.ref a,.ref b,.ref e,.ref g]/\gL K H a ((z::s::p).map V.int)/\bX A H b x/\dv K H e (rows.map V.int)/\dv K H g (d.map V.int)/\Few rows/\Few d/\
 y3 A H Q ⟨if s=0 then x.sheet else s - 1,loL rows,hiL rows,loL d,hiL d⟩
def CZ:=show FO P w K mg base 3 _ _ _ (QR A K) by
 exists T.xN.gp CM
 obtain⟨a,b,Y,Z,z,n,p,x,rows,o,rfl,ha,⟨dx,hx⟩,D,J,fr,m,k⟩:=h
 refine⟨_,(aj (bS 4 CM.nd (jP (cS i7 (cP fg (pv 0) bc) (bE rfl T.BW)) (aK T.bC T.du (pv 1)) (gi lP (cP fg (pv 0) bc) bc)))
  (aq (aW (jy T.yB (jR T) hr T.yE T.kI (aa (pv 4) (aa (cG (Zr rfl) rfl T.Tq Uu (aa (pv 2) ai)) (aa (cG (ajS rfl) rfl T.YR Zw (aa (pv 2) ai)) (aa (cG (Zr rfl) rfl T.Tq Uu (aa (pv 3) ai)) (aa (cG (ajS rfl) rfl T.YR Zw (aa (pv 3) ai)) ai))))))))),?_⟩
 have zz:ky ((z::n::p).map V.int) 1=some (V.int n):=bD (j:=1) rfl;have B:=fr.pos;have F:=m.pos
 lk
 all_goals
  intro U X i
  lk
  intro O S g
  lk
  intro I M e
  lk
  intro G L d;rw[anf fr X i,anv fr S g,anf m M e,anv m L d]
  lk
  intro q f C y u;refine BR k q f C y u _ _ ?_;simp[*]
def Si (K:ah):Sp:=λvs H Q _=>∃(a:ag) (l:List Int) (x y:Int),vs=[.ref a,.int x,.int y]/\dv K H a (l.map V.int)/\Few l/\∀H' q,bt H H'->H q=none->H' q=some (.lst ((rm l x y).map V.int))->Q (.ref q) H'
def Fy:=show FO P w K mg base 1 _ _ _ (Si K) by
 exists T.zF.gp SD
 obtain⟨a,l,x,y,rfl,e,d,k⟩:=h;refine⟨_,(aq (aW (jP (cS Js (cP dW (pv 0) bc) (cP dW (pv 0) (aix ac4 bc))) (di (aa (pv 2) (aa (pv 1) ai))) (di (aa (pv 1) (aa (pv 2) ai)))))),?_⟩
 have g:ky (l.map V.int) 0=some (V.int (l.headD 0)):=by
  rcases d with⟨u,rfl⟩|⟨u,v,rfl⟩
  ·exact bD (j:=0) rfl
  ·exact bD (j:=0) rfl
 have zz:ky (l.map V.int) (-1)=some (V.int (l.getLastD 0)):=by
  rcases d with⟨u,rfl⟩|⟨u,v,rfl⟩
  ·rfl
  ·rfl
 lk
 all_goals
  intro q b;refine k _ q (bt.new b) b ?_;rw[ao];unfold rm
 ·rw[az (by assumption)];rfl
 ·rw[au (by assumption)];rfl
def jH (kvs:List (Key×V)) (p:List Int) (x:b8):Bool:=(gF kvs (bh (vE p x).sheet)).isSome&&(vE p x).on
def Ref.zz {p:List Int} (h:Ref p):∃z s q,p=z::s::q/\p.getD 1 0=s:=by cases h<;>exact⟨_,_,_,rfl,rfl⟩
def Kv (A:Ad) (K:ah):Sp:=λvs H Q _=>∃(a b d:ag) (p:List Int) (x:b8) (kvs:List (Key×V)),vs=[.ref a,.ref b,.ref d]/\gL K H a (p.map V.int)/\Ref p/\bX A H b x/\H d=some (.dK kvs)/\∀H',bt H H'->Q (.bl (jH kvs p x)) H'
def oO:=show FO P w K mg base 4 _ _ _ (Kv A K) by
 exists T.mi.gp wG
 obtain⟨a,b,d,p,x,i,rfl,F,j,⟨dx,q⟩,hd,k⟩:=h
 exists (aj (bS 3 wG.nd (bN (CZ T) hr T.C4 T.xN.kp T.GH (aa (pv 0) (aa (pv 1) (aa (bN (S8 T) hr T.Ts T.Pb.kp T.XD (aa (pv 0) (aa (pv 1) ai))) (aa (bN (Jv T) hr T.JA T.Cz.kp T.Nu (aa (pv 0) (aa (pv 1) ai))) ai))))))
  (aq (aW (Ox (ady (aiB (iu hr) (aK T.bC T.du (pv 3)) (pv 2))) (BB (fA (pv 3) T.bC T.vg (ve T) hr T.xI)))))),0
 intro H1 X g n1 U;have C:=g.nj F;have D:=g _ _ q
 lk
 intro n S e n2 O;obtain⟨z,L,f,I,G⟩:=j.zz;have B:gL K n a ((z::L::f).map V.int):=by rw[<-I];exact e.nj C
 have Z:=e _ _ D;have l1:dv K n X ((Ab x.r0 p).map V.int):=dv.of (e _ _ U);have l2:dv K n S ((Dr x.c0 p).map V.int):=dv.of O;have f1:=j.abT x.r0;have f2:=j.abU x.c0
 lk
 rintro H3 M J n3 ⟨Y,y⟩
 have y:H3 M=some (.ins A.m8 Y (arF (vE p x))):=by rw[y];unfold vE;rw[G]
 have o:bt H H3:=(g.trans e).trans J;have m:=o _ _ hd;have hg:jt H3 d (.int (vE p x).sheet) (gF i (bh (vE p x).sheet)):=jt.k (k:=bh (vE p x).sheet) m;have u:=k H3 o
 lk
 ·rename_i h;exact Yv u (by unfold jH;rw[h,bM])
 ·rename_i h;exact Yv u (by unfold jH;rw[h,cq])
def oU (p:List Int):Prop:=p≠[]/\(lS p=true->Ref p)
theorem f9 {α f:Type} {F:α->f->Prop} {xs:List α} {ys:List f} {i:Nat} {x:α} {y:f} (h:Paired F xs ys) (a:xs[i]? =some x) (b:ys[i]? =some y):F x y:=by
 induction h generalizing i with
 |nil=>cases a
 |cons r _ k=>
  cases i with
  |zero=>cases a;cases b;exact r
  |succ i=>exact k a b
def mU (kvs:List (Key×V)) (c:hW) (x:b8):Bool:=if c.kind=1 then(c.parts.filter lS).all λp=>jH kvs p x else true
def DG (A:Ad) (K:ah):Sp:=λvs H Q _=>∃(a b d:ag) (c:hW) (x:b8) (kvs:List (Key×V)),vs=[.ref a,.ref b,.ref d]/\nz A K H a c/\bX A H b x/\H d=some (.dK kvs)/\(c.kind=1->∀p∈c.parts,oU p)/\c.parts.length<=1000/\∀H',bt H H'->Q (.bl (mU kvs c x)) H'
def rM:=show FO P w K mg base 5 _ _ _ (DG A K) by
 exists T.mJ.gp lM
 obtain⟨a,b,d,c,x,g,rfl,⟨da,l,hc,ts,G,u⟩,⟨dx,X⟩,hd,J,B,k⟩:=h
 refine⟨_,(aj (ee (cS sE (aK T.ij T.lu (pv 0)) (bE rfl T.xc)) (aq (aW Ft)) cv)
  (aq (aW (cG (OW rfl) rfl T.OG O0 (aa (oN (own:=[("part",3)]) rfl lM.nd (jO (aK T.ij T.jg (pv 0))) (jq rfl) (λ_ _ _ _ _=>(eC 3 lM.nd)) (λ_ _ _ _ _=>(Yy (iG (bN (oC T) hr T.oF T.mI.kp T.qU (aa (pv 3) ai))))) (λ_ _ _ _ _=>(bN (oO T) hr T.oP T.mi.kp T.qS (aa (pv 3) (aa (pv 1) (aa (pv 2) ai)))))) ai))))),?_⟩
 have S:=k H (bt.refl H);have sq:dv K H l (ts.map V.ref):=dv.of G;have y:ts.length=c.parts.length:=eM u;by_cases o:c.kind=1
 ·lk
  refine MP c.parts lS (λp=>V.bl (jH g p x)) sq (by rw[ae];exact y) (λD i v p n I j m h=>?_) (λD n I f e=>?_)
  ·rw[aV]at j;cases e:ts[i]? with
   |none=>rw[e]at j;cases j
   |some t=>
    rw[e]at j;obtain rfl:V.ref t=v:=ay j;have Y:gL K n t (p.map V.int):=h.same.nj (f9 (F:=λt (p:List Int)=>gL K H t (p.map V.int)) u e m);obtain⟨O,C⟩:=J o p (bI m);have Ç:=h.same _ _ X;have Z:=h.same _ _ hd;cases p with
    |nil=>exact absurd rfl O
    |cons z q=>
     by_cases hr:lS (z::q)=true
     ·have L:(z::q).getD 0 0=1\/(z::q).getD 0 0=2:=cb hr;have U:=C hr
      lk
      intro H2 M;exact h.next m hr M (dY (dO B)) rfl
     ·have L:¬((z::q).getD 0 0=1\/(z::q).getD 0 0=2):=λw=>hr (aD w)
      lk
      exact h.no m (by rw[wt]at hr;exact hr) (bt.refl _)
  ·rw[show(λp=>V.bl (jH g p x))=V.bl∘(λp=>jH g p x)from rfl,<-bq]at e;have Å:dv K n D (((c.parts.filter lS).map λp=>jH g p x).map V.bl):=dv.of e
   lk
   exact Yv (k n f) (by rw[all_map];unfold mU;rw[az o])
 ·lk
  exact Yv S (by unfold mU;rw[au o])
def wj (z:Int):Bool:=decide (0<=z)&&decide (z<=255)
def oct (x:List Int):List UInt8:=x.map fun(z:Int)=>dI z.toNat
def mS:wj z=true↔0<=z/\z<=255:=by unfold wj;simp
def ke (h:0<=z/\z<=255):(dI z.toNat).toNat=z.toNat:=by
 rw[ahX];omega
def adm {c:Int} (h:c<0\/(127<c/\c<194)\/244<c):shapeOf c=none:=by
 unfold shapeOf mM;simp only[fT,List.find?_nil,shC,jC,lL]
 repeat rw[ba (by omega)]
def aln {c:Int} (h:0<=c/\c<=127):shapeOf c=some [0,127,0,128,191]:=by
 unfold shapeOf mM;simp only[fT,shC,jC,lL];rw[aD (by omega)]
def alm {c:Int} (h:194<=c/\c<=223):shapeOf c=some [194,223,1,128,191]:=by
 unfold shapeOf mM;simp only[fT,shC,jC,lL]
 repeat (first|rw[aD (by omega)]|rw[ba (by omega)])
def alk {c:Int} (h:224<=c/\c<=239):shapeOf c=some [c - (if c=224\/c=237 then 0 else if c<237 then c - 225 else c - 238),(if c=224\/c=237 then c else if c<237 then 236 else 239),2,(if c=224 then 160 else 128),(if c=237 then 159 else 191)]:=by
 unfold shapeOf mM;simp only[fT,shC,jC,lL];by_cases d:c=224
 ·subst d;rfl
 by_cases b:c=237
 ·subst b;rfl
 by_cases a:c<237
 ·rw[au (by omega),az a,au (by omega),az a,au d,au b]
  repeat (first|rw[aD (by omega)]|rw[ba (by omega)])
  dsimp only;rw[show c - (c - 225)=225 by omega]
 ·rw[au (by omega),au a,au (by omega),au a,au d,au b]
  repeat (first|rw[aD (by omega)]|rw[ba (by omega)])
  dsimp only;rw[show c - (c - 238)=238 by omega]
def alj {c:Int} (h:240<=c/\c<=244):∃a b,shapeOf c=some [a,b,3,(if c=240 then 144 else 128),(if c=244 then 143 else 191)]:=by
 unfold shapeOf mM;simp only[fT,shC,jC,lL];obtain rfl|rfl|rfl|rfl|rfl:c=240\/c=241\/c=242\/c=243\/c=244:=by omega
 ·exact⟨_,_,rfl⟩
 ·exact⟨_,_,rfl⟩
 ·exact⟨_,_,rfl⟩
 ·exact⟨_,_,rfl⟩
 ·exact⟨_,_,rfl⟩
def w_1 (h:a.toNat<128):gO (a::r)=gO r:=by
 rw[Wbk.utf8.eq_def];exact az h
def w_2 {b:UInt8} (h:194<=a.toNat/\a.toNat<224):gO (a::b::r)=((decide (128<=b.toNat)&&decide (b.toNat<=191))&&gO r):=by
 rw[Wbk.utf8.eq_def];simp only;rw[au (by omega),az h]
def avo (h:194<=a.toNat/\a.toNat<224):gO [a]=false:=by
 rw[Wbk.utf8.eq_def];simp only;rw[au (by omega),az h]
def w_3 {b c:UInt8} (h:224<=a.toNat/\a.toNat<240):gO (a::b::c::r)=((decide ((if a.toNat=224 then 160 else 128)<=b.toNat)&&decide (b.toNat<=(if a.toNat=237 then 159 else 191)))&&((decide (128<=c.toNat)&&decide (c.toNat<=191))&&gO r)):=by
 rw[Wbk.utf8.eq_def];simp only;rw[au (by omega),au (by omega),az h]
def aqN (h:224<=a.toNat/\a.toNat<240) (f:r.length<2):gO (a::r)=false:=by
 rw[Wbk.utf8.eq_def];simp only;rw[au (by omega),au (by omega),az h]
 match r,f with
 |[],_=>rfl
 |[_],_=>rfl
def w_4 {b c d:UInt8} (h:240<=a.toNat/\a.toNat<245):gO (a::b::c::d::r)=((decide ((if a.toNat=240 then 144 else 128)<=b.toNat)&&decide (b.toNat<=(if a.toNat=244 then 143 else 191)))&&((decide (128<=c.toNat)&&decide (c.toNat<=191))&&((decide (128<=d.toNat)&&decide (d.toNat<=191))&&gO r))):=by
 rw[Wbk.utf8.eq_def];simp only;rw[au (by omega),au (by omega),au (by omega),az h]
def anT (h:240<=a.toNat/\a.toNat<245) (f:r.length<3):gO (a::r)=false:=by
 rw[Wbk.utf8.eq_def];simp only;rw[au (by omega),au (by omega),au (by omega),az h]
 match r,f with
 |[],_=>rfl
 |[_],_=>rfl
 |[_,_],_=>rfl
def avn (h:(127<a.toNat/\a.toNat<194)\/244<a.toNat):gO (a::r)=false:=by
 rw[Wbk.utf8.eq_def];simp only;rw[au (by omega),au (by omega),au (by omega),au (by omega)]
def fb {d:Int} (h:hi<=255):(wj d&&(decide (lo<=(dI d.toNat).toNat)&&decide ((dI d.toNat).toNat<=hi)))=decide ((lo:Int)<=d/\d<=(hi:Int)):=by
 by_cases a:0<=d/\d<=255
 ·rw[mS.mpr a,ke a,bM,<-kM];exact lg.mpr (by omega)
 ·rw[show wj d=false by(rw[<-wt,mS];exact a),cq];exact(ba (by omega)).symm
def re3 (A q B f R W:Bool):((A&&(q&&R))&&(B&&(f&&W)))=((A&&B)&&((q&&f)&&(R&&W))):=by ac_rfl
def re4 (A G F B q f R W:Bool):((A&&(G&&(F&&R)))&&(B&&(q&&(f&&W))))=((A&&B)&&((G&&q)&&((F&&f)&&(R&&W)))):=by ac_rfl
def asS {a b lo hi d e:Int} (q:128<=lo) (f:hi<=191):l8 [a,b,2,lo,hi] [d,e]=(decide (lo<=d/\d<=hi)&&decide (128<=e/\e<=191)):=by
 show(decide ((2:Int)<=2)&&(decide (lo<=d/\d<=hi)&&(follow d&&(follow e&&true))))=_;rw[aD (by decide),bM,dh];by_cases h:lo<=d/\d<=hi
 ·rw[aD h,show follow d=true from aD (by omega),bM,bM,bM];rfl
 ·rw[ba h,cq,cq]
def asR {a b lo hi d e f:Int} (B:128<=lo) (q:hi<=191):l8 [a,b,3,lo,hi] [d,e,f]=(decide (lo<=d/\d<=hi)&&(decide (128<=e/\e<=191)&&decide (128<=f/\f<=191))):=by
 show(decide ((3:Int)<=3)&&(decide (lo<=d/\d<=hi)&&(follow d&&(follow e&&(follow f&&true)))))=_;rw[aD (by decide),bM,dh];by_cases h:lo<=d/\d<=hi
 ·rw[aD h,show follow d=true from aD (by omega),bM,bM,bM];rfl
 ·rw[ba h,cq,cq]
def xh {s:List Int} (h:(l.length:Int)<s.getD 2 0):l8 s l=false:=by
 unfold l8;rw[ba (by omega),cq]
def asT {a b d:Int}:l8 [a,b,1,128,191] [d]=decide (128<=d/\d<=191):=by
 unfold l8 HK follow;simp only[jC,lL,j0,gX,Kh,dh];simp
theorem LO:∀(n:Nat) (x:List Int),x.length<=n->nJ x=(x.all wj&&gO (oct x))
 |n,[],_=>rfl
 |0,c::r,h=>by simp at h
 |n+1,c::r,h=>by
  simp only[ak]at h;show nJ (c::r)=((wj c&&r.all wj)&&gO (dI c.toNat::oct r));by_cases G:c<0\/(127<c/\c<194)\/244<c
  ·rw[Wu (adm G)];by_cases B:0<=c/\c<=255
   ·rw[avn (by rw[ke B];omega),eU]
   ·rw[show wj c=false by(unfold wj;by_cases z:0<=c;rw[ba (show ¬c<=255 by omega),eU];rw[ba z,cq]),cq,cq]
  have F:0<=c/\c<=255:=by omega
  have en:=ke F;rw[mS.mpr F,bM];by_cases l:c<=127
  ·rw[wd (aln ⟨F.1,l⟩),w_1 (by rw[en];omega)];show(l8 _ (r.take 0)&&nJ (r.drop 0))=_;rw[Bf,apV,LO n r (by omega)];rfl
  by_cases j:c<=223
  ·rw[wd (alm ⟨by omega,j⟩)];show(l8 _ (r.take 1)&&nJ (r.drop 1))=_
   match r,h with
   |[],_=>rw[show oct []=[]from rfl,avo (by rw[en];omega),eU];rfl
   |d::q,h=>
    simp only[ak]at h;rw[show oct (d::q)=dI d.toNat::oct q from rfl,w_2 (by rw[en];omega)];show(l8 _ [d]&&nJ q)=((wj d&&q.all wj)&&_);rw[LO n q (by omega),asT];by_cases hd:128<=d/\d<=191
    ·have m:=ke (z:=d) (by omega);rw[m,aD hd,mS.mpr (by omega),aD (show 128<=d.toNat by omega),aD (show d.toNat<=191 by omega)];simp
    ·rw[ba hd,cq];by_cases B:0<=d/\d<=255
     ·rw[ke B];rw[show(decide (128<=d.toNat)&&decide (d.toNat<=191))=false by(rw[<-kM];exact ba (by omega))];simp
     ·rw[show wj d=false by(rw[<-wt,mS];exact B)];simp
  by_cases i:c<=239
  ·rw[wd (alk ⟨by omega,i⟩)];show(l8 _ (r.take 2)&&nJ (r.drop 2))=_
   match r,h with
   |[],_=>rw[aqN (by rw[en];omega) (by show 0<2;decide),eU,xh (by show(0:Int)<2;decide),cq]
   |[d],_=>rw[aqN (by rw[en];omega) (by show 1<2;decide),eU,xh (by show(1:Int)<2;decide),cq]
   |d::e::q,h=>
    simp only[ak]at h;rw[show oct (d::e::q)=dI d.toNat::dI e.toNat::oct q from rfl,w_3 (by rw[en];omega)];show(l8 _ [d,e]&&nJ q)=((wj d&&(wj e&&q.all wj))&&_);rw[LO n q (by omega),re3,fb (by split<;>decide),fb (by decide),asS (by split<;>decide) (by split<;>decide),pO,en]
    congr 1
    ·exact lg.mpr (by split<;>split<;>split<;>split<;>omega)
  ·obtain⟨a,b,g⟩:=alj (c:=c) ⟨by omega,by omega⟩;rw[wd g];show(l8 _ (r.take 3)&&nJ (r.drop 3))=_
   match r,h with
   |[],_=>rw[anT (by rw[en];omega) (by show 0<3;decide),eU,xh (by show(0:Int)<3;decide),cq]
   |[d],_=>rw[anT (by rw[en];omega) (by show 1<3;decide),eU,xh (by show(1:Int)<3;decide),cq]
   |[d,e],_=>rw[anT (by rw[en];omega) (by show 2<3;decide),eU,xh (by show(2:Int)<3;decide),cq]
   |d::e::f::q,h=>
    simp only[ak]at h;rw[show oct (d::e::f::q)=dI d.toNat::dI e.toNat::dI f.toNat::oct q from rfl,w_4 (by rw[en];omega)];show(l8 _ [d,e,f]&&nJ q)=((wj d&&(wj e&&(wj f&&q.all wj)))&&_);rw[LO n q (by omega),re4,fb (by split<;>decide),fb (by decide),fb (by decide),asR (by split<;>decide) (by split<;>decide),pO,pO,en]
    congr 1
    ·exact lg.mpr (by split<;>split<;>split<;>split<;>omega)
def aeS (x:List Int):nJ x=(x.all wj&&gO (oct x)):=LO x.length x (aS _)
def apI {α q:Type} (p:Kd α) (f:α->Kd q) (l:List Int):(p>>= f) l=(p l).bind λy=>f y.1 y.2:=rfl
def gR {α q:Type} (p:R α) (f:α->R q) (l:List Int):(p.bind f) l=(p l).bind λy=>f y.1 y.2:=by
 unfold R.bind;cases p l<;>rfl
def abd (m:Nat) (z:Int) (r:List Int):bA m (z::r)=if 0<=z/\z<(m:Int)then some (z.toNat,r)else none:=by
 show(if 0<=z/\z<(m:Int)then(pure z.toNat:Kd Nat)else anM) r=_;split<;>rfl
def aao (lo hi z:Int) (r:List Int):oz lo hi (z::r)=if z<lo\/hi<z then none else some (z,r):=by
 show(if z<lo\/hi<z then R.fail else R.pure z) r=_;split<;>rfl
def lV {m:Nat} (h:hi<m) (l:List Int):oz lo hi l=(bA m l).bind λy=>if lo<=y.1/\y.1<=hi then some ((y.1:Int),y.2)else none:=by
 cases l with
 |nil=>rfl
 |cons z r=>
  rw[aao,abd];by_cases a:0<=z/\z<(m:Int)
  ·rw[az a];show _=if lo<=z.toNat/\z.toNat<=hi then some ((z.toNat:Int),r)else none
   by_cases c:z<lo\/(hi:Int)<z
   ·rw[az c,au (by omega)]
   ·rw[au c,az (by omega),iL a.1]
  ·rw[au a,az (by omega)];rfl
def eN {m:Nat} {r:List Int} (h:bA m l=some (n,r)):l=(n:Int)::r/\n<m:=by
 cases l with
 |nil=>cases h
 |cons z l=>
  rw[abd]at h;by_cases c:0<=z/\z<(m:Int)
  ·rw[az c]at h;obtain⟨b,a⟩:=kZ (ay h);subst b a;exact⟨by rw[iL c.1],by omega⟩
  ·rw[au c]at h;cases h
def ab4 (l:List Int):cg l=(bA 65536 l).bind λy=>if y.2.length<y.1 then none else if(y.2.take y.1).all wj=true then some (oct (y.2.take y.1),y.2.drop y.1)else none:=by
 show((bA 65536 l).bind λy=>((fun(l:List Int)=>if l.length<y.1 then none else some (l.take y.1,l.drop y.1)) y.2).bind λz=>(if(z.1.all fun(z:Int)=>decide (0<=z)&&decide (z<=255))=true then(pure (z.1.map fun(z:Int)=>dI z.toNat):Kd iW)else anM) z.2)=_
 congr 1
 funext y
 dsimp only;by_cases c:y.2.length<y.1
 ·rw[az c,az c];rfl
 ·rw[au c,au c];show(if((y.2.take y.1).all wj)=true then(pure (oct (y.2.take y.1)):Kd iW)else anM) (y.2.drop y.1)=_;split<;>rfl
def Hx (x:List Int):(oct x).length=x.length:=ae ..
def FD {x:List Int} (h:x.all wj=true):(oct x).map (fun(c:UInt8)=>(c.toNat:Int))=x:=by
 induction x with
 |nil=>rfl
 |cons z x a=>
  rw[gX,aC]at h;show(((dI z.toNat).toNat:Int))::(oct x).map (fun(c:UInt8)=>(c.toNat:Int))=z::x;rw[a h.2,ke (mS.mp h.1),iL (mS.mp h.1).1]
def kW {r:List Int} {b:iW} (h:cg l=some (b,r)):l=bV b++r:=by
 rw[ab4]at h;cases e:bA 65536 l with
 |none=>rw[e]at h;cases h
 |some y=>
  obtain⟨n,s⟩:=y;rw[e]at h;obtain⟨i,_⟩:=eN e;simp only[bG]at h;by_cases c:s.length<n
  ·rw[az c]at h;cases h
  ·rw[au c]at h;by_cases d:((s.take n).all wj)=true
   ·rw[az d]at h;obtain⟨g,a⟩:=kZ (ay h);subst g a;rw[i];unfold bV;rw[Hx,b7,nG (by omega),FD d,eQ,dP]
   ·rw[au d]at h;cases h
def WM (h:hi<65536) (C:List Int->Bool) (D:iW->Bool) (f:∀x,C x=(x.all wj&&D (oct x))) (l:List Int):
 ((R1 lo hi).bind λx=>if C x=true then R.pure ()else R.fail) l=(cg l).bind λy=>if(lo<=y.1.length/\y.1.length<=hi)/\D y.1=true then some ((),y.2)else none:=by
 rw[gR,ab4];show(((oz lo hi).bind λn=>Wx n.toNat) l).bind _=_;rw[gR,lV h];cases e:bA 65536 l with
 |none=>rfl
 |some y=>
  obtain⟨n,s⟩:=y;simp only[bG];by_cases c:s.length<n
  ·rw[az c];by_cases c1:lo<=n/\n<=hi
   ·rw[az c1];simp only[bG,Wx,dz];rw[az c];rfl
   ·rw[au c1];rfl
  ·rw[au c];have b:(s.take n).length=n:=by rw[b7];omega
   by_cases c1:lo<=n/\n<=hi
   ·rw[az c1];simp only[bG,Wx,dz];rw[au c];simp only[bG];rw[f];by_cases d:((s.take n).all wj)=true
    ·rw[az d,d,bM];simp only[bG];rw[Hx,b];by_cases a:D (oct (s.take n))=true
     ·rw[az a,az ⟨c1,a⟩];rfl
     ·rw[au a,au (λz=>a z.2)];rfl
    ·rw[au d,au (by rw[wt]at d;rw[d];simp)];rfl
   ·rw[au c1];by_cases d:((s.take n).all wj)=true
    ·rw[az d];simp only[bG,RW];rw[Hx,b,au (λz=>c1 z.1)]
    ·rw[au d];rfl
def WO (h:hi<65536) (l:List Int):Bx lo hi l=(cg l).bind λy=>if(lo<=y.1.length/\y.1.length<=hi)/\gO y.1=true then some ((),y.2)else none:=
 WM h nJ gO aeS l
def alQ (h:wj z=true):adE z=((dI z.toNat)==95||(decide (65<=(dI z.toNat).toNat)&&decide ((dI z.toNat).toNat<=90))):=by
 have a:=mS.mp h
 have e:((dI z.toNat)==(95:UInt8))=decide (z=95):=by
  rw[cO];simp only[fO,aX];constructor
  ·intro q;have:=cK atv q;rw[ke a]at this;have b:(95:UInt8).toNat=95:=rfl;omega
  ·intro q;subst q;rfl
 rw[e,ke a,<-kM,<-NZ];exact lg.mpr (by omega)
def aoz (h:wj z=true):nmB z=QG (dI z.toNat):=by
 have a:=mS.mp h
 have e:∀k:Nat,k<256->((dI z.toNat)==(dI k))=decide (z=k):=λk b=>by
  rw[cO];simp only[fO,aX];constructor
  ·intro q;have:=cK atv q;rw[ke a,ahX]at this;omega
  ·intro q;rw[q];rfl
 unfold QG;rw[show(95:UInt8)=dI 95 from rfl,show(46:UInt8)=dI 46 from rfl,e 95 (by decide),e 46 (by decide),ke a,<-kM,<-kM,<-NZ,<-NZ,<-NZ];exact lg.mpr (by omega)
def aeu {p:Int->Bool} (f:∀z,p z=true->wj z=true) {x:List Int} (h:x.all p=true):x.all wj=true:=
 eA.mpr λz a=>f z (eA.mp h z a)
def aoA (h:nmB z=true):wj z=true:=by
 have:=cb h;exact mS.mpr (by omega)
def afM {p:Int->Bool} {q:UInt8->Bool} (f:∀z,wj z=true->p z=q (dI z.toNat)) {x:List Int} (h:x.all wj=true):x.all p=(oct x).all q:=by
 induction x with
 |nil=>rfl
 |cons z x a=>
  rw[gX,aC]at h;show(p z&&x.all p)=(q (dI z.toNat)&&(oct x).all q);rw[a h.2,f z h.1]
def abe (x:List Int):Jx x=(x.all wj&&cI (oct x)):=by
 by_cases h:x.all wj=true
 ·rw[h,bM];unfold Jx cI;rw[Hx,kM,pO,afM (λz a=>aoz a) h];cases x with
  |nil=>rfl
  |cons z x=>
   rw[gX,aC]at h;show(decide (1<=(z::x).length)&&(decide ((z::x).length<=64)&&(adE z&&(oct (z::x)).all QG)))=(decide (1<=(z::x).length)&&(decide ((z::x).length<=64)&&((oct (z::x)).all QG&&((dI z.toNat)==95||(decide (65<=(dI z.toNat).toNat)&&decide ((dI z.toNat).toNat<=90))))));rw[<-alQ h.1,aqM (adE z)]
 ·rw[wt]at h;rw[h,cq];unfold Jx;rw[show x.all nmB=false from DF.mpr (λq=>by rw[aeu (λz a=>aoA a) q]at h;cases h),eU,eU]
def adI {b:iW} (h:cI b=true):1<=b.length/\b.length<=64:=by
 unfold cI at h;rw[aC,aC]at h;exact⟨cb h.1,cb h.2.1⟩
def Ot (l:List Int):Ou l=(cg l).bind λy=>if cI y.1=true then some ((),y.2)else none:=by
 refine(WM (lo:=1) (hi:=64) (by decide) Jx cI abe l).trans ?_
 congr 1
 funext y
 by_cases h:cI y.1=true
 ·rw[az ⟨adI h,h⟩,az h]
 ·rw[au (λz=>h z.2),au h]
def af8 {x:List Int} (h:x.all wj=true):N4 x=U6 (oct x):=by
 unfold N4 U6;rw[aeS,h,bM,Hx,kM,pO,afM (q:=λc=>decide (32<=c.toNat)) (λz a=>by rw[ke (mS.mp a)];exact lg.mpr (by have:=mS.mp a;omega)) h,aqM ((oct x).all _)]
def RY (l:List Int):cw l=(bA 5 l).bind λy=>if y.1=0 then some (.empty,y.2)else if y.1=1 then(Lx y.2).bind λz=>some (.num z.1,z.2)else if y.1=2 then(cg y.2).bind λz=>some (.text z.1,z.2)
 else if y.1=3 then(bA 2 y.2).bind λz=>some (.truth (z.1==1),z.2)else(bA 256 y.2).bind λz=>some (.error z.1,z.2):=by
 show((bA 5 l).bind λy=>_)=_
 congr 1
 funext y
 obtain⟨k,s⟩:=y
 match k with
 |0=>rfl
 |1=>rfl
 |2=>rfl
 |3=>rfl
 |k+4=>rfl
def vOk (f:Int) (v:pS):Bool:=v.good&&(decide (f=0)||v != .empty)
def aoi (k:Nat) (f:k<=4) (s:List Int):rdV k s=(if k=0 then some ((.empty:pS),s)else if k=1 then(Lx s).bind λz=>some (.num z.1,z.2)else if k=2 then(cg s).bind λz=>some (.text z.1,z.2)
 else if k=3 then(bA 2 s).bind λz=>some (.truth (z.1==1),z.2)else(bA 256 s).bind λz=>some (.error z.1,z.2)).bind λy=>if y.1.good=true then some ((),y.2)else none:=by
 match k,f with
 |0,_=>rfl
 |1,_=>
  show aaW s=_;unfold aaW;cases s with
  |nil=>rfl
  |cons z r=>
   rw[gR,aao];show _=if(atq z)=true then some ((),r)else none
   have e:atq z=decide (¬(z<1 - 1000000000000000000000000000000000000\/1000000000000000000000000000000000000 - 1<z)):=by
    unfold atq;rw[<-kM]
    exact lg.mpr (by have:Wbk.BIG=1000000000000000000000000000000000000:=by decide
                     omega)
   rw[e];by_cases c:z<1 - 1000000000000000000000000000000000000\/1000000000000000000000000000000000000 - 1<z
   ·rw[az c,au (by rw[aX];exact λh=>h c)];rfl
   ·rw[au c,az (aD c)];rfl
 |2,_=>
  show Bx ((0:Nat):Int) ((4096:Nat):Int) s=_;rw[WO (by decide)];show _=((cg s).bind λz=>some ((.text z.1:pS),z.2)).bind _;cases cg s with
  |none=>rfl
  |some y=>
   show(if(0<=y.1.length/\y.1.length<=4096)/\gO y.1=true then some ((),y.2)else none)=if(decide (y.1.length<=4096)&&gO y.1)=true then some ((),y.2)else none
   by_cases c:y.1.length<=4096/\gO y.1=true
   ·rw[az ⟨⟨eI _,c.1⟩,c.2⟩,az (by rw[aD c.1,c.2];rfl)]
   ·rw[au (λz=>c ⟨z.1.2,z.2⟩),au (λz=>c (by rw[aC]at z;exact⟨cb z.1,z.2⟩))]
 |3,_=>
  show Mo s=_;unfold Mo;rw[gR,show oz 0 1 s=oz ((0:Nat):Int) ((1:Nat):Int) s from rfl,lV (m:=2) (by decide)];show _=((bA 2 s).bind λz=>some ((.truth (z.1==1):pS),z.2)).bind _;cases e:bA 2 s with
  |none=>rfl
  |some y=>
   have:=(eN (n:=y.1) (r:=y.2) e).2;show((if 0<=y.1/\y.1<=1 then some ((y.1:Int),y.2)else none).bind λy=>some ((),y.2))=if true=true then some ((),y.2)else none
   rw[az (by omega)];rfl
 |4,_=>
  show Mp s=_;unfold Mp;rw[gR,show oz 1 8 s=oz ((1:Nat):Int) ((8:Nat):Int) s from rfl,lV (m:=256) (by decide)];show _=((bA 256 s).bind λz=>some ((.error z.1:pS),z.2)).bind _;cases e:bA 256 s with
  |none=>rfl
  |some y=>
   show((if 1<=y.1/\y.1<=8 then some ((y.1:Int),y.2)else none).bind λy=>some ((),y.2))=if(decide (1<=y.1)&&decide (y.1<=8))=true then some ((),y.2)else none
   by_cases c:1<=y.1/\y.1<=8
   ·rw[az c,az (by rw[aD c.1,aD c.2];rfl)];rfl
   ·rw[au c,au (λz=>c (by rw[aC]at z;exact⟨cb z.1,cb z.2⟩))];rfl
def KL {α q:Type} (f:α->Option q):(none:Option α).bind f=none:=rfl
def aA {α q:Type} (x:α) (f:α->Option q):(some x).bind f=f x:=rfl
def KD (f:Nat) (B:f<=1) (l:List Int):mP f l=(cw l).bind λy=>if vOk f y.1=true then some ((),y.2)else none:=by
 unfold mP;rw[gR,show oz (f:Int) 4 l=oz (f:Int) ((4:Nat):Int) l from rfl,lV (m:=5) (by decide),RY];cases e:bA 5 l with
 |none=>rfl
 |some y=>
  obtain⟨k,s⟩:=y;have j:=(eN e).2;rw[aA,aA];dsimp only;by_cases c:f<=k
  ·rw[az ⟨c,by omega⟩,aA];dsimp only;rw[aoi k (by omega)];generalize a:(if k=0 then some ((.empty:pS),s)else if k=1 then(Lx s).bind λz=>some (.num z.1,z.2)else if k=2 then(cg s).bind λz=>some (.text z.1,z.2)else if k=3 then(bA 2 s).bind λz=>some (.truth (z.1==1),z.2)else(bA 256 s).bind λz=>some (.error z.1,z.2))=X;cases X with
   |none=>rfl
   |some v=>
    rw[aA,aA]
    have h:(decide ((f:Int)=0)||v.1 != .empty)=true:=by
     by_cases g:f=0
     ·subst g;rfl
     ·have:¬k=0:=by omega
      rw[au this]at a
      have i:v.1≠ .empty:=by
       intro q;split at a
       ·cases w:Lx s with
        |none=>rw[w]at a;cases a
        |some u=>rw[w]at a;have:=cK LC (ay a);rw[q]at this;cases this
       split at a
       ·cases w:cg s with
        |none=>rw[w]at a;cases a
        |some u=>rw[w]at a;have:=cK LC (ay a);rw[q]at this;cases this
       split at a
       ·cases w:bA 2 s with
        |none=>rw[w]at a;cases a
        |some u=>rw[w]at a;have:=cK LC (ay a);rw[q]at this;cases this
       ·cases w:bA 256 s with
        |none=>rw[w]at a;cases a
        |some u=>rw[w]at a;have:=cK LC (ay a);rw[q]at this;cases this
      rw[so];right;simpa using i
    unfold vOk;rw[h,dh]
  ·have d:k=0:=by omega
   have b:f=1:=by omega
   subst d b;rw[au (λz=>c z.1)];rfl
def aiG {r:List Int} (h:Lx l=some (z,r)):l=z::r:=by
 cases l with
 |nil=>cases h
 |cons y l=>cases h;rfl
def vM {r:List Int} {v:pS} (h:cw l=some (v,r)):l=eP v++r:=by
 rw[RY]at h;cases e:bA 5 l with
 |none=>rw[e]at h;cases h
 |some y=>
  obtain⟨k,s⟩:=y;rw[e,aA]at h;dsimp only at h;obtain⟨i,p⟩:=eN e;subst i;split at h
  ·rename_i d;subst d;cases h;rfl
  split at h
  ·rename_i _ d;subst d
   cases w:Lx s with
   |none=>rw[w]at h;cases h
   |some u=>rw[w]at h;obtain⟨a,b⟩:=u;cases h;rw[aiG w];rfl
  split at h
  ·rename_i _ _ d;subst d
   cases w:cg s with
   |none=>rw[w]at h;cases h
   |some u=>rw[w]at h;obtain⟨a,b⟩:=u;cases h;rw[kW w];rfl
  split at h
  ·rename_i _ _ _ d;subst d
   cases w:bA 2 s with
   |none=>rw[w]at h;cases h
   |some u=>
    rw[w]at h;obtain⟨a,b⟩:=u;obtain⟨g,x⟩:=eN w;cases h;rw[g];obtain rfl|rfl:a=0\/a=1:=by omega
    ·rfl
    ·rfl
  ·rename_i o n m j
   have:k=4:=by omega
   subst this;cases w:bA 256 s with
   |none=>rw[w]at h;cases h
   |some u=>rw[w]at h;obtain⟨a,b⟩:=u;cases h;rw[(eN w).1];rfl
inductive Node where
 |value (v:pS)
 |spot (sh:Option Nat) (s:oq)
 |area (sh:Option Nat) (a b:oq)
 |name (n:iW)
 |column (t c:iW) (part:Nat)
 |one (op:Nat)
 |two (op:Nat)
 |call (f:iW) (k:Nat)
 |grid (l:List (List pS))
variable {nd:Node}
def Node.inner:Node->Nat
 |.one _=>1
 |.two _=>2
 |.call _ k=>k
 |_=>0
def Node.nums:Node->List Int
 |.value v=>0::eP v
 |.spot sh s=>1::dG sh::dA s
 |.area sh a b=>2::dG sh::(dA a++dA b)
 |.name n=>3::bV n
 |.column t c part=>4::(bV t++(bV c++[(part:Int)]))
 |.one op=>[5,(op:Int)]
 |.two op=>[6,(op:Int)]
 |.call f k=>7::(bV f++[(k:Int)])
 |.grid l=>8::(l.length:Int)::((l.headD []).length:Int)::l.flatten.flatMap eP
def Node.mk:Node->List bO->bO
 |.value v,_=>.value v
 |.spot sh s,_=>.spot sh s
 |.area sh a b,_=>.area sh a b
 |.name n,_=>.name n
 |.column t c p,_=>.column t c p
 |.one op,es=>.one op (es.headD (.value .empty))
 |.two op,es=>.two op (es.headD (.value .empty)) (es.tail.headD (.value .empty))
 |.call f _,es=>.call f es
 |.grid l,_=>.grid l
def yk (v:pS):Bool:=v.good&&v != .empty
def Node.ok:Node->Bool
 |.value v=>yk v
 |.spot _ _=>true
 |.area _ _ _=>true
 |.name n=>cI n
 |.column t c part=>cI t&&(decide (1<=c.length)&&(decide (c.length<=64)&&(gO c&&decide (part<=9))))
 |.one op=>ng true op
 |.two op=>ng false op
 |.call f k=>cI f&&decide (k<=64)
 |.grid l=>decide (1<=l.length)&&(decide (l.length<=64)&&(decide (1<=(l.headD []).length)&&(decide ((l.headD []).length<=64)&&l.all λr=>r.length==(l.headD []).length&&r.all λv=>v.good&&v != .empty)))
def Node.size:Node->Nat
 |.grid l=>(l.map gh).sum+1
 |_=>1
def hP (l:List Int):Option (Node×List Int):=(bA 9 l).bind λy=>match y.1 with
 |0=>(cw y.2).bind λv=>some (.value v.1,v.2)
 |1=>(gj y.2).bind λk=>(eE k.2).bind λs=>some (.spot k.1 s.1,s.2)
 |2=>(gj y.2).bind λk=>(eE k.2).bind λa=>(eE a.2).bind λb=>some (.area k.1 a.1 b.1,b.2)
 |3=>(cg y.2).bind λb=>some (.name b.1,b.2)
 |4=>(cg y.2).bind λt=>(cg t.2).bind λc=>(bA 256 c.2).bind λp=>some (.column t.1 c.1 p.1,p.2)
 |5=>(bA 256 y.2).bind λo=>some (.one o.1,o.2)
 |6=>(bA 256 y.2).bind λo=>some (.two o.1,o.2)
 |7=>(cg y.2).bind λn=>(bA 256 n.2).bind λk=>some (.call n.1 k.1,k.2)
 |_=>(bA 256 y.2).bind λr=>(bA 256 r.2).bind λc=>(bQ (bQ cw c.1) r.1 c.2).bind λg=>some (.grid g.1,g.2)
def sI {α:Type} (p:Kd α) (l:List Int):bQ p 0 l=some ([],l):=rfl
def iT {α:Type} (p:Kd α) (n:Nat) (l:List Int):bQ p (n+1) l=(p l).bind λx=>(bQ p n x.2).bind λy=>some (x.1::y.1,y.2):=rfl
def mT (f:Nat) (l:List Int):bH (f+1) l=(hP l).bind λy=>(bQ (bH f) y.1.inner y.2).bind λz=>some (y.1.mk z.1,z.2):=by
 unfold hP;rw[dD];show((bA 9 l).bind λy=>_)=_
 congr 1
 funext y
 obtain⟨k,s⟩:=y
 match k with
 |0=>show((cw s).bind λv=>some ((.value v.1:bO),v.2))=_;simp only[dD];rfl
 |1=>show((gj s).bind λk=>(eE k.2).bind λs=>some ((.spot k.1 s.1:bO),s.2))=_;simp only[dD];rfl
 |2=>show((gj s).bind λk=>(eE k.2).bind λa=>(eE a.2).bind λb=>some ((.area k.1 a.1 b.1:bO),b.2))=_;simp only[dD];rfl
 |3=>show((cg s).bind λv=>some ((.name v.1:bO),v.2))=_;simp only[dD];rfl
 |4=>show((cg s).bind λt=>(cg t.2).bind λc=>(bA 256 c.2).bind λp=>some ((.column t.1 c.1 p.1:bO),p.2))=_;simp only[dD];rfl
 |5=>
  show((bA 256 s).bind λo=>(bH f o.2).bind λe=>some ((.one o.1 e.1:bO),e.2))=_;simp only[dD,bG,Node.inner,iT,sI];rfl
 |6=>
  show((bA 256 s).bind λo=>(bH f o.2).bind λa=>(bH f a.2).bind λb=>some ((.two o.1 a.1 b.1:bO),b.2))=_;simp only[dD,bG,Node.inner,iT,sI];rfl
 |7=>show((cg s).bind λn=>(bA 256 n.2).bind λk=>(bQ (bH f) k.1 k.2).bind λz=>some ((.call n.1 z.1:bO),z.2))=_;simp only[dD];rfl
 |k+8=>show((bA 256 s).bind λr=>(bA 256 r.2).bind λc=>(bQ (bQ cw c.1) r.1 c.2).bind λg=>some ((.grid g.1:bO),g.2))=_;simp only[dD];rfl
def aaI (s:List Int):Hu s=(gj s).bind λk=>some ((),k.2):=by
 unfold Hu;rw[gR,show oz 0 64 s=oz ((0:Nat):Int) ((64:Nat):Int) s from rfl,lV (m:=65) (by decide)];show _=((bA 65 s).bind λy=>some ((if y.1=0 then none else some (y.1 - 1):Option Nat),y.2)).bind _;cases e:bA 65 s with
 |none=>rfl
 |some y=>
  have:=(eN (n:=y.1) (r:=y.2) e).2;rw[aA,aA,az (by omega)];rfl
def So {s r:List Int} (h:gj s=some (sh,r)):s=dG sh::r/\∀k,sh=some k->k<64:=by
 have h:((bA 65 s).bind λy=>some ((if y.1=0 then none else some (y.1 - 1):Option Nat),y.2))=some (sh,r):=h;cases e:bA 65 s with
 |none=>rw[e]at h;cases h
 |some y=>
  obtain⟨n,q⟩:=y;obtain⟨a,b⟩:=eN e;rw[e,aA]at h;dsimp only at h;by_cases c:n=0
  ·subst c;rw[az rfl]at h;cases h;exact⟨a,λk q=>by cases q⟩
  ·rw[au c]at h;cases (h);refine⟨?_,λk q=>by cases q;omega⟩;rw[a];show(n:Int)::r=(((n - 1:Nat):Int)+1)::r;rw[show(((n - 1:Nat):Int)+1)=(n:Int) by omega]
def acg (s:List Int):((oz 0 1).bind λ_=>tk.bind λ_=>R.pure ()) s=(rf s).bind λk=>some ((),k.2):=by
 rw[gR,show oz 0 1 s=oz ((0:Nat):Int) ((1:Nat):Int) s from rfl,lV (m:=2) (by decide)];show _=((bA 2 s).bind λy=>(Lx y.2).bind λz=>some ((⟨y.1==1,z.1⟩:Lw),z.2)).bind _;cases e:bA 2 s with
 |none=>rfl
 |some y=>
  have:=(eN (n:=y.1) (r:=y.2) e).2;rw[aA,aA,az (by omega),aA];obtain⟨n,q⟩:=y;cases q<;>rfl
def UG {s r:List Int} (h:rf s=some (a,r)):s=akQ a++r:=by
 have h:((bA 2 s).bind λy=>(Lx y.2).bind λz=>some ((⟨y.1==1,z.1⟩:Lw),z.2))=some (a,r):=h;cases e:bA 2 s with
 |none=>rw[e]at h;cases h
 |some y=>
  obtain⟨n,q⟩:=y;obtain⟨b,d⟩:=eN e;rw[e,aA]at h;cases q with
  |nil=>cases h
  |cons z q=>
   cases h;rw[b];obtain rfl|rfl:n=0\/n=1:=by omega
   ·rfl
   ·rfl
def ae4 (s:List Int):Fj s=(eE s).bind λk=>some ((),k.2):=by
 have e:Fj=(((oz 0 1).bind λ_=>tk.bind λ_=>R.pure ()).bind λ_=>((oz 0 1).bind λ_=>tk.bind λ_=>R.pure ())):=by
  unfold Fj;simp only[R.bind_assoc];rfl
 rw[e,gR,acg];show _=((rf s).bind λa=>(rf a.2).bind λb=>some ((⟨a.1,b.1⟩:oq),b.2)).bind _;simp only[dD,bG,acg]
def N9 {s r:List Int} (h:eE s=some (a,r)):s=dA a++r:=by
 have h:((rf s).bind λa=>(rf a.2).bind λb=>some ((⟨a.1,b.1⟩:oq),b.2))=some (a,r):=h;cases e:rf s with
 |none=>rw[e]at h;cases h
 |some y=>
  rw[e,aA]at h;cases d:rf y.2 with
  |none=>rw[d]at h;cases h
  |some z=>
   rw[d]at h;cases h;rw[UG (a:=y.1) (r:=y.2) e,UG (a:=z.1) (r:=z.2) d];show _=(akQ y.1++akQ z.1)++z.2;rw[cz]
def agl (n:Nat):∀l,Fl sy n l=(bQ cw n l).bind λy=>if(y.1.all yk)=true then some ((),y.2)else none:=by
 induction n with
 |zero=>intro l;rfl
 |succ n a=>
  intro l;show((sy).bind λ_=>Fl sy n) l=_;rw[gR,iT,show sy l=mP ((1:Nat):Int) l from rfl,KD 1 (by decide)];cases e:cw l with
  |none=>rfl
  |some v=>
   rw[aA,aA]
   have b:vOk ((1:Nat):Int) v.1=yk v.1:=by
    unfold vOk yk;rw[show decide (((1:Nat):Int)=0)=false from rfl,EO]
   rw[b];by_cases c:yk v.1=true
   ·rw[az c,aA,a];cases bQ cw n v.2 with
    |none=>rfl
    |some y=>
     show(if y.1.all yk=true then some ((),y.2)else none)=if((v.1::y.1).all yk)=true then some ((),y.2)else none
     rw[gX,c,bM]
   ·rw[au c];cases bQ cw n v.2 with
    |none=>rfl
    |some y=>
     show none=if((v.1::y.1).all yk)=true then some ((),y.2)else none
     rw[gX,au (by rw[aC];exact λz=>c z.1)]
theorem jl {α:Type} {p:Kd α}:∀{n:Nat} {l r:List Int} {xs:List α},bQ p n l=some (xs,r)->xs.length=n
 |0,l,r,xs,h=>by cases h;rfl
 |n+1,l,r,xs,h=>by
  rw[iT]at h;cases e:p l with
  |none=>rw[e]at h;cases h
  |some x=>
   rw[e,aA]at h;cases f:bQ p n x.2 with
   |none=>rw[f]at h;cases h
   |some y=>
    rw[f]at h;cases h;rw[ak,jl f]
theorem abv {α:Type} (p:Kd α) (m:Nat):∀(n:Nat) (l:List Int),bQ p (n+m) l=(bQ p n l).bind λx=>(bQ p m x.2).bind λy=>some (x.1++y.1,y.2)
 |0,l=>by
  rw[ave,sI,aA];cases bQ p m l<;>rfl
 |n+1,l=>by
  rw[show n+1+m=(n+m)+1 by omega,iT,iT];simp only[dD,abv p m n,bG,eQ]
theorem HE {α:Type} (p:Kd α) (c:Nat):∀(r:Nat) (l:List Int),(bQ (bQ p c) r l).bind (λy=>some (y.1.flatten,y.2))=bQ p (r * c) l
 |0,l=>by rw[Nat.zero_mul];rfl
 |r+1,l=>by
  rw[show(r+1) * c=c+r * c by rw[ahH,ahJ],abv p (r * c) c l,iT (bQ p c) r l];simp only[dD,bG]
  congr 1
  funext x
  rw[<-HE p c r x.2];simp only[dD,bG,uJ]
theorem HD {α:Type} {p:Kd α} {c:Nat}:∀{r:Nat} {l s:List Int} {g:List (List α)},bQ (bQ p c) r l=some (g,s)->∀x∈g,x.length=c
 |0,l,s,g,h=>by cases h;intro x q;cases q
 |r+1,l,s,g,h=>by
  rw[iT]at h;cases e:bQ p c l with
  |none=>rw[e]at h;cases h
  |some x=>
   rw[e,aA]at h;cases f:bQ (bQ p c) r x.2 with
   |none=>rw[f]at h;cases h
   |some y=>
    rw[f]at h;cases h;intro z hz;rcases aY.mp hz with rfl|hz
    ·exact jl e
    ·exact HD f z hz
theorem ON:∀{n:Nat} {l r:List Int} {xs:List pS},bQ cw n l=some (xs,r)->l=xs.flatMap eP++r
 |0,l,r,xs,h=>by cases h;rfl
 |n+1,l,r,xs,h=>by
  rw[iT]at h;cases e:cw l with
  |none=>rw[e]at h;cases h
  |some x=>
   rw[e,aA]at h;cases f:bQ cw n x.2 with
   |none=>rw[f]at h;cases h
   |some y=>
    rw[f]at h;cases h;rw[vM (v:=x.1) (r:=x.2) e,ON f,gJ,cz]
def ams (s:List Int):fr8 s=((bA 256 s).bind λr=>(bA 256 r.2).bind λc=>(bQ (bQ cw c.1) r.1 c.2).bind λg=>some (Node.grid g.1,g.2)).bind λy=>if y.1.ok=true then some ((y.1.inner:Int),y.2)else none:=by
 unfold fr8;rw[gR,show oz 1 64 s=oz ((1:Nat):Int) ((64:Nat):Int) s from rfl,lV (m:=256) (by decide)];cases e:bA 256 s with
 |none=>rfl
 |some r=>
  obtain⟨r,l⟩:=r;rw[aA,aA];dsimp only;by_cases o:1<=r/\r<=64
  ·rw[az o,aA,gR];dsimp only;rw[show oz 1 64 l=oz ((1:Nat):Int) ((64:Nat):Int) l from rfl,lV (m:=256) (by decide)];cases D:bA 256 l with
   |none=>rfl
   |some c=>
    obtain⟨c,j⟩:=c;rw[aA,aA];dsimp only;have z:((r:Int) * (c:Int)).toNat=r * c:=by rw[<-apY,dz]
    by_cases p:1<=c/\c<=64
    ·rw[az p,aA,gR];dsimp only;rw[z,agl,<-HE];cases b:bQ (bQ cw c) r j with
     |none=>rfl
     |some g=>
      have u:=HD b;have a:=jl b;simp only[bG]
      have i:(g.1.headD []).length=c:=by
       cases d:g.1 with
       |nil=>rw[d]at a;simp at a;omega
       |cons x C=>exact u x (by rw[d];exact aM)
      have eR:(Node.grid g.1).ok=g.1.flatten.all yk:=by
       show(decide (1<=g.1.length)&&(decide (g.1.length<=64)&&(decide (1<=(g.1.headD []).length)&&(decide ((g.1.headD []).length<=64)&&g.1.all λr=>r.length==(g.1.headD []).length&&r.all λv=>v.good&&v != .empty))))=_;rw[a,i,aD o.1,aD o.2,aD p.1,aD p.2,bM,bM,bM,bM,List.all_flatten];rw[cO,eA,eA];constructor
       ·intro h x n;have:=h x n;rw[aC]at this;exact this.2
       ·intro h x n;rw[aC];exact⟨by rw[u x n];exact QF c,h x n⟩
      rw[eR];by_cases q:g.1.flatten.all yk=true
      ·rw[az q,az q];rfl
      ·rw[au q,au q];rfl
    ·rw[au p];cases b:bQ (bQ cw c) r j with
     |none=>rfl
     |some g=>
      have u:=HD b;have a:=jl b;simp only[bG,RW];rw[au];intro q;have q:(decide (1<=g.1.length)&&(decide (g.1.length<=64)&&(decide (1<=(g.1.headD []).length)&&(decide ((g.1.headD []).length<=64)&&g.1.all λr=>r.length==(g.1.headD []).length&&r.all λv=>v.good&&v != .empty))))=true:=q;simp only[aC,aX]at q
      have i:(g.1.headD []).length=c:=by
       cases d:g.1 with
       |nil=>rw[d]at a;simp at a;omega
       |cons x C=>exact u x (by rw[d];exact aM)
      omega
  ·rw[au o];cases D:bA 256 l with
   |none=>rfl
   |some c=>
    obtain⟨c,j⟩:=c;simp only[bG,RW];cases b:bQ (bQ cw c) r j with
    |none=>rfl
    |some g=>
     have a:=jl b;simp only[bG];rw[au];intro q;have q:(decide (1<=g.1.length)&&(decide (g.1.length<=64)&&(decide (1<=(g.1.headD []).length)&&(decide ((g.1.headD []).length<=64)&&g.1.all λr=>r.length==(g.1.headD []).length&&r.all λv=>v.good&&v != .empty))))=true:=q;simp only[aC,aX]at q;omega
def part_of {X:Option (Node×List Int)} (q:((oz 0 8).bind frK) l=X.bind λy=>if y.1.ok=true then some ((y.1.inner:Int),y.2)else none) (f:∀nd r,X=some (nd,r)->nd.ok=true->l=nd.nums++r):
 Jp l=X.bind λy=>if y.1.ok=true then some ((y.1.nums,(y.1.inner:Int)),y.2)else none:=by
 unfold Jp;rw[q];cases X with
 |none=>rfl
 |some y=>
  obtain⟨nd,r⟩:=y;rw[aA,aA];dsimp only;by_cases c:nd.ok=true
  ·rw[az c,az c];show some ((l.take (l.length - r.length),(nd.inner:Int)),r)=_;rw[f nd r rfl c,aI,Rz,aah]
  ·rw[au c,au c]
def afB {r:List Int} (h:hP l=some (nd,r)) (ok:nd.ok=true):l=nd.nums++r:=by
 unfold hP at h;cases e:bA 9 l with
 |none=>rw[e]at h;cases h
 |some y=>
  obtain⟨k,s⟩:=y;obtain⟨E,D⟩:=eN e;rw[e,aA]at h;subst E
  rcases k with _|_|_|_|_|_|_|_|_|k
  ·have h:((cw s).bind λv=>some (Node.value v.1,v.2))=some (nd,r):=h;cases e:cw s with
   |none=>rw[e]at h;cases h
   |some v=>rw[e]at h;cases h;rw[vM (v:=v.1) (r:=v.2) e];rfl
  ·have h:((gj s).bind λk=>(eE k.2).bind λs=>some (Node.spot k.1 s.1,s.2))=some (nd,r):=h;cases e:gj s with
   |none=>rw[e]at h;cases h
   |some v=>
    rw[e,aA]at h;cases d:eE v.2 with
    |none=>rw[d]at h;cases h
    |some u=>rw[d]at h;cases h;rw[(So (sh:=v.1) (r:=v.2) e).1,N9 (a:=u.1) (r:=u.2) d];rfl
  ·have h:((gj s).bind λk=>(eE k.2).bind λa=>(eE a.2).bind λb=>some (Node.area k.1 a.1 b.1,b.2))=some (nd,r):=h;cases e:gj s with
   |none=>rw[e]at h;cases h
   |some v=>
    rw[e,aA]at h;cases d:eE v.2 with
    |none=>rw[d]at h;cases h
    |some u=>
     rw[d,aA]at h;cases i:eE u.2 with
     |none=>rw[i]at h;cases h
     |some x=>
      rw[i]at h;cases h;rw[(So (sh:=v.1) (r:=v.2) e).1,N9 (a:=u.1) (r:=u.2) d,N9 (a:=x.1) (r:=x.2) i];show _=2::dG v.1::((dA u.1++dA x.1)++x.2);rw[cz];rfl
  ·have h:((cg s).bind λb=>some (Node.name b.1,b.2))=some (nd,r):=h;cases e:cg s with
   |none=>rw[e]at h;cases h
   |some v=>rw[e]at h;cases h;rw[kW (b:=v.1) (r:=v.2) e];rfl
  ·have h:((cg s).bind λt=>(cg t.2).bind λc=>(bA 256 c.2).bind λp=>some (Node.column t.1 c.1 p.1,p.2))=some (nd,r):=h;cases e:cg s with
   |none=>rw[e]at h;cases h
   |some v=>
    rw[e,aA]at h;cases d:cg v.2 with
    |none=>rw[d]at h;cases h
    |some u=>
     rw[d,aA]at h;cases i:bA 256 u.2 with
     |none=>rw[i]at h;cases h
     |some x=>
      rw[i]at h;cases h;rw[kW (b:=v.1) (r:=v.2) e,kW (b:=u.1) (r:=u.2) d,(eN (n:=x.1) (r:=x.2) i).1];show _=4::((bV v.1++(bV u.1++[(x.1:Int)]))++x.2);simp only[cz,eQ,sk];rfl
  ·have h:((bA 256 s).bind λo=>some (Node.one o.1,o.2))=some (nd,r):=h;cases e:bA 256 s with
   |none=>rw[e]at h;cases h
   |some v=>rw[e]at h;cases h;rw[(eN (n:=v.1) (r:=v.2) e).1];rfl
  ·have h:((bA 256 s).bind λo=>some (Node.two o.1,o.2))=some (nd,r):=h;cases e:bA 256 s with
   |none=>rw[e]at h;cases h
   |some v=>rw[e]at h;cases h;rw[(eN (n:=v.1) (r:=v.2) e).1];rfl
  ·have h:((cg s).bind λn=>(bA 256 n.2).bind λk=>some (Node.call n.1 k.1,k.2))=some (nd,r):=h;cases e:cg s with
   |none=>rw[e]at h;cases h
   |some v=>
    rw[e,aA]at h;cases d:bA 256 v.2 with
    |none=>rw[d]at h;cases h
    |some u=>
     rw[d]at h;cases h;rw[kW (b:=v.1) (r:=v.2) e,(eN (n:=u.1) (r:=u.2) d).1];show _=7::((bV v.1++[(u.1:Int)])++u.2);simp only[cz,eQ,sk];rfl
  ·have h:((bA 256 s).bind λr=>(bA 256 r.2).bind λc=>(bQ (bQ cw c.1) r.1 c.2).bind λg=>some (Node.grid g.1,g.2))=some (nd,r):=h;cases e:bA 256 s with
   |none=>rw[e]at h;cases h
   |some v=>
    rw[e,aA]at h;cases d:bA 256 v.2 with
    |none=>rw[d]at h;cases h
    |some u=>
     rw[d,aA]at h;cases i:bQ (bQ cw u.1) v.1 u.2 with
     |none=>rw[i]at h;cases h
     |some g=>
      rw[i]at h;cases h;have m:=HE cw u.1 v.1 u.2;rw[i,aA]at m;have H:=HD i;have C:=jl i;have q:(decide (1<=g.1.length)&&(decide (g.1.length<=64)&&(decide (1<=(g.1.headD []).length)&&(decide ((g.1.headD []).length<=64)&&g.1.all λr=>r.length==(g.1.headD []).length&&r.all λv=>v.good&&v != .empty))))=true:=ok;simp only[aC,aX]at q
      have j:(g.1.headD []).length=u.1:=by
       cases z:g.1 with
       |nil=>rw[z]at q;simp at q
       |cons x J=>exact H x (by rw[z];exact aM)
      rw[(eN (n:=v.1) (r:=v.2) e).1,(eN (n:=u.1) (r:=u.2) d).1,ON m.symm];show _=8::(g.1.length:Int)::((g.1.headD []).length:Int)::(g.1.flatten.flatMap eP++g.2);rw[C,j];rfl
  ·omega
def afg (l:List Int):Jp l=(hP l).bind λy=>if y.1.ok=true then some ((y.1.nums,(y.1.inner:Int)),y.2)else none:=by
 refine part_of ?_ (λnd r h ok=>afB h ok);rw[gR,show oz 0 8 l=oz ((0:Nat):Int) ((8:Nat):Int) l from rfl,lV (m:=9) (by decide)];unfold hP;cases e:bA 9 l with
 |none=>rfl
 |some y=>
  obtain⟨k,s⟩:=y;have u:=(eN e).2;rw[aA,aA];dsimp only;rw[az (by omega),aA];dsimp only
  rcases k with _|_|_|_|_|_|_|_|_|k
  ·show fr0 s=((cw s).bind λv=>some (Node.value v.1,v.2)).bind _;unfold fr0;rw[gR,show sy s=mP ((1:Nat):Int) s from rfl,KD 1 (by decide)];cases cw s with
   |none=>rfl
   |some v=>
    rw[aA,aA,aA]
    have C:vOk ((1:Nat):Int) v.1=(Node.value v.1).ok:=by
     unfold vOk;rw[show decide (((1:Nat):Int)=0)=false from rfl,EO];rfl
    rw[C];dsimp only;split<;>rfl
  ·show fr1 s=((gj s).bind λk=>(eE k.2).bind λs=>some (Node.spot k.1 s.1,s.2)).bind _;unfold fr1;rw[gR,aaI];simp only[dD,bG,gR,ae4];rfl
  ·show fr2 s=((gj s).bind λk=>(eE k.2).bind λa=>(eE a.2).bind λb=>some (Node.area k.1 a.1 b.1,b.2)).bind _;unfold fr2;rw[gR,aaI];simp only[dD,bG,gR,ae4];rfl
  ·show fr3 s=((cg s).bind λb=>some (Node.name b.1,b.2)).bind _;unfold fr3;rw[gR,Ot];cases cg s with
   |none=>rfl
   |some v=>
    rw[aA,aA,aA];show _=if cI v.1=true then _ else _
    split<;>rfl
  ·show fr4 s=((cg s).bind λt=>(cg t.2).bind λc=>(bA 256 c.2).bind λp=>some (Node.column t.1 c.1 p.1,p.2)).bind _;unfold fr4;rw[gR,Ot];cases cg s with
   |none=>rfl
   |some t=>
    rw[aA,aA];by_cases g:cI t.1=true
    ·rw[az g,aA,gR];dsimp only;rw[show Bx 1 64 t.2=Bx ((1:Nat):Int) ((64:Nat):Int) t.2 from rfl,WO (by decide)];cases cg t.2 with
     |none=>rfl
     |some c=>
      rw[aA,aA];by_cases d:(1<=c.1.length/\c.1.length<=64)/\gO c.1=true
      ·rw[az d,aA,gR];dsimp only;rw[show oz 0 9 c.2=oz ((0:Nat):Int) ((9:Nat):Int) c.2 from rfl,lV (m:=256) (by decide)];cases bA 256 c.2 with
       |none=>rfl
       |some p=>
        rw[aA,aA,aA]
        have x:(Node.column t.1 c.1 p.1).ok=decide (p.1<=9):=by
         show(cI t.1&&(decide (1<=c.1.length)&&(decide (c.1.length<=64)&&(gO c.1&&decide (p.1<=9)))))=_;rw[g,aD d.1.1,aD d.1.2,d.2];rfl
        dsimp only;rw[x];by_cases i:p.1<=9
        ·rw[az ⟨eI _,i⟩,az (aD i)];rfl
        ·rw[au (λz=>i z.2),au (by rw[aX];exact i)];rfl
      ·rw[au d,KL];cases bA 256 c.2 with
       |none=>rfl
       |some p=>
        rw[aA,aA];dsimp only;rw[au];intro q;have q:(cI t.1&&(decide (1<=c.1.length)&&(decide (c.1.length<=64)&&(gO c.1&&decide (p.1<=9)))))=true:=q;simp only[aC,aX]at q;exact d ⟨⟨q.2.1,q.2.2.1⟩,q.2.2.2.1⟩
    ·rw[au g,KL];cases cg t.2 with
     |none=>rfl
     |some c=>
      rw[aA];cases bA 256 c.2 with
      |none=>rfl
      |some p=>
       rw[aA,aA];dsimp only;rw[au];intro q;have q:(cI t.1&&(decide (1<=c.1.length)&&(decide (c.1.length<=64)&&(gO c.1&&decide (p.1<=9)))))=true:=q;rw[aC]at q;exact g q.1
  ·show fr5 s=((bA 256 s).bind λo=>some (Node.one o.1,o.2)).bind _;unfold fr5;rw[gR,show oz 20 22 s=oz ((20:Nat):Int) ((22:Nat):Int) s from rfl,lV (m:=256) (by decide)];cases bA 256 s with
   |none=>rfl
   |some o=>
    rw[aA,aA,aA];show _=if(decide (20<=o.1)&&decide (o.1<=22))=true then _ else _
    by_cases c:20<=o.1/\o.1<=22
    ·rw[az c,az (by rw[aD c.1,aD c.2];rfl)];rfl
    ·rw[au c,au (by simp only[aC,aX];exact c)];rfl
  ·show fr6 s=((bA 256 s).bind λo=>some (Node.two o.1,o.2)).bind _;unfold fr6;rw[gR,show oz 1 12 s=oz ((1:Nat):Int) ((12:Nat):Int) s from rfl,lV (m:=256) (by decide)];cases bA 256 s with
   |none=>rfl
   |some o=>
    rw[aA,aA,aA];show _=if(decide (1<=o.1)&&decide (o.1<=12))=true then _ else _
    by_cases c:1<=o.1/\o.1<=12
    ·rw[az c,az (by rw[aD c.1,aD c.2];rfl)];rfl
    ·rw[au c,au (by simp only[aC,aX];exact c)];rfl
  ·show fr7 s=((cg s).bind λn=>(bA 256 n.2).bind λk=>some (Node.call n.1 k.1,k.2)).bind _;unfold fr7;rw[gR,Ot];cases cg s with
   |none=>rfl
   |some n=>
    rw[aA,aA];by_cases j:cI n.1=true
    ·rw[az j,aA];dsimp only;rw[show oz 0 64 n.2=oz ((0:Nat):Int) ((64:Nat):Int) n.2 from rfl,lV (m:=256) (by decide)];cases bA 256 n.2 with
     |none=>rfl
     |some k=>
      rw[aA,aA,aA];show _=if(cI n.1&&decide (k.1<=64))=true then _ else _
      rw[j,bM];by_cases c:k.1<=64
      ·rw[az ⟨eI _,c⟩,az (aD c)];rfl
      ·rw[au (λz=>c z.2),au (by rw[aX];exact c)]
    ·rw[au j,KL];cases bA 256 n.2 with
     |none=>rfl
     |some k=>
      rw[aA,aA];show none=if(cI n.1&&decide (k.1<=64))=true then _ else _
      rw[au (by rw[aC];exact λz=>j z.1)]
  ·exact ams s
  ·omega
mutual
def partsOf:bO->List (List Int)
 |.value v=>[0::eP v]
 |.spot sh s=>[1::dG sh::dA s]
 |.area sh a b=>[2::dG sh::(dA a++dA b)]
 |.name n=>[3::bV n]
 |.column t c part=>[4::(bV t++(bV c++[(part:Int)]))]
 |.one op e=>[5,(op:Int)]::partsOf e
 |.two op a b=>[6,(op:Int)]::(partsOf a++partsOf b)
 |.call f l=>(7::(bV f++[(l.length:Int)]))::cZ l
 |.grid l=>[8::(l.length:Int)::((l.headD []).length:Int)::l.flatten.flatMap eP]
def cZ:List bO->List (List Int)
 |[]=>[]
 |e::l=>partsOf e++cZ l
end
mutual
def Iu:bO->Bool
 |.value v=>yk v
 |.spot _ _=>true
 |.area _ _ _=>true
 |.name n=>cI n
 |.column t c part=>cI t&&(decide (1<=c.length)&&(decide (c.length<=64)&&(gO c&&decide (part<=9))))
 |.one op e=>ng true op&&Iu e
 |.two op a b=>ng false op&&(Iu a&&Iu b)
 |.call f l=>(cI f&&decide (l.length<=64))&&yz l
 |.grid l=>decide (1<=l.length)&&(decide (l.length<=64)&&(decide (1<=(l.headD []).length)&&(decide ((l.headD []).length<=64)&&l.all λr=>r.length==(l.headD []).length&&r.all λv=>v.good&&v != .empty)))
def yz:List bO->Bool
 |[]=>true
 |e::l=>Iu e&&yz l
end
def abg (h:es.length=nd.inner):partsOf (nd.mk es)=nd.nums::cZ es:=by
 cases nd with
 |one d=>
  match es,h with
  |[e],_=>show [5,(d:Int)]::partsOf e=[5,(d:Int)]::(partsOf e++[]);rw[cX]
 |two d=>
  match es,h with
  |[a,b],_=>show [6,(d:Int)]::(partsOf a++partsOf b)=[6,(d:Int)]::(partsOf a++(partsOf b++[]));rw[cX]
 |call f k=>
  have h:es.length=k:=h;subst h;rfl
 |value v=>match es,h with|[],_=>rfl
 |spot sh s=>match es,h with|[],_=>rfl
 |area sh a b=>match es,h with|[],_=>rfl
 |name n=>match es,h with|[],_=>rfl
 |column t c p=>match es,h with|[],_=>rfl
 |grid l=>match es,h with|[],_=>rfl
def YW (h:es.length=nd.inner):fw (nd.mk es)=nd.size+gZ es:=by
 cases nd with
 |one d=>
  match es,h with
  |[e],_=>show fw e+1=1+(fw e+0);omega
 |two d=>
  match es,h with
  |[a,b],_=>show fw a+fw b+1=1+(fw a+(fw b+0));omega
 |call f k=>show gZ es+1=1+gZ es;omega
 |value v=>match es,h with|[],_=>rfl
 |spot sh s=>match es,h with|[],_=>rfl
 |area sh a b=>match es,h with|[],_=>rfl
 |name n=>match es,h with|[],_=>rfl
 |column t c p=>match es,h with|[],_=>rfl
 |grid l=>match es,h with|[],_=>rfl
def aiO (h:es.length=nd.inner):Iu (nd.mk es)=(nd.ok&&yz es):=by
 cases nd with
 |one d=>
  match es,h with
  |[e],_=>show(ng true d&&Iu e)=(ng true d&&(Iu e&&true));rw[dh]
 |two d=>
  match es,h with
  |[a,b],_=>show(ng false d&&(Iu a&&Iu b))=(ng false d&&(Iu a&&(Iu b&&true)));rw[dh]
 |call f k=>
  have h:es.length=k:=h;subst h;rfl
 |value v=>match es,h with|[],_=>show yk v=(yk v&&true);rw[dh]
 |spot sh s=>match es,h with|[],_=>rfl
 |area sh a b=>match es,h with|[],_=>rfl
 |name n=>match es,h with|[],_=>show cI n=(cI n&&true);rw[dh]
 |column t c p=>match es,h with|[],_=>exact(dh _).symm
 |grid l=>match es,h with|[],_=>exact(dh _).symm
theorem aaO {c:Nat}:∀{l:List (List pS)},(∀x∈l,x.length=c)->(l.map gh).sum=l.length * c
 |[],_=>by simp
 |x::l,h=>by
  rw[bW,QI,aaO (λy f=>h y (aL _ f)),h x aM,ak,ahH,ahJ]
def apw (ok:nd.ok=true):K5 nd.nums=(nd.size:Int):=by
 cases nd with
 |grid l=>
  have q:(decide (1<=l.length)&&(decide (l.length<=64)&&(decide (1<=(l.headD []).length)&&(decide ((l.headD []).length<=64)&&l.all λr=>r.length==(l.headD []).length&&r.all λv=>v.good&&v != .empty))))=true:=ok;simp only[aC,aX,eA,fO]at q;show(if(8:Int)=8 then 1+(l.length:Int) * ((l.headD []).length:Int)else 1)=(((l.map gh).sum+1:Nat):Int);rw[az rfl,aaO (λx a=>(q.2.2.2.2 x a).1)];rw[Int.natCast_add,apY,Int.add_comm];rfl
 |_=>rfl
def aiF (nd:Node):0<nd.nums.length:=by cases nd<;>exact Nat.succ_pos _
def Zi {r:List Int} (h:hP l=some (nd,r)):r.length<l.length:=by
 by_cases ok:nd.ok=true
 ·rw[afB h ok,aI];have:=aiF nd;omega
 ·unfold hP at h;cases e:bA 9 l with
  |none=>rw[e]at h;cases h
  |some y=>
   obtain⟨k,s⟩:=y;obtain⟨z,m⟩:=eN e;rw[e,aA]at h;subst z;rw[ak];refine Nat.lt_succ_of_le ?_
   match k,m,h with
   |0,_,h=>
    have h:((cw s).bind λv=>some (Node.value v.1,v.2))=some (nd,r):=h;cases e:cw s with
    |none=>rw[e]at h;cases h
    |some v=>rw[e]at h;cases h;rw[vM (v:=v.1) (r:=v.2) e,aI];omega
   |1,_,h=>
    have h:((gj s).bind λk=>(eE k.2).bind λs=>some (Node.spot k.1 s.1,s.2))=some (nd,r):=h;cases e:gj s with
    |none=>rw[e]at h;cases h
    |some v=>
     rw[e,aA]at h;cases d:eE v.2 with
     |none=>rw[d]at h;cases h
     |some u=>rw[d]at h;cases h;exact absurd rfl ok
   |2,_,h=>
    have h:((gj s).bind λk=>(eE k.2).bind λa=>(eE a.2).bind λb=>some (Node.area k.1 a.1 b.1,b.2))=some (nd,r):=h;cases e:gj s with
    |none=>rw[e]at h;cases h
    |some v=>
     rw[e,aA]at h;cases d:eE v.2 with
     |none=>rw[d]at h;cases h
     |some u=>
      rw[d,aA]at h;cases i:eE u.2 with
      |none=>rw[i]at h;cases h
      |some x=>rw[i]at h;cases h;exact absurd rfl ok
   |3,_,h=>
    have h:((cg s).bind λb=>some (Node.name b.1,b.2))=some (nd,r):=h;cases e:cg s with
    |none=>rw[e]at h;cases h
    |some v=>rw[e]at h;cases h;rw[kW (b:=v.1) (r:=v.2) e,aI];omega
   |4,_,h=>
    have h:((cg s).bind λt=>(cg t.2).bind λc=>(bA 256 c.2).bind λp=>some (Node.column t.1 c.1 p.1,p.2))=some (nd,r):=h;cases e:cg s with
    |none=>rw[e]at h;cases h
    |some v=>
     rw[e,aA]at h;cases d:cg v.2 with
     |none=>rw[d]at h;cases h
     |some u=>
      rw[d,aA]at h;cases i:bA 256 u.2 with
      |none=>rw[i]at h;cases h
      |some x=>
       rw[i]at h;cases h;rw[kW (b:=v.1) (r:=v.2) e,kW (b:=u.1) (r:=u.2) d,(eN (n:=x.1) (r:=x.2) i).1];simp only[aI,ak];omega
   |5,_,h=>
    have h:((bA 256 s).bind λo=>some (Node.one o.1,o.2))=some (nd,r):=h;cases e:bA 256 s with
    |none=>rw[e]at h;cases h
    |some v=>rw[e]at h;cases h;rw[(eN (n:=v.1) (r:=v.2) e).1,ak];omega
   |6,_,h=>
    have h:((bA 256 s).bind λo=>some (Node.two o.1,o.2))=some (nd,r):=h;cases e:bA 256 s with
    |none=>rw[e]at h;cases h
    |some v=>rw[e]at h;cases h;rw[(eN (n:=v.1) (r:=v.2) e).1,ak];omega
   |7,_,h=>
    have h:((cg s).bind λn=>(bA 256 n.2).bind λk=>some (Node.call n.1 k.1,k.2))=some (nd,r):=h;cases e:cg s with
    |none=>rw[e]at h;cases h
    |some v=>
     rw[e,aA]at h;cases d:bA 256 v.2 with
     |none=>rw[d]at h;cases h
     |some u=>
      rw[d]at h;cases h;rw[kW (b:=v.1) (r:=v.2) e,(eN (n:=u.1) (r:=u.2) d).1];simp only[aI,ak];omega
   |8,_,h=>
    have h:((bA 256 s).bind λr=>(bA 256 r.2).bind λc=>(bQ (bQ cw c.1) r.1 c.2).bind λg=>some (Node.grid g.1,g.2))=some (nd,r):=h;cases e:bA 256 s with
    |none=>rw[e]at h;cases h
    |some v=>
     rw[e,aA]at h;cases d:bA 256 v.2 with
     |none=>rw[d]at h;cases h
     |some u=>
      rw[d,aA]at h;cases i:bQ (bQ cw u.1) v.1 u.2 with
      |none=>rw[i]at h;cases h
      |some g=>
       rw[i]at h;cases h;have j:=HE cw u.1 v.1 u.2;rw[i,aA]at j;rw[(eN (n:=v.1) (r:=v.2) e).1,(eN (n:=u.1) (r:=u.2) d).1,ON j.symm];simp only[aI,ak];omega
theorem Y9 (B:∀l f r,p l=some (f,r)->r.length<=l.length):∀{n:Nat} {l r:List Int} {xs:List bO},bQ p n l=some (xs,r)->r.length<=l.length
 |0,l,r,xs,h=>by cases h;exact aS _
 |n+1,l,r,xs,h=>by
  rw[iT]at h;cases e:p l with
  |none=>rw[e]at h;cases h
  |some x=>
   rw[e,aA]at h;cases q:bQ p n x.2 with
   |none=>rw[q]at h;cases h
   |some y=>
    rw[q]at h;cases h;exact b9 (Y9 B q) (B l x.1 x.2 e)
theorem MY:∀(d:Nat) (l:List Int) (f:bO) (r:List Int),bH d l=some (f,r)->r.length<=l.length
 |0,l,f,r,h=>by cases h
 |d+1,l,f,r,h=>by
  rw[mT]at h;cases e:hP l with
  |none=>rw[e]at h;cases h
  |some y=>
   rw[e,aA]at h;cases q:bQ (bH d) y.1.inner y.2 with
   |none=>rw[q]at h;cases h
   |some z=>
    rw[q]at h;cases h;exact b9 (Y9 (MY d) q) (dY (Zi (nd:=y.1) (r:=y.2) e))
def ags {r part:List Int} {n:Int} (h:Jp l=some ((part,n),r)):r.length<l.length:=by
 rw[afg]at h;cases e:hP l with
 |none=>rw[e]at h;cases h
 |some y=>
  rw[e,aA]at h;by_cases c:y.1.ok=true
  ·rw[az c]at h;cases h;exact Zi (nd:=y.1) (r:=y.2) e
  ·rw[au c]at h;cases h
theorem HF:∀(f g:Nat) (parts:List (List Int)) (c:Int) (stack:List Nat) (l:List Int),2 * l.length+stack.length<=f->2 * l.length+stack.length<=g->C8 f parts c stack l=C8 g parts c stack l
 |f,g,parts,c,[],l,_,_=>by cases f<;>cases g<;>rfl
 |0,g,parts,c,n::m,l,h,_=>by simp at h
 |f+1,0,parts,c,n::m,l,_,h=>by simp at h
 |f+1,g+1,parts,c,0::m,l,h1,B=>by
  simp only[ak]at h1 B;show C8 f parts c m l=C8 g parts c m l;exact HF f g parts c m l (by omega) (by omega)
 |f+1,g+1,parts,c,(n+1)::m,l,h1,B=>by
  simp only[ak]at h1 B;show(Jp.bind _) l=(Jp.bind _) l;rw[gR,gR];cases e:Jp l with
  |none=>rfl
  |some y=>
   obtain⟨⟨part,inner⟩,r⟩:=y;have a:=ags e;rw[aA,aA];dsimp only;by_cases q:256<c+K5 part\/32<m.length+1
   ·rw[az q,az q]
   ·rw[au q,au q];exact HF f g _ _ _ r (by simp only[ak];omega) (by simp only[ak];omega)
def Lp (parts:List (List Int)) (c:Int) (stack:List Nat) (l:List Int):Option (List (List Int)×List Int):=C8 (2 * l.length+stack.length) parts c stack l
def apL (parts:List (List Int)) (c:Int) (l:List Int):Lp parts c [] l=some (parts,l):=by
 unfold Lp;cases 2 * l.length+([]:List Nat).length<;>rfl
def afN (parts:List (List Int)) (c:Int) (m:List Nat) (l:List Int):Lp parts c (0::m) l=Lp parts c m l:=by
 unfold Lp;rw[ak,show 2 * l.length+(m.length+1)=(2 * l.length+m.length)+1 by omega];rfl
def afO (parts:List (List Int)) (c:Int) (n:Nat) (m:List Nat) (l:List Int):Lp parts c ((n+1)::m) l=(hP l).bind λy=>if y.1.ok=true then(if 256<c+(y.1.size:Int)\/32<m.length+1 then none else Lp (parts++[y.1.nums]) (c+(y.1.size:Int)) (y.1.inner::n::m) y.2)else none:=by
 unfold Lp;rw[ak,show 2 * l.length+(m.length+1)=(2 * l.length+m.length)+1 by omega];show(Jp.bind _) l=_;rw[gR,afg];cases e:hP l with
 |none=>rfl
 |some y=>
  obtain⟨nd,r⟩:=y;have a:=Zi e;rw[aA,aA];dsimp only;by_cases ok:nd.ok=true
  ·rw[az ok,az ok,aA];dsimp only;rw[apw ok,dz];by_cases q:256<c+(nd.size:Int)\/32<m.length+1
   ·rw[az q,az q];rfl
   ·rw[au q,au q];exact HF _ _ _ _ _ r (by simp only[ak];omega) (aS _)
  ·rw[au ok,au ok];rfl
def al5:∀(N:Nat) (l:List Int),l.length<=N->∀(k:Nat) (m:List Nat) (parts:List (List Int)) (c:Int),c<=256->
 Lp parts c (k::m) l=(bQ (bH (32 - m.length)) k l).bind λy=>if yz y.1=true/\c+(gZ y.1:Int)<=256 then Lp (parts++cZ y.1) (c+(gZ y.1:Int)) m y.2 else none:=by
 intro N
 induction N with
 |zero=>
  intro l o k m parts c p;have:l=[]:=EL.mp (by omega);subst this;cases k with
  |zero=>
   rw[afN,sI,aA];show _=if true=true/\c+((0:Nat):Int)<=256 then Lp (parts++[]) (c+((0:Nat):Int)) m []else none
   rw[az ⟨rfl,by omega⟩,cX,show c+((0:Nat):Int)=c by omega]
  |succ k=>
   rw[afO,iT];cases e:32 - m.length with
   |zero=>rfl
   |succ d=>rw[mT];rfl
 |succ N j=>
  intro l o k m parts c p;cases k with
  |zero=>
   rw[afN,sI,aA];show _=if true=true/\c+((0:Nat):Int)<=256 then Lp (parts++[]) (c+((0:Nat):Int)) m l else none
   rw[az ⟨rfl,by omega⟩,cX,show c+((0:Nat):Int)=c by omega]
  |succ k=>
   rw[afO,iT];by_cases J:32<=m.length
   ·rw[show 32 - m.length=0 by omega];show _=none;cases hP l with
    |none=>rfl
    |some y=>
     rw[aA];split
     ·rw[az (by omega)]
     ·rfl
   ·obtain⟨d,hd⟩:∃d,32 - m.length=d+1:=⟨31 - m.length,by omega⟩;have n:32 - (k::m).length=d:=by rw[ak];omega
    rw[hd,mT];cases e:hP l with
    |none=>rfl
    |some y=>
     obtain⟨nd,r⟩:=y;have H:=Zi e;rw[aA,aA];dsimp only;by_cases ok:nd.ok=true
     ·rw[az ok];by_cases q:256<c+(nd.size:Int)
      ·rw[az (oY q)];cases a:bQ (bH d) nd.inner r with
       |none=>rfl
       |some z=>
        simp only[bG];cases i:bQ (bH (d+1)) k z.2 with
        |none=>rfl
        |some w=>
         simp only[bG];rw[au];intro h;have g:c+((fw (nd.mk z.1)+gZ w.1:Nat):Int)<=256:=h.2;rw[YW (jl a)]at g;omega
      ·rw[au (by omega),j r (by omega) nd.inner (k::m) _ _ (by omega),n];cases a:bQ (bH d) nd.inner r with
       |none=>rfl
       |some z=>
        have E:=Y9 (MY d) (xs:=z.1) (r:=z.2) a;simp only[bG];by_cases c2:yz z.1=true/\c+(nd.size:Int)+(gZ z.1:Int)<=256
        ·rw[az c2,j z.2 (by omega) k m _ _ c2.2,hd];cases i:bQ (bH (d+1)) k z.2 with
         |none=>rfl
         |some w=>
          simp only[bG]
          have x:yz (nd.mk z.1::w.1)=yz w.1:=by
           show(Iu (nd.mk z.1)&&yz w.1)=_;rw[aiO (jl a),ok,c2.1];rfl
          have s:(gZ (nd.mk z.1::w.1):Int)=(nd.size:Int)+(gZ z.1:Int)+(gZ w.1:Int):=by
           show((fw (nd.mk z.1)+gZ w.1:Nat):Int)=_;rw[YW (jl a)];omega
          have u:cZ (nd.mk z.1::w.1)=(nd.nums::cZ z.1)++cZ w.1:=by
           show partsOf (nd.mk z.1)++cZ w.1=_;rw[abg (jl a)]
          rw[x,s,u];have D:c+((nd.size:Int)+(gZ z.1:Int)+(gZ w.1:Int))=c+(nd.size:Int)+(gZ z.1:Int)+(gZ w.1:Int):=by omega
          have C:parts++[nd.nums]++cZ z.1++cZ w.1=parts++(nd.nums::cZ z.1++cZ w.1):=by simp
          rw[D,C]
        ·rw[au c2];cases i:bQ (bH (d+1)) k z.2 with
         |none=>rfl
         |some w=>
          simp only[bG];rw[au];intro h;have b:(Iu (nd.mk z.1)&&yz w.1)=true:=h.1;have g:c+((fw (nd.mk z.1)+gZ w.1:Nat):Int)<=256:=h.2;rw[aiO (jl a),ok,bM,aC]at b;rw[YW (jl a)]at g;exact c2 ⟨b.1,by omega⟩
     ·rw[au ok];cases a:bQ (bH d) nd.inner r with
      |none=>rfl
      |some z=>
       simp only[bG];cases i:bQ (bH (d+1)) k z.2 with
       |none=>rfl
       |some w=>
        simp only[bG];rw[au];intro h;have b:(Iu (nd.mk z.1)&&yz w.1)=true:=h.1;rw[aiO (jl a),aC,aC]at b;exact ok b.1.1
def By (l:List Int):mQ l=(bH 32 l).bind λy=>if Iu y.1=true/\fw y.1<=256 then some (partsOf y.1,y.2)else none:=by
 have h:mQ l=Lp [] 0 [1] l:=by
  unfold mQ Lp;exact HF _ _ _ _ _ _ (by simp) (aS _)
 rw[h,al5 l.length l (aS _) 1 [] [] 0 (by decide),iT];show((bH 32 l).bind _).bind _=_;cases bH 32 l with
 |none=>rfl
 |some y=>
  simp only[bG,sI];rw[apL];show(if(Iu y.1&&true)=true/\0+((fw y.1+0:Nat):Int)<=256 then some ([]++(partsOf y.1++[]),y.2)else none)=_;rw[dh,cX,sk];by_cases c:Iu y.1=true/\fw y.1<=256
  ·rw[az c,az ⟨c.1,by omega⟩]
  ·rw[au c,au (λz=>c ⟨z.1,by omega⟩)]
theorem abX {d:Nat} (B:∀l f r,bH d l=some (f,r)->kK f<=d):∀{n:Nat} {l r:List Int} {xs:List bO},bQ (bH d) n l=some (xs,r)->ayw xs<=d
 |0,l,r,xs,h=>by cases h;exact eI _
 |n+1,l,r,xs,h=>by
  rw[iT]at h;cases e:bH d l with
  |none=>rw[e]at h;cases h
  |some x=>
   rw[e,aA]at h;cases q:bQ (bH d) n x.2 with
   |none=>rw[q]at h;cases h
   |some y=>
    rw[q]at h;cases h;exact Nat.max_le.mpr ⟨B l x.1 x.2 e,abX B q⟩
def alT (h:es.length=nd.inner):kK (nd.mk es)<=ayw es+1:=by
 cases nd with
 |one d=>
  match es,h with
  |[e],_=>show kK e+1<=max (kK e) 0+1;omega
 |two d=>
  match es,h with
  |[a,b],_=>show max (kK a) (kK b)+1<=max (kK a) (max (kK b) 0)+1;omega
 |call f k=>exact aS _
 |value v=>exact sP 1 _
 |spot sh s=>exact sP 1 _
 |area sh a b=>exact sP 1 _
 |name n=>exact sP 1 _
 |column t c p=>exact sP 1 _
 |grid l=>exact sP 1 _
theorem afF:∀(d:Nat) (l:List Int) (f:bO) (r:List Int),bH d l=some (f,r)->kK f<=d
 |0,l,f,r,h=>by cases h
 |d+1,l,f,r,h=>by
  rw[mT]at h;cases e:hP l with
  |none=>rw[e]at h;cases h
  |some y=>
   rw[e,aA]at h;cases q:bQ (bH d) y.1.inner y.2 with
   |none=>rw[q]at h;cases h
   |some z=>
    rw[q]at h;cases h;have:=abX (afF d) q;have:=alT (jl q);omega
def cY:cE->hW
 |.value v=>⟨0,[eP v]⟩
 |.formula f=>⟨1,partsOf f⟩
def okC:cE->Bool
 |.value v=>v.good
 |.formula f=>Iu f&&(decide (fw f<=256)&&decide (kK f<=32))
def Zs (l:List Int):Bc l=(bA 2 l).bind λy=>if y.1=0 then(match cw y.2 with|some (v,[])=>some (.value v)|_=>none)else(match bH 32 y.2 with|some (f,[])=>some (.formula f)|_=>none):=by
 have a:∀p:Kd cE,nc p l=(match p l with|some (x,[])=>some x|_=>none):=λp=>by
  unfold nc;rw[show atx p l=p l from rfl];cases p l with
  |none=>rfl
  |some y=>
   obtain⟨x,r⟩:=y;cases r<;>rfl
 unfold Bc;rw[a,apI];cases e:bA 2 l with
 |none=>rfl
 |some y=>
  obtain⟨k,s⟩:=y;have b:=(eN e).2;simp only[bG];obtain rfl|rfl:k=0\/k=1:=by omega
  ·show(match(cw s).bind λv=>some ((.value v.1:cE),v.2)with|some (x,[])=>some x|_=>none)=if(0:Nat)=0 then _ else _
   rw[az rfl];cases cw s with
   |none=>rfl
   |some v=>
    obtain⟨v,r⟩:=v;cases r<;>rfl
  ·show(match(bH 32 s).bind λv=>some ((.formula v.1:cE),v.2)with|some (x,[])=>some x|_=>none)=if(1:Nat)=0 then _ else _
   rw[au (by decide)];cases bH 32 s with
   |none=>rfl
   |some v=>
    obtain⟨v,r⟩:=v;cases r<;>rfl
def Ys (l:List Int):lE l=(Bc l).bind λx=>if okC x=true then some (cY x)else none:=by
 unfold lE;rw[show oz 0 1 l=oz ((0:Nat):Int) ((1:Nat):Int) l from rfl,lV (m:=2) (by decide),Zs];cases e:bA 2 l with
 |none=>rfl
 |some y=>
  obtain⟨k,s⟩:=y;have h:=(eN e).2;rw[aA,aA];dsimp only;rw[az (by omega)];dsimp only;obtain rfl|rfl:k=0\/k=1:=by omega
  ·rw[az (show((0:Nat):Int)=0 from rfl),az rfl,show mP 0 s=mP ((0:Nat):Int) s from rfl,KD 0 (by decide)];cases b:cw s with
   |none=>rfl
   |some v=>
    obtain⟨v,r⟩:=v;rw[aA]
    have g:vOk ((0:Nat):Int) v=v.good:=by
     unfold vOk;rw[show decide (((0:Nat):Int)=0)=true from rfl,afZ,dh]
    dsimp only;rw[g];cases r with
    |nil=>
     have d:=vM b;rw[cX]at d;subst d;show _=if v.good=true then some (cY (.value v))else none
     by_cases c:v.good=true
     ·rw[az c,az c];rfl
     ·rw[au c,au c]
    |cons z r=>
     by_cases c:v.good=true
     ·rw[az c];rfl
     ·rw[au c];rfl
  ·rw[au (show ¬((1:Nat):Int)=0 by decide),au (show ¬(1:Nat)=0 by decide),By];cases b:bH 32 s with
   |none=>rfl
   |some v=>
    obtain⟨f,r⟩:=v;have a:=afF 32 s f r b;rw[aA];dsimp only;cases r with
    |nil=>
     show _=if(Iu f&&(decide (fw f<=256)&&decide (kK f<=32)))=true then some (cY (.formula f))else none
     rw[aD a,dh];by_cases c:Iu f=true/\fw f<=256
     ·rw[az c,az (by rw[c.1,aD c.2];rfl)];rfl
     ·rw[au c,au (by rw[aC,aX];exact c)]
    |cons z r=>
     by_cases c:Iu f=true/\fw f<=256
     ·rw[az c];rfl
     ·rw[au c];rfl
def aO (a:cH):b8:=⟨a.sheet,a.row0,a.row1,a.col0,a.col1⟩
def cM (c:bP):cH:=⟨c.sheet,c.row,c.col,c.row,c.col⟩
def jL (rows:Bool):Int:=if rows=true then 0 else 1
def IC:eZ->XI
 |.insert sheet rows a n lo hi=>.put (jY sheet (jL rows) lo hi) (jL rows) a n
 |.delete sheet rows a n lo hi=>.del (jY sheet (jL rows) lo hi) (jL rows) a n
 |.move a to=>.mov (aO a) (aO (d6 a to))
 |.gone s=>.KU s
structure jB (a:cH):Prop where
 r:a.row0<=a.row1
 r1:a.row1<4096
 c:a.col0<=a.col1
 c1:a.col1<256
def gr:eZ->Prop
 |.insert _ rows a n lo hi=>a<fR rows/\1<=n/\a+n<=fR rows/\lo<=hi/\hi<fR (!rows)
 |.delete _ rows a n lo hi=>a<fR rows/\1<=n/\a+n<=fR rows/\lo<=hi/\hi<fR (!rows)
 |.move a to=>jB a/\jB (d6 a to)
 |.gone _=>True
def aoG:fR true=4096:=rfl
def aoH:fR false=256:=rfl
def TR (at_ n p:Nat):iH at_ n p=((if at_<=p then p+n else p:Nat):Int):=by
 unfold iH;by_cases c:at_<=p
 ·rw[az c,au (by omega)];omega
 ·rw[au c,az (by omega)]
def ank {p:Nat} (h:p<M):(if((M - 1:Nat):Int)<iH at_ n p then((M - 1:Nat):Int)else iH at_ n p)=((if at_<=p then min (p+n) (M - 1)else p:Nat):Int):=by
 rw[TR];by_cases c:at_<=p
 ·rw[az c,az c];split<;>omega
 ·rw[au c,au c,au (by omega)]
def Zb {p q:Nat} (h:p<=q) (f:q<M):((if at_<=q then min (q+n) (M - 1)else q:Nat):Int)<((if at_<=p then p+n else p:Nat):Int)↔M<=(if at_<=p then p+n else p):=by
 by_cases c:at_<=p
 ·rw[az c,az (show at_<=q by omega)];omega
 ·rw[au c];by_cases d:at_<=q
  ·rw[az d];omega
  ·rw[au d];omega
def anE (at_ n p:Nat):jo at_ n p=((if p<at_ then p else if p<at_+n then at_ else p - n:Nat):Int):=by
 unfold jo;by_cases c:p<at_
 ·rw[az c,az (show(p:Int)<at_ by omega)]
 ·rw[au c,au (show ¬(p:Int)<at_ by omega)];by_cases d:p<at_+n
  ·rw[az d,az (show(at_:Int)>(p:Int) - n by omega)]
  ·rw[au d];split<;>omega
def Zq {p q:Nat} (h:p<=q) (f:1<=n):kS at_ n q<jo at_ n p↔(at_<=p/\q<at_+n):=by
 unfold kS jo;by_cases c:(q:Int)<at_
 ·rw[az c,az (by omega)];omega
 ·rw[au c];by_cases d:(p:Int)<at_
  ·rw[az d];split<;>omega
  ·rw[au d];split<;>split<;>omega
def anD {p q:Nat} (h:p<=q) (f:¬(at_<=p/\q<at_+n)):kS at_ n q=((if q<at_ then q else if q<at_+n then at_ - 1 else q - n:Nat):Int):=by
 unfold kS;by_cases c:q<at_
 ·rw[az c,az (show(q:Int)<at_ by omega)]
 ·rw[au c,au (show ¬(q:Int)<at_ by omega)];by_cases d:q<at_+n
  ·rw[az d];split<;>omega
  ·rw[au d];split<;>omega
def UH (q:gr x) (Z:jB a):(IC x).after (aO a)=(bT x a).map aO:=by
 obtain⟨sh,r0,c0,r1,c1⟩:=a;obtain⟨y,J,u,H⟩:=Z;dsimp only at y J u H;cases x with
 |insert s rows at_ n lo hi=>
  obtain⟨M,C,L,F,i⟩:=q;cases rows with
  |true=>
   rw[aoG]at M L;have i:hi<256:=i;show shifted (jY s 0 lo hi) 0 (iH at_ n) (oG (jY s 0 lo hi) 0 at_ n) ⟨sh,r0,r1,c0,c1⟩=jV aO (if sh≠s\/c0<lo\/hi<c1 then some ⟨sh,r0,c0,r1,c1⟩else if 4096<=(if at_<=r0 then r0+n else r0)then none else some ⟨sh,(if at_<=r0 then r0+n else r0),c0,(if at_<=r1 then min (r1+n) (4096 - 1)else r1),c1⟩);have m:oG (jY s 0 lo hi) 0 at_ n r1=((if at_<=r1 then min (r1+n) (4096 - 1)else r1:Nat):Int):=ank J;by_cases c:sh≠s\/c0<lo\/hi<c1
   ·rw[az c];exact su (show ¬((s:Int)=sh/\(0:Int)<=r0/\(r1:Int)<=4095/\(lo:Int)<=c0/\(c1:Int)<=hi) by omega)
   ·rw[au c];have d:(s:Int)=sh/\(0:Int)<=r0/\(r1:Int)<=4095/\(lo:Int)<=c0/\(c1:Int)<=hi:=by omega
    by_cases k:4096<=(if at_<=r0 then r0+n else r0)
    ·rw[az k];exact mL d (show oG (jY s 0 lo hi) 0 at_ n r1<iH at_ n r0 by rw[m,TR];exact(Zb y J).mpr k)
    ·rw[au k];refine(oZ d (show ¬oG (jY s 0 lo hi) 0 at_ n r1<iH at_ n r0 by rw[m,TR];exact λz=>k ((Zb y J).mp z))).trans ?_;show some (⟨sh,iH at_ n r0,oG (jY s 0 lo hi) 0 at_ n r1,c0,c1⟩:b8)=_;rw[m,TR];rfl
  |false=>
   rw[aoH]at M L;have i:hi<4096:=i;show shifted (jY s 1 lo hi) 1 (iH at_ n) (oG (jY s 1 lo hi) 1 at_ n) ⟨sh,r0,r1,c0,c1⟩=jV aO (if sh≠s\/r0<lo\/hi<r1 then some ⟨sh,r0,c0,r1,c1⟩else if 256<=(if at_<=c0 then c0+n else c0)then none else some ⟨sh,r0,(if at_<=c0 then c0+n else c0),r1,(if at_<=c1 then min (c1+n) (256 - 1)else c1)⟩);have m:oG (jY s 1 lo hi) 1 at_ n c1=((if at_<=c1 then min (c1+n) (256 - 1)else c1:Nat):Int):=ank H;by_cases c:sh≠s\/r0<lo\/hi<r1
   ·rw[az c];exact su (show ¬((s:Int)=sh/\(lo:Int)<=r0/\(r1:Int)<=hi/\(0:Int)<=c0/\(c1:Int)<=255) by omega)
   ·rw[au c];have d:(s:Int)=sh/\(lo:Int)<=r0/\(r1:Int)<=hi/\(0:Int)<=c0/\(c1:Int)<=255:=by omega
    by_cases k:256<=(if at_<=c0 then c0+n else c0)
    ·rw[az k];exact mL d (show oG (jY s 1 lo hi) 1 at_ n c1<iH at_ n c0 by rw[m,TR];exact(Zb u H).mpr k)
    ·rw[au k];refine(oZ d (show ¬oG (jY s 1 lo hi) 1 at_ n c1<iH at_ n c0 by rw[m,TR];exact λz=>k ((Zb u H).mp z))).trans ?_;show some (⟨sh,r0,r1,iH at_ n c0,oG (jY s 1 lo hi) 1 at_ n c1⟩:b8)=_;rw[m,TR];rfl
 |delete s rows at_ n lo hi=>
  obtain⟨M,C,L,F,i⟩:=q;cases rows with
  |true=>
   have i:hi<256:=i;show shifted (jY s 0 lo hi) 0 (jo at_ n) (kS at_ n) ⟨sh,r0,r1,c0,c1⟩=jV aO (if sh≠s\/c0<lo\/hi<c1 then some ⟨sh,r0,c0,r1,c1⟩else if at_<=r0/\r1<at_+n then none else some ⟨sh,(if r0<at_ then r0 else if r0<at_+n then at_ else r0 - n),c0,(if r1<at_ then r1 else if r1<at_+n then at_ - 1 else r1 - n),c1⟩);by_cases c:sh≠s\/c0<lo\/hi<c1
   ·rw[az c];exact su (show ¬((s:Int)=sh/\(0:Int)<=r0/\(r1:Int)<=4095/\(lo:Int)<=c0/\(c1:Int)<=hi) by omega)
   ·rw[au c];have d:(s:Int)=sh/\(0:Int)<=r0/\(r1:Int)<=4095/\(lo:Int)<=c0/\(c1:Int)<=hi:=by omega
    by_cases k:at_<=r0/\r1<at_+n
    ·rw[az k];exact mL d (show kS at_ n r1<jo at_ n r0 from(Zq y C).mpr k)
    ·rw[au k];refine(oZ d (show ¬kS at_ n r1<jo at_ n r0 from λz=>k ((Zq y C).mp z))).trans ?_;show some (⟨sh,jo at_ n r0,kS at_ n r1,c0,c1⟩:b8)=_;rw[anE,anD y k];rfl
  |false=>
   have i:hi<4096:=i;show shifted (jY s 1 lo hi) 1 (jo at_ n) (kS at_ n) ⟨sh,r0,r1,c0,c1⟩=jV aO (if sh≠s\/r0<lo\/hi<r1 then some ⟨sh,r0,c0,r1,c1⟩else if at_<=c0/\c1<at_+n then none else some ⟨sh,r0,(if c0<at_ then c0 else if c0<at_+n then at_ else c0 - n),r1,(if c1<at_ then c1 else if c1<at_+n then at_ - 1 else c1 - n)⟩);by_cases c:sh≠s\/r0<lo\/hi<r1
   ·rw[az c];exact su (show ¬((s:Int)=sh/\(lo:Int)<=r0/\(r1:Int)<=hi/\(0:Int)<=c0/\(c1:Int)<=255) by omega)
   ·rw[au c];have d:(s:Int)=sh/\(lo:Int)<=r0/\(r1:Int)<=hi/\(0:Int)<=c0/\(c1:Int)<=255:=by omega
    by_cases k:at_<=c0/\c1<at_+n
    ·rw[az k];exact mL d (show kS at_ n c1<jo at_ n c0 from(Zq u C).mpr k)
    ·rw[au k];refine(oZ d (show ¬kS at_ n c1<jo at_ n c0 from λz=>k ((Zq u C).mp z))).trans ?_;show some (⟨sh,r0,r1,jo at_ n c0,kS at_ n c1⟩:b8)=_;rw[anE,anD u k];rfl
 |move P to=>
  obtain⟨E,h,g,p,o⟩:=P;obtain⟨ts,j,l⟩:=to;obtain⟨⟨U,O,I,G⟩,⟨B,X,T,S⟩⟩:=q;dsimp only[d6]at U O I G B X T S;show(if(aO ⟨E,h,g,p,o⟩).holds ⟨sh,r0,r1,c0,c1⟩=true then some (b8.shifted ⟨sh,r0,r1,c0,c1⟩ ts ((j:Int) - h) ((l:Int) - g))else if(aO ⟨ts,j,l,j+(p - h),l+(o - g)⟩).holds ⟨sh,r0,r1,c0,c1⟩=true then none else some ⟨sh,r0,r1,c0,c1⟩)=jV aO (if iP ⟨sh,r0,c0,r1,c1⟩ ⟨E,h,g,p,o⟩=true then some ⟨ts,j+(r0 - h),l+(c0 - g),j+(r1 - h),l+(c1 - g)⟩else if iP ⟨sh,r0,c0,r1,c1⟩ ⟨ts,j,l,j+(p - h),l+(o - g)⟩=true then none else some ⟨sh,r0,c0,r1,c1⟩)
  have Q:∀(D a b e f:Nat),(aO ⟨D,a,b,e,f⟩).holds ⟨sh,r0,r1,c0,c1⟩=iP ⟨sh,r0,c0,r1,c1⟩ ⟨D,a,b,e,f⟩:=λD a b e f=>by
   show decide ((D:Int)=sh/\(a:Int)<=r0/\(r1:Int)<=e/\(b:Int)<=c0/\(c1:Int)<=f)=(sh==D&&(decide (a<=r0)&&(decide (r1<=e)&&(decide (b<=c0)&&decide (c1<=f)))));rw[cO];simp only[aC,aX,fO];omega
  rw[Q,Q];by_cases k:iP ⟨sh,r0,c0,r1,c1⟩ ⟨E,h,g,p,o⟩=true
  ·rw[az k,az k];have Y:(sh==E&&(decide (h<=r0)&&(decide (r1<=p)&&(decide (g<=c0)&&decide (c1<=o)))))=true:=k;simp only[aC,aX,fO]at Y;refine cK some ?_;show(⟨_,_,_,_,_⟩:b8)=⟨_,_,_,_,_⟩;dsimp only[aO]
   congr 1<;>omega
  ·rw[au k,au k];split<;>rfl
 |gone s=>
  show(if(sh:Int)=s then none else some (⟨sh,r0,r1,c0,c1⟩:b8))=jV aO (if sh=s then none else some ⟨sh,r0,c0,r1,c1⟩);by_cases k:sh=s
  ·rw[az k,az (by omega)];rfl
  ·rw[au k,au (by omega)];rfl
structure AX (c:bP):Prop where
 r:c.row<4096
 c:c.col<256
def AX.area (h:AX c):jB (cM c):=⟨aS _,h.r,aS _,h.c⟩
def Xv (f:gr x) (q:AX c):bT x (cM c)=(aU x c).map cM:=by
 obtain⟨sh,r,b⟩:=c;obtain⟨u,p⟩:=q;dsimp only at u p;cases x with
 |insert s rows at_ n lo g=>
  obtain⟨o,m,l,j,i⟩:=f;cases rows with
  |true=>
   show(if sh≠s\/b<lo\/g<b then some (⟨sh,r,b,r,b⟩:cH)else if 4096<=(if at_<=r then r+n else r)then none else some ⟨sh,(if at_<=r then r+n else r),b,(if at_<=r then min (r+n) 4095 else r),b⟩)=jV cM (if sh≠s\/b<lo\/g<b\/r<at_ then some ⟨sh,r,b⟩else if r+n<4096 then some ⟨sh,r+n,b⟩else none);by_cases c:sh≠s\/b<lo\/g<b
   ·rw[az c,az (by omega)];rfl
   ·rw[au c];by_cases d:at_<=r
    ·simp only[az d];rw[au (show ¬(sh≠s\/b<lo\/g<b\/r<at_) by omega)];by_cases e:r+n<4096
     ·rw[az e,au (show ¬4096<=r+n by omega),nG (by omega)];rfl
     ·rw[au e,az (show 4096<=r+n by omega)];rfl
    ·simp only[au d];rw[az (show sh≠s\/b<lo\/g<b\/r<at_ by omega),au (show ¬4096<=r by omega)];rfl
  |false=>
   show(if sh≠s\/r<lo\/g<r then some (⟨sh,r,b,r,b⟩:cH)else if 256<=(if at_<=b then b+n else b)then none else some ⟨sh,r,(if at_<=b then b+n else b),r,(if at_<=b then min (b+n) 255 else b)⟩)=jV cM (if sh≠s\/r<lo\/g<r\/b<at_ then some ⟨sh,r,b⟩else if b+n<256 then some ⟨sh,r,b+n⟩else none);by_cases c:sh≠s\/r<lo\/g<r
   ·rw[az c,az (by omega)];rfl
   ·rw[au c];by_cases d:at_<=b
    ·simp only[az d];rw[au (show ¬(sh≠s\/r<lo\/g<r\/b<at_) by omega)];by_cases e:b+n<256
     ·rw[az e,au (show ¬256<=b+n by omega),nG (by omega)];rfl
     ·rw[au e,az (show 256<=b+n by omega)];rfl
    ·simp only[au d];rw[az (show sh≠s\/r<lo\/g<r\/b<at_ by omega),au (show ¬256<=b by omega)];rfl
 |delete s rows at_ n lo g=>
  obtain⟨o,m,l,j,i⟩:=f;cases rows with
  |true=>
   show(if sh≠s\/b<lo\/g<b then some (⟨sh,r,b,r,b⟩:cH)else if at_<=r/\r<at_+n then none else some ⟨sh,(if r<at_ then r else if r<at_+n then at_ else r - n),b,(if r<at_ then r else if r<at_+n then at_ - 1 else r - n),b⟩)=jV cM (if sh≠s\/b<lo\/g<b\/r<at_ then some ⟨sh,r,b⟩else if r<at_+n then none else some ⟨sh,r - n,b⟩);by_cases c:sh≠s\/b<lo\/g<b
   ·rw[az c,az (by omega)];rfl
   ·rw[au c];by_cases d:r<at_
    ·rw[az d,az d,az (show sh≠s\/b<lo\/g<b\/r<at_ by omega),au (by omega)];rfl
    ·rw[au d,au d,au (show ¬(sh≠s\/b<lo\/g<b\/r<at_) by omega)];by_cases e:r<at_+n
     ·rw[az e,az e,az e,az (by omega)];rfl
     ·rw[au e,au e,au e,au (by omega)];rfl
  |false=>
   show(if sh≠s\/r<lo\/g<r then some (⟨sh,r,b,r,b⟩:cH)else if at_<=b/\b<at_+n then none else some ⟨sh,r,(if b<at_ then b else if b<at_+n then at_ else b - n),r,(if b<at_ then b else if b<at_+n then at_ - 1 else b - n)⟩)=jV cM (if sh≠s\/r<lo\/g<r\/b<at_ then some ⟨sh,r,b⟩else if b<at_+n then none else some ⟨sh,r,b - n⟩);by_cases c:sh≠s\/r<lo\/g<r
   ·rw[az c,az (by omega)];rfl
   ·rw[au c];by_cases d:b<at_
    ·rw[az d,az d,az (show sh≠s\/r<lo\/g<r\/b<at_ by omega),au (by omega)];rfl
    ·rw[au d,au d,au (show ¬(sh≠s\/r<lo\/g<r\/b<at_) by omega)];by_cases e:b<at_+n
     ·rw[az e,az e,az e,az (by omega)];rfl
     ·rw[au e,au e,au e,au (by omega)];rfl
 |move src to=>
  have h:∀a:cH,iP (cM ⟨sh,r,b⟩) a=a.has ⟨sh,r,b⟩:=λa=>by
   show(sh==a.sheet&&(decide (a.row0<=r)&&(decide (r<=a.row1)&&(decide (a.col0<=b)&&decide (b<=a.col1)))))=(a.sheet==sh&&(decide (a.row0<=r)&&(decide (r<=a.row1)&&(decide (a.col0<=b)&&decide (b<=a.col1)))));rw[show(sh==a.sheet)=(a.sheet==sh)from cO.mpr (by simp only[fO];exact⟨Eq.symm,Eq.symm⟩)]
  show(if iP (cM ⟨sh,r,b⟩) src=true then some (⟨to.sheet,to.row+(r - src.row0),to.col+(b - src.col0),to.row+(r - src.row0),to.col+(b - src.col0)⟩:cH)else if iP (cM ⟨sh,r,b⟩) (d6 src to)=true then none else some (cM ⟨sh,r,b⟩))=jV cM (if src.has ⟨sh,r,b⟩=true then some ⟨to.sheet,to.row+(r - src.row0),to.col+(b - src.col0)⟩else if(d6 src to).has ⟨sh,r,b⟩=true then none else some ⟨sh,r,b⟩);rw[h,h];split
  ·rfl
  ·split<;>rfl
 |gone s=>
  show(if sh=s then none else some (cM ⟨sh,r,b⟩))=jV cM (if sh=s then none else some ⟨sh,r,b⟩);split<;>rfl
def La (f:gr x) (q:AX c):(IC x).after (aO (cM c))=(aU x c).map λB=>aO (cM B):=by
 rw[UH f q.area,Xv f q,Option.map_map];rfl
def NB {b:cH} (f:gr x) (q:jB a) (h:bT x a=some b):jB b:=by
 obtain⟨sh,r0,c0,r1,c1⟩:=a;obtain⟨j,i,g,e⟩:=q;dsimp only at j i g e;cases x with
 |insert s rows at_ n lo o=>
  cases rows with
  |true=>
   have h:(if sh≠s\/c0<lo\/o<c1 then some (⟨sh,r0,c0,r1,c1⟩:cH)else if 4096<=(if at_<=r0 then r0+n else r0)then none else some ⟨sh,(if at_<=r0 then r0+n else r0),c0,(if at_<=r1 then min (r1+n) 4095 else r1),c1⟩)=some b:=h;split at h
   ·cases h;exact⟨j,i,g,e⟩
   ·by_cases k:4096<=(if at_<=r0 then r0+n else r0)
    ·rw[az k]at h;cases h
    ·rw[au k]at h;cases h;refine⟨?_,?_,g,e⟩
     ·dsimp only;by_cases d:at_<=r0
      ·rw[az d]at k⊢;rw[az (show at_<=r1 by omega)];omega
      ·rw[au d];split<;>omega
     ·dsimp only;split<;>omega
  |false=>
   have h:(if sh≠s\/r0<lo\/o<r1 then some (⟨sh,r0,c0,r1,c1⟩:cH)else if 256<=(if at_<=c0 then c0+n else c0)then none else some ⟨sh,r0,(if at_<=c0 then c0+n else c0),r1,(if at_<=c1 then min (c1+n) 255 else c1)⟩)=some b:=h;split at h
   ·cases h;exact⟨j,i,g,e⟩
   ·by_cases k:256<=(if at_<=c0 then c0+n else c0)
    ·rw[az k]at h;cases h
    ·rw[au k]at h;cases h;refine⟨j,i,?_,?_⟩
     ·dsimp only;by_cases d:at_<=c0
      ·rw[az d]at k⊢;rw[az (show at_<=c1 by omega)];omega
      ·rw[au d];split<;>omega
     ·dsimp only;split<;>omega
 |delete s rows at_ n lo o=>
  cases rows with
  |true=>
   have h:(if sh≠s\/c0<lo\/o<c1 then some (⟨sh,r0,c0,r1,c1⟩:cH)else if at_<=r0/\r1<at_+n then none else some ⟨sh,(if r0<at_ then r0 else if r0<at_+n then at_ else r0 - n),c0,(if r1<at_ then r1 else if r1<at_+n then at_ - 1 else r1 - n),c1⟩)=some b:=h;split at h
   ·cases h;exact⟨j,i,g,e⟩
   ·split at h
    ·cases h
    ·cases h;refine⟨?_,?_,g,e⟩
     ·dsimp only;split<;>split<;>(try split)<;>(try split)<;>omega
     ·dsimp only;split<;>(try split)<;>omega
  |false=>
   have h:(if sh≠s\/r0<lo\/o<r1 then some (⟨sh,r0,c0,r1,c1⟩:cH)else if at_<=c0/\c1<at_+n then none else some ⟨sh,r0,(if c0<at_ then c0 else if c0<at_+n then at_ else c0 - n),r1,(if c1<at_ then c1 else if c1<at_+n then at_ - 1 else c1 - n)⟩)=some b:=h;split at h
   ·cases h;exact⟨j,i,g,e⟩
   ·split at h
    ·cases h
    ·cases h;refine⟨j,i,?_,?_⟩
     ·dsimp only;split<;>split<;>(try split)<;>(try split)<;>omega
     ·dsimp only;split<;>(try split)<;>omega
 |move C to=>
  obtain⟨D,m,l,z,y⟩:=C;obtain⟨ts,p,u⟩:=to;obtain⟨⟨S,Q,P,M⟩,⟨L,J,H,E⟩⟩:=f;dsimp only[d6]at S Q P M L J H E;have h:(if iP ⟨sh,r0,c0,r1,c1⟩ ⟨D,m,l,z,y⟩=true then some (⟨ts,p+(r0 - m),u+(c0 - l),p+(r1 - m),u+(c1 - l)⟩:cH)else if iP ⟨sh,r0,c0,r1,c1⟩ ⟨ts,p,u,p+(z - m),u+(y - l)⟩=true then none else some ⟨sh,r0,c0,r1,c1⟩)=some b:=h;split at h
  ·rename_i k
   have T:(sh==D&&(decide (m<=r0)&&(decide (r1<=z)&&(decide (l<=c0)&&decide (c1<=y)))))=true:=k;simp only[aC,aX,fO]at T;cases h;exact⟨by dsimp only;omega,by dsimp only;omega,by dsimp only;omega,by dsimp only;omega⟩
  ·split at h
   ·cases h
   ·cases h;exact⟨j,i,g,e⟩
 |gone s=>
  have h:(if sh=s then none else some (⟨sh,r0,c0,r1,c1⟩:cH))=some b:=h;split at h
  ·cases h
  ·cases h;exact⟨j,i,g,e⟩
def Np {d:bP} (f:gr x) (q:AX c) (h:aU x c=some d):AX d:=by
 have:=NB f q.area (b:=cM d) (by rw[Xv f q,h];rfl);exact⟨this.r1,this.c1⟩
def alg (f place own:Int):Int:=if f=1 then place else place - own
def shP (f sheet own:Int):Int:=if f≠0\/sheet≠own then sheet+1 else f
def E6 (ch:XI) (own q:b8) (p:List Int):List Int:=match ch.after (vE p own)with
 |none=>[0,4,3]
 |some a=>match p with
  |[k,s,f,_,g,_]=>[k,shP s a.sheet q.sheet,f,alg f a.r0 q.r0,g,alg g a.c0 q.c0]
  |[k,s,f,r,g,c,b,r',g',c']=>
   [k,shP s a.sheet q.sheet,f,alg f ((rm (Ab own.r0 [k,s,f,r,g,c,b,r',g',c']) a.r0 a.r1).getD 0 0) q.r0,g,alg g ((rm (Dr own.c0 [k,s,f,r,g,c,b,r',g',c']) a.c0 a.c1).getD 0 0) q.c0,
    b,alg b ((rm (Ab own.r0 [k,s,f,r,g,c,b,r',g',c']) a.r0 a.r1).getD 1 0) q.r0,g',alg g' ((rm (Dr own.c0 [k,s,f,r,g,c,b,r',g',c']) a.c0 a.c1).getD 1 0) q.c0]
  |p=>p
def kj (ch:XI) (own f:b8) (p:List Int):List Int:=if lS p=true then E6 ch own f p else p
def fx (a:Lw):Int:=if a.fixed=true then 1 else 0
def Hs (s:oq):dA s=[fx s.row,s.row.at_,fx s.col,s.col.at_]:=rfl
def aiv (a:Lw) (own:Nat):qe (fx a) a.at_ own=(if a.fixed=true then a.at_ else(own:Int)+a.at_):=by
 unfold qe fx;by_cases c:a.fixed=true
 ·rw[az c,az rfl,az c]
 ·rw[au c,au (by decide),au c]
def HJ {own p:Nat} (h:a.from_ own most=some p):qe (fx a) a.at_ own=(p:Int)/\p<most:=by
 rw[aiv];unfold Rv at h;dsimp only at h;generalize (if a.fixed=true then a.at_ else(own:Int)+a.at_)=z at h⊢;by_cases c:0<=z/\z<(most:Int)
 ·rw[az c]at h;cases h;omega
 ·rw[au c]at h;cases h
def AE {own:Nat}:(a.from_ own most).isSome=decide (0<=qe (fx a) a.at_ own/\qe (fx a) a.at_ own<(most:Int)):=by
 rw[aiv];unfold Rv;dsimp only;generalize (if a.fixed=true then a.at_ else(own:Int)+a.at_)=z;by_cases c:0<=z/\z<(most:Int)
 ·rw[az c,aD c];rfl
 ·rw[au c,ba c];rfl
def ae8 (sh:Option Nat) (own:Nat):(if dG sh=0 then(own:Int)else dG sh - 1)=((sh.getD own:Nat):Int):=by
 cases sh with
 |none=>exact az rfl
 |some k=>
  show(if(k:Int)+1=0 then(own:Int)else(k:Int)+1 - 1)=k;rw[au (by omega)];omega
def lG {s:oq} {sh:Option Nat} {own c:bP} (h:s.cell sh own=some c):qe (fx s.row) s.row.at_ own.row=(c.row:Int)/\qe (fx s.col) s.col.at_ own.col=(c.col:Int)/\c.sheet=sh.getD own.sheet/\AX c:=by
 unfold Bb at h;cases a:s.row.from_ own.row vG with
 |none=>rw[a]at h;cases h
 |some r=>
  cases b:s.col.from_ own.col vH with
  |none=>rw[a,b]at h;cases h
  |some d=>
   rw[a,b]at h;cases h;exact⟨(HJ a).1,(HJ b).1,rfl,(HJ a).2,(HJ b).2⟩
def UC (h:s.cell sh own=some c):vE (1::dG sh::dA s) (aO (cM own))=aO (cM c):=by
 obtain⟨d,b,a,_⟩:=lG h;show(⟨if dG sh=0 then(own.sheet:Int)else dG sh - 1,qe (fx s.row) s.row.at_ own.row,qe (fx s.row) s.row.at_ own.row,qe (fx s.col) s.col.at_ own.col,qe (fx s.col) s.col.at_ own.col⟩:b8)=⟨c.sheet,c.row,c.row,c.col,c.col⟩;rw[ae8,d,b,a]
def vX {b:oq} (h:iK sh a b own=some t):∃x y,a.cell sh own=some x/\b.cell sh own=some y/\t=⟨x.sheet,min x.row y.row,min x.col y.col,max x.row y.row,max x.col y.col⟩:=by
 unfold iK at h;cases d:a.cell sh own with
 |none=>rw[d]at h;cases h
 |some x=>
  cases e:b.cell sh own with
  |none=>rw[d,e]at h;cases h
  |some y=>rw[d,e]at h;cases h;exact⟨x,y,rfl,rfl,rfl⟩
def UD {b:oq} (h:iK sh a b own=some t):vE (2::dG sh::(dA a++dA b)) (aO (cM own))=aO t:=by
 obtain⟨x,y,e,d,rfl⟩:=vX h;obtain⟨m,l,j,_⟩:=lG e;obtain⟨i,g,n,_⟩:=lG d;show(⟨if dG sh=0 then(own.sheet:Int)else dG sh - 1,min (qe (fx a.row) a.row.at_ own.row) (qe (fx b.row) b.row.at_ own.row),max (qe (fx a.row) a.row.at_ own.row) (qe (fx b.row) b.row.at_ own.row),min (qe (fx a.col) a.col.at_ own.col) (qe (fx b.col) b.col.at_ own.col),max (qe (fx a.col) a.col.at_ own.col) (qe (fx b.col) b.col.at_ own.col)⟩:b8)=⟨x.sheet,(min x.row y.row:Nat),(max x.row y.row:Nat),(min x.col y.col:Nat),(max x.col y.col:Nat)⟩;rw[ae8,m,l,i,g,j]
 congr 1<;>omega
def zt {b:oq} (h:iK sh a b own=some t):jB t:=by
 obtain⟨x,y,e,d,rfl⟩:=vX h;obtain⟨_,_,_,l,j⟩:=lG e;obtain⟨_,_,_,i,g⟩:=lG d;exact⟨by dsimp only;omega,by dsimp only;omega,by dsimp only;omega,by dsimp only;omega⟩
def Dd (a:Lw) (p o:Nat):fx (gH a p o)=fx a/\(gH a p o).at_=alg (fx a) p o:=by
 refine⟨rfl,?_⟩;show(if a.fixed=true then(p:Int)else(p:Int) - (o:Int))=alg (fx a) p o;unfold alg fx;by_cases c:a.fixed=true
 ·rw[az c,az c,az rfl]
 ·rw[au c,au c,au (by decide)]
def Sr (sh:Option Nat) (s o:Nat):dG (Kc sh s o)=shP (dG sh) s o:=by
 unfold Kc shP;cases sh with
 |none=>
  by_cases c:s=o
  ·rw[az ⟨rfl,c⟩,au (by subst c;simp[dG])]
  ·rw[au (λz=>c z.2),az (EK (by omega))];rfl
 |some k=>
  rw[au (λz=>by cases z.1),az (oY (by show(k:Int)+1≠0;omega))];rfl
def agh {x:eZ} {s:oq} {sh:Option Nat} {own new c:bP} (f:gr x) (h:s.cell sh own=some c):
 partsOf (fS (aU x) (bT x) own new (.spot sh s))=[E6 (IC x) (aO (cM own)) (aO (cM new)) (1::dG sh::dA s)]:=by
 have v:=(lG h).2.2.2;rw[fS,h];unfold E6;rw[UC h,La f v];show partsOf (match aU x c with|some c=>_|none=>aDp)=_
 cases e:aU x c with
 |none=>rfl
 |some d=>
  show [1::dG (Kc sh d.sheet new.sheet)::dA ⟨gH s.row d.row new.row,gH s.col d.col new.col⟩]=[[1,shP (dG sh) d.sheet new.sheet,fx s.row,alg (fx s.row) d.row new.row,fx s.col,alg (fx s.col) d.col new.col]];rw[Hs,Sr];dsimp only;rw[(Dd s.row d.row new.row).1,(Dd s.row d.row new.row).2,(Dd s.col d.col new.col).1,(Dd s.col d.col new.col).2]
def aa2 {x y p q:Nat}:rm [(x:Int),(y:Int)] p q=if decide (x<=y)=true then [(p:Int),(q:Int)]else [(q:Int),(p:Int)]:=by
 unfold rm;show(if(y:Int)<x then _ else _)=_;by_cases c:x<=y
 ·rw[au (by omega),az (aD c)]
 ·rw[az (by omega),au (by rw[aX];exact c)]
def agi {x:eZ} {a b:oq} {sh:Option Nat} {own new:bP} {t:cH} (f:gr x) (h:iK sh a b own=some t):
 partsOf (fS (aU x) (bT x) own new (.area sh a b))=[E6 (IC x) (aO (cM own)) (aO (cM new)) (2::dG sh::(dA a++dA b))]:=by
 have v:=zt h;obtain⟨u,w,i,g,o⟩:=vX h;obtain⟨n,m,s,_⟩:=lG i;obtain⟨l,j,p,_⟩:=lG g;rw[fS,i,g,h];unfold E6;rw[UD h,UH f v];show partsOf (match some u,some w,bT x t with|some x,some y,some t=>_|_,_,_=>aDp)=_
 cases e:bT x t with
 |none=>rfl
 |some d=>
  show partsOf (.area (Kc sh d.sheet new.sheet) ⟨gH a.row (if decide (u.row<=w.row)=true then d.row0 else d.row1) new.row,gH a.col (if decide (u.col<=w.col)=true then d.col0 else d.col1) new.col⟩ ⟨gH b.row (if decide (u.row<=w.row)=true then d.row1 else d.row0) new.row,gH b.col (if decide (u.col<=w.col)=true then d.col1 else d.col0) new.col⟩)=
   [[2,shP (dG sh) d.sheet new.sheet,fx a.row,alg (fx a.row) ((rm [qe (fx a.row) a.row.at_ own.row,qe (fx b.row) b.row.at_ own.row] d.row0 d.row1).getD 0 0) new.row,fx a.col,alg (fx a.col) ((rm [qe (fx a.col) a.col.at_ own.col,qe (fx b.col) b.col.at_ own.col] d.col0 d.col1).getD 0 0) new.col,
    fx b.row,alg (fx b.row) ((rm [qe (fx a.row) a.row.at_ own.row,qe (fx b.row) b.row.at_ own.row] d.row0 d.row1).getD 1 0) new.row,fx b.col,alg (fx b.col) ((rm [qe (fx a.col) a.col.at_ own.col,qe (fx b.col) b.col.at_ own.col] d.col0 d.col1).getD 1 0) new.col]]
  rw[n,m,l,j,aa2,aa2];show [2::dG (Kc sh d.sheet new.sheet)::(dA _++dA _)]=_;rw[Hs,Hs,Sr];dsimp only;rw[(Dd a.row _ new.row).1,(Dd a.row _ new.row).2,(Dd a.col _ new.col).1,(Dd a.col _ new.col).2,(Dd b.row _ new.row).1,(Dd b.row _ new.row).2,(Dd b.col _ new.col).1,(Dd b.col _ new.col).2];by_cases c1:decide (u.row<=w.row)=true
  ·by_cases c2:decide (u.col<=w.col)=true
   ·simp only[az c1,az c2];rfl
   ·simp only[az c1,au c2];rfl
  ·by_cases c2:decide (u.col<=w.col)=true
   ·simp only[au c1,az c2];rfl
   ·simp only[au c1,au c2];rfl
def wW {own:b8} {p:List Int} (h:z≠1/\z≠2):kj ch own iO (z::p)=z::p:=by
 unfold kj;rw[au];intro q;have:z=1\/z=2:=cb q;omega
def WV {own:b8} {p:List Int} (h:z=1\/z=2):kj ch own iO (z::p)=E6 ch own iO (z::p):=az (aD h)
def uB (own:bP) (f:bO):Prop:=∀o∈dQ own f,o.isSome=true
def G0 (own:bP) (l:List bO):Prop:=∀o∈lI own l,o.isSome=true
section
variable {x:eZ} {new:bP}
mutual
theorem jQ (q:gr x):∀f:bO,uB own f->partsOf (fS (aU x) (bT x) own new f)=(partsOf f).map (kj (IC x) (aO (cM own)) (aO (cM new)))
 |.value v,_=>by
  show [0::eP v]=[kj _ _ _ (0::eP v)];rw[wW (by decide)]
 |.spot sh s,h=>by
  have h1:(xV sh s own).isSome=true:=h _ (by rw[dQ];exact br.mpr rfl);cases e:s.cell sh own with
  |none=>unfold xV at h1;rw[e]at h1;cases h1
  |some c=>
   rw[agh q e];show _=[kj _ _ _ (1::dG sh::dA s)];rw[WV (oY rfl)]
 |.area sh a b,h=>by
  have h1:(iK sh a b own).isSome=true:=h _ (by rw[dQ];exact br.mpr rfl);cases e:iK sh a b own with
  |none=>rw[e]at h1;cases h1
  |some t=>
   rw[agi q e];show _=[kj _ _ _ (2::dG sh::(dA a++dA b))];rw[WV (EK rfl)]
 |.name n,_=>by
  show [3::bV n]=[kj _ _ _ (3::bV n)];rw[wW (by decide)]
 |.column t c p,_=>by
  show [4::(bV t++(bV c++[(p:Int)]))]=[kj _ _ _ (4::(bV t++(bV c++[(p:Int)])))];rw[wW (by decide)]
 |.one g e,h=>by
  show [5,(g:Int)]::partsOf (fS (aU x) (bT x) own new e)=kj _ _ _ [5,(g:Int)]::(partsOf e).map _;rw[wW (by decide),jQ q e (λo d=>h o (by rw[dQ];exact d))]
 |.two g a b,h=>by
  show [6,(g:Int)]::(partsOf (fS (aU x) (bT x) own new a)++partsOf (fS (aU x) (bT x) own new b))=kj _ _ _ [6,(g:Int)]::(partsOf a++partsOf b).map _;rw[wW (by decide),jQ q a (λo d=>h o (by rw[dQ];exact gg _ d)),jQ q b (λo d=>h o (by rw[dQ];exact dB _ d)),aT]
 |.call f l,h=>by
  show(7::(bV f++[((j9 (aU x) (bT x) own new l).length:Int)]))::cZ (j9 (aU x) (bT x) own new l)=kj _ _ _ (7::(bV f++[(l.length:Int)]))::(cZ l).map _;rw[wW (by decide),(uN q l (λo d=>h o (by rw[dQ];exact d))).1,(uN q l (λo d=>h o (by rw[dQ];exact d))).2]
 |.grid l,_=>by
  show [8::(l.length:Int)::((l.headD []).length:Int)::l.flatten.flatMap eP]=[kj _ _ _ (8::(l.length:Int)::((l.headD []).length:Int)::l.flatten.flatMap eP)];rw[wW (by decide)]
theorem uN (f:gr x):∀l:List bO,G0 own l->cZ (j9 (aU x) (bT x) own new l)=(cZ l).map (kj (IC x) (aO (cM own)) (aO (cM new)))/\(j9 (aU x) (bT x) own new l).length=l.length
 |[],_=>⟨rfl,rfl⟩
 |e::l,h=>by
  have h1:=jQ f e (λo a=>h o (by rw[lI];exact gg _ a));obtain⟨d,b⟩:=uN f l (λo a=>h o (by rw[lI];exact dB _ a));refine⟨?_,?_⟩
  ·show partsOf (fS (aU x) (bT x) own new e)++cZ (j9 (aU x) (bT x) own new l)=(partsOf e++cZ l).map _;rw[h1,d,aT]
  ·show(fS (aU x) (bT x) own new e::j9 (aU x) (bT x) own new l).length=(e::l).length;rw[ak,ak,b]
end
end
def KeysOf (kvs:List (L2.Key×L2.V)) (b:cy):Prop:=∀k:Nat,(L2.gF kvs (bh (k:Int))).isSome=b.sheet k
section
def OP {kvs:List (L2.Key×L2.V)} {b:cy} {own:bP} (f:KeysOf kvs b) (sh:Option Nat) (s:oq):jH kvs (1::dG sh::dA s) (aO (cM own))=(s.cell sh own).any λc=>b.sheet c.sheet:=by
 cases e:s.cell sh own with
 |some c=>
  unfold jH;rw[UC e];have v:=(lG e).2.2.2;have a:(aO (cM c)).on=true:=aD (show(0:Int)<=c.row/\(c.row:Int)<=c.row/\(c.row:Int)<=4095/\(0:Int)<=c.col/\(c.col:Int)<=c.col/\(c.col:Int)<=255 by have:=v.r;have:=v.c;omega);rw[a,dh];exact f c.sheet
 |none=>
  unfold jH
  have a:(vE (1::dG sh::dA s) (aO (cM own))).on=false:=by
   show decide (0<=qe (fx s.row) s.row.at_ own.row/\qe (fx s.row) s.row.at_ own.row<=qe (fx s.row) s.row.at_ own.row/\qe (fx s.row) s.row.at_ own.row<=4095/\0<=qe (fx s.col) s.col.at_ own.col/\qe (fx s.col) s.col.at_ own.col<=qe (fx s.col) s.col.at_ own.col/\qe (fx s.col) s.col.at_ own.col<=255)=false;refine ba λq=>?_
   unfold Bb at e;have i:(s.row.from_ own.row vG).isSome=true:=by rw[AE];exact aD (show _/\_<((4096:Nat):Int) by omega)
   have h:(s.col.from_ own.col vH).isSome=true:=by rw[AE];exact aD (show _/\_<((256:Nat):Int) by omega)
   obtain⟨r,d⟩:=gD.mp i;obtain⟨c,g⟩:=gD.mp h;rw[d,g]at e;cases e
  rw[a,eU];rfl
def OQ (f:KeysOf kvs b) (sh:Option Nat) (s t:oq):jH kvs (2::dG sh::(dA s++dA t)) (aO (cM own))=(iK sh s t own).any λa=>b.sheet a.sheet:=by
 cases e:iK sh s t own with
 |some a=>
  unfold jH;rw[UD e];have v:=zt e;have d:(aO a).on=true:=aD (show(0:Int)<=a.row0/\(a.row0:Int)<=a.row1/\(a.row1:Int)<=4095/\(0:Int)<=a.col0/\(a.col0:Int)<=a.col1/\(a.col1:Int)<=255 by have:=v.r;have:=v.r1;have:=v.c;have:=v.c1;omega);rw[d,dh];exact f a.sheet
 |none=>
  unfold jH
  have d:(vE (2::dG sh::(dA s++dA t)) (aO (cM own))).on=false:=by
   show decide (0<=min (qe (fx s.row) s.row.at_ own.row) (qe (fx t.row) t.row.at_ own.row)/\min (qe (fx s.row) s.row.at_ own.row) (qe (fx t.row) t.row.at_ own.row)<=max (qe (fx s.row) s.row.at_ own.row) (qe (fx t.row) t.row.at_ own.row)/\max (qe (fx s.row) s.row.at_ own.row) (qe (fx t.row) t.row.at_ own.row)<=4095/\
    0<=min (qe (fx s.col) s.col.at_ own.col) (qe (fx t.col) t.col.at_ own.col)/\min (qe (fx s.col) s.col.at_ own.col) (qe (fx t.col) t.col.at_ own.col)<=max (qe (fx s.col) s.col.at_ own.col) (qe (fx t.col) t.col.at_ own.col)/\max (qe (fx s.col) s.col.at_ own.col) (qe (fx t.col) t.col.at_ own.col)<=255)=false
   refine ba λq=>?_
   unfold iK Bb at e;have o:(s.row.from_ own.row vG).isSome=true:=by rw[AE];exact aD (show _/\_<((4096:Nat):Int) by omega)
   have n:(s.col.from_ own.col vH).isSome=true:=by rw[AE];exact aD (show _/\_<((256:Nat):Int) by omega)
   have m:(t.row.from_ own.row vG).isSome=true:=by rw[AE];exact aD (show _/\_<((4096:Nat):Int) by omega)
   have l:(t.col.from_ own.col vH).isSome=true:=by rw[AE];exact aD (show _/\_<((256:Nat):Int) by omega)
   obtain⟨r,i⟩:=gD.mp o;obtain⟨c,j⟩:=gD.mp n;obtain⟨p,h⟩:=gD.mp m;obtain⟨u,g⟩:=gD.mp l;rw[i,j,h,g]at e;cases e
  rw[d,eU];rfl
def eV (kvs:List (L2.Key×L2.V)) (x:b8) (ps:List (List Int)):Bool:=(ps.filter lS).all λp=>jH kvs p x
def WY (x:b8) (p q:List (List Int)):eV kvs x (p++q)=(eV kvs x p&&eV kvs x q):=by unfold eV;rw[eT,List.all_append]
def TF {p:List Int} {q:List (List Int)} (h:z≠1/\z≠2):eV kvs x ((z::p)::q)=eV kvs x q:=by
 unfold eV;rw[cQ,au];intro w;have:z=1\/z=2:=cb w;omega
def aiX {p:List Int} (h:z=1\/z=2):eV kvs x [z::p]=jH kvs (z::p) x:=by
 unfold eV;rw[cQ,az (show lS (z::p)=true from aD h),XR,gX,Kh,dh]
mutual
theorem qp (q:KeysOf kvs b):∀f:bO,dZ b own f=(Iu f&&eV kvs (aO (cM own)) (partsOf f))
 |.value v=>by
  show(v.good&&v != .empty)=(yk v&&eV kvs _ [0::eP v]);rw[TF (by decide)];exact(dh _).symm
 |.spot sh s=>by
  show((s.cell sh own).any λc=>b.sheet c.sheet)=(true&&eV kvs _ [1::dG sh::dA s]);rw[aiX (oY rfl),OP q,bM]
 |.area sh s t=>by
  show((iK sh s t own).any λa=>b.sheet a.sheet)=(true&&eV kvs _ [2::dG sh::(dA s++dA t)]);rw[aiX (EK rfl),OQ q,bM]
 |.name n=>by
  show cI n=(cI n&&eV kvs _ [3::bV n]);rw[TF (by decide)];exact(dh _).symm
 |.column t c p=>by
  show _=(_&&eV kvs _ [4::(bV t++(bV c++[(p:Int)]))]);rw[TF (by decide)];exact(dh _).symm
 |.one op e=>by
  show(ng true op&&dZ b own e)=((ng true op&&Iu e)&&eV kvs _ ([5,(op:Int)]::partsOf e));rw[TF (by decide),qp q e,pO]
 |.two op x y=>by
  show(ng false op&&(dZ b own x&&dZ b own y))=((ng false op&&(Iu x&&Iu y))&&eV kvs _ ([6,(op:Int)]::(partsOf x++partsOf y)));rw[TF (by decide),WY,qp q x,qp q y];cases ng false op<;>cases Iu x<;>cases Iu y<;>simp
 |.call f l=>by
  show(cI f&&(decide (l.length<=64)&&zb b own l))=(((cI f&&decide (l.length<=64))&&yz l)&&eV kvs _ ((7::(bV f++[(l.length:Int)]))::cZ l));rw[TF (by decide),JD q l];simp only[pO]
 |.grid l=>by
  show _=(_&&eV kvs _ [8::(l.length:Int)::((l.headD []).length:Int)::l.flatten.flatMap eP]);rw[TF (by decide)];exact(dh _).symm
theorem JD (f:KeysOf kvs b):∀l:List bO,zb b own l=(yz l&&eV kvs (aO (cM own)) (cZ l))
 |[]=>rfl
 |e::l=>by
  show(dZ b own e&&zb b own l)=((Iu e&&yz l)&&eV kvs _ (partsOf e++cZ l));rw[WY,qp f e,JD f l];cases Iu e<;>cases yz l<;>simp
end
def zr (kvs:List (L2.Key×L2.V)) (own:b8) (p:List Int):List Int:=if(lS p&& !jH kvs p own)=true then [0,4,3]else p
def Cd {p:List Int} (h:z≠1/\z≠2):zr kvs x (z::p)=z::p:=by
 unfold zr;rw[au];intro w;rw[aC]at w;have:z=1\/z=2:=cb w.1;omega
def abZ {p:List Int} (h:z=1\/z=2):zr kvs x (z::p)=if jH kvs (z::p) x=true then z::p else [0,4,3]:=by
 unfold zr;rw[show lS (z::p)=true from aD h,bM];cases jH kvs (z::p) x<;>rfl
mutual
theorem qg (q:KeysOf kvs b):∀f:bO,partsOf (eF b own f)=(partsOf f).map (zr kvs (aO (cM own)))
 |.value v=>by
  show [0::eP v]=[zr _ _ (0::eP v)];rw[Cd (by decide)]
 |.spot sh s=>by
  show partsOf (eF b own (.spot sh s))=[zr _ _ (1::dG sh::dA s)];rw[abZ (oY rfl),OP q,eF];split<;>rfl
 |.area sh s t=>by
  show partsOf (eF b own (.area sh s t))=[zr _ _ (2::dG sh::(dA s++dA t))];rw[abZ (EK rfl),OQ q,eF];split<;>rfl
 |.name n=>by
  show [3::bV n]=[zr _ _ (3::bV n)];rw[Cd (by decide)]
 |.column t c p=>by
  show [4::(bV t++(bV c++[(p:Int)]))]=[zr _ _ (4::(bV t++(bV c++[(p:Int)])))];rw[Cd (by decide)]
 |.one op e=>by
  show [5,(op:Int)]::partsOf (eF b own e)=zr _ _ [5,(op:Int)]::(partsOf e).map _;rw[Cd (by decide),qg q e]
 |.two op x y=>by
  show [6,(op:Int)]::(partsOf (eF b own x)++partsOf (eF b own y))=zr _ _ [6,(op:Int)]::(partsOf x++partsOf y).map _;rw[Cd (by decide),qg q x,qg q y,aT]
 |.call f l=>by
  show(7::(bV f++[((ju b own l).length:Int)]))::cZ (ju b own l)=zr _ _ (7::(bV f++[(l.length:Int)]))::(cZ l).map _;rw[Cd (by decide),(oB q l).1,(oB q l).2]
 |.grid l=>by
  show [8::(l.length:Int)::((l.headD []).length:Int)::l.flatten.flatMap eP]=[zr _ _ (8::(l.length:Int)::((l.headD []).length:Int)::l.flatten.flatMap eP)];rw[Cd (by decide)]
theorem oB (f:KeysOf kvs b):∀l:List bO,cZ (ju b own l)=(cZ l).map (zr kvs (aO (cM own)))/\(ju b own l).length=l.length
 |[]=>⟨rfl,rfl⟩
 |e::l=>by
  refine⟨?_,?_⟩
  ·show partsOf (eF b own e)++cZ (ju b own l)=(partsOf e++cZ l).map _;rw[qg f e,(oB f l).1,aT]
  ·show(eF b own e::ju b own l).length=(e::l).length;rw[ak,ak,(oB f l).2]
end
end
def Uv {b:bP}:lJ a b=true↔a.sheet<b.sheet\/(a.sheet=b.sheet/\(a.row<b.row\/(a.row=b.row/\a.col<b.col))):=by
 unfold lJ;simp only[so,aC,aX,fO]
def HP:¬lJ a a=true:=by rw[Uv];omega
def ab6 {b:bP} (q:lJ a b=true) (f:lJ b c=true):lJ a c=true:=by
 rw[Uv]at *;omega
def ajY {b:bP} (h:a≠b) (f:¬lJ a b=true):lJ b a=true:=by
 rw[Uv]at *;have:¬(a.sheet=b.sheet/\a.row=b.row/\a.col=b.col):=fun⟨p,q,r⟩=>h (by cases a;cases b;simp_all)
 omega
abbrev CL:=List (bP×cE)
def UI (l:CL):Prop:=l.Pairwise λx y=>lJ x.1 y.1=true
def kG (l:CL):List bP:=l.map (·.1)
def UI.nodup {l:CL} (h:UI l):(kG l).Nodup:=by
 unfold kG nI;rw[dm];refine xT ?_ h;intro x y q e;rw[e]at q;exact HP q
theorem Yx {y:bP×cE}:∀{l:CL},y∈fQ c x l->y=(c,x)\/y∈l
 |[],h=>by
  left;simpa [fQ]using h
 |z::l,h=>by
  unfold fQ at h;split at h
  ·rcases aY.mp h with h|h
   ·exact .inl h
   ·exact .inr h
  ·split at h
   ·rcases aY.mp h with h|h
    ·exact .inl h
    ·exact .inr (aL _ h)
   ·rcases aY.mp h with h|h
    ·exact .inr (h▸aM)
    ·rcases Yx h with h|h
     ·exact .inl h
     ·exact .inr (aL _ h)
theorem RJ:∀{l:CL},UI l->UI (fQ c x l)
 |[],_=>List.pairwise_singleton ..
 |z::l,h=>by
  obtain⟨h1,f⟩:=mK.mp h;unfold fQ;split
  next b=>
   refine mK.mpr ⟨λy a=>?_,h⟩;rcases aY.mp a with rfl|a
   ·exact b
   ·exact ab6 b (h1 y a)
  next b=>
   split
   next d=>
    refine mK.mpr ⟨λy a=>?_,f⟩;show lJ c y.1=true;rw[<-d];exact h1 y a
   next d=>
    refine mK.mpr ⟨λy a=>?_,RJ f⟩;rcases Yx a with rfl|a
    ·exact ajY (λe=>d e.symm) b
    ·exact h1 y a
theorem Mq:∀{l:CL},UI l->(fQ c x l).Perm ((c,x)::l.filter λy=>y.1 != c)
 |[],_=>Vb _
 |z::l,h=>by
  obtain⟨h1,f⟩:=mK.mp h
  have i:∀{d:bP},(∀y∈l,lJ d y.1=true)->(l.filter λy=>y.1 != d)=l:=fun {d} hd=>cD.mpr λy a=>by
   simp only[EJ,atn];intro e;exact HP (e▸hd y a)
  unfold fQ;split
  next g=>
   rw[cQ,i (λy a=>ab6 g (h1 y a)),az (by simp only[EJ,atn];exact λe=>HP (e▸g))]
  next g=>
   split
   next b=>
    rw[cQ,au (by simp[b]),i (λy a=>b▸h1 y a)]
   next b=>
    rw[cQ,az (by simpa using b)];exact((Mq f).cons z).trans (ah1 ..)
theorem Xd:∀(l m:CL),UI m->(kG m++kG l).Nodup->UI (l.foldl (λm x=>fQ x.1 x.2 m) m)/\(l.foldl (λm x=>fQ x.1 x.2 m) m).Perm (m++l)
 |[],m,h,_=>⟨h,by rw[cX];exact Vb _⟩
 |x::l,m,h,f=>by
  have q:x.1∉kG m:=λj=>(dH.mp f).2.2 _ j _ (aM) rfl
  have n:(m.filter λy=>y.1 != x.1)=m:=cD.mpr λy i=>by
   simp only[EJ,atn];intro e;exact q (e▸bu i)
  have d:(fQ x.1 x.2 m).Perm (x::m):=by
   have:=Mq (c:=x.1) (x:=x.2) h
   rwa [n]at this
  have g:(kG (fQ x.1 x.2 m)++kG l).Perm (kG m++kG (x::l)):=by
   refine((d.map _).append_right _).trans ?_;show(x.1::(kG m++kG l)).Perm (kG m++x.1::kG l);exact amR.symm
  obtain⟨a,b⟩:=Xd l (fQ x.1 x.2 m) (RJ h) (g.nodup_iff.mpr f);refine⟨a,b.trans ((d.append_right l).trans ?_)⟩;exact amR.symm
theorem abR:∀(l m:CL),UI m->UI (l.foldl (λm x=>fQ x.1 x.2 m) m)
 |[],_,h=>h
 |x::l,m,h=>abR l _ (RJ h)
def FZ (l:CL):UI (afQ l):=abR l [] .nil
def MS {l:CL} (h:(kG l).Nodup):(afQ l).Perm l:=(Xd l [] .nil h).2
def Bj {l:CL} (h:UI l) (p:bP×cE->Bool):UI (l.filter p):=h.filter p
def Ny (h:UI b.cells):b.at_ c=some x↔(c,x)∈b.cells:=by
 have a:∀{l:CL},UI l->(((l.find? λy=>y.1==c).map λy=>y.2)=some x↔(c,x)∈l):=by
  intro l
  induction l with
  |nil=>intro _;simp
  |cons z l d=>
   intro h;obtain⟨i,g⟩:=mK.mp h;rw[fT];by_cases e:z.1=c
   ·rw[show(z.1==c)=true by simp[e]];constructor
    ·intro q;have q:z.2=x:=by simpa using q
     exact aY.mpr (.inl (by rw[<-e,<-q]))
    ·intro q;rcases aY.mp q with q|q
     ·rw[<-q];rfl
     ·exact absurd (e▸i _ q) HP
   ·rw[show(z.1==c)=false by simp[e]];refine(d g).trans ⟨λq=>aL _ q,λq=>?_⟩;rcases aY.mp q with q|q
    ·exact absurd (by rw[<-q]) e
    ·exact q
 exact a h
def Nz:b.at_ c=none↔c∉kG b.cells:=by
 unfold aDq kG;simp only[acK,akl,aG,fO,not_exists,not_and]
def ae_0 (x:eZ) (d:bP):bP:=match x with
 |.insert s r a n l g=>if d.sheet≠s\/afR d r<l\/g<afR d r\/ahC d r<a then d else Ly d r (ahC d r-n)
 |.delete s r a n l g=>if d.sheet≠s\/afR d r<l\/g<afR d r\/ahC d r<a then d else Ly d r (ahC d r+n)
 |.move a t=>if (d6 a t).has d=true then ⟨a.sheet,a.row0+(d.row-t.row),a.col0+(d.col-t.col)⟩ else d
 |.gone _=>d
def ae_1 {c:bP} {r z}:(Ly c r z).sheet=c.sheet/\afR (Ly c r z) r=afR c r/\ahC (Ly c r z) r=z/\Ly (Ly c r z) r (ahC c r)=c:=by cases r<;>exact⟨rfl,rfl,rfl,rfl⟩
def ae_2 {d:bP} (h:aU x c=some d):ae_0 x d=c:=by
 cases x with
 |insert s r a n l g=>
  simp only[aU]at h;split at h
  next p=>cases h;exact az p
  next p=>
   split at h
   next q=>cases h;obtain⟨i,j,k,m⟩:=ae_1 (c:=c) (r:=r) (z:=ahC c r+n);unfold ae_0;dsimp only;rw[i,j,k,au (λz=>p (z.imp_right (·.imp_right (·.imp_right λy=>by omega)))),Nat.add_sub_cancel,m]
   next=>cases h
 |delete s r a n l g=>
  simp only[aU]at h;split at h
  next p=>cases h;exact az p
  next p=>
   split at h
   next=>cases h
   next q=>cases h;obtain⟨i,j,k,m⟩:=ae_1 (c:=c) (r:=r) (z:=ahC c r-n);unfold ae_0;dsimp only;rw[i,j,k,au (λz=>p (z.imp_right (·.imp_right (·.imp_right λy=>by omega)))),Nat.sub_add_cancel (by omega),m]
 |move a t=>
  simp only[aU]at h;split at h
  next p=>
   cases h;unfold amO at p;simp only[aC,aX,fO]at p;obtain⟨i,j,k,m,o⟩:=p;unfold ae_0;dsimp only;rw[az (by unfold amO d6;simp only[aC,aX,fO];exact⟨trivial,by omega,by omega,by omega,by omega⟩)];obtain⟨u,v,w⟩:=c;simp only[df]at i j k m o⊢;omega
  next p=>
   split at h
   next=>cases h
   next q=>cases h;exact au q
 |gone s=>
  simp only[aU]at h;split at h<;>cases h;rfl
def aek {d:bP} (h:aU x c=some d) (h':aU x c'=some d):c=c':=(ae_2 h).symm.trans (ae_2 h')
theorem FF (f:gr x) (g:bP×cE->bP->cE):∀{l:CL},(kG l).Nodup->(kG (l.filterMap λy=>(aU x y.1).map λc=>(c,g y c))).Nodup
 |[],_=>.nil
 |z::l,h=>by
  obtain⟨h1,q⟩:=bR.mp h;rw[jD];cases e:aU x z.1 with
  |none=>exact FF f g q
  |some d=>
   refine bR.mpr ⟨λn=>?_,FF f g q⟩;obtain⟨y,j,o⟩:=aG.mp n;obtain⟨u,m,a⟩:=gW.mp j;cases b:aU x u.1 with
   |none=>rw[b]at a;cases a
   |some i=>
    rw[b]at a;have:y=(i,g u i):=(ay a).symm;subst this;have p:i=d:=o;subst p;refine h1 ?_;show z.1∈kG l;rw[aek e b];exact bu m
def BS (f:gr x) (h:UI b.cells):
 (b.moved (aU x) (bT x)).cells.Perm (b.cells.filterMap λy=>(aU x y.1).map λc=>(c,y.2.follow (aU x) (bT x) y.1 c)):=
 MS (FF f _ h.nodup)
def aeT {p o:Nat} (h:p<most):(gH a p o).from_ o most=some p:=by
 unfold gH Rv;cases b:a.fixed with
 |true=>
  simp only[rb];rw[az (by omega),dz]
 |false=>
  simp only[eB,lC];rw[show(o:Int)+((p:Int) - (o:Int))=(p:Int) by omega,az (by omega),dz]
def X3 {c:Lw} {p q:Nat} (B:p<4096) (f:q<256):(Bb ⟨gH r p own.row,gH c q own.col⟩ sh own)=some ⟨sh.getD own.sheet,p,q⟩:=by
 unfold Bb;rw[aeT (most:=vG) B,aeT (most:=vH) f];rfl
def wg {own:bP} {o:Option cH} (h:o.isSome=true):∀y∈[o],y.isSome=true:=λy a=>by
 rw[br.mp a];exact h
section
variable {x:eZ} {new:bP}
mutual
theorem mR (B:gr x):∀f:bO,uB own f->uB new (fS (aU x) (bT x) own new f)
 |.value v,_=>by
  intro o q;cases(show o∈([]:List (Option cH))from q)
 |.spot sh s,h=>by
  rw[fS];cases e:s.cell sh own with
  |none=>
   have:=h none (by rw[dQ,xV,e];exact acX _);cases this
  |some c=>
   obtain⟨_,_,_,m⟩:=lG e;cases i:aU x c with
   |none=>
    rw[bG,i];intro o q;cases(show o∈([]:List (Option cH))from q)
   |some d=>
    have g:=Np B m i;rw[bG,i];show uB new (.spot _ _);unfold uB;rw[dQ,xV,X3 g.r g.c];exact wg (own:=own) rfl
 |.area sh a b,h=>by
  rw[fS];cases e:iK sh a b own with
  |none=>
   have:=h none (by rw[dQ,e];exact acX _);cases this
  |some t=>
   obtain⟨u,v,H,i,_⟩:=vX e;have j:=zt e;rw[H,i,bG];cases E:bT x t with
   |none=>
    intro o q;cases(show o∈([]:List (Option cH))from q)
   |some d=>
    have g:=NB B j E;show uB new (.area _ _ _);unfold uB;have D:∀{c:Bool},(if c=true then d.row0 else d.row1)<4096:=fun {c}=>by have:=g.r;have:=g.r1;split<;>omega
    have C:∀{c:Bool},(if c=true then d.row1 else d.row0)<4096:=fun {c}=>by have:=g.r;have:=g.r1;split<;>omega
    have z:∀{c:Bool},(if c=true then d.col0 else d.col1)<256:=fun {c}=>by have:=g.c;have:=g.c1;split<;>omega
    have y:∀{c:Bool},(if c=true then d.col1 else d.col0)<256:=fun {c}=>by have:=g.c;have:=g.c1;split<;>omega
    rw[dQ,iK,X3 D z,X3 C y];exact wg (own:=own) rfl
 |.name n,_=>by
  intro o q;cases(show o∈([]:List (Option cH))from q)
 |.column t c part,_=>by
  intro o q;cases(show o∈([]:List (Option cH))from q)
 |.one p e,h=>by
  rw[fS];intro o q;rw[dQ]at q;exact mR B e (λo q=>h o (by rw[dQ];exact q)) o q
 |.two p a b,h=>by
  rw[fS];intro o q;rw[dQ]at q;rcases bL.mp q with q|q
  ·exact mR B a (λo q=>h o (by rw[dQ];exact gg _ q)) o q
  ·exact mR B b (λo q=>h o (by rw[dQ];exact dB _ q)) o q
 |.call f l,h=>by
  rw[fS];intro o q;rw[dQ]at q;exact C9 B l (λo q=>h o (by rw[dQ];exact q)) o q
 |.grid l,_=>by
  intro o q;cases(show o∈([]:List (Option cH))from q)
theorem C9 (q:gr x):∀l:List bO,G0 own l->G0 new (j9 (aU x) (bT x) own new l)
 |[],_=>by
  intro o f;rw[j9,lI]at f;cases f
 |e::l,h=>by
  intro o f;rw[j9,lI]at f;rcases bL.mp f with f|f
  ·exact mR q e (λo f=>h o (by rw[lI];exact gg _ f)) o f
  ·exact C9 q l (λo f=>h o (by rw[lI];exact dB _ f)) o f
end
end
section
mutual
theorem qm:∀f:bO,uB own (eF b own f)
 |.value v=>by
  intro o q;cases(show o∈([]:List (Option cH))from q)
 |.spot sh s=>by
  rw[eF];split
  next h=>
   unfold uB;rw[dQ];refine wg (own:=own) ?_;unfold xV;cases e:s.cell sh own with
   |none=>rw[e]at h;cases h
   |some c=>rfl
  next h=>
   intro o q;cases(show o∈([]:List (Option cH))from q)
 |.area sh x y=>by
  rw[eF];split
  next h=>
   unfold uB;rw[dQ];refine wg (own:=own) ?_;cases e:iK sh x y own with
   |none=>rw[e]at h;cases h
   |some c=>rfl
  next h=>
   intro o q;cases(show o∈([]:List (Option cH))from q)
 |.name n=>by
  intro o q;cases(show o∈([]:List (Option cH))from q)
 |.column t c part=>by
  intro o q;cases(show o∈([]:List (Option cH))from q)
 |.one op e=>by
  rw[eF];intro o q;rw[dQ]at q;exact qm e o q
 |.two op x y=>by
  rw[eF];intro o q;rw[dQ]at q;rcases bL.mp q with q|q
  ·exact qm x o q
  ·exact qm y o q
 |.call f l=>by
  rw[eF];intro o q;rw[dQ]at q;exact Dc l o q
 |.grid l=>by
  intro o q;cases(show o∈([]:List (Option cH))from q)
theorem Dc:∀l:List bO,G0 own (ju b own l)
 |[]=>by
  intro o f;cases(show o∈([]:List (Option cH))from f)
 |e::l=>by
  intro o f;rw[ju,lI]at f;rcases bL.mp f with f|f
  ·exact qm e o f
  ·exact Dc l o f
end
mutual
theorem xf:∀f:bO,dZ b own f=true->uB own f
 |.value v,_=>by
  intro o q;cases(show o∈([]:List (Option cH))from q)
 |.spot sh s,h=>by
  rw[dZ]at h;unfold uB;rw[dQ];refine wg (own:=own) ?_;unfold xV;cases e:s.cell sh own with
  |none=>rw[e]at h;cases h
  |some c=>rfl
 |.area sh x y,h=>by
  rw[dZ]at h;unfold uB;rw[dQ];refine wg (own:=own) ?_;cases e:iK sh x y own with
  |none=>rw[e]at h;cases h
  |some c=>rfl
 |.name n,_=>by
  intro o q;cases(show o∈([]:List (Option cH))from q)
 |.column t c part,_=>by
  intro o q;cases(show o∈([]:List (Option cH))from q)
 |.one op e,h=>by
  rw[dZ,aC]at h;intro o q;rw[dQ]at q;exact xf e h.2 o q
 |.two op x y,h=>by
  rw[dZ,aC,aC]at h;intro o q;rw[dQ]at q;rcases bL.mp q with q|q
  ·exact xf x h.2.1 o q
  ·exact xf y h.2.2 o q
 |.call f l,h=>by
  rw[dZ,aC,aC]at h;intro o q;rw[dQ]at q;exact WZ l h.2.2 o q
 |.grid l,_=>by
  intro o q;cases(show o∈([]:List (Option cH))from q)
theorem WZ:∀l:List bO,zb b own l=true->G0 own l
 |[],_=>by
  intro o f;cases(show o∈([]:List (Option cH))from f)
 |e::l,h=>by
  rw[zb,aC]at h;intro o f;rw[lI]at f;rcases bL.mp f with f|f
  ·exact xf e h.1 o f
  ·exact WZ l h.2 o f
end
end
def aaT (sh:Option Nat) (s:oq):Ref (1::dG sh::dA s):=by rw[Hs];exact .one ..
def aaU (sh:Option Nat) (s t:oq):Ref (2::dG sh::(dA s++dA t)):=by rw[Hs,Hs];exact .two ..
def sD {p:List Int} (h:z≠1/\z≠2):oU (z::p):=⟨by simp,λq=>by
 have:=cb q;simp only[jC]at this;omega⟩
def Oz {p:List Int} (h:oU p):∀q∈[p],oU q:=λq a=>by rw[br.mp a];exact h
mutual
theorem tO:∀f:bO,∀p∈partsOf f,oU p
 |.value v=>Oz (sD (by decide))
 |.spot sh s=>Oz ⟨by simp,λ_=>aaT sh s⟩
 |.area sh x y=>Oz ⟨by simp,λ_=>aaU sh x y⟩
 |.name n=>Oz (sD (by decide))
 |.column t c part=>Oz (sD (by decide))
 |.one op e=>by
  intro p q;rw[partsOf]at q;rcases aY.mp q with rfl|q
  ·exact sD (by decide)
  ·exact tO e p q
 |.two op x y=>by
  intro p q;rw[partsOf]at q;rcases aY.mp q with rfl|q
  ·exact sD (by decide)
  ·rcases bL.mp q with q|q
   ·exact tO x p q
   ·exact tO y p q
 |.call f l=>by
  intro p q;rw[partsOf]at q;rcases aY.mp q with rfl|q
  ·exact sD (by decide)
  ·exact PN l p q
 |.grid l=>Oz (sD (by decide))
theorem PN:∀l:List bO,∀p∈cZ l,oU p
 |[]=>λp f=>by cases(show p∈([]:List (List Int))from f)
 |e::l=>by
  intro p f;rw[cZ]at f;rcases bL.mp f with f|f
  ·exact tO e p f
  ·exact PN l p f
end
mutual
theorem sC:∀f:bO,(partsOf f).length<=fw f
 |.value v=>aS 1
 |.spot sh s=>aS 1
 |.area sh x y=>aS 1
 |.name n=>aS 1
 |.column t c part=>aS 1
 |.one op e=>by
  rw[partsOf,fw,ak];have:=sC e;omega
 |.two op x y=>by
  rw[partsOf,fw,ak,aI];have:=sC x;have:=sC y;omega
 |.call f l=>by
  rw[partsOf,fw,ak];have:=PM l;omega
 |.grid l=>by
  rw[partsOf,fw,j0];omega
theorem PM:∀l:List bO,(cZ l).length<=gZ l
 |[]=>aS 0
 |e::l=>by
  rw[cZ,gZ,aI];have:=sC e;have:=PM l;omega
end
mutual
theorem we:∀f:bO,xW f=(partsOf f).flatten
 |.value v=>by rw[xW,partsOf,iw]
 |.spot sh s=>by rw[xW,partsOf,iw]
 |.area sh x y=>by rw[xW,partsOf,iw]
 |.name n=>by rw[xW,partsOf,iw]
 |.column t c part=>by rw[xW,partsOf,iw]
 |.one op e=>by rw[xW,partsOf,uJ,we e];rfl
 |.two op x y=>by rw[xW,partsOf,uJ,zh,we x,we y];rfl
 |.call f l=>by
  rw[xW,partsOf,uJ,S6 l];simp
 |.grid l=>by rw[xW,partsOf,iw]
theorem S6:∀l:List bO,anL l=(cZ l).flatten
 |[]=>by rw[anL,cZ];rfl
 |e::l=>by rw[anL,cZ,zh,we e,S6 l]
end
def JX (x:cE):zd x=(cY x).kind::(cY x).parts.flatten:=by
 cases x with
 |value v=>rw[zd,cY,iw]
 |formula f=>rw[zd,cY,we]
def ahw (own:bP):cE->Prop
 |.value v=>v≠ .empty
 |.formula f=>uB own f/\(partsOf f).length<=256
structure iJ (b:cy):Prop where
 len:b.sheets.length=64
 RE:UI b.cells
 ok:∀y∈b.cells,AX y.1/\b.sheet y.1.sheet=true/\ahw y.1 y.2
 Zl:b.cells.length<=16384
 nm:∀n∈b.names,uB pJ n.2/\∃p,partsOf n.2=[p]
 nnd:(b.names.map (·.1)).Nodup
 YT:b.names.length<=256
def Xb:iJ mm where
 len:=afW ..
 RE:=.nil
 ok:=λy a=>by cases a
 Zl:=eI _
 nm:=λy a=>by cases a
 nnd:=.nil
 YT:=eI _
def iQ {k:Nat}:b.sheet k=true↔∃t,b.sheets[k]? =some (some t):=by
 unfold Rx;cases e:b.sheets[k]? with
 |none=>simp
 |some o=>cases o<;>simp
def Sq {k:Nat} (h:b.sheet k=true):k<b.sheets.length:=by
 obtain⟨t,e⟩:=iQ.mp h;exact(aQ.mp e).1
def HB {sh:List (Option iW)} (h:iJ b) (q:gr x) (F:sh.length=64) (B:∀c d,b.sheet c.sheet=true->aU x c=some d->(⟨sh,[],[]⟩:cy).sheet d.sheet=true):
 iJ {b.moved (aU x) (bT x)with sheets:=sh}where
 len:=F
 RE:=FZ _
 ok:=λy g=>by
  have g:=(BS q h.RE).mem_iff.mp g;obtain⟨z,o,a⟩:=gW.mp g;cases e:aU x z.1 with
  |none=>rw[e]at a;cases a
  |some d=>
   rw[e]at a;obtain rfl:(d,z.2.follow (aU x) (bT x) z.1 d)=y:=ay a;obtain⟨v,s,c⟩:=h.ok z o;refine⟨Np q v e,B _ _ s e,?_⟩;obtain⟨D,l⟩:=z;cases l with
   |value v=>exact c
   |formula f=>exact⟨mR q f c.1,by rw[jQ q f c.1,ae];exact c.2⟩
 Zl:=by
  have i:=(BS q h.RE).length_eq;have j:=acL (fun(y:bP×cE)=>(aU x y.1).map λc=>(c,y.2.follow (aU x) (bT x) y.1 c)) b.cells;have E:=h.Zl;show(b.moved (aU x) (bT x)).cells.length<=16384;omega
 nm:=λn u=>by
  obtain⟨m,C,rfl⟩:=aG.mp u;obtain⟨i,p,j⟩:=h.nm m C;exact⟨mR q _ i,_,by rw[jQ q _ i,j];rfl⟩
 nnd:=by
  show((b.names.map _).map _).Nodup;rw[bq];exact h.nnd
 YT:=by
  show(b.names.map _).length<=256;rw[ae];exact h.YT
def T9 {sheet:Nat} {a:Nat} (x:eZ) (e:x=.insert sheet rows a n lo hi\/x=.delete sheet rows a n lo hi) (h:¬gV b x<0):gr x/\b.sheet sheet=true:=by
 rcases e with rfl|rfl
 all_goals
  simp only[gV]at h;split at h
  next v=>
   refine⟨v,?_⟩;split at h
   ·exact absurd (by decide) h
   next q=>simpa using q
  next=>exact absurd (by decide) h
def Cf (h:iJ b) (f:¬gV b x<0):iJ (b.change x)/\gr x:=by
 have same:∀{d:bP},b.sheet d.sheet=true->(⟨b.sheets,[],[]⟩:cy).sheet d.sheet=true:=λq=>q
 cases x with
 |insert sheet rows a n lo z=>
  obtain⟨v,s⟩:=T9 _ (.inl rfl) f;refine⟨HB (sh:=b.sheets) h v h.len λc d g hd=>?_,v⟩
  have e:d.sheet=c.sheet:=by
   simp only[aU]at hd;split at hd
   ·rw[ay hd]
   ·split at hd
    ·rw[<-ay hd];unfold Ly;split<;>rfl
    ·cases hd
  rw[e];exact g
 |delete sheet rows a n lo z=>
  obtain⟨v,s⟩:=T9 _ (.inr rfl) f;refine⟨HB (sh:=b.sheets) h v h.len λc d g hd=>?_,v⟩
  have e:d.sheet=c.sheet:=by
   simp only[aU]at hd;split at hd
   ·rw[ay hd]
   ·split at hd
    ·cases hd
    ·rw[<-ay hd];unfold Ly;split<;>rfl
  rw[e];exact g
 |move a to=>
  simp only[gV]at f;split at f
  next v=>
   split at f
   ·exact absurd (by decide) f
   next q=>
    have y:b.sheet to.sheet=true:=by
     cases e:b.sheet to.sheet with
     |true=>rfl
     |false=>exact absurd (.inr e) q
    obtain⟨u,p,o,m,l,j⟩:=v;have i:gr (.move a to):=⟨⟨u,p,o,m⟩,⟨jc _ _,l,jc _ _,j⟩⟩;refine⟨HB (sh:=b.sheets) h i h.len λc d g hd=>?_,i⟩;simp only[aU]at hd;split at hd
    ·rw[<-ay hd];exact y
    ·split at hd
     ·cases hd
     ·rw[<-ay hd];exact g
  next=>exact absurd (by decide) f
 |gone k=>
  refine⟨HB (x:=.gone k) (sh:=b.sheets.set k none) h trivial (by rw[sm];exact h.len) λc d g hd=>?_,trivial⟩;simp only[aU]at hd;split at hd
  ·cases hd
  next ne=>
   obtain rfl:=ay hd;obtain⟨t,e⟩:=iQ.mp g;refine iQ.mpr ⟨t,?_⟩;show(b.sheets.set k none)[c.sheet]? =_;rw[xS (λq=>ne q.symm),e]
def l7 {a:cH} {c:bP}:a.has c=true↔(a.sheet=c.sheet/\a.row0<=c.row/\c.row<=a.row1/\a.col0<=c.col/\c.col<=a.col1):=by
 unfold amO;simp only[aC,aX,fO]
def jX:d7 a=true↔jB a:=by
 unfold d7 vG vH;simp only[aC,aX];exact⟨fun⟨a,b,c,d⟩=>⟨a,b,c,d⟩,fun⟨a,b,c,d⟩=>⟨a,b,c,d⟩⟩
def ael:uG c=true↔AX c:=by
 unfold uG vG vH;simp only[aC,aX];exact⟨fun⟨a,b⟩=>⟨a,b⟩,fun⟨a,b⟩=>⟨a,b⟩⟩
def iz (b:cy) (a t:cH):CL:=(b.cells.filter λx=>a.has x.1).flatMap λx=>
 ((f7 t.rows).filter λi=>i % a.rows==x.1.row - a.row0).flatMap λi=>((f7 t.cols).filter λj=>j % a.cols==x.1.col - a.col0).map λj=>
   ((⟨t.sheet,t.row0+i,t.col0+j⟩:bP),x.2.copied b ⟨t.sheet,t.row0+i,t.col0+j⟩)
def ag6 (b:cy) (a t:cH):(b.filled a t).cells=afQ ((b.cells.filter λx=> !t.has x.1)++iz b a t):=rfl
def Y7 {y:bP×cE}:y∈iz b a t↔∃x∈b.cells,a.has x.1=true/\∃i j,i<t.rows/\i % a.rows=x.1.row - a.row0/\j<t.cols/\j % a.cols=x.1.col - a.col0/\y=(⟨t.sheet,t.row0+i,t.col0+j⟩,x.2.copied b ⟨t.sheet,t.row0+i,t.col0+j⟩):=by
 unfold iz;simp only[wq,bo,iM,aG,fO];constructor
 ·rintro⟨x,⟨d,h⟩,i,⟨g,m⟩,j,⟨e,l⟩,rfl⟩
  exact⟨x,d,h,i,j,g,m,e,l,rfl⟩
 ·rintro⟨x,d,h,i,j,g,m,e,l,rfl⟩
  exact⟨x,⟨d,h⟩,i,⟨g,m⟩,j,⟨e,l⟩,rfl⟩
def adH (f:jB t) {y:bP×cE} (h:y∈iz b a t):t.has y.1=true:=by
 obtain⟨x,_,_,i,j,e,_,d,_,rfl⟩:=Y7.mp h;obtain⟨n,m,l,g⟩:=f;unfold vI at e;unfold vJ at d;rw[l7];dsimp only;omega
def OH (f:UI b.cells):(kG (iz b a t)).Nodup:=by
 unfold kG nI iz;rw[dm,afV];refine⟨λx s=>?_,?_⟩
 ·rw[afV];refine⟨λi o=>?_,?_⟩
  ·rw[dm];refine Vj _ (xT ?_ uD);intro p q h e;simp only[df]at e;omega
  ·refine Vj _ (xT ?_ uD);intro p q h u g v d e;obtain⟨j,_,rfl⟩:=aG.mp g;obtain⟨k,_,rfl⟩:=aG.mp d;simp only[df]at e;omega
 ·rw[List.pairwise_filter];refine xT ?_ f;intro x z n s C u g v d e;obtain⟨i,o,g⟩:=wq.mp g;obtain⟨j,y,rfl⟩:=aG.mp g;obtain⟨i2,m,d⟩:=wq.mp d;obtain⟨j2,l,rfl⟩:=aG.mp d;simp only[bo,fO]at o y m l;simp only[df]at e;have E:i=i2:=by omega
  have D:j=j2:=by omega
  subst E D;rw[l7]at s C;have J:=o.2.symm.trans m.2;have H:=y.2.symm.trans l.2;rw[Uv]at n;omega
def Zj (f:UI b.cells) (B:jB t):(kG ((b.cells.filter λx=> !t.has x.1)++iz b a t)).Nodup:=by
 unfold kG;rw[aT,dH];refine⟨(Bj f _).nodup,OH f,λp i q h e=>?_⟩;obtain⟨x,d,rfl⟩:=aG.mp i;obtain⟨y,g,rfl⟩:=aG.mp h;have:=adH B g;rw[bo,e,this]at d;simp at d
def yK (q:UI b.cells) (f:jB t):(b.filled a t).cells.Perm ((b.cells.filter λx=> !t.has x.1)++iz b a t):=by
 rw[ag6];exact MS (Zj q f)
def srcOf (a t:cH) (c:bP):bP:=⟨a.sheet,a.row0+(c.row - t.row0) % a.rows,a.col0+(c.col - t.col0) % a.cols⟩
def adN (q:UI b.cells) (B:jB a) (f:jB t) {z:cE}:
 (c,z)∈(b.filled a t).cells↔(t.has c=false/\(c,z)∈b.cells)\/(t.has c=true/\∃x,(srcOf a t c,x)∈b.cells/\z=x.copied b c):=by
 rw[(yK q f).mem_iff,bL,bo];constructor
 ·rintro(⟨g,n⟩|h)
  ·exact .inl ⟨by simpa using n,g⟩
  ·refine .inr ⟨adH f h,?_⟩;obtain⟨⟨d,x⟩,l,m,i,j,y,p,u,o,e⟩:=Y7.mp h;rw[l7]at m;dsimp only at m p o;cases e;refine⟨x,?_,rfl⟩
   have:srcOf a t ⟨t.sheet,t.row0+i,t.col0+j⟩=d:=by
    unfold srcOf;dsimp only;rw[jv,jv,p,o];cases d;simp only[df]at m⊢;omega
   rw[this];exact l
 ·rintro(⟨g,n⟩|⟨g,x,l,rfl⟩)
  ·exact .inl ⟨n,by simp[g]⟩
  ·refine .inr (Y7.mpr ⟨_,l,?_,c.row - t.row0,c.col - t.col0,?_,?_,?_,?_,?_⟩)
   ·obtain⟨H,E,D,C⟩:=B;have r1:(c.row - t.row0) % a.rows<a.rows:=aAc _ (by unfold vI;omega);have s:(c.col - t.col0) % a.cols<a.cols:=aAc _ (by unfold vJ;omega);rw[l7];unfold srcOf;dsimp only;unfold vI at r1⊢;unfold vJ at s⊢;omega
   ·rw[l7]at g;unfold vI;omega
   ·show _=(a.row0+_) - a.row0;rw[jv]
   ·rw[l7]at g;unfold vJ;omega
   ·show _=(a.col0+_) - a.col0;rw[jv]
   ·rw[l7]at g
    have e:c=⟨t.sheet,t.row0+(c.row - t.row0),t.col0+(c.col - t.col0)⟩:=by
     cases c;simp only[df]at g⊢;omega
    rw[<-e]
def iJ.cells (h:iJ b) (f:UI cs) (q:∀y∈cs,AX y.1/\b.sheet y.1.sheet=true/\ahw y.1 y.2) (B:cs.length<=16384):iJ {b with cells:=cs}where
 len:=h.len
 RE:=f
 ok:=q
 Zl:=B
 nm:=h.nm
 nnd:=h.nnd
 YT:=h.YT
def aot (h:x.ok b c=true) (q:acG x=false):ahw c x:=by
 cases x with
 |value v=>
  intro e;subst e;cases q
 |formula f=>
  rw[auV,aC,aC]at h;refine⟨xf f h.1,b9 (sC f) ?_⟩;exact cb h.2.1
def alA (h:iJ b) (F:AX c) (B:b.sheet c.sheet=true) (q:x.ok b c=true) (f:¬ayx<(b.put c x).cells.length):iJ (b.put c x):=by
 have f:(b.put c x).cells.length<=16384:=HU f;refine h.cells ?_ ?_ f
 ·split
  ·exact Bj h.RE _
  ·exact RJ h.RE
 ·intro y a;split at a
  ·exact h.ok y (bo.mp a).1
  next d=>
   rcases Yx a with rfl|a
   ·exact⟨F,B,aot q (by simpa using d)⟩
   ·exact h.ok y a
mutual
theorem xD {b:cy} {c:bP}:∀f:bO,(partsOf (eF b c f)).length=(partsOf f).length
 |.value v=>rfl
 |.spot sh s=>by rw[eF];split<;>rfl
 |.area sh x y=>by rw[eF];split<;>rfl
 |.name n=>rfl
 |.column t u part=>rfl
 |.one op e=>by rw[eF,partsOf,partsOf,ak,ak,xD e]
 |.two op x y=>by rw[eF,partsOf,partsOf,ak,ak,aI,aI,xD x,xD y]
 |.call f l=>by rw[eF,partsOf,partsOf,ak,ak,Qt l]
 |.grid l=>rfl
theorem Qt {b:cy} {c:bP}:∀l:List bO,(cZ (ju b c l)).length=(cZ l).length
 |[]=>rfl
 |e::l=>by rw[ju,cZ,cZ,aI,aI,xD e,Qt l]
end
def aeg (h:ahw own x):ahw c (x.copied b c):=by
 cases x with
 |value v=>exact h
 |formula f=>
  refine⟨qm f,?_⟩;rw[xD];exact h.2
def ad6 (h:iJ b) (F:jB a) (f:jB t) (q:b.sheet t.sheet=true) (B:¬ayx<(b.filled a t).cells.length):iJ (b.filled a t):=by
 refine h.cells (FZ _) ?_ (HU B)
 rintro⟨c,z⟩ g
 rcases(adN h.RE F f).mp g with⟨e,d⟩|⟨e,x,d,rfl⟩
 ·exact h.ok _ d
 ·rw[l7]at e;obtain⟨_,j,_,i⟩:=f;exact⟨⟨by dsimp only;omega,by dsimp only;omega⟩,by rw[<-e.1];exact q,aeg (h.ok _ d).2.2⟩
set_option tactic.hygienic true in
def agF (h:kJ b f=true):uB pJ f/\∃p,partsOf f=[p]:=by
 unfold kJ at h;split at h
 next k s=>
  simp only[aC]at h;exact⟨xf _ h.2.2,_,rfl⟩
 next k x y=>
  simp only[aC]at h;exact⟨xf _ h.2.2.2.2,_,rfl⟩
 next=>cases h
def ajI (h:iJ b) (c:DB):iJ (bU b c).1:=by
 cases c with
 |new_=>exact Xb
 |sheet t=>
  simp only[bU];split
  ·exact h
  ·split
   ·exact h
   ·split
    ·exact h
    next k e=>
     have H:∀j,b.sheet j=true->(⟨b.sheets.set k (some t),b.cells,b.names⟩:cy).sheet j=true:=λj M=>by
      obtain⟨u,E⟩:=iQ.mp M;refine iQ.mpr ?_;show ∃v,(b.sheets.set k (some t))[j]? =some (some v);rw[kL];have:=(aQ.mp E).1;split
      ·rw[az (by omega)];exact⟨_,rfl⟩
      ·exact⟨u,E⟩
     exact⟨by rw[sm];exact h.len,h.RE,λy s=>let⟨a,b,c⟩:=h.ok y s;⟨a,H _ b,c⟩,h.Zl,h.nm,h.nnd,h.YT⟩
 |set c l=>
  simp only[bU];split
  ·exact h
  next P=>
   split
   ·exact h
   next z=>
    split
    ·exact h
    next x e=>
     split
     ·exact h
     next J=>
      split
      ·exact h
      next d=>exact alA h (ael.mp (by simpa using P)) (by simpa using z) (by simpa using J) d
 |change x=>
  simp only[bU];split
  ·exact h
  next d=>exact(Cf h d).1
 |fill a t=>
  simp only[bU];split
  ·exact h
  next i=>
   split
   ·exact h
   next z=>
    split
    ·exact h
    next d=>
     have i:(d7 a&&d7 t)=true:=by simpa using i
     rw[aC]at i
     have X:b.sheet t.sheet=true:=by
      cases e:b.sheet t.sheet with
      |true=>rfl
      |false=>exact absurd (.inr e) z
     exact ad6 h (jX.mp i.1) (jX.mp i.2) X d
 |clear a=>
  simp only[bU];split
  ·exact h
  ·split
   ·exact h
   ·exact h.cells (Bj h.RE _) (λy s=>h.ok y (bo.mp s).1) (b9 (cN ..) h.Zl)
 |name n l=>
  have D:∀cs:List (iW×bO),(∀m∈cs,uB pJ m.2/\∃p,partsOf m.2=[p])->(cs.map (·.1)).Nodup->cs.length<=256->iJ {b with names:=cs}:=λcs T S Q=>⟨h.len,h.RE,h.ok,h.Zl,T,S,Q⟩
  have nd:((b.names.filter λx=>x.1 != n).map (·.1)).Nodup:=(eG.map _).nodup h.nnd;simp only[bU];split
  ·exact h
  ·split
   ·split
    ·exact D _ (λm o=>h.nm m (bo.mp o).1) nd (b9 (cN ..) h.YT)
    ·exact h
   ·split
    ·exact h
    next f e=>
     split
     ·exact h
     next o=>
      split
      ·exact h
      next d=>
       refine D _ (λm g=>?_) ?_ ?_
       ·rcases bL.mp g with g|g
        ·exact h.nm m (bo.mp g).1
        ·rw[br.mp g];exact agF (by simpa using o)
       ·rw[aT,dH];refine⟨nd,by simp,λp L q C e=>?_⟩;have C:q=n:=by simpa using C
        subst C e;obtain⟨m,o,em⟩:=aG.mp L;have:=(bo.mp o).2;rw[em]at this;simp at this
       ·rw[aI,j0];have d:¬256<=(b.names.filter λx=>x.1 != n).length:=d;omega
 |look c=>
  simp only[bU];split
  ·exact h
  ·split<;>exact h
 |cells a=>
  simp only[bU];split
  ·exact h
  ·split<;>exact h
 |names=>exact h
 |sheets=>exact h
def Yq {x s:List Int} (h:IX l=some (x,s)):∃n:Nat,l=(n:Int)::(x++s)/\x.length=n:=by
 cases l with
 |nil=>cases h
 |cons z r=>
  simp only[IX]at h;split at h
  next q=>
   cases h;refine⟨z.toNat,?_,?_⟩
   ·rw[dP,iL q.1]
   ·rw[b7];omega
  next=>cases h
theorem aaQ:∀{k:Nat} {l t:List Int} {xs:List (List Int)},jZ k l=some (xs,t)->t.length<=l.length
 |0,l,t,xs,h=>by cases h;exact aS _
 |k+1,l,t,xs,h=>by
  simp only[jZ]at h;cases e:IX l with
  |none=>rw[e]at h;cases h
  |some y=>
   obtain⟨x,s⟩:=y;rw[e]at h;dsimp only at h;obtain⟨n,rfl,_⟩:=Yq e;cases a:jZ k s with
   |none=>rw[a]at h;cases h
   |some z=>
    obtain⟨b,u⟩:=z;rw[a]at h;cases h;have:=aaQ a;simp only[ak,aI];omega
def Ut {sh:Int->Option (Nat×Nat)} {p:Int} {r t:List Int} {c:List (List Int)} (h:lh sh (p::r)=some (c,t)):t.length<=r.length:=by
 simp only[lh]at h;cases e:sh p with
 |none=>rw[e]at h;cases h
 |some y=>
  obtain⟨n,k⟩:=y;rw[e]at h;dsimp only at h;split at h
  ·cases h
  ·cases a:jZ k (r.drop n)with
   |none=>rw[a]at h;cases h
   |some z=>
    obtain⟨b,u⟩:=z;rw[a]at h;cases h;have:=aaQ a;rw[eh]at this;omega
theorem Us {sh:Int->Option (Nat×Nat)}:∀(n:Nat) (l:List Int) (f g:Nat),l.length<=n->l.length<=f->l.length<=g->pU sh f l=pU sh g l
 |_,[],f,g,_,_,_=>by cases f<;>cases g<;>rfl
 |0,_::_,_,_,h,_,_=>by cases h
 |n+1,p::r,0,_,_,h,_=>by cases h
 |n+1,p::r,_,0,_,_,h=>by cases h
 |n+1,p::r,f+1,g+1,B,h1,q=>by
  simp only[pU];cases e:lh sh (p::r)with
  |none=>rfl
  |some y=>
   obtain⟨c,t⟩:=y;have a:=Ut e;simp only[ak]at B h1 q;dsimp only;rw[Us n t f g (by omega) (by omega) (by omega)]
def callsOf (l:List Int):Option (List (List (List Int))):=pU gd l.length l
def Nq (p:Int) (r:List Int):callsOf (p::r)=(lh gd (p::r)).bind λy=>(callsOf y.2).map λcs=>y.1::cs:=by
 show(match lh gd (p::r)with|none=>none|some (c,t)=>match pU gd r.length t with|none=>none|some cs=>some (c::cs))=_
 cases e:lh gd (p::r)with
 |none=>rfl
 |some y=>
  obtain⟨c,t⟩:=y;have a:=Ut e;dsimp only;rw[bG];dsimp only;unfold callsOf;rw[Us r.length t r.length t.length a a (aS _)];cases pU gd t.length t<;>rfl
def NC (b:cy) (l:List Int):List Int:=match callsOf l with
 |none=>[]
 |some cs=>PyFlat.told (PyFlat.played m9 b cs)
def aeG (l:List Int):Prop:=∃cs,callsOf l=some cs/\∀c∈cs,akS apU c=true/\IW c=true
def aj5 (b:cy):NC b []=[]:=rfl
def aj0 {p:Int} {r:List Int} (h:aeG (p::r)):∃c t,lh gd (p::r)=some (c,t)/\akS apU c=true/\IW c=true/\aeG t/\t.length<=r.length/\
 ∀b,NC b (p::r)=((m9 b c).2.length:Int)::((m9 b c).2++NC (m9 b c).1 t):=by
 obtain⟨cs,e,i⟩:=h;rw[Nq]at e;cases g:lh gd (p::r)with
 |none=>rw[g]at e;cases e
 |some y=>
  obtain⟨c,t⟩:=y;rw[g,bG]at e;cases a:callsOf t with
  |none=>rw[a]at e;cases e
  |some m=>
   rw[a]at e;cases e;obtain⟨l,j⟩:=i c aM;refine⟨c,t,rfl,l,j,⟨m,a,λd hd=>i d (aL _ hd)⟩,Ut g,λb=>?_⟩;unfold NC;rw[Nq,g,bG,a];rfl
inductive fW:List Int->List Int->DB->Prop
 |new (t:List Int):fW (0::t) t .new_
 |sheet (row t:List Int) (h:∀z∈row,0<=z/\z<=255):fW (1::(row.length:Int)::(row++t)) t (.sheet (wo row))
 |gone (k:Nat) (t:List Int):fW (2::(k:Int)::t) t (.change (.gone k))
 |set (k r c:Nat) (row t:List Int):fW (3::(k:Int)::(r:Int)::(c:Int)::(row.length:Int)::(row++t)) t (.set ⟨k,r,c⟩ row)
 |insert (k:Nat) (w:Bool) (a n lo hi:Nat) (t:List Int):fW (4::(k:Int)::jL w::(a:Int)::(n:Int)::(lo:Int)::(hi:Int)::t) t (.change (.insert k w a n lo hi))
 |delete (k:Nat) (w:Bool) (a n lo hi:Nat) (t:List Int):fW (5::(k:Int)::jL w::(a:Int)::(n:Int)::(lo:Int)::(hi:Int)::t) t (.change (.delete k w a n lo hi))
 |move (k r s c d j x y:Nat) (t:List Int):fW (6::(k:Int)::(r:Int)::(s:Int)::(c:Int)::(d:Int)::(j:Int)::(x:Int)::(y:Int)::t) t (.change (.move ⟨k,r,c,s,d⟩ ⟨j,x,y⟩))
 |fill (k r s c d j x y z w:Nat) (t:List Int):fW (7::(k:Int)::(r:Int)::(s:Int)::(c:Int)::(d:Int)::(j:Int)::(x:Int)::(y:Int)::(z:Int)::(w:Int)::t) t (.fill ⟨k,r,c,s,d⟩ ⟨j,x,z,y,w⟩)
 |clear (k r s c d:Nat) (t:List Int):fW (8::(k:Int)::(r:Int)::(s:Int)::(c:Int)::(d:Int)::t) t (.clear ⟨k,r,c,s,d⟩)
 |name (nm row t:List Int) (h:∀z∈nm,0<=z/\z<=255):fW (9::(nm.length:Int)::(nm++((row.length:Int)::(row++t)))) t (.name (wo nm) row)
 |look (k r c:Nat) (t:List Int):fW (10::(k:Int)::(r:Int)::(c:Int)::t) t (.look ⟨k,r,c⟩)
 |cells (k r s c d:Nat) (t:List Int):fW (11::(k:Int)::(r:Int)::(s:Int)::(c:Int)::(d:Int)::t) t (.cells ⟨k,r,c,s,d⟩)
 |names (t:List Int):fW (12::t) t .names
 |sheets (t:List Int):fW (13::t) t .sheets
def fI {b:Nat} (h:aP z b=true):∃k:Nat,z=(k:Int):=by
 unfold aP at h;rw[aC]at h;exact⟨z.toNat,(iL (cb h.1)).symm⟩
def anS (h:aP z 1=true):∃w:Bool,z=jL w/\(z==0)=w:=by
 unfold aP at h;rw[aC,aX,aX]at h;have:z=0\/z=1:=by omega
 rcases this with rfl|rfl
 ·exact⟨true,rfl,rfl⟩
 ·exact⟨false,rfl,rfl⟩
def ab3 (h:l.all (fun(z:Int)=>aP z 8)=true):∀z∈l,0<=z/\z<=255:=λz a=>by
 have:=eA.mp h z a;unfold aP at this;rw[aC,aX,aX]at this;omega
def fB {r:List Int} (h:¬r.length<n+1):∃x f,r=x::f/\¬f.length<n:=by
 cases r with
 |nil=>simp at h
 |cons x f=>exact⟨x,f,rfl,by simp only[ak]at h;omega⟩
def SN {t:List Int} {xs:List (List Int)} (h:jZ 1 l=some (xs,t)):∃row:List Int,l=(row.length:Int)::(row++t)/\xs=[row]:=by
 simp only[jZ]at h;cases e:IX l with
 |none=>rw[e]at h;cases h
 |some y=>
  obtain⟨x,s⟩:=y;rw[e]at h;cases h;obtain⟨n,rfl,rfl⟩:=Yq e;exact⟨x,rfl,rfl⟩
def aim {t:List Int} {xs:List (List Int)} (h:jZ 2 l=some (xs,t)):∃nm row:List Int,l=(nm.length:Int)::(nm++((row.length:Int)::(row++t)))/\xs=[nm,row]:=by
 replace h:(match IX l with|none=>none|some (x,s)=>match jZ 1 s with|none=>none|some (xs,t)=>some (x::xs,t))=some (xs,t):=h
 cases e:IX l with
 |none=>rw[e]at h;cases h
 |some y=>
  obtain⟨x,s⟩:=y;rw[e]at h;dsimp only at h;obtain⟨n,rfl,rfl⟩:=Yq e;cases a:jZ 1 s with
  |none=>rw[a]at h;cases h
  |some z=>
   obtain⟨b,u⟩:=z;rw[a]at h;cases h;obtain⟨row,rfl,rfl⟩:=SN a;exact⟨x,row,rfl,rfl⟩
def aem {p:Int} {r t:List Int} {c:List (List Int)} (h:lh gd (p::r)=some (c,t)):∃n k xs,gd p=some (n,k)/\¬r.length<n/\jZ k (r.drop n)=some (xs,t)/\c=(p::r.take n)::xs:=by
 simp only[lh]at h;cases e:gd p with
 |none=>rw[e]at h;cases h
 |some y=>
  obtain⟨n,k⟩:=y;rw[e]at h;dsimp only at h;split at h
  ·cases h
  next b=>
   cases a:jZ k (r.drop n)with
   |none=>rw[a]at h;cases h
   |some z=>
    obtain⟨xs,u⟩:=z;rw[a]at h;cases h;exact⟨n,k,xs,rfl,b,a,rfl⟩
def tT {r t:List Int} {xs:List (List Int)} (h:jZ 0 r=some (xs,t)):xs=[]/\r=t:=by
 cases h;exact⟨rfl,rfl⟩
def L_3 {r:List Int} (h:¬r.length<n+3):∃a b c s,r=a::b::c::s/\¬s.length<n:=by
 obtain⟨a,r,rfl,i⟩:=fB h;obtain⟨b,r,rfl,j⟩:=fB i;obtain⟨c,r,rfl,g⟩:=fB j;exact⟨a,b,c,r,rfl,g⟩
def L_5 {r:List Int} (h:¬r.length<n+5):∃a b c d e s,r=a::b::c::d::e::s/\¬s.length<n:=by
 obtain⟨a,b,c,r,rfl,i⟩:=L_3 h;obtain⟨d,r,rfl,j⟩:=fB i;obtain⟨e,r,rfl,g⟩:=fB j;exact⟨a,b,c,d,e,r,rfl,g⟩
def S_a:Int->List Int->Bool
 |a,[]=>aP a 32
 |a,b::t=>aP a 32&&S_a b t
def S_n (z:Int):Int:=z.toNat
theorem S_b:∀{a l},S_a a l=true->(a::l).map S_n=a::l
 |a,[],h=>by obtain⟨k,rfl⟩:=fI h;rfl
 |a,b::t,h=>by
  unfold S_a at h;rw[aC]at h;obtain⟨k,rfl⟩:=fI h.1;rw[bW,S_b h.2];rfl
def S_c {p t u x} (a l) (f:S_a a l=true) (h:fW (p::((a::l).map S_n++u)) t x):fW (p::(a::(l++u))) t x:=by rw[S_b f]at h;exact h
def S_h {p t x a b} (c l) (f:S_a c l=true) (h:fW (p::a::b::((c::l).map S_n++t)) t x):fW (p::a::b::c::(l++t)) t x:=by rw[S_b f]at h;exact h
def S_d:List (Int×Nat×Nat)->Int->Option (Nat×Nat)
 |[],_=>none
 |x::t,p=>if p=x.1 then some x.2 else S_d t p
def S_e (m:Int->Nat×Nat->Prop):List (Int×Nat×Nat)->Prop
 |[]=>True
 |x::t=>m x.1 x.2/\S_e m t
theorem S_g {m:Int->Nat×Nat->Prop} {p v}:∀t,S_e m t->S_d t p=some v->m p v
 |[],_,h=>by cases h
 |x::t,a,h=>by
  unfold S_d at h;split at h
  next e=>cases h;rw[e];exact a.1
  next=>exact S_g t a.2 h
def amE {p:Int} {r t:List Int} {c:List (List Int)} (h:lh gd (p::r)=some (c,t)):zK c=c/\(IW c=true->∃x,fW (p::r) t x/\ayv c=some x):=by
 obtain⟨n,k,xs,hs,O,l,rfl⟩:=aem h
 refine S_g (v:=(n,k)) (m:=λp v=>∀{r t xs},¬r.length<v.1->jZ v.2 (r.drop v.1)=some (xs,t)->zK ((p::r.take v.1)::xs)=(p::r.take v.1)::xs/\(IW ((p::r.take v.1)::xs)=true->∃x,fW (p::r) t x/\ayv ((p::r.take v.1)::xs)=some x)) [(0,0,0),(1,0,1),(2,1,0),(3,3,1),(4,6,0),(5,6,0),(6,8,0),(7,10,0),(8,5,0),(9,0,2),(10,3,0),(11,5,0),(12,0,0),(13,0,0)] ⟨?_,?_,?_,?_,?_,?_,?_,?_,?_,?_,?_,?_,?_,?_,trivial⟩ hs O l<;>intro r t xs O l<;>clear hs
 ·obtain⟨rfl,rfl⟩:=tT l;exact⟨rfl,λ_=>⟨_,.new _,rfl⟩⟩
 ·obtain⟨row,m,rfl⟩:=SN l;have m:r=_:=m;subst m;refine⟨rfl,λf=>⟨_,.sheet row t (ab3 (ahL.mp f).1),rfl⟩⟩
 ·obtain⟨x,r,rfl,d⟩:=fB O;obtain⟨rfl,rfl⟩:=tT l;exact⟨rfl,λf=>⟨_,S_c x [] f (.gone _ _),rfl⟩⟩
 ·obtain⟨x,y,z,r,rfl,d⟩:=L_3 O;obtain⟨row,m,rfl⟩:=SN l;have m:r=_:=m;subst m;exact⟨rfl,λf=>⟨_,S_c x [y,z] (ahL.mp f).1 (.set _ _ _ row t),rfl⟩⟩
 all_goals try
  obtain⟨a,b,c,d,e,r,rfl,g⟩:=L_5 (n:=1) O;obtain⟨s,r,rfl,_⟩:=fB g;obtain⟨rfl,rfl⟩:=tT l;refine⟨rfl,λf=>?_⟩;have f:=ahL.mp f;have g:=ahL.mp f.2;obtain⟨w,rfl,_⟩:=anS g.1;obtain⟨j,rfl⟩:=fI f.1
  first
   |exact⟨_,S_h c [d,e,s] g.2 (.insert j w _ _ _ _ _),by cases w<;>rfl⟩
   |exact⟨_,S_h c [d,e,s] g.2 (.delete j w _ _ _ _ _),by cases w<;>rfl⟩
 ·obtain⟨a,b,c,d,e,r,rfl,g⟩:=L_5 (n:=3) O;obtain⟨s,u,v,r,rfl,_⟩:=L_3 g;obtain⟨rfl,rfl⟩:=tT l;exact⟨rfl,λf=>⟨_,S_c a [b,c,d,e,s,u,v] f (.move _ _ _ _ _ _ _ _ _),rfl⟩⟩
 ·obtain⟨a,b,c,d,e,r,rfl,g⟩:=L_5 (n:=5) O;obtain⟨s,u,v,x,y,r,rfl,_⟩:=L_5 g;obtain⟨rfl,rfl⟩:=tT l;exact⟨rfl,λf=>⟨_,S_c a [b,c,d,e,s,u,v,x,y] f (.fill _ _ _ _ _ _ _ _ _ _ _),rfl⟩⟩
 ·obtain⟨a,b,c,d,e,r,rfl,g⟩:=L_5 O;obtain⟨rfl,rfl⟩:=tT l;exact⟨rfl,λf=>⟨_,S_c a [b,c,d,e] f (.clear _ _ _ _ _ _),rfl⟩⟩
 ·obtain⟨nm,row,m,rfl⟩:=aim l;have m:r=_:=m;subst m;exact⟨rfl,λf=>⟨_,.name nm row t (ab3 (ahL.mp (ahL.mp f).1).1),rfl⟩⟩
 ·obtain⟨x,y,z,r,rfl,d⟩:=L_3 O;obtain⟨rfl,rfl⟩:=tT l;exact⟨rfl,λf=>⟨_,S_c x [y,z] f (.look _ _ _ _),rfl⟩⟩
 ·obtain⟨a,b,c,d,e,r,rfl,g⟩:=L_5 O;obtain⟨rfl,rfl⟩:=tT l;exact⟨rfl,λf=>⟨_,S_c a [b,c,d,e] f (.cells _ _ _ _ _ _),rfl⟩⟩
 ·obtain⟨rfl,rfl⟩:=tT l;exact⟨rfl,λ_=>⟨_,.names _,rfl⟩⟩
 ·obtain⟨rfl,rfl⟩:=tT l;exact⟨rfl,λ_=>⟨_,.sheets _,rfl⟩⟩
theorem zKs:∀{f:Nat} {l cs},pU gd f l=some cs->cs.map zK=cs
 |f,[],cs,h=>by cases f<;>cases h<;>rfl
 |0,_::_,_,h=>by cases h
 |f+1,p::r,cs,h=>by
  simp only[pU]at h;cases e:lh gd (p::r)with
  |none=>rw[e]at h;cases h
  |some y=>
   obtain⟨c,t⟩:=y;rw[e]at h;dsimp only at h;cases g:pU gd f t with
   |none=>rw[g]at h;cases h
   |some m=>rw[g]at h;cases h;rw[bW,(amE e).1,zKs g]
def UE (l:List Int):XJ l=NC mm l:=by
 unfold XJ PySv69.calls NC callsOf;cases e:pU gd l.length l with
 |none=>rfl
 |some cs=>
  dsimp only;rw[zKs e];rfl
def ajZ (h:aeJ l=true):aeG l/\(NC mm l).length<=10000000:=by
 unfold aeJ at h;cases e:pU gd l.length l with
 |none=>rw[e]at h;cases h
 |some raw=>
  rw[e]at h;simp only[aC]at h;obtain⟨⟨⟨i,g⟩,d⟩,b⟩:=h;refine⟨⟨raw,e,λc a=>⟨eA.mp g c a,?_⟩⟩,?_⟩
  ·rw[zKs e]at d;exact eA.mp d c a
  ·rw[UE]at b;exact cb b
def aj1 {p:Int} {r:List Int} (h:aeG (p::r)):∃x t,fW (p::r) t x/\aeG t/\t.length<=r.length/\∀b,NC b (p::r)=(((bU b x).2.l.length+1:Nat):Int)::((bU b x).2.v::((bU b x).2.l++NC (bU b x).1 t)):=by
 obtain⟨c,t,m,_,j,i,g,d⟩:=aj0 h;obtain⟨x,a,e⟩:=(amE m).2 j;refine⟨x,t,a,i,g,λb=>?_⟩
 have n:m9 b c=((bU b x).1,(bU b x).2.v::(bU b x).2.l):=by
  unfold m9;rw[e]
 rw[d b,n];rfl
def Wz (own:Int) (t:List Int) (i:Nat) (p:Int):List Int:=t.set (i+1) (alg (t.getD i 0) p own)
def zQ (own:Int):List Nat->List Int->List Int->List Int
 |i::ix,p::ps,t=>zQ own ix ps (Wz own t i p)
 |_,_,t=>t
def sJ {a b:ag} {l:List V} (k:cJ [a] H H') (f:H a=some (.lst l)) (h:gL K H b xs):gL K H' b xs:=by
 have ne:∀{o},H b=some o->(∀l,o≠ .lst l)->b∉[a]:=λe n m=>by
  have:b=a:=by simpa using m
  subst this;rw[f]at e;exact n _ (ay e).symm
 rcases h with(h|⟨o,h⟩)|h
 ·exact .inl (.inl (k _ _ h (ne h λ_ q=>nomatch q)))
 ·exact .inl (.inr ⟨o,k _ _ h (ne h λ_ q=>nomatch q)⟩)
 ·exact .inr h
def Cc {α:Type} {l:List α} {i:Nat} {x:α} (h:l[i]? =some x):l.drop i=x::l.drop (i+1):=by
 obtain⟨a,e⟩:=aQ.mp h;rw[pM a,e]
def afr (h:j<n):ixN n (j:Int)=some j:=by
 unfold ixN;rw[az (by omega),az (by omega),dz]
theorem Wy (own:Int):∀(ix:List Nat) (ps t:List Int),(zQ own ix ps t).length=t.length
 |[],_,_=>rfl
 |_::_,[],_=>rfl
 |i::ix,p::ps,t=>by
  show(zQ own ix ps (Wz own t i p)).length=_;rw[Wy own ix ps,Wz,sm]
structure anH (H:Hp) (a b c:ag) (own:Int) (ix:List Nat) (ps told:List Int) (i:Nat) (σ:L2.St) (H':Hp):Prop where
 ex:∃(v4 v5:Option V) (t:List Int),σ=[some (.ref a),some (.ref b),some (.ref c),some (.int own),v4,v5]/\cJ [a] H H'/\H' a=some (.lst (t.map V.int))/\t.length=told.length/\zQ own (ix.drop i) (ps.drop i) t=zQ own ix ps told
def Sb (K:ah):Sp:=λvs H Q _=>∃(a b c:ag) (told:List Int) (ix:List Nat) (ps:List Int) (own:Int),vs=[.ref a,.ref b,.ref c,.int own]/\H a=some (.lst (told.map V.int))/\gL K H b (ix.map fun(i:Nat)=>V.int (i:Int))/\H c=some (.lst (ps.map V.int))/\a≠c/\
 ix.length<=ps.length/\(∀i∈ix,i+1<told.length)/\∀H',cJ [a] H H'->H' a=some (.lst ((zQ own ix ps told).map V.int))->Q .m6 H'
def Fv:=show FO P w K mg base 1 _ _ _ (Sb K) by
 exists T.zD.gp wF
 obtain⟨a,b,c,d,ix,z,own,rfl,Y,hb,U,M,hn,L,k⟩:=h
 refine⟨_,(aq (j8 BC rfl (alE rfl T.aox (aa (pv 1) (aa (pv 2) ai))) (adx rfl (Ae (eC 4 wF.nd) (Ae (eC 5 wF.nd) YA)))
  (aq (aiu (jP (cS i7 (cP dW (pv 0) (pv 4)) (bE rfl T.TB)) (pv 5) (gi lP (pv 5) (pv 3))) (aiw (pv 0) (gi kl (pv 4) bc) set_list))))),?_⟩
 have hcq:dv K H c (z.map V.int):=dv.of U
 lk
 refine ag3 (xs:=ix.map fun(i:Nat)=>V.int (i:Int)) (ys:=z.map V.int) (anH H a b c own ix z d)
  (by rw[ae,ae];exact hn) ⟨⟨none,none,d,rfl,cJ.refl _ _,Y,rfl,rfl⟩⟩ ?_ ?_ ?_
 ·rintro i G g _ ⟨⟨O,I,t,rfl,kp,m,f,J⟩⟩
  exact⟨sJ kp Y hb,dv.of (kp _ _ U (by simpa using M.symm))⟩
 ·rintro i x y G g T D C X ⟨⟨O,I,t,rfl,kp,m,f,J⟩⟩
  rw[aV]at D;rw[aV]at C;cases ex:ix[i]? with
  |none=>rw[ex]at D;cases D
  |some j=>
  cases F:z[i]? with
  |none=>rw[F]at C;cases C
  |some p=>
   rw[ex]at D;rw[F]at C;obtain rfl:V.int (j:Int)=x:=ay D;obtain rfl:V.int p=y:=ay C;have hj:=L j (bI ex);have S:T≠a:=λq=>by subst q;rw[X]at m;cases m
   have hq:gL K (bB g T (.tup [V.int (j:Int),V.int p])) T [V.int (j:Int),V.int p]:=.inl (.inl ao);have B:(bB g T (.tup [V.int (j:Int),V.int p])) a=some (.lst (t.map V.int)):=by rw[aw S.symm];exact m
   have hl:dv K (bB g T (.tup [V.int (j:Int),V.int p])) a (t.map V.int):=dv.of B;have zz:ky (t.map V.int) (j:Int)=some (V.int (t.getD j 0)):=bD (by rw[aV,eY,aZ (by omega)];rfl);have axa:ixN (t.map V.int).length ((j:Int)+1)=some (j+1):=afr (j:=j+1) (by rw[ae];omega)
   have step:∀v:Int,v=alg (t.getD j 0) p own->anH H a b c own ix z d (i+1) [some (V.ref a),some (.ref b),some (.ref c),some (.int own),some (.int (j:Int)),some (.int p)] (bB (bB g T (.tup [V.int (j:Int),V.int p])) a (.lst ((t.map V.int).set (j+1) (.int v)))):=by
    rintro v rfl
    refine⟨⟨_,_,Wz own t j p,rfl,λu o e n=>?_,?_,?_,?_⟩⟩
    ·have Z:u≠a:=by simpa using n
     rw[aw Z,aw (λq=>by subst q;rw[kp _ _ e n]at X;cases X)];exact kp _ _ e n
    ·rw[ao,Wz,atM]
    ·rw[Wz,sm];exact f
    ·rw[<-J,Cc ex,Cc F];rfl
   lk
   ·exact step _ (az (by assumption)).symm
   ·exact step _ (au (by assumption)).symm
 ·rintro G g ⟨⟨O,I,t,rfl,kp,m,f,J⟩⟩
  refine k g kp ?_;rw[m,<-J,ae,amU];rfl
def BX {B:Sp->Prop} {a:ag} (q:uS A H a ch) (h:∀F:XI->Prop,F ch->B (pX A F)):
 ∃G C dx fs f sp,V.ref a=.ref G/\H G=some (.ins C dx fs)/\fs.lookup ("area_after":Str)=none/\ef A C f sp/\B sp:=by
 cases ch with
 |put e g st d=>obtain⟨dx,l,b,_⟩:=id q;exact⟨a,_,dx,_,_,_,rfl,b,rfl,.put,h _ trivial⟩
 |del e g st d=>obtain⟨dx,l,b,_⟩:=id q;exact⟨a,_,dx,_,_,_,rfl,b,rfl,.del,h _ trivial⟩
 |mov j i=>obtain⟨dx,n,m,b,_⟩:=id q;exact⟨a,_,dx,_,_,_,rfl,b,rfl,.mov,h _ trivial⟩
 |KU z=>obtain⟨dx,b⟩:=id q;exact⟨a,_,dx,_,_,_,rfl,b,rfl,.KU,h _ trivial⟩
def bt.keep {l:ag} (s:bt H4 q) (f:H4 l=none) (k:cJ [l] q H8):bt H4 H8:=λu o e=>k _ _ (s _ _ e) (by
 intro m;have:u=l:=by simpa using m
 subst this;rw[f]at e;cases e)
def aip {p I:List Int} (U:Ref p) (own B:b8) (ep:p=z::s0::I):∃(O:ag) (G:List Nat) (tC:ag) (F:List Nat),
 ky [V.ref A.wB,V.ref A.mv,V.ref A.mr] z=some (V.ref O)/\pQ K O (G.map fun(i:Nat)=>V.int (i:Int))/\G.length<=2/\(∀i∈G,i+1<I.length+2)/\
 ky [V.ref A.mw,V.ref A.iF,V.ref A.iE] z=some (V.ref tC)/\pQ K tC (F.map fun(i:Nat)=>V.int (i:Int))/\F.length<=2/\(∀i∈F,i+1<I.length+2)/\
 ∀(ch:XI) (q:b8),ch.after (vE p own)=some q->zQ B.c0 F (rm (Dr own.c0 p) q.c0 q.c1) (zQ B.r0 G (rm (Ab own.r0 p) q.r0 q.r1) (z::shP s0 q.sheet B.sheet::I))=E6 ch own B p:=by
 cases U with
 |one s f r g c=>
  cases ep;refine⟨A.mv,[2],A.iF,[4],bD (j:=1) rfl,T.N6,by decide,by simp,bD (j:=1) rfl,T.Bi,by decide,by simp,λch q a=>?_⟩;unfold E6;rw[a];have e:∀(x:Int) (u v:Int),rm [x] u v=[u,v]:=λx u v=>au (Int.lt_irrefl _)
  show zQ B.c0 [4] (rm [_] q.c0 q.c1) (zQ B.r0 [2] (rm [_] q.r0 q.r1) _)=_;rw[e,e];rfl
 |two s f r g c m h l n=>
  cases ep;refine⟨A.mr,[2,6],A.iE,[4,8],bD (j:=2) rfl,T.N5,by decide,by simp,bD (j:=2) rfl,T.Bh,by decide,by simp,λch q a=>?_⟩;unfold E6;rw[a];show zQ B.c0 [4,8] (rm _ q.c0 q.c1) (zQ B.r0 [2,6] (rm _ q.r0 q.r1) _)=_
  have d:∀(b:List Int) (u v:Int),rm b u v=[(rm b u v).getD 0 0,(rm b u v).getD 1 0]:=λb u v=>by
   unfold rm;split<;>rfl
  rw[d (Ab own.r0 _),d (Dr own.c0 _)];rfl
def X6 (A:Ad) (K:ah):Sp:=λvs H Q _=>∃(a b d c:ag) (p:List Int) (own iO:b8) (ch:XI),vs=[.ref a,.ref b,.ref d,.ref c]/\gL K H a (p.map V.int)/\Ref p/\bX A H b own/\bX A H d iO/\uS A H c ch/\
 ∀H' q,bt H H'->gL K H' q ((E6 ch own iO p).map V.int)->Q (.ref q) H'
def YH:=show FO P w K mg base 5 _ _ _ (X6 A K) by
 exists T.Qx.gp kN
 obtain⟨a,b,b',c,p,own,C,ch,rfl,ha,Z,⟨dx,hx⟩,⟨dy,hy⟩,hc,k⟩:=h
 exists (aj (bS 4 kN.nd (bN (S8 T) hr T.Ts T.Pb.kp T.XD (aa (pv 0) (aa (pv 1) ai))))
  (aj (bS 5 kN.nd (bN (Jv T) hr T.JA T.Cz.kp T.Nu (aa (pv 0) (aa (pv 1) ai))))
  (aj (bS 6 kN.nd (SW (Ms:=ef A) (mH T) (hr.mono (by decide)) Fu (pv 3) (aa (bN (CZ T) hr T.C4 T.xN.kp T.GH (aa (pv 0) (aa (pv 1) (aa (pv 4) (aa (pv 5) ai))))) ai)))
  (aj (ee (Bz (YE (pv 6))) (aq (aW (l0 rfl T.afj))) cv)
  (aj (bS 7 kN.nd (sA Zu rfl T.RK RO (aa (pv 0) ai)))
  (aj (ee (PW.pt (SO (cS sE (cP fg (pv 0) bc) (bE rfl T.BW)) (Ov (cS sE (aK T.bC T.du (pv 6)) (aK T.bC T.du (pv 2)))))) (aq (aiu (gi kl (aK T.bC T.du (pv 6)) bc) (aiw (pv 7) bc set_list))) cv)
  (aj (bS 8 kN.nd (bN (Fy T) hr T.FI T.zF.kp T.J2 (aa (pv 4) (aa (aK T.bC T.cU (pv 6)) (aa (aK T.bC T.fV (pv 6)) ai)))))
  (aj (cC (bN (Fv T) hr T.FG T.zD.kp T.J0 (aa (pv 7) (aa (cP fg (l0 rfl T.Y3) (cP fg (pv 0) bc)) (aa (pv 8) (aa (aK T.bC T.cU (pv 2)) ai))))))
  (aj (bS 9 kN.nd (bN (Fy T) hr T.FI T.zF.kp T.J2 (aa (pv 5) (aa (aK T.bC T.cB (pv 6)) (aa (aK T.bC T.eJ (pv 6)) ai)))))
  (aj (cC (bN (Fv T) hr T.FG T.zD.kp T.J0 (aa (pv 7) (aa (cP fg (l0 rfl T.KQ) (cP fg (pv 0) bc)) (aa (pv 9) (aa (aK T.bC T.cB (pv 2)) ai))))))
  (aq (aW (sA om rfl T.FE GC (aa (pv 7) ai)))))))))))))),0
 intro H1 q1 U n1 e1;have ô:=U.nj ha;have ç:=U _ _ hx
 lk
 intro H2 q2 S n2 e2;obtain⟨z,d,m,ep,es⟩:=Z.zz;have ha2:gL K H2 a ((z::d::m).map V.int):=by rw[<-ep];exact S.nj ô
 have Ζ:=S _ _ ç;have l1:dv K H2 q1 ((Ab own.r0 p).map V.int):=dv.of (S _ _ e1);have l2:dv K H2 q2 ((Dr own.c0 p).map V.int):=dv.of e2;have f1:=Z.abT own.r0;have f2:=Z.abU own.c0;have W8:=hc.same (U.trans S)
 repeat' (first|(refine BX W8 (λpr Ë=>?_))|walk_at "")
 rintro H3 q3 O n3 ⟨d3,e3⟩
 have e3:bX A H3 q3 (vE p own):=⟨d3,by rw[e3];unfold vE;rw[es]⟩;have hc3:=W8.same O;refine⟨c,ch,q3,_,rfl,Ë,hc3,e3,λH4 v s4 Y=>?_⟩;have EE:bt H H4:=(U.trans S).trans (O.trans s4);cases B:ch.after (vE p own)with
 |none=>
  rw[B]at Y;obtain rfl:v=.m6:=Y
  lk
  refine k H4 _ EE ?_;unfold E6;rw[B];exact T.aeU.sq H4
 |some g=>
  rw[B]at Y;obtain⟨q4,rfl,d4,e4⟩:=Y;have ha4:gL K H4 a (p.map V.int):=EE.nj ha;have M:gL K H4 a ((z::d::m).map V.int):=by rw[<-ep];exact ha4
  obtain⟨tR,č,tC,ļ,r1,r2,r3,r4,c1,c2,c3,c4,amv⟩:=aip T Z own C ep;have θ:=amv ch g B
  clear amv B
  lk
  intro l hl;have f:d≠0\/(d=0/\g.sheet≠C.sheet)\/(d=0/\g.sheet=C.sheet):=by fail
  have B9:∀{u o},H4 u=some o->u≠l:=fun {u o} e q=>by subst q;rw[hl]at e;cases e
  have atz:ky ((z::d::m).map V.int) 0=some (V.int z):=bD (j:=0) rfl;have ats:ky ((z::d::m).map V.int) 1=some (V.int d):=bD (j:=1) rfl;have axa:ixN ((z::d::m).map V.int).length 1=some 1:=afr (j:=1) (by simp);have b1:=(O.trans s4) _ _ (S _ _ e1);have b2:=(O.trans s4) _ _ e2;have b3:=EE _ _ hy;have J:bt H4 (bB H4 l (.lst ((z::d::m).map V.int))):=bt.new hl;have v1:=J.nj M;have v2:=J _ _ e4;have v3:=J _ _ b3;have v4:(bB H4 l (.lst ((z::d::m).map V.int))) l=some (.lst ((z::d::m).map V.int)):=ao;dsimp only[aju];show aqS (aqV ?c ?t ?e) ?rest ?D ?sg ?H5
  have L:∀H6:Hp,bt H4 H6->H6 l=some (.lst ((z::shP d g.sheet C.sheet::m).map V.int))->?rest ?D ?sg H6:=by
   intro H6 y lA;have g1:dv K H6 q1 ((Ab own.r0 p).map V.int):=dv.of (y _ _ b1);have g2:=y _ _ e4;have g3:=y _ _ b3;have g4:=y.nj M;have g5:=T.RB.sq H6
   lk
   intro H7 q7 I n7 e7;have g6:=I.nj g4;have g7:=T.RB.sq H7;have g8:=I _ _ lA;have g9:=I _ _ g3;have X:H6 q7=none:=n7;have nl:l≠q7:=λq=>by rw[<-q,lA]at X;cases X
   have r4':∀i∈č,i+1<(z::shP d g.sheet C.sheet::m).length:=r4;have ŷ:=r2.sq H7;have aBi:č.length<=(rm (Ab own.r0 p) g.r0 g.r1).length:=b9 r3 (Be (by unfold rm;split<;>rfl))
   lk
   intro H8 k8 e8;have n:bt H4 H8:=bt.keep (y.trans I) hl k8;have m1:dv K H8 q2 ((Dr own.c0 p).map V.int):=dv.of (n _ _ b2);have m2:=n _ _ e4
   lk
   intro H9 q9 G n9 e9;have w1:=(n.trans G).nj M;have w2:=T.Kk.sq H9;have w3:=G _ _ e8;have w4:=(n.trans G) _ _ b3;have nl2:l≠q9:=λq=>by rw[<-q,e8]at n9;cases n9
   have c2':=c2.sq H9;have aBh:ļ.length<=(rm (Dr own.c0 p) g.c0 g.c1).length:=b9 c3 (Be (by unfold rm;split<;>rfl));have c4':∀i∈ļ,i+1<(zQ C.r0 č (rm (Ab own.r0 p) g.r0 g.r1) (z::shP d g.sheet C.sheet::m)).length:=by rw[Wy];exact c4
   lk
   intro H10 k10 e10;have avO:bt H4 H10:=bt.keep (n.trans G) hl k10;have x1:dv K H10 l _:=dv.of e10
   lk
   refine oY ⟨x1,λq nq=>?_⟩;refine k _ q ((EE.trans avO).bB nq) (.inl (.inl ?_));rw[ao,θ]
  have up6:∀x:HO,bt H4 (bB (bB H4 l (.lst ((z::d::m).map V.int))) l x):=λx u o e=>by simp only[aw (B9 e),e]
  have F:=fun(h:d≠0\/g.sheet≠C.sheet)=>L (bB (bB H4 l (.lst ((z::d::m).map V.int))) l (.lst ((z::(g.sheet+1)::m).map V.int))) (up6 _) (by rw[ao,show shP d g.sheet C.sheet=g.sheet+1 from az h])
  have tail3:=fun(h:¬(d≠0\/g.sheet≠C.sheet))=>L _ J (by rw[v4,show shP d g.sheet C.sheet=d from au h])
  rcases f with f|⟨f,h4⟩|⟨f,h4⟩
  ·repeat' (first|exact F (.inl f)|walk_at "")
  ·repeat' (first|exact F (.inr h4)|walk_at "")
  ·repeat' (first|exact tail3 (by fail)|walk_at "")
def X9 (A:Ad) (K:ah):Sp:=λvs H Q _=>∃(a b d c:ag) (p:List Int) (own iO:b8) (ch:XI),vs=[.ref a,.ref b,.ref d,.ref c]/\gL K H a (p.map V.int)/\oU p/\bX A H b own/\bX A H d iO/\uS A H c ch/\
 ∀H' q,bt H H'->gL K H' q ((kj ch own iO p).map V.int)->Q (.ref q) H'
def My:=show FO P w K mg base 6 _ _ _ (X9 A K) by
 exists T.G7.gp Yl
 obtain⟨a,b,C,c,p,own,n,y,rfl,i,⟨j,d⟩,u,o,x,k⟩:=h;refine⟨_,(aq (aW (jP (iG (bN (oC T) hr T.oF T.mI.kp T.qU (aa (pv 0) ai))) (bN (YH T) hr T.YZ T.Qx.kp T.ab7 (aa (pv 0) (aa (pv 1) (aa (pv 2) (aa (pv 3) ai))))) (pv 0)))),?_⟩;cases p with
 |nil=>exact absurd rfl j
 |cons z q=>
  unfold kj at k;cases hr:lS (z::q)with
  |true=>
   have m:=d hr;have e:(z::q).getD 0 0=1\/(z::q).getD 0 0=2:=cb hr;rw[az hr]at k
   lk
   exact k
  |false=>
   have e:¬((z::q).getD 0 0=1\/(z::q).getD 0 0=2):=Kb hr;rw[au (by rw[hr];exact bj)]at k;have g:=k H a (bt.refl H) i
   lk
   exact g
structure LcT (K:ah) {δ:Type} (H1:Hp) (D:ag) (ds:List δ) (f:δ->List Int) (i:Nat) (H:Hp):Prop where
 free:H1 D=none
 same:bt H1 H
 acc:qW K H D ((ds.take i).map f)
def LcT.next {K:ah} {B:Type} {G H H4:Hp} {D q:ag} {ds:List B} {f:B->List Int} {i:Nat} {x:B} (h:LcT K G D ds f i H) (F:ds[i]? =some x) (s:bt H H4) (O:ds.length<=1000) (I:gL K H4 q ((f x).map V.int)):jJ D (LcT K G D ds f (i+1)) (.ref q) H4:=by
 obtain⟨ts,e,d⟩:=h.acc
 have m:ts.length=i:=by
  have l:=eM d;have j:=(aQ.mp F).1;rw[ae,b7]at l;omega
 have j:=(aQ.mp F).1;have g:=s _ _ e;have kp:∀(y:ag) (ys:List V),gL K H4 y ys->gL K (bB H4 D (.lst (ts.map V.ref++[.ref q]))) y ys:=λy ys=>sJ (λb u a n=>by rw[aw (by simpa using n)];exact a) g
 refine FV ⟨_,g,?_,h.free,λb o a=>?_,ts++[q],?_,?_⟩
 ·rw[ae];exact dO (by omega)
 ·rw[aw (bp a h.free)];exact s _ _ (h.same _ _ a)
 ·rw[ao,aT];rfl
 ·rw[take_one F,aT];exact tP (d.mono λy ys eq=>kp _ _ (s.nj eq)) (kp _ _ I)
def abA {B:Type} {a:ag} (ds:List B) (f:B->List Int) (O:dv K H1 a xs) (G:xs.length=ds.length)
 (I:∀D i x d H,H1 D=none->xs[i]? =some x->ds[i]? =some d->LcT K H1 D ds f i H->g x (wipe σ vs) H fun q U=>wipe q vs=wipe σ vs/\tt q U λb F=>if b=true then te q F (jJ D (LcT K H1 D ds f (i+1)))else LcT K H1 D ds f (i+1) F)
 (hd:∀D H,H1 D=none->bt H1 H->qW K H D (ds.map f)->Q (.ref D) H):LcI (Itl K a) g tt te vs σ H1 Q:=by
 refine MO (xs:=xs) (λD=>LcT K H1 D ds f) (λD e=>⟨e,bt.new e,[],ao,.nil⟩) (λD i H h=>h.same.seq O) (λD i x H e j h=>?_) (λD H e h=>?_)
 ·have l:=(aQ.mp j).1;exact I D i x _ H e j (aZ (by omega)) h
 ·refine hd D H e h.same ?_;have:=h.acc;rw[G,de]at this;exact this
def Dq (ch:XI) (own f:b8) (c:hW):hW:=if c.kind=1 then⟨1,c.parts.map (kj ch own f)⟩else c
def QQ (A:Ad) (K:ah):Sp:=λvs H Q _=>∃(a b e d:ag) (c:hW) (own iO:b8) (ch:XI),vs=[.ref a,.ref b,.ref e,.ref d]/\nz A K H a c/\bX A H b own/\bX A H e iO/\uS A H d ch/\(c.kind=1->∀p∈c.parts,oU p)/\c.parts.length<=1000/\
 ∀H' q,bt H H'->nz A K H' q (Dq ch own iO c)->Q (.ref q) H'
def Q6:=show FO P w K mg base 7 _ _ _ (QQ A K) by
 exists T.G9.gp uM
 obtain⟨a,b,b',d,c,own,n,u,rfl,⟨da,l,hc,ts,L,x⟩,U,O,F6,X,hn,k⟩:=h
 refine⟨_,(aj (ee (cS sE (aK T.ij T.lu (pv 0)) (bE rfl T.xc)) (aq (aW (pv 0))) cv)
  (aq (aW (jy T.KN (uO T) hr T.KP T.xG (aa (bE rfl T.xc) (aa (oN (own:=[("part",4)]) rfl uM.nd (jO (aK T.ij T.jg (pv 0))) (jq rfl) (λ_ _ _ _ _=>(eC 4 uM.nd)) (λ_ _ _ _ _=>oA) (λ_ _ _ _ _=>(bN (My T) hr T.MG T.G7.kp T.Qw (aa (pv 4) (aa (pv 1) (aa (pv 2) (aa (pv 3) ai))))))) ai)))))),?_⟩
 have sq:dv K H l (ts.map V.ref):=dv.of L;have S:ts.length=c.parts.length:=eM x;by_cases z:c.kind=1
 ·have C:Dq u own n c=⟨1,c.parts.map (kj u own n)⟩:=az z
  lk
  refine abA c.parts (kj u own n) sq (by rw[ae];exact S) (λD i v p J hD g y h=>?_) (λD J hD Y e=>?_)
  ·rw[aV]at g;cases e:ts[i]? with
   |none=>rw[e]at g;cases g
   |some t=>
    rw[e]at g;obtain rfl:V.ref t=v:=ay g;have ľ:gL K J t (p.map V.int):=h.same.nj (f9 (F:=λt (p:List Int)=>gL K H t (p.map V.int)) x e y);have ñ:=X z p (bI y);have Ç:=U.same h.same;have I:=O.same h.same;have axp:=F6.same h.same
    lk
    intro H2 q j Z;exact h.next y j hn Z
  ·lk
   intro q M B f n3;refine⟨q,M,D,1,rfl,ao,λH2 e2 FW=>⟨rfl,?_⟩⟩;have j:bt J H2:=bt.made B f (λb o q m=>FW b o q (by simpa using m));refine k H2 q (Y.trans j) ?_;rw[C];exact⟨M,D,e2,e.same j⟩
 ·have C:Dq u own n c=c:=au z;have G:=k H a (bt.refl H) (by rw[C];exact⟨da,l,hc,ts,L,x⟩)
  lk
  exact G
section
variable {α κ:Type} [DecidableEq κ]
def sQ {l:List α} {f:α->κ} {g:α->V}:gF (l.map λx=>(f x,g x)) k=none↔k∉l.map f:=by
 unfold gF;rw[acK,akl];constructor
 ·rintro h d
  obtain⟨x,a,e⟩:=aG.mp d;exact h (f x,g x) (aG.mpr ⟨x,a,rfl⟩) (by simpa using e)
 ·rintro h p b
  obtain⟨x,a,rfl⟩:=aG.mp b;simp only[aX];exact λe=>h (e▸bu a)
def gN {l:List α} {f:α->κ} {g:α->V} (B:(l.map f).Nodup) (q:x∈l):gF (l.map λx=>(f x,g x)) (f x)=some (g x):=by
 induction l with
 |nil=>cases q
 |cons y l d=>
  obtain⟨b,a⟩:=bR.mp B;rw[bW];rcases aY.mp q with rfl|q
  ·exact LL rfl
  ·rw[LM (λe=>b (by show f y∈l.map f;rw[show f y=f x from e];exact bu q))];exact d a q
def uK {l:List α} {f:α->κ} {g:α->V}:(gF (l.map λx=>(f x,g x)) k).isSome=true↔k∈l.map f:=by
 constructor
 ·intro h;refine ir λa=>?_
  rw[sQ.mpr a]at h;cases h
 ·intro h;cases e:gF (l.map λx=>(f x,g x)) k with
  |none=>exact absurd h (sQ.mp e)
  |some v=>rfl
def jN {l:List α} {f:α->κ} {g:α->V} (h:f x∉l.map f):putK (l.map λx=>(f x,g x)) (f x) (g x)=(l++[x]).map λx=>(f x,g x):=by
 rw[ait _ (sQ.mpr h),aT];rfl
def HM {l:List α} {f:α->κ} {g:α->V}:qJ (l.map λx=>(f x,g x)) k=(l.filter λx=>decide (f x≠k)).map λx=>(f x,g x):=by
 unfold qJ;rw[zi];rfl
def Mr {l:List α} {f:α->κ} {g:α->V} (h:f x∈l.map f):putK (l.map λx=>(f x,g x)) (f x) (g x)=(l.map λy=>if f y=f x then x else y).map λx=>(f x,g x):=by
 unfold putK;rw[az (by rw[LN];exact uK.mpr h),bq,bq];refine cW λy _=>?_
 show(if f y=f x then(f y,g x)else(f y,g y))=(f (if f y=f x then x else y),g (if f y=f x then x else y));split
 next e=>rw[e]
 next=>rfl
end
abbrev Ent:=(Nat×Nat)×ag×hW
variable {e:Ent} {es sp:List Ent}
def nY (e:Ent):List Key:=[bh (e.1.1:Int),bh (e.1.2:Int)]
abbrev Sh:=Nat×ag×List Ent
structure mV where
 dx:ag
 dt:ag
 dc:ag
 dn:ag
 ts:List (Nat×ag×List Int)
 cs:List Sh
 ns:List (List Int×ag×List Int)
variable {s:Sh} {m m' m1:mV} {sg:List Sh}
def LI (m:mV):List (Str×V):=[("titles",.ref m.dt),("cells",.ref m.dc),("names",.ref m.dn)]
def gY (l:List (Nat×ag×List Int)):List (Key×V):=l.map λt=>(bh (t.1:Int),V.ref t.2.1)
def rk (l:List Sh):List (Key×V):=l.map λs=>(bh (s.1:Int),V.ref s.2.1)
def jz (l:List Ent):List (List Key×V):=l.map λe=>(nY e,V.ref e.2.1)
def sU (l:List (List Int×ag×List Int)):List (List Key×V):=l.map λn=>(n.1.map bh,V.ref n.2.1)
def rj (w:ag) (m:mV):List ag:=w::m.dt::m.dc::m.dn::m.cs.map (·.2.1)
structure fY (A:Ad) (K:ah) (H:Hp) (w:ag) (m:mV):Prop where
 ob:H w=some (.ins A.bg m.dx (LI m))
 ti:H m.dt=some (.dK (gY m.ts))
 tl:∀t∈m.ts,H t.2.1=some (.lst (t.2.2.map V.int))
 ce:H m.dc=some (.dK (rk m.cs))
 sh:∀s∈m.cs,H s.2.1=some (.dT (jz s.2.2))
 co:∀s∈m.cs,∀e∈s.2.2,nz A K H e.2.1 e.2.2
 na:H m.dn=some (.dT (sU m.ns))
 nl:∀n∈m.ns,gL K H n.2.1 (n.2.2.map V.int)
 nd:(rj w m).Nodup
def fY.same {w:ag} (h:fY A K H w m) (s:bt H H'):fY A K H' w m where
 ob:=s _ _ h.ob
 ti:=s _ _ h.ti
 tl:=λt b=>s _ _ (h.tl t b)
 ce:=s _ _ h.ce
 sh:=λx a=>s _ _ (h.sh x a)
 co:=λx a e g=>(h.co x a e g).same s
 na:=s _ _ h.na
 nl:=λn d=>s.nj (h.nl n d)
 nd:=h.nd
def fu (cs:List Sh):List (bP×hW):=cs.flatMap λs=>s.2.2.map λe=>(⟨s.1,e.1.1,e.1.2⟩,e.2.2)
def cellsOf (b:cy):List (bP×hW):=b.cells.map λx=>(x.1,cY x.2)
def kX (b:iW):List Int:=b.map fun(c:UInt8)=>(c.toNat:Int)
structure Rep (b:cy) (m:mV):Prop where
 tn:(m.ts.map (·.1)).Nodup
 tb:∀t∈m.ts,t.2.2.all wj=true
 ti:∀t∈m.ts,b.sheets[t.1]? =some (some (oct t.2.2))
 tk:∀k,b.sheet k=true->k∈m.ts.map (·.1)
 cn:(m.cs.map (·.1)).Nodup
 ck:∀k,k∈m.cs.map (·.1)↔b.sheet k=true
 en:∀s∈m.cs,(s.2.2.map (·.1)).Nodup
 cp:(fu m.cs).Perm (cellsOf b)
 nm:m.ns.map (λn=>(n.1,n.2.2))=b.names.map λn=>(kX n.1,(partsOf n.2).flatten)
def Rep.wy (r:Rep b m) {k:Nat}:k∈m.ts.map (·.1)↔b.sheet k=true:=by
 refine⟨λh=>?_,r.tk k⟩;obtain⟨t,a,rfl⟩:=aG.mp h;exact iQ.mpr ⟨_,r.ti t a⟩
def Hz {a b:Nat}:(bh (a:Int):Key)=bh (b:Int)↔a=b:=by
 constructor
 ·intro h;have:=aeI h;omega
 ·rintro rfl;rfl
def AD {α:Type} {l:List α} {f:α->Nat} (h:(l.map f).Nodup):(l.map λx=>(bh (f x:Int):Key)).Nodup:=by
 unfold nI at *;rw[dm]at *;exact h.imp λa e=>a (Hz.mp e)
def RL {α:Type} {l:List α} {f:α->Nat} {k:Nat}:(bh (k:Int):Key)∈(l.map λx=>(bh (f x:Int):Key))↔k∈l.map f:=by
 rw[aG,aG];exact⟨fun⟨x,h,e⟩=>⟨x,h,Hz.mp e⟩,fun⟨x,h,e⟩=>⟨x,h,Hz.mpr e⟩⟩
def lB:nY e=nY e'↔e.1=e'.1:=by
 unfold nY;constructor
 ·intro h;injection h with b a
  injection a with a _
  exact Wk (Hz.mp b) (Hz.mp a)
 ·intro h;rw[h]
def HL {l:List Ent} (h:(l.map (·.1)).Nodup):(l.map nY).Nodup:=by
 unfold nI at *;rw[dm]at *;exact h.imp λa e=>a (lB.mp e)
def Rep.N3 (r:Rep b m) (k:Nat):(gF (gY m.ts) (bh (k:Int))).isSome=b.sheet k:=by
 have h:=uK (l:=m.ts) (f:=λt=>(bh (t.1:Int):Key)) (g:=λt=>V.ref t.2.1) (k:=bh (k:Int));rw[RL,r.wy]at h;cases e:b.sheet k with
 |true=>exact h.mpr e
 |false=>exact DF.mpr λq=>by rw[h.mp q]at e;cases e
def Rep.keysOf (r:Rep b m):KeysOf (gY m.ts) b:=r.N3
def Rep.Bm (r:Rep b m) {k:Nat} (h:b.sheet k=true):∃s∈m.cs,s.1=k/\gF (rk m.cs) (bh (k:Int))=some (.ref s.2.1):=by
 obtain⟨s,a,e⟩:=aG.mp ((r.ck k).mpr h);subst e;exact⟨s,a,rfl,gN (l:=m.cs) (f:=fun(s:Sh)=>(bh (s.1:Int):Key)) (g:=fun(s:Sh)=>V.ref s.2.1) (AD (f:=λs:Sh=>s.1) r.cn) a⟩
def FP {d:hW}:(c,d)∈fu cs↔∃s∈cs,s.1=c.sheet/\∃e∈s.2.2,e.1=(c.row,c.col)/\e.2.2=d:=by
 unfold fu;rw[wq];constructor
 ·rintro⟨s,b,h⟩
  obtain⟨e,g,eq⟩:=aG.mp h;cases eq;exact⟨s,b,rfl,e,g,rfl,rfl⟩
 ·rintro⟨s,b,j,e,g,i,rfl⟩
  refine⟨s,b,aG.mpr ⟨e,g,?_⟩⟩;cases c;obtain⟨⟨r,k⟩,a,d⟩:=e;cases j;cases i;rfl
def ajz (cs:List Sh):(fu cs).length=(cs.map λs=>s.2.2.length).sum:=by
 unfold fu;rw[List.length_flatMap]
 congr 1
 exact cW λs _=>ae ..
structure Eo (p:Prop):Prop where
 out:p
def TH (d:ag) (e:H d=some u) (B:Mut (some u)) (h:∀f,Eo (t σ (bB H d (.gb f u)) λv q=>q d=some (.gb f u)/\Q v (bB q d u))):aia t σ H Q:=⟨d,u,e,B,λf=>(h f).out⟩
def E5 (e:H d=some u) (s:bt (bB H d (.gb od u)) H'):bt H (bB H' d u):=λb o a=>by
 by_cases q:b=d
 ·subst q;rw[e]at a;cases a;exact ao
 ·rw[aw q];exact s _ _ (by rw[aw q];exact a)
def vj {w:ag} (nd:(rj w m).Nodup):w≠m.dt/\w≠m.dc/\w≠m.dn/\m.dt≠m.dc/\m.dt≠m.dn/\m.dc≠m.dn/\(∀s∈m.cs,w≠s.2.1/\m.dt≠s.2.1/\m.dc≠s.2.1/\m.dn≠s.2.1)/\(m.cs.map (·.2.1)).Nodup:=by
 unfold rj at nd;obtain⟨a,nd⟩:=bR.mp nd;obtain⟨b,nd⟩:=bR.mp nd;obtain⟨g,nd⟩:=bR.mp nd;obtain⟨h,nd⟩:=bR.mp nd;simp only[aY,not_or]at a b g;refine⟨a.1,a.2.1,a.2.2.1,b.1,b.2.1,g.1,λs d=>⟨λe=>?_,λe=>?_,λe=>?_,λe=>?_⟩,nd⟩
 ·exact a.2.2.2 (e▸bu d)
 ·exact b.2.2 (e▸bu d)
 ·exact g.2 (e▸bu d)
 ·exact h (e▸bu d)
def Sj (A:Ad) (K:ah):Sp:=λvs H Q _=>∃(w:ag) (m:mV),vs=[.ref w]/\fY A K H w m/\m.cs.length<=1000/\∀H',bt H H'->Q (.int ((fu m.cs).length:Int)) H'
def X0 (l:List Sh):((l.map λs=>((s.2.2.length:Nat):Int))).sum=((fu l).length:Int):=by
 rw[ajz]
 induction l with
 |nil=>rfl
 |cons s l a=>rw[bW,QI,a,bW,QI];omega
def pf:=show FO P w K mg base 1 _ _ _ (Sj A K) by
 exists T.CC.gp kh
 obtain⟨w,m,rfl,h,U,k⟩:=h;refine⟨_,(aq (aW (cG (ajR rfl) rfl T.aiK ajX (aa (YC (oN (own:=[("standing",1)]) rfl kh.nd (ago (aK T.aF T.cT (pv 0))) (jq rfl) (λ_ _ _ _ _=>(eC 1 kh.nd)) (λ_ _ _ _ _=>oA) (λ_ _ _ _ _=>(cG OZ rfl T.jG jI (aa (pv 1) ai))))) ai)))),?_⟩;obtain⟨O,L,I,G,F,B,J,f⟩:=vj h.nd
 repeat' (first|(refine TH m.dc h.ce trivial (λj=>?_))|walk_at "")
 refine⟨?_⟩;have f1:(bB H m.dc (.gb j (.dK (rk m.cs)))) w=some (.ins A.bg m.dx (LI m)):=by rw[aw L];exact h.ob
 have n:(bB H m.dc (.gb j (.dK (rk m.cs)))) m.dc=some (.gb j (.dK (rk m.cs))):=ao;have S:∀s∈m.cs,(bB H m.dc (.gb j (.dK (rk m.cs)))) s.2.1=some (.dT (jz s.2.2)):=λs y=>by rw[aw (J s y).2.2.1.symm];exact h.sh s y
 lk
 refine ai0 (kvs:=rk m.cs) (λD i a=>bt (bB H m.dc (.gb j (.dK (rk m.cs)))) a/\a D=some (.lst ((m.cs.take i).map λs=>V.int (s.2.2.length:Int)))) (λD e=>⟨bt.new e,ao⟩) (λD i a M=>M.1 _ _ n) ?_ ?_
 ·rintro D i u x a e d ⟨g,p⟩
  unfold rk at d;rw[aV]at d;cases ex:m.cs[i]? with
  |none=>rw[ex]at d;cases d
  |some sh=>
   rw[ex]at d;cases d;have Z:=g _ _ (S sh (bI ex));have Y:=(aQ.mp ex).1
   lk
   refine FV ⟨_,p,by rw[ae,b7];exact dO (by fail),λb o z=>?_,?_⟩
   ·rw[aw (bp z e)];exact g _ _ z
   ·rw[ao,take_one ex,aT];unfold jz;rw[ae];rfl
 ·rintro D a e ⟨g,p⟩
  have X:a D=some (.lst ((m.cs.map λs=>((s.2.2.length:Nat):Int)).map V.int)):=by
   rw[p,show(rk m.cs).length=m.cs.length from ae ..,de,bq];rfl
  refine⟨g _ _ n,?_⟩;have C:D≠m.dc:=λq=>by rw[q,n]at e;cases e
  have sq:dv K (bB a m.dc (.dK (rk m.cs))) D ((m.cs.map λs=>((s.2.2.length:Nat):Int)).map V.int):=dv.of (by rw[aw C];exact X);have u:=k _ (E5 h.ce g)
  lk
  rw[X0];exact u
def HR (H f:Hp):Prop:=∀b C dx fs,H b=some (.ins C dx fs)->f b=some (.ins C dx fs)
def HR.bB (e:H d=some u) (f:∀C dx fs,u≠ .ins C dx fs):HR H (bB H d x):=λb C dx fs a=>by
 rw[aw (λq=>by subst q;rw[e]at a;exact f _ _ _ (ay a))];exact a
def bX.ik {a:ag} (h:bX A H a x) (k:HR H H'):bX A H' a x:=let⟨dx,e⟩:=h;⟨dx,k _ _ _ _ e⟩
def uS.ik {a:ag} (h:uS A H a ch) (k:HR H H'):uS A H' a ch:=by
 cases ch with
 |put i j st e=>obtain⟨dx,b,d,g⟩:=h;exact⟨dx,b,k _ _ _ _ d,bX.ik g k⟩
 |del i j st e=>obtain⟨dx,b,d,g⟩:=h;exact⟨dx,b,k _ _ _ _ d,bX.ik g k⟩
 |mov s t=>obtain⟨dx,b,c,d,g,l⟩:=h;exact⟨dx,b,c,k _ _ _ _ d,bX.ik g k,bX.ik l k⟩
 |KU z=>obtain⟨dx,d⟩:=h;exact⟨dx,k _ _ _ _ d⟩
def JC (ch:XI) (k:Nat) (e:Ent):Bool:=(ch.after (je k e.1.1 e.1.2)).isNone
def Ku (A:Ad) (K:ah):Sp:=λvs H Q _=>∃(w c:ag) (m:mV) (sh:Sh) (ch:XI),vs=[.ref w,.int (sh.1:Int),.ref c]/\fY A K H w m/\sh∈m.cs/\gF (rk m.cs) (bh (sh.1:Int))=some (.ref sh.2.1)/\uS A H c ch/\sh.2.2.length<=20000/\
 ∀H',bt H H'->Q (.bl (sh.2.2.any (JC ch sh.1))) H'
def oK (h:n<=20000):n<sizeLine:=sO h (by decide)
def vO:=show FO P w K mg base 5 _ _ _ (Ku A K) by
 exists T.xO.gp i5
 obtain⟨w,c,m,sh,ch,rfl,h,S,Z,hc,hn,k⟩:=h;refine⟨_,(aq (aW (cG (apv rfl) rfl T.aoy apC (aa (YC (oN (own:=[("spot",3)]) rfl i5.nd (Mv (l4 (iu hr) (aK T.aF T.cT (pv 0)) (pv 1) (λ_ _=>rfl))) (jq rfl) (λ_ _ _ _ _=>(eC 3 i5.nd)) (λ_ _ _ _ _=>oA) (λ_ _ _ _ _=>(ady (YE (SW (Ms:=ef A) (mH T) (hr.mono (by decide)) SY (pv 2) (aa (bN (sF T) hr T.sH T.sN.kp T.wm (aa (pv 1) (aa (cP (yG (K:=K)) (pv 3) bc) (aa (cP (yG (K:=K)) (pv 3) bc) ai)))) ai))))))) ai)))),?_⟩;obtain⟨n1,O,n3,n4,n5,n6,I,n8⟩:=vj h.nd;obtain⟨Y,m2,U,m4⟩:=I sh S;have hd:=h.sh sh S
 repeat' (first|(refine TH sh.2.1 hd trivial (λd=>?_))|walk_at "")
 refine⟨?_⟩;have f1:(bB H sh.2.1 (.gb d (.dT (jz sh.2.2)))) w=some (.ins A.bg m.dx (LI m)):=by rw[aw Y];exact h.ob
 have u:(bB H sh.2.1 (.gb d (.dT (jz sh.2.2)))) sh.2.1=some (.gb d (.dT (jz sh.2.2))):=ao;have f3:(bB H sh.2.1 (.gb d (.dT (jz sh.2.2)))) m.dc=some (.dK (rk m.cs)):=by rw[aw U];exact h.ce
 have f4:jt (bB H sh.2.1 (.gb d (.dT (jz sh.2.2)))) m.dc (.int (sh.1:Int)) (some (.ref sh.2.1)):=by rw[<-Z];exact jt.k (k:=bh (sh.1:Int)) f3
 have f5:uS A (bB H sh.2.1 (.gb d (.dT (jz sh.2.2)))) c ch:=uS.ik hc (HR.bB hd (λ_ _ _ q=>nomatch q))
 lk
 refine EK ⟨_,u,?_⟩;refine W0 (kvs:=jz sh.2.2) (λD i a=>bt (bB H sh.2.1 (.gb d (.dT (jz sh.2.2)))) a/\a D=some (.lst (((sh.2.2.take i).map (JC ch sh.1)).map V.bl))) (λD g=>⟨bt.new g,ao⟩) (λD i a hp=>hp.1 _ _ u) ?_ ?_
 ·rintro D i M x q a g e hq ⟨n,z⟩
  unfold jz at e;rw[aV]at e;cases ex:sh.2.2[i]? with
  |none=>rw[ex]at e;cases e
  |some en=>
   rw[ex]at e;cases e;have X:=f5.same n;have hi:=(aQ.mp ex).1;have Ze:gL K a q [V.int (en.1.1:Int),V.int (en.1.2:Int)]:=.inl (.inl hq);have RP:ky [V.int (en.1.1:Int),V.int (en.1.2:Int)] 0=some (V.int (en.1.1:Int)):=bD (j:=0) rfl;have zz:ky [V.int (en.1.1:Int),V.int (en.1.2:Int)] 1=some (V.int (en.1.2:Int)):=bD (j:=1) rfl
   repeat' (first|(refine BX X (λpr B=>?_))|walk_at "")
   intro H2 F C O a2;have g2:=X.same C;refine⟨c,ch,F,_,rfl,B,g2,a2,λH3 v L p=>?_⟩
   have J:∀b:Bool,b=JC ch sh.1 en->jJ D (λa=>bt (bB H sh.2.1 (.gb d (.dT (jz sh.2.2)))) a/\a D=some (.lst (((sh.2.2.take (i+1)).map (JC ch sh.1)).map V.bl))) (.bl b) H3:=by
    rintro b rfl
    have e3:=(C.trans L) _ _ z;refine FV ⟨_,e3,by rw[ae,ae,b7];exact oK (by fail),λb o f=>?_,?_⟩
    ·rw[aw (bp f g)];exact(C.trans L) _ _ (n _ _ f)
    ·rw[ao,take_one ex,aT,aT];rfl
   cases y:ch.after (je sh.1 en.1.1 en.1.2)with
   |none=>
    rw[y]at p;obtain rfl:v=.m6:=p
    lk
    exact J true (by unfold JC;rw[y];rfl)
   |some ar=>
    rw[y]at p;obtain⟨q4,rfl,d4,e4⟩:=p
    lk
    exact J false (by unfold JC;rw[y];rfl)
 ·rintro D a g ⟨n,z⟩
  rw[show(jz sh.2.2).length=sh.2.2.length from ae ..,de]at z;refine⟨n _ _ u,?_⟩;have G:D≠sh.2.1:=λq=>by rw[q,u]at g;cases g
  have sq:dv K (bB a sh.2.1 (.dT (jz sh.2.2))) D ((sh.2.2.map (JC ch sh.1)).map V.bl):=dv.of (by rw[aw G];exact z);have M:=k _ (E5 hd n)
  lk
  rw[any_map];exact M
def Bl (h:n<=10000001):n<=sizeLine:=b9 h (by decide)
def ae5 (h:n<=10000001):n<sizeLine:=sO h (by decide)
def RS (H:Hp) (Q:VK) (l:List Int):Prop:=∀H' q,bt H H'->H q=none->H' q=some (.lst (l.map V.int))->Q (.ref q) H'
def DJ (A:Ad) (K:ah):Sp:=λvs H Q _=>∃a c,vs=[.ref a]/\nz A K H a c/\1+c.parts.flatten.length<=10000000/\RS H Q (c.kind::c.parts.flatten)
def ag4 (l:List (List Int)) (i:Nat):(l.take i).flatten.length<=l.flatten.length:=by
 have:=cK gh (cK List.flatten (dP i l));rw[zh,aI]at this;omega
def DR:=show FO P w K mg base 1 _ _ _ (DJ A K) by
 exists T.Hh.gp lO
 obtain⟨a,c,rfl,⟨dx,l,J,ts,S,C⟩,I,k⟩:=h
 refine⟨_,(aj (bS 1 lO.nd (di (aa (aK T.ij T.lu (pv 0)) ai)))
  (aj (j8 BC rfl (jO (aK T.ij T.jg (pv 0))) (eC 2 lO.nd)
  (aq (cC (CW cV fF fE mB (pv 1) (aa (pv 2) ai)))))
  (aq (aW (pv 1))))),?_⟩
 have sq:dv K H l (ts.map V.ref):=dv.of S;have M:ts.length=c.parts.length:=eM C
 lk
 intro q j;have U:(bB H q (.lst [V.int c.kind])) a=some (.ins A.mF dx (coF c.kind l)):=by rw[aw (bp J j)];exact J
 have B:dv K (bB H q (.lst [V.int c.kind])) l (ts.map V.ref):=(bt.new j).seq sq
 lk
 refine pw (xs:=ts.map V.ref) (λi n d=>Eo (∃v,n=[some (.ref a),some (.ref q),v]/\bt H d/\d q=some (.lst ((c.kind::(c.parts.take i).flatten).map V.int)))) ⟨⟨_,rfl,bt.new j,ao⟩⟩ (λi n d _ ⟨⟨_,_,s,_⟩⟩=>s.seq sq) ?_ ?_
 ·rintro i x n d g ⟨⟨v,rfl,u,y⟩⟩
  rw[aV]at g;cases e:ts[i]? with
  |none=>rw[e]at g;cases g
  |some t=>
   rw[e]at g;obtain rfl:V.ref t=x:=ay g;have O:=(aQ.mp e).1;have D:c.parts[i]? =some (c.parts[i]'(by omega)):=aZ (by omega);have X:gL K d t ((c.parts[i]'(by omega)).map V.int):=u.nj (f9 (F:=λt (p:List Int)=>gL K H t (p.map V.int)) C e D);have f:dv K d q ((c.kind::(c.parts.take i).flatten).map V.int):=dv.of y;have z:=ag4 c.parts (i+1);have m:(c.parts.take (i+1)).flatten=(c.parts.take i).flatten++c.parts[i]'(by omega):=by rw[take_one D,zh];simp
   rw[m,aI]at z
   have G:((c.kind::(c.parts.take i).flatten).map V.int).length+((c.parts[i]'(by omega)).map V.int).length<=sizeLine:=by
    rw[ae,ae,ak];exact Bl (by omega)
   lk
   refine⟨⟨_,rfl,λb o L=>?_,?_⟩⟩
   ·rw[aw (bp L j)];exact u _ _ L
   ·rw[ao,m,<-aT,eQ]
 ·rintro n d ⟨⟨v,rfl,u,y⟩⟩
  rw[ae,M,de]at y
  lk
  exact k d q u j y
def VX:List Int->Bool
 |[_,_,f,_,g,_]=>decide (f=1)&&decide (g=1)
 |[_,_,f,_,g,_,q,_,g',_]=>decide (f=1)&&(decide (q=1)&&(decide (g=1)&&decide (g'=1)))
 |_=>false
def aaF (K:ah):Sp:=λvs H Q _=>∃a p,vs=[.ref a]/\gL K H a (p.map V.int)/\Ref p/\∀H',bt H H'->Q (.bl (VX p)) H'
def aa5:=show FO P w K mg base 1 _ _ _ (aaF K) by
 exists T.U0.gp EX
 obtain⟨a,p,rfl,ha,hp,k⟩:=h;refine⟨_,(aq (aW (cG (OW rfl) rfl T.OG O0 (aa (oN (own:=[("index",1)]) rfl EX.nd (adw (gi alG (cP fg (l0 rfl T.Y3) (cP fg (pv 0) bc)) (cP fg (l0 rfl T.KQ) (cP fg (pv 0) bc)))) (jq rfl) (λ_ _ _ _ _=>(eC 1 EX.nd)) (λ_ _ _ _ _=>oA) (λ_ _ _ _ _=>(qf i7 (cP (yG (K:=K)) (pv 0) (pv 1)) (bE rfl T.TB)))) ai)))),?_⟩;have hT:=T.RB.sq H;have hC:=T.Kk.sq H
 have go:∀(ix:List Nat) (ti:ag) (m:Hp),bt H m->gL K m ti (ix.map fun(i:Nat)=>V.int (i:Int))->ix.length<=4->(∀i∈ix,i<p.length)->(ix.all λi=>decide (p.getD i 0=1))=VX p->
  ∀{o:L2.St} {g:TG} {J:TT} {L:TE} {vs:List Nat},(∀(D:ag) (i j:Nat) (d:Hp),m D=none->ix[i]? =some j->Pa m D (ix.map fun(i:Nat)=>V.int (i:Int)) (λ_=>true) (λv=>V.bl (decide (p.getD (intOf v).toNat 0=1))) i d->
   gL K d a (p.map V.int)->ky (p.map V.int) (j:Int)=some (V.int (p.getD j 0))->
   (jJ D (Pa m D (ix.map fun(i:Nat)=>V.int (i:Int)) (λ_=>true) (λv=>V.bl (decide (p.getD (intOf v).toNat 0=1))) (i+1)) (.bl (decide (p.getD j 0=1))) d)->
   g (V.int (j:Int)) (wipe o vs) d fun y H2=>wipe y vs=wipe o vs/\J y H2 λb I=>if b=true then L y I (jJ D (Pa m D (ix.map fun(i:Nat)=>V.int (i:Int)) (λ_=>true) (λv=>V.bl (decide (p.getD (intOf v).toNat 0=1))) (i+1)))else Pa m D (ix.map fun(i:Nat)=>V.int (i:Int)) (λ_=>true) (λv=>V.bl (decide (p.getD (intOf v).toNat 0=1))) (i+1) I)->
  ∀{Q':VK},(∀D d,dv K d D ((ix.map λi=>decide (p.getD i 0=1)).map V.bl)->Q (.bl (VX p)) d->Q' (.ref D) d)->LcI (Itt K ti) g J L vs o m Q':=by
  intro ix ti m F O hn q D4 o g J L vs X Q' hq;have G:(ix.map fun(i:Nat)=>V.int (i:Int)).length<=sizeLine:=by rw[ae];exact dY (dO (by omega))
  refine afm (xs:=ix.map fun(i:Nat)=>V.int (i:Int)) (λ_=>true) (λv=>V.bl (decide (p.getD (intOf v).toNat 0=1))) O G (λD i x d u n h=>?_) (λD d u X e=>?_)
  ·rw[aV]at n;cases e:ix[i]? with
   |none=>rw[e]at n;cases n
   |some j=>
    rw[e]at n;obtain rfl:V.int (j:Int)=x:=ay n;have hj:=q j (bI e);exact X D i j d u e h (h.same.nj (F.nj ha)) (bD (by rw[aV,eY,aZ hj];rfl)) (h.next (by rw[aV,e];rfl) rfl (bt.refl _) G rfl)
  ·refine hq D d (dv.of ?_) (k d (F.trans X));rw[e,cD.mpr (λ_ _=>rfl),bq,bq];rfl
 cases hp with
 |one s f r g c=>
  have RP:ky (([1,s,f,r,g,c]:List Int).map V.int) 0=some (V.int 1):=bD (j:=0) rfl;have zz:ky [V.ref A.wB,V.ref A.mv,V.ref A.mr] 1=some (V.ref A.mv):=bD (j:=1) rfl;have Y:ky [V.ref A.mw,V.ref A.iF,V.ref A.iE] 1=some (V.ref A.iF):=bD (j:=1) rfl;have q1:=T.N6.sq H;have q2:=T.Bi.sq H
  lk
  refine⟨(λz=>nomatch z),dY (dO (nH rfl)),(λz=>nomatch z),λ_ t S=>?_⟩
  ·
   have C:gL K (bB H t (.tup ([V.int 2]++[V.int 4]))) t (([2,4]:List Nat).map fun(i:Nat)=>V.int (i:Int)):=.inl (.inl ao)
   lk
   refine go [2,4] t _ (bt.new S) C (by decide) (by simp) (by simp[VX]) (λD i j d u e h B U nx=>?_) (λD d Z M=>?_)
   ·lk
    exact nx
   ·lk
    rw[all_map];exact Yv M (by simp[VX])
 |two s f r g c f' r' g' c'=>
  have RP:ky (([2,s,f,r,g,c,f',r',g',c']:List Int).map V.int) 0=some (V.int 2):=bD (j:=0) rfl;have zz:ky [V.ref A.wB,V.ref A.mv,V.ref A.mr] 2=some (V.ref A.mr):=bD (j:=2) rfl;have Y:ky [V.ref A.mw,V.ref A.iF,V.ref A.iE] 2=some (V.ref A.iE):=bD (j:=2) rfl;have q1:=T.N5.sq H;have q2:=T.Bh.sq H
  lk
  refine⟨(λz=>nomatch z),dY (dO (nH rfl)),(λz=>nomatch z),λ_ t S=>?_⟩
  ·
   have C:gL K (bB H t (.tup ([V.int 2,V.int 6]++[V.int 4,V.int 8]))) t (([2,6,4,8]:List Nat).map fun(i:Nat)=>V.int (i:Int)):=.inl (.inl ao)
   lk
   refine go [2,6,4,8] t _ (bt.new S) C (by decide) (by simp) (by simp[VX]) (λD i j d u e h B U nx=>?_) (λD d Z M=>?_)
   ·lk
    exact nx
   ·lk
    rw[all_map];exact Yv M (by simp[VX])
def aa1:∀f:bO,partsOf f≠[]:=by
 intro f;cases f<;>(unfold partsOf;simp)
def agm {r:List Int} {ps:List (List Int)} (h:mQ l=some (ps,r)):∃p q,ps=p::q/\oU p:=by
 rw[By]at h;cases e:bH 32 l with
 |none=>rw[e]at h;cases h
 |some y=>
  rw[e,aA]at h;split at h
  ·cases h;have b:=tO y.1;cases a:partsOf y.1 with
   |nil=>exact absurd a (aa1 _)
   |cons p q=>exact⟨p,q,rfl,b p (by rw[a];exact aM)⟩
  ·cases h
def T7 (p:List Int):Option (List Int):=if lS p=true/\p.getD 1 0≠0/\VX p=true then some p else none
def Ac (l:List Int):Option (List Int):=match mQ l with
 |some (p::_,[])=>T7 p
 |_=>none
def zT (A:Ad) (K:ah):Sp:=λvs H Q E=>∃tl told,vs=[.ref tl]/\dv K H tl (told.map V.int)/\(Ac told=none->∀H',bt H H'->E (.ref A.kU) none H')/\∀p,Ac told=some p->∀H' a,bt H H'->gL K H' a (p.map V.int)->Q (.ref a) H'
def Ag:=show FO P w K mg base 11 _ _ _ (zT A K) by
 exists T.qY.gp kf
 obtain⟨tl,a,rfl,hl,n,k2⟩:=h
 refine⟨_,(aj (bS 1 kf.nd (jy T.OI (wY T) hr T.OK T.zy (aa (pv 0) ai)))
  (aj (bS 2 kf.nd (cP dW (bN (CY T) hr T.C3 T.xM.kp T.GG (aa (pv 1) ai)) bc))
  (aj (cC (fA (pv 1) T.bJ T.tV (tS T) hr T.vD))
  (aj (ee (PW.pt (SO (ki (iG (bN (oC T) hr T.oF T.mI.kp T.qU (aa (pv 2) ai)))) (SO (cS i7 (cP fg (pv 2) bc) (bE rfl T.BW)) (Ov (ki (iG (bN (aa5 T) hr T.abo T.U0.kp T.aeq (aa (pv 2) ai)))))))) (aq (tM yu T.fH rfl rfl (aa BA ai))) cv)
  (aq (aW (pv 2))))))),?_⟩
 refine⟨_,rfl,λr Y M n2 n3=>⟨r,Y,tl,rfl,ao,λH1 J xg=>⟨rfl,?_⟩⟩⟩;have L:bt H H1:=bt.made M n2 (λb o q m=>xg b o q (by simpa using m));have ť:iI A K H1 r tl a 0:=⟨Y,J,L.seq hl,eI _⟩;obtain⟨dx1,g,ó,EF⟩:=id ť
 lk
 refine jb.intro (λe H' kp=>n (by unfold Ac;rw[show a.drop 0=a from rfl]at e;rw[e]) H' (o6 L M kp)) (λps H2 I v C FW B le2 hv=>?_);obtain⟨lp,rfl,_,ts,Iz,u⟩:=hv;have C:mQ a=some (ps,a.drop I):=C;have i:bt H H2:=o6 L M FW;obtain⟨dx2,F,Ì,G⟩:=id B;obtain⟨p,qs,rfl,B9,Z⟩:=agm C;cases ts with
 |nil=>cases u
 |cons t ts=>
 have S:gL K H2 t (p.map V.int):=by cases u with|cons r _=>exact r
 have sq:dv K H2 lp ((t::ts).map V.ref):=dv.of Iz;have zz:ky ((t::ts).map V.ref) 0=some (V.ref t):=bD (j:=0) rfl
 lk
 cases p with
 |nil=>exact absurd rfl B9
 |cons z q=>
 refine⟨λX=>?_,λX=>?_⟩
 ·have hn:=(Hy G).mpr X;have d:Ac a=T7 (z::q):=by unfold Ac;rw[C,hn]
  by_cases g:lS (z::q)=true
  ·have F:(z::q).getD 0 0=1\/(z::q).getD 0 0=2:=cb g;have f:=Z g;obtain⟨z',O,p',ep,J⟩:=f.zz;have å:ky ((z::q).map V.int) 1=some (V.int O):=by rw[ep];exact bD (j:=1) rfl
   by_cases U:O=0
   ·lk
    exact n (by rw[d];exact au (λh=>h.2.1 (by rw[J];exact U))) _ i
   ·cases x:VX (z::q)with
    |true=>
     lk
     intro H3 D;have hz:VX (z::q)=true:=x;rw[x]
     lk
     exact k2 (z::q) (by rw[d];exact az ⟨g,by rw[J];exact U,x⟩) _ t (i.trans D) (D.nj S)
    |false=>
     lk
     intro H3 D;rw[x]
     lk
     exact n (by rw[d];exact au (λh=>by rw[x]at h;exact bj h.2.2)) _ (i.trans D)
  ·have F:¬((z::q).getD 0 0=1\/(z::q).getD 0 0=2):=λh=>g (aD h)
   lk
   exact n (by rw[d];exact au (λh=>g h.1)) _ i
 ·refine n ?_ H2 i;unfold Ac;rw[C];cases hd:a.drop I with
  |nil=>exact absurd ((Hy G).mp hd) X
  |cons y ys=>rfl
def Se (A:Ad) (K:ah):Sp:=λvs H Q _=>∃(a b d:ag) (p:List Int) (x:b8) (kvs:List (Key×V)),vs=[.ref a,.ref b,.ref d]/\gL K H a (p.map V.int)/\oU p/\bX A H b x/\H d=some (.dK kvs)/\
 ∀H' q,bt H H'->gL K H' q ((zr kvs x p).map V.int)->Q (.ref q) H'
def Ta:=show FO P w K mg base 5 _ _ _ (Se A K) by
 exists T.J4.gp SA
 obtain⟨a,b,d,p,x,i,rfl,j,⟨y,m⟩,D,hd,k⟩:=h;refine⟨_,(aq (aW (jP (PW.pt (Yw (iG (bN (oC T) hr T.oF T.mI.kp T.qU (aa (pv 0) ai))) (RI (ki (iG (bN (oO T) hr T.oP T.mi.kp T.qS (aa (pv 0) (aa (pv 1) (aa (pv 2) ai))))))))) (l0 rfl T.afj) (pv 0)))),?_⟩;cases p with
 |nil=>exact absurd rfl y
 |cons z q=>
  unfold zr at k;cases hr:lS (z::q)with
  |true=>
   have C:=m hr;have n:(z::q).getD 0 0=1\/(z::q).getD 0 0=2:=cb hr;rw[hr]at k;cases g:jH i (z::q) x with
   |true=>
    rw[g,au (by decide)]at k
    lk
    intro u e;rw[g]
    lk
    exact k _ a e (e.nj j)
   |false=>
    rw[g,az (by decide)]at k
    lk
    intro u e;rw[g]
    lk
    exact k _ _ e (T.aeU.sq _)
  |false=>
   have n:¬((z::q).getD 0 0=1\/(z::q).getD 0 0=2):=Kb hr;rw[hr,cq,au bj]at k;have o:=k H a (bt.refl H) j
   lk
   exact o
def K4 (kvs:List (Key×V)) (x:b8) (c:hW):hW:=if mU kvs c x=true then c else⟨1,c.parts.map (zr kvs x)⟩
def LU (A:Ad) (K:ah):Sp:=λvs H Q _=>∃(a b d:ag) (c:hW) (x:b8) (kvs:List (Key×V)),vs=[.ref a,.ref b,.ref d]/\nz A K H a c/\bX A H b x/\H d=some (.dK kvs)/\(c.kind=1->∀p∈c.parts,oU p)/\c.parts.length<=1000/\
 ∀H' q,bt H H'->nz A K H' q (K4 kvs x c)->Q (.ref q) H'
def MA:=show FO P w K mg base 6 _ _ _ (LU A K) by
 exists T.A5.gp pY
 obtain⟨a,b,d,c,x,g,rfl,M,U,hd,B,hn,k⟩:=h
 exists (aj (ee (iG (bN (rM T) hr T.rN T.mJ.kp T.uA (aa (pv 0) (aa (pv 1) (aa (pv 2) ai))))) (aq (aW (pv 0))) cv)
  (aq (aW (jy T.KN (uO T) hr T.KP T.xG (aa (bE rfl T.xc) (aa (oN (own:=[("part",3)]) rfl pY.nd (jO (aK T.ij T.jg (pv 0))) (jq rfl) (λ_ _ _ _ _=>(eC 3 pY.nd)) (λ_ _ _ _ _=>oA) (λ_ _ _ _ _=>(bN (Ta T) hr T.Tt T.J4.kp T.VZ (aa (pv 3) (aa (pv 1) (aa (pv 2) ai)))))) ai)))))),0
 intro J j;cases n:mU g c x with
 |true=>
  lk
  exact k J a j (by unfold K4;rw[n,az rfl];exact M.same j)
 |false=>
  have hk:c.kind=1:=ir λz=>by
   unfold mU at n;rw[au z]at n;cases n
  obtain⟨da,l,hc,ts,hl,S⟩:=M.same j;have sq:dv K J l (ts.map V.ref):=dv.of hl;have f:ts.length=c.parts.length:=eM S;have G:=U.same j;have LF:=j _ _ hd
  lk
  refine abA c.parts (zr g x) sq (by rw[ae];exact f) (λD i v p L hD u C h=>?_) (λD L hD Y e=>?_)
  ·rw[aV]at u;cases e:ts[i]? with
   |none=>rw[e]at u;cases u
   |some t=>
    rw[e]at u;obtain rfl:V.ref t=v:=ay u;have ľ:gL K L t (p.map V.int):=h.same.nj (f9 (F:=λt (p:List Int)=>gL K J t (p.map V.int)) S e C);have ñ:=B hk p (bI C);have Ç:=G.same h.same;have ë:=h.same _ _ LF
    lk
    intro H2 q y Z;exact h.next C y hn Z
  ·lk
   intro q X O I n3;refine⟨q,X,D,1,rfl,ao,λH2 e2 FW=>⟨rfl,?_⟩⟩;have y:bt L H2:=bt.made O I (λb o q m=>FW b o q (by simpa using m));refine k H2 q ((j.trans Y).trans y) ?_;rw[show K4 g x c=⟨1,c.parts.map (zr g x)⟩from au (by rw[n];exact bj)];exact⟨X,D,e2,e.same y⟩
def Oe (A:Ad):Sp:=λvs H Q _=>vs=[]/\y3 A H Q (je 0 0 0)
def Ai:=show FO P w K mg base 4 _ _ _ (Oe A) by
 exists T.uR.gp Ol
 obtain⟨rfl,k⟩:=h
 exists (aq (aW (bN (sF T) hr T.sH T.sN.kp T.wm (aa bc (aa bc (aa bc ai)))))),0
 exact k
def yL (f l s:Int):Nat:=(gB f (l+1) s).toNat
def jm (f place:Int) (a t:b8):List Int:=
 wC (t.first f+place - a.first f) (a.last f - a.first f+1) (yL (t.first f+place - a.first f) (t.last f) (a.last f - a.first f+1))
def Zk {f l s:Int} (O:0<=f) (I:f<=10000) (G:0<=l) (F:l<=4096) (B:1<=s) (q:s<=4096):RgC f (l+1) s (yL f l s)/\(yL f l s:Int)<=l+1:=by
 have a:gB f (l+1) s=(yL f l s:Int):=by
  unfold yL gB;rw[az (show s>0 by fail)];split
  ·have:0<=(l+1 - f - 1) / s:=apZ (by fail) (by fail);fail
  ·rfl
 have b:(yL f l s:Int)<=l+1:=by
  unfold yL gB;rw[az (show s>0 by fail)];split
  ·have:(l+1 - f - 1) / s<=l+1 - f - 1:=Int.ediv_le_self _ (by fail);fail
  ·show(0:Int)<=_;fail
 refine⟨⟨by fail,by fail,?_,a⟩,b⟩;unfold Wo;rw[a,az (show s>0 by fail)];simp only[atR,aC,so,aX];fail
def YG {x:b8}:x.on=true↔(0<=x.r0/\x.r0<=x.r1/\x.r1<=4095/\0<=x.c0/\x.c0<=x.c1/\x.c1<=255):=acF
def MW {x:b8} {r c:Int}:x.has r c=true↔(x.r0<=r/\r<=x.r1/\x.c0<=c/\c<=x.c1):=acF
def abx (i c:Int) (n:Nat):(wC i c n).length=n:=by unfold wC;rw[ae,uI]
def aby {x y:b8} {r c:Int} (B:x.on=true) (q:y.on=true) (h:x.has r c=true):(jm 0 r x y).length<=4096:=by
 rw[YG]at B q;rw[MW]at h;unfold jm;rw[abx];have:=(Zk (f:=y.r0+r - x.r0) (l:=y.r1) (s:=x.r1 - x.r0+1) (by omega) (by omega) (by omega) (by omega) (by omega) (by omega)).2;show yL (y.r0+r - x.r0) y.r1 (x.r1 - x.r0+1)<=4096;omega
def aiY {x y:b8} {r c:Int} (B:x.on=true) (q:y.on=true) (h:x.has r c=true):(jm 1 c x y).length<=256:=by
 rw[YG]at B q;rw[MW]at h;unfold jm;rw[abx];have:=(Zk (f:=y.c0+c - x.c0) (l:=y.c1) (s:=x.c1 - x.c0+1) (by omega) (by omega) (by omega) (by omega) (by omega) (by omega)).2;show yL (y.c0+c - x.c0) y.c1 (x.c1 - x.c0+1)<=256;omega
def oI (H:Hp) (ts:List ag) (ps:List (Int×Int)):Prop:=Paired (λt (p:Int×Int)=>H t=some (.tup [V.int p.1,V.int p.2])) ts ps
def oI.same {ps:List (Int×Int)} (h:oI H ts ps) (s:bt H H'):oI H' ts ps:=Paired.Rh h λ_ _ q=>s _ _ q
def oI.pairs {ps:List (Int×Int)} (h:oI H ts ps):yZ K H ts ps:=Paired.Rh h λ_ _ q=>.inl (.inl q)
def HQ (H:Hp) (l:ag) (ps:List (Int×Int)):Prop:=∃ts,H l=some (.lst (ts.map V.ref))/\oI H ts ps
def Oa (A:Ad):Sp:=λvs H Q _=>∃(way place:Int) (a t:ag) (x y:b8),vs=[.int way,.int place,.ref a,.ref t]/\bX A H a x/\bX A H t y/\
 (0<=y.first way+place - x.first way/\y.first way+place - x.first way<=10000/\0<=y.last way/\y.last way<=4095/\1<=x.last way - x.first way+1/\x.last way - x.first way+1<=4096)/\RS H Q (jm way place x y)
def Ah:=show FO P w K mg base 2 _ _ _ (Oa A) by
 exists T.uQ.gp sv
 obtain⟨d,place,a,t,x,y,rfl,g,e,⟨o,n,m,z,j,i⟩,k⟩:=h
 refine⟨_,(aj (bS 4 sv.nd (gi lP (gi kl (bx (pv 3) T.bC T.iZ (iY T) hr T.jr (aa (pv 0) ai)) (pv 1)) (bx (pv 2) T.bC T.iZ (iY T) hr T.jr (aa (pv 0) ai))))
  (aj (bS 5 sv.nd (gi kl (gi lP (bx (pv 2) T.bC T.ie (ic T) hr T.iU (aa (pv 0) ai)) (bx (pv 2) T.bC T.iZ (iY T) hr T.jr (aa (pv 0) ai))) bc))
  (aq (aW (YD rfl rfl T.RK rfl T.Tp (aa (pv 4) (aa (gi kl (bx (pv 3) T.bC T.ie (ic T) hr T.iU (aa (pv 0) ai)) bc) (aa (pv 5) ai)))))))),?_⟩
 obtain⟨dx,ex⟩:=id g;obtain⟨D,C⟩:=id e;obtain⟨p,u⟩:=Zk o n m (by omega) j i
 lk
 intro l b;exact k _ l (bt.new b) b ao
def Sd (A:Ad) (K:ah):Sp:=λvs H Q _=>∃(s a t:ag) (r c:Int) (x y:b8),vs=[.ref s,.ref a,.ref t]/\gL K H s [.int r,.int c]/\bX A H a x/\bX A H t y/\x.on=true/\y.on=true/\x.has r c=true/\RS H Q (jm 0 r x y)
def Fw:=show FO P w K mg base 3 _ _ _ (Sd A K) by
 exists T.zE.gp Sy
 obtain⟨g,a,t,r,c,x,y,rfl,n,m,i,d,b,e,k⟩:=h;refine⟨_,(aq (aW (bN (Ah T) hr T.Aq T.uQ.kp T.Ds (aa (bE rfl T.nP) (aa (cP fg (pv 0) bc) (aa (pv 1) (aa (pv 2) ai))))))),?_⟩;rw[YG]at d b;rw[MW]at e;have o:ky [V.int r,V.int c] 0=some (V.int r):=bD (j:=0) rfl
 have cond:0<=y.first 0+r - x.first 0/\y.first 0+r - x.first 0<=10000/\0<=y.last 0/\y.last 0<=4095/\1<=x.last 0 - x.first 0+1/\x.last 0 - x.first 0+1<=4096:=by
  show 0<=y.r0+r - x.r0/\y.r0+r - x.r0<=10000/\0<=y.r1/\y.r1<=4095/\1<=x.r1 - x.r0+1/\x.r1 - x.r0+1<=4096;fail
 lk
 exact k
def LV (A:Ad) (K:ah):Sp:=λvs H Q _=>∃(s a t:ag) (r c:Int) (x y:b8),vs=[.ref s,.ref a,.ref t]/\gL K H s [.int r,.int c]/\bX A H a x/\bX A H t y/\x.on=true/\y.on=true/\x.has r c=true/\RS H Q (jm 1 c x y)
def yy:=show FO P w K mg base 3 _ _ _ (LV A K) by
 exists T.sM.gp L4
 obtain⟨g,a,t,r,c,x,y,rfl,n,m,i,d,b,e,k⟩:=h;refine⟨_,(aq (aW (bN (Ah T) hr T.Aq T.uQ.kp T.Ds (aa (bE rfl T.OM) (aa (cP fg (pv 0) bc) (aa (pv 1) (aa (pv 2) ai))))))),?_⟩;rw[YG]at d b;rw[MW]at e;have o:ky [V.int r,V.int c] 1=some (V.int c):=bD (j:=1) rfl
 have cond:0<=y.first 1+c - x.first 1/\y.first 1+c - x.first 1<=10000/\0<=y.last 1/\y.last 1<=4095/\1<=x.last 1 - x.first 1+1/\x.last 1 - x.first 1+1<=4096:=by
  show 0<=y.c0+c - x.c0/\y.c0+c - x.c0<=10000/\0<=y.c1/\y.c1<=4095/\1<=x.c1 - x.c0+1/\x.c1 - x.c0+1<=4096;fail
 lk
 exact k
def Cb (x y:b8) (p:Int×Int):Int:=((jm 0 p.1 x y).length:Int) * ((jm 1 p.2 x y).length:Int)
def QP (A:Ad) (K:ah):Sp:=λvs H Q _=>∃(l a t:ag) (ps:List (Int×Int)) (x y:b8),vs=[.ref l,.ref a,.ref t]/\HQ H l ps/\bX A H a x/\bX A H t y/\x.on=true/\y.on=true/\(∀p∈ps,x.has p.1 p.2=true)/\ps.length<=20000/\
 ∀H',bt H H'->Q (.int (ps.map (Cb x y)).sum) H'
def Q5:=show FO P w K mg base 4 _ _ _ (QP A K) by
 exists T.G8.gp uL
 obtain⟨l,a,t,ps,x,y,rfl,⟨ts,Y,n⟩,I,G,f,X,z,U,k⟩:=h;refine⟨_,(aq (aW (cG (ajR rfl) rfl T.aiK ajX (aa (oN (own:=[("spot",3)]) rfl uL.nd (jO (pv 0)) (jq rfl) (λ_ _ _ _ _=>(eC 3 uL.nd)) (λ_ _ _ _ _=>oA) (λ_ _ _ _ _=>(gi adA (cG (JY (K:=K)) rfl T.jG jI (aa (bN (Fw T) hr T.FH T.zE.kp T.J1 (aa (pv 3) (aa (pv 1) (aa (pv 2) ai)))) ai)) (cG (JY (K:=K)) rfl T.jG jI (aa (bN (yy T) hr T.yD T.sM.kp T.AW (aa (pv 3) (aa (pv 1) (aa (pv 2) ai)))) ai))))) ai)))),?_⟩;have sq:dv K H l (ts.map V.ref):=dv.of Y;have o:ts.length=ps.length:=eM n
 lk
 refine MP ps (λ_=>true) (λp=>V.int (Cb x y p)) sq (by rw[ae];exact o) (λD i v p g hD b m h=>?_) (λD g hD O e=>?_)
 ·rw[aV]at b;cases e:ts[i]? with
  |none=>rw[e]at b;cases b
  |some q=>
   rw[e]at b;obtain rfl:V.ref q=v:=ay b;have u:gL K g q [V.int p.1,V.int p.2]:=.inl (.inl (h.same _ _ (f9 (F:=λt (p:Int×Int)=>H t=some (.tup [V.int p.1,V.int p.2])) n e m)));have Z:=z p (bI m);have C:=I.same h.same;have j:=G.same h.same
   lk
   intro H2 S d n2 e2;have aBy:=d.nj u;have Ζ:=C.same d;have B:=j.same d;have J:dv K H2 S ((jm 0 p.1 x y).map V.int):=dv.of e2
   lk
   intro H3 M L n3 e3;have ī:dv K H3 M ((jm 1 p.2 x y).map V.int):=dv.of e3
   lk
   refine⟨oY ⟨?_,?_⟩,?_⟩
   ·omega
   ·rw[ae];have:=aby f X Z;omega
   ·rw[ae,ae];exact h.next m rfl (d.trans L) (dY (oK U)) rfl
 ·rw[cD.mpr (λ_ _=>rfl)]at e;have J:dv K g D ((ps.map (Cb x y)).map V.int):=dv.of (by rw[e,bq];rfl)
  lk
  exact k g O
def oI.lst {ps:List (Int×Int)} {l:ag} (h:oI H ts ps) (f:H l=some (.lst xs)):oI (bB H l o) ts ps:=Paired.Rh h λt p q=>by
 rw[aw (λz=>by rw[z,f]at q;cases q)];exact q
theorem S5 {α B:Type} {F:α->B->Prop} {xs q:List α} {ys f:List B} (h:Paired F xs ys) (s:Paired F q f):Paired F (xs++q) (ys++f):=by
 induction h with
 |nil=>exact s
 |cons r _ i=>exact .cons r i
structure LcP {δ:Type} (H1:Hp) (D:ag) (ds:List δ) (f:δ->Int×Int) (i:Nat) (H:Hp):Prop where
 free:H1 D=none
 same:bt H1 H
 acc:HQ H D ((ds.take i).map f)
def LcP.next {B:Type} {G H H4:Hp} {D q:ag} {ds:List B} {f:B->Int×Int} {i:Nat} {x:B} (h:LcP G D ds f i H) (F:ds[i]? =some x) (s:bt H H4) (O:ds.length<=20000) (I:H4 q=some (.tup [V.int (f x).1,V.int (f x).2])):jJ D (LcP G D ds f (i+1)) (.ref q) H4:=by
 obtain⟨ts,e,a⟩:=h.acc;have m:=(aQ.mp F).1
 have l:ts.length=i:=by
  have j:=eM a;rw[ae,b7]at j;fail
 have g:=s _ _ e;refine FV ⟨_,g,?_,h.free,λb o d=>?_,ts++[q],?_,?_⟩
 ·rw[ae];exact oK (by fail)
 ·rw[aw (bp d h.free)];exact s _ _ (h.same _ _ d)
 ·rw[ao,aT];rfl
 ·rw[take_one F,aT];exact oI.lst (tP (a.same s) I) g
def EU (x y:b8) (r c:Int):List (Int×Int):=(jm 0 r x y).flatMap λi=>(jm 1 c x y).map λj=>(i,j)
def QM (A:Ad) (K:ah):Sp:=λvs H Q _=>∃(s a t:ag) (r c:Int) (x y:b8),vs=[.ref s,.ref a,.ref t]/\gL K H s [.int r,.int c]/\bX A H a x/\bX A H t y/\x.on=true/\y.on=true/\x.has r c=true/\
 ∀H' q,bt H H'->H q=none->HQ H' q (EU x y r c)->Q (.ref q) H'
theorem N8 {f:Int->List (Int×Int)} (q:∀i,(f i).length=n):∀(l:List Int),(l.flatMap f).length=l.length * n
 |[]=>by simp
 |z::l=>by rw[gJ,aI,N8 q l,q,ak,ahH];omega
def Q2:=show FO P w K mg base 4 _ _ _ (QM A K) by
 exists T.G1.gp jK
 obtain⟨s0,a,t,r,c,x,y,rfl,hs,hx,hy,ox,oy,hh,k⟩:=h
 exists (aj (bS 3 jK.nd (bN (yy T) hr T.yD T.sM.kp T.AW (aa (pv 0) (aa (pv 1) (aa (pv 2) ai)))))
  (aj (bS 4 jK.nd (di ai))
  (aj (j8 BC rfl (jO (bN (Fw T) hr T.FH T.zE.kp T.J1 (aa (pv 0) (aa (pv 1) (aa (pv 2) ai))))) (eC (i:=5) jK.nd rfl (EK rfl))
  (aq (cC (CW cV fF fE mB (pv 4) (aa (oN (own:=[("column",6)]) rfl jK.nd (jO (pv 3)) (jq rfl) (λ_ _ _ _ _=>(eC 6 jK.nd)) (λ_ _ _ _ _=>oA) (λ_ _ _ _ _=>(YB (aa (pv 5) (aa (pv 6) ai))))) ai)))))
  (aq (aW (pv 4)))))),0
 intro H1 J C n1 e1;have lr:=aby ox oy hh;have lc:=aiY ox oy hh;have TU:=C.nj hs;have ç:=hx.same C;have hy1:=hy.same C
 lk
 intro q S;have F:=C.bB (o:=.lst []) S;have W4:=F.nj hs;have Ζ:=hx.same F;have hy2:=hy.same F
 have M:H q=none:=by
  cases z:H q with
  |none=>rfl
  |some o=>rw[C _ _ z]at S;cases S
 have e2:(bB H1 q (.lst [])) q=some (.lst []):=ao;have ec2:(bB H1 q (.lst [])) J=some (.lst ((jm 1 c x y).map V.int)):=by rw[aw (bp e1 S)];exact e1
 lk
 intro H3 qr Z n3 e3;have ī:dv K H3 qr ((jm 0 r x y).map V.int):=dv.of e3
 lk
 refine pw (xs:=(jm 0 r x y).map V.int) (λi B d=>Eo (∃I,B=[some (.ref s0),some (.ref a),some (.ref t),some (.ref J),some (.ref q),I,none]/\bt H d/\d qr=some (.lst ((jm 0 r x y).map V.int))/\d J=some (.lst ((jm 1 c x y).map V.int))/\HQ d q (((jm 0 r x y).take i).flatMap λi=>(jm 1 c x y).map λj=>(i,j))))
  ⟨⟨_,rfl,F.trans Z,e3,Z _ _ ec2,[],Z _ _ e2,.nil⟩⟩ (λi B d _ ⟨⟨_,_,_,e,_⟩⟩=>dv.of e) ?_ ?_
 ·rintro i z B d hz ⟨⟨I,rfl,Y,X,m,ts,f,u⟩⟩
  obtain⟨ri,rfl,L⟩:=RM hz;have hi:=(aQ.mp L).1;have U:dv K d J ((jm 1 c x y).map V.int):=dv.of m;have sqq:dv K d q (ts.map V.ref):=dv.of f
  lk
  refine MO (xs:=(jm 1 c x y).map V.int) (λD=>LcP d D (jm 1 c x y) (λj=>(ri,j))) (λD G=>⟨G,bt.new G,[],ao,.nil⟩) (λD i H h=>h.same.seq U) (λD j v H5 G hv h=>?_) (λD H5 G h=>?_)
  ·obtain⟨cj,rfl,hcj⟩:=RM hv
   lk
   intro p hp;exact h.next hcj (bt.new hp) (by fail) ao
  ·obtain⟨O,eD,g⟩:=h.acc;rw[ae,de]at g;have hul:=eM g;rw[ae]at hul;have Ý:=h.same _ _ f;have sqD:dv K H5 D (O.map V.ref):=dv.of eD;have htl:=eM u;rw[N8 (n:=(jm 1 c x y).length) (λi=>ae ..),b7]at htl;have μ:(min i (jm 0 r x y).length) * (jm 1 c x y).length<=4096 * 256:=Nat.mul_le_mul (by fail) lc
   have hz:(ts.map V.ref).length+(O.map V.ref).length<=sizeLine:=by
    rw[ae,ae];exact Bl (by fail)
   have nqr:qr≠q:=λz=>by
    rw[z]at n3;rw[e2]at n3;cases n3
   have nqc:J≠q:=bp e1 S
   lk
   refine⟨⟨_,rfl,λb o eb=>?_,?_,?_,ts++O,?_,?_⟩⟩
   ·rw[aw (bp eb M)];exact h.same _ _ (Y _ _ eb)
   ·rw[aw nqr];exact h.same _ _ X
   ·rw[aw nqc];exact h.same _ _ m
   ·rw[ao,aT]
   ·rw[take_one L,gE];refine oI.lst (S5 (u.same h.same) ?_) Ý;rw[uE];exact g
 ·rintro B d ⟨⟨I,rfl,Y,X,m,ts,f,u⟩⟩
  rw[ae,de]at u
  lk
  exact k d q Y M ⟨ts,f,u⟩
def DW:HO->Prop
 |.dK _=>True
 |.dT _=>True
 |.ins _ _ fs=>fs.length=3
 |.gb _ u=>DW u
 |_=>False
def iC (H:Hp) (S:List ag):Prop:=∀a∈S,∀o,H a=some o->DW o
def afp {a:ag} (k:cJ S H H') (f:iC H S) (q:¬DW u) (h:Rd H a u):Rd H' a u:=by
 rcases h with h|⟨o,h⟩
 ·exact .inl (k _ _ h (λm=>q (f a m _ h)))
 ·exact .inr ⟨o,k _ _ h (λm=>q (show DW u from f a m (.gb o u) h))⟩
def T3 {a:ag} (k:cJ S H H') (f:iC H S) (h:dv K H a xs):dv K H' a xs:=by
 rcases h with h|h
 ·exact .inl (afp k f (λz=>z) h)
 ·exact .inr h
def vS {a:ag} (k:cJ S H H') (f:iC H S) (h:gL K H a xs):gL K H' a xs:=by
 rcases h with h|h
 ·exact .inl (afp k f (λz=>z) h)
 ·exact .inr h
def F8 {a:ag} (k:cJ S H H') (f:iC H S) (h:H a=some (.lst xs)):H' a=some (.lst xs):=k _ _ h (λm=>f a m _ h)
def T2 {a:ag} (k:cJ S H H') (f:iC H S) (h:H a=some (.tup xs)):H' a=some (.tup xs):=k _ _ h (λm=>f a m _ h)
def K2 {a:ag} {fs:List (Str×V)} (k:cJ S H H') (f:iC H S) (q:fs.length≠3) (h:H a=some (.ins C dx fs)):H' a=some (.ins C dx fs):=k _ _ h (λm=>q (f a m _ h))
def ajw {l:ag} {ps:List (List Int)} (k:cJ S H H') (f:iC H S) (h:qW K H l ps):qW K H' l ps:=let⟨ts,e,t⟩:=h;⟨ts,F8 k f e,t.mono λ_ _ q=>vS k f q⟩
def qo {a:ag} {c:hW} (k:cJ S H H') (f:iC H S) (h:nz A K H a c):nz A K H' a c:=let⟨dx,l,e,t⟩:=h;⟨dx,l,K2 k f (iD rfl) e,ajw k f t⟩
def oH {a:ag} (k:cJ S H H') (f:iC H S) (h:bX A H a x):bX A H' a x:=let⟨dx,e⟩:=h;⟨dx,K2 k f (iD rfl) e⟩
def T4 {a:ag} (k:cJ S H H') (f:iC H S) (h:uS A H a ch):uS A H' a ch:=by
 cases ch with
 |put=>obtain⟨dx,b,e,h⟩:=h;exact⟨dx,b,K2 k f (iD rfl) e,oH k f h⟩
 |del=>obtain⟨dx,b,e,h⟩:=h;exact⟨dx,b,K2 k f (iD rfl) e,oH k f h⟩
 |mov=>obtain⟨dx,b,c,e,h,d⟩:=h;exact⟨dx,b,c,K2 k f (iD rfl) e,oH k f h,oH k f d⟩
 |KU=>obtain⟨dx,e⟩:=h;exact⟨dx,K2 k f (iD rfl) e⟩
def asL {r:ag} {pos:Nat} (k:cJ S H H') (f:iC H S) (h:iI A K H r tl told pos):iI A K H' r tl told pos:=let⟨dx,e,l,p⟩:=h;⟨dx,K2 k f (iD rfl) e,T3 k f l,p⟩
def iC.one (h:H d=some u) (hd:DW u):iC H [d]:=λa b o e=>by
 obtain rfl:=br.mp b;rw[h]at e;cases e;exact hd
def eO:cJ [d] H (bB H d o):=λb u e n=>by rw[aw (by simpa using n)];exact e
def fY.fp {w:ag} (h:fY A K H w m):∀a∈rj w m,∃o,H a=some o/\DW o:=by
 intro a b;unfold rj at b;rcases aY.mp b with rfl|b
 ·exact⟨_,h.ob,rfl⟩
 rcases aY.mp b with rfl|b
 ·exact⟨_,h.ti,trivial⟩
 rcases aY.mp b with rfl|b
 ·exact⟨_,h.ce,trivial⟩
 rcases aY.mp b with rfl|b
 ·exact⟨_,h.na,trivial⟩
 obtain⟨s,d,rfl⟩:=aG.mp b;exact⟨_,h.sh s d,trivial⟩
def fY.D5 {w:ag} (h:fY A K H w m):iC H (rj w m):=λa g o e=>by
 obtain⟨u,b,d⟩:=h.fp a g;rw[e]at b;cases b;exact d
def fY.other {w:ag} (h:fY A K H w m) (k:cJ S H H') (f:iC H S) (q:∀a∈rj w m,a∉S):fY A K H' w m:=by
 have b:∀{a:ag},a∈[w,m.dt,m.dc,m.dn]->a∉S:=fun {a} g=>q a (by unfold rj;simp only[aY,Vg,az5]at g⊢;rcases g with rfl|rfl|rfl|rfl<;>simp)
 refine⟨k _ _ h.ob (b (by simp)),k _ _ h.ti (b (by simp)),λt j=>F8 k f (h.tl t j),k _ _ h.ce (b (by simp)),λs d=>k _ _ (h.sh s d) (q _ ?_),λs d e l=>qo k f (h.co s d e l),k _ _ h.na (b (by simp)),λn i=>vS k f (h.nl n i),h.nd⟩;unfold rj;exact aL _ (aL _ (aL _ (aL _ (bu d))))
structure iV (A:Ad) (K:ah) (H H':Hp) (w:ag) (m m':mV):Prop where
 keep:cJ (rj w m) H H'
 at_:fY A K H' w m'
 fp:∀a∈rj w m',a∈rj w m\/H a=none
 dom:∀a o,H a=some o->∃o',H' a=some o'
def ow {a:ag} (e:H a=some o):∃o',bB H d x a=some o':=by
 by_cases q:a=d
 ·rw[q];exact⟨x,ao⟩
 ·rw[aw q];exact⟨o,e⟩
def iV.free {w a:ag} (s:iV A K H H' w m m') (h:H' a=none):H a=none:=by
 cases z:H a with
 |none=>rfl
 |some o=>
  obtain⟨b,e⟩:=s.dom a o z;rw[h]at e;cases e
def fY.step {w:ag} (h:fY A K H w m) (s:bt H H'):iV A K H H' w m m:=⟨cJ.same s,h.same s,λa b=>.inl b,λa o e=>⟨o,s _ _ e⟩⟩
def none_of {a:ag} (s:bt H H') (h:H' a=none):H a=none:=by
 cases z:H a with
 |none=>rfl
 |some o=>rw[s _ _ z]at h;cases h
def iV.trans {w:ag} (B:fY A K H w m) (a:iV A K H H1 w m m1) (b:iV A K H1 H2 w m1 f):iV A K H H2 w m f where
 keep:=λc o e n=>b.keep c o (a.keep c o e n) (λz=>by
  rcases a.fp c z with y|y
  ·exact n y
  ·rw[e]at y;cases y)
 at_:=b.at_
 fp:=λc h=>by
  rcases b.fp c h with y|y
  ·exact a.fp c y
  ·refine ir λq=>?_
   have d:c∉rj w m:=λz=>q (.inl z)
   cases z:H c with
   |none=>exact q (.inr z)
   |some o=>rw[a.keep c o z d]at y;cases y
 dom:=λc o e=>let⟨g,i⟩:=a.dom c o e;b.dom c g i
def iV.none {w a:ag} (q:fY A K H w m) (s:iV A K H H1 w m m1) (h:H1 a=none) (f:a∉rj w m):H a=DC:=by
 cases z:H a with
 |none=>rfl
 |some o=>rw[s.keep _ _ z f]at h;cases h
def cR (cs:List Sh) (d:ag) (es:List Ent):List Sh:=cs.map λs=>if s.2.1=d then(s.1,s.2.1,es)else s
def Sw (cs:List Sh) (d:ag) (es:List Ent):(cR cs d es).map (·.1)=cs.map (·.1):=by
 unfold cR;rw[bq];refine cW λs _=>?_
 show(if s.2.1=d then(s.1,s.2.1,es)else s).1=s.1;split<;>rfl
def WE (cs:List Sh) (d:ag) (es:List Ent):(cR cs d es).map (·.2.1)=cs.map (·.2.1):=by
 unfold cR;rw[bq];refine cW λs _=>?_
 show(if s.2.1=d then(s.1,s.2.1,es)else s).2.1=s.2.1;split<;>rfl
def Ht (cs:List Sh) (d:ag) (es:List Ent):rk (cR cs d es)=rk cs:=by
 unfold rk cR;rw[bq];refine cW λs _=>?_
 show((bh ((if s.2.1=d then(s.1,s.2.1,es)else s).1:Int):Key),V.ref (if s.2.1=d then(s.1,s.2.1,es)else s).2.1)=_;split<;>rfl
def HC (h:s∈cR cs d es):(s.2.1≠d/\s∈cs)\/(s.2.1=d/\s.2.2=es/\∃f∈cs,f.1=s.1/\f.2.1=d):=by
 unfold cR at h;obtain⟨f,a,rfl⟩:=aG.mp h;by_cases e:f.2.1=d
 ·rw[az e];exact .inr ⟨e,rfl,f,a,rfl,e⟩
 ·rw[au e];exact .inl ⟨e,a⟩
def Sx (h:s∈cs):(s.1,s.2.1,es)∈cR cs s.2.1 es:=aG.mpr ⟨s,h,az rfl⟩
def mV.cR (m:mV) (d:ag) (es:List Ent):mV:={m with cs:=CS.cR m.cs d es}
def wD (w:ag) (m:mV) (d:ag) (es:List Ent):rj w (m.cR d es)=rj w m:=by
 unfold rj mV.cR;dsimp only;rw[WE]
structure zJ (A:Ad) (K:ah) (H:Hp) (dc:ag) (cs:List Sh):Prop where
 ce:H dc=some (.dK (rk cs))
 sh:∀s∈cs,H s.2.1=some (.dT (jz s.2.2))
 co:∀s∈cs,∀e∈s.2.2,nz A K H e.2.1 e.2.2
 nd:(dc::cs.map (·.2.1)).Nodup
def zJ.same (h:zJ A K H dc cs) (s:bt H H'):zJ A K H' dc cs where
 ce:=s _ _ h.ce
 sh:=λx a=>s _ _ (h.sh x a)
 co:=λx a e b=>(h.co x a e b).same s
 nd:=h.nd
def zJ.cR (h:zJ A K H dc cs) (B:s∈cs) (F:∀e∈es,nz A K H e.2.1 e.2.2):zJ A K (bB H s.2.1 (.dT (jz es))) dc (CS.cR cs s.2.1 es)where
 ce:=by
  rw[Ht,aw (λq=>(bR.mp h.nd).1 (by rw[q];exact bu B))];exact h.ce
 sh:=λx a=>by
  rcases HC a with⟨n,a⟩|⟨e,d,_⟩
  ·rw[aw n];exact h.sh x a
  ·rw[e,ao,d]
 co:=λx a e b=>by
  have f:=iC.one (h.sh s B) trivial;rcases HC a with⟨n,a⟩|⟨g,d,_⟩
  ·exact qo eO f (h.co x a e b)
  ·rw[d]at b;exact qo eO f (F e b)
 nd:=by rw[WE];exact h.nd
def fY.cs {w:ag} (h:fY A K H w m):zJ A K H m.dc m.cs where
 ce:=h.ce
 sh:=h.sh
 co:=h.co
 nd:=by
  have:=h.nd;unfold rj at this;have d:=(bR.mp (bR.mp this).2).2;obtain⟨a,b⟩:=bR.mp d;exact bR.mpr ⟨λq=>a (aL _ q),(bR.mp b).2⟩
def fY.cR {w:ag} (h:fY A K H w m) (B:s∈m.cs) (F:∀e∈es,nz A K H e.2.1 e.2.2):iV A K H (bB H s.2.1 (.dT (jz es))) w m (m.cR s.2.1 es):=by
 have c:=h.cs.cR B F;obtain⟨J,E,D,C,z,y,g,x⟩:=vj h.nd;obtain⟨l,j,L,i⟩:=g s B;have f:=iC.one (h.sh s B) trivial;refine⟨λb o e n=>?_,⟨?_,?_,?_,c.ce,c.sh,c.co,?_,?_,?_⟩,λa d=>.inl ?_,λa o e=>ow e⟩
 ·rw[aw (λq=>n (by rw[q];unfold rj;exact aL _ (aL _ (aL _ (aL _ (bu B))))))];exact e
 ·rw[aw l];exact h.ob
 ·rw[show(m.cR s.2.1 es).dt=m.dt from rfl,aw j];exact h.ti
 ·exact λt p=>F8 eO f (h.tl t p)
 ·rw[show(m.cR s.2.1 es).dn=m.dn from rfl,aw i];exact h.na
 ·exact λn u=>vS eO f (h.nl n u)
 ·rw[wD];exact h.nd
 ·rw[wD]at d;exact d
def Xe (s:Sh) (cs:List Sh):fu (s::cs)=(s.2.2.map λe=>(⟨s.1,e.1.1,e.1.2⟩,e.2.2))++fu cs:=gJ
def mE (k:Nat) (e:Ent):bP×hW:=(⟨k,e.1.1,e.1.2⟩,e.2.2)
def aij (h:d∉cs.map (·.2.1)):cR cs d es=cs:=by
 unfold cR;refine(cW (g:=id) λs a=>?_).trans (zg _);rw[au (λq=>h (by rw[<-q];exact bu a))];rfl
def Bn (B:(cs.map (·.2.1)).Nodup) (f:s∈cs):cR cs s.2.1 s.2.2=cs:=by
 unfold cR;refine(cW (g:=id) λx m=>?_).trans (zg _);by_cases e:x.2.1=s.2.1
 ·rw[az e]
  have:x=s:=by
   have b:=dm.mp B;refine ir λne=>?_
   rcases oJ.mp m with⟨i,l,rfl⟩;rcases oJ.mp f with⟨j,d,rfl⟩;have a:i≠j:=λq=>ne (by subst q;rfl)
   rcases Ry a with h|h
   ·exact gs.mp b i j l d h e
   ·exact gs.mp b j i d l h e.symm
  rw[this];rfl
 ·rw[au e];rfl
def K3 (B:(cs.map (·.2.1)).Nodup) (F:(cs.map (·.1)).Nodup) (f:s∈cs):∃rest:List (bP×hW),(∀y∈rest,y.1.sheet≠s.1)/\∀es,(fu (cR cs s.2.1 es)).Perm (es.map (mE s.1)++rest):=by
 induction cs with
 |nil=>cases f
 |cons x cs l=>
  obtain⟨b,i⟩:=bR.mp B;obtain⟨g,j⟩:=bR.mp F;rcases aY.mp f with rfl|f
  ·refine⟨fu cs,λy a q=>?_,λes=>?_⟩
   ·obtain⟨c,d⟩:=y;obtain⟨p,o,e,_⟩:=FP.mp a;exact g (by show s.1∈cs.map (·.1);rw[<-q,<-e];exact bu o)
   ·have e:cR (s::cs) s.2.1 es=(s.1,s.2.1,es)::cs:=by
     show(if s.2.1=s.2.1 then(s.1,s.2.1,es)else s)::cR cs s.2.1 es=_;rw[az rfl,aij b]
    rw[e,Xe];exact Vb _
  ·obtain⟨rest,n,m⟩:=l i j f;have ne:x.2.1≠s.2.1:=λq=>b (by show x.2.1∈cs.map (·.2.1);rw[q];exact bu f)
   have h:x.1≠s.1:=λq=>g (by show x.1∈cs.map (·.1);rw[q];exact bu f)
   refine⟨x.2.2.map (mE x.1)++rest,λy a=>?_,λes=>?_⟩
   ·rcases bL.mp a with a|a
    ·obtain⟨e,_,rfl⟩:=aG.mp a;exact h
    ·exact n y a
   ·have e:cR (x::cs) s.2.1 es=x::cR cs s.2.1 es:=by
     show(if x.2.1=s.2.1 then(x.1,x.2.1,es)else x)::cR cs s.2.1 es=_;rw[au ne]
    rw[e,Xe];exact(EC _ (m es)).trans (List.perm_append_comm_assoc _ _ _)
def Rep.split (r:Rep b m) (q:(m.cs.map (·.2.1)).Nodup) (f:s∈m.cs):∃rest:List (bP×hW),(∀y∈rest,y.1.sheet≠s.1)/\(cellsOf b).Perm (s.2.2.map (mE s.1)++rest)/\∀es,(fu (cR m.cs s.2.1 es)).Perm (es.map (mE s.1)++rest):=by
 obtain⟨rest,d,a⟩:=K3 q r.cn f;refine⟨rest,d,?_,a⟩;have:=a s.2.2;rw[Bn q f]at this;exact r.cp.symm.trans this
def Rep.cR (r:Rep b m) (B:s∈m.cs) {cl:List (bP×cE)} (q:(es.map (·.1)).Nodup) (f:(fu (CS.cR m.cs s.2.1 es)).Perm (cl.map λx=>(x.1,cY x.2))):Rep {b with cells:=cl} (m.cR s.2.1 es)where
 tn:=r.tn
 tb:=r.tb
 ti:=r.ti
 tk:=r.tk
 cn:=by
  show((CS.cR m.cs s.2.1 es).map (·.1)).Nodup;rw[Sw];exact r.cn
 ck:=λk=>by
  show k∈(CS.cR m.cs s.2.1 es).map (·.1)↔_;rw[Sw];exact r.ck k
 en:=λx a=>by
  rcases HC a with⟨_,a⟩|⟨_,e,_⟩
  ·exact r.en x a
  ·rw[e];exact q
 cp:=f
 nm:=r.nm
def d9 (kvs:List (Key×V)) (xs:List b8):Int:=if xs.all b8.on=true then(if(xs.all λx=>(gF kvs (bh x.sheet)).isSome)=true then 0 else -2)else -1
def za (A:Ad) (H:Hp) (f:List ag) (xs:List b8):Prop:=Paired (λa x=>bX A H a x) f xs
def HZ (A:Ad) (K:ah):Sp:=λvs H Q _=>∃(w l:ag) (m:mV) (a:List ag) (xs:List b8),vs=[.ref w,.ref l]/\fY A K H w m/\H l=some (.lst (a.map V.ref))/\za A H a xs/\xs.length<=10/\
 ∀H',bt H H'->Q (.int (d9 (gY m.ts) xs)) H'
def dE:=show FO P w K mg base 2 _ _ _ (HZ A K) by
 exists T.wb.gp fe
 obtain⟨w,l,m,y,xs,rfl,h,U,L,hn,k⟩:=h
 refine⟨_,(aj (ee (ki (iG (cG (OW rfl) rfl T.OG O0 (aa (oN (own:=[("area",2)]) rfl fe.nd (jO (pv 1)) (jq rfl) (λ_ _ _ _ _=>(eC 2 fe.nd)) (λ_ _ _ _ _=>oA) (λ_ _ _ _ _=>(fA (pv 2) T.bC T.vg (ve T) hr T.xI))) ai)))) (aq (aW (bE rfl T.FJ))) cv)
  (aq (aW (jP (iG (cG (OW rfl) rfl T.OG O0 (aa (oN (own:=[("area",2)]) rfl fe.nd (jO (pv 1)) (jq rfl) (λ_ _ _ _ _=>(eC 2 fe.nd)) (λ_ _ _ _ _=>oA) (λ_ _ _ _ _=>(ady (aiB (iu hr) (aK T.bC T.du (pv 2)) (aK T.aF T.cA (pv 0)))))) ai))) (bE rfl T.i8) (bE rfl T.Au))))),?_⟩
 have sq:dv K H l (y.map V.ref):=dv.of U;have f:y.length=xs.length:=eM L;have F4:=h.ob;have I:=h.ti
 lk
 refine MP xs (λ_=>true) (λx=>V.bl x.on) sq (by rw[ae];exact f) (λD i v x z Y b n g=>?_) (λD z Y j e=>?_)
 ·rw[aV]at b;cases e:y[i]? with
  |none=>rw[e]at b;cases b
  |some q=>
   rw[e]at b;obtain rfl:V.ref q=v:=ay b;have J:bX A z q x:=(f9 (F:=λa x=>bX A H a x) L e n).same g.same;obtain⟨Z,eq⟩:=id J
   lk
   exact g.next n rfl (bt.refl _) (dY (dO (by omega))) rfl
 ·rw[cD.mpr (λ_ _=>rfl)]at e;have Å:dv K z D ((xs.map b8.on).map V.bl):=dv.of (by rw[e,bq];rfl);have C:=j.seq sq;have O:=j _ _ F4;have S:=j _ _ I
  lk
  ·rename_i o
   rw[all_map]at o;have X:xs.all b8.on=false:=by simpa using o
   have d:=k z j;unfold d9 at d;rw[X]at d;exact d
  ·rename_i o
   rw[all_map]at o;have X:xs.all b8.on=true:=by simpa using o
   refine MP xs (λ_=>true) (λx=>V.bl (gF (gY m.ts) (bh x.sheet)).isSome) C (by rw[ae];exact f) (λG i v x u M b n g=>?_) (λG u M W4 B=>?_)
   ·rw[aV]at b;cases e:y[i]? with
    |none=>rw[e]at b;cases b
    |some q=>
     rw[e]at b;obtain rfl:V.ref q=v:=ay b;have J:bX A u q x:=((f9 (F:=λa x=>bX A H a x) L e n).same j).same g.same;obtain⟨Z,eq⟩:=id J;have D0:=g.same _ _ O;have hg:jt u m.dt (.int x.sheet) (gF (gY m.ts) (bh x.sheet)):=jt.k (k:=bh x.sheet) (g.same _ _ S)
     lk
     exact g.next n rfl (bt.refl _) (dY (dO (by omega))) rfl
   ·rw[cD.mpr (λ_ _=>rfl)]at B;have ī:dv K u G ((xs.map λx=>(gF (gY m.ts) (bh x.sheet)).isSome).map V.bl):=dv.of (by rw[B,bq];rfl);have d:=k u (j.trans W4);unfold d9 at d;rw[X,az rfl]at d
    lk
    ·rename_i p
     rw[all_map]at p;rw[p]at d;exact d
    ·rename_i p
     rw[all_map]at p;rw[p]at d;exact d
def ipE (e:Ent):Int×Int:=((e.1.1:Int),(e.1.2:Int))
def lF (x:b8) (e:Ent):Bool:=x.has (e.1.1:Int) (e.1.2:Int)
def QL (A:Ad) (K:ah):Sp:=λvs H Q _=>∃(w a:ag) (m:mV) (sh:Sh) (x:b8),vs=[.ref w,.ref a]/\fY A K H w m/\bX A H a x/\sh∈m.cs/\x.sheet=(sh.1:Int)/\gF (rk m.cs) (bh (sh.1:Int))=some (.ref sh.2.1)/\sh.2.2.length<=20000/\
 ∀H' q,bt H H'->H q=none->HQ H' q ((sh.2.2.filter (lF x)).map ipE)->Q (.ref q) H'
def fj:=show FO P w K mg base 2 _ _ _ (QL A K) by
 exists T.A6.gp jW
 obtain⟨w,a,m,sh,x,rfl,h,Z,S,F,U,hn,k⟩:=h;refine⟨_,(aq (aW (YC (oN (own:=[("spot",2)]) rfl jW.nd (Mv (l4 (iu hr) (aK T.aF T.cT (pv 0)) (aK T.bC T.du (pv 1)) (λ_ _=>rfl))) (jq rfl) (λ_ _ _ _ _=>(eC 2 jW.nd)) (λ_ _ _ _ _=>(Yy (iG (bx (pv 1) T.bC T.abu (aa8 T) hr T.aet (aa (cP (yG (K:=K)) (pv 2) bc) (aa (cP (yG (K:=K)) (pv 2) bc) ai)))))) (λ_ _ _ _ _=>(pv 2)))))),?_⟩;obtain⟨n1,n2,n3,n4,n5,n6,G,n8⟩:=vj h.nd;obtain⟨O,m2,I,m4⟩:=G sh S;have hd:=h.sh sh S
 repeat' (first|(refine TH sh.2.1 hd trivial (λg=>?_))|walk_at "")
 refine⟨?_⟩;have f1:(bB H sh.2.1 (.gb g (.dT (jz sh.2.2)))) w=some (.ins A.bg m.dx (LI m)):=by rw[aw O];exact h.ob
 have J:(bB H sh.2.1 (.gb g (.dT (jz sh.2.2)))) sh.2.1=some (.gb g (.dT (jz sh.2.2))):=ao;have f3:(bB H sh.2.1 (.gb g (.dT (jz sh.2.2)))) m.dc=some (.dK (rk m.cs)):=by rw[aw I];exact h.ce
 have f4:jt (bB H sh.2.1 (.gb g (.dT (jz sh.2.2)))) m.dc (.int x.sheet) (some (.ref sh.2.1)):=by rw[<-U,F];exact jt.k (k:=bh (sh.1:Int)) f3
 have f:bX A (bB H sh.2.1 (.gb g (.dT (jz sh.2.2)))) a x:=bX.ik Z (HR.bB hd (λ_ _ _ q=>nomatch q));obtain⟨da,f6⟩:=id f
 lk
 refine EK ⟨_,J,?_⟩;refine W0 (kvs:=jz sh.2.2) (λD i C=>Eo (bt (bB H sh.2.1 (.gb g (.dT (jz sh.2.2)))) C/\HQ C D (((sh.2.2.take i).filter (lF x)).map ipE))) (λD d=>⟨bt.new d,[],ao,.nil⟩) (λD i C Y=>Y.out.1 _ _ J) ?_ ?_
 ·rintro D i kk xv q C d y X ⟨e,ts,L,u⟩
  unfold jz at y;rw[aV]at y;cases ex:sh.2.2[i]? with
  |none=>rw[ex]at y;cases y
  |some en=>
   rw[ex]at y;cases y;have g1:=f.same e;have hi:=(aQ.mp ex).1;have Ze:gL K C q [V.int (en.1.1:Int),V.int (en.1.2:Int)]:=.inl (.inl X);have RP:ky [V.int (en.1.1:Int),V.int (en.1.2:Int)] 0=some (V.int (en.1.1:Int)):=bD (j:=0) rfl;have zz:ky [V.int (en.1.1:Int),V.int (en.1.2:Int)] 1=some (V.int (en.1.2:Int)):=bD (j:=1) rfl;obtain⟨dg,eg⟩:=id g1
   lk
   ·rename_i n
    have n:lF x en=true:=aD n
    have ε:ts.length<=i:=by
     have:=eM u;rw[ae]at this;have h2:=cN (lF x) (sh.2.2.take i);rw[b7]at h2;fail
    refine FV ⟨_,L,by rw[ae];exact oK (by fail),⟨λb o B=>?_,ts++[q],?_,?_⟩⟩
    ·rw[aw (bp B d)];exact e _ _ B
    ·rw[ao,aT];rfl
    ·rw[take_one ex,eT,aT,cQ,az n];exact oI.lst (tP u X) L
   ·rename_i n
    have n:lF x en=false:=ba n;refine⟨e,ts,L,?_⟩;rw[take_one ex,eT,cQ,au (by rw[n];exact bj),XR,cX];exact u
 ·rintro D C d ⟨e,ts,L,u⟩
  rw[show(jz sh.2.2).length=sh.2.2.length from ae ..,de]at u;refine⟨e _ _ J,?_⟩;have M:D≠sh.2.1:=λq=>by rw[q,J]at d;cases d
  rw[aw M]at d;refine k _ D (E5 hd e) d ⟨ts,by rw[aw M];exact L,?_⟩;refine Paired.Rh u λt p q=>?_
  rw[aw (λz=>by rw[z,e _ _ J]at q;cases q)];exact q
def tj (cs:List Sh) (d:ag) (es N0:List Ent):cR (cR cs d es) d N0=cR cs d N0:=by
 unfold cR;rw[bq];refine cW λs _=>?_
 show(if(if s.2.1=d then(s.1,s.2.1,es)else s).2.1=d then _ else _)=_;by_cases e:s.2.1=d
 ·simp only[az e]
 ·simp only[au e]
def mV.tj (m:mV) (d:ag) (es N0:List Ent):(m.cR d es).cR d N0=m.cR d N0:=by
 unfold mV.cR;dsimp only;rw[CS.tj]
def BD (a:cH):(aO a).on=d7 a:=by
 unfold b8.on aO d7 vG vH;rw[cO];simp only[aX,aC];fail
def Rep.aih (r:Rep b m) (a:cH):(gF (gY m.ts) (bh (aO a).sheet)).isSome=b.sheet a.sheet:=r.N3 a.sheet
def Bw (r:Rep b m) (a:cH):d9 (gY m.ts) [aO a]=if d7 a=true then(if b.sheet a.sheet=true then 0 else -2)else -1:=by
 unfold d9;simp only[gX,Kh,dh,BD,r.aih]
def Yr (r:Rep b m) (a t:cH):d9 (gY m.ts) [aO a,aO t]=if(d7 a&&d7 t)=true then(if(b.sheet a.sheet&&b.sheet t.sheet)=true then 0 else -2)else -1:=by
 unfold d9;simp only[gX,Kh,dh,BD,r.aih]
def avS (kvs:List (Key×V)) (xs:List b8):d9 kvs xs=0\/d9 kvs xs<0:=by
 unfold d9;split
 ·split
  ·exact .inl rfl
  ·exact .inr (by decide)
 ·exact .inr (by decide)
def fh (b:cy) (c:DB):List Int:=(bU b c).2.v::(bU b c).2.l
def Done (A:Ad) (K:ah) (H:Hp) (Q:VK) (w:ag) (m:mV) (b:cy) (c:DB):Prop:=∀H' q m',iV A K H H' w m m'->Rep (bU b c).1 m'->H q=none->H' q=some (.lst ((fh b c).map V.int))->Q (.ref q) H'
def Done.vQ {w q:ag} {c:DB} (k:Done A K H Q w m b c) (h:fY A K H w m) (r:Rep b m) (s:bt H H') (F:(bU b c).1=b) (B:fh b c=l) (f:H q=none) (eq:H' q=some (.lst (l.map V.int))):Q (.ref q) H':=
 k H' q m (h.step s) (by rw[F];exact r) f (by rw[B];exact eq)
def aaz (A:Ad) (K:ah):Sp:=λvs H Q _=>∃(w a:ag) (m:mV) (sh:Sh) (x:b8),vs=[.ref w,.ref a]/\fY A K H w m/\bX A H a x/\sh∈m.cs/\x.sheet=(sh.1:Int)/\gF (rk m.cs) (bh (sh.1:Int))=some (.ref sh.2.1)/\sh.2.2.length<=20000/\(sh.2.2.map (·.1)).Nodup/\
 ∀H',iV A K H H' w m (m.cR sh.2.1 (sh.2.2.filter λe=> !lF x e))->Q .m6 H'
def Oy (sp:List Ent) (es:List Ent):List Ent:=es.filter λe=>decide (e.1∉sp.map (·.1))
def aiD (es:List Ent):Oy [] es=es:=cD.mpr λe _=>by simp
def aiE:Oy (es.filter (lF x)) es=es.filter λe=> !lF x e:=by
 unfold Oy;refine gK λe d=>?_
 cases a:lF x e with
 |true=>
  refine ba λn=>n ?_
  exact bu (bo.mpr ⟨d,a⟩)
 |false=>
  refine aD λn=>?_
  obtain⟨h,g,q⟩:=aG.mp n;have b:=(bo.mp g).2;unfold lF at b a;rw[q,a]at b;cases b
def agu (h:sp[i]? =some e):qJ (jz (Oy (sp.take i) es)) (nY e)=jz (Oy (sp.take (i+1)) es):=by
 unfold jz;rw[HM]
 congr 1
 unfold Oy;rw[List.filter_filter,take_one h];refine gK λy _=>?_
 rw[cO];simp only[aC,aX,atn,lB,aT,bL,bW,lD,br,not_or];exact And.comm
def Tj (f:(sp.map (·.1)).Nodup) (h:sp[i]? =some e):e.1∉(sp.take i).map (·.1):=by
 intro a;have b:sp=sp.take i++sp.drop i:=(dP i sp).symm;rw[b,aT,dH]at f;exact f.2.2 _ a _ (bu (by rw[Cc h];exact aM)) rfl
def tQ:=show FO P w K mg base 3 _ _ _ (aaz A K) by
 exists T.IP.gp tm
 obtain⟨w,a,m,sh,x,rfl,h,ha,X,O,hv,hn,G,k⟩:=h
 refine⟨_,(aq (j8 BC rfl (jO (bx (pv 0) T.aF T.fm (fj T) hr T.fD (aa (pv 1) ai))) (eC 2 tm.nd)
  (aq (cC (WU (iu hr) (l4 (iu hr) (aK T.aF T.cT (pv 0)) (aK T.bC T.du (pv 1)) (λ_ _=>rfl)) (pv 2) ⟨rfl,rfl,rfl,rfl⟩))))),?_⟩
 have F4:=h.ob
 lk
 intro M l C n1 ⟨ts,el,S⟩;have n:=h.same C;have a1:=ha.same C;have sq:dv K M l (ts.map V.ref):=dv.of el;have L:((sh.2.2.filter (lF x)).map (·.1)).Nodup:=(eG.map _).nodup G;have U:ts.length=(sh.2.2.filter (lF x)).length:=by rw[eM S,ae]
 lk
 refine pw (xs:=ts.map V.ref) (λi u b=>Eo (∃v,u=[some (.ref w),some (.ref a),v]/\iV A K M b w m (m.cR sh.2.1 (Oy ((sh.2.2.filter (lF x)).take i) sh.2.2)))) ⟨⟨_,rfl,?_⟩⟩ (λi u b _ ⟨⟨_,_,st⟩⟩=>T3 st.keep n.D5 sq) ?_ ?_
 ·rw[Bf,aiD];have e:m.cR sh.2.1 sh.2.2=m:=by unfold mV.cR;rw[Bn (vj h.nd).2.2.2.2.2.2.2 X]
  rw[e];exact n.step (bt.refl _)
 ·rintro i xv u b d ⟨⟨v,rfl,st⟩⟩
  rw[aV]at d;cases e:ts[i]? with
  |none=>rw[e]at d;cases d
  |some q=>
   rw[e]at d;obtain rfl:V.ref q=xv:=ay d;have hi:=(aQ.mp e).1;obtain⟨en,j⟩:∃en,(sh.2.2.filter (lF x))[i]? =some en:=⟨_,aZ (by omega)⟩;have hq:b q=some (.tup ((nY en).map kV)):=T2 st.keep n.D5 (f9 (F:=λt (p:Int×Int)=>M t=some (.tup [V.int p.1,V.int p.2])) S e (y:=ipE en) (by rw[aV,j];rfl));obtain⟨da,a2⟩:=oH st.keep n.D5 a1;have D:=Sx (es:=Oy ((sh.2.2.filter (lF x)).take i) sh.2.2) X;have D0:=st.at_.ob;have o:=st.at_.ce;have Y:=st.at_.sh _ D;have Z:rk (m.cR sh.2.1 (Oy ((sh.2.2.filter (lF x)).take i) sh.2.2)).cs=rk m.cs:=Ht _ _ _;rw[Z]at o;have g1:jt b m.dc (.int x.sheet) (some (.ref sh.2.1)):=by rw[<-hv,O];exact jt.k (k:=bh (sh.1:Int)) o
   have isd:IsD b sh.2.1:=.inr ⟨_,.inl Y⟩;have D1:en∈Oy ((sh.2.2.filter (lF x)).take i) sh.2.2:=bo.mpr ⟨(bo.mp (bI j)).1,aD (Tj L j)⟩;have J:((Oy ((sh.2.2.filter (lF x)).take i) sh.2.2).map nY).Nodup:=HL ((eG.map _).nodup G);have kr:gF (jz (Oy ((sh.2.2.filter (lF x)).take i) sh.2.2)) (nY en)=some (.ref en.2.1):=gN (f:=nY) (g:=fun(e:Ent)=>V.ref e.2.1) J D1
   lk
   refine⟨⟨_,rfl,?_⟩⟩
   have I:=st.at_.cR D (es:=Oy ((sh.2.2.filter (lF x)).take (i+1)) sh.2.2) (λe' OU=>st.at_.co _ D e' (by
    have B:=bo.mp OU;refine bo.mpr ⟨B.1,aD λz=>cb B.2 ?_⟩;rw[take_one j,aT];exact gg _ z))
   rw[mV.tj,<-agu j]at I;exact st.trans n I
 ·rintro u b ⟨⟨v,rfl,st⟩⟩
  rw[ae,U,de,aiE]at st;exact k b ((h.step C).trans h st)
def ajT (r:Rep b m) (h:¬d9 (gY m.ts) [aO a]=0):bU b (.clear a)=(b,h9 (d9 (gY m.ts) [aO a])):=by
 rw[Bw r]at h⊢;unfold bU;dsimp only;cases e:d7 a with
 |false=>rfl
 |true=>
  cases d:b.sheet a.sheet with
  |false=>rfl
  |true=>rw[e,d]at h;exact absurd rfl h
def ahf (r:Rep b m) (h:d9 (gY m.ts) [aO a]=0):(d7 a=true/\b.sheet a.sheet=true)/\
 bU b (.clear a)=({b with cells:=b.cells.filter λx=> !a.has x.1},h9 ((b.cells.length - (b.cells.filter λx=> !a.has x.1).length:Nat):Int)):=by
 rw[Bw r]at h;cases d:d7 a with
 |false=>rw[d]at h;cases h
 |true=>
  cases e:b.sheet a.sheet with
  |false=>rw[d,e]at h;cases h
  |true=>
   refine⟨⟨rfl,rfl⟩,?_⟩;unfold bU;dsimp only;rw[d,e];rfl
def Zd:lF (aO a) e=a.has ⟨a.sheet,e.1.1,e.1.2⟩:=by
 unfold lF b8.has aO;rw[cO,l7];simp only[aX];constructor
 ·rintro⟨h,g,d,b⟩
  exact⟨trivial,by omega,by omega,by omega,by omega⟩
 ·rintro⟨_,h,g,d,b⟩
  exact⟨by omega,by omega,by omega,by omega⟩
def W9 {a:cH} {c:bP} (h:c.sheet≠a.sheet):a.has c=false:=by
 cases e:a.has c with
 |false=>rfl
 |true=>exact absurd (l7.mp e).1.symm h
def vW (b:cy) (p:bP->Bool):(cellsOf b).filter (λy=>p y.1)=(b.cells.filter λx=>p x.1).map λx=>(x.1,cY x.2):=by
 unfold cellsOf;rw[zi];rfl
def yJ {k:Nat} {p:bP->Bool}:(es.map (mE k)).filter (λy=>p y.1)=(es.filter λe=>p ⟨k,e.1.1,e.1.2⟩).map (mE k):=by
 rw[zi];rfl
def Rep.asP (r:Rep b m):(fu m.cs).length=b.cells.length:=by
 rw[r.cp.length_eq];exact ae ..
def Rep.Sn (r:Rep b m) (i:iJ b) (q:(m.cs.map (·.2.1)).Nodup) (f:s∈m.cs):s.2.2.length<=16384:=by
 obtain⟨rest,g,a,d⟩:=r.split q f;have:=a.length_eq;rw[aI,ae]at this;have e:(cellsOf b).length=b.cells.length:=ae ..;have:=i.Zl;omega
def Rep.area (r:Rep b m) (B:(m.cs.map (·.2.1)).Nodup) (q:s∈m.cs) (f:a.sheet=s.1):
 ((s.2.2.filter (lF (aO a))).map (mE s.1)).Perm ((b.cells.filter λx=>a.has x.1).map λx=>(x.1,cY x.2))/\(fu (CS.cR m.cs s.2.1 (s.2.2.filter λe=> !lF (aO a) e))).Perm ((b.cells.filter λx=> !a.has x.1).map λx=>(x.1,cY x.2)):=by
 obtain⟨rest,h,g,j⟩:=r.split B q;have i:∀e:Ent,lF (aO a) e=a.has ⟨s.1,e.1.1,e.1.2⟩:=λe=>by rw[Zd,f]
 constructor
 ·rw[<-vW];refine HX ((g.filter _).trans ?_);rw[eT,yJ,aeN (l:=rest).mpr (λy d=>by rw[W9 (by rw[f];exact h y d)];exact bj),cX];refine ji (cK _ (gK λe _=>?_));exact(i e).symm
 ·rw[<-vW b (λc=> !a.has c)];refine(j _).trans (HX ((g.filter _).trans ?_));rw[eT,yJ (p:=λc=> !a.has c),cD (l:=rest).mpr (λy d=>by rw[W9 (by rw[f];exact h y d)];rfl)];refine fo _ (ji (cK _ (gK λe _=>?_)));rw[i e]
theorem Ca {α:Type} (p:α->Bool):∀l:List α,(l.filter p).length+(l.filter λx=> !p x).length=l.length
 |[]=>rfl
 |x::l=>by
  have:=Ca p l;cases e:p x<;>simp only[cQ,e,Bool.not_true,Bool.not_false,rb,lC,eB,ak]<;>omega
def Vs (A:Ad) (K:ah):Sp:=λvs H Q _=>∃(w a:ag) (m:mV) (b:cy) (d:cH),vs=[.ref w,.ref a]/\fY A K H w m/\Rep b m/\iJ b/\bX A H a (aO d)/\Done A K H Q w m b (.clear d)
def BN:=show FO P w K mg base 4 _ _ _ (Vs A K) by
 exists T.Ew.gp kO
 obtain⟨w,a,m,b,d,rfl,h,r,i,C,k⟩:=h
 refine⟨_,(aj (bS 2 kO.nd (bx (pv 0) T.aF T.dF (dE T) hr T.dN (aa (di (aa (pv 1) ai)) ai)))
  (aj (ee (cS sE (pv 2) (bE rfl T.i8)) (aq (aW (di (aa (pv 2) ai)))) cv)
  (aj (bS 3 kO.nd (cG eL rfl T.jG jI (aa (bx (pv 0) T.aF T.fm (fj T) hr T.fD (aa (pv 1) ai)) ai)))
  (aj (cC (bx (pv 0) T.aF T.tU (tQ T) hr T.vC (aa (pv 1) ai)))
  (aq (aW (di (aa (pv 3) ai)))))))),?_⟩
 obtain⟨n1,n2,n3,n4,n5,n6,n7,L⟩:=vj h.nd;have F4:=h.ob
 lk
 intro l hl;have z:=bt.new (o:=.lst [V.ref a]) hl;have h1:=h.same z;have a1:=C.same z;have vR:=h1.ob;have ó:(bB H l (.lst [V.ref a])) l=some (.lst ([a].map V.ref)):=ao;have as1:za A (bB H l (.lst [V.ref a])) [a] [aO d]:=.cons a1 .nil;have agO:[aO d].length<=10:=by simp
 lk
 intro H2 U;have j:=z.trans U;have h2:=h.same j;have D0:=h2.ob;by_cases S:d9 (gY m.ts) [aO d]=0
 rotate_left
 ·lk
  intro q g;have e:=ajT r S;exact k.vQ h r (j.bB g) (by rw[e]) (by unfold fh;rw[e]) (none_of j g) ao
 ·obtain⟨⟨eR,B⟩,e⟩:=ahf r S;obtain⟨sh,u,J,hv⟩:=r.Bm B;have a2:=C.same j;have μ:=r.Sn i L u;have hx:(aO d).sheet=(sh.1:Int):=by rw[J];rfl
  rw[<-J]at hv;have aml:sh.2.2.length<=20000:=by fail
  have VU:=r.en sh u
  lk
  intro H3 l3 O nl3 ⟨n,e3,y⟩;have p:=j.trans O;have h3:=h.same p;have a3:=C.same p;have B8:=h3.ob;have ī:dv K H3 l3 (n.map V.ref):=dv.of e3;have D:n.length=(sh.2.2.filter (lF (aO d))).length:=by rw[eM y,ae]
  lk
  intro f st
  lk
  intro q g;have F:iV A K f (bB f q (.lst [V.int ((n.map V.ref).length:Int)])) w _ _:=st.at_.step (bt.new g);have I:=((h.step p).trans h st).trans h F;obtain⟨Z,Y⟩:=r.area L u J.symm;refine k _ q _ I ?_ ?_ ?_
  ·rw[e];exact r.cR u ((eG.map _).nodup VU) Y
  ·refine((h.step p).trans h st).none h g λhm=>?_
   have G:q∈rj w (m.cR sh.2.1 (sh.2.2.filter λe=> !lF (aO d) e)):=by rw[wD];exact hm
   obtain⟨o,X,_⟩:=st.at_.fp q G;rw[g]at X;cases X
  ·rw[ao];unfold fh;rw[e];have M:=Z.length_eq;rw[ae,ae]at M;have l2:=Ca (λx:bP×cE=>d.has x.1) b.cells;show some (HO.lst [V.int ((n.map V.ref).length:Int)])=some (HO.lst [V.int ((b.cells.length - (b.cells.filter λx=> !d.has x.1).length:Nat):Int)]);rw[ae,D,M]
   congr 5
   fail
def GA (c:bP):d7 (cM c)=uG c:=by
 unfold d7 uG cM;rw[cO];simp
def al6 (r:Rep b m) (h:¬d9 (gY m.ts) [aO (cM c)]=0):bU b (.look c)=(b,h9 (d9 (gY m.ts) [aO (cM c)])):=by
 rw[Bw r,GA]at h⊢;unfold bU;dsimp only;cases d:uG c with
 |false=>rfl
 |true=>
  cases a:b.sheet c.sheet with
  |false=>rw[show b.sheet (cM c).sheet=b.sheet c.sheet from rfl,a];rfl
  |true=>rw[d,show b.sheet (cM c).sheet=b.sheet c.sheet from rfl,a]at h;exact absurd rfl h
def abw (r:Rep b m) (h:d9 (gY m.ts) [aO (cM c)]=0):(uG c=true/\b.sheet c.sheet=true)/\
 bU b (.look c)=(b,match b.at_ c with|some x=>⟨1,zd x⟩|none=>h9 0):=by
 rw[Bw r,GA,show b.sheet (cM c).sheet=b.sheet c.sheet from rfl]at h;cases a:uG c with
 |false=>rw[a]at h;cases h
 |true=>
  cases d:b.sheet c.sheet with
  |false=>rw[a,d]at h;cases h
  |true=>
   refine⟨⟨rfl,rfl⟩,?_⟩;unfold bU;dsimp only;rw[a,d];rfl
def Rep.Ny (r:Rep b m) (i:iJ b) (f:s∈m.cs) (F:s.1=c.sheet) (B:e∈s.2.2) (q:e.1=(c.row,c.col)):∃x,b.at_ c=some x/\cY x=e.2.2:=by
 have d:(c,e.2.2)∈cellsOf b:=r.cp.mem_iff.mp (FP.mpr ⟨s,f,F,e,B,q,rfl⟩);obtain⟨x,a,eq⟩:=aG.mp d;obtain⟨j,x⟩:=x;obtain⟨h,g⟩:=kZ eq;subst h;exact⟨x,(CS.Ny i.RE).mpr a,g⟩
def Rep.Nz (r:Rep b m) (i:iJ b) (F:(m.cs.map (·.1)).Nodup) (B:s∈m.cs) (f:s.1=c.sheet) (G:∀e∈s.2.2,e.1≠(c.row,c.col)):b.at_ c=none:=by
 rw[CS.Nz];intro u;obtain⟨x,p,rfl⟩:=aG.mp u;have y:(x.1,cY x.2)∈fu m.cs:=r.cp.mem_iff.mpr (aG.mpr ⟨x,p,rfl⟩);obtain⟨o,D,n,e,C,z,_⟩:=FP.mp y
 have:o=s:=by
  have d:=dm.mp F;refine ir λne=>?_
  rcases oJ.mp D with⟨i,l,rfl⟩;rcases oJ.mp B with⟨j,g,rfl⟩;have a:i≠j:=λq=>ne (by subst q;rfl)
  rcases Ry a with h|h
  ·exact gs.mp d i j l g h (n.trans f.symm)
  ·exact gs.mp d j i g l h (f.trans n.symm)
 subst this;exact G e C z
def XZ (B:(es.map (·.1)).Nodup) (k:Nat×Nat):(∃e∈es,e.1=k/\gF (jz es) [bh (k.1:Int),bh (k.2:Int)]=some (.ref e.2.1))\/((∀e∈es,e.1≠k)/\gF (jz es) [bh (k.1:Int),bh (k.2:Int)]=none):=by
 by_cases h:∃e∈es,e.1=k
 ·obtain⟨e,a,d⟩:=h;subst d;exact .inl ⟨e,a,rfl,gN (f:=nY) (g:=fun(e:Ent)=>V.ref e.2.1) (HL B) a⟩
 ·refine .inr ⟨λe a q=>h ⟨e,a,q⟩,sQ.mpr λb=>?_⟩;obtain⟨e,a,q⟩:=aG.mp b;refine h ⟨e,a,?_⟩;have:=lB (e:=e) (e':=(k,e.2)) |>.mp q;exact this
def adg (A:Ad) (K:ah):Sp:=λvs H Q _=>∃(w:ag) (m:mV) (b:cy) (c:bP),vs=[.ref w,.int (c.sheet:Int),.int (c.row:Int),.int (c.col:Int)]/\fY A K H w m/\Rep b m/\iJ b/\(fh b (.look c)).length<=10000000/\Done A K H Q w m b (.look c)
def Iq:=show FO P w K mg base 4 _ _ _ (adg A K) by
 exists T.Ll.gp nr
 obtain⟨w,m,b,c,rfl,h,r,i,g,k⟩:=h
 refine⟨_,(aj (bS 4 nr.nd (bx (pv 0) T.aF T.dF (dE T) hr T.dN (aa (di (aa (bN (sF T) hr T.sH T.sN.kp T.wm (aa (pv 1) (aa (pv 2) (aa (pv 3) ai)))) ai)) ai)))
  (aj (ee (cS sE (pv 4) (bE rfl T.i8)) (aq (aW (di (aa (pv 4) ai)))) cv)
  (aj (bS 5 nr.nd (aiA (iu hr) (l4 (iu hr) (aK T.aF T.cT (pv 0)) (pv 1) (λ_ _=>rfl)) (YB (aa (pv 2) (aa (pv 3) ai))) ⟨rfl,rfl,rfl,rfl⟩))
  (aj (ee (Bz (YE (pv 5))) (aq (aW (di (aa (bE rfl T.MJ) ai)))) cv)
  (aq (aW (gi aos (di (aa (bE rfl T.Iv) ai)) (fA (pv 5) T.ij T.DY (DR T) hr T.GO)))))))),?_⟩
 have F4:=h.ob
 lk
 intro G a s1 na F;have F:bX A G a (aO (cM c)):=F
 lk
 intro l hl;have U:=s1.bB (o:=.lst [V.ref a]) hl;have h2:=h.same U;have D0:=h2.ob;have Ì:(bB G l (.lst [V.ref a])) l=some (.lst ([a].map V.ref)):=ao;have as2:za A (bB G l (.lst [V.ref a])) [a] [aO (cM c)]:=.cons (F.same (bt.new hl)) .nil;have agO:[aO (cM c)].length<=10:=by simp
 lk
 intro C s3;have y:=U.trans s3;have z:=h.same y;have B8:=z.ob;have X:=z.ce;by_cases hc:d9 (gY m.ts) [aO (cM c)]=0
 rotate_left
 ·lk
  intro q d;have e:=al6 r hc;exact k.vQ h r (y.bB d) (by rw[e]) (by unfold fh;rw[e]) (none_of y d) ao
 ·obtain⟨⟨eR,τ⟩,e⟩:=abw r hc;obtain⟨sh,p,TU,hv⟩:=r.Bm τ;have u:=z.sh sh p;have g1:jt C m.dc (.int (c.sheet:Int)) (some (.ref sh.2.1)):=by rw[<-hv];exact jt.k (k:=bh (c.sheet:Int)) X
  have isd:IsD C sh.2.1:=.inr ⟨_,.inl u⟩
  lk
  intro t ht;have D:=bt.new (o:=.tup [V.int (c.row:Int),V.int (c.col:Int)]) ht;have I:=y.trans D;have S:=D _ _ u;have M:(bB C t (.tup [V.int (c.row:Int),V.int (c.col:Int)])) t=some (.tup (([bh (c.row:Int),bh (c.col:Int)]:List Key).map kV)):=ao;have g2:=jt.t (k:=[bh (c.row:Int),bh (c.col:Int)]) S M;have Κ:=λe j=>(z.co sh p e j).same D
  generalize bB C t (.tup [V.int (c.row:Int),V.int (c.col:Int)])=H4 at *;rcases XZ (r.en sh p) (c.row,c.col)with⟨en,j,hk,J⟩|⟨j,J⟩
  ·rw[J]at g2;obtain⟨x,L,n⟩:=r.Ny i p TU j hk;rw[L]at e;have f:=Κ en j
   have ε:1+en.2.2.parts.flatten.length<=10000000:=by
    unfold fh at g;rw[e]at g;have g:(1::zd x).length<=10000000:=g;rw[JX,n]at g;simp only[ak]at g;omega
   lk
   intro q1 è;have Z:=bt.new (o:=.lst [V.int 1]) è;have B:=f.same Z;have e5:(bB H4 q1 (.lst [V.int 1])) q1=some (.lst [V.int 1]):=ao;obtain⟨dco,lco,eco,_⟩:=id B
   lk
   intro H6 q2 Y n6 e6;have e56:=Y _ _ e5
   have hz:[V.int 1].length+((en.2.2.kind::en.2.2.parts.flatten).map V.int).length<=sizeLine:=by
    rw[ae,ak];exact Bl (by simp only[ak,gu];omega)
   lk
   intro q d;have O:=(I.trans Z).trans Y;refine k.vQ h r (O.bB d) (by rw[e]) (l:=1::en.2.2.kind::en.2.2.parts.flatten) (by unfold fh;rw[e,<-n,<-JX]) (none_of O d) ao
  ·rw[J]at g2;have L:=r.Nz i r.cn p TU j;rw[L]at e
   lk
   intro q d;exact k.vQ h r (I.bB d) (by rw[e]) (l:=[0]) (by unfold fh;rw[e];rfl) (none_of I d) ao
def ajU (r:Rep b m) (h:¬d9 (gY m.ts) [aO a]=0):bU b (.cells a)=(b,h9 (d9 (gY m.ts) [aO a])):=by
 rw[Bw r]at h⊢;unfold bU;dsimp only;cases e:d7 a with
 |false=>rfl
 |true=>
  cases d:b.sheet a.sheet with
  |false=>rfl
  |true=>rw[e,d]at h;exact absurd rfl h
def ahg (r:Rep b m) (h:d9 (gY m.ts) [aO a]=0):(d7 a=true/\b.sheet a.sheet=true)/\
 bU b (.cells a)=(b,⟨((b.cells.filter λx=>a.has x.1).length:Nat),((b.cells.filter λx=>a.has x.1).take 1024).flatMap λx=>[(x.1.row:Int),(x.1.col:Int)]⟩):=by
 rw[Bw r]at h;cases d:d7 a with
 |false=>rw[d]at h;cases h
 |true=>
  cases e:b.sheet a.sheet with
  |false=>rw[d,e]at h;cases h
  |true=>
   refine⟨⟨rfl,rfl⟩,?_⟩;unfold bU;dsimp only;rw[d,e];rfl
def Q0 {a b:Int×Int} (q:KH a b) (f:KH b a):a=b:=by
 unfold KH at q f;refine Wk ?_ ?_<;>fail
def YF {b:cy} {a:cH} (f:UI b.cells) {ps:List (Int×Int)} (B:ps.Perm ((b.cells.filter λx=>a.has x.1).map λx=>((x.1.row:Int),(x.1.col:Int)))) (q:ps.Pairwise KH):ps=(b.cells.filter λx=>a.has x.1).map λx=>((x.1.row:Int),(x.1.col:Int)):=by
 refine Vi (λx y _ _=>Q0) q ?_ B;rw[dm];refine atO (fun {x y} g e d=>?_) (Bj f _);have i:=(l7.mp (bo.mp g).2).1;have h:=(l7.mp (bo.mp e).2).1;rw[Uv]at d;unfold KH;dsimp only;fail
def Vo (A:Ad) (K:ah):Sp:=λvs H Q _=>∃(w a:ag) (m:mV) (b:cy) (d:cH),vs=[.ref w,.ref a]/\fY A K H w m/\Rep b m/\iJ b/\bX A H a (aO d)/\Done A K H Q w m b (.cells d)
def BK:=show FO P w K mg base 3 _ _ _ (Vo A K) by
 exists T.Es.gp gP
 obtain⟨w,a,m,b,d,rfl,h,r,i,ha,k⟩:=h
 refine⟨_,(aj (bS 2 gP.nd (bx (pv 0) T.aF T.dF (dE T) hr T.dN (aa (di (aa (pv 1) ai)) ai)))
  (aj (ee (cS sE (pv 2) (bE rfl T.i8)) (aq (aW (di (aa (pv 2) ai)))) cv)
  (aj (bS 3 gP.nd (cG aee rfl T.WW Xy (aa (bx (pv 0) T.aF T.fm (fj T) hr T.fD (aa (pv 1) ai)) ai)))
  (aj (bS 4 gP.nd (di (aa (cG eL rfl T.jG jI (aa (pv 3) ai)) ai)))
  (aj (j8 BC rfl (jO (SV Yg (pv 3) alD (Mu (bE rfl T.Tz)))) (eC 5 gP.nd)
  (aq (cC (CW cV fF fE mB (pv 4) (aa (pv 5) ai)))))
  (aq (aW (pv 4)))))))),?_⟩
 obtain⟨n1,n2,n3,n4,n5,n6,n7,n8⟩:=vj h.nd;have F4:=h.ob
 lk
 intro l hl;have s1:=bt.new (o:=.lst [V.ref a]) hl;have h1:=h.same s1;have a1:=ha.same s1;have vR:=h1.ob;have ó:(bB H l (.lst [V.ref a])) l=some (.lst ([a].map V.ref)):=ao;have as1:za A (bB H l (.lst [V.ref a])) [a] [aO d]:=.cons a1 .nil;have agO:[aO d].length<=10:=by simp
 lk
 intro H2 s2;have M:=s1.trans s2;have h2:=h.same M;have D0:=h2.ob;by_cases hc:d9 (gY m.ts) [aO d]=0
 rotate_left
 ·lk
  intro q f;have e:=ajU r hc;exact k.vQ h r (M.bB f) (by rw[e]) (by unfold fh;rw[e]) (none_of M f) ao
 ·obtain⟨⟨eR,τ⟩,e⟩:=ahg r hc;obtain⟨sh,hs,TU,hv⟩:=r.Bm τ;have a2:=ha.same M;have μ:=r.Sn i n8 hs;have S:(aO d).sheet=(sh.1:Int):=by rw[TU];rfl
  rw[<-TU]at hv;have aml:sh.2.2.length<=20000:=by fail
  lk
  intro G l3 s3 nl3 ⟨ĩ,e3,tp3⟩;have xU:=M.trans s3;have ī:dv K G l3 (ĩ.map V.ref):=dv.of e3;have Ë:yZ K G ĩ ((sh.2.2.filter (lF (aO d))).map ipE):=tp3.pairs
  lk
  intro ts ps p tp TV ai7 hp
  have ð:ps=(b.cells.filter λx=>d.has x.1).map λx=>((x.1.row:Int),(x.1.col:Int)):=by
   refine YF i.RE (TV.trans ?_) ai7;have:=((r.area n8 hs TU.symm).1).map λy:bP×hW=>((y.1.row:Int),(y.1.col:Int))
   rw[bq,bq]at this;exact this
  subst ð;have s4:=bt.new (o:=.lst (ts.map V.ref)) hp;have EE:=xU.trans s4;have e4:(bB G p (.lst (ts.map V.ref))) p=some (.lst (ts.map V.ref)):=ao;have ā:yZ K (bB G p (.lst (ts.map V.ref))) ts ((b.cells.filter λx=>d.has x.1).map λx=>((x.1.row:Int),(x.1.col:Int))):=Paired.Rh tp λ_ _ q=>s4.nj q
  generalize bB G p (.lst (ts.map V.ref))=O at *;have sq4:dv K O p (ts.map V.ref):=dv.of e4;have U:=eM ā;rw[ae]at U;have ajk:(b.cells.filter λx=>d.has x.1).length<=16384:=b9 (cN _ _) i.Zl
  lk
  intro q f;have s5:=bt.new (o:=.lst [V.int ((ts.map V.ref).length:Int)]) f;have Z8:=EE.trans s5;have e5:(bB O q (.lst [V.int ((ts.map V.ref).length:Int)])) q=some (.lst [V.int ((ts.map V.ref).length:Int)]):=ao;have sq5:=s5.seq sq4;have tp5:yZ K (bB O q (.lst [V.int ((ts.map V.ref).length:Int)])) ts ((b.cells.filter λx=>d.has x.1).map λx=>((x.1.row:Int),(x.1.col:Int))):=Paired.Rh ā λ_ _ q=>s5.nj q
  have X:=none_of EE f;generalize bB O q (.lst [V.int ((ts.map V.ref).length:Int)])=H5 at *
  lk
  intro C n
  have ħ:Ur (ts.map V.ref) none (some 1024)=(ts.take 1024).map V.ref:=by
   unfold Ur;rw[show(some (1024:Int))=some ((1024:Nat):Int)from rfl,HT.Mm,ae,show HT.sIx ts.length 0 none=0 from rfl,apV,Nat.sub_zero,acY];rw[Nat.min_comm];rw[List.take_eq_take_iff];rw[ae];fail
  rw[ħ];have s6:=bt.new (o:=.lst ((ts.take 1024).map V.ref)) n;have Ρ:=Z8.trans s6;have e6:(bB H5 C (.lst ((ts.take 1024).map V.ref))) C=some (.lst ((ts.take 1024).map V.ref)):=ao;have B:=s6 _ _ e5;have tp6:yZ K (bB H5 C (.lst ((ts.take 1024).map V.ref))) ts ((b.cells.filter λx=>d.has x.1).map λx=>((x.1.row:Int),(x.1.col:Int))):=Paired.Rh tp5 λ_ _ q=>s6.nj q
  have nqp:C≠q:=λz=>by rw[z,e5]at n;cases n
  generalize bB H5 C (.lst ((ts.take 1024).map V.ref))=H6 at *;have sq6:dv K H6 C ((ts.take 1024).map V.ref):=dv.of e6
  lk
  refine pw (xs:=(ts.take 1024).map V.ref) (λj I J=>Eo (∃v2 Z Y,I=[some (.ref w),some (.ref a),v2,Z,some (.ref q),Y]/\cJ [q] H6 J/\J q=some (.lst ((((b.cells.filter λx=>d.has x.1).length:Int)::(((b.cells.filter λx=>d.has x.1).take 1024).take j).flatMap λx=>[(x.1.row:Int),(x.1.col:Int)]).map V.int))))
   ⟨⟨_,_,_,rfl,cJ.refl _ _,?_⟩⟩ (λj I J _ ⟨⟨_,_,_,_,kp,_⟩⟩=>dv.of (kp _ _ e6 (by simpa using nqp))) ?_ ?_
  ·rw[B,ae,U];rfl
  ·rintro j xv I J L ⟨⟨v2,Z,Y,rfl,kp,g⟩⟩
   rw[aV]at L;cases D:(ts.take 1024)[j]? with
   |none=>rw[D]at L;cases L
   |some t=>
    rw[D]at L;obtain rfl:V.ref t=xv:=ay L;have hj:=(aQ.mp D).1;rw[b7]at hj;have et2:ts[j]? =some t:=by rw[akk]at D;rw[az (by fail)]at D;exact D
    obtain⟨x,S⟩:∃x,((b.cells.filter λx=>d.has x.1).take 1024)[j]? =some x:=⟨_,aZ (by rw[b7];fail)⟩;have Ζ:(b.cells.filter λx=>d.has x.1)[j]? =some x:=by rw[akk]at S;rw[az (by fail)]at S;exact S
    have ht:gL K J t [V.int (x.1.row:Int),V.int (x.1.col:Int)]:=sJ kp B (f9 (F:=λt (p:Int×Int)=>gL K H6 t [V.int p.1,V.int p.2]) tp6 et2 (y:=((x.1.row:Int),(x.1.col:Int))) (by rw[aV,Ζ];rfl));have sqq:=dv.of (K:=K) g
    have hz:((((b.cells.filter λx=>d.has x.1).length:Int)::(((b.cells.filter λx=>d.has x.1).take 1024).take j).flatMap λx=>[(x.1.row:Int),(x.1.col:Int)]).map V.int).length+[V.int (x.1.row:Int),V.int (x.1.col:Int)].length<=sizeLine:=by
     have hfl:∀l:List (bP×cE),(l.flatMap λx=>[(x.1.row:Int),(x.1.col:Int)]).length=2 * l.length:=λl=>by
      induction l with
      |nil=>rfl
      |cons y l ih=>rw[gJ,aI,ih,ak];simp only[ak,gu];fail
     rw[ae,ak,hfl,b7,b7];exact Bl (by simp only[ak,gu];fail)
    lk
    refine⟨⟨_,_,_,rfl,kp.trans eO,?_⟩⟩;rw[ao,take_one S,gE,<-eQ,aT];rfl
  ·rintro I J ⟨⟨v2,Z,Y,rfl,kp,g⟩⟩
   have axf:(((b.cells.filter λx=>d.has x.1).take 1024).take ((ts.take 1024).map V.ref).length)=(b.cells.filter λx=>d.has x.1).take 1024:=by
    refine mq ?_;rw[ae,b7,b7,U];exact aS _
   rw[axf]at g
   lk
   exact k.vQ h r (λu o eo=>kp _ _ (Ρ _ _ eo) (by simpa using bp eo X)) (by rw[e]) (by unfold fh;rw[e]) X g
def HG {D:Ends} (d:ag) (e:H d=some u) (F:Mut (some u)) (h:∀q,Eo (L2.L_d ⟨fun B f=>f d=some (.gb q u)/\D.nx B (bB f d u),λv f=>f d=some (.gb q u)/\D.rt v (bB f d u),fun B f=>f d=some (.gb q u)/\D.bk B (bB f d u),fun B f=>f d=some (.gb q u)/\D.ct B (bB f d u)⟩ σ fun D σ=>t D σ (bB H d (.gb q u)))):aeW t D σ H:=⟨d,u,e,F,λq=>(h q).out⟩
def De {α:Type} (f:α->List Int) (l:List α) (i:Nat):((l.take i).flatMap f).length<=(l.flatMap f).length:=by
 have h:=cK (λl=>(l.flatMap f).length) (dP i l);have h:((l.take i++l.drop i).flatMap f).length=(l.flatMap f).length:=h;rw[gE,aI]at h;omega
def yI {α:Type} (f:α->List Int) {l:List α} {i:Nat} {x:α} (h:l[i]? =some x):(l.take (i+1)).flatMap f=(l.take i).flatMap f++f x:=by
 rw[take_one h,gE,uE]
def kn (n:List Int×ag×List Int):List Int:=(n.1.length:Int)::(n.1++n.2.2)
def agA (r:Rep b m):(bU b .names).1=b/\fh b .names=(m.ns.length:Int)::m.ns.flatMap kn:=by
 refine⟨rfl,?_⟩;have e:fh b .names=(b.names.length:Int)::b.names.flatMap λn=>bV n.1++xW n.2:=rfl
 have a:=cK gh r.nm;rw[ae,ae]at a;rw[e,<-a]
 congr 1
 have d:=cK (λl=>l.flatMap fun(y:List Int×List Int)=>(y.1.length:Int)::(y.1++y.2)) r.nm;rw[pV,pV]at d;refine Eq.trans ?_ d.symm
 congr 1
 funext n
 unfold bV kX;rw[we,ae];rfl
def adU (l:List Int):(l.map (bh:Int->Key)).map kV=l.map V.int:=by
 rw[bq];rfl
def Vn (A:Ad) (K:ah):Sp:=λvs H Q _=>∃(w:ag) (m:mV) (b:cy),vs=[.ref w]/\fY A K H w m/\Rep b m/\iJ b/\(fh b .names).length<=10000000/\Done A K H Q w m b .names
def BJ:=show FO P w K mg base 1 _ _ _ (Vn A K) by
 exists T.Er.gp i6
 obtain⟨w,m,b,rfl,h,r,i,oQ,k⟩:=h
 refine⟨_,(aj (bS 1 i6.nd (di (aa (cG OZ rfl T.jG jI (aa (aK T.aF T.dC (pv 0)) ai)) ai)))
  (aj (Hv (j8 BC rfl (WS (aK T.aF T.dC (pv 0))) (adx rfl (Ae (eC 2 i6.nd) (Ae (eC 3 i6.nd) YA)))
  (aj (cC (CW cV pL pK HA (pv 1) (aa (cG eL rfl T.jG jI (aa (pv 2) ai)) ai)))
  (aj (cC (CW cV fF fE mB (pv 1) (aa (pv 2) ai)))
  (aq (cC (CW cV fF fE mB (pv 1) (aa (pv 3) ai))))))))
  (aq (aW (pv 1))))),?_⟩
 obtain⟨n1,n2,n3,n4,n5,n6,n7,n8⟩:=vj h.nd;obtain⟨ea,y⟩:=agA r;rw[y,ak]at oQ;have F4:=h.ob;have ę:=h.na
 lk
 intro q G;have s1:=bt.new (o:=.lst [V.int ((sU m.ns).length:Int)]) G;have O:(bB H q (.lst [V.int ((sU m.ns).length:Int)])) q=some (.lst [V.int ((sU m.ns).length:Int)]):=ao;have I:=h.same s1;generalize bB H q (.lst [V.int ((sU m.ns).length:Int)])=d at *;have vR:=I.ob;have g:=I.na
 repeat' (first|(refine HG m.dn g trivial (λe=>?_))|walk_at "")
 refine⟨?_⟩;have f1:(bB d m.dn (.gb e (.dT (sU m.ns)))) w=some (.ins A.bg m.dx (LI m)):=by rw[aw n3];exact vR
 have f2:(bB d m.dn (.gb e (.dT (sU m.ns)))) m.dn=some (.gb e (.dT (sU m.ns))):=ao;have J:q≠m.dn:=λz=>by rw[z,g]at O;cases O
 have f3:(bB d m.dn (.gb e (.dT (sU m.ns)))) q=some (.lst [V.int ((sU m.ns).length:Int)]):=by rw[aw J];exact O
 have fk:cJ [m.dn] d (bB d m.dn (.gb e (.dT (sU m.ns)))):=eO;have ff:iC d [m.dn]:=iC.one g trivial;have fl:∀n∈m.ns,gL K (bB d m.dn (.gb e (.dT (sU m.ns)))) n.2.1 (n.2.2.map V.int):=λn hn=>vS fk ff (I.nl n hn)
 lk
 refine PZ (kvs:=sU m.ns) (λj C a=>Eo (∃B f,C=[some (.ref w),some (.ref q),B,f]/\cJ [q] (bB d m.dn (.gb e (.dT (sU m.ns)))) a/\a q=some (.lst (((m.ns.length:Int)::(m.ns.take j).flatMap kn).map V.int))))
  ⟨⟨_,_,rfl,cJ.refl _ _,?_⟩⟩ (λj C a ⟨⟨_,_,_,kp,_⟩⟩=>kp _ _ f2 (by simpa using J.symm)) ?_ ?_
 ·rw[f3];unfold sU;rw[ae];rfl
 ·rintro j kk v t x C a p ht hT ⟨⟨B,f,rfl,kp,eq⟩⟩
  unfold sU at p;rw[aV]at p;cases ex:m.ns[j]? with
  |none=>rw[ex]at p;cases p
  |some n=>
   rw[ex]at p;cases p;rw[adU]at ht;have hj:=(aQ.mp ex).1;have D:=bt.new (o:=.tup [V.ref t,V.ref n.2.1]) hT;have Zf:gL K (bB a x (.tup [V.ref t,V.ref n.2.1])) n.2.1 (n.2.2.map V.int):=D.nj (sJ kp f3 (fl n (bI ex)));have F:gL K (bB a x (.tup [V.ref t,V.ref n.2.1])) t (n.1.map V.int):=.inl (.inl (D _ _ ht));have hT2:gL K (bB a x (.tup [V.ref t,V.ref n.2.1])) x [V.ref t,V.ref n.2.1]:=.inl (.inl ao);have X:=D _ _ eq;have FW:cJ [q] (bB d m.dn (.gb e (.dT (sU m.ns)))) (bB a x (.tup [V.ref t,V.ref n.2.1])):=kp.trans (cJ.same D);generalize bB a x (.tup [V.ref t,V.ref n.2.1])=S at *;have μ:=De kn m.ns (j+1);rw[yI kn ex,aI]at μ;have hnl:(kn n).length=n.1.length+n.2.2.length+1:=by unfold kn;rw[ak,aI]
   have Å:=dv.of (K:=K) X
   have z1:(((m.ns.length:Int)::(m.ns.take j).flatMap kn).map V.int).length<sizeLine:=by
    rw[ae,ak];exact ae5 (by omega)
   lk
   have Z:(bB S q (.lst ((((m.ns.length:Int)::(m.ns.take j).flatMap kn).map V.int)++[V.int ((n.1.map V.int).length:Int)]))) q=some (.lst ((((m.ns.length:Int)::(m.ns.take j).flatMap kn).map V.int)++[V.int ((n.1.map V.int).length:Int)])):=ao;have U:cJ [q] S (bB S q (.lst ((((m.ns.length:Int)::(m.ns.take j).flatMap kn).map V.int)++[V.int ((n.1.map V.int).length:Int)]))):=eO;have û:=sJ U X Zf;have ht3:=sJ U X F;generalize bB S q (.lst ((((m.ns.length:Int)::(m.ns.take j).flatMap kn).map V.int)++[V.int ((n.1.map V.int).length:Int)]))=M at *;have ī:=dv.of (K:=K) Z
   have z2:((((m.ns.length:Int)::(m.ns.take j).flatMap kn).map V.int)++[V.int ((n.1.map V.int).length:Int)]).length+(n.1.map V.int).length<=sizeLine:=by
    rw[aI,ae,ae,ak];exact Bl (by simp only[ak,gu];omega)
   lk
   have χ:(bB M q (.lst (((((m.ns.length:Int)::(m.ns.take j).flatMap kn).map V.int)++[V.int ((n.1.map V.int).length:Int)])++n.1.map V.int))) q=some (.lst (((((m.ns.length:Int)::(m.ns.take j).flatMap kn).map V.int)++[V.int ((n.1.map V.int).length:Int)])++n.1.map V.int)):=ao;have Y:cJ [q] M (bB M q (.lst (((((m.ns.length:Int)::(m.ns.take j).flatMap kn).map V.int)++[V.int ((n.1.map V.int).length:Int)])++n.1.map V.int))):=eO;have ě:=sJ Y Z û;generalize bB M q (.lst (((((m.ns.length:Int)::(m.ns.take j).flatMap kn).map V.int)++[V.int ((n.1.map V.int).length:Int)])++n.1.map V.int))=H4 at *;have sq4:=dv.of (K:=K) χ
   have z3:(((((m.ns.length:Int)::(m.ns.take j).flatMap kn).map V.int)++[V.int ((n.1.map V.int).length:Int)])++n.1.map V.int).length+(n.2.2.map V.int).length<=sizeLine:=by
    rw[aI,aI,ae,ae,ae,ak];exact Bl (by simp only[ak,gu];omega)
   lk
   refine⟨⟨_,_,rfl,((FW.trans U).trans Y).trans eO,?_⟩⟩;rw[ao,yI kn ex,<-eQ,aT];rw[show(kn n).map V.int=V.int (n.1.length:Int)::(n.1.map V.int++n.2.2.map V.int) by unfold kn;rw[bW,aT],ae];simp only[cz,eQ,sk]
 ·rintro C a ⟨⟨B,f,rfl,kp,eq⟩⟩
  rw[show(sU m.ns).length=m.ns.length from ae ..,de]at eq;refine⟨kp _ _ f2 (by simpa using J.symm),?_⟩
  lk
  refine k.vQ h r (λu o L=>?_) ea y G (by rw[aw J];exact eq);by_cases z:u=m.dn
  ·subst z;rw[ę]at L;cases L;exact ao
  ·rw[aw z];exact kp _ _ (by rw[aw z];exact s1 _ _ L) (by simpa using bp L G)
def Jc (b:cy):List (Nat×iW):=b.sheets.zipIdx.filterMap λx=>x.1.map λt=>(x.2,t)
def Og (x:Nat×iW):List Int:=(x.1:Int)::bV x.2
def Y6 {k:Nat}:(k,t)∈Jc b↔b.sheets[k]? =some (some t):=by
 unfold Jc;rw[gW];constructor
 ·rintro⟨⟨o,j⟩,d,a⟩
  rw[Wl]at d;cases o with
  |none=>cases a
  |some e=>cases a;exact d
 ·intro h;exact⟨(some t,k),Wl.mpr h,rfl⟩
def Su (b:cy):((Jc b).map (·.1)).Pairwise (·<·):=by
 unfold Jc;rw[dm,List.pairwise_filterMap]
 have:b.sheets.zipIdx.Pairwise λx y=>x.2<y.2:=by
  rw[gs];intro i j s p m;simp only[List.getElem_zipIdx];omega
 refine this.imp fun {x y} d a g c e=>?_
 obtain⟨l,o⟩:=x;obtain⟨h,n⟩:=y;cases l with
 |none=>cases g
 |some _=>
  cases h with
  |none=>cases e
  |some _=>cases g;cases e;exact d
def adl (b:cy):(bU b .sheets).1=b/\fh b .sheets=((Jc b).length:Int)::(Jc b).flatMap Og:=⟨rfl,rfl⟩
def Rep.ali (r:Rep b m) {ns:List Int} (q:ns.Perm (m.ts.map λt=>(t.1:Int))) (f:ns.Pairwise (·<=·)):ns=(Jc b).map λx=>(x.1:Int):=by
 refine Vi (λx y _ _ a i=>by omega) f ?_ (q.trans ?_)
 ·have:=Su b;rw[dm]at this⊢;exact this.imp λh=>by omega
 ·have e:(m.ts.map λt=>(t.1:Int))=(m.ts.map (·.1)).map fun(k:Nat)=>(k:Int):=by rw[bq];rfl
  have d:((Jc b).map λx=>(x.1:Int))=((Jc b).map (·.1)).map fun(k:Nat)=>(k:Int):=by rw[bq];rfl
  rw[e,d];refine aDu _ ((ou r.tn ((Su b).imp λh=>dX h)).mpr λk=>?_);rw[r.wy,iQ];constructor
  ·rintro⟨t,h⟩
   exact aG.mpr ⟨(k,t),Y6.mpr h,rfl⟩
  ·intro h;obtain⟨⟨g,t⟩,a,rfl⟩:=aG.mp h;exact⟨t,Y6.mp a⟩
def Rep.ak0 (r:Rep b m) {k:Nat} (h:(k,t)∈Jc b):∃te∈m.ts,te.1=k/\gF (gY m.ts) (bh (k:Int))=some (.ref te.2.1)/\bV t=(te.2.2.length:Int)::te.2.2:=by
 have i:=Y6.mp h;obtain⟨te,a,e⟩:=aG.mp (r.tk k (iQ.mpr ⟨t,i⟩));subst e;have d:=r.ti te a;rw[i]at d;have d:t=oct te.2.2:=ay (ay d);refine⟨te,a,rfl,gN (l:=m.ts) (f:=λt=>(bh (t.1:Int):Key)) (g:=λt=>V.ref t.2.1) (AD (f:=λt:Nat×ag×List Int=>t.1) r.tn) a,?_⟩;unfold bV;rw[d,Hx,FD (r.tb te a)]
def Sg (A:Ad) (K:ah):Sp:=λvs H Q _=>∃(w:ag) (m:mV) (b:cy),vs=[.ref w]/\fY A K H w m/\Rep b m/\iJ b/\(fh b .sheets).length<=10000000/\Done A K H Q w m b .sheets
def Aj:=show FO P w K mg base 1 _ _ _ (Sg A K) by
 exists T.CB.gp kg
 obtain⟨w,m,b,rfl,h,r,i,oQ,k⟩:=h
 refine⟨_,(aj (bS 1 kg.nd (di (aa (cG Xx rfl T.jG jI (aa (aK T.aF T.cA (pv 0)) ai)) ai)))
  (aj (j8 BC rfl (jO (cG (aef rfl) rfl T.WW Xy (aa (aK T.aF T.cA (pv 0)) ai))) (eC 2 kg.nd)
  (aj (cC (CW cV fF fE mB (pv 1) (aa (di (aa (pv 2) (aa (cG eL rfl T.jG jI (aa (l4 (iu hr) (aK T.aF T.cA (pv 0)) (pv 2) (λ_ _=>rfl)) ai)) ai))) ai)))
  (aq (cC (CW cV fF fE mB (pv 1) (aa (l4 (iu hr) (aK T.aF T.cA (pv 0)) (pv 2) (λ_ _=>rfl)) ai))))))
  (aq (aW (pv 1))))),?_⟩
 obtain⟨ea,y⟩:=adl b;rw[y,ak]at oQ;have F4:=h.ob;have Χ:=h.ti
 lk
 intro q n;have s1:=bt.new (o:=.lst [V.int ((gY m.ts).length:Int)]) n;have e1:(bB H q (.lst [V.int ((gY m.ts).length:Int)])) q=some (.lst [V.int ((gY m.ts).length:Int)]):=ao;have G:=h.same s1;generalize bB H q (.lst [V.int ((gY m.ts).length:Int)])=H1 at *;have vR:=G.ob;have amc:=G.ti
 have hks:(gY m.ts).map (λkv=>kV kv.1)=(m.ts.map λt=>(t.1:Int)).map V.int:=by
  unfold gY;rw[bq,bq];rfl
 lk
 intro ns p TV U B;have ã:=r.ali TV U;subst ã
 have ε:m.ts.length=(Jc b).length:=by
  have:=TV.length_eq;rw[ae,ae]at this;exact this.symm
 have M:=bt.new (o:=.lst (((Jc b).map λx=>(x.1:Int)).map V.int)) B;have e2:(bB H1 p (.lst (((Jc b).map λx=>(x.1:Int)).map V.int))) p=some (.lst (((Jc b).map λx=>(x.1:Int)).map V.int)):=ao;have O:=M _ _ e1;have h2:=G.same M;have yt:=s1.trans M;have X:p≠q:=λz=>by rw[z,e1]at B;cases B
 generalize bB H1 p (.lst (((Jc b).map λx=>(x.1:Int)).map V.int))=H2 at *;have Å:=dv.of (K:=K) e2
 lk
 refine pw (xs:=((Jc b).map λx=>(x.1:Int)).map V.int) (λj C H'=>Eo (∃J,C=[some (.ref w),some (.ref q),J]/\cJ [q] H2 H'/\H' q=some (.lst ((((Jc b).length:Int)::((Jc b).take j).flatMap Og).map V.int))))
  ⟨⟨_,rfl,cJ.refl _ _,?_⟩⟩ (λj C H' _ ⟨⟨_,_,kp,_⟩⟩=>dv.of (kp _ _ e2 (by simpa using X))) ?_ ?_
 ·rw[O];unfold gY;rw[ae,ε];rfl
 ·rintro j v C H' e ⟨⟨J,rfl,kp,eq⟩⟩
  rw[bq,aV]at e;cases ex:(Jc b)[j]? with
  |none=>rw[ex]at e;cases e
  |some x=>
   rw[ex]at e;obtain⟨a,tx⟩:=x;obtain rfl:V.int (a:Int)=v:=ay e;obtain⟨te,ł,hk,kr,F4⟩:=r.ak0 (bI ex);have S:bt H H':=λu o d=>kp _ _ (yt _ _ d) (by simpa using bp d n)
   have I:=h.same S;have ů:=I.ob;have g1:jt H' m.dt (.int (a:Int)) (some (.ref te.2.1)):=by rw[<-kr];exact jt.k (k:=bh (a:Int)) I.ti
   have tl1:=dv.of (K:=K) (I.tl te ł);have sqq:=dv.of (K:=K) eq;have Y:=De Og (Jc b) (j+1);rw[yI Og ex,aI]at Y;have g:(Og (a,tx))=(a:Int)::(te.2.2.length:Int)::te.2.2:=by unfold Og;rw[F4]
   rw[g,ak,ak]at Y
   lk
   intro f ó;have L:=bt.new (o:=.lst [V.int (a:Int),V.int ((te.2.2.map V.int).length:Int)]) ó;have e3:(bB H' f (.lst [V.int (a:Int),V.int ((te.2.2.map V.int).length:Int)])) f=some (.lst [V.int (a:Int),V.int ((te.2.2.map V.int).length:Int)]):=ao;have Δ:=L _ _ eq;have S3:=S.trans L;have KY:=kp.trans (cJ.same (S:=[q]) L);generalize bB H' f (.lst [V.int (a:Int),V.int ((te.2.2.map V.int).length:Int)])=D at *;have ī:=dv.of (K:=K) e3
   have z1:((((Jc b).length:Int)::((Jc b).take j).flatMap Og).map V.int).length+[V.int (a:Int),V.int ((te.2.2.map V.int).length:Int)].length<=sizeLine:=by
    rw[ae,ak];exact Bl (by simp only[ak,gu];omega)
   lk
   have χ:(bB D q (.lst (((((Jc b).length:Int)::((Jc b).take j).flatMap Og).map V.int)++[V.int (a:Int),V.int ((te.2.2.map V.int).length:Int)]))) q=some (.lst (((((Jc b).length:Int)::((Jc b).take j).flatMap Og).map V.int)++[V.int (a:Int),V.int ((te.2.2.map V.int).length:Int)])):=ao;have Z:cJ [q] D (bB D q (.lst (((((Jc b).length:Int)::((Jc b).take j).flatMap Og).map V.int)++[V.int (a:Int),V.int ((te.2.2.map V.int).length:Int)]))):=eO;generalize bB D q (.lst (((((Jc b).length:Int)::((Jc b).take j).flatMap Og).map V.int)++[V.int (a:Int),V.int ((te.2.2.map V.int).length:Int)]))=H4 at *;have S4:bt H H4:=λu o d=>Z _ _ (S3 _ _ d) (by simpa using bp d n)
   have F:=h.same S4;have TX:=F.ob;have g4:jt H4 m.dt (.int (a:Int)) (some (.ref te.2.1)):=by rw[<-kr];exact jt.k (k:=bh (a:Int)) F.ti
   have tl4:=dv.of (K:=K) (F.tl te ł);have sq4:=dv.of (K:=K) χ
   have z2:(((((Jc b).length:Int)::((Jc b).take j).flatMap Og).map V.int)++[V.int (a:Int),V.int ((te.2.2.map V.int).length:Int)]).length+(te.2.2.map V.int).length<=sizeLine:=by
    rw[aI,ae,ae,ak];exact Bl (by simp only[ak,gu];omega)
   lk
   refine⟨⟨_,rfl,(KY.trans Z).trans eO,?_⟩⟩;rw[ao,yI Og ex,<-eQ,aT,g,ae];simp only[bW,cz,eQ,sk]
 ·rintro C H' ⟨⟨J,rfl,kp,eq⟩⟩
  rw[ae,ae,de]at eq
  lk
  exact k.vQ h r (λu o d=>kp _ _ (yt _ _ d) (by simpa using bp d n)) ea y n eq
def ah4 {α:Type} (p:Kd α) (l:List Int):nc p l=(match p l with|some (x,[])=>some x|_=>none):=by
 unfold nc;rw[show atx p l=p l from rfl];cases p l with
 |none=>rfl
 |some y=>
  obtain⟨x,r⟩:=y;cases r<;>rfl
def uP (a:Lw):decide (fx a=1)=a.fixed:=by
 unfold fx;cases a.fixed<;>rfl
def ae7 (k:Nat):dG (some k)≠0:=by
 show(k:Int)+1≠0;omega
def W6:je 0 0 0=aO (cM pJ):=rfl
inductive UK (kvs:List (L2.Key×L2.V)) (b:cy) (l:List Int):Prop
 |no (h1:Ac l=none) (h2:∀f,nc (bH 1) l=some f->kJ b f=false)
 |some (f:bO) (p:List Int) (h1:Ac l=some p) (hp:Ref p) (h2:nc (bH 1) l=some f) (h3:partsOf f=[p]) (h4:jH kvs p (je 0 0 0)=kJ b f)
def agB (B:KeysOf kvs b) (l:List Int):UK kvs b l:=by
 have o:=mT 0 l;have j:=mT 31 l;have x:=ah4 (bH 1) l;have C:=By l;cases e:hP l with
 |none=>
  rw[e]at o j;refine .no ?_ λf i=>?_
  ·unfold Ac;rw[C,j];rfl
  ·rw[x,o]at i;cases i
 |some y=>
  obtain⟨nd,s⟩:=y;rw[e,aA]at o j;dsimp only at o j
  have J:∀(f:bO),nd.inner=0->nd.mk []=f->Iu f=true->fw f=1->∀p,partsOf f=[p]->Ref p->((∀k:Unit,T7 p=none->kJ b f=false)/\(∀q,T7 p=some q->q=p/\jH kvs p (je 0 0 0)=kJ b f))->UK kvs b l:=by
   intro f IA Q eR O p L M ⟨c1,c2⟩;rw[IA,sI,aA]at o j;dsimp only at o j;rw[Q]at o j;rw[j,aA,az ⟨eR,by dsimp only;omega⟩]at C;dsimp only at C;rw[o]at x;cases s with
   |cons z s=>
    refine .no ?_ λf i=>?_
    ·unfold Ac;rw[C,L]
    ·rw[x]at i;cases i
   |nil=>
    have H:Ac l=T7 p:=by unfold Ac;rw[C,L]
    cases a:T7 p with
    |none=>
     refine .no (by rw[H,a]) λf' i=>?_
     rw[x]at i;cases i;exact c1 () a
    |some q=>
     obtain⟨rfl,U⟩:=c2 q a;exact .some f q (by rw[H,a]) M (by rw[x]) L U
  have other:(∀es,kJ b (nd.mk es)=false)->lS nd.nums=false->UK kvs b l:=by
   intro Z Y;refine .no ?_ λf i=>?_
   ·unfold Ac;rw[C];cases e2:bH 32 l with
    |none=>rfl
    |some z=>
     rw[aA];split
     next p q T=>
      split at T
      ·rw[e2]at j;cases D:bQ (bH 31) nd.inner s with
       |none=>rw[D]at j;cases j
       |some u=>
        rw[D,aA]at j;cases j;have M:=abg (nd:=nd) (es:=u.1) (jl D);have:=(kZ (ay T)).1;dsimp only at this;rw[M]at this;cases this;unfold T7;rw[au (by rw[Y];exact λz=>bj z.1)]
      ·cases T
     next=>rfl
   ·rw[x,o]at i;cases D:bQ (bH 0) nd.inner s with
    |none=>rw[D]at i;cases i
    |some u=>
     obtain⟨u1,G⟩:=u;rw[D,aA]at i;cases G with
     |nil=>cases i;exact Z _
     |cons _ _=>cases i
  cases nd with
  |spot sh d=>
   refine J (.spot sh d) rfl rfl rfl rfl _ rfl (aaT sh d) ⟨λ_ a=>?_,λq a=>?_⟩
   ·have S:kJ b (.spot none d)=false:=rfl;cases sh with
    |none=>exact S
    |some k=>
     unfold T7 at a;split at a
     ·cases a
     next P=>
      have:¬(d.row.fixed=true/\d.col.fixed=true):=λz=>P ⟨rfl,ae7 k,by
       show(decide (fx d.row=1)&&decide (fx d.col=1))=true;rw[uP,uP,z.1,z.2];rfl⟩
      show(d.row.fixed&&(d.col.fixed&&dZ b pJ (.spot (some k) d)))=false;cases F:d.row.fixed with
      |false=>rfl
      |true=>
       cases X:d.col.fixed with
       |false=>rfl
       |true=>exact absurd ⟨F,X⟩ this
   ·unfold T7 at a;split at a
    next E=>
     cases a;refine⟨rfl,?_⟩;rw[W6,OP B];cases sh with
     |none=>exact absurd rfl E.2.1
     |some k=>
      have m:(decide (fx d.row=1)&&decide (fx d.col=1))=true:=E.2.2;rw[uP,uP,aC]at m;show _=(d.row.fixed&&(d.col.fixed&&dZ b pJ (.spot (some k) d)));rw[m.1,m.2,bM,bM];unfold dZ;rfl
    ·cases a
  |area sh h g=>
   refine J (.area sh h g) rfl rfl rfl rfl _ rfl (aaU sh h g) ⟨λ_ a=>?_,λq a=>?_⟩
   ·have S:kJ b (.area none h g)=false:=rfl;cases sh with
    |none=>exact S
    |some k=>
     unfold T7 at a;split at a
     ·cases a
     next P=>
      have:¬(h.row.fixed=true/\h.col.fixed=true/\g.row.fixed=true/\g.col.fixed=true):=λz=>P ⟨rfl,ae7 k,by
       show(decide (fx h.row=1)&&(decide (fx g.row=1)&&(decide (fx h.col=1)&&decide (fx g.col=1))))=true;rw[uP,uP,uP,uP,z.1,z.2.1,z.2.2.1,z.2.2.2];rfl⟩
      show(h.row.fixed&&(h.col.fixed&&(g.row.fixed&&(g.col.fixed&&dZ b pJ (.area (some k) h g)))))=false;cases a1:h.row.fixed with
      |false=>rfl
      |true=>
       cases a2:h.col.fixed with
       |false=>rfl
       |true=>
        cases a3:g.row.fixed with
        |false=>rfl
        |true=>
         cases a4:g.col.fixed with
         |false=>rfl
         |true=>exact absurd ⟨a1,a2,a3,a4⟩ this
   ·unfold T7 at a;split at a
    next E=>
     cases a;refine⟨rfl,?_⟩;rw[W6,OQ B];cases sh with
     |none=>exact absurd rfl E.2.1
     |some k=>
      have m:(decide (fx h.row=1)&&(decide (fx g.row=1)&&(decide (fx h.col=1)&&decide (fx g.col=1))))=true:=E.2.2;rw[uP,uP,uP,uP]at m;simp only[aC]at m;show _=(h.row.fixed&&(h.col.fixed&&(g.row.fixed&&(g.col.fixed&&dZ b pJ (.area (some k) h g)))));rw[m.1,m.2.1,m.2.2.1,m.2.2.2,bM,bM,bM,bM];unfold dZ;rfl
    ·cases a
  |value v=>exact other (λ_=>rfl) rfl
  |name n=>exact other (λ_=>rfl) rfl
  |column t c p=>exact other (λ_=>rfl) rfl
  |one I=>exact other (λ_=>rfl) rfl
  |two I=>exact other (λ_=>rfl) rfl
  |call f k=>exact other (λ_=>rfl) rfl
  |grid l=>exact other (λ_=>rfl) rfl
abbrev Nm:=List Int×ag×List Int
variable {ns:List Nm}
def Ti (nm:List Int) (l:List Nm):List Nm:=l.filter λn=>decide (n.1≠nm)
def HI {a b:List Int}:a.map (bh:Int->Key)=b.map bh↔a=b:=by
 constructor
 ·intro h
  induction a generalizing b with
  |nil=>cases b with|nil=>rfl|cons _ _=>cases h
  |cons x a d=>
   cases b with
   |nil=>cases h
   |cons y b=>
    rw[bW,bW]at h;injection h with g e
    rw[aeI g,d e]
 ·intro h;rw[h]
def afD (nm:List Int) (l:List Nm):qJ (sU l) (nm.map bh)=sU (Ti nm l):=by
 unfold sU;rw[HM];unfold Ti
 congr 1
 refine gK λn _=>?_
 rw[cO];simp only[aX,atn,HI]
def XY (nm:List Int) (l:List Nm):(gF (sU l) (nm.map bh)).isSome=true↔nm∈l.map (·.1):=by
 unfold sU;rw[uK,aG,aG];exact⟨fun⟨n,h,e⟩=>⟨n,h,HI.mp e⟩,fun⟨n,h,e⟩=>⟨n,h,HI.mpr e⟩⟩
def aom {l:List Nm} (h:nm∉l.map (·.1)) (a:ag) (p:List Int):putK (sU l) (nm.map bh) (.ref a)=sU (l++[(nm,a,p)]):=by
 have:=jN (l:=l) (f:=λn:Nm=>n.1.map (bh:Int->Key)) (g:=λn:Nm=>V.ref n.2.1) (x:=(nm,a,p)) (λq=>h (by
  rw[aG]at q⊢;obtain⟨n,b,e⟩:=q;exact⟨n,b,HI.mp e⟩))
 exact this
def afh (nm:List Int) (l:List Nm):nm∉(Ti nm l).map (·.1):=λh=>by
 obtain⟨n,a,e⟩:=aG.mp h;exact cb (bo.mp a).2 e
def aiH {l:List Nm} (h:nm∉l.map (·.1)):Ti nm l=l:=cD.mpr λn a=>aD λe=>h (e▸bu a)
def mV.CK (m:mV) (ns:List Nm):mV:={m with ns:=ns}
def fY.CK {w:ag} (h:fY A K H w m) (B:∀n∈ns,gL K H n.2.1 (n.2.2.map V.int)):iV A K H (bB H m.dn (.dT (sU ns))) w m (m.CK ns):=by
 obtain⟨E,D,l,C,j,i,g,z⟩:=vj h.nd;have f:=iC.one h.na trivial;refine⟨λb o e n=>?_,⟨?_,?_,?_,?_,?_,?_,ao,?_,h.nd⟩,λa y=>.inl y,λa o e=>ow e⟩
 ·rw[aw (λq=>n (by rw[q];unfold rj;simp))];exact e
 ·rw[aw l];exact h.ob
 ·show bB H m.dn _ m.dt=_;rw[aw j];exact h.ti
 ·exact λt u=>F8 eO f (h.tl t u)
 ·show bB H m.dn _ m.dc=_;rw[aw i];exact h.ce
 ·intro s d;rw[aw (g s d).2.2.2.symm];exact h.sh s d
 ·exact λs d e x=>qo eO f (h.co s d e x)
 ·exact λn p=>vS eO f (B n p)
def Rep.CK (r:Rep b m) {f:List (iW×bO)} (h:ns.map (λn=>(n.1,n.2.2))=f.map λn=>(kX n.1,(partsOf n.2).flatten)):Rep {b with names:=f} (m.CK ns)where
 tn:=r.tn
 tb:=r.tb
 ti:=r.ti
 tk:=r.tk
 cn:=r.cn
 ck:=r.ck
 en:=r.en
 cp:=r.cp
 nm:=h
def AR (h:nm.all wj=true):kX (oct nm)=nm:=FD h
def K6 {b:iW} (h:kX a=kX b):a=b:=by
 induction a generalizing b with
 |nil=>cases b with|nil=>rfl|cons _ _=>cases h
 |cons x a d=>
  cases b with
  |nil=>cases h
  |cons y b=>
   unfold kX at h;rw[bW,bW]at h;injection h with g e
   have:x.toNat=y.toNat:=by omega
   rw[UInt8.toNat_inj.mp this,d e]
def Rep.nsKeys (r:Rep b m):m.ns.map (·.1)=b.names.map λn=>kX n.1:=by
 have:=cK (acZ LC) r.nm;rw[bq,bq]at this;exact this
def Rep.afA (r:Rep b m) (h:nm.all wj=true):(b.names.any λx=>x.1==oct nm)=true↔nm∈m.ns.map (·.1):=by
 rw[r.nsKeys,Ho,aG];constructor
 ·rintro⟨x,a,e⟩
  exact⟨x,a,by rw[eq_of_beq e,AR h]⟩
 ·rintro⟨x,a,e⟩
  exact⟨x,a,fO.mpr (K6 (by rw[e,AR h]))⟩
def Rep.aea (r:Rep b m) (h:nm.all wj=true):(Ti nm m.ns).map (λn=>(n.1,n.2.2))=(b.names.filter λx=>x.1 != oct nm).map λn=>(kX n.1,(partsOf n.2).flatten):=by
 have d:(Ti nm m.ns).map (λn=>(n.1,n.2.2))=(m.ns.map λn=>(n.1,n.2.2)).filter λy=>decide (y.1≠nm):=by
  rw[zi];rfl
 have a:((b.names.filter λx=>x.1 != oct nm).map λn=>(kX n.1,(partsOf n.2).flatten))=(b.names.map λn=>(kX n.1,(partsOf n.2).flatten)).filter λy=>decide (y.1≠nm):=by
  rw[zi]
  congr 1
  refine gK λx _=>?_
  rw[cO,EJ];simp only[aEB,aX,atn];constructor
  ·intro q z;exact q (K6 (by rw[z,AR h]))
  ·intro q z;exact q (by rw[z,AR h])
 rw[d,a,r.nm]
def Yc (A:Ad) (K:ah):Sp:=λvs H Q _=>∃(w t:ag) (m:mV) (b:cy) (nm:List Int),vs=[.ref w,.ref t]/\fY A K H w m/\Rep b m/\H t=some (.tup (nm.map V.int))/\nm.all wj=true/\cI (oct nm)=true/\Done A K H Q w m b (.name (oct nm) [])
def aha {n:iW} (h:cI n=true):bU b (.name n [])=if(b.names.any λx=>x.1==n)=true then({b with names:=b.names.filter λx=>x.1 != n},h9 0)else(b,h9 (-2)):=by
 unfold bU;dsimp only;rw[h];rfl
def DP:=show FO P w K mg base 1 _ _ _ (Yc A K) by
 exists T.Hd.gp DK
 obtain⟨w,t,m,b,nm,rfl,h,r,u,i,eR,k⟩:=h
 refine⟨_,(aj (ee (Bz (Af (iu hr) (pv 1) (aK T.aF T.dC (pv 0)))) (aq (aW (di (aa (bE rfl T.Rc) ai)))) cv)
  (aj (cC (WU (iu hr) (aK T.aF T.dC (pv 0)) (pv 1) ⟨rfl,rfl,rfl,rfl⟩))
  (aq (aW (di (aa (bE rfl T.i8) ai)))))),?_⟩
 have X:=h.ob;have p:=h.na;have d:=aha (b:=b) eR;rw[<-adU]at u;have y:=jt.t (k:=nm.map bh) p u;have L:IsD H m.dn:=.inr ⟨_,.inl p⟩;cases g:gF (sU m.ns) (nm.map bh)with
 |none=>
  rw[g]at y
  have J:¬(b.names.any λx=>x.1==oct nm)=true:=λz=>by
   have:=(XY nm m.ns).mpr ((r.afA i).mp z);rw[g]at this;cases this
  rw[au J]at d
  lk
  intro q a;exact k.vQ h r (bt.new a) (by rw[d]) (l:=[-2]) (by unfold fh;rw[d];rfl) a ao
 |some v=>
  rw[g]at y;have D:=(r.afA i).mpr ((XY nm m.ns).mp (by rw[g];rfl));rw[az D]at d
  lk
  intro q a;have e:=h.CK (ns:=Ti nm m.ns) (λn M=>h.nl n (bo.mp M).1);rw[afD]at a⊢;have j:=e.trans h (e.at_.step (bt.new (o:=.lst [V.int 0]) a));refine k _ q _ j (by rw[d];exact r.CK (r.aea i)) ?_ (by rw[ao];unfold fh;rw[d];rfl);refine e.none h a λS=>?_
  obtain⟨o,C,_⟩:=e.at_.fp q S;rw[a]at C;cases C
def aaD (A:Ad) (K:ah):Sp:=λvs H Q _=>∃(w t a:ag) (m:mV) (b:cy) (nm l p:List Int) (f:bO),vs=[.ref w,.ref t,.ref a]/\fY A K H w m/\Rep b m/\iJ b/\H t=some (.tup (nm.map V.int))/\gL K H a (p.map V.int)/\nm.all wj=true/\cI (oct nm)=true/\
 (l≠[]/\nc (bH 1) l=some f/\kJ b f=true/\partsOf f=[p])/\Done A K H Q w m b (.name (oct nm) l)
def ag9 {n:iW} (h:cI n=true) (F:l≠[]) (q:nc (bH 1) l=some f) (B:kJ b f=true):bU b (.name n l)=if 256<=(b.names.filter λx=>x.1 != n).length then(b,h9 (-5))else({b with names:=(b.names.filter λx=>x.1 != n)++[(n,f)]},h9 0):=by
 unfold bU;dsimp only;rw[h,au (by decide),au F,q];dsimp only;rw[B,au (by decide)];rfl
def FC:=show FO P w K mg base 1 _ _ _ (aaD A K) by
 exists T.IT.gp E2
 obtain⟨w,t,a,m,b,nm,l,p,f,rfl,h,r,i,L,ha,G,eR,⟨hl,hw,B,ð⟩,k⟩:=h
 refine⟨_,(aj (ee (PW.pt (Yw (Bz (Af (iu hr) (pv 1) (aK T.aF T.dC (pv 0)))) (RI (cS i7 (cG OZ rfl T.jG jI (aa (aK T.aF T.dC (pv 0)) ai)) (bE rfl T.VS))))) (aq (aW (di (aa (bE rfl T.w9) ai)))) cv)
  (aj (cC (WT (iu hr) (aK T.aF T.dC (pv 0)) (pv 1) KG ⟨rfl,rfl,rfl,rfl⟩))
  (aj (vN (iu hr) (aK T.aF T.dC (pv 0)) (pv 1) (pv 2) rfl)
  (aq (aW (di (aa (bE rfl T.i8) ai))))))),?_⟩
 have F4:=h.ob;have X:=h.na;have D:=ag9 (b:=b) eR hl hw B;rw[<-adU]at L;have g1:=jt.t (k:=nm.map bh) X L;have isd:IsD H m.dn:=.inr ⟨_,.inl X⟩
 have ε:m.ns.length=b.names.length:=by
  have:=cK gh r.nm;rw[ae,ae]at this;exact this
 have asi:(sU m.ns).length=m.ns.length:=ae ..
 have F:(Ti nm m.ns).length=(b.names.filter λx=>x.1 != oct nm).length:=by
  have:=cK gh (r.aea G);rw[ae,ae]at this;exact this
 have μ:(Ti nm m.ns).length<=m.ns.length:=cN _ _;have ajk:=i.YT
 have Z:∀d:Hp,d=bB H m.dn (.dT (sU (Ti nm m.ns)))\/(d=H/\Ti nm m.ns=m.ns)->(Ti nm m.ns).length<256->d m.dn=some (.dT (sU (Ti nm m.ns)))/\d w=some (.ins A.bg m.dx (LI m))/\d t=some (.tup ((nm.map (bh:Int->Key)).map kV))/\
  ∀q,(bB d m.dn (.dT (putK (sU (Ti nm m.ns)) (nm.map bh) (.ref a)))) q=none->Q (.ref q) (bB (bB d m.dn (.dT (putK (sU (Ti nm m.ns)) (nm.map bh) (.ref a)))) q (.lst [V.int 0])):=by
  intro d I yH
  have y:iV A K H d w m (m.CK (Ti nm m.ns)):=by
   rcases I with rfl|⟨rfl,e⟩
   ·exact h.CK λn u=>h.nl n (bo.mp u).1
   ·rw[e];exact h.step (bt.refl _)
  have ô:gL K d a (p.map V.int):=vS y.keep h.D5 ha
  have Y:=y.at_.CK (ns:=Ti nm m.ns++[(nm,a,p)]) (λn u=>by
   rcases bL.mp u with u|u
   ·exact y.at_.nl n u
   ·rw[br.mp u];exact ô)
  refine⟨y.at_.na,y.at_.ob,T2 y.keep h.D5 L,λq j=>?_⟩;rw[aom (afh nm m.ns) a p]at j⊢;have J:=y.trans h Y;have Ð:=J.trans h (Y.at_.step (bt.new (o:=.lst [V.int 0]) j));rw[au (by omega)]at D;refine k _ q _ Ð ?_ ?_ (by rw[ao];unfold fh;rw[D];rfl)
  ·rw[D];refine r.CK (ns:=Ti nm m.ns++[(nm,a,p)]) ?_;rw[aT,aT,r.aea G]
   congr 1
   show [(nm,p)]=[(kX (oct nm),(partsOf f).flatten)];rw[ð,AR G];simp
  ·refine J.none h j λhm=>?_
   obtain⟨o,eo,_⟩:=Y.at_.fp q hm;exact nomatch (eo.symm.trans j)
 cases C:gF (sU m.ns) (nm.map bh)with
 |none=>
  rw[C]at g1
  have é:nm∉m.ns.map (·.1):=λz=>by
   have:=(XY nm m.ns).mpr z;rw[C]at this;cases this
  have S:=aiH é;rw[S]at F;by_cases anw:m.ns.length=256
  ·rw[az (by omega)]at D;have U:((sU m.ns).length:Int)=256:=by omega
   lk
   intro q j;exact k.vQ h r (bt.new j) (by rw[D]) (l:=[-5]) (by unfold fh;rw[D];rfl) j ao
  ·have U:¬((sU m.ns).length:Int)=256:=by omega
   obtain⟨O,f2,f3,M⟩:=Z H (.inr ⟨rfl,S⟩) (by rw[S];omega);rw[S]at O M;have g:(sU m.ns).length<sizeLine:=dO (by omega);have dp:=Ey.t (v:=V.ref a) X L g
   lk
   refine⟨(λv z=>nomatch (C.symm.trans z)),λ_=>?_⟩
   lk
   exact M
 |some v=>
  rw[C]at g1;have D1:=(XY nm m.ns).mp (by rw[C];rfl)
  have yH:(Ti nm m.ns).length<m.ns.length:=by
   rcases Nat.lt_or_eq_of_le μ with q|q
   ·exact q
   ·have e2:Ti nm m.ns=m.ns:=cD.mpr (List.length_filter_eq_length_iff.mp q);have:=afh nm m.ns;rw[e2]at this;exact absurd D1 this
  obtain⟨O,f2,f3,M⟩:=Z _ (.inl rfl) (by omega)
  have g:(sU (Ti nm m.ns)).length<sizeLine:=by
   have:(sU (Ti nm m.ns)).length=(Ti nm m.ns).length:=ae ..;exact dO (by omega)
  have dp:=Ey.t (v:=V.ref a) O f3 g
  lk
  refine⟨λv' z=>?_,λz=>nomatch (C.symm.trans z)⟩;rw[afD]
  lk
  exact M
def aaB (A:Ad) (K:ah):Sp:=λvs H Q _=>∃(w a l:ag) (m:mV) (b:cy) (nm told:List Int),vs=[.ref w,.ref a,.ref l]/\fY A K H w m/\Rep b m/\iJ b/\dv K H a (nm.map V.int)/\dv K H l (told.map V.int)/\nm.all wj=true/\Done A K H Q w m b (.name (oct nm) told)
def Zp {n:iW} (h:cI n=false):bU b (.name n l)=(b,h9 (-3)):=by
 unfold bU;dsimp only;rw[h];rfl
def JL {n:iW} (h:cI n=true) (q:l≠[]) (B:∀f,nc (bH 1) l=some f->kJ b f=false):bU b (.name n l)=(b,h9 (-3)):=by
 unfold bU;dsimp only;rw[h,au (by decide),au q];cases a:nc (bH 1) l with
 |none=>rfl
 |some f=>
  dsimp only;rw[B f a];rfl
def Fz:=show FO P w K mg base 12 _ _ _ (aaB A K) by
 exists T.IQ.gp tq
 obtain⟨w,a,l,m,b,nm,d,rfl,h,r,i,ha,hl,Y,k⟩:=h
 refine⟨_,(aj (ee (ki (iG (bN (Tc T) hr T.Tv T.Pd.kp T.XF (aa (pv 1) ai)))) (aq (aW (di (aa (bE rfl T.jh) ai)))) cv)
  (aj (ee (ki (SQ (pv 2) (λ_=>rfl))) (aq (aW (bx (pv 0) T.aF T.DV (DP T) hr T.GL (aa (sA om rfl T.FE GC (aa (pv 1) ai)) ai)))) cv)
  (aj (SR (i:=3) (Ag T) (hr.mono (by decide)) rfl T.Ap T.qY.kp T.Cg (aa (pv 2) ai) tq.nd rfl (oY rfl) T.fH rfl (λ_=>(aq (aW (di (aa (bE rfl T.jh) ai))))) rfl rfl rfl)
  (aj (ee (ki (iG (bN (oO T) hr T.oP T.mi.kp T.qS (aa (pv 3) (aa (aa0 (Ai T) hr T.Ar T.uR.kp T.Dt) (aa (aK T.aF T.cA (pv 0)) ai)))))) (aq (aW (di (aa (bE rfl T.jh) ai)))) cv)
  (aq (aW (bx (pv 0) T.aF T.FT (FC T) hr T.IG (aa (sA om rfl T.FE GC (aa (pv 1) ai)) (aa (pv 3) ai))))))))),?_⟩
 have F4:=h.ob;have x:=abe nm;rw[Y,bM]at x
 lk
 intro H1 j;have h1:=h.same j;have vR:=h1.ob;have ô:=j.seq ha;have ó:=j.seq hl;cases eR:cI (oct nm)with
 |false=>
  rw[x,eR]
  lk
  intro q e;have n:=Zp (b:=b) (l:=d) eR;exact k.vQ h r (j.bB e) (by rw[n]) (l:=[-3]) (by unfold fh;rw[n];rfl) (none_of j e) ao
 |true=>
  rw[x,eR];by_cases J:d=[]
  ·subst J;have tv:aci K (.ref l) H1 false:=.inl ⟨_,ó,rfl⟩
   lk
   refine oY ⟨ô,λt M=>?_⟩;have u:=j.bB (o:=.tup (nm.map V.int)) M;have h2:=h.same u;have G:(bB H1 t (.tup (nm.map V.int))) t=some (.tup (nm.map V.int)):=ao;refine⟨w,t,m,b,nm,rfl,h2,r,G,Y,eR,λH' q B st X e eq=>?_⟩;exact k H' q B ((h.step u).trans h st) X (none_of u e) eq
  ·have tv:aci K (.ref l) H1 true:=.inl ⟨_,ó,by cases d with|nil=>exact absurd rfl J|cons _ _=>rfl⟩
   have TY:=r.keysOf;cases agB TY d with
   |no L q2=>
    have n:=JL (b:=b) eR J q2
    lk
    refine⟨λ_ H2 u=>?_,λp hp=>nomatch (L.symm.trans hp)⟩;have y:=j.trans u
    lk
    intro q e;exact k.vQ h r (y.bB e) (by rw[n]) (l:=[-3]) (by unfold fh;rw[n];rfl) (none_of y e) ao
   |some f p L q2 q3 q4 q5=>
    lk
    refine⟨(λz=>nomatch (L.symm.trans z)),λp' U H2 a2 u W4=>?_⟩;obtain rfl:p=p':=ay (L.symm.trans U);have y:=j.trans u;have h2:=h.same y;have D0:=h2.ob
    lk
    intro H3 c3 s3 n3 a3;have xU:=y.trans s3;have h3:=h.same xU;have B8:=h3.ob;have aoT:=h3.ti;have ń:=s3.nj W4
    lk
    intro H4 s4;have D:=xU.trans s4;have h4:=h.same D;have TX:=h4.ob;have O:=s4.nj ń;have Z:=D.seq ha;cases g:kJ b f with
    |false=>
     rw[q5,g];have n:=JL (b:=b) eR J (λf' C=>by rw[q3]at C;cases C;exact g)
     lk
     intro q e;exact k.vQ h r (D.bB e) (by rw[n]) (l:=[-3]) (by unfold fh;rw[n];rfl) (none_of D e) ao
    |true=>
     rw[q5,g]
     lk
     refine oY ⟨Z,λt M=>?_⟩;have S:=D.bB (o:=.tup (nm.map V.int)) M;have h5:=h.same S;have F:(bB H4 t (.tup (nm.map V.int))) t=some (.tup (nm.map V.int)):=ao;have I:=(bt.new (o:=.tup (nm.map V.int)) M).nj O;refine⟨_,rfl,w,t,a2,m,b,nm,d,p,f,rfl,h5,r,i,F,I,Y,eR,⟨J,q3,g,q4⟩,λH' q B st X e eq=>?_⟩;exact k H' q B ((h.step S).trans h st) X (none_of S e) eq
def WN (q:m.ts=[]) (f:m.cs=[]) (B:m.ns=[]):Rep mm m where
 tn:=by rw[q];exact .nil
 tb:=λt a=>by rw[q]at a;cases a
 ti:=λt a=>by rw[q]at a;cases a
 tk:=λk b=>by
  obtain⟨t,e⟩:=iQ.mp b;unfold mm at e;rw[EM]at e;split at e<;>cases e
 cn:=by rw[f];exact .nil
 ck:=λk=>by
  rw[f];constructor
  ·intro z;cases z
  ·intro b;obtain⟨t,e⟩:=iQ.mp b;unfold mm at e;rw[EM]at e;split at e<;>cases e
 en:=λs d=>by rw[f]at d;cases d
 cp:=by rw[f];exact .nil
 nm:=by rw[B];rfl
def m0 (dx dt dc dn:ag):mV:=⟨dx,dt,dc,dn,[],[],[]⟩
def aak {w dt dn:ag} (f:H w=some (.ins A.bg dx (LI (m0 dx dt dc dn)))) (F:H dt=some (.dK [])) (B:H dc=some (.dK [])) (q:H dn=some (.dT [])) (G:dt≠dc):fY A K H w (m0 dx dt dc dn)where
 ob:=f
 ti:=F
 tl:=λt b=>by cases b
 ce:=B
 sh:=λs a=>by cases a
 co:=λs a=>by cases a
 na:=q
 nl:=λn G=>by cases G
 nd:=by
  have i:w≠dt:=λz=>by rw[z,F]at f;cases f
  have h:w≠dc:=λz=>by rw[z,B]at f;cases f
  have g:w≠dn:=λz=>by rw[z,q]at f;cases f
  have e:dt≠dn:=λz=>by rw[z,q]at F;cases F
  have d:dc≠dn:=λz=>by rw[z,q]at B;cases B
  unfold rj m0;simp[i,h,g,e,d,G]
def Of (A:Ad) (K:ah):Sp:=λvs H Q _=>∃(p dx:ag),vs=[.ref p]/\H p=some (.ins A.bg dx [])/\∀(H':Hp) (m:mV),fY A K H' p m->Rep mm m->cJ [p] H H'->(∀a∈rj p m,a=p\/H a=none)->Q .m6 H'
def OD:=show FO P w K mg base 1 _ _ _ (Of A K) by
 exists T.Ru.gp Om
 obtain⟨p,dx,rfl,M,k⟩:=h
 exists (aj (fU T.aF T.cA (pv 0) Fp)
  (aj (fU T.aF T.cT (pv 0) Fp)
  (aq (fU T.aF T.dC (pv 0) Fo)))),0
 intro dt y;have q:(bB H dt (.dK [])) p=some (.ins A.bg dx []):=by rw[aw (bp M y)];exact M
 lk
 intro dc m;have J:p≠dt:=bp M y;have u:p≠dc:=λz=>by rw[<-z,ao]at m;cases m
 have C:(bB H dt (.dK [])) dc=none:=by rw[aw u.symm]at m;exact m
 have D:dt≠dc:=λz=>by rw[<-z,ao]at C;cases C
 have j:H dc=none:=by rw[aw D.symm]at C;exact C
 have f:(bB (bB (bB H dt (.dK [])) p (.ins A.bg dx [("titles",.ref dt)])) dc (.dK [])) p=some (.ins A.bg dx [("titles",.ref dt)]):=by rw[aw u,ao]
 lk
 intro dn d;have x:p≠dn:=λz=>by rw[<-z,ao]at d;cases d
 rw[aw x.symm]at d;have i:dc≠dn:=λz=>by rw[<-z,ao]at d;cases d
 rw[aw i.symm,aw x.symm]at d;have g:dt≠dn:=λz=>by rw[<-z,ao]at d;cases d
 rw[aw g.symm]at d;have X:(bB (bB (bB (bB (bB H dt (.dK [])) p (.ins A.bg dx [("titles",.ref dt)])) dc (.dK [])) p (.ins A.bg dx [("titles",.ref dt),("cells",.ref dc)])) dn (.dT [])) p=some (.ins A.bg dx [("titles",.ref dt),("cells",.ref dc)]):=by rw[aw x,ao]
 lk
 refine k _ (m0 dx dt dc dn) (aak ao ?_ ?_ ?_ D) (WN rfl rfl rfl) (λb o e n=>?_) ?_
 ·rw[aw J.symm,aw g,aw J.symm,aw D,aw J.symm,ao]
 ·rw[aw u.symm,aw i,aw u.symm,ao]
 ·rw[aw x.symm,ao]
 ·have L:b≠p:=by simpa using n
  rw[aw L,aw (bp e d),aw L,aw (bp e j),aw L,aw (bp e y)];exact e
 ·intro a S;unfold rj m0 at S;simp only[lD,aY,Vg,az5]at S;rcases S with rfl|rfl|rfl|rfl
  ·exact .inl rfl
  ·exact .inr y
  ·exact .inr j
  ·exact .inr d
def Vl (A:Ad) (K:ah):Sp:=λvs H Q _=>∃(w:ag) (m:mV) (b:cy),vs=[.ref w]/\fY A K H w m/\Done A K H Q w m b .new_
def BI:=show FO P w K mg base 1 _ _ _ (Vl A K) by
 exists T.Ep.gp Bs
 obtain⟨p,m,b,rfl,h,k⟩:=h
 refine⟨_,(aj (fU T.aF T.cA (pv 0) Fp)
  (aj (fU T.aF T.cT (pv 0) Fp)
  (aj (fU T.aF T.dC (pv 0) Fo)
  (aq (aW (di (aa (bE rfl T.i8) ai))))))),?_⟩
 have G:=h.ob
 lk
 intro dt S;have J:p≠dt:=bp G S;have Y:(bB H dt (.dK [])) p=some (.ins A.bg m.dx (LI m)):=by rw[aw J];exact G
 lk
 intro dc D;have L:p≠dc:=λz=>by rw[<-z,ao]at D;cases D
 have f:(bB H dt (.dK [])) dc=none:=by rw[aw L.symm]at D;exact D
 have B:dt≠dc:=λz=>by rw[<-z,ao]at f;cases f
 have j:H dc=none:=by rw[aw B.symm]at f;exact f
 have U:(bB (bB (bB H dt (.dK [])) p (.ins A.bg m.dx [("titles",.ref dt),("cells",.ref m.dc),("names",.ref m.dn)])) dc (.dK [])) p=some (.ins A.bg m.dx [("titles",.ref dt),("cells",.ref m.dc),("names",.ref m.dn)]):=by rw[aw L,ao]
 lk
 intro dn g;have M:p≠dn:=λz=>by rw[<-z,ao]at g;cases g
 rw[aw M.symm]at g;have C:dc≠dn:=λz=>by rw[<-z,ao]at g;cases g
 rw[aw C.symm,aw M.symm]at g;have u:dt≠dn:=λz=>by rw[<-z,ao]at g;cases g
 rw[aw u.symm]at g;have O:(bB (bB (bB (bB (bB H dt (.dK [])) p (.ins A.bg m.dx [("titles",.ref dt),("cells",.ref m.dc),("names",.ref m.dn)])) dc (.dK [])) p (.ins A.bg m.dx [("titles",.ref dt),("cells",.ref dc),("names",.ref m.dn)])) dn (.dT [])) p=some (.ins A.bg m.dx [("titles",.ref dt),("cells",.ref dc),("names",.ref m.dn)]):=by rw[aw M,ao]
 lk
 intro q X
 have zz:fY A K (bB (bB (bB (bB (bB (bB H dt (.dK [])) p (.ins A.bg m.dx [("titles",.ref dt),("cells",.ref m.dc),("names",.ref m.dn)])) dc (.dK [])) p (.ins A.bg m.dx [("titles",.ref dt),("cells",.ref dc),("names",.ref m.dn)])) dn (.dT [])) p (.ins A.bg m.dx [("titles",.ref dt),("cells",.ref dc),("names",.ref dn)])) p (m0 m.dx dt dc dn):=by
  refine aak ao ?_ ?_ ?_ B
  ·rw[aw J.symm,aw u,aw J.symm,aw B,aw J.symm,ao]
  ·rw[aw L.symm,aw C,aw L.symm,ao]
  ·rw[aw M.symm,ao]
 have st:iV A K H _ p m (m0 m.dx dt dc dn):=⟨λb o e n=>?_,zz,?_,λa o e=>by
  obtain⟨o1,Y⟩:=ow (d:=dt) (x:=.dK []) e;obtain⟨o2,U⟩:=ow (d:=p) (x:=.ins A.bg m.dx [("titles",.ref dt),("cells",.ref m.dc),("names",.ref m.dn)]) Y;obtain⟨o3,O⟩:=ow (d:=dc) (x:=.dK []) U;obtain⟨o4,e4⟩:=ow (d:=p) (x:=.ins A.bg m.dx [("titles",.ref dt),("cells",.ref dc),("names",.ref m.dn)]) O;obtain⟨o5,e5⟩:=ow (d:=dn) (x:=.dT []) e4;exact ow e5⟩
 ·have QK:=st.trans h (zz.step (bt.new (o:=.lst [V.int 0]) X));refine k _ q _ QK (WN rfl rfl rfl) ?_ (by rw[ao];rfl);cases z:H q with
  |none=>rfl
  |some o=>
   exfalso;have i:q≠p:=λy=>by rw[y,ao]at X;cases X
   have Z:H q=none:=by
    have I:=X;rw[aw i,aw (bp z g),aw i,aw (bp z j),aw i,aw (bp z S)]at I;exact I
   rw[z]at Z;cases Z
 ·have i:b≠p:=λz=>n (by rw[z];unfold rj;exact aM)
  rw[aw i,aw (bp e g),aw i,aw (bp e j),aw i,aw (bp e S)];exact e
 ·intro a F;unfold rj m0 at F;simp only[lD,aY,Vg,az5]at F;rcases F with rfl|rfl|rfl|rfl
  ·exact .inl (by unfold rj;exact aM)
  ·exact .inr S
  ·exact .inr j
  ·exact .inr g
def aei (x:cE):(cY x).empty=acG x:=by
 unfold hW.empty cY acG;cases x with
 |value v=>cases v<;>rfl
 |formula f=>rfl
def aeh (x:cE):∃z p ps,(cY x).parts=(z::p)::ps:=by
 cases x with
 |value v=>
  cases v with
  |empty=>exact⟨_,_,_,rfl⟩
  |num z=>exact⟨_,_,_,rfl⟩
  |text b=>exact⟨_,_,_,rfl⟩
  |truth b=>exact⟨_,_,_,rfl⟩
  |error k=>exact⟨_,_,_,rfl⟩
 |formula f=>
  show ∃z p ps,partsOf f=(z::p)::ps;cases e:partsOf f with
  |nil=>exact absurd e (aa1 f)
  |cons q ps=>
   have:=tO f q (by rw[e];exact aM);cases q with
   |nil=>exact absurd rfl this.1
   |cons z p=>exact⟨z,p,ps,rfl⟩
def afJ (x:cE):(cY x).kind=1->∀p∈(cY x).parts,oU p:=by
 cases x with
 |value v=>intro h;cases h
 |formula f=>intro _;exact tO f
def agp (f:(es.map (·.1)).Nodup) (h:e.1∈es.map (·.1)):(es.map λy=>if nY y=nY e then e else y).Perm (e::es.filter λy=>decide (y.1≠e.1)):=by
 induction es with
 |nil=>cases h
 |cons x es i=>
  obtain⟨b,d⟩:=bR.mp f;rw[bW,cQ];by_cases q:x.1=e.1
  ·rw[az (lB.mpr q),au (by simpa using q)]
   have l:(es.map λy=>if nY y=nY e then e else y)=es:=by
    refine(cW (g:=id) λy a=>?_).trans (zg _);rw[au (λz=>b (by show x.1∈es.map (·.1);rw[q,<-lB.mp z];exact bu a))];rfl
   have j:(es.filter λy=>decide (y.1≠e.1))=es:=cD.mpr λy a=>aD λz=>b (by show x.1∈es.map (·.1);rw[q,<-z];exact bu a)
   rw[l,j]
  ·rw[au (λz=>q (lB.mp z)),az (by simpa using q)];rcases aY.mp h with h|h
   ·exact absurd h.symm q
   ·exact((i d h).cons x).trans (ah1 ..)
def Rep.arn (r:Rep b m) (i:iJ b) (G:(m.cs.map (·.2.1)).Nodup) (f:s∈m.cs) (B:s.1=c.sheet) {a:ag}
 (F:es.Perm (((c.row,c.col),a,cY x)::s.2.2.filter λy=>decide (y.1≠(c.row,c.col)))):Rep {b with cells:=fQ c x b.cells} (m.cR s.2.1 es):=by
 obtain⟨rest,C,u,o⟩:=r.split G f;refine r.cR f ?_ ?_
 ·have:=F.map (·.1);refine(this.nodup_iff).mpr ?_;rw[bW,bR];refine⟨λz=>?_,(eG.map _).nodup (r.en s f)⟩;obtain⟨y,g,e⟩:=aG.mp z;exact cb (bo.mp g).2 e
 ·refine(o es).trans ?_;refine wc ?_ ((Mq i.RE).map λx=>(x.1,cY x.2)).symm;rw[bW];have D:((b.cells.filter λy=>y.1 != c).map λx=>(x.1,cY x.2))=(cellsOf b).filter λy=>y.1 != c:=(vW b (λd=>d != c)).symm
  rw[D]
  have n:((cellsOf b).filter λy=>y.1 != c).Perm ((s.2.2.filter λy=>decide (y.1≠(c.row,c.col))).map (mE s.1)++rest):=by
   refine(u.filter _).trans ?_
   rw[eT,yJ (p:=λd=>d != c),cD (l:=rest).mpr (λy g=>by
    rw[EJ];intro z;exact C y g (by rw[z,B]))]
   refine fo _ (ji (cK _ (gK λe _=>?_)));rw[cO,EJ];simp only[aX,atn];rw[B];constructor
   ·intro q z;exact q (by rw[z])
   ·intro q z;refine q ?_;cases c;injection z with E j h
    exact Wk j h
  refine wc (fo _ (F.map (mE s.1))) ?_;rw[bW,eQ];refine wc (ji ?_) ((n.symm).cons _)
  congr 1
  unfold mE;rw[B]
def Rep.asX (r:Rep b m) (F:(m.cs.map (·.2.1)).Nodup) (f:s∈m.cs) (B:s.1=c.sheet):
 Rep {b with cells:=b.cells.filter λy=>y.1 != c} (m.cR s.2.1 (s.2.2.filter λy=>decide (y.1≠(c.row,c.col)))):=by
 obtain⟨rest,n,j,i⟩:=r.split F f;refine r.cR f ((eG.map _).nodup (r.en s f)) ((i _).trans ?_);have o:((b.cells.filter λy=>y.1 != c).map λx=>(x.1,cY x.2))=(cellsOf b).filter λy=>y.1 != c:=(vW b (λd=>d != c)).symm
 rw[o];refine HX ((j.filter _).trans ?_)
 rw[eT,yJ (p:=λd=>d != c),cD (l:=rest).mpr (λy h=>by
  rw[EJ];intro z;exact n y h (by rw[z,B]))]
 refine fo _ (ji (cK _ (gK λe _=>?_)));rw[cO,EJ];simp only[aX,atn];rw[B];constructor
 ·intro q z;exact q (by rw[z])
 ·intro q z;refine q ?_;cases c;injection z with u g a
  exact Wk g a
def Tn {l:List Nat} (h:l.Nodup) (f:∀x∈l,x<n):l.length<=n:=by
 have a:l.Perm ((f7 n).filter λk=>decide (k∈l)):=(ou h (amS.filter _)).mpr λk=>by
  rw[bo,iM,aX];exact⟨λz=>⟨f k z,z⟩,λz=>z.2⟩
 rw[a.length_eq];have:=cN (λk=>decide (k∈l)) (f7 n);rw[uI]at this;exact this
def Rep.ajQ (r:Rep b m) (i:iJ b):m.cs.length<=64:=by
 have:=Tn (n:=64) r.cn (λk a=>by
  have:=Sq ((r.ck k).mp a);rw[i.len]at this;exact this)
 rw[ae]at this;exact this
def alz (i:iJ b):(fQ c x b.cells).length=if c∈kG b.cells then b.cells.length else b.cells.length+1:=by
 rw[(Mq i.RE).length_eq,ak]
 have m:(b.cells.filter λy=>y.1 != c).length+(b.cells.filter λy=>y.1==c).length=b.cells.length:=by
  have:=Ca (λy:bP×cE=>y.1==c) b.cells;rw[ahJ]at this;exact this
 split
 next h=>
  obtain⟨y,g,e⟩:=aG.mp h
  have s:(b.cells.filter λy=>y.1==c).length<=1:=by
   have l:=i.RE.nodup;refine HU λd=>?_
   have j:(kG (b.cells.filter λy=>y.1==c)).Nodup:=(eG.map _).nodup l
   match a:(b.cells.filter λy=>y.1==c)with
   |[]=>rw[a]at d;simp at d
   |[_]=>rw[a]at d;simp at d
   |u::v::ws=>
    rw[a]at j;have o:u.1=c:=eq_of_beq (bo.mp (show u∈(b.cells.filter λy=>y.1==c) by rw[a];exact aM)).2;have n:v.1=c:=eq_of_beq (bo.mp (show v∈(b.cells.filter λy=>y.1==c) by rw[a];exact aL _ aM)).2;exact(bR.mp j).1 (by show u.1∈(v::ws).map (·.1);rw[o,<-n];exact aM)
  have p:0<(b.cells.filter λy=>y.1==c).length:=aeM (bo.mpr ⟨g,fO.mpr e⟩);omega
 next h=>
  have:(b.cells.filter λy=>y.1==c)=[]:=aeN.mpr λy g z=>h (by rw[<-eq_of_beq z];exact bu g)
  rw[this,gu]at m;omega
def Rep.inKeys (r:Rep b m) (i:iJ b) (f:s∈m.cs) (B:s.1=c.sheet):c∈kG b.cells↔(c.row,c.col)∈s.2.2.map (·.1):=by
 constructor
 ·intro h;refine ir λz=>?_
  have:=r.Nz i r.cn f B (λe a q=>z (by rw[<-q];exact bu a));exact CS.Nz.mp this h
 ·intro h;obtain⟨e,a,q⟩:=aG.mp h;obtain⟨x,d,_⟩:=r.Ny i f B a q;exact aG.mpr ⟨_,(CS.Ny i.RE).mp d,rfl⟩
def aod (A:Ad) (K:ah):Sp:=λvs H Q _=>∃(w t a:ag) (m:mV) (b:cy) (c:bP) (l:List Int) (x:cE),vs=[.ref w,.int (c.sheet:Int),.ref t,.ref a]/\fY A K H w m/\Rep b m/\iJ b/\H t=some (.tup [V.int (c.row:Int),V.int (c.col:Int)])/\nz A K H a (cY x)/\
 (b.sheet c.sheet=true/\bU b (.set c l)=if 16384<(b.put c x).cells.length then(b,h9 (-5))else(b.put c x,h9 0))/\Done A K H Q w m b (.set c l)
def Q7:=show FO P w K mg base 2 _ _ _ (aod A K) by
 exists T.U3.gp CN
 obtain⟨w,t,a,m,b,c,l,x,rfl,h,r,i,ht,Κ,⟨τ,d⟩,k⟩:=h
 refine⟨_,(aj (bS 4 CN.nd (l4 (iu hr) (aK T.aF T.cT (pv 0)) (pv 1) (λ_ _=>rfl)))
  (aj (ee (iG (fA (pv 3) T.ij T.Iy (Ir T) hr T.K9)) (aj (cC (WT (iu hr) (pv 4) (pv 2) KG ⟨rfl,rfl,rfl,rfl⟩))
  (aq (aW (di (aa (bE rfl T.i8) ai))))) cv)
  (aj (ee (PW.pt (Yw (Bz (Af (iu hr) (pv 2) (pv 4))) (RI (cS i7 (fA (pv 0) T.aF T.ph (pf T) hr T.qV) (bE rfl T.JB))))) (aq (aW (di (aa (bE rfl T.w9) ai)))) cv)
  (aj (vN (iu hr) (pv 4) (pv 2) (pv 3) rfl)
  (aq (aW (di (aa (bE rfl T.i8) ai)))))))),?_⟩
 obtain⟨n1,n2,n3,n4,n5,n6,n7,n8⟩:=vj h.nd;have F4:=h.ob;obtain⟨sh,j,Z,hv⟩:=r.Bm τ;have hd:=h.sh sh j;have g1:jt H m.dc (.int (c.sheet:Int)) (some (.ref sh.2.1)):=by rw[<-hv];exact jt.k (k:=bh (c.sheet:Int)) h.ce
 obtain⟨z,p,ps,ajc⟩:=aeh x;obtain⟨dco,lco,eco,pco⟩:=id Κ;have S:H t=some (.tup (([bh (c.row:Int),bh (c.col:Int)]:List Key).map kV)):=ht;have g2:=jt.t (k:=[bh (c.row:Int),bh (c.col:Int)]) hd S;have isd:IsD H sh.2.1:=.inr ⟨_,.inl hd⟩;have VU:=r.en sh j;have μ:=r.Sn i n8 j;have ε:(jz sh.2.2).length=sh.2.2.length:=ae ..;have axh:m.cs.length<=1000:=b9 (r.ajQ i) (by decide);have G:=aei x;have ajk:=i.Zl
 have θ:∀(es:List Ent) (u:List (bP×cE)),(∀e∈es,nz A K H e.2.1 e.2.2)->Rep {b with cells:=u} (m.cR sh.2.1 es)->bU b (.set c l)=({b with cells:=u},h9 0)->∀q,(bB H sh.2.1 (.dT (jz es))) q=none->Q (.ref q) (bB (bB H sh.2.1 (.dT (jz es))) q (.lst [V.int 0])):=by
  intro es u apc rp d q D;have st:=h.cR j apc;have QK:=st.trans h (st.at_.step (bt.new (o:=.lst [V.int 0]) D));refine k _ q _ QK (by rw[d];exact rp) ?_ (by rw[ao];unfold fh;rw[d];rfl);refine st.none h D λU=>?_
  rw[<-wD w m sh.2.1 es]at U;obtain⟨o,eo,_⟩:=st.at_.fp q U;exact nomatch (eo.symm.trans D)
 cases L:acG x with
 |true=>
  rw[L]at G;have X:(b.put c x).cells=b.cells.filter λy=>y.1 != c:=by unfold Lz;rw[L];rfl
  have B:b.put c x={b with cells:=b.cells.filter λy=>y.1 != c}:=by unfold Lz;rw[L];rfl
  have Ì:¬16384<(b.put c x).cells.length:=by rw[X];have:=cN (λy:bP×cE=>y.1 != c) b.cells;omega
  rw[au Ì,B]at d
  have asu:qJ (jz sh.2.2) [bh (c.row:Int),bh (c.col:Int)]=jz (sh.2.2.filter λy=>decide (y.1≠(c.row,c.col))):=by
   unfold jz;rw[HM]
   congr 1
   refine gK λy _=>?_
   rw[cO];simp only[aX,atn];exact not_congr (lB (e:=y) (e':=((c.row,c.col),y.2)))
  have n:=θ _ _ (λe L=>h.co sh j e (bo.mp L).1) (r.asX n8 j Z) d
  repeat' (first|(rw[G])|walk_at "")
  rcases XZ VU (c.row,c.col)with⟨en,F,hk,M⟩|⟨F,M⟩
  ·lk
   refine⟨λv _=>?_,(λz=>nomatch (M.symm.trans z))⟩;rw[asu]
   lk
   exact n
  ·have PY:(sh.2.2.filter λy=>decide (y.1≠(c.row,c.col)))=sh.2.2:=cD.mpr λy I=>aD (F y I)
   rw[PY]at n
   have awp:bB H sh.2.1 (.dT (jz sh.2.2))=H:=by
    funext u
    by_cases q:u=sh.2.1
    ·rw[q,ao,hd]
    ·rw[aw q]
   rw[awp]at n
   lk
   refine⟨(λv z=>nomatch (M.symm.trans z)),λ_=>?_⟩
   lk
   exact n
 |false=>
  rw[L]at G;have X:(b.put c x).cells=fQ c x b.cells:=by unfold Lz;rw[L];rfl
  have B:b.put c x={b with cells:=fQ c x b.cells}:=by unfold Lz;rw[L];rfl
  rw[X,alz i,B]at d;have hfl:=r.asP;have O:(jz sh.2.2).length<sizeLine:=oK (by omega);have dp:=Ey.t (k:=[bh (c.row:Int),bh (c.col:Int)]) (v:=V.ref a) hd S O;rcases XZ VU (c.row,c.col)with⟨en,F,hk,M⟩|⟨F,M⟩
  ·have IA:(c.row,c.col)∈sh.2.2.map (·.1):=by rw[<-hk];exact bu F
   rw[az ((r.inKeys i j Z).mpr IA),au (by omega)]at d;rw[M]at g2
   have ñ:putK (jz sh.2.2) [bh (c.row:Int),bh (c.col:Int)] (.ref a)=jz (sh.2.2.map λy=>if nY y=nY ((c.row,c.col),a,cY x)then((c.row,c.col),a,cY x)else y):=
    Mr (l:=sh.2.2) (f:=nY) (g:=λe:Ent=>V.ref e.2.1) (x:=((c.row,c.col),a,cY x)) (by
     obtain⟨e,C,q⟩:=aG.mp IA;exact aG.mpr ⟨e,C,lB.mpr q⟩)
   rw[ñ]at dp
   have n:=θ _ _ (λe C=>by
    obtain⟨y,I,q⟩:=aG.mp C;split at q
    ·rw[<-q];exact Κ
    ·rw[<-q];exact h.co sh j y I) (r.arn i n8 j Z (agp VU IA)) d
   repeat' (first|(rw[G])|walk_at "")
   exact n
  ·have Y:(c.row,c.col)∉sh.2.2.map (·.1):=λz=>by
    obtain⟨e,C,q⟩:=aG.mp z;exact F e C q
   rw[au (λz=>Y ((r.inKeys i j Z).mp z))]at d;rw[M]at g2
   have ñ:putK (jz sh.2.2) [bh (c.row:Int),bh (c.col:Int)] (.ref a)=jz (sh.2.2++[((c.row,c.col),a,cY x)]):=
    jN (l:=sh.2.2) (f:=nY) (g:=λe:Ent=>V.ref e.2.1) (x:=((c.row,c.col),a,cY x)) (λz=>by
     obtain⟨e,C,q⟩:=aG.mp z;exact Y (aG.mpr ⟨e,C,lB.mp q⟩))
   repeat' (first|(rw[G])|walk_at "")
   intro H1 J;have vR:=J _ _ F4;by_cases anw:((fu m.cs).length:Int)=16384
   ·rw[az (by omega)]at d
    lk
    intro q D;exact k.vQ h r (J.bB D) (by rw[d]) (l:=[-5]) (by unfold fh;rw[d];rfl) (none_of J D) ao
   ·rw[au (by omega)]at d;have LF:=J _ _ hd;have Ø:=J _ _ S;have dp1:=Ey.t (k:=[bh (c.row:Int),bh (c.col:Int)]) (v:=V.ref a) LF Ø O;rw[ñ]at dp1
    lk
    intro q D;have h1:=h.same J
    have st:=(h1.cR j (es:=sh.2.2++[((c.row,c.col),a,cY x)]) (λe C=>by
     rcases bL.mp C with C|C
     ·exact h1.co sh j e C
     ·rw[br.mp C];exact Κ.same J))
    have Sa:=(h.step J).trans h st;have QK:=Sa.trans h (Sa.at_.step (bt.new (o:=.lst [V.int 0]) D));have PY:(sh.2.2.filter λy=>decide (y.1≠(c.row,c.col)))=sh.2.2:=cD.mpr λy I=>aD (F y I)
    have rp:=r.arn i n8 j Z (x:=x) (a:=a) (es:=sh.2.2++[((c.row,c.col),a,cY x)]) (by rw[PY];exact List.perm_append_singleton ..);refine k _ q _ QK (by rw[d];exact rp) ?_ (by rw[ao];unfold fh;rw[d];rfl)
    ·refine Sa.none h D λU=>?_
     rw[<-wD w m sh.2.1 (sh.2.2++[((c.row,c.col),a,cY x)])]at U;obtain⟨o,eo,_⟩:=Sa.at_.fp q U;exact nomatch (eo.symm.trans D)
def ahd {kvs:List (Key×V)} (q:KeysOf kvs b) (x:cE):x.ok b c=(okC x&&mU kvs (cY x) (aO (cM c))):=by
 cases x with
 |value v=>
  show v.good=(v.good&&mU kvs (cY (.value v)) _);unfold mU cY;dsimp only;rw[au (by decide),dh]
 |formula f=>
  show(dZ b c f&&(decide (fw f<=Sv69.NODES)&&decide (kK f<=Sv69.DEEP)))=_;rw[qp q];unfold mU cY okC eV;dsimp only;rw[az rfl];show((Iu f&&_)&&(decide (fw f<=256)&&decide (kK f<=32)))=((Iu f&&(decide (fw f<=256)&&decide (kK f<=32)))&&_);generalize Iu f=e;generalize (decide (fw f<=256)&&decide (kK f<=32))=d;generalize ((partsOf f).filter lS).all _=a;cases e<;>cases d<;>cases a<;>rfl
def aof (r:Rep b m) (h:¬d9 (gY m.ts) [aO (cM c)]=0):bU b (.set c l)=(b,h9 (d9 (gY m.ts) [aO (cM c)])):=by
 rw[Bw r,GA]at h⊢;unfold bU;dsimp only;cases d:uG c with
 |false=>rfl
 |true=>
  cases a:b.sheet c.sheet with
  |false=>rw[show b.sheet (cM c).sheet=b.sheet c.sheet from rfl,a];rfl
  |true=>rw[d,show b.sheet (cM c).sheet=b.sheet c.sheet from rfl,a]at h;exact absurd rfl h
theorem alq (r:Rep b m) (h:d9 (gY m.ts) [aO (cM c)]=0):b.sheet c.sheet=true/\
 bU b (.set c l)=match Bc l with
  |none=>(b,h9 (-3))
  |some x=>if x.ok b c=false then(b,h9 (-3))else if 16384<(b.put c x).cells.length then(b,h9 (-5))else(b.put c x,h9 0):=by
 obtain⟨⟨d,a⟩,_⟩:=abw r h;refine⟨a,?_⟩;unfold bU;dsimp only;rw[d,a];rfl
def aaC (A:Ad) (K:ah):Sp:=λvs H Q _=>∃(w l:ag) (m:mV) (b:cy) (c:bP) (told:List Int),vs=[.ref w,.int (c.sheet:Int),.int (c.row:Int),.int (c.col:Int),.ref l]/\fY A K H w m/\Rep b m/\iJ b/\dv K H l (told.map V.int)/\Done A K H Q w m b (.set c told)
def FA:=show FO P w K mg base 12 _ _ _ (aaC A K) by
 exists T.IS.gp jM
 obtain⟨w,l,m,b,c,d,rfl,h,r,i,hl,k⟩:=h
 refine⟨_,(aj (bS 5 jM.nd (bN (sF T) hr T.sH T.sN.kp T.wm (aa (pv 1) (aa (pv 2) (aa (pv 3) ai)))))
  (aj (bS 6 jM.nd (bx (pv 0) T.aF T.dF (dE T) hr T.dN (aa (di (aa (pv 5) ai)) ai)))
  (aj (ee (cS sE (pv 6) (bE rfl T.i8)) (aq (aW (di (aa (pv 6) ai)))) cv)
  (aj (SR (i:=7) (Q4 T) (hr.mono (by decide)) rfl T.Q9 T.G5.kp T.Uy (aa (pv 4) ai) jM.nd rfl (oY rfl) T.fH rfl (λ_=>(aq (aW (di (aa (bE rfl T.jh) ai))))) rfl rfl rfl)
  (aj (ee (ki (iG (bN (rM T) hr T.rN T.mJ.kp T.uA (aa (pv 7) (aa (pv 5) (aa (aK T.aF T.cA (pv 0)) ai)))))) (aq (aW (di (aa (bE rfl T.jh) ai)))) cv)
  (aq (aW (bx (pv 0) T.aF T.Rg (Q7 T) hr T.UB (aa (pv 1) (aa (YB (aa (pv 2) (aa (pv 3) ai))) (aa (pv 7) ai))))))))))),?_⟩
 have F4:=h.ob
 lk
 intro G a s1 na D;have D:bX A G a (aO (cM c)):=D;have vR:=s1 _ _ F4
 lk
 intro S M;have O:=s1.bB (o:=.lst [V.ref a]) M;have h2:=h.same O;have D0:=h2.ob;have Ì:(bB G S (.lst [V.ref a])) S=some (.lst ([a].map V.ref)):=ao;have as2:za A (bB G S (.lst [V.ref a])) [a] [aO (cM c)]:=.cons (D.same (bt.new M)) .nil;have a2:=D.same (bt.new (o:=.lst [V.ref a]) M);have agO:[aO (cM c)].length<=10:=by simp
 lk
 intro H3 Z;have j:=O.trans Z;have h3:=h.same j;have B8:=h3.ob;have hl3:=j.seq hl;have a3:=a2.same Z;by_cases hc:d9 (gY m.ts) [aO (cM c)]=0
 rotate_left
 ·lk
  intro q n;have e:=aof (l:=d) r hc;exact k.vQ h r (j.bB n) (by rw[e]) (by unfold fh;rw[e]) (none_of j n) ao
 ·obtain⟨τ,e⟩:=alq (l:=d) r hc;have g:=Ys d;have TY:=r.keysOf
  have bad:∀y:Hp,bt H y->bU b (.set c d)=(b,h9 (-3))->∀q,y q=none->Q (.ref q) (bB y q (.lst [V.int (-3)])):=λy s e q n=>
   k.vQ h r (s.bB n) (by rw[e]) (l:=[-3]) (by unfold fh;rw[e];rfl) (none_of s n) ao
  cases X:Bc d with
  |none=>
   rw[X]at e g
   lk
   refine⟨λ_ J u=>?_,(λx z=>nomatch (g.symm.trans z))⟩;have C:=j.trans u;have p:=bad J C e
   lk
   exact p
  |some x=>
   rw[X,aA]at g;rw[X]at e;dsimp only at e;rw[ahd TY x]at e;cases eR:okC x with
   |false=>
    rw[eR,au (by decide)]at g;rw[eR,cq,az rfl]at e
    lk
    refine⟨λ_ J u=>?_,(λx z=>nomatch (g.symm.trans z))⟩;have C:=j.trans u;have p:=bad J C e
    lk
    exact p
   |true=>
    rw[eR,az rfl]at g;rw[eR,bM]at e
    have Iz:(cY x).parts.length<=1000:=by
     cases x with
     |value v=>show(1:Nat)<=1000;decide
     |formula f=>
      unfold okC at eR;simp only[aC,aX]at eR;exact b9 (b9 (sC f) eR.2.1) (by decide)
    have ĕ:=afJ x
    lk
    refine⟨(λz=>nomatch (g.symm.trans z)),λx' Ç J ac u nac Κ=>?_⟩;obtain rfl:cY x=x':=ay (g.symm.trans Ç);have C:=j.trans u;have h4:=h.same C;have TX:=h4.ob;have awy:=h4.ti;have a4:=a3.same u
    lk
    intro H5 Y;have F:=C.trans Y;have h5:=h.same F;have amg:=h5.ob;have B:=Κ.same Y;have p:=bad H5 F;cases I:mU (gY m.ts) (cY x) (aO (cM c))with
    |false=>
     rw[I,az rfl]at e;have p:=p e
     lk
     exact p
    |true=>
     rw[I,au (by decide)]at e
     lk
     intro t ht;have U:=bt.new (o:=.tup [V.int (c.row:Int),V.int (c.col:Int)]) ht;have L:=F.trans U;refine⟨_,rfl,w,t,ac,m,b,c,d,x,rfl,h.same L,r,i,ao,B.same U,⟨τ,e⟩,λy q m' st rp n eq=>?_⟩;exact k y q m' ((h.step L).trans h st) rp (none_of L n) eq
def agI {lo:Int} (Pv:ag->Nat->Hp->Prop) (G:∀D,H1 D=none->Pv D 0 (bB H1 D (.lst [])))
 (F:∀D i H,H1 D=none->i<n->Pv D i H->g (.int (lo+(i:Int))) (wipe σ vs) H fun f I=>wipe f vs=wipe σ vs/\tt f I λb B=>if b=true then te f B (jJ D (Pv D (i+1)))else Pv D (i+1) B)
 (hd:∀D H,H1 D=none->Pv D n H->Q (.ref D) H):LcI (Itr lo n) g tt te vs σ H1 Q:=by
 unfold LcI;intro D a;refine aiZ (Pv D) (G D a) (λi H d h=>?_) (λH h=>hd D H a h);have q:=F D i H a d h;rw[HH]at q;exact q
def Rep.abP (r:Rep b m) (f:l.all wj=true):l∈m.ts.map (·.2.2)↔(b.sheets.any λx=>x==some (oct l))=true:=by
 rw[Ho,aG];constructor
 ·rintro⟨t,a,rfl⟩
  exact⟨_,bI (r.ti t a),QF _⟩
 ·rintro⟨x,h,e⟩
  obtain rfl:=eq_of_beq e;obtain⟨k,d⟩:=List.mem_iff_getElem?.mp h;obtain⟨t,a,e⟩:=aG.mp (r.tk k (iQ.mpr ⟨_,d⟩));refine⟨t,a,?_⟩;have g:=r.ti t a;rw[e,d]at g;have i:oct l=oct t.2.2:=ay (ay g);rw[<-FD (r.tb t a),<-i,FD f]
def Rep.full (r:Rep b m) (i:iJ b) (h:b.sheets.findIdx? (λx=>x.isNone)=none):m.ts.length=64:=by
 have d:(m.ts.map (·.1)).Perm (f7 64):=(ou r.tn amS).mpr λk=>by
  rw[r.wy,iM,iQ];constructor
  ·rintro⟨t,e⟩
   have:=(aQ.mp e).1;rw[i.len]at this;exact this
  ·intro g;have a:k<b.sheets.length:=by rw[i.len];exact g
   have:=List.findIdx?_eq_none_iff.mp h _ (List.getElem_mem a);cases e:b.sheets[k]with
   |none=>rw[e]at this;cases this
   |some t=>exact⟨t,by rw[aZ a,e]⟩
 have:=d.length_eq;rw[ae,uI]at this;exact this
def Rep.alO (r:Rep b m) (i:iJ b) {k:Nat} (h:b.sheets.findIdx? (λx=>x.isNone)=some k):m.ts.length<64/\k<64/\k∉m.ts.map (·.1)/\∀j,j<64->j∉m.ts.map (·.1)->k<=j:=by
 obtain⟨g,u,E⟩:=List.findIdx?_eq_some_iff_getElem.mp h;have a:k<64:=by rw[i.len]at g;exact g
 have s:k∉m.ts.map (·.1):=λz=>by
  obtain⟨t,e⟩:=iQ.mp (r.wy.mp z);rw[aZ g]at e;rw[ay e]at u;cases u
 refine⟨?_,a,s,λj C o=>?_⟩
 ·have:=Tn (l:=k::m.ts.map (·.1)) (n:=64) (bR.mpr ⟨s,r.tn⟩) (λx d=>by
   rcases aY.mp d with rfl|d
   ·exact a
   ·have:=Sq (r.wy.mp d);rw[i.len]at this;exact this)
  rw[ak,ae]at this;omega
 ·refine HU λy=>?_
  have p:j<b.sheets.length:=by rw[i.len];exact C
  have D:=E j y;cases e:b.sheets[j]with
  |none=>exact D (by rw[e];rfl)
  |some t=>exact o (r.wy.mpr (iQ.mpr ⟨t,by rw[aZ p,e]⟩))
def mV.Du (m:mV) (k:Nat) (a d:ag) (l:List Int):mV:={m with ts:=m.ts++[(k,a,l)],cs:=m.cs++[(k,d,[])]}
def WC {k:Nat} (f:k<b.sheets.length):({b with sheets:=b.sheets.set k (some t)}:cy).sheet j=(decide (j=k)||b.sheet j):=by
 unfold Rx;dsimp only;rw[kL];by_cases e:k=j
 ·subst e;rw[az rfl,az f,aD rfl];rfl
 ·rw[au e,ba (λz=>e z.symm),EO]
def Rep.Du (r:Rep b m) {k:Nat} {a:ag} (q:k<b.sheets.length) (f:k∉m.ts.map (·.1)) (B:l.all wj=true):Rep {b with sheets:=b.sheets.set k (some (oct l))} (m.Du k a d l)where
 tn:=by
  show((m.ts++[(k,a,l)]).map (·.1)).Nodup;rw[aT,dH];refine⟨r.tn,by simp,λx o y n e=>?_⟩;rw[br.mp n]at e;have e:x=k:=e;exact f (by rw[<-e];exact o)
 tb:=λt g=>by
  rcases bL.mp g with g|g
  ·exact r.tb t g
  ·rw[br.mp g];exact B
 ti:=λt g=>by
  rcases bL.mp g with g|g
  ·show(b.sheets.set k (some (oct l)))[t.1]? =_;rw[kL,au (λz=>f (by rw[z];exact bu g))];exact r.ti t g
  ·rw[br.mp g];show(b.sheets.set k (some (oct l)))[k]? =_;rw[kL,az rfl,az q]
 tk:=λj i=>by
  rw[WC q,so,aX]at i;show j∈(m.ts++[(k,a,l)]).map (·.1);rw[aT];rcases i with rfl|i
  ·exact dB _ (by simp)
  ·exact gg _ (r.tk j i)
 cn:=by
  show((m.cs++[((k,d,[]):Sh)]).map (·.1)).Nodup;rw[aT,dH];refine⟨r.cn,by simp,λx o y n e=>?_⟩;rw[br.mp n]at e;have e:x=k:=e;exact f (r.tk k ((r.ck k).mp (by rw[<-e];exact o)))
 ck:=λj=>by
  show j∈(m.cs++[((k,d,[]):Sh)]).map (·.1)↔_;rw[WC q,so,aX,aT,bL,r.ck];simp only[bW,lD,br];exact Or.comm
 en:=λs h=>by
  rcases bL.mp h with h|h
  ·exact r.en s h
  ·rw[br.mp h];exact .nil
 cp:=by
  show(fu (m.cs++[(k,d,[])])).Perm _;have:fu (m.cs++[(k,d,[])])=fu m.cs:=by unfold fu;rw[gE];simp
  rw[this];exact r.cp
 nm:=r.nm
theorem aeb:bU b (.sheet t)=if U6 t=false then(b,h9 (-3))else if(b.sheets.any λx=>x==some t)=true then(b,h9 (-4))else match b.sheets.findIdx? λx=>x.isNone with
 |none=>(b,h9 (-5))
 |some k=>({b with sheets:=b.sheets.set k (some t)},h9 k):=rfl
def als {ts:List (Nat×ag×List Int)} (h:∀t∈ts,dv K H t.2.1 (t.2.2.map V.int)):UJ K H (ts.map (·.2.1)) (ts.map (·.2.2)):=by
 induction ts with
 |nil=>exact .nil
 |cons t ts a=>exact .cons (h t aM) (a λx b=>h x (aL _ b))
def Yd (A:Ad) (K:ah):Sp:=λvs H Q _=>∃(w a:ag) (m:mV) (b:cy) (l:List Int),vs=[.ref w,.ref a]/\fY A K H w m/\Rep b m/\iJ b/\H a=some (.lst (l.map V.int))/\l.all wj=true/\Done A K H Q w m b (.sheet (oct l))
def DQ:=show FO P w K mg base 4 _ _ _ (Yd A K) by
 exists T.He.gp jw
 obtain⟨w,a,m,b,l,rfl,h,r,i,haS,hl,k⟩:=h
 refine⟨_,(aj (ee (ki (iG (bN (aa4 T) hr T.abn T.UZ.kp T.aep (aa (pv 1) ai)))) (aq (aW (di (aa (bE rfl T.jh) ai)))) cv)
  (aj (ee (cS (adB (iu hr)) (pv 1) (aaZ rfl rfl T.RK (aK T.aF T.cA (pv 0))) rfl) (aq (aW (di (aa (bE rfl T.OL) ai)))) cv)
  (aj (ee (cS i7 (cG Xx rfl T.jG jI (aa (aK T.aF T.cA (pv 0)) ai)) (bE rfl T.xa)) (aq (aW (di (aa (bE rfl T.w9) ai)))) cv)
  (aj (bS 2 jw.nd (cG (Zr rfl) rfl T.Tq Uu (aa (oN (own:=[("number",3)]) rfl jw.nd (WR rfl T.Tp (aa (bE rfl T.xa) ai)) (jq rfl) (λ_ _ _ _ _=>(eC 3 jw.nd)) (λ_ _ _ _ _=>(Yy (Bz (Af (iu hr) (pv 3) (aK T.aF T.cA (pv 0)))))) (λ_ _ _ _ _=>(pv 3))) ai)))
  (aj (vN (iu hr) (aK T.aF T.cA (pv 0)) (pv 2) (pv 1) rfl)
  (aj (vN (iu hr) (aK T.aF T.cT (pv 0)) (pv 2) Fo rfl)
  (aq (aW (di (aa (pv 2) ai)))))))))),?_⟩
 have ha:=dv.of (K:=K) haS;obtain⟨n1,n2,n3,n4,n5,n6,n7,n8⟩:=vj h.nd;have F4:=h.ob;have S:=aeb (b:=b) (t:=oct l)
 have vQ:∀(C:Hp) (v:Int),bt H C->bU b (.sheet (oct l))=(b,h9 v)->∀q,C q=none->Q (.ref q) (bB C q (.lst [V.int v])):=λC v s e q B=>
  k.vQ h r (s.bB B) (by rw[e]) (l:=[v]) (by unfold fh;rw[e];rfl) (none_of s B) ao
 lk
 intro H1 s1;have h1:=h.same s1;have vR:=h1.ob;have amc:=h1.ti;have ô:=s1.seq ha;rw[af8 hl];cases eR:U6 (oct l)with
 |false=>
  rw[eR,az rfl]at S;have Z:=vQ H1 (-3) s1 S
  lk
  exact Z
 |true=>
  rw[eR,au (by decide)]at S
  lk
  intro lv hlv;have O:=s1.bB (o:=.lst ((gY m.ts).map (·.2))) hlv;have h2:=h.same O;have ha2:=O.seq ha;have D0:=h2.ob;have awz:=h2.ti;have aB1:dv K (bB H1 lv (.lst ((gY m.ts).map (·.2)))) lv ((m.ts.map (·.2.1)).map V.ref):=dv.of (by rw[ao];unfold gY;rw[bq,bq];rfl);have rows:=als (K:=K) (λt G=>dv.of (h2.tl t G));generalize bB H1 lv (.lst ((gY m.ts).map (·.2)))=H2 at *;have asi:(gY m.ts).length=m.ts.length:=ae ..;by_cases IA:l∈m.ts.map (·.2.2)
  ·rw[az ((r.abP hl).mp IA)]at S;have Z:=vQ H2 (-4) O S
   lk
   all_goals (try contradiction)
   exact Z
  ·rw[au (λz=>IA ((r.abP hl).mpr z))]at S;cases hf:b.sheets.findIdx? (λx=>x.isNone)with
   |none=>
    rw[hf]at S;have anw:=r.full i hf;have ad3:((gY m.ts).length:Int)=64:=by omega
    have Z:=vQ H2 (-5) O S
    lk
    all_goals (try contradiction)
    exact Z
   |some p=>
    rw[hf]at S;obtain⟨f1,f2,f3,f4⟩:=r.alO i hf;have ad3:¬((gY m.ts).length:Int)=64:=by omega
    have b1: -(2 ^ 62:Int)<=64:=by decide
    have b2:(64:Int)<2 ^ 62:=by decide
    lk
    all_goals (try contradiction)
    refine agI (n:=64) (λD j C=>Eo (bt H2 C/\C D=some (.lst ((((f7 j).filter fun(x:Nat)=> !(gF (gY m.ts) (bh (x:Int))).isSome).map fun(x:Nat)=>(x:Int)).map V.int)))) (λD hD=>⟨bt.new hD,ao⟩) (λD j C hD hj ⟨I,e3⟩=>?_) (λD C hD ⟨I,e3⟩=>?_)
    ·have B8:=I _ _ D0;have aoT:=I _ _ awz;have ej:(0:Int)+(j:Int)=(j:Int):=by omega
     rw[ej];have g:=jt.k (k:=bh (j:Int)) aoT;cases hv:gF (gY m.ts) (bh (j:Int))with
     |some v=>
      rw[hv]at g
      lk
      refine⟨I,?_⟩;rw[e3,anQ,eT,cQ,hv];simp
     |none=>
      rw[hv]at g
      lk
      refine FV ⟨_,e3,?_,⟨λu o X=>?_,?_⟩⟩
      ·rw[ae,ae];have:=cN (λx:Nat=> !(gF (gY m.ts) (bh (x:Int))).isSome) (f7 j);rw[uI]at this;exact dO (by omega)
      ·rw[aw (bp X hD)];exact I _ _ X
      ·rw[ao,anQ,eT,cQ,hv];simp
    ·have sqD:=dv.of (K:=K) e3
     have mem:∀z:Int,z∈(((f7 64).filter fun(x:Nat)=> !(gF (gY m.ts) (bh (x:Int))).isSome).map fun(x:Nat)=>(x:Int))↔∃x:Nat,x<64/\x∉m.ts.map (·.1)/\z=(x:Int):=λz=>by
      rw[aG];constructor
      ·rintro⟨x,M,rfl⟩
       obtain⟨ç,Ζ⟩:=bo.mp M;refine⟨x,iM.mp ç,λq=>?_,rfl⟩;rw[r.N3,r.wy.mp q]at Ζ;cases Ζ
      ·rintro⟨x,M,B,rfl⟩
       refine⟨x,bo.mpr ⟨iM.mpr M,?_⟩,rfl⟩;rw[r.N3];cases J:b.sheet x with
       |true=>exact absurd (r.wy.mpr J) B
       |false=>rfl
     have aoZ:0<(((f7 64).filter fun(x:Nat)=> !(gF (gY m.ts) (bh (x:Int))).isSome).map fun(x:Nat)=>(x:Int)).length:=aeM ((mem (p:Int)).mpr ⟨p,f2,f3,rfl⟩)
     lk
     intro z hz ao4
     obtain rfl:z=(p:Int):=by
      obtain⟨x,ç,Ζ,rfl⟩:=(mem z).mp hz;have:=f4 x ç Ζ;have L:=ao4 (p:Int) ((mem _).mpr ⟨p,f2,f3,rfl⟩);omega
     have xU:=O.trans I;have L:=h.same xU;have B8:=L.ob;have ha3:=xU.seq ha;have awD:(gY m.ts).length<sizeLine:=dO (by omega)
     have awC:(rk m.cs).length<sizeLine:=by
      have:(rk m.cs).length=m.cs.length:=ae ..;have:=r.ajQ i;exact dO (by omega)
     have dp1:=Ey.k (k:=bh (p:Int)) (v:=V.ref a) L.ti awD;have EF:putK (gY m.ts) (bh (p:Int)) (.ref a)=gY (m.ts++[(p,a,l)]):=jN (l:=m.ts) (f:=λt=>(bh (t.1:Int):Key)) (g:=λt=>V.ref t.2.1) (x:=(p,a,l)) (λq=>f3 (RL.mp q));rw[EF]at dp1;have TX:(bB C m.dt (.dK (gY (m.ts++[(p,a,l)])))) w=some (.ins A.bg m.dx (LI m)):=by rw[aw n1];exact B8
     lk
     intro d hd;have Y:d≠m.dt:=λq=>by rw[q,ao]at hd;cases hd
     have F:C d=none:=by rw[aw Y]at hd;exact hd
     have ndw:w≠d:=bp B8 F;have U:m.dc≠d:=bp L.ce F;have amg:(bB (bB C m.dt (.dK (gY (m.ts++[(p,a,l)])))) d (.dT [])) w=some (.ins A.bg m.dx (LI m)):=by rw[aw ndw];exact TX
     have aph:(bB (bB C m.dt (.dK (gY (m.ts++[(p,a,l)])))) d (.dT [])) m.dc=some (.dK (rk m.cs)):=by rw[aw U,aw n4.symm];exact L.ce
     have dp2:=Ey.k (k:=bh (p:Int)) (v:=V.ref d) aph awC;have hcn:p∉m.cs.map (·.1):=λq=>f3 (r.tk p ((r.ck p).mp q))
     have â:putK (rk m.cs) (bh (p:Int)) (.ref d)=rk (m.cs++[(p,d,[])]):=jN (l:=m.cs) (f:=λs:Sh=>(bh (s.1:Int):Key)) (g:=λs:Sh=>V.ref s.2.1) (x:=(p,d,[])) (λq=>hcn (RL.mp q));rw[â]at dp2
     lk
     intro q B;have Î:iC C (rj w m):=L.D5
     have kp:cJ (rj w m) C (bB (bB (bB C m.dt (.dK (gY (m.ts++[(p,a,l)])))) d (.dT [])) m.dc (.dK (rk (m.cs++[(p,d,[])])))):=λu o X nu=>by
      rw[aw (λz=>nu (by rw[z];unfold rj;simp)),aw (bp X F),aw (λz=>nu (by rw[z];unfold rj;simp))];exact X
     have hfd:d∉rj w m:=λz=>by
      obtain⟨o,X,_⟩:=L.fp d z;rw[F]at X;cases X
     have zz:fY A K (bB (bB (bB C m.dt (.dK (gY (m.ts++[(p,a,l)])))) d (.dT [])) m.dc (.dK (rk (m.cs++[(p,d,[])])))) w (m.Du p a d l):=by
      refine⟨?_,?_,?_,ao,?_,?_,?_,?_,?_⟩
      ·rw[aw n2];exact amg
      ·show bB (bB (bB C m.dt _) d _) m.dc _ m.dt=_;rw[aw n4,aw Y.symm,ao];rfl
      ·intro t G;rcases bL.mp G with G|G
       ·exact F8 kp Î (L.tl t G)
       ·rw[br.mp G];exact F8 kp Î (xU _ _ haS)
      ·intro s J;rcases bL.mp J with J|J
       ·rw[aw (n7 s J).2.2.1.symm,aw (bp (L.sh s J) F),aw (n7 s J).2.1.symm];exact L.sh s J
       ·rw[br.mp J];show bB (bB (bB C m.dt _) d _) m.dc _ d=_;rw[aw U.symm,ao];rfl
      ·intro s J e he;rcases bL.mp J with J|J
       ·exact qo kp Î (L.co s J e he)
       ·rw[br.mp J]at he;cases he
      ·show bB (bB (bB C m.dt _) d _) m.dc _ m.dn=_;rw[aw n6.symm,aw (bp L.na F),aw n5.symm];exact L.na
      ·intro n hn;exact vS kp Î (L.nl n hn)
      ·have:rj w (m.Du p a d l)=rj w m++[d]:=by
        unfold rj mV.Du;simp
       rw[this,dH];refine⟨h.nd,by simp,λx M y hy e=>?_⟩;rw[br.mp hy]at e;exact hfd (e▸M)
     have st:iV A K C _ w m (m.Du p a d l):=⟨kp,zz,λx M=>by
      have:rj w (m.Du p a d l)=rj w m++[d]:=by
       unfold rj mV.Du;simp
      rw[this]at M;rcases bL.mp M with M|M
      ·exact .inl M
      ·rw[br.mp M];exact .inr F,λx o e=>by
      obtain⟨o1,e1⟩:=ow (d:=m.dt) (x:=.dK (gY (m.ts++[(p,a,l)]))) e;obtain⟨o2,e2⟩:=ow (d:=d) (x:=.dT []) e1;exact ow e2⟩
     have Sa:=(h.step xU).trans h st;have QK:=Sa.trans h (zz.step (bt.new (o:=.lst [V.int (p:Int)]) B));refine k _ q _ QK (by rw[S];exact r.Du (by rw[i.len];exact f2) f3 hl) ?_ (by rw[ao];unfold fh;rw[S];rfl);refine Sa.none h B λhm=>?_
     have hm2:q∈rj w (m.Du p a d l):=by
      have:rj w (m.Du p a d l)=rj w m++[d]:=by
       unfold rj mV.Du;simp
      rw[this];exact gg _ hm
     obtain⟨o,X,_⟩:=zz.fp q hm2;exact nomatch (X.symm.trans B)
def shA (cs:List Sh):List (Nat×ag):=cs.map λs=>(s.1,s.2.1)
def LY (h:shA sg=shA cs):sg.map (·.1)=cs.map (·.1):=by
 have:=cK (acZ LC) h;unfold shA at this;rw[bq,bq]at this;exact this
def LZ (h:shA sg=shA cs):sg.map (·.2.1)=cs.map (·.2.1):=by
 have:=cK (acZ Prod.snd) h;unfold shA at this;rw[bq,bq]at this;exact this
def alp (cs:List Sh) (d:ag) (es:List Ent):shA (cR cs d es)=shA cs:=by
 unfold shA cR;rw[bq];refine cW λs _=>?_
 show((if s.2.1=d then(s.1,s.2.1,es)else s).1,(if s.2.1=d then(s.1,s.2.1,es)else s).2.1)=_;split<;>rfl
def ajA (q:(cs.map (·.2.1)).Nodup) (B:(cs.map (·.1)).Nodup) (f:s∈cs) (e:Ent):(fu (cR cs s.2.1 (s.2.2++[e]))).Perm (fu cs++[mE s.1 e]):=by
 obtain⟨rest,d,b⟩:=K3 q B f;have a:=b s.2.2;rw[Bn q f]at a;refine(b _).trans ?_;rw[aT];refine wc ?_ (fo _ a.symm);rw[cz,cz];exact EC _ afU
def cellK (k:Nat) (e:Ent):bP:=⟨k,e.1.1,e.1.2⟩
def WX (x:eZ) (k:Nat) (es:List Ent):List (bP×hW):=es.filterMap λe=>(aU x (cellK k e)).map λc'=>(c',Dq (IC x) (aO (cM (cellK k e))) (aO (cM c')) e.2.2)
def YV {k:Nat} (h:es[i]? =some e):WX x k (es.take (i+1))=WX x k (es.take i)++((aU x (cellK k e)).map λf=>(f,Dq (IC x) (aO (cM (cellK k e))) (aO (cM f)) e.2.2)).toList:=by
 unfold WX;rw[take_one h,Kg];refine cK _ ?_;cases a:aU x (cellK k e)with
 |none=>simp[a]
 |some c=>simp[a]
def afi {k:Nat} (i:Nat):∃r,WX x k es=WX x k (es.take i)++r:=by
 refine⟨WX x k (es.drop i),?_⟩;unfold WX;rw[<-Kg,dP]
structure aev (cs:List Sh) (x:eZ) (k:Nat) (es:List Ent):Prop where
 v:gr x
 ok:∀e∈es,AX (cellK k e)/\(e.2.2.kind=1->∀p∈e.2.2.parts,oU p)/\e.2.2.parts.length<=1000
 to:∀e∈es,∀c',aU x (cellK k e)=some c'->c'.sheet∈cs.map (·.1)
 cn:(cs.map (·.1)).Nodup
 en:∀s∈cs,(s.2.2.map (·.1)).Nodup
 nd:((fu cs++WX x k es).map (·.1)).Nodup
 Zl:(fu cs++WX x k es).length<=20000
def X4 (A:Ad) (K:ah):Sp:=λvs H Q _=>∃(w d c:ag) (m:mV) (k:Nat) (es:List Ent) (x:eZ),vs=[.ref w,.int (k:Int),.ref d,.ref c]/\H w=some (.ins A.bg m.dx (LI m))/\zJ A K H m.dc m.cs/\H d=some (.dT (jz es))/\d∉m.cs.map (·.2.1)/\
 (∀e∈es,nz A K H e.2.1 e.2.2)/\uS A H c (IC x)/\aev m.cs x k es/\
 ∀H' sg,zJ A K H' m.dc sg->shA sg=shA m.cs->(fu sg).Perm (fu m.cs++WX x k es)->(∀s∈sg,(s.2.2.map (·.1)).Nodup)->cJ (m.cs.map (·.2.1)) H H'->Q .m6 H'
def asM (h:zJ A K H dc cs):iC H (cs.map (·.2.1)):=λa d o e=>by
 obtain⟨s,b,rfl⟩:=aG.mp d;rw[h.sh s b]at e;cases e
 trivial
def DM:=show FO P w K mg base 8 _ _ _ (X4 A K) by
 exists T.Ha.gp gf
 obtain⟨w,d,c,m,k,es,x,rfl,F4,ğ,hd,MU,Κ,F6,tk,kk⟩:=h
 refine⟨_,(aq (Hv (j8 BC rfl (WS (pv 2)) (adx rfl (Ae (eC 4 gf.nd) (Ae (eC 5 gf.nd) YA)))
  (aj (bS 6 gf.nd (bN (sF T) hr T.sH T.sN.kp T.wm (aa (pv 1) (aa (cP fg (pv 4) bc) (aa (cP fg (pv 4) bc) ai)))))
  (aj (bS 7 gf.nd (SW (Ms:=ef A) (mH T) (hr.mono (by decide)) Fu (pv 3) (aa (pv 6) ai)))
  (aq (ee (Bz (alF (pv 7))) (aj (bS 8 gf.nd (YB (aa (aK T.bC T.cU (pv 7)) (aa (aK T.bC T.cB (pv 7)) ai))))
  (aq (vN (iu hr) (l4 (iu hr) (aK T.aF T.cT (pv 0)) (aK T.bC T.du (pv 7)) (λ_ _=>rfl)) (pv 8) (bN (Q6 T) hr T.Rb T.G9.kp T.UA (aa (pv 5) (aa (pv 6) (aa (pv 7) (aa (pv 3) ai))))) rfl))) cv))))))),?_⟩
 have nwd:w≠d:=λz=>by rw[z,hd]at F4;cases F4
 have ndc:m.dc≠d:=λz=>by rw[<-z,ğ.ce]at hd;cases hd
 have nsd:∀s∈m.cs,s.2.1≠d:=λs C z=>MU (by rw[<-z];exact bu C)
 have ff:iC H [d]:=iC.one hd trivial
 repeat' (first|(refine HG d hd trivial (λL=>?_))|walk_at "")
 refine⟨?_⟩;have fk:cJ [d] H (bB H d (.gb L (.dT (jz es)))):=eO;have f1:(bB H d (.gb L (.dT (jz es)))) w=some (.ins A.bg m.dx (LI m)):=by rw[aw nwd];exact F4
 have f2:(bB H d (.gb L (.dT (jz es)))) d=some (.gb L (.dT (jz es))):=ao;have f3:zJ A K (bB H d (.gb L (.dT (jz es)))) m.dc m.cs:=⟨by rw[aw ndc];exact ğ.ce,λs C=>by rw[aw (nsd s C)];exact ğ.sh s C,λs C e M=>qo fk ff (ğ.co s C e M),ğ.nd⟩;have f4:∀e∈es,nz A K (bB H d (.gb L (.dT (jz es)))) e.2.1 e.2.2:=λe M=>qo fk ff (Κ e M)
 have f5:uS A (bB H d (.gb L (.dT (jz es)))) c (IC x):=T4 fk ff F6;have Î:=asM f3
 have į:w∉m.cs.map (·.2.1):=λz=>by
  obtain⟨s,C,e⟩:=aG.mp z;have:=f3.sh s C;rw[show s.2.1=w from e,f1]at this;cases this
 have aA9:m.dc∉m.cs.map (·.2.1):=(bR.mp ğ.nd).1
 lk
 refine PZ (kvs:=jz es) (λj σ p=>Eo (∃v4 v5 v6 v7 v8 n,σ=[some (.ref w),some (.int (k:Int)),some (.ref d),some (.ref c),v4,v5,v6,v7,v8]/\cJ (m.cs.map (·.2.1)) (bB H d (.gb L (.dT (jz es)))) p/\zJ A K p m.dc n/\shA n=shA m.cs/\(fu n).Perm (fu m.cs++WX x k (es.take j))/\∀s∈n,(s.2.2.map (·.1)).Nodup))
  ⟨⟨_,_,_,_,_,m.cs,rfl,cJ.refl _ _,f3,rfl,by rw[Bf];show(fu m.cs).Perm (fu m.cs++[]);rw[cX],tk.en⟩⟩ (λj σ p ⟨⟨_,_,_,_,_,_,_,kp,_⟩⟩=>kp _ _ f2 MU) ?_ ?_
 ·rintro j kx v t T' σ p hx ht hT ⟨⟨v4,v5,v6,v7,v8,n,rfl,kp,G,sa,I,en⟩⟩
  unfold jz at hx;rw[aV]at hx;cases ex:es[j]? with
  |none=>rw[ex]at hx;cases hx
  |some e=>
   rw[ex]at hx;cases hx;have M:=bI ex;obtain⟨hvc,ĕ,Iz⟩:=tk.ok e M;have s1:=bt.new (o:=.tup [V.ref t,V.ref e.2.1]) hT;have Ø:gL K (bB p T' (.tup [V.ref t,V.ref e.2.1])) t [V.int (e.1.1:Int),V.int (e.1.2:Int)]:=.inl (.inl (s1 _ _ ht));have hT1:gL K (bB p T' (.tup [V.ref t,V.ref e.2.1])) T' [V.ref t,V.ref e.2.1]:=.inl (.inl ao);have RP:ky [V.int (e.1.1:Int),V.int (e.1.2:Int)] 0=some (V.int (e.1.1:Int)):=bD (j:=0) rfl;have zz:ky [V.int (e.1.1:Int),V.int (e.1.2:Int)] 1=some (V.int (e.1.2:Int)):=bD (j:=1) rfl;have axl:=(qo kp Î (f4 e M)).same s1;have axo:=(T4 kp Î f5).same s1;have vR:=s1 _ _ (kp _ _ f1 į);have apu:=G.same s1;have xg:cJ (m.cs.map (·.2.1)) (bB H d (.gb L (.dT (jz es)))) (bB p T' (.tup [V.ref t,V.ref e.2.1])):=kp.trans (cJ.same s1);generalize bB p T' (.tup [V.ref t,V.ref e.2.1])=H1 at *
   lk
   intro H2 a2 s2 n2 Ã;have Ã:bX A H2 a2 (aO (cM (cellK k e))):=Ã;have ajo:=axo.same s2;have B:=La tk.v hvc;cases y:aU x (cellK k e)with
   |none=>
    rw[y]at B
    repeat' (first|(refine BX ajo (λpr Ë=>?_))|walk_at "")
    intro H3 v3 s3 È;rw[B]at È;obtain rfl:v3=.m6:=È
    lk
    refine⟨⟨_,_,_,_,_,n,rfl,xg.trans (cJ.same (s2.trans s3)),apu.same (s2.trans s3),sa,?_,en⟩⟩;rw[YV ex,y];simpa using I
   |some i=>
    rw[y]at B
    repeat' (first|(refine BX ajo (λpr Ë=>?_))|walk_at "")
    intro H3 v3 s3 È;rw[B]at È;obtain⟨a3,rfl,X⟩:=È;have X:bX A H3 a3 (aO (cM i)):=X;obtain⟨da3,Z⟩:=id X;have Z:H3 a3=some (.ins A.m8 da3 (arF ⟨(i.sheet:Int),(i.row:Int),(i.row:Int),(i.col:Int),(i.col:Int)⟩)):=Z;have J:=s2.trans s3;have ayi:=Ã.same s3;have apg:=ajo.same s3;have ajn:=axl.same J;have B8:=J _ _ vR;have cs3:=apu.same J
    lk
    intro tp ľ;have F:=bt.new (o:=.tup [V.int (i.row:Int),V.int (i.col:Int)]) ľ;have aww:(bB H3 tp (.tup [V.int (i.row:Int),V.int (i.col:Int)])) tp=some (.tup (([bh (i.row:Int),bh (i.col:Int)]:List Key).map kV)):=ao;have ar4:=ayi.same F;have aDi:=X.same F;have ea4:=F _ _ Z;have apf:=apg.same F;have asy:=ajn.same F;have TX:=F _ _ B8;have cs4:=cs3.same F;have s14:=J.trans F;generalize bB H3 tp (.tup [V.int (i.row:Int),V.int (i.col:Int)])=H4 at *
    lk
    intro H5 ac s5 hac;have amg:=s5 _ _ TX;have S:=cs4.same s5;have ea5:=s5 _ _ ea4;have awv:=s5 _ _ aww;have aph:=S.ce;have τ:=tk.to e M i y;rw[<-LY sa]at τ;obtain⟨s',D,N0⟩:=aG.mp τ;have O:(n.map (·.1)).Nodup:=by rw[LY sa];exact tk.cn
    have U:(n.map (·.2.1)).Nodup:=(bR.mp G.nd).2
    have kr:gF (rk n) (bh (i.sheet:Int))=some (.ref s'.2.1):=by
     rw[<-N0];exact gN (l:=n) (f:=λs:Sh=>(bh (s.1:Int):Key)) (g:=λs:Sh=>V.ref s.2.1) (AD (f:=λs:Sh=>s.1) O) D
    have g5:jt H5 m.dc (.int (i.sheet:Int)) (some (.ref s'.2.1)):=by rw[<-kr];exact jt.k (k:=bh (i.sheet:Int)) aph
    have hd5:=S.sh s' D
    have agS:(i.row,i.col)∉s'.2.2.map (·.1):=λz=>by
     obtain⟨e',OU,q⟩:=aG.mp z;have hm1:i∈(fu n).map (·.1):=aG.mpr ⟨(i,e'.2.2),FP.mpr ⟨s',D,N0,e',OU,q,rfl⟩,rfl⟩;have hm2:i∈(fu m.cs++WX x k (es.take j)).map (·.1):=(I.map (·.1)).mem_iff.mp hm1;obtain⟨r,hr⟩:=afi (x:=x) (k:=k) (es:=es) (j+1);have VU:=tk.nd;rw[hr,YV ex,y]at VU;simp only[Ve,Option.toList_some]at VU;rw[<-cz,<-cz,aT,dH]at VU;have asb:=VU.1;rw[aT,dH]at asb;exact asb.2.2 _ hm2 _ aM rfl
    have ñ:putK (jz s'.2.2) [bh (i.row:Int),bh (i.col:Int)] (.ref ac)=jz (s'.2.2++[((i.row,i.col),ac,Dq (IC x) (aO (cM (cellK k e))) (aO (cM i)) e.2.2)]):=
     jN (l:=s'.2.2) (f:=nY) (g:=λe:Ent=>V.ref e.2.1) (x:=((i.row,i.col),ac,Dq (IC x) (aO (cM (cellK k e))) (aO (cM i)) e.2.2)) (λz=>by
      obtain⟨e',VW,q⟩:=aG.mp z;exact agS (aG.mpr ⟨e',VW,lB.mp q⟩))
    have ε:s'.2.2.length<=20000:=by
     obtain⟨rest,_,h2⟩:=K3 U O D;have h3:=(h2 s'.2.2).length_eq;rw[Bn U D,aI,ae]at h3;have h4:=I.length_eq;obtain⟨r,hr⟩:=afi (x:=x) (k:=k) (es:=es) j;have h5:=tk.Zl;rw[hr,<-cz,aI]at h5;omega
    have hsz:(jz s'.2.2).length<sizeLine:=by
     have:(jz s'.2.2).length=s'.2.2.length:=ae ..;exact oK (by omega)
    have dp:=Ey.t (k:=[bh (i.row:Int),bh (i.col:Int)]) (v:=V.ref ac) hd5 awv hsz;rw[ñ]at dp
    lk
    refine⟨⟨_,_,_,_,_,cR n s'.2.1 (s'.2.2++[((i.row,i.col),ac,Dq (IC x) (aO (cM (cellK k e))) (aO (cM i)) e.2.2)]),rfl,?_,?_,?_,?_,?_⟩⟩
    ·refine(xg.trans (cJ.same (s14.trans s5))).trans λu o eo nu=>?_
     rw[aw (λz=>nu (by rw[<-LZ sa,z];exact bu D))];exact eo
    ·exact S.cR D (λe' OU=>by
      rcases bL.mp OU with OU|OU
      ·exact S.co s' D e' OU
      ·rw[br.mp OU];exact hac)
    ·rw[alp];exact sa
    ·refine(ajA U O D _).trans ?_;rw[YV ex,y,<-cz];refine(fo _ I).trans (ji ?_);unfold mE;rw[N0];rfl
    ·intro s2 W4;rcases HC W4 with⟨_,W4⟩|⟨_,q,_⟩
     ·exact en s2 W4
     ·rw[q,aT,dH];refine⟨en s' D,by simp,λa ha b hb q=>?_⟩;rw[br.mp hb]at q;have q:a=(i.row,i.col):=q;exact agS (by rw[<-q];exact ha)
 ·rintro σ p ⟨⟨v4,v5,v6,v7,v8,n,rfl,kp,G,sa,I,en⟩⟩
  rw[show(jz es).length=es.length from ae ..,de]at I;have nd2:d∉n.map (·.2.1):=by rw[LZ sa];exact MU
  have e2:=kp _ _ f2 MU;refine⟨e2,?_⟩;have kd:cJ [d] p (bB p d (.dT (jz es))):=eO;have fd:iC p [d]->True:=λ_=>trivial
  refine kk _ n ⟨?_,?_,?_,G.nd⟩ sa I en ?_
  ·rw[aw ndc];exact G.ce
  ·intro s C;rw[aw (λz=>nd2 (by rw[<-z];exact bu C))];exact G.sh s C
  ·intro s C e M;obtain⟨dx,l,g1,ts,g2,g3⟩:=G.co s C e M
   have nn:∀{u:ag} {o:HO},p u=some o->(∀a b,o≠ .gb a b)->bB p d (.dT (jz es)) u=some o:=fun {u o} Y no=>by
    rw[aw (λz=>by rw[z,e2]at Y;exact no _ _ (ay Y).symm)];exact Y
   refine⟨dx,l,nn g1 (λ_ _ z=>by cases z),ts,nn g2 (λ_ _ z=>by cases z),g3.mono λt xs q=>?_⟩;rcases q with(q|⟨o,q⟩)|q
   ·exact .inl (.inl (nn q (λ_ _ z=>by cases z)))
   ·refine .inl (.inr ⟨o,?_⟩);rw[aw (λz=>by rw[z,e2]at q;cases q)];exact q
   ·exact .inr q
  ·intro u o Y nu;by_cases z:u=d
   ·subst z;rw[hd]at Y;cases Y;exact ao
   ·rw[aw z];exact kp _ _ (by rw[aw z];exact Y) nu
def mvC (x:eZ) (y:bP×hW):Option (bP×hW):=(aU x y.1).map λc'=>(c',Dq (IC x) (aO (cM y.1)) (aO (cM c')) y.2)
def aoE (x:eZ) (k:Nat) (es:List Ent):WX x k es=(es.map (mE k)).filterMap (mvC x):=by
 unfold WX;rw[akm];rfl
def Z9 (x:eZ) (cs:List Sh):List (bP×hW):=cs.flatMap λs=>WX x s.1 s.2.2
def aiN (x:eZ) (cs:List Sh):Z9 x cs=(fu cs).filterMap (mvC x):=by
 induction cs with
 |nil=>rfl
 |cons s cs a=>
  have d:Z9 x (s::cs)=WX x s.1 s.2.2++Z9 x cs:=gJ;have b:fu (s::cs)=s.2.2.map (mE s.1)++fu cs:=gJ;rw[d,b,a,Kg,aoE]
def ab0 (B:gr x) (q:ahw c y):Dq (IC x) (aO (cM c)) (aO (cM c')) (cY y)=cY (y.follow (aU x) (bT x) c c'):=by
 cases y with
 |value v=>rfl
 |formula f=>
  show Dq _ _ _ ⟨1,partsOf f⟩=⟨1,partsOf (fS (aU x) (bT x) c c' f)⟩;rw[jQ B f q.1];rfl
theorem T6 {α q:Type} {f g:α->Option q}:∀{l:List α},(∀x∈l,f x=g x)->l.filterMap f=l.filterMap g
 |[],_=>rfl
 |x::l,h=>by rw[jD,jD,h x aM,T6 λy B=>h y (aL _ B)]
def Tr (i:iJ b) (f:gr x) (cp:(fu cs).Perm (cellsOf b)):(Z9 x cs).Perm (cellsOf (b.moved (aU x) (bT x))):=by
 rw[aiN];refine(cp.filterMap _).trans ?_;refine wc (ji ?_) ((BS f i.RE).map λx=>(x.1,cY x.2)).symm;unfold cellsOf;rw[akm,List.map_filterMap];refine T6 λy d=>?_
 have e:=(i.ok y d).2.2;show(aU x y.1).map _=jV _ ((aU x y.1).map _);cases aU x y.1 with
 |none=>rfl
 |some a=>
  show some (a,Dq (IC x) (aO (cM y.1)) (aO (cM a)) (cY y.2))=some (a,cY _);rw[ab0 f e]
def adJ (i:iJ b) (f:gr x) (cp:(fu cs).Perm (cellsOf b)):((Z9 x cs).map (·.1)).Nodup/\(Z9 x cs).length<=16384:=by
 have h:=Tr i f cp;constructor
 ·refine((h.map (·.1)).nodup_iff).mpr ?_;unfold cellsOf;rw[bq];have a:UI (b.moved (aU x) (bT x)).cells:=FZ _;exact a.nodup
 ·rw[aiN];refine b9 (acL _ _) ?_;rw[cp.length_eq];have:(cellsOf b).length=b.cells.length:=ae ..;rw[this];exact i.Zl
def Zn (i:iJ b) (cp:(fu cs).Perm (cellsOf b)) (q:s∈cs) (B:e∈s.2.2):∃y∈b.cells,y.1=cellK s.1 e/\cY y.2=e.2.2/\AX (cellK s.1 e)/\(e.2.2.kind=1->∀p∈e.2.2.parts,oU p)/\e.2.2.parts.length<=1000:=by
 have m:(cellK s.1 e,e.2.2)∈cellsOf b:=cp.mem_iff.mp (FP.mpr ⟨s,q,rfl,e,B,rfl,rfl⟩);obtain⟨y,g,eq⟩:=aG.mp m;obtain⟨h,a⟩:=kZ eq;obtain⟨j,n,d⟩:=i.ok y g;refine⟨y,g,h,a,by rw[<-h];exact j,by rw[<-a];exact afJ y.2,?_⟩;rw[<-a];cases l:y.2 with
 |value v=>show(1:Nat)<=1000;decide
 |formula f=>
  rw[l]at d;exact b9 d.2 (by decide)
structure akb (b:cy) (m:mV) (x:eZ):Prop where
 v:gr x
 tn:(m.ts.map (·.1)).Nodup
 t64:m.ts.length<=64
 cn:(m.cs.map (·.1)).Nodup
 en:∀s∈m.cs,(s.2.2.map (·.1)).Nodup
 cp:(fu m.cs).Perm (cellsOf b)
 nm:m.ns.map (λn=>(n.1,n.2.2))=b.names.map λn=>(kX n.1,(partsOf n.2).flatten)
 inv:iJ b
 to:∀y∈b.cells,∀c',aU x y.1=some c'->c'.sheet∈m.ts.map (·.1)
def abf (x:eZ) {cs:List Sh} {i:Nat} {s:Sh} (h:cs[i]? =some s):Z9 x (cs.take (i+1))=Z9 x (cs.take i)++WX x s.1 s.2.2:=by
 unfold Z9;rw[take_one h,gE,uE]
def alS (x:eZ) (cs:List Sh) (i:Nat):Z9 x cs=Z9 x (cs.take i)++Z9 x (cs.drop i):=by
 unfold Z9;rw[<-gE,dP]
def akb.take {b:cy} {m:mV} {x:eZ} (h:akb b m x) {i:Nat} {s:Sh} (f:m.cs[i]? =some s) {cs:List Sh} (B:cs.map (·.1)=m.ts.map (·.1)) (F:∀s∈cs,(s.2.2.map (·.1)).Nodup) (q:(fu cs).Perm (Z9 x (m.cs.take i))):aev cs x s.1 s.2.2:=by
 have l:=bI f;obtain⟨g,o⟩:=adJ h.inv h.v h.cp;have a:Z9 x m.cs=(Z9 x (m.cs.take i)++WX x s.1 s.2.2)++Z9 x (m.cs.drop (i+1)):=by rw[<-abf x f];exact alS x m.cs (i+1)
 refine⟨h.v,λe d=>?_,λe d C p=>?_,by rw[B];exact h.tn,F,?_,?_⟩
 ·obtain⟨y,j,_,_,u⟩:=Zn h.inv h.cp l d;exact u
 ·obtain⟨y,j,z,_⟩:=Zn h.inv h.cp l d;rw[B];exact h.to y j C (by rw[z];exact p)
 ·have n:=(fo (WX x s.1 s.2.2) q).map (·.1);refine(n.nodup_iff).mpr ?_;rw[a,aT,dH]at g;exact g.1
 ·rw[(fo (WX x s.1 s.2.2) q).length_eq];rw[a,aI]at o;omega
def agH {D:Ends} (h:Eo (aeW t D σ H)):aeW t D σ H:=h.out
def nin {u:ag} (h:u≠d):u∉[d]:=λm=>h (br.mp m)
def FY (e:H d=some u) (k:cJ S (bB H d (.gb od u)) H'):cJ S H (bB H' d u):=λa o b n=>by
 by_cases z:a=d
 ·subst z;rw[e]at b;cases b;exact ao
 ·rw[aw z];exact k _ _ (by rw[aw z];exact b) n
def Xt {a:ag} {c:hW} (f:H d=some (.gb od u)) (B:∀xs,u≠ .tup xs) (h:nz A K H a c):nz A K (bB H d x) a c:=by
 obtain⟨dx,l,n,ts,m,j⟩:=h
 have e:∀{v:ag} {o:HO},H v=some o->(∀a b,o≠ .gb a b)->bB H d x v=some o:=fun {v o} g no=>by
  rw[aw (λz=>by rw[z,f]at g;exact no _ _ (ay g).symm)];exact g
 refine⟨dx,l,e n (λ_ _ z=>by cases z),ts,e m (λ_ _ z=>by cases z),j.mono λt xs q=>?_⟩;rcases q with(q|⟨o,q⟩)|q
 ·exact .inl (.inl (e q (λ_ _ z=>by cases z)))
 ·refine .inl (.inr ⟨o,?_⟩)
  rw[aw (λz=>by
   rw[z,f]at q;have q:=ay q;injection q with _ i
   exact B _ i)]
  exact q
 ·exact .inr q
def zJ.unlock (h:zJ A K H dc cs) (f:H d=some (.gb od u)) (q:∀xs,u≠ .tup xs):zJ A K (bB H d x) dc cs where
 ce:=by rw[aw (λz=>by have:=h.ce;rw[z,f]at this;cases this)];exact h.ce
 sh:=λs a=>by rw[aw (λz=>by have:=h.sh s a;rw[z,f]at this;cases this)];exact h.sh s a
 co:=λs a e b=>Xt f q (h.co s a e b)
 nd:=h.nd
def agg {l:List Nm} (f:(l.map (·.1)).Nodup) {n:Nm} (h:l[i]? =some n) (B:y.1=n.1):(l.map λz=>if z.1.map (bh:Int->Key)=y.1.map bh then y else z)=l.set i y:=by
 refine akT λj=>?_
 rw[aV,kL];have m:=(aQ.mp h).1;by_cases e:i=j
 ·subst e;rw[az rfl,az m,h,Ve,az (by rw[B])]
 ·rw[au e];cases o:l[j]? with
  |none=>rfl
  |some z=>
   rw[Ve,au (λq=>?_)];have q:=HI.mp q;rw[B]at q;obtain⟨d,g⟩:=aQ.mp o;obtain⟨a,en⟩:=aQ.mp h;rw[nI,dm,gs]at f;rcases Ry e with b|b
   ·exact f i j a d b (by rw[en,g];exact q.symm)
   ·exact f j i d a b (by rw[en,g];exact q)
def nmA (x:eZ) (n:Nm):List Int×List Int:=(n.1,kj (IC x) (je 0 0 0) (je 0 0 0) n.2.2)
def mV.anew (m:mV) (dc:ag) (cs:List Sh):mV:={m with dc:=dc,cs:=cs}
def Sf (A:Ad) (K:ah):Sp:=λvs H Q _=>∃(w c:ag) (m:mV) (b:cy) (x:eZ),vs=[.ref w,.ref c]/\fY A K H w m/\uS A H c (IC x)/\akb b m x/\
 ∀H' m',iV A K H H' w m m'->m'.ts=m.ts->m'.cs.map (·.1)=m.ts.map (·.1)->(∀s∈m'.cs,(s.2.2.map (·.1)).Nodup)->(fu m'.cs).Perm (cellsOf (b.moved (aU x) (bT x)))->
  m'.ns.map (λn=>(n.1,n.2.2))=(b.moved (aU x) (bT x)).names.map (λn=>(kX n.1,(partsOf n.2).flatten))->Q .m6 H'
def iR:=show FO P w K mg base 9 _ _ _ (Sf A K) by
 exists T.CA.gp fC
 obtain⟨w,c,m,b,x,rfl,h,F6,ok,k⟩:=h
 refine⟨_,(aj (bS 2 fC.nd (aK T.aF T.cT (pv 0)))
  (aj (fU T.aF T.cT (pv 0) Fp)
  (aj (Hv (j8 BC rfl (Mv (aK T.aF T.cA (pv 0))) (eC 3 fC.nd)
  (aq (vN (iu hr) (aK T.aF T.cT (pv 0)) (pv 3) Fo rfl))))
  (aj (Hv (j8 BC rfl (Mv (pv 2)) (eC 3 fC.nd)
  (aq (cC (bx (pv 0) T.aF T.DS (DM T) hr T.GI (aa (pv 3) (aa (l4 (iu hr) (pv 2) (pv 3) (λ_ _=>rfl)) (aa (pv 1) ai))))))))
  (aj (bS 4 fC.nd (aa0 (Ai T) hr T.Ar T.uR.kp T.Dt))
  (aq (j8 BC rfl (jO (sA (aen rfl) rfl T.RK RO (aa (aK T.aF T.dC (pv 0)) ai))) (eC 5 fC.nd)
  (aq (vN (iu hr) (aK T.aF T.dC (pv 0)) (pv 5) (bN (My T) hr T.MG T.G7.kp T.Qw (aa (l4 (iu hr) (aK T.aF T.dC (pv 0)) (pv 5) (λ_ _=>rfl)) (aa (pv 4) (aa (pv 4) (aa (pv 1) ai))))) rfl))))))))),?_⟩
 obtain⟨n1,n2,n3,n4,n5,n6,n7,n8⟩:=vj h.nd;have F4:=h.ob
 lk
 intro dc Β;have į:w≠dc:=bp F4 Β;have e1:(bB H dc (.dK [])) w=some (.ins A.bg m.dx (LI m)):=by rw[aw į];exact F4
 repeat' (first|(refine agH ?_)|walk_at "")
 refine⟨?_⟩;have vR:(bB (bB H dc (.dK [])) w (.ins A.bg m.dx (yc "cells" (.ref dc) (LI m)))) w=some (.ins A.bg m.dx (LI (m.anew dc []))):=ao;have TZ:(bB (bB H dc (.dK [])) w (.ins A.bg m.dx (yc "cells" (.ref dc) (LI m)))) dc=some (.dK []):=by rw[aw į.symm,ao]
 have K01:cJ [w] H (bB (bB H dc (.dK [])) w (.ins A.bg m.dx (yc "cells" (.ref dc) (LI m)))):=λu o J nu=>by
  rw[aw (by simpa using nu),aw (bp J Β)];exact J
 have F0:iC H [w]:=iC.one F4 rfl
 have asa:∀a,(bB (bB H dc (.dK [])) w (.ins A.bg m.dx (yc "cells" (.ref dc) (LI m)))) a=none->H a=none:=λa D=>by
  cases z:H a with
  |none=>rfl
  |some o=>
   by_cases q:a=w
   ·rw[q,ao]at D;cases D
   ·rw[K01 _ _ z (by simpa using q)]at D;cases D
 generalize bB (bB H dc (.dK [])) w (.ins A.bg m.dx (yc "cells" (.ref dc) (LI m)))=Z at *;have amc:Z m.dt=some (.dK (gY m.ts)):=K01 _ _ h.ti (by simpa using n1.symm);have ndt:m.dt≠dc:=bp h.ti Β;have nmc:m.dc≠dc:=bp h.ce Β;refine HG m.dt amc trivial (λod=>?_);refine⟨?_⟩;have a1:(bB Z m.dt (.gb od (.dK (gY m.ts)))) w=some (.ins A.bg m.dx (LI (m.anew dc []))):=by rw[aw n1];exact vR
 have a2:(bB Z m.dt (.gb od (.dK (gY m.ts)))) m.dt=some (.gb od (.dK (gY m.ts))):=ao;have a3:(bB Z m.dt (.gb od (.dK (gY m.ts)))) dc=some (.dK []):=by rw[aw ndt.symm];exact TZ
 lk
 refine oY ⟨_,a2,?_⟩
 refine Xc (kvs:=gY m.ts) (λj L C=>Eo (∃I v4 G sg,L=[some (.ref w),some (.ref c),some (.ref m.dc),I,v4,G]/\cJ [dc] (bB Z m.dt (.gb od (.dK (gY m.ts)))) C/\zJ A K C dc sg/\sg.map (·.1)=(m.ts.take j).map (·.1)/\(∀s∈sg,s.2.2=[])/\∀s∈sg,(bB Z m.dt (.gb od (.dK (gY m.ts)))) s.2.1=none))
  ⟨⟨_,_,_,[],rfl,cJ.refl _ _,⟨a3,(λs i=>nomatch i),(λs i=>nomatch i),bR.mpr ⟨(λz=>nomatch z),.nil⟩⟩,rfl,(λs i=>nomatch i),(λs i=>nomatch i)⟩⟩ (λj L C ⟨⟨_,_,_,_,_,kp,_⟩⟩=>kp _ _ a2 (nin ndt)) ?_ ?_
 ·rintro j kx v L C M ⟨⟨I,v4,G,sg,rfl,kp,Ψ,hk,hem,ĝ⟩⟩
  unfold gY at M;rw[aV]at M;cases ex:m.ts[j]? with
  |none=>rw[ex]at M;cases M
  |some t=>
   rw[ex]at M;cases M;have D0:=kp _ _ a1 (by simpa using į)
   lk
   intro d hd;have s2:=bt.new (o:=.dT []) hd;have S:=Ψ.same s2;have B8:=s2 _ _ D0;have hd3:(bB C d (.dT [])) d=some (.dT []):=ao
   have hdl:d∉sg.map (·.2.1):=λz=>by
    obtain⟨s,i,q⟩:=aG.mp z;have:=Ψ.sh s i;rw[show s.2.1=d from q,hd]at this;cases this
   have Û:d≠dc:=λz=>by rw[z,Ψ.ce]at hd;cases hd
   generalize bB C d (.dT [])=H2 at *
   have ε:sg.length<=j:=by
    have:=cK gh hk;rw[ae,ae,b7]at this;fail
   have hj:=(aQ.mp ex).1;have h64:=ok.t64
   have hsz:(rk sg).length<sizeLine:=by
    have:(rk sg).length=sg.length:=ae ..;exact dO (by fail)
   have dp:=Ey.k (k:=bh (t.1:Int)) (v:=V.ref d) S.ce hsz
   have htn:t.1∉sg.map (·.1):=by
    rw[hk];intro z;have h1:m.ts=m.ts.take j++m.ts.drop j:=(dP j m.ts).symm;have B:=ok.tn;rw[h1,aT,dH]at B;exact B.2.2 _ z _ (bu (by rw[Cc ex];exact aM)) rfl
   have â:putK (rk sg) (bh (t.1:Int)) (.ref d)=rk (sg++[(t.1,d,[])]):=jN (l:=sg) (f:=λs:Sh=>(bh (s.1:Int):Key)) (g:=λs:Sh=>V.ref s.2.1) (x:=(t.1,d,[])) (λq=>htn (RL.mp q));rw[â]at dp
   lk
   have fdc:iC H2 [dc]:=iC.one S.ce trivial;refine⟨⟨_,_,_,sg++[(t.1,d,[])],rfl,(kp.trans (cJ.same s2)).trans eO,⟨ao,?_,?_,?_⟩,?_,?_,?_⟩⟩
   ·intro s i;rcases bL.mp i with i|i
    ·rw[aw (λz=>(bR.mp Ψ.nd).1 (by rw[<-z];exact bu i))];exact S.sh s i
    ·rw[br.mp i];show bB H2 dc _ d=_;rw[aw Û];exact hd3
   ·intro s i e O;rcases bL.mp i with i|i
    ·exact qo eO fdc (S.co s i e O)
    ·rw[br.mp i]at O;cases O
   ·have VU:=Ψ.nd;rw[aT,<-eQ,dH];refine⟨VU,by simp,λa D b hb q=>?_⟩;rw[br.mp hb]at q;have q:a=d:=q;rw[q]at D;rcases aY.mp D with D|D
    ·exact Û D
    ·exact hdl D
   ·rw[aT,hk,take_one ex,aT];rfl
   ·intro s i;rcases bL.mp i with i|i
    ·exact hem s i
    ·rw[br.mp i]
   ·intro s i;rcases bL.mp i with i|i
    ·exact ĝ s i
    ·rw[br.mp i];show(bB Z m.dt _) d=none;cases z:(bB Z m.dt (.gb od (.dK (gY m.ts)))) d with
     |none=>rfl
     |some o=>rw[kp _ _ z (by simpa using Û)]at hd;cases hd
 ·rintro L H2 ⟨⟨I,v4,G,cs0,rfl,FW,S,hk2,ao9,axd⟩⟩
  rw[show(gY m.ts).length=m.ts.length from ae ..,de]at hk2;have a22:=FW _ _ a2 (by simpa using ndt);refine⟨a22,?_⟩;have K12:cJ [dc] Z (bB H2 m.dt (.dK (gY m.ts))):=FY amc FW;have apt:zJ A K (bB H2 m.dt (.dK (gY m.ts))) dc cs0:=S.unlock a22 (λ_ z=>by cases z)
  have axe:∀s∈cs0,Z s.2.1=none:=λs i=>by
   have:=axd s i;by_cases z:s.2.1=m.dt
   ·rw[z,ao]at this;cases this
   ·rw[aw z]at this;exact this
  generalize bB H2 m.dt (.dK (gY m.ts))=H2' at *;have Y:cJ [w] H H2':=λu o J nu=>K12 _ _ (K01 _ _ J nu) (by simpa using bp J Β)
  have D0:H2' w=some (.ins A.bg m.dx (LI (m.anew dc []))):=K12 _ _ vR (by simpa using į);have agX:H2' m.dc=some (.dK (rk m.cs)):=Y _ _ h.ce (by simpa using n2.symm);have awH:∀s∈m.cs,H2' s.2.1=some (.dT (jz s.2.2)):=λs i=>Y _ _ (h.sh s i) (by simpa using(n7 s i).1.symm)
  have axk:∀s∈m.cs,∀e∈s.2.2,nz A K H2' e.2.1 e.2.2:=λs i e O=>qo Y F0 (h.co s i e O)
  have ajo:uS A H2' c (IC x):=T4 Y F0 F6;have U:∀s∈cs0,H s.2.1=none:=λs i=>asa _ (axe s i)
  repeat' (first|(refine HG m.dc agX trivial (λÒ=>?_))|walk_at "")
  refine⟨?_⟩;have fk:cJ [m.dc] H2' (bB H2' m.dc (.gb Ò (.dK (rk m.cs)))):=eO;have ff:iC H2' [m.dc]:=iC.one agX trivial;have b1:(bB H2' m.dc (.gb Ò (.dK (rk m.cs)))) w=some (.ins A.bg m.dx (LI (m.anew dc []))):=by rw[aw n2];exact D0
  have b2:(bB H2' m.dc (.gb Ò (.dK (rk m.cs)))) m.dc=some (.gb Ò (.dK (rk m.cs))):=ao
  have alP:m.dc∉cs0.map (·.2.1):=λz=>by
   obtain⟨s,i,q⟩:=aG.mp z;have:=U s i;rw[show s.2.1=m.dc from q,h.ce]at this;cases this
  have nw0:w∉cs0.map (·.2.1):=λz=>by
   obtain⟨s,i,q⟩:=aG.mp z;have:=U s i;rw[show s.2.1=w from q,F4]at this;cases this
  have b3:zJ A K (bB H2' m.dc (.gb Ò (.dK (rk m.cs)))) dc cs0:=⟨by rw[aw nmc.symm];exact apt.ce,λs i=>by rw[aw (λz=>alP (by rw[<-z];exact bu i))];exact apt.sh s i,λs i e O=>absurd O (by rw[ao9 s i];exact λz=>nomatch z),apt.nd⟩;have b4:∀s∈m.cs,(bB H2' m.dc (.gb Ò (.dK (rk m.cs)))) s.2.1=some (.dT (jz s.2.2)):=λs i=>by rw[aw (n7 s i).2.2.1.symm];exact awH s i
  have b5:∀s∈m.cs,∀e∈s.2.2,nz A K (bB H2' m.dc (.gb Ò (.dK (rk m.cs)))) e.2.1 e.2.2:=λs i e O=>qo fk ff (axk s i e O)
  have b6:uS A (bB H2' m.dc (.gb Ò (.dK (rk m.cs)))) c (IC x):=T4 fk ff ajo
  have asQ:fu cs0=[]:=by
   unfold fu;rw[List.flatMap_eq_nil_iff];intro s i;rw[ao9 s i];rfl
  have Î:=asM b3
  lk
  refine oY ⟨_,b2,?_⟩
  refine Xc (kvs:=rk m.cs) (λj L C=>Eo (∃I v4 G sg,L=[some (.ref w),some (.ref c),some (.ref m.dc),I,v4,G]/\cJ (cs0.map (·.2.1)) (bB H2' m.dc (.gb Ò (.dK (rk m.cs)))) C/\zJ A K C dc sg/\shA sg=shA cs0/\(fu sg).Perm (Z9 x (m.cs.take j))/\∀s∈sg,(s.2.2.map (·.1)).Nodup))
   ⟨⟨_,_,_,cs0,rfl,cJ.refl _ _,b3,rfl,by rw[asQ];exact .nil,λs i=>by rw[ao9 s i];exact .nil⟩⟩ (λj L C ⟨⟨_,_,_,_,_,kp,_⟩⟩=>kp _ _ b2 alP) ?_ ?_
  ·rintro j kx v L C M ⟨⟨I,v4,G,sg,rfl,kp,Ψ,sa,pm,en⟩⟩
   unfold rk at M;rw[aV]at M;cases ex:m.cs[j]? with
   |none=>rw[ex]at M;cases M
   |some s=>
    rw[ex]at M;cases M;have i:=bI ex;have ob3:=kp _ _ b1 nw0;have ob3:C w=some (.ins A.bg (m.anew dc sg).dx (LI (m.anew dc sg))):=ob3;have bf3:=kp _ _ b2 alP;have kr:gF (rk m.cs) (bh (s.1:Int))=some (.ref s.2.1):=gN (l:=m.cs) (f:=λs:Sh=>(bh (s.1:Int):Key)) (g:=λs:Sh=>V.ref s.2.1) (AD (f:=λs:Sh=>s.1) ok.cn) i;have g3:jt C m.dc (.int (s.1:Int)) (some (.ref s.2.1)):=.inl ⟨rk m.cs,bh (s.1:Int),.inr ⟨_,bf3⟩,rfl,kr.symm⟩
    have ns0:s.2.1∉cs0.map (·.2.1):=λz=>by
     obtain⟨s',VT,q⟩:=aG.mp z;have:=U s' VT;rw[show s'.2.1=s.2.1 from q,h.sh s i]at this;cases this
    have sh3:=kp _ _ (b4 s i) ns0;have co3:∀e∈s.2.2,nz A K C e.2.1 e.2.2:=λe O=>qo kp Î (b5 s i e O)
    have ch3:=T4 kp Î b6
    have ns1:s.2.1∉(m.anew dc sg).cs.map (·.2.1):=by
     show s.2.1∉sg.map (·.2.1);rw[LZ sa];exact ns0
    have tko:aev (m.anew dc sg).cs x s.1 s.2.2:=ok.take ex (by show sg.map (·.1)=_;rw[LY sa];exact hk2) en pm;have apu:zJ A K C (m.anew dc sg).dc (m.anew dc sg).cs:=Ψ
    lk
    intro H4 cs4 ģ sa4 pm4 en4 Ε;have Ε:cJ (sg.map (·.2.1)) C H4:=Ε;rw[LZ sa]at Ε;refine⟨⟨_,_,_,cs4,rfl,kp.trans Ε,ģ,sa4.trans sa,?_,en4⟩⟩;rw[abf x ex];exact pm4.trans (fo _ pm)
  ·rintro L H3 ⟨⟨I,v4,G,csF,rfl,KY,cs3,sa3,pm3,en3⟩⟩
   rw[show(rk m.cs).length=m.cs.length from ae ..,de]at pm3;have b23:=KY _ _ b2 alP;refine⟨b23,?_⟩;have K23:cJ (cs0.map (·.2.1)) H2' (bB H3 m.dc (.dK (rk m.cs))):=FY agX KY;have amC:zJ A K (bB H3 m.dc (.dK (rk m.cs))) dc csF:=cs3.unlock b23 (λ_ z=>by cases z);generalize bB H3 m.dc (.dK (rk m.cs))=H3' at *
   have X:cJ [w] H H3':=λu o J nu=>K23 _ _ (Y _ _ J nu) (λz=>by
    obtain⟨s',VT,q⟩:=aG.mp z;have:=U s' VT;rw[show s'.2.1=u from q,J]at this;cases this)
   have B8:H3' w=some (.ins A.bg m.dx (LI (m.anew dc csF))):=K23 _ _ D0 nw0
   have frF:∀a∈csF.map (·.2.1),H a=none:=λa D=>by
    rw[LZ sa3]at D;obtain⟨s',VT,rfl⟩:=aG.mp D;exact U s' VT
   have ĥ:fY A K H3' w (m.anew dc csF):=by
    refine⟨B8,X _ _ h.ti (nin n1.symm),λt ht=>F8 X F0 (h.tl t ht),amC.ce,amC.sh,amC.co,X _ _ h.na (nin n3.symm),λn B=>vS X F0 (h.nl n B),?_⟩;show(w::m.dt::dc::m.dn::csF.map (·.2.1)).Nodup;obtain⟨q1,q2⟩:=bR.mp amC.nd;have f1:∀u o,H u=some o->u∉csF.map (·.2.1):=λu o J z=>by rw[frF u z]at J;cases J
    have ndn:m.dn≠dc:=bp h.na Β;simp only[bR,aY,not_or];exact⟨⟨n1,į,n3,f1 _ _ F4⟩,⟨ndt,n5,f1 _ _ h.ti⟩,⟨ndn.symm,q1⟩,f1 _ _ h.na,q2⟩
   have Ð:iV A K H H3' w m (m.anew dc csF):=⟨λu o J nu=>X _ _ J (by
    simp only[br]
    rintro rfl
    exact nu (by unfold rj;exact aM)),ĥ,λa D=>by
    have D:a∈w::m.dt::dc::m.dn::csF.map (·.2.1):=D;unfold rj;simp only[aY]at D⊢;rcases D with rfl|rfl|rfl|rfl|D
    ·exact .inl (.inl rfl)
    ·exact .inl (.inr (.inl rfl))
    ·exact .inr Β
    ·exact .inl (.inr (.inr (.inr (.inl rfl))))
    ·exact .inr (frF a D),λu o J=>by
    by_cases z:u=w
    ·rw[z];exact⟨_,B8⟩
    ·exact⟨o,X _ _ J (nin z)⟩⟩
   have apg:=T4 Ð.keep h.D5 F6
   lk
   intro H4 a4 s4 n4a ar4;have ģ:=ĥ.same s4;have TX:H4 w=some (.ins A.bg m.dx (LI (m.anew dc csF))):=ģ.ob;have aBX:H4 m.dn=some (.dT (sU m.ns)):=ģ.na;have apf:=apg.same s4
   lk
   intro l5 qs hl5 TY;have s5:=bt.new (o:=.lst (qs.map V.ref)) hl5;have e5:(bB H4 l5 (.lst (qs.map V.ref))) l5=some (.lst (qs.map V.ref)):=ao;have at5:=ģ.same s5;have ar5:=ar4.same s5;have axn:=apf.same s5;have hk5:aeD (bB H4 l5 (.lst (qs.map V.ref))) qs (sU m.ns):=Paired.Rh TY λ_ _ q=>s5 _ _ q
   have á:=Ð.trans h (ĥ.step (s4.trans s5));generalize bB H4 l5 (.lst (qs.map V.ref))=H5 at *;have sq5:=dv.of (K:=K) e5
   have arX:qs.length=m.ns.length:=by
    have:=eM hk5;rw[show(sU m.ns).length=m.ns.length from ae ..]at this;exact this
   have awU:(m.ns.map (·.1)).Nodup:=by
    have e:m.ns.map (·.1)=b.names.map λn=>kX n.1:=by
     have:=cK (acZ LC) ok.nm;rw[bq,bq]at this;exact this
    rw[e];have:=ok.inv.nnd;rw[nI,dm]at this⊢;exact this.imp λB9 q=>B9 (K6 q)
   have ajc:∀n∈m.ns,oU n.2.2:=λn B=>by
    have D1:(n.1,n.2.2)∈m.ns.map (λn=>(n.1,n.2.2)):=aG.mpr ⟨n,B,rfl⟩;rw[ok.nm]at D1;obtain⟨y,hy,q⟩:=aG.mp D1;obtain⟨_,p,hp⟩:=ok.inv.nm y hy;have q2:(partsOf y.2).flatten=n.2.2:=(kZ q).2;rw[hp]at q2;have q2:p=n.2.2:=by simpa using q2
    rw[<-q2];exact tO y.2 p (by rw[hp];exact aM)
   have F5:=at5.D5
   lk
   refine pw (xs:=qs.map V.ref) (λj L C=>Eo (∃I G MD,L=[some (.ref w),some (.ref c),some (.ref m.dc),I,some (.ref a4),G]/\iV A K H5 C w (m.anew dc csF) ((m.anew dc csF).CK MD)/\MD.map (λn=>(n.1,n.2.2))=((m.ns.take j).map (nmA x))++(m.ns.drop j).map λn=>(n.1,n.2.2)))
    ⟨⟨_,_,m.ns,rfl,at5.step (bt.refl _),rfl⟩⟩ (λj L C _ ⟨⟨_,_,_,_,st,_⟩⟩=>T3 st.keep F5 sq5) ?_ ?_
   ·rintro j v L C hv ⟨⟨I,G,MD,rfl,st,ã⟩⟩
    rw[aV]at hv;cases eq:qs[j]? with
    |none=>rw[eq]at hv;cases hv
    |some q=>
     rw[eq]at hv;obtain rfl:V.ref q=v:=ay hv;have hj:=(aQ.mp eq).1;obtain⟨n,B⟩:∃n,m.ns[j]? =some n:=⟨_,aZ (by fail)⟩;have hq5:H5 q=some (.tup ((n.1.map (bh:Int->Key)).map kV)):=f9 (F:=fun(q:ag) (kv:List Key×V)=>H5 q=some (.tup (kv.1.map kV))) hk5 eq (y:=(n.1.map bh,V.ref n.2.1)) (by unfold sU;rw[aV,B];rfl);have Ze:=T2 st.keep F5 hq5;have ů:C w=some (.ins A.bg m.dx (LI (m.anew dc csF))):=st.at_.ob;have awX:C m.dn=some (.dT (sU MD)):=st.at_.na;have aCv:=oH st.keep F5 ar5;have axp:=T4 st.keep F5 axn
     have Í:MD.map (·.1)=m.ns.map (·.1):=by
      have:=cK (acZ LC) ã;rw[aT,bq,bq,bq]at this;have e3:m.ns.map (·.1)=(m.ns.take j).map (·.1)++(m.ns.drop j).map (·.1):=by rw[<-aT,dP]
      rw[e3];exact this
     have hl':MD.length=m.ns.length:=by
      have:=cK gh Í;rw[ae,ae]at this;exact this
     obtain⟨n',Ù⟩:∃n',MD[j]? =some n':=⟨_,aZ (by fail)⟩
     have hnn:(n'.1,n'.2.2)=(n.1,n.2.2):=by
      have h1:(MD.map (λn=>(n.1,n.2.2)))[j]? =some (n'.1,n'.2.2):=by rw[aV,Ù];rfl
      rw[ã,zM (by rw[ae,b7];fail),aV,List.getElem?_drop,ae,b7,show j+(j - min j m.ns.length)=j by fail,B]at h1;exact(ay h1).symm
     obtain⟨e1,e2⟩:=kZ hnn;have ao2:(MD.map (·.1)).Nodup:=by rw[Í];exact awU
     have kr:gF (sU MD) (n.1.map bh)=some (.ref n'.2.1):=by
      rw[<-e1];refine gN (l:=MD) (f:=λn:Nm=>n.1.map (bh:Int->Key)) (g:=λn:Nm=>V.ref n.2.1) ?_ (bI Ù);rw[nI,dm]at ao2⊢;exact ao2.imp λB9 z=>B9 (HI.mp z)
     have g':=jt.t (k:=n.1.map bh) awX Ze;rw[kr]at g';have hsq:gL K C n'.2.1 (n.2.2.map V.int):=by rw[<-e2];exact st.at_.nl n' (bI Ù)
     have ñ:=ajc n (bI B)
     lk
     intro H6 a6 s6 hs6;have at6:=st.at_.same s6;have awT:H6 w=some (.ins A.bg m.dx (LI (m.anew dc csF))):=at6.ob;have awW:H6 m.dn=some (.dT (sU MD)):=at6.na;have hq6:=s6 _ _ Ze
     have ajk:m.ns.length<=256:=by
      have:=cK gh ok.nm;rw[ae,ae]at this;rw[this];exact ok.inv.YT
     have hsz:(sU MD).length<sizeLine:=by
      have:(sU MD).length=MD.length:=ae ..;exact dO (by fail)
     have dp:=Ey.t (k:=n.1.map bh) (v:=V.ref a6) awW hq6 hsz
     have hpK:putK (sU MD) (n.1.map bh) (.ref a6)=sU (MD.set j (n.1,a6,kj (IC x) (je 0 0 0) (je 0 0 0) n.2.2)):=by
      rw[<-agg ao2 Ù (y:=(n.1,a6,kj (IC x) (je 0 0 0) (je 0 0 0) n.2.2)) e1.symm];exact Mr (l:=MD) (f:=λn:Nm=>n.1.map (bh:Int->Key)) (g:=λn:Nm=>V.ref n.2.1) (x:=(n.1,a6,kj (IC x) (je 0 0 0) (je 0 0 0) n.2.2)) (aG.mpr ⟨n',bI Ù,by rw[e1]⟩)
     rw[hpK]at dp
     lk
     have st6:=at6.CK (ns:=MD.set j (n.1,a6,kj (IC x) (je 0 0 0) (je 0 0 0) n.2.2)) (λy hy=>by
      rcases List.mem_or_eq_of_mem_set hy with hy|rfl
      ·exact at6.nl y hy
      ·exact hs6)
     refine⟨⟨_,_,MD.set j (n.1,a6,kj (IC x) (je 0 0 0) (je 0 0 0) n.2.2),rfl,(st.trans at5 (st.at_.step s6)).trans at5 st6,?_⟩⟩;rw[atM,ã,take_one B,aT,Cc B,bW];have ó:((m.ns.take j).map (nmA x)).length=j:=by rw[ae,b7];fail
     rw[afT (h:=by fail),ó,Vf,List.set_cons_zero,cz];rfl
   ·rintro L C ⟨⟨I,G,MD,rfl,st,ã⟩⟩
    rw[ae,arX,de,amU,lD,cX]at ã;refine k C _ (á.trans h st) rfl ?_ en3 ?_ ?_
    ·show csF.map (·.1)=_;rw[LY sa3];exact hk2
    ·show(fu csF).Perm _;exact pm3.trans (Tr ok.inv ok.v ok.cp)
    ·show MD.map (λn=>(n.1,n.2.2))=_;rw[ã];show m.ns.map (nmA x)=(b.names.map λn=>(n.1,fS (aU x) (bT x) pJ pJ n.2)).map _;have e3:m.ns.map (nmA x)=(m.ns.map λn=>(n.1,n.2.2)).map λy=>(y.1,kj (IC x) (je 0 0 0) (je 0 0 0) y.2):=by rw[bq];rfl
     rw[e3,ok.nm,bq,bq];refine cW λy hy=>?_
     obtain⟨asl,p,hp⟩:=ok.inv.nm y hy;show(kX y.1,kj (IC x) (je 0 0 0) (je 0 0 0) (partsOf y.2).flatten)=(kX y.1,(partsOf (fS _ _ pJ pJ y.2)).flatten);rw[jQ ok.v y.2 asl,hp];simp only[uJ,List.flatten_nil,cX,bW,lD];rfl
def Qa:bU b (.change x)=if gV b x<0 then(b,h9 (gV b x))else(b.change x,h9 0):=rfl
def aan (i:iJ b) (q:¬gV b x<0) {y:bP×cE} (f:y∈b.cells) (B:aU x y.1=some c'):(b.change x).sheet c'.sheet=true:=by
 obtain⟨a,d⟩:=Cf i q;have g:(c',y.2.follow (aU x) (bT x) y.1 c')∈(b.moved (aU x) (bT x)).cells:=(BS d i.RE).mem_iff.mpr (gW.mpr ⟨y,f,by rw[B];rfl⟩)
 have e:(b.change x).cells=(b.moved (aU x) (bT x)).cells:=by
  unfold afS;cases x<;>rfl
 exact(a.ok _ (by rw[e];exact g)).2.1
def YQ:eZ->Prop
 |.gone _=>False
 |_=>True
def Xu (h:YQ x):b.change x=b.moved (aU x) (bT x):=by
 unfold afS;cases x with
 |gone _=>exact h.elim
 |_=>rfl
def Rep.amX (r:Rep b m) (i:iJ b):m.ts.length<=64:=by
 have:=Tn (n:=64) r.tn (λk a=>by
  have:=Sq (r.wy.mp a);rw[i.len]at this;exact this)
 rw[ae]at this;exact this
def Rep.apy (r:Rep b m) (i:iJ b) (q:YQ x) (f:¬gV b x<0):akb b m x where
 v:=(Cf i f).2
 tn:=r.tn
 t64:=r.amX i
 cn:=r.cn
 en:=r.en
 cp:=r.cp
 nm:=r.nm
 inv:=i
 to:=λy a e d=>by
  have:=aan i f a d;rw[Xu q]at this;exact r.tk _ this
def Rep.moved (r:Rep b m) (B:YQ x) (f:m'.ts=m.ts) (q:m'.cs.map (·.1)=m.ts.map (·.1)) (I:∀s∈m'.cs,(s.2.2.map (·.1)).Nodup) (G:(fu m'.cs).Perm (cellsOf (b.moved (aU x) (bT x))))
 (F:m'.ns.map (λn=>(n.1,n.2.2))=(b.moved (aU x) (bT x)).names.map (λn=>(kX n.1,(partsOf n.2).flatten))):Rep (b.change x) m':=by
 rw[Xu B]
 exact {
  tn:=by rw[f];exact r.tn
  tb:=λt a=>by rw[f]at a;exact r.tb t a
  ti:=λt a=>by rw[f]at a;exact r.ti t a
  tk:=λk d=>by rw[f];exact r.tk k d
  cn:=by rw[q];exact r.tn
  ck:=λk=>by rw[q];exact r.wy
  en:=I
  cp:=G
  nm:=F}
def Oq (kvs:List (Key×V)) (k:Nat) (rows:Bool) (a n lo hi:Nat):Int:=if n=0\/fR rows<a+n then -1 else d9 kvs [jY k (jL rows) lo hi]
def RH (r:Rep b m) {k:Nat} {a:Nat}:Oq (gY m.ts) k rows a n lo hi=if a<fR rows/\1<=n/\a+n<=fR rows/\lo<=hi/\hi<fR (!rows)then(if b.sheet k=false then -2 else 0)else -1:=by
 have d:(gF (gY m.ts) (bh (jY k (jL rows) lo hi).sheet)).isSome=b.sheet k:=by
  have:(jY k (jL rows) lo hi).sheet=(k:Int):=by unfold jY;split<;>rfl
  rw[this];exact r.N3 k
 have e:(jY k (jL rows) lo hi).on=decide (lo<=hi/\hi<fR (!rows)):=by
  unfold b8.on jY jL fR;rw[cO];cases rows
  ·simp[vG];fail
  ·simp[vH];fail
 unfold Oq d9;simp only[gX,Kh,dh,e,d,aX];by_cases c1:n=0\/fR rows<a+n
 ·rw[az c1,au (by fail)]
 ·rw[au c1];by_cases c2:lo<=hi/\hi<fR (!rows)
  ·have c3:a<fR rows/\1<=n/\a+n<=fR rows/\lo<=hi/\hi<fR (!rows):=⟨by fail,by fail,by fail,c2⟩;rw[az c2,az c3];cases b.sheet k<;>rfl
  ·rw[au c2,au (λz=>c2 z.2.2.2)]
def HY (A:Ad) (K:ah):Sp:=λvs H Q _=>∃(w:ag) (m:mV) (k:Nat) (rows:Bool) (a n lo hi:Nat),vs=[.ref w,.int (k:Int),.int (jL rows),.int (a:Int),.int (n:Int),.int (lo:Int),.int (hi:Int)]/\fY A K H w m/\∀H',bt H H'->Q (.int (Oq (gY m.ts) k rows a n lo hi)) H'
def ahl (k:Int) (rows:Bool) (lo hi:Int):(jY k (jL rows) lo hi).last (jL rows)=(fR rows:Int) - 1:=by
 unfold jY b8.last jL fR;cases rows<;>rfl
def lq:=show FO P w K mg base 4 _ _ _ (HY A K) by
 exists T.wa.gp ll
 obtain⟨w,m,k,rows,a,n,lo,i,rfl,h,g⟩:=h
 refine⟨_,(aj (bS 7 ll.nd (bN (KI T) hr T.KO T.HS.kp T.O3 (aa (pv 1) (aa (pv 2) (aa (pv 5) (aa (pv 6) ai))))))
  (aj (ee (PW.pt (SO (cS i7 (pv 4) bc) (Ov (cS Js (gi lP (gi kl (pv 3) (pv 4)) bc) (bx (pv 7) T.bC T.ie (ic T) hr T.iU (aa (pv 2) ai)))))) (aq (aW (bE rfl T.FJ))) cv)
  (aq (aW (bx (pv 0) T.aF T.dF (dE T) hr T.dN (aa (di (aa (pv 7) ai)) ai)))))),?_⟩
 have f:=h.ob
 lk
 intro d p b S u;have j:=h.same b;have M:=j.ob;obtain⟨dp,X⟩:=id u;have bl:=ahl k rows lo i;by_cases c1:(n:Int)=0
 ·lk
  have:=g d b;unfold Oq at this;rw[az (.inl (by fail))]at this;exact this
 ·by_cases c2:(a:Int)+(n:Int) - 1>(fR rows:Int) - 1
  ·repeat' (first|(rw[bl])|walk_at "")
   have:=g d b;unfold Oq at this;rw[az (.inr (by fail))]at this;exact this
  ·repeat' (first|(rw[bl])|walk_at "")
   intro l y;have e:=bt.new (o:=.lst [V.ref p]) y;have z:=j.same e;have q:=z.ob;have L:(bB d l (.lst [V.ref p])) l=some (.lst ([p].map V.ref)):=ao;have C:za A (bB d l (.lst [V.ref p])) [p] [jY k (jL rows) lo i]:=.cons (u.same e) .nil;have D:[jY (k:Int) (jL rows) lo i].length<=10:=by simp
   lk
   intro J x;have:=g J ((b.trans e).trans x);unfold Oq at this;rw[au (by fail)]at this;exact this
def Done.change {w q:ag} (k:Done A K H Q w m b (.change x)) (h:fY A K H w m) (F:¬gV b x<0) (s:iV A K H H2 w m m') (f:bt H2 H') (r:Rep (b.change x) m') (B:H2 q=none) (e:H' q=some (.lst [V.int 0])):Q (.ref q) H':=by
 have a:=Qa (b:=b) (x:=x);rw[au F]at a;refine k H' q m' (s.trans h (s.at_.step f)) (by rw[a];exact r) (s.free B) ?_;rw[e];unfold fh;rw[a];rfl
def Done.refused {w q:ag} {v:Int} (k:Done A K H Q w m b (.change x)) (h:fY A K H w m) (r:Rep b m) (s:bt H H') (f:gV b x=v) (F:v<0) (B:H' q=none):Q (.ref q) (bB H' q (.lst [V.int v])):=by
 have a:=Qa (b:=b) (x:=x);rw[az (by rw[f];exact F),f]at a;exact k.vQ h r (s.bB B) (by rw[a]) (l:=[v]) (by unfold fh;rw[a];rfl) (none_of s B) ao
def ajD (r:Rep b m) {k:Nat} {a:Nat}:gV b (.delete k rows a n lo hi)=Oq (gY m.ts) k rows a n lo hi:=(RH r).symm
def Od (A:Ad) (K:ah):Sp:=λvs H Q _=>∃(w:ag) (m:mV) (b:cy) (k:Nat) (rows:Bool) (a n lo hi:Nat),vs=[.ref w,.int (k:Int),.int (jL rows),.int (a:Int),.int (n:Int),.int (lo:Int),.int (hi:Int)]/\fY A K H w m/\Rep b m/\iJ b/\Done A K H Q w m b (.change (.delete k rows a n lo hi))
def aaV (r:Rep b m) {k:Nat} {a:Nat} (h:¬Oq (gY m.ts) k rows a n lo hi=0):Oq (gY m.ts) k rows a n lo hi<0:=by
 rw[RH r]at h⊢;split
 ·split
  ·decide
  next e d=>rw[az e,au d]at h;exact absurd rfl h
 ·decide
def ye:=show FO P w K mg base 10 _ _ _ (Od A K) by
 exists T.zH.gp mY
 obtain⟨w,m,b,k,rows,a,n,lo,hi,rfl,h,r,i,y⟩:=h
 refine⟨_,(aj (bS 7 mY.nd (bx (pv 0) T.aF T.lx (lq T) hr T.mf (aa (pv 1) (aa (pv 2) (aa (pv 3) (aa (pv 4) (aa (pv 5) (aa (pv 6) ai))))))))
  (aj (ee (cS sE (pv 7) (bE rfl T.i8)) (aq (aW (di (aa (pv 7) ai)))) cv)
  (aj (cC (bx (pv 0) T.aF T.iS (iR T) hr T.ja (aa (jy T.abi (OE T) hr T.abq T.Nv (aa (bN (KI T) hr T.KO T.HS.kp T.O3 (aa (pv 1) (aa (pv 2) (aa (pv 5) (aa (pv 6) ai))))) (aa (pv 2) (aa (pv 3) (aa (pv 4) ai))))) ai)))
  (aq (aW (di (aa (bE rfl T.i8) ai))))))),?_⟩
 have F4:=h.ob
 lk
 intro H1 e;have h1:=h.same e;have vR:=h1.ob;have J:=ajD r (k:=k) (rows:=rows) (a:=a) (n:=n) (lo:=lo) (hi:=hi);by_cases C:Oq (gY m.ts) k rows a n lo hi=0
 rotate_left
 ·have g:=aaV r C
  lk
  intro q d;exact y.refused h r e J g d
 ·have z:¬gV b (.delete k rows a n lo hi)<0:=by rw[J,C];decide
  lk
  intro H2 p U np X;have f:=e.trans U
  lk
  intro D dx L M Y;refine⟨D,dx,p,jL rows,a,n,rfl,ao,λH3 e3 KY=>⟨rfl,?_⟩⟩;have u:bt H2 H3:=bt.made L M (λb o q m=>KY b o q (by simpa using m));have j:=f.trans u;have Z:=h.same j;have B8:=Z.ob;have F6:uS A H3 D (IC (.delete k rows a n lo hi)):=⟨dx,p,e3,X.same u⟩;have cok:=r.apy i (x:=.delete k rows a n lo hi) trivial z
  lk
  intro H4 m4 S O I G F B
  lk
  intro q d;exact y.change h z ((h.step j).trans h S) (bt.new d) (r.moved trivial O I G F B) d ao
def Oc (A:Ad) (K:ah):Sp:=λvs H Q _=>∃(w:ag) (m:mV) (b:cy) (k:Nat) (rows:Bool) (a n lo hi:Nat),vs=[.ref w,.int (k:Int),.int (jL rows),.int (a:Int),.int (n:Int),.int (lo:Int),.int (hi:Int)]/\fY A K H w m/\Rep b m/\iJ b/\Done A K H Q w m b (.change (.insert k rows a n lo hi))
def ajC (r:Rep b m) {k:Nat} {a:Nat}:gV b (.insert k rows a n lo hi)=if Oq (gY m.ts) k rows a n lo hi=0 then(if(b.cells.any λx=>(aU (.insert k rows a n lo hi) x.1).isNone)=true then -5 else 0)else Oq (gY m.ts) k rows a n lo hi:=by
 rw[RH r];unfold gV;dsimp only;by_cases c1:a<fR rows/\1<=n/\a+n<=fR rows/\lo<=hi/\hi<fR (!rows)
 ·rw[az c1,az c1];cases b.sheet k<;>rfl
 ·rw[au c1,au c1];rfl
def Rep.av9 (r:Rep b m) (i:iJ b) (F:(m.cs.map (·.2.1)).Nodup) (f:s∈m.cs) {a:Nat} (B:gr (.insert s.1 rows a n lo hi)):
 s.2.2.any (JC (IC (.insert s.1 rows a n lo hi)) s.1)=b.cells.any λx=>(aU (.insert s.1 rows a n lo hi) x.1).isNone:=by
 obtain⟨rest,o,l,z⟩:=r.split F f
 have u:(b.cells.any λx=>(aU (.insert s.1 rows a n lo hi) x.1).isNone)=(cellsOf b).any λy=>(aU (.insert s.1 rows a n lo hi) y.1).isNone:=by
  unfold cellsOf;rw[Va];rfl
 rw[u,l.any_eq,List.any_append]
 have p:(rest.any λy=>(aU (.insert s.1 rows a n lo hi) y.1).isNone)=false:=by
  rw[akU];intro y j;have:=o y j;unfold aU;dsimp only;rw[az (.inl this)];simp
 rw[p,Bool.or_false,Va];rw[cO,Ho,Ho]
 have g:∀e∈s.2.2,JC (IC (.insert s.1 rows a n lo hi)) s.1 e=(aU (.insert s.1 rows a n lo hi) (cellK s.1 e)).isNone:=λe d=>by
  obtain⟨y,j,_,_,h,_⟩:=Zn i r.cp f d;unfold JC;have:=La B h;rw[show je (s.1:Int) (e.1.1:Int) (e.1.2:Int)=aO (cM (cellK s.1 e))from rfl,this];cases aU (.insert s.1 rows a n lo hi) (cellK s.1 e)<;>rfl
 constructor
 ·rintro⟨e,d,q⟩
  exact⟨e,d,by rw[g e d]at q;exact q⟩
 ·rintro⟨e,d,q⟩
  exact⟨e,d,by rw[g e d];exact q⟩
def yd:=show FO P w K mg base 10 _ _ _ (Oc A K) by
 exists T.zG.gp jF
 obtain⟨w,m,b,k,rows,a,n,lo,hi,rfl,h,r,i,y⟩:=h
 refine⟨_,(aj (bS 7 jF.nd (bx (pv 0) T.aF T.lx (lq T) hr T.mf (aa (pv 1) (aa (pv 2) (aa (pv 3) (aa (pv 4) (aa (pv 5) (aa (pv 6) ai))))))))
  (aj (ee (cS sE (pv 7) (bE rfl T.i8)) (aq (aW (di (aa (pv 7) ai)))) cv)
  (aj (bS 8 jF.nd (jy T.YY (MC T) hr T.Y4 T.Nv (aa (bN (KI T) hr T.KO T.HS.kp T.O3 (aa (pv 1) (aa (pv 2) (aa (pv 5) (aa (pv 6) ai))))) (aa (pv 2) (aa (pv 3) (aa (pv 4) ai))))))
  (aj (ee (iG (bx (pv 0) T.aF T.vP (vO T) hr T.xE (aa (pv 1) (aa (pv 8) ai)))) (aq (aW (di (aa (bE rfl T.w9) ai)))) cv)
  (aj (cC (bx (pv 0) T.aF T.iS (iR T) hr T.ja (aa (pv 8) ai)))
  (aq (aW (di (aa (bE rfl T.i8) ai))))))))),?_⟩
 obtain⟨n1,n2,n3,n4,n5,n6,n7,S⟩:=vj h.nd;have F4:=h.ob
 lk
 intro H1 u;have h1:=h.same u;have vR:=h1.ob;have d:=ajC r (k:=k) (rows:=rows) (a:=a) (n:=n) (lo:=lo) (hi:=hi);by_cases j:Oq (gY m.ts) k rows a n lo hi=0
 rotate_left
 ·have C:=aaV r j;rw[au j]at d
  lk
  intro q e;exact y.refused h r u d C e
 ·rw[az j]at d;have g:=j;rw[RH r]at g
  have U:gr (.insert k rows a n lo hi)/\b.sheet k=true:=by
   split at g
   next c1=>
    refine⟨c1,?_⟩;cases hb:b.sheet k with
    |true=>rfl
    |false=>rw[hb]at g;cases g
   ·cases g
  obtain⟨hv,G⟩:=U;obtain⟨sh,X,TU,kr⟩:=r.Bm G;subst TU;have z:=r.av9 i S X hv;have μ:=r.Sn i S X;have aml:sh.2.2.length<=20000:=by omega
  lk
  intro H2 p s2 np Z;have yt:=u.trans s2
  lk
  intro F dx I O nc3;refine⟨F,dx,p,jL rows,a,n,rfl,ao,λH3 e3 KY=>⟨rfl,?_⟩⟩;have M:bt H2 H3:=bt.made I O (λb o q m=>KY b o q (by simpa using m));have J:=yt.trans M;have h3:=h.same J;have B8:=h3.ob;have F6:uS A H3 F (IC (.insert sh.1 rows a n lo hi)):=⟨dx,p,e3,Z.same M⟩
  lk
  intro H4 L;have D:=J.trans L;have h4:=h.same D;have TX:=h4.ob;have apf:=F6.same L;rw[z];cases f:b.cells.any λx=>(aU (.insert sh.1 rows a n lo hi) x.1).isNone with
  |true=>
   rw[f,az rfl]at d
   lk
   intro q e;exact y.refused h r D d (by decide) e
  |false=>
   rw[f,au (by decide)]at d;have B:¬gV b (.insert sh.1 rows a n lo hi)<0:=by rw[d];decide
   have cok:=r.apy i (x:=.insert sh.1 rows a n lo hi) trivial B
   lk
   intro H5 m5 Y t1 t2 t3 t4 t5
   lk
   intro q e;exact y.change h B ((h.step D).trans h Y) (bt.new e) (r.moved trivial t1 t2 t3 t4 t5) e ao
def aaH (q:a.row0<=a.row1) (f:a.col0<=a.col1):(aO a).shifted (to.sheet:Int) ((to.row:Int) - (aO a).r0) ((to.col:Int) - (aO a).c0)=aO (d6 a to):=by
 unfold b8.shifted aO d6;simp only[b8.mk.injEq];refine⟨trivial,?_,?_,?_,?_⟩<;>fail
def ajB (r:Rep b m):gV b (.move a to)=d9 (gY m.ts) [aO a,(aO a).shifted (to.sheet:Int) ((to.row:Int) - (aO a).r0) ((to.col:Int) - (aO a).c0)]:=by
 unfold gV;dsimp only;by_cases c1:d7 a=true
 ·have v:=jX.mp c1;rw[aaH v.r v.c,Yr r,c1,bM]
  have l:d7 (d6 a to)=decide ((d6 a to).row1<vG/\(d6 a to).col1<vH):=by
   unfold d7;have i:(d6 a to).row0<=(d6 a to).row1:=jc _ _;have h:(d6 a to).col0<=(d6 a to).col1:=jc _ _;rw[cO];simp only[aC,aX];exact⟨λz=>⟨z.2.1,z.2.2.2⟩,λz=>⟨i,z.1,h,z.2⟩⟩
  rw[l];have e:a.row1<vG:=v.r1;have d:a.col1<vH:=v.c1;by_cases c2:(d6 a to).row1<vG/\(d6 a to).col1<vH
  ·rw[az ⟨v.r,e,v.c,d,c2⟩,az (aD c2)];have j:(d6 a to).sheet=to.sheet:=rfl;rw[j];cases b.sheet a.sheet<;>cases b.sheet to.sheet<;>rfl
  ·rw[au (λz=>c2 z.2.2.2.2),au (by rw[ba c2];exact bj)]
 ·have g:(aO a).on=false:=by rw[BD];simpa using c1
  unfold d9;rw[gX,g,cq,au bj,au (λz=>c1 (jX.mpr ⟨z.1,z.2.1,z.2.2.1,z.2.2.2.1⟩))]
def Ya (A:Ad) (K:ah):Sp:=λvs H Q _=>∃(w s:ag) (m:mV) (b:cy) (a:cH) (to:bP),vs=[.ref w,.ref s,.int (to.sheet:Int),.int (to.row:Int),.int (to.col:Int)]/\fY A K H w m/\Rep b m/\iJ b/\bX A H s (aO a)/\Done A K H Q w m b (.change (.move a to))
def DN:=show FO P w K mg base 10 _ _ _ (Ya A K) by
 exists T.Hb.gp lN
 obtain⟨w,d,m,b,a,to,rfl,h,r,i,C,M⟩:=h
 refine⟨_,(aj (bS 5 lN.nd (bx (pv 1) T.bC T.C7 (C0 T) hr T.GP (aa (pv 2) (aa (gi lP (pv 3) (aK T.bC T.cU (pv 1))) (aa (gi lP (pv 4) (aK T.bC T.cB (pv 1))) ai)))))
  (aj (bS 6 lN.nd (bx (pv 0) T.aF T.dF (dE T) hr T.dN (aa (di (aa (pv 1) (aa (pv 5) ai))) ai)))
  (aj (ee (cS sE (pv 6) (bE rfl T.i8)) (aq (aW (di (aa (pv 6) ai)))) cv)
  (aj (cC (bx (pv 0) T.aF T.iS (iR T) hr T.ja (aa (jy T.alU (YO T) hr T.al3 T.acf (aa (pv 1) (aa (pv 5) ai))) ai)))
  (aq (aW (di (aa (bE rfl T.i8) ai)))))))),?_⟩
 have F4:=h.ob;obtain⟨da,ea⟩:=id C
 lk
 intro f t u nt zz;have h1:=h.same u;have vR:=h1.ob;have Y:=C.same u
 lk
 intro l hl;have j:=bt.new (o:=.lst [V.ref d,V.ref t]) hl;have J:=u.trans j;have h2:=h.same J;have D0:=h2.ob;have Ì:(bB f l (.lst [V.ref d,V.ref t])) l=some (.lst ([d,t].map V.ref)):=ao;have as2:za A (bB f l (.lst [V.ref d,V.ref t])) [d,t] [aO a,(aO a).shifted (to.sheet:Int) ((to.row:Int) - (aO a).r0) ((to.col:Int) - (aO a).c0)]:=.cons (Y.same j) (.cons (zz.same j) .nil);have agO:[aO a,(aO a).shifted (to.sheet:Int) ((to.row:Int) - (aO a).r0) ((to.col:Int) - (aO a).c0)].length<=10:=by simp
 lk
 intro H3 L;have g:=J.trans L;have h3:=h.same g;have B8:=h3.ob;have F:=ajB r (a:=a) (to:=to);by_cases S:d9 (gY m.ts) [aO a,(aO a).shifted (to.sheet:Int) ((to.row:Int) - (aO a).r0) ((to.col:Int) - (aO a).c0)]=0
 rotate_left
 ·have D:=(avS _ _).resolve_left S
  lk
  intro q n;exact M.refused h r g F D n
 ·have y:¬gV b (.move a to)<0:=by rw[F,S];decide
  have hv:=(Cf i y).2;have e:jB a:=hv.1;have z:=C.same g;have U:=(zz.same j).same L
  lk
  intro X dx I O nc3;refine⟨X,dx,d,t,rfl,ao,λH4 e4 G=>⟨rfl,?_⟩⟩;have p:bt H3 H4:=bt.made I O (λb o q m=>G b o q (by simpa using m));have B:=g.trans p;have h4:=h.same B;have TX:=h4.ob
  have F6:uS A H4 X (IC (.move a to)):=by
   refine⟨dx,d,t,e4,z.same p,?_⟩;have:=U.same p;rw[aaH e.r e.c]at this;exact this
  have cok:=r.apy i (x:=.move a to) trivial y
  lk
  intro H5 m5 Z t1 t2 t3 t4 t5
  lk
  intro q n;exact M.change h y ((h.step B).trans h Z) (bt.new n) (r.moved trivial t1 t2 t3 t4 t5) n ao
def mV.ae6 (m:mV) (ts:List (Nat×ag×List Int)):mV:={m with ts:=ts}
def fY.ae6 {w:ag} {ts:List (Nat×ag×List Int)} (h:fY A K H w m) (B:∀t∈ts,t∈m.ts):iV A K H (bB H m.dt (.dK (gY ts))) w m (m.ae6 ts):=by
 obtain⟨l,E,D,j,i,C,g,z⟩:=vj h.nd;have f:=iC.one h.ti trivial;refine⟨λb o e n=>?_,⟨?_,ao,?_,?_,?_,?_,?_,?_,h.nd⟩,λa y=>.inl y,λa o e=>ow e⟩
 ·rw[aw (λq=>n (by rw[q];unfold rj;simp))];exact e
 ·rw[aw l];exact h.ob
 ·exact λt u=>F8 eO f (h.tl t (B t u))
 ·show bB H m.dt _ m.dc=_;rw[aw j.symm];exact h.ce
 ·intro s d;rw[aw (g s d).2.1.symm];exact h.sh s d
 ·exact λs d e x=>qo eO f (h.co s d e x)
 ·show bB H m.dt _ m.dn=_;rw[aw i.symm];exact h.na
 ·exact λn p=>vS eO f (h.nl n p)
def tsF (k:Nat) (ts:List (Nat×ag×List Int)):List (Nat×ag×List Int):=ts.filter λt=>decide (t.1≠k)
def amx (k:Nat) (ts:List (Nat×ag×List Int)):qJ (gY ts) (bh (k:Int))=gY (tsF k ts):=by
 unfold gY;rw[HM];unfold tsF
 congr 1
 refine gK λt _=>?_
 rw[cO];simp only[aX,atn,Hz]
def KZ {k:Nat}:(b.change (.gone k)).sheet j=(b.sheet j&& !decide (j=k)):=by
 show({b.moved (aU (.gone k)) (bT (.gone k))with sheets:=b.sheets.set k none}:cy).sheet j=_
 unfold Rx;dsimp only;rw[kL];by_cases e:k=j
 ·subst e;rw[az rfl,aD rfl];split<;>simp
 ·rw[au e,ba (λz=>e z.symm)];simp
def Y5 {k:Nat} {ts:List (Nat×ag×List Int)}:j∈(tsF k ts).map (·.1)↔j∈ts.map (·.1)/\j≠k:=by
 unfold tsF;rw[aG,aG];constructor
 ·rintro⟨t,a,rfl⟩
  obtain⟨d,b⟩:=bo.mp a;exact⟨⟨t,d,rfl⟩,cb b⟩
 ·rintro⟨⟨t,a,rfl⟩,h⟩
  exact⟨t,bo.mpr ⟨a,aD h⟩,rfl⟩
def Rep.apz (r:Rep b m) (i:iJ b) {k:Nat} (f:¬gV b (.gone k)<0):akb b (m.ae6 (tsF k m.ts)) (.gone k)where
 v:=trivial
 tn:=(eG.map _).nodup r.tn
 t64:=b9 (cN _ _) (r.amX i)
 cn:=r.cn
 en:=r.en
 cp:=r.cp
 nm:=r.nm
 inv:=i
 to:=λy a e d=>by
  have:=aan i f a d;rw[KZ,aC]at this;show e.sheet∈(tsF k m.ts).map (·.1);rw[Y5];exact⟨r.tk _ this.1,by simpa using this.2⟩
def Rep.gone (r:Rep b m) {k:Nat} (f:m'.ts=tsF k m.ts) (q:m'.cs.map (·.1)=(tsF k m.ts).map (·.1)) (G:∀s∈m'.cs,(s.2.2.map (·.1)).Nodup) (F:(fu m'.cs).Perm (cellsOf (b.moved (aU (.gone k)) (bT (.gone k)))))
 (B:m'.ns.map (λn=>(n.1,n.2.2))=(b.moved (aU (.gone k)) (bT (.gone k))).names.map (λn=>(kX n.1,(partsOf n.2).flatten))):Rep (b.change (.gone k)) m' where
 tn:=by rw[f];exact(eG.map _).nodup r.tn
 tb:=λt d=>by rw[f]at d;exact r.tb t (bo.mp d).1
 ti:=λt d=>by
  rw[f]at d;obtain⟨a,g⟩:=bo.mp d;show(b.sheets.set k none)[t.1]? =_;rw[kL,au (λz=>cb g z.symm)];exact r.ti t a
 tk:=λj e=>by
  rw[KZ,aC]at e;rw[f,Y5];exact⟨r.tk j e.1,by simpa using e.2⟩
 cn:=by rw[q];exact(eG.map _).nodup r.tn
 ck:=λj=>by
  rw[q,Y5,KZ,aC,r.wy];simp
 en:=G
 cp:=F
 nm:=B
def Vp (A:Ad) (K:ah):Sp:=λvs H Q _=>∃(w:ag) (m:mV) (b:cy) (k:Nat),vs=[.ref w,.int (k:Int)]/\fY A K H w m/\Rep b m/\iJ b/\Done A K H Q w m b (.change (.gone k))
def BL:=show FO P w K mg base 10 _ _ _ (Vp A K) by
 exists T.Et.gp Bt
 obtain⟨w,m,b,k,rfl,h,r,i,u⟩:=h
 refine⟨_,(aj (ee (Bz (Af (iu hr) (pv 1) (aK T.aF T.cA (pv 0)))) (aq (aW (di (aa (bE rfl T.Au) ai)))) cv)
  (aj (cC (aiz (aK T.aF T.cA (pv 0)) (pv 1) ⟨rfl,rfl,rfl,rfl⟩))
  (aj (cC (bx (pv 0) T.aF T.iS (iR T) hr T.ja (aa (jy T.YX (MB T) hr T.Y2 T.O4 (aa (pv 1) ai)) ai)))
  (aq (aW (di (aa (bE rfl T.i8) ai))))))),?_⟩
 have F4:=h.ob;have n:=h.ti;have G:IsD H m.dt:=.inl ⟨_,.inl n⟩;have z:=jt.k (k:=bh (k:Int)) n;have g:gV b (.gone k)=if b.sheet k=false then -2 else 0:=rfl
 have a:=r.N3 k;cases x:gF (gY m.ts) (bh (k:Int))with
 |none=>
  rw[x]at z a;have j:b.sheet k=false:=a.symm;rw[j]at g
  lk
  intro q e;exact u.refused h r (bt.refl _) g (by decide) e
 |some v=>
  rw[x]at z a;have j:b.sheet k=true:=a.symm;rw[j]at g;have y:¬gV b (.gone k)<0:=by rw[g];decide
  have ek:V.int (k:Int)=kV (bh (k:Int)):=rfl;have d:=h.ae6 (ts:=tsF k m.ts) (λt a=>(bo.mp a).1);rw[<-amx]at d;have Z:(bB H m.dt (.dK (qJ (gY m.ts) (bh (k:Int))))) w=some (.ins A.bg m.dx (LI m)):=d.at_.ob
  lk
  intro C dx D J F;refine⟨C,dx,(k:Int),rfl,ao,λH3 O Y=>⟨rfl,?_⟩⟩;have p:bt (bB H m.dt (.dK (qJ (gY m.ts) (bh (k:Int))))) H3:=bt.made D J (λb o q m=>Y b o q (by simpa using m));have I:=d.at_.same p;have B8:=I.ob;have F6:uS A H3 C (IC (.gone k)):=⟨dx,O⟩;have U:=r.apz i y
  lk
  intro H4 m4 L B f X S M
  lk
  intro q e;exact u.change h y ((d.trans h (d.at_.step p)).trans h L) (bt.new e) (r.gone B f X S M) e ao
def R9 {f s:Int}:z∈wC f s n↔∃k:Nat,k<n/\z=f+(k:Int) * s:=by
 unfold wC;rw[aG];exact⟨fun⟨k,h,e⟩=>⟨k,iM.mp h,e.symm⟩,fun⟨k,h,e⟩=>⟨k,iM.mpr h,e.symm⟩⟩
def ada {f s:Int} (B:0<s):(wC f s n).Nodup:=by
 unfold wC;rw[nI,dm];refine uD.imp fun {a b} h q=>?_
 have d:(a:Int) * s=(b:Int) * s:=by omega
 have:=Int.eq_of_mul_eq_mul_right (by omega) d;omega
def Xf {t0 t1 i0 s:Nat} (f:i0<s) (B:t0<=t1):(wC ((t0:Int)+i0) s (yL ((t0:Int)+i0) t1 s)).Perm (((f7 (t1+1 - t0)).filter λi=>i % s==i0).map λi=>((t0+i:Nat):Int)):=by
 have d:(0:Int)<s:=by fail
 refine(ou (ada d) ?_).mpr λz=>?_
 ·rw[nI,dm];exact(uD.filter _).imp fun {a b} h q=>by fail
 ·rw[R9,aG]
  have j:∀k:Nat,k<yL ((t0:Int)+i0) t1 s↔(t0:Int)+i0+(k:Int) * s<=t1:=λk=>by
   unfold yL gB;rw[az (show(s:Int)>0 by fail)];have hd:=Int.le_ediv_iff_mul_le (a:=(k:Int)) (b:=(t1:Int) - (t0+i0)) d;split
   next m=>
    have e:((t1:Int)+1 - ((t0:Int)+i0) - 1)=(t1:Int) - (t0+i0):=by fail
    rw[e];have u:0<=((t1:Int) - (t0+i0)) / s:=apZ (by fail) (by fail);fail
   next m=>
    have u:0<=(k:Int) * s:=CH (by fail) (by fail);simp only[Int.toNat_zero,Nat.not_lt_zero,false_iff];fail
  constructor
  ·rintro⟨k,n,rfl⟩
   rw[j]at n
   have x:t0+(i0+k * s)<=t1:=by
    have:((k * s:Nat):Int)=(k:Int) * s:=by push_cast;rfl
    fail
   refine⟨i0+k * s,bo.mpr ⟨iM.mpr (by fail),?_⟩,?_⟩
   ·rw[Nat.add_mul_mod_self_right,Nat.mod_eq_of_lt f];exact QF _
   ·push_cast
    fail
  ·rintro⟨i,o,rfl⟩
   obtain⟨g,l⟩:=bo.mp o;have g:=iM.mp g;have l:i % s=i0:=eq_of_beq l;have p:=Nat.div_add_mod i s;refine⟨i / s,(j _).mpr ?_,?_⟩
   ·have:((s * (i / s):Nat):Int)=((i / s:Nat):Int) * s:=by push_cast;rw[avg]
    fail
   ·have:((s * (i / s):Nat):Int)=((i / s:Nat):Int) * s:=by push_cast;rw[avg]
    fail
def agj {r:Nat} (q:jB a) (f:jB t) (F:a.row0<=r) (B:r<=a.row1):(jm 0 r (aO a) (aO t)).Perm (((f7 t.rows).filter λi=>i % a.rows==r - a.row0).map λi=>((t.row0+i:Nat):Int)):=by
 have h:=Xf (t0:=t.row0) (t1:=t.row1) (i0:=r - a.row0) (s:=a.rows) (by unfold vI;fail) f.r;have d:(t.row0:Int)+(r:Int) - (a.row0:Int)=(t.row0:Int)+((r - a.row0:Nat):Int):=by fail
 have e:=q.r;have b:(a.row1:Int) - (a.row0:Int)+1=((a.rows:Nat):Int):=by unfold vI;fail
 show(wC ((t.row0:Int)+(r:Int) - (a.row0:Int)) ((a.row1:Int) - (a.row0:Int)+1) (yL ((t.row0:Int)+(r:Int) - (a.row0:Int)) (t.row1:Int) ((a.row1:Int) - (a.row0:Int)+1))).Perm _;rw[d,b];exact h
def ahe {c:Nat} (q:jB a) (f:jB t) (F:a.col0<=c) (B:c<=a.col1):(jm 1 c (aO a) (aO t)).Perm (((f7 t.cols).filter λi=>i % a.cols==c - a.col0).map λi=>((t.col0+i:Nat):Int)):=by
 have h:=Xf (t0:=t.col0) (t1:=t.col1) (i0:=c - a.col0) (s:=a.cols) (by unfold vJ;fail) f.c;have d:(t.col0:Int)+(c:Int) - (a.col0:Int)=(t.col0:Int)+((c - a.col0:Nat):Int):=by fail
 have e:=q.c;have b:(a.col1:Int) - (a.col0:Int)+1=((a.cols:Nat):Int):=by unfold vJ;fail
 show(wC ((t.col0:Int)+(c:Int) - (a.col0:Int)) ((a.col1:Int) - (a.col0:Int)+1) (yL ((t.col0:Int)+(c:Int) - (a.col0:Int)) (t.col1:Int) ((a.col1:Int) - (a.col0:Int)+1))).Perm _;rw[d,b];exact h
def ab1 {kvs:List (Key×V)} (q:KeysOf kvs b) (y:cE):K4 kvs (aO (cM c)) (cY y)=cY (y.copied b c):=by
 cases y with
 |value v=>
  unfold K4 mU cY;rfl
 |formula f=>
  show K4 kvs (aO (cM c)) ⟨1,partsOf f⟩=⟨1,partsOf (eF b c f)⟩;rw[qg q f];unfold K4;split
  next h=>
   unfold mU at h;rw[az rfl,eA]at h
   congr 1
   refine((cW (g:=id) λp d=>?_).trans (zg _)).symm;unfold zr;cases a:lS p with
   |false=>rfl
   |true=>
    have:=h p (bo.mpr ⟨d,a⟩);rw[this];rfl
  ·rfl
def Ub (kvs:List (Key×V)) (a t:cH) (y:bP×hW):List (bP×hW):=(EU (aO a) (aO t) y.1.row y.1.col).map λp=>(⟨t.sheet,p.1.toNat,p.2.toNat⟩,K4 kvs (je t.sheet p.1 p.2) y.2)
def MZ {α q:Type} {f g:α->List q} {l:List α} (h:∀x∈l,(f x).Perm (g x)):(l.flatMap f).Perm (l.flatMap g):=by
 induction l with
 |nil=>exact .nil
 |cons x l a=>
  rw[gJ,gJ];exact(h x aM).append (a λy b=>h y (aL _ b))
def ad7 {kvs:List (Key×V)} (F:KeysOf kvs b) (q:jB a) (f:jB t) {x:bP×cE} (B:a.has x.1=true):
 (Ub kvs a t (x.1,cY x.2)).Perm ((((f7 t.rows).filter λi=>i % a.rows==x.1.row - a.row0).flatMap λi=>((f7 t.cols).filter λj=>j % a.cols==x.1.col - a.col0).map λj=>((⟨t.sheet,t.row0+i,t.col0+j⟩:bP),x.2.copied b ⟨t.sheet,t.row0+i,t.col0+j⟩)).map λz=>(z.1,cY z.2)):=by
 obtain⟨_,n,m,l,h⟩:=l7.mp B;have e:=agj q f n m;have g:=ahe q f l h;unfold Ub EU;dsimp only
 have d:((jm 0 x.1.row (aO a) (aO t)).flatMap λi=>(jm 1 x.1.col (aO a) (aO t)).map λj=>(i,j)).Perm ((((f7 t.rows).filter λi=>i % a.rows==x.1.row - a.row0).map λi=>((t.row0+i:Nat):Int)).flatMap λi=>(((f7 t.cols).filter λi=>i % a.cols==x.1.col - a.col0).map λi=>((t.col0+i:Nat):Int)).map λj=>(i,j)):=
  (e.flatMap_right _).trans (MZ λi _=>g.map _)
 refine(d.map _).trans (ji ?_);rw[pV,Vh,Vh]
 congr 1
 funext i
 rw[bq,bq,bq];refine cW λj _=>?_
 show((⟨t.sheet,(((t.row0+i:Nat):Int)).toNat,(((t.col0+j:Nat):Int)).toNat⟩:bP),K4 kvs (je t.sheet ((t.row0+i:Nat):Int) ((t.col0+j:Nat):Int)) (cY x.2))=(⟨t.sheet,t.row0+i,t.col0+j⟩,cY (x.2.copied b ⟨t.sheet,t.row0+i,t.col0+j⟩));rw[dz,dz,<-ab1 F];rfl
def M0 {kvs:List (Key×V)} (B:KeysOf kvs b) (F:jB a) (q:jB t) {ys:List (bP×hW)} (f:ys.Perm ((b.cells.filter λx=>a.has x.1).map λx=>(x.1,cY x.2))):(ys.flatMap (Ub kvs a t)).Perm ((iz b a t).map λz=>(z.1,cY z.2)):=by
 refine(f.flatMap_right _).trans ?_;rw[pV];unfold iz;rw[Vh];exact MZ λx d=>ad7 B F q (bo.mp d).2
def px (kvs:List (Key×V)) (a t:cH) (k:Nat) (e:Ent):List (bP×hW):=Ub kvs a t (mE k e)
def X2 {r c:Nat} (q:jB a) (B:a.row0<=r/\a.col0<=c) {p:Int×Int} (f:p∈EU (aO a) (aO t) r c):0<=p.1/\0<=p.2:=by
 unfold EU at f;obtain⟨i,e,f⟩:=wq.mp f;obtain⟨j,d,rfl⟩:=aG.mp f;obtain⟨k,_,rfl⟩:=R9.mp e;obtain⟨l,_,rfl⟩:=R9.mp d;have h:=q.r;have g:=q.c;constructor
 ·show 0<=(t.row0:Int)+(r:Int) - (a.row0:Int)+(k:Int) * ((a.row1:Int) - (a.row0:Int)+1);have:=CH (a:=(k:Int)) (b:=(a.row1:Int) - (a.row0:Int)+1) (by omega) (by omega);omega
 ·show 0<=(t.col0:Int)+(c:Int) - (a.col0:Int)+(l:Int) * ((a.col1:Int) - (a.col0:Int)+1);have:=CH (a:=(l:Int)) (b:=(a.col1:Int) - (a.col0:Int)+1) (by omega) (by omega);omega
def ahh {k:Nat} {r c:Nat}:(⟨k,r,c⟩:bP)∈(es.map (mE k)).map (·.1)↔(r,c)∈es.map (·.1):=by
 rw[bq,aG,aG];constructor
 ·rintro⟨e,a,q⟩
  refine⟨e,a,?_⟩;have q:(⟨k,e.1.1,e.1.2⟩:bP)=⟨k,r,c⟩:=q;injection q with g d b
  exact Wk d b
 ·rintro⟨e,a,q⟩
  refine⟨e,a,?_⟩;show(⟨k,e.1.1,e.1.2⟩:bP)=_;rw[q]
def Vq (A:Ad) (K:ah):Sp:=λvs H Q _=>∃(w a t:ag) (m:mV) (b:cy) (sa ta:cH) (sh:Sh),vs=[.ref w,.ref a,.ref t]/\fY A K H w m/\Rep b m/\iJ b/\bX A H a (aO sa)/\bX A H t (aO ta)/\jB sa/\jB ta/\sh∈m.cs/\sh.1=sa.sheet/\(iz b sa ta).length<=20000/\
 ∀H' d es,bt H H'->H d=none->H' d=some (.dT (jz es))->(∀e∈es,nz A K H' e.2.1 e.2.2)->(es.map (mE ta.sheet)).Perm ((iz b sa ta).map λz=>(z.1,cY z.2))->Q (.ref d) H'
def BM:=show FO P w K mg base 7 _ _ _ (Vq A K) by
 exists T.Eu.gp gQ
 obtain⟨w,a,t,m,b,sa,n,sh,rfl,h,r,i,ha,ht,va,vt,G,hsa,hfl,k⟩:=h
 refine⟨_,(aj (bS 3 gQ.nd Fo)
  (aj (j8 BC rfl (jO (bx (pv 0) T.aF T.fm (fj T) hr T.fD (aa (pv 1) ai))) (eC 4 gQ.nd)
  (aj (bS 5 gQ.nd (l4 (iu hr) (l4 (iu hr) (aK T.aF T.cT (pv 0)) (aK T.bC T.du (pv 1)) (λ_ _=>rfl)) (pv 4) (λ_ _=>rfl)))
  (aq (j8 BC rfl (jO (bN (Q2 T) hr T.Q8 T.G1.kp T.Uw (aa (pv 4) (aa (pv 1) (aa (pv 2) ai))))) (eC 6 gQ.nd)
  (aq (vN (iu hr) (pv 3) (pv 6) (bN (MA T) hr T.MI T.A5.kp T.O2 (aa (pv 5) (aa (bN (sF T) hr T.sH T.sN.kp T.wm (aa (aK T.bC T.du (pv 2)) (aa (cP fg (pv 6) bc) (aa (cP fg (pv 6) bc) ai)))) (aa (aK T.aF T.cA (pv 0)) ai)))) rfl))))))
  (aq (aW (pv 3))))),?_⟩
 obtain⟨n1,n2,n3,n4,n5,n6,n7,n8⟩:=vj h.nd;have μ:=r.Sn i n8 G;have aml:sh.2.2.length<=20000:=by omega
 have hxs:(aO sa).sheet=(sh.1:Int):=by rw[hsa];rfl
 have kr:gF (rk m.cs) (bh (sh.1:Int))=some (.ref sh.2.1):=gN (l:=m.cs) (f:=λs:Sh=>(bh (s.1:Int):Key)) (g:=λs:Sh=>V.ref s.2.1) (AD (f:=λs:Sh=>s.1) r.cn) G;have TY:=r.keysOf;have oa:(aO sa).on=true:=by rw[BD];exact jX.mpr va
 have ot:(aO n).on=true:=by rw[BD];exact jX.mpr vt
 have hF:=M0 TY va vt ((r.area n8 G hsa.symm).1);rw[pV]at hF
 have hFn:(((sh.2.2.filter (lF (aO sa))).flatMap (px (gY m.ts) sa n sh.1)).map (·.1)).Nodup:=by
  refine((hF.map (·.1)).nodup_iff).mpr ?_;rw[bq];exact OH i.RE
 have hFl:((sh.2.2.filter (lF (aO sa))).flatMap (px (gY m.ts) sa n sh.1)).length<=20000:=by
  have:=hF.length_eq;rw[ae]at this;have e:((sh.2.2.filter (lF (aO sa))).flatMap (px (gY m.ts) sa n sh.1)).length=(iz b sa n).length:=this;omega
 lk
 intro d hd;have s0:=bt.new (o:=.dT []) hd;have ed0:(bB H d (.dT [])) d=some (.dT []):=ao;have h0:=h.same s0;have ha0:=ha.same s0;have aBT:=h0.ob
 have ō:d∉rj w m:=λz=>by
  obtain⟨o,eo,_⟩:=h.fp d z;rw[hd]at eo;cases eo
 generalize bB H d (.dT [])=H0 at *
 lk
 intro H1 l s1 nl ⟨ts,el,tp⟩;have h1:=h0.same s1;have ed1:=s1 _ _ ed0;have ô:=ha0.same s1;have Ø:=(ht.same s0).same s1;have F1:iC H1 [d]:=iC.one ed1 trivial;have sql:=dv.of (K:=K) el;have ε:ts.length=(sh.2.2.filter (lF (aO sa))).length:=by rw[eM tp,ae]
 have ndl:∀x∈rj w m,x∉[d]:=λx B=>nin (λz=>ō (by rw[<-z];exact B))
 lk
 refine pw (xs:=ts.map V.ref) (λj J X=>Eo (∃v4 v5 v6 I,J=[some (.ref w),some (.ref a),some (.ref t),some (.ref d),v4,v5,v6]/\cJ [d] H1 X/\X d=some (.dT (jz I))/\(∀e∈I,nz A K X e.2.1 e.2.2)/\I.map (mE n.sheet)=((sh.2.2.filter (lF (aO sa))).take j).flatMap (px (gY m.ts) sa n sh.1)))
  ⟨⟨_,_,_,[],rfl,cJ.refl _ _,ed1,(λe he=>nomatch he),rfl⟩⟩ (λj J X _ ⟨⟨_,_,_,_,_,kp,_⟩⟩=>T3 kp F1 sql) ?_ ?_
 ·rintro j xv J X B ⟨⟨v4,v5,v6,I,rfl,kp,ed,Κ,M⟩⟩
  rw[aV]at B;cases et:ts[j]? with
  |none=>rw[et]at B;cases B
  |some q=>
   rw[et]at B;obtain rfl:V.ref q=xv:=ay B;have hj:=(aQ.mp et).1;obtain⟨en,Vc⟩:∃en,(sh.2.2.filter (lF (aO sa)))[j]? =some en:=⟨_,aZ (by omega)⟩;obtain⟨U,IA⟩:=bo.mp (bI Vc);have aB7:(aO sa).has (en.1.1:Int) (en.1.2:Int)=true:=IA;have hh:=(l7.mp (Zd.symm.trans IA));have è:H1 q=some (.tup ((nY en).map kV)):=f9 (F:=λt (p:Int×Int)=>H1 t=some (.tup [V.int p.1,V.int p.2])) tp et (y:=ipE en) (by rw[aV,Vc];rfl);have Ze:=T2 kp F1 è;have h':=h1.other kp F1 ndl;have ů:=h'.ob;have ha':=oH kp F1 ô;have ht':=oH kp F1 Ø;obtain⟨da',ea'⟩:=id ha';have g1:jt X m.dc (.int (aO sa).sheet) (some (.ref sh.2.1)):=by rw[<-kr,hxs];exact jt.k (k:=bh (sh.1:Int)) h'.ce
   have ai5:gF (jz sh.2.2) (nY en)=some (.ref en.2.1):=gN (f:=nY) (g:=fun(e:Ent)=>V.ref e.2.1) (HL (r.en sh G)) U;have g2:=jt.t (k:=nY en) (h'.sh sh G) Ze;rw[ai5]at g2;have apc:=h'.co sh G en U;have hqs:gL K X q [V.int (en.1.1:Int),V.int (en.1.2:Int)]:=.inl (.inl Ze);obtain⟨y,hy,_,_,_,ĕ,Iz⟩:=Zn i r.cp G U
   lk
   intro H2 l2 s2 nl2 ⟨us,el2,up⟩;have ed2:=s2 _ _ ed;have F2:iC H2 [d]:=iC.one ed2 trivial;have Å:=dv.of (K:=K) el2;have hul:=eM up
   lk
   refine pw (xs:=us.map V.ref) (λD J Z=>Eo (∃v6 es3,J=[some (.ref w),some (.ref a),some (.ref t),some (.ref d),some (.ref q),some (.ref en.2.1),v6]/\cJ [d] H2 Z/\Z d=some (.dT (jz es3))/\(∀e∈es3,nz A K Z e.2.1 e.2.2)/\es3.map (mE n.sheet)=((sh.2.2.filter (lF (aO sa))).take j).flatMap (px (gY m.ts) sa n sh.1)++(px (gY m.ts) sa n sh.1 en).take D))
    ⟨⟨_,I,rfl,cJ.refl _ _,ed2,λe he=>(Κ e he).same s2,by rw[M,Bf,cX]⟩⟩ (λD J Z _ ⟨⟨_,_,_,S,_⟩⟩=>T3 S F2 Å) ?_ ?_
   ·rintro D xv2 J Z Ζ ⟨⟨v6',es3,rfl,S,O,Y,C⟩⟩
    rw[aV]at Ζ;cases eu:us[D]? with
    |none=>rw[eu]at Ζ;cases Ζ
    |some u=>
     rw[eu]at Ζ;obtain rfl:V.ref u=xv2:=ay Ζ;have hj2:=(aQ.mp eu).1;obtain⟨p,hp⟩:∃p,(EU (aO sa) (aO n) (en.1.1:Int) (en.1.2:Int))[D]? =some p:=⟨_,aZ (by omega)⟩;obtain⟨pn1,pn2⟩:=X2 va ⟨hh.2.1,hh.2.2.2.1⟩ (bI hp);have ep1:((p.1.toNat:Nat):Int)=p.1:=iL pn1;have Zm:((p.2.toNat:Nat):Int)=p.2:=iL pn2;have hu2:H2 u=some (.tup [V.int p.1,V.int p.2]):=f9 (F:=λt (p:Int×Int)=>H2 t=some (.tup [V.int p.1,V.int p.2])) up eu hp;have hu3:=T2 S F2 hu2;have hus:gL K Z u [V.int p.1,V.int p.2]:=.inl (.inl hu3);have RP:ky [V.int p.1,V.int p.2] 0=some (V.int p.1):=bD (j:=0) rfl;have zz:ky [V.int p.1,V.int p.2] 1=some (V.int p.2):=bD (j:=1) rfl;have h3:=(h'.same s2).other S F2 ndl;have B8:=h3.ob;have aoT:=h3.ti;have ht3:=oH S F2 (ht'.same s2);obtain⟨dt3,et3⟩:=id ht3;have asx:=qo S F2 (apc.same s2)
     lk
     intro H4 c4 s4 nc4 ar4;have h4:=h3.same s4;have TX:=h4.ob;have awy:=h4.ti;have azy:=asx.same s4
     lk
     intro H5 c5 s5 hc5;have L:=s4.trans s5;have ed5:=L _ _ O;have hu5:=L _ _ hu3;have awr:H5 u=some (.tup (([bh p.1,bh p.2]:List Key).map kV)):=hu5
     have hfe:(px (gY m.ts) sa n sh.1 en)[D]? =some (⟨n.sheet,p.1.toNat,p.2.toNat⟩,K4 (gY m.ts) (je n.sheet p.1 p.2) en.2.2):=by
      unfold px Ub;rw[aV];show jV _ (EU (aO sa) (aO n) (en.1.1:Int) (en.1.2:Int))[D]? =_;rw[hp];rfl
     have ħ:∃rest,(sh.2.2.filter (lF (aO sa))).flatMap (px (gY m.ts) sa n sh.1)=(es3.map (mE n.sheet)++[(⟨n.sheet,p.1.toNat,p.2.toNat⟩,K4 (gY m.ts) (je n.sheet p.1 p.2) en.2.2)])++rest:=by
      refine⟨(px (gY m.ts) sa n sh.1 en).drop (D+1)++((sh.2.2.filter (lF (aO sa))).drop (j+1)).flatMap (px (gY m.ts) sa n sh.1),?_⟩;have c1:(sh.2.2.filter (lF (aO sa)))=(sh.2.2.filter (lF (aO sa))).take j++(en::(sh.2.2.filter (lF (aO sa))).drop (j+1)):=by rw[<-Cc Vc,dP]
      have c2:px (gY m.ts) sa n sh.1 en=(px (gY m.ts) sa n sh.1 en).take D++((⟨n.sheet,p.1.toNat,p.2.toNat⟩,K4 (gY m.ts) (je n.sheet p.1 p.2) en.2.2)::(px (gY m.ts) sa n sh.1 en).drop (D+1)):=by rw[<-Cc hfe,dP]
      conv=>lhs;rw[c1,gE,gJ]
      rw[C]
      conv=>lhs;rw[c2]
      simp only[cz,eQ,sk]
     obtain⟨rest,ħ⟩:=ħ
     have agS:(p.1.toNat,p.2.toNat)∉es3.map (·.1):=λz=>by
      rw[ħ,aT,aT,dH,dH]at hFn;exact hFn.1.2.2 _ (ahh.mpr z) _ (by simp) rfl
     have hl3:es3.length<20000:=by
      rw[ħ,aI,aI,ae]at hFl;simp only[ak,gu]at hFl;omega
     have hsz:(jz es3).length<sizeLine:=by
      have:(jz es3).length=es3.length:=ae ..;exact oK (by omega)
     have dp:=Ey.t (k:=[bh p.1,bh p.2]) (v:=V.ref c5) ed5 awr hsz
     have ñ:putK (jz es3) [bh p.1,bh p.2] (.ref c5)=jz (es3++[((p.1.toNat,p.2.toNat),c5,K4 (gY m.ts) (je n.sheet p.1 p.2) en.2.2)]):=by
      have:=jN (l:=es3) (f:=nY) (g:=λe:Ent=>V.ref e.2.1) (x:=((p.1.toNat,p.2.toNat),c5,K4 (gY m.ts) (je n.sheet p.1 p.2) en.2.2)) (λz=>by
       obtain⟨e',VW,q⟩:=aG.mp z;exact agS (aG.mpr ⟨e',VW,lB.mp q⟩))
      unfold nY at this;dsimp only at this;rw[ep1,Zm]at this;exact this
     rw[ñ]at dp
     lk
     have F5:iC H5 [d]:=iC.one ed5 trivial;refine⟨⟨_,es3++[((p.1.toNat,p.2.toNat),c5,K4 (gY m.ts) (je n.sheet p.1 p.2) en.2.2)],rfl,(S.trans (cJ.same L)).trans eO,ao,λe he=>?_,?_⟩⟩
     ·rcases bL.mp he with he|he
      ·exact qo eO F5 ((Y e he).same L)
      ·rw[br.mp he];exact qo eO F5 hc5
     ·rw[aT,C,take_one hfe,cz];rfl
   ·rintro J Z ⟨⟨v6',es3,rfl,S,O,Y,C⟩⟩
    have hl:us.length=(px (gY m.ts) sa n sh.1 en).length:=by
     rw[hul];unfold px Ub;rw[ae];rfl
    rw[ae,hl,de]at C;refine⟨⟨_,_,_,es3,rfl,(kp.trans (cJ.same s2)).trans S,O,Y,?_⟩⟩;rw[C,take_one Vc,gE,uE]
 ·rintro J X ⟨⟨v4,v5,v6,I,rfl,kp,ed,Κ,M⟩⟩
  rw[ae,ε,de]at M
  lk
  refine k X d I (λu o eo=>kp _ _ (s1 _ _ (s0 _ _ eo)) (nin (bp eo hd))) hd ed Κ ?_;rw[M];exact hF
def amw (r:Rep b m) (h:¬d9 (gY m.ts) [aO a,aO t]=0):bU b (.fill a t)=(b,h9 (d9 (gY m.ts) [aO a,aO t])):=by
 rw[Yr r]at h⊢;unfold bU;dsimp only;cases g:(d7 a&&d7 t)with
 |false=>rfl
 |true=>
  rw[g,az rfl]at h;rw[au (by decide),az rfl];cases e:b.sheet a.sheet with
  |false=>rfl
  |true=>
   cases d:b.sheet t.sheet with
   |false=>rfl
   |true=>rw[e,d]at h;exact absurd rfl h
def ajE (r:Rep b m) (h:d9 (gY m.ts) [aO a,aO t]=0):(jB a/\jB t/\b.sheet a.sheet=true/\b.sheet t.sheet=true)/\
 bU b (.fill a t)=if 16384<(b.filled a t).cells.length then(b,h9 (-5))else(b.filled a t,h9 0):=by
 rw[Yr r]at h;cases e:(d7 a&&d7 t)with
 |false=>rw[e]at h;cases h
 |true=>
  rw[e,az rfl]at h;cases g:b.sheet a.sheet with
  |false=>rw[g]at h;cases h
  |true=>
   cases i:b.sheet t.sheet with
   |false=>rw[g,i]at h;cases h
   |true=>
    have d:=e;rw[aC]at d;refine⟨⟨jX.mp d.1,jX.mp d.2,rfl,rfl⟩,?_⟩;unfold bU;dsimp only;rw[e,g,i,au (by decide),au (by decide)];rfl
theorem aeY {α:Type} (f:α->List (bP×hW)):∀l:List α,((l.map λx=>((f x).length:Int)).sum)=((l.flatMap f).length:Int)
 |[]=>rfl
 |x::l=>by rw[bW,QI,aeY f l,gJ,aI];omega
def abS {kvs:List (Key×V)} {k:Nat}:Cb (aO a) (aO t) (ipE e)=((px kvs a t k e).length:Int):=by
 unfold Cb px Ub EU;rw[ae,N8 (n:=(jm 1 ((mE k e).1.col) (aO a) (aO t)).length) (λi=>ae ..)]
 push_cast
 rfl
def Rep.fill (r:Rep b m) (i:iJ b) (I:(m.cs.map (·.2.1)).Nodup) (f:s∈m.cs) (F:jB t) (G:t.sheet=s.1) (B:(es.map (mE t.sheet)).Perm ((iz b a t).map λz=>(z.1,cY z.2))):
 Rep (b.filled a t) (m.cR s.2.1 (s.2.2.filter (λe=> !lF (aO t) e)++es))/\(∀e∈es,lF (aO t) e=true)/\(es.map (·.1)).Nodup:=by
 obtain⟨rest,Q,P,n⟩:=r.split I f
 have p:∀e∈es,lF (aO t) e=true:=λe h=>by
  have E:mE t.sheet e∈(iz b a t).map λz=>(z.1,cY z.2):=B.mem_iff.mp (bu h)
  obtain⟨z,u,q⟩:=aG.mp E;have:=adH F u;rw[Zd];have d:z.1=⟨t.sheet,e.1.1,e.1.2⟩:=(kZ q).1;rw[<-d];exact this
 have o:(es.map (·.1)).Nodup:=by
  have l:=(B.map (·.1)).nodup_iff.mpr (by rw[bq];exact OH i.RE);rw[bq,nI,dm]at l;rw[nI,dm];exact l.imp λM q=>M (by show(⟨t.sheet,_,_⟩:bP)=⟨t.sheet,_,_⟩;rw[q])
 refine⟨?_,p,o⟩;refine r.cR f ?_ ?_
 ·rw[aT,dH];refine⟨(eG.map _).nodup (r.en s f),o,λx D y C q=>?_⟩;obtain⟨e,h,rfl⟩:=aG.mp D;obtain⟨J,L,rfl⟩:=aG.mp C;have d:=(bo.mp h).2;have j:=p J L;unfold lF at d j;rw[q,j]at d;cases d
 ·refine(n _).trans (HX (((yK i.RE F).map λx=>(x.1,cY x.2)).trans ?_));rw[aT,aT];have H:=(r.area I f G).2;have g:=H.symm.trans (n _);refine((g.append B.symm)).trans ?_;rw[G,cz,cz];exact EC _ afU
def Yb (A:Ad) (K:ah):Sp:=λvs H Q _=>∃(w a t:ag) (m:mV) (b:cy) (sa ta:cH),vs=[.ref w,.ref a,.ref t]/\fY A K H w m/\Rep b m/\iJ b/\bX A H a (aO sa)/\bX A H t (aO ta)/\Done A K H Q w m b (.fill sa ta)
def DO:=show FO P w K mg base 8 _ _ _ (Yb A K) by
 exists T.Hc.gp hJ
 obtain⟨w,a,t,m,b,sa,n,rfl,h,r,i,ha,Y,k⟩:=h
 refine⟨_,(aj (bS 3 hJ.nd (bx (pv 0) T.aF T.dF (dE T) hr T.dN (aa (di (aa (pv 1) (aa (pv 2) ai))) ai)))
  (aj (ee (cS sE (pv 3) (bE rfl T.i8)) (aq (aW (di (aa (pv 3) ai)))) cv)
  (aj (bS 4 hJ.nd (bN (Q5 T) hr T.Ra T.G8.kp T.Uz (aa (bx (pv 0) T.aF T.fm (fj T) hr T.fD (aa (pv 1) ai)) (aa (pv 1) (aa (pv 2) ai)))))
  (aj (ee (cS Js (gi kl (gi lP (fA (pv 0) T.aF T.ph (pf T) hr T.qV) (cG eL rfl T.jG jI (aa (bx (pv 0) T.aF T.fm (fj T) hr T.fD (aa (pv 2) ai)) ai))) (pv 4)) (bE rfl T.JB)) (aq (aW (di (aa (bE rfl T.w9) ai)))) cv)
  (aj (bS 5 hJ.nd (bx (pv 0) T.aF T.B3 (BM T) hr T.Ec (aa (pv 1) (aa (pv 2) ai))))
  (aj (cC (bx (pv 0) T.aF T.tU (tQ T) hr T.vC (aa (pv 2) ai)))
  (aj (Hv (j8 BC rfl (Mv (pv 5)) (eC 6 hJ.nd)
  (aq (vN (iu hr) (l4 (iu hr) (aK T.aF T.cT (pv 0)) (aK T.bC T.du (pv 2)) (λ_ _=>rfl)) (pv 6) (l4 (iu hr) (pv 5) (pv 6) (λ_ _=>rfl)) rfl))))
  (aq (aW (di (aa (bE rfl T.i8) ai))))))))))),?_⟩
 obtain⟨n1,n2,n3,n4,n5,n6,n7,n8⟩:=vj h.nd;have F4:=h.ob
 lk
 intro l hl;have s1:=bt.new (o:=.lst [V.ref a,V.ref t]) hl;have h1:=h.same s1;have vR:=h1.ob;have ó:(bB H l (.lst [V.ref a,V.ref t])) l=some (.lst ([a,t].map V.ref)):=ao;have as1:za A (bB H l (.lst [V.ref a,V.ref t])) [a,t] [aO sa,aO n]:=.cons (ha.same s1) (.cons (Y.same s1) .nil);have agO:[aO sa,aO n].length<=10:=by simp
 lk
 intro H2 s2;have yt:=s1.trans s2;have h2:=h.same yt;have D0:=h2.ob;by_cases hc:d9 (gY m.ts) [aO sa,aO n]=0
 rotate_left
 ·lk
  intro q J;have e:=amw r hc;exact k.vQ h r (yt.bB J) (by rw[e]) (by unfold fh;rw[e]) (none_of yt J) ao
 ·obtain⟨⟨va,vt,hsa,ψ⟩,ed⟩:=ajE r hc;obtain⟨sh,hs,TU,kr⟩:=r.Bm hsa;obtain⟨st,I,Ø,anm⟩:=r.Bm ψ;have a2:=ha.same yt;have t2:=Y.same yt;have y:(aO sa).sheet=(sh.1:Int):=by rw[TU];rfl
  have hxt:(aO n).sheet=(st.1:Int):=by rw[Ø];rfl
  rw[<-TU]at kr;rw[<-Ø]at anm;have μ:=r.Sn i n8 hs;have aB4:=r.Sn i n8 I;have aml:sh.2.2.length<=20000:=by fail
  have hle2t:st.2.2.length<=20000:=by fail
  have oa:(aO sa).on=true:=by rw[BD];exact jX.mpr va
  have ot:(aO n).on=true:=by rw[BD];exact jX.mpr vt
  have axh:m.cs.length<=1000:=b9 (r.ajQ i) (by decide);have hF:=M0 r.keysOf va vt ((r.area n8 hs TU.symm).1);rw[pV]at hF
  have awE:(((sh.2.2.filter (lF (aO sa))).map ipE).map (Cb (aO sa) (aO n))).sum=((iz b sa n).length:Int):=by
   have e1:(((sh.2.2.filter (lF (aO sa))).map ipE).map (Cb (aO sa) (aO n)))=(sh.2.2.filter (lF (aO sa))).map λe=>((px (gY m.ts) sa n sh.1 e).length:Int):=by
    rw[bq];exact cW λe _=>abS
   rw[e1,aeY];have:=hF.length_eq;rw[ae]at this;have e2:((sh.2.2.filter (lF (aO sa))).flatMap (px (gY m.ts) sa n sh.1)).length=(iz b sa n).length:=this;rw[e2]
  have ε:(b.filled sa n).cells.length+(st.2.2.filter (lF (aO n))).length=b.cells.length+(iz b sa n).length:=by
   have e1:=(yK i.RE vt (a:=sa)).length_eq;rw[aI]at e1;have e2:=Ca (λx:bP×cE=>n.has x.1) b.cells;have e3:=(r.area n8 I Ø.symm).1.length_eq;rw[ae,ae]at e3;fail
  have azv:=r.asP;have VT:=hs
  lk
  intro H3 l3 s3 nl3 sp3;have xU:=yt.trans s3;have h3:=h.same xU;have B8:=h3.ob;have a3:=ha.same xU;have t3:=Y.same xU
  have ð:∀p∈(sh.2.2.filter (lF (aO sa))).map ipE,(aO sa).has p.1 p.2=true:=λp hp=>by
   obtain⟨e,S,rfl⟩:=aG.mp hp;exact(bo.mp S).2
  have Iz:((sh.2.2.filter (lF (aO sa))).map ipE).length<=20000:=by
   rw[ae];have:=cN (lF (aO sa)) sh.2.2;fail
  lk
  intro H4 s4;rw[awE];have EE:=xU.trans s4;have h4:=h.same EE;have TX:=h4.ob;have a4:=ha.same EE;have t4:=Y.same EE
  lk
  intro H5 s5;have Z8:=EE.trans s5;have h5:=h.same Z8;have amg:=h5.ob;have t5:=Y.same Z8;have aBx:=I
  lk
  intro H6 l6 s6 nl6 ⟨O,e6,tp6⟩;have Ρ:=Z8.trans s6;have h6:=h.same Ρ;have awT:=h6.ob;have a6:=ha.same Ρ;have t6:=Y.same Ρ;have sq6:=dv.of (K:=K) e6;have hl6:(O.map V.ref).length=(st.2.2.filter (lF (aO n))).length:=by rw[ae,eM tp6,ae]
  by_cases asB:16384<(b.filled sa n).cells.length
  ·rw[az asB]at ed;have asA:((fu m.cs).length:Int) - ((O.map V.ref).length:Int)+((iz b sa n).length:Int)>16384:=by fail
   lk
   intro q J;exact k.vQ h r (Ρ.bB J) (by rw[ed]) (l:=[-5]) (by unfold fh;rw[ed];rfl) (none_of Ρ J) ao
  ·rw[au asB]at ed;have asA:¬((fu m.cs).length:Int) - ((O.map V.ref).length:Int)+((iz b sa n).length:Int)>16384:=by fail
   have azs:=cN (lF (aO n)) st.2.2
   have hfn:(iz b sa n).length<=20000:=by
    have e1:=(yK i.RE vt (a:=sa)).length_eq;rw[aI]at e1;fail
   have aBJ:=hs
   lk
   intro H7 d es s7 nd ed7 axj hpm;have U:=Ρ.trans s7;have h7:=h.same U;have aBS:=h7.ob;have t7:=Y.same U
   have ō:d∉rj w m:=λz=>by
    obtain⟨o,eo,_⟩:=h6.fp d z;rw[nd]at eo;cases eo
   obtain⟨rp,IA,VU⟩:=r.fill i n8 I vt Ø.symm hpm;have ao7:=r.en st I;have azg:=I
   lk
   intro G D;have Z:=D.keep _ _ ed7 ō;have F7:=h7.D5;have axi:∀e∈es,nz A K G e.2.1 e.2.2:=λe S=>qo D.keep F7 (axj e S)
   have t8:=oH D.keep F7 t7;have avK:=(h.step U).trans h D;have at8:=D.at_;have hm8:(st.1,st.2.1,st.2.2.filter λe=> !lF (aO n) e)∈(m.cR st.2.1 (st.2.2.filter λe=> !lF (aO n) e)).cs:=Sx I;have B:d∉rj w (m.cR st.2.1 (st.2.2.filter λe=> !lF (aO n) e)):=by rw[wD];exact ō
   generalize M:m.cR st.2.1 (st.2.2.filter λe=> !lF (aO n) e)=m1 at *;have aCl:rk m1.cs=rk m.cs:=by rw[<-M];exact Ht _ _ _
   have L:∀N0,m1.cR st.2.1 N0=m.cR st.2.1 N0:=λN0=>by rw[<-M];exact mV.tj _ _ _ _
   repeat' (first|(refine HG d Z trivial (λod=>?_))|walk_at "")
   refine⟨?_⟩;have fk:cJ [d] G (bB G d (.gb od (.dT (jz es)))):=eO;have ff:iC G [d]:=iC.one Z trivial;have nfd:∀x∈rj w m1,x∉[d]:=λx y=>nin (λz=>B (by rw[<-z];exact y))
   have b1:fY A K (bB G d (.gb od (.dT (jz es)))) w m1:=at8.other fk ff nfd;have b2:(bB G d (.gb od (.dT (jz es)))) d=some (.gb od (.dT (jz es))):=ao;have b3:∀e∈es,nz A K (bB G d (.gb od (.dT (jz es)))) e.2.1 e.2.2:=λe S=>qo fk ff (axi e S)
   have b4:=oH fk ff t8;have bF:=b1.D5
   lk
   refine EK ⟨_,b2,?_⟩
   refine ad5 (kvs:=jz es) (λj σ C=>Eo (∃v3 v4 v6,σ=[some (.ref w),some (.ref a),some (.ref t),v3,v4,some (.ref d),v6]/\iV A K (bB G d (.gb od (.dT (jz es)))) C w m1 (m1.cR st.2.1 ((st.2.2.filter λe=> !lF (aO n) e)++es.take j))))
    ⟨⟨_,_,_,rfl,?_⟩⟩ (λj σ C ⟨⟨_,_,_,_,u⟩⟩=>u.keep _ _ b2 B) ?_ ?_
   ·rw[Bf,cX,L,<-M];rw[M];exact b1.step (bt.refl _)
   ·rintro j kx v q σ C y J ⟨⟨v3,v4,v6,rfl,u⟩⟩
    unfold jz at y;rw[aV]at y;cases ex:es[j]? with
    |none=>rw[ex]at y;cases y
    |some e=>
     rw[ex]at y;cases y;have S:=bI ex;have hj:=(aQ.mp ex).1;have ŝ:=u.at_;have ů:=ŝ.ob;have ob':C w=some (.ins A.bg m.dx (LI m)):=by rw[L]at ů;exact ů
     have axr:C m.dc=some (.dK (rk m.cs)):=by
      have:=ŝ.ce;rw[L]at this;have e2:rk (m.cR st.2.1 ((st.2.2.filter λe=> !lF (aO n) e)++es.take j)).cs=rk m.cs:=Ht _ _ _;rw[e2]at this;exact this
     have D1:(st.1,st.2.1,(st.2.2.filter λe=> !lF (aO n) e)++es.take j)∈(m1.cR st.2.1 ((st.2.2.filter λe=> !lF (aO n) e)++es.take j)).cs:=by rw[L];exact Sx I
     have ë:=ŝ.sh _ D1;have X:=u.keep _ _ b2 B;have t':=oH u.keep bF b4;obtain⟨dt',et'⟩:=id t';have g1:jt C m.dc (.int (aO n).sheet) (some (.ref st.2.1)):=by rw[<-anm,hxt];exact jt.k (k:=bh (st.1:Int)) axr
     have ai5:gF (jz es) (nY e)=some (.ref e.2.1):=gN (f:=nY) (g:=fun(e:Ent)=>V.ref e.2.1) (HL VU) S;have g2:jt C d (.ref q) (some (.ref e.2.1)):=.inr ⟨jz es,nY e,q,.inr ⟨_,X⟩,rfl,J,ai5.symm⟩
     have hsz:(jz ((st.2.2.filter λe=> !lF (aO n) e)++es.take j)).length<sizeLine:=by
      have e1:(jz ((st.2.2.filter λe=> !lF (aO n) e)++es.take j)).length=((st.2.2.filter λe=> !lF (aO n) e)++es.take j).length:=ae ..;rw[e1,aI,b7];have e2:=cN (λe=> !lF (aO n) e) st.2.2;have e3:=hpm.length_eq;rw[ae,ae]at e3;exact sO (show _<=40000 by fail) (by decide)
     have dp:=Ey.t (k:=nY e) (v:=V.ref e.2.1) ë J hsz
     have agS:e.1∉((st.2.2.filter λe=> !lF (aO n) e)++es.take j).map (·.1):=λz=>by
      rw[aT]at z;rcases bL.mp z with z|z
      ·obtain⟨e',OU,q'⟩:=aG.mp z;have q1:=(bo.mp OU).2;have q2:=IA e S;unfold lF at q1 q2;rw[q',q2]at q1;cases q1
      ·exact Tj VU ex z
     have ñ:putK (jz ((st.2.2.filter λe=> !lF (aO n) e)++es.take j)) (nY e) (.ref e.2.1)=jz (((st.2.2.filter λe=> !lF (aO n) e)++es.take j)++[e]):=
      jN (l:=(st.2.2.filter λe=> !lF (aO n) e)++es.take j) (f:=nY) (g:=λe:Ent=>V.ref e.2.1) (x:=e) (λz=>by
       obtain⟨e',VW,q'⟩:=aG.mp z;exact agS (aG.mpr ⟨e',VW,lB.mp q'⟩))
     have dp2:Ey C st.2.1 (.ref q) (.ref e.2.1) (bB C st.2.1 (.dT (jz (((st.2.2.filter λe=> !lF (aO n) e)++es.take j)++[e])))):=by rw[<-ñ];exact dp
     lk
     refine⟨⟨_,_,_,rfl,?_⟩⟩
     have QK:=ŝ.cR D1 (es:=((st.2.2.filter λe=> !lF (aO n) e)++es.take j)++[e]) (λe' OU=>by
      rcases bL.mp OU with OU|OU
      ·exact ŝ.co _ D1 e' OU
      ·rw[br.mp OU];exact qo u.keep bF (b3 e S))
     rw[mV.tj]at QK;rw[take_one ex,<-cz];exact u.trans b1 QK
   ·rintro σ C ⟨⟨v3,v4,v6,rfl,u⟩⟩
    rw[show(jz es).length=es.length from ae ..,de]at u;have X:=u.keep _ _ b2 B;refine⟨X,?_⟩;have fpe:rj w (m1.cR st.2.1 ((st.2.2.filter λe=> !lF (aO n) e)++es))=rj w m1:=wD _ _ _ _;have at9:fY A K (bB C d (.dT (jz es))) w (m1.cR st.2.1 ((st.2.2.filter λe=> !lF (aO n) e)++es)):=u.at_.other eO (iC.one X (show DW (.dT (jz es))from trivial)) (by rw[fpe];exact nfd)
    have st9:iV A K G (bB C d (.dT (jz es))) w m1 (m1.cR st.2.1 ((st.2.2.filter λe=> !lF (aO n) e)++es)):=by
     refine⟨FY Z u.keep,at9,λx y=>.inl (by rw[fpe]at y;exact y),λx o ex=>?_⟩;by_cases z:x=d
     ·rw[z];exact⟨_,ao⟩
     ·obtain⟨o',eo'⟩:=u.dom x o (by rw[aw z];exact ex);exact⟨o',by rw[aw z];exact eo'⟩
    have F:=avK.trans h st9;rw[L]at F
    lk
    intro q J;refine k _ q _ (F.trans h (F.at_.step (bt.new (o:=.lst [V.int 0]) J))) (by rw[ed];exact rp) (F.free J) (by rw[ao];unfold fh;rw[ed];rfl)
def ayb {t:List Int} (h:fW (0::l) t x):l=t/\x=.new_:=by
 generalize e:(0:Int)::l=L at h;cases h<;>first|exact absurd (cu e).1 (by decide)|exact⟨(cu e).2,rfl⟩
def aya {t:List Int} (h:fW (1::l) t x):∃(row:List Int),l=(row.length:Int)::(row++t)/\x=.sheet (wo row)/\∀z∈row,0<=z/\z<=255:=by
 generalize e:(1:Int)::l=L at h;cases h<;>first|exact absurd (cu e).1 (by decide)|exact⟨_,(cu e).2,rfl,by assumption⟩
def ax9 {t:List Int} (h:fW (2::l) t x):∃(k:Nat),l=(k:Int)::t/\x=.change (.gone k):=by
 generalize e:(2:Int)::l=L at h;cases h<;>first|exact absurd (cu e).1 (by decide)|exact⟨_,(cu e).2,rfl⟩
def ax8 {t:List Int} (h:fW (3::l) t x):∃(k r c:Nat) (row:List Int),l=(k:Int)::(r:Int)::(c:Int)::(row.length:Int)::(row++t)/\x=.set ⟨k,r,c⟩ row:=by
 generalize e:(3:Int)::l=L at h;cases h<;>first|exact absurd (cu e).1 (by decide)|exact⟨_,_,_,_,(cu e).2,rfl⟩
def ax7 {t:List Int} (h:fW (4::l) t x):∃(k:Nat) (w:Bool) (a n lo hi:Nat),l=(k:Int)::jL w::(a:Int)::(n:Int)::(lo:Int)::(hi:Int)::t/\x=.change (.insert k w a n lo hi):=by
 generalize e:(4:Int)::l=L at h;cases h<;>first|exact absurd (cu e).1 (by decide)|exact⟨_,_,_,_,_,_,(cu e).2,rfl⟩
def ax6 {t:List Int} (h:fW (5::l) t x):∃(k:Nat) (w:Bool) (a n lo hi:Nat),l=(k:Int)::jL w::(a:Int)::(n:Int)::(lo:Int)::(hi:Int)::t/\x=.change (.delete k w a n lo hi):=by
 generalize e:(5:Int)::l=L at h;cases h<;>first|exact absurd (cu e).1 (by decide)|exact⟨_,_,_,_,_,_,(cu e).2,rfl⟩
def ax5 {t:List Int} (h:fW (6::l) t x):∃(k r s c d j y z:Nat),l=(k:Int)::(r:Int)::(s:Int)::(c:Int)::(d:Int)::(j:Int)::(y:Int)::(z:Int)::t/\x=.change (.move ⟨k,r,c,s,d⟩ ⟨j,y,z⟩):=by
 generalize e:(6:Int)::l=L at h;cases h<;>first|exact absurd (cu e).1 (by decide)|exact⟨_,_,_,_,_,_,_,_,(cu e).2,rfl⟩
def ax4 {t:List Int} (h:fW (7::l) t x):∃(k r s c d j y z u v:Nat),l=(k:Int)::(r:Int)::(s:Int)::(c:Int)::(d:Int)::(j:Int)::(y:Int)::(z:Int)::(u:Int)::(v:Int)::t/\x=.fill ⟨k,r,c,s,d⟩ ⟨j,y,u,z,v⟩:=by
 generalize e:(7:Int)::l=L at h;cases h<;>first|exact absurd (cu e).1 (by decide)|exact⟨_,_,_,_,_,_,_,_,_,_,(cu e).2,rfl⟩
def ax3 {t:List Int} (h:fW (8::l) t x):∃(k r s c d:Nat),l=(k:Int)::(r:Int)::(s:Int)::(c:Int)::(d:Int)::t/\x=.clear ⟨k,r,c,s,d⟩:=by
 generalize e:(8:Int)::l=L at h;cases h<;>first|exact absurd (cu e).1 (by decide)|exact⟨_,_,_,_,_,(cu e).2,rfl⟩
def ax2 {t:List Int} (h:fW (9::l) t x):∃(nm row:List Int),l=(nm.length:Int)::(nm++((row.length:Int)::(row++t)))/\x=.name (wo nm) row/\∀z∈nm,0<=z/\z<=255:=by
 generalize e:(9:Int)::l=L at h;cases h<;>first|exact absurd (cu e).1 (by decide)|exact⟨_,_,(cu e).2,rfl,by assumption⟩
def as7 {t:List Int} (h:fW (10::l) t x):∃(k r c:Nat),l=(k:Int)::(r:Int)::(c:Int)::t/\x=.look ⟨k,r,c⟩:=by
 generalize e:(10:Int)::l=L at h;cases h<;>first|exact absurd (cu e).1 (by decide)|exact⟨_,_,_,(cu e).2,rfl⟩
def as6 {t:List Int} (h:fW (11::l) t x):∃(k r s c d:Nat),l=(k:Int)::(r:Int)::(s:Int)::(c:Int)::(d:Int)::t/\x=.cells ⟨k,r,c,s,d⟩:=by
 generalize e:(11:Int)::l=L at h;cases h<;>first|exact absurd (cu e).1 (by decide)|exact⟨_,_,_,_,_,(cu e).2,rfl⟩
def as5 {t:List Int} (h:fW (12::l) t x):l=t/\x=.names:=by
 generalize e:(12:Int)::l=L at h;cases h<;>first|exact absurd (cu e).1 (by decide)|exact⟨(cu e).2,rfl⟩
def as4 {t:List Int} (h:fW (13::l) t x):l=t/\x=.sheets:=by
 generalize e:(13:Int)::l=L at h;cases h<;>first|exact absurd (cu e).1 (by decide)|exact⟨(cu e).2,rfl⟩
def afu (h:∀z∈l,0<=z/\z<=255):l.all wj=true:=eA.mpr λz a=>mS.mpr (h z a)
def Bg (l t:List Int):Wx l.length (l++t)=some (l,t):=by
 unfold Wx;rw[au (by rw[aI];omega),aah,List.drop_left]
def RG (l t:List Int):(tk.bind λn=>Wx n.toNat) ((l.length:Int)::(l++t))=some (l,t):=by
 show Wx ((l.length:Int)).toNat (l++t)=_;rw[dz];exact Bg l t
def jb.of {α:Type} {p:R α} {ret:α->Hp->Hp->V->Prop} {r:ag} {pos:Nat} {x:α} (e:p (told.drop pos)=some (x,rest)) (h:∀f pos' v,cJ [r] H f->iI A K f r tl told pos'->told.drop pos'=rest->ret x H f v->Q v f):jb A K p ret r tl told pos H Q E:=by
 unfold jb;rw[e];exact λf pos' v k rd hd _ a=>h f pos' v k rd hd a
def mO {r a:ag} {pos:Nat} (rd:iI A K H r tl told pos) (k:cJ [r] H H') (f:∀C dx l n,o≠ .ins C dx (rdF l n)) (e:H a=some o):H' a=some o:=by
 obtain⟨dx,b,_⟩:=rd;exact k _ _ e (nin (λz=>by rw[z,b]at e;exact f _ _ _ _ (ay e).symm))
def aoh {r a:ag} {pos:Nat} (rd:iI A K H r tl told pos) (k:cJ [r] H H') (h:dv K H a xs):dv K H' a xs:=by
 rcases h with(h|⟨o,h⟩)|h
 ·exact .inl (.inl (mO rd k (λ_ _ _ _ z=>by cases z) h))
 ·exact .inl (.inr ⟨o,mO rd k (λ_ _ _ _ z=>by cases z) h⟩)
 ·exact .inr h
def afa {r a:ag} {pos:Nat} (rd:iI A K H r tl told pos) (k:cJ [r] H H') (h:gL K H a xs):gL K H' a xs:=by
 rcases h with(h|⟨o,h⟩)|h
 ·exact .inl (.inl (mO rd k (λ_ _ _ _ z=>by cases z) h))
 ·exact .inl (.inr ⟨o,mO rd k (λ_ _ _ _ z=>by cases z) h⟩)
 ·exact .inr h
def afb {r a:ag} {pos:Nat} (rd:iI A K H r tl told pos) (k:cJ [r] H H') (h:bX A H a x):bX A H' a x:=let⟨dx,e⟩:=h;⟨dx,mO rd k (λ_ _ _ _ z=>by injection z with _ _ z;cases z) e⟩
def arh {r a:ag} {pos:Nat} {c:hW} (rd:iI A K H r tl told pos) (k:cJ [r] H H') (h:nz A K H a c):nz A K H' a c:=
 let⟨dx,l,e,ts,b,t⟩:=h
 ⟨dx,l,mO rd k (λ_ _ _ _ z=>by
  injection z with _ _ z
  have z:=(kZ (cu z).1).1
  revert z
  decide) e,ts,mO rd k (λ_ _ _ _ z=>by cases z) b,t.mono λ_ _ q=>afa rd k q⟩
def tL {r w:ag} {pos:Nat} (rd:iI A K H r tl told pos) (k:cJ [r] H H') (h:fY A K H w m):fY A K H' w m where
 ob:=mO rd k (λ_ _ _ _ z=>by injection z with _ _ z;have q:3=2:=cK gh z;cases q) h.ob
 ti:=mO rd k (λ_ _ _ _ z=>by cases z) h.ti
 tl:=λt b=>mO rd k (λ_ _ _ _ z=>by cases z) (h.tl t b)
 ce:=mO rd k (λ_ _ _ _ z=>by cases z) h.ce
 sh:=λs a=>mO rd k (λ_ _ _ _ z=>by cases z) (h.sh s a)
 co:=λs a e g=>arh rd k (h.co s a e g)
 na:=mO rd k (λ_ _ _ _ z=>by cases z) h.na
 nl:=λn d=>afa rd k (h.nl n d)
 nd:=h.nd
structure akd (A:Ad) (K:ah) (H H':Hp) (w:ag) (m m':mV) (r tl:ag) (told t:List Int):Prop where
 keep:cJ (r::rj w m) H H'
 at_:fY A K H' w m'
 fp:∀a∈rj w m',a∈rj w m\/H a=none
 rd:∃pos',iI A K H' r tl told pos'/\told.drop pos'=t
def xP (A:Ad) (K:ah) (H:Hp) (Q:VK) (w:ag) (m:mV) (r tl:ag) (told t:List Int) (b:cy) (x:DB):Prop:=∀H' q m',akd A K H H' w m m' r tl told t->Rep (bU b x).1 m'->H q=none->H' q=some (.lst ((fh b x).map V.int))->Q (.ref q) H'
def Mn {r a:ag} {pos:Nat} (rd:iI A K H r tl told pos) (f:iI A K H1 r tl told fN) (k:cJ [r] H H1) (h:H1 a=none):H a=none:=by
 cases z:H a with
 |none=>rfl
 |some o=>
  by_cases q:a=r
  ·obtain⟨dx,e,_⟩:=f;rw[q,e]at h;cases h
  ·rw[k _ _ z (nin q)]at h;cases h
def xP.done {w r:ag} {t:List Int} {pos:Nat} (k:xP A K H Q w m r tl told t b x) (h:fY A K H w m) (rd:iI A K H r tl told pos) (kp:cJ [r] H H1) (f:iI A K H1 r tl told fN) (hd:told.drop fN=t):Done A K H1 Q w m b x:=by
 intro p q g st e i eq;have l:=tL rd kp h;refine k p q g ⟨λu o n d=>?_,st.at_,λa j=>?_,fN,asL st.keep l.D5 f,hd⟩ e (Mn rd f kp i) eq
 ·simp only[aY,not_or]at d;exact st.keep _ _ (kp _ _ n (nin d.1)) d.2
 ·rcases st.fp a j with q|q
  ·exact .inl q
  ·exact .inr (Mn rd f kp q)
def fi (A:Ad) (K:ah) (n:Int):Sp:=λvs H Q _=>∃(w r tl:ag) (m:mV) (b:cy) (told t:List Int) (pos:Nat) (x:DB),vs=[.ref w,.ref r]/\fY A K H w m/\Rep b m/\iJ b/\iI A K H r tl told pos/\fW (n::told.drop pos) t x/\(fh b x).length<=10000000/\xP A K H Q w m r tl told t b x
def X5 (A:Ad) (K:ah):Sp:=λvs H Q _=>∃(r tl:ag) (told t:List Int) (pos:Nat) (k a c d e:Int),vs=[.ref r]/\iI A K H r tl told pos/\told.drop pos=k::a::c::d::e::t/\
 ∀H' p pos',cJ [r] H H'->iI A K H' r tl told pos'->told.drop pos'=t->H p=none->bX A H' p ⟨k,a,c,d,e⟩->Q (.ref p) H'
def qh:=show FO P w K mg base 3 _ _ _ (X5 A K) by
 exists T.pG.gp L0
 obtain⟨r,tl,g,t,pos,k,a,c,d,e,rfl,rd,hd,C⟩:=h
 refine⟨_,(aj (bS 1 L0.nd (bx (pv 0) T.bJ T.ft (fq T) hr T.fJ (aa bc ai)))
  (aq (aW (jy T.yB (jR T) hr T.yE T.kI (aa (cP dW (pv 1) bc) (aa (cP dW (pv 1) bc) (aa (cP dW (pv 1) bc) (aa (cP dW (pv 1) bc) (aa (cP dW (pv 1) bc) ai))))))))),?_⟩
 obtain⟨X,L,Y,O⟩:=id rd;have M:Wx 5 (g.drop pos)=some ([k,a,c,d,e],t):=by rw[hd];exact Bg [k,a,c,d,e] t
 refine⟨_,rfl,r,X,_,rfl,L,rfl,r,tl,g,pos,5,rfl,rd,jb.of M λy J v n i f D=>?_⟩;obtain⟨q,rfl,Z,eq⟩:=D;have sq:dv K y q ([V.int k,V.int a,V.int c,V.int d,V.int e]):=dv.of eq;have RP:ky [V.int k,V.int a,V.int c,V.int d,V.int e] 0=some (V.int k):=bD (j:=0) rfl;have zz:ky [V.int k,V.int a,V.int c,V.int d,V.int e] 1=some (V.int a):=bD (j:=1) rfl;have I:ky [V.int k,V.int a,V.int c,V.int d,V.int e] 2=some (V.int c):=bD (j:=2) rfl;have F:ky [V.int k,V.int a,V.int c,V.int d,V.int e] 3=some (V.int d):=bD (j:=3) rfl;have G:ky [V.int k,V.int a,V.int c,V.int d,V.int e] 4=some (V.int e):=bD (j:=4) rfl
 lk
 intro p dx x z U;refine⟨p,dx,⟨k,a,c,d,e⟩,rfl,ao,λH2 S B=>⟨rfl,?_⟩⟩;have u:bt y H2:=bt.made x z (λb o q m=>B b o q (by simpa using m));exact C H2 p J (n.trans (cJ.same u)) (i.keep u) f (Mn rd i n x) ⟨dx,S⟩
def aa7:=show FO P w K mg base 2 _ _ _ (fi A K 0) by
 exists T.U2.gp aaK
 obtain⟨w,r,tl,m,b,a,t,pos,x,rfl,h,e,i,rd,d,g,k⟩:=h;refine⟨_,(aq (aW (fA (pv 0) T.aF T.BY (BI T) hr T.D8))),?_⟩;obtain⟨hd,rfl⟩:=ayb d;have dn:=k.done h rd (cJ.refl _ _) rd hd;refine⟨_,rfl,w,m.dx,_,rfl,h.ob,rfl,?_⟩;exact⟨w,m,b,rfl,h,dn⟩
def VJ:=show FO P w K mg base 2 _ _ _ (fi A K 12) by
 exists T.NP.gp VA
 obtain⟨w,r,tl,m,b,a,t,pos,x,rfl,h,d,i,rd,g,e,k⟩:=h;refine⟨_,(aq (aW (fA (pv 0) T.aF T.BZ (BJ T) hr T.D9))),?_⟩;obtain⟨hd,rfl⟩:=as5 g;have dn:=k.done h rd (cJ.refl _ _) rd hd;refine⟨_,rfl,w,m.dx,_,rfl,h.ob,rfl,?_⟩;exact⟨w,m,b,rfl,h,d,i,e,dn⟩
def Td:=show FO P w K mg base 2 _ _ _ (fi A K 13) by
 exists T.J7.gp SE
 obtain⟨w,r,tl,m,b,a,t,pos,x,rfl,h,d,i,rd,g,e,k⟩:=h;refine⟨_,(aq (aW (fA (pv 0) T.aF T.Aw (Aj T) hr T.Ci))),?_⟩;obtain⟨hd,rfl⟩:=as4 g;have dn:=k.done h rd (cJ.refl _ _) rd hd;refine⟨_,rfl,w,m.dx,_,rfl,h.ob,rfl,?_⟩;exact⟨w,m,b,rfl,h,d,i,e,dn⟩
def VI:=show FO P w K mg base 5 _ _ _ (fi A K 1) by
 exists T.NO.gp Vz
 obtain⟨w,r,tl,m,b,a,t,pos,x,rfl,h,g,i,rd,u,C,k⟩:=h;refine⟨_,(aq (aW (bx (pv 0) T.aF T.DX (DQ T) hr T.GN (aa (fA (pv 1) T.bJ T.kQ (kP T) hr T.mh) ai)))),?_⟩;obtain⟨row,hd,rfl,n⟩:=aya u;obtain⟨p,o,D,z⟩:=id rd;refine⟨_,rfl,w,m.dx,_,rfl,h.ob,rfl,_,rfl,r,p,_,rfl,o,rfl,r,tl,a,pos,_,_,rfl,rd,hd,jb.of (by rw[hd];exact RG row t) λM L v d e y j=>?_⟩;obtain⟨q,rfl,J,eq⟩:=j;exact⟨w,q,m,b,row,rfl,tL rd d h,g,i,eq,afu n,k.done h rd d e y⟩
def YM:=show FO P w K mg base 11 _ _ _ (fi A K 2) by
 exists T.QC.gp Yn
 obtain⟨w,r,tl,m,b,a,t,pos,x,rfl,h,j,i,rd,u,C,k⟩:=h;refine⟨_,(aq (aW (bx (pv 0) T.aF T.B1 (BL T) hr T.Eb (aa (fA (pv 1) T.bJ T.kq (km T) hr T.lH) ai)))),?_⟩;obtain⟨d,hd,rfl⟩:=ax9 u;obtain⟨p,o,D,z⟩:=id rd;refine⟨_,rfl,w,m.dx,_,rfl,h.ob,rfl,_,rfl,r,p,_,rfl,o,rfl,r,tl,a,pos,rfl,rd,jb.of (x:=(d:Int)) (rest:=t) (by rw[hd];rfl) λL J v e g y n=>?_⟩;obtain rfl:v=.int (d:Int):=n;exact⟨w,m,b,d,rfl,tL rd e h,j,i,k.done h rd e g y⟩
def aa6:=show FO P w K mg base 13 _ _ _ (fi A K 3) by
 exists T.U1.gp Po
 obtain⟨w,r,tl,m,b,a,t,pos,x,rfl,h,J,i,rd,I,oQ,k⟩:=h
 refine⟨_,(aj (bS 2 Po.nd (bx (pv 1) T.bJ T.ft (fq T) hr T.fJ (aa bc ai)))
  (aq (aW (bx (pv 0) T.aF T.FR (FA T) hr T.IF (aa (cP dW (pv 2) bc) (aa (cP dW (pv 2) bc) (aa (cP dW (pv 2) bc) (aa (fA (pv 1) T.bJ T.kQ (kP T) hr T.mh) ai)))))))),?_⟩
 obtain⟨e,d,g,row,hd,rfl⟩:=ax8 I;obtain⟨G,B,lr,pr⟩:=id rd;have en:Wx 3 (a.drop pos)=some (([(e:Int),(d:Int),(g:Int)]:List Int),((row.length:Int)::(row++t))):=by rw[hd];exact Bg ([(e:Int),(d:Int),(g:Int)]:List Int) (((row.length:Int)::(row++t)))
 refine⟨_,rfl,r,G,_,rfl,B,rfl,r,tl,a,pos,3,rfl,rd,jb.of en λU fN v p o O X=>?_⟩;obtain⟨q,rfl,hq,eq⟩:=X;have u:=tL rd p h;have vR:=u.ob;have sq:dv K U q [V.int (e:Int),V.int (d:Int),V.int (g:Int)]:=dv.of eq;have RP:ky [V.int (e:Int),V.int (d:Int),V.int (g:Int)] 0=some (V.int (e:Int)):=bD (j:=0) rfl;have zz:ky [V.int (e:Int),V.int (d:Int),V.int (g:Int)] 1=some (V.int (d:Int)):=bD (j:=1) rfl;have Z:ky [V.int (e:Int),V.int (d:Int),V.int (g:Int)] 2=some (V.int (g:Int)):=bD (j:=2) rfl;obtain⟨F,f,S,M⟩:=id o
 lk
 refine jb.of (by rw[O];exact RG row t) λH2 tN v y D C n=>?_
 obtain⟨L,rfl,Y,z⟩:=n;exact⟨w,L,m,b,⟨e,d,g⟩,row,rfl,tL o y u,J,i,dv.of z,k.done h rd (p.trans y) D C⟩
def Te:=show FO P w K mg base 11 _ _ _ (fi A K 4) by
 exists T.J8.gp EY
 obtain⟨w,r,tl,m,b,n,t,pos,x,rfl,h,F,i,rd,D,I,k⟩:=h
 refine⟨_,(aj (bS 2 EY.nd (bx (pv 1) T.bJ T.ft (fq T) hr T.fJ (aa bc ai)))
  (aq (aW (bx (pv 0) T.aF T.yf (yd T) hr T.zu (aa (cP dW (pv 2) bc) (aa (cP dW (pv 2) bc) (aa (cP dW (pv 2) bc) (aa (cP dW (pv 2) bc) (aa (cP dW (pv 2) bc) (aa (cP dW (pv 2) bc) ai)))))))))),?_⟩
 obtain⟨d,a,g,nx,lo,e,hd,rfl⟩:=ax7 D;obtain⟨C,z,O,G⟩:=id rd;have en:Wx 6 (n.drop pos)=some (([(d:Int),(jL a),(g:Int),(nx:Int),(lo:Int),(e:Int)]:List Int),t):=by rw[hd];exact Bg ([(d:Int),(jL a),(g:Int),(nx:Int),(lo:Int),(e:Int)]:List Int) (t)
 refine⟨_,rfl,r,C,_,rfl,z,rfl,r,tl,n,pos,6,rfl,rd,jb.of en λM Y v o p L u=>?_⟩;obtain⟨q,rfl,U,eq⟩:=u;have y:=tL rd o h;have B:=y.ob;have sq:dv K M q [V.int (d:Int),V.int (jL a),V.int (g:Int),V.int (nx:Int),V.int (lo:Int),V.int (e:Int)]:=dv.of eq;have Z:ky [V.int (d:Int),V.int (jL a),V.int (g:Int),V.int (nx:Int),V.int (lo:Int),V.int (e:Int)] 0=some (V.int (d:Int)):=bD (j:=0) rfl;have zz:ky [V.int (d:Int),V.int (jL a),V.int (g:Int),V.int (nx:Int),V.int (lo:Int),V.int (e:Int)] 1=some (V.int (jL a)):=bD (j:=1) rfl;have f:ky [V.int (d:Int),V.int (jL a),V.int (g:Int),V.int (nx:Int),V.int (lo:Int),V.int (e:Int)] 2=some (V.int (g:Int)):=bD (j:=2) rfl;have S:ky [V.int (d:Int),V.int (jL a),V.int (g:Int),V.int (nx:Int),V.int (lo:Int),V.int (e:Int)] 3=some (V.int (nx:Int)):=bD (j:=3) rfl;have X:ky [V.int (d:Int),V.int (jL a),V.int (g:Int),V.int (nx:Int),V.int (lo:Int),V.int (e:Int)] 4=some (V.int (lo:Int)):=bD (j:=4) rfl;have J:ky [V.int (d:Int),V.int (jL a),V.int (g:Int),V.int (nx:Int),V.int (lo:Int),V.int (e:Int)] 5=some (V.int (e:Int)):=bD (j:=5) rfl;have dn:=k.done h rd o p L
 lk
 exact dn
def Tf:=show FO P w K mg base 11 _ _ _ (fi A K 5) by
 exists T.J9.gp EZ
 obtain⟨w,r,tl,m,b,n,t,pos,x,rfl,h,F,i,rd,D,I,k⟩:=h
 refine⟨_,(aj (bS 2 EZ.nd (bx (pv 1) T.bJ T.ft (fq T) hr T.fJ (aa bc ai)))
  (aq (aW (bx (pv 0) T.aF T.yg (ye T) hr T.zw (aa (cP dW (pv 2) bc) (aa (cP dW (pv 2) bc) (aa (cP dW (pv 2) bc) (aa (cP dW (pv 2) bc) (aa (cP dW (pv 2) bc) (aa (cP dW (pv 2) bc) ai)))))))))),?_⟩
 obtain⟨d,a,g,nx,lo,e,hd,rfl⟩:=ax6 D;obtain⟨C,z,O,G⟩:=id rd;have en:Wx 6 (n.drop pos)=some (([(d:Int),(jL a),(g:Int),(nx:Int),(lo:Int),(e:Int)]:List Int),t):=by rw[hd];exact Bg ([(d:Int),(jL a),(g:Int),(nx:Int),(lo:Int),(e:Int)]:List Int) (t)
 refine⟨_,rfl,r,C,_,rfl,z,rfl,r,tl,n,pos,6,rfl,rd,jb.of en λM Y v o p L u=>?_⟩;obtain⟨q,rfl,U,eq⟩:=u;have y:=tL rd o h;have B:=y.ob;have sq:dv K M q [V.int (d:Int),V.int (jL a),V.int (g:Int),V.int (nx:Int),V.int (lo:Int),V.int (e:Int)]:=dv.of eq;have Z:ky [V.int (d:Int),V.int (jL a),V.int (g:Int),V.int (nx:Int),V.int (lo:Int),V.int (e:Int)] 0=some (V.int (d:Int)):=bD (j:=0) rfl;have zz:ky [V.int (d:Int),V.int (jL a),V.int (g:Int),V.int (nx:Int),V.int (lo:Int),V.int (e:Int)] 1=some (V.int (jL a)):=bD (j:=1) rfl;have f:ky [V.int (d:Int),V.int (jL a),V.int (g:Int),V.int (nx:Int),V.int (lo:Int),V.int (e:Int)] 2=some (V.int (g:Int)):=bD (j:=2) rfl;have S:ky [V.int (d:Int),V.int (jL a),V.int (g:Int),V.int (nx:Int),V.int (lo:Int),V.int (e:Int)] 3=some (V.int (nx:Int)):=bD (j:=3) rfl;have X:ky [V.int (d:Int),V.int (jL a),V.int (g:Int),V.int (nx:Int),V.int (lo:Int),V.int (e:Int)] 4=some (V.int (lo:Int)):=bD (j:=4) rfl;have J:ky [V.int (d:Int),V.int (jL a),V.int (g:Int),V.int (nx:Int),V.int (lo:Int),V.int (e:Int)] 5=some (V.int (e:Int)):=bD (j:=5) rfl;have dn:=k.done h rd o p L
 lk
 exact dn
def YK:=show FO P w K mg base 11 _ _ _ (fi A K 6) by
 exists T.QA.gp Br
 obtain⟨w,r,tl,m,b,a,t,pos,x,rfl,h,O,i,rd,ci,oQ,k⟩:=h
 refine⟨_,(aj (bS 2 Br.nd (bN (qh T) hr T.ql T.pG.kp T.uz (aa (pv 1) ai)))
  (aj (bS 3 Br.nd (bx (pv 1) T.bJ T.ft (fq T) hr T.fJ (aa bc ai)))
  (aq (aW (bx (pv 0) T.aF T.DT (DN T) hr T.GJ (aa (pv 2) (aa (cP dW (pv 3) bc) (aa (cP dW (pv 3) bc) (aa (cP dW (pv 3) bc) ai))))))))),?_⟩
 obtain⟨J,D,C,S,dx,g,e,d,hd,rfl⟩:=ax5 ci;obtain⟨dr,er,lr,pr⟩:=id rd;refine⟨_,rfl,r,tl,a,_,pos,_,_,_,_,_,rfl,rd,hd,λH1 p M z n LF np B=>?_⟩;obtain⟨u,o,Y,U⟩:=id n;have en:Wx 3 (a.drop M)=some (([(g:Int),(e:Int),(d:Int)]:List Int),t):=by rw[LF];exact Bg ([(g:Int),(e:Int),(d:Int)]:List Int) t
 refine⟨_,rfl,r,u,_,rfl,o,rfl,r,tl,a,M,3,rfl,n,jb.of en λX tN v y G f Z=>?_⟩;obtain⟨q,rfl,hq,eq⟩:=Z;have L:=tL n y (tL rd z h);have D0:=L.ob;have I:bX A X p (aO ⟨J,D,S,C,dx⟩):=afb n y B;have sq:dv K X q [V.int (g:Int),V.int (e:Int),V.int (d:Int)]:=dv.of eq;have RP:ky [V.int (g:Int),V.int (e:Int),V.int (d:Int)] 0=some (V.int (g:Int)):=bD (j:=0) rfl;have zz:ky [V.int (g:Int),V.int (e:Int),V.int (d:Int)] 1=some (V.int (e:Int)):=bD (j:=1) rfl;have F:ky [V.int (g:Int),V.int (e:Int),V.int (d:Int)] 2=some (V.int (d:Int)):=bD (j:=2) rfl;have dn:=k.done h rd (z.trans y) G f;refine⟨_,rfl,w,m.dx,_,rfl,D0,rfl,_,rfl,_,rfl,_,_,_,_,rfl,rfl,sq,RP,_,rfl,_,_,_,_,rfl,rfl,sq,zz,_,rfl,_,_,_,_,rfl,rfl,sq,F,w,p,m,b,⟨J,D,S,C,dx⟩,⟨g,e,d⟩,rfl,L,O,i,I,dn⟩
def YN:=show FO P w K mg base 9 _ _ _ (fi A K 7) by
 exists T.QD.gp L7
 obtain⟨w,r,tl,m,b,a,t,pos,x,rfl,h,B,i,rd,Y,oQ,k⟩:=h
 refine⟨_,(aj (bS 2 L7.nd (bN (qh T) hr T.ql T.pG.kp T.uz (aa (pv 1) ai)))
  (aq (aW (bx (pv 0) T.aF T.DU (DO T) hr T.GK (aa (pv 2) (aa (bN (qh T) hr T.ql T.pG.kp T.uz (aa (pv 1) ai)) ai)))))),?_⟩
 obtain⟨G,q,f,U,dx,I,M,L,X,S,hd,rfl⟩:=ax4 Y;obtain⟨dr,er,lr,pr⟩:=id rd;refine⟨_,rfl,r,tl,a,_,pos,_,_,_,_,_,rfl,rd,hd,λH1 p O n d Z np C=>?_⟩;have u:=tL rd n h;refine⟨_,rfl,w,m.dx,_,rfl,u.ob,rfl,_,rfl,_,rfl,r,tl,a,_,O,_,_,_,_,_,rfl,d,Z,λy o tN j D z F J=>?_⟩;have g:bX A y p (aO ⟨G,q,U,f,dx⟩):=afb d j C;have e:bX A y o (aO ⟨I,M,X,L,S⟩):=J;exact⟨w,p,o,m,b,_,_,rfl,tL d j u,B,i,g,e,k.done h rd (n.trans j) D z⟩
def VL:=show FO P w K mg base 5 _ _ _ (fi A K 8) by
 exists T.NQ.gp VB
 obtain⟨w,r,tl,m,b,a,t,pos,x,rfl,h,u,i,rd,C,M,k⟩:=h;refine⟨_,(aq (aW (bx (pv 0) T.aF T.B4 (BN T) hr T.Ed (aa (bN (qh T) hr T.ql T.pG.kp T.uz (aa (pv 1) ai)) ai)))),?_⟩;obtain⟨y,o,n,z,dx,hd,rfl⟩:=ax3 C;obtain⟨B,q,X,L⟩:=id rd;refine⟨_,rfl,w,m.dx,_,rfl,h.ob,rfl,_,rfl,r,tl,a,_,pos,_,_,_,_,_,rfl,rd,hd,λJ p f e j D S g=>?_⟩;have d:bX A J p (aO ⟨y,o,z,n,dx⟩):=g;exact⟨w,p,m,b,_,rfl,tL rd e h,u,i,d,k.done h rd e j D⟩
def VM:=show FO P w K mg base 4 _ _ _ (fi A K 11) by
 exists T.NR.gp VC
 obtain⟨w,r,tl,m,b,a,t,pos,x,rfl,h,u,i,rd,C,M,k⟩:=h;refine⟨_,(aq (aW (bx (pv 0) T.aF T.B0 (BK T) hr T.Ea (aa (bN (qh T) hr T.ql T.pG.kp T.uz (aa (pv 1) ai)) ai)))),?_⟩;obtain⟨y,o,n,z,dx,hd,rfl⟩:=as6 C;obtain⟨B,q,X,L⟩:=id rd;refine⟨_,rfl,w,m.dx,_,rfl,h.ob,rfl,_,rfl,r,tl,a,_,pos,_,_,_,_,_,rfl,rd,hd,λJ p f e j D S g=>?_⟩;have d:bX A J p (aO ⟨y,o,z,n,dx⟩):=g;exact⟨w,p,m,b,_,rfl,tL rd e h,u,i,d,k.done h rd e j D⟩
def YJ:=show FO P w K mg base 13 _ _ _ (fi A K 9) by
 exists T.Qz.gp L5
 obtain⟨w,r,tl,m,b,a,t,pos,x,rfl,h,J,i,rd,I,Z,k⟩:=h
 refine⟨_,(aj (bS 2 L5.nd (fA (pv 1) T.bJ T.kQ (kP T) hr T.mh))
  (aq (aW (bx (pv 0) T.aF T.FQ (Fz T) hr T.IE (aa (pv 2) (aa (fA (pv 1) T.bJ T.kQ (kP T) hr T.mh) ai)))))),?_⟩
 obtain⟨nm,row,hd,rfl,f⟩:=ax2 I;obtain⟨G,F,lr,Y⟩:=id rd;refine⟨_,rfl,r,G,_,rfl,F,rfl,r,tl,a,pos,_,_,rfl,rd,hd,jb.of (by rw[hd];exact RG nm _) λH1 B v o d u X=>?_⟩;obtain⟨q,rfl,hq,eq⟩:=X;obtain⟨j,g,S,M⟩:=id d;have p:=tL rd o h;have C:=dv.of (K:=K) eq;refine⟨_,rfl,w,m.dx,_,rfl,p.ob,rfl,_,rfl,_,rfl,r,j,_,rfl,g,rfl,r,tl,a,B,_,_,rfl,d,u,jb.of (by rw[u];exact RG row t) λH2 U v n D z e=>?_⟩;obtain⟨L,rfl,O,y⟩:=e;exact⟨w,q,L,m,b,nm,row,rfl,tL d n p,J,i,aoh d n C,dv.of y,afu f,k.done h rd (o.trans n) D z⟩
def YL:=show FO P w K mg base 5 _ _ _ (fi A K 10) by
 exists T.QB.gp L6
 obtain⟨w,r,tl,m,b,a,t,pos,x,rfl,h,z,i,rd,M,C,k⟩:=h
 refine⟨_,(aj (bS 2 L6.nd (bx (pv 1) T.bJ T.ft (fq T) hr T.fJ (aa bc ai)))
  (aq (aW (bx (pv 0) T.aF T.Iw (Iq T) hr T.K8 (aa (cP dW (pv 2) bc) (aa (cP dW (pv 2) bc) (aa (cP dW (pv 2) bc) ai))))))),?_⟩
 obtain⟨e,d,g,hd,rfl⟩:=as7 M;obtain⟨L,J,F,B⟩:=id rd;have en:Wx 3 (a.drop pos)=some (([(e:Int),(d:Int),(g:Int)]:List Int),t):=by rw[hd];exact Bg ([(e:Int),(d:Int),(g:Int)]:List Int) (t)
 refine⟨_,rfl,r,L,_,rfl,J,rfl,r,tl,a,pos,3,rfl,rd,jb.of en λf I v n u X D=>?_⟩;obtain⟨q,rfl,G,eq⟩:=D;have o:=tL rd n h;have y:=o.ob;have sq:dv K f q [V.int (e:Int),V.int (d:Int),V.int (g:Int)]:=dv.of eq;have S:ky [V.int (e:Int),V.int (d:Int),V.int (g:Int)] 0=some (V.int (e:Int)):=bD (j:=0) rfl;have zz:ky [V.int (e:Int),V.int (d:Int),V.int (g:Int)] 1=some (V.int (d:Int)):=bD (j:=1) rfl;have p:ky [V.int (e:Int),V.int (d:Int),V.int (g:Int)] 2=some (V.int (g:Int)):=bD (j:=2) rfl;have dn:=k.done h rd n u X;refine⟨_,rfl,w,m.dx,_,rfl,y,rfl,_,rfl,_,_,_,_,rfl,rfl,sq,S,_,rfl,_,_,_,_,rfl,rfl,sq,zz,_,rfl,_,_,_,_,rfl,rfl,sq,p,w,m,b,⟨e,d,g⟩,rfl,o,z,i,C,dn⟩
inductive uC (A:Ad) (K:ah):ag->Sp->Prop
 |c0:uC A K A.xj (fi A K 0)
 |c1:uC A K A.qw (fi A K 1)
 |c2:uC A K A.t9 (fi A K 2)
 |c3:uC A K A.xi (fi A K 3)
 |c4:uC A K A.nS (fi A K 4)
 |c5:uC A K A.nU (fi A K 5)
 |c6:uC A K A.tY (fi A K 6)
 |c7:uC A K A.ua (fi A K 7)
 |c8:uC A K A.qy (fi A K 8)
 |c9:uC A K A.tX (fi A K 9)
 |c10:uC A K A.tZ (fi A K 10)
 |c11:uC A K A.qz (fi A K 11)
 |c12:uC A K A.qx (fi A K 12)
 |c13:uC A K A.nR (fi A K 13)
def atb:∀f sp,uC A K f sp->FnAt P w K mg base (RT P w) 13 f ["book","reader"] sp:=by
 intro f sp h;cases h with
 |c0=>exact⟨⟨_,(aa7 T).mono (by decide),T.aes⟩,T.U2.kp⟩
 |c1=>exact⟨⟨_,(VI T).mono (by decide),T.ZC⟩,T.NO.kp⟩
 |c2=>exact⟨⟨_,(YM T).mono (by decide),T.acd⟩,T.QC.kp⟩
 |c3=>exact⟨⟨_,(aa6 T).mono (by decide),T.aer⟩,T.U1.kp⟩
 |c4=>exact⟨⟨_,(Te T).mono (by decide),T.V1⟩,T.J8.kp⟩
 |c5=>exact⟨⟨_,(Tf T).mono (by decide),T.V2⟩,T.J9.kp⟩
 |c6=>exact⟨⟨_,(YK T).mono (by decide),T.aca⟩,T.QA.kp⟩
 |c7=>exact⟨⟨_,(YN T).mono (by decide),T.ace⟩,T.QD.kp⟩
 |c8=>exact⟨⟨_,(VL T).mono (by decide),T.ZE⟩,T.NQ.kp⟩
 |c9=>exact⟨⟨_,(YJ T).mono (by decide),T.ab9⟩,T.Qz.kp⟩
 |c10=>exact⟨⟨_,(YL T).mono (by decide),T.acb⟩,T.QB.kp⟩
 |c11=>exact⟨⟨_,(VM T).mono (by decide),T.ZF⟩,T.NR.kp⟩
 |c12=>exact⟨⟨_,(VJ T).mono (by decide),T.ZD⟩,T.NP.kp⟩
 |c13=>exact⟨⟨_,(Td T).mono (by decide),T.V0⟩,T.J7.kp⟩
def xP.rd {w r:ag} {t:List Int} {pos:Nat} (k:xP A K H Q w m r tl told t b x) (rd:iI A K H r tl told pos) (kp:cJ [r] H H1) (f:iI A K H1 r tl told fN):xP A K H1 Q w m r tl told t b x:=by
 intro n q h st g i eq;refine k n q h ⟨λu o l e=>?_,st.at_,λa j=>?_,st.rd⟩ g (Mn rd f kp i) eq
 ·have d:u≠r:=λz=>e (by rw[z];exact aM)
  exact st.keep _ _ (kp _ _ l (nin d)) e
 ·rcases st.fp a j with q|q
  ·exact .inl q
  ·exact .inr (Mn rd f kp q)
def fW.head {t:List Int} (h:fW l t x):∃(n:Nat) (rest:List Int),n<14/\l=(n:Int)::rest:=by
 cases h with
 |new=>exact⟨0,_,by decide,rfl⟩
 |sheet=>exact⟨1,_,by decide,rfl⟩
 |gone=>exact⟨2,_,by decide,rfl⟩
 |set=>exact⟨3,_,by decide,rfl⟩
 |insert=>exact⟨4,_,by decide,rfl⟩
 |delete=>exact⟨5,_,by decide,rfl⟩
 |move=>exact⟨6,_,by decide,rfl⟩
 |fill=>exact⟨7,_,by decide,rfl⟩
 |clear=>exact⟨8,_,by decide,rfl⟩
 |name=>exact⟨9,_,by decide,rfl⟩
 |look=>exact⟨10,_,by decide,rfl⟩
 |cells=>exact⟨11,_,by decide,rfl⟩
 |names=>exact⟨12,_,by decide,rfl⟩
 |sheets=>exact⟨13,_,by decide,rfl⟩
def afK (A:Ad):List ag:=[A.xj,A.qw,A.t9,A.xi,A.nS,A.nU,A.tY,A.ua,A.qy,A.tX,A.tZ,A.qz,A.qx,A.nR]
def amF (h:n<14):∃f,ky ((afK A).map V.ref) (n:Int)=some (V.ref f)/\uC A K f (fi A K (n:Int)):=by
 rcases n with _|_|_|_|_|_|_|_|_|_|_|_|_|_|n
 ·exact⟨_,bD (j:=0) rfl,.c0⟩
 ·exact⟨_,bD (j:=1) rfl,.c1⟩
 ·exact⟨_,bD (j:=2) rfl,.c2⟩
 ·exact⟨_,bD (j:=3) rfl,.c3⟩
 ·exact⟨_,bD (j:=4) rfl,.c4⟩
 ·exact⟨_,bD (j:=5) rfl,.c5⟩
 ·exact⟨_,bD (j:=6) rfl,.c6⟩
 ·exact⟨_,bD (j:=7) rfl,.c7⟩
 ·exact⟨_,bD (j:=8) rfl,.c8⟩
 ·exact⟨_,bD (j:=9) rfl,.c9⟩
 ·exact⟨_,bD (j:=10) rfl,.c10⟩
 ·exact⟨_,bD (j:=11) rfl,.c11⟩
 ·exact⟨_,bD (j:=12) rfl,.c12⟩
 ·exact⟨_,bD (j:=13) rfl,.c13⟩
 ·omega
def Sl (A:Ad) (K:ah):Sp:=λvs H Q _=>∃(w r tl:ag) (m:mV) (b:cy) (told t:List Int) (pos:Nat) (x:DB),vs=[.ref w,.ref r]/\fY A K H w m/\Rep b m/\iJ b/\iI A K H r tl told pos/\fW (told.drop pos) t x/\(fh b x).length<=10000000/\xP A K H Q w m r tl told t b x
def Tg:=show FO P w K mg base 14 _ _ _ (Sl A K) by
 exists T.Ka.gp E1
 obtain⟨w,r,tl,m,b,a,t,pos,x,rfl,h,p,i,rd,j,u,k⟩:=h
 refine⟨_,(aj (bS 2 E1.nd (cP fg (l0 rfl T.aiT) (fA (pv 1) T.bJ T.kq (km T) hr T.lH)))
  (aq (aW (SX (Fs:=uC A K) (atb T) (hr.mono (by decide)) Fu (pv 2) (aa (pv 0) (aa (pv 1) ai)))))),?_⟩
 obtain⟨n,rest,z,hd⟩:=j.head;obtain⟨M,L,q,X⟩:=id rd;obtain⟨f,d,C⟩:=amF (A:=A) (K:=K) z;refine⟨_,rfl,r,M,_,rfl,L,rfl,r,tl,a,pos,rfl,rd,jb.of (x:=(n:Int)) (rest:=rest) (by rw[hd];rfl) λo J v g e S y=>?_⟩;obtain rfl:v=.int (n:Int):=y;have sq:gL K o A.RC ((afK A).map V.ref):=T.ah7.sq o;have D:=tL rd g h;refine⟨A.RC,_,_,_,rfl,rfl,sq,d,?_⟩;refine⟨_,rfl,f,fi A K (n:Int),rfl,C,_,rfl,_,rfl,?_⟩;exact⟨w,r,tl,m,b,a,t,J,x,rfl,D,p,i,e,by rw[S,<-hd];exact j,u,k.rd rd g e⟩
def RA {q:ag}:bB (bB H q x) q y=bB H q y:=by
 funext u
 by_cases z:u=q
 ·rw[z,ao,ao]
 ·rw[aw z,aw z,aw z]
def fY.unlock {w:ag} (h:fY A K H w m) (f:H d=some (.gb od u)) (B:∀xs,u≠ .tup xs):fY A K (bB H d x) w m:=by
 have g:∀{v:ag} {o:HO},H v=some o->(∀a b,o≠ .gb a b)->bB H d x v=some o:=fun {v o} j no=>by
  rw[aw (λz=>by rw[z,f]at j;exact no _ _ (ay j).symm)];exact j
 refine⟨g h.ob (λ_ _ z=>by cases z),g h.ti (λ_ _ z=>by cases z),λt p=>g (h.tl t p) (λ_ _ z=>by cases z),g h.ce (λ_ _ z=>by cases z),λs i=>g (h.sh s i) (λ_ _ z=>by cases z),λs i e C=>Xt f B (h.co s i e C),g h.na (λ_ _ z=>by cases z),λn y=>?_,h.nd⟩;rcases h.nl n y with(q|⟨o,q⟩)|q
 ·exact .inl (.inl (g q (λ_ _ z=>by cases z)))
 ·refine .inl (.inr ⟨o,?_⟩)
  rw[aw (λz=>by
   rw[z,f]at q;have q:=ay q;injection q with _ l
   exact B _ l)]
  exact q
 ·exact .inr q
def Sk (K:ah):Sp:=λvs H Q _=>∃(l:ag) (ns:List Int),vs=[.ref l]/\dv K H l (ns.map V.int)/\aeG ns/\(NC mm ns).length<=10000000/\∀H' p,H' p=some (.lst ((NC mm ns).map V.int))->Q (.ref p) H'
structure ayt (A:Ad) (K:ah) (H:Hp) (l w r q:ag) (ns:List Int) (n:Nat) (σ:L2.St) (H':Hp):Prop where
 ex:∃(v4:Option V) (m:mV) (b:cy) (pos:Nat) (out:List Int),n=(ns.drop pos).length/\σ=[some (.ref l),some (.ref w),some (.ref r),some (.ref q),v4]/\bt H H'/\(∀x,fY A K (bB H' q x) w m)/\(∀a∈rj w m,H a=none)/\Rep b m/\iJ b/\iI A K H' r l ns pos/\H' q=some (.lst (out.map V.int))/\aeG (ns.drop pos)/\out++NC b (ns.drop pos)=NC mm ns
def adC:=show FO P w K mg base 15 _ _ _ (Sk K) by
 exists T.XH.gp wI
 obtain⟨l,ns,rfl,hl,apk,ε,k⟩:=h
 refine⟨_,(aj (bS 1 wI.nd (aiy T.abh (OD T) hr T.abp T.Rm))
  (aj (bS 2 wI.nd (jy T.OI (wY T) hr T.OK T.zy (aa (pv 0) ai)))
  (aj (bS 3 wI.nd (di ai))
  (aj (Ow BC (ki (iG (fA (pv 2) T.bJ T.ny (nv T) hr T.oR)))
  (aj (Hv (bS 4 wI.nd (bN (Tg T) hr T.Tw T.Ka.kp T.V3 (aa (pv 1) (aa (pv 2) ai)))))
  (aj (cC (CW cV pL pK HA (pv 3) (aa (cG eL rfl T.jG jI (aa (pv 4) ai)) ai)))
  (aq (cC (CW cV fF fE mB (pv 3) (aa (pv 4) ai)))))))
  (aq (aW (pv 3))))))),?_⟩
 refine λw dw n1 n2 n3=>⟨w,dw,rfl,ao,λH1 m0 zz rp1 xg fp1=>⟨rfl,?_⟩⟩
 have s1:bt H H1:=bt.made n1 n2 (λb o q m=>xg b o q (nin m))
 have fpH:∀a∈rj w m0,H a=none:=λa ha=>by
  rcases fp1 a ha with rfl|z
  ·exact n1
  ·by_cases q:a=w
   ·rw[q];exact n1
   ·rw[aw q]at z;by_cases q2:a=dw
    ·rw[q2];exact n2
    ·rw[aw q2]at z;exact z
 refine⟨_,rfl,λr dr m1 m2 m3=>⟨r,dr,l,rfl,ao,λH2 e2 FW=>⟨rfl,?_⟩⟩⟩;have s2:bt H1 H2:=bt.made m1 m2 (λb o q m=>FW b o q (nin m));have Y:=s1.trans s2;have rH:H r=none:=none_of s1 m1;have å:=zz.same s2
 lk
 intro q B;have qH:H q=none:=none_of Y B;have e:r≠q:=bp e2 B;refine ac3 (ayt A K H l w r q ns) ⟨_,⟨⟨_,m0,mm,0,[],rfl,rfl,Y.bB B,λx=>?_,fpH,rp1,Xb,⟨dr,?_,(Y.bB B).seq hl,eI _⟩,ao,apk,rfl⟩⟩⟩ ?_
 ·rw[RA];exact å.same (bt.new B)
 ·rw[aw e];exact e2
 ·rintro n σ O ⟨⟨v4,m,b,pos,out,rfl,rfl,S,X,F,rp,i,rd,eq,ask,j⟩⟩
  obtain⟨dr',er',lr',L⟩:=id rd;by_cases ao7:pos=ns.length
  ·have hd:ns.drop pos=[]:=HW (by fail);rw[hd,aj5,cX]at j;rw[j]at eq
   lk
   exact k O q eq
  ·cases C:ns.drop pos with
   |nil=>exact absurd (drop_nil C L) ao7
   |cons p rest=>
    rw[C]at ask j;obtain⟨x,t,ci,ayd,htl,oQ⟩:=aj1 ask;have J:=j;rw[oQ b]at J
    have ash:(fh b x).length<=10000000/\out.length+1+(fh b x).length<=10000000:=by
     have:=cK gh J;rw[aI,ak,ak,aI]at this;unfold fh;rw[ak];fail
    have S1:∀y,bt H (bB O q y):=λy u o g=>by rw[aw (bp g qH)];exact S _ _ g
    repeat' (first|(refine HG q eq trivial (λI=>?_))|walk_at "")
    refine⟨?_⟩;have rdF:iI A K (bB O q (.gb I (.lst (out.map V.int)))) r l ns pos:=⟨dr',by rw[aw e];exact er',(S1 _).seq hl,L⟩;have D:(bB O q (.gb I (.lst (out.map V.int)))) q=some (.gb I (.lst (out.map V.int))):=ao
    have nfp:q∉r::rj w m:=λz=>by
     rcases aY.mp z with z|z
     ·exact e z.symm
     ·obtain⟨o,eo,d⟩:=(X (.gb I (.lst (out.map V.int)))).fp q z;rw[D]at eo;cases eo;exact d
    refine⟨_,rfl,_,rfl,w,r,l,m,b,ns,t,pos,x,rfl,X _,rp,i,rdF,by rw[C];exact ci,ash.1,λH2 qa m2 st Z f eqa=>?_⟩;have ν:=st.keep _ _ D nfp;have M:qa≠q:=λz=>by rw[z,D]at f;cases f
    refine⟨ν,?_⟩;have Δ:(bB H2 q (.lst (out.map V.int))) q=some (.lst (out.map V.int)):=ao;have G:(bB H2 q (.lst (out.map V.int))) qa=some (.lst ((fh b x).map V.int)):=by rw[aw M];exact eqa
    have ī:=dv.of (K:=K) Δ;have aAB:=dv.of (K:=K) G;have z1:(out.map V.int).length<sizeLine:=by rw[ae];exact ae5 (by fail)
    lk
    have χ:(bB (bB H2 q (.lst (out.map V.int))) q (.lst (out.map V.int++[V.int (((fh b x).map V.int).length:Int)]))) q=some (.lst (out.map V.int++[V.int (((fh b x).map V.int).length:Int)])):=ao;have axJ:(bB (bB H2 q (.lst (out.map V.int))) q (.lst (out.map V.int++[V.int (((fh b x).map V.int).length:Int)]))) qa=some (.lst ((fh b x).map V.int)):=by rw[aw M];exact G
    have sq4:=dv.of (K:=K) χ;have aAA:=dv.of (K:=K) axJ
    have z2:(out.map V.int++[V.int (((fh b x).map V.int).length:Int)]).length+((fh b x).map V.int).length<=sizeLine:=by
     rw[aI,ae,ae];exact Bl (by simp only[ak,gu];fail)
    lk
    obtain⟨tN,Ñ,U⟩:=st.rd;obtain⟨dr2,er2,lr2,pr2⟩:=id Ñ;rw[RA,RA]
    have S2:∀y,bt H (bB H2 q y):=λy u o g=>by
     rw[aw (bp g qH)];refine st.keep _ _ ((S1 _) _ _ g) (λz=>?_);rcases aY.mp z with z|z
     ·rw[z,rH]at g;cases g
     ·rw[F u z]at g;cases g
    refine less (m':=t.length) (by rw[ak];fail) ⟨⟨_,m2,(bU b x).1,tN,out++(((fh b x).length:Int)::fh b x),by rw[U],rfl,S2 _,λy=>?_,λa ha=>?_,Z,ajI i x,⟨dr2,?_,(S2 _).seq hl,pr2⟩,?_,by rw[U];exact ayd,?_⟩⟩
    ·rw[RA];exact st.at_.unlock ν (λ_ z=>by cases z)
    ·rcases st.fp a ha with z|z
     ·exact F a z
     ·exact none_of (S1 _) z
    ·rw[aw e];exact er2
    ·rw[ao,ae,aT,bW,cz];rfl
    ·rw[U,<-J];unfold fh;rw[ak];simp only[cz,eQ]
end CS
end
open PySem PySem.W PyProof.Rows
theorem PySem.Challenge.cw_cellsheets_s01_answers_holds : PySem.Challenge.rw_cellsheets_s01_answers.Holds := by
 refine CS.amv (sp:=CS.Sk) (λw mg fa h KX G hmg=>?_) λK H xs a hO hwi apk hx=>?_
 ·obtain⟨A,T⟩:=CS.txt KX G;have e:=ay (hmg.symm.trans T.adL);injection e with e
  subst e;obtain⟨_,_,_,_,_,_,_,_,_,ed,_⟩:=T.XH.ex;refine⟨_,?bb,λbase _ _=>CS.adC T⟩;intro s us hu;rw[ed];exact match us,hu with|[_],_=>.of_eq rfl
 ·cases hx with
  |cons h1 h2=>
   cases h2;cases h1 with
   |lst hs ha=>
    have e:=L2.aft a.1 _ ha;subst e;obtain⟨asC,ε⟩:=CS.ajZ (l:=a.1) apk;refine⟨_,a.1,rfl,hs,asC,ε,λH' p hp=>?_⟩;have e2:XJ a.1=CS.NC mm a.1:=CS.UE a.1;rw[<-e2]at hp;exact .lst (L2.dv.of hp) (L2.afC _)
