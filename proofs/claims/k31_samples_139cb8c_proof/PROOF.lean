import PyProof.Rows.All
import Wide.All
import OpenK.AllK
import Wide.FinOn
import PyProof.EqAt
import PyProof.EqKinds
import PyProof.TupleCall
import PyProof.NeKinds
import KE.KMinBuiltin
import Lean
import PySem.Challenge.RW_tokenwright_k31_samples
open Array renaming getElem?_eq_getElem->fh,length_toList->qM,forIn_toList->rC,toList->A5,getElem?_eq_none->A8,getElem?_toList->Cw
open Bool renaming and_eq_true->ak,false_eq_true->av,false_ne_true->aY,or_eq_true->bw,not_true->bG,not_false->bU,eq_iff_iff->cJ,not_eq_true->fW,not_eq_true'->hJ,true_and->AV,and_true->AW,not_eq_false->Ig,noConfusion->LS,true->ζ,false->ϑ
open False renaming elim->aW
open ForInStep renaming yield->eT
open Function renaming comp_def->dH
open Iff renaming rfl->pe
open Int renaming emod_lt_of_pos->jG,toNat_natCast->kb,emod_nonneg->lF,ofNat_lt->uL,fdiv_eq_ediv_of_nonneg->yW,not_lt->ze,le_refl->F5
open Int.ofNat renaming inj->pQ
open List renaming getElem?_eq_getElem->aa,getElem?_eq_some_iff->ab,length_map->ae,mem_of_getElem?->ag,getElem?_append_left->ah,getElem?_set_ne->aj,length_append->aq,getElem?_map->ar,map_cons->aw,mem_cons_of_mem->az,getElem?_append_right->aA,getD_eq_getElem?_getD->aC,map_append->aF,size_toArray->aH,mem_append->aJ,lookup_cons->aN,mem_cons_self->aO,mem_cons->aR,length_cons->aS,mem_singleton->aX,forall_mem_cons->aZ,mem_append_right->bc,idxOf_lt_length_of_mem->bj,getElem?_concat_length->bp,getElem?_of_mem->bq,mem_map->bx,mem_append_left->bz,map_map->bA,all_eq_true->bK,suffix_refl->bL,getElem?_set_self->bM,range->bO,append_assoc->bR,all_cons->bS,take_length->bX,getElem_mem->cq,filterMap_cons->cy,append_nil->cz,not_mem_nil->cA,length->cD,getElem_idxOf->cF,length_set->cK,length_range->cP,getElem?_eq_none->dq,any_cons->dw,map->dy,length_nil->dB,length_take->dD,suffix_cons->dE,getElem?_mapIdx->dY,nodup_append->d7,find?_cons->eh,cons_lt_cons_iff->eV,drop_eq_getElem_cons->fw,mem_filter->fA,nodup_cons->fE,getElem?_range->fU,lookup->gx,eq_nil_of_length_eq_zero->gB,take_of_length_le->gE,set_cons_succ->gG,set_cons_zero->gH,length_mapIdx->gI,length_singleton->gU,contains_iff_mem->gW,eq_nil_or_concat->gX,concat_eq_append->gY,foldl_append->hU,take_add_one->ie,mem_range->iJ,getElem?_append->iO,any_eq_true->iW,cons_append->iX,pairwise_iff_getElem->iY,nil_append->jz,foldl_cons->jA,map_nil->jX,length_eq_one_iff->jY,getElem?_set->jZ,drop_of_length_le->j6,idxOf_append->j7,mem_filterMap->l6,replicate->l7,drop_zero->l9,lt_irrefl->md,mem_take_iff_getElem->mV,sum_cons->nM,prefix_iff_eq_take->oJ,length_eq_zero_iff->oK,forIn_cons->o9,lookup_cons_self->pM,length_filter_le->pO,foldl_nil->qB,getElem_of_mem->rq,map_congr_left->rA,filterMap_map->sW,map_inj_right->sX,filter_append->sY,set_set->uh,flatten_cons->ui,map_inj_left->uj,range'->vt,take_append_of_le_length->vv,of_mem_zip->wW,sum_append->xc,range_succ->xf,forIn_nil->xH,nodup_nil->xO,isPrefixOf_iff_prefix->xR,mem_of_find?_eq_some->zf,getElem?_take_of_lt->AM,getElem?_replicate->A6,getElem?_cons_zero->Bc,pairwise_singleton->Bd,not_of_lt_findIdx->Cz,range_succ_eq_map->CB,all_map->CD,any_map->CJ,length_replicate->CW,take_append_drop->C1,filterMap_append->C2,getElem_toArray->EA,drop_eq_nil_iff->EB,take_succ_cons->FZ,drop_succ_cons->F3,length_pos_iff->F6,lookup_append->HI,append_of_mem->HK,isEmpty_cons->Ih,mem_range'_1->Ii,flatMap_cons->Ij,getElem_inj->LM,length_drop->LO,drop_length->LP,range'_succ->LQ,filter_cons->LU,map_fst_zip->LW,map_snd_zip->LX,find?_some->Mh
open List.IsSuffix renaming trans->nQ
open List.Pairwise renaming nil->xN,map->xS
open List.cons renaming injEq->cQ
open Nat renaming le_refl->ao,lt_of_lt_of_le->aD,le_trans->aI,lt_succ_of_lt->ba,ne_of_lt->bb,pow_le_pow_right->bB,zero_le->bI,testBit_and->bN,sub_self->bT,le_of_lt->bZ,lt_succ_self->cB,lt_irrefl->cC,testBit_or->cX,not_lt_zero->de,succ_le_succ->dg,ne_of_gt->dJ,le_of_not_lt->dS,le_add_right->fZ,lt_of_le_of_lt->gJ,pow_succ->gK,testBit_one_eq_true_iff_self_eq_zero->ig,le_succ->iR,lt_succ_iff_lt_or_eq->jB,lt_trans->j9,zero_add->kc,eq_of_testBit_eq->kZ,not_lt->mM,lt_trichotomy->nJ,le_succ_of_le->nK,le_antisymm->pR,lt_or_eq_of_le->tq,lt_or_ge->uI,one_shiftLeft->uJ,le_of_lt_succ->uK,exists_testBit_of_ne_zero->wY,zero_or->wZ,sub_le->zg,le_of_eq->CV,testBit_lt_two_pow->C0,mul_le_mul_left->HJ,add_sub_cancel->Ic,lt_of_le_of_ne->Ik,or_lt_two_pow->LV,lt_succ_of_le->LY,le_max_right->Mf,lt_of_not_le->Mi,min_eq_right->Mj
open Nat.succ renaming inj->nI
open Ne renaming symm->cM
open Option renaming map_eq_some_iff->au,bind_eq_some_iff->ax,bind_eq_bind->aQ,map_some->fg,getD_some->fS,getD_none->nH,map_map->pP,isSome_some->rm,map_none->uZ,isSome_iff_exists->xI,isSome_map->FW,bind_some->HL,some->ξ,none->ψ
open Option.some renaming inj->aG,injEq->jd
open Prod renaming ext->Ew,fst->Ez
open Prod.mk renaming inj->A2
open PyProof.Rows renaming slot_tuple_getitem->jj,callWith_type1->ki,AllBare->qL,envOfC->tj,subscriptTail->FT,subscriptTail_builtinR->HZ,IntsAre->H0
open PyProof.Rows.LSm renaming kept_iter->A9
open PySem renaming wpAny_bind->af,wpAny_pure->aB,Shared->aE,model->bf,starEach->bD,compareOp->bF,mainGlobals->bJ,Program->bQ,sysModules->cu,World->cG,binaryOp->cV,mem_of_lookup->dk,wpAny_truthy_bool->dA,wpAny_newObj_type->dN,Around->eD,wpAny_mono->fB,wpAny_Call_Name_kw->fD,cLine->fH,backTo->fP,FuncData->fT,wpAny_holding->fY,keywordEach->gS,wpAny_typeNameOfWhole_valiter->gV,tupleKind_room_in1->gZ,wpAny_passesOwn->iD,wpAny_loadPart'->iE,swapsWith->iK,inplaceOp->iL,attributeBase->iN,wpAny_dictEntries->iV,dictSetDefault->je,wpAny_call_entry->jv,cellsFrom->jx,wpAny_callSpecial?_slot->kj,bootBuiltins->kN,Scope->kO,wpAny_pyIter_list->kP,valueAt->lU,sizeLine_eq->lV,sliceBounds->lW,call_meetsIn->mZ,tupleKind->nG,Operator->nN,getItem->oZ,Keyword->o7,wpAny_isInstance->qp,DictEntry->qv,wpAny_rule->qK,codeAny->qN,wpAny_execs_nil->rh,letOwnedTupleGo->rj,atKey->rn,isSubtype_tuple_tuple->rD,wpAny_notOrdered_dict->rH,wpAny_isOneOf_valiter->rJ,rawInt->tf,wpAny_tupleItemsOf->vm,assignEach->vn,call_meets->vp,stored->vq,wpAny_assign_Name->xi,codeAny_mono->xj,callerA->xk,wpAny_eqBool_int->yT,assign->yU,pyNext->yV,getMethod->yY,noFill_tuple_add->y8,IsPart->y9,wpAny_field->AN,subscripted->AO,wpAny_specialOf->A3,Within->A4,size_of_entries->A7,wpAny_dictEpoch->Ba,intKind->Cs,BindsTo->Cu,wpAny_seqItems->CS,entryOfKey->CT,builtinsNs->CU,newFunctionEnv->CY,methodCallForm->CZ,seq_tuple_add->FR,call->FV,wpAny_standAt->FX,wpAny_comprehension_free->FY,eqIsQuiet->HC,bindL->HE,bindC->HF,seqIndex?->HG,wpAny_pyNext_list_item->HV,concat_meets->HW,wpAny_typeOf->HX,seqIndex_neg->HY,relabel->Ia,wpAny_pyNext_list_end->LN,wpAny_mkInt->L9,wpAny_loadName_local->Ma,CmpOp->Mb,bindArgs->Mc,seqIndex_of->Md,wpAny_updateDictKeys->Me,boot_len->Mg
open PySem.Around renaming in1_units->uf,under->AK,under_plainId->CI
open PySem.AutoSeq1 renaming sub_tuple_tuple->wX
open PySem.Calls renaming spliced_cons->jw,callWith_builtin->jS,spliced_nil->mU,evalArgs_plain->qu,Name_function_global->xh
open PySem.Code renaming isFrame->Ct
open PySem.Expr renaming Name->LR
open PySem.F renaming slot_dict_valueiterator_next->dh,slot_dict_get->eO,plainAttrs_dict->jk,entry_dict_get->jF,args_tuple_add_2->mK,entry_tuple_add->mY,plainAttrs_list->m7,slot_tuple_add->nO,plainAttrs_str->nP,slot_list_getattribute->oR,args_dict_valueiterator_next_1->pd,entry_dict_valueiterator_next->pN,slot_tuple_eq->qA,slot_dict_values_iter->ug,slot_dict_setdefault->uH,slot_dict_values->xm,slot_tuple_index->xn,args_dict_get_2->xP,args_dict_get_3->xQ,type_dict_get->AR,slot_dict_len->AU
open PySem.Heap renaming get?_push_of_some->aL,lt_size->aV,get?_push_size->bg,SameBut->gD,size_push->iM,get?_update_self->kJ,get?_update_other->Cv
open PySem.Heap.DictOf renaming new->Cy
open PySem.Heap.SameBut renaming update->fj
open PySem.NameKind renaming free->bV,cell->gy
open PySem.Obj renaming data_mapDictKeys->kY,mapSeq->tm,mapFields->Bb,isFreed_of_dict->HH,data_mapFields->Ib
open PySem.SeqAt renaming EqAt->rG,notIn_listAt->FU
open PySem.SeqAt.EqAt renaming same->kh,int_none->oV,str_none->oW,none_int->oX,none_str->oY,int_str->pI,str_int->pJ,int_int->pK,none_bool->xJ,bool_none->xK,bool_bool->xM,bool_int->za,bool_str->zb,int_bool->zc,str_bool->zd,str_str->AQ,of_refs->AS
open PySem.SeqAt.RcAt renaming lists_lengths->uY,lists->CH
open PySem.Str renaming ofString->cv
open PySem.Value renaming ref->bu,none->gw,int->lS,str->lT,bool->oQ,isInt->CQ,type->FP
open PySem.W renaming Frag->aM,emptyDict->dI,findIn->eL,instObj->fc,keepIn->jE,fnOf->kX,plainGet->mW,lookIn->pb,plainGet_of->qr,callWith_K0->qt,callWith_K->qO,mg_of->rB,methodObj->rE,hasDictIn->rF,takerIn->uG,codeIn->vo,isFn->yX,cellsFrom_some->yZ,methodCall_KW->AL,pyHash_slot->Cr,KeysLit->CC,plainOver->Ey,handedIn->FQ,makesIn->HD,OpenLaw->H8,keepIn->Ie
open PySem.Walks renaming list->F4
open Sum renaming inr->jC,inl->xG
open Sum.inl renaming inj->A1
open Sum.inr renaming inj->ue
open True renaming intro->eR
set_option linter.all false
set_option Elab.async false
set_option maxRecDepth 100000
set_option maxHeartbeats 4000000
set_option genSizeOf false
set_option genInjectivity false
set_option bootstrap.genMatcherCode false
set_option compiler.extract_closed false
noncomputable section
section
def zQ(x:Lean.Syntax):Lean.Syntax:=x.rewriteBottomUp fun
 |.node i k a=>if k==`Lean.Parser.Term.anonymousCtor then .node i `Lean.Parser.Tactic.rcasesPat.tuple (a.modify 1 fun b=>Lean.mkNullNode (b.getArgs.map fun c=>if c.isAtom then c else .node i `Lean.Parser.Tactic.rcasesPatLo #[.node i `Lean.Parser.Tactic.rcasesPatMed #[Lean.mkNullNode #[c]],Lean.mkNullNode]))
  else if k==`Lean.Parser.Term.hole then .node i `Lean.Parser.Tactic.rcasesPat.ignore a else .node i k a
 |x=>if x.isIdent then Lean.mkNode `Lean.Parser.Tactic.rcasesPat.one #[x] else x
def zR(x:Lean.Syntax)(t:String):Lean.Syntax:=((t.splitOn " ").foldl (fun s w=>match w.toList with
 |'.'::r=>Lean.mkAtom (String.ofList r)::s
 |'$'::r=>r.foldl (fun y c=>y[c.toNat-48]) x::s
 |'\''::r=>(Lean.mkIdent (String.ofList r).toName).raw::s
 |'%'::_=>s.modifyHead zQ
 |'S'::_=>s.modifyHead fun x=>Lean.mkNode `Lean.Parser.Tactic.tacticSeq #[Lean.mkNode `Lean.Parser.Tactic.tacticSeq1Indented #[x]]
 |'O'::_=>Lean.mkNode `Lean.Parser.Tactic.optConfig #[Lean.mkNullNode]::s
 |c::r=>let n:=c.toNat-48;Lean.mkNode (match r with
  |'N'::_=>`null
  |'T'::r=>`Lean.Parser.Tactic++(String.ofList r).toName
  |'E'::r=>`Lean.Parser.Term++(String.ofList r).toName
  |'P'::r=>`Lean.Parser++(String.ofList r).toName
  |r=>`Lean.Parser.Command++(String.ofList r).toName) (s.take n).reverse.toArray::s.drop n
 |_=>s) []).headD .missing
def zT:List (String×String):=("term#[_,]¦a
term∅¦. . O 2Tomega 1N S 2EbyTactic
Term.omission¦. . O 2Tdecide 1N S 2EbyTactic
Term.paren¦?
Term.parenTerm.cdotmissing00false¦. . O 0N 0N 0N 0N 6Tsimp .; . O 2Tomega 3N S 2EbyTactic
term~~~_¦. . 0N 0N O 0N 0N 0N .using $1 2N 5TsimpaArgsRest 4Tsimpa 1N S 2EbyTactic
Term.explicit¦?
Term.explicitnummissing00true¦. 'var 2EdotIdent $1 1N 2Eapp
coeNotation¦?
coeNotationnummissing00true¦. 'lit 2EdotIdent . 'int 2EdotIdent $1 1N 2Eapp 1N 2Eapp
coeNotationterm[_]missing00true¦. 'lit 2EdotIdent . 'str 2EdotIdent $1 1N 2Eapp 1N 2Eapp
Tactic.tacticErw___¦?
Tactic.tacticErw___Tactic.optConfig[00true¦. $2101 2Texact
Tactic.tacticRwa__¦?
Tactic.tacticRwa__Tactic.rwRuleSeqmissing00true¦. $1101 2Trefine
Tactic.dsimp¦?
Tactic.dsimpTactic.optConfigmissing30true¦$0 $1 $2 .only 1N $4 $5 6Tsimp
Tactic.tacticLet__¦?
Tactic.tacticLet__Term.letConfigTerm.letPatDecl00true¦. $200 % 1N 1TrcasesPatMed 1N 0N . $204 1N 2N 4Tobtain
Command.declaration¦?
Command.declarationCommand.definitionmissing00true¦$0 $10 $11 $120 $1210 2declSig $13 4theorem 2declaration
Command.declarationCommand.abbrevmissing00true¦0N 0N 0N 0N . 1noncomputable 1N 0N 0N 7declModifiers $10 $11 $12 $13 0N 5definition 2declaration
Vector.term#v[_,]¦v
v¦. . O 0N 0N 0N 0N 6Tsimp 1N S 2EbyTactic
term%[_|_]¦r
r¦. . O . $1 . 3TrwRuleSeq 0N 4TrwSeq .; . $3 2Texact 3N S 2EbyTactic
PySem.W.X.tacticZ_go¦. 'pZ 's 'σ 'H 'x 'y 'v 'u 'Q 'I 'rx 'ry 'h =N 2Tintro
PySem.W.X.tacticX_go¦. . 'env ., 'ρ ., 'S ., ._ 1Ehole ., 'he ., 'R ., 'w ., . 'u 'S1 'v 'H1 'ρ1 'w1 'st1 'R1 'r1 9N 0N . .? ._ 2EsyntheticHole 4EbasicFun 2Efun ?N . 3EanonymousCtor 2Trefine
PySem.W.tacticKd_p¦. . 'σ 'H 'Q 'zz 4N 2Tintro .; . . 'env ., 'ρ ., 'S ., 'QU ., 'he ., 'R ., 'w ., 'q ?N . 3EanonymousCtor % 1N 1TrcasesPatMed 1N 0N . 'zz 1N 2N 4Tobtain 3N S . 3Tparen
PySem.W.tacticW_up¦. 'pZ 's 'σ 'H 'Q 'I 'h 7N 2Tintro
PySem.W.tacticK_ne¦. 'pZ 's 'σ 'H 'xs 'us 'Q 'I 'r 'h :N 2Tintro
PySem.W.tacticK_go¦. 'X 'hP 'hw 'hK 'hc 'i 'pZ 's 'σ 'H 'E 'I 'hf 'st 'hg ?N 2Tintro
PyProof.Rows.tacticWalk_at_¦w
PyProof.Rows.tacticRoom¦w
w0¦Jt abX acV abY Z8 Z9 w_var w_lit abK abL w_not w_and w_or abM abN ZX w_mk ZY abO abP w_fld acO acP abQ abR ZZ abT Z4 acT acU Jr abU Z5 abV Z6 Z7 abW Ri DN Rj ZC Rk ZD Yy ZE VT Pj abm abn VU abo VW abp acE acF acG acH Nr Nt Rr Rt Ru ZH Nu ZI Rv VX VY ZJ acI acJ acK acL acM abk abl V0 E1 abq abr zE Pk abt abu abv abw abx aby abz Yz ZK YA abA abB ER BD ym tG ye EZ ZR ZT YC V1 V2 V3 ZU v_t v_l bind_f ZV ZF acD ZG true_and aT yj ay b8 Jg Ng Yu Nh List.getElem?_cons_zero List.getElem?_cons_succ List.map_cons List.map_nil List.replicate_zero List.replicate_succ List.cons_append List.nil_append List.append_nil List.set_cons_zero List.set_cons_succ nk Option.join_some
wpl¦ abG ZW abH abI abJ jt YJ aca Wu
wpf¦ oa Js abZ Pm E2 ab0 jt YJ aca Wu
wpk¦ oa Js abZ Pm E2 ab0 aaa ab2 ZL ace DJ u7 YK SM aaV ZM abC YB ZN getD_some jq abS acQ acR Z3 acS ZS abE ab1 aab aac abD ZP ZO ZQ Int.toNat_natCast Bool.false_eq_true if_false if_true Bool.not_true Bool.not_false
w1¦. O 0N .only 1N .[ $0 .] 3N 0N 6Tsimp
w2¦. . . 'Rest.go .? ._ 2EsyntheticHole 1N 2Eapp 2Trefine 1N S 2TtacticTry_ .; $0 .; . . 'Rest.go .? ._ 2EsyntheticHole 1N 2Eapp 2Trefine .; $0 3N S 2TtacticRepeat_ 5N S . 3Tparen".splitOn "\n").map fun l=>match l.splitOn "¦" with|[a,b]=>(a,b)|_=>("","")
def zW(t:String):Lean.Syntax:=Lean.mkNullNode #[Lean.mkNullNode ((t.splitOn " ").toArray.flatMap fun n=>#[zR .missing ("0N 0N '"++n++" 3TsimpLemma"),Lean.mkAtom ","])]
def zF(x:Lean.Syntax):Lean.Syntax:=let x:=x.setInfo .none;match x with
 |.node _ k _=>let f(s:String):=(zT.lookup (s.replace "Lean.Parser." "")).getD "";let s:=k.toString false;match f s with
  |""=>x
  |"?"=>match f (s++x[1].getKind.toString false++x[2][0].getKind.toString false++toString x[4].getNumArgs++toString x[3].getNumArgs++toString (x[0].getArgs.all (·.getNumArgs==0))) with
   |""=>x
   |t=>zR x t
  |"a"=>if x[1].getNumArgs==0 then x else x.setKind `Lean.Parser.Term.anonymousCtor
  |"v"=>if x[1].getNumArgs==0 then zR x (f "v") else x[1].getSepArgs.foldr (fun a r=>zR (Lean.mkNullNode #[a,r]) ". 'cons 2EdotIdent $0 $1 2N 2Eapp") (zR x ". 'nil 2EdotIdent")
  |"r"=>zR (x.setArg 1 (Lean.mkNullNode (x[1].getArgs.map fun a=>if a.isAtom then a else zR a "0N $ 2TrwRule"))) (f "r")
  |"w"=>let s:=x[1].isStrLit?.getD "pk";let w:=zR (zW (f "w0"++f ("w"++s))) (f "w1");if s=="pl" then w else zR (Lean.mkNullNode #[w]) (f "w2")
  |t=>zR x t
 |x=>x
def zM(x:Lean.Syntax)(f:Lean.Syntax->Lean.Syntax):Lean.MacroM Lean.Syntax:=let y:=x.rewriteBottomUp f;if y==x then Lean.Macro.throwUnsupported else pure y
local macro_rules(kind:=Lean.Parser.Command.declaration)|x=>zM x zF
local macro_rules(kind:=Lean.Parser.Command.mutual)|x=>zM x fun x=>if x.isOfKind `Lean.Parser.Command.declaration then x else zF x
namespace Lake
namespace L2
open PySem PySem.Spec PyProof.Rows
@[reducible]def Key:=Sum Int (Option Str)
abbrev xT:Key->Value->Bool
 |.inl k,v=>CQ k v
 |.inr (ξ x),v=>Value.isStrOf x v
 |.inr ψ,v=>v==gw
abbrev YR(w:cG):Key->Int
 |.inl k=>hashInt k
 |.inr (ξ x)=>hashStr w x
 |.inr ψ=>reduceHash 0xFCA86420
def fX:∀{k:Key}{v:Value},xT k v=ζ->(∃i t,k=xG i/\v=lS i t)\/(∃x t,k=jC (ξ x)/\v=lT x t)\/(k=jC ψ/\v=gw)
 |.inl i,v,h=>by
  let#[t,e]:=Value.isInt_shape (k:=i) (v:=v) h;erw[.inl #[i,t,rfl,e]]
 |.inr (ξ x),v,h=>by
  let#[t,e]:=Value.isStrOf_shape (x:=x) (v:=v) h;erw[.inr (.inl #[x,t,rfl,e])]
 |.inr ψ,v,h=>.inr (.inr #[rfl,eq_of_beq h])
def F7(i:Int)(t:Tok):xT (.inl i) (.int i t)=ζ:=by simp[xT,CQ]
def F8(x:Str)(t:Tok):xT (.inr (ξ x)) (.str x t)=ζ:=by simp[xT,Value.isStrOf]
def Il{α:Type}[DecidableEq α]{β:Type}[DecidableEq β](f:α->β)(hf:∀a b,f a=f b->a=b)(a b:α):decide (f a=f b)=decide (a=b):=decide_eq_decide.mpr #[hf a b,λe=>e▸rfl]
def F9(h:Q (reduceHash 0xFCA86420) {s with toks:=s.toks+1}):wpAny (bf prog w) A (pyHash .none) Q E s:=by
 unfold pyHash;erw[Cr (T:="NoneType") rfl F.slot_NoneType_hash F.entry_NoneType_hash (F.args_NoneType_hash_1 _) (beq_builtin_none _) (.inl rfl) (af (aB (af (L9 (aB #[_,_,rfl,h])))))]
abbrev dv(prog:bQ)(w:cG):PySem.KeyKind prog w Key where
 is:=xT
 hash:=YR w
 inj:=λv a b ha hb=>by
  rcases fX ha with⟨i,t,rfl,rfl⟩|⟨x,t,rfl,rfl⟩|⟨rfl,rfl⟩<;>rcases fX hb with⟨j,u,rfl,e⟩|⟨y,u,rfl,e⟩|⟨rfl,e⟩<;>cases e<;>rfl
 byValue:=λk v h=>by
  rcases fX h with⟨i,t,rfl,rfl⟩|⟨x,t,rfl,rfl⟩|⟨rfl,rfl⟩<;>rfl
 pyHash:=λhv h=>by
  rcases fX hv with⟨i,t,rfl,rfl⟩|⟨x,t,rfl,rfl⟩|⟨rfl,rfl⟩
  .erw[wpAny_pyHash_int h]
  .erw[wpAny_pyHash_str h]
  .erw[F9 h]
 eqBool:=λhu hv h=>by
  rcases fX hu with⟨i,t,rfl,rfl⟩|⟨x,t,rfl,rfl⟩|⟨rfl,rfl⟩<;>rcases fX hv with⟨j,u,rfl,rfl⟩|⟨y,u,rfl,rfl⟩|⟨rfl,rfl⟩
  .rw[Il xG (λ_ _ e=>A1 e)] at h;erw[yT (by rw[show(i==j)=decide (i=j) from rfl];exact h)]
  .erw[pI i t y u _ _ _ _ h]
  .erw[oV i t _ _ _ _ h]
  .erw[pJ x t j u _ _ _ _ h]
  .rw[Il (λz=>jC (ξ z)) (λ_ _ e=>aG (ue e))] at h;erw[wpAny_eqBool_str h]
  .erw[oW x t _ _ _ _ h]
  .erw[oX j u _ _ _ _ h]
  .erw[oY y u _ _ _ _ h]
  .erw[kh _ _ _ _ _ h]
 «strs»:=λk x t v h=>by
  rcases fX h with⟨i,u,rfl,e⟩|⟨y,u,rfl,e⟩|⟨rfl,e⟩
  .erw[nomatch e]
  .cases e
   cases v<;>rfl
  .erw[nomatch e]
section
variable{prog:bQ}{w:cG}
@[reducible]def tu:=Int×List Int
abbrev IsPair(prog:bQ)(w:cG)(h:Heap)(k:tu)(a:Addr):Prop:=∃t c n o,h.get? a=ξ o/\o.cls=.type "tuple"/\o.data=.seq (List.toArray [.int k.1 t,.ref c]) n/\IsTupleKey (Cs prog w) h k.2 c
abbrev vw(prog:bQ)(w:cG)(k:tu):Int:=reduceHash (Builtin.Tuple.tupleHashOf [hashInt k.1,tupleKeyHash (Cs prog w) k.2])
variable{A:eD}{E:Value->aE->Prop}{s:aE}
def Be(hu:A.units+1<fH)(hk:IsPair prog w s.heap k a)(h:Q (vw prog w k) {s with toks:=s.toks+(k.2.length+3)}):
  wpAny (bf prog w) A (pyHash (.ref a)) Q E s:=by
 let#[t,c,n,o,ho,hc,hd,hi]:=hk;have hT:s.TypeIs (.ref a) "tuple":=#[o,ho,hc]
 unfold pyHash;rwa[Cr (T:="tuple") hT F.slot_tuple_hash F.entry_tuple_hash (F.args_tuple_hash_1 _) (beq_builtin_none _) (.inr ∅) ?_];show wpAny _ _ (Builtin.Tuple.tupleItemsOf (.ref a)>>=_) _ _ s;rwa[af (vm ho hd ?_)];rwa[af ?_];rw[<-rC]
 dsimp[o9,xH];rwa[af (af (wpAny_pyHash_int ?_))];refine aB (af (af (wpAny_pyHash_tuple (s:={s with toks:=s.toks+1}) (by dsimp[uf];omega) hi (aB (aB ?_)))));rwa[af (L9 (aB #[_,_,rfl,?_]))];have e:s.toks+1+(k.2.length+1)+1=s.toks+(k.2.length+3):=∅
 have h:Q _ _:=h;rw[<-e] at h;simpa[vw] using h
def IsPair.inj{h:Heap}{a:Addr}{x y:tu}(hx:IsPair prog w h x a)(hy:IsPair prog w h y a):x=y:=by
 let#[t,c,n,o,ho,hc,hd,hi]:=hx;let#[t',c',n',o',ho',hc',hd',hi']:=hy;obtain rfl:o=o':=aG (ho.symm.trans ho');rw[hd] at hd';injection hd' with h1 _
 injection h1 with h1
 injection h1 with h1 h2
 injection h1 with h1 _
 injection h2 with h2 _
 injection h2 with h2
 subst h2;erw[Ew h1 (hi.inj hi')]
def Bf(hu:A.units+1<fH)(hx:IsPair prog w s.heap x a)(hy:IsPair prog w s.heap y b)(h:Q (decide (x=y)) s):
  wpAny (bf prog w) A (eqBool (.ref a) (.ref b)) Q E s:=by
 unfold eqBool;rwa[fY ?_];show wpAny _ _ (if (bu a==bu b)=ζ then _ else _) Q E s;by_cases hab:(bu a==bu b)=ζ
 .rw[if_pos hab]
  have e:a=b:=by have:=eq_of_beq hab;injection this
  subst e;obtain rfl:=hx.inj hy;exact af (qK (aB (~~~h)))
 .rw[if_neg hab]
  let#[t,c,n,o,ho,hc,hd,hi]:=hx;let#[t',c',n',o',ho',hc',hd',hi']:=hy;have hT:s.TypeIs (.ref a) "tuple":=#[o,ho,hc]
  have hT':s.TypeIs (.ref b) "tuple":=#[o',ho',hc']
  refine af (wpAny_richCompare_same_room (op:=.Eq) hT hT' qA
   (jv qA hT F.entry_tuple_eq ?_ (F.args_tuple_eq_2 _ _)) ∅)
  show wpAny _ _ (isInstance (.ref b) (.type "tuple")>>=_) _ _ s
  rwa[af (qp hT' rD ?_)];dsimp[bG,av,if_false];rwa[af (vm ho hd ?_)];rwa[af (vm ho' hd' ?_)];rwa[af ?_];dsimp[List.zip_cons_cons,List.zip_nil_right,o9,xH];rwa[af (af (yT ?_))];let#[x1,x2]:=x;let#[y1,y2]:=y;by_cases e1:x1=y1
  .subst e1
   dsimp[BEq.rfl,bG,av,if_false];rwa[aB (af (af (wpAny_eqBool_tuple (by dsimp[uf];omega) hi hi' ?_)))];by_cases e2:x2=y2
   .subst e2
    dsimp[decide_true,bG,av,if_false] at h ⊢;erw[aB (aB (aB #[_,rfl,(λz=>nomatch z),dA h]))]
   .have e3:decide ((x1,x2)=(x1,y2))=ϑ:=decide_eq_false λz=>e2 (A2 z).2
    rw[e3] at h;dsimp[decide_eq_false e2,bU,if_true];erw[af (aB (aB (aB (aB #[_,rfl,(λz=>nomatch z),dA h]))))]
  .have e3:decide ((x1,x2)=(y1,y2))=ϑ:=decide_eq_false λz=>e1 (A2 z).1
   rw[e3] at h;have e4:(x1==y1)=ϑ:=beq_eq_false_iff_ne.mpr e1;dsimp[e4,bU,if_true];erw[af (aB (aB (aB (aB #[_,rfl,(λz=>nomatch z),dA h]))))]
def C3(hk:IsTupleKey (Cs prog w) s.heap ks a)(h:Q ζ s):wpAny (bf prog w) A (HC (n+1) (.ref a)) Q E s:=by
 have hT:=hk.typeIs;let#[o,items,m,ho,_,hd,hi]:=hk;unfold HC;rwa[af (A3 hT qA.lookup (af (qp hT rD ?_)))];dsimp[bG,av,if_false];rwa[af (CS ho hd (af ?_))];rw[<-rC]
 rwa[wpAny_forIn_list _ (λl r s'=>r.1=ψ/\s'=s/\∀v∈l,carriedByValue v=ζ) _ ?_ ?_ _ _ #[rfl,rfl,hi.byValue]]
 .rintro v l r s' ⟨hr,rfl,z⟩
  rw[eqIsQuiet_byValue _ (z v aO)]
  erw[af (aB (aB #[rfl,rfl,λu hu=>z u (az _ hu)]))]
 .rintro⟨r1,r2⟩ s' ⟨hr,rfl,_⟩
  cases hr;erw[aB h]
def C4(hk:IsPair prog w s.heap k a)(h:Q ζ s):wpAny (bf prog w) A (HC 8 (.ref a)) Q E s:=by
 let#[t,c,n,o,ho,hc,hd,hi]:=hk;have hT:s.TypeIs (.ref a) "tuple":=#[o,ho,hc]
 unfold HC;rwa[af (A3 hT qA.lookup ?_)];show wpAny _ _ (isInstance (.ref a) (.type "tuple")>>=_) _ _ s;rwa[af (qp hT rD ?_)];dsimp[bG,av,if_false];rwa[af (CS ho hd ?_)];rwa[af ?_];show wpAny _ _ (forIn (List.toArray [lS k.1 t,.ref c]) _ _) _ _ s;rw[<-rC]
 dsimp[o9,xH];rw[eqIsQuiet_byValue 7 (v:=.int k.1 t) rfl]
 erw[af (af (aB (aB (af (af (C3 hi (aB (aB (aB h)))))))))]
def IsPair.keeps{es ep}(x:IsPair prog w h k a)(ho:h.get? d=ξ o)(hd:o.data=.dict es ep)(hs:gD d h h'):IsPair prog w h' k a:=by
 let#[t,c,n,o',ho',hc,hd',hi]:=x;refine#[t,c,n,o',(hs.2 a ?_).trans ho',hc,hd',hi.keeps ho hd hs];rintro rfl;obtain rfl:o'=o:=aG (ho'.symm.trans ho);rw[hd] at hd';erw[nomatch hd']
abbrev rK(prog:bQ)(w:cG):HeapKind prog w tu where
 is:=IsPair prog w
 hash:=vw prog w
 draws:=λk=>k.2.length+3
 room:=λA=>A.units+1<fH
 inj:=λhx hy=>hx.inj hy
 keeps:=λx ho hd hs=>x.keeps ho hd hs
 pyHash:=λhu hk h=>Be hu hk h
 eqBool:=λhu hx hy h=>Bf hu hx hy h
 quiet:=λhk h=>C4 hk h
end
def Bg(prog:bQ)(w:cG)(i:Int)(t:Tok):(dv prog w).is (.inl i) (.int i t)=ζ:=F7 i t
def Bh(prog:bQ)(w:cG)(x:Str)(t:Tok):(dv prog w).is (.inr (ξ x)) (.str x t)=ζ:=F8 x t
set_option genInjectivity true in
inductive V where
 |b7|bl (b:Bool)|int (i:Int)|str (x:Str)|CK (b:Array UInt8)|Yk (b:UInt64)|ref (a:Addr)|ty (n:String)
 deriving DecidableEq
abbrev RelV:V->Value->Prop
 |.b7,u=>u=gw
 |.bl b,u=>u=oQ b
 |.int i,u=>∃t,u=lS i t
 |.str x,u=>∃t,u=lT x t
 |.CK b,u=>∃t,u=Value.bytes b t
 |.Yk b,u=>∃t,u=Value.float b t
 |.ref a,u=>u=bu a
 |.ty n,u=>u=FP n
@[reducible]def Vals:List V->List Value->Prop:=Paired RelV
def Vals.length{xs:List V}{us:List Value}(r:Vals xs us):xs.length=us.length:=Paired.length r
def Vals.get:∀{xs:List V}{us:List Value}{i:Nat}{x:V},Vals xs us->xs[i]?=ξ x->∃u,us[i]?=ξ u/\RelV x u
 |_,_,_,_,.nil,e=>by simp at e
 |_,_,0,_,.cons r _,e=>by simp at e;subst e;exact#[_,rfl,r]
 |_,_,i+1,x,.cons _ t,e=>by
  let#[u,h1,h2]:=Vals.get (i:=i) (x:=x) t (~~~e);exact#[u,~~~h1,h2]
def Vals.set(r:RelV x u):∀{xs:List V}{us:List Value}(i:Nat),Vals xs us->Vals (xs.set i x) (us.set i u)
 |_,_,_,.nil=>.nil
 |_,_,0,.cons _ t=>.cons r t
 |_,_,i+1,.cons q t=>.cons q (Vals.set r i t)
def Vals.append:∀{xs ys:List V}{us ws:List Value},Vals xs us->Vals ys ws->Vals (xs++ys) (us++ws)
 |_,_,_,_,.nil,s=>s
 |_,_,_,_,.cons r t,s=>.cons r (Vals.append t s)
def Vals.take:∀{xs:List V}{us:List Value}(n:Nat),Vals xs us->Vals (xs.take n) (us.take n)
 |_,_,0,_=>.nil
 |_,_,_+1,.nil=>.nil
 |_,_,n+1,.cons r t=>.cons r (Vals.take n t)
def Vals.drop:∀{xs:List V}{us:List Value}(n:Nat),Vals xs us->Vals (xs.drop n) (us.drop n)
 |_,_,0,r=>r
 |_,_,_+1,.nil=>.nil
 |_,_,n+1,.cons _ t=>Vals.drop n t
abbrev nU:Option V->Option Value->Prop
 |some v,ξ u=>RelV v u
 |none,ψ=>True
 |_,_=>False
abbrev KV{κ:Type}:List (κ×V)->List (κ×Value)->Prop:=Paired λ(p:κ×V)(q:κ×Value)=>p.1=q.1/\RelV p.2 q.2
abbrev kV:Key->V
 |.inl i=>.int i
 |.inr (ξ x)=>.str x
 |.inr ψ=>.b7
inductive HO where
 |lst (xs:List V)
 |tup (xs:List V)
 |dK (kvs:List (Key×V))|dT (kvs:List (List Key×V))|dP (kvs:List (tu×V))
 |set (S:Int->Bool) (n:Nat)
 |ins (C dx:Addr) (fs:List (Str×V))
 |own (x:Addr)
 |xd (fs:List (Str×V))
 |met (f x:Addr)
 |YS (lo hi:Int)
 |sZ (o:Obj) (u:HO)
 |P5 (ps:Array Value)
 |ext (φ:Heap->Prop)
@[reducible]def Hp:=Addr->Option HO
abbrev upd(H:Hp)(a:Addr)(o:HO):Hp:=λb=>if b=a then ξ o else H b
def b9:upd H a o a=ξ o:=by unfold upd;rw[if_pos rfl]
def cw(h:b≠a):upd H a o b=H b:=by unfold upd;rw[if_neg h]
def UR{H:Hp}{a b:Addr}{o u:HO}(h:H a=ξ o)(h':H b=ξ u)(d:o≠u):a≠b:=by
 intro e;subst e;rw[h] at h';erw[d (aG h')]
def dO{H:Hp}{a b:Addr}{o:HO}(h:H a=ξ o)(h':H b=ψ):a≠b:=by
 intro e;subst e;rw[h] at h';cases h'
section
variable(P:bQ)(w:cG)
abbrev zh(h:Heap)(a:Addr)(items:Array Value):Prop:=∃o,h.get? a=ξ o/\o.cls=.type "tuple"/\(∃n,o.data=.seq items n)/\o.dict=ψ
def zh.tup{h:Heap}{a:Addr}{items:Array Value}(x:zh h a items):IsTup h a items:=by
 let#[o,h1,h2,h3,_]:=x;exact#[o,h1,h2,h3]
def zh.new(h:Heap)(items:Array Value):zh (h.push {cls:=.type "tuple",data:=.seq items}) h.objs.size items:=#[_,bg _ rfl,rfl,#[_,rfl],rfl]
abbrev dZ(H:Hp)(h:Heap)(a:Addr):HO->Prop
 |.lst xs=>xs.length<=sizeLine/\∃(its:List Value)(n:Nat),Vals xs its/\h.get? a=ξ {cls:=.type "list",data:=.seq its.toArray n}
 |.tup xs=>xs.length<=sizeLine/\∃its:List Value,Vals xs its/\zh h a its.toArray
 |.dK kvs=>kvs.length<=sizeLine/\(a==cu)=ϑ/\∃vs,KV kvs vs/\h.DictOf (dv P w) a vs
 |.dT kvs=>kvs.length<=sizeLine/\(a==cu)=ϑ/\∃xs:List (List Key×Addr×Value),
   Paired (λ(p:List Key×V)(q:List Key×Addr×Value)=>p.1=q.1/\H q.2.1=ξ (.tup (p.1.map kV))/\RelV p.2 q.2.2) kvs xs /\
   ∃o es ep,h.get? a=ξ o/\o.ExactDict/\o.data=.dict es ep/\es.toList=xs.map (CT (nG (dv P w)))/\(xs.map (·.1)).Nodup
 |.dP kvs=>kvs.length<=sizeLine/\(a==cu)=ϑ/\∃xs:List (tu×Addr×Value),
   Paired (λ(p:tu×V)(q:tu×Addr×Value)=>p.1=q.1/\(∃c,H q.2.1=ξ (.tup [.int p.1.1,.ref c])/\H c=ξ (.tup (p.1.2.map .int)))/\RelV p.2 q.2.2) kvs xs /\
   ∃o es ep,h.get? a=ξ o/\o.ExactDict/\o.data=.dict es ep/\es.toList=xs.map (CT (rK P w))/\(xs.map (·.1)).Nodup
 |.set S n=>h.SetOf (Cs P w) a S n
 |.ins C dx fs=>H dx=ξ (.own a)/\fs.length<=1000/\dx≠a/\h.get? a=ξ (fc C dx) /\
   ∃mA,h.Ns1 dx mA/\(∀f,nU (fs.lookup f) (mA f))/\A4 mA (fs.map (·.1))
 |.own _=>∃o,h.get? a=ξ o
 |.xd fs=>∃mA,h.Ns1 a mA/\∀f,nU (fs.lookup f) (mA f)
 |.YS lo hi=>∃t u v,h.get? a=ξ {cls:=.type "range",data:=.fields (List.toArray [.int lo t,.int hi u,.int 1 v])}
 |.sZ o u=>h.get? a=ξ o/\dZ H h a u
 |.P5 ps=>h.get? a=ξ {cls:=.none,data:=.fields ps}
 |.met f x=>h.get? a=ξ (rE (.ref f) (.ref x))
 |.ext φ=>φ h/\(∃o,h.get? a=ξ o)/\∀h1 h2:Heap,φ h1->(∀o,h1.get? a=ξ o->h2.get? a=ξ o)->φ h2
abbrev qw(H:Hp)(h:Heap):Prop:=∀a o,H a=ξ o->dZ P w H h a o
end
section
variable{P:bQ}{w:cG}{H H':Hp}{h h':Heap}{a:Addr}{o:HO}
def dZ.lt(x:dZ P w H h a o):a<h.objs.size:=by
 cases o with
 |lst xs=>let#[_,_,_,_,e]:=x;erw[aV e]
 |tup xs=>let#[_,_,_,p]:=x;erw[p.tup.lt]
 |dK kvs=>let#[_,_,_,_,o,_,_,e,_]:=x;erw[aV e]
 |dT kvs=>let#[_,_,_,_,o,_,_,e,_]:=x;erw[aV e]
 |dP kvs=>let#[_,_,_,_,o,_,_,e,_]:=x;erw[aV e]
 |set S n=>let#[o,_,_,_,e,_]:=x;erw[aV e]
 |ins C dx fs=>let#[_,_,_,e,_]:=x;erw[aV e]
 |own y=>let#[_,e]:=x;erw[aV e]
 |xd fs=>let#[_,#[_,_,_,e,_],_]:=x;erw[aV e]
 |YS lo hi=>let#[_,_,_,e]:=x;erw[aV e]
 |sZ ob u=>let#[e,_]:=x;erw[aV e]
 |P5 ps=>erw[aV (show h.get? a=ξ _ from x)]
 |met f y=>erw[aV (show h.get? a=ξ _ from x)]
 |ext φ=>let#[_,#[_,e],_]:=x;erw[aV e]
def Paired.Ga{α β:Type}{F G:α->β->Prop}:∀{l₁:List α}{l₂:List β},Paired F l₁ l₂->(∀a b,F a b->G a b)->Paired G l₁ l₂
 |_,_,.nil,_=>.nil
 |_,_,.cons r t,f=>.cons (f _ _ r) (Paired.Ga t f)
def dZ.C5(x:dZ P w H h a o)(k:∀b u,(b=a\/H b=ξ (.own a))->h.get? b=ξ u->h'.get? b=ξ u)
  (ho:∀b,H b=ξ (.own a)->H' b=ξ (.own a)) (ht:∀b xs,H b=ξ (.tup xs)->H' b=ξ (.tup xs)):dZ P w H' h' a o:=by
 induction o with
 |lst xs=>let#[z,its,n,r,e]:=x;exact#[z,its,n,r,k _ _ (.inl rfl) e]
 |tup xs=>let#[z,its,r,ob,e,c]:=x;exact#[z,its,r,ob,k _ _ (.inl rfl) e,c]
 |dK kvs=>let#[z,y,vs,r,ob,es,ep,e,c]:=x;exact#[z,y,vs,r,ob,es,ep,k _ _ (.inl rfl) e,c]
 |dT kvs=>
  let#[z,y,xs,r,ob,es,ep,e,c]:=x;exact#[z,y,xs,Paired.Ga r λp q z=>#[z.1,ht _ _ z.2.1,z.2.2],ob,es,ep,k _ _ (.inl rfl) e,c]
 |dP kvs=>
  let#[z,y,xs,r,ob,es,ep,e,c]:=x;exact#[z,y,xs,Paired.Ga r λp q z=>#[z.1,let ⟨c,e1,e2⟩:=z.2.1;#[c,ht _ _ e1,ht _ _ e2],z.2.2],ob,es,ep,k _ _ (.inl rfl) e,c]
 |set S n=>let#[ob,es,ep,t,e,c]:=x;exact#[ob,es,ep,t,k _ _ (.inl rfl) e,c]
 |ins C dx fs=>
  let#[d,z,ne,e,mA,#[od,es,ep,e2,c],r]:=x;exact#[ho _ d,z,ne,k _ _ (.inl rfl) e,mA,#[od,es,ep,k _ _ (.inr d) e2,c],r]
 |own y=>let#[ob,e]:=x;exact#[ob,k _ _ (.inl rfl) e]
 |xd fs=>let#[mA,#[od,es,ep,e,c],r]:=x;exact#[mA,#[od,es,ep,k _ _ (.inl rfl) e,c],r]
 |YS lo hi=>let#[t,u,v,e]:=x;exact#[t,u,v,k _ _ (.inl rfl) e]
 |sZ ob u ih=>let#[e,q]:=x;exact#[k _ _ (.inl rfl) e,ih q]
 |P5 ps=>
  have e:h.get? a=ξ {cls:=.none,data:=.fields ps}:=x;show h'.get? a=ξ {cls:=.none,data:=.fields ps};erw[k a _ (.inl rfl) e]
 |met f y=>
  have e:h.get? a=ξ (rE (.ref f) (.ref y)):=x;show h'.get? a=ξ (rE (.ref f) (.ref y));erw[k a _ (.inl rfl) e]
 |ext φ=>let#[p,#[o,e],st]:=x;exact#[st _ _ p λo q=>k _ _ (.inl rfl) q,#[o,k _ _ (.inl rfl) e],st]
def qw.lt(x:qw P w H h)(e:H a=ξ o):a<h.objs.size:=(x a o e).lt
def qw.fresh(x:qw P w H h)(e:h.objs.size<=a):H a=ψ:=by
 cases q:H a with
 |none=>rfl
 |some u=>erw[absurd (aD (x.lt q) e) (cC _)]
def qw.kept(x:qw P w H h)(k:∀b u,h.get? b=ξ u->h'.get? b=ξ u):qw P w H h':=λa o e=>
 (x a o e).C5 (λb u _ q=>k b u q) (λ_ q=>q) λ_ _ q=>q
def qw.laid(x:qw P w H h)(k:∀b u,h.get? b=ξ u->h'.get? b=ξ u)(hp:h.objs.size<=a)(new:dZ P w (upd H a o) h' a o):qw P w (upd H a o) h':=λb u e=>by
 have hn:=x.fresh hp;by_cases hb:b=a
 .subst hb;rw[b9] at e;cases e;erw[new]
 .rw[cw hb] at e
  exact(x b u e).C5 (λc v _ q=>k c v q) (λc q=>%[cw (dO q hn)|q]) λc xs q=>%[cw (dO q hn)|q]
end
abbrev Rd(H:Hp)(a:Addr)(u:HO):Prop:=H a=ξ u\/∃o,H a=ξ (.sZ o u)
def Rd.ok{P:bQ}{w:cG}{H:Hp}{h:Heap}{a:Addr}{u:HO}(r:Rd H a u)(x:qw P w H h):dZ P w H h a u:=by
 rcases r with r|⟨o,r⟩
 .erw[x a u r]
 .let#[_,q]:=x a _ r
  erw[q]
abbrev Uu:Option HO->Prop
 |some (.lst _)=>True
 |some (.dK _)=>True
 |some (.dT _)=>True
 |some (.dP _)=>True
 |some (.set _ _)=>True
 |some (.ins _ _ _)=>True
 |some (.ext _)=>True
 |_=>False
section
variable{P:bQ}{w:cG}{H:Hp}{h h':Heap}{x e:Addr}{o':HO}
def qw.write(ok:qw P w H h)(mu:Uu (H x))(he:e=x\/H e=ξ (.own x))(k:∀b u,b≠e->h.get? b=ξ u->h'.get? b=ξ u)(heo:∃u,h'.get? e=ξ u)
  (new:dZ P w (upd H x o') h' x o'):qw P w (upd H x o') h':=λb u q=>by
 have nown:∀c y,H c=ξ (.own y)->c≠x:=λc y r z=>by subst z;rw[r] at mu;erw[mu]
 have ntup:∀c xs,H c=ξ (.tup xs)->c≠x:=λc xs r z=>by subst z;rw[r] at mu;erw[mu]
 by_cases hb:b=x
 .subst hb;rw[b9] at q;cases q;erw[new]
 .rw[cw hb] at q
  by_cases hbe:b=e
  .have q':H b=ξ (.own x):=by
    rcases he with z|z
    .erw[absurd (hbe.trans z) hb]
    .rw[hbe];erw[z]
   rw[q] at q';cases q';let#[v,hv]:=heo;exact#[v,%[hbe|hv]]
  .refine(ok b u q).C5 (λc v hc r=>k c v ?_ r) (λc r=>%[cw (nown c b r)|r]) λc xs r=>%[cw (ntup c xs r)|r]
   rcases hc with rfl|hc
   .erw[hbe]
   .rintro rfl
    rcases he with z|z
    .erw[nown c b hc z]
    .rw[hc] at z;cases z;erw[hb rfl]
end
structure Un(fs ex:List Addr)(H H':Hp)(h h':Heap):Prop where
 keep:∀b o,h.get? b=ξ o->H b=ψ->b∉fs->b∉ex->h'.get? b=ξ o
 slot:∀b o,h.get? b=ξ o->H b=ψ->b∈fs->b∉ex->∃sl,h'.get? b=ξ {o with slots:=sl}
 free:∀b o,h.get? b=ξ o->H b=ψ->b∉ex->H' b=ψ
 there:∀b o,h.get? b=ξ o->b∉ex->∃o',h'.get? b=ξ o'
 Bj:∀b xs,H b=ξ (.tup xs)->H' b=ξ (.tup xs)
 zi:∀b o u,H b=ξ (.sZ o u)->H' b=ξ (.sZ o u)
 Bk:∀b ps,H b=ξ (.P5 ps)->∃more,H' b=ξ (.P5 (ps++more))
section
variable{fs fs' ex ex':List Addr}{H H1 H2:Hp}{h h1 h2 h':Heap}{a x e:Addr}{o:HO}
def Un.any(u:Un fs ex H H1 h h1){b:Addr}{ob:Obj}(q:h.get? b=ξ ob)(n:H b=ψ)(hx:b∉ex):∃sl,h1.get? b=ξ {ob with slots:=sl}:=by
 by_cases hb:b∈fs
 .erw[u.slot b ob q n hb hx]
 .exact#[ob.slots,u.keep b ob q n hb hx]
def Un.kept(k:∀b u,h.get? b=ξ u->h'.get? b=ξ u):Un fs ex H H h h':=
 #[λb ob q _ _ _=>k b ob q,λb ob q _ _ _=>#[ob.slots,k b ob q],λ_ _ _ n _=>n,λb ob q _=>#[ob,k b ob q],λ_ _ q=>q,λ_ _ _ q=>q,λ_ ps q=>#[#[],by rw[q];simp]]
def Un.refl:Un fs ex H H h h:=Un.kept λ_ _ q=>q
def Un.laid(k:∀b u,h.get? b=ξ u->h'.get? b=ξ u)(hp:h.objs.size<=a)(hn:H a=ψ):Un fs ex H (upd H a o) h h' where
 keep:=λb u q _ _ _=>k b u q
 slot:=λb u q _ _ _=>#[u.slots,k b u q]
 free:=λb u q n _=>%[cw (bb (aD (aV q) hp))|n]
 there:=λb u q _=>#[u,k b u q]
 Bj:=λb xs q=>%[cw (dO q hn)|q]
 zi:=λb u xs q=>%[cw (dO q hn)|q]
 Bk:=λb ps q=>#[#[],by rw[cw (dO q hn),q];simp]
def Un.write(mu:Uu (H x))(he:e=x\/H e=ξ (.own x))(k:∀b u,b≠e->h.get? b=ξ u->h'.get? b=ξ u)(heo:∃u,h'.get? e=ξ u):Un fs ex H (upd H x o) h h':=by
 have hx:∀b,H b=ψ->b≠x:=λb n z=>by subst z;rw[n] at mu;erw[mu]
 have hb:∀b,H b=ψ->b≠e:=λb n z=>by
  subst z;rcases he with r|r
  .erw[hx b n r]
  .rw[n] at r;cases r
 have hm:∀b u,H b=ξ u->¬Uu (ξ u)->b≠x:=λb u q nm z=>by subst z;rw[q] at mu;erw[nm mu]
 refine#[λb u q n _ _=>k b u (hb b n) q,λb u q n _ _=>#[u.slots,k b u (hb b n) q],λb u q n _=>by rw[cw (hx b n)];exact n,λb u q _=>?_,
  λb xs q=>%[cw (hm b _ q λz=>z)|q],λb u xs q=>%[cw (hm b _ q λz=>z)|q],λb ps q=>#[#[],by rw[cw (hm b _ q λz=>z),q];simp]]
 by_cases hbe:b=e
 .subst hbe;erw[heo]
 .exact#[u,k b u hbe q]
end
abbrev Gb(h:Heap)(H:Hp):List Addr:=(bO h.objs.size).filter λa=>(H a).isSome
abbrev zj(h:Heap)(H:Hp):Heap:=PySem.W.hideAll h (Gb h H)
def Gd(h:Heap)(H:Hp):(zj h H).objs.size=h.objs.size:=PySem.W.hideAll_size _ _
def Im(e:h.get? b=ξ o)(n:H b=ψ):(zj h H).get? b=ξ o:=
 PySem.W.hideAll_get _ e λhm=>by
  have q:(H b).isSome=ζ:=(fA.mp hm).2;rw[n] at q;simp at q
def Ml(e:(zj h H).get? b=ξ o):h.get? b=ξ o/\H b=ψ:=by
 have e':h.get? b=ξ o:=PySem.W.of_hideAll (Gb h H) e;refine#[e',?_];cases q:H b with
 |none=>rfl
 |some x=>
  have hm:b∈Gb h H:=fA.mpr #[iJ.mpr (aV e'),by simp[q]];have z:(zj h H).get? b=ψ:=PySem.W.hideAll_none (Gb h H) hm;rw[z] at e;cases e
abbrev rL(g h:Heap)(L:Addr):List (Addr×Obj):=(bO h.objs.size).filterMap λa=>if a=L\/(g.get? a).isSome=ζ then ψ else(h.get? a).map λo=>(a,o)
def Bl(h1:a≠L)(h2:g.get? a=ψ)(h3:h.get? a=ξ o):(a,o)∈rL g h L:=
 l6.mpr #[a,iJ.mpr (aV h3),by simp[h1,h2,h3]]
def vx(hp:p∈rL g h L):p.1≠L/\g.get? p.1=ψ/\h.get? p.1=ξ p.2:=by
 let#[b,_,e]:=l6.mp hp;split at e
 .cases e
 .rename_i hn
  cases q:h.get? b with
  |none=>rw[q] at e;simp at e
  |some u=>
   rw[q] at e;dsimp[fg,jd] at e;subst e;refine#[λz=>hn (.inl z),?_,q];show g.get? b=ψ;cases r:g.get? b with
   |none=>rfl
   |some v=>exact(hn (.inr (by simp[r]))).elim
def Io:News g L h (rL g h L):=λp hp=>let ⟨a,b,c⟩:=vx hp;#[c,a,b]
structure Mod(K:aM)(mg:Str->Option Value)(base:Heap):Prop where
 US:K.In base
 glob:base.Ns bJ mg
 blt:∃mb,base.Ns CU mb/\∀x:Str,x≠"__name__"->mb x=kN x
 nolimit:base.NoLimit
structure Cx where
 prog:bQ
 w:cG
 K:aM
 mg:Str->Option Value
 base:Heap
 A:eD
 N:List Str
 s₀:aE
 H₀:Hp
 env:Env
 outer:List Env
 stack:List Env
 ex:List Addr
 fn:Str->Bool
 calm:Bool
 pn:List (Addr×Obj)
 xe:Value->aE->Prop
abbrev HM(l:List Env):List Addr:=l.filterMap (·.frame)
@[reducible]def Cx.fs(X:Cx):List Addr:=HM X.outer
abbrev UT(sc:kO)(x:Str):Prop:=sc.names.lookup x=ξ .local\/sc.names.lookup x=ξ .cell\/sc.names.lookup x=ξ .free
abbrev Loc(sc:kO)(x:Str):Prop:=sc.names.lookup x=ξ .local\/sc.names.lookup x=ξ .cell
abbrev Look(env:Env)(h:Heap)(m:Str->Option Value)(x:Str)(u:Value):Prop:=
 (env.kindOf x=ξ .local/\m x=ξ u)\/((env.kindOf x=ξ .cell\/env.kindOf x=ξ .free)/\∃c,env.cells.lookup x=ξ c/\h.IsCell c (ξ u))
structure Cx.Ok(X:Cx):Prop where
 mod:Mod X.K X.mg X.base
 kind:X.env.scope.kind=.function
 glob:X.env.globals=bJ
 blt:X.env.builtins=CU
 above:X.s₀.heap.objs.size<=X.env.locals
 inj:∀x y c,X.env.cells.lookup x=ξ c->X.env.cells.lookup y=ξ c->x=y
 has:∀x,(X.env.kindOf x=ξ .cell\/X.env.kindOf x=ξ .free)->∃c,X.env.cells.lookup x=ξ c
 UU:∀x c,X.fn x=ζ->X.env.cells.lookup x=ξ c->X.s₀.heap.objs.size<=c
 hd:X.calm=ζ->X.A.handled=ψ
 frames:X.A.frames=ξ X.stack
 Yl:X.stack=X.outer\/(X.stack=X.env::X.outer/\X.env.frame=ξ X.env.locals)
 exf:∀b∈X.ex,b≠X.env.locals/\∀x c,X.env.cells.lookup x=ξ c->c≠b
 bs:∀b o,X.base.get? b=ξ o->X.s₀.heap.get? b=ξ o/\X.H₀ b=ψ
 Mm:X.base.objs.size<=X.s₀.heap.objs.size
 Ip:∀b o,X.base.get? b=ξ o->b∉X.ex
 Mn:∀b∈X.ex,b∉X.fs
 uM:X.s₀.heap.FunFrames X.base X.outer
 P6:∀b∈X.fs,X.H₀ b=ψ
structure Inv(X:Cx)(pZ:List (Addr×Obj))(σ:List (Option V))(H:Hp)(s:aE):Prop where
 ok:X.Ok
 os:s.os=X.s₀.os
 bare:qL s.gens
 base:Un X.fs X.ex X.H₀ H X.s₀.heap s.heap
 loc:∃m,s.heap.Ns X.env.locals m/\∀(i:Nat)(x:Str)(v:V),X.N[i]?=ξ x->σ[i]?=ξ (ξ v)->UT X.env.scope x->∃u,RelV v u/\Look X.env s.heap m x u
 cell:∀x c,X.env.cells.lookup x=ξ c->∃v,s.heap.IsCell c v
 free:H X.env.locals=ψ
 qC:∀x c,X.env.cells.lookup x=ξ c->H c=ψ
 pin:∀p∈X.pn++pZ,s.heap.get? p.1=ξ p.2/\H p.1=ψ/\p.1≠X.env.locals/\p.1∉X.fs/\∀v,p.2.data≠.cell v
 dQ:qw X.prog X.w H s.heap
 len:σ.length=X.N.length
section
variable{X:Cx}{pZ:List (Addr×Obj)}{σ:List (Option V)}{H H':Hp}{s:aE}{h':Heap}
def Cx.Ok.YT(ok:X.Ok)(e:X.base.get? b=ξ o):b∉X.fs:=λhb=>by
 have:=(ok.uM.mem hb).1;rw[e] at this;cases this
def Inv.bs(I:Inv X pZ σ H s):∀b o,X.base.get? b=ξ o->s.heap.get? b=ξ o/\H b=ψ:=λb o e=>
 #[I.base.keep b o (I.ok.bs b o e).1 (I.ok.bs b o e).2 (I.ok.YT e) (I.ok.Ip b o e),I.base.free b o (I.ok.bs b o e).1 (I.ok.bs b o e).2 (I.ok.Ip b o e)]
def Inv.bk(I:Inv X pZ σ H s):∀b o,X.base.get? b=ξ o->s.heap.get? b=ξ o:=λb o e=>(I.bs b o e).1
def Inv.mod(I:Inv X pZ σ H s):Mod X.K X.mg X.base:=I.ok.mod
def Inv.zk(I:Inv X pZ σ H s):X.K.In s.heap:=I.ok.mod.US.keeps I.bk
def Inv.fr(I:Inv X pZ σ H s):∃m,Fr X.base X.env.locals s.heap m:=
 let ⟨m,hn,_⟩:=I.loc
 #[m,hn,I.bk,aI I.ok.Mm I.ok.above]
def Inv.lt(I:Inv X pZ σ H s):X.env.locals<s.heap.objs.size:=let ⟨_,hn,_⟩:=I.loc;hn.lt
def Inv.sz(I:Inv X pZ σ H s):X.s₀.heap.objs.size<=s.heap.objs.size:=aI I.ok.above (bZ I.lt)
def Inv.YU(I:Inv X pZ σ H s)(h:s.heap.objs.size<=a):a∉X.fs:=λhb=>by
 let#[_,o,ho,_]:=I.ok.uM.mem hb;erw[absurd (aD (aV ho) (aI I.sz h)) (cC _)]
def Inv.P7(I:Inv X pZ σ H s):∀x c,X.env.cells.lookup x=ξ c->c≠X.env.locals:=λx c e z=>by
 let#[v,o,ho,hd]:=I.cell x c e;let#[m,#[o',es,ep,ho',hd',_],_]:=I.loc;rw[z,ho'] at ho;cases ho;rw[hd'] at hd;cases hd
def Inv.uM(I:Inv X pZ σ H s):s.heap.FunFrames X.base X.outer:=by
 have all:∀(l:List Env),(∀b∈HM l,b∈X.fs)->X.s₀.heap.FunFrames X.base l->s.heap.FunFrames X.base l:=by
  intro l;induction l with
  |nil=>intro _ _;trivial
  |cons env r ih=>
   intro hs hl;let#[hk,#[L,o,hf,hn,ho,hd],hr]:=hl;have hL:L∈X.fs:=hs L (by unfold HM;rw[cy,hf];erw[aO]);let#[sl,e]:=I.base.slot L o ho (I.ok.P6 L hL) hL λz=>I.ok.Mn L z hL
   exact#[hk,#[L,_,hf,hn,e,hd],ih (λb hb=>hs b (by unfold HM;rw[cy,hf];erw[az _ hb])) hr]
 erw[all X.outer (λ_ hb=>hb) I.ok.uM]
def Inv.stack(I:Inv X pZ σ H s):s.heap.FunFrames X.base X.stack:=by
 rcases I.ok.Yl with e|⟨e,hf⟩
 .rw[e];erw[I.uM]
 .rw[e]
  let#[m,hn,_]:=I.loc;rwa[.cons (by rw[I.ok.kind];decide) hf hn ?_ I.uM];erw[Heap.get?_none_of_le (aI I.ok.Mm I.ok.above)]
def Inv.zm(I:Inv X pZ σ H s):∀b∈HM X.stack,b∈X.env.locals::X.fs:=λb hb=>by
 rcases I.ok.Yl with e|⟨e,hf⟩
 .rw[e] at hb;erw[az _ hb]
 .rw[e] at hb
  unfold HM at hb;rw[cy,hf] at hb;erw[hb]
def Inv.EC(I:Inv X pZ σ H s):∀b∈HM X.stack,H b=ψ:=λb hb=>by
 rcases aR.mp (I.zm b hb) with e|hb
 .rw[e];erw[I.free]
 .let#[_,o,ho,_]:=I.ok.uM.mem hb
  erw[I.base.free b o ho (I.ok.P6 b hb) λz=>I.ok.Mn b z hb]
def Inv.step{g':Array GenState}{t':Nat}{d':Drawn}{ch:List Addr}(I:Inv X pZ σ H s)
  (hch:∀b∈ch,(b∈X.ex\/X.s₀.heap.objs.size<=b)/\b≠X.env.locals/\(∀x c,X.env.cells.lookup x=ξ c->c≠b)/\∀p∈X.pn++pZ,p.1≠b)
  (keep:∀b o,b≠X.env.locals->b∉X.fs->b∉ch->s.heap.get? b=ξ o->H b=ψ->h'.get? b=ξ o)
  (slot:∀b o,b≠X.env.locals->b∈X.fs->b∉ch->s.heap.get? b=ξ o->H b=ψ->∃sl,h'.get? b=ξ {o with slots:=sl}) (free:∀b o,b∉ch->s.heap.get? b=ξ o->H b=ψ->H' b=ψ)
  (there:∀b o,b∉ch->s.heap.get? b=ξ o->∃o',h'.get? b=ξ o')
  (Bj:∀b xs,H b=ξ (.tup xs)->H' b=ξ (.tup xs)) (zi:∀b o u,H b=ξ (.sZ o u)->H' b=ξ (.sZ o u)) (Bk:∀b ps,H b=ξ (.P5 ps)->∃more,H' b=ξ (.P5 (ps++more)))
  (ns:∀m,s.heap.Ns X.env.locals m->h'.Ns X.env.locals m) (dQ:qw X.prog X.w H' h') (hg:qL g'):
  Inv X pZ σ H' {s with heap:=h',gens:=g',drawn:=d',toks:=t'}:=by
 have neL:∀b o,X.s₀.heap.get? b=ξ o->b≠X.env.locals:=λb o e=>bb (aD (aV e) I.ok.above)
 have neC:∀b o,X.s₀.heap.get? b=ξ o->b∉X.ex->b∉ch:=λb o e hx hb=>by
  rcases(hch b hb).1 with z|z
  .erw[hx z]
  .erw[absurd (aD (aV e) z) (cC _)]
 have cellK:∀x c,X.env.cells.lookup x=ξ c->∀v,s.heap.IsCell c v->h'.IsCell c v:=λx c e v #[o,ho,hd]=>by
  have nch:c∉ch:=λz=>(hch c z).2.2.1 x c e rfl
  by_cases hc:c∈X.fs
  .let#[sl,q]:=slot c o (I.P7 x c e) hc nch ho (I.qC x c e)
   exact#[_,q,hd]
  .exact#[o,keep c o (I.P7 x c e) hc nch ho (I.qC x c e),hd]
 refine#[I.ok,I.os,hg,#[λb o e n hb hx=>?_,λb o e n hb hx=>?_,λb o e n hx=>?_,λb o e hx=>?_,λb xs e=>Bj b xs (I.base.Bj b xs e),λb o xs e=>zi b o xs (I.base.zi b o xs e),λb ps e=>?_],?_,λx c e=>?_,?_,λx c e=>?_,λp hp=>?_,dQ,I.len]
 .erw[keep b o (neL b o e) hb (neC b o e hx) (I.base.keep b o e n hb hx) (I.base.free b o e n hx)]
 .let#[sl,e1]:=I.base.slot b o e n hb hx
  let#[sl',e2]:=slot b _ (neL b o e) hb (neC b o e hx) e1 (I.base.free b o e n hx);exact#[sl',e2]
 .let#[o',e1]:=I.base.there b o e hx
  erw[free b o' (neC b o e hx) e1 (I.base.free b o e n hx)]
 .let#[o',e1]:=I.base.there b o e hx
  erw[there b o' (neC b o e hx) e1]
 .let#[m1,e1]:=I.base.Bk b ps e
  let#[m2,e2]:=Bk b _ e1;exact#[m1++m2,by rw[e2,Array.append_assoc]]
 .let#[m,hn,hl]:=I.loc
  refine#[m,ns m hn,λi x v e1 e2 e3=>?_];let#[u,r,l]:=hl i x v e1 e2 e3;refine#[u,r,?_];rcases l with l|⟨k,c,e,z⟩
  .erw[.inl l]
  .erw[.inr #[k,c,e,cellK x c e _ z]]
 .let#[v,z]:=I.cell x c e
  exact#[v,cellK x c e v z]
 .let#[m,#[o,_,_,ho,_],_]:=I.loc
  erw[free _ o (λz=>(hch _ z).2.1 rfl) ho I.free]
 .let#[v,o,ho,hd]:=I.cell x c e
  erw[free c o (λz=>(hch c z).2.2.1 x c e rfl) ho (I.qC x c e)]
 .let#[e,n,ne,nf,d]:=I.pin p hp
  have nch:p.1∉ch:=λz=>(hch p.1 z).2.2.2 p hp rfl
  exact#[keep p.1 p.2 ne nf nch e n,free p.1 p.2 nch e n,ne,nf,d]
def Inv.un{t':Nat}(I:Inv X pZ σ H s)(u:Un X.fs [] H H' s.heap h')(dQ:qw X.prog X.w H' h'):Inv X pZ σ H' {s with heap:=h',toks:=t'}:=by
 let#[m,#[o,es,ep,ho,r],_]:=id I.loc;let#[sl,hL]:=u.any ho I.free (#v[]);exact I.step (g':=s.gens) (d':=s.drawn) (ch:=[]) (λ_ z=>nomatch z) (λb o _ hb _ e n=>u.keep b o e n hb (#v[])) (λb o _ hb _ e n=>u.slot b o e n hb (#v[])) (λb o _ e n=>u.free b o e n (#v[])) (λb o _ e=>u.there b o e (#v[])) u.Bj u.zi u.Bk (λm' hm=>by
  let#[o',es',ep',ho',r']:=hm;rw[ho] at ho';cases ho';exact#[_,es',ep',hL,r']) dQ I.bare
def Inv.call{g':Array GenState}{t':Nat}{d':Drawn}{ch:List Addr}(I:Inv X pZ σ H s)(u:Un (HM X.stack) ch H H' s.heap h')(dQ:qw X.prog X.w H' h')(hg:qL g')
  (hch:∀b∈ch,(b∈X.ex\/X.s₀.heap.objs.size<=b)/\b≠X.env.locals/\(∀x c,X.env.cells.lookup x=ξ c->c≠b)/\∀p∈X.pn++pZ,p.1≠b):
  Inv X pZ σ H' {s with heap:=h',gens:=g',drawn:=d',toks:=t'}:=by
 let#[m,#[o,es,ep,ho,r],_]:=id I.loc;let#[sl,hL]:=u.any ho I.free λz=>(hch _ z).2.1 rfl
 exact I.step (ch:=ch) hch (λb o hL hb hc e n=>u.keep b o e n (λz=>(aR.mp (I.zm b z)).elim hL hb) hc) (λb o _ _ hc e n=>u.any e n hc) (λb o hc e n=>u.free b o e n hc) (λb o hc e=>u.there b o e hc) u.Bj u.zi u.Bk (λm' hm=>by
  let#[o',es',ep',ho',r']:=hm;rw[ho] at ho';cases ho';exact#[_,es',ep',hL,r']) dQ hg
def Inv.turned{t':Nat}{it:Addr}(I:Inv X pZ σ H s)(k:∀b o,b≠it->s.heap.get? b=ξ o->h'.get? b=ξ o)(hn:H it=ψ)(hL:it≠X.env.locals)
  (h1:it∈X.ex\/X.s₀.heap.objs.size<=it) (h2:∀x c,X.env.cells.lookup x=ξ c->c≠it) (h3:∀p∈X.pn++pZ,p.1≠it):Inv X pZ σ H {s with heap:=h',toks:=t'}:=by
 have nit:∀b u,H b=ξ u->b≠it:=λb u e z=>by rw[z,hn] at e;cases e
 refine I.step (g':=s.gens) (d':=s.drawn) (ch:=[it]) (λb hb=>?_) (λb o _ _ hc e _=>k b o (λz=>hc (by simp[z])) e) (λb o _ _ hc e _=>#[o.slots,k b o (λz=>hc (by simp[z])) e]) (λ_ _ _ _ n=>n)
  (λb o hc e=>#[o,k b o (λz=>hc (by simp[z])) e]) (λ_ _ e=>e) (λ_ _ _ e=>e) (λb ps e=>#[#[],by rw[e];simp]) (λm hm=>?_) (λb u e=>?_) I.bare
 .have e:b=it:=by simpa using hb
  subst e;exact#[h1,hL,h2,h3]
 .let#[o,es,ep,ho,r]:=hm
  exact#[o,es,ep,k _ o (cM hL) ho,r]
 .refine(I.dQ b u e).C5 (λc v hc q=>k c v ?_ q) (λ_ q=>q) λ_ _ q=>q
  rcases hc with z|z
  .rw[z];erw[nit b u e]
  .erw[nit c _ z]
def Inv.tok(I:Inv X pZ σ H s)(t:Nat):Inv X pZ σ H {s with toks:=t}:=I.un (h':=s.heap) (t':=t) Un.refl I.dQ
def Inv.kept{t':Nat}(I:Inv X pZ σ H s)(k:∀b u,s.heap.get? b=ξ u->h'.get? b=ξ u):Inv X pZ σ H {s with heap:=h',toks:=t'}:=I.un (Un.kept k) (I.dQ.kept k)
def Inv.laid{a:Addr}{o:HO}{t':Nat}(I:Inv X pZ σ H s)(k:∀b u,s.heap.get? b=ξ u->h'.get? b=ξ u)(hp:s.heap.objs.size<=a)(new:dZ X.prog X.w (upd H a o) h' a o):
  Inv X pZ σ (upd H a o) {s with heap:=h',toks:=t'}:=I.un (Un.laid k hp (I.dQ.fresh hp)) (I.dQ.laid k hp new)
def Inv.write(I:Inv X pZ σ H s)(mu:Uu (H x))(he:e=x\/H e=ξ (.own x))(k:∀b u,b≠e->s.heap.get? b=ξ u->h'.get? b=ξ u)(heo:∃u,h'.get? e=ξ u)
  (new:dZ X.prog X.w (upd H x o) h' x o):Inv X pZ σ (upd H x o) {s with heap:=h',toks:=t'}:=I.un (Un.write mu he k heo) (I.dQ.write mu he k heo new)
def Inv.ED(I:Inv X pZ σ H s)(h:∀p∈pins',s.heap.get? p.1=ξ p.2/\H p.1=ψ/\p.1≠X.env.locals/\p.1∉X.fs/\∀v,p.2.data≠.cell v):Inv X pins' σ H s:=
 #[I.ok,I.os,I.bare,I.base,I.loc,I.cell,I.free,I.qC,λp hp=>(aJ.mp hp).elim (λz=>I.pin p (bz _ z)) (h p),I.dQ,I.len]
def Bm{N:List Str}(hN:N.Nodup){i j:Nat}{x:Str}(a:N[i]?=ξ x)(b:N[j]?=ξ x):i=j:=by
 let#[h1,e1]:=ab.mp a;let#[h2,e2]:=ab.mp b;exact(LM hN).mp (e1.trans e2.symm)
def xU{M:Model}{A:eD}{E:Value->aE->Prop}{i:Nat}{x:Str}{v:V}{u:Value}{Q:Unit->aE->Prop}(I:Inv X pZ σ H s)(hN:X.N.Nodup)(hi:X.N[i]?=ξ x)(hx:Loc X.env.scope x)(r:RelV v u)
  (h:∀s',Inv X pZ (σ.set i (ξ v)) H s'->(∃a,gD a s.heap s'.heap/\(a=X.env.locals\/X.env.cells.lookup x=ξ a))->Q () s') (hf:X.fn x=ζ\/X.env.scope.names.lookup x=ξ .local:=by first|exact .inl rfl|exact .inr rfl|assumption):wpAny M A (storeName X.env x u) Q E s:=by
 let#[m,hn,hl]:=id I.loc;have hcls:(X.env.scope.kind==.class||(X.env.scope.kind==.module&&X.env.locals !=X.env.globals))=ϑ:=by rw[I.ok.kind];rfl
 have hiσ:i<σ.length:=by rw[I.len];exact(ab.mp hi).1
 have P7:=I.P7;have tracked:∀{a:Addr}{h':Heap},(∃o,s.heap.get? a=ξ o/\H a=ψ)->gD a s.heap h'->qw X.prog X.w H h':=λ{a h'}ha hs b ob e=>by
  let#[_,_,hfree]:=ha;refine(I.dQ b ob e).C5 (λc w' hc q=>(hs.2 c ?_).trans q) (λ_ q=>q) λ_ _ q=>q
  rintro rfl;rcases hc with rfl|hc
  .rw[hfree] at e;cases e
  .rw[hfree] at hc;cases hc
 rcases hx with hk|hk
 .rwa[wpAny_storeName_local hk hn (λh' hn' hs=>?_) hcls]
  let#[oL,_,_,hoL,_]:=id hn;refine h _ #[I.ok,I.os,I.bare,#[λb o e n hb hx=>?_,λb o e n hb hx=>?_,I.base.free,λb o e hx=>?_,I.base.Bj,I.base.zi,I.base.Bk],#[_,hn',λj y v' e1 e2 e3=>?_],λy c e=>?_,I.free,I.qC,λp hp=>?_,tracked #[oL,hoL,I.free] hs,~~~I.len] #[_,hs,.inl rfl]
  .exact(hs.2 b (bb (aD (aV e) I.ok.above))).trans (I.base.keep b o e n hb hx)
  .let#[sl,e1]:=I.base.slot b o e n hb hx
   exact#[sl,(hs.2 b (bb (aD (aV e) I.ok.above))).trans e1]
  .let#[o',e1]:=I.base.there b o e hx
   exact#[o',(hs.2 b (bb (aD (aV e) I.ok.above))).trans e1]
  .by_cases hj:j=i
   .subst hj
    rw[hi] at e1;cases e1;rw[bM hiσ] at e2;cases e2;exact#[u,r,.inl #[hk,#v[]]]
   .rw[aj (cM hj)] at e2
    let#[u',r',q]:=hl j y v' e1 e2 e3;refine#[u',r',?_];rcases q with⟨k,e⟩|⟨k,c,e,z⟩
    .rwa[.inl #[k,?_]]
     have:y≠x:=λe=>hj (Bm hN e1 (e▸hi))
     simp[this,e]
    .erw[.inr #[k,c,e,z.sameBut hs (P7 y c e)]]
  .let#[w',z]:=I.cell y c e
   exact#[w',z.sameBut hs (P7 y c e)]
  .let#[e,n,ne,nf,d]:=I.pin p hp
   exact#[(hs.2 p.1 ne).trans e,n,ne,nf,d]
 .have hfn:X.fn x=ζ:=by
   rcases hf with z|z
   .erw[z]
   .rw[z] at hk;cases hk
  let#[c,hc]:=I.ok.has x (.inl hk);let#[w',z]:=I.cell x c hc;rwa[wpAny_storeName_cell I.ok.kind hk hc z (λh' hc' hs=>?_)];let#[oc,hoc,hocd]:=id z;refine h {s with heap:=h'} #[I.ok,I.os,I.bare,#[λb o e n hb hx=>?_,λb o e n hb hx=>?_,I.base.free,λb o e hx=>?_,I.base.Bj,I.base.zi,I.base.Bk],#[m,hn.sameBut hs (cM (P7 x c hc)),λj y v' e1 e2 e3=>?_],λy c' e=>?_,I.free,I.qC,λp hp=>?_,tracked #[oc,hoc,I.qC x c hc] hs,~~~I.len] #[c,hs,.inr hc]
  .exact(hs.2 b (bb (aD (aV e) (I.ok.UU x c hfn hc)))).trans (I.base.keep b o e n hb hx)
  .let#[sl,e1]:=I.base.slot b o e n hb hx
   exact#[sl,(hs.2 b (bb (aD (aV e) (I.ok.UU x c hfn hc)))).trans e1]
  .let#[o',e1]:=I.base.there b o e hx
   exact#[o',(hs.2 b (bb (aD (aV e) (I.ok.UU x c hfn hc)))).trans e1]
  .by_cases hj:j=i
   .subst hj
    rw[hi] at e1;cases e1;rw[bM hiσ] at e2;cases e2;exact#[u,r,.inr #[.inl hk,c,hc,hc']]
   .rw[aj (cM hj)] at e2
    let#[u',r',q]:=hl j y v' e1 e2 e3;refine#[u',r',?_];rcases q with q|⟨k,c',e,z'⟩
    .erw[.inl q]
    .rwa[.inr #[k,c',e,z'.sameBut hs ?_]]
     rintro rfl;erw[hj (Bm hN e1 (I.ok.inj _ _ _ e hc▸hi))]
  .by_cases hcc:c'=c
   .subst hcc;exact#[_,hc']
   .let#[w2,z2]:=I.cell y c' e
    exact#[w2,z2.sameBut hs hcc]
  .let#[e,n,ne,nf,d]:=I.pin p hp
   refine#[(hs.2 p.1 ?_).trans e,n,ne,nf,d];intro q;rw[q,hoc] at e;have q':oc=p.2:=aG e;erw[d w' (by rw[<-q'];exact hocd)]
def rM{M:Model}{A:eD}{E:Value->aE->Prop}{i:Nat}{x:Str}{v:V}{u:Value}{Q:Unit->aE->Prop}(I:Inv X pZ σ H s)(hN:X.N.Nodup)(hi:X.N[i]?=ξ x)(hx:Loc X.env.scope x)(r:RelV v u)
  (h:∀s',Inv X pZ (σ.set i (ξ v)) H s'->Q () s') (hf:X.fn x=ζ\/X.env.scope.names.lookup x=ξ .local:=by first|exact .inl rfl|exact .inr rfl|assumption):wpAny M A (storeName X.env x u) Q E s:=
 xU I hN hi hx r (λs' I' _=>h s' I') hf
def Inv.UW(I:Inv X pZ σ H s)(ho:s'.os=s.os)(u:Un (HM X.stack) ch H H' s.heap s'.heap)(dQ:qw X.prog X.w H' s'.heap)(hg:qL s'.gens)
  (hch:∀b∈ch,(b∈X.ex\/X.s₀.heap.objs.size<=b)/\b≠X.env.locals/\(∀x c,X.env.cells.lookup x=ξ c->c≠b)/\∀p∈X.pn++pZ,p.1≠b):Inv X pZ σ H' s':=by
 let#[h',g',d',t',o']:=s';have e:o'=s.os:=ho;subst e;erw[I.call (g':=g') (t':=t') (d':=d') u dQ hg hch]
end
@[reducible]def XK:=Value->Option Addr->Hp->Prop
@[reducible]def St:=List (Option V)
@[reducible]def VK:=V->Hp->Prop
@[reducible]def TE:=St->Hp->VK->Prop
@[reducible]def TT:=St->Hp->(Bool->Hp->Prop)->Prop
@[reducible]def TA:=St->Hp->(List V->Hp->Prop)->Prop
structure Ends where
 nx:St->Hp->Prop
 rt:VK
 bk:St->Hp->Prop:=λ_ _=>False
 ct:St->Hp->Prop:=λ_ _=>False
@[reducible]def TS:=Ends->St->Hp->Prop
abbrev EP(X:Cx)(pZ:List (Addr×Obj))(σ:St)(Q:VK)(u:Value)(s':aE):Prop:=∃v H',Inv X pZ σ H' s'/\RelV v u/\Q v H'
abbrev TP(X:Cx)(pZ:List (Addr×Obj))(σ:St)(Q:Bool->Hp->Prop)(b:Bool)(s':aE):Prop:=∃H',Inv X pZ σ H' s'/\Q b H'
abbrev AP(X:Cx)(pZ:List (Addr×Obj))(σ:St)(Q:List V->Hp->Prop)(us:List Value)(s':aE):Prop:=∃vs H',Inv X pZ σ H' s'/\Vals vs us/\Q vs H'
abbrev SP(X:Cx)(pZ:List (Addr×Obj))(D:Ends)(f:Flow)(s':aE):Prop:=
 match f with
 |.next=>∃σ' H',Inv X pZ σ' H' s'/\D.nx σ' H'
 |.brk=>∃σ' H',Inv X pZ σ' H' s'/\D.bk σ' H'
 |.cont=>∃σ' H',Inv X pZ σ' H' s'/\D.ct σ' H'
 |.ret u=>∃v σ' H',Inv X pZ σ' H' s'/\RelV v u/\D.rt v H'
abbrev PE(X:Cx)(e:Expr)(t:TE):Prop:=
 ∀(pZ:List (Addr×Obj))(s:aE)(σ:St)(H:Hp)(Q:VK),Inv X pZ σ H s->t σ H Q->wpAny (bf X.prog X.w) X.A (eval e X.env) (EP X pZ σ Q) X.xe s
abbrev PT(X:Cx)(e:Expr)(t:TT):Prop:=
 ∀(pZ:List (Addr×Obj))(s:aE)(σ:St)(H:Hp)(Q:Bool->Hp->Prop),Inv X pZ σ H s->t σ H Q->wpAny (bf X.prog X.w) X.A (isTrue e X.env (eval e X.env)) (TP X pZ σ Q) X.xe s
abbrev PW(X:Cx)(e:Expr)(t:TT):Prop:=
 ∀(whole:Sem Value)(pZ:List (Addr×Obj))(s:aE)(σ:St)(H:Hp)(Q:Bool->Hp->Prop),Inv X pZ σ H s->t σ H Q->wpAny (bf X.prog X.w) X.A (isTrue e X.env whole) (TP X pZ σ Q) X.xe s
def PW.pt{X:Cx}{e:Expr}{t:TT}(h:PW X e t):PT X e t:=h _
abbrev PA(X:Cx)(es:List Expr)(t:TA):Prop:=
 ∀(pos:Pos)(pZ:List (Addr×Obj))(s:aE)(σ:St)(H:Hp)(Q:List V->Hp->Prop),Inv X pZ σ H s->t σ H Q->wpAny (bf X.prog X.w) X.A (spliced (fP pos (bD es X.env))) (AP X pZ σ Q) X.xe s
abbrev PS(X:Cx)(st:Stmt)(t:TS):Prop:=
 ∀(pZ:List (Addr×Obj))(s:aE)(σ:St)(H:Hp)(D:Ends),Inv X pZ σ H s->t D σ H->wpAny (bf X.prog X.w) X.A (exec st X.env) (SP X pZ D) X.xe s
abbrev u5(X:Cx)(st:List Stmt)(t:TS):Prop:=
 ∀(pZ:List (Addr×Obj))(s:aE)(σ:St)(H:Hp)(D:Ends),Inv X pZ σ H s->t D σ H->wpAny (bf X.prog X.w) X.A (execs st X.env) (SP X pZ D) X.xe s
def eY{α:Type}{t:Sem α}{Q Q':α->aE->Prop}{M:Model}{A:eD}{E:Value->aE->Prop}{s:aE}(h:wpAny M A t Q E s)(hQ:∀a s,Q a s->Q' a s):wpAny M A t Q' E s:=fB h hQ λ_ _ x=>x
section
variable{X:Cx}
abbrev YV(i:Nat):TE:=λσ H Q=>∃v,σ[i]?=ξ (ξ v)/\Q v H
abbrev tC(v:V):TE:=λ_ H Q=>Q v H
def P8(hN:X.N[i]?=ξ x)(hv:UT X.env.scope x)(hd:(x==("__debug__":Str))=ϑ:=by decide)(hcd:(x==("__classdict__":Str))=ϑ:=by decide):PE X (.Name x pos) (YV i):=by
 w_up;let#[v,e,h]:=h;let#[m,hn,hl]:=I.loc;let#[u,r,l]:=hl i x v hN e hv;have fin:EP X pZ σ Q u s:=#[v,H,I,r,h]
 rcases l with⟨hk,hm⟩|⟨hk,c,hc,hcell⟩
 .erw[wpAny_Name (Ma I.ok.kind hk hn hm fin) hd]
 .rcases hk with hk|hk
  .erw[wpAny_Name (wpAny_loadName_cell I.ok.kind hk hc hcell fin) hd]
  .erw[wpAny_Name (wpAny_loadName_free I.ok.kind hk hc hcell fin hcd) hd]
def P9{i j pos}:PE X (.Constant (.int i) j pos) (tC (.int i)):=λ_ _ _ H _ I h=>wpAny_Constant_int #[.int i,H,I.tok _,#[_,rfl],h]
def UX{b j pos}:PE X (.Constant (.bool b) j pos) (tC (.bl b)):=λ_ _ _ H _ I h=>Constant_bool #[.bl b,H,I,rfl,h]
def Qa{j pos}:PE X (.Constant .none j pos) (tC .b7):=λ_ _ _ H _ I h=>Constant_none #[.b7,H,I,rfl,h]
def Qb{x j pos}:PE X (.Constant (.str x) j pos) (tC (.str x)):=λ_ _ _ H _ I h=>Calls.Constant_str #[.str x,H,I.tok _,#[_,rfl],h]
abbrev Gl(X:Cx)(x:Str):Prop:=X.env.kindOf x=ξ .globalImplicit
def rN{E:Value->aE->Prop}{pZ:List (Addr×Obj)}{s:aE}{σ:St}{H:Hp}{x:Str}{u:Value}{pos:Pos}{Q:Value->aE->Prop}(I:Inv X pZ σ H s)(hg:Gl X x)(hm:X.mg x=ξ u)(h:Q u s)
  (hd:(x==("__debug__":Str))=ϑ:=by decide):wpAny (bf X.prog X.w) X.A (eval (.Name x pos) X.env) Q E s:=
 xh I.ok.kind hg (Calls.loadGlobal_global (%[I.ok.glob|I.mod.glob.keeps I.bk]) hm h) hd
def qP{E:Value->aE->Prop}{pZ:List (Addr×Obj)}{s:aE}{σ:St}{H:Hp}{x:Str}{u:Value}{pos:Pos}{Q:Value->aE->Prop}(I:Inv X pZ σ H s)(hg:Gl X x)(hm:X.mg x=ψ)(hv:kN x=ξ u)(h:Q u s)
  (hn:x≠"__name__":=by decide) (hd:(x==("__debug__":Str))=ϑ:=by decide):wpAny (bf X.prog X.w) X.A (eval (.Name x pos) X.env) Q E s:=by
 let#[mb,h1,h2]:=I.mod.blt;erw[xh I.ok.kind hg (Calls.loadGlobal_builtin (by rw[I.ok.glob];exact I.mod.glob.keeps I.bk) hm (by rw[I.ok.blt];exact h1.keeps I.bk) ((h2 x hn).trans hv) h) hd]
def Mo{x:Str}{v:V}{u:Value}{pos:Pos}(hg:Gl X x)(hm:X.mg x=ξ u)(r:RelV v u)(hd:(x==("__debug__":Str))=ϑ:=by decide):PE X (.Name x pos) (tC v):=
 λ_ _ _ H _ I h=>rN I hg hm #[v,H,I,r,h] hd
def Mp(hg:Gl X x)(hm:X.mg x=ψ)(hv:kN x=ξ u)(r:RelV v u)(hn:x≠"__name__":=by decide)(hd:(x==("__debug__":Str))=ϑ:=by decide):PE X (.Name x pos) (tC v):=
 λ_ _ _ H _ I h=>qP I hg hm hv #[v,H,I,r,h] hn hd
variable{a b:Expr}{ta tb:TE}{pos:Pos}
variable{tA tB':TT}{rest:List Expr}
abbrev YW(t u:TT):TT:=λσ H Q=>t σ H λc H1=>if c=ζ then u σ H1 Q else Q ϑ H1
abbrev tOr(t u:TT):TT:=λσ H Q=>t σ H λc H1=>if c=ζ then Q ζ H1 else u σ H1 Q
abbrev YX(t:TT):TT:=λσ H Q=>t σ H λc H1=>Q (!c) H1
def Mq(ha:PT X a tA):PW X (.BoolOp .And [a] pos) tA:=by
 intro wh pZ s σ H Q I h;rwa[isTrue_and (eY (ha pZ s σ H Q I h) λc s1 e=>?_)];cases c with
 |true=>erw[isTrue_and_nil e]
 |false=>erw[e]
def Qc(ha:PT X a tA):PW X (.BoolOp .Or [a] pos) tA:=by
 intro wh pZ s σ H Q I h;rwa[isTrue_or (eY (ha pZ s σ H Q I h) λc s1 e=>?_)];cases c with
 |false=>erw[isTrue_or_nil e]
 |true=>erw[e]
def Qd(ha:PT X a tA)(hb:PW X (.BoolOp .And (b::rest) pos) tB'):PW X (.BoolOp .And (a::b::rest) pos) (YW tA tB'):=by
 intro wh pZ s σ H Q I h;rwa[isTrue_and (eY (ha pZ s σ H _ I h) λc s1 h9=>?_)];let#[H1,I1,q1]:=h9;cases c with
 |true=>erw[hb wh pZ s1 σ H1 Q I1 q1]
 |false=>exact#[H1,I1,q1]
def UY(ha:PT X a tA)(hb:PW X (.BoolOp .Or (b::rest) pos) tB'):PW X (.BoolOp .Or (a::b::rest) pos) (tOr tA tB'):=by
 intro wh pZ s σ H Q I h;rwa[isTrue_or (eY (ha pZ s σ H _ I h) λc s1 h9=>?_)];let#[H1,I1,q1]:=h9;cases c with
 |true=>exact#[H1,I1,q1]
 |false=>erw[hb wh pZ s1 σ H1 Q I1 q1]
def Qe(ha:PT X a tA):PT X (.UnaryOp .Not a pos) (YX tA):=by
 w_up;erw[isTrue_not (ha pZ s σ H (λc H1=>Q (!c) H1) I h)]
abbrev UZ(ta tb:TE):TE:=λσ H Q=>ta σ H λx H1=>∃c,x=.bl c/\if c=ζ then tb σ H1 Q else Q (.bl ϑ) H1
abbrev YY(ta tb:TE):TE:=λσ H Q=>ta σ H λx H1=>∃c,x=.bl c/\if c=ζ then Q (.bl ζ) H1 else tb σ H1 Q
abbrev U0(ta:TE):TE:=λσ H Q=>ta σ H λx H1=>∃c,x=.bl c/\Q (.bl (!c)) H1
def Qf{op}(h:PE X a t):PE X (.BoolOp op [a] pos) t:=λpZ s σ H Q I hw=>BoolOp_one (h pZ s σ H Q I hw)
def Qg(ha:PE X a ta)(hb:PE X (.BoolOp .And (b::rest) pos) tb):PE X (.BoolOp .And (a::b::rest) pos) (UZ ta tb):=by
 w_up;rwa[BoolOp_and (eY (ha pZ s σ H _ I h) λv s1 h9=>?_)];let#[x,H1,I1,r1,q1]:=h9;let#[c,rfl,q1]:=q1;cases r1;rwa[dA ?_];cases c with
 |true=>erw[hb pZ s1 σ H1 Q I1 q1]
 |false=>exact#[.bl ϑ,H1,I1,rfl,q1]
def U1(ha:PE X a ta)(hb:PE X (.BoolOp .Or (b::rest) pos) tb):PE X (.BoolOp .Or (a::b::rest) pos) (YY ta tb):=by
 w_up;rwa[BoolOp_or (eY (ha pZ s σ H _ I h) λv s1 h9=>?_)];let#[x,H1,I1,r1,q1]:=h9;let#[c,rfl,q1]:=q1;cases r1;rwa[dA ?_];cases c with
 |false=>erw[hb pZ s1 σ H1 Q I1 q1]
 |true=>exact#[.bl ζ,H1,I1,rfl,q1]
def Qh(ha:PE X a ta):PE X (.UnaryOp .Not a pos) (U0 ta):=by
 w_up;rwa[UnaryOp_ (eY (ha pZ s σ H _ I h) λv s1 h9=>?_)];let#[x,H1,I1,r1,q1]:=h9;let#[c,rfl,q1]:=q1;cases r1;erw[not_of (dA #[.bl (!c),H1,I1,rfl,q1])]
abbrev tIf(t:TT)(ta tb:TE):TE:=λσ H Q=>t σ H λc H1=>if c=ζ then ta σ H1 Q else tb σ H1 Q
def Iq{c:Expr}(hc:PT X c tA)(ha:PE X a ta)(hb:PE X b tb):PE X (.IfExp c a b pos) (tIf tA ta tb):=by
 w_up;rwa[wpAny_IfExp (eY (hc pZ s σ H _ I h) λd s1 h9=>?_)];let#[H1,I1,q1]:=h9;cases d with
 |true=>erw[ha pZ s1 σ H1 Q I1 q1]
 |false=>erw[hb pZ s1 σ H1 Q I1 q1]
end
abbrev iS(K:aM)(H:Hp)(a:Addr)(xs:List V):Prop:=
 Rd H a (.lst xs) \/
  ∃(o:Obj)(its:Array Value)(n:Nat),K.lookup a=ξ o/\o.cls=.type "list"/\o.dict=ψ/\o.data=.seq its n/\its.size<=sizeLine/\Vals xs its.toList
abbrev lD(K:aM)(H:Hp)(a:Addr)(xs:List V):Prop:=
 Rd H a (.tup xs) \/
  ∃(o:Obj)(its:Array Value)(n:Nat),K.lookup a=ξ o/\o.cls=.type "tuple"/\o.data=.seq its n/\its.size<=sizeLine/\Vals xs its.toList
abbrev YZ:Value->Option V
 |.none=>ξ .b7
 |.bool b=>ξ (.bl b)
 |.int i _=>ξ (.int i)
 |.str x _=>ξ (.str x)
 |.bytes b _=>ξ (.CK b)
 |.float b _=>ξ (.Yk b)
 |.ref a=>ξ (.ref a)
 |.type n=>ξ (.ty n)
 |_=>ψ
def RelV.abs(r:RelV x u):YZ u=ξ x:=by
 cases x with
 |b7=>cases r;rfl
 |bl _=>cases r;rfl
 |int _=>let#[t,rfl]:=r;rfl
 |str _=>let#[t,rfl]:=r;rfl
 |CK _=>let#[t,rfl]:=r;rfl
 |Yk _=>let#[t,rfl]:=r;rfl
 |ref _=>cases r;rfl
 |ty _=>cases r;rfl
def RelV.inj{x y:V}{u:Value}(r:RelV x u)(q:RelV y u):x=y:=aG (r.abs.symm.trans q.abs)
def Vals.inj:∀{xs ys:List V}{us:List Value},Vals xs us->Vals ys us->xs=ys
 |_,_,_,.nil,.nil=>rfl
 |_,_,_,.cons r t,.cons r' t'=>by rw[r.inj r',Vals.inj t t']
section
variable{X:Cx}{pZ:List (Addr×Obj)}{σ:St}{H:Hp}{s:aE}{a:Addr}{xs ys:List V}
def iS.of{K:aM}(h:H a=ξ (.lst xs)):iS K H a xs:=.inl (.inl h)
def lD.of{K:aM}(h:H a=ξ (.tup xs)):lD K H a xs:=.inl (.inl h)
def Inv.list(I:Inv X pZ σ H s)(h:iS X.K H a xs):∃its:List Value,Vals xs its/\PlainL s.heap a its.toArray/\xs.length<=sizeLine:=by
 rcases h with h|⟨o,its,n,hk,hc,hd,hs,hz,r⟩
 .let#[z,its,n,r,e]:=h.ok I.dQ
  exact#[its,r,#[_,n,e,rfl,rfl,rfl],z]
 .refine#[its.toList,r,#[o,n,I.zk a o hk,hc,hd,~~~hs],?_]
  have e:=r.length;dsimp[qM] at e;omega
def Inv.tuple(I:Inv X pZ σ H s)(h:lD X.K H a xs):∃its:List Value,Vals xs its/\IsTup s.heap a its.toArray/\xs.length<=sizeLine:=by
 rcases h with h|⟨o,its,n,hk,hc,hs,hz,r⟩
 .let#[z,its,r,p]:=h.ok I.dQ
  exact#[its,r,p.tup,z]
 .refine#[its.toList,r,#[o,I.zk a o hk,hc,n,~~~hs],?_]
  have e:=r.length;dsimp[qM] at e;omega
def Inv.vy(I:Inv X pZ σ H s)(h:iS X.K H a xs)(h':iS X.K H a ys):xs=ys:=by
 let#[its,r,#[o,n,e,_,_,d],_]:=I.list h;let#[its',r',#[o',n',e',_,_,d'],_]:=I.list h';rw[e] at e';cases e';rw[d] at d';injection d' with d1 _
 have:its=its':=by simpa using congrArg A5 d1
 subst this;erw[r.inj r']
def Inv.xV(I:Inv X pZ σ H s)(h:lD X.K H a xs)(h':lD X.K H a ys):xs=ys:=by
 let#[its,r,#[o,e,_,n,d],_]:=I.tuple h;let#[its',r',#[o',e',_,n',d'],_]:=I.tuple h';rw[e] at e';cases e';rw[d] at d';injection d' with d1 _
 have:its=its':=by simpa using congrArg A5 d1
 subst this;erw[r.inj r']
end
noncomputable abbrev Cx.xo(X:Cx)(E:Value->aE->Prop):Cx:={X with xe:=E}
@[reducible]def Cx.U2(X:Cx):Cx:=X.xo λ_ _=>False
def Cx.Ok.xo{X:Cx}(ok:X.Ok)(E:Value->aE->Prop):(X.xo E).Ok:=
 #[ok.mod,ok.kind,ok.glob,ok.blt,ok.above,ok.inj,ok.has,ok.UU,ok.hd,ok.frames,ok.Yl,ok.exf,ok.bs,ok.Mm,ok.Ip,ok.Mn,ok.uM,ok.P6]
def Cx.Ok.ph{X:Cx}{E:Value->aE->Prop}(ok:(X.xo E).Ok):X.Ok:=
 #[ok.mod,ok.kind,ok.glob,ok.blt,ok.above,ok.inj,ok.has,ok.UU,ok.hd,ok.frames,ok.Yl,ok.exf,ok.bs,ok.Mm,ok.Ip,ok.Mn,ok.uM,ok.P6]
section
variable{X:Cx}{pZ:List (Addr×Obj)}{σ:St}{H:Hp}{s:aE}{E:Value->aE->Prop}
def Inv.xo(I:Inv X pZ σ H s)(E:Value->aE->Prop):Inv (X.xo E) pZ σ H s:=#[I.ok.xo E,I.os,I.bare,I.base,I.loc,I.cell,I.free,I.qC,I.pin,I.dQ,I.len]
def Inv.ph(I:Inv (X.xo E) pZ σ H s):Inv X pZ σ H s:=#[I.ok.ph,I.os,I.bare,I.base,I.loc,I.cell,I.free,I.qC,I.pin,I.dQ,I.len]
def SP.ph(h:SP (X.xo E) pZ D f s'):SP X pZ D f s':=by
 cases f with
 |next=>let#[σ',H',I,q]:=h;exact#[σ',H',I.ph,q]
 |brk=>let#[σ',H',I,q]:=h;exact#[σ',H',I.ph,q]
 |cont=>let#[σ',H',I,q]:=h;exact#[σ',H',I.ph,q]
 |ret u=>let#[v,σ',H',I,r,q]:=h;exact#[v,σ',H',I.ph,r,q]
def u5.U2{st:List Stmt}{t:TS}(h:u5 X.U2 st t):u5 X st t:=λpZ s σ H D I hw=>
 fB (h pZ s σ H D (I.xo _) hw) (λ_ _ q=>q.ph) λ_ _ z=>aW z
end
section
variable{X:Cx}{st:Stmt}{rest:List Stmt}{t u:TS}{e:Expr}{te:TE}{pos:Pos}
abbrev U3:TS:=λD σ H=>D.nx σ H
abbrev Y0(t u:TS):TS:=λD σ H=>t {D with nx:=u D} σ H
def Mr:u5 X [] U3:=λ_ _ σ H _ I h=>rh #[σ,H,I,h]
def Ir(h1:PS X st t)(h2:u5 X rest u):u5 X (st::rest) (Y0 t u):=by
 intro pZ s σ H D I h;refine wpAny_execs_cons (eY (h1 pZ s σ H {D with nx:=u D} I h) λf s1 q=>?_);cases f with
 |next=>
  let#[σ',H',I',q]:=q;erw[h2 pZ s1 σ' H' D I' q]
 |ret v=>erw[q]
 |brk=>erw[q]
 |cont=>erw[q]
def Inv.quiet{pZ:List (Addr×Obj)}{σ:St}{H:Hp}{s:aE}(I:Inv X pZ σ H s):interactive X.env=ϑ:=by simp[interactive,I.ok.kind]
abbrev U4(te:TE):TS:=λD σ H=>te σ H λ_ H1=>D.nx σ H1
def Ms(he:PE X e te)(hs:iK e ψ pos.line X.env=pure ϑ:=by rfl):PS X (.Expr e pos) (U4 te):=by
 intro pZ s σ H D I h;rwa[wpAny_Expr_any (eY (he pZ s σ H _ I h) λv s1 h9=>?_) I.quiet hs];let#[x,H1,I1,r1,q1]:=h9;exact#[σ,H1,I1,q1]
abbrev Y1(te:TE):TS:=λD σ H=>te σ H D.rt
def Qi(he:PE X e te):PS X (.Return (ξ e) pos) (Y1 te):=by
 intro pZ s σ H D I h;rwa[wpAny_Return_some (eY (he pZ s σ H _ I h) λv s1 h9=>?_)];let#[x,H1,I1,r1,q1]:=h9;exact#[x,σ,H1,I1,r1,q1]
abbrev Y2(c:TT)(t u:TS):TS:=λD σ H=>c σ H λb H1=>if b=ζ then t D σ H1 else u D σ H1
def U5{c:Expr}{a b:List Stmt}{tc:TT}(hc:PT X c tc)(ha:u5 X a t)(hb:u5 X b u):PS X (.If c a b pos) (Y2 tc t u):=by
 intro pZ s σ H D I h;rwa[wpAny_If (eY (hc pZ s σ H _ I h) λd s1 h9=>?_)];let#[H1,I1,q1]:=h9;cases d with
 |true=>erw[ha pZ s1 σ H1 D I1 q1]
 |false=>erw[hb pZ s1 σ H1 D I1 q1]
end
@[reducible]def TG:=V->St->Hp->(St->Hp->Prop)->Prop
@[reducible]def Qj:=List V->St->Hp->(St->Hp->Prop)->Prop
abbrev PG(X:Cx)(target:Expr)(t:TG):Prop:=
 ∀(pZ:List (Addr×Obj))(s:aE)(σ:St)(H:Hp)(v:V)(u:Value)(Q:St->Hp->Prop),Inv X pZ σ H s->RelV v u->t v σ H Q ->
  wpAny (bf X.prog X.w) X.A (yU target X.env u) (λ_ s'=>∃σ' H',Inv X pZ σ' H' s'/\Q σ' H') X.xe s
abbrev Ym(X:Cx)(ts:List Expr)(t:Qj):Prop:=
 ∀(pZ:List (Addr×Obj))(s:aE)(σ:St)(H:Hp)(vs:List V)(us:List Value)(Q:St->Hp->Prop),Inv X pZ σ H s->Vals vs us->t vs σ H Q ->
  wpAny (bf X.prog X.w) X.A (assignInOrder ((vn ts X.env).map (·.2)) us) (λ_ s'=>∃σ' H',Inv X pZ σ' H' s'/\Q σ' H') X.xe s
@[reducible]def Qk:=V->V->V->Hp->(Hp->Prop)->Prop
abbrev U6(X:Cx)(t:Qk):Prop:=
 ∀(pZ:List (Addr×Obj))(s:aE)(σ:St)(H:Hp)(o i v:V)(ov iv u:Value)(Q:Hp->Prop),Inv X pZ σ H s->RelV o ov->RelV i iv->RelV v u->t o i v H Q ->
  wpAny (bf X.prog X.w) X.A (setItem ov iv u) (λ_ s'=>∃H',Inv X pZ σ H' s'/\Q H') X.xe s
@[reducible]def U7:=V->V->Hp->VK->Prop
abbrev PIp(X:Cx)(op:nN)(t:U7):Prop:=
 ∀(pZ:List (Addr×Obj))(s:aE)(σ:St)(H:Hp)(x y:V)(v u:Value)(Q:VK),Inv X pZ σ H s->RelV x v->RelV y u->t x y H Q ->
  wpAny (bf X.prog X.w) X.A (iL op v u) (EP X pZ σ Q) X.xe s
section
variable{X:Cx}{pos:Pos}
abbrev xW(i:Nat):TG:=λv σ H Q=>Q (σ.set i (ξ v)) H
def rO{i:Nat}{x:Str}(hN:X.N.Nodup)(hi:X.N[i]?=ξ x)(hx:Loc X.env.scope x)(hf:X.fn x=ζ\/X.env.scope.names.lookup x=ξ .local:=by first|exact .inl rfl|exact .inr rfl|assumption):PG X (.Name x pos) (xW i):=by
 intro pZ s σ H v u Q I r h;erw[xi (rM I hN hi hx r (λs' I'=>#[_,H,I',h]) hf)]
abbrev Y3:Qj:=λvs σ H Q=>vs=[]/\Q σ H
abbrev U8(t:TG)(u:Qj):Qj:=λvs σ H Q=>∃v r,vs=v::r/\t v σ H λσ' H'=>u r σ' H' Q
def EE:Ym X [] Y3:=by
 intro pZ s σ H vs us Q I r h;let#[e,h]:=h;subst e;cases r;erw[assignInOrder_nil #[σ,H,I,h]]
def rP{e:Expr}{es:List Expr}{t:TG}{u:Qj}(h1:PG X e t)(h2:Ym X es u)
  (hs:(vn (e::es) X.env).map (·.2)=yU e X.env::(vn es X.env).map (·.2):=by rfl):Ym X (e::es) (U8 t u):=by
 intro pZ s σ H vs us Q I r h;let#[v,vr,e1,h]:=h;subst e1;cases r with
 |cons r rr=>
  rw[hs]
  rwa[assignInOrder_cons (eY (h1 pZ s σ H _ _ _ I r h) λ_ s1 h9=>?_)];let#[σ1,H1,I1,q1]:=h9;erw[h2 pZ s1 σ1 H1 _ _ Q I1 rr q1]
abbrev Y4(K:aM)(n:Nat)(t:Qj):TG:=λv σ H Q=>∃a xs,v=.ref a/\lD K H a xs/\xs.length=n/\t xs σ H Q
def Iu{es:List Expr}{k:Nat}{t:Qj}{n:Nat}(hc:X.calm=ζ)(h:Ym X es t)
  (hn:(vn es X.env).length=n:=by rfl) (hst:(vn es X.env).findIdx? (·.1)=ψ:=by rfl):PG X (.Tuple es k pos) (Y4 X.K n t):=by
 intro pZ s σ H v u Q I r hw;let#[a,xs,e1,hq,hl,hw]:=hw;subst e1;cases r;let#[its,rv,ht,hz]:=I.tuple hq;rwa[assign_Tuple_tuple (I.ok.hd hc) ht (by simp[hn,<-hl,rv.length]) hst λh' hx=>?_]
 have I1:Inv X pZ σ H {s with heap:=h'}:=I.kept (t':=s.toks) λb o e=>hx b o (bb (aV e)) e
 exact h pZ _ σ H xs _ Q I1 (~~~rv) hw
abbrev U9(te:TE)(g:TG):TS:=λD σ H=>te σ H λx H1=>g x σ H1 D.nx
def Iv{i:Nat}{x:Str}{e:Expr}{te:TE}{pos':Pos}(hN:X.N.Nodup)(hi:X.N[i]?=ξ x)(hx:Loc X.env.scope x)(he:PE X e te)(hs:iK e (ξ (.Name x pos')) pos.line X.env=pure ϑ:=by rfl)(hf:X.fn x=ζ\/X.env.scope.names.lookup x=ξ .local:=by first|exact .inl rfl|exact .inr rfl|assumption):
  PS X (.Assign [.Name x pos'] e pos) (U9 te (xW i)):=by
 intro pZ s σ H D I h;rwa[wpAny_Assign_Name (eY (he pZ s σ H _ I h) λv s1 h9=>?_) hs];let#[y,H1,I1,r1,q1]:=h9;erw[rM I1 hN hi hx r1 (λs2 I2=>#[_,H1,I2,q1]) hf]
abbrev Y5(i:Nat)(te:TE)(ti:U7):TS:=λD σ H=>∃x,σ[i]?=ξ (ξ x)/\te σ H λy H1=>ti x y H1 λz H2=>D.nx (σ.set i (ξ z)) H2
def Ql{i:Nat}{x:Str}{e:Expr}{te:TE}{op:nN}{ti:U7}{pos':Pos}(hN:X.N.Nodup)(hi:X.N[i]?=ξ x)(hx:Loc X.env.scope x)(he:PE X e te)(ho:PIp X op ti)(hf:X.fn x=ζ\/X.env.scope.names.lookup x=ξ .local:=by first|exact .inl rfl|exact .inr rfl|assumption):
  PS X (.AugAssign (.Name x pos') op e pos) (Y5 i te ti):=by
 intro pZ s σ H D I h;let#[v,e1,h]:=h;let#[m,hn,hl]:=I.loc;have vis:UT X.env.scope x:=by rcases hx with k|k;erw[.inl k];erw[.inr (.inl k)]
 let#[u,r,l]:=hl i x v hi e1 vis;refine wpAny_AugAssign_Name ?_;have go:wpAny (bf X.prog X.w) X.A (eval e X.env) (λw s₂=>wpAny (bf X.prog X.w) X.A (iL op u w) (λr s₃=>wpAny (bf X.prog X.w) X.A (storeName X.env x r) (λ_=>SP X pZ D .next) X.xe s₃) X.xe s₂) X.xe s:=by
  rwa[eY (he pZ s σ H _ I h) λw s1 h9=>?_]
  let#[y,H1,I1,r1,q1]:=h9;rwa[eY (ho pZ s1 σ H1 v y u w _ I1 r r1 q1) λz s2 h9=>?_]
  let#[zv,H2,I2,r2,q2]:=h9;erw[rM I2 hN hi hx r2 (λs3 I3=>#[_,H2,I3,q2]) hf]
 rcases l with⟨hk,hm⟩|⟨hk,c,hc,hcell⟩
 .erw[Ma I.ok.kind hk hn hm go]
 .rcases hk with hk|hk
  .erw[wpAny_loadName_cell I.ok.kind hk hc hcell go]
  .rcases hx with k|k
   .have:X.env.scope.names.lookup x=ξ .free:=hk
    rw[k] at this;cases this
   .have:X.env.scope.names.lookup x=ξ .free:=hk
    rw[k] at this;cases this
abbrev Va(to ti te:TE)(tget:V->V->Hp->VK->Prop)(tip:U7)(tset:Qk):TS:=λD σ H=>to σ H λo H1=>ti σ H1 λi H2=>tget o i H2 λx H3=>te σ H3 λy H4=>tip x y H4 λz H5=>tset o i z H5 λH6=>D.nx σ H6
abbrev Vb(X:Cx)(t:V->V->Hp->VK->Prop):Prop:=
 ∀(pZ:List (Addr×Obj))(s:aE)(σ:St)(H:Hp)(o i:V)(ov iv:Value)(Q:VK),Inv X pZ σ H s->RelV o ov->RelV i iv->t o i H Q ->
  wpAny (bf X.prog X.w) X.A (oZ ov iv) (EP X pZ σ Q) X.xe s
def Mt{o i e:Expr}{to ti te:TE}{tget:V->V->Hp->VK->Prop}{tip:U7}{tset:Qk}{op:nN}{tpos:Pos}(ho:PE X o to)(hi:PE X i ti)(hg:Vb X tget)(he:PE X e te)(hp:PIp X op tip)(hs:U6 X tset)
  (ha:∀ov iv new,augStore i ov iv new=(do holding [new,ov,iv] (setItem ov iv new);release [new,ov,iv] [];pure .next):=by intros;rfl):PS X (.AugAssign (.Subscript o i tpos) op e pos) (Va to ti te tget tip tset):=by
 intro pZ s σ H D I h;rwa[wpAny_AugAssign_SubscriptAny (eY (ho pZ s σ H _ I h) λov s1 h9=>?_) ha];let#[x1,H1,I1,r1,q1]:=h9;rwa[eY (hi pZ s1 σ H1 _ I1 q1) λiv s2 h9=>?_]
 let#[x2,H2,I2,r2,q2]:=h9;rwa[eY (hg pZ s2 σ H2 x1 x2 ov iv _ I2 r1 r2 q2) λold s3 h9=>?_]
 let#[x3,H3,I3,r3,q3]:=h9;rwa[eY (he pZ s3 σ H3 _ I3 q3) λv s4 h9=>?_]
 let#[x4,H4,I4,r4,q4]:=h9;rwa[eY (hp pZ s4 σ H4 x3 x4 old v _ I4 r3 r4 q4) λnew s5 h9=>?_]
 let#[x5,H5,I5,r5,q5]:=h9;rwa[eY (hs pZ s5 σ H5 x1 x2 x5 ov iv new _ I5 r1 r2 r5 q5) λ_ s6 h9=>?_]
 let#[H6,I6,q6]:=h9;exact#[σ,H6,I6,q6]
end
section
variable{X:Cx}{pos:Pos}
abbrev Qm(c:TT)(tb:TS):TS:=λD σ H=>∃W:Nat->St->Hp->Prop,(∃m,W m σ H)/\∀m σ H,W m σ H ->
 c σ H λb H1=>if b=ζ then ∃N:St->Hp->Prop,(∀σ' H',N σ' H'->∃m',m'<m/\W m' σ' H')/\tb {D with nx:=N,ct:=N,bk:=D.nx} σ H1 else D.nx σ H1
def Iw{c:Expr}{body:List Stmt}{tc:TT}{tb:TS}(hp:PassesOwn (bf X.prog X.w) X.A X.env X.xe)(hc:PT X c tc)(hb:u5 X body tb):PS X (.While c body [] pos) (Qm tc tb):=by
 intro pZ s σ H D I h;let#[W,#[m0,w0],turn]:=h;rwa[wpAny_While (codeAny_whileLoop (λn s'=>∃σ' H',Inv X pZ σ' H' s'/\W n σ' H') ?_ m0 #[σ,H,I,w0])];rintro n s1 ⟨σ1,H1,I1,w1⟩;rwa[iD hp (eY (hc pZ s1 σ1 H1 _ I1 (turn n σ1 H1 w1)) λb s2 h9=>?_)];let#[H2,I2,q2]:=h9;cases b with
 |true=>
  let#[N,hN,q2]:=q2;rw[if_pos rfl]
  rwa[iD hp (eY (hb pZ s2 σ1 H2 _ I2 q2) λf s3 q3=>?_)];cases f with
  |next=>
   let#[σ3,H3,I3,n3]:=q3;let#[m',hm,w3]:=hN σ3 H3 n3;exact#[m',hm,σ3,H3,I3,w3]
  |cont=>
   let#[σ3,H3,I3,n3]:=q3;let#[m',hm,w3]:=hN σ3 H3 n3;exact#[m',hm,σ3,H3,I3,w3]
  |brk=>erw[q3]
  |ret v=>erw[q3]
 |false=>
  rw[if_neg aY]
  erw[rh #[σ1,H2,I2,q2]]
end
structure It where
 go:Nat->Hp->Prop
 Vc:Nat->Hp->V->Hp->Prop
 stop:Nat->Hp->Prop
abbrev uO(X:Cx)(pZ:List (Addr×Obj))(H:Hp)(b:Addr):Prop:=
 H b=ψ/\b≠X.env.locals/\b∉X.fs/\(b∈X.ex\/X.s₀.heap.objs.size<=b)/\(∀x c,X.env.cells.lookup x=ξ c->c≠b)/\∀p∈X.pn++pZ,p.1≠b
def Inv.C6{X:Cx}{pZ:List (Addr×Obj)}{σ:St}{H H':Hp}{s:aE}{b:Addr}(I:Inv X pZ σ H s)(hb:s.heap.objs.size<=b)(hn:H' b=ψ):uO X pZ H' b:=by
 refine#[hn,dJ (aD I.lt hb),I.YU hb,.inr (aI I.sz hb),λx c e z=>?_,λp hp z=>?_]
 .let#[v,q]:=I.cell x c e
  erw[absurd (aD q.lt (by rw[z];exact hb)) (cC _)]
 .erw[absurd (aD (aV (I.pin p hp).1) (by rw[z];exact hb)) (cC _)]
structure Turn(P:bQ)(w:cG)(K:aM)(tg:Expr)(J:It)(fp:List Addr)(it:Addr)(tn:Nat->Heap->Prop):Prop where
 mem:it∈fp
 obj:∀i h,tn i h->∀b∈fp,∃o,h.get? b=ξ o/\∀v,o.data≠.cell v
 keep:∀i h h',tn i h->(∀b∈fp,∀o,h.get? b=ξ o->h'.get? b=ξ o)->tn i h'
 item:∀(X:Cx),X.prog=P->X.w=w->X.K=K->X.calm=ζ->∀(i:Nat)(pZ:List (Addr×Obj))(s:aE)(σ:St)(H:Hp)(E:Value->aE->Prop),Inv X pZ σ H s->(∀b∈fp,uO X pZ H b)->tn i s.heap->J.go i H ->
  wpAny (bf P w) X.A (yV (.ref it)) (λr s1=>∃u,r=ξ u /\
   wpAny (bf P w) X.A (rj tg (.ref it) u) (λ_ s2=>∃x H',Inv X pZ σ H' s2/\RelV x u/\J.Vc i H x H'/\tn (i+1) s2.heap/\∀b∈fp,H' b=ψ) E s1) E s
 done:∀(X:Cx),X.prog=P->X.w=w->X.K=K->X.calm=ζ->∀(i:Nat)(pZ:List (Addr×Obj))(s:aE)(σ:St)(H:Hp)(E:Value->aE->Prop),Inv X pZ σ H s->(∀b∈fp,uO X pZ H b)->tn i s.heap->J.stop i H ->
  wpAny (bf P w) X.A (yV (.ref it)) (λr s1=>r=ψ/\Inv X pZ σ H s1) E s
 self:∀(A:eD)(i:Nat)(s:aE)(Q:Value->aE->Prop)(E:Value->aE->Prop),tn i s.heap->Q (.ref it) s->wpAny (bf P w) A (pyIter (.ref it)) Q E s
@[reducible]def TI:=St->Hp->(It->Hp->Prop)->Prop
abbrev Y6(X:Cx)(pZ:List (Addr×Obj))(σ:St)(tg:Expr)(R:It->Hp->Prop)(itv:Value)(s2:aE):Prop:=
 ∃(it:Addr)(fp:List Addr)(tn:Nat->Heap->Prop)(J:It)(H':Hp),itv=.ref it/\Inv X pZ σ H' s2/\Turn X.prog X.w X.K tg J fp it tn/\tn 0 s2.heap/\(∀b∈fp,uO X pZ H' b)/\R J H'
abbrev PI(X:Cx)(tg iter:Expr)(wi:TI):Prop:=
 ∀(pZ:List (Addr×Obj))(s:aE)(σ:St)(H:Hp)(R:It->Hp->Prop),Inv X pZ σ H s->wi σ H R ->
  wpAny (bf X.prog X.w) X.A (eval iter X.env) (λv s1=>wpAny (bf X.prog X.w) X.A (pyIter v) (Y6 X pZ σ tg R) X.xe s1) X.xe s
def Bn(ho:s.heap.get? it=ξ o)(hc:o.cls=.type n)(hd:o.data=.fields vs)
    (hn:["enumerate","zip","dict_itemiterator","dict_reverseitemiterator","odict_iterator","itertools.zip_longest","itertools.pairwise"].contains n=ϑ) (hQ:Q () s):wpAny M A (rj tg (.ref it) u) Q E s:=by
  unfold rj;cases tg<;>first
    |exact aB hQ
    | (cases u<;>first
        |exact aB hQ
        | (refine af (wpAny_load ho ?_)
           rw[hc,hd]
           show wpAny M A (if (["enumerate","zip","dict_itemiterator","dict_reverseitemiterator","odict_iterator","itertools.zip_longest","itertools.pairwise"].contains n&&vs[0]?==ξ (tf _))=ζ then _ else _) Q E s
           rw[if_neg (by intro h;rw[hn,Bool.false_and] at h;cases h)]
           erw[aB hQ]))
abbrev Y7(K:aM)(a:Addr):It:=
 #[λi H=>∃xs x,iS K H a xs/\xs[i]?=ξ x,λi H x H'=>H'=H/\∀xs,iS K H a xs->xs[i]?=ξ x,λi H=>∃xs,iS K H a xs/\xs.length<=i]
abbrev Y8(K:aM)(a:Addr):It:=
 #[λi H=>∃xs x,lD K H a xs/\xs[i]?=ξ x,λi H x H'=>H'=H/\∀xs,lD K H a xs->xs[i]?=ξ x,λi H=>∃xs,lD K H a xs/\xs.length<=i]
abbrev Yn(lo:Int)(n:Nat):It:=#[λi _=>i<n,λi H x H'=>H'=H/\x=.int (lo+i),λi _=>n<=i]
def Ge{P:bQ}{w:cG}{K:aM}{tg:Expr}(a it:Addr):Turn P w K tg (Y7 K a) [it] it (λi h=>h.IsListIter it a i) where
 mem:=by simp
 obj:=λi h st b hb=>by
  have e:b=it:=by simpa using hb
  subst e;let#[o,e,c,d]:=st;exact#[o,e,λv z=>by rw[d] at z;cases z]
 keep:=λi h h' st k=>st.at λo e=>k it (#v[]) o e
 item:=by
  k_go;subst hP hw hK;let#[xs,x,hq,hx]:=hg;let#[its,rv,p,hz]:=I.list hq;let#[u,hu,ru]:=rv.get hx;let#[f0,f1,f2,f3,f4,f5]:=hf it (#v[]);refine HV st p.isList (x:=u) (~~~hu) λh' st' sb=>?_
  have I1:Inv X pZ σ H {s with heap:=h'}:=I.turned (t':=s.toks) (λb o hb e=>(sb.2 b hb).trans e) f0 f1 f3 f4 f5;let#[o,e,c,d]:=id st';exact#[u,rfl,Bn (s:={s with heap:=h'}) e c d ⋯ #[x,H,I1,ru,#[rfl,λys hy=>%[I.vy hy hq|hx]],st',λb hb=>(hf b hb).1]]
 done:=by
  k_go;subst hP hw hK;let#[xs,hq,hx]:=hg;let#[its,rv,p,hz]:=I.list hq;let#[f0,f1,f2,f3,f4,f5]:=hf it (#v[]);have hl:=rv.length;erw[LN (I.ok.hd hc) st p.isList ((·)) λh' eb=>#[rfl,I.turned (t':=s.toks) (λb o hb e=>eb b o hb e) f0 f1 f3 f4 f5]]
 self:=λ_ _ _ _ _ st h=>wpAny_pyIter_listiter st h
def C7{P:bQ}{w:cG}{K:aM}{tg:Expr}(a it:Addr):Turn P w K tg (Y8 K a) [it] it (λi h=>h.IsTupleIter it a i) where
 mem:=by simp
 obj:=λi h st b hb=>by
  have e:b=it:=by simpa using hb
  subst e;let#[o,e,c,d]:=st;exact#[o,e,λv z=>by rw[d] at z;cases z]
 keep:=λi h h' st k=>st.at λo e=>k it (#v[]) o e
 item:=by
  k_go;subst hP hw hK;let#[xs,x,hq,hx]:=hg;let#[its,rv,p,hz]:=I.tuple hq;let#[u,hu,ru]:=rv.get hx;let#[f0,f1,f2,f3,f4,f5]:=hf it (#v[]);refine wpAny_pyNext_tuple_item st (show s.heap.IsTuple a its.toArray from p) (x:=u) (~~~hu) λh' st' sb=>?_
  have I1:Inv X pZ σ H {s with heap:=h'}:=I.turned (t':=s.toks) (λb o hb e=>(sb.2 b hb).trans e) f0 f1 f3 f4 f5;let#[o,e,c,d]:=id st';exact#[u,rfl,Bn (s:={s with heap:=h'}) e c d ⋯ #[x,H,I1,ru,#[rfl,λys hy=>%[I.xV hy hq|hx]],st',λb hb=>(hf b hb).1]]
 done:=by
  k_go;subst hP hw hK;let#[xs,hq,hx]:=hg;let#[its,rv,p,hz]:=I.tuple hq;let#[f0,f1,f2,f3,f4,f5]:=hf it (#v[]);have hl:=rv.length;erw[wpAny_pyNext_tuple_end (I.ok.hd hc) st (show s.heap.IsTuple a its.toArray from p) ((·)) λh' eb=>#[rfl,I.turned (t':=s.toks) (λb o hb e=>eb b o hb e) f0 f1 f3 f4 f5]]
 self:=λ_ _ _ _ _ st h=>wpAny_pyIter_tupleiter st h
def C8{P:bQ}{w:cG}{K:aM}{tg:Expr}(it:Addr)(lo:Int)(n:Nat):Turn P w K tg (Yn lo n) [it] it (λi h=>IsRangeIter h it (lo+(i:Nat)*1) ((n:Int)-(i:Nat)) 1) where
 mem:=by simp
 obj:=λi h st b hb=>by
  have e:b=it:=by simpa using hb
  subst e;exact#[_,st,λv z=>by
   have z':Data.fields _=Data.cell v:=z;cases z']
 keep:=λi h h' st k=>k it (#v[]) _ st
 item:=by
  k_go;subst hP hw hK;let#[f0,f1,f2,f3,f4,f5]:=hf it (#v[]);have W:=Walks.range (prog:=X.prog) (w:=X.w) (I.ok.hd hc) it lo 1 n;rwa[W.item i s _ _ hg st λv h' tk hv st' kk=>?_]
  let#[t,rfl]:=hv;have I1:Inv X pZ σ H {s with heap:=h',toks:=tk}:=I.turned (λb o hb e=>kk b o (~~~hb) e) f0 f1 f3 f4 f5;refine#[_,rfl,Bn (s:={s with heap:=h',toks:=tk}) (n:="range_iterator") st' rfl rfl ⋯ #[.int (lo+i),H,I1,#[t,?_],#[rfl,rfl],st',λb hb=>(hf b hb).1]];rw[Int.mul_one]
 done:=by
  k_go;subst hP hw hK;let#[f0,f1,f2,f3,f4,f5]:=hf it (#v[]);erw[wpAny_pyNext_range_end (I.ok.hd hc) st (by have:n<=i:=hg;omega) λh' eb=>#[rfl,I.turned (t':=s.toks) (λb o hb e=>eb b o hb e) f0 f1 f3 f4 f5]]
 self:=λ_ _ _ _ _ st h=>wpAny_pyIter_rangeiter st h
section
variable{X:Cx}{tg:Expr}
def Iy{pZ:List (Addr×Obj)}{σ:St}{H:Hp}{s:aE}{R:It->Hp->Prop}{E:Value->aE->Prop}{lo hi:Int}{t u v:Tok}{tk:Nat}(I:Inv X pZ σ H s)(h1:-(2^62)<=lo)(h2:lo<2^62)(h3:-(2^62)<=hi)(h4:hi<2^62)
  (q:R (Yn lo (hi-lo).toNat) H):wpAny (bf X.prog X.w) X.A (pyIter (.ref s.heap.objs.size)) (Y6 X pZ σ tg R) E {s with heap:=s.heap.push {cls:=.type "range",data:=.fields (List.toArray [.int lo t,.int hi u,.int 1 v])},toks:=tk}:=by
 rwa[wpAny_pyIter_range (IsRange.new ..) (small_one h1 h2 h3 h4) ?_];have I1:Inv X pZ σ H {s with heap:=s.heap.push {cls:=.type "range",data:=.fields (List.toArray [.int lo t,.int hi u,.int 1 v])},toks:=tk}:=I.kept λb o e=>aL _ e
 refine#[(s.heap.push {cls:=.type "range",data:=.fields (List.toArray [.int lo t,.int hi u,.int 1 v])}).objs.size,[(s.heap.push {cls:=.type "range",data:=.fields (List.toArray [.int lo t,.int hi u,.int 1 v])}).objs.size],_,_,H,rfl,
  I1.kept (t':=tk) λb o e=>aL _ e,C8 _ lo (hi-lo).toNat,?_,λb hb=>?_,q]
 .have e1:lo+((0:Nat):Int)*1=lo:=by simp
  have e2:(((hi-lo).toNat:Nat):Int)-((0:Nat):Int)=Builtin.Range.rangeSize lo hi 1:=by rw[rangeSize_one];split<;>omega
  show IsRangeIter _ _ (lo+((0:Nat):Int)*1) ((((hi-lo).toNat:Nat):Int)-((0:Nat):Int)) 1
  rw[e1,e2]
  erw[bg _ rfl]
 .have e:b=(s.heap.push {cls:=.type "range",data:=.fields (List.toArray [.int lo t,.int hi u,.int 1 v])}).objs.size:=by simpa using hb
  subst e;erw[I1.C6 (ao _) (I1.dQ.fresh (ao _))]
abbrev Vd(ta:TA):TI:=λσ H R=>ta σ H λvs H1=>∃j:Int,vs=[.int j]/\-(2^62)<=j/\j<2^62/\R (Yn 0 j.toNat) H1
def Gf{a:Expr}{ta:TA}{p pos:Pos}(hg:Gl X "range")(hm:X.mg "range"=ψ)(ha:PA X [a] ta)(hs:bD [a] X.env=[(ϑ,eval a X.env)]:=by rfl):PI X tg (.Call (.Name "range" p) [a] [] pos) (Vd ta):=by
 intro pZ s σ H R I h;rwa[Call_ (qP I hg hm boot_range (ki (eY (ha pos pZ s σ H _ I h) λus s1 h9=>?_) hs rfl))];let#[vs,H1,I1,r1,q1]:=h9;let#[j,e,q1,q2,q]:=q1;subst e;cases r1 with
 |cons r rr=>
  cases rr;let#[t,rfl]:=r;exact call_range_1 (Iy I1 ∅ ∅ q1 q2 (~~~q))
abbrev Y9(wi:TI)(g:TG)(tb:TS):TS:=λD σ H=>wi σ H λJ H1=>∃W:Nat->Nat->St->Hp->Prop,(∃m,W 0 m σ H1)/\∀i m σ H,W i m σ H ->
 (J.stop i H/\D.nx σ H)\/(J.go i H/\∃N:St->Hp->Prop,(∀σ' H',N σ' H'->∃m',m'<m/\W (i+1) m' σ' H')/\∀x H',J.Vc i H x H'->g x σ H' λσ2 H2=>tb {D with nx:=N,ct:=N,bk:=D.nx} σ2 H2)
abbrev tw(fp:List Addr)(h:Heap):List (Addr×Obj):=fp.filterMap λb=>(h.get? b).map λo=>(b,o)
def nV{fp:List Addr}{h:Heap}{b:Addr}{o:Obj}(hb:b∈fp)(e:h.get? b=ξ o):(b,o)∈tw fp h:=l6.mpr #[b,hb,by rw[e];rfl]
def Gg(hp:p∈tw fp h):p.1∈fp/\h.get? p.1=ξ p.2:=by
 let#[b,hb,e]:=l6.mp hp;cases q:h.get? b with
 |none=>rw[q] at e;cases e
 |some o=>
  rw[q] at e;have e':(b,o)=p:=aG e;subst e';exact#[hb,q]
def Inv.pinned{pZ:List (Addr×Obj)}{σ:St}{H:Hp}{s:aE}{fp:List Addr}(I:Inv X pZ σ H s)(hf:∀b∈fp,uO X pZ H b)(ho:∀b∈fp,∃o,s.heap.get? b=ξ o/\∀v,o.data≠.cell v):Inv X (pZ++tw fp s.heap) σ H s:=
 I.ED λp hp=>(aJ.mp hp).elim (λz=>I.pin p (bc _ z)) λz=>by
  let#[hb,e]:=Gg z;let#[f0,f1,f2,_]:=hf p.1 hb;let#[o,e',d]:=ho p.1 hb;rw[e] at e';cases e';exact#[e,f0,f1,f2,d]
def Inv.rQ{pZ pl:List (Addr×Obj)}{σ:St}{H:Hp}{s:aE}(I:Inv X (pZ++pl) σ H s):Inv X pZ σ H s:=I.ED λp hp=>I.pin p (bc _ (bz _ hp))
def Qn{iter:Expr}{body:List Stmt}{wi:TI}{g:TG}{tb:TS}{pos:Pos}(hp:PassesOwn (bf X.prog X.w) X.A X.env X.xe)(hc:X.calm=ζ)(hi:PI X tg iter wi)(hg:PG X tg g)(hb:u5 X body tb)
  (hs:∀x,foldedSetIterable iter X.env x=pure x:=by intro _;rfl):PS X (.For tg iter body [] pos) (Y9 wi g tb):=by
 intro pZ s σ H D I h;rwa[wpAny_For (eY (hi pZ s σ H _ I h) λv s1 h1=>eY h1 λitv s2 h2=>?_) hs];let#[it,fp,tn,J,H2,e,I2,T,st2,f2,W,#[m0,w0],turn]:=h2;subst e;have stat:∀{H':Hp},(∀b∈fp,H' b=ψ)->∀b∈fp,uO X pZ H' b:=λhn b hb=>#[hn b hb,(f2 b hb).2]
 rwa[codeAny_forLoop_any (λn s'=>∃i σ' H',Inv X pZ σ' H' s'/\tn i s'.heap/\(∀b∈fp,H' b=ψ)/\W i n σ' H') ?_ m0 #[0,σ,H2,I2,st2,λb hb=>(f2 b hb).1,w0]];rintro n s3 ⟨i,σ3,H3,I3,st3,fr3,w3⟩;rcases turn i n σ3 H3 w3 with⟨stop,qn⟩|⟨go,N,hN,step⟩
 .rwa[iD hp (eY (T.done X rfl rfl rfl hc i pZ s3 σ3 H3 X.xe I3 (stat fr3) st3 stop) λr s4 h9=>?_)]
  let#[hr,I4]:=h9;subst hr;erw[rh #[σ3,H3,I4,qn]]
 .rwa[iD hp (eY (T.item X rfl rfl rfl hc i pZ s3 σ3 H3 X.xe I3 (stat fr3) st3 go) λr s4 h9=>?_)]
  let#[u,hr,h4]:=h9;subst hr;refine iD hp (eY h4 λ_ s5 h9=>?_);let#[x,H5,I5,r5,y5,st5,fr5]:=h9;have I5':=I5.pinned (stat fr5) (T.obj _ _ st5);refine iD hp (eY (hg _ s5 σ3 H5 x u _ I5' r5 (step x H5 y5)) λ_ s6 h9=>?_);let#[σ6,H6,I6,q6]:=h9;refine iD hp (eY (hb _ s6 σ6 H6 _ I6 q6) λf s7 q7=>?_);have again:∀{σ7:St}{H7:Hp},Inv X (pZ++tw fp s5.heap) σ7 H7 s7->N σ7 H7->∃m,m<n/\∃i σ' H',Inv X pZ σ' H' s7/\tn i s7.heap/\(∀b∈fp,H' b=ψ)/\W i m σ' H':=λ{σ7 H7}I7 n7=>by
   let#[m',hm,w7]:=hN σ7 H7 n7;refine#[m',hm,i+1,σ7,H7,I7.rQ,T.keep _ _ _ st5 λb hb o e=>(I7.pin (b,o) (bc _ (bc _ (nV hb e)))).1,λb hb=>?_,w7];let#[o,e,d]:=T.obj _ _ st5 b hb;exact(I7.pin (b,o) (bc _ (bc _ (nV hb e)))).2.1
  cases f with
  |next=>let#[σ7,H7,I7,n7]:=q7;erw[again I7 n7]
  |cont=>let#[σ7,H7,I7,n7]:=q7;erw[again I7 n7]
  |brk=>let#[σ7,H7,I7,q7]:=q7;exact#[σ7,H7,I7.rQ,q7]
  |ret v=>let#[x7,σ7,H7,I7,r7,q7]:=q7;exact#[x7,σ7,H7,I7.rQ,r7,q7]
end
@[reducible]def R2:=V->V->Hp->VK->Prop
abbrev iq(X:Cx)(f:Value->Value->Sem Value)(r:R2):Prop:=
 ∀(pZ:List (Addr×Obj))(s:aE)(σ:St)(H:Hp)(x y:V)(v u:Value)(Q:VK),Inv X pZ σ H s->RelV x v->RelV y u->r x y H Q ->
  wpAny (bf X.prog X.w) X.A (f v u) (EP X pZ σ Q) X.xe s
abbrev Zc(X:Cx)(f:Value->Sem Value)(r:V->Hp->VK->Prop):Prop:=
 ∀(pZ:List (Addr×Obj))(s:aE)(σ:St)(H:Hp)(x:V)(v:Value)(Q:VK),Inv X pZ σ H s->RelV x v->r x H Q ->
  wpAny (bf X.prog X.w) X.A (f v) (EP X pZ σ Q) X.xe s
abbrev iP(X:Cx)(f:Value)(r:List V->Hp->VK->Prop):Prop:=
 ∀(pZ:List (Addr×Obj))(s:aE)(σ:St)(H:Hp)(xs:List V)(us:List Value)(Q:VK),Inv X pZ σ H s->Vals xs us->r xs H Q ->
  wpAny (bf X.prog X.w) X.A (call f us) (EP X pZ σ Q) X.xe s
abbrev Zd(X:Cx)(r:V->Hp->(Bool->Hp->Prop)->Prop):Prop:=
 ∀(pZ:List (Addr×Obj))(s:aE)(σ:St)(H:Hp)(x:V)(v:Value)(Q:Bool->Hp->Prop),Inv X pZ σ H s->RelV x v->r x H Q ->
  wpAny (bf X.prog X.w) X.A (truthy v) (TP X pZ σ Q) X.xe s
abbrev Yo(r:R2)(ta tb:TE):TE:=λσ H Q=>ta σ H λx H1=>tb σ H1 λy H2=>r x y H2 Q
abbrev tUn(r:V->Hp->VK->Prop)(ta:TE):TE:=λσ H Q=>ta σ H λx H1=>r x H1 Q
abbrev rI(C:Int->Int->Prop)(g:Int->Int->V):R2:=λx y H Q=>∃i j,x=.int i/\y=.int j/\C i j/\Q (g i j) H
abbrev Gh(g:Int->Int->V):R2:=λx y H Q=>∃i j,x=.int i/\y=.int j/\Q (g i j) H
abbrev rU(g:Int->V):V->Hp->VK->Prop:=λx H Q=>∃i,x=.int i/\Q (g i) H
section
variable{X:Cx}{a b c:Expr}{ta tb tc:TE}{pos:Pos}
def Qo(ha:PE X a ta)(hb:PE X b tb){pZ:List (Addr×Obj)}{s:aE}{σ:St}{H:Hp}{R:V->V->Hp->Prop}(I:Inv X pZ σ H s)
  (h:ta σ H λx H1=>tb σ H1 λy H2=>R x y H2){Q:Value->aE->Prop}{f:Value->Value->Sem Value}
  (hf:∀v u s2 x y H2,Inv X pZ σ H2 s2->RelV x v->RelV y u->R x y H2->wpAny (bf X.prog X.w) X.A (f v u) Q X.xe s2):
  wpAny (bf X.prog X.w) X.A (eval a X.env) (λv s₁=>wpAny (bf X.prog X.w) X.A (eval b X.env) (λu s₂=>wpAny (bf X.prog X.w) X.A (f v u) Q X.xe s₂) X.xe s₁) X.xe s:=by
 rwa[eY (ha pZ s σ H _ I h) λv s1 h9=>?_]
 let#[x,H1,I1,r1,q1]:=h9;rwa[eY (hb pZ s1 σ H1 _ I1 q1) λu s2 h9=>?_]
 let#[y,H2,I2,r2,q2]:=h9;erw[hf v u s2 x y H2 I2 r1 r2 q2]
def Ve{op:nN}{r:R2}(ho:iq X (cV op) r)(ha:PE X a ta)(hb:PE X b tb):PE X (.BinOp a op b pos) (Yo r ta tb):=by
 w_up;erw[wpAny_BinOp (Qo ha hb I h λv u s2 x y H2 I2 rx ry q=>ho pZ s2 σ H2 x y v u Q I2 rx ry q)]
def Vf{op:UnaryOp}{r:V->Hp->VK->Prop}(ho:Zc X (unaryOp op) r)(ha:PE X a ta):PE X (.UnaryOp op a pos) (tUn r ta):=by
 w_up;rwa[UnaryOp_ (eY (ha pZ s σ H _ I h) λv s1 h9=>?_)];let#[x,H1,I1,r1,q1]:=h9;erw[ho pZ s1 σ H1 x v Q I1 r1 q1]
def Vg{f:Value->Value->Sem Value}{C:Int->Int->Prop}{g:Int->Int->Int}
  (rule:∀(i j:Int)(t u:Tok)(s:aE)(Q:Value->aE->Prop)(E:Value->aE->Prop),C i j->Q (.int (g i j) s.toks) {s with toks:=s.toks+1}->wpAny (bf X.prog X.w) X.A (f (.int i t) (.int j u)) Q E s):
  iq X f (rI C λi j=>.int (g i j)):=by
 z_go;let#[i,j,rfl,rfl,hc,q]:=h;let#[t,rfl]:=rx;let#[t',rfl]:=ry;erw[rule i j t t' s _ _ hc #[.int (g i j),H,I.tok _,#[_,rfl],q]]
def C9{f:Value->Value->Sem Value}{g:Int->Int->Int}
  (rule:∀(i j:Int)(t u:Tok)(s:aE)(Q:Value->aE->Prop)(E:Value->aE->Prop),Q (.int (g i j) s.toks) {s with toks:=s.toks+1}->wpAny (bf X.prog X.w) X.A (f (.int i t) (.int j u)) Q E s):
  iq X f (Gh λi j=>.int (g i j)):=by
 z_go;let#[i,j,rfl,rfl,q]:=h;let#[t,rfl]:=rx;let#[t',rfl]:=ry;erw[rule i j t t' s _ _ #[.int (g i j),H,I.tok _,#[_,rfl],q]]
def Mu{f:Value->Value->Sem Value}{g:Int->Int->Bool}
  (rule:∀(i j:Int)(t u:Tok)(s:aE)(Q:Value->aE->Prop)(E:Value->aE->Prop),Q (.bool (g i j)) s->wpAny (bf X.prog X.w) X.A (f (.int i t) (.int j u)) Q E s):
  iq X f (Gh λi j=>.bl (g i j)):=by
 z_go;let#[i,j,rfl,rfl,q]:=h;let#[t,rfl]:=rx;let#[t',rfl]:=ry;erw[rule i j t t' s _ _ #[.bl (g i j),H,I,rfl,q]]
abbrev Ze(i j:Int):Prop:=0<j/\j<1073741824
abbrev Zf(i j:Int):Prop:=0<=j/\j<=1000000/\i.natAbs<2^64
abbrev Qp(i j:Int):Prop:=(-(2^64)<i/\i<2^64)\/(-(2^64)<j/\j<2^64)
def Qp.ok{i j:Int}(h:Qp i j):IntMulOk i j:=by
 rcases h with⟨h1,h2⟩|⟨h1,h2⟩
 .erw[.of_left (intBits_le_64 h1 h2)]
 .erw[.of_right (intBits_le_64 h1 h2)]
def two_pow_nn(k:Nat):(0:Int)<=2^k:=by
 rw[two_pow_cast]
 erw[Int.natCast_nonneg _]
def Qq:iq X (cV .Add) (Gh λi j=>.int (i+j)):=C9 λ_ _ _ _ _ _ _ q=>add_int q
def Qr:iq X (cV .Sub) (Gh λi j=>.int (i-j)):=C9 λ_ _ _ _ _ _ _ q=>sub_int q
def Qs:iq X (cV .Mult) (rI Qp λi j=>.int (i*j)):=Vg λ_ _ _ _ _ _ _ hc q=>mul_int q hc.ok
def Mv:iq X (cV .FloorDiv) (rI Ze λi j=>.int (i/j)):=Vg λi j _ _ _ _ _ hc q=>by
 have h1:(0:Int)<j:=hc.1;have h2:j<1073741824:=hc.2;erw[floordiv_int ∅ (by rw[yW i ∅];exact q) (.inl (PyProof.noPylong_small ∅))]
def Qt:iq X (cV .Mod) (rI (λ_ j=>0<j) λi j=>.int (i%j)):=Vg λi j _ _ _ _ _ hc q=>by
 have h1:(0:Int)<j:=hc;erw[mod_int' ∅ (by rw[Int.fmod_eq_emod_of_nonneg i ∅];exact q)]
def Qu:iq X (cV .LShift) (rI Zf λi j=>.int (i*2^j.toNat)):=Vg λ_ _ _ _ _ _ _ hc q=>lshift_int_small hc.1 hc.2.1 hc.2.2 q
def Qv:iq X (cV .RShift) (rI (λ_ j=>0<=j) λi j=>.int (i/2^j.toNat)):=Vg λi j _ _ _ _ _ hc q=>
 rshift_int hc (%[yW i (two_pow_nn _)|q])
def Qw:iq X (cV .BitAnd) (Gh λi j=>.int (Builtin.bitAnd i j)):=C9 λ_ _ _ _ _ _ _ q=>and_int q
def Vh:iq X (cV .BitOr) (Gh λi j=>.int (Builtin.bitOr i j)):=C9 λ_ _ _ _ _ _ _ q=>or_int q
def Mw:iq X (iL .Add) (Gh λi j=>.int (i+j)):=C9 λ_ _ _ _ _ _ _ q=>iadd_int q
def Mx:iq X (iL .Sub) (Gh λi j=>.int (i-j)):=C9 λ_ _ _ _ _ _ _ q=>isub_int q
def Qx:iq X (iL .BitOr) (Gh λi j=>.int (Builtin.bitOr i j)):=C9 λ_ _ _ _ _ _ _ q=>ior_int q
def unI{f:Value->Sem Value}{g:Int->Int}
  (rule:∀(i:Int)(t:Tok)(s:aE)(Q:Value->aE->Prop)(E:Value->aE->Prop),Q (.int (g i) s.toks) {s with toks:=s.toks+1}->wpAny (bf X.prog X.w) X.A (f (.int i t)) Q E s):
  Zc X f (rU λi=>.int (g i)):=by
 intro pZ s σ H x v Q I rx h;let#[i,rfl,q]:=h;let#[t,rfl]:=rx;erw[rule i t s _ _ #[.int (g i),H,I.tok _,#[_,rfl],q]]
def Qy:Zc X (unaryOp .USub) (rU λi=>.int (-i)):=unI λ_ _ _ _ _ q=>neg_int q
end
abbrev Qz:V->V->Bool
 |.b7,.b7=>ζ|.b7,.int _=>ζ|.int _,.b7=>ζ|.b7,.bl _=>ζ|.bl _,.b7=>ζ|.b7,.str _=>ζ|.str _,.b7=>ζ
 |.int _,.int _=>ζ|.bl _,.bl _=>ζ|.str _,.str _=>ζ|.CK _,.CK _=>ζ
 |.int _,.str _=>ζ|.str _,.int _=>ζ|.bl _,.str _=>ζ|.str _,.bl _=>ζ
 |_,_=>ϑ
abbrev rEq:R2:=λx y H Q=>Qz x y=ζ/\Q (.bl (decide (x=y))) H
abbrev rNe:R2:=λx y H Q=>Qz x y=ζ/\Q (.bl (!decide (x=y))) H
def zo:decide (V.int i=V.int j)=(i==j):=by
 rw[cJ]
 simp
def Dc:decide (V.bl i=V.bl j)=(i==j):=by
 rw[cJ]
 simp
def EF:decide (V.str i=V.str j)=(i==j):=by
 rw[cJ]
 simp
def EG:decide (V.CK i=V.CK j)=(i.toList==j.toList):=by
 rw[cJ]
 cases i;cases j;simp
section
variable{X:Cx}{a b c:Expr}{ta tb tc:TE}{pos:Pos}
def dj(I:Inv X pZ σ H s)(q:Q (.bl k) H)(e:k=k'):EP X pZ σ Q (.bool k') s:=by
 subst e;exact#[.bl k,H,I,rfl,q]
def Vi:iq X (bF .Eq) rEq:=by
 z_go;let#[hs,q]:=h;cases x with
 |b7=>
  cases rx;cases y with
  |b7=>cases ry;erw[PySem.EqNone.eq_none_none (dj I q (#v[]))]
  |bl j=>cases ry;erw[PySem.EqNone.eq_none_bool (dj I q (#v[]))]
  |int j=>let#[t',rfl]:=ry;erw[PySem.EqNone.eq_none_int (dj I q (#v[]))]
  |str j=>let#[t',rfl]:=ry;erw[PySem.EqNone.eq_none_str (dj I q (#v[]))]
  |_=>erw[absurd (show ϑ=ζ from hs) aY]
 |bl i=>
  cases rx;cases y with
  |b7=>cases ry;erw[PySem.EqNone.eq_bool_none (dj I q (#v[]))]
  |bl j=>cases ry;erw[eq_bool (dj I q Dc)]
  |str j=>let#[t',rfl]:=ry;erw[PySem.EqMixed.eq_bool_str (dj I q (#v[]))]
  |_=>erw[absurd (show ϑ=ζ from hs) aY]
 |int i=>
  let#[t,rfl]:=rx;cases y with
  |b7=>cases ry;erw[PySem.EqNone.eq_int_none (dj I q (#v[]))]
  |int j=>let#[t',rfl]:=ry;erw[eq_int (dj I q zo)]
  |str j=>let#[t',rfl]:=ry;erw[PySem.EqMixed.eq_int_str (dj I q (#v[]))]
  |_=>erw[absurd (show ϑ=ζ from hs) aY]
 |str i=>
  let#[t,rfl]:=rx;cases y with
  |b7=>cases ry;erw[PySem.EqNone.eq_str_none (dj I q (#v[]))]
  |bl j=>cases ry;erw[PySem.EqMixed.eq_str_bool (dj I q (#v[]))]
  |int j=>let#[t',rfl]:=ry;erw[PySem.EqMixed.eq_str_int (dj I q (#v[]))]
  |str j=>let#[t',rfl]:=ry;erw[eq_str (dj I q EF)]
  |_=>erw[absurd (show ϑ=ζ from hs) aY]
 |CK i=>
  let#[t,rfl]:=rx;cases y with
  |CK j=>let#[t',rfl]:=ry;erw[PySem.W.eq_bytes (dj I q EG)]
  |_=>erw[absurd (show ϑ=ζ from hs) aY]
 |_=>cases y<;>exact absurd (show ϑ=ζ from hs) aY
def Vj:iq X (bF .NotEq) rNe:=by
 z_go;let#[hs,q]:=h;cases x with
 |b7=>
  cases rx;cases y with
  |b7=>cases ry;erw[PySem.EqNone.ne_none_none (dj I q (#v[]))]
  |bl j=>cases ry;erw[PySem.EqNone.ne_none_bool (dj I q (#v[]))]
  |int j=>let#[t',rfl]:=ry;erw[PySem.EqNone.ne_none_int (dj I q (#v[]))]
  |str j=>let#[t',rfl]:=ry;erw[PySem.EqNone.ne_none_str (dj I q (#v[]))]
  |_=>erw[absurd (show ϑ=ζ from hs) aY]
 |bl i=>
  cases rx;cases y with
  |b7=>cases ry;erw[PySem.EqNone.ne_bool_none (dj I q (#v[]))]
  |bl j=>cases ry;erw[ne_bool (dj I q (congrArg not Dc))]
  |str j=>let#[t',rfl]:=ry;erw[PySem.EqMixed.ne_bool_str (dj I q (#v[]))]
  |_=>erw[absurd (show ϑ=ζ from hs) aY]
 |int i=>
  let#[t,rfl]:=rx;cases y with
  |b7=>cases ry;erw[PySem.EqNone.ne_int_none (dj I q (#v[]))]
  |int j=>let#[t',rfl]:=ry;erw[ne_int (dj I q (congrArg not zo))]
  |str j=>let#[t',rfl]:=ry;erw[PySem.EqMixed.ne_int_str (dj I q (#v[]))]
  |_=>erw[absurd (show ϑ=ζ from hs) aY]
 |str i=>
  let#[t,rfl]:=rx;cases y with
  |b7=>cases ry;erw[PySem.EqNone.ne_str_none (dj I q (#v[]))]
  |bl j=>cases ry;erw[PySem.EqMixed.ne_str_bool (dj I q (#v[]))]
  |int j=>let#[t',rfl]:=ry;erw[PySem.EqMixed.ne_str_int (dj I q (#v[]))]
  |str j=>let#[t',rfl]:=ry;erw[ne_str (dj I q (congrArg not EF))]
  |_=>erw[absurd (show ϑ=ζ from hs) aY]
 |CK i=>
  let#[t,rfl]:=rx;cases y with
  |CK j=>let#[t',rfl]:=ry;erw[PySem.W.ne_bytes (dj I q (congrArg not EG))]
  |_=>erw[absurd (show ϑ=ζ from hs) aY]
 |_=>cases y<;>exact absurd (show ϑ=ζ from hs) aY
def Vk:iq X (bF .Lt) (Gh λi j=>.bl (decide (i<j))):=Mu λ_ _ _ _ _ _ _ q=>lt_int q
def Vl:iq X (bF .LtE) (Gh λi j=>.bl (decide (i<=j))):=Mu λ_ _ _ _ _ _ _ q=>le_int q
def Vm:iq X (bF .Gt) (Gh λi j=>.bl (decide (j<i))):=Mu λ_ _ _ _ _ _ _ q=>gt_int q
def Vn:iq X (bF .GtE) (Gh λi j=>.bl (decide (j<=i))):=Mu λ_ _ _ _ _ _ _ q=>ge_int q
def Gi:iq X (bF .In) (λx y H Q=>∃i j,x=.str i/\y=.str j/\Q (.bl (!(Builtin.Str.occurrences j i 0 j.length 1).isEmpty)) H):=by
 z_go;let#[i,j,rfl,rfl,q]:=h;let#[t,rfl]:=rx;let#[t',rfl]:=ry;erw[in_str (dj I q rfl)]
def QC:iq X (bF .Is) (λx y H Q=>y=.b7/\Q (.bl (decide (x=.b7))) H):=by
 z_go;let#[rfl,q]:=h;cases ry;refine is_none_gen (dj I q ?_);cases x<;>first
  | (cases rx;rfl)
  | (let#[t,rfl]:=rx;rfl)
def My:iq X (bF .IsNot) (λx y H Q=>y=.b7/\Q (.bl (!decide (x=.b7))) H):=by
 z_go;let#[rfl,q]:=h;cases ry;refine isnot_none_gen (dj I q ?_);cases x<;>first
  | (cases rx;rfl)
  | (let#[t,rfl]:=rx;rfl)
def Mz(ho:iq X (bF op) r)(ha:PE X a ta)(hb:PE X b tb)(hm:behindInMarks op b=ϑ):PE X (.Compare a [op] [b] pos) (Yo r ta tb):=by
 w_up;erw[wpAny_Compare1 (Qo ha hb I h λv u s2 x y H2 I2 rx ry q=>ho pZ s2 σ H2 x y v u Q I2 rx ry q) hm]
abbrev Vo(t:TE):TT:=λσ H Q=>t σ H λx H'=>∃k,x=.bl k/\Q k H'
def MA{op:Mb}{r:R2}(ho:iq X (bF op) r)(ha:PE X a ta)(hb:PE X b tb)(hm:behindInMarks op b=ϑ):PT X (.Compare a [op] [b] pos) (Vo (Yo r ta tb)):=by
 intro pZ s σ H Q I h;refine wpAny_isTrue_Compare1 (eY (ha pZ s σ H _ I h) λv s1 #[x,H1,I1,r1,q1]=>eY (hb pZ s1 σ H1 _ I1 q1) λu s2 #[y,H2,I2,r2,q2]=>
  eY (ho pZ s2 σ H2 x y v u _ I2 r1 r2 q2) λc s3 #[z,H3,I3,r3,k,e,q3]=>?_) hm
 subst e;cases r3;erw[dA #[H3,I3,q3]]
abbrev QD(K:aM)(x:V)(H:Hp)(k:Bool):Prop:=
 match x with
 |.b7=>k=ϑ
 |.bl b=>k=b
 |.int i=>k=(i !=0)
 |.str y=>y.length<=sizeLine/\k=((y.length:Int) !=0)
 |.CK y=>y.size<=sizeLine/\k=((y.size:Int) !=0)
 |.ref p=>(∃xs,iS K H p xs/\k = !xs.isEmpty)\/(∃xs,lD K H p xs/\k = !xs.isEmpty)\/∃kvs,H p=ξ (.dK kvs)/\k = !kvs.isEmpty
 |_=>False
def Dd{κ:Type}{kvs:List (κ×V)}{vs:List (κ×Value)}(r:KV kvs vs):(!vs.isEmpty)= !kvs.isEmpty:=by
 cases r<;>rfl
def vz{xs:List V}{its:List Value}(r:Vals xs its):(!its.toArray.isEmpty)= !xs.isEmpty:=by
 cases r<;>simp
def pj:(sizeLine:Nat)<2^63:=by rw[lV];decide
def QE:Zd X (λx H Q=>∃k,QD X.K x H k/\Q k H):=by
 intro pZ s σ H x v Q I rx h;let#[k,e,q]:=h;have hl:=pj;have hs:sizeLine=16777216:=lV;cases x with
 |b7=>
  cases rx;have e':k=ϑ:=e;subst e';erw[truthy_none #[H,I,q]]
 |bl b=>
  cases rx;have e':k=b:=e;subst e';erw[dA #[H,I,q]]
 |int i=>
  let#[t,rfl]:=rx;have e':k=(i !=0):=e;subst e';erw[PySem.P.truthy_int #[H,I,q]]
 |str y=>
  let#[t,rfl]:=rx;obtain⟨hy,e'⟩:y.length<=sizeLine/\k=((y.length:Int) !=0):=e;subst e';erw[PySem.P.truthy_str ∅ #[H,I.tok _,q]]
 |CK y=>
  let#[t,rfl]:=rx;obtain⟨hy,e'⟩:y.size<=sizeLine/\k=((y.size:Int) !=0):=e;subst e';erw[PySem.W.truthy_bytes ∅ #[H,I.tok _,q]]
 |ref p=>
  cases rx;have e':(∃xs,iS X.K H p xs/\k = !xs.isEmpty)\/(∃xs,lD X.K H p xs/\k = !xs.isEmpty)\/∃kvs,H p=ξ (.dK kvs)/\k = !kvs.isEmpty:=e;rcases e' with⟨xs,hx,e'⟩|⟨xs,hx,e'⟩|⟨kvs,hx,e'⟩
  .subst e'
   let#[its,r,pl,hz]:=I.list hx;have hlen:=r.length;erw[wpAny_truthy_list pl.isList (by dsimp[aH];omega) #[H,I.tok _,by rw[vz r];exact q]]
  .subst e'
   let#[its,r,pl,hz]:=I.tuple hx;have hlen:=r.length;erw[truthy_tuple pl (by dsimp[aH];omega) #[H,I.tok _,by rw[vz r];exact q]]
  .subst e'
   obtain⟨hz,hS,vs,r,m⟩:kvs.length<=sizeLine/\(p==cu)=ϑ/\∃vs,KV kvs vs/\s.heap.DictOf (dv X.prog X.w) p vs:=I.dQ p _ hx;have hlen:kvs.length=vs.length:=Paired.length r;erw[wpAny_truthy_dict hS m ∅ #[H,I.tok _,by rw[Dd r];exact q]]
 |_=>exact(show False from e).elim
def Iz(ha:PE X a ta)(he:∀whole,isTrue a X.env whole=(do let v <-whole;standAt a.pos;holding [v] (truthy v))):
  PT X a (λσ H Q=>ta σ H λx H'=>∃k,QD X.K x H' k/\Q k H'):=by
 w_up;rwa[isTrue_plain (eY (ha pZ s σ H _ I h) λv s1 h9=>?_) (he _)];let#[x,H1,I1,r1,q1]:=h9;erw[QE pZ s1 σ H1 x v Q I1 r1 q1]
def De:iq X (cV .Add) (λx y H Q=>∃i j,x=.str i/\y=.str j/\i.length+j.length<=sizeLine/\Q (.str (i++j)) H):=by
 z_go;let#[i,j,rfl,rfl,hz,q]:=h;let#[t,rfl]:=rx;let#[t',rfl]:=ry;erw[add_str (λt' tk=>#[.str (i++j),H,I.tok _,#[_,rfl],q]) hz]
def Bo:iq X (iL .Add) (λx y H Q=>∃i j,x=.str i/\y=.str j/\i.length+j.length<=sizeLine/\Q (.str (i++j)) H):=by
 z_go;let#[i,j,rfl,rfl,hz,q]:=h;let#[t,rfl]:=rx;let#[t',rfl]:=ry;erw[iadd_str (λt' tk=>#[.str (i++j),H,I.tok _,#[_,rfl],q]) hz]
def vals1(r:Vals [x] us):∃u,us=[u]/\RelV x u:=by
 cases r with
 |cons r1 r2=>cases r2;exact#[_,rfl,r1]
def vals2(r:Vals [x,y] us):∃u w',us=[u,w']/\RelV x u/\RelV y w':=by
 cases r with
 |cons r1 r2=>
  cases r2 with
  |cons r3 r4=>cases r4;exact#[_,_,rfl,r1,r3]
abbrev Vp(K:aM)(x:V)(H:Hp)(n:Nat):Prop:=
 match x with
 |.str y=>y.length<=sizeLine/\n=y.length
 |.CK y=>y.size<=sizeLine/\n=y.size
 |.ref p=>(∃xs,iS K H p xs/\n=xs.length)\/∃xs,lD K H p xs/\n=xs.length
 |_=>False
def IA:iP X (.builtin "len") (λxs H Q=>∃x n,xs=[x]/\Vp X.K x H n/\Q (.int n) H):=by
 k_ne;let#[x,n,rfl,e,q]:=h;let#[u,rfl,rx]:=vals1 r;have hl:=pj;have hs:sizeLine=16777216:=lV;cases x with
 |str y=>
  let#[t,rfl]:=rx;obtain⟨hy,e'⟩:y.length<=sizeLine/\n=y.length:=e;subst e';erw[len_str ∅ #[.int _,H,I.tok _,#[_,rfl],q]]
 |CK y=>
  let#[t,rfl]:=rx;obtain⟨hy,e'⟩:y.size<=sizeLine/\n=y.size:=e;subst e';erw[PySem.W.len_bytes ∅ #[.int _,H,I.tok _,#[_,rfl],q]]
 |ref p=>
  cases rx;have e':(∃xs,iS X.K H p xs/\n=xs.length)\/∃xs,lD X.K H p xs/\n=xs.length:=e;rcases e' with⟨xs,hx,e'⟩|⟨xs,hx,e'⟩
  .subst e'
   let#[its,r',pl,hz]:=I.list hx;have hlen:=r'.length;erw[Calls.call_len_list pl.isList (by dsimp[aH];omega) #[.int xs.length,H,I.tok _,#[_,by dsimp[aH];rw[hlen]],q]]
  .subst e'
   let#[its,r',pl,hz]:=I.tuple hx;have hlen:=r'.length;erw[len_tuple pl (by dsimp[aH];omega) #[.int xs.length,H,I.tok _,#[_,by dsimp[aH];rw[hlen]],q]]
 |_=>exact(show False from e).elim
end
structure Dg(h:Heap)(x dx C:Addr)(mA:Str->Option Value):Prop where
 obj:h.get? x=ξ (fc C dx)
 ns:h.Ns1 dx mA
 ne:dx≠x
def Gj{h:Heap}{dx:Addr}{mA:Str->Option Value}(n:h.Ns1 dx mA):∃od,h.get? dx=ξ od/\∀name,pb name od=ξ (mA name):=by
 let#[o,es,ep,ho,hd,hk,_,hm]:=n;refine#[o,ho,λname=>?_];have e:=hm name;unfold nsFind findBy at e;rw[<-Array.find?_toList] at e;unfold pb;rw[hd]
 dsimp only;split
 .rename_i y q
  rw[q] at e;erw[congrArg ξ e]
 .rename_i q
  rw[q] at e;have a:es.toList.any (·.refKey)=ϑ:=by
   rw[List.any_eq_false]
   intro y hy;let#[z,t,hkey]:=hk y (Array.mem_toList_iff.mp hy);simp[DictEntry.refKey,hkey]
  have a':¬es.toList.any (·.refKey)=ζ:=%[a|aY]
  rw[if_neg a']
  erw[congrArg ξ e]
def Dg.look(I:Dg h x dx C mA):∃od,PySem.W.InstAt h x (fc C dx) C (ξ od)/\∀name,pb name od=ξ (mA name):=
 let ⟨od,ho,hl⟩:=Gj I.ns
 #[od,#[I.obj,rfl,rfl,ho],hl]
section
variable{prog:bQ}{w:cG}{A:eD}{E:Value->aE->Prop}{s:aE}{K:aM}{x dx C f:Addr}{mA:Str->Option Value}{name:Str}{v:Value}
def get_map(X:K.In s.heap)(I:Dg s.heap x dx C mA)(hg:mW K C name=ζ)(hh:rF K C=ζ)
  (ha:eL K (.ref C) name=ξ ψ) (hv:mA name=ξ v) (hv':FQ v=ζ) (h:Q v {s with toks:=s.toks+1}):
  wpAny (bf prog w) A (getAttr (.ref x) name expr) Q E s:=by
 let#[od,J,hl]:=I.look;erw[PySem.W.get_value X J (qr hg).1 (PySem.W.findObj_own hh ha rfl (by rw[hl,hv])) hv' h]
def IB(X:K.In s.heap)(I:Dg s.heap x dx C mA)(hg:mW K C name=ζ)
  (hf:eL K (.ref C) name=ξ (ξ (.ref f))) (ht:yX K (.ref f)=ζ) (hv:mA name=ψ) (h:Q (.ref f,[.ref x]) s):
  wpAny (bf prog w) A (yY (.ref x) name pl) Q E s:=by
 let#[od,J,hl]:=I.look;erw[PySem.W.method_fn X J (qr hg).1 (qr hg).2 hf (beq_iff_eq.mp ht) (by show(pb name od).map (·.isSome)=ξ ϑ;rw[hl,hv];rfl) h]
def MB(X:K.In s.heap)(I:Dg s.heap x dx C mA)
  (hs:eL K (.ref C) "__setattr__"=ξ (ξ (.builtin "object.__setattr__"))) (hp:Ey K C=ζ) (ht:uG K C name=ξ ψ) (hh:rF K C=ζ)
  (hw:A4 mA ns) (hsz:ns.length<=sizeLine)
  (h:∀h',Dg h' x dx C (λy=>if y=name then ξ v else mA y)->gD dx s.heap h'->Q () {s with heap:=h',toks:=s.toks+2}):
  wpAny (bf prog w) A (setAttr (.ref x) name v) Q E s:=by
 let#[od,J,hl]:=I.look;refine PySem.W.set_plain X J hs (PySem.W.osa_open (s:={s with toks:=s.toks+1}) (r:=ψ) X J hp ht λb=>?_);let#[cd,hc,hd']:=PySem.W.any_some hh;have hx:s.heap.get? x=ξ #[.ref C,ξ dx,.plain,#[]]:=I.obj;refine af (aB (af (af (wpAny_loadPart hx (af (PySem.W.Looks.here (s:={s with toks:=s.toks+1}) (PySem.W.looks_clsIn X hc) ?_))))));rw[hd']
 rwa[aB (a:=ξ dx) (af (aB (af ?_)))];refine wpAny_nsSet1 (s:={s with toks:=s.toks+1}) I.ns λh' hn2 hs2=>?_
 let#[oD,esD,epD,hoD,hdD,hcD]:=hn2.count (PySem.Within.cons name v hw);rwa[af (wpAny_lookBehind hoD (%[hdD|pastItsLine_dict (aI hcD (by rw[aS];omega))]) ?_)];erw[aB (h _ #[(hs2.2 _ (cM I.ne)).trans I.obj,hn2,I.ne] hs2)]
def IC(X:K.In s.heap)(hm:HD K C=ζ)
  (hi:eL K (.ref C) "__init__"=ξ (ξ (.ref f))) (hf:PySem.W.typeIn K (.ref f)=ξ (.type "function"))
  (h:qN (bf prog w) (A.under (.builtin "type.__call__" #[.ref C::vs,kw])) (.call (.ref f) #[.ref (s.heap.objs.size+1)::vs,kw]) (PySem.W.InitBack (s.heap.objs.size+1) R)
   {s with heap:=(s.heap.push dI).push (fc C s.heap.objs.size)}):
  qN (bf prog w) A (.call (.ref C) #[vs,kw]) R s:=by
 let#[hh,g,d,t,os]:=s;erw[PySem.W.make_core (PySem.W.makes_of X hm) (PySem.W.looks_findIn X hi) (λself=>PySem.W.bind_fn X self hf) (.inl rfl) h]
end
abbrev kQ(f:Str)(v:V):List (Str×V)->List (Str×V)
 |[]=>[(f,v)]
 | (g,x)::r=>if g=f then(g,v)::r else(g,x)::kQ f v r
def uk(f g:Str)(v:V):∀fs:List (Str×V),(kQ f v fs).lookup g=if g=f then ξ v else fs.lookup g
 |[]=>by
  show gx g [(f,v)]=_
  by_cases h:g=f
  .have hb:(g==f)=ζ:=beq_iff_eq.mpr h
   dsimp[gx,hb,if_pos h]
  .have hb:(g==f)=ϑ:=beq_eq_false_iff_ne.mpr h
   dsimp[gx,hb,if_neg h]
 | (k,x)::r=>by
  have ih:=uk f g v r;rw[show kQ f v ((k,x)::r)=(if k=f then(k,v)::r else(k,x)::kQ f v r) from rfl]
  by_cases hk:k=f
  .rw[if_pos hk]
   by_cases h:g=k
   .have hb:(g==k)=ζ:=beq_iff_eq.mpr h
    dsimp[gx,hb,if_pos (h.trans hk)]
   .have hb:(g==k)=ϑ:=beq_eq_false_iff_ne.mpr h
    dsimp[gx,hb,if_neg (λe:g=f=>h (e.trans hk.symm))]
  .rw[if_neg hk]
   by_cases h:g=k
   .have hb:(g==k)=ζ:=beq_iff_eq.mpr h
    dsimp[gx,hb,if_neg (λe:g=f=>hk (h.symm.trans e))]
   .have hb:(g==k)=ϑ:=beq_eq_false_iff_ne.mpr h
    dsimp[gx,hb];erw[ih]
def tB(f:Str)(v:V):∀fs:List (Str×V),f∈(kQ f v fs).map (·.1)/\∀g,g∈fs.map (·.1)->g∈(kQ f v fs).map (·.1)
 |[]=>#[by simp[kQ],λg h=>by simp at h]
 | (k,x)::r=>by
  let#[i1,i2]:=tB f v r;rw[show kQ f v ((k,x)::r)=(if k=f then(k,v)::r else(k,x)::kQ f v r) from rfl]
  by_cases hk:k=f
  .rw[if_pos hk]
   subst hk;exact#[#v[],λg h=>by simpa using h]
  .rw[if_neg hk]
   refine#[?_,λg h=>?_]
   .rw[aw]
    erw[az _ i1]
   .rw[aw] at h ⊢
    rcases aR.mp h with e|e
    .erw[aR.mpr (.inl e)]
    .erw[az _ (i2 g e)]
def um(f:Str)(v:V):∀fs:List (Str×V),(kQ f v fs).length<=fs.length+1
 |[]=>by simp[kQ]
 | (k,x)::r=>by
  have ih:=um f v r;rw[show kQ f v ((k,x)::r)=(if k=f then(k,v)::r else(k,x)::kQ f v r) from rfl]
  by_cases hk:k=f
  .rw[if_pos hk,aS,aS];omega
  .rw[if_neg hk,aS,aS];omega
def nU.some_of(r:nU (ξ v) o):∃u,o=ξ u/\RelV v u:=by
 cases o with
 |none=>exact(show False from r).elim
 |some u=>exact#[u,rfl,r]
def nU.none_of(r:nU ψ o):o=ψ:=by
 cases o with
 |none=>rfl
 |some u=>exact(show False from r).elim
def Gk(r:RelV v u):FQ u=ζ:=by
 cases v with
 |b7=>cases (show u=gw from r);rfl
 |bl b=>cases (show u=oQ b from r);rfl
 |int i=>let#[t,e]:=(show ∃t,u=lS i t from r);cases e;rfl
 |str x=>let#[t,e]:=(show ∃t,u=lT x t from r);cases e;rfl
 |CK b=>let#[t,e]:=(show ∃t,u=Value.bytes b t from r);cases e;rfl
 |Yk b=>let#[t,e]:=(show ∃t,u=Value.float b t from r);cases e;rfl
 |ref a=>cases (show u=bu a from r);rfl
 |ty n=>cases (show u=FP n from r);rfl
section
variable{P:bQ}{w:cG}{H H':Hp}{h h':Heap}{a C dx:Addr}{fs fs':List (Str×V)}
def zq(dQ:qw P w H h)(e:H a=ξ (.ins C dx fs)):∃mA,Dg h a dx C mA/\(∀f,nU (fs.lookup f) (mA f))/\A4 mA (fs.map (·.1))/\fs.length<=1000/\H dx=ξ (.own a):=by
 let#[d,z,ne,ob,mA,n,r,q]:=(show dZ P w H h a (.ins C dx fs) from dQ a _ e)
 exact#[mA,#[ob,n,ne],r,q,z,d]
end
structure xX(K:aM)(C:Addr):Prop where
 pg:mW K C Str.empty=ζ
 hd:rF K C=ζ
 po:Ey K C=ζ
 sa:eL K (.ref C) "__setattr__"=ξ (ξ (.builtin "object.__setattr__"))
def xX.get{K:aM}{C:Addr}(c:xX K C)(f:Str):mW K C f=ζ:=c.pg
abbrev mN(K:aM)(C:Addr)(f:Str):Prop:=eL K (.ref C) f=ξ ψ
def mN.Vq{K:aM}{C:Addr}{f:Str}(n:mN K C f):uG K C f=ξ ψ:=by
 unfold uG;rw[show eL K (.ref C) f=ξ ψ from n]
 rfl
structure Meth(K:aM)(C:Addr)(m:Str)(f:Addr):Prop where
 at_:eL K (.ref C) m=ξ (ξ (.ref f))
 fn:yX K (.ref f)=ζ
 kp:jE K (.ref f)=ζ
section
variable{X:Cx}{pZ:List (Addr×Obj)}{σ:St}{H:Hp}{s:aE}{a C dx:Addr}{fs:List (Str×V)}{f:Str}{v:V}{A:eD}{E:Value->aE->Prop}
def vA{b:Bool}{Q:Value->aE->Prop}(I:Inv X pZ σ H s)(e:H a=ξ (.ins C dx fs))(c:xX X.K C)(n:mN X.K C f)(l:fs.lookup f=ξ v)
  (h:∀u s',Inv X pZ σ H s'->RelV v u->Q u s'):wpAny (bf X.prog X.w) A (getAttr (.ref a) f b) Q E s:=by
 let#[mA,O,r,_,_,_]:=zq I.dQ e;let#[u,hu,ru]:=nU.some_of (v:=v) (o:=mA f) (by rw[<-l];erw[r f]);erw[get_map I.zk O (c.get f) c.hd n hu (Gk ru) (h u _ (I.tok _) ru)]
def vB{m:Str}{g:Addr}{pl:Sem Bool}{Q:Value×List Value->aE->Prop}(I:Inv X pZ σ H s)(e:H a=ξ (.ins C dx fs))(c:xX X.K C)(k:Meth X.K C m g)(l:fs.lookup m=ψ)
  (h:Q (.ref g,[.ref a]) s):wpAny (bf X.prog X.w) A (yY (.ref a) m pl) Q E s:=by
 let#[mA,O,r,_,_,_]:=zq I.dQ e;have hn:mA m=ψ:=nU.none_of (by rw[<-l];erw[r m]);erw[IB I.zk O (c.get m) k.at_ k.fn hn h]
def vC{y:V}{u:Value}{Q:Unit->aE->Prop}(I:Inv X pZ σ H s)(e:H a=ξ (.ins C dx fs))(c:xX X.K C)(n:mN X.K C f)(hl:fs.length<1000)(ry:RelV y u)
  (h:∀s',Inv X pZ σ (upd H a (.ins C dx (kQ f y fs))) s'->Q () s'):wpAny (bf X.prog X.w) A (setAttr (.ref a) f u) Q E s:=by
 let#[mA,O,r,wi,_,ho]:=zq I.dQ e;have hz:(fs.map (·.1)).length<=sizeLine:=by rw[ae,lV];omega
 rwa[MB I.zk O c.sa c.po n.Vq c.hd wi hz λh' O' sb=>h _ ?_]
 have hd:∃o,h'.get? dx=ξ o:=let ⟨o,_,_,e',_⟩:=O'.ns;#[o,e'];rwa[I.write (x:=a) (e:=dx) (%[e|eR]) (.inr ho) (λb q hb z=>(sb.2 b hb).trans z) hd ?_];refine#[%[cw O.ne|ho],?_,O.ne,O'.obj,_,O'.ns,λg=>?_,λg hg=>?_]
 .have:=um f y fs;omega
 .show nU ((kQ f y fs).lookup g) (if g=f then ξ u else mA g)
  rw[uk]
  by_cases q:g=f
  .rw[if_pos q,if_pos q];erw[ry]
  .rw[if_neg q,if_neg q];erw[r g]
 .by_cases q:g=f
  .rw[q];exact(tB f y fs).1
  .refine(tB f y fs).2 g (wi g λz=>hg ?_)
   show(if g=f then ξ u else mA g)=ψ
   rw[if_neg q];erw[z]
def Inv.made(I:Inv X pZ σ H s):Inv X pZ σ (upd (upd H s.heap.objs.size (.own (s.heap.objs.size+1))) (s.heap.objs.size+1) (.ins C s.heap.objs.size []))
  {s with heap:=(s.heap.push dI).push (fc C s.heap.objs.size)}:=by
 have e1:(s.heap.push dI).get? s.heap.objs.size=ξ dI:=bg s.heap rfl;have e2:((s.heap.push dI).push (fc C s.heap.objs.size)).get? (s.heap.objs.size+1)=ξ (fc C s.heap.objs.size):=by
  have:=bg (s.heap.push dI) (o:=fc C s.heap.objs.size) rfl
  rwa [iM] at this
 have e3:(s.heap.push dI).Ns s.heap.objs.size (λ_=>ψ):=#[dI,#[],_,e1,rfl,(λe he=>absurd he (#v[])),λ_=>rfl]
 have I1:=I.laid (a:=s.heap.objs.size) (o:=.own (s.heap.objs.size+1)) (h':=s.heap.push dI) (t':=s.toks) (λb u q=>aL _ q) (ao _) #[_,e1];rwa[I1.laid (a:=s.heap.objs.size+1) (o:=.ins C s.heap.objs.size []) (t':=s.toks) (λb u q=>aL _ q) (CV (iM _ _)) ?_];have ne:s.heap.objs.size≠s.heap.objs.size+1:=bb (cB _);refine#[by rw[cw ne,b9],bI _,ne,e2,λ_=>ψ,(Heap.Ns1.of_empty e3).at λo q=>aL _ q,λ_=>eR,λy hy=>absurd rfl hy]
def MC{prog:bQ}{w:cG}{env:Env}{e:Expr}{f:Str}{pos:Pos}{s:aE}{Q:Value->aE->Prop}(hb:iN e f env (eval e env)=eval e env)
  (h:wpAny (bf prog w) A (eval e env) (λo s₁=>wpAny (bf prog w) A (getAttr o f ζ) Q E s₁) E s):wpAny (bf prog w) A (eval (.Attribute e f pos) env) Q E s:=
 Attribute_any_ h (by rw[arm_eval_Attribute,hb])
end
abbrev Zg(K:aM)(ta:TE)(f:Str):TE:=λσ H Q=>ta σ H λx H1=>∃a C dx fs v,x=.ref a/\H1 a=ξ (.ins C dx fs)/\xX K C/\mN K C f/\fs.lookup f=ξ v/\Q v H1
abbrev Zh(K:aM)(ta tv:TE)(f:Str):TS:=λD σ H=>tv σ H λy H1=>ta σ H1 λx H2=>∃a C dx fs,x=.ref a/\H2 a=ξ (.ins C dx fs)/\xX K C/\mN K C f/\fs.length<1000 /\
 D.nx σ (upd H2 a (.ins C dx (kQ f y fs)))
abbrev Zi(X:Cx)(op:nN)(rd:V->V->Hp->VK->Prop):Prop:=
 ∀(pZ:List (Addr×Obj))(s:aE)(σ:St)(H:Hp)(x y:V)(u v:Value)(Q:VK),Inv X pZ σ H s->RelV x u->RelV y v->rd x y H Q->wpAny (bf X.prog X.w) X.A (iL op u v) (EP X pZ σ Q) X.xe s
abbrev MD(K:aM)(ta tv:TE)(rd:V->V->Hp->VK->Prop)(f:Str):TS:=λD σ H=>ta σ H λx H1=>∃a C dx fs v,x=.ref a/\H1 a=ξ (.ins C dx fs)/\xX K C/\mN K C f/\fs.lookup f=ξ v /\
 tv σ H1 λy H2=>rd v y H2 λz H3=>∃dx' fs',H3 a=ξ (.ins C dx' fs')/\fs'.length<1000/\D.nx σ (upd H3 a (.ins C dx' (kQ f z fs')))
section
variable{X:Cx}{o e value:Expr}{f:Str}{pos pos' tpos:Pos}{ta tv:TE}
def QF(he:PE X e ta)(hb:iN e f X.env (eval e X.env)=eval e X.env):PE X (.Attribute e f pos) (Zg X.K ta f):=by
 w_up;rwa[MC hb (eY (he pZ s σ H _ I h) λu s1 h9=>?_)];let#[x,H1,I1,rx,a,C,dx,fs,v,ex,ea,c,n,l,q]:=h9;subst ex;obtain rfl:u=bu a:=rx;erw[vA I1 ea c n l λu' s2 I2 ru=>#[v,H1,I2,ru,q]]
def QG(ha:PE X o ta)(hv:PE X value tv)(hs:iK value (ξ (.Attribute o f pos')) pos.line X.env=pure ϑ):PS X (.Assign [.Attribute o f pos'] value pos) (Zh X.K ta tv f):=by
 intro pZ s σ H D I h;rwa[plainObj_wpAny_Assign_Attribute (eY (hv pZ s σ H _ I h) λu s1 h9=>?_) hs];let#[y,H1,I1,ry,q]:=h9;rwa[eY (ha pZ s1 σ H1 _ I1 q) λov s2 h9=>?_]
 let#[x,H2,I2,rx,a,C,dx,fs,ex,ea,c,n,l,q2]:=h9;subst ex;obtain rfl:ov=bu a:=rx;erw[vC I2 ea c n l ry λs3 I3=>#[σ,_,I3,q2]]
def Gm{op:nN}{rd:V->V->Hp->VK->Prop}(ha:PE X o ta)(hv:PE X value tv)(hop:Zi X op rd):PS X (.AugAssign (.Attribute o f tpos) op value pos) (MD X.K ta tv rd f):=by
 intro pZ s σ H D I h;rwa[wpAny_AugAssign_AttributeAny (eY (ha pZ s σ H _ I h) λov s1 h9=>?_)];let#[x,H1,I1,rx,a,C,dx,fs,v,ex,ea,c,n,l,q]:=h9;subst ex;obtain rfl:ov=bu a:=rx;rwa[vA I1 ea c n l λu s2 I2 ru=>eY (hv pZ s2 σ H1 _ I2 q) λw3 s3 h9=>?_]
 let#[y,H2,I3,ry,q3]:=h9;rwa[eY (hop pZ s3 σ H2 v y u w3 _ I3 ru ry q3) λw4 s4 h9=>?_]
 let#[z,H3,I4,rz,dx',fs',ea',l',q4]:=h9;erw[vC I4 ea' c n l' rz λs5 I5=>#[σ,_,I5,q4]]
end
structure jT(k:Nat)(A:eD):Prop where
 hd:A.handled=ψ
 dp:A.depth+3*k+5<recursionLimit
 un:A.units+16*k+200<fH
def jT.mono(r:jT k A)(h:j<=k):jT j A:=#[r.hd,by have:=r.dp;omega,by have:=r.un;omega]
def jT.deeper(r:jT (k+1) A)(env:Env):jT k (A.deeper env):=
 #[r.hd,by have:=r.dp;show A.depth+1+3*k+5<_;omega,by have:=r.un;show A.units+3+16*k+200<_;omega]
def Dh{A:eD}{C:Addr}{us:List Value}{kw:List (Str×Value)}:(A.under (.builtin "type.__call__" #[.ref C::us,kw])).depth=A.depth+1:=by
 first|rfl|simp[AK,Code.weight,Code.isCreation,Code.isGuard,Code.isCaller,Code.frames,Ct,guardIds]
def Di{A:eD}{C:Addr}{us:List Value}{kw:List (Str×Value)}:(A.under (.builtin "type.__call__" #[.ref C::us,kw])).units=A.units+1:=by
 first|rfl|simp[AK,Code.cUnits,Code.frames,Ct]
def jT.make(r:jT (k+1) A)(C:Addr)(us:List Value)(kw:List (Str×Value)):jT k (A.under (.builtin "type.__call__" #[.ref C::us,kw])):=
 #[r.hd,by have:=r.dp;rw[Dh];omega,by have:=r.un;rw[Di];omega]
def jT.depth(r:jT k A):A.depth<recursionLimit:=by have:=r.dp;omega
abbrev ME:TA:=λ_ H Q=>Q [] H
abbrev Vr(ta:TE)(tr:TA):TA:=λσ H Q=>ta σ H λx H1=>tr σ H1 λxs H2=>Q (x::xs) H2
section
variable{X:Cx}{e:Expr}{es:List Expr}{te:TE}{t:TA}{pos:Pos}
def vD:PA X [] ME:=λ_ _ _ _ H Q I h=>mU #[[],H,I,.nil,h]
def pS(ha:PE X e te)(hr:PA X es t)(hs:bD (e::es) X.env=(ϑ,eval e X.env)::bD es X.env:=by rfl):PA X (e::es) (Vr te t):=by
 intro pos pZ s σ H Q I h;rw[hs]
 show wpAny _ _ (spliced ((ϑ,eval e X.env)::fP pos (bD es X.env))) _ _ s
 rwa[jw (eY (ha pZ s σ H _ I h) λu s1 h9=>?_)];let#[x,H1,I1,r1,q1]:=h9;rwa[eY (hr pos pZ s1 σ H1 _ I1 q1) λus s2 h9=>?_]
 let#[xs,H2,I2,r2,q2]:=h9;exact#[x::xs,H2,I2,.cons r1 r2,q2]
abbrev Zj(t:TA):TE:=λσ H Q=>t σ H λxs H1=>xs.length<=sizeLine/\∀p,H1 p=ψ->Q (.ref p) (upd H1 p (.tup xs))
abbrev Zk(t:TA):TE:=λσ H Q=>t σ H λxs H1=>xs.length<=sizeLine/\∀p,H1 p=ψ->Q (.ref p) (upd H1 p (.lst xs))
def QH{x1}(h:PA X es t):PE X (.Tuple es x1 pos) (Zj t):=by
 intro pZ s σ H Q I hq;rwa[wpAny_Tuple_spliced (eY (h pos pZ s σ H _ I hq) λus s1 h9=>?_)];let#[xs,H1,I1,r,z,q]:=h9;refine#[by rw[<-r.length];erw[z],?_];have hf:H1 s1.heap.objs.size=ψ:=I1.dQ.fresh (ao _);refine#[.ref s1.heap.objs.size,upd H1 s1.heap.objs.size (.tup xs),I1.laid (t':=s1.toks) (λb u e=>aL _ e) (ao _) ?_,rfl,q _ hf];exact#[z,us,r,zh.new _ _]
def QJ(h:PA X es t):PE X (.List es pos) (Zk t):=by
 intro pZ s σ H Q I hq;rwa[wpAny_List_spliced (eY (h pos pZ s σ H _ I hq) λus s1 h9=>?_)];let#[xs,H1,I1,r,z,q]:=h9;refine#[by rw[<-r.length];erw[z],?_];have hf:H1 s1.heap.objs.size=ψ:=I1.dQ.fresh (ao _);refine#[.ref s1.heap.objs.size,upd H1 s1.heap.objs.size (.lst xs),I1.laid (t':=s1.toks) (λb u e=>aL _ e) (ao _) ?_,rfl,q _ hf];exact#[z,us,0,r,bg _ rfl]
end
@[reducible]def Sp:=List V->Hp->VK->XK->Prop
@[reducible]def HN:=List Env->Hp->aE->XK->Value->aE->Prop
structure Dj(P:bQ)(w:cG)(K:aM)(mg:Str->Option Value)(base:Heap)(A:eD)(outer:List Env)(s:aE)(H:Hp):Prop where
 frames:A.frames=ξ outer
 mod:Mod K mg base
 bs:∀b o,base.get? b=ξ o->s.heap.get? b=ξ o/\H b=ψ
 Mm:base.objs.size<=s.heap.objs.size
 uM:s.heap.FunFrames base outer
 P6:∀b∈HM outer,H b=ψ
 dQ:qw P w H s.heap
 bare:qL s.gens
abbrev CE(outer:List Env)(P:bQ)(w:cG)(H:Hp)(s:aE)(Q:VK)(u:Value)(s':aE):Prop:=
 ∃v H',s'.os=s.os/\qL s'.gens/\Un (HM outer) [] H H' s.heap s'.heap/\qw P w H' s'.heap/\RelV v u/\Q v H'
abbrev CR(CX:HN)(outer:List Env)(P:bQ)(w:cG)(H:Hp)(s:aE)(Q:VK)(E:XK)(r:Result)(s':aE):Prop:=
 match r with
 |.ok (.ret u)=>CE outer P w H s Q u s'
 |.ok _=>False
 |.error e=>CX outer H s E e s'
structure jU(P:bQ)(w:cG)(K:aM)(mg:Str->Option Value)(base:Heap)(CX:HN)(k:Nat)(f:Addr)(fd:fT)(ps:List Str)(sp:Sp):Prop where
 len:∀vs H Q E,sp vs H Q E->vs.length=ps.length
 run:∀(A:eD)(outer:List Env)(s:aE)(H:Hp)(args:Args)(us:List Value)(vs:List V)(Q:VK)(E:XK),jT k A->Dj P w K mg base A outer s H->Cu s fd args (ps.zip us)->Vals vs us->sp vs H Q E ->
  qN (bf P w) A (.call (.ref f) args) (CR CX outer P w H s Q E) s
def jU.mono{P:bQ}{w:cG}{K:aM}{mg:Str->Option Value}{base:Heap}{CX:HN}{j k:Nat}{f:Addr}{fd:fT}{ps:List Str}{sp:Sp}(F:jU P w K mg base CX j f fd ps sp)(h:j<=k):
  jU P w K mg base CX k f fd ps sp:=#[F.len,λA outer s H args us vs Q E hr=>F.run A outer s H args us vs Q E (hr.mono h)]
def jU.imp{P:bQ}{w:cG}{K:aM}{mg:Str->Option Value}{base:Heap}{CX:HN}{k:Nat}{f:Addr}{fd:fT}{ps:List Str}{sp sp':Sp}(F:jU P w K mg base CX k f fd ps sp)
  (h:∀vs H Q E,sp' vs H Q E->sp vs H Q E):jU P w K mg base CX k f fd ps sp':=
 #[λvs H Q E q=>F.len vs H Q E (h _ _ _ _ q),λA outer s H args us vs Q E hr he hb hv hs=>F.run A outer s H args us vs Q E hr he hb hv (h _ _ _ _ hs)]
def Dj.make{P:bQ}{w:cG}{K:aM}{mg:Str->Option Value}{base:Heap}{A:eD}{outer:List Env}{s:aE}{H:Hp}(e:Dj P w K mg base A outer s H)(C:Addr)(us:List Value)(kw:List (Str×Value)):
  Dj P w K mg base (A.under (.builtin "type.__call__" #[.ref C::us,kw])) outer s H:=#[by first|exact e.frames| (simpa[AK,Code.envs,Ct,pushEnvs] using e.frames),e.mod,e.bs,e.Mm,e.uM,e.P6,e.dQ,e.bare]
section
variable{X:Cx}{pZ:List (Addr×Obj)}{σ:St}{H:Hp}{s s':aE}
def Inv.Vs(I:Inv X pZ σ H s):Dj X.prog X.w X.K X.mg X.base X.A X.stack s H:=
 #[I.ok.frames,I.ok.mod,I.bs,aI I.ok.Mm I.sz,I.stack,I.EC,I.dQ,I.bare]
def Inv.after(I:Inv X pZ σ H s)(h:CE X.stack X.prog X.w H s Q u s'):EP X pZ σ Q u s':=by
 let#[v,H',os,bare,un,dQ,r,q]:=h;let#[hh,g,d,t,os']:=s';obtain rfl:os'=s.os:=os;exact#[v,H',I.call (h':=hh) (g':=g) (d':=d) (t':=t) (ch:=[]) un dQ bare (λb z=>absurd z (#v[])),r,q]
end
abbrev ID(sp:Sp)(dvs:List V)(E:XK)(t:TA):TE:=λσ H Q=>t σ H λvs H1=>sp (vs++dvs) H1 Q E
abbrev IE(C:Addr)(m:Str)(sp:Sp)(dvs:List V)(E:XK)(ta:TE)(t:TA):TE:=λσ H Q=>ta σ H λx H1=>∃a dx fs,x=.ref a/\H1 a=ξ (.ins C dx fs)/\fs.lookup m=ψ /\
 t σ H1 λvs H2=>sp (x::(vs++dvs)) H2 Q E
abbrev IF(C:Addr)(sp:Sp)(dvs:List V)(E:XK)(t:TA):TE:=λσ H Q=>t σ H λvs H1=>∀x dx,H1 x=ψ->H1 dx=ψ->dx≠x ->
 sp (.ref x::(vs++dvs)) (upd (upd H1 dx (.own x)) x (.ins C dx [])) (λv H2=>v=.b7/\Q (.ref x) H2) E
abbrev Binds(K:aM)(fd:fT)(ps:List Str)(ds:List Value):Prop:=
 ∀(s:aE)(us:List Value),K.In s.heap->(us++ds).length=ps.length->Cu s fd #[us,[]] (ps.zip (us++ds))
def Binds.all{K:aM}{fd:fT}{ps:List Str}(h:∀us:List Value,us.length=ps.length->Mc fd #[us,[]]=pure (ps.zip us)):Binds K fd ps []:=λs us _ hl=>by
 rw[cz] at hl ⊢;erw[.of_eq (h us hl)]
abbrev Passes(CX:HN)(X:Cx)(E:XK):Prop:=∀(pZ:List (Addr×Obj))(σ:St)(H:Hp)(s:aE)(e:Value)(s':aE),Inv X pZ σ H s->CX X.stack H s E e s'->X.xe e s'
section
variable{X:Cx}{CX:HN}{k:Nat}{f C:Addr}{fd:fT}{ps:List Str}{sp:Sp}{dvs:List V}{ds:List Value}{E:XK}{x m:Str}{p pos apos:Pos}{e o:Expr}{es:List Expr}{ta:TE}{t:TA}
def zr{pZ:List (Addr×Obj)}{σ:St}{H:Hp}{s:aE}{Q:VK}{us:List Value}{vs:List V}(F:jU X.prog X.w X.K X.mg X.base CX k f fd ps sp)(hr:jT k X.A)(hb:Binds X.K fd ps ds)(hd:Vals dvs ds)(hx:Passes CX X E)
  (I:Inv X pZ σ H s) (r:Vals vs us) (h:sp (vs++dvs) H Q E):wpAny (bf X.prog X.w) X.A (call (.ref f) us) (EP X pZ σ Q) X.xe s:=by
 have r2:Vals (vs++dvs) (us++ds):=r.append hd;have hl:(us++ds).length=ps.length:=by rw[<-r2.length];erw[F.len _ _ _ _ h]
 rwa[wpAny_call (xj (F.run X.A X.stack s H #[us,[]] (us++ds) (vs++dvs) Q E hr I.Vs (hb s us I.zk hl) r2 h) λr s' hq=>?_)];cases r with
 |error e=>erw[hx pZ σ H s e s' I hq]
 |ok fl=>
  cases fl with
  |ret u=>erw[I.after hq]
  |next=>erw[aW hq]
  |brk=>erw[aW hq]
  |cont=>erw[aW hq]
def MF(F:jU X.prog X.w X.K X.mg X.base CX k f fd ps sp)(hr:jT k X.A)(hg:Gl X x)(hm:X.mg x=ξ (.ref f))(hk:jE X.K (.ref f)=ζ)(hb:Binds X.K fd ps ds)(hd:Vals dvs ds)(hx:Passes CX X E)
  (ha:PA X (e::es) t) (hdb:(x==("__debug__":Str))=ϑ:=by decide) (he:bD (e::es) X.env=(ϑ,eval e X.env)::bD es X.env:=by rfl) (hpl:(fP pos (bD es X.env)).any (·.1)=ϑ:=by rfl):
  PE X (.Call (.Name x p) (e::es) [] pos) (ID sp dvs E t):=by
 w_up;rwa[fD (rN I hg hm ?_ hdb)];rwa[qO (h₀:=X.base) I.ok.mod.US hk (eY (ha pos pZ s σ H _ I h) λus s1 h9=>?_) he hpl];let#[vs,H1,I1,r,q]:=h9;refine#[I1.zk,?_];erw[zr F hr hb hd hx I1 r q]
def IG(F:jU X.prog X.w X.K X.mg X.base CX k f fd ps sp)(hr:jT k X.A)(hg:Gl X x)(hm:X.mg x=ξ (.ref f))(hk:jE X.K (.ref f)=ζ)(hb:Binds X.K fd ps ds)(hd:Vals dvs ds)(hx:Passes CX X E)
  (hdb:(x==("__debug__":Str))=ϑ:=by decide):PE X (.Call (.Name x p) [] [] pos) (ID sp dvs E ME):=by
 w_up;rwa[fD (rN I hg hm ?_ hdb)];erw[qt I.zk hk (zr (us:=[]) F hr hb hd hx I .nil h)]
def MG{pl:Sem Bool}(he:PE X o ta)(c:xX X.K C)(hm:Meth X.K C m f)(F:jU X.prog X.w X.K X.mg X.base CX k f fd ps sp)(hr:jT k X.A)(hb:Binds X.K fd ps ds)(hd:Vals dvs ds)(hx:Passes CX X E)(ha:PA X (e::es) t)
  (hst:bD (e::es) X.env=(ϑ,eval e X.env)::bD es X.env:=by rfl) (hpl:(fP pos (bD es X.env)).any (·.1)=ϑ:=by rfl)
  (ht:eval (.Call (.Attribute o m apos) (e::es) [] pos) X.env=(do
   let ov <-eval o X.env
   standAt apos.atName
   let (f,first) <-holding [ov] (yY ov m pl)
   callWith pos f first (fP pos (bD (e::es) X.env)) (backToKw pos (gS [] X.env))):=by rfl):
  PE X (.Call (.Attribute o m apos) (e::es) [] pos) (IE C m sp dvs E ta t):=by
 w_up;refine AL (pl:=pl) (eY (he pZ s σ H _ I h) λu s1 h9=>?_) ht;let#[x,H1,I1,rx,a,dx,fs,ex,ea,l,q]:=h9;subst ex;obtain rfl:u=bu a:=rx;refine vB I1 ea c hm l ?_;refine qO (first:=[.ref a]) (h₀:=X.base) I.ok.mod.US hm.kp (eY (ha pos pZ s1 σ H1 _ I1 q) λus s2 h9=>?_) hst hpl;obtain⟨vs,H2,I2,r,q2⟩:=h9;refine#[I2.zk,?_];exact zr (us:=.ref a::us) (vs:=.ref a::vs) F hr hb hd hx I2 (.cons rfl r) q2
def II(he:PE X o ta)(c:xX X.K C)(hm:Meth X.K C m f)(F:jU X.prog X.w X.K X.mg X.base CX k f fd ps sp)(hr:jT k X.A)(hb:Binds X.K fd ps ds)(hd:Vals dvs ds)(hx:Passes CX X E)
  (ht:eval (.Call (.Attribute o m apos) [] [] pos) X.env=(do
   let ov <-eval o X.env
   standAt apos.atName
   let (f,first) <-holding [ov] (yY ov m pl)
   callWith pos f first (fP pos (bD [] X.env)) (backToKw pos (gS [] X.env))):=by rfl):
  PE X (.Call (.Attribute o m apos) [] [] pos) (IE C m sp dvs E ta ME):=by
 w_up;refine AL (pl:=pl) (eY (he pZ s σ H _ I h) λu s1 h9=>?_) ht;let#[x,H1,I1,rx,a,dx,fs,ex,ea,l,q]:=h9;subst ex;obtain rfl:u=bu a:=rx;refine vB I1 ea c hm l ?_;exact qt (first:=[.ref a]) I1.zk hm.kp (zr (us:=[.ref a]) (vs:=[.ref a]) F hr hb hd hx I1 (.cons rfl .nil) q)
structure Mk(K:aM)(C f:Addr):Prop where
 makes:HD K C=ζ
 init:eL K (.ref C) "__init__"=ξ (ξ (.ref f))
 fn:yX K (.ref f)=ζ
 kp:jE K (.ref C)=ζ
def Bp(M:Mk X.K C f)(F:jU X.prog X.w X.K X.mg X.base CX k f fd ps sp)(hr:jT (k+1) X.A)(hb:Binds X.K fd ps ds)(hd:Vals dvs ds)
  (hx:Passes CX X E) (I:Inv X pZ σ H s) (r:Vals vs us)
  (h:∀x dx,H x=ψ->H dx=ψ->dx≠x->sp (.ref x::(vs++dvs)) (upd (upd H dx (.own x)) x (.ins C dx [])) (λv H2=>v=.b7/\Q (.ref x) H2) E):
  wpAny (bf X.prog X.w) X.A (call (.ref C) us) (EP X pZ σ Q) X.xe s:=by
 have hq:=h (s.heap.objs.size+1) s.heap.objs.size (I.dQ.fresh (iR _)) (I.dQ.fresh (ao _)) (bb (cB _));have I2:=Inv.made (C:=C) I;have r2:Vals (V.ref (s.heap.objs.size+1)::(vs++dvs)) (bu (s.heap.objs.size+1)::(us++ds)):=.cons rfl (r.append hd);have hl:(bu (s.heap.objs.size+1)::us++ds).length=ps.length:=by
  have e:=r2.length;rw[F.len _ _ _ _ hq] at e;erw[e.symm]
 refine wpAny_call (IC (f:=f) I.zk M.makes M.init (beq_iff_eq.mp M.fn) (xj (F.run _ X.stack _ _ #[bu (s.heap.objs.size+1)::us,[]] (bu (s.heap.objs.size+1)::(us++ds)) _ _ E (hr.make C us [])
  (I2.Vs.make C us []) (hb _ (bu (s.heap.objs.size+1)::us) I2.zk hl) r2 hq) λr s' hq'=>?_))
 cases r with
 |error e=>erw[hx pZ σ _ _ e s' I2 hq']
 |ok fl=>
  cases fl with
  |ret u=>
   let#[v,H',I3,rv,ev,q3]:=I2.after hq';subst ev;exact#[rv,#[V.ref (s.heap.objs.size+1),H',I3,rfl,q3]]
  |next=>erw[aW hq']
  |brk=>erw[aW hq']
  |cont=>erw[aW hq']
def MH(M:Mk X.K C f)(F:jU X.prog X.w X.K X.mg X.base CX k f fd ps sp)(hr:jT (k+1) X.A)(hg:Gl X x)(hm:X.mg x=ξ (.ref C))(hb:Binds X.K fd ps ds)(hd:Vals dvs ds)(hx:Passes CX X E)
  (ha:PA X (e::es) t) (hdb:(x==("__debug__":Str))=ϑ:=by decide) (he:bD (e::es) X.env=(ϑ,eval e X.env)::bD es X.env:=by rfl) (hpl:(fP pos (bD es X.env)).any (·.1)=ϑ:=by rfl):
  PE X (.Call (.Name x p) (e::es) [] pos) (IF C sp dvs E t):=by
 w_up;rwa[fD (rN I hg hm ?_ hdb)];rwa[qO (h₀:=X.base) I.ok.mod.US M.kp (eY (ha pos pZ s σ H _ I h) λus s1 h9=>?_) he hpl];let#[vs,H1,I1,r,q]:=h9;refine#[I1.zk,?_];erw[Bp M F hr hb hd hx I1 r q]
def IJ(M:Mk X.K C f)(F:jU X.prog X.w X.K X.mg X.base CX k f fd ps sp)(hr:jT (k+1) X.A)(hg:Gl X x)(hm:X.mg x=ξ (.ref C))(hb:Binds X.K fd ps ds)(hd:Vals dvs ds)(hx:Passes CX X E)
  (hdb:(x==("__debug__":Str))=ϑ:=by decide):PE X (.Call (.Name x p) [] [] pos) (IF C sp dvs E ME):=by
 w_up;rwa[fD (rN I hg hm ?_ hdb)];erw[qt I.zk M.kp (Bp (us:=[]) M F hr hb hd hx I .nil h)]
end
structure me(N P:List Str)(sc:kO):Prop where
 kind:sc.kind=.function
 co:sc.isCoroutine=ϑ
 gen:sc.isGenerator=ϑ
 nd:N.Nodup
 pre:N.take P.length=P
 par:∀x∈P,sc.names.lookup x=ξ .local\/sc.names.lookup x=ξ .cell
 QK:∀y∈sc.names,y.2≠.free
def xY{kindOf:Str->Option NameKind}{x:Str}:∀{binds:List (Str×Value)}{m:Str->Option Value},(∀v,(x,v)∉binds)->HE kindOf binds m x=m x
 |[],_,_=>rfl
 | (n,v)::r,m,h=>by
  unfold HE;rw[xY λw hw=>h w (az _ hw)]
  split
  .have:x≠n:=by rintro rfl;erw[h v aO]
   simp[this]
  .rfl
def xZ{kindOf:Str->Option NameKind}{x:Str}:∀{binds:List (Str×Value)}{m:Str->Option Value},(∀v,(x,v)∉binds)->HF kindOf binds m x=m x
 |[],_,_=>rfl
 | (n,v)::r,m,h=>by
  unfold HF;rw[xZ λw hw=>h w (az _ hw)]
  split
  .rfl
  .have:x≠n:=by rintro rfl;erw[h v aO]
   simp[this]
def ya{kindOf:Str->Option NameKind}{x:Str}{v:Value}:∀{P:List Str}{vs:List Value}{i:Nat}{m:Str->Option Value},P.Nodup->P[i]?=ξ x->vs[i]?=ξ v->kindOf x=ξ .local ->
  HE kindOf (P.zip vs) m x=ξ v
 |[],_,_,_,_,h,_,_=>by simp at h
 |_::_,[],_,_,_,_,h,_=>by simp at h
 |p::P,w::vs,0,m,nd,h1,h2,hk=>by
  simp at h1 h2;subst h1;subst h2;show HE kindOf ((p,w)::P.zip vs) m p=_;unfold HE;rw[xY λv hv=>(fE.mp nd).1 (wW hv).1,if_pos hk]
  simp
 |p::P,w::vs,i+1,m,nd,h1,h2,hk=>by
  show HE kindOf ((p,w)::P.zip vs) m x=_
  unfold HE;exact ya (i:=i) (fE.mp nd).2 (~~~h1) (~~~h2) hk
def yb{kindOf:Str->Option NameKind}{x:Str}{v:Value}:∀{P:List Str}{vs:List Value}{i:Nat}{m:Str->Option Value},P.Nodup->P[i]?=ξ x->vs[i]?=ξ v->kindOf x≠ξ .local ->
  HF kindOf (P.zip vs) m x=ξ v
 |[],_,_,_,_,h,_,_=>by simp at h
 |_::_,[],_,_,_,_,h,_=>by simp at h
 |p::P,w::vs,0,m,nd,h1,h2,hk=>by
  simp at h1 h2;subst h1;subst h2;show HF kindOf ((p,w)::P.zip vs) m p=_;unfold HF;rw[xZ λv hv=>(fE.mp nd).1 (wW hv).1,if_neg hk]
  simp
 |p::P,w::vs,i+1,m,nd,h1,h2,hk=>by
  show HF kindOf ((p,w)::P.zip vs) m x=_
  unfold HF;exact yb (i:=i) (fE.mp nd).2 (~~~h1) (~~~h2) hk
abbrev start(N:List Str)(vs:List V):St:=vs.map ξ++l7 (N.length-vs.length) ψ
abbrev Dk(CX:HN)(P:bQ)(w:cG)(K:aM)(mg:Str->Option Value)(base:Heap)(N:List Str)(qual:Str)(scope:kO)(f:Addr)(cd:Value)(A:eD)(outer:List Env)(s:aE)(H:Hp)(E:XK):Cx where
 prog:=P
 w:=w
 K:=K
 mg:=mg
 base:=base
 A:=A.deeper (tj qual scope s.heap.objs.size f cd)
 N:=N
 s₀:=s
 H₀:=H
 env:=tj qual scope s.heap.objs.size f cd
 outer:=outer
 stack:=tj qual scope s.heap.objs.size f cd::outer
 ex:=[]
 calm:=ζ
 fn:=λ_=>ζ
 pn:=[]
 xe:=λe s'=>wpAny (bf P w) (A.deeper (tj qual scope s.heap.objs.size f cd)) (leaving (tj qual scope s.heap.objs.size f cd) e) (λ_ s''=>CX outer H s E e s'') (λe' s''=>CX outer H s E e' s'') s'
def Bq{sc:kO}{n:Nat}{x:Str}(h:sc.names.lookup x=ξ .cell):∃c,(jx n sc.names []).lookup x=ξ c:=by
 have q:=yZ sc.names n [] (.inl h);erw[xI.mp q]
def Gn{CX:HN}{P:bQ}{w:cG}{K:aM}{mg:Str->Option Value}{base:Heap}{N ps:List Str}{qual:Str}{scope:kO}{f:Addr}{cd:Value}{A:eD}{outer:List Env}{s s1:aE}{H:Hp}{E:XK}{us:List Value}{vs:List V}
  (S:me N ps scope) (hd:A.handled=ψ) (e0:Dj P w K mg base A outer s H) (hl:vs.length=ps.length) (r:Vals vs us)
  (x:InCallC s s.heap.objs.size (HE (tj qual scope s.heap.objs.size f cd).kindOf (ps.zip us) λ_=>ψ) (jx (s.heap.objs.size+1) scope.names []) (HF (tj qual scope s.heap.objs.size f cd).kindOf (ps.zip us) λ_=>ψ) s1):
  Inv (Dk CX P w K mg base N qual scope f cd A outer s H E) [] (start N vs) H s1:=by
 have hpl:ps.length<=N.length:=by have:=congrArg cD S.pre;rw[dD] at this;omega
 let#[h1,tk,rfl,hk]:=x.done;have noA:∀b:Addr,b∉(Dk CX P w K mg base N qual scope f cd A outer s H E).ex:=λb z=>absurd (show b∈([]:List Addr) from z) (#v[])
 refine#[#[e0.mod,S.kind,rfl,rfl,ao _,λy z c h1 h2=>?_,λy hy=>?_,λy c _ h=>?_,λ_=>hd,Around.frames_deeper e0.frames,.inr #[rfl,rfl],λb z=>absurd z (noA b),e0.bs,e0.Mm,λb _ _=>noA b,λb z=>absurd z (noA b),e0.uM,e0.P6],
  rfl,e0.bare,Un.kept hk,#[_,x.toInCall.ns,λi y v h1 h2 h3=>?_],λy c h=>#[_,x.cell y c h],e0.dQ.fresh (ao _),λy c h=>?_,λp hp=>absurd (show p∈([]:List (Addr×Obj)) from hp) (#v[]),e0.dQ.kept hk,?_]
 .erw[name_of_addr x.apart (dk h1) (dk h2)]
 .have hy:scope.names.lookup y=ξ .cell\/scope.names.lookup y=ξ .free:=hy
  rcases hy with hy|hy
  .erw[Bq hy]
  .erw[absurd rfl (S.QK _ (dk hy))]
 .erw[bZ (x.above y c (dk h))]
 .have hi:i<vs.length:=by
   unfold start at h2;by_cases hi:i<vs.length
   .erw[hi]
   .rw[aA (~~~hi)] at h2
    rw[A6] at h2;split at h2<;>cases h2
  have ha:vs[i]?=ξ v:=by
   unfold start at h2;rw[ah (~~~hi),ar] at h2;cases e:vs[i]? with
   |none=>rw[e] at h2;cases h2
   |some a=>rw[e] at h2;cases h2;rfl
  let#[u,hu,rv]:=r.get ha;have hp:ps[i]?=ξ y:=by
   rw[<-S.pre,AM ∅];erw[h1]
  have ndP:ps.Nodup:=by rw[<-S.pre];erw[S.nd.sublist (List.take_sublist _ _)]
  refine#[u,rv,?_];rcases S.par y (ag hp) with k|k
  .erw[.inl #[k,ya ndP hp hu k]]
  .let#[c,e]:=Bq (n:=s.heap.objs.size+1) k
   rwa[.inr #[.inl k,c,e,?_]];have q:=x.cell y c e;rw[yb ndP hp hu (by show scope.names.lookup y≠_;rw[k];decide)] at q;erw[q]
 .erw[e0.dQ.fresh (bZ (x.above y c (dk h)))]
 .unfold start
  show _=N.length
  rw[aq,ae,CW]
  omega
def Vt{CX:HN}{P:bQ}{w:cG}{K:aM}{mg:Str->Option Value}{base:Heap}{k:Nat}{f:Addr}{name qual:Str}{params:Arguments}{body:List Stmt}{scope:kO}{dV kV doc pm cdv ct oc:Value}{an od:Option Addr}
  {osl:Array (Option Value)}{N ps:List Str}{sp:Sp} (lk:K.lookup f=ξ #[oc,od,.func (kX name qual params body scope dV kV doc pm an cdv ct),osl]) (hcd:vo K cdv qual=ζ) (S:me N ps scope)
  (len:∀vs H Q E,sp vs H Q E->vs.length=ps.length)
  (hbody:∀(A:eD)(outer:List Env)(s:aE)(H:Hp)(vs:List V)(Q:VK)(E:XK),jT k (A.deeper (tj qual scope s.heap.objs.size f cdv))->sp vs H Q E ->
   ∃t,u5 (Dk CX P w K mg base N qual scope f cdv A outer s H E) body t/\t {nx:=λ_ H'=>Q .b7 H',rt:=Q} (start N vs) H):
  jU P w K mg base CX (k+1) f (kX name qual params body scope dV kV doc pm an cdv ct) ps sp:=by
 refine#[len,λA outer s H args us vs Q E hr e0 hb r hsp=>?_];have hl:=len _ _ _ _ hsp;have KX:K.In s.heap:=e0.mod.US.keeps λb o e=>(e0.bs b o e).1
 have lim:s.heap.NoLimit:=e0.mod.nolimit.keeps λb o e=>(e0.bs b o e).1
 have hkind:∀y∈ps.zip us,scope.names.lookup y.1=ξ .local\/(scope.names.lookup y.1=ξ .cell/\((jx (s.heap.objs.size+1) scope.names []).lookup y.1).isSome=ζ):=λ⟨n,v⟩ hy=>by
  rcases S.par n (wW hy).1 with q|q
  .erw[.inl q]
  .erw[.inr #[q,yZ _ _ _ (.inl q)]]
 rwa[codeAny_call_function hr.depth (KX _ _ lk) rfl S.co S.gen rfl (PySem.W.codeRec_of KX hcd) (hb _ _ _ _ ?_)];rwa[wpAny_newFunctionEnv_cells S.kind hkind λenv he s1 x=>?_]
 subst he;refine#[lim.keeps x.toInCall.keep,codeAny_func ?_];let#[t,ht,hq]:=hbody A outer s H vs Q E (hr.deeper _) hsp;have I:Inv (Dk CX P w K mg base N qual scope f cdv A outer s H E) [] (start N vs) H s1:=Gn S hr.hd e0 hl r x;rwa[fB (ht [] s1 (start N vs) H _ I hq) (λfl s' hs=>?_) λe s' hs=>hs]
 have fin:∀{σ':St}{H':Hp}{v:V}{u:Value},Inv (Dk CX P w K mg base N qual scope f cdv A outer s H E) [] σ' H' s'->RelV v u->Q v H'->CE outer P w H s Q u s':=
  λ{σ' H' v u}J rv q=>#[v,H',J.os,J.bare,J.base,J.dQ,rv,q]
 cases fl with
 |ret u=>
  let#[v,σ',H',J,rv,q]:=hs;erw[fin J rv q]
 |next=>
  let#[σ',H',J,q]:=hs;erw[fin (v:=V.b7) (u:=gw) J rfl q]
 |brk=>
  let#[_,_,_,q]:=hs;erw[aW q]
 |cont=>
  let#[_,_,_,q]:=hs;erw[aW q]
section
variable{X:Cx}{x:Str}{p pos:Pos}{e:Expr}{es:List Expr}{t:TA}{id T:String}{r:List V->Hp->VK->Prop}
abbrev Zl(r:List V->Hp->VK->Prop)(t:TA):TE:=λσ H Q=>t σ H λvs H1=>r vs H1 Q
def m8(hc:iP X (.builtin id) r)(hg:Gl X x)(hm:X.mg x=ψ)(hv:kN x=ξ (.builtin id))(ha:PA X (e::es) t)(hn:x≠"__name__":=by decide)(hdb:(x==("__debug__":Str))=ϑ:=by decide)
  (he:bD (e::es) X.env=(ϑ,eval e X.env)::bD es X.env:=by rfl) (hpl:(fP pos (bD es X.env)).any (·.1)=ϑ:=by rfl):PE X (.Call (.Name x p) (e::es) [] pos) (Zl r t):=by
 w_up;rwa[fD (qP I hg hm hv ?_ hn hdb)];rwa[PyProof.Rows.callWith_builtin1 (eY (ha pos pZ s σ H _ I h) λus s1 h9=>?_) he hpl];let#[vs,H1,I1,r1,q1]:=h9;erw[hc pZ s1 σ H1 vs us Q I1 r1 q1]
def pV(hc:iP X (.type T) r)(hg:Gl X x)(hm:X.mg x=ψ)(hv:kN x=ξ (.type T))(ha:PA X (e::es) t)(hn:x≠"__name__":=by decide)(hdb:(x==("__debug__":Str))=ϑ:=by decide)
  (he:bD (e::es) X.env=(ϑ,eval e X.env)::bD es X.env:=by rfl) (hpl:(fP pos (bD es X.env)).any (·.1)=ϑ:=by rfl):PE X (.Call (.Name x p) (e::es) [] pos) (Zl r t):=by
 w_up;rwa[fD (qP I hg hm hv ?_ hn hdb)];rwa[ki (eY (ha pos pZ s σ H _ I h) λus s1 h9=>?_) he hpl];let#[vs,H1,I1,r1,q1]:=h9;erw[hc pZ s1 σ H1 vs us Q I1 r1 q1]
end
end L2
namespace HT
open PySem PyProof.Rows
section
variable{prog:bQ}{w:cG}{A:eD}{E:Value->aE->Prop}{s:aE}
def MI(ht:IsTup s.heap t vs.toArray)(hb:IsTup s.heap b ws.toArray)(hv:vs≠[])
  (h1:ws=[]->Q (.ref t) s) (h2:ws≠[]->Q (.ref s.heap.objs.size) {s with heap:=s.heap.push {cls:=.type "tuple",data:=.seq (vs++ws).toArray} })
  (hsz:vs.length+ws.length<=sizeLine):wpAny (bf prog w) A (cV .Add (.ref t) (.ref b)) Q E s:=by
 let#[#[cls,dd,data,sl],ho,hc,n,hd]:=id ht;let#[#[cls2,dd2,data2,sl2],ho2,hc2,n2,hd2]:=id hb;simp only at hc hd hc2 hd2;subst hc hd hc2 hd2;have e:vs.toArray++ws.toArray=(vs++ws).toArray:=by simp
 by_cases hw:ws=[]
 .exact HW #[_,ho,rfl] #[_,ho2,rfl] y8 FR nO mY (mK _ _)
   (tuple_addW1 t b vs.toArray ws.toArray n n2 dd dd2 sl sl2 (~~~hv) (by simp[hw])) #[ho,ho2,h1 hw]
 .refine HW #[_,ho,rfl] #[_,ho2,rfl] y8 FR nO mY (mK _ _)
   (tuple_addW2 t b vs.toArray ws.toArray n n2 dd dd2 sl sl2 (~~~hv) (~~~hw) (%[aH,aH|hsz])) #[ho,ho2,?_]
  rw[e]
  erw[h2 hw]
abbrev jV(n d:Nat):Option Int->Nat
 |none=>d
 |some v=>if v<0 then(v+(n:Int)).toNat else min v.toNat n
def QL(n d:Nat)(hd:d<=n)(o:Option Int):jV n d o<=n:=by
 cases o with
 |none=>erw[hd]
 |some v=>
  show(if v<0 then(v+(n:Int)).toNat else min v.toNat n)<=n
  by_cases hv:v<0
  .rw[if_pos hv];omega
  .rw[if_neg hv];erw[Nat.min_le_right _ _]
def EH(v:Int)(n d:Nat):(if v<0 then max (v+(n:Int)) 0 else min v (n:Int))=((jV n d (ξ v):Nat):Int):=by
 show(if v<0 then max (v+(n:Int)) 0 else min v (n:Int))=(((if v<0 then(v+(n:Int)).toNat else min v.toNat n):Nat):Int)
 by_cases hv:v<0
 .dsimp[if_pos hv];omega
 .dsimp[if_neg hv];omega
def Dl(lo hi:Option Int)(n:Nat):Builtin.Slice.sliceAdjust lo hi 1 (n:Int)=(((jV n 0 lo:Nat):Int),((jV n n hi:Nat):Int)):=by
 have h1:¬((1:Int)<0):=∅
 unfold Builtin.Slice.sliceAdjust;dsimp[h1,if_false];rwa[Ew ?_ ?_]
 .cases lo with
  |none=>rfl
  |some v=>erw[EH v n 0]
 .cases hi with
  |none=>rfl
  |some v=>erw[EH v n n]
def Dm(i j:Nat):Builtin.Slice.slicePlaces (i:Int) (j:Int) 1=j-i:=by
 unfold Builtin.Slice.slicePlaces;have h1:(1:Int)>0:=∅
 dsimp[h1,if_true,Int.ediv_one];split<;>omega
def vE(p:y9 v o)(h:Q o s):wpAny (bf prog w) A (Builtin.Slice.slicePartIndex v) Q E s:=by
 cases p with
 |none=>erw[slicePart_none h]
 |int i t=>erw[slicePart_int h]
def tF{sl:Addr}{vl vu:Value}{lo hi:Option Int}{n:Nat}{Q:Int×Int×Nat->aE->Prop}(hs:s.heap.IsSliceOf sl vl vu .none)(pl:y9 vl lo)(pu:y9 vu hi)
  (h:Q (((jV n 0 lo:Nat):Int),1,jV n n hi-jV n 0 lo) s):wpAny (bf prog w) A (Builtin.Slice.sliceApplied (.ref sl) (pure (n:Int))) Q E s:=by
 let#[os,hos,hcs,hds]:=id hs;unfold Builtin.Slice.sliceApplied Builtin.Slice.sliceFields;rwa[af (af (AN hos hds (x:=vl) rfl (af (AN hos hds (x:=vu) rfl (af (AN hos hds (x:=.none) rfl (aB ?_)))))))];rwa[af (slicePart_none ?_)];show wpAny _ _ (if ((1:Int)== 0)=ζ then _ else _) _ _ s;rw[if_neg ⋯]
 rwa[af (vE pl (af (vE pu (af (aB ?_)))))];show wpAny _ _ (match Builtin.Slice.sliceAdjust lo hi 1 (n:Int) with| (lo,hi)=>pure (lo,(1:Int),Builtin.Slice.slicePlaces lo hi 1)) _ _ s;rw[Dl lo hi n]
 show wpAny _ _ (pure (((jV n 0 lo:Nat):Int),(1:Int),Builtin.Slice.slicePlaces ((jV n 0 lo:Nat):Int) ((jV n n hi:Nat):Int) 1)) _ _ s
 rw[Dm]
 erw[aB h]
def IK(xs:Array Value)(i k:Nat):((bO k).filterMap λ(m:Nat)=>xs[((i:Int)+(m:Int)*1).toNat]?).toArray=((xs.toList.drop i).take k).toArray:=by
 have e:(λ(m:Nat)=>xs[((i:Int)+(m:Int)*1).toNat]?)=λm=>xs[i+m]?:=by
  funext m
  have:((i:Int)+(m:Int)*1).toNat=i+m:=∅
  rw[this]
 rw[e]
 have:=pick_run xs i k;rw[sW] at this;have e2:((λx=>xs[x]?)∘λx=>i+x)=λm=>xs[i+m]?:=rfl
 rw[e2] at this;rw[this]
def rR{t sl:Addr}{items:Array Value}{vl vu:Value}{lo hi:Option Int}{Q:Value->aE->Prop}(ht:IsTup s.heap t items)(hs:s.heap.IsSliceOf sl vl vu .none)(pl:y9 vl lo)(pu:y9 vu hi)
  (hw:¬(jV items.size 0 lo=0/\jV items.size items.size hi=items.size))
  (h:Q (.ref s.heap.objs.size) {s with heap:=s.heap.push {cls:=.type "tuple",data:=.seq ((items.toList.drop (jV items.size 0 lo)).take (jV items.size items.size hi-jV items.size 0 lo)).toArray} })
  (hsz:items.size<=sizeLine):wpAny (bf prog w) A (oZ (.ref t) (.ref sl)) Q E s:=by
 have htake:sizeOk (.seq ((items.toList.drop (jV items.size 0 lo)).take (jV items.size items.size hi-jV items.size 0 lo)).toArray):=by
  show((items.toList.drop (jV items.size 0 lo)).take (jV items.size items.size hi-jV items.size 0 lo)).toArray.size<=sizeLine
  rw[aH,dD,LO,qM]
  omega
 have hj:jV items.size items.size hi<=items.size:=QL _ _ (ao _) hi;let#[os,hos,hcs,hds]:=id hs;have hTs:s.TypeIs (.ref sl) "slice":=#[os,hos,hcs]
 unfold oZ;try with_reducible refine fY ?_
 first|refine af (aB ?_)|skip
 refine af (wpAny_sequenceKey ht.typeIs ⋯ ?_);refine af (kj (name:=cv "__getitem__") ht.typeIs jj
  (jv jj ht.typeIs entry_tuple_getitem ?_ (args_tuple_getitem _ _)))
 show wpAny _ _ (Builtin.Tuple.tupleItemsOf (.ref t)>>=_) _ _ s
 rwa[af (tupleItemsOf_ ht ?_)];rwa[af (HX hTs ?_)];rw[if_pos ⋯]
 refine af (tF hs pl pu ?_);have hno:¬((((jV items.size 0 lo:Nat):Int)== 0&&(1:Int)== 1&&(jV items.size items.size hi-jV items.size 0 lo)== items.size)=ζ):=by
  intro q;rw[ak,ak] at q;have q1:((jV items.size 0 lo:Nat):Int)=0:=eq_of_beq q.1.1;have q2:jV items.size items.size hi-jV items.size 0 lo=items.size:=eq_of_beq q.2;erw[hw #[∅,∅]]
 show wpAny _ _ (if (((jV items.size 0 lo:Nat):Int)== 0&&(1:Int)== 1&&(jV items.size items.size hi-jV items.size 0 lo)== items.size)=ζ then _ else _) _ _ s
 rw[if_neg hno,IK]
 first
  |exact af (m:=Builtin.Tuple.tupleExact _) (dN (aB #[_,rfl,aB h]) htake)
  |exact af (m:=Builtin.Tuple.tupleExact _) (dN (af (aB (aB #[_,rfl,aB h]))) htake)
  |exact af (af (m:=Builtin.Tuple.tupleExact _) (dN (aB (aB #[_,rfl,aB h])) htake))
  |exact af (af (m:=Builtin.Tuple.tupleExact _) (dN (aB #[_,rfl,aB h]) htake))
end
end HT
namespace L2
open PySem PySem.Spec PyProof.Rows
@[reducible]def TO:=St->Hp->(Option Int->Hp->Prop)->Prop
abbrev PO(X:Cx)(e:Option Expr)(t:TO):Prop:=
 ∀(pZ:List (Addr×Obj))(s:aE)(σ:St)(H:Hp)(Q:Option Int->Hp->Prop),Inv X pZ σ H s->t σ H Q ->
  wpAny (bf X.prog X.w) X.A (evalPart e X.env) (λu s'=>∃o H',Inv X pZ σ H' s'/\y9 u o/\Q o H') X.xe s
abbrev MJ:TO:=λ_ H Q=>Q ψ H
abbrev Vu(t:TE):TO:=λσ H Q=>t σ H λx H1=>∃i,x=.int i/\Q (ξ i) H1
section
variable{X:Cx}{e:Expr}{te:TE}{lo hi:Option Expr}{tl th:TO}{pos p2:Pos}
def MK:PO X ψ MJ:=by
 w_up;rw[evalPart_none]
 erw[aB #[ψ,H,I,.none,h]]
def ML(h:PE X e te):PO X (ξ e) (Vu te):=by
 intro pZ s σ H Q I hw;rw[evalPart_some]
 rwa[eY (h pZ s σ H _ I hw) λu s1 h9=>?_]
 let#[x,H1,I1,r1,q1]:=h9;let#[i,rfl,q]:=q1;let#[t,rfl]:=r1;exact#[ξ i,H1,I1,.int i t,q]
abbrev Vv(X:Cx)(r:V->Option Int->Option Int->Hp->VK->Prop):Prop:=
 ∀(pZ:List (Addr×Obj))(s:aE)(σ:St)(H:Hp)(x:V)(v vl vu:Value)(lo hi:Option Int)(sl:Addr)(Q:VK),Inv X pZ σ H s->RelV x v->s.heap.IsSliceOf sl vl vu .none->y9 vl lo->y9 vu hi->r x lo hi H Q ->
  ∃T id,typeLookup (.type T) "__getitem__"=pure (ξ (.builtin id))/\s.TypeIs v T/\wpAny (bf X.prog X.w) X.A (oZ v (.ref sl)) (EP X pZ σ Q) X.xe s
abbrev tSl(r:V->Option Int->Option Int->Hp->VK->Prop)(te:TE)(tl th:TO):TE:=λσ H Q=>te σ H λx H1=>tl σ H1 λl H2=>th σ H2 λu H3=>r x l u H3 Q
def IL(hr:Vv X r)(he:PE X e te)(hl:PO X lo tl)(hu:PO X hi th):PE X (.Subscript e (.Slice lo hi ψ p2) pos) (tSl r te tl th):=by
 w_up;rwa[Subscript_ (eY (he pZ s σ H _ I h) λv s1 h9=>?_)];let#[x,H1,I1,r1,q1]:=h9;rwa[wpAny_Slice (eY (hl pZ s1 σ H1 _ I1 q1) λvl s2 h9=>?_)];let#[l,H2,I2,pl,q2]:=h9;rwa[eY (hu pZ s2 σ H2 _ I2 q2) λvu s3 h9=>?_]
 let#[u,H3,I3,pu,q3]:=h9;rw[evalPart_none]
 rwa[aB ?_];have I4:Inv X pZ σ H3 {s3 with heap:=s3.heap.push {cls:=.type "slice",data:=.fields (List.toArray [vl,vu,.none])} }:=I3.kept (t':=s3.toks) λb ob q=>aL _ q
 let#[T,id,hT,ht,hg]:=hr pZ {s3 with heap:=s3.heap.push {cls:=.type "slice",data:=.fields (List.toArray [vl,vu,.none])} } σ H3 x v vl vu l u s3.heap.objs.size Q I4 r1 (Heap.IsSliceOf.new ..) pl pu q3;show wpAny (bf X.prog X.w) X.A (FT e (.Slice lo hi ψ p2) v (.ref s3.heap.objs.size)) (EP X pZ σ Q) X.xe {s3 with heap:=s3.heap.push {cls:=.type "slice",data:=.fields (List.toArray [vl,vu,.none])} };erw[tail_any (ops:=[.ref s3.heap.objs.size,v]) ht hT hg (by with_unfolding_all rfl)]
abbrev Br(xs:List V)(lo hi:Option Int):List V:=(xs.drop (HT.jV xs.length 0 lo)).take (HT.jV xs.length xs.length hi-HT.jV xs.length 0 lo)
def uo(xs:List V)(lo hi:Option Int):(Br xs lo hi).length<=xs.length:=by
 unfold Br;rw[dD,LO]
 omega
abbrev Zm(K:aM):V->Option Int->Option Int->Hp->VK->Prop:=λx lo hi H Q=>∃a xs,x=.ref a/\lD K H a xs /\
 ¬(HT.jV xs.length 0 lo=0/\HT.jV xs.length xs.length hi=xs.length)/\∀p,H p=ψ->Q (.ref p) (upd H p (.tup (Br xs lo hi)))
def QM:Vv X (Zm X.K):=by
 intro pZ s σ H x v vl vu lo hi sl Q I rx hs pl pu h;let#[a,xs,rfl,hx,hw,q]:=h;cases rx;let#[its,r,ht,hz]:=I.tuple hx;have hlen:its.toArray.size=xs.length:=%[aH|r.length.symm]
 refine#["tuple",_,jj.lookup,ht.typeIs,?_];rwa[HT.rR ht hs pl pu (%[hlen|hw]) ?_ (%[hlen|hz])];rw[hlen]
 refine#[.ref s.heap.objs.size,_,I.laid (t':=s.toks) (o:=.tup (Br xs lo hi)) (λb ob q=>aL _ q) (ao _) ?_,rfl,q _ (I.dQ.fresh (ao _))];exact#[aI (uo xs lo hi) hz,_,(r.drop (HT.jV xs.length 0 lo)).take (HT.jV xs.length xs.length hi-HT.jV xs.length 0 lo),zh.new _ _]
abbrev Vw(K:aM):R2:=λx y H Q=>∃a b xs ys,x=.ref a/\y=.ref b/\lD K H a xs/\lD K H b ys/\xs≠[]/\xs.length+ys.length<=sizeLine /\
 (ys=[]->Q (.ref a) H)/\(ys≠[]->∀p,H p=ψ->Q (.ref p) (upd H p (.tup (xs++ys))))
def Vals.zt(r:Vals xs us):us=[]↔xs=[]:=by
 cases r with
 |nil=>simp
 |cons _ _=>simp
def MM:iq X (cV .Add) (Vw X.K):=by
 z_go;let#[a,b,xs,ys,rfl,rfl,ha,hb,hx,hz,q1,q2]:=h;cases rx;cases ry;let#[its,r1,p1,_]:=I.tuple ha;let#[its2,r2,p2,_]:=I.tuple hb;rwa[HT.MI p1 p2 (λz=>hx (r1.zt.mp z)) (λz=>#[.ref a,H,I,rfl,q1 (r2.zt.mp z)]) (λz=>?_) (by rw[<-r1.length,<-r2.length];erw[hz])];refine#[.ref s.heap.objs.size,_,I.laid (t':=s.toks) (o:=.tup (xs++ys)) (λb ob q=>aL _ q) (ao _) ?_,rfl,q2 (λw=>z (r2.zt.mpr w)) _ (I.dQ.fresh (ao _))];exact#[%[aq|hz],_,r1.append r2,zh.new _ _]
end
abbrev QN(n:Nat)(i:Int):Option Nat:=if 0<=i then(if i<n then ξ i.toNat else ψ) else if -(n:Int)<=i then ξ (i+n).toNat else ψ
abbrev QP{α:Type}(xs:List α)(i:Int):Option α:=(QN xs.length i).bind λj=>xs[j]?
def EI(h:QN n i=ξ j):HG i n=ξ j/\j<n/\-(n:Int)<=i/\i<n:=by
 unfold QN at h;by_cases h0:0<=i
 .rw[if_pos h0] at h
  by_cases h1:i<n
  .rw[if_pos h1] at h
   have e:i.toNat=j:=aG h;exact#[by rw[Md h0 h1,e],∅,∅,h1]
  .rw[if_neg h1] at h;cases h
 .rw[if_neg h0] at h
  by_cases h1:-(n:Int)<=i
  .rw[if_pos h1] at h
   have e:(i+n).toNat=j:=aG h;exact#[by rw[HY ∅ h1,e],∅,h1,∅]
  .rw[if_neg h1] at h;cases h
def zu{α:Type}{xs:List α}{i:Int}{v:α}(h:QP xs i=ξ v):∃j,HG i xs.length=ξ j/\xs[j]?=ξ v/\j<xs.length/\-(xs.length:Int)<=i/\i<xs.length:=by
 unfold QP at h;cases e:QN xs.length i with
 |none=>rw[e] at h;cases h
 |some j=>
  rw[e] at h;let#[h1,h2,h3,h4]:=EI e;exact#[j,h1,h,h2,h3,h4]
abbrev EJ(b:Expr):Prop:=∀o i,AO b ϑ o i=operate [o,i] (oZ o i)
abbrev Uv(X:Cx)(r:R2):Prop:=
 ∀(value slice:Expr)(pZ:List (Addr×Obj))(s:aE)(σ:St)(H:Hp)(x y:V)(v u:Value)(Q:VK),Inv X pZ σ H s->RelV x v->RelV y u->r x y H Q ->
  AO slice ϑ v u=operate [v,u] (oZ v u)->wpAny (bf X.prog X.w) X.A (FT value slice v u) (EP X pZ σ Q) X.xe s
abbrev AX(X:Cx)(id:String)(r:V->List V->Hp->VK->Prop):Prop:=
 ∀(pZ:List (Addr×Obj))(s:aE)(σ:St)(H:Hp)(x:V)(xs:List V)(v:Value)(us:List Value)(Q:VK),Inv X pZ σ H s->RelV x v->Vals xs us->r x xs H Q ->
  wpAny (bf X.prog X.w) X.A (call (.builtin id) (v::us)) (EP X pZ σ Q) X.xe s
section
variable{X:Cx}{a b:Expr}{ta tb:TE}{pos:Pos}
def Vx(hr:Uv X r)(ha:PE X a ta)(hb:PE X b tb)(hs:EJ b):PE X (.Subscript a b pos) (Yo r ta tb):=by
 w_up;erw[Subscript_ (Qo ha hb I h λv u s2 x y H2 I2 rx ry q=>hr a b pZ s2 σ H2 x y v u Q I2 rx ry q (hs _ _))]
abbrev Zn(K:aM):R2:=λx y H Q=>∃p xs i v,x=.ref p/\y=.int i/\iS K H p xs/\QP xs i=ξ v/\Q v H
abbrev Zo(K:aM):R2:=λx y H Q=>∃p xs i v,x=.ref p/\y=.int i/\lD K H p xs/\QP xs i=ξ v/\Q v H
abbrev Zp:R2:=λx y H Q=>∃z i c,x=.str z/\y=.int i/\z.length<=sizeLine/\QP z.cps.toList i=ξ c/\Q (.str #[(List.toArray [c])]) H
def EK:Uv X (Zn X.K):=by
 intro value slice pZ s σ H x y v u Q I rx ry h hs;let#[p,xs,i,z,rfl,rfl,hq,he,q]:=h;cases rx;let#[t,rfl]:=ry;let#[its,r,pl,hz]:=I.list hq;let#[j,h1,h2,h3,h4,h5]:=zu he;let#[w,ew,rw']:=r.get h2;have hl:=r.length;have hn:=pj;have fin:EP X pZ σ Q w s:=#[z,H,I,rw',q]
 by_cases h0:0<=i
 .have hj:i.toNat=j:=by
   rw[Md h0 h5] at h1;erw[aG h1]
  exact item_listR pl.isList h0 ∅ (by rw[hj];simpa using ew) fin hs
 .have hj:(i+(its.toArray.size:Int)).toNat=j:=by
   rw[HY ∅ h4] at h1;rw[aH,<-hl]
   erw[aG h1]
  exact HZ (x:=w) pl.isList.typeIs slot_list_getitem.lookup
   (wpAny_getItem_list_neg (Q:=λr s'=>r=w/\EP X pZ σ Q r s') pl.isList ∅ (by rw[aH]<;>omega) ∅ (by rw[hj];simpa using ew) #[rfl,fin]) hs
def QQ:Uv X (Zo X.K):=by
 intro value slice pZ s σ H x y v u Q I rx ry h hs;let#[p,xs,i,z,rfl,rfl,hq,he,q]:=h;cases rx;let#[t,rfl]:=ry;let#[its,r,pl,hz]:=I.tuple hq;let#[j,h1,h2,h3,h4,h5]:=zu he;let#[w,ew,rw']:=r.get h2;have hl:=r.length;have hn:=pj;have fin:EP X pZ σ Q w s:=#[z,H,I,rw',q]
 exact HZ (x:=w) pl.typeIs slot_tuple_getitem.lookup
  (getItem_tuple (j:=j) (Q:=λr s'=>r=w/\EP X pZ σ Q r s') pl ∅ ∅ (by rw[aH,<-hl];erw[h1]) (~~~ew) #[rfl,fin]) hs
def QR:Uv X Zp:=by
 intro value slice pZ s σ H x y v u Q I rx ry h hs;let#[z,i,c,rfl,rfl,hz,he,q]:=h;let#[t,rfl]:=rx;let#[t',rfl]:=ry;let#[j,h1,h2,h3,h4,h5]:=zu he;have hl:z.cps.toList.length=z.length:=by simp[Str.length]
 rw[hl] at h1 h4 h5;have hn:=pj;exact tail_any (typeIs_str s z t) slot_str_getitem.lookup (getItem_str (c:=c) (by
  have e1:decide (i < -(2^63:Int))=ϑ:=decide_eq_false ∅;have e2:decide (i≥2^63)=ϑ:=decide_eq_false ∅;rw[e1,e2,Bool.or_false]) (by rw[h1];simpa using h2) #[.str #[(List.toArray [c])],H,I.tok _,#[_,rfl],q]) hs
def Dn(its:List Value)(n j:Nat)(u:Value):tm (·.setIfInBounds j u) {cls:=.type "list",data:=.seq its.toArray n}= {cls:=.type "list",data:=.seq (its.set j u).toArray n}:=by
 simp[tm]
def Inv.lst{pZ:List (Addr×Obj)}{σ:St}{H:Hp}{s:aE}{p:Addr}{xs:List V}(I:Inv X pZ σ H s)(h:H p=ξ (.lst xs)):
  ∃(its:List Value)(n:Nat),Vals xs its/\s.heap.get? p=ξ {cls:=.type "list",data:=.seq its.toArray n}/\xs.length<=sizeLine:=by
 let#[z,its,n,r,e]:=I.dQ p _ h;exact#[its,n,r,e,z]
def Inv.QS{pZ:List (Addr×Obj)}{σ:St}{H:Hp}{s:aE}{p:Addr}{xs ys:List V}{its its':List Value}{n n':Nat}{f:Obj->Obj}(I:Inv X pZ σ H s)(h:H p=ξ (.lst xs))
  (ho:s.heap.get? p=ξ {cls:=.type "list",data:=.seq its.toArray n}) (hf:f {cls:=.type "list",data:=.seq its.toArray n}= {cls:=.type "list",data:=.seq its'.toArray n'}) (r:Vals ys its') (hz:ys.length<=sizeLine) (t:Nat):
  Inv X pZ σ (upd H p (.lst ys)) {s with heap:=s.heap.update p f,toks:=t}:=by
 have e:(s.heap.update p f).get? p=ξ {cls:=.type "list",data:=.seq its'.toArray n'}:=by
  rw[kJ f ho (by rw[hf]<;>rfl),hf]
 rwa[I.write (x:=p) (e:=p) (by rw[h];trivial) (.inl rfl) (λb u hb q=>(Cv _ _ (cM hb)).trans q) #[_,e] ?_];exact#[hz,its',n',r,e]
abbrev Vy:V->V->V->Hp->(Hp->Prop)->Prop:=λo i v H Q=>∃p xs k j,o=.ref p/\i=.int k/\H p=ξ (.lst xs)/\QN xs.length k=ξ j/\Q (upd H p (.lst (xs.set j v)))
def set_list:U6 X Vy:=by
 intro pZ s σ H o i v ov iv u Q I ro ri rv h;let#[p,xs,k,j,rfl,rfl,hp,hj,q]:=h;cases ro;let#[t,rfl]:=ri;let#[its,n,r,ho,hz]:=I.lst hp;let#[h1,h2,h3,h4]:=EI hj;have hl:=r.length;have hn:=pj;have I':Inv X pZ σ (upd H p (.lst (xs.set j v))) {s with heap:=s.heap.update p (tm (·.setIfInBounds j u))}:=
  I.QS hp ho (Dn its n j u) (r.set rv j) (%[cK|hz]) s.toks
 by_cases h0:0<=k
 .have hk:k.toNat=j:=by
   rw[Md h0 h4] at h1;erw[aG h1]
  erw[PySem.W.ki_setAt ho h0 ∅ (by rw[aH,<-hl];exact h4) (by rw[hk];exact#[_,I',q])]
 .have hk:(k+(its.toArray.size:Int)).toNat=j:=by
   rw[HY ∅ h3] at h1;rw[aH,<-hl]
   erw[aG h1]
  erw[PySem.W.ki_setBack ho ∅ (by rw[aH,<-hl];exact h3) ∅ (by rw[hk];exact#[_,I',q])]
def zw(lo hi:Option Int)(n:Nat):(lW lo hi ψ n).1=((HT.jV n 0 lo:Nat):Int)/\(lW lo hi ψ n).2.1=((HT.jV n n hi:Nat):Int)/\(lW lo hi ψ n).2.2=1:=by
 refine#[?_,?_,rfl]
 .cases lo with
  |none=>simp[lW,HT.jV]
  |some i=>
   dsimp[lW,HT.jV,nH,show(1:Int)>0 by decide,if_true];by_cases h:i<0
   .dsimp[h,if_true]<;>omega
   .dsimp[h,if_false]<;>omega
 .cases hi with
  |none=>simp[lW,HT.jV]
  |some i=>
   dsimp[lW,HT.jV,nH,show(1:Int)>0 by decide,if_true];by_cases h:i<0
   .dsimp[h,if_true]<;>omega
   .dsimp[h,if_false]<;>omega
def xp(its:List Value)(lo hi:Option Int):slicePick its.toArray lo hi ψ=((its.drop (HT.jV its.length 0 lo)).take (HT.jV its.length its.length hi-HT.jV its.length 0 lo)).toArray:=by
 let#[h1,h2,h3]:=zw lo hi its.toArray.size;unfold slicePick;rw[h1,h2,h3]
 dsimp[sliceRange_one,pick_run,aH]<;>rfl
abbrev Zq(K:aM):V->Option Int->Option Int->Hp->VK->Prop:=λx lo hi H Q=>∃a xs,x=.ref a/\iS K H a xs/\∀p,H p=ψ->Q (.ref p) (upd H p (.lst (Br xs lo hi)))
def MN:Vv X (Zq X.K):=by
 intro pZ s σ H x v vl vu lo hi sl Q I rx hs pl pu h;let#[a,xs,rfl,hx,q]:=h;cases rx;let#[its,r,ht,hz]:=I.list hx;have hlen:=r.length;refine#["list",_,slot_list_getitem.lookup,ht.isList.typeIs,?_];refine wpAny_getItem_list_slice ht.isList hs pl pu .none (#v[]) ?_ (by rw[aH]<;>omega);rw[xp,<-hlen]
 refine#[.ref s.heap.objs.size,_,I.laid (t':=s.toks) (o:=.lst (Br xs lo hi)) (λb ob q=>aL _ q) (ao _) ?_,rfl,q _ (I.dQ.fresh (ao _))];exact#[aI (uo xs lo hi) hz,_,0,(r.drop (HT.jV xs.length 0 lo)).take (HT.jV xs.length xs.length hi-HT.jV xs.length 0 lo),bg _ rfl]
abbrev m9:V->Bool
 |.b7=>ζ
 |.bl _=>ζ
 |.int _=>ζ
 |.str _=>ζ
 |_=>ϑ
abbrev EL:V->V->Bool
 |.b7,.b7=>ζ
 |.bl a,.bl b=>a==b
 |.bl a,.int b=>(if a then 1 else 0)== b
 |.int a,.bl b=>a==(if b then 1 else 0)
 |.int a,.int b=>a==b
 |.str a,.str b=>a==b
 |_,_=>ϑ
def QT(ry:RelV y u)(rx:RelV x v)(fy:m9 y=ζ)(fx:m9 x=ζ):rG A s u v (EL y x):=by
 cases y with
 |b7=>
  cases ry;cases x with
  |b7=>cases rx;erw[kh _]
  |bl b=>cases rx;erw[xJ b]
  |int b=>let#[t,rfl]:=rx;erw[oX b t]
  |str b=>let#[t,rfl]:=rx;erw[oY b t]
  |_=>erw[absurd (show ϑ=ζ from fx) aY]
 |bl a=>
  cases ry;cases x with
  |b7=>cases rx;erw[xK a]
  |bl b=>cases rx;erw[xM a b]
  |int b=>let#[t,rfl]:=rx;erw[za a b t]
  |str b=>let#[t,rfl]:=rx;erw[zb a b t]
  |_=>erw[absurd (show ϑ=ζ from fx) aY]
 |int a=>
  let#[t',rfl]:=ry;cases x with
  |b7=>cases rx;erw[oV a t']
  |bl b=>cases rx;erw[zc a t' b]
  |int b=>let#[t,rfl]:=rx;erw[pK a t' b t]
  |str b=>let#[t,rfl]:=rx;erw[pI a t' b t]
  |_=>erw[absurd (show ϑ=ζ from fx) aY]
 |str a=>
  let#[t',rfl]:=ry;cases x with
  |b7=>cases rx;erw[oW a t']
  |bl b=>cases rx;erw[zd a t' b]
  |int b=>let#[t,rfl]:=rx;erw[pJ a t' b t]
  |str b=>let#[t,rfl]:=rx;erw[AQ a t' b t]
  |_=>erw[absurd (show ϑ=ζ from fx) aY]
 |_=>erw[absurd (show ϑ=ζ from fy) aY]
abbrev zx(x:V)(u:Value):Bool:=match u with
 |.none=>EL .b7 x
 |.bool b=>EL (.bl b) x
 |.int i _=>EL (.int i) x
 |.str z _=>EL (.str z) x
 |_=>ϑ
def Dp(r:RelV y u)(f:m9 y=ζ):zx x u=EL y x:=by
 cases y with
 |b7=>cases r;rfl
 |bl b=>cases r;rfl
 |int i=>let#[t,rfl]:=r;rfl
 |str z=>let#[t,rfl]:=r;rfl
 |_=>erw[absurd (show ϑ=ζ from f) aY]
def rS:∀{xs:List V}{us:List Value},Vals xs us->xs.all m9=ζ->us.any (zx x)=xs.any λy=>EL y x
 |_,_,.nil,_=>rfl
 |y::xs,u::us,.cons r t,f=>by
  rw[bS,ak] at f;rw[dw,dw,Dp r f.1,rS t f.2]
def ng(rx:RelV x v)(fx:m9 x=ζ):∀{xs:List V}{us:List Value},Vals xs us->xs.all m9=ζ->∀u∈us,rG A s u v (zx x u)
 |_,_,.nil,_=>λu hu=>by cases hu
 |y::xs,u::us,.cons r t,f=>λu' hu=>by
  rw[bS,ak] at f;rcases aR.mp hu with rfl|hu
  .rw[Dp r f.1];erw[QT r rx f.1 fx]
  .erw[ng rx fx t f.2 u' hu]
abbrev Yp(x:V)(xs:List V):Bool:=xs.any λy=>EL y x
abbrev rIn(K:aM)(neg:Bool):R2:=λx y H Q=>∃p xs,y=.ref p/\(iS K H p xs\/lD K H p xs)/\m9 x=ζ/\xs.all m9=ζ/\Q (.bl (if neg then !Yp x xs else Yp x xs)) H
def yc:iq X (bF .In) (rIn X.K ϑ):=by
 z_go;let#[p,xs,rfl,hq,fx,fs,q]:=h;cases ry;rcases hq with hq|hq
 .let#[its,r,pl,hz]:=I.list hq
  refine SeqAt.in_listAt (zx x) pl.isList (λw hw=>ng rx fx r fs w (~~~hw)) #[.bl _,H,I,rfl,?_];rw[show its.toArray.any (zx x)=its.any (zx x) by simp,rS r fs]
  erw[q]
 .let#[its,r,pl,hz]:=I.tuple hq
  refine SeqAt.in_tupleAt (zx x) pl (λw hw=>ng rx fx r fs w (~~~hw)) #[.bl _,H,I,rfl,?_];rw[show its.toArray.any (zx x)=its.any (zx x) by simp,rS r fs]
  erw[q]
def rT:iq X (bF .NotIn) (rIn X.K ζ):=by
 z_go;let#[p,xs,rfl,hq,fx,fs,q]:=h;cases ry;rcases hq with hq|hq
 .let#[its,r,pl,hz]:=I.list hq
  refine FU (zx x) pl.isList (λw hw=>ng rx fx r fs w (~~~hw)) #[.bl _,H,I,rfl,?_];rw[show its.toArray.any (zx x)=its.any (zx x) by simp,rS r fs]
  erw[q]
 .let#[its,r,pl,hz]:=I.tuple hq
  refine SeqAt.notIn_tupleAt (zx x) pl (λw hw=>ng rx fx r fs w (~~~hw)) #[.bl _,H,I,rfl,?_];rw[show its.toArray.any (zx x)=its.any (zx x) by simp,rS r fs]
  erw[q]
def zy:iq X (bF .NotIn) (λx y H Q=>∃i j,x=.str i/\y=.str j/\Q (.bl (!(!(Builtin.Str.occurrences j i 0 j.length 1).isEmpty))) H):=by
 z_go;let#[i,j,rfl,rfl,q]:=h;let#[t,rfl]:=rx;let#[t',rfl]:=ry;erw[notIn_str #[.bl _,H,I,rfl,q]]
def rV:iP X (.type "list") (λxs H Q=>∃p ys,xs=[.ref p]/\(iS X.K H p ys\/lD X.K H p ys)/\∀l,H l=ψ->Q (.ref l) (upd H l (.lst ys))):=by
 k_ne;let#[p,ys,rfl,hq,q]:=h;let#[u,rfl,rx]:=vals1 r;cases rx;have fin:∀(its:List Value),Vals ys its->ys.length<=sizeLine->∀(h':Heap)(c':Nat),(∀b o',s.heap.get? b=ξ o'->h'.get? b=ξ o') ->
   h'.get? s.heap.objs.size=ξ {cls:=.type "list",dict:=ψ,data:=.seq its.toArray c',slots:=#[]}->EP X pZ σ Q (.ref s.heap.objs.size) {s with heap:=h'}:=λits r' hz h' c' kp e=>
  #[.ref s.heap.objs.size,_,I.laid (t':=s.toks) kp (ao _) (show dZ X.prog X.w _ h' _ (.lst ys) from #[hz,its,c',r',e]),rfl,q _ (I.dQ.fresh (ao _))]
 rcases hq with hq|hq
 .let#[its,r',pl,hz]:=I.list hq
  have hlen:=r'.length;let#[o,ho,hc,n,hd]:=pl.isList;exact call_list_seq p (.inl rfl) ho hc hd (λh' c' kp e=>fin its r' hz h' c' kp e) (by dsimp[aH]<;>omega)
 .let#[its,r',pl,hz]:=I.tuple hq
  have hlen:=r'.length;let#[o,ho,hc,n,hd]:=pl;exact call_list_seq p (.inr rfl) ho hc hd (λh' c' kp e=>fin its r' hz h' c' kp e) (by dsimp[aH]<;>omega)
def xq:iP X (.type "tuple") (λxs H Q=>∃p ys,xs=[.ref p]/\((iS X.K H p ys/\∀l,H l=ψ->Q (.ref l) (upd H l (.tup ys)))\/(lD X.K H p ys/\Q (.ref p) H))):=by
 k_ne;let#[p,ys,rfl,h]:=h;let#[u,rfl,rx]:=vals1 r;cases rx;rcases h with⟨hq,q⟩|⟨hq,q⟩
 .let#[its,r',pl,hz]:=I.list hq
  have hlen:=r'.length;refine call_tuple_list pl.isList (λh' kp=>?_) (by dsimp[aH]<;>omega);have I1:Inv X pZ σ H {s with heap:=h'}:=I.kept (t':=s.toks) kp;have I2:Inv X pZ σ (upd H h'.objs.size (.tup ys)) {s with heap:=h'.push {cls:=.type "tuple",data:=.seq its.toArray} }:=
   I1.laid (t':=s.toks) (λb o e=>aL _ e) (ao _) (show dZ X.prog X.w _ _ _ (.tup ys) from #[hz,its,r',zh.new _ _])
  exact#[.ref h'.objs.size,_,I2,rfl,q _ (I1.dQ.fresh (ao _))]
 .let#[its,r',pl,hz]:=I.tuple hq
  erw[call_tuple_same pl #[.ref p,H,I,rfl,q]]
abbrev Yq(K:aM)(T:String)(x:V)(H:Hp):Prop:=match x with
 |.str _=>T="str"
 |.int _=>T="int"
 |.ref p=>(T="list"/\∃xs,iS K H p xs)\/(T="tuple"/\∃xs,H p=ξ (.tup xs)) \/
   (T="dict"/\((∃kvs,H p=ξ (.dK kvs))\/(∃kvs,H p=ξ (.dT kvs))\/∃kvs,H p=ξ (.dP kvs)))\/(T="set"/\∃S n,H p=ξ (.set S n))
 |_=>False
def IM(I:Inv X pZ σ H s)(r:RelV x v)(ty:Yq X.K T x H):
  s.TypeIs v T/\∀a,v=.ref a->∃ob,s.heap.get? a=ξ ob/\ob.dict=ψ:=by
 cases x with
 |str z=>
  let#[t,rfl]:=r;cases (show T="str" from ty);exact#[typeIs_str s z t,λ_ e=>nomatch e]
 |int i=>
  let#[t,rfl]:=r;cases (show T="int" from ty);exact#[typeIs_int s i t,λ_ e=>nomatch e]
 |ref p=>
  cases r;rcases ty with⟨rfl,xs,hq⟩|⟨rfl,xs,hk⟩|⟨rfl,hk⟩|⟨rfl,S,n,hk⟩
  .let#[its,_,pl,_]:=I.list hq
   refine#[pl.isList.typeIs,λa e=>?_];cases e;let#[o,n,e,c,hd,_]:=pl;exact#[o,e,hd]
  .let#[_,_,_,o,e,hc,_,hd]:=I.dQ p _ hk
   refine#[#[o,e,hc],λa e2=>?_];cases e2;exact#[o,e,hd]
  .have z:∃o,s.heap.get? p=ξ o/\o.ExactDict:=by
    rcases hk with⟨kvs,hk⟩|⟨kvs,hk⟩|⟨kvs,hk⟩<;>(obtain⟨_,_,_,_,o,_,_,e,ex,_⟩:=I.dQ p _ hk;exact#[o,e,ex])
   let#[o,e,ex]:=z;refine#[#[o,e,ex.1],λa e2=>?_];cases e2;exact#[o,e,ex.2.1]
  .let#[o,_,_,_,e,ex,_]:=I.dQ p _ hk
   refine#[#[o,e,ex.1],λa e2=>?_];cases e2;exact#[o,e,ex.2.1]
 |_=>erw[aW ty]
abbrev Zr(K:aM)(T:String)(r:V->List V->Hp->VK->Prop)(to:TE):TE:=λσ H Q=>to σ H λx H1=>Yq K T x H1/\r x [] H1 Q
abbrev tBM(K:aM)(T:String)(r:V->List V->Hp->VK->Prop)(to:TE)(t:TA):TE:=λσ H Q=>to σ H λx H1=>Yq K T x H1/\t σ H1 λxs H2=>r x xs H2 Q
variable{o e:Expr}{es:List Expr}{to:TE}{t:TA}{name:Str}{apos cpos:Pos}{T id:String}{r:V->List V->Hp->VK->Prop}
def IP(pa:PlainAttrs T)(slot:Slot T name id)(hty:typeOf (.builtin id)=pure (.type "method_descriptor"))(hm:AX X id r)(ho:PE X o to)
  (hbase:iN o name X.env (eval o X.env)=eval o X.env:=by rfl) (hline:(apos.endLine==cpos.line)=ζ:=by rfl):PE X (.Call (.Attribute o name apos) [] [] cpos) (Zr X.K T r to):=by
 w_up;rwa[wpAny_Call_method0_late hbase hline (eY (ho pZ s σ H _ I h) λv s1 h9=>?_)];let#[x,H1,I1,r1,ty,q1]:=h9;let#[h1,h2]:=IM I1 r1 ty;exact#[T,id,pa,slot,hty,h1,h2,jS rfl (PySem.evalArgs_none (hm pZ s1 σ H1 x [] v [] Q I1 r1 .nil q1))]
def ur(pa:PlainAttrs T)(slot:Slot T name id)(hty:typeOf (.builtin id)=pure (.type "method_descriptor"))(hm:AX X id r)(ho:PE X o to)(ha:PA X (e::es) t)
  (hbase:iN o name X.env (eval o X.env)=eval o X.env:=by rfl)
  (hfew:((fP cpos (bD (e::es) X.env)).all (λx=>!x.1)&&(backToKw cpos (gS [] X.env)).all (λx=>x.1.isSome)
   && decide ((e::es).length+([]:List o7).length+(if ([]:List o7).isEmpty then 0 else 1)<30))=ζ:=by rfl)
  (hline:(apos.endLine==cpos.line)=ζ:=by rfl) (hs:bD (e::es) X.env=(ϑ,eval e X.env)::bD es X.env:=by rfl) (hplain:(fP cpos (bD es X.env)).any (·.1)=ϑ:=by rfl):
  PE X (.Call (.Attribute o name apos) (e::es) [] cpos) (tBM X.K T r to t):=by
 w_up;refine wpAny_Call_method_late hbase hfew hline rfl (eY (ho pZ s σ H _ I h) λv s1 h9=>?_);let#[x,H1,I1,r1,ty,q1]:=h9;let#[h1,h2]:=IM I1 r1 ty;refine#[T,id,pa,slot,hty,h1,h2,?_];have hA:=ha cpos pZ s1 σ H1 _ I1 q1;rw[hs] at hA ⊢;refine jS (by show(ϑ||(fP cpos (bD es X.env)).any (·.1))=ϑ;rw[hplain]<;>rfl) (qu ?_);refine eY hA λus s2 h9=>?_
 let#[vs,H2,I2,r2,q2]:=h9;erw[hm pZ s2 σ H2 x vs v us Q I2 r1 r2 q2]
end
abbrev Zs(X:Cx)(id:String)(r:V->List V->Hp->VK->Prop):Prop:=
 ∀(pZ:List (Addr×Obj))(s:aE)(σ:St)(H:Hp)(x:V)(xs:List V)(v:Value)(us:List Value)(Q:VK),Inv X pZ σ H s->RelV x v->Vals xs us->r x xs H Q ->
  wpAny (bf X.prog X.w) X.A (call (.builtin id) (v::us)) (EP X pZ σ Q) X.xe s
def Vals.one:∀{x:V}{us:List Value},Vals [x] us->∃u,us=[u]/\RelV x u
 := by
 intro _ _ h;cases h with|cons r q=>cases q;exact#[_,rfl,r]
def Vals.two:∀{x y:V}{us:List Value},Vals [x,y] us->∃u v,us=[u,v]/\RelV x u/\RelV y v
 := by
 intro _ _ _ h;cases h with|cons r q=>cases q with|cons q q'=>cases q';exact#[_,_,rfl,r,q]
def Vals.eraseIdx:∀{xs:List V}{us:List Value}(i:Nat),Vals xs us->Vals (xs.eraseIdx i) (us.eraseIdx i)
 |_,_,_,.nil=>.nil
 |_,_,0,.cons _ t=>t
 |_,_,i+1,.cons r t=>.cons r (Vals.eraseIdx i t)
def yd{α:Type}:∀(l:List α)(i:Nat),(l.eraseIdx i).length<=l.length
 |[],_=>ao _
 |_::_,0=>iR _
 |_::r,i+1=>dg (yd r i)
section
variable{X:Cx}{pZ:List (Addr×Obj)}{σ:St}{H:Hp}{s:aE}{l b:Addr}{xs ys zs:List V}
def Inv.QW{its its':List Value}{n:Nat}{f:Array Value->Array Value}{t':Nat}(I:Inv X pZ σ H s)(hH:H l=ξ (.lst xs))
  (e:s.heap.get? l=ξ {cls:=.type "list",data:=.seq its.toArray n}) (hf:f its.toArray=its'.toArray) (hv:Vals ys its') (hz:ys.length<=sizeLine):
  Inv X pZ σ (upd H l (.lst ys)) {s with heap:=s.heap.update l (tm f),toks:=t'}:=by
 have q:=PySem.IsL.update e f;rw[hf] at q;rwa[I.write (x:=l) (e:=l) (%[hH|trivial]) (.inl rfl) (λb' u hb hu=>(Cv s.heap (tm f) (cM hb)).trans hu) #[_,q] ?_];exact#[hz,its',_,hv,q]
def Inv.Vz(I:Inv X pZ σ H s)(hv:Vals ys its)(hz:ys.length<=sizeLine):
  Inv X pZ σ (upd H s.heap.objs.size (.lst ys)) {s with heap:=s.heap.push {cls:=.type "list",data:=.seq its.toArray},toks:=t'}:=
 I.laid (λ_ _ q=>aL _ q) (ao _) #[hz,its,0,hv,bg _ rfl]
def Inv.fresh(I:Inv X pZ σ H s):H s.heap.objs.size=ψ:=I.dQ.fresh (ao _)
def Inv.Dq(I:Inv X pZ σ H s)(hH:H l=ξ (.lst xs)):xs.length<=sizeLine/\∃(its:List Value)(n:Nat),Vals xs its/\xs.length=its.length/\s.heap.get? l=ξ {cls:=.type "list",data:=.seq its.toArray n}:=by
 let#[z,its,n,r,e]:=I.dQ l _ hH;exact#[z,its,n,r,r.length,e]
def IQ(h:n<=sizeLine):Builtin.List.listTooLong n=ϑ:=by
 unfold Builtin.List.listTooLong;erw[decide_eq_false ∅]
end
section
variable{X:Cx}
abbrev MP:V->List V->Hp->VK->Prop:=λx vs H Q=>∃l xs y,x=.ref l/\vs=[y]/\H l=ξ (.lst xs)/\xs.length<sizeLine/\Q .b7 (upd H l (.lst (xs++[y])))
def tG:Zs X "list.append" MP:=by
 intro pZ s σ H x vs v us Q I rx rv h;let#[l,xs,y,rfl,rfl,hH,hz,q]:=h;cases rx;let#[u,rfl,ru]:=rv.one;let#[z,its,n,r,hl,e]:=I.Dq hH;rwa[vp F.slot_list_append #[_,e,rfl] F.entry_list_append (F.args_list_append_2 _ _) (PySem.list_append l its.toArray n u (by rw[aH];omega)) #[e,?_]];refine#[.b7,_,I.QW (its':=its++[u]) hH e (#v[]) (r.append (.cons ru .nil)) ?_,rfl,q];rw[aq,gU]
 omega
abbrev MQ:V->List V->Hp->VK->Prop:=λx vs H Q=>∃l b xs zs,x=.ref l/\vs=[.ref b]/\H l=ξ (.lst xs)/\H b=ξ (.lst zs)/\xs.length+zs.length<=sizeLine/\Q .b7 (upd H l (.lst (xs++zs)))
def ye:Zs X "list.extend" MQ:=by
 intro pZ s σ H x vs v us Q I rx rv h;let#[l,b,xs,zs,rfl,rfl,hH,hB,hz,q]:=h;cases rx;let#[u,rfl,ru]:=rv.one;cases ru;let#[z,its,n,r,hl,e]:=I.Dq hH;let#[z2,its2,n2,r2,hl2,e2]:=I.Dq hB;have hsz:its.toArray.size+its2.toArray.size<=sizeLine:=by rw[aH,aH];omega
 have hlong:¬(!its.toArray.isEmpty&&Builtin.List.listTooLong (its.toArray.size+its2.toArray.size))=ζ:=by
  rw[IQ hsz,Bool.and_false]
  erw[aY]
 refine vp F.slot_list_extend #[_,e,rfl] F.entry_list_extend (F.args_list_extend_2 _ _)
  (AutoSeq1.list_extend_list_list_0 l its.toArray n b its2.toArray n2 hlong (by rw[aH];omega) ∅) #[e,e2,?_]
 refine#[.b7,_,I.QW (its':=its++its2) hH e (#v[]) (r.append r2) ?_,rfl,q];rw[aq]
 omega
abbrev QX:V->List V->Hp->VK->Prop:=λx vs H Q=>∃l xs i k y,x=.ref l/\vs=[.int i]/\H l=ξ (.lst xs)/\-(2^63)<=i/\i<2^63/\HG i xs.length=ξ k/\xs[k]?=ξ y/\Q y (upd H l (.lst (xs.eraseIdx k)))
def IS:Zs X "list.pop" QX:=by
 intro pZ s σ H x vs v us Q I rx rv h;let#[l,xs,i,k,y,rfl,rfl,hH,h1,h2,hk,hy,q]:=h;cases rx;let#[u,rfl,ru]:=rv.one;let#[t,rfl]:=ru;let#[z,its,n,r,hl,e]:=I.Dq hH;let#[w,hw,rw']:=r.get hy;refine vp F.slot_list_pop #[_,e,rfl] F.entry_list_pop (F.args_list_pop_2 _ _)
  (MeetsSeq.list_pop_at l its.toArray n i t k w (fitsIndex_both h1 h2) (by rw[aH,<-hl];erw[hk]) (by rw[<-Cw];erw[hw]) (by rw[aH];omega)) #[e,?_]
 refine#[y,_,I.QW (its':=its.eraseIdx k) hH e ?_ (r.eraseIdx k) ?_,rw',q]
 .show its.toArray.eraseIdxIfInBounds k=(its.eraseIdx k).toArray
  rw[List.eraseIdxIfInBounds_toArray]
 .have:=yd xs k
  omega
abbrev Zt:R2:=λx y H Q=>∃l b xs zs,x=.ref l/\y=.ref b/\H l=ξ (.lst xs)/\H b=ξ (.lst zs)/\xs.length+zs.length<=sizeLine/\∀p,H p=ψ->Q (.ref p) (upd H p (.lst (xs++zs)))
def QY:iq X (cV .Add) Zt:=by
 z_go;let#[l,b,xs,zs,rfl,rfl,hH,hB,hz,q]:=h;cases rx;cases ry;let#[z,its,n,r,hl,e]:=I.Dq hH;let#[z2,its2,n2,r2,hl2,e2]:=I.Dq hB;rwa[PySem.P.add_list e e2 ?_ (by rw[aH,aH];omega)];have ea:its.toArray++its2.toArray=(its++its2).toArray:=by simp
 rw[ea]
 exact#[.ref _,_,I.Vz (t':=s.toks) (r.append r2) (by rw[aq];omega),rfl,q _ I.fresh]
end
end L2
namespace Att
open PySem PySem.W PySem.Calls PyProof.Rows
def uP:∀(ns:List Int)(vs:List Value),WellAll P h vs (ns.map WData.int)->H0 vs ns:=by
 intro ns;induction ns with
 |nil=>
  intro vs w;rw[jX] at w;cases w;erw[.nil]
 |cons n ns ih=>
  intro vs w;rw[aw] at w;cases w with
  |cons a b=>
   cases a;erw[.cons _ _ (ih _ b)]
def Gs{l:H8}{n:Nat}(hn:l.most=ξ n){P:Params}{h:Heap}{args:List WData}{vals:List Value}
  (hpre:l.row.toRowW.claim.pre args=ζ) (hwl:WellAll P h vals args):
  ∃a vs ns,vals=[bu a]/\args=[WData.list (ns.map WData.int)]/\h.get? a=ξ {cls:=.type "list",data:=.seq vs.toArray}/\H0 vs ns/\ns.length<=n:=by
 have hsh:WShape.hasAll [] args [.list .int]=ζ:=(pre_splitW hpre).1;have hc:l.pre.holds [] {args:=args}= ζ:=(pre_splitW hpre).2;let#[d,r,rfl,h1,h2]:=hasAllW_cons hsh;obtain rfl:=hasAllW_nil h2;let#[xs,rfl,h3]:=hasW_list h1;let#[ns,rfl]:=items_int h3;have hlen:ns.length<=n:=by
  unfold OpenLaw.pre at hc;have h4:(WTm.not (.lt (.lit (.int (n:Int))) (.len (.arg 0)))).holds [] {args:=[.list (ns.map .int)]}= ζ:=by
   have h4:=(holds_andW hc).1;rw[hn] at h4;erw[h4]
  have h5:=condW_of h4 (w_not (w_lt w_lit (w_len_list (w_arg rfl))));rw[ae] at h5;rwa[dS λq=>?_]
  have q':(n:Int)<((ns.length:Nat):Int):=∅
  first
   | (rw[decide_eq_true q'] at h5;erw[absurd h5 ⋯])
   | (simp at h5;omega)
 cases hwl with
 |cons w1 w2=>
  cases w2;cases w1 with
  |list ho hall=>exact#[_,_,ns,rfl,rfl,ho,uP ns _ hall,hlen]
def Gu(l:H8)(args:List WData):l.row.toRowW.claim.post args (.bool ζ) args=ζ:=
 postW_of (r:=l.row.toRowW) (X:=(ζ==ζ))
  (show WShape.has [] (.bool ζ) .bool=ζ by first|rfl|decide|simp[WShape.has,WShape.arms,WShape.armsAll])
  (show(WTm.eq .res (.lit (.bool ζ))).value [] {args:=args,res:=ξ (.bool ζ),after:=args}= ξ (.bool (ζ==ζ)) from w_eq_bool (w_res rfl) w_lit) rfl
def Bs{l:H8}{n:Nat}{q:bQ}{loose:List Str}{XP:(Str->Option Value)->Heap->Prop}{YP:cG->Heap->Prop}{d:DefRec}
  (hn:l.most=ξ n) (hdf:d.params.defaults=[])
  (call:∀(w:cG)(s₀ s₁:aE)(mg mb:Str->Option Value)(fa:Addr)(o:Obj)(pm cd doc:Value)(a:Addr)(vs:List Value)(ns:List Int),
   Ground q loose [] XP w s₀ mg mb s₁.heap->YP w s₁.heap ->
   s₁.heap.get? fa=ξ o->o.data=.func (docDef d.name d.params d.body d.scope pm cd doc)->s₁.heap.CodeRec cd d.name->mg d.name=ξ (.ref fa) ->
   s₁.heap.get? a=ξ {cls:=.type "list",data:=.seq vs.toArray}->H0 vs ns->ns.length<=n->s₁.gens = #[] ->
   qN (bf l.prog w) xk (.call (.ref fa) #[[.ref a],[]]) (λr s'=>r=.ok (.ret (.bool ζ))/\OldK s₁.heap s'.heap/\s'.os=s₁.os/\qL s'.gens) s₁):
  WalkO q loose XP YP l.row.toRowW d [] (λf vs=>FV f vs):=by
 intro w s₀ s₁ mg mb G Y fa o pm cd doc dV kV ho hd hcd hD hmg hg args vals as hpre hlay hrd hwl hlo;obtain rfl:dV=.none:=Dflts.none hD hdf;obtain rfl:kV=.none:=Dflts.noKw hD;let#[a,vs,ns,rfl,rfl,hobj,hints,hlen]:=Gs hn hpre hwl;rwa[enter_call (xj (call w s₀ s₁ mg mb fa o pm cd doc a vs ns G Y ho (fd_plain hd) hcd hmg hobj hints hlen hg) λr s' hq=>?_)];let#[rfl,h2,h3,h4]:=hq;exact#[.inl #[.bool ζ,.bool ζ,[],rfl,λ_=>rfl,.bool ζ,Gu l _,λ_=>#[xN,λ_ hm=>(nomatch hm)]],h2,h3,h4]
end Att
namespace L2
open PySem PySem.Spec PyProof.Rows
def yf:∀{vs:List Value}{ns:List Int},H0 vs ns->Vals (ns.map V.int) vs
 |_,_,.nil=>.nil
 |_,_,.cons n t h=>.cons #[t,rfl] (yf h)
abbrev MR(H:Hp):Prop:=∀b,H b=ψ\/∃o xs,H b=ξ (.sZ o (.lst xs))
def IT{P:bQ}{w:cG}{K:aM}{mg mb:Str->Option Value}{CX:HN}{k:Nat}{fa a:Addr}{fd:fT}{x:Str}{sp:Sp}{s₁:aE}{vs:List Value}{ns:List Int}
  (KX:K.In s₁.heap) (hns:s₁.heap.Ns bJ mg) (hb:s₁.heap.Ns CU mb) (hbb:∀x:Str,x≠"__name__"->mb x=kN x) (hlim:s₁.heap.NoLimit) (hg:s₁.gens = #[])
  (ha:s₁.heap.get? a=ξ {cls:=.type "list",data:=.seq vs.toArray}) (hi:H0 vs ns) (hl:ns.length<=sizeLine) (hr:jT k xk)
  (F:∀base:Heap,K.In base->base.Ns bJ mg->jU P w K mg base CX k fa fd [x] sp) (hbind:∀(s:aE)(u:Value),Cu s fd #[[u],[]] [(x,u)])
  (hsp:∀H:Hp,MR H->iS K H a (ns.map V.int)->sp [.ref a] H (λv _=>v=.bl ζ) λ_ _ _=>False)
  (hCX:∀H e s',CX [] H s₁ (λ_ _ _=>False) e s'->False):
  qN (bf P w) xk (.call (.ref fa) #[[.ref a],[]]) (λr s'=>r=.ok (.ret (.bool ζ))/\OldK s₁.heap s'.heap/\s'.os=s₁.os/\qL s'.gens) s₁:=by
 have rv:=yf hi;have lenV:=hi.length;have core:∀H:Hp,MR H->iS K H a (ns.map V.int)->qw P w H s₁.heap->(∀b,H b≠ψ->b=a)->(H a≠ψ->K.lookup a=ψ) ->
   qN (bf P w) xk (.call (.ref fa) #[[.ref a],[]]) (λr s'=>r=.ok (.ret (.bool ζ))/\OldK s₁.heap s'.heap/\s'.os=s₁.os/\qL s'.gens) s₁:=by
  intro H hO hS dQ hA hK;have fm:∀{b:Addr}{o:Obj},s₁.heap.get? b=ξ o->H b=ψ->(zj s₁.heap H).get? b=ξ o:=λe n=>Im e n
  have noA:∀{b:Addr}{o:Obj}{es:Array qv}{ep:Nat},s₁.heap.get? b=ξ o->o.data=.dict es ep->H b=ψ:=λ{b o es ep}e d=>by
   cases q:H b with
   |none=>rfl
   |some u=>
    have e':b=a:=hA b (by rw[q];simp);subst e';rw[ha] at e;cases e;have d':Data.seq vs.toArray _=Data.dict es ep:=d;cases d'
  have nsK:∀{b:Addr}{m:Str->Option Value},s₁.heap.Ns b m->(zj s₁.heap H).Ns b m:=λ{b m} ⟨o,es,ep,e,d,r⟩=>#[o,es,ep,fm e (noA e d),d,r]
  have hKb:K.In (zj s₁.heap H):=λb o e=>fm (KX b o e) (by
   cases q:H b with
   |none=>rfl
   |some u=>
    have e':b=a:=hA b (by rw[q];simp);subst e';rw[hK (by rw[q];simp)] at e;cases e)
  have hM:Mod K mg (zj s₁.heap H):=#[hKb,nsK hns,#[mb,nsK hb,hbb],let ⟨mc,h1,h2⟩:=hlim;#[mc,nsK h1,h2]]
  have e0:Dj P w K mg (zj s₁.heap H) xk [] s₁ H:=#[rfl,hM,λb o e=>Ml e,CV (Gd _ _),trivial,λb hb=>absurd (show b∈([]:List Addr) from hb) (#v[]),dQ,.of_eq hg]
  rwa[xj ((F _ hKb (nsK hns)).run xk [] s₁ H #[[.ref a],[]] [.ref a] [.ref a] _ _ hr e0 (hbind s₁ (.ref a)) (.cons rfl .nil) (hsp H hO hS)) λr s' h=>?_]
  cases r with
  |error e=>exact(hCX H e s' h).elim
  |ok fl=>
   cases fl with
   |next=>erw[aW h]
   |brk=>erw[aW h]
   |cont=>erw[aW h]
   |ret u=>
    let#[v,H',os,bare,un,hok',r',q]:=h;have q':v=.bl ζ:=q;subst q';obtain rfl:u=oQ ζ:=r';refine#[rfl,OldK.of_keep λb o e=>?_,os,bare];cases q:H b with
    |none=>erw[un.keep b o e q (by intro z;exact absurd (show b∈([]:List Addr) from z) (#v[])) (#v[])]
    |some u=>
     rcases hO b with z|⟨ob,xs,z⟩
     .rw[q] at z;cases z
     .have z2:=un.zi b ob _ z
      let#[e1,_]:=dQ b _ z;let#[e2,_]:=hok' b _ z2;rw[e] at e1;cases e1;erw[e2]
 cases hk:K.lookup a with
 |some o=>
  have e:=KX a o hk;rw[ha] at e;cases e;refine core (λ_=>ψ) (λ_=>.inl rfl) (.inr #[_,vs.toArray,_,hk,rfl,rfl,rfl,%[aH,lenV|hl],~~~rv]) (λb u z=>by have z':(ψ:Option HO)=ξ u:=z;cases z') (λb z=>absurd rfl z) λz=>absurd rfl z
 |none=>
  rwa[core (λb=>if b=a then ξ (.sZ {cls:=.type "list",data:=.seq vs.toArray} (.lst (ns.map V.int))) else ψ) (λb=>?_) (.inl (.inr #[{cls:=.type "list",data:=.seq vs.toArray},if_pos rfl])) (λb u z=>?_) (λb z=>?_) λ_=>hk]
  .by_cases hb:b=a
   .erw[.inr #[_,_,if_pos hb]]
   .erw[.inl (if_neg hb)]
  .by_cases hb:b=a
   .have z':=(if_pos hb).symm.trans z
    cases z';subst hb;exact#[ha,%[ae|hl],vs,_,rv,ha]
   .have z':=(if_neg hb).symm.trans z
    cases z'
  .by_cases hb:b=a
   .erw[hb]
   .erw[absurd (if_neg hb) z]
def MS{l:PySem.W.OpenLaw}{n k:Nat}{q:bQ}{loose:List Str}{XP:(Str->Option Value)->Heap->Prop}{YP:cG->Heap->Prop}{d:DefRec}{K:Params->aM}{CX:cG->HN}{sp:cG->Sp}{x:Str}
  (hn:l.most=ξ n) (hn2:n<=sizeLine) (hdf:d.params.defaults=[]) (hr:jT k xk)
  (hY:∀(w:cG)(h:Heap),YP w h->(K w.params).In h)
  (F:∀(w:cG)(mg:Str->Option Value)(fa:Addr)(h:Heap),(K w.params).In h->h.Ns bJ mg->mg d.name=ξ (.ref fa) ->
   ∃fd:fT,(∀(s:aE)(u:Value),Cu s fd #[[u],[]] [(x,u)]) /\
    ∀base:Heap,(K w.params).In base->base.Ns bJ mg->jU l.prog w (K w.params) mg base (CX w) k fa fd [x] (sp w))
  (hsp:∀(w:cG)(H:Hp)(a:Addr)(ns:List Int),ns.length<=n->MR H->iS (K w.params) H a (ns.map V.int)->sp w [.ref a] H (λv _=>v=.bl ζ) λ_ _ _=>False)
  (hCX:∀(w:cG)(H:Hp)(s:aE)(e:Value)(s':aE),CX w [] H s (λ_ _ _=>False) e s'->False):
  PySem.W.WalkO q loose XP YP l.row.toRowW d [] (λf vs=>FV f vs):=by
 rwa[Att.Bs hn hdf λw s₀ s₁ mg mb fa o pm cd doc a vs ns G Y ho hd hcd hmg hobj hints hlen hg=>?_]
 have KX:=hY w _ Y;let#[fd,hb,hF]:=F w mg fa _ KX G.T.g hmg;erw[IT KX G.T.g G.T.b G.T.builtins G.T.nolimit hg hobj hints (aI hlen hn2) hr hF hb (λH hO hS=>hsp w H a ns hlen hO hS) λH e s'=>hCX w H s₁ e s']
abbrev inClass(s:Stmt)(j:Nat):Stmt:=match s with
 |.ClassDef _ _ _ body _ _ _ _ _ _ _=>body.getD j (.Pass #[0,0,0,0])
 |_=>.Pass #[0,0,0,0]
abbrev mf(s:Stmt):Arguments:=match s with
 |.FunctionDef _ a _ _ _ _ _ _ _ _=>a
 |_=>{posonlyargs:=[],args:=[],vararg:=ψ,kwonlyargs:=[],kw_defaults:=[],kwarg:=ψ,defaults:=[]}
abbrev f9(s:Stmt):List Stmt:=match s with
 |.FunctionDef _ _ b _ _ _ _ _ _ _=>b
 |_=>[]
abbrev bY(s:Stmt):kO:=match s with
 |.FunctionDef _ _ _ _ _ _ sc _ _ _=>sc
 |_=>{kind:=.function,names:=[],isGenerator:=ϑ,isCoroutine:=ϑ}
@[reducible]def Ds:HN:=λ_ _ _ _ _ _=>False
@[reducible]def E0:XK:=λ_ _ _=>False
def yg:Passes Ds X E0:=λ_ _ _ _ _ _ _ h=>h.elim
structure LZ(K:aM)(x qual:Str)(st:Stmt)(f:Addr)(fd:fT):Prop where
 ex:∃(oc:Value)(od:Option Addr)(kV doc pm:Value)(an:Option Addr)(cdv ct:Value)(osl:Array (Option Value)),
  fd=kX x qual (mf st) (f9 st) (bY st) .none kV doc pm an cdv ct/\K.lookup f=ξ #[oc,od,.func fd,osl]/\vo K cdv qual=ζ
 kp:jE K (.ref f)=ζ
section
variable{P:bQ}{w:cG}{K:aM}{mg:Str->Option Value}{base:Heap}
def LZ.ok{x qual:Str}{st:Stmt}{f:Addr}{fd:fT}{N ps:List Str}{k:Nat}{sp:Sp}(F:LZ K x qual st f fd)(S:me N ps (bY st))(len:∀vs H Q E,sp vs H Q E->vs.length=ps.length)
  (hbody:∀(cdv:Value)(A:eD)(outer:List Env)(s:aE)(H:Hp)(vs:List V)(Q:VK)(E:XK),jT k (A.deeper (tj qual (bY st) s.heap.objs.size f cdv))->sp vs H Q E ->
   ∃t,u5 (Dk Ds P w K mg base N qual (bY st) f cdv A outer s H E).U2 (f9 st) t/\t {nx:=λ_ H'=>Q .b7 H',rt:=Q} (start N vs) H):jU P w K mg base Ds (k+1) f fd ps sp:=by
 let#[oc,od,kV,doc,pm,an,cdv,ct,osl,rfl,lk,hcd]:=F.ex;rwa[Vt lk hcd S len λA outer s H vs Q E hr hsp=>?_]
 let#[t,h,q]:=hbody cdv A outer s H vs Q E hr hsp;exact#[t,h.U2,q]
def LZ.binds{x qual:Str}{st:Stmt}{f:Addr}{fd:fT}{ps:List Str}(F:LZ K x qual st f fd)
  (h:∀(kV doc pm:Value)(an:Option Addr)(cdv ct:Value)(us:List Value),us.length=ps.length->Mc (kX x qual (mf st) (f9 st) (bY st) .none kV doc pm an cdv ct) #[us,[]]=pure (ps.zip us)):Binds K fd ps []:=by
 let#[oc,od,kV,doc,pm,an,cdv,ct,osl,rfl,lk,hcd]:=F.ex;erw[.all (h kV doc pm an cdv ct)]
def IU{x qual:Str}{st:Stmt}{f:Addr}{oc:Value}{od an:Option Addr}{osl:Array (Option Value)}{kV doc pm cdv ct:Value}(l:K.lookup f=ξ #[oc,od,.func (kX x qual (mf st) (f9 st) (bY st) .none kV doc pm an cdv ct),osl])
  (c:vo K cdv qual=ζ) (k:jE K (.ref f)=ζ):LZ K x qual st f (kX x qual (mf st) (f9 st) (bY st) .none kV doc pm an cdv ct):=#[#[oc,od,kV,doc,pm,an,cdv,ct,osl,rfl,l,c],k]
end
section
variable{κ:Type}[DecidableEq κ]
abbrev jW(kvs:List (κ×V))(k:κ):Option V:=(kvs.find? λkv=>decide (kv.1=k)).map (·.2)
abbrev putK(kvs:List (κ×V))(k:κ)(v:V):List (κ×V):=
 if (kvs.any λkv=>decide (kv.1=k))=ζ then kvs.map (λkv=>if kv.1=k then(kv.1,v) else kv) else kvs++[(k,v)]
def lG{p:κ×V}{r:List (κ×V)}{k:κ}(e:p.1=k):jW (p::r) k=ξ p.2:=by simp[jW,eh,e]
def lH{p:κ×V}{r:List (κ×V)}{k:κ}(e:¬p.1=k):jW (p::r) k=jW r k:=by simp[jW,eh,e]
def vF(k:κ):∀kvs:List (κ×V),(kvs.any λkv=>decide (kv.1=k))=(jW kvs k).isSome
 |[]=>rfl
 |p::r=>by
  rw[dw]
  by_cases e:p.1=k
  .dsimp[lG e,decide_eq_true e,Bool.true_or,rm]
  .rw[lH e,decide_eq_false e,Bool.false_or];erw[vF k r]
def pq(kvs:List (κ×V))(k:κ)(v:V):(putK kvs k v).length<=kvs.length+1:=by
 unfold putK;split
 .rw[ae];omega
 .rw[aq,aS,dB];omega
def Bt{kvs:List (κ×V)}{k:κ}(v:V)(h:jW kvs k=ψ):putK kvs k v=kvs++[(k,v)]:=by
 unfold putK;rw[vF,h]
 erw[if_neg ⋯]
def nU.tH(r:nU o u):o.isSome=u.isSome:=by
 cases o with
 |none=>cases u with
  |none=>rfl
  |some _=>exact(show False from r).elim
 |some _=>cases u with
  |none=>exact(show False from r).elim
  |some _=>rfl
def nU.getD(r:nU o u)(rd:RelV d d'):RelV (o.getD d) (u.getD d'):=by
 cases o with
 |none=>cases u with
  |none=>erw[rd]
  |some _=>exact(show False from r).elim
 |some _=>cases u with
  |none=>exact(show False from r).elim
  |some _=>erw[r]
def KV.val{kvs:List (κ×V)}{vs:List (κ×Value)}(r:KV kvs vs)(k:κ):nU (jW kvs k) (lU vs k):=by
 unfold KV at r;induction r with
 |nil=>erw[eR]
 |@cons p q ps qs h t ih=>
  let#[h1,h2]:=h;by_cases e:p.1=k
  .have e':q.1=k:=h1.symm.trans e
   have b:lU (q::qs) k=ξ q.2:=by simp[lU,eh,e']
   rw[lG e,b];erw[h2]
  .have e':¬q.1=k:=λz=>e (h1.trans z)
   have b:lU (q::qs) k=lU qs k:=by simp[lU,eh,e']
   rw[lH e,b];erw[ih]
def KV.any(r:KV kvs vs)(k:κ):(kvs.any λkv=>decide (kv.1=k))=vs.any λkv=>decide (kv.1=k):=by
 unfold KV at r;induction r with
 |nil=>rfl
 |cons h t ih=>rw[dw,dw,ih,h.1]
def KV.QZ(r:KV kvs vs)(k:κ)(ry:RelV y u):
  KV (kvs.map λkv=>if kv.1=k then(kv.1,y) else kv) (vs.map λkv=>if kv.1=k then(kv.1,u) else kv):=by
 unfold KV at r ⊢;induction r with
 |nil=>erw[.nil]
 |@cons p q ps qs h t ih=>
  rw[aw,aw]
  rwa[.cons ?_ ih];let#[h1,h2]:=h;by_cases e:p.1=k
  .rw[if_pos e,if_pos (h1.symm.trans e)];exact#[h1,ry]
  .rw[if_neg e,if_neg (λz=>e (h1.trans z))];exact#[h1,h2]
def KV.put(r:KV kvs vs)(k:κ)(ry:RelV y u):KV (putK kvs k y) (vq vs k u):=by
 unfold putK vq;rw[r.any k]
 by_cases e:(vs.any λkv=>decide (kv.1=k))=ζ
 .rw[if_pos e,if_pos e];erw[r.QZ k ry]
 .rw[if_neg e,if_neg e];erw[Paired.snoc r #[rfl,ry]]
def KV.keys{kvs:List (κ×V)}{vs:List (κ×Value)}(r:KV kvs vs):kvs.map (·.1)=vs.map (·.1):=by
 unfold KV at r;induction r with
 |nil=>rfl
 |cons h t ih=>rw[aw,aw,ih,h.1]
def KV.length(r:KV kvs vs):kvs.length=vs.length:=Paired.length r
end
def rW(r:RelV (kV k) u):(dv P w).is k u=ζ:=by
 rcases k with i|_|x
 .let#[t,e]:=(show ∃t,u=lS i t from r);subst e;erw[Bg P w i t]
 .cases (show u=gw from r);rfl
 .let#[t,e]:=(show ∃t,u=lT x t from r);subst e;erw[Bh P w x t]
def Q0(e:kV a=kV b):a=b:=by
 rcases a with i|_|x<;>rcases b with j|_|y<;>cases e<;>rfl
def yh:∀{ks:List Key}{us:List Value},Vals (ks.map kV) us->ItemsAre (dv P w) ks us
 |[],_,r=>by rw[jX] at r;cases r;erw[.nil]
 |k::ks,_,r=>by
  rw[aw] at r;cases r with
  |cons h t=>erw[.cons (rW h) (yh t)]
@[reducible]def KT(H:Hp):List (List Key×V)->List (List Key×Addr×Value)->Prop:=Paired λp q=>p.1=q.1/\H q.2.1=ξ (.tup (p.1.map kV))/\RelV p.2 q.2.2
def KT.val{H:Hp}{kvs:List (List Key×V)}{xs:List (List Key×Addr×Value)}(r:KT H kvs xs)(k:List Key):nU (jW kvs k) ((rn xs k).map (·.2)):=by
 induction r with
 |nil=>erw[eR]
 |@cons p q ps qs h t ih=>
  let#[h1,_,h2]:=h;by_cases e:p.1=k
  .have e':q.1=k:=h1.symm.trans e
   have b:rn (q::qs) k=ξ q.2:=by simp[rn,eh,e']
   rw[lG e,b];erw[h2]
  .have e':¬q.1=k:=λz=>e (h1.trans z)
   have b:rn (q::qs) k=rn qs k:=by simp[rn,eh,e']
   rw[lH e,b];erw[ih]
def KT.QZ(r:KT H kvs xs)(k:List Key)(ry:RelV y u):
  KT H (kvs.map λkv=>if kv.1=k then(kv.1,y) else kv) (xs.map (putAt k u)):=by
 induction r with
 |nil=>erw[.nil]
 |@cons p q ps qs h t ih=>
  rw[aw,aw]
  rwa[.cons ?_ ih];let#[h1,h2,h3]:=h;unfold putAt;by_cases e:p.1=k
  .rw[if_pos e,if_pos (h1.symm.trans e)];exact#[h1,h2,ry]
  .rw[if_neg e,if_neg (λz=>e (h1.trans z))];exact#[h1,h2,h3]
def KT.put(r:KT H kvs xs)(k:List Key)(hb:H b=ξ (.tup (k.map kV)))(ry:RelV y u):
  KT H (putK kvs k y) (storedH xs k b u):=by
 have e:(kvs.any λkv=>decide (kv.1=k))=(rn xs k).isSome:=by
  rw[vF,(r.val k).tH,FW]
 unfold putK storedH;rw[e]
 by_cases q:(rn xs k).isSome=ζ
 .rw[if_pos q,if_pos q];erw[r.QZ k ry]
 .rw[if_neg q,if_neg q];erw[Paired.snoc r #[rfl,hb,ry]]
def KT.keeps(r:KT H kvs xs)(ht:∀b ys,H b=ξ (.tup ys)->H' b=ξ (.tup ys)):KT H' kvs xs:=
 Paired.Ga r λ_ _ z=>#[z.1,ht _ _ z.2.1,z.2.2]
section
variable{P:bQ}{w:cG}{H:Hp}{h:Heap}{a:Addr}
def Pa(ok:qw P w H h)(e:Rd H a u):dZ P w H h a u:=e.ok ok
def uu(ok:qw P w H h)(e:Rd H a (.dK kvs)):kvs.length<=sizeLine/\(a==cu)=ϑ/\∃vs,KV kvs vs/\h.DictOf (dv P w) a vs:=
 show dZ P w H h a (.dK kvs) from Pa ok e
def IV(ok:qw P w H h)(e:H a=ξ (.dK kvs)):kvs.length<=sizeLine/\(a==cu)=ϑ/\∃vs,KV kvs vs/\h.DictOf (dv P w) a vs:=uu ok (.inl e)
def qQ(ok:qw P w H h)(e:H a=ξ (.tup (ks.map kV))):(nG (dv P w)).is h ks a:=by
 let#[_,its,r,o,h1,h2,#[n,h3],_]:=(show dZ P w H h a (.tup (ks.map kV)) from ok a _ e)
 exact#[o,its.toArray,n,h1,h2,h3,~~~(yh r)]
def vG(ok:qw P w H h)(e:Rd H a (.dT kvs)):kvs.length<=sizeLine/\(a==cu)=ϑ /\
  ∃xs,KT H kvs xs/\h.DictOfH (nG (dv P w)) a xs:=by
 let#[z,y,xs,r,o,es,ep,h1,h2,h3,h4,h5]:=(show dZ P w H h a (.dT kvs) from Pa ok e)
 refine#[z,y,xs,r,o,es,ep,h1,h2,h3,h4,λx hx=>?_,h5];have all:∀{l:List (List Key×V)}{m:List (List Key×Addr×Value)},KT H l m->∀x∈m,(nG (dv P w)).is h x.1 x.2.1:=by
  intro l m q;induction q with
  |nil=>intro x hx;erw[nomatch hx]
  |@cons p q ps qs hq t ih=>
   intro x hx;rcases aR.mp hx with e|hx
   .subst e
    erw[qQ ok (by rw[<-hq.1];exact hq.2.1)]
   .erw[ih x hx]
 erw[all r x hx]
def EM(ok:qw P w H h)(e:H a=ξ (.dT kvs)):kvs.length<=sizeLine/\(a==cu)=ϑ /\
  ∃xs,KT H kvs xs/\h.DictOfH (nG (dv P w)) a xs:=vG ok (.inl e)
end
abbrev tI(H:Hp)(a:Addr)(y:V)(r:Option V):Prop:=
 (∃kvs k,Rd H a (.dK kvs)/\y=kV k/\r=jW kvs k)\/∃kvs k b,Rd H a (.dT kvs)/\y=.ref b/\H b=ξ (.tup (k.map kV))/\r=jW kvs k
abbrev VA(H:Hp)(a:Addr)(y v:V)(H':Hp):Prop:=
 (∃kvs k,H a=ξ (.dK kvs)/\y=kV k/\kvs.length<sizeLine/\H'=upd H a (.dK (putK kvs k v))) \/
 ∃kvs k b,H a=ξ (.dT kvs)/\y=.ref b/\H b=ξ (.tup (k.map kV))/\kvs.length<sizeLine/\H'=upd H a (.dT (putK kvs k v))
def tI.k{H:Hp}{a:Addr}{kvs:List (Key×V)}{k:Key}(e:H a=ξ (.dK kvs)):tI H a (kV k) (jW kvs k):=.inl #[kvs,k,.inl e,rfl,rfl]
section
variable{X:Cx}{pZ:List (Addr×Obj)}{σ:St}{H:Hp}{s:aE}{a:Addr}{y v:V}{u r:Value}{o:Option V}{A:eD}{E:Value->aE->Prop}
def Inv.big(I:Inv X pZ σ H s):cu<s.heap.objs.size:=by
 have h:bJ<s.heap.objs.size:=(I.mod.glob.keeps I.bk).lt;erw[j9 ⋯ h]
def Gv(hu:A.units+1<fH)(I:Inv X pZ σ H s)(g:tI H a y (ξ v))(ry:RelV y u)(h:∀w' s',Inv X pZ σ H s'->RelV v w'->Q w' s'):
  wpAny (bf X.prog X.w) A (oZ (.ref a) u) Q E s:=by
 rcases g with⟨kvs,k,e,ey,l⟩|⟨kvs,k,b,e,ey,eb,l⟩
 .subst ey
  let#[z,hd,vs,rel,dd]:=uu I.dQ e;let#[w',hw,rw']:=nU.some_of (v:=v) (o:=lU vs k) (%[l|rel.val k]);erw[wpAny_getItem_of (rW ry) dd.mapOf hw (h w' _ (I.tok _) rw')]
 .subst ey
  cases (show u=bu b from ry);let#[z,hd,xs,rel,dd]:=vG I.dQ e;let#[w',hw,rw']:=nU.some_of (v:=v) (o:=(rn xs k).map (·.2)) (%[l|rel.val k]);let#[p,hp,hp2]:=au.mp hw;rwa[wpAny_getItem_heap (gZ hu) (qQ I.dQ eb) dd hp ?_];rw[hp2]
  erw[h w' _ (I.tok _) rw']
def MT(hu:A.units+1<fH)(I:Inv X pZ σ H s)(g:tI H a y o)(ry:RelV y u)(h:∀s',Inv X pZ σ H s'->Q (.bool (!o.isSome)) s'):
  wpAny (bf X.prog X.w) A (bF .NotIn u (.ref a)) Q E s:=by
 rcases g with⟨kvs,k,e,ey,l⟩|⟨kvs,k,b,e,ey,eb,l⟩
 .subst ey
  let#[z,hd,vs,rel,dd]:=uu I.dQ e;rwa[wpAny_notIn_of (rW ry) hd dd.mapOf ?_];rw[<-(rel.val k).tH,<-l]
  erw[h _ (I.tok _)]
 .subst ey
  cases (show u=bu b from ry);let#[z,hd,xs,rel,dd]:=vG I.dQ e;rwa[wpAny_notIn_heap (gZ hu) (qQ I.dQ eb) hd dd ?_];have q:=(rel.val k).tH;rw[FW] at q;rw[<-q,<-l]
  erw[h _ (I.tok _)]
def pW(I:Inv X pZ σ H s)(mu:Uu (H a))(hs:gD a s.heap h')(he:∃q,h'.get? a=ξ q)(new:dZ X.prog X.w (upd H a ob) h' a ob):
  Inv X pZ σ (upd H a ob) {s with heap:=h',toks:=t'}:=
 I.write (x:=a) (e:=a) mu (.inl rfl) (λb q hb z=>(hs.2 b hb).trans z) he new
def zz(z:kvs.length<=sizeLine)(hd:(a==cu)=ϑ)(rel:KV kvs vs)(dd:h'.DictOf (dv P w) a vs):
  dZ P w H' h' a (.dK kvs):=#[z,hd,vs,rel,dd]
def Gx(hu:A.units+1<fH)(I:Inv X pZ σ H s)(g:VA H a y v H')(ry:RelV y u)(rv:RelV v r)(h:∀s',Inv X pZ σ H' s'->Q () s'):
  wpAny (bf X.prog X.w) A (setItem (.ref a) u r) Q E s:=by
 rcases g with⟨kvs,k,e,ey,l,eH⟩|⟨kvs,k,b,e,ey,eb,l,eH⟩
 .subst ey eH
  let#[z,hd,vs,rel,dd]:=IV I.dQ e;have hz:vs.length<=sizeLine:=by rw[<-rel.length];erw[z]
  have hl:(putK kvs k v).length<=sizeLine:=by have:=pq kvs k v;omega
  rwa[wpAny_setItem_pairs (hsz:=hz) (rW ry) dd λh' dd' hs=>h _ ?_]
  have he:∃q,h'.get? a=ξ q:=let ⟨q,_,_,hq,_⟩:=dd';#[q,hq];erw[pW I (by rw[e];exact eR) hs he (zz hl hd (rel.put k rv) dd')]
 .subst ey eH
  cases (show u=bu b from ry);let#[z,hd,xs,rel,dd]:=EM I.dQ e;have hz:xs.length<=sizeLine:=by rw[<-Paired.length rel];erw[z]
  have hl:(putK kvs k v).length<=sizeLine:=by have:=pq kvs k v;omega
  rwa[wpAny_setItem_heap (hsz:=hz) (gZ hu) (qQ I.dQ eb) dd λh' dd' hs=>h _ ?_]
  let#[q,es,ep,hq,h2,h3,h4,_,h5]:=dd';rwa[pW I (%[e|eR]) hs #[q,hq] #[hl,hd,_,(rel.put k eb rv).keeps λc ys ec=>?_,q,es,ep,hq,h2,h3,h4,h5]];rw[cw (UR ec e (λz=>nomatch z))]
  erw[ec]
end
section
variable{X:Cx}{pZ:List (Addr×Obj)}{σ:St}{H:Hp}{s:aE}{a:Addr}{kvs:List (Key×V)}{k:Key}{u:Value}{A:eD}{E:Value->aE->Prop}
def VB(I:Inv X pZ σ H s)(e:Rd H a (.dK kvs))(h:∀t s',Inv X pZ σ H s'->Q (.int kvs.length t) s'):wpAny (bf X.prog X.w) A (call (.builtin "len") [.ref a]) Q E s:=by
 let#[z,hd,vs,rel,dd]:=uu I.dQ e;refine call_len_dict hd dd (by rw[<-rel.length];rw[lV] at z;omega) ?_;rw[<-rel.length]
 erw[h _ _ (I.tok _)]
end
abbrev VC(i:Expr):Prop:=∀ov iv,AO i ϑ ov iv=operate [ov,iv] (oZ ov iv)
def MU{prog:bQ}{w:cG}{A:eD}{E:Value->aE->Prop}{s:aE}{env:Env}{value slice:Expr}{pos:Pos}{T id:String}{Q:Value->aE->Prop}
  (hl:typeLookup (.type T) "__getitem__"=pure (ξ (.builtin id))) (hs:VC slice)
  (h:wpAny (bf prog w) A (eval value env) (λo s₁=>wpAny (bf prog w) A (eval slice env) (λi s₂=>s₂.TypeIs o T/\wpAny (bf prog w) A (oZ o i) Q E s₂) E s₁) E s):
  wpAny (bf prog w) A (eval (.Subscript value slice pos) env) Q E s:=by
 rwa[Subscript_ (fB h (λo s₁ h₁=>fB h₁ (λi s₂ h₂=>?_) λ_ _ x=>x) λ_ _ x=>x)];let#[hT,h₂]:=h₂;unfold FT;rwa[af ?_];rw[getitemInPython_of_ne hT.not_modules]
 refine af (A3 hT hl ?_);have fin:wpAny (bf prog w) A (AO slice ϑ o i) (λr s₃=>wpAny (bf prog w) A (letTemporaryGo value o r>>=λ_=>pure r) Q E s₃) E s₂:=by
  rw[hs o i]
  erw[wpAny_operating (fB h₂ (λr s₃ h₃=>af (wpAny_letTemporaryGo (aB h₃))) λ_ _ x=>x)]
 first
  |exact aB (af fin)
  |exact af (aB (af fin))
  |exact af fin
def Bu(I:Inv X pZ σ H s)(g:tI H a y o):s.TypeIs (.ref a) "dict":=by
 rcases g with⟨kvs,k,e,_,_⟩|⟨kvs,k,b,e,_,_,_⟩
 .let#[_,_,vs,_,dd]:=uu I.dQ e
  erw[dd.typeIs]
 .let#[_,_,xs,_,dd]:=vG I.dQ e
  erw[dd.typeIs]
abbrev VD(td ty:TE):TE:=λσ H Q=>td σ H λx H1=>ty σ H1 λy H2=>∃a v,x=.ref a/\tI H2 a y (ξ v)/\Q v H2
abbrev VE(td ty tv:TE):TS:=λD σ H=>tv σ H λv H1=>td σ H1 λx H2=>ty σ H2 λy H3=>∃a H4,x=.ref a/\VA H3 a y v H4/\D.nx σ H4
section
variable{X:Cx}{o i e value:Expr}{pos pos' tpos:Pos}{td ty tv:TE}
def MV(hu:X.A.units+1<fH)(ho:PE X o td)(hi:PE X i ty)(hs:VC i):PE X (.Subscript o i pos) (VD td ty):=by
 w_up;rwa[MU PySem.F.slot_dict_getitem.lookup hs (eY (ho pZ s σ H _ I h) λu s1 h9=>?_)];let#[x,H1,I1,rx,q1]:=h9;rwa[eY (hi pZ s1 σ H1 _ I1 q1) λiv s2 h9=>?_]
 let#[y,H2,I2,ry,a,v,ex,g,q2]:=h9;subst ex;obtain rfl:u=bu a:=rx;exact#[Bu I2 g,Gv hu I2 g ry λw' s3 I3 rw'=>#[v,H2,I3,rw',q2]]
def MX(hu:X.A.units+1<fH)(ho:PE X o td)(hi:PE X i ty)(hv:PE X value tv)(hs:iK value (ξ (.Subscript o i pos')) pos.line X.env=pure ϑ):
  PS X (.Assign [.Subscript o i pos'] value pos) (VE td ty tv):=by
 intro pZ s σ H D I h;rwa[wpAny_Assign_Subscript (eY (hv pZ s σ H _ I h) λr s1 h9=>?_) hs];let#[v,H1,I1,rv,q1]:=h9;rwa[eY (ho pZ s1 σ H1 _ I1 q1) λu s2 h9=>?_]
 let#[x,H2,I2,rx,q2]:=h9;rwa[eY (hi pZ s2 σ H2 _ I2 q2) λiv s3 h9=>?_]
 let#[y,H3,I3,ry,a,H4,ex,g,q3]:=h9;subst ex;obtain rfl:u=bu a:=rx;erw[Gx hu I3 g ry rv λs4 I4=>#[σ,H4,I4,q3]]
end
def Bv(h:Heap)(hb:cu<h.objs.size):dZ P w H (h.push {cls:=.type "dict",data:=.dict #[]}) h.objs.size (.dK []):=
 #[bI _,beq_eq_false_iff_ne.mpr (cM (bb hb)),[],.nil,Cy h]
def IW(h:Heap)(hb:cu<h.objs.size):dZ P w H (h.push {cls:=.type "dict",data:=.dict #[]}) h.objs.size (.dT []):=
 #[bI _,beq_eq_false_iff_ne.mpr (cM (bb hb)),[],.nil,_,#[],0,bg _ rfl,#[rfl,rfl,rfl],rfl,rfl,xO]
abbrev Dt:List (TE×TE)->St->Hp->(List (V×V)->Hp->Prop)->Prop
 |[],_,H,Q=>Q [] H
 | (tk,tv)::r,σ,H,Q=>tk σ H λx H1=>tv σ H1 λy H2=>Dt r σ H2 λps H3=>Q ((x,y)::ps) H3
@[reducible]def VV:List (V×V)->List (Value×Value)->Prop:=Paired λp q=>RelV p.1 q.1/\RelV p.2 q.2
abbrev Yr(X:Cx)(pos:Pos)(keys:List (Option Expr))(values:List Expr)(trs:List (TE×TE)):Prop:=
 ∀(pZ:List (Addr×Obj))(s:aE)(σ:St)(H:Hp)(Q:List (V×V)->Hp->Prop),Inv X pZ σ H s->Dt trs σ H Q ->
  wpAny (bf X.prog X.w) X.A (evalPairs (pairTrees keys values X.env pos)) (λvs s'=>∃ps H',Inv X pZ σ H' s'/\VV ps vs/\Q ps H') X.xe s
def MY:Yr X pos [] [] []:=λpZ s σ H Q I h=>pairTrees_nil_walk #[[],H,I,.nil,h]
def IX(hk:PE X k tk)(hv:PE X v tv)(hr:Yr X pos ks vs trs):
  Yr X pos (ξ k::ks) (v::vs) ((tk,tv)::trs):=λpZ s σ H Q I h=>
 pairTrees_cons_walk (eY (hk pZ s σ H _ I h) λu s1 #[x,H1,I1,rx,q1]=>eY (hv pZ s1 σ H1 _ I1 q1) λw2 s2 #[y,H2,I2,ry,q2]=>
  eY (hr pZ s2 σ H2 _ I2 q2) λws s3 #[ps,H3,I3,rel,q3]=>#[(x,y)::ps,H3,I3,.cons #[rx,ry] rel,q3])
abbrev vH(kvs more:List (Key×V)):List (Key×V):=more.foldl (λacc kv=>putK acc kv.1 kv.2) kvs
def KV.merge:∀{more:List (Key×V)}{rs:List (Key×Value)}{kvs:List (Key×V)}{vs:List (Key×Value)},KV more rs->KV kvs vs->KV (vH kvs more) (merged vs rs):=by
 intro more rs kvs vs r;unfold KV at r;induction r generalizing kvs vs with
 |nil=>intro q;erw[q]
 |@cons p q ps qs h t ih=>
  intro r0;have e:KV (putK kvs p.1 p.2) (vq vs q.1 q.2):=by
   have:=r0.put p.1 h.2;rw[<-h.1];erw[this]
  erw[ih e]
def qD:∀(more kvs:List (Key×V)),(vH kvs more).length<=kvs.length+more.length
 |[],kvs=>by show kvs.length<=kvs.length+0;omega
 |p::r,kvs=>by
  have h1:=qD r (putK kvs p.1 p.2);have h2:=pq kvs p.1 p.2;show(vH (putK kvs p.1 p.2) r).length<=_;rw[aS];omega
def vI:∀{kvs:List (Key×V)}{ws:List (Value×Value)},VV (kvs.map λkv=>(kV kv.1,kv.2)) ws->∃rs,Carries (dv P w) ws rs/\KV kvs rs
 |[],_,r=>by rw[jX] at r;cases r;exact#[[],eR,.nil]
 |p::kvs,_,r=>by
  rw[aw] at r;cases r with
  |@cons a b as bs h t=>
   let#[rs,c,q]:=vI (P:=P) (w:=w) t;let#[b1,b2]:=b;exact#[(p.1,b2)::rs,#[rW h.1,rfl,c],.cons #[rfl,h.2] q]
abbrev VF(trs:List (TE×TE)):TE:=λσ H Q=>∀p,H p=ψ->Dt trs σ (upd H p (.dK [])) λps H2=>H2 p=ξ (.dK [])/\∃kvs:List (Key×V),ps=kvs.map (λkv=>(kV kv.1,kv.2))/\kvs.length<=15/\Q (.ref p) (upd H2 p (.dK (vH [] kvs)))
def MZ(h:Yr X pos keys values trs)(hall:keys.all (·.isSome)=ζ)(hl:keys.length=values.length)(h0:keys≠[])
  (h15:keys.length<=15):PE X (.Dict keys values pos) (VF trs):=by
 intro pZ s σ H Q I q;have hn:=I.dQ.fresh (ao s.heap.objs.size);have I1:=I.laid (a:=s.heap.objs.size) (o:=.dK []) (h':=s.heap.push {cls:=.type "dict",data:=.dict #[]}) (t':=s.toks) (λ_ _ q=>aL _ q) (ao _) (Bv s.heap I.big);refine wpAny_Dict_walk (knd:=dv X.prog X.w) hall hl h0 h15 (eY (h pZ _ σ _ _ I1 (q _ hn)) λws s2 h9=>?_);let#[ps,H2,I2,rel,e,kvs,ep,lk,q2]:=h9;subst ep;let#[rs,c,rk]:=vI (P:=X.prog) (w:=X.w) rel;let#[z,hd,vs0,r0,dd]:=IV I2.dQ e;cases r0;refine#[rs,c,dd,λh' dd' hs=>#[.ref s.heap.objs.size,_,?_,rfl,q2]];have hz:(vH [] kvs).length<=sizeLine:=by
  have h1:=qD kvs [];rw[dB] at h1;rw[lV];omega
 have he:∃q,h'.get? s.heap.objs.size=ξ q:=let ⟨q,_,_,hq,_⟩:=dd';#[q,hq];erw[pW I2 (by rw[e];exact eR) hs he (zz hz hd (rk.merge .nil) dd')]
structure M1(X:Cx)(o:Expr)(m:Str)(apos:Pos)(e:Expr)(cpos:Pos):Prop where
 base:iN o m X.env (eval o X.env)=eval o X.env
 Zu:((fP cpos (bD [e] X.env)).all (λx=>!x.1)&&(backToKw cpos (gS [] X.env)).all (λx=>x.1.isSome)
  && decide (([e]:List Expr).length+([]:List o7).length+(if ([]:List o7).isEmpty then 0 else 1)<30))=ζ
 line:(apos.endLine==cpos.line)=ζ
 trees:fP cpos (bD [e] X.env)= [(ϑ,eval e X.env)]
structure M2(X:Cx)(o:Expr)(m:Str)(apos:Pos)(e f:Expr)(cpos:Pos):Prop where
 base:iN o m X.env (eval o X.env)=eval o X.env
 Zu:((fP cpos (bD [e,f] X.env)).all (λx=>!x.1)&&(backToKw cpos (gS [] X.env)).all (λx=>x.1.isSome)
  && decide (([e,f]:List Expr).length+([]:List o7).length+(if ([]:List o7).isEmpty then 0 else 1)<30))=ζ
 line:(apos.endLine==cpos.line)=ζ
 trees:fP cpos (bD [e,f] X.env)= [(ϑ,eval e X.env),(ϑ,eval f X.env)]
abbrev Zv(H:Hp)(a:Addr):Prop:=(∃kvs,Rd H a (.dK kvs))\/∃kvs,Rd H a (.dT kvs)
def IY(I:Inv X pZ σ H s)(d:Zv H a):
  s.TypeIs (.ref a) "dict"/\(∀b,bu a=.ref b->∃ob,s.heap.get? b=ξ ob/\ob.dict=ψ)/\(a==cu)=ϑ:=by
 rcases d with⟨kvs,e⟩|⟨kvs,e⟩
 .let#[_,hd,vs,_,dd]:=uu I.dQ e
  refine#[dd.typeIs,λb q=>?_,hd];cases q;let#[ob,_,_,h1,h2,_]:=dd;exact#[ob,h1,h2.2.1]
 .let#[_,hd,xs,_,dd]:=vG I.dQ e
  refine#[dd.typeIs,λb q=>?_,hd];cases q;let#[ob,_,_,h1,h2,_]:=dd;exact#[ob,h1,h2.2.1]
section
variable{X:Cx}{pZ:List (Addr×Obj)}{σ:St}{H:Hp}{s:aE}{a:Addr}{y d:V}{u r:Value}{o:Option V}{A:eD}{E:Value->aE->Prop}
def Q2(hu:A.units+1<fH)(I:Inv X pZ σ H s)(g:tI H a y o)(ry:RelV y u)(h:∀w' s',Inv X pZ σ H s'->RelV (o.getD .b7) w'->Q w' s'):
  wpAny (bf X.prog X.w) A (call (.builtin "dict.get") [.ref a,u]) Q E s:=by
 rcases g with⟨kvs,k,e,ey,l⟩|⟨kvs,k,b,e,ey,eb,l⟩
 .subst ey
  let#[z,hd,vs,rel,dd]:=uu I.dQ e;rwa[mZ eO dd.typeIs jF (xP _ _) (meets_dict_get (dv X.prog X.w) a (rW ry) hd) #[_,dd.mapOf,h _ _ (I.tok _) ?_]];rw[l]
  exact(rel.val k).getD rfl
 .subst ey
  cases (show u=bu b from ry);let#[z,hd,xs,rel,dd]:=vG I.dQ e;rwa[mZ eO dd.typeIs jF (xP _ _) (meetsH_dict_get (nG (dv X.prog X.w)) a b hd) #[gZ hu,k,xs,qQ I.dQ eb,dd,h _ _ (I.tok _) ?_]];rw[l]
  exact(rel.val k).getD rfl
def Q3(hu:A.units+1<fH)(I:Inv X pZ σ H s)(g:tI H a y o)(ry:RelV y u)(rd:RelV d r)(h:∀w' s',Inv X pZ σ H s'->RelV (o.getD d) w'->Q w' s'):
  wpAny (bf X.prog X.w) A (call (.builtin "dict.get") [.ref a,u,r]) Q E s:=by
 rcases g with⟨kvs,k,e,ey,l⟩|⟨kvs,k,b,e,ey,eb,l⟩
 .subst ey
  let#[z,hd,vs,rel,dd]:=uu I.dQ e;rwa[mZ eO dd.typeIs jF (xQ _ _ _) (meets_dict_get_default (dv X.prog X.w) a (rW ry) hd r) #[_,dd.mapOf,h _ _ (I.tok _) ?_]];rw[l]
  exact(rel.val k).getD rd
 .subst ey
  cases (show u=bu b from ry);let#[z,hd,xs,rel,dd]:=vG I.dQ e;rwa[mZ eO dd.typeIs jF (xQ _ _ _) (meetsH_dict_get_default (nG (dv X.prog X.w)) a b hd r) #[gZ hu,k,xs,qQ I.dQ eb,dd,h _ _ (I.tok _) ?_]];rw[l]
  exact(rel.val k).getD rd
end
abbrev Q4(td ty:TE):TE:=λσ H Q=>td σ H λx H1=>∃a,x=.ref a/\Zv H1 a/\ty σ H1 λy H2=>∃o,tI H2 a y o/\Q (o.getD .b7) H2
abbrev Q5(td ty tx:TE):TE:=λσ H Q=>td σ H λx H1=>∃a,x=.ref a/\Zv H1 a/\ty σ H1 λy H2=>tx σ H2 λz H3=>∃o,tI H3 a y o/\Q (o.getD z) H3
section
variable{X:Cx}{o e f:Expr}{apos cpos:Pos}{td ty tx:TE}
def IZ(hu:X.A.units+1<fH)(ho:PE X o td)(he:PE X e ty)(m:M1 X o "get" apos e cpos):PE X (.Call (.Attribute o "get" apos) [e] [] cpos) (Q4 td ty):=by
 w_up;rwa[wpAny_Call_method m.base m.Zu m.line jk eO AR (eY (ho pZ s σ H _ I h) λu s1 h9=>?_)];let#[x,H1,I1,rx,a,ex,d,q1]:=h9;subst ex;obtain rfl:u=bu a:=rx;let#[t1,t2,_]:=IY I1 d;refine#[t1,t2,?_];rw[m.trees]
 rwa[jS rfl (qu (jw (eY (he pZ s1 σ H1 _ I1 q1) λiv s2 h9=>?_)))];let#[y,H2,I2,ry,ov,g,q2]:=h9;rwa[mU ?_];erw[Q2 hu I2 g ry λw' s3 I3 rw'=>#[_,H2,I3,rw',q2]]
def I9(hu:X.A.units+1<fH)(ho:PE X o td)(he:PE X e ty)(hf:PE X f tx)(m:M2 X o "get" apos e f cpos):PE X (.Call (.Attribute o "get" apos) [e,f] [] cpos) (Q5 td ty tx):=by
 w_up;rwa[wpAny_Call_method m.base m.Zu m.line jk eO AR (eY (ho pZ s σ H _ I h) λu s1 h9=>?_)];let#[x,H1,I1,rx,a,ex,d,q1]:=h9;subst ex;obtain rfl:u=bu a:=rx;let#[t1,t2,_]:=IY I1 d;refine#[t1,t2,?_];rw[m.trees]
 refine jS rfl (qu (jw (eY (he pZ s1 σ H1 _ I1 q1) λiv s2 #[y,H2,I2,ry,q2]=>
  jw (eY (hf pZ s2 σ H2 _ I2 q2) λfv s3 #[z,H3,I3,rz,ov,g,q3]=>mU ?_))))
 erw[Q3 hu I3 g ry rz λw' s4 I4 rw'=>#[_,H3,I4,rw',q3]]
end
section
variable{X:Cx}
def Gy:iP X (.builtin "len") (λxs H Q=>∃a kvs,xs=[V.ref a]/\H a=ξ (.dK kvs)/\Q (.int kvs.length) H):=by
 k_ne;let#[a,kvs,rfl,ha,q]:=h;let#[u,rfl,ru]:=vals1 r;cases ru;erw[VB I (.inl ha) λt s' I'=>#[.int kvs.length,H,I',#[t,rfl],q]]
end
open PySem.W
section
variable{prog:bQ}{w:cG}{K:Type}[DecidableEq K]{A:eD}{E:Value->aE->Prop}{s:aE}
def Du{knd:KeyKind prog w K}{d:Addr}{kvs:List (K×Value)}{k:K}{key v:Value}{Q:Value->aE->Prop}(hkey:knd.is k key=ζ)(hm:s.heap.DictOf knd d kvs)(hsz:kvs.length<=sizeLine)
  (h1:∀x t',lU kvs k=ξ x->Q x {s with toks:=t'})
  (h2:∀h' t',lU kvs k=ψ->h'.DictOf knd d (vq kvs k v)->gD d s.heap h'->Q v {s with heap:=h',toks:=t'}):
  wpAny (bf prog w) A (je d key v) Q E s:=by
 have mo:s.heap.MapOf knd d (lU kvs):=hm.mapOf;let#[o,es,ep,ho,hc,hd,hk,hp,hn]:=hm;let#[o',es',ep',ho',_,hd',_,hf]:=mo;obtain rfl:o=o':=aG (ho.symm.trans ho');rw[hd] at hd';injection hd' with e1 _
 subst e1;have hes:es.size<=sizeLine:=by
  have e1:=hp.length;have e2:es.toList.length=es.size:=by simp
  omega
 unfold je;refine fY (af (knd.pyHash hkey ?_));refine af (wpAny_dictFind_of (s:={s with toks:=s.toks+1}) hkey ho hd hk ?_);have hidx:(es.findIdx? λe=>knd.is k e.key)=kvs.findIdx? λkv=>decide (kv.1=k):=by
  rw[<-hp.findIdx k];let#[l]:=es;simp
 have hv:lU kvs k=((es.findIdx? λe=>knd.is k e.key).bind λi=>es[i]?).map (·.val):=by
  rw[<-hf k,findBy_of_findIdx?]
  cases es.findIdx? λe=>knd.is k e.key<;>rfl
 cases hi:es.findIdx? λe=>knd.is k e.key with
 |some i=>
  rw[hi] at hv;refine af (iV (s:={s with toks:=s.toks+1}) ho hd ?_);have hlt:i<es.size:=(Array.findIdx?_eq_some_iff_findIdx_eq.mp hi).1;have hv:lU kvs k=(es[i]?).map (·.val):=hv;rw[fh hlt] at hv ⊢;erw[af (qK (aB (h1 _ _ hv)))]
 |none=>
  rw[hi] at hv;have hnot:k∉kvs.map (·.1):=not_mem_of_findIdx_none (hidx▸hi);have hany:¬(kvs.any λkv=>decide (kv.1=k))=ζ:=by
   rw[iW];rintro⟨kv,hkv,he⟩;erw[hnot (bx.mpr #[kv,hkv,of_decide_eq_true he])]
  refine af (qK (af (Me (hz:=hes) (s:={s with toks:=s.toks+1}) ho hd (aB (h2 _ _ hv #[_,_,ep+1,kJ _ ho (HH (kY hd _)),
   hc.mapDictKeys _,kY hd _,hk.push hkey _,?_,?_] (fj ..))))))
  .rw[vq,if_neg hany]
   have:=hp.append hkey (knd.hash k) v;let#[l]:=es;simpa using this
  .rw[vq,if_neg hany,aF,d7]
   refine#[hn,#v[],λa ha b hb=>?_];dsimp[aw,jX,aX] at hb;subst hb;erw[λe=>hnot (e▸ha)]
def yi{knd:HeapKind prog w K}{d a:Addr}{xs:List (K×Addr×Value)}{k:K}{v:Value}{Q:Value->aE->Prop}(hu:knd.room A)(hkey:knd.is s.heap k a)(hm:s.heap.DictOfH knd d xs)(hsz:xs.length<=sizeLine)
  (h1:∀x t',(rn xs k).map (·.2)=ξ x->Q x {s with toks:=t'})
  (h2:∀h' t',rn xs k=ψ->h'.DictOfH knd d (xs++[(k,a,v)])->gD d s.heap h'->Q v {s with heap:=h',toks:=t'}):
  wpAny (bf prog w) A (je d (.ref a) v) Q E s:=by
 let#[o,es,ep,ho,hc,hd,he,his,hn]:=hm;unfold je;rwa[fY (af (knd.pyHash hu hkey ?_))];refine af (wpAny_dictFind_heap (s:={s with toks:=s.toks+knd.draws k}) hu hkey ho hd he his hn ?_ ?_)
 .intro hno
  have hnot:k∉xs.map (·.1):=not_mem_keys_of_get hno;refine af (qK (af (Me (hz:=by have e:=A7 he;omega) (s:={s with toks:=s.toks+knd.draws k}) ho hd (aB (h2 _ _ (atKey_none_of_get hno) #[_,_,ep+1,kJ _ ho (HH (kY hd _)),
   hc.mapDictKeys _,kY hd _,?_,?_,?_] (fj ..))))))
  .simp[he,CT]
  .intro x hx
   rcases aJ.mp hx with hx|hx
   .erw[knd.keeps (his x hx) ho hd (fj ..)]
   .dsimp[aX] at hx
    subst hx;erw[knd.keeps hkey ho hd (fj ..)]
  .rw[aF,d7]
   refine#[hn,#v[],λx hx y hy=>?_];dsimp[aw,jX,aX] at hy;subst hy;erw[λe=>hnot (e▸hx)]
 .intro j p hj
  refine af (iV (s:={s with toks:=s.toks+knd.draws k}) ho hd ?_);rw[entry_at he j,hj]
  erw[af (qK (aB (h1 _ _ (by rw[atKey_of_get hn hj];rfl))))]
def tJ(hT:s.TypeIs (.ref a) "dict")(hd:(a==cu)=ϑ)(h:wpAny (bf prog w) A.in1 (je a u r) Q E s):
  wpAny (bf prog w) A (call (.builtin "dict.setdefault") [.ref a,u,r]) Q E s:=by
 refine mZ (S:=λA R s=>s.TypeIs (.ref a) "dict"/\wpAny (bf prog w) A.in1 (je a u r) (λv s'=>R (.ok (.ret v)) s') (λe s'=>R (.error e) s') s)
  uH hT PySem.F.entry_dict_setdefault (PySem.F.args_dict_setdefault_3 _ _ _) (.of_wp λA R s h=>?_) #[hT,h]
 unfold Builtin.«dict.setdefault»;rwa[af ?_];unfold Builtin.Dict.keyAndDefault;rwa[af (rH h.1 (aB ?_))];show wpAny _ _ (if (a==cu)=ζ then _ else(je a u r>>=_)) _ _ s;rw[if_neg (%[hd|aY])]
 erw[af (fB h.2 (λv s' q=>aB #[v,rfl,q]) λ_ _ q=>q)]
end
section
variable{X:Cx}
@[reducible]def KP(H:Hp):List (tu×V)->List (tu×Addr×Value)->Prop:=Paired λp q=>p.1=q.1/\(∃c,H q.2.1=ξ (.tup [.int p.1.1,.ref c])/\H c=ξ (.tup (p.1.2.map .int)))/\RelV p.2 q.2.2
def Bw:∀{ks:List Int}{us:List Value},Vals (ks.map .int) us->ItemsAre (Cs P w) ks us
 |[],_,r=>by rw[jX] at r;cases r;erw[.nil]
 |k::ks,_,r=>by
  rw[aw] at r;cases r with
  |cons h t=>
   let#[t',e]:=h;erw[.cons (by rw[e];simp[Cs,CQ]) (Bw t)]
def EN(ok:qw P w H h)(e:H a=ξ (.tup [.int k.1,.ref c]))(e2:H c=ξ (.tup (k.2.map .int))):(rK P w).is h k a:=by
 let#[_,its,r,o,h1,h2,#[n,h3],_]:=(show dZ P w H h a (.tup [.int k.1,.ref c]) from ok a _ e)
 let#[_,jts,r',o',g1,g2,#[n',g3],_]:=(show dZ P w H h c (.tup (k.2.map .int)) from ok c _ e2)
 cases r with
 |cons r1 r2=>
  let#[t,e]:=r1;cases r2 with
  |cons r3 r4=>
   cases r4;cases (show _=bu c from r3);subst e;exact#[t,c,n,o,h1,h2,h3,o',jts.toArray,n',g1,g2,g3,~~~(Bw r')]
def Pb(ok:qw P w H h)(e:H a=ξ (.dP kvs)):kvs.length<=sizeLine/\(a==cu)=ϑ /\
  ∃xs,KP H kvs xs/\h.DictOfH (rK P w) a xs:=by
 let#[z,y,xs,r,o,es,ep,h1,h2,h3,h4,h5]:=(show dZ P w H h a (.dP kvs) from ok a _ e)
 refine#[z,y,xs,r,o,es,ep,h1,h2,h3,h4,λx hx=>?_,h5];have all:∀{l:List (tu×V)}{m:List (tu×Addr×Value)},KP H l m->∀x∈m,(rK P w).is h x.1 x.2.1:=by
  intro l m q;induction q with
  |nil=>intro x hx;erw[nomatch hx]
  |@cons p q ps qs hq t ih=>
   intro x hx;rcases aR.mp hx with e|hx
   .subst e
    let#[e1,#[c,e2,e3],_]:=hq;rw[<-e1]
    erw[EN ok e2 e3]
   .erw[ih x hx]
 erw[all r x hx]
def KP.val(r:KP H kvs xs)(k:tu):nU (jW kvs k) ((rn xs k).map (·.2)):=by
 induction r with
 |nil=>erw[eR]
 |@cons p q ps qs hq t ih=>
  by_cases e:p.1=k
  .have e':q.1=k:=hq.1▸e
   rw[lG e]
   dsimp[rn,eh,e',decide_true];erw[hq.2.2]
  .have e':¬q.1=k:=hq.1▸e
   rw[lH e]
   simpa[rn,eh,e'] using ih
abbrev Zw(H:Hp)(a:Addr)(y d r:V)(H':Hp):Prop:=
 (∃kvs k,H a=ξ (.dK kvs)/\y=kV k/\kvs.length<sizeLine/\((jW kvs k=ξ r/\H'=H)\/(jW kvs k=ψ/\r=d/\H'=upd H a (.dK (kvs++[(k,d)]))))) \/
 (∃kvs k b,H a=ξ (.dT kvs)/\y=.ref b/\H b=ξ (.tup (k.map kV))/\kvs.length<sizeLine/\((jW kvs k=ξ r/\H'=H)\/(jW kvs k=ψ/\r=d/\H'=upd H a (.dT (kvs++[(k,d)]))))) \/
 ∃kvs k b c,H a=ξ (.dP kvs)/\y=.ref b/\H b=ξ (.tup [.int k.1,.ref c])/\H c=ξ (.tup (k.2.map .int))/\kvs.length<sizeLine/\((jW kvs k=ξ r/\H'=H)\/(jW kvs k=ψ/\r=d/\H'=upd H a (.dP (kvs++[(k,d)]))))
def pv{α β:Type}{F:α->β->Prop}:∀{l:List α}{m:List β}{a:α}{b:β},Paired F l m->F a b->Paired F (l++[a]) (m++[b])
 |_,_,_,_,.nil,f=>.cons f .nil
 |_,_,_,_,.cons r t,f=>.cons r (pv t f)
def M0(hu:X.A.units+2<fH):AX X "dict.setdefault" (λx xs H Q=>∃a y d r H',x=.ref a/\xs=[y,d]/\Zw H a y d r H'/\Q r H'):=by
 intro pZ s σ H x xs v us Q I rx rs h;let#[a,y,d,r,H',rfl,rfl,g,q]:=h;let#[u,ud,rfl,ry,rd]:=rs.two;cases (show v=bu a from rx);rcases g with⟨kvs,k,e,rfl,l,g⟩|⟨kvs,k,b,e,rfl,eb,l,g⟩|⟨kvs,k,b,c,e,rfl,eb,ec,l,g⟩
 .let#[z,hd,vs,rel,dd]:=IV I.dQ e
  have rv:=rel.val k;rwa[tJ dd.typeIs hd (Du (rW ry) dd (by rw[<-rel.length];erw[z]) (λx t' hx=>?_) λh' t' hn dd' hs=>?_)]
  .rw[hx] at rv
   rcases g with⟨g1,rfl⟩|⟨g1,_⟩
   .rw[g1] at rv;exact#[r,H',I.tok _,rv,q]
   .rw[g1] at rv;erw[rv.elim]
  .rw[hn] at rv
   rcases g with⟨g1,rfl⟩|⟨g1,rfl,rfl⟩
   .rw[g1] at rv;erw[rv.elim]
   .have e2:putK kvs k r=kvs++[(k,r)]:=Bt r g1
    have he:∃q,h'.get? a=ξ q:=let ⟨q,_,_,hq,_⟩:=dd';#[q,hq];exact#[r,_,pW I (%[e|eR]) hs he (zz ((·)) hd (e2▸rel.put k rd) dd'),rd,q]
 .cases (show u=bu b from ry)
  let#[z,hd,ws,rel,dd]:=EM I.dQ e;have rv:=rel.val k;rwa[tJ dd.typeIs hd (yi (gZ ∅) (qQ I.dQ eb) dd (by rw[<-Paired.length rel];erw[z]) (λx t' hx=>?_) λh' t' hn dd' hs=>?_)]
  .rw[hx] at rv
   rcases g with⟨g1,rfl⟩|⟨g1,_⟩
   .rw[g1] at rv;exact#[r,H',I.tok _,rv,q]
   .rw[g1] at rv;erw[rv.elim]
  .rw[hn] at rv
   rcases g with⟨g1,rfl⟩|⟨g1,rfl,rfl⟩
   .rw[g1] at rv;erw[rv.elim]
   .let#[o,es,ep,hq,h2,h3,h4,_,h5]:=dd'
    have nt:∀b ys,H b=ξ (.tup ys)->b≠a:=λb ys eq z=>by rw[z,e] at eq;cases eq
    refine#[r,upd H a (.dT (kvs++[(k,r)])),pW (ob:=.dT (kvs++[(k,r)])) I (%[e|eR]) hs #[o,hq] #[(·),hd,ws++[(k,b,ud)],pv (Paired.Ga rel λp q z=>#[z.1,?_,z.2.2]) #[rfl,?_,rd],o,es,ep,hq,h2,h3,h4,h5],rd,q]
    .rw[cw (nt _ _ z.2.1)];erw[z.2.1]
    .rw[cw (nt _ _ eb)];erw[eb]
 .cases (show u=bu b from ry)
  let#[z,hd,ws,rel,dd]:=Pb I.dQ e;have rv:=rel.val k;rwa[tJ dd.typeIs hd (yi (show X.A.in1.units+1<fH by dsimp[uf];omega) (EN I.dQ eb ec) dd (by rw[<-Paired.length rel];erw[z]) (λx t' hx=>?_) λh' t' hn dd' hs=>?_)]
  .rw[hx] at rv
   rcases g with⟨g1,rfl⟩|⟨g1,_⟩
   .rw[g1] at rv;exact#[r,H',I.tok _,rv,q]
   .rw[g1] at rv;erw[rv.elim]
  .rw[hn] at rv
   rcases g with⟨g1,rfl⟩|⟨g1,rfl,rfl⟩
   .rw[g1] at rv;erw[rv.elim]
   .let#[o,es,ep,hq,h2,h3,h4,_,h5]:=dd'
    have nt:∀b ys,H b=ξ (.tup ys)->b≠a:=λb ys eq z=>by rw[z,e] at eq;cases eq
    refine#[r,upd H a (.dP (kvs++[(k,r)])),pW (ob:=.dP (kvs++[(k,r)])) I (%[e|eR]) hs #[o,hq] #[(·),hd,ws++[(k,b,ud)],pv (Paired.Ga rel λp q z=>#[z.1,?_,z.2.2]) #[rfl,#[c,?_,?_],rd],o,es,ep,hq,h2,h3,h4,h5],rd,q]
    .let#[c,e1,e2]:=z.2.1
     exact#[c,%[cw (nt _ _ e1)|e1],%[cw (nt _ _ e2)|e2]]
    .rw[cw (nt _ _ eb)];erw[eb]
    .rw[cw (nt _ _ ec)];erw[ec]
end
def Q6(h:(dv P w).is k u=ζ):RelV (kV k) u:=by
 rcases fX h with⟨i,t,rfl,rfl⟩|⟨x,t,rfl,rfl⟩|⟨rfl,rfl⟩
 .exact#[t,rfl]
 .exact#[t,rfl]
 .rfl
abbrev Uw(a:Addr)(o:Obj)(kvs:List (Key×V)):It:=
 #[λi H=>H a=ξ (.sZ o (.dK kvs))/\i<kvs.length,λi H x H'=>H'=H/\∃k v,kvs[i]?=ξ (k,v)/\x=kV k,λi H=>H a=ξ (.sZ o (.dK kvs))/\kvs.length<=i]
def Dw(ok:qw P w H h)(e:H a=ξ (.sZ o (.dK kvs)))(hd:o.data=.dict es ep):
  (a==cu)=ϑ/\∃vs,KV kvs vs/\h.DictAt (dv P w) a vs ep:=by
 let#[ho,z,y,vs,rel,o',es',ep',h1,h2,h3,h4]:=(show dZ P w H h a (.sZ o (.dK kvs)) from ok a _ e)
 rw[ho] at h1;cases h1;rw[hd] at h3;cases h3;exact#[y,vs,rel,o,es,ho,h2,hd,h4]
def Gz{P:bQ}{w:cG}{K:aM}{tg:Expr}(a it:Addr){o:Obj}{es:Array qv}{ep:Nat}(hd:o.data=.dict es ep)(kvs:List (Key×V)):
  Turn P w K tg (Uw a o kvs) [it] it (λi h=>h.IsKeyIter it a i kvs.length ep) where
 mem:=by simp
 obj:=λi h st b hb=>by
  have e:b=it:=by simpa using hb
  subst e;let#[o,e,c,d]:=st;exact#[o,e,λv z=>by rw[d] at z;cases z]
 keep:=λi h h' st k=>by
  let#[o,e,r]:=st;exact#[o,k it (#v[]) o e,r]
 item:=by
  k_go;subst hP hw hK;let#[hq,hl]:=hg;let#[_,vs,rel,da]:=Dw I.dQ hq hd;let#[f0,f1,f2,f3,f4,f5]:=hf it (#v[]);have hlen:=rel.length;have hk:=congrArg (λl=>l[i]?) rel.keys;dsimp[ar] at hk;let#[k,v]:=vs[i]'∅;have e1:vs[i]?=ξ vs[i]:=aa ∅;have e2:kvs[i]?=ξ kvs[i]:=aa hl;rw[e1,e2] at hk;have hk:kvs[i].1=vs[i].1:=aG hk;rw[hlen] at st;rwa[wpAny_pyNext_dict_item st da (k:=vs[i].1) (v:=vs[i].2) e1 λkey h' ik st' sb=>?_]
  have I1:Inv X pZ σ H {s with heap:=h'}:=I.turned (t':=s.toks) (λb o hb e=>(sb.2 b hb).trans e) f0 f1 f3 f4 f5;let#[o',e,c,d]:=id st';exact#[key,rfl,Bn (s:={s with heap:=h'}) e c d ⋯ #[kV vs[i].1,H,I1,Q6 ik,#[rfl,vs[i].1,kvs[i].2,by rw[e2,<-hk],rfl],%[hlen|st'],λb hb=>(hf b hb).1]]
 done:=by
  k_go;subst hP hw hK;let#[hq,hl]:=hg;let#[_,vs,rel,da]:=Dw I.dQ hq hd;let#[f0,f1,f2,f3,f4,f5]:=hf it (#v[]);have hlen:=rel.length;rw[hlen] at st;erw[wpAny_pyNext_dict_end (I.ok.hd hc) st da (dq ∅) λh' eb=>#[rfl,I.turned (t':=s.toks) (λb o hb e=>eb b o hb e) f0 f1 f3 f4 f5]]
 self:=λ_ _ _ _ _ st h=>wpAny_pyIter_keyiter st h
section
variable{X:Cx}
def Inv.freeze(I:Inv X pZ σ H s)(e:H a=ξ u)(mu:Uu (ξ u))(ho:s.heap.get? a=ξ o)(k:dZ X.prog X.w (upd H a (.sZ o u)) s.heap a u):
  Inv X pZ σ (upd H a (.sZ o u)) s:=
 I.write (x:=a) (e:=a) (h':=s.heap) (t':=s.toks) (%[e|mu]) (.inl rfl) (λb u _ q=>q) #[o,ho] #[ho,k]
abbrev VG(tl:TE):TI:=λσ H R=>tl σ H λx H1=>∃a kvs,x=.ref a/\((H1 a=ξ (.dK kvs)/\∀o,R (Uw a o kvs) (upd H1 a (.sZ o (.dK kvs))))\/∃o,H1 a=ξ (.sZ o (.dK kvs))/\R (Uw a o kvs) H1)
def M3{tg l:Expr}{tl:TE}(hl:PE X l tl):PI X tg l (VG tl):=by
 intro pZ s σ H R I h;rwa[eY (hl pZ s σ H _ I h) λv s1 h9=>?_]
 let#[x,H1,I1,r1,a,kvs,rfl,q]:=h9;cases (show v=bu a from r1);obtain⟨o,H2,I2,e2,q2⟩:∃o H2,Inv X pZ σ H2 s1/\H2 a=ξ (.sZ o (.dK kvs))/\R (Uw a o kvs) H2:=by
  rcases q with⟨e,q⟩|⟨o,e,q⟩
  .have k:=(show dZ X.prog X.w H1 s1.heap a (.dK kvs) from I1.dQ a _ e)
   let#[_,_,_,_,o,_,_,ho,_]:=id k;exact#[o,_,I1.freeze e eR ho k,b9,q o]
  .exact#[o,H1,I1,e,q]
 obtain⟨es,ep,hd⟩:∃es ep,o.data=.dict es ep:=by
  let#[ho,_,_,_,_,o',es,ep,h1,_,h3,_]:=(show dZ X.prog X.w H2 s1.heap a (.sZ o (.dK kvs)) from I2.dQ a _ e2)
  rw[ho] at h1;cases h1;exact#[es,ep,h3]
 let#[lo,vs,rel,da]:=Dw I2.dQ e2 hd;rwa[wpAny_pyIter_dict lo da ?_];refine#[s1.heap.objs.size,[s1.heap.objs.size],_,Uw a o kvs,H2,rfl,I2.kept (t':=s1.toks) λb o e=>aL _ e,Gz a _ hd kvs,#[_,bg _ rfl,rfl,by rw[rel.length];rfl],λc hc=>?_,q2];have e:c=s1.heap.objs.size:=by simpa using hc
 subst e;erw[I2.C6 (ao _) (I2.dQ.fresh (ao _))]
end
abbrev Fre(X:Cx)(pZ:List (Addr×Obj))(H:Hp)(b:Addr):Prop:=H b=ψ/\X.s₀.heap.objs.size<=b/\b≠X.env.locals/\(∀x c,X.env.cells.lookup x=ξ c->c≠b)/\∀p∈X.pn++pZ,p.1≠b
def Inv.Yt(I:Inv X pZ σ H s)(hb:s.heap.objs.size<=b):Fre X pZ H b:=by
 have no:∀o,¬s.heap.get? b=ξ o:=λo e=>absurd (aV e) (mM.mpr hb)
 refine#[I.dQ.fresh hb,aI I.sz hb,λe=>?_,λx c e z=>?_,λp hp z=>?_]
 .erw[absurd I.lt (mM.mpr (e▸hb))]
 .let#[v,o,ho,_]:=I.cell x c e
  rw[z] at ho;erw[no o ho]
 .have:=(I.pin p hp).1
  rw[z] at this;erw[no _ this]
open Builtin Builtin.ObjectAttr
abbrev qx(env:Env):List (Str×NameKind)->List (Str×Addr)->List (Str×Addr)
 |[],acc=>acc
 | (n,k)::r,acc=>qx env r (if k=.free then(n,(env.cells.lookup n).getD 0)::acc else acc)
def vJ(h:∀n,(n,bV)∈scope.names->∃c,env.cells.lookup n=ξ c):closureFor scope env=pure (qx env scope.names []):=by
 have all:∀(l:List (Str×NameKind))(acc:List (Str×Addr)),(∀n,(n,bV)∈l->∃c,env.cells.lookup n=ξ c) ->
   (forIn (m:=Sem) l acc λ(x:Str×NameKind)(cs:List (Str×Addr))=>if (x.2==.free)=ζ then do let c <-cellOf env x.1;pure (eT ((x.1,c)::cs)) else pure (eT cs))=pure (qx env l acc):=by
  intro l;induction l with
  |nil=>intro acc _;rfl
  |cons p r ih=>
   intro acc hl;let#[n,k]:=p;rw[o9]
   have hr:∀m,(m,bV)∈r->∃c,env.cells.lookup m=ξ c:=λm hm=>hl m (az _ hm)
   by_cases hk:k=.free
   .subst hk
    let#[c,hc]:=hl n aO;have e:cellOf env n=pure c:=by unfold cellOf;rw[hc]
    show(do let x <-(if (bV==bV)=ζ then do let c <-cellOf env n;pure (eT ((n,c)::acc)) else pure (eT acc));_)=_
    rw[if_pos ⋯,e]
    show(forIn (m:=Sem) r ((n,c)::acc) _)=_
    rw[ih _ hr]
    show _=pure (qx env r (if bV=bV then(n,(env.cells.lookup n).getD 0)::acc else acc))
    rw[if_pos rfl,hc]
    rfl
   .have hb:(k==bV)=ϑ:=by simpa using hk
    show(do let x <-(if (k==bV)=ζ then do let c <-cellOf env n;pure (eT ((n,c)::acc)) else pure (eT acc));_)=_
    rw[hb,if_neg ⋯]
    show(forIn (m:=Sem) r acc _)=_
    rw[ih _ hr]
    show _=pure (qx env r (if k=bV then(n,(env.cells.lookup n).getD 0)::acc else acc))
    rw[if_neg hk]
 have:=all scope.names [] h;unfold closureFor;simpa using this
def uv:∀(l:List (Str×NameKind))(acc:List (Str×Addr))(y:Str)(c:Addr),(qx env l acc).lookup y=ξ c->(c=(env.cells.lookup y).getD 0/\(y,bV)∈l)\/acc.lookup y=ξ c
 |[],acc,y,c,h=>.inr h
 | (n,k)::r,acc,y,c,h=>by
  rcases uv r _ y c h with⟨e,m⟩|q
  .erw[.inl #[e,az _ m]]
  .by_cases hk:k=.free
   .rw[if_pos hk] at q
    by_cases e:y=n
    .subst e
     subst hk;rw[pM] at q;cases q;erw[.inl #[rfl,aO]]
    .rw[aN,show(y==n)=ϑ by simpa using e] at q
     erw[.inr q]
   .rw[if_neg hk] at q
    erw[.inr q]
def Bx:∀(l:List (Str×NameKind))(acc:List (Str×Addr))(y:Str),(∃c,acc.lookup y=ξ c)->∃c,(qx env l acc).lookup y=ξ c
 |[],_,_,h=>h
 | (n,k)::r,acc,y,h=>by
  rwa[Bx r _ y ?_];by_cases hk:k=.free
  .rw[if_pos hk]
   by_cases e:y=n
   .subst e;exact#[_,pM]
   .rw[aN,show(y==n)=ϑ by simpa using e];erw[h]
  .rw[if_neg hk];erw[h]
def vK:∀(l:List (Str×NameKind))(acc:List (Str×Addr))(y:Str),(y,bV)∈l->∃c,(qx env l acc).lookup y=ξ c
 | (n,k)::r,acc,y,h=>by
  rcases aR.mp h with e|m
  .have e1:y=n:=congrArg Ez e
   have e2:bV=k:=congrArg Prod.snd e;subst e1;rwa[Bx r _ y ?_];rw[if_pos e2.symm]
   exact#[_,pM]
  .erw[vK r _ y m]
def qR:∀(l:List (Str×NameKind))(n:Nat)(acc:List (Str×Addr)),jx n l acc=jx n l []++acc
 |[],_,_=>rfl
 | (y,k)::r,n,acc=>by
  unfold jx;split
  .rw[qR r _ ((y,n)::acc),qR r _ [(y,n)]];simp
  .erw[qR r n acc]
def zA:∀(l:List (Str×NameKind))(n:Nat)(y:Str)(c:Addr),(y,c)∈jx n l []->(y,gy)∈l
 | (z,k)::r,n,y,c,h=>by
  unfold jx at h;split at h
  .rename_i hk
   rw[qR] at h;rcases aJ.mp h with h|h
   .erw[az _ (zA r _ y c h)]
   .cases aX.mp h
    rw[beq_iff_eq.mp hk];erw[aO]
  .erw[az _ (zA r n y c h)]
def zB:∀(l:List (Str×NameKind))(n:Nat)(y:Str),(y,gy)∈l->∃c,(y,c)∈jx n l []
 | (z,k)::r,n,y,h=>by
  unfold jx;rcases aR.mp h with e|h
  .cases e
   rw[if_pos (show(gy==gy)=ζ from rfl),qR]
   exact#[n,bc _ aO]
  .split
   .let#[c,q]:=zB r (n+1) y h
    rw[qR];exact#[c,bz _ q]
   .erw[zB r n y h]
def mO{α:Type}:∀{l:List (Str×α)}{y:Str}{c:α},(y,c)∈l->∃c',l.lookup y=ξ c'
 | (z,d)::r,y,c,h=>by
  rw[aN]
  cases e:y==z with
  |true=>exact#[d,rfl]
  |false=>
   rcases aR.mp h with q|q
   .cases q;simp at e
   .erw[mO q]
abbrev tK(scope:kO)(C:Addr):List (Str×Addr):=jx (C+1) scope.names []
abbrev Cx.vL(X:Cx)(scope:kO)(C:Addr)(N:List Str)(s₀:aE)(H₀:Hp)(ex:List Addr):Cx:=
 {X with N:=N,s₀:=s₀,H₀:=H₀,env:=compEnvC scope (tK scope C++qx X.env scope.names []) C X.env,outer:=X.stack,stack:=X.stack,ex:=ex,fn:=λy=>scope.names.lookup y==ξ .cell,pn:=[],xe:=λ_ _=>False}
structure By(X:Cx)(scope:kO)(x:List Str):Prop where
 kind:scope.kind=.function
 nc:∀y∈scope.names,y.2=.cell->scope.names.lookup y.1=ξ .cell
 lo:∀y∈scope.names,y.2=.local->scope.names.lookup y.1=ξ .local
 fr:∀y∈scope.names,y.2=.free->X.env.scope.names.lookup y.1=ξ .cell
 nm:∀y∈x,scope.names.lookup y=ξ .local\/scope.names.lookup y=ξ .cell
 nd:x.Nodup
 lk:∀y,scope.names.lookup y=ξ .free->(y,bV)∈scope.names
def iu{env : Env} : ∀(names : List (Str×NameKind))(x : Str)(k : NameKind),
    (names.map λ(n, k) => if (k==bV&&env.scope.kind==.function&&env.kindOf n==ξ .cell) then (n, gy) else (n, k)).lookup x=ξ k -> names.lookup x=ξ k \/ (k=.cell /\ names.lookup x=ξ .free)
  |[], _, _, h => by cases h
  | (n, k0)::r, x, k, h => by
    rw [aw] at h;dsimp only at h;by_cases hc : (k0==bV&&env.scope.kind==.function&&env.kindOf n==ξ .cell)=ζ
    · rw [if_pos hc] at h
      dsimp[ak, beq_iff_eq] at hc;by_cases e : (x==n)=ζ
      · rw [aN, e] at h
        cases h;rwa[.inr #[rfl, ?_]];rw [aN, e, hc.1.1]
      · have e' : (x==n)=ϑ := by simpa using e
        rw [aN, e'] at h;rw [aN, e'];erw[iu r x k h]
    · rw [if_neg hc] at h
      by_cases e : (x==n)=ζ
      · rw [aN, e] at h
        cases h;rwa[.inl ?_];rw [aN, e]
      · have e' : (x==n)=ϑ := by simpa using e
        rw [aN, e'] at h;rw [aN, e'];erw[iu r x k h]
section
variable{X:Cx}{pZ:List (Addr×Obj)}{σ:St}{H:Hp}{s:aE}{scope:kO}{x:List Str}
def By.cells(B:By X scope x)(ok:X.Ok):∀n,(n,bV)∈scope.names->∃c,X.env.cells.lookup n=ξ c:=λn hn=>ok.has n (.inl (B.fr _ hn rfl))
def By.cl(B:By X scope x)(ok:X.Ok)(h:(qx X.env scope.names []).lookup y=ξ c):X.env.cells.lookup y=ξ c/\X.env.scope.names.lookup y=ξ .cell:=by
 rcases uv _ _ _ _ h with⟨e,m⟩|q
 .let#[c',hc']:=B.cells ok y m
  rw[hc'] at e;rw[e]
  exact#[hc',B.fr _ m rfl]
 .cases q
def qS(B:By X scope x)(h:(tK scope C++qx X.env scope.names []).lookup y=ξ c):
  ((y,c)∈tK scope C/\scope.names.lookup y=ξ .cell)\/((tK scope C).lookup y=ψ/\(qx X.env scope.names []).lookup y=ξ c):=by
 rw[HI] at h;cases q:(tK scope C).lookup y with
 |some d=>rw[q] at h;cases h;have m:=dk q;erw[.inl #[m,B.nc _ (zA _ _ _ _ m) rfl]]
 |none=>rw[q] at h;erw[.inr #[rfl,h]]
def Bz(B:By X scope x)(hf:scope.names.lookup y=ξ .free)(h:(qx X.env scope.names []).lookup y=ξ c):(tK scope C++qx X.env scope.names []).lookup y=ξ c:=by
 rw[HI]
 cases q:(tK scope C).lookup y with
 |some d=>have z:=B.nc _ (zA _ _ _ _ (dk q)) rfl;rw[hf] at z;cases z
 |none=>erw[h]
def BA{α:Type}{l:List (Str×α)}(h:l.Pairwise λx y=>x.2≠y.2):∀{a b:Str×α},a∈l->b∈l->a.2=b.2->a=b:=by
 induction h with
 |nil=>intro a b h;erw[nomatch h]
 |cons q _ ih=>
  intro a b ha hb e;rcases aR.mp ha with ea|ha'<;>rcases aR.mp hb with eb|hb'
  .rw[ea,eb]
  .subst ea;erw[absurd e (q _ hb')]
  .subst eb;erw[absurd e.symm (q _ ha')]
  .erw[ih ha' hb' e]
def Inv.block{C:Addr}{h':Heap}{t':Nat}{ex:List Addr}{N:List Str}{τ:St}(I:Inv X pZ σ H s)(B:By X scope x)(hC:C=s.heap.objs.size)(hns:h'.Ns C λ_=>ψ)(oc:CellsOk h' (C+1) (tK scope C))
  (kp:∀b o,s.heap.get? b=ξ o->h'.get? b=ξ o) (hex:∀b∈ex,uO X pZ H b/\b<s.heap.objs.size) (hl:τ.length=N.length)
  (hτ:∀(i:Nat)(y:Str)(v:V),N[i]?=ξ y->τ[i]?=ξ (ξ v)->scope.names.lookup y=ξ .free/\∃j:Nat,X.N[j]?=ξ y/\σ[j]?=ξ (ξ v)):
  Inv (X.vL scope C N s H ex) [] τ H {s with heap:=h',toks:=t'}:=by
 have ok:=I.ok;have cleq:∀y c,(X.vL scope C N s H ex).env.cells.lookup y=ξ c->((y,c)∈tK scope C/\h'.IsCell c ψ/\C<c)\/(X.env.cells.lookup y=ξ c/\X.env.scope.names.lookup y=ξ .cell):=λy c e=>by
  rcases qS B e with q|q
  .erw[.inl #[q.1,oc.empty y c q.1]]
  .erw[.inr (B.cl ok q.2)]
 have old:∀y c,X.env.cells.lookup y=ξ c->c<C:=λy c e=>by
  let#[v,q]:=I.cell y c e;rw[hC];erw[q.lt]
 have hfr:H C=ψ:=%[hC|I.dQ.fresh (ao _)]
 refine#[#[ok.mod,B.kind,ok.glob,ok.blt,CV hC.symm,λy z c h1 h2=>?_,λy hy=>?_,λy c z e=>?_,ok.hd,ok.frames,.inl rfl,λb hb=>?_,λb o e=>I.bs b o e,aI ok.Mm I.sz,λb o e hb=>?_,λb hb=>?_,I.stack,I.EC],
  rfl,I.bare,Un.kept kp,#[_,hns,λi y v e1 e2 e3=>?_],λy c e=>?_,hfr,λy c e=>?_,λp hp=>absurd (show p∈([]:List (Addr×Obj)) from hp) (#v[]),I.dQ.kept kp,hl]
 .rcases cleq y c h1 with⟨m1,_,l1⟩|q1<;>rcases cleq z c h2 with⟨m2,_,l2⟩|q2
  .erw[congrArg Ez (BA oc.apart m1 m2 rfl)]
  .erw[absurd (old z c q2.1) (mM.mpr (bZ l1))]
  .erw[absurd (old y c q1.1) (mM.mpr (bZ l2))]
  .erw[ok.inj y z c q1.1 q2.1]
 .have own:(y,gy)∈scope.names->∃c,(X.vL scope C N s H ex).env.cells.lookup y=ξ c:=λm=>by
   let#[c,q]:=zB _ (C+1) _ m;erw[mO (bz _ q)]
  have Yt:scope.names.lookup y=ξ .free->∃c,(X.vL scope C N s H ex).env.cells.lookup y=ξ c:=λm=>by
   let#[c,q]:=vK (env:=X.env) scope.names [] y (B.lk y m);exact#[c,Bz B m q]
  rcases hy with h|h
  .rcases iu (env:=X.env) scope.names y .cell h with q|q
   .erw[own (dk q)]
   .erw[Yt q.2]
  .rcases iu (env:=X.env) scope.names y .free h with q|q
   .erw[Yt q]
   .erw[absurd q.1 ⋯]
 .rcases cleq y c e with q|q
  .show s.heap.objs.size<=c
   rw[<-hC];erw[bZ q.2.2]
  .have z:scope.names.lookup y=ξ .cell:=beq_iff_eq.mp z
   rcases qS B e with w|w
   .erw[absurd (old y c q.1) (mM.mpr (bZ (oc.empty y c w.1).2))]
   .let#[d,m]:=zB _ (C+1) _ (dk z)
    let#[d',m']:=mO m;rw[show(tK scope C).lookup y=ξ d' from m'] at w;cases w.1
 .refine#[λz=>?_,λy c e z=>?_]
  .have:=(hex b hb).2
   rw[z,show(X.vL scope C N s H ex).env.locals=C from rfl,hC] at this;erw[absurd this (cC _)]
  .rcases cleq y c e with q|q
   .have:=(hex b hb).2
    rw[<-z,<-hC] at this;erw[absurd this (mM.mpr (bZ q.2.2))]
   .exact(hex b hb).1.2.2.2.2.1 y c q.1 z
 .let#[f0,f1,f2,f3,f4,f5]:=(hex b hb).1
  rcases f3 with z|z
  .erw[ok.Ip b o e z]
  .erw[absurd (aD (aV (ok.bs b o e).1) z) (cC _)]
 .let#[f0,f1,f2,_]:=(hex b hb).1
  intro z;rcases aR.mp (I.zm b z) with q|q
  .erw[f1 q]
  .erw[f2 q]
 .let#[hf,j,hj,hv]:=hτ i y v e1 e2
  let#[m,_,hlk]:=I.loc;have hcell:=B.fr _ (B.lk y hf) rfl;let#[u,r,l]:=hlk j y v hj hv (.inr (.inl hcell));refine#[u,r,.inr #[?_,?_]]
  .show(Ia scope X.env).names.lookup y=ξ .cell\/(Ia scope X.env).names.lookup y=ξ .free
   have:=e3;rcases this with q|q|q
   .rcases iu (env:=X.env) scope.names y .local q with z|z
    .rw[hf] at z;cases z
    .erw[absurd z.1 ⋯]
   .erw[.inl q]
   .erw[.inr q]
  .rcases l with⟨k,_⟩|⟨_,c,hc,z⟩
   .have k':X.env.scope.names.lookup y=ξ .local:=k
    rw[hcell] at k';cases k'
   .let#[c',hc']:=vK (env:=X.env) scope.names [] y (B.lk y hf)
    have hc2:=(B.cl ok hc').1;rw[hc] at hc2;cases hc2;let#[o,ho,hd]:=z;exact#[c,Bz B hf hc',#[o,kp _ _ ho,hd]]
 .rcases cleq y c e with q|q
  .exact#[ψ,q.2.1]
  .let#[v,o,ho,hd]:=I.cell y c q.1
   exact#[v,o,kp _ _ ho,hd]
 .rcases cleq y c e with q|q
  .erw[I.dQ.fresh (by rw[<-hC];exact bZ q.2.2)]
  .erw[I.qC y c q.1]
def Inv.M4(I:Inv X pZ σ H s)(J:Inv (X.vL scope C N s H ex) [] τ H' s')(hex:∀b∈ex,uO X pZ H b):Inv X pZ σ H' s':=
 I.UW (ch:=ex) J.os J.base J.dQ J.bare λb hb=>#[(hex b hb).2.2.2.1,(hex b hb).2.1,(hex b hb).2.2.2.2.1,(hex b hb).2.2.2.2.2]
end
abbrev M5(X:Cx)(ifs:List Expr)(t:TT):Prop:=
 ∀(pZ:List (Addr×Obj))(s:aE)(σ:St)(H:Hp)(Q:Bool->Hp->Prop),Inv X pZ σ H s->t σ H Q ->
  wpAny (bf X.prog X.w) X.A (forIn ifs ζ λc r=>if r=ζ then do let ok <-isTrue c X.env (eval c X.env);pure (eT ok) else pure (eT r)) (TP X pZ σ Q) X.xe s
abbrev VH:TT:=λ_ H Q=>Q ζ H
def M6:M5 X [] VH:=λ_ _ _ H _ I q=>wpAny_tests_nil #[H,I,q]
def M7(h:PT X c t):M5 X [c] t:=λpZ s σ H Q I q=>wpAny_tests_one (h pZ s σ H Q I q)
abbrev iy(σ:St)(ci:List Nat):St:=ci.map λj=>(σ[j]?).join
abbrev VI(K:Frag)(pr:Bool)(y:V)(H:Hp)(k:St->Prop):Prop:=match pr with
 |false=>k [ξ y]
 |true=>∃p a b,y=.ref p/\lD K H p [a,b]/\k [ξ a,ξ b]
@[reducible]def Pc(bd:V->Hp->(St->Prop)->Prop)(J:It)(D:Addr)(tc:TT)(te:TE)(caps:St)(R:Hp->Prop)(H1:Hp):Prop:=
 ∃W:Nat->Nat->List V->Hp->Prop,(∃m,W 0 m [] (upd H1 D (.lst [])))/\∀i m acc H2,W i m acc H2->H2 D=ξ (.lst acc)/\acc.length<sizeLine /\
  ((J.stop i H2/\R H2)\/(J.go i H2/\∀y H3,J.Vc i H2 y H3->bd y H3 λτ=>tc (τ++caps) H3 λb H4=>
   if b=ζ then te (τ++caps) H4 λz H5=>H5 D=ξ (.lst acc)/\∃m',m'<m/\W (i+1) m' (acc++[z]) (upd H5 D (.lst (acc++[z]))) else ∃m',m'<m/\W (i+1) m' acc H4))
abbrev Ja(bd:V->Hp->(St->Prop)->Prop)(wi:TI)(ci:List Nat)(tc:TT)(te:TE):TE:=λσ H Q=>wi σ H λJ H1=>∀D,H1 D=ψ->Pc bd J D tc te (iy σ ci) (λH2=>Q (.ref D) H2) H1
structure zC(X:Cx)(scope:kO)(cn:List Str)(ci:List Nat):Prop where
 len:ci.length=cn.length
 at_:∀(k:Nat)(y:Str),cn[k]?=ξ y->∃j:Nat,ci[k]?=ξ j/\X.N[j]?=ξ y
 fr:∀y∈cn,scope.names.lookup y=ξ .free
section
variable{X:Cx}{pZ:List (Addr×Obj)}{σ:St}{H:Hp}{s:aE}{scope:kO}{x:List Str}
def M8{M:Model}{A:eD}{E:Value->aE->Prop}{s:aE}{scope:kO}{globals:Addr}{cl:List (Str×Addr)}{qual:Str}{env:Env}{Q:Env->aE->Prop}
  (hQ:Q (newEnv scope s.heap.objs.size globals (tK scope s.heap.objs.size++cl) qual ψ .none (ξ env) CU) {s with heap:=pushCells (s.heap.push {cls:=.type "dict",data:=.dict #[]}) scope.names}):
  wpAny M A (CY scope globals cl [] qual ψ .none (ξ env)) Q E s:=by
 dsimp[CY,rm,if_true];refine af (wpAny_alloc ?_);refine af (wpAny_layCells _ (λname kind cells=>by cases hkc:kind==gy<;>simp[hkc]) _ _ _ _ ?_);rw[show({s with heap:=s.heap.push {cls:=.type "dict",data:=.dict #[]} }:aE).heap.objs.size=s.heap.objs.size+1 from iM ..,qR]
 erw[af (aB (aB hQ))]
def tL{cn:List Str}{X:Cx}{scope:kO}{ci:List Nat}(cp:zC X scope cn ci)(B:By X scope x)(hn:cn.Nodup):(x++cn).Nodup:=
 d7.mpr #[B.nd,hn,λy hy z hz e=>(by
  subst e;have q:=cp.fr y hz;rcases B.nm y hy with z|z<;>(rw[z] at q;cases q))]
abbrev Ux(X:Cx)(tg:Expr)(scope:kO)(x cn:List Str)(bd:V->Hp->(St->Prop)->Prop):Prop:=
 ∀(C:Addr)(s₀:aE)(H₀:Hp)(ex:List Addr)(pZ:List (Addr×Obj))(s:aE)(τ caps:St)(H:Hp)(v:V)(u:Value)(k:St->Prop),Inv (X.vL scope C (x++cn) s₀ H₀ ex) pZ (τ++caps) H s->τ.length=x.length->RelV v u->bd v H k ->
  wpAny (bf X.prog X.w) X.A (yU tg (X.vL scope C (x++cn) s₀ H₀ ex).env u) (λ_ s'=>∃τ',τ'.length=x.length/\Inv (X.vL scope C (x++cn) s₀ H₀ ex) pZ (τ'++caps) H s'/\k τ') (λ_ _=>False) s
def nW{env : Env}{k : NameKind}(hk : k≠.free) : ∀{names : List (Str×NameKind)}{x : Str}, names.lookup x=ξ k ->
    (names.map λ(n, k) => if (k==bV&&env.scope.kind==.function&&env.kindOf n==ξ .cell) then (n, gy) else (n, k)).lookup x=ξ k
  | (n, k')::r, x, h => by
    rw [aw];dsimp only;rw [aN] at h;cases e : x==n with
    |true =>
      rw [e] at h; cases h;rw [if_neg (by simp [hk]), aN, e]
    |false =>
      rw [e] at h;split <;> (rw [aN, e]; exact nW hk h)
def By.loc(B:By X scope x){C:Addr}{N:List Str}{s₀:aE}{H₀:Hp}{ex:List Addr}{y:Str}(hy:y∈x):
  Loc (X.vL scope C N s₀ H₀ ex).env.scope y/\((X.vL scope C N s₀ H₀ ex).fn y=ζ\/(X.vL scope C N s₀ H₀ ex).env.scope.names.lookup y=ξ .local):=by
 rcases B.nm y hy with z|z
 .have q:=nW (env:=X.env) (k:=.local) (by intro e;cases e) z
  exact#[.inl q,.inr q]
 .exact#[.inr (nW (env:=X.env) (k:=.cell) (by intro e;cases e) z),.inl (beq_iff_eq.mpr z)]
def Zx{α:Type}{l:List α}(h:l.length=2):∃a b,l=[a,b]:=by
 cases l with
 |nil=>cases h
 |cons a t=>let#[b,e]:=jY.mp (nI h);exact#[a,b,by rw[e]]
def Jb(B:By X scope [y])(cp:zC X scope cn ci)(hnd:cn.Nodup):Ux X (.Name y py) scope [y] cn (VI X.K ϑ):=by
 intro C s₀ H₀ ex pZ s τ caps H v u k I hl r h;have hx:=B.loc (C:=C) (N:=[y]++cn) (s₀:=s₀) (H₀:=H₀) (ex:=ex) (y:=y) (#v[]);let#[o,rfl]:=jY.mp hl;erw[xi (rM I (tL cp B hnd) (i:=0) rfl hx.1 r (λs8 J8=>#[[ξ v],rfl,J8,h]) hx.2)]
def Jc{y z:Str}{py pz pt:Pos}{n:Nat}{cn:List Str}{ci:List Nat}(B:By X scope [y,z])(cp:zC X scope cn ci)(hnd:cn.Nodup)(hc:X.calm=ζ):Ux X (.Tuple [.Name y py,.Name z pz] n pt) scope [y,z] cn (VI X.K ζ):=by
 intro C s₀ H₀ ex pZ s τ caps H v u k I hl r h;have hy:=B.loc (C:=C) (N:=[y,z]++cn) (s₀:=s₀) (H₀:=H₀) (ex:=ex) (y:=y) (#v[]);have hz:=B.loc (C:=C) (N:=[y,z]++cn) (s₀:=s₀) (H₀:=H₀) (ex:=ex) (y:=z) (#v[]);have nd:=tL cp B hnd;let#[p,a,b,e,hq,q]:=h;let#[o,o',rfl]:=Zx hl;rwa[fB (Iu (X:=X.vL scope C ([y,z]++cn) s₀ H₀ ex) (pos:=pt) (k:=n) hc (rP (rO (i:=0) (pos:=py) nd rfl hy.1 hy.2) (rP (rO (i:=1) (pos:=pz) nd rfl hz.1 hz.2) EE)) rfl rfl pZ s _ H v u (λσ' H'=>H'=H/\σ'=[ξ a,ξ b]++caps) I r ?_) (λ_ s' #[σ',H',I',e1,e2]=>?_) λ_ _ z=>z]
 .exact#[p,[a,b],e,hq,rfl,a,[b],rfl,b,[],rfl,rfl,rfl,rfl]
 .subst e1 e2
  exact#[[ξ a,ξ b],rfl,I',q]
def BC{elt iter tg:Expr}{bd:V->Hp->(St->Prop)->Prop}{pos:Pos}{ifs:List Expr}{it:Addr}{fp:List Addr}{tn:Nat->Heap->Prop}{J:It}{tc:TT}{te:TE}{cn:List Str}{ci:List Nat}{RR:Value->Addr->Result->aE->Prop}{Rq:Addr->Hp->Prop}{E:Value->aE->Prop}
  (I:Inv X pZ σ H s) (B:By X scope x) (cp:zC X scope cn ci) (hnd:cn.Nodup) (hcalm:X.calm=ζ) (ht:Ux X tg scope x cn bd) (T:Turn X.prog X.w X.K tg J fp it tn) (t0:tn 0 s.heap) (hf:∀b∈fp,uO X pZ H b)
  (hc:∀C s₀ H₀ ex,M5 (X.vL scope C (x++cn) s₀ H₀ ex) ifs tc) (he:∀C s₀ H₀ ex,PE (X.vL scope C (x++cn) s₀ H₀ ex) elt te)
  (h:∀D,H D=ψ->Pc bd J D tc te (iy σ ci) (Rq D) H)
  (fin:∀C D H5 s5,Inv X pZ σ H5 s5->Rq D H5->(∃m,s5.heap.Ns C m)->Fre X pZ H5 C->RR (.ref D) C (.ok .next) s5):
  wpAny (bf X.prog X.w) X.A (newList []) (λacc s₃=>wpAny (bf X.prog X.w) X.A (CY scope X.env.globals (qx X.env scope.names []) [] X.env.qual ψ .none (ξ X.env)) (λcenv s₄=>
   qN (bf X.prog X.w) X.A (.compStart (.ListComp elt [#[tg,iter,ifs,0]] scope pos) 0 (.ref it) acc {cenv with scope:=Ia scope X.env}) (RR acc cenv.locals) s₄) E s₃) E s:=by
 have ok:=I.ok;let#[W,#[m0,w0],turn]:=h s.heap.objs.size (I.dQ.fresh (ao _));generalize hD:s.heap.objs.size=D at turn w0;refine dN ?_;have I2:Inv X pZ σ (upd H D (.lst [])) {s with heap:=s.heap.push {cls:=.type "list",dict:=ψ,data:=.seq ([]:List Value).toArray} }:=by
  have:=I.Vz (its:=[]) (ys:=[]) (t':=s.toks) .nil (bI _);rw[hD] at this;erw[this]
 generalize hH2:s.heap.push {cls:=.type "list",dict:=ψ,data:=.seq ([]:List Value).toArray}= h2 at I2 ⊢;have k2:∀b o,s.heap.get? b=ξ o->h2.get? b=ξ o:=λb o e=>by rw[<-hH2];erw[aL _ e]
 have sz2:h2.objs.size=s.heap.objs.size+1:=by rw[<-hH2,iM]
 have fpl:∀b∈fp,b<s.heap.objs.size:=λb hb=>by
  let#[o,e,_]:=T.obj _ _ t0 b hb;erw[aV e]
 have nD:∀b∈fp,b≠D:=λb hb=>by rw[<-hD];erw[bb (fpl b hb)]
 have hf2:∀b∈fp,uO X pZ (upd H D (.lst [])) b:=λb hb=>#[by rw[cw (nD b hb)];exact(hf b hb).1,(hf b hb).2]
 have t2:tn 0 h2:=T.keep _ _ _ t0 λb _ o e=>k2 b o e
 show wpAny _ _ _ _ _ {s with heap:=h2}
 rwa[M8 ?_];generalize hH3:pushCells (h2.push {cls:=.type "dict",data:=.dict #[]}) scope.names=h3;have kp3:∀b o,h2.get? b=ξ o->h3.get? b=ξ o:=λb o e=>by rw[<-hH3];erw[pushCells_keeps _ _ b o (aL _ e)]
 have ns3:h3.Ns h2.objs.size λ_=>ψ:=by rw[<-hH3];exact(Heap.Ns.new h2 (.type "dict")).keeps (pushCells_keeps _ _)
 have oc3:CellsOk h3 (h2.objs.size+1) (tK scope h2.objs.size):=by
  have:=cellsFrom_ok scope.names (h2.push {cls:=.type "dict",data:=.dict #[]}) (h2.objs.size+1) [] #[λ_ _ hm=>(nomatch hm),xN] (%[iM|ao _]);rw[iM,hH3] at this;erw[this]
 have hl:((x.map λ_=>ψ)++iy σ ci:St).length=(x++cn).length:=by
  rw[aq,aq,ae,iy,ae,cp.len]
 have J3:Inv (X.vL scope h2.objs.size (x++cn) {s with heap:=h2} (upd H D (.lst [])) fp) [] ((x.map λ_=>ψ)++iy σ ci) (upd H D (.lst [])) {s with heap:=h3,toks:=s.toks+0}:=
  I2.block (s:={s with heap:=h2}) (h':=h3) (t':=s.toks+0) (N:=x++cn) B rfl ns3 oc3 kp3 (λb hb=>#[hf2 b hb,by rw[sz2];exact ba (fpl b hb)]) hl (λi y v e1 e2=>by
   by_cases lt:i<x.length
   .rw[ah (~~~lt),ar,aa lt] at e2
    cases e2
   .have e1':cn[i-x.length]?=ξ y:=by rw[aA ∅] at e1;erw[e1]
    have e2':(iy σ ci)[i-x.length]?=ξ (ξ v):=by rw[aA (~~~lt),ae] at e2;erw[e2]
    refine#[cp.fr y (ag e1'),?_];let#[j,hj,hy]:=cp.at_ _ y e1';refine#[j,hy,?_];rw[iy,ar,hj] at e2';have e3:(σ[j]?).join=ξ v:=aG e2';cases q:σ[j]? with
    |none=>rw[q] at e3;cases e3
    |some w=>rw[q] at e3;erw[congrArg ξ e3])
 generalize hY:X.vL scope h2.objs.size (x++cn) {s with heap:=h2} (upd H D (.lst [])) fp=Y at J3;have ePr:Y.prog=X.prog:=by rw[<-hY];rfl
 have eW:Y.w=X.w:=by rw[<-hY];rfl
 have eK:Y.K=X.K:=by rw[<-hY];rfl
 have eC:Y.calm=ζ:=by rw[<-hY];erw[hcalm]
 have eA:Y.A=X.A:=by rw[<-hY];rfl
 have eE:Y.env=compEnvC scope (tK scope h2.objs.size++qx X.env scope.names []) h2.objs.size X.env:=by rw[<-hY];rfl
 have hPc:M5 Y ifs tc:=by rw[<-hY];erw[hc _ _ _ _]
 have hPe:PE Y elt te:=by rw[<-hY];erw[he _ _ _ _]
 have eN:Y.N=x++cn:=by rw[<-hY];rfl
 have eX:Y.xe=λ_ _=>False:=by rw[<-hY];rfl
 have TY:Turn Y.prog Y.w Y.K tg J fp it tn:=%[ePr,eW,eK|T]
 have fpY:∀{H':Hp},(∀b∈fp,H' b=ψ)->∀b∈fp,uO Y [] H' b:=λhn b hb=>by
  let#[f0,f1,f2,f3,f4,f5]:=hf2 b hb;have lt2:b<h2.objs.size:=%[sz2|ba (fpl b hb)]
  refine#[hn b hb,λz=>?_,λz=>?_,.inl (by rw[<-hY];erw[hb]),λy c e=>?_,λp hp=>?_]
  .have z':b=h2.objs.size:=by rw[eE] at z;erw[z]
   erw[absurd lt2 (by rw[z'];exact cC _)]
  .have z':b∈HM X.stack:=by rw[<-hY] at z;erw[z]
   rcases aR.mp (I.zm b z') with q|q
   .erw[f1 q]
   .erw[f2 q]
  .rw[eE] at e
   rcases qS B e with q|q
   .intro z
    have:=(oc3.empty y c q.1).2;rw[z] at this;erw[absurd lt2 (mM.mpr (bZ this))]
   .erw[f4 y c (B.cl ok q.2).1]
  .have:p∈([]:List (Addr×Obj)):=by rw[<-hY] at hp;erw[hp]
   erw[absurd this (#v[])]
 have loop:∀s4:aE,s4={s with heap:=h3,toks:=s.toks+0}->qN (bf X.prog X.w) X.A (.compLoop (.ListComp elt [#[tg,iter,ifs,0]] scope pos) 0 (.ref it) (.ref D) Y.env) (RR (.ref D) h2.objs.size) s4:=by
  rintro s4 rfl;rwa[codeAny_loop rfl (λn s'=>∃i acc τ H',τ.length=x.length/\Inv Y [] (τ++iy σ ci) H' s'/\tn i s'.heap/\(∀b∈fp,H' b=ψ)/\W i n acc H') ?_ m0 #[0,[],x.map λ_=>ψ,_,#v[],J3,T.keep _ _ _ t2 λb _ o e=>kp3 b o e,λb hb=>(hf2 b hb).1,w0]];rintro n s5 ⟨i,acc,τ,H5,hτ,J5,t5,f5,w5⟩;let#[hD5,hz5,alt]:=turn i n acc H5 w5;show wpAny _ X.A ((compTurn (.ListComp elt [#[tg,iter,ifs,0]] scope pos) 0 (.ref it) (.ref D) Y.env).onRaise (λx=>do noteFrame x Y.env;theTreesLotGoes x)) _ _ s5;rwa[wpAny_noted ?_];rw[compTurn_list,<-eA]
  rcases alt with⟨stop,q5⟩|⟨go,step⟩
  .rwa[af (FX (af ?_))]
   rw[<-ePr,<-eW]
   rwa[eY (TY.done Y rfl rfl rfl eC i [] s5 _ H5 _ J5 (fpY f5) t5 stop) λr s6 h9=>?_]
   let#[hr,J6]:=h9;subst hr;rwa[aB ?_];have J6':Inv (X.vL scope h2.objs.size (x++cn) {s with heap:=h2} (upd H D (.lst [])) fp) [] (τ++iy σ ci) H5 s6:=%[hY|J6]
   have I6:=I2.M4 J6' hf2;let#[m6,ns6,_]:=J6'.loc;have fC:=I2.Yt (b:=h2.objs.size) (ao _);erw[fin h2.objs.size D H5 s6 I6 q5 #[m6,ns6] #[J6'.free,fC.2]]
  .rwa[af (FX (af ?_))]
   rw[<-ePr,<-eW]
   rwa[eY (TY.item Y rfl rfl rfl eC i [] s5 _ H5 _ J5 (fpY f5) t5 go) λr s6 h9=>?_]
   let#[u,hr,h6]:=h9;subst hr;rwa[af ?_];rw[eA,<-eA]
   rwa[eY h6 λ_ s7 h9=>?_]
   let#[y,H7,J7,r7,y7,t7,f7]:=h9;have J7':=J7.pinned (fpY f7) (T.obj _ _ t7);have noE:∀{α:Type}{t:Sem α}{Q:α->aE->Prop}{E:Value->aE->Prop}{s:aE},wpAny (bf Y.prog Y.w) Y.A t Q Y.xe s->wpAny (bf Y.prog Y.w) Y.A t Q E s:=λh=>fB h (λ_ _ z=>z) λ_ _ z=>by rw[eX] at z;erw[z.elim]
   have ht':wpAny (bf Y.prog Y.w) Y.A (yU tg Y.env u) (λ_ s8=>∃τ',τ'.length=x.length/\Inv Y ([]++tw fp s7.heap) (τ'++iy σ ci) H7 s8/\tc (τ'++iy σ ci) H7 λb H4=>
     if b=ζ then te (τ'++iy σ ci) H4 λz H5=>H5 D=ξ (.lst acc)/\∃m',m'<n/\W (i+1) m' (acc++[z]) (upd H5 D (.lst (acc++[z]))) else ∃m',m'<n/\W (i+1) m' acc H4) (λ_ _=>False) s7:=by
    have st:=step y H7 y7;subst hY;erw[ht _ _ _ _ _ s7 τ _ H7 y u _ J7' hτ r7 st]
   refine af (fB ht' (λ_ s8 h9=>?_) λ_ _ z=>z.elim);let#[τ',hτ',J8',q8]:=h9;refine af (noE (eY (hPc _ s8 _ H7 _ J8' q8) λb s9 h9=>?_));let#[H9,J9,q9]:=h9;have again:∀{acc':List V}{H':Hp}{s':aE},Inv Y ([]++tw fp s7.heap) (τ'++iy σ ci) H' s'->(∃m',m'<n/\W (i+1) m' acc' H')->∃m,m<n/\∃i acc τ H',τ.length=x.length/\Inv Y [] (τ++iy σ ci) H' s'/\tn i s'.heap/\(∀b∈fp,H' b=ψ)/\W i m acc H':=λ{acc' H' s'}J' ⟨m',lt,w'⟩=>by
    refine#[m',lt,i+1,acc',τ',H',hτ',J'.rQ,T.keep _ _ _ t7 λb hb o e=>(J'.pin (b,o) (bc _ (bc _ (nV hb e)))).1,λb hb=>?_,w'];let#[o,e,d]:=T.obj _ _ t7 b hb;exact(J'.pin (b,o) (bc _ (bc _ (nV hb e)))).2.1
   cases b with
   |false=>erw[aB #[rfl,again J9 q9]]
   |true=>
    rwa[af (af (noE (eY (hPe _ s9 _ H9 _ J9 q9) λv s10 h9=>?_)))];let#[z,H10,J10,r10,hD10,q10]:=h9;rwa[af (noE (eY (tG _ s10 _ H10 (.ref D) [z] (.ref D) [v] (λ_ H11=>H11=upd H10 D (.lst (acc++[z]))) J10 rfl (.cons r10 .nil) #[D,acc,z,rfl,rfl,hD10,hz5,rfl]) λv11 s11 h9=>?_))];let#[z11,H11,J11,_,e11]:=h9;subst e11;erw[aB (aB #[rfl,again J11 q10])]
 rw[eE] at loop;subst hD;erw[codeAny_compStart_list (loop _ rfl) (T.self _ 0 _ _ _ (T.keep _ _ _ t2 λb _ o e=>kp3 b o e) (loop _ rfl))]
def M9{elt iter tg:Expr}{bd:V->Hp->(St->Prop)->Prop}{pos:Pos}{ifs:List Expr}{wi:TI}{tc:TT}{te:TE}{cn:List Str}{ci:List Nat}(B:By X scope x)(cp:zC X scope cn ci)(hnd:cn.Nodup)(hcalm:X.calm=ζ)(ht:Ux X tg scope x cn bd)(hi:PI X tg iter wi)
  (hc:∀C s₀ H₀ ex,M5 (X.vL scope C (x++cn) s₀ H₀ ex) ifs tc) (he:∀C s₀ H₀ ex,PE (X.vL scope C (x++cn) s₀ H₀ ex) elt te) (hs:∀x,foldedSetIterable iter X.env x=pure x:=by intro _;rfl):
  PE X (.ListComp elt [#[tg,iter,ifs,0]] scope pos) (Ja bd wi ci tc te):=by
 w_up;rw[eval_ListComp]
 rwa[FY (use:=ψ) rfl hs (vJ (B.cells I.ok)) B.kind B.lo (eY (hi pZ s σ H _ I h) λv s1 h1=>eY h1 λitv s2 h2=>?_)];let#[it,fp,tn,J,H2,e,I2,T,t2,f2,q]:=h2;subst e;rwa[BC (RR:=λacc C=>compPost (bf X.prog X.w) X.A X.xe ψ (EP X pZ σ Q) acc C) (Rq:=λD H2=>Q (.ref D) H2) I2 B cp hnd hcalm ht T t2 f2 hc he q λC D H5 s5 I5 q5 hn fC=>?_]
 let#[m,hm]:=hn;refine#[m,hm,λh' sb=>#[.ref D,H5,?_,rfl,q5]];erw[I5.turned (it:=C) (t':=s5.toks) (λb o hb e=>(sb.2 b hb).trans e) fC.1 fC.2.2.1 (.inr fC.2.1) fC.2.2.2.1 fC.2.2.2.2]
def Dx{elt iter tg:Expr}{bd:V->Hp->(St->Prop)->Prop}{py pos spos:Pos}{ifs:List Expr}{wi:TI}{tc:TT}{te:TE}{cn:List Str}{ci:List Nat}{i:Nat}{y:Str}(B:By X scope x)(cp:zC X scope cn ci)(hnd:cn.Nodup)(hcalm:X.calm=ζ)(ht:Ux X tg scope x cn bd)(hi:PI X tg iter wi)
  (hc:∀C s₀ H₀ ex,M5 (X.vL scope C (x++cn) s₀ H₀ ex) ifs tc) (he:∀C s₀ H₀ ex,PE (X.vL scope C (x++cn) s₀ H₀ ex) elt te) (hN:X.N.Nodup) (hy:X.N[i]?=ξ y) (hk:X.env.scope.names.lookup y=ξ .local)
  (hsw:iK (.ListComp elt [#[tg,iter,ifs,0]] scope pos) (ξ (.Name y py)) spos.line X.env=pure ζ) (hs:∀x,foldedSetIterable iter X.env x=pure x:=by intro _;rfl):
  PS X (.Assign [.Name y py] (.ListComp elt [#[tg,iter,ifs,0]] scope pos) spos) (U9 (Ja bd wi ci tc te) (xW i)):=by
 intro pZ s σ H D I h;rw[exec_Assign_Name_used _ _ _ _ hsw]
 refine af (FX (af ?_));show wpAny _ X.A (do let _ <-comprehension (.ListComp elt [#[tg,iter,ifs,0]] scope pos) scope X.env _ (newList []) ϑ (eval iter X.env) (ξ (yU (.Name y py) X.env))) _ _ s;refine af (fB (FY (use:=ξ (yU (.Name y py) X.env)) (Q:=λ_ s'=>SP X pZ D .next s') rfl hs (vJ (B.cells I.ok)) B.kind B.lo (eY (hi pZ s σ H _ I h) λv s1 h1=>eY h1 λitv s2 h2=>?_))
  (λ_ s' hq=>aB (aB hq)) λ_ _ e=>e)
 let#[it,fp,tn,J,H2,e,I2,T,t2,f2,q]:=h2;subst e;rwa[BC (RR:=λacc C=>compPost (bf X.prog X.w) X.A X.xe (ξ (yU (.Name y py) X.env)) (λ_ s'=>SP X pZ D .next s') acc C) (Rq:=λD' H2=>(xW i) (.ref D') σ H2 D.nx) I2 B cp hnd hcalm ht T t2 f2 hc he q λC D' H5 s5 I5 q5 hn fC=>?_]
 let#[m,hm]:=hn;show wpAny _ X.A (yU (.Name y py) X.env (.ref D')) _ _ _;refine xi (xU (v:=.ref D') I5 hN hy (.inl hk) rfl (λs6 I6 sb6=>?_) (.inr hk));let#[a,sb,ha]:=sb6;have nC:C≠a:=by
  rcases ha with z|z
  .rw[z];erw[fC.2.2.1]
  .intro w;erw[fC.2.2.2.1 y a z w.symm]
 refine#[m,hm.sameBut sb nC,λh' sb'=>#[_,H5,?_,q5]];erw[I6.turned (it:=C) (t':=s6.toks) (λb o hb e=>(sb'.2 b hb).trans e) fC.1 fC.2.2.1 (.inr fC.2.1) fC.2.2.2.1 fC.2.2.2.2]
abbrev VJ(z:Str):It:=#[λi _=>i<z.cps.size,λi H x H'=>H'=H/\∃c,z.cps[i]?=ξ c/\x=.str #[(List.toArray [c])],λi _=>z.cps.size<=i]
def Jd{P:bQ}{w:cG}{K:Frag}{tg:Expr}(it:Addr)(z:Str)(t:Tok)(b:Bool):Turn P w K tg (VJ z) [it] it (λi h=>h.IsStrIter it (if b then "str_ascii_iterator" else "str_iterator") z t i) where
 mem:=by simp
 obj:=λi h st c hc=>by
  have e:c=it:=by simpa using hc
  subst e;let#[o,e,_,d]:=st;exact#[o,e,λv q=>by rw[d] at q;cases q]
 keep:=λi h h' st k=>by
  let#[o,e,c,d]:=st;exact#[o,k it (#v[]) o e,c,d]
 item:=by
  k_go;subst hP hw hK;let#[f0,f1,f2,f3,f4,f5]:=hf it (#v[]);have hx:z.cps[i]?=ξ (z.cps[i]'hg):=fh hg;have done:∀h',h'.IsStrIter it (if b then "str_ascii_iterator" else "str_iterator") z t (i+1)->gD it s.heap h' ->
    ∃u,(ξ (lT #[(List.toArray [z.cps[i]'hg])] s.toks):Option Value)=ξ u/\wpAny (bf X.prog X.w) X.A (rj tg (.ref it) u) (λ_ s2=>∃x H',Inv X pZ σ H' s2/\RelV x u/\(VJ z).Vc i H x H'/\s2.heap.IsStrIter it (if b then "str_ascii_iterator" else "str_iterator") z t (i+1)/\∀b∈[it],H' b=ψ) E {s with heap:=h',toks:=s.toks+1}:=λh' st' sb=>by
   have I1:Inv X pZ σ H {s with heap:=h',toks:=s.toks+1}:=I.turned (t':=s.toks+1) (λb o hb e=>(sb.2 b hb).trans e) f0 f1 f3 f4 f5;let#[o,e,c,d]:=id st';exact#[_,rfl,Bn (s:={s with heap:=h',toks:=s.toks+1}) e c d (by cases b<;>decide) #[.str #[(List.toArray [z.cps[i]'hg])],H,I1,#[_,rfl],#[rfl,_,hx,rfl],st',λb hb=>(hf b hb).1]]
  cases b with
  |true=>erw[wpAny_pyNext_ascii_item st hx λh' st' sb=>done h' st' sb]
  |false=>erw[wpAny_pyNext_wide_item st hx λh' st' sb=>done h' st' sb]
 done:=by
  k_go;subst hP hw hK;let#[f0,f1,f2,f3,f4,f5]:=hf it (#v[]);have hx:z.cps[i]?=ψ:=A8 hg;cases b with
  |true=>erw[wpAny_pyNext_ascii_end (I.ok.hd hc) st hx λh' eb=>#[rfl,I.turned (t':=s.toks) (λb o hb e=>eb b o hb e) f0 f1 f3 f4 f5]]
  |false=>erw[wpAny_pyNext_wide_end (I.ok.hd hc) st hx λh' eb=>#[rfl,I.turned (t':=s.toks) (λb o hb e=>eb b o hb e) f0 f1 f3 f4 f5]]
 self:=λA i s Q E st h=>by
  cases b with
  |true=>erw[wpAny_pyIter_striter_ascii st h]
  |false=>erw[wpAny_pyIter_striter_wide st h]
end
noncomputable abbrev tx(l:List Nat):Str:=#[l.toArray]
def VL(z:Str):z=tx z.cps.toList:=by
 let#[a]:=z;simp
def zD(a b:List Nat):tx a++tx b=tx (a++b):=by
 show Str.mk (a.toArray++b.toArray)=Str.mk (a++b).toArray
 simp
def dU(a:List Nat):(tx a).length=a.length:=by simp[Str.length]
def qT(h:tx a=tx b):a=b:=by
 have:=congrArg (λz:Str=>z.cps.toList) h;simpa using this
def Pd:(tx a=tx b)↔a=b:=#[qT,λh=>by rw[h]]
def EO:(V.str (tx a)=V.str (tx b))↔a=b:=#[λh=>qT (V.str.inj h),λh=>by rw[h]]
section
variable{X:Cx}
def GB:iq X (cV .Add) (λx y H Q=>∃a b,x=.str (tx a)/\y=.str (tx b)/\a.length+b.length<=sizeLine/\Q (.str (tx (a++b))) H):=by
 z_go;let#[a,b,rfl,rfl,hz,q]:=h;rwa[De pZ s σ H _ _ v u Q I rx ry #[tx a,tx b,rfl,rfl,%[dU,dU|hz],?_]];rw[zD]
 erw[q]
def Dy:iq X (iL .Add) (λx y H Q=>∃a b,x=.str (tx a)/\y=.str (tx b)/\a.length+b.length<=sizeLine/\Q (.str (tx (a++b))) H):=by
 z_go;let#[a,b,rfl,rfl,hz,q]:=h;rwa[Bo pZ s σ H _ _ v u Q I rx ry #[tx a,tx b,rfl,rfl,%[dU,dU|hz],?_]];rw[zD]
 erw[q]
def Na(h:c∈l):Txt.find (tx l) (tx [c])=((l.idxOf c:Nat):Int)/\(Builtin.Str.occurrences (tx l) (tx [c]) 0 (tx l).length 1).isEmpty=ϑ:=by
 have h2:(!(Builtin.Str.occurrences (tx l) #[(List.toArray [c])] 0 (tx l).length 1).isEmpty)=ζ:=by rw[StrLaws.found_one];simpa using h
 refine#[?_,~~~h2];have at_iff:∀i,StrLaws.At (tx l) (tx [c]) (tx l).length i↔l[i]?=ξ c:=λi=>by
  have:=StrLaws.subAt_one (tx l) c i;simpa[StrLaws.At] using this
 rcases find_whole (tx l) (tx [c]) with⟨_,no⟩|⟨i,e,hi,lo⟩
 .let#[j,hj,ej]:=rq h
  erw[absurd ((at_iff j).mpr (by rw[aa hj,ej])) (no j)]
 .rw[e]
  have hi':=(at_iff i).mp hi;let#[hlt,ei]:=ab.mp hi';have e1:l.idxOf c=i:=by
   have hk:=bj h;rcases nJ (l.idxOf c) i with q|q|q
   .erw[absurd ((at_iff _).mpr (by rw[aa hk,cF])) (lo _ q)]
   .erw[q]
   .have:=Cz (p:=(·==c)) (xs:=l) (i:=i) q
    simp[ei] at this
  rw[e1]
abbrev Q7:V->List V->Hp->VK->Prop:=λx xs H Q=>∃l c,x=.str (tx l)/\xs=[.str (tx [c])]/\c∈l/\Q (.int ((l.idxOf c:Nat):Int)) H
def BD(hA:X.A.handled=ψ):AX X "str.index" Q7:=by
 intro pZ s σ H x xs v us Q I rx rs h;let#[l,c,rfl,rfl,hc,q]:=h;let#[t,rfl]:=rx;let#[u,rfl,t',rfl]:=vals1 rs;let#[e,ne]:=Na hc;rwa[index_or hA (λz w=>?_) λ_ _=>#[.int _,H,I.tok _,#[_,rfl],%[e|q]]]
 rw[ne] at w;cases w
end
abbrev vM(sep:List Nat):List (List Nat)->List Nat
 |[]=>[]
 |[x]=>x
 |x::r=>x++sep++vM sep r
def Nb(sep:List Nat):∀ts:List (List Nat),Txt.join (tx sep) (ts.map tx)=tx (vM sep ts):=by
 intro ts;show Builtin.Str.glued (tx sep) (ts.map tx)=_;rw[StrLaws.glued_eq_join]
 induction ts with
 |nil=>rfl
 |cons a r ih=>
  cases r with
  |nil=>rfl
  |cons b r=>
   show tx a++tx sep++Str.join (tx sep) ((b::r).map tx)=tx (a++sep++vM sep (b::r))
   rw[ih,zD,zD]
def vN:∀{ts:List (List Nat)}{us:List Value},Vals (ts.map λt=>V.str (tx t)) us->StrsAre us (ts.map tx)
 |[],_,.nil=>.nil
 |a::ts,_,.cons (b:=u) r h=>by
  let#[t,e]:=(show ∃t,u=lT (tx a) t from r)
  subst e;erw[.cons _ _ (vN h)]
section
variable{X:Cx}
abbrev rJoin(K:Frag):V->List V->Hp->VK->Prop:=λx xs H Q=>∃sep ts p,x=.str (tx sep)/\xs=[.ref p]/\iS K H p (ts.map λt=>V.str (tx t))/\(ts.map cD).sum+ts.length*sep.length<=1000000/\Q (.str (tx (vM sep ts))) H
def ER:AX X "str.join" (rJoin X.K):=by
 intro pZ s σ H x xs v us Q I rx rs h;let#[sep,ts,p,rfl,rfl,hl,hz,q]:=h;let#[t,rfl]:=rx;let#[u,rfl,ru]:=vals1 rs;cases ru;let#[its,r,pl,_]:=I.list hl;refine join_list pl.isList (ys:=ts.map tx) (~~~(vN r)) ?_ λt' k=>#[.str (tx (vM sep ts)),H,I.tok k,#[t',by rw[Nb]],q]
 have e:((ts.map tx).map (·.length)).sum=(ts.map cD).sum:=by
  congr 1
  rw[bA]
  erw[rA λa _=>dU a]
 rw[e,ae,dU]
 omega
def vO:∀{l:List Nat},(∀k∈l,f k=g k)->l.filterMap f=l.filterMap g
 |[],_=>rfl
 |a::l,h=>by
  rw[cy,cy,h a aO,vO λk hk=>h k (az _ hk)]
def nh(l:List Nat):∀(n i:Nat),i+n<=l.length->(bO n).filterMap (λk=>l[i+k]?)=(l.drop i).take n
 |0,i,_=>by simp
 |n+1,i,h=>by
  rw[CB,cy,sW]
  have hi:i<l.length:=∅
  have e:l[i+0]?=ξ l[i]:=by simp[hi]
  rw[e,fw hi,FZ]
  have:=nh l n (i+1) ∅;rw[<-this]
  show l[i]::_=l[i]::_
  congr 1
  rwa[vO λk _=>?_]
  show l[i+(k+1)]?=l[i+1+k]?
  rw[show i+(k+1)=i+1+k by omega]
abbrev Dz(l:List Nat)(i j:Nat):List Nat:=(l.drop i).take (j-i)
def ES{b:Int}{n:Nat}(h:0<=b):max 0 (min b (n:Int))=((min b.toNat n:Nat):Int):=by
 let#[k,rfl]:=Int.eq_ofNat_of_zero_le h;rw[Int.max_eq_right (Int.le_min.mpr #[h,Int.ofNat_nonneg n])]
 rw[kb];omega
def Je(l:List Nat)(lo hi:Option Int)(i j:Nat)(hlo:lo=ψ/\i=0\/∃a:Int,lo=ξ a/\0<=a/\i=min a.toNat l.length)(hhi:hi=ψ/\j=l.length\/∃b:Int,hi=ξ b/\0<=b/\j=min b.toNat l.length):
  Txt.slice (tx l) lo hi=tx (Dz l i j):=by
 have hi':i<=l.length:=by rcases hlo with⟨_,e⟩|⟨a,_,_,e⟩<;>omega
 have hj':j<=l.length:=by rcases hhi with⟨_,e⟩|⟨b,_,_,e⟩<;>omega
 have key:Builtin.Str.strSliceIndices lo hi 1 l.length=(bO (j-i)).map λk=>i+k:=by
  have e0:Builtin.Str.strSliceIndices lo hi 1 l.length=sliceRange (i:Int) (j:Int) 1:=by
   unfold Builtin.Str.strSliceIndices;rcases hlo with⟨rfl,rfl⟩|⟨a,rfl,h0,rfl⟩<;>rcases hhi with⟨rfl,rfl⟩|⟨b,rfl,h1,rfl⟩
   .rfl
   .dsimp[ze.mpr h1,if_false,show(1:Int)>0 by decide,if_true,ES h1]
    rfl
   .dsimp[ze.mpr h0,if_false,show(1:Int)>0 by decide,if_true,ES h0]
   .dsimp[ze.mpr h0,ze.mpr h1,if_false,show(1:Int)>0 by decide,if_true,ES h0,ES h1]
  rw[e0]
  unfold sliceRange;dsimp[show(1:Int)>0 by decide,if_true,Int.ediv_one];have e3:(if (i:Int)<(j:Int) then(j:Int)-i+1-1 else 0).toNat=j-i:=by split<;>omega
  rw[e3]
  rwa[rA λk _=>?_]
  omega
 have len:(tx l).length=l.length:=dU l;unfold Txt.slice;rw[len,key]
 have e4:((bO (j-i)).map λk=>i+k).length=j-i:=by simp
 rw[e4]
 by_cases hw:j-i=l.length
 .rw[if_pos (by simp[hw])]
  have:Dz l i j=l:=by
   unfold Dz;have:i=0:=∅
   subst this;rw[hw,l9,bX]
  rw[this]
 .rw[if_neg (by simp[hw])]
  show tx _=tx _
  congr 1
  rw[sW]
  by_cases hij:i<=j
  .have:=nh l (j-i) i ∅
   unfold Dz;rw[<-this]
   rwa[vO λk _=>?_]
   simp
  .have:j-i=0:=∅
   unfold Dz;rw[this]
   simp
abbrev Zy:V->Option Int->Option Int->Hp->VK->Prop:=λx lo hi H Q=>∃l i j,x=.str (tx l)/\l.length<=sizeLine/\(lo=ψ/\i=0\/∃a:Int,lo=ξ a/\0<=a/\i=min a.toNat l.length)/\(hi=ψ/\j=l.length\/∃b:Int,hi=ξ b/\0<=b/\j=min b.toNat l.length)/\Q (.str (tx (Dz l i j))) H
def VM:Vv X Zy:=by
 intro pZ s σ H x v vl vu lo hi sl Q I rx hs pl pu h;let#[l,i,j,rfl,hz,h1,h2,q]:=h;let#[t,rfl]:=rx;refine#["str",_,F.slot_str_getitem.lookup,typeIs_str _ _ _,?_];have fin:∀(a b:Option (Int×Tok)),vl=partValue a->vu=partValue b->lo=a.map (·.1)->hi=b.map (·.1)->wpAny (bf X.prog X.w) X.A (oZ (.str (tx l) t) (.ref sl)) (EP X pZ σ Q) X.xe s:=λa b e1 e2 e3 e4=>by
  refine wpAny_getItem_str_slice (l:=a) (u:=b) (st:=ψ) (by rw[e1,e2] at hs;erw[hs]) rfl ?_;rwa[post_val_or_str #[aI (Txt.slice_le (tx l) _ _) (%[dU|hz]),λt' k=>#[.str (tx (Dz l i j)),H,I.tok k,#[t',?_],q]]];have:=Je l lo hi i j h1 h2;rw[e3,e4] at this;rw[<-this]
  rfl
 cases pl with
 |none=>
  cases pu with
  |none=>erw[fin ψ ψ rfl rfl rfl rfl]
  |int b u=>erw[fin ψ (ξ (b,u)) rfl rfl rfl rfl]
 |int a u=>
  cases pu with
  |none=>erw[fin (ξ (a,u)) ψ rfl rfl rfl rfl]
  |int b u2=>erw[fin (ξ (a,u)) (ξ (b,u2)) rfl rfl rfl rfl]
end
section
variable{X:Cx}{pZ:List (Addr×Obj)}{σ:St}{H:Hp}{s:aE}{a C d:Addr}{fs:List (Str×V)}{f:Str}{v:V}
structure Q8(K:Frag)(P:Params)(a:Addr)(kvs:List (Str×V)):Prop where
 ex:∃es n,K.lookup a=ξ #[.type "dict",ψ,.dict es n,#[]]/\CC P es.toList
 at_:∀k v,kvs.lookup k=ξ v->∃u,RelV v u/\nsIn K a k=ξ (ξ u)
 no:∀k,kvs.lookup k=ψ->nsIn K a k=ξ ψ
 ns:(a==cu)=ϑ
abbrev Zz(K:Frag)(P:Params):R2:=λx y H Q=>∃a kvs k v,x=.ref a/\y=.str k/\Q8 K P a kvs/\kvs.lookup k=ξ v/\Q v H
def zE:Uv X (Zz X.K X.w.params):=by
 intro value slice pZ s σ H x y v u Q I rx ry h hs;let#[a,kvs,k,z,rfl,rfl,T,e,q]:=h;cases rx;let#[t,rfl]:=ry;let#[es,n,lk,kl]:=T.ex;let#[w,rw',ew]:=T.at_ k z e;have hm:=mapOf_K (prog:=X.prog) (w:=X.w) I.zk lk kl;erw[tail_any hm.typeIs slot_dict_getitem.lookup (wpAny_getItem_of (strKind_is X.prog X.w k t) hm (find_K lk ew) #[z,H,I.tok _,rw',q]) hs]
end
inductive Dv where
 |b7|bl (b:Bool)|int (i:Int)|str (l:List Nat)|tup (ds:List Dv)|lst (ds:List Dv)
mutual
noncomputable def Dv.depth:Dv->Nat
 |.tup ds=>Dv.lI ds+1
 |.lst ds=>Dv.lI ds+1
 |_=>0
noncomputable def Dv.lI:List Dv->Nat
 |[]=>0
 |d::ds=>max d.depth (Dv.lI ds)
end
mutual
noncomputable def CM:Dv->Dv->Bool
 |.b7,.b7=>ζ
 |.bl a,.bl b=>a==b
 |.bl a,.int b=>(if a then 1 else 0)== b
 |.int a,.bl b=>a==(if b then 1 else 0)
 |.int a,.int b=>a==b
 |.str a,.str b=>a==b
 |.tup xs,.tup ys=>qy xs ys
 |.lst xs,.lst ys=>qy xs ys
 |_,_=>ϑ
noncomputable def qy:List Dv->List Dv->Bool
 |[],[]=>ζ
 |x::xs,y::ys=>CM x y&&qy xs ys
 |_,_=>ϑ
end
mutual
noncomputable def pA(K:Frag)(H:Hp):V->Dv->Prop
 |v,.b7=>v=.b7
 |v,.bl b=>v=.bl b
 |v,.int i=>v=.int i
 |v,.str l=>v=.str (tx l)
 |v,.tup ds=>∃a vs,v=.ref a/\lD K H a vs/\iZ K H vs ds
 |v,.lst ds=>∃a vs,v=.ref a/\iS K H a vs/\iZ K H vs ds
noncomputable def iZ(K:Frag)(H:Hp):List V->List Dv->Prop
 |[],[]=>True
 |v::vs,d::ds=>pA K H v d/\iZ K H vs ds
 |_,_=>False
end
def iZ.len{K:Frag}{H:Hp}:∀{vs:List V}{ds:List Dv},iZ K H vs ds->vs.length=ds.length
 |[],[],_=>rfl
 |_::vs,_::ds,h=>by
  unfold iZ at h;rw[aS,aS,iZ.len h.2]
 |[],_::_,h=>by unfold iZ at h;erw[h.elim]
 |_::_,[],h=>by unfold iZ at h;erw[h.elim]
def iZ.get{K:Frag}{H:Hp}:∀{vs:List V}{ds:List Dv}{i:Nat}{v:V}{d:Dv},iZ K H vs ds->vs[i]?=ξ v->ds[i]?=ξ d->pA K H v d
 |v::vs,d::ds,0,_,_,h,e1,e2=>by
  unfold iZ at h;simp at e1 e2;subst e1 e2;erw[h.1]
 |v::vs,d::ds,i+1,_,_,h,e1,e2=>by
  unfold iZ at h;exact iZ.get (i:=i) h.2 (~~~e1) (~~~e2)
 |[],_,_,_,_,_,e1,_=>by simp at e1
 |_,[],_,_,_,_,_,e2=>by simp at e2
mutual
theorem vP:∀d:Dv,CM d d=ζ
 |.b7=>rfl
 |.bl b=>beq_self_eq_true _
 |.int i=>beq_self_eq_true _
 |.str l=>beq_self_eq_true _
 |.tup ds=>tM ds
 |.lst ds=>tM ds
theorem tM:∀ds:List Dv,qy ds ds=ζ
 |[]=>by unfold qy;rfl
 |d::ds=>by unfold qy;rw[vP d,tM ds];rfl
end
def vQ:∀(xs ys:List Dv)(e:Nat->Bool),(∀i x y,xs[i]?=ξ x->ys[i]?=ξ y->e i=CM x y)->((bO (min xs.length ys.length)).all e&&xs.length==ys.length)=qy xs ys
 |[],[],e,_=>by unfold qy;simp
 |[],y::ys,e,_=>by unfold qy;simp
 |x::xs,[],e,_=>by unfold qy;simp
 |x::xs,y::ys,e,h=>by
  have ih:=vQ xs ys (λi=>e (i+1)) λi a b h1 h2=>h (i+1) a b (~~~h1) (~~~h2)
  unfold qy;rw[<-ih,<-h 0 x y rfl rfl]
  rw[aS,aS,Nat.succ_min_succ,CB,bS,CD]
  have:(xs.length+1==ys.length+1)=(xs.length==ys.length):=by simp
  rw[this,Bool.and_assoc]
  rfl
section
variable{X:Cx}{pZ:List (Addr×Obj)}{σ:St}{H:Hp}{s:aE}
mutual
theorem pA.inj(I:Inv X pZ σ H s):∀{d d':Dv}{v:V},pA X.K H v d->pA X.K H v d'->d=d'
 |.b7,d',v,h,h'=>by
  unfold pA at h;subst h;cases d'<;>unfold pA at h'<;>first|rfl| (cases h';done)| (obtain⟨_,_,z,_⟩:=h';cases z)
 |.bl b,d',v,h,h'=>by
  unfold pA at h;subst h;cases d'<;>unfold pA at h'<;>first| (cases h';rfl)| (cases h';done)| (obtain⟨_,_,z,_⟩:=h';cases z)
 |.int b,d',v,h,h'=>by
  unfold pA at h;subst h;cases d'<;>unfold pA at h'<;>first| (cases h';rfl)| (cases h';done)| (obtain⟨_,_,z,_⟩:=h';cases z)
 |.str l,d',v,h,h'=>by
  unfold pA at h;subst h;cases d'<;>unfold pA at h'<;>first| (rw[EO.mp h'])| (cases h';done)| (obtain⟨_,_,z,_⟩:=h';cases z)
 |.tup ds,d',v,h,h'=>by
  let#[a,vs,rfl,hq,hd]:=h;cases d' with
  |tup ds'=>
   unfold pA at h';let#[a',vs',e,hq',hd']:=h';cases e;rw[I.xV hq' hq] at hd';rw[iZ.inj I hd hd']
  |lst ds'=>
   unfold pA at h';let#[a',vs',e,hq',hd']:=h';cases e;exfalso;let#[its,_,#[o,e1,c1,_],_]:=I.tuple hq;let#[its',_,#[o',n',e2,c2,_,_],_]:=I.list hq';rw[e1] at e2;cases e2;rw[c1] at c2;injection c2 with c2
   erw[absurd c2 ⋯]
  |_=>unfold pA at h';cases h'
 |.lst ds,d',v,h,h'=>by
  let#[a,vs,rfl,hq,hd]:=h;cases d' with
  |lst ds'=>
   unfold pA at h';let#[a',vs',e,hq',hd']:=h';cases e;rw[I.vy hq' hq] at hd';rw[iZ.inj I hd hd']
  |tup ds'=>
   unfold pA at h';let#[a',vs',e,hq',hd']:=h';cases e;exfalso;let#[its,_,#[o,e1,c1,_],_]:=I.tuple hq';let#[its',_,#[o',n',e2,c2,_,_],_]:=I.list hq;rw[e1] at e2;cases e2;rw[c1] at c2;injection c2 with c2
   erw[absurd c2 ⋯]
  |_=>unfold pA at h';cases h'
theorem iZ.inj(I:Inv X pZ σ H s):∀{ds ds':List Dv}{vs:List V},iZ X.K H vs ds->iZ X.K H vs ds'->ds=ds'
 |[],[],_,_,_=>rfl
 |[],_::_,[],_,h'=>by unfold iZ at h';erw[h'.elim]
 |[],_::_,_::_,h,_=>by unfold iZ at h;erw[h.elim]
 |_::_,[],[],h,_=>by unfold iZ at h;erw[h.elim]
 |_::_,[],_::_,_,h'=>by unfold iZ at h';erw[h'.elim]
 |d::ds,d'::ds',[],h,_=>by unfold iZ at h;erw[h.elim]
 |d::ds,d'::ds',v::vs,h,h'=>by
  unfold iZ at h h';rw[pA.inj I h.1 h'.1,iZ.inj I h.2 h'.2]
end
def tN:∀{ds:List Dv}{i:Nat}{d:Dv},ds[i]?=ξ d->d.depth<=Dv.lI ds
 |d::ds,0,_,h=>by
  simp at h;subst h;unfold Dv.lI;erw[Nat.le_max_left _ _]
 |d::ds,i+1,_,h=>by
  have:=tN (ds:=ds) (i:=i) (~~~h);unfold Dv.lI;erw[aI this (Mf _ _)]
 |[],_,_,h=>by simp at h
def Q9(I:Inv X pZ σ H s):∀(n:Nat){A:eD}{d d':Dv}{x y:V}{u v:Value},d.depth<=n->A.units+n<fH->pA X.K H x d->pA X.K H y d'->RelV x u->RelV y v->rG A s u v (CM d d'):=by
 intro n;induction n with
 |zero=>
  intro A d d' x y u v hn hu hx hy rx ry;cases d with
  |tup ds=>unfold Dv.depth at hn;omega
  |lst ds=>unfold Dv.depth at hn;omega
  |b7=>
   cases (show _=_ from hx);cases rx;cases d'<;>unfold pA at hy
   .subst hy;cases ry;erw[kh _]
   .subst hy;cases ry;erw[xJ _]
   .subst hy;let#[t,rfl]:=ry;erw[oX _ _]
   .subst hy;let#[t,rfl]:=ry;erw[oY _ _]
   .let#[a,vs,rfl,hq,_]:=hy;cases ry;let#[its,_,p,_]:=I.tuple hq;erw[SeqAt.EqAt.none_tuple p ∅]
   .let#[a,vs,rfl,hq,_]:=hy;cases ry;let#[its,_,p,_]:=I.list hq;erw[SeqAt.EqAt.none_list p.isList ∅]
  |bl b=>
   cases (show _=_ from hx);cases rx;cases d'<;>unfold pA at hy
   .subst hy;cases ry;erw[xK _]
   .subst hy;cases ry;erw[xM _ _]
   .subst hy;let#[t,rfl]:=ry;erw[za _ _ _]
   .subst hy;let#[t,rfl]:=ry;erw[zb _ _ _]
   .let#[a,vs,rfl,hq,_]:=hy;cases ry;let#[its,_,p,_]:=I.tuple hq;erw[SeqAt.EqAt.bool_tuple _ p ∅]
   .let#[a,vs,rfl,hq,_]:=hy;cases ry;let#[its,_,p,_]:=I.list hq;erw[SeqAt.EqAt.bool_list _ p.isList ∅]
  |int i=>
   cases (show _=_ from hx);let#[t0,rfl]:=rx;cases d'<;>unfold pA at hy
   .subst hy;cases ry;erw[oV _ _]
   .subst hy;cases ry;erw[zc _ _ _]
   .subst hy;let#[t,rfl]:=ry;erw[pK _ _ _ _]
   .subst hy;let#[t,rfl]:=ry;erw[pI _ _ _ _]
   .let#[a,vs,rfl,hq,_]:=hy;cases ry;let#[its,_,p,_]:=I.tuple hq;erw[SeqAt.EqAt.int_tuple _ _ p ∅]
   .let#[a,vs,rfl,hq,_]:=hy;cases ry;let#[its,_,p,_]:=I.list hq;erw[SeqAt.EqAt.int_list _ _ p.isList ∅]
  |str l=>
   cases (show _=_ from hx);let#[t0,rfl]:=rx;cases d' with
   |b7=>cases (show _=_ from hy);cases ry;erw[oW _ _]
   |bl b=>cases (show _=_ from hy);cases ry;erw[zd _ _ _]
   |int i=>cases (show _=_ from hy);let#[t,rfl]:=ry;erw[pJ _ _ _ _]
   |str l'=>
    cases (show _=_ from hy);let#[t,rfl]:=ry;have e:(tx l==tx l')=CM (.str l) (.str l'):=by
     show(tx l==tx l')=(l==l')
     rw[cJ,beq_iff_eq,beq_iff_eq]
     erw[Pd]
    rw[<-e]
    erw[AQ _ _ _ _]
   |tup ds=>let#[a,vs,rfl,hq,_]:=hy;cases ry;let#[its,_,p,_]:=I.tuple hq;erw[SeqAt.EqAt.str_tuple _ _ p ∅]
   |lst ds=>let#[a,vs,rfl,hq,_]:=hy;cases ry;let#[its,_,p,_]:=I.list hq;erw[SeqAt.EqAt.str_list _ _ p.isList ∅]
 |succ n ih=>
  intro A d d' x y u v hn hu hx hy rx ry;have items:∀{vs vs':List V}{ds ds':List Dv}{its its':List Value},Dv.lI ds<=n->iZ X.K H vs ds->iZ X.K H vs' ds'->Vals vs its->Vals vs' its' ->
    ∃e:Nat->Bool,(∀j(h1:j<its.toArray.size)(h2:j<its'.toArray.size),rG A.in1 s its.toArray[j] its'.toArray[j] (e j))/\((bO (min its.toArray.size its'.toArray.size)).all e&&its.toArray.size==its'.toArray.size)=qy ds ds':=by
   intro vs vs' ds ds' its its' hd h1 h2 r1 r2;have l1:=h1.len;have l2:=h2.len;have m1:=r1.length;have m2:=r2.length;refine#[λj=>match ds[j]?,ds'[j]? with|some a,ξ b=>CM a b|_,_=>ζ,λj k1 k2=>?_,?_]
   .rw[aH] at k1 k2
    have j1:j<ds.length:=∅
    have j2:j<ds'.length:=∅
    have i1:j<vs.length:=∅
    have i2:j<vs'.length:=∅
    have e1:ds[j]?=ξ ds[j]:=aa j1;have e2:ds'[j]?=ξ ds'[j]:=aa j2;have f1:vs[j]?=ξ vs[j]:=aa i1;have f2:vs'[j]?=ξ vs'[j]:=aa i2;let#[w1,g1,q1]:=r1.get f1;let#[w2,g2,q2]:=r2.get f2;have a1:its.toArray[j]=w1:=by
     let#[_,z]:=ab.mp g1;simpa using z
    have a2:its'.toArray[j]=w2:=by
     let#[_,z]:=ab.mp g2;simpa using z
    rw[a1,a2]
    dsimp only;rw[e1,e2]
    erw[ih (aI (tN e1) hd) (by show A.units+1+n<fH;omega) (h1.get f1 e1) (h2.get f2 e2) q1 q2]
   .rw[aH,aH,<-m1,<-m2,l1,l2]
    rwa[vQ ds ds' _ λi a b h1 h2=>?_]
    rw[h1,h2]
  by_cases hz:d.depth<=n
  .erw[ih hz ∅ hx hy rx ry]
  .cases d with
   |b7=>unfold Dv.depth at hz;omega
   |bl b=>unfold Dv.depth at hz;omega
   |int b=>unfold Dv.depth at hz;omega
   |str b=>unfold Dv.depth at hz;omega
   |tup ds=>
    have hx0:=hx;let#[a,vs,rfl,hq,hd]:=hx;cases rx;let#[its,r1,p,_]:=I.tuple hq;unfold Dv.depth at hn;cases d' with
    |b7=>cases (show _=_ from hy);cases ry;erw[SeqAt.EqAt.tuple_none p ∅]
    |bl b=>cases (show _=_ from hy);cases ry;erw[SeqAt.EqAt.tuple_bool _ p ∅]
    |int i=>cases (show _=_ from hy);let#[t,rfl]:=ry;erw[SeqAt.EqAt.tuple_int _ _ p ∅]
    |str l'=>cases (show _=_ from hy);let#[t,rfl]:=ry;erw[SeqAt.EqAt.tuple_str _ _ p ∅]
    |lst ds'=>let#[a',vs',rfl,hq',_]:=hy;cases ry;let#[its',_,p',_]:=I.list hq';erw[SeqAt.EqAt.tuple_list p p'.isList ∅]
    |tup ds'=>
     have hy0:=hy;let#[a',vs',rfl,hq',hd']:=hy;cases ry;let#[its',r2,p',_]:=I.tuple hq';by_cases e:a=a'
     .subst e
      rw[pA.inj I hx0 hy0,vP]
      erw[kh _]
     .let#[f,hf,ef]:=items ∅ hd hd' r1 r2
      rw[show CM (.tup ds) (.tup ds')=qy ds ds' from rfl,<-ef]
      erw[AS e (SeqAt.RcAt.tuples p p' ∅ hf)]
   |lst ds=>
    have hx0:=hx;let#[a,vs,rfl,hq,hd]:=hx;cases rx;let#[its,r1,p,_]:=I.list hq;unfold Dv.depth at hn;cases d' with
    |b7=>cases (show _=_ from hy);cases ry;erw[SeqAt.EqAt.list_none p.isList ∅]
    |bl b=>cases (show _=_ from hy);cases ry;erw[SeqAt.EqAt.list_bool _ p.isList ∅]
    |int i=>cases (show _=_ from hy);let#[t,rfl]:=ry;erw[SeqAt.EqAt.list_int _ _ p.isList ∅]
    |str l'=>cases (show _=_ from hy);let#[t,rfl]:=ry;erw[SeqAt.EqAt.list_str _ _ p.isList ∅]
    |tup ds'=>let#[a',vs',rfl,hq',_]:=hy;cases ry;let#[its',_,p',_]:=I.tuple hq';erw[SeqAt.EqAt.list_tuple p.isList p' ∅]
    |lst ds'=>
     have hy0:=hy;let#[a',vs',rfl,hq',hd']:=hy;cases ry;let#[its',r2,p',_]:=I.list hq';by_cases e:a=a'
     .subst e
      rw[pA.inj I hx0 hy0,vP]
      erw[kh _]
     .let#[f,hf,ef]:=items ∅ hd hd' r1 r2
      rw[show CM (.lst ds) (.lst ds')=qy ds ds' from rfl,<-ef]
      rwa[AS e ?_];by_cases el:its.toArray.size=its'.toArray.size
      .have:((bO (min its.toArray.size its'.toArray.size)).all f&&its.toArray.size==its'.toArray.size)=(bO its.toArray.size).all f:=by
        rw[el,Nat.min_self]
        simp
       rw[this]
       erw[CH p.isList p'.isList el ∅ hf]
      .have:((bO (min its.toArray.size its'.toArray.size)).all f&&its.toArray.size==its'.toArray.size)=ϑ:=by
        have:(its.toArray.size==its'.toArray.size)=ϑ:=by simpa using el
        rw[this,Bool.and_false]
       rw[this]
       exact uY p.isList p'.isList (~~~el) ∅
end
end L2
namespace PL
def _root_.Lake.L2.ff{P:Prop}(h:ϑ=ζ):P:=by cases h
def _root_.Lake.L2.nn{α:Type}{x:α}{P:Prop}(h:(ψ:Option α)=ξ x):P:=by cases h
set_option genInjectivity true in
inductive U where
 |b7|bl (b:Bool)|int (i:Int)|str (l:List Nat)|tup (us:List U)|loc (n:Nat)
 |uQ (ns:List Int)|tab (kvs:List (List Nat×List Nat))
instance:Inhabited U:=#[.b7]
set_option genInjectivity true in
inductive SO where
 |lst (us:List U)|dX (kvs:List (U×U))|ins (c:String) (fs:List (String×U))
 |vR (kvs:List (U×U))|uR (kvs:List (List Int×U))|xr (kvs:List ((Int×List Int)×U))
@[reducible]def Env:=List (Option U)
@[reducible]def bH:=List SO
@[reducible]def KU:=U->bH->Prop
@[reducible]def Spec:=List U->bH->KU->Prop
@[reducible]def cb:=String->Spec
inductive GD where|add|sub|mul|fdiv|mod|band|bor|shl|shr
inductive Pe where|eq|ne|lt|le|gt|ge|isin|mh|Nc|zF|DA|Uy|Uz
inductive VN where|len|tuple|list|sum|all|any|int|dict|vS|max
inductive Nd where|join|index|startswith|append|extend|get|nY|nZ|vals|xt|pop
inductive Ty where|int|bool|str|list
set_option genCtorIdx false in
mutual
inductive Ex where
 |var (i:Nat)|lit (u:U)
 |bin (o:GD) (a b:Ex)|neg (a:Ex)|not (a:Ex)|and (a b:Ex)|or (a b:Ex)
 |cmp (o:Pe) (a b:Ex)|DB (c:Tx) (a b:Ex)
 |call (f:String) (as:zG)|mk (c q:String) (as:zG)|dm (c m q:String) (o:Ex) (as:zG)
 |blt (f:VN) (as:zG)|jD (m:Nd) (o:Ex) (as:zG)
 |fld (o:Ex) (f:String)|ix (o i:Ex)|sl (o:Ex) (lo hi:Ox)
 |tup (as:zG)|lst (as:zG)|dX (ks vs:zG)
 |comp (pr:Bool) (e:Ex) (it:It) (c:Tx) (ci:List Nat)
 |Nf (a:Ex) (t:Ty)|Jf (o k:Ex)
inductive zG where|nil|cons (e:Ex) (es:zG)
inductive It where|val (e:Ex)|range (e:Ex)|enum (e:Ex)|keys (e:Ex)
inductive Ox where|no|e (a:Ex)
inductive Tx where|cY (e:Ex)|not (t:Tx)|and (a b:Tx)|or (a b:Tx)
end
set_option genCtorIdx false in
inductive Tg where|name (i:Nat)|pair (i j:Nat)
set_option genCtorIdx false in
mutual
inductive Sm where
 |set (i:Nat) (e:Ex)|n6 (o:Ex) (f:String) (e:Ex)|nZ (o k e:Ex)
 |aug (i:Nat) (p:GD) (e:Ex)|DD (o:Ex) (f:String) (p:GD) (e:Ex)|GF (o i:Ex) (p:GD) (e:Ex)
 |ex (e:Ex)|ret (e:Ex)|ifs (c:Tx) (a b:dG)|CN (c:Tx) (b:dG)|iz (t:Tg) (it:It) (b:dG)
 |UA (b:dG)
inductive dG where|nil|cons (s:Sm) (ss:dG)
end
section
variable{α:Type}
abbrev opt(o:Option α)(Q:α->Prop):Prop:=match o with|some a=>Q a|none=>False
abbrev zH(o:Option (Option U))(Q:U->Prop):Prop:=match o with|some (ξ u)=>Q u|_=>False
abbrev getL(o:Option SO)(Q:List U->Prop):Prop:=match o with|some (.lst us)=>Q us|_=>False
abbrev getD(o:Option SO)(Q:List (U×U)->Prop):Prop:=match o with|some (.dX kvs)=>Q kvs|_=>False
abbrev qU(o:Option SO)(Q:String->List (String×U)->Prop):Prop:=match o with|some (.ins c fs)=>Q c fs|_=>False
abbrev Pf(x:U)(Q:Bool->Prop):Prop:=match x with|.bl b=>Q b|_=>False
abbrev lJ(x:U)(Q:Int->Prop):Prop:=match x with|.int i=>Q i|_=>False
abbrev uw(x:U)(Q:Nat->Prop):Prop:=match x with|.loc n=>Q n|_=>False
abbrev Pg(x:U)(Q:U->U->Prop):Prop:=match x with|.tup [a,b]=>Q a b|_=>False
@[simp] theorem aT{a:α}{Q:α->Prop}:opt (ξ a) Q=Q a:=rfl
@[simp] theorem VO:opt ψ Q=False:=rfl
@[simp] theorem yj:zH (ξ (ξ u)) Q=Q u:=rfl
@[simp] theorem ay{us:List U}{Q:List U->Prop}:getL (ξ (.lst us)) Q=Q us:=rfl
@[simp] theorem getD_some:getD (ξ (.dX us)) Q=Q us:=rfl
@[simp] theorem b8:qU (ξ (.ins c fs)) Q=Q c fs:=rfl
@[simp] theorem Jg:Pf (.bl b) Q=Q b:=rfl
@[simp] theorem Ng:lJ (.int i) Q=Q i:=rfl
@[simp] theorem Yu:uw (.loc n) Q=Q n:=rfl
@[simp] theorem Nh:Pg (.tup [a,b]) Q=Q a b:=rfl
def jH:opt o Q↔∃a,o=ξ a/\Q a:=by cases o<;>simp[opt]
def BE:zH o Q↔∃a,o=ξ (ξ a)/\Q a:=by
 rcases o with _|_|a<;>simp[zH]
def cR:getL o Q↔∃a,o=ξ (.lst a)/\Q a:=
 #[λw=>by rcases o with _|a|a|a|a|a|a<;>first|exact#[_,rfl,w]|exact aW w,by rintro⟨b,rfl,w⟩;exact w]
def BF:getD o Q↔∃a,o=ξ (.dX a)/\Q a:=
 #[λw=>by rcases o with _|a|a|a|a|a|a<;>first|exact#[_,rfl,w]|exact aW w,by rintro⟨b,rfl,w⟩;exact w]
def ni{o:Option SO}{Q:String->List (String×U)->Prop}:qU o Q↔∃c fs,o=ξ (.ins c fs)/\Q c fs:=
 #[λw=>by rcases o with _|a|a|a|a|a|a<;>first|exact#[_,_,rfl,w]|exact aW w,by rintro⟨b,c,rfl,w⟩;exact w]
def zI:Pf x Q↔∃b,x=.bl b/\Q b:=#[λw=>by cases x<;>first|exact#[_,rfl,w]|exact aW w,by rintro⟨b,rfl,w⟩;exact w]
def fI:lJ x Q↔∃b,x=.int b/\Q b:=#[λw=>by cases x<;>first|exact#[_,rfl,w]|exact aW w,by rintro⟨b,rfl,w⟩;exact w]
def i4:uw x Q↔∃b,x=.loc b/\Q b:=#[λw=>by cases x<;>first|exact#[_,rfl,w]|exact aW w,by rintro⟨b,rfl,w⟩;exact w]
def ET:Pg x Q↔∃a b,x=.tup [a,b]/\Q a b:=by
 refine#[λw=>?_,by rintro⟨a,b,rfl,w⟩;exact w];cases x<;>first|exact aW w|skip
 rename_i us;rcases us with _|⟨a,_|⟨b,_|_⟩⟩<;>first|exact aW w|exact#[_,_,rfl,w]
end
abbrev jo(o:Option SO)(Q:List (U×U)->Prop):Prop:=match o with|some (.dX kvs)=>Q kvs|some (.vR kvs)=>Q kvs|_=>False
def jq:jo (ξ (.dX us)) Q=Q us:=rfl
def jr:jo o Q↔∃a,(o=ξ (.dX a)\/o=ξ (.vR a))/\Q a:=
 #[λw=>by rcases o with _|a|a|a|a|a|a<;>first|exact#[_,.inl rfl,w]|exact#[_,.inr rfl,w]|exact aW w,by rintro⟨b,rfl|rfl,w⟩<;>exact w]
abbrev mP:U->Bool
 |.b7=>ζ|.int _=>ζ|.str _=>ζ
 |_=>ϑ
abbrev Ph:U->U->Bool
 |.b7,.b7=>ζ
 |.int a,.int b=>a==b
 |.str a,.str b=>a==b
 |_,_=>ϑ
abbrev uz(k:U):List (U×U)->Option U
 |[]=>ψ
 | (a,v)::r=>if Ph a k=ζ then ξ v else uz k r
mutual
noncomputable def xg:U->Bool
 |.b7=>ζ|.bl _=>ζ|.int _=>ζ|.str _=>ζ
 |.tup us=>kK us
 |_=>ϑ
noncomputable def kK:List U->Bool
 |[]=>ζ
 |u::us=>xg u&&kK us
end
mutual
noncomputable def dep:U->Nat
 |.tup us=>n8 us+1
 |_=>0
noncomputable def n8:List U->Nat
 |[]=>0
 |u::us=>max (dep u) (n8 us)
end
mutual
noncomputable def mi:U->U->Bool
 |.b7,.b7=>ζ
 |.bl a,.bl b=>a==b
 |.bl a,.int b=>(if a then 1 else 0)== b
 |.int a,.bl b=>a==(if b then 1 else 0)
 |.int a,.int b=>a==b
 |.str a,.str b=>a==b
 |.tup as,.tup bs=>xv as bs
 |_,_=>ϑ
noncomputable def xv:List U->List U->Bool
 |[],[]=>ζ
 |x::xs,y::ys=>mi x y&&xv xs ys
 |_,_=>ϑ
end
abbrev Jh:U->U->Bool
 |.b7,.b7=>ζ|.b7,.int _=>ζ|.b7,.bl _=>ζ|.b7,.str _=>ζ
 |.int _,.b7=>ζ|.int _,.int _=>ζ|.int _,.str _=>ζ
 |.bl _,.b7=>ζ|.bl _,.bl _=>ζ|.bl _,.str _=>ζ
 |.str _,.b7=>ζ|.str _,.int _=>ζ|.str _,.bl _=>ζ|.str _,.str _=>ζ
 |_,_=>ϑ
abbrev yk(x y:U)(Q:Bool->Prop):Prop:=(Jh x y=ζ/\xg x=ζ/\xg y=ζ/\dep x<=100)/\Q (mi x y)
abbrev DE:U->U->Bool
 |.tup _,.tup _=>ζ
 |.tup _,_=>ϑ
 |_,_=>ζ
abbrev flat:U->Bool
 |.b7=>ζ|.bl _=>ζ|.int _=>ζ|.str _=>ζ
 |_=>ϑ
abbrev rX(x:U)(us:List U)(Q:Bool->Prop):Prop:=(flat x=ζ/\us.all flat=ζ)/\Q (us.any λy=>mi y x)
abbrev jf:List Nat->List Nat->Bool
 |a,[]=>a.isEmpty
 |a,b::bs=>a.isPrefixOf (b::bs)||jf a bs
abbrev nj(S:bH):U->Option Nat
 |.str l=>ξ l.length
 |.tup us=>ξ us.length
 |.uQ ns=>ξ ns.length
 |.loc n=>match S[n]? with
  |some (.lst us)=>ξ us.length
  |some (.dX kvs)=>ξ kvs.length
  |some (.xr kvs)=>ξ kvs.length
  |_=>ψ
 |_=>ψ
abbrev tO(S:bH):U->Option Bool
 |.b7=>ξ ϑ
 |.bl b=>ξ b
 |.int i=>ξ (i !=0)
 |.str _=>ψ
 |.loc n=>match S[n]? with
  |some (.xr _)=>ψ
  |_=>(nj S (.loc n)).map λn=>n !=0
 |u=>(nj S u).map λn=>n !=0
abbrev Ni(n:Nat)(i:Int):Option Nat:=if 0<=i then(if i<n then ξ i.toNat else ψ) else if -(n:Int)<=i then ξ (i+n).toNat else ψ
abbrev qV{α:Type}(xs:List α)(i:Int):Option α:=(Ni xs.length i).bind λj=>xs[j]?
abbrev tP{α:Type}(xs:List α)(lo hi:Option Int):List α:=(xs.drop (min (lo.getD 0).toNat xs.length)).take (min (hi.getD xs.length).toNat xs.length-min (lo.getD 0).toNat xs.length)
abbrev L0(x:U)(Q:List Nat->Prop):Prop:=match x with|.str a=>Q a|_=>False
abbrev Yv(x:U)(Q:Prop):Prop:=match x with|.b7=>Q|_=>False
abbrev asU(x:U)(Q:List U->Prop):Prop:=match x with|.tup a=>Q a|_=>False
def n9:L0 x Q↔∃b,x=.str b/\Q b:=#[λw=>by cases x<;>first|exact#[_,rfl,w]|exact aW w,by rintro⟨b,rfl,w⟩;exact w]
def Nj:asU x Q↔∃b,x=.tup b/\Q b:=#[λw=>by cases x<;>first|exact#[_,rfl,w]|exact aW w,by rintro⟨b,rfl,w⟩;exact w]
def kR{x y:U}{P:Int->Int->Prop}(w:lJ x λi=>lJ y (P i)):∃i j,x=.int i/\y=.int j/\P i j:=by
 let#[i,e,w]:=fI.mp w;let#[j,e',w]:=fI.mp w;exact#[i,j,e,e',w]
abbrev k5(o:GD)(x y:U)(S:bH)(Q:KU):Prop:=
 match o with
 |.add=>match x with
  |.int i=>lJ y λj=>Q (.int (i+j)) S
  |.str a=>L0 y λb=>a.length+b.length<=1000000/\Q (.str (a++b)) S
  |.tup a=>asU y λb=>a.length+b.length<=1000000/\Q (.tup (a++b)) S
  |.loc m=>uw y λn=>getL S[m]? λa=>getL S[n]? λb=>a.length+b.length<=1000000/\Q (.loc S.length) (S++[.lst (a++b)])
  |_=>False
 |.sub=>lJ x λi=>lJ y λj=>Q (.int (i-j)) S
 |.mul=>lJ x λi=>lJ y λj=>((-(2^64)<i/\i<2^64)\/(-(2^64)<j/\j<2^64))/\Q (.int (i*j)) S
 |.fdiv=>lJ x λi=>lJ y λj=>(0<j/\j<1073741824)/\Q (.int (i/j)) S
 |.mod=>lJ x λi=>lJ y λj=>0<j/\Q (.int (i%j)) S
 |.band=>lJ x λi=>lJ y λj=>(0<=i/\0<=j)/\Q (.int ((i.toNat&&&j.toNat:Nat):Int)) S
 |.bor=>lJ x λi=>lJ y λj=>(0<=i/\0<=j)/\Q (.int ((i.toNat|||j.toNat:Nat):Int)) S
 |.shl=>lJ x λi=>lJ y λj=>(0<=i/\i<1000/\0<=j/\j<=1000)/\Q (.int (i*2^j.toNat)) S
 |.shr=>lJ x λi=>lJ y λj=>(0<=i/\0<=j)/\Q (.int (i/2^j.toNat)) S
abbrev zJ(o:GD)(x y:U)(S:bH)(Q:KU):Prop:=
 match x with
 |.int i=>k5 o (.int i) y S Q
 |.str a=>k5 o (.str a) y S Q
 |_=>False
abbrev mj(x:U):Bool:=match x with|.b7=>ζ|_=>ϑ
abbrev Yw(x y:U)(Q:Bool->Prop):Prop:=DE x y=ζ/\yk x y λb=>Q !b
abbrev ZA(x:U)(us:List U)(Q:Bool->Prop):Prop:=match x with
 |.tup xs=>(kK xs=ζ/\kK us=ζ/\n8 us<=100)/\Q !(us.any λy=>mi y (.tup xs))
 |x=>rX x us λb=>Q !b
abbrev iT(o:Pe)(x y:U)(S:bH)(Q:Bool->Prop):Prop:=
 match o with
 |.eq=>yk x y Q
 |.ne=>Yw x y Q
 |.lt=>lJ x λi=>lJ y λj=>Q (decide (i<j))
 |.le=>lJ x λi=>lJ y λj=>Q (decide (i<=j))
 |.gt=>lJ x λi=>lJ y λj=>Q (decide (j<i))
 |.ge=>lJ x λi=>lJ y λj=>Q (decide (j<=i))
 |.isin=>match y with
  |.str b=>L0 x λa=>Q (jf a b)
  |.tab kvs=>L0 x λa=>Q (kvs.lookup a).isSome
  |.tup us=>rX x us Q
  |.loc n=>getL S[n]? λus=>rX x us Q
  |_=>False
 |.mh=>match y with
  |.str b=>L0 x λa=>Q !(jf a b)
  |.tup us=>rX x us λb=>Q !b
  |.loc n=>getL S[n]? λus=>ZA x us Q
  |_=>False
 |.Nc=>Yv y (Q (mj x))
 |.zF=>Yv y (Q !(mj x))
 |.Uy=>∃i a j b,x=.tup [.int i,.str a]/\y=.tup [.int j,.str b]/\Q (decide (j<i\/(j=i/\b<a)))
 |.Uz=>∃m n,∃is js:List Int,x=.loc m/\y=.loc n/\S[m]?=ξ (.lst (is.map .int))/\S[n]?=ξ (.lst (js.map .int))/\Q (decide (is=js))
 |.DA=>uw y λn=>jo S[n]? λkvs=>mP x=ζ/\Q (uz x kvs).isNone
abbrev GG(S:bH)(u:U)(t:Ty)(Q:Bool->Prop):Prop:=match t with
 |.int=>lJ u λ_=>Q ζ
 |.bool=>lJ u λ_=>Q ϑ
 |.str=>L0 u λ_=>Q ζ
 |.list=>uw u λn=>getL S[n]? λ_=>Q ζ
abbrev L1(x y:U)(S:bH)(Q:U->Prop):Prop:=
 match x with
 |.str l=>lJ y λi=>l.length<=1000000/\opt (qV l i) λc=>Q (.str [c])
 |.tup us=>lJ y λi=>us.length<=1000000/\opt (qV us i) Q
 |.uQ ns=>lJ y λi=>ns.length<=1000000/\opt (qV ns i) λn=>Q (.int n)
 |.loc n=>lJ y λi=>getL S[n]? λus=>opt (qV us i) Q
 |.tab kvs=>L0 y λk=>opt (kvs.lookup k) λv=>Q (.str v)
 |_=>False
abbrev Ra(x y:U)(S:bH)(Q:U->Prop):Prop:=uw x λn=>jo S[n]? λkvs=>mP y=ζ/\opt (uz y kvs) Q
abbrev UB(x:U)(lo hi:Option Int)(S:bH)(Q:KU):Prop:=
 ((∀i,lo=ξ i->0<=i)/\∀i,hi=ξ i->0<=i)/\match x with
 |.str l=>l.length<=1000000/\Q (.str (tP l lo hi)) S
 |.tup us=>(us.length<=1000000/\us≠[]/\0<lo.getD 0)/\Q (.tup (tP us lo hi)) S
 |.loc n=>getL S[n]? λus=>Q (.loc S.length) (S++[.lst (tP us lo hi)])
 |_=>False
abbrev mm(sep:List Nat):List (List Nat)->List Nat
 |[]=>[]
 |[x]=>x
 |x::r=>x++sep++mm sep r
abbrev uA(n:Nat):Nat:=if n=0 then 0 else n.log2+1
abbrev tQ(f:VN)(us:List U)(S:bH)(Q:KU):Prop:=
 match f,us with
 |.len,[x]=>opt (nj S x) λn=>n<=1000000/\Q (.int n) S
 |.tuple,[.loc n]=>getL S[n]? λus=>Q (.tup us) S
 |.list,[.loc n]=>getL S[n]? λus=>Q (.loc S.length) (S++[.lst us])
 |.list,[.tup us]=>us.length<=1000000/\Q (.loc S.length) (S++[.lst us])
 |.all,[.loc n]=>∃bs:List Bool,S[n]?=ξ (.lst (bs.map .bl))/\Q (.bl (bs.all id)) S
 |.any,[.loc n]=>∃bs:List Bool,S[n]?=ξ (.lst (bs.map .bl))/\Q (.bl (bs.any id)) S
 |.sum,[.loc n]=>∃is:List Int,S[n]?=ξ (.lst (is.map .int))/\Q (.int is.sum) S
 |.dict,[.loc n]=>∃ps:List (List Nat×U),S[n]?=ξ (.lst (ps.map λp=>.tup [.str p.1,p.2]))/\(ps.map (·.1)).Nodup/\Q (.loc S.length) (S++[.dX (ps.map λp=>(.str p.1,p.2))])
 |.max,[.loc n]=>∃(i:Int)(is:List Int),S[n]?=ξ (.lst ((i::is).map .int))/\∀m∈i::is,(∀j∈i::is,j<=m)->Q (.int m) S
 |.vS,[.loc n]=>∃t ts,S[n]?=ξ (.lst ((t::ts).map .str))/\(∀u∈t::ts,u.length<=1000000)/\Q (.str (ts.foldl (λb x=>if x.length<b.length then x else b) t)) S
 |_,_=>False
abbrev sdW{κ:Type}[BEq κ](kvs:List (κ×U))(k:κ)(f:List (κ×U)->SO)(S:bH)(n:Nat)(d:U)(Q:KU):Prop:=
 kvs.length<1000000/\match kvs.lookup k with
  |some v=>Q v S
  |none=>Q d (S.set n (f (kvs++[(k,d)])))
abbrev pB(S:bH)(n:Nat)(k d:U)(Q:KU):Prop:=
 match S[n]? with
 |some (.dX kvs)=>(mP k=ζ/\kvs.length<1000000)/\match uz k kvs with
  |some v=>Q v S
  |none=>Q d (S.set n (.dX (kvs++[(k,d)])))
 |some (.uR kvs)=>∃ks,k=.tup (ks.map .int)/\sdW kvs ks .uR S n d Q
 |some (.xr kvs)=>∃b ks,k=.tup [.int b,.tup (ks.map .int)]/\sdW kvs (b,ks) .xr S n d Q
 |_=>False
abbrev qz(m:Nd)(x:U)(us:List U)(S:bH)(Q:KU):Prop:=
 match m,x,us with
 |.join,.str sep,[.loc n]=>∃ts:List (List Nat),S[n]?=ξ (.lst (ts.map .str))/\(ts.map cD).sum+ts.length*sep.length<=1000000/\Q (.str (mm sep ts)) S
 |.index,.str l,[.str k]=>∃c,k=[c]/\c∈l/\Q (.int (l.idxOf c:Nat)) S
 |.startswith,.str l,[.str k]=>Q (.bl (k.isPrefixOf l)) S
 |.nY,.int i,[]=>0<=i/\Q (.int (uA i.toNat:Nat)) S
 |.get,.loc n,[.str k,d]=>getD S[n]? λkvs=>∃ps:List (List Nat×U),kvs=(ps.map λp=>(U.str p.1,p.2))/\Q ((ps.lookup k).getD d) S
 |.get,.loc n,[k]=>jo S[n]? λkvs=>mP k=ζ/\Q ((uz k kvs).getD .b7) S
 |.nZ,.loc n,[k,d]=>pB S n k d Q
 |.vals,.loc n,[]=>match S[n]? with
  |some (.uR kvs)=>Q (.loc S.length) (S++[.lst (kvs.map (·.2))])
  |_=>False
 |.append,.loc n,[u]=>getL S[n]? λus=>us.length<1000000/\Q .b7 (S.set n (.lst (us++[u])))
 |.xt,.tup us,[x]=>(flat x=ζ/\us.all flat=ζ)/\∃j z,us[j]?=ξ z/\mi z x=ζ/\(∀(i:Nat)(z':U),i<j->us[i]?=ξ z'->mi z' x=ϑ)/\Q (.int (j:Nat)) S
 |.pop,.loc n,[.int i]=>i=0/\getL S[n]? λus=>∃u r,us=u::r/\Q u (S.set n (.lst r))
 |.extend,.loc n,[.loc m]=>getL S[n]? λus=>getL S[m]? λws=>us.length+ws.length<=1000000/\Q .b7 (S.set n (.lst (us++ws)))
 |_,_,_=>False
abbrev rY(m:Nd)(x:U)(S:bH):Prop:=
 match m,x with
 |.join,.str _=>True|.index,.str _=>True|.startswith,.str _=>True
 |.append,.loc n=>getL S[n]? λ_=>True
 |.pop,.loc n=>getL S[n]? λ_=>True
 |.xt,.tup _=>True
 |.extend,.loc n=>getL S[n]? λ_=>True
 |.get,.loc n=>jo S[n]? λ_=>True
 |.nZ,.loc n=>match S[n]? with|some (.dX _)=>True|some (.uR _)=>True|some (.xr _)=>True|_=>False
 |.vals,.loc n=>match S[n]? with|some (.uR _)=>True|_=>False
 |.nY,.int _=>True
 |_,_=>False
abbrev iF(f:String)(v:U):List (String×U)->List (String×U)
 |[]=>[(f,v)]
 | (g,x)::r=>if g=f then(g,v)::r else(g,x)::iF f v r
abbrev pC(x:U)(f:String)(S:bH)(Q:U->Prop):Prop:=
 match x with
 |.loc n=>qU S[n]? λ_ fs=>opt (fs.lookup f) Q
 |_=>False
abbrev uT(g:bH->Prop)(turn:U->Env->bH->(Env->bH->Prop)->Prop)(fin:Env->bH->Prop):List U->Env->bH->Prop
 |[],env,S=>g S/\fin env S
 |u::us,env,S=>g S/\turn u env S (uT g turn fin us)
abbrev oM(g:bH->Prop)(c:U->bH->(Bool->bH->Prop)->Prop)(e:U->bH->KU->Prop)(Q:List U->bH->Prop):List U->List U->bH->Prop
 |[],acc,S=>g S/\acc.length<1000000/\Q acc S
 |u::us,acc,S=>g S/\acc.length<1000000/\c u S λb S1=>if b=ζ then e u S1 λv S2=>oM g c e Q us (acc++[v]) S2 else oM g c e Q us acc S1
abbrev zK(c:Env->bH->(Bool->bH->Prop)->Prop)(b:Env->bH->(Env->bH->Prop)->Prop)(fin:Env->bH->Prop):Nat->Env->bH->Prop
 |0,_,_=>False
 |n+1,env,S=>c env S λt S1=>if t=ζ then b env S1 (zK c b fin n) else fin env S1
abbrev GH(x:U)(S:bH)(R:List U->(bH->Prop)->Prop):Prop:=
 match x with
 |.str l=>R (l.map λc=>.str [c]) (λ_=>True)
 |.tup us=>us.length<=1000000/\R us (λ_=>True)
 |.loc n=>getL S[n]? λus=>R us (λS'=>S'[n]?=ξ (.lst us))
 |_=>False
abbrev nk(env:Env)(ci:List Nat):Env:=ci.map λj=>(env[j]?).join
abbrev qE(pr:Bool)(u:U)(caps:Env)(k:Env->Prop):Prop:=
 match pr with
 |false=>k (ξ u::caps)
 |true=>Pg u λa b=>k (ξ a::ξ b::caps)
mutual
noncomputable def WE(Γ:cb):Ex->Env->bH->KU->Prop
 |.var i,env,S,Q=>zH env[i]? λu=>Q u S
 |.lit u,_,S,Q=>Q u S
 |.bin o a b,env,S,Q=>WE Γ a env S (λx S1=>WE Γ b env S1 (λy S2=>k5 o x y S2 Q))
 |.neg a,env,S,Q=>WE Γ a env S (λx S1=>lJ x λi=>Q (.int (-i)) S1)
 |.not a,env,S,Q=>WE Γ a env S (λx S1=>Pf x λb=>Q (.bl !b) S1)
 |.and a b,env,S,Q=>WE Γ a env S (λx S1=>Pf x λc=>if c=ζ then WE Γ b env S1 Q else Q (.bl ϑ) S1)
 |.or a b,env,S,Q=>WE Γ a env S (λx S1=>Pf x λc=>if c=ζ then Q (.bl ζ) S1 else WE Γ b env S1 Q)
 |.cmp o a b,env,S,Q=>WE Γ a env S (λx S1=>WE Γ b env S1 (λy S2=>iT o x y S2 λr=>Q (.bl r) S2))
 |.DB c a b,env,S,Q=>WT Γ c env S (λt S1=>if t=ζ then WE Γ a env S1 Q else WE Γ b env S1 Q)
 |.call f as,env,S,Q=>xw Γ as env S (λus S1=>Γ f us S1 Q)
 |.mk c q as,env,S,Q=>xw Γ as env S (λus S1=>Γ q (.loc S1.length::us) (S1++[.ins c []]) (λv S2=>v=.b7/\Q (.loc S1.length) S2))
 |.dm c m q o as,env,S,Q=>WE Γ o env S (λx S1=>uw x λn=>qU S1[n]? λc' fs=>(c'=c/\fs.lookup m=ψ)/\xw Γ as env S1 (λus S2=>Γ q (x::us) S2 Q))
 |.blt f as,env,S,Q=>xw Γ as env S (λus S1=>tQ f us S1 Q)
 |.jD m o as,env,S,Q=>WE Γ o env S (λx S1=>rY m x S1/\xw Γ as env S1 (λus S2=>qz m x us S2 Q))
 |.fld o f,env,S,Q=>WE Γ o env S (λx S1=>pC x f S1 λv=>Q v S1)
 |.ix o i,env,S,Q=>WE Γ o env S (λx S1=>WE Γ i env S1 (λy S2=>L1 x y S2 λv=>Q v S2))
 |.sl o lo hi,env,S,Q=>WE Γ o env S (λx S1=>WO Γ lo env S1 (λl S2=>WO Γ hi env S2 (λh S3=>UB x l h S3 Q)))
 |.tup as,env,S,Q=>xw Γ as env S (λus S1=>us.length<=1000000/\Q (.tup us) S1)
 |.lst as,env,S,Q=>xw Γ as env S (λus S1=>us.length<=1000000/\Q (.loc S1.length) (S1++[.lst us]))
 |.dX ks vs,env,S,Q=>xw Γ ks env S (λus S1=>xw Γ vs env S1 (λws S2=>us.length<=100/\match us with
   |[]=>Q (.loc S2.length) (S2++[.dX []])\/Q (.loc S2.length) (S2++[.uR []])\/Q (.loc S2.length) (S2++[.xr []])
   |[k]=>mP k=ζ/\∃v,ws=[v]/\Q (.loc S2.length) (S2++[.dX [(k,v)]])
   |_=>False))
 |.comp pr e it c ci,env,S,Q=>WI Γ it env S (λus g S1=>oM g (λu S2 k=>qE pr u (nk env ci) λen=>WT Γ c en S2 k)
   (λu S2 k=>qE pr u (nk env ci) λen=>WE Γ e en S2 k) (λacc S3=>Q (.loc S3.length) (S3++[.lst acc])) us [] S1)
 |.Nf a t,env,S,Q=>WE Γ a env S (λx S1=>GG S1 x t λb=>Q (.bl b) S1)
 |.Jf o k,env,S,Q=>WE Γ o env S (λx S1=>WE Γ k env S1 (λy S2=>Ra x y S2 λv=>Q v S2))
noncomputable def xw(Γ:cb):zG->Env->bH->(List U->bH->Prop)->Prop
 |.nil,_,S,Q=>Q [] S
 |.cons e es,env,S,Q=>WE Γ e env S (λx S1=>xw Γ es env S1 (λxs S2=>Q (x::xs) S2))
noncomputable def WO(Γ:cb):Ox->Env->bH->(Option Int->bH->Prop)->Prop
 |.no,_,S,Q=>Q ψ S
 |.e a,env,S,Q=>WE Γ a env S (λx S1=>lJ x λj=>Q (ξ j) S1)
noncomputable def WI(Γ:cb):It->Env->bH->(List U->(bH->Prop)->bH->Prop)->Prop
 |.val e,env,S,R=>WE Γ e env S (λx S1=>GH x S1 λus g=>R us g S1)
 |.range e,env,S,R=>WE Γ e env S (λx S1=>lJ x λn=>n<=1000000/\-(1000000:Int)<=n/\R ((bO n.toNat).map λk=>.int (k:Nat)) (λ_=>True) S1)
 |.enum e,env,S,R=>WE Γ e env S (λx S1=>uw x λn=>getL S1[n]? λus=>R (us.mapIdx λi u=>.tup [.int (i:Nat),u]) (λS'=>S'[n]?=ξ (.lst us)) S1)
 |.keys e,env,S,R=>WE Γ e env S (λx S1=>uw x λn=>jo S1[n]? λkvs=>R (kvs.map (·.1)) (λS'=>S'[n]?=ξ (.vR kvs)) (S1.set n (.vR kvs)))
noncomputable def WT(Γ:cb):Tx->Env->bH->(Bool->bH->Prop)->Prop
 |.cY e,env,S,Q=>WE Γ e env S (λx S1=>opt (tO S1 x) λb=>Q b S1)
 |.not t,env,S,Q=>WT Γ t env S (λb S1=>Q (!b) S1)
 |.and a b,env,S,Q=>WT Γ a env S (λc S1=>if c=ζ then WT Γ b env S1 Q else Q ϑ S1)
 |.or a b,env,S,Q=>WT Γ a env S (λc S1=>if c=ζ then Q ζ S1 else WT Γ b env S1 Q)
end
structure Ends where
 nx:Env->bH->Prop
 rt:KU
mutual
noncomputable def WS(Γ:cb):Sm->Ends->Env->bH->Prop
 |.set i e,D,env,S=>WE Γ e env S (λu S1=>D.nx (env.set i (ξ u)) S1)
 |.n6 o f e,D,env,S=>WE Γ e env S (λu S1=>WE Γ o env S1 (λx S2=>uw x λn=>qU S2[n]? λc fs=>fs.length<100/\D.nx env (S2.set n (.ins c (iF f u fs)))))
 |.nZ o k e,D,env,S=>WE Γ e env S (λu S1=>WE Γ o env S1 (λx S2=>WE Γ k env S2 (λy S3=>uw x λn=>getD S3[n]? λkvs=>(mP y=ζ/\uz y kvs=ψ/\kvs.length<1000000)/\D.nx env (S3.set n (.dX (kvs++[(y,u)]))))))
 |.aug i p e,D,env,S=>zH env[i]? λx=>WE Γ e env S (λy S1=>zJ p x y S1 λz S2=>D.nx (env.set i (ξ z)) S2)
 |.DD o f p e,D,env,S=>WE Γ o env S (λx S1=>uw x λn=>qU S1[n]? λc fs=>opt (fs.lookup f) λv=>
   WE Γ e env S1 (λy S2=>zJ p v y S2 λz S3=>qU S3[n]? λc' fs'=>c'=c/\fs'.length<100/\D.nx env (S3.set n (.ins c (iF f z fs')))))
 |.GF o i p e,D,env,S=>WE Γ o env S (λx S1=>WE Γ i env S1 (λy S2=>uw x λn=>lJ y λk=>getL S2[n]? λus=>0<=k/\opt (us[k.toNat]?) λv=>
   WE Γ e env S2 (λz S3=>zJ p v z S3 λr S4=>getL S4[n]? λus'=>k.toNat<us'.length/\D.nx env (S4.set n (.lst (us'.set k.toNat r))))))
 |.ex e,D,env,S=>WE Γ e env S (λ_ S1=>D.nx env S1)
 |.ret e,D,env,S=>WE Γ e env S D.rt
 |.ifs c a b,D,env,S=>WT Γ c env S (λt S1=>if t=ζ then uU Γ a D env S1 else uU Γ b D env S1)
 |.CN c b,D,env,S=>∃n,zK (λen S1 k=>WT Γ c en S1 k) (λen S1 k=>uU Γ b {D with nx:=k} en S1) D.nx n env S
 |.iz t it b,D,env,S=>WI Γ it env S (λus g S1=>uT g (λu en S2 k=>match t with
   |.name i=>uU Γ b {D with nx:=k} (en.set i (ξ u)) S2
   |.pair i j=>Pg u λx y=>uU Γ b {D with nx:=k} ((en.set i (ξ x)).set j (ξ y)) S2) D.nx us env S1)
 |.UA b,D,env,S=>uU Γ b D env S
noncomputable def uU(Γ:cb):dG->Ends->Env->bH->Prop
 |.nil,D,env,S=>D.nx env S
 |.cons s ss,D,env,S=>WS Γ s {D with nx:=λen S1=>uU Γ ss D en S1} env S
end
end PL
namespace L2
open PySem PySem.Spec PyProof.Rows PySem.W
open Builtin Builtin.Str
def EU:∀{b:List Nat},PL.jf a b=ζ↔∃i,i+a.length<=b.length/\(b.drop i).take a.length=a
 |[]=>by
  unfold PL.jf;rw[List.isEmpty_iff]
  constructor
  .rintro rfl;exact#[0,ao _,rfl]
  .rintro⟨i,h,_⟩
   erw[gB (by have h:i+a.length<=0:=h;omega)]
 |x::b=>by
  unfold PL.jf;rw[bw,EU (b:=b),xR]
  constructor
  .rintro(h|⟨i,h1,h2⟩)
   .refine#[0,by have:=h.length_le;omega,?_]
    rw[l9];exact(oJ.mp h).symm
   .exact#[i+1,(·),%[F3|h2]]
  .rintro⟨i,h1,h2⟩
   cases i with
   |zero=>rw[l9] at h2;erw[.inl (oJ.mpr h2.symm)]
   |succ i=>rw[F3] at h2;exact .inr #[i,by simp at h1;omega,h2]
def BG(a b:List Nat):(!(occurrences (tx b) (tx a) 0 (tx b).length 1).isEmpty)=PL.jf a b:=by
 rw[cJ,StrLaws.found_iff,EU]
 rwa[exists_congr λi=>?_]
 rw[dU,dU]
 rwa[and_congr_right λh=>?_]
 rw[StrLaws.subAt_eq,beq_iff_eq]
 simp[dU]
section
variable{X:Cx}
def GI:iq X (bF .In) (λx y H Q=>∃a b,x=.str (tx a)/\y=.str (tx b)/\Q (.bl (PL.jf a b)) H):=by
 z_go;let#[a,b,rfl,rfl,q]:=h;rwa[Gi pZ s σ H _ _ v u Q I rx ry #[tx a,tx b,rfl,rfl,?_]];rw[BG]
 erw[q]
def zL:iq X (bF .NotIn) (λx y H Q=>∃a b,x=.str (tx a)/\y=.str (tx b)/\Q (.bl (!PL.jf a b)) H):=by
 z_go;let#[a,b,rfl,rfl,q]:=h;rwa[zy pZ s σ H _ _ v u Q I rx ry #[tx a,tx b,rfl,rfl,?_]];rw[BG]
 erw[q]
def ym:AX X "str.startswith" (λx xs H Q=>∃a b,x=.str (tx a)/\xs=[.str (tx b)]/\Q (.bl (b.isPrefixOf a)) H):=by
 intro pZ s σ H x xs v us Q I rx rs h;let#[a,b,rfl,rfl,q]:=h;let#[t,rfl]:=rx;let#[u,rfl,t',rfl]:=vals1 rs;rwa[SC.startswith #[.bl _,H,I,?_,q]];show oQ (Txt.startswith (tx a) (tx b))=oQ (b.isPrefixOf a)
 congr 1
 unfold Txt.startswith;rw[cJ,ak,decide_eq_true_eq,StrLaws.subAt_eq,beq_iff_eq,xR,oJ,dU,dU]
 dsimp[l9,dU,kc];constructor
 .rintro⟨_,h⟩;erw[h.symm]
 .intro h
  refine#[?_,h.symm];have:=congrArg cD h;simp at this;omega
def vT:∀{bs:List Bool}{us:List Value},Vals (bs.map V.bl) us->us=bs.map oQ
 |[],_,.nil=>rfl
 |b::bs,_,.cons r h=>by
  cases r;rw[vT h];rfl
def DF(hc:X.calm=ζ):iP X (.builtin "all") (λxs H Q=>∃p,∃bs:List Bool,xs=[.ref p]/\iS X.K H p (bs.map V.bl)/\Q (.bl (bs.all id)) H):=by
 k_ne;let#[p,bs,rfl,hl,q]:=h;let#[u,rfl,ru]:=vals1 r;cases ru;let#[its,r,pl,_]:=I.list hl;have hl:=pl.isList;have hits:=vT r;have hlt:p<s.heap.objs.size:=by let#[_,e,_]:=hl;erw[aV e]
 refine call_all_walk (kP hl ?_);refine#[s.heap.objs.size,[s.heap.objs.size,p],[s.heap.objs.size],its.toArray.size,_,_,λi=>(bs[i]?).getD ζ,rfl,F4 (A:=X.A.in1) (I.ok.hd hc) _ p (bb hlt) its.toArray,
  #[#[_,bg _ rfl,rfl,rfl],hl.push _],λi v s' Q' E' hP hQ=>?_,λh' tk hk=>?_]
 .have hP:its[i]?=ξ v:=by simpa using hP
  rw[hits,ar] at hP;cases e:bs[i]? with
  |none=>rw[e] at hP;cases hP
  |some b=>
   rw[e] at hP;have hQ:Q' ((bs[i]?).getD ζ) s':=hQ;rw[e] at hQ;cases hP;erw[dA hQ]
 .have e:((bO its.toArray.size).all λi=>(bs[i]?).getD ζ)=bs.all id:=by
   rw[aH,hits,ae];erw[LSm.range_all bs]
  rw[e]
  exact#[.bl _,H,I.kept (A9 hk),rfl,q]
def EV:∀{is:List Int}{us:List Value},Vals (is.map V.int) us->∃ps:List (Int×Tok),us=ps.map (λp=>lS p.1 p.2)/\ps.map (·.1)=is
 |[],_,.nil=>#[[],rfl,rfl]
 |i::is,_,.cons (b:=u) r h=>by
  let#[t,e]:=(show ∃t,u=lS i t from r)
  subst e;let#[ps,e1,e2]:=EV h;exact#[(i,t)::ps,by rw[e1];rfl,by rw[aw,e2]]
def DG(hc:X.calm=ζ):iP X (.builtin "sum") (λxs H Q=>∃p,∃is:List Int,xs=[.ref p]/\iS X.K H p (is.map V.int)/\Q (.int is.sum) H):=by
 k_ne;let#[p,is,rfl,hl,q]:=h;let#[u,rfl,ru]:=vals1 r;cases ru;let#[its,r,pl,_]:=I.list hl;let#[ps,e1,e2]:=EV r;have hl:s.heap.IsList p (intItems ps.toArray):=by
  have:=pl.isList;rw[e1] at this;simpa[intItems] using this
 rwa[sum_intListG (I.ok.hd hc) hl λh' tk t' hk=>#[.int is.sum,H,I.kept hk,#[t',?_],q]]
 rw[preSum_eq,gE (#v[])]
 simp[e2]
def Ji:iq X (bF .In) (λx y H Q=>∃a k r,x=.str k/\y=.ref a/\(∃es n,X.K.lookup a=ξ #[.type "dict",ψ,.dict es n,#[]]/\CC X.w.params es.toList)/\(a==cu)=ϑ/\nsIn X.K a k=ξ r/\Q (.bl r.isSome) H):=by
 z_go;let#[a,k,r,rfl,rfl,#[es,n,lk,kl],lo,e,q]:=h;let#[t,rfl]:=rx;cases ry;erw[wpAny_in_of (strKind_is X.prog X.w k t) lo (mapOf_K (prog:=X.prog) (w:=X.w) I.zk lk kl) (by rw[find_K lk e];exact#[.bl _,H,I.tok _,rfl,q])]
end
section
variable{X:Cx}{pZ:List (Addr×Obj)}{σ:List (Option V)}{H:Hp}{s:aE}{h':Heap}
def Inv.Rb(I:Inv X pZ σ H s)(k:∀b o,b≠X.env.locals->s.heap.get? b=ξ o->h'.get? b=ξ o)(h1:s.heap.Ns X.env.locals m)(h2:h'.Ns X.env.locals m):Inv X pZ σ H {s with heap:=h',toks:=t'}:=by
 have nL:∀b u,H b=ξ u->b≠X.env.locals:=λb u e z=>by rw[z,I.free] at e;cases e
 refine I.step (g':=s.gens) (d':=s.drawn) (ch:=[]) (λ_ z=>nomatch z) (λb o hL _ _ e _=>k b o hL e) (λb o hL _ _ e _=>#[o.slots,k b o hL e]) (λ_ _ _ _ n=>n)
  (λb o _ e=>?_) (λ_ _ e=>e) (λ_ _ _ e=>e) (λb ps e=>#[#[],by rw[e];simp]) (λm' hm=>?_) (λb u e=>?_) I.bare
 .by_cases z:b=X.env.locals
  .let#[o',_,_,ho,_]:=h2
   exact#[o',%[z|ho]]
  .exact#[o,k b o z e]
 .rw[hm.eq_nsMap,<-h1.eq_nsMap];erw[h2]
 .refine(I.dQ b u e).C5 (λc v hc q=>k c v ?_ q) (λ_ q=>q) λ_ _ q=>q
  rcases hc with z|z
  .rw[z];erw[nL b u e]
  .erw[nL c _ z]
end
section
variable{X:Cx}
abbrev BH(t:List Nat)(ts:List (List Nat)):List Nat:=ts.foldl (λb x=>if x.length<b.length then x else b) t
def EW:∀{ts:List (List Nat)}{us:List Value},Vals (ts.map λt=>V.str (tx t)) us->us.length=ts.length/\∀(i:Nat)v,us[i]?=ξ v->∃t k,ts[i]?=ξ t/\v=lT (tx t) k
 |[],_,.nil=>#[rfl,λi v h=>by simp at h]
 |t::ts,_,.cons (b:=u) r h=>by
  let#[k,e]:=(show ∃k,u=lT (tx t) k from r)
  subst e;let#[e1,e2]:=EW h;refine#[by simp[e1],λi v q=>?_];cases i with
  |zero=>simp at q;exact#[t,k,rfl,q.symm]
  |succ i=>exact e2 i v (~~~q)
def u6(b:List Nat):∀(ts:List (List Nat))(i:Nat)(t:List Nat),(b::ts)[i]?=ξ t->(∀j u,(b::ts)[j]?=ξ u->t.length<=u.length/\(j<i->t.length<u.length))->BH b ts=t
 |[],i,t,h,_=>by
  cases i with
  |zero=>simp at h;erw[h]
  |succ i=>simp at h
 |x::ts,i,t,h,m=>by
  show BH (if x.length<b.length then x else b) ts=t
  have mb:=m 0 b rfl;have mx:=m 1 x rfl;by_cases z:x.length<b.length
  .rw[if_pos z]
   cases i with
   |zero=>simp at h;subst h;omega
   |succ i=>
    refine u6 x ts i t (~~~h) λj u hj=>?_
    have:=m (j+1) u (~~~hj);exact#[this.1,λq=>this.2 ∅]
  .rw[if_neg z]
   cases i with
   |zero=>
    simp at h;subst h;rwa[u6 b ts 0 b rfl λj u hj=>#[?_,λq=>∅]]
    cases j with
    |zero=>simp at hj;subst hj;erw[ao _]
    |succ j=>exact(m (j+2) u (~~~hj)).1
   |succ i=>
    cases i with
    |zero=>simp at h;subst h;have:=mb.2 ∅;omega
    |succ i=>
     refine u6 b ts (i+1) t (~~~h) λj u hj=>?_
     cases j with
     |zero=>simp at hj;subst hj;exact#[mb.1,λ_=>mb.2 ∅]
     |succ j=>
      have:=m (j+2) u (~~~hj);exact#[this.1,λq=>this.2 ∅]
def BI(hc:X.calm=ζ)(I:Inv X pZ σ H s)(hl:iS X.K H p ((t::ts).map λt=>V.str (tx t)))
  (hz:∀u∈t::ts,u.length<=1000000) (q:Q (.str (tx (BH t ts))) H){E:Value->aE->Prop}:
  wpAny (bf X.prog X.w) X.A (call (.builtin "min") [.ref p] [(cv "key",.builtin "len")]) (EP X pZ σ Q) E s:=by
 let#[its,r,pl,_]:=I.list hl;let#[e1,e2]:=EW r;let#[m,F]:=I.fr;have kp:∀h,Fr X.base X.env.locals h m->News X.base X.env.locals h (rL X.base s.heap X.env.locals)->∀b o,b≠X.env.locals->s.heap.get? b=ξ o->h.get? b=ξ o:=λh F' N' b o hb e=>by
  cases z:X.base.get? b with
  |some o'=>have:=I.bk b o' z;rw[e] at this;cases this;erw[F'.keep b _ z]
  |none=>exact(N' (b,o) (Bl hb z e)).1
 let#[ol,hol,hc1,n1,hd1]:=pl.isList;have pL:p≠X.env.locals:=λe=>by
  let#[o',es,ep,ho',hd',_]:=F.ns;rw[<-e,hol] at ho';cases ho';rw[hd1] at hd';cases hd'
 rwa[kmb_min (kid:="len") (vs:=its) (news:=rL X.base s.heap X.env.locals) (λi=>(((t::ts)[i]?).getD []).length) (I.ok.hd hc) F Io (λh F' N'=>?_) (by rw[e1];simp) (λi v hv h tk own F' N'=>?_) (λi v h' tk' hv hb F' N'=>?_)]
 .exact#[ol,kp h F' N' p ol pL hol,hc1,n1,hd1]
 .let#[u,k,hu,rfl]:=e2 i v hv
  have hn:=pj;have hu':=hz u (ag hu);rwa[len_str (by rw[dU];omega) ?_];rw[hu,fS,dU]
  erw[KskEnd.intro F' N' λp hp=>hp]
 .let#[u,k,hu,rfl]:=e2 i v hv
  have eb:BH t ts=u:=u6 t ts i u hu λj w hj=>by
   have hj':j<its.length:=by rw[e1];exact(ab.mp hj).1
   have:=hb j hj';rw[hu,hj] at this;dsimp[fS] at this;exact#[∅,λq=>by have:=this.2 q;omega]
  rw[eb] at q;refine#[.str (tx u),H,?_,#[k,rfl],q];rwa[I.Rb (λb o hb e=>?_) F.ns F'.ns];erw[kp h' F' N' b o hb e]
def GJ(hc:X.calm=ζ)(hg:Gl X "min")(hm:X.mg "min"=ψ)(hg2:Gl X "len")(hm2:X.mg "len"=ψ)(ha:PE X e te)(hs:bD [e] X.env=[(ϑ,eval e X.env)]:=by rfl):
  PE X (.Call (.Name "min" p) [e] [#[ξ "key",.Name "len" pl,kp]] pos) (λσ H Q=>te σ H λv H1=>∃a t ts,v=.ref a/\iS X.K H1 a ((t::ts).map λt=>V.str (tx t))/\(∀u∈t::ts,u.length<=1000000)/\Q (.str (tx (BH t ts))) H1):=by
 w_up;rwa[fD (qP I hg hm boot_min ?_)];rwa[callWith_kw (e:=e) (rest:=[]) ?_ (by rw[hs];rfl) (by rw[hs];rfl)];rw[hs]
 rwa[jw (eY (ha pZ s σ H _ I h) λu s1 h9=>?_)];let#[x,H1,I1,r1,a,t,ts,e2,hl,hz,q]:=h9;rwa[mU ?_];subst e2;cases r1;rwa[kws_cons (qP I1 hg2 hm2 Mg (kws_nil ?_))];erw[BI hc I1 hl hz q]
end
section
variable{X:Cx}{pZ:List (Addr×Obj)}{σ:St}{H:Hp}{s:aE}
def Inv.Nk{ch:List Addr}{h':Heap}{t':Nat}{a:Addr}{o:HO}(I:Inv X pZ σ H s)(k:∀b u,b∉ch->s.heap.get? b=ξ u->h'.get? b=ξ u)(hf:∀b∈ch,uO X pZ H b)(hp:s.heap.objs.size<=a)
  (new:dZ X.prog X.w (upd H a o) h' a o):Inv X pZ σ (upd H a o) {s with heap:=h',toks:=t'}:=by
 have hn:=I.dQ.fresh hp;have na:∀b u,s.heap.get? b=ξ u->b≠a:=λb u e z=>absurd (aD (aV e) hp) (%[z|cC _])
 have nt:∀b u,H b=ξ u->b∉ch:=λb u e z=>by rw[(hf b z).1] at e;cases e
 have tr:∀b u,H b=ξ u->upd H a o b=ξ u:=λb u e=>%[cw (dO e hn)|e]
 refine I.step (g':=s.gens) (d':=s.drawn) (ch:=ch) (λb hb=>?_) (λb u _ _ hc e _=>k b u hc e) (λb u _ _ hc e _=>#[u.slots,k b u hc e]) (λb u _ e n=>by rw[cw (na b u e)];exact n)
  (λb u hc e=>#[u,k b u hc e]) (λb _ e=>tr b _ e) (λb _ _ e=>tr b _ e) (λb ps e=>#[#[],by rw[tr b _ e];simp]) (λm hm=>?_) (λb u e=>?_) I.bare
 .let#[f0,f1,f2,f3,f4,f5]:=hf b hb
  exact#[f3,f1,f4,f5]
 .let#[q,es,ep,ho,r]:=hm
  exact#[q,es,ep,k _ q (λz=>(hf _ z).2.1 rfl) ho,r]
 .by_cases hb:b=a
  .subst hb;rw[b9] at e;cases e;erw[new]
  .rw[cw hb] at e
   refine(I.dQ b u e).C5 (λc v hc q=>k c v ?_ q) (λc q=>tr c _ q) λc xs q=>tr c _ q
   rcases hc with z|z
   .rw[z];erw[nt b u e]
   .erw[nt c _ z]
abbrev Yx(K:aM)(a:Addr):It:=
 #[λi H=>∃xs x,iS K H a xs/\xs[i]?=ξ x,λi H y H'=>∃p x,H p=ψ/\y=.ref p/\H'=upd H p (.tup [.int i,x])/\∀xs,iS K H a xs->xs[i]?=ξ x,λi H=>∃xs,iS K H a xs/\xs.length<=i]
def GK{P:bQ}{w:cG}{K:aM}{es:List Expr}{k:Nat}{pos:Pos}(a e it:Addr)(hne:e≠it):
  Turn P w K (.Tuple es k pos) (Yx K a) [e,it] e (λi h=>(∃old,IsEnum h e it i old)/\h.IsListIter it a i) where
 mem:=by simp
 obj:=λi h st b hb=>by
  let#[#[old,h1],o,h2,c,d]:=st;rcases aR.mp hb with rfl|hb
  .exact#[_,h1,λv z=>by cases z]
  .have e:b=it:=by simpa using hb
   subst e;exact#[o,h2,λv z=>by rw[d] at z;cases z]
 keep:=λi h h' st k=>by
  let#[#[old,h1],h2]:=st;exact#[#[old,k e (#v[]) _ h1],h2.at λo q=>k it (#v[]) o q]
 item:=by
  k_go;subst hP hw hK;let#[xs,x,hq,hx]:=hg;let#[its,rv,p,hz]:=I.list hq;let#[u,hu,ru]:=rv.get hx;let#[#[old,h1],h2]:=st;refine wpAny_pyNext_enum_item h1 h2 p.isList (x:=u) (~~~hu) hne λh' ho hit' hT hsz hk=>?_
  refine#[_,rfl,wpAny_letOwnedTupleGo_enum ho λh'' he'' sb=>?_];have hel:e<s.heap.objs.size:=aV h1;have nT:s.heap.objs.size≠e:=dJ hel;have k2:∀b v,b∉[e,it]->s.heap.get? b=ξ v->h''.get? b=ξ v:=λb v hb q=>by
   dsimp[aR,cA,or_false,not_or] at hb;exact(sb.2 b hb.1).trans (hk b v hb.1 hb.2 q)
  have hfr:=I.fresh;refine#[.ref s.heap.objs.size,upd H s.heap.objs.size (.tup [.int i,x]),I.Nk (t':=s.toks+1) (h':=h'') k2 hf (ao _) ?_,rfl,#[_,x,hfr,rfl,rfl,λys hy=>%[I.vy hy hq|hx]],?_,λb hb=>?_]
  .exact#[show 2<=sizeLine by decide,[.int i s.toks,u],.cons #[_,rfl] (.cons ru .nil),_,(sb.2 _ nT).trans hT,rfl,#[_,rfl],rfl]
  .exact#[#[u,~~~he''],hit'.at λo q=>(sb.2 it hne.symm).trans q]
  .rw[cw]
   .exact(hf b hb).1
   .intro z
    let#[f0,_]:=hf b hb;rcases aR.mp hb with q|hb
    .erw[nT (z▸q.symm▸rfl)]
    .have q:b=it:=by simpa using hb
     let#[o,h3,_]:=h2;have:=aV h3;rw[<-q,z] at this;erw[cC _ this]
 done:=by
  k_go;subst hP hw hK;let#[xs,hq,hx]:=hg;let#[its,rv,p,hz]:=I.list hq;let#[#[old,h1],h2]:=st;have hl:=rv.length;let#[f0,f1,f2,f3,f4,f5]:=hf it (#v[]);erw[wpAny_pyNext_enum_end (I.ok.hd hc) h1 h2 p.isList ((·)) λh' eb=>#[rfl,I.turned (t':=s.toks) (λb o hb e=>eb b o hb e) f0 f1 f3 f4 f5]]
 self:=λ_ _ _ _ _ st h=>by
  let#[#[old,h1],h2]:=st;erw[wpAny_pyIter_enum h1 h]
abbrev VP(K:aM)(ta:TA):TI:=λσ H R=>ta σ H λvs H1=>∃a,vs=[.ref a]/\(∃xs,iS K H1 a xs)/\R (Yx K a) H1
def Nl{X:Cx}{a:Expr}{ta:TA}{p pos:Pos}{es:List Expr}{k:Nat}{tp:Pos}(hg:Gl X "enumerate")(hm:X.mg "enumerate"=ψ)(ha:PA X [a] ta)(hs:bD [a] X.env=[(ϑ,eval a X.env)]:=by rfl):
  PI X (.Tuple es k tp) (.Call (.Name "enumerate" p) [a] [] pos) (VP X.K ta):=by
 intro pZ s σ H R I h;rwa[Call_ (qP I hg hm boot_enumerate (ki (eY (ha pos pZ s σ H _ I h) λus s1 h9=>?_) hs rfl))];let#[vs,H1,I1,r1,q1]:=h9;let#[l,e,#[xs,hq],q]:=q1;subst e;cases r1 with
 |cons r rr=>
  cases rr;cases r;let#[its,rv,p,hz]:=I1.list hq;rwa[call_enumerate_list p.isList λh' hE hI hsz hk=>wpAny_pyIter_enum hE ?_]
  have I2:Inv X pZ σ H1 {s1 with heap:=h'}:=I1.kept (t':=s1.toks) λb o e=>hk b o e
  refine#[_,[s1.heap.objs.size+1,s1.heap.objs.size],_,Yx X.K l,H1,rfl,I2,GK l _ _ (Nat.succ_ne_self _),#[#[_,hE],hI],λb hb=>?_,q];rcases aR.mp hb with e|hb
  .subst e
   erw[I1.C6 (iR _) (I1.dQ.fresh (iR _))]
  .have e:b=s1.heap.objs.size:=by simpa using hb
   subst e;erw[I1.C6 (ao _) (I1.dQ.fresh (ao _))]
end
def zM:typeLookup (.type "list") "keys"=pure ψ:=by rw[typeLookup_type,builtinLookup_eq_fast];kernel_rfl
def pX:plainId "dict.update.loop"=ζ:=by decide +kernel
def yn:entryFor table "dict.update.loop"=ξ Builtin.«dict.update.loop»:=entryFor_of_tree (by kernel_rfl)
section
variable{prog:bQ}{w:cG}{A:eD}{E:Value->aE->Prop}{s:aE}{a l it D:Addr}{its:Array Value}{n:Nat}{K:Type}[DecidableEq K]{knd:KeyKind prog w K}
def GL(hx:s.heap.get? a=ξ {cls:=.type "list",data:=.seq its n})(hA:A.handled=ψ)
  (hq:∀h' t',(∀b o,s.heap.get? b=ξ o->h'.get? b=ξ o)->Q ψ {s with heap:=h',toks:=t'}):wpAny (bf prog w) A (getAttr? (.ref a) "keys") Q E s:=by
 let#[h,g,d,t,os]:=s;have hT:(#[h,g,d,t,os]:aE).TypeIs (.ref a) "list":=#[_,hx,rfl]
 have f1:=sub_AttributeError;have f3:=oR.lookup;have f4:=oR.bind (.ref a);have f5:=am_list_getattr_none;unfold getAttr? getAttrBy? getAttrBy
 repeat (any_goals (first|assumption| ((with_reducible show wpAny _ _ (call (Value.builtin "list.__getattribute__") _ _) _ _ _);refine vp oR (show Shared.TypeIs _ _ "list" from #[_,hx,rfl]) am_entry_list_getattribute (F.args_list_getattribute_2 _ _) (meets_getattribute_miss_list a its n #[] "keys" _ zM (by decide +kernel)) #[hx,hA,λh' tk' e hx'=>?_])|wp_step))
 let#[t',u',he]:=hx'.there;show wpAny _ _ (getattributeRaised _ _ _ _ _ _ _) _ _ _;unfold getattributeRaised
 repeat (any_goals (first|assumption|wp_step))
 erw[hq _ _ hx'.keeps]
def tR{h:Heap}{a b:Addr}{o u:Obj}(ha:h.get? a=ξ o)(hb:h.get? b=ξ u)(n:o.cls≠u.cls):a≠b:=λe=>by
 rw[e,hb] at ha;cases ha;erw[n rfl]
def GN{R:Result->aE->Prop}{more:List (K×Value)}{res:Value}(hh:A.handled=ψ)(hz:its.size=more.length):∀(k i:Nat)(s:aE)(acc:List (K×Value)),more.length-i=k->i<=more.length->s.heap.IsListIter it l i->s.heap.IsList l its ->
  (∀(j:Nat)(kk:K)(v:Value),more[j]?=ξ (kk,v)->∃T key,its[j]?=ξ (.ref T)/\s.heap.IsTuple T (List.toArray [key,v])/\knd.is kk key=ζ)->s.heap.DictOf knd D acc->acc.length+k<=sizeLine ->
  (∀h' t',h'.DictOf knd D (merged acc (more.drop i))->(∀b o,b≠D->b≠it->s.heap.get? b=ξ o->h'.get? b=ξ o)->R (.ok (.ret res)) {s with heap:=h',toks:=t'}) ->
  qN (bf prog w) A (.builtin "dict.update.loop" #[[bu D,bu it,tf i,res],[]]) R s:=by
 intro k;induction k with
 |zero=>
  intro i s acc hk hi hit hl hp hd hs hR;have hin:i=more.length:=∅
  rwa[codeAny_builtin yn ?_];rw[CI pX _]
  show wpAny _ A.in1 (yV (.ref it)>>=_) _ _ s
  let#[oi,hoi,ci,di]:=id hit;let#[od,es,ep,hod,hcd,r]:=id hd;have nd:D≠it:=tR hod hoi (by rw[hcd.1,ci];decide);rwa[af (LN hh hit hl (by rw[hin,<-hz];simp) λh' eb=>?_)];rwa[af (aB (aB ?_))];rwa[hR h' s.toks ?_ λb o _ hb e=>eb b o hb e]
  rw[hin,LP]
  exact#[od,es,ep,eb D od nd hod,hcd,r]
 |succ k ih=>
  intro i s acc hk hi hit hl hp hd hs hR;have lt:i<more.length:=∅
  obtain⟨⟨kk,v⟩,hkv⟩:∃p,more[i]?=ξ p:=#[_,aa lt]
  let#[T,key,hT,ht,hk']:=hp i kk v hkv;rwa[codeAny_builtin yn ?_];rw[CI pX _]
  show wpAny _ A.in1 (yV (.ref it)>>=_) _ _ s
  let#[oi,hoi,ci,di]:=id hit;let#[od,es,ep,hod,hcd,r]:=id hd;let#[ol,hol,cl,dl]:=id hl;have nd:D≠it:=tR hod hoi (by rw[hcd.1,ci];decide);have nl:l≠it:=tR hol hoi (by rw[cl,ci];decide);have nld:l≠D:=tR hol hod (by rw[cl,hcd.1];decide);have nt:∀{T:Addr}{vs:Array Value},s.heap.IsTuple T vs->T≠it/\T≠D:=λ⟨ot,hot,ct,_⟩=>#[tR hot hoi (by rw[ct,ci];decide),tR hot hod (by rw[ct,hcd.1];decide)]
  rwa[af (HV hit hl hT λh1 hit1 sb1=>?_)];let#[ot,hot,ct,nn,dt]:=id ht;have hot1:h1.get? T=ξ ot:=(sb1.2 T (nt ht).1).trans hot;rwa[af (fY (af (wpAny_tryCatch ?_)))];unfold Builtin.Dict.pairItems;rwa[af (HX (T:="tuple") #[ot,hot1,ct] ?_)];rw[if_pos ⋯]
  rwa[af (CS hot1 dt (aB ?_))];show wpAny _ A.in1 (holding [key,v] (dictSet D key v)) _ _ _;rwa[fY (fY (af (knd.pyHash hk' ?_)))];have hd1:h1.DictOf knd D acc:=#[od,es,ep,(sb1.2 D nd).trans hod,hcd,r]
  rwa[wpAny_dictSetHashed_pairs hk' hd1 (λh2 hd2 sb2=>aB #[plainId_quiet pX _,?_]) ∅];have kp:∀b o,b≠D->b≠it->s.heap.get? b=ξ o->h2.get? b=ξ o:=λb o n1 n2 e=>(sb2.2 b n1).trans ((sb1.2 b n2).trans e)
  have e1:(tf ((i:Int)+1))=tf ((i+1:Nat):Int):=by push_cast;rfl
  rw[e1]
  refine ih (i+1) _ (vq acc kk v) ∅ lt (hit1.at λo e=>(sb2.2 it nd.symm).trans e) #[ol,kp l ol nld nl hol,cl,dl] (λj kk v e=>?_) hd2 ?_ λh' t' hd' kp'=>?_
  .let#[T,key,q1,#[ot,hot,r],q3]:=hp j kk v e
   exact#[T,key,q1,#[ot,kp T ot (nt #[ot,hot,r]).2 (nt #[ot,hot,r]).1 hot,r],q3]
  .have:(vq acc kk v).length<=acc.length+1:=by
    unfold vq;split
    .rw[ae];omega
    .rw[aq];simp
   omega
  .rwa[hR h' t' ?_ λb o n1 n2 e=>kp' b o n1 n2 (kp b o n1 n2 e)]
   rw[fw lt]
   have:more[i]=(kk,v):=by rw[aa lt] at hkv;erw[aG hkv]
   rw[this]
   erw[hd']
def DH{more:List (K×Value)}{Q:Value->aE->Prop}(hh:A.handled=ψ)(hl:s.heap.get? l=ξ {cls:=.type "list",data:=.seq its n})(hz:its.size=more.length)(hm:more.length<=sizeLine)
  (hp:∀(j:Nat)(kk:K)(v:Value),more[j]?=ξ (kk,v)->∃T key,its[j]?=ξ (.ref T)/\s.heap.IsTuple T (List.toArray [key,v])/\knd.is kk key=ζ)
  (h:∀h' t',h'.DictOf knd s.heap.objs.size (merged [] more)->(∀b o,s.heap.get? b=ξ o->h'.get? b=ξ o)->Q (.ref s.heap.objs.size) {s with heap:=h',toks:=t'}):
  wpAny (bf prog w) A (call (.type "dict") [.ref l]) Q E s:=by
 refine callType_codes (Q₁:=λobj s₁=>obj=.ref s.heap.objs.size/\s₁={s with heap:=s.heap.push {cls:=.type "dict",data:=.dict #[]} }) F.kt_called_dict (F.kt_typeCall_dict_1 _) F.entry_dict_init (kt_code_dict_new _ #[rfl,rfl]) ?_;rintro obj s₁ ⟨rfl,rfl⟩;have hnew:(s.heap.push {cls:=.type "dict",data:=.dict #[]}).DictOf knd s.heap.objs.size []:=Cy s.heap;have kp:∀b o,s.heap.get? b=ξ o->(s.heap.push {cls:=.type "dict",data:=.dict #[]}).get? b=ξ o:=λb o e=>aL _ e
 generalize s.heap.push {cls:=.type "dict",data:=.dict #[]}= h1 at hnew kp;refine#[hnew.typeIs,F.args_dict_init_2 _ _,?_];unfold Builtin.«dict.__init__»;rwa[af ?_];unfold Builtin.Dict.selfAndRest;rwa[af (rH hnew.typeIs ?_)];show wpAny _ _ (pure (s.heap.objs.size,[bu l])) _ _ _;rwa[aB ?_];show wpAny _ _ (Builtin.Dict.updateFrom "dict.__init__" s.heap.objs.size (.ref l) [] .none) _ _ _;unfold Builtin.Dict.updateFrom;rwa[af (HX (T:="list") #[_,kp l _ hl,rfl] ?_)];rw[if_pos ⋯]
 rwa[af (GL (kp l _ hl) hh λh2 t2 k2=>?_)];rw[if_pos (by rfl)]
 refine af (qK ?_);have hl2:=k2 l _ (kp l _ hl);refine af (kP #[_,hl2,rfl,_,rfl] (aB #[plainId_quiet pX _,?_]));have nD:s.heap.objs.size<h2.objs.size:=by
  let#[od,_,_,hod,_]:=hnew;erw[aV (k2 _ _ hod)]
 have kp3:∀b o,s.heap.get? b=ξ o->(h2.push {cls:=.type "list_iterator",data:=.fields (List.toArray [.ref l,.int 0 0])}).get? b=ξ o:=λb o e=>aL _ (k2 b o (kp b o e))
 refine GN (A:=A.in1) (knd:=knd) (its:=its) (l:=l) hh hz more.length 0 _ [] ∅ (bI _) ?_ ?_ (λj kk v e=>?_) ?_ (~~~hm) λh' t' hd' kp'=>?_
 .exact#[_,bg _ rfl,rfl,rfl]
 .exact#[{cls:=.type "list",data:=.seq its n},aL _ hl2,rfl,n,rfl]
 .let#[T,key,q1,#[ot,hot,r],q3]:=hp j kk v e
  exact#[T,key,q1,#[ot,kp3 T ot hot,r],q3]
 .let#[od,es,ep,hod,r]:=hnew
  exact#[od,es,ep,aL _ (k2 _ _ hod),r]
 .refine#[rfl,h h' t' hd' λb o e=>kp' b o ?_ ?_ (kp3 b o e)]
  .erw[bb (aV e)]
  .erw[bb (aV (k2 b o (kp b o e)))]
end
section
variable{X:Cx}{pZ:List (Addr×Obj)}{σ:St}{H:Hp}{s:aE}
@[reducible]def Rc(H:Hp)(v:V)(kv:Key×V):Prop:=∃T,v=.ref T/\H T=ξ (.tup [kV kv.1,kv.2])
def Nm(I:Inv X pZ σ H s):∀{vs:List V}{kvs:List (Key×V)}{its:List Value},Paired (Rc H) vs kvs->Vals vs its->∃more,KV kvs more/\its.length=more.length /\
  ∀(j:Nat)(kk:Key)(v:Value),more[j]?=ξ (kk,v)->∃T key,its[j]?=ξ (.ref T)/\s.heap.IsTuple T (List.toArray [key,v])/\(dv X.prog X.w).is kk key=ζ
 := by
 intro vs kvs its hp hv;induction hp generalizing its with
 |nil=>cases hv;exact#[[],.nil,rfl,λj kk v e=>by cases e]
 |cons ha hr ih=>
  rename_i b _ _;let#[k,x]:=b;let#[T,e,hT]:=ha;cases hv with|cons r rr=>?_
  subst e;cases r;let#[more,h1,h2,h3]:=ih rr;let#[z,its',rv,p]:=I.dQ T _ hT;cases rv with
  |cons r1 rr1=>
   rename_i ku us';cases rr1 with
   |cons r2 rr2=>
    rename_i xu _;cases rr2;refine#[(k,xu)::more,.cons #[rfl,r2] h1,by simp[h2],λj kk v e=>?_];cases j with
    |zero=>
     simp at e;let#[rfl,rfl]:=e;exact#[T,ku,rfl,p.tup,rW r1]
    |succ j=>simpa using h3 j kk v (~~~e)
def DI(hA:X.A.handled=ψ):iP X (.type "dict") (λxs H Q=>∃a vs kvs,xs=[.ref a]/\H a=ξ (.lst vs)/\Paired (Rc H) vs kvs/\(kvs.map (·.1)).Nodup/\∀p,H p=ψ->Q (.ref p) (upd H p (.dK kvs))):=by
 intro pZ s σ H xs us Q I rv h;let#[a,vs,kvs,rfl,hH,hp,hn,q]:=h;let#[u,rfl,ru]:=rv.one;cases ru;let#[z,its,n,r,hl,e]:=I.Dq hH;let#[more,h1,h2,h3]:=Nm I hp r;have hk:=h1.keys;refine DH (knd:=dv X.prog X.w) (more:=more) hA e (~~~h2) (by rw[<-h2,<-hl];erw[z]) (λj kk v ej=>?_) λh' t' hd kp=>?_
 .let#[T,key,q1,q2,q3]:=h3 j kk v ej
  exact#[T,key,~~~q1,q2,q3]
 .rw[merged_nil_of_nodup more (by rw[<-hk];erw[hn])] at hd
  have hf:=I.fresh;refine#[.ref s.heap.objs.size,_,I.laid (t':=t') kp (ao _) (zz (kvs:=kvs) (by rw[h1.length,<-h2,<-hl];erw[z]) ?_ h1 hd),rfl,q _ hf];have:=I.big;erw[beq_eq_false_iff_ne.mpr (dJ this)]
end
section
variable{X:Cx}
def u7(hi:0<=i)(hj:0<=j):Builtin.bitAnd i j=((i.toNat&&&j.toNat:Nat):Int):=by
 unfold Builtin.bitAnd;rw[decide_eq_true hi,decide_eq_true hj]
def DJ(hi:0<=i)(hj:0<=j):Builtin.bitOr i j=((i.toNat|||j.toNat:Nat):Int):=by
 unfold Builtin.bitOr Builtin.bitAnd Builtin.bitNot;rw[decide_eq_false ∅,decide_eq_false ∅,show -(-i-1)-1=i by omega,show -(-j-1)-1=j by omega]
 dsimp only;omega
def GO:AX X "int.bit_length" (λx xs H Q=>∃i:Nat,x=.int i/\xs=[]/\Q (.int (if i=0 then 0 else i.log2+1:Nat)) H):=by
 intro pZ s σ H x xs v us Q I rx rs h;let#[i,rfl,rfl,q]:=h;let#[t,rfl]:=rx;cases rs;refine call_int_bit_length #[.int _,H,I.tok _,#[_,rfl],?_];have:Builtin.Int.intBits i=if i=0 then 0 else i.log2+1:=by
  unfold Builtin.Int.intBits;by_cases e:i=0
  .subst e;rfl
  .rw[if_neg e,if_neg (~~~e)];rfl
 rw[this]
 erw[q]
def Jj:iq X (cV .Add) (λx y H Q=>∃a b ys,x=.ref a/\y=.ref b/\lD X.K H a []/\lD X.K H b ys/\Q (.ref b) H):=by
 z_go;let#[a,b,ys,rfl,rfl,ha,hb,q]:=h;cases rx;cases ry;let#[its,r1,p1,_]:=I.tuple ha;let#[its2,r2,p2,_]:=I.tuple hb;cases r1;let#[#[cls,dd,data,sl],ho,hc,n,hd]:=id p1;let#[#[cls2,dd2,data2,sl2],ho2,hc2,n2,hd2]:=id p2;simp only at hc hd hc2 hd2;subst hc hd hc2 hd2;exact HW #[_,ho,rfl] #[_,ho2,rfl] y8 FR nO mY (mK _ _)
  (tuple_addW0 a b _ _ n n2 dd dd2 sl sl2 (#v[])) #[ho,ho2,#[.ref b,H,I,rfl,q]]
def DK(hc:X.calm=ζ):iP X (.builtin "any") (λxs H Q=>∃p,∃bs:List Bool,xs=[.ref p]/\iS X.K H p (bs.map V.bl)/\Q (.bl (bs.any id)) H):=by
 k_ne;let#[p,bs,rfl,hl,q]:=h;let#[u,rfl,ru]:=vals1 r;cases ru;let#[its,r,pl,_]:=I.list hl;have hl:=pl.isList;have hits:=vT r;have hlt:p<s.heap.objs.size:=by let#[_,e,_]:=hl;erw[aV e]
 refine call_any_walk (kP hl ?_);refine#[s.heap.objs.size,[s.heap.objs.size,p],[s.heap.objs.size],its.toArray.size,_,_,λi=>(bs[i]?).getD ϑ,rfl,F4 (A:=X.A.in1) (I.ok.hd hc) _ p (bb hlt) its.toArray,
  #[#[_,bg _ rfl,rfl,rfl],hl.push _],λi v s' Q' E' hP hQ=>?_,λh' tk hk=>?_]
 .have hP:its[i]?=ξ v:=by simpa using hP
  rw[hits,ar] at hP;cases e:bs[i]? with
  |none=>rw[e] at hP;cases hP
  |some b=>
   rw[e] at hP;have hQ:Q' ((bs[i]?).getD ϑ) s':=hQ;rw[e] at hQ;cases hP;erw[dA hQ]
 .have e:((bO its.toArray.size).any λi=>(bs[i]?).getD ϑ)=bs.any id:=by
   rw[aH,hits,ae];erw[LSm.range_any bs]
  rw[e]
  exact#[.bl _,H,I.kept (A9 hk),rfl,q]
def GQ(hu:X.A.units+200<fH):iq X (bF .NotIn) (λx y H Q=>∃p xs ds d,y=.ref p/\iS X.K H p xs/\iZ X.K H xs ds/\pA X.K H x d/\Dv.lI ds<=100/\Q (.bl (!ds.any λe=>CM e d)) H):=by
 z_go;let#[p,xs,ds,d,rfl,hq,hd,hx,hz,q]:=h;cases ry;let#[its,r,pl,_]:=I.list hq
 classical
 have l1:=hd.len;have m1:=r.length
 let e:Value->Bool:=λu=>decide (∃(j:Nat)(d':Dv),its[j]?=ξ u/\ds[j]?=ξ d'/\CM d' d=ζ)
 have key:∀(j:Nat)(w:Value)(d':Dv),its[j]?=ξ w->ds[j]?=ξ d'->e w=CM d' d:=λj w d' h1 h2=>by
  have f:∃z,xs[j]?=ξ z:=#[_,aa (by have:=(ab.mp h2).1;omega)]
  let#[z,hz']:=f;let#[w',g1,q1]:=r.get hz';rw[h1] at g1;cases g1;cases q:CM d' d with
  |true=>erw[decide_eq_true #[j,d',h1,h2,q]]
  |false=>
   rwa[decide_eq_false ?_];rintro⟨j2,d2,k1,k2,k3⟩;have f2:∃z,xs[j2]?=ξ z:=#[_,aa (by have:=(ab.mp k2).1;omega)]
   let#[z2,hz2]:=f2;let#[w2,g2,q2]:=r.get hz2;rw[k1] at g2;cases g2;have ez:=RelV.inj q1 q2;subst ez;have:=pA.inj I (hd.get hz' h2) (hd.get hz2 k2);rw[this,k3] at q;cases q
 rwa[FU e pl.isList (λw hw=>?_) #[.bl _,H,I,rfl,?_]]
 .let#[j,hj]:=bq (show w∈its by simpa using hw)
  have hjl:=(ab.mp hj).1;have e1:ds[j]?=ξ (ds[j]'∅):=aa _;have e2:xs[j]?=ξ (xs[j]'∅):=aa _;let#[w',g1,q1]:=r.get e2;rw[hj] at g1;cases g1;rw[key j w _ hj e1]
  erw[Q9 I 100 (aI (tN e1) hz) (by show X.A.units+1+100<fH;omega) (hd.get e2 e1) hx q1 rx]
 .have:its.toArray.any e=ds.any λe=>CM e d:=by
   rw[List.any_toArray,cJ,iW,iW]
   constructor
   .rintro⟨w,hw,h1⟩
    let#[j,d',_,k2,k3]:=of_decide_eq_true h1;exact#[d',ag k2,k3]
   .rintro⟨d',hd',h1⟩
    let#[j,hj]:=bq hd';have hjl:=(ab.mp hj).1;have e1:its[j]?=ξ (its[j]'∅):=aa _;exact#[_,ag e1,%[key j _ d' e1 hj|h1]]
  rw[this]
  erw[q]
end
section
variable{X:Cx}
def BJ{val:Nat->Int}:∀k,argBest (λi j=>decide (val j<val i)) k<=k/\∀j,j<=k->val j<=val (argBest (λi j=>decide (val j<val i)) k)
 |0=>#[ao _,λj h=>%[Nat.le_zero.mp h|F5 _]]
 |k+1=>by
  let#[h1,h2]:=BJ (val:=val) k;unfold argBest;split
  .rename_i hb
   have hb:=of_decide_eq_true hb;refine#[ao _,λj hj=>?_];rcases uI k j with z|z
   .rw[show j=k+1 by omega];erw[F5 _]
   .erw[Int.le_of_lt (Int.lt_of_le_of_lt (h2 j z) hb)]
  .rename_i hb
   have hb:¬val (argBest _ k)<val (k+1):=λz=>hb (decide_eq_true z)
   refine#[nK h1,λj hj=>?_];rcases uI k j with z|z
   .rw[show j=k+1 by omega];omega
   .erw[h2 j z]
def EX:∀{is:List Int}{us:List Value},Vals (is.map V.int) us->us.length=is.length/\∀(i:Nat)v,us[i]?=ξ v->∃t,v=lS ((is[i]?).getD 0) t
 |[],_,r=>by rw[jX] at r;cases r;exact#[rfl,λi v e=>by simp at e]
 |k::ks,_,r=>by
  rw[aw] at r;cases r with
  |cons h t=>
   let#[h1,h2]:=EX t;refine#[by simp[h1],λi v e=>?_];cases i with
   |zero=>simp at e;subst e;erw[h]
   |succ i=>simp at e ⊢;erw[h2 i v e]
def DL(hc:X.calm=ζ):iP X (.builtin "max") (λxs H Q=>∃p,∃(i:Int)(is:List Int),xs=[.ref p]/\iS X.K H p ((i::is).map V.int)/\∀m∈i::is,(∀j∈i::is,j<=m)->Q (.int m) H):=by
 k_ne;let#[p,i,is,rfl,hl,q]:=h;let#[u,rfl,ru]:=vals1 r;cases ru;let#[its,r,pl,_]:=I.list hl;have hl:=pl.isList;let#[e1,e2]:=EX r;have hlt:p<s.heap.objs.size:=by let#[_,e,_]:=hl;erw[aV e]
 refine call_max_walk (kP hl ?_);refine#[s.heap.objs.size,[s.heap.objs.size,p],[s.heap.objs.size],its.toArray.size,_,_,_,rfl,F4 (A:=X.A.in1) (I.ok.hd hc) _ p (bb hlt) its.toArray,
  #[#[_,bg _ rfl,rfl,rfl],hl.push _],λb hb=>?_,by simp[e1],CmpOf.ints_gt (λk=>((i::is)[k]?).getD 0) (λk v hv=>e2 k v (~~~hv)),λv h' tk hP hk=>?_]
 .show b<(s.heap.push _).objs.size
  rw[iM]
  rcases aR.mp hb with z|z
  .rw[z];erw[cB _]
  .rw[aX.mp z];erw[ba hlt]
 .have hn:its.toArray.size-1=is.length:=by simp[e1]
  rw[hn] at hP;let#[b1,b2]:=BJ (val:=λk=>((i::is)[k]?).getD 0) is.length;have get:∀k,k<=is.length->∃m,(i::is)[k]?=ξ m/\((i::is)[k]?).getD 0=m:=λk hk=>by
   have e:=aa (l:=i::is) (i:=k) ((·));exact#[_,e,by rw[e];rfl]
  let#[m,g1,g2]:=get _ b1;let#[t,rfl]:=e2 _ v (~~~hP);refine#[.int m,H,I.kept (A9 hk),#[t,by rw[<-g2]],q m (ag g1) λj hj=>?_];let#[k,hk2,e]:=rq hj;have:=b2 k (by simp at hk2;omega);rw[<-g2]
  have e3:((i::is)[k]?).getD 0=j:=by rw[aa hk2,e];rfl
  rw[<-e3];erw[this]
def GU:iP X (.builtin "len") (λxs H Q=>∃a kvs,xs=[V.ref a]/\H a=ξ (.dP kvs)/\Q (.int kvs.length) H):=by
 k_ne;let#[a,kvs,rfl,ha,q]:=h;let#[u,rfl,ru]:=vals1 r;cases ru;let#[z,hd,ws,rel,dd]:=Pb I.dQ ha;have hT:=dd.typeIs;let#[o,es,ep,ho,hc,hdat,he,_]:=dd;have hsz:es.size=kvs.length:=by rw[A7 he,<-Paired.length rel]
 have h63:(kvs.length:Int)<2^63:=by rw[lV] at z;omega
 refine Calls.call_function_entry kind_len plain_len entry_len (args_len1 _) ?_;unfold Builtin.«len»;refine af (m:=oneArg "len" _) (aB ?_);refine af (m:=callSpecial? (.ref a) (cv "__len__")) (kj (name:=cv "__len__") hT AU
  (jv AU hT PySem.F.entry_dict_len ?_ (PySem.F.args_dict_len_1 _)))
 show wpAny _ _ (dictSize a>>=_) _ _ s
 unfold dictSize;rwa[af (af (iV ho hdat (aB ?_)))];show wpAny _ _ (Builtin.Dict.pendingCount a>>=_) _ _ s;rwa[af (wpAny_pendingCount_other hd ?_)];rwa[wpAny_ret_mkInt ?_];show wpAny _ _ _ _ _ {s with toks:=s.toks+1};rwa[af (fY (aB ?_))];rwa[af (wpAny_letGo ?_)];rw[hsz]
 show wpAny _ _ (if ((kvs.length:Nat):Int)<0 then _ else _) _ _ _
 rw[if_neg ∅]
 show wpAny _ _ (if ((kvs.length:Nat):Int)≥2^63 then _ else _) _ _ _
 rw[if_neg ∅]
 erw[af (L9 (aB #[_,rfl,.int kvs.length,H,I.tok _,#[_,rfl],q]))]
def Jk(h:Heap)(hb:cu<h.objs.size):dZ P w H (h.push {cls:=.type "dict",data:=.dict #[]}) h.objs.size (.dP []):=
 #[bI _,beq_eq_false_iff_ne.mpr (cM (bb hb)),[],.nil,_,#[],0,bg _ rfl,#[rfl,rfl,rfl],rfl,rfl,xO]
abbrev VQ:TE:=λ_ H Q=>∃o,(o=HO.dK []\/o=.dT []\/o=.dP [])/\∀p,H p=ψ->Q (.ref p) (upd H p o)
def Nn:PE X (.Dict [] [] pos) VQ:=λpZ s σ H Q I h=>by
 let#[o,ho,h]:=h;rwa[wpAny_Dict_empty #[.ref s.heap.objs.size,_,I.laid (a:=s.heap.objs.size) (o:=o) (t':=s.toks) (λ_ _ q=>aL _ q) (ao _) ?_,rfl,h _ (I.dQ.fresh (ao _))]];rcases ho with rfl|rfl|rfl
 .erw[Bv s.heap I.big]
 .erw[IW s.heap I.big]
 .erw[Jk s.heap I.big]
end
section
variable{prog:bQ}{w:cG}{A:eD}{E:Value->aE->Prop}{s:aE}
abbrev BK(h:Heap)(d:Addr)(es:Array qv)(ep:Nat):Prop:=∃o,h.get? d=ξ o/\o.data=.dict es ep
def GV(hv:s.heap.IsValuesView v d)(hm:BK s.heap d es ep)
  (hQ:Q (.ref s.heap.objs.size) {s with heap:=s.heap.push {cls:=.type "dict_valueiterator",data:=.fields (List.toArray [.ref d,.int 0 0,.int es.size 0,.int ep 0])} }):
  wpAny (bf prog w) A (pyIter (.ref v)) Q E s:=by
 let#[ov,hov,hcv,hdv]:=id hv;let#[o,ho,hdat]:=hm;rwa[wpAny_pyIter_slot hv.typeIs ug (jv ug hv.typeIs PySem.F.entry_dict_values_iter ?_ (PySem.F.args_dict_values_iter_1 _))];unfold Builtin.«dict_values.__iter__»;rwa[af (aB (af ?_))];unfold Builtin.Dict_items.dictOf;rwa[af (AN hov hdv (x:=.ref d) rfl (aB (af ?_)))];unfold Builtin.Dict_items.newIterator;rwa[af (iV ho hdat (af (Ba ho hdat ?_)))];have hown:Builtin.Dict_items.ownsTuple "dict_valueiterator"=ϑ:=⋯
 dsimp[hown,av,if_false];rwa[dN (aB #[_,rfl,"dict_valueiterator",_,#[_,bg _ rfl,rfl],dh.lookup,?_])];simpa[tf] using hQ
def Jl(hit:s.heap.IsValIter it d i es.size ep)(hm:BK s.heap d es ep)(hlt:i<es.size)
  (hQ:∀h',h'.IsValIter it d (i+1) es.size ep->gD it s.heap h'->Q (ξ es[i].val) {s with heap:=h'}):wpAny (bf prog w) A (yV (.ref it)) Q E s:=by
 let#[o,ho,hc,hd]:=id hit;let#[od,hod,hdd]:=id hm;unfold yV;refine af (wpAny_attempt (kj (name:=cv "__next__") hit.typeIs dh
  (jv dh hit.typeIs pN ?_ (pd _))))
 rwa[af (aB (af (af ?_)))];rwa[af (gV hit.typeIs (aB ?_))];rwa[af (wpAny_fieldsOf ho hd ?_)];have hown:Builtin.Dict_items.ownsTuple "dict_valueiterator"=ϑ:=⋯
 dsimp[hown,av,if_false];show wpAny _ _ (if (bu d==gw)=ζ then _ else _) _ _ s;rw[if_neg (show ¬((bu d==gw)=ζ) from aY)]
 rwa[af (aB (af (iV hod hdd ?_)))];rw[if_neg (#v[])]
 rwa[af (aB (af (Ba hod hdd ?_)))];rw[if_neg (#v[])]
 refine aB ?_;dsimp[show ¬((i:Int)<0) from by omega,if_false,kb,fh hlt];refine af ?_;refine af (gV hit.typeIs (aB ?_));refine af (rJ hit.typeIs ?_);show wpAny _ _ (setField (.ref it) 1 (tf ((i:Int)+1))>>=_) _ _ s;refine af (wpAny_setField ho hd (#v[]) ?_);have hit':(s.heap.update it (Bb (·.setIfInBounds 1 (tf ((i:Int)+1))))).IsValIter it d (i+1) es.size ep:=
  #[_,kJ _ ho (Obj.isFreed_of_fields (Ib hd _)),(Obj.cls_mapFields ..).trans hc,by rw[Ib hd];simp[tf]]
 rwa[af (fY ?_)];refine af (rJ (s:={s with heap:=s.heap.update it (Bb (·.setIfInBounds 1 (tf ((i:Int)+1))))}) hit'.typeIs ?_);refine af (rJ (s:={s with heap:=s.heap.update it (Bb (·.setIfInBounds 1 (tf ((i:Int)+1))))}) hit'.typeIs ?_);show wpAny _ _ (pure es[i].val) _ _ _;erw[aB (aB #[_,rfl,aB (hQ _ hit' (fj ..))])]
def Np(hh:A.handled=ψ)(hit:s.heap.IsValIter it d i es.size ep)(hm:BK s.heap d es ep)(hge:es.size<=i)
  (hQ:∀h',Heap.ExtBut it s.heap h'->Q ψ {s with heap:=h'}):wpAny (bf prog w) A (yV (.ref it)) Q E s:=by
 let#[o,ho,hc,hd]:=id hit;let#[od,hod,hdd]:=id hm;unfold yV;refine af (wpAny_attempt (kj (name:=cv "__next__") hit.typeIs dh
  (jv dh hit.typeIs pN ?_ (pd _))))
 rwa[af (aB (af (af ?_)))];rwa[af (gV hit.typeIs (aB ?_))];rwa[af (wpAny_fieldsOf ho hd ?_)];have hown:Builtin.Dict_items.ownsTuple "dict_valueiterator"=ϑ:=⋯
 dsimp[hown,av,if_false];show wpAny _ _ (if (bu d==gw)=ζ then _ else _) _ _ s;rw[if_neg (show ¬((bu d==gw)=ζ) from aY)]
 rwa[af (aB (af (iV hod hdd ?_)))];rw[if_neg (#v[])]
 rwa[af (aB (af (Ba hod hdd ?_)))];rw[if_neg (#v[])]
 refine aB ?_;dsimp[show ¬((i:Int)<0) from by omega,if_false,kb,A8 hge];refine af ?_;refine af (gV hit.typeIs (aB ?_));show wpAny _ _ (setField (.ref it) 0 .none>>=_) _ _ s;refine af (wpAny_setField ho hd (#v[]) ?_);show wpAny _ _ (newExc (.type "StopIteration") []>>=_) _ _ _;dsimp[newExc,newTuple];refine af (af (dN (af (m:=firstArgMember _ _) (wpAny_of_eq (a:=gw) (by first|rfl| (dsimp[firstArgMember];rfl)) (dN ?_ (by size_fits)))) (by size_fits)));dsimp[raiseNew];refine af (wpAny_handled ?_);rw[show A.in1.handled=ψ from hh]
 rwa[af (aB (wpAny_throw ?_))];rwa[af (qp (T:="StopIteration") (b:=ζ) #[_,bg _ rfl,rfl] isSubtype_stop (aB (hQ _ ?_)))];exact((fj ..).extBut.push _).push _
def GX(hh:A.handled=ψ)(I d:Addr)(hne:d≠I)(es:Array qv)(ep:Nat):
  Walks prog w A I [I,d] [I] es.size (λi v=>(es[i]?).map (·.val)=ξ v) (λi h=>h.IsValIter I d i es.size ep/\BK h d es ep) where
 sub:=λb hb=>by simp at hb;simp[hb]
 frame:=λ_ _ _ st hk=>#[let ⟨o,e,r⟩:=st.1;#[o,hk I (#v[]) o e,r],let ⟨o,e,r⟩:=st.2;#[o,hk d (#v[]) o e,r]]
 item:=λi s Q E hi st hQ=>Jl st.1 st.2 hi λh' hit' hs'=>
  hQ _ h' s.toks (by rw[fh hi];rfl) #[hit',let ⟨o,e,r⟩:=st.2;#[o,(hs'.2 d hne).trans e,r]] λb o hb e=>hs'.extBut b o (λh=>hb (by simp[h])) e
 done:=λs Q E st hQ=>Np hh st.1 st.2 (ao _) λh' he'=>hQ h' s.toks λb o hb e=>he' b o (λh=>hb (by simp[h])) e
 self:=λ_ _ _ _ st hQ=>wpAny_pyIter_valiter st.1 hQ
def Jm:KdlSrc prog w "dict_values" r d es.size (λi v=>(es[i]?).map (·.val)=ξ v) (λh=>h.IsValuesView r d/\BK h d es ep) where
 type:=λ_ hm=>hm.1.typeIs
 there:=λ_ hm=>#[let ⟨_,ho,_⟩:=hm.1;aV ho,let ⟨_,ho,_⟩:=hm.2;aV ho]
 keep:=λ_ _ hm hk=>#[let ⟨o,ho,x⟩:=hm.1;#[o,hk r (.inl rfl) o ho,x],let ⟨o,ho,x⟩:=hm.2;#[o,hk d (.inr rfl) o ho,x]]
 notList:=⋯
 notTuple:=⋯
 hint:=λ_ _ _ _ hm hq=>kdl_hint_values hm.1.typeIs hq
 iter:=λ_ s hh hm=>#[_,_,(λ_ _ hq=>GV hm.1 hm.2 hq),GX hh _ d (let ⟨_,ho,_⟩:=hm.2;bb (aV ho)) es ep,#[#[_,bg _ rfl,rfl,rfl],let ⟨o,ho,x⟩:=hm.2;#[o,aL _ ho,x]]]
end
section
variable{X:Cx}
abbrev VR(p d:Addr):HO:=.ext λh=>h.IsValuesView p d
def GY:AX X "dict.values" (λx xs H Q=>∃d kvs,x=.ref d/\xs=[]/\H d=ξ (.dT kvs)/\∀p,H p=ψ->Q (.ref p) (upd H p (VR p d))):=by
 intro pZ s σ H x xs v us Q I rx rs h;let#[d,kvs,rfl,rfl,hd,q]:=h;cases rs;cases (show v=bu d from rx);let#[z,lo,ws,rel,dd]:=EM I.dQ hd;refine mZ (S:=λA R s=>s.TypeIs (.ref d) "dict"/\R (.ok (.ret (.ref s.heap.objs.size))) {s with heap:=s.heap.push {cls:=.type "dict_values",data:=.fields (List.toArray [.ref d])} })
  xm dd.typeIs PySem.F.entry_dict_values (PySem.F.args_dict_values_1 _) (.of_wp λA R s h=>?_) #[dd.typeIs,?_]
 .rwa[af ?_]
  unfold Builtin.Dict.noArgs;rwa[af (rH h.1 ?_)];show wpAny _ _ (pure d) _ _ s;rwa[aB ?_];show wpAny _ _ (Builtin.Dict.showsAll d>>=_) _ _ s;unfold Builtin.Dict.showsAll;rw[if_neg (%[lo|aY])]
  erw[af (aB (af (dN (aB #[_,rfl,h.2]))))]
 .refine#[.ref s.heap.objs.size,_,I.laid (a:=s.heap.objs.size) (o:=VR s.heap.objs.size d) (t':=s.toks) (λ_ _ q=>aL _ q) (ao _) ?_,rfl,q _ (I.dQ.fresh (ao _))]
  have e:(s.heap.push {cls:=.type "dict_values",data:=.fields (List.toArray [.ref d])}).get? s.heap.objs.size=ξ {cls:=.type "dict_values",data:=.fields (List.toArray [.ref d])}:=bg _ rfl;exact#[#[_,e,rfl,rfl],#[_,e],λh1 h2 #[o,ho,r] k=>#[o,k o ho,r]]
def DM(hc:X.calm=ζ):iP X (.type "list") (λxs H Q=>∃p d kvs,xs=[.ref p]/\H p=ξ (VR p d)/\H d=ξ (.dT kvs)/\∀l,H l=ψ->Q (.ref l) (upd H l (.lst (kvs.map (·.2))))):=by
 k_ne;let#[p,d,kvs,rfl,hp,hd,q]:=h;let#[u,rfl,ru]:=vals1 r;cases ru;let#[hv,_,_]:=(show dZ X.prog X.w H s.heap p (VR p d) from I.dQ p _ hp)
 let#[z,lo,ws,rel,o,es,ep,ho,hx,hdat,he,_]:=EM I.dQ hd;have hsz:es.size=kvs.length:=by rw[A7 he,<-Paired.length rel]
 rwa[kdl_call Jm (I.ok.hd hc) #[hv,o,ho,hdat] (%[hsz|z]) λh' tk acc' c' hk hl hi=>?_]
 have ea:acc'.toList=ws.map (·.2.2):=by
  rwa[List.ext_getElem? λj=>?_]
  rw[Cw,ar]
  have e3:es[j]?=(ws[j]?).map (CT (nG (dv X.prog X.w))):=entry_at he j;cases e4:acc'[j]? with
  |some v=>
   have this:(es[j]?).map (·.val)=ξ v:=hi.2 j v e4;rw[e3] at this;cases e5:ws[j]? with
   |none=>rw[e5] at this;cases this
   |some q=>rw[e5] at this;erw[this.symm]
  |none=>
   have h1:acc'.size<=j:=Array.getElem?_eq_none_iff.mp e4;rw[dq (by rw[<-Paired.length rel,<-hsz,<-hi.1];erw[h1])];rfl
 have vals:∀{l:List (List Key×V)}{m:List (List Key×Addr×Value)},KT H l m->Vals (l.map (·.2)) (m.map (·.2.2)):=by
  intro l m r;induction r with
  |nil=>erw[.nil]
  |cons h _ ih=>erw[.cons h.2.2 ih]
 refine#[.ref s.heap.objs.size,_,I.laid (a:=s.heap.objs.size) (o:=.lst (kvs.map (·.2))) (t':=tk) hk (ao _) #[%[ae|z],acc'.toList,c',ea▸vals rel,?_],rfl,q _ (I.dQ.fresh (ao _))];rw[Array.toArray_toList];erw[hl]
end
section
variable{X:Cx}
def EY:∀{xs:List V}{us:List Value},Vals xs us->∀(i:Nat)(u:Value),us[i]?=ξ u->∃x,xs[i]?=ξ x/\RelV x u
 |_,_,.nil,_,_,h=>by cases h
 |_,_,.cons r q,0,_,h=>by cases h;exact#[_,rfl,r]
 |_,_,.cons r q,i+1,u,h=>EY q i u h
def BL:∀{xs:List V}{us:List Value},Vals xs us->xs.length=us.length
 |_,_,.nil=>rfl
 |_,_,.cons r q=>congrArg (·+1) (BL q)
def Rf(r:Vals vs its)(fs:vs.all m9=ζ)(i:Nat)(hi:i<its.length):∃z',vs[i]?=ξ z'/\zx y its[i]=EL z' y:=by
 let#[z',h1,h2]:=EY r i _ (aa hi);exact#[z',h1,Dp h2 (bK.mp fs z' (ag h1))]
end
def GZ{β:Type}(f:Nat->β->Sem (ForInStep β))(I:Nat->β->aE->Prop)(Q:β->aE->Prop)
  (turn:∀i b s,i<n->I i b s->wpAny M A (f i b) (λr s'=>match r with|.yield b'=>I (i+1) b' s'|.done b'=>Q b' s') E s)
  (fin:∀b s,I n b s->Q b s) (b:β) (h:I 0 b s):wpAny M A (forIn [:n] b f) Q E s:=by
 rw[Std.Legacy.Range.forIn_eq_forIn_range']
 dsimp[Std.Legacy.Range.size,Nat.sub_zero,Ic,Nat.div_one];rwa[wpAny_forIn_list _ (λrest b s'=>∃i,rest=vt i (n-i)/\i<=n/\I i b s') _ ?_ ?_ _ _ #[0,#v[],bI _,h]]
 .rintro x rest b s' ⟨i,hr,hi,q⟩
  have hlt:i<n:=by
   rcases uI i n with h|h
   .erw[h]
   .rw[Nat.sub_eq_zero_of_le h] at hr;simp at hr
  have e:n-i=(n-(i+1))+1:=∅
  rw[e,LQ] at hr;injection hr with h1 h2
  subst h1;rwa[fB (turn x b s' hlt q) (λr s2 hr=>?_) λ_ _ h'=>h']
  cases r with
  |done b'=>erw[hr]
  |yield b'=>exact#[x+1,h2,hlt,hr]
 .rintro b s' ⟨i,hr,hi,q⟩
  have:n-i=0:=by have:=congrArg cD hr;simpa using this.symm
  have e:i=n:=∅
  subst e;erw[fin _ _ q]
def xy(l:Addr)(items:Array Value)(n:Nat)(dd:Option Addr)(sl:Array (Option Value))(x:Value)(e:Value->Bool)(j:Nat)(hj:j<items.size)(hit:e items[j]=ζ)(hno:∀m (hm:m<items.size),m<j->e items[m]=ϑ):
  Meets (Builtin.«tuple.index» #[[.ref l,x],[]])
   (λA R s=>s.heap.get? l=ξ {cls:=.type "tuple",dict:=dd,data:=.seq items n,slots:=sl}/\(∀y,y∈items->rG A.in1 s y x (e y))/\R (.ok (.ret (.int j s.toks))) {s with toks:=s.toks+1}):=
 .of_wp λprog w A R s h=>by
  let#[hp,g,d,tk,os]:=s;let#[hl,he,h]:=h;have f2:=wX
  wp_walk using iE hl,GZ _ (λi b s'=>b.1=ψ/\s'=#[hp,g,d,tk,os]/\i<=j) _
  case turn=>
   rintro i b s' hi ⟨hb,rfl,ij⟩;have hi:i<items.size:=by simpa using hi
   rw[fh hi]
   rwa[af (he _ (Array.getElem_mem hi) prog w _ _ ?_)];by_cases z:i=j
   .subst z
    rw[hit]
    wp_walk
    exact#[_,rfl,h]
   .rw[hno i hi ∅]
    wp_walk
    exact#[rfl,rfl,∅]
  case fin=>
   rintro b s' ⟨hb,rfl,ij⟩;erw[absurd ij ((·))]
  exact#[rfl,rfl,bI _]
section
variable{X:Cx}
abbrev VS(K:Frag):V->List V->Hp->VK->Prop:=λx xs H Q=>∃p y vs j z,x=.ref p/\xs=[y]/\lD K H p vs/\m9 y=ζ/\vs.all m9=ζ/\vs[j]?=ξ z/\EL z y=ζ/\(∀(i:Nat)(z':V),i<j->vs[i]?=ξ z'->EL z' y=ϑ)/\Q (.int (j:Nat)) H
def EZ:AX X "tuple.index" (VS X.K):=by
 intro pZ s σ H x xs v us Q I rx rs h;let#[p,y,vs,j,z,rfl,rfl,hq,fy,fs,hj,ez,no,q]:=h;cases rx;let#[u,rfl,ru]:=rs.one;let#[its,r,pl,hz]:=I.tuple hq;have jl:j<its.length:=by rw[<-BL r];exact(ab.mp hj).1
 have ev:=Rf (y:=y) r fs;let#[#[cls,dd,data,sl],ho,hc,n,hd]:=id pl;simp only at hc hd;subst hc hd;refine vp xn #[_,ho,rfl] PySem.F.entry_tuple_index (PySem.F.args_tuple_index_2 _ _)
  (xy p its.toArray n dd sl u (zx y) j (~~~jl) ?_ ?_) #[ho,λw hw=>ng ru fy r fs w (~~~hw),#[.int j,H,I.tok _,#[_,rfl],q]]
 .let#[z',h1,h2]:=ev j jl
  rw[hj] at h1;cases h1;show zx y its[j]=ζ;rw[h2];erw[ez]
 .intro m hm lt
  have hm:m<its.length:=by simpa using hm
  let#[z',h1,h2]:=ev m hm;show zx y its[m]=ϑ;rw[h2];erw[no m z' lt h1]
end
section
open PySem.SeqAt
open PySem.AutoSeq1 (wpAny_loadPart')
open PySem.MeetsSeq PySem.MeetsSeq2 PySem.MeetsSeq3
def xA(l b:Addr)(n n2:Nat)(dd dd2:Option Addr)(sl sl2:Array (Option Value))(i j:Int)(x y:Str)(t t2 u u2:Tok):
  Meets (Builtin.«tuple.__gt__» #[[.ref l,.ref b],[]])
   (λ_ R s=>s.heap.get? l=ξ {cls:=.type "tuple",dict:=dd,data:=.seq (List.toArray [.int i t,.str x t2]) n,slots:=sl}/\s.heap.get? b=ξ {cls:=.type "tuple",dict:=dd2,data:=.seq (List.toArray [.int j u,.str y u2]) n2,slots:=sl2} /\
    R (.ok (.ret (.bool (decide (j<i\/(j=i/\y.cps.toList<x.cps.toList)))))) s):=
 .of_wp λprog w A R s h=>by
  let#[hp,g,d,tk,os]:=s;let#[hl,hb,h]:=h;have f2:=wX;have e1:∀(Q:Bool->aE->Prop)(E:Value->aE->Prop),Q (i==j) #[hp,g,d,tk,os]->wpAny (bf prog w) A.in1 (eqBool (.int i t) (.int j u)) Q E #[hp,g,d,tk,os]:=λQ E h=>yT h
  have e2:∀(Q:Bool->aE->Prop)(E:Value->aE->Prop),Q (decide (x=y)) #[hp,g,d,tk,os]->wpAny (bf prog w) A.in1 (eqBool (.str x t2) (.str y u2)) Q E #[hp,g,d,tk,os]:=λQ E h=>wpAny_eqBool_str h
  have g1:∀(Q:Value->aE->Prop)(E:Value->aE->Prop),Q (.bool (decide (j<i))) #[hp,g,d,tk,os]->wpAny (bf prog w) A.in1 (richCompare .Gt (.int i t) (.int j u)) Q E #[hp,g,d,tk,os]:=λQ E h=>(PyProof.Rows.gt_int h:wpAny (bf prog w) A.in1 (bF .Gt (.int i t) (.int j u)) Q E #[hp,g,d,tk,os])
  have g2:∀(Q:Value->aE->Prop)(E:Value->aE->Prop),Q (.bool (y.cps.toList<x.cps.toList)) #[hp,g,d,tk,os]->wpAny (bf prog w) A.in1 (richCompare .Gt (.str x t2) (.str y u2)) Q E #[hp,g,d,tk,os]:=λQ E h=>(PySem.P.gt_str h:wpAny (bf prog w) A.in1 (bF .Gt (.str x t2) (.str y u2)) Q E #[hp,g,d,tk,os])
  by_cases q:i=j
  .subst q
   rw[beq_self_eq_true] at e1;by_cases p:x=y
   .subst p
    rw[decide_eq_true rfl] at e2;rw[decide_eq_false (λz=>z.elim (Int.lt_irrefl _) λz=>md _ z.2)] at h
    wp_walk using iE hl,iE hb,e1,e2
    exact#[_,rfl,by simpa[Builtin.Tuple.tupleCompareSizes] using h]
   .rw[decide_eq_false p] at e2
    rw[show decide (i<i\/(i=i/\y.cps.toList<x.cps.toList))=decide (y.cps.toList<x.cps.toList) from decide_eq_decide.mpr #[λz=>z.elim (λz=>absurd z (Int.lt_irrefl _)) And.right,λz=>.inr #[rfl,z]]] at h
    wp_walk using iE hl,iE hb,e1,e2,g2
    exact#[_,rfl,h]
  .rw[beq_eq_false_iff_ne.mpr q] at e1
   rw[show decide (j<i\/(j=i/\y.cps.toList<x.cps.toList))=decide (j<i) from decide_eq_decide.mpr #[λz=>z.elim id λz=>absurd z.1.symm q,.inl]] at h
   wp_walk using iE hl,iE hb,e1,g1
   exact#[_,rfl,h]
end
section
variable{X:Cx}
def Rg(hu:X.A.units+200<fH):iq X (bF .Gt) (λx y H Q=>∃a b i j k l,x=.ref a/\y=.ref b/\lD X.K H a [.int i,.str k]/\lD X.K H b [.int j,.str l]/\Q (.bl (decide (j<i\/(j=i/\l.cps.toList<k.cps.toList)))) H):=by
 z_go;let#[a,b,i,j,k,l,rfl,rfl,ha,hb,q]:=h;cases rx;cases ry;let#[its,r1,p1,_]:=I.tuple ha;let#[its2,r2,p2,_]:=I.tuple hb;let#[v1,v2,rfl,#[t,rfl],#[t2,rfl]]:=vals2 r1;let#[w1,w2,rfl,#[u,rfl],#[u2,rfl]]:=vals2 r2;let#[#[cls,dd,data,sl],ho,hc,n,hd]:=p1;let#[#[cls2,dd2,data2,sl2],ho2,hc2,n2,hd2]:=p2;simp only at hc hd hc2 hd2;subst hc hd hc2 hd2;exact richCompare_meets_room (op:=.Gt) #[_,ho,rfl] #[_,ho2,rfl] PySem.F.slot_tuple_gt PySem.F.entry_tuple_gt (PySem.F.args_tuple_gt_2 _ _) (xA a b n n2 dd dd2 sl sl2 i j k l t t2 u u2)
  #[ho,ho2,(λx=>nomatch x),#[.bl _,H,I,rfl,q]] ∅
def Rh(hu:X.A.units+200<fH):iq X (bF .Eq) (λx y H Q=>∃a b,∃is js:List Int,x=.ref a/\y=.ref b/\iS X.K H a (is.map V.int)/\iS X.K H b (js.map V.int)/\Q (.bl (decide (is=js))) H):=by
 z_go;let#[a,b,is,js,rfl,rfl,ha,hb,q]:=h;cases rx;cases ry;let#[its,r1,p1,_]:=I.list ha;let#[its2,r2,p2,_]:=I.list hb;have l1:=r1.length;have l2:=r2.length;rw[ae] at l1 l2;by_cases z:is.length=js.length
 .have hz:its.toArray.size=its2.toArray.size:=by rw[aH,aH];omega
  rwa[CH (e:=λj=>is.getD j 0==js.getD j 0) p1.isList p2.isList hz ∅ (λj h1 h2=>?_) _ _ _ _ #[.bl _,H,I,rfl,?_]]
  .have j1:j<is.length:=by rw[aH] at h1;omega
   have j2:j<js.length:=∅
   let#[u1,e1,t1,rfl]:=r1.get (show(is.map V.int)[j]?=ξ (.int is[j]) by rw[ar,aa j1];rfl);let#[u2,e2,t2,rfl]:=r2.get (show(js.map V.int)[j]?=ξ (.int js[j]) by rw[ar,aa j2];rfl);rw[EA,EA,(ab.mp e1).2,(ab.mp e2).2,aC,aC,aa j1,aa j2]
   erw[pK _ _ _ _]
  .rw[show((bO its.toArray.size).all λj=>is.getD j 0==js.getD j 0)=decide (is=js) from ?_]
   .erw[q]
   rw[cJ,bK,decide_eq_true_iff]
   constructor
   .intro h
    rwa[List.ext_getElem z λj j1 j2=>?_]
    have:=h j (iJ.mpr (by rw[aH];omega));rw[beq_iff_eq,aC,aC,aa j1,aa j2] at this;erw[this]
   .rintro rfl j _
    erw[beq_self_eq_true _]
 .exact uY p1.isList p2.isList (by rw[aH,aH];simp;omega) ∅ _ _ _ _ #[.bl _,H,I,rfl,by rw[decide_eq_false (λe=>z (congrArg cD e))] at q;erw[q]]
end
end L2
namespace PL
section
variable{S:bH}{Q:KU}{q:Bool->Prop}{r:U->Prop}{i j:Int}{a b:List Nat}{x y:U}{us vs:List U}{m n:Nat}
def Ri:k5 .add (.int i) (.int j) S Q=Q (.int (i+j)) S:=rfl
def DN:k5 .add (.str a) (.str b) S Q=(a.length+b.length<=1000000/\Q (.str (a++b)) S):=rfl
def Rj:k5 .add (.tup us) (.tup vs) S Q=(us.length+vs.length<=1000000/\Q (.tup (us++vs)) S):=rfl
def ZC:k5 .add (.loc m) (.loc n) S Q=getL S[m]? λa=>getL S[n]? λb=>a.length+b.length<=1000000/\Q (.loc S.length) (S++[.lst (a++b)]):=rfl
def Rk:k5 .sub (.int i) (.int j) S Q=Q (.int (i-j)) S:=rfl
def ZD:k5 .mul (.int i) (.int j) S Q=(((-(2^64)<i/\i<2^64)\/(-(2^64)<j/\j<2^64))/\Q (.int (i*j)) S):=rfl
def Yy:k5 .fdiv (.int i) (.int j) S Q=((0<j/\j<1073741824)/\Q (.int (i/j)) S):=rfl
def ZE:k5 .mod (.int i) (.int j) S Q=(0<j/\Q (.int (i%j)) S):=rfl
def Nq:k5 .band (.int i) (.int j) S Q=((0<=i/\0<=j)/\Q (.int ((i.toNat&&&j.toNat:Nat):Int)) S):=rfl
def Rl:k5 .bor (.int i) (.int j) S Q=((0<=i/\0<=j)/\Q (.int ((i.toNat|||j.toNat:Nat):Int)) S):=rfl
def Rm:k5 .shl (.int i) (.int j) S Q=((0<=i/\i<1000/\0<=j/\j<=1000)/\Q (.int (i*2^j.toNat)) S):=rfl
def Rn:k5 .shr (.int i) (.int j) S Q=((0<=i/\0<=j)/\Q (.int (i/2^j.toNat)) S):=rfl
def abk:zJ o (.int i) y S Q=k5 o (.int i) y S Q:=rfl
def abl:zJ o (.str a) y S Q=k5 o (.str a) y S Q:=rfl
def VT:iT .eq (.int i) y S q=yk (.int i) y q:=rfl
def Pj:iT .eq (.str a) y S q=yk (.str a) y q:=rfl
def abm:iT .eq .b7 y S q=yk .b7 y q:=rfl
def abn:iT .eq (.tup us) y S q=yk (.tup us) y q:=rfl
def VU:iT .ne (.int i) y S q=(DE (.int i) y=ζ/\yk (.int i) y λb=>q !b):=rfl
def abo:iT .ne (.str a) y S q=(DE (.str a) y=ζ/\yk (.str a) y λb=>q !b):=rfl
def VW:iT .ne .b7 y S q=(DE .b7 y=ζ/\yk .b7 y λb=>q !b):=rfl
def abp:iT .ne (.tup us) y S q=Yw (.tup us) y q:=rfl
def ZF:(DE (.int i) y=ζ)=True:=eq_true rfl
def acD:(DE (.str a) y=ζ)=True:=eq_true rfl
def ZG:(DE .b7 y=ζ)=True:=eq_true rfl
def acE:iT .lt (.int i) (.int j) S q=q (decide (i<j)):=rfl
def acF:iT .le (.int i) (.int j) S q=q (decide (i<=j)):=rfl
def acG:iT .gt (.int i) (.int j) S q=q (decide (j<i)):=rfl
def acH:iT .ge (.int i) (.int j) S q=q (decide (j<=i)):=rfl
def Ro:∀{b:List Nat},jf [c] b=b.contains c
 |[]=>rfl
 |x::xs=>by
  rw[jf,Ro (b:=xs),List.contains_cons]
  simp[List.isPrefixOf]
def Nr:iT .isin (.str [k]) (.str b) S q=q (b.contains k):=by
 rw[<-Ro];rfl
def Nt:iT .mh (.str [k]) (.str b) S q=q !(b.contains k):=by
 rw[<-Ro];rfl
def BM:iT .isin (.str a) (.tab kvs) S q=q (kvs.lookup a).isSome:=rfl
def Rr:iT .isin x (.tup us) S q=rX x us q:=rfl
def Rt:iT .mh x (.tup us) S q=rX x us λb=>q !b:=rfl
def Ru:iT .isin x (.loc n) S q=getL S[n]? λus=>rX x us q:=rfl
def ZH:iT .mh (.str a) (.loc n) S q=getL S[n]? λus=>rX (.str a) us λb=>q !b:=rfl
def Nu:iT .mh (.tup vs) (.loc n) S q=getL S[n]? λus=>(kK vs=ζ/\kK us=ζ/\n8 us<=100)/\q !(us.any λy=>mi y (.tup vs)):=rfl
def ZI:iT .Nc x .b7 S q=q (mj x):=rfl
def Rv:iT .zF x .b7 S q=q (!mj x):=rfl
def ew(h1:Jh x y=ζ)(h2:xg x=ζ)(h3:xg y=ζ)(h4:dep x<=100)(h:mi x y=v):yk x y q=q v:=by
 rw[<-h];erw[propext #[λz=>z.2,λz=>#[#[h1,h2,h3,h4],z]]]
def VX:yk (.int i) (.int j) q=q (i==j):=ew rfl rfl rfl (bI _) rfl
def VY:yk (.str a) (.str b) q=q (a==b):=ew rfl rfl rfl (bI _) rfl
def ZJ:yk .b7 .b7 q=q ζ:=ew rfl rfl rfl (bI _) rfl
def acI{a b:Bool}:yk (.bl a) (.bl b) q=q (a==b):=ew rfl rfl rfl (bI _) rfl
def acJ:yk (.int i) .b7 q=q ϑ:=ew rfl rfl rfl (bI _) rfl
def acK:yk .b7 (.int i) q=q ϑ:=ew rfl rfl rfl (bI _) rfl
def acL:yk (.int i) (.str a) q=q ϑ:=ew rfl rfl rfl (bI _) rfl
def acM:yk (.str a) (.int i) q=q ϑ:=ew rfl rfl rfl (bI _) rfl
def VZ(l:List (List Nat)):(l.map U.str).all flat=ζ:=bK.mpr λu m=>by let#[x,_,rfl]:=bx.mp m;rfl
def anyS{l:List (List Nat)}:rX (.str a) (l.map .str) q=q (l.any (·==a)):=by
 rwa[propext #[λz=>?_,λz=>#[#[rfl,VZ l],?_]]]
 .have:=z.2;rw[CJ] at this;erw[this]
 .rw[CJ];erw[z]
def V0:L1 (.str a) (.int i) S r=(a.length<=1000000/\opt (qV a i) λc=>r (.str [c])):=rfl
def E1:L1 (.tup us) (.int i) S r=(us.length<=1000000/\opt (qV us i) r):=rfl
def abq{ns:List Int}:L1 (.uQ ns) (.int i) S r=(ns.length<=1000000/\opt (qV ns i) λn=>r (.int n)):=rfl
def abr:L1 (.loc n) (.int i) S r=getL S[n]? λus=>opt (qV us i) r:=rfl
def zE:L1 (.tab kvs) (.str a) S r=opt (kvs.lookup a) λv=>r (.str v):=rfl
def jt{f:String}:pC (.loc n) f S r=qU S[n]? λ_ fs=>opt (fs.lookup f) r:=rfl
def Pk:nj S (.str a)=ξ a.length:=rfl
def abt:nj S (.tup us)=ξ us.length:=rfl
def abu:nj S (.uQ ns)=ξ ns.length:=rfl
def j8(h:S[n]?=ξ (.lst us)):nj S (.loc n)=ξ us.length:=by delta nj;dsimp only;rw[h]
def abv:tO S (.bl c)=ξ c:=rfl
def abw:tO S .b7=ξ ϑ:=rfl
def abx:tO S (.int i)=ξ (i !=0):=rfl
def aby:tO S (.uQ ns)=ξ (ns.length !=0):=rfl
def Pl(h:S[n]?=ξ (.lst us)):tO S (.loc n)=ξ (us.length !=0):=by delta tO;dsimp only;rw[h];dsimp only;rw[j8 h];rfl
def abz:tQ .len [x] S Q=opt (nj S x) λn=>n<=1000000/\Q (.int n) S:=rfl
def Yz:tQ .tuple [.loc n] S Q=getL S[n]? λus=>Q (.tup us) S:=rfl
def ZK:tQ .list [.loc n] S Q=getL S[n]? λus=>Q (.loc S.length) (S++[.lst us]):=rfl
def YA:tQ .list [.tup us] S Q=(us.length<=1000000/\Q (.loc S.length) (S++[.lst us])):=rfl
def abA:tQ .all [.loc n] S Q=(∃bs:List Bool,S[n]?=ξ (.lst (bs.map .bl))/\Q (.bl (bs.all id)) S):=rfl
def abB:tQ .any [.loc n] S Q=(∃bs:List Bool,S[n]?=ξ (.lst (bs.map .bl))/\Q (.bl (bs.any id)) S):=rfl
def ZL:tQ .dict [.loc n] S Q=(∃ps:List (List Nat×U),S[n]?=ξ (.lst (ps.map λp=>.tup [.str p.1,p.2]))/\(ps.map (·.1)).Nodup/\Q (.loc S.length) (S++[.dX (ps.map λp=>(.str p.1,p.2))])):=rfl
def ZM:qz .nY (.int i) [] S Q=(0<=i/\Q (.int (uA i.toNat:Nat)) S):=rfl
def abC:qz .get (.loc n) [.str a,x] S Q=getD S[n]? λkvs=>∃ps:List (List Nat×U),kvs=(ps.map λp=>(U.str p.1,p.2))/\Q ((ps.lookup a).getD x) S:=rfl
def YB:rY .nY (.int i) S=True:=rfl
def ZN:rY .get (.loc n) S=jo S[n]? λ_=>True:=rfl
def ZO:qz .get (.loc n) [.str a] S Q=jo S[n]? λkvs=>mP (.str a)=ζ/\Q ((uz (.str a) kvs).getD .b7) S:=rfl
def abD:Ra (.loc n) y S r=jo S[n]? λkvs=>mP y=ζ/\opt (uz y kvs) r:=rfl
def ZP:iT .DA x (.loc n) S q=jo S[n]? λkvs=>mP x=ζ/\q (uz x kvs).isNone:=rfl
def ZQ:qz .nZ (.loc n) [x,y] S Q=pB S n x y Q:=rfl
def ER:rY .join (.str a) S=True:=rfl
def BD:rY .index (.str a) S=True:=rfl
def ym:rY .startswith (.str a) S=True:=rfl
def tG:rY .append (.loc n) S=getL S[n]? λ_=>True:=rfl
def EZ:rY .xt (.tup us) S=True:=rfl
def ZR:qz .xt (.tup us) [x] S Q=((flat x=ζ/\us.all flat=ζ)/\∃j z,us[j]?=ξ z/\mi z x=ζ/\(∀(i:Nat)(z':U),i<j->us[i]?=ξ z'->mi z' x=ϑ)/\Q (.int (j:Nat)) S):=rfl
def ZS:rY .pop (.loc n) S=getL S[n]? λ_=>True:=rfl
def abE:qz .pop (.loc n) [.int i] S Q=(i=0/\getL S[n]? λus=>∃u r,us=u::r/\Q u (S.set n (.lst r))):=rfl
def ye:rY .extend (.loc n) S=getL S[n]? λ_=>True:=rfl
def ZT:qz .join (.str a) [.loc n] S Q=(∃ts:List (List Nat),S[n]?=ξ (.lst (ts.map .str))/\(ts.map cD).sum+ts.length*a.length<=1000000/\Q (.str (mm a ts)) S):=rfl
def YC:qz .index (.str a) [.str b] S Q=(∃c,b=[c]/\c∈a/\Q (.int (a.idxOf c:Nat)) S):=rfl
def V1:qz .startswith (.str a) [.str b] S Q=Q (.bl (b.isPrefixOf a)) S:=rfl
def V2:qz .append (.loc n) [x] S Q=getL S[n]? λus=>us.length<1000000/\Q .b7 (S.set n (.lst (us++[x]))):=rfl
def V3:qz .extend (.loc n) [.loc m] S Q=getL S[n]? λus=>getL S[m]? λws=>us.length+ws.length<=1000000/\Q .b7 (S.set n (.lst (us++ws))):=rfl
def ZU:GH (.str a) S R=R (a.map λc=>.str [c]) (λ_=>True):=rfl
def v_t{R:List U->(bH->Prop)->Prop}:GH (.tup us) S R=(us.length<=1000000/\R us (λ_=>True)):=rfl
def v_l:GH (.loc n) S R=getL S[n]? λus=>R us (λS'=>S'[n]?=ξ (.lst us)):=rfl
def bind_f:qE ϑ x caps k=k (ξ x::caps):=rfl
def ZV:qE ζ x caps k=Pg x λa b=>k (ξ a::ξ b::caps):=rfl
def gc{α:Type}{xs:List α}{k:Nat}:qV xs (k:Int)=xs[k]?:=by
 unfold qV Ni;rw[if_pos ∅]
 split
 .simp
 .rename_i h
  rw[dq ∅]
  rfl
def pD{α:Type}{x:α}{xs:List α}:qV (x::xs) 0=ξ x:=by
 have:=gc (xs:=x::xs) (k:=0);simpa using this
def lX{α:Type}{x y:α}{xs:List α}:qV (x::y::xs) 1=ξ y:=by
 have:=gc (xs:=x::y::xs) (k:=1);simpa using this
end
def vU{α:Type}{o:Option α}{Q Q':α->Prop}(h:∀a,Q a->Q' a)(w:opt o Q):opt o Q':=by
 cases o with
 |none=>erw[w]
 |some a=>erw[h a w]
def tU{o:Option SO}{Q Q':List U->Prop}(h:∀a,Q a->Q' a)(w:getL o Q):getL o Q':=by
 let#[a,e,z]:=cR.mp w;erw[cR.mpr #[a,e,h a z]]
def BN(h:∀b,Q b->Q' b)(w:yk x y Q):yk x y Q':=#[w.1,h _ w.2]
def pY(h:∀b,Q b->Q' b)(w:rX x us Q):rX x us Q':=#[w.1,h _ w.2]
def rZ{x:U}{Q Q':Int->Prop}(h:∀b,Q b->Q' b)(w:lJ x Q):lJ x Q':=by
 cases x<;>first|exact h _ w|exact w
def vV{x:U}{Q Q':List Nat->Prop}(h:∀b,Q b->Q' b)(w:L0 x Q):L0 x Q':=by
 cases x<;>first|exact h _ w|exact w
def BO(h:Q->Q')(w:Yv x Q):Yv x Q':=by
 cases x<;>first|exact h w|exact w
def Jn(h:∀b,Q b->Q' b)(w:Yw x y Q):Yw x y Q':=#[w.1,BN (λb z=>h _ z) w.2]
def Jo(h:∀b,Q b->Q' b)(w:ZA x us Q):ZA x us Q':=by
 cases x<;>first|exact#[w.1,h _ w.2]|exact pY (λb z=>h _ z) w
def Jp(h:∀b,Q b->Q' b)(w:uw x Q):uw x Q':=by
 cases x<;>first|exact h _ w|exact w
def DO(h:∀a,Q a->Q' a)(w:jo o Q):jo o Q':=by
 let#[a,e,z]:=jr.mp w;erw[jr.mpr #[a,e,h a z]]
def yo(h:∀b,Q b->Q' b)(w:iT o x y S Q):iT o x y S Q':=by
 cases o with
 |eq=>erw[BN h w]
 |ne=>erw[Jn h w]
 |Uy=>let#[i,a,j,b,e1,e2,w]:=w;exact#[i,a,j,b,e1,e2,h _ w]
 |Uz=>let#[m,n,is,js,e1,e2,e3,e4,w]:=w;exact#[m,n,is,js,e1,e2,e3,e4,h _ w]
 |isin=>cases y<;>first|exact vV (λ_ z=>h _ z) w|exact pY h w|exact tU (λ_ z=>pY h z) w|exact w
 |mh=>cases y<;>first|exact vV (λ_ z=>h _ z) w|exact pY (λb z=>h _ z) w|exact tU (λ_ z=>Jo h z) w|exact w
 |Nc=>erw[BO (h _) w]
 |zF=>erw[BO (h _) w]
 |DA=>erw[Jp (λ_ z=>DO (λ_ z=>#[z.1,h _ z.2]) z) w]
 |_=>erw[rZ (λ_ z=>rZ (λ_ z=>h _ z) z) w]
def Jq{x y:U}{S:bH}{Q Q':U->Prop}(h:∀b,Q b->Q' b)(w:L1 x y S Q):L1 x y S Q':=by
 cases x<;>first|exact rZ (λ_ z=>#[z.1,vU (λ_ z=>h _ z) z.2]) w|exact rZ (λ_ z=>tU (λ_ z=>vU (λ_ z=>h _ z) z) z) w|exact vV (λ_ z=>vU (λ_ z=>h _ z) z) w|exact w
abbrev Keeps(Γ:cb)(b:dG)(k:Nat)(sp:Spec):Prop:=∀us S Q,sp us S Q->uU Γ b #[λ_ S1=>Q .b7 S1,Q] (us.map ξ++l7 k ψ) S
section
variable{Γ:cb}{D:Ends}{env:Env}{S:bH}{i:Nat}{e o:Ex}{c:Tx}{a b ss:dG}{s:Sm}{f:String}
abbrev Rest(Γ:cb)(ss:dG)(D:Ends)(env:Env)(S:bH):Prop:=uU Γ ss D env S
def Rest.go(h:uU Γ ss D env S):Rest Γ ss D env S:=h
def abG:uU Γ .nil D env S=D.nx env S:=rfl
def ZW:uU Γ (.cons s ss) D env S=WS Γ s #[λen S1=>uU Γ ss D en S1,D.rt] env S:=rfl
def abH:WS Γ (.ifs c a b) D env S=WT Γ c env S (λt S1=>if t=ζ then uU Γ a D env S1 else uU Γ b D env S1):=rfl
def abI:WS Γ (.CN c b) D env S=∃n,zK (λen S1 k=>WT Γ c en S1 k) (λen S1 k=>uU Γ b #[k,D.rt] en S1) D.nx n env S:=rfl
def abJ:WS Γ (.UA a) D env S=uU Γ a D env S:=rfl
variable{Q:KU}{e1 e2:Ex}{es ks:zG}{P:List U->bH->Prop}{B:Bool->bH->Prop}{q m:String}{t1 t2:Tx}{O:Option Int->bH->Prop}{R:List U->(bH->Prop)->bH->Prop}
def w_var:WE Γ (.var i) env S Q=zH env[i]? λu=>Q u S:=rfl
def w_lit{u:U}:WE Γ (.lit u) env S Q=Q u S:=rfl
def abK{o:GD}:WE Γ (.bin o e1 e2) env S Q=WE Γ e1 env S (λx S1=>WE Γ e2 env S1 (λy S2=>k5 o x y S2 Q)):=rfl
def abL:WE Γ (.neg e1) env S Q=WE Γ e1 env S (λx S1=>lJ x λi=>Q (.int (-i)) S1):=rfl
def w_not:WE Γ (.not e1) env S Q=WE Γ e1 env S (λx S1=>Pf x λb=>Q (.bl !b) S1):=rfl
def w_and:WE Γ (.and e1 e2) env S Q=WE Γ e1 env S (λx S1=>Pf x λc=>if c=ζ then WE Γ e2 env S1 Q else Q (.bl ϑ) S1):=rfl
def w_or:WE Γ (.or e1 e2) env S Q=WE Γ e1 env S (λx S1=>Pf x λc=>if c=ζ then Q (.bl ζ) S1 else WE Γ e2 env S1 Q):=rfl
def abM{o:Pe}:WE Γ (.cmp o e1 e2) env S Q=WE Γ e1 env S (λx S1=>WE Γ e2 env S1 (λy S2=>iT o x y S2 λr=>Q (.bl r) S2)):=rfl
def abN:WE Γ (.DB c e1 e2) env S Q=WT Γ c env S (λt S1=>if t=ζ then WE Γ e1 env S1 Q else WE Γ e2 env S1 Q):=rfl
def ZX:WE Γ (.call f es) env S Q=xw Γ es env S (λus S1=>Γ f us S1 Q):=rfl
def w_mk:WE Γ (.mk f q es) env S Q=xw Γ es env S (λus S1=>Γ q (.loc S1.length::us) (S1++[.ins f []]) (λv S2=>v=.b7/\Q (.loc S1.length) S2)):=rfl
def ZY:WE Γ (.dm f m q o es) env S Q=WE Γ o env S (λx S1=>uw x λn=>qU S1[n]? λc' fs=>(c'=f/\fs.lookup m=ψ)/\xw Γ es env S1 (λus S2=>Γ q (x::us) S2 Q)):=rfl
def abO{b:VN}:WE Γ (.blt b es) env S Q=xw Γ es env S (λus S1=>tQ b us S1 Q):=rfl
def abP{b:Nd}:WE Γ (.jD b o es) env S Q=WE Γ o env S (λx S1=>rY b x S1/\xw Γ es env S1 (λus S2=>qz b x us S2 Q)):=rfl
def w_fld:WE Γ (.fld o f) env S Q=WE Γ o env S (λx S1=>pC x f S1 λv=>Q v S1):=rfl
def acO:WE Γ (.ix e1 e2) env S Q=WE Γ e1 env S (λx S1=>WE Γ e2 env S1 (λy S2=>L1 x y S2 λv=>Q v S2)):=rfl
def acP{lo hi:Ox}:WE Γ (.sl o lo hi) env S Q=WE Γ o env S (λx S1=>WO Γ lo env S1 (λl S2=>WO Γ hi env S2 (λh S3=>UB x l h S3 Q))):=rfl
def abQ:WE Γ (.tup es) env S Q=xw Γ es env S (λus S1=>us.length<=1000000/\Q (.tup us) S1):=rfl
def abR:WE Γ (.lst es) env S Q=xw Γ es env S (λus S1=>us.length<=1000000/\Q (.loc S1.length) (S1++[.lst us])):=rfl
def ZZ{pr:Bool}{it:It}{ci:List Nat}:WE Γ (.comp pr e it c ci) env S Q=WI Γ it env S (λus g S1=>oM g (λu S2 k=>qE pr u (nk env ci) λen=>WT Γ c en S2 k)
   (λu S2 k=>qE pr u (nk env ci) λen=>WE Γ e en S2 k) (λacc S3=>Q (.loc S3.length) (S3++[.lst acc])) us [] S1):=rfl
def abS{t:Ty}:WE Γ (.Nf e1 t) env S Q=WE Γ e1 env S (λx S1=>GG S1 x t λb=>Q (.bl b) S1):=rfl
def acQ{i:Int}{R:Bool->Prop}:GG S (.int i) .int R=R ζ:=rfl
def acR{i:Int}{R:Bool->Prop}:GG S (.int i) .bool R=R ϑ:=rfl
def Z3{l:List Nat}{R:Bool->Prop}:GG S (.str l) .str R=R ζ:=rfl
def acS{n:Nat}{R:Bool->Prop}:GG S (.loc n) .list R=getL S[n]? λ_=>R ζ:=rfl
def abT:xw Γ .nil env S P=P [] S:=rfl
def Z4:xw Γ (.cons e es) env S P=WE Γ e env S (λx S1=>xw Γ es env S1 (λxs S2=>P (x::xs) S2)):=rfl
def acT:WO Γ .no env S O=O ψ S:=rfl
def acU:WO Γ (.e e1) env S O=WE Γ e1 env S (λx S1=>lJ x λj=>O (ξ j) S1):=rfl
def Jr:WI Γ (.val e) env S R=WE Γ e env S (λx S1=>GH x S1 λus g=>R us g S1):=rfl
def abU:WI Γ (.range e) env S R=WE Γ e env S (λx S1=>lJ x λn=>n<=1000000/\-(1000000:Int)<=n/\R ((bO n.toNat).map λk=>.int (k:Nat)) (λ_=>True) S1):=rfl
def Z5:WI Γ (.enum e) env S R=WE Γ e env S (λx S1=>uw x λn=>getL S1[n]? λus=>R (us.mapIdx λi u=>.tup [.int (i:Nat),u]) (λS'=>S'[n]?=ξ (.lst us)) S1):=rfl
def abV:WT Γ (.cY e) env S B=WE Γ e env S (λx S1=>opt (tO S1 x) λb=>B b S1):=rfl
def Z6:WT Γ (.not t1) env S B=WT Γ t1 env S (λb S1=>B (!b) S1):=rfl
def Z7:WT Γ (.and t1 t2) env S B=WT Γ t1 env S (λc S1=>if c=ζ then WT Γ t2 env S1 B else B ϑ S1):=rfl
def abW:WT Γ (.or t1 t2) env S B=WT Γ t1 env S (λc S1=>if c=ζ then B ζ S1 else WT Γ t2 env S1 B):=rfl
def oa:uU Γ (.cons s ss) D env S=WS Γ s #[λen S1=>Rest Γ ss D en S1,D.rt] env S:=rfl
def Js:uU Γ .nil D env S=D.nx env S:=rfl
def Jt:WS Γ (.set i e) D env S=WE Γ e env S (λu S1=>D.nx (env.set i (ξ u)) S1):=rfl
def abX{p:GD}:WS Γ (.aug i p e) D env S=zH env[i]? λx=>WE Γ e env S (λy S1=>zJ p x y S1 λz S2=>D.nx (env.set i (ξ z)) S2):=rfl
def acV:WS Γ (.ex e) D env S=WE Γ e env S (λ_ S1=>D.nx env S1):=rfl
def abY:WS Γ (.ret e) D env S=WE Γ e env S D.rt:=rfl
def abZ:WS Γ (.ifs c a b) D env S=WT Γ c env S (λt S1=>if t=ζ then Rest Γ a D env S1 else Rest Γ b D env S1):=rfl
def Pm:WS Γ (.CN c b) D env S=∃n,zK (λen S1 k=>WT Γ c en S1 k) (λen S1 k=>Rest Γ b #[k,D.rt] en S1) D.nx n env S:=rfl
def E2{it:It}:WS Γ (.iz (.name i) it b) D env S=WI Γ it env S (λus g S1=>uT g (λu en S2 k=>Rest Γ b #[k,D.rt] (en.set i (ξ u)) S2) D.nx us env S1):=rfl
def ab0:WS Γ (.UA a) D env S=Rest Γ a D env S:=rfl
def Z8:WS Γ (.n6 o f e) D env S=WE Γ e env S (λu S1=>WE Γ o env S1 (λx S2=>uw x λn=>qU S2[n]? λc fs=>fs.length<100/\D.nx env (S2.set n (.ins c (iF f u fs))))):=rfl
def Z9:WS Γ (.DD o f p e) D env S=WE Γ o env S (λx S1=>uw x λn=>qU S1[n]? λc fs=>opt (fs.lookup f) λv=>
   WE Γ e env S1 (λy S2=>zJ p v y S2 λz S3=>qU S3[n]? λc' fs'=>c'=c/\fs'.length<100/\D.nx env (S3.set n (.ins c (iF f z fs'))))):=rfl
def aaa:WS Γ (.GF o j p e) D env S=WE Γ o env S (λx S1=>WE Γ j env S1 (λy S2=>uw x λn=>lJ y λk=>getL S2[n]? λus=>0<=k/\opt (us[k.toNat]?) λv=>
   WE Γ e env S2 (λz S3=>zJ p v z S3 λr S4=>getL S4[n]? λus'=>k.toNat<us'.length/\D.nx env (S4.set n (.lst (us'.set k.toNat r)))))):=rfl
def ab1:WE Γ (.Jf e1 e2) env S Q=WE Γ e1 env S (λx S1=>WE Γ e2 env S1 (λy S2=>Ra x y S2 λv=>Q v S2)):=rfl
def vW:WE Γ (.dX .nil .nil) env S Q=(0<=100/\(Q (.loc S.length) (S++[.dX []])\/Q (.loc S.length) (S++[.uR []])\/Q (.loc S.length) (S++[.xr []]))):=rfl
def aab:WI Γ (.keys e) env S R=WE Γ e env S (λx S1=>uw x λn=>jo S1[n]? λkvs=>R (kvs.map (·.1)) (λS'=>S'[n]?=ξ (.vR kvs)) (S1.set n (.vR kvs))):=rfl
def aac{j:Ex}:WS Γ (.nZ o j e) D env S=WE Γ e env S (λu S1=>WE Γ o env S1 (λx S2=>WE Γ j env S2 (λy S3=>uw x λn=>getD S3[n]? λkvs=>(mP y=ζ/\uz y kvs=ψ/\kvs.length<1000000)/\D.nx env (S3.set n (.dX (kvs++[(y,u)])))))):=rfl
def ab2{it:It}{j:Nat}:WS Γ (.iz (.pair i j) it b) D env S=WI Γ it env S (λus g S1=>uT g (λu en S2 k=>Pg u λx y=>Rest Γ b #[k,D.rt] ((en.set i (ξ x)).set j (ξ y)) S2) D.nx us env S1):=rfl
def ca{sp:Spec}{us:List U}{Q:KU}(h:Γ f=sp)(k:sp us S Q):Γ f us S Q:=%[h|k]
end
noncomputable abbrev SG:List Nat:=[10,32,33,34,35,36,38,39,40,41,42,43,44,45,46,47,48,49,50,51,52,53,54,55,56,57,58,59,60,61,62,63,64,65,66,67,68,69,70,71,72,73,74,75,76,77,78,79,80,81,82,83,84,85,86,87,88,89,90,91,92,93,94,95,96,97,98,99,100,101,102,103,104,105,106,107,108,109,110,111,112,113,114,115,116,117,118,119,120,121,122,123,124,125,126]
noncomputable abbrev SG1:List Nat:=[32,33,34,35,36,38,39,40,41,42,43,44,45,46,47,48,49,50,51,52,53,54,55,56,57,58,59,60,61,62,63,64,65,66,67,68,69,70,71,72,73,74,75,76,77,78,79,80,81,82,83,84,85,86,87,88,89,90,91,92,93,94,95,96,97,98,99,100,101,102,103,104,105,106,107,108,109,110,111,112,113,114,115,116,117,118,119,120,121,122,123,124,125,126]
abbrev og:dG:=#v[.ret (.jD .join (.lit (.str [])) #v[.comp ϑ @0 (.val (.lit (.str SG))) (.cY (.cmp .isin @0 @1)) [0]])]
abbrev p6:dG:=#v[.ret (.jD .join (.lit (.str [])) #v[.comp ϑ @0 (.val (.lit (.str SG))) (.cY (.cmp .mh @0 @1)) [0]])]
abbrev oh:dG:=#v[.ret (.cmp .lt (.jD .index (.lit (.str SG)) #v[@0]) (.jD .index (.lit (.str SG)) #v[@1]))]
abbrev p7:dG:=#v[.ret (.sl (.lit (.str SG)) (.e (.jD .index (.lit (.str SG)) #v[@0])) (.e (.bin .add (.jD .index (.lit (.str SG)) #v[@1]) ↑1)))]
abbrev zN:dG:=#v[.set 1 (.mk "Reader" "Reader.__init__" #v[@0]),.set 2 (.dm "Reader" "choice" "Reader.choice" @1 .nil),.ifs (.cY (.cmp .lt (.fld @1 "at") (.blt .len #v[@0]))) #v[.ex (.ix (.lit .b7) (.lit .b7))] .nil,.ret @2]
abbrev r6:dG:=#v[.ret (.DB (.cY (.cmp .eq (.blt .len #v[@1]) ↑1)) (.ix @1 ↑0) (.tup #v[@0,.blt .tuple #v[@1]]))]
abbrev km:dG:=#v[.n6 @0 "text" @1,.n6 @0 "at" ↑0,.n6 @0 "depth" ↑0]
abbrev ko:dG:=#v[.ret (.and (.cmp .lt (.fld @0 "at") (.blt .len #v[.fld @0 "text"])) (.cmp .isin (.ix (.fld @0 "text") (.fld @0 "at")) @1))]
abbrev i5:dG:=#v[.ifs (.not (.cY (.dm "Reader" "sees" "Reader.sees" @0 #v[@1]))) #v[.ex (.ix (.lit .b7) (.lit .b7))] .nil,.DD @0 "at" .add ↑1,.ret (.ix (.fld @0 "text") (.bin .sub (.fld @0 "at") ↑1))]
abbrev i6:dG:=#v[.set 1 (.lst #v[.dm "Reader" "row" "Reader.row" @0 .nil]),.CN (.cY (.dm "Reader" "sees" "Reader.sees" @0 #v[↑[124]])) #v[.ex (.dm "Reader" "passes" "Reader.passes" @0 #v[↑[124]]),.ex (.jD .append @1 #v[.dm "Reader" "row" "Reader.row" @0 .nil])],.ret (.call "joined" #v[↑[111,114],@1])]
abbrev k6:dG:=#v[.set 1 (.lst #v[.dm "Reader" "repeat" "Reader.repeat" @0 .nil]),.CN (.and (.cY (.cmp .lt (.fld @0 "at") (.blt .len #v[.fld @0 "text"]))) (.not (.cY (.dm "Reader" "sees" "Reader.sees" @0 #v[↑[124,41]])))) #v[.ex (.jD .append @1 #v[.dm "Reader" "repeat" "Reader.repeat" @0 .nil])],.ret (.call "joined" #v[↑[114,111,119],@1])]
abbrev i7:dG:=#v[.set 1 (.dm "Reader" "atom" "Reader.atom" @0 .nil),.CN (.cY (.dm "Reader" "sees" "Reader.sees" @0 #v[↑[42,43,63]])) #v[.set 1 (.tup #v[.ix (.lit (.tab [([42],[115,116,97,114]),([43],[112,108,117,115]),([63],[109,97,121,98,101])])) (.dm "Reader" "passes" "Reader.passes" @0 #v[↑[42,43,63]]),@1])],.ret @1]
abbrev kq:dG:=#v[.ifs (.cY (.dm "Reader" "sees" "Reader.sees" @0 #v[↑[40]])) #v[.ret (.dm "Reader" "bracket" "Reader.bracket" @0 .nil)] .nil,.ifs (.cY (.dm "Reader" "sees" "Reader.sees" @0 #v[↑[91]])) #v[.ret (.tup #v[↑[111,110,101],.dm "Reader" "sign_class" "Reader.sign_class" @0 .nil])] .nil,.ifs (.cY (.dm "Reader" "sees" "Reader.sees" @0 #v[↑[46]])) #v[.ex (.dm "Reader" "passes" "Reader.passes" @0 #v[↑[46]]),.ret (.tup #v[↑[111,110,101],.call "all_but" #v[↑[10]]])] .nil,.ret (.tup #v[↑[111,110,101],.dm "Reader" "written_sign" "Reader.written_sign" @0 #v[↑[46,124,40,41,91,93,42,43,63,92]]])]
abbrev iG:dG:=#v[.ifs (.cY (.cmp .eq (.fld @0 "depth") ↑6)) #v[.ex (.ix (.lit .b7) (.lit .b7))] .nil,.ex (.dm "Reader" "passes" "Reader.passes" @0 #v[↑[40]]),.DD @0 "depth" .add ↑1,.set 1 (.dm "Reader" "choice" "Reader.choice" @0 .nil),.ex (.dm "Reader" "passes" "Reader.passes" @0 #v[↑[41]]),.DD @0 "depth" .sub ↑1,.ret @1]
abbrev fJ:dG:=#v[.ex (.dm "Reader" "passes" "Reader.passes" @0 #v[↑[91]]),.set 1 (.dm "Reader" "sees" "Reader.sees" @0 #v[↑[94]]),.ifs (.cY @1) #v[.ex (.dm "Reader" "passes" "Reader.passes" @0 #v[↑[94]])] .nil,.set 2 (.dm "Reader" "item" "Reader.item" @0 .nil),.CN (.not (.cY (.dm "Reader" "sees" "Reader.sees" @0 #v[↑[93]]))) #v[.aug 2 .add (.dm "Reader" "item" "Reader.item" @0 .nil)],.ex (.dm "Reader" "passes" "Reader.passes" @0 #v[↑[93]]),.ret (.DB (.cY @1) (.call "all_but" #v[@2]) (.call "in_order" #v[@2]))]
abbrev kr:dG:=#v[.set 1 (.dm "Reader" "written_sign" "Reader.written_sign" @0 #v[↑[93,45,92]]),.ifs (.not (.cY (.dm "Reader" "sees" "Reader.sees" @0 #v[↑[45]]))) #v[.ret @1] .nil,.ex (.dm "Reader" "passes" "Reader.passes" @0 #v[↑[45]]),.set 2 (.fld @0 "at"),.set 3 (.dm "Reader" "written_sign" "Reader.written_sign" @0 #v[↑[93,45,92]]),.ifs (.cY (.call "is_ahead" #v[@3,@1])) #v[.ex (.ix (.lit .b7) (.lit .b7))] .nil,.ret (.call "stretch" #v[@1,@3])]
abbrev eP:dG:=#v[.ifs (.not (.cY (.dm "Reader" "sees" "Reader.sees" @0 #v[↑[92]]))) #v[.ret (.dm "Reader" "passes" "Reader.passes" @0 #v[.call "all_but" #v[@1]])] .nil,.ex (.dm "Reader" "passes" "Reader.passes" @0 #v[↑[92]]),.set 2 (.dm "Reader" "passes" "Reader.passes" @0 #v[↑[46,124,40,41,91,93,42,43,63,92,45,94,110]]),.ret (.DB (.cY (.cmp .eq @2 ↑[110])) ↑[10] @2)]
abbrev p8:dG:=#v[.ifs (.cY (.cmp .eq (.ix @0 ↑0) ↑[111,114])) #v[.ret (.jD .join ↑[124] #v[.comp ϑ (.call "row_text" #v[@0]) (.val (.ix @0 ↑1)) (.cY (.lit (.bl ζ))) []])] .nil,.ret (.call "row_text" #v[@0])]
abbrev oj:dG:=#v[.ifs (.cY (.cmp .eq (.ix @0 ↑0) ↑[114,111,119])) #v[.ret (.jD .join (.lit (.str [])) #v[.comp ϑ (.call "repeat_text" #v[@0]) (.val (.ix @0 ↑1)) (.cY (.lit (.bl ζ))) []])] .nil,.ret (.call "repeat_text" #v[@0])]
abbrev kz:dG:=#v[.set 1 (.lit (.str [])),.set 2 @0,.CN (.cY (.cmp .isin (.ix @2 ↑0) (.lit (.tab [([115,116,97,114],[42]),([112,108,117,115],[43]),([109,97,121,98,101],[63])])))) #v[.set 1 (.bin .add (.ix (.lit (.tab [([115,116,97,114],[42]),([112,108,117,115],[43]),([109,97,121,98,101],[63])])) (.ix @2 ↑0)) @1),.set 2 (.ix @2 ↑1)],.ret (.bin .add (.call "atom_text" #v[@2]) @1)]
abbrev mr:dG:=#v[.ifs (.cY (.cmp .eq (.ix @0 ↑0) ↑[111,110,101])) #v[.ret (.call "place_text" #v[.ix @0 ↑1])] .nil,.ret (.bin .add (.bin .add ↑[40] (.call "written" #v[@0])) ↑[41])]
abbrev k7:dG:=#v[.ifs (.cY (.cmp .eq (.blt .len #v[@0]) ↑1)) #v[.ret (.call "sign_text" #v[@0,↑[46,124,40,41,91,93,42,43,63,92]])] .nil,.ifs (.cY (.cmp .eq @0 (.call "all_but" #v[↑[10]]))) #v[.ret ↑[46]] .nil,.ret (.blt .vS #v[.call "class_texts" #v[@0]])]
abbrev mv:dG:=#v[.ret (.DB (.cY (.cmp .isin @0 @1)) (.bin .add ↑[92] @0) @0)]
abbrev kA:dG:=#v[.set 1 (.lst .nil),.ifs (.cY (.cmp .ne @0 (.lit (.str [])))) #v[.ex (.jD .append @1 #v[.bin .add (.bin .add ↑[91] (.call "guarded" #v[.call "class_items" #v[@0]])) ↑[93]])] .nil,.ifs (.cY (.cmp .ne @0 (.lit (.str SG)))) #v[.ex (.jD .append @1 #v[.bin .add (.bin .add ↑[91,94] (.jD .join (.lit (.str [])) #v[.call "class_items" #v[.call "all_but" #v[@0]]])) ↑[93]])] .nil,.ret @1]
abbrev p9:dG:=#v[.ifs (.not (.cY (.jD .startswith (.ix @0 ↑0) #v[↑[94]]))) #v[.ret (.jD .join (.lit (.str [])) #v[@0])] .nil,.ifs (.cY (.cmp .eq (.blt .len #v[@0]) ↑1)) #v[.ret (.bin .add ↑[92] (.ix @0 ↑0))] .nil,.ret (.bin .add (.jD .join (.lit (.str [])) #v[.sl @0 (.e ↑1) .no]) (.ix @0 ↑0))]
abbrev kB:dG:=#v[.set 1 (.lst .nil),.iz (.name 2) (.val (.call "runs" #v[@0])) #v[.ex (.jD .extend @1 #v[.call "run_items" #v[@2]])],.ret @1]
abbrev zO:dG:=#v[.set 1 (.lst .nil),.set 2 (.lit (.str [])),.iz (.name 3) (.val @0) #v[.ifs (.cY (.cmp .mh (.bin .add @2 @3) (.lit (.str SG)))) #v[.ex (.jD .append @1 #v[@2]),.set 2 (.lit (.str []))] .nil,.aug 2 .add @3],.ex (.jD .append @1 #v[@2]),.ret @1]
abbrev mw:dG:=#v[.set 1 (.comp ϑ (.call "sign_text" #v[@0,↑[93,45,92]]) (.val @0) (.cY (.lit (.bl ζ))) []),.set 2 (.bin .add (.bin .add (.call "sign_text" #v[.ix @0 ↑0,↑[93,45,92]]) ↑[45]) (.call "sign_text" #v[.ix @0 (.neg ↑1),↑[93,45,92]])),.ret (.DB (.cY (.cmp .le (.blt .len #v[.jD .join (.lit (.str [])) #v[@1]]) (.blt .len #v[@2]))) @1 (.lst #v[@2]))]
end PL
namespace PL.u9
abbrev mz:dG:=#v[.ifs (.cY @0) #v[.ret (.ix @0 (.bin .mod @1 (.blt .len #v[@0])))] .nil,.ret ↑0]
abbrev om:dG:=#v[.set 2 (.bin .mod (.bin .add (.call "_law_cell" #v[@0,@1]) (.bin .mul ↑104729 (.bin .add @1 ↑1))) ↑4294967291),.set 2 (.bin .mod (.bin .mul @2 ↑48271) ↑4294967279),.ret (.bin .mod (.bin .add (.bin .mul (.bin .fdiv @2 ↑64) ↑69621) @2) ↑4294967231)]
abbrev oo:dG:=#v[.set 0 (.lit (.str SG1)),.ret (.bin .add ↑[10] @0)]
end PL.u9
namespace PL.nq
abbrev mB:dG:=#v[.set 2 (.mk "Layout" "Layout.__init__" .nil),.iz (.pair 3 4) (.enum (.sl @0 .no (.e ↑6))) #v[.set 5 (.dm "Layout" "lay" "Layout.lay" @2 #v[.call "tree_of" #v[@4,@3]]),.ifs (.cY (.fld @5 "empty")) #v[.ex (.ix (.lit .b7) (.lit .b7))] .nil,.ifs (.cY (.cmp .gt (.dm "Layout" "how_many" "Layout.how_many" @2 .nil) @1)) #v[.ex (.ix (.lit .b7) (.lit .b7))] .nil,.ex (.dm "Layout" "close_rule" "Layout.close_rule" @2 #v[@5])],.ifs (.cY (.cmp .gt (.blt .len #v[@0]) ↑6)) #v[.ex (.ix (.lit .b7) (.lit .b7))] .nil,.ret (.mk "Places" "Places.__init__" #v[@2])]
abbrev qa:dG:=#v[.UA #v[.ret (.call "read" #v[@0])]]
abbrev qc:dG:=#v[.ret (.comp ϑ @0 (.range (.jD .nY @0 .nil)) (.cY (.bin .band (.bin .shr @1 @0) ↑1)) [0])]
abbrev mC:dG:=#v[.n6 @0 "empty" @1,.n6 @0 "firsts" @2,.n6 @0 "lasts" @3]
abbrev gf:dG:=#v[.set 2 (.DB (.cY (.fld @0 "empty")) (.bin .bor (.fld @0 "firsts") (.fld @1 "firsts")) (.fld @0 "firsts")),.set 3 (.DB (.cY (.fld @1 "empty")) (.bin .bor (.fld @0 "lasts") (.fld @1 "lasts")) (.fld @1 "lasts")),.ret (.mk "Part" "Part.__init__" #v[.and (.fld @0 "empty") (.fld @1 "empty"),@2,@3])]
abbrev jI:dG:=#v[.ret (.mk "Part" "Part.__init__" #v[.or (.fld @0 "empty") (.fld @1 "empty"),.bin .bor (.fld @0 "firsts") (.fld @1 "firsts"),.bin .bor (.fld @0 "lasts") (.fld @1 "lasts")])]
abbrev kC:dG:=#v[.n6 @0 "signs" (.lst #v[.lit (.str [])]),.n6 @0 "behind" (.lst #v[↑0]),.n6 @0 "ends" (.lst .nil)]
abbrev gM:dG:=#v[.ret (.bin .sub (.blt .len #v[.fld @0 "signs"]) ↑1)]
abbrev fK:dG:=#v[.GF (.fld @0 "behind") ↑0 .bor (.fld @1 "firsts"),.ex (.jD .append (.fld @0 "ends") #v[.fld @1 "lasts"])]
abbrev kD:dG:=#v[.iz (.name 3) (.val (.call "members" #v[@1])) #v[.GF (.fld @0 "behind") @3 .bor @2]]
abbrev k8:dG:=#v[.ifs (.cY (.cmp .eq (.ix @1 ↑0) ↑[111,110,101])) #v[.ret (.dm "Layout" "lay_place" "Layout.lay_place" @0 #v[.ix @1 ↑1])] .nil,.ifs (.cY (.cmp .eq (.ix @1 ↑0) ↑[114,111,119])) #v[.ret (.dm "Layout" "lay_row" "Layout.lay_row" @0 #v[.ix @1 ↑1])] .nil,.ifs (.cY (.cmp .eq (.ix @1 ↑0) ↑[111,114])) #v[.ret (.dm "Layout" "lay_choice" "Layout.lay_choice" @0 #v[.ix @1 ↑1])] .nil,.ret (.dm "Layout" "lay_repeat" "Layout.lay_repeat" @0 #v[@1])]
abbrev gh:dG:=#v[.set 2 (.bin .shl ↑1 (.blt .len #v[.fld @0 "signs"])),.ex (.jD .append (.fld @0 "signs") #v[@1]),.ex (.jD .append (.fld @0 "behind") #v[↑0]),.ret (.mk "Part" "Part.__init__" #v[.lit (.bl ϑ),@2,@2])]
abbrev iH:dG:=#v[.set 2 (.mk "Part" "Part.__init__" #v[.lit (.bl ζ),↑0,↑0]),.iz (.name 3) (.val @1) #v[.set 4 (.dm "Layout" "lay" "Layout.lay" @0 #v[@3]),.ex (.dm "Layout" "link" "Layout.link" @0 #v[.fld @2 "lasts",.fld @4 "firsts"]),.set 2 (.call "one_behind_other" #v[@2,@4])],.ret @2]
abbrev fL:dG:=#v[.set 2 (.mk "Part" "Part.__init__" #v[.lit (.bl ϑ),↑0,↑0]),.iz (.name 3) (.val @1) #v[.set 2 (.call "one_or_other" #v[@2,.dm "Layout" "lay" "Layout.lay" @0 #v[@3]])],.ret @2]
abbrev fM:dG:=#v[.set 2 (.lst .nil),.set 3 @1,.CN (.cY (.cmp .isin (.ix @3 ↑0) (.tup #v[↑[115,116,97,114],↑[112,108,117,115],↑[109,97,121,98,101]]))) #v[.ex (.jD .append @2 #v[.ix @3 ↑0]),.set 3 (.ix @3 ↑1)],.set 4 (.dm "Layout" "lay" "Layout.lay" @0 #v[@3]),.ifs (.or (.cY (.cmp .isin ↑[115,116,97,114] @2)) (.cY (.cmp .isin ↑[112,108,117,115] @2))) #v[.ex (.dm "Layout" "link" "Layout.link" @0 #v[.fld @4 "lasts",.fld @4 "firsts"])] .nil,.set 5 (.or (.fld @4 "empty") (.or (.cmp .isin ↑[115,116,97,114] @2) (.cmp .isin ↑[109,97,121,98,101] @2))),.ret (.mk "Part" "Part.__init__" #v[@5,.fld @4 "firsts",.fld @4 "lasts"])]
abbrev i8:dG:=#v[.set 1 (.blt .sum #v[.comp ζ (.bin .shl ↑1 @0) (.enum (.fld @0 "signs")) (.cY (.cmp .ne @1 (.lit (.str [])))) []]),.set 2 ↑0,.iz (.name 3) (.val (.fld @0 "ends")) #v[.aug 2 .bor (.bin .band @3 @1)],.set 4 ↑0,.CN (.cY (.cmp .ne @2 @4)) #v[.set 4 @2,.iz (.name 5) (.val (.call "members" #v[@1])) #v[.ifs (.cY (.bin .band (.ix (.fld @0 "behind") @5) @4)) #v[.aug 2 .bor (.bin .shl ↑1 @5)] .nil]],.ret @4]
abbrev gu:dG:=#v[.ret (.blt .sum #v[.comp ζ (.bin .shl ↑1 @0) (.enum (.fld @0 "signs")) (.cY (.cmp .isin @2 @1)) [1]])]
abbrev kE:dG:=#v[.set 2 (.call "useful_places" #v[@1]),.n6 @0 "behind" (.comp ϑ (.bin .band @0 @1) (.val (.fld @1 "behind")) (.cY (.lit (.bl ζ))) [2]),.n6 @0 "ends" (.blt .list #v[.fld @1 "ends"]),.n6 @0 "takers" (.blt .dict #v[.comp ϑ (.tup #v[@0,.call "places_that_take" #v[@1,@0]]) (.val (.lit (.str SG))) (.cY (.lit (.bl ζ))) [1]])]
abbrev i9:dG:=#v[.set 2 ↑0,.iz (.name 3) (.val (.call "members" #v[@1])) #v[.aug 2 .bor (.ix (.fld @0 "behind") @3)],.ret @2]
abbrev fN:dG:=#v[.iz (.pair 2 3) (.enum (.fld @0 "ends")) #v[.ifs (.cY (.bin .band @1 @3)) #v[.ret @2] .nil],.ret (.lit .b7)]
abbrev jJ:dG:=#v[.ifs (.cY (.cmp .eq (.ix @0 ↑0) ↑[111,110,101])) #v[.ret (.lit (.bl ϑ))] .nil,.ifs (.cY (.cmp .eq (.ix @0 ↑0) ↑[114,111,119])) #v[.ret (.blt .all #v[.comp ϑ (.call "_law_nothing" #v[@0]) (.val (.ix @0 ↑1)) (.cY (.lit (.bl ζ))) []])] .nil,.ifs (.cY (.cmp .eq (.ix @0 ↑0) ↑[111,114])) #v[.ret (.blt .any #v[.comp ϑ (.call "_law_nothing" #v[@0]) (.val (.ix @0 ↑1)) (.cY (.lit (.bl ζ))) []])] .nil,.ret (.or (.cmp .isin (.ix @0 ↑0) (.tup #v[↑[115,116,97,114],↑[109,97,121,98,101]])) (.call "_law_nothing" #v[.ix @0 ↑1]))]
abbrev kF:dG:=#v[.ifs (.cY (.cmp .eq (.ix @0 ↑0) ↑[111,110,101])) #v[.ret (.DB (.cY (.cmp .isin @1 (.ix @0 ↑1))) (.lst #v[.tup .nil]) (.lst .nil))] .nil,.ifs (.cY (.cmp .eq (.ix @0 ↑0) ↑[111,114])) #v[.set 2 (.lst .nil),.iz (.name 3) (.val (.ix @0 ↑1)) #v[.set 2 (.bin .add @2 (.call "_law_behind" #v[@3,@1]))],.ret @2] .nil,.ifs (.cY (.cmp .eq (.ix @0 ↑0) ↑[114,111,119])) #v[.set 2 (.lst .nil),.iz (.name 4) (.range (.blt .len #v[.ix @0 ↑1])) #v[.set 2 (.bin .add @2 (.comp ϑ (.bin .add @0 (.sl (.ix @1 ↑1) (.e (.bin .add @2 ↑1)) .no)) (.val (.call "_law_behind" #v[.ix (.ix @0 ↑1) @4,@1])) (.cY (.lit (.bl ζ))) [0,4])),.ifs (.not (.cY (.call "_law_nothing" #v[.ix (.ix @0 ↑1) @4]))) #v[.ret @2] .nil],.ret @2] .nil,.set 5 (.DB (.cY (.cmp .eq (.ix @0 ↑0) ↑[109,97,121,98,101])) (.tup .nil) (.tup #v[.tup #v[↑[115,116,97,114],.ix @0 ↑1]])),.ret (.comp ϑ (.bin .add @0 @1) (.val (.call "_law_behind" #v[.ix @0 ↑1,@1])) (.cY (.lit (.bl ζ))) [5])]
abbrev k9:dG:=#v[.set 2 (.lst .nil),.iz (.name 3) (.val @0) #v[.iz (.name 4) (.val (.call "_law_behind" #v[.tup #v[↑[114,111,119],@3],@1])) #v[.ifs (.cY (.cmp .mh @4 @2)) #v[.ex (.jD .append @2 #v[@4])] .nil]],.ret @2]
abbrev pE:dG:=#v[.ret (.blt .any #v[.comp ϑ (.call "_law_nothing" #v[.tup #v[↑[114,111,119],@0]]) (.val @0) (.cY (.lit (.bl ζ))) []])]
abbrev lg:dG:=#v[.set 3 (.call "_law_mix" #v[@0,@1]),.set 4 (.bin .mod @3 ↑9),.ifs (.or (.cY (.cmp .eq @2 ↑0)) (.cY (.cmp .lt @4 ↑4))) #v[.ret (.tup #v[↑[111,110,101],.ix (.lst #v[↑[97],↑[98],↑[99],↑[97,98],↑[98,99],.call "_law_all" .nil,↑[97],↑[98],↑[48],.lit (.str [])]) (.bin .mod (.bin .fdiv @3 ↑9) ↑10)])] .nil,.ifs (.cY (.cmp .lt @4 ↑7)) #v[.set 5 (.comp ϑ (.call "_law_small" #v[@1,.bin .add (.bin .add (.bin .mul ↑2 @2) ↑1) @0,.bin .sub @3 ↑1]) (.range ↑2) (.cY (.lit (.bl ζ))) [0,1,2]),.ret (.tup #v[.ix (.lst #v[↑[114,111,119],↑[111,114],↑[114,111,119]]) (.bin .sub @4 ↑4),.blt .tuple #v[@5]])] .nil,.ret (.tup #v[.ix (.lst #v[↑[115,116,97,114],↑[112,108,117,115],↑[109,97,121,98,101]]) (.bin .mod (.bin .fdiv @3 ↑9) ↑3),.call "_law_small" #v[@0,.bin .add (.bin .mul ↑2 @1) ↑1,.bin .sub @2 ↑1]])]
abbrev lh:dG:=#v[.set 4 (.lst .nil),.iz (.name 5) (.range @2) #v[.set 6 (.call "_law_small" #v[@0,.bin .add @1 (.bin .mul ↑9 @5),@3]),.ifs (.cY (.call "_law_nothing" #v[@6])) #v[.set 6 (.tup #v[↑[114,111,119],.tup #v[.tup #v[↑[111,110,101],.ix ↑[97,98,99] (.bin .mod @5 ↑3)],@6]])] .nil,.ex (.jD .append @4 #v[@6])],.ret @4]
end PL.nq
namespace PL.r8
abbrev oq:dG:=#v[.ret (.call "smallest" #v[.call "spread" #v[.call "places_of" #v[@0,↑10]]])]
abbrev lj:dG:=#v[.n6 @0 "takes" (.blt .list #v[@1]),.n6 @0 "told" (.blt .tuple #v[@1]),.n6 @0 "rows" @2]
abbrev lu:dG:=#v[.ret (.jD .get (.ix (.fld @0 "rows") @1) #v[@2])]
abbrev YD:dG:=#v[.ifs (.cY (.cmp .ne @7 ↑0)) #v[.nZ @5 @6 (.Jf @2 @7)] .nil]
abbrev pSi:dG:=(.cons (.set 7 (.bin .band @4 (.Jf (.fld @0 "takers") @6))) (.cons (.ifs (.and (.cY (.cmp .ne @7 ↑0)) (.cY (.cmp .DA @7 @2))) #v[.nZ @2 @7 (.blt .len #v[@1]),.ex (.jD .append @1 #v[@7])] .nil) YD))
abbrev pSo:dG:=#v[.set 4 (.dm "Places" "beyond" "Places.beyond" @0 #v[.ix @1 (.blt .len #v[@3])]),.set 5 (.dX .nil .nil),.iz (.name 6) (.val (.lit (.str SG))) pSi,.ex (.jD .append @3 #v[@5])]
abbrev pSf:dG:=#v[.ret (.mk "Table" "Table.__init__" #v[.comp ϑ (.dm "Places" "first_rule" "Places.first_rule" @1 #v[@0]) (.val @1) (.cY (.lit (.bl ζ))) [0],@3])]
abbrev r9:dG:=(.cons (.set 1 (.lst #v[↑1])) (.cons (.set 2 (.dX #v[↑1] #v[↑0])) (.cons (.set 3 (.lst .nil)) (.cons (.CN (.cY (.cmp .lt (.blt .len #v[@3]) (.blt .len #v[@1]))) pSo) pSf))))
abbrev pSm:Ex:=.blt .dict #v[.comp ϑ (.tup #v[@0,.ix @1 (.Jf @2 @0)]) (.keys @5) (.cY (.lit (.bl ζ))) [1,5]]
abbrev pSt:dG:=#v[.ifs (.cY (.cmp .eq (.ix @1 @4) (.blt .len #v[@3]))) #v[.ex (.jD .append @2 #v[.ix (.fld @0 "told") @4]),.ex (.jD .append @3 #v[pSm])] .nil]
abbrev ou:dG:=#v[.set 1 (.ix (.call "rounds" #v[.bin .add (.fld @0 "told") (.tup #v[.lit .b7]),.call "with_nowhere" #v[.fld @0 "rows"]]) (.neg ↑1)),.set 2 (.lst .nil),.set 3 (.lst .nil),.iz (.pair 4 5) (.enum (.fld @0 "rows")) pSt,.ret (.mk "Table" "Table.__init__" #v[@2,@3])]
abbrev pWn:Ex:=.blt .dict #v[.comp ϑ (.tup #v[@0,.jD .get @1 #v[@0,@2]]) (.val (.lit (.str SG))) (.cY (.lit (.bl ζ))) [0,1]]
abbrev jK:dG:=#v[.set 1 (.blt .len #v[@0]),.ret (.comp ϑ pWn (.val (.bin .add @0 (.lst #v[.dX .nil .nil]))) (.cY (.lit (.bl ζ))) [1])]
abbrev sd:dG:=#v[.set 2 (.call "telling_signs" #v[@1]),.set 3 (.lst #v[.call "numbered" #v[@0]]),.CN (.cY (.lit (.bl ζ))) #v[.set 4 (.call "parted" #v[.ix @3 (.neg ↑1),@1,@2]),.ifs (.cY (.cmp .eq (.blt .max #v[@4]) (.blt .max #v[.ix @3 (.neg ↑1)]))) #v[.ret @3] .nil,.ex (.jD .append @3 #v[@4])]]
abbrev pPa:Ex:=.comp ϑ (.ix @1 (.Jf @2 @0)) (.val @2) (.cY (.lit (.bl ζ))) [0,5]
abbrev se:dG:=#v[.set 3 (.lst .nil),.iz (.pair 4 5) (.enum @1) #v[.ex (.jD .append @3 #v[.tup #v[.ix @0 @4,.blt .tuple #v[pPa]]])],.ret (.call "numbered" #v[@3])]
abbrev ow:dG:=#v[.set 1 (.dX .nil .nil),.ret (.comp ϑ (.jD .nZ @1 #v[@0,.blt .len #v[@1]]) (.val @0) (.cY (.lit (.bl ζ))) [1])]
abbrev ja:dG:=#v[.set 1 (.dX .nil .nil),.iz (.name 2) (.val (.lit (.str SG))) #v[.ex (.jD .nZ @1 #v[.blt .tuple #v[.comp ϑ (.Jf @0 @1) (.val @0) (.cY (.lit (.bl ζ))) [2]],@2])],.ret (.jD .vals @1 .nil)]
abbrev ly:dG:=#v[.iz (.name 2) (.range (.blt .len #v[@0])) #v[.set 3 (.lst #v[.tup #v[.ix @0 @2]]),.iz (.name 4) (.val @1) #v[.set 3 (.call "_law_rests" #v[@3,@4])],.ifs (.cY (.call "_law_ends" #v[@3])) #v[.ret @2] .nil],.ret (.lit .b7)]
end PL.r8
namespace PL.Nv
abbrev lz:dG:=#v[.ret (.blt .len #v[.fld @0 "told"])]
abbrev pSs:Ex:=.comp ϑ (.call "sample" #v[@1,@2,@0]) (.range (.blt .len #v[@0])) (.cY (.lit (.bl ζ))) [1,2]
abbrev qd:dG:=#v[.set 1 (.call "table_of" #v[@0]),.set 2 (.call "first_texts" #v[@1]),.ret pSs]
abbrev sf:dG:=#v[.ret (.comp ζ @0 (.enum (.call "samples" #v[@0])) (.cY (.cmp .Nc @1 (.lit .b7))) [])]
abbrev si:dG:=#v[.ifs (.cY (.cmp .mh @2 (.fld @0 "told"))) #v[.ret (.lit .b7)] .nil,.ret (.Jf @1 (.jD .xt (.fld @0 "told") #v[@2]))]
abbrev pFt:dG:=#v[.set 4 (.dm "Table" "goes" "Table.goes" @0 #v[@2,@3]),.ifs (.cY (.cmp .zF @4 (.lit .b7))) #v[.ex (.jD .nZ @1 #v[@4,.bin .add (.Jf @1 @2) @3])] .nil]
abbrev pFs:dG:=#v[.iz (.name 3) (.val (.lit (.str SG))) pFt]
abbrev kG:dG:=#v[.set 1 (.dX #v[↑0] #v[.lit (.str [])]),.iz (.name 2) (.range (.dm "Table" "size" "Table.size" @0 .nil)) pFs,.ret @1]
abbrev pK4:Ex:=(.bin .add @1 (.lst #v[.ix (.lst #v[.ix @1 ↑0,.tup #v[↑[111,114],.tup #v[.ix @1 ↑0,.ix @1 (.neg ↑1)]]]) (.bin .mod (.call "_law_mix" #v[@0,↑52]) ↑2)]))
abbrev pKw:Ex:=(.comp ϑ (.call "written" #v[@0]) (.val @1) (.cY (.lit (.bl ζ))) [])
end PL.Nv
namespace PL.CO
open PL.Nv
abbrev lA:dG:=#v[.ret (.and (.Nf @0 .int) (.not (.Nf @0 .bool)))]
abbrev kH:dG:=#v[.ret (.and (.Nf @0 .list) (.blt .all #v[.comp ϑ (.call "_law_whole" #v[@0]) (.val @0) (.cY (.lit (.bl ζ))) []]))]
abbrev lB:dG:=#v[.ret (.blt .tuple #v[.comp ϑ (.blt .tuple #v[.call "_law_rests" #v[@0,@1]]) (.val @0) (.cY (.lit (.bl ζ))) [1]])]
abbrev lC:dG:=#v[.set 1 (.comp ϑ @0 (.range (.blt .len #v[@0])) (.cY (.call "_law_ends" #v[.ix @1 @0])) [0]),.ret (.DB (.cY @1) (.ix @1 ↑0) (.lit .b7))]
abbrev pQc:Ex:=(.comp ϑ (.tup #v[.tup #v[@0]]) (.val @0) (.cY (.lit (.bl ζ))) [])
abbrev pQi:dG:=#v[.set 7 (.call "_law_steps" #v[.ix @5 ↑1,@6]),.ifs (.cY (.cmp .mh @7 @4)) #v[.ex (.jD .append @4 #v[@7]),.ex (.jD .append @3 #v[.tup #v[.bin .add (.ix @5 ↑0) @6,@7]])] .nil]
abbrev pQw:dG:=#v[.set 5 (.jD .pop @3 #v[↑0]),.ifs (.cY (.cmp .eq (.call "_law_tells" #v[.ix @5 ↑1]) @1)) #v[.ret (.ix @5 ↑0)] .nil,.ifs (.cY (.cmp .lt (.blt .len #v[.ix @5 ↑0]) @2)) #v[.iz (.name 6) (.val ↑[48,97,98,99]) pQi] .nil]
abbrev jb:dG:=#v[.set 3 (.lst #v[.tup #v[.lit (.str []),.blt .tuple #v[pQc]]]),.set 4 (.lst #v[.ix (.ix @3 ↑0) ↑1]),.CN (.cY @3) pQw,.ret (.lit .b7)]
abbrev pQa:dG:=#v[.ifs (.cY (.cmp .Nc (.ix @3 @4) (.lit .b7))) #v[.ifs (.cY (.cmp .zF @5 (.lit .b7))) #v[.ret (.lit (.bl ϑ))] .nil] #v[.ifs (.or (.not (.cY (.Nf (.ix @3 @4) .str))) (.cY (.cmp .ne (.call "_law_first" #v[@1,.ix @3 @4]) @4))) #v[.ret (.lit (.bl ϑ))] #v[.ifs (.and (.cY (.cmp .zF @5 (.lit .b7))) (.cY (.cmp .Uy (.tup #v[.blt .len #v[.ix @3 @4],.ix @3 @4]) (.tup #v[.blt .len #v[@5],@5])))) #v[.ret (.lit (.bl ϑ))] .nil]]]
abbrev pQl:dG:=(.cons (.set 5 (.call "_law_shortest" #v[@1,@4,↑4])) pQa)
abbrev pQe:Ex:=(.comp ϑ @0 (.range (.blt .len #v[@1])) (.cY (.cmp .Nc (.ix @1 @0) (.lit .b7))) [3])
abbrev pQt:dG:=#v[.set 6 (.call "unused" #v[.blt .list #v[@2]]),.ret (.and (.call "_law_wholes" #v[@6]) (.cmp .Uz @6 pQe))]
abbrev pQr:dG:=(.cons (.set 2 pKw) (.cons (.set 3 (.call "samples" #v[.blt .list #v[@2]])) (.cons (.ifs (.or (.not (.cY (.Nf @3 .list))) (.cY (.cmp .ne (.blt .len #v[@3]) (.blt .len #v[@1])))) #v[.ret (.lit (.bl ϑ))] .nil) (.cons (.iz (.name 4) (.range (.blt .len #v[@1])) pQl) pQt))))
abbrev E3:dG:=(.cons (.set 1 (.call "_law_trees" #v[@0,↑0,.bin .add ↑1 (.bin .mod (.call "_law_mix" #v[@0,↑50]) ↑3),↑1])) (.cons (.ifs (.cY (.cmp .eq (.bin .mod (.call "_law_mix" #v[@0,↑51]) ↑2) ↑0)) #v[.set 1 pK4] .nil) pQr))
end PL.CO
namespace L2
open PySem
open PL (U SO bH KU Spec cb)
structure Tab where
 const:List (String×U)
 fns:List String
 qW:List String
 qX:List (String×String)
 zP:List String
 iA:List String
structure Inf where
 names:List (Str×NameKind)
 N:List Str
 calm:Bool
abbrev pick(l:List String)(x:Str):Option String:=l.find? λs=>cv s==x
abbrev BP{α:Type}(l:List (String×α))(x:Str):Option (String×α):=l.find? λs=>cv s.1==x
abbrev eM(x:Str):List Str->Option Nat
 |[]=>ψ
 |y::ys=>if y=x then ξ 0 else(eM x ys).map (·+1)
abbrev Rx:Option NameKind->Bool
 |some .local=>ζ
 |some .cell=>ζ
 |some .free=>ζ
 |_=>ϑ
abbrev Inf.gl(I:Inf)(x:Str):Bool:=I.names.lookup x==ξ .globalImplicit
abbrev V4:nN->Option PL.GD
 |.Add=>ξ .add|.Sub=>ξ .sub|.Mult=>ξ .mul|.FloorDiv=>ξ .fdiv|.Mod=>ξ .mod|.BitAnd=>ξ .band|.BitOr=>ξ .bor|.LShift=>ξ .shl|.RShift=>ξ .shr|_=>ψ
abbrev aat:Mb->Option PL.Pe
 |.Eq=>ξ .eq|.NotEq=>ξ .ne|.Lt=>ξ .lt|.LtE=>ξ .le|.Gt=>ξ .gt|.GtE=>ξ .ge|.In=>ξ .isin|.NotIn=>ξ .mh|.Is=>ξ .Nc|.IsNot=>ξ .zF
abbrev Ju:Expr->Option Str
 |.Name x _=>ξ x
 |_=>ψ
def V5:∀e,(∃x p,e=LR x p)\/Ju e=ψ:=by
 intro e;cases e<;>first|exact .inr rfl|exact .inl #[_,_,rfl]
def E4(h:Ju e=ξ x):∃p,e=.Name x p:=by
 rcases V5 e with⟨y,p,rfl⟩|e
 .exact#[p,congrArg (LR · p) (aG h)]
 .erw[nn (e.symm.trans h)]
abbrev dkE(e:Expr):Bool:=Ju e==ξ ("sign":Str)||Ju e==ξ ("held":Str)
abbrev aau:Mb->Bool
 |.NotIn=>ζ
 |_=>ϑ
abbrev aav:Mb->Bool
 |.Gt=>ζ
 |_=>ϑ
abbrev isEq:Mb->Bool
 |.Eq=>ζ
 |_=>ϑ
abbrev aaw:Expr->Bool
 |.Tuple ..=>ζ
 |_=>ϑ
abbrev aax:Expr->Bool
 |.ListComp ..=>ζ
 |_=>ϑ
abbrev UC(op:Mb)(b:Expr):Option PL.Pe:=if aau op&&Ju b==ξ ("numbers":Str) then ξ .DA else if aav op&&aaw b then ξ .Uy else if isEq op&&aax b then ξ .Uz else aat op
abbrev Ry:Expr->Option Expr
 |.Call (.Attribute o m ap) [] [] cp=>if m==("values":Str)&&ap.endLine==cp.line then ξ o else ψ
 |_=>ψ
abbrev YE:Expr->Option (Str×Expr)
 |.Call f [a] [] _=>(Ju f).map λx=>(x,a)
 |_=>ψ
def V6:∀e,(∃f as ks p,e=Expr.Call f as ks p)\/YE e=ψ:=by
 intro e;cases e<;>first|exact .inr rfl|exact .inl #[_,_,_,_,rfl]
def Pn(h:YE e=ξ (x,a)):∃p q,e=.Call (.Name x p) [a] [] q:=by
 rcases V6 e with⟨f,as,ks,q,rfl⟩|e
 .cases as with
  |nil=>erw[nn h]
  |cons a as=>cases as with
   |cons=>erw[nn h]
   |nil=>cases ks with
    |cons=>erw[nn h]
    |nil=>
     let#[y,h1,h2]:=au.mp h;cases h2;let#[p,rfl]:=E4 h1;exact#[p,q,rfl]
 .erw[nn (e.symm.trans h)]
abbrev cTy(T:Tab)(I:Inf)(e:Expr):Option PL.Ty:=(Ju e).bind λx=>
  if I.gl x then(if x==("int":Str)&&T.iA.contains "int" then ξ .int else if x==("bool":Str)&&T.iA.contains "bool" then ξ .bool else if x==("str":Str)&&T.iA.contains "str" then ξ .str else if x==("list":Str)&&T.iA.contains "list" then ξ .list else ψ) else ψ
abbrev sj(I : Inf)(names : List (Str×NameKind)) : List (Str×NameKind) := names.map λ(n, k) => if k==bV&&I.names.lookup n==ξ .cell then (n, .cell) else (n, k)
abbrev vX(I:Inf)(sc:kO)(xs:List Str):Bool:=
 sc.kind==.function&&sc.names.all (λy=>y.2 !=.cell||sc.names.lookup y.1==ξ .cell)&&sc.names.all (λy=>y.2 !=.local||sc.names.lookup y.1==ξ .local)&&sc.names.all (λy=>y.2 !=.free||I.names.lookup y.1==ξ .cell)
  && xs.all (λx=>sc.names.lookup x==ξ .local||sc.names.lookup x==ξ .cell)&&decide xs.Nodup
abbrev i0(I:Inf)(sc:kO):List Str:=I.N.filter λy=>sc.names.lookup y==ξ .free
abbrev Nw:Expr->Option (List Str)
 |.Name x _=>ξ [x]
 |.Tuple [a,b] _ _=>(Ju a).bind λx=>(Ju b).map λy=>[x,y]
 |_=>ψ
abbrev noStar:Expr->Bool
 |.Starred ..=>ϑ
 |_=>ζ
abbrev zQ:Expr->Bool
 |.ListComp ..=>ϑ
 |.SetComp ..=>ϑ
 |.DictComp ..=>ϑ
 |_=>ζ
abbrev mD:Expr->Bool
 |.Slice ..=>ϑ
 |_=>ζ
abbrev gO:Expr->Bool
 |.Call (.Name _ _) [] [] _=>ϑ
 |_=>ζ
abbrev Rz:Str->Option PL.VN:=λx=>
 if x==("len":Str) then ξ .len else if x==("tuple":Str) then ξ .tuple else if x==("list":Str) then ξ .list
 else if x==("all":Str) then ξ .all else if x==("sum":Str) then ξ .sum else if x==("any":Str) then ξ .any else if x==("dict":Str) then ξ .dict else if x==("max":Str) then ξ .max else ψ
abbrev ixK:Expr->Nat
 |.Attribute ..=>2
 |.Name x _=>if x==("SIGNS":Str) then 0 else 1
 |_=>0
abbrev RA(lx:Nat):Str->Option PL.Nd:=λx=>
 if x==("join":Str) then ξ .join else if x==("index":Str) then ξ (if lx==2 then .xt else .index) else if x==("append":Str) then ξ .append else if x==("extend":Str) then ξ .extend else if x==("startswith":Str) then ξ .startswith else if x==("setdefault":Str) then ξ .nZ else if x==("pop":Str) then ξ .pop else ψ
abbrev aaz:Const->Option U
 |.none=>ξ .b7
 |.bool b=>ξ (.bl b)
 |.int i=>ξ (.int i)
 |.str x=>ξ (.str x.cps.toList)
 |_=>ψ
abbrev Jv(I:Inf)(k:o7):Bool:=match k with
 |⟨kw,v,_⟩=>kw==ξ ("key":Str)&&(match v with
  |.Name l _=>l==("len":Str)&&I.gl l
  |_=>ϑ)
structure CF where
 e:Inf->Expr->Option PL.Ex
 es:Inf->List Expr->Option PL.zG
 bo:Inf->BoolOp->List Expr->Option PL.Ex
 o:Inf->Option Expr->Option PL.Ox
 i:Inf->Expr->Option PL.It
 n:Inf->Expr->Option PL.It
 t:Inf->Expr->Option PL.Tx
 tb:Inf->BoolOp->List Expr->Option PL.Tx
abbrev UD(T:Tab)(F:CF)(I:Inf)(e:Expr):Option PL.Ex:=match e with
  |.Name x _=>match eM x I.N with
   |some i=>if Rx (I.names.lookup x)&&x !=("__debug__":Str)&&x !=("__classdict__":Str) then ξ (.var i) else ψ
   |none=>if I.gl x&&x !=("__debug__":Str) then(BP T.const x).map λp=>.lit p.2 else ψ
  |.Constant c _ _=>(aaz c).map .lit
  |.BinOp a op b _=>do
   let o <-V4 op
   let x <-F.e I a
   let y <-F.e I b
   ξ (.bin o x y)
  |.UnaryOp op a _=>(match op with
   |.USub=>(F.e I a).map .neg
   |.Not=>(F.e I a).map .not
   |_=>ψ)
  |.BoolOp op vs _=>F.bo I op vs
  |.Compare a ops bs _=>(match ops with
   |[op]=>(match bs with
    |[b]=>do
     let o <-UC op b
     let x <-F.e I a
     let y <-F.e I b
     ξ (.cmp o x y)
    |_=>ψ)
   |_=>ψ)
  |.IfExp t a b _=>do
   let c <-F.t I t
   let x <-F.e I a
   let y <-F.e I b
   ξ (.DB c x y)
  |.Call f args kws cp=>(match f with
   |.Name f _=>(match kws with
    |[]=>if I.gl f&&f !=("__debug__":Str) then
      if f==("isinstance":Str)&&T.iA.contains "isinstance" then(match args with
       |[a,t]=>if !noStar a then ψ else(F.e I a).bind λx=>(cTy T I t).map λy=>.Nf x y
       |_=>ψ)
      else match Rz f with
      |some b=>(match (match args with|[a]=>Ry a|_=>ψ) with
       |some o=>if f==("list":Str)&&T.iA.contains "list"&&I.calm&&gO o then(F.e I o).map λx=>.jD .vals x .nil else ψ
       |none=>if (pick T.iA f).isSome && !args.isEmpty&&I.calm then(F.es I args).map (.blt b) else ψ)
      |none=>if !I.calm then ψ else match pick T.fns f with
       |some q=>(F.es I args).map (.call q)
       |none=>match pick T.qW f with
        |some q=>(F.es I args).map (.mk q (q++".__init__"))
        |none=>ψ
     else ψ
    |kw::ks=>(match args with
     |[a]=>if ks.isEmpty&&f==("min":Str)&&Jv I kw&&I.gl f&&T.iA.contains "min"&&T.iA.contains "len"&&I.calm&&noStar a then(F.e I a).map λx=>.blt .vS (.cons x .nil) else ψ
     |_=>ψ))
   |.Attribute o m ap=>if !(kws.isEmpty&&gO o&&ap.endLine==cp.line&&decide (args.length<20)&&I.calm) then ψ else
    match BP T.qX m with
    |some (q,k)=>do
     let x <-F.e I o
     let as <-F.es I args
     ξ (.dm k q (k++"."++q) x as)
    |none=>(match args with
     |[]=>if m==("bit_length":Str) then(F.e I o).map λx=>.jD .nY x .nil else ψ
     |a::as=>if m==("get":Str) then(match as with
       |[d]=>if noStar a&&noStar d then do
         let x <-F.e I o
         let y <-F.e I a
         let z <-F.e I d
         ξ (.jD .get x (.cons y (.cons z .nil)))
        else ψ
       |[]=>if noStar a then do
         let x <-F.e I o
         let y <-F.e I a
         ξ (.jD .get x (.cons y .nil))
        else ψ
       |_=>ψ)
      else match RA (ixK o) m with
      |some b=>do
       let x <-F.e I o
       let as <-F.es I (a::as)
       ξ (.jD b x as)
      |none=>ψ)
   |_=>ψ)
  |.Attribute o f _=>if !gO o then ψ else do
   let q <-pick T.zP f
   let x <-F.e I o
   ξ (.fld x q)
  |.Subscript o i _=>if mD i then do
    let x <-F.e I o
    let y <-F.e I i
    ξ (if dkE i||Ju o==ξ ("texts":Str) then .Jf x y else .ix x y)
   else(match i with
   |.Slice lo hi st _=>(match st with
    |none=>do
     let x <-F.e I o
     let a <-F.o I lo
     let b <-F.o I hi
     ξ (.sl x a b)
    |some _=>ψ)
   |_=>ψ)
  |.Dict ks vs _=>(match ks with
   |[]=>(match vs with
    |[]=>ξ (.dX .nil .nil)
    |_=>ψ)
   |[ξ k]=>(match vs with
    |[v]=>do
     let x <-F.e I k
     let y <-F.e I v
     ξ (.dX (.cons x .nil) (.cons y .nil))
    |_=>ψ)
   |_=>ψ)
  |.List es _=>(F.es I es).map .lst
  |.Tuple es _ _=>(F.es I es).map .tup
  |.ListComp elt gs sc _=>(match gs with
   |[g]=>(match g with
    |⟨tg,iter,ifs,as⟩=>match Nw tg with
     |some xs=>if vX I sc xs&&I.calm&&as==0 then do
       let it <-(match xs with
        |[_]=>F.i I iter
        |_=>F.n I iter)
       let cn:=i0 I sc
       let J:Inf:=#[sj I sc.names,xs++cn,ζ]
       let c <-(match ifs with
        |[]=>ξ (PL.Tx.cY (.lit (.bl ζ)))
        |[c]=>F.t J c
        |_=>ψ)
       let e <-F.e J elt
       let ci <-cn.mapM λy=>eM y I.N
       ξ (.comp (xs.length==2) e it c ci)
      else ψ
     |none=>ψ)
   |_=>ψ)
  |_=>ψ
abbrev Jw(F:CF)(I:Inf):List Expr->Option PL.zG
 |[]=>ξ .nil
 |e::es=>if !noStar e then ψ else do
  let x <-F.e I e
  let xs <-F.es I es
  ξ (.cons x xs)
abbrev Jx(F:CF)(I:Inf)(op:BoolOp):List Expr->Option PL.Ex
 |[]=>ψ
 |[a]=>F.e I a
 |a::b::r=>do
  let x <-F.e I a
  let y <-F.bo I op (b::r)
  ξ (match op with|.And=>.and x y|.Or=>.or x y)
abbrev YF(F:CF)(I:Inf):Option Expr->Option PL.Ox
 |none=>ξ .no
 |some e=>(F.e I e).map .e
abbrev stI(T:Tab)(F:CF)(I:Inf)(e:Expr):Option PL.It:=match YE e with
  |some (f,a)=>if f==("range":Str) then(if I.gl f&&T.iA.contains "range" then(F.e I a).map .range else ψ) else(F.e I e).map .val
  |none=>if Ju e==ξ ("row":Str) then(F.e I e).map .keys else(F.e I e).map .val
abbrev stN(T:Tab)(F:CF)(I:Inf)(e:Expr):Option PL.It:=match YE e with
  |some (f,a)=>if f==("enumerate":Str)&&I.gl f&&T.iA.contains "enumerate"&&noStar a then(F.e I a).map .enum else ψ
  |none=>ψ
abbrev stT(F:CF)(I:Inf)(e:Expr):Option PL.Tx:=match e with
  |.UnaryOp .Not a _=>(F.t I a).map .not
  |.BoolOp op vs _=>F.tb I op vs
  |.IfExp ..=>ψ
  |.Compare a [op] [b] _=>do
   let o <-UC op b
   let x <-F.e I a
   let y <-F.e I b
   ξ (.cY (.cmp o x y))
  |.Compare ..=>ψ
  |_=>(F.e I e).map .cY
abbrev Jy(F:CF)(I:Inf)(op:BoolOp):List Expr->Option PL.Tx
 |[]=>ψ
 |[a]=>F.t I a
 |a::b::r=>do
  let x <-F.t I a
  let y <-F.tb I op (b::r)
  ξ (match op with|.And=>.and x y|.Or=>.or x y)
abbrev sk(T:Tab):Nat->CF
 |0=>#[λ_ _=>ψ,λ_ _=>ψ,λ_ _ _=>ψ,λ_ _=>ψ,λ_ _=>ψ,λ_ _=>ψ,λ_ _=>ψ,λ_ _ _=>ψ]
 |n+1=>#[UD T (sk T n),Jw (sk T n),Jx (sk T n),YF (sk T n),stI T (sk T n),stN T (sk T n),stT (sk T n),Jy (sk T n)]
@[reducible]def cE(T:Tab)(n:Nat):Inf->Expr->Option PL.Ex:=(sk T n).e
@[reducible]def UE(T:Tab)(n:Nat):Inf->List Expr->Option PL.zG:=(sk T n).es
@[reducible]def YG(T:Tab)(n:Nat):Inf->BoolOp->List Expr->Option PL.Ex:=(sk T n).bo
@[reducible]def cO(T:Tab)(n:Nat):Inf->Option Expr->Option PL.Ox:=(sk T n).o
@[reducible]def cI(T:Tab)(n:Nat):Inf->Expr->Option PL.It:=(sk T n).i
@[reducible]def cN(T:Tab)(n:Nat):Inf->Expr->Option PL.It:=(sk T n).n
@[reducible]def cT(T:Tab)(n:Nat):Inf->Expr->Option PL.Tx:=(sk T n).t
@[reducible]def YH(T:Tab)(n:Nat):Inf->BoolOp->List Expr->Option PL.Tx:=(sk T n).tb
section
variable{T:Tab}{n:Nat}{I:Inf}{x:Expr}{xs:List Expr}{p:BoolOp}{y:Option Expr}
def V7:cE T 0 I x=ψ:=rfl
def Nx:cE T (n+1) I x=UD T (sk T n) I x:=rfl
def Po:UE T 0 I xs=ψ:=rfl
def Jz:UE T (n+1) I xs=Jw (sk T n) I xs:=rfl
def V8:YG T 0 I p xs=ψ:=rfl
def JA:YG T (n+1) I p xs=Jx (sk T n) I p xs:=rfl
def aaA:cO T 0 I y=ψ:=rfl
def V9:cO T (n+1) I y=YF (sk T n) I y:=rfl
def aaB:cI T 0 I x=ψ:=rfl
def aaC:cI T (n+1) I x=stI T (sk T n) I x:=rfl
def aaD:cN T 0 I x=ψ:=rfl
def aaE:cN T (n+1) I x=stN T (sk T n) I x:=rfl
def aaF:cT T 0 I x=ψ:=rfl
def aaG:cT T (n+1) I x=stT (sk T n) I x:=rfl
def Wa:YH T 0 I p xs=ψ:=rfl
def JB:YH T (n+1) I p xs=Jy (sk T n) I p xs:=rfl
end
abbrev cIf(T:Tab)(n:Nat)(J:Inf)(ifs:List Expr):Option PL.Tx:=match ifs with
 |[]=>ξ (PL.Tx.cY (.lit (.bl ζ)))
 |[c]=>cT T n J c
 |_=>ψ
def vY(h:cE T (n+1) I (.ListComp elt gs sc pos)=ξ x):
  ∃tg iter ifs xs it c ee ci,gs=[#[tg,iter,ifs,0]]/\Nw tg=ξ xs/\(vX I sc xs=ζ/\I.calm=ζ)/\((∃y,xs=[y])/\cI T n I iter=ξ it\/(¬ ∃y,xs=[y])/\cN T n I iter=ξ it)/\cIf T n #[sj I sc.names,xs++i0 I sc,ζ] ifs=ξ c /\
   cE T n #[sj I sc.names,xs++i0 I sc,ζ] elt=ξ ee/\(i0 I sc).mapM (λy=>eM y I.N)=ξ ci/\x=.comp (xs.length==2) ee it c ci:=by
 rw[Nx] at h
 delta UD at h
 dsimp only at h;split at h
 .rename_i g
  let#[tg,iter,ifs,as]:=g;dsimp only at h;split at h
  .rename_i xs ht
   split at h
   .rename_i hc
    dsimp[ak] at hc;dsimp[aQ,ax] at h;let#[it,h1,c,h2,ee,h3,ci,h4,h5]:=h;injection h5 with h5
    have e0:as=0:=eq_of_beq hc.2;subst e0;refine#[tg,iter,ifs,xs,it,c,ee,ci,rfl,ht,hc.1,?_,h2,h3,h4,h5.symm];split at h1
    .erw[.inl #[#[_,rfl],h1]]
    .rename_i hn
     erw[.inr #[λ⟨y,e⟩=>hn y e,h1]]
   .erw[nn h]
  .erw[nn h]
 .erw[nn h]
def Wb:∀e,(∃x p,e=LR x p)\/(∃es k q,e=Expr.Tuple es k q)\/Nw e=ψ:=by
 intro e;cases e<;>first|exact .inr (.inr rfl)|exact .inl #[_,_,rfl]|exact .inr (.inl #[_,_,_,rfl])
def DP(h:Nw tg=ξ xs):(∃x p,tg=.Name x p/\xs=[x])\/∃x y p p' k q,tg=.Tuple [.Name x p,.Name y p'] k q/\xs=[x,y]:=by
 rcases Wb tg with⟨x,p,rfl⟩|⟨es,k,q,rfl⟩|e
 .erw[.inl #[x,p,rfl,(aG h).symm]]
 .cases es with
  |nil=>erw[nn h]
  |cons a es=>cases es with
   |nil=>erw[nn h]
   |cons b es=>cases es with
    |cons=>erw[nn h]
    |nil=>
     let#[x,h1,h]:=ax.mp h;let#[y,h2,h3]:=au.mp h;let#[p,rfl]:=E4 h1;let#[p',rfl]:=E4 h2;erw[.inr #[x,y,p,p',k,q,rfl,h3.symm]]
 .erw[nn (e.symm.trans h)]
open PL (U SO bH KU Spec cb)
abbrev vZ:Option NameKind->Bool
 |some .local=>ζ
 |some .cell=>ζ
 |_=>ϑ
abbrev DQ:nN->Option PL.GD
 |.Add=>ξ .add|.Sub=>ξ .sub|.BitOr=>ξ .bor|_=>ψ
structure CG where
 s:Inf->Stmt->Option PL.Sm
 ss:Inf->List Stmt->Option PL.dG
abbrev stS(T:Tab)(F:CF)(G:CG)(I:Inf)(s:Stmt):Option PL.Sm:=match s with
  |.Assign ts e _=>(match ts with
   |[t]=>(match t with
    |.Name x _=>(match eM x I.N with
     |some i=>if vZ (I.names.lookup x) then(F.e I e).map (.set i) else ψ
     |none=>ψ)
    |.Attribute o f _=>do
     let q <-pick T.zP f
     let x <-F.e I o
     let y <-F.e I e
     ξ (.n6 x q y)
    |.Subscript o i _=>if mD i&&dkE i then do
      let x <-F.e I o
      let k <-F.e I i
      let y <-F.e I e
      ξ (.nZ x k y)
     else ψ
    |_=>ψ)
   |_=>ψ)
  |.AugAssign t op e _=>(match t with
   |.Name x _=>(match eM x I.N with
    |some i=>if vZ (I.names.lookup x) then do
      let p <-DQ op
      let y <-F.e I e
      ξ (.aug i p y)
     else ψ
    |none=>ψ)
   |.Attribute o f _=>do
    let q <-pick T.zP f
    let p <-DQ op
    let x <-F.e I o
    let y <-F.e I e
    ξ (.DD x q p y)
   |.Subscript o i _=>if mD i then do
     let p <-DQ op
     let x <-F.e I o
     let j <-F.e I i
     let y <-F.e I e
     ξ (.GF x j p y)
    else ψ
   |_=>ψ)
  |.Expr e _=>if zQ e then(F.e I e).map .ex else ψ
  |.Return e _=>(match e with
   |some e=>(F.e I e).map .ret
   |none=>ψ)
  |.If c a b _=>do
   let c <-F.t I c
   let a <-G.ss I a
   let b <-G.ss I b
   ξ (.ifs c a b)
  |.While c b el _=>if el.isEmpty then do
    let c <-F.t I c
    let b <-G.ss I b
    ξ (.CN c b)
   else ψ
  |.For tg it b el _=>if !(I.calm&&el.isEmpty) then ψ else(match Nw tg with
   |some xs=>(match xs with
    |[x]=>(match eM x I.N with
     |some i=>if vZ (I.names.lookup x) then do
       let it <-F.i I it
       let b <-G.ss I b
       ξ (.iz (.name i) it b)
      else ψ
     |none=>ψ)
    |[x,y]=>(match eM x I.N with
     |some i=>(match eM y I.N with
      |some j=>if vZ (I.names.lookup x)&&vZ (I.names.lookup y) then do
        let it <-F.n I it
        let b <-G.ss I b
        ξ (.iz (.pair i j) it b)
       else ψ
      |none=>ψ)
     |none=>ψ)
    |_=>ψ)
   |none=>ψ)
  |.Raise _ _ _=>ξ (.ex (.ix (.lit .b7) (.lit .b7)))
  |.Try b hs el fi _=>(match hs with
   |_::_=>if el.isEmpty&&fi.isEmpty then(G.ss I b).map .UA else ψ
   |[]=>ψ)
  |_=>ψ
abbrev Ny(G:CG)(I:Inf):List Stmt->Option PL.dG
 |[]=>ξ .nil
 |s::ss=>do
  let x <-G.s I s
  let xs <-G.ss I ss
  ξ (.cons x xs)
abbrev G6(T:Tab):Nat->CG
 |0=>#[λ_ _=>ψ,λ_ _=>ψ]
 |n+1=>#[stS T (sk T n) (G6 T n),Ny (G6 T n)]
@[reducible]def cS(T:Tab)(n:Nat):Inf->Stmt->Option PL.Sm:=(G6 T n).s
@[reducible]def L3(T:Tab)(n:Nat):Inf->List Stmt->Option PL.dG:=(G6 T n).ss
def aaJ:cS T 0 I x=ψ:=rfl
def aaK:cS T (n+1) I x=stS T (sk T n) (G6 T n) I x:=rfl
def Wc:L3 T 0 I x=ψ:=rfl
def Pp:L3 T (n+1) I x=Ny (G6 T n) I x:=rfl
open PySem.Spec PyProof.Rows PySem.W
open PL (U SO bH KU Spec cb)
structure Ctx where
 P:bQ
 w:cG
 K:Frag
 mg:Str->Option Value
 base:Heap
 cls:String->Option Addr
noncomputable abbrev nm(s:String):Str:=cv s
abbrev yp(K:Frag)(H:Hp)(a:Addr)(vs:List V):Prop:=
 (∃o,H a=ξ (.sZ o (.lst vs))) \/
  ∃(o:Obj)(its:Array Value)(n:Nat),K.lookup a=ξ o/\o.cls=.type "list"/\o.dict=ψ/\o.data=.seq its n/\its.size<=sizeLine/\Vals vs its.toList
def yp.sq{K:Frag}{H:Hp}{a:Addr}{vs:List V}(h:yp K H a vs):iS K H a vs:=by
 rcases h with⟨o,h⟩|h
 .erw[.inl (.inr #[o,h])]
 .erw[.inr h]
section
variable(c:Ctx)(ρ:List Addr)(H:Hp)
mutual
noncomputable def Rep:U->V->Prop
 |.b7,v=>v=.b7
 |.bl b,v=>v=.bl b
 |.int i,v=>v=.int i
 |.str l,v=>v=.str (tx l)
 |.tup us,v=>∃a vs,v=.ref a/\H a=ξ (.tup vs)/\a9 us vs
 |.loc n,v=>∃a,v=.ref a/\ρ[n]?=ξ a
 |.uQ ns,v=>∃a,v=.ref a/\yp c.K H a (ns.map .int)
 |.tab kvs,v=>∃a,v=.ref a/\Q8 c.K c.w.params a (kvs.map λp=>(tx p.1,V.str (tx p.2)))
noncomputable def a9:List U->List V->Prop
 |[],vs=>vs=[]
 |u::us,vs=>∃v r,vs=v::r/\Rep u v/\a9 us r
end
abbrev uV(a:Addr):SO->Prop
 |.lst us=>∃vs,H a=ξ (.lst vs)/\a9 c ρ H us vs
 |.ins x fs=>∃C dx vs,c.cls x=ξ C/\H a=ξ (.ins C dx vs)/\vs.map (·.1)=(fs.map (·.1)).map nm/\a9 c ρ H (fs.map (·.2)) (vs.map (·.2))
 |.dX kvs=>∃vs,H a=ξ (.dK vs)/\vs.length=kvs.length/\a9 c ρ H (kvs.map (·.1)) (vs.map λp=>kV p.1)/\a9 c ρ H (kvs.map (·.2)) (vs.map (·.2))
 |.vR kvs=>∃o vs,H a=ξ (.sZ o (.dK vs))/\vs.length=kvs.length/\a9 c ρ H (kvs.map (·.1)) (vs.map λp=>kV p.1)/\a9 c ρ H (kvs.map (·.2)) (vs.map (·.2))
 |.uR kvs=>∃vs,H a=ξ (.dT vs)/\vs.map (·.1)=kvs.map (λp=>p.1.map xG)/\a9 c ρ H (kvs.map (·.2)) (vs.map (·.2))
 |.xr kvs=>∃vs,H a=ξ (.dP vs)/\vs.map (·.1)=kvs.map (·.1)/\a9 c ρ H (kvs.map (·.2)) (vs.map (·.2))
structure cH(S:bH):Prop where
 len:ρ.length=S.length
 nd:ρ.Nodup
 at_:∀(n:Nat)(a:Addr)(o:SO),ρ[n]?=ξ a->S[n]?=ξ o->uV c ρ H a o
end
structure iU(ρ:List Addr)(H:Hp)(ρ':List Addr)(H':Hp):Prop where
 pre:∃more,ρ'=ρ++more
 new:∀b∈ρ',b∉ρ->H b=ψ
 fr:∀b o,H b=ξ o->b∉ρ->H' b=ξ o
 fz:∀b o vs,H b=ξ (.sZ o (.dK vs))->H' b=ξ (.sZ o (.dK vs))
section
variable{c:Ctx}{ρ ρ' ρ'':List Addr}{H H' H'':Hp}{S S':bH}
def iU.refl:iU ρ H ρ H:=#[#[[],#v[]],λ_ h n=>absurd h n,λ_ _ h _=>h,λ_ _ _ h=>h]
def iU.trans(a:iU ρ H ρ' H')(b:iU ρ' H' ρ'' H''):iU ρ H ρ'' H'':=by
 let#[m1,e1]:=a.pre;let#[m2,e2]:=b.pre;refine#[#[m1++m2,by rw[e2,e1,bR]],λx hx nx=>?_,λx o h nx=>?_,λx o vs h=>b.fz x o vs (a.fz x o vs h)]
 .by_cases z:x∈ρ'
  .erw[a.new x z nx]
  .cases q:H x with
   |none=>rfl
   |some o=>erw[absurd (a.fr x o q nx) (by rw[b.new x hx z];simp)]
 .have q:=a.fr x o h nx
  by_cases z:x∈ρ'
  .erw[absurd (a.new x z nx) (by rw[h];simp)]
  .erw[b.fr x o q z]
def iU.get(a:iU ρ H ρ' H'){n:Nat}{b:Addr}(h:ρ[n]?=ξ b):ρ'[n]?=ξ b:=by
 let#[m,e]:=a.pre;rw[e,ah (by let#[h,_]:=ab.mp h;erw[h])]
 erw[h]
abbrev zR:HO->Bool
 |.lst _=>ζ
 |.ins _ _ _=>ζ
 |.dK _=>ζ
 |.dT _=>ζ
 |.dP _=>ζ
 |.sZ _ (.dK _)=>ζ
 |_=>ϑ
abbrev RB:HO->Bool
 |.sZ _ _=>ζ
 |_=>ϑ
def cH.obj(R:cH c ρ H S)(h:b∈ρ):∃o,H b=ξ o/\zR o=ζ:=by
 let#[n,hn,e]:=rq h;have hn':n<S.length:=R.len▸hn;have q:=R.at_ n b S[n] (by rw[aa hn,e]) (aa hn');cases o:S[n] with
 |lst us=>rw[o] at q;let#[vs,h,_]:=q;exact#[_,h,rfl]
 |ins x fs=>rw[o] at q;let#[C,dx,vs,_,h,_]:=q;exact#[_,h,rfl]
 |dX kvs=>rw[o] at q;let#[vs,h,_]:=q;exact#[_,h,rfl]
 |vR kvs=>rw[o] at q;let#[o',vs,h,_]:=q;exact#[_,h,rfl]
 |uR kvs=>rw[o] at q;let#[vs,h,_]:=q;exact#[_,h,rfl]
 |xr kvs=>rw[o] at q;let#[vs,h,_]:=q;exact#[_,h,rfl]
def cH.not(R:cH c ρ H S)(h:H b=ξ o)(q:zR o=ϑ):b∉ρ:=λz=>by
 let#[o',h',q']:=R.obj z;rw[h] at h';injection h' with e;subst e
 rw[q] at q';erw[LS q']
def cH.JC(R:cH c ρ H S)(h:H b=ψ):b∉ρ:=λz=>by
 let#[o',h',_]:=R.obj z;rw[h] at h';cases h'
mutual
theorem Rep.iQ(p:∃more,ρ'=ρ++more)(k:∀b o,H b=ξ o->zR o=ϑ->H' b=ξ o):∀{u:U}{v:V},Rep c ρ H u v->Rep c ρ' H' u v
 |.b7,_,h=>by unfold Rep at h ⊢;erw[h]
 |.bl _,_,h=>by unfold Rep at h ⊢;erw[h]
 |.int _,_,h=>by unfold Rep at h ⊢;erw[h]
 |.str _,_,h=>by unfold Rep at h ⊢;erw[h]
 |.tup us,_,h=>by
  unfold Rep at h ⊢;let#[x,vs,e,hx,hs]:=h;exact#[x,vs,e,k x _ hx rfl,a9.iQ p k hs]
 |.loc n,_,h=>by
  unfold Rep at h ⊢;let#[x,e,hx]:=h;let#[m,rfl]:=p;exact#[x,e,by rw[ah (by let#[h,_]:=ab.mp hx;erw[h])];erw[hx]]
 |.uQ ns,_,h=>by
  unfold Rep at h ⊢;let#[x,e,hx]:=h;rcases hx with⟨o,hx⟩|hx
  .exact#[x,e,.inl #[o,k x _ hx rfl]]
  .exact#[x,e,.inr hx]
 |.tab _,_,h=>by unfold Rep at h ⊢;erw[h]
theorem a9.iQ(p:∃more,ρ'=ρ++more)(k:∀b o,H b=ξ o->zR o=ϑ->H' b=ξ o):∀{us:List U}{vs:List V},a9 c ρ H us vs->a9 c ρ' H' us vs
 |[],_,h=>by unfold a9 at h ⊢;erw[h]
 |u::us,_,h=>by
  unfold a9 at h ⊢;let#[v,r,e,h1,h2]:=h;exact#[v,r,e,Rep.iQ p k h1,a9.iQ p k h2]
end
def uV.iQ(p:∃more,ρ'=ρ++more)(m:∀b o,H b=ξ o->zR o=ϑ->H' b=ξ o)(h:uV c ρ H b o)(k:H' b=H b):uV c ρ' H' b o:=by
 cases o with
 |lst us=>let#[vs,h1,h2]:=h;exact#[vs,k.trans h1,h2.iQ p m]
 |ins x fs=>let#[C,dx,vs,h0,h1,h2,h3]:=h;exact#[C,dx,vs,h0,k.trans h1,h2,h3.iQ p m]
 |dX kvs=>let#[vs,h1,h2,h3,h4]:=h;exact#[vs,k.trans h1,h2,h3.iQ p m,h4.iQ p m]
 |vR kvs=>let#[o,vs,h1,h2,h3,h4]:=h;exact#[o,vs,k.trans h1,h2,h3.iQ p m,h4.iQ p m]
 |uR kvs=>let#[vs,h1,h2,h3]:=h;exact#[vs,k.trans h1,h2,h3.iQ p m]
 |xr kvs=>let#[vs,h1,h2,h3]:=h;exact#[vs,k.trans h1,h2,h3.iQ p m]
def iU.imm(R:cH c ρ H S)(a:iU ρ H ρ' H'):∀b o,H b=ξ o->zR o=ϑ->H' b=ξ o:=λb o h q=>a.fr b o h (R.not h q)
def Rep.mono(R:cH c ρ H S)(a:iU ρ H ρ' H')(h:Rep c ρ H u v):Rep c ρ' H' u v:=h.iQ a.pre (a.imm R)
def a9.mono(R:cH c ρ H S)(a:iU ρ H ρ' H')(h:a9 c ρ H us vs):a9 c ρ' H' us vs:=h.iQ a.pre (a.imm R)
def uV.mono(R:cH c ρ H S)(a:iU ρ H ρ' H')(h:uV c ρ H b o)(k:H' b=H b):uV c ρ' H' b o:=h.iQ a.pre (a.imm R) k
def zS(hD:H D=ξ o)(q:zR o=ζ):∀b o,H b=ξ o->zR o=ϑ->upd H D ho b=ξ o:=λb o' h z=>by
 rw[cw]
 .erw[h]
 .intro e;subst e;rw[hD] at h;injection h with h;subst h;rw[q] at z;erw[LS z]
def cH.BQ(R:cH c ρ H S)(ho:HO)(hD:H D=ξ o)(q:zR o=ζ)(n:D∉ρ):cH c ρ (upd H D ho) S:=
 #[R.len,R.nd,λm b o' h1 h2=>(R.at_ m b o' h1 h2).iQ #[[],#v[]] (zS hD q) (cw λe=>n (e▸ag h1))]
def cH.join(R:cH c ρ H S)(n:D∉ρ)(h:uV c ρ H D o):cH c (ρ++[D]) H (S++[o]):=by
 have p:∃more,ρ++[D]=ρ++more:=#[[D],rfl]
 refine#[by simp[R.len],?_,λm a o' h1 h2=>?_]
 .rw[d7]
  exact#[R.nd,#v[],λx hx y hy=>%[aX.mp hy|λe=>n (e▸hx)]]
 .by_cases z:m<ρ.length
  .rw[ah z] at h1
   rw[ah (R.len▸z)] at h2;exact(R.at_ m a o' h1 h2).iQ p (λ_ _ h _=>h) rfl
  .have hz:m=ρ.length:=by
    let#[q,_]:=ab.mp h1;simp at q;omega
   subst hz;rw[aA (ao _),bT] at h1;rw[R.len,aA (ao _),bT] at h2;simp at h1 h2;rw[<-h1,<-h2];erw[h.iQ p (λ_ _ h _=>h) rfl]
def iU.alloc(R:cH c ρ H S)(hp:H p=ψ)(o:HO):iU ρ H (ρ++[p]) (upd H p o):=by
 refine#[#[[p],rfl],λb hb nb=>?_,λb o h nb=>?_,λb o vs h=>%[cw (dO h hp)|h]]
 .rcases aJ.mp hb with h|h
  .erw[absurd h nb]
  .rw[aX.mp h];erw[hp]
 .rw[cw (dO h hp)];erw[h]
def cH.alloc(R:cH c ρ H S)(hp:H p=ψ)(h:uV c (ρ++[p]) (upd H p ho) p o):cH c (ρ++[p]) (upd H p ho) (S++[o]):=by
 have st:=iU.alloc R hp ho;refine#[by simp[R.len],?_,λn a o' h1 h2=>?_]
 .rw[d7]
  exact#[R.nd,#v[],λx hx y hy=>%[aX.mp hy|λe=>R.JC hp (e▸hx)]]
 .by_cases z:n<ρ.length
  .rw[ah z] at h1
   rw[ah (R.len▸z)] at h2;refine(R.at_ n a o' h1 h2).mono R st (cw λe=>?_);erw[R.JC hp (e▸ag h1)]
  .have hz:n=ρ.length:=by
    let#[q,_]:=ab.mp h1;simp at q;omega
   subst hz;rw[aA (ao _),bT] at h1;rw[R.len,aA (ao _),bT] at h2;simp at h1 h2;rw[<-h1,<-h2];erw[h]
def iU.lay(R:cH c ρ H S)(hp:H p=ψ)(o:HO):iU ρ H ρ (upd H p o):=
 #[#[[],#v[]],λ_ h n=>absurd h n,λb _ h _=>%[cw (dO h hp)|h],λb o vs h=>%[cw (dO h hp)|h]]
def cH.lay(R:cH c ρ H S)(hp:H p=ψ)(o:HO):cH c ρ (upd H p o) S:=
 #[R.len,R.nd,λn a o' h1 h2=>(R.at_ n a o' h1 h2).mono R (iU.lay R hp o) (cw λe=>R.JC hp (e▸ag h1))]
def iU.put(h:a∈ρ)(hu:H a=ξ u)(nf:RB u=ϑ)(o:HO):iU ρ H ρ (upd H a o):=
 #[#[[],#v[]],λ_ h n=>absurd h n,λb _ q nb=>by rw[cw (show b≠a from λe=>nb (by rw[e];exact h))];exact q,
  λb o' vs q=>by rw[cw λe=>by rw[e,hu] at q;injection q with q;rw[q] at nf;cases nf];erw[q]]
def cH.put(R:cH c ρ H S)(ha:ρ[n]?=ξ a)(hu:H a=ξ u)(nf:RB u=ϑ)(h:uV c ρ (upd H a ho) a o):cH c ρ (upd H a ho) (S.set n o):=by
 have hm:=ag ha;refine#[by simp[R.len],R.nd,λm b o' h1 h2=>?_];by_cases z:m=n
 .subst z
  rw[ha] at h1;injection h1 with h1;subst h1
  have hl:m<S.length:=R.len▸(ab.mp ha).1;rw[bM hl] at h2;injection h2 with h2;subst h2;erw[h]
 .rw[aj (cM z)] at h2
  refine(R.at_ m b o' h1 h2).mono R (iU.put hm hu nf ho) (cw λe=>z ?_);subst e;let#[l1,e1]:=ab.mp h1;let#[l2,e2]:=ab.mp ha;exact(LM R.nd).mp (e1.trans e2.symm)
def a9.len:∀{us:List U}{vs:List V},a9 c ρ H us vs->us.length=vs.length
 |[],_,h=>by unfold a9 at h;subst h;rfl
 |_::us,_,h=>by
  unfold a9 at h;let#[v,r,e,_,h2]:=h;subst e;rw[aS,aS,a9.len h2]
def a9.nil:a9 c ρ H [] []:=by unfold a9;rfl
def a9.cons(h:Rep c ρ H u v)(t:a9 c ρ H us vs):a9 c ρ H (u::us) (v::vs):=by unfold a9;exact#[v,vs,rfl,h,t]
def a9.app:∀{us ws:List U}{vs xs:List V},a9 c ρ H us vs->a9 c ρ H ws xs->a9 c ρ H (us++ws) (vs++xs)
 |[],_,_,_,h,k=>by unfold a9 at h;subst h;erw[k]
 |u::us,_,_,_,h,k=>by
  unfold a9 at h;let#[v,r,e,h1,h2]:=h;subst e;erw[a9.cons h1 (a9.app h2 k)]
def a9.get:∀{us:List U}{vs:List V}{n:Nat}{u:U},a9 c ρ H us vs->us[n]?=ξ u->∃v,vs[n]?=ξ v/\Rep c ρ H u v
 |[],_,_,_,_,e=>by simp at e
 |u::us,_,n,_,h,e=>by
  unfold a9 at h;let#[v,r,e',h1,h2]:=h;subst e';cases n with
  |zero=>simp at e;subst e;exact#[v,rfl,h1]
  |succ n=>simp at e ⊢;erw[a9.get h2 e]
def a9.take:∀{us:List U}{vs:List V}(n:Nat),a9 c ρ H us vs->a9 c ρ H (us.take n) (vs.take n)
 |_,_,0,_=>by dsimp[List.take_zero];erw[a9.nil]
 |[],_,_+1,h=>by unfold a9 at h;subst h;dsimp[List.take_nil];erw[a9.nil]
 |u::us,_,n+1,h=>by
  unfold a9 at h;let#[v,r,e,h1,h2]:=h;subst e;erw[a9.cons h1 (a9.take n h2)]
def a9.drop:∀{us:List U}{vs:List V}(n:Nat),a9 c ρ H us vs->a9 c ρ H (us.drop n) (vs.drop n)
 |_,_,0,h=>h
 |[],_,_+1,h=>by unfold a9 at h;subst h;dsimp[List.drop_nil];erw[a9.nil]
 |u::us,_,n+1,h=>by
  unfold a9 at h;let#[v,r,e,h1,h2]:=h;subst e;erw[a9.drop n h2]
end
open PL (U SO bH KU Spec cb)
section
variable{X:Cx}{pZ:List (Addr×Obj)}{e:Expr}{es:List Expr}
def PE.imp(h:PE X e t)(q:∀σ H Q,t' σ H Q->t σ H Q):PE X e t':=λpZ s σ H Q I z=>h pZ s σ H Q I (q σ H Q z)
def PT.imp(h:PT X e t)(q:∀σ H Q,t' σ H Q->t σ H Q):PT X e t':=λpZ s σ H Q I z=>h pZ s σ H Q I (q σ H Q z)
end
structure kS(c:Ctx)(ρ:List Addr)(H:Hp)(env:PL.Env)(σ:St):Prop where
 len:env.length=σ.length
 at_:∀(i:Nat)u,env[i]?=ξ (ξ u)->∃v,σ[i]?=ξ (ξ v)/\Rep c ρ H u v
section
variable(c:Ctx)(ρ:List Addr)(H:Hp)
abbrev QV(QU:KU)(Q:VK):Prop:=∀u S' v H' ρ',QU u S'->iU ρ H ρ' H'->cH c ρ' H' S'->Rep c ρ' H' u v->Q v H'
abbrev QB(QU:Bool->bH->Prop)(Q:Bool->Hp->Prop):Prop:=∀b S' H' ρ',QU b S'->iU ρ H ρ' H'->cH c ρ' H' S'->Q b H'
abbrev QA(QU:List U->bH->Prop)(Q:List V->Hp->Prop):Prop:=∀us S' vs H' ρ',QU us S'->iU ρ H ρ' H'->cH c ρ' H' S'->a9 c ρ' H' us vs->Q vs H'
end
section
variable{c:Ctx}{ρ ρ':List Addr}{H H':Hp}{S:bH}
def QV.later(q:QV c ρ H QU Q)(a:iU ρ H ρ' H'):QV c ρ' H' QU Q:=λu S' v H2 ρ2 h b R r=>q u S' v H2 ρ2 h (a.trans b) R r
def QB.later(q:QB c ρ H QU Q)(a:iU ρ H ρ' H'):QB c ρ' H' QU Q:=λu S' H2 ρ2 h b R=>q u S' H2 ρ2 h (a.trans b) R
def QV.now(q:QV c ρ H QU Q)(R:cH c ρ H S)(h:QU u S)(r:Rep c ρ H u v):Q v H:=q u S v H ρ h .refl R r
def kS.later(h:kS c ρ H env σ)(R:cH c ρ H S)(a:iU ρ H ρ' H'):kS c ρ' H' env σ:=
 #[h.len,λi u e=>by let#[v,h1,h2]:=h.at_ i u e;exact#[v,h1,h2.mono R a]]
end
section
variable(c:Ctx)(Γ:cb)
abbrev tE(x:PL.Ex):TE:=λσ H Q=>∃env ρ S QU,kS c ρ H env σ/\cH c ρ H S/\PL.WE Γ x env S QU/\QV c ρ H QU Q
abbrev tT(x:PL.Tx):TT:=λσ H Q=>∃env ρ S QU,kS c ρ H env σ/\cH c ρ H S/\PL.WT Γ x env S QU/\QB c ρ H QU Q
abbrev HP(x:PL.zG):TA:=λσ H Q=>∃env ρ S QU,kS c ρ H env σ/\cH c ρ H S/\PL.xw Γ x env S QU/\QA c ρ H QU Q
end
open PL (U SO bH KU Spec cb)
def qF{n:Nat}(h:n<=1000000):n<=sizeLine:=aI h ⋯
section
variable{c:Ctx}{ρ:List Addr}{H:Hp}{S:bH}
def fq:Rep c ρ H .b7 v↔v=.b7:=by unfold Rep;erw[pe]
def d6:Rep c ρ H (.bl b) v↔v=.bl b:=by unfold Rep;erw[pe]
def aP:Rep c ρ H (.int b) v↔v=.int b:=by unfold Rep;erw[pe]
def bE:Rep c ρ H (.str b) v↔v=.str (tx b):=by unfold Rep;erw[pe]
def dC:Rep c ρ H (.tup us) v↔∃a vs,v=.ref a/\H a=ξ (.tup vs)/\a9 c ρ H us vs:=by unfold Rep;erw[pe]
def eQ:Rep c ρ H (.loc n) v↔∃a,v=.ref a/\ρ[n]?=ξ a:=by unfold Rep;erw[pe]
def sr:Rep c ρ H (.uQ ns) v↔∃a,v=.ref a/\yp c.K H a (ns.map .int):=by unfold Rep;erw[pe]
def va:Rep c ρ H (.tab kvs) v↔∃a,v=.ref a/\Q8 c.K c.w.params a (kvs.map λp=>(tx p.1,V.str (tx p.2))):=by unfold Rep;erw[pe]
def cH.lst(R:cH c ρ H S)(h:S[n]?=ξ (.lst us))(r:Rep c ρ H (.loc n) v):∃a vs,v=.ref a/\ρ[n]?=ξ a/\H a=ξ (.lst vs)/\a9 c ρ H us vs:=by
 let#[a,e,ha]:=eQ.mp r;let#[vs,h1,h2]:=R.at_ n a _ ha h;exact#[a,vs,e,ha,h1,h2]
def cH.ins(R:cH c ρ H S)(h:S[n]?=ξ (.ins x fs))(r:Rep c ρ H (.loc n) v):∃a C dx vs,v=.ref a/\ρ[n]?=ξ a/\c.cls x=ξ C/\H a=ξ (.ins C dx vs)/\vs.map (·.1)=(fs.map (·.1)).map nm/\a9 c ρ H (fs.map (·.2)) (vs.map (·.2)):=by
 let#[a,e,ha]:=eQ.mp r;let#[C,dx,vs,h0,h1,h2,h3]:=R.at_ n a _ ha h;exact#[a,C,dx,vs,e,ha,h0,h1,h2,h3]
def QV.G7(q:QV c ρ H QU Q)(R:cH c ρ H S)(r:a9 c ρ H us vs)(h:QU (.loc S.length) (S++[.lst us]))(hp:H p=ψ):Q (.ref p) (upd H p (.lst vs)):=by
 have st:=iU.alloc R hp (.lst vs);have R':cH c (ρ++[p]) (upd H p (.lst vs)) (S++[.lst us]):=R.alloc hp #[vs,b9,r.mono R st];rwa[q _ _ _ _ _ h st R' (eQ.mpr #[p,rfl,?_])];rw[<-R.len,aA (ao _),bT];rfl
def QV.Nz(q:QV c ρ H QU Q)(R:cH c ρ H S)(r:a9 c ρ H us vs)(h:QU (.tup us) S)(hp:H p=ψ):Q (.ref p) (upd H p (.tup vs)):=by
 have st:=iU.lay R hp (.tup vs);erw[q _ _ _ _ _ h st (R.lay hp _) (dC.mpr #[p,vs,rfl,b9,r.mono R st])]
end
abbrev xB(c:Ctx)(o:PL.GD):R2:=λx y H Q=>∃ux uy ρ S QU,Rep c ρ H ux x/\Rep c ρ H uy y/\cH c ρ H S/\PL.k5 o ux uy S QU/\QV c ρ H QU Q
abbrev NA:PL.GD->nN
 |.add=>.Add|.sub=>.Sub|.mul=>.Mult|.fdiv=>.FloorDiv|.mod=>.Mod|.band=>.BitAnd|.bor=>.BitOr|.shl=>.LShift|.shr=>.RShift
section
variable{X:Cx}{c:Ctx}
def NB:iq X (cV .Add) (xB c .add):=by
 z_go;let#[ux,uy,ρ,S,QU,hx,hy,R,w,q]:=h;cases ux<;>first|exact aW w|skip
 .rename_i i
  let#[j,rfl,w]:=PL.fI.mp w;erw[Qq pZ s σ H x y v u Q I rx ry #[i,j,aP.mp hx,aP.mp hy,q.now R w (aP.mpr rfl)]]
 .rename_i a
  let#[b,rfl,w]:=PL.n9.mp w;erw[GB pZ s σ H x y v u Q I rx ry #[a,b,bE.mp hx,bE.mp hy,qF w.1,q.now R w.2 (bE.mpr rfl)]]
 .rename_i us
  let#[ws,rfl,w]:=PL.Nj.mp w;let#[a,vs,e1,h1,r1]:=dC.mp hx;let#[b,zs,e2,h2,r2]:=dC.mp hy;let#[w1,w2]:=w;by_cases w0:us=[]
  .subst w0
   have ev:vs=[]:=gB (by rw[<-r1.len];rfl);subst ev;erw[Jj pZ s σ H x y v u Q I rx ry #[a,b,zs,e1,e2,lD.of h1,lD.of h2,by rw[<-e2];exact q.now R w2 hy]]
  rwa[MM pZ s σ H x y v u Q I rx ry #[a,b,vs,zs,e1,e2,lD.of h1,lD.of h2,λe=>w0 ?_,qF (by rw[<-r1.len,<-r2.len];erw[w1]),λe=>?_,λ_ p hp=>?_]]
  .erw[gB (by rw[r1.len,e];rfl)]
  .have e3:ws=[]:=gB (by rw[r2.len,e];rfl)
   subst e3;rw[cz] at w2;rw[<-e1]
   erw[q.now R w2 hx]
  .erw[q.Nz R (r1.app r2) w2 hp]
 .rename_i m
  let#[n,rfl,w]:=PL.i4.mp w;let#[us,h1,w1]:=PL.cR.mp w;let#[ws,h2,w2,w3]:=PL.cR.mp w1;let#[a,vs,e1,_,g1,r1]:=R.lst h1 hx;let#[b,zs,e2,_,g2,r2]:=R.lst h2 hy;erw[QY pZ s σ H x y v u Q I rx ry #[a,b,vs,zs,e1,e2,g1,g2,qF (by rw[<-r1.len,<-r2.len];exact w2),λp hp=>q.G7 R (r1.app r2) w3 hp]]
def NC:iq X (cV .Sub) (xB c .sub):=by
 z_go;let#[ux,uy,ρ,S,QU,hx,hy,R,w,q]:=h;let#[i,j,rfl,rfl,w]:=PL.kR w;erw[Qr pZ s σ H x y v u Q I rx ry #[i,j,aP.mp hx,aP.mp hy,q.now R w (aP.mpr rfl)]]
def ND:iq X (cV .Mult) (xB c .mul):=by
 z_go;let#[ux,uy,ρ,S,QU,hx,hy,R,w,q]:=h;let#[i,j,rfl,rfl,w]:=PL.kR w;erw[Qs pZ s σ H x y v u Q I rx ry #[i,j,aP.mp hx,aP.mp hy,w.1,q.now R w.2 (aP.mpr rfl)]]
def JD:iq X (cV .FloorDiv) (xB c .fdiv):=by
 z_go;let#[ux,uy,ρ,S,QU,hx,hy,R,w,q]:=h;let#[i,j,rfl,rfl,w]:=PL.kR w;erw[Mv pZ s σ H x y v u Q I rx ry #[i,j,aP.mp hx,aP.mp hy,w.1,q.now R w.2 (aP.mpr rfl)]]
def NF:iq X (cV .Mod) (xB c .mod):=by
 z_go;let#[ux,uy,ρ,S,QU,hx,hy,R,w,q]:=h;let#[i,j,rfl,rfl,w]:=PL.kR w;erw[Qt pZ s σ H x y v u Q I rx ry #[i,j,aP.mp hx,aP.mp hy,w.1,q.now R w.2 (aP.mpr rfl)]]
def JE:iq X (cV .BitAnd) (xB c .band):=by
 z_go;let#[ux,uy,ρ,S,QU,hx,hy,R,w,q]:=h;let#[i,j,rfl,rfl,w]:=PL.kR w;erw[Qw pZ s σ H x y v u Q I rx ry #[i,j,aP.mp hx,aP.mp hy,by dsimp only;rw[u7 w.1.1 w.1.2];exact q.now R w.2 (aP.mpr rfl)]]
def NG:iq X (cV .BitOr) (xB c .bor):=by
 z_go;let#[ux,uy,ρ,S,QU,hx,hy,R,w,q]:=h;let#[i,j,rfl,rfl,w]:=PL.kR w;erw[Vh pZ s σ H x y v u Q I rx ry #[i,j,aP.mp hx,aP.mp hy,by dsimp only;rw[DJ w.1.1 w.1.2];exact q.now R w.2 (aP.mpr rfl)]]
def NH:iq X (cV .LShift) (xB c .shl):=by
 z_go;let#[ux,uy,ρ,S,QU,hx,hy,R,w,q]:=h;let#[i,j,rfl,rfl,w]:=PL.kR w;let#[#[w1,w2,w3,w4],w5]:=w;erw[Qu pZ s σ H x y v u Q I rx ry #[i,j,aP.mp hx,aP.mp hy,#[w3,∅,∅],q.now R w5 (aP.mpr rfl)]]
def NI:iq X (cV .RShift) (xB c .shr):=by
 z_go;let#[ux,uy,ρ,S,QU,hx,hy,R,w,q]:=h;let#[i,j,rfl,rfl,w]:=PL.kR w;erw[Qv pZ s σ H x y v u Q I rx ry #[i,j,aP.mp hx,aP.mp hy,w.1.2,q.now R w.2 (aP.mpr rfl)]]
abbrev G8(c:Ctx)(o:PL.GD):R2:=λx y H Q=>∃ux uy ρ S QU,Rep c ρ H ux x/\Rep c ρ H uy y/\cH c ρ H S/\PL.zJ o ux uy S QU/\QV c ρ H QU Q
def JF:iq X (iL .Add) (G8 c .add):=by
 z_go;let#[ux,uy,ρ,S,QU,hx,hy,R,w,q]:=h;cases ux<;>first|exact aW w|skip
 .rename_i i
  let#[j,rfl,w]:=PL.fI.mp w;erw[Mw pZ s σ H x y v u Q I rx ry #[i,j,aP.mp hx,aP.mp hy,q.now R w (aP.mpr rfl)]]
 .rename_i a
  let#[b,rfl,w]:=PL.n9.mp w;erw[Dy pZ s σ H x y v u Q I rx ry #[a,b,bE.mp hx,bE.mp hy,qF w.1,q.now R w.2 (bE.mpr rfl)]]
def JG:iq X (iL .Sub) (G8 c .sub):=by
 z_go;let#[ux,uy,ρ,S,QU,hx,hy,R,w,q]:=h;cases ux<;>first|exact aW w|skip
 rename_i i;let#[j,rfl,w]:=PL.fI.mp w;erw[Mx pZ s σ H x y v u Q I rx ry #[i,j,aP.mp hx,aP.mp hy,q.now R w (aP.mpr rfl)]]
def JH:iq X (iL .BitOr) (G8 c .bor):=by
 z_go;let#[ux,uy,ρ,S,QU,hx,hy,R,w,q]:=h;cases ux<;>first|exact aW w|skip
 rename_i i;let#[j,rfl,w]:=PL.fI.mp w;erw[Qx pZ s σ H x y v u Q I rx ry #[i,j,aP.mp hx,aP.mp hy,by dsimp only;rw[DJ w.1.1 w.1.2];exact q.now R w.2 (aP.mpr rfl)]]
def NJ:iq X (cV (NA o)) (xB c o):=by
 cases o
 .erw[NB]
 .erw[NC]
 .erw[ND]
 .erw[JD]
 .erw[NF]
 .erw[JE]
 .erw[NG]
 .erw[NH]
 .erw[NI]
def zT(h:o=.add\/o=.sub\/o=.bor):iq X (iL (NA o)) (G8 c o):=by
 rcases h with rfl|rfl|rfl
 .erw[JF]
 .erw[JG]
 .erw[JH]
abbrev su(c:Ctx)(o:PL.Pe):R2:=λx y H Q=>∃ux uy ρ S,Rep c ρ H ux x/\Rep c ρ H uy y/\cH c ρ H S/\PL.iT o ux uy S λb=>Q (.bl b) H
end
mutual
noncomputable def ox:U->Dv
 |.b7=>.b7
 |.bl b=>.bl b
 |.int i=>.int i
 |.str l=>.str l
 |.tup us=>.tup (kU us)
 |_=>.b7
noncomputable def kU:List U->List Dv
 |[]=>[]
 |u::us=>ox u::kU us
end
section
variable{c:Ctx}{ρ:List Addr}{H:Hp}{S:bH}
mutual
theorem E5:∀{u:U}{v:V},PL.xg u=ζ->Rep c ρ H u v->pA c.K H v (ox u)
 |.b7,_,_,h=>by unfold ox pA;erw[fq.mp h]
 |.bl _,_,_,h=>by unfold ox pA;erw[d6.mp h]
 |.int _,_,_,h=>by unfold ox pA;erw[aP.mp h]
 |.str _,_,_,h=>by unfold ox pA;erw[bE.mp h]
 |.tup us,_,d,h=>by
  unfold ox pA;let#[a,vs,e,h1,h2]:=dC.mp h;exact#[a,vs,e,lD.of h1,v5 (by unfold PL.xg at d;erw[d]) h2]
 |.loc _,_,d,_=>by cases d
 |.uQ _,_,d,_=>by cases d
 |.tab _,_,d,_=>by cases d
theorem v5:∀{us:List U}{vs:List V},PL.kK us=ζ->a9 c ρ H us vs->iZ c.K H vs (kU us)
 |[],_,_,h=>by unfold a9 at h;subst h;unfold kU iZ;trivial
 |u::us,_,d,h=>by
  unfold a9 at h;let#[v,r,e,h1,h2]:=h;subst e;unfold PL.kK at d;rw[ak] at d;unfold kU iZ;exact#[E5 d.1 h1,v5 d.2 h2]
end
end
mutual
theorem RC:∀u:U,PL.xg u=ζ->(ox u).depth=PL.dep u
 |.b7,_=>by simp[ox,Dv.depth,PL.dep]
 |.bl _,_=>by simp[ox,Dv.depth,PL.dep]
 |.int _,_=>by simp[ox,Dv.depth,PL.dep]
 |.str _,_=>by simp[ox,Dv.depth,PL.dep]
 |.tup us,d=>by
  unfold ox Dv.depth PL.dep;rw[zU us (by unfold PL.xg at d;erw[d])]
 |.loc _,d=>by cases d
 |.uQ _,d=>by cases d
 |.tab _,d=>by cases d
theorem zU:∀us:List U,PL.kK us=ζ->Dv.lI (kU us)=PL.n8 us
 |[],_=>by simp[kU,Dv.lI,PL.n8]
 |u::us,d=>by
  unfold PL.kK at d;rw[ak] at d;unfold kU Dv.lI PL.n8;rw[RC u d.1,zU us d.2]
end
mutual
theorem Pq:∀x y:U,PL.xg x=ζ->PL.xg y=ζ->PL.mi x y=CM (ox x) (ox y)
 |.tup us,y,d,d'=>by
  cases y with
  |tup ws=>erw[JI us ws d d']
  |_=>first|rfl|cases d'
 |.loc _,_,d,_|.uQ _,_,d,_|.tab _,_,d,_=>by cases d
 |.b7,y,_,d|.bl _,y,_,d|.int _,y,_,d|.str _,y,_,d=>by cases y<;>first|rfl|cases d
theorem JI:∀xs ys:List U,PL.kK xs=ζ->PL.kK ys=ζ->PL.xv xs ys=qy (kU xs) (kU ys)
 |[],y,_,_=>by cases y<;>rfl
 |_::_,[],_,_=>rfl
 |x::xs,y::ys,d,d'=>by
  have d:=(ak _ _).mp d;have d':=(ak _ _).mp d'
  change (PL.mi x y&&PL.xv xs ys)=(CM (ox x) (ox y)&&qy (kU xs) (kU ys))
  rw[Pq x y d.1 d'.1,JI xs ys d.2 d'.2]
end
def RD:decide (V.str (tx a)=V.str (tx b))=(a==b):=by
 rw[cJ]
 simp[EO]
def E6{c:Ctx}{ρ:List Addr}{H:Hp}{x y:U}{v w:V}(t:PL.Jh x y=ζ)(hx:Rep c ρ H x v)(hy:Rep c ρ H y w):Qz v w=ζ/\decide (v=w)=PL.mi x y:=by
 cases x<;>first|exact ff t| (cases y<;>first|exact ff t| ((first|rw[fq.mp hx]|rw[d6.mp hx]|rw[aP.mp hx]|rw[bE.mp hx]);(first|rw[fq.mp hy]|rw[d6.mp hy]|rw[aP.mp hy]|rw[bE.mp hy]);first|exact#[rfl,rfl]|exact#[rfl,Dc]|exact#[rfl,zo]|exact#[rfl,RD]))
section
variable{X:Cx}{c:Ctx}
def RE:iq X (bF .Eq) (su c .eq):=by
 z_go;let#[ux,uy,ρ,S,hx,hy,R,w0]:=h;let#[#[t,_],w]:=w0;let#[e1,e2]:=E6 t hx hy;erw[Vi pZ s σ H x y v u Q I rx ry #[e1,by rw[e2];exact w]]
def RF:iq X (bF .NotEq) (su c .ne):=by
 z_go;let#[ux,uy,ρ,S,hx,hy,R,w0]:=h;let#[_,#[t,_],w]:=w0;let#[e1,e2]:=E6 t hx hy;erw[Vj pZ s σ H x y v u Q I rx ry #[e1,by rw[e2];exact w]]
end
open PL (U SO bH KU Spec cb)
section
variable{X:Cx}{c:Ctx}
def RG:iq X (bF .Lt) (su c .lt):=by
 z_go;let#[ux,uy,ρ,S,hx,hy,R,w]:=h;let#[i,j,rfl,rfl,w]:=PL.kR w;erw[Vk pZ s σ H x y v u Q I rx ry #[_,_,aP.mp hx,aP.mp hy,w]]
def RH:iq X (bF .LtE) (su c .le):=by
 z_go;let#[ux,uy,ρ,S,hx,hy,R,w]:=h;let#[i,j,rfl,rfl,w]:=PL.kR w;erw[Vl pZ s σ H x y v u Q I rx ry #[_,_,aP.mp hx,aP.mp hy,w]]
def RI:iq X (bF .Gt) (su c .gt):=by
 z_go;let#[ux,uy,ρ,S,hx,hy,R,w]:=h;let#[i,j,rfl,rfl,w]:=PL.kR w;erw[Vm pZ s σ H x y v u Q I rx ry #[_,_,aP.mp hx,aP.mp hy,w]]
def RJ:iq X (bF .GtE) (su c .ge):=by
 z_go;let#[ux,uy,ρ,S,hx,hy,R,w]:=h;let#[i,j,rfl,rfl,w]:=PL.kR w;erw[Vn pZ s σ H x y v u Q I rx ry #[_,_,aP.mp hx,aP.mp hy,w]]
def yq(h:Rep c ρ H u v):decide (v=V.b7)=PL.mj u:=by
 cases u with
 |b7=>rw[fq.mp h];rfl
 |bl b=>rw[d6.mp h];rfl
 |int i=>rw[aP.mp h];rfl
 |str l=>rw[bE.mp h];rfl
 |tup us=>let#[a,vs,e,_]:=dC.mp h;rw[e];rfl
 |loc n=>let#[a,e,_]:=eQ.mp h;rw[e];rfl
 |uQ ns=>let#[a,e,_]:=sr.mp h;rw[e];rfl
 |tab kvs=>let#[a,e,_]:=va.mp h;rw[e];rfl
def RK:iq X (bF .Is) (su c .Nc):=by
 z_go;let#[ux,uy,ρ,S,hx,hy,R,w]:=h;have e:uy=.b7:=by cases uy<;>first|rfl|exact aW w
 subst e;rw[PL.ZI] at w;erw[QC pZ s σ H x y v u Q I rx ry #[fq.mp hy,by rw[yq hx];exact w]]
def JJ:iq X (bF .IsNot) (su c .zF):=by
 z_go;let#[ux,uy,ρ,S,hx,hy,R,w]:=h;have e:uy=.b7:=by cases uy<;>first|rfl|exact aW w
 subst e;rw[PL.Rv] at w;erw[My pZ s σ H x y v u Q I rx ry #[fq.mp hy,by rw[yq hx];exact w]]
def nv(f:PL.flat u=ζ)(h:Rep c ρ H u v):m9 v=ζ:=by
 cases u<;>first|exact ff f| (rw[fq.mp h];rfl)| (rw[d6.mp h];rfl)| (rw[aP.mp h];rfl)| (rw[bE.mp h];rfl)
def zV(f:PL.flat u=ζ)(f':PL.flat u'=ζ)(h:Rep c ρ H u v)(h':Rep c ρ H u' v'):EL v v'=PL.mi u u':=by
 cases u<;>first|exact ff f| (cases u'<;>first|exact ff f'| ((first|rw[fq.mp h]|rw[d6.mp h]|rw[aP.mp h]|rw[bE.mp h]);(first|rw[fq.mp h']|rw[d6.mp h']|rw[aP.mp h']|rw[bE.mp h']);first|rfl|exact cJ.mpr (by rename_i a b;show(tx a==tx b)=ζ↔(a==b)=ζ;simp[Pd])))
def qe(f:PL.flat u=ζ)(h:Rep c ρ H u v):∀{us:List U}{vs:List V},us.all PL.flat=ζ->a9 c ρ H us vs->vs.all m9=ζ/\Yp v vs=us.any λy=>PL.mi y u
 |[],_,_,r=>by unfold a9 at r;subst r;exact#[rfl,rfl]
 |w::us,_,a,r=>by
  unfold a9 at r;let#[x,t,e,h1,h2]:=r;subst e;rw[bS,ak] at a;let#[z1,z2]:=qe f h a.2 h2;refine#[by rw[bS,nv a.1 h1,z1];rfl,?_];unfold Yp at z2 ⊢;rw[dw,dw,z2,zV a.1 f h1 h]
def lookup_tab{kvs:List (List Nat×List Nat)}{k v:List Nat}(h:kvs.lookup k=ξ v):(kvs.map λp=>(tx p.1,V.str (tx p.2))).lookup (tx k)=ξ (V.str (tx v)):=by
 induction kvs with
 |nil=>cases h
 |cons p r ih=>
  let#[a,b]:=p;rw[aw,aN]
  rw[aN] at h;by_cases e:k=a
  .subst e
   simp at h ⊢;erw[h]
  .have e2:(k==a)=ϑ:=by simp[e]
   have e3:(tx k==tx a)=ϑ:=by
    rw[beq_eq_false_iff_ne];erw[λz=>e (qT z)]
   rw[e2] at h;dsimp[e3];erw[ih h]
def BR{kvs:List (List Nat×List Nat)}{k:List Nat}(h:kvs.lookup k=ψ):(kvs.map λp=>(tx p.1,V.str (tx p.2))).lookup (tx k)=ψ:=by
 induction kvs with
 |nil=>rfl
 |cons p r ih=>
  rw[aN] at h;rw[aw,aN]
  cases z:k==p.1 with
  |true=>rw[z] at h;cases h
  |false=>
   rw[z] at h;have:(tx k==tx p.1)=ϑ:=by
    rw[beq_eq_false_iff_ne] at z ⊢;erw[λe=>z (qT e)]
   rw[this]
   erw[ih h]
def JK(hu:PL.xg u=ζ):∀{us:List U},PL.kK us=ζ->((kU us).any λe=>CM e (ox u))=us.any λy=>PL.mi y u
 |[],_=>by unfold kU;rfl
 |w::us,d=>by
  unfold PL.kK at d;rw[ak] at d;unfold kU;rw[dw,dw,JK hu d.2,Pq w u d.1 hu]
def RL(hK:X.K=c.K)(hP:X.w.params=c.w.params):iq X (bF .In) (su c .isin):=by
 z_go;let#[ux,uy,ρ,S,hx,hy,R,w]:=h;cases uy with
 |str b=>
  let#[a,rfl,w]:=PL.n9.mp w;erw[GI pZ s σ H x y v u Q I rx ry #[a,b,bE.mp hx,bE.mp hy,w]]
 |tab kvs=>
  let#[k,rfl,w]:=PL.n9.mp w;let#[a,e,h1]:=va.mp hy;have w:Q (.bl (kvs.lookup k).isSome) H:=w;have ex:=h1.ex;rw[<-hK,<-hP] at ex;cases z:kvs.lookup k with
  |some t=>
   let#[u',_,e2]:=h1.at_ _ _ (lookup_tab z);exact Ji pZ s σ H x y v u Q I rx ry #[a,_,ξ u',bE.mp hx,e,ex,h1.ns,hK▸e2,by rw[z] at w;erw[w]]
  |none=>
   have e2:=h1.no _ (BR z);exact Ji pZ s σ H x y v u Q I rx ry #[a,_,ψ,bE.mp hx,e,ex,h1.ns,hK▸e2,by rw[z] at w;erw[w]]
 |tup us=>
  rw[PL.Rr] at w;let#[#[f,a],w]:=w;let#[p,vs,e,h1,h2]:=dC.mp hy;let#[z1,z2]:=qe f hx a h2;erw[yc pZ s σ H x y v u Q I rx ry #[p,vs,e,.inr (lD.of h1),nv f hx,z1,by rw[z2];exact w]]
 |loc n=>
  rw[PL.Ru] at w;let#[us,g,#[f,a],w]:=PL.cR.mp w;let#[p,vs,e,_,h1,h2]:=R.lst g hy;let#[z1,z2]:=qe f hx a h2;erw[yc pZ s σ H x y v u Q I rx ry #[p,vs,e,.inl (iS.of h1),nv f hx,z1,by rw[z2];exact w]]
 |_=>erw[aW w]
def G9(hK:X.K=c.K)(hu:X.A.units+200<fH):iq X (bF .NotIn) (su c .mh):=by
 z_go;let#[ux,uy,ρ,S,hx,hy,R,w]:=h;cases uy with
 |str b=>
  let#[a,rfl,w]:=PL.n9.mp w;erw[zL pZ s σ H x y v u Q I rx ry #[a,b,bE.mp hx,bE.mp hy,w]]
 |tup us=>
  rw[PL.Rt] at w;let#[#[f,a],w]:=w;let#[p,vs,e,h1,h2]:=dC.mp hy;let#[z1,z2]:=qe f hx a h2;erw[rT pZ s σ H x y v u Q I rx ry #[p,vs,e,.inr (lD.of h1),nv f hx,z1,by rw[z2];exact w]]
 |loc n=>
  by_cases ht:∃ts,ux=.tup ts
  .let#[ts,rfl]:=ht
   rw[PL.Nu] at w;let#[us,g,#[d1,d2,d3],w]:=PL.cR.mp w;let#[p,vs,e,_,h1,h2]:=R.lst g hy;have dt:PL.xg (.tup ts)=ζ:=by unfold PL.xg;erw[d1]
   rwa[GQ hu pZ s σ H x y v u Q I rx ry #[p,vs,kU us,ox (.tup ts),e,iS.of h1,hK▸v5 d2 h2,hK▸E5 dt hx,%[zU us d2|d3],?_]];rw[JK dt d2]
   erw[w]
  have w:PL.getL S[n]? λus=>PL.rX ux us λb=>Q (.bl !b) H:=by
   cases ux<;>first|exact w|exact absurd #[_,rfl] ht
  let#[us,g,#[f,a],w]:=PL.cR.mp w;let#[p,vs,e,_,h1,h2]:=R.lst g hy;let#[z1,z2]:=qe f hx a h2;erw[rT pZ s σ H x y v u Q I rx ry #[p,vs,e,.inl (iS.of h1),nv f hx,z1,by rw[z2];exact w]]
 |_=>erw[aW w]
abbrev v7:U->Key
 |.int i=>.inl i
 |.str l=>.inr (ξ (tx l))
 |_=>.inr ψ
section
variable{ρ:List Addr}{H:Hp}{S:bH}
def kI(hk:PL.mP u=ζ)(r:Rep c ρ H u v):v=kV (v7 u):=by
 cases u<;>first|exact ff hk|skip
 .erw[fq.mp r]
 .erw[aP.mp r]
 .erw[bE.mp r]
def NK(r:Rep c ρ H a (kV b)):PL.mP a=ζ/\v7 a=b:=by
 have nr:∀p,kV b≠V.ref p:=λp=>by rcases b with i|_|x<;>exact λe=>nomatch e
 cases a<;>unfold Rep at r
 .rcases b with i|_|x<;>cases r;exact#[rfl,rfl]
 .rcases b with i|_|x<;>cases r
 .rcases b with i|_|x<;>cases r;exact#[rfl,rfl]
 .rcases b with i|_|x<;>cases r;exact#[rfl,rfl]
 .let#[p,_,e,_]:=r;erw[absurd e (nr p)]
 .let#[p,e,_]:=r;erw[absurd e (nr p)]
 .let#[p,e,_]:=r;erw[absurd e (nr p)]
 .let#[p,e,_]:=r;erw[absurd e (nr p)]
def E7(ha:PL.mP a=ζ)(hu:PL.mP u=ζ):PL.Ph a u=ζ↔v7 a=v7 u:=by
 cases a<;>first|exact ff ha| (cases u<;>first|exact ff hu|skip)
 .exact#[λ_=>rfl,λ_=>rfl]
 .exact#[λe=>ff e,λe=>by cases e]
 .exact#[λe=>ff e,λe=>by cases e]
 .exact#[λe=>ff e,λe=>by cases e]
 .exact#[λe=>congrArg xG (eq_of_beq e),λe=>beq_iff_eq.mpr (A1 e)]
 .exact#[λe=>ff e,λe=>by cases e]
 .exact#[λe=>ff e,λe=>by cases e]
 .exact#[λe=>ff e,λe=>by cases e]
 .exact#[λe=>by rw[eq_of_beq e],λe=>beq_iff_eq.mpr (qT (aG (ue e)))]
def sv(hu:PL.mP u=ζ):∀{kvs:List (U×U)}{vs:List (Key×V)},vs.length=kvs.length->a9 c ρ H (kvs.map (·.1)) (vs.map λp=>kV p.1)->a9 c ρ H (kvs.map (·.2)) (vs.map (·.2)) ->
  (PL.uz u kvs=ψ/\jW vs (v7 u)=ψ)\/∃u' v',PL.uz u kvs=ξ u'/\jW vs (v7 u)=ξ v'/\Rep c ρ H u' v':=by
 intro kvs;induction kvs with
 |nil=>intro vs hl _ _;cases vs with|nil=>erw[.inl #[rfl,rfl]]|cons _ _=>cases hl
 |cons p ps ih=>
  intro vs hl h1 h2;let#[a,w]:=p;cases vs with|nil=>cases hl|cons p vs=>?_
  let#[b,y]:=p;dsimp[aw] at h1 h2;unfold a9 at h1 h2;let#[v1,r1,e1,p1,q1]:=h1;let#[v2,r2,e2,p2,q2]:=h2;cases e1;cases e2;let#[ka,rfl]:=NK p1;unfold PL.uz;by_cases ek:PL.Ph a u=ζ
  .rw[if_pos ek,lG ((E7 ka hu).mp ek)]
   erw[.inr #[w,y,rfl,rfl,p2]]
  .rw[if_neg ek,lH λz=>ek ((E7 ka hu).mpr z)]
   erw[ih (nI hl) q1 q2]
def cH.dd(R:cH c ρ H S)(e:S[n]?=ξ (.dX kvs)\/S[n]?=ξ (.vR kvs))(r:Rep c ρ H (.loc n) v):
  ∃a vs,v=.ref a/\ρ[n]?=ξ a/\Rd H a (.dK vs)/\vs.length=kvs.length/\a9 c ρ H (kvs.map (·.1)) (vs.map λp=>kV p.1)/\a9 c ρ H (kvs.map (·.2)) (vs.map (·.2)):=by
 let#[a,ev,ha]:=eQ.mp r;rcases e with e|e
 .let#[vs,h1,h2]:=R.at_ n a _ ha e
  exact#[a,vs,ev,ha,.inl h1,h2]
 .let#[o,vs,h1,h2]:=R.at_ n a _ ha e
  exact#[a,vs,ev,ha,.inr #[o,h1],h2]
end
def JL(hu:X.A.units+200<fH):iq X (bF .NotIn) (su c .DA):=by
 z_go;let#[ux,uy,ρ,S,hx,hy,R,w]:=h;let#[n,rfl,w]:=PL.i4.mp (show PL.uw _ _ from w);let#[kvs,e,hk,w]:=PL.jr.mp w;let#[a,vs,rfl,_,g1,g2,g3,g4]:=R.dd e hy;cases (show u=bu a from ry);have g:tI H a x (jW vs (v7 ux)):=.inl #[vs,v7 ux,g1,kI hk hx,rfl];rwa[MT ∅ I g rx λs' I'=>#[.bl _,H,I',rfl,?_]]
 rcases sv hk g2 g3 g4 with⟨l1,l2⟩|⟨u',v',l1,l2,_⟩<;>rw[l1] at w<;>rw[l2]<;>exact w
section
variable{ρ:List Addr}{H:Hp}
def kL{u:U}{vs:List V}(h:a9 c ρ H [u] vs):∃v,vs=[v]/\Rep c ρ H u v:=by
 unfold a9 at h;let#[v,r,e,h1,h2]:=h;unfold a9 at h2;subst h2;exact#[v,e,h1]
def yr{u w:U}{vs:List V}(h:a9 c ρ H [u,w] vs):∃v z,vs=[v,z]/\Rep c ρ H u v/\Rep c ρ H w z:=by
 unfold a9 at h;let#[v,r,e,h1,h2]:=h;let#[z,e2,h3]:=kL h2;subst e2;exact#[v,z,e,h1,h3]
def jh:∀{bs:List Int}{vs:List V},a9 c ρ H (bs.map .int) vs->vs=bs.map V.int
 |[],_,h=>by unfold a9 at h;erw[h]
 |t::ts,_,h=>by
  rw[aw] at h;unfold a9 at h;let#[v,r,e,h1,h2]:=h;rw[e,aP.mp h1,jh h2];rfl
end
def NL(hK:X.K=c.K)(hu:X.A.units+200<fH):iq X (bF .Gt) (su c .Uy):=by
 z_go;let#[ux,uy,ρ,S,hx,hy,R,i,a,j,b,rfl,rfl,w]:=h;let#[p,vs,e1,h1,h2]:=dC.mp hx;let#[p',vs',e2,h3,h4]:=dC.mp hy;let#[v1,v2,e3,r1,r2]:=yr h2;let#[v3,v4,e4,r3,r4]:=yr h4;rw[e3,aP.mp r1,bE.mp r2] at h1;rw[e4,aP.mp r3,bE.mp r4] at h3;rwa[Rg hu pZ s σ H x y v u Q I rx ry #[p,p',i,j,tx a,tx b,e1,e2,lD.of h1,lD.of h3,?_]];erw[w]
def NM(hK:X.K=c.K)(hu:X.A.units+200<fH):iq X (bF .Eq) (su c .Uz):=by
 z_go;let#[ux,uy,ρ,S,hx,hy,R,m,n,is,js,rfl,rfl,g1,g2,w]:=h;let#[a,vs,e1,_,k1,k2]:=R.lst g1 hx;let#[b,ws,e2,_,k3,k4]:=R.lst g2 hy;rw[jh k2] at k1;rw[jh k4] at k3;erw[Rh hu pZ s σ H x y v u Q I rx ry #[a,b,is,js,e1,e2,iS.of k1,iS.of k3,w]]
abbrev E8:PL.Pe->Mb
 |.eq=>.Eq|.ne=>.NotEq|.lt=>.Lt|.le=>.LtE|.gt=>.Gt|.ge=>.GtE|.isin=>.In|.mh=>.NotIn|.Nc=>.Is|.zF=>.IsNot|.DA=>.NotIn|.Uy=>.Gt|.Uz=>.Eq
def E9(hK:X.K=c.K)(hP:X.w.params=c.w.params)(hu:X.A.units+200<fH)(o:PL.Pe):iq X (bF (E8 o)) (su c o):=by
 cases o
 .erw[RE]
 .erw[RF]
 .erw[RG]
 .erw[RH]
 .erw[RI]
 .erw[RJ]
 .erw[RL hK hP]
 .erw[G9 hK hu]
 .erw[RK]
 .erw[JJ]
 .erw[JL hu]
 .erw[NL hK hu]
 .erw[NM hK hu]
abbrev aaM(c:Ctx):R2:=λx y H Q=>∃ux uy ρ S,Rep c ρ H ux x/\Rep c ρ H uy y/\cH c ρ H S/\PL.L1 ux uy S λu=>∀v,Rep c ρ H u v->Q v H
def DS(r:a9 c ρ H us vs)(h:PL.qV us i=ξ u):∃v,QP vs i=ξ v/\Rep c ρ H u v:=by
 unfold PL.qV at h;unfold QP;have e:QN vs.length i=PL.Ni us.length i:=by rw[r.len];rfl
 rw[e]
 cases q:PL.Ni us.length i with
 |none=>rw[q] at h;cases h
 |some j=>
  rw[q] at h;erw[r.get h]
def yt:∀{ns:List Int},a9 c ρ H (ns.map .int) (ns.map V.int)
 |[]=>a9.nil
 |n::ns=>a9.cons (aP.mpr rfl) yt
def RM(hK:X.K=c.K)(hP:X.w.params=c.w.params):Uv X (aaM c):=by
 intro value slice pZ s σ H x y v u Q I rx ry h hs;let#[ux,uy,ρ,S,hx,hy,R,w]:=h;cases ux<;>first|exact aW w|skip
 .rename_i l
  let#[i,rfl,w]:=PL.fI.mp w;let#[w1,w2]:=w;let#[k,g,w3]:=PL.jH.mp w2;erw[QR value slice pZ s σ H x y v u Q I rx ry #[_,i,k,bE.mp hx,aP.mp hy,qF (by rw[dU];exact w1),g,w3 _ (bE.mpr rfl)] hs]
 .rename_i us
  let#[i,rfl,w]:=PL.fI.mp w;let#[w1,w2]:=w;let#[k,g,w3]:=PL.jH.mp w2;let#[p,vs,e,h1,h2]:=dC.mp hx;let#[z,e2,r2]:=DS h2 g;erw[QQ value slice pZ s σ H x y v u Q I rx ry #[p,vs,i,z,e,aP.mp hy,lD.of h1,e2,w3 _ r2] hs]
 .rename_i n
  let#[i,rfl,w]:=PL.fI.mp w;let#[us,g0,w1]:=PL.cR.mp w;let#[k,g,w3]:=PL.jH.mp w1;let#[p,vs,e,_,h1,h2]:=R.lst g0 hx;let#[z,e2,r2]:=DS h2 g;erw[EK value slice pZ s σ H x y v u Q I rx ry #[p,vs,i,z,e,aP.mp hy,iS.of h1,e2,w3 _ r2] hs]
 .rename_i ns
  let#[i,rfl,w]:=PL.fI.mp w;let#[w1,w2]:=w;let#[k,g,w3]:=PL.jH.mp w2;let#[p,e,h1]:=sr.mp hx;have g':PL.qV (ns.map U.int) i=ξ (.int k):=by
   unfold PL.qV at g ⊢;rw[ae]
   cases q:PL.Ni ns.length i with
   |none=>rw[q] at g;erw[nn g]
   |some j=>rw[q] at g;simp at g ⊢;erw[g]
  let#[z,e2,r2]:=DS (c:=c) (ρ:=ρ) (H:=H) yt g';erw[EK value slice pZ s σ H x y v u Q I rx ry #[p,_,i,z,e,aP.mp hy,hK▸h1.sq,e2,w3 _ r2] hs]
 .rename_i kvs
  let#[k,rfl,w]:=PL.n9.mp w;let#[z,g,w3]:=PL.jH.mp w;let#[a,e,h1]:=va.mp hx;erw[zE value slice pZ s σ H x y v u Q I rx ry #[a,_,_,_,e,bE.mp hy,by rw[hK,hP];exact h1,lookup_tab g,w3 _ (bE.mpr rfl)] hs]
abbrev aaN(c:Ctx):V->Option Int->Option Int->Hp->VK->Prop:=λx lo hi H Q=>∃ux ρ S QU,Rep c ρ H ux x/\cH c ρ H S/\PL.UB ux lo hi S QU/\QV c ρ H QU Q
def JM{lo:Option Int}{n:Nat}(h:∀i,lo=ξ i->0<=i):HT.jV n 0 lo=min (lo.getD 0).toNat n:=by
 cases lo with
 |none=>simp[HT.jV]
 |some i=>have:=h i rfl;dsimp[HT.jV,fS];rw[if_neg ∅]
def RO(h:∀i,hi=ξ i->0<=i):HT.jV n n hi=min (hi.getD n).toNat n:=by
 cases hi with
 |none=>simp[HT.jV]
 |some i=>have:=h i rfl;dsimp[HT.jV,fS];rw[if_neg ∅]
def Fc{ρ:List Addr}{H:Hp}{us:List U}{vs:List V}{lo hi:Option Int}(h1:∀i,lo=ξ i->0<=i)(h2:∀i,hi=ξ i->0<=i)(r:a9 c ρ H us vs):a9 c ρ H (PL.tP us lo hi) (Br vs lo hi):=by
 unfold PL.tP Br;rw[JM h1,RO h2,<-r.len]
 exact(r.drop _).take _
def RP(hK:X.K=c.K):Vv X (aaN c):=by
 intro pZ s σ H x v vl vu lo hi sl Q I rx hs pl pu h;let#[ux,ρ,S,QU,hx,R,#[#[b1,b2],w],q]:=h;cases ux<;>try exact aW w
 .rename_i l
  let#[w1,w2]:=w;rwa[VM pZ s σ H x v vl vu lo hi sl Q I rx hs pl pu #[l,min (lo.getD 0).toNat l.length,min (hi.getD l.length).toNat l.length,bE.mp hx,qF w1,?_,?_,q.now R w2 (bE.mpr rfl)]]
  .cases lo with
   |none=>erw[.inl #[rfl,#v[]]]
   |some a=>erw[.inr #[a,rfl,b1 a rfl,rfl]]
  .cases hi with
   |none=>erw[.inl #[rfl,#v[]]]
   |some a=>erw[.inr #[a,rfl,b2 a rfl,rfl]]
 .rename_i us
  let#[#[w1,w0,w3],w2]:=w;let#[a,vs,e,g1,g2]:=dC.mp hx;rwa[QM pZ s σ H x v vl vu lo hi sl Q I rx hs pl pu #[a,vs,e,lD.of g1,λz=>?_,λp hp=>q.Nz R (Fc b1 b2 g2) w2 hp]];have z1:=z.1;rw[JM b1,<-g2.len] at z1;have:0<us.length:=F6.mpr w0;omega
 .rename_i n
  let#[us,g0,w1]:=PL.cR.mp w;let#[a,vs,e,_,g1,g2]:=R.lst g0 hx;erw[MN pZ s σ H x v vl vu lo hi sl Q I rx hs pl pu #[a,vs,e,iS.of g1,λp hp=>q.G7 R (Fc b1 b2 g2) w1 hp]]
end
open PL (U SO bH KU Spec cb)
abbrev sA(c:Ctx)(b:PL.VN):List V->Hp->VK->Prop:=λxs H Q=>∃us ρ S QU,a9 c ρ H us xs/\cH c ρ H S/\PL.tQ b us S QU/\QV c ρ H QU Q
abbrev qG(c:Ctx)(m:PL.Nd):V->List V->Hp->VK->Prop:=λx xs H Q=>∃u us ρ S QU,Rep c ρ H u x/\a9 c ρ H us xs/\cH c ρ H S/\PL.qz m u us S QU/\QV c ρ H QU Q
section
variable{X:Cx}{c:Ctx}{ρ:List Addr}{H:Hp}{S:bH}
def JN{u:U}{v:V}{n:Nat}(hK:X.K=c.K)(R:cH c ρ H S)(r:Rep c ρ H u v)(h:PL.nj S u=ξ n)(hn:n<=1000000):Vp X.K v H n\/(∃a kvs,v=.ref a/\H a=ξ (.dK kvs)/\n=kvs.length)\/∃a kvs,v=.ref a/\H a=ξ (.dP kvs)/\n=kvs.length:=by
 cases u with
 |str l=>rw[bE.mp r];obtain rfl:=aG h;erw[.inl #[qF (by rw[dU];exact hn),(dU l).symm]]
 |tup us=>
  let#[a,vs,e,h1,h2]:=dC.mp r;obtain rfl:=aG h;rw[e]
  erw[.inl (.inr #[vs,lD.of h1,h2.len])]
 |uQ ns=>
  let#[a,e,h1]:=sr.mp r;obtain rfl:=aG h;rw[e]
  erw[.inl (.inl #[_,hK▸h1.sq,#v[]])]
 |loc m=>
  unfold PL.nj at h;cases q:S[m]? with
  |none=>dsimp[q] at h;erw[nn h]
  |some o=>
   dsimp[q] at h;cases o with
   |lst us=>
    let#[a,vs,e,_,h1,h2]:=R.lst q r;simp at h;subst h;rw[e]
    erw[.inl (.inl #[vs,iS.of h1,h2.len])]
   |dX kvs=>
    let#[a,e,ha]:=eQ.mp r;let#[vs,h1,h2,_]:=R.at_ m a _ ha q;simp at h;subst h;erw[.inr (.inl #[a,vs,e,h1,h2.symm])]
   |xr kvs=>
    let#[a,e,ha]:=eQ.mp r;let#[vs,h1,h2,_]:=R.at_ m a _ ha q;simp at h;subst h;exact .inr (.inr #[a,vs,e,h1,by have:=congrArg cD h2;simpa using this.symm])
   |ins x fs=>erw[nn h]
   |vR x=>erw[nn h]
   |uR x=>erw[nn h]
 |_=>erw[nn h]
def NN(hK:X.K=c.K):iP X (.builtin "len") (sA c .len):=by
 k_ne;let#[ux,ρ,S,QU,hx,R,w,q]:=h
 match ux,w with
 |[u],w=>
  let#[n,e,w1,w2]:=PL.jH.mp (show PL.opt _ _ from w);let#[v,e1,r1]:=kL hx;rcases JN hK R r1 e w1 with l|⟨a,kvs,e2,g,e3⟩|⟨a,kvs,e2,g,e3⟩
  .erw[IA pZ s σ H xs us Q I r #[v,n,e1,l,q.now R w2 (aP.mpr rfl)]]
  .erw[Gy pZ s σ H xs us Q I r #[a,kvs,by rw[e1,e2],g,by rw[<-e3];exact q.now R w2 (aP.mpr rfl)]]
  .erw[GU pZ s σ H xs us Q I r #[a,kvs,by rw[e1,e2],g,by rw[<-e3];exact q.now R w2 (aP.mpr rfl)]]
def Ha(hK:X.K=c.K):iP X (.type "tuple") (sA c .tuple):=by
 k_ne;let#[ux,ρ,S,QU,hx,R,w,q]:=h
 match ux,w with
 |[.loc n],w=>
  let#[us',e,w1]:=PL.cR.mp (show PL.getL _ _ from w);let#[v,e1,r1]:=kL hx;let#[a,vs,e2,_,g1,g2]:=R.lst e r1;erw[xq pZ s σ H xs us Q I r #[a,vs,by rw[e1,e2],.inl #[iS.of g1,λl hl=>q.Nz R g2 w1 hl]]]
def JO(hK:X.K=c.K):iP X (.type "list") (sA c .list):=by
 k_ne;let#[ux,ρ,S,QU,hx,R,w,q]:=h
 match ux,w with
 |[.loc n],w=>
  let#[us',e,w1]:=PL.cR.mp (show PL.getL _ _ from w);let#[v,e1,r1]:=kL hx;let#[a,vs,e2,_,g1,g2]:=R.lst e r1;erw[rV pZ s σ H xs us Q I r #[a,vs,by rw[e1,e2],.inl (iS.of g1),λl hl=>q.G7 R g2 w1 hl]]
 |[.tup us'],w=>
  let#[v,e1,r1]:=kL hx;let#[a,vs,e2,g1,g2]:=dC.mp r1;erw[rV pZ s σ H xs us Q I r #[a,vs,by rw[e1,e2],.inr (lD.of g1),λl hl=>q.G7 R g2 w.2 hl]]
def qY:∀{bs:List Bool}{vs:List V},a9 c ρ H (bs.map .bl) vs->vs=bs.map V.bl
 |[],_,h=>by unfold a9 at h;erw[h]
 |t::ts,_,h=>by
  rw[aw] at h;unfold a9 at h;let#[v,r,e,h1,h2]:=h;rw[e,d6.mp h1,qY h2];rfl
def JP(hc:X.calm=ζ):iP X (.builtin "all") (sA c .all):=by
 k_ne;let#[ux,ρ,S,QU,hx,R,w,q]:=h
 match ux,w with
 |[.loc n],w=>
  let#[bs,e,w1]:=w;let#[v,e1,r1]:=kL hx;let#[a,vs,e2,_,g1,g2]:=R.lst e r1;rw[qY g2] at g1;erw[DF hc pZ s σ H xs us Q I r #[a,bs,by rw[e1,e2],iS.of g1,q.now R w1 (d6.mpr rfl)]]
def NO(hc:X.calm=ζ):iP X (.builtin "sum") (sA c .sum):=by
 k_ne;let#[ux,ρ,S,QU,hx,R,w,q]:=h
 match ux,w with
 |[.loc n],w=>
  let#[bs,e,w1]:=w;let#[v,e1,r1]:=kL hx;let#[a,vs,e2,_,g1,g2]:=R.lst e r1;rw[jh g2] at g1;erw[DG hc pZ s σ H xs us Q I r #[a,bs,by rw[e1,e2],iS.of g1,q.now R w1 (aP.mpr rfl)]]
def NP(hc:X.calm=ζ):iP X (.builtin "max") (sA c .max):=by
 k_ne;let#[ux,ρ,S,QU,hx,R,w,q]:=h
 match ux,w with
 |[.loc n],w=>
  let#[i,is,e,w1]:=w;let#[v,e1,r1]:=kL hx;let#[a,vs,e2,_,g1,g2]:=R.lst e r1;rw[jh g2] at g1;erw[DL hc pZ s σ H xs us Q I r #[a,i,is,by rw[e1,e2],iS.of g1,λm h1 h2=>q.now R (w1 m h1 h2) (aP.mpr rfl)]]
def JQ(hc:X.calm=ζ):iP X (.builtin "any") (sA c .any):=by
 k_ne;let#[ux,ρ,S,QU,hx,R,w,q]:=h
 match ux,w with
 |[.loc n],w=>
  let#[bs,e,w1]:=w;let#[v,e1,r1]:=kL hx;let#[a,vs,e2,_,g1,g2]:=R.lst e r1;rw[qY g2] at g1;erw[DK hc pZ s σ H xs us Q I r #[a,bs,by rw[e1,e2],iS.of g1,q.now R w1 (d6.mpr rfl)]]
def v8:∀{ps:List (List Nat×U)}{vs:List V},a9 c ρ H (ps.map λp=>.tup [.str p.1,p.2]) vs->∃kvs:List (Key×V),Paired (Rc H) vs kvs/\kvs.map (·.1)=ps.map (λp=>jC (ξ (tx p.1)))/\a9 c ρ H (ps.map (·.2)) (kvs.map (·.2))
 |[],_,h=>by
  unfold a9 at h;subst h;exact#[[],.nil,rfl,a9.nil]
 | (k,u)::ps,_,h=>by
  rw[aw] at h;unfold a9 at h;let#[v,r,e,h1,h2]:=h;subst e;let#[kvs,g1,g2,g3]:=v8 h2;let#[a,vs,e1,ha,hr]:=dC.mp h1;let#[x,y,e2,r1,r2]:=yr hr;subst e2;rw[bE.mp r1] at ha;exact#[(jC (ξ (tx k)),y)::kvs,.cons #[a,e1,ha] g1,by rw[aw,aw,g2],a9.cons r2 g3]
def yu:∀{ks:List (List Nat)},a9 c ρ H (ks.map .str) (ks.map λk=>kV (jC (ξ (tx k))))
 |[]=>a9.nil
 |_::_=>a9.cons (bE.mpr rfl) yu
def JR(hA:X.A.handled=ψ):iP X (.type "dict") (sA c .dict):=by
 k_ne;let#[ux,ρ,S,QU,hx,R,w,q]:=h
 match ux,w with
 |[.loc n],w=>
  let#[ps,e,nd,w1]:=w;let#[v,e1,r1]:=kL hx;let#[a,vs,e2,_,g1,g2]:=R.lst e r1;let#[kvs,k1,k2,k3]:=v8 g2;rwa[DI hA pZ s σ H xs us Q I r #[a,vs,kvs,by rw[e1,e2],g1,k1,?_,λp hp=>?_]]
  .rw[k2,show ps.map (λp=>(jC (ξ (tx p.1)):Key))=(ps.map (·.1)).map (λk=>jC (ξ (tx k))) by rw[bA];rfl]
   erw[xS _ (λa b h e=>h (qT (aG (ue e)))) nd]
  .have st:=iU.alloc R hp (.dK kvs)
   have e5:kvs.map (λp=>kV p.1)=(ps.map (·.1)).map λk=>kV (jC (ξ (tx k))):=by
    rw[show kvs.map (λp=>kV p.1)=(kvs.map (·.1)).map kV by rw[bA];rfl,k2,bA,bA];rfl
   have R':cH c (ρ++[p]) (upd H p (.dK kvs)) (S++[.dX (ps.map λp=>(.str p.1,p.2))]):=R.alloc hp #[kvs,b9,by have:=congrArg cD k2;simpa using this,by
     rw[e5,bA,show(Ez∘λp:List Nat×U=>(U.str p.1,p.2))=U.str∘Ez from rfl,<-bA];erw[yu],by
     rw[bA];erw[k3.mono R st]]
   rwa[q _ _ _ _ _ w1 st R' (eQ.mpr #[p,rfl,?_])];rw[<-R.len,aA (ao _),bT];rfl
def DT:AX X "int.bit_length" (qG c .nY):=by
 intro pZ s σ H x xs v us Q I rx r h;let#[u,ux,ρ,S,QU,hu,hx,R,w,q]:=h
 match u,ux,w with
 |.int i,[],w=>
  let#[w0,w1]:=w;unfold a9 at hx;rwa[GO pZ s σ H x xs v us Q I rx r #[i.toNat,by rw[aP.mp hu];congr 1;omega,hx,q.now R w1 (aP.mpr rfl)]]
def NQ:∀{ps:List (List Nat×U)}{vs:List (Key×V)}{k:List Nat},vs.length=(ps.map λp=>(U.str p.1,p.2)).length->a9 c ρ H ((ps.map λp=>(U.str p.1,p.2)).map (·.1)) (vs.map λp=>kV p.1)->a9 c ρ H ((ps.map λp=>(U.str p.1,p.2)).map (·.2)) (vs.map (·.2)) ->
  (ps.lookup k=ψ/\jW vs (jC (ξ (tx k)))=ψ)\/∃u v,ps.lookup k=ξ u/\jW vs (jC (ξ (tx k)))=ξ v/\Rep c ρ H u v
 := by
 intro ps;induction ps with
 |nil=>intro vs k hl _ _;cases vs with|nil=>erw[.inl #[rfl,rfl]]|cons _ _=>cases hl
 |cons p ps ih=>
  intro vs k hl h1 h2;let#[a,u]:=p;cases vs with|nil=>cases hl|cons p vs=>?_
  let#[b,y]:=p;dsimp[aw] at h1 h2;unfold a9 at h1 h2;let#[v1,r1,e1,p1,q1]:=h1;let#[v2,r2,e2,p2,q2]:=h2;cases e1;cases e2;have eb:b=jC (ξ (tx a)):=by
   have:=bE.mp p1;erw[Q0 (b:=jC (ξ (tx a))) this]
  subst eb;by_cases ek:k=a
  .subst ek
   erw[.inr #[u,y,#v[],lG rfl,p2]]
  .have e3:(k==a)=ϑ:=by simp[ek]
   rw[aN,e3,lH (λz=>ek (qT (aG (ue z))).symm)]
   erw[ih (nI hl) q1 q2]
def join_eq(sep:List Nat):∀ts:List (List Nat),vM sep ts=PL.mm sep ts
 |[]=>rfl
 |[x]=>rfl
 |x::y::r=>by
  unfold vM PL.mm;rw[join_eq sep (y::r)]
def tV:∀{ts:List (List Nat)}{vs:List V},a9 c ρ H (ts.map .str) vs->vs=ts.map λt=>V.str (tx t)
 |[],_,h=>by unfold a9 at h;erw[h]
 |t::ts,_,h=>by
  rw[aw] at h;unfold a9 at h;let#[v,r,e,h1,h2]:=h;rw[e,bE.mp h1,tV h2];rfl
def JS(hK:X.K=c.K):AX X "str.join" (qG c .join):=by
 intro pZ s σ H x xs v us Q I rx r h;let#[u,ux,ρ,S,QU,hu,hx,R,w,q]:=h
 match u,ux,w with
 |.str sep,[.loc n],w=>
  let#[ts,e,w1,w2]:=w;let#[z,e1,r1]:=kL hx;let#[a,vs,e2,_,g1,g2]:=R.lst e r1;rw[tV g2] at g1;erw[ER pZ s σ H x xs v us Q I rx r #[sep,ts,a,bE.mp hu,by rw[e1,e2],iS.of g1,w1,by rw[join_eq];exact q.now R w2 (bE.mpr rfl)]]
def DV:AX X "str.startswith" (qG c .startswith):=by
 intro pZ s σ H x xs v us Q I rx r h;let#[u,ux,ρ,S,QU,hu,hx,R,w,q]:=h
 match u,ux,w with
 |.str l,[.str k],w=>
  let#[z,e1,r1]:=kL hx;erw[ym pZ s σ H x xs v us Q I rx r #[l,k,bE.mp hu,by rw[e1,bE.mp r1],q.now R w (d6.mpr rfl)]]
def Hb(hA:X.A.handled=ψ):AX X "str.index" (qG c .index):=by
 intro pZ s σ H x xs v us Q I rx r h;let#[u,ux,ρ,S,QU,hu,hx,R,w,q]:=h
 match u,ux,w with
 |.str l,[.str k],w=>
  let#[d,e,w1,w2]:=w;subst e;let#[z,e1,r1]:=kL hx;erw[BD hA pZ s σ H x xs v us Q I rx r #[l,d,bE.mp hu,by rw[e1,bE.mp r1],w1,q.now R w2 (aP.mpr rfl)]]
def JT{j:Nat}{u z:U}{v:V}(f:PL.flat u=ζ)(h:Rep c ρ H u v){us:List U}{vs:List V}(a:us.all PL.flat=ζ)(r:a9 c ρ H us vs)(ej:us[j]?=ξ z)(e:PL.mi z u=ζ)(no:∀(i:Nat) (z':U),i<j->us[i]?=ξ z'->PL.mi z' u=ϑ):∃y,vs[j]?=ξ y/\EL y v=ζ/\∀(i:Nat)(y':V),i<j->vs[i]?=ξ y'->EL y' v=ϑ:=by
 have fl:∀(i:Nat)(x:U),us[i]?=ξ x->PL.flat x=ζ:=λi x q=>bK.mp a x (ag q)
 let#[y,h1,h2]:=r.get ej;refine#[y,h1,(zV (fl j z ej) f h2 h).trans e,λi y' lt q=>?_];have il:i<us.length:=j9 lt (ab.mp ej).1;have ei:=aa il;let#[y2,h3,h4]:=r.get ei;rw[q] at h3;cases h3;exact(zV (fl i _ ei) f h4 h).trans (no i _ lt ei)
def JU(hK:X.K=c.K):AX X "tuple.index" (qG c .xt):=by
 intro pZ s σ H x xs v us Q I rx r h;let#[u,ux,ρ,S,QU,hu,hx,R,w,q]:=h
 match u,ux,w with
 |.tup us',[k],w=>
  let#[#[f1,f2],j,z0,e0,e1,no,w2]:=w;let#[z,e2,r1]:=kL hx;let#[a,vs,e3,g1,g2]:=dC.mp hu;let#[y,h1,h2,h3]:=JT f1 r1 f2 g2 e0 e1 no;erw[EZ pZ s σ H x xs v us Q I rx r #[a,z,vs,j,y,e3,e2,lD.of g1,nv f1 r1,(qe f1 r1 f2 g2).1,h1,h2,h3,q.now R w2 (aP.mpr rfl)]]
def QV.putL(q:QV c ρ H QU Q)(R:cH c ρ H S)(ha:ρ[n]?=ξ a)(hw:H a=ξ (.lst ws))(r:a9 c ρ H us vs)(h:QU .b7 (S.set n (.lst us))):Q .b7 (upd H a (.lst vs)):=by
 have st:=iU.put (H:=H) (ag ha) hw rfl (.lst vs);erw[q _ _ _ _ _ h st (R.put ha hw rfl #[vs,b9,r.mono R st]) (fq.mpr rfl)]
def NR:AX X "list.pop" (qG c .pop):=by
 intro pZ s σ H x xs v us Q I rx r h;let#[u,ux,ρ,S,QU,hu,hx,R,w,q]:=h
 match u,ux,w with
 |.loc n,[.int i],w=>
  let#[rfl,w]:=w;let#[us',e,u0,r0,rfl,w2]:=PL.cR.mp w;let#[z,e1,r1]:=kL hx;let#[a,vs,e2,ha,g1,g2]:=R.lst e hu;unfold a9 at g2;let#[v0,vs0,rfl,k1,k2]:=g2;have st:=iU.put (H:=H) (ag ha) g1 rfl (.lst vs0);erw[IS pZ s σ H x xs v us Q I rx r #[a,_,0,0,v0,e2,by rw[e1,aP.mp r1],g1,⋯,⋯,by simp[HG],rfl,q _ _ _ _ _ w2 st (R.put ha g1 rfl #[vs0,b9,k2.mono R st]) (k1.mono R st)]]
def DW:AX X "list.append" (qG c .append):=by
 intro pZ s σ H x xs v us Q I rx r h;let#[u,ux,ρ,S,QU,hu,hx,R,w,q]:=h
 match u,ux,w with
 |.loc n,[k],w=>
  let#[us',e,w1,w2]:=PL.cR.mp (show PL.getL _ _ from w);let#[z,e1,r1]:=kL hx;let#[a,vs,e2,ha,g1,g2]:=R.lst e hu;rwa[tG pZ s σ H x xs v us Q I rx r #[a,vs,z,e2,e1,g1,?_,q.putL R ha g1 (g2.app (a9.cons r1 a9.nil)) w2]];rw[<-g2.len];erw[aD w1 ⋯]
def DX:AX X "list.extend" (qG c .extend):=by
 intro pZ s σ H x xs v us Q I rx r h;let#[u,ux,ρ,S,QU,hu,hx,R,w,q]:=h
 match u,ux,w with
 |.loc n,[.loc m],w=>
  let#[us',e,w1]:=PL.cR.mp (show PL.getL _ _ from w);let#[ws,e',w2,w3]:=PL.cR.mp w1;let#[z,e1,r1]:=kL hx;let#[a,vs,e2,ha,g1,g2]:=R.lst e hu;let#[b,zs,e3,hb,g3,g4]:=R.lst e' r1;erw[ye pZ s σ H x xs v us Q I rx r #[a,b,vs,zs,e2,by rw[e1,e3],g1,g3,qF (by rw[<-g2.len,<-g4.len];exact w2),q.putL R ha g1 (g2.app g4) w3]]
def Fd{κ κ':Type}[BEq κ][LawfulBEq κ][DecidableEq κ'](f:κ->κ')(hf:∀a b,f a=f b->a=b)(k:κ):∀{kvs:List (κ×U)}{vs:List (κ'×V)},vs.map (·.1)=kvs.map (λp=>f p.1)->a9 c ρ H (kvs.map (·.2)) (vs.map (·.2)) ->
  (kvs.lookup k=ψ/\jW vs (f k)=ψ)\/∃u v,kvs.lookup k=ξ u/\jW vs (f k)=ξ v/\Rep c ρ H u v:=by
 intro kvs;induction kvs with
 |nil=>intro vs hk _;cases vs with|nil=>erw[.inl #[rfl,rfl]]|cons _ _=>cases hk
 |cons p ps ih=>
  intro vs hk h2;let#[a,w]:=p;cases vs with|nil=>cases hk|cons p vs=>?_
  let#[b,y]:=p;dsimp[aw,cQ] at h2 hk;unfold a9 at h2;let#[v2,r2,e2,p2,q2]:=h2;cases e2;let#[rfl,hk]:=hk;by_cases e:k=a
  .subst e
   erw[.inr #[w,y,#v[],lG rfl,p2]]
  .have e3:(k==a)=ϑ:=by simp[e]
   rw[aN,e3,lH λz=>e (hf _ _ z).symm]
   erw[ih hk q2]
def QV.RQ(q:QV c ρ H QU Q)(R:cH c ρ H S)(ha:ρ[n]?=ξ a)(e:H a=ξ hw)(nf:RB hw=ϑ)(r:Rep c ρ H u v)(w:QU u (S.set n o))
  (hr:iU ρ H ρ (upd H a ho)->uV c ρ (upd H a ho) a o):Q v (upd H a ho):=by
 have st:=iU.put (H:=H) (ag ha) e nf ho;erw[q _ _ _ _ _ w st (R.put ha e nf (hr st)) (r.mono R st)]
def JV(hu:X.A.units+200<fH):AX X "dict.setdefault" (qG c .nZ):=by
 intro pZ s σ H x xs v us Q I rx r h;let#[u,ux,ρ,S,QU,hu',hx,R,w,q]:=h
 match u,ux,w with
 |.loc n,[k,d],w=>
  have w:PL.pB S n k d QU:=w;let#[a,e0,ha]:=eQ.mp hu';let#[y,z,e1,r1,r2]:=yr hx;rwa[M0 ∅ pZ s σ H x xs v us Q I rx r ?_];unfold PL.pB at w;cases hs:S[n]? with
  |none=>rw[hs] at w;erw[w.elim]
  |some o=>
   rw[hs] at w;cases o with
   |dX kvs=>
    let#[#[hk,hl],w]:=w;let#[vs,g1,g2,g3,g4]:=R.at_ n a _ ha hs;have hl':vs.length<sizeLine:=%[g2|aD hl ⋯]
    rcases sv hk g2 g3 g4 with⟨l1,l2⟩|⟨u',v',l1,l2,l3⟩
    .rw[l1] at w
     refine#[a,y,z,z,_,e0,e1,.inl #[vs,v7 k,g1,kI hk r1,hl',.inr #[l2,rfl,rfl]],q.RQ R ha g1 rfl r2 w λst=>#[_,b9,by simp[g2],?_,?_]]
     .rw[aF,aF]
      exact(g3.mono R st).app (a9.cons (show Rep c ρ _ k (kV (v7 k)) by rw[<-kI hk r1];erw[r1.mono R st]) a9.nil)
     .rw[aF,aF]
      exact(g4.mono R st).app (a9.cons (r2.mono R st) a9.nil)
    .rw[l1] at w
     exact#[a,y,z,v',H,e0,e1,.inl #[vs,v7 k,g1,kI hk r1,hl',.inl #[l2,rfl]],q.now R w l3]
   |uR kvs=>
    let#[ks,rfl,hl,w]:=w;let#[vs,g1,g2,g4]:=R.at_ n a _ ha hs;have hl':vs.length<sizeLine:=by
     have:=congrArg cD g2;simp at this;rw[this];erw[aD hl ⋯]
    let#[b,ws,e2,hb,hw]:=dC.mp r1;rw[jh hw,show ks.map V.int=(ks.map xG).map kV by rw[bA];rfl] at hb;rcases Fd (λl:List Int=>l.map (xG:Int->Key)) (λa b e=>(sX (λ_ _ e=>A1 e)).mp e) ks g2 g4 with⟨l1,l2⟩|⟨u',v',l1,l2,l3⟩
    .rw[l1] at w
     refine#[a,y,z,z,_,e0,e1,.inr (.inl #[vs,_,b,g1,e2,hb,hl',.inr #[l2,rfl,rfl]]),q.RQ R ha g1 rfl r2 w λst=>#[_,b9,by simp[g2],?_]];rw[aF,aF]
     exact(g4.mono R st).app (a9.cons (r2.mono R st) a9.nil)
    .rw[l1] at w
     exact#[a,y,z,v',H,e0,e1,.inr (.inl #[vs,_,b,g1,e2,hb,hl',.inl #[l2,rfl]]),q.now R w l3]
   |xr kvs=>
    let#[i,ks,rfl,hl,w]:=w;let#[vs,g1,g2,g4]:=R.at_ n a _ ha hs;have hl':vs.length<sizeLine:=by
     have:=congrArg cD g2;simp at this;rw[this];erw[aD hl ⋯]
    let#[b,ws,e2,hb,hw]:=dC.mp r1;let#[x1,x2,e3,hi,ht]:=yr hw;let#[b2,ws2,e4,hb2,hw2]:=dC.mp ht;rw[jh hw2] at hb2;rw[e3,aP.mp hi,e4] at hb;rcases Fd (λp:Int×List Int=>p) (λa b e=>e) (i,ks) g2 g4 with⟨l1,l2⟩|⟨u',v',l1,l2,l3⟩
    .rw[l1] at w
     refine#[a,y,z,z,_,e0,e1,.inr (.inr #[vs,(i,ks),b,b2,g1,e2,hb,hb2,hl',.inr #[l2,rfl,rfl]]),q.RQ R ha g1 rfl r2 w λst=>#[_,b9,by simp[g2],?_]];rw[aF,aF]
     exact(g4.mono R st).app (a9.cons (r2.mono R st) a9.nil)
    .rw[l1] at w
     exact#[a,y,z,v',H,e0,e1,.inr (.inr #[vs,(i,ks),b,b2,g1,e2,hb,hb2,hl',.inl #[l2,rfl]]),q.now R w l3]
   |_=>erw[w.elim]
def NS(hK:X.K=c.K)(R:cH c ρ H S)(r:Rep c ρ H u v)(h:PL.tO S u=ξ b):QD X.K v H b:=by
 cases u with
 |b7=>rw[fq.mp r];exact(aG h).symm
 |bl k=>rw[d6.mp r];exact(aG h).symm
 |int i=>rw[aP.mp r];exact(aG h).symm
 |str l=>erw[nn h]
 |tup us=>
  let#[a,vs,e,h1,h2]:=dC.mp r;simp[PL.tO,PL.nj] at h;rw[e]
  rwa[.inr (.inl #[vs,lD.of h1,?_])];have:=h2.len;rw[<-h]
  cases us<;>cases vs<;>simp at this ⊢
 |uQ ns=>
  let#[a,e,h1]:=sr.mp r;simp[PL.tO,PL.nj] at h;rw[e]
  rwa[.inl #[_,hK▸h1.sq,?_]];rw[<-h]
  cases ns<;>simp
 |loc m=>
  unfold PL.tO PL.nj at h;cases q:S[m]? with
  |none=>dsimp[q] at h;erw[nn h]
  |some o=>
   dsimp[q] at h;cases o with
   |lst us=>
    let#[a,vs,e,_,h1,h2]:=R.lst q r;simp at h;rw[e]
    rwa[.inl #[vs,iS.of h1,?_]];have:=h2.len;rw[<-h]
    cases us<;>cases vs<;>simp at this ⊢
   |dX kvs=>
    let#[a,e,ha]:=eQ.mp r;let#[vs,h1,h2,_]:=R.at_ m a _ ha q;simp at h;rw[e]
    rwa[.inr (.inr #[vs,h1,?_])];rw[<-h]
    cases kvs<;>cases vs<;>simp at h2 ⊢
   |ins x fs=>erw[nn h]
   |vR x=>erw[nn h]
   |uR x=>erw[nn h]
   |xr x=>erw[nn h]
 |_=>erw[nn h]
end
open PL (U SO bH KU cb)
structure yw where
 cls:String->Option Addr
noncomputable abbrev Cx.cc(X:Cx)(t:yw):Ctx:=#[X.prog,X.w,X.K,X.mg,X.base,t.cls]
abbrev lift(c:Ctx)(sp:PL.Spec):Sp:=λvs H Q _=>∃us ρ S QU,a9 c ρ H us vs/\cH c ρ H S/\sp us S QU/\QV c ρ H QU Q
abbrev FnAt(c:Ctx)(k:Nat)(f:Addr)(sp:PL.Spec):Prop:=∃fd ps,jU c.P c.w c.K c.mg c.base Ds k f fd ps (lift c sp)/\Binds c.K fd ps []
structure JW(c:Ctx)(T:Tab):Prop where
 const:∀p∈T.const,∃v u,c.mg (nm p.1)=ξ u/\RelV v u/\∀ρ H,Rep c ρ H p.2 v
 iA:∀x∈T.iA,c.mg (nm x)=ψ
 cls:∀x C,c.cls x=ξ C->xX c.K C/\∀f∈T.zP,mN c.K C (nm f)
structure gQ(c:Ctx)(T:Tab)(Γ:cb)(k:Nat):Prop where
 fns:∀x∈T.fns,∃f,c.mg (nm x)=ξ (.ref f)/\Ie c.K (.ref f)=ζ/\FnAt c k f (Γ x)
 UG:∀p∈T.qX,∃C f,c.cls p.2=ξ C/\Meth c.K C (nm p.1) f/\FnAt c k f (Γ (p.2++"."++p.1))
 cls:∀x∈T.qW,∃C f,c.cls x=ξ C/\c.mg (nm x)=ξ (.ref C)/\Mk c.K C f/\FnAt c k f (Γ (x++".__init__"))
structure Good(t:yw)(T:Tab)(Γ:cb)(k:Nat)(I:Inf)(X:Cx):Prop where
 tab:JW (X.cc t) T
 RS:gQ (X.cc t) T Γ k
 kind:X.env.scope.kind=.function
 names:X.env.scope.names=I.names
 slots:X.N=I.N
 nd:X.N.Nodup
 calm:I.calm=ζ->X.calm=ζ/\jT (k+1) X.A
 units:X.A.units+200<fH
 xe:X.xe=λ_ _=>False
abbrev DY(c:Ctx)(ρ:List Addr)(H:Hp)(J:It)(us:List U)(g:bH->Prop):Prop:=
 ∀(i:Nat)(ρ2:List Addr)(H2:Hp)(S2:bH),iU ρ H ρ2 H2->cH c ρ2 H2 S2->g S2 ->
  (∀u,us[i]?=ξ u->J.go i H2/\∀y H3,J.Vc i H2 y H3->iU ρ2 H2 ρ2 H3/\cH c ρ2 H3 S2/\Rep c ρ2 H3 u y)/\(us.length<=i->J.stop i H2)
abbrev QI(c:Ctx)(ρ:List Addr)(H:Hp)(RU:List U->(bH->Prop)->bH->Prop)(R:It->Hp->Prop):Prop:=
 ∀us g S' H' ρ' J,RU us g S'->iU ρ H ρ' H'->cH c ρ' H' S'->DY c ρ' H' J us g->R J H'
abbrev BS(c:Ctx)(Γ:cb)(x:PL.It):TI:=λσ H R=>∃env ρ S RU,kS c ρ H env σ/\cH c ρ H S/\PL.WI Γ x env S RU/\QI c ρ H RU R
abbrev QO(c:Ctx)(ρ:List Addr)(H:Hp)(QU:Option Int->bH->Prop)(Q:Option Int->Hp->Prop):Prop:=∀o S' H' ρ',QU o S'->iU ρ H ρ' H'->cH c ρ' H' S'->Q o H'
abbrev YI(c:Ctx)(Γ:cb)(x:PL.Ox):TO:=λσ H Q=>∃env ρ S QU,kS c ρ H env σ/\cH c ρ H S/\PL.WO Γ x env S QU/\QO c ρ H QU Q
structure Hc(t:yw)(T:Tab)(Γ:cb)(k n:Nat):Prop where
 fe:∀{I X e x},Good t T Γ k I X->cE T n I e=ξ x->PE X e (tE (X.cc t) Γ x)
 Wd:∀{I X es xs},Good t T Γ k I X->UE T n I es=ξ xs->PA X es (HP (X.cc t) Γ xs)
 fbo:∀{I X op vs x pos},Good t T Γ k I X->YG T n I op vs=ξ x->PE X (.BoolOp op vs pos) (tE (X.cc t) Γ x)
 fo:∀{I X oe x},Good t T Γ k I X->cO T n I oe=ξ x->PO X oe (YI (X.cc t) Γ x)
 fi:∀{I X e x tg},Good t T Γ k I X->cI T n I e=ξ x->PI X tg e (BS (X.cc t) Γ x)
 fn:∀{I X e x es ek tp},Good t T Γ k I X->cN T n I e=ξ x->PI X (.Tuple es ek tp) e (BS (X.cc t) Γ x)
 ft:∀{I X e x},Good t T Γ k I X->cT T n I e=ξ x->PT X e (tT (X.cc t) Γ x)
 ftb:∀{I X op vs x pos},Good t T Γ k I X->YH T n I op vs=ξ x->PW X (.BoolOp op vs pos) (tT (X.cc t) Γ x)
section
variable{t:yw}{T:Tab}{Γ:cb}{k n:Nat}{I:Inf}{X:Cx}
def fF:∀{l:List Str}{i:Nat},eM x l=ξ i->l[i]?=ξ x
 |[],_,h=>nn h
 |y::ys,i,h=>by
  unfold eM at h;by_cases e:y=x
  .rw[if_pos e] at h;injection h with h;subst h;subst e;rfl
  .rw[if_neg e] at h
   cases q:eM x ys with
   |none=>rw[q] at h;cases h
   |some j=>rw[q] at h;simp at h;subst h;simpa using fF q
def RT(h:Rx (names.lookup x)=ζ)(e:sc.names=names):UT sc x:=by
 rw[<-e] at h;unfold UT;cases q:sc.names.lookup x with
 |none=>rw[q] at h;cases h
 |some kd=>rw[q] at h;cases kd<;>first|exact ff h|simp
def NT(G:Good t T Γ k I X)(h:eM x I.N=ξ i)(hv:Rx (I.names.lookup x)=ζ)(h1:(x==("__debug__":Str))=ϑ)(h2:(x==("__classdict__":Str))=ϑ):PE X (.Name x pos) (tE (X.cc t) Γ (.var i)):=by
 refine(P8 (i:=i) (by show X.N[i]?=ξ x;rw[G.slots];erw[fF h]) (RT hv G.names) h1 h2).imp ?_;rintro σ H Q ⟨env,ρ,S,QU,he,R,w,q⟩;let#[u,e,w]:=PL.BE.mp (show PL.zH _ _ from w);let#[v,e1,r]:=he.at_ i u e;exact#[v,e1,q.now R w r]
def sC{e:Expr}{u:U}{v:V}(h:PE X e (tC v))(r:∀ρ H,Rep (X.cc t) ρ H u v):PE X e (tE (X.cc t) Γ (.lit u)):=by
 rwa[h.imp ?_];kd_p;erw[q.now R w (r ρ H)]
def ny(h:pick l x=ξ s):s∈l/\nm s=x:=by
 unfold pick at h;exact#[zf h,~~~(Mh h)]
def yx{α:Type}{l:List (String×α)}{x:Str}{s:String×α}(h:BP l x=ξ s):s∈l/\nm s.1=x:=by
 unfold BP at h;exact#[zf h,~~~(Mh h)]
def ju(G:Good t T Γ k I X){x:Str}(h:I.gl x=ζ):Gl X x:=by
 unfold Inf.gl at h;show X.env.scope.names.lookup x=_;rw[G.names]
 simpa using h
def JX{x:Str}{pos:Pos}{p:String×U}(G:Good t T Γ k I X)(hg:I.gl x=ζ)(h:BP T.const x=ξ p)(h1:(x==("__debug__":Str))=ϑ):PE X (.Name x pos) (tE (X.cc t) Γ (.lit p.2)):=by
 let#[hm,e]:=yx h;let#[v,u,e1,rv,r]:=G.tab.const p hm;subst e;erw[sC (Mo (ju G hg) e1 rv h1) r]
def RV(G:Good t T Γ k I X)(ho:V4 op=ξ o)(ha:PE X a (tE (X.cc t) Γ x))(hb:PE X b (tE (X.cc t) Γ y)):PE X (.BinOp a op b pos) (tE (X.cc t) Γ (.bin o x y)):=by
 have e:op=NA o:=by
  cases op<;>first|exact nn ho| (cases ho;rfl)
 rw[e]
 refine(Ve (NJ (c:=X.cc t)) ha hb).imp ?_;kd_p;x_go;refine#[env,ρ1,S1,_,he.later R st1,R1,w1,λu2 S2 v2 H2 ρ2 w2 st2 R2 r2=>?_];exact#[u,u2,ρ2,S2,QU,r1.mono R1 st2,r2,R2,w2,q.later (st1.trans st2)]
def JY(ho:UC op b=ξ o):op=E8 o:=by
 unfold UC at ho;split at ho
 .rename_i hc
  cases op<;>first|exact ff hc| (cases ho;rfl)
 split at ho
 .rename_i hc
  cases op<;>first|exact ff hc| (cases ho;rfl)
 split at ho
 .rename_i hc
  cases op<;>first|exact ff hc| (cases ho;rfl)
 .cases op<;>first|exact nn ho| (cases ho;rfl)
def RW(G:Good t T Γ k I X)(ho:UC op b=ξ o)(hm:behindInMarks op b=ϑ)(ha:PE X a (tE (X.cc t) Γ x))(hb:PE X b (tE (X.cc t) Γ y)):PE X (.Compare a [op] [b] pos) (tE (X.cc t) Γ (.cmp o x y)):=by
 have e:op=E8 o:=JY ho;subst e;refine(Mz (E9 (c:=X.cc t) rfl rfl G.units o) ha hb hm).imp ?_;kd_p;x_go;refine#[env,ρ1,S1,_,he.later R st1,R1,w1,λu2 S2 v2 H2 ρ2 w2 st2 R2 r2=>?_];refine#[u,u2,ρ2,S2,r1.mono R1 st2,r2,R2,PL.yo (λr h=>?_) w2];exact(q.later (st1.trans st2)).now R2 h (d6.mpr rfl)
def NU(G:Good t T Γ k I X)(ho:UC op b=ξ o)(hm:behindInMarks op b=ϑ)(ha:PE X a (tE (X.cc t) Γ x))(hb:PE X b (tE (X.cc t) Γ y)):PT X (.Compare a [op] [b] pos) (tT (X.cc t) Γ (.cY (.cmp o x y))):=by
 have e:op=E8 o:=JY ho;subst e;refine(MA (E9 (c:=X.cc t) rfl rfl G.units o) ha hb hm).imp ?_;kd_p;x_go;refine#[env,ρ1,S1,_,he.later R st1,R1,w1,λu2 S2 v2 H2 ρ2 w2 st2 R2 r2=>?_];refine#[u,u2,ρ2,S2,r1.mono R1 st2,r2,R2,PL.yo (λr h=>#[r,rfl,?_]) w2];exact(q.later (st1.trans st2)) _ _ _ _ h .refl R2
end
open PL (U SO bH KU cb)
def cZ(h:noStar e=ζ):bD (e::es) env=(ϑ,eval e env)::bD es env:=by
 cases e<;>first|rfl|cases h
def v9:∀{es:List Expr},es.all noStar=ζ->bD es env=es.map λe=>(ϑ,eval e env)
 |[],_=>rfl
 |e::es,h=>by
  rw[bS,ak] at h;rw[cZ h.1,v9 h.2];rfl
def fm(h:gO o=ζ):iN o m env (eval o env)=eval o env:=by
 cases o with
 |Call f args kws pos=>
  cases f with
  |Name id p=>
   cases args with
   |nil=>
    cases kws with
    |nil=>cases h
    |cons k ks=>rfl
   |cons a as=>rfl
  |_=>rfl
 |_=>rfl
def BU(h:zQ e=ζ):iK e tg l env=pure ϑ:=by
 cases e<;>first|rfl|cases h
def fQ(h:es.all noStar=ζ):(fP pos (bD es env)).any (·.1)=ϑ:=by
 rw[v9 h]
 unfold fP;simp
def yy(h:es.all noStar=ζ)(hn:es.length<20):CZ (es.length+([]:List o7).length) (fP pos (bD es env)) (backToKw pos (gS [] env))=ζ:=by
 rw[v9 h]
 have e:gS [] env=[]:=rfl;rw[e]
 unfold CZ fP;simp[backToKw]
 omega
def yz(h0:gO o=ζ)(hst:args.all noStar=ζ)(hn:args.length<20)(hl:(apos.endLine==pos.line)=ζ):
  eval (.Call (.Attribute o m apos) args [] pos) env=(do
   let ov <-eval o env
   standAt apos.atName
   let (f,first) <-holding [ov] (yY ov m (do return (<-importBound o env).getD ζ))
   callWith pos f first (fP pos (bD args env)) (backToKw pos (gS [] env))):=by
 change (do
  let ov <-iN o m env (eval o env)
  standAt apos.atName
  methodCall o m apos pos env ov (args.length+[].length) (fP pos (bD args env)) (backToKw pos (gS [] env)))=_
 dsimp[fm h0,methodCall,yy hst hn,calleeOf,methodCallPos,hl]
 rfl
open PL (U SO bH KU cb)
section
variable{X:Cx}{k:Nat}{f C:Addr}{fd:fT}{ps:List Str}{sp:Sp}{x m:Str}{p pos apos:Pos}{e o:Expr}{es:List Expr}{ta:TA}{to:TE}
def aaQ(F:jU X.prog X.w X.K X.mg X.base Ds k f fd ps sp)(hr:jT k X.A)(hg:Gl X x)(hm:X.mg x=ξ (.ref f))(hk:Ie X.K (.ref f)=ζ)(hb:Binds X.K fd ps [])(ha:PA X (e::es) ta)
  (hdb:(x==("__debug__":Str))=ϑ) (he:noStar e=ζ) (hes:es.all noStar=ζ):PE X (.Call (.Name x p) (e::es) [] pos) (λσ H Q=>ta σ H λvs H1=>sp vs H1 Q E0):=
 (MF F hr hg hm hk hb .nil yg ha hdb (cZ he) (fQ hes)).imp λσ H Q h=>by unfold ID;dsimp[cz];erw[h]
def aaR(he:PE X o to)(c:xX X.K C)(hm:Meth X.K C m f)(F:jU X.prog X.w X.K X.mg X.base Ds k f fd ps sp)(hr:jT k X.A)(hb:Binds X.K fd ps [])(ha:PA X (e::es) ta)
  (h0:gO o=ζ) (hn:(e::es).length<20) (hl:(apos.endLine==pos.line)=ζ) (hse:noStar e=ζ) (hes:es.all noStar=ζ):
  PE X (.Call (.Attribute o m apos) (e::es) [] pos) (λσ H Q=>to σ H λx H1=>∃a dx fs,x=.ref a/\H1 a=ξ (.ins C dx fs)/\fs.lookup m=ψ/\ta σ H1 λvs H2=>sp (x::vs) H2 Q E0):=
 (MG he c hm F hr hb .nil yg ha (cZ hse) (fQ hes) (yz h0 (by rw[bS,hse,hes];rfl) hn hl)).imp λσ H Q h=>by unfold IE;dsimp[cz];erw[h]
def aaS(M:Mk X.K C f)(F:jU X.prog X.w X.K X.mg X.base Ds k f fd ps sp)(hr:jT (k+1) X.A)(hg:Gl X x)(hm:X.mg x=ξ (.ref C))(hb:Binds X.K fd ps [])(ha:PA X (e::es) ta)
  (hdb:(x==("__debug__":Str))=ϑ) (he:noStar e=ζ) (hes:es.all noStar=ζ):PE X (.Call (.Name x p) (e::es) [] pos) (λσ H Q=>ta σ H λvs H1=>∀x dx,H1 x=ψ->H1 dx=ψ->dx≠x ->
   sp (.ref x::vs) (upd (upd H1 dx (.own x)) x (.ins C dx [])) (λv H2=>v=.b7/\Q (.ref x) H2) E0):=
 (MH M F hr hg hm hb .nil yg ha hdb (cZ he) (fQ hes)).imp λσ H Q h=>by unfold IF;dsimp[cz];erw[h]
end
section
variable{t:yw}{T:Tab}{Γ:cb}{k n:Nat}{I:Inf}{X:Cx}
def oy:∀{n:Nat}{I:Inf}{es:List Expr}{xs:PL.zG},UE T n I es=ξ xs->es.all noStar=ζ
 |0,_,_,_,h=>by rw[Po] at h;cases h
 |n+1,I,[],_,_=>rfl
 |n+1,I,e::es,_,h=>by
  rw[Jz,Jw] at h;by_cases z:noStar e=ζ
  .dsimp[z,bG,av,if_false,aQ,ax] at h
   let#[x,_,xs,h2,_]:=h;rw[bS,z,oy h2];rfl
  .simp[z] at h
def RX(IH:Hc t T Γ k n)(G:Good t T Γ k I X):∀{es:List Expr}{xs:PL.zG},UE T (n+1) I es=ξ xs->PA X es (HP (X.cc t) Γ xs)
 |[],xs,h=>by
  rw[Jz,Jw] at h;injection h with h;subst h
  rwa[λpos pins' s σ H Q J z=>vD pos pins' s σ H Q J ?_]
  let#[env,ρ,S,QU,he,R,w,q]:=z;erw[q [] S [] H ρ w .refl R a9.nil]
 |e::es,xs,h=>by
  have st:=oy h;rw[bS,ak] at st;rw[Jz,Jw] at h;dsimp[st.1,bG,av,if_false,aQ,ax] at h;let#[x,h1,ys,h2,h3]:=h;injection h3 with h3;subst h3
  have P:=pS (IH.fe G h1) (IH.Wd G h2) (cZ st.1);rwa[λpos pins' s σ H Q J z=>P pos pins' s σ H Q J ?_]
  let#[env,ρ,S,QU,he,R,w,q]:=z;x_go;refine#[env,ρ1,S1,_,he.later R st1,R1,w1,λus S2 vs H2 ρ2 w2 st2 R2 r2=>?_];erw[q _ _ _ _ _ w2 (st1.trans st2) R2 (a9.cons (r1.mono R1 st2) r2)]
def RY(ha:PE X a (tE (X.cc t) Γ x)):PE X (.UnaryOp .USub a pos) (tE (X.cc t) Γ (.neg x)):=by
 refine(Vf Qy ha).imp ?_;kd_p;x_go;let#[i,e,w2]:=PL.fI.mp w1;subst e;exact#[i,aP.mp r1,(q.later st1).now R1 w2 (aP.mpr rfl)]
def RZ(ha:PE X a (tE (X.cc t) Γ x)):PE X (.UnaryOp .Not a pos) (tE (X.cc t) Γ (.not x)):=by
 refine(Qh ha).imp ?_;kd_p;x_go;let#[i,e,w2]:=PL.zI.mp w1;subst e;exact#[i,d6.mp r1,(q.later st1).now R1 w2 (d6.mpr rfl)]
def R6(IH:Hc t T Γ k n)(G:Good t T Γ k I X):∀{vs:List Expr}{x:PL.Ex},YG T (n+1) I op vs=ξ x->PE X (.BoolOp op vs pos) (tE (X.cc t) Γ x)
 |[],x,h=>by rw[JA,Jx] at h;cases h
 |[a],x,h=>by
  rw[JA,Jx] at h;rwa[Qf (IH.fe G h)]
 |a::b::r,y,h=>by
  rw[JA,Jx] at h;dsimp[aQ,ax] at h;let#[x,h1,z,h2,h3]:=h;injection h3 with h3;subst h3
  cases op with
  |And=>
   refine(Qg (IH.fe G h1) (IH.fbo G h2)).imp ?_;kd_p;x_go;let#[i,e,w2]:=PL.zI.mp w1;subst e;refine#[i,d6.mp r1,?_];cases i with
   |true=>exact#[env,ρ1,S1,QU,he.later R st1,R1,w2,q.later st1]
   |false=>exact(q.later st1).now R1 w2 (d6.mpr rfl)
  |Or=>
   refine(U1 (IH.fe G h1) (IH.fbo G h2)).imp ?_;kd_p;x_go;let#[i,e,w2]:=PL.zI.mp w1;subst e;refine#[i,d6.mp r1,?_];cases i with
   |true=>exact(q.later st1).now R1 w2 (d6.mpr rfl)
   |false=>exact#[env,ρ1,S1,QU,he.later R st1,R1,w2,q.later st1]
def We(hc:PT X c (tT (X.cc t) Γ x))(ha:PE X a (tE (X.cc t) Γ y))(hb:PE X b (tE (X.cc t) Γ z)):PE X (.IfExp c a b pos) (tE (X.cc t) Γ (.DB x y z)):=by
 refine(Iq hc ha hb).imp ?_;kd_p;refine#[env,ρ,S,_,he,R,w,λb S1 H1 ρ1 w1 st1 R1=>?_];cases b with
 |true=>exact#[env,ρ1,S1,QU,he.later R st1,R1,w1,q.later st1]
 |false=>exact#[env,ρ1,S1,QU,he.later R st1,R1,w1,q.later st1]
def R7(ha:PA X es (HP (X.cc t) Γ xs)):PE X (.Tuple es j pos) (tE (X.cc t) Γ (.tup xs)):=by
 refine(QH ha).imp ?_;kd_p;refine#[env,ρ,S,_,he,R,w,λus S1 vs H1 ρ1 w1 st1 R1 r1=>?_];exact#[by rw[<-r1.len];erw[qF w1.1],λp hp=>(q.later st1).Nz R1 r1 w1.2 hp]
def R8(ha:PA X es (HP (X.cc t) Γ xs)):PE X (.List es pos) (tE (X.cc t) Γ (.lst xs)):=by
 refine(QJ ha).imp ?_;kd_p;refine#[env,ρ,S,_,he,R,w,λus S1 vs H1 ρ1 w1 st1 R1 r1=>?_];exact#[by rw[<-r1.len];erw[qF w1.1],λp hp=>(q.later st1).G7 R1 r1 w1.2 hp]
def qZ:∀{fs:List (String×U)}{vs:List (Str×V)},vs.map (·.1)=(fs.map (·.1)).map nm->a9 c ρ H (fs.map (·.2)) (vs.map (·.2))->fs.lookup f=ξ u->(∀a b:String,nm a=nm b->a=b)->∃v,vs.lookup (nm f)=ξ v/\Rep c ρ H u v
 |[],vs,_,_,h,_=>nomatch h
 | (g,w)::fs,[],e,_,_,_=>by simp at e
 | (g,w)::fs,(a,v)::vs,e,r,h,inj=>by
  dsimp[aw,cQ] at e;rw[aw,aw] at r;unfold a9 at r;let#[v',r',e',h1,h2]:=r;injection e' with e1 e2
  subst e1;subst e2;rw[aN] at h ⊢;by_cases z:f=g
  .subst z
   simp at h;subst h;have:(nm f==a)=ζ:=by rw[e.1];simp
   rw[this]
   exact#[v,rfl,h1]
  .have z1:(f==g)=ϑ:=by simp[z]
   rw[z1] at h;have z2:(nm f==a)=ϑ:=by
    rw[e.1]
    dsimp[beq_eq_false_iff_ne,ne_eq];erw[λq=>z (inj _ _ q)]
   rw[z2]
   erw[qZ e.2 h2 h inj]
def wa(a b:String)(h:nm a=nm b):a=b:=by
 unfold nm at h;rw[Str.ofString_eq_byList] at h;unfold Str.ofStringByList at h;injection h with h
 have h2:=congrArg A5 h;dsimp[] at h2;have h3:a.toList=b.toList:=by
  refine(sX (f:=Char.toNat) ?_).mp h2;intro x y e;erw[Char.ext (UInt32.toNat_inj.mp e)]
 erw[String.toList_inj.mp h3]
end
open PL (U SO bH KU cb)
section
variable{t:yw}{T:Tab}{Γ:cb}{k n:Nat}{I:Inf}{X:Cx}
def R9(G:Good t T Γ k I X)(hf:f∈T.zP)(h0:gO o=ζ)(ho:PE X o (tE (X.cc t) Γ x)):PE X (.Attribute o (nm f) pos) (tE (X.cc t) Γ (.fld x f)):=by
 refine(QF ho (fm h0)).imp ?_;kd_p;x_go;cases u with
 |loc m=>
  let#[c,fs,e,w2]:=PL.ni.mp (show PL.qU _ _ from w1);let#[u,e2,w3]:=PL.jH.mp w2;let#[a,C,dx,vs,ev,_,hc,ha,hn,hr]:=R1.ins e r1;let#[v',l,r2]:=qZ hn hr e2 wa;let#[cl,na]:=G.tab.cls c C hc;exact#[a,C,dx,vs,v',ev,ha,cl,na f hf,l,(q.later st1).now R1 w3 r2]
 |_=>erw[aW w1]
def JZ(h:mD b=ζ):EJ b:=by
 intro o i;cases b<;>first|rfl|cases h
def Wf(hs:mD b=ζ)(ha:PE X a (tE (X.cc t) Γ x))(hb:PE X b (tE (X.cc t) Γ y)):PE X (.Subscript a b pos) (tE (X.cc t) Γ (.ix x y)):=by
 refine(Vx (RM (c:=X.cc t) rfl rfl) ha hb (JZ hs)).imp ?_;kd_p;x_go;refine#[env,ρ1,S1,_,he.later R st1,R1,w1,λu2 S2 v2 H2 ρ2 w2 st2 R2 r2=>?_];refine#[u,u2,ρ2,S2,r1.mono R1 st2,r2,R2,PL.Jq (λr h v3 r3=>?_) w2];exact(q.later (st1.trans st2)).now R2 h r3
def Wg(IH:Hc t T Γ k n)(G:Good t T Γ k I X):∀{oe:Option Expr}{x:PL.Ox},cO T (n+1) I oe=ξ x->PO X oe (YI (X.cc t) Γ x)
 |none,x,h=>by
  rw[V9,YF] at h;injection h with h;subst h
  rwa[λpins' s σ H Q J z=>MK pins' s σ H Q J ?_]
  let#[env,ρ,S,QU,he,R,w,q]:=z;erw[q ψ S H ρ w .refl R]
 |some e,x,h=>by
  rw[V9,YF] at h;let#[y,h1,h2]:=au.mp h;subst h2;rwa[λpins' s σ H Q J z=>ML (IH.fe G h1) pins' s σ H Q J ?_]
  let#[env,ρ,S,QU,he,R,w,q]:=z;x_go;let#[i,e,w2]:=PL.fI.mp w1;subst e;exact#[i,aP.mp r1,q _ _ _ _ w2 st1 R1]
def Wh{a:Expr}{lo hi:Option Expr}{x:PL.Ex}{y z:PL.Ox}{pos p2:Pos}(ha:PE X a (tE (X.cc t) Γ x))(hl:PO X lo (YI (X.cc t) Γ y))(hh:PO X hi (YI (X.cc t) Γ z)):PE X (.Subscript a (.Slice lo hi ψ p2) pos) (tE (X.cc t) Γ (.sl x y z)):=by
 refine(IL (RP (c:=X.cc t) rfl) ha hl hh).imp ?_;kd_p;x_go;refine#[env,ρ1,S1,_,he.later R st1,R1,w1,λl S2 H2 ρ2 w2 st2 R2=>?_];have st12:=st1.trans st2;refine#[env,ρ2,S2,_,he.later R st12,R2,w2,λh S3 H3 ρ3 w3 st3 R3=>?_];exact#[u,ρ3,S3,QU,r1.mono R1 (st2.trans st3),R3,w3,q.later (st12.trans st3)]
end
open PL (U SO bH KU cb)
section
variable{t:yw}{T:Tab}{Γ:cb}{k n:Nat}{I:Inf}{X:Cx}
def Sa(G:Good t T Γ k I X)(hg:I.gl f=ζ)(hb:Rz f=ξ b)(hp:pick T.iA f=ξ s)(hcalm:X.calm=ζ)(hA:X.A.handled=ψ)(h1:noStar e=ζ)(h2:es.all noStar=ζ)
  (ha:PA X (e::es) (HP (X.cc t) Γ xs)):PE X (.Call (.Name f p) (e::es) [] pos) (tE (X.cc t) Γ (.blt b xs)):=by
 let#[hm,rfl]:=ny hp;have hn:=G.tab.iA s hm;have rd:∀(σ:St)(H:Hp)(Q:VK),tE (X.cc t) Γ (.blt b xs) σ H Q->Zl (sA (X.cc t) b) (HP (X.cc t) Γ xs) σ H Q:=by
  kd_p;exact#[env,ρ,S,_,he,R,w,λus S1 vs H1 ρ1 w1 st1 R1 r1=>#[us,ρ1,S1,QU,r1,R1,w1,q.later st1]]
 have sx:bD (e::es) X.env=(ϑ,eval e X.env)::bD es X.env:=cZ h1;have sy:(fP pos (bD es X.env)).any (·.1)=ϑ:=fQ h2;unfold Rz at hb;by_cases c1:(nm s==("len":Str))=ζ
 .rw[if_pos c1] at hb;injection hb with hb;subst hb
  have ef:nm s=("len":Str):=by simpa using c1
  rw[ef] at hg hn ⊢;exact(m8 (NN rfl) (ju G hg) hn Mg ha ⋯ ⋯ sx sy).imp rd
 rw[if_neg c1] at hb;by_cases c2:(nm s==("tuple":Str))=ζ
 .rw[if_pos c2] at hb;injection hb with hb;subst hb
  have ef:nm s=("tuple":Str):=by simpa using c2
  rw[ef] at hg hn ⊢;exact(pV (Ha rfl) (ju G hg) hn (by decide +kernel) ha ⋯ ⋯ sx sy).imp rd
 rw[if_neg c2] at hb;by_cases c4:(nm s==("list":Str))=ζ
 .rw[if_pos c4] at hb;injection hb with hb;subst hb
  have ef:nm s=("list":Str):=by simpa using c4
  rw[ef] at hg hn ⊢;exact(pV (JO rfl) (ju G hg) hn (by decide +kernel) ha ⋯ ⋯ sx sy).imp rd
 rw[if_neg c4] at hb;by_cases c7:(nm s==("all":Str))=ζ
 .rw[if_pos c7] at hb;injection hb with hb;subst hb
  have ef:nm s=("all":Str):=by simpa using c7
  rw[ef] at hg hn ⊢;exact(m8 (JP hcalm) (ju G hg) hn (by decide +kernel) ha ⋯ ⋯ sx sy).imp rd
 rw[if_neg c7] at hb;by_cases c8:(nm s==("sum":Str))=ζ
 .rw[if_pos c8] at hb;injection hb with hb;subst hb
  have ef:nm s=("sum":Str):=by simpa using c8
  rw[ef] at hg hn ⊢;exact(m8 (NO hcalm) (ju G hg) hn boot_sum ha ⋯ ⋯ sx sy).imp rd
 rw[if_neg c8] at hb;by_cases c9:(nm s==("any":Str))=ζ
 .rw[if_pos c9] at hb;injection hb with hb;subst hb
  have ef:nm s=("any":Str):=by simpa using c9
  rw[ef] at hg hn ⊢;exact(m8 (JQ hcalm) (ju G hg) hn (by decide +kernel) ha ⋯ ⋯ sx sy).imp rd
 rw[if_neg c9] at hb;by_cases c10:(nm s==("dict":Str))=ζ
 .rw[if_pos c10] at hb;injection hb with hb;subst hb
  have ef:nm s=("dict":Str):=by simpa using c10
  rw[ef] at hg hn ⊢;exact(pV (JR hA) (ju G hg) hn (by decide +kernel) ha ⋯ ⋯ sx sy).imp rd
 rw[if_neg c10] at hb;by_cases c11:(nm s==("max":Str))=ζ
 .rw[if_pos c11] at hb;injection hb with hb;subst hb
  have ef:nm s=("max":Str):=by simpa using c11
  rw[ef] at hg hn ⊢;exact(m8 (NP hcalm) (ju G hg) hn (by decide +kernel) ha ⋯ ⋯ sx sy).imp rd
 rw[if_neg c11] at hb;cases hb
def Hd(G:Good t T Γ k I X)(hg:I.gl ("min":Str)=ζ)(hg2:I.gl ("len":Str)=ζ)(hb:"min"∈T.iA)(hb2:"len"∈T.iA)(hc:X.calm=ζ)(h1:noStar a=ζ)(ha:PE X a (tE (X.cc t) Γ x)):
  PE X (.Call (.Name ("min":Str) p) [a] [#[ξ "key",.Name ("len":Str) pl,kp]] pos) (tE (X.cc t) Γ (.blt .vS (.cons x .nil))):=by
 refine(GJ hc (ju G hg) (G.tab.iA "min" hb) (ju G hg2) (G.tab.iA "len" hb2) ha (cZ h1)).imp ?_;kd_p;x_go;have w1:PL.tQ .vS [u] S1 QU:=w1
 match u,w1 with
 |.loc n,w1=>
  let#[t0,ts,e,hz,w2]:=w1;let#[a,vs,e2,_,g1,g2]:=R1.lst e r1;rw[tV g2] at g1;exact#[a,t0,ts,e2,iS.of g1,hz,(q.later st1).now R1 w2 (bE.mpr rfl)]
end
open PL (U SO bH KU cb)
section
variable{t:yw}{T:Tab}{Γ:cb}{k n:Nat}{I:Inf}{X:Cx}
abbrev Wi:PL.Nd->String
 |.join=>"str"|.index=>"str"|.startswith=>"str"|.append=>"list"|.pop=>"list"|.xt=>"tuple"|.extend=>"list"|.nY=>"int"|_=>"dict"
def J0{c:Ctx}{ρ:List Addr}{H:Hp}{S:bH}{b:PL.Nd}{u:U}{v:V}(hb:b=.join\/b=.index\/b=.append\/b=.extend\/b=.startswith\/b=.nZ\/b=.xt\/b=.pop)(R:cH c ρ H S)(r:Rep c ρ H u v)(w:PL.rY b u S):Yq c.K (Wi b) v H:=by
 rcases hb with rfl|rfl|rfl|rfl|rfl|rfl|rfl|rfl
 .cases u<;>first|exact aW w| (rw[bE.mp r];rfl)
 .cases u<;>first|exact aW w| (rw[bE.mp r];rfl)
 .cases u<;>first|exact aW w|skip
  let#[us,e,_]:=PL.cR.mp (show PL.getL _ _ from w);let#[a,vs,ev,_,h1,_]:=R.lst e r;rw[ev]
  erw[.inl #[rfl,vs,iS.of h1]]
 .cases u<;>first|exact aW w|skip
  let#[us,e,_]:=PL.cR.mp (show PL.getL _ _ from w);let#[a,vs,ev,_,h1,_]:=R.lst e r;rw[ev]
  erw[.inl #[rfl,vs,iS.of h1]]
 .cases u<;>first|exact aW w| (rw[bE.mp r];rfl)
 .cases u<;>first|exact aW w|skip
  rename_i n;let#[a,ev,ha]:=eQ.mp r;have w:(match S[n]? with|some (.dX _)=>True|some (.uR _)=>True|some (.xr _)=>True|_=>False):=w;rw[ev]
  rwa[.inr (.inr (.inl #[rfl,?_]))];cases hs:S[n]? with
  |none=>rw[hs] at w;erw[w.elim]
  |some o=>
   rw[hs] at w;cases o with
   |dX kvs=>let#[vs,h1,_]:=R.at_ n a _ ha hs;erw[.inl #[vs,h1]]
   |uR kvs=>let#[vs,h1,_]:=R.at_ n a _ ha hs;erw[.inr (.inl #[vs,h1])]
   |xr kvs=>let#[vs,h1,_]:=R.at_ n a _ ha hs;erw[.inr (.inr #[vs,h1])]
   |_=>erw[w.elim]
 .cases u<;>first|exact aW w|skip
  let#[p,vs,e,h1,h2]:=dC.mp r;rw[e]
  erw[.inr (.inl #[rfl,vs,h1])]
 .cases u<;>first|exact aW w|skip
  let#[us,e,_]:=PL.cR.mp (show PL.getL _ _ from w);let#[a,vs,ev,_,h1,_]:=R.lst e r;rw[ev]
  erw[.inl #[rfl,vs,iS.of h1]]
def mQ(h:es.all noStar=ζ)(hn:es.length<20):((fP cpos (bD es env)).all (λx=>!x.1)&&(backToKw cpos (gS [] env)).all (λx=>x.1.isSome)
   && decide (es.length+([]:List o7).length+(if ([]:List o7).isEmpty then 0 else 1)<30))=ζ:=by
 have:=yy (pos:=cpos) (env:=env) h hn;unfold CZ at this;erw[this]
def Sb{m:Str}{lx:Nat}{o e:Expr}{es:List Expr}{b:PL.Nd}{x:PL.Ex}{xs:PL.zG}{apos cpos:Pos}(G:Good t T Γ k I X)(hb:RA lx m=ξ b)(hA:X.A.handled=ψ)(h0:gO o=ζ)(hl:(apos.endLine==cpos.line)=ζ)(hn:(e::es).length<20)(h1:noStar e=ζ)(h2:es.all noStar=ζ)
  (ho:PE X o (tE (X.cc t) Γ x)) (ha:PA X (e::es) (HP (X.cc t) Γ xs)):PE X (.Call (.Attribute o m apos) (e::es) [] cpos) (tE (X.cc t) Γ (.jD b x xs)):=by
 have hst:(e::es).all noStar=ζ:=by rw[bS,h1,h2];rfl
 have rd:∀(hb':b=.join\/b=.index\/b=.append\/b=.extend\/b=.startswith\/b=.nZ\/b=.xt\/b=.pop)(σ:St)(H:Hp)(Q:VK),tE (X.cc t) Γ (.jD b x xs) σ H Q->tBM X.K (Wi b) (qG (X.cc t) b) (tE (X.cc t) Γ x) (HP (X.cc t) Γ xs) σ H Q:=by
  rintro hb' σ H Q ⟨env,ρ,S,QU,he,R,w,q⟩;refine#[env,ρ,S,_,he,R,w,λu S1 v H1 ρ1 w1 st1 R1 r1=>#[J0 (c:=X.cc t) hb' R1 r1 w1.1,?_]];exact#[env,ρ1,S1,_,he.later R st1,R1,w1.2,λus S2 vs H2 ρ2 w2 st2 R2 r2=>#[u,us,ρ2,S2,QU,r1.mono R1 st2,r2,R2,w2,q.later (st1.trans st2)]]
 unfold RA at hb;by_cases c1:(m==("join":Str))=ζ
 .rw[if_pos c1] at hb;injection hb with hb;subst hb
  have ef:m=("join":Str):=by simpa using c1
  subst ef;exact(ur nP PySem.F.slot_str_join PySem.F.type_str_join (JS rfl) ho ha (fm h0) (mQ hst hn) hl (cZ h1) (fQ h2)).imp (rd (#v[]))
 rw[if_neg c1] at hb;by_cases c2:(m==("index":Str))=ζ
 .rw[if_pos c2] at hb;injection hb with hb;subst hb
  have ef:m=("index":Str):=by simpa using c2
  subst ef;by_cases l2:(lx==2)=ζ
  .rw[if_pos l2] at rd ⊢
   exact(ur PySem.F.plainAttrs_tuple xn PySem.F.type_tuple_index (JU rfl) ho ha (fm h0) (mQ hst hn) hl (cZ h1) (fQ h2)).imp (rd (#v[]))
  rw[if_neg l2] at rd ⊢;exact(ur nP PySem.F.slot_str_index PySem.F.type_str_index (Hb hA) ho ha (fm h0) (mQ hst hn) hl (cZ h1) (fQ h2)).imp (rd (#v[]))
 rw[if_neg c2] at hb;by_cases c3:(m==("append":Str))=ζ
 .rw[if_pos c3] at hb;injection hb with hb;subst hb
  have ef:m=("append":Str):=by simpa using c3
  subst ef;exact(ur m7 PySem.F.slot_list_append PySem.F.type_list_append DW ho ha (fm h0) (mQ hst hn) hl (cZ h1) (fQ h2)).imp (rd (#v[]))
 rw[if_neg c3] at hb;by_cases c4:(m==("extend":Str))=ζ
 .rw[if_pos c4] at hb;injection hb with hb;subst hb
  have ef:m=("extend":Str):=by simpa using c4
  subst ef;exact(ur m7 PySem.F.slot_list_extend PySem.F.type_list_extend DX ho ha (fm h0) (mQ hst hn) hl (cZ h1) (fQ h2)).imp (rd (#v[]))
 rw[if_neg c4] at hb;by_cases c5:(m==("startswith":Str))=ζ
 .rw[if_pos c5] at hb;injection hb with hb;subst hb
  have ef:m=("startswith":Str):=by simpa using c5
  subst ef;exact(ur nP PySem.F.slot_str_startswith PySem.F.type_str_startswith DV ho ha (fm h0) (mQ hst hn) hl (cZ h1) (fQ h2)).imp (rd (#v[]))
 rw[if_neg c5] at hb;by_cases c6:(m==("setdefault":Str))=ζ
 .rw[if_pos c6] at hb;injection hb with hb;subst hb
  have ef:m=("setdefault":Str):=by simpa using c6
  subst ef;exact(ur jk uH PySem.F.type_dict_setdefault (JV G.units) ho ha (fm h0) (mQ hst hn) hl (cZ h1) (fQ h2)).imp (rd (#v[]))
 rw[if_neg c6] at hb;by_cases c7:(m==("pop":Str))=ζ
 .rw[if_pos c7] at hb;injection hb with hb;subst hb
  have ef:m=("pop":Str):=by simpa using c7
  subst ef;exact(ur m7 PySem.F.slot_list_pop PySem.F.type_list_pop NR ho ha (fm h0) (mQ hst hn) hl (cZ h1) (fQ h2)).imp (rd (#v[]))
 rw[if_neg c7] at hb;cases hb
def NV(G:Good t T Γ k I X)(h0:gO o=ζ)(hl:(apos.endLine==cpos.line)=ζ)(ho:PE X o (tE (X.cc t) Γ x)):
  PE X (.Call (.Attribute o ("bit_length":Str) apos) [] [] cpos) (tE (X.cc t) Γ (.jD .nY x .nil)):=by
 refine(IP PySem.F.plainAttrs_int PySem.F.slot_int_bit_length PySem.F.type_int_bit_length (DT (c:=X.cc t)) ho (fm h0) hl).imp ?_;kd_p;refine#[env,ρ,S,_,he,R,w,λu S1 v H1 ρ1 w1 st1 R1 r1=>#[?_,u,[],ρ1,S1,QU,r1,a9.nil,R1,w1.2,q.later st1]];cases u<;>first|exact aW w1.1| (rw[aP.mp r1];rfl)
def Sd(G:Good t T Γ k I X)(h0:gO o=ζ)(hl:(apos.endLine==cpos.line)=ζ)(h1:noStar a=ζ)(h2:noStar d=ζ)(ho:PE X o (tE (X.cc t) Γ x))
  (ha:PE X a (tE (X.cc t) Γ y)) (hd:PE X d (tE (X.cc t) Γ z)):PE X (.Call (.Attribute o ("get":Str) apos) [a,d] [] cpos) (tE (X.cc t) Γ (.jD .get x (.cons y (.cons z .nil)))):=by
 have hst:[a,d].all noStar=ζ:=by rw[bS,bS,h1,h2];rfl
 refine(I9 (by have:=G.units;show X.A.units+1<fH;omega) ho ha hd #[fm h0,mQ hst (show 2<20 by decide),hl,by
  rw[cZ (e:=a) (es:=[d]) h1,cZ (e:=d) (es:=[]) h2];rfl]).imp ?_
 kd_p;x_go;let#[w1,w2]:=w1;cases u<;>first|exact aW w1|skip
 rename_i n;let#[kvs,e,_]:=PL.jr.mp (show PL.jo _ _ from w1);let#[a1,vs,e1,ha1,g1,g2,g3,g4]:=R1.dd e r1;refine#[a1,e1,.inl #[vs,g1],env,ρ1,S1,_,he.later R st1,R1,w2,λu2 S2 v2 H2 ρ2 w3 st2 R2 r2=>?_];refine#[env,ρ2,S2,_,(he.later R st1).later R1 st2,R2,w3,λu3 S3 v3 H3 ρ3 w4 st3 R3 r3=>?_];have r2':=r2.mono R2 st3;cases u2<;>first|exact aW w4|skip
 rename_i k;let#[kvs',e',ps,ep,w5]:=PL.BF.mp (show PL.getD _ _ from w4);let#[vs',f1,f2,f3,f4]:=R3.at_ n a1 _ (st3.get (st2.get ha1)) e';subst ep;have g:=tI.k (k:=jC (ξ (tx k))) f1;rw[bE.mp r2']
 rcases NQ (k:=k) f2 f3 f4 with⟨l1,l2⟩|⟨u',v',l1,l2,l3⟩
 .rw[l2] at g
  rw[l1] at w5;exact#[ψ,g,(q.later ((st1.trans st2).trans st3)).now R3 w5 r3]
 .rw[l2] at g
  rw[l1] at w5;exact#[ξ v',g,(q.later ((st1.trans st2).trans st3)).now R3 w5 l3]
def NW(G:Good t T Γ k I X)(h0:gO o=ζ)(hl:(apos.endLine==cpos.line)=ζ)(h1:noStar a=ζ)(ho:PE X o (tE (X.cc t) Γ x))
  (ha:PE X a (tE (X.cc t) Γ y)):PE X (.Call (.Attribute o ("get":Str) apos) [a] [] cpos) (tE (X.cc t) Γ (.jD .get x (.cons y .nil))):=by
 have hst:[a].all noStar=ζ:=by rw[bS,h1];rfl
 refine(IZ (by have:=G.units;show X.A.units+1<fH;omega) ho ha #[fm h0,mQ hst (show 1<20 by decide),hl,by
  rw[cZ (e:=a) (es:=[]) h1];rfl]).imp ?_
 kd_p;x_go;let#[w1,w2]:=w1;cases u<;>first|exact aW w1|skip
 rename_i n;let#[kvs,e,_]:=PL.jr.mp (show PL.jo _ _ from w1);let#[a1,vs,e1,ha1,g1,g2,g3,g4]:=R1.dd e r1;refine#[a1,e1,.inl #[vs,g1],env,ρ1,S1,_,he.later R st1,R1,w2,λu2 S2 v2 H2 ρ2 w3 st2 R2 r2=>?_];have r1':=r1.mono R1 st2;have w3:PL.qz .get (.loc n) [u2] S2 QU:=w3;have w3:PL.jo S2[n]? λkvs=>PL.mP u2=ζ/\QU ((PL.uz u2 kvs).getD .b7) S2:=by cases u2<;>exact w3
 let#[kvs',e',hk,w5]:=PL.jr.mp w3;let#[a2,vs',e2,_,f1,f2,f3,f4]:=R2.dd e' r1';rw[e1] at e2;cases e2;have g:tI H2 a1 v2 (jW vs' (v7 u2)):=.inl #[vs',v7 u2,f1,kI hk r2,rfl];rcases sv hk f2 f3 f4 with⟨l1,l2⟩|⟨u',v',l1,l2,l3⟩
 .rw[l2] at g
  rw[l1] at w5;exact#[ψ,g,(q.later (st1.trans st2)).now R2 w5 (fq.mpr rfl)]
 .rw[l2] at g
  rw[l1] at w5;exact#[ξ v',g,(q.later (st1.trans st2)).now R2 w5 l3]
def Se(G:Good t T Γ k I X)(hs:mD b=ζ)(ha:PE X a (tE (X.cc t) Γ x))(hb:PE X b (tE (X.cc t) Γ y)):PE X (.Subscript a b pos) (tE (X.cc t) Γ (.Jf x y)):=by
 refine(MV (by have:=G.units;show X.A.units+1<fH;omega) ha hb (by cases b<;>first|exact ff hs| (intro _ _;rfl))).imp ?_;rintro σ H Q ⟨env,ρ,S,QU,he,R,w,q⟩;refine#[env,ρ,S,_,he,R,w,λu S1 v H1 ρ1 w1 st1 R1 r1=>?_];refine#[env,ρ1,S1,_,he.later R st1,R1,w1,λu2 S2 v2 H2 ρ2 w2 st2 R2 r2=>?_];obtain⟨n,rfl,w2⟩:=PL.i4.mp (show PL.uw _ _ from w2);obtain⟨kvs,e,hk,w3⟩:=PL.jr.mp w2;obtain⟨u',l1,w4⟩:=PL.jH.mp w3;obtain⟨a1,vs,e1,ha1,g1,g2,g3,g4⟩:=R2.dd e (r1.mono R1 st2);rcases sv hk g2 g3 g4 with⟨z1,_⟩|⟨u3,v',z1,l2,l3⟩
 .rw[l1] at z1;cases z1
 .rw[l1] at z1;cases z1
  exact#[a1,v',e1,.inl #[vs,v7 u2,g1,kI hk r2,l2.symm],(q.later (st1.trans st2)).now R2 w4 l3]
def NX:PE X (.Dict [] [] pos) (tE (X.cc t) Γ (.dX .nil .nil)):=by
 refine(Nn).imp ?_;kd_p;have w:QU (.loc S.length) (S++[.dX []])\/QU (.loc S.length) (S++[.uR []])\/QU (.loc S.length) (S++[.xr []]):=w.2;have al:∀{ho:HO}{o:SO},QU (.loc S.length) (S++[o])->(∀p,uV (X.cc t) (ρ++[p]) (upd H p ho) p o)->∀p,H p=ψ->Q (.ref p) (upd H p ho):=λw z p hp=>by
  rwa[q _ _ _ _ _ w (iU.alloc R hp _) (R.alloc hp (z p)) (eQ.mpr #[p,rfl,?_])];rw[<-R.len,aA (ao _),bT];rfl
 rcases w with w|w|w
 .exact#[.dK [],.inl rfl,al w λp=>#[[],b9,rfl,a9.nil,a9.nil]]
 .exact#[.dT [],.inr (.inl rfl),al w λp=>#[[],b9,rfl,a9.nil]]
 .exact#[.dP [],.inr (.inr rfl),al w λp=>#[[],b9,rfl,a9.nil]]
def NY(G:Good t T Γ k I X)(hg:I.gl ("list":Str)=ζ)(hb:"list"∈T.iA)(hc:X.calm=ζ)(h0:gO o=ζ)(hl:(ap.endLine==cp.line)=ζ)(ho:PE X o (tE (X.cc t) Γ x)):
  PE X (.Call (.Name ("list":Str) p) [.Call (.Attribute o ("values":Str) ap) [] [] cp] [] pos) (tE (X.cc t) Γ (.jD .vals x .nil)):=by
 refine(pV (DM hc) (ju G hg) (G.tab.iA "list" hb) (by decide +kernel)
  (pS (IP jk xm PySem.F.type_dict_values GY ho (fm h0) hl) vD (cZ rfl)) ⋯ ⋯ (cZ rfl) rfl).imp ?_
 kd_p;x_go;let#[w1,w2]:=w1;cases u<;>first|exact aW w1|skip
 rename_i n;let#[a,ev,ha]:=eQ.mp r1;have w2:PL.qz .vals (.loc n) [] S1 QU:=w2;have w2:(match S1[n]? with|some (.uR kvs)=>QU (.loc S1.length) (S1++[.lst (kvs.map (·.2))])|_=>False):=w2;cases hs:S1[n]? with
 |none=>rw[hs] at w2;erw[w2.elim]
 |some o=>
  rw[hs] at w2;cases o with
  |uR kvs=>
   let#[vs,g1,g2,g3]:=R1.at_ n a _ ha hs;refine#[%[ev|.inr (.inr (.inl #[rfl,.inr (.inl #[vs,g1])]))],a,vs,ev,rfl,g1,λp hp=>?_];have st2:=iU.lay R1 hp (VR p a);exact#[p,a,vs,rfl,b9,%[cw (dO g1 hp)|g1],λl hl=>(q.later (st1.trans st2)).G7 (R1.lay hp _) (g3.mono R1 st2) w2 hl]
  |_=>erw[w2.elim]
def NZ(G:Good t T Γ k I X)(hg:I.gl (nm q)=ζ)(hc:I.calm=ζ)(hq:q∈T.fns)(hd:(nm q==("__debug__":Str))=ϑ)(h1:noStar e=ζ)(h2:es.all noStar=ζ)
  (ha:PA X (e::es) (HP (X.cc t) Γ xs)):PE X (.Call (.Name (nm q) p) (e::es) [] pos) (tE (X.cc t) Γ (.call q xs)):=by
 let#[f,hm,hk,fd,ps,F,B]:=G.RS.fns q hq;refine(aaQ (k:=k) F ((G.calm hc).2.mono (iR k)) (ju G hg) hm hk B ha hd h1 h2).imp ?_;rintro σ H Q ⟨env,ρ,S,QU,he,R,w,qq⟩;refine#[env,ρ,S,_,he,R,w,λus S1 vs H1 ρ1 w1 st1 R1 r1=>?_];exact#[us,ρ1,S1,QU,r1,R1,w1,qq.later st1]
def J1(G:Good t T Γ k I X)(hg:I.gl (nm q)=ζ)(hc:I.calm=ζ)(hq:q∈T.fns)(hd:(nm q==("__debug__":Str))=ϑ):PE X (.Call (.Name (nm q) p) [] [] pos) (tE (X.cc t) Γ (.call q .nil)):=by
 let#[f,hm,hk,fd,ps,F,B]:=G.RS.fns q hq;refine(IG (k:=k) F ((G.calm hc).2.mono (iR k)) (ju G hg) hm hk B .nil yg hd).imp ?_;rintro σ H Q ⟨env,ρ,S,QU,he,R,w,qq⟩;exact#[[],ρ,S,QU,a9.nil,R,w,qq]
def BV(R:cH c ρ H S)(hc:c.cls cn=ξ C)(hx:H x=ψ)(hd:H dx=ψ)(ne:dx≠x):
  iU ρ H (ρ++[x]) (upd (upd H dx (.own x)) x (.ins C dx []))/\cH c (ρ++[x]) (upd (upd H dx (.own x)) x (.ins C dx [])) (S++[.ins cn []])/\Rep c (ρ++[x]) (upd (upd H dx (.own x)) x (.ins C dx [])) (.loc S.length) (.ref x):=by
 have R1:=R.lay hd (.own x);have s1:=iU.lay R hd (.own x);have hx1:upd H dx (.own x) x=ψ:=%[cw (cM ne)|hx]
 have s2:=iU.alloc R1 hx1 (.ins C dx []);refine#[s1.trans s2,R1.alloc hx1 #[C,dx,[],hc,b9,rfl,a9.nil],eQ.mpr #[x,rfl,?_]];rw[<-R.len,aA (ao _),bT];rfl
def Wj(G:Good t T Γ k I X)(hg:I.gl (nm q)=ζ)(hc:I.calm=ζ)(hq:q∈T.qW)(hd:(nm q==("__debug__":Str))=ϑ)(h1:noStar e=ζ)(h2:es.all noStar=ζ)
  (ha:PA X (e::es) (HP (X.cc t) Γ xs)):PE X (.Call (.Name (nm q) p) (e::es) [] pos) (tE (X.cc t) Γ (.mk q (q++".__init__") xs)):=by
 let#[C,f,hC,hm,M,fd,ps,F,B]:=G.RS.cls q hq;refine(aaS (k:=k) M F (G.calm hc).2 (ju G hg) hm B ha hd h1 h2).imp ?_;rintro σ H Q ⟨env,ρ,S,QU,he,R,w,qq⟩;refine#[env,ρ,S,_,he,R,w,λus S1 vs H1 ρ1 w1 st1 R1 r1=>?_];intro x dx hx hdx ne;let#[s2,R2,r2]:=BV R1 hC hx hdx ne;refine#[_,ρ1++[x],_,_,a9.cons r2 (r1.mono R1 s2),R2,w1,λu S3 v H3 ρ3 w3 st3 R3 r3=>?_];let#[rfl,w4]:=w3;exact#[fq.mp r3,qq _ _ _ _ _ w4 ((st1.trans s2).trans st3) R3 (r2.mono R2 st3)]
def Sf(G:Good t T Γ k I X)(hg:I.gl (nm q)=ζ)(hc:I.calm=ζ)(hq:q∈T.qW)(hd:(nm q==("__debug__":Str))=ϑ):PE X (.Call (.Name (nm q) p) [] [] pos) (tE (X.cc t) Γ (.mk q (q++".__init__") .nil)):=by
 let#[C,f,hC,hm,M,fd,ps,F,B]:=G.RS.cls q hq;refine(IJ (k:=k) M F (G.calm hc).2 (ju G hg) hm B .nil yg hd).imp ?_;rintro σ H Q ⟨env,ρ,S,QU,he,R,w,qq⟩;intro x dx hx hdx ne;let#[s2,R2,r2]:=BV R hC hx hdx ne;refine#[_,ρ++[x],_,_,a9.cons r2 a9.nil,R2,w,λu S3 v H3 ρ3 w3 st3 R3 r3=>?_];let#[rfl,w4]:=w3;exact#[fq.mp r3,qq _ _ _ _ _ w4 (s2.trans st3) R3 (r2.mono R2 st3)]
def lookup_none:∀{fs:List (String×U)}{vs:List (Str×V)}{m:String},vs.map (·.1)=(fs.map (·.1)).map nm->fs.lookup m=ψ->vs.lookup (nm m)=ψ
 |[],[],_,_,_=>rfl
 |[],_::_,_,e,_=>by simp at e
 |_::_,[],_,e,_=>by simp at e
 | (g,w)::fs,(a,v)::vs,m,e,h=>by
  dsimp[aw,cQ] at e;rw[aN] at h ⊢;by_cases z:m=g
  .subst z;simp at h
  .have z1:(m==g)=ϑ:=by simp[z]
   rw[z1] at h;have z2:(nm m==a)=ϑ:=by
    rw[e.1]
    dsimp[beq_eq_false_iff_ne,ne_eq];erw[λq=>z (wa _ _ q)]
   rw[z2]
   erw[lookup_none e.2 h]
def N0(G:Good t T Γ k I X)(hc:I.calm=ζ)(hq:(m,q)∈T.qX)(h0:gO o=ζ)(hl:(apos.endLine==pos.line)=ζ)(hn:(e::es).length<20)(h1:noStar e=ζ)(h2:es.all noStar=ζ)
  (ho:PE X o (tE (X.cc t) Γ x)) (ha:PA X (e::es) (HP (X.cc t) Γ xs)):PE X (.Call (.Attribute o (nm m) apos) (e::es) [] pos) (tE (X.cc t) Γ (.dm q m (q++"."++m) x xs)):=by
 let#[C,f,hC,M,fd,ps,F,B]:=G.RS.UG (m,q) hq;refine(aaR (k:=k) ho (G.tab.cls q C hC).1 M F ((G.calm hc).2.mono (iR k)) B ha h0 hn hl h1 h2).imp ?_;rintro σ H Q ⟨env,ρ,S,QU,he,R,w,qq⟩;x_go;let#[l,e1,w2]:=PL.i4.mp w1;subst e1;let#[c',fs,e2,#[rfl,e3],w3]:=PL.ni.mp w2;let#[a,C',dx,vs,ev,_,hC',ha',hnn,_]:=R1.ins e2 r1;rw[hC] at hC';injection hC' with hC';subst hC'
 refine#[a,dx,vs,ev,ha',lookup_none hnn e3,?_];refine#[env,ρ1,S1,_,he.later R st1,R1,w3,λus S2 vs2 H2 ρ2 w4 st2 R2 r2=>?_];exact#[_,ρ2,S2,QU,a9.cons (r1.mono R1 st2) r2,R2,w4,qq.later (st1.trans st2)]
def J4(G:Good t T Γ k I X)(hc:I.calm=ζ)(hq:(m,q)∈T.qX)(h0:gO o=ζ)(hl:(apos.endLine==pos.line)=ζ)
  (ho:PE X o (tE (X.cc t) Γ x)):PE X (.Call (.Attribute o (nm m) apos) [] [] pos) (tE (X.cc t) Γ (.dm q m (q++"."++m) x .nil)):=by
 let#[C,f,hC,M,fd,ps,F,B]:=G.RS.UG (m,q) hq;refine(II (k:=k) ho (G.tab.cls q C hC).1 M F ((G.calm hc).2.mono (iR k)) B .nil yg (yz h0 rfl ⋯ hl)).imp ?_;rintro σ H Q ⟨env,ρ,S,QU,he,R,w,qq⟩;x_go;let#[l,e1,w2]:=PL.i4.mp w1;subst e1;let#[c',fs,e2,#[rfl,e3],w3]:=PL.ni.mp w2;let#[a,C',dx,vs,ev,_,hC',ha',hnn,_]:=R1.ins e2 r1;rw[hC] at hC';injection hC' with hC';subst hC'
 refine#[a,dx,vs,ev,ha',lookup_none hnn e3,?_];exact#[_,ρ1,S1,QU,a9.cons r1 a9.nil,R1,w3,qq.later st1]
end
open PL (U SO bH KU cb)
section
variable{t:yw}{T:Tab}{Γ:cb}{k n:Nat}{I:Inf}{X:Cx}
def Fe{x:Str}{n:String}{pos:Pos}(G:Good t T Γ k I X)(g:I.gl x=ζ)(c:(x==(n:Str)&&T.iA.contains n)=ζ)(hv:kN (n:Str)=ξ (.type n))(hn:(n:Str)≠"__name__")(hd:((n:Str)== ("__debug__":Str))=ϑ):PE X (.Name x pos) (tC (.ty n)):=by
 rw[ak] at c;obtain rfl:x=(n:Str):=eq_of_beq c.1;exact Mp (ju G g) (G.tab.iA n (~~~c.2)) hv rfl hn hd
abbrev tyN:PL.Ty->String
 |.int=>"int"|.bool=>"bool"|.str=>"str"|.list=>"list"
def Sg{e:Expr}{ty:PL.Ty}(G:Good t T Γ k I X)(hh:cTy T I e=ξ ty):noStar e=ζ/\PE X e (tC (.ty (tyN ty))):=by
 let#[x,h0,h]:=ax.mp hh;let#[pos,rfl]:=E4 h0;by_cases g:I.gl x=ζ
 case neg=>rw[if_neg g] at h;erw[nn h]
 rw[if_pos g] at h;by_cases c:(x==("int":Str)&&T.iA.contains "int")=ζ
 .rw[if_pos c] at h;obtain rfl:=aG h
  exact#[rfl,Fe G g c (by decide +kernel) ⋯ ⋯]
 rw[if_neg c] at h;clear c;by_cases c:(x==("bool":Str)&&T.iA.contains "bool")=ζ
 .rw[if_pos c] at h;obtain rfl:=aG h
  exact#[rfl,Fe G g c (by decide +kernel) ⋯ ⋯]
 rw[if_neg c] at h;clear c;by_cases c:(x==("str":Str)&&T.iA.contains "str")=ζ
 .rw[if_pos c] at h;obtain rfl:=aG h
  exact#[rfl,Fe G g c (by decide +kernel) ⋯ ⋯]
 rw[if_neg c] at h;clear c;by_cases c:(x==("list":Str)&&T.iA.contains "list")=ζ
 .rw[if_pos c] at h;obtain rfl:=aG h
  exact#[rfl,Fe G g c (by decide +kernel) ⋯ ⋯]
 rw[if_neg c] at h;erw[nn h]
def He{n:String}:iP X (.builtin "isinstance") (λxs H Q=>∃x b,xs=[x,.ty n]/\((∃i,x=.int i/\kitOne X.K (.type "int") (.type n)=ξ b)\/(∃l,x=.str l/\kitOne X.K (.type "str") (.type n)=ξ b)\/∃a vs,x=.ref a/\H a=ξ (.lst vs)/\kitOne X.K (.type "list") (.type n)=ξ b)/\Q (.bl b) H):=by
 k_ne;let#[x,b,rfl,h,q]:=h;let#[ux,uc,rfl,rx,rc]:=r.two;cases (show uc=FP n from rc);have fin:∀tk,EP X pZ σ Q (.bool b) {s with toks:=tk}:=λtk=>#[.bl b,H,I.tok tk,rfl,q]
 rcases h with⟨i,rfl,e⟩|⟨l,rfl,e⟩|⟨a,vs,rfl,ea,e⟩
 .let#[t,rfl]:=rx
  erw[kia_one kitx_int I.zk trivial e (λz=>nomatch z) fin]
 .let#[t,rfl]:=rx
  erw[kia_one kitx_str I.zk trivial e (λz=>nomatch z) fin]
 .cases (show ux=bu a from rx)
  let#[_,_,n,_,h1]:=(show dZ X.prog X.w H s.heap a (.lst vs) from I.dQ a _ ea)
  erw[kia_one kitx_list I.zk #[_,h1,rfl] e (λz=>nomatch z) fin]
def Sh{a c:Expr}{ty:PL.Ty}{x:PL.Ex}{p pos:Pos}(G:Good t T Γ k I X)(hg:I.gl ("isinstance":Str)=ζ)(hb:"isinstance"∈T.iA)(h1:noStar a=ζ)(hc:cTy T I c=ξ ty)(ha:PE X a (tE (X.cc t) Γ x)):
  PE X (.Call (.Name ("isinstance":Str) p) [a,c] [] pos) (tE (X.cc t) Γ (.Nf x ty)):=by
 let#[h2,hp]:=Sg G hc;refine(m8 (He (n:=tyN ty)) (ju G hg) (G.tab.iA "isinstance" hb) boot_isinstance (pS ha (pS hp vD (cZ h2)) (cZ h1)) ⋯ ⋯ (cZ h1) (fQ (by simp[h2]))).imp ?_;rintro σ H Q ⟨env,ρ,S,QU,he,R,w,q⟩;refine#[env,ρ,S,_,he,R,w,λu S1 v H1 ρ1 w1 st1 R1 r1=>?_];cases ty with
 |int=>let#[i,rfl,w2]:=PL.fI.mp (show PL.lJ _ _ from w1);exact#[_,ζ,rfl,.inl #[i,aP.mp r1,rfl],(q.later st1).now R1 w2 (d6.mpr rfl)]
 |bool=>let#[i,rfl,w2]:=PL.fI.mp (show PL.lJ _ _ from w1);exact#[_,ϑ,rfl,.inl #[i,aP.mp r1,rfl],(q.later st1).now R1 w2 (d6.mpr rfl)]
 |str=>let#[l,rfl,w2]:=PL.n9.mp (show PL.L0 _ _ from w1);exact#[_,ζ,rfl,.inr (.inl #[_,bE.mp r1,rfl]),(q.later st1).now R1 w2 (d6.mpr rfl)]
 |list=>
  let#[n,rfl,w2]:=PL.i4.mp (show PL.uw _ _ from w1);let#[us,e,w3]:=PL.cR.mp w2;let#[a,vs,ev,_,g1,_]:=R1.lst e r1;exact#[_,ζ,rfl,.inr (.inr #[a,vs,ev,g1,rfl]),(q.later st1).now R1 w3 (d6.mpr rfl)]
end
open PL (U SO bH KU cb)
def Si(hl:PE X l tl):PI X tg l (λσ H R=>tl σ H λx H1=>(∃a,x=.ref a/\(∃xs,iS X.K H1 a xs)/\R (Y7 X.K a) H1)\/(∃a,x=.ref a/\(∃xs,lD X.K H1 a xs)/\R (Y8 X.K a) H1)\/∃z,x=.str z/\R (VJ z) H1):=by
 intro pZ s σ H R I h;rwa[eY (hl pZ s σ H _ I h) λv s1 h9=>?_]
 let#[x,H1,I1,r1,q1]:=h9;rcases q1 with⟨a,e,⟨xs,hq⟩,q⟩|⟨a,e,⟨xs,hq⟩,q⟩|⟨z,e,q⟩
 .subst e
  cases r1;let#[its,rv,p,hz]:=I1.list hq;rwa[kP p.isList ?_];refine#[s1.heap.objs.size,[s1.heap.objs.size],_,_,H1,rfl,I1.kept (t':=s1.toks) λb o e=>aL _ e,Ge a _,#[_,bg _ rfl,rfl,rfl],λb hb=>?_,q];have e:b=s1.heap.objs.size:=by simpa using hb
  subst e;erw[I1.C6 (ao _) (I1.dQ.fresh (ao _))]
 .subst e
  cases r1;let#[its,rv,p,hz]:=I1.tuple hq;rwa[wpAny_pyIter_tuple (show s1.heap.IsTuple a its.toArray from p) ?_];refine#[s1.heap.objs.size,[s1.heap.objs.size],_,_,H1,rfl,I1.kept (t':=s1.toks) λb o e=>aL _ e,C7 a _,#[_,bg _ rfl,rfl,rfl],λb hb=>?_,q];have e:b=s1.heap.objs.size:=by simpa using hb
  subst e;erw[I1.C6 (ao _) (I1.dQ.fresh (ao _))]
 .subst e
  let#[t,rfl]:=r1;have fin:∀(b:Bool)(o:Obj),o={cls:=.type (if b then "str_ascii_iterator" else "str_iterator"),data:=.fields (List.toArray [.str z t,.int 0 0])}->Y6 X pZ σ tg R (.ref s1.heap.objs.size) {s1 with heap:=s1.heap.push o}:=λb o eo=>by
   refine#[s1.heap.objs.size,[s1.heap.objs.size],_,VJ z,H1,rfl,I1.kept (t':=s1.toks) λb o e=>aL _ e,Jd _ z t b,#[_,bg _ (by rw[eo];rfl),by rw[eo],by rw[eo];rfl],λc hc=>?_,q];have e:c=s1.heap.objs.size:=by simpa using hc
   subst e;erw[I1.C6 (ao _) (I1.dQ.fresh (ao _))]
  cases ha:z.cps.all (·<128)
  .erw[wpAny_pyIter_wide ha (fin ϑ _ rfl)]
  .erw[wpAny_pyIter_ascii ha (fin ζ _ rfl)]
section
variable{c:Ctx}{ρ:List Addr}{H:Hp}{S:bH}
def N1{n:Nat}{us:List U}{a:Addr}(ha:ρ[n]?=ξ a):DY c ρ H (Y7 c.K a) us (λS'=>S'[n]?=ξ (.lst us)):=by
 intro i ρ2 H2 S2 st R g;let#[vs,h1,h2]:=R.at_ n a _ (st.get ha) g;refine#[λu hu=>?_,λhl=>#[vs,iS.of h1,by rw[<-h2.len];erw[hl]]];let#[v,e,r]:=h2.get hu;refine#[#[vs,v,iS.of h1,e],λy H3 h9=>?_];let#[e3,hy]:=h9;subst e3;have:=hy vs (iS.of h1);rw[e] at this;injection this with this;subst this
 exact#[.refl,R,r]
def Sj(R0:cH c ρ H S)(h1:H a=ξ (.tup vs))(h2:a9 c ρ H us vs):DY c ρ H (Y8 c.K a) us (λ_=>True):=by
 intro i ρ2 H2 S2 st R g;have h1':=st.fr a _ h1 (R0.not h1 rfl);have h2':=h2.mono R0 st;refine#[λu hu=>?_,λhl=>#[vs,lD.of h1',by rw[<-h2'.len];erw[hl]]];let#[v,e,r]:=h2'.get hu;refine#[#[vs,v,lD.of h1',e],λy H3 h9=>?_];let#[e3,hy]:=h9;subst e3;have:=hy vs (lD.of h1');rw[e] at this;injection this with this;subst this
 exact#[.refl,R,r]
def Sk:DY c ρ H (VJ (tx l)) (l.map λd=>.str [d]) (λ_=>True):=by
 intro i ρ2 H2 S2 st R g;refine#[λu hu=>?_,λhl=>?_]
 .rw[ar] at hu
  let#[d,e,e2]:=au.mp hu;subst e2;refine#[?_,λy H3 #[e3,d',e4,e5]=>?_]
  .show i<(tx l).cps.size
   have:=(ab.mp e).1;simpa using this
  .subst e3
   have:l[i]?=ξ d':=by simpa using e4
   rw[e] at this;injection this with this;subst this
   rw[e5]
   exact#[.refl,R,bE.mpr rfl]
 .show(tx l).cps.size<=i
  simpa using hl
def N2{n:Nat}{us:List U}{a:Addr}(ha:ρ[n]?=ξ a):DY c ρ H (Yx c.K a) (us.mapIdx λi u=>.tup [.int (i:Nat),u]) (λS'=>S'[n]?=ξ (.lst us)):=by
 intro i ρ2 H2 S2 st R g;let#[vs,h1,h2]:=R.at_ n a _ (st.get ha) g;refine#[λu hu=>?_,λhl=>#[vs,iS.of h1,by rw[<-h2.len];simpa using hl]];rw[dY] at hu;let#[u',e0,e1]:=au.mp hu;subst e1;let#[v,e,r]:=h2.get e0;refine#[#[vs,v,iS.of h1,e],λy H3 h9=>?_];let#[p,x,hp,e3,e4,hy]:=h9;have:=hy vs (iS.of h1);rw[e] at this;injection this with this;subst this
 subst e3 e4;have st':=iU.lay R hp (.tup [.int (i:Nat),v]);exact#[st',R.lay hp _,dC.mpr #[p,_,rfl,b9,a9.cons (aP.mpr rfl) (a9.cons (r.mono R st') a9.nil)]]
def Ff{n:Nat}{a:Addr}{o:Obj}{kvs:List (U×U)}{vs:List (Key×V)}(ha:ρ[n]?=ξ a)(h:H a=ξ (.sZ o (.dK vs))):DY c ρ H (Uw a o vs) (kvs.map (·.1)) (λS'=>S'[n]?=ξ (.vR kvs)):=by
 intro i ρ2 H2 S2 st R g;have e:=st.fz a o vs h;let#[o',vs',h1,h2,h3,_]:=R.at_ n a _ (st.get ha) g;rw[e] at h1;cases h1;refine#[λu hu=>?_,λhl=>#[e,by rw[h2];simpa using hl]];have hi:i<vs.length:=by rw[h2];have:=(ab.mp hu).1;simpa using this
 refine#[#[e,hi],λy H3 h9=>?_];let#[e3,k,v,e4,e5]:=h9;subst e3 e5;let#[v2,e6,r]:=h3.get hu;rw[ar,e4] at e6;cases e6;exact#[.refl,R,r]
def Ka:DY c ρ H (Yn 0 n) ((bO n).map λk=>.int (k:Nat)) (λ_=>True):=by
 intro i ρ2 H2 S2 st R g;refine#[λu hu=>?_,λhl=>?_]
 .rw[ar] at hu
  let#[d,e,e2]:=au.mp hu;subst e2;have hi:=(ab.mp e).1;rw[cP] at hi;rw[fU hi] at e;injection e with e;subst e
  refine#[hi,λy H3 h9=>?_];let#[e3,e4]:=h9;subst e3;subst e4;exact#[.refl,R,aP.mpr (#v[])]
 .show n<=i
  simpa using hl
end
section
variable{t:yw}{T:Tab}{Γ:cb}{k n:Nat}{I:Inf}{X:Cx}
def Sl{e tg:Expr}{x:PL.Ex}(h:PE X e (tE (X.cc t) Γ x)):PI X tg e (BS (X.cc t) Γ (.val x)):=by
 rwa[λpins' s σ H Q J z=>Si h pins' s σ H Q J ?_]
 let#[env,ρ,S,RU,he,R,w,q]:=z;x_go;cases u with
 |str l=>rw[bE.mp r1];erw[.inr (.inr #[_,rfl,q _ _ _ _ _ _ w1 st1 R1 Sk])]
 |tup us=>
  let#[a,vs,e1,h1,h2]:=dC.mp r1;erw[.inr (.inl #[a,e1,#[vs,lD.of h1],q _ _ _ _ _ _ w1.2 st1 R1 (Sj R1 h1 h2)])]
 |loc m=>
  let#[us,e0,w2]:=PL.cR.mp (show PL.getL _ _ from w1);let#[a,vs,e1,ha,h1,h2]:=R1.lst e0 r1;erw[.inl #[a,e1,#[vs,iS.of h1],q _ _ _ _ _ _ w2 st1 R1 (N1 ha)]]
 |_=>erw[aW w1]
def N3{e tg:Expr}{x:PL.Ex}(h:PE X e (tE (X.cc t) Γ x)):PI X tg e (BS (X.cc t) Γ (.keys x)):=by
 rwa[λpins' s σ H Q J z=>M3 h pins' s σ H Q J ?_]
 let#[env,ρ,S,RU,he,R,w,q]:=z;x_go;let#[n,rfl,w1]:=PL.i4.mp (show PL.uw _ _ from w1);let#[kvs,e,w2]:=PL.jr.mp w1;let#[a,ev,ha]:=eQ.mp r1;rcases e with e|e
 .let#[vs,g1,g2,g3,g4]:=R1.at_ n a _ ha e
  refine#[a,vs,ev,.inl #[g1,λo=>?_]];have st2:=iU.put (H:=H1) (ag ha) g1 rfl (.sZ o (.dK vs));erw[q _ _ _ _ _ _ w2 (st1.trans st2) (R1.put ha g1 rfl #[o,vs,b9,g2,g3.mono R1 st2,g4.mono R1 st2]) (Ff ha b9)]
 .let#[o,vs,g1,g2,g3,g4]:=R1.at_ n a _ ha e
  have es:S1.set n (.vR kvs)=S1:=by
   let#[hl,e2]:=ab.mp e;rw[<-e2];erw[List.set_getElem_self hl]
  rw[es] at w2;exact#[a,vs,ev,.inr #[o,g1,q _ _ _ _ _ _ w2 st1 R1 (Ff ha g1)]]
def Kb(G:Good t T Γ k I X)(hg:I.gl ("range":Str)=ζ)(hb:"range"∈T.iA)(h1:noStar a=ζ)(h:PE X a (tE (X.cc t) Γ x)):
  PI X tg (.Call (.Name ("range":Str) p) [a] [] pos) (BS (X.cc t) Γ (.range x)):=by
 rwa[λpins' s σ H Q J z=>Gf (ju G hg) (G.tab.iA "range" hb) (pS h vD (cZ h1)) (cZ h1) pins' s σ H Q J ?_]
 let#[env,ρ,S,RU,he,R,w,q]:=z;x_go;let#[j,e,w2,w3,w4]:=PL.fI.mp w1;subst e;exact#[j,by rw[aP.mp r1],∅,∅,q _ _ _ _ _ _ w4 st1 R1 Ka]
def aaT{n:Nat}{e:Expr}{x:PL.It}{es:List Expr}{ek:Nat}{tp:Pos}(IH:Hc t T Γ k n)(G:Good t T Γ k I X)(h:cN T (n+1) I e=ξ x):PI X (.Tuple es ek tp) e (BS (X.cc t) Γ x):=by
 rw[aaE] at h;delta stN at h;split at h
 .rename_i f a hr
  let#[p,cp,rfl]:=Pn hr;split at h
  .rename_i hc
   dsimp[ak] at hc;let#[#[#[c1,c2],c3],c4]:=hc;have ef:f=("enumerate":Str):=by simpa using c1
   subst ef;let#[y,h1,h2]:=au.mp h;subst h2;refine λpins' s σ H Q J z=>Nl (ju G c2) (G.tab.iA "enumerate" (~~~c3)) (pS (IH.fe G h1) vD (cZ c4)) (cZ c4) pins' s σ H Q J ?_
   let#[env,ρ,S,RU,he,R,w,q]:=z;x_go;let#[m,e,w2]:=PL.i4.mp w1;subst e;let#[us,e0,w3]:=PL.cR.mp w2;let#[b,vs,e1,hb,g1,g2]:=R1.lst e0 r1;subst e1;exact#[b,rfl,#[vs,iS.of g1],q _ _ _ _ _ _ w3 st1 R1 (N2 hb)]
  .erw[nn h]
 .erw[nn h]
def N4:∀{n:Nat}{I:Inf}{e:Expr}{x:PL.Ex},cE T n I e=ξ x->noStar e=ζ:=by
 intro n I e x h;cases n with
 |zero=>erw[nn h]
 |succ n=>
  cases e<;>first|rfl|exact nn h
def Wk(IH:Hc t T Γ k n)(G:Good t T Γ k I X)(h:cI T (n+1) I e=ξ x):PI X tg e (BS (X.cc t) Γ x):=by
 have gen:∀{x:PL.It},(cE T n I e).map PL.It.val=ξ x->PI X tg e (BS (X.cc t) Γ x):=λh=>by
  let#[y,h1,h2]:=au.mp h;subst h2;erw[Sl (IH.fe G h1)]
 rw[aaC] at h;delta stI at h;split at h
 .rename_i f a hr
  let#[p,cp,rfl]:=Pn hr;split at h
  .rename_i hf
   split at h
   .rename_i hc
    rw[ak] at hc;let#[y,h1,h2]:=au.mp h;subst h2;have ef:f=("range":Str):=by simpa using hf
    subst ef;exact Kb G hc.1 (~~~hc.2) (N4 h1) (IH.fe G h1)
   .erw[nn h]
  .erw[gen h]
 .split at h
  .let#[y,h1,h2]:=au.mp h
   subst h2;erw[N3 (IH.fe G h1)]
  .erw[gen h]
end
open PL (U SO bH KU cb)
section
variable{c:Ctx}{ρ ρ2:List Addr}{H H2:Hp}{S:bH}
def iU.Wl(a:iU ρ H ρ2 H2)(h:H D=ψ):iU ρ H (ρ2++[D]) H2:=by
 let#[m,e]:=a.pre;refine#[#[m++[D],by rw[e,bR]],λb hb nb=>?_,a.fr,a.fz];rcases aJ.mp hb with z|z
 .erw[a.new b z nb]
 .rw[aX.mp z];erw[h]
def iU.BQ(a:iU ρ H ρ2 H2)(h:H D=ψ)(o:HO):iU ρ H ρ2 (upd H2 D o):=
 #[a.pre,a.new,λb o' h1 h2=>%[cw (dO h1 h)|a.fr b o' h1 h2],λb o' vs h1=>%[cw (dO h1 h)|a.fz b o' vs h1]]
def iU.out(a:iU ρ H ρ2 H2)(h:H D=ξ o)(n:D∉ρ):D∉ρ2/\H2 D=ξ o:=by
 refine#[λz=>?_,a.fr D o h n];have:=a.new D z n;rw[h] at this;cases this
def Kc(he:kS c ρ H env σ)(r:kS c ρ H us ys):kS c ρ H (us++PL.nk env ci) (ys++iy σ ci):=by
 have hl:=r.len;refine#[by simp[PL.nk,iy,hl],λi w e=>?_];by_cases lt:i<us.length
 .rw[ah lt] at e
  rw[ah ∅]
  erw[r.at_ i w e]
 .rw[aA ∅] at e
  rw[aA ∅,<-hl]
  generalize i-us.length=i at e ⊢;unfold PL.nk at e;unfold iy;rw[ar] at e ⊢;cases q:ci[i]? with
  |none=>rw[q] at e;cases e
  |some j=>
   rw[q] at e;dsimp[fg,jd] at e ⊢;cases z:env[j]? with
   |none=>rw[z] at e;cases e
   |some o=>
    rw[z] at e;cases o with
    |none=>cases e
    |some w'=>
     simp at e;subst e;let#[v,e1,r1]:=he.at_ j w' z;exact#[v,by rw[e1];rfl,r1]
def Wm(r:Rep c ρ H u y):kS c ρ H [ξ u] [ξ y]:=
 #[rfl,λi w e=>by cases i<;>simp at e;subst e;exact#[y,rfl,r]]
def Wn(r:Rep c ρ H u y)(r':Rep c ρ H u' y'):kS c ρ H [ξ u,ξ u'] [ξ y,ξ y']:=
 #[rfl,λi w e=>by
  match i with
  |0=>simp at e;subst e;exact#[y,rfl,r]
  |1=>simp at e;subst e;exact#[y',rfl,r']
  |i+2=>simp at e]
end
section
variable{t:yw}{T:Tab}{Γ:cb}{k n:Nat}{I:Inf}{X:Cx}
def mem_lookup:∀{l:List (Str×NameKind)}{y:Str}{k:NameKind},l.lookup y=ξ k->(y,k)∈l
 |[],_,_,h=>nomatch h
 | (a,b)::l,y,k,h=>by
  rw[aN] at h;by_cases e:y=a
  .subst e;simp at h;subst h;erw[aO]
  .have e2:(y==a)=ϑ:=by simp[e]
   rw[e2] at h;erw[az _ (mem_lookup h)]
def wb(G:Good t T Γ k I X)(h:vX I sc x=ζ):By X sc x:=by
 unfold vX at h;dsimp[ak,bK] at h;let#[#[#[#[#[h1,h2],h3],h4],h5],h6]:=h;refine#[~~~h1,λy hy e=>?_,λy hy e=>?_,λy hy e=>?_,λy hy=>by simpa using h5 y hy,of_decide_eq_true h6,λy e=>?_]
 .have:=h2 y hy;rw[e] at this;simpa using this
 .have:=h3 y hy;rw[e] at this;simpa using this
 .have:=h4 y hy;rw[e] at this;rw[G.names];simpa using this
 .erw[mem_lookup e]
def Fg(G:Good t T Γ k I X)(h:(i0 I sc).mapM (λy=>eM y I.N)=ξ ci):zC X sc (i0 I sc) ci:=by
 have key:∀(l:List Str)(ci:List Nat),l.mapM (λy=>eM y I.N)=ξ ci->ci.length=l.length/\∀(k:Nat)(y:Str),l[k]?=ξ y->∃j:Nat,ci[k]?=ξ j/\I.N[j]?=ξ y:=by
  intro l;induction l with
  |nil=>intro ci h;simp at h;subst h;exact#[rfl,λk y e=>by simp at e]
  |cons a l ih=>
   intro ci h;dsimp[List.mapM_cons,aQ,ax] at h;let#[j,h1,r,h2,h3]:=h;simp at h3;subst h3;let#[q1,q2]:=ih r h2;refine#[by simp[q1],λk y e=>?_];cases k with
   |zero=>simp at e;subst e;exact#[j,rfl,fF h1]
   |succ k=>simp at e ⊢;erw[q2 k y e]
 let#[q1,q2]:=key _ _ h;refine#[q1,λk y e=>?_,λy hy=>?_]
 .rw[G.slots];erw[q2 k y e]
 .unfold i0 at hy
  have:=(fA.mp hy).2;simpa using this
def sE(G:Good t T Γ k I X)(hc:I.calm=ζ)(h:vX I sc x=ζ)(cp:zC X sc (i0 I sc) ci)(hn:(i0 I sc).Nodup):
  Good t T Γ k #[sj I sc.names,x++i0 I sc,ζ] (X.vL sc C (x++i0 I sc) s₀ H₀ ex):=by
 have B:=wb G h;refine#[G.tab,G.RS,B.kind,?_,rfl,tL cp B hn,λ_=>G.calm hc,G.units,rfl];show(Ia sc X.env).names=_;unfold Ia sj;simp only
 congr 1
 funext p
 let#[a,b]:=p;dsimp[G.kind,Env.kindOf,G.names];simp
def yA(z:tE (X.cc t) Γ (.comp pr e it tc ci) σ H Q):
  Ja (VI X.K pr) (BS (X.cc t) Γ it) ci (tT (X.cc t) Γ tc) (tE (X.cc t) Γ e) σ H Q:=by
 let#[env,ρ,S,QU,he0,R,w,q]:=z;refine#[env,ρ,S,_,he0,R,w,λus g S1 H1 ρ1 J w1 st1 R1 io=>?_];intro D hD;have he1:=he0.later R st1;have D0:D∉ρ1:=R1.JC hD
 let F:=PL.oM g (λu S2 k=>PL.qE pr u (PL.nk env ci) λen=>PL.WT Γ tc en S2 k)
   (λu S2 k=>PL.qE pr u (PL.nk env ci) λen=>PL.WE Γ e en S2 k) (λacc S3=>QU (.loc S3.length) (S3++[.lst acc]))
 refine#[λi m acc H2=>m+i=us.length/\∃ρ2 S2 accU,iU ρ1 H1 ρ2 H2/\cH (X.cc t) ρ2 H2 S2/\D∉ρ2/\H2 D=ξ (.lst acc)/\a9 (X.cc t) ρ2 H2 accU acc/\F (us.drop i) accU S2,#[us.length,rfl,ρ1,S1,[],iU.lay R1 hD _,R1.lay hD _,D0,b9,a9.nil,w1],?_];rintro i m acc H2 ⟨hm,ρ2,S2,accU,st2,R2,D2,hD2,ra,wc⟩;have hlen:acc.length=accU.length:=ra.len.symm;cases hd:us.drop i with
 |nil=>
  rw[hd] at wc;obtain⟨g2,hl,w2⟩:g S2/\accU.length<1000000/\QU (U.loc S2.length) (S2++[SO.lst accU]):=wc;refine#[hD2,%[hlen|aD hl ⋯],.inl #[((io i ρ2 H2 S2 st2 R2 g2).2 (EB.mp hd)),?_]];rwa[q _ _ _ _ _ w2 (st1.trans (st2.Wl hD)) (R2.join D2 #[acc,hD2,ra]) (eQ.mpr #[D,rfl,?_])];rw[<-R2.len,aA (ao _),bT];rfl
 |cons u rest=>
  rw[hd] at wc;obtain⟨g2,hl,w0⟩:g S2/\accU.length<1000000/\PL.qE pr u (PL.nk env ci) λen=>PL.WT Γ tc en S2 (λb S3=>if b=ζ then PL.qE pr u (PL.nk env ci) (λen=>PL.WE Γ e en S3 (λv S4=>F rest (accU++[v]) S4)) else F rest accU S3):=wc
  have hu:us[i]?=ξ u:=by
   have:=congrArg (λl=>l[0]?) hd;simpa using this
  have hr:us.drop (i+1)=rest:=by
   have:=congrArg List.tail hd;simpa using this
  have hi:i<us.length:=(ab.mp hu).1;let#[jg,jy]:=(io i ρ2 H2 S2 st2 R2 g2).1 u hu;refine#[hD2,by rw[hlen];exact aD hl ⋯,.inr #[jg,λy H3 hy=>?_]];let#[st3,R3,ry]:=jy y H3 hy;let#[_,hD3]:=st3.out hD2 D2;have ra3:=ra.mono R2 st3;obtain⟨us',τ,rτ,w2,kτ⟩:∃(us':PL.Env)(τ:St),kS (X.cc t) ρ2 H3 us' τ/\PL.WT Γ tc (us'++PL.nk env ci) S2 (λb S3=>if b=ζ then PL.WE Γ e (us'++PL.nk env ci) S3 (λv S4=>F rest (accU++[v]) S4) else F rest accU S3)/\∀k:St->Prop,k τ->VI X.K pr y H3 k:=by
   cases pr with
   |false=>exact#[[ξ u],[ξ y],Wm ry,w0,λk z=>z]
   |true=>
    let#[u1,u2,eu,w2]:=PL.ET.mp w0;subst eu;let#[a,vs,e1,ha,hr2]:=dC.mp ry;let#[v1,v2,ev,r1,r2]:=yr hr2;subst ev;exact#[[ξ u1,ξ u2],[ξ v1,ξ v2],Wn r1 r2,w2,λk z=>#[a,v1,v2,e1,lD.of ha,z]]
  have he3:=Kc (ci:=ci) (he1.later R1 (st2.trans st3)) rτ;rwa[kτ _ #[_,ρ2,S2,_,he3,R3,w2,λb S4 H4 ρ4 w4 st4 R4=>?_]];let#[D4,hD4]:=st4.out hD3 D2;have ra4:=ra3.mono R3 st4;cases b with
  |false=>exact#[m-1,∅,∅,ρ4,S4,accU,(st2.trans st3).trans st4,R4,D4,hD4,ra4,%[hr|w4]]
  |true=>
   refine#[_,ρ4,S4,_,he3.later R3 st4,R4,w4,λv S5 z H5 ρ5 w5 st5 R5 r5=>?_];let#[D5,hD5]:=st5.out hD4 D4;have ra5:=(ra4.mono R4 st5).app (a9.cons r5 a9.nil);refine#[hD5,m-1,∅,∅,ρ5,S5,accU++[v],(((st2.trans st3).trans st4).trans st5).BQ hD _,R5.BQ _ hD5 rfl D5,D5,b9,ra5.iQ #[[],#v[]] (zS hD5 rfl),%[hr|w5]]
def Kd(ht:Nw tg=ξ x)(B:By X sc x)(cp:zC X sc cn ci)(hn:cn.Nodup)(hc:X.calm=ζ):Ux X tg sc x cn (VI X.K (x.length==2)):=by
 rcases DP ht with⟨_,_,rfl,rfl⟩|⟨_,_,_,_,_,_,rfl,rfl⟩
 .erw[Jb B cp hn]
 .erw[Jc B cp hn hc]
def N5{elt iter tg:Expr}{ifs:List Expr}{x:List Str}{pos:Pos}{sc:kO}{it:PL.It}{tc:PL.Tx}{e:PL.Ex}{ci:List Nat}(G:Good t T Γ k I X)(hc:I.calm=ζ)(ht:Nw tg=ξ x)(hb:vX I sc x=ζ)(hci:(i0 I sc).mapM (λy=>eM y I.N)=ξ ci)
  (hs:∀env v,foldedSetIterable iter env v=pure v) (hi:PI X tg iter (BS (X.cc t) Γ it))
  (hif:∀(X':Cx),Good t T Γ k #[sj I sc.names,x++i0 I sc,ζ] X'->X'.cc t=X.cc t->M5 X' ifs (tT (X.cc t) Γ tc))
  (he:∀(X':Cx),Good t T Γ k #[sj I sc.names,x++i0 I sc,ζ] X'->X'.cc t=X.cc t->PE X' elt (tE (X.cc t) Γ e)):
  PE X (.ListComp elt [#[tg,iter,ifs,0]] sc pos) (tE (X.cc t) Γ (.comp (x.length==2) e it tc ci)):=by
 have hn:(i0 I sc).Nodup:=by
  unfold i0;have:=G.nd;rw[G.slots] at this;erw[this.filter _]
 have cp:=Fg G hci;refine(M9 (wi:=BS (X.cc t) Γ it) (tc:=tT (X.cc t) Γ tc) (te:=tE (X.cc t) Γ e)
  (wb G hb) cp hn (G.calm hc).1 (Kd ht (wb G hb) cp hn (G.calm hc).1) hi (λC s₀ H₀ ex=>hif _ (sE G hc hb cp hn) rfl) (λC s₀ H₀ ex=>he _ (sE G hc hb cp hn) rfl) (hs _)).imp λσ H Q z=>yA z
def N6(ha:PE X a (tE (X.cc t) Γ x))(hb:PE X b (tE (X.cc t) Γ y)):PE X (.Dict [ξ a] [b] pos) (tE (X.cc t) Γ (.dX #v[x] #v[y])):=by
 refine(MZ (IX ha hb MY) rfl rfl (#v[]) (show 1<=15 by decide)).imp ?_;rintro σ H Q ⟨env,ρ,S,QU,he,R,w,q⟩;intro p hp;have st0:=iU.lay R hp (.dK []);have R0:=R.lay hp (.dK []);refine#[env,ρ,S,_,he.later R st0,R0,w,λu S1 v H1 ρ1 w1 st1 R1 r1=>?_];refine#[env,ρ1,S1,_,(he.later R st0).later R0 st1,R1,w1,λu2 S2 v2 H2 ρ2 w2 st2 R2 r2=>?_];obtain⟨_,hk,w',e,w3⟩:([u]:List U).length<=100/\PL.mP u=ζ/\∃v,[u2]=[v]/\QU (.loc S2.length) (S2++[SO.dX [(u,v)]]):=w2;cases e;let#[p2,hp2]:=(st1.trans st2).out b9 (R.JC hp);have im:=zS (ho:=.dK [(v7 u,v2)]) hp2 rfl;have k1:=(r1.mono R1 st2).iQ (ρ':=ρ2) #[[],#v[]] im;have k2:=r2.iQ (ρ':=ρ2) #[[],#v[]] im;refine#[hp2,[(v7 u,v2)],by rw[kI hk r1];rfl,show 1<=15 by decide,?_];show Q (.ref p) (upd H2 p (.dK [(v7 u,v2)]));rwa[q _ _ _ _ _ w3 ((((st0.trans st1).trans st2).BQ hp _).Wl hp) ((R2.BQ _ hp2 rfl p2).join p2 #[_,b9,rfl,a9.cons (show Rep (X.cc t) ρ2 _ u (kV (v7 u)) by rw[<-kI hk r1];erw[k1]) a9.nil,a9.cons k2 a9.nil]) (eQ.mpr #[p,rfl,?_])];rw[<-R2.len,aA (ao _),bT];rfl
end
open PL (U SO bH KU cb)
section
variable{t:yw}{T:Tab}{Γ:cb}{k n:Nat}{I:Inf}{X:Cx}
def Sn(h:PE X e (tE (X.cc t) Γ x))(he:∀env whole,isTrue e env whole=(do let v <-whole;standAt e.pos;holding [v] (truthy v))):PT X e (tT (X.cc t) Γ (.cY x)):=by
 refine(Iz h (he _)).imp ?_;kd_p;x_go;let#[b,e1,w2]:=PL.jH.mp w1;exact#[b,NS (X:=X) rfl R1 r1 e1,q _ _ _ _ w2 st1 R1]
def N7(h:PT X e (tT (X.cc t) Γ x)):PT X (.UnaryOp .Not e pos) (tT (X.cc t) Γ (.not x)):=by
 refine(Qe h).imp ?_;kd_p;exact#[env,ρ,S,_,he,R,w,λb S1 H1 ρ1 w1 st1 R1=>q _ _ _ _ w1 st1 R1]
def PW.imp{e:Expr}{t t':TT}(h:PW X e t)(q:∀σ H Q,t' σ H Q->t σ H Q):PW X e t':=λwhole pZ s σ H Q I z=>h whole pZ s σ H Q I (q σ H Q z)
def So(IH:Hc t T Γ k n)(G:Good t T Γ k I X):∀{vs:List Expr}{x:PL.Tx},YH T (n+1) I op vs=ξ x->PW X (.BoolOp op vs pos) (tT (X.cc t) Γ x)
 |[],x,h=>by rw[JB,Jy] at h;cases h
 |[a],x,h=>by
  rw[JB,Jy] at h;cases op with
  |And=>erw[Mq (IH.ft G h)]
  |Or=>erw[Qc (IH.ft G h)]
 |a::b::r,y,h=>by
  rw[JB,Jy] at h;dsimp[aQ,ax] at h;let#[x,h1,z,h2,h3]:=h;injection h3 with h3;subst h3
  cases op with
  |And=>
   refine(Qd (IH.ft G h1) (IH.ftb G h2)).imp ?_;kd_p;refine#[env,ρ,S,_,he,R,w,λb S1 H1 ρ1 w1 st1 R1=>?_];cases b with
   |true=>exact#[env,ρ1,S1,QU,he.later R st1,R1,w1,q.later st1]
   |false=>erw[q _ _ _ _ w1 st1 R1]
  |Or=>
   refine(UY (IH.ft G h1) (IH.ftb G h2)).imp ?_;kd_p;refine#[env,ρ,S,_,he,R,w,λb S1 H1 ρ1 w1 st1 R1=>?_];cases b with
   |true=>erw[q _ _ _ _ w1 st1 R1]
   |false=>exact#[env,ρ1,S1,QU,he.later R st1,R1,w1,q.later st1]
def BW(h:cE T n I b=ξ x):behindInMarks op b=ϑ:=by
 cases b<;>first|rfl|skip
 cases n with
 |zero=>erw[nn h]
 |succ n=>erw[nn h]
def Fh(h:cI T n I e=ξ x):∀env v,foldedSetIterable e env v=pure v:=by
 intro env v;cases e<;>first|rfl|skip
 cases n with
 |zero=>erw[nn h]
 |succ n=>
  change ((sk T n).e I _).map PL.It.val=ξ x at h
  let#[y,h1,_]:=au.mp h
  change cE T n I _=ξ y at h1
  cases n with
  |zero=>erw[nn h1]
  |succ n=>erw[nn h1]
def Pr(h:cN T n I e=ξ x):∀env v,foldedSetIterable e env v=pure v:=by
 intro env v;cases e<;>first|rfl|skip
 cases n with
 |zero=>erw[nn h]
 |succ n=>erw[nn h]
def Ke(IH:Hc t T Γ k n)(G:Good t T Γ k I X)(h:((sk T n).e I e).map .cY=ξ x)(he:∀env whole,isTrue e env whole=(do let v <-whole;standAt e.pos;holding [v] (truthy v))):PT X e (tT (X.cc t) Γ x):=by
 let#[y,h1,h2]:=au.mp h;subst h2;erw[Sn (IH.fe G h1) he]
def Wo(IH:Hc t T Γ k n)(G:Good t T Γ k I X)(h:cT T (n+1) I e=ξ x):PT X e (tT (X.cc t) Γ x):=by
 rw[aaG] at h;cases e with
 |UnaryOp op a pos=>
  cases op with
  |Not=>
   let#[y,h1,h2]:=au.mp h;subst h2;erw[N7 (IH.ft G h1)]
  |_=>erw[Ke IH G h λ_ _=>rfl]
 |BoolOp op vs pos=>exact(IH.ftb G h).pt
 |IfExp=>erw[nn h]
 |Compare a ops bs pos=>
  cases ops with
  |nil=>erw[nn h]
  |cons op ops=>cases ops with
   |cons=>erw[nn h]
   |nil=>cases bs with
    |nil=>erw[nn h]
    |cons b bs=>cases bs with
     |cons=>erw[nn h]
     |nil=>
      let#[o,h1,hb]:=ax.mp h;let#[a,h2,hc]:=ax.mp hb;let#[b,h3,h4]:=ax.mp hc;injection h4 with h4;subst h4
      erw[NU G h1 (BW h3) (IH.fe G h2) (IH.fe G h3)]
 |_=>erw[Ke IH G h λ_ _=>rfl]
end
open PL (U SO bH KU cb)
section
variable{t:yw}{T:Tab}{Γ:cb}{k n:Nat}{I:Inf}{X:Cx}
def zW:∀{n:Nat},(sk T n).es I []=ξ y->y=.nil
 |0,h=>by cases h
 |_+1,h=>(aG h).symm
def ke{x y:Str}(h:(x !=y)=ζ):(x==y)=ϑ:=by simpa using h
def BX(IH:Hc t T Γ k n)(G:Good t T Γ k I X){tg iter:Expr}{xs:List Str}{it:PL.It}(ht:Nw tg=ξ xs)(h:(∃y,xs=[y])/\cI T n I iter=ξ it\/(¬ ∃y,xs=[y])/\cN T n I iter=ξ it):
  (∀env v,foldedSetIterable iter env v=pure v)/\PI X tg iter (BS (X.cc t) Γ it):=by
 rcases DP ht with⟨x,p,rfl,rfl⟩|⟨x,y,p,p',kd,q,rfl,rfl⟩<;>rcases h with⟨z,h1⟩|⟨z,h1⟩
 .exact#[Fh h1,IH.fi G h1]
 .erw[absurd #[_,rfl] z]
 .let#[y,e]:=z;simp at e
 .exact#[Pr h1,IH.fn G h1]
def Fi(IH:Hc t T Γ k n)(G':Good t T Γ k J X')(ec:X'.cc t=X.cc t)(h:cIf T n J ifs=ξ c):M5 X' ifs (tT (X.cc t) Γ c):=by
 unfold cIf at h;split at h
 .injection h with h;subst h
  intro pZ s σ H Q J z;refine M6 (X:=X') pZ s σ H Q J ?_;let#[env,ρ,S,QU,he,R,w,q]:=z;have w2:QU ζ S:=by
   have:PL.opt (PL.tO S (.bl ζ)) (λb=>QU b S):=w;erw[this]
  erw[q ζ S H ρ w2 .refl R]
 .have:=IH.ft G' h
  rw[ec] at this;erw[M7 this]
 .erw[nn h]
def N8(h:(match args with|[a]=>Ry a|_=>ψ)=ξ o):∃ap cp,(ap.endLine==cp.line)=ζ/\args=[.Call (.Attribute o ("values":Str) ap) [] [] cp]:=by
 split at h
 .rename_i a
  unfold Ry at h;split at h
  .split at h
   .rename_i o' m ap cp hc
    rw[ak] at hc;have e:=eq_of_beq hc.1;subst e;injection h with h;subst h
    exact#[ap,cp,hc.2,rfl]
   .erw[nn h]
  .erw[nn h]
 .erw[nn h]
def Wq(IH:Hc t T Γ k n)(G:Good t T Γ k I X){e:Expr}{x:PL.Ex}(h:cE T (n+1) I e=ξ x):PE X e (tE (X.cc t) Γ x):=by
 have ge:∀{e:Expr}{y:PL.Ex},cE T n I e=ξ y->PE X e (tE (X.cc t) Γ y):=λh=>IH.fe G h
 have gA:∀{es:List Expr}{y:PL.zG},UE T n I es=ξ y->PA X es (HP (X.cc t) Γ y):=λh=>IH.Wd G h
 have h0:=h;rw[Nx] at h;cases e with(delta UD at h;try dsimp only at h)
 |Name x' pos=>
  split at h
  .rename_i i hi
   split at h
   .rename_i hc
    dsimp[ak] at hc;injection h with h;subst h
    erw[NT G hi hc.1.1 (ke hc.1.2) (ke hc.2)]
   .erw[nn h]
  .split at h
   .rename_i hc
    rw[ak] at hc;let#[p,h1,h2]:=au.mp h;subst h2;erw[JX G hc.1 h1 (ke hc.2)]
   .erw[nn h]
 |Constant c kd pos=>
  let#[u,h1,h2]:=au.mp h;subst h2;cases c with
  |none=>cases h1;erw[sC (v:=.b7) (Qa) λ_ _=>fq.mpr rfl]
  |bool b=>cases h1;erw[sC (v:=.bl _) (UX) λ_ _=>d6.mpr rfl]
  |int i=>cases h1;erw[sC (v:=.int _) (P9) λ_ _=>aP.mpr rfl]
  |str x=>cases h1;erw[sC (v:=.str _) (Qb) λ_ _=>bE.mpr (by rw[<-VL])]
  |_=>erw[nn h1]
 |BinOp a op b pos=>
  dsimp[aQ,ax] at h;let#[o,h1,a,h2,b,h3,h4]:=h;injection h4 with h4;subst h4
  erw[RV G h1 (ge h2) (ge h3)]
 |UnaryOp op a pos=>
  cases op with
  |Not=>let#[y,h1,h2]:=au.mp h;subst h2;erw[RZ (ge h1)]
  |USub=>let#[y,h1,h2]:=au.mp h;subst h2;erw[RY (ge h1)]
  |_=>erw[nn h]
 |BoolOp op vs pos=>erw[IH.fbo G h]
 |Compare a ops bs pos=>
  split at h
  .split at h
   .dsimp[aQ,ax] at h
    let#[o,h1,a,h2,b,h3,h4]:=h;injection h4 with h4;subst h4
    erw[RW G h1 (BW h3) (ge h2) (ge h3)]
   .erw[nn h]
  .erw[nn h]
 |IfExp c a b pos=>
  dsimp[aQ,ax] at h;let#[o,h1,a,h2,b,h3,h4]:=h;injection h4 with h4;subst h4
  erw[We (IH.ft G h1) (ge h2) (ge h3)]
 |Call fn args kws cp=>
  cases fn with
  |Name f p=>
   cases kws with
   |nil=>
    dsimp only at h;split at h
    .rename_i hc
     rw[ak] at hc;let#[hg,hd]:=hc;split at h
     .rename_i hf
      rw[ak] at hf;have ef:f=("isinstance":Str):=eq_of_beq hf.1;subst ef;have hb:"isinstance"∈T.iA:=by simpa using hf.2
      split at h
      .split at h
       .erw[nn h]
       .rename_i hs
        let#[y,h1,h2]:=ax.mp h;let#[ty,h3,h4]:=au.mp h2;subst h4;exact Sh G hg hb (~~~hs) h3 (ge h1)
      .erw[nn h]
     .split at h
      .rename_i b hb
       split at h
       .rename_i o' ho'
        split at h
        .rename_i hc
         dsimp[ak] at hc;let#[#[#[hf,hm],hcm],h0']:=hc;have hf:=eq_of_beq hf;subst hf;let#[y,h1,h2]:=au.mp h;subst h2;let#[ap,c2,hl,rfl]:=N8 ho';exact NY G hg (~~~hm) (G.calm hcm).1 h0' hl (ge h1)
        .erw[nn h]
       .split at h
        .rename_i hs
         dsimp[ak,xI] at hs;let#[#[#[s,hp],hs],hcm]:=hs;let#[y,h1,h2]:=au.mp h;subst h2;cases args with
         |nil=>simp at hs
         |cons a as=>
          have st:=oy h1;rw[bS,ak] at st;erw[Sa G hg hb hp (G.calm hcm).1 (G.calm hcm).2.hd st.1 st.2 (gA h1)]
        .erw[nn h]
      .split at h
       .erw[nn h]
       .rename_i hcm
        have hcm:I.calm=ζ:=by simpa using hcm
        split at h
        .rename_i q hq
         let#[hm,rfl]:=ny hq;let#[y,h1,h2]:=au.mp h;subst h2;cases args with
         |nil=>
          cases zW h1;erw[J1 G hg hcm hm (ke hd)]
         |cons a as=>
          have st:=oy h1;rw[bS,ak] at st;erw[NZ G hg hcm hm (ke hd) st.1 st.2 (IH.Wd G h1)]
        .split at h
         .rename_i q hq
          let#[hm,rfl]:=ny hq;let#[y,h1,h2]:=au.mp h;subst h2;cases args with
          |nil=>
           cases zW h1;erw[Sf G hg hcm hm (ke hd)]
          |cons a as=>
           have st:=oy h1;rw[bS,ak] at st;erw[Wj G hg hcm hm (ke hd) st.1 st.2 (IH.Wd G h1)]
         .erw[nn h]
    .erw[nn h]
   |cons kw ks=>
    dsimp only at h;split at h
    .split at h
     .rename_i hc
      dsimp[ak] at hc;let#[#[#[#[#[#[#[q0,q1],q2],q4],q6],q7],q8],q9]:=hc;have q1:=eq_of_beq q1;subst q1;have q0:ks=[]:=by simpa using q0
      subst q0;let#[y,h1,h2]:=au.mp h;subst h2;let#[ka,kv,kp]:=kw;unfold Jv at q2;rw[ak] at q2;have e1:=eq_of_beq q2.1;subst e1;have q3:=q2.2;cases kv with
      |Name l lp=>
       have q3:(l==("len":Str)&&I.gl l)=ζ:=q3;rw[ak] at q3;have e2:=eq_of_beq q3.1;subst e2;exact Hd G q4 q3.2 (~~~q6) (~~~q7) (G.calm q8).1 q9 (ge h1)
      |_=>cases q3
     .erw[nn h]
    .erw[nn h]
  |Attribute o m ap=>
   dsimp only at h;split at h
   .erw[nn h]
   .rename_i hc
    dsimp[hJ,Ig,ak] at hc;let#[#[#[#[hk,hc0],hl],hn],hcm]:=hc;have hk:kws=[]:=by simpa using hk
    subst hk;have hn:=of_decide_eq_true hn;split at h
    .rename_i q kk hq
     let#[hm,hq2]:=yx hq;dsimp only at hq2;subst hq2;dsimp[aQ,ax] at h;let#[y,h1,as,h2,h3]:=h;injection h3 with h3;subst h3
     cases args with
     |nil=>
      cases zW h2;erw[J4 G hcm hm hc0 hl (IH.fe G h1)]
     |cons a as'=>
      have st:=oy h2;rw[bS,ak] at st;erw[N0 G hcm hm hc0 hl hn st.1 st.2 (IH.fe G h1) (IH.Wd G h2)]
    .split at h
     .split at h
      .rename_i em
       let#[y,h1,h2]:=au.mp h;subst h2;have em:=eq_of_beq em;subst em;erw[NV G hc0 hl (ge h1)]
      .erw[nn h]
     .rename_i a as
      split at h
      .rename_i em
       have em:=eq_of_beq em;subst em;split at h
       .rename_i d
        split at h
        .rename_i st
         rw[ak] at st;dsimp[aQ,ax] at h;let#[y,h1,z,h2,w,h3,h4]:=h;injection h4 with h4;subst h4
         erw[Sd G hc0 hl st.1 st.2 (ge h1) (ge h2) (ge h3)]
        .erw[nn h]
       .split at h
        .rename_i st
         dsimp[aQ,ax] at h;let#[y,h1,z,h2,h4]:=h;injection h4 with h4;subst h4
         erw[NW G hc0 hl st (ge h1) (ge h2)]
        .erw[nn h]
       .erw[nn h]
      .split at h
       .rename_i b hb
        dsimp[aQ,ax] at h;let#[y,h1,as',h2,h3]:=h;injection h3 with h3;subst h3
        have st:=oy h2;rw[bS,ak] at st;erw[Sb G hb (G.calm hcm).2.hd hc0 hl hn st.1 st.2 (ge h1) (gA h2)]
       .erw[nn h]
  |_=>erw[nn h]
 |Attribute o f pos=>
  split at h
  .erw[nn h]
  .rename_i hc0
   dsimp[aQ,ax] at h;let#[q,h1,y,h2,h3]:=h;injection h3 with h3;subst h3
   let#[hm,rfl]:=ny h1;exact R9 G hm (~~~hc0) (ge h2)
 |Subscript o i pos=>
  split at h
  .rename_i hs
   dsimp[aQ,ax] at h;let#[y,h1,a,h2,h3]:=h;injection h3 with h3;subst h3
   split
   .erw[Se G hs (ge h1) (ge h2)]
   .erw[Wf hs (ge h1) (ge h2)]
  .split at h
   .split at h
    .dsimp[aQ,ax] at h
     let#[y,h1,a,h2,b,h3,h4]:=h;injection h4 with h4;subst h4
     erw[Wh (ge h1) (IH.fo G h2) (IH.fo G h3)]
    .erw[nn h]
   .erw[nn h]
 |Dict ks vs pos=>
  split at h
  .split at h
   .injection h with h;subst h;erw[NX]
   .erw[nn h]
  .split at h
   .dsimp[aQ,ax] at h
    let#[y,h1,z,h2,h4]:=h;injection h4 with h4;subst h4
    erw[N6 (ge h1) (ge h2)]
   .erw[nn h]
  .erw[nn h]
 |List es pos=>
  let#[y,h1,h2]:=au.mp h;subst h2;erw[R8 (gA h1)]
 |Tuple es kd pos=>
  let#[y,h1,h2]:=au.mp h;subst h2;erw[R7 (gA h1)]
 |ListComp elt gs sc pos=>
  let#[tg,iter,ifs,xs,it,c,ee,ci,rfl,ht,hc,h1,h2,h3,h4,h5]:=vY h0;subst h5;have hi:=BX IH G ht h1;rwa[N5 G hc.2 ht hc.1 h4 hi.1 hi.2 (λX' G' ec=>?_) (λX' G' ec=>?_)]
  .erw[Fi IH G' ec h2]
  .have:=IH.fe G' h3
   rw[ec] at this;erw[this]
 |_=>erw[nn h]
def Kf:Hc t T Γ k 0:=by
 constructor
 .intro I X e x _ h;rw[V7] at h;erw[nn h]
 .intro I X e x _ h;rw[Po] at h;erw[nn h]
 .intro I X op vs x pos _ h;rw[V8] at h;erw[nn h]
 .intro I X e x _ h;rw[aaA] at h;erw[nn h]
 .intro I X e x tg _ h;rw[aaB] at h;erw[nn h]
 .intro I X e x es ek tp _ h;rw[aaD] at h;erw[nn h]
 .intro I X e x _ h;rw[aaF] at h;erw[nn h]
 .intro I X op vs x pos _ h;rw[Wa] at h;erw[nn h]
def zX:∀n,Hc t T Γ k n
 |0=>Kf
 |n+1=>
  have IH:=zX n
  #[λG h=>Wq IH G h,λG h=>RX IH G h,λG h=>R6 IH G h,λG h=>Wg IH G h,λG h=>Wk IH G h,λG h=>aaT IH G h,λG h=>Wo IH G h,λG h=>So IH G h]
end
open PL (U SO bH KU cb)
def PS.imp{X:Cx}{st:Stmt}{t t':TS}(h:PS X st t)(q:∀D σ H,t' D σ H->t D σ H):PS X st t':=λpZ s σ H D I z=>h pZ s σ H D I (q D σ H z)
def u5.imp{X:Cx}{st:List Stmt}{t t':TS}(h:u5 X st t)(q:∀D σ H,t' D σ H->t D σ H):u5 X st t':=λpZ s σ H D I z=>h pZ s σ H D I (q D σ H z)
def Good.ps(G:Good t T Γ k I X):PassesOwn (bf X.prog X.w) X.A X.env X.xe:=%[G.xe|PassesOwn.never]
structure DR(c:Ctx)(ρ:List Addr)(H:Hp)(DU:PL.Ends)(D:Ends):Prop where
 nx:∀env' S' σ' H' ρ',DU.nx env' S'->iU ρ H ρ' H'->cH c ρ' H' S'->kS c ρ' H' env' σ'->D.nx σ' H'
 rt:QV c ρ H DU.rt D.rt
abbrev tS(c:Ctx)(Γ:cb)(x:PL.Sm):TS:=λD σ H=>∃env ρ S DU,kS c ρ H env σ/\cH c ρ H S/\PL.WS Γ x DU env S/\DR c ρ H DU D
abbrev L4(c:Ctx)(Γ:cb)(x:PL.dG):TS:=λD σ H=>∃env ρ S DU,kS c ρ H env σ/\cH c ρ H S/\PL.uU Γ x DU env S/\DR c ρ H DU D
section
variable{c:Ctx}{ρ ρ':List Addr}{H H':Hp}{S:bH}{DU:PL.Ends}{D:Ends}
def DR.later(q:DR c ρ H DU D)(a:iU ρ H ρ' H'):DR c ρ' H' DU D:=
 #[λenv' S' σ' H2 ρ2 h b R e=>q.nx env' S' σ' H2 ρ2 h (a.trans b) R e,q.rt.later a]
def kS.set(he:kS c ρ H env σ)(r:Rep c ρ H u v)(i:Nat):kS c ρ H (env.set i (ξ u)) (σ.set i (ξ v)):=by
 refine#[by simp[he.len],λj w e=>?_];by_cases z:j=i
 .subst z
  have hj:j<env.length:=by
   have:=(ab.mp e).1;simpa using this
  rw[bM hj] at e;injection e with e;injection e with e;subst e
  exact#[v,by rw[bM (by rw[<-he.len];erw[hj])],r]
 .rw[aj (cM z)] at e ⊢
  erw[he.at_ j w e]
end
open PL (U SO bH KU cb)
structure jL(t:yw)(T:Tab)(Γ:cb)(k:Nat)(I:Inf)(X:Cx):Prop where
 g:Good t T Γ k I X
 st:∀x,X.fn x=ζ
section
variable{t:yw}{T:Tab}{Γ:cb}{k n:Nat}{I:Inf}{X:Cx}
def tW(h:vZ (names.lookup x)=ζ)(e:sc.names=names):Loc sc x:=by
 rw[<-e] at h;unfold Loc;cases q:sc.names.lookup x with
 |none=>rw[q] at h;cases h
 |some kd=>rw[q] at h;cases kd<;>first|exact ff h|simp
def DZ(z:tS (X.cc t) Γ (.set i x) D σ H):tE (X.cc t) Γ x σ H λv H1=>D.nx (σ.set i (ξ v)) H1:=by
 let#[env,ρ,S,DU,he,R,w,q]:=z;x_go;erw[q.nx _ _ _ _ _ w1 st1 R1 ((he.later R st1).set r1 i)]
def Sr(G:jL t T Γ k I X)(h:eM x I.N=ξ i)(hl:vZ (I.names.lookup x)=ζ)(hs:∀env,iK e (ξ (.Name x p)) pos.line env=pure ϑ)
  (hy:PE X e (tE (X.cc t) Γ y)):PS X (.Assign [.Name x p] e pos) (tS (X.cc t) Γ (.set i y)):=by
 refine(Iv (X:=X) (i:=i) G.g.nd (by show X.N[i]?=ξ x;rw[G.g.slots];erw[fF h]) (tW hl G.g.names) hy (hs _) (.inl (G.st x))).imp ?_;intro D σ H z;erw[DZ z]
def N9(G:jL t T Γ k I X)(hf:f∈T.zP)(hx:PE X o (tE (X.cc t) Γ x))(hy:PE X e (tE (X.cc t) Γ y)):PS X (.Assign [.Attribute o (nm f) p] e pos) (tS (X.cc t) Γ (.n6 x f y)):=by
 have hs:∀env,iK e (ξ (.Attribute o (nm f) p)) pos.line env=pure ϑ:=λenv=>by cases e<;>rfl
 refine(QG (X:=X) hx hy (hs _)).imp ?_;rintro D σ H ⟨env,ρ,S,DU,he,R,w,q⟩;x_go;refine#[env,ρ1,S1,_,he.later R st1,R1,w1,λu2 S2 v2 H2 ρ2 w2 st2 R2 r2=>?_];let#[l,e1,w3]:=PL.i4.mp w2;subst e1;let#[c',fs,e2,hlen,w4]:=PL.ni.mp w3;let#[a,C,dx,vs,ev,ha,hC,hH,hn,hr]:=R2.ins e2 r2;let#[cl,na]:=G.g.tab.cls c' C hC;have hlv:vs.length=fs.length:=by have:=congrArg cD hn;simpa using this
 refine#[a,C,dx,vs,ev,hH,cl,na f hf,∅,?_];have st3:=iU.put (H:=H2) (ag ha) hH rfl (.ins C dx (kQ (nm f) v vs));have vb:∀{fs:List (String×U)}{vs:List (Str×V)},vs.map (·.1)=(fs.map (·.1)).map nm->a9 (X.cc t) ρ2 H2 (fs.map (·.2)) (vs.map (·.2)) ->
   (kQ (nm f) v vs).map (·.1)=((PL.iF f u fs).map (·.1)).map nm/\a9 (X.cc t) ρ2 H2 ((PL.iF f u fs).map (·.2)) ((kQ (nm f) v vs).map (·.2)):=by
  intro fs;induction fs with
  |nil=>
   intro vs hn hr;cases vs with
   |nil=>exact#[rfl,a9.cons (r1.mono R1 st2) a9.nil]
   |cons a b=>simp at hn
  |cons p fs ih=>
   intro vs hn hr;let#[g,w']:=p;cases vs with
   |nil=>simp at hn
   |cons b vs=>
    let#[b1,b2]:=b;dsimp[aw,cQ] at hn;rw[aw,aw] at hr;unfold a9 at hr;let#[v',r',e',k1,k2]:=hr;injection e' with e1' e2'
    subst e1';subst e2';unfold kQ PL.iF;by_cases z:g=f
    .have z2:b1=nm f:=by rw[hn.1,z]
     rw[if_pos z2,if_pos z]
     exact#[by simp[hn.1,hn.2],a9.cons (r1.mono R1 st2) k2]
    .have z2:¬b1=nm f:=λq=>z (wa _ _ (hn.1.symm.trans q))
     rw[if_neg z2,if_neg z]
     let#[m1,m2]:=ih hn.2 k2;exact#[by dsimp[aw,cQ];exact#[hn.1,m1],a9.cons k1 m2]
 let#[m1,m2]:=vb hn hr;rwa[q.nx _ _ _ _ _ w4 ((st1.trans st2).trans st3) (R2.put ha hH rfl #[C,dx,_,hC,b9,m1,m2.mono R2 st3]) ((he.later R (st1.trans st2)).later R2 st3)]
def Oa(G:jL t T Γ k I X)(hx:PE X o (tE (X.cc t) Γ x))(hi:PE X i (tE (X.cc t) Γ z))(hy:PE X e (tE (X.cc t) Γ y)):PS X (.Assign [.Subscript o i p] e pos) (tS (X.cc t) Γ (.nZ x z y)):=by
 have hs:∀env,iK e (ξ (.Subscript o i p)) pos.line env=pure ϑ:=λenv=>by cases e<;>rfl
 refine(MX (X:=X) (by have:=G.g.units;omega) hx hi hy (hs _)).imp ?_;rintro D σ H ⟨env,ρ,S,DU,he,R,w,q⟩;refine#[env,ρ,S,_,he,R,w,λu S1 v H1 ρ1 w1 st1 R1 r1=>?_];refine#[env,ρ1,S1,_,he.later R st1,R1,w1,λu2 S2 v2 H2 ρ2 w2 st2 R2 r2=>?_];refine#[env,ρ2,S2,_,(he.later R st1).later R1 st2,R2,w2,λu3 S3 v3 H3 ρ3 w3 st3 R3 r3=>?_];let#[n,e1,w3]:=PL.i4.mp w3;subst e1;let#[kvs,e2,#[hk,hn,hl],w4]:=PL.BF.mp w3;let#[a,ev,ha]:=eQ.mp (r2.mono R2 st3);let#[vs,g1,g2,g3,g4]:=R3.at_ n a _ ha e2;have l2:jW vs (v7 u3)=ψ:=by
  rcases sv hk g2 g3 g4 with⟨_,l2⟩|⟨_,_,l1,_⟩
  .erw[l2]
  .rw[hn] at l1;cases l1
 have r1':=r1.mono R1 (st2.trans st3);have st4:=iU.put (H:=H3) (ag ha) g1 rfl (.dK (vs++[(v7 u3,v)]));refine#[a,upd H3 a (.dK (vs++[(v7 u3,v)])),ev,.inl #[vs,v7 u3,g1,kI hk r3,%[g2|aD hl ⋯],by rw[Bt v l2]],?_];rwa[q.nx _ _ _ _ _ w4 (((st1.trans st2).trans st3).trans st4) (R3.put ha g1 rfl #[_,b9,by simp[g2],?_,?_]) ((he.later R ((st1.trans st2).trans st3)).later R3 st4)]
 .rw[aF,aF]
  exact(g3.mono R3 st4).app (a9.cons (show Rep (X.cc t) ρ3 _ u3 (kV (v7 u3)) by rw[<-kI hk r3];erw[r3.mono R3 st4]) a9.nil)
 .rw[aF,aF]
  exact(g4.mono R3 st4).app (a9.cons (r1'.mono R3 st4) a9.nil)
def Wr(G:jL t T Γ k I X)(hc:zQ e=ζ)(hy:PE X e (tE (X.cc t) Γ y)):PS X (.Expr e pos) (tS (X.cc t) Γ (.ex y)):=by
 refine(Ms (X:=X) hy (BU hc)).imp ?_;rintro D σ H ⟨env,ρ,S,DU,he,R,w,q⟩;x_go;erw[q.nx _ _ _ _ _ w1 st1 R1 (he.later R st1)]
def Ss(G:jL t T Γ k I X)(hy:PE X e (tE (X.cc t) Γ y)):PS X (.Return (ξ e) pos) (tS (X.cc t) Γ (.ret y)):=by
 refine(Qi (X:=X) hy).imp ?_;rintro D σ H ⟨env,ρ,S,DU,he,R,w,q⟩;exact#[env,ρ,S,_,he,R,w,q.rt]
def Su(G:jL t T Γ k I X)(hx:PT X c (tT (X.cc t) Γ x))(hy:u5 X a (L4 (X.cc t) Γ y))(hz:u5 X b (L4 (X.cc t) Γ z)):PS X (.If c a b pos) (tS (X.cc t) Γ (.ifs x y z)):=by
 refine(U5 (X:=X) hx (hy) (hz)).imp ?_;rintro D σ H ⟨env,ρ,S,DU,he,R,w,q⟩;refine#[env,ρ,S,_,he,R,w,λb S1 H1 ρ1 w1 st1 R1=>?_];cases b with
 |true=>exact#[env,ρ1,S1,DU,he.later R st1,R1,w1,q.later st1]
 |false=>exact#[env,ρ1,S1,DU,he.later R st1,R1,w1,q.later st1]
def D1(hp:DQ op=ξ p):op=NA p/\(p=.add\/p=.sub\/p=.bor):=by cases op<;>first|exact nn hp| (cases hp;exact#[rfl,#v[]])
def Sv(G:jL t T Γ k I X)(h:eM x I.N=ξ i)(hl:vZ (I.names.lookup x)=ζ)(hp:DQ op=ξ p)(hy:PE X e (tE (X.cc t) Γ y)):PS X (.AugAssign (.Name x px) op e pos) (tS (X.cc t) Γ (.aug i p y)):=by
 have eo:=D1 hp;rw[eo.1]
 refine(Ql (X:=X) (i:=i) G.g.nd (by show X.N[i]?=ξ x;rw[G.g.slots];erw[fF h]) (tW hl G.g.names) hy (zT (X:=X) (c:=X.cc t) eo.2) (.inl (G.st x))).imp ?_;rintro D σ H ⟨env,ρ,S,DU,he,R,w,q⟩;let#[u0,e0,w0]:=PL.BE.mp (show PL.zH _ _ from w);let#[v0,e1,r0]:=he.at_ i u0 e0;refine#[v0,e1,env,ρ,S,_,he,R,w0,λu S1 v H1 ρ1 w1 st1 R1 r1=>?_];refine#[u0,u,ρ1,S1,_,r0.mono R st1,r1,R1,w1,λu2 S2 v2 H2 ρ2 w2 st2 R2 r2=>?_];erw[q.nx _ _ _ _ _ w2 (st1.trans st2) R2 ((he.later R (st1.trans st2)).set r2 i)]
end
open PL (U SO bH KU cb)
section
variable{t:yw}{T:Tab}{Γ:cb}{k n:Nat}{I:Inf}{X:Cx}
def vb(ru:Rep c ρ H u v):∀{fs:List (String×U)}{vs:List (Str×V)},vs.map (·.1)=(fs.map (·.1)).map nm->a9 c ρ H (fs.map (·.2)) (vs.map (·.2)) ->
   (kQ (nm f) v vs).map (·.1)=((PL.iF f u fs).map (·.1)).map nm/\a9 c ρ H ((PL.iF f u fs).map (·.2)) ((kQ (nm f) v vs).map (·.2))
 |[],[],_,_=>#[rfl,a9.cons ru a9.nil]
 |[],_::_,hn,_=>by simp at hn
 |_::_,[],hn,_=>by simp at hn
 | (g,w')::fs,(b1,b2)::vs,hn,hr=>by
  dsimp[aw,cQ] at hn;rw[aw,aw] at hr;unfold a9 at hr;let#[v',r',e',k1,k2]:=hr;injection e' with e1' e2'
  subst e1';subst e2';unfold kQ PL.iF;by_cases z:g=f
  .have z2:b1=nm f:=by rw[hn.1,z]
   rw[if_pos z2,if_pos z]
   exact#[by simp[hn.1,hn.2],a9.cons ru k2]
  .have z2:¬b1=nm f:=λq=>z (wa _ _ (hn.1.symm.trans q))
   rw[if_neg z2,if_neg z]
   let#[m1,m2]:=vb ru hn.2 k2;exact#[by dsimp[aw,cQ];exact#[hn.1,m1],a9.cons k1 m2]
def Ob(G:jL t T Γ k I X)(hf:f∈T.zP)(hp:DQ op=ξ p)(hx:PE X o (tE (X.cc t) Γ x))(hy:PE X e (tE (X.cc t) Γ y)):PS X (.AugAssign (.Attribute o (nm f) tp) op e pos) (tS (X.cc t) Γ (.DD x f p y)):=by
 have eo:=D1 hp;rw[eo.1]
 refine(Gm (X:=X) hx hy (rd:=G8 (X.cc t) p) (zT (X:=X) (c:=X.cc t) eo.2)).imp ?_;rintro D σ H ⟨env,ρ,S,DU,he,R,w,q⟩;x_go;let#[l,e1,w2]:=PL.i4.mp w1;subst e1;let#[c',fs,e2,w3]:=PL.ni.mp w2;let#[u0,e3,w4]:=PL.jH.mp w3;let#[a,C,dx,vs,ev,ha,hC,hH,hn,hr]:=R1.ins e2 r1;let#[cl,na]:=G.g.tab.cls c' C hC;let#[v0,l0,r0]:=qZ hn hr e3 wa;refine#[a,C,dx,vs,v0,ev,hH,cl,na f hf,l0,?_];refine#[env,ρ1,S1,_,he.later R st1,R1,w4,λu2 S2 v2 H2 ρ2 w5 st2 R2 r2=>?_];refine#[u0,u2,ρ2,S2,_,r0.mono R1 st2,r2,R2,w5,λu3 S3 v3 H3 ρ3 w6 st3 R3 r3=>?_];let#[c'',fs',e4,#[e5,hlen,w7]]:=PL.ni.mp w6;subst e5;have ha3:=(st2.trans st3).get ha;let#[C',dx',vs',hC',hH',hn',hr']:=R3.at_ l a _ ha3 e4;rw[hC] at hC';injection hC' with hC';subst hC'
 have hlv:vs'.length=fs'.length:=by have:=congrArg cD hn';simpa using this
 refine#[dx',vs',hH',∅,?_];have st4:=iU.put (H:=H3) (ag ha3) hH' rfl (.ins C dx' (kQ (nm f) v3 vs'));let#[m1,m2]:=vb r3 hn' hr';rwa[q.nx _ _ _ _ _ w7 (((st1.trans st2).trans st3).trans st4) (R3.put ha3 hH' rfl #[C,dx',_,hC,b9,m1,m2.mono R3 st4]) ((he.later R ((st1.trans st2).trans st3)).later R3 st4)]
abbrev Ws(K:Frag):V->V->Hp->VK->Prop:=λo i H Q=>∃p xs k v,o=.ref p/\i=.int k/\H p=ξ (.lst xs)/\0<=k/\xs[k.toNat]?=ξ v/\Q v H
def Hf:Vb X (Ws X.K):=by
 intro pZ s σ H o i ov iv Q I ro ri h;let#[p,xs,k,v,rfl,rfl,hp,h0,hk,q]:=h;cases ro;let#[t,rfl]:=ri;let#[its,r,pl,hz]:=I.list (.inl (.inl hp));let#[w,ew,rw']:=r.get hk;have hn:=pj;have hl:=(ab.mp hk).1;erw[getItem_listL pl.isList h0 ∅ ew #[v,H,I,rw',q]]
def aaU(r:a9 c ρ H us vs)(ru:Rep c ρ H u v):∀(j:Nat),a9 c ρ H (us.set j u) (vs.set j v):=by
 intro j;induction us generalizing vs j with
 |nil=>cases vs with
  |nil=>erw[r]
  |cons a b=>erw[absurd r.len (#v[])]
 |cons x us ih=>cases vs with
  |nil=>erw[absurd r.len (#v[])]
  |cons a b=>
   unfold a9 at r;let#[v',r',e',k1,k2]:=r;injection e' with e1 e2
   subst e1;subst e2;cases j with
   |zero=>erw[a9.cons ru k2]
   |succ j=>erw[a9.cons k1 (ih k2 j)]
def Oc(G:jL t T Γ k I X)(hn:mD i=ζ)(hp:DQ op=ξ p)(hx:PE X o (tE (X.cc t) Γ x))(hi:PE X i (tE (X.cc t) Γ y))(hy:PE X e (tE (X.cc t) Γ z)):PS X (.AugAssign (.Subscript o i tp) op e pos) (tS (X.cc t) Γ (.GF x y p z)):=by
 have eo:=D1 hp;rw[eo.1]
 refine(Mt (X:=X) hx hi Hf hy (tip:=G8 (X.cc t) p) (zT (X:=X) (c:=X.cc t) eo.2) set_list (λov iv new=>by cases i<;>first|rfl|simp[mD] at hn)).imp ?_;rintro D σ H ⟨env,ρ,S,DU,he,R,w,q⟩;refine#[env,ρ,S,_,he,R,w,λu S1 v H1 ρ1 w1 st1 R1 r1=>?_];refine#[env,ρ1,S1,_,he.later R st1,R1,w1,λu2 S2 v2 H2 ρ2 w2 st2 R2 r2=>?_];obtain⟨l,e1,w3⟩:=PL.i4.mp w2;subst e1;obtain⟨j,e2,w4⟩:=PL.fI.mp w3;subst e2;obtain⟨us,e3,h0,w5⟩:=PL.cR.mp w4;obtain⟨u0,e4,w6⟩:=PL.jH.mp w5;obtain⟨a,vs,ev,ha,hH,hr⟩:=R2.lst e3 (r1.mono R1 st2);subst ev;obtain⟨v0,l0,r0⟩:=hr.get e4;refine#[a,vs,j,v0,rfl,aP.mp r2,hH,h0,l0,?_];refine#[env,ρ2,S2,_,(he.later R st1).later R1 st2,R2,w6,λu3 S3 v3 H3 ρ3 w7 st3 R3 r3=>?_];refine#[u0,u3,ρ3,S3,_,r0.mono R2 st3,r3,R3,w7,λu4 S4 v4 H4 ρ4 w8 st4 R4 r4=>?_];obtain⟨us',e5,hj,w9⟩:=PL.cR.mp w8;have ha4:=(st3.trans st4).get ha;obtain⟨vs',hH',hr'⟩:=R4.at_ l a _ ha4 e5;refine#[a,vs',j,j.toNat,rfl,aP.mp r2,hH',?_,?_]
 .unfold QN
  rw[if_pos h0,if_pos (by have:=hr'.len;omega)]
 have st5:=iU.put (H:=H4) (ag ha4) hH' rfl (.lst (vs'.set j.toNat v4));rwa[q.nx _ _ _ _ _ w9 ((((st1.trans st2).trans st3).trans st4).trans st5) (R4.put ha4 hH' rfl #[_,b9,(aaU hr' r4 j.toNat).mono R4 st5]) ((he.later R (((st1.trans st2).trans st3).trans st4)).later R4 st5)]
def Sw(G:jL t T Γ k I X)(hx:PT X c (tT (X.cc t) Γ x))(hy:u5 X b (L4 (X.cc t) Γ y)):PS X (.While c b [] pos) (tS (X.cc t) Γ (.CN x y)):=by
 refine(Iw (X:=X) G.g.ps hx hy).imp ?_;rintro D σ H ⟨env,ρ,S,DU,he,R,w,q⟩;let#[n0,w0]:=w
 let F:=PL.zK (λen S1 k=>PL.WT Γ x en S1 k) (λen S1 k=>PL.uU Γ y {DU with nx:=k} en S1) DU.nx
 refine#[λm σ1 H1=>∃env1 ρ1 S1,iU ρ H ρ1 H1/\cH (X.cc t) ρ1 H1 S1/\kS (X.cc t) ρ1 H1 env1 σ1/\F m env1 S1,#[n0,env,ρ,S,.refl,R,he,w0],?_];rintro m σ1 H1 ⟨env1,ρ1,S1,st1,R1,he1,w1⟩;cases m with
 |zero=>erw[aW w1]
 |succ m=>
  have w1':PL.WT Γ x env1 S1 (λt S1=>if t=ζ then PL.uU Γ y {DU with nx:=F m} env1 S1 else DU.nx env1 S1):=w1;have q1:=q.later st1;refine#[env1,ρ1,S1,_,he1,R1,w1',λb S2 H2 ρ2 w2 st2 R2=>?_];cases b with
  |false=>erw[q1.nx _ _ _ _ _ w2 st2 R2 (he1.later R1 st2)]
  |true=>
   refine#[λσ3 H3=>∃env3 ρ3 S3,iU ρ H ρ3 H3/\cH (X.cc t) ρ3 H3 S3/\kS (X.cc t) ρ3 H3 env3 σ3/\F m env3 S3,λσ3 H3 h3=>#[m,cB m,h3],?_];have q2:=q1.later st2;refine#[env1,ρ2,S2,_,he1.later R1 st2,R2,w2,#[λenv' S' σ' H' ρ' h b R' e=>#[env',ρ',S',(st1.trans st2).trans b,R',e,h],q2.rt]]
abbrev Kg(Γ:cb)(tt:PL.Tg)(z:PL.dG)(DU:PL.Ends)(u:U)(en:PL.Env)(S:bH)(k:PL.Env->bH->Prop):Prop:=match tt with
 |.name i=>PL.uU Γ z {DU with nx:=k} (en.set i (ξ u)) S
 |.pair i j=>PL.Pg u λx y=>PL.uU Γ z {DU with nx:=k} ((en.set i (ξ x)).set j (ξ y)) S
def Kh:PL.WS Γ (.iz tt y z) DU env S=PL.WI Γ y env S (λus g S1=>PL.uT g (Kg Γ tt z DU) DU.nx us env S1):=by
 cases tt<;>rfl
def Ki(G:jL t T Γ k I X)(hc:I.calm=ζ)(hs:∀env v,foldedSetIterable it env v=pure v)
  (hi:PI X tg it (BS (X.cc t) Γ y)) (hg:PG X tg g0) (hb:u5 X b (L4 (X.cc t) Γ z))
  (hr0:∀{ρ H S env σ u v DU D Q k},kS (X.cc t) ρ H env σ->cH (X.cc t) ρ H S->Rep (X.cc t) ρ H u v->Kg Γ tt z DU u env S k->DR (X.cc t) ρ H {DU with nx:=k} D->(∀σ' H',L4 (X.cc t) Γ z D σ' H'->Q σ' H')->g0 v σ H Q):
  PS X (.For tg it b [] pos) (tS (X.cc t) Γ (.iz tt y z)):=by
 refine(Qn (X:=X) G.g.ps (G.g.calm hc).1 hi hg hb (hs _)).imp ?_;rintro D σ H ⟨env,ρ,S,DU,he,R,w,q⟩;rw[Kh] at w;refine#[env,ρ,S,_,he,R,w,λus g S1 H1 ρ1 J w1 st1 R1 io=>?_]
 let F:=PL.uT g (Kg Γ tt z DU) DU.nx
 refine#[λj m σ2 H2=>m+j=us.length/\∃env2 ρ2 S2,iU ρ1 H1 ρ2 H2/\cH (X.cc t) ρ2 H2 S2/\kS (X.cc t) ρ2 H2 env2 σ2/\F (us.drop j) env2 S2,#[us.length,rfl,env,ρ1,S1,.refl,R1,he.later R st1,w1],?_];rintro j m σ2 H2 ⟨hm,env2,ρ2,S2,st2,R2,he2,wf⟩;have q2:=q.later (st1.trans st2);cases hd:us.drop j with
 |nil=>
  rw[hd] at wf;obtain⟨g2,w2⟩:g S2/\DU.nx env2 S2:=wf;erw[.inl #[(io j ρ2 H2 S2 st2 R2 g2).2 (EB.mp hd),q2.nx _ _ _ _ _ w2 .refl R2 he2]]
 |cons u rest=>
  rw[hd] at wf;let#[g2,w2]:=wf;have hu:us[j]?=ξ u:=by
   have:=congrArg (λl=>l[0]?) hd;simpa using this
  have hr:us.drop (j+1)=rest:=by
   have:=congrArg List.tail hd;simpa using this
  have hj:j<us.length:=(ab.mp hu).1;let#[jg,jy]:=(io j ρ2 H2 S2 st2 R2 g2).1 u hu;rwa[.inr #[jg,λσ3 H3=>∃env3 ρ3 S3,iU ρ1 H1 ρ3 H3/\cH (X.cc t) ρ3 H3 S3/\kS (X.cc t) ρ3 H3 env3 σ3/\F rest env3 S3,λσ3 H3 h3=>#[m-1,∅,∅,%[hr|h3]],λyv H3 hy=>?_]];let#[st3,R3,ry]:=jy yv H3 hy;have q3:=q2.later st3;rwa[hr0 (DU:=DU) (k:=F rest) (D:=#[_,_,_,_]) (he2.later R2 st3) R3 ry w2 ?_ λσ' H' h=>h]
  exact#[λenv' S' σ' H' ρ' h b R' e=>#[env',ρ',S',(st2.trans st3).trans b,R',e,h],q3.rt]
def Od(G:jL t T Γ k I X)(hc:I.calm=ζ)(h:eM x I.N=ξ i)(hl:vZ (I.names.lookup x)=ζ)(hs:∀env v,foldedSetIterable it env v=pure v)
  (hi:PI X (.Name x px) it (BS (X.cc t) Γ y)) (hb:u5 X b (L4 (X.cc t) Γ z)):PS X (.For (.Name x px) it b [] pos) (tS (X.cc t) Γ (.iz (.name i) y z)):=
 Ki (tt:=.name i) G hc hs hi (rO (i:=i) G.g.nd (by rw[G.g.slots];exact fF h) (tW hl G.g.names) (.inl (G.st x))) hb
  λhe R ru w q hq=>hq _ _ #[_,_,_,_,he.set ru i,R,w,q]
def Oe(G:jL t T Γ k I X)(hc:I.calm=ζ)(h:eM x I.N=ξ i)(hl:vZ (I.names.lookup x)=ζ)(h2:eM x2 I.N=ξ j)(hl2:vZ (I.names.lookup x2)=ζ)(hs:∀env v,foldedSetIterable it env v=pure v)
  (hi:PI X (.Tuple [.Name x px,.Name x2 px2] kk pt) it (BS (X.cc t) Γ y)) (hb:u5 X b (L4 (X.cc t) Γ z)):PS X (.For (.Tuple [.Name x px,.Name x2 px2] kk pt) it b [] pos) (tS (X.cc t) Γ (.iz (.pair i j) y z)):=by
 have p1:PG X (.Name x px) (xW i):=rO (i:=i) G.g.nd (%[G.g.slots|fF h]) (tW hl G.g.names) (.inl (G.st x));have p2:PG X (.Name x2 px2) (xW j):=rO (i:=j) G.g.nd (%[G.g.slots|fF h2]) (tW hl2 G.g.names) (.inl (G.st x2));rwa[Ki (tt:=.pair i j) G hc hs hi (Iu (n:=2) (G.g.calm hc).1 (rP p1 (rP p2 EE rfl) rfl) rfl rfl) hb ?_];intro ρ H S env σ u v DU D Q kk he R ru w q hq;let#[a,b',e1,w]:=PL.ET.mp (show PL.Pg _ _ from w);subst e1;let#[ad,vs,ev,hs',rs]:=dC.mp ru;subst ev;unfold a9 at rs;let#[v1,r1,rfl,k1,k2]:=rs;unfold a9 at k2;let#[v2,r2,rfl,k3,k4]:=k2;unfold a9 at k4;subst k4;exact#[ad,[v1,v2],rfl,.inl (.inl hs'),rfl,v1,[v2],rfl,v2,[],rfl,rfl,hq _ _ #[_,_,_,_,(he.set k1 i).set k3 j,R,w,q]]
end
open PL (U SO bH KU cb)
section
variable{t:yw}{T:Tab}{Γ:cb}{k n:Nat}{I:Inf}{X:Cx}
def D3{elt iter tg:Expr}{ifs:List Expr}{x:List Str}{y:Str}{i:Nat}{py pos spos:Pos}{sc:kO}{it:PL.It}{tc:PL.Tx}{e:PL.Ex}{ci:List Nat}(G:jL t T Γ k I X)(hc:I.calm=ζ)(ht:Nw tg=ξ x)(hb:vX I sc x=ζ)(hci:(i0 I sc).mapM (λy=>eM y I.N)=ξ ci)
  (hs:∀env v,foldedSetIterable iter env v=pure v) (hi:PI X tg iter (BS (X.cc t) Γ it))
  (hif:∀(X':Cx),Good t T Γ k #[sj I sc.names,x++i0 I sc,ζ] X'->X'.cc t=X.cc t->M5 X' ifs (tT (X.cc t) Γ tc))
  (he:∀(X':Cx),Good t T Γ k #[sj I sc.names,x++i0 I sc,ζ] X'->X'.cc t=X.cc t->PE X' elt (tE (X.cc t) Γ e))
  (hy:eM y I.N=ξ i) (hk:I.names.lookup y=ξ .local) (hsw:iK (.ListComp elt [#[tg,iter,ifs,0]] sc pos) (ξ (.Name y py)) spos.line X.env=pure ζ):
  PS X (.Assign [.Name y py] (.ListComp elt [#[tg,iter,ifs,0]] sc pos) spos) (tS (X.cc t) Γ (.set i (.comp (x.length==2) e it tc ci))):=by
 have hn:(i0 I sc).Nodup:=by
  unfold i0;have:=G.g.nd;rw[G.g.slots] at this;erw[this.filter _]
 have cp:=Fg G.g hci;refine(Dx (X:=X) (i:=i) (wi:=BS (X.cc t) Γ it) (tc:=tT (X.cc t) Γ tc) (te:=tE (X.cc t) Γ e)
  (wb G.g hb) cp hn (G.g.calm hc).1 (Kd ht (wb G.g hb) cp hn (G.g.calm hc).1) hi (λC s₀ H₀ ex=>hif _ (sE G.g hc hb cp hn) rfl) (λC s₀ H₀ ex=>he _ (sE G.g hc hb cp hn) rfl) G.g.nd (%[G.g.slots|fF hy]) (%[G.g.names|hk]) hsw (hs _)).imp ?_
 intro D σ H z;erw[yA (DZ z)]
def Sx(G:jL t T Γ k I X)(hb:u5 X b (L4 (X.cc t) Γ xb)):PS X (.Try b (h::hs) [] [] pos) (tS (X.cc t) Γ (.UA xb)):=by
 intro pZ s σ H D J z;rwa[wpAny_Try_except (fB (hb pZ s σ H D J z) (λf s1 q=>?_) λex s1 q=>?_)]
 .cases f with
  |next=>erw[rh q]
  |ret v=>erw[q]
  |brk=>erw[q]
  |cont=>erw[q]
 .rw[G.g.xe] at q;erw[q.elim]
end
open PL (U SO bH KU cb)
structure Of(t:yw)(T:Tab)(Γ:cb)(k n:Nat):Prop where
 fs:∀{I X st x},jL t T Γ k I X->cS T n I st=ξ x->PS X st (tS (X.cc t) Γ x)
 Pt:∀{I X st x},jL t T Γ k I X->L3 T n I st=ξ x->u5 X st (L4 (X.cc t) Γ x)
section
variable{t:yw}{T:Tab}{Γ:cb}{k n:Nat}{I:Inf}{X:Cx}
def Sy(IH:Of t T Γ k n)(G:jL t T Γ k I X):∀{st:List Stmt}{x:PL.dG},L3 T (n+1) I st=ξ x->u5 X st (L4 (X.cc t) Γ x)
 |[],x,h=>by
  rw[Pp,Ny] at h;injection h with h;subst h
  refine(Mr (X:=X)).imp ?_;rintro D σ H ⟨env,ρ,S,DU,he,R,w,q⟩;erw[q.nx _ _ _ _ _ w .refl R he]
 |s::ss,x,h=>by
  rw[Pp,Ny] at h;dsimp[aQ,ax] at h;let#[y,h1,ys,h2,h3]:=h;injection h3 with h3;subst h3
  refine(Ir (X:=X) (IH.fs G h1) (IH.Pt G h2)).imp ?_;rintro D σ H ⟨env,ρ,S,DU,he,R,w,q⟩;refine#[env,ρ,S,_,he,R,w,#[λenv' S' σ' H' ρ' h st R' e=>?_,q.rt]];exact#[env',ρ',S',DU,e,R',h,q.later st]
def Wt(IH:Of t T Γ k n)(G:jL t T Γ k I X){st:Stmt}{x:PL.Sm}(h:cS T (n+1) I st=ξ x):PS X st (tS (X.cc t) Γ x):=by
 have A:=zX (t:=t) (T:=T) (Γ:=Γ) (k:=k) n;rw[aaK] at h;cases st with(delta stS at h;dsimp only at h)
 |Assign ts e pos=>
  split at h
  .rename_i tg
   cases tg with
   |Name x' px=>
    dsimp only at h;split at h
    .rename_i i hi
     split at h
     .rename_i hl
      let#[y,h1,h2]:=au.mp h;subst h2;by_cases nc:zQ e=ζ
      .erw[Sr G hi hl (λenv=>BU nc) (A.fe G.g h1)]
      .change cE T n I _=_ at h1
       cases n with
       |zero=>rw[V7] at h1;erw[nn h1]
       |succ n=>
        have A':=zX (t:=t) (T:=T) (Γ:=Γ) (k:=k) n;cases e with
        |ListComp elt gs sc cpos=>
         let#[tg,iter,ifs,xs,it,c,ee,ci,rfl,ht,hc,g1,g2,g3,g4,g5]:=vY h1;subst g5;have hi':=BX A' G.g ht g1;cases sw:(X.env.blockKind==.function&&X.env.kindOf x'==ξ .local&&px.line==cpos.line && !(sc.names.any λ(n,k)=>n==x'&&(k==.local||k==.cell))) with
         |true=>
          have hsw:iK (.ListComp elt [#[tg,iter,ifs,0]] sc cpos) (ξ (.Name x' px)) pos.line X.env=pure ζ:=by
           show(pure _:Sem Bool)=pure ζ
           erw[congrArg pure sw]
          have hkl:I.names.lookup x'=ξ .local:=by
           dsimp[ak] at sw;have:=sw.1.1.2;unfold Env.kindOf at this;rw[G.g.names] at this;simpa using this
          rwa[D3 G hc.2 ht hc.1 g4 hi'.1 hi'.2 (λX' G' ec=>Fi A' G' ec g2) (λX' G' ec=>?_) hi hkl hsw];have:=A'.fe G' g3;rw[ec] at this;erw[this]
         |false=>
          have hsw:iK (.ListComp elt [#[tg,iter,ifs,0]] sc cpos) (ξ (.Name x' px)) pos.line X.env=pure ϑ:=by
           show(pure _:Sem Bool)=pure ϑ
           erw[congrArg pure sw]
          refine(Iv (X:=X) (i:=i) G.g.nd (%[G.g.slots|fF hi]) (tW hl G.g.names) (A.fe G.g h1) hsw (.inl (G.st x'))).imp ?_;intro D σ H z;erw[DZ z]
        |SetComp=>rw[Nx] at h1;unfold UD at h1;erw[nn h1]
        |DictComp=>rw[Nx] at h1;unfold UD at h1;erw[nn h1]
        |_=>erw[absurd rfl nc]
     .erw[nn h]
    .erw[nn h]
   |Attribute o f px=>
    dsimp[aQ,ax] at h;let#[q,h1,a,h2,b,h3,h4]:=h;injection h4 with h4;subst h4
    let#[hm,rfl]:=ny h1;erw[N9 G hm (A.fe G.g h2) (A.fe G.g h3)]
   |Subscript o i px=>
    dsimp only at h;split at h
    .dsimp[aQ,ax] at h
     let#[a,h1,b,h2,c,h3,h4]:=h;injection h4 with h4;subst h4
     erw[Oa G (A.fe G.g h1) (A.fe G.g h2) (A.fe G.g h3)]
    .erw[nn h]
   |_=>erw[nn h]
  .erw[nn h]
 |AugAssign tg op e pos=>
  cases tg with
  |Name x' px=>
   dsimp only at h;split at h
   .rename_i i hi
    split at h
    .rename_i hl
     dsimp[aQ,ax] at h;let#[p,h1,y,h2,h3]:=h;injection h3 with h3;subst h3
     erw[Sv G hi hl h1 (A.fe G.g h2)]
    .erw[nn h]
   .erw[nn h]
  |Attribute o f px=>
   dsimp[aQ,ax] at h;let#[q,h1,p,h2,a,h3,b,h4,h5]:=h;injection h5 with h5;subst h5
   let#[hm,rfl]:=ny h1;erw[Ob G hm h2 (A.fe G.g h3) (A.fe G.g h4)]
  |Subscript o i px=>
   dsimp only at h;split at h
   .rename_i hn
    dsimp[aQ,ax] at h;let#[p,h1,a,h2,b,h3,c,h4,h5]:=h;injection h5 with h5;subst h5
    erw[Oc G hn h1 (A.fe G.g h2) (A.fe G.g h3) (A.fe G.g h4)]
   .erw[nn h]
  |_=>erw[nn h]
 |Expr e pos=>
  split at h
  .rename_i hc
   let#[y,h1,h2]:=au.mp h;subst h2;erw[Wr G hc (A.fe G.g h1)]
  .erw[nn h]
 |Return e pos=>
  cases e with
  |none=>erw[nn h]
  |some e=>
   let#[y,h1,h2]:=au.mp h;subst h2;erw[Ss G (A.fe G.g h1)]
 |If c a b pos=>
  dsimp[aQ,ax] at h;let#[c,h1,a,h2,b,h3,h4]:=h;injection h4 with h4;subst h4
  erw[Su G (A.ft G.g h1) (IH.Pt G h2) (IH.Pt G h3)]
 |While c b el pos=>
  split at h
  .rename_i he
   have he:el=[]:=by simpa using he
   subst he;dsimp[aQ,ax] at h;let#[c,h1,a,h2,h3]:=h;injection h3 with h3;subst h3
   erw[Sw G (A.ft G.g h1) (IH.Pt G h2)]
  .erw[nn h]
 |For tg it b el pos=>
  split at h
  .erw[nn h]
  .rename_i hc
   dsimp[hJ,Ig,ak] at hc;have he:el=[]:=by simpa using hc.2
   subst he;split at h
   .rename_i xs ht
    rcases DP ht with⟨x,p,rfl,rfl⟩|⟨x,y,p,p',kd,q,rfl,rfl⟩
    .dsimp only at h
     split at h
     .rename_i i hi
      split at h
      .rename_i hl
       dsimp[aQ,ax] at h;let#[it,h1,a,h2,h3]:=h;injection h3 with h3;subst h3
       erw[Od G hc.1 hi hl (Fh h1) (A.fi G.g h1) (IH.Pt G h2)]
      .erw[nn h]
     .erw[nn h]
    .dsimp only at h
     split at h
     .rename_i i hi
      split at h
      .rename_i j hj
       split at h
       .rename_i hl
        rw[ak] at hl;dsimp[aQ,ax] at h;let#[it,h1,a,h2,h3]:=h;injection h3 with h3;subst h3
        erw[Oe G hc.1 hi hl.1 hj hl.2 (Pr h1) (A.fn G.g h1) (IH.Pt G h2)]
       .erw[nn h]
      .erw[nn h]
     .erw[nn h]
   .erw[nn h]
 |Raise ex ca pos=>
  injection h with h;subst h
  rintro pZ s σ H D J ⟨env,ρ,S,DU,he,R,w,q⟩;erw[aW w]
 |Try b hs el fi pos=>
  cases hs with
  |nil=>erw[nn h]
  |cons h0 hs=>
   dsimp only at h;split at h
   .rename_i hc
    rw[ak] at hc;let#[he,hf]:=hc;have he:el=[]:=by simpa using he
    have hf:fi=[]:=by simpa using hf
    subst he;subst hf;let#[b,h2,h4]:=au.mp h;subst h4;erw[Sx G (IH.Pt G h2)]
   .erw[nn h]
 |_=>erw[nn h]
def Hg:Of t T Γ k 0:=by
 constructor
 .intro I X st x _ h;rw[aaJ] at h;erw[nn h]
 .intro I X st x _ h;rw[Wc] at h;erw[nn h]
def BY:∀n,Of t T Γ k n
 |0=>Hg
 |n+1=>
  have IH:=BY n
  #[λG h=>Wt IH G h,λG h=>Sy IH G h]
end
open PL (U SO bH KU cb)
structure Base(c:Ctx)(T:Tab)(kx:Nat):Prop where
 tab:JW c T
def Pu{c:Ctx}{T:Tab}{Γ:cb}{k kx n m:Nat}{x qual:Str}{st:Stmt}{f:Addr}{fd:fT}{N ps:List Str}{sp:PL.Spec}{b:PL.dG}(F:LZ c.K x qual st f fd)(S:me N ps (bY st))
  (B:Base c T kx) (hkx:kx<=k) (G:gQ c T Γ k) (hc:L3 T n #[(bY st).names,N,ζ] (f9 st)=ξ b) (hk:PL.Keeps Γ b m sp) (hm:N.length=ps.length+m) (hl:∀us S Q,sp us S Q->us.length=ps.length):
  jU c.P c.w c.K c.mg c.base Ds (k+2) f fd ps (lift c sp):=by
 rwa[LZ.ok (k:=k+1) F S (λvs H Q E h=>?_) (λcdv A outer s H vs Q E hr h=>?_)]
 .let#[us,ρ,S0,QU,r,R,w,q]:=h
  rw[<-r.len];erw[hl _ _ _ w]
 let#[us,ρ,S0,QU,r,R,w,q]:=h
 let t:yw:=#[c.cls]
 let X:=(Dk Ds c.P c.w c.K c.mg c.base N qual (bY st) f cdv A outer s H E).U2
 have G0:Good t T Γ k #[(bY st).names,N,ζ] X:=#[B.tab,G,S.kind,rfl,rfl,S.nd,λ_=>#[rfl,hr],by have:=hr.un;show(A.deeper (tj qual (bY st) s.heap.objs.size f cdv)).units+200<fH;omega,rfl]
 refine#[_,(BY n).Pt #[G0,λ_=>rfl] hc,?_];have hlen:us.length=ps.length:=hl _ _ _ w;have hvl:vs.length=us.length:=r.len.symm;refine#[us.map ξ++l7 m ψ,ρ,S0,#[λ_ S1=>QU .b7 S1,QU],#[?_,λi u e=>?_],R,hk us S0 QU w,#[λenv' S' σ' H' ρ' h st R' e=>q _ _ _ _ _ h st R' (fq.mpr rfl),q]]
 .unfold start
  simp
  omega
 .unfold start
  by_cases z:i<us.length
  .rw[ah (~~~z),ar] at e
   let#[u',e1,e2]:=au.mp e;injection e2 with e2;subst e2
   let#[v,e3,r3]:=r.get e1;exact#[v,by rw[ah (%[ae,hvl|z]),ar,e3];rfl,r3]
  .rw[aA (~~~(dS z)),A6] at e
   split at e
   .cases e
   .cases e
abbrev D6:PL.Spec:=λus _ Q=>∃ns:List Int,us=[.uQ ns]/\ns.length<=63/\∀S',Q (.bl ζ) S'
abbrev zY(K:Frag):Sp:=λvs H Q _=>∃(a:Addr)(ns:List Int),vs=[.ref a]/\ns.length<=63/\yp K H a (ns.map .int)/\∀H',Q (.bl ζ) H'
def Og(F:jU c.P c.w c.K c.mg c.base Ds k f fd ps (lift c D6)):jU c.P c.w c.K c.mg c.base Ds k f fd ps (zY c.K):=by
 rwa[F.imp λvs H Q E h=>?_]
 let#[a,ns,rfl,hl,hf,q]:=h;refine#[[.uQ ns],[],[],λu _=>u=.bl ζ,a9.cons (sr.mpr #[a,rfl,hf]) a9.nil,#[rfl,xO,λn a o h=>by simp at h],#[ns,rfl,hl,λ_=>rfl],λu S' v H' ρ' e _ _ r=>?_];subst e;rw[d6.mp r]
 erw[q H']
def Kj{K:Frag}{H:Hp}{a:Addr}{xs:List V}(o:MR H)(h:iS K H a xs):yp K H a xs:=by
 rcases h with(h|⟨ob,h⟩)|h
 .rcases o a with z|⟨ob,ys,z⟩
  .rw[h] at z;cases z
  .rw[h] at z;cases z
 .erw[.inl #[ob,h]]
 .erw[.inr h]
end L2
section
namespace PL
def YJ:gx "text" [("text",a),("at",b),("depth",c)]=ξ a:=rfl
def aca:gx "at" [("text",a),("at",b),("depth",c)]=ξ b:=rfl
def Wu:gx "depth" [("text",a),("at",b),("depth",c)]=ξ c:=rfl
end PL
open PL
namespace PL
abbrev mR(x rest:List Nat)(d:Nat):SO:=.ins "Reader" [("text",.str x),("at",.int (x.length-rest.length:Nat)),("depth",.int d)]
abbrev lY(r:Nat)(o:SO)(S S':bH):Prop:=S.length<=S'.length/\S'[r]?=ξ o/\∀n,n<S.length->n≠r->S'[n]?=S[n]?
abbrev Old(r:Nat)(S S':bH):Prop:=S.length<=S'.length/\∀n,n<S.length->n≠r->S'[n]?=S[n]?
abbrev Ext(S S':bH):Prop:=S.length<=S'.length/\∀n,n<S.length->S'[n]?=S[n]?
abbrev cL(l rest:List Nat):Bool:=match rest with|[]=>ϑ|c::_=>l.contains c
abbrev D7:Spec:=λus S Q=>∃r x rest d l,us=[.loc r,.str l]/\S[r]?=ξ (mR x rest d)/\rest<:+x/\x.length<=1000/\Q (.bl (cL l rest)) S
section
variable{x rest:List Nat}
def Kk(h:rest<:+x)(k:Nat):x[x.length-rest.length+k]?=rest[k]?:=by
 let#[p,rfl]:=h;rw[aq,Ic,aA ∅]
 congr 1
 omega
def Pw(h:rest<:+x):((x.length-rest.length:Nat):Int)<x.length↔rest≠[]:=by
 let#[p,rfl]:=h;cases rest with
 |nil=>simp
 |cons c r=>simp;omega
end
section
variable{S:bH}{r:Nat}{x rest:List Nat}{d:Nat}{q:U->Prop}
def zZ(h:S[r]?=ξ (mR x rest d)):pC (.loc r) "text" S q=q (.str x):=by rw[jt,h];rfl
def BZ(h:S[r]?=ξ (mR x rest d)):pC (.loc r) "at" S q=q (.int (x.length-rest.length:Nat)):=by rw[jt,h];rfl
def Kl(h:S[r]?=ξ (mR x rest d)):pC (.loc r) "depth" S q=q (.int d):=by rw[jt,h];rfl
def cx{Q:String->List (String×U)->Prop}(h:S[r]?=ξ (mR x rest d)):qU S[r]? Q=Q "Reader" [("text",.str x),("at",.int (x.length-rest.length:Nat)),("depth",.int d)]:=by rw[h];rfl
end
def Oh(Γ:cb):Keeps Γ ko 0 D7:=by
 rintro us S Q ⟨r,x,rest,d,l,rfl,hS,hx,hl,q⟩;unfold ko;walk_at "pl";dsimp[<-jt,zZ hS,BZ hS];walk_at "pl";refine#[∅,?_];rw[gc]
 have h0:=Kk hx 0;rw[Nat.add_zero] at h0;rw[h0]
 dsimp[decide_eq_true_eq,Pw hx];cases rest with
 |nil=>simpa[cL] using q
 |cons c t=>simp[cL] at q ⊢;exact#[∅,q]
@[reducible]def PR(α:Type):=Except (List Nat) (α×List Nat)
abbrev eG(l rest:List Nat):PR Nat:=match rest with|[]=>.error []|c::r=>if l.contains c then .ok (c,r) else .error (c::r)
abbrev mapR{α β:Type}(f:α->β):PR α->PR β|.ok (a,r)=>.ok (f a,r)|.error r=>.error r
abbrev bindR{α β:Type}(p:PR α)(f:α->List Nat->PR β):PR β:=match p with|.ok (a,r)=>f a r|.error r=>.error r
abbrev oS(c:Nat):U:=.str [c]
abbrev eI(r:Nat)(x:List Nat)(d:Nat)(S:bH)(Q:KU):PR U->Prop
 |.ok (u,r')=>∀S',lY r (mR x r' d) S S'->Q u S'
 |.error r'=>False
abbrev AY(args:List U)(p:List Nat->PR U)(d:Nat):Spec:=λus S Q=>∃r x rest,us=.loc r::args/\S[r]?=ξ (mR x rest d)/\rest<:+x/\x.length<=1000/\eI r x d S Q (p rest)
abbrev Km:Spec:=λus S Q=>∃l d,AY [.str l] (λrest=>mapR oS (eG l rest)) d us S Q
section
variable{S S1 S2:bH}{r:Nat}{o o':SO}
def aK{α:Type}{l:List α}{n:Nat}{a:α}(h:l[n]?=ξ a):n<l.length:=(ab.mp h).1
def lY.set(h:S[r]?=ξ o):lY r o' S (S.set r o'):=by
 refine#[#v[],by simp[jZ,aK h],λn hn ne=>?_];rw[aj (cM ne)]
def lY.refl(h:S[r]?=ξ o):lY r o S S:=#[ao _,h,λ_ _ _=>rfl]
def Old.trans(a:Old r S S1)(b:Old r S1 S2):Old r S S2:=#[aI a.1 b.1,λn h ne=>(b.2 n (aD h a.1) ne).trans (a.2 n h ne)]
def lY.old(a:lY r o S S1):Old r S S1:=#[a.1,a.2.2]
def lY.trans(a:lY r o S S1)(b:lY r o' S1 S2):lY r o' S S2:=#[aI a.1 b.1,b.2.1,(a.old.trans b.old).2]
def Ext.old(a:Ext S S1):Old r S S1:=#[a.1,λn h _=>a.2 n h]
def Ext.refl:Ext S S:=#[ao _,λ_ _=>rfl]
def Ext.trans(a:Ext S S1)(b:Ext S1 S2):Ext S S2:=#[aI a.1 b.1,λn h=>(b.2 n (aD h a.1)).trans (a.2 n h)]
def Ext.get(a:Ext S S1)(h:S[r]?=ξ o):S1[r]?=ξ o:=(a.2 r (aK h)).trans h
def Ext.chg(a:Ext S S1)(h:S[r]?=ξ o):lY r o S S1:=#[a.1,a.get h,λn h _=>a.2 n h]
def Ext.app(l:List SO):Ext S (S++l):=#[#v[],λn h=>ah h]
def gs(h:S[r]?=ξ o):(S.set r o')[r]?=ξ o':=(lY.set h).2.1
end
def sub_len(h:(c::t)<:+x):((x.length-(c::t).length:Nat):Int)+1=(x.length-t.length:Nat):=by
 let#[p,rfl]:=h;simp
 omega
def Sz{x t:List Nat}{z v:U}{d:Nat}(h:z=.int (x.length-t.length:Nat)):SO.ins "Reader" (iF "at" z [("text",.str x),("at",v),("depth",.int d)])=mR x t d:=by subst h;rfl
def z7{x t:List Nat}{c:Nat}(h:(c::t)<:+x):t<:+x:=nQ (dE c t) h
def Oi(Γ:cb)(h1:Γ "Reader.sees"=D7):Keeps Γ i5 0 Km:=by
 rintro us S Q ⟨l,d,r,x,rest,rfl,hS,hx,hl,q⟩;unfold i5;walk_at "pl";dsimp[cx hS,h1];walk_at "pl";refine#[rfl,r,x,rest,d,l,rfl,hS,hx,hl,?_];walk_at "pl";dsimp[cx hS];walk_at "pl";cases rest with
 |nil=>erw[q.elim]
 |cons c t=>
  by_cases e:l.contains c=ζ
  .dsimp[eG,e,if_true,mapR,eI] at q
   dsimp[cL,e];have p:=Sz (v:=.int ((x.length-(c::t).length:Nat):Int)) (d:=d) (congrArg U.int (sub_len hx));have g:=gs (o':=mR x t d) hS;dsimp[bG,av,if_false,Ri];dsimp[cx hS,p];dsimp[<-jt,zZ g,BZ g,Rk,V0];refine#[trivial,#v[],∅,?_];have e2:((x.length-t.length:Nat):Int)-1=(x.length-(c::t).length:Nat):=by have:=sub_len hx;omega
   have h0:=Kk hx 0;rw[Nat.add_zero] at h0;rw[e2,gc,h0]
   erw[q _ (lY.set hS)]
  .dsimp[eG,e,mapR,eI] at q
   dsimp[cL,e];erw[q.elim]
abbrev Suf{α:Type}(rest:List Nat):PR α->Prop
 |.ok (_,r)=>r<:+rest
 |.error r=>r<:+rest
abbrev mS{α:Type}(rest:List Nat):PR α->Prop
 |.ok (_,r)=>r<:+rest/\r.length<rest.length
 |.error r=>r<:+rest
def mS.SA{α:Type}{rest:List Nat}{p:PR α}(h:mS rest p):Suf rest p:=by
 cases p with
 |ok v=>erw[h.1]
 |error r=>erw[h]
def mS.bind{α β:Type}{rest:List Nat}{p:PR α}{f:α->List Nat->PR β}(h:mS rest p)(k:∀a r,p=.ok (a,r)->Suf r (f a r)):mS rest (bindR p f):=by
 cases p with
 |error r=>erw[h]
 |ok v=>
  let#[a,r]:=v;have:=k a r rfl;unfold bindR;dsimp only;cases q:f a r with
  |error r'=>rw[q] at this;erw[this.trans h.1]
  |ok w=>
   let#[b,r']:=w;rw[q] at this;exact#[this.trans h.1,gJ this.length_le h.2]
def Suf.bind{α β:Type}{rest:List Nat}{p:PR α}{f:α->List Nat->PR β}(h:Suf rest p)(k:∀a r,p=.ok (a,r)->Suf r (f a r)):Suf rest (bindR p f):=by
 cases p with
 |error r=>erw[h]
 |ok v=>
  let#[a,r]:=v;have:=k a r rfl;unfold bindR;dsimp only;cases q:f a r with
  |error r'=>rw[q] at this;erw[this.trans h]
  |ok w=>
   let#[b,r']:=w;rw[q] at this;erw[this.trans h]
def iB(l rest:List Nat):mS rest (eG l rest):=by
 cases rest with
 |nil=>erw[bL _]
 |cons c t=>
  unfold eG;dsimp only;split
  .exact#[dE c t,#v[]]
  .erw[bL _]
def eI.bind{α:Type}{toU:α->U}{p:PR α}{f:α->List Nat->PR U}{r d:Nat}{x rest:List Nat}{S S1:bH}{Q Q1:KU}(h:eI r x d S Q (bindR p f))(st:lY r (mR x rest d) S S1)
  (k:∀a r1 S2,p=.ok (a,r1)->lY r (mR x r1 d) S S2->eI r x d S Q (f a r1)->Q1 (toU a) S2):eI r x d S1 Q1 (mapR toU p):=by
 cases p with
 |error r'=>erw[h]
 |ok v=>
  let#[a,r1]:=v;erw[λS' c=>k a r1 S' rfl (st.trans c) h]
def Oj:mapR id p=p:=by
 cases p with
 |ok v=>rfl
 |error r=>rfl
def yB{α β:Type}{f:α->β}{p:PR α}:mapR f p=bindR p (λa r=>.ok (f a,r)):=by
 cases p with
 |ok v=>rfl
 |error r=>rfl
def mE(p:Nat->Bool)(hg:g S)(hc:∀n k,k (p n) S->c (.str [n]) S k)(he:∀n k,k (.str [n]) S->e (.str [n]) S k):
  ∀(l:List Nat)(acc:List U),acc.length+l.length<1000000->Q (acc++(l.filter p).map oS) S->oM g c e Q (l.map λn=>.str [n]) acc S
 |[],acc,hl,q=>#[hg,~~~hl,~~~q]
 |n::l,acc,hl,q=>by
  dsimp[aS] at hl;refine#[hg,∅,hc n _ ?_];by_cases h:p n=ζ
  .rw[if_pos h]
   rwa[he n _ (mE p hg hc he l (acc++[.str [n]]) ((·)) ?_)];rw[LU,if_pos h] at q;simpa[oS] using q
  .rw[if_neg h]
   rwa[mE p hg hc he l acc ∅ ?_];rw[LU,if_neg h] at q;erw[q]
def join_ones:∀l:List Nat,mm [] (l.map λn=>[n])=l
 |[]=>rfl
 |[n]=>rfl
 |n::m::l=>by
  have:=join_ones (m::l);dsimp[aw] at this ⊢;dsimp[mm,cz];rw[this];rfl
abbrev eF(l:List Nat):List Nat:=SG.filter λc=>!l.contains c
abbrev inOrder(l:List Nat):List Nat:=SG.filter λc=>l.contains c
abbrev spT(f:List Nat->List Nat):Spec:=λus S Q=>∃l,us=[.str l]/\∀S',Ext S S'->Q (.str (f l)) S'
def wd:∀l:List Nat,((l.map λn=>[n]).map cD).sum=l.length
 |[]=>rfl
 |n::l=>by rw[aw,aw,nM,wd l];simp;omega
def Fj(l:List Nat):l.map oS=(l.map λn=>[n]).map U.str:=by
 rw[bA];rfl
def Fl(p:Nat->Bool):(SG.filter p).length<=95:=aI (pO _ _) ⋯
def B1(Γ:cb):Keeps Γ og 0 (spT inOrder):=by
 rintro us S Q ⟨l,rfl,q⟩;unfold og;walk_at "pl";refine mE (λc=>l.contains c) trivial (λn k h=>by rw[Nr];exact h) (λn k h=>h) SG [] ⋯ ?_;dsimp[jz];try walk_at "pl"
 refine#[(inOrder l).map λn=>[n],?_,?_,?_]
 .rw[<-Fj];simp[inOrder]
 .have:=Fl λc=>l.contains c
  rw[wd];simp[inOrder] at this ⊢;omega
 .rw[join_ones];erw[q _ (Ext.app _)]
def we(Γ:cb):Keeps Γ p6 0 (spT eF):=by
 rintro us S Q ⟨l,rfl,q⟩;unfold p6;walk_at "pl";refine mE (λc=>!l.contains c) trivial (λn k h=>by rw[Nt];exact h) (λn k h=>h) SG [] ⋯ ?_;dsimp[jz];try walk_at "pl"
 refine#[(eF l).map λn=>[n],?_,?_,?_]
 .rw[<-Fj];simp[eF]
 .have:=Fl λc=>!l.contains c
  rw[wd];simp[eF] at this ⊢;omega
 .rw[join_ones];erw[q _ (Ext.app _)]
abbrev Fm:Spec:=λus S Q=>∃a b,us=[.str [a],.str [b]]/\a∈SG/\b∈SG/\Q (.bl (decide (SG.idxOf a<SG.idxOf b))) S
def B3(Γ:cb):Keeps Γ oh 0 Fm:=by
 rintro us S Q ⟨a,b,rfl,ha,hb,q⟩;unfold oh;walk_at "pl";refine#[a,rfl,ha,b,rfl,hb,?_];simpa using q
abbrev lK(a b:Nat):List Nat:=(SG.drop (SG.idxOf a)).take (SG.idxOf b+1-SG.idxOf a)
abbrev yC:Spec:=λus S Q=>∃a b,us=[.str [a],.str [b]]/\a∈SG/\b∈SG/\Q (.str (lK a b)) S
def D8(h:a∈SG):SG.idxOf a<95:=by
 have:=List.idxOf_lt_length_iff.mpr h;simpa using this
def D9(Γ:cb):Keeps Γ p7 0 yC:=by
 rintro us S Q ⟨a,b,rfl,ha,hb,q⟩;unfold p7;walk_at "pl";refine#[a,rfl,ha,?_];refine#[b,rfl,hb,?_];try walk_at "pl"
 have h1:=D8 ha;have h2:=D8 hb;refine#[#[λi e=>?_,λi e=>?_],⋯,?_]
 .injection e with e;omega
 .injection e with e;omega
 .have e:tP SG (ξ (SG.idxOf a:Int)) (ξ ((SG.idxOf b:Int)+1))=lK a b:=by
   unfold tP lK;have l:SG.length=95:=⋯
   dsimp[fS,l];have e1:min (((SG.idxOf a:Nat):Int).toNat) 95=SG.idxOf a:=∅
   have e2:min ((((SG.idxOf b:Nat):Int)+1).toNat) 95=SG.idxOf b+1:=∅
   rw[e1,e2]
  show Q (.str (tP SG (ξ (SG.idxOf a:Int)) (ξ ((SG.idxOf b:Int)+1)))) S
  rw[e];erw[q]
noncomputable abbrev BB:List Nat:=[46,124,40,41,91,93,42,43,63,92,45,94,110]
noncomputable abbrev MO:List Nat:=[46,124,40,41,91,93,42,43,63,92]
noncomputable abbrev MW:List Nat:=[93,45,92]
abbrev kW(m rest:List Nat):PR Nat:=
 match rest with
 |92::r=>bindR (eG BB r) λs r'=>.ok (if s=110 then 10 else s,r')
 |_=>eG (eF m) rest
def Kn(m r:List Nat):kW m (92::r)=bindR (eG BB r) λs r'=>.ok (if s=110 then 10 else s,r'):=rfl
def B4{m rest:List Nat}(h:cL [92] rest=ϑ):kW m rest=eG (eF m) rest:=by
 unfold kW;split
 .simp[cL] at h
 .rfl
def Ko{c:Nat}{rest:List Nat}(h:cL [c] rest=ζ):∃t,rest=c::t:=by
 cases rest with
 |nil=>simp[cL] at h
 |cons a t=>simp[cL] at h;subst h;exact#[t,rfl]
def lE(m rest:List Nat):mS rest (kW m rest):=by
 unfold kW;split
 .rename_i r
  have h:=(iB BB r).bind (f:=λs r'=>(.ok (if s=110 then 10 else s,r'):PR Nat)) λa r' _=>bL _
  cases q:bindR (eG BB r) λs r'=>(.ok (if s=110 then 10 else s,r'):PR Nat) with
  |error r'=>rw[q] at h;erw[h.trans (dE _ _)]
  |ok v=>rw[q] at h;exact#[h.1.trans (dE _ _),ba h.2]
 .erw[iB _ _]
def Fn(h:eG l rest=.ok (c,r)):c∈l/\rest=c::r:=by
 cases rest with
 |nil=>simp[eG] at h
 |cons a t=>
  unfold eG at h;dsimp only at h;split at h
  .rename_i z
   injection h with h;injection h with h1 h2;subst h1;subst h2
   exact#[~~~z,rfl]
  .cases h
def wg{m rest:List Nat}{c:Nat}{r:List Nat}(h:kW m rest=.ok (c,r)):c∈SG:=by
 unfold kW at h;split at h
 .rename_i t
  cases q:eG BB t with
  |error r'=>rw[q] at h;cases h
  |ok v=>
   let#[s,r']:=v;rw[q] at h;dsimp[bindR] at h;injection h with h;injection h with h1 h2
   have hs:=(Fn q).1;subst h1;split
   .decide
   .have:∀s∈BB,s∈SG:=⋯
    erw[this s hs]
 .have:=(Fn h).1
  unfold eF at this;exact(fA.mp this).1
abbrev Fo(d:Nat):Spec:=λus S Q=>∃m,AY [.str m] (λrest=>mapR oS (kW m rest)) d us S Q
structure GR(Γ:cb):Prop where
 sees:Γ "Reader.sees"=D7
 pass:Γ "Reader.passes"=Km
 Ea:Γ "all_but"=spT eF
 SD:Γ "in_order"=spT inOrder
 ahead:Γ "is_ahead"=Fm
 Kq:Γ "stretch"=yC
def Kr(Γ:cb)(G:GR Γ)(d:Nat):Keeps Γ eP 1 (Fo d):=by
 rintro us S Q ⟨m,r,x,rest,rfl,hS,hx,hl,q⟩;have q:eI r x d S Q (mapR oS (kW m rest)):=q;unfold eP;walk_at "pl";dsimp[cx hS,G.sees,G.pass];walk_at "pl";refine#[rfl,r,x,rest,d,_,rfl,hS,hx,hl,?_];walk_at "pl";by_cases e:cL [92] rest=ζ
 .let#[t,rfl]:=Ko e
  dsimp[e,bG,av,if_false];dsimp[cx hS];refine#[#[by first|trivial|rfl,rfl],[92],d,r,x,_,rfl,hS,hx,hl,?_];have ht:=z7 hx;show eI r x d S _ (mapR oS (.ok (92,t)));intro S1 c1;try walk_at "pl"
  dsimp[cx c1.2.1];refine#[#[by first|trivial|rfl,rfl],BB,d,r,x,t,rfl,c1.2.1,ht,hl,?_];rw[Kn] at q;have q':eI r x d S Q (bindR (eG BB t) λs r'=>.ok (oS (if s=110 then 10 else s),r')):=by
   cases z:eG BB t with
   |error r'=>rw[z] at q;erw[q]
   |ok v=>rw[z] at q;erw[q]
  rwa[q'.bind c1 λa r1 S2 e1 c2 q2=>?_]
  unfold oS;try walk_at "pl"
  dsimp[beq_iff_eq,cQ,and_true];have:=q2 S2 c2;unfold oS at this;by_cases z:a=110
  .subst z;simpa using this
  .dsimp[z,if_false] at this ⊢;erw[this]
 .have e:cL [92] rest=ϑ:=by simpa using e
  dsimp[e,bU,if_true];dsimp[cx hS,G.Ea,true_and];refine#[rfl,m,rfl,λS1 x1=>?_];refine#[eF m,d,r,x,rest,rfl,x1.get hS,hx,hl,?_];show eI r x d S1 Q (mapR oS (eG (eF m) rest));rw[B4 e] at q;cases z:eG (eF m) rest with
  |error r'=>rw[z] at q;erw[q]
  |ok v=>rw[z] at q;erw[λS' c=>q S' ((x1.chg hS).trans c)]
end PL
namespace PL
abbrev lL(first:Nat)(r:List Nat):PR (List Nat):=
 match r with
 |45::r2=>bindR (kW MW r2) λsecond r3=>if SG.idxOf second<SG.idxOf first then .error r2 else .ok (lK first second,r3)
 |_=>.ok ([first],r)
abbrev item(rest:List Nat):PR (List Nat):=bindR (kW MW rest) lL
def B5(f:Nat)(r:List Nat):lL f (45::r)=bindR (kW MW r) λsecond r3=>if SG.idxOf second<SG.idxOf f then .error r else .ok (lK f second,r3):=rfl
def B6{f:Nat}{r:List Nat}(h:cL [45] r=ϑ):lL f r=.ok ([f],r):=by
 unfold lL;split
 .simp[cL] at h
 .rfl
def z8(f:Nat)(r:List Nat):Suf r (lL f r):=by
 unfold lL;split
 .rename_i r2
  have h:=(lE MW r2).bind (f:=λsecond r3=>(if SG.idxOf second<SG.idxOf f then .error r2 else .ok (lK f second,r3):PR (List Nat)));cases q:kW MW r2 with
  |error r'=>have:=lE MW r2;rw[q] at this;erw[this.trans (dE _ _)]
  |ok v=>
   have:=lE MW r2;rw[q] at this;dsimp[bindR];split
   .erw[dE _ _]
   .erw[this.1.trans (dE _ _)]
 .erw[bL _]
def sF(rest:List Nat):mS rest (item rest):=(lE MW rest).bind λa r _=>z8 a r
def kf{α β γ:Type}{g:β->γ}{p:PR α}{f:α->List Nat->PR β}:mapR g (bindR p f)=bindR p λa r=>mapR g (f a r):=by
 cases p with
 |ok v=>rfl
 |error r=>rfl
abbrev Ks(d:Nat):Spec:=AY [] (λrest=>mapR U.str (item rest)) d
structure GR2(Γ:cb)(d:Nat):Prop extends GR Γ where
 ws:Γ "Reader.written_sign"=Fo d
def Ol(Γ:cb)(d:Nat)(G:GR2 Γ d):Keeps Γ kr 3 (Ks d):=by
 rintro us S Q ⟨r,x,rest,rfl,hS,hx,hl,q⟩;have q:eI r x d S Q (mapR U.str (item rest)):=q;unfold item at q;rw[kf] at q;unfold kr;walk_at "pf";dsimp[cx hS];refine#[#[by first|trivial|rfl,rfl],ca G.ws #[MW,r,x,rest,rfl,hS,hx,hl,?_]];refine q.bind (lY.refl hS) λa r1 S1 e1 c1 q1=>?_
 have hs:=lE MW rest;rw[e1] at hs;have hx1:=hs.1.trans hx;have g1:=c1.2.1;unfold oS;try walk_at "pf"
 dsimp[cx g1,true_and];refine#[rfl,ca G.sees #[r,x,r1,d,_,rfl,g1,hx1,hl,?_]];try walk_at "pf"
 by_cases e:cL [45] r1=ζ
 .let#[t,rfl]:=Ko e
  dsimp[e,bG,av,if_false];walk_at "pf";dsimp[cx g1,true_and];refine#[rfl,ca G.pass #[[45],d,r,x,_,rfl,g1,hx1,hl,?_]];have ht:=z7 hx1;show eI r x d S1 _ (mapR oS (.ok (45,t)));intro S2 c2;have g2:=c2.2.1;try walk_at "pf"
  dsimp[<-jt,BZ g2];walk_at "pf";dsimp[cx g2,true_and];refine#[rfl,ca G.ws #[MW,r,x,t,rfl,g2,ht,hl,?_]];rw[B5,kf] at q1;rwa[q1.bind (c1.trans c2) λb r3 S3 e3 c3 q3=>?_]
  unfold oS;try walk_at "pf"
  have ha:=wg e1;have hb:=wg e3;refine ca G.ahead #[b,a,rfl,hb,ha,?_];try walk_at "pf"
  by_cases z:SG.idxOf b<SG.idxOf a
  .dsimp[z,decide_true,if_true]
   dsimp[z,if_true] at q3;walk_at "pf";erw[q3.elim]
  .dsimp[z,decide_false,av,if_false]
   dsimp[z,if_false] at q3;walk_at "pf";erw[ca G.Kq #[a,b,rfl,ha,hb,q3 S3 c3]]
 .have e:cL [45] r1=ϑ:=by simpa using e
  dsimp[e,bU,if_true];rw[B6 e] at q1;walk_at "pf";erw[q1 S1 c1]
abbrev lM:Nat->List Nat->List Nat->PR (List Nat)
 |0,_,rest=>.error rest
 |n+1,taken,rest=>if cL [93] rest then .ok (taken,rest) else bindR (item rest) λt r=>lM n (taken++t) r
abbrev oz(turned:Bool)(r1:List Nat):PR (List Nat):=
 bindR (item r1) λt r2=>bindR (lM (r2.length+1) t r2) λtaken r3=>bindR (eG [93] r3) λ_ r4=>.ok (if turned then eF taken else inOrder taken,r4)
abbrev clsIn(r0:List Nat):PR (List Nat):=
 match r0 with
 |94::r=>oz ζ r
 |_=>oz ϑ r0
abbrev cls(rest:List Nat):PR (List Nat):=bindR (eG [91] rest) λ_ r0=>clsIn r0
def Kt(h:cL [94] r=ϑ):clsIn r=oz ϑ r:=by
 unfold clsIn;split
 .simp[cL] at h
 .rfl
def wj:∀(n:Nat)(taken rest:List Nat),Suf rest (lM n taken rest)
 |0,_,rest=>bL _
 |n+1,taken,rest=>by
  unfold lM;split
  .erw[bL _]
  .exact(sF rest).SA.bind λa r _=>wj n _ r
def uB(b:Bool)(r:List Nat):Suf r (oz b r):=
 (sF r).SA.bind λa r2 _=>(wj _ _ _).bind λt r3 _=>(iB _ _).SA.bind λ_ r4 _=>bL _
def Om(rest:List Nat):mS rest (cls rest):=by
 refine(iB _ _).bind λa r _=>?_
 unfold clsIn;split
 .rename_i r' hq
  have:=uB ζ r';cases q:oz ζ r' with
  |ok v=>rw[q] at this;erw[nQ this (dE _ _)]
  |error v=>rw[q] at this;erw[nQ this (dE _ _)]
 .erw[uB ϑ r]
abbrev Px(d:Nat):Spec:=AY [] (λrest=>mapR U.str (cls rest)) d
structure GR3(Γ:cb)(d:Nat):Prop extends GR2 Γ d where
 it:Γ "Reader.item"=Ks d
def wk(h:item rest=.ok (t,r)):t.length<=95:=by
 unfold item at h;cases q:kW MW rest with
 |error r'=>rw[q] at h;cases h
 |ok v=>
  let#[a,r1]:=v;rw[q] at h;dsimp[bindR] at h;unfold lL at h;split at h
  .rename_i r2
   cases q2:kW MW r2 with
   |error r'=>rw[q2] at h;cases h
   |ok v2=>
    rw[q2] at h;dsimp[bindR] at h;split at h
    .cases h
    .injection h with h;injection h with h1 h2;subst h1
     unfold lK;rwa[aI (List.length_take_le _ _) ?_];have:=D8 (wg q2);omega
  .injection h with h;injection h with h1 h2;subst h1;simp
def wm{Γ:cb}{d:Nat}(G:GR3 Γ d){r:Nat}{x:List Nat}{S:bH}{fin:Env->bH->Prop}{env:Env}(hl:x.length<=1000)(k1:env[0]?=ξ (ξ (.loc r)))
  (cW:Env->bH->(Bool->bH->Prop)->Prop) (bW:Env->bH->(Env->bH->Prop)->Prop)
  (hc:∀taken S1 rest k,S1[r]?=ξ (mR x rest d)->rest<:+x->k (!cL [93] rest) S1->cW (env.set 2 (ξ (.str taken))) S1 k)
  (hb:∀taken S1 rest k,taken.length<=900000->S1[r]?=ξ (mR x rest d)->rest<:+x->eI r x d S1 (λu S2=>∃t,u=.str t/\t.length<=95/\k (env.set 2 (ξ (.str (taken++t)))) S2) (mapR U.str (item rest))->bW (env.set 2 (ξ (.str taken))) S1 k):
  ∀(n:Nat)(taken rest:List Nat)(S1:bH)(R:List Nat->List Nat->PR U),rest.length<n->taken.length+95*rest.length<=900000->rest<:+x->lY r (mR x rest d) S S1 ->
   (∀t2 r2 S2,lY r (mR x r2 d) S S2->r2<:+x->t2.length<=900000->lM n taken rest=.ok (t2,r2)->fin (env.set 2 (ξ (.str t2))) S2)->(∀r',lM n taken rest=.error r'->False) ->
   zK cW bW fin n (env.set 2 (ξ (.str taken))) S1
 |0,_,_,_,_,h,_,_,_,_,_=>∅
 |n+1,taken,rest,S1,R,h,ht,hx,c1,hf,he=>by
  rwa[hc taken S1 rest _ c1.2.1 hx ?_];by_cases e:cL [93] rest=ζ
  .dsimp[e,bG,av,if_false]
   erw[hf taken rest S1 c1 hx ∅ (by unfold lM;rw[if_pos e])]
  .have e':cL [93] rest=ϑ:=by simpa using e
   dsimp[e',bU,if_true];rwa[hb taken S1 rest _ ∅ c1.2.1 hx ?_];have hs:=sF rest;cases q:item rest with
   |error r'=>
    erw[he r' (by unfold lM;rw[if_neg e,q];rfl)]
   |ok v=>
    let#[t,r1]:=v;rw[q] at hs;intro S2 c2;refine#[t,rfl,wk q,?_];have hlt:t.length<=95:=wk q;have hE:lM (n+1) taken rest=lM n (taken++t) r1:=by
     conv=>lhs;unfold lM
     rw[if_neg e,q];rfl
    rwa[wm G hl k1 cW bW hc hb n (taken++t) r1 S2 R (by have:=hs.2;omega) (by simp;have:=hs.2;omega) (hs.1.trans hx) (c1.trans c2) (λt2 r2 S3 c3 h3 h4 e3=>hf t2 r2 S3 c3 h3 h4 (%[hE|e3])) (λr' e3=>he r' (%[hE|e3]))]
def SE(Γ:cb)(d:Nat)(G:GR3 Γ d):Keeps Γ fJ 2 (Px d):=by
  rintro us S Q ⟨r,x,rest,rfl,hS,hx,hl,q⟩;have q:eI r x d S Q (mapR U.str (cls rest)):=q;unfold cls at q;rw[kf] at q;unfold fJ;walk_at "pf";dsimp[cx hS];refine#[#[by first|trivial|rfl,rfl],ca G.pass #[[91],d,r,x,rest,rfl,hS,hx,hl,?_]];refine q.bind (lY.refl hS) λa r0 S0 e0 c0 q0=>?_
  have hs0:=iB [91] rest;rw[e0] at hs0;have hx0:=hs0.1.trans hx;have g0:=c0.2.1;walk_at "pf";dsimp[cx g0,true_and];refine#[rfl,ca G.sees #[r,x,r0,d,_,rfl,g0,hx0,hl,?_]];try walk_at "pf"
  have tail:∀(tb:Bool)(r1:List Nat)(S1:bH),lY r (mR x r1 d) S S1->r1<:+x->eI r x d S Q (mapR U.str (oz tb r1)) ->
      uU Γ (.cons (.set 2 (.dm "Reader" "item" "Reader.item" @0 .nil))
   (.cons (.CN (.not (.cY (.dm "Reader" "sees" "Reader.sees" @0 (.cons ↑[93] .nil)))) (.cons (.aug 2 .add (.dm "Reader" "item" "Reader.item" @0 .nil)) .nil))
   (.cons (.ex (.dm "Reader" "passes" "Reader.passes" @0 (.cons ↑[93] .nil)))
   (.cons (.ret (.DB (.cY @1) (.call "all_but" (.cons @2 .nil)) (.call "in_order" (.cons @2 .nil)))) .nil)))) #[λ_ S1=>Q .b7 S1,Q] [ξ (.loc r),ξ (.bl tb),ψ] S1:=by
    intro tb r1 S1 c1 hx1 q1;unfold oz at q1;rw[kf] at q1;have g1:=c1.2.1;walk_at "pf";dsimp[cx g1];refine#[#[by first|trivial|rfl,rfl],ca G.it #[r,x,r1,rfl,g1,hx1,hl,?_]];refine q1.bind c1 λt r2 S2 e2 c2 q2=>?_
    have hs2:=sF r1;rw[e2] at hs2;have hx2:=hs2.1.trans hx1;have hlt:=wk e2;have hr2:r2.length<=1000:=aI hx2.length_le hl;rw[kf] at q2;walk_at "pf";refine#[r2.length+1,wm (S:=S) (env:=[ξ (.loc r),ξ (.bl tb),ψ]) G hl rfl _ _ ?_ ?_ (r2.length+1) t r2 S2 (λ_ _=>.error []) ∅ ∅ hx2 c2 ?_ ?_]
    · intro taken S3 rest3 k g3 hx3 hk
      dsimp[gG,gH];try walk_at "pf"
      dsimp[cx g3,true_and];refine#[rfl,ca G.sees #[r,x,rest3,d,_,rfl,g3,hx3,hl,?_]];try walk_at "pf"
      erw[hk]
    · intro taken S3 rest3 k htk g3 hx3 hk
      dsimp[gG,gH] at hk ⊢;try walk_at "pf"
      dsimp[cx g3,true_and];refine#[rfl,ca G.it #[r,x,rest3,rfl,g3,hx3,hl,?_]];show eI r x d S3 _ (mapR U.str (item rest3));cases z:item rest3 with
      |error r'=>rw[z] at hk;erw[hk]
      |ok v=>
        let#[t3,r3]:=v;rw[z] at hk;intro S4 c4;let#[t',e',hl',hk']:=hk S4 c4;injection e' with e';subst e'
        rw[DN]
        exact#[∅,Rest.go hk']
    · intro t3 r3 S3 c3 hx3 hl3 e3
      rw[e3] at q2;dsimp[bindR] at q2;have q2:eI r x d S Q (mapR U.str (bindR (eG [93] r3) λ_ r4=>.ok (if tb then eF t3 else inOrder t3,r4))):=q2;rw[kf] at q2;have g3:=c3.2.1;dsimp[gG,gH];try walk_at "pf"
      dsimp[cx g3,true_and];refine#[rfl,ca G.pass #[[93],d,r,x,r3,rfl,g3,hx3,hl,?_]];rwa[q2.bind c3 λb r4 S4 e4 c4 q4=>?_]
      try walk_at "pf"
      cases tb with
      |true=>erw[ca G.Ea #[t3,rfl,λS5 x5=>q4 S5 (c4.trans (x5.chg c4.2.1))]]
      |false=>erw[ca G.SD #[t3,rfl,λS5 x5=>q4 S5 (c4.trans (x5.chg c4.2.1))]]
    · intro r' e3
      rw[e3] at q2;erw[q2]
  by_cases e:cL [94] r0=ζ
  · let#[t,rfl]:=Ko e
    dsimp[e,if_true];walk_at "pf";dsimp[cx g0,true_and];refine#[rfl,ca G.pass #[[94],d,r,x,_,rfl,g0,hx0,hl,?_]];show eI r x d S0 _ (mapR oS (.ok (94,t)));intro S1 c1;erw[tail ζ t S1 (c0.trans c1) (z7 hx0) q0]
  · have e:cL [94] r0=ϑ:=by simpa using e
    dsimp[e,av,if_false];rw[Kt e] at q0;erw[tail ϑ r0 S0 c0 hx0 q0]
abbrev qg(k:List Nat)(ts:List U):U:=match ts with|[t]=>t|_=>.tup [.str k,.tup ts]
abbrev lN:Spec:=λus S Q=>∃k n ts,us=[.str k,.loc n]/\S[n]?=ξ (.lst ts)/\ts≠[]/\ts.length<=100000/\Q (qg k ts) S
def Hh(Γ:cb):Keeps Γ r6 0 lN:=by
 rintro us S Q ⟨k,n,ts,rfl,hn,ne,hl,q⟩;unfold r6;walk_at "pl";dsimp[j8 hn,hn];walk_at "pl";refine#[∅,?_];cases ts with
 |nil=>erw[absurd rfl ne]
 |cons t ts=>
  cases ts with
  |nil=>
   dsimp[gU];simp[pD,qg] at q ⊢;erw[q]
  |cons t2 ts=>
   have h1:((((t::t2::ts).length:Nat):Int)== 1)=ϑ:=by
    dsimp[aS,beq_eq_false_iff_ne];omega
   dsimp[h1,av,if_false];refine#[#v[],?_];erw[q]
noncomputable abbrev Oo:List Nat:=[111,110,101]
noncomputable abbrev lO:List Nat:=[115,116,97,114]
noncomputable abbrev pF:List Nat:=[112,108,117,115]
noncomputable abbrev kT:List Nat:=[109,97,121,98,101]
noncomputable abbrev Eb:List Nat:=[114,111,119]
noncomputable abbrev UH:List Nat:=[111,114]
abbrev Oq(l:List Nat):U:=.tup [.str Oo,.str l]
abbrev Ku(c:Nat)(t:U):U:=.tup [.str (if c=42 then lO else if c=43 then pF else kT),t]
abbrev mF:U->List Nat->U×List Nat
 |t,[]=>(t,[])
 |t,c::r=>if [42,43,63].contains c then mF (Ku c t) r else(t,c::r)
abbrev UI(br:Option (List Nat->PR U))(rest:List Nat):PR U:=
 match br with
 |none=>.error rest
 |some p=>bindR (eG [40] rest) λ_ r=>bindR (p r) λt r2=>bindR (eG [41] r2) λ_ r3=>.ok (t,r3)
abbrev sG(br:Option (List Nat->PR U))(rest:List Nat):PR U:=
 if cL [40] rest then UI br rest else if cL [91] rest then mapR Oq (cls rest) else if cL [46] rest then bindR (eG [46] rest) (λ_ r=>.ok (Oq (eF [10]),r)) else mapR (λc=>Oq [c]) (kW MO rest)
abbrev jM(br:Option (List Nat->PR U))(rest:List Nat):PR U:=bindR (sG br rest) λt r=>.ok (mF t r)
abbrev dM(stop:List Nat->Bool)(p:List Nat->PR U):Nat->List U->List Nat->PR (List U)
 |0,_,rest=>.error rest
 |n+1,acc,rest=>if stop rest then .ok (acc,rest) else bindR (p rest) λt r=>dM stop p n (acc++[t]) r
abbrev jN(rest:List Nat):Bool:=rest.isEmpty||cL [124,41] rest
abbrev stopOr(rest:List Nat):Bool:=!cL [124] rest
abbrev xC(br:Option (List Nat->PR U))(rest:List Nat):PR U:=bindR (jM br rest) λt r=>bindR (dM jN (jM br) (r.length+1) [t] r) λts r2=>.ok (qg Eb ts,r2)
abbrev SF(br:Option (List Nat->PR U))(rest:List Nat):PR U:=bindR (eG [124] rest) λ_ r=>xC br r
abbrev iI(br:Option (List Nat->PR U))(rest:List Nat):PR U:=bindR (xC br rest) λt r=>bindR (dM stopOr (SF br) (r.length+1) [t] r) λts r2=>.ok (qg UH ts,r2)
abbrev uC:Nat->Option (List Nat->PR U)
 |0=>ψ
 |k+1=>ξ (iI (uC k))
abbrev wq(x:List Nat):PR U:=bindR (iI (uC 6) x) λt r=>if r=[] then .ok (t,[]) else .error r
def B7:∀(t:U)(rest:List Nat),(mF t rest).2<:+rest
 |t,[]=>bL _
 |t,c::r=>by
  unfold mF;split
  .exact(B7 _ r).trans (dE _ _)
  .erw[bL _]
abbrev oT(br:Option (List Nat->PR U)):Prop:=∀p,br=ξ p->∀rest,mS rest (p rest)
def SH{br:Option (List Nat->PR U)}(h:oT br)(rest:List Nat):mS rest (UI br rest):=by
 unfold UI;cases br with
 |none=>erw[bL _]
 |some p=>exact(iB _ _).bind λa r _=>(h p rfl r).SA.bind λt r2 _=>(iB _ _).SA.bind λ_ r3 _=>bL _
def mS.map{α β:Type}{rest:List Nat}{p:PR α}{f:α->β}(h:mS rest p):mS rest (mapR f p):=by
 cases p with
 |ok v=>erw[h]
 |error r=>erw[h]
def wu{br:Option (List Nat->PR U)}(h:oT br)(rest:List Nat):mS rest (sG br rest):=by
 unfold sG;split
 .erw[SH h rest]
 .split
  .exact(Om rest).map
  .split
   .exact(iB _ _).bind λ_ r _=>bL _
   .exact(lE _ _).map
def oA(h:oT br)(rest:List Nat):mS rest (jM br rest):=(wu h rest).bind λt r _=>B7 t r
def oB(h:∀rest,mS rest (p rest)):∀(n:Nat)(acc:List U)(rest:List Nat),Suf rest (dM stop p n acc rest)
 |0,_,rest=>bL _
 |n+1,acc,rest=>by
  unfold dM;split
  .erw[bL _]
  .exact(h rest).SA.bind λa r _=>oB h n _ r
def z9(h:oT br)(rest:List Nat):mS rest (xC br rest):=(oA h rest).bind λt r _=>(oB (oA h) _ _ _).bind λts r2 _=>bL _
def Kv(h:oT br)(rest:List Nat):mS rest (SF br rest):=(iB _ _).bind λ_ r _=>(z9 h r).SA
def wx(h:oT br)(rest:List Nat):mS rest (iI br rest):=(z9 h rest).bind λt r _=>(oB (Kv h) _ _ _).bind λts r2 _=>bL _
def tX:∀k,oT (uC k)
 |0=>λp e=>nomatch e
 |k+1=>λp e rest=>by injection e with e;subst e;erw[wx (tX k) rest]
def eI.Py{α:Type}{toU:α->U}{p:PR α}{f:α->List Nat->PR U}{r d d':Nat}{x rest:List Nat}{S S1:bH}{Q Q1:KU}(h:eI r x d S Q (bindR p f))(st:lY r (mR x rest d') S S1)
  (k:∀a r1 S2,p=.ok (a,r1)->lY r (mR x r1 d') S S2->eI r x d S Q (f a r1)->Q1 (toU a) S2):eI r x d' S1 Q1 (mapR toU p):=by
 cases p with
 |error r'=>erw[h]
 |ok v=>
  let#[a,r1]:=v;erw[λS' c=>k a r1 S' rfl (st.trans c) h]
def eI.Fp{p:PR U}{f:U->List Nat->PR U}{r d d':Nat}{x rest:List Nat}{S S1:bH}{Q Q1:KU}(h:eI r x d S Q (bindR p f))(st:lY r (mR x rest d') S S1)
  (k:∀a r1 S2,p=.ok (a,r1)->lY r (mR x r1 d') S S2->eI r x d S Q (f a r1)->Q1 a S2):eI r x d' S1 Q1 p:=by
 have:=eI.Py (toU:=id) (Q1:=Q1) h st k;rw[Oj] at this;erw[this]
def Fq{x t:List Nat}{z:U}{v:Nat}{d':Nat}(h:z=.int (d':Nat)):SO.ins "Reader" (iF "depth" z [("text",.str x),("at",.int (x.length-t.length:Nat)),("depth",.int v)])=mR x t d':=by subst h;rfl
abbrev Wv(br:Option (List Nat->PR U))(d:Nat):Spec:=λus S Q=>∃r x rest,us=[.loc r]/\S[r]?=ξ (mR x rest d)/\rest<:+x/\x.length<=1000/\cL [40] rest=ζ/\eI r x d S Q (UI br rest)
abbrev Ww(Γ:cb)(br:Option (List Nat->PR U))(d:Nat):Prop:=
 (br=ψ/\d=6)\/∃p,br=ξ p/\d<6/\oT br/\Γ "Reader.choice"=AY [] p (d+1)
def Wx(Γ:cb)(G:GR Γ)(br:Option (List Nat->PR U))(d:Nat)(hb:Ww Γ br d):Keeps Γ iG 1 (Wv br d):=by
 rintro us S Q ⟨r,x,rest,rfl,hS,hx,hl,hs,q⟩;unfold iG;walk_at "pf";dsimp[<-jt,Kl hS];walk_at "pf";rcases hb with⟨rfl,rfl⟩|⟨p,rfl,hd,hbo,hch⟩
 .have e:((((6:Nat):Int))== 6)=ζ:=⋯
  dsimp[e,if_true];erw[q.elim]
 .have e:(((d:Nat):Int)== 6)=ϑ:=by dsimp[beq_eq_false_iff_ne];omega
  dsimp[e,av,if_false];walk_at "pf";dsimp[cx hS,true_and];refine#[rfl,ca G.pass #[[40],d,r,x,rest,rfl,hS,hx,hl,?_]];unfold UI at q;rwa[q.bind (lY.refl hS) λa r1 S1 e1 c1 q1=>?_]
  have hs1:=iB [40] rest;rw[e1] at hs1;have hx1:=hs1.1.trans hx;have g1:=c1.2.1;walk_at "pf";dsimp[cx g1];try walk_at "pf"
  dsimp[cx g1,Fq (v:=d) (d':=d+1) (t:=r1) (x:=x) (z:=.int ((d:Nat)+1)) rfl];refine#[by first|trivial|rfl,#v[],?_];have c2:lY r (mR x r1 (d+1)) S (S1.set r (mR x r1 (d+1))):=c1.trans (lY.set g1);have g2:=c2.2.1;generalize S1.set r (mR x r1 (d+1))=S2 at c2 g2;walk_at "pf";dsimp[cx g2,true_and];refine#[rfl,ca hch #[r,x,r1,rfl,g2,hx1,hl,?_]];refine q1.Fp c2 λt r2 S3 e3 c3 q3=>?_
  have hs3:=hbo p rfl r1;rw[e3] at hs3;have hx3:=hs3.1.trans hx1;have g3:=c3.2.1;try walk_at "pf"
  dsimp[cx g3,true_and];refine#[rfl,ca G.pass #[[41],d+1,r,x,r2,rfl,g3,hx3,hl,?_]];rwa[q3.Py c3 λa r3 S4 e4 c4 q4=>?_]
  have g4:=c4.2.1;walk_at "pf";dsimp[cx g4];try walk_at "pf"
  dsimp[cx g4,Fq (v:=d+1) (d':=d) (t:=r3) (x:=x) (z:=.int (((d+1:Nat):Int)-1)) (by congr 1;omega)];refine#[by first|trivial|rfl,#v[],?_];walk_at "pf";exact q4 _ (c4.trans (lY.set g4))
structure GA(Γ:cb)(br:Option (List Nat->PR U))(d:Nat):Prop extends GR3 Γ d where
 cl:Γ "Reader.sign_class"=Px d
 bk:Γ "Reader.bracket"=Wv br d
def Ot(Γ:cb)(br:Option (List Nat->PR U))(d:Nat)(G:GA Γ br d):Keeps Γ kq 0 (AY [] (sG br) d):=by
 rintro us S Q ⟨r,x,rest,rfl,hS,hx,hl,q⟩;unfold kq;walk_at "pf";dsimp[cx hS];refine#[#[by first|trivial|rfl,rfl],ca G.sees #[r,x,rest,d,_,rfl,hS,hx,hl,?_]];try walk_at "pf"
 unfold sG at q;by_cases e1:cL [40] rest=ζ
 .dsimp[e1,if_true] at q ⊢
  walk_at "pf";dsimp[cx hS,true_and];exact#[rfl,ca G.bk #[r,x,rest,rfl,hS,hx,hl,e1,q]]
 .have e1':cL [40] rest=ϑ:=by simpa using e1
  dsimp[e1',av,if_false] at q ⊢;walk_at "pf";dsimp[cx hS,true_and];refine#[rfl,ca G.sees #[r,x,rest,d,_,rfl,hS,hx,hl,?_]];try walk_at "pf"
  by_cases e2:cL [91] rest=ζ
  .dsimp[e2,if_true] at q ⊢
   walk_at "pf";dsimp[cx hS,true_and];refine#[rfl,ca G.cl #[r,x,rest,rfl,hS,hx,hl,?_]];rw[yB] at q;rwa[q.bind (toU:=U.str) (lY.refl hS) λa r1 S1 _ c1 q1=>?_]
   exact#[#v[],q1 S1 c1]
  .have e2':cL [91] rest=ϑ:=by simpa using e2
   dsimp[e2',av,if_false] at q ⊢;walk_at "pf";dsimp[cx hS,true_and];refine#[rfl,ca G.sees #[r,x,rest,d,_,rfl,hS,hx,hl,?_]];try walk_at "pf"
   by_cases e3:cL [46] rest=ζ
   .dsimp[e3,if_true] at q ⊢
    walk_at "pf";dsimp[cx hS,true_and];refine#[rfl,ca G.pass #[[46],d,r,x,rest,rfl,hS,hx,hl,?_]];rwa[q.bind (lY.refl hS) λa r1 S1 _ c1 q1=>?_]
    walk_at "pf";refine ca G.Ea #[[10],rfl,λS2 x2=>?_];try walk_at "pf"
    exact#[#v[],q1 S2 (c1.trans (x2.chg c1.2.1))]
   .have e3':cL [46] rest=ϑ:=by simpa using e3
    dsimp[e3',av,if_false] at q ⊢;walk_at "pf";dsimp[cx hS,true_and];refine#[rfl,ca G.ws #[MO,r,x,rest,rfl,hS,hx,hl,?_]];rw[yB] at q;rwa[q.bind (lY.refl hS) λa r1 S1 _ c1 q1=>?_]
    unfold oS;exact#[#v[],q1 S1 c1]
abbrev REP:List (List Nat×List Nat):=[([42],lO),([43],pF),([63],kT)]
def Kw(h:[42,43,63].contains c=ζ):REP.lookup [c]=ξ (if c=42 then lO else if c=43 then pF else kT):=by
 have:c=42\/c=43\/c=63:=by simpa using h
 rcases this with rfl|rfl|rfl<;>rfl
structure GP(Γ:cb)(br:Option (List Nat->PR U))(d:Nat):Prop extends GA Γ br d where
 at_:Γ "Reader.atom"=AY [] (sG br) d
def yD{Γ:cb}{r d:Nat}{x:List Nat}{S:bH}{fin:Env->bH->Prop}{e0:Option U}(hl:x.length<=1000)
  (cW:Env->bH->(Bool->bH->Prop)->Prop) (bW:Env->bH->(Env->bH->Prop)->Prop)
  (hc:∀t S1 rest k,S1[r]?=ξ (mR x rest d)->rest<:+x->k (cL [42,43,63] rest) S1->cW [e0,ξ t] S1 k)
  (hb:∀t S1 c rest k,S1[r]?=ξ (mR x (c::rest) d)->(c::rest)<:+x->[42,43,63].contains c=ζ->(∀S2,lY r (mR x rest d) S1 S2->k [e0,ξ (Ku c t)] S2)->bW [e0,ξ t] S1 k):
  ∀(rest:List Nat)(t:U)(S1:bH),rest<:+x->lY r (mR x rest d) S S1->(∀S2,lY r (mR x (mF t rest).2 d) S S2->fin [e0,ξ (mF t rest).1] S2)->zK cW bW fin (rest.length+1) [e0,ξ t] S1
 |[],t,S1,hx,c1,hf=>by
  rwa[hc t S1 [] _ c1.2.1 hx ?_];dsimp[cL,av,if_false];erw[hf S1 c1]
 |c::rest,t,S1,hx,c1,hf=>by
  rwa[hc t S1 _ _ c1.2.1 hx ?_];by_cases e:[42,43,63].contains c=ζ
  .dsimp[cL,e,if_true]
   rwa[hb t S1 c rest _ c1.2.1 hx e λS2 c2=>?_]
   refine yD (Γ:=Γ) hl cW bW hc hb rest _ S2 (z7 hx) (c1.trans c2) ?_;have:mF t (c::rest)=mF (Ku c t) rest:=by
    conv=>lhs;unfold mF
    rw[if_pos e]
   rw[this] at hf;erw[hf]
  .have e':[42,43,63].contains c=ϑ:=by simpa using e
   dsimp[cL,e',av,if_false];have:mF t (c::rest)=(t,c::rest):=by
    unfold mF;rw[if_neg e]
   rw[this] at hf;erw[hf S1 c1]
def Hi(Γ:cb)(br:Option (List Nat->PR U))(d:Nat)(hbo:oT br)(G:GP Γ br d):Keeps Γ i7 1 (AY [] (jM br) d):=by
 rintro us S Q ⟨r,x,rest,rfl,hS,hx,hl,q⟩;unfold i7;walk_at "pl";dsimp[cx hS,G.at_];refine#[#[by first|trivial|rfl,rfl],r,x,rest,rfl,hS,hx,hl,?_];unfold jM at q;refine q.Fp (lY.refl hS) λt r1 S1 e1 c1 q1=>?_
 have hs1:=wu hbo rest;rw[e1] at hs1;have hx1:=hs1.1.trans hx;refine#[r1.length+1,yD (Γ:=Γ) (S:=S) hl _ _ ?_ ?_ r1 t S1 hx1 c1 ?_]
 .intro t2 S2 rest2 k g2 hx2 hk
  try walk_at "pl"
  dsimp[cx g2,G.sees,true_and];refine#[rfl,r,x,rest2,d,_,rfl,g2,hx2,hl,?_];try walk_at "pl"
  erw[hk]
 .intro t2 S2 c rest2 k g2 hx2 hc hk
  try walk_at "pl"
  dsimp[cx g2,G.pass,true_and];refine#[rfl,[42,43,63],d,r,x,_,rfl,g2,hx2,hl,?_];have e2:eG [42,43,63] (c::rest2)= .ok (c,rest2):=by unfold eG;dsimp only;rw[if_pos hc]
  show eI r x d S2 _ (mapR oS (eG [42,43,63] (c::rest2)))
  rw[e2]
  intro S3 c3;unfold oS;rw[zE]
  have:=Kw hc;unfold REP at this;rw[this,aT]
  exact#[#v[],hk S3 c3]
 .intro S2 c2
  try walk_at "pl"
  erw[q1 S2 c2]
def tY(hp:∀rest,mS rest (p rest))
  (cW:Env->bH->(Bool->bH->Prop)->Prop) (bW:Env->bH->(Env->bH->Prop)->Prop) (h0:S.length<=n0) (h1:n0≠r)
  (hc:∀S1 rest k,S1[r]?=ξ (mR x rest d)->rest<:+x->k (!stop rest) S1->cW env S1 k)
  (hb:∀S1 rest acc k,S1[r]?=ξ (mR x rest d)->S1[n0]?=ξ (.lst acc)->acc.length<=2000->rest<:+x->stop rest=ϑ->eI r x d S1 (λt S2=>k env (S2.set n0 (.lst (acc++[t])))) (p rest)->bW env S1 k):
  ∀(m:Nat)(acc:List U)(rest:List Nat)(S1:bH),rest.length<m->acc.length+rest.length<=2000->rest<:+x->lY r (mR x rest d) S S1->S1[n0]?=ξ (.lst acc) ->
   (∀ts r2 S2,dM stop p m acc rest=.ok (ts,r2)->lY r (mR x r2 d) S S2->r2<:+x->S2[n0]?=ξ (.lst ts)->ts.length<=2000->acc.length<=ts.length->fin env S2)->(∀r',dM stop p m acc rest=.error r'->False) ->
   zK cW bW fin m env S1
 |0,_,_,_,h,_,_,_,_,_,_=>∅
 |m+1,acc,rest,S1,h,ht,hx,c1,hn,hf,he=>by
  rwa[hc S1 rest _ c1.2.1 hx ?_];by_cases e:stop rest=ζ
  .dsimp[e,bG,av,if_false]
   erw[hf acc rest S1 (by unfold dM;rw[if_pos e]) c1 hx hn ∅ (ao _)]
  .have e':stop rest=ϑ:=by simpa using e
   dsimp[e',bU,if_true];rwa[hb S1 rest acc _ c1.2.1 hn ∅ hx e' ?_];have hs:=hp rest;cases q:p rest with
   |error r'=>
    erw[he r' (by unfold dM;rw[if_neg e,q];rfl)]
   |ok v=>
    let#[t,r1]:=v;rw[q] at hs;intro S2 c2;have hE:dM stop p (m+1) acc rest=dM stop p m (acc++[t]) r1:=by
     conv=>lhs;unfold dM
     rw[if_neg e,q];rfl
    have hn2:S2[n0]?=ξ (.lst acc):=(c2.2.2 n0 (aK hn) h1).trans hn;have c3:lY r (mR x r1 d) S (S2.set n0 (.lst (acc++[t]))):=by
     have c12:=c1.trans c2;refine#[~~~c12.1,%[aj h1|c12.2.1],λm hm ne=>?_];rw[aj ∅]
     erw[c12.2.2 m hm ne]
    refine tY hp cW bW h0 h1 hc hb m (acc++[t]) r1 _ (by have:=hs.2;omega) (by simp;have:=hs.2;omega) (hs.1.trans hx) c3 (gs hn2) (λts r2 S3 e3 c4 h3 h4 h5 h6=>hf ts r2 S3 (%[hE|e3]) c4 h3 h4 h5 (by simp at h6;omega)) (λr' e3=>he r' (%[hE|e3]))
structure GW(Γ:cb)(br:Option (List Nat->PR U))(d:Nat):Prop extends GP Γ br d where
 rp:Γ "Reader.repeat"=AY [] (jM br) d
 jn:Γ "joined"=lN
def Kx{x rest:List Nat}(h:rest<:+x):decide (((x.length-rest.length:Nat):Int)<x.length)= !rest.isEmpty:=by
 have:=Pw h;cases rest with
 |nil=>simp at this ⊢
 |cons a b=>dsimp[ne_eq,reduceCtorEq,not_false_eq_true,iff_true] at this;rw[decide_eq_true this];rfl
def SI(Γ:cb)(br:Option (List Nat->PR U))(d:Nat)(hbo:oT br)(G:GW Γ br d):Keeps Γ k6 1 (AY [] (xC br) d):=by
 rintro us S Q ⟨r,x,rest,rfl,hS,hx,hl,q⟩;unfold k6;walk_at "pl";dsimp[cx hS,G.rp];refine#[#[by first|trivial|rfl,rfl],r,x,rest,rfl,hS,hx,hl,?_];unfold xC at q;refine q.Fp (lY.refl hS) λt r1 S1 e1 c1 q1=>?_
 have hs1:=oA hbo rest;rw[e1] at hs1;have hx1:=hs1.1.trans hx;have hr1:r1.length<=1000:=aI hx1.length_le hl;refine#[#v[],?_];have hrl:=aK hS;have c2:lY r (mR x r1 d) S (S1++[.lst [t]]):=c1.trans ((Ext.app _).chg c1.2.1);have hn:(S1++[SO.lst [t]])[S1.length]?=ξ (.lst [t]):=by simp
 have hne:S1.length≠r:=by have:=c1.1;omega
 refine#[r1.length+1,tY (S:=S) (n0:=S1.length) (stop:=jN) (p:=jM br) (oA hbo) _ _ c1.1 hne ?_ ?_ (r1.length+1) [t] r1 _ ∅ ((·)) hx1 c2 hn ?_ ?_]
 .intro S2 rest2 k g2 hx2 hk
  try walk_at "pl"
  dsimp[<-jt,zZ g2,BZ g2];try walk_at "pl"
  refine#[∅,?_];dsimp[Kx hx2];unfold jN at hk;cases rest2 with
  |nil=>simpa using hk
  |cons c t2=>
   dsimp[Ih,bU,if_true];dsimp[cx g2,G.sees,true_and];refine#[rfl,r,x,_,d,_,rfl,g2,hx2,hl,?_];try walk_at "pl"
   simpa using hk
 .intro S2 rest2 acc k g2 hn2 ha hx2 hst hk
  try walk_at "pl"
  dsimp[hn2,cx g2,G.rp,true_and];try walk_at "pl"
  refine#[rfl,r,x,rest2,rfl,g2,hx2,hl,?_];cases z:jM br rest2 with
  |error r'=>rw[z] at hk;erw[hk]
  |ok v=>
   rw[z] at hk;intro S3 c3;have hn3:S3[S1.length]?=ξ (.lst acc):=(c3.2.2 _ (aK hn2) hne).trans hn2;dsimp[hn3];try walk_at "pl"
   exact#[∅,hk S3 c3]
 .intro ts r2 S2 e2 c3 hx2 hn2 hts ht1
  rw[e2] at q1;try walk_at "pl"
  dsimp[G.jn];refine#[Eb,S1.length,ts,rfl,hn2,?_,∅,q1 S2 c3];intro z;rw[z] at ht1;simp at ht1
 .intro r' e2
  rw[e2] at q1;erw[q1]
structure GC(Γ:cb)(br:Option (List Nat->PR U))(d:Nat):Prop extends GW Γ br d where
 rw_:Γ "Reader.row"=AY [] (xC br) d
def Hj(Γ:cb)(br:Option (List Nat->PR U))(d:Nat)(hbo:oT br)(G:GC Γ br d):Keeps Γ i6 1 (AY [] (iI br) d):=by
 rintro us S Q ⟨r,x,rest,rfl,hS,hx,hl,q⟩;unfold i6;walk_at "pl";dsimp[cx hS,G.rw_];refine#[#[by first|trivial|rfl,rfl],r,x,rest,rfl,hS,hx,hl,?_];unfold iI at q;refine q.Fp (lY.refl hS) λt r1 S1 e1 c1 q1=>?_
 have hs1:=z9 hbo rest;rw[e1] at hs1;have hx1:=hs1.1.trans hx;have hr1:r1.length<=1000:=aI hx1.length_le hl;refine#[#v[],?_];have hrl:=aK hS;have c2:lY r (mR x r1 d) S (S1++[.lst [t]]):=c1.trans ((Ext.app _).chg c1.2.1);have hn:(S1++[SO.lst [t]])[S1.length]?=ξ (.lst [t]):=by simp
 have hne:S1.length≠r:=by have:=c1.1;omega
 refine#[r1.length+1,tY (S:=S) (n0:=S1.length) (stop:=stopOr) (p:=SF br) (Kv hbo) _ _ c1.1 hne ?_ ?_ (r1.length+1) [t] r1 _ ∅ ((·)) hx1 c2 hn ?_ ?_]
 .intro S2 rest2 k g2 hx2 hk
  try walk_at "pl"
  dsimp[cx g2,G.sees,true_and];refine#[rfl,r,x,_,d,_,rfl,g2,hx2,hl,?_];try walk_at "pl"
  simpa[stopOr] using hk
 .intro S2 rest2 acc k g2 hn2 ha hx2 hst hk
  try walk_at "pl"
  dsimp[cx g2,G.pass,true_and];refine#[rfl,[124],d,r,x,rest2,rfl,g2,hx2,hl,?_];unfold SF at hk;rwa[eI.bind (f:=λ_ r=>xC br r) hk (lY.refl g2) λa r3 S3 e3 c3 q3=>?_]
  have hs3:=iB [124] rest2;rw[e3] at hs3;have hx3:=hs3.1.trans hx2;have g3:=c3.2.1;have hn3:S3[S1.length]?=ξ (.lst acc):=(c3.2.2 _ (aK hn2) hne).trans hn2;dsimp[hn3,cx g3,G.rw_,true_and];try walk_at "pl"
  refine#[rfl,r,x,r3,rfl,g3,hx3,hl,?_];cases z:xC br r3 with
  |error r'=>rw[z] at q3;erw[q3]
  |ok v=>
   rw[z] at q3;intro S4 c4;have hn4:S4[S1.length]?=ξ (.lst acc):=(c4.2.2 _ (aK hn3) hne).trans hn3;dsimp[hn4];try walk_at "pl"
   exact#[∅,q3 S4 (c3.trans c4)]
 .intro ts r2 S2 e2 c3 hx2 hn2 hts ht1
  rw[e2] at q1;try walk_at "pl"
  dsimp[G.jn];refine#[UH,S1.length,ts,rfl,hn2,?_,∅,q1 S2 c3];intro z;rw[z] at ht1;simp at ht1
 .intro r' e2
  rw[e2] at q1;erw[q1]
abbrev oC:Spec:=λus S Q=>∃r x,us=[.loc r,.str x]/\S[r]?=ξ (.ins "Reader" [])/\Q .b7 (S.set r (mR x x 0))
def Ky(Γ:cb):Keeps Γ km 0 oC:=by
 rintro us S Q ⟨r,x,rfl,hS,q⟩;unfold km;walk_at "pl";have hr:=aK hS;dsimp[hS,b8,iF];refine#[#v[],?_];have g1:=gs (o':=SO.ins "Reader" [("text",U.str x)]) hS;generalize hS1:S.set r (SO.ins "Reader" [("text",U.str x)])=S1 at g1;dsimp[g1,b8];refine#[#v[],?_];have g2:=gs (o':=SO.ins "Reader" (iF "at" (U.int 0) [("text",U.str x)])) g1;generalize hS2:S1.set r (SO.ins "Reader" (iF "at" (U.int 0) [("text",U.str x)]))=S2 at g2;dsimp[g2,b8];refine#[by simp[iF],?_];subst hS2;subst hS1;rw[uh,uh]
 have e:SO.ins "Reader" (iF "depth" (.int 0) (iF "at" (.int 0) [("text",.str x)]))=mR x x 0:=by
  unfold mR;rw[bT]
  rfl
 simpa[<-e] using q
abbrev Ec:Spec:=λus S Q=>∃x,us=[.str x]/\x.length<=1000/\match wq x with
 |.ok (t,_)=>∀S',Ext S S'->Q t S'
 |.error r=>False
def Ou(Γ:cb)(h1:Γ "Reader.__init__"=oC)(h2:Γ "Reader.choice"=AY [] (iI (uC 6)) 0):Keeps Γ zN 2 Ec:=by
 rintro us S Q ⟨x,rfl,hl,q⟩;unfold zN;walk_at "pl";dsimp[h1,h2];have hn:(S++[SO.ins "Reader" []])[S.length]?=ξ (.ins "Reader" []):=by simp
 refine#[S.length,x,rfl,hn,rfl,?_];try walk_at "pl"
 have g1:=gs (o':=mR x x 0) hn;have x1:Old S.length S ((S++[SO.ins "Reader" []]).set S.length (mR x x 0)):=by
  refine#[#v[],λn h ne=>?_];rw[aj (cM ne),ah h]
 generalize (S++[SO.ins "Reader" []]).set S.length (mR x x 0)=S1 at g1 x1;dsimp[cx g1,true_and];have toE:∀{S'},Old S.length S S'->Ext S S':=λo=>#[o.1,λn h=>o.2 n h ∅]
 refine#[rfl,S.length,x,x,rfl,g1,bL _,hl,?_];unfold wq at q;cases z:iI (uC 6) x with
 |error r'=>
  rw[z] at q;erw[q]
 |ok v=>
  let#[t,r1]:=v;have hs:=wx (tX 6) x;rw[z] at q hs;intro S2 c2;have g2:=c2.2.1;dsimp[<-jt,BZ g2];try walk_at "pl"
  refine#[∅,?_];dsimp[Kx hs.1];dsimp[bindR] at q;cases r1 with
  |nil=>
   dsimp[List.isEmpty_nil,bG,av,if_false];try walk_at "pl"
   simp at q;erw[q S2 (toE (x1.trans c2.old))]
  |cons c t2=>
   dsimp[Ih,bU,if_true];dsimp[reduceCtorEq,if_false] at q
section
variable{d f c:Nat}{r rest:List Nat}
abbrev hd(rest:List Nat)(l:List Nat):Prop:=cL l rest=ζ
end
section
variable{α:Type}
def Ow(h0:0<=i)(h1:i<l.length):∃a,qV l i=ξ a/\a∈l:=by
 obtain⟨n,rfl⟩:∃n:Nat,i=n:=#[i.toNat,∅]
 have h2:n<l.length:=∅
 exact#[l[n],by rw[gc,aa h2],cq h2]
def tZ(h0:0<=i)(h1:i<l.length)(h:∀a∈l,r a):opt (qV l i) r:=by
 let#[a,e,m]:=Ow h0 h1;rw[e];erw[h a m]
end
namespace u9
abbrev Ed:Spec:=λus S Q=>∃ns k,us=[.uQ ns,.int k]/\ns.length<=1000/\∀m,Q (.int m) S
def Oy(Γ:cb):Keeps Γ mz 0 Ed:=by
 rintro us S Q ⟨ns,k,rfl,hl,q⟩;unfold mz;walk_at "pl";by_cases h:ns.length=0
 .dsimp[h,bne_self_eq_false,av,if_false]
  try walk_at "pl"
  erw[q 0]
 .have h':(ns.length !=0)=ζ:=by simpa using h
  dsimp[h',if_true];try walk_at "pl"
  refine#[∅,∅,∅,?_];erw[tZ (lF _ ∅) (jG _ ∅) (λa _=>q a)]
abbrev yE:Spec:=λus S Q=>∃ns k,us=[.uQ ns,.int k]/\ns.length<=1000/\∀m:Int,0<=m->m<4294967231->Q (.int m) S
def SJ(Γ:cb)(h1:Γ "_law_cell"=Ed):Keeps Γ om 1 yE:=by
 rintro us S Q ⟨ns,k,rfl,hl,q⟩;unfold om;walk_at "pl";dsimp[h1];refine#[ns,k,rfl,hl,λc=>?_];walk_at "pl";refine#[∅,∅,∅,∅,∅,∅,∅,?_];erw[q _ ∅ ∅]
abbrev Kz:Spec:=λus S Q=>us=[]/\∀G,G=SG->Q (.str G) S
def SK(Γ:cb):Keeps Γ oo 1 Kz:=by
 rintro us S Q ⟨rfl,q⟩;unfold oo;walk_at "pl";exact#[⋯,q _ rfl]
end u9
namespace u9
end u9
def oE{cW:Env->bH->(Bool->bH->Prop)->Prop}{bW:Env->bH->(Env->bH->Prop)->Prop}{fin:Env->bH->Prop}(I:Nat->Env->bH->Prop)
  (h:∀n env S k,I n env S->(∀m env' S',m<n->I m env' S'->k env' S')->cW env S (λt S1=>if t=ζ then bW env S1 k else fin env S1)):
  ∀N n env S,n<N->I n env S->zK cW bW fin N env S
 |0,_,_,_,hn,_=>∅
 |N+1,n,env,S,hn,hi=>h n env S _ hi λm env' S' hm hi'=>oE I h N m env' S' ∅ hi'
def Fs(I:Nat->Env->bH->Prop)(hg:∀i env S,I i env S->g S)(l:List U)
  (h:∀i u env S k,l[i]?=ξ u->I i env S->(∀env' S',I (i+1) env' S'->k env' S')->turn u env S k) (hf:∀env S,I l.length env S->fin env S):
  ∀n i env S,i+n=l.length->I i env S->uT g turn fin (l.drop i) env S
 |0,i,env,S,e,hi=>by
  rw[j6 ∅]
  have:i=l.length:=∅
  subst this;exact#[hg _ _ _ hi,hf _ _ hi]
 |n+1,i,env,S,e,hi=>by
  have hlt:i<l.length:=∅
  rw[fw hlt]
  exact#[hg _ _ _ hi,h i _ env S _ (aa hlt) hi λenv' S' hi'=>Fs I hg l h hf n (i+1) env' S' ∅ hi']
def df{g:bH->Prop}{turn:U->Env->bH->(Env->bH->Prop)->Prop}{fin:Env->bH->Prop}(I:Nat->Env->bH->Prop)(hg:∀i env S,I i env S->g S)(l:List U)
  (h:∀i u env S k,l[i]?=ξ u->I i env S->(∀env' S',I (i+1) env' S'->k env' S')->turn u env S k) (hf:∀env S,I l.length env S->fin env S)
  {env:Env}{S:bH} (hi:I 0 env S):uT g turn fin l env S:=Fs I hg l h hf l.length 0 env S ∅ hi
def jO{n i:Nat}{u:U}(h:((bO n).map λk=>U.int (k:Nat))[i]?=ξ u):u=.int i/\i<n:=by
 rw[ar] at h;have hl:i<n:=by
  rcases uI i n with z|z
  .erw[z]
  .rw[dq (~~~z)] at h;simp at h
 rw[fU hl] at h;simp at h;exact#[h.symm,hl]
namespace u9
end u9
abbrev wy(br:Option (List Nat->PR U))(x:List Nat)(t:U):Prop:=∀rest,sG br (x++rest)= .ok (t,rest)
abbrev Oz(t:U)(ms:List Nat):U:=ms.foldl (λt c=>Ku c t) t
abbrev wz(br:Option (List Nat->PR U))(x:List Nat)(t:U):Prop:=∃a ta ms,x=a++ms/\wy br a ta/\(∀c∈ms,c∈[42,43,63])/\t=Oz ta ms
def Ft:∀(ms:List Nat)(t:U)(rest:List Nat),(∀c∈ms,c∈[42,43,63])->cL [42,43,63] rest=ϑ->mF t (ms++rest)=(Oz t ms,rest)
 |[],t,rest,_,h=>by
  cases rest with
  |nil=>rfl
  |cons c r=>
   have h:[42,43,63].contains c=ϑ:=h;rw[jz,mF,h]
   rfl
 |m::ms,t,rest,hm,h=>by
  have e:[42,43,63].contains m=ζ:=gW.mpr (hm m (aO ..));rw[iX,mF,if_pos e,Ft ms _ rest (λc hc=>hm c (az _ hc)) h]
  rfl
def KA(h:wz br x t)(hr:cL [42,43,63] rest=ϑ):jM br (x++rest)= .ok (t,rest):=by
 let#[a,ta,ms,rfl,ha,hm,rfl]:=h;unfold jM;rw[bR,ha (ms++rest)]
 dsimp[bindR];rw[Ft ms ta rest hm hr]
def Hk(hb:oT br)(h:wy br x t):∃c r,x=c::r/\c∉[42,43,63,124,41]:=by
 have h0:=h [];have hs:=wu hb (x++[]);rw[h0] at hs;cases x with
 |nil=>have:=hs.2;simp at this
 |cons c r=>
  refine#[c,r,rfl,λhc=>?_];have e1:cL [40] (c::r++[])=ϑ:=(by decide:∀c∈[42,43,63,124,41],[40].contains c=ϑ) c hc;have e2:cL [91] (c::r++[])=ϑ:=(by decide:∀c∈[42,43,63,124,41],[91].contains c=ϑ) c hc;have e3:cL [46] (c::r++[])=ϑ:=(by decide:∀c∈[42,43,63,124,41],[46].contains c=ϑ) c hc;have e4:cL [92] (c::r++[])=ϑ:=(by decide:∀c∈[42,43,63,124,41],[92].contains c=ϑ) c hc;unfold sG at h0;rw[e1,e2,e3] at h0;dsimp[av,if_false] at h0;rw[B4 e4] at h0;have e5:eG (eF MO) (c::r++[])= .error (c::r++[]):=by
   have hn:(eF MO).contains c=ϑ:=by
    have:c∈MO:=(by decide:∀c∈[42,43,63,124,41],c∈MO) c hc;unfold eF;dsimp[List.contains_eq_mem,decide_eq_false_iff_not];intro q;have:=(fA.mp q).2
    simp_all
   show(if (eF MO).contains c=ζ then _ else _)=_
   rw[if_neg (by rw[hn];simp)]
   rfl
  rw[e5] at h0;cases h0
def B8(hb:oT br)(h:wz br x t):∃c r,x=c::r/\c∉[42,43,63,124,41]:=by
 let#[a,ta,ms,rfl,ha,hm,rfl]:=h;let#[c,r,rfl,hc]:=Hk hb ha;exact#[c,r++ms,rfl,hc]
inductive sH(br:Option (List Nat->PR U)):List Nat->List U->Prop
 |nil:sH br [] []
 |cons{x y:List Nat}{t:U}{ts:List U}:wz br x t->sH br y ts->sH br (x++y) (t::ts)
def uD(hb:oT br)(h:sH br y ts)(hr:jN rest=ζ):cL [42,43,63] (y++rest)=ϑ:=by
 cases h with
 |nil=>
  cases rest with
  |nil=>rfl
  |cons c r=>
   have:[124,41].contains c=ζ:=by simpa[jN,cL] using hr
   show [42,43,63].contains c=ϑ
   simp at this ⊢;omega
 |cons a b=>
  let#[c,r,rfl,hc]:=B8 hb a;show [42,43,63].contains c=ϑ;simp at hc ⊢;omega
def yF(hb:oT br)(hr:jN rest=ζ):∀{y:List Nat}{ts:List U},sH br y ts->∀(n:Nat)(acc:List U),y.length<n->dM jN (jM br) n acc (y++rest)= .ok (acc++ts,rest)
 |_,_,.nil,n,acc,hn=>by
  cases n with
  |zero=>omega
  |succ n=>rw[dM,jz,if_pos hr,cz]
 |_,_,.cons (x:=x) (y:=y) (t:=t) (ts:=ts) a b,n,acc,hn=>by
  let#[c,r,rfl,hc]:=B8 hb a;cases n with
  |zero=>omega
  |succ n=>
   have hs:jN (c::r++y++rest)=ϑ:=by
    unfold jN;have:[124,41].contains c=ϑ:=by simp at hc ⊢;omega
    show(ϑ||[124,41].contains c)=ϑ
    rw[this];rfl
   rw[dM,if_neg (by rw[hs];simp),bR,KA a (uD hb b hr)]
   dsimp[bindR];rw[yF hb hr b n (acc++[t]) (by simp at hn;omega),bR]
   rfl
abbrev wA(br:Option (List Nat->PR U))(x:List Nat)(t:U):Prop:=∃ts,ts≠[]/\sH br x ts/\t=qg Eb ts
def KC(hb:oT br)(h:wA br x t)(hr:jN rest=ζ):xC br (x++rest)= .ok (t,rest):=by
 let#[ts,hn,h,rfl]:=h;cases h with
 |nil=>erw[absurd rfl hn]
 |@cons x y t ts a b=>
  unfold xC;rw[bR,KA a (uD hb b hr)]
  dsimp[bindR];rw[yF hb hr b _ [t] ((·))]
  rfl
inductive wB(br:Option (List Nat->PR U)):List Nat->List U->Prop
 |nil:wB br [] []
 |cons{x y:List Nat}{t:U}{ts:List U}:wA br x t->wB br y ts->wB br (124::x++y) (t::ts)
abbrev Hl(br:Option (List Nat->PR U))(x:List Nat)(t:U):Prop:=∃a b t0 ts,x=a++b/\wA br a t0/\wB br b ts/\t=qg UH (t0::ts)
abbrev KD(rest:List Nat):Prop:=rest=[]\/∃r,rest=41::r
def yG(h:wB br y ts)(hr:KD rest):jN (y++rest)=ζ:=by
 cases h with
 |nil=>rcases hr with rfl|⟨r,rfl⟩<;>rfl
 |cons a b=>rfl
def yH(hb:oT br)(hr:KD rest):∀{y:List Nat}{ts:List U},wB br y ts->∀(n:Nat)(acc:List U),y.length<n->dM stopOr (SF br) n acc (y++rest)= .ok (acc++ts,rest)
 |_,_,.nil,n,acc,hn=>by
  have e:stopOr rest=ζ:=by rcases hr with rfl|⟨r,rfl⟩<;>rfl
  cases n with
  |zero=>omega
  |succ n=>rw[dM,jz,if_pos e,cz]
 |_,_,.cons (x:=x) (y:=y) (t:=t) (ts:=ts) a b,n,acc,hn=>by
  cases n with
  |zero=>omega
  |succ n=>
   have e:SF br (124::x++y++rest)= .ok (t,y++rest):=by
    unfold SF;have:eG [124] (124::x++y++rest)= .ok (124,x++(y++rest)):=by
     rw[bR];rfl
    rw[this]
    dsimp[bindR];erw[KC hb a (yG b hr)]
   rw[dM,if_neg (by simp[stopOr,cL]),e]
   dsimp[bindR];rw[yH hb hr b n (acc++[t]) (by simp at hn;omega),bR]
   rfl
def yI(hb:oT br)(h:Hl br x t)(hr:KD rest):iI br (x++rest)= .ok (t,rest):=by
 let#[a,b,t0,ts,rfl,ha,hb',rfl]:=h;unfold iI;rw[bR,KC hb ha (yG hb' hr)]
 dsimp[bindR];rw[yH hb hr hb' _ [t0] ((·))]
 rfl
def Fu(h:Hl (uC k) x t):wy (uC (k+1)) (40::(x++[41])) t:=by
 intro rest;unfold sG;rw[if_pos (by rfl)]
 unfold UI uC;show bindR (eG [40] (40::(x++[41]++rest))) _=_;have e1:eG [40] (40::(x++[41]++rest))= .ok (40,x++(41::rest)):=by
  rw[bR];rfl
 rw[e1]
 dsimp[bindR];rw[yI (tX k) h (.inr #[rest,rfl])]
 rfl
def OA(h:Hl (uC 6) x t):wq x=.ok (t,[]):=by
 unfold wq;have:=yI (tX 6) h (rest:=[]) (.inl rfl);rw[cz] at this;rw[this]
 rfl
end PL
namespace PL.nq
inductive Mk where|star|plus|may
inductive Tr where|one (n:Nat) (l:List Nat)|row (a b:Tr)|or (a b:Tr)|rep (m:Mk) (a:Tr)
noncomputable section
abbrev null:Tr->Bool
 |.one _ _=>ϑ
 |.row a b=>null a&&null b
 |.or a b=>null a||null b
 |.rep .plus a=>null a
 |.rep _ _=>ζ
abbrev eU(K:List Tr):Bool:=K.all null
abbrev FS:Tr->Nat->Bool
 |.one n _,p=>p==n
 |.row a b,p=>FS a p||(null a&&FS b p)
 |.or a b,p=>FS a p||FS b p
 |.rep _ a,p=>FS a p
abbrev oN:List Tr->Nat->Bool
 |[],_=>ϑ
 |t::K,p=>FS t p||(null t&&oN K p)
abbrev IN:Tr->Nat->Bool
 |.one n _,p=>p==n
 |.row a b,p=>IN a p||IN b p
 |.or a b,p=>IN a p||IN b p
 |.rep _ a,p=>IN a p
abbrev sgn:Tr->Nat->List Nat
 |.one _ l,_=>l
 |.row a b,p=>if IN a p then sgn a p else sgn b p
 |.or a b,p=>if IN a p then sgn a p else sgn b p
 |.rep _ a,p=>sgn a p
abbrev more:Mk->Tr->List Tr
 |.may,_=>[]
 |_,a=>[.rep .star a]
abbrev cont:Tr->Nat->List Tr
 |.one _ _,_=>[]
 |.row a b,p=>if IN a p then cont a p++[b] else cont b p
 |.or a b,p=>if IN a p then cont a p else cont b p
 |.rep m a,p=>cont a p++more m a
abbrev ct(t:Tr)(p:Nat):List Tr:=if p=0 then [t] else cont t p
abbrev dF:Tr->Nat->List (List Tr)
 |.one _ l,c=>if l.contains c then [[]] else []
 |.or a b,c=>dF a c++dF b c
 |.row a b,c=>(dF a c).map (·++[b])++if null a then dF b c else []
 |.rep m a,c=>(dF a c).map (·++more m a)
abbrev dR:List Tr->Nat->List (List Tr)
 |[],_=>[]
 |t::K,c=>(dF t c).map (·++K)++if null t then dR K c else []
abbrev size:Tr->Nat
 |.one _ _=>1
 |.row a b=>size a+size b
 |.or a b=>size a+size b
 |.rep _ a=>size a
abbrev bP:Tr->Nat
 |.one _ _=>0
 |.row a b=>max (bP a) (bP b)+1
 |.or a b=>max (bP a) (bP b)+1
 |.rep _ a=>bP a+1
abbrev oO:Nat->Tr->Prop
 |n,.one k _=>k=n
 |n,.row a b=>oO n a/\oO (n+size a) b
 |n,.or a b=>oO n a/\oO (n+size a) b
 |n,.rep _ a=>oO n a
abbrev nA:Tr->List (List Nat)
 |.one _ l=>[l]
 |.row a b=>nA a++nA b
 |.or a b=>nA a++nA b
 |.rep _ a=>nA a
end
def gv:∀t,(nA t).length=size t
 |.one _ _=>rfl
 |.row a b=>by simp[nA,size,gv a,gv b]
 |.or a b=>by simp[nA,size,gv a,gv b]
 |.rep _ a=>by simp[nA,size,gv a]
def fG:∀{t n p},oO n t->(IN t p=ζ↔n<=p/\p<n+size t)
 |.one k l,n,p,h=>by
  have h:k=n:=h;subst h;dsimp[IN,size,beq_iff_eq];omega
 |.row a b,n,p,h=>by
  dsimp[IN,size,bw,fG h.1,fG h.2];omega
 |.or a b,n,p,h=>by
  dsimp[IN,size,bw,fG h.1,fG h.2];omega
 |.rep m a,n,p,h=>fG (t:=a) h
def rf:∀{t n p},oO n t->IN t p=ζ->(nA t)[p-n]?=ξ (sgn t p)
 |.one k l,n,p,h,i=>by
  have h:k=n:=h;subst h;have:p=k:=by simpa[IN] using i
  simp[this,nA,sgn]
 |.row a b,n,p,h,i=>by
  have e1:=fG (p:=p) h.1;have e2:=fG (p:=p) h.2;have l1:=gv a;dsimp[nA,sgn];by_cases z:IN a p=ζ
  .rw[if_pos z,ah (by have:=e1.mp z;omega)];erw[rf h.1 z]
  .have z2:IN b p=ζ:=by simpa[IN,z] using i
   have:=e2.mp z2;rw[if_neg z,aA ∅,<-rf h.2 z2]
   congr 1;omega
 |.or a b,n,p,h,i=>by
  have e1:=fG (p:=p) h.1;have e2:=fG (p:=p) h.2;have l1:=gv a;dsimp[nA,sgn];by_cases z:IN a p=ζ
  .rw[if_pos z,ah (by have:=e1.mp z;omega)];erw[rf h.1 z]
  .have z2:IN b p=ζ:=by simpa[IN,z] using i
   have:=e2.mp z2;rw[if_neg z,aA ∅,<-rf h.2 z2]
   congr 1;omega
 |.rep m a,n,p,h,i=>rf (t:=a) h i
def gC(h:oO n a/\oO (n+size a) b)(i:IN b p=ζ):¬IN a p=ζ:=λz=>by
 have:=(fG h.1).mp z;have:=(fG h.2).mp i;omega
def jP:∀{t p},FS t p=ζ->IN t p=ζ
 |.one k l,p,h=>h
 |.row a b,p,h=>by
  dsimp[FS,bw,ak] at h;dsimp[IN,bw];erw[h.imp jP λz=>jP z.2]
 |.or a b,p,h=>by
  dsimp[FS,bw] at h;dsimp[IN,bw];erw[h.imp jP jP]
 |.rep m a,p,h=>jP (t:=a) h
def mG:∀{K L:List Tr}{p:Nat},oN (K++L) p=(oN K p||(eU K&&oN L p))
 |[],L,p=>by simp[oN,eU]
 |t::K,L,p=>by
  dsimp[iX,oN,mG,eU,bS];cases null t<;>cases FS t p<;>simp
def Ee:∀{K L:List Tr}{c:Nat},dR (K++L) c=(dR K c).map (·++L)++if eU K then dR L c else []
 |[],L,c=>by simp[dR,eU]
 |t::K,L,c=>by
  dsimp[iX,dR,Ee,eU,bS];by_cases z:null t=ζ<;>simp[z,eU,aF,dH]
def wC:eU (K++L)=(eU K&&eU L):=by simp[eU]
def KG:oN (more m a) p=ζ->FS a p=ζ:=by
 cases m<;>simp[more,oN,FS]
def fO:∀{t q p},oN (cont t q) p=ζ->IN t p=ζ
 |.one k l,q,p,h=>by simp[cont,oN] at h
 |.row a b,q,p,h=>by
  dsimp[cont] at h;dsimp[IN,bw];split at h
  .rw[mG] at h
   dsimp[bw,ak] at h;rcases h with h|⟨_,h⟩
   .erw[.inl (fO h)]
   .exact .inr (jP (by simpa[oN] using h))
  .erw[.inr (fO h)]
 |.or a b,q,p,h=>by
  dsimp[cont] at h;dsimp[IN,bw];split at h
  .erw[.inl (fO h)]
  .erw[.inr (fO h)]
 |.rep m a,q,p,h=>by
  dsimp[cont] at h;rw[mG] at h;dsimp[bw,ak] at h;rcases h with h|⟨_,h⟩
  .erw[fO (t:=a) h]
  .erw[jP (t:=a) (KG h)]
def ji:∀{t n c x},oO n t->(x∈dF t c↔∃p,FS t p=ζ/\c∈sgn t p/\x=cont t p)
 |.one k l,n,c,x,h=>by
  dsimp[dF,FS,sgn,cont,beq_iff_eq];by_cases z:c∈l
  .simp[z]
  .simp[z]
 |.row a b,n,c,x,h=>by
  dsimp[dF,aJ,bx,FS,bw,ak];constructor
  .rintro(⟨y,hy,rfl⟩|hy)
   .let#[p,h1,h2,rfl]:=(ji h.1).mp hy
    have i:=jP h1;exact#[p,.inl h1,by dsimp[sgn,if_pos i];erw[h2],by dsimp[cont,if_pos i]]
   .split at hy
    .rename_i z
     let#[p,h1,h2,rfl]:=(ji h.2).mp hy;have i:=gC h (jP h1);exact#[p,.inr #[z,h1],by dsimp[sgn,if_neg i];erw[h2],by dsimp[cont,if_neg i]]
    .simp at hy
  .rintro⟨p,h1|⟨z,h1⟩,h2,rfl⟩
   .have i:=jP h1
    dsimp[sgn,if_pos i] at h2;erw[.inl #[_,(ji h.1).mpr #[p,h1,h2,rfl],by dsimp[cont,if_pos i]]]
   .have i:=gC h (jP h1)
    dsimp[sgn,if_neg i] at h2;rw[if_pos z]
    erw[.inr ((ji h.2).mpr #[p,h1,h2,by dsimp[cont,if_neg i]])]
 |.or a b,n,c,x,h=>by
  dsimp[dF,aJ,FS,bw];constructor
  .rintro(hy|hy)
   .let#[p,h1,h2,rfl]:=(ji h.1).mp hy
    have i:=jP h1;exact#[p,.inl h1,by dsimp[sgn,if_pos i];erw[h2],by dsimp[cont,if_pos i]]
   .let#[p,h1,h2,rfl]:=(ji h.2).mp hy
    have i:=gC h (jP h1);exact#[p,.inr h1,by dsimp[sgn,if_neg i];erw[h2],by dsimp[cont,if_neg i]]
  .rintro⟨p,h1|h1,h2,rfl⟩
   .have i:=jP h1
    dsimp[sgn,if_pos i] at h2;erw[.inl ((ji h.1).mpr #[p,h1,h2,by dsimp[cont,if_pos i]])]
   .have i:=gC h (jP h1)
    dsimp[sgn,if_neg i] at h2;erw[.inr ((ji h.2).mpr #[p,h1,h2,by dsimp[cont,if_neg i]])]
 |.rep m a,n,c,x,h=>by
  dsimp[dF,bx,FS,sgn,cont];constructor
  .rintro⟨y,hy,rfl⟩
   let#[p,h1,h2,rfl]:=(ji (t:=a) h).mp hy;exact#[p,h1,h2,rfl]
  .rintro⟨p,h1,h2,rfl⟩
   exact#[_,(ji (t:=a) h).mpr #[p,h1,h2,rfl],rfl]
def Aa:dR [t] c=dF t c:=by simp[dR]
def pG:∀{t n c x q},oO n t->(x∈dR (cont t q) c↔∃p,oN (cont t q) p=ζ/\c∈sgn t p/\x=cont t p)
 |.one k l,n,c,x,q,h=>by simp[cont,dR,oN]
 |.row a b,n,c,x,q,h=>by
  by_cases z:IN a q=ζ
  .have e:cont (.row a b) q=cont a q++[b]:=by dsimp[cont,if_pos z]
   rw[e,Ee,Aa]
   dsimp[mG,aJ,bx,bw,ak];constructor
   .rintro(⟨y,hy,rfl⟩|hy)
    .let#[p,h1,h2,rfl]:=(pG h.1).mp hy
     have i:=fO h1;exact#[p,.inl h1,by dsimp[sgn,if_pos i];erw[h2],by dsimp[cont,if_pos i]]
    .split at hy
     .rename_i z
      let#[p,h1,h2,rfl]:=(ji h.2).mp hy;have i:=gC h (jP h1);exact#[p,.inr #[z,by simp[oN,h1]],by dsimp[sgn,if_neg i];erw[h2],by dsimp[cont,if_neg i]]
     .simp at hy
   .rintro⟨p,h1|⟨z,h1⟩,h2,rfl⟩
    .have i:=fO h1
     dsimp[sgn,if_pos i] at h2;erw[.inl #[_,(pG h.1).mpr #[p,h1,h2,rfl],by dsimp[cont,if_pos i]]]
    .have h1:FS b p=ζ:=by simpa[oN] using h1
     have i:=gC h (jP h1);dsimp[sgn,if_neg i] at h2;rw[if_pos z]
     erw[.inr ((ji h.2).mpr #[p,h1,h2,by dsimp[cont,if_neg i]])]
  .have e:cont (.row a b) q=cont b q:=by dsimp[cont,if_neg z]
   rw[e,pG h.2]
   constructor
   .rintro⟨p,h1,h2,rfl⟩
    have i:=gC h (fO h1);exact#[p,h1,by dsimp[sgn,if_neg i];erw[h2],by dsimp[cont,if_neg i]]
   .rintro⟨p,h1,h2,rfl⟩
    have i:=gC h (fO h1);dsimp[sgn,if_neg i] at h2;exact#[p,h1,h2,by dsimp[cont,if_neg i]]
 |.or a b,n,c,x,q,h=>by
  by_cases z:IN a q=ζ
  .have e:cont (.or a b) q=cont a q:=by dsimp[cont,if_pos z]
   rw[e,pG h.1]
   constructor
   .rintro⟨p,h1,h2,rfl⟩
    have i:=fO h1;exact#[p,h1,by dsimp[sgn,if_pos i];erw[h2],by dsimp[cont,if_pos i]]
   .rintro⟨p,h1,h2,rfl⟩
    have i:=fO h1;dsimp[sgn,if_pos i] at h2;exact#[p,h1,h2,by dsimp[cont,if_pos i]]
  .have e:cont (.or a b) q=cont b q:=by dsimp[cont,if_neg z]
   rw[e,pG h.2]
   constructor
   .rintro⟨p,h1,h2,rfl⟩
    have i:=gC h (fO h1);exact#[p,h1,by dsimp[sgn,if_neg i];erw[h2],by dsimp[cont,if_neg i]]
   .rintro⟨p,h1,h2,rfl⟩
    have i:=gC h (fO h1);dsimp[sgn,if_neg i] at h2;exact#[p,h1,h2,by dsimp[cont,if_neg i]]
 |.rep m a,n,c,x,q,h=>by
  have hm:x∈dR (more m a) c↔∃p,oN (more m a) p=ζ/\c∈sgn a p/\x=cont (.rep m a) p:=by
   cases m with
   |may=>simp[more,dR,oN]
   |star=>
    show x∈dR [.rep .star a] c↔_
    rw[Aa,ji (t:=.rep .star a) h]
    simp[more,oN,FS,sgn]
   |plus=>
    show x∈dR [.rep .star a] c↔_
    rw[Aa,ji (t:=.rep .star a) h]
    simp[more,oN,FS,sgn,cont]
  dsimp[cont,Ee,mG,aJ,bx,bw,ak,sgn];constructor
  .rintro(⟨y,hy,rfl⟩|hy)
   .let#[p,h1,h2,rfl]:=(pG (t:=a) h).mp hy
    exact#[p,.inl h1,h2,rfl]
   .split at hy
    .rename_i z
     let#[p,h1,h2,rfl]:=hm.mp hy;exact#[p,.inr #[z,h1],h2,rfl]
    .simp at hy
  .rintro⟨p,h1|⟨z,h1⟩,h2,rfl⟩
   .erw[.inl #[_,(pG (t:=a) h).mpr #[p,h1,h2,rfl],rfl]]
   .rw[if_pos z]
    erw[.inr (hm.mpr #[p,h1,h2,rfl])]
abbrev oF:Mk->List Nat
 |.star=>lO
 |.plus=>pF
 |.may=>kT
abbrev enc:Tr->U
 |.one _ l=>.tup [.str Oo,.str l]
 |.row a b=>.tup [.str Eb,.tup [enc a,enc b]]
 |.or a b=>.tup [.str UH,.tup [enc a,enc b]]
 |.rep m a=>.tup [.str (oF m),enc a]
abbrev cU(K:List Tr):U:=.tup (K.map enc)
abbrev OB(K:List Tr):U:=.tup [.str Eb,cU K]
def yJ(h:oN (ct t q) p=ζ):IN t p=ζ:=by
 unfold ct at h;split at h
 .dsimp[oN,bw,ak,av,and_false,or_false] at h
  erw[jP h]
 .erw[fO h]
def Ab(h:oO n t)(n0:0<n)(i:IN t p=ζ):p≠0:=by
 have:=(fG h).mp i;omega
def KH(h:oO n t)(n0:0<n):x∈dR (ct t q) c↔∃p,oN (ct t q) p=ζ/\c∈sgn t p/\x=ct t p:=by
 have key:∀p,oN (ct t q) p=ζ->ct t p=cont t p:=λp hp=>by
  unfold ct;rw[if_neg (Ab h n0 (yJ hp))]
 have e:x∈dR (ct t q) c↔∃p,oN (ct t q) p=ζ/\c∈sgn t p/\x=cont t p:=by
  unfold ct;split
  .rw[Aa,ji h]
   simp[oN]
  .erw[pG h]
 rw[e]
 constructor
 .rintro⟨p,h1,h2,h3⟩;exact#[p,h1,h2,h3.trans (key p h1).symm]
 .rintro⟨p,h1,h2,h3⟩;exact#[p,h1,h2,h3.trans (key p h1)]
abbrev Wy(t:Tr)(c:Nat)(H:Nat->Prop):Nat->Prop:=λp=>∃q,H q/\oN (ct t q) p=ζ/\c∈sgn t p
abbrev hs(t:Tr)(w:List Nat):Nat->Prop:=w.foldl (λH c=>Wy t c H) (λp=>p=0)
abbrev En(t:Tr)(H:Nat->Prop):Prop:=∃p,H p/\eU (ct t p)=ζ
def qh:hs t (w++[c])=Wy t c (hs t w):=by unfold hs;rw[hU];rfl
def Wz(h:hs t w p):p=0\/IN t p=ζ:=by
 by_cases z:w=[]
 .subst z;erw[.inl h]
 .rw[<-List.dropLast_concat_getLast z,qh] at h
  let#[q,_,h,_]:=h;erw[.inr (yJ h)]
def take_snoc{w:List Nat}{k c:Nat}(h:w[k]?=ξ c):w.take (k+1)=w.take k++[c]:=by
 rw[ie,h];rfl
abbrev L5(t:Tr)(H:Nat->Prop)(X:List U):Prop:=(∀x,x∈X↔∃p,H p/\x=cU (ct t p))/\X.Nodup
def yK(t:Tr):L5 t (hs t []) [cU [t]]:=by
 refine#[λx=>?_,#v[]];dsimp[hs,qB,aX,exists_eq_left]
 rfl
section
variable{S:bH}{Q:KU}{a b p:Nat}
def DJ:k5 .bor (.int (a:Nat)) (.int (b:Nat)) S Q=Q (.int ((a|||b:Nat):Int)) S:=by
 rw[Rl,eq_true (show(0:Int)<=a/\(0:Int)<=b from #[∅,∅]),true_and];rfl
def u7:k5 .band (.int (a:Nat)) (.int (b:Nat)) S Q=Q (.int ((a&&&b:Nat):Int)) S:=by
 rw[Nq,eq_true (show(0:Int)<=a/\(0:Int)<=b from #[∅,∅]),true_and];rfl
def YK:k5 .band (.int (a:Nat)) (.int 1) S Q=Q (.int ((a&&&1:Nat):Int)) S:=u7 (b:=1)
def SM:k5 .shl (.int 1) (.int (p:Nat)) S Q=(p<=1000/\Q (.int ((1<<<p:Nat):Int)) S):=by
 rw[Rm]
 have e:(1:Int)*(2:Int)^((p:Int).toNat)=((1<<<p:Nat):Int):=by
  rw[uJ];simp
 rw[e]
 erw[propext #[λh=>#[∅,h.2],λh=>#[∅,h.2]]]
def aaV:k5 .shr (.int (a:Nat)) (.int (p:Nat)) S Q=Q (.int ((a>>>p:Nat):Int)) S:=by
 rw[Rn,eq_true (show(0:Int)<=a/\(0:Int)<=p from #[∅,∅]),true_and]
 have e:(a:Int)/(2:Int)^((p:Int).toNat)=((a>>>p:Nat):Int):=by
  rw[Nat.shiftRight_eq_div_pow];simp
 rw[e]
def ace:tQ .sum [.loc n] S Q=(∃is:List Int,S[n]?=ξ (.lst (is.map .int))/\Q (.int is.sum) S):=rfl
end
def WA:(((a>>>p&&&1:Nat):Int) !=0)=a.testBit p:=by
 unfold Nat.testBit;rw[Nat.and_comm]
 by_cases h:1&&&a>>>p=0
 .simp[h]
 .have:¬(((1&&&a>>>p:Nat):Int)=0):=∅
  rw[bne_iff_ne.mpr this,bne_iff_ne.mpr h]
def Ac{a:Nat}:((a:Int) !=0)=ζ↔∃p,a.testBit p=ζ:=by
 constructor
 .intro h
  have:a≠0:=by
   have:=bne_iff_ne.mp h;omega
  erw[wY this]
 .rintro⟨p,h⟩
  rwa[bne_iff_ne.mpr λz=>?_]
  have:a=0:=∅
  subst this;simp at h
def SN(h:b.testBit p=ζ):p<uA b:=by
 have g:=Nat.ge_two_pow_of_testBit h;have b0:b≠0:=by
  have:0<2^p:=Nat.two_pow_pos p;omega
 unfold uA;rw[if_neg b0]
 have:=(Nat.le_log2 b0).mpr g;omega
def bits_le(h:b<2^n):uA b<=n:=by
 unfold uA;split
 .omega
 .rename_i z
  have:=(Nat.log2_lt z).mpr h;omega
def kg(h:∀p,b.testBit p=ζ->p<n):b<2^n:=Mi λz=>by
 let#[i,hi,ti]:=Nat.exists_ge_and_testBit_of_ge_two_pow z;have:=h i ti;omega
abbrev Ef(b:Nat):List Nat:=(bO (uA b)).filter b.testBit
def lP:p∈Ef b↔b.testBit p=ζ:=by
 unfold Ef;rw[fA,iJ]
 exact#[λh=>h.2,λh=>#[SN h,h]]
noncomputable abbrev aU(n:Nat):U:=.int (n:Nat)
def d8{g:bH->Prop}{c:U->bH->(Bool->bH->Prop)->Prop}{e:U->bH->KU->Prop}{Q:List U->bH->Prop}(l:List U)(I:Nat->List U->bH->Prop)(hg:∀i acc S,i<=l.length->I i acc S->g S/\acc.length<1000000)
  (h:∀i u acc S(k:List U->bH->Prop),l[i]?=ξ u->I i acc S->(∀acc' S',I (i+1) acc' S'->k acc' S')->c u S λb S1=>if b=ζ then e u S1 λv S2=>k (acc++[v]) S2 else k acc S1) (hf:∀acc S,I l.length acc S->Q acc S){S:bH} (h0:I 0 [] S):oM g c e Q l [] S:=by
 have key:∀n i acc S,i+n=l.length->I i acc S->oM g c e Q (l.drop i) acc S:=by
  intro n;induction n with
  |zero=>
   intro i acc S e hi;rw[j6 ∅]
   have ei:i=l.length:=∅
   subst ei;exact#[(hg _ _ _ (ao _) hi).1,(hg _ _ _ (ao _) hi).2,hf _ _ hi]
  |succ n ih=>
   intro i acc S e hi;have hl:i<l.length:=∅
   rw[fw hl]
   exact#[(hg _ _ _ ∅ hi).1,(hg _ _ _ ∅ hi).2,h i _ acc S _ (aa hl) hi λacc' S' h'=>ih (i+1) acc' S' ∅ h']
 erw[key l.length 0 [] S ∅ h0]
def yL{g:bH->Prop}{c:U->bH->(Bool->bH->Prop)->Prop}{e:U->bH->KU->Prop}{Q:List U->bH->Prop}{S:bH}(l:List U)(p:U->Bool)(f:U->U)(hg:g S)(hl:l.length<1000000)
  (h:∀u k,u∈l->((p u=ζ->k ζ S)/\(p u=ϑ->k ϑ S)->c u S k)) (he:∀u k,u∈l->p u=ζ->k (f u) S->e u S k) (q:Q ((l.filter p).map f) S):oM g c e Q l [] S:=by
 rwa[d8 l (λi acc S'=>S'=S/\acc=((l.take i).filter p).map f) (λi acc S' hi h=>#[h.1▸hg,?_]) (λi u acc S' k hu hi hk=>?_) (λacc S' h=>?_) #[rfl,rfl]]
 .rw[h.2,ae]
  have:=pO p (l.take i);rw[dD] at this;omega
 .let#[rfl,rfl]:=hi
  have hm:=ag hu;have et:l.take (i+1)=l.take i++[u]:=by rw[ie,hu];rfl
  rwa[h u _ hm #[λz=>?_,λz=>?_]]
  .rw[if_pos rfl]
   erw[he u _ hm z (hk _ _ #[rfl,by rw[et,sY,aF,List.filter_cons_of_pos z];rfl])]
  .rw[if_neg (#v[])]
   erw[hk _ _ #[rfl,by rw[et,sY,List.filter_cons_of_neg (by simp[z])];simp]]
 .let#[rfl,rfl]:=h
  rw[bX];erw[q]
def dW{α β:Type}{l:List α}{f:α->β}{i:Nat}{u:β}(h:(l.map f)[i]?=ξ u):∃a,l[i]?=ξ a/\f a=u:=by
 rw[ar] at h;erw[au.mp h]
def HQ{α:Type}{l:List α}{i:Nat}{a:α}(h:l[i]?=ξ a):l.take (i+1)=l.take i++[a]:=by rw[ie,h];rfl
def _root_.Lake.PL.Ext.st{S S':bH}{n:Nat}{o:SO}(x:Ext S S')(h:S.length<=n):Ext S (S'.set n o):=
 #[%[cK|x.1],λk hk=>%[aj (dJ (aD hk h))|x.2 k hk]]
end PL.nq
open PL.nq
namespace PL.nq
abbrev B9:Spec:=λus S Q=>∃b:Nat,us=[aU b]/\b<2^100/\∀n S',Ext S S'->S.length<=n->S'[n]?=ξ (.lst ((Ef b).map aU))->Q (.loc n) S'
def SQ(Γ:cb):Keeps Γ qc 0 B9:=by
 rintro us S Q ⟨b,rfl,hb,q⟩;unfold qc;room;have hl:=bits_le hb;refine#[∅,∅,∅,?_];refine yL (S:=S) _ (λu=>match u with|.int i=>b.testBit i.toNat|_=>ϑ) id trivial ((·)) (λu k hu h=>?_) (λu k _ _ h=>h) ?_
 .let#[p,_,rfl]:=bx.mp hu
  room;rw[WA]
  cases z:b.testBit p with
  |true=>erw[h.1 z]
  |false=>erw[h.2 z]
 .rwa[q _ _ (Ext.app _) (ao _) ?_]
  have:((bO (uA b)).map λk=>U.int (k:Nat)).filter (λu=>match u with|.int i=>b.testBit i.toNat|_=>ϑ)=(Ef b).map aU:=by
   rw[List.filter_map];rfl
  rw[List.map_id,this];simp
abbrev L6(e:Bool)(F Z:Nat):SO:=.ins "Part" [("empty",.bl e),("firsts",aU F),("lasts",aU Z)]
section
variable{S:bH}{p F Z:Nat}{e:Bool}{r:U->Prop}(h:S[p]?=ξ (L6 e F Z))
include h
def Hm:pC (.loc p) "empty" S r=r (.bl e):=by rw[jt,h];rfl
def Ca:pC (.loc p) "firsts" S r=r (aU F):=by rw[jt,h];rfl
def Cb:pC (.loc p) "lasts" S r=r (aU Z):=by rw[jt,h];rfl
end
abbrev Ad:Spec:=λus S Q=>∃p e F Z,us=[.loc p,.bl e,aU F,aU Z]/\S[p]?=ξ (.ins "Part" [])/\Q .b7 (S.set p (L6 e F Z))
def WB(Γ:cb):Keeps Γ mC 0 Ad:=by
 rintro us S Q ⟨p,e,F,Z,rfl,h,q⟩;unfold mC;room;rw[h]
 dsimp[b8];refine#[#v[],?_];have g1:=gs (o':=SO.ins "Part" (iF "empty" (U.bl e) [])) h;room;rw[g1]
 dsimp[b8];refine#[by simp[iF],?_];have g2:=gs (o':=SO.ins "Part" (iF "firsts" (aU F) (iF "empty" (U.bl e) []))) g1;room;rw[g2]
 dsimp[b8];refine#[by simp[iF],?_];room;rw[uh,uh]
 erw[q]
def qH{Γ:cb}(h1:Γ "Part.__init__"=Ad){e:Bool}{F Z:Nat}{S:bH}{R:KU}(q:∀S',Ext S S'->S'[S.length]?=ξ (L6 e F Z)->R .b7 S'):
  Γ "Part.__init__" [.loc S.length,.bl e,aU F,aU Z] (S++[.ins "Part" []]) R:=by
 have g:(S++[SO.ins "Part" []])[S.length]?=ξ (.ins "Part" []):=by simp
 rwa[ca h1 #[S.length,e,F,Z,rfl,g,q _ #[#v[],λn hn=>?_] (gs g)]];rw[aj ∅,ah hn]
abbrev rg(f:Bool->Nat->Nat->Bool->Nat->Nat->Bool×Nat×Nat):Spec:=λus S Q=>∃p1 e1 F1 Z1 p2 e2 F2 Z2,us=[.loc p1,.loc p2]/\S[p1]?=ξ (L6 e1 F1 Z1)/\S[p2]?=ξ (L6 e2 F2 Z2) /\
 ∀S',Ext S S'->S'[S.length]?=ξ (L6 (f e1 F1 Z1 e2 F2 Z2).1 (f e1 F1 Z1 e2 F2 Z2).2.1 (f e1 F1 Z1 e2 F2 Z2).2.2)->Q (.loc S.length) S'
abbrev t4(e1:Bool)(F1 Z1:Nat)(e2:Bool)(F2 Z2:Nat):Bool×Nat×Nat:=(e1&&e2,if e1 then F1|||F2 else F1,if e2 then Z1|||Z2 else Z2)
abbrev WC(e1:Bool)(F1 Z1:Nat)(e2:Bool)(F2 Z2:Nat):Bool×Nat×Nat:=(e1||e2,F1|||F2,Z1|||Z2)
def SR(Γ:cb)(h1:Γ "Part.__init__"=Ad):Keeps Γ gf 2 (rg t4):=by
 rintro us S Q ⟨p1,e1,F1,Z1,p2,e2,F2,Z2,rfl,g1,g2,q⟩;unfold gf;room;cases e1<;>cases e2<;>(repeat first|room|dsimp[Hm g1,Hm g2,Ca g1,Ca g2,Cb g1,Cb g2])
 .erw[qH h1 λS' x g=>#[rfl,q S' x g]]
 .erw[qH h1 λS' x g=>#[rfl,q S' x g]]
 .erw[qH h1 λS' x g=>#[rfl,q S' x g]]
 .erw[qH h1 λS' x g=>#[rfl,q S' x g]]
def WD(Γ:cb)(h1:Γ "Part.__init__"=Ad):Keeps Γ jI 0 (rg WC):=by
 rintro us S Q ⟨p1,e1,F1,Z1,p2,e2,F2,Z2,rfl,g1,g2,q⟩;unfold jI;cases e1<;>(repeat first|room|dsimp[Hm g1,Hm g2,Ca g1,Ca g2,Cb g1,Cb g2])
 .erw[qH h1 λS' x g=>#[rfl,q S' x g]]
 .erw[qH h1 λS' x g=>#[rfl,q S' x g]]
structure sI(S:bH)(L:Nat)(sg:List (List Nat))(bh en:List Nat):Prop where
 o:S[L]?=ξ (.ins "Layout" [("signs",.loc (L+1)),("behind",.loc (L+2)),("ends",.loc (L+3))])
 s:S[L+1]?=ξ (.lst (sg.map .str))
 b:S[L+2]?=ξ (.lst (bh.map aU))
 e:S[L+3]?=ξ (.lst (en.map aU))
abbrev Fr(L:Nat)(S S':bH):Prop:=S.length<=S'.length/\∀n,n<S.length->n<=L\/L+4<=n->S'[n]?=S[n]?
section
variable{S S1 S2:bH}{L:Nat}{sg:List (List Nat)}{bh en:List Nat}{r:U->Prop}{q:KU}
def Fr.refl:Fr L S S:=#[ao _,λ_ _ _=>rfl]
def Fr.trans(a:Fr L S S1)(b:Fr L S1 S2):Fr L S S2:=#[aI a.1 b.1,λn h z=>(b.2 n (aD h a.1) z).trans (a.2 n h z)]
def Ext.fr(a:Ext S S1):Fr L S S1:=#[a.1,λn h _=>a.2 n h]
def Fr.get(a:Fr L S S1){n:Nat}{o:SO}(h:S[n]?=ξ o)(z:L+4<=n):S1[n]?=ξ o:=(a.2 n (aK h) (.inr z)).trans h
def Fr.set(a:Fr L S S1){n:Nat}{o:SO}(h1:L<n)(h2:n<L+4):Fr L S (S1.set n o):=#[%[cK|a.1],λm h z=>%[aj ∅|a.2 m h z]]
variable(h:sI S L sg bh en)
include h
def sI.ext(x:Ext S S1):sI S1 L sg bh en:=#[x.get h.o,x.get h.s,x.get h.b,x.get h.e]
def sI.len:L+4<=S.length:=aK h.e
def KI:pC (.loc L) "signs" S r=r (.loc (L+1)):=by rw[jt,h.o];rfl
def KJ:pC (.loc L) "behind" S r=r (.loc (L+2)):=by rw[jt,h.o];rfl
def SS:pC (.loc L) "ends" S r=r (.loc (L+3)):=by rw[jt,h.o];rfl
def sI.aaW:sI (S.set (L+1) (.lst (sg'.map .str))) L sg' bh en:=
 #[%[aj ∅|h.o],gs h.s,%[aj ∅|h.b],%[aj ∅|h.e]]
def sI.setB:sI (S.set (L+2) (.lst (bh'.map aU))) L sg bh' en:=
 #[%[aj ∅|h.o],%[aj ∅|h.s],gs h.b,%[aj ∅|h.e]]
def sI.aaX:sI (S.set (L+3) (.lst (en'.map aU))) L sg bh en':=
 #[%[aj ∅|h.o],%[aj ∅|h.s],%[aj ∅|h.b],gs h.e]
end
abbrev SU:Spec:=λus S Q=>∃L,us=[.loc L]/\S[L]?=ξ (.ins "Layout" [])/\S.length=L+1/\∀S',(∀n,n<L->S'[n]?=S[n]?)->sI S' L [[]] [0] []->Q .b7 S'
def WG(Γ:cb):Keeps Γ kC 0 SU:=by
 rintro us S Q ⟨L,rfl,h,hl,q⟩;unfold kC;room;refine#[#v[],?_];have g0:(S++[SO.lst [U.str []]])[L]?=ξ (.ins "Layout" []):=%[ah ∅|h]
 rw[g0]
 dsimp[b8];refine#[#v[],?_];have g1:=gs (o':=SO.ins "Layout" (iF "signs" (U.loc S.length) [])) g0;room;refine#[#v[],?_];rw[ah ((·)),g1]
 dsimp[b8];refine#[by simp[iF],?_];room;refine#[#v[],?_];rw[ah ((·)),gs (%[ah ((·))|g1])]
 dsimp[b8];refine#[by simp[iF],?_];room;rwa[q _ (λn hn=>?_) #[?_,?_,?_,?_]]
 .simp[iO,jZ,hl,dJ hn,ba hn,ba (ba hn),ba (ba (ba hn))]
 .rw[bM ((·))]
  simp[iF,hl]
 .rw[aj ∅]
  simp[iO,jZ,hl]
 .rw[aj ∅]
  simp[iO,jZ,hl]
 .rw[aj ∅]
  simp[iO,jZ,hl]
abbrev SV:Spec:=λus S Q=>∃L sg bh en,us=[.loc L]/\sI S L sg bh en/\sg.length<=1000/\Q (.int (sg.length-1:Int)) S
def WH(Γ:cb):Keeps Γ gM 0 SV:=by
 rintro us S Q ⟨L,sg,bh,en,rfl,h,hl,q⟩;unfold gM;room;rw[KI h,j8 h.s]
 dsimp[aT,ae];exact#[∅,q]
def vc{l:List Nat}{k B:Nat}{r:U->Prop}(h:l[k]?=ξ B)(z:r (aU B)):opt ((l.map aU)[k]?) r:=by
 rw[ar,h];erw[z]
abbrev SW:Spec:=λus S Q=>∃L sg bh en p e F Z B bt,us=[.loc L,.loc p]/\sI S L sg bh en/\bh=B::bt/\S[p]?=ξ (L6 e F Z)/\L+4<=p/\en.length<=1000/\∀S',Fr L S S'->sI S' L sg ((B|||F)::bt) (en++[Z])->Q .b7 S'
def WJ(Γ:cb):Keeps Γ fK 0 SW:=by
 rintro us S Q ⟨L,sg,bh,en,p,e,F,Z,B,bt,rfl,h,rfl,hp,pl,hn,q⟩;unfold fK;room;rw[KJ h]
 room;rw[h.b]
 dsimp[ay];refine#[F5 _,?_];dsimp[Int.toNat_zero];rwa[vc (B:=B) rfl ?_];rw[Ca hp]
 room;rw[h.b]
 dsimp[ay];refine#[#v[],?_];have h1:=h.setB (bh':=(B|||F)::bt);have e1:(dy aU (B::bt)).set 0 (U.int ((B|||F:Nat):Int))=dy aU ((B|||F)::bt):=by simp
 rw[e1]
 have f1:=(Fr.refl (L:=L) (S:=S)).set (n:=L+2) (o:=.lst (dy aU ((B|||F)::bt))) ∅ ∅;have hp1:=f1.get hp pl;generalize S.set (L+2) (.lst (dy aU ((B|||F)::bt)))=S1 at h1 f1 hp1;room;rw[SS h1]
 room;rw[h1.e]
 dsimp[ay];room;rw[Cb hp1]
 refine#[(·),?_];room;have e2:dy aU en++[aU Z]=dy aU (en++[Z]):=by simp
 rw[e2]
 erw[q _ (f1.set ∅ ∅) h1.aaX]
abbrev WK(Z F:Nat)(bh bh':List Nat):Prop:=bh'.length=bh.length/\∀(q B:Nat),bh[q]?=ξ B->∃B',bh'[q]?=ξ B'/\∀r,B'.testBit r=(B.testBit r||(Z.testBit q&&F.testBit r))
abbrev KL:Spec:=λus S Q=>∃L sg bh en Z F,us=[.loc L,aU Z,aU F]/\sI S L sg bh en/\bh.length<=100/\(∀p,Z.testBit p=ζ->p<bh.length)/\∀S' bh',Fr L S S'->sI S' L sg bh' en->WK Z F bh bh'->Q .b7 S'
def WL(Γ:cb)(h1:Γ "members"=B9):Keeps Γ kD 1 KL:=by
 rintro us S Q ⟨L,sg,bh,en,Z,F,rfl,h,hl,hz,q⟩;unfold kD;room;rwa[ca h1 #[Z,rfl,aD (kg hz) (bB ∅ hl),λn S1 x1 hn g1=>?_]];room;rw[g1]
 dsimp[ay];have hln:=h.len;refine df (λi env S2=>∃bh2 x3,env=[ξ (.loc L),ξ (aU Z),ξ (aU F),x3]/\Fr L S1 S2/\sI S2 L sg bh2 en/\bh2.length=bh.length/\∀(q B:Nat),bh[q]?=ξ B->∃B',bh2[q]?=ξ B'/\∀r,B'.testBit r=(B.testBit r||(decide (q∈(Ef Z).take i)&&F.testBit r)))
  (λi env S2 h9=>by let#[_,_,_,f,_]:=h9;erw[f.get g1 ∅]) _ ?_ ?_ #[bh,ψ,rfl,.refl,h.ext x1,rfl,λq B e=>#[B,e,λr=>#v[]]]
 .rintro i u env S2 K hu ⟨bh2,x3,rfl,f2,h2,l2,inv⟩ hK
  let#[p,hp,rfl]:=dW hu;have pz:=lP.mp (ag hp);have pl:=hz p pz;let#[B',e',b']:=inv p _ (aa pl);room;rw[KJ h2]
  room;rw[h2.b]
  dsimp[ay];refine#[∅,vc e' ?_];room;rw[h2.b]
  dsimp[ay];refine#[(·),?_];have ee:(dy aU bh2).set p (U.int ((B'|||F:Nat):Int))=dy aU (bh2.set p (B'|||F)):=by rw[List.map_set]
  rw[ee]
  room;rwa[hK _ _ #[_,_,rfl,f2.set ∅ ∅,h2.setB,by simp[l2],λq B e=>?_]];have et:=HQ hp;rw[et]
  by_cases z:q=p
  .subst z
   rw[aa pl] at e;injection e with e;subst e
   refine#[B'|||F,by rw[bM ∅],λr=>?_];rw[cX,b']
   dsimp[aJ,aX,or_true,decide_true,AV];cases bh[q].testBit r<;>cases F.testBit r<;>simp
  .let#[B2,e2,b2]:=inv q B e
   refine#[B2,%[aj (cM z)|e2],λr=>?_];rw[b2]
   simp[z]
 .rintro env S2 ⟨bh2,x3,rfl,f2,h2,l2,inv⟩
  room;rwa[q _ _ (Ext.fr x1 |>.trans f2) h2 #[l2,λq B e=>?_]];let#[B',e',b']:=inv q B e;refine#[B',e',λr=>?_];rw[b',ae,bX]
  congr 2
  by_cases z:Z.testBit q=ζ
  .rw[z];erw[decide_eq_true (lP.mpr z)]
  .rw[fW _ |>.mp z];erw[decide_eq_false λm=>z (lP.mp m)]
structure uW(t:Tr)(bh:List Nat)(F Z:Nat)(bh':List Nat):Prop where
 f:∀p,F.testBit p=FS t p
 z:∀p,Z.testBit p=(IN t p&&eU (cont t p))
 len:bh'.length=bh.length+size t
 old:∀q,q<bh.length->bh'[q]?=bh[q]?
 new:∀q,IN t q=ζ->∃B:Nat,bh'[q]?=ξ B/\∀p,B.testBit p=oN (cont t q) p
abbrev iC(D:Tr->U->Prop):Spec:=λus S Q=>∃L sg bh en t u,us=[.loc L,u]/\D t u/\sI S L sg bh en/\oO sg.length t/\bh.length=sg.length/\sg.length+size t<=100 /\
 ∀S' p F Z bh',Fr L S S'->L+4<=p->S'[p]?=ξ (L6 (null t) F Z)->sI S' L (sg++nA t) bh' en->uW t bh F Z bh'->Q (.loc p) S'
def sJ:(1<<<n).testBit p=(p==n):=by
 rw[uJ,Nat.testBit_two_pow]
 by_cases z:n=p
 .subst z;simp
 .rw[decide_eq_false z]
  have:¬p=n:=λe=>z e.symm
  simp[this]
def WM(Γ:cb)(h1:Γ "Part.__init__"=Ad):Keeps Γ gh 1 (iC λt u=>∃n l,t=.one n l/\u=.str l):=by
 rintro us S Q ⟨L,sg,bh,en,t,u,rfl,⟨n,l,rfl,rfl⟩,h,hp,hb,hl,q⟩;have hp:n=sg.length:=hp;subst hp;have hl:sg.length+1<=100:=hl;unfold gh;room;rw[KI h,j8 h.s]
 dsimp[aT,ae,SM];refine#[∅,∅,?_];room;rw[KI h]
 room;rw[h.s]
 dsimp[ay,true_and];refine#[(·),?_];have e1:dy U.str sg++[U.str l]=dy U.str (sg++[l]):=by simp
 rw[e1]
 have h2:=h.aaW (sg':=sg++[l]);have f2:=(Fr.refl (L:=L) (S:=S)).set (n:=L+1) (o:=.lst (dy U.str (sg++[l]))) ∅ ∅;generalize S.set (L+1) (.lst (dy U.str (sg++[l])))=S2 at h2 f2;room;rw[KJ h2]
 room;rw[h2.b]
 dsimp[ay,true_and];refine#[(·),?_];have e2:dy aU bh++[U.int 0]=dy aU (bh++[0]):=by simp
 rw[e2]
 have h3:=h2.setB (bh':=bh++[0]);have f3:=f2.set (n:=L+2) (o:=.lst (dy aU (bh++[0]))) ∅ ∅;generalize S2.set (L+2) (.lst (dy aU (bh++[0])))=S3 at h3 f3;room;rwa[qH h1 λS4 x4 g4=>#[rfl,?_]]
 have:=h3.len;rwa[q S4 _ _ _ _ (f3.trans (Ext.fr x4)) ∅ g4 (h3.ext x4) #[λp=>sJ,λp=>?_,by simp[size],λq hq=>ah hq,λq hq=>?_]]
 .rw[sJ];simp[IN,cont,eU]
 .have:q=sg.length:=by simpa[IN] using hq
  subst this;refine#[0,by rw[aA ∅,hb];simp,λp=>by simp[cont,oN]]
abbrev Tu(d:Nat)(t:Tr)(u:U):Prop:=bP t<d/\u=enc t
abbrev WN:dG:=#v[.set 4 (.dm "Layout" "lay" "Layout.lay" @0 #v[@3]),.ex (.dm "Layout" "link" "Layout.link" @0 #v[.fld @2 "lasts",.fld @4 "firsts"]),.set 2 (.call "one_behind_other" #v[@2,@4])]
def Cc(Γ:cb)(h2:Γ "Layout.lay"=iC (Tu d))(h3:Γ "Layout.link"=KL)(h4:Γ "one_behind_other"=rg t4)
  (da:bP a<d) (h:sI S L sg bh en) (hp:oO sg.length a) (hb:bh.length=sg.length) (hl:sg.length+size a<=100) (g:S[pw]?=ξ (L6 e0 F0 Z0)) (pl:L+4<=pw) (hz:∀p,Z0.testBit p=ζ->p<bh.length)
  (q:∀S' p F Z bh1 bh2 x,Fr L S S'->L+4<=p->S'[p]?=ξ (L6 (t4 e0 F0 Z0 (null a) F Z).1 (t4 e0 F0 Z0 (null a) F Z).2.1 (t4 e0 F0 Z0 (null a) F Z).2.2)->sI S' L (sg++nA a) bh2 en->uW a bh F Z bh1->WK Z0 F bh1 bh2 ->
   D.nx [ξ (.loc L),ξ v1,ξ (.loc p),ξ (enc a),x] S'):Rest Γ WN D [ξ (.loc L),ξ v1,ξ (.loc pw),ξ (enc a),x4] S:=by
 unfold WN;room;rw[h.o,b8]
 refine#[#[rfl,rfl],?_];rwa[ca h2 #[L,sg,bh,en,a,_,rfl,#[da,rfl],h,hp,hb,hl,λS1 p F Z bh1 f1 pl1 g1 la1 r1=>?_]];have g0:=f1.get g pl;room;rw[la1.o,b8]
 refine#[#[rfl,rfl],?_];rw[Cb g0,Ca g1]
 rwa[ca h3 #[L,_,bh1,en,Z0,F,rfl,la1,by rw[r1.len];omega,λp hp=>by rw[r1.len];have:=hz p hp;omega,λS2 bh2 f2 la2 lk=>?_]];room;rwa[ca h4 #[pw,e0,F0,Z0,p,null a,F,Z,rfl,f2.get g0 pl,f2.get g1 pl1,λS3 x3 g3=>?_]];room;have:=la2.len;erw[q _ _ F Z bh1 bh2 _ ((f1.trans f2).trans (Ext.fr x3)) ∅ g3 (la2.ext x3) r1 lk]
def WQ:t4 ζ 0 0 e F Z=(e,F,Z):=by
 unfold t4;rw[wZ,wZ]
 cases e<;>rfl
def aaY:WC ϑ 0 0 e F Z=(e,F,Z):=by
 unfold WC;rw[wZ,wZ];rfl
def OC(hp:oO n a/\oO (n+size a) b)(hb:bh.length=n)(ra:uW a bh Fa Za bh1)(lk2:WK 0 Fa bh1 bh2)(rb:uW b bh2 Fb Zb bh3)(lk4:WK Za Fb bh3 bh4):
  uW (.row a b) bh (t4 (null a) Fa Za (null b) Fb Zb).2.1 (t4 (null a) Fa Za (null b) Fb Zb).2.2 bh4:=by
 have l1:=ra.len;have l2:=rb.len;have l3:=lk2.1;have l4:=lk4.1;have e12:∀q,q<bh1.length->bh2[q]?=bh1[q]?:=λq hq=>by
  let#[B',e1,e2]:=lk2.2 q _ (aa hq);rw[e1,aa hq]
  congr 1
  erw[kZ λr=>by simp[e2]]
 have e14:∀q B,q<bh1.length->bh1[q]?=ξ B->∃B',bh4[q]?=ξ B'/\∀r,B'.testBit r=(B.testBit r||(Za.testBit q&&Fb.testBit r)):=λq B hq e=>lk4.2 q B (%[rb.old q ∅,e12 q hq|e])
 refine#[λp=>?_,λp=>?_,by dsimp[size];omega,λq hq=>?_,λq hq=>?_]
 .dsimp[t4,FS]
  cases null a<;>simp[cX,ra.f,rb.f]
 .dsimp[t4,IN,cont]
  by_cases z:IN a p=ζ
  .have z2:IN b p=ϑ:=by
    cases e:IN b p with
    |false=>rfl
    |true=>erw[absurd z (gC hp e)]
   have nb:eU [b]=null b:=by simp[eU]
   dsimp[wC,nb,if_pos z];cases null b<;>simp[cX,ra.z,rb.z,z,z2]
  .have z:IN a p=ϑ:=by simpa using z
   cases null b<;>simp[cX,ra.z,rb.z,z]
 .let#[B',h1,h2]:=e14 q _ ∅ ((ra.old q hq).trans (aa hq))
  rw[h1,aa hq]
  congr 1
  rwa[kZ λr=>?_]
  have:IN a q=ϑ:=by
   cases e:IN a q with
   |false=>rfl
   |true=>have:=(fG hp.1).mp e;omega
  rw[h2,ra.z,this];simp
 .by_cases z:IN a q=ζ
  .let#[B,h1,h2]:=ra.new q z
   have:=(fG hp.1).mp z;let#[B',h3,h4]:=e14 q B ∅ h1;refine#[B',h3,λp=>?_];have ec:cont (.row a b) q=cont a q++[b]:=by dsimp[cont,if_pos z]
   rw[ec,mG,h4,h2,ra.z,rb.f,z]
   simp[oN]
  .have z2:IN b q=ζ:=by simpa[IN,z] using hq
   let#[B,h1,h2]:=rb.new q z2;let#[B',h3,h4]:=lk4.2 q B h1;refine#[B',h3,λp=>?_];have z:IN a q=ϑ:=by simpa using z
   rw[h4,ra.z,z,h2]
   simp[cont,z]
def WR(Γ:cb)(d:Nat)(h1:Γ "Part.__init__"=Ad)(h2:Γ "Layout.lay"=iC (Tu d))(h3:Γ "Layout.link"=KL)(h4:Γ "one_behind_other"=rg t4):
  Keeps Γ iH 3 (iC λt u=>∃a b,t=.row a b/\bP a<d/\bP b<d/\u=.tup [enc a,enc b]):=by
 rintro us S Q ⟨L,sg,bh,en,t,u,rfl,⟨a,b,rfl,da,db,rfl⟩,h,hp,hb,hl,q⟩;have hl:sg.length+(size a+size b)<=100:=hl;have hp:oO sg.length a/\oO (sg.length+size a) b:=hp;have ll:=gv a;unfold iH;room;rwa[qH h1 (F:=0) (Z:=0) λS1 x1 g1=>#[rfl,?_]]
 have p1:L+4<=S.length:=h.len;have h':=h.ext x1;generalize S.length=pw at g1 p1;room;refine#[#v[],?_];dsimp[uT];refine#[trivial,Cc Γ h2 h3 h4 da h' hp.1 hb ∅ g1 p1 (#v[]) λS2 p2 Fa Za bh1 bh2 x f2 pl2 g2 la2 ra lk2=>?_];rw[WQ] at g2;refine#[trivial,Cc Γ h2 h3 h4 db la2 (%[aq,ll|hp.2]) (by rw[lk2.1,ra.len,hb];simp[ll]) ((·)) g2 pl2 (λp hp'=>?_) λS3 p3 Fb Zb bh3 bh4 x' f3 pl3 g3 la3 rb lk4=>#[trivial,?_]]
 .rw[ra.z,ak] at hp'
  have:=(fG hp.1).mp hp'.1;rw[lk2.1,ra.len];omega
 .room
  exact q _ _ _ _ _ ((Ext.fr x1 |>.trans f2).trans f3) pl3 g3 (by rw[bR] at la3;erw[la3]) (OC hp hb ra lk2 rb lk4)
def SX(hp:oO n a/\oO (n+size a) b)(hb:bh.length=n)(ra:uW a bh Fa Za bh1)(rb:uW b bh1 Fb Zb bh2):uW (.or a b) bh (Fa|||Fb) (Za|||Zb) bh2:=by
 have l1:=ra.len;have l2:=rb.len;refine#[λp=>by rw[cX,ra.f,rb.f];rfl,λp=>?_,by dsimp[size];omega,λq hq=>(rb.old q ∅).trans (ra.old q hq),λq hq=>?_]
 .rw[cX,ra.z,rb.z]
  dsimp[IN,cont];by_cases z:IN a p=ζ
  .have z2:IN b p=ϑ:=by
    cases e:IN b p with
    |false=>rfl
    |true=>erw[absurd z (gC hp e)]
   simp[z,z2]
  .have z:IN a p=ϑ:=by simpa using z
   simp[z]
 .by_cases z:IN a q=ζ
  .let#[B,h1,h2]:=ra.new q z
   have:=(fG hp.1).mp z;exact#[B,(rb.old q ∅).trans h1,λp=>by rw[h2];simp[cont,z]]
  .have z2:IN b q=ζ:=by simpa[IN,z] using hq
   let#[B,h1,h2]:=rb.new q z2;exact#[B,h1,λp=>by rw[h2];simp[cont,z]]
def WU(Γ:cb)(d:Nat)(h1:Γ "Part.__init__"=Ad)(h2:Γ "Layout.lay"=iC (Tu d))(h4:Γ "one_or_other"=rg WC):
  Keeps Γ fL 2 (iC λt u=>∃a b,t=.or a b/\bP a<d/\bP b<d/\u=.tup [enc a,enc b]):=by
 rintro us S Q ⟨L,sg,bh,en,t,u,rfl,⟨a,b,rfl,da,db,rfl⟩,h,hp,hb,hl,q⟩;have hl:sg.length+(size a+size b)<=100:=hl;have hp:oO sg.length a/\oO (sg.length+size a) b:=hp;have ll:=gv a;unfold fL;room;rwa[qH h1 (F:=0) (Z:=0) λS1 x1 g1=>#[rfl,?_]]
 have p1:L+4<=S.length:=h.len;have h':=h.ext x1;generalize S.length=pw at g1 p1;room;refine#[#v[],?_];dsimp[uT];refine#[trivial,?_];room;rw[h'.o,b8]
 refine#[#[rfl,rfl],?_];rwa[ca h2 #[L,sg,bh,en,a,_,rfl,#[da,rfl],h',hp.1,hb,∅,λS2 p2 Fa Za bh1 f2 pl2 g2 la2 ra=>?_]];rwa[ca h4 #[pw,_,_,_,p2,_,_,_,rfl,f2.get g1 p1,g2,λS3 x3 g3=>?_]];rw[aaY] at g3;have la3:=la2.ext x3;have p3:=la2.len;generalize S2.length=p3' at g3 p3;room;rw[la3.o,b8]
 refine#[#[rfl,rfl],?_];rwa[ca h2 #[L,_,bh1,en,b,_,rfl,#[db,rfl],la3,%[aq,ll|hp.2],by rw[ra.len,hb];simp[ll],(·),λS4 p4 Fb Zb bh2 f4 pl4 g4 la4 rb=>?_]];rwa[ca h4 #[p3',_,_,_,p4,_,_,_,rfl,f4.get g3 p3,g4,λS5 x5 g5=>?_]];have p5:=la4.len;room;exact q _ _ _ _ _ (((((Ext.fr x1).trans f2).trans (Ext.fr x3)).trans f4).trans (Ext.fr x5)) p5 g5 (by have:=la4.ext x5;rw[bR] at this;erw[this]) (SX hp hb ra rb)
abbrev Hn:Mk->Bool
 |.may=>ϑ
 |_=>ζ
abbrev Ho:Mk->Bool
 |.plus=>ϑ
 |_=>ζ
structure Pz(t:Tr)(ms:List Mk)(a:Tr):Prop where
 fs:∀p,FS t p=FS a p
 nl:null t=(null a||ms.any Ho)
 inn:∀p,IN t p=IN a p
 ct:∀p,∃R,cont t p=cont a p++R/\eU R=ζ/\∀r,oN R r=(ms.any Hn&&FS a r)
 sz:size t=size a
 lv:nA t=nA a
 pl:∀n,oO n t->oO n a
def Pz.zero(t:Tr):Pz t [] t:=#[λ_=>rfl,#v[],λ_=>rfl,λp=>#[[],#v[],rfl,λr=>by simp[oN]],rfl,rfl,λ_ h=>h]
def Pz.next(h:Pz t ms (.rep m a)):Pz t (ms++[m]) a:=by
 refine#[h.fs,?_,h.inn,λp=>?_,h.sz,h.lv,h.pl]
 .rw[h.nl]
  cases m<;>simp[null,Ho]
 .let#[R,h1,h2,h3]:=h.ct p
  refine#[more m a++R,by rw[h1];simp[cont],?_,λr=>?_]
  .rw[wC,h2];cases m<;>simp[more,eU,null]
  .rw[mG,h3]
   cases m<;>simp[more,oN,FS,eU,null,Hn]
def Fv(k:Pz t ms a)(hp:oO n a)(hb:bh.length=n)(ra:uW a bh F Z bh1)
  (lk:if ms.any Hn=ζ then WK Z F bh1 bh2 else bh2=bh1):uW t bh F Z bh2:=by
 have eZ:∀p,eU (cont t p)=eU (cont a p):=λp=>by
  let#[R,h1,h2,_]:=k.ct p;rw[h1,wC,h2,AW]
 have l1:=ra.len;have key:∀(q B:Nat),bh1[q]?=ξ B->∃B',bh2[q]?=ξ B'/\∀r,B'.testBit r=(B.testBit r||(ms.any Hn&&(Z.testBit q&&F.testBit r))):=λq B e=>by
  split at lk
  .rename_i z
   let#[B',e1,e2]:=lk.2 q B e;exact#[B',e1,λr=>by rw[e2,z,AV]]
  .rename_i z
   subst lk;exact#[B,e,λr=>by simp[fW _ |>.mp z]]
 have l2:bh2.length=bh1.length:=by
  split at lk
  .erw[lk.1]
  .rw[lk]
 refine#[λp=>by rw[ra.f,k.fs],λp=>by rw[ra.z,k.inn,eZ],by rw[l2,l1,k.sz],λq hq=>?_,λq hq=>?_]
 .let#[B',h1,h2]:=key q _ ((ra.old q hq).trans (aa hq))
  rw[h1,aa hq]
  congr 1
  rwa[kZ λr=>?_]
  have:IN a q=ϑ:=by
   cases e:IN a q with
   |false=>rfl
   |true=>have:=(fG hp).mp e;omega
  rw[h2,ra.z,this];simp
 .rw[k.inn] at hq
  let#[B,h1,h2]:=ra.new q hq;let#[B',h3,h4]:=key q B h1;refine#[B',h3,λp=>?_];let#[R,e1,e2,e3]:=k.ct q;rw[h4,h2,e1,mG,e3,ra.z,ra.f,hq,AV]
  cases oN (cont a q) p<;>cases eU (cont a q)<;>cases FS a p<;>simp
def in3:rX (.str k) [.str lO,.str pF,.str kT] q=q (lO==k||(pF==k||kT==k)):=by
 have:=anyS (a:=k) (l:=[lO,pF,kT]) (q:=q);simpa using this
def KN(ms:List Mk)(a b:List Nat):(ms.any λm=>oF m==a||oF m==b)=(((ms.map oF).any (·==a))||((ms.map oF).any (·==b))):=by
 induction ms with
 |nil=>rfl
 |cons m ms ih=>
  rw[dw,aw,dw,dw,ih]
  cases (oF m==a)<;>cases (oF m==b)<;>simp
def SY(ms:List Mk):ms.any Hn=(((ms.map oF).any (·==lO))||((ms.map oF).any (·==pF))):=by
 rw[<-KN]
 congr 1;funext m
 cases m<;>rfl
def Ta(ms:List Mk):ms.any Ho=(((ms.map oF).any (·==lO))||((ms.map oF).any (·==kT))):=by
 rw[<-KN]
 congr 1;funext m
 cases m<;>rfl
def OD(m:Mk):(lO==oF m||(pF==oF m||kT==oF m))=ζ:=by cases m<;>rfl
abbrev YL:dG:=#v[.set 5 (.or (.fld @4 "empty") (.or (.cmp .isin ↑[115,116,97,114] @2) (.cmp .isin ↑[109,97,121,98,101] @2))),.ret (.mk "Part" "Part.__init__" #v[@5,.fld @4 "firsts",.fld @4 "lasts"])]
abbrev pLk:dG:=#v[.ex (.dm "Layout" "link" "Layout.link" @0 #v[.fld @4 "lasts",.fld @4 "firsts"])]
abbrev pR2:dG:=(.cons (.set 4 (.dm "Layout" "lay" "Layout.lay" @0 #v[@3])) (.cons (.ifs (.or (.cY (.cmp .isin ↑[115,116,97,114] @2)) (.cY (.cmp .isin ↑[112,108,117,115] @2))) pLk .nil) YL))
def WV(Γ:cb)(d:Nat)(hd:d<=100)(h1:Γ "Part.__init__"=Ad)(h2:Γ "Layout.lay"=iC (Tu d))(h3:Γ "Layout.link"=KL):
  Keeps Γ fM 4 (iC λt u=>∃m a,t=.rep m a/\bP a<d/\u=enc t):=by
 rintro us S Q ⟨L,sg,bh,en,t,u,rfl,⟨m0,a0,et,da,rfl⟩,h,hp,hb,hl,q⟩;have sl:=h.len;have fin:∀(ms:List Mk)(a:Tr)(S2:bH),Pz t ms a->bP a<d->(∀n,n<S.length->S2[n]?=S[n]?)->S2[S.length]?=ξ (.lst (ms.map λm=>U.str (oF m)))->Rest Γ pR2 #[λ_ S1=>Q .b7 S1,Q] [ξ (.loc L),ξ (enc t),ξ (.loc S.length),ξ (enc a),ψ,ψ] S2:=by
  intro ms a S2 mk da e2 g2;have x2:Ext S S2:=#[bZ (aK g2),e2]
  have la:=h.ext x2;have sz:=mk.sz;have hpa:=mk.pl _ hp;unfold pR2;room;rw[la.o,b8]
  refine#[#[rfl,rfl],?_];rwa[ca h2 #[L,sg,bh,en,a,_,rfl,#[da,rfl],la,hpa,hb,∅,λS3 p F Z bh1 f3 pl3 g3 la3 ra=>?_]];have gm:∀S4,Fr L S3 S4->S4[S.length]?=ξ (.lst ((ms.map oF).map .str)):=λS4 f4=>%[bA|f4.get (f3.get g2 sl) sl]
  have fin2:∀S4 bh2,Fr L S3 S4->sI S4 L (sg++nA a) bh2 en->uW t bh F Z bh2->Rest Γ YL #[λ_ S1=>Q .b7 S1,Q] [ξ (.loc L),ξ (enc t),ξ (.loc S.length),ξ (enc a),ξ (.loc p),ψ] S4:=by
   intro S4 bh2 f4 la4 r4;have g4:=f4.get g3 pl3;have en4:∀e,e=null t->Rest Γ (.cons (.ret (.mk "Part" "Part.__init__" (.cons @5 (.cons (.fld @4 "firsts") (.cons (.fld @4 "lasts") .nil))))) .nil) #[λ_ S1=>Q .b7 S1,Q] [ξ (.loc L),ξ (enc t),ξ (.loc S.length),ξ (enc a),ξ (.loc p),ξ (.bl e)] S4:=by
    rintro e rfl;room;rw[Ca g4,Cb g4]
    rwa[qH h1 λS5 x5 g5=>#[rfl,?_]]
    erw[q _ _ _ _ _ (((Ext.fr x2).trans f3).trans (f4.trans (Ext.fr x5))) la4.len g5 (by rw[mk.lv];exact la4.ext x5) r4]
   have nl:=mk.nl;rw[Ta] at nl;unfold YL;room;rw[Hm g4]
   room;rw[gm S4 f4]
   dsimp[ay,anyS,Jg];cases e1:null a<;>cases e2:(ms.map oF).any (·==lO)<;>dsimp[e1,e2,av,if_false,if_true,ay,anyS]<;>refine en4 _ ?_<;>rw[nl,e1,e2]<;>simp
  have hs:=SY ms;have lnk:ms.any Hn=ζ->Rest Γ pLk #[λen S4=>Rest Γ YL #[λ_ S1=>Q .b7 S1,Q] en S4,Q] [ξ (.loc L),ξ (enc t),ξ (.loc S.length),ξ (enc a),ξ (.loc p),ψ] S3:=by
   intro z;unfold pLk;room;rw[la3.o,b8]
   refine#[#[rfl,rfl],?_];rw[Cb g3,Ca g3]
   rwa[ca h3 #[L,_,bh1,en,Z,F,rfl,la3,by rw[ra.len];omega,λp hp'=>?_,λS4 bh2 f4 la4 lk=>?_]]
   .rw[ra.z,ak] at hp'
    have:=(fG hpa).mp hp'.1;rw[ra.len];omega
   .erw[Rest.go (fin2 S4 bh2 f4 la4 (Fv mk hpa hb ra (by rw[if_pos z];exact lk)))]
  room;rw[gm S3 .refl]
  dsimp[ay,anyS];cases e1:(ms.map oF).any (·==lO)<;>cases e2:(ms.map oF).any (·==pF)<;>rw[e1,e2] at hs<;>dsimp[e1,e2,av,if_false,if_true,ay,anyS]
  .erw[Rest.go (fin2 S3 bh1 .refl la3 (Fv mk hpa hb ra (by rw[if_neg (by simp[hs])])))]
  .erw[lnk hs]
  .erw[lnk hs]
  .erw[lnk hs]
 unfold fM;room;refine#[#v[],?_];room;have x0:Ext S (S++[SO.lst []]):=Ext.app _;have g0:(S++[SO.lst []])[S.length]?=ξ (.lst (([]:List Mk).map λm=>U.str (oF m))):=by simp
 have dt:bP t<=d:=%[et|da]
 refine#[bP t+1,oE (λn env S2=>∃ms a,n=bP a/\Pz t ms a/\(a=t\/bP a<d)/\ms.length+bP a<=200/\env=[ξ (.loc L),ξ (enc t),ξ (.loc S.length),ξ (enc a),ψ,ψ]/\(∀n,n<S.length->S2[n]?=S[n]?)/\S2[S.length]?=ξ (.lst (ms.map λm=>U.str (oF m)))) ?_ _ (bP t) _ _ ∅ #[[],t,rfl,.zero t,.inl rfl,(·),rfl,x0.2,g0]];rintro n env S2 K ⟨ms,a,rfl,mk,hda,hms,rfl,e2,g2⟩ hK;have out:(∀m a',a≠.rep m a')->bP a<d:=λz=>by
  rcases hda with rfl|z2
  .erw[absurd et (z m0 a0)]
  .erw[z2]
 have stop:∀k x,enc a=.tup [.str k,x]->(lO==k||(pF==k||kT==k))=ϑ->bP a<d->WT Γ (.cY (.cmp .isin (.ix @3 ↑0) (.tup (.cons ↑[115,116,97,114] (.cons ↑[112,108,117,115] (.cons ↑[109,97,121,98,101] .nil)))))) [ξ (.loc L),ξ (enc t),ξ (.loc S.length),ξ (enc a),ψ,ψ] S2
   (λt1 S1=>if t1=ζ then Rest Γ (.cons (.ex (.jD .append @2 (.cons (.ix @3 ↑0) .nil))) (.cons (.set 3 (.ix @3 ↑1)) .nil)) #[K,Q] [ξ (.loc L),ξ (enc t),ξ (.loc S.length),ξ (enc a),ψ,ψ] S1 else Rest Γ pR2 #[λ_ S1=>Q .b7 S1,Q] [ξ (.loc L),ξ (enc t),ξ (.loc S.length),ξ (enc a),ψ,ψ] S1):=by
  intro k x ek ek2 da;have:=fin ms a S2 mk da e2 g2;rw[ek] at this ⊢;room;rw[pD,aT]
  refine#[#v[],#v[],?_];rw[in3,ek2]
  erw[this]
 cases a with
 |one k l=>erw[stop _ _ rfl rfl (out λ_ _ z=>nomatch z)]
 |row a b=>erw[stop _ _ rfl rfl (out λ_ _ z=>nomatch z)]
 |or a b=>erw[stop _ _ rfl rfl (out λ_ _ z=>nomatch z)]
 |rep m a=>
  have ek:enc (.rep m a)= .tup [.str (oF m),enc a]:=rfl;have dr:bP (.rep m a)=bP a+1:=rfl;rw[ek]
  room;rw[pD,aT]
  refine#[#v[],#v[],?_];rw[in3,OD]
  room;rw[g2]
  dsimp[ay,pD,lX,aT];refine#[trivial,#v[],(·),?_];room;dsimp[lX,aT];refine#[#v[],?_];try room
  refine hK (bP a) _ _ ∅ #[ms++[m],a,rfl,mk.next,.inr (by rcases hda with rfl|z<;>omega),(·),rfl,λn hn=>?_,by rw[gs g2];simp];rw[aj ∅];exact e2 n hn
section
variable{Γ:cb}{D:Ends}{env:Env}{S:bH}{i:Nat}{k k':List Nat}{x:U}{a b ss:dG}
def sM(h:env[i]?=ξ (ξ (.tup [.str k,x])))(e:(k==k')=ζ)(q:Rest Γ a #[λen S1=>Rest Γ ss D en S1,D.rt] env S):Rest Γ (.cons (.ifs (.cY (.cmp .eq (.ix (.var i) ↑0) (.lit (.str k')))) a b) ss) D env S:=by
 room;rw[h]
 dsimp[yj,E1,pD,aT,Pj,VY,e,if_true];exact#[#v[],q]
def jQ(h:env[i]?=ξ (ξ (.tup [.str k,x])))(e:(k==k')=ϑ)(q:Rest Γ ss D env S):Rest Γ (.cons (.ifs (.cY (.cmp .eq (.ix (.var i) ↑0) (.lit (.str k')))) a .nil) ss) D env S:=by
 room;rw[h]
 dsimp[yj,E1,pD,aT,Pj,VY,e,av,if_false];exact#[#v[],q]
end
def Tc(Γ:cb)(d:Nat)(h1:Γ "Layout.lay_place"=iC λt u=>∃n l,t=.one n l/\u=.str l)(h2:Γ "Layout.lay_row"=iC λt u=>∃a b,t=.row a b/\bP a<d/\bP b<d/\u=.tup [enc a,enc b])
  (h3:Γ "Layout.lay_choice"=iC λt u=>∃a b,t=.or a b/\bP a<d/\bP b<d/\u=.tup [enc a,enc b]) (h4:Γ "Layout.lay_repeat"=iC λt u=>∃m a,t=.rep m a/\bP a<d/\u=enc t):Keeps Γ k8 0 (iC (Tu (d+1))):=by
 rintro us S Q ⟨L,sg,bh,en,t,u,rfl,⟨dt,rfl⟩,h,hp,hb,hl,q⟩;unfold k8;cases t with
 |one n l=>
  rwa[sM rfl rfl ?_];dsimp[enc];room;rw[h.o,b8,lX]
  exact#[#[rfl,rfl],#v[],ca h1 #[L,sg,bh,en,_,_,rfl,#[n,l,rfl,rfl],h,hp,hb,hl,q]]
 |row a b=>
  have dt:max (bP a) (bP b)+1<d+1:=dt;rwa[jQ rfl rfl (sM rfl rfl ?_)];dsimp[enc];room;rw[h.o,b8,lX]
  exact#[#[rfl,rfl],#v[],ca h2 #[L,sg,bh,en,_,_,rfl,#[a,b,rfl,∅,∅,rfl],h,hp,hb,hl,q]]
 |or a b=>
  have dt:max (bP a) (bP b)+1<d+1:=dt;rwa[jQ rfl rfl (jQ rfl rfl (sM rfl rfl ?_))];dsimp[enc];room;rw[h.o,b8,lX]
  exact#[#[rfl,rfl],#v[],ca h3 #[L,sg,bh,en,_,_,rfl,#[a,b,rfl,∅,∅,rfl],h,hp,hb,hl,q]]
 |rep m a=>
  have dt:bP a+1<d+1:=dt;have k1:(oF m==Oo)=ϑ/\(oF m==Eb)=ϑ/\(oF m==UH)=ϑ:=by cases m<;>exact#[rfl,rfl,rfl]
  rwa[jQ rfl k1.1 (jQ rfl k1.2.1 (jQ rfl k1.2.2 ?_))];room;rw[h.o,b8]
  exact#[#[rfl,rfl],ca h4 #[L,sg,bh,en,_,_,rfl,#[m,a,rfl,∅,rfl],h,hp,hb,hl,q]]
abbrev nB(f:List Nat->Bool)(sg:List (List Nat))(p:Nat):Bool:=((sg[p]?).map f).getD ϑ
def yM(f:List Nat->Bool)(sg:List (List Nat))(hg:g S)(hl:sg.length<=100)
  (hc:∀(i:Nat)l k,k (f l) S->c (.tup [aU i,.str l]) S k) (he:∀(i:Nat)l k,i<=100->k (aU (1<<<i)) S->e (.tup [aU i,.str l]) S k)
  (q:∀(is:List Int)(b:Nat),is.sum=b->(∀p,b.testBit p=nB f sg p)->Q (is.map .int) S):oM g c e Q ((sg.map U.str).mapIdx λi u=>.tup [.int (i:Nat),u]) [] S:=by
 rwa[d8 _ (λi acc S'=>S'=S/\∃(is:List Int)(b:Nat),acc=is.map .int/\is.sum=b/\b<2^i/\is.length<=i/\∀p,b.testBit p=(decide (p<i)&&nB f sg p)) (λi acc S' hi h=>?_) (λi u acc S' k hu hi hk=>?_) (λacc S' h=>?_) #[rfl,[],0,rfl,rfl,#v[],#v[],#v[]]]
 .let#[rfl,is,b,rfl,_,_,hl',_]:=h
  simp at hi;exact#[hg,(·)]
 .let#[rfl,is,b,rfl,h1,h2,h3,h4]:=hi
  dsimp[dY,ar] at hu;cases es:sg[i]? with
  |none=>rw[es] at hu;simp at hu
  |some l=>
   rw[es] at hu;dsimp[fg,jd] at hu;subst hu;have il:=(ab.mp es).1;have hi:nB f sg i=f l:=by unfold nB;rw[es];rfl
   rwa[hc i l _ ?_];cases z:f l with
   |false=>
    rw[if_neg (#v[])]
    rwa[hk _ _ #[rfl,is,b,rfl,h1,by rw[gK];omega,∅,λp=>?_]];rw[h4]
    by_cases zp:p=i
    .subst zp;simp[hi,z]
    .have:(p<i)↔(p<i+1):=∅
     dsimp[this]
   |true=>
    rw[if_pos rfl]
    rwa[he i l _ ∅ (hk _ _ #[rfl,is++[((1<<<i:Nat):Int)],2^i+b,#v[],?_,by rw[gK];omega,(·),λp=>?_])]
    .rw[xc,h1,uJ];simp;omega
    .by_cases zp:p=i
     .subst zp
      rw[Nat.testBit_two_pow_add_eq,C0 h2];simp[hi,z]
     .by_cases zl:p<i
      .rw[Nat.testBit_two_pow_add_gt zl,h4]
       simp[zl,ba zl]
      .rw[C0 (aD (show 2^i+b<2^(i+1) by rw[gK];omega) (bB ∅ ∅))]
       have:¬p<i+1:=∅
       simp[this]
 .let#[rfl,is,b,rfl,h1,_,_,h4]:=h
  rwa[q is b h1 λp=>?_]
  rw[h4]
  dsimp[gI,ae];by_cases z:p<sg.length
  .simp[z]
  .unfold nB
   rw[dq ∅];simp
def wD(h:nB f sg p=ζ):∃l,sg[p]?=ξ l/\f l=ζ:=by
 unfold nB at h;cases e:sg[p]? with
 |none=>rw[e] at h;simp at h
 |some l=>rw[e] at h;exact#[l,rfl,h]
abbrev PB:Spec:=λus S Q=>∃L sg bh en c,us=[.loc L,.str [c]]/\sI S L sg bh en/\sg.length<=100/\∀(b:Nat)S',Ext S S'->(∀p,b.testBit p=nB (·.contains c) sg p)->Q (aU b) S'
def Td(Γ:cb):Keeps Γ gu 0 PB:=by
 rintro us S Q ⟨L,sg,bh,en,c,rfl,h,hl,q⟩;unfold gu;room;rw[KI h]
 room;rw[h.s,ay]
 rwa[yM (·.contains c) sg h.s hl (λi l k z=>?_) (λi l k hi z=>?_) λis b e hb=>?_]
 .room
  erw[z]
 .room
  exact#[∅,z]
 .exact#[is,#v[],%[e|q b _ (Ext.app _) hb]]
abbrev Ae(l:List Nat):Bool:=!(l==[])
abbrev xX(sg:List (List Nat))(bh en:List Nat)(P:Nat->Prop):Prop:=(∀(Z p:Nat),Z∈en->Z.testBit p=ζ->nB Ae sg p=ζ->P p)/\∀(q B p:Nat),nB Ae sg q=ζ->bh[q]?=ξ B->B.testBit p=ζ->P p->P q
structure HR(sg:List (List Nat))(bh en:List Nat)(u:Nat):Prop where
 e:∀(Z p:Nat),Z∈en->Z.testBit p=ζ->nB Ae sg p=ζ->u.testBit p=ζ
 b:∀(q B p:Nat),nB Ae sg q=ζ->bh[q]?=ξ B->B.testBit p=ζ->u.testBit p=ζ->u.testBit q=ζ
 m:∀P,xX sg bh en P->∀p,u.testBit p=ζ->P p
abbrev WW:Spec:=λus S Q=>∃L sg bh en,us=[.loc L]/\sI S L sg bh en/\sg.length<=100/\bh.length=sg.length/\∀(u:Nat)S',Ext S S'->HR sg bh en u->Q (aU u) S'
def WX(Γ:cb)(h1:Γ "members"=B9):Keeps Γ i8 5 WW:=by
 rintro us S Q ⟨L,sg,bh,en,rfl,h,hl,hb,q⟩;unfold i8;room;rw[KI h]
 room;rw[h.s,ay]
 rwa[yM Ae sg h.s hl (λi l k z=>?_) (λi l k hi z=>?_) λis T e hT=>#[is,#v[],?_]]
 .room
  erw[z]
 .room
  exact#[∅,z]
 rw[e]
 have x0:Ext S (S++[SO.lst (is.map U.int)]):=Ext.app _;have h':=h.ext x0;generalize S++[SO.lst (is.map U.int)]=S0 at x0 h';have Tlt:∀p,T.testBit p=ζ->p<sg.length:=λp hp=>by
  rw[hT] at hp;let#[l,e,_]:=wD hp;exact(ab.mp e).1
 have Tl:T<2^sg.length:=kg Tlt;room;rw[SS h']
 room;rw[h'.e,ay]
 refine df (λi env S2=>S2=S0/\∃(gr:Nat)(x3:Option U),env=[ξ (.loc L),ξ (aU T),ξ (aU gr),x3,ψ,ψ]/\gr<2^sg.length/\(∀(Z p:Nat),Z∈en.take i->Z.testBit p=ζ->T.testBit p=ζ->gr.testBit p=ζ)/\∀P,xX sg bh en P->∀p,gr.testBit p=ζ->P p) (λi env S2 z=>z.1▸h'.e) _ ?_ ?_ #[rfl,0,ψ,rfl,Nat.two_pow_pos _,#v[],λP _ p z=>by simp at z]
 .rintro i u env S2 K hu ⟨rfl,gr,x3,rfl,hgr,inv,only⟩ hK
  let#[Z,hZ,rfl]:=dW hu;room;have et:=HQ hZ;rwa[hK _ _ #[rfl,gr|||(Z&&&T),_,rfl,LV hgr (kg λp hp=>?_),λZ' p m h1 h2=>?_,λP cl p hp=>?_]]
  .rw[bN,ak] at hp;erw[Tlt p hp.2]
  .rw[et] at m
   rw[cX,bN]
   rcases aJ.mp m with m|m
   .rw[inv Z' p m h1 h2];rfl
   .simp at m;subst m;rw[h1,h2];simp
  .rw[cX,bN,bw,ak] at hp
   rcases hp with hp|⟨z1,z2⟩
   .erw[only P cl p hp]
   .erw[cl.1 Z p (ag hZ) z1 (by rw[<-hT];exact z2)]
 .rintro env S2 ⟨rfl,gr,x3,rfl,hgr,inv,only⟩
  room;rw[ae,bX] at inv;have out:∀{S3:bH}{u:Nat},Ext S S3->(∀p,gr.testBit p=ζ->u.testBit p=ζ)->(∀(q B p:Nat),T.testBit q=ζ->bh[q]?=ξ B->B.testBit p=ζ->u.testBit p=ζ->u.testBit q=ζ)->(∀P,xX sg bh en P->∀p,u.testBit p=ζ->P p)->Q (aU u) S3:=λx3 a b c=>
   q _ _ x3 #[λZ p m z1 z2=>a p (inv Z p m z1 (%[hT|z2])),λq B p z1=>b q B p (%[hT|z1]),c]
  refine#[2^sg.length+1,oE (λn env S3=>∃(g2 u:Nat)(x3 x5:Option U),n=2^sg.length-u/\env=[ξ (.loc L),ξ (aU T),ξ (aU g2),x3,ξ (aU u),x5]/\Ext S S3/\sI S3 L sg bh en/\u<=g2/\g2<2^sg.length/\(∀p,gr.testBit p=ζ->g2.testBit p=ζ) /\
   (∀(q B p:Nat),T.testBit q=ζ->bh[q]?=ξ B->B.testBit p=ζ->u.testBit p=ζ->g2.testBit q=ζ)/\∀P,xX sg bh en P->∀p,g2.testBit p=ζ->P p) ?_ _ (2^sg.length) _ _ ∅ #[gr,0,x3,ψ,∅,rfl,x0,h',∅,hgr,λ_ z=>z,λq B p _ _ _ z=>by simp at z,only]]
  rintro n env S3 K ⟨g2,u,x3,x5,rfl,rfl,x3',h3,hu,hg,ia,ib,ic⟩ hK;room;by_cases z:g2=u
  .subst z
   dsimp[beq_self_eq_true,bG,av,if_false];room;erw[out x3' ia ib ic]
  .have:((g2:Int)== (u:Int))=ϑ:=by
    rw[beq_eq_false_iff_ne];omega
   dsimp[this,bU,if_true];room;rwa[ca h1 #[T,rfl,aD Tl (bB ∅ hl),λm S4 x4 hm g4=>?_]];room;rw[g4,ay]
   have h4:=h3.ext x4;refine df (λi env S5=>S5=S4/\∃(g3:Nat)(x5:Option U),env=[ξ (.loc L),ξ (aU T),ξ (aU g3),x3,ξ (aU g2),x5]/\g2<=g3/\g3<2^sg.length/\(∀p,g2.testBit p=ζ->g3.testBit p=ζ) /\
    (∀(q B p:Nat),q∈(Ef T).take i->bh[q]?=ξ B->B.testBit p=ζ->g2.testBit p=ζ->g3.testBit q=ζ)/\∀P,xX sg bh en P->∀p,g3.testBit p=ζ->P p) (λi env S5 z=>z.1▸g4) _ ?_ ?_ #[rfl,g2,x5,rfl,ao _,hg,λ_ z=>z,#v[],ic]
   .rintro i v env S5 K' hv ⟨rfl,g3,x5,rfl,j1,j2,j3,j4,j5⟩ hK'
    let#[p,hp,rfl]:=dW hv;have pT:=lP.mp (ag hp);have pl:=Tlt p pT;have et:=HQ hp;room;rw[KJ h4]
    room;rw[h4.b,ay,gc]
    rwa[vc (aa ∅) ?_];room;by_cases w:(((bh[p]'∅&&&g2:Nat):Int) !=0)=ζ
    .rw[if_pos w]
     room;refine#[∅,?_];try room
     rwa[hK' _ _ #[rfl,g3|||1<<<p,_,rfl,aI j1 Nat.left_le_or,LV j2 (kg λr hr=>?_),λr hr=>by rw[cX,j3 r hr];rfl,λq B r m e1 e2 e3=>?_,λP cl r hr=>?_]]
     .rw[sJ] at hr;have:=eq_of_beq hr;omega
     .rw[et] at m
      rw[cX,sJ]
      rcases aJ.mp m with m|m
      .rw[j4 q B r m e1 e2 e3];rfl
      .simp at m;subst m;simp
     .rw[cX,sJ,bw] at hr
      rcases hr with hr|hr
      .erw[j5 P cl r hr]
      .have:=eq_of_beq hr
       subst this;let#[s,hs]:=Ac.mp w;rw[bN,ak] at hs;erw[cl.2 _ _ s (by rw[<-hT];exact pT) (aa ∅) hs.1 (ic P cl s hs.2)]
    .rw[if_neg w]
     room;rwa[hK' _ _ #[rfl,g3,_,rfl,j1,j2,j3,λq B r m e1 e2 e3=>?_,j5]];rw[et] at m;rcases aJ.mp m with m|m
     .erw[j4 q B r m e1 e2 e3]
     .simp at m;subst m
      rwa[absurd (Ac.mpr #[r,?_]) w];rw[aa ∅] at e1;injection e1 with e1
      rw[e1,bN,e2,e3];rfl
   .rintro env S5 ⟨rfl,g3,x5,rfl,j1,j2,j3,j4,j5⟩
    rw[ae,bX] at j4;room;erw[hK (2^sg.length-g2) _ _ ∅ #[g3,g2,_,_,rfl,rfl,x3'.trans x4,h4,j1,j2,λp hp=>j3 p (ia p hp),λq B p z1=>j4 q B p (lP.mpr z1),j5]]
abbrev kM(f:List Nat->Bool):List (List Nat)->Nat
 |[]=>0
 |l::r=>(if f l=ζ then 1 else 0)+2*kM f r
def sN:∀{sg:List (List Nat)}{p:Nat},(kM f sg).testBit p=nB f sg p
 |[],p=>by simp[kM,nB]
 |l::r,0=>by
  unfold kM nB;rw[Nat.testBit_zero]
  cases z:f l<;>simp[z]<;>omega
 |l::r,p+1=>by
  unfold kM;have e:((if f l=ζ then 1 else 0)+2*kM f r)/2=kM f r:=by split<;>omega
  rw[Nat.testBit_succ,e,sN]
  rfl
section
variable{S S1 S2:bH}{r n:Nat}{o:SO}
def oU(a:Old r S S1)(h:S[n]?=ξ o)(ne:n≠r):S1[n]?=ξ o:=(a.2 n (aK h) ne).trans h
def WY(a:Old r S S1)(b:Ext S1 S2):Old r S S2:=a.trans (Ext.old b)
def Hq{c f:String}{fs:List (String×U)}{v:U}{K:bH->Prop}(h:S[r]?=ξ (.ins c fs))(hl:fs.length<100)(q:∀S',Old r S S'->S'.length=S.length->S'[r]?=ξ (.ins c (iF f v fs))->K S'):
  qU S[r]? λc fs=>fs.length<100/\K (S.set r (.ins c (iF f v fs))):=by
 rw[h,b8]
 exact#[hl,q _ (lY.set h).old (#v[]) (gs h)]
end
structure KO(S:bH)(P:Nat)(bh en:List Nat)(tk:Nat->Nat):Prop where
 o:∃b e k,S[P]?=ξ (.ins "Places" [("behind",.loc b),("ends",.loc e),("takers",.loc k)])/\S[b]?=ξ (.lst (bh.map aU))/\S[e]?=ξ (.lst (en.map aU))/\S[k]?=ξ (.dX (SG.map λc=>(.str [c],aU (tk c))))
def KO.ext{S S':bH}{P:Nat}{bh en:List Nat}{tk:Nat->Nat}(h:KO S P bh en tk)(x:Ext S S'):KO S' P bh en tk:=by
 let#[b,e,k,h1,h2,h3,h4]:=h.o;exact#[b,e,k,x.get h1,x.get h2,x.get h3,x.get h4]
abbrev KQ:Spec:=λus S Q=>∃P L sg bh en,us=[.loc P,.loc L]/\S[P]?=ξ (.ins "Places" [])/\S.length=P+1/\sI S L sg bh en/\sg.length<=100/\bh.length=sg.length/\en.length<=100 /\
 ∀u S',HR sg bh en u->(∀n,n<P->S'[n]?=S[n]?)->KO S' P (bh.map (·&&&u)) en (λc=>kM (·.contains c) sg)->Q .b7 S'
def PC:(SG.map λc=>[c]).Nodup:=⋯
def WZ(Γ:cb)(h1:Γ "useful_places"=WW)(h2:Γ "places_that_take"=PB):Keeps Γ kE 1 KQ:=by
 rintro us S Q ⟨P,L,sg,bh,en,rfl,hP,hs,h,hl,hb,he,q⟩;unfold kE;have nd:=PC;generalize hG:SG=G at nd;have gl:G.length=95:=by rw[<-hG];rfl
 room;refine ca h1 #[L,sg,bh,en,rfl,h,hl,hb,λu S1 x1 hu=>?_];have la:=h.ext x1;have hP1:=x1.get hP;have ne:L+4<=P:=by
  have:=h.len;have n0:¬L=P:=λz=>by rw[z] at h;rw[h.o] at hP;simp at hP
  have n1:¬L+1=P:=λz=>by rw[<-z,h.s] at hP;simp at hP
  have n2:¬L+2=P:=λz=>by rw[<-z,h.b] at hP;simp at hP
  have n3:¬L+3=P:=λz=>by rw[<-z,h.e] at hP;simp at hP
  omega
 room;rw[KJ la]
 room;rw[la.b,ay]
 refine yL (S:=S1) _ (λ_=>ζ) (λv=>match v with|.int i=>aU (i.toNat&&&u)|v=>v) la.b ((·)) (λv k _ z=>z.1 rfl) (λv k hv _ z=>?_) ?_
 .let#[B,_,rfl]:=bx.mp hv
  room;erw[z]
 have e1:(List.filter (λ_=>ζ) (bh.map aU)).map (λv=>match v with|.int i=>aU (i.toNat&&&u)|v=>v)=(bh.map (·&&&u)).map aU:=by
  rw[List.filter_eq_self.mpr (λ_ _=>rfl),bA,bA];rfl
 rw[e1]
 have x2:Ext S1 (S1++[SO.lst ((bh.map (·&&&u)).map aU)]):=Ext.app _;have g2:(S1++[SO.lst ((bh.map (·&&&u)).map aU)])[S1.length]?=ξ (.lst ((bh.map (·&&&u)).map aU)):=by simp
 have n2:S1.length≠P:=by have:=x1.1;omega
 generalize S1.length=b at g2 n2;generalize S1++[SO.lst ((bh.map (·&&&u)).map aU)]=S2 at g2 x2;rwa[Hq (x2.get hP1) (#v[]) λS3 o3 l3 hP3=>?_]
 have la3:sI S3 L sg bh en:=by
  have:=la.ext x2;exact#[oU o3 this.o ∅,oU o3 this.s ∅,oU o3 this.b ∅,oU o3 this.e ∅]
 have g3:=oU o3 g2 n2;have o13:=(Ext.old (r:=P) (x1.trans x2)).trans o3;room;rw[SS la3]
 room;rw[la3.e,ay]
 have x4:Ext S3 (S3++[SO.lst (en.map aU)]):=Ext.app _;have g4:(S3++[SO.lst (en.map aU)])[S3.length]?=ξ (.lst (en.map aU)):=by simp
 have n4:S3.length≠P:=by have:=o13.1;omega
 generalize S3.length=e at g4 n4;generalize S3++[SO.lst (en.map aU)]=S4 at g4 x4;rwa[Hq (x4.get hP3) (by simp[iF]) λS5 o5 l5 hP5=>?_]
 have la5:sI S5 L sg bh en:=by
  have:=la3.ext x4;exact#[oU o5 this.o ∅,oU o5 this.s ∅,oU o5 this.b ∅,oU o5 this.e ∅]
 have o15:=(WY o13 x4).trans o5;have g35:=oU o5 (x4.get g3) n2;have g45:=oU o5 g4 n4;room;rwa[d8 _ (λi acc S6=>i<=G.length/\Ext S5 S6/\acc=(G.take i).map λc=>.tup [.str [c],aU (kM (·.contains c) sg)]) (λi acc S6 hi z=>#[trivial,?_]) (λi v acc S6 k hv hi hk=>?_) (λacc S6 z=>?_) #[∅,.refl,rfl]]
 .rw[z.2.2];simp;omega
 .let#[_,x6,rfl]:=hi
  let#[c,hc,rfl]:=dW hv;have et:=HQ hc;room;rwa[ca h2 #[L,sg,bh,en,c,rfl,la5.ext x6,hl,λb S7 x7 hb=>#[#v[],?_]]];have eb:b=kM (·.contains c) sg:=kZ λp=>by rw[hb,sN]
  subst eb;erw[hk _ _ #[(ab.mp hc).1,x6.trans x7,by rw[et,aF];rfl]]
 let#[_,x6,rfl]:=z;rw[ae,bX]
 refine#[G.map λc=>([c],aU (kM (·.contains c) sg)),by simp[dH],%[bA|nd],?_];rw[bA]
 have x7:Ext S6 (S6++[SO.lst (G.map λc=>.tup [.str [c],aU (kM (·.contains c) sg)])]++[SO.dX (G.map ((λp=>(U.str p.1,p.2))∘λc=>([c],aU (kM (·.contains c) sg))))]):=(Ext.app _).trans (Ext.app _);have g7:(S6++[SO.lst (G.map λc=>.tup [.str [c],aU (kM (·.contains c) sg)])]++[SO.dX (G.map ((λp=>(U.str p.1,p.2))∘λc=>([c],aU (kM (·.contains c) sg))))])[(S6++[SO.lst (G.map λc=>.tup [.str [c],aU (kM (·.contains c) sg)])]).length]?=ξ (.dX (G.map λc=>(.str [c],aU (kM (·.contains c) sg)))):=by
  rw[aA (ao _),bT];rfl
 have n7:(S6++[SO.lst (G.map λc=>.tup [.str [c],aU (kM (·.contains c) sg)])]).length≠P:=by
  have:=o15.1;have:=x6.1;rw[aq];omega
 generalize (S6++[SO.lst (G.map λc=>.tup [.str [c],aU (kM (·.contains c) sg)])]).length=k at g7 n7;generalize S6++[SO.lst (G.map λc=>.tup [.str [c],aU (kM (·.contains c) sg)])]++[SO.dX (G.map ((λp=>(U.str p.1,p.2))∘λc=>([c],aU (kM (·.contains c) sg))))]=S7 at g7 x7;rwa[Hq ((x6.trans x7).get hP5) (by simp[iF]) λS8 o8 l8 hP8=>?_]
 room;subst hG;erw[q u S8 hu (λn hn=>((WY o15 (x6.trans x7)).trans o8).2 n ∅ ∅) #[b,e,k,hP8,oU o8 ((x6.trans x7).get g35) n2,oU o8 ((x6.trans x7).get g45) n4,oU o8 g7 n7]]
abbrev Te(bh:List Nat)(h r:Nat):Prop:=∀p,r.testBit p=ζ↔∃q B,h.testBit q=ζ/\bh[q]?=ξ B/\B.testBit p=ζ
abbrev KR:Spec:=λus S Q=>∃P bh en tk h,us=[.loc P,aU h]/\KO S P bh en tk/\bh.length<=100/\(∀p,h.testBit p=ζ->p<bh.length)/\∀r S',Te bh h r->Ext S S'->Q (aU r) S'
def W0(Γ:cb)(h1:Γ "members"=B9):Keeps Γ i9 2 KR:=by
 rintro us S Q ⟨P,bh,en,tk,h,rfl,pa,hl,hh,q⟩;unfold i9;room;rwa[ca h1 #[h,rfl,aD (kg hh) (bB ∅ hl),λn S1 x1 hn g1=>?_]];let#[b,e,k,o,gb,_,_]:=(pa.ext x1).o;have fb:∀{r},pC (.loc P) "behind" S1 r=r (.loc b):=by intro r;rw[jt,o];rfl
 room;rw[g1,ay]
 rwa[df (λi env S2=>S2=S1/\∃(r:Nat)(x3:Option U),env=[ξ (.loc P),ξ (aU h),ξ (aU r),x3]/\∀p,r.testBit p=ζ↔∃q B,q∈(Ef h).take i/\bh[q]?=ξ B/\B.testBit p=ζ) (λi env S2 z=>z.1▸g1) _ ?_ ?_ #[rfl,0,ψ,rfl,#v[]]]
 .rintro i u env S2 K hu ⟨rfl,r,x3,rfl,inv⟩ hK
  let#[p,hp,rfl]:=dW hu;have pl:=hh p (lP.mp (ag hp));have et:=HQ hp;room;rw[fb]
  room;rw[gb,ay,gc]
  rwa[vc (aa pl) ?_];room;rwa[hK _ _ #[rfl,_,_,rfl,λp'=>?_]];rw[cX,bw,inv,et]
  constructor
  .rintro(⟨q,B,m,e1,e2⟩|e2)
   .exact#[q,B,bz _ m,e1,e2]
   .exact#[p,_,bc _ (#v[]),aa pl,e2]
  .rintro⟨q,B,m,e1,e2⟩
   rcases aJ.mp m with m|m
   .erw[.inl #[q,B,m,e1,e2]]
   .simp at m;subst m
    rw[aa pl] at e1;injection e1 with e1
    erw[.inr (by rw[e1];exact e2)]
 .rintro env S2 ⟨rfl,r,x3,rfl,inv⟩
  room;rwa[q r _ (λp=>?_) x1];rw[inv,ae,bX]
  dsimp[lP]
abbrev Ov(h:Nat)(en:List Nat)(i:Nat):Prop:=∃Z,en[i]?=ξ Z/\∃p,h.testBit p=ζ/\Nat.testBit Z p=ζ
abbrev uN:Option Nat->U
 |none=>.b7
 |some i=>aU i
abbrev YM(h:Nat)(en:List Nat):Option Nat->Prop
 |none=>∀i,¬Ov h en i
 |some i=>Ov h en i/\∀i',i'<i->¬Ov h en i'
abbrev KS:Spec:=λus S Q=>∃P bh en tk h,us=[.loc P,aU h]/\KO S P bh en tk/\∀r,YM h en r->Q (uN r) S
def W2(Γ:cb):Keeps Γ fN 2 KS:=by
 rintro us S Q ⟨P,bh,en,tk,h,rfl,pa,q⟩;unfold fN;let#[b,e,k,o,_,ge,_]:=pa.o;have fe:∀{r},pC (.loc P) "ends" S r=r (.loc e):=by intro r;rw[jt,o];rfl
 room;rw[fe]
 room;rw[ge,ay]
 rwa[df (λi env S2=>S2=S/\∃(x2 x3:Option U),env=[ξ (.loc P),ξ (aU h),x2,x3]/\∀i',i'<i->¬Ov h en i') (λi env S2 z=>z.1▸ge) _ ?_ ?_ #[rfl,ψ,ψ,rfl,#v[]]]
 .rintro i u env S2 K hu ⟨rfl,x2,x3,rfl,inv⟩ hK
  dsimp[dY,ar,pP] at hu;let#[Z,hZ,rfl]:=au.mp hu;dsimp[dH];room;by_cases w:(((h&&&Z:Nat):Int) !=0)=ζ
  .rw[if_pos w]
   room;let#[p,hp]:=Ac.mp w;rw[bN,ak] at hp;erw[q (ξ i) #[#[Z,hZ,p,hp.1,hp.2],inv]]
  .rw[if_neg w]
   room;rwa[hK _ _ #[rfl,_,_,rfl,λi' hi=>?_]];by_cases z:i'=i
   .subst z
    rintro⟨Z',e1,p,e2,e3⟩;rw[hZ] at e1;injection e1 with e1;subst e1
    erw[w (Ac.mpr #[p,by rw[bN,e2,e3];rfl])]
   .erw[inv i' ∅]
 .rintro env S2 ⟨rfl,x2,x3,rfl,inv⟩
  room;rwa[q ψ λi ov=>?_]
  let#[Z,e1,_]:=ov;exact inv i (by have:=(ab.mp e1).1;simpa using this) #[Z,e1,‹_›]
structure AZ(ts:List Tr)(sg:List (List Nat))(bh en:List Nat):Prop where
 len:bh.length=sg.length
 Hr:en.length=ts.length
 dis:∀(i j:Nat)t t' p,ts[i]?=ξ t->ts[j]?=ξ t'->IN t p=ζ->IN t' p=ζ->i=j
 pos:∀t∈ts,∃n,0<n/\oO n t
 sgn:∀t∈ts,∀p,IN t p=ζ->sg[p]?=ξ (sgn t p)
 b0:∃B,bh[0]?=ξ B/\∀p,B.testBit p=ζ↔∃t∈ts,FS t p=ζ
 b:∀t∈ts,∀q,IN t q=ζ->∃B,bh[q]?=ξ B/\∀p,B.testBit p=oN (cont t q) p
 e:∀(i:Nat)t,ts[i]?=ξ t->∃Z,en[i]?=ξ Z/\∀p,Z.testBit p=(IN t p&&eU (cont t p))
 nl:∀t∈ts,null t=ϑ
section
variable{ts:List Tr}{sg:List (List Nat)}{bh en:List Nat}{u r r' c:Nat}{w:List Nat}
abbrev PD(ts:List Tr)(u:Nat)(w:List Nat)(r:Nat):Prop:=∀p,r.testBit p=ζ↔(∃t∈ts,∃q,hs t w q/\oN (ct t q) p=ζ)/\u.testBit p=ζ
def vd{q B:Nat}(h:(bh.map (·&&&u))[q]?=ξ B):∃B',bh[q]?=ξ B'/\B=B'&&&u:=by
 rw[ar] at h;let#[B',h1,h2]:=au.mp h;exact#[B',h1,h2.symm]
def ct0:ct t 0=[t]:=rfl
def UJ(h:p≠0):ct t p=cont t p:=by unfold ct;rw[if_neg h]
def W3:oN [t] p=FS t p:=by simp[oN]
def Hs(A:AZ ts sg bh en)(h:Te (bh.map (·&&&u)) 1 r):PD ts u [] r:=by
 intro p;let#[B,e0,b0]:=A.b0;rw[h p]
 constructor
 .rintro⟨q,B',h1,h2,h3⟩
  have q0:=ig.mp h1;subst q0;let#[B2,e2,rfl]:=vd h2;rw[e0] at e2;injection e2 with e2;subst e2
  rw[bN,ak,b0] at h3;let#[#[t,m,f],z]:=h3;exact#[#[t,m,0,rfl,%[ct0,W3|f]],z]
 .rintro⟨⟨t,m,q,hq,f⟩,z⟩
  have hq:q=0:=hq;subst hq;rw[ct0,W3] at f;exact#[0,B&&&u,rfl,by rw[ar,e0];rfl,by rw[bN,(b0 p).mpr #[t,m,f],z];rfl]
def sO(A:AZ ts sg bh en)(h:PD ts u w r)(p:Nat):(r&&&kM (·.contains c) sg).testBit p=ζ↔(∃t∈ts,hs t (w++[c]) p)/\u.testBit p=ζ:=by
 rw[bN,ak,h p,sN]
 constructor
 .rintro⟨⟨⟨t,m,q,hq,f⟩,z⟩,k⟩
  let#[l,e1,e2]:=wD k;rw[A.sgn t m p (yJ f)] at e1;injection e1 with e1;subst e1
  exact#[#[t,m,by rw[qh];exact#[q,hq,f,gW.mp e2]],z]
 .rintro⟨⟨t,m,hq⟩,z⟩
  rw[qh] at hq;let#[q,hq,f,k]:=hq;refine#[#[#[t,m,q,hq,f],z],?_];unfold nB;rw[A.sgn t m p (yJ f)]
  erw[gW.mpr k]
def qj(A:AZ ts sg bh en)(m:t∈ts)(h:hs t (w++[c]) p):IN t p=ζ/\p≠0/\nB Ae sg p=ζ:=by
 rw[qh] at h;let#[q,_,f,k]:=h;have i:=yJ f;let#[n,n0,pl]:=A.pos t m;refine#[i,Ab pl n0 i,?_];unfold nB;rw[A.sgn t m p i]
 show Ae (sgn t p)=ζ
 unfold Ae;cases e:nq.sgn t p with
 |nil=>rw[e] at k;simp at k
 |cons a l=>rfl
def KW(A:AZ ts sg bh en)(U:HR sg bh en u)(m:t∈ts)(h:hs t (w++[c]) q)(f:oN (ct t q) p=ζ)(z:u.testBit p=ζ):u.testBit q=ζ:=by
 let#[i,q0,k]:=qj A m h;let#[B,e1,e2]:=A.b t m q i;rw[UJ q0] at f;erw[U.b q B p k e1 (by rw[e2];exact f) z]
def wF(A:AZ ts sg bh en)(U:HR sg bh en u)(h:PD ts u w r)(hr:Te (bh.map (·&&&u)) (r&&&kM (·.contains c) sg) r'):PD ts u (w++[c]) r':=by
 intro p;rw[hr p]
 constructor
 .rintro⟨q,B',h1,h2,h3⟩
  let#[#[t,m,hq],_]:=(sO A h q).mp h1;let#[i,q0,_]:=qj A m hq;let#[B2,e2,rfl]:=vd h2;let#[B,e1,b1]:=A.b t m q i;rw[e1] at e2;injection e2 with e2;subst e2
  rw[bN,ak,b1] at h3;exact#[#[t,m,q,hq,%[UJ q0|h3.1]],h3.2]
 .rintro⟨⟨t,m,q,hq,f⟩,z⟩
  have uq:=KW A U m hq f z;let#[i,q0,_]:=qj A m hq;let#[B,e1,b1]:=A.b t m q i;rw[UJ q0] at f;exact#[q,B&&&u,(sO A h q).mpr #[#[t,m,hq],uq],by rw[ar,e1];rfl,by rw[bN,b1,f,z];rfl]
def OE(A:AZ ts sg bh en)(U:HR sg bh en u)(m:t∈ts)(h:hs t (w++[c]) p)(n:eU (ct t p)=ζ):u.testBit p=ζ:=by
 let#[i,p0,k]:=qj A m h;rw[UJ p0] at n;let#[j,ej]:=bq m;let#[Z,e1,e2]:=A.e j t ej;erw[U.e Z p (ag e1) (by rw[e2,i,n];rfl) k]
def KY(A:AZ ts sg bh en)(U:HR sg bh en u)(h:PD ts u w r)(i:Nat):Ov (r&&&kM (·.contains c) sg) en i↔∃t,ts[i]?=ξ t/\En t (hs t (w++[c])):=by
 constructor
 .rintro⟨Z,e1,p,h1,h2⟩
  have hi:i<ts.length:=by rw[<-A.Hr];exact(ab.mp e1).1
  let#[Z',e2,b2]:=A.e i _ (aa hi);rw[e1] at e2;injection e2 with e2;subst e2
  rw[b2,ak] at h2;let#[#[t,m,hq],_]:=(sO A h p).mp h1;let#[ip,p0,_]:=qj A m hq;let#[j,ej]:=bq m;have:=A.dis i j _ t p (aa hi) ej h2.1 ip;subst this;rw[aa hi] at ej;injection ej with ej;subst ej
  exact#[_,aa hi,p,hq,%[UJ p0|h2.2]]
 .rintro⟨t,ei,p,hq,n⟩
  have m:=ag ei;let#[Z,e1,e2]:=A.e i t ei;let#[ip,p0,_]:=qj A m hq;have up:=OE A U m hq n;rw[UJ p0] at n;exact#[Z,e1,p,(sO A h p).mpr #[#[t,m,hq],up],by rw[e2,ip,n];rfl]
end
abbrev eJ(ts:List Tr):Nat:=(ts.map size).sum
abbrev OF:Nat->List Tr->Prop
 |_,[]=>True
 |n,t::ts=>oO n t/\OF (n+size t) ts
def Af:∀{ts:List Tr}{n i:Nat}{t:Tr},OF n ts->ts[i]?=ξ t->oO (n+eJ (ts.take i)) t
 |[],n,i,t,h,e=>by simp at e
 |a::ts,n,0,t,h,e=>by
  have:a=t:=by simpa using e
  subst this;erw[h.1]
 |a::ts,n,i+1,t,h,e=>by
  have:=Af (i:=i) h.2 (~~~e);simpa[eJ,Nat.add_assoc] using this
def OG:AZ [] [[]] [0] []:=
 #[rfl,rfl,λi j t t' p h=>by simp at h,λt h=>by simp at h,λt h=>by simp at h,#[0,rfl,λp=>#v[]],λt h=>by simp at h,λi t h=>by simp at h,λt h=>by simp at h]
def KZ(A:AZ ts sg bh en)(s0:0<sg.length)(hp:oO sg.length t)(nt:null t=ϑ)(l:uW t bh F Z (B::bt)):AZ (ts++[t]) (sg++nA t) ((B|||F)::bt) (en++[Z]):=by
 have lt:∀t'∈ts,∀p,IN t' p=ζ->p<sg.length:=λt' m p i=>(ab.mp (A.sgn t' m p i)).1
 have ge:∀p,IN t p=ζ->sg.length<=p/\p<sg.length+size t:=λp i=>(fG hp).mp i
 have ll:=gv t;have l1:=l.len;have l2:=A.len;have bs:∀(q C:Nat),0<q->(B::bt)[q]?=ξ C->((B|||F)::bt)[q]?=ξ C:=λq C h e=>by
  cases q with
  |zero=>omega
  |succ q=>erw[e]
 have mem:∀{t'},t'∈ts++[t]->t'∈ts\/t'=t:=λh=>by simpa using h
 have at_:∀{i:Nat}{t'},(ts++[t])[i]?=ξ t'->ts[i]?=ξ t'\/(i=ts.length/\t'=t):=λ{i t'}h=>by
  rw[iO] at h;split at h
  .erw[.inl h]
  .rename_i z
   have il:i=ts.length:=by
    have:=(ab.mp h).1;simp at this;omega
   subst il;simp at h;erw[.inr #[rfl,h.symm]]
 refine#[?_,?_,?_,?_,?_,?_,?_,?_,?_]
 .rw[aq,ll]
  dsimp[aS] at l1 ⊢;omega
 .simp[A.Hr]
 .intro i j t1 t2 p e1 e2 i1 i2
  rcases at_ e1 with f1|⟨f1,g1⟩<;>rcases at_ e2 with f2|⟨f2,g2⟩
  .erw[A.dis i j _ _ p f1 f2 i1 i2]
  .have:=lt _ (ag f1) p i1;rw[g2] at i2;have:=ge p i2;omega
  .have:=lt _ (ag f2) p i2;rw[g1] at i1;have:=ge p i1;omega
  .omega
 .intro t' m
  rcases mem m with m|rfl
  .erw[A.pos t' m]
  .exact#[_,s0,hp]
 .intro t' m p i
  rcases mem m with m|rfl
  .rw[ah (lt t' m p i)];erw[A.sgn t' m p i]
  .rw[aA (ge p i).1];erw[rf hp i]
 .let#[B',e,b]:=A.b0
  have:=l.old 0 ∅;rw[e] at this;have eB:B=B':=by simpa using this
  subst eB;refine#[B|||F,rfl,λp=>?_];rw[cX,bw,b,l.f]
  constructor
  .rintro(⟨t',m,f⟩|f)
   .exact#[t',by simp[m],f]
   .exact#[t,#v[],f]
  .rintro⟨t',m,f⟩
   rcases mem m with m|rfl
   .erw[.inl #[t',m,f]]
   .erw[.inr f]
 .intro t' m q i
  rcases mem m with m|rfl
  .let#[C,e,b]:=A.b t' m q i
   have ql:=lt t' m q i;let#[n,n0,pl]:=A.pos t' m;have q0:=Ab pl n0 i;exact#[C,bs q C ∅ ((l.old q ∅).trans e),b]
  .let#[C,e,b]:=l.new q i
   have:=ge q i;exact#[C,bs q C ∅ e,b]
 .intro i t' e
  rcases at_ e with e|⟨rfl,rfl⟩
  .let#[Z',e1,b]:=A.e i t' e
   exact#[Z',%[ah (ab.mp e1).1|e1],b]
  .exact#[Z,by rw[<-A.Hr];simp,l.z]
 .intro t' m
  rcases mem m with m|rfl
  .erw[A.nl t' m]
  .erw[nt]
abbrev W4:Spec:=λus S Q=>∃x v t r,us=[.str x,v]/\x.length<=1000/\wq x=.ok (t,r)/\∀S',Ext S S'->Q t S'
def W5(Γ:cb)(h1:Γ "read"=Ec):Keeps Γ qa 1 W4:=by
 rintro us S Q ⟨x,v,t,r,rfl,hl,hr,q⟩;unfold qa;room;rwa[ca h1 #[x,rfl,hl,?_]];rw[hr]
 erw[q]
abbrev W6(ts:List Tr)(xs:List (List Nat)):Prop:=xs.length=ts.length/\∀(i:Nat)t x,ts[i]?=ξ t->xs[i]?=ξ x->x.length<=1000/\∃r,wq x=.ok (enc t,r)
structure oG(ts:List Tr):Prop where
 len:ts.length<=4
 pl:OF 1 ts
 nl:∀t∈ts,null t=ϑ
 dp:∀t∈ts,bP t<4
 sz:eJ ts<=24
def size_take(e:ts[i]?=ξ t):eJ (ts.take (i+1))=eJ (ts.take i)+size t/\eJ (ts.take (i+1))<=eJ ts:=by
 have h1:=HQ e;refine#[by rw[h1];simp[eJ],?_];have:eJ ts=eJ (ts.take (i+1))+eJ (ts.drop (i+1)):=by
  unfold eJ;rw[<-xc,<-aF,C1]
 omega
abbrev W7:Spec:=λus S Q=>∃n xs ts M,us=[.loc n,aU M]/\S[n]?=ξ (.lst (xs.map .str))/\W6 ts xs/\oG ts/\eJ ts<=M/\∀P u sg bh en S',KO S' P (bh.map (·&&&u)) en (λc=>kM (·.contains c) sg)->AZ ts sg bh en->HR sg bh en u->sg.length=1+eJ ts->Ext S S'->Q (.loc P) S'
def W8(Γ:cb)(h1:Γ "Layout.__init__"=SU)(h2:Γ "Layout.lay"=iC (Tu 4))(h3:Γ "tree_of"=W4)(h4:Γ "Layout.how_many"=SV)(h5:Γ "Layout.close_rule"=SW)(h6:Γ "Places.__init__"=KQ):Keeps Γ mB 4 W7:=by
 rintro us S Q ⟨n,xs,ts,M,rfl,gn,hR,hT,hM,q⟩;unfold mB;have gL:(S++[SO.ins "Layout" []])[S.length]?=ξ (.ins "Layout" []):=by simp
 have nS:=aK gn;room;rwa[ca h1 #[S.length,rfl,gL,#v[],λS1 e1 la1=>#[rfl,?_]]];have x1:∀n,n<S.length->S1[n]?=S[n]?:=λn hn=>by rw[e1 n hn,ah hn]
 have gn1:S1[n]?=ξ (.lst (xs.map .str)):=%[x1 n nS|gn]
 have xl:xs.length<=4:=%[hR.1|hT.len]
 room;dsimp[UB];rw[gn1,ay]
 have ec:tP (xs.map U.str) ψ (ξ 6)=xs.map U.str:=by
  unfold tP;dsimp[nH,fS,Int.toNat_zero,Nat.zero_min,l9,Nat.sub_zero,ae];rw[Mj (by show xs.length<=6;omega)]
  erw[gE (#v[])]
 rw[ec]
 refine#[#[λi e=>(by cases e),λi e=>(by injection e with e;omega)],?_];have x2:Ext S1 (S1++[SO.lst (xs.map U.str)]):=Ext.app _;have g2:(S1++[SO.lst (xs.map U.str)])[S1.length]?=ξ (.lst (xs.map .str)):=by simp
 have l1:=la1.len;generalize S1.length=m at g2 l1;generalize S1++[SO.lst (xs.map U.str)]=S2 at g2 x2;room;rw[g2,ay]
 refine df (λi env S3=>∃(sg:List (List Nat))(bh en:List Nat)(x3 x4 x5:Option U),env=[ξ (.loc n),ξ (aU M),ξ (.loc S.length),x3,x4,x5]/\Fr S.length S2 S3/\sI S3 S.length sg bh en/\AZ (ts.take i) sg bh en/\sg.length=1+eJ (ts.take i)/\i<=ts.length) (λi env S3 h9=>by let#[_,_,_,_,_,_,_,f,_]:=h9;exact f.get g2 l1) _ ?_ ?_
  #[[[]],[0],[],ψ,ψ,ψ,rfl,.refl,la1.ext x2,OG,rfl,∅]
 .rintro i u env S3 K hu ⟨sg,bh,en,x3,x4,x5,rfl,f3,la3,A,hsg,hi⟩ hK
  dsimp[dY,ar,pP] at hu;let#[x,hx,rfl]:=au.mp hu;have il:i<ts.length:=by rw[<-hR.1];exact(ab.mp hx).1
  have ht:ts[i]?=ξ ts[i]:=aa il;have hm:ts[i]∈ts:=cq il;generalize ts[i]=t at ht hm;let#[xle,r,hr]:=hR.2 i t x ht hx;have pt:=Af hT.pl ht;rw[<-hsg] at pt;let#[s1,s2]:=size_take ht;have sz:=hT.sz;have nt:=hT.nl t hm;dsimp[dH];room;rw[la3.o,b8]
  refine#[#[rfl,rfl],ca h3 #[x,_,enc t,r,rfl,xle,hr,λS4 x4=>?_]];have la4:=la3.ext x4;rwa[ca h2 #[S.length,sg,bh,en,t,_,rfl,#[hT.dp t hm,rfl],la4,pt,A.len,∅,λS5 p F Z bh' f5 pl5 g5 la5 lr=>?_]];rw[nt] at g5;room;rw[Hm g5]
  room;rw[la5.o,b8]
  refine#[#[rfl,rfl],ca h4 #[S.length,_,bh',en,rfl,la5,by rw[aq,gv];omega,?_]];have:¬((M:Int)<(((sg++nA t).length:Nat):Int)-1):=by rw[aq,gv];omega
  room;dsimp[this,decide_false,av,if_false];room;rw[la5.o,b8]
  have bl:=lr.len;cases bh' with
  |nil=>have:=A.len;simp at bl;omega
  |cons B bt=>
   refine#[#[rfl,rfl],ca h5 #[S.length,_,_,en,p,ϑ,F,Z,B,bt,rfl,la5,rfl,g5,pl5,by rw[A.Hr];simp;have:=hT.len;omega,λS6 f6 la6=>?_]];room;have et:=HQ ht;rwa[hK _ _ #[_,_,_,_,_,_,rfl,((f3.trans (Ext.fr x4)).trans f5).trans f6,la6,%[et|KZ A ∅ pt nt lr],by rw[aq,gv,s1];omega,il]]
 .rintro env S3 ⟨sg,bh,en,x3,x4,x5,rfl,f3,la3,A,hsg,hi⟩
  rw[gI,ae,hR.1,bX] at A hsg;have gn3:S3[n]?=ξ (.lst (xs.map .str)):=by
   rw[f3.2 n (by have:=x2.1;have:=aK gn1;omega) (.inl ∅),x2.2 n (aK gn1)];erw[gn1]
  room;rw[j8 gn3]
  dsimp[aT,ae];have:¬((6:Int)<(xs.length:Int)):=∅
  refine#[∅,?_];dsimp[this,decide_false,av,if_false];room;have gP:(S3++[SO.ins "Places" []])[S3.length]?=ξ (.ins "Places" []):=by simp
  have sz:=hT.sz;have sl3:=la3.len;rwa[ca h6 #[S3.length,S.length,sg,bh,en,rfl,gP,#v[],la3.ext (Ext.app _),∅,A.len,by rw[A.Hr];have:=hT.len;omega,λu S4 hu e4 pa=>#[rfl,?_]]];let#[_,_,_,oP,_]:=pa.o;rwa[q _ u sg bh en S4 pa A hu hsg #[?_,λn hn=>?_]]
  .have:=aK oP;omega
  .have:=x2.1
   have:=la1.len;rw[e4 n ∅,ah ∅,f3.2 n ∅ (.inl ∅),x2.2 n ∅];erw[x1 n hn]
abbrev er:Tr->Tr
 |.one _ l=>.one 0 l
 |.row a b=>.row (er a) (er b)
 |.or a b=>.or (er a) (er b)
 |.rep m a=>.rep m (er a)
def t6:∀t,enc (er t)=enc t
 |.one _ l=>rfl
 |.row a b=>by dsimp[er,enc,t6 a,t6 b]
 |.or a b=>by dsimp[er,enc,t6 a,t6 b]
 |.rep m a=>by dsimp[er,enc,t6 a]
def mH:∀t,null (er t)=null t
 |.one _ l=>rfl
 |.row a b=>by dsimp[er,null,mH a,mH b]
 |.or a b=>by dsimp[er,null,mH a,mH b]
 |.rep m a=>by cases m<;>dsimp[er,null,mH a]
def OH:more m (er a)=(more m a).map er:=by cases m<;>rfl
def yN:∀t c,dF (er t) c=(dF t c).map (dy er)
 |.one _ l,c=>by dsimp[er,dF];split<;>rfl
 |.row a b,c=>by
  dsimp[er,dF,yN a,yN b,mH,aF,bA]
  congr 1
  .congr 1;funext x;simp
  .split<;>rfl
 |.or a b,c=>by dsimp[er,dF,yN a,yN b,aF]
 |.rep m a,c=>by
  dsimp[er,dF,yN a,OH,bA]
  congr 1;funext x;simp
def PF:∀(K:List Tr)c,dR (K.map er) c=(dR K c).map (dy er)
 |[],c=>rfl
 |t::K,c=>by
  dsimp[aw,dR,yN,PF K,mH,aF,bA]
  congr 1
  .congr 1;funext x;simp
  .split<;>rfl
def Ag(K:List Tr):cU (K.map er)=cU K:=by
 unfold cU;rw[bA]
 congr 2;funext t
 erw[t6 t]
def eqT(h:mi (.tup [.str k,x]) (.tup [.str k',y])=ζ):k=k'/\mi x y=ζ:=by
 have h:((k==k')&&(mi x y&&ζ))=ζ:=h;rw[AW,ak] at h;exact#[eq_of_beq h.1,h.2]
def eqQ(h:mi (.tup [x,x']) (.tup [y,y'])=ζ):mi x y=ζ/\mi x' y'=ζ:=by
 have h:(mi x y&&(mi x' y'&&ζ))=ζ:=h;rw[AW,ak] at h;erw[h]
def OI(h:mi x y=ζ):mi (.tup [.str k,x]) (.tup [.str k,y])=ζ:=by
 show((k==k)&&(mi x y&&ζ))=ζ
 rw[h];simp
def W9(h:mi x y=ζ)(h':mi x' y'=ζ):mi (.tup [x,x']) (.tup [y,y'])=ζ:=by
 show(mi x y&&(mi x' y'&&ζ))=ζ
 rw[h,h'];rfl
def qI(m:Mk):oF m≠Oo/\oF m≠Eb/\oF m≠UH:=by cases m<;>decide
def mk_inj(h:oF m=oF m'):m=m':=by
 revert h
 cases m<;>cases m'<;>first|exact λ_=>rfl|exact λh=>absurd h ⋯
def t8:∀a b,mi (enc a) (enc b)=ζ->er a=er b
 |.one _ l,.one _ l',h=>by
  have:l=l':=eq_of_beq (show(l==l')=ζ from (eqT h).2);rw[this];rfl
 |.one _ _,.row _ _,h=>absurd (eqT h).1 ⋯
 |.one _ _,.or _ _,h=>absurd (eqT h).1 ⋯
 |.one _ _,.rep m _,h=>absurd (eqT h).1.symm (qI m).1
 |.row _ _,.one _ _,h=>absurd (eqT h).1 ⋯
 |.row a1 a2,.row b1 b2,h=>by
  have h:=eqQ (eqT h).2;dsimp[er,t8 a1 b1 h.1,t8 a2 b2 h.2]
 |.row _ _,.or _ _,h=>absurd (eqT h).1 ⋯
 |.row _ _,.rep m _,h=>absurd (eqT h).1.symm (qI m).2.1
 |.or _ _,.one _ _,h=>absurd (eqT h).1 ⋯
 |.or _ _,.row _ _,h=>absurd (eqT h).1 ⋯
 |.or a1 a2,.or b1 b2,h=>by
  have h:=eqQ (eqT h).2;dsimp[er,t8 a1 b1 h.1,t8 a2 b2 h.2]
 |.or _ _,.rep m _,h=>absurd (eqT h).1.symm (qI m).2.2
 |.rep m _,.one _ _,h=>absurd (eqT h).1 (qI m).1
 |.rep m _,.row _ _,h=>absurd (eqT h).1 (qI m).2.1
 |.rep m _,.or _ _,h=>absurd (eqT h).1 (qI m).2.2
 |.rep m a,.rep m' b,h=>by
  have e:=mk_inj (eqT h).1;subst e;dsimp[er,t8 a b (eqT h).2]
def nE:∀a,mi (enc a) (enc a)=ζ
 |.one _ l=>OI (show(l==l)=ζ by simp)
 |.row a b=>OI (W9 (nE a) (nE b))
 |.or a b=>OI (W9 (nE a) (nE b))
 |.rep m a=>OI (nE a)
def Ah:∀K L:List Tr,xv (K.map enc) (L.map enc)=ζ->K.map er=L.map er
 |[],[],_=>rfl
 |[],_::_,h=>by simp[xv] at h
 |_::_,[],h=>by simp[xv] at h
 |a::K,b::L,h=>by
  dsimp[aw,xv,ak] at h ⊢;rw[t8 a b h.1,Ah K L h.2]
def yO:∀K:List Tr,xv (K.map enc) (K.map enc)=ζ
 |[]=>rfl
 |a::K=>by simp[xv,nE a,yO K]
def Ai:mi (cU K) (cU L)=ζ↔cU K=cU L:=by
 constructor
 .intro h
  rw[<-Ag K,<-Ag L,Ah K L h]
 .intro h
  rw[<-h];erw[yO K]
def PH(h:cU K=cU L):K.map er=L.map er:=Ah K L (Ai.mpr h)
def K0(M:List Tr):eU (M.map er)=eU M:=by unfold eU;rw[CD];congr 1;funext t;erw[mH t]
def Tf(h:cU K=cU L):(dR K c).map cU=(dR L c).map cU:=by
 have key:∀M:List Tr,(dR (M.map er) c).map cU=(dR M c).map cU:=λM=>by
  rw[PF,bA];congr 1;funext x;erw[Ag x]
 rw[<-key K,<-key L,PH h]
def yP:∀t,xg (enc t)=ζ
 |.one _ l=>rfl
 |.row a b=>by simp[enc,xg,kK,yP a,yP b]
 |.or a b=>by simp[enc,xg,kK,yP a,yP b]
 |.rep m a=>by simp[enc,xg,kK,yP a]
def edh{x y a b:Nat}(h1:x<=2*a+1)(h2:y<=2*b+1):max 0 (max (max x (max y 0)+1) 0)+1<=2*(max a b+1)+1:=∅
def qk:∀t,dep (enc t)<=2*bP t+1
 |.one _ l=>by simp[enc,dep,n8]
 |.row a b=>by
  dsimp[enc,dep,n8,bP];erw[edh (qk a) (qk b)]
 |.or a b=>by
  dsimp[enc,dep,n8,bP];erw[edh (qk a) (qk b)]
 |.rep m a=>by
  have:=qk a;dsimp[enc,dep,n8,bP];omega
def Aj:∀K:List Tr,kK (K.map enc)=ζ
 |[]=>rfl
 |t::K=>by simp[kK,yP t,Aj K]
def wG:∀K:List Tr,(∀t∈K,bP t<=d)->n8 (K.map enc)<=2*d+1
 |[],_=>by simp[n8]
 |t::K,h=>by
  have h1:=qk t;have h2:=h t (aO ..);have h3:=wG K λt m=>h t (az _ m)
  dsimp[aw,n8];omega
abbrev jR(K:List Tr):Nat:=(K.map size).sum
def wH:jR (K++L)=jR K+jR L:=by simp[jR]
def clm{A B X Y:Nat}:A*X<=A*max X Y/\B*Y<=B*max X Y/\(A+B)*(max X Y+1)=A*max X Y+B*max X Y+A+B:=#[HJ _ (Nat.le_max_left ..),HJ _ (Mf ..),by rw[Nat.mul_add,Nat.add_mul];omega]
def nF:∀t p,(cont t p).length<=bP t/\(∀x∈cont t p,bP x<=bP t)/\jR (cont t p)<=size t*bP t
 |.one _ _,p=>by simp[cont,bP,jR]
 |.row a b,p=>by
  have ha:=nF a p;have hb:=nF b p;let#[m1,m2,m3]:=@clm (size a) (size b) (bP a) (bP b);dsimp[cont,bP,size];split
  .refine#[(·),λx hx=>?_,?_]
   .rcases aJ.mp hx with h|h
    .have:=ha.2.1 x h;omega
    .simp at h;subst h;omega
   .rw[wH,m3]
    have:jR [b]=size b:=by simp[jR]
    omega
  .exact#[∅,λx hx=>by have:=hb.2.1 x hx;omega,by rw[m3];omega]
 |.or a b,p=>by
  have ha:=nF a p;have hb:=nF b p;let#[m1,m2,m3]:=@clm (size a) (size b) (bP a) (bP b);dsimp[cont,bP,size];split
  .exact#[∅,λx hx=>by have:=ha.2.1 x hx;omega,by rw[m3];omega]
  .exact#[∅,λx hx=>by have:=hb.2.1 x hx;omega,by rw[m3];omega]
 |.rep m a,p=>by
  have ha:=nF a p;have m3:size a*(bP a+1)=size a*bP a+size a:=by rw[Nat.mul_add];omega
  dsimp[cont,bP,size];refine#[?_,λx hx=>?_,?_]
  .cases m<;>simp[more]<;>omega
  .rcases aJ.mp hx with h|h
   .have:=ha.2.1 x h;omega
   .cases m<;>simp[more] at h<;>subst h<;>simp[bP]
  .rw[wH,m3]
   have:jR (more m a)<=size a:=by cases m<;>simp[more,jR,size]
   omega
def Ak(h:bP t<4)(hs:size t<=100):(ct t p).length<=4/\(∀x∈ct t p,bP x<4)/\jR (ct t p)<=400:=by
 unfold ct;split
 .exact#[#v[],~~~h,by simp[jR];omega]
 .have:=nF t p
  have m:size t*bP t<=100*4:=Nat.mul_le_mul hs ∅;exact#[∅,λx hx=>by have:=this.2.1 x hx;omega,∅]
def mT:∀t c,(dF t c).length<=size t/\∀x∈dF t c,x.length<=bP t
 |.one _ l,c=>by dsimp[dF];split<;>simp[size]
 |.row a b,c=>by
  have ha:=mT a c;have hb:=mT b c;dsimp[dF,size,bP];refine#[by rw[aq,ae];split<;>(try simp)<;>omega,λx hx=>?_];rcases aJ.mp hx with h|h
  .let#[y,hy,rfl]:=bx.mp h
   have:=ha.2 y hy;simp;omega
  .split at h
   .have:=hb.2 x h;omega
   .simp at h
 |.or a b,c=>by
  have ha:=mT a c;have hb:=mT b c;dsimp[dF,size,bP];refine#[(·),λx hx=>?_];rcases aJ.mp hx with h|h
  .have:=ha.2 x h;omega
  .have:=hb.2 x h;omega
 |.rep m a,c=>by
  have ha:=mT a c;dsimp[dF,size,bP];refine#[(·),λx hx=>?_];let#[y,hy,rfl]:=bx.mp hx;have:=ha.2 y hy;cases m<;>simp[more]<;>omega
def K1:∀(K:List Tr)c,(dR K c).length<=jR K
 |[],c=>by simp[dR]
 |t::K,c=>by
  have h1:=(mT t c).1;have h2:=K1 K c;dsimp[dR,jR,aw,nM,aq,ae] at h2 ⊢;split<;>(try simp)<;>omega
def jc{g:bH->Prop}{c:U->bH->(Bool->bH->Prop)->Prop}{e:U->bH->KU->Prop}{Q:List U->bH->Prop}{S:bH}(l vs:List U)(hv:vs.length=l.length)(hl:l.length<1000000)(hg:∀S',Ext S S'->g S')(hc:∀u S' k,k ζ S'->c u S' k)
  (he:∀(i:Nat)u v,l[i]?=ξ u->vs[i]?=ξ v->∀S' k,Ext S S'->(∀S2,Ext S' S2->k v S2)->e u S' k) (q:∀S',Ext S S'->Q vs S'):oM g c e Q l [] S:=by
 rwa[d8 l (λi acc S'=>Ext S S'/\acc=vs.take i) (λi acc S' hi h=>#[hg _ h.1,?_]) (λi u acc S' k hu hi hk=>?_) (λacc S' h=>?_) #[.refl,rfl]]
 .rw[h.2,dD];omega
 .let#[x,rfl]:=hi
  have il:i<vs.length:=by rw[hv];exact(ab.mp hu).1
  rwa[hc _ _ _ ?_];rw[if_pos rfl]
  rwa[he i u _ hu (aa il) S' _ x λS2 x2=>hk _ _ #[x.trans x2,?_]]
  rw[ie,aa il];rfl
 .let#[x,rfl]:=h
  rw[<-hv,bX];erw[q S' x]
abbrev YN(f:Tr->Bool)(fR:List Tr->Bool)(d:Nat):Spec:=λus S Q=>∃u,us=[u]/\((∃t,u=enc t/\bP t<d/\∀S',Ext S S'->Q (.bl (f t)) S')\/∃K,u=OB K/\0<d/\(∀t∈K,bP t+1<d)/\K.length<=1000/\∀S',Ext S S'->Q (.bl (fR K)) S')
abbrev Al:Nat->Spec:=YN null eU
def Am{K:List Tr}{f:Tr->U}{i:Nat}{u v:U}(hu:(K.map enc)[i]?=ξ u)(hv:(K.map f)[i]?=ξ v):∃t,t∈K/\u=enc t/\v=f t:=by
 rw[ar] at hu hv;let#[t,e,rfl]:=au.mp hu;rw[e] at hv;exact#[t,ag e,rfl,(aG hv).symm]
section
variable{Γ:cb}{N:String}{d:Nat}{f:Tr->Bool}{fR:List Tr->Bool}{S:bH}{Q:KU}{k:U}{K:List Tr}
def Fw(h1:Γ N=YN f fR d)(hK:∀t∈K,bP t<d)(hl:K.length<=1000)(q:∀S',Ext S S'->Q (.bl (K.all f)) S'):
  WE Γ (.blt .all (.cons (.comp ϑ (.call N (.cons @0 .nil)) (.val (.ix @0 ↑1)) (.cY (.lit (.bl ζ))) []) .nil)) [ξ (.tup [k,.tup (K.map enc)])] S Q:=by
 room;dsimp[lX,aT];refine#[#v[],(·),?_];rwa[jc _ (K.map λt=>.bl (f t)) (#v[]) ((·)) (λ_ _=>trivial) (λu S' k h=>h) (λi u v hu hv S' k x hk=>?_) λS' x=>?_]
 .let#[t,m,rfl,rfl]:=Am hu hv
  erw[ca h1 #[_,rfl,.inl #[t,rfl,hK t m,hk]]]
 .exact#[K.map f,#v[],by rw[show(K.map f).all id=K.all f by rw[CD];rfl];erw[q _ (x.trans (Ext.app _))]]
def OJ(h1:Γ N=YN f fR d)(hK:∀t∈K,bP t<d)(hl:K.length<=1000)(q:∀S',Ext S S'->Q (.bl (K.any f)) S'):
  WE Γ (.blt .any (.cons (.comp ϑ (.call N (.cons @0 .nil)) (.val (.ix @0 ↑1)) (.cY (.lit (.bl ζ))) []) .nil)) [ξ (.tup [k,.tup (K.map enc)])] S Q:=by
 room;dsimp[lX,aT];refine#[#v[],(·),?_];rwa[jc _ (K.map λt=>.bl (f t)) (#v[]) ((·)) (λ_ _=>trivial) (λu S' k h=>h) (λi u v hu hv S' k x hk=>?_) λS' x=>?_]
 .let#[t,m,rfl,rfl]:=Am hu hv
  erw[ca h1 #[_,rfl,.inl #[t,rfl,hK t m,hk]]]
 .exact#[K.map f,#v[],by rw[show(K.map f).any id=K.any f by rw[CJ];rfl];erw[q _ (x.trans (Ext.app _))]]
end
def dp2(h:max (bP a) (bP b)+1<d+1)(m:t∈[a,b]):bP t<d:=by
 rcases aR.mp m with rfl|m
 .omega
 .simp at m;subst m;omega
def rr(h:WE Γ e env S (λv S1=>D.rt v S1)):Rest Γ #v[.ret e] D env S:=h
def Xa(Γ:cb)(d:Nat)(h1:Γ "_law_nothing"=Al d):Keeps Γ jJ 0 (Al (d+1)):=by
 rintro us S Q ⟨u,rfl,h⟩;unfold jJ;rcases h with⟨t,rfl,dt,q⟩|⟨K,rfl,-,dK,hl,q⟩
 .cases t with
  |one n l=>erw[sM rfl rfl (q S .refl)]
  |row a b=>exact jQ rfl rfl (sM rfl rfl (rr (Fw (K:=[a,b]) h1 (λt m=>dp2 dt m) (#v[]) λS' x=>by have:=q S' x;simpa[null] using this)))
  |or a b=>exact jQ rfl rfl (jQ rfl rfl (sM rfl rfl (rr (OJ (K:=[a,b]) h1 (λt m=>dp2 dt m) (#v[]) λS' x=>by have:=q S' x;simpa[null] using this))))
  |rep m a=>
   have dt:bP a+1<d+1:=dt;have k1:=qI m;refine jQ rfl (beq_eq_false_iff_ne.mpr k1.1) (jQ rfl (beq_eq_false_iff_ne.mpr k1.2.1) (jQ rfl (beq_eq_false_iff_ne.mpr k1.2.2) ?_));unfold enc;room;dsimp[pD,lX,aT];refine#[#v[],#v[],?_];have e2:∀q:Bool->Prop,rX (.str (oF m)) [.str lO,.str kT] q=q (Ho m):=λq=>by
    have:=anyS (a:=oF m) (l:=[lO,kT]) (q:=q);cases m<;>simpa[Ho,oF] using this
   rw[e2]
   cases m<;>dsimp[Ho,Jg,av,if_false,if_true]
   .erw[q S .refl]
   .exact#[#v[],ca h1 #[_,rfl,.inl #[a,rfl,∅,q]]]
   .erw[q S .refl]
 .erw[jQ rfl rfl (sM rfl rfl (rr (Fw h1 (λt m=>by have:=dK t m;omega) hl q)))]
def yQ{α:Type}{x:List α}{a:Nat}:tP x (ξ (a:Nat)) ψ=x.drop a:=by
 unfold tP;dsimp[fS,nH,kb,Nat.min_self];by_cases h:a<=x.length
 .rw[Nat.min_eq_left h,gE (#v[])]
 .rw[Mj ∅,LP,j6 ∅];simp
abbrev Eg(d:Nat):Spec:=λus S Q=>∃u c,us=[u,.str [c]]/\((∃t,u=enc t/\bP t<d/\size t<=1000/\∀n S',Ext S S'->S.length<=n->S'[n]?=ξ (.lst ((dF t c).map cU))->Q (.loc n) S') \/
 ∃K,u=OB K/\0<d/\(∀t∈K,bP t+1<d)/\K.length<=1000/\jR K<=1000/\∀n S',Ext S S'->S.length<=n->S'[n]?=ξ (.lst ((dR K c).map cU))->Q (.loc n) S')
abbrev pBr:dG:=#v[.set 2 (.lst .nil),.iz (.name 4) (.range (.blt .len #v[.ix @0 ↑1])) #v[.set 2 (.bin .add @2 (.comp ϑ (.bin .add @0 (.sl (.ix @1 ↑1) (.e (.bin .add @2 ↑1)) .no)) (.val (.call "_law_behind" #v[.ix (.ix @0 ↑1) @4,@1])) (.cY (.lit (.bl ζ))) [0,4])),.ifs (.not (.cY (.call "_law_nothing" #v[.ix (.ix @0 ↑1) @4]))) #v[.ret @2] .nil],.ret @2]
def K2{K:List Tr}{t:Tr}(m:t∈K):size t<=jR K:=by
 let#[a,b,rfl]:=HK m;rw[wH]
 simp[jR];omega
def K3{Γ:cb}{d:Nat}(hd:d<=100)(h1:Γ "_law_behind"=Eg d)(h2:Γ "_law_nothing"=Al d){S:bH}{Q:KU}{D:Ends}(hD:D.rt=Q){K:List Tr}{c:Nat}(hK:∀t∈K,bP t<d)(hl:K.length<=1000)(hs:jR K<=1000)
  (q:∀n S',Ext S S'->S.length<=n->S'[n]?=ξ (.lst ((dR K c).map cU))->Q (.loc n) S'):Rest Γ pBr D [ξ (OB K),ξ (.str [c]),ψ,ψ,ψ,ψ] S:=by
 subst hD;unfold pBr OB;room;refine#[#v[],?_];have x0:Ext S (S++[SO.lst []]):=Ext.app _;have g0:(S++[SO.lst []])[S.length]?=ξ (.lst ((([]:List (List Tr))).map cU)):=by simp
 generalize S++[SO.lst []]=S0 at x0 g0;room;dsimp[lX,aT];have el:∀S,nj S (cU K)=ξ K.length:=λS=>by simp[cU,nj]
 rw[el,aT]
 refine#[#v[],∅,∅,∅,?_];rwa[df (λi env S1=>∃(acc:List (List Tr))(m:Nat)(x4:Option U),env=[ξ (.tup [.str [114,111,119],cU K]),ξ (.str [c]),ξ (.loc m),ψ,x4,ψ]/\Ext S S1/\S.length<=m/\S1[m]?=ξ (.lst (acc.map cU))/\acc++dR (K.drop i) c=dR K c) (λ_ _ _ _=>trivial) _ ?_ ?_ #[[],S.length,ψ,rfl,x0,ao _,g0,rfl]]
 .rintro i u env S1 K' hu ⟨acc,m,x4,rfl,x1,ml,g1,inv⟩ hK'
  let#[rfl,hi]:=jO hu;have hi:i<K.length:=by simpa using hi
  have ht:K[i]?=ξ K[i]:=aa hi;have hd':K.drop i=K[i]::K.drop (i+1):=fw hi;have hm:K[i]∈K:=cq hi;generalize K[i]=t at ht hd' hm;have tl:=hK t hm;have ts:=K2 hm;have ai:∀{r:U->Prop},opt (qV (K.map enc) ((i:Nat):Int)) r=r (enc t):=λ{r}=>by rw[gc,ar,ht];rfl
  have bl:=K1 K c;rw[<-inv,aq] at bl;rw[hd',dR] at inv;have fl:=mT t c;room;dsimp[lX,aT];unfold cU;dsimp[E1,ai,ae];refine#[#v[],∅,ca h1 #[_,c,rfl,.inl #[t,rfl,tl,∅,λn S2 x2 nl g2=>?_]]];room;rw[g2,ay]
  rwa[jc (S:=S2) _ (((dF t c).map (·++K.drop (i+1))).map cU) (#v[]) ((·)) (λS' x=>x.get g2) (λu S' k h=>h) (λj u v hu hv S' k x hk=>?_) λS3 x3=>?_]
  .let#[y,e,rfl]:=dW hu
   rw[ar,ar,e] at hv;have hv:=aG hv;subst hv;have yl:=fl.2 y (ag e);refine#[#v[],?_];have e1:((i:Int)+1)=((i+1:Nat):Int):=∅
   dsimp[UB,e1,yQ];refine#[#[λi e=>(by injection e with e;omega),λi e=>(by cases e)],#[(·),?_,#v[]],?_]
   .intro z
    have:=congrArg cD z;simp at this;rw[this] at hi;simp at hi
   .unfold cU
    rw[Rj]
    refine#[(·),?_];have:dy enc y++List.drop (i+1) (dy enc K)=dy enc (y++List.drop (i+1) K):=by simp[List.map_drop]
    rw[this]
    erw[hk S' .refl]
  .have x13:Ext S1 S3:=x2.trans x3
   generalize hW:((dF t c).map (·++K.drop (i+1)))=W at inv;have wl:W.length<=1000:=by rw[<-hW];simp;omega
   rw[ah (aK (x13.get g1)),x13.get g1,ay]
   rw[aA (ao _),bT]
   dsimp[Bc,ay];refine#[(·),?_];have x4:Ext S3 (S3++[SO.lst (W.map cU)]++[SO.lst (acc.map cU++W.map cU)]):=(Ext.app _).trans (Ext.app _);have g4:(S3++[SO.lst (W.map cU)]++[SO.lst (acc.map cU++W.map cU)])[(S3++[SO.lst (W.map cU)]).length]?=ξ (.lst ((acc++W).map cU)):=by
    rw[aA (ao _),bT,aF];rfl
   have l4:S.length<=(S3++[SO.lst (W.map cU)]).length:=by have:=(x1.trans x13).1;rw[aq];omega
   generalize (S3++[SO.lst (W.map cU)]).length=m4 at g4 l4;generalize S3++[SO.lst (W.map cU)]++[SO.lst (acc.map cU++W.map cU)]=S4 at x4 g4;room;dsimp[lX,aT,E1,ai,ae];refine#[#v[],∅,ca h2 #[_,rfl,.inl #[t,rfl,tl,λS5 x5=>?_]]];room;have xx:Ext S S5:=(x1.trans x13).trans (x4.trans x5);cases nt:null t with
   |false=>
    rw[nt] at inv;dsimp[bU,if_true];room;refine q m4 S5 xx l4 (by rw[<-inv];simp;have:=x5.get g4;simpa using this)
   |true=>
    rw[nt] at inv;dsimp[bG,av,if_false];room;erw[hK' _ _ #[acc++W,m4,_,rfl,xx,l4,x5.get g4,by rw[<-inv];simp]]
 .rintro env S1 ⟨acc,m,x4,rfl,x1,ml,g1,inv⟩
  room;have:K.drop (dy (λk=>U.int ((k:Nat):Int)) (bO K.length)).length=[]:=j6 (#v[]);rw[this,dR,cz] at inv;erw[q m S1 x1 ml (by rw[<-inv];exact g1)]
def Xb(Γ:cb)(d:Nat)(hd:d<=100)(h1:Γ "_law_behind"=Eg d)(h2:Γ "_law_nothing"=Al d):Keeps Γ kF 4 (Eg (d+1)):=by
 rintro us S Q ⟨u,c,rfl,h⟩;unfold kF;rcases h with⟨t,rfl,dt,sz,q⟩|⟨K,rfl,-,dK,hl,hs,q⟩
 .cases t with
  |one n l=>
   rwa[sM rfl rfl ?_];unfold enc;room;dsimp[lX,aT];refine#[#v[],?_];room;by_cases z:l.contains c=ζ
   .rw[if_pos z]
    refine#[#v[],#v[],q _ _ (Ext.app _) (ao _) ?_];have e:dF (.one n l) c=[[]]:=by dsimp[dF,if_pos z]
    rw[e];simp[cU]
   .rw[if_neg z]
    refine#[#v[],q _ _ (Ext.app _) (ao _) ?_];have e:dF (.one n l) c=[]:=by dsimp[dF,if_neg z]
    rw[e];simp
  |row a b=>
   have dt:max (bP a) (bP b)+1<d+1:=dt;have sz:size a+size b<=1000:=sz;rwa[jQ rfl rfl (jQ rfl rfl (sM rfl rfl ?_))];rwa[K3 (K:=[a,b]) hd h1 h2 rfl (λt m=>?_) (#v[]) (by simp[jR];omega) λn S' x nl g=>q n S' x nl ?_]
   .rcases aR.mp m with rfl|m
    .omega
    .simp at m;subst m;omega
   .rw[g];simp[dR,dF]
  |or a b=>
   have dt:max (bP a) (bP b)+1<d+1:=dt;have sz:size a+size b<=1000:=sz;have la:=mT a c;have lb:=mT b c;rwa[jQ rfl rfl (sM rfl rfl ?_)];unfold enc;room;refine#[#v[],?_];have g0:(S++[SO.lst []])[S.length]?=ξ (.lst []):=by simp
   have x0:Ext S (S++[SO.lst []]):=Ext.app _;generalize S.length=m0 at g0;generalize S++[SO.lst []]=S0 at g0 x0;room;dsimp[lX,aT,v_t,uT];refine#[#v[],#v[],trivial,?_];room;rwa[ca h1 #[_,c,rfl,.inl #[a,rfl,∅,∅,λn S1 x1 nl g1=>?_]]];room;rw[x1.get g0,g1]
   dsimp[ay,jz];refine#[(·),?_];have g2:(S1++[SO.lst ((dF a c).map cU)])[S1.length]?=ξ (.lst ((dF a c).map cU)):=by simp
   have x2:Ext S1 (S1++[SO.lst ((dF a c).map cU)]):=Ext.app _;generalize S1.length=m2 at g2;generalize S1++[SO.lst ((dF a c).map cU)]=S2 at g2 x2;room;rwa[ca h1 #[_,c,rfl,.inl #[b,rfl,∅,∅,λn3 S3 x3 nl3 g3=>?_]]];room;rw[x3.get g2,g3]
   dsimp[ay];refine#[(·),?_];room;have xx:=((x0.trans x1).trans x2).trans x3;erw[q _ _ (xx.trans (Ext.app _)) xx.1 (by simp[dF])]
  |rep m a=>
   have dt:bP a+1<d+1:=dt;have sz:size a<=1000:=sz;have k1:=qI m;have la:=mT a c;refine jQ rfl (beq_eq_false_iff_ne.mpr k1.1) (jQ rfl (beq_eq_false_iff_ne.mpr k1.2.2) (jQ rfl (beq_eq_false_iff_ne.mpr k1.2.1) ?_));have go:Rest Γ (.cons (.ret (.comp ϑ (.bin .add @0 @1) (.val (.call "_law_behind" (.cons (.ix @0 ↑1) (.cons @1 .nil)))) (.cY (.lit (.bl ζ))) [5])) .nil) #[λ_ S1=>Q .b7 S1,Q] [ξ (enc (.rep m a)),ξ (.str [c]),ψ,ψ,ψ,ξ (cU (more m a))] S:=by
    unfold enc;room;dsimp[lX,aT];refine#[#v[],ca h1 #[_,c,rfl,.inl #[a,rfl,∅,∅,λn S1 x1 nl g1=>?_]]];room;rw[g1,ay]
    rwa[jc (S:=S1) _ (((dF a c).map (·++more m a)).map cU) (#v[]) ((·)) (λS' x=>x.get g1) (λu S' k h=>h) (λj u v hu hv S' k x hk=>?_) λS3 x3=>?_]
    .let#[y,e,rfl]:=dW hu
     rw[ar,ar,e] at hv;have hv:=aG hv;subst hv;have yl:=la.2 y (ag e);unfold cU;room;have ml:(more m a).length<=1:=by cases m<;>simp[more]
     refine#[(·),?_];have:=hk S' .refl;unfold cU at this;simpa using this
    .have x13:=x1.trans x3
     erw[q _ _ (x13.trans (Ext.app _)) x13.1 (by simp[dF])]
   have ek:enc (.rep m a)= .tup [.str (oF m),enc a]:=rfl;rw[ek] at go ⊢;room;dsimp[pD,lX,aT];refine#[#v[],?_];room;cases m with
   |may=>
    rw[if_pos (by simp[oF])]
    exact#[#v[],go]
   |star=>
    rw[if_neg (by simp[oF])]
    exact#[#v[],#v[],#v[],go]
   |plus=>
    rw[if_neg (by simp[oF])]
    exact#[#v[],#v[],#v[],go]
 .erw[jQ rfl rfl (jQ rfl rfl (sM rfl rfl (K3 hd h1 h2 rfl (λt m=>by have:=dK t m;omega) hl hs q)))]
abbrev Sq(S:bH)(u:U)(X:List U):Prop:=(∃n,u=.loc n/\S[n]?=ξ (.lst X))\/u=.tup X
def K4{S S0:bH}{u:U}{X:List U}{R:List U->(bH->Prop)->Prop}(h:Sq S u X)(x:Ext S S0)(hl:X.length<=1000)(q:∀g:bH->Prop,(∀S',Ext S S'->g S')->R X g):GH u S0 R:=by
 rcases h with⟨n,rfl,g⟩|rfl
 .rw[v_l,x.get g,ay];erw[q _ λS' x=>x.get g]
 .rw[v_t];exact#[∅,q _ λ_ _=>trivial]
abbrev Th:Spec:=λus S Q=>∃v c X t H n0,us=[v,.str [c]]/\Sq S v X/\L5 t H X/\oO n0 t/\0<n0/\bP t<4/\size t<=100/\X.length<=1000/\∀m Y S',Ext S S'->S'[m]?=ξ (.lst Y)->L5 t (Wy t c H) Y->Q (.loc m) S'
def An{α:Type}:∀{l l':List α},l.Nodup->(∀x∈l,x∈l')->l.length<=l'.length
 |[],_,_,_=>by simp
 |a::l,l',nd,h=>by
  let#[s,t,rfl]:=HK (h a (aO ..));rw[fE] at nd;have:=An (l':=s++t) nd.2 λx m=>by
   have hx:=h x (az _ m);dsimp[aJ,aR] at hx ⊢;rcases hx with z|z|z
   .erw[.inl z]
   .subst z;erw[absurd m nd.1]
   .erw[.inr z]
  dsimp[aq,aS] at this ⊢;omega
abbrev YO(t:Tr)(c:Nat)(H:Nat->Prop)(y:U):Prop:=∃p,Wy t c H p/\y=cU (ct t p)
def PJ{t:Tr}{c:Nat}{H:Nat->Prop}(dt:bP t<4)(sz:size t<=100):∀{Y:List U},(∀y∈Y,YO t c H y)->kK Y=ζ/\n8 Y<=100
 |[],_=>#[rfl,by simp[n8]]
 |y::Y,h=>by
  let#[p,_,rfl]:=h y (aO ..);let#[i1,i2]:=PJ dt sz λz m=>h z (az _ m)
  have e2:=wG (d:=3) (ct t p) λx m=>uK ((Ak (p:=p) dt sz).2.1 x m)
  constructor
  .show(kK _&&kK Y)=ζ
   rw[Aj (ct t p),i1];rfl
  .erw[Nat.max_le.mpr #[aI (dg e2) ⋯,i2]]
def Xc{t:Tr}{c n0:Nat}{H:Nat->Prop}(pl:oO n0 t)(sz:size t<=100){Y:List U}(nd:Y.Nodup)(h:∀y∈Y,YO t c H y):Y.length<=100:=by
 have:=An (l':=(vt n0 (size t)).map λp=>cU (ct t p)) nd λy m=>by
  let#[p,#[q,_,f,_],rfl]:=h y m;erw[bx.mpr #[p,Ii.mpr ((fG pl).mp (yJ f)),rfl]]
 rw[ae,List.length_range'] at this;erw[aI this sz]
def Xd(Γ:cb)(h1:Γ "_law_behind"=Eg 5):Keeps Γ k9 3 Th:=by
 rintro us S Q ⟨v,c,X,t,H,n0,rfl,g,rp,pl,n1,dt,sz,hX,q⟩;unfold k9;room;refine#[#v[],?_];have x0:Ext S (S++[SO.lst []]):=Ext.app _;have g0:(S++[SO.lst []])[S.length]?=ξ (.lst []):=by simp
 room;rwa[K4 g x0 hX λgg hg=>?_]
 rwa[df (λi env S1=>∃(Y:List U)(x3 x4:Option U),env=[ξ v,ξ (.str [c]),ξ (.loc S.length),x3,x4]/\Ext S S1/\S1[S.length]?=ξ (.lst Y)/\Y.Nodup/\(∀y∈Y,YO t c H y)/\∀(j:Nat)p,j<i->X[j]?=ξ (cU (ct t p))->∀y∈dR (ct t p) c,cU y∈Y) (λi env S1 h9=>by let#[_,_,_,_,x,_]:=h9;erw[hg _ x]) _ ?_ ?_ #[[],ψ,ψ,rfl,x0,g0,#v[],#v[],∅]]
 .rintro i u env S1 K hu ⟨Y,x3,x4,rfl,x1,g1,nd,hP,inv⟩ hK
  let#[p,hp,rfl]:=(rp.1 u).mp (ag hu);let#[l1,l2,l3]:=Ak (p:=p) dt sz;room;refine#[#v[],ca h1 #[_,c,rfl,.inr #[ct t p,rfl,∅,λx m=>by have:=l2 x m;omega,∅,∅,λm S2 x2 ml g2=>?_]]];have ml:S.length<m:=aD (aK g1) ml;room;rw[g2,ay]
  rwa[df (λj env S3=>∃(Z:List U)(x4:Option U),env=[ξ v,ξ (.str [c]),ξ (.loc S.length),ξ (cU (ct t p)),x4]/\Ext S S3/\S3[m]?=ξ (.lst ((dR (ct t p) c).map cU))/\S3[S.length]?=ξ (.lst Z)/\Z.Nodup/\(∀y∈Z,YO t c H y)/\(∀y∈Y,y∈Z)/\∀k y,k<j->(dR (ct t p) c)[k]?=ξ y->cU y∈Z) (λj env S3 h9=>by let#[_,_,_,_,g,_]:=h9;erw[g]) _ ?_ ?_ #[Y,x4,rfl,x1.trans x2,g2,x2.get g1,nd,hP,λ_ h=>h,∅]]
  .rintro j u env S3 K' hu ⟨Z,x4,rfl,x3,g3,gz,nd,hP,hY,inv'⟩ hK'
   let#[y,hy,rfl]:=dW hu;let#[p',f1,f2,rfl]:=(KH pl n1).mp (ag hy);have st:Wy t c H p':=#[p,hp,f1,f2]
   have zl:=Xc pl sz nd hP;have fz:=PJ dt sz hP;have eb:(Z.any λw=>mi w (cU (ct t p')))=ζ↔cU (ct t p')∈Z:=by
    rw[iW]
    constructor
    .rintro⟨w,m,e⟩
     let#[p2,_,rfl]:=hP w m;rw[Ai.mp e] at m;erw[m]
    .intro m;exact#[_,m,Ai.mpr rfl]
   have ev:cU (ct t p')= .tup ((ct t p').map enc):=rfl;rw[ev] at eb ⊢;room;rw[gz,ay]
   refine#[#[Aj _,fz.1,fz.2],?_];by_cases z:(Z.any λw=>mi w (.tup ((ct t p').map enc)))=ζ
   .rw[z]
    dsimp[bG,av,if_false];room;rwa[hK' _ _ #[Z,_,rfl,x3,g3,gz,nd,hP,hY,λk y hk ey=>?_]];by_cases e:k=j
    .subst e;rw[hy] at ey;cases ey;erw[eb.mp z]
    .erw[inv' k y ∅ ey]
   .rw[fW _ |>.mp z]
    dsimp[bU,if_true];room;rw[gz,ay]
    refine#[trivial,gJ zl ⋯,?_];room;have nz:¬U.tup ((ct t p').map enc)∈Z:=λm=>z (eb.mpr m)
    rwa[hK' _ _ #[Z++[.tup ((ct t p').map enc)],_,rfl,x3.st (ao _),%[aj (bb ml)|g3],gs gz,?_,λy m=>?_,λy m=>bz _ (hY y m),λk y hk ey=>?_]]
    .rw[d7]
     exact#[nd,#v[],λa ma b mb e=>by simp at mb;subst mb;subst e;erw[nz ma]]
    .rcases aJ.mp m with m|m
     .erw[hP y m]
     .simp at m;exact#[p',st,m]
    .by_cases e:k=j
     .subst e;rw[hy] at ey;cases ey;erw[bc _ (by simp[cU])]
     .erw[bz _ (inv' k y ∅ ey)]
  .rintro env S3 ⟨Z,x4,rfl,x3,g3,gz,nd,hP,hY,inv'⟩
   room;rwa[hK _ _ #[Z,_,_,rfl,x3,gz,nd,hP,λj p2 hj ej y my=>?_]];by_cases e:j=i
   .subst e
    rw[hu] at ej;have e2:=Tf (c:=c) (aG ej);have:cU y∈(dR (ct t p2) c).map cU:=bx.mpr #[y,my,rfl];rw[<-e2] at this;let#[y2,m2,e3]:=bx.mp this;let#[k,hk]:=bq m2;rw[<-e3]
    exact inv' k y2 (by have:=(ab.mp hk).1;simpa using this) hk
   .erw[hY _ (inv j p2 ∅ ej y my)]
 .rintro env S1 ⟨Y,x3,x4,rfl,x1,g1,nd,hP,inv⟩
  room;rwa[q _ Y S1 x1 g1 #[λy=>#[λm=>hP y m,?_],nd]];rintro⟨p,⟨q',hq,f1,f2⟩,rfl⟩;let#[j,hj]:=bq ((rp.1 _).mpr #[q',hq,rfl]);erw[inv j q' (ab.mp hj).1 hj _ ((KH pl n1).mpr #[p,f1,f2,rfl])]
abbrev Ti:Spec:=λus S Q=>∃v X t H,us=[v]/\Sq S v X/\L5 t H X/\bP t<4/\size t<=100/\X.length<=1000/\∀b S',(b=ζ↔En t H)->Ext S S'->Q (.bl b) S'
def any_rows{Γ:cb}{N:String}{f:Tr->Bool}{fR:List Tr->Bool}(h1:Γ N=YN f fR 5)(key:∀M:List Tr,fR (M.map er)=fR M){v:U}{X:List U}{t:Tr}{H:Nat->Prop}{S:bH}{Q:KU}(g:Sq S v X)(rp:L5 t H X)(dt:bP t<4)(sz:size t<=100)(hl:X.length<=1000)(q:∀b S',(b=ζ↔∃p,H p/\fR (ct t p)=ζ)->Ext S S'->Q (.bl b) S'):
  WE Γ (.blt .any (.cons (.comp ϑ (.call N (.cons (.tup (.cons ↑[114,111,119] (.cons @0 .nil))) .nil)) (.val @0) (.cY (.lit (.bl ζ))) []) .nil)) [ξ v] S Q:=by
 room;rwa[K4 g .refl hl λgg hg=>?_]
 rwa[d8 X (λi acc S1=>Ext S S1/\∃bs:List Bool,acc=bs.map .bl/\bs.length=i/\∀(j:Nat)p,j<i->X[j]?=ξ (cU (ct t p))->bs[j]?=ξ (fR (ct t p))) (λi acc S1 hi h9=>by let#[x,bs,e1,e2,_]:=h9;exact#[hg _ x,by rw[e1,ae];omega]) (λi u acc S1 k hu hi hk=>?_) (λacc S1 h=>?_) #[.refl,[],rfl,rfl,∅]]
 .let#[x,bs,rfl,e2,inv]:=hi
  let#[p,hp,rfl]:=(rp.1 u).mp (ag hu);let#[l1,l2,l3]:=Ak (p:=p) dt sz;room;refine#[#v[],ca h1 #[_,rfl,.inr #[ct t p,rfl,∅,λy m=>by have:=l2 y m;omega,∅,λS2 x2=>?_]]];rwa[hk _ _ #[x.trans x2,bs++[fR (ct t p)],#v[],by simp[e2],λj p2 hj ej=>?_]];by_cases z:j=i
  .subst z
   rw[hu] at ej;rw[aA ∅,e2,bT,<-key,PH (aG ej),key];rfl
  .rw[ah ∅];erw[inv j p2 ∅ ej]
 .let#[x,bs,rfl,e2,inv]:=h
  refine#[bs,#v[],q _ _ ?_ (x.trans (Ext.app _))];rw[iW]
  constructor
  .rintro⟨b,m,hb⟩
   let#[j,hj]:=bq m;have jl:j<X.length:=by rw[<-e2];exact(ab.mp hj).1
   let#[p,hp,e]:=(rp.1 _).mp (cq jl);have:=inv j p jl (by rw[aa jl,e]);rw[hj] at this;have:=aG this;exact#[p,hp,by rw[<-this];erw[hb]]
  .rintro⟨p,hp,hn⟩
   let#[j,hj]:=bq ((rp.1 _).mpr #[p,hp,rfl]);have:=inv j p (ab.mp hj).1 hj;exact#[_,ag this,by rw[hn];rfl]
def Xe(Γ:cb)(h1:Γ "_law_nothing"=Al 5):Keeps Γ pE 0 Ti:=by
 rintro us S Q ⟨v,X,t,H,rfl,g,rp,dt,sz,hl,q⟩;erw[rr (any_rows h1 K0 g rp dt sz hl q)]
def ve(pl:oO n0 t)(h:L5 t (hs t w) X):X.length<=size t+1:=by
 have:=An (l':=(0::vt n0 (size t)).map λp=>cU (ct t p)) h.2 λy m=>by
  let#[p,hp,rfl]:=(h.1 y).mp m;rwa[bx.mpr #[p,?_,rfl]];rcases Wz hp with z|z
  .subst z;simp
  .erw[az _ (Ii.mpr ((fG pl).mp z))]
 simpa using this
def Ao(h:oG ts)(m:t∈ts):∃n,oO n t/\0<n/\size t<=100/\bP t<4:=by
 let#[i,e]:=bq m;have:=size_take e;have:=h.sz;exact#[_,Af h.pl e,∅,∅,h.dp t m]
abbrev A0(m:List Nat)(c:Nat):List Nat:=if m.contains c=ζ then [92,c] else [c]
def Eh(m:List Nat)(c:Nat):(A0 m c).length<=2:=by unfold A0;split<;>simp
abbrev UK(R:List Nat):List Nat:=A0 MW (R.headD 0)++[45]++A0 MW (R.getLastD 0)
abbrev PK(R:List Nat):List (List Nat):=if (R.map (A0 MW)).flatten.length<=(UK R).length then R.map (A0 MW) else [UK R]
abbrev rnS(st:List (List Nat)×List Nat)(c:Nat):List (List Nat)×List Nat:=if jf (st.2++[c]) SG=ζ then(st.1,st.2++[c]) else(st.1++[st.2],[c])
abbrev UL(l:List Nat):List (List Nat):=(l.foldl rnS ([],[])).1++[(l.foldl rnS ([],[])).2]
abbrev Ht(l:List Nat):List (List Nat):=(UL l).flatMap PK
abbrev Tj:List (List Nat)->List Nat
 |[]=>[]
 |x::r=>if [94].isPrefixOf x=ζ then(if r.isEmpty=ζ then 92::x else r.flatten++x) else(x::r).flatten
abbrev UM(l:List Nat):List (List Nat):=(if l==[] then [] else [[91]++Tj (Ht l)++[93]])++if l==SG then [] else [[91,94]++(Ht (eF l)).flatten++[93]]
abbrev aa3:List (List Nat)->List Nat
 |[]=>[]
 |t::ts=>ts.foldl (λb x=>if x.length<b.length then x else b) t
abbrev L7(l:List Nat):List Nat:=if l.length=1 then A0 MO (l.headD 0) else aa3 (UM l)
abbrev Hu(l:List Nat):Bool:=decide (l.length<=95)&&((UL l).all λR=>!(R==[])&&decide (R.length<=95))&&decide ((UL l).length<=100)&&decide ((Ht l).length<=200)&&decide ((Ht l).flatten.length<=400) && !(Ht l==[])
abbrev Tn:Spec:=λus S Q=>∃c m,us=[.str [c],.str m]/\Q (.str (A0 m c)) S
def Xf(Γ:cb):Keeps Γ mv 0 Tn:=by
 rintro us S Q ⟨c,m,rfl,q⟩;unfold mv;room;unfold A0 at q;by_cases z:m.contains c=ζ
 .rw[if_pos z] at q ⊢
  exact#[#v[],q]
 .rw[if_neg z] at q ⊢
  erw[q]
def wI:∀ts:List (List Nat),mm [] ts=ts.flatten
 |[]=>rfl
 |[x]=>by simp[mm]
 |x::y::r=>by
  rw[mm,wI (y::r)]
  .simp
  .simp
def Ap(ts:List (List Nat)):(ts.map cD).sum+ts.length*([]:List Nat).length=ts.flatten.length:=by rw[List.length_flatten];simp
abbrev Xg:Spec:=λus S Q=>∃R,us=[.str R]/\R≠[]/\R.length<=95/\∀n S',Ext S S'->S'[n]?=ξ (.lst ((PK R).map .str))->Q (.loc n) S'
def K5(m:List Nat):∀R:List Nat,(R.map (A0 m)).flatten.length<=2*R.length
 |[]=>by simp
 |c::r=>by
  have:=K5 m r;have:=Eh m c;rw[aw,ui,aq,aS];omega
def Xh(Γ:cb)(h1:Γ "sign_text"=Tn):Keeps Γ mw 2 Xg:=by
 rintro us S Q ⟨R,rfl,ne,hl,q⟩;unfold mw;have f2:=K5 MW R;room;rwa[jc (S:=S) _ ((R.map (A0 MW)).map .str) (#v[]) ((·)) (λ_ _=>trivial) (λu S' k h=>h) (λi u v hu hv S' k x hk=>?_) λS1 x1=>?_]
 .let#[c,e,rfl]:=dW hu
  rw[ar,ar,e] at hv;cases hv;erw[ca h1 #[c,MW,rfl,hk S' .refl]]
 have g2:(S1++[SO.lst ((R.map (A0 MW)).map U.str)])[S1.length]?=ξ (.lst ((R.map (A0 MW)).map U.str)):=by simp
 have x2:Ext S (S1++[SO.lst ((R.map (A0 MW)).map U.str)]):=x1.trans (Ext.app _);generalize S1.length=m at g2;generalize S1++[SO.lst ((R.map (A0 MW)).map U.str)]=S2 at g2 x2;have t1:=Eh MW (R.headD 0);have t2:=Eh MW (R.getLastD 0);have wl:(UK R).length<=5:=by unfold UK;rw[aq,aq];dsimp[aS,dB];omega
 have e0:qV R 0=ξ (R.headD 0):=by
  cases R with
  |nil=>erw[absurd rfl ne]
  |cons a r=>erw[pD]
 have el:qV R (-1)=ξ (R.getLastD 0):=by
  have:0<R.length:=F6.mpr ne;unfold qV Ni;rw[if_neg ∅,if_pos ∅]
  dsimp[HL];rw[List.getLastD_eq_getLast?,List.getLast?_eq_getElem?]
  have e:((-1:Int)+(R.length:Int)).toNat=R.length-1:=∅
  rw[e,aa ∅]
  rfl
 room;rw[e0,el]
 dsimp[aT];refine#[∅,ca h1 #[_,MW,rfl,#[by rw[gU];omega,∅,ca h1 #[_,MW,rfl,#[by rw[aq,gU];omega,?_]]]]];have ew:A0 MW (R.headD 0)++[45]++A0 MW (R.getLastD 0)=UK R:=rfl;rw[ew]
 room;refine#[_,g2,by rw[Ap];omega,?_];rw[wI]
 refine#[∅,∅,?_];unfold PK at q;by_cases z:(R.map (A0 MW)).flatten.length<=(UK R).length
 .rw[if_pos z] at q
  rw[if_pos (~~~z)]
  erw[q _ _ x2 g2]
 .rw[if_neg z] at q
  rw[if_neg (~~~z)]
  exact#[#v[],q _ _ (x2.trans (Ext.app _)) (#v[])]
abbrev Xi:Spec:=λus S Q=>∃l,us=[.str l]/\l.length<=95/\∀n S',Ext S S'->S.length<=n->S'[n]?=ξ (.lst ((UL l).map .str))->Q (.loc n) S'
def Xj(Γ:cb):Keeps Γ zO 3 Xi:=by
 rintro us S Q ⟨l,rfl,hl,q⟩;unfold UL rnS at q;unfold zO;generalize hG:SG=G at q ⊢;room;refine#[#v[],?_];have x0:Ext S (S++[SO.lst []]):=Ext.app _;have g0:(S++[SO.lst []])[S.length]?=ξ (.lst []):=by simp
 room;have keep:∀{S1:bH}{o:SO},Ext S S1->Ext S (S1.set S.length o):=λx=>(x.st ∅)
 rwa[df (λi env S1=>∃(st:List (List Nat)×List Nat)(x3:Option U),env=[ξ (.str l),ξ (.loc S.length),ξ (.str st.2),x3]/\S1[S.length]?=ξ (.lst (st.1.map .str))/\Ext S S1/\st.1.length<=i/\st.2.length<=i/\i<=l.length/\st=(l.take i).foldl (λst c=>if jf (st.2++[c]) G=ζ then(st.1,st.2++[c]) else(st.1++[st.2],[c])) ([],[])) (λ_ _ _ _=>trivial) _ ?_ ?_ #[([],[]),ψ,rfl,g0,x0,#v[],#v[],∅,rfl]]
 .rintro i u env S1 K hu ⟨st,x3,rfl,g1,x1,l1,l2,hi,e⟩ hK
  let#[c,hc,rfl]:=dW hu;have il:=(ab.mp hc).1;have et:=HQ hc;room;refine#[(·),?_];show(if (!jf (st.2++[c]) G)=ζ then _ else _)
  by_cases z:jf (st.2++[c]) G=ζ
  .rw[z]
   dsimp[bG,av,if_false];room;refine#[(·),?_];room;rwa[hK _ _ #[(st.1,st.2++[c]),_,rfl,g1,x1,(·),(·),il,?_]];rw[et,hU,<-e]
   dsimp[jA,qB,if_pos z]
  .rw[fW _ |>.mp z]
   dsimp[bU,if_true];room;rw[g1,ay]
   refine#[trivial,(·),?_];room;refine#[#v[],?_];room;rwa[hK _ _ #[(st.1++[st.2],[c]),_,rfl,by rw[gs g1];simp,keep x1,(·),#v[],il,?_]];rw[et,hU,<-e]
   dsimp[jA,qB,if_neg z]
 .rintro env S1 ⟨st,x3,rfl,g1,x1,l1,l2,hi,e⟩
  room;rw[g1,ay]
  rw[ae] at l1 e;rw[bX] at e;refine#[trivial,(·),?_];room;erw[q _ _ (keep x1) (ao _) (by rw[gs g1,<-e];simp)]
abbrev Xk:Spec:=λus S Q=>∃l,us=[.str l]/\Hu l=ζ/\∀n S',Ext S S'->S'[n]?=ξ (.lst ((Ht l).map .str))->Q (.loc n) S'
def Fx{α β:Type}(f:α->List β):∀(l:List α)(i:Nat),((l.take i).flatMap f).length<=(l.flatMap f).length
 |[],i=>by simp
 |a::l,0=>by simp
 |a::l,i+1=>by
  have:=Fx f l i;rw[FZ,Ij,Ij,aq,aq];omega
def Xm(Γ:cb)(h1:Γ "runs"=Xi)(h2:Γ "run_items"=Xg):Keeps Γ kB 2 Xk:=by
 rintro us S Q ⟨l,rfl,ok,q⟩;unfold Hu at ok;dsimp[ak,decide_eq_true_eq] at ok;let#[#[#[#[#[o1,o2],o3],o4],o5],o6]:=ok;rw[bK] at o2;unfold Ht at q o4;unfold kB;room;refine#[#v[],?_];have x0:Ext S (S++[SO.lst []]):=Ext.app _;have g0:(S++[SO.lst []])[S.length]?=ξ (.lst []):=by simp
 have l0:(S++[SO.lst []]).length=S.length+1:=by simp
 generalize S++[SO.lst []]=S1 at x0 g0 l0;room;rwa[ca h1 #[l,rfl,o1,λn S2 x2 nl g2=>?_]];generalize UL l=Rs at o2 o3 o4 q g2;room;rw[g2,ay]
 refine df (λi env S3=>∃x,env=[ξ (.str l),ξ (.loc S.length),x]/\S3[S.length]?=ξ (.lst (((Rs.take i).flatMap PK).map .str))/\S3[n]?=ξ (.lst (Rs.map .str))/\Ext S S3) (λi env S3 h9=>by let#[_,_,_,h,_]:=h9;erw[h]) _ ?_ ?_ #[ψ,rfl,~~~(x2.get g0),g2,x0.trans x2]
 .rintro i u env S3 K hu ⟨x,rfl,g3,g4,x3⟩ hK
  let#[R,hc,rfl]:=dW hu;have hR:=o2 R (ag hc);dsimp[ak,decide_eq_true_eq,hJ,beq_eq_false_iff_ne] at hR;have tk:(Rs.take (i+1)).flatMap PK=(Rs.take i).flatMap PK++PK R:=by rw[ie,hc];simp
  have tl:=Fx PK Rs (i+1);rw[tk,aq] at tl;room;rw[g3,ay]
  refine#[trivial,ca h2 #[R,rfl,hR.1,hR.2,λm S4 x4 g5=>?_]];room;rw[x4.get g3,g5,ay,ay]
  refine#[by rw[ae,ae];omega,?_];room;rwa[hK _ _ #[_,rfl,by rw[gs (x4.get g3),tk];simp,?_,?_]]
  .rw[aj ∅];erw[x4.get g4]
  .have:=x3.trans x4
   exact(this.st ∅)
 .rintro env S3 ⟨x,rfl,g3,g4,x3⟩
  rw[ae,bX] at g3;room;erw[q _ _ x3 g3]
def PM(x:List Nat)(r:List (List Nat)):Tj (x::r)=if [94].isPrefixOf x=ζ then(if r.isEmpty=ζ then 92::x else r.flatten++x) else(x::r).flatten:=rfl
abbrev Xn:Spec:=λus S Q=>∃n its,us=[.loc n]/\S[n]?=ξ (.lst (its.map .str))/\its≠[]/\its.length<=200/\its.flatten.length<=400/\∀S',Ext S S'->Q (.str (Tj its)) S'
def Xo(Γ:cb):Keeps Γ p9 0 Xn:=by
 rintro us S Q ⟨n,its,rfl,g,ne,hl,hf,q⟩;unfold p9;cases its with
 |nil=>erw[absurd rfl ne]
 |cons x r=>
  rw[ui,aq] at hf;dsimp[aS] at hl;have a0:∀{R:U->Prop},opt (qV ((x::r).map U.str) 0) R=R (.str x):=by intro R;rw[aw,pD];rfl
  room;rw[g,ay]
  rw[a0]
  room;rw[PM] at q;by_cases z:[94].isPrefixOf x=ζ
  .rw[if_pos z] at q
   rw[z]
   dsimp[bG,av,if_false];room;rw[j8 g]
   dsimp[aT,ae,aS];refine#[∅,?_];cases r with
   |nil=>
    have q:∀S',Ext S S'->Q (.str (92::x)) S':=q;rw[if_pos (#v[])]
    room;rw[g,ay]
    rw[a0]
    room;exact#[by simp at hf ⊢;omega,q S .refl]
   |cons y r=>
    rw[if_neg (#v[])] at q;rw[if_neg ((·))]
    room;dsimp[UB];rw[g,ay]
    have ec:tP ((x::y::r).map U.str) (ξ 1) ψ=(y::r).map U.str:=yQ (a:=1);rw[ec]
    refine#[#[λi e=>(by injection e with e;omega),λi e=>(by cases e)],y::r,#v[],by rw[Ap];omega,?_];rw[wI]
    show getL (S++_)[n]? _
    rw[(Ext.app _:Ext S _).get g,ay,a0]
    room;exact#[∅,q _ (Ext.app _)]
  .rw[if_neg z] at q
   rw[fW _ |>.mp z]
   dsimp[bU,if_true];room;refine#[x::r,g,by rw[Ap,ui,aq];omega,?_];rw[wI]
   erw[q S .refl]
def To(its:List (List Nat)):(Tj its).length<=its.flatten.length+1:=by
 cases its with
 |nil=>simp[Tj]
 |cons x r=>
  rw[PM]
  split
  .split
   .rename_i z;have:r=[]:=by simpa using z
    subst this;simp
   .simp;omega
  .simp
abbrev Tp(l:List Nat):Bool:=(l==[]||Hu l)&&(l==SG||Hu (eF l))
abbrev Xp:Spec:=λus S Q=>∃l,us=[.str l]/\Tp l=ζ/\∀n S',Ext S S'->S'[n]?=ξ (.lst ((UM l).map .str))->Q (.loc n) S'
def Cd(h:Hu l=ζ):(Ht l).length<=200/\(Ht l).flatten.length<=400/\Ht l≠[]:=by
 unfold Hu at h;dsimp[ak,decide_eq_true_eq,hJ,beq_eq_false_iff_ne] at h;exact#[h.1.1.2,h.1.2,h.2]
abbrev pCt:dG:=#v[.ifs (.cY (.cmp .ne @0 (.lit (.str SG)))) #v[.ex (.jD .append @1 #v[.bin .add (.bin .add ↑[91,94] (.jD .join (.lit (.str [])) #v[.call "class_items" #v[.call "all_but" #v[@0]]])) ↑[93]])] .nil,.ret @1]
def Xq(Γ:cb)(h1:Γ "class_items"=Xk)(h2:Γ "guarded"=Xn)(h3:Γ "all_but"=spT eF):Keeps Γ kA 1 Xp:=by
 rintro us S Q ⟨l,rfl,ok,q⟩;unfold Tp at ok;rw[ak,bw,bw] at ok;have keep:∀{S1:bH}{o:SO},Ext S S1->Ext S (S1.set S.length o):=λx=>(x.st ∅)
 have fin:∀S1 acc,Ext S S1->S1[S.length]?=ξ (.lst (acc.map .str))->acc.length<=10->acc=(if l==[] then [] else [[91]++Tj (Ht l)++[93]])->Rest Γ pCt #[λ_ S1=>Q .b7 S1,Q] [ξ (.str l),ξ (.loc S.length)] S1:=by
  intro S1 acc x1 g1 al ea;unfold UM at q;rw[<-ea] at q;unfold pCt;have ok2:=ok.2;generalize SG=G at q ok2;room;by_cases z:(l==G)=ζ
  .rw[z]
   rw[if_pos z,cz] at q;dsimp[bG,av,if_false];room;erw[q _ _ x1 g1]
  .rw[fW _ |>.mp z]
   rw[if_neg z] at q;dsimp[bU,if_true];have ck:=ok2.resolve_left z;let#[f1,f2,f3]:=Cd ck;room;rw[g1,ay]
   refine#[trivial,ca h3 #[l,rfl,λS2 x2=>ca h1 #[_,rfl,ck,λn S3 x3 g3=>#[_,g3,by rw[Ap];omega,?_]]]];rw[wI]
   refine#[by dsimp[aS,dB];omega,by rw[aq];dsimp[aS,dB];omega,?_];show getL S3[S.length]? _;rw[(x2.trans x3).get g1,ay]
   refine#[by rw[ae];omega,?_];room;erw[q _ _ (keep (x1.trans (x2.trans x3))) (by rw[gs ((x2.trans x3).get g1)];simp)]
 unfold kA;room;refine#[#v[],?_];have x0:Ext S (S++[SO.lst []]):=Ext.app _;have g0:(S++[SO.lst []])[S.length]?=ξ (.lst []):=by simp
 generalize S++[SO.lst []]=S0 at x0 g0;room;by_cases z:(l==[])=ζ
 .rw[z]
  dsimp[bG,av,if_false];erw[Rest.go (fin S0 [] x0 g0 (#v[]) (by rw[if_pos z]))]
 .rw[fW _ |>.mp z]
  dsimp[bU,if_true];have ck:=ok.1.resolve_left z;let#[f1,f2,f3]:=Cd ck;have gl:=To (Ht l);room;rw[g0,ay]
  refine#[trivial,ca h1 #[l,rfl,ck,λn S2 x2 g2=>ca h2 #[n,_,rfl,g2,f3,f1,f2,λS3 x3=>?_]]];room;refine#[by dsimp[aS,dB];omega,by dsimp[aS,dB];omega,?_];rw[(x2.trans x3).get g0,ay]
  refine#[#v[],?_];erw[Rest.go (fin _ [[91]++Tj (Ht l)++[93]] (keep (x0.trans (x2.trans x3))) (by rw[gs ((x2.trans x3).get g0)];simp) (#v[]) (by rw[if_neg z]))]
@[reducible]def CL:List (List Nat):=[[97],[98],[99],[97,98],[98,99],SG,[48],[]]
def K6:∀l∈CL,l.length=1\/(Tp l=ζ/\(l==eF [10])=ϑ/\UM l≠[]/\(UM l).all (λx=>decide (x.length<=1000))=ζ):=by
 decide +kernel
abbrev OK:Spec:=λus S Q=>∃l,us=[.str l]/\l∈CL/\∀S',Ext S S'->Q (.str (L7 l)) S'
def Xr(Γ:cb)(h1:Γ "sign_text"=Tn)(h2:Γ "all_but"=spT eF)(h3:Γ "class_texts"=Xp):Keeps Γ k7 0 OK:=by
 rintro us S Q ⟨l,rfl,hl,q⟩;have fa:=K6 l hl;have ll:l.length<=95:=by
  have:∀l∈CL,l.length<=95:=⋯
  erw[this l hl]
 unfold k7;unfold L7 at q;room;refine#[∅,?_];by_cases z:l.length=1
 .rw[if_pos z] at q
  rw[if_pos (by rw[z];rfl)]
  obtain⟨c,rfl⟩:∃c,l=[c]:=jY.mp z;room;erw[ca h1 #[c,MO,rfl,q S .refl]]
 .rw[if_neg z] at q
  rw[if_neg ((·))]
  let#[f1,f2,f3,f4]:=fa.resolve_left z;room;rwa[ca h2 #[_,rfl,λS1 x1=>?_]];room;rw[f2]
  dsimp[av,if_false];room;rwa[ca h3 #[l,rfl,f1,λn S2 x2 g2=>?_]];cases e:UM l with
  |nil=>erw[absurd e f3]
  |cons t ts=>
   rw[e] at g2 q f4;refine#[t,ts,g2,λu hu=>?_,q S2 (x1.trans x2)];have:=bK.mp f4 u hu;simp at this;omega
def Tq:∀l∈CL,(L7 l).length<=10:=by decide +kernel
def vf:L7 [97,98]=[91,97,98,93]/\L7 [98,99]=[91,98,99,93]/\L7 SG=[91,10,45,126,93]/\L7 []=[91,94,10,45,126,93]:=by decide +kernel
set_option maxRecDepth 100000 in
def OL(h:l∈CL)(br:Option (List Nat->PR U)):wy br (L7 l) (Oq l):=by
 intro rest;dsimp[aR,cA,or_false] at h;rcases h with rfl|rfl|rfl|rfl|rfl|rfl|rfl|rfl
 .rfl
 .rfl
 .rfl
 .rw[vf.1];rfl
 .rw[vf.2.1];rfl
 .rw[vf.2.2.1];rfl
 .rfl
 .rw[vf.2.2.2];rfl
abbrev num:Nat->Tr->Tr
 |n,.one _ l=>.one n l
 |n,.row a b=>.row (num n a) (num (n+size a) b)
 |n,.or a b=>.or (num n a) (num (n+size a) b)
 |n,.rep m a=>.rep m (num n a)
def t9:∀t n,enc (num n t)=enc t/\size (num n t)=size t/\bP (num n t)=bP t/\null (num n t)=null t/\nA (num n t)=nA t/\oO n (num n t)
 |.one _ l,n=>#[rfl,rfl,rfl,rfl,rfl,rfl]
 |.row a b,n=>by
  let#[a1,a2,a3,a4,a5,a6]:=t9 a n;let#[b1,b2,b3,b4,b5,b6]:=t9 b (n+size a);dsimp[num,enc,size,bP,null,nA,oO,a1,a2,a3,a4,a5,b1,b2,b3,b4,b5];exact#[trivial,trivial,trivial,trivial,trivial,a6,b6]
 |.or a b,n=>by
  let#[a1,a2,a3,a4,a5,a6]:=t9 a n;let#[b1,b2,b3,b4,b5,b6]:=t9 b (n+size a);dsimp[num,enc,size,bP,null,nA,oO,a1,a2,a3,a4,a5,b1,b2,b3,b4,b5];exact#[trivial,trivial,trivial,trivial,trivial,a6,b6]
 |.rep m a,n=>by
  let#[a1,a2,a3,a4,a5,a6]:=t9 a n;cases m<;>dsimp[num,enc,size,bP,null,nA,oO,a1,a2,a3,a4,a5]<;>exact#[trivial,trivial,trivial,trivial,trivial,a6]
abbrev ua:Nat->List Tr->List Tr
 |_,[]=>[]
 |n,t::ts=>num n t::ua (n+size t) ts
def sP:∀ts n,(ua n ts).map enc=ts.map enc/\OF n (ua n ts)/\eJ (ua n ts)=eJ ts/\∀t∈ua n ts,∃t'∈ts,bP t=bP t'/\null t=null t'/\nA t=nA t'
 |[],n=>#[rfl,trivial,rfl,by simp[ua]]
 |t::ts,n=>by
  let#[a1,a2,a3,a4,a5,a6]:=t9 t n;let#[b1,b2,b3,b4]:=sP ts (n+size t);refine#[by dsimp[ua,aw,a1,b1],#[a6,%[a2|b2]],by dsimp[eJ] at b3 ⊢;dsimp[ua,aw,nM,a2,b3],λt' m=>?_];rcases aR.mp m with rfl|m
  .exact#[t,aO ..,a3,a4,a5]
  .let#[t2,m2,h]:=b4 t' m
   exact#[t2,az _ m2,h]
abbrev oH(t:Tr):Prop:=∀l∈nA t,l∈CL
def lQ:∀t,size t<=2^bP t
 |.one _ _=>by simp[size,bP]
 |.row a b=>by
  have h1:=lQ a;have h2:=lQ b;have p1:2^bP a<=2^max (bP a) (bP b):=bB ∅ ∅;have p2:2^bP b<=2^max (bP a) (bP b):=bB ∅ ∅;dsimp[size,bP,gK];omega
 |.or a b=>by
  have h1:=lQ a;have h2:=lQ b;have p1:2^bP a<=2^max (bP a) (bP b):=bB ∅ ∅;have p2:2^bP b<=2^max (bP a) (bP b):=bB ∅ ∅;dsimp[size,bP,gK];omega
 |.rep m a=>by
  have h1:=lQ a;dsimp[size,bP,gK];omega
abbrev OM(D:Nat):Spec:=λus S Q=>∃(ns:List Int)(b:Int)(d:Nat),us=[.uQ ns,.int b,aU d]/\ns.length<=1000/\d<D/\∀t S',bP t<=d->oH t->Ext S S'->Q (enc t) S'
def K7(Γ:cb)(D:Nat)(h1:Γ "_law_mix"=u9.yE)(h2:Γ "_law_all"=u9.Kz)(h3:Γ "_law_small"=OM D):Keeps Γ lg 3 (OM (D+1)):=by
 rintro us S Q ⟨ns,b,d,rfl,hl,hd,q⟩;unfold lg;room;refine ca h1 #[ns,b,rfl,hl,λm m0 m1=>?_];room;refine#[∅,?_];room;have leaf:Rest Γ (.cons (.ret (.tup (.cons ↑[111,110,101] (.cons (.ix (.lst (.cons ↑[97] (.cons ↑[98] (.cons ↑[99] (.cons ↑[97,98] (.cons ↑[98,99] (.cons (.call "_law_all" .nil) (.cons ↑[97] (.cons ↑[98] (.cons ↑[48] (.cons (.lit (.str [])) .nil))))))))))) (.bin .mod (.bin .fdiv @3 ↑9) ↑10)) .nil)))) .nil) #[λ_ S1=>Q .b7 S1,Q] [ξ (.uQ ns),ξ (.int b),ξ (aU d),ξ (.int m),ξ (.int (m%9)),ψ] S:=by
  room;rwa[ca h2 #[rfl,λG hG=>?_]];refine#[#v[],∅,∅,?_];have gl:(S++[SO.lst [U.str [97],U.str [98],U.str [99],U.str [97,98],U.str [98,99],U.str G,U.str [97],U.str [98],U.str [48],U.str []]])[S.length]?=ξ (.lst ([[97],[98],[99],[97,98],[98,99],G,[97],[98],[48],[]].map U.str)):=by simp
  rw[gl,ay]
  rwa[tZ (lF _ ∅) (by simp;erw[jG _ ∅]) λu hu=>?_]
  let#[l,ml,rfl]:=bx.mp hu;refine#[#v[],q (.one 0 l) _ (bI _) (λl' m'=>?_) (Ext.app _)];have:l'=l:=by simpa[nA] using m'
  subst this;rw[hG] at ml
  revert ml
  dsimp[aR];rintro(h|h|h|h|h|h|h|h|h|h|h)<;>simp_all
 by_cases z:d=0\/m%9<4
 .have z1:((d:Int)== 0)=ζ\/(((d:Int)== 0)=ϑ/\decide (m%9<4)=ζ):=by
   by_cases y:d=0
   .subst y;erw[.inl rfl]
   .rwa[.inr #[by rw[beq_eq_false_iff_ne];omega,decide_eq_true ∅]]
  rcases z1 with z1|⟨z1,z2⟩
  .dsimp[z1,if_true];erw[leaf]
  .dsimp[z1,z2,av,if_false,if_true];erw[leaf]
 .have z1:((d:Int)== 0)=ϑ:=by rw[beq_eq_false_iff_ne];omega
  have z2:decide (m%9<4)=ϑ:=decide_eq_false ∅;obtain⟨d,rfl⟩:∃d',d=d'+1:=#[d-1,∅]
  have ed:(((d+1:Nat):Int)-1)=(d:Int):=∅
  dsimp[z1,z2,av,if_false];room;by_cases y:m%9<7
  .dsimp[y,decide_true,if_true]
   room;refine#[∅,∅,?_];refine d8 _ (λi acc S1=>Ext S S1/\∃l:List Tr,acc=l.map enc/\l.length=i/\∀t∈l,bP t<=d/\oH t) (λi acc S1 hi h9=>by let#[x,l,e1,e2,_]:=h9;exact#[trivial,by rw[e1,ae];simp at hi;omega]) (λi u acc S1 k hu hi hk=>?_) (λacc S1 h=>?_) #[.refl,[],rfl,rfl,#v[]]
   .let#[x1,l,rfl,e2,inv]:=hi
    let#[rfl,_]:=jO (n:=2) hu;room;rw[ed]
    refine#[.inl ∅,ca h3 #[ns,_,d,rfl,hl,∅,λt S2 dt lt x2=>hk _ _ #[x1.trans x2,l++[t],#v[],by simp[e2],λt' m'=>?_]]];rcases aJ.mp m' with m'|m'
    .erw[inv t' m']
    .simp at m';subst m';exact#[dt,lt]
   .let#[x1,l,rfl,e2,inv]:=h
    have e2:l.length=2:=e2;obtain⟨a,b,rfl⟩:∃a b,l=[a,b]:=by
     match l,e2 with
     |[a,b],_=>exact#[a,b,rfl]
    have ia:=inv a (#v[]);have ib:=inv b (#v[]);have g2:(S1++[SO.lst ([a,b].map enc)])[S1.length]?=ξ (.lst [enc a,enc b]):=by simp
    have x2:Ext S (S1++[SO.lst ([a,b].map enc)]):=x1.trans (Ext.app _);generalize S1.length=m2 at g2;generalize S1++[SO.lst ([a,b].map enc)]=S2 at g2 x2;room;refine#[#v[],?_];have gl:(S2++[SO.lst [U.str [114,111,119],U.str [111,114],U.str [114,111,119]]])[S2.length]?=ξ (.lst [U.str [114,111,119],U.str [111,114],U.str [114,111,119]]):=by simp
    rw[gl,ay,(Ext.app _:Ext S2 _).get g2]
    rwa[tZ ∅ ((·)) λu hu=>#[#v[],?_]]
    have lv:∀l∈nA a++nA b,l∈CL:=λl hl=>(aJ.mp hl).elim (ia.2 l) (ib.2 l)
    dsimp[aR,cA,or_false] at hu;have dd:max (bP a) (bP b)+1<=d+1:=∅
    rcases hu with rfl|rfl|rfl
    .erw[q (.row a b) _ dd lv (x2.trans (Ext.app _))]
    .erw[q (.or a b) _ dd lv (x2.trans (Ext.app _))]
    .erw[q (.row a b) _ dd lv (x2.trans (Ext.app _))]
  .dsimp[y,decide_false,av,if_false]
   room;refine#[#v[],∅,∅,?_];have gl:(S++[SO.lst [U.str [115,116,97,114],U.str [112,108,117,115],U.str [109,97,121,98,101]]])[S.length]?=ξ (.lst [U.str [115,116,97,114],U.str [112,108,117,115],U.str [109,97,121,98,101]]):=by simp
   rw[gl,ay]
   rwa[tZ (lF _ ∅) (by simp;erw[jG _ ∅]) λu hu=>?_]
   rw[ed]
   refine#[.inl ∅,ca h3 #[ns,_,d,rfl,hl,∅,λt S2 dt lt x2=>#[#v[],?_]]];have xx:Ext S S2:=(Ext.app _).trans x2;have dd:bP t+1<=d+1:=∅
   dsimp[aR,cA,or_false] at hu;rcases hu with rfl|rfl|rfl
   .erw[q (.rep .star t) _ dd lt xx]
   .erw[q (.rep .plus t) _ dd lt xx]
   .erw[q (.rep .may t) _ dd lt xx]
abbrev Ts:Spec:=λus S Q=>∃(ns:List Int)(bs k:Int)(dp:Nat),us=[.uQ ns,.int bs,.int k,.int dp]/\dp<=2/\ns.length<=1000/\0<=k/\k<=4/\∀ts n S',oG ts->(∀t∈ts,oH t)->(eJ ts:Int)<=5*k->(ts.length:Int)=k/\(dp<=1->∀t∈ts,size t<=2/\bP t<=2)->Ext S S'->S'[n]?=ξ (.lst (ts.map enc))->Q (.loc n) S'
def Tt:∀{t:Tr},bP t<=1->null t=ζ->size t=1
 |.one _ _,_,h=>by cases h
 |.row a b,d,h=>by
  have:bP a=0:=by dsimp[bP] at d;omega
  cases a<;>first| (simp[null] at h;done)| (simp[bP] at this;done)
 |.or a b,d,h=>by
  have h1:bP a=0:=by dsimp[bP] at d;omega
  have h2:bP b=0:=by dsimp[bP] at d;omega
  cases a<;>first| (simp[bP] at h1;done)| (cases b<;>first| (simp[bP] at h2;done)| (simp[null] at h;done))
 |.rep m a,d,h=>by
  have h1:bP a=0:=by dsimp[bP] at d;omega
  cases a<;>first|rfl| (simp[bP] at h1;done)
def Xt(Γ:cb)(h1:Γ "_law_small"=OM 3)(h2:Γ "_law_nothing"=Al 5):Keeps Γ lh 3 Ts:=by
 rintro us S Q ⟨ns,bs,k,dp,rfl,hdp,hl,k0,k4,q⟩;unfold lh;room;refine#[#v[],?_];have x0:Ext S (S++[SO.lst []]):=Ext.app _;have g0:(S++[SO.lst []])[S.length]?=ξ (.lst []):=by simp
 room;refine#[∅,∅,?_];rwa[df (λi env S1=>∃(l:List Tr)(x5 x6:Option U),env=[ξ (.uQ ns),ξ (.int bs),ξ (.int k),ξ (.int dp),ξ (.loc S.length),x5,x6]/\Ext S S1/\S1[S.length]?=ξ (.lst (l.map enc))/\l.length=i/\eJ l<=5*i/\∀t∈l,bP t<4/\null t=ϑ/\oH t/\(dp<=1->size t<=2/\bP t<=2)) (λ_ _ _ _=>trivial) _ ?_ ?_ #[[],ψ,ψ,rfl,x0,g0,rfl,by simp[eJ],#v[]]]
 .rintro i u env S1 K hu ⟨l,x5,x6,rfl,x1,g1,ll,sl,inv⟩ hK
  let#[rfl,hi]:=jO hu;room;refine#[.inl ∅,ca h1 #[ns,_,dp,rfl,hl,∅,λt S2 dt lt x2=>?_]];have st:size t<=4:=aI (lQ t) (bB (n:=2) (j:=2) ∅ (aI dt hdp));have g2:=x2.get g1;room;refine ca h2 #[_,rfl,.inl #[t,rfl,∅,λS3 x3=>?_]];have g3:=x3.get g2;have fin:∀(t':Tr)(x5 x6:Option U),bP t'<4->null t'=ϑ->oH t'->size t'<=5->(dp<=1->size t'<=2/\bP t'<=2)->x6=ξ (enc t')->Rest Γ (.cons (.ex (.jD .append @4 (.cons @6 .nil))) .nil) #[K,Q] [ξ (.uQ ns),ξ (.int bs),ξ (.int k),ξ (.int dp),ξ (.loc S.length),x5,x6] S3:=by
   rintro t' x5 x6 d1 d2 d3 d4 d5 rfl;room;rw[g3,ay]
   refine#[trivial,(·),?_];room;have x13:=(x1.trans x2).trans x3;refine hK _ _ #[l++[t'],_,_,rfl,(x13.st ∅),by rw[gs g3];simp,by simp[ll],by simp[eJ] at sl ⊢;omega,λt2 m2=>?_];rcases aJ.mp m2 with m2|m2
   .erw[inv t2 m2]
   .simp at m2;subst m2;exact#[d1,d2,d3,d5]
  room;cases nt:null t with
  |false=>
   dsimp[av,if_false];erw[fin t _ _ ∅ nt lt ∅ (λh=>#[aI (lQ t) (bB (n:=2) (j:=1) ∅ (aI dt h)),∅]) rfl]
  |true=>
   dsimp[if_true];room;refine#[∅,#v[],?_];rwa[tZ (lF _ ∅) (by simp;erw[jG _ ∅]) λc hc=>#[#v[],#v[],#v[],?_]]
   rwa[fin (.row (.one 0 [c]) t) _ _ ?_ (by simp[null]) (λl hl=>?_) (by dsimp[size];omega) (λh=>#[by dsimp[size];rw[Tt (aI dt h) nt];decide,by show max 0 (bP t)+1<=2;omega]) rfl]
   .show max 0 (bP t)+1<4;omega
   .rcases aJ.mp hl with h|h
    .have:l=[c]:=by simpa[nA] using h
     subst this;dsimp[aR,cA,or_false] at hc;rcases hc with rfl|rfl|rfl<;>simp
    .erw[lt l h]
 .rintro env S1 ⟨l,x5,x6,rfl,x1,g1,ll,sl,inv⟩
  room;have ll2:=ll;have ll:l.length<=4:=by rw[ll];simp;omega
  let#[e1,e2,e3,e4]:=sP l 1;have el:(ua 1 l).length=l.length:=by have:=congrArg cD e1;simpa using this
  have ll':(l.length:Int)=k:=by rw[ll2];dsimp[ae,cP];omega
  refine q (ua 1 l) _ S1 #[∅,e2,λt m=>?_,λt m=>?_,by rw[e3];dsimp[ae,cP] at sl;omega] (λt m=>?_) (by rw[e3];dsimp[ae,cP] at sl;omega) #[%[el|ll'],λh t m=>?_] x1 (%[e1|g1])
  .let#[t',m',h]:=e4 t m;rw[h.2.1];exact(inv t' m').2.1
  .let#[t',m',h]:=e4 t m;rw[h.1];exact(inv t' m').1
  .let#[t',m',h]:=e4 t m
   intro l hl;rw[h.2.2] at hl;exact(inv t' m').2.2.1 l hl
  .let#[t',m',z]:=e4 t m
   have:=(inv t' m').2.2.2 h;rw[<-gv,z.2.2,gv,z.1];erw[this]
abbrev Tv:Mk->Nat
 |.star=>42
 |.plus=>43
 |.may=>63
abbrev tx:Tr->List Nat×List Nat
 |.one _ l=>(L7 l,L7 l)
 |.rep m a=>((tx a).1++[Tv m],(tx a).1++[Tv m])
 |.row a b=>(40::((tx a).1++(tx b).1++[41]),(tx a).1++(tx b).1)
 |.or a b=>(40::((tx a).2++124::(tx b).2++[41]),40::((tx a).2++124::(tx b).2++[41]))
abbrev wr:Tr->List Nat
 |.or a b=>(tx a).2++124::(tx b).2
 |t=>(tx t).2
def dU:∀t,oH t->(tx t).1.length+3<=13*2^bP t/\(tx t).2.length<=(tx t).1.length/\(wr t).length<=(tx t).1.length
 |.one _ l,h=>by
  have:=Tq l (h l (by simp[nA]));dsimp[tx,wr,bP];omega
 |.rep m a,h=>by
  have:=dU a h;dsimp[tx,wr,bP,gK,aq,gU];omega
 |.row a b,h=>by
  have h1:=dU a λl m=>h l (bz _ m)
  have h2:=dU b λl m=>h l (bc _ m)
  have p1:2^bP a<=2^max (bP a) (bP b):=bB ∅ ∅;have p2:2^bP b<=2^max (bP a) (bP b):=bB ∅ ∅;dsimp[tx,wr,bP,gK,aq,aS,dB];omega
 |.or a b,h=>by
  have h1:=dU a λl m=>h l (bz _ m)
  have h2:=dU b λl m=>h l (bc _ m)
  have p1:2^bP a<=2^max (bP a) (bP b):=bB ∅ ∅;have p2:2^bP b<=2^max (bP a) (bP b):=bB ∅ ∅;dsimp[tx,wr,bP,gK,aq,aS,dB];omega
def lR(h:oH t)(d:bP t<4):(tx t).1.length<=200/\(tx t).2.length<=200/\(wr t).length<=200:=by
 have:=dU t h;have p:2^bP t<=2^3:=bB ∅ ∅;omega
section
variable{br:Option (List Nat->PR U)}{x:List Nat}{t:U}
def sQ(h:wz br x t):wA br x t:=#[[t],#v[],by have:=sH.cons h .nil;rwa [cz] at this,rfl]
def Aq(h:wA br x t):Hl br x t:=#[x,[],t,[],#v[],h,.nil,rfl]
def wJ(h:wy br x t):wz br x t:=#[x,t,[],#v[],h,#v[],rfl]
end
def qm:∀t k,oH t->bP t<=k->wz (uC k) (tx t).1 (enc t)/\wA (uC k) (tx t).2 (enc t)/\Hl (uC k) (wr t) (enc t)
 |.one _ l,k,h,d=>by
  have a:=wJ (OL (h l (by simp[nA])) (uC k));exact#[a,sQ a,Aq (sQ a)]
 |.rep m a,k,h,d=>by
  have d:bP a+1<=k:=d;let#[x,ta,ms,e,ia,hm,et]:=(qm a k h ∅).1;have r:wz (uC k) ((tx a).1++[Tv m]) (enc (.rep m a)):=by
   refine#[x,ta,ms++[Tv m],by rw[e,bR],ia,λc hc=>?_,?_]
   .rcases aJ.mp hc with h|h
    .erw[hm c h]
    .simp at h;subst h;cases m<;>decide
   .unfold Oz
    rw[hU]
    show enc (.rep m a)=Ku (Tv m) (Oz ta ms)
    rw[<-et]
    cases m<;>rfl
  exact#[r,sQ r,Aq (sQ r)]
 |.row a b,k,h,d=>by
  have d:max (bP a) (bP b)+1<=k:=d;have key:∀k,max (bP a) (bP b)<=k->wA (uC k) ((tx a).1++(tx b).1) (enc (.row a b)):=λk hk=>by
   have h1:=(qm a k (λl m=>h l (bz _ m)) ∅).1;have h2:=(qm b k (λl m=>h l (bc _ m)) ∅).1;exact#[[enc a,enc b],#v[],by have:=sH.cons h1 (sH.cons h2 .nil);rwa [cz] at this,rfl]
  obtain⟨k,rfl⟩:∃k',k=k'+1:=#[k-1,∅]
  have r:=wJ (Fu (Aq (key k ∅)));exact#[r,key _ ∅,Aq (key _ ∅)]
 |.or a b,k,h,d=>by
  have d:max (bP a) (bP b)+1<=k:=d;have key:∀k,max (bP a) (bP b)<=k->Hl (uC k) ((tx a).2++124::(tx b).2) (enc (.or a b)):=λk hk=>by
   have h1:=(qm a k (λl m=>h l (bz _ m)) ∅).2.1;have h2:=(qm b k (λl m=>h l (bc _ m)) ∅).2.1;exact#[(tx a).2,124::(tx b).2,enc a,[enc b],rfl,h1,by have:=wB.cons h2 .nil;rwa [cz] at this,rfl]
  obtain⟨k,rfl⟩:∃k',k=k'+1:=#[k-1,∅]
  have r:=wJ (Fu (key k ∅));exact#[r,sQ r,key _ ∅]
def ON(h:oH t)(d:bP t<4):wq (wr t)= .ok (enc t,[]):=OA (qm t 6 h ∅).2.2
abbrev CP(D:Tr->Prop)(f:Tr->List Nat):Spec:=λus S Q=>∃t,us=[enc t]/\D t/\oH t/\bP t<4/\∀S',Ext S S'->Q (.str (f t)) S'
abbrev xD:Tr->Prop
 |.row _ _=>True
 |.or _ _=>True
 |_=>False
abbrev K9:Tr->Prop
 |.rep _ _=>False
 |_=>True
def Tw(Γ:cb)(k:Nat)(D:Tr->Prop)(hD:∀t,bP t<=k->xD t->D t)(h1:Γ "place_text"=OK)(h2:Γ "written"=CP D wr):Keeps Γ mr 0 (CP (λt=>bP t<=k/\K9 t) λt=>(tx t).1):=by
 rintro us S Q ⟨t,rfl,⟨dt,nr⟩,lt,d4,q⟩;have q:∀S',Ext S S'->Q (.str (tx t).1) S':=q;unfold mr;have sm:=lR lt d4;have go:xD t->(tx t).1=40::(wr t++[41])->Rest Γ (.cons (.ret (.bin .add (.bin .add ↑[40] (.call "written" (.cons @0 .nil))) ↑[41])) .nil) #[λ_ S1=>Q .b7 S1,Q] [ξ (enc t)] S:=by
  intro ro e;room;rwa[ca h2 #[t,rfl,hD t dt ro,lt,d4,λS1 x1=>?_]];room;refine#[(·),(·),?_];rw[<-e]
  erw[q S1 x1]
 cases t with
 |one n l=>
  rwa[sM rfl rfl ?_];unfold enc;room;dsimp[lX,aT];exact#[#v[],ca h1 #[l,rfl,lt l (by simp[nA]),q]]
 |row a b=>erw[jQ rfl rfl (go trivial (by simp[tx,wr]))]
 |or a b=>erw[jQ rfl rfl (go trivial (by simp[tx,wr]))]
 |rep m a=>erw[nr.elim]
noncomputable abbrev YQ:List (List Nat×List Nat):=[([115,116,97,114],[42]),([112,108,117,115],[43]),([109,97,121,98,101],[63])]
def Tz(Γ:cb)(k:Nat)(hk:k<=10)(h1:Γ "atom_text"=CP (λt=>bP t<=k/\K9 t) λt=>(tx t).1):Keeps Γ kz 2 (CP (λt=>bP t<=k) λt=>(tx t).1):=by
 rintro us S Q ⟨t,rfl,dt,lt,d4,q⟩;have q:∀S',Ext S S'->Q (.str (tx t).1) S':=q;unfold kz;have sm:=lR lt d4;room;refine#[bP t+1,oE (λn env S1=>S1=S/\∃a ms,n=bP a/\bP a<=bP t/\oH a/\ms.length+bP a<=bP t/\(tx t).1=(tx a).1++ms/\env=[ξ (enc t),ξ (.str ms),ξ (enc a)]) ?_ _ (bP t) _ _ ∅ #[rfl,t,[],rfl,ao _,lt,#v[],#v[],rfl]];rintro n env S1 K ⟨rfl,a,ms,rfl,da,la,ml,e,rfl⟩ hK;have stop:∀kk x,enc a=.tup [.str kk,x]->(YQ.lookup kk).isSome=ϑ->K9 a->WT Γ (.cY (.cmp .isin (.ix @2 ↑0) (.lit (.tab YQ)))) [ξ (enc t),ξ (.str ms),ξ (enc a)] S1
   (λt1 S2=>if t1=ζ then Rest Γ (.cons (.set 1 (.bin .add (.ix (.lit (.tab YQ)) (.ix @2 ↑0)) @1)) (.cons (.set 2 (.ix @2 ↑1)) .nil)) #[K,Q] [ξ (enc t),ξ (.str ms),ξ (enc a)] S2 else Rest Γ (.cons (.ret (.bin .add (.call "atom_text" (.cons @2 .nil)) @1)) .nil) #[λ_ S1=>Q .b7 S1,Q] [ξ (enc t),ξ (.str ms),ξ (enc a)] S2):=by
  intro kk x ek el nr;have fin:Rest Γ (.cons (.ret (.bin .add (.call "atom_text" (.cons @2 .nil)) @1)) .nil) #[λ_ S1=>Q .b7 S1,Q] [ξ (enc t),ξ (.str ms),ξ (enc a)] S1:=by
   room;rwa[ca h1 #[a,rfl,#[∅,nr],la,∅,λS2 x2=>?_]];room;rw[<-e]
   refine#[?_,q S2 x2];rw[e,aq] at sm;omega
  rw[ek] at fin ⊢;room;rw[pD,aT,BM,el]
  exact#[#v[],fin]
 cases a with
 |one n l=>erw[stop _ _ rfl rfl trivial]
 |row a b=>erw[stop _ _ rfl rfl trivial]
 |or a b=>erw[stop _ _ rfl rfl trivial]
 |rep m a=>
  have dr:bP (.rep m a)=bP a+1:=rfl;have ek:enc (.rep m a)= .tup [.str (oF m),enc a]:=rfl;rw[ek]
  have el:YQ.lookup (oF m)=ξ [Tv m]:=by cases m<;>rfl
  room;rw[pD,aT,BM,el]
  refine#[#v[],?_];dsimp[rm,if_true];room;dsimp[pD,aT,zE,el];room;refine#[#v[],(·),?_];room;dsimp[lX,aT];refine#[#v[],?_];try room
  erw[hK (bP a) _ _ ∅ #[rfl,a,Tv m::ms,rfl,∅,la,(·),by rw[e];simp[tx],rfl]]
abbrev OO:Tr->Prop
 |.row _ _=>True
 |_=>False
def two_get{a b:Tr}{f:Tr->List Nat}{i:Nat}{u v:U}(hu:[enc a,enc b][i]?=ξ u)(hv:[U.str (f a),U.str (f b)][i]?=ξ v):∃t,(t=a\/t=b)/\u=enc t/\v=.str (f t):=by
 let#[t,m,h1,h2]:=Am (K:=[a,b]) (f:=λt=>.str (f t)) hu hv;exact#[t,~~~m,h1,h2]
def TB(Γ:cb)(k:Nat)(h1:Γ "repeat_text"=CP (λt=>bP t<=k) λt=>(tx t).1):Keeps Γ oj 0 (CP (λt=>bP t<=k\/(OO t/\bP t<=k+1)) λt=>(tx t).2):=by
 rintro us S Q ⟨t,rfl,dt,lt,d4,q⟩;have q:∀S',Ext S S'->Q (.str (tx t).2) S':=q;unfold oj;have go:¬OO t->(tx t).2=(tx t).1->Rest Γ (.cons (.ret (.call "repeat_text" (.cons @0 .nil))) .nil) #[λ_ S1=>Q .b7 S1,Q] [ξ (enc t)] S:=by
  intro nr e;room;rw[e] at q;erw[ca h1 #[t,rfl,dt.resolve_right λz=>nr z.1,lt,d4,q]]
 cases t with
 |one n l=>erw[jQ rfl rfl (go (λz=>z) rfl)]
 |rep m a=>erw[jQ rfl (beq_eq_false_iff_ne.mpr (qI m).2.1) (go (λz=>z) rfl)]
 |or a b=>erw[jQ rfl rfl (go (λz=>z) rfl)]
 |row a b=>
  have dt:max (bP a) (bP b)+1<=k+1:=by rcases dt with z|z;erw[nK z];erw[z.2]
  have d4:max (bP a) (bP b)+1<4:=d4;have lo:∀t,t=a\/t=b->oH t/\bP t<=k/\bP t<4:=by
   rintro t (rfl|rfl)
   .exact#[λl m=>lt l (bz _ m),∅,∅]
   .exact#[λl m=>lt l (bc _ m),∅,∅]
  have sa:=(lR (lo a (.inl rfl)).1 (lo a (.inl rfl)).2.2).1;have sb:=(lR (lo b (.inr rfl)).1 (lo b (.inr rfl)).2.2).1;rwa[sM rfl rfl ?_];unfold enc;room;dsimp[lX,aT];refine#[#v[],#v[],?_];rwa[jc (S:=S) _ [.str (tx a).1,.str (tx b).1] (#v[]) (#v[]) (λ_ _=>trivial) (λu S' k h=>h) (λi u v hu hv S' k x hk=>?_) λS1 x1=>?_]
  .let#[t,m,rfl,rfl]:=two_get (f:=λt=>(tx t).1) hu hv
   let#[l1,l2,l3]:=lo t m;erw[ca h1 #[t,rfl,l2,l1,l3,hk]]
  .refine#[[(tx a).1,(tx b).1],#v[],(·),?_]
   have e:mm [] [(tx a).1,(tx b).1]=(tx (.row a b)).2:=by simp[mm,tx]
   rw[e]
   erw[q _ (x1.trans (Ext.app _))]
def TC(Γ:cb)(k:Nat)(h1:Γ "row_text"=CP (λt=>bP t<=k\/(OO t/\bP t<=k+1)) λt=>(tx t).2):Keeps Γ p8 0 (CP (λt=>bP t<=k\/(xD t/\bP t<=k+1)) wr):=by
 rintro us S Q ⟨t,rfl,dt,lt,d4,q⟩;unfold p8;have go:(xD t->OO t)->wr t=(tx t).2->Rest Γ (.cons (.ret (.call "row_text" (.cons @0 .nil))) .nil) #[λ_ S1=>Q .b7 S1,Q] [ξ (enc t)] S:=by
  intro nr e;room;rw[e] at q;erw[ca h1 #[t,rfl,dt.imp_right λz=>#[nr z.1,z.2],lt,d4,q]]
 cases t with
 |one n l=>erw[jQ rfl rfl (go (λz=>z) rfl)]
 |rep m a=>erw[jQ rfl (beq_eq_false_iff_ne.mpr (qI m).2.2) (go (λz=>z) rfl)]
 |row a b=>erw[jQ rfl rfl (go (λz=>z) rfl)]
 |or a b=>
  have dt:max (bP a) (bP b)+1<=k+1:=by rcases dt with z|z;erw[nK z];erw[z.2]
  have d4:max (bP a) (bP b)+1<4:=d4;have lo:∀t,t=a\/t=b->oH t/\bP t<=k/\bP t<4:=by
   rintro t (rfl|rfl)
   .exact#[λl m=>lt l (bz _ m),∅,∅]
   .exact#[λl m=>lt l (bc _ m),∅,∅]
  have sa:=(lR (lo a (.inl rfl)).1 (lo a (.inl rfl)).2.2).2.1;have sb:=(lR (lo b (.inr rfl)).1 (lo b (.inr rfl)).2.2).2.1;rwa[sM rfl rfl ?_];unfold enc;room;dsimp[lX,aT];refine#[#v[],#v[],?_];rwa[jc (S:=S) _ [.str (tx a).2,.str (tx b).2] (#v[]) (#v[]) (λ_ _=>trivial) (λu S' k h=>h) (λi u v hu hv S' k x hk=>?_) λS1 x1=>?_]
  .let#[t,m,rfl,rfl]:=two_get (f:=λt=>(tx t).2) hu hv
   let#[l1,l2,l3]:=lo t m;erw[ca h1 #[t,rfl,.inl l2,l1,l3,hk]]
  .refine#[[(tx a).2,(tx b).2],#v[],(·),?_]
   have e:mm [124] [(tx a).2,(tx b).2]=wr (.or a b):=by simp[mm,wr]
   rw[e]
   erw[q _ (x1.trans (Ext.app _))]
end PL.nq
namespace PL.r8
section
variable{κ:Type}[BEq κ][LawfulBEq κ]
abbrev lZ(seen:List κ):List κ->List Nat
 |[]=>[]
 |k::r=>if k∈seen then seen.idxOf k::lZ seen r else seen.length::lZ (seen++[k]) r
abbrev sn(seen:List κ):List κ->List κ
 |[]=>seen
 |k::r=>sn (if k∈seen then seen else seen++[k]) r
def mI:∀(ks:List κ)(seen:List κ),(lZ seen ks).length=ks.length
 |[],_=>rfl
 |k::r,seen=>by unfold lZ;split<;>simp[mI r]
def wK:∀(ks:List κ)(seen:List κ),(sn seen ks).length<=seen.length+ks.length
 |[],_=>by simp[sn]
 |k::r,seen=>by
  unfold sn;split
  .have:=wK r seen;simp;omega
  .have:=wK r (seen++[k]);simp at this ⊢;omega
def La{κ':Type}[BEq κ'][LawfulBEq κ'](f:κ->κ')(hf:∀a b,f a=f b->a=b)(k:κ):∀l:List (κ×U),(l.map λp=>(f p.1,p.2)).lookup (f k)=l.lookup k
 |[]=>rfl
 | (a,v)::r=>by
  rw[aw,aN,aN,La f hf k r]
  by_cases h:k=a
  .subst h;simp
  .rw[show(k==a)=ϑ by simp[h],show(f k==f a)=ϑ from beq_eq_false_iff_ne.mpr λe=>h (hf _ _ e)]
def Ar:∀(ks:List κ)(seen:List κ),∃m,sn seen ks=seen++m
 |[],seen=>#[[],by simp[sn]]
 |k::r,seen=>by
  unfold sn;split
  .erw[Ar r seen]
  .let#[m,e]:=Ar r (seen++[k])
   exact#[k::m,by rw[e];simp]
def Lb:∀(ks:List κ)(seen:List κ),seen.Nodup->(sn seen ks).Nodup
 |[],_,h=>h
 |k::r,seen,h=>by
  unfold sn;split
  .erw[Lb r seen h]
  .rename_i hk
   rwa[Lb r _ ?_];rw[d7]
   exact#[h,#v[],λx hx y hy=>%[aX.mp hy|λe=>hk (e▸hx)]]
def oI{k:κ}{a b:List κ}(h:k∈a):(a++b).idxOf k=a.idxOf k:=by
 rw[j7,if_pos h]
def ub:∀(ks:List κ)(seen:List κ),lZ seen ks=ks.map λk=>(sn seen ks).idxOf k
 |[],_=>rfl
 |k::r,seen=>by
  unfold lZ sn;split
  .rename_i hk
   let#[m,e]:=Ar r seen;rw[aw,ub r seen,e,oI hk]
  .rename_i hk
   let#[m,e]:=Ar r (seen++[k]);rw[aw,ub r (seen++[k]),e]
   congr 1
   rw[oI (#v[]),j7,if_neg hk]
   simp
def wL:∀(ks:List κ)(seen:List κ)(k:κ),k∈sn seen ks↔k∈seen\/k∈ks
 |[],_,_=>by simp[sn]
 |x::r,seen,k=>by
  unfold sn;rw[wL r]
  split
  .rename_i hk
   constructor
   .rintro(h|h)
    .erw[.inl h]
    .erw[.inr (az _ h)]
   .rintro(h|h)
    .erw[.inl h]
    .rcases aR.mp h with rfl|h
     .erw[.inl hk]
     .erw[.inr h]
  .simp[or_assoc]
abbrev dz(seen:List κ)(n:Nat):List (κ×U):=(seen.zipIdx n).map λp=>(p.1,aU p.2)
def Lc(a:List κ)(k:κ)(n:Nat):dz (a++[k]) n=dz a n++[(k,aU (n+a.length))]:=by
 unfold dz;rw[List.zipIdx_append,aF];simp
def As(a:List κ)(n:Nat):(dz a n).length=a.length:=by simp[dz]
def Au:∀(a:List κ)(k:κ)(n:Nat),(dz a n).lookup k=if k∈a then ξ (aU (n+a.idxOf k)) else ψ
 |[],k,n=>rfl
 |x::a,k,n=>by
  have e:dz (x::a) n=(x,aU n)::dz a (n+1):=rfl;rw[e,aN]
  by_cases h:k=x
  .subst h;simp
  .have h1:(k==x)=ϑ:=by simp[h]
   rw[h1,Au a k (n+1)]
   by_cases hk:k∈a
   .rw[if_pos hk,if_pos (az _ hk),List.idxOf_cons,show(x==k)=ϑ by simp[cM h]]
    dsimp[cond_false]
    congr 2
    omega
   .rw[if_neg hk,if_neg (by simp[h,hk])]
end
def TF(o:Option Nat):mP (uN o)=ζ:=by cases o<;>rfl
def PN(a b:Option Nat):Ph (uN a) (uN b)=(a==b):=by
 cases a<;>cases b<;>first|rfl|skip
 rename_i x y;show((x:Int)== (y:Int))=(ξ x==ξ y);by_cases h:x=y
 .subst h;simp
 .rw[show((x:Int)== (y:Int))=ϑ from beq_eq_false_iff_ne.mpr λe=>h (pQ e),show(ξ x==ξ y)=ϑ from beq_eq_false_iff_ne.mpr λe=>h (aG e)]
def Ld(k:Option Nat):∀(l:List (Option Nat×U)),uz (uN k) (l.map λp=>(uN p.1,p.2))=l.lookup k
 |[]=>rfl
 | (a,v)::r=>by
  rw[aw,aN]
  unfold uz;rw[PN,Ld k r]
  by_cases h:a=k
  .subst h;simp
  .have h1:(a==k)=ϑ:=by simp[h]
   have h2:(k==a)=ϑ:=by simp[cM h]
   rw[h1,h2];rfl
section
variable{κ β:Type}[BEq κ][LawfulBEq κ][BEq β][LawfulBEq β]{ks:List κ}
def Fy{l:List κ}{a b:κ}(ha:a∈l)(h:l.idxOf a=l.idxOf b):a=b:=by
 have la:=bj ha;have e:=cF la;have lb:l.idxOf b<l.length:=∅
 rw[<-e,<-cF lb]
 congr 1
def vg{i j:Nat}{a b:κ}(hi:ks[i]?=ξ a)(hj:ks[j]?=ξ b):(lZ [] ks)[i]?=(lZ [] ks)[j]?↔a=b:=by
 rw[ub,ar,ar,hi,hj]
 constructor
 .intro h
  erw[Fy ((wL ks [] a).mpr (.inr (ag hi))) (aG h)]
 .intro h;rw[h]
def Av:∀(ks:List κ)(seen:List κ)(i v:Nat),(lZ seen ks)[i]?=ξ (v+1)->v<seen.length\/∃p,p<i/\(lZ seen ks)[p]?=ξ v
 |[],_,i,v,h=>by simp[lZ] at h
 |k::r,seen,0,v,h=>by
  unfold lZ at h;split at h
  .rename_i hk
   have:=bj hk;have:seen.idxOf k=v+1:=by simpa using h
   omega
  .have:seen.length=v+1:=by simpa using h
   omega
 |k::r,seen,i+1,v,h=>by
  unfold lZ at h ⊢;split at h
  .rename_i hk
   rw[if_pos hk]
   rcases Av r seen i v (~~~h) with z|⟨p,hp,e⟩
   .erw[.inl z]
   .exact .inr #[p+1,∅,~~~e]
  .rename_i hk
   rw[if_neg hk]
   rcases Av r (seen++[k]) i v (~~~h) with z|⟨p,hp,e⟩
   .rw[aq] at z
    by_cases y:v<seen.length
    .erw[.inl y]
    .have:seen.length=v:=by simp at z;omega
     erw[.inr #[0,∅,by simp[this]]]
   .exact .inr #[p+1,∅,~~~e]
def OP(hm:m∈lZ [] ks)(h:∀j∈lZ [] ks,j<=m):m+1=(sn [] ks).length:=by
 rw[ub] at hm h;let#[k,hk,rfl]:=bx.mp hm;have l1:=bj ((wL ks [] k).mpr (.inr hk));have ll:(sn [] ks).length-1<(sn [] ks).length:=∅
 have e:=(Lb ks [] (#v[])).idxOf_getElem _ ll;have m2:=(wL ks [] _).mp (cq ll);have:=h _ (bx.mpr #[_,m2.resolve_left (#v[]),rfl]);rw[e] at this;omega
abbrev Xu(ps:List (κ×β)):Prop:=∀x∈ps,∀y∈ps,x.1=y.1->x.2=y.2
def Ce:∀(ps:List (κ×β))(A:List κ)(B:List β),Xu ps->(∀x∈ps,x.1∈A->x.2∈B)->(sn B (ps.map (·.2))).length+A.length<=(sn A (ps.map (·.1))).length+B.length
 |[],A,B,_,_=>by simp[sn];omega
 |x::ps,A,B,hc,hA=>by
  have c':Xu ps:=λy hy z hz=>hc y (az _ hy) z (az _ hz)
  rw[aw,aw]
  unfold sn;by_cases h1:x.1∈A
  .have h2:=hA x (aO ..) h1
   rw[if_pos h1,if_pos h2]
   erw[Ce ps A B c' λy hy=>hA y (az _ hy)]
  .have nx:∀y∈ps,y.1∈A++[x.1]->y.2∈B\/y.2=x.2:=λy hy m=>by
    rcases aJ.mp m with m|m
    .erw[.inl (hA y (az _ hy) m)]
    .exact .inr (hc y (az _ hy) x (aO ..) (~~~m))
   rw[if_neg h1]
   by_cases h2:x.2∈B
   .rw[if_pos h2]
    have:=Ce ps (A++[x.1]) B c' λy hy m=>(nx y hy m).elim id λe=>e▸h2
    simp at this ⊢;omega
   .rw[if_neg h2]
    have:=Ce ps (A++[x.1]) (B++[x.2]) c' λy hy m=>by
     rcases nx y hy m with z|z
     .simp[z]
     .simp[z]
    simp at this ⊢;omega
def Ei:∀(ps:List (κ×β))(A:List κ)(B:List β),Xu ps->A.length=B.length->(∀x∈ps,x.1∈A->x.2∈B/\A.idxOf x.1=B.idxOf x.2)->(sn B (ps.map (·.2))).length=(sn A (ps.map (·.1))).length->lZ A (ps.map (·.1))=lZ B (ps.map (·.2))
 |[],A,B,_,_,_,_=>rfl
 |x::ps,A,B,hc,hl,hA,he=>by
  have c':Xu ps:=λy hy z hz=>hc y (az _ hy) z (az _ hz)
  rw[aw,aw] at he ⊢;unfold sn at he;unfold lZ;by_cases h1:x.1∈A
  .let#[h2,h3]:=hA x (aO ..) h1
   rw[if_pos h1,if_pos h2] at he ⊢;rw[h3,Ei ps A B c' hl (λy hy=>hA y (az _ hy)) he]
  .have nx:∀y∈ps,y.1∈A++[x.1]->y.1∈A\/(y.1=x.1/\y.2=x.2):=λy hy m=>by
    rcases aJ.mp m with m|m
    .erw[.inl m]
    .have e:y.1=x.1:=by simpa using m
     erw[.inr #[e,hc y (az _ hy) x (aO ..) e]]
   rw[if_neg h1] at he ⊢;by_cases h2:x.2∈B
   .rw[if_pos h2] at he
    have:=Ce ps (A++[x.1]) B c' λy hy m=>by
     rcases nx y hy m with z|z
     .exact(hA y (az _ hy) z).1
     .rw[z.2];erw[h2]
    simp at this;omega
   .rw[if_neg h2] at he ⊢
    rw[hl,Ei ps (A++[x.1]) (B++[x.2]) c' (by simp[hl]) (λy hy m=>?_) he]
    rcases nx y hy m with z|z
    .let#[z1,z2]:=hA y (az _ hy) z
     exact#[by simp[z1],by rw[oI z,oI z1,z2]]
    .rw[z.1,z.2]
     exact#[#v[],by rw[j7,if_neg h1,j7,if_neg h2];simp[hl]]
def Le{a:List κ}{b:List β}(h:∀(i j:Nat) (x y:κ) (u v:β),a[i]?=ξ x->a[j]?=ξ y->b[i]?=ξ u->b[j]?=ξ v->x=y->u=v):Xu (a.zip b):=by
 intro x hx y hy e;let#[i,hi]:=bq hx;let#[j,hj]:=bq hy;rw[List.getElem?_zip_eq_some] at hi hj;erw[h i j _ _ _ _ hi.1 hj.1 hi.2 hj.2 e]
def Ej{a:List κ}{b:List β}(hl:a.length=b.length)(h:∀(i j:Nat) (x y:κ) (u v:β),a[i]?=ξ x->a[j]?=ξ y->b[i]?=ξ u->b[j]?=ξ v->x=y->u=v):(sn [] b).length<=(sn [] a).length:=by
 have:=Ce (a.zip b) [] [] (Le h) (#v[]);rw[LW ∅,LX ∅] at this;simpa using this
def Fz{a:List κ}{b:List β}(hl:a.length=b.length)(h:∀(i j:Nat) (x y:κ) (u v:β),a[i]?=ξ x->a[j]?=ξ y->b[i]?=ξ u->b[j]?=ξ v->x=y->u=v)(he:(sn [] b).length=(sn [] a).length):lZ [] a=lZ [] b:=by
 have:=Ei (a.zip b) [] [] (Le h) rfl (#v[]);rw[LW ∅,LX ∅] at this;erw[this he]
def FA(ks:List κ):lZ [] (lZ [] ks)=lZ [] ks:=by
 have l:=mI ks [];have h1:∀(i j:Nat)(x y:κ)(u v:Nat),ks[i]?=ξ x->ks[j]?=ξ y->(lZ [] ks)[i]?=ξ u->(lZ [] ks)[j]?=ξ v->x=y->u=v:=λi j x y u v hi hj hu hv e=>by
  have:=(vg hi hj).mpr e;rw[hu,hv] at this;erw[aG this]
 have h2:∀(i j:Nat)(x y:Nat)(u v:κ),(lZ [] ks)[i]?=ξ x->(lZ [] ks)[j]?=ξ y->ks[i]?=ξ u->ks[j]?=ξ v->x=y->u=v:=λi j x y u v hi hj hu hv e=>by
  refine(vg hu hv).mp ?_;rw[hi,hj,e]
 exact(Fz l.symm h1 (pR (Ej l.symm h1) (Ej l h2))).symm
end
abbrev Lf(p:Nat×List Nat):U:=.tup [aU p.1,.tup (p.2.map aU)]
def vh{κ:Type}[BEq κ][LawfulBEq κ]:∀(ks:List κ)(k:κ)(seen:List κ),sn seen (ks++[k])=if k∈sn seen ks then sn seen ks else sn seen ks++[k]
 |[],k,seen=>rfl
 |x::r,k,seen=>by
  rw[iX]
  unfold sn;erw[vh r k _]
def Lg{κ:Type}[BEq κ][LawfulBEq κ](ks:List κ)(k:κ):lZ [] (ks++[k])=lZ [] ks++[(sn [] (ks++[k])).idxOf k]:=by
 rw[ub,ub,aF,vh]
 congr 1
 rwa[rA λx hx=>?_]
 split
 .rfl
 .erw[oI ((wL ks [] x).mpr (.inr hx))]
abbrev xE(p:Nat×List Nat):Int×List Int:=((p.1:Int),p.2.map λ(n:Nat)=>(n:Int))
def Lh(a b:Nat×List Nat)(h:xE a=xE b):a=b:=by
 let#[h1,h2]:=A2 h;erw[Ew (pQ h1) ((sX λ_ _ e=>pQ e).mp h2)]
def Li(p:Nat×List Nat):Lf p=.tup [.int (xE p).1,.tup ((xE p).2.map .int)]:=by
 unfold Lf xE;rw[bA];rfl
abbrev Lj:Spec:=λus S Q=>∃u,us=[u]/\((∃ks:List (Option Nat),u=.tup (ks.map uN)/\ks.length<=9000/\∀m S',Ext S S'->S.length<=m->S'[m]?=ξ (.lst ((lZ [] ks).map aU))->Q (.loc m) S') \/
 ∃n,∃ks:List (Nat×List Nat),u=.loc n/\S[n]?=ξ (.lst (ks.map Lf))/\ks.length<=9000/\∀m S',Ext S S'->S.length<=m->S'[m]?=ξ (.lst ((lZ [] ks).map aU))->Q (.loc m) S')
def Lk{κ:Type}[BEq κ][LawfulBEq κ](f:κ->U)(D:List (κ×U)->SO)(hD:∀(S:bH) (n:Nat) kvs k (d:U) (Q:KU),S[n]?=ξ (D kvs)->kvs.length<=9000->(match kvs.lookup k with|some v=>Q v S|none=>Q d (S.set n (D (kvs++[(k,d)]))))->pB S n (f k) d Q)(hL:∀(S:bH) (n:Nat) kvs,S[n]?=ξ (D kvs)->rY .nZ (.loc n) S/\nj S (.loc n)=ξ kvs.length)
  {g:bH->Prop}{S:bH}{Q:List U->bH->Prop}{ks:List κ} (hl:ks.length<=9000) (hg:∀S',Ext S S'->g S') (q:∀S',Ext S S'->Q ((lZ [] ks).map aU) S'):oM g (λ_ S2 k=>k ζ S2) (λu S2 k=>rY .nZ (.loc S.length) S2/\opt (nj S2 (.loc S.length)) λn=>n<=1000000/\pB S2 S.length u (.int n) k) Q (ks.map f) [] (S++[D []]):=by
 rwa[d8 _ (λi acc S'=>Ext S S'/\S'[S.length]?=ξ (D (dz (sn [] (ks.take i)) 0))/\acc=(lZ [] (ks.take i)).map aU) (λi acc S' hi h=>#[hg _ h.1,?_]) (λi u acc S' k hu hI hk=>?_) (λacc S' hI=>?_) #[Ext.app _,by simp[sn,dz],rfl]]
 .rw[h.2.2,ae,mI,dD];omega
 .let#[x,e,rfl]:=hI
  let#[k0,hk0,rfl]:=dW hu;have tk:=HQ hk0;have ln:(sn [] (ks.take i)).length<=9000:=by have:=wK (ks.take i) [];simp at this;omega
  have nt:(lZ [] (ks.take (i+1))).map aU=(lZ [] (ks.take i)).map aU++[aU ((sn [] (ks.take (i+1))).idxOf k0)]:=by rw[tk,Lg,aF];rfl
  rw[if_pos rfl,(hL _ _ _ e).2]
  refine#[(hL _ _ _ e).1,by rw[As];omega,hD _ _ _ _ _ _ e (%[As|ln]) ?_];rw[Au,As]
  by_cases hm:k0∈sn [] (ks.take i)
  .have es:sn [] (ks.take (i+1))=sn [] (ks.take i):=by rw[tk,vh,if_pos hm]
   rw[if_pos hm,kc]
   erw[hk _ _ #[x,by rw[es];exact e,by rw[nt,es]]]
  .have es:sn [] (ks.take (i+1))=sn [] (ks.take i)++[k0]:=by rw[tk,vh,if_neg hm]
   rw[if_neg hm]
   refine hk _ _ #[#[~~~x.1,λn hn=>?_],?_,?_]
   .rw[aj ∅];erw[x.2 n hn]
   .rw[bM (ab.mp e).1,es,Lc,kc]
   .rw[nt,es,j7,if_neg hm];simp
 .let#[x,e,rfl]:=hI
  rw[show ks.take (ks.map f).length=ks by simp]
  erw[q _ x]
def TH(Γ:cb):Keeps Γ ow 1 Lj:=by
 rintro us S Q ⟨u,rfl,h⟩;unfold ow;rcases h with⟨ks,rfl,hl,q⟩|⟨n,ks,rfl,g,hl,q⟩
 .room
  rw[vW]
  refine#[⋯,.inl ?_];room;refine#[(·),Lk uN (λl=>.dX (l.map λp=>(uN p.1,p.2))) (λS n kvs k d Q e l h=>?_) (λS n kvs e=>#[?_,by dsimp[nj,e,ae]]) hl (λ_ _=>trivial) λS' x=>q _ _ (x.trans (Ext.app _)) x.1 (#v[])]
  .unfold pB
   rw[e]
   refine#[#[TF _,by rw[ae];omega],?_];rw[aF] at h;rw[Ld]
   erw[h]
  .show(match S[n]? with|some (.dX _)=>True|some (.uR _)=>True|some (.xr _)=>True|_=>False)
   rw[e];trivial
 .room
  rw[vW]
  refine#[⋯,.inr (.inr ?_)];room;rw[ah (aK g),g]
  dsimp[ay];rwa[Lk Lf (λl=>.xr (l.map λp=>(xE p.1,p.2))) (λS n kvs k d Q e l h=>?_) (λS n kvs e=>#[?_,by dsimp[nj,e,ae]]) hl (λS' x=>x.get g) λS' x=>q _ _ (x.trans (Ext.app _)) x.1 (#v[])]
  .unfold pB
   rw[e]
   refine#[_,_,Li k,by rw[ae];omega,?_];rw[show((xE k).1,(xE k).2)=xE k from rfl,La xE Lh]
   rw[aF] at h;erw[h]
  .show(match S[n]? with|some (.dX _)=>True|some (.uR _)=>True|some (.xr _)=>True|_=>False)
   rw[e];trivial
structure Rw(S:bH)(n:Nat)(ls:List Nat)(g:Nat->Nat->Nat):Prop where
 l:S[n]?=ξ (.lst (ls.map .loc))
 d:∀(j m:Nat),ls[j]?=ξ m->S[m]?=ξ (SO.dX (SG.map λc=>(.str [c],aU (g j c))))
def Rw.ext{S S':bH}{n:Nat}{ls:List Nat}{g:Nat->Nat->Nat}(h:Rw S n ls g)(x:Ext S S'):Rw S' n ls g:=#[x.get h.l,λj m e=>x.get (h.d j m e)]
def Aw{f:Nat->U}{c:Nat}:∀{l:List Nat},c∈l->uz (.str [c]) (l.map λc=>(U.str [c],f c))=ξ (f c)
 |x::l,h=>by
  rw[aw]
  unfold uz;by_cases e:x=c
  .subst e;rw[if_pos (show Ph (.str [x]) (.str [x])=ζ from beq_self_eq_true [x])]
  .rw[if_neg (show ¬Ph (.str [x]) (.str [c])=ζ from (by simp[e]:¬([x]==[c])=ζ))]
   rcases aR.mp h with z|z
   .erw[absurd z.symm e]
   .erw[Aw z]
def Cf{κ:Type}[BEq κ][LawfulBEq κ]{f:Nat->κ}{h:Nat->U}{k:κ}:∀l:List Nat,(∃c∈l,f c=k/\(l.map λc=>(f c,h c)).lookup k=ξ (h c))\/(l.map λc=>(f c,h c)).lookup k=ψ
 |[]=>.inr rfl
 |x::l=>by
  rw[aw,aN]
  by_cases e:k=f x
  .erw[.inl #[x,aO ..,e.symm,by simp[e]]]
  .rw[show(k==f x)=ϑ by simp[e]]
   rcases Cf (f:=f) (h:=h) (k:=k) l with⟨c,m,z⟩|z
   .erw[.inl #[c,az _ m,z]]
   .erw[.inr z]
abbrev PQ:Spec:=λus S Q=>∃n ls g,us=[.loc n]/\Rw S n ls g/\ls.length<=9000/\∀(m:Nat)(S':bH)(sg:List Nat),Ext S S'->S.length<=m->S'[m]?=ξ (.lst (sg.map λc=>.str [c]))->sg.length<=95->(∀c∈sg,c∈SG)->(∀c∈SG,∃c'∈sg,∀j,j<ls.length->g j c'=g j c)->Q (.loc m) S'
def TJ(Γ:cb):Keeps Γ ja 2 PQ:=by
 rintro us S Q ⟨n,ls,g,rfl,rw0,hl,q⟩;let#[r1,r2]:=rw0;unfold ja;have gl:SG.length=95:=rfl;generalize SG=G at *;room;rw[vW]
 refine#[⋯,.inr (.inl ?_)];room
 let ky:Nat->List Int:=λc=>(bO ls.length).map λj=>((g j c:Nat):Int)
 rwa[df (λi env S1=>∃(sg:List Nat)(x2:Option U),env=[ξ (.loc n),ξ (.loc S.length),x2]/\Ext S S1/\S1[S.length]?=ξ (.uR (sg.map λc=>(ky c,.str [c])))/\sg.length<=i/\(∀c∈sg,c∈G)/\∀c∈G.take i,∃c'∈sg,ky c'=ky c) (λ_ _ _ _=>trivial) _ ?_ ?_ #[[],ψ,rfl,Ext.app _,#v[],#v[],#v[],#v[]]]
 .rintro i u env S1 K hu ⟨sg,x2,rfl,x1,g1,sl,hs,inv⟩ hK
  let#[c,hc,rfl]:=dW hu;have cm:=ag hc;have il:i<95:=by have:=(ab.mp hc).1;omega
  have et:=HQ hc;room;refine#[by show(match S1[S.length]? with|some (.dX _)=>True|some (.uR _)=>True|some (.xr _)=>True|_=>False);rw[g1];trivial,?_];rw[x1.get r1,ay]
  rwa[jc (S:=S1) _ ((ky c).map .int) (by simp[ky]) ((·)) (λS' x=>x.get (x1.get r1)) (λu S' k h=>h) (λj u v hu hv S2 k x hk=>?_) λS2 x=>?_]
  .let#[m,hm,rfl]:=dW hu
   have jl:=(ab.mp hm).1;rw[ar,ar,fU jl] at hv;have hv:aU (g j c)=v:=by simpa using hv
   subst hv;room;rw[(x1.trans x).get (r2 j m hm)]
   rw[jq]
   refine#[rfl,?_];rw[Aw cm]
   erw[hk S2 .refl]
  .rw[aA (ao _),bT]
   dsimp[Bc,ay];have x2:=x.trans (Ext.app [SO.lst ((ky c).map U.int)]);have g2:=x2.get g1;generalize S2++[SO.lst ((ky c).map U.int)]=S3 at x2 g2;show pB S3 S.length _ _ _;unfold pB;rw[g2]
   refine#[ky c,rfl,(·),?_];rcases Cf (f:=ky) (h:=λc=>U.str [c]) (k:=ky c) sg with⟨c',m',e',z⟩|z
   .rw[z]
    room;rwa[hK _ _ #[sg,_,rfl,x1.trans x2,g2,∅,hs,λd hd=>?_]];rw[et] at hd;rcases aJ.mp hd with hd|hd
    .erw[inv d hd]
    .have:d=c:=by simpa using hd
     subst this;exact#[c',m',e']
   .rw[z]
    room;have x13:=x1.trans x2;rwa[hK _ _ #[sg++[c],_,rfl,(x13.st ∅),by rw[gs g2];simp,(·),λd hd=>?_,λd hd=>?_]]
    .rcases aJ.mp hd with hd|hd
     .erw[hs d hd]
     .have:d=c:=by simpa using hd
      subst this;erw[cm]
    .rw[et] at hd
     rcases aJ.mp hd with hd|hd
     .let#[c',m',e']:=inv d hd
      exact#[c',by simp[m'],e']
     .have:d=c:=by simpa using hd
      subst this;exact#[d,#v[],rfl]
 .rintro env S1 ⟨sg,x2,rfl,x1,g1,sl,hs,inv⟩
  rw[ae,gl] at sl;rw[ae,bX] at inv;room;refine#[by show(match S1[S.length]? with|some (.uR _)=>True|_=>False);rw[g1];trivial,?_];show(match S1[S.length]? with|some (.uR kvs)=>Q (.loc S1.length) (S1++[.lst (kvs.map (·.2))])|_=>False)
  rw[g1]
  rwa[q _ _ sg (x1.trans (Ext.app _)) x1.1 (#v[]) sl hs λc hc=>?_]
  let#[c',m',e']:=inv c hc;refine#[c',m',λj hj=>?_];have:=congrArg (·[j]?) e';dsimp[ky,ar,fU hj] at this;have:((g j c':Nat):Int)=(g j c:Nat):=by simpa using this
  omega
abbrev d9(G:List Nat)(f:Nat->Option Nat):List (List Nat×U):=G.filterMap λc=>(f c).map λk=>([c],aU k)
abbrev sD(ps:List (List Nat×U)):List (U×U):=ps.map λp=>(U.str p.1,p.2)
def FC(a:List Nat):∀ps,uz (.str a) (sD ps)=ps.lookup a
 |[]=>rfl
 | (b,v)::r=>by
  have ih:=FC a r;show(if (b==a)=ζ then ξ v else uz (.str a) (sD r))=_;rw[aN,ih]
  by_cases h:b=a
  .subst h;simp
  .rw[if_neg (by simp[h]),show(a==b)=ϑ by simp[cM h]]
def wM(f:Nat->Option Nat)(c:Nat):∀G:List Nat,(d9 G f).lookup [c]=if c∈G then(f c).map aU else ψ
 |[]=>rfl
 |x::G=>by
  have ih:=wM f c G;unfold d9 at ih ⊢;rw[cy]
  by_cases e:c=x
  .subst e
   cases h:f c with
   |none=>rw[h] at ih;dsimp[uZ,ih];simp
   |some k=>simp
  .have e1:(([c]:List Nat)== [x])=ϑ:=by simp[e]
   cases h:f x with
   |none=>dsimp[uZ,ih,aR,e,false_or]
   |some k=>dsimp[fg,aN,e1,ih,aR,e,false_or]
structure Rp(S:bH)(n:Nat)(ls:List Nat)(go:Nat->Nat->Option Nat):Prop where
 l:S[n]?=ξ (.lst (ls.map .loc))
 d:∀(j m:Nat),ls[j]?=ξ m->S[m]?=ξ (SO.dX (sD (d9 SG (go j))))
 z:∀(j c:Nat),ls.length<=j->go j c=ψ
def Rp.ext{S S':bH}{n:Nat}{ls:List Nat}{go:Nat->Nat->Option Nat}(h:Rp S n ls go)(x:Ext S S'):Rp S' n ls go:=#[x.get h.l,λj m e=>x.get (h.d j m e),h.z]
abbrev gN(N:Nat)(go:Nat->Nat->Option Nat)(j c:Nat):Nat:=(go j c).getD N
abbrev Xv:Spec:=λus S Q=>∃n ls go,us=[.loc n]/\Rp S n ls go/\ls.length<=9000/\∀(m:Nat)(S':bH)(ms:List Nat),Ext S S'->ms.length=ls.length+1->Rw S' m ms (gN ls.length go)->Q (.loc m) S'
def TK{Γ:cb}{S:bH}{d N:Nat}{f:Nat->Option Nat}{k:KU}(hd:S[d]?=ξ (.dX (sD (d9 SG f))))(q:∀m S',Ext S S'->S'[m]?=ξ (.dX (SG.map λc=>(.str [c],aU ((f c).getD N))))->k (.loc m) S'):WE Γ pWn [ξ (.loc d),ξ (aU N)] S k:=by
 unfold pWn;have nd:=PC;have gl:SG.length=95:=rfl;generalize SG=G at *;room;rwa[jc (S:=S) _ (G.map λc=>.tup [.str [c],aU ((f c).getD N)]) (#v[]) ((·)) (λS' x=>trivial) (λu S' k h=>h) (λj u v hu hv S2 k x' hk=>?_) λS2 x'=>?_]
 .rw[ar] at hu hv
  let#[c,hc,rfl]:=au.mp hu;rw[hc] at hv;have hv:U.tup [.str [c],aU ((f c).getD N)]=v:=by simpa using hv
  subst hv;room;rw[x'.get hd]
  dsimp[getD_some,jq,true_and];refine#[d9 G f,rfl,#v[],?_];rw[wM,if_pos (ag hc)]
  have:((f c).map aU).getD (aU N)=aU ((f c).getD N):=by cases f c<;>rfl
  rw[this]
  erw[hk S2 .refl]
 .refine#[G.map λc=>([c],aU ((f c).getD N)),by simp[dH],%[bA|nd],?_]
  rw[bA]
  erw[q _ _ (x'.trans ((Ext.app _).trans (Ext.app _))) (by rw[aA (ao _),bT];rfl)]
def Xw(Γ:cb):Keeps Γ jK 1 Xv:=by
 rintro us S Q ⟨n,ls,go,rfl,⟨r1,r2,r3⟩,hl,q⟩;unfold jK;room;rw[j8 r1]
 dsimp[aT,ae];refine#[∅,?_];room;rw[vW]
 refine#[⋯,.inl #[#v[],?_]];have x0:Ext S (S++[SO.dX []]++[SO.lst [U.loc S.length]]):=(Ext.app _).trans (Ext.app _);have g0:(S++[SO.dX []]++[SO.lst [U.loc S.length]])[(S++[SO.dX []]).length]?=ξ (.lst [U.loc S.length]):=by
  rw[aA (ao _),bT];rfl
 have d0:(S++[SO.dX []]++[SO.lst [U.loc S.length]])[S.length]?=ξ (.dX []):=(Ext.app _).get (#v[]);generalize (S++[SO.dX []]).length=n0 at g0;generalize S++[SO.dX []]++[SO.lst [U.loc S.length]]=S0 at x0 g0 d0;rw[x0.get r1,g0]
 dsimp[ay];refine#[(·),?_];have x1:Ext S (S0++[SO.lst (ls.map U.loc++[U.loc S.length])]):=x0.trans (Ext.app _);have g1:(S0++[SO.lst (ls.map U.loc++[U.loc S.length])])[S0.length]?=ξ (.lst ((ls++[S.length]).map U.loc)):=by simp
 have d1:=(Ext.app [SO.lst (ls.map U.loc++[U.loc S.length])]).get d0;generalize S0.length=n1 at g1;generalize S0++[SO.lst (ls.map U.loc++[U.loc S.length])]=S1 at x1 g1 d1;rw[g1,ay]
 have rd:∀(j d:Nat),(ls++[S.length])[j]?=ξ d->S1[d]?=ξ (.dX (sD (d9 SG (go j)))):=λj d h=>by
  by_cases hj:j<ls.length
  .rw[ah hj] at h
   erw[x1.get (r2 j d h)]
  .have:=(ab.mp h).1
   have ej:j=ls.length:=by simp at this;omega
   subst ej;have:S.length=d:=by simpa using h
   subst this;have:d9 SG (go ls.length)= []:=by
    unfold d9;rw[List.filterMap_eq_nil_iff]
    intro c _;rw[r3 _ c (ao _)];rfl
   rw[this];erw[d1]
 refine d8 _ (λi acc S'=>Ext S1 S'/\∃ms:List Nat,acc=ms.map .loc/\ms.length=i/\∀(j d:Nat),ms[j]?=ξ d->S'[d]?=ξ (SO.dX (SG.map λc=>(.str [c],aU (gN ls.length go j c))))) (λi acc S' hi h9=>by let#[x,ms,e1,e2,_]:=h9;exact#[x.get g1,by rw[e1];simp at hi ⊢;omega]) (λi u acc S' k hu hi hk=>?_) (λacc S' hI=>?_) #[.refl,[],rfl,rfl,#v[]]
 .let#[x,ms,rfl,e2,inv]:=hi
  let#[d,hd,rfl]:=dW hu;rw[if_pos rfl]
  rwa[TK (x.get (rd i d hd)) λm S2 x2 g2=>hk _ _ #[x.trans x2,ms++[m],by rw[aF];rfl,by simp[e2],λj d hj=>?_]]
  by_cases hlt:j<ms.length
  .rw[ah hlt] at hj
   erw[x2.get (inv j d hj)]
  .have:=(ab.mp hj).1
   have ej:j=ms.length:=by simp at this;omega
   subst ej;have:m=d:=by simpa using hj
   rw[<-this,e2]
   erw[g2]
 .let#[x,ms,rfl,e2,inv]:=hI
  have e2:ms.length=ls.length+1:=by simpa using e2
  erw[q _ _ ms ((x1.trans x).trans (Ext.app _)) e2 #[#v[],λj d h=>(Ext.app _).get (inv j d h)]]
abbrev pk(b:List Nat)(g:Nat->Nat->Nat)(sg:List Nat)(N:Nat):List (Nat×List Nat):=(bO N).map λj=>(b.getD j 0,sg.map λc=>b.getD (g j c) 0)
def Ax{b:List Nat}{j:Nat}{r:U->Prop}(h:j<b.length)(z:r (aU (b.getD j 0))):opt (qV (b.map aU) ((j:Nat):Int)) r:=by
 rw[gc,ar,aa h]
 rw[aC,aa h] at z;erw[z]
def TL{Γ:cb}{S:bH}{nb nr ns m d:Nat}{b sg:List Nat}{f:Nat->Nat}{x4:U}{k:KU}(hb:S[nb]?=ξ (.lst (b.map aU)))(hs:S[ns]?=ξ (.lst (sg.map λc=>.str [c])))(hd:S[d]?=ξ (.dX (SG.map λc=>(.str [c],aU (f c)))))(sl:sg.length<=95)(hg:∀c∈sg,c∈SG/\f c<b.length)
  (q:∀m S',Ext S S'->S'[m]?=ξ (.lst ((sg.map λc=>b.getD (f c) 0).map aU))->k (.loc m) S'):WE Γ pPa [ξ (.loc nb),ξ (.loc nr),ξ (.loc ns),ξ (.loc m),ξ x4,ξ (.loc d)] S k:=by
 unfold pPa;room;rw[hs,ay]
 rwa[jc (S:=S) _ ((sg.map λc=>b.getD (f c) 0).map aU) (#v[]) ((·)) (λS' x=>x.get hs) (λu S' k h=>h) (λj u v hu hv S2 k x' hk=>?_) λS2 x'=>?_]
 .let#[c,hc,rfl]:=dW hu
  rw[ar,ar,hc] at hv;have hv:aU (b.getD (f c) 0)=v:=by simpa using hv
  subst hv;let#[h1,h2]:=hg c (ag hc);rw[x'.get hd,jq,Aw h1,aT]
  refine#[rfl,?_];show getL S2[nb]? _;rw[x'.get hb,ay]
  erw[Ax h2 (hk S2 .refl)]
 .erw[q _ _ (x'.trans (Ext.app _)) (#v[])]
abbrev PU:Spec:=λus S Q=>∃nb nr ns ls b sg g,us=[.loc nb,.loc nr,.loc ns]/\S[nb]?=ξ (.lst (b.map aU))/\Rw S nr ls g/\S[ns]?=ξ (.lst (sg.map λc=>.str [c]))/\ls.length<=9000/\b.length=ls.length/\sg.length<=95/\(∀c∈sg,c∈SG/\∀j,j<ls.length->g j c<ls.length) /\
 ∀m S',Ext S S'->S.length<=m->S'[m]?=ξ (.lst ((lZ [] (pk b g sg ls.length)).map aU))->Q (.loc m) S'
def TM(Γ:cb)(h1:Γ "numbered"=Lj):Keeps Γ se 3 PU:=by
 rintro us S Q ⟨nb,nr,ns,ls,b,sg,g,rfl,hb,R,hs,hl,bl,sl,hg,q⟩;unfold se;room;refine#[#v[],?_];room;have x0:Ext S (S++[SO.lst []]):=Ext.app _;rw[x0.get R.l,ay]
 rwa[df (λi env S1=>∃(x4 x5:Option U),env=[ξ (.loc nb),ξ (.loc nr),ξ (.loc ns),ξ (.loc S.length),x4,x5]/\Ext S S1/\S1[S.length]?=ξ (.lst ((pk b g sg i).map Lf))/\i<=ls.length) (λi env S1 h9=>by let#[_,_,_,x,_]:=h9;erw[x.get R.l]) _ ?_ ?_ #[ψ,ψ,rfl,x0,by simp[pk],∅]]
 .rintro i u env S1 K hu ⟨x4,x5,rfl,x1,g1,il⟩ hK
  dsimp[dY,ar,pP] at hu;let#[d,hd,rfl]:=au.mp hu;have hi:=(ab.mp hd).1;dsimp[dH];room;rw[g1,x1.get hb]
  dsimp[ay];refine#[trivial,Ax ∅ ?_];rwa[TL (x1.get hb) (x1.get hs) (x1.get (R.d i d hd)) sl (λc hc=>#[(hg c hc).1,by rw[bl];exact(hg c hc).2 i hi]) λm S2 x2 g2=>?_]
  room;rw[g2,ay]
  refine#[#v[],?_];rw[x2.get g1,ay]
  refine#[by simp[pk];omega,?_];room;have x12:=x1.trans x2;rwa[hK _ _ #[_,_,rfl,(x12.st ∅),?_,hi]];rw[gs (x2.get g1)]
  unfold pk;rw[xf,aF,aF]
  rfl
 .rintro env S1 ⟨x4,x5,rfl,x1,g1,il⟩
  rw[gI,ae] at g1;room;erw[ca h1 #[_,rfl,.inr #[_,_,rfl,g1,by simp[pk];omega,λm S2 x2 ml g2=>q m S2 (x1.trans x2) (aI x1.1 ml) g2]]]
abbrev Eqv(told:List (Option Nat))(g:Nat->Nat->Nat):Nat->Nat->Nat->Prop
 |0,i,j=>told[i]?=told[j]?
 |k+1,i,j=>Eqv told g k i j/\∀c∈SG,Eqv told g k (g i c) (g j c)
structure HS(told:List (Option Nat))(g:Nat->Nat->Nat)(k:Nat)(b:List Nat):Prop where
 len:b.length=told.length
 fx:lZ [] b=b
 iff:∀i j,i<told.length->j<told.length->(b.getD i 0=b.getD j 0↔Eqv told g k i j)
def gd{b:List Nat}{i:Nat}(h:i<b.length):b[i]?=ξ (b.getD i 0):=by
 rw[aC,aa h];rfl
def Lm{a b:List Nat}{i j:Nat}(hi:i<b.length)(hj:j<b.length):b.getD i 0=b.getD j 0↔b[i]?=b[j]?:=by
 rw[gd hi,gd hj];simp
def Xx{told:List (Option Nat)}{g:Nat->Nat->Nat}:HS told g 0 (lZ [] told):=by
 refine#[mI told [],FA told,λi j hi hj=>?_];rw[Lm (a:=[]) (%[mI|hi]) (%[mI|hj]),vg (aa hi) (aa hj)]
 unfold Eqv;rw[aa hi,aa hj]
 simp
def PV(h:i<N):(pk b g sg N)[i]?=ξ (b.getD i 0,sg.map λc=>b.getD (g i c) 0):=by
 unfold pk;rw[ar,fU h];rfl
def Xy{told:List (Option Nat)}{g:Nat->Nat->Nat}{k:Nat}{b sg:List Nat}(h:HS told g k b)(hc:∀j c,j<told.length->c∈SG->g j c<told.length)(h1:∀c∈sg,c∈SG)(h2:∀c∈SG,∃c'∈sg,∀j,j<told.length->g j c'=g j c):HS told g (k+1) (lZ [] (pk b g sg told.length)):=by
 have l1:(lZ [] (pk b g sg told.length)).length=told.length:=by rw[mI];simp[pk]
 refine#[l1,FA _,λi j hi hj=>?_];rw[Lm (a:=[]) ∅ ∅,vg (PV hi) (PV hj),Prod.mk.injEq,h.iff i j hi hj]
 show _↔Eqv told g k i j/\∀c∈SG,Eqv told g k (g i c) (g j c)
 rwa[and_congr_right λ_=>?_]
 rw[uj]
 constructor
 .intro z c hcm
  let#[c',m',e']:=h2 c hcm;rw[<-e' i hi,<-e' j hj]
  exact(h.iff _ _ (hc i c' hi (h1 c' m')) (hc j c' hj (h1 c' m'))).mp (z c' m')
 .intro z c hcm
  exact(h.iff _ _ (hc i c hi (h1 c hcm)) (hc j c hj (h1 c hcm))).mpr (z c (h1 c hcm))
def FD{told:List (Option Nat)}{g:Nat->Nat->Nat}{k m:Nat}{b:List Nat}(h:HS told g k b)(h1:m∈b)(h2:∀j∈b,j<=m):m+1=(sn [] b).length:=by
 have:=h.fx;rw[<-this] at h1 h2;erw[OP h1 h2]
def TN{told:List (Option Nat)}{g:Nat->Nat->Nat}{k:Nat}{a b:List Nat}(ha:HS told g (k+1) a)(hb:HS told g k b):(sn [] b).length<=(sn [] a).length/\((sn [] b).length=(sn [] a).length->a=b):=by
 have h:∀(i j:Nat)(x y u v:Nat),a[i]?=ξ x->a[j]?=ξ y->b[i]?=ξ u->b[j]?=ξ v->x=y->u=v:=by
  intro i j x y u v e1 e2 e3 e4 e;have l1:=(ab.mp e1).1;have l2:=(ab.mp e2).1;have la:=ha.len;have lb:=hb.len;have z:=(ha.iff i j ∅ ∅).mp (by rw[aC,aC,e1,e2,e]);have:=(hb.iff i j ∅ ∅).mpr z.1;rw[aC,aC,e3,e4] at this;erw[this]
 have l:a.length=b.length:=by rw[ha.len,hb.len]
 refine#[Ej l h,λe=>?_];have:=Fz l h e;rw[ha.fx,hb.fx] at this;erw[this]
def FE{S:bH}{n:Nat}{b:List Nat}{Q:KU}(h:S[n]?=ξ (.lst (b.map aU)))(b0:0<b.length)(q:∀m∈b,(∀j∈b,j<=m)->Q (aU m) S):tQ .max [.loc n] S Q:=by
 cases b with
 |nil=>simp at b0
 |cons x b=>
  refine#[(x:Int),b.map λ(n:Nat)=>(n:Int),by rw[h];simp,λm hm hj=>?_];have e:((x:Int)::b.map λ(n:Nat)=>(n:Int))=(x::b).map λ(n:Nat)=>(n:Int):=rfl
  rw[e] at hm hj;let#[y,hy,rfl]:=bx.mp hm;rwa[q y hy λj m=>?_]
  have:=hj _ (bx.mpr #[j,m,rfl]);omega
def Ay{α:Type}{l:List α}{x:α}:qV (l++[x]) (-1)=ξ x:=by
 unfold qV Ni;rw[if_neg ∅,if_pos ((·))]
 have:((-1:Int)+((l++[x]).length:Nat)).toNat=l.length:=by rw[aq];simp;omega
 rw[this];simp
structure aa4(told:List (Option Nat))(g:Nat->Nat->Nat)(S:bH)(fs:List Nat):Prop where
 r:∀(k n:Nat),fs[k]?=ξ n->∃b,S[n]?=ξ (.lst (b.map aU))/\HS told g k b
 ne:fs≠[]
 st:∀i j,i<told.length->j<told.length->Eqv told g (fs.length-1) i j->Eqv told g fs.length i j
 le:fs.length<=told.length+1
abbrev Xz:Spec:=λus S Q=>∃nr ls g told,us=[.tup (told.map uN),.loc nr]/\Rw S nr ls g/\told.length=ls.length/\0<ls.length/\ls.length<=9000/\(∀j c,j<told.length->c∈SG->g j c<told.length)/\∀F fs S',Ext S S'->S'[F]?=ξ (.lst (fs.map .loc))->aa4 told g S' fs->Q (.loc F) S'
structure XA(told:List (Option Nat))(g:Nat->Nat->Nat)(L:Nat)(S3:bH)(fs:List Nat)(m:Nat)(b:List Nat):Prop where
 f:S3[L]?=ξ (.lst ((fs++[m]).map .loc))
 v:S3[m]?=ξ (.lst (b.map aU))
 r:HS told g fs.length b
 a:∀(k n:Nat),(fs++[m])[k]?=ξ n->n≠L/\∃b,S3[n]?=ξ (.lst (b.map aU))/\HS told g k b
 l:fs.length<=(sn [] b).length/\(sn [] b).length<=told.length
def XA.push{told:List (Option Nat)}{g:Nat->Nat->Nat}{L m m':Nat}{S3 S4:bH}{fs b a':List Nat}(a:XA told g L S3 fs m b)(x:Ext S3 S4)(ml:S3.length<=m')(g4:S4[m']?=ξ (.lst (a'.map aU)))(ra:HS told g (fs.length+1) a')(lt:(sn [] b).length<(sn [] a').length):XA told g L (S4.set L (.lst ((fs++[m]).map .loc++[.loc m']))) (fs++[m]) m' a':=by
 have ne:m'≠L:=dJ (aD (aK a.f) ml);have gs':∀n o,n≠L->S4[n]?=ξ o->(S4.set L (.lst ((fs++[m]).map .loc++[.loc m'])))[n]?=ξ o:=λn o ne e=>%[aj (cM ne)|e]
 have le:(fs++[m]).length=fs.length+1:=by simp
 have sl:=wK a' [];refine#[by rw[gs (x.get a.f)];simp,gs' _ _ ne g4,%[le|ra],λk n e=>?_,%[le|gJ a.l.1 lt],?_]
 .by_cases hk:k<(fs++[m]).length
  .rw[ah hk] at e
   let#[ne,b',e1,e2]:=a.a k n e;exact#[ne,b',gs' _ _ ne (x.get e1),e2]
  .have:=aK e
   rw[aq] at this;have ek:k=(fs++[m]).length:=pR (uK this) (dS hk);subst ek;have:m'=n:=by simpa using e
   subst this;exact#[ne,a',gs' _ _ ne g4,%[le|ra]]
 .rw[ra.len] at sl;simpa using sl
def XB(Γ:cb)(h1:Γ "telling_signs"=PQ)(h2:Γ "numbered"=Lj)(h3:Γ "parted"=PU):Keeps Γ sd 3 Xz:=by
 rintro us S Q ⟨nr,ls,g,told,rfl,R,tl,l0,hl,hg,q⟩;unfold sd;room;rwa[ca h1 #[nr,ls,g,rfl,R,hl,λns S1 sg x1 nsl g1 sl s1 s2=>?_]];rw[<-tl] at s2 hl l0;room;rwa[ca h2 #[_,rfl,.inl #[told,rfl,hl,λn0 S2 x2 nl2 g2=>#[#v[],?_]]]];have x12:=x1.trans x2;have gs2:=x2.get g1;room;have r0:HS told g 0 (lZ [] told):=Xx;have sn0:=wK (lZ [] told) [];rw[mI] at sn0;have I0:XA told g S2.length (S2++[SO.lst [U.loc n0]]) [] n0 (lZ [] told):=#[#v[],(Ext.app _).get g2,r0,λk n e=>?_,bI _,~~~sn0]
 .refine#[told.length+1,oE (λN env S3=>∃(fs:List Nat)(m:Nat)(b:List Nat)(x4:Option U),N=told.length-(sn [] b).length/\env=[ξ (.tup (told.map uN)),ξ (.loc nr),ξ (.loc ns),ξ (.loc S2.length),x4]/\Ext S2 S3/\XA told g S2.length S3 fs m b) ?_ _ (told.length-(sn [] (lZ [] told)).length) _ _ (LY (zg _ _)) #[[],n0,_,ψ,rfl,rfl,Ext.app _,I0]]
  rintro N env S3 K ⟨fs,m,b,x4,rfl,rfl,x3,I⟩ hK;let#[g3,gm,rb,inv,fl,snl]:=id I;room;rw[g3,ay,aF]
  rw[show [m].map U.loc=[.loc m] from rfl,Ay,aT]
  refine ca h3 #[m,nr,ns,ls,b,sg,g,rfl,gm,R.ext (x12.trans x3),x3.get gs2,tl▸hl,by rw[rb.len,tl],sl,λc hc=>#[s1 c hc,λj hj=>by rw[<-tl] at hj ⊢;erw[hg j c hj (s1 c hc)]],λm' S4 x4 ml' g4=>?_];rw[<-tl] at g4;have ra:=Xy rb hg s1 s2;generalize lZ [] (pk b g sg told.length)=a at g4 ra;let#[le,eqn]:=TN ra rb;room;rwa[FE g4 (ra.len▸l0) λma h1a h2a=>?_]
  have ea:=FD ra h1a h2a;rw[x4.get g3,ay,aF,show [m].map U.loc=[.loc m] from rfl,Ay,aT]
  rwa[FE (x4.get gm) (rb.len▸l0) λmb h1b h2b=>?_]
  have eb:=FD rb h1b h2b;room;by_cases z:ma=mb
  .have:((ma:Int)== (mb:Int))=ζ:=by rw[beq_iff_eq,z]
   dsimp[this,if_true];have e:=eqn (by rw[<-ea,<-eb,z]);subst e;room;rwa[q _ (fs++[m]) S4 ((x12.trans x3).trans x4) (x4.get g3) #[λk n e=>?_,#v[],λi j hi hj h=>?_,%[aq|dg (aI fl snl)]]]
   .let#[_,b,e1,e2]:=inv k n e
    exact#[b,x4.get e1,e2]
   .rw[aq] at h ⊢
    exact(ra.iff i j hi hj).mp ((rb.iff i j hi hj).mpr h)
  .have:((ma:Int)== (mb:Int))=ϑ:=%[beq_eq_false_iff_ne|λy=>z (pQ y)]
   dsimp[this,av,if_false];room;rw[x4.get g3,ay]
   have lt:(sn [] b).length<(sn [] a).length:=Ik le λy=>z (by rw[<-ea,<-eb] at y;exact(nI y).symm)
   have I4:=I.push x4 ml' g4 ra lt;refine#[trivial,by rw[ae,aq];exact gJ (dg (aI fl (aI snl hl))) ⋯,?_];try room
   have x34:=x3.trans x4;erw[hK (told.length-(sn [] a).length) _ _ (Nat.sub_lt_sub_left (aD lt I4.l.2) lt) #[fs++[m],m',a,_,rfl,rfl,#[by rw[cK];exact x34.1,λn hn=>by rw[aj (dJ hn)];exact x34.2 n hn],I4]]
 .have:=aK e
  have ek:k=0:=by simp at this;erw[this]
  subst ek;have:n0=n:=by simpa using e
  subst this;exact#[bb (aK g2),_,(Ext.app _).get g2,r0]
abbrev TQ(k:Nat)(told:List (Option Nat))(R:Nat):SO:=.ins "Table" [("takes",.loc k),("told",.tup (told.map uN)),("rows",.loc R)]
structure HU(S:bH)(T:Nat)(told:List (Option Nat))(ls:List Nat)(go:Nat->Nat->Option Nat):Prop where
 o:∃k R,S[T]?=ξ (TQ k told R)/\S[k]?=ξ (.lst (told.map uN))/\Rp S R ls go
 ll:ls.length=told.length
 sz:told.length<=4000
 cl:∀j c k,c∈SG->go j c=ξ k->k<told.length
def HU.ext(h:HU S T told ls go)(x:Ext S S'):HU S' T told ls go:=by
 let#[k,R,h1,h2,h3]:=h.o;exact#[#[k,R,x.get h1,x.get h2,h3.ext x],h.ll,h.sz,h.cl]
abbrev OQ:Spec:=λus S Q=>∃T a R told,us=[.loc T,.loc a,.loc R]/\S[T]?=ξ (.ins "Table" [])/\S[a]?=ξ (.lst (told.map uN))/\∀k S',Old T S S'->S'[T]?=ξ (TQ k told R)->S'[k]?=ξ (.lst (told.map uN))->Q .b7 S'
def XC(Γ:cb):Keeps Γ lj 0 OQ:=by
 rintro us S Q ⟨T,a,R,told,rfl,hT,ha,q⟩;unfold lj;have ne:a≠T:=λz=>by rw[z,hT] at ha;cases ha
 room;rw[ha,ay]
 have x1:Ext S (S++[SO.lst (told.map uN)]):=Ext.app _;have g1:(S++[SO.lst (told.map uN)])[S.length]?=ξ (.lst (told.map uN)):=by simp
 have n1:S.length≠T:=dJ (aK hT);generalize S.length=k at g1 n1;generalize S++[SO.lst (told.map uN)]=S1 at x1 g1;rwa[Hq (x1.get hT) (#v[]) λS2 o2 l2 g2=>?_]
 room;rw[oU o2 (x1.get ha) ne,ay]
 rwa[Hq g2 (by simp[iF]) λS3 o3 l3 g3=>?_]
 room;rwa[Hq g3 (by simp[iF]) λS4 o4 l4 g4=>?_]
 room;erw[q k S4 (((Ext.old x1).trans o2).trans (o3.trans o4)) g4 (oU o4 (oU o3 (oU o2 g1 n1) n1) n1)]
abbrev TR:Spec:=λus S Q=>∃T told ls go j c,us=[.loc T,aU j,.str [c]]/\HU S T told ls go/\j<told.length/\c∈SG/\Q (uN (go j c)) S
def TU(h:S[T]?=ξ (TQ k told R)):pC (.loc T) "rows" S r=r (.loc R):=by rw[jt,h];rfl
def Ln(h:S[T]?=ξ (TQ k told R)):pC (.loc T) "told" S r=r (.tup (told.map uN)):=by rw[jt,h];rfl
def at_of{α:Type}{f:α->U}{l:List α}{j:Nat}{a:α}{r:U->Prop}(h:l[j]?=ξ a)(z:r (f a)):opt (qV (l.map f) ((j:Nat):Int)) r:=by
 rw[gc,ar,h];erw[z]
def XD(Γ:cb):Keeps Γ lu 0 TR:=by
 rintro us S Q ⟨T,told,ls,go,j,c,rfl,h,hj,hc,q⟩;unfold lu;let#[k,R,h1,h2,h3]:=h.o;have hl:=h.ll;room;rw[TU h1]
 room;rw[h3.l,ay]
 have hd:=aa (show j<ls.length by omega);have dd:=h3.d j _ hd;rwa[at_of hd ?_];refine#[by show jo S[_]? _;rw[dd];trivial,?_];show jo S[_]? _;rw[dd]
 refine#[rfl,?_];rw[FC,wM,if_pos hc]
 cases e:go j c<;>rw[e] at q<;>exact q
abbrev Gb(go:Nat->Nat->Option Nat)(x:List Nat):Option Nat:=x.foldl (λs c=>s.bind λj=>go j c) (ξ 0)
def wN:Gb go (x++[c])=(Gb go x).bind λj=>go j c:=by unfold Gb;rw[hU];rfl
abbrev fst(told:List (Option Nat))(go:Nat->Nat->Option Nat)(x:List Nat):Option Nat:=(Gb go x).bind λj=>told.getD j ψ
def FF{S S':bH}{o:SO}(h:Old S.length (S++[o]) S'):Ext S S':=by
 have l:=h.1;rw[aq] at l;exact#[aI (fZ _ _) l,λn hn=>by rw[h.2 n (%[aq|aD hn (fZ _ _)]) (bb hn),ah hn]]
section
variable{tk:Nat->Nat}{Ls G:List Nat}{r h c:Nat}
abbrev gz(tk:Nat->Nat)(Ls:List Nat)(r c:Nat):Option Nat:=if r&&&tk c=0 then ψ else ξ (Ls.idxOf (r&&&tk c))
def TV(z:r&&&tk c=0\/r&&&tk c∈Ls):gz tk (Ls++[h]) r c=gz tk Ls r c:=by
 unfold gz;rcases z with z|z
 .rw[if_pos z,if_pos z]
 .rw[oI z]
def Cg(z:∀c∈G,r&&&tk c=0\/r&&&tk c∈Ls):d9 G (gz tk (Ls++[h]) r)=d9 G (gz tk Ls r):=by
 unfold d9;induction G with
 |nil=>rfl
 |cons x G ih=>rw[cy,cy,TV (z x (aO ..)),ih λc m=>z c (az _ m)]
def OR(e:f c=ψ):d9 (G++[c]) f=d9 G f:=by
 unfold d9;rw[C2];simp[e]
def OS(e:f c=ξ k):sD (d9 (G++[c]) f)=sD (d9 G f)++[(.str [c],aU k)]:=by
 unfold d9 sD;rw[C2,aF];simp[e]
abbrev nz(Ls:List Nat):List (U×U):=(dz Ls 0).map λp=>(aU p.1,p.2)
def TX:(nz Ls).length=Ls.length:=by unfold nz;rw[ae,As]
def TZ:nz (Ls++[h])=nz Ls++[(aU h,aU Ls.length)]:=by unfold nz;rw[Lc,aF,kc];rfl
def Az:uz (aU h) (nz Ls)=if h∈Ls then ξ (aU (Ls.idxOf h)) else ψ:=by
 have e:nz Ls=((dz Ls 0).map λp=>(ξ p.1,p.2)).map λp=>(uN p.1,p.2):=by unfold nz;rw[bA];rfl
 have:=Ld (ξ h) ((dz Ls 0).map λp=>(ξ p.1,p.2));rw[e,show aU h=uN (ξ h) from rfl,this,La ξ (λ_ _=>aG),Au,kc]
end
structure Ci(S S1:bH)(tk:Nat->Nat)(Ls rs ds:List Nat):Prop where
 x:Ext S S1
 l:S1[S.length]?=ξ (.lst (Ls.map aU))
 n:S1[S.length+1]?=ξ (.dX (nz Ls))
 r:S1[S.length+2]?=ξ (.lst (ds.map .loc))
 d:∀(j d r:Nat),ds[j]?=ξ d->rs[j]?=ξ r->S.length+3<=d/\S1[d]?=ξ (.dX (sD (d9 SG (gz tk Ls r))))
 m:∀r∈rs,∀c∈SG,r&&&tk c=0\/r&&&tk c∈Ls
 nd:Ls.Nodup
def Ci.set(h:Ci S S1 tk Ls rs ds)(hd:S.length+3<=d0)(hn:∀(j r:Nat),rs[j]?=ξ r->ds[j]?≠ξ d0):Ci S (S1.set d0 o) tk Ls rs ds:=by
 have e:∀(n:Nat)(o':SO),n≠d0->S1[n]?=ξ o'->(S1.set d0 o)[n]?=ξ o':=λn o' ne g=>%[aj (cM ne)|g]
 exact#[#[%[cK|h.x.1],λn hn=>%[aj ∅|h.x.2 n hn]],e _ _ ∅ h.l,e _ _ ∅ h.n,e _ _ ∅ h.r,λj d r h1 h2=>#[(h.d j d r h1 h2).1,e _ _ (λz=>hn j r h2 (z▸h1)) (h.d j d r h1 h2).2],h.m,h.nd]
def Ci.ext(h:Ci S S1 tk Ls rs ds)(x:Ext S1 S2):Ci S S2 tk Ls rs ds:=
 #[h.x.trans x,x.get h.l,x.get h.n,x.get h.r,λj d r h1 h2=>#[(h.d j d r h1 h2).1,x.get (h.d j d r h1 h2).2],h.m,h.nd]
def Ci.more(a:Ci S S1 tk Ls rs ds)(hn:h∉Ls):Ci S ((S1.set (S.length+1) (.dX (nz Ls++[(aU h,aU Ls.length)]))).set S.length (.lst (Ls.map aU++[aU h]))) tk (Ls++[h]) rs ds:=by
 have e:∀(n:Nat)(o o1 o2:SO),n≠S.length->n≠S.length+1->S1[n]?=ξ o->((S1.set (S.length+1) o1).set S.length o2)[n]?=ξ o:=λn o o1 o2 n1 n2 g=>%[aj (cM n1),aj (cM n2)|g]
 have l1:=aK a.n;refine#[#[%[cK,cK|a.x.1],λn hn=>%[aj ∅,aj ∅|a.x.2 n hn]],?_,?_,e _ _ _ _ ∅ ∅ a.r,λj d r h1 h2=>?_,λr m c hc=>?_,?_]
 .rw[bM (by rw[cK];omega)];simp
 .rw[aj ∅,bM l1,TZ]
 .let#[z1,z2]:=a.d j d r h1 h2
  exact#[z1,%[Cg (a.m r (ag h2))|e _ _ _ _ ∅ ∅ z2]]
 .rcases a.m r m c hc with z|z
  .erw[.inl z]
  .erw[.inr (by simp[z])]
 .rw[d7]
  exact#[a.nd,#v[],λx hx y hy=>%[aX.mp hy|λz=>hn (z▸hx)]]
def wO:SG.Nodup:=⋯
def XE(Γ:cb){S S1:bH}{P r d0 m c:Nat}{bh en Ls rs ds:List Nat}{tk:Nat->Nat}{x7:Option U}{K:Env->bH->Prop}{Q:KU}(pa:KO S P bh en tk)(I:Ci S S1 tk Ls rs ds)(g0:S1[d0]?=ξ (.dX (sD (d9 (SG.take m) (gz tk Ls r)))))(hd0:S.length+3<=d0)(hds:∀(j r:Nat),rs[j]?=ξ r->ds[j]?≠ξ d0)(hc:SG[m]?=ξ c)(hm:∀c∈SG.take m,r&&&tk c=0\/r&&&tk c∈Ls)(lt:Ls.length<=4000)
  (q:∀Ls' S2,Ci S S2 tk Ls' rs ds->S2[d0]?=ξ (.dX (sD (d9 (SG.take (m+1)) (gz tk Ls' r))))->(∀c∈SG.take (m+1),r&&&tk c=0\/r&&&tk c∈Ls')->(Ls'=Ls\/(r&&&tk c≠0/\Ls'=Ls++[r&&&tk c]))->K [ξ (.loc P),ξ (.loc S.length),ξ (.loc (S.length+1)),ξ (.loc (S.length+2)),ξ (aU r),ξ (.loc d0),ξ (.str [c]),ξ (aU (r&&&tk c))] S2):
  Rest Γ pSi #[K,Q] [ξ (.loc P),ξ (.loc S.length),ξ (.loc (S.length+1)),ξ (.loc (S.length+2)),ξ (aU r),ξ (.loc d0),ξ (.str [c]),x7] S1:=by
 let#[b,e,k,oP,_,_,gk]:=(pa.ext I.x).o;have fk:∀{R},pC (.loc P) "takers" S1 R=R (.loc k):=by intro R;rw[jt,oP];rfl
 have cm:=ag hc;have et:=HQ hc;have nm:c∉SG.take m:=λz=>by
  let#[i,hi]:=bq z;have il:=(ab.mp hi).1;rw[dD] at il;rw[AM ∅] at hi;have:=(List.getElem?_inj ∅ wO).mp (hi.trans hc.symm);omega
 rw[et] at q;have rl:(sD (d9 (SG.take m) (gz tk Ls r))).length<1000000:=by
  have:(d9 (SG.take m) (gz tk Ls r)).length<=(SG.take m).length:=List.length_filterMap_le ..;rw[dD] at this;have gl:SG.length=95:=rfl;unfold sD;rw[ae];omega
 have dn:∀f:Nat->Option Nat,uz (.str [c]) (sD (d9 (SG.take m) f))=ψ:=λf=>by rw[FC,wM,if_neg nm]
 unfold pSi;room;rw[fk]
 room;rw[gk,jq,Aw cm,aT]
 refine#[rfl,?_];rw[u7]
 generalize hh:r&&&tk c=h at *;have go2:∀(Ls':List Nat)(S2:bH),Ci S S2 tk Ls' rs ds->S2[d0]?=ξ (.dX (sD (d9 (SG.take m) (gz tk Ls' r))))->sD (d9 (SG.take m) (gz tk Ls' r))=sD (d9 (SG.take m) (gz tk Ls r))->(∀c∈SG.take m,r&&&tk c=0\/r&&&tk c∈Ls')->(Ls'=Ls\/Ls'=Ls++[h])->h≠0->h∈Ls'->Rest Γ YD #[K,Q] [ξ (.loc P),ξ (.loc S.length),ξ (.loc (S.length+1)),ξ (.loc (S.length+2)),ξ (aU r),ξ (.loc d0),ξ (.str [c]),ξ (aU h)] S2:=by
  intro Ls' S2 I2 g2 e2 m2 l2 h0 hl;have:((h:Int)== 0)=ϑ:=by rw[beq_eq_false_iff_ne];omega
  unfold YD;room;dsimp[this,bU,if_true];room;rw[I2.n,jq,Az,if_pos hl,aT]
  refine#[rfl,?_];rw[g2,getD_some]
  refine#[#[rfl,dn _,%[e2|rl]],?_];room;rwa[q Ls' _ (I2.set hd0 hds) ?_ (λc' hc'=>?_) (l2.imp id λe=>#[h0,e])]
  .rw[gs g2,OS (k:=Ls'.idxOf h) (by unfold gz;rw[hh,if_neg h0])]
  .rcases aJ.mp hc' with z|z
   .erw[m2 c' z]
   .have:c'=c:=by simpa using z
    subst this;erw[.inr (by rw[hh];exact hl)]
 room;by_cases z:h=0
 .subst z
  have z0:(((0:Nat):Int)== 0)=ζ:=rfl;dsimp[z0,bG,av,if_false];unfold YD;room;rwa[q Ls _ I (by rw[OR (by unfold gz;rw[hh,if_pos rfl])];erw[g0]) (λc' hc'=>?_) (.inl rfl)];rcases aJ.mp hc' with z|z
  .erw[hm c' z]
  .have:c'=c:=by simpa using z
   subst this;erw[.inl hh]
 .have z':((h:Int)== 0)=ϑ:=by rw[beq_eq_false_iff_ne];omega
  dsimp[z',bU,if_true];rw[I.n,jq,Az]
  refine#[rfl,?_];by_cases y:h∈Ls
  .rw[if_pos y]
   dsimp[Option.isNone_some,av,if_false];erw[Rest.go (go2 Ls S1 I g0 rfl hm (.inl rfl) z y)]
  .rw[if_neg y]
   dsimp[Option.isNone_none,if_true];room;rw[j8 I.l,aT,ae]
   refine#[∅,?_];rw[I.n,getD_some]
   refine#[#[rfl,by rw[Az,if_neg y],by rw[TX];omega],?_];have l1:(S1.set (S.length+1) (.dX (nz Ls++[(aU h,aU Ls.length)])))[S.length]?=ξ (.lst (Ls.map aU)):=%[aj ∅|I.l]
   room;rw[l1,ay]
   refine#[trivial,(·),?_];have eq:=Cg (h:=h) hm;rwa[Rest.go (go2 (Ls++[h]) _ (I.more y) ?_ (by rw[eq]) (λc' m'=>(hm c' m').imp id λz=>by simp[z]) (.inr rfl) z (#v[]))];rw[eq,aj ∅,aj ∅]
   erw[g0]
def Ci.push{S S1:bH}{tk:Nat->Nat}{Ls rs ds:List Nat}{d0 r:Nat}(a:Ci S S1 tk Ls rs ds)(g0:S1[d0]?=ξ (.dX (sD (d9 SG (gz tk Ls r)))))(hd:S.length+3<=d0)(hm:∀c∈SG,r&&&tk c=0\/r&&&tk c∈Ls)(hl:ds.length=rs.length):Ci S (S1.set (S.length+2) (.lst (ds.map .loc++[.loc d0]))) tk Ls (rs++[r]) (ds++[d0]):=by
 have e:∀(n:Nat)(o o':SO),n≠S.length+2->S1[n]?=ξ o'->(S1.set (S.length+2) o)[n]?=ξ o':=λn o o' ne g=>%[aj (cM ne)|g]
 refine#[#[%[cK|a.x.1],λn hn=>%[aj ∅|a.x.2 n hn]],e _ _ _ ∅ a.l,e _ _ _ ∅ a.n,by rw[gs a.r];simp,λj d r' h1 h2=>?_,λr' m=>?_,a.nd]
 .by_cases hj:j<ds.length
  .rw[ah hj] at h1
   rw[ah ∅] at h2;let#[z1,z2]:=a.d j d r' h1 h2;exact#[z1,e _ _ _ ∅ z2]
  .have:=(ab.mp h1).1
   have ej:j=ds.length:=by simp at this;omega
   subst ej;have e1:d0=d:=by simpa using h1
   have e2:r=r':=by rw[hl] at h2;simpa using h2
   subst e1;subst e2;exact#[hd,e _ _ _ ∅ g0]
 .rcases aJ.mp m with m|m
  .erw[a.m r' m]
  .have:r'=r:=by simpa using m
   subst this;erw[hm]
abbrev AA(tk:Nat->Nat)(Ls rs:List Nat)(j c:Nat):Option Nat:=(rs[j]?).bind λr=>gz tk Ls r c
def wQ(h:rs[j]?=ξ r):AA tk Ls rs j=gz tk Ls r:=by
 funext c;unfold AA;rw[h];rfl
structure UN(bh en:List Nat)(tk:Nat->Nat)(lots rs:List Nat)(told:List (Option Nat)):Prop where
 z:lots[0]?=ξ 1
 t:∀(j h:Nat),lots[j]?=ξ h->∃o,told[j]?=ξ o/\YM h en o
 len:told.length=lots.length
 b:∀(j h:Nat),lots[j]?=ξ h->∃r,rs[j]?=ξ r/\Te bh h r
 m:∀r∈rs,∀c∈SG,r&&&tk c=0\/r&&&tk c∈lots
 rl:rs.length<=lots.length
structure DC(bh:List Nat)(D:Nat->Prop):Prop where
 l:bh.length<=11
 c:∀(q B p:Nat),D q->bh[q]?=ξ B->B.testBit p=ζ->D p
 b:∀p,D p->p<bh.length
abbrev UO(i c i' c':Nat):Prop:=i<i'\/(i=i'/\SG.idxOf c<SG.idxOf c')
def AB(h:¬UO i c i' c'):i'<i\/(i'=i/\SG.idxOf c'<=SG.idxOf c):=by
 unfold UO at h;omega
structure RcS(tk:Nat->Nat)(D:Nat->Prop)(lots rs:List Nat):Prop where
 p:∀j,0<j->j<lots.length->∃i r c,i<j/\rs[i]?=ξ r/\c∈SG/\lots[j]?=ξ (r&&&tk c)/\r&&&tk c≠0/\AA tk lots rs i c=ξ j/\∀i' c' k,c'∈SG->AA tk lots rs i' c'=ξ k->j<k->UO i c i' c'
 d:∀h∈lots,∀p,h.testBit p=ζ->D p
abbrev T3:Spec:=λus S Q=>∃P bh en tk,∃D:Nat->Prop,us=[.loc P]/\KO S P bh en tk/\DC bh D/\D 0 /\
 ∀T told ls lots rs S',HU S' T told ls (AA tk lots rs)->(∀d∈ls,S.length<=d)->Ext S S'->UN bh en tk lots rs told->RcS tk D lots rs->Q (.loc T) S'
def mJ{α:Type}{l:List α}{x y:α}{k:Nat}(h:(l++[x])[k]?=ξ y):l[k]?=ξ y\/(k=l.length/\x=y):=by
 by_cases z:k<l.length
 .rw[ah z] at h;erw[.inl h]
 .have:=aK h
  have e:k=l.length:=by simp at this;omega
  subst e;exact .inr #[rfl,~~~h]
structure XF(S S1:bH)(tk:Nat->Nat)(bh:List Nat)(D:Nat->Prop)(Ls rs ds:List Nat):Prop where
 s:Ci S S1 tk Ls rs ds
 dl:ds.length=rs.length
 le:ds.length<=Ls.length
 z:Ls[0]?=ξ 1
 d:∀h∈Ls,∀p,h.testBit p=ζ->D p
 b:∀(j r:Nat),rs[j]?=ξ r->∃h,Ls[j]?=ξ h/\Te bh h r
 p:∀(j h:Nat),0<j->Ls[j]?=ξ h->∃i r c,i<j/\rs[i]?=ξ r/\c∈SG/\h=r&&&tk c/\h≠0/\∀i' r' c',rs[i']?=ξ r'->c'∈SG->¬UO i c i' c'->r'&&&tk c'=0\/r'&&&tk c'∈Ls.take (j+1)
def sR{bh L:List Nat}{D:Nat->Prop}(C:DC bh D)(nd:L.Nodup)(hL:∀h∈L,∀p,h.testBit p=ζ->D p):L.length<=2048:=by
 have:=An (l':=bO 2048) nd λx hx=>iJ.mpr (aD (kg λp hp=>C.b p (hL x hx p hp)) (show 2^bh.length<=2048 from bB (n:=2) (j:=11) ⋯ C.l))
 simpa using this
def T4(Γ:cb)(h1:Γ "Places.beyond"=KR){S S1:bH}{P:Nat}{bh en Ls rs ds:List Nat}{tk:Nat->Nat}{D:Nat->Prop}{x4 x5 x6 x7:Option U}{K:Env->bH->Prop}{Q:KU}(pa:KO S P bh en tk)(C:DC bh D)(J:XF S S1 tk bh D Ls rs ds)(dl:ds.length<Ls.length)
  (q:∀Ls rs ds' S2 x4 x5 x6 x7,XF S S2 tk bh D Ls rs ds'->ds'.length=ds.length+1->K [ξ (.loc P),ξ (.loc S.length),ξ (.loc (S.length+1)),ξ (.loc (S.length+2)),x4,x5,x6,x7] S2):
  Rest Γ pSo #[K,Q] [ξ (.loc P),ξ (.loc S.length),ξ (.loc (S.length+1)),ξ (.loc (S.length+2)),x4,x5,x6,x7] S1:=by
 let#[I,hl,hle,hz,hD,hb,hp]:=J;have hh:=aa dl;generalize Ls[ds.length]=h at hh;have lb:=sR C I.nd hD;let#[b,e,k,oP,_]:=(pa.ext I.x).o;unfold pSo;room;rw[oP,b8,I.l,j8 I.r]
 dsimp[aT,ay,ae];refine#[#[trivial,rfl],∅,at_of hh ?_];refine ca h1 #[P,bh,en,tk,h,rfl,pa.ext I.x,aI C.l ⋯,λp hp=>C.b p (hD h (ag hh) p hp),λr S2 hr x2=>?_];have Dr:∀p,r.testBit p=ζ->D p:=λp hp=>by
  let#[q,B,z1,z2,z3]:=(hr p).mp hp;erw[C.c q B p (hD h (ag hh) q z1) z2 z3]
 room;rw[vW]
 refine#[⋯,.inl ?_];have I3:=I.ext (x2.trans (Ext.app [SO.dX []]));have g3:(S2++[SO.dX []])[S2.length]?=ξ (.dX (sD (d9 (SG.take 0) (gz tk Ls r)))):=by simp;rfl
 have d3:S.length+3<=S2.length:=by have:=aK I.r;have:=x2.1;omega
 have n3:∀(j r:Nat),rs[j]?=ξ r->ds[j]?≠ξ S2.length:=λj r hj z=>by
  have:=aK (I.d j _ r z hj).2;have:=x2.1;omega
 generalize S2.length=d0 at g3 d3 n3;generalize S2++[SO.dX []]=S3 at I3 g3;have sgl:SG.length=95:=rfl;have sit:∀(i:Nat)(u:U),(SG.map λc=>U.str [c])[i]?=ξ u->∃c,SG[i]?=ξ c/\u=.str [c]:=λi u hu=>by
  let#[c,hc,rfl]:=dW hu;exact#[c,hc,rfl]
 have sl:(SG.map λc=>U.str [c]).length=95:=rfl;rwa[Rest.go ?_];rw[oa,E2,Jr,w_lit,ZU]
 generalize hM:(SG.map λc=>U.str [c])=M at sit sl;rwa[df (λm env S4=>∃(Ls':List Nat)(x6 x7:Option U),env=[ξ (.loc P),ξ (.loc S.length),ξ (.loc (S.length+1)),ξ (.loc (S.length+2)),ξ (aU r),ξ (.loc d0),x6,x7]/\Ci S S4 tk Ls' rs ds/\S4[d0]?=ξ (.dX (sD (d9 (SG.take m) (gz tk Ls' r))))/\(∀c∈SG.take m,r&&&tk c=0\/r&&&tk c∈Ls')/\(∃s,Ls'=Ls++s/\∀(k h:Nat),s[k]?=ξ h->∃m' c,SG[m']?=ξ c/\h=r&&&tk c/\h≠0/\∀c'∈SG.take (m'+1),r&&&tk c'=0\/r&&&tk c'∈Ls++s.take (k+1))/\∀h∈Ls',∀p,h.testBit p=ζ->D p) (λ_ _ _ _=>trivial) M ?_ ?_ #[Ls,x6,x7,rfl,I3,g3,#v[],#[[],#v[],λk h m=>nomatch m],hD]]
 .rintro m u env S4 K' hu ⟨Ls',x6,x7,rfl,I4,g4,m4,⟨s,es,ps⟩,D4⟩ hK
  let#[c,hc,rfl]:=sit m u hu;rwa[XE Γ pa I4 g4 d3 n3 hc m4 (aI (sR C I4.nd D4) ⋯) λLs2 S5 I5 g5 m5 l5=>hK _ _ #[Ls2,_,_,rfl,I5,g5,m5,?_,?_]]
  .rcases l5 with rfl|⟨nz,rfl⟩
   .exact#[s,es,ps]
   .refine#[s++[_],by rw[es,bR],λk h' m'=>?_]
    rcases mJ m' with m'|⟨rfl,rfl⟩
    .let#[m1,c1,e1,e2,e3,e4]:=ps k h' m'
     exact#[m1,c1,e1,e2,e3,%[vv (aK m')|e4]]
    .refine#[m,c,hc,rfl,nz,?_]
     rw[show(s++[r&&&tk c]).take (s.length+1)=s++[r&&&tk c] from gE (#v[]),<-bR,<-es];erw[m5]
  .rcases l5 with rfl|⟨nz,rfl⟩
   .erw[D4]
   .intro h' m' p hp
    rcases aJ.mp m' with m'|m'
    .erw[D4 h' m' p hp]
    .have:h'=r&&&tk c:=by simpa using m'
     subst this;rw[bN,ak] at hp;erw[Dr p hp.1]
 .rintro env S4 ⟨Ls',x6,x7,rfl,I4,g4,m4,hs,D4⟩
  have et:SG.take M.length=SG:=by rw[sl];rfl
  rw[et] at g4 m4;room;rw[I4.r,ay]
  dsimp[true_and];refine#[(·),?_];try room
  let#[s,es,ps]:=hs;rwa[q Ls' _ _ _ _ _ _ _ #[I4.push g4 d3 m4 hl,by simp[hl],%[es,aq,aq|aI dl (fZ _ _)],%[es,ah (gJ (bI _) dl)|hz],D4,λj r' hj=>?_,λj h' j0 hj=>?_] (#v[])]
  .rcases mJ hj with hj|⟨rfl,rfl⟩
   .let#[h,e1,e2]:=hb j r' hj
    exact#[h,%[es,ah (aK e1)|e1],e2]
   .exact#[h,by rw[es,<-hl,ah dl];erw[hh],hr]
  .rw[es] at hj
   by_cases z:j<Ls.length
   .rw[ah z] at hj
    let#[i,r',c,e1,e2,e3,e4,e5,e6]:=hp j h' j0 hj;refine#[i,r',c,e1,by rw[ah (aK e2)];exact e2,e3,e4,e5,λi1 r1 c1 f1 f2 f3=>?_];have:=aK e2;rw[ah (by rcases AB f3 with y|y<;>omega)] at f1;rw[es,vv z]
    erw[e6 i1 r1 c1 f1 f2 f3]
   .rw[aA (dS z)] at hj
    let#[m',c,cm,e1,e2,e3]:=ps _ h' hj;refine#[rs.length,r,c,∅,#v[],ag cm,e1,e2,λi1 r1 c1 f1 f2 f3=>?_];rw[es,List.take_append,gE ∅,show j+1-Ls.length=j-Ls.length+1 by omega]
    rcases mJ f1 with f1|⟨rfl,rfl⟩
    .exact(I.m r1 (ag f1) c1 f2).imp id (bz _)
    .rwa[e3 c1 (mV.mpr ?_)]
     rcases AB f3 with y|⟨_,y⟩
     .erw[absurd y (cC _)]
     .have l1:=bj f2
      have l2:=aK cm;have:SG.idxOf c=m':=by rw[<-(ab.mp cm).2];erw[wO.idxOf_getElem _ l2]
      exact#[SG.idxOf c1,∅,cF l1]
def T5(Γ:cb)(h2:Γ "Places.first_rule"=KS)(h3:Γ "Table.__init__"=OQ)(pa:KO S P bh en tk)(C:DC bh D)(J:XF S S1 tk bh D Ls rs ds)(el:Ls.length<=ds.length)
  (q:∀T told ls lots rs S',HU S' T told ls (AA tk lots rs)->(∀d∈ls,S.length<=d)->Ext S S'->UN bh en tk lots rs told->RcS tk D lots rs->F.rt (.loc T) S'):
  Rest Γ pSf F [ξ (.loc P),ξ (.loc S.length),ξ (.loc (S.length+1)),ξ (.loc (S.length+2)),x4,x5,x6,x7] S1:=by
 let#[I,hl,hle,hz,hD,inv,hp]:=J;have lb:=sR C I.nd hD;have pa1:=pa.ext I.x;let#[b,e,k,oP,_]:=pa1.o;have rat:∀{j:Nat},j<Ls.length->rs[j]?=ξ (rs.getD j 0):=λ{j}h=>by rw[aC,aa (hl▸aD h el)];rfl
 unfold pSf;room;rw[I.l,ay]
 rwa[d8 (Ls.map aU) (λi acc S2=>S2=S1/\∃told:List (Option Nat),acc=told.map uN/\told.length=i/\∀(j h:Nat),j<i->Ls[j]?=ξ h->∃o,told[j]?=ξ o/\YM h en o) (λi acc S2 hi h9=>?_) (λi u acc S2 k hu hi hk=>?_) (λacc S2 hI=>?_) #[rfl,[],rfl,rfl,λj h hj=>absurd hj (de j)]]
 .let#[x,told,e1,e2,_]:=h9
  rw[ae] at hi;exact#[x▸I.l,by rw[e1,ae];omega]
 .let#[rfl,told,rfl,e2,inv2]:=hi
  let#[h,hh,rfl]:=dW hu;rw[if_pos rfl,oP,b8]
  refine#[#[rfl,rfl],ca h2 #[P,bh,en,tk,h,rfl,pa1,λo ho=>hk _ _ #[rfl,told++[o],#v[],by simp[e2],λj h' hj hh'=>?_]]];rcases jB.mp hj with y|y
  .let#[o',z1,z2]:=inv2 j h' y hh'
   exact#[o',%[ah (e2▸y)|z1],z2]
  .subst y
   rw[hh] at hh';cases hh';exact#[o,by rw[<-e2];simp,ho]
 .let#[rfl,told,rfl,e2,inv2]:=hI
  rw[ae] at e2 inv2;have x3:Ext S2 (S2++[SO.lst (told.map uN)]):=Ext.app _;have g3:(S2++[SO.lst (told.map uN)])[S2.length]?=ξ (.lst (told.map uN)):=by simp
  have I3:=I.ext x3;generalize S2.length=a at g3;generalize S2++[SO.lst (told.map uN)]=S3 at I3 g3;rwa[ca h3 #[S3.length,a,_,told,rfl,bp,(Ext.app _).get g3,λk' S4 o4 gT gk=>#[rfl,?_]]];have y4:Ext S3 S4:=FF o4;rwa[q _ told ds Ls rs S4 #[#[k',_,gT,gk,y4.get I3.r,λj d hj=>?_,λj c hj=>?_],∅,∅,λj c k hc e=>?_] (λd m=>?_) (I3.x.trans y4) #[hz,λj h hj=>inv2 j h (aK hj) hj,e2,λj h hj=>?_,I.m,hl▸hle] #[λj j0 jl=>?_,hD]]
  .have hr:=rat (aD (aK hj) hle)
   rw[wQ hr]
   erw[y4.get (I3.d j d _ hj hr).2]
  .unfold AA;rw[dq (hl▸hj)];rfl
  .unfold AA at e
   let#[r,hr,e]:=ax.mp e;unfold gz at e;split at e
   .cases e
   .rename_i z
    cases e;rw[e2]
    erw[bj ((I.m r (ag hr) c hc).resolve_left z)]
  .let#[j,hj]:=bq m
   erw[aI (fZ _ 3) (I.d j d _ hj (rat (aD (aK hj) hle))).1]
  .have hr:=rat (aK hj)
   let#[h',e1,e2]:=inv j _ hr;rw[hj] at e1;cases e1;exact#[_,hr,e2]
  .have hj:=aa jl
   let#[i,r,c,z1,z2,z3,z4,z5,z6]:=hp j _ j0 hj;rw[z4] at hj z5;refine#[i,r,c,z1,z2,z3,hj,z5,?_,λi' c' k f1 f2 f3=>Classical.byContradiction λf4=>?_]
   .rw[wQ z2]
    unfold gz;rw[if_neg z5,<-(ab.mp hj).2,List.Nodup.idxOf_getElem I.nd]
   .let#[r',hr,e]:=ax.mp f2
    unfold gz at e;split at e
    .cases e
    .rename_i z
     cases e;have:=bj ((z6 i' r' c' hr f1 f4).resolve_left z);have ep:=oI (b:=Ls.drop (j+1)) ((z6 i' r' c' hr f1 f4).resolve_left z);rw[C1] at ep;rw[dD] at this;omega
def XG(Γ:cb)(h1:Γ "Places.beyond"=KR)(h2:Γ "Places.first_rule"=KS)(h3:Γ "Table.__init__"=OQ):Keeps Γ r9 7 T3:=by
 rintro us S Q ⟨P,bh,en,tk,D,rfl,pa,C,D0,q⟩;unfold r9;room;refine#[#v[],?_];room;rw[show ∀env S' Q',WE Γ (.dX (.cons ↑1 .nil) (.cons ↑0 .nil)) env S' Q'=([U.int 1].length<=100/\mP (.int 1)=ζ/\∃v,[U.int 0]=[v]/\Q' (.loc S'.length) (S'++[.dX [(.int 1,v)]])) from λ_ _ _=>rfl]
 refine#[#v[],rfl,_,rfl,?_];room;refine#[#v[],?_];have ls0:(S++[SO.lst [U.int 1]]).length=S.length+1:=by simp
 have ls1:(S++[SO.lst [U.int 1]]++[SO.dX [(U.int 1,U.int 0)]]).length=S.length+2:=by simp
 have I0:XF S (S++[SO.lst [U.int 1]]++[SO.dX [(U.int 1,U.int 0)]]++[SO.lst []]) tk bh D [1] [] []:=by
  refine#[#[((Ext.app _).trans (Ext.app _)).trans (Ext.app _),?_,?_,?_,#v[],#v[],#v[]],rfl,#v[],rfl,λh m p hp=>?_,#v[],λj h j0 hj=>?_]
  .exact((Ext.app _).trans (Ext.app _)).get (show(S++[SO.lst [U.int 1]])[S.length]?=_ by simp)
  .exact(Ext.app _).get (show(S++[SO.lst [U.int 1]]++[SO.dX [(U.int 1,U.int 0)]])[S.length+1]?=_ by rw[<-ls0,aA (ao _),bT];rfl)
  .rw[<-ls1,aA (ao _),bT];rfl
  .have:h=1:=by simpa using m
   subst this;rw[ig.mp hp]
   erw[D0]
  .have:=aK hj
   simp at this;omega
 rw[ls0,ls1]
 generalize S++[SO.lst [U.int 1]]++[SO.dX [(U.int 1,U.int 0)]]++[SO.lst []]=S0 at I0;rwa[Rest.go ?_];rw[oa,Pm]
 refine#[2050,oE (λN env S1=>∃(Ls rs ds:List Nat)(x4 x5 x6 x7:Option U),N=2048-ds.length/\env=[ξ (.loc P),ξ (.loc S.length),ξ (.loc (S.length+1)),ξ (.loc (S.length+2)),x4,x5,x6,x7]/\XF S S1 tk bh D Ls rs ds) ?_ _ 2048 _ _ ⋯ #[[1],[],[],ψ,ψ,ψ,ψ,rfl,rfl,I0]];rintro N env S1 K ⟨Ls,rs,ds,x4,x5,x6,x7,rfl,rfl,J⟩ hK;have lb:=sR C J.s.nd J.d;have dl:=J.le;room;rw[j8 J.s.r,j8 J.s.l]
 dsimp[aT,ae];refine#[∅,∅,?_];by_cases z:ds.length<Ls.length
 .have:((ds.length:Int)<(Ls.length:Int)):=uL.mpr z
  dsimp[this,decide_true,if_true];erw[T4 Γ h1 pa C J z λLs' rs' ds' S2 x4 x5 x6 x7 J2 e=>hK (2048-ds'.length) _ _ ∅ #[Ls',rs',ds',x4,x5,x6,x7,rfl,rfl,J2]]
 .have:¬((ds.length:Int)<(Ls.length:Int)):=λy=>z (uL.mp y)
  dsimp[this,decide_false,av,if_false];erw[T5 Γ h2 h3 pa C J (dS z) q]
section
variable{S S1 S2:bH}{X:List Nat}
abbrev Kp(X:List Nat)(S S1:bH):Prop:=S.length<=S1.length/\∀n,n<S.length->n∉X->S1[n]?=S[n]?
def Kp.refl:Kp X S S:=#[ao _,λ_ _ _=>rfl]
def Kp.trans(a:Kp X S S1)(b:Kp X S1 S2):Kp X S S2:=#[aI a.1 b.1,λn h ne=>(b.2 n (aD h a.1) ne).trans (a.2 n h ne)]
def Ext.kp(a:Ext S S1):Kp X S S1:=#[a.1,λn h _=>a.2 n h]
def Kp.set(m:n∈X):Kp X S (S.set n o):=#[%[cK|ao _],λk _ ne=>by rw[aj λ(z:n=k)=>ne (by rw[<-z];erw[m])]]
def Kp.get(a:Kp X S S1)(h:S[n]?=ξ o)(m:n∉X):S1[n]?=ξ o:=(a.2 n (aK h) m).trans h
end
def FG(f:Nat->Option Nat)(h:Nat->Nat):∀G:List Nat,∃ps:List (Nat×Nat),d9 G f=ps.map (λp=>([p.1],aU p.2))/\d9 G (λc=>(f c).map h)=ps.map (λp=>([p.1],aU (h p.2)))/\(∀p∈ps,p.1∈G/\f p.1=ξ p.2)/\(G.Nodup->(ps.map (·.1)).Nodup)/\ps.length<=G.length
 |[]=>#[[],rfl,rfl,#v[],#v[],#v[]]
 |x::G=>by
  let#[ps,h1,h2,h3,h4,h5]:=FG f h G;unfold d9 at h1 h2 ⊢;cases e:f x with
  |none=>exact#[ps,by simp[e,h1],by rw[cy];dsimp[e,uZ];erw[h2],λp m=>#[az _ (h3 p m).1,(h3 p m).2],λnd=>h4 (fE.mp nd).2,(·)]
  |some k=>
   refine#[(x,k)::ps,by simp[e,h1],by rw[cy];dsimp[e,fg,aw];rw[h2],λp m=>?_,λnd=>?_,(·)]
   .rcases aR.mp m with rfl|m
    .exact#[aO ..,e]
    .exact#[az _ (h3 p m).1,(h3 p m).2]
   .let#[n1,n2]:=fE.mp nd
    rw[aw,fE]
    refine#[λz=>?_,h4 n2];let#[p,m,e']:=bx.mp z;have:=(h3 p m).1;rw[show p.1=x from e'] at this;erw[n1 this]
def T6{Γ:cb}{S:bH}{T nb A R d:Nat}{b:List Nat}{f:Nat->Option Nat}{x4:U}{k:KU}(hb:S[nb]?=ξ (.lst (b.map aU)))(hd:S[d]?=ξ (.dX (sD (d9 SG f)))\/S[d]?=ξ (.vR (sD (d9 SG f))))(hf:∀c k,c∈SG->f c=ξ k->k<b.length)
  (q:∀m S',Ext (S.set d (.vR (sD (d9 SG f)))) S'->S.length<=m->S'[m]?=ξ (.dX (sD (d9 SG λc=>(f c).map λk=>b.getD k 0)))->k (.loc m) S'):WE Γ pSm [ξ (.loc T),ξ (.loc nb),ξ (.loc A),ξ (.loc R),ξ x4,ξ (.loc d)] S k:=by
 unfold pSm;have gl:SG.length=95:=rfl;have nd:=wO;let#[ps,e1,e2,e3,e4,e5]:=FG f (λk=>b.getD k 0) SG;have lk:∀p∈ps,uz (.str [p.1]) (sD (d9 SG f))=ξ (aU p.2):=λp m=>by rw[FC,wM,if_pos (e3 p m).1,(e3 p m).2];rfl
 have kp:∀p∈ps,p.2<b.length:=λp m=>hf p.1 p.2 (e3 p m).1 (e3 p m).2
 rw[e2] at q;have ey:(sD (d9 SG f)).map (·.1)=ps.map λp=>U.str [p.1]:=by rw[e1];unfold sD;simp[dH]
 have nd':=e4 nd;generalize d9 SG f=rw0 at *;room;have e0:∀R,jo S[d]? R=R (sD rw0):=λR=>by rcases hd with h|h<;>rw[h]<;>rfl
 rw[e0,ey]
 have dl:d<S.length:=by rcases hd with h|h<;>exact aK h
 have nbd:nb≠d:=λz=>by rcases hd with h|h<;>rw[<-z,hb] at h<;>cases h
 have g1:(S.set d (.vR (sD rw0)))[d]?=ξ (.vR (sD rw0)):=bM dl;have b1:(S.set d (.vR (sD rw0)))[nb]?=ξ (.lst (b.map aU)):=%[aj (cM nbd)|hb]
 have l1:(S.set d (.vR (sD rw0))).length=S.length:=cK;generalize S.set d (.vR (sD rw0))=S1 at g1 b1 q l1;rwa[jc (S:=S1) _ (ps.map λp=>.tup [.str [p.1],aU (b.getD p.2 0)]) (#v[]) ((·)) (λS' x=>x.get g1) (λu S' k h=>h) (λj u v hu hv S2 k x' hk=>?_) λS2 x'=>?_]
 .rw[ar] at hu hv
  let#[p,hp,rfl]:=au.mp hu;rw[hp] at hv;have hv:U.tup [.str [p.1],aU (b.getD p.2 0)]=v:=by simpa using hv
  subst hv;have m:=ag hp;rw[x'.get g1]
  refine#[rfl,?_];rw[lk p m]
  show getL S2[nb]? _
  rw[x'.get b1,ay]
  erw[Ax (kp p m) #[#v[],hk S2 .refl]]
 .refine#[ps.map λp=>([p.1],aU (b.getD p.2 0)),by simp[dH],?_,?_]
  .have:=nd'
   rw[bA]
   show(ps.map λp=>[p.1]).Nodup
   have e:(ps.map λp=>[p.1])=(ps.map (·.1)).map λc=>[c]:=by rw[bA];rfl
   rw[e]
   erw[xS _ (λa b h z=>h (List.cons.inj z).1) nd']
  .erw[q _ _ (x'.trans ((Ext.app _).trans (Ext.app _))) (by have:=x'.1;rw[aq];omega) (by rw[aA (ao _),bT];rfl)]
structure PX(told:List (Option Nat))(go:Nat->Nat->Option Nat)(told':List (Option Nat))(go':Nat->Nat->Option Nat)(b reps:List Nat):Prop where
 k:∃m,HS (told++[ψ]) (gN told.length go) m b/\∀i j,i<(told++[ψ]).length->j<(told++[ψ]).length->Eqv (told++[ψ]) (gN told.length go) m i j->Eqv (told++[ψ]) (gN told.length go) (m+1) i j
 a:∀p,p<told.length->b.getD p 0<reps.length
 len:told'.length=reps.length
 r:∀(r p:Nat),reps[r]?=ξ p->p<told.length/\b.getD p 0=r/\∀p',p'<p->b.getD p' 0<r
 t:∀(r p:Nat),reps[r]?=ξ p->told'.getD r ψ=told.getD p ψ/\∀c,go' r c=(go p c).map λk=>b.getD k 0
abbrev UP(go:Nat->Nat->Option Nat)(b reps:List Nat)(r c:Nat):Option Nat:=(reps[r]?).bind λp=>(go p c).map λk=>b.getD k 0
def Lo(h:reps[r]?=ξ p):UP go b reps r=λc=>(go p c).map λk=>b.getD k 0:=by
 funext c;unfold UP;rw[h];rfl
abbrev T7:Spec:=λus S Q=>∃T told ls go B,us=[.loc T]/\HU S T told ls go/\0<told.length/\(∀d∈ls,B<=d)/\B<=S.length/\∀T' told' ls' go' b reps S',HU S' T' told' ls' go'->(∀n,n<B->S'[n]?=S[n]?)->S.length<=S'.length/\(∀d∈ls',S.length<=d)->PX told go told' go' b reps->Q (.loc T') S'
structure OT(S3 S4:bH)(L:Nat)(told:List (Option Nat))(ls:List Nat)(go:Nat->Nat->Option Nat)(b reps ds:List Nat)(i:Nat):Prop where
 k:Kp (L::(L+1)::ls) S3 S4
 a:S4[L]?=ξ (.lst ((reps.map λp=>told.getD p ψ).map uN))
 r:S4[L+1]?=ξ (.lst (ds.map .loc))
 dl:ds.length=reps.length
 od:∀(j d:Nat),ls[j]?=ξ d->S4[d]?=ξ (.dX (sD (d9 SG (go j))))\/S4[d]?=ξ (.vR (sD (d9 SG (go j))))
 nw:∀(r d p:Nat),ds[r]?=ξ d->reps[r]?=ξ p->S3.length<=d/\S4[d]?=ξ (.dX (sD (d9 SG λc=>(go p c).map λk=>b.getD k 0)))
 ib:∀p,p<i->b.getD p 0<reps.length
 ir:∀(r p:Nat),reps[r]?=ξ p->p<i/\b.getD p 0=r/\∀p',p'<p->b.getD p' 0<r
 rl:reps.length<=i
section
variable{S3 S4 S6:bH}{L i d m:Nat}{told:List (Option Nat)}{ls b reps ds:List Nat}{go:Nat->Nat->Option Nat}
def OT.old(a:OT S3 S4 L told ls go b reps ds i)(h:b.getD i 0<reps.length):OT S3 S4 L told ls go b reps ds (i+1):=
 #[a.k,a.a,a.r,a.dl,a.od,a.nw,λp hp=>(jB.mp hp).elim (a.ib p) λe=>e▸h,λr p e=>#[ba (a.ir r p e).1,(a.ir r p e).2],nK a.rl]
def OT.push(a:OT S3 S4 L told ls go b reps ds i)(hz:b.getD i 0=reps.length)(hd:ls[i]?=ξ d)(lo:∀(j d:Nat),ls[j]?=ξ d->d<L/\S3[d]?=ξ (.dX (sD (d9 SG (go j)))))(l3:S3.length=L+2)
  (x6:Ext ((S4.set L (.lst (((reps++[i]).map λp=>told.getD p ψ).map uN))).set d (.vR (sD (d9 SG (go i))))) S6) (ml:S4.length<=m) (g6:S6[m]?=ξ (.dX (sD (d9 SG λc=>(go i c).map λk=>b.getD k 0)))):
  OT S3 (S6.set (L+1) (.lst (ds.map .loc++[.loc m]))) L told ls go b (reps++[i]) (ds++[m]) (i+1):=by
 have dL:=(lo i d hd).1;have lr:=aK a.r;have lk:=a.k.1;have get:∀(n:Nat)(o:SO),n≠L->n≠L+1->n≠d->S4[n]?=ξ o->(S6.set (L+1) (.lst (ds.map .loc++[.loc m])))[n]?=ξ o:=λn o h1 h2 h3 e=>by
  rw[aj (cM h2)]
  erw[x6.get (by rw[aj (cM h3),aj (cM h1)];exact e)]
 have g1:S6[L+1]?=ξ (.lst (ds.map .loc)):=x6.get (%[aj (bb (ba dL)),aj (bb (cB L))|a.r]);have mX:d∈L::(L+1)::ls:=by simp[ag hd]
 refine#[(a.k.trans ((Kp.set (#v[])).trans (Kp.set mX))).trans ((Ext.kp x6).trans (Kp.set (#v[]))),?_,by rw[gs g1];simp,by simp[a.dl],λj d' hj=>?_,λr d' p e1 e2=>?_,λp hp=>?_,λr p e=>?_,%[aq|dg a.rl]]
 .rw[aj (dJ (cB L))]
  erw[x6.get (by rw[aj (bb dL)];exact gs a.a)]
 .by_cases y:d'=d
  .subst y
   have e:sD (d9 SG (go j))=sD (d9 SG (go i)):=by
    have:=(lo j d' hj).2;rw[(lo i d' hd).2] at this;injection this with this;injection this with this
    erw[this.symm]
   rw[e,aj (dJ (ba dL))]
   erw[.inr (x6.get (bM (by rw[cK];exact j9 dL (Nat.lt_of_succ_lt lr))))]
  .have dl:=(lo j d' hj).1
   have ne:=bb dl;exact(a.od j d' hj).imp (get _ _ ne (bb (ba dl)) y) (get _ _ ne (bb (ba dl)) y)
 .rcases mJ e1 with e1|⟨rfl,rfl⟩
  .have hr:=aK e1
   rw[ah (a.dl▸hr)] at e2;let#[z1,z2]:=a.nw r d' p e1 e2;rw[l3] at z1;exact#[l3▸z1,get _ _ (dJ (aD (ba (cB L)) z1)) (dJ z1) (dJ (aD (ba (ba dL)) z1)) z2]
  .have f2:i=p:=by rw[a.dl] at e2;simpa using e2
   subst f2;exact#[aI lk ml,%[aj (bb (aD lr ml))|g6]]
 .rw[aq]
  rcases jB.mp hp with y|y
  .erw[ba (a.ib p y)]
  .rw[y,hz];erw[cB _]
 .rcases mJ e with e|⟨rfl,rfl⟩
  .let#[z1,z2]:=a.ir r p e
   exact#[ba z1,z2]
  .exact#[cB _,hz,a.ib]
end
def OU(Γ:cb)(a:OT S3 S4 L told ls go b reps ds i)(gT:S4[T]?=ξ (TQ kk told R))(gm:S4[m]?=ξ (.lst (b.map aU)))(mL:m≠L)(hd:ls[i]?=ξ d)(lo:∀(j d:Nat),ls[j]?=ξ d->d<L/\S3[d]?=ξ (.dX (sD (d9 SG (go j)))))(l3:S3.length=L+2)(hb:i<b.length)(le:b.getD i 0<=reps.length)(r4:i<=4000)(tl:told.length<=4000)(cl:∀c k,c∈SG->go i c=ξ k->k<b.length)(ht:told[i]?=ξ (told.getD i ψ))
  (q:∀reps ds S',OT S3 S' L told ls go b reps ds (i+1)->K [ξ (.loc T),ξ (.loc m),ξ (.loc L),ξ (.loc (L+1)),ξ (aU i),ξ (.loc d)] S'):
  Rest Γ pSt #[K,Q] [ξ (.loc T),ξ (.loc m),ξ (.loc L),ξ (.loc (L+1)),ξ (aU i),ξ (.loc d)] S4:=by
 unfold pSt;have rl:=a.rl;have dl:=a.dl;room;rw[gm,ay]
 rwa[Ax hb ?_];rw[j8 a.r]
 dsimp[aT,ae];refine#[∅,?_];try room
 by_cases z:b.getD i 0=reps.length
 .have z':(((b.getD i 0:Nat):Int)== (ds.length:Int))=ζ:=by rw[beq_iff_eq,z,dl]
  dsimp[z',if_true];room;rw[a.a,ay,Ln gT]
  room;refine#[by rw[ae];omega,at_of ht #[by rw[ae,ae];omega,?_]];have dL:=lo i d hd;have eA:(reps.map λp=>told.getD p ψ).map uN++[uN (told.getD i ψ)]=((reps++[i]).map λp=>told.getD p ψ).map uN:=by rw[aF,aF];rfl
  rw[eA]
  have g1:(S4.set L (.lst (((reps++[i]).map λp=>told.getD p ψ).map uN)))[L+1]?=ξ (.lst (ds.map .loc)):=%[aj (bb (cB L))|a.r]
  have g2:∀{n:Nat}{o:SO},n≠L->S4[n]?=ξ o->(S4.set L (.lst (((reps++[i]).map λp=>told.getD p ψ).map uN)))[n]?=ξ o:=λ{n o}h e=>%[aj (cM h)|e]
  room;rw[g1,ay]
  refine#[trivial,T6 (g2 mL gm) ((a.od i d hd).imp (g2 (bb dL.1)) (g2 (bb dL.1))) cl λm6 S6 x6 m6l g6=>?_];rw[cK] at m6l;have g6':S6[L+1]?=ξ (.lst (ds.map .loc)):=x6.get (%[aj (bb (ba dL.1))|g1]);rw[g6',ay]
  refine#[by rw[ae];omega,?_];try room
  erw[q _ _ _ (a.push z hd lo l3 x6 m6l g6)]
 .have z':(((b.getD i 0:Nat):Int)== (ds.length:Int))=ϑ:=by rw[beq_eq_false_iff_ne];omega
  dsimp[z',av,if_false];room;erw[q _ _ _ (a.old (Ik le z))]
def XH(Γ:cb)(h1:Γ "rounds"=Xz)(h2:Γ "with_nowhere"=Xv)(h3:Γ "Table.__init__"=OQ):Keeps Γ ou 5 T7:=by
 rintro us S Q ⟨T,told,ls,go,B,rfl,h,h0,hB,hBl,q⟩;unfold ou;let#[kk,R,hT,hk,hR]:=h.o;have hl:=h.ll;have sz:=h.sz;room;rw[Ln hT]
 room;refine#[#v[],(·),?_];rw[TU hT]
 rwa[ca h2 #[R,ls,go,rfl,hR,∅,λnr S1 ms x1 ml Rw1=>?_]];have eN:(told++[ψ]).length=told.length+1:=by simp
 rwa[ca h1 #[nr,ms,gN ls.length go,told++[ψ],by rw[aF];rfl,Rw1,∅,∅,∅,λj c hj hc=>?_,λF fs S2 x2 gF Rs=>?_]]
 .unfold gN
  cases e:go j c with
  |none=>show ls.length<_;omega
  |some k=>have:=h.cl j c k hc e;show k<_;omega
 have x12:=x1.trans x2;obtain⟨fs0,m,rfl⟩:∃fs0 m,fs=fs0++[m]:=by
  rcases gX fs with z|⟨a,b,z⟩
  .erw[absurd z Rs.ne]
  .exact#[a,b,by rw[z,gY]]
 let#[b,gm,rb]:=Rs.r fs0.length m (#v[]);have st:=Rs.st;rw[hl,show(fs0++[m]).length=fs0.length+1 by simp] at st;rw[hl] at rb;room;rw[gF,ay,aF,show [m].map U.loc=[.loc m] from rfl,Ay,aT]
 room;refine#[#v[],?_];room;refine#[#v[],?_];have bl:=rb.len;rw[eN] at bl;have nX:∀(n:Nat)(o:SO),S2[n]?=ξ o->(∀j,o≠.dX (sD (d9 SG (go j))))->n∉S2.length::(S2.length+1)::ls:=λn o hn ho z=>by
  have:=aK hn;rcases aR.mp z with z|z
  .omega
  .rcases aR.mp z with z|z
   .omega
   .let#[j,hj]:=bq z
    have:=x12.get (hR.d j n hj);rw[hn] at this;erw[ho j (aG this)]
 have nT:=nX T _ (x12.get hT) (by intro j;unfold TQ;intro z;cases z);have nR:=nX R _ (x12.get hR.l) (by intro j z;cases z);have nm:=nX m _ gm (by intro j z;cases z);have ls0:(S2++[SO.lst []]).length=S2.length+1:=by simp
 have y3:Ext S2 (S2++[SO.lst []]++[SO.lst []]):=(Ext.app _).trans (Ext.app _);have gA:(S2++[SO.lst []]++[SO.lst []])[S2.length]?=ξ (.lst []):=(Ext.app _).get (#v[]);have gR:(S2++[SO.lst []]++[SO.lst []])[S2.length+1]?=ξ (.lst []):=by rw[<-ls0,aA (ao _),bT];rfl
 rw[ls0]
 have l3:(S2++[SO.lst []]++[SO.lst []]).length=S2.length+2:=by simp
 generalize S2++[SO.lst []]++[SO.lst []]=S3 at y3 gA gR l3;have x3:=x12.trans y3;room;rw[TU (x3.get hT)]
 room;rw[x3.get hR.l,ay]
 have fst':=Av b [];rw[rb.fx] at fst';have lo:∀(j d:Nat),ls[j]?=ξ d->d<S2.length/\S3[d]?=ξ (.dX (sD (d9 SG (go j)))):=λj d e=>#[aK (x12.get (hR.d j d e)),x3.get (hR.d j d e)]
 rwa[df (λi env S4=>∃(reps ds:List Nat)(x4 x5:Option U),env=[ξ (.loc T),ξ (.loc m),ξ (.loc S2.length),ξ (.loc (S2.length+1)),x4,x5]/\OT S3 S4 S2.length told ls go b reps ds i) (λi env S4 h9=>?_) _ ?_ ?_ #[[],[],ψ,ψ,rfl,.refl,gA,gR,rfl,λj d e=>.inl (lo j d e).2,#v[],λp hp=>absurd hp (de p),#v[],ao _]]
 .let#[_,_,_,_,_,a]:=h9
  erw[a.k.get (x3.get hR.l) nR]
 .rintro i u env S4 K hu ⟨reps,ds,x4,x5,rfl,a⟩ hK
  dsimp[dY,ar,pP] at hu;let#[d,hd,rfl]:=au.mp hu;have hi:=aK hd;have ht:told[i]?=ξ (told.getD i ψ):=by rw[aC,aa (hl▸hi)];rfl
  dsimp[dH,Nh];rwa[OU Γ a (a.k.get (x3.get hT) nT) (a.k.get (y3.get gm) nm) (bb (aK gm)) hd lo l3 ∅ ?_ ∅ sz (λc k hc e=>j9 (h.cl i c k hc e) ∅) ht λreps ds S' a'=>hK _ _ #[reps,ds,_,_,rfl,a']]
  have gi:=gd (b:=b) (i:=i) ∅;have ib:=a.ib
  clear a hK lo
  cases e:b.getD i 0 with
  |zero=>erw[bI _]
  |succ v=>
   rw[e] at gi;rcases fst' i v gi with z|⟨p,hp,e'⟩
   .erw[absurd z (de v)]
   .have:=ib p hp
    rw[aC,e'] at this;erw[this]
 .rintro env S4 ⟨reps,ds,x4,x5,rfl,a⟩
  obtain⟨k4,gA4,gR4,dl,-,nw,ib,ir,rl⟩:=a;rw[gI,ae,hl] at ib ir rl;room;refine ca h3 #[S4.length,_,_,_,rfl,bp,(Ext.app _).get gA4,λk' S5 o5 gT gk=>#[rfl,?_]];have y5:Ext S4 S5:=FF o5;have t':∀(r p:Nat),reps[r]?=ξ p->(reps.map λp=>told.getD p ψ).getD r ψ=told.getD p ψ/\∀c,UP go b reps r c=(go p c).map λk=>b.getD k 0:=λr p e=>by
   refine#[by rw[aC,ar,e];rfl,λc=>by rw[Lo e]]
  rwa[q _ (reps.map λp=>told.getD p ψ) ds (UP go b reps) b reps S5 #[#[k',_,gT,gk,y5.get gR4,λj d hj=>?_,λj c hj=>?_],%[ae|dl],by rw[ae];omega,λj c k hc e=>?_] (λn hn=>?_) #[aI x3.1 (aI k4.1 y5.1),λd m=>let ⟨j,hj⟩:=bq m;aI x3.1 (nw j d _ hj (aa (show j<reps.length from dl▸aK hj))).1] #[#[fs0.length,rb,st],ib,#v[],ir,t']]
  .have hr:=aa (show j<reps.length from dl▸aK hj)
   rw[Lo hr]
   erw[y5.get (nw j d _ hj hr).2]
  .unfold UP;rw[dq (dl▸hj)];rfl
  .unfold UP at e
   let#[p,hp,e]:=ax.mp e;let#[v,hv,e]:=au.mp e;subst e;rw[ae]
   erw[ib v (h.cl p c v hc hv)]
  .have nS:n<S.length:=aD hn hBl
   have n2:=aD nS x12.1;have n3:=aD nS x3.1;rw[y5.2 n (aD n3 k4.1),k4.2 n n3 (λz=>?_),x3.2 n nS]
   rcases aR.mp z with z|z
   .erw[bb n2 z]
   .rcases aR.mp z with z|z
    .erw[bb (ba n2) z]
    .erw[Nat.not_le_of_lt hn (hB n z)]
abbrev Ek(ts:List Tr)(w:List Nat):Option Nat->Prop
 |none=>∀(i:Nat)t,ts[i]?=ξ t->¬En t (hs t w)
 |some i=>(∃t,ts[i]?=ξ t/\En t (hs t w))/\∀(i':Nat)t,i'<i->ts[i']?=ξ t->¬En t (hs t w)
def AD(h:Ek ts w o)(h':Ek ts w o'):o=o':=by
 cases o with
 |none=>
  cases o' with
  |none=>rfl
  |some i=>let#[#[t,e,z],_]:=h';erw[absurd z (h i t e)]
 |some i=>
  let#[#[t,e,z],n]:=h;cases o' with
  |none=>erw[absurd z (h' i t e)]
  |some j=>
   let#[#[t',e',z'],n']:=h';rcases nJ i j with y|y|y
   .erw[absurd z (n' i t y e)]
   .rw[y]
   .erw[absurd z' (n j t' y e')]
abbrev tot(N:Nat)(go:Nat->Nat->Option Nat)(w:List Nat):Nat:=w.foldl (gN N go) 0
def Cj:tot N go (w++[c])=gN N go (tot N go w) c:=by unfold tot;rw[hU];rfl
def PY:Te bh 0 0:=λp=>by simp
section
variable{ts:List Tr}{sg:List (List Nat)}{bh en lots rs:List Nat}{u:Nat}{told:List (Option Nat)}
@[reducible]def qJ(sg:List (List Nat)):Nat->Nat:=λc=>kM (·.contains c) sg
abbrev Lv(told:List (Option Nat))(go:Nat->Nat->Option Nat)(j:Nat):Prop:=∃w:List Nat,(∀c∈w,c∈SG)/\(told++[ψ]).getD (w.foldl (gN told.length go) j) ψ≠ψ
def OV(A:AZ ts sg bh en)(U:HR sg bh en u)(P:UN (bh.map (·&&&u)) en (qJ sg) lots rs told)(hS:∀t∈ts,∀l∈nA t,∀c∈l,c∈SG)(hp:u.testBit p=ζ)(m:t∈ts)(i:IN t p=ζ)(hj:lots[j]?=ξ h)(hh:h.testBit p=ζ):Lv told (AA (qJ sg) lots rs) j:=by
 have sgs:∀{p:Nat}{t:Tr},t∈ts->IN t p=ζ->nB Ae sg p=ζ->∃c∈SG,(qJ sg c).testBit p=ζ:=λ{p t}m i e=>by
  let#[l,e1,e2]:=wD e;have e3:=A.sgn t m p i;rw[e1] at e3;cases e3;let#[n,_,pl]:=A.pos t m;have hl:=ag (rf pl i);cases z:nq.sgn t p with
  |nil=>rw[z] at e2;cases e2
  |cons c l=>
   refine#[c,hS t m _ hl c (by rw[z];simp),?_];rw[sN]
   unfold nB;rw[e1,z];simp
 refine((U.m (λp=>u.testBit p=ζ/\∀t∈ts,IN t p=ζ->(∃c∈SG,(qJ sg c).testBit p=ζ)/\∀j h,lots[j]?=ξ h->h.testBit p=ζ->Lv told (AA (qJ sg) lots rs) j) #[λZ p hZ hz e=>#[U.e Z p hZ hz e,λt m i=>#[sgs m i e,λj h hj hh=>?_]],λq B p e hB hb ih=>#[U.b q B p e hB hb ih.1,λt m i=>#[sgs m i e,λj h hj hh=>?_]]] p hp).2 t m i).2 j h hj hh
 .let#[o,e1,f]:=P.t j h hj
  refine#[[],λc m=>(cA m).elim,?_];show(told++[ψ]).getD j ψ≠ψ;rw[aC,ah (aK e1),e1]
  rintro rfl;let#[k,ek]:=bq hZ;erw[f k #[Z,ek,p,hh,hz]]
 .let#[B',e1,b1]:=A.b t m q i
  rw[hB] at e1;cases e1;have ip:=fO ((b1 p).symm.trans hb);let#[#[c,cm,tc],lv]:=ih.2 t m ip;let#[r,hr,XI]:=P.b j h hj;have rp:r.testBit p=ζ:=(XI p).mpr #[q,B&&&u,hh,by rw[ar,hB];rfl,by rw[bN,hb,ih.1];rfl];have hp':(r&&&qJ sg c).testBit p=ζ:=by rw[bN,rp,tc];rfl
  have nz:r&&&qJ sg c≠0:=λz=>by rw[z] at hp';simp at hp'
  have hm:=(P.m r (ag hr) c cm).resolve_left nz;have hk:=bj hm;let#[w,hw,e]:=lv _ _ (show lots[lots.idxOf (r&&&qJ sg c)]?=ξ (r&&&qJ sg c) by rw[aa hk,cF hk]) hp';refine#[c::w,λx hx=>(aR.mp hx).elim (λz=>z▸cm) (hw x),?_];rw[jA]
  have:gN told.length (AA (qJ sg) lots rs) j c=lots.idxOf (r&&&qJ sg c):=by
   unfold gN;rw[wQ hr]
   unfold gz;rw[if_neg nz];rfl
  rw[this];erw[e]
def Lp(A:AZ ts sg bh en)(hq:q=0\/∃t∈ts,IN t q=ζ)(e:bh[q]?=ξ B)(hp:B.testBit p=ζ):∃t∈ts,IN t p=ζ:=by
 rcases hq with rfl|⟨t,m,i⟩
 .let#[B0,e0,f0]:=A.b0
  rw[e] at e0;cases e0;let#[t,m,f]:=(f0 p).mp hp;exact#[t,m,jP f]
 .let#[B0,e0,f0]:=A.b t m q i
  rw[e] at e0;cases e0;exact#[t,m,fO ((f0 p).symm.trans hp)]
def Lq(A:AZ ts sg bh en)(U:HR sg bh en u)(P:UN (bh.map (·&&&u)) en (qJ sg) lots rs told)(R:RcS (qJ sg) (λp=>p=0\/∃t∈ts,IN t p=ζ) lots rs)(hS:∀t∈ts,∀l∈nA t,∀c∈l,c∈SG)(j:Nat)(j0:0<j)(jl:j<told.length):Lv told (AA (qJ sg) lots rs) j:=by
 let#[i,r,c,il,hr,cm,hj,nz,_]:=R.p j j0 (by rw[<-P.len];erw[jl]);let#[p,hp]:=wY nz;have hp2:=hp;rw[bN,ak] at hp2;have li:i<lots.length:=by rw[<-P.len];omega
 have hi:=aa li;let#[r',e1,XI]:=P.b i _ hi;rw[hr] at e1;cases e1;let#[q,B,hq,hB,hb]:=(XI p).mp hp2.1;let#[B',eB,rfl]:=vd hB;rw[bN,ak] at hb;have⟨t,m,ip⟩:∃t∈ts,IN t p=ζ:=Lp A (R.d _ (ag hi) q hq) eB hb.1;erw[OV A U P hS hb.2 m ip hj hp]
def Ck(A:AZ ts sg bh en)(U:HR sg bh en u)(P:UN (bh.map (·&&&u)) en (qJ sg) lots rs told)(gz0:∀j c,told.length<=j->AA (qJ sg) lots rs j c=ψ):∀(n:Nat)(w:List Nat),w.length=n->(∀c∈w,c∈SG)->(∃r,rs[tot told.length (AA (qJ sg) lots rs) w]?=ξ r/\PD ts u w r)\/(tot told.length (AA (qJ sg) lots rs) w=told.length/\PD ts u w 0)
 |0,w,hn,_=>by
  rw[oK.mp hn]
  let#[r,h1,h2]:=P.b 0 1 P.z;erw[.inl #[r,h1,Hs A h2]]
 |n+1,w,hn,hw=>by
  rcases gX w with rfl|⟨w,c,rfl⟩
  .simp at hn
  rw[gY] at hn hw ⊢;have cm:c∈SG:=hw c (#v[]);rw[Cj]
  rcases Ck A U P gz0 n w (~~~hn) (λc m=>hw c (by simp[m])) with⟨r,h1,h2⟩|⟨h1,h2⟩
  .unfold gN
   rw[wQ h1]
   unfold gz;by_cases z:r&&&qJ sg c=0
   .rw[if_pos z]
    erw[.inr #[rfl,wF A U h2 (show Te _ (r&&&qJ sg c) 0 by rw[z];exact PY)]]
   .rw[if_neg z]
    have hm:=(P.m r (ag h1) c cm).resolve_left z;have hk:=bj hm;have e:lots[lots.idxOf (r&&&qJ sg c)]?=ξ (r&&&qJ sg c):=by rw[aa hk,cF hk]
    let#[r',e1,e2]:=P.b _ _ e;erw[.inl #[r',e1,wF A U h2 e2]]
  .rwa[.inr #[?_,wF A U h2 (%[Nat.zero_and|PY])]]
   unfold gN;rw[h1,gz0 _ c (ao _)];rfl
def XJ:¬Ov 0 en i:=λ⟨_,_,p,h,_⟩=>by simp at h
def El(A:AZ ts sg bh en)(U:HR sg bh en u)(h:PD ts u w r)(f:YM (r&&&qJ sg c) en o):Ek ts (w++[c]) o:=by
 have k:=KY (c:=c) A U h;cases o with
 |none=>erw[λi t e z=>f i ((k i).mpr #[t,e,z])]
 |some i=>exact#[(k i).mp f.1,λi' t hi e z=>f.2 i' hi ((k i').mpr #[t,e,z])]
def Hv(A:AZ ts sg bh en)(U:HR sg bh en u)(P:UN (bh.map (·&&&u)) en (qJ sg) lots rs told)(gz0:∀j c,told.length<=j->AA (qJ sg) lots rs j c=ψ)(w:List Nat)(hw:∀c∈w,c∈SG):Ek ts w ((told++[ψ]).getD (tot told.length (AA (qJ sg) lots rs) w) ψ):=by
 have nn:(told++[ψ]).getD told.length ψ=ψ:=by rw[aC];simp
 have tt:∀{k:Nat}{o:Option Nat},told[k]?=ξ o->(told++[ψ]).getD k ψ=o:=λ{k o}e=>by rw[aC,ah (aK e),e];rfl
 rcases gX w with rfl|⟨w,c,rfl⟩
 .let#[o,e1,e2]:=P.t 0 1 P.z
  rw[show tot told.length (AA (qJ sg) lots rs) []=0 from rfl,tt e1]
  cases o with
  |none=>
   rintro i t e ⟨p,hp,z⟩;have hp:p=0:=hp;subst hp;have:=A.nl t (ag e);have z:eU [t]=ζ:=z;simp[eU,this] at z
  |some i=>
   let#[Z,f1,p,f2,f3]:=e2.1;have p0:=ig.mp f2;subst p0;have il:i<ts.length:=by rw[<-A.Hr];erw[aK f1]
   let#[Z',g1,g2]:=A.e i _ (aa il);rw[f1] at g1;cases g1;rw[g2,ak] at f3;let#[n,n0,pl]:=A.pos _ (cq il);erw[absurd rfl (Ab pl n0 f3.1)]
 .rw[gY] at hw ⊢
  have cm:c∈SG:=hw c (#v[]);rw[Cj]
  rcases Ck A U P gz0 _ w rfl (λc m=>hw c (by simp[m])) with⟨r,h1,h2⟩|⟨h1,h2⟩
  .unfold gN
   rw[wQ h1]
   unfold gz;by_cases z:r&&&qJ sg c=0
   .rw[if_pos z]
    show Ek ts _ ((told++[ψ]).getD told.length ψ)
    rw[nn]
    erw[El (r:=r) A U h2 (o:=ψ) (by rw[z];exact λi=>XJ)]
   .rw[if_neg z]
    have hm:=(P.m r (ag h1) c cm).resolve_left z;have hk:=bj hm;have e:lots[lots.idxOf (r&&&qJ sg c)]?=ξ (r&&&qJ sg c):=by rw[aa hk,cF hk]
    let#[o,e1,e2]:=P.t _ _ e;show Ek ts _ ((told++[ψ]).getD (lots.idxOf (r&&&qJ sg c)) ψ);rw[tt e1]
    erw[El A U h2 e2]
  .unfold gN
   rw[h1,gz0 _ c (ao _)]
   show Ek ts _ ((told++[ψ]).getD told.length ψ)
   rw[nn]
   erw[El (r:=0) A U h2 (o:=ψ) (by rw[Nat.zero_and];exact λi=>XJ)]
end
section
variable{told told':List (Option Nat)}{go go':Nat->Nat->Option Nat}{b reps:List Nat}
def PZ:∀{m i j:Nat},Eqv told g m i j->told[i]?=told[j]?
 |0,_,_,h=>h
 |m+1,_,_,h=>PZ h.1
def Cm(M:PX told go told' go' b reps)(cl:∀j c k,c∈SG->go j c=ξ k->k<told.length)(hi:i<=told.length)(hj:j<=told.length)(e:b.getD i 0=b.getD j 0):(told++[ψ])[i]?=(told++[ψ])[j]?/\∀c∈SG,b.getD (gN told.length go i c) 0=b.getD (gN told.length go j c) 0:=by
 let#[m,R,st]:=M.k;have hN:(told++[ψ]).length=told.length+1:=by simp
 have hq:=(R.iff i j ∅ ∅).mp e;refine#[PZ hq,λc hc=>?_];have le:∀i,gN told.length go i c<(told++[ψ]).length:=λi=>by
  unfold gN;cases z:go i c with
  |none=>show told.length<_;omega
  |some k=>have:=cl i c k hc z;show k<_;omega
 exact(R.iff _ _ (le i) (le j)).mpr ((st i j ∅ ∅ hq).2 c hc)
def AE(M:PX told go told' go' b reps)(cl:∀j c k,c∈SG->go j c=ξ k->k<told.length)(z0:∀j c,told.length<=j->go j c=ψ):∀(w:List Nat)(i:Nat),(∀c∈w,c∈SG)->i<=told.length->b.getD i 0=b.getD told.length 0->(told++[ψ]).getD (w.foldl (gN told.length go) i) ψ=ψ
 |[],i,_,hi,e=>by
  have:=(Cm M cl hi (ao _) e).1;show(told++[ψ]).getD i ψ=ψ;rw[aC,this];simp
 |c::w,i,hw,hi,e=>by
  have cm:=hw c (#v[]);have:=(Cm M cl hi (ao _) e).2 c cm;rw[show gN told.length go told.length c=told.length by unfold gN;rw[z0 _ c (ao _)];rfl] at this;rwa[AE M cl z0 w _ (λx hx=>hw x (az _ hx)) ?_ this];unfold gN;cases z:go i c with
  |none=>erw[ao _]
  |some k=>erw[bZ (cl i c k cm z)]
abbrev T8(n:Nat)(go:Nat->Nat->Option Nat):Prop:=∀j,0<j->j<n->∃i c,i<j/\c∈SG/\go i c=ξ j/\∀i' c' k,i'<n->c'∈SG->go i' c'=ξ k->j<k->UO i c i' c'
def P0(M:PX told go told' go' b reps)(h0:0<told.length):b.getD 0 0=0:=by
 have l0:0<reps.length:=gJ (bI _) (M.a 0 h0);have e0:=aa l0;let#[_,q2,q3]:=M.r 0 _ e0;generalize reps[0]=q at q2 q3;by_cases y:0<q
 .erw[absurd (q3 0 y) (de _)]
 .have:q=0:=∅
  subst this;erw[q2]
def OW(M:PX told go told' go' b reps)(h0:0<told.length)(r0:0<r)(hp:reps[r]?=ξ p):0<p:=by
 rwa[Nat.pos_of_ne_zero λz=>?_]
 subst z;have:=(M.r r 0 hp).2.1;rw[P0 M h0] at this;omega
def OX(M:PX told go told' go' b reps)(cl:∀j c k,c∈SG->go j c=ξ k->k<told.length)(z0:∀j c,told.length<=j->go j c=ψ)(h0:0<told.length)(rc:T8 told.length go)(lv:∀j,0<j->j<told.length->Lv told go j):T8 told'.length go':=by
 intro r r0 rl;rw[M.len] at rl ⊢;have hp:=aa rl;let#[p1,p2,p3]:=M.r r _ hp;generalize reps[r]=p at hp p1 p2 p3;have p0:=OW M h0 r0 hp;let#[i,c,il,cm,e,er]:=rc p p0 p1;have bi:=p3 i il;have hi:=aa (j9 bi rl);let#[q1,q2,_]:=M.r _ _ hi;have tg:=(M.t _ _ hi).2 c;generalize reps[b.getD i 0]=q at hi q1 q2 tg;have eb:=(Cm M cl (bZ (j9 il p1)) (bZ q1) q2.symm).2 c cm;have ei:gN told.length go i c=p:=by unfold gN;rw[e];rfl
 rw[ei] at eb;refine#[b.getD i 0,c,bi,cm,?_,λi' c' k hi' cm' e' rk=>?_]
 .rw[tg]
  cases z:go q c with
  |none=>
   have en:gN told.length go q c=told.length:=by unfold gN;rw[z];rfl
   rw[en] at eb;let#[w,hw,ne]:=lv p p0 p1;erw[absurd (AE M cl z0 w p hw (bZ p1) eb) ne]
  |some k=>
   have en:gN told.length go q c=k:=by unfold gN;rw[z];rfl
   rw[en] at eb;show ξ (b.getD k 0)=ξ r;rw[<-eb,p2]
 .have hq:=aa hi'
  let#[s1,s2,s3]:=M.r _ _ hq;rw[(M.t _ _ hq).2 c'] at e';generalize reps[i']=q' at s1 s2 s3 e';let#[k',f1,rfl]:=au.mp e';have pk:p<k':=Mi λz=>by
   rcases tq z with z|z
   .have:=p3 k' z;omega
   .rw[z] at rk;omega
  rcases er q' c' k' s1 cm' f1 pk with y|⟨y,y'⟩
  .erw[.inl (s3 i y)]
  .erw[.inr #[by rw[y];exact s2,y']]
abbrev Tl(told:List (Option Nat))(go:Nat->Nat->Option Nat)(i:Nat)(w:List Nat):Option Nat:=(told++[ψ]).getD (w.foldl (gN told.length go) i) ψ
def Lr(h:i<l.length):(l++[ψ]).getD i ψ=l.getD i ψ:=by rw[aC,ah h,<-aC]
def Em(z0:∀j c,told.length<=j->go j c=ψ):∀w:List Nat,Tl told go told.length w=ψ
 |[]=>by unfold Tl;rw[qB,aC];simp
 |c::w=>by
  have e:gN told.length go told.length c=told.length:=by unfold gN;rw[z0 _ c (ao _)];rfl
  unfold Tl;rw[jA,e]
  erw[Em z0 w]
def wR(M:PX told go told' go' b reps)(cl:∀j c k,c∈SG->go j c=ξ k->k<told.length)(z0:∀j c,told.length<=j->go j c=ψ)(z0':∀j c,told'.length<=j->go' j c=ψ):∀(w:List Nat)(i:Nat),(∀c∈w,c∈SG)->i<told.length->Tl told' go' (b.getD i 0) w=Tl told go i w
 |[],i,_,hi=>by
  have hp:=aa (M.a i hi);let#[p1,p2,_]:=M.r _ _ hp;have:=(Cm M cl (bZ p1) (bZ hi) p2).1;have tt:=(M.t _ _ hp).1;show(told'++[ψ]).getD (b.getD i 0) ψ=(told++[ψ]).getD i ψ;rw[Lr (%[M.len|M.a i hi]),tt,<-Lr p1,aC,this,<-aC]
 |c::w,i,hw,hi=>by
  have cm:=hw c (aO ..);have hw':∀x∈w,x∈SG:=λx hx=>hw x (az _ hx)
  have ha:=M.a i hi;have hp:=aa ha;let#[p1,p2,_]:=M.r _ _ hp;have tg:=(M.t _ _ hp).2 c;generalize reps[b.getD i 0]=p at hp p1 p2 tg;have eb:=(Cm M cl (bZ p1) (bZ hi) p2).2 c cm;have far:∀{k:Nat},k<=told.length->b.getD k 0=b.getD told.length 0->Tl told go k w=ψ:=λh e=>AE M cl z0 w _ hw' h e
  have gl:gN told.length go i c<told.length\/gN told.length go i c=told.length:=by
   unfold gN;cases z:go i c with
   |none=>erw[.inr rfl]
   |some k=>erw[.inl (cl i c k cm z)]
  show Tl told' go' (gN told'.length go' (b.getD i 0) c) w=Tl told go (gN told.length go i c) w
  cases z:go p c with
  |none=>
   have e1:gN told'.length go' (b.getD i 0) c=told'.length:=by unfold gN;rw[tg,z];rfl
   have e2:gN told.length go p c=told.length:=by unfold gN;rw[z];rfl
   rw[e2] at eb;rw[e1,Em z0',far ∅ eb.symm]
  |some k=>
   have e1:gN told'.length go' (b.getD i 0) c=b.getD k 0:=by unfold gN;rw[tg,z];rfl
   have e2:gN told.length go p c=k:=by unfold gN;rw[z];rfl
   have kl:=cl p c k cm z;rw[e2] at eb;rw[e1]
   rcases gl with y|y
   .rw[eb];erw[wR M cl z0 z0' w _ hw' y]
   .rw[wR M cl z0 z0' w k hw' kl,y,Em z0,far (bZ kl) (by rw[eb,y])]
def T9(z0:∀j c,told.length<=j->go j c=ψ)(w:List Nat):fst told go w=Tl told go 0 w:=by
 have h:∀(w:List Nat)(s:Option Nat),w.foldl (gN told.length go) (s.getD told.length)=(w.foldl (λs c=>s.bind λj=>go j c) s).getD told.length:=λw=>by
  induction w with
  |nil=>erw[λs=>rfl]
  |cons c w ih=>
   intro s;rw[jA,jA,<-ih]
   congr 1
   cases s with
   |none=>unfold gN;rw[show go (none.getD told.length) c=ψ from z0 _ c (ao _)];rfl
   |some j=>rfl
 have:=h w (ξ 0);unfold Tl fst Gb;rw[show w.foldl (gN told.length go) 0=_ from this]
 cases w.foldl (λs c=>s.bind λj=>go j c) (ξ 0) with
 |none=>rw[aC];simp
 |some j=>
  show told.getD j ψ=(told++[ψ]).getD j ψ
  rw[aC,aC]
  by_cases y:j<told.length
  .rw[ah y]
  .rw[aA ∅,dq ∅]
   cases j-told.length<;>rfl
def Hw(M:PX told go told' go' b reps)(cl:∀j c k,c∈SG->go j c=ξ k->k<told.length)(z0:∀j c,told.length<=j->go j c=ψ)(z0':∀j c,told'.length<=j->go' j c=ψ)(h0:0<told.length)(w:List Nat)(hw:∀c∈w,c∈SG):fst told' go' w=(told++[ψ]).getD (tot told.length go w) ψ:=by
 rw[T9 z0',<-P0 M h0]
 erw[wR M cl z0 z0' w 0 hw h0]
end
abbrev Ua:Spec:=λus S Q=>∃n xs ts,us=[.loc n]/\S[n]?=ξ (.lst (xs.map .str))/\W6 ts xs/\oG ts/\eJ ts<=10/\∀T told ls go S',HU S' T told ls go->0<told.length->(∀w,(∀c∈w,c∈SG)->Ek ts w (fst told go w))->Ext S S'->(∀d∈ls,S.length<=d)->((∀t∈ts,∀l∈nA t,∀c∈l,c∈SG)->T8 told.length go)->Q (.loc T) S'
def XM(Γ:cb)(h1:Γ "places_of"=W7)(h2:Γ "spread"=T3)(h3:Γ "smallest"=T7):Keeps Γ oq 0 Ua:=by
 rintro us S Q ⟨n,xs,ts,rfl,gn,hR,hT,hs,q⟩;unfold oq;room;rwa[ca h1 #[n,xs,ts,10,rfl,gn,hR,hT,hs,λP u sg bh en S1 pp A U l x1=>?_]];have al:=A.len;have b0:0<bh.length:=∅
 rwa[ca h2 #[P,_,en,_,λp=>p=0\/∃t∈ts,IN t p=ζ,rfl,pp,#[by rw[ae];omega,λq B p hq hB hp=>.inr ?_,λp hp=>?_],.inl rfl,λT told ls lots rs S2 tb dl x2 sp rc=>?_]]
 .let#[B',e,rfl]:=vd hB
  rw[bN,ak] at hp;erw[Lp A hq e hp.1]
 .rw[ae]
  rcases hp with rfl|⟨t,m,i⟩
  .erw[b0]
  .rw[al];erw[aK (A.sgn t m p i)]
 have t0:0<told.length:=%[sp.len|aK sp.z]
 let#[_,_,_,_,rp]:=tb.o;have ll:=tb.ll;rwa[ca h3 #[T,told,ls,_,S1.length,rfl,tb,t0,dl,x2.1,λT' told' ls' go' b reps S3 tb' k3 #[l3,l4] M=>?_]];have z0:∀j c,told.length<=j->AA (qJ sg) lots rs j c=ψ:=λj c hj=>rp.z j c ∅
 have z0':∀j c,told'.length<=j->go' j c=ψ:=λj c hj=>by
  let#[_,_,_,_,rp']:=tb'.o;erw[rp'.z j c (by rw[tb'.ll];exact hj)]
 rwa[q T' told' ls' go' S3 tb' ?_ (λw hw=>?_) #[by have:=x1.1;have:=x2.1;omega,λn hn=>?_] (λd m=>aI (aI x1.1 x2.1) (l4 d m)) λhS=>OX M tb.cl z0 t0 (λj j0 jl=>?_) (Lq A U sp rc hS)]
 .rw[M.len]
  have:=M.a 0 t0;omega
 .rw[Hw M tb.cl z0 z0' t0 w hw]
  erw[Hv A U sp z0 w hw]
 .have:=x1.1
  rw[k3 n ∅,x2.2 n ∅,x1.2 n hn]
 .let#[i,_,c,e1,_,e2,_,_,e3,e4]:=rc.p j j0 (by rw[<-sp.len];erw[jl])
  exact#[i,c,e1,e2,e3,λi' c' k _=>e4 i' c' k]
abbrev Lu:Spec:=λus S Q=>∃n x ts,us=[.loc n,.str x]/\S[n]?=ξ (.lst (ts.map enc))/\oG ts/\x.length<=9000/\∀o S',Ek ts x o->Ext S S'->Q (uN o) S'
def XN(Γ:cb)(h1:Γ "_law_rests"=Th)(h2:Γ "_law_ends"=Ti):Keeps Γ ly 3 Lu:=by
 rintro us S Q ⟨n,x,ts,rfl,gn,hT,hx,q⟩;unfold ly;have tl:=hT.len;room;rw[j8 gn]
 dsimp[aT,ae,Ng,kb];refine#[∅,∅,∅,?_];rwa[df (λi env S1=>∃(x2 x3 x4:Option U),env=[ξ (.loc n),ξ (.str x),x2,x3,x4]/\Ext S S1/\∀(j:Nat)t,j<i->ts[j]?=ξ t->¬En t (hs t x)) (λ_ _ _ _=>trivial) _ ?_ ?_ #[ψ,ψ,ψ,rfl,.refl,∅]]
 .rintro i u env S1 K hu ⟨x2,x3,x4,rfl,x1,inv⟩ hK
  let#[rfl,hi]:=jO hu;have et:=aa hi;have hm:=cq hi;generalize ts[i]=t at et hm;let#[n0,pl,n1,sz,dt]:=Ao hT hm;room;rw[x1.get gn,ay]
  rwa[at_of et #[#v[],#v[],?_]];have xa:Ext S (S1++[SO.lst [U.tup [enc t]]]):=x1.trans (Ext.app _);have ga:(S1++[SO.lst [U.tup [enc t]]])[S1.length]?=ξ (.lst [cU [t]]):=by simp;rfl
  generalize S1.length=m0 at ga;generalize S1++[SO.lst [U.tup [enc t]]]=S2 at xa ga;room;rwa[df (λk env S3=>∃(m:Nat)(X:List U)(x4:Option U),env=[ξ (.loc n),ξ (.str x),ξ (aU i),ξ (.loc m),x4]/\Ext S S3/\S3[m]?=ξ (.lst X)/\L5 t (hs t (x.take k)) X) (λ_ _ _ _=>trivial) _ ?_ ?_ #[m0,_,x4,rfl,xa,ga,yK t]]
  .rintro k u env S3 K' hu ⟨m,X,x4,rfl,x3,g3,r3⟩ hK'
   let#[c,hc,rfl]:=dW hu;have Xl:=ve pl r3;room;rwa[ca h1 #[.loc m,c,X,t,_,n0,rfl,.inl #[m,rfl,g3],r3,pl,n1,dt,sz,∅,λm' Y S4 x4 g4 r4=>?_]];room;erw[hK' _ _ #[m',Y,_,rfl,x3.trans x4,g4,by rw[take_snoc hc,qh];exact r4]]
  .rintro env S3 ⟨m,X,x4,rfl,x3,g3,r3⟩
   rw[ae,bX] at r3;have Xl:=ve pl r3;room;rwa[ca h2 #[.loc m,X,t,_,rfl,.inl #[m,rfl,g3],r3,dt,sz,∅,λb S4 hb x4=>?_]];room;cases b with
   |true=>
    rw[if_pos rfl]
    room;erw[q (ξ i) S4 #[#[t,et,hb.mp rfl],inv] (x3.trans x4)]
   |false=>
    rw[if_neg (#v[])]
    room;rwa[hK _ _ #[_,_,_,rfl,x3.trans x4,λj t' hj e z=>?_]];by_cases y:j=i
    .subst y
     rw[et] at e;cases e;have:=hb.mpr z;simp at this
    .erw[inv j t' ∅ e z]
 .rintro env S1 ⟨x2,x3,x4,rfl,x1,inv⟩
  room;exact q ψ S1 (λi t e=>inv i t (by have:=aK e;simpa using this) e) x1
def XO:iT .ne (uN o) (uN o) S q=q ϑ:=by
 cases o with
 |none=>unfold uN;dsimp[VW,ZG,ZJ,true_and];rfl
 |some i=>unfold uN;dsimp[VU,ZF,VX,true_and,beq_self_eq_true,bG]
abbrev Ll(a b:List Nat):Prop:=a.length<b.length\/(a.length=b.length/\a<b)
def AF:∀{a b:List Nat},a.length=b.length->(a++x<b++y↔a<b\/(a=b/\x<y))
 |[],[],_=>by simp
 |c::a,d::b,h=>by
  have:=AF (x:=x) (y:=y) (a:=a) (b:=b) (~~~h);rw[iX,iX,eV,eV,this,cQ]
  constructor
  .rintro(h|⟨h1,h2|h2⟩)
   .erw[.inl (.inl h)]
   .erw[.inl (.inr #[h1,h2])]
   .erw[.inr #[#[h1,h2.1],h2.2]]
  .rintro((h|⟨h1,h2⟩)|⟨⟨h1,h2⟩,h3⟩)
   .erw[.inl h]
   .erw[.inr #[h1,.inl h2]]
   .erw[.inr #[h1,.inr #[h2,h3]]]
def Lw:∀{a b:List Nat},a.length=b.length->a<b\/a=b\/b<a
 |[],[],_=>.inr (.inl rfl)
 |c::a,d::b,h=>by
  rw[eV,eV,cQ]
  rcases nJ c d with z|z|z
  .erw[.inl (.inl z)]
  .rcases Lw (a:=a) (b:=b) (~~~h) with y|y|y
   .erw[.inl (.inr #[z,y])]
   .erw[.inr (.inl #[z,y])]
   .erw[.inr (.inr (.inr #[z.symm,y]))]
  .erw[.inr (.inr (.inl z))]
def Ll.trans(h:Ll a b)(k:Ll b c):Ll a c:=by
 rcases h with h|⟨h,h'⟩<;>rcases k with k|⟨k,k'⟩
 .erw[.inl ∅]
 .erw[.inl ∅]
 .erw[.inl ∅]
 .erw[.inr #[∅,List.lt_trans h' k']]
def Ll.app(h:Ll a b)(c d:Nat):Ll (a++[c]) (b++[d]):=by
 unfold Ll;rw[aq,aq]
 rcases h with h|⟨h,h'⟩
 .erw[.inl (Nat.add_lt_add_right h 1)]
 .erw[.inr #[by rw[h];rfl,(AF h).mpr (.inl h')]]
def XQ:SG.Pairwise (· < ·):=⋯
def P1(hc:c∈SG)(hd:d∈SG)(h:SG.idxOf c<SG.idxOf d):c<d:=by
 have l1:=bj hc;have l2:=bj hd;have:=iY.mp XQ _ _ l1 l2 h
 rwa [cF l1,cF l2] at this
structure wU(go:Nat->Nat->Option Nat)(n i:Nat)(G:List Nat)(ps:List (Nat×List Nat)):Prop where
 k:ps.map (·.1)=bO ps.length
 l:ps.length<=n
 z:ps[0]?=ξ (0,[])
 t:∀p∈ps,Gb go p.2=ξ p.1/\(∀c∈p.2,c∈SG)/\p.2.length<=p.1
 m:ps.Pairwise λp q=>Ll p.2 q.2
 e:∀(j:Nat)w,0<j->ps[j]?=ξ (j,w)->∃i' c' v,ps[i']?=ξ (i',v)/\w=v++[c']/\c'∈SG/\(i'<i\/(i'=i/\c'∈G))/\∀i2 c2,c2∈SG->go i2 c2=ξ j->¬UO i2 c2 i' c'
 r:∀i' c j,c∈SG->(i'<i\/(i'=i/\c∈G))->go i' c=ξ j->j<ps.length
section
variable{go:Nat->Nat->Option Nat}{n i c k:Nat}{G:List Nat}{ps:List (Nat×List Nat)}
def wU.at_(I:wU go n i G ps)(h:j<ps.length):∃w,ps[j]?=ξ (j,w):=by
 have h1:=aa h;have h2:(ps.map (·.1))[j]?=ξ j:=by rw[I.k,fU h]
 rw[ar,h1] at h2;exact#[ps[j].2,%[h1|congrArg ξ (Ew (aG h2) rfl)]]
def wU.old(I:wU go n i G ps)(h:∀j,go i c=ξ j->j<ps.length):wU go n i (G++[c]) ps:=by
 refine#[I.k,I.l,I.z,I.t,I.m,λj w j0 e=>?_,λi' c' j cm h1 h2=>?_]
 .let#[i',c',v,a1,a2,a3,a4,a5]:=I.e j w j0 e
  exact#[i',c',v,a1,a2,a3,a4.imp id λz=>#[z.1,bz _ z.2],a5]
 .rcases h1 with h1|⟨h1,h3⟩
  .erw[I.r i' c' j cm (.inl h1) h2]
  .rcases aJ.mp h3 with h3|h3
   .erw[I.r i' c' j cm (.inr #[h1,h3]) h2]
   .rw[aX.mp h3,h1] at h2;erw[h j h2]
def Lx(hc:SG[m]?=ξ c)(hd:d∈SG):d∈SG.take m↔SG.idxOf d<SG.idxOf c:=by
 have l2:=aK hc;have ec:SG.idxOf c=m:=by rw[<-(ab.mp hc).2];erw[wO.idxOf_getElem _ l2]
 have l1:=bj hd;rw[ec]
 constructor
 .intro h
  let#[j,hj,e]:=mV.mp h;rw[<-e,wO.idxOf_getElem];omega
 .intro h
  erw[mV.mpr #[SG.idxOf d,∅,cF l1]]
def wU.new{m:Nat}(hc:SG[m]?=ξ c)(I:wU go n i (SG.take m) ps)(rc:T8 n go){w:List Nat}(il:i<n)(hw:ps[i]?=ξ (i,w))(kn:k<n)(e:go i c=ξ k)(hk:¬k<ps.length):wU go n i (SG.take m++[c]) (ps++[(k,w++[c])]):=by
 have cm:=ag hc;have l0:0<ps.length:=aK I.z;have ek:k=ps.length:=by
  rwa[pR (dS λz=>?_) (dS hk)];let#[i',c',h1,h2,h3,h4]:=rc ps.length l0 (j9 z kn);have:=h4 i c k il cm e z;erw[cC _ (I.r i' c' _ h2 (this.imp id λz=>#[z.1,(Lx hc h2).mpr z.2]) h3)]
 subst ek;have iw:=aK hw;let#[t1,t2,t3]:=I.t _ (ag hw);have up:∀{j:Nat}{p:Nat×List Nat},ps[j]?=ξ p->(ps++[(ps.length,w++[c])])[j]?=ξ p:=λh=>%[ah (aK h)|h]
 have ll:(ps++[(ps.length,w++[c])]).length=ps.length+1:=by simp
 have mono:∀(a b:Nat)(v v':List Nat),a<b->ps[a]?=ξ (a,v)->ps[b]?=ξ (b,v')->Ll v v':=λa b v v' h e1 e2=>by
  have:=iY.mp I.m a b (aK e1) (aK e2) h
  rwa [(ab.mp e1).2,(ab.mp e2).2] at this
 refine#[?_,%[ll|kn],up I.z,λp mp=>?_,?_,λj v j0 ej=>?_,λi' c' j cm' h1 h2=>?_]
 .rw[aF,I.k,ll,xf];rfl
 .rcases aJ.mp mp with mp|mp
  .erw[I.t p mp]
  .rw[aX.mp mp]
   refine#[%[wN,t1|e],λc' m'=>(aJ.mp m').elim (t2 c') λz=>%[aX.mp z|cm],?_];show(w++[c]).length<=ps.length;rw[aq];erw[aI (dg t3) iw]
 .rw[List.pairwise_append]
  refine#[I.m,Bd ..,λp mp q mq=>?_];rw[aX.mp mq]
  let#[j,ej]:=bq mp;let#[v,ev]:=I.at_ (aK ej);rw[ej] at ev;cases ev;show Ll v (w++[c]);by_cases j0:0<j
  .let#[i',c',v',a1,rfl,a3,a4,_]:=I.e j v j0 ej
   rcases a4 with a4|⟨rfl,a4⟩
   .exact(mono i' i v' w a4 a1 hw).app c' c
   .rw[a1] at hw;cases hw
    erw[.inr #[#v[],(AF rfl).mpr (.inr #[rfl,by rw[eV];exact .inl (P1 a3 cm ((Lx hc a3).mp a4))])]]
  .have:j=0:=∅
   subst this;rw[I.z] at ej;cases ej;erw[.inl (#v[])]
 .rcases mJ ej with ej|⟨rfl,ej⟩
  .let#[i',c',v',a1,a2,a3,a4,a5]:=I.e j v j0 ej
   exact#[i',c',v',up a1,a2,a3,a4.imp id λz=>#[z.1,bz _ z.2],a5]
  .cases ej
   refine#[i,c,w,up hw,rfl,cm,.inr #[rfl,#v[]],λi2 c2 m2 g2 er=>?_];erw[cC _ (I.r i2 c2 _ m2 (er.imp id λz=>#[z.1,(Lx hc m2).mpr z.2]) g2)]
 .rw[ll]
  rcases h1 with h1|⟨h1,h3⟩
  .erw[ba (I.r i' c' j cm' (.inl h1) h2)]
  .rcases aJ.mp h3 with h3|h3
   .erw[ba (I.r i' c' j cm' (.inr #[h1,h3]) h2)]
   .rw[aX.mp h3,h1,e] at h2;cases h2;erw[cB _]
def wU.row(I:wU go n i SG ps):wU go n (i+1) [] ps:=
 #[I.k,I.l,I.z,I.t,I.m,λj w j0 e=>let ⟨i',c',v,a1,a2,a3,a4,a5⟩:=I.e j w j0 e;#[i',c',v,a1,a2,a3,.inl (a4.elim (λz=>ba z) λz=>z.1▸cB _),a5],λi' c j cm h=>I.r i' c j cm (h.elim (λh=>(jB.mp h).imp id λz=>#[z,cm]) λz=>nomatch z.2)]
def wU.has(I:wU go n i G ps)(rc:T8 n go)(h:i<n):i<ps.length:=by
 by_cases z:i=0
 .subst z;erw[aK I.z]
 .let#[i',c,h1,h2,h3,_]:=rc i ∅ h
  erw[I.r i' c i h2 (.inl h1) h3]
def Ly(I:wU go n n [] ps)(cl:∀j c k,c∈SG->go j c=ξ k->k<n)(n0:0<n)(pn:ps.length=n):∀(l:Nat)(w':List Nat)(j:Nat)(w:List Nat),w'.length=l->(∀c∈w',c∈SG)->Gb go w'=ξ j->ps[j]?=ξ (j,w)->¬Ll w' w
 |0,w',j,w,hl,_,ht,hw=>by
  rw[oK.mp hl] at ht ⊢;have:0=j:=aG ht;subst this;rw[I.z] at hw;cases hw;rintro(z|⟨_,z⟩)
  .erw[cC _ z]
  .erw[md _ z]
 |l+1,w',j,w,hl,hs,ht,hw=>by
  rcases gX w' with rfl|⟨v,c',rfl⟩
  .simp at hl
  rw[gY] at hl hs ht ⊢;have cm:c'∈SG:=hs c' (#v[]);rw[wN] at ht;let#[i',h1,h2]:=ax.mp ht;have i'n:i'<n:=by
   rcases gX v with rfl|⟨v2,c2,rfl⟩
   .have:0=i':=aG h1
    omega
   .rw[gY,wN] at h1
    let#[i3,_,h3]:=ax.mp h1;erw[cl i3 c2 i' (hs c2 (#v[])) h3]
  let#[v',hv]:=I.at_ (j:=i') ∅;have ih:=Ly I cl n0 pn l v i' v' (~~~hl) (λc m=>hs c (by simp[m])) h1 hv;by_cases j0:0<j
  .let#[i,c,u,a1,rfl,a3,_,a5]:=I.e j w j0 hw
   have np:=AB (a5 i' c' cm h2);have le:∀{a b:List Nat},¬Ll a b->b.length<a.length\/(b.length=a.length/\(b=a\/b<a)):=λ{a b}h=>by
    rcases nJ a.length b.length with y|y|y
    .erw[absurd (.inl y) h]
    .rcases Lw y with x|x|x
     .erw[absurd (.inr #[y,x]) h]
     .erw[.inr #[y.symm,.inl x.symm]]
     .erw[.inr #[y.symm,.inr x]]
    .erw[.inl y]
   have q1:Ll u v\/(u=v/\SG.idxOf c<=SG.idxOf c'):=by
    rcases np with np|⟨rfl,np⟩
    .have:=iY.mp I.m i i' (aK a1) (aK hv) np
     rw[(ab.mp a1).2,(ab.mp hv).2] at this;rcases le ih with y|⟨y,y'|y'⟩
     .erw[.inl (this.trans (.inl y))]
     .rw[<-y'];erw[.inl this]
     .erw[.inl (this.trans (.inr #[y,y']))]
    .rw[a1] at hv;cases hv
     rcases le ih with y|⟨y,y'|y'⟩
     .erw[.inl (.inl y)]
     .erw[.inr #[y',np]]
     .erw[.inl (.inr #[y,y'])]
   intro z;rcases q1 with q1|⟨rfl,q1⟩
   .have:=(q1.app c c').trans z
    rcases this with z|⟨_,z⟩
    .erw[cC _ z]
    .erw[md _ z]
   .rcases z with z|⟨_,z⟩
    .simp at z
    .rcases(AF rfl).mp z with z|⟨_,z⟩
     .erw[md _ z]
     .rw[eV] at z
      rcases z with z|⟨_,z⟩
      .rcases tq q1 with y|y
       .have:=P1 a3 cm y;omega
       .have:=Fy a3 y;omega
      .erw[md _ z]
  .have:j=0:=∅
   subst this;rw[I.z] at hw;cases hw;rintro(z|⟨z,_⟩)<;>simp at z
end
open PL.Nv
abbrev tD(ps:List (Nat×List Nat)):List (U×U):=ps.map λp=>(aU p.1,U.str p.2)
def FH(k:Nat):∀ps,uz (aU k) (tD ps)=(ps.lookup k).map .str
 |[]=>rfl
 | (a,v)::r=>by
  show(if Ph (aU a) (aU k)=ζ then ξ (U.str v) else uz (aU k) (tD r))=_
  rw[show Ph (aU a) (aU k)=(ξ a==ξ k) from PN (ξ a) (ξ k),FH k r,aN]
  by_cases h:a=k
  .subst h;simp
  .have h1:(ξ a==ξ k)=ϑ:=by simp[h]
   have h2:(k==a)=ϑ:=by simp[cM h]
   rw[h1,h2];rfl
def FI:∀{ps:List (Nat×List Nat)}{s j:Nat}{w:List Nat},ps.map (·.1)=vt s ps.length->ps[j]?=ξ (s+j,w)->ps.lookup (s+j)=ξ w
 | (a,v)::r,s,0,w,hk,e=>by
  cases e;rw[aN];simp
 | (a,v)::r,s,j+1,w,hk,e=>by
  rw[aw,aS,LQ,cQ] at hk;have ha:a=s:=hk.1;rw[aN,show(s+(j+1)== a)=ϑ from beq_eq_false_iff_ne.mpr ∅]
  have:=FI (ps:=r) (s:=s+1) (j:=j) (w:=w) hk.2 (by rw[show s+1+j=s+(j+1) by omega];simpa using e);rw[show s+1+j=s+(j+1) by omega] at this;erw[this]
def FJ:∀{ps:List (Nat×List Nat)},k∉ps.map (·.1)->ps.lookup k=ψ
 |[],h=>rfl
 | (a,v)::r,h=>by
  rw[aw,aR] at h;have h2:(k==a)=ϑ:=by simp;erw[λe=>h (.inl e)]
  rw[aN,h2]
  erw[FJ λz=>h (.inr z)]
def wU.look(I:wU go n i G ps)(h:ps[j]?=ξ (j,w)):ps.lookup j=ξ w:=by
 have:=FI (ps:=ps) (s:=0) (j:=j) (w:=w) (by rw[I.k,List.range_eq_range']) (%[kc|h])
 rwa [kc] at this
abbrev XR:Spec:=λus S Q=>∃(T k R:Nat)(told:List (Option Nat)),us=[.loc T]/\S[T]?=ξ (TQ k told R)/\told.length<=1000000/\Q (aU told.length) S
def XS(Γ:cb):Keeps Γ lz 0 XR:=by
 rintro us S Q ⟨T,k,R,told,rfl,h,hl,q⟩;unfold lz;room;rw[Ln h]
 room;rw[ae]
 exact#[hl,q]
abbrev OY:Spec:=λus S Q=>∃T told ls go,us=[.loc T]/\HU S T told ls go/\0<told.length/\T8 told.length go/\∀m ps S',Ext S S'->S'[m]?=ξ (.dX (tD ps))->wU go told.length told.length [] ps->ps.length=told.length->Q (.loc m) S'
def XT(Γ:cb)(h2:Γ "Table.goes"=TR)(h:HU S T told ls go)(rc:T8 told.length go)(x1:Ext S S1)(ml:S.length<=m)(g1:S1[m]?=ξ (.dX (tD ps)))(hi:i<told.length)(hc:SG[j]?=ξ c)(I:wU go told.length i (SG.take j) ps)
  (q:∀S2 ps' x4,Ext S S2->S2[m]?=ξ (.dX (tD ps'))->wU go told.length i (SG.take j++[c]) ps'->K [ξ (.loc T),ξ (.loc m),ξ (aU i),ξ (.str [c]),x4] S2):
  Rest Γ pFt #[K,Q] [ξ (.loc T),ξ (.loc m),ξ (aU i),ξ (.str [c]),x4] S1:=by
 have cm:=ag hc;have hh:=h.ext x1;let#[k,R,hT,_]:=hh.o;unfold pFt;room;rw[hT]
 refine#[#[rfl,rfl],ca h2 #[T,told,ls,go,i,c,rfl,hh,hi,cm,?_]];cases e:go i c with
 |none=>
  room;exact q S1 ps _ x1 g1 (I.old λj z=>by rw[e] at z;cases z)
 |some k'=>
  have kn:=h.cl i c k' cm e;let#[w,ew]:=I.at_ (I.has rc hi);have lw:=I.look ew;have wl:w.length<=i:=(I.t _ (ag ew)).2.2;have sz:=h.sz;have ln:=I.l;room;refine#[?_,?_]
  .show(match S1[m]? with|some (.dX _)=>True|some (.uR _)=>True|some (.xr _)=>True|_=>False)
   rw[g1];trivial
  rw[g1,jq,FH,lw,fg,aT,DN]
  refine#[rfl,by rw[aS,dB];omega,?_];unfold pB;rw[g1]
  show(mP (aU k')=ζ/\(tD ps).length<1000000)/\match uz (aU k') (tD ps) with|some v=>_|none=>_
  refine#[#[rfl,by unfold tD;rw[ae];omega],?_];rw[FH]
  by_cases hk:k'<ps.length
  .let#[w',ew']:=I.at_ hk
   rw[I.look ew']
   room;exact q S1 ps _ x1 g1 (I.old λj z=>by rw[e] at z;cases z;erw[hk])
  .rw[FJ (%[I.k,iJ|hk])]
   room;rwa[q _ (ps++[(k',w++[c])]) _ (x1.st ml) ?_ (I.new hc rc hi ew kn e hk)];rw[gs g1];unfold tD;rw[aF];rfl
def XU(Γ:cb)(h1:Γ "Table.size"=XR)(h2:Γ "Table.goes"=TR):Keeps Γ kG 4 OY:=by
 rintro us S Q ⟨T,told,ls,go,rfl,h,h0,rc,q⟩;have sz:=h.sz;unfold kG;room;rw[show ∀env S' Q',WE Γ (.dX (.cons ↑0 .nil) (.cons (.lit (.str [])) .nil)) env S' Q'=([U.int 0].length<=100/\mP (.int 0)=ζ/\∃v,[U.str []]=[v]/\Q' (.loc S'.length) (S'++[.dX [(.int 0,v)]])) from λ_ _ _=>rfl]
 refine#[⋯,rfl,_,rfl,?_];have x0:Ext S (S++[SO.dX [(U.int 0,U.str [])]]):=Ext.app _;have g0:(S++[SO.dX [(U.int 0,U.str [])]])[S.length]?=ξ (.dX (tD [(0,[])])):=by simp;rfl
 have I0:wU go told.length 0 [] [(0,[])]:=#[rfl,h0,rfl,λp m=>by rw[aX.mp m];exact#[rfl,(λc m=>by cases m),ao _],Bd ..,λj w j0 e=>by have:=aK e;simp at this;omega,λi' c j _ h=>h.elim (λz=>absurd z (de _)) λz=>nomatch z.2]
 have ml:S.length<=S.length:=ao _;generalize hM:S.length=m at g0 ml;generalize S++[SO.dX [(U.int 0,U.str [])]]=S0 at x0 g0;room;let#[k,R,hT,_]:=(h.ext x0).o;rw[hT]
 refine#[#[rfl,rfl],ca h1 #[T,k,R,told,rfl,hT,∅,?_]];refine#[by show(told.length:Int)<=1000000;omega,by show(-1000000:Int)<=(told.length:Int);omega,?_];show uT _ _ _ (dy (λk=>U.int ((k:Nat):Int)) (bO told.length)) _ _;rwa[df (λi env S1=>∃ps x2 x3 x4,env=[ξ (.loc T),ξ (.loc m),x2,x3,x4]/\Ext S S1/\S1[m]?=ξ (.dX (tD ps))/\wU go told.length i [] ps) (λ_ _ _ _=>trivial) _ ?_ ?_ #[[(0,[])],ψ,ψ,ψ,rfl,x0,g0,I0]]
 .rintro i u env S1 K hu ⟨ps,x2,x3,x4,rfl,x1,g1,I⟩ hK
  let#[rfl,hi]:=jO hu;show Rest Γ pFs _ [ξ (.loc T),ξ (.loc m),ξ (aU i),x3,x4] S1;unfold pFs;rwa[Rest.go ?_];rw[oa,E2,Jr,w_lit,ZU]
  have sit:∀(i:Nat)(u:U),(SG.map λc=>U.str [c])[i]?=ξ u->∃c,SG[i]?=ξ c/\u=.str [c]:=λi u hu=>by
   let#[c,hc,rfl]:=dW hu;exact#[c,hc,rfl]
  have sl:(SG.map λc=>U.str [c]).length=SG.length:=ae _;generalize hM:(SG.map λc=>U.str [c])=M at sit sl;rwa[df (λj env S2=>∃ps x3 x4,env=[ξ (.loc T),ξ (.loc m),ξ (aU i),x3,x4]/\Ext S S2/\S2[m]?=ξ (.dX (tD ps))/\wU go told.length i (SG.take j) ps) (λ_ _ _ _=>trivial) M ?_ ?_ #[ps,x3,x4,rfl,x1,g1,%[List.take_zero|I]]]
  .rintro j u env S2 K' hu ⟨ps,x3,x4,rfl,x2,g2,I2⟩ hK'
   let#[c,hc,rfl]:=sit j u hu;rwa[XT Γ h2 h rc x2 ∅ g2 hi hc I2 λS3 ps' x4 x3 g3 I3=>hK' _ _ #[ps',_,_,rfl,x3,g3,?_]]
   rw[HQ hc];erw[I3]
  .rintro env S2 ⟨ps,x3,x4,rfl,x2,g2,I2⟩
   rw[sl,bX] at I2;room;erw[hK _ _ #[ps,_,_,_,rfl,x2,g2,I2.row]]
 .rintro env S1 ⟨ps,x2,x3,x4,rfl,x1,g1,I⟩
  room;rw[ae,cP] at I;rwa[q m ps S1 x1 g1 I (pR I.l (dS λz=>?_))];let#[i',c,a1,a2,a3,_]:=rc ps.length (aK I.z) z;erw[cC _ (I.r i' c _ a2 (.inl ∅) a3)]
def qo(k:Nat)(o:Option Nat):mi (uN o) (aU k)=decide (o=ξ k):=by
 cases o with
 |none=>rfl
 |some a=>
  show((a:Int)== (k:Int))=_
  rw[cJ,beq_iff_eq,decide_eq_true_iff,jd]
  erw[Int.ofNat_inj]
def Lz(k:Nat)(told:List (Option Nat)):((told.map uN).any λy=>mi y (aU k))=decide (ξ k∈told):=by
 rw[cJ,iW,decide_eq_true_iff]
 constructor
 .rintro⟨u,m,e⟩
  let#[o,mo,rfl]:=bx.mp m;rw[qo,decide_eq_true_iff] at e;erw[e▸mo]
 .intro m
  exact#[aU k,bx.mpr #[_,m,rfl],(qo k (ξ k)).trans (#v[])]
def LA{k:Nat}{told:List (Option Nat)}(z:ξ k∈told):∃j,told[j]?=ξ (ξ k)/\(told.map uN)[j]?=ξ (aU k)/\mi (aU k) (aU k)=ζ/\(∀(i:Nat)(z':U),i<j->(told.map uN)[i]?=ξ z'->mi z' (aU k)=ϑ)/\∀i,told[i]?=ξ (ξ k)->j<=i:=by
 have hl:=bj z;have lo:∀i,told[i]?=ξ (ξ k)->told.idxOf (ξ k)<=i:=λi eo=>by
  rwa[dS λhi=>?_]
  have:=Cz (p:=(·==ξ k)) (xs:=told) (i:=i) hi;rw[(ab.mp eo).2] at this;simp at this
 have ej:told[told.idxOf (ξ k)]?=ξ (ξ k):=by rw[aa hl,cF hl]
 refine#[told.idxOf (ξ k),ej,by rw[ar,ej];rfl,(qo k (ξ k)).trans (#v[]),λi z' hi e=>?_,lo];let#[o,eo,rfl]:=dW e;rw[qo,decide_eq_false_iff_not]
 rintro rfl;erw[absurd (lo i eo) ∅]
def yR(told:List (Option Nat)):(told.map uN).all flat=ζ:=by
 rw[bK]
 rintro u m;let#[o,_,rfl]:=bx.mp m;cases o<;>rfl
abbrev P2:Spec:=λus S Q=>∃(T m k:Nat)(told:List (Option Nat))(ls:List Nat)(go:Nat->Nat->Option Nat)(ps:List (Nat×List Nat)),us=[.loc T,.loc m,aU k]/\HU S T told ls go/\S[m]?=ξ (.dX (tD ps))/\wU go told.length told.length [] ps/\ps.length=told.length/\(ξ k∉told->Q .b7 S)/\∀(j:Nat)(w:List Nat),told[j]?=ξ (ξ k)->(∀i,told[i]?=ξ (ξ k)->j<=i)->ps[j]?=ξ (j,w)->Q (.str w) S
def Ub(Γ:cb):Keeps Γ si 0 P2:=by
 rintro us S Q ⟨T,m,k,told,ls,go,ps,rfl,h,g,I,pl,q1,q2⟩;let#[k',R,hT,_]:=h.o;unfold si;room;rw[Ln hT]
 room;refine#[#[rfl,yR told],?_];rw[Lz]
 by_cases z:ξ k∈told
 .rw[decide_eq_true z]
  dsimp[bG,av,if_false];room;rw[Ln hT]
  room;let#[j,ej,e1,e2,e3,e4]:=LA z;let#[w,ew]:=I.at_ (j:=j) (%[pl|aK ej]);refine#[#[rfl,yR told],j,_,e1,e2,e3,?_];rw[g,jq,show U.int (j:Nat)=aU j from rfl,FH,I.look ew]
  exact#[rfl,q2 j w ej e4 ew]
 .rw[decide_eq_false z]
  dsimp[bU,if_true];room;erw[q1 z]
def LB(e:fst told go w=ξ k):∃j,Gb go w=ξ j/\told[j]?=ξ (ξ k):=by
 let#[j,ej,e]:=ax.mp e;rw[aC] at e;cases z:told[j]? with
 |none=>rw[z] at e;cases e
 |some o=>rw[z] at e;exact#[j,ej,z.trans (congrArg ξ e)]
abbrev Non(ts:List Tr)(k:Nat):Prop:=∀w,(∀c∈w,c∈SG)->¬Ek ts w (ξ k)
structure Smp(ts:List Tr)(k:Nat)(w:List Nat):Prop where
 s:∀c∈w,c∈SG
 f:Ek ts w (ξ k)
 l:w.length<=4000
 m:∀w',(∀c∈w',c∈SG)->Ek ts w' (ξ k)->¬Ll w' w
abbrev uS(o:Option (List Nat)):U:=match o with
 |none=>.b7
 |some w=>.str w
abbrev L8(ts:List Tr)(k:Nat):Option (List Nat)->Prop
 |none=>Non ts k
 |some w=>Smp ts k w
abbrev LC:Spec:=λus S Q=>∃n xs ts,us=[.loc n]/\S[n]?=ξ (.lst (xs.map .str))/\W6 ts xs/\oG ts/\eJ ts<=10/\(∀t∈ts,∀l∈nA t,∀c∈l,c∈SG)/\∀(os:List (Option (List Nat)))m S',Ext S S'->S'[m]?=ξ (.lst (os.map uS))->os.length=ts.length->(∀(k:Nat)o,os[k]?=ξ o->L8 ts k o)->Q (.loc m) S'
def XW(Γ:cb)(h1:Γ "table_of"=Ua)(h2:Γ "first_texts"=OY)(h3:Γ "sample"=P2):Keeps Γ qd 2 LC:=by
 rintro us S Q ⟨n,xs,ts,rfl,gn,hR,hT,hs,hS,q⟩;have tl:=hT.len;unfold qd;room;rwa[ca h1 #[n,xs,ts,rfl,gn,hR,hT,hs,λT told ls go S1 tb t0 tells x1 _ mn=>?_]];room;rwa[ca h2 #[T,told,ls,go,rfl,tb,t0,mn hS,λm ps S2 x2 g2 I pl=>?_]];unfold pSs;room;have gn2:=(x1.trans x2).get gn;rw[j8 gn2,aT,ae]
 have xl:=hR.1;refine#[∅,?_];refine#[∅,∅,?_];have tb2:=tb.ext x2;refine d8 _ (λi acc S3=>S3=S2/\∃os:List (Option (List Nat)),acc=os.map uS/\os.length=i/\∀(k:Nat)o,os[k]?=ξ o->L8 ts k o) (λi acc S3 hi h9=>by let#[_,os,e,l,_]:=h9;exact#[trivial,by rw[e,ae,l];rw[ae,cP] at hi;omega]) (λi u acc S3 k hu hi hk=>?_) (λacc S3 h=>?_) #[rfl,[],rfl,rfl,λk o e=>by cases e]
 .let#[rfl,os,rfl,al,a1]:=hi
  let#[rfl,il]:=jO hu;have push:∀o,L8 ts i o->k (os.map uS++[uS o]) S3:=λo ho=>hk _ _ #[rfl,os++[o],by rw[aF];rfl,by rw[aq,al];rfl,λk' o' e=>(mJ e).elim (a1 k' o') λz=>by let#[rfl,rfl]:=z;rw[al];erw[ho]]
  rw[if_pos rfl]
  rwa[ca h3 #[T,m,i,told,ls,go,ps,rfl,tb2,g2,I,pl,λz=>push ψ λw hw f=>?_,λj w ej lo ew=>push (ξ w) ?_]]
  .let#[j,_,e]:=LB (AD (tells w hw) f)
   erw[z (ag e)]
  .let#[t1,t2,t3]:=I.t _ (ag ew)
   have sz:=tb.sz;have jl:=aK ej;have ef:fst told go w=ξ i:=by
    unfold fst;rw[t1]
    show told.getD j ψ=_
    rw[aC,ej];rfl
   refine#[t2,by rw[<-ef];erw[tells w t2],by have:w.length<=j:=t3;omega,λw' hw' f z=>?_];let#[j',e1,e2]:=LB (AD (tells w' hw') f);let#[v,ev]:=I.at_ (j:=j') (%[pl|aK e2]);rwa[Ly I tb.cl t0 pl _ w' j' v rfl hw' e1 ev ?_];rcases tq (lo j' e2) with y|y
   .have:=iY.mp I.m j j' (aK ew) (aK ev) y
    rw[(ab.mp ew).2,(ab.mp ev).2] at this;erw[z.trans this]
   .subst y
    rw[ew] at ev;cases ev;erw[z]
 .let#[rfl,os,rfl,al,a1]:=h
  rw[ae,cP] at al;erw[q os _ _ ((x1.trans x2).trans (Ext.app _)) (#v[]) ∅ a1]
abbrev Eo(os:List (Option (List Nat)))(n:Nat):List Nat:=(bO n).filter λk=>decide (os[k]?=ξ ψ)
def sS(os:List (Option (List Nat)))(n:Nat):Eo os (n+1)=if os[n]?=ξ ψ then Eo os n++[n] else Eo os n:=by
 unfold Eo;rw[xf,sY]
 by_cases h:os[n]?=ξ ψ
 .rw[if_pos h];simp[h]
 .rw[if_neg h];simp[h]
def AG(os:List (Option (List Nat)))(n:Nat):(Eo os n).length<=n:=by
 have:=pO (λk=>decide (os[k]?=ξ ψ)) (bO n);unfold Eo;simpa using this
abbrev OZ:Spec:=λus S Q=>∃n xs ts,us=[.loc n]/\S[n]?=ξ (.lst (xs.map .str))/\W6 ts xs/\oG ts/\eJ ts<=10/\(∀t∈ts,∀l∈nA t,∀c∈l,c∈SG)/\∀(os:List (Option (List Nat)))m S',Ext S S'->os.length=ts.length->(∀(k:Nat)o,os[k]?=ξ o->L8 ts k o)->S'[m]?=ξ (.lst ((Eo os ts.length).map aU))->Q (.loc m) S'
def XX(Γ:cb)(h1:Γ "samples"=LC):Keeps Γ sf 0 OZ:=by
 rintro us S Q ⟨n,xs,ts,rfl,gn,hR,hT,hs,hS,q⟩;have tl:=hT.len;unfold sf;room;rwa[ca h1 #[n,xs,ts,rfl,gn,hR,hT,hs,hS,λos m S1 x1 g1 vl v1=>?_]];room;rw[g1,ay]
 rwa[d8 _ (λi acc S3=>S3=S1/\acc=(Eo os i).map aU) (λi acc S3 hi h9=>?_) (λi u acc S3 k hu hi hk=>?_) (λacc S3 h=>?_) #[rfl,rfl]]
 .let#[rfl,rfl]:=h9
  rw[gI,ae] at hi;have:=AG os i;exact#[g1,by rw[ae];omega]
 .let#[rfl,rfl]:=hi
  rw[dY,ar] at hu;let#[v,ev,rfl]:=au.mp hu;let#[o,eo,rfl]:=au.mp ev;show if mj (uS o)=ζ then _ else _
  cases o with
  |none=>
   rw[if_pos (show mj (uS ψ)=ζ from rfl)]
   erw[hk _ _ #[rfl,by rw[sS,if_pos eo,aF];rfl]]
  |some w=>
   rw[if_neg (show ¬mj (uS (ξ w))=ζ from λz=>by cases z)]
   erw[hk _ _ #[rfl,by rw[sS,if_neg (by rw[eo];exact λz=>by cases z)]]]
 .let#[rfl,rfl]:=h
  rw[gI,ae,vl]
  erw[q os _ _ (x1.trans (Ext.app _)) vl v1 (#v[])]
open PL.CO
structure O0(ts:List Tr)(w:List Nat)(Xs:List (List U)):Prop where
 l:Xs.length=ts.length
 r:∀(i:Nat)t X,ts[i]?=ξ t->Xs[i]?=ξ X->L5 t (hs t w) X
abbrev uX(Xs:List (List U)):U:=.tup (Xs.map .tup)
abbrev Uc:Spec:=λus S Q=>∃ts w c Xs,us=[uX Xs,.str [c]]/\oG ts/\O0 ts w Xs/\∀Ys S',O0 ts (w++[c]) Ys->Ext S S'->Q (uX Ys) S'
def O0.at_{ts:List Tr}{w:List Nat}{Xs:List (List U)}(h:O0 ts w Xs){i:Nat}{X:List U}(e:Xs[i]?=ξ X):∃t,ts[i]?=ξ t/\L5 t (hs t w) X:=by
 have:=aK e;rw[h.l] at this;exact#[_,aa this,h.r i _ X (aa this) e]
def XY(Γ:cb)(h1:Γ "_law_rests"=Th):Keeps Γ lB 0 Uc:=by
 rintro us S Q ⟨ts,w,c,Xs,rfl,hT,hX,q⟩;have tl:=hT.len;have xl:=hX.l;unfold lB uX;room;refine#[by rw[ae];omega,?_];refine d8 _ (λi acc S1=>Ext S S1/\∃Ys:List (List U),acc=Ys.map .tup/\Ys.length=i/\∀(j:Nat)t Y,ts[j]?=ξ t->Ys[j]?=ξ Y->L5 t (hs t (w++[c])) Y) (λi acc S3 hi h9=>by let#[_,Ys,e,l,_]:=h9;exact#[trivial,by rw[e,ae,l];rw[ae] at hi;omega]) (λi u acc S1 k hu hi hk=>?_) (λacc S1 h=>?_) #[.refl,[],rfl,rfl,λj t Y _ e=>by cases e]
 .let#[x1,Ys,rfl,yl,a1]:=hi
  let#[X,eX,rfl]:=dW hu;let#[t,et,rp]:=hX.at_ eX;let#[n0,pl,n1,sz,dt]:=Ao hT (ag et);have Xl:=ve pl rp;rw[if_pos rfl]
  rwa[ca h1 #[.tup X,c,X,t,_,n0,rfl,.inr rfl,rp,pl,n1,dt,sz,∅,λm Y S2 x2 g2 r2=>?_]];room;rw[g2,ay]
  rwa[hk _ _ #[x1.trans x2,Ys++[Y],by rw[aF];rfl,by rw[aq,yl];rfl,λj t' Y' e1 e2=>(mJ e2).elim (a1 j t' Y' e1) λz=>?_]];let#[rfl,rfl]:=z;rw[yl,et] at e1;cases e1;rw[qh];erw[r2]
 .let#[x1,Ys,rfl,yl,a1]:=h
  rw[bp,ay]
  erw[q Ys _ #[by rw[yl,ae,xl],a1] (x1.trans (Ext.app _))]
abbrev FsL(ts:List Tr)(w:List Nat)(i:Nat):List Nat->Prop
 |[]=>∀(j:Nat)t,j<i->ts[j]?=ξ t->¬En t (hs t w)
 |k::_=>Ek ts w (ξ k)
abbrev XZ:Spec:=λus S Q=>∃ts w Xs,us=[uX Xs]/\oG ts/\O0 ts w Xs/\∀o S',Ek ts w o->Ext S S'->Q (uN o) S'
def X0(Γ:cb)(h1:Γ "_law_ends"=Ti):Keeps Γ lC 1 XZ:=by
 rintro us S Q ⟨ts,w,Xs,rfl,hT,hX,q⟩;have tl:=hT.len;have xl:=hX.l;unfold lC uX;room;rw[ae]
 refine#[∅,∅,∅,?_];refine d8 _ (λi acc S1=>Ext S S1/\∃G:List Nat,acc=G.map aU/\G.length<=i/\FsL ts w i G) (λi acc S3 hi h9=>by let#[_,G,e,l,_]:=h9;rw[ae,cP] at hi;exact#[trivial,by rw[e,ae];omega]) (λi u acc S1 k hu hi hk=>?_) (λacc S1 h=>?_) #[.refl,[],rfl,ao _,λj t z=>absurd z (de _)]
 .let#[x1,G,rfl,gl,a1]:=hi
  let#[rfl,il]:=jO hu;have eX:=aa il;generalize Xs[i]=X at eX;let#[t,et,rp]:=hX.at_ eX;let#[n0,pl,n1,sz,dt]:=Ao hT (ag et);have Xl:=ve pl rp;room;refine#[by rw[ae];omega,?_];rw[gc,ar,eX,fg,aT]
  rwa[ca h1 #[.tup X,X,t,_,rfl,.inr rfl,rp,dt,sz,∅,λb S2 hb x2=>?_]];room;cases b with
  |true=>
   rw[if_pos rfl]
   rwa[hk _ _ #[x1.trans x2,G++[i],by rw[aF];rfl,%[aq|dg gl],?_]];cases G with
   |nil=>exact#[#[t,et,hb.mp rfl],a1]
   |cons k r=>erw[a1]
  |false=>
   rw[if_neg ⋯]
   rwa[hk _ _ #[x1.trans x2,G,rfl,∅,?_]];cases G with
   |nil=>
    intro j t' hj e z;by_cases y:j=i
    .subst y
     rw[et] at e;cases e;erw[absurd (hb.mpr z) ⋯]
    .erw[a1 j t' ∅ e z]
   |cons k r=>erw[a1]
 .let#[x1,G,rfl,gl,a1]:=h
  have x2:Ext S (S1++[SO.lst (G.map aU)]):=x1.trans (Ext.app _);rw[ae,cP] at a1;have g2:(S1++[SO.lst (G.map aU)])[S1.length]?=ξ (.lst (G.map aU)):=bp;room;rw[Pl g2,aT]
  cases G with
  |nil=>
   rw[if_neg ⋯]
   erw[q ψ _ (λi t e=>a1 i t (by have:=aK e;omega) e) x2]
  |cons k r=>
   rw[if_pos (by rfl)]
   rw[g2,ay]
   rw[show(0:Int)=((0:Nat):Int) from rfl,gc]
   erw[q (ξ k) _ a1 x2]
abbrev X1:Spec:=λus S Q=>∃i,us=[.int i]/\Q (.bl ζ) S
def X2(Γ:cb):Keeps Γ lA 0 X1:=by
 rintro us S Q ⟨i,rfl,q⟩;unfold lA;room;erw[q]
abbrev O1:Spec:=λus S Q=>∃n,∃ks:List Nat,us=[.loc n]/\S[n]?=ξ (.lst (ks.map aU))/\ks.length<=4/\∀S',Ext S S'->Q (.bl ζ) S'
def X3(Γ:cb)(h1:Γ "_law_whole"=X1):Keeps Γ kH 0 O1:=by
 rintro us S Q ⟨n,ks,rfl,g,hl,q⟩;unfold kH;room;rw[g,ay]
 room;refine d8 _ (λi acc S1=>S1=S/\acc=(l7 i ζ).map .bl) (λi acc S3 hi h9=>by let#[rfl,rfl]:=h9;rw[ae] at hi;exact#[g,by rw[ae,CW];omega]) (λi u acc S1 k hu hi hk=>?_) (λacc S1 h=>?_) #[rfl,rfl]
 .let#[rfl,rfl]:=hi
  let#[j,_,rfl]:=dW hu;rw[if_pos rfl]
  erw[ca h1 #[_,rfl,hk _ _ #[rfl,by rw[List.replicate_succ',aF];rfl]]]
 .let#[rfl,rfl]:=h
  refine#[_,bp,?_];rw[show(l7 (ks.map aU).length ζ).all id=ζ by simp]
  erw[q _ (Ext.app _)]
abbrev wt(l:Nat):Nat:=(4^(5-l)-1)/3
def aa6{l:Nat}(h:l<4):wt l=1+4*wt (l+1):=(by decide:∀l,l<4->wt l=1+4*wt (l+1)) l h
def X4{l:Nat}(h:l<=4):1<=wt l:=(by decide:∀l,l<5->1<=wt l) l (LY h)
abbrev UQ(ls:List (List Nat×List (List U))):Nat:=(ls.map λp=>wt p.1.length).sum
abbrev pU(p:List Nat×List (List U)):U:=.tup [.str p.1,uX p.2]
abbrev X5(ts:List Tr)(p:List Nat×List (List U)):Prop:=O0 ts p.1 p.2/\p.1.length<=4/\∀c∈p.1,c∈SG
def FK:∀{ls:List (List Nat×List (List U))},(∀p∈ls,X5 ts p)->ls.length<=UQ ls
 |[],_=>ao _
 |p::r,h=>by
  have a:=FK λq m=>h q (az _ m)
  have b:=X4 (h p (aO ..)).2.1;show r.length+1<=wt p.1.length+UQ r;omega
def FL:∀{Y:List U},(∀y∈Y,xg y=ζ/\dep y<=d)->kK Y=ζ/\n8 Y<=d
 |[],_=>#[rfl,bI _]
 |y::Y,h=>by
  have a:=h y (aO ..);have b:=FL λz m=>h z (az _ m)
  exact#[by show(xg y&&kK Y)=ζ;rw[a.1,b.1];rfl,Nat.max_le.mpr #[a.2,b.2]]
def O0.d(hT:oG ts)(h:O0 ts w Xs):xg (uX Xs)=ζ/\dep (uX Xs)<=100:=by
 have:kK (Xs.map U.tup)=ζ/\n8 (Xs.map U.tup)<=9:=FL λu m=>by
  let#[X,mX,rfl]:=bx.mp m;let#[i,e]:=bq mX;let#[t,et,rp]:=h.at_ e;let#[n0,pl,n1,sz,dt]:=Ao hT (ag et);have:kK X=ζ/\n8 X<=8:=FL λy my=>by
   let#[p,_,rfl]:=(rp.1 y).mp my;exact#[Aj (ct t p),dg (wG (d:=3) (ct t p) λx m=>uK ((Ak (p:=p) dt sz).2.1 x m))]
  exact#[this.1,dg this.2]
 exact#[this.1,aI (dg this.2) ⋯]
structure Ep(ts:List Tr)(S0 S:bH)(A B M z:Nat)(ls:List (List Nat×List (List U)))(Z:List U):Prop where
 x:Ext S0 S
 a:S[A]?=ξ (.lst (ls.map pU))
 b:S[B]?=ξ (.lst Z)
 p:∀p∈ls,X5 ts p
 d:∀u∈Z,xg u=ζ/\dep u<=100
 m:UQ ls<=M
 z:Z.length<=z
section
variable{ts:List Tr}{S0 S:bH}{A B M z:Nat}{ls:List (List Nat×List (List U))}{Z:List U}
def Ep.ext(h:Ep ts S0 S A B M z ls Z)(x:Ext S S'):Ep ts S0 S' A B M z ls Z:=#[h.x.trans x,x.get h.a,x.get h.b,h.p,h.d,h.m,h.z]
def Ep.le(h:Ep ts S0 S A B M z ls Z)(m:M<=M')(n:z<=z'):Ep ts S0 S A B M' z' ls Z:=#[h.x,h.a,h.b,h.p,h.d,aI h.m m,aI h.z n]
def Ep.put(h:Ep ts S0 S A B M z ls Z)(hA:S0.length<=A)(hB:S0.length<=B)(ne:A≠B)(hT:oG ts)(k:X5 ts (w,Ys)):
  Ep ts S0 ((S.set B (.lst (Z++[uX Ys]))).set A (.lst (ls.map pU++[.tup [.str w,uX Ys]]))) A B (M+wt w.length) (z+1) (ls++[(w,Ys)]) (Z++[uX Ys]):=by
 have ga:(S.set B (.lst (Z++[uX Ys])))[A]?=ξ (.lst (ls.map pU)):=%[aj (cM ne)|h.a]
 refine#[(h.x.st hB).st hA,by rw[gs ga,aF];rfl,%[aj ne|gs h.b],λp m=>?_,λu m=>?_,?_,?_]
 .rcases aJ.mp m with m|m
  .erw[h.p p m]
  .rw[aX.mp m];erw[k]
 .rcases aJ.mp m with m|m
  .erw[h.d u m]
  .rw[aX.mp m];erw[k.1.d hT]
 .have:=h.m
  unfold UQ at this ⊢;rw[aF,xc]
  show _+(wt w.length+0)<=_
  omega
 .rw[aq];erw[dg h.z]
def X6(Γ:cb)(h1:Γ "_law_steps"=Uc)(hT:oG ts)(hA:S0.length<=A)(hB:S0.length<=B)(ne:A≠B)(h:Ep ts S0 S A B M z ls Z)(hM:M<=1365)(hz:z<=1369)(hp:X5 ts p)(pl:p.1.length<4)(hc:c∈SG)
  (q:∀S' ls' Z' y7,Ep ts S0 S' A B (M+wt (p.1.length+1)) (z+1) ls' Z'->K [y0,y1,y2,ξ (.loc A),ξ (.loc B),ξ (pU p),ξ (.str [c]),y7] S'):
  Rest Γ pQi #[K,Q] [y0,y1,y2,ξ (.loc A),ξ (.loc B),ξ (pU p),ξ (.str [c]),y7] S:=by
 unfold pQi;rw[show pU p=.tup [.str p.1,uX p.2] from rfl] at q ⊢;room;rw[lX,aT]
 refine#[#v[],ca h1 #[ts,p.1,c,p.2,rfl,hT,hp.1,λYs S1 hY x1=>?_]];have h':=h.ext x1;have kk:X5 ts (p.1++[c],Ys):=#[hY,by show(p.1++[c]).length<=4;rw[aq];erw[pl],λd m=>(aJ.mp m).elim (hp.2.2 d) λm=>%[aX.mp m|hc]]
 have dz:=FL h'.d;have du:=kk.1.d hT;have zl:=h.z;have ll:=FK h.p;have ml:=h.m;have put:=h'.put hA hB ne hT kk;have ga:(S1.set B (.lst (Z++[uX Ys])))[A]?=ξ (.lst (ls.map pU)):=%[aj (cM ne)|h'.a]
 have hb:=h'.b;have eu:uX Ys=.tup (Ys.map .tup):=rfl;rw[eu] at put du ga ⊢;room;rw[hb,ay]
 refine#[#[du.1,dz],?_];generalize (!(Z.any λy=>mi y (.tup (Ys.map .tup))))=b;cases b with
 |false=>
  rw[if_neg ⋯]
  room;erw[q S1 ls Z _ (h'.le (fZ _ _) (iR _))]
 |true=>
  rw[if_pos rfl]
  room;rw[hb,ay]
  refine#[trivial,∅,?_];room;rw[ga,ay]
  refine#[trivial,?_];rw[pD,aT,DN]
  refine#[#v[],by rw[aS,dB];omega,#v[],?_];rw[ga,ay]
  refine#[by rw[ae];omega,?_];room;rwa[q _ _ _ _ (put.le ?_ (ao _))];rw[aq];erw[ao _]
end
abbrev LD:Spec:=λus S Q=>∃L k ts,us=[.loc L,aU k,.int 4]/\S[L]?=ξ (.lst (ts.map enc))/\oG ts/\∀o S',(∀w,o=ξ w->(∀c∈w,c∈SG)/\w.length<=4/\Ek ts w (ξ k))->Ext S S'->Q (uS o) S'
def Ud(g:S[L]?=ξ (.lst (ts.map enc)))(hT:oG ts)(q:∀n S',Ext S S'->S'[n]?=ξ (.lst ((ts.map λt=>[cU [t]]).map .tup))->k (.loc n) S'):WE Γ pQc (ξ (.loc L)::ys) S k:=by
 have tl:=hT.len;unfold pQc;room;rw[g,ay]
 rwa[jc (S:=S) _ ((ts.map λt=>[cU [t]]).map .tup) (#v[]) (by rw[ae];omega) (λS' x=>x.get g) (λu S' k h=>h) (λj u v hu hv S' k x hk=>?_) λS3 x3=>q _ _ (x3.trans (Ext.app _)) bp]
 let#[t,e,rfl]:=dW hu;rw[ar,ar,e] at hv;have hv:=aG hv;subst hv;exact#[#v[],#v[],hk S' .refl]
def Ue:iT .eq (uN o) (aU k) S q=q (decide (o=ξ k)):=by
 cases o with
 |none=>erw[ew rfl rfl rfl (bI _) (qo k ψ)]
 |some a=>erw[ew rfl rfl rfl (bI _) (qo k (ξ a))]
section
variable{n a b m j x:Nat}
def ar1(h:a+m<=n)(n1:n<=341)(ws:a=1+4*b)(jm:x<=4*b):n-a+x<=1365:=∅
def ar2(w:1<=a)(h:a+m<=n):n-1<n:=∅
def ar3(h:a+m<=n)(ws:a=1+4*b):n-a+4*b<=n-1:=∅
def ar4(w:1<=a)(h:a+m<=n)(n1:n<=341):1365-4*n+4<=1365-4*(n-1):=∅
end
def X7(Γ:cb)(h1:Γ "_law_steps"=Uc)(h2:Γ "_law_tells"=XZ):Keeps Γ jb 5 LD:=by
 rintro us S Q ⟨L,k,ts,rfl,g,hT,q⟩;unfold jb;rwa[Rest.go ?_];rw[oa,Jt]
 room;rwa[Ud g hT λn S1 x1 g1=>?_]
 room;rw[g1,ay]
 have r0:O0 ts [] (ts.map λt=>[cU [t]]):=#[ae _,λi t X e1 e2=>by rw[ar,e1] at e2;cases e2;erw[yK t]]
 generalize (ts.map λt=>[cU [t]])=Xs at g1 r0;refine#[#v[],#v[],?_];have y2:Ext S1 (S1++[SO.lst [pU ([],Xs)]]):=Ext.app _;have a2:(S1++[SO.lst [pU ([],Xs)]])[S1.length]?=ξ (.lst ([([],Xs)].map pU)):=bp;have hA:=x1.1;have e2:[U.tup [U.str [],U.tup (Xs.map U.tup)]]=[([],Xs)].map pU:=rfl;rw[e2]
 have eS:S1++[SO.lst ([([],Xs)].map pU)]=S1++[SO.lst [pU ([],Xs)]]:=rfl;rw[eS]
 generalize hS2:S1++[SO.lst [pU ([],Xs)]]=S2 at a2 y2;have l2:S2.length=S1.length+1:=by rw[<-hS2,aq];rfl
 room;rw[a2,ay,aw,pD,aT]
 unfold pU;room;rw[lX,aT]
 refine#[#v[],#v[],?_];have I0:Ep ts S (S2++[SO.lst [uX Xs]]) S1.length S2.length 341 1 [([],Xs)] [uX Xs]:=#[(x1.trans y2).trans (Ext.app _),(Ext.app _).get a2,bp,λp m=>by rw[aX.mp m];exact#[r0,bI _,λc m=>by cases m],λu m=>%[aX.mp m|r0.d hT],by unfold UQ;rw[aw,nM];exact(by decide:wt 0+0<=341),ao _]
 generalize hB:S2.length=B at I0 l2;generalize S1.length=A at I0 l2 hA;generalize S2++[SO.lst [uX Xs]]=S3 at I0;rwa[Rest.go ?_];rw[oa,Pm]
 refine#[342,oE (λn env S4=>∃ls Z y5 y6 y7,env=[ξ (.loc L),ξ (aU k),ξ (.int 4),ξ (.loc A),ξ (.loc B),y5,y6,y7]/\Ep ts S S4 A B n (1365-4*n) ls Z/\n<=341) ?_ _ 341 _ _ (cB _) #[_,_,ψ,ψ,ψ,rfl,I0.le (ao _) ∅,ao _]];rintro n env S4 K ⟨ls,Z,y5,y6,y7,rfl,I,n1⟩ hK;have hB':S.length<=B:=∅
 have ne:A≠B:=∅
 room;rw[Pl I.a,aT]
 cases ls with
 |nil=>
  rw[if_neg ⋯]
  room;erw[q ψ _ (λw e=>by cases e) I.x]
 |cons p r=>
  rw[if_pos (by rfl)]
  have hp:=I.p p (aO ..);have hm:wt p.1.length+UQ r<=n:=I.m;have ga:=I.a;have J:Ep ts S (S4.set A (.lst (r.map pU))) A B (n-wt p.1.length) (1365-4*n) r Z:=#[I.x.st hA,gs ga,%[aj ne|I.b],λp m=>I.p p (az _ m),I.d,Nat.le_sub_of_add_le' hm,I.z]
  rw[aw] at ga;unfold pQw;room;rw[ga,ay,ay]
  refine#[trivial,_,_,rfl,?_];generalize S4.set A (.lst (r.map pU))=S5 at J;have ep:pU p=.tup [.str p.1,uX p.2]:=rfl;rw[ep]
  room;rw[lX,aT]
  refine#[#v[],ca h2 #[ts,p.1,p.2,rfl,hT,hp.1,λo S6 ho x6=>?_]];have J6:=J.ext x6;show iT .eq (uN o) (aU k) S6 _;rw[Ue]
  by_cases e:o=ξ k
  .rw[decide_eq_true e,if_pos rfl]
   room;rw[pD,aT]
   exact#[#v[],q (ξ p.1) _ (λw ew=>by cases ew;exact#[hp.2.2,hp.2.1,e▸ho]) J6.x]
  .rw[decide_eq_false e,if_neg ⋯]
   room;rw[pD,aT,Pk,aT]
   have l5:=hp.2.1;refine#[#v[],aI l5 ⋯,?_];have w1:=X4 hp.2.1;by_cases l4:p.1.length<4
   .rw[if_pos (decide_eq_true (show(p.1.length:Int)<4 from uL.mpr l4))]
    have ws:=aa6 l4;rwa[Rest.go ?_];rw[oa,E2,Jr,w_lit,ZU]
    rwa[df (λj env S7=>∃ls Z y6 y7,env=[ξ (.loc L),ξ (aU k),ξ (.int 4),ξ (.loc A),ξ (.loc B),ξ (pU p),y6,y7]/\Ep ts S S7 A B (n-wt p.1.length+j*wt (p.1.length+1)) (1365-4*n+j) ls Z/\j<=4) (λ_ _ _ _=>trivial) _ ?_ ?_ #[r,Z,y6,y7,rfl,J6.le (fZ _ _) (ao _),bI _]]
    .rintro j u env S7 K' hu ⟨ls,Z,y6,y7,rfl,I7,j4⟩ hK'
     let#[c,hc,rfl]:=dW hu;have jl:j<4:=aK hc;have cm:c∈SG:=(by decide:∀c∈[48,97,98,99],c∈SG) c (ag hc);have jm:j*wt (p.1.length+1)<=4*wt (p.1.length+1):=Nat.mul_le_mul_right _ j4;rwa[X6 Γ h1 hT hA hB' ne I7 (ar1 hm n1 ws jm) (Nat.add_le_add (zg _ _) j4) hp l4 cm λS8 ls' Z' y7 I8=>hK' _ _ #[ls',Z',_,_,rfl,I8.le ?_ (ao _),jl]]
     rw[Nat.succ_mul,Nat.add_assoc];erw[ao _]
    .rintro env S7 ⟨ls,Z,y6,y7,rfl,I7,_⟩
     room;erw[hK (n-1) _ _ (ar2 w1 hm) #[ls,Z,_,_,_,rfl,I7.le (ar3 hm ws) (ar4 w1 hm n1),aI (zg _ _) n1]]
   .rw[if_neg (show ¬decide ((p.1.length:Int)<4)=ζ from λz=>l4 (uL.mp (of_decide_eq_true z)))]
    room;erw[hK (n-1) _ _ (ar2 w1 hm) #[r,Z,_,_,_,rfl,J6.le (Nat.sub_le_sub_left w1 n) (aI (fZ _ 4) (ar4 w1 hm n1)),aI (zg _ _) n1]]
structure RuK(S:bH)(L:Nat)(us:List Tr):Prop where
 g:S[L]?=ξ (.lst (us.map enc))
 t:oG us
 v:∀t∈us,oH t
 z:eJ us<=10
def X8:∀l∈CL,∀c∈l,c∈SG:=by decide +kernel
def P4{us:List Tr}(v:∀t∈us,oH t):∀t∈us,∀l∈nA t,∀c∈l,c∈SG:=λt m l ml=>X8 l (v t m l ml)
def LF:∀(l:List Tr)(b:Nat),(∀t∈l,size t<=b)->eJ l<=b*l.length
 |[],b,_=>bI _
 |t::l,b,h=>by
  have h1:=h t (#v[]);have h2:=LF l b λx m=>h x (az _ m)
  unfold eJ at h2 ⊢;rw[aw,nM,aS,Nat.mul_succ]
  omega
def Ug(len:l.length<=4)(nl:∀t∈l,null t=ϑ)(dp:∀t∈l,bP t<4)(sz:eJ l<=24)(v:∀t∈l,oH t):oG (ua 1 l)/\(∀t∈ua 1 l,oH t):=by
 let#[e1,e2,e3,e4]:=sP l 1;have el:(ua 1 l).length=l.length:=by have:=congrArg cD e1;simpa using this
 refine#[#[∅,e2,λt m=>?_,λt m=>?_,∅],λt m=>?_]
 .let#[t',m',h]:=e4 t m;rw[h.2.1];erw[nl t' m']
 .let#[t',m',h]:=e4 t m;rw[h.1];erw[dp t' m']
 .let#[t',m',h]:=e4 t m
  intro l hl;rw[h.2.2] at hl;erw[v t' m' l hl]
def LG(hT:oG ts)(hV:∀t∈ts,oH t):W6 ts (ts.map wr):=by
 refine#[by rw[ae],λj t y e e'=>?_];rw[ar,e] at e';cases e';have m:=ag e;exact#[by have:=(lR (hV t m) (hT.dp t m)).2.2;omega,[],ON (hV t m) (hT.dp t m)]
def Uh(h4:Γ "written"=CP (λt=>bP t<=3\/(xD t/\bP t<=3+1)) wr)(R:RuK S L us)(q:∀n S',Ext S S'->S'[n]?=ξ (.lst ((us.map wr).map .str))->k (.loc n) S'):WE Γ pKw (y0::ξ (.loc L)::ys) S k:=by
 have tl:=R.t.len;unfold pKw;room;rw[R.g,ay]
 rwa[d8 (us.map enc) (λi acc S3=>Ext S S3/\acc=((us.take i).map wr).map .str) (λi acc S3 hi h9=>#[h9.1.get R.g,by rw[h9.2,ae,ae,dD];omega]) (λi u acc S3 k hu hi hk=>?_) (λacc S3 h=>?_) #[.refl,rfl]]
 .let#[x3,rfl]:=hi
  let#[t,et,rfl]:=dW hu;have mt:=ag et;have d4:=R.t.dp t mt;rwa[ca h4 #[t,rfl,.inl ∅,R.v t mt,d4,λS4 x4=>hk _ _ #[x3.trans x4,?_]]];rw[ie,et,aF,aF];rfl
 .let#[x3,rfl]:=h
  rw[ae,bX]
  erw[q _ _ (x3.trans (Ext.app _)) (#v[])]
def Ui(h1:Γ "_law_mix"=u9.yE)(hl:ns.length<=63)(g:S[n]?=ξ (.lst (ts.map enc)))(l0:0<ts.length)(l3:ts.length<=3)(q:∀x L S',(x=ts.getD 0 (.one 0 [])\/x=.or (ts.getD 0 (.one 0 [])) (ts.getD (ts.length-1) (.one 0 [])))->Ext S S'->S'[L]?=ξ (.lst ((ts++[x]).map enc))->k (.loc L) S'):WE Γ pK4 (ξ (.uQ ns)::ξ (.loc n)::ys) S k:=by
 have e0:qV (ts.map enc) 0=ξ (enc (ts.getD 0 (.one 0 []))):=by
  rw[show(0:Int)=((0:Nat):Int) from rfl,gc,ar,aC,aa l0];rfl
 unfold pK4;room;have e1:qV (ts.map enc) (-1)=ξ (enc (ts.getD (ts.length-1) (.one 0 []))):=by
  have z:Ni (ts.map enc).length (-1)=ξ (ts.length-1):=by
   unfold Ni;rw[ae,if_neg ⋯,if_pos ∅]
   congr 1;omega
  unfold qV;rw[z,HL,ar,aC,aa ∅];rfl
 rw[g,ay,e0,aT,ay,e0,aT,ay,e1,aT]
 generalize ts.getD 0 (.one 0 [])=a at q;generalize ts.getD (ts.length-1) (.one 0 [])=b at q;refine#[#v[],#v[],#v[],ca h1 #[ns,_,rfl,∅,λm m0 m1=>#[∅,?_]]];show getL (S++[SO.lst [enc a,U.tup [U.str [111,114],U.tup [enc a,enc b]]]])[S.length]? _;rw[bp,ay]
 rwa[tZ (lF _ ∅) (by simp;erw[jG _ ∅]) λu hu=>#[#v[],?_]]
 rw[((Ext.app _).trans (Ext.app _)).get g,bp,ay,ay]
 refine#[by rw[ae];show _+1<=_;omega,?_];obtain⟨x,hx,rfl⟩:∃x,(x=a\/x=.or a b)/\u=enc x:=by
  rcases aR.mp hu with rfl|hu
  .exact#[a,.inl rfl,rfl]
  .rw[aX.mp hu];exact#[.or a b,.inr rfl,rfl]
 erw[q x _ _ hx (((Ext.app _).trans (Ext.app _)).trans (Ext.app _)) (by rw[bp,aF];rfl)]
def L8.dec(h:L8 ts k o)(h':L8 ts k o'):o=ψ↔o'=ψ:=by
 cases o with
 |none=>cases o' with
  |none=>erw[pe]
  |some w=>erw[absurd h'.f (h w h'.s)]
 |some w=>cases o' with
  |none=>erw[absurd h.f (h' w h.s)]
  |some v=>exact#[λz=>(by cases z),λz=>(by cases z)]
def Uj(l:os.length=ts.length)(l':os'.length=ts.length)(h:∀(k:Nat) o,os[k]?=ξ o->L8 ts k o)(h':∀(k:Nat) o,os'[k]?=ξ o->L8 ts k o):Eo os ts.length=Eo os' ts.length:=by
 unfold Eo;rwa[List.filter_congr λk m=>?_]
 have hk:=iJ.mp m;have e:=aa (l:=os) (i:=k) ∅;have e':=aa (l:=os') (i:=k) ∅;have:=(h k _ e).dec (h' k _ e');rw[e,e']
 dsimp[jd,this]
def Uk(gL:S[L]?=ξ (.lst (ts.map enc)))(gF:S[F]?=ξ (.lst (os.map uS)))(hT:oG ts)(ol:os.length=ts.length)(q:k (.loc S.length) (S++[.lst ((Eo os ts.length).map aU)])):WE Γ pQe (y0::ξ (.loc L)::y2::ξ (.loc F)::ys) S k:=by
 have tl:=hT.len;unfold pQe;room;rw[j8 gL,aT,ae]
 refine#[∅,∅,∅,?_];rwa[d8 _ (λi acc S3=>S3=S/\acc=(Eo os i).map aU) (λi acc S3 hi h9=>?_) (λi u acc S3 k hu hi hk=>?_) (λacc S3 h=>?_) #[rfl,rfl]]
 .let#[rfl,rfl]:=h9
  rw[ae,cP] at hi;have:=AG os i;exact#[trivial,by rw[ae];omega]
 .let#[rfl,rfl]:=hi
  let#[rfl,il]:=jO hu;have eo:=aa (l:=os) (i:=i) ∅;generalize os[i]=o at eo;room;rw[gF,ay,gc,ar,eo,fg,aT]
  show if mj (uS o)=ζ then _ else _
  cases o with
  |none=>
   rw[if_pos (show mj (uS ψ)=ζ from rfl)]
   erw[hk _ _ #[rfl,by rw[sS,if_pos eo,aF];rfl]]
  |some w=>
   rw[if_neg (show ¬mj (uS (ξ w))=ζ from λz=>by cases z)]
   erw[hk _ _ #[rfl,by rw[sS,if_neg (by rw[eo];exact λz=>by cases z)]]]
 .let#[rfl,rfl]:=h
  rw[ae,cP]
  erw[q]
def O2(Γ:cb)(h1:Γ "_law_shortest"=LD)(h2:Γ "_law_first"=Lu){S:bH}{L F i:Nat}{ts:List Tr}{os:List (Option (List Nat))}{y0 y2 y5 y6:Option U}{D:Ends}(gL:S[L]?=ξ (.lst (ts.map enc)))(gF:S[F]?=ξ (.lst (os.map uS)))(hT:oG ts)(hi:i<os.length)(so:∀(k:Nat) o,os[k]?=ξ o->L8 ts k o)
  (q:∀y5 S',Ext S S'->D.nx [y0,ξ (.loc L),y2,ξ (.loc F),ξ (aU i),y5,y6] S'):
  Rest Γ pQl D [y0,ξ (.loc L),y2,ξ (.loc F),ξ (aU i),y5,y6] S:=by
 unfold pQl;room;rwa[ca h1 #[L,i,ts,rfl,gL,hT,λo' S1 ho x1=>?_]];have eo:=aa hi;generalize os[i]=o at eo;have sm:=so i o eo;have gF1:=x1.get gF;have at_:qV (os.map uS) (i:Int)=ξ (uS o):=by rw[gc,ar,eo];rfl
 dsimp[gG,gH];unfold pQa;room;rw[gF1,ay,at_,aT]
 cases o with
 |none=>
  rw[if_pos (show mj (uS ψ)=ζ from rfl)]
  cases o' with
  |none=>
   room;erw[q _ _ x1]
  |some v=>erw[absurd (ho v rfl).2.2 (sm v (ho v rfl).1)]
 |some w=>
  rw[if_neg (show ¬mj (uS (ξ w))=ζ from λz=>by cases z)]
  have es:uS (ξ w)= .str w:=rfl;room;rw[gF1,ay,at_,aT,es,Z3]
  rw[if_neg ⋯,ay,at_,aT,es]
  rwa[ca h2 #[L,w,ts,rfl,x1.get gL,hT,by have:=sm.l;omega,λo S2 hf x2=>?_]];have:=AD hf sm.f;subst this;show iT .ne (uN (ξ i)) (uN (ξ i)) S2 _;rw[XO,if_neg ⋯]
  have xx:=x1.trans x2;have gF2:=x2.get gF1;cases o' with
  |none=>
   room;erw[q _ _ xx]
  |some v=>
   have wl:=sm.l;have vl:=(ho v rfl).2.1;have ev:uS (ξ v)= .str v:=rfl;rw[ev]
   room;rw[gF2,ay,at_,aT,es,Pk,aT,ay,at_,aT,es,if_pos (show(!mj (U.str v))=ζ from rfl)]
   refine#[∅,#v[],∅,#v[],_,_,_,_,rfl,rfl,?_];rw[decide_eq_false (show ¬((v.length:Int)<w.length\/((v.length:Int)=w.length/\v<w)) from λz=>sm.m v (ho v rfl).1 (ho v rfl).2.2 (z.imp (λz=>∅) λz=>#[∅,z.2]))]
   erw[q _ _ xx]
def FN(Γ:cb)(h3:Γ "_law_wholes"=O1)(h4:Γ "written"=CP (λt=>bP t<=3\/(xD t/\bP t<=3+1)) wr)(h5:Γ "samples"=LC)(h6:Γ "unused"=OZ)(h7:Γ "_law_shortest"=LD)(h8:Γ "_law_first"=Lu){S:bH}{L:Nat}{us:List Tr}{y0:Option U}{D:Ends}(R:RuK S L us)(q:∀S',D.rt (.bl ζ) S'):
  Rest Γ pQr D [y0,ξ (.loc L),ψ,ψ,ψ,ψ,ψ] S:=by
 have tl:=R.t.len;unfold pQr;rwa[Rest.go ?_];rw[oa,Jt]
 rwa[Uh h4 R λn S1 x1 g1=>?_]
 dsimp[gG,gH];room;rw[g1,ay]
 have y2:Ext S1 (S1++[SO.lst ((us.map wr).map U.str)]):=Ext.app _;rwa[ca h5 #[S1.length,us.map wr,us,rfl,bp,LG R.t R.v,R.t,R.z,P4 R.v,λos F S2 x2 gF ol so=>?_]];have x02:=x1.trans (y2.trans x2);have g2:=(y2.trans x2).get g1;have gL:=x02.get R.g;room;rw[gF,ay,j8 gF,j8 gL]
 dsimp[aT,ae];rw[ol]
 refine#[∅,∅,?_];rw[if_neg (#v[])]
 rwa[Rest.go ?_];rw[Js]
 rwa[Rest.go ?_];rw[oa,E2]
 room;rw[j8 gL,aT,ae]
 refine#[∅,∅,∅,?_];rwa[df (λi env S8=>∃y4 y5,env=[y0,ξ (.loc L),ξ (.loc n),ξ (.loc F),y4,y5,ψ]/\Ext S2 S8) (λ_ _ _ _=>trivial) _ ?_ ?_ #[ψ,ψ,rfl,.refl]]
 .rintro i u env S8 K8 hu ⟨y4,y5,rfl,x8⟩ hK
  let#[rfl,il]:=jO hu;erw[O2 Γ h7 h8 (x8.get gL) (x8.get gF) R.t (by rw[ol];exact il) so λy5 S9 x9=>hK _ _ #[_,y5,rfl,x8.trans x9]]
 .rintro env S8 ⟨y4,y5,rfl,x8⟩
  unfold pQt;room;rw[x8.get g2,ay]
  rwa[ca h6 #[S8.length,us.map wr,us,rfl,bp,LG R.t R.v,R.t,R.z,P4 R.v,λos' m S9 x9 ol' so' g9=>?_]];have x89:Ext S2 S9:=x8.trans ((Ext.app _).trans x9);rw[<-Uj ol ol' so so'] at g9;room;rwa[ca h3 #[m,_,rfl,g9,aI (AG _ _) tl,λS10 x10=>?_]];room;have xa:=x89.trans x10;rwa[Uk (xa.get gL) (xa.get gF) R.t ol ?_];have e9:∀l:List Nat,l.map aU=(l.map λk:Nat=>(k:Int)).map U.int:=λl=>by rw[bA];rfl
  refine#[m,S10.length,(Eo os us.length).map λk:Nat=>(k:Int),(Eo os us.length).map λk:Nat=>(k:Int),rfl,rfl,?_,?_,?_]
  .rw[<-e9];exact((x10.trans (Ext.app _)).get g9)
  .rw[<-e9];erw[bp]
  .rw[decide_eq_true rfl];erw[q _]
def aa7{l:Nat}{m:Int}(h:(l:Int)=1+m%3):0<l/\l<=3:=∅
def LH(Γ:cb)(h1:Γ "_law_mix"=u9.yE)(h2:Γ "_law_trees"=Ts)(h3:Γ "_law_wholes"=O1)(h4:Γ "written"=CP (λt=>bP t<=3\/(xD t/\bP t<=3+1)) wr)(h5:Γ "samples"=LC)(h6:Γ "unused"=OZ)(h7:Γ "_law_shortest"=LD)(h8:Γ "_law_first"=Lu):Keeps Γ CO.E3 6 (λus _ Q=>∃ns:List Int,us=[.uQ ns]/\ns.length<=63/\∀S',Q (.bl ζ) S'):=by
 rintro us S Q ⟨ns,rfl,hl,q⟩;unfold CO.E3;room;refine ca h1 #[ns,_,rfl,∅,λm m0 m1=>#[∅,?_]];refine ca h2 #[ns,0,_,1,rfl,⋯,∅,∅,∅,λts n S2 hT hV _ hs x1 g2=>?_];let#[ln,sm]:=hs;have sm:=sm ⋯;let#[l0,l3]:=aa7 ln;room;refine ca h1 #[ns,_,rfl,∅,λm' m0 m1=>#[∅,?_]];have e0:ts.getD 0 (.one 0 [])∈ts:=by
  rw[aC,aa l0];erw[cq _]
 have e1:ts.getD (ts.length-1) (.one 0 [])∈ts:=by
  rw[aC,aa (by omega:ts.length-1<ts.length)];erw[cq _]
 have s6:=LF ts 2 λt m=>(sm t m).1
 show iT .eq (.int (m'%2)) (.int 0) S2 _
 rw[VT,VX]
 generalize (m'%2==0)=b;cases b with
 |true=>
  rw[if_pos rfl]
  rwa[Rest.go ?_];rw[oa,Jt]
  rwa[Ui h1 hl g2 l0 l3 λx L S3 hx x3 g3=>?_]
  dsimp[gG,gH];rwa[Rest.go ?_];rw[Js]
  have px:size x<=4/\bP x<4/\null x=ϑ/\oH x:=by
   generalize ts.getD 0 (.one 0 [])=a at hx e0;generalize ts.getD (ts.length-1) (.one 0 [])=b at hx e1;have a1:=sm a e0;have b1:=sm b e1;rcases hx with rfl|rfl
   .exact#[∅,∅,hT.nl x e0,hV x e0]
   .refine#[by dsimp[size];omega,by dsimp[bP];omega,by dsimp[null,hT.nl a e0,hT.nl b e1];rfl,λl hl=>?_]
    exact(aJ.mp hl).elim (hV a e0 l) (hV b e1 l)
  have sx:eJ (ts++[x])=eJ ts+size x:=by simp[eJ]
  have mx:∀{p:Tr->Prop},(∀t∈ts,p t)->p x->∀t∈ts++[x],p t:=λh1 h2 t m=>(aJ.mp m).elim (h1 t) λm=>%[aX.mp m|h2]
  let#[T1,T2]:=Ug (l:=ts++[x]) (by rw[aq];show _+1<=4;omega) (mx hT.nl px.2.2.1) (mx hT.dp px.2.1) ∅ (mx hV px.2.2.2);erw[FN Γ h3 h4 h5 h6 h7 h8 #[by rw[(sP _ 1).1];exact g3,T1,T2,by rw[(sP _ 1).2.2.1];omega] q]
 |false=>
  rw[if_neg ⋯]
  rwa[Rest.go ?_];rw[Js]
  erw[FN Γ h3 h4 h5 h6 h7 h8 #[g2,hT,hV,∅] q]
end PL.r8
end
namespace L2
open PySem PySem.Spec PyProof.Rows PySem.W
open PL (U SO bH KU cb)
abbrev xF:PL.Spec:=λ_ _ _=>False
abbrev Hx(Γ:cb)(x:String)(sp:PL.Spec):cb:=λy=>if y=x then sp else Γ y
abbrev Role(c:Ctx)(T:Tab)(x:String)(f:Addr):Prop:=
 (x∈T.fns/\c.mg (nm x)=ξ (.ref f))\/(∃p∈T.qX,x=p.2++"."++p.1/\∃C,c.cls p.2=ξ C/\Meth c.K C (nm p.1) f)\/(∃y∈T.qW,x=y++".__init__"/\∃C,c.cls y=ξ C/\Mk c.K C f)
def FnAt.mono(F:FnAt c j f sp)(h:j<=k):FnAt c k f sp:=by
 let#[fd,ps,F,B]:=F;exact#[fd,ps,F.mono h,B]
def bC:Hx Γ x sp x=sp:=if_pos rfl
def vi(h:y≠x):Hx Γ x sp y=Γ y:=if_neg h
def gQ.add(G:gQ c T Γ k)(h:k<=k')(F:∀f,Role c T x f->FnAt c k' f sp):gQ c T (Hx Γ x sp) k':=by
 refine#[λy hy=>?_,λp hp=>?_,λy hy=>?_]
 .let#[f,hm,kp,A]:=G.fns y hy
  refine#[f,hm,kp,?_];by_cases e:y=x
  .subst e;rw[bC];erw[F f (.inl #[hy,hm])]
  .rw[vi e];erw[A.mono h]
 .let#[C,f,hc,hm,A]:=G.UG p hp
  refine#[C,f,hc,hm,?_];by_cases e:p.2++"."++p.1=x
  .rw[e,bC];erw[F f (.inr (.inl #[p,hp,e.symm,C,hc,hm]))]
  .rw[vi e];erw[A.mono h]
 .let#[C,f,hc,hg,hm,A]:=G.cls y hy
  refine#[C,f,hc,hg,hm,?_];by_cases e:y++".__init__"=x
  .rw[e,bC];erw[F f (.inr (.inr #[y,hy,e.symm,C,hc,hm]))]
  .rw[vi e];erw[A.mono h]
def O3(hm:c.mg (nm x)=ξ (.ref f0))(h2:(T.qX.all λp=>p.2++"."++p.1 !=x)=ζ)(h3:(T.qW.all λy=>y++".__init__" !=x)=ζ)(R:Role c T x f):f=f0:=by
 rcases R with⟨_,e⟩|⟨p,hp,e,_⟩|⟨y,hy,e,_⟩
 .rw[hm] at e;cases e;rfl
 .have:=bK.mp h2 p hp
  rw[e] at this;simp at this
 .have:=bK.mp h3 y hy
  rw[e] at this;simp at this
def O4(hc:c.cls cl=ξ C)(hm:Meth c.K C (nm m) f0)(h1:T.fns.contains (cl++"."++m)=ϑ)(h2:(T.qX.all λp=>p.2++"."++p.1 !=cl++"."++m||(p.1==m&&p.2==cl))=ζ)(h3:(T.qW.all λy=>y++".__init__" !=cl++"."++m)=ζ)(R:Role c T (cl++"."++m) f):f=f0:=by
 rcases R with⟨h,_⟩|⟨p,hp,e,C',hc',hm'⟩|⟨y,hy,e,_⟩
 .erw[absurd (gW.mpr h) (by rw[h1];simp)]
 .have:=bK.mp h2 p hp
  rw[e] at this;simp at this;let#[e1,e2]:=this;rw[e2,hc] at hc';cases hc';rw[e1] at hm';have:=hm.at_.symm.trans hm'.at_;cases this;rfl
 .have:=bK.mp h3 y hy
  rw[e] at this;simp at this
def O5(hc:c.cls cl=ξ C)(hm:Mk c.K C f0)(h1:T.fns.contains (cl++".__init__")=ϑ)(h2:(T.qX.all λp=>p.2++"."++p.1 !=cl++".__init__")=ζ)(h3:(T.qW.all λy=>y++".__init__" !=cl++".__init__"||y==cl)=ζ)(R:Role c T (cl++".__init__") f):f=f0:=by
 rcases R with⟨h,_⟩|⟨p,hp,e,C',hc',hm'⟩|⟨y,hy,e,C',hc',hm'⟩
 .erw[absurd (gW.mpr h) (by rw[h1];simp)]
 .have:=bK.mp h2 p hp
  rw[e] at this;simp at this
 .have:=bK.mp h3 y hy
  rw[e] at this;simp at this;rw[this,hc] at hc';cases hc';have:=hm.init.symm.trans hm'.init;cases this;rfl
def X9(B:Binds c.K fd ps []):FnAt c k f xF:=
 #[fd,ps,#[λvs H Q E h=>by let#[us,ρ,S0,QU,r,R,w,q]:=h;erw[w.elim],λA outer s H args us vs Q E hr he hb hv hs=>by let#[us,ρ,S0,QU,r,R,w,q]:=hs;erw[w.elim]],B]
structure Df(c:Ctx)(T:Tab)(st:Stmt)(f:Addr)(N ps:List Str)(b:PL.dG)(m:Nat):Prop where
 fn:∃x qual fd,LZ c.K x qual st f fd/\Binds c.K fd ps []
 sc:me N ps (bY st)
 tx:∃n,L3 T n #[(bY st).names,N,ζ] (f9 st)=ξ b
 hm:N.length=ps.length+m
def Df.ok{c:Ctx}{T:Tab}{Γ:cb}{st:Stmt}{f:Addr}{N ps:List Str}{b:PL.dG}{m k kx:Nat}{sp:PL.Spec}(D:Df c T st f N ps b m)(B:Base c T kx)(hkx:kx<=k)(G:gQ c T Γ k)(hk:PL.Keeps Γ b m sp)(hl:∀us S Q,sp us S Q->us.length=ps.length):FnAt c (k+2) f sp:=by
 let#[x,qual,fd,F,Bi]:=D.fn;let#[n,hc]:=D.tx;exact#[fd,ps,Pu F D.sc B hkx G hc hk D.hm hl,Bi]
def Df.up{c:Ctx}{T:Tab}{Γ:cb}{st:Stmt}{f:Addr}{N ps:List Str}{b:PL.dG}{m k kx:Nat}{x:String}{sp:PL.Spec}(D:Df c T st f N ps b m)(R:∀g,Role c T x g->g=f)(B:Base c T kx)(hkx:kx<=k)(G:gQ c T Γ k)(hk:PL.Keeps Γ b m sp)(hl:∀us S Q,sp us S Q->us.length=ps.length):gQ c T (Hx Γ x sp) (k+2):=
 G.add ∅ λg r=>%[R g r|D.ok B hkx G hk hl]
abbrev fu(Γ Γ':cb)(l:List String):Prop:=∀x,x∉l->Γ' x=Γ x
def fu.refl(Γ:cb)(l:List String):fu Γ Γ l:=λ_ _=>rfl
def fu.up(h:fu Γ Γ' l)(m:x∈l):fu Γ (Hx Γ' x sp) l:=λy hy=>(vi (λe=>hy (%[e|m]))).trans (h y hy)
def gQ.none(h1:∀x∈T.fns,∃f,c.mg (nm x)=ξ (.ref f)/\Ie c.K (.ref f)=ζ/\FnAt c k f xF)(h2:∀p∈T.qX,∃C f,c.cls p.2=ξ C/\Meth c.K C (nm p.1) f/\FnAt c k f xF)
  (h3:∀x∈T.qW,∃C f,c.cls x=ξ C/\c.mg (nm x)=ξ (.ref C)/\Mk c.K C f/\FnAt c k f xF):gQ c T (λ_=>xF) k:=#[h1,h2,h3]
open PL (U SO bH KU cb)
abbrev RN:List String:=["in_order","all_but","is_ahead","stretch","read","joined","Reader.__init__","Reader.sees","Reader.passes","Reader.choice","Reader.row","Reader.repeat","Reader.atom","Reader.bracket","Reader.sign_class","Reader.item","Reader.written_sign"]
structure fV(c:Ctx)(T:Tab)(x:String)(n m:Nat)(b:PL.dG):Prop where
 ex:∃st f N ps,Df c T st f N ps b m/\ps.length=n/\∀g,Role c T x g->g=f
structure GS(c:Ctx)(T:Tab)(kx:Nat)(Γ:cb)(k:Nat):Prop where
 le:kx<=k
 ok:gQ c T Γ k
def fV.up(D:fV c T x n m b)(B:Base c T kx)(G:GS c T kx Γ k)(hk:PL.Keeps Γ b m sp)(hl:∀us S Q,sp us S Q->us.length=n):GS c T kx (Hx Γ x sp) (k+2):=by
 let#[st,f,N,ps,D0,e,R]:=D.ex;exact#[Nat.le_add_right_of_le G.le,L2.Df.up D0 R B G.le G.ok hk (λus S Q h=>(hl us S Q h).trans e.symm)]
structure Hy(c:Ctx)(T:Tab):Prop where
 SD:fV c T "in_order" 1 0 PL.og
 Ea:fV c T "all_but" 1 0 PL.p6
 ahead:fV c T "is_ahead" 2 0 PL.oh
 Kq:fV c T "stretch" 2 0 PL.p7
 read:fV c T "read" 1 2 PL.zN
 joined:fV c T "joined" 2 0 PL.r6
 init:fV c T "Reader.__init__" 2 0 PL.km
 sees:fV c T "Reader.sees" 2 0 PL.ko
 passes:fV c T "Reader.passes" 2 0 PL.i5
 choice:fV c T "Reader.choice" 1 1 PL.i6
 row:fV c T "Reader.row" 1 1 PL.k6
 repeat_:fV c T "Reader.repeat" 1 1 PL.i7
 atom:fV c T "Reader.atom" 1 0 PL.kq
 bracket:fV c T "Reader.bracket" 1 1 PL.iG
 cls:fV c T "Reader.sign_class" 1 2 PL.fJ
 item:fV c T "Reader.item" 1 3 PL.kr
 ws:fV c T "Reader.written_sign" 2 1 PL.eP
def uE(us:List U)(S:bH)(Q:KU)(h:PL.AY args p d us S Q):us.length=args.length+1:=by
 let#[r,x,rest,rfl,_]:=h;rfl
def len_T(us:List U)(S:bH)(Q:KU)(h:PL.spT f us S Q):us.length=1:=by
 let#[l,rfl,_]:=h;rfl
def Cn(R:Hy c T)(B:Base c T kx)(G:GS c T kx Γ k):∃Γ',GS c T kx Γ' (k+16)/\fu Γ Γ' RN/\PL.GR Γ'/\Γ' "joined"=PL.lN/\Γ' "Reader.__init__"=PL.oC:=by
 have g1:=R.SD.up B G (PL.B1 _) len_T;have g2:=R.Ea.up B g1 (PL.we _) len_T;have g3:=R.ahead.up B g2 (PL.B3 _) (λus S Q h=>by let#[a,b,rfl,_]:=h;rfl);have g4:=R.Kq.up B g3 (PL.D9 _) (λus S Q h=>by let#[a,b,rfl,_]:=h;rfl);have g5:=R.joined.up B g4 (PL.Hh _) (λus S Q h=>by let#[a,b,t,rfl,_]:=h;rfl);have g6:=R.init.up B g5 (PL.Ky _) (λus S Q h=>by let#[a,b,rfl,_]:=h;rfl);have g7:=R.sees.up B g6 (PL.Oh _) (λus S Q h=>by let#[a,b,_,_,_,rfl,_]:=h;rfl);have g8:=R.passes.up B g7 (PL.Oi _ bC) (λus S Q h=>by let#[l,d,h]:=h;exact uE _ _ _ h);refine#[_,g8,?_,#[rfl,rfl,rfl,rfl,rfl,rfl],rfl,rfl];refine fu.up (fu.up (fu.up (fu.up (fu.up (fu.up (fu.up (fu.up (fu.refl _ _) ?_) ?_) ?_) ?_) ?_) ?_) ?_) ?_<;>decide
def Ya(k d:Nat)(h:d+k=6)(hc:∀j,k=j+1->Γ "Reader.choice"=PL.AY [] (PL.iI (PL.uC j)) (d+1)):PL.Ww Γ (PL.uC k) d:=by
 cases k with
 |zero=>erw[.inl #[rfl,∅]]
 |succ j=>erw[.inr #[_,rfl,∅,PL.tX (j+1),hc j rfl]]
def uF(R:Hy c T)(B:Base c T kx)(G:GS c T kx Γ k)(Sm:fu Γ0 Γ RN)(gr:PL.GR Γ)(gj:Γ "joined"=PL.lN)(gi:Γ "Reader.__init__"=PL.oC)(n d:Nat)(hd:d+n=6)
  (hc:∀j,n=j+1->Γ "Reader.choice"=PL.AY [] (PL.iI (PL.uC j)) (d+1)):
  ∃Γ',GS c T kx Γ' (k+16)/\fu Γ0 Γ' RN/\PL.GR Γ'/\Γ' "joined"=PL.lN/\Γ' "Reader.__init__"=PL.oC/\Γ' "Reader.choice"=PL.AY [] (PL.iI (PL.uC n)) d:=by
 let#[e1,e2,e3,e4,e5,e6]:=gr;have hbo:=PL.tX n;have g1:=R.bracket.up B G (PL.Wx _ #[e1,e2,e3,e4,e5,e6] (PL.uC n) d (Ya n d hd hc)) (λus S Q h=>by let#[a,b,_,rfl,_]:=h;rfl);have g2:=R.ws.up B g1 (PL.Kr _ #[e1,e2,e3,e4,e5,e6] d) (λus S Q h=>by let#[m,h]:=h;exact uE _ _ _ h);have g3:=R.item.up B g2 (PL.Ol _ d #[#[e1,e2,e3,e4,e5,e6],rfl]) uE;have g4:=R.cls.up B g3 (PL.SE _ d #[#[#[e1,e2,e3,e4,e5,e6],rfl],rfl]) uE;have g5:=R.atom.up B g4 (PL.Ot _ (PL.uC n) d #[#[#[#[e1,e2,e3,e4,e5,e6],rfl],rfl],rfl,rfl]) uE;have g6:=R.repeat_.up B g5 (PL.Hi _ (PL.uC n) d hbo #[#[#[#[#[e1,e2,e3,e4,e5,e6],rfl],rfl],rfl,rfl],rfl]) uE;have g7:=R.row.up B g6 (PL.SI _ (PL.uC n) d hbo #[#[#[#[#[#[e1,e2,e3,e4,e5,e6],rfl],rfl],rfl,rfl],rfl],rfl,gj]) uE;have g8:=R.choice.up B g7 (PL.Hj _ (PL.uC n) d hbo #[#[#[#[#[#[#[e1,e2,e3,e4,e5,e6],rfl],rfl],rfl,rfl],rfl],rfl,gj],rfl]) uE;refine#[_,g8,?_,#[e1,e2,e3,e4,e5,e6],gj,gi,rfl];refine fu.up (fu.up (fu.up (fu.up (fu.up (fu.up (fu.up (fu.up Sm ?_) ?_) ?_) ?_) ?_) ?_) ?_) ?_<;>decide
def wV(R:Hy c T)(B:Base c T kx)(G:GS c T kx Γ k)(Sm:fu Γ0 Γ RN)(gr:PL.GR Γ)(gj:Γ "joined"=PL.lN)(gi:Γ "Reader.__init__"=PL.oC):
  ∀(n d:Nat),d+n=6->∃Γ',GS c T kx Γ' (k+16*(n+1))/\fu Γ0 Γ' RN/\PL.GR Γ'/\Γ' "joined"=PL.lN/\Γ' "Reader.__init__"=PL.oC/\Γ' "Reader.choice"=PL.AY [] (PL.iI (PL.uC n)) d
 |0,d,h=>uF R B G Sm gr gj gi 0 d h (λj e=>∅)
 |n+1,d,h=>by
  let#[Γ1,G1,S1,r1,j1,i1,c1]:=wV R B G Sm gr gj gi n (d+1) ∅;let#[Γ2,G2,z]:=uF R B G1 S1 r1 j1 i1 (n+1) d h (λj e=>by cases e;erw[c1]);exact#[Γ2,G2,z]
def Er(R:Hy c T)(B:Base c T kx)(G:GS c T kx Γ k):∃Γ',GS c T kx Γ' (k+130)/\fu Γ Γ' RN/\Γ' "read"=PL.Ec/\Γ' "all_but"=PL.spT PL.eF:=by
 let#[Γ1,G1,S1,r1,j1,i1]:=Cn R B G;let#[Γ2,G2,S2,r2,j2,i2,c2]:=wV R B G1 S1 r1 j1 i1 6 0 rfl;have g:=R.read.up B G2 (PL.Ou _ i2 c2) (λus S Q h=>by let#[x,rfl,_]:=h;rfl);exact#[_,g,fu.up S2 ⋯,bC,r2.Ea]
open PL (U SO bH KU cb)
structure pH where
 x:String
 q:String
 cl:String
 st:Stmt
 N:List Str
 ps:List Str
 b:PL.dG
abbrev Hz(K:Frag)(x qual:Str)(st:Stmt)(f:Addr):Prop:=∃(oc:Value)(od:Option Addr)(kV dc pm:Value)(an:Option Addr)(cd ct:Value)(sl:Array (Option Value)),
 K.lookup f=ξ #[oc,od,.func (fnOf x qual (mf st) (f9 st) (bY st) .none kV dc pm an cd ct),sl]/\codeIn K cd qual=ζ/\Ie K (.ref f)=ζ
def Hz.fn{K:Frag}{x qual:Str}{st:Stmt}{f:Addr}(h:Hz K x qual st f):∃fd,LZ K x qual st f fd/\Ie K (.ref f)=ζ:=by
 let#[oc,od,kV,dc,pm,an,cd,ct,sl,h1,h2,h3]:=h;exact#[_,IU h1 h2 h3,h3]
inductive Co(K:Frag)(CA:List (String×Addr)):pH->Prop
 |fn{q:String}{st:Stmt}{N ps:List Str}{b:PL.dG}{f:Addr}:nsIn K bJ (cv q)=ξ (ξ (.ref f))->Hz K (cv q) (cv q) st f->Co K CA #[q,q,"",st,N,ps,b]
 |mt{x q cl:String}{st:Stmt}{N ps:List Str}{b:PL.dG}{f C:Addr}:(cl=="")=ϑ->CA.lookup cl=ξ C->findIn K (.ref C) (cv q)=ξ (ξ (.ref f))->isFn K (.ref f)=ζ->Hz K (cv q) (cv x) st f->Co K CA #[x,q,cl,st,N,ps,b]
abbrev AH(r:pH):Prop:=∀(x qual:Str)(kV dc pm:Value)(an:Option Addr)(cd ct:Value)(us:List Value),us.length=r.ps.length->Mc (fnOf x qual (mf r.st) (f9 r.st) (bY r.st) .none kV dc pm an cd ct) #[us,[]]=pure (r.ps.zip us)
@[reducible]def LI(r:pH)(us:List Value):Prop:=∀(x qual:Str)(kV dc pm:Value)(an:Option Addr)(cd ct:Value),Mc (fnOf x qual (mf r.st) (f9 r.st) (bY r.st) .none kV dc pm an cd ct) #[us,[]]=pure (r.ps.zip us)
def Ul{α:Type}{l:List α}{n:Nat}(h:l.length=n+1):∃a r,l=a::r/\r.length=n:=by
 cases l with
 |nil=>erw[absurd h (Nat.succ_ne_zero n).symm]
 |cons a r=>exact#[a,r,rfl,nI h]
def ln1{α:Type}{l:List α}(h:l.length=1):∃a,l=[a]:=jY.mp h
def ln2{α:Type}{l:List α}(h:l.length=2):∃a b,l=[a,b]:=by
 let#[a,r,rfl,k]:=Ul h;let#[b,rfl]:=ln1 k;exact#[a,b,rfl]
def ln3{α:Type}{l:List α}(h:l.length=3):∃a b c,l=[a,b,c]:=by
 let#[a,r,rfl,k]:=Ul h;let#[b,c,rfl]:=ln2 k;exact#[a,b,c,rfl]
def bd0{r:pH}(e:r.ps.length=0)(h:LI r []):AH r:=λx q a b c d f g us hl=>by
 rw[e] at hl;obtain rfl:=oK.mp hl;erw[h x q a b c d f g]
def bd1{r:pH}(e:r.ps.length=1)(h:∀a,LI r [a]):AH r:=λx q a b c d f g us hl=>by
 let#[u,rfl]:=ln1 (hl.trans e);erw[h u x q a b c d f g]
def bd2{r:pH}(e:r.ps.length=2)(h:∀a b,LI r [a,b]):AH r:=λx q a b c d f g us hl=>by
 let#[u,v,rfl]:=ln2 (hl.trans e);erw[h u v x q a b c d f g]
def bd3{r:pH}(e:r.ps.length=3)(h:∀a b c,LI r [a,b,c]):AH r:=λx q a b c d f g us hl=>by
 let#[u,v,w,rfl]:=ln3 (hl.trans e);erw[h u v w x q a b c d f g]
def bd4{r:pH}(e:r.ps.length=4)(h:∀a b c d,LI r [a,b,c,d]):AH r:=λx q a b c d f g us hl=>by
 let#[u,s,rfl,k]:=Ul (hl.trans e);let#[v,w,z,rfl]:=ln3 k;erw[h u v w z x q a b c d f g]
abbrev HA(r:pH):Bool:=(bY r.st).kind==.function && !(bY r.st).isCoroutine && !(bY r.st).isGenerator&&decide r.N.Nodup&&r.N.take r.ps.length==r.ps&&(r.ps.all λx=>(bY r.st).names.lookup x==ξ .local||(bY r.st).names.lookup x==ξ .cell)&&((bY r.st).names.all λy=>y.2 !=.free)&&decide (r.ps.length<=r.N.length)
def HA.sc{r:pH}(h:HA r=ζ):me r.N r.ps (bY r.st)/\r.ps.length<=r.N.length:=by
 unfold HA at h;dsimp[ak,bK,decide_eq_true_eq,bw,beq_iff_eq,hJ,bne_iff_ne] at h;let#[#[#[#[#[#[#[h1,h2],h3],h4],h5],h6],h7],h8]:=h;exact#[#[h1,h2,h3,h4,h5,h6,h7],h8]
abbrev Um(T:Tab)(r:pH):Bool:=
 if r.cl=="" then(T.qX.all λp=>p.2++"."++p.1 !=r.x)&&(T.qW.all λy=>y++".__init__" !=r.x)
 else !(T.fns.contains r.x)&&r.x==r.cl++"."++r.q&&if r.q=="__init__" then(T.qX.all λp=>p.2++"."++p.1 !=r.x)&&(T.qW.all λy=>y++".__init__" !=r.x||y==r.cl)
  else(T.qX.all λp=>p.2++"."++p.1 !=r.x||(p.1==r.q&&p.2==r.cl))&&(T.qW.all λy=>y++".__init__" !=r.x)
abbrev LJ(rows:List pH):List String:=(rows.filter λr=>r.cl=="").map (·.x)
abbrev LK(rows:List pH):List (String×String):=(rows.filter λr=>r.cl !=""&&r.q !="__init__").map λr=>(r.q,r.cl)
structure O6(K:Frag)(p:String×Addr)(fl:List String):Prop where
 ns:nsIn K bJ (cv p.1)=ξ (ξ (.ref p.2))
 cl:xX K p.2
 ms:makesIn K p.2=ζ
 kp:Ie K (.ref p.2)=ζ
 na:fl.map (λf=>findIn K (.ref p.2) (cv f))=fl.map λ_=>ξ ψ
def sT{α:Type}{x:String}{a:α}:∀{l:List (String×α)},l.lookup x=ξ a->(x,a)∈l
 | (k,v)::l,h=>by
  rw[aN] at h;split at h
  .rename_i e
   have e:x=k:=eq_of_beq e;cases h;subst e;erw[aO ..]
  .erw[az _ (sT h)]
def Yb{K:Frag}{C:Addr}{fl:List String}(h:fl.map (λf=>findIn K (.ref C) (cv f))=fl.map λ_=>ξ ψ):∀f∈fl,mN K C (nm f):=λf m=>uj.mp h f m
section
variable{c:Ctx}{T:Tab}{rows:List pH}{CA:List (String×Addr)}{h:Heap}{fl:List String}
def O7(X:c.K.In h)(G:h.Ns bJ c.mg)(hc:c.cls=λx=>CA.lookup x)(hC:∀p∈CA,O6 c.K p fl)(R:∀r∈rows,Co c.K CA r)(bd:∀r∈rows,AH r)(sc:rows.all HA=ζ)(rl:rows.all (Um T)=ζ)
  (tx:rows.map (λr=>L3 T 60 #[(bY r.st).names,r.N,ζ] (f9 r.st))=rows.map λr=>ξ r.b) (i:Nat) (r:pH) (e:rows[i]?=ξ r):fV c T r.x r.ps.length (r.N.length-r.ps.length) r.b:=by
 have m:=ag e;let#[s1,s2]:=(bK.mp sc r m |> HA.sc)
 have t:=uj.mp tx r m;have b:=bd r m;have rr:=bK.mp rl r m;have ln:r.N.length=r.ps.length+(r.N.length-r.ps.length):=∅
 cases R r m with
 |fn h1 h2=>
  let#[fd,F,kp]:=h2.fn;refine#[#[_,_,_,_,#[#[_,_,fd,F,F.binds λkV dc pm an cd ct us hl=>b _ _ kV dc pm an cd ct us hl],s1,#[60,t],ln],rfl,λg ro=>?_]];have rr:((T.qX.all λp=>p.2++"."++p.1 !=_)&&(T.qW.all λy=>y++".__init__" !=_))=ζ:=rr;rw[ak] at rr;erw[O3 (rB X G h1) rr.1 rr.2 ro]
 |@mt x q cl st N ps b' f C hn h0 h1 h2 h3=>
  let#[fd,F,kp]:=h3.fn;refine#[#[_,_,_,_,#[#[_,_,fd,F,F.binds λkV dc pm an cd ct us hl=>b _ _ kV dc pm an cd ct us hl],s1,#[60,t],ln],rfl,λg ro=>?_]];unfold Um at rr;dsimp[hn,av,if_false,ak,hJ,beq_iff_eq] at rr;let#[#[r1,r2],r3]:=rr;have hcl:c.cls cl=ξ C:=%[hc|h0]
  have cm:=hC _ (sT h0);subst r2;by_cases z:q="__init__"
  .subst z
   dsimp[if_true,ak] at r3;have e:cl++"."++"__init__"=cl++".__init__":=by rw[String.append_assoc];rfl
   have ro:Role c T (cl++"."++"__init__") g:=ro;rw[e] at r1 r3 ro;erw[O5 (cl:=cl) hcl #[cm.ms,h1,h2,cm.kp] r1 r3.1 r3.2 ro]
  .rw[if_neg z,ak] at r3
   erw[O4 (m:=q) (cl:=cl) hcl #[h1,h2,kp] r1 r3.1 r3.2 ro]
def Es{r:pH}{f:Addr}{x qual:Str}{k:Nat}(b:AH r)(h:Hz c.K x qual r.st f):FnAt c k f xF:=by
 let#[fd,F,kp]:=h.fn;erw[X9 (F.binds λkV dc pm an cd ct us hl=>b _ _ kV dc pm an cd ct us hl)]
def Uo{k:Nat}(X:c.K.In h)(G:h.Ns bJ c.mg)(hc:c.cls=λx=>CA.lookup x)(hC:∀p∈CA,O6 c.K p fl)(R:∀r∈rows,Co c.K CA r)(bd:∀r∈rows,AH r)
  (t1:T.fns=LJ rows) (t2:T.qX=LK rows) (t3:∀x∈T.qW,∃r∈rows,r.cl=x/\r.q="__init__"/\(x=="")=ϑ):gQ c T (λ_=>xF) k:=by
 rwa[gQ.none (λx hx=>?_) (λp hp=>?_) (λx hx=>?_)]
 .rw[t1] at hx
  let#[r,hr,rfl]:=bx.mp hx;let#[m,e]:=fA.mp hr;have b:=bd r m;cases R r m with
  |@fn q st N ps b' f h1 h2=>
   let#[fd,F,kp]:=h2.fn;exact#[f,rB X G h1,kp,Es b h2]
  |mt hn=>erw[absurd e (by show ¬(_=="")=ζ;rw[hn];simp)]
 .rw[t2] at hp
  let#[r,hr,rfl]:=bx.mp hp;let#[m,e]:=fA.mp hr;have b:=bd r m;cases R r m with
  |fn h1 h2=>simp at e
  |@mt x q cl st N ps b' f C hn h0 h1 h2 h3=>
   let#[fd,F,kp]:=h3.fn;exact#[C,f,%[hc|h0],#[h1,h2,kp],Es b h3]
 .let#[r,m,rfl,eq,ne]:=t3 x hx
  have b:=bd r m;cases R r m with
  |fn h1 h2=>simp at ne
  |@mt x q cl st N ps b' f C hn h0 h1 h2 h3=>
   have eq:q="__init__":=eq;subst eq;have cm:=hC _ (sT h0);exact#[C,f,%[hc|h0],rB X G cm.ns,#[cm.ms,h1,h2,cm.kp],Es b h3]
def Up(hc:c.cls=λx=>CA.lookup x)(hC:∀p∈CA,O6 c.K p fl)(x:String)(C:Addr)(h:c.cls x=ξ C):xX c.K C/\∀f∈fl,mN c.K C (nm f):=by
 rw[hc] at h;have:=hC _ (sT h);exact#[this.cl,Yb this.na]
end
def vj{c:Ctx}{x:String}{s:Str}{t:Tok}{l:List Nat}(h:c.mg (nm x)=ξ (.str s t))(e:s=tx l):∃v u,c.mg (nm x)=ξ u/\RelV v u/\∀ρ H,Rep c ρ H (.str l) v:=
 #[.str (tx l),_,h,#[t,by rw[e]],λ_ _=>bE.mpr rfl]
def Cp{K:Frag}{a:Addr}:∀(kvs:List (Str×Str)),(∀p∈kvs,∃t,nsIn K a p.1=ξ (ξ (.str p.2 t)))->∀k v,(kvs.map λp=>(p.1,V.str p.2)).lookup k=ξ v->∃u,RelV v u/\nsIn K a k=ξ (ξ u)
 |[],_,k,v,h=>by simp at h
 |p::r,hp,k,v,h=>by
  rw[aw,aN] at h;split at h
  .rename_i e
   have e:k=p.1:=eq_of_beq e;cases h;let#[t,z]:=hp p (aO ..);exact#[_,#[t,rfl],%[e|z]]
  .erw[Cp r (λq hq=>hp q (az _ hq)) k v h]
abbrev HB:Value->Option Str
 |.str s _=>ξ s
 |_=>ψ
def FO(k:Str):∀(es:List qv)(ks:List Str),es.map (λe=>HB e.key)=ks.map ξ->k∉ks->es.find? (·.key.isStr k)=ψ/\es.any (·.refKey)=ϑ
 |[],_,_,_=>#[rfl,rfl]
 |e::r,[],h,_=>by cases h
 |⟨hs,ky,vl⟩::r,q::ks,h,n=>by
  rw[aw,aw,cQ] at h;let#[i,j]:=FO k r ks h.2 λz=>n (az _ z)
  have h1:HB ky=ξ q:=h.1;cases ky with
  |str s t=>
   have e:s=q:=aG h1;subst e;have ne:(s==k)=ϑ:=by
    rw[beq_eq_false_iff_ne];erw[λz=>n (z▸aO ..)]
   exact#[by rw[eh];show(match (s==k) with|true=>_|false=>_)=_;rw[ne];erw[i],by rw[dw,j];rfl]
  |_=>cases h1
def O8{c:Ctx}{x:String}{a:Addr}{es:Array qv}{n:Nat}{kvs:List (List Nat×List Nat)}(h:c.mg (nm x)=ξ (.ref a))(l:c.K.lookup a=ξ #[.type "dict",ψ,.dict es n,#[]])(kl:CC c.w.params es.toList)
  (ky:es.toList.map (λe=>HB e.key)=(kvs.map λp=>tx p.1).map ξ) (ns:(a==cu)=ϑ)
  (hk:∀p∈kvs,∃t,nsIn c.K a (tx p.1)=ξ (ξ (.str (tx p.2) t))):∃v u,c.mg (nm x)=ξ u/\RelV v u/\∀ρ H,Rep c ρ H (.tab kvs) v:=by
 refine#[.ref a,_,h,rfl,λρ H=>va.mpr #[a,rfl,#[es,n,l,kl],λk v e=>?_,λk e=>?_,ns]]
 .rwa[Cp (kvs.map λp=>(tx p.1,tx p.2)) ?_ k v (%[bA|e])]
  intro p hp;let#[q,hq,rfl]:=bx.mp hp;erw[hk q hq]
 .have nm:k∉kvs.map λp=>tx p.1:=λz=>by
   let#[q,hq,rfl]:=bx.mp z;have:=List.lookup_eq_none_iff.mp e (tx q.1,V.str (tx q.2)) (bx.mpr #[q,hq,rfl]);simp at this
  let#[i,j]:=FO k _ _ ky nm;unfold nsIn;rw[l]
  show(match es.toList.find? (·.key.isStr k) with|some e=>ξ (ξ e.val)|none=>if es.toList.any (·.refKey) then ψ else ξ ψ)=ξ ψ
  rw[i,j]
  rfl
def Yc{c:Ctx}{x:String}{a:Addr}{es:Array qv}{n:Nat}{z0 z1 z2 k0 k1 k2:Str}{t0 t1 t2:Tok}{l0 l1 l2 m0 m1 m2:List Nat}(h:c.mg (nm x)=ξ (.ref a))(l:c.K.lookup a=ξ #[.type "dict",ψ,.dict es n,#[]])(kl:CC c.w.params es.toList)
  (ky:es.toList.map (λe=>HB e.key)= [ξ k0,ξ k1,ξ k2]) (ns:(a==cu)=ϑ) (c0:k0=tx l0) (c1:k1=tx l1) (c2:k2=tx l2)
  (r0:nsIn c.K a k0=ξ (ξ (.str z0 t0))) (e0:z0=tx m0) (r1:nsIn c.K a k1=ξ (ξ (.str z1 t1))) (e1:z1=tx m1) (r2:nsIn c.K a k2=ξ (ξ (.str z2 t2))) (e2:z2=tx m2):
  ∃v u,c.mg (nm x)=ξ u/\RelV v u/\∀ρ H,Rep c ρ H (.tab [(l0,m0),(l1,m1),(l2,m2)]) v:=by
 subst c0 c1 c2 e0 e1 e2;rwa[O8 h l kl ky ns ?_];erw[aZ.mpr #[#[t0,r0],aZ.mpr #[#[t1,r1],aZ.mpr #[#[t2,r2],λ_ h=>(cA h).elim]]]]
open PL (U SO bH KU cb)
def gQ.mono(G:gQ c T Γ j)(h:j<=k):gQ c T Γ k:=
 #[λx hx=>let ⟨f,a,b,d⟩:=G.fns x hx;#[f,a,b,d.mono h],λp hp=>let ⟨C,f,a,b,d⟩:=G.UG p hp;#[C,f,a,b,d.mono h],λx hx=>let ⟨C,f,a,b,e,d⟩:=G.cls x hx;#[C,f,a,b,e,d.mono h]]
def gQ.mix(G1:gQ c T Γ1 k)(G2:gQ c T Γ2 k)(h:∀x,Γ x=Γ1 x\/Γ x=Γ2 x):gQ c T Γ k:=by
 refine#[λx hx=>?_,λp hp=>?_,λx hx=>?_]
 .rcases h x with e|e<;>rw[e]
  .erw[G1.fns x hx]
  .erw[G2.fns x hx]
 .rcases h (p.2++"."++p.1) with e|e<;>rw[e]
  .erw[G1.UG p hp]
  .erw[G2.UG p hp]
 .rcases h (x++".__init__") with e|e<;>rw[e]
  .erw[G1.cls x hx]
  .erw[G2.cls x hx]
def GS.mono(G:GS c T kx Γ j)(h:j<=k):GS c T kx Γ k:=#[aI G.le h,gQ.mono G.ok h]
structure Uq(c:Ctx)(T:Tab):Prop where
 written:fV c T "written" 1 0 PL.p8
 row:fV c T "row_text" 1 0 PL.oj
 rep:fV c T "repeat_text" 1 2 PL.kz
 atom:fV c T "atom_text" 1 0 PL.mr
 place:fV c T "place_text" 1 0 PL.k7
 sign:fV c T "sign_text" 2 0 PL.mv
 texts:fV c T "class_texts" 1 1 PL.kA
 guarded:fV c T "guarded" 1 0 PL.p9
 items:fV c T "class_items" 1 2 PL.kB
 runs:fV c T "runs" 1 3 PL.zO
 aa8:fV c T "run_items" 1 2 PL.mw
open PL.nq in
structure AI(c:Ctx)(T:Tab):Prop where
 po:fV c T "places_of" 2 4 mB
 to:fV c T "tree_of" 2 1 qa
 mem:fV c T "members" 1 0 qc
 pt:fV c T "Part.__init__" 4 0 mC
 beh:fV c T "one_behind_other" 2 2 gf
 or_:fV c T "one_or_other" 2 0 jI
 li:fV c T "Layout.__init__" 1 0 kC
 hm:fV c T "Layout.how_many" 1 0 gM
 cr:fV c T "Layout.close_rule" 2 0 fK
 lk:fV c T "Layout.link" 3 1 kD
 lay:fV c T "Layout.lay" 2 0 k8
 lp:fV c T "Layout.lay_place" 2 1 gh
 lr:fV c T "Layout.lay_row" 2 3 iH
 lc:fV c T "Layout.lay_choice" 2 2 fL
 lq:fV c T "Layout.lay_repeat" 2 4 fM
 us:fV c T "useful_places" 1 5 i8
 ptt:fV c T "places_that_take" 2 0 gu
 pi:fV c T "Places.__init__" 2 1 kE
 XI:fV c T "Places.beyond" 2 2 i9
 fr:fV c T "Places.first_rule" 2 2 fN
open PL.nq in
structure Et(c:Ctx)(T:Tab):Prop where
 cell:fV c T "_law_cell" 2 0 PL.u9.mz
 mix:fV c T "_law_mix" 2 1 PL.u9.om
 all:fV c T "_law_all" 0 1 PL.u9.oo
 no:fV c T "_law_nothing" 1 0 jJ
 be:fV c T "_law_behind" 2 4 kF
 re:fV c T "_law_rests" 2 3 k9
 ed:fV c T "_law_ends" 1 0 pE
 f1:fV c T "_law_first" 2 3 PL.r8.ly
 sm:fV c T "_law_small" 3 3 lg
 tr:fV c T "_law_trees" 4 3 lh
 wh:fV c T "_law_whole" 1 0 PL.CO.lA
 wo:fV c T "_law_wholes" 1 0 PL.CO.kH
 ls:fV c T "_law_steps" 2 0 PL.CO.lB
 lt:fV c T "_law_tells" 1 1 PL.CO.lC
 sh:fV c T "_law_shortest" 3 5 PL.CO.jb
open PL.r8 in
structure Yd(c:Ctx)(T:Tab):Prop where
 tb:fV c T "table_of" 1 0 oq
 ti:fV c T "Table.__init__" 3 0 lj
 go:fV c T "Table.goes" 3 0 lu
 sp:fV c T "spread" 1 7 r9
 st:fV c T "smallest" 1 5 ou
 wn:fV c T "with_nowhere" 1 1 jK
 ro:fV c T "rounds" 2 3 sd
 pa:fV c T "parted" 3 3 se
 nu:fV c T "numbered" 1 1 ow
 te:fV c T "telling_signs" 1 2 ja
open PL.Nv in
structure Ur(c:Ctx)(T:Tab):Prop where
 sz:fV c T "Table.size" 1 0 lz
 ft:fV c T "first_texts" 1 4 kG
 sa:fV c T "sample" 3 0 si
 ss:fV c T "samples" 1 2 qd
 un:fV c T "unused" 1 0 sf
open PL PL.nq in
def Cq(us:List U)(S:bH)(Q:KU)(h:CP D f us S Q):us.length=1:=by
 let#[_,rfl,_]:=h;rfl
open PL PL.nq in
def yS(us:List U)(S:bH)(Q:KU)(h:iC D us S Q):us.length=2:=by
 let#[_,_,_,_,_,_,rfl,_]:=h;rfl
open PL PL.nq in
def vk(W:Uq c T)(B:Base c T kx)(G:GS c T kx Γ j)(k:Nat)(hk:k<=10)(D:Tr->Prop)(hD:∀t,bP t<=k->xD t->D t)(hp:Γ "place_text"=OK)(hw:Γ "written"=CP D wr):
  ∃Γ',GS c T kx Γ' (j+8)/\Γ' "place_text"=OK/\Γ' "written"=CP (λt=>bP t<=k\/(xD t/\bP t<=k+1)) wr:=by
 have g1:=W.atom.up B G (Tw _ k D hD hp hw) Cq;have g2:=W.rep.up B g1 (Tz _ k hk bC) Cq;have g3:=W.row.up B g2 (TB _ k bC) Cq;have g4:=W.written.up B g3 (TC _ k bC) Cq;exact#[_,g4,hp,bC]
open PL PL.nq in
def Ye(R:Hy c T)(W:Uq c T)(B:Base c T kx)(G:GS c T kx Γ j):∃Γ',GS c T kx Γ' (j+50)/\Γ' "written"=CP (λt=>bP t<=3\/(xD t/\bP t<=3+1)) wr:=by
 have a0:=R.Ea.up B G (we _) len_T;have a1:=W.sign.up B a0 (Xf _) (λus S Q h=>by let#[_,_,rfl,_]:=h;rfl);have a2:=W.aa8.up B a1 (Xh _ bC) (λus S Q h=>by let#[_,rfl,_]:=h;rfl);have a3:=W.runs.up B a2 (Xj _) (λus S Q h=>by let#[_,rfl,_]:=h;rfl);have a4:=W.items.up B a3 (Xm _ rfl rfl) (λus S Q h=>by let#[_,rfl,_]:=h;rfl);have a5:=W.guarded.up B a4 (Xo _) (λus S Q h=>by let#[_,_,rfl,_]:=h;rfl);have a6:=W.texts.up B a5 (Xq _ rfl rfl rfl) (λus S Q h=>by let#[_,rfl,_]:=h;rfl);have a7:=W.place.up B a6 (Xr _ rfl rfl rfl) (λus S Q h=>by let#[_,rfl,_]:=h;rfl);have a8:=W.written.up B a7 (sp:=CP (λ_=>False) wr) (λus S Q h=>by let#[_,_,h,_]:=h;exact h.elim) Cq;let#[Γ1,G1,p1,w1]:=vk W B a8 0 ∅ _ (λt d r=>by cases t<;>first|exact r.elim|exact absurd d (Nat.not_succ_le_zero _)) rfl bC;obtain⟨Γ2,G2,p2,w2⟩:=vk W B G1 1 ∅ _ (λt d r=>.inr #[r,d]) p1 w1;obtain⟨Γ3,G3,p3,w3⟩:=vk W B G2 2 ∅ _ (λt d r=>.inr #[r,d]) p2 w2;obtain⟨Γ4,G4,p4,w4⟩:=vk W B G3 3 ∅ _ (λt d r=>.inr #[r,d]) p3 w3;exact#[Γ4,G4,w4]
section
open PL PL.nq
structure GP(Γ:cb):Prop where
 mem:Γ "members"=B9
 pt:Γ "Part.__init__"=Ad
 beh:Γ "one_behind_other"=rg t4
 or_:Γ "one_or_other"=rg WC
 li:Γ "Layout.__init__"=SU
 hm:Γ "Layout.how_many"=SV
 cr:Γ "Layout.close_rule"=SW
 lk:Γ "Layout.link"=KL
 lp:Γ "Layout.lay_place"=iC λt u=>∃n l,t=.one n l/\u=.str l
variable{c:Ctx}{T:Tab}{Γ:cb}{j kx:Nat}
def O9(P:AI c T)(B:Base c T kx)(G:GS c T kx Γ j):∃Γ',GS c T kx Γ' (j+20)/\GP Γ'/\Γ' "Layout.lay"=iC (Tu 0):=by
 have g1:=P.mem.up B G (SQ _) (λus S Q h=>by let#[_,rfl,_]:=h;rfl);have g2:=P.pt.up B g1 (WB _) (λus S Q h=>by let#[_,_,_,_,rfl,_]:=h;rfl);have g3:=P.beh.up B g2 (SR _ bC) (λus S Q h=>by let#[_,_,_,_,_,_,_,_,rfl,_]:=h;rfl);have g4:=P.or_.up B g3 (WD _ rfl) (λus S Q h=>by let#[_,_,_,_,_,_,_,_,rfl,_]:=h;rfl);have g5:=P.li.up B g4 (WG _) (λus S Q h=>by let#[_,rfl,_]:=h;rfl);have g6:=P.hm.up B g5 (WH _) (λus S Q h=>by let#[_,_,_,_,rfl,_]:=h;rfl);have g7:=P.cr.up B g6 (WJ _) (λus S Q h=>by let#[_,_,_,_,_,_,_,_,_,_,rfl,_]:=h;rfl);have g8:=P.lk.up B g7 (WL _ rfl) (λus S Q h=>by let#[_,_,_,_,_,_,rfl,_]:=h;rfl);have g9:=P.lp.up B g8 (WM _ rfl) yS;have ga:=P.lay.up B g9 (sp:=iC (Tu 0)) (λus S Q h=>by let#[_,_,_,_,_,_,_,h,_]:=h;erw[absurd h.1 (de _)]) yS;exact#[_,ga,#[rfl,rfl,rfl,rfl,rfl,rfl,rfl,rfl,rfl],bC]
def sU(P:AI c T)(B:Base c T kx)(G:GS c T kx Γ j)(g:GP Γ)(d:Nat)(hd:d<=100)(hl:Γ "Layout.lay"=iC (Tu d)):∃Γ',GS c T kx Γ' (j+8)/\GP Γ'/\Γ' "Layout.lay"=iC (Tu (d+1)):=by
 let#[e1,e2,e3,e4,e5,e6,e7,e8,e9]:=g;have g1:=P.lr.up B G (WR _ d e2 hl e8 e3) yS;have g2:=P.lc.up B g1 (WU _ d e2 hl e4) yS;have g3:=P.lq.up B g2 (WV _ d hd e2 hl e8) yS;have g4:=P.lay.up B g3 (Tc _ d e9 rfl rfl rfl) yS;exact#[_,g4,#[e1,e2,e3,e4,e5,e6,e7,e8,e9],bC]
def Yf(P:AI c T)(B:Base c T kx)(G:GS c T kx Γ j):∃Γ',GS c T kx Γ' (j+75)/\GP Γ'/\Γ' "Layout.lay"=iC (Tu 4)/\Γ' "Places.__init__"=KQ/\Γ' "Places.beyond"=KR/\Γ' "Places.first_rule"=KS:=by
 let#[Γ0,G0,p0,l0]:=O9 P B G;let#[Γ1,G1,p1,l1]:=sU P B G0 p0 0 ∅ l0;let#[Γ2,G2,p2,l2]:=sU P B G1 p1 1 ∅ l1;let#[Γ3,G3,p3,l3]:=sU P B G2 p2 2 ∅ l2;let#[Γ4,G4,p4,l4]:=sU P B G3 p3 3 ∅ l3;let#[e1,e2,e3,e4,e5,e6,e7,e8,e9]:=p4;have g1:=P.us.up B G4 (WX _ e1) (λus S Q h=>by let#[_,_,_,_,rfl,_]:=h;rfl);have g2:=P.ptt.up B g1 (Td _) (λus S Q h=>by let#[_,_,_,_,_,rfl,_]:=h;rfl);have g3:=P.pi.up B g2 (WZ _ rfl bC) (λus S Q h=>by let#[_,_,_,_,_,rfl,_]:=h;rfl);have g4:=P.XI.up B g3 (W0 _ e1) (λus S Q h=>by let#[_,_,_,_,_,rfl,_]:=h;rfl);have g5:=P.fr.up B g4 (W2 _) (λus S Q h=>by let#[_,_,_,_,_,rfl,_]:=h;rfl);exact#[_,g5.mono ∅,#[e1,e2,e3,e4,e5,e6,e7,e8,e9],l4,rfl,rfl,bC]
open PL.r8 in
def Yg(W:Yd c T)(A:Ur c T)(B:Base c T kx)(G:GS c T kx Γ j)(h1:Γ "Places.beyond"=KR)(h2:Γ "Places.first_rule"=KS)(g:GP Γ)(h3:Γ "Layout.lay"=iC (Tu 4))(h4:Γ "Places.__init__"=KQ):∃Γ',GS c T kx Γ' (j+25)/\GP Γ'/\Γ' "Layout.lay"=iC (Tu 4)/\Γ' "Places.__init__"=KQ/\Γ' "spread"=T3/\Γ' "smallest"=T7/\Γ' "first_texts"=OY:=by
 let#[e1,e2,e3,e4,e5,e6,e7,e8,e9]:=g;have g1:=W.nu.up B G (TH _) (λus S Q h=>by let#[_,rfl,_]:=h;rfl);have g2:=W.te.up B g1 (TJ _) (λus S Q h=>by let#[_,_,_,rfl,_]:=h;rfl);have g3:=W.wn.up B g2 (Xw _) (λus S Q h=>by let#[_,_,_,rfl,_]:=h;rfl);have g4:=W.pa.up B g3 (TM _ rfl) (λus S Q h=>by let#[_,_,_,_,_,_,_,rfl,_]:=h;rfl);have g5:=W.ro.up B g4 (XB _ rfl rfl bC) (λus S Q h=>by let#[_,_,_,_,rfl,_]:=h;rfl);have g6:=W.ti.up B g5 (XC _) (λus S Q h=>by let#[_,_,_,_,rfl,_]:=h;rfl);have g7:=W.go.up B g6 (XD _) (λus S Q h=>by let#[_,_,_,_,_,_,rfl,_]:=h;rfl);have g8:=A.sz.up B g7 (XS _) (λus S Q h=>by let#[_,_,_,_,rfl,_]:=h;rfl);have g9:=W.sp.up B g8 (XG _ h1 h2 rfl) (λus S Q h=>by let#[_,_,_,_,_,rfl,_]:=h;rfl);have ga:=W.st.up B g9 (XH _ rfl rfl rfl) (λus S Q h=>by let#[_,_,_,_,_,rfl,_]:=h;rfl);have gb:=A.ft.up B ga (XU _ rfl rfl) (λus S Q h=>by let#[_,_,_,_,rfl,_]:=h;rfl);exact#[_,gb.mono ∅,#[e1,e2,e3,e4,e5,e6,e7,e8,e9],h3,h4,rfl,rfl,bC]
open PL.r8 in
def Yh(A:Ur c T)(B:Base c T kx)(G:GS c T kx Γ j)(h1:Γ "table_of"=Ua)(h2:Γ "first_texts"=OY):∃Γ',GS c T kx Γ' (j+6)/\Γ' "samples"=LC/\Γ' "unused"=OZ:=by
 have g1:=A.sa.up B G (Ub _) (λus S Q h=>by let#[_,_,_,_,_,_,_,rfl,_]:=h;rfl);have g2:=A.ss.up B g1 (XW _ h1 h2 bC) (λus S Q h=>by let#[_,_,_,rfl,_]:=h;rfl);have g3:=A.un.up B g2 (XX _ bC) (λus S Q h=>by let#[_,_,_,rfl,_]:=h;rfl);exact#[_,g3.mono ∅,rfl,bC]
def sV(L:Et c T)(B:Base c T kx)(G:GS c T kx Γ j)(d:Nat)(hd:d<=100)(h1:Γ "_law_nothing"=Al d)(h2:Γ "_law_behind"=Eg d):∃Γ',GS c T kx Γ' (j+4)/\Γ' "_law_nothing"=Al (d+1)/\Γ' "_law_behind"=Eg (d+1):=by
 have g1:=L.be.up B G (Xb _ d hd h2 h1) (λus S Q h=>by let#[_,_,rfl,_]:=h;rfl);have g2:=L.no.up B g1 (Xa _ d h1) (λus S Q h=>by let#[_,rfl,_]:=h;rfl);exact#[_,g2,bC,rfl]
def Yi(L:Et c T)(B:Base c T kx)(G:GS c T kx Γ j):∃Γ',GS c T kx Γ' (j+70)/\Γ' "_law_mix"=u9.yE/\Γ' "_law_trees"=Ts/\Γ' "_law_first"=PL.r8.Lu/\Γ' "_law_wholes"=PL.r8.O1/\Γ' "_law_shortest"=PL.r8.LD:=by
 have a1:=L.no.up B G (sp:=Al 0) (λus S Q h=>by
  obtain⟨_,_,⟨_,_,h,_⟩|⟨_,_,h,_⟩⟩:=h
  .erw[absurd h (de _)]
  .erw[absurd h (de _)]) (λus S Q h=>by let#[_,rfl,_]:=h;rfl)
 have a2:=L.be.up B a1 (sp:=Eg 0) (λus S Q h=>by
  obtain⟨_,_,_,⟨_,_,h,_⟩|⟨_,_,h,_⟩⟩:=h
  .erw[absurd h (de _)]
  .erw[absurd h (de _)]) (λus S Q h=>by let#[_,_,rfl,_]:=h;rfl)
 let#[Γ1,G1,n1,b1]:=sV L B a2 0 ∅ rfl bC;let#[Γ2,G2,n2,b2]:=sV L B G1 1 ∅ n1 b1;let#[Γ3,G3,n3,b3]:=sV L B G2 2 ∅ n2 b2;let#[Γ4,G4,n4,b4]:=sV L B G3 3 ∅ n3 b3;let#[Γ5,G5,n5,b5]:=sV L B G4 4 ∅ n4 b4;have c1:=L.cell.up B G5 (sp:=u9.Ed) (u9.Oy _) (λus S Q h=>by let#[_,_,rfl,_]:=h;rfl);have c2:=L.mix.up B c1 (sp:=u9.yE) (u9.SJ _ bC) (λus S Q h=>by let#[_,_,rfl,_]:=h;rfl);have c3:=L.all.up B c2 (sp:=u9.Kz) (u9.SK _) (λus S Q h=>by let#[rfl,_]:=h;rfl);have c4:=L.sm.up B c3 (sp:=OM 0) (λus S Q h=>by let#[_,_,_,_,_,h,_]:=h;erw[absurd h (de _)]) (λus S Q h=>by let#[_,_,_,rfl,_]:=h;rfl);have c5:=L.sm.up B c4 (K7 _ 0 rfl rfl bC) (λus S Q h=>by let#[_,_,_,rfl,_]:=h;rfl);have c6:=L.sm.up B c5 (K7 _ 1 rfl rfl bC) (λus S Q h=>by let#[_,_,_,rfl,_]:=h;rfl);have c7:=L.sm.up B c6 (K7 _ 2 rfl rfl bC) (λus S Q h=>by let#[_,_,_,rfl,_]:=h;rfl);have c8:=L.tr.up B c7 (Xt _ bC n5) (λus S Q h=>by let#[_,_,_,_,rfl,_]:=h;rfl);have cc:=L.re.up B c8 (Xd _ b5) (λus S Q h=>by let#[_,_,_,_,_,_,rfl,_]:=h;rfl);have cd:=L.ed.up B cc (Xe _ n5) (λus S Q h=>by let#[_,_,_,_,rfl,_]:=h;rfl);have ce:=L.f1.up B cd (PL.r8.XN _ rfl bC) (λus S Q h=>by let#[_,_,_,rfl,_]:=h;rfl);have cf:=L.wh.up B ce (PL.r8.X2 _) (λus S Q h=>by let#[_,rfl,_]:=h;rfl);have cg:=L.wo.up B cf (PL.r8.X3 _ bC) (λus S Q h=>by let#[_,_,rfl,_]:=h;rfl);have ch:=L.ls.up B cg (PL.r8.XY _ rfl) (λus S Q h=>by let#[_,_,_,_,rfl,_]:=h;rfl);have ci:=L.lt.up B ch (PL.r8.X0 _ rfl) (λus S Q h=>by let#[_,_,_,rfl,_]:=h;rfl);have cj:=L.sh.up B ci (PL.r8.X7 _ rfl bC) (λus S Q h=>by let#[_,_,_,rfl,_]:=h;rfl);exact#[_,cj.mono ∅,rfl,rfl,rfl,rfl,bC]
def AJ(l:List String)(G1:GS c T kx Γ1 j)(G2:GS c T kx Γ2 j):GS c T kx (λx=>if x∈l then Γ1 x else Γ2 x) j:=#[G1.le,gQ.mix G1.ok G2.ok λx=>by
 by_cases h:x∈l
 .erw[.inl (if_pos h)]
 .erw[.inr (if_neg h)]]
def LL{xs qual:Str}{st:Stmt}{f:Addr}{fd:fT}{N ps:List Str}(R:Hy c T)(W:Uq c T)(P:AI c T)(Tb:Yd c T)(A:Ur c T)(L:Et c T)(F:LZ c.K xs qual st f fd)(S:me N ps (bY st))(tx:L3 T 60 #[(bY st).names,N,ζ] (f9 st)=ξ PL.CO.E3)(hm:N.length=ps.length+6)(hp:ps.length=1)(B:Base c T 1)(G:gQ c T (λ_=>xF) 1):jU c.P c.w c.K c.mg c.base Ds 200 f fd ps (lift c D6):=by
 have G:GS c T 1 (λ_=>xF) 1:=#[ao _,G]
 obtain⟨Γr,Gr,-,hr,-⟩:=Er R B G;let#[Γw,Gw,hw]:=Ye R W B G;let#[Γq,Gq,gq,ql,qi,qb,qf]:=Yf P B G;let#[Γp,Gp,gp,pl,pi,ps1,pt,pf]:=Yg Tb A B Gq qb qf gq ql qi;let#[Γl,Gl,l1,l2,l3,l4,l5]:=Yi L B G;let#[e1,e2,e3,e4,e5,e6,e7,e8,e9]:=gp;have m1:=AJ ["read"] Gr (Gp.mono (k:=1+130) ∅);have g1:=P.to.up B m1 (W5 _ hr) (λus S Q h=>by let#[_,_,_,_,rfl,_]:=h;rfl);have g2:=P.po.up B g1 (W8 _ e5 pl bC e6 e7 pi) (λus S Q h=>by let#[_,_,_,_,rfl,_]:=h;rfl);have g4:=Tb.tb.up B g2 (PL.r8.XM _ bC ps1 pt) (λus S Q h=>by let#[_,_,_,rfl,_]:=h;rfl);let#[Γd,g5,d1,d2]:=Yh A B g4 bC pf;have m2:=AJ ["written"] (Gw.mono (k:=145) ∅) (g5.mono ∅);have m3:=AJ ["_law_mix","_law_trees","_law_first","_law_wholes","_law_shortest"] (Gl.mono (k:=145) ∅) m2;have h:=Pu F S B m3.le m3.ok tx (sp:=D6) (PL.r8.LH _ l1 l2 l4 hw d1 d2 l5 l3) hm (λus S Q h=>by let#[_,rfl,_]:=h;erw[hp.symm]);erw[h.mono ∅]
end
end L2
section
set_option autoImplicit false
namespace Eu
open PySem PySem.Spec PyProof.Rows PySem.W L2
abbrev top(i:Nat):Stmt:=PySem.Challenge.pw_tokenwright_k31_samples.main.body.getD i (.Pass #[0,0,0,0])
abbrev rows:List pH:=
 #["in_order","in_order","",top 4,["signs"],["signs"],PL.og]::
 #["all_but","all_but","",top 5,["signs"],["signs"],PL.p6]::
 #["is_ahead","is_ahead","",top 6,["one","other"],["one","other"],PL.oh]::
 #["stretch","stretch","",top 7,["first","last"],["first","last"],PL.p7]::
 #["read","read","",top 17,["text","reader","tree"],["text"],PL.zN]::
 #["joined","joined","",top 18,["kind","trees"],["kind","trees"],PL.r6]::
 #["Reader.__init__","__init__","Reader",inClass (top 19) 0,["self","text"],["self","text"],PL.km]::
 #["Reader.sees","sees","Reader",inClass (top 19) 1,["self","signs"],["self","signs"],PL.ko]::
 #["Reader.passes","passes","Reader",inClass (top 19) 2,["self","signs"],["self","signs"],PL.i5]::
 #["Reader.choice","choice","Reader",inClass (top 19) 3,["self","trees"],["self"],PL.i6]::
 #["Reader.row","row","Reader",inClass (top 19) 4,["self","trees"],["self"],PL.k6]::
 #["Reader.repeat","repeat","Reader",inClass (top 19) 5,["self","tree"],["self"],PL.i7]::
 #["Reader.atom","atom","Reader",inClass (top 19) 6,["self"],["self"],PL.kq]::
 #["Reader.bracket","bracket","Reader",inClass (top 19) 7,["self","tree"],["self"],PL.iG]::
 #["Reader.sign_class","sign_class","Reader",inClass (top 19) 8,["self","turned","taken"],["self"],PL.fJ]::
 #["Reader.item","item","Reader",inClass (top 19) 9,["self","first","second_at","second"],["self"],PL.kr]::
 #["Reader.written_sign","written_sign","Reader",inClass (top 19) 10,["self","marked","sign"],["self","marked"],PL.eP]::
 #["written","written","",top 51,["tree"],["tree"],PL.p8]::
 #["row_text","row_text","",top 52,["tree"],["tree"],PL.oj]::
 #["repeat_text","repeat_text","",top 53,["tree","marks","inner"],["tree"],PL.kz]::
 #["atom_text","atom_text","",top 54,["tree"],["tree"],PL.mr]::
 #["place_text","place_text","",top 55,["signs"],["signs"],PL.k7]::
 #["sign_text","sign_text","",top 56,["sign","marked"],["sign","marked"],PL.mv]::
 #["class_texts","class_texts","",top 57,["signs","texts"],["signs"],PL.kA]::
 #["guarded","guarded","",top 58,["items"],["items"],PL.p9]::
 #["class_items","class_items","",top 59,["signs","items","run"],["signs"],PL.kB]::
 #["runs","runs","",top 60,["signs","found","run","sign"],["signs"],PL.zO]::
 #["run_items","run_items","",top 61,["run","singles","whole"],["run"],PL.mw]::
 #["places_of","places_of","",top 23,["rules","most","layout","number","rule","part"],["rules","most"],PL.nq.mB]::
 #["tree_of","tree_of","",top 24,["rule","number","fault"],["rule","number"],PL.nq.qa]::
 #["members","members","",top 25,["bits"],["bits"],PL.nq.qc]::
 #["Part.__init__","__init__","Part",inClass (top 26) 0,["self","empty","firsts","lasts"],["self","empty","firsts","lasts"],PL.nq.mC]::
 #["one_behind_other","one_behind_other","",top 27,["one","other","firsts","lasts"],["one","other"],PL.nq.gf]::
 #["one_or_other","one_or_other","",top 28,["one","other"],["one","other"],PL.nq.jI]::
 #["Layout.__init__","__init__","Layout",inClass (top 29) 0,["self"],["self"],PL.nq.kC]::
 #["Layout.how_many","how_many","Layout",inClass (top 29) 1,["self"],["self"],PL.nq.gM]::
 #["Layout.close_rule","close_rule","Layout",inClass (top 29) 2,["self","part"],["self","part"],PL.nq.fK]::
 #["Layout.link","link","Layout",inClass (top 29) 3,["self","lasts","firsts","place"],["self","lasts","firsts"],PL.nq.kD]::
 #["Layout.lay","lay","Layout",inClass (top 29) 4,["self","tree"],["self","tree"],PL.nq.k8]::
 #["Layout.lay_place","lay_place","Layout",inClass (top 29) 5,["self","signs","place"],["self","signs"],PL.nq.gh]::
 #["Layout.lay_row","lay_row","Layout",inClass (top 29) 6,["self","trees","whole","tree","part"],["self","trees"],PL.nq.iH]::
 #["Layout.lay_choice","lay_choice","Layout",inClass (top 29) 7,["self","trees","whole","tree"],["self","trees"],PL.nq.fL]::
 #["Layout.lay_repeat","lay_repeat","Layout",inClass (top 29) 8,["self","tree","marks","inner","part","empty"],["self","tree"],PL.nq.fM]::
 #["useful_places","useful_places","",top 30,["layout","takes_some","grown","lasts","useful","place"],["layout"],PL.nq.i8]::
 #["places_that_take","places_that_take","",top 31,["layout","sign"],["layout","sign"],PL.nq.gu]::
 #["Places.__init__","__init__","Places",inClass (top 32) 0,["self","layout","useful"],["self","layout"],PL.nq.kE]::
 #["Places.beyond","beyond","Places",inClass (top 32) 1,["self","held","reached","place"],["self","held"],PL.nq.i9]::
 #["Places.first_rule","first_rule","Places",inClass (top 32) 2,["self","held","number","lasts"],["self","held"],PL.nq.fN]::
 #["table_of","table_of","",top 35,["rules"],["rules"],PL.r8.oq]::
 #["Table.__init__","__init__","Table",inClass (top 36) 0,["self","told","rows"],["self","told","rows"],PL.r8.lj]::
 #["Table.goes","goes","Table",inClass (top 36) 2,["self","state","sign"],["self","state","sign"],PL.r8.lu]::
 #["spread","spread","",top 37,["places","lots","numbers","rows","reach","row","sign","held"],["places"],PL.r8.r9]::
 #["smallest","smallest","",top 38,["table","blocks","told","rows","state","row"],["table"],PL.r8.ou]::
 #["with_nowhere","with_nowhere","",top 39,["rows","nowhere"],["rows"],PL.r8.jK]::
 #["rounds","rounds","",top 40,["told","rows","signs","found","finer"],["told","rows"],PL.r8.sd]::
 #["parted","parted","",top 41,["blocks","rows","signs","keys","state","row"],["blocks","rows","signs"],PL.r8.se]::
 #["numbered","numbered","",top 42,["keys","numbers"],["keys"],PL.r8.ow]::
 #["telling_signs","telling_signs","",top 43,["rows","firsts","sign"],["rows"],PL.r8.ja]::
 #["Table.size","size","Table",inClass (top 36) 1,["self"],["self"],PL.Nv.lz]::
 #["first_texts","first_texts","",top 48,["table","texts","state","sign","behind"],["table"],PL.Nv.kG]::
 #["sample","sample","",top 47,["table","texts","number"],["table","texts","number"],PL.Nv.si]::
 #["samples","samples","",top 45,["rules","table","texts"],["rules"],PL.Nv.qd]::
 #["unused","unused","",top 46,["rules"],["rules"],PL.Nv.sf]::
 #["_law_cell","_law_cell","",top 63,["_law_script","_law_k"],["_law_script","_law_k"],PL.u9.mz]::
 #["_law_mix","_law_mix","",top 64,["_law_script","_law_k","_law_number"],["_law_script","_law_k"],PL.u9.om]::
 #["_law_all","_law_all","",top 67,["_law_low"],[],PL.u9.oo]::
 #["_law_nothing","_law_nothing","",top 68,["_law_tree"],["_law_tree"],PL.nq.jJ]::
 #["_law_behind","_law_behind","",top 69,["_law_tree","_law_sign","_law_found","_law_part","_law_k","_law_more_here"],["_law_tree","_law_sign"],PL.nq.kF]::
 #["_law_rests","_law_rests","",top 70,["_law_rows","_law_sign","_law_found","_law_row","_law_rest"],["_law_rows","_law_sign"],PL.nq.k9]::
 #["_law_ends","_law_ends","",top 71,["_law_rows"],["_law_rows"],PL.nq.pE]::
 #["_law_first","_law_first","",top 74,["_law_trees_here","_law_text_here","_law_k","_law_rows","_law_sign"],["_law_trees_here","_law_text_here"],PL.r8.ly]::
 #["_law_small","_law_small","",top 77,["_law_script","_law_base","_law_deep","_law_number","_law_way","_law_parts"],["_law_script","_law_base","_law_deep"],PL.nq.lg]::
 #["_law_trees","_law_trees","",top 78,["_law_script","_law_base","_law_many","_law_deep","_law_found","_law_k","_law_tree"],["_law_script","_law_base","_law_many","_law_deep"],PL.nq.lh]::
 #["_law_whole","_law_whole","",top 65,["_law_found"],["_law_found"],PL.CO.lA]::
 #["_law_wholes","_law_wholes","",top 66,["_law_found"],["_law_found"],PL.CO.kH]::
 #["_law_steps","_law_steps","",top 80,["_law_rows","_law_sign"],["_law_rows","_law_sign"],PL.CO.lB]::
 #["_law_tells","_law_tells","",top 81,["_law_rows","_law_good"],["_law_rows"],PL.CO.lC]::
 #["_law_shortest","_law_shortest","",top 82,["_law_trees_here","_law_rule","_law_longest","_law_left","_law_seen","_law_one_here","_law_sign","_law_rows"],["_law_trees_here","_law_rule","_law_longest"],PL.CO.jb]::[]
abbrev T:Tab where
 const:=[("SIGNS",.str PL.SG),("MARKED_OUTSIDE",.str [46,124,40,41,91,93,42,43,63,92]),("MARKED_WITHIN",.str [93,45,92]),("DEEPEST",.int 6),("REPEATS",.tab [([42],[115,116,97,114]),([43],[112,108,117,115]),([63],[109,97,121,98,101])]),("BEHIND_BACKSLASH",.str [46,124,40,41,91,93,42,43,63,92,45,94,110]),("MOST_RULES",.int 6),("AHEAD",.int 1),("MOST_PLACES",.int 10),("MARKS",.tab [([115,116,97,114],[42]),([112,108,117,115],[43]),([109,97,121,98,101],[63])])]
 fns:=LJ rows
 qW:=["Reader","Part","Layout","Places","Table"]
 qX:=LK rows
 zP:=["text","at","depth","rule","empty","firsts","lasts","signs","behind","ends","takers","takes","told","rows"]
 iA:=["len","tuple","list","int","bool","str","dict","sum","min","max","all","any","isinstance","range","enumerate"]
def aa9:rows.all HA=ζ:=by decide +kernel
def aba:rows.all (Um T)=ζ:=by decide +kernel
def abb:rows.map (λr=>L3 T 60 #[(bY r.st).names,r.N,ζ] (f9 r.st))=rows.map λr=>ξ r.b:=by kernel_rfl
def Yj:∀r∈rows,AH r:=by
 unfold rows
 repeat' refine aZ.mpr #[?_,?_]
 all_goals first|exact λ_ h=>(cA h).elim|exact bd1 rfl λ_ _ _ _ _ _ _ _ _=>rfl|exact bd2 rfl λ_ _ _ _ _ _ _ _ _ _=>rfl|exact bd3 rfl λ_ _ _ _ _ _ _ _ _ _ _=>rfl|exact bd0 rfl λ_ _ _ _ _ _ _ _=>rfl|exact bd4 rfl λ_ _ _ _ _ _ _ _ _ _ _ _=>rfl
@[reducible]def sL:Stmt:=top 83
def Us:me ["_law_script","_law_trees_here","_law_rules","_law_found","_law_k","_law_some","_law_told"] ["_law_script"] (bY sL):=#[rfl,rfl,rfl,by decide +kernel,rfl,by decide +kernel,by decide +kernel]
def Ut:L3 T 60 #[(bY sL).names,["_law_script","_law_trees_here","_law_rules","_law_found","_law_k","_law_some","_law_told"],ζ] (f9 sL)=ξ PL.CO.E3:=by kernel_rfl
end Eu
end
section
set_option autoImplicit true
namespace Eu
open PySem PySem.Spec PyProof.Rows PySem.W L2
def all_mk{l:H8}{w:cG}{K:Frag}{h:Heap}{mg:Str->Option Value}{fa:Addr}(X:K.In h)(G:h.Ns bJ mg)(hfa:mg "law"=ξ (.ref fa))
  (a_law:nsIn K bJ "law"=ξ (ξ (.ref fl)))
  (f_law:Hz K "law" "law" sL fl)
  (hC:∀p∈([("Reader",C_Reader),("Part",C_Part),("Layout",C_Layout),("Places",C_Places),("Table",C_Table)]:List (String×Addr)),O6 K p T.zP)
  (hR:∀r∈rows,Co K [("Reader",C_Reader),("Part",C_Part),("Layout",C_Layout),("Places",C_Places),("Table",C_Table)] r)
  (a_SIGNS:nsIn K bJ "SIGNS"=ξ (ξ (.str z_SIGNS t_SIGNS)))
  (e_SIGNS:z_SIGNS=tx PL.SG)
  (a_MARKED_OUTSIDE:nsIn K bJ "MARKED_OUTSIDE"=ξ (ξ (.str z_MARKED_OUTSIDE t_MARKED_OUTSIDE)))
  (e_MARKED_OUTSIDE:z_MARKED_OUTSIDE=tx [46,124,40,41,91,93,42,43,63,92])
  (a_MARKED_WITHIN:nsIn K bJ "MARKED_WITHIN"=ξ (ξ (.str z_MARKED_WITHIN t_MARKED_WITHIN)))
  (e_MARKED_WITHIN:z_MARKED_WITHIN=tx [93,45,92])
  (a_DEEPEST:nsIn K bJ "DEEPEST"=ξ (ξ (.int 6 t_DEEPEST)))
  (a_REPEATS:nsIn K bJ "REPEATS"=ξ (ξ (.ref r_REPEATS)))
  (l_REPEATS:K.lookup r_REPEATS=ξ #[.type "dict",ψ,.dict es_REPEATS ec_REPEATS,#[]])
  (kl_REPEATS:CC w.params es_REPEATS.toList)
  (ky_REPEATS:es_REPEATS.toList.map (λe=>HB e.key)= [ξ ("*":Str),ξ ("+":Str),ξ ("?":Str)])
  (sm_REPEATS:(r_REPEATS==cu)=ϑ)
  (r_REPEATS0:nsIn K r_REPEATS "*"=ξ (ξ (.str z_REPEATS0 t_REPEATS0)))
  (re_REPEATS0:z_REPEATS0=tx [115,116,97,114])
  (r_REPEATS1:nsIn K r_REPEATS "+"=ξ (ξ (.str z_REPEATS1 t_REPEATS1)))
  (re_REPEATS1:z_REPEATS1=tx [112,108,117,115])
  (r_REPEATS2:nsIn K r_REPEATS "?"=ξ (ξ (.str z_REPEATS2 t_REPEATS2)))
  (re_REPEATS2:z_REPEATS2=tx [109,97,121,98,101])
  (a_BEHIND_BACKSLASH:nsIn K bJ "BEHIND_BACKSLASH"=ξ (ξ (.str z_BEHIND_BACKSLASH t_BEHIND_BACKSLASH)))
  (e_BEHIND_BACKSLASH:z_BEHIND_BACKSLASH=tx [46,124,40,41,91,93,42,43,63,92,45,94,110])
  (a_MOST_RULES:nsIn K bJ "MOST_RULES"=ξ (ξ (.int 6 t_MOST_RULES)))
  (a_AHEAD:nsIn K bJ "AHEAD"=ξ (ξ (.int 1 t_AHEAD)))
  (a_MOST_PLACES:nsIn K bJ "MOST_PLACES"=ξ (ξ (.int 10 t_MOST_PLACES)))
  (a_MARKS:nsIn K bJ "MARKS"=ξ (ξ (.ref r_MARKS)))
  (l_MARKS:K.lookup r_MARKS=ξ #[.type "dict",ψ,.dict es_MARKS ec_MARKS,#[]])
  (kl_MARKS:CC w.params es_MARKS.toList)
  (ky_MARKS:es_MARKS.toList.map (λe=>HB e.key)= [ξ ("star":Str),ξ ("plus":Str),ξ ("maybe":Str)])
  (sm_MARKS:(r_MARKS==cu)=ϑ)
  (r_MARKS0:nsIn K r_MARKS "star"=ξ (ξ (.str z_MARKS0 t_MARKS0)))
  (re_MARKS0:z_MARKS0=tx [42])
  (r_MARKS1:nsIn K r_MARKS "plus"=ξ (ξ (.str z_MARKS1 t_MARKS1)))
  (re_MARKS1:z_MARKS1=tx [43])
  (r_MARKS2:nsIn K r_MARKS "maybe"=ξ (ξ (.str z_MARKS2 t_MARKS2)))
  (re_MARKS2:z_MARKS2=tx [63])
  (hz:∀b∈T.iA,nsIn K bJ (cv b)=ξ ψ)
  : ∃fd:fT,(∀(s:aE)(v:Value),Cu s fd #[[v],[]] [("_law_script",v)])/\∀base:Heap,K.In base->base.Ns bJ mg->jU l.prog w K mg base Ds 200 fa fd ["_law_script"] (zY K):=by
 have e:=hfa.symm.trans (rB X G a_law);cases e;let#[oc,od,kV,dc,pm,an,cd,ct,sl,h1,h2,h3]:=f_law;refine#[fnOf "law" "law" (mf sL) (f9 sL) (bY sL) .none kV dc pm an cd ct,λs v=>.of_eq rfl,λbase _ _=>?_]
 let c:L2.Ctx:=#[l.prog,w,K,mg,base,λx=>([("Reader",C_Reader),("Part",C_Part),("Layout",C_Layout),("Places",C_Places),("Table",C_Table)]:List (String×Addr)).lookup x]
 have hT:JW c T:=by
  refine#[?_,λx hx=>mg_none_of X G (hz x hx),Up rfl hC]
  .exact(aZ.mpr #[vj (rB X G a_SIGNS) e_SIGNS,(aZ.mpr #[vj (rB X G a_MARKED_OUTSIDE) e_MARKED_OUTSIDE,(aZ.mpr #[vj (rB X G a_MARKED_WITHIN) e_MARKED_WITHIN,(aZ.mpr #[#[.int 6,_,rB X G a_DEEPEST,#[t_DEEPEST,rfl],λ_ _=>aP.mpr rfl],(aZ.mpr #[Yc (rB X G a_REPEATS) l_REPEATS kl_REPEATS ky_REPEATS sm_REPEATS (by kernel_rfl:("*":Str)=tx [42]) (by kernel_rfl:("+":Str)=tx [43]) (by kernel_rfl:("?":Str)=tx [63]) r_REPEATS0 re_REPEATS0 r_REPEATS1 re_REPEATS1 r_REPEATS2 re_REPEATS2,(aZ.mpr #[vj (rB X G a_BEHIND_BACKSLASH) e_BEHIND_BACKSLASH,(aZ.mpr #[#[.int 6,_,rB X G a_MOST_RULES,#[t_MOST_RULES,rfl],λ_ _=>aP.mpr rfl],(aZ.mpr #[#[.int 1,_,rB X G a_AHEAD,#[t_AHEAD,rfl],λ_ _=>aP.mpr rfl],(aZ.mpr #[#[.int 10,_,rB X G a_MOST_PLACES,#[t_MOST_PLACES,rfl],λ_ _=>aP.mpr rfl],(aZ.mpr #[Yc (rB X G a_MARKS) l_MARKS kl_MARKS ky_MARKS sm_MARKS (by kernel_rfl:("star":Str)=tx [115,116,97,114]) (by kernel_rfl:("plus":Str)=tx [112,108,117,115]) (by kernel_rfl:("maybe":Str)=tx [109,97,121,98,101]) r_MARKS0 re_MARKS0 r_MARKS1 re_MARKS1 r_MARKS2 re_MARKS2,(λ_ h=>(cA h).elim)])])])])])])])])])])
 have hB:Base c T 1:=#[hT]
 have G0:gQ c T (λ_=>xF) 1:=Uo X G rfl hC hR Yj rfl rfl (aZ.mpr #[#[rows[6],cq _,rfl,rfl,rfl],(aZ.mpr #[#[rows[31],cq _,rfl,rfl,rfl],(aZ.mpr #[#[rows[34],cq _,rfl,rfl,rfl],(aZ.mpr #[#[rows[45],cq _,rfl,rfl,rfl],(aZ.mpr #[#[rows[49],cq _,rfl,rfl,rfl],(λ_ h=>(cA h).elim)])])])])]);have R:=O7 (c:=c) X G rfl hC hR Yj aa9 aba abb;erw[Og (LL #[R 0 _ rfl,R 1 _ rfl,R 2 _ rfl,R 3 _ rfl,R 4 _ rfl,R 5 _ rfl,R 6 _ rfl,R 7 _ rfl,R 8 _ rfl,R 9 _ rfl,R 10 _ rfl,R 11 _ rfl,R 12 _ rfl,R 13 _ rfl,R 14 _ rfl,R 15 _ rfl,R 16 _ rfl] #[R 17 _ rfl,R 18 _ rfl,R 19 _ rfl,R 20 _ rfl,R 21 _ rfl,R 22 _ rfl,R 23 _ rfl,R 24 _ rfl,R 25 _ rfl,R 26 _ rfl,R 27 _ rfl] #[R 28 _ rfl,R 29 _ rfl,R 30 _ rfl,R 31 _ rfl,R 32 _ rfl,R 33 _ rfl,R 34 _ rfl,R 35 _ rfl,R 36 _ rfl,R 37 _ rfl,R 38 _ rfl,R 39 _ rfl,R 40 _ rfl,R 41 _ rfl,R 42 _ rfl,R 43 _ rfl,R 44 _ rfl,R 45 _ rfl,R 46 _ rfl,R 47 _ rfl] #[R 48 _ rfl,R 49 _ rfl,R 50 _ rfl,R 51 _ rfl,R 52 _ rfl,R 53 _ rfl,R 54 _ rfl,R 55 _ rfl,R 56 _ rfl,R 57 _ rfl] #[R 58 _ rfl,R 59 _ rfl,R 60 _ rfl,R 61 _ rfl,R 62 _ rfl] #[R 63 _ rfl,R 64 _ rfl,R 65 _ rfl,R 66 _ rfl,R 67 _ rfl,R 68 _ rfl,R 69 _ rfl,R 70 _ rfl,R 71 _ rfl,R 72 _ rfl,R 73 _ rfl,R 74 _ rfl,R 75 _ rfl,R 76 _ rfl,R 77 _ rfl] (IU h1 h2 h3) Us Ut rfl rfl hB G0)]
def walk{l:H8}{q:bQ}{loose:List Str}{XP:(Str->Option Value)->Heap->Prop}{YP:cG->Heap->Prop}{d:DefRec}{K:Params->Frag}(hn:l.most=ξ 63)(hdf:d.params.defaults=[])
  (hY:∀(w:cG)(h:Heap),YP w h->(K w.params).In h)
  (F:∀(w:cG)(mg:Str->Option Value)(fa:Addr)(h:Heap),(K w.params).In h->h.Ns bJ mg->mg d.name=ξ (.ref fa) ->
   ∃fd:fT,(∀(s:aE)(u:Value),Cu s fd #[[u],[]] [("_law_script",u)])/\∀base:Heap,(K w.params).In base->base.Ns bJ mg->jU l.prog w (K w.params) mg base Ds 200 fa fd ["_law_script"] (zY (K w.params))):
  WalkO q loose XP YP l.row.toRowW d [] (λf vs=>FV f vs):=
 L2.MS (n:=63) (k:=200) (x:="_law_script") (CX:=λ_=>Ds) (sp:=λw=>zY (K w.params)) hn ⋯ hdf #[rfl,⋯,⋯] hY F (λ_ _ a ns hl o hS=>#[a,ns,rfl,hl,Kj o hS,λ_=>rfl]) λ_ _ _ _ _ z=>z
end Eu
end
end Lake
end
section
open Lake
local macro_rules(kind:=Lean.Parser.Command.print)|x=>match x[1].isStrLit? with
 |some s=>let r:=s.foldl (fun(a:Array Lean.Syntax×Nat×Nat) c=>let d:=c.toNat;let n:=a.2.2*90+(if d>92 then d-36 else d-35);if a.2.1==9 then (a.1.push (zR .missing ("0N 0N 0N 0N 0N 0N 0N 7declModifiers . 'PySem.W.Fast.tw"++toString n++" 0N 2declId 0N . 'True 2EtypeSpec 2declSig . 'trivial 0N 0N 2PTermination.suffix 0N 4declValSimple 4theorem 2declaration")),0,0) else (a.1,a.2.1+1,n)) (#[],0,0);pure (Lean.mkNullNode r.1)
 |_=>Lean.Macro.throwUnsupported
#print "&@P8@;ZOK`'AaNAN8UrR:&QE[$[$b+;PGEiav?*i/fGzz9*WgeC-h6<CcI(8$?-*cXDn,64:[%QWAu:`K%m|}d=Iqs4aO#=Zy@,B27.v)d%RtE.{XD]a:3;z2JmGT*Oqu=N]blhZy@iw'z|J)#;gd0+#ZwAD5APP+i@2I_.jK,),tqYXgAR_OSr`n33.B.QW7o.B?w`H'xSe@db$-PR/rA%71s.#J}kVQ$eVw^8P6Q;%8Ge/45v*a@W>|YM2lEC9J}J31gr/k}RwZWCKz,S*>C3VI5-RDJh-'4)m:<`bfnf@$CE]g:?po.Kgv|iZTq)M?v&_raA*wY(U1{^/0,w1HuxFM,STP:F|:Ws-re,o4Wl0_^l3p],(s9'3J9fWQ89%1C/|$n5Hss/n8dKF1a@26O%FN(#gV<{C('{q83SN4BL-3AIx0lNgLmkIK,=G':^Qq4;=+2klHuHa$Q#B,&+ec5IC^Su+z}@)LZb4`n<[=b-Nme[9Pd;@I](BV#_`FX/Nwav>Z(6|HBY>U`8n9j>RmcP/jgGR-W|l=n>`WJ0|wiV/=3980BIK&kw}1V',E-u(],zHOfSe7SOxZbQ;Phib{K-y7b|8{GbsUo8?JRyL@X^<'uJ^):k<ZGFH/tMXe`X89UM3,0.GpKHg&2U5F`nN8/Pqw3#1@?PSm.LZTf,O(n^bv8QfXO%6jwSn>s&?2Mqn3Wf(um.>38U1`g=eFr^BYp*m.q<fvOc^`};L6gklzhGf}f>@$+L<hdr_9bW'5_FT5|5|HmXP-GS]<N9-{J6q#s$.n3oj%Zmx0>.S4<V(I^-UUal9BKvz)h:1F1HQ.L4Hqf=PGzdO&b3/iora'QEMnEqzKRa*9|^v(y8Qs{:ocM/]SuR$&#kkU?Pl?@7sHnc&yHH>59xE?o[;`Z6>z7{RNI%/5;8?EH1SJG0HGo?R&&E^AQi@{%`n',A'Cu33l}y,'}#S30o9Kv7=hIYV)bB+9(hyAf?)vv;;U:$=]aiSCfXtL+aUN)DXgq4&r]u%K}YY{W/gYdNOh{0'(#H5*ky{i3f-bbBm(:}bXZ9rI;gH[|w}wP)Uq:fr7OL<J&[r>X(oY*#+=nlux).G;wNeIcmFhTNH1.IAt&C5=ZIFM:Vy[,*'K03a'0>DFY/Wm^;_qbNMVb5257Z_N}lCingH0M?&g^8F08bGHr%13oKun7NBPZ4aR?X@3sKCei{8KHF?lY`0D>x+N<W,p??.g6GfRsx(BB/WE?r:TbKd6;%T+)TdZxp+DD6AIV2ehN*H5H]i|(|>-A_V0111x/$T26QhCod0(A<^e)hI^.<MEEf1}}?RD4N=2Jv[)B%oY0.HPk4[=[1A7|Z[NR(rHp-4G<c)&n'I#2X3GU.KBKh%QF8V>lJA2tC<8NLY.?Cq_VRi%9<0MRz5L@7YG}.XUyFMNPF0Dy5Vf|%'a#%:(R2G.L;v-c7Q}V&g2Oc'kAhz)9H(3:}1ofR)QR]ChbLuR*f;Ux+*s4L2y|kUgxb1?ngDXoSpA-,:;;n}tNHpD`Sda1)MoC,1n$p|f-,YICoSFs-*O-%}:bL5){&g4;R>?9e<@V.VjSu]vf<j,1iAcib;g>)PI'Ys%>[P8w1d2`3`%zEZ|OWw4lBH9sX/jCCX2Q(c:H*m<e`/H*Kce}SR-I(}lbETKSQ>A&vpfXJ{+4.gsX7I,.5o&A2=iOqoe@&%Sa%Sq>GvJ.hx_-XGD35TRy>*.c@TQIzdXR{9C*Fde`yL`1WC9tZ(TX$ZMd88JTqG8?4.NuY]fG||Ym$EugVJhMHM(xwoRT.yQo92j%r5{`ux?LPfo?B+=J?Dr9Mz8Ic#&jte(S?EZD*#HGfX$9&zIUTm`JvR;n:Diuw$YZ70Agr2|/IYb}'?jb(4nYztGDXtUIhf?ZE`)1s8+W;c+S:5w0){kRG%yPoNfb{xB}VS_8YaQNFRzjK+[h{>Qw*P-;@V#Y6_F63f)y)hM6>%7[E#;^'I<S84?^r<HkA+*u)0(+*{o7T5w||$4ky0/7;^|E/GSa%E.0R*/XJ7upk=PxK{,jCamGqSMPLXWS).L=:)$#3i7=DmR5x'tT8Bj[.qW$vyKSW/7+9:UD-dnAMn&H)$0BEs'6Q`>@h&4^7,6pCMlq0g6?^/C,q|w#5CM<2SfW*n6Cdaros`*71tDW8wI)?kM7k4}UDIDS/I*39BvoI117y<`(%4^/*4q3>?@Ol{8A_R]GD5,y6)JBkslz1a+hc3.n0mj+Ok(_}C2hutNZY&,OYvd*I.79TZ@55.G;?C`P)5RKO-kX+*s|m$=_}%RZa_Cm#,8,%BPEx/5.rQx0&^<ZKS;6v|9##,$H}}QqExg'DP9.=4FW`.$WwvO/E^g%R8Dtlb{bQ-50umS^ry9zO<v$6IE>oVA.l[AGH2h>Ab<I(@BnjH04=n}%Phi,CT`$wep'`(Pt?I/VK:K^N.&c2RdfQ:I=%3DRJ$TV0kULMuy/3iNDC>6`pFZi@zHWFG^X1m*S3;}P*k{b<NL3XbTmf@4mO-,_<f?6JI=E4Olk67#+/l#vnfc}?BK94#ZV{kD`dPeozK2l)c6mWPw(O_NjLQDHj6z_(P|a%o$gYT.26>%m1T*jM`ZunN{kNt<-.c?x;+AY-o`e1an(Zq><r->L]{?,JXwD+5Ne_X2E;[%}h;)G3g,<.-UIXXC]t/hR]B{?MceP&W(bQ'E`,(MZ8Q$k%?)RZfbP1s,4K0A,`SOZ5z;)%l)jOF=4YN7E19sU<Y8kiUcAZT0nnYTPwSi=)Gbu.XN6[5Q+>GE7d$u|CpJ5esGSUUC@JCkj7?&3=YP1[/}^l]8J/3QU6'NiIesjNvwetv&ZB;|6kZ;#:j[+7uXp*X)ifZl7rrGx9kn8+AV(d9%Fs`{Fc3NnJ'AG(dyL$t:ut(vP>i[sF.L}8S?t-H(*=v27M:drL3,HYM5iAzOY'-r}LaouId]i=C{'$ZL^pISE^Rgw4geuoFeO:{0jk}3M6'-#FThe*H[GQD4;_]yV3_8bNoZbcBwa3aGyKJ'x#%GG87geD0{vIJQbTO>yo9LVJ63Ehp(cNxMN9IyeMF7}1'l57vdFqtK-L`H)2O%.HBgH$HZtn{=hmtdEOMr/3{&k']{<{&2/hjd8J?l_1Z<[Vzz>bD.GngL0m'85+|At1'xobfN<dLylNHePK`|DFo3BgNJuC#h&BXO.J]uMzT/5}WIQH_y5u]gFHix]W<J:G=HB%=sP@MUUFRI@{3rbw@F,Z}kvA$qbE)[*Ml*J[nD-Cg0]h5ap&;48c]('F,4V2z+-3'%B5ev5Tl|.0r-Bn}U.7FG[AqwSA^tEgF3xJ7VMLRpl.2HZqjY#Zt9,`+P>$=lU,)jv^L*]J0;?,(A=(mB`3%,5(Hob%j#UY>NUFv9N(*,x+|wv@gOgE24X7Uk#JT[>v$&^^_IP%h-m>xMh>r<00B%B7V4I7k[TuHtlPVt*]V23UsM+}>A.fNbS;O9ShN^Pmq97095HhtOiMOj/f%G>Y]0=jNdegLQv:>e6$q$zzu88G4%Iv8qn$sa}h?p?{55V4I%q4Z%s$_nYrxtu=>-DZ9^gC}0?-1<Mm[E{9(,lkDdO`AxN'-$@*wHi%F'%8Vq:)v30Jf'o@I6;4/E[Ha2?6'XtBqsUFp(lyQ%k>9DI=sPn>VUwA+lANh<+]vb@-EF_;ngvwTmoj/%IV%$k0{$?;,NSWzk-B+:MF<2r==(t:HZd)A95S{8eZDL@-9ho6.A)c6I@Q}3C'6rN7TY'$Q-mP:W#[>1ZdA:.dszC/MI61($uc^/G(AYxo+{k.@dVDflnmqR57UA%m+8IQvD=)SMzx4Q*iU^YE@sf&rN_9-MJ%gGy-+r+Wd'bGpHsiysMsxFY0et[tkTgEghT)zdOl1EbF1aU;xDdDfW$u0Li,0?IHdaU:9{^>PL`2rIj]'=w9s5^2u.'<w|p+T0x3H6n5|}gIUTYPsY.=6(0Bm"
open PySem PySem.W PyProof.Rows
set_option maxRecDepth 100000 in
set_option maxHeartbeats 0 in
theorem PySem.Challenge.cw_tokenwright_k31_samples_holds : PySem.Challenge.rw_tokenwright_k31_samples.Holds := by
 w_on;o_law;k_head;(case hw=>w_witness2)
 k_fill
 refine Eu.walk (l:=PySem.Challenge.rw_tokenwright_k31_samples) rfl rfl (fun w h Y=>PySem.W.kIn_of Y) ?F
 case F=>
  intro w mg fa h KX G hmg;refine' Eu.all_mk KX G hmg ?A0 ?A1 ?A2 ?A3 ?A4 ?A5 ?A6 ?A7 ?A8 ?A9 ?B0 ?B1 ?B2 ?B3 ?B4 ?B5 ?B6 ?B7 ?B8 ?B9 ?C0 ?C1 ?C2 ?C3 ?C4 ?C5 ?C6 ?C7 ?C8 ?C9 ?D0 ?D1 ?D2 ?D3 ?D4 ?D5 ?D6 ?D7 ?D8
  (case A0=>k_is)
  (case A1=>exact⟨_,_,_,_,_,_,_,_,_,by k_is,by k_is,by k_is⟩)
  (case A2=>(repeat' refine aZ.mpr ⟨?_,?_⟩);all_goals first | exact fun _ h=>(cA h).elim | exact⟨(by(try dsimp only);k_is),⟨(by(try dsimp only);k_is),(by(try dsimp only);k_is),(by(try dsimp only);k_is),(by(try dsimp only);k_is)⟩,(by(try dsimp only);k_is),(by(try dsimp only);k_is),(by kernel_rfl)⟩)
  (case A3=>unfold Eu.rows;(repeat' refine aZ.mpr ⟨?_,?_⟩);all_goals first | exact fun _ h=>(cA h).elim | exact .fn (by k_is) ⟨_,_,_,_,_,_,_,_,_,by k_is,by k_is,by k_is⟩ | exact .mt rfl rfl (by k_is) (by k_is) ⟨_,_,_,_,_,_,_,_,_,by k_is,by k_is,by k_is⟩)
  (case A4=>k_is)
  (case A5=>kernel_rfl)
  (case A6=>k_is)
  (case A7=>kernel_rfl)
  (case A8=>k_is)
  (case A9=>kernel_rfl)
  (case B0=>k_is)
  (case B1=>k_is)
  (case B2=>k_is)
  (case B3=>exact⟨⟨_,_,rfl,rfl⟩,⟨⟨_,_,rfl,rfl⟩,⟨⟨_,_,rfl,rfl⟩,trivial⟩⟩⟩)
  (case B4=>kernel_rfl)
  (case B5=>kernel_rfl)
  (case B6=>k_is)
  (case B7=>kernel_rfl)
  (case B8=>k_is)
  (case B9=>kernel_rfl)
  (case C0=>k_is)
  (case C1=>kernel_rfl)
  (case C2=>k_is)
  (case C3=>kernel_rfl)
  (case C4=>k_is)
  (case C5=>k_is)
  (case C6=>k_is)
  (case C7=>k_is)
  (case C8=>k_is)
  (case C9=>exact⟨⟨_,_,rfl,rfl⟩,⟨⟨_,_,rfl,rfl⟩,⟨⟨_,_,rfl,rfl⟩,trivial⟩⟩⟩)
  (case D0=>kernel_rfl)
  (case D1=>kernel_rfl)
  (case D2=>k_is)
  (case D3=>kernel_rfl)
  (case D4=>k_is)
  (case D5=>kernel_rfl)
  (case D6=>k_is)
  (case D7=>kernel_rfl)
  (case D8=>unfold Eu.T;(repeat' refine aZ.mpr ⟨?_,?_⟩);all_goals first | exact fun _ h=>(cA h).elim | k_is)
end
