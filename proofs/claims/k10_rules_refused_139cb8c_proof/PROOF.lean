import PyProof.Rows.All
import Wide.All
import OpenK.AllK
import Wide.FinOn
import PyProof.EqAt
import PyProof.EqKinds
import PyProof.TupleCall
import PyProof.NeKinds
import KE.KMinBuiltin
import Lean
import PySem.Challenge.RW_tokenwright_k10_rules_refused
open Array renaming getElem?_eq_some_iff->dX,getElem?_eq_getElem->d8,getElem?_setIfInBounds_ne->eO,size_setIfInBounds->iO,forIn_toList->qy,toList->zO,getElem?_eq_none->zR,length_toList->Dj
open Bool renaming and_eq_true->aw,false_eq_true->aD,false_ne_true->aY,not_true->b5,eq_iff_iff->cA,not_false->cU,or_eq_true->cX,not_eq_true'->me,or_true->sP,and_false->wJ,not_eq_false->GH,noConfusion->Kd,not_eq_true->Kf,true->ζ,false->ϑ
open Classical renaming byContradiction->kM
open False renaming elim->aJ
open ForInStep renaming yield->dY
open Function renaming comp_def->cH
open Iff renaming rfl->j7
open Int renaming toNat_natCast->mG,fdiv_eq_ediv_of_nonneg->yj,not_lt->yu,toNat_zero->yy,eq_ofNat_of_zero_le->Bo,le_refl->EM,natCast_nonneg->Gv,emod_lt_of_pos->GJ
open Int.ofNat renaming inj->oQ
open List renaming getElem?_eq_getElem->af,getElem?_eq_some_iff->ag,length_map->ah,getElem?_set_ne->ai,getElem?_append_left->aq,mem_of_getElem?->ax,mem_cons_of_mem->ay,map_cons->aA,getElem?_append_right->aB,length_append->aC,getElem?_map->aE,forall_mem_cons->aF,size_toArray->aI,map_append->aN,lookup_cons->aQ,mem_append->aT,mem_cons_self->aV,mem_cons->aW,mem_singleton->aX,length_cons->a5,getElem?_set_self->ba,mem_append_right->bb,getD_eq_getElem?_getD->bc,all_eq_true->bu,suffix_refl->bD,map_map->bG,all_cons->bH,mem_map->bO,length_set->bR,filterMap_cons->bX,length_take->b3,getElem?_of_mem->b7,drop_eq_getElem_cons->b8,range->b9,append_nil->cb,not_mem_nil->cj,idxOf_lt_length_of_mem->cq,take_length->cC,getElem_mem->cD,suffix_cons->c7,length->dh,getElem?_eq_none->dm,getElem?_mapIdx->dA,nodup_append->dE,map_inj_left->dF,find?_cons->dH,take_of_length_le->dO,any_cons->dQ,map->dZ,nodup_cons->eG,mem_append_left->eI,append_assoc->eJ,length_range->eL,lookup->fM,eq_nil_of_length_eq_zero->fO,mem_filter->fZ,filter_cons->iw,getElem?_range->iE,contains_cons->i3,getElem_idxOf->i4,length_mapIdx->i5,map_nil->jo,length_eq_one_iff->jq,drop_zero->jr,getElem?_set->jt,idxOf_append->ju,map_fst_zip->jR,map_snd_zip->jS,getElem?_append->j9,getElem?_concat_length->lD,getElem?_take_of_lt->mE,set_set->nV,forIn_cons->nY,nil_append->oh,foldl_cons->om,lookup_cons_self->oM,mem_range->pM,replicate->pO,getElem_of_mem->qu,map_congr_left->qv,map_inj_right->rC,set_cons_succ->rD,set_cons_zero->rE,take_add_one->sR,drop_length->tU,of_mem_zip->vP,length_nil->vQ,forIn_nil->wB,nodup_nil->wL,mem_of_find?_eq_some->yw,map_take->zJ,getElem?_replicate->zP,prefix_iff_eq_take->zT,not_of_lt_findIdx->Bm,range_succ_eq_map->Bn,drop_of_length_le->Bq,length_singleton->BH,getElem?_reverse->BL,length_filter_le->BM,filterMap_append->BP,contains_iff_mem->BR,getElem_toArray->Dq,drop_eq_nil_iff->Dt,drop_succ_cons->EK,map_eq_nil_iff->EN,length_reverse->EO,mem_filterMap->F5,lookup_append->Ge,filterMap_map->Gf,filter_append->Gh,isEmpty_cons->GI,foldl_append->GL,getElem_inj->J4,any_eq_true->Kb,find?_some->KG,any_append->KL
open List.IsSuffix renaming trans->mN
open List.Pairwise renaming map->og,nil->wK
open List.cons renaming injEq->dy,inj->Gi
open Nat renaming le_refl->ar,lt_of_lt_of_le->au,le_trans->aP,ne_of_lt->a6,lt_succ_of_lt->a8,zero_le->bC,sub_self->bQ,lt_succ_self->b4,testBit_and->cg,le_of_lt->cv,ne_of_gt->cw,lt_irrefl->cV,lt_succ_iff_lt_or_eq->eY,succ_ne_zero->fq,succ_le_succ->fu,testBit_or->fw,not_lt_zero->gq,le_succ->hW,pow_le_pow_right->ie,not_lt->i8,lt_of_le_of_lt->i9,le_of_not_lt->jU,le_add_right->jW,min_eq_right->jX,min_eq_left->kN,lt_trans->lG,add_sub_cancel->lW,le_succ_of_le->mH,sub_zero->n9,zero_add->oj,lt_or_ge->tI,one_shiftLeft->tJ,not_le_of_lt->uH,exists_testBit_of_ne_zero->vR,le_of_eq->BE,pow_succ->BN,testBit_lt_two_pow->BO,zero_min->BQ,le_zero->EL,lt_of_le_of_ne->GK,or_lt_two_pow->Kg,lt_of_not_le->KJ
open Nat.succ renaming inj->mF
open Ne renaming symm->bI
open Option renaming map_eq_some_iff->aj,bind_eq_some_iff->ak,bind_eq_bind->aM,getD_some->gZ,getD_none->jB,map_some->j8,map_map->oO,map_none->tV,isSome_iff_exists->wD,isSome_some->Dn,map->Ds,isSome_map->EI,some->ξ,none->ψ
open Option.some renaming inj->aG,injEq->pE
open Or renaming inl->sS
open Prod renaming fst->Dp
open Prod.mk renaming inj->zM
open PyProof.Rows renaming callWith_type1->fm,AllBare->nP,envOfC->pX,subscriptTail->EG,subscriptTail_builtinR->Gz,IntsAre->GB
open PySem renaming wpAny_bind->ae,wpAny_pure->ao,Shared->av,model->aS,wpAny_mono->bg,Program->bj,mainGlobals->bw,compareOp->bB,World->bL,starEach->bM,sysModules->bV,Around->cf,wpAny_holding->cu,wpAny_loadPart_at->cy,binaryOp->cF,mem_of_lookup->cL,FuncData->dv,wpAny_Call_Name_kw->dC,wpAny_truthy_bool->dN,cLine->eF,rawInt->eV,wpAny_field->fh,wpAny_isSubtype_exc->fU,swapsWith->fV,wpAny_setField->fW,sizeLine_eq->gv,wpAny_typeNameOfWhole_valiter->gw,tupleKind_room_in1->gy,wpAny_passesOwn->gK,inplaceOp->gU,attributeBase->gW,wpAny_standAt->gY,backTo->hV,wpAny_dictEntries->iq,wpAny_newObj_type->iu,dictSetDefault->iN,excClassObj->iP,cellsFrom->iX,Scope->jh,wpAny_execs_nil->jm,keywordEach->jC,bootBuiltins->jT,codeAny_mono->jV,wpAny_call_entry->kJ,Within->kK,valueAt->lC,sliceBounds->lF,call_meetsIn->md,tupleKind->mD,Operator->mK,wpAny_call->mM,codeAny->nQ,wpAny_isInstance->pq,DictEntry->pC,wpAny_callSpecial?_slot->pD,wpAny_rule->pW,typeLookup->pY,Keyword->p9,letOwnedTupleGo->qr,atKey->qt,isSubtype_tuple_tuple->qz,wpAny_notOrdered_dict->qD,wpAny_isOneOf_valiter->qE,wpAny_loadPart->rJ,getItem->sN,noteFrame->sO,wpAny_attempt->tR,wpAny_tupleItemsOf->uz,isInstance->uA,assignEach->uB,call_meets->uD,stored->uE,wpAny_assign_Name->v5,callerA->wa,wpAny_pyIter_list->wb,plainObj_wpAny_Assign_Attribute->wC,wpAny_execs_cons->yg,assign->yh,pyNext->yi,subscripted->zE,wpAny_specialOf->zN,size_of_entries->zQ,wpAny_dictEpoch->zU,intKind->Bh,BindsTo->Bk,wpAny_seqItems->Bz,entryOfKey->BC,builtinsNs->BD,bindArgs->BG,newFunctionEnv->BJ,methodCallForm->BK,codeAny_handlers_suite_as->Du,call->EH,wpAny_comprehension_free->EJ,eqIsQuiet->F3,PassesOwn->F4,bindL->F7,bindC->F8,setFlight->Ga,raiseStmt->Gd,handedOut->Gg,wpAny_pyNext_list_item->Gu,getAttr->Gw,setAttr->Gx,seqIndex_neg->Gy,relabel->GF,wpAny_pyNext_list_end->Ka,codeAny_handlers_test->Ke,wpAny_mkInt->Ko,GenState->Kq,Model->Kr,wpAny_loadName_local->Ks,seqIndex_of->Kt,wpAny_updateDictKeys->Ku,setField->Kv,codeAny_call_builtin->Kw,unbindBehindTheSuite->Kz,getAttr?->KA,wpAny_throw->KC,wpAny_pyIter_revIter->KD
open PySem.Around renaming in1_units->sM,under->zD,under_plainId->Bp
open PySem.Calls renaming callWith_builtin->ji,spliced_cons->lE,evalArgs_plain->pB,spliced_nil->rK,Name_function_global->vZ
open PySem.Code renaming isFrame->Bj,quiet_builtin->Gb
open PySem.EntryCells renaming newEntry->yt
open PySem.Expr renaming Name->Kc
open PySem.F renaming slot_dict_valueiterator_next->cG,slot_dict_get->dR,plainAttrs_dict->iS,entry_dict_get->i7,slot_list_getattribute->nH,args_dict_valueiterator_next_1->n6,entry_dict_valueiterator_next->oN,slot_tuple_eq->pL,slot_dict_values_iter->sQ,slot_dict_setdefault->tH,excBase_ValueError->uG,args_tuple_add_2->v9,slot_dict_values->wd,slot_tuple_index->we,entry_tuple_add->wF,args_dict_get_2->wN,args_dict_get_3->wO,attr_ValueError->wQ,slot_list_index->wR,plainAttrs_list->wU,slot_tuple_add->yn,plainAttrs_str->yx,type_dict_get->zG,slot_dict_len->zI
open PySem.Heap renaming get?_push_of_some->az,lt_size->aU,get?_push_size->a3,get?_update_self->bA,SameBut->fS,size_push->gV,get?_update_other->nU,get?_none_of_le->pN
open PySem.Heap.DictOf renaming new->Bl
open PySem.Heap.Ns1 renaming of_empty->BF
open PySem.Heap.SameBut renaming update->d9
open PySem.NameKind renaming free->bJ,cell->fN
open PySem.Obj renaming mapFields->dw,data_mapFields->d7,isFreed_of_fields->jQ,data_mapDictKeys->kg,mapSeq->rL,isFreed_of_dict->F9
open PySem.SeqAt renaming EqAt->qC
open PySem.SeqAt.EqAt renaming same->jA,int_none->nL,str_none->nM,none_int->nN,none_str->nO,int_str->oI,str_int->oJ,str_str->oK,none_bool->wG,bool_none->wH,bool_bool->wI,bool_int->yo,bool_str->yp,int_bool->yq,str_bool->yr,int_int->zF,of_refs->zH
open PySem.SeqAt.RcAt renaming tuples->zS
open PySem.Str renaming ofString->bP
open PySem.Value renaming ref->aL,none->bx,int->jM,str->mJ,bool->nG,builtin->qw,type->vY,isInt->By,float->BA
open PySem.W renaming Frag->aH,emptyDict->cK,kia_one->cQ,findIn->dq,instObj->dB,InstAt->gx,findIn->hX,fnOf->kf,keepIn->kL,mg_of->lI,plainGet->l9,lookIn->nZ,keepIn->n5,plainGet_of->pA,looks_findIn->qb,methodObj->qA,hasDictIn->qB,kitOne->rM,takerIn->tG,codeIn->uC,callWith_K->uF,isFn->yk,cellsFrom_some->ym,pyHash_slot->Bg,Looks->BI,plainOver->Dk,kitx_list->Dl,kitx_dict->Dm,handedIn->EF,makesIn->F6,OpenLaw->GD,KeysLit->GG,looks_clsIn->Kx,any_some->Ky,callWith_K0->KH
open PySem.W.Looks renaming here->lH
open PySem.Within renaming cons->yl
open Sum renaming inr->iZ,inl->wA
open Sum.inl renaming inj->zL
open Sum.inr renaming inj->sJ
open True renaming intro->bY
set_option linter.all false
set_option Elab.async false
set_option maxRecDepth 100000
set_option maxHeartbeats 4000000
set_option genSizeOf false
set_option genInjectivity false
set_option bootstrap.genMatcherCode false
set_option compiler.extract_closed false
noncomputable section
section
def zQ(x:Lean.Syntax):Lean.Syntax:=x.rewriteBottomUp fun
 |.node i k a=>if k==`Lean.Parser.Term.anonymousCtor then .node i `Lean.Parser.Tactic.rcasesPat.tuple (a.modify 1 fun b=>Lean.mkNullNode (b.getArgs.map fun c=>if c.isAtom then c else .node i `Lean.Parser.Tactic.rcasesPatLo #[.node i `Lean.Parser.Tactic.rcasesPatMed #[Lean.mkNullNode #[c]],Lean.mkNullNode]))
  else if k==`Lean.Parser.Term.hole then .node i `Lean.Parser.Tactic.rcasesPat.ignore a else .node i k a
 |x=>if x.isIdent then Lean.mkNode `Lean.Parser.Tactic.rcasesPat.one #[x] else x
def zR(x:Lean.Syntax)(t:String):Lean.Syntax:=((t.splitOn " ").foldl (fun s w=>match w.toList with
 |'.'::r=>Lean.mkAtom (String.ofList r)::s
 |'$'::r=>r.foldl (fun y c=>y[c.toNat-48]) x::s
 |'\''::r=>(Lean.mkIdent (String.ofList r).toName).raw::s
 |'%'::_=>s.modifyHead zQ
 |'S'::_=>s.modifyHead fun x=>Lean.mkNode `Lean.Parser.Tactic.tacticSeq #[Lean.mkNode `Lean.Parser.Tactic.tacticSeq1Indented #[x]]
 |'O'::_=>Lean.mkNode `Lean.Parser.Tactic.optConfig #[Lean.mkNullNode]::s
 |c::r=>let n:=c.toNat-48;Lean.mkNode (match r with
  |'N'::_=>`null
  |'T'::r=>`Lean.Parser.Tactic++(String.ofList r).toName
  |'E'::r=>`Lean.Parser.Term++(String.ofList r).toName
  |'P'::r=>`Lean.Parser++(String.ofList r).toName
  |r=>`Lean.Parser.Command++(String.ofList r).toName) (s.take n).reverse.toArray::s.drop n
 |_=>s) []).headD .missing
def zT:List (String×String):=("term#[_,]¦a
term∅¦. . O 2Tomega 1N S 2EbyTactic
Term.omission¦. . O 2Tdecide 1N S 2EbyTactic
Term.paren¦?
Term.parenTerm.cdotmissing00false¦. . O 0N 0N 0N 0N 6Tsimp .; . O 2Tomega 3N S 2EbyTactic
term~~~_¦. . 0N 0N O 0N 0N 0N .using $1 2N 5TsimpaArgsRest 4Tsimpa 1N S 2EbyTactic
Term.explicit¦?
Term.explicitnummissing00true¦. 'var 2EdotIdent $1 1N 2Eapp
coeNotation¦?
coeNotationnummissing00true¦. 'lit 2EdotIdent . 'int 2EdotIdent $1 1N 2Eapp 1N 2Eapp
coeNotationterm[_]missing00true¦. 'lit 2EdotIdent . 'str 2EdotIdent $1 1N 2Eapp 1N 2Eapp
Tactic.tacticErw___¦?
Tactic.tacticErw___Tactic.optConfig[00true¦. $2101 2Texact
Tactic.tacticRwa__¦?
Tactic.tacticRwa__Tactic.rwRuleSeqmissing00true¦. $1101 2Trefine
Tactic.dsimp¦?
Tactic.dsimpTactic.optConfigmissing30true¦$0 $1 $2 .only 1N $4 $5 6Tsimp
Tactic.tacticLet__¦?
Tactic.tacticLet__Term.letConfigTerm.letPatDecl00true¦. $200 % 1N 1TrcasesPatMed 1N 0N . $204 1N 2N 4Tobtain
Command.declaration¦?
Command.declarationCommand.definitionmissing00true¦$0 $10 $11 $120 $1210 2declSig $13 4theorem 2declaration
Command.declarationCommand.abbrevmissing00true¦0N 0N 0N 0N . 1noncomputable 1N 0N 0N 7declModifiers $10 $11 $12 $13 0N 5definition 2declaration
Vector.term#v[_,]¦v
v¦. . O 0N 0N 0N 0N 6Tsimp 1N S 2EbyTactic
term%[_|_]¦r
r¦. . O . $1 . 3TrwRuleSeq 0N 4TrwSeq .; . $3 2Texact 3N S 2EbyTactic
PySem.W.X.tacticZ_go¦. . 'env ., 'ρ ., 'S ., ._ 1Ehole ., 'EU ., 'he ., 'R ., 'w ., . 'u 'S1 'v 'H1 'ρ1 'w1 'st1 'R1 'r1 9N 0N . .? ._ 2EsyntheticHole 4EbasicFun 2Efun ., 'qx CN . 3EanonymousCtor 2Trefine
PySem.W.X.tacticX_go¦. 'pZ 's 'σ 'H 'x 'y 'v 'u 'Q 'I 'rx 'ry 'h =N 2Tintro
PySem.W.tacticKd_p¦. . 'σ 'H 'Q 'zz 4N 2Tintro .; . . 'env ., 'ρ ., 'S ., 'QU ., 'EU ., 'he ., 'R ., 'w ., 'q ., 'qx CN . 3EanonymousCtor % 1N 1TrcasesPatMed 1N 0N . 'zz 1N 2N 4Tobtain 3N S . 3Tparen
PySem.W.tacticW_up¦. 'X 'hP 'hw 'hK 'hc 'i 'pZ 's 'σ 'H 'E 'I 'hf 'st 'hg ?N 2Tintro
PySem.W.tacticK_ne¦. 'pZ 's 'σ 'H 'xs 'us 'Q 'I 'r 'h :N 2Tintro
PySem.W.tacticK_go¦. 'pZ 's 'σ 'H 'Q 'I 'h 7N 2Tintro
PyProof.Rows.tacticWalk_at_¦w
PyProof.Rows.tacticRoom¦w
w0¦UC aau abj aav WW YA YB w_var w_lit aah aai w_not w_and w_or aaj aak Yt w_mk Yu aal aam w_fld abf abg aan aao Yv aap aaq Yw abh abi NY aar Yx aas Yy Yz aat PF HQ X9 Ya PH Yb WN Yc HR NX ZR ZS Us ZT ZU ZV aa6 aa7 aa8 Ye LU LV PQ PU PV Yf Yg PX LW Uu aa9 aba abb abc abd abe ZP ZQ Uw sZ ZW HS Cj ZY ZZ Z3 Z4 Z5 Z6 Z7 Z8 Yd WQ Yh WR Z9 aaa DL Ar SD rV E9 DY Yp DZ Yo Yq WV Uy Uz UA v_s v_t v_l bind_f Yr aa3 aa4 aa5 true_and bq xE aK bT Pw WJ WK LJ List.getElem?_cons_zero List.getElem?_cons_succ List.map_cons List.map_nil List.replicate_zero List.replicate_succ List.cons_append List.nil_append List.append_nil List.set_cons_zero List.set_cons_succ mz Option.join_some
wpl¦ aad Ys aae aaf aag iB ZX W6 aaF Vf
wpf¦ vj UB aaw UD NZ UE aax iB ZX W6 aaF Vf
wpk¦ vj UB aaw UD NZ UE aax YC aaz Yi aaJ Ct tZ W9 Rf Zj Yj aab WU Yk getD_some iU aay YD YE Ux Ym Yl Yn Int.toNat_natCast Bool.false_eq_true if_false if_true Bool.not_true Bool.not_false
w1¦. O 0N .only 1N .[ $0 .] 3N 0N 6Tsimp
w2¦. . . 'Rest.go .? ._ 2EsyntheticHole 1N 2Eapp 2Trefine 1N S 2TtacticTry_ .; $0 .; . . 'Rest.go .? ._ 2EsyntheticHole 1N 2Eapp 2Trefine .; $0 3N S 2TtacticRepeat_ 5N S . 3Tparen".splitOn "\n").map fun l=>match l.splitOn "¦" with|[a,b]=>(a,b)|_=>("","")
def zW(t:String):Lean.Syntax:=Lean.mkNullNode #[Lean.mkNullNode ((t.splitOn " ").toArray.flatMap fun n=>#[zR .missing ("0N 0N '"++n++" 3TsimpLemma"),Lean.mkAtom ","])]
def zF(x:Lean.Syntax):Lean.Syntax:=let x:=x.setInfo .none;match x with
 |.node _ k _=>let f(s:String):=(zT.lookup (s.replace "Lean.Parser." "")).getD "";let s:=k.toString false;match f s with
  |""=>x
  |"?"=>match f (s++x[1].getKind.toString false++x[2][0].getKind.toString false++toString x[4].getNumArgs++toString x[3].getNumArgs++toString (x[0].getArgs.all (·.getNumArgs==0))) with
   |""=>x
   |t=>zR x t
  |"a"=>if x[1].getNumArgs==0 then x else x.setKind `Lean.Parser.Term.anonymousCtor
  |"v"=>if x[1].getNumArgs==0 then zR x (f "v") else x[1].getSepArgs.foldr (fun a r=>zR (Lean.mkNullNode #[a,r]) ". 'cons 2EdotIdent $0 $1 2N 2Eapp") (zR x ". 'nil 2EdotIdent")
  |"r"=>zR (x.setArg 1 (Lean.mkNullNode (x[1].getArgs.map fun a=>if a.isAtom then a else zR a "0N $ 2TrwRule"))) (f "r")
  |"w"=>let s:=x[1].isStrLit?.getD "pk";let w:=zR (zW (f "w0"++f ("w"++s))) (f "w1");if s=="pl" then w else zR (Lean.mkNullNode #[w]) (f "w2")
  |t=>zR x t
 |x=>x
def zM(x:Lean.Syntax)(f:Lean.Syntax->Lean.Syntax):Lean.MacroM Lean.Syntax:=let y:=x.rewriteBottomUp f;if y==x then Lean.Macro.throwUnsupported else pure y
local macro_rules(kind:=Lean.Parser.Command.declaration)|x=>zM x zF
local macro_rules(kind:=Lean.Parser.Command.mutual)|x=>zM x fun x=>if x.isOfKind `Lean.Parser.Command.declaration then x else zF x
namespace Lake
namespace L2
open PySem PySem.Spec PyProof.Rows
@[reducible]def Key:=Sum Int (Option Str)
abbrev wV:Key->Value->Bool
 |.inl k,v=>By k v
 |.inr (ξ x),v=>Value.isStrOf x v
 |.inr ψ,v=>v==bx
abbrev Xf(w:bL):Key->Int
 |.inl k=>hashInt k
 |.inr (ξ x)=>hashStr w x
 |.inr ψ=>reduceHash 0xFCA86420
def fj:∀{k:Key}{v:Value},wV k v=ζ->(∃i t,k=wA i/\v=jM i t)\/(∃x t,k=iZ (ξ x)/\v=mJ x t)\/(k=iZ ψ/\v=bx)
 |.inl i,v,h=>by
  let#[t,e]:=Value.isInt_shape (k:=i) (v:=v) h;erw[.inl #[i,t,rfl,e]]
 |.inr (ξ x),v,h=>by
  let#[t,e]:=Value.isStrOf_shape (x:=x) (v:=v) h;erw[.inr (.inl #[x,t,rfl,e])]
 |.inr ψ,v,h=>.inr (.inr #[rfl,eq_of_beq h])
def ER(i:Int)(t:Tok):wV (.inl i) (.int i t)=ζ:=by simp[wV,By]
def ES(x:Str)(t:Tok):wV (.inr (ξ x)) (.str x t)=ζ:=by simp[wV,Value.isStrOf]
def GN{α:Type}[DecidableEq α]{β:Type}[DecidableEq β](f:α->β)(hf:∀a b,f a=f b->a=b)(a b:α):decide (f a=f b)=decide (a=b):=decide_eq_decide.mpr #[hf a b,λe=>e▸rfl]
def ET(h:Q (reduceHash 0xFCA86420) {s with toks:=s.toks+1}):wpAny (aS prog w) A (pyHash .none) Q E s:=by
 unfold pyHash;erw[Bg (T:="NoneType") rfl F.slot_NoneType_hash F.entry_NoneType_hash (F.args_NoneType_hash_1 _) (beq_builtin_none _) (.inl rfl) (ae (ao (ae (Ko (ao #[_,_,rfl,h])))))]
abbrev cR(prog:bj)(w:bL):PySem.KeyKind prog w Key where
 is:=wV
 hash:=Xf w
 inj:=λv a b ha hb=>by
  rcases fj ha with⟨i,t,rfl,rfl⟩|⟨x,t,rfl,rfl⟩|⟨rfl,rfl⟩<;>rcases fj hb with⟨j,u,rfl,e⟩|⟨y,u,rfl,e⟩|⟨rfl,e⟩<;>cases e<;>rfl
 byValue:=λk v h=>by
  rcases fj h with⟨i,t,rfl,rfl⟩|⟨x,t,rfl,rfl⟩|⟨rfl,rfl⟩<;>rfl
 pyHash:=λhv h=>by
  rcases fj hv with⟨i,t,rfl,rfl⟩|⟨x,t,rfl,rfl⟩|⟨rfl,rfl⟩
  .erw[wpAny_pyHash_int h]
  .erw[wpAny_pyHash_str h]
  .erw[ET h]
 eqBool:=λhu hv h=>by
  rcases fj hu with⟨i,t,rfl,rfl⟩|⟨x,t,rfl,rfl⟩|⟨rfl,rfl⟩<;>rcases fj hv with⟨j,u,rfl,rfl⟩|⟨y,u,rfl,rfl⟩|⟨rfl,rfl⟩
  .rw[GN wA (λ_ _ e=>zL e)] at h;erw[wpAny_eqBool_int (by rw[show(i==j)=decide (i=j) from rfl];exact h)]
  .erw[oI i t y u _ _ _ _ h]
  .erw[nL i t _ _ _ _ h]
  .erw[oJ x t j u _ _ _ _ h]
  .rw[GN (λz=>iZ (ξ z)) (λ_ _ e=>aG (sJ e))] at h;erw[wpAny_eqBool_str h]
  .erw[nM x t _ _ _ _ h]
  .erw[nN j u _ _ _ _ h]
  .erw[nO y u _ _ _ _ h]
  .erw[jA _ _ _ _ _ h]
 «strs»:=λk x t v h=>by
  rcases fj h with⟨i,u,rfl,e⟩|⟨y,u,rfl,e⟩|⟨rfl,e⟩
  .erw[nomatch e]
  .cases e
   cases v<;>rfl
  .erw[nomatch e]
section
variable{prog:bj}{w:bL}
@[reducible]def rN:=Int×List Int
abbrev IsPair(prog:bj)(w:bL)(h:Heap)(k:rN)(a:Addr):Prop:=∃t c n o,h.get? a=ξ o/\o.cls=.type "tuple"/\o.data=.seq (List.toArray [.int k.1 t,.ref c]) n/\IsTupleKey (Bh prog w) h k.2 c
abbrev uI(prog:bj)(w:bL)(k:rN):Int:=reduceHash (Builtin.Tuple.tupleHashOf [hashInt k.1,tupleKeyHash (Bh prog w) k.2])
variable{A:cf}{E:Value->av->Prop}{s:av}
def zV(hu:A.units+1<eF)(hk:IsPair prog w s.heap k a)(h:Q (uI prog w k) {s with toks:=s.toks+(k.2.length+3)}):
  wpAny (aS prog w) A (pyHash (.ref a)) Q E s:=by
 let#[t,c,n,o,ho,hc,hd,hi]:=hk;have hT:s.TypeIs (.ref a) "tuple":=#[o,ho,hc]
 unfold pyHash;rwa[Bg (T:="tuple") hT F.slot_tuple_hash F.entry_tuple_hash (F.args_tuple_hash_1 _) (beq_builtin_none _) (.inr ∅) ?_];show wpAny _ _ (Builtin.Tuple.tupleItemsOf (.ref a)>>=_) _ _ s;rwa[ae (uz ho hd ?_)];rwa[ae ?_];rw[<-qy]
 dsimp[nY,wB];rwa[ae (ae (wpAny_pyHash_int ?_))];refine ao (ae (ae (wpAny_pyHash_tuple (s:={s with toks:=s.toks+1}) (by dsimp[sM];omega) hi (ao (ao ?_)))));rwa[ae (Ko (ao #[_,_,rfl,?_]))];have e:s.toks+1+(k.2.length+1)+1=s.toks+(k.2.length+3):=∅
 have h:Q _ _:=h;rw[<-e] at h;simpa[uI] using h
def IsPair.inj{h:Heap}{a:Addr}{x y:rN}(hx:IsPair prog w h x a)(hy:IsPair prog w h y a):x=y:=by
 let#[t,c,n,o,ho,hc,hd,hi]:=hx;let#[t',c',n',o',ho',hc',hd',hi']:=hy;obtain rfl:o=o':=aG (ho.symm.trans ho');rw[hd] at hd';injection hd' with h1 _
 injection h1 with h1
 injection h1 with h1 h2
 injection h1 with h1 _
 injection h2 with h2 _
 injection h2 with h2
 subst h2;erw[Prod.ext h1 (hi.inj hi')]
def zW(hu:A.units+1<eF)(hx:IsPair prog w s.heap x a)(hy:IsPair prog w s.heap y b)(h:Q (decide (x=y)) s):
  wpAny (aS prog w) A (eqBool (.ref a) (.ref b)) Q E s:=by
 unfold eqBool;rwa[cu ?_];show wpAny _ _ (if (aL a==aL b)=ζ then _ else _) Q E s;by_cases hab:(aL a==aL b)=ζ
 .rw[if_pos hab]
  have e:a=b:=by have:=eq_of_beq hab;injection this
  subst e;obtain rfl:=hx.inj hy;exact ae (pW (ao (~~~h)))
 .rw[if_neg hab]
  let#[t,c,n,o,ho,hc,hd,hi]:=hx;let#[t',c',n',o',ho',hc',hd',hi']:=hy;have hT:s.TypeIs (.ref a) "tuple":=#[o,ho,hc]
  have hT':s.TypeIs (.ref b) "tuple":=#[o',ho',hc']
  refine ae (wpAny_richCompare_same_room (op:=.Eq) hT hT' pL
   (kJ pL hT F.entry_tuple_eq ?_ (F.args_tuple_eq_2 _ _)) ∅)
  show wpAny _ _ (uA (.ref b) (.type "tuple")>>=_) _ _ s
  rwa[ae (pq hT' qz ?_)];dsimp[b5,aD,if_false];rwa[ae (uz ho hd ?_)];rwa[ae (uz ho' hd' ?_)];rwa[ae ?_];dsimp[List.zip_cons_cons,List.zip_nil_right,nY,wB];rwa[ae (ae (wpAny_eqBool_int ?_))];let#[x1,x2]:=x;let#[y1,y2]:=y;by_cases e1:x1=y1
  .subst e1
   dsimp[BEq.rfl,b5,aD,if_false];rwa[ao (ae (ae (wpAny_eqBool_tuple (by dsimp[sM];omega) hi hi' ?_)))];by_cases e2:x2=y2
   .subst e2
    dsimp[decide_true,b5,aD,if_false] at h ⊢;erw[ao (ao (ao #[_,rfl,(λz=>nomatch z),dN h]))]
   .have e3:decide ((x1,x2)=(x1,y2))=ϑ:=decide_eq_false λz=>e2 (zM z).2
    rw[e3] at h;dsimp[decide_eq_false e2,cU,if_true];erw[ae (ao (ao (ao (ao #[_,rfl,(λz=>nomatch z),dN h]))))]
  .have e3:decide ((x1,x2)=(y1,y2))=ϑ:=decide_eq_false λz=>e1 (zM z).1
   rw[e3] at h;have e4:(x1==y1)=ϑ:=beq_eq_false_iff_ne.mpr e1;dsimp[e4,cU,if_true];erw[ae (ao (ao (ao (ao #[_,rfl,(λz=>nomatch z),dN h]))))]
def BS(hk:IsTupleKey (Bh prog w) s.heap ks a)(h:Q ζ s):wpAny (aS prog w) A (F3 (n+1) (.ref a)) Q E s:=by
 have hT:=hk.typeIs;let#[o,items,m,ho,_,hd,hi]:=hk;unfold F3;rwa[ae (zN hT pL.lookup (ae (pq hT qz ?_)))];dsimp[b5,aD,if_false];rwa[ae (Bz ho hd (ae ?_))];rw[<-qy]
 rwa[wpAny_forIn_list _ (λl r s'=>r.1=ψ/\s'=s/\∀v∈l,carriedByValue v=ζ) _ ?_ ?_ _ _ #[rfl,rfl,hi.byValue]]
 .rintro v l r s' ⟨hr,rfl,z⟩
  rw[eqIsQuiet_byValue _ (z v aV)]
  erw[ae (ao (ao #[rfl,rfl,λu hu=>z u (ay _ hu)]))]
 .rintro⟨r1,r2⟩ s' ⟨hr,rfl,_⟩
  cases hr;erw[ao h]
def BU(hk:IsPair prog w s.heap k a)(h:Q ζ s):wpAny (aS prog w) A (F3 8 (.ref a)) Q E s:=by
 let#[t,c,n,o,ho,hc,hd,hi]:=hk;have hT:s.TypeIs (.ref a) "tuple":=#[o,ho,hc]
 unfold F3;rwa[ae (zN hT pL.lookup ?_)];show wpAny _ _ (uA (.ref a) (.type "tuple")>>=_) _ _ s;rwa[ae (pq hT qz ?_)];dsimp[b5,aD,if_false];rwa[ae (Bz ho hd ?_)];rwa[ae ?_];show wpAny _ _ (forIn (List.toArray [jM k.1 t,.ref c]) _ _) _ _ s;rw[<-qy]
 dsimp[nY,wB];rw[eqIsQuiet_byValue 7 (v:=.int k.1 t) rfl]
 erw[ae (ae (ao (ao (ae (ae (BS hi (ao (ao (ao h)))))))))]
def IsPair.keeps{es ep}(x:IsPair prog w h k a)(ho:h.get? d=ξ o)(hd:o.data=.dict es ep)(hs:fS d h h'):IsPair prog w h' k a:=by
 let#[t,c,n,o',ho',hc,hd',hi]:=x;refine#[t,c,n,o',(hs.2 a ?_).trans ho',hc,hd',hi.keeps ho hd hs];rintro rfl;obtain rfl:o'=o:=aG (ho'.symm.trans ho);rw[hd] at hd';erw[nomatch hd']
abbrev qF(prog:bj)(w:bL):HeapKind prog w rN where
 is:=IsPair prog w
 hash:=uI prog w
 draws:=λk=>k.2.length+3
 room:=λA=>A.units+1<eF
 inj:=λhx hy=>hx.inj hy
 keeps:=λx ho hd hs=>x.keeps ho hd hs
 pyHash:=λhu hk h=>zV hu hk h
 eqBool:=λhu hx hy h=>zW hu hx hy h
 quiet:=λhk h=>BU hk h
end
def zX(prog:bj)(w:bL)(i:Int)(t:Tok):(cR prog w).is (.inl i) (.int i t)=ζ:=ER i t
def zY(prog:bj)(w:bL)(x:Str)(t:Tok):(cR prog w).is (.inr (ξ x)) (.str x t)=ζ:=ES x t
set_option genInjectivity true in
inductive V where
 |bK|bl (b:Bool)|int (i:Int)|str (x:Str)|Br (b:Array UInt8)|Ou (b:UInt64)|ref (a:Addr)|ty (n:String)
 deriving DecidableEq
abbrev RelV:V->Value->Prop
 |.bK,u=>u=bx
 |.bl b,u=>u=nG b
 |.int i,u=>∃t,u=jM i t
 |.str x,u=>∃t,u=mJ x t
 |.Br b,u=>∃t,u=Value.bytes b t
 |.Ou b,u=>∃t,u=BA b t
 |.ref a,u=>u=aL a
 |.ty n,u=>u=vY n
@[reducible]def Vals:List V->List Value->Prop:=Paired RelV
def Vals.length{xs:List V}{us:List Value}(r:Vals xs us):xs.length=us.length:=Paired.length r
def Vals.get:∀{xs:List V}{us:List Value}{i:Nat}{x:V},Vals xs us->xs[i]?=ξ x->∃u,us[i]?=ξ u/\RelV x u
 |_,_,_,_,.nil,e=>by simp at e
 |_,_,0,_,.cons r _,e=>by simp at e;subst e;exact#[_,rfl,r]
 |_,_,i+1,x,.cons _ t,e=>by
  let#[u,h1,h2]:=Vals.get (i:=i) (x:=x) t (~~~e);exact#[u,~~~h1,h2]
def Vals.set(r:RelV x u):∀{xs:List V}{us:List Value}(i:Nat),Vals xs us->Vals (xs.set i x) (us.set i u)
 |_,_,_,.nil=>.nil
 |_,_,0,.cons _ t=>.cons r t
 |_,_,i+1,.cons q t=>.cons q (Vals.set r i t)
def Vals.append:∀{xs ys:List V}{us ws:List Value},Vals xs us->Vals ys ws->Vals (xs++ys) (us++ws)
 |_,_,_,_,.nil,s=>s
 |_,_,_,_,.cons r t,s=>.cons r (Vals.append t s)
def Vals.take:∀{xs:List V}{us:List Value}(n:Nat),Vals xs us->Vals (xs.take n) (us.take n)
 |_,_,0,_=>.nil
 |_,_,_+1,.nil=>.nil
 |_,_,n+1,.cons r t=>.cons r (Vals.take n t)
def Vals.drop:∀{xs:List V}{us:List Value}(n:Nat),Vals xs us->Vals (xs.drop n) (us.drop n)
 |_,_,0,r=>r
 |_,_,_+1,.nil=>.nil
 |_,_,n+1,.cons _ t=>Vals.drop n t
abbrev kO:Option V->Option Value->Prop
 |some v,ξ u=>RelV v u
 |none,ψ=>True
 |_,_=>False
abbrev KV{κ:Type}:List (κ×V)->List (κ×Value)->Prop:=Paired λ(p:κ×V)(q:κ×Value)=>p.1=q.1/\RelV p.2 q.2
abbrev kV:Key->V
 |.inl i=>.int i
 |.inr (ξ x)=>.str x
 |.inr ψ=>.bK
inductive HO where
 |lst (xs:List V)
 |tup (xs:List V)
 |dK (kvs:List (Key×V))|dT (kvs:List (List Key×V))|dP (kvs:List (rN×V))
 |set (S:Int->Bool) (n:Nat)
 |ins (C dx:Addr) (fs:List (Str×V))
 |own (x:Addr)
 |xd (fs:List (Str×V))
 |met (f x:Addr)
 |Xg (lo hi:Int)
 |pP (o:Obj) (u:HO)
 |Ow (ps:Array Value)
 |ext (φ:Heap->Prop)
@[reducible]def Hp:=Addr->Option HO
abbrev upd(H:Hp)(a:Addr)(o:HO):Hp:=λb=>if b=a then ξ o else H b
def a9:upd H a o a=ξ o:=by unfold upd;rw[if_pos rfl]
def a7(h:b≠a):upd H a o b=H b:=by unfold upd;rw[if_neg h]
def SR{H:Hp}{a b:Addr}{o u:HO}(h:H a=ξ o)(h':H b=ξ u)(d:o≠u):a≠b:=by
 intro e;subst e;rw[h] at h';erw[d (aG h')]
def dk{H:Hp}{a b:Addr}{o:HO}(h:H a=ξ o)(h':H b=ψ):a≠b:=by
 intro e;subst e;rw[h] at h';cases h'
section
variable(P:bj)(w:bL)
abbrev zZ(h:Heap)(a:Addr)(items:Array Value):Prop:=∃o,h.get? a=ξ o/\o.cls=.type "tuple"/\(∃n,o.data=.seq items n)/\o.dict=ψ
def zZ.tup{h:Heap}{a:Addr}{items:Array Value}(x:zZ h a items):IsTup h a items:=by
 let#[o,h1,h2,h3,_]:=x;exact#[o,h1,h2,h3]
def zZ.new(h:Heap)(items:Array Value):zZ (h.push {cls:=.type "tuple",data:=.seq items}) h.objs.size items:=#[_,a3 _ rfl,rfl,#[_,rfl],rfl]
abbrev c9(H:Hp)(h:Heap)(a:Addr):HO->Prop
 |.lst xs=>xs.length<=sizeLine/\∃(its:List Value)(n:Nat),Vals xs its/\h.get? a=ξ {cls:=.type "list",data:=.seq its.toArray n}
 |.tup xs=>xs.length<=sizeLine/\∃its:List Value,Vals xs its/\zZ h a its.toArray
 |.dK kvs=>kvs.length<=sizeLine/\(a==bV)=ϑ/\∃vs,KV kvs vs/\h.DictOf (cR P w) a vs
 |.dT kvs=>kvs.length<=sizeLine/\(a==bV)=ϑ/\∃xs:List (List Key×Addr×Value),
   Paired (λ(p:List Key×V)(q:List Key×Addr×Value)=>p.1=q.1/\H q.2.1=ξ (.tup (p.1.map kV))/\RelV p.2 q.2.2) kvs xs /\
   ∃o es ep,h.get? a=ξ o/\o.ExactDict/\o.data=.dict es ep/\es.toList=xs.map (BC (mD (cR P w)))/\(xs.map (·.1)).Nodup
 |.dP kvs=>kvs.length<=sizeLine/\(a==bV)=ϑ/\∃xs:List (rN×Addr×Value),
   Paired (λ(p:rN×V)(q:rN×Addr×Value)=>p.1=q.1/\(∃c,H q.2.1=ξ (.tup [.int p.1.1,.ref c])/\H c=ξ (.tup (p.1.2.map .int)))/\RelV p.2 q.2.2) kvs xs /\
   ∃o es ep,h.get? a=ξ o/\o.ExactDict/\o.data=.dict es ep/\es.toList=xs.map (BC (qF P w))/\(xs.map (·.1)).Nodup
 |.set S n=>h.SetOf (Bh P w) a S n
 |.ins C dx fs=>H dx=ξ (.own a)/\fs.length<=1000/\dx≠a/\h.get? a=ξ (dB C dx) /\
   ∃mA,h.Ns1 dx mA/\(∀f,kO (fs.lookup f) (mA f))/\kK mA (fs.map (·.1))
 |.own _=>∃o,h.get? a=ξ o
 |.xd fs=>∃mA,h.Ns1 a mA/\∀f,kO (fs.lookup f) (mA f)
 |.Xg lo hi=>∃t u v,h.get? a=ξ {cls:=.type "range",data:=.fields (List.toArray [.int lo t,.int hi u,.int 1 v])}
 |.pP o u=>h.get? a=ξ o/\c9 H h a u
 |.Ow ps=>h.get? a=ξ {cls:=.none,data:=.fields ps}
 |.met f x=>h.get? a=ξ (qA (.ref f) (.ref x))
 |.ext φ=>φ h/\(∃o,h.get? a=ξ o)/\∀h1 h2:Heap,φ h1->(∀o,h1.get? a=ξ o->h2.get? a=ξ o)->φ h2
abbrev mI(H:Hp)(h:Heap):Prop:=∀a o,H a=ξ o->c9 P w H h a o
end
section
variable{P:bj}{w:bL}{H H':Hp}{h h':Heap}{a:Addr}{o:HO}
def c9.lt(x:c9 P w H h a o):a<h.objs.size:=by
 cases o with
 |lst xs=>let#[_,_,_,_,e]:=x;erw[aU e]
 |tup xs=>let#[_,_,_,p]:=x;erw[p.tup.lt]
 |dK kvs=>let#[_,_,_,_,o,_,_,e,_]:=x;erw[aU e]
 |dT kvs=>let#[_,_,_,_,o,_,_,e,_]:=x;erw[aU e]
 |dP kvs=>let#[_,_,_,_,o,_,_,e,_]:=x;erw[aU e]
 |set S n=>let#[o,_,_,_,e,_]:=x;erw[aU e]
 |ins C dx fs=>let#[_,_,_,e,_]:=x;erw[aU e]
 |own y=>let#[_,e]:=x;erw[aU e]
 |xd fs=>let#[_,#[_,_,_,e,_],_]:=x;erw[aU e]
 |Xg lo hi=>let#[_,_,_,e]:=x;erw[aU e]
 |pP ob u=>let#[e,_]:=x;erw[aU e]
 |Ow ps=>erw[aU (show h.get? a=ξ _ from x)]
 |met f y=>erw[aU (show h.get? a=ξ _ from x)]
 |ext φ=>let#[_,#[_,e],_]:=x;erw[aU e]
def Paired.EV{α β:Type}{F G:α->β->Prop}:∀{l₁:List α}{l₂:List β},Paired F l₁ l₂->(∀a b,F a b->G a b)->Paired G l₁ l₂
 |_,_,.nil,_=>.nil
 |_,_,.cons r t,f=>.cons (f _ _ r) (Paired.EV t f)
def c9.rO(x:c9 P w H h a o)(k:∀b u,(b=a\/H b=ξ (.own a))->h.get? b=ξ u->h'.get? b=ξ u)
  (ho:∀b,H b=ξ (.own a)->H' b=ξ (.own a)) (ht:∀b xs,H b=ξ (.tup xs)->H' b=ξ (.tup xs)):c9 P w H' h' a o:=by
 induction o with
 |lst xs=>let#[z,its,n,r,e]:=x;exact#[z,its,n,r,k _ _ (.inl rfl) e]
 |tup xs=>let#[z,its,r,ob,e,c]:=x;exact#[z,its,r,ob,k _ _ (.inl rfl) e,c]
 |dK kvs=>let#[z,y,vs,r,ob,es,ep,e,c]:=x;exact#[z,y,vs,r,ob,es,ep,k _ _ (.inl rfl) e,c]
 |dT kvs=>
  let#[z,y,xs,r,ob,es,ep,e,c]:=x;exact#[z,y,xs,Paired.EV r λp q z=>#[z.1,ht _ _ z.2.1,z.2.2],ob,es,ep,k _ _ (.inl rfl) e,c]
 |dP kvs=>
  let#[z,y,xs,r,ob,es,ep,e,c]:=x;exact#[z,y,xs,Paired.EV r λp q z=>#[z.1,let ⟨c,e1,e2⟩:=z.2.1;#[c,ht _ _ e1,ht _ _ e2],z.2.2],ob,es,ep,k _ _ (.inl rfl) e,c]
 |set S n=>let#[ob,es,ep,t,e,c]:=x;exact#[ob,es,ep,t,k _ _ (.inl rfl) e,c]
 |ins C dx fs=>
  let#[d,z,ne,e,mA,#[od,es,ep,e2,c],r]:=x;exact#[ho _ d,z,ne,k _ _ (.inl rfl) e,mA,#[od,es,ep,k _ _ (.inr d) e2,c],r]
 |own y=>let#[ob,e]:=x;exact#[ob,k _ _ (.inl rfl) e]
 |xd fs=>let#[mA,#[od,es,ep,e,c],r]:=x;exact#[mA,#[od,es,ep,k _ _ (.inl rfl) e,c],r]
 |Xg lo hi=>let#[t,u,v,e]:=x;exact#[t,u,v,k _ _ (.inl rfl) e]
 |pP ob u ih=>let#[e,q]:=x;exact#[k _ _ (.inl rfl) e,ih q]
 |Ow ps=>
  have e:h.get? a=ξ {cls:=.none,data:=.fields ps}:=x;show h'.get? a=ξ {cls:=.none,data:=.fields ps};erw[k a _ (.inl rfl) e]
 |met f y=>
  have e:h.get? a=ξ (qA (.ref f) (.ref y)):=x;show h'.get? a=ξ (qA (.ref f) (.ref y));erw[k a _ (.inl rfl) e]
 |ext φ=>let#[p,#[o,e],st]:=x;exact#[st _ _ p λo q=>k _ _ (.inl rfl) q,#[o,k _ _ (.inl rfl) e],st]
def mI.lt(x:mI P w H h)(e:H a=ξ o):a<h.objs.size:=(x a o e).lt
def mI.fresh(x:mI P w H h)(e:h.objs.size<=a):H a=ψ:=by
 cases q:H a with
 |none=>rfl
 |some u=>erw[absurd (au (x.lt q) e) (cV _)]
def mI.kept(x:mI P w H h)(k:∀b u,h.get? b=ξ u->h'.get? b=ξ u):mI P w H h':=λa o e=>
 (x a o e).rO (λb u _ q=>k b u q) (λ_ q=>q) λ_ _ q=>q
def mI.laid(x:mI P w H h)(k:∀b u,h.get? b=ξ u->h'.get? b=ξ u)(hp:h.objs.size<=a)(new:c9 P w (upd H a o) h' a o):mI P w (upd H a o) h':=λb u e=>by
 have hn:=x.fresh hp;by_cases hb:b=a
 .subst hb;rw[a9] at e;cases e;erw[new]
 .rw[a7 hb] at e
  exact(x b u e).rO (λc v _ q=>k c v q) (λc q=>%[a7 (dk q hn)|q]) λc xs q=>%[a7 (dk q hn)|q]
end
abbrev Rd(H:Hp)(a:Addr)(u:HO):Prop:=H a=ξ u\/∃o,H a=ξ (.pP o u)
def Rd.ok{P:bj}{w:bL}{H:Hp}{h:Heap}{a:Addr}{u:HO}(r:Rd H a u)(x:mI P w H h):c9 P w H h a u:=by
 rcases r with r|⟨o,r⟩
 .erw[x a u r]
 .let#[_,q]:=x a _ r
  erw[q]
abbrev Sv:Option HO->Prop
 |some (.lst _)=>True
 |some (.dK _)=>True
 |some (.dT _)=>True
 |some (.dP _)=>True
 |some (.set _ _)=>True
 |some (.ins _ _ _)=>True
 |some (.ext _)=>True
 |_=>False
section
variable{P:bj}{w:bL}{H:Hp}{h h':Heap}{x e:Addr}{o':HO}
def mI.write(ok:mI P w H h)(mu:Sv (H x))(he:e=x\/H e=ξ (.own x))(k:∀b u,b≠e->h.get? b=ξ u->h'.get? b=ξ u)(heo:∃u,h'.get? e=ξ u)
  (new:c9 P w (upd H x o') h' x o'):mI P w (upd H x o') h':=λb u q=>by
 have nown:∀c y,H c=ξ (.own y)->c≠x:=λc y r z=>by subst z;rw[r] at mu;erw[mu]
 have ntup:∀c xs,H c=ξ (.tup xs)->c≠x:=λc xs r z=>by subst z;rw[r] at mu;erw[mu]
 by_cases hb:b=x
 .subst hb;rw[a9] at q;cases q;erw[new]
 .rw[a7 hb] at q
  by_cases hbe:b=e
  .have q':H b=ξ (.own x):=by
    rcases he with z|z
    .erw[absurd (hbe.trans z) hb]
    .rw[hbe];erw[z]
   rw[q] at q';cases q';let#[v,hv]:=heo;exact#[v,%[hbe|hv]]
  .refine(ok b u q).rO (λc v hc r=>k c v ?_ r) (λc r=>%[a7 (nown c b r)|r]) λc xs r=>%[a7 (ntup c xs r)|r]
   rcases hc with rfl|hc
   .erw[hbe]
   .rintro rfl
    rcases he with z|z
    .erw[nown c b hc z]
    .rw[hc] at z;cases z;erw[hb rfl]
end
structure Un(fs ex:List Addr)(H H':Hp)(h h':Heap):Prop where
 keep:∀b o,h.get? b=ξ o->H b=ψ->b∉fs->b∉ex->h'.get? b=ξ o
 slot:∀b o,h.get? b=ξ o->H b=ψ->b∈fs->b∉ex->∃sl,h'.get? b=ξ {o with slots:=sl}
 free:∀b o,h.get? b=ξ o->H b=ψ->b∉ex->H' b=ψ
 there:∀b o,h.get? b=ξ o->b∉ex->∃o',h'.get? b=ξ o'
 yz:∀b xs,H b=ξ (.tup xs)->H' b=ξ (.tup xs)
 wg:∀b o u,H b=ξ (.pP o u)->H' b=ξ (.pP o u)
 yA:∀b ps,H b=ξ (.Ow ps)->∃more,H' b=ξ (.Ow (ps++more))
section
variable{fs fs' ex ex':List Addr}{H H1 H2:Hp}{h h1 h2 h':Heap}{a x e:Addr}{o:HO}
def Un.any(u:Un fs ex H H1 h h1){b:Addr}{ob:Obj}(q:h.get? b=ξ ob)(n:H b=ψ)(hx:b∉ex):∃sl,h1.get? b=ξ {ob with slots:=sl}:=by
 by_cases hb:b∈fs
 .erw[u.slot b ob q n hb hx]
 .exact#[ob.slots,u.keep b ob q n hb hx]
def Un.kept(k:∀b u,h.get? b=ξ u->h'.get? b=ξ u):Un fs ex H H h h':=
 #[λb ob q _ _ _=>k b ob q,λb ob q _ _ _=>#[ob.slots,k b ob q],λ_ _ _ n _=>n,λb ob q _=>#[ob,k b ob q],λ_ _ q=>q,λ_ _ _ q=>q,λ_ ps q=>#[#[],by rw[q];simp]]
def Un.refl:Un fs ex H H h h:=Un.kept λ_ _ q=>q
def Un.laid(k:∀b u,h.get? b=ξ u->h'.get? b=ξ u)(hp:h.objs.size<=a)(hn:H a=ψ):Un fs ex H (upd H a o) h h' where
 keep:=λb u q _ _ _=>k b u q
 slot:=λb u q _ _ _=>#[u.slots,k b u q]
 free:=λb u q n _=>%[a7 (a6 (au (aU q) hp))|n]
 there:=λb u q _=>#[u,k b u q]
 yz:=λb xs q=>%[a7 (dk q hn)|q]
 wg:=λb u xs q=>%[a7 (dk q hn)|q]
 yA:=λb ps q=>#[#[],by rw[a7 (dk q hn),q];simp]
def Un.write(mu:Sv (H x))(he:e=x\/H e=ξ (.own x))(k:∀b u,b≠e->h.get? b=ξ u->h'.get? b=ξ u)(heo:∃u,h'.get? e=ξ u):Un fs ex H (upd H x o) h h':=by
 have hx:∀b,H b=ψ->b≠x:=λb n z=>by subst z;rw[n] at mu;erw[mu]
 have hb:∀b,H b=ψ->b≠e:=λb n z=>by
  subst z;rcases he with r|r
  .erw[hx b n r]
  .rw[n] at r;cases r
 have hm:∀b u,H b=ξ u->¬Sv (ξ u)->b≠x:=λb u q nm z=>by subst z;rw[q] at mu;erw[nm mu]
 refine#[λb u q n _ _=>k b u (hb b n) q,λb u q n _ _=>#[u.slots,k b u (hb b n) q],λb u q n _=>by rw[a7 (hx b n)];exact n,λb u q _=>?_,
  λb xs q=>%[a7 (hm b _ q λz=>z)|q],λb u xs q=>%[a7 (hm b _ q λz=>z)|q],λb ps q=>#[#[],by rw[a7 (hm b _ q λz=>z),q];simp]]
 by_cases hbe:b=e
 .subst hbe;erw[heo]
 .exact#[u,k b u hbe q]
end
abbrev Kh(h:Heap)(H:Hp):List Addr:=(b9 h.objs.size).filter λa=>(H a).isSome
abbrev yB(h:Heap)(H:Hp):Heap:=PySem.W.hideAll h (Kh h H)
def EW(h:Heap)(H:Hp):(yB h H).objs.size=h.objs.size:=PySem.W.hideAll_size _ _
def GO(e:h.get? b=ξ o)(n:H b=ψ):(yB h H).get? b=ξ o:=
 PySem.W.hideAll_get _ e λhm=>by
  have q:(H b).isSome=ζ:=(fZ.mp hm).2;rw[n] at q;simp at q
def KN(e:(yB h H).get? b=ξ o):h.get? b=ξ o/\H b=ψ:=by
 have e':h.get? b=ξ o:=PySem.W.of_hideAll (Kh h H) e;refine#[e',?_];cases q:H b with
 |none=>rfl
 |some x=>
  have hm:b∈Kh h H:=fZ.mpr #[pM.mpr (aU e'),by simp[q]];have z:(yB h H).get? b=ψ:=PySem.W.hideAll_none (Kh h H) hm;rw[z] at e;cases e
structure Mod(K:aH)(mg:Str->Option Value)(base:Heap):Prop where
 Oy:K.In base
 glob:base.Ns bw mg
 blt:∃mb,base.Ns BD mb/\∀x:Str,x≠"__name__"->mb x=jT x
 nolimit:base.NoLimit
structure Cx where
 prog:bj
 w:bL
 K:aH
 mg:Str->Option Value
 base:Heap
 A:cf
 N:List Str
 s₀:av
 H₀:Hp
 env:Env
 outer:List Env
 stack:List Env
 ex:List Addr
 fn:Str->Bool
 calm:Bool
 pn:List (Addr×Obj)
 xe:Value->av->Prop
abbrev wj(l:List Env):List Addr:=l.filterMap (·.frame)
@[reducible]def Cx.fs(X:Cx):List Addr:=wj X.outer
abbrev Ki(sc:jh)(x:Str):Prop:=sc.names.lookup x=ξ .local\/sc.names.lookup x=ξ .cell\/sc.names.lookup x=ξ .free
abbrev Loc(sc:jh)(x:Str):Prop:=sc.names.lookup x=ξ .local\/sc.names.lookup x=ξ .cell
abbrev Look(env:Env)(h:Heap)(m:Str->Option Value)(x:Str)(u:Value):Prop:=
 (env.kindOf x=ξ .local/\m x=ξ u)\/((env.kindOf x=ξ .cell\/env.kindOf x=ξ .free)/\∃c,env.cells.lookup x=ξ c/\h.IsCell c (ξ u))
structure Cx.Ok(X:Cx):Prop where
 mod:Mod X.K X.mg X.base
 kind:X.env.scope.kind=.function
 glob:X.env.globals=bw
 blt:X.env.builtins=BD
 above:X.s₀.heap.objs.size<=X.env.locals
 inj:∀x y c,X.env.cells.lookup x=ξ c->X.env.cells.lookup y=ξ c->x=y
 has:∀x,(X.env.kindOf x=ξ .cell\/X.env.kindOf x=ξ .free)->∃c,X.env.cells.lookup x=ξ c
 NG:∀x c,X.fn x=ζ->X.env.cells.lookup x=ξ c->X.s₀.heap.objs.size<=c
 hd:X.calm=ζ->X.A.handled=ψ
 frames:X.A.frames=ξ X.stack
 Bs:X.stack=X.outer\/(X.stack=X.env::X.outer/\X.env.frame=ξ X.env.locals)
 SS:∀b∈X.ex,b≠X.env.locals/\∀x c,X.env.cells.lookup x=ξ c->c≠b
 bs:∀b o,X.base.get? b=ξ o->X.s₀.heap.get? b=ξ o/\X.H₀ b=ψ
 GQ:X.base.objs.size<=X.s₀.heap.objs.size
 z6:∀b o,X.base.get? b=ξ o->b∉X.ex
 BV:∀b∈X.ex,b∉X.fs
 pF:X.s₀.heap.FunFrames X.base X.outer
 Kj:∀b∈X.fs,X.H₀ b=ψ
structure Inv(X:Cx)(pZ:List (Addr×Obj))(σ:List (Option V))(H:Hp)(s:av):Prop where
 ok:X.Ok
 os:s.os=X.s₀.os
 bare:nP s.gens
 base:Un X.fs X.ex X.H₀ H X.s₀.heap s.heap
 loc:∃m,s.heap.Ns X.env.locals m/\∀(i:Nat)(x:Str)(v:V),X.N[i]?=ξ x->σ[i]?=ξ (ξ v)->Ki X.env.scope x->∃u,RelV v u/\Look X.env s.heap m x u
 cell:∀x c,X.env.cells.lookup x=ξ c->∃v,s.heap.IsCell c v
 free:H X.env.locals=ψ
 kP:∀x c,X.env.cells.lookup x=ξ c->H c=ψ
 pin:∀p∈X.pn++pZ,s.heap.get? p.1=ξ p.2/\H p.1=ψ/\p.1≠X.env.locals/\p.1∉X.fs/\∀v,p.2.data≠.cell v
 ck:mI X.prog X.w H s.heap
 len:σ.length=X.N.length
section
variable{X:Cx}{pZ:List (Addr×Obj)}{σ:List (Option V)}{H H':Hp}{s:av}{h':Heap}
def Cx.Ok.Xh(ok:X.Ok)(e:X.base.get? b=ξ o):b∉X.fs:=λhb=>by
 have:=(ok.pF.mem hb).1;rw[e] at this;cases this
def Inv.bs(I:Inv X pZ σ H s):∀b o,X.base.get? b=ξ o->s.heap.get? b=ξ o/\H b=ψ:=λb o e=>
 #[I.base.keep b o (I.ok.bs b o e).1 (I.ok.bs b o e).2 (I.ok.Xh e) (I.ok.z6 b o e),I.base.free b o (I.ok.bs b o e).1 (I.ok.bs b o e).2 (I.ok.z6 b o e)]
def Inv.bk(I:Inv X pZ σ H s):∀b o,X.base.get? b=ξ o->s.heap.get? b=ξ o:=λb o e=>(I.bs b o e).1
def Inv.mod(I:Inv X pZ σ H s):Mod X.K X.mg X.base:=I.ok.mod
def Inv.jY(I:Inv X pZ σ H s):X.K.In s.heap:=I.ok.mod.Oy.keeps I.bk
def Inv.lt(I:Inv X pZ σ H s):X.env.locals<s.heap.objs.size:=let ⟨_,hn,_⟩:=I.loc;hn.lt
def Inv.sz(I:Inv X pZ σ H s):X.s₀.heap.objs.size<=s.heap.objs.size:=aP I.ok.above (cv I.lt)
def Inv.Xi(I:Inv X pZ σ H s)(h:s.heap.objs.size<=a):a∉X.fs:=λhb=>by
 let#[_,o,ho,_]:=I.ok.pF.mem hb;erw[absurd (au (aU ho) (aP I.sz h)) (cV _)]
def Inv.KO(I:Inv X pZ σ H s):∀x c,X.env.cells.lookup x=ξ c->c≠X.env.locals:=λx c e z=>by
 let#[v,o,ho,hd]:=I.cell x c e;let#[m,#[o',es,ep,ho',hd',_],_]:=I.loc;rw[z,ho'] at ho;cases ho;rw[hd'] at hd;cases hd
def Inv.pF(I:Inv X pZ σ H s):s.heap.FunFrames X.base X.outer:=by
 have all:∀(l:List Env),(∀b∈wj l,b∈X.fs)->X.s₀.heap.FunFrames X.base l->s.heap.FunFrames X.base l:=by
  intro l;induction l with
  |nil=>intro _ _;trivial
  |cons env r ih=>
   intro hs hl;let#[hk,#[L,o,hf,hn,ho,hd],hr]:=hl;have hL:L∈X.fs:=hs L (by unfold wj;rw[bX,hf];erw[aV]);let#[sl,e]:=I.base.slot L o ho (I.ok.Kj L hL) hL λz=>I.ok.BV L z hL
   exact#[hk,#[L,_,hf,hn,e,hd],ih (λb hb=>hs b (by unfold wj;rw[bX,hf];erw[ay _ hb])) hr]
 erw[all X.outer (λ_ hb=>hb) I.ok.pF]
def Inv.stack(I:Inv X pZ σ H s):s.heap.FunFrames X.base X.stack:=by
 rcases I.ok.Bs with e|⟨e,hf⟩
 .rw[e];erw[I.pF]
 .rw[e]
  let#[m,hn,_]:=I.loc;rwa[.cons (by rw[I.ok.kind];decide) hf hn ?_ I.pF];erw[pN (aP I.ok.GQ I.ok.above)]
def Inv.uJ(I:Inv X pZ σ H s):∀b∈wj X.stack,b∈X.env.locals::X.fs:=λb hb=>by
 rcases I.ok.Bs with e|⟨e,hf⟩
 .rw[e] at hb;erw[ay _ hb]
 .rw[e] at hb
  unfold wj at hb;rw[bX,hf] at hb;erw[hb]
def Inv.yC(I:Inv X pZ σ H s):∀b∈wj X.stack,H b=ψ:=λb hb=>by
 rcases aW.mp (I.uJ b hb) with e|hb
 .rw[e];erw[I.free]
 .let#[_,o,ho,_]:=I.ok.pF.mem hb
  erw[I.base.free b o ho (I.ok.Kj b hb) λz=>I.ok.BV b z hb]
def Inv.step{g':Array Kq}{t':Nat}{d':Drawn}{ch:List Addr}(I:Inv X pZ σ H s)
  (hch:∀b∈ch,(b∈X.ex\/X.s₀.heap.objs.size<=b)/\b≠X.env.locals/\(∀x c,X.env.cells.lookup x=ξ c->c≠b)/\∀p∈X.pn++pZ,p.1≠b)
  (keep:∀b o,b≠X.env.locals->b∉X.fs->b∉ch->s.heap.get? b=ξ o->H b=ψ->h'.get? b=ξ o)
  (slot:∀b o,b≠X.env.locals->b∈X.fs->b∉ch->s.heap.get? b=ξ o->H b=ψ->∃sl,h'.get? b=ξ {o with slots:=sl}) (free:∀b o,b∉ch->s.heap.get? b=ξ o->H b=ψ->H' b=ψ)
  (there:∀b o,b∉ch->s.heap.get? b=ξ o->∃o',h'.get? b=ξ o')
  (yz:∀b xs,H b=ξ (.tup xs)->H' b=ξ (.tup xs)) (wg:∀b o u,H b=ξ (.pP o u)->H' b=ξ (.pP o u)) (yA:∀b ps,H b=ξ (.Ow ps)->∃more,H' b=ξ (.Ow (ps++more)))
  (ns:∀m,s.heap.Ns X.env.locals m->h'.Ns X.env.locals m) (ck:mI X.prog X.w H' h') (hg:nP g'):
  Inv X pZ σ H' {s with heap:=h',gens:=g',drawn:=d',toks:=t'}:=by
 have neL:∀b o,X.s₀.heap.get? b=ξ o->b≠X.env.locals:=λb o e=>a6 (au (aU e) I.ok.above)
 have neC:∀b o,X.s₀.heap.get? b=ξ o->b∉X.ex->b∉ch:=λb o e hx hb=>by
  rcases(hch b hb).1 with z|z
  .erw[hx z]
  .erw[absurd (au (aU e) z) (cV _)]
 have cellK:∀x c,X.env.cells.lookup x=ξ c->∀v,s.heap.IsCell c v->h'.IsCell c v:=λx c e v #[o,ho,hd]=>by
  have nch:c∉ch:=λz=>(hch c z).2.2.1 x c e rfl
  by_cases hc:c∈X.fs
  .let#[sl,q]:=slot c o (I.KO x c e) hc nch ho (I.kP x c e)
   exact#[_,q,hd]
  .exact#[o,keep c o (I.KO x c e) hc nch ho (I.kP x c e),hd]
 refine#[I.ok,I.os,hg,#[λb o e n hb hx=>?_,λb o e n hb hx=>?_,λb o e n hx=>?_,λb o e hx=>?_,λb xs e=>yz b xs (I.base.yz b xs e),λb o xs e=>wg b o xs (I.base.wg b o xs e),λb ps e=>?_],?_,λx c e=>?_,?_,λx c e=>?_,λp hp=>?_,ck,I.len]
 .erw[keep b o (neL b o e) hb (neC b o e hx) (I.base.keep b o e n hb hx) (I.base.free b o e n hx)]
 .let#[sl,e1]:=I.base.slot b o e n hb hx
  let#[sl',e2]:=slot b _ (neL b o e) hb (neC b o e hx) e1 (I.base.free b o e n hx);exact#[sl',e2]
 .let#[o',e1]:=I.base.there b o e hx
  erw[free b o' (neC b o e hx) e1 (I.base.free b o e n hx)]
 .let#[o',e1]:=I.base.there b o e hx
  erw[there b o' (neC b o e hx) e1]
 .let#[m1,e1]:=I.base.yA b ps e
  let#[m2,e2]:=yA b _ e1;exact#[m1++m2,by rw[e2,Array.append_assoc]]
 .let#[m,hn,hl]:=I.loc
  refine#[m,ns m hn,λi x v e1 e2 e3=>?_];let#[u,r,l]:=hl i x v e1 e2 e3;refine#[u,r,?_];rcases l with l|⟨k,c,e,z⟩
  .erw[.inl l]
  .erw[.inr #[k,c,e,cellK x c e _ z]]
 .let#[v,z]:=I.cell x c e
  exact#[v,cellK x c e v z]
 .let#[m,#[o,_,_,ho,_],_]:=I.loc
  erw[free _ o (λz=>(hch _ z).2.1 rfl) ho I.free]
 .let#[v,o,ho,hd]:=I.cell x c e
  erw[free c o (λz=>(hch c z).2.2.1 x c e rfl) ho (I.kP x c e)]
 .let#[e,n,ne,nf,d]:=I.pin p hp
  have nch:p.1∉ch:=λz=>(hch p.1 z).2.2.2 p hp rfl
  exact#[keep p.1 p.2 ne nf nch e n,free p.1 p.2 nch e n,ne,nf,d]
def Inv.un{t':Nat}(I:Inv X pZ σ H s)(u:Un X.fs [] H H' s.heap h')(ck:mI X.prog X.w H' h'):Inv X pZ σ H' {s with heap:=h',toks:=t'}:=by
 let#[m,#[o,es,ep,ho,r],_]:=id I.loc;let#[sl,hL]:=u.any ho I.free (#v[]);exact I.step (g':=s.gens) (d':=s.drawn) (ch:=[]) (λ_ z=>nomatch z) (λb o _ hb _ e n=>u.keep b o e n hb (#v[])) (λb o _ hb _ e n=>u.slot b o e n hb (#v[])) (λb o _ e n=>u.free b o e n (#v[])) (λb o _ e=>u.there b o e (#v[])) u.yz u.wg u.yA (λm' hm=>by
  let#[o',es',ep',ho',r']:=hm;rw[ho] at ho';cases ho';exact#[_,es',ep',hL,r']) ck I.bare
def Inv.call{g':Array Kq}{t':Nat}{d':Drawn}{ch:List Addr}(I:Inv X pZ σ H s)(u:Un (wj X.stack) ch H H' s.heap h')(ck:mI X.prog X.w H' h')(hg:nP g')
  (hch:∀b∈ch,(b∈X.ex\/X.s₀.heap.objs.size<=b)/\b≠X.env.locals/\(∀x c,X.env.cells.lookup x=ξ c->c≠b)/\∀p∈X.pn++pZ,p.1≠b):
  Inv X pZ σ H' {s with heap:=h',gens:=g',drawn:=d',toks:=t'}:=by
 let#[m,#[o,es,ep,ho,r],_]:=id I.loc;let#[sl,hL]:=u.any ho I.free λz=>(hch _ z).2.1 rfl
 exact I.step (ch:=ch) hch (λb o hL hb hc e n=>u.keep b o e n (λz=>(aW.mp (I.uJ b z)).elim hL hb) hc) (λb o _ _ hc e n=>u.any e n hc) (λb o hc e n=>u.free b o e n hc) (λb o hc e=>u.there b o e hc) u.yz u.wg u.yA (λm' hm=>by
  let#[o',es',ep',ho',r']:=hm;rw[ho] at ho';cases ho';exact#[_,es',ep',hL,r']) ck hg
def Inv.turned{t':Nat}{it:Addr}(I:Inv X pZ σ H s)(k:∀b o,b≠it->s.heap.get? b=ξ o->h'.get? b=ξ o)(hn:H it=ψ)(hL:it≠X.env.locals)
  (h1:it∈X.ex\/X.s₀.heap.objs.size<=it) (h2:∀x c,X.env.cells.lookup x=ξ c->c≠it) (h3:∀p∈X.pn++pZ,p.1≠it):Inv X pZ σ H {s with heap:=h',toks:=t'}:=by
 have nit:∀b u,H b=ξ u->b≠it:=λb u e z=>by rw[z,hn] at e;cases e
 refine I.step (g':=s.gens) (d':=s.drawn) (ch:=[it]) (λb hb=>?_) (λb o _ _ hc e _=>k b o (λz=>hc (by simp[z])) e) (λb o _ _ hc e _=>#[o.slots,k b o (λz=>hc (by simp[z])) e]) (λ_ _ _ _ n=>n)
  (λb o hc e=>#[o,k b o (λz=>hc (by simp[z])) e]) (λ_ _ e=>e) (λ_ _ _ e=>e) (λb ps e=>#[#[],by rw[e];simp]) (λm hm=>?_) (λb u e=>?_) I.bare
 .have e:b=it:=by simpa using hb
  subst e;exact#[h1,hL,h2,h3]
 .let#[o,es,ep,ho,r]:=hm
  exact#[o,es,ep,k _ o (bI hL) ho,r]
 .refine(I.ck b u e).rO (λc v hc q=>k c v ?_ q) (λ_ q=>q) λ_ _ q=>q
  rcases hc with z|z
  .rw[z];erw[nit b u e]
  .erw[nit c _ z]
def Inv.tok(I:Inv X pZ σ H s)(t:Nat):Inv X pZ σ H {s with toks:=t}:=I.un (h':=s.heap) (t':=t) Un.refl I.ck
def Inv.kept{t':Nat}(I:Inv X pZ σ H s)(k:∀b u,s.heap.get? b=ξ u->h'.get? b=ξ u):Inv X pZ σ H {s with heap:=h',toks:=t'}:=I.un (Un.kept k) (I.ck.kept k)
def Inv.laid{a:Addr}{o:HO}{t':Nat}(I:Inv X pZ σ H s)(k:∀b u,s.heap.get? b=ξ u->h'.get? b=ξ u)(hp:s.heap.objs.size<=a)(new:c9 X.prog X.w (upd H a o) h' a o):
  Inv X pZ σ (upd H a o) {s with heap:=h',toks:=t'}:=I.un (Un.laid k hp (I.ck.fresh hp)) (I.ck.laid k hp new)
def Inv.write(I:Inv X pZ σ H s)(mu:Sv (H x))(he:e=x\/H e=ξ (.own x))(k:∀b u,b≠e->s.heap.get? b=ξ u->h'.get? b=ξ u)(heo:∃u,h'.get? e=ξ u)
  (new:c9 X.prog X.w (upd H x o) h' x o):Inv X pZ σ (upd H x o) {s with heap:=h',toks:=t'}:=I.un (Un.write mu he k heo) (I.ck.write mu he k heo new)
def Inv.Dx(I:Inv X pZ σ H s)(h:∀p∈pins',s.heap.get? p.1=ξ p.2/\H p.1=ψ/\p.1≠X.env.locals/\p.1∉X.fs/\∀v,p.2.data≠.cell v):Inv X pins' σ H s:=
 #[I.ok,I.os,I.bare,I.base,I.loc,I.cell,I.free,I.kP,λp hp=>(aT.mp hp).elim (λz=>I.pin p (eI _ z)) (h p),I.ck,I.len]
def uK{N:List Str}(hN:N.Nodup){i j:Nat}{x:Str}(a:N[i]?=ξ x)(b:N[j]?=ξ x):i=j:=by
 let#[h1,e1]:=ag.mp a;let#[h2,e2]:=ag.mp b;exact(J4 hN).mp (e1.trans e2.symm)
def wW{M:Kr}{A:cf}{E:Value->av->Prop}{i:Nat}{x:Str}{v:V}{u:Value}{Q:Unit->av->Prop}(I:Inv X pZ σ H s)(hN:X.N.Nodup)(hi:X.N[i]?=ξ x)(hx:Loc X.env.scope x)(r:RelV v u)
  (h:∀s',Inv X pZ (σ.set i (ξ v)) H s'->(∃a,fS a s.heap s'.heap/\(a=X.env.locals\/X.env.cells.lookup x=ξ a))->Q () s') (hf:X.fn x=ζ\/X.env.scope.names.lookup x=ξ .local:=by first|exact .inl rfl|exact .inr rfl|assumption):wpAny M A (storeName X.env x u) Q E s:=by
 let#[m,hn,hl]:=id I.loc;have hcls:(X.env.scope.kind==.class||(X.env.scope.kind==.module&&X.env.locals !=X.env.globals))=ϑ:=by rw[I.ok.kind];rfl
 have hiσ:i<σ.length:=by rw[I.len];exact(ag.mp hi).1
 have KO:=I.KO;have tracked:∀{a:Addr}{h':Heap},(∃o,s.heap.get? a=ξ o/\H a=ψ)->fS a s.heap h'->mI X.prog X.w H h':=λ{a h'}ha hs b ob e=>by
  let#[_,_,hfree]:=ha;refine(I.ck b ob e).rO (λc w' hc q=>(hs.2 c ?_).trans q) (λ_ q=>q) λ_ _ q=>q
  rintro rfl;rcases hc with rfl|hc
  .rw[hfree] at e;cases e
  .rw[hfree] at hc;cases hc
 rcases hx with hk|hk
 .rwa[wpAny_storeName_local hk hn (λh' hn' hs=>?_) hcls]
  let#[oL,_,_,hoL,_]:=id hn;refine h _ #[I.ok,I.os,I.bare,#[λb o e n hb hx=>?_,λb o e n hb hx=>?_,I.base.free,λb o e hx=>?_,I.base.yz,I.base.wg,I.base.yA],#[_,hn',λj y v' e1 e2 e3=>?_],λy c e=>?_,I.free,I.kP,λp hp=>?_,tracked #[oL,hoL,I.free] hs,~~~I.len] #[_,hs,.inl rfl]
  .exact(hs.2 b (a6 (au (aU e) I.ok.above))).trans (I.base.keep b o e n hb hx)
  .let#[sl,e1]:=I.base.slot b o e n hb hx
   exact#[sl,(hs.2 b (a6 (au (aU e) I.ok.above))).trans e1]
  .let#[o',e1]:=I.base.there b o e hx
   exact#[o',(hs.2 b (a6 (au (aU e) I.ok.above))).trans e1]
  .by_cases hj:j=i
   .subst hj
    rw[hi] at e1;cases e1;rw[ba hiσ] at e2;cases e2;exact#[u,r,.inl #[hk,#v[]]]
   .rw[ai (bI hj)] at e2
    let#[u',r',q]:=hl j y v' e1 e2 e3;refine#[u',r',?_];rcases q with⟨k,e⟩|⟨k,c,e,z⟩
    .rwa[.inl #[k,?_]]
     have:y≠x:=λe=>hj (uK hN e1 (e▸hi))
     simp[this,e]
    .erw[.inr #[k,c,e,z.sameBut hs (KO y c e)]]
  .let#[w',z]:=I.cell y c e
   exact#[w',z.sameBut hs (KO y c e)]
  .let#[e,n,ne,nf,d]:=I.pin p hp
   exact#[(hs.2 p.1 ne).trans e,n,ne,nf,d]
 .have hfn:X.fn x=ζ:=by
   rcases hf with z|z
   .erw[z]
   .rw[z] at hk;cases hk
  let#[c,hc]:=I.ok.has x (.inl hk);let#[w',z]:=I.cell x c hc;rwa[wpAny_storeName_cell I.ok.kind hk hc z (λh' hc' hs=>?_)];let#[oc,hoc,hocd]:=id z;refine h {s with heap:=h'} #[I.ok,I.os,I.bare,#[λb o e n hb hx=>?_,λb o e n hb hx=>?_,I.base.free,λb o e hx=>?_,I.base.yz,I.base.wg,I.base.yA],#[m,hn.sameBut hs (bI (KO x c hc)),λj y v' e1 e2 e3=>?_],λy c' e=>?_,I.free,I.kP,λp hp=>?_,tracked #[oc,hoc,I.kP x c hc] hs,~~~I.len] #[c,hs,.inr hc]
  .exact(hs.2 b (a6 (au (aU e) (I.ok.NG x c hfn hc)))).trans (I.base.keep b o e n hb hx)
  .let#[sl,e1]:=I.base.slot b o e n hb hx
   exact#[sl,(hs.2 b (a6 (au (aU e) (I.ok.NG x c hfn hc)))).trans e1]
  .let#[o',e1]:=I.base.there b o e hx
   exact#[o',(hs.2 b (a6 (au (aU e) (I.ok.NG x c hfn hc)))).trans e1]
  .by_cases hj:j=i
   .subst hj
    rw[hi] at e1;cases e1;rw[ba hiσ] at e2;cases e2;exact#[u,r,.inr #[.inl hk,c,hc,hc']]
   .rw[ai (bI hj)] at e2
    let#[u',r',q]:=hl j y v' e1 e2 e3;refine#[u',r',?_];rcases q with q|⟨k,c',e,z'⟩
    .erw[.inl q]
    .rwa[.inr #[k,c',e,z'.sameBut hs ?_]]
     rintro rfl;erw[hj (uK hN e1 (I.ok.inj _ _ _ e hc▸hi))]
  .by_cases hcc:c'=c
   .subst hcc;exact#[_,hc']
   .let#[w2,z2]:=I.cell y c' e
    exact#[w2,z2.sameBut hs hcc]
  .let#[e,n,ne,nf,d]:=I.pin p hp
   refine#[(hs.2 p.1 ?_).trans e,n,ne,nf,d];intro q;rw[q,hoc] at e;have q':oc=p.2:=aG e;erw[d w' (by rw[<-q'];exact hocd)]
def kQ{M:Kr}{A:cf}{E:Value->av->Prop}{i:Nat}{x:Str}{v:V}{u:Value}{Q:Unit->av->Prop}(I:Inv X pZ σ H s)(hN:X.N.Nodup)(hi:X.N[i]?=ξ x)(hx:Loc X.env.scope x)(r:RelV v u)
  (h:∀s',Inv X pZ (σ.set i (ξ v)) H s'->Q () s') (hf:X.fn x=ζ\/X.env.scope.names.lookup x=ξ .local:=by first|exact .inl rfl|exact .inr rfl|assumption):wpAny M A (storeName X.env x u) Q E s:=
 wW I hN hi hx r (λs' I' _=>h s' I') hf
def Inv.NH(I:Inv X pZ σ H s)(ho:s'.os=s.os)(u:Un (wj X.stack) ch H H' s.heap s'.heap)(ck:mI X.prog X.w H' s'.heap)(hg:nP s'.gens)
  (hch:∀b∈ch,(b∈X.ex\/X.s₀.heap.objs.size<=b)/\b≠X.env.locals/\(∀x c,X.env.cells.lookup x=ξ c->c≠b)/\∀p∈X.pn++pZ,p.1≠b):Inv X pZ σ H' s':=by
 let#[h',g',d',t',o']:=s';have e:o'=s.os:=ho;subst e;erw[I.call (g':=g') (t':=t') (d':=d') u ck hg hch]
end
@[reducible]def XK:=Bool×Value->Option Addr->Hp->Prop
@[reducible]def St:=List (Option V)
@[reducible]def VK:=V->Hp->Prop
@[reducible]def TE:=St->Hp->VK->Prop
@[reducible]def TT:=St->Hp->(Bool->Hp->Prop)->Prop
@[reducible]def TA:=St->Hp->(List V->Hp->Prop)->Prop
structure Ends where
 nx:St->Hp->Prop
 rt:VK
 bk:St->Hp->Prop:=λ_ _=>False
 ct:St->Hp->Prop:=λ_ _=>False
@[reducible]def TS:=Ends->St->Hp->Prop
abbrev EP(X:Cx)(pZ:List (Addr×Obj))(σ:St)(Q:VK)(u:Value)(s':av):Prop:=∃v H',Inv X pZ σ H' s'/\RelV v u/\Q v H'
abbrev TP(X:Cx)(pZ:List (Addr×Obj))(σ:St)(Q:Bool->Hp->Prop)(b:Bool)(s':av):Prop:=∃H',Inv X pZ σ H' s'/\Q b H'
abbrev AP(X:Cx)(pZ:List (Addr×Obj))(σ:St)(Q:List V->Hp->Prop)(us:List Value)(s':av):Prop:=∃vs H',Inv X pZ σ H' s'/\Vals vs us/\Q vs H'
abbrev SP(X:Cx)(pZ:List (Addr×Obj))(D:Ends)(f:Flow)(s':av):Prop:=
 match f with
 |.next=>∃σ' H',Inv X pZ σ' H' s'/\D.nx σ' H'
 |.brk=>∃σ' H',Inv X pZ σ' H' s'/\D.bk σ' H'
 |.cont=>∃σ' H',Inv X pZ σ' H' s'/\D.ct σ' H'
 |.ret u=>∃v σ' H',Inv X pZ σ' H' s'/\RelV v u/\D.rt v H'
abbrev PE(X:Cx)(e:Expr)(t:TE):Prop:=
 ∀(pZ:List (Addr×Obj))(s:av)(σ:St)(H:Hp)(Q:VK),Inv X pZ σ H s->t σ H Q->wpAny (aS X.prog X.w) X.A (eval e X.env) (EP X pZ σ Q) X.xe s
abbrev PT(X:Cx)(e:Expr)(t:TT):Prop:=
 ∀(pZ:List (Addr×Obj))(s:av)(σ:St)(H:Hp)(Q:Bool->Hp->Prop),Inv X pZ σ H s->t σ H Q->wpAny (aS X.prog X.w) X.A (isTrue e X.env (eval e X.env)) (TP X pZ σ Q) X.xe s
abbrev PW(X:Cx)(e:Expr)(t:TT):Prop:=
 ∀(whole:Sem Value)(pZ:List (Addr×Obj))(s:av)(σ:St)(H:Hp)(Q:Bool->Hp->Prop),Inv X pZ σ H s->t σ H Q->wpAny (aS X.prog X.w) X.A (isTrue e X.env whole) (TP X pZ σ Q) X.xe s
def PW.pt{X:Cx}{e:Expr}{t:TT}(h:PW X e t):PT X e t:=h _
abbrev PA(X:Cx)(es:List Expr)(t:TA):Prop:=
 ∀(pos:Pos)(pZ:List (Addr×Obj))(s:av)(σ:St)(H:Hp)(Q:List V->Hp->Prop),Inv X pZ σ H s->t σ H Q->wpAny (aS X.prog X.w) X.A (spliced (hV pos (bM es X.env))) (AP X pZ σ Q) X.xe s
abbrev PS(X:Cx)(st:Stmt)(t:TS):Prop:=
 ∀(pZ:List (Addr×Obj))(s:av)(σ:St)(H:Hp)(D:Ends),Inv X pZ σ H s->t D σ H->wpAny (aS X.prog X.w) X.A (exec st X.env) (SP X pZ D) X.xe s
abbrev rF(X:Cx)(st:List Stmt)(t:TS):Prop:=
 ∀(pZ:List (Addr×Obj))(s:av)(σ:St)(H:Hp)(D:Ends),Inv X pZ σ H s->t D σ H->wpAny (aS X.prog X.w) X.A (execs st X.env) (SP X pZ D) X.xe s
def dS{α:Type}{t:Sem α}{Q Q':α->av->Prop}{M:Kr}{A:cf}{E:Value->av->Prop}{s:av}(h:wpAny M A t Q E s)(hQ:∀a s,Q a s->Q' a s):wpAny M A t Q' E s:=bg h hQ λ_ _ x=>x
section
variable{X:Cx}
abbrev Xj(i:Nat):TE:=λσ H Q=>∃v,σ[i]?=ξ (ξ v)/\Q v H
abbrev tC(v:V):TE:=λ_ H Q=>Q v H
def qc(hN:X.N[i]?=ξ x)(hv:Ki X.env.scope x)(hd:(x==("__debug__":Str))=ϑ:=by decide)(hcd:(x==("__classdict__":Str))=ϑ:=by decide):PE X (.Name x pos) (Xj i):=by
 k_go;let#[v,e,h]:=h;let#[m,hn,hl]:=I.loc;let#[u,r,l]:=hl i x v hN e hv;have fin:EP X pZ σ Q u s:=#[v,H,I,r,h]
 rcases l with⟨hk,hm⟩|⟨hk,c,hc,hcell⟩
 .erw[wpAny_Name (Ks I.ok.kind hk hn hm fin) hd]
 .rcases hk with hk|hk
  .erw[wpAny_Name (wpAny_loadName_cell I.ok.kind hk hc hcell fin) hd]
  .erw[wpAny_Name (wpAny_loadName_free I.ok.kind hk hc hcell fin hcd) hd]
def Oz{i j pos}:PE X (.Constant (.int i) j pos) (tC (.int i)):=λ_ _ _ H _ I h=>wpAny_Constant_int #[.int i,H,I.tok _,#[_,rfl],h]
def SU{b j pos}:PE X (.Constant (.bool b) j pos) (tC (.bl b)):=λ_ _ _ H _ I h=>Constant_bool #[.bl b,H,I,rfl,h]
def OA{j pos}:PE X (.Constant .none j pos) (tC .bK):=λ_ _ _ H _ I h=>Constant_none #[.bK,H,I,rfl,h]
def OB{x j pos}:PE X (.Constant (.str x) j pos) (tC (.str x)):=λ_ _ _ H _ I h=>Calls.Constant_str #[.str x,H,I.tok _,#[_,rfl],h]
abbrev Gl(X:Cx)(x:Str):Prop:=X.env.kindOf x=ξ .globalImplicit
def kh{E:Value->av->Prop}{pZ:List (Addr×Obj)}{s:av}{σ:St}{H:Hp}{x:Str}{u:Value}{pos:Pos}{Q:Value->av->Prop}(I:Inv X pZ σ H s)(hg:Gl X x)(hm:X.mg x=ξ u)(h:Q u s)
  (hd:(x==("__debug__":Str))=ϑ:=by decide):wpAny (aS X.prog X.w) X.A (eval (.Name x pos) X.env) Q E s:=
 vZ I.ok.kind hg (Calls.loadGlobal_global (%[I.ok.glob|I.mod.glob.keeps I.bk]) hm h) hd
def rP{E:Value->av->Prop}{pZ:List (Addr×Obj)}{s:av}{σ:St}{H:Hp}{x:Str}{u:Value}{pos:Pos}{Q:Value->av->Prop}(I:Inv X pZ σ H s)(hg:Gl X x)(hm:X.mg x=ψ)(hv:jT x=ξ u)(h:Q u s)
  (hn:x≠"__name__":=by decide) (hd:(x==("__debug__":Str))=ϑ:=by decide):wpAny (aS X.prog X.w) X.A (eval (.Name x pos) X.env) Q E s:=by
 let#[mb,h1,h2]:=I.mod.blt;erw[vZ I.ok.kind hg (Calls.loadGlobal_builtin (by rw[I.ok.glob];exact I.mod.glob.keeps I.bk) hm (by rw[I.ok.blt];exact h1.keeps I.bk) ((h2 x hn).trans hv) h) hd]
def Dy{x:Str}{v:V}{u:Value}{pos:Pos}(hg:Gl X x)(hm:X.mg x=ξ u)(r:RelV v u)(hd:(x==("__debug__":Str))=ϑ:=by decide):PE X (.Name x pos) (tC v):=
 λ_ _ _ H _ I h=>kh I hg hm #[v,H,I,r,h] hd
def KQ(hg:Gl X x)(hm:X.mg x=ψ)(hv:jT x=ξ u)(r:RelV v u)(hn:x≠"__name__":=by decide)(hd:(x==("__debug__":Str))=ϑ:=by decide):PE X (.Name x pos) (tC v):=
 λ_ _ _ H _ I h=>rP I hg hm hv #[v,H,I,r,h] hn hd
variable{a b:Expr}{ta tb:TE}{pos:Pos}
variable{tA tB':TT}{rest:List Expr}
abbrev Xk(t u:TT):TT:=λσ H Q=>t σ H λc H1=>if c=ζ then u σ H1 Q else Q ϑ H1
abbrev tOr(t u:TT):TT:=λσ H Q=>t σ H λc H1=>if c=ζ then Q ζ H1 else u σ H1 Q
abbrev Xl(t:TT):TT:=λσ H Q=>t σ H λc H1=>Q (!c) H1
def KR(ha:PT X a tA):PW X (.BoolOp .And [a] pos) tA:=by
 intro wh pZ s σ H Q I h;rwa[isTrue_and (dS (ha pZ s σ H Q I h) λc s1 e=>?_)];cases c with
 |true=>erw[isTrue_and_nil e]
 |false=>erw[e]
def OC(ha:PT X a tA):PW X (.BoolOp .Or [a] pos) tA:=by
 intro wh pZ s σ H Q I h;rwa[isTrue_or (dS (ha pZ s σ H Q I h) λc s1 e=>?_)];cases c with
 |false=>erw[isTrue_or_nil e]
 |true=>erw[e]
def OD(ha:PT X a tA)(hb:PW X (.BoolOp .And (b::rest) pos) tB'):PW X (.BoolOp .And (a::b::rest) pos) (Xk tA tB'):=by
 intro wh pZ s σ H Q I h;rwa[isTrue_and (dS (ha pZ s σ H _ I h) λc s1 h9=>?_)];let#[H1,I1,q1]:=h9;cases c with
 |true=>erw[hb wh pZ s1 σ H1 Q I1 q1]
 |false=>exact#[H1,I1,q1]
def SV(ha:PT X a tA)(hb:PW X (.BoolOp .Or (b::rest) pos) tB'):PW X (.BoolOp .Or (a::b::rest) pos) (tOr tA tB'):=by
 intro wh pZ s σ H Q I h;rwa[isTrue_or (dS (ha pZ s σ H _ I h) λc s1 h9=>?_)];let#[H1,I1,q1]:=h9;cases c with
 |true=>exact#[H1,I1,q1]
 |false=>erw[hb wh pZ s1 σ H1 Q I1 q1]
def OE(ha:PT X a tA):PT X (.UnaryOp .Not a pos) (Xl tA):=by
 k_go;erw[isTrue_not (ha pZ s σ H (λc H1=>Q (!c) H1) I h)]
abbrev SW(ta tb:TE):TE:=λσ H Q=>ta σ H λx H1=>∃c,x=.bl c/\if c=ζ then tb σ H1 Q else Q (.bl ϑ) H1
abbrev Xm(ta tb:TE):TE:=λσ H Q=>ta σ H λx H1=>∃c,x=.bl c/\if c=ζ then Q (.bl ζ) H1 else tb σ H1 Q
abbrev SX(ta:TE):TE:=λσ H Q=>ta σ H λx H1=>∃c,x=.bl c/\Q (.bl (!c)) H1
def OF{op}(h:PE X a t):PE X (.BoolOp op [a] pos) t:=λpZ s σ H Q I hw=>BoolOp_one (h pZ s σ H Q I hw)
def OG(ha:PE X a ta)(hb:PE X (.BoolOp .And (b::rest) pos) tb):PE X (.BoolOp .And (a::b::rest) pos) (SW ta tb):=by
 k_go;rwa[BoolOp_and (dS (ha pZ s σ H _ I h) λv s1 h9=>?_)];let#[x,H1,I1,r1,q1]:=h9;let#[c,rfl,q1]:=q1;cases r1;rwa[dN ?_];cases c with
 |true=>erw[hb pZ s1 σ H1 Q I1 q1]
 |false=>exact#[.bl ϑ,H1,I1,rfl,q1]
def SY(ha:PE X a ta)(hb:PE X (.BoolOp .Or (b::rest) pos) tb):PE X (.BoolOp .Or (a::b::rest) pos) (Xm ta tb):=by
 k_go;rwa[BoolOp_or (dS (ha pZ s σ H _ I h) λv s1 h9=>?_)];let#[x,H1,I1,r1,q1]:=h9;let#[c,rfl,q1]:=q1;cases r1;rwa[dN ?_];cases c with
 |false=>erw[hb pZ s1 σ H1 Q I1 q1]
 |true=>exact#[.bl ζ,H1,I1,rfl,q1]
def OH(ha:PE X a ta):PE X (.UnaryOp .Not a pos) (SX ta):=by
 k_go;rwa[UnaryOp_ (dS (ha pZ s σ H _ I h) λv s1 h9=>?_)];let#[x,H1,I1,r1,q1]:=h9;let#[c,rfl,q1]:=q1;cases r1;erw[not_of (dN #[.bl (!c),H1,I1,rfl,q1])]
abbrev tIf(t:TT)(ta tb:TE):TE:=λσ H Q=>t σ H λc H1=>if c=ζ then ta σ H1 Q else tb σ H1 Q
def GU{c:Expr}(hc:PT X c tA)(ha:PE X a ta)(hb:PE X b tb):PE X (.IfExp c a b pos) (tIf tA ta tb):=by
 k_go;rwa[wpAny_IfExp (dS (hc pZ s σ H _ I h) λd s1 h9=>?_)];let#[H1,I1,q1]:=h9;cases d with
 |true=>erw[ha pZ s1 σ H1 Q I1 q1]
 |false=>erw[hb pZ s1 σ H1 Q I1 q1]
end
abbrev iy(K:aH)(H:Hp)(a:Addr)(xs:List V):Prop:=
 Rd H a (.lst xs) \/
  ∃(o:Obj)(its:Array Value)(n:Nat),K.lookup a=ξ o/\o.cls=.type "list"/\o.dict=ψ/\o.data=.seq its n/\its.size<=sizeLine/\Vals xs its.toList
abbrev nB(K:aH)(H:Hp)(a:Addr)(xs:List V):Prop:=
 Rd H a (.tup xs) \/
  ∃(o:Obj)(its:Array Value)(n:Nat),K.lookup a=ξ o/\o.cls=.type "tuple"/\o.data=.seq its n/\its.size<=sizeLine/\Vals xs its.toList
abbrev Xo:Value->Option V
 |.none=>ξ .bK
 |.bool b=>ξ (.bl b)
 |.int i _=>ξ (.int i)
 |.str x _=>ξ (.str x)
 |.bytes b _=>ξ (.Br b)
 |.float b _=>ξ (.Ou b)
 |.ref a=>ξ (.ref a)
 |.type n=>ξ (.ty n)
 |_=>ψ
def RelV.abs(r:RelV x u):Xo u=ξ x:=by
 cases x with
 |bK=>cases r;rfl
 |bl _=>cases r;rfl
 |int _=>let#[t,rfl]:=r;rfl
 |str _=>let#[t,rfl]:=r;rfl
 |Br _=>let#[t,rfl]:=r;rfl
 |Ou _=>let#[t,rfl]:=r;rfl
 |ref _=>cases r;rfl
 |ty _=>cases r;rfl
def RelV.inj{x y:V}{u:Value}(r:RelV x u)(q:RelV y u):x=y:=aG (r.abs.symm.trans q.abs)
def Vals.inj:∀{xs ys:List V}{us:List Value},Vals xs us->Vals ys us->xs=ys
 |_,_,_,.nil,.nil=>rfl
 |_,_,_,.cons r t,.cons r' t'=>by rw[r.inj r',Vals.inj t t']
section
variable{X:Cx}{pZ:List (Addr×Obj)}{σ:St}{H:Hp}{s:av}{a:Addr}{xs ys:List V}
def iy.of{K:aH}(h:H a=ξ (.lst xs)):iy K H a xs:=.inl (.inl h)
def nB.of{K:aH}(h:H a=ξ (.tup xs)):nB K H a xs:=.inl (.inl h)
def Inv.list(I:Inv X pZ σ H s)(h:iy X.K H a xs):∃its:List Value,Vals xs its/\PlainL s.heap a its.toArray/\xs.length<=sizeLine:=by
 rcases h with h|⟨o,its,n,hk,hc,hd,hs,hz,r⟩
 .let#[z,its,n,r,e]:=h.ok I.ck
  exact#[its,r,#[_,n,e,rfl,rfl,rfl],z]
 .refine#[its.toList,r,#[o,n,I.jY a o hk,hc,hd,~~~hs],?_]
  have e:=r.length;dsimp[Dj] at e;omega
def Inv.tuple(I:Inv X pZ σ H s)(h:nB X.K H a xs):∃its:List Value,Vals xs its/\IsTup s.heap a its.toArray/\xs.length<=sizeLine:=by
 rcases h with h|⟨o,its,n,hk,hc,hs,hz,r⟩
 .let#[z,its,r,p]:=h.ok I.ck
  exact#[its,r,p.tup,z]
 .refine#[its.toList,r,#[o,I.jY a o hk,hc,n,~~~hs],?_]
  have e:=r.length;dsimp[Dj] at e;omega
def Inv.qG(I:Inv X pZ σ H s)(h:iy X.K H a xs)(h':iy X.K H a ys):xs=ys:=by
 let#[its,r,#[o,n,e,_,_,d],_]:=I.list h;let#[its',r',#[o',n',e',_,_,d'],_]:=I.list h';rw[e] at e';cases e';rw[d] at d';injection d' with d1 _
 have:its=its':=by simpa using congrArg zO d1
 subst this;erw[r.inj r']
def Inv.wX(I:Inv X pZ σ H s)(h:nB X.K H a xs)(h':nB X.K H a ys):xs=ys:=by
 let#[its,r,#[o,e,_,n,d],_]:=I.tuple h;let#[its',r',#[o',e',_,n',d'],_]:=I.tuple h';rw[e] at e';cases e';rw[d] at d';injection d' with d1 _
 have:its=its':=by simpa using congrArg zO d1
 subst this;erw[r.inj r']
end
section
variable{X:Cx}{st:Stmt}{rest:List Stmt}{t u:TS}{e:Expr}{te:TE}{pos:Pos}
abbrev S9:TS:=λD σ H=>D.nx σ H
abbrev Xp(t u:TS):TS:=λD σ H=>t {D with nx:=u D} σ H
def KS:rF X [] S9:=λ_ _ σ H _ I h=>jm #[σ,H,I,h]
def z7(h1:PS X st t)(h2:rF X rest u):rF X (st::rest) (Xp t u):=by
 intro pZ s σ H D I h;refine yg (dS (h1 pZ s σ H {D with nx:=u D} I h) λf s1 q=>?_);cases f with
 |next=>
  let#[σ',H',I',q]:=q;erw[h2 pZ s1 σ' H' D I' q]
 |ret v=>erw[q]
 |brk=>erw[q]
 |cont=>erw[q]
def Dz(h1:PS X st t):rF X [st] t:=by
 intro pZ s σ H D I h;rwa[yg (dS (h1 pZ s σ H D I h) λf s1 q=>?_)];cases f with
 |next=>erw[jm q]
 |ret v=>erw[q]
 |brk=>erw[q]
 |cont=>erw[q]
def Inv.quiet{pZ:List (Addr×Obj)}{σ:St}{H:Hp}{s:av}(I:Inv X pZ σ H s):interactive X.env=ϑ:=by simp[interactive,I.ok.kind]
abbrev Ta(te:TE):TS:=λD σ H=>te σ H λ_ H1=>D.nx σ H1
def KW(he:PE X e te)(hs:fV e ψ pos.line X.env=pure ϑ:=by rfl):PS X (.Expr e pos) (Ta te):=by
 intro pZ s σ H D I h;rwa[wpAny_Expr_any (dS (he pZ s σ H _ I h) λv s1 h9=>?_) I.quiet hs];let#[x,H1,I1,r1,q1]:=h9;exact#[σ,H1,I1,q1]
abbrev Xq(te:TE):TS:=λD σ H=>te σ H D.rt
def OI(he:PE X e te):PS X (.Return (ξ e) pos) (Xq te):=by
 intro pZ s σ H D I h;rwa[wpAny_Return_some (dS (he pZ s σ H _ I h) λv s1 h9=>?_)];let#[x,H1,I1,r1,q1]:=h9;exact#[x,σ,H1,I1,r1,q1]
abbrev Xr(c:TT)(t u:TS):TS:=λD σ H=>c σ H λb H1=>if b=ζ then t D σ H1 else u D σ H1
def Tc{c:Expr}{a b:List Stmt}{tc:TT}(hc:PT X c tc)(ha:rF X a t)(hb:rF X b u):PS X (.If c a b pos) (Xr tc t u):=by
 intro pZ s σ H D I h;rwa[wpAny_If (dS (hc pZ s σ H _ I h) λd s1 h9=>?_)];let#[H1,I1,q1]:=h9;cases d with
 |true=>erw[ha pZ s1 σ H1 D I1 q1]
 |false=>erw[hb pZ s1 σ H1 D I1 q1]
end
@[reducible]def TG:=V->St->Hp->(St->Hp->Prop)->Prop
@[reducible]def OJ:=List V->St->Hp->(St->Hp->Prop)->Prop
abbrev PG(X:Cx)(target:Expr)(t:TG):Prop:=
 ∀(pZ:List (Addr×Obj))(s:av)(σ:St)(H:Hp)(v:V)(u:Value)(Q:St->Hp->Prop),Inv X pZ σ H s->RelV v u->t v σ H Q ->
  wpAny (aS X.prog X.w) X.A (yh target X.env u) (λ_ s'=>∃σ' H',Inv X pZ σ' H' s'/\Q σ' H') X.xe s
abbrev Wy(X:Cx)(ts:List Expr)(t:OJ):Prop:=
 ∀(pZ:List (Addr×Obj))(s:av)(σ:St)(H:Hp)(vs:List V)(us:List Value)(Q:St->Hp->Prop),Inv X pZ σ H s->Vals vs us->t vs σ H Q ->
  wpAny (aS X.prog X.w) X.A (assignInOrder ((uB ts X.env).map (·.2)) us) (λ_ s'=>∃σ' H',Inv X pZ σ' H' s'/\Q σ' H') X.xe s
@[reducible]def OK:=V->V->V->Hp->(Hp->Prop)->Prop
abbrev Td(X:Cx)(t:OK):Prop:=
 ∀(pZ:List (Addr×Obj))(s:av)(σ:St)(H:Hp)(o i v:V)(ov iv u:Value)(Q:Hp->Prop),Inv X pZ σ H s->RelV o ov->RelV i iv->RelV v u->t o i v H Q ->
  wpAny (aS X.prog X.w) X.A (setItem ov iv u) (λ_ s'=>∃H',Inv X pZ σ H' s'/\Q H') X.xe s
@[reducible]def Te:=V->V->Hp->VK->Prop
abbrev ZF(X:Cx)(op:mK)(t:Te):Prop:=
 ∀(pZ:List (Addr×Obj))(s:av)(σ:St)(H:Hp)(x y:V)(v u:Value)(Q:VK),Inv X pZ σ H s->RelV x v->RelV y u->t x y H Q ->
  wpAny (aS X.prog X.w) X.A (gU op v u) (EP X pZ σ Q) X.xe s
section
variable{X:Cx}{pos:Pos}
abbrev wY(i:Nat):TG:=λv σ H Q=>Q (σ.set i (ξ v)) H
def qH{i:Nat}{x:Str}(hN:X.N.Nodup)(hi:X.N[i]?=ξ x)(hx:Loc X.env.scope x)(hf:X.fn x=ζ\/X.env.scope.names.lookup x=ξ .local:=by first|exact .inl rfl|exact .inr rfl|assumption):PG X (.Name x pos) (wY i):=by
 intro pZ s σ H v u Q I r h;erw[v5 (kQ I hN hi hx r (λs' I'=>#[_,H,I',h]) hf)]
abbrev Xt:OJ:=λvs σ H Q=>vs=[]/\Q σ H
abbrev Tf(t:TG)(u:OJ):OJ:=λvs σ H Q=>∃v r,vs=v::r/\t v σ H λσ' H'=>u r σ' H' Q
def DA:Wy X [] Xt:=by
 intro pZ s σ H vs us Q I r h;let#[e,h]:=h;subst e;cases r;erw[assignInOrder_nil #[σ,H,I,h]]
def qI{e:Expr}{es:List Expr}{t:TG}{u:OJ}(h1:PG X e t)(h2:Wy X es u)
  (hs:(uB (e::es) X.env).map (·.2)=yh e X.env::(uB es X.env).map (·.2):=by rfl):Wy X (e::es) (Tf t u):=by
 intro pZ s σ H vs us Q I r h;let#[v,vr,e1,h]:=h;subst e1;cases r with
 |cons r rr=>
  rw[hs]
  rwa[assignInOrder_cons (dS (h1 pZ s σ H _ _ _ I r h) λ_ s1 h9=>?_)];let#[σ1,H1,I1,q1]:=h9;erw[h2 pZ s1 σ1 H1 _ _ Q I1 rr q1]
abbrev Xu(K:aH)(n:Nat)(t:OJ):TG:=λv σ H Q=>∃a xs,v=.ref a/\nB K H a xs/\xs.length=n/\t xs σ H Q
def GV{es:List Expr}{k:Nat}{t:OJ}{n:Nat}(hc:X.calm=ζ)(h:Wy X es t)
  (hn:(uB es X.env).length=n:=by rfl) (hst:(uB es X.env).findIdx? (·.1)=ψ:=by rfl):PG X (.Tuple es k pos) (Xu X.K n t):=by
 intro pZ s σ H v u Q I r hw;let#[a,xs,e1,hq,hl,hw]:=hw;subst e1;cases r;let#[its,rv,ht,hz]:=I.tuple hq;rwa[assign_Tuple_tuple (I.ok.hd hc) ht (by simp[hn,<-hl,rv.length]) hst λh' hx=>?_]
 have I1:Inv X pZ σ H {s with heap:=h'}:=I.kept (t':=s.toks) λb o e=>hx b o (a6 (aU e)) e
 exact h pZ _ σ H xs _ Q I1 (~~~rv) hw
abbrev Th(te:TE)(g:TG):TS:=λD σ H=>te σ H λx H1=>g x σ H1 D.nx
def GX{i:Nat}{x:Str}{e:Expr}{te:TE}{pos':Pos}(hN:X.N.Nodup)(hi:X.N[i]?=ξ x)(hx:Loc X.env.scope x)(he:PE X e te)(hs:fV e (ξ (.Name x pos')) pos.line X.env=pure ϑ:=by rfl)(hf:X.fn x=ζ\/X.env.scope.names.lookup x=ξ .local:=by first|exact .inl rfl|exact .inr rfl|assumption):
  PS X (.Assign [.Name x pos'] e pos) (Th te (wY i)):=by
 intro pZ s σ H D I h;rwa[wpAny_Assign_Name (dS (he pZ s σ H _ I h) λv s1 h9=>?_) hs];let#[y,H1,I1,r1,q1]:=h9;erw[kQ I1 hN hi hx r1 (λs2 I2=>#[_,H1,I2,q1]) hf]
abbrev Xv(i:Nat)(te:TE)(ti:Te):TS:=λD σ H=>∃x,σ[i]?=ξ (ξ x)/\te σ H λy H1=>ti x y H1 λz H2=>D.nx (σ.set i (ξ z)) H2
def OL{i:Nat}{x:Str}{e:Expr}{te:TE}{op:mK}{ti:Te}{pos':Pos}(hN:X.N.Nodup)(hi:X.N[i]?=ξ x)(hx:Loc X.env.scope x)(he:PE X e te)(ho:ZF X op ti)(hf:X.fn x=ζ\/X.env.scope.names.lookup x=ξ .local:=by first|exact .inl rfl|exact .inr rfl|assumption):
  PS X (.AugAssign (.Name x pos') op e pos) (Xv i te ti):=by
 intro pZ s σ H D I h;let#[v,e1,h]:=h;let#[m,hn,hl]:=I.loc;have vis:Ki X.env.scope x:=by rcases hx with k|k;erw[.inl k];erw[.inr (.inl k)]
 let#[u,r,l]:=hl i x v hi e1 vis;refine wpAny_AugAssign_Name ?_;have go:wpAny (aS X.prog X.w) X.A (eval e X.env) (λw s₂=>wpAny (aS X.prog X.w) X.A (gU op u w) (λr s₃=>wpAny (aS X.prog X.w) X.A (storeName X.env x r) (λ_=>SP X pZ D .next) X.xe s₃) X.xe s₂) X.xe s:=by
  rwa[dS (he pZ s σ H _ I h) λw s1 h9=>?_]
  let#[y,H1,I1,r1,q1]:=h9;rwa[dS (ho pZ s1 σ H1 v y u w _ I1 r r1 q1) λz s2 h9=>?_]
  let#[zv,H2,I2,r2,q2]:=h9;erw[kQ I2 hN hi hx r2 (λs3 I3=>#[_,H2,I3,q2]) hf]
 rcases l with⟨hk,hm⟩|⟨hk,c,hc,hcell⟩
 .erw[Ks I.ok.kind hk hn hm go]
 .rcases hk with hk|hk
  .erw[wpAny_loadName_cell I.ok.kind hk hc hcell go]
  .rcases hx with k|k
   .have:X.env.scope.names.lookup x=ξ .free:=hk
    rw[k] at this;cases this
   .have:X.env.scope.names.lookup x=ξ .free:=hk
    rw[k] at this;cases this
abbrev Ti(to ti te:TE)(tget:V->V->Hp->VK->Prop)(tip:Te)(tset:OK):TS:=λD σ H=>to σ H λo H1=>ti σ H1 λi H2=>tget o i H2 λx H3=>te σ H3 λy H4=>tip x y H4 λz H5=>tset o i z H5 λH6=>D.nx σ H6
abbrev Tj(X:Cx)(t:V->V->Hp->VK->Prop):Prop:=
 ∀(pZ:List (Addr×Obj))(s:av)(σ:St)(H:Hp)(o i:V)(ov iv:Value)(Q:VK),Inv X pZ σ H s->RelV o ov->RelV i iv->t o i H Q ->
  wpAny (aS X.prog X.w) X.A (sN ov iv) (EP X pZ σ Q) X.xe s
def KY{o i e:Expr}{to ti te:TE}{tget:V->V->Hp->VK->Prop}{tip:Te}{tset:OK}{op:mK}{tpos:Pos}(ho:PE X o to)(hi:PE X i ti)(hg:Tj X tget)(he:PE X e te)(hp:ZF X op tip)(hs:Td X tset)
  (ha:∀ov iv new,augStore i ov iv new=(do holding [new,ov,iv] (setItem ov iv new);release [new,ov,iv] [];pure .next):=by intros;rfl):PS X (.AugAssign (.Subscript o i tpos) op e pos) (Ti to ti te tget tip tset):=by
 intro pZ s σ H D I h;rwa[wpAny_AugAssign_SubscriptAny (dS (ho pZ s σ H _ I h) λov s1 h9=>?_) ha];let#[x1,H1,I1,r1,q1]:=h9;rwa[dS (hi pZ s1 σ H1 _ I1 q1) λiv s2 h9=>?_]
 let#[x2,H2,I2,r2,q2]:=h9;rwa[dS (hg pZ s2 σ H2 x1 x2 ov iv _ I2 r1 r2 q2) λold s3 h9=>?_]
 let#[x3,H3,I3,r3,q3]:=h9;rwa[dS (he pZ s3 σ H3 _ I3 q3) λv s4 h9=>?_]
 let#[x4,H4,I4,r4,q4]:=h9;rwa[dS (hp pZ s4 σ H4 x3 x4 old v _ I4 r3 r4 q4) λnew s5 h9=>?_]
 let#[x5,H5,I5,r5,q5]:=h9;rwa[dS (hs pZ s5 σ H5 x1 x2 x5 ov iv new _ I5 r1 r2 r5 q5) λ_ s6 h9=>?_]
 let#[H6,I6,q6]:=h9;exact#[σ,H6,I6,q6]
end
section
variable{X:Cx}{pos:Pos}
abbrev OM(c:TT)(tb:TS):TS:=λD σ H=>∃W:Nat->St->Hp->Prop,(∃m,W m σ H)/\∀m σ H,W m σ H ->
 c σ H λb H1=>if b=ζ then ∃N:St->Hp->Prop,(∀σ' H',N σ' H'->∃m',m'<m/\W m' σ' H')/\tb {D with nx:=N,ct:=N,bk:=D.nx} σ H1 else D.nx σ H1
def GY{c:Expr}{body:List Stmt}{tc:TT}{tb:TS}(hp:F4 (aS X.prog X.w) X.A X.env X.xe)(hc:PT X c tc)(hb:rF X body tb):PS X (.While c body [] pos) (OM tc tb):=by
 intro pZ s σ H D I h;let#[W,#[m0,w0],turn]:=h;rwa[wpAny_While (codeAny_whileLoop (λn s'=>∃σ' H',Inv X pZ σ' H' s'/\W n σ' H') ?_ m0 #[σ,H,I,w0])];rintro n s1 ⟨σ1,H1,I1,w1⟩;rwa[gK hp (dS (hc pZ s1 σ1 H1 _ I1 (turn n σ1 H1 w1)) λb s2 h9=>?_)];let#[H2,I2,q2]:=h9;cases b with
 |true=>
  let#[N,hN,q2]:=q2;rw[if_pos rfl]
  rwa[gK hp (dS (hb pZ s2 σ1 H2 _ I2 q2) λf s3 q3=>?_)];cases f with
  |next=>
   let#[σ3,H3,I3,n3]:=q3;let#[m',hm,w3]:=hN σ3 H3 n3;exact#[m',hm,σ3,H3,I3,w3]
  |cont=>
   let#[σ3,H3,I3,n3]:=q3;let#[m',hm,w3]:=hN σ3 H3 n3;exact#[m',hm,σ3,H3,I3,w3]
  |brk=>erw[q3]
  |ret v=>erw[q3]
 |false=>
  rw[if_neg aY]
  erw[jm #[σ1,H2,I2,q2]]
end
structure It where
 go:Nat->Hp->Prop
 Tn:Nat->Hp->V->Hp->Prop
 stop:Nat->Hp->Prop
abbrev pG(X:Cx)(pZ:List (Addr×Obj))(H:Hp)(b:Addr):Prop:=
 H b=ψ/\b≠X.env.locals/\b∉X.fs/\(b∈X.ex\/X.s₀.heap.objs.size<=b)/\(∀x c,X.env.cells.lookup x=ξ c->c≠b)/\∀p∈X.pn++pZ,p.1≠b
def Inv.z8{X:Cx}{pZ:List (Addr×Obj)}{σ:St}{H H':Hp}{s:av}{b:Addr}(I:Inv X pZ σ H s)(hb:s.heap.objs.size<=b)(hn:H' b=ψ):pG X pZ H' b:=by
 refine#[hn,cw (au I.lt hb),I.Xi hb,.inr (aP I.sz hb),λx c e z=>?_,λp hp z=>?_]
 .let#[v,q]:=I.cell x c e
  erw[absurd (au q.lt (by rw[z];exact hb)) (cV _)]
 .erw[absurd (au (aU (I.pin p hp).1) (by rw[z];exact hb)) (cV _)]
structure Turn(P:bj)(w:bL)(K:aH)(tg:Expr)(J:It)(fp:List Addr)(it:Addr)(tn:Nat->Heap->Prop):Prop where
 mem:it∈fp
 obj:∀i h,tn i h->∀b∈fp,∃o,h.get? b=ξ o/\∀v,o.data≠.cell v
 keep:∀i h h',tn i h->(∀b∈fp,∀o,h.get? b=ξ o->h'.get? b=ξ o)->tn i h'
 item:∀(X:Cx),X.prog=P->X.w=w->X.K=K->X.calm=ζ->∀(i:Nat)(pZ:List (Addr×Obj))(s:av)(σ:St)(H:Hp)(E:Value->av->Prop),Inv X pZ σ H s->(∀b∈fp,pG X pZ H b)->tn i s.heap->J.go i H ->
  wpAny (aS P w) X.A (yi (.ref it)) (λr s1=>∃u,r=ξ u /\
   wpAny (aS P w) X.A (qr tg (.ref it) u) (λ_ s2=>∃x H',Inv X pZ σ H' s2/\RelV x u/\J.Tn i H x H'/\tn (i+1) s2.heap/\∀b∈fp,H' b=ψ) E s1) E s
 done:∀(X:Cx),X.prog=P->X.w=w->X.K=K->X.calm=ζ->∀(i:Nat)(pZ:List (Addr×Obj))(s:av)(σ:St)(H:Hp)(E:Value->av->Prop),Inv X pZ σ H s->(∀b∈fp,pG X pZ H b)->tn i s.heap->J.stop i H ->
  wpAny (aS P w) X.A (yi (.ref it)) (λr s1=>r=ψ/\Inv X pZ σ H s1) E s
 self:∀(A:cf)(i:Nat)(s:av)(Q:Value->av->Prop)(E:Value->av->Prop),tn i s.heap->Q (.ref it) s->wpAny (aS P w) A (pyIter (.ref it)) Q E s
@[reducible]def TI:=St->Hp->(It->Hp->Prop)->Prop
abbrev Xw(X:Cx)(pZ:List (Addr×Obj))(σ:St)(tg:Expr)(R:It->Hp->Prop)(itv:Value)(s2:av):Prop:=
 ∃(it:Addr)(fp:List Addr)(tn:Nat->Heap->Prop)(J:It)(H':Hp),itv=.ref it/\Inv X pZ σ H' s2/\Turn X.prog X.w X.K tg J fp it tn/\tn 0 s2.heap/\(∀b∈fp,pG X pZ H' b)/\R J H'
abbrev PI(X:Cx)(tg iter:Expr)(wi:TI):Prop:=
 ∀(pZ:List (Addr×Obj))(s:av)(σ:St)(H:Hp)(R:It->Hp->Prop),Inv X pZ σ H s->wi σ H R ->
  wpAny (aS X.prog X.w) X.A (eval iter X.env) (λv s1=>wpAny (aS X.prog X.w) X.A (pyIter v) (Xw X pZ σ tg R) X.xe s1) X.xe s
def wZ(ho:s.heap.get? it=ξ o)(hc:o.cls=.type n)(hd:o.data=.fields vs)
    (hn:["enumerate","zip","dict_itemiterator","dict_reverseitemiterator","odict_iterator","itertools.zip_longest","itertools.pairwise"].contains n=ϑ) (hQ:Q () s):wpAny M A (qr tg (.ref it) u) Q E s:=by
  unfold qr;cases tg<;>first
    |exact ao hQ
    | (cases u<;>first
        |exact ao hQ
        | (refine ae (wpAny_load ho ?_)
           rw[hc,hd]
           show wpAny M A (if (["enumerate","zip","dict_itemiterator","dict_reverseitemiterator","odict_iterator","itertools.zip_longest","itertools.pairwise"].contains n&&vs[0]?==ξ (eV _))=ζ then _ else _) Q E s
           rw[if_neg (by intro h;rw[hn,Bool.false_and] at h;cases h)]
           erw[ao hQ]))
abbrev Xx(K:aH)(a:Addr):It:=
 #[λi H=>∃xs x,iy K H a xs/\xs[i]?=ξ x,λi H x H'=>H'=H/\∀xs,iy K H a xs->xs[i]?=ξ x,λi H=>∃xs,iy K H a xs/\xs.length<=i]
abbrev Xy(K:aH)(a:Addr):It:=
 #[λi H=>∃xs x,nB K H a xs/\xs[i]?=ξ x,λi H x H'=>H'=H/\∀xs,nB K H a xs->xs[i]?=ξ x,λi H=>∃xs,nB K H a xs/\xs.length<=i]
abbrev Wz(lo:Int)(n:Nat):It:=#[λi _=>i<n,λi H x H'=>H'=H/\x=.int (lo+i),λi _=>n<=i]
def EX{P:bj}{w:bL}{K:aH}{tg:Expr}(a it:Addr):Turn P w K tg (Xx K a) [it] it (λi h=>h.IsListIter it a i) where
 mem:=by simp
 obj:=λi h st b hb=>by
  have e:b=it:=by simpa using hb
  subst e;let#[o,e,c,d]:=st;exact#[o,e,λv z=>by rw[d] at z;cases z]
 keep:=λi h h' st k=>st.at λo e=>k it (#v[]) o e
 item:=by
  w_up;subst hP hw hK;let#[xs,x,hq,hx]:=hg;let#[its,rv,p,hz]:=I.list hq;let#[u,hu,ru]:=rv.get hx;let#[f0,f1,f2,f3,f4,f5]:=hf it (#v[]);refine Gu st p.isList (x:=u) (~~~hu) λh' st' sb=>?_
  have I1:Inv X pZ σ H {s with heap:=h'}:=I.turned (t':=s.toks) (λb o hb e=>(sb.2 b hb).trans e) f0 f1 f3 f4 f5;let#[o,e,c,d]:=id st';exact#[u,rfl,wZ (s:={s with heap:=h'}) e c d ⋯ #[x,H,I1,ru,#[rfl,λys hy=>%[I.qG hy hq|hx]],st',λb hb=>(hf b hb).1]]
 done:=by
  w_up;subst hP hw hK;let#[xs,hq,hx]:=hg;let#[its,rv,p,hz]:=I.list hq;let#[f0,f1,f2,f3,f4,f5]:=hf it (#v[]);have hl:=rv.length;erw[Ka (I.ok.hd hc) st p.isList ((·)) λh' eb=>#[rfl,I.turned (t':=s.toks) (λb o hb e=>eb b o hb e) f0 f1 f3 f4 f5]]
 self:=λ_ _ _ _ _ st h=>wpAny_pyIter_listiter st h
def BW{P:bj}{w:bL}{K:aH}{tg:Expr}(a it:Addr):Turn P w K tg (Xy K a) [it] it (λi h=>h.IsTupleIter it a i) where
 mem:=by simp
 obj:=λi h st b hb=>by
  have e:b=it:=by simpa using hb
  subst e;let#[o,e,c,d]:=st;exact#[o,e,λv z=>by rw[d] at z;cases z]
 keep:=λi h h' st k=>st.at λo e=>k it (#v[]) o e
 item:=by
  w_up;subst hP hw hK;let#[xs,x,hq,hx]:=hg;let#[its,rv,p,hz]:=I.tuple hq;let#[u,hu,ru]:=rv.get hx;let#[f0,f1,f2,f3,f4,f5]:=hf it (#v[]);refine wpAny_pyNext_tuple_item st (show s.heap.IsTuple a its.toArray from p) (x:=u) (~~~hu) λh' st' sb=>?_
  have I1:Inv X pZ σ H {s with heap:=h'}:=I.turned (t':=s.toks) (λb o hb e=>(sb.2 b hb).trans e) f0 f1 f3 f4 f5;let#[o,e,c,d]:=id st';exact#[u,rfl,wZ (s:={s with heap:=h'}) e c d ⋯ #[x,H,I1,ru,#[rfl,λys hy=>%[I.wX hy hq|hx]],st',λb hb=>(hf b hb).1]]
 done:=by
  w_up;subst hP hw hK;let#[xs,hq,hx]:=hg;let#[its,rv,p,hz]:=I.tuple hq;let#[f0,f1,f2,f3,f4,f5]:=hf it (#v[]);have hl:=rv.length;erw[wpAny_pyNext_tuple_end (I.ok.hd hc) st (show s.heap.IsTuple a its.toArray from p) ((·)) λh' eb=>#[rfl,I.turned (t':=s.toks) (λb o hb e=>eb b o hb e) f0 f1 f3 f4 f5]]
 self:=λ_ _ _ _ _ st h=>wpAny_pyIter_tupleiter st h
def BX{P:bj}{w:bL}{K:aH}{tg:Expr}(it:Addr)(lo:Int)(n:Nat):Turn P w K tg (Wz lo n) [it] it (λi h=>IsRangeIter h it (lo+(i:Nat)*1) ((n:Int)-(i:Nat)) 1) where
 mem:=by simp
 obj:=λi h st b hb=>by
  have e:b=it:=by simpa using hb
  subst e;exact#[_,st,λv z=>by
   have z':Data.fields _=Data.cell v:=z;cases z']
 keep:=λi h h' st k=>k it (#v[]) _ st
 item:=by
  w_up;subst hP hw hK;let#[f0,f1,f2,f3,f4,f5]:=hf it (#v[]);have W:=Walks.range (prog:=X.prog) (w:=X.w) (I.ok.hd hc) it lo 1 n;rwa[W.item i s _ _ hg st λv h' tk hv st' kk=>?_]
  let#[t,rfl]:=hv;have I1:Inv X pZ σ H {s with heap:=h',toks:=tk}:=I.turned (λb o hb e=>kk b o (~~~hb) e) f0 f1 f3 f4 f5;refine#[_,rfl,wZ (s:={s with heap:=h',toks:=tk}) (n:="range_iterator") st' rfl rfl ⋯ #[.int (lo+i),H,I1,#[t,?_],#[rfl,rfl],st',λb hb=>(hf b hb).1]];rw[Int.mul_one]
 done:=by
  w_up;subst hP hw hK;let#[f0,f1,f2,f3,f4,f5]:=hf it (#v[]);erw[wpAny_pyNext_range_end (I.ok.hd hc) st (by have:n<=i:=hg;omega) λh' eb=>#[rfl,I.turned (t':=s.toks) (λb o hb e=>eb b o hb e) f0 f1 f3 f4 f5]]
 self:=λ_ _ _ _ _ st h=>wpAny_pyIter_rangeiter st h
section
variable{X:Cx}{tg:Expr}
def GZ{pZ:List (Addr×Obj)}{σ:St}{H:Hp}{s:av}{R:It->Hp->Prop}{E:Value->av->Prop}{lo hi:Int}{t u v:Tok}{tk:Nat}(I:Inv X pZ σ H s)(h1:-(2^62)<=lo)(h2:lo<2^62)(h3:-(2^62)<=hi)(h4:hi<2^62)
  (q:R (Wz lo (hi-lo).toNat) H):wpAny (aS X.prog X.w) X.A (pyIter (.ref s.heap.objs.size)) (Xw X pZ σ tg R) E {s with heap:=s.heap.push {cls:=.type "range",data:=.fields (List.toArray [.int lo t,.int hi u,.int 1 v])},toks:=tk}:=by
 rwa[wpAny_pyIter_range (IsRange.new ..) (small_one h1 h2 h3 h4) ?_];have I1:Inv X pZ σ H {s with heap:=s.heap.push {cls:=.type "range",data:=.fields (List.toArray [.int lo t,.int hi u,.int 1 v])},toks:=tk}:=I.kept λb o e=>az _ e
 refine#[(s.heap.push {cls:=.type "range",data:=.fields (List.toArray [.int lo t,.int hi u,.int 1 v])}).objs.size,[(s.heap.push {cls:=.type "range",data:=.fields (List.toArray [.int lo t,.int hi u,.int 1 v])}).objs.size],_,_,H,rfl,
  I1.kept (t':=tk) λb o e=>az _ e,BX _ lo (hi-lo).toNat,?_,λb hb=>?_,q]
 .have e1:lo+((0:Nat):Int)*1=lo:=by simp
  have e2:(((hi-lo).toNat:Nat):Int)-((0:Nat):Int)=Builtin.Range.rangeSize lo hi 1:=by rw[rangeSize_one];split<;>omega
  show IsRangeIter _ _ (lo+((0:Nat):Int)*1) ((((hi-lo).toNat:Nat):Int)-((0:Nat):Int)) 1
  rw[e1,e2]
  erw[a3 _ rfl]
 .have e:b=(s.heap.push {cls:=.type "range",data:=.fields (List.toArray [.int lo t,.int hi u,.int 1 v])}).objs.size:=by simpa using hb
  subst e;erw[I1.z8 (ar _) (I1.ck.fresh (ar _))]
abbrev To(ta:TA):TI:=λσ H R=>ta σ H λvs H1=>∃j:Int,vs=[.int j]/\-(2^62)<=j/\j<2^62/\R (Wz 0 j.toNat) H1
def EY{a:Expr}{ta:TA}{p pos:Pos}(hg:Gl X "range")(hm:X.mg "range"=ψ)(ha:PA X [a] ta)(hs:bM [a] X.env=[(ϑ,eval a X.env)]:=by rfl):PI X tg (.Call (.Name "range" p) [a] [] pos) (To ta):=by
 intro pZ s σ H R I h;rwa[Call_ (rP I hg hm boot_range (fm (dS (ha pos pZ s σ H _ I h) λus s1 h9=>?_) hs rfl))];let#[vs,H1,I1,r1,q1]:=h9;let#[j,e,q1,q2,q]:=q1;subst e;cases r1 with
 |cons r rr=>
  cases rr;let#[t,rfl]:=r;exact call_range_1 (GZ I1 ∅ ∅ q1 q2 (~~~q))
abbrev Xz(wi:TI)(g:TG)(tb:TS):TS:=λD σ H=>wi σ H λJ H1=>∃W:Nat->Nat->St->Hp->Prop,(∃m,W 0 m σ H1)/\∀i m σ H,W i m σ H ->
 (J.stop i H/\D.nx σ H)\/(J.go i H/\∃N:St->Hp->Prop,(∀σ' H',N σ' H'->∃m',m'<m/\W (i+1) m' σ' H')/\∀x H',J.Tn i H x H'->g x σ H' λσ2 H2=>tb {D with nx:=N,ct:=N,bk:=D.nx} σ2 H2)
abbrev rQ(fp:List Addr)(h:Heap):List (Addr×Obj):=fp.filterMap λb=>(h.get? b).map λo=>(b,o)
def jv{fp:List Addr}{h:Heap}{b:Addr}{o:Obj}(hb:b∈fp)(e:h.get? b=ξ o):(b,o)∈rQ fp h:=F5.mpr #[b,hb,by rw[e];rfl]
def EZ(hp:p∈rQ fp h):p.1∈fp/\h.get? p.1=ξ p.2:=by
 let#[b,hb,e]:=F5.mp hp;cases q:h.get? b with
 |none=>rw[q] at e;cases e
 |some o=>
  rw[q] at e;have e':(b,o)=p:=aG e;subst e';exact#[hb,q]
def Inv.pinned{pZ:List (Addr×Obj)}{σ:St}{H:Hp}{s:av}{fp:List Addr}(I:Inv X pZ σ H s)(hf:∀b∈fp,pG X pZ H b)(ho:∀b∈fp,∃o,s.heap.get? b=ξ o/\∀v,o.data≠.cell v):Inv X (pZ++rQ fp s.heap) σ H s:=
 I.Dx λp hp=>(aT.mp hp).elim (λz=>I.pin p (bb _ z)) λz=>by
  let#[hb,e]:=EZ z;let#[f0,f1,f2,_]:=hf p.1 hb;let#[o,e',d]:=ho p.1 hb;rw[e] at e';cases e';exact#[e,f0,f1,f2,d]
def Inv.oo{pZ pl:List (Addr×Obj)}{σ:St}{H:Hp}{s:av}(I:Inv X (pZ++pl) σ H s):Inv X pZ σ H s:=I.Dx λp hp=>I.pin p (bb _ (eI _ hp))
def ON{iter:Expr}{body:List Stmt}{wi:TI}{g:TG}{tb:TS}{pos:Pos}(hp:F4 (aS X.prog X.w) X.A X.env X.xe)(hc:X.calm=ζ)(hi:PI X tg iter wi)(hg:PG X tg g)(hb:rF X body tb)
  (hs:∀x,foldedSetIterable iter X.env x=pure x:=by intro _;rfl):PS X (.For tg iter body [] pos) (Xz wi g tb):=by
 intro pZ s σ H D I h;rwa[wpAny_For (dS (hi pZ s σ H _ I h) λv s1 h1=>dS h1 λitv s2 h2=>?_) hs];let#[it,fp,tn,J,H2,e,I2,T,st2,f2,W,#[m0,w0],turn]:=h2;subst e;have stat:∀{H':Hp},(∀b∈fp,H' b=ψ)->∀b∈fp,pG X pZ H' b:=λhn b hb=>#[hn b hb,(f2 b hb).2]
 rwa[codeAny_forLoop_any (λn s'=>∃i σ' H',Inv X pZ σ' H' s'/\tn i s'.heap/\(∀b∈fp,H' b=ψ)/\W i n σ' H') ?_ m0 #[0,σ,H2,I2,st2,λb hb=>(f2 b hb).1,w0]];rintro n s3 ⟨i,σ3,H3,I3,st3,fr3,w3⟩;rcases turn i n σ3 H3 w3 with⟨stop,qn⟩|⟨go,N,hN,step⟩
 .rwa[gK hp (dS (T.done X rfl rfl rfl hc i pZ s3 σ3 H3 X.xe I3 (stat fr3) st3 stop) λr s4 h9=>?_)]
  let#[hr,I4]:=h9;subst hr;erw[jm #[σ3,H3,I4,qn]]
 .rwa[gK hp (dS (T.item X rfl rfl rfl hc i pZ s3 σ3 H3 X.xe I3 (stat fr3) st3 go) λr s4 h9=>?_)]
  let#[u,hr,h4]:=h9;subst hr;refine gK hp (dS h4 λ_ s5 h9=>?_);let#[x,H5,I5,r5,y5,st5,fr5]:=h9;have I5':=I5.pinned (stat fr5) (T.obj _ _ st5);refine gK hp (dS (hg _ s5 σ3 H5 x u _ I5' r5 (step x H5 y5)) λ_ s6 h9=>?_);let#[σ6,H6,I6,q6]:=h9;refine gK hp (dS (hb _ s6 σ6 H6 _ I6 q6) λf s7 q7=>?_);have again:∀{σ7:St}{H7:Hp},Inv X (pZ++rQ fp s5.heap) σ7 H7 s7->N σ7 H7->∃m,m<n/\∃i σ' H',Inv X pZ σ' H' s7/\tn i s7.heap/\(∀b∈fp,H' b=ψ)/\W i m σ' H':=λ{σ7 H7}I7 n7=>by
   let#[m',hm,w7]:=hN σ7 H7 n7;refine#[m',hm,i+1,σ7,H7,I7.oo,T.keep _ _ _ st5 λb hb o e=>(I7.pin (b,o) (bb _ (bb _ (jv hb e)))).1,λb hb=>?_,w7];let#[o,e,d]:=T.obj _ _ st5 b hb;exact(I7.pin (b,o) (bb _ (bb _ (jv hb e)))).2.1
  cases f with
  |next=>let#[σ7,H7,I7,n7]:=q7;erw[again I7 n7]
  |cont=>let#[σ7,H7,I7,n7]:=q7;erw[again I7 n7]
  |brk=>let#[σ7,H7,I7,q7]:=q7;exact#[σ7,H7,I7.oo,q7]
  |ret v=>let#[x7,σ7,H7,I7,r7,q7]:=q7;exact#[x7,σ7,H7,I7.oo,r7,q7]
end
@[reducible]def R2:=V->V->Hp->VK->Prop
abbrev hJ(X:Cx)(f:Value->Value->Sem Value)(r:R2):Prop:=
 ∀(pZ:List (Addr×Obj))(s:av)(σ:St)(H:Hp)(x y:V)(v u:Value)(Q:VK),Inv X pZ σ H s->RelV x v->RelV y u->r x y H Q ->
  wpAny (aS X.prog X.w) X.A (f v u) (EP X pZ σ Q) X.xe s
abbrev XA(X:Cx)(f:Value->Sem Value)(r:V->Hp->VK->Prop):Prop:=
 ∀(pZ:List (Addr×Obj))(s:av)(σ:St)(H:Hp)(x:V)(v:Value)(Q:VK),Inv X pZ σ H s->RelV x v->r x H Q ->
  wpAny (aS X.prog X.w) X.A (f v) (EP X pZ σ Q) X.xe s
abbrev iT(X:Cx)(f:Value)(r:List V->Hp->VK->Prop):Prop:=
 ∀(pZ:List (Addr×Obj))(s:av)(σ:St)(H:Hp)(xs:List V)(us:List Value)(Q:VK),Inv X pZ σ H s->Vals xs us->r xs H Q ->
  wpAny (aS X.prog X.w) X.A (call f us) (EP X pZ σ Q) X.xe s
abbrev XB(X:Cx)(r:V->Hp->(Bool->Hp->Prop)->Prop):Prop:=
 ∀(pZ:List (Addr×Obj))(s:av)(σ:St)(H:Hp)(x:V)(v:Value)(Q:Bool->Hp->Prop),Inv X pZ σ H s->RelV x v->r x H Q ->
  wpAny (aS X.prog X.w) X.A (truthy v) (TP X pZ σ Q) X.xe s
abbrev WA(r:R2)(ta tb:TE):TE:=λσ H Q=>ta σ H λx H1=>tb σ H1 λy H2=>r x y H2 Q
abbrev tUn(r:V->Hp->VK->Prop)(ta:TE):TE:=λσ H Q=>ta σ H λx H1=>r x H1 Q
abbrev rI(C:Int->Int->Prop)(g:Int->Int->V):R2:=λx y H Q=>∃i j,x=.int i/\y=.int j/\C i j/\Q (g i j) H
abbrev E0(g:Int->Int->V):R2:=λx y H Q=>∃i j,x=.int i/\y=.int j/\Q (g i j) H
abbrev rU(g:Int->V):V->Hp->VK->Prop:=λx H Q=>∃i,x=.int i/\Q (g i) H
section
variable{X:Cx}{a b c:Expr}{ta tb tc:TE}{pos:Pos}
def OO(ha:PE X a ta)(hb:PE X b tb){pZ:List (Addr×Obj)}{s:av}{σ:St}{H:Hp}{R:V->V->Hp->Prop}(I:Inv X pZ σ H s)
  (h:ta σ H λx H1=>tb σ H1 λy H2=>R x y H2){Q:Value->av->Prop}{f:Value->Value->Sem Value}
  (hf:∀v u s2 x y H2,Inv X pZ σ H2 s2->RelV x v->RelV y u->R x y H2->wpAny (aS X.prog X.w) X.A (f v u) Q X.xe s2):
  wpAny (aS X.prog X.w) X.A (eval a X.env) (λv s₁=>wpAny (aS X.prog X.w) X.A (eval b X.env) (λu s₂=>wpAny (aS X.prog X.w) X.A (f v u) Q X.xe s₂) X.xe s₁) X.xe s:=by
 rwa[dS (ha pZ s σ H _ I h) λv s1 h9=>?_]
 let#[x,H1,I1,r1,q1]:=h9;rwa[dS (hb pZ s1 σ H1 _ I1 q1) λu s2 h9=>?_]
 let#[y,H2,I2,r2,q2]:=h9;erw[hf v u s2 x y H2 I2 r1 r2 q2]
def Tp{op:mK}{r:R2}(ho:hJ X (cF op) r)(ha:PE X a ta)(hb:PE X b tb):PE X (.BinOp a op b pos) (WA r ta tb):=by
 k_go;erw[wpAny_BinOp (OO ha hb I h λv u s2 x y H2 I2 rx ry q=>ho pZ s2 σ H2 x y v u Q I2 rx ry q)]
def Tq{op:UnaryOp}{r:V->Hp->VK->Prop}(ho:XA X (unaryOp op) r)(ha:PE X a ta):PE X (.UnaryOp op a pos) (tUn r ta):=by
 k_go;rwa[UnaryOp_ (dS (ha pZ s σ H _ I h) λv s1 h9=>?_)];let#[x,H1,I1,r1,q1]:=h9;erw[ho pZ s1 σ H1 x v Q I1 r1 q1]
def Ts{f:Value->Value->Sem Value}{C:Int->Int->Prop}{g:Int->Int->Int}
  (rule:∀(i j:Int)(t u:Tok)(s:av)(Q:Value->av->Prop)(E:Value->av->Prop),C i j->Q (.int (g i j) s.toks) {s with toks:=s.toks+1}->wpAny (aS X.prog X.w) X.A (f (.int i t) (.int j u)) Q E s):
  hJ X f (rI C λi j=>.int (g i j)):=by
 x_go;let#[i,j,rfl,rfl,hc,q]:=h;let#[t,rfl]:=rx;let#[t',rfl]:=ry;erw[rule i j t t' s _ _ hc #[.int (g i j),H,I.tok _,#[_,rfl],q]]
def BY{f:Value->Value->Sem Value}{g:Int->Int->Int}
  (rule:∀(i j:Int)(t u:Tok)(s:av)(Q:Value->av->Prop)(E:Value->av->Prop),Q (.int (g i j) s.toks) {s with toks:=s.toks+1}->wpAny (aS X.prog X.w) X.A (f (.int i t) (.int j u)) Q E s):
  hJ X f (E0 λi j=>.int (g i j)):=by
 x_go;let#[i,j,rfl,rfl,q]:=h;let#[t,rfl]:=rx;let#[t',rfl]:=ry;erw[rule i j t t' s _ _ #[.int (g i j),H,I.tok _,#[_,rfl],q]]
def KZ{f:Value->Value->Sem Value}{g:Int->Int->Bool}
  (rule:∀(i j:Int)(t u:Tok)(s:av)(Q:Value->av->Prop)(E:Value->av->Prop),Q (.bool (g i j)) s->wpAny (aS X.prog X.w) X.A (f (.int i t) (.int j u)) Q E s):
  hJ X f (E0 λi j=>.bl (g i j)):=by
 x_go;let#[i,j,rfl,rfl,q]:=h;let#[t,rfl]:=rx;let#[t',rfl]:=ry;erw[rule i j t t' s _ _ #[.bl (g i j),H,I,rfl,q]]
abbrev XD(i j:Int):Prop:=0<j/\j<1073741824
abbrev XG(i j:Int):Prop:=0<=j/\j<=1000000/\i.natAbs<2^64
abbrev OP(i j:Int):Prop:=(-(2^64)<i/\i<2^64)\/(-(2^64)<j/\j<2^64)
def OP.ok{i j:Int}(h:OP i j):IntMulOk i j:=by
 rcases h with⟨h1,h2⟩|⟨h1,h2⟩
 .erw[.of_left (intBits_le_64 h1 h2)]
 .erw[.of_right (intBits_le_64 h1 h2)]
def two_pow_nn(k:Nat):(0:Int)<=2^k:=by
 rw[two_pow_cast]
 erw[Gv _]
def OQ:hJ X (cF .Add) (E0 λi j=>.int (i+j)):=BY λ_ _ _ _ _ _ _ q=>add_int q
def OR:hJ X (cF .Sub) (E0 λi j=>.int (i-j)):=BY λ_ _ _ _ _ _ _ q=>sub_int q
def OS:hJ X (cF .Mult) (rI OP λi j=>.int (i*j)):=Ts λ_ _ _ _ _ _ _ hc q=>mul_int q hc.ok
def K0:hJ X (cF .FloorDiv) (rI XD λi j=>.int (i/j)):=Ts λi j _ _ _ _ _ hc q=>by
 have h1:(0:Int)<j:=hc.1;have h2:j<1073741824:=hc.2;erw[floordiv_int ∅ (by rw[yj i ∅];exact q) (.inl (PyProof.noPylong_small ∅))]
def OT:hJ X (cF .Mod) (rI (λ_ j=>0<j) λi j=>.int (i%j)):=Ts λi j _ _ _ _ _ hc q=>by
 have h1:(0:Int)<j:=hc;erw[mod_int' ∅ (by rw[Int.fmod_eq_emod_of_nonneg i ∅];exact q)]
def OU:hJ X (cF .LShift) (rI XG λi j=>.int (i*2^j.toNat)):=Ts λ_ _ _ _ _ _ _ hc q=>lshift_int_small hc.1 hc.2.1 hc.2.2 q
def OV:hJ X (cF .RShift) (rI (λ_ j=>0<=j) λi j=>.int (i/2^j.toNat)):=Ts λi j _ _ _ _ _ hc q=>
 rshift_int hc (%[yj i (two_pow_nn _)|q])
def OW:hJ X (cF .BitAnd) (E0 λi j=>.int (Builtin.bitAnd i j)):=BY λ_ _ _ _ _ _ _ q=>and_int q
def Tt:hJ X (cF .BitOr) (E0 λi j=>.int (Builtin.bitOr i j)):=BY λ_ _ _ _ _ _ _ q=>or_int q
def K1:hJ X (gU .Add) (E0 λi j=>.int (i+j)):=BY λ_ _ _ _ _ _ _ q=>iadd_int q
def K2:hJ X (gU .Sub) (E0 λi j=>.int (i-j)):=BY λ_ _ _ _ _ _ _ q=>isub_int q
def OX:hJ X (gU .BitOr) (E0 λi j=>.int (Builtin.bitOr i j)):=BY λ_ _ _ _ _ _ _ q=>ior_int q
def unI{f:Value->Sem Value}{g:Int->Int}
  (rule:∀(i:Int)(t:Tok)(s:av)(Q:Value->av->Prop)(E:Value->av->Prop),Q (.int (g i) s.toks) {s with toks:=s.toks+1}->wpAny (aS X.prog X.w) X.A (f (.int i t)) Q E s):
  XA X f (rU λi=>.int (g i)):=by
 intro pZ s σ H x v Q I rx h;let#[i,rfl,q]:=h;let#[t,rfl]:=rx;erw[rule i t s _ _ #[.int (g i),H,I.tok _,#[_,rfl],q]]
def OY:XA X (unaryOp .USub) (rU λi=>.int (-i)):=unI λ_ _ _ _ _ q=>neg_int q
end
abbrev OZ:V->V->Bool
 |.bK,.bK=>ζ|.bK,.int _=>ζ|.int _,.bK=>ζ|.bK,.bl _=>ζ|.bl _,.bK=>ζ|.bK,.str _=>ζ|.str _,.bK=>ζ
 |.int _,.int _=>ζ|.bl _,.bl _=>ζ|.str _,.str _=>ζ|.Br _,.Br _=>ζ
 |.int _,.str _=>ζ|.str _,.int _=>ζ|.bl _,.str _=>ζ|.str _,.bl _=>ζ
 |_,_=>ϑ
abbrev rEq:R2:=λx y H Q=>OZ x y=ζ/\Q (.bl (decide (x=y))) H
abbrev rNe:R2:=λx y H Q=>OZ x y=ζ/\Q (.bl (!decide (x=y))) H
def yD:decide (V.int i=V.int j)=(i==j):=by
 rw[cA]
 simp
def BZ:decide (V.bl i=V.bl j)=(i==j):=by
 rw[cA]
 simp
def DB:decide (V.str i=V.str j)=(i==j):=by
 rw[cA]
 simp
def DD:decide (V.Br i=V.Br j)=(i.toList==j.toList):=by
 rw[cA]
 cases i;cases j;simp
section
variable{X:Cx}{a b c:Expr}{ta tb tc:TE}{pos:Pos}
def cJ(I:Inv X pZ σ H s)(q:Q (.bl k) H)(e:k=k'):EP X pZ σ Q (.bool k') s:=by
 subst e;exact#[.bl k,H,I,rfl,q]
def Tu:hJ X (bB .Eq) rEq:=by
 x_go;let#[hs,q]:=h;cases x with
 |bK=>
  cases rx;cases y with
  |bK=>cases ry;erw[PySem.EqNone.eq_none_none (cJ I q (#v[]))]
  |bl j=>cases ry;erw[PySem.EqNone.eq_none_bool (cJ I q (#v[]))]
  |int j=>let#[t',rfl]:=ry;erw[PySem.EqNone.eq_none_int (cJ I q (#v[]))]
  |str j=>let#[t',rfl]:=ry;erw[PySem.EqNone.eq_none_str (cJ I q (#v[]))]
  |_=>erw[absurd (show ϑ=ζ from hs) aY]
 |bl i=>
  cases rx;cases y with
  |bK=>cases ry;erw[PySem.EqNone.eq_bool_none (cJ I q (#v[]))]
  |bl j=>cases ry;erw[eq_bool (cJ I q BZ)]
  |str j=>let#[t',rfl]:=ry;erw[PySem.EqMixed.eq_bool_str (cJ I q (#v[]))]
  |_=>erw[absurd (show ϑ=ζ from hs) aY]
 |int i=>
  let#[t,rfl]:=rx;cases y with
  |bK=>cases ry;erw[PySem.EqNone.eq_int_none (cJ I q (#v[]))]
  |int j=>let#[t',rfl]:=ry;erw[eq_int (cJ I q yD)]
  |str j=>let#[t',rfl]:=ry;erw[PySem.EqMixed.eq_int_str (cJ I q (#v[]))]
  |_=>erw[absurd (show ϑ=ζ from hs) aY]
 |str i=>
  let#[t,rfl]:=rx;cases y with
  |bK=>cases ry;erw[PySem.EqNone.eq_str_none (cJ I q (#v[]))]
  |bl j=>cases ry;erw[PySem.EqMixed.eq_str_bool (cJ I q (#v[]))]
  |int j=>let#[t',rfl]:=ry;erw[PySem.EqMixed.eq_str_int (cJ I q (#v[]))]
  |str j=>let#[t',rfl]:=ry;erw[eq_str (cJ I q DB)]
  |_=>erw[absurd (show ϑ=ζ from hs) aY]
 |Br i=>
  let#[t,rfl]:=rx;cases y with
  |Br j=>let#[t',rfl]:=ry;erw[PySem.W.eq_bytes (cJ I q DD)]
  |_=>erw[absurd (show ϑ=ζ from hs) aY]
 |_=>cases y<;>exact absurd (show ϑ=ζ from hs) aY
def Tv:hJ X (bB .NotEq) rNe:=by
 x_go;let#[hs,q]:=h;cases x with
 |bK=>
  cases rx;cases y with
  |bK=>cases ry;erw[PySem.EqNone.ne_none_none (cJ I q (#v[]))]
  |bl j=>cases ry;erw[PySem.EqNone.ne_none_bool (cJ I q (#v[]))]
  |int j=>let#[t',rfl]:=ry;erw[PySem.EqNone.ne_none_int (cJ I q (#v[]))]
  |str j=>let#[t',rfl]:=ry;erw[PySem.EqNone.ne_none_str (cJ I q (#v[]))]
  |_=>erw[absurd (show ϑ=ζ from hs) aY]
 |bl i=>
  cases rx;cases y with
  |bK=>cases ry;erw[PySem.EqNone.ne_bool_none (cJ I q (#v[]))]
  |bl j=>cases ry;erw[ne_bool (cJ I q (congrArg not BZ))]
  |str j=>let#[t',rfl]:=ry;erw[PySem.EqMixed.ne_bool_str (cJ I q (#v[]))]
  |_=>erw[absurd (show ϑ=ζ from hs) aY]
 |int i=>
  let#[t,rfl]:=rx;cases y with
  |bK=>cases ry;erw[PySem.EqNone.ne_int_none (cJ I q (#v[]))]
  |int j=>let#[t',rfl]:=ry;erw[ne_int (cJ I q (congrArg not yD))]
  |str j=>let#[t',rfl]:=ry;erw[PySem.EqMixed.ne_int_str (cJ I q (#v[]))]
  |_=>erw[absurd (show ϑ=ζ from hs) aY]
 |str i=>
  let#[t,rfl]:=rx;cases y with
  |bK=>cases ry;erw[PySem.EqNone.ne_str_none (cJ I q (#v[]))]
  |bl j=>cases ry;erw[PySem.EqMixed.ne_str_bool (cJ I q (#v[]))]
  |int j=>let#[t',rfl]:=ry;erw[PySem.EqMixed.ne_str_int (cJ I q (#v[]))]
  |str j=>let#[t',rfl]:=ry;erw[ne_str (cJ I q (congrArg not DB))]
  |_=>erw[absurd (show ϑ=ζ from hs) aY]
 |Br i=>
  let#[t,rfl]:=rx;cases y with
  |Br j=>let#[t',rfl]:=ry;erw[PySem.W.ne_bytes (cJ I q (congrArg not DD))]
  |_=>erw[absurd (show ϑ=ζ from hs) aY]
 |_=>cases y<;>exact absurd (show ϑ=ζ from hs) aY
def Tw:hJ X (bB .Lt) (E0 λi j=>.bl (decide (i<j))):=KZ λ_ _ _ _ _ _ _ q=>lt_int q
def TB:hJ X (bB .LtE) (E0 λi j=>.bl (decide (i<=j))):=KZ λ_ _ _ _ _ _ _ q=>le_int q
def TC:hJ X (bB .Gt) (E0 λi j=>.bl (decide (j<i))):=KZ λ_ _ _ _ _ _ _ q=>gt_int q
def TF:hJ X (bB .GtE) (E0 λi j=>.bl (decide (j<=i))):=KZ λ_ _ _ _ _ _ _ q=>ge_int q
def E2:hJ X (bB .In) (λx y H Q=>∃i j,x=.str i/\y=.str j/\Q (.bl (!(Builtin.Str.occurrences j i 0 j.length 1).isEmpty)) H):=by
 x_go;let#[i,j,rfl,rfl,q]:=h;let#[t,rfl]:=rx;let#[t',rfl]:=ry;erw[in_str (cJ I q rfl)]
def O0:hJ X (bB .Is) (λx y H Q=>y=.bK/\Q (.bl (decide (x=.bK))) H):=by
 x_go;let#[rfl,q]:=h;cases ry;refine is_none_gen (cJ I q ?_);cases x<;>first
  | (cases rx;rfl)
  | (let#[t,rfl]:=rx;rfl)
def K3:hJ X (bB .IsNot) (λx y H Q=>y=.bK/\Q (.bl (!decide (x=.bK))) H):=by
 x_go;let#[rfl,q]:=h;cases ry;refine isnot_none_gen (cJ I q ?_);cases x<;>first
  | (cases rx;rfl)
  | (let#[t,rfl]:=rx;rfl)
def K4(ho:hJ X (bB op) r)(ha:PE X a ta)(hb:PE X b tb)(hm:behindInMarks op b=ϑ):PE X (.Compare a [op] [b] pos) (WA r ta tb):=by
 k_go;erw[wpAny_Compare1 (OO ha hb I h λv u s2 x y H2 I2 rx ry q=>ho pZ s2 σ H2 x y v u Q I2 rx ry q) hm]
abbrev TH(t:TE):TT:=λσ H Q=>t σ H λx H'=>∃k,x=.bl k/\Q k H'
def K5{op:CmpOp}{r:R2}(ho:hJ X (bB op) r)(ha:PE X a ta)(hb:PE X b tb)(hm:behindInMarks op b=ϑ):PT X (.Compare a [op] [b] pos) (TH (WA r ta tb)):=by
 intro pZ s σ H Q I h;refine wpAny_isTrue_Compare1 (dS (ha pZ s σ H _ I h) λv s1 #[x,H1,I1,r1,q1]=>dS (hb pZ s1 σ H1 _ I1 q1) λu s2 #[y,H2,I2,r2,q2]=>
  dS (ho pZ s2 σ H2 x y v u _ I2 r1 r2 q2) λc s3 #[z,H3,I3,r3,k,e,q3]=>?_) hm
 subst e;cases r3;erw[dN #[H3,I3,q3]]
abbrev O1(K:aH)(x:V)(H:Hp)(k:Bool):Prop:=
 match x with
 |.bK=>k=ϑ
 |.bl b=>k=b
 |.int i=>k=(i !=0)
 |.str y=>y.length<=sizeLine/\k=((y.length:Int) !=0)
 |.Br y=>y.size<=sizeLine/\k=((y.size:Int) !=0)
 |.ref p=>(∃xs,iy K H p xs/\k = !xs.isEmpty)\/(∃xs,nB K H p xs/\k = !xs.isEmpty)\/∃kvs,H p=ξ (.dK kvs)/\k = !kvs.isEmpty
 |_=>False
def B0{κ:Type}{kvs:List (κ×V)}{vs:List (κ×Value)}(r:KV kvs vs):(!vs.isEmpty)= !kvs.isEmpty:=by
 cases r<;>rfl
def uL{xs:List V}{its:List Value}(r:Vals xs its):(!its.toArray.isEmpty)= !xs.isEmpty:=by
 cases r<;>simp
def qd:(sizeLine:Nat)<2^63:=by rw[gv];decide
def O2:XB X (λx H Q=>∃k,O1 X.K x H k/\Q k H):=by
 intro pZ s σ H x v Q I rx h;let#[k,e,q]:=h;have hl:=qd;have hs:sizeLine=16777216:=gv;cases x with
 |bK=>
  cases rx;have e':k=ϑ:=e;subst e';erw[truthy_none #[H,I,q]]
 |bl b=>
  cases rx;have e':k=b:=e;subst e';erw[dN #[H,I,q]]
 |int i=>
  let#[t,rfl]:=rx;have e':k=(i !=0):=e;subst e';erw[PySem.P.truthy_int #[H,I,q]]
 |str y=>
  let#[t,rfl]:=rx;obtain⟨hy,e'⟩:y.length<=sizeLine/\k=((y.length:Int) !=0):=e;subst e';erw[PySem.P.truthy_str ∅ #[H,I.tok _,q]]
 |Br y=>
  let#[t,rfl]:=rx;obtain⟨hy,e'⟩:y.size<=sizeLine/\k=((y.size:Int) !=0):=e;subst e';erw[PySem.W.truthy_bytes ∅ #[H,I.tok _,q]]
 |ref p=>
  cases rx;have e':(∃xs,iy X.K H p xs/\k = !xs.isEmpty)\/(∃xs,nB X.K H p xs/\k = !xs.isEmpty)\/∃kvs,H p=ξ (.dK kvs)/\k = !kvs.isEmpty:=e;rcases e' with⟨xs,hx,e'⟩|⟨xs,hx,e'⟩|⟨kvs,hx,e'⟩
  .subst e'
   let#[its,r,pl,hz]:=I.list hx;have hlen:=r.length;erw[wpAny_truthy_list pl.isList (by dsimp[aI];omega) #[H,I.tok _,by rw[uL r];exact q]]
  .subst e'
   let#[its,r,pl,hz]:=I.tuple hx;have hlen:=r.length;erw[truthy_tuple pl (by dsimp[aI];omega) #[H,I.tok _,by rw[uL r];exact q]]
  .subst e'
   obtain⟨hz,hS,vs,r,m⟩:kvs.length<=sizeLine/\(p==bV)=ϑ/\∃vs,KV kvs vs/\s.heap.DictOf (cR X.prog X.w) p vs:=I.ck p _ hx;have hlen:kvs.length=vs.length:=Paired.length r;erw[wpAny_truthy_dict hS m ∅ #[H,I.tok _,by rw[B0 r];exact q]]
 |_=>exact(show False from e).elim
def G7(ha:PE X a ta)(he:∀whole,isTrue a X.env whole=(do let v <-whole;standAt a.pos;holding [v] (truthy v))):
  PT X a (λσ H Q=>ta σ H λx H'=>∃k,O1 X.K x H' k/\Q k H'):=by
 k_go;rwa[isTrue_plain (dS (ha pZ s σ H _ I h) λv s1 h9=>?_) (he _)];let#[x,H1,I1,r1,q1]:=h9;erw[O2 pZ s1 σ H1 x v Q I1 r1 q1]
def B1:hJ X (cF .Add) (λx y H Q=>∃i j,x=.str i/\y=.str j/\i.length+j.length<=sizeLine/\Q (.str (i++j)) H):=by
 x_go;let#[i,j,rfl,rfl,hz,q]:=h;let#[t,rfl]:=rx;let#[t',rfl]:=ry;erw[add_str (λt' tk=>#[.str (i++j),H,I.tok _,#[_,rfl],q]) hz]
def z9:hJ X (gU .Add) (λx y H Q=>∃i j,x=.str i/\y=.str j/\i.length+j.length<=sizeLine/\Q (.str (i++j)) H):=by
 x_go;let#[i,j,rfl,rfl,hz,q]:=h;let#[t,rfl]:=rx;let#[t',rfl]:=ry;erw[iadd_str (λt' tk=>#[.str (i++j),H,I.tok _,#[_,rfl],q]) hz]
def vals1(r:Vals [x] us):∃u,us=[u]/\RelV x u:=by
 cases r with
 |cons r1 r2=>cases r2;exact#[_,rfl,r1]
def vals2(r:Vals [x,y] us):∃u w',us=[u,w']/\RelV x u/\RelV y w':=by
 cases r with
 |cons r1 r2=>
  cases r2 with
  |cons r3 r4=>cases r4;exact#[_,_,rfl,r1,r3]
def E3(hc:X.calm=ζ):iT X (.builtin "min") (λxs H Q=>∃i j,xs=[.int i,.int j]/\Q (.int (if j<i then j else i)) H):=by
 k_ne;let#[i,j,rfl,q]:=h;let#[u,w',rfl,#[t,rfl],#[t',rfl]]:=vals2 r;rwa[min_two_ints (I.ok.hd hc) λh' tk k=>#[_,H,I.kept k,?_,q]]
 by_cases hj:j<i
 .rw[if_pos hj,if_pos hj];exact#[_,rfl]
 .rw[if_neg hj,if_neg hj];exact#[_,rfl]
abbrev TJ(K:aH)(x:V)(H:Hp)(n:Nat):Prop:=
 match x with
 |.str y=>y.length<=sizeLine/\n=y.length
 |.Br y=>y.size<=sizeLine/\n=y.size
 |.ref p=>(∃xs,iy K H p xs/\n=xs.length)\/∃xs,nB K H p xs/\n=xs.length
 |_=>False
def G8:iT X (.builtin "len") (λxs H Q=>∃x n,xs=[x]/\TJ X.K x H n/\Q (.int n) H):=by
 k_ne;let#[x,n,rfl,e,q]:=h;let#[u,rfl,rx]:=vals1 r;have hl:=qd;have hs:sizeLine=16777216:=gv;cases x with
 |str y=>
  let#[t,rfl]:=rx;obtain⟨hy,e'⟩:y.length<=sizeLine/\n=y.length:=e;subst e';erw[len_str ∅ #[.int _,H,I.tok _,#[_,rfl],q]]
 |Br y=>
  let#[t,rfl]:=rx;obtain⟨hy,e'⟩:y.size<=sizeLine/\n=y.size:=e;subst e';erw[PySem.W.len_bytes ∅ #[.int _,H,I.tok _,#[_,rfl],q]]
 |ref p=>
  cases rx;have e':(∃xs,iy X.K H p xs/\n=xs.length)\/∃xs,nB X.K H p xs/\n=xs.length:=e;rcases e' with⟨xs,hx,e'⟩|⟨xs,hx,e'⟩
  .subst e'
   let#[its,r',pl,hz]:=I.list hx;have hlen:=r'.length;erw[Calls.call_len_list pl.isList (by dsimp[aI];omega) #[.int xs.length,H,I.tok _,#[_,by dsimp[aI];rw[hlen]],q]]
  .subst e'
   let#[its,r',pl,hz]:=I.tuple hx;have hlen:=r'.length;erw[len_tuple pl (by dsimp[aI];omega) #[.int xs.length,H,I.tok _,#[_,by dsimp[aI];rw[hlen]],q]]
 |_=>exact(show False from e).elim
end
structure B3(h:Heap)(x dx C:Addr)(mA:Str->Option Value):Prop where
 obj:h.get? x=ξ (dB C dx)
 ns:h.Ns1 dx mA
 ne:dx≠x
def xj{h:Heap}{dx:Addr}{mA:Str->Option Value}(n:h.Ns1 dx mA):∃od,h.get? dx=ξ od/\∀name,nZ name od=ξ (mA name):=by
 let#[o,es,ep,ho,hd,hk,_,hm]:=n;refine#[o,ho,λname=>?_];have e:=hm name;unfold nsFind findBy at e;rw[<-Array.find?_toList] at e;unfold nZ;rw[hd]
 dsimp only;split
 .rename_i y q
  rw[q] at e;erw[congrArg ξ e]
 .rename_i q
  rw[q] at e;have a:es.toList.any (·.refKey)=ϑ:=by
   rw[List.any_eq_false]
   intro y hy;let#[z,t,hkey]:=hk y (Array.mem_toList_iff.mp hy);simp[DictEntry.refKey,hkey]
  have a':¬es.toList.any (·.refKey)=ζ:=%[a|aY]
  rw[if_neg a']
  erw[congrArg ξ e]
def B3.look(I:B3 h x dx C mA):∃od,gx h x (dB C dx) C (ξ od)/\∀name,nZ name od=ξ (mA name):=
 let ⟨od,ho,hl⟩:=xj I.ns
 #[od,#[I.obj,rfl,rfl,ho],hl]
section
variable{prog:bj}{w:bL}{A:cf}{E:Value->av->Prop}{s:av}{K:aH}{x dx C f:Addr}{mA:Str->Option Value}{name:Str}{v:Value}
def get_map(X:K.In s.heap)(I:B3 s.heap x dx C mA)(hg:l9 K C name=ζ)(hh:qB K C=ζ)
  (ha:dq K (.ref C) name=ξ ψ) (hv:mA name=ξ v) (hv':EF v=ζ) (h:Q v {s with toks:=s.toks+1}):
  wpAny (aS prog w) A (Gw (.ref x) name expr) Q E s:=by
 let#[od,J,hl]:=I.look;erw[PySem.W.get_value X J (pA hg).1 (PySem.W.findObj_own hh ha rfl (by rw[hl,hv])) hv' h]
def G9(X:K.In s.heap)(I:B3 s.heap x dx C mA)(hg:l9 K C name=ζ)
  (hf:dq K (.ref C) name=ξ (ξ (.ref f))) (ht:yk K (.ref f)=ζ) (hv:mA name=ψ) (h:Q (.ref f,[.ref x]) s):
  wpAny (aS prog w) A (getMethod (.ref x) name pl) Q E s:=by
 let#[od,J,hl]:=I.look;erw[PySem.W.method_fn X J (pA hg).1 (pA hg).2 hf (beq_iff_eq.mp ht) (by show(nZ name od).map (·.isSome)=ξ ϑ;rw[hl,hv];rfl) h]
def K6(X:K.In s.heap)(I:B3 s.heap x dx C mA)
  (hs:dq K (.ref C) "__setattr__"=ξ (ξ (.builtin "object.__setattr__"))) (hp:Dk K C=ζ) (ht:tG K C name=ξ ψ) (hh:qB K C=ζ)
  (hw:kK mA ns) (hsz:ns.length<=sizeLine)
  (h:∀h',B3 h' x dx C (λy=>if y=name then ξ v else mA y)->fS dx s.heap h'->Q () {s with heap:=h',toks:=s.toks+2}):
  wpAny (aS prog w) A (Gx (.ref x) name v) Q E s:=by
 let#[od,J,hl]:=I.look;refine PySem.W.set_plain X J hs (PySem.W.osa_open (s:={s with toks:=s.toks+1}) (r:=ψ) X J hp ht λb=>?_);let#[cd,hc,hd']:=PySem.W.any_some hh;have hx:s.heap.get? x=ξ #[.ref C,ξ dx,.plain,#[]]:=I.obj;refine ae (ao (ae (ae (rJ hx (ae (PySem.W.Looks.here (s:={s with toks:=s.toks+1}) (PySem.W.looks_clsIn X hc) ?_))))));rw[hd']
 rwa[ao (a:=ξ dx) (ae (ao (ae ?_)))];refine wpAny_nsSet1 (s:={s with toks:=s.toks+1}) I.ns λh' hn2 hs2=>?_
 let#[oD,esD,epD,hoD,hdD,hcD]:=hn2.count (yl name v hw);rwa[ae (wpAny_lookBehind hoD (%[hdD|pastItsLine_dict (aP hcD (by rw[a5];omega))]) ?_)];erw[ao (h _ #[(hs2.2 _ (bI I.ne)).trans I.obj,hn2,I.ne] hs2)]
def Ha(X:K.In s.heap)(hm:F6 K C=ζ)
  (hi:dq K (.ref C) "__init__"=ξ (ξ (.ref f))) (hf:PySem.W.typeIn K (.ref f)=ξ (.type "function"))
  (h:nQ (aS prog w) (A.under (.builtin "type.__call__" #[.ref C::vs,kw])) (.call (.ref f) #[.ref (s.heap.objs.size+1)::vs,kw]) (PySem.W.InitBack (s.heap.objs.size+1) R)
   {s with heap:=(s.heap.push cK).push (dB C s.heap.objs.size)}):
  nQ (aS prog w) A (.call (.ref C) #[vs,kw]) R s:=by
 let#[hh,g,d,t,os]:=s;erw[PySem.W.make_core (PySem.W.makes_of X hm) (PySem.W.looks_findIn X hi) (λself=>PySem.W.bind_fn X self hf) (.inl rfl) h]
end
abbrev gB(f:Str)(v:V):List (Str×V)->List (Str×V)
 |[]=>[(f,v)]
 | (g,x)::r=>if g=f then(g,v)::r else(g,x)::gB f v r
def oq(f g:Str)(v:V):∀fs:List (Str×V),(gB f v fs).lookup g=if g=f then ξ v else fs.lookup g
 |[]=>by
  show fM g [(f,v)]=_
  by_cases h:g=f
  .have hb:(g==f)=ζ:=beq_iff_eq.mpr h
   dsimp[fM,hb,if_pos h]
  .have hb:(g==f)=ϑ:=beq_eq_false_iff_ne.mpr h
   dsimp[fM,hb,if_neg h]
 | (k,x)::r=>by
  have ih:=oq f g v r;rw[show gB f v ((k,x)::r)=(if k=f then(k,v)::r else(k,x)::gB f v r) from rfl]
  by_cases hk:k=f
  .rw[if_pos hk]
   by_cases h:g=k
   .have hb:(g==k)=ζ:=beq_iff_eq.mpr h
    dsimp[fM,hb,if_pos (h.trans hk)]
   .have hb:(g==k)=ϑ:=beq_eq_false_iff_ne.mpr h
    dsimp[fM,hb,if_neg (λe:g=f=>h (e.trans hk.symm))]
  .rw[if_neg hk]
   by_cases h:g=k
   .have hb:(g==k)=ζ:=beq_iff_eq.mpr h
    dsimp[fM,hb,if_neg (λe:g=f=>hk (h.symm.trans e))]
   .have hb:(g==k)=ϑ:=beq_eq_false_iff_ne.mpr h
    dsimp[fM,hb];erw[ih]
def mf(f:Str)(v:V):∀fs:List (Str×V),f∈(gB f v fs).map (·.1)/\∀g,g∈fs.map (·.1)->g∈(gB f v fs).map (·.1)
 |[]=>#[by simp[gB],λg h=>by simp at h]
 | (k,x)::r=>by
  let#[i1,i2]:=mf f v r;rw[show gB f v ((k,x)::r)=(if k=f then(k,v)::r else(k,x)::gB f v r) from rfl]
  by_cases hk:k=f
  .rw[if_pos hk]
   subst hk;exact#[#v[],λg h=>by simpa using h]
  .rw[if_neg hk]
   refine#[?_,λg h=>?_]
   .rw[aA]
    erw[ay _ i1]
   .rw[aA] at h ⊢
    rcases aW.mp h with e|e
    .erw[aW.mpr (.inl e)]
    .erw[ay _ (i2 g e)]
def sT(f:Str)(v:V):∀fs:List (Str×V),(gB f v fs).length<=fs.length+1
 |[]=>by simp[gB]
 | (k,x)::r=>by
  have ih:=sT f v r;rw[show gB f v ((k,x)::r)=(if k=f then(k,v)::r else(k,x)::gB f v r) from rfl]
  by_cases hk:k=f
  .rw[if_pos hk,a5,a5];omega
  .rw[if_neg hk,a5,a5];omega
def kO.some_of(r:kO (ξ v) o):∃u,o=ξ u/\RelV v u:=by
 cases o with
 |none=>exact(show False from r).elim
 |some u=>exact#[u,rfl,r]
def kO.none_of(r:kO ψ o):o=ψ:=by
 cases o with
 |none=>rfl
 |some u=>exact(show False from r).elim
def xk(r:RelV v u):EF u=ζ:=by
 cases v with
 |bK=>cases (show u=bx from r);rfl
 |bl b=>cases (show u=nG b from r);rfl
 |int i=>let#[t,e]:=(show ∃t,u=jM i t from r);cases e;rfl
 |str x=>let#[t,e]:=(show ∃t,u=mJ x t from r);cases e;rfl
 |Br b=>let#[t,e]:=(show ∃t,u=Value.bytes b t from r);cases e;rfl
 |Ou b=>let#[t,e]:=(show ∃t,u=BA b t from r);cases e;rfl
 |ref a=>cases (show u=aL a from r);rfl
 |ty n=>cases (show u=vY n from r);rfl
section
variable{P:bj}{w:bL}{H H':Hp}{h h':Heap}{a C dx:Addr}{fs fs':List (Str×V)}
def tW(ck:mI P w H h)(e:H a=ξ (.ins C dx fs)):∃mA,B3 h a dx C mA/\(∀f,kO (fs.lookup f) (mA f))/\kK mA (fs.map (·.1))/\fs.length<=1000/\H dx=ξ (.own a):=by
 let#[d,z,ne,ob,mA,n,r,q]:=(show c9 P w H h a (.ins C dx fs) from ck a _ e)
 exact#[mA,#[ob,n,ne],r,q,z,d]
end
structure xm(K:aH)(C:Addr):Prop where
 pg:l9 K C Str.empty=ζ
 hd:qB K C=ζ
 po:Dk K C=ζ
 sa:dq K (.ref C) "__setattr__"=ξ (ξ (.builtin "object.__setattr__"))
def xm.get{K:aH}{C:Addr}(c:xm K C)(f:Str):l9 K C f=ζ:=c.pg
abbrev fA(K:aH)(C:Addr)(f:Str):Prop:=dq K (.ref C) f=ξ ψ
def fA.Hb{K:aH}{C:Addr}{f:Str}(n:fA K C f):tG K C f=ξ ψ:=by
 unfold tG;rw[show dq K (.ref C) f=ξ ψ from n]
 rfl
structure Meth(K:aH)(C:Addr)(m:Str)(f:Addr):Prop where
 at_:dq K (.ref C) m=ξ (ξ (.ref f))
 fn:yk K (.ref f)=ζ
 kp:n5 K (.ref f)=ζ
section
variable{X:Cx}{pZ:List (Addr×Obj)}{σ:St}{H:Hp}{s:av}{a C dx:Addr}{fs:List (Str×V)}{f:Str}{v:V}{A:cf}{E:Value->av->Prop}
def uM{b:Bool}{Q:Value->av->Prop}(I:Inv X pZ σ H s)(e:H a=ξ (.ins C dx fs))(c:xm X.K C)(n:fA X.K C f)(l:fs.lookup f=ξ v)
  (h:∀u s',Inv X pZ σ H s'->RelV v u->Q u s'):wpAny (aS X.prog X.w) A (Gw (.ref a) f b) Q E s:=by
 let#[mA,O,r,_,_,_]:=tW I.ck e;let#[u,hu,ru]:=kO.some_of (v:=v) (o:=mA f) (by rw[<-l];erw[r f]);erw[get_map I.jY O (c.get f) c.hd n hu (xk ru) (h u _ (I.tok _) ru)]
def uO{m:Str}{g:Addr}{pl:Sem Bool}{Q:Value×List Value->av->Prop}(I:Inv X pZ σ H s)(e:H a=ξ (.ins C dx fs))(c:xm X.K C)(k:Meth X.K C m g)(l:fs.lookup m=ψ)
  (h:Q (.ref g,[.ref a]) s):wpAny (aS X.prog X.w) A (getMethod (.ref a) m pl) Q E s:=by
 let#[mA,O,r,_,_,_]:=tW I.ck e;have hn:mA m=ψ:=kO.none_of (by rw[<-l];erw[r m]);erw[G9 I.jY O (c.get m) k.at_ k.fn hn h]
def uP{y:V}{u:Value}{Q:Unit->av->Prop}(I:Inv X pZ σ H s)(e:H a=ξ (.ins C dx fs))(c:xm X.K C)(n:fA X.K C f)(hl:fs.length<1000)(ry:RelV y u)
  (h:∀s',Inv X pZ σ (upd H a (.ins C dx (gB f y fs))) s'->Q () s'):wpAny (aS X.prog X.w) A (Gx (.ref a) f u) Q E s:=by
 let#[mA,O,r,wi,_,ho]:=tW I.ck e;have hz:(fs.map (·.1)).length<=sizeLine:=by rw[ah,gv];omega
 rwa[K6 I.jY O c.sa c.po n.Hb c.hd wi hz λh' O' sb=>h _ ?_]
 have hd:∃o,h'.get? dx=ξ o:=let ⟨o,_,_,e',_⟩:=O'.ns;#[o,e'];rwa[I.write (x:=a) (e:=dx) (%[e|bY]) (.inr ho) (λb q hb z=>(sb.2 b hb).trans z) hd ?_];refine#[%[a7 O.ne|ho],?_,O.ne,O'.obj,_,O'.ns,λg=>?_,λg hg=>?_]
 .have:=sT f y fs;omega
 .show kO ((gB f y fs).lookup g) (if g=f then ξ u else mA g)
  rw[oq]
  by_cases q:g=f
  .rw[if_pos q,if_pos q];erw[ry]
  .rw[if_neg q,if_neg q];erw[r g]
 .by_cases q:g=f
  .rw[q];exact(mf f y fs).1
  .refine(mf f y fs).2 g (wi g λz=>hg ?_)
   show(if g=f then ξ u else mA g)=ψ
   rw[if_neg q];erw[z]
def Inv.made(I:Inv X pZ σ H s):Inv X pZ σ (upd (upd H s.heap.objs.size (.own (s.heap.objs.size+1))) (s.heap.objs.size+1) (.ins C s.heap.objs.size []))
  {s with heap:=(s.heap.push cK).push (dB C s.heap.objs.size)}:=by
 have e1:(s.heap.push cK).get? s.heap.objs.size=ξ cK:=a3 s.heap rfl;have e2:((s.heap.push cK).push (dB C s.heap.objs.size)).get? (s.heap.objs.size+1)=ξ (dB C s.heap.objs.size):=by
  have:=a3 (s.heap.push cK) (o:=dB C s.heap.objs.size) rfl
  rwa [gV] at this
 have e3:(s.heap.push cK).Ns s.heap.objs.size (λ_=>ψ):=#[cK,#[],_,e1,rfl,(λe he=>absurd he (#v[])),λ_=>rfl]
 have I1:=I.laid (a:=s.heap.objs.size) (o:=.own (s.heap.objs.size+1)) (h':=s.heap.push cK) (t':=s.toks) (λb u q=>az _ q) (ar _) #[_,e1];rwa[I1.laid (a:=s.heap.objs.size+1) (o:=.ins C s.heap.objs.size []) (t':=s.toks) (λb u q=>az _ q) (BE (gV _ _)) ?_];have ne:s.heap.objs.size≠s.heap.objs.size+1:=a6 (b4 _);refine#[by rw[a7 ne,a9],bC _,ne,e2,λ_=>ψ,(BF e3).at λo q=>az _ q,λ_=>bY,λy hy=>absurd rfl hy]
def K7{prog:bj}{w:bL}{env:Env}{e:Expr}{f:Str}{pos:Pos}{s:av}{Q:Value->av->Prop}(hb:gW e f env (eval e env)=eval e env)
  (h:wpAny (aS prog w) A (eval e env) (λo s₁=>wpAny (aS prog w) A (Gw o f ζ) Q E s₁) E s):wpAny (aS prog w) A (eval (.Attribute e f pos) env) Q E s:=
 Attribute_any_ h (by rw[arm_eval_Attribute,hb])
end
abbrev XH(K:aH)(ta tv:TE)(f:Str):TS:=λD σ H=>tv σ H λy H1=>ta σ H1 λx H2=>∃a C dx fs,x=.ref a/\H2 a=ξ (.ins C dx fs)/\xm K C/\fA K C f/\fs.length<1000 /\
 D.nx σ (upd H2 a (.ins C dx (gB f y fs)))
abbrev XI(X:Cx)(op:mK)(rd:V->V->Hp->VK->Prop):Prop:=
 ∀(pZ:List (Addr×Obj))(s:av)(σ:St)(H:Hp)(x y:V)(u v:Value)(Q:VK),Inv X pZ σ H s->RelV x u->RelV y v->rd x y H Q->wpAny (aS X.prog X.w) X.A (gU op u v) (EP X pZ σ Q) X.xe s
abbrev K8(K:aH)(ta tv:TE)(rd:V->V->Hp->VK->Prop)(f:Str):TS:=λD σ H=>ta σ H λx H1=>∃a C dx fs v,x=.ref a/\H1 a=ξ (.ins C dx fs)/\xm K C/\fA K C f/\fs.lookup f=ξ v /\
 tv σ H1 λy H2=>rd v y H2 λz H3=>∃dx' fs',H3 a=ξ (.ins C dx' fs')/\fs'.length<1000/\D.nx σ (upd H3 a (.ins C dx' (gB f z fs')))
section
variable{X:Cx}{o e value:Expr}{f:Str}{pos pos' tpos:Pos}{ta tv:TE}
def O3(ha:PE X o ta)(hv:PE X value tv)(hs:fV value (ξ (.Attribute o f pos')) pos.line X.env=pure ϑ):PS X (.Assign [.Attribute o f pos'] value pos) (XH X.K ta tv f):=by
 intro pZ s σ H D I h;rwa[wC (dS (hv pZ s σ H _ I h) λu s1 h9=>?_) hs];let#[y,H1,I1,ry,q]:=h9;rwa[dS (ha pZ s1 σ H1 _ I1 q) λov s2 h9=>?_]
 let#[x,H2,I2,rx,a,C,dx,fs,ex,ea,c,n,l,q2]:=h9;subst ex;obtain rfl:ov=aL a:=rx;erw[uP I2 ea c n l ry λs3 I3=>#[σ,_,I3,q2]]
def E4{op:mK}{rd:V->V->Hp->VK->Prop}(ha:PE X o ta)(hv:PE X value tv)(hop:XI X op rd):PS X (.AugAssign (.Attribute o f tpos) op value pos) (K8 X.K ta tv rd f):=by
 intro pZ s σ H D I h;rwa[wpAny_AugAssign_AttributeAny (dS (ha pZ s σ H _ I h) λov s1 h9=>?_)];let#[x,H1,I1,rx,a,C,dx,fs,v,ex,ea,c,n,l,q]:=h9;subst ex;obtain rfl:ov=aL a:=rx;rwa[uM I1 ea c n l λu s2 I2 ru=>dS (hv pZ s2 σ H1 _ I2 q) λw3 s3 h9=>?_]
 let#[y,H2,I3,ry,q3]:=h9;rwa[dS (hop pZ s3 σ H2 v y u w3 _ I3 ru ry q3) λw4 s4 h9=>?_]
 let#[z,H3,I4,rz,dx',fs',ea',l',q4]:=h9;erw[uP I4 ea' c n l' rz λs5 I5=>#[σ,_,I5,q4]]
end
section
variable{X:Cx}{pZ:List (Addr×Obj)}{σ:St}{H:Hp}{s:av}{A:cf}{E:Value->av->Prop}{Q:Value->av->Prop}{c:Value}{b:Bool}
inductive rR(K:aH)(H:Hp):V->Value->Prop where
 |bK:rR K H .bK (.type "NoneType")
 |bl (x:Bool):rR K H (.bl x) (.type "bool")
 |int (i:Int):rR K H (.int i) (.type "int")
 |str (x:Str):rR K H (.str x) (.type "str")
 |Ou (x:UInt64):rR K H (.Ou x) (.type "float")
 |lst{a:Addr}{xs:List V} (e:H a=ξ (.lst xs)):rR K H (.ref a) (.type "list")
 |pP{a:Addr}{o:Obj}{xs:List V} (e:H a=ξ (.pP o (.lst xs))):rR K H (.ref a) (.type "list")
 |tup{a:Addr}{xs:List V} (e:H a=ξ (.tup xs)):rR K H (.ref a) (.type "tuple")
 |dK{a:Addr}{kvs:List (Key×V)} (e:H a=ξ (.dK kvs)):rR K H (.ref a) (.type "dict")
 |dT{a:Addr}{kvs:List (List Key×V)} (e:H a=ξ (.dT kvs)):rR K H (.ref a) (.type "dict")
 |ins{a C dx:Addr}{fs:List (Str×V)} (e:H a=ξ (.ins C dx fs)) (cl:xm K C) (ha:dq K (.ref C) "__class__"=ξ (ξ (.builtin "object.__class__")))
   (hn:PySem.W.specialIn K (.builtin "object.__class__") "__get__"=ξ (ξ (.builtin "getset_descriptor.__get__"))) (O4:PySem.W.takesIn K (.builtin "object.__class__")=ξ ζ)
   (hm:PySem.W.mroIn K C (.type "object")=ξ ζ):rR K H (.ref a) (.ref C)
def E5(I:Inv X pZ σ H s)(rx:RelV x u)(ty:rR X.K H x t)(e:PySem.W.kitOne X.K t c=ξ b)(h:∀tk,Q (.bool b) {s with toks:=tk}):
  wpAny (aS X.prog X.w) A (call (.builtin "isinstance") [u,c]) Q E s:=by
 cases ty with
 |bK=>cases (show u=bx from rx);erw[cQ PySem.W.kitx_none I.jY bY e (λz=>nomatch z) h]
 |bl y=>cases (show u=nG y from rx);erw[cQ PySem.W.kitx_bool I.jY bY e (λz=>nomatch z) h]
 |int i=>let#[t,q]:=(show ∃t,u=jM i t from rx);cases q;erw[cQ PySem.W.kitx_int I.jY bY e (λz=>nomatch z) h]
 |str y=>let#[t,q]:=(show ∃t,u=mJ y t from rx);cases q;erw[cQ PySem.W.kitx_str I.jY bY e (λz=>nomatch z) h]
 |Ou y=>let#[t,q]:=(show ∃t,u=BA y t from rx);cases q;erw[cQ PySem.W.kitx_float I.jY bY e (λz=>nomatch z) h]
 |@lst a xs ea=>
  cases (show u=aL a from rx);let#[_,_,n,_,h1]:=(show c9 X.prog X.w H s.heap a (.lst xs) from I.ck a _ ea)
  erw[cQ Dl I.jY #[_,h1,rfl] e (λz=>nomatch z) h]
 |@pP a ob xs ea=>
  cases (show u=aL a from rx);let#[_,_,_,n,_,h1]:=(show c9 X.prog X.w H s.heap a (.pP ob (.lst xs)) from I.ck a _ ea)
  erw[cQ Dl I.jY #[_,h1,rfl] e (λz=>nomatch z) h]
 |@tup a xs ea=>
  cases (show u=aL a from rx);let#[_,_,_,p]:=(show c9 X.prog X.w H s.heap a (.tup xs) from I.ck a _ ea)
  let#[o,h1,h2,_]:=p;erw[cQ PySem.W.kitx_tuple I.jY #[o,h1,h2] e (λz=>nomatch z) h]
 |@dK a kvs ea=>
  cases (show u=aL a from rx);let#[_,_,vs,_,p]:=(show c9 X.prog X.w H s.heap a (.dK kvs) from I.ck a _ ea)
  let#[o,es,ep,h1,h2,_]:=p;erw[cQ Dm I.jY #[o,h1,h2.1] e (λz=>nomatch z) h]
 |@dT a kvs ea=>
  cases (show u=aL a from rx);let#[_,_,xs,_,o,es,ep,h1,h2,_]:=(show c9 X.prog X.w H s.heap a (.dT kvs) from I.ck a _ ea)
  erw[cQ Dm I.jY #[o,h1,h2.1] e (λz=>nomatch z) h]
 |@ins a C dx fs ea cl ha hn O4 hm=>
  cases (show u=aL a from rx);let#[mA,O,_]:=tW I.ck ea;let#[od,J,_]:=O.look;erw[cQ (PySem.W.kitx_own (cl.get _) cl.hd ha hn O4 hm) I.jY J e (λz=>nomatch z) h]
end
structure jj(k:Nat)(A:cf):Prop where
 hd:k≠0->A.handled=ψ
 dp:A.depth+3*k+5<recursionLimit
 un:A.units+16*k+200<eF
def jj.mono(r:jj k A)(h:j<=k):jj j A:=#[λz=>r.hd ∅,by have:=r.dp;omega,by have:=r.un;omega]
def jj.deeper(r:jj (k+1) A)(env:Env):jj k (A.deeper env):=
 #[λ_=>r.hd (fq k),by have:=r.dp;show A.depth+1+3*k+5<_;omega,by have:=r.un;show A.units+3+16*k+200<_;omega]
def uQ{A:cf}{C:Addr}{us:List Value}{kw:List (Str×Value)}:(A.under (.builtin "type.__call__" #[.ref C::us,kw])).depth=A.depth+1:=by
 first|rfl|simp[zD,Code.weight,Code.isCreation,Code.isGuard,Code.isCaller,Code.frames,Bj,guardIds]
def uR{A:cf}{C:Addr}{us:List Value}{kw:List (Str×Value)}:(A.under (.builtin "type.__call__" #[.ref C::us,kw])).units=A.units+1:=by
 first|rfl|simp[zD,Code.cUnits,Code.frames,Bj]
def jj.make(r:jj (k+1) A)(C:Addr)(us:List Value)(kw:List (Str×Value)):jj k (A.under (.builtin "type.__call__" #[.ref C::us,kw])):=
 #[λ_=>r.hd (fq k),by have:=r.dp;rw[uQ];omega,by have:=r.un;rw[uR];omega]
def jj.depth(r:jj k A):A.depth<recursionLimit:=by have:=r.dp;omega
abbrev XJ:TA:=λ_ H Q=>Q [] H
abbrev TK(ta:TE)(tr:TA):TA:=λσ H Q=>ta σ H λx H1=>tr σ H1 λxs H2=>Q (x::xs) H2
section
variable{X:Cx}{e:Expr}{es:List Expr}{te:TE}{t:TA}{pos:Pos}
def rS:PA X [] XJ:=λ_ _ _ _ H Q I h=>rK #[[],H,I,.nil,h]
def mO(ha:PE X e te)(hr:PA X es t)(hs:bM (e::es) X.env=(ϑ,eval e X.env)::bM es X.env:=by rfl):PA X (e::es) (TK te t):=by
 intro pos pZ s σ H Q I h;rw[hs]
 show wpAny _ _ (spliced ((ϑ,eval e X.env)::hV pos (bM es X.env))) _ _ s
 rwa[lE (dS (ha pZ s σ H _ I h) λu s1 h9=>?_)];let#[x,H1,I1,r1,q1]:=h9;rwa[dS (hr pos pZ s1 σ H1 _ I1 q1) λus s2 h9=>?_]
 let#[xs,H2,I2,r2,q2]:=h9;exact#[x::xs,H2,I2,.cons r1 r2,q2]
abbrev XM(t:TA):TE:=λσ H Q=>t σ H λxs H1=>xs.length<=sizeLine/\∀p,H1 p=ψ->Q (.ref p) (upd H1 p (.tup xs))
abbrev XO(t:TA):TE:=λσ H Q=>t σ H λxs H1=>xs.length<=sizeLine/\∀p,H1 p=ψ->Q (.ref p) (upd H1 p (.lst xs))
def O5{x1}(h:PA X es t):PE X (.Tuple es x1 pos) (XM t):=by
 intro pZ s σ H Q I hq;rwa[wpAny_Tuple_spliced (dS (h pos pZ s σ H _ I hq) λus s1 h9=>?_)];let#[xs,H1,I1,r,z,q]:=h9;refine#[by rw[<-r.length];erw[z],?_];have hf:H1 s1.heap.objs.size=ψ:=I1.ck.fresh (ar _);refine#[.ref s1.heap.objs.size,upd H1 s1.heap.objs.size (.tup xs),I1.laid (t':=s1.toks) (λb u e=>az _ e) (ar _) ?_,rfl,q _ hf];exact#[z,us,r,zZ.new _ _]
def O6(h:PA X es t):PE X (.List es pos) (XO t):=by
 intro pZ s σ H Q I hq;rwa[wpAny_List_spliced (dS (h pos pZ s σ H _ I hq) λus s1 h9=>?_)];let#[xs,H1,I1,r,z,q]:=h9;refine#[by rw[<-r.length];erw[z],?_];have hf:H1 s1.heap.objs.size=ψ:=I1.ck.fresh (ar _);refine#[.ref s1.heap.objs.size,upd H1 s1.heap.objs.size (.lst xs),I1.laid (t':=s1.toks) (λb u e=>az _ e) (ar _) ?_,rfl,q _ hf];exact#[z,us,0,r,a3 _ rfl]
end
@[reducible]def Sp:=List V->Hp->VK->XK->Prop
@[reducible]def Hc:=List Env->Hp->av->XK->Value->av->Prop
structure B4(P:bj)(w:bL)(K:aH)(mg:Str->Option Value)(base:Heap)(A:cf)(outer:List Env)(s:av)(H:Hp):Prop where
 frames:A.frames=ξ outer
 mod:Mod K mg base
 bs:∀b o,base.get? b=ξ o->s.heap.get? b=ξ o/\H b=ψ
 GQ:base.objs.size<=s.heap.objs.size
 pF:s.heap.FunFrames base outer
 Kj:∀b∈wj outer,H b=ψ
 ck:mI P w H s.heap
 bare:nP s.gens
abbrev CE(outer:List Env)(P:bj)(w:bL)(H:Hp)(s:av)(Q:VK)(u:Value)(s':av):Prop:=
 ∃v H',s'.os=s.os/\nP s'.gens/\Un (wj outer) [] H H' s.heap s'.heap/\mI P w H' s'.heap/\RelV v u/\Q v H'
abbrev CR(CX:Hc)(outer:List Env)(P:bj)(w:bL)(H:Hp)(s:av)(Q:VK)(E:XK)(r:Result)(s':av):Prop:=
 match r with
 |.ok (.ret u)=>CE outer P w H s Q u s'
 |.ok _=>False
 |.error e=>CX outer H s E e s'
structure iz(P:bj)(w:bL)(K:aH)(mg:Str->Option Value)(base:Heap)(CX:Hc)(k:Nat)(f:Addr)(fd:dv)(ps:List Str)(sp:Sp):Prop where
 len:∀vs H Q E,sp vs H Q E->vs.length=ps.length
 run:∀(A:cf)(outer:List Env)(s:av)(H:Hp)(args:Args)(us:List Value)(vs:List V)(Q:VK)(E:XK),jj k A->B4 P w K mg base A outer s H->Bk s fd args (ps.zip us)->Vals vs us->sp vs H Q E ->
  nQ (aS P w) A (.call (.ref f) args) (CR CX outer P w H s Q E) s
def iz.mono{P:bj}{w:bL}{K:aH}{mg:Str->Option Value}{base:Heap}{CX:Hc}{j k:Nat}{f:Addr}{fd:dv}{ps:List Str}{sp:Sp}(F:iz P w K mg base CX j f fd ps sp)(h:j<=k):
  iz P w K mg base CX k f fd ps sp:=#[F.len,λA outer s H args us vs Q E hr=>F.run A outer s H args us vs Q E (hr.mono h)]
def iz.imp{P:bj}{w:bL}{K:aH}{mg:Str->Option Value}{base:Heap}{CX:Hc}{k:Nat}{f:Addr}{fd:dv}{ps:List Str}{sp sp':Sp}(F:iz P w K mg base CX k f fd ps sp)
  (h:∀vs H Q E,sp' vs H Q E->sp vs H Q E):iz P w K mg base CX k f fd ps sp':=
 #[λvs H Q E q=>F.len vs H Q E (h _ _ _ _ q),λA outer s H args us vs Q E hr he hb hv hs=>F.run A outer s H args us vs Q E hr he hb hv (h _ _ _ _ hs)]
def B4.make{P:bj}{w:bL}{K:aH}{mg:Str->Option Value}{base:Heap}{A:cf}{outer:List Env}{s:av}{H:Hp}(e:B4 P w K mg base A outer s H)(C:Addr)(us:List Value)(kw:List (Str×Value)):
  B4 P w K mg base (A.under (.builtin "type.__call__" #[.ref C::us,kw])) outer s H:=#[by first|exact e.frames| (simpa[zD,Code.envs,Bj,pushEnvs] using e.frames),e.mod,e.bs,e.GQ,e.pF,e.Kj,e.ck,e.bare]
section
variable{X:Cx}{pZ:List (Addr×Obj)}{σ:St}{H:Hp}{s s':av}
def Inv.K9(I:Inv X pZ σ H s):B4 X.prog X.w X.K X.mg X.base X.A X.stack s H:=
 #[I.ok.frames,I.ok.mod,I.bs,aP I.ok.GQ I.sz,I.stack,I.yC,I.ck,I.bare]
def Inv.after(I:Inv X pZ σ H s)(h:CE X.stack X.prog X.w H s Q u s'):EP X pZ σ Q u s':=by
 let#[v,H',os,bare,un,ck,r,q]:=h;let#[hh,g,d,t,os']:=s';obtain rfl:os'=s.os:=os;exact#[v,H',I.call (h':=hh) (g':=g) (d':=d) (t':=t) (ch:=[]) un ck bare (λb z=>absurd z (#v[])),r,q]
end
abbrev Binds(K:aH)(fd:dv)(ps:List Str)(ds:List Value):Prop:=
 ∀(s:av)(us:List Value),K.In s.heap->(us++ds).length=ps.length->Bk s fd #[us,[]] (ps.zip (us++ds))
def Binds.all{K:aH}{fd:dv}{ps:List Str}(h:∀us:List Value,us.length=ps.length->BG fd #[us,[]]=pure (ps.zip us)):Binds K fd ps []:=λs us _ hl=>by
 rw[cb] at hl ⊢;erw[.of_eq (h us hl)]
section
variable{X:Cx}{CX:Hc}{k:Nat}{f C:Addr}{fd:dv}{ps:List Str}{sp:Sp}{dvs:List V}{ds:List Value}{E:XK}{x m:Str}{p pos apos:Pos}{e o:Expr}{es:List Expr}{ta:TE}{t:TA}
structure Mk(K:aH)(C f:Addr):Prop where
 makes:F6 K C=ζ
 init:dq K (.ref C) "__init__"=ξ (ξ (.ref f))
 fn:yk K (.ref f)=ζ
 kp:n5 K (.ref C)=ζ
end
structure fB(N P:List Str)(sc:jh):Prop where
 kind:sc.kind=.function
 co:sc.isCoroutine=ϑ
 gen:sc.isGenerator=ϑ
 nd:N.Nodup
 pre:N.take P.length=P
 par:∀x∈P,sc.names.lookup x=ξ .local\/sc.names.lookup x=ξ .cell
 O7:∀y∈sc.names,y.2≠.free
def xn{kindOf:Str->Option NameKind}{x:Str}:∀{binds:List (Str×Value)}{m:Str->Option Value},(∀v,(x,v)∉binds)->F7 kindOf binds m x=m x
 |[],_,_=>rfl
 | (n,v)::r,m,h=>by
  unfold F7;rw[xn λw hw=>h w (ay _ hw)]
  split
  .have:x≠n:=by rintro rfl;erw[h v aV]
   simp[this]
  .rfl
def xp{kindOf:Str->Option NameKind}{x:Str}:∀{binds:List (Str×Value)}{m:Str->Option Value},(∀v,(x,v)∉binds)->F8 kindOf binds m x=m x
 |[],_,_=>rfl
 | (n,v)::r,m,h=>by
  unfold F8;rw[xp λw hw=>h w (ay _ hw)]
  split
  .rfl
  .have:x≠n:=by rintro rfl;erw[h v aV]
   simp[this]
def xq{kindOf:Str->Option NameKind}{x:Str}{v:Value}:∀{P:List Str}{vs:List Value}{i:Nat}{m:Str->Option Value},P.Nodup->P[i]?=ξ x->vs[i]?=ξ v->kindOf x=ξ .local ->
  F7 kindOf (P.zip vs) m x=ξ v
 |[],_,_,_,_,h,_,_=>by simp at h
 |_::_,[],_,_,_,_,h,_=>by simp at h
 |p::P,w::vs,0,m,nd,h1,h2,hk=>by
  simp at h1 h2;subst h1;subst h2;show F7 kindOf ((p,w)::P.zip vs) m p=_;unfold F7;rw[xn λv hv=>(eG.mp nd).1 (vP hv).1,if_pos hk]
  simp
 |p::P,w::vs,i+1,m,nd,h1,h2,hk=>by
  show F7 kindOf ((p,w)::P.zip vs) m x=_
  unfold F7;exact xq (i:=i) (eG.mp nd).2 (~~~h1) (~~~h2) hk
def xr{kindOf:Str->Option NameKind}{x:Str}{v:Value}:∀{P:List Str}{vs:List Value}{i:Nat}{m:Str->Option Value},P.Nodup->P[i]?=ξ x->vs[i]?=ξ v->kindOf x≠ξ .local ->
  F8 kindOf (P.zip vs) m x=ξ v
 |[],_,_,_,_,h,_,_=>by simp at h
 |_::_,[],_,_,_,_,h,_=>by simp at h
 |p::P,w::vs,0,m,nd,h1,h2,hk=>by
  simp at h1 h2;subst h1;subst h2;show F8 kindOf ((p,w)::P.zip vs) m p=_;unfold F8;rw[xp λv hv=>(eG.mp nd).1 (vP hv).1,if_neg hk]
  simp
 |p::P,w::vs,i+1,m,nd,h1,h2,hk=>by
  show F8 kindOf ((p,w)::P.zip vs) m x=_
  unfold F8;exact xr (i:=i) (eG.mp nd).2 (~~~h1) (~~~h2) hk
abbrev start(N:List Str)(vs:List V):St:=vs.map ξ++pO (N.length-vs.length) ψ
abbrev rT(CX:Hc)(P:bj)(w:bL)(K:aH)(mg:Str->Option Value)(base:Heap)(N:List Str)(qual:Str)(scope:jh)(f:Addr)(cd:Value)(A:cf)(outer:List Env)(s:av)(H:Hp)(E:XK):Cx where
 prog:=P
 w:=w
 K:=K
 mg:=mg
 base:=base
 A:=A.deeper (pX qual scope s.heap.objs.size f cd)
 N:=N
 s₀:=s
 H₀:=H
 env:=pX qual scope s.heap.objs.size f cd
 outer:=outer
 stack:=pX qual scope s.heap.objs.size f cd::outer
 ex:=[]
 calm:=A.handled.isNone
 fn:=λ_=>ζ
 pn:=[]
 xe:=λe s'=>wpAny (aS P w) (A.deeper (pX qual scope s.heap.objs.size f cd)) (leaving (pX qual scope s.heap.objs.size f cd) e) (λ_ s''=>CX outer H s E e s'') (λe' s''=>CX outer H s E e' s'') s'
def Aa{sc:jh}{n:Nat}{x:Str}(h:sc.names.lookup x=ξ .cell):∃c,(iX n sc.names []).lookup x=ξ c:=by
 have q:=ym sc.names n [] (.inl h);erw[wD.mp q]
def E6{CX:Hc}{P:bj}{w:bL}{K:aH}{mg:Str->Option Value}{base:Heap}{N ps:List Str}{qual:Str}{scope:jh}{f:Addr}{cd:Value}{A:cf}{outer:List Env}{s s1:av}{H:Hp}{E:XK}{us:List Value}{vs:List V}
  (S:fB N ps scope) (e0:B4 P w K mg base A outer s H) (hl:vs.length=ps.length) (r:Vals vs us)
  (x:InCallC s s.heap.objs.size (F7 (pX qual scope s.heap.objs.size f cd).kindOf (ps.zip us) λ_=>ψ) (iX (s.heap.objs.size+1) scope.names []) (F8 (pX qual scope s.heap.objs.size f cd).kindOf (ps.zip us) λ_=>ψ) s1):
  Inv (rT CX P w K mg base N qual scope f cd A outer s H E) [] (start N vs) H s1:=by
 have hpl:ps.length<=N.length:=by have:=congrArg dh S.pre;rw[b3] at this;omega
 let#[h1,tk,rfl,hk]:=x.done;have noA:∀b:Addr,b∉(rT CX P w K mg base N qual scope f cd A outer s H E).ex:=λb z=>absurd (show b∈([]:List Addr) from z) (#v[])
 refine#[#[e0.mod,S.kind,rfl,rfl,ar _,λy z c h1 h2=>?_,λy hy=>?_,λy c _ h=>?_,λz=>Option.isNone_iff_eq_none.mp z,Around.frames_deeper e0.frames,.inr #[rfl,rfl],λb z=>absurd z (noA b),e0.bs,e0.GQ,λb _ _=>noA b,λb z=>absurd z (noA b),e0.pF,e0.Kj],
  rfl,e0.bare,Un.kept hk,#[_,x.toInCall.ns,λi y v h1 h2 h3=>?_],λy c h=>#[_,x.cell y c h],e0.ck.fresh (ar _),λy c h=>?_,λp hp=>absurd (show p∈([]:List (Addr×Obj)) from hp) (#v[]),e0.ck.kept hk,?_]
 .erw[name_of_addr x.apart (cL h1) (cL h2)]
 .have hy:scope.names.lookup y=ξ .cell\/scope.names.lookup y=ξ .free:=hy
  rcases hy with hy|hy
  .erw[Aa hy]
  .erw[absurd rfl (S.O7 _ (cL hy))]
 .erw[cv (x.above y c (cL h))]
 .have hi:i<vs.length:=by
   unfold start at h2;by_cases hi:i<vs.length
   .erw[hi]
   .rw[aB (~~~hi)] at h2
    rw[zP] at h2;split at h2<;>cases h2
  have ha:vs[i]?=ξ v:=by
   unfold start at h2;rw[aq (~~~hi),aE] at h2;cases e:vs[i]? with
   |none=>rw[e] at h2;cases h2
   |some a=>rw[e] at h2;cases h2;rfl
  let#[u,hu,rv]:=r.get ha;have hp:ps[i]?=ξ y:=by
   rw[<-S.pre,mE ∅];erw[h1]
  have ndP:ps.Nodup:=by rw[<-S.pre];erw[S.nd.sublist (List.take_sublist _ _)]
  refine#[u,rv,?_];rcases S.par y (ax hp) with k|k
  .erw[.inl #[k,xq ndP hp hu k]]
  .let#[c,e]:=Aa (n:=s.heap.objs.size+1) k
   rwa[.inr #[.inl k,c,e,?_]];have q:=x.cell y c e;rw[xr ndP hp hu (by show scope.names.lookup y≠_;rw[k];decide)] at q;erw[q]
 .erw[e0.ck.fresh (cv (x.above y c (cL h)))]
 .unfold start
  show _=N.length
  rw[aC,ah,List.length_replicate]
  omega
def NI{CX:Hc}{P:bj}{w:bL}{K:aH}{mg:Str->Option Value}{base:Heap}{k:Nat}{f:Addr}{name qual:Str}{params:Arguments}{body:List Stmt}{scope:jh}{dV kV doc pm cdv ct oc:Value}{an od:Option Addr}
  {osl:Array (Option Value)}{N ps:List Str}{sp:Sp}{Rm:cf->Prop} (lk:K.lookup f=ξ #[oc,od,.func (kf name qual params body scope dV kV doc pm an cdv ct),osl]) (hcd:uC K cdv qual=ζ) (S:fB N ps scope)
  (len:∀vs H Q E,sp vs H Q E->vs.length=ps.length)
  (hR:∀A env,jj k A->Rm (A.deeper env))
  (hbody:∀(A:cf)(outer:List Env)(s:av)(H:Hp)(vs:List V)(Q:VK)(E:XK),Rm (A.deeper (pX qual scope s.heap.objs.size f cdv))->sp vs H Q E ->
   ∃t,rF (rT CX P w K mg base N qual scope f cdv A outer s H E) body t/\t {nx:=λ_ H'=>Q .bK H',rt:=Q} (start N vs) H):
  iz P w K mg base CX k f (kf name qual params body scope dV kV doc pm an cdv ct) ps sp:=by
 refine#[len,λA outer s H args us vs Q E hr e0 hb r hsp=>?_];have hl:=len _ _ _ _ hsp;have KX:K.In s.heap:=e0.mod.Oy.keeps λb o e=>(e0.bs b o e).1
 have lim:s.heap.NoLimit:=e0.mod.nolimit.keeps λb o e=>(e0.bs b o e).1
 have hkind:∀y∈ps.zip us,scope.names.lookup y.1=ξ .local\/(scope.names.lookup y.1=ξ .cell/\((iX (s.heap.objs.size+1) scope.names []).lookup y.1).isSome=ζ):=λ⟨n,v⟩ hy=>by
  rcases S.par n (vP hy).1 with q|q
  .erw[.inl q]
  .erw[.inr #[q,ym _ _ _ (.inl q)]]
 rwa[codeAny_call_function hr.depth (KX _ _ lk) rfl S.co S.gen rfl (PySem.W.codeRec_of KX hcd) (hb _ _ _ _ ?_)];rwa[wpAny_newFunctionEnv_cells S.kind hkind λenv he s1 x=>?_]
 subst he;refine#[lim.keeps x.toInCall.keep,codeAny_func ?_];let#[t,ht,hq]:=hbody A outer s H vs Q E (hR A _ hr) hsp;have I:Inv (rT CX P w K mg base N qual scope f cdv A outer s H E) [] (start N vs) H s1:=E6 S e0 hl r x;rwa[bg (ht [] s1 (start N vs) H _ I hq) (λfl s' hs=>?_) λe s' hs=>hs]
 have fin:∀{σ':St}{H':Hp}{v:V}{u:Value},Inv (rT CX P w K mg base N qual scope f cdv A outer s H E) [] σ' H' s'->RelV v u->Q v H'->CE outer P w H s Q u s':=
  λ{σ' H' v u}J rv q=>#[v,H',J.os,J.bare,J.base,J.ck,rv,q]
 cases fl with
 |ret u=>
  let#[v,σ',H',J,rv,q]:=hs;erw[fin J rv q]
 |next=>
  let#[σ',H',J,q]:=hs;erw[fin (v:=V.bK) (u:=bx) J rfl q]
 |brk=>
  let#[_,_,_,q]:=hs;erw[aJ q]
 |cont=>
  let#[_,_,_,q]:=hs;erw[aJ q]
section
variable{X:Cx}{x:Str}{p pos:Pos}{e:Expr}{es:List Expr}{t:TA}{id T:String}{r:List V->Hp->VK->Prop}
abbrev XQ(r:List V->Hp->VK->Prop)(t:TA):TE:=λσ H Q=>t σ H λvs H1=>r vs H1 Q
def ou(hc:iT X (.builtin id) r)(hg:Gl X x)(hm:X.mg x=ψ)(hv:jT x=ξ (.builtin id))(ha:PA X (e::es) t)(hn:x≠"__name__":=by decide)(hdb:(x==("__debug__":Str))=ϑ:=by decide)
  (he:bM (e::es) X.env=(ϑ,eval e X.env)::bM es X.env:=by rfl) (hpl:(hV pos (bM es X.env)).any (·.1)=ϑ:=by rfl):PE X (.Call (.Name x p) (e::es) [] pos) (XQ r t):=by
 k_go;rwa[dC (rP I hg hm hv ?_ hn hdb)];rwa[PyProof.Rows.callWith_builtin1 (dS (ha pos pZ s σ H _ I h) λus s1 h9=>?_) he hpl];let#[vs,H1,I1,r1,q1]:=h9;erw[hc pZ s1 σ H1 vs us Q I1 r1 q1]
def oR(hc:iT X (.type T) r)(hg:Gl X x)(hm:X.mg x=ψ)(hv:jT x=ξ (.type T))(ha:PA X (e::es) t)(hn:x≠"__name__":=by decide)(hdb:(x==("__debug__":Str))=ϑ:=by decide)
  (he:bM (e::es) X.env=(ϑ,eval e X.env)::bM es X.env:=by rfl) (hpl:(hV pos (bM es X.env)).any (·.1)=ϑ:=by rfl):PE X (.Call (.Name x p) (e::es) [] pos) (XQ r t):=by
 k_go;rwa[dC (rP I hg hm hv ?_ hn hdb)];rwa[fm (dS (ha pos pZ s σ H _ I h) λus s1 h9=>?_) he hpl];let#[vs,H1,I1,r1,q1]:=h9;erw[hc pZ s1 σ H1 vs us Q I1 r1 q1]
end
end L2
namespace HT
open PySem PyProof.Rows
section
variable{prog:bj}{w:bL}{A:cf}{E:Value->av->Prop}{s:av}
def La(ht:IsTup s.heap t vs.toArray)(hb:IsTup s.heap b ws.toArray)(hv:vs≠[])
  (h1:ws=[]->Q (.ref t) s) (h2:ws≠[]->Q (.ref s.heap.objs.size) {s with heap:=s.heap.push {cls:=.type "tuple",data:=.seq (vs++ws).toArray} })
  (hsz:vs.length+ws.length<=sizeLine):wpAny (aS prog w) A (cF .Add (.ref t) (.ref b)) Q E s:=by
 let#[#[cls,dd,data,sl],ho,hc,n,hd]:=id ht;let#[#[cls2,dd2,data2,sl2],ho2,hc2,n2,hd2]:=id hb;simp only at hc hd hc2 hd2;subst hc hd hc2 hd2;have e:vs.toArray++ws.toArray=(vs++ws).toArray:=by simp
 by_cases hw:ws=[]
 .exact concat_meets #[_,ho,rfl] #[_,ho2,rfl] noFill_tuple_add seq_tuple_add yn wF (v9 _ _)
   (tuple_addW1 t b vs.toArray ws.toArray n n2 dd dd2 sl sl2 (~~~hv) (by simp[hw])) #[ho,ho2,h1 hw]
 .refine concat_meets #[_,ho,rfl] #[_,ho2,rfl] noFill_tuple_add seq_tuple_add yn wF (v9 _ _)
   (tuple_addW2 t b vs.toArray ws.toArray n n2 dd dd2 sl sl2 (~~~hv) (~~~hw) (%[aI,aI|hsz])) #[ho,ho2,?_]
  rw[e]
  erw[h2 hw]
abbrev wk(n d:Nat):Option Int->Nat
 |none=>d
 |some v=>if v<0 then(v+(n:Int)).toNat else min v.toNat n
end
end HT
namespace L2
open PySem PySem.Spec PyProof.Rows
@[reducible]def TO:=St->Hp->(Option Int->Hp->Prop)->Prop
abbrev PO(X:Cx)(e:Option Expr)(t:TO):Prop:=
 ∀(pZ:List (Addr×Obj))(s:av)(σ:St)(H:Hp)(Q:Option Int->Hp->Prop),Inv X pZ σ H s->t σ H Q ->
  wpAny (aS X.prog X.w) X.A (evalPart e X.env) (λu s'=>∃o H',Inv X pZ σ H' s'/\IsPart u o/\Q o H') X.xe s
abbrev Lb:TO:=λ_ H Q=>Q ψ H
abbrev TL(t:TE):TO:=λσ H Q=>t σ H λx H1=>∃i,x=.int i/\Q (ξ i) H1
section
variable{X:Cx}{e:Expr}{te:TE}{lo hi:Option Expr}{tl th:TO}{pos p2:Pos}
def Lc:PO X ψ Lb:=by
 k_go;rw[evalPart_none]
 erw[ao #[ψ,H,I,.none,h]]
def Ld(h:PE X e te):PO X (ξ e) (TL te):=by
 intro pZ s σ H Q I hw;rw[evalPart_some]
 rwa[dS (h pZ s σ H _ I hw) λu s1 h9=>?_]
 let#[x,H1,I1,r1,q1]:=h9;let#[i,rfl,q]:=q1;let#[t,rfl]:=r1;exact#[ξ i,H1,I1,.int i t,q]
abbrev WB(X:Cx)(r:V->Option Int->Option Int->Hp->VK->Prop):Prop:=
 ∀(pZ:List (Addr×Obj))(s:av)(σ:St)(H:Hp)(x:V)(v vl vu:Value)(lo hi:Option Int)(sl:Addr)(Q:VK),Inv X pZ σ H s->RelV x v->s.heap.IsSliceOf sl vl vu .none->IsPart vl lo->IsPart vu hi->r x lo hi H Q ->
  ∃T id,pY (.type T) "__getitem__"=pure (ξ (.builtin id))/\s.TypeIs v T/\wpAny (aS X.prog X.w) X.A (sN v (.ref sl)) (EP X pZ σ Q) X.xe s
abbrev tSl(r:V->Option Int->Option Int->Hp->VK->Prop)(te:TE)(tl th:TO):TE:=λσ H Q=>te σ H λx H1=>tl σ H1 λl H2=>th σ H2 λu H3=>r x l u H3 Q
def Hd(hr:WB X r)(he:PE X e te)(hl:PO X lo tl)(hu:PO X hi th):PE X (.Subscript e (.Slice lo hi ψ p2) pos) (tSl r te tl th):=by
 k_go;rwa[Subscript_ (dS (he pZ s σ H _ I h) λv s1 h9=>?_)];let#[x,H1,I1,r1,q1]:=h9;rwa[wpAny_Slice (dS (hl pZ s1 σ H1 _ I1 q1) λvl s2 h9=>?_)];let#[l,H2,I2,pl,q2]:=h9;rwa[dS (hu pZ s2 σ H2 _ I2 q2) λvu s3 h9=>?_]
 let#[u,H3,I3,pu,q3]:=h9;rw[evalPart_none]
 rwa[ao ?_];have I4:Inv X pZ σ H3 {s3 with heap:=s3.heap.push {cls:=.type "slice",data:=.fields (List.toArray [vl,vu,.none])} }:=I3.kept (t':=s3.toks) λb ob q=>az _ q
 let#[T,id,hT,ht,hg]:=hr pZ {s3 with heap:=s3.heap.push {cls:=.type "slice",data:=.fields (List.toArray [vl,vu,.none])} } σ H3 x v vl vu l u s3.heap.objs.size Q I4 r1 (Heap.IsSliceOf.new ..) pl pu q3;show wpAny (aS X.prog X.w) X.A (EG e (.Slice lo hi ψ p2) v (.ref s3.heap.objs.size)) (EP X pZ σ Q) X.xe {s3 with heap:=s3.heap.push {cls:=.type "slice",data:=.fields (List.toArray [vl,vu,.none])} };erw[tail_any (ops:=[.ref s3.heap.objs.size,v]) ht hT hg (by with_unfolding_all rfl)]
abbrev E7(xs:List V)(lo hi:Option Int):List V:=(xs.drop (HT.wk xs.length 0 lo)).take (HT.wk xs.length xs.length hi-HT.wk xs.length 0 lo)
def Ab(xs:List V)(lo hi:Option Int):(E7 xs lo hi).length<=xs.length:=by
 unfold E7;rw[b3,List.length_drop]
 omega
abbrev TM(K:aH):R2:=λx y H Q=>∃a b xs ys,x=.ref a/\y=.ref b/\nB K H a xs/\nB K H b ys/\xs≠[]/\xs.length+ys.length<=sizeLine /\
 (ys=[]->Q (.ref a) H)/\(ys≠[]->∀p,H p=ψ->Q (.ref p) (upd H p (.tup (xs++ys))))
def Vals.yE(r:Vals xs us):us=[]↔xs=[]:=by
 cases r with
 |nil=>simp
 |cons _ _=>simp
def Le:hJ X (cF .Add) (TM X.K):=by
 x_go;let#[a,b,xs,ys,rfl,rfl,ha,hb,hx,hz,q1,q2]:=h;cases rx;cases ry;let#[its,r1,p1,_]:=I.tuple ha;let#[its2,r2,p2,_]:=I.tuple hb;rwa[HT.La p1 p2 (λz=>hx (r1.yE.mp z)) (λz=>#[.ref a,H,I,rfl,q1 (r2.yE.mp z)]) (λz=>?_) (by rw[<-r1.length,<-r2.length];erw[hz])];refine#[.ref s.heap.objs.size,_,I.laid (t':=s.toks) (o:=.tup (xs++ys)) (λb ob q=>az _ q) (ar _) ?_,rfl,q2 (λw=>z (r2.yE.mpr w)) _ (I.ck.fresh (ar _))];exact#[%[aC|hz],_,r1.append r2,zZ.new _ _]
end
abbrev O8(n:Nat)(i:Int):Option Nat:=if 0<=i then(if i<n then ξ i.toNat else ψ) else if -(n:Int)<=i then ξ (i+n).toNat else ψ
abbrev O9{α:Type}(xs:List α)(i:Int):Option α:=(O8 xs.length i).bind λj=>xs[j]?
def DE(h:O8 n i=ξ j):seqIndex? i n=ξ j/\j<n/\-(n:Int)<=i/\i<n:=by
 unfold O8 at h;by_cases h0:0<=i
 .rw[if_pos h0] at h
  by_cases h1:i<n
  .rw[if_pos h1] at h
   have e:i.toNat=j:=aG h;exact#[by rw[Kt h0 h1,e],∅,∅,h1]
  .rw[if_neg h1] at h;cases h
 .rw[if_neg h0] at h
  by_cases h1:-(n:Int)<=i
  .rw[if_pos h1] at h
   have e:(i+n).toNat=j:=aG h;exact#[by rw[Gy ∅ h1,e],∅,h1,∅]
  .rw[if_neg h1] at h;cases h
def yF{α:Type}{xs:List α}{i:Int}{v:α}(h:O9 xs i=ξ v):∃j,seqIndex? i xs.length=ξ j/\xs[j]?=ξ v/\j<xs.length/\-(xs.length:Int)<=i/\i<xs.length:=by
 unfold O9 at h;cases e:O8 xs.length i with
 |none=>rw[e] at h;cases h
 |some j=>
  rw[e] at h;let#[h1,h2,h3,h4]:=DE e;exact#[j,h1,h,h2,h3,h4]
abbrev DF(b:Expr):Prop:=∀o i,zE b ϑ o i=operate [o,i] (sN o i)
abbrev Sw(X:Cx)(r:R2):Prop:=
 ∀(value slice:Expr)(pZ:List (Addr×Obj))(s:av)(σ:St)(H:Hp)(x y:V)(v u:Value)(Q:VK),Inv X pZ σ H s->RelV x v->RelV y u->r x y H Q ->
  zE slice ϑ v u=operate [v,u] (sN v u)->wpAny (aS X.prog X.w) X.A (EG value slice v u) (EP X pZ σ Q) X.xe s
abbrev Bt(X:Cx)(id:String)(r:V->List V->Hp->VK->Prop):Prop:=
 ∀(pZ:List (Addr×Obj))(s:av)(σ:St)(H:Hp)(x:V)(xs:List V)(v:Value)(us:List Value)(Q:VK),Inv X pZ σ H s->RelV x v->Vals xs us->r x xs H Q ->
  wpAny (aS X.prog X.w) X.A (call (.builtin id) (v::us)) (EP X pZ σ Q) X.xe s
section
variable{X:Cx}{a b:Expr}{ta tb:TE}{pos:Pos}
def TN(hr:Sw X r)(ha:PE X a ta)(hb:PE X b tb)(hs:DF b):PE X (.Subscript a b pos) (WA r ta tb):=by
 k_go;erw[Subscript_ (OO ha hb I h λv u s2 x y H2 I2 rx ry q=>hr a b pZ s2 σ H2 x y v u Q I2 rx ry q (hs _ _))]
abbrev XR(K:aH):R2:=λx y H Q=>∃p xs i v,x=.ref p/\y=.int i/\iy K H p xs/\O9 xs i=ξ v/\Q v H
abbrev XS(K:aH):R2:=λx y H Q=>∃p xs i v,x=.ref p/\y=.int i/\nB K H p xs/\O9 xs i=ξ v/\Q v H
abbrev XT:R2:=λx y H Q=>∃z i c,x=.str z/\y=.int i/\z.length<=sizeLine/\O9 z.cps.toList i=ξ c/\Q (.str #[(List.toArray [c])]) H
def DG:Sw X (XR X.K):=by
 intro value slice pZ s σ H x y v u Q I rx ry h hs;let#[p,xs,i,z,rfl,rfl,hq,he,q]:=h;cases rx;let#[t,rfl]:=ry;let#[its,r,pl,hz]:=I.list hq;let#[j,h1,h2,h3,h4,h5]:=yF he;let#[w,ew,rw']:=r.get h2;have hl:=r.length;have hn:=qd;have fin:EP X pZ σ Q w s:=#[z,H,I,rw',q]
 by_cases h0:0<=i
 .have hj:i.toNat=j:=by
   rw[Kt h0 h5] at h1;erw[aG h1]
  exact item_listR pl.isList h0 ∅ (by rw[hj];simpa using ew) fin hs
 .have hj:(i+(its.toArray.size:Int)).toNat=j:=by
   rw[Gy ∅ h4] at h1;rw[aI,<-hl]
   erw[aG h1]
  exact Gz (x:=w) pl.isList.typeIs slot_list_getitem.lookup
   (wpAny_getItem_list_neg (Q:=λr s'=>r=w/\EP X pZ σ Q r s') pl.isList ∅ (by rw[aI]<;>omega) ∅ (by rw[hj];simpa using ew) #[rfl,fin]) hs
def Pa:Sw X (XS X.K):=by
 intro value slice pZ s σ H x y v u Q I rx ry h hs;let#[p,xs,i,z,rfl,rfl,hq,he,q]:=h;cases rx;let#[t,rfl]:=ry;let#[its,r,pl,hz]:=I.tuple hq;let#[j,h1,h2,h3,h4,h5]:=yF he;let#[w,ew,rw']:=r.get h2;have hl:=r.length;have hn:=qd;have fin:EP X pZ σ Q w s:=#[z,H,I,rw',q]
 exact Gz (x:=w) pl.typeIs slot_tuple_getitem.lookup
  (getItem_tuple (j:=j) (Q:=λr s'=>r=w/\EP X pZ σ Q r s') pl ∅ ∅ (by rw[aI,<-hl];erw[h1]) (~~~ew) #[rfl,fin]) hs
def Pb:Sw X XT:=by
 intro value slice pZ s σ H x y v u Q I rx ry h hs;let#[z,i,c,rfl,rfl,hz,he,q]:=h;let#[t,rfl]:=rx;let#[t',rfl]:=ry;let#[j,h1,h2,h3,h4,h5]:=yF he;have hl:z.cps.toList.length=z.length:=by simp[Str.length]
 rw[hl] at h1 h4 h5;have hn:=qd;exact tail_any (typeIs_str s z t) slot_str_getitem.lookup (getItem_str (c:=c) (by
  have e1:decide (i < -(2^63:Int))=ϑ:=decide_eq_false ∅;have e2:decide (i≥2^63)=ϑ:=decide_eq_false ∅;rw[e1,e2,Bool.or_false]) (by rw[h1];simpa using h2) #[.str #[(List.toArray [c])],H,I.tok _,#[_,rfl],q]) hs
def B5(its:List Value)(n j:Nat)(u:Value):rL (·.setIfInBounds j u) {cls:=.type "list",data:=.seq its.toArray n}= {cls:=.type "list",data:=.seq (its.set j u).toArray n}:=by
 simp[rL]
def Inv.lst{pZ:List (Addr×Obj)}{σ:St}{H:Hp}{s:av}{p:Addr}{xs:List V}(I:Inv X pZ σ H s)(h:H p=ξ (.lst xs)):
  ∃(its:List Value)(n:Nat),Vals xs its/\s.heap.get? p=ξ {cls:=.type "list",data:=.seq its.toArray n}/\xs.length<=sizeLine:=by
 let#[z,its,n,r,e]:=I.ck p _ h;exact#[its,n,r,e,z]
def Inv.Pc{pZ:List (Addr×Obj)}{σ:St}{H:Hp}{s:av}{p:Addr}{xs ys:List V}{its its':List Value}{n n':Nat}{f:Obj->Obj}(I:Inv X pZ σ H s)(h:H p=ξ (.lst xs))
  (ho:s.heap.get? p=ξ {cls:=.type "list",data:=.seq its.toArray n}) (hf:f {cls:=.type "list",data:=.seq its.toArray n}= {cls:=.type "list",data:=.seq its'.toArray n'}) (r:Vals ys its') (hz:ys.length<=sizeLine) (t:Nat):
  Inv X pZ σ (upd H p (.lst ys)) {s with heap:=s.heap.update p f,toks:=t}:=by
 have e:(s.heap.update p f).get? p=ξ {cls:=.type "list",data:=.seq its'.toArray n'}:=by
  rw[bA f ho (by rw[hf]<;>rfl),hf]
 rwa[I.write (x:=p) (e:=p) (by rw[h];trivial) (.inl rfl) (λb u hb q=>(nU _ _ (bI hb)).trans q) #[_,e] ?_];exact#[hz,its',n',r,e]
abbrev TQ:V->V->V->Hp->(Hp->Prop)->Prop:=λo i v H Q=>∃p xs k j,o=.ref p/\i=.int k/\H p=ξ (.lst xs)/\O8 xs.length k=ξ j/\Q (upd H p (.lst (xs.set j v)))
def set_list:Td X TQ:=by
 intro pZ s σ H o i v ov iv u Q I ro ri rv h;let#[p,xs,k,j,rfl,rfl,hp,hj,q]:=h;cases ro;let#[t,rfl]:=ri;let#[its,n,r,ho,hz]:=I.lst hp;let#[h1,h2,h3,h4]:=DE hj;have hl:=r.length;have hn:=qd;have I':Inv X pZ σ (upd H p (.lst (xs.set j v))) {s with heap:=s.heap.update p (rL (·.setIfInBounds j u))}:=
  I.Pc hp ho (B5 its n j u) (r.set rv j) (%[bR|hz]) s.toks
 by_cases h0:0<=k
 .have hk:k.toNat=j:=by
   rw[Kt h0 h4] at h1;erw[aG h1]
  erw[PySem.W.ki_setAt ho h0 ∅ (by rw[aI,<-hl];exact h4) (by rw[hk];exact#[_,I',q])]
 .have hk:(k+(its.toArray.size:Int)).toNat=j:=by
   rw[Gy ∅ h3] at h1;rw[aI,<-hl]
   erw[aG h1]
  erw[PySem.W.ki_setBack ho ∅ (by rw[aI,<-hl];exact h3) ∅ (by rw[hk];exact#[_,I',q])]
def yG(lo hi:Option Int)(n:Nat):(lF lo hi ψ n).1=((HT.wk n 0 lo:Nat):Int)/\(lF lo hi ψ n).2.1=((HT.wk n n hi:Nat):Int)/\(lF lo hi ψ n).2.2=1:=by
 refine#[?_,?_,rfl]
 .cases lo with
  |none=>simp[lF,HT.wk]
  |some i=>
   dsimp[lF,HT.wk,jB,show(1:Int)>0 by decide,if_true];by_cases h:i<0
   .dsimp[h,if_true]<;>omega
   .dsimp[h,if_false]<;>omega
 .cases hi with
  |none=>simp[lF,HT.wk]
  |some i=>
   dsimp[lF,HT.wk,jB,show(1:Int)>0 by decide,if_true];by_cases h:i<0
   .dsimp[h,if_true]<;>omega
   .dsimp[h,if_false]<;>omega
def wm(its:List Value)(lo hi:Option Int):slicePick its.toArray lo hi ψ=((its.drop (HT.wk its.length 0 lo)).take (HT.wk its.length its.length hi-HT.wk its.length 0 lo)).toArray:=by
 let#[h1,h2,h3]:=yG lo hi its.toArray.size;unfold slicePick;rw[h1,h2,h3]
 dsimp[sliceRange_one,pick_run,aI]<;>rfl
abbrev XU(K:aH):V->Option Int->Option Int->Hp->VK->Prop:=λx lo hi H Q=>∃a xs,x=.ref a/\iy K H a xs/\∀p,H p=ψ->Q (.ref p) (upd H p (.lst (E7 xs lo hi)))
def Lf:WB X (XU X.K):=by
 intro pZ s σ H x v vl vu lo hi sl Q I rx hs pl pu h;let#[a,xs,rfl,hx,q]:=h;cases rx;let#[its,r,ht,hz]:=I.list hx;have hlen:=r.length;refine#["list",_,slot_list_getitem.lookup,ht.isList.typeIs,?_];refine wpAny_getItem_list_slice ht.isList hs pl pu .none (#v[]) ?_ (by rw[aI]<;>omega);rw[wm,<-hlen]
 refine#[.ref s.heap.objs.size,_,I.laid (t':=s.toks) (o:=.lst (E7 xs lo hi)) (λb ob q=>az _ q) (ar _) ?_,rfl,q _ (I.ck.fresh (ar _))];exact#[aP (Ab xs lo hi) hz,_,0,(r.drop (HT.wk xs.length 0 lo)).take (HT.wk xs.length xs.length hi-HT.wk xs.length 0 lo),a3 _ rfl]
abbrev kR:V->Bool
 |.bK=>ζ
 |.bl _=>ζ
 |.int _=>ζ
 |.str _=>ζ
 |_=>ϑ
abbrev Bu:V->V->Bool
 |.bK,.bK=>ζ
 |.bl a,.bl b=>a==b
 |.bl a,.int b=>(if a then 1 else 0)== b
 |.int a,.bl b=>a==(if b then 1 else 0)
 |.int a,.int b=>a==b
 |.str a,.str b=>a==b
 |_,_=>ϑ
def Pd(ry:RelV y u)(rx:RelV x v)(fy:kR y=ζ)(fx:kR x=ζ):qC A s u v (Bu y x):=by
 cases y with
 |bK=>
  cases ry;cases x with
  |bK=>cases rx;erw[jA _]
  |bl b=>cases rx;erw[wG b]
  |int b=>let#[t,rfl]:=rx;erw[nN b t]
  |str b=>let#[t,rfl]:=rx;erw[nO b t]
  |_=>erw[absurd (show ϑ=ζ from fx) aY]
 |bl a=>
  cases ry;cases x with
  |bK=>cases rx;erw[wH a]
  |bl b=>cases rx;erw[wI a b]
  |int b=>let#[t,rfl]:=rx;erw[yo a b t]
  |str b=>let#[t,rfl]:=rx;erw[yp a b t]
  |_=>erw[absurd (show ϑ=ζ from fx) aY]
 |int a=>
  let#[t',rfl]:=ry;cases x with
  |bK=>cases rx;erw[nL a t']
  |bl b=>cases rx;erw[yq a t' b]
  |int b=>let#[t,rfl]:=rx;erw[zF a t' b t]
  |str b=>let#[t,rfl]:=rx;erw[oI a t' b t]
  |_=>erw[absurd (show ϑ=ζ from fx) aY]
 |str a=>
  let#[t',rfl]:=ry;cases x with
  |bK=>cases rx;erw[nM a t']
  |bl b=>cases rx;erw[yr a t' b]
  |int b=>let#[t,rfl]:=rx;erw[oJ a t' b t]
  |str b=>let#[t,rfl]:=rx;erw[oK a t' b t]
  |_=>erw[absurd (show ϑ=ζ from fx) aY]
 |_=>erw[absurd (show ϑ=ζ from fy) aY]
abbrev vS(x:V)(u:Value):Bool:=match u with
 |.none=>Bu .bK x
 |.bool b=>Bu (.bl b) x
 |.int i _=>Bu (.int i) x
 |.str z _=>Bu (.str z) x
 |_=>ϑ
def B6(r:RelV y u)(f:kR y=ζ):vS x u=Bu y x:=by
 cases y with
 |bK=>cases r;rfl
 |bl b=>cases r;rfl
 |int i=>let#[t,rfl]:=r;rfl
 |str z=>let#[t,rfl]:=r;rfl
 |_=>erw[absurd (show ϑ=ζ from f) aY]
def qJ:∀{xs:List V}{us:List Value},Vals xs us->xs.all kR=ζ->us.any (vS x)=xs.any λy=>Bu y x
 |_,_,.nil,_=>rfl
 |y::xs,u::us,.cons r t,f=>by
  rw[bH,aw] at f;rw[dQ,dQ,B6 r f.1,qJ t f.2]
def kS(rx:RelV x v)(fx:kR x=ζ):∀{xs:List V}{us:List Value},Vals xs us->xs.all kR=ζ->∀u∈us,qC A s u v (vS x u)
 |_,_,.nil,_=>λu hu=>by cases hu
 |y::xs,u::us,.cons r t,f=>λu' hu=>by
  rw[bH,aw] at f;rcases aW.mp hu with rfl|hu
  .rw[B6 r f.1];erw[Pd r rx f.1 fx]
  .erw[kS rx fx t f.2 u' hu]
abbrev WC(x:V)(xs:List V):Bool:=xs.any λy=>Bu y x
abbrev ZG(K:aH)(neg:Bool):R2:=λx y H Q=>∃p xs,y=.ref p/\(iy K H p xs\/nB K H p xs)/\kR x=ζ/\xs.all kR=ζ/\Q (.bl (if neg then !WC x xs else WC x xs)) H
def xt:hJ X (bB .In) (ZG X.K ϑ):=by
 x_go;let#[p,xs,rfl,hq,fx,fs,q]:=h;cases ry;rcases hq with hq|hq
 .let#[its,r,pl,hz]:=I.list hq
  refine SeqAt.in_listAt (vS x) pl.isList (λw hw=>kS rx fx r fs w (~~~hw)) #[.bl _,H,I,rfl,?_];rw[show its.toArray.any (vS x)=its.any (vS x) by simp,qJ r fs]
  erw[q]
 .let#[its,r,pl,hz]:=I.tuple hq
  refine SeqAt.in_tupleAt (vS x) pl (λw hw=>kS rx fx r fs w (~~~hw)) #[.bl _,H,I,rfl,?_];rw[show its.toArray.any (vS x)=its.any (vS x) by simp,qJ r fs]
  erw[q]
def qK:hJ X (bB .NotIn) (ZG X.K ζ):=by
 x_go;let#[p,xs,rfl,hq,fx,fs,q]:=h;cases ry;rcases hq with hq|hq
 .let#[its,r,pl,hz]:=I.list hq
  refine SeqAt.notIn_listAt (vS x) pl.isList (λw hw=>kS rx fx r fs w (~~~hw)) #[.bl _,H,I,rfl,?_];rw[show its.toArray.any (vS x)=its.any (vS x) by simp,qJ r fs]
  erw[q]
 .let#[its,r,pl,hz]:=I.tuple hq
  refine SeqAt.notIn_tupleAt (vS x) pl (λw hw=>kS rx fx r fs w (~~~hw)) #[.bl _,H,I,rfl,?_];rw[show its.toArray.any (vS x)=its.any (vS x) by simp,qJ r fs]
  erw[q]
def yH:hJ X (bB .NotIn) (λx y H Q=>∃i j,x=.str i/\y=.str j/\Q (.bl (!(!(Builtin.Str.occurrences j i 0 j.length 1).isEmpty))) H):=by
 x_go;let#[i,j,rfl,rfl,q]:=h;let#[t,rfl]:=rx;let#[t',rfl]:=ry;erw[notIn_str #[.bl _,H,I,rfl,q]]
def qL:iT X (.type "list") (λxs H Q=>∃p ys,xs=[.ref p]/\(iy X.K H p ys\/nB X.K H p ys)/\∀l,H l=ψ->Q (.ref l) (upd H l (.lst ys))):=by
 k_ne;let#[p,ys,rfl,hq,q]:=h;let#[u,rfl,rx]:=vals1 r;cases rx;have fin:∀(its:List Value),Vals ys its->ys.length<=sizeLine->∀(h':Heap)(c':Nat),(∀b o',s.heap.get? b=ξ o'->h'.get? b=ξ o') ->
   h'.get? s.heap.objs.size=ξ {cls:=.type "list",dict:=ψ,data:=.seq its.toArray c',slots:=#[]}->EP X pZ σ Q (.ref s.heap.objs.size) {s with heap:=h'}:=λits r' hz h' c' kp e=>
  #[.ref s.heap.objs.size,_,I.laid (t':=s.toks) kp (ar _) (show c9 X.prog X.w _ h' _ (.lst ys) from #[hz,its,c',r',e]),rfl,q _ (I.ck.fresh (ar _))]
 rcases hq with hq|hq
 .let#[its,r',pl,hz]:=I.list hq
  have hlen:=r'.length;let#[o,ho,hc,n,hd]:=pl.isList;exact call_list_seq p (.inl rfl) ho hc hd (λh' c' kp e=>fin its r' hz h' c' kp e) (by dsimp[aI]<;>omega)
 .let#[its,r',pl,hz]:=I.tuple hq
  have hlen:=r'.length;let#[o,ho,hc,n,hd]:=pl;exact call_list_seq p (.inr rfl) ho hc hd (λh' c' kp e=>fin its r' hz h' c' kp e) (by dsimp[aI]<;>omega)
def wo:iT X (.type "tuple") (λxs H Q=>∃p ys,xs=[.ref p]/\((iy X.K H p ys/\∀l,H l=ψ->Q (.ref l) (upd H l (.tup ys)))\/(nB X.K H p ys/\Q (.ref p) H))):=by
 k_ne;let#[p,ys,rfl,h]:=h;let#[u,rfl,rx]:=vals1 r;cases rx;rcases h with⟨hq,q⟩|⟨hq,q⟩
 .let#[its,r',pl,hz]:=I.list hq
  have hlen:=r'.length;refine call_tuple_list pl.isList (λh' kp=>?_) (by dsimp[aI]<;>omega);have I1:Inv X pZ σ H {s with heap:=h'}:=I.kept (t':=s.toks) kp;have I2:Inv X pZ σ (upd H h'.objs.size (.tup ys)) {s with heap:=h'.push {cls:=.type "tuple",data:=.seq its.toArray} }:=
   I1.laid (t':=s.toks) (λb o e=>az _ e) (ar _) (show c9 X.prog X.w _ _ _ (.tup ys) from #[hz,its,r',zZ.new _ _])
  exact#[.ref h'.objs.size,_,I2,rfl,q _ (I1.ck.fresh (ar _))]
 .let#[its,r',pl,hz]:=I.tuple hq
  erw[call_tuple_same pl #[.ref p,H,I,rfl,q]]
abbrev WD(K:aH)(T:String)(x:V)(H:Hp):Prop:=match x with
 |.str _=>T="str"
 |.int _=>T="int"
 |.ref p=>(T="list"/\∃xs,iy K H p xs)\/(T="tuple"/\∃xs,H p=ξ (.tup xs)) \/
   (T="dict"/\((∃kvs,H p=ξ (.dK kvs))\/(∃kvs,H p=ξ (.dT kvs))\/∃kvs,H p=ξ (.dP kvs)))\/(T="set"/\∃S n,H p=ξ (.set S n))
 |_=>False
def He(I:Inv X pZ σ H s)(r:RelV x v)(ty:WD X.K T x H):
  s.TypeIs v T/\∀a,v=.ref a->∃ob,s.heap.get? a=ξ ob/\ob.dict=ψ:=by
 cases x with
 |str z=>
  let#[t,rfl]:=r;cases (show T="str" from ty);exact#[typeIs_str s z t,λ_ e=>nomatch e]
 |int i=>
  let#[t,rfl]:=r;cases (show T="int" from ty);exact#[typeIs_int s i t,λ_ e=>nomatch e]
 |ref p=>
  cases r;rcases ty with⟨rfl,xs,hq⟩|⟨rfl,xs,hk⟩|⟨rfl,hk⟩|⟨rfl,S,n,hk⟩
  .let#[its,_,pl,_]:=I.list hq
   refine#[pl.isList.typeIs,λa e=>?_];cases e;let#[o,n,e,c,hd,_]:=pl;exact#[o,e,hd]
  .let#[_,_,_,o,e,hc,_,hd]:=I.ck p _ hk
   refine#[#[o,e,hc],λa e2=>?_];cases e2;exact#[o,e,hd]
  .have z:∃o,s.heap.get? p=ξ o/\o.ExactDict:=by
    rcases hk with⟨kvs,hk⟩|⟨kvs,hk⟩|⟨kvs,hk⟩<;>(obtain⟨_,_,_,_,o,_,_,e,ex,_⟩:=I.ck p _ hk;exact#[o,e,ex])
   let#[o,e,ex]:=z;refine#[#[o,e,ex.1],λa e2=>?_];cases e2;exact#[o,e,ex.2.1]
  .let#[o,_,_,_,e,ex,_]:=I.ck p _ hk
   refine#[#[o,e,ex.1],λa e2=>?_];cases e2;exact#[o,e,ex.2.1]
 |_=>erw[aJ ty]
abbrev XW(K:aH)(T:String)(r:V->List V->Hp->VK->Prop)(to:TE):TE:=λσ H Q=>to σ H λx H1=>WD K T x H1/\r x [] H1 Q
abbrev ZH(K:aH)(T:String)(r:V->List V->Hp->VK->Prop)(to:TE)(t:TA):TE:=λσ H Q=>to σ H λx H1=>WD K T x H1/\t σ H1 λxs H2=>r x xs H2 Q
variable{o e:Expr}{es:List Expr}{to:TE}{t:TA}{name:Str}{apos cpos:Pos}{T id:String}{r:V->List V->Hp->VK->Prop}
def Hf(pa:PlainAttrs T)(slot:Slot T name id)(hty:typeOf (.builtin id)=pure (.type "method_descriptor"))(hm:Bt X id r)(ho:PE X o to)
  (hbase:gW o name X.env (eval o X.env)=eval o X.env:=by rfl) (hline:(apos.endLine==cpos.line)=ζ:=by rfl):PE X (.Call (.Attribute o name apos) [] [] cpos) (XW X.K T r to):=by
 k_go;rwa[wpAny_Call_method0_late hbase hline (dS (ho pZ s σ H _ I h) λv s1 h9=>?_)];let#[x,H1,I1,r1,ty,q1]:=h9;let#[h1,h2]:=He I1 r1 ty;exact#[T,id,pa,slot,hty,h1,h2,ji rfl (PySem.evalArgs_none (hm pZ s1 σ H1 x [] v [] Q I1 r1 .nil q1))]
def xv(pa:PlainAttrs T)(slot:Slot T name id)(hty:typeOf (.builtin id)=pure (.type "method_descriptor"))(hm:Bt X id r)(ho:PE X o to)(ha:PA X (e::es) t)
  (hbase:gW o name X.env (eval o X.env)=eval o X.env:=by rfl)
  (hfew:((hV cpos (bM (e::es) X.env)).all (λx=>!x.1)&&(backToKw cpos (jC [] X.env)).all (λx=>x.1.isSome)
   && decide ((e::es).length+([]:List p9).length+(if ([]:List p9).isEmpty then 0 else 1)<30))=ζ:=by rfl)
  (hline:(apos.endLine==cpos.line)=ζ:=by rfl) (hs:bM (e::es) X.env=(ϑ,eval e X.env)::bM es X.env:=by rfl) (hplain:(hV cpos (bM es X.env)).any (·.1)=ϑ:=by rfl):
  PE X (.Call (.Attribute o name apos) (e::es) [] cpos) (ZH X.K T r to t):=by
 k_go;refine wpAny_Call_method_late hbase hfew hline rfl (dS (ho pZ s σ H _ I h) λv s1 h9=>?_);let#[x,H1,I1,r1,ty,q1]:=h9;let#[h1,h2]:=He I1 r1 ty;refine#[T,id,pa,slot,hty,h1,h2,?_];have hA:=ha cpos pZ s1 σ H1 _ I1 q1;rw[hs] at hA ⊢;refine ji (by show(ϑ||(hV cpos (bM es X.env)).any (·.1))=ϑ;rw[hplain]<;>rfl) (pB ?_);refine dS hA λus s2 h9=>?_
 let#[vs,H2,I2,r2,q2]:=h9;erw[hm pZ s2 σ H2 x vs v us Q I2 r1 r2 q2]
end
abbrev ZI(X:Cx)(id:String)(r:V->List V->Hp->VK->Prop):Prop:=
 ∀(pZ:List (Addr×Obj))(s:av)(σ:St)(H:Hp)(x:V)(xs:List V)(v:Value)(us:List Value)(Q:VK),Inv X pZ σ H s->RelV x v->Vals xs us->r x xs H Q ->
  wpAny (aS X.prog X.w) X.A (call (.builtin id) (v::us)) (EP X pZ σ Q) X.xe s
def Vals.one:∀{x:V}{us:List Value},Vals [x] us->∃u,us=[u]/\RelV x u
 := by
 intro _ _ h;cases h with|cons r q=>cases q;exact#[_,rfl,r]
def Vals.two:∀{x y:V}{us:List Value},Vals [x,y] us->∃u v,us=[u,v]/\RelV x u/\RelV y v
 := by
 intro _ _ _ h;cases h with|cons r q=>cases q with|cons q q'=>cases q';exact#[_,_,rfl,r,q]
section
variable{X:Cx}{pZ:List (Addr×Obj)}{σ:St}{H:Hp}{s:av}{l b:Addr}{xs ys zs:List V}
def Inv.TR{its its':List Value}{n:Nat}{f:Array Value->Array Value}{t':Nat}(I:Inv X pZ σ H s)(hH:H l=ξ (.lst xs))
  (e:s.heap.get? l=ξ {cls:=.type "list",data:=.seq its.toArray n}) (hf:f its.toArray=its'.toArray) (hv:Vals ys its') (hz:ys.length<=sizeLine):
  Inv X pZ σ (upd H l (.lst ys)) {s with heap:=s.heap.update l (rL f),toks:=t'}:=by
 have q:=PySem.IsL.update e f;rw[hf] at q;rwa[I.write (x:=l) (e:=l) (%[hH|trivial]) (.inl rfl) (λb' u hb hu=>(nU s.heap (rL f) (bI hb)).trans hu) #[_,q] ?_];exact#[hz,its',_,hv,q]
def Inv.TU(I:Inv X pZ σ H s)(hv:Vals ys its)(hz:ys.length<=sizeLine):
  Inv X pZ σ (upd H s.heap.objs.size (.lst ys)) {s with heap:=s.heap.push {cls:=.type "list",data:=.seq its.toArray},toks:=t'}:=
 I.laid (λ_ _ q=>az _ q) (ar _) #[hz,its,0,hv,a3 _ rfl]
def Inv.fresh(I:Inv X pZ σ H s):H s.heap.objs.size=ψ:=I.ck.fresh (ar _)
def Inv.E8(I:Inv X pZ σ H s)(hH:H l=ξ (.lst xs)):xs.length<=sizeLine/\∃(its:List Value)(n:Nat),Vals xs its/\xs.length=its.length/\s.heap.get? l=ξ {cls:=.type "list",data:=.seq its.toArray n}:=by
 let#[z,its,n,r,e]:=I.ck l _ hH;exact#[z,its,n,r,r.length,e]
def Hg(h:n<=sizeLine):Builtin.List.listTooLong n=ϑ:=by
 unfold Builtin.List.listTooLong;erw[decide_eq_false ∅]
end
section
variable{X:Cx}
abbrev Lg:V->List V->Hp->VK->Prop:=λx vs H Q=>∃l xs y,x=.ref l/\vs=[y]/\H l=ξ (.lst xs)/\xs.length<sizeLine/\Q .bK (upd H l (.lst (xs++[y])))
def rV:ZI X "list.append" Lg:=by
 intro pZ s σ H x vs v us Q I rx rv h;let#[l,xs,y,rfl,rfl,hH,hz,q]:=h;cases rx;let#[u,rfl,ru]:=rv.one;let#[z,its,n,r,hl,e]:=I.E8 hH;rwa[uD F.slot_list_append #[_,e,rfl] F.entry_list_append (F.args_list_append_2 _ _) (PySem.list_append l its.toArray n u (by rw[aI];omega)) #[e,?_]];refine#[.bK,_,I.TR (its':=its++[u]) hH e (#v[]) (r.append (.cons ru .nil)) ?_,rfl,q];rw[aC,BH]
 omega
abbrev Lh:V->List V->Hp->VK->Prop:=λx vs H Q=>∃l b xs zs,x=.ref l/\vs=[.ref b]/\H l=ξ (.lst xs)/\H b=ξ (.lst zs)/\xs.length+zs.length<=sizeLine/\Q .bK (upd H l (.lst (xs++zs)))
def E9:ZI X "list.extend" Lh:=by
 intro pZ s σ H x vs v us Q I rx rv h;let#[l,b,xs,zs,rfl,rfl,hH,hB,hz,q]:=h;cases rx;let#[u,rfl,ru]:=rv.one;cases ru;let#[z,its,n,r,hl,e]:=I.E8 hH;let#[z2,its2,n2,r2,hl2,e2]:=I.E8 hB;have hsz:its.toArray.size+its2.toArray.size<=sizeLine:=by rw[aI,aI];omega
 have hlong:¬(!its.toArray.isEmpty&&Builtin.List.listTooLong (its.toArray.size+its2.toArray.size))=ζ:=by
  rw[Hg hsz,wJ]
  erw[aY]
 refine uD F.slot_list_extend #[_,e,rfl] F.entry_list_extend (F.args_list_extend_2 _ _)
  (AutoSeq1.list_extend_list_list_0 l its.toArray n b its2.toArray n2 hlong (by rw[aI];omega) ∅) #[e,e2,?_]
 refine#[.bK,_,I.TR (its':=its++its2) hH e (#v[]) (r.append r2) ?_,rfl,q];rw[aC]
 omega
abbrev XX:R2:=λx y H Q=>∃l b xs zs,x=.ref l/\y=.ref b/\H l=ξ (.lst xs)/\H b=ξ (.lst zs)/\xs.length+zs.length<=sizeLine/\∀p,H p=ψ->Q (.ref p) (upd H p (.lst (xs++zs)))
def Pe:hJ X (cF .Add) XX:=by
 x_go;let#[l,b,xs,zs,rfl,rfl,hH,hB,hz,q]:=h;cases rx;cases ry;let#[z,its,n,r,hl,e]:=I.E8 hH;let#[z2,its2,n2,r2,hl2,e2]:=I.E8 hB;rwa[PySem.P.add_list e e2 ?_ (by rw[aI,aI];omega)];have ea:its.toArray++its2.toArray=(its++its2).toArray:=by simp
 rw[ea]
 exact#[.ref _,_,I.TU (t':=s.toks) (r.append r2) (by rw[aC];omega),rfl,q _ I.fresh]
end
end L2
namespace ZJ
open PySem PySem.W PySem.Calls PyProof.Rows
def tK:∀(ns:List Int)(vs:List Value),WellAll P h vs (ns.map WData.int)->GB vs ns:=by
 intro ns;induction ns with
 |nil=>
  intro vs w;rw[jo] at w;cases w;erw[.nil]
 |cons n ns ih=>
  intro vs w;rw[aA] at w;cases w with
  |cons a b=>
   cases a;erw[.cons _ _ (ih _ b)]
def Fb{l:GD}{n:Nat}(hn:l.most=ξ n){P:Params}{h:Heap}{args:List WData}{vals:List Value}
  (hpre:l.row.toRowW.claim.pre args=ζ) (hwl:WellAll P h vals args):
  ∃a vs ns,vals=[aL a]/\args=[WData.list (ns.map WData.int)]/\h.get? a=ξ {cls:=.type "list",data:=.seq vs.toArray}/\GB vs ns/\ns.length<=n:=by
 have hsh:WShape.hasAll [] args [.list .int]=ζ:=(pre_splitW hpre).1;have hc:l.pre.holds [] {args:=args}= ζ:=(pre_splitW hpre).2;let#[d,r,rfl,h1,h2]:=hasAllW_cons hsh;obtain rfl:=hasAllW_nil h2;let#[xs,rfl,h3]:=hasW_list h1;let#[ns,rfl]:=items_int h3;have hlen:ns.length<=n:=by
  unfold OpenLaw.pre at hc;have h4:(WTm.not (.lt (.lit (.int (n:Int))) (.len (.arg 0)))).holds [] {args:=[.list (ns.map .int)]}= ζ:=by
   have h4:=(holds_andW hc).1;rw[hn] at h4;erw[h4]
  have h5:=condW_of h4 (w_not (w_lt w_lit (w_len_list (w_arg rfl))));rw[ah] at h5;rwa[jU λq=>?_]
  have q':(n:Int)<((ns.length:Nat):Int):=∅
  first
   | (rw[decide_eq_true q'] at h5;erw[absurd h5 ⋯])
   | (simp at h5;omega)
 cases hwl with
 |cons w1 w2=>
  cases w2;cases w1 with
  |list ho hall=>exact#[_,_,ns,rfl,rfl,ho,tK ns _ hall,hlen]
def Fc(l:GD)(args:List WData):l.row.toRowW.claim.post args (.bool ζ) args=ζ:=
 postW_of (r:=l.row.toRowW) (X:=(ζ==ζ))
  (show WShape.has [] (.bool ζ) .bool=ζ by first|rfl|decide|simp[WShape.has,WShape.arms,WShape.armsAll])
  (show(WTm.eq .res (.lit (.bool ζ))).value [] {args:=args,res:=ξ (.bool ζ),after:=args}= ξ (.bool (ζ==ζ)) from w_eq_bool (w_res rfl) w_lit) rfl
def Ac{l:GD}{n:Nat}{q:bj}{loose:List Str}{XP:(Str->Option Value)->Heap->Prop}{YP:bL->Heap->Prop}{d:DefRec}
  (hn:l.most=ξ n) (hdf:d.params.defaults=[])
  (call:∀(w:bL)(s₀ s₁:av)(mg mb:Str->Option Value)(fa:Addr)(o:Obj)(pm cd doc:Value)(a:Addr)(vs:List Value)(ns:List Int),
   Ground q loose [] XP w s₀ mg mb s₁.heap->YP w s₁.heap ->
   s₁.heap.get? fa=ξ o->o.data=.func (docDef d.name d.params d.body d.scope pm cd doc)->s₁.heap.CodeRec cd d.name->mg d.name=ξ (.ref fa) ->
   s₁.heap.get? a=ξ {cls:=.type "list",data:=.seq vs.toArray}->GB vs ns->ns.length<=n->s₁.gens = #[] ->
   nQ (aS l.prog w) wa (.call (.ref fa) #[[.ref a],[]]) (λr s'=>r=.ok (.ret (.bool ζ))/\OldK s₁.heap s'.heap/\s'.os=s₁.os/\nP s'.gens) s₁):
  WalkO q loose XP YP l.row.toRowW d [] (λf vs=>EH f vs):=by
 intro w s₀ s₁ mg mb G Y fa o pm cd doc dV kV ho hd hcd hD hmg hg args vals as hpre hlay hrd hwl hlo;obtain rfl:dV=.none:=Dflts.none hD hdf;obtain rfl:kV=.none:=Dflts.noKw hD;let#[a,vs,ns,rfl,rfl,hobj,hints,hlen]:=Fb hn hpre hwl;rwa[enter_call (jV (call w s₀ s₁ mg mb fa o pm cd doc a vs ns G Y ho (fd_plain hd) hcd hmg hobj hints hlen hg) λr s' hq=>?_)];let#[rfl,h2,h3,h4]:=hq;exact#[.inl #[.bool ζ,.bool ζ,[],rfl,λ_=>rfl,.bool ζ,Fc l _,λ_=>#[wK,λ_ hm=>(nomatch hm)]],h2,h3,h4]
end ZJ
namespace L2
open PySem PySem.Spec PyProof.Rows
def xw:∀{vs:List Value}{ns:List Int},GB vs ns->Vals (ns.map V.int) vs
 |_,_,.nil=>.nil
 |_,_,.cons n t h=>.cons #[t,rfl] (xw h)
abbrev Li(H:Hp):Prop:=∀b,H b=ψ\/∃o xs,H b=ξ (.pP o (.lst xs))
def Hh{P:bj}{w:bL}{K:aH}{mg mb:Str->Option Value}{CX:Hc}{k:Nat}{fa a:Addr}{fd:dv}{x:Str}{sp:Sp}{s₁:av}{vs:List Value}{ns:List Int}
  (KX:K.In s₁.heap) (hns:s₁.heap.Ns bw mg) (hb:s₁.heap.Ns BD mb) (hbb:∀x:Str,x≠"__name__"->mb x=jT x) (hlim:s₁.heap.NoLimit) (hg:s₁.gens = #[])
  (ha:s₁.heap.get? a=ξ {cls:=.type "list",data:=.seq vs.toArray}) (hi:GB vs ns) (hl:ns.length<=sizeLine) (hr:jj k wa)
  (F:∀base:Heap,K.In base->base.Ns bw mg->iz P w K mg base CX k fa fd [x] sp) (hbind:∀(s:av)(u:Value),Bk s fd #[[u],[]] [(x,u)])
  (hsp:∀H:Hp,Li H->iy K H a (ns.map V.int)->sp [.ref a] H (λv _=>v=.bl ζ) λ_ _ _=>False)
  (hCX:∀H e s',CX [] H s₁ (λ_ _ _=>False) e s'->False):
  nQ (aS P w) wa (.call (.ref fa) #[[.ref a],[]]) (λr s'=>r=.ok (.ret (.bool ζ))/\OldK s₁.heap s'.heap/\s'.os=s₁.os/\nP s'.gens) s₁:=by
 have rv:=xw hi;have lenV:=hi.length;have core:∀H:Hp,Li H->iy K H a (ns.map V.int)->mI P w H s₁.heap->(∀b,H b≠ψ->b=a)->(H a≠ψ->K.lookup a=ψ) ->
   nQ (aS P w) wa (.call (.ref fa) #[[.ref a],[]]) (λr s'=>r=.ok (.ret (.bool ζ))/\OldK s₁.heap s'.heap/\s'.os=s₁.os/\nP s'.gens) s₁:=by
  intro H hO hS ck hA hK;have fD:∀{b:Addr}{o:Obj},s₁.heap.get? b=ξ o->H b=ψ->(yB s₁.heap H).get? b=ξ o:=λe n=>GO e n
  have noA:∀{b:Addr}{o:Obj}{es:Array pC}{ep:Nat},s₁.heap.get? b=ξ o->o.data=.dict es ep->H b=ψ:=λ{b o es ep}e d=>by
   cases q:H b with
   |none=>rfl
   |some u=>
    have e':b=a:=hA b (by rw[q];simp);subst e';rw[ha] at e;cases e;have d':Data.seq vs.toArray _=Data.dict es ep:=d;cases d'
  have nsK:∀{b:Addr}{m:Str->Option Value},s₁.heap.Ns b m->(yB s₁.heap H).Ns b m:=λ{b m} ⟨o,es,ep,e,d,r⟩=>#[o,es,ep,fD e (noA e d),d,r]
  have hKb:K.In (yB s₁.heap H):=λb o e=>fD (KX b o e) (by
   cases q:H b with
   |none=>rfl
   |some u=>
    have e':b=a:=hA b (by rw[q];simp);subst e';rw[hK (by rw[q];simp)] at e;cases e)
  have hM:Mod K mg (yB s₁.heap H):=#[hKb,nsK hns,#[mb,nsK hb,hbb],let ⟨mc,h1,h2⟩:=hlim;#[mc,nsK h1,h2]]
  have e0:B4 P w K mg (yB s₁.heap H) wa [] s₁ H:=#[rfl,hM,λb o e=>KN e,BE (EW _ _),trivial,λb hb=>absurd (show b∈([]:List Addr) from hb) (#v[]),ck,.of_eq hg]
  rwa[jV ((F _ hKb (nsK hns)).run wa [] s₁ H #[[.ref a],[]] [.ref a] [.ref a] _ _ hr e0 (hbind s₁ (.ref a)) (.cons rfl .nil) (hsp H hO hS)) λr s' h=>?_]
  cases r with
  |error e=>exact(hCX H e s' h).elim
  |ok fl=>
   cases fl with
   |next=>erw[aJ h]
   |brk=>erw[aJ h]
   |cont=>erw[aJ h]
   |ret u=>
    let#[v,H',os,bare,un,hok',r',q]:=h;have q':v=.bl ζ:=q;subst q';obtain rfl:u=nG ζ:=r';refine#[rfl,OldK.of_keep λb o e=>?_,os,bare];cases q:H b with
    |none=>erw[un.keep b o e q (by intro z;exact absurd (show b∈([]:List Addr) from z) (#v[])) (#v[])]
    |some u=>
     rcases hO b with z|⟨ob,xs,z⟩
     .rw[q] at z;cases z
     .have z2:=un.wg b ob _ z
      let#[e1,_]:=ck b _ z;let#[e2,_]:=hok' b _ z2;rw[e] at e1;cases e1;erw[e2]
 cases hk:K.lookup a with
 |some o=>
  have e:=KX a o hk;rw[ha] at e;cases e;refine core (λ_=>ψ) (λ_=>.inl rfl) (.inr #[_,vs.toArray,_,hk,rfl,rfl,rfl,%[aI,lenV|hl],~~~rv]) (λb u z=>by have z':(ψ:Option HO)=ξ u:=z;cases z') (λb z=>absurd rfl z) λz=>absurd rfl z
 |none=>
  rwa[core (λb=>if b=a then ξ (.pP {cls:=.type "list",data:=.seq vs.toArray} (.lst (ns.map V.int))) else ψ) (λb=>?_) (.inl (.inr #[{cls:=.type "list",data:=.seq vs.toArray},if_pos rfl])) (λb u z=>?_) (λb z=>?_) λ_=>hk]
  .by_cases hb:b=a
   .erw[.inr #[_,_,if_pos hb]]
   .erw[.inl (if_neg hb)]
  .by_cases hb:b=a
   .have z':=(if_pos hb).symm.trans z
    cases z';subst hb;exact#[ha,%[ah|hl],vs,_,rv,ha]
   .have z':=(if_neg hb).symm.trans z
    cases z'
  .by_cases hb:b=a
   .erw[hb]
   .erw[absurd (if_neg hb) z]
def Lj{l:PySem.W.OpenLaw}{n k:Nat}{q:bj}{loose:List Str}{XP:(Str->Option Value)->Heap->Prop}{YP:bL->Heap->Prop}{d:DefRec}{K:Params->aH}{CX:bL->Hc}{sp:bL->Sp}{x:Str}
  (hn:l.most=ξ n) (hn2:n<=sizeLine) (hdf:d.params.defaults=[]) (hr:jj k wa)
  (hY:∀(w:bL)(h:Heap),YP w h->(K w.params).In h)
  (F:∀(w:bL)(mg:Str->Option Value)(fa:Addr)(h:Heap),(K w.params).In h->h.Ns bw mg->mg d.name=ξ (.ref fa) ->
   ∃fd:dv,(∀(s:av)(u:Value),Bk s fd #[[u],[]] [(x,u)]) /\
    ∀base:Heap,(K w.params).In base->base.Ns bw mg->iz l.prog w (K w.params) mg base (CX w) k fa fd [x] (sp w))
  (hsp:∀(w:bL)(H:Hp)(a:Addr)(ns:List Int),ns.length<=n->Li H->iy (K w.params) H a (ns.map V.int)->sp w [.ref a] H (λv _=>v=.bl ζ) λ_ _ _=>False)
  (hCX:∀(w:bL)(H:Hp)(s:av)(e:Value)(s':av),CX w [] H s (λ_ _ _=>False) e s'->False):
  PySem.W.WalkO q loose XP YP l.row.toRowW d [] (λf vs=>EH f vs):=by
 rwa[ZJ.Ac hn hdf λw s₀ s₁ mg mb fa o pm cd doc a vs ns G Y ho hd hcd hmg hobj hints hlen hg=>?_]
 have KX:=hY w _ Y;let#[fd,hb,hF]:=F w mg fa _ KX G.T.g hmg;erw[Hh KX G.T.g G.T.b G.T.builtins G.T.nolimit hg hobj hints (aP hlen hn2) hr hF hb (λH hO hS=>hsp w H a ns hlen hO hS) λH e s'=>hCX w H s₁ e s']
abbrev inClass(s:Stmt)(j:Nat):Stmt:=match s with
 |.ClassDef _ _ _ body _ _ _ _ _ _ _=>body.getD j (.Pass #[0,0,0,0])
 |_=>.Pass #[0,0,0,0]
abbrev ki(s:Stmt):Arguments:=match s with
 |.FunctionDef _ a _ _ _ _ _ _ _ _=>a
 |_=>{posonlyargs:=[],args:=[],vararg:=ψ,kwonlyargs:=[],kw_defaults:=[],kwarg:=ψ,defaults:=[]}
abbrev dI(s:Stmt):List Stmt:=match s with
 |.FunctionDef _ _ b _ _ _ _ _ _ _=>b
 |_=>[]
abbrev bf(s:Stmt):jh:=match s with
 |.FunctionDef _ _ _ _ _ _ sc _ _ _=>sc
 |_=>{kind:=.function,names:=[],isGenerator:=ϑ,isCoroutine:=ϑ}
structure Ad(K:aH)(x qual:Str)(st:Stmt)(f:Addr)(fd:dv):Prop where
 ex:∃(oc:Value)(od:Option Addr)(kV doc pm:Value)(an:Option Addr)(cdv ct:Value)(osl:Array (Option Value)),
  fd=kf x qual (ki st) (dI st) (bf st) .none kV doc pm an cdv ct/\K.lookup f=ξ #[oc,od,.func fd,osl]/\uC K cdv qual=ζ
 kp:n5 K (.ref f)=ζ
section
variable{P:bj}{w:bL}{K:aH}{mg:Str->Option Value}{base:Heap}
def Ad.binds{x qual:Str}{st:Stmt}{f:Addr}{fd:dv}{ps:List Str}(F:Ad K x qual st f fd)
  (h:∀(kV doc pm:Value)(an:Option Addr)(cdv ct:Value)(us:List Value),us.length=ps.length->BG (kf x qual (ki st) (dI st) (bf st) .none kV doc pm an cdv ct) #[us,[]]=pure (ps.zip us)):Binds K fd ps []:=by
 let#[oc,od,kV,doc,pm,an,cdv,ct,osl,rfl,lk,hcd]:=F.ex;erw[.all (h kV doc pm an cdv ct)]
def Hi{x qual:Str}{st:Stmt}{f:Addr}{oc:Value}{od an:Option Addr}{osl:Array (Option Value)}{kV doc pm cdv ct:Value}(l:K.lookup f=ξ #[oc,od,.func (kf x qual (ki st) (dI st) (bf st) .none kV doc pm an cdv ct),osl])
  (c:uC K cdv qual=ζ) (k:n5 K (.ref f)=ζ):Ad K x qual st f (kf x qual (ki st) (dI st) (bf st) .none kV doc pm an cdv ct):=#[#[oc,od,kV,doc,pm,an,cdv,ct,osl,rfl,l,c],k]
end
section
variable{κ:Type}[DecidableEq κ]
abbrev jk(kvs:List (κ×V))(k:κ):Option V:=(kvs.find? λkv=>decide (kv.1=k)).map (·.2)
abbrev putK(kvs:List (κ×V))(k:κ)(v:V):List (κ×V):=
 if (kvs.any λkv=>decide (kv.1=k))=ζ then kvs.map (λkv=>if kv.1=k then(kv.1,v) else kv) else kvs++[(k,v)]
def kU{p:κ×V}{r:List (κ×V)}{k:κ}(e:p.1=k):jk (p::r) k=ξ p.2:=by simp[jk,dH,e]
def kW{p:κ×V}{r:List (κ×V)}{k:κ}(e:¬p.1=k):jk (p::r) k=jk r k:=by simp[jk,dH,e]
def uT(k:κ):∀kvs:List (κ×V),(kvs.any λkv=>decide (kv.1=k))=(jk kvs k).isSome
 |[]=>rfl
 |p::r=>by
  rw[dQ]
  by_cases e:p.1=k
  .dsimp[kU e,decide_eq_true e,Bool.true_or,Dn]
  .rw[kW e,decide_eq_false e,Bool.false_or];erw[uT k r]
def ow(kvs:List (κ×V))(k:κ)(v:V):(putK kvs k v).length<=kvs.length+1:=by
 unfold putK;split
 .rw[ah];omega
 .rw[aC,a5,vQ];omega
def Ae{kvs:List (κ×V)}{k:κ}(v:V)(h:jk kvs k=ψ):putK kvs k v=kvs++[(k,v)]:=by
 unfold putK;rw[uT,h]
 erw[if_neg ⋯]
def kO.rW(r:kO o u):o.isSome=u.isSome:=by
 cases o with
 |none=>cases u with
  |none=>rfl
  |some _=>exact(show False from r).elim
 |some _=>cases u with
  |none=>exact(show False from r).elim
  |some _=>rfl
def kO.getD(r:kO o u)(rd:RelV d d'):RelV (o.getD d) (u.getD d'):=by
 cases o with
 |none=>cases u with
  |none=>erw[rd]
  |some _=>exact(show False from r).elim
 |some _=>cases u with
  |none=>exact(show False from r).elim
  |some _=>erw[r]
def KV.val{kvs:List (κ×V)}{vs:List (κ×Value)}(r:KV kvs vs)(k:κ):kO (jk kvs k) (lC vs k):=by
 unfold KV at r;induction r with
 |nil=>erw[bY]
 |@cons p q ps qs h t ih=>
  let#[h1,h2]:=h;by_cases e:p.1=k
  .have e':q.1=k:=h1.symm.trans e
   have b:lC (q::qs) k=ξ q.2:=by simp[lC,dH,e']
   rw[kU e,b];erw[h2]
  .have e':¬q.1=k:=λz=>e (h1.trans z)
   have b:lC (q::qs) k=lC qs k:=by simp[lC,dH,e']
   rw[kW e,b];erw[ih]
def KV.any(r:KV kvs vs)(k:κ):(kvs.any λkv=>decide (kv.1=k))=vs.any λkv=>decide (kv.1=k):=by
 unfold KV at r;induction r with
 |nil=>rfl
 |cons h t ih=>rw[dQ,dQ,ih,h.1]
def KV.Pf(r:KV kvs vs)(k:κ)(ry:RelV y u):
  KV (kvs.map λkv=>if kv.1=k then(kv.1,y) else kv) (vs.map λkv=>if kv.1=k then(kv.1,u) else kv):=by
 unfold KV at r ⊢;induction r with
 |nil=>erw[.nil]
 |@cons p q ps qs h t ih=>
  rw[aA,aA]
  rwa[.cons ?_ ih];let#[h1,h2]:=h;by_cases e:p.1=k
  .rw[if_pos e,if_pos (h1.symm.trans e)];exact#[h1,ry]
  .rw[if_neg e,if_neg (λz=>e (h1.trans z))];exact#[h1,h2]
def KV.put(r:KV kvs vs)(k:κ)(ry:RelV y u):KV (putK kvs k y) (uE vs k u):=by
 unfold putK uE;rw[r.any k]
 by_cases e:(vs.any λkv=>decide (kv.1=k))=ζ
 .rw[if_pos e,if_pos e];erw[r.Pf k ry]
 .rw[if_neg e,if_neg e];erw[Paired.snoc r #[rfl,ry]]
def KV.keys{kvs:List (κ×V)}{vs:List (κ×Value)}(r:KV kvs vs):kvs.map (·.1)=vs.map (·.1):=by
 unfold KV at r;induction r with
 |nil=>rfl
 |cons h t ih=>rw[aA,aA,ih,h.1]
def KV.length(r:KV kvs vs):kvs.length=vs.length:=Paired.length r
end
def qM(r:RelV (kV k) u):(cR P w).is k u=ζ:=by
 rcases k with i|_|x
 .let#[t,e]:=(show ∃t,u=jM i t from r);subst e;erw[zX P w i t]
 .cases (show u=bx from r);rfl
 .let#[t,e]:=(show ∃t,u=mJ x t from r);subst e;erw[zY P w x t]
def Pg(e:kV a=kV b):a=b:=by
 rcases a with i|_|x<;>rcases b with j|_|y<;>cases e<;>rfl
def xy:∀{ks:List Key}{us:List Value},Vals (ks.map kV) us->ItemsAre (cR P w) ks us
 |[],_,r=>by rw[jo] at r;cases r;erw[.nil]
 |k::ks,_,r=>by
  rw[aA] at r;cases r with
  |cons h t=>erw[.cons (qM h) (xy t)]
@[reducible]def KT(H:Hp):List (List Key×V)->List (List Key×Addr×Value)->Prop:=Paired λp q=>p.1=q.1/\H q.2.1=ξ (.tup (p.1.map kV))/\RelV p.2 q.2.2
def KT.val{H:Hp}{kvs:List (List Key×V)}{xs:List (List Key×Addr×Value)}(r:KT H kvs xs)(k:List Key):kO (jk kvs k) ((qt xs k).map (·.2)):=by
 induction r with
 |nil=>erw[bY]
 |@cons p q ps qs h t ih=>
  let#[h1,_,h2]:=h;by_cases e:p.1=k
  .have e':q.1=k:=h1.symm.trans e
   have b:qt (q::qs) k=ξ q.2:=by simp[qt,dH,e']
   rw[kU e,b];erw[h2]
  .have e':¬q.1=k:=λz=>e (h1.trans z)
   have b:qt (q::qs) k=qt qs k:=by simp[qt,dH,e']
   rw[kW e,b];erw[ih]
def KT.Pf(r:KT H kvs xs)(k:List Key)(ry:RelV y u):
  KT H (kvs.map λkv=>if kv.1=k then(kv.1,y) else kv) (xs.map (putAt k u)):=by
 induction r with
 |nil=>erw[.nil]
 |@cons p q ps qs h t ih=>
  rw[aA,aA]
  rwa[.cons ?_ ih];let#[h1,h2,h3]:=h;unfold putAt;by_cases e:p.1=k
  .rw[if_pos e,if_pos (h1.symm.trans e)];exact#[h1,h2,ry]
  .rw[if_neg e,if_neg (λz=>e (h1.trans z))];exact#[h1,h2,h3]
def KT.put(r:KT H kvs xs)(k:List Key)(hb:H b=ξ (.tup (k.map kV)))(ry:RelV y u):
  KT H (putK kvs k y) (storedH xs k b u):=by
 have e:(kvs.any λkv=>decide (kv.1=k))=(qt xs k).isSome:=by
  rw[uT,(r.val k).rW,EI]
 unfold putK storedH;rw[e]
 by_cases q:(qt xs k).isSome=ζ
 .rw[if_pos q,if_pos q];erw[r.Pf k ry]
 .rw[if_neg q,if_neg q];erw[Paired.snoc r #[rfl,hb,ry]]
def KT.keeps(r:KT H kvs xs)(ht:∀b ys,H b=ξ (.tup ys)->H' b=ξ (.tup ys)):KT H' kvs xs:=
 Paired.EV r λ_ _ z=>#[z.1,ht _ _ z.2.1,z.2.2]
section
variable{P:bj}{w:bL}{H:Hp}{h:Heap}{a:Addr}
def NJ(ok:mI P w H h)(e:Rd H a u):c9 P w H h a u:=e.ok ok
def sU(ok:mI P w H h)(e:Rd H a (.dK kvs)):kvs.length<=sizeLine/\(a==bV)=ϑ/\∃vs,KV kvs vs/\h.DictOf (cR P w) a vs:=
 show c9 P w H h a (.dK kvs) from NJ ok e
def Hj(ok:mI P w H h)(e:H a=ξ (.dK kvs)):kvs.length<=sizeLine/\(a==bV)=ϑ/\∃vs,KV kvs vs/\h.DictOf (cR P w) a vs:=sU ok (.inl e)
def qf(ok:mI P w H h)(e:H a=ξ (.tup (ks.map kV))):(mD (cR P w)).is h ks a:=by
 let#[_,its,r,o,h1,h2,#[n,h3],_]:=(show c9 P w H h a (.tup (ks.map kV)) from ok a _ e)
 exact#[o,its.toArray,n,h1,h2,h3,~~~(xy r)]
def uU(ok:mI P w H h)(e:Rd H a (.dT kvs)):kvs.length<=sizeLine/\(a==bV)=ϑ /\
  ∃xs,KT H kvs xs/\h.DictOfH (mD (cR P w)) a xs:=by
 let#[z,y,xs,r,o,es,ep,h1,h2,h3,h4,h5]:=(show c9 P w H h a (.dT kvs) from NJ ok e)
 refine#[z,y,xs,r,o,es,ep,h1,h2,h3,h4,λx hx=>?_,h5];have all:∀{l:List (List Key×V)}{m:List (List Key×Addr×Value)},KT H l m->∀x∈m,(mD (cR P w)).is h x.1 x.2.1:=by
  intro l m q;induction q with
  |nil=>intro x hx;erw[nomatch hx]
  |@cons p q ps qs hq t ih=>
   intro x hx;rcases aW.mp hx with e|hx
   .subst e
    erw[qf ok (by rw[<-hq.1];exact hq.2.1)]
   .erw[ih x hx]
 erw[all r x hx]
def DH(ok:mI P w H h)(e:H a=ξ (.dT kvs)):kvs.length<=sizeLine/\(a==bV)=ϑ /\
  ∃xs,KT H kvs xs/\h.DictOfH (mD (cR P w)) a xs:=uU ok (.inl e)
end
abbrev rX(H:Hp)(a:Addr)(y:V)(r:Option V):Prop:=
 (∃kvs k,Rd H a (.dK kvs)/\y=kV k/\r=jk kvs k)\/∃kvs k b,Rd H a (.dT kvs)/\y=.ref b/\H b=ξ (.tup (k.map kV))/\r=jk kvs k
abbrev TV(H:Hp)(a:Addr)(y v:V)(H':Hp):Prop:=
 (∃kvs k,H a=ξ (.dK kvs)/\y=kV k/\kvs.length<sizeLine/\H'=upd H a (.dK (putK kvs k v))) \/
 ∃kvs k b,H a=ξ (.dT kvs)/\y=.ref b/\H b=ξ (.tup (k.map kV))/\kvs.length<sizeLine/\H'=upd H a (.dT (putK kvs k v))
def rX.k{H:Hp}{a:Addr}{kvs:List (Key×V)}{k:Key}(e:H a=ξ (.dK kvs)):rX H a (kV k) (jk kvs k):=.inl #[kvs,k,.inl e,rfl,rfl]
section
variable{X:Cx}{pZ:List (Addr×Obj)}{σ:St}{H:Hp}{s:av}{a:Addr}{y v:V}{u r:Value}{o:Option V}{A:cf}{E:Value->av->Prop}
def Inv.big(I:Inv X pZ σ H s):bV<s.heap.objs.size:=by
 have h:bw<s.heap.objs.size:=(I.mod.glob.keeps I.bk).lt;erw[lG ⋯ h]
def Fd(hu:A.units+1<eF)(I:Inv X pZ σ H s)(g:rX H a y (ξ v))(ry:RelV y u)(h:∀w' s',Inv X pZ σ H s'->RelV v w'->Q w' s'):
  wpAny (aS X.prog X.w) A (sN (.ref a) u) Q E s:=by
 rcases g with⟨kvs,k,e,ey,l⟩|⟨kvs,k,b,e,ey,eb,l⟩
 .subst ey
  let#[z,hd,vs,rel,dd]:=sU I.ck e;let#[w',hw,rw']:=kO.some_of (v:=v) (o:=lC vs k) (%[l|rel.val k]);erw[wpAny_getItem_of (qM ry) dd.mapOf hw (h w' _ (I.tok _) rw')]
 .subst ey
  cases (show u=aL b from ry);let#[z,hd,xs,rel,dd]:=uU I.ck e;let#[w',hw,rw']:=kO.some_of (v:=v) (o:=(qt xs k).map (·.2)) (%[l|rel.val k]);let#[p,hp,hp2]:=aj.mp hw;rwa[wpAny_getItem_heap (gy hu) (qf I.ck eb) dd hp ?_];rw[hp2]
  erw[h w' _ (I.tok _) rw']
def Lk(hu:A.units+1<eF)(I:Inv X pZ σ H s)(g:rX H a y o)(ry:RelV y u)(h:∀s',Inv X pZ σ H s'->Q (.bool (!o.isSome)) s'):
  wpAny (aS X.prog X.w) A (bB .NotIn u (.ref a)) Q E s:=by
 rcases g with⟨kvs,k,e,ey,l⟩|⟨kvs,k,b,e,ey,eb,l⟩
 .subst ey
  let#[z,hd,vs,rel,dd]:=sU I.ck e;rwa[wpAny_notIn_of (qM ry) hd dd.mapOf ?_];rw[<-(rel.val k).rW,<-l]
  erw[h _ (I.tok _)]
 .subst ey
  cases (show u=aL b from ry);let#[z,hd,xs,rel,dd]:=uU I.ck e;rwa[wpAny_notIn_heap (gy hu) (qf I.ck eb) hd dd ?_];have q:=(rel.val k).rW;rw[EI] at q;rw[<-q,<-l]
  erw[h _ (I.tok _)]
def oS(I:Inv X pZ σ H s)(mu:Sv (H a))(hs:fS a s.heap h')(he:∃q,h'.get? a=ξ q)(new:c9 X.prog X.w (upd H a ob) h' a ob):
  Inv X pZ σ (upd H a ob) {s with heap:=h',toks:=t'}:=
 I.write (x:=a) (e:=a) mu (.inl rfl) (λb q hb z=>(hs.2 b hb).trans z) he new
def yI(z:kvs.length<=sizeLine)(hd:(a==bV)=ϑ)(rel:KV kvs vs)(dd:h'.DictOf (cR P w) a vs):
  c9 P w H' h' a (.dK kvs):=#[z,hd,vs,rel,dd]
def Fe(hu:A.units+1<eF)(I:Inv X pZ σ H s)(g:TV H a y v H')(ry:RelV y u)(rv:RelV v r)(h:∀s',Inv X pZ σ H' s'->Q () s'):
  wpAny (aS X.prog X.w) A (setItem (.ref a) u r) Q E s:=by
 rcases g with⟨kvs,k,e,ey,l,eH⟩|⟨kvs,k,b,e,ey,eb,l,eH⟩
 .subst ey eH
  let#[z,hd,vs,rel,dd]:=Hj I.ck e;have hz:vs.length<=sizeLine:=by rw[<-rel.length];erw[z]
  have hl:(putK kvs k v).length<=sizeLine:=by have:=ow kvs k v;omega
  rwa[wpAny_setItem_pairs (hsz:=hz) (qM ry) dd λh' dd' hs=>h _ ?_]
  have he:∃q,h'.get? a=ξ q:=let ⟨q,_,_,hq,_⟩:=dd';#[q,hq];erw[oS I (by rw[e];exact bY) hs he (yI hl hd (rel.put k rv) dd')]
 .subst ey eH
  cases (show u=aL b from ry);let#[z,hd,xs,rel,dd]:=DH I.ck e;have hz:xs.length<=sizeLine:=by rw[<-Paired.length rel];erw[z]
  have hl:(putK kvs k v).length<=sizeLine:=by have:=ow kvs k v;omega
  rwa[wpAny_setItem_heap (hsz:=hz) (gy hu) (qf I.ck eb) dd λh' dd' hs=>h _ ?_]
  let#[q,es,ep,hq,h2,h3,h4,_,h5]:=dd';rwa[oS I (%[e|bY]) hs #[q,hq] #[hl,hd,_,(rel.put k eb rv).keeps λc ys ec=>?_,q,es,ep,hq,h2,h3,h4,h5]];rw[a7 (SR ec e (λz=>nomatch z))]
  erw[ec]
end
section
variable{X:Cx}{pZ:List (Addr×Obj)}{σ:St}{H:Hp}{s:av}{a:Addr}{kvs:List (Key×V)}{k:Key}{u:Value}{A:cf}{E:Value->av->Prop}
def TX(I:Inv X pZ σ H s)(e:Rd H a (.dK kvs))(h:∀t s',Inv X pZ σ H s'->Q (.int kvs.length t) s'):wpAny (aS X.prog X.w) A (call (.builtin "len") [.ref a]) Q E s:=by
 let#[z,hd,vs,rel,dd]:=sU I.ck e;refine call_len_dict hd dd (by rw[<-rel.length];rw[gv] at z;omega) ?_;rw[<-rel.length]
 erw[h _ _ (I.tok _)]
end
abbrev TZ(i:Expr):Prop:=∀ov iv,zE i ϑ ov iv=operate [ov,iv] (sN ov iv)
def Ll{prog:bj}{w:bL}{A:cf}{E:Value->av->Prop}{s:av}{env:Env}{value slice:Expr}{pos:Pos}{T id:String}{Q:Value->av->Prop}
  (hl:pY (.type T) "__getitem__"=pure (ξ (.builtin id))) (hs:TZ slice)
  (h:wpAny (aS prog w) A (eval value env) (λo s₁=>wpAny (aS prog w) A (eval slice env) (λi s₂=>s₂.TypeIs o T/\wpAny (aS prog w) A (sN o i) Q E s₂) E s₁) E s):
  wpAny (aS prog w) A (eval (.Subscript value slice pos) env) Q E s:=by
 rwa[Subscript_ (bg h (λo s₁ h₁=>bg h₁ (λi s₂ h₂=>?_) λ_ _ x=>x) λ_ _ x=>x)];let#[hT,h₂]:=h₂;unfold EG;rwa[ae ?_];rw[getitemInPython_of_ne hT.not_modules]
 refine ae (zN hT hl ?_);have fin:wpAny (aS prog w) A (zE slice ϑ o i) (λr s₃=>wpAny (aS prog w) A (letTemporaryGo value o r>>=λ_=>pure r) Q E s₃) E s₂:=by
  rw[hs o i]
  erw[wpAny_operating (bg h₂ (λr s₃ h₃=>ae (wpAny_letTemporaryGo (ao h₃))) λ_ _ x=>x)]
 first
  |exact ao (ae fin)
  |exact ae (ao (ae fin))
  |exact ae fin
def Af(I:Inv X pZ σ H s)(g:rX H a y o):s.TypeIs (.ref a) "dict":=by
 rcases g with⟨kvs,k,e,_,_⟩|⟨kvs,k,b,e,_,_,_⟩
 .let#[_,_,vs,_,dd]:=sU I.ck e
  erw[dd.typeIs]
 .let#[_,_,xs,_,dd]:=uU I.ck e
  erw[dd.typeIs]
abbrev T1(td ty:TE):TE:=λσ H Q=>td σ H λx H1=>ty σ H1 λy H2=>∃a v,x=.ref a/\rX H2 a y (ξ v)/\Q v H2
abbrev T3(td ty tv:TE):TS:=λD σ H=>tv σ H λv H1=>td σ H1 λx H2=>ty σ H2 λy H3=>∃a H4,x=.ref a/\TV H3 a y v H4/\D.nx σ H4
section
variable{X:Cx}{o i e value:Expr}{pos pos' tpos:Pos}{td ty tv:TE}
def Lm(hu:X.A.units+1<eF)(ho:PE X o td)(hi:PE X i ty)(hs:TZ i):PE X (.Subscript o i pos) (T1 td ty):=by
 k_go;rwa[Ll PySem.F.slot_dict_getitem.lookup hs (dS (ho pZ s σ H _ I h) λu s1 h9=>?_)];let#[x,H1,I1,rx,q1]:=h9;rwa[dS (hi pZ s1 σ H1 _ I1 q1) λiv s2 h9=>?_]
 let#[y,H2,I2,ry,a,v,ex,g,q2]:=h9;subst ex;obtain rfl:u=aL a:=rx;exact#[Af I2 g,Fd hu I2 g ry λw' s3 I3 rw'=>#[v,H2,I3,rw',q2]]
def Ln(hu:X.A.units+1<eF)(ho:PE X o td)(hi:PE X i ty)(hv:PE X value tv)(hs:fV value (ξ (.Subscript o i pos')) pos.line X.env=pure ϑ):
  PS X (.Assign [.Subscript o i pos'] value pos) (T3 td ty tv):=by
 intro pZ s σ H D I h;rwa[wpAny_Assign_Subscript (dS (hv pZ s σ H _ I h) λr s1 h9=>?_) hs];let#[v,H1,I1,rv,q1]:=h9;rwa[dS (ho pZ s1 σ H1 _ I1 q1) λu s2 h9=>?_]
 let#[x,H2,I2,rx,q2]:=h9;rwa[dS (hi pZ s2 σ H2 _ I2 q2) λiv s3 h9=>?_]
 let#[y,H3,I3,ry,a,H4,ex,g,q3]:=h9;subst ex;obtain rfl:u=aL a:=rx;erw[Fe hu I3 g ry rv λs4 I4=>#[σ,H4,I4,q3]]
end
def Ag(h:Heap)(hb:bV<h.objs.size):c9 P w H (h.push {cls:=.type "dict",data:=.dict #[]}) h.objs.size (.dK []):=
 #[bC _,beq_eq_false_iff_ne.mpr (bI (a6 hb)),[],.nil,Bl h]
def Hk(h:Heap)(hb:bV<h.objs.size):c9 P w H (h.push {cls:=.type "dict",data:=.dict #[]}) h.objs.size (.dT []):=
 #[bC _,beq_eq_false_iff_ne.mpr (bI (a6 hb)),[],.nil,_,#[],0,a3 _ rfl,#[rfl,rfl,rfl],rfl,rfl,wL]
abbrev B7:List (TE×TE)->St->Hp->(List (V×V)->Hp->Prop)->Prop
 |[],_,H,Q=>Q [] H
 | (tk,tv)::r,σ,H,Q=>tk σ H λx H1=>tv σ H1 λy H2=>B7 r σ H2 λps H3=>Q ((x,y)::ps) H3
@[reducible]def VV:List (V×V)->List (Value×Value)->Prop:=Paired λp q=>RelV p.1 q.1/\RelV p.2 q.2
abbrev WG(X:Cx)(pos:Pos)(keys:List (Option Expr))(values:List Expr)(trs:List (TE×TE)):Prop:=
 ∀(pZ:List (Addr×Obj))(s:av)(σ:St)(H:Hp)(Q:List (V×V)->Hp->Prop),Inv X pZ σ H s->B7 trs σ H Q ->
  wpAny (aS X.prog X.w) X.A (evalPairs (pairTrees keys values X.env pos)) (λvs s'=>∃ps H',Inv X pZ σ H' s'/\VV ps vs/\Q ps H') X.xe s
def Lo:WG X pos [] [] []:=λpZ s σ H Q I h=>pairTrees_nil_walk #[[],H,I,.nil,h]
def Hl(hk:PE X k tk)(hv:PE X v tv)(hr:WG X pos ks vs trs):
  WG X pos (ξ k::ks) (v::vs) ((tk,tv)::trs):=λpZ s σ H Q I h=>
 pairTrees_cons_walk (dS (hk pZ s σ H _ I h) λu s1 #[x,H1,I1,rx,q1]=>dS (hv pZ s1 σ H1 _ I1 q1) λw2 s2 #[y,H2,I2,ry,q2]=>
  dS (hr pZ s2 σ H2 _ I2 q2) λws s3 #[ps,H3,I3,rel,q3]=>#[(x,y)::ps,H3,I3,.cons #[rx,ry] rel,q3])
abbrev uV(kvs more:List (Key×V)):List (Key×V):=more.foldl (λacc kv=>putK acc kv.1 kv.2) kvs
def KV.merge:∀{more:List (Key×V)}{rs:List (Key×Value)}{kvs:List (Key×V)}{vs:List (Key×Value)},KV more rs->KV kvs vs->KV (uV kvs more) (merged vs rs):=by
 intro more rs kvs vs r;unfold KV at r;induction r generalizing kvs vs with
 |nil=>intro q;erw[q]
 |@cons p q ps qs h t ih=>
  intro r0;have e:KV (putK kvs p.1 p.2) (uE vs q.1 q.2):=by
   have:=r0.put p.1 h.2;rw[<-h.1];erw[this]
  erw[ih e]
def pQ:∀(more kvs:List (Key×V)),(uV kvs more).length<=kvs.length+more.length
 |[],kvs=>by show kvs.length<=kvs.length+0;omega
 |p::r,kvs=>by
  have h1:=pQ r (putK kvs p.1 p.2);have h2:=ow kvs p.1 p.2;show(uV (putK kvs p.1 p.2) r).length<=_;rw[a5];omega
def uW:∀{kvs:List (Key×V)}{ws:List (Value×Value)},VV (kvs.map λkv=>(kV kv.1,kv.2)) ws->∃rs,Carries (cR P w) ws rs/\KV kvs rs
 |[],_,r=>by rw[jo] at r;cases r;exact#[[],bY,.nil]
 |p::kvs,_,r=>by
  rw[aA] at r;cases r with
  |@cons a b as bs h t=>
   let#[rs,c,q]:=uW (P:=P) (w:=w) t;let#[b1,b2]:=b;exact#[(p.1,b2)::rs,#[qM h.1,rfl,c],.cons #[rfl,h.2] q]
abbrev T4(trs:List (TE×TE)):TE:=λσ H Q=>∀p,H p=ψ->B7 trs σ (upd H p (.dK [])) λps H2=>H2 p=ξ (.dK [])/\∃kvs:List (Key×V),ps=kvs.map (λkv=>(kV kv.1,kv.2))/\kvs.length<=15/\Q (.ref p) (upd H2 p (.dK (uV [] kvs)))
def Lp(h:WG X pos keys values trs)(hall:keys.all (·.isSome)=ζ)(hl:keys.length=values.length)(h0:keys≠[])
  (h15:keys.length<=15):PE X (.Dict keys values pos) (T4 trs):=by
 intro pZ s σ H Q I q;have hn:=I.ck.fresh (ar s.heap.objs.size);have I1:=I.laid (a:=s.heap.objs.size) (o:=.dK []) (h':=s.heap.push {cls:=.type "dict",data:=.dict #[]}) (t':=s.toks) (λ_ _ q=>az _ q) (ar _) (Ag s.heap I.big);refine wpAny_Dict_walk (knd:=cR X.prog X.w) hall hl h0 h15 (dS (h pZ _ σ _ _ I1 (q _ hn)) λws s2 h9=>?_);let#[ps,H2,I2,rel,e,kvs,ep,lk,q2]:=h9;subst ep;let#[rs,c,rk]:=uW (P:=X.prog) (w:=X.w) rel;let#[z,hd,vs0,r0,dd]:=Hj I2.ck e;cases r0;refine#[rs,c,dd,λh' dd' hs=>#[.ref s.heap.objs.size,_,?_,rfl,q2]];have hz:(uV [] kvs).length<=sizeLine:=by
  have h1:=pQ kvs [];rw[vQ] at h1;rw[gv];omega
 have he:∃q,h'.get? s.heap.objs.size=ξ q:=let ⟨q,_,_,hq,_⟩:=dd';#[q,hq];erw[oS I2 (by rw[e];exact bY) hs he (yI hz hd (rk.merge .nil) dd')]
structure M1(X:Cx)(o:Expr)(m:Str)(apos:Pos)(e:Expr)(cpos:Pos):Prop where
 base:gW o m X.env (eval o X.env)=eval o X.env
 XY:((hV cpos (bM [e] X.env)).all (λx=>!x.1)&&(backToKw cpos (jC [] X.env)).all (λx=>x.1.isSome)
  && decide (([e]:List Expr).length+([]:List p9).length+(if ([]:List p9).isEmpty then 0 else 1)<30))=ζ
 line:(apos.endLine==cpos.line)=ζ
 trees:hV cpos (bM [e] X.env)= [(ϑ,eval e X.env)]
structure M2(X:Cx)(o:Expr)(m:Str)(apos:Pos)(e f:Expr)(cpos:Pos):Prop where
 base:gW o m X.env (eval o X.env)=eval o X.env
 XY:((hV cpos (bM [e,f] X.env)).all (λx=>!x.1)&&(backToKw cpos (jC [] X.env)).all (λx=>x.1.isSome)
  && decide (([e,f]:List Expr).length+([]:List p9).length+(if ([]:List p9).isEmpty then 0 else 1)<30))=ζ
 line:(apos.endLine==cpos.line)=ζ
 trees:hV cpos (bM [e,f] X.env)= [(ϑ,eval e X.env),(ϑ,eval f X.env)]
abbrev XZ(H:Hp)(a:Addr):Prop:=(∃kvs,Rd H a (.dK kvs))\/∃kvs,Rd H a (.dT kvs)
def Hm(I:Inv X pZ σ H s)(d:XZ H a):
  s.TypeIs (.ref a) "dict"/\(∀b,aL a=.ref b->∃ob,s.heap.get? b=ξ ob/\ob.dict=ψ)/\(a==bV)=ϑ:=by
 rcases d with⟨kvs,e⟩|⟨kvs,e⟩
 .let#[_,hd,vs,_,dd]:=sU I.ck e
  refine#[dd.typeIs,λb q=>?_,hd];cases q;let#[ob,_,_,h1,h2,_]:=dd;exact#[ob,h1,h2.2.1]
 .let#[_,hd,xs,_,dd]:=uU I.ck e
  refine#[dd.typeIs,λb q=>?_,hd];cases q;let#[ob,_,_,h1,h2,_]:=dd;exact#[ob,h1,h2.2.1]
section
variable{X:Cx}{pZ:List (Addr×Obj)}{σ:St}{H:Hp}{s:av}{a:Addr}{y d:V}{u r:Value}{o:Option V}{A:cf}{E:Value->av->Prop}
def Ph(hu:A.units+1<eF)(I:Inv X pZ σ H s)(g:rX H a y o)(ry:RelV y u)(h:∀w' s',Inv X pZ σ H s'->RelV (o.getD .bK) w'->Q w' s'):
  wpAny (aS X.prog X.w) A (call (.builtin "dict.get") [.ref a,u]) Q E s:=by
 rcases g with⟨kvs,k,e,ey,l⟩|⟨kvs,k,b,e,ey,eb,l⟩
 .subst ey
  let#[z,hd,vs,rel,dd]:=sU I.ck e;rwa[md dR dd.typeIs i7 (wN _ _) (meets_dict_get (cR X.prog X.w) a (qM ry) hd) #[_,dd.mapOf,h _ _ (I.tok _) ?_]];rw[l]
  exact(rel.val k).getD rfl
 .subst ey
  cases (show u=aL b from ry);let#[z,hd,xs,rel,dd]:=uU I.ck e;rwa[md dR dd.typeIs i7 (wN _ _) (meetsH_dict_get (mD (cR X.prog X.w)) a b hd) #[gy hu,k,xs,qf I.ck eb,dd,h _ _ (I.tok _) ?_]];rw[l]
  exact(rel.val k).getD rfl
def Pj(hu:A.units+1<eF)(I:Inv X pZ σ H s)(g:rX H a y o)(ry:RelV y u)(rd:RelV d r)(h:∀w' s',Inv X pZ σ H s'->RelV (o.getD d) w'->Q w' s'):
  wpAny (aS X.prog X.w) A (call (.builtin "dict.get") [.ref a,u,r]) Q E s:=by
 rcases g with⟨kvs,k,e,ey,l⟩|⟨kvs,k,b,e,ey,eb,l⟩
 .subst ey
  let#[z,hd,vs,rel,dd]:=sU I.ck e;rwa[md dR dd.typeIs i7 (wO _ _ _) (meets_dict_get_default (cR X.prog X.w) a (qM ry) hd r) #[_,dd.mapOf,h _ _ (I.tok _) ?_]];rw[l]
  exact(rel.val k).getD rd
 .subst ey
  cases (show u=aL b from ry);let#[z,hd,xs,rel,dd]:=uU I.ck e;rwa[md dR dd.typeIs i7 (wO _ _ _) (meetsH_dict_get_default (mD (cR X.prog X.w)) a b hd r) #[gy hu,k,xs,qf I.ck eb,dd,h _ _ (I.tok _) ?_]];rw[l]
  exact(rel.val k).getD rd
end
abbrev Pk(td ty:TE):TE:=λσ H Q=>td σ H λx H1=>∃a,x=.ref a/\XZ H1 a/\ty σ H1 λy H2=>∃o,rX H2 a y o/\Q (o.getD .bK) H2
abbrev Pl(td ty tx:TE):TE:=λσ H Q=>td σ H λx H1=>∃a,x=.ref a/\XZ H1 a/\ty σ H1 λy H2=>tx σ H2 λz H3=>∃o,rX H3 a y o/\Q (o.getD z) H3
section
variable{X:Cx}{o e f:Expr}{apos cpos:Pos}{td ty tx:TE}
def Hn(hu:X.A.units+1<eF)(ho:PE X o td)(he:PE X e ty)(m:M1 X o "get" apos e cpos):PE X (.Call (.Attribute o "get" apos) [e] [] cpos) (Pk td ty):=by
 k_go;rwa[wpAny_Call_method m.base m.XY m.line iS dR zG (dS (ho pZ s σ H _ I h) λu s1 h9=>?_)];let#[x,H1,I1,rx,a,ex,d,q1]:=h9;subst ex;obtain rfl:u=aL a:=rx;let#[t1,t2,_]:=Hm I1 d;refine#[t1,t2,?_];rw[m.trees]
 rwa[ji rfl (pB (lE (dS (he pZ s1 σ H1 _ I1 q1) λiv s2 h9=>?_)))];let#[y,H2,I2,ry,ov,g,q2]:=h9;rwa[rK ?_];erw[Ph hu I2 g ry λw' s3 I3 rw'=>#[_,H2,I3,rw',q2]]
def Ho(hu:X.A.units+1<eF)(ho:PE X o td)(he:PE X e ty)(hf:PE X f tx)(m:M2 X o "get" apos e f cpos):PE X (.Call (.Attribute o "get" apos) [e,f] [] cpos) (Pl td ty tx):=by
 k_go;rwa[wpAny_Call_method m.base m.XY m.line iS dR zG (dS (ho pZ s σ H _ I h) λu s1 h9=>?_)];let#[x,H1,I1,rx,a,ex,d,q1]:=h9;subst ex;obtain rfl:u=aL a:=rx;let#[t1,t2,_]:=Hm I1 d;refine#[t1,t2,?_];rw[m.trees]
 refine ji rfl (pB (lE (dS (he pZ s1 σ H1 _ I1 q1) λiv s2 #[y,H2,I2,ry,q2]=>
  lE (dS (hf pZ s2 σ H2 _ I2 q2) λfv s3 #[z,H3,I3,rz,ov,g,q3]=>rK ?_))))
 erw[Pj hu I3 g ry rz λw' s4 I4 rw'=>#[_,H3,I4,rw',q3]]
end
section
variable{X:Cx}
def Ff:iT X (.builtin "len") (λxs H Q=>∃a kvs,xs=[V.ref a]/\H a=ξ (.dK kvs)/\Q (.int kvs.length) H):=by
 k_ne;let#[a,kvs,rfl,ha,q]:=h;let#[u,rfl,ru]:=vals1 r;cases ru;erw[TX I (.inl ha) λt s' I'=>#[.int kvs.length,H,I',#[t,rfl],q]]
end
open PySem.W
section
variable{prog:bj}{w:bL}{K:Type}[DecidableEq K]{A:cf}{E:Value->av->Prop}{s:av}
def B8{knd:KeyKind prog w K}{d:Addr}{kvs:List (K×Value)}{k:K}{key v:Value}{Q:Value->av->Prop}(hkey:knd.is k key=ζ)(hm:s.heap.DictOf knd d kvs)(hsz:kvs.length<=sizeLine)
  (h1:∀x t',lC kvs k=ξ x->Q x {s with toks:=t'})
  (h2:∀h' t',lC kvs k=ψ->h'.DictOf knd d (uE kvs k v)->fS d s.heap h'->Q v {s with heap:=h',toks:=t'}):
  wpAny (aS prog w) A (iN d key v) Q E s:=by
 have mo:s.heap.MapOf knd d (lC kvs):=hm.mapOf;let#[o,es,ep,ho,hc,hd,hk,hp,hn]:=hm;let#[o',es',ep',ho',_,hd',_,hf]:=mo;obtain rfl:o=o':=aG (ho.symm.trans ho');rw[hd] at hd';injection hd' with e1 _
 subst e1;have hes:es.size<=sizeLine:=by
  have e1:=hp.length;have e2:es.toList.length=es.size:=by simp
  omega
 unfold iN;refine cu (ae (knd.pyHash hkey ?_));refine ae (wpAny_dictFind_of (s:={s with toks:=s.toks+1}) hkey ho hd hk ?_);have hidx:(es.findIdx? λe=>knd.is k e.key)=kvs.findIdx? λkv=>decide (kv.1=k):=by
  rw[<-hp.findIdx k];let#[l]:=es;simp
 have hv:lC kvs k=((es.findIdx? λe=>knd.is k e.key).bind λi=>es[i]?).map (·.val):=by
  rw[<-hf k,findBy_of_findIdx?]
  cases es.findIdx? λe=>knd.is k e.key<;>rfl
 cases hi:es.findIdx? λe=>knd.is k e.key with
 |some i=>
  rw[hi] at hv;refine ae (iq (s:={s with toks:=s.toks+1}) ho hd ?_);have hlt:i<es.size:=(Array.findIdx?_eq_some_iff_findIdx_eq.mp hi).1;have hv:lC kvs k=(es[i]?).map (·.val):=hv;rw[d8 hlt] at hv ⊢;erw[ae (pW (ao (h1 _ _ hv)))]
 |none=>
  rw[hi] at hv;have hnot:k∉kvs.map (·.1):=not_mem_of_findIdx_none (hidx▸hi);have hany:¬(kvs.any λkv=>decide (kv.1=k))=ζ:=by
   rw[Kb];rintro⟨kv,hkv,he⟩;erw[hnot (bO.mpr #[kv,hkv,of_decide_eq_true he])]
  refine ae (pW (ae (Ku (hz:=hes) (s:={s with toks:=s.toks+1}) ho hd (ao (h2 _ _ hv #[_,_,ep+1,bA _ ho (F9 (kg hd _)),
   hc.mapDictKeys _,kg hd _,hk.push hkey _,?_,?_] (d9 ..))))))
  .rw[uE,if_neg hany]
   have:=hp.append hkey (knd.hash k) v;let#[l]:=es;simpa using this
  .rw[uE,if_neg hany,aN,dE]
   refine#[hn,#v[],λa ha b hb=>?_];dsimp[aA,jo,aX] at hb;subst hb;erw[λe=>hnot (e▸ha)]
def xB{knd:HeapKind prog w K}{d a:Addr}{xs:List (K×Addr×Value)}{k:K}{v:Value}{Q:Value->av->Prop}(hu:knd.room A)(hkey:knd.is s.heap k a)(hm:s.heap.DictOfH knd d xs)(hsz:xs.length<=sizeLine)
  (h1:∀x t',(qt xs k).map (·.2)=ξ x->Q x {s with toks:=t'})
  (h2:∀h' t',qt xs k=ψ->h'.DictOfH knd d (xs++[(k,a,v)])->fS d s.heap h'->Q v {s with heap:=h',toks:=t'}):
  wpAny (aS prog w) A (iN d (.ref a) v) Q E s:=by
 let#[o,es,ep,ho,hc,hd,he,his,hn]:=hm;unfold iN;rwa[cu (ae (knd.pyHash hu hkey ?_))];refine ae (wpAny_dictFind_heap (s:={s with toks:=s.toks+knd.draws k}) hu hkey ho hd he his hn ?_ ?_)
 .intro hno
  have hnot:k∉xs.map (·.1):=not_mem_keys_of_get hno;refine ae (pW (ae (Ku (hz:=by have e:=zQ he;omega) (s:={s with toks:=s.toks+knd.draws k}) ho hd (ao (h2 _ _ (atKey_none_of_get hno) #[_,_,ep+1,bA _ ho (F9 (kg hd _)),
   hc.mapDictKeys _,kg hd _,?_,?_,?_] (d9 ..))))))
  .simp[he,BC]
  .intro x hx
   rcases aT.mp hx with hx|hx
   .erw[knd.keeps (his x hx) ho hd (d9 ..)]
   .dsimp[aX] at hx
    subst hx;erw[knd.keeps hkey ho hd (d9 ..)]
  .rw[aN,dE]
   refine#[hn,#v[],λx hx y hy=>?_];dsimp[aA,jo,aX] at hy;subst hy;erw[λe=>hnot (e▸hx)]
 .intro j p hj
  refine ae (iq (s:={s with toks:=s.toks+knd.draws k}) ho hd ?_);rw[entry_at he j,hj]
  erw[ae (pW (ao (h1 _ _ (by rw[atKey_of_get hn hj];rfl))))]
def rY(hT:s.TypeIs (.ref a) "dict")(hd:(a==bV)=ϑ)(h:wpAny (aS prog w) A.in1 (iN a u r) Q E s):
  wpAny (aS prog w) A (call (.builtin "dict.setdefault") [.ref a,u,r]) Q E s:=by
 refine md (S:=λA R s=>s.TypeIs (.ref a) "dict"/\wpAny (aS prog w) A.in1 (iN a u r) (λv s'=>R (.ok (.ret v)) s') (λe s'=>R (.error e) s') s)
  tH hT PySem.F.entry_dict_setdefault (PySem.F.args_dict_setdefault_3 _ _ _) (.of_wp λA R s h=>?_) #[hT,h]
 unfold Builtin.«dict.setdefault»;rwa[ae ?_];unfold Builtin.Dict.keyAndDefault;rwa[ae (qD h.1 (ao ?_))];show wpAny _ _ (if (a==bV)=ζ then _ else(iN a u r>>=_)) _ _ s;rw[if_neg (%[hd|aY])]
 erw[ae (bg h.2 (λv s' q=>ao #[v,rfl,q]) λ_ _ q=>q)]
end
section
variable{X:Cx}
@[reducible]def KP(H:Hp):List (rN×V)->List (rN×Addr×Value)->Prop:=Paired λp q=>p.1=q.1/\(∃c,H q.2.1=ξ (.tup [.int p.1.1,.ref c])/\H c=ξ (.tup (p.1.2.map .int)))/\RelV p.2 q.2.2
def Ah:∀{ks:List Int}{us:List Value},Vals (ks.map .int) us->ItemsAre (Bh P w) ks us
 |[],_,r=>by rw[jo] at r;cases r;erw[.nil]
 |k::ks,_,r=>by
  rw[aA] at r;cases r with
  |cons h t=>
   let#[t',e]:=h;erw[.cons (by rw[e];simp[Bh,By]) (Ah t)]
def DI(ok:mI P w H h)(e:H a=ξ (.tup [.int k.1,.ref c]))(e2:H c=ξ (.tup (k.2.map .int))):(qF P w).is h k a:=by
 let#[_,its,r,o,h1,h2,#[n,h3],_]:=(show c9 P w H h a (.tup [.int k.1,.ref c]) from ok a _ e)
 let#[_,jts,r',o',g1,g2,#[n',g3],_]:=(show c9 P w H h c (.tup (k.2.map .int)) from ok c _ e2)
 cases r with
 |cons r1 r2=>
  let#[t,e]:=r1;cases r2 with
  |cons r3 r4=>
   cases r4;cases (show _=aL c from r3);subst e;exact#[t,c,n,o,h1,h2,h3,o',jts.toArray,n',g1,g2,g3,~~~(Ah r')]
def NK(ok:mI P w H h)(e:H a=ξ (.dP kvs)):kvs.length<=sizeLine/\(a==bV)=ϑ /\
  ∃xs,KP H kvs xs/\h.DictOfH (qF P w) a xs:=by
 let#[z,y,xs,r,o,es,ep,h1,h2,h3,h4,h5]:=(show c9 P w H h a (.dP kvs) from ok a _ e)
 refine#[z,y,xs,r,o,es,ep,h1,h2,h3,h4,λx hx=>?_,h5];have all:∀{l:List (rN×V)}{m:List (rN×Addr×Value)},KP H l m->∀x∈m,(qF P w).is h x.1 x.2.1:=by
  intro l m q;induction q with
  |nil=>intro x hx;erw[nomatch hx]
  |@cons p q ps qs hq t ih=>
   intro x hx;rcases aW.mp hx with e|hx
   .subst e
    let#[e1,#[c,e2,e3],_]:=hq;rw[<-e1]
    erw[DI ok e2 e3]
   .erw[ih x hx]
 erw[all r x hx]
def KP.val(r:KP H kvs xs)(k:rN):kO (jk kvs k) ((qt xs k).map (·.2)):=by
 induction r with
 |nil=>erw[bY]
 |@cons p q ps qs hq t ih=>
  by_cases e:p.1=k
  .have e':q.1=k:=hq.1▸e
   rw[kU e]
   dsimp[qt,dH,e',decide_true];erw[hq.2.2]
  .have e':¬q.1=k:=hq.1▸e
   rw[kW e]
   simpa[qt,dH,e'] using ih
abbrev X0(H:Hp)(a:Addr)(y d r:V)(H':Hp):Prop:=
 (∃kvs k,H a=ξ (.dK kvs)/\y=kV k/\kvs.length<sizeLine/\((jk kvs k=ξ r/\H'=H)\/(jk kvs k=ψ/\r=d/\H'=upd H a (.dK (kvs++[(k,d)]))))) \/
 (∃kvs k b,H a=ξ (.dT kvs)/\y=.ref b/\H b=ξ (.tup (k.map kV))/\kvs.length<sizeLine/\((jk kvs k=ξ r/\H'=H)\/(jk kvs k=ψ/\r=d/\H'=upd H a (.dT (kvs++[(k,d)]))))) \/
 ∃kvs k b c,H a=ξ (.dP kvs)/\y=.ref b/\H b=ξ (.tup [.int k.1,.ref c])/\H c=ξ (.tup (k.2.map .int))/\kvs.length<sizeLine/\((jk kvs k=ξ r/\H'=H)\/(jk kvs k=ψ/\r=d/\H'=upd H a (.dP (kvs++[(k,d)]))))
def oy{α β:Type}{F:α->β->Prop}:∀{l:List α}{m:List β}{a:α}{b:β},Paired F l m->F a b->Paired F (l++[a]) (m++[b])
 |_,_,_,_,.nil,f=>.cons f .nil
 |_,_,_,_,.cons r t,f=>.cons r (oy t f)
def Lq(hu:X.A.units+2<eF):Bt X "dict.setdefault" (λx xs H Q=>∃a y d r H',x=.ref a/\xs=[y,d]/\X0 H a y d r H'/\Q r H'):=by
 intro pZ s σ H x xs v us Q I rx rs h;let#[a,y,d,r,H',rfl,rfl,g,q]:=h;let#[u,ud,rfl,ry,rd]:=rs.two;cases (show v=aL a from rx);rcases g with⟨kvs,k,e,rfl,l,g⟩|⟨kvs,k,b,e,rfl,eb,l,g⟩|⟨kvs,k,b,c,e,rfl,eb,ec,l,g⟩
 .let#[z,hd,vs,rel,dd]:=Hj I.ck e
  have rv:=rel.val k;rwa[rY dd.typeIs hd (B8 (qM ry) dd (by rw[<-rel.length];erw[z]) (λx t' hx=>?_) λh' t' hn dd' hs=>?_)]
  .rw[hx] at rv
   rcases g with⟨g1,rfl⟩|⟨g1,_⟩
   .rw[g1] at rv;exact#[r,H',I.tok _,rv,q]
   .rw[g1] at rv;erw[rv.elim]
  .rw[hn] at rv
   rcases g with⟨g1,rfl⟩|⟨g1,rfl,rfl⟩
   .rw[g1] at rv;erw[rv.elim]
   .have e2:putK kvs k r=kvs++[(k,r)]:=Ae r g1
    have he:∃q,h'.get? a=ξ q:=let ⟨q,_,_,hq,_⟩:=dd';#[q,hq];exact#[r,_,oS I (%[e|bY]) hs he (yI ((·)) hd (e2▸rel.put k rd) dd'),rd,q]
 .cases (show u=aL b from ry)
  let#[z,hd,ws,rel,dd]:=DH I.ck e;have rv:=rel.val k;rwa[rY dd.typeIs hd (xB (gy ∅) (qf I.ck eb) dd (by rw[<-Paired.length rel];erw[z]) (λx t' hx=>?_) λh' t' hn dd' hs=>?_)]
  .rw[hx] at rv
   rcases g with⟨g1,rfl⟩|⟨g1,_⟩
   .rw[g1] at rv;exact#[r,H',I.tok _,rv,q]
   .rw[g1] at rv;erw[rv.elim]
  .rw[hn] at rv
   rcases g with⟨g1,rfl⟩|⟨g1,rfl,rfl⟩
   .rw[g1] at rv;erw[rv.elim]
   .let#[o,es,ep,hq,h2,h3,h4,_,h5]:=dd'
    have nt:∀b ys,H b=ξ (.tup ys)->b≠a:=λb ys eq z=>by rw[z,e] at eq;cases eq
    refine#[r,upd H a (.dT (kvs++[(k,r)])),oS (ob:=.dT (kvs++[(k,r)])) I (%[e|bY]) hs #[o,hq] #[(·),hd,ws++[(k,b,ud)],oy (Paired.EV rel λp q z=>#[z.1,?_,z.2.2]) #[rfl,?_,rd],o,es,ep,hq,h2,h3,h4,h5],rd,q]
    .rw[a7 (nt _ _ z.2.1)];erw[z.2.1]
    .rw[a7 (nt _ _ eb)];erw[eb]
 .cases (show u=aL b from ry)
  let#[z,hd,ws,rel,dd]:=NK I.ck e;have rv:=rel.val k;rwa[rY dd.typeIs hd (xB (show X.A.in1.units+1<eF by dsimp[sM];omega) (DI I.ck eb ec) dd (by rw[<-Paired.length rel];erw[z]) (λx t' hx=>?_) λh' t' hn dd' hs=>?_)]
  .rw[hx] at rv
   rcases g with⟨g1,rfl⟩|⟨g1,_⟩
   .rw[g1] at rv;exact#[r,H',I.tok _,rv,q]
   .rw[g1] at rv;erw[rv.elim]
  .rw[hn] at rv
   rcases g with⟨g1,rfl⟩|⟨g1,rfl,rfl⟩
   .rw[g1] at rv;erw[rv.elim]
   .let#[o,es,ep,hq,h2,h3,h4,_,h5]:=dd'
    have nt:∀b ys,H b=ξ (.tup ys)->b≠a:=λb ys eq z=>by rw[z,e] at eq;cases eq
    refine#[r,upd H a (.dP (kvs++[(k,r)])),oS (ob:=.dP (kvs++[(k,r)])) I (%[e|bY]) hs #[o,hq] #[(·),hd,ws++[(k,b,ud)],oy (Paired.EV rel λp q z=>#[z.1,?_,z.2.2]) #[rfl,#[c,?_,?_],rd],o,es,ep,hq,h2,h3,h4,h5],rd,q]
    .let#[c,e1,e2]:=z.2.1
     exact#[c,%[a7 (nt _ _ e1)|e1],%[a7 (nt _ _ e2)|e2]]
    .rw[a7 (nt _ _ eb)];erw[eb]
    .rw[a7 (nt _ _ ec)];erw[ec]
end
def Pm(h:(cR P w).is k u=ζ):RelV (kV k) u:=by
 rcases fj h with⟨i,t,rfl,rfl⟩|⟨x,t,rfl,rfl⟩|⟨rfl,rfl⟩
 .exact#[t,rfl]
 .exact#[t,rfl]
 .rfl
abbrev Sx(a:Addr)(o:Obj)(kvs:List (Key×V)):It:=
 #[λi H=>H a=ξ (.pP o (.dK kvs))/\i<kvs.length,λi H x H'=>H'=H/\∃k v,kvs[i]?=ξ (k,v)/\x=kV k,λi H=>H a=ξ (.pP o (.dK kvs))/\kvs.length<=i]
def B9(ok:mI P w H h)(e:H a=ξ (.pP o (.dK kvs)))(hd:o.data=.dict es ep):
  (a==bV)=ϑ/\∃vs,KV kvs vs/\h.DictAt (cR P w) a vs ep:=by
 let#[ho,z,y,vs,rel,o',es',ep',h1,h2,h3,h4]:=(show c9 P w H h a (.pP o (.dK kvs)) from ok a _ e)
 rw[ho] at h1;cases h1;rw[hd] at h3;cases h3;exact#[y,vs,rel,o,es,ho,h2,hd,h4]
def Fg{P:bj}{w:bL}{K:aH}{tg:Expr}(a it:Addr){o:Obj}{es:Array pC}{ep:Nat}(hd:o.data=.dict es ep)(kvs:List (Key×V)):
  Turn P w K tg (Sx a o kvs) [it] it (λi h=>h.IsKeyIter it a i kvs.length ep) where
 mem:=by simp
 obj:=λi h st b hb=>by
  have e:b=it:=by simpa using hb
  subst e;let#[o,e,c,d]:=st;exact#[o,e,λv z=>by rw[d] at z;cases z]
 keep:=λi h h' st k=>by
  let#[o,e,r]:=st;exact#[o,k it (#v[]) o e,r]
 item:=by
  w_up;subst hP hw hK;let#[hq,hl]:=hg;let#[_,vs,rel,da]:=B9 I.ck hq hd;let#[f0,f1,f2,f3,f4,f5]:=hf it (#v[]);have hlen:=rel.length;have hk:=congrArg (λl=>l[i]?) rel.keys;dsimp[aE] at hk;let#[k,v]:=vs[i]'∅;have e1:vs[i]?=ξ vs[i]:=af ∅;have e2:kvs[i]?=ξ kvs[i]:=af hl;rw[e1,e2] at hk;have hk:kvs[i].1=vs[i].1:=aG hk;rw[hlen] at st;rwa[wpAny_pyNext_dict_item st da (k:=vs[i].1) (v:=vs[i].2) e1 λkey h' ik st' sb=>?_]
  have I1:Inv X pZ σ H {s with heap:=h'}:=I.turned (t':=s.toks) (λb o hb e=>(sb.2 b hb).trans e) f0 f1 f3 f4 f5;let#[o',e,c,d]:=id st';exact#[key,rfl,wZ (s:={s with heap:=h'}) e c d ⋯ #[kV vs[i].1,H,I1,Pm ik,#[rfl,vs[i].1,kvs[i].2,by rw[e2,<-hk],rfl],%[hlen|st'],λb hb=>(hf b hb).1]]
 done:=by
  w_up;subst hP hw hK;let#[hq,hl]:=hg;let#[_,vs,rel,da]:=B9 I.ck hq hd;let#[f0,f1,f2,f3,f4,f5]:=hf it (#v[]);have hlen:=rel.length;rw[hlen] at st;erw[wpAny_pyNext_dict_end (I.ok.hd hc) st da (dm ∅) λh' eb=>#[rfl,I.turned (t':=s.toks) (λb o hb e=>eb b o hb e) f0 f1 f3 f4 f5]]
 self:=λ_ _ _ _ _ st h=>wpAny_pyIter_keyiter st h
section
variable{X:Cx}
def Inv.freeze(I:Inv X pZ σ H s)(e:H a=ξ u)(mu:Sv (ξ u))(ho:s.heap.get? a=ξ o)(k:c9 X.prog X.w (upd H a (.pP o u)) s.heap a u):
  Inv X pZ σ (upd H a (.pP o u)) s:=
 I.write (x:=a) (e:=a) (h':=s.heap) (t':=s.toks) (%[e|mu]) (.inl rfl) (λb u _ q=>q) #[o,ho] #[ho,k]
abbrev T5(tl:TE):TI:=λσ H R=>tl σ H λx H1=>∃a kvs,x=.ref a/\((H1 a=ξ (.dK kvs)/\∀o,R (Sx a o kvs) (upd H1 a (.pP o (.dK kvs))))\/∃o,H1 a=ξ (.pP o (.dK kvs))/\R (Sx a o kvs) H1)
def Lr{tg l:Expr}{tl:TE}(hl:PE X l tl):PI X tg l (T5 tl):=by
 intro pZ s σ H R I h;rwa[dS (hl pZ s σ H _ I h) λv s1 h9=>?_]
 let#[x,H1,I1,r1,a,kvs,rfl,q]:=h9;cases (show v=aL a from r1);obtain⟨o,H2,I2,e2,q2⟩:∃o H2,Inv X pZ σ H2 s1/\H2 a=ξ (.pP o (.dK kvs))/\R (Sx a o kvs) H2:=by
  rcases q with⟨e,q⟩|⟨o,e,q⟩
  .have k:=(show c9 X.prog X.w H1 s1.heap a (.dK kvs) from I1.ck a _ e)
   let#[_,_,_,_,o,_,_,ho,_]:=id k;exact#[o,_,I1.freeze e bY ho k,a9,q o]
  .exact#[o,H1,I1,e,q]
 obtain⟨es,ep,hd⟩:∃es ep,o.data=.dict es ep:=by
  let#[ho,_,_,_,_,o',es,ep,h1,_,h3,_]:=(show c9 X.prog X.w H2 s1.heap a (.pP o (.dK kvs)) from I2.ck a _ e2)
  rw[ho] at h1;cases h1;exact#[es,ep,h3]
 let#[lo,vs,rel,da]:=B9 I2.ck e2 hd;rwa[wpAny_pyIter_dict lo da ?_];refine#[s1.heap.objs.size,[s1.heap.objs.size],_,Sx a o kvs,H2,rfl,I2.kept (t':=s1.toks) λb o e=>az _ e,Fg a _ hd kvs,#[_,a3 _ rfl,rfl,by rw[rel.length];rfl],λc hc=>?_,q2];have e:c=s1.heap.objs.size:=by simpa using hc
 subst e;erw[I2.z8 (ar _) (I2.ck.fresh (ar _))]
end
abbrev nW(h:Heap)(e:Addr)(c:Bool×Value)(dx:Option Addr):Option (Addr×Value)->Prop
 |none=>∃vs sl,h.get? e=ξ #[c.2,dx,.fields vs,sl]/\vs[1]?=ξ .none/\(c.1=ζ->vs[2]?=ξ .none/\4<vs.size)
 |some (T,fl)=>∃vs sl,h.get? e=ξ #[c.2,dx,.fields vs,sl]/\vs[1]?=ξ (.ref T)/\(c.1=ζ->vs[2]?=ξ .none/\4<vs.size)/\T≠e/\∃oT ts,h.get? T=ξ oT/\oT.data=.fields ts/\ts[3]?=ξ fl
def nW.obj(x:nW h e c dx tb):∃vs sl,h.get? e=ξ #[c.2,dx,.fields vs,sl]:=by
 cases tb with
 |none=>let#[vs,sl,a,_]:=x;exact#[vs,sl,a]
 |some p=>let#[vs,sl,a,_]:=x;exact#[vs,sl,a]
structure gC(fs ch:List Addr)(h h':Heap):Prop where
 keep:∀b o,h.get? b=ξ o->b∉fs->b∉ch->h'.get? b=ξ o
 slot:∀b o,h.get? b=ξ o->b∈fs->b∉ch->∃sl,h'.get? b=ξ {o with slots:=sl}
 there:∀b o,h.get? b=ξ o->∃o',h'.get? b=ξ o'
def gC.trans(x:gC fs ch h1 h2)(y:gC fs ch h2 h3):gC fs ch h1 h3:=
 #[λb o e n m=>y.keep b o (x.keep b o e n m) n m,λb o e n m=>by
  let#[s1,q1]:=x.slot b o e n m;let#[s2,q2]:=y.slot b _ q1 n m;exact#[s2,q2],λb o e=>by
  let#[o1,q1]:=x.there b o e;erw[y.there b o1 q1]]
def gC.mono(x:gC fs ch h h')(a:∀b∈fs,b∈fs')(c:∀b∈ch,b∈ch'):gC fs' ch' h h':=
 #[λb o e n m=>x.keep b o e (λz=>n (a b z)) λz=>m (c b z),λb o e n m=>by
  by_cases z:b∈fs
  .erw[x.slot b o e z λy=>m (c b y)]
  .exact#[o.slots,x.keep b o e z λy=>m (c b y)],x.there]
def fE{h:Heap}{a b:Addr}{f:Obj->Obj}{o:Obj}(e:h.get? b=ξ o)(n:b≠a):(h.update a f).get? b=ξ o:=by
 rw[nU h f (bI n)]
 erw[e]
def fF{fs:List Addr}{h:Heap}{a:Addr}{o:Obj}{f:Obj->Obj}(e:h.get? a=ξ o)(hf:(f o).isFreed=ϑ):gC fs [a] h (h.update a f):=
 #[λb o' q _ m=>fE q λz=>m (by simp[z]),λb o' q _ m=>#[o'.slots,fE q λz=>m (by simp[z])],λb o' q=>by
  by_cases z:b=a
  .subst z;exact#[_,bA f e hf]
  .exact#[o',fE q z]]
def Ca(o:Obj):gC fs ch h (h.push o):=
 #[λb _ q _ _=>az o q,λb o' q _ _=>#[o'.slots,az o q],λb o' q=>#[o',az o q]]
section
variable{M:Kr}{A:cf}{E:Value->av->Prop}{s:av}{base:Heap}{env:Env}{outer:List Env}{L e:Addr}{c:Bool×Value}{dx:Option Addr}{Q:Unit->av->Prop}
def Hq{vs:Array Value}{sl:Array (Option Value)}{head:Value}{b:Bool}(hfr:A.frames=ξ (env::outer))(hl:s.heap.FunFrames base (env::outer))(hf:env.frame=ξ L)
  (he:s.heap.get? e=ξ #[c.2,dx,.fields vs,sl]) (hsz:1<vs.size) (hcn:c.1=ζ->vs[2]?=ξ .none/\4<vs.size)
  (q:∀h' T,gC (wj (env::outer)) [e] s.heap h'->s.heap.objs.size<=T->nW h' e c dx (ξ (T,eV L))->Q () {s with heap:=h'}):
  wpAny M A (do let a <-frameOf env;let pl <-entryPlaceOf L b;let t <-yt head a .none (eV L) .none pl;Kv (.ref e) 1 t) Q E s:=by
 have ne:e∉wj (env::outer):=λhm=>by
  let#[_,o,ho,hnf]:=hl.mem hm;rw[he] at ho;cases ho;erw[hnf vs rfl]
 rwa[ae (wpAny_frameOf_fun hfr hl hf λh1 k1=>ae (wpAny_entryPlaceOf λpl hpl=>?_))];unfold yt newFields;rwa[ae (iu ?_ (hpl.sizeOk5 _ _ _ _ _))];have e1:h1.get? e=ξ #[c.2,dx,.fields vs,sl]:=(k1.2.1 e ne).trans he;have kk:gC (wj (env::outer)) [e] s.heap h1:=#[λb o z n _=>(k1.2.1 b n).trans z,λb o z _ _=>k1.2.2 b o z,λb o z=>let ⟨_,z'⟩:=k1.2.2 b o z;#[_,z']]
 generalize htb:({cls:=.type "traceback",dict:=ψ,data:=.fields ([head,.ref L,.none,eV L,.none]++(if pl.isEmpty then pO 6 bx else pl)).toArray}:Obj)=tb;have e2:(h1.push tb).get? e=ξ #[c.2,dx,.fields vs,sl]:=az tb e1;rwa[fW e2 rfl hsz (q _ h1.objs.size ((kk.trans (Ca tb)).trans (fF e2 rfl)) ?_ ?_)]
 .rw[k1.1]
  erw[ar _]
 .have nT:h1.objs.size≠e:=cw (aU e1)
  refine#[_,_,bA _ e2 rfl,by simp[hsz],λz=>%[eO ⋯,iO|hcn z],nT,tb,_,fE (a3 h1 (by rw[<-htb];rfl)) nT,by rw[<-htb],?_]
  first| (simp;done)| (rcases hpl with rfl|⟨_,_,_,_,_,_,_,rfl⟩<;>simp)
def Hr{tb:Option Addr}(hfr:A.frames=ξ (env::outer))(hl:s.heap.FunFrames base (env::outer))(hf:env.frame=ξ L)(x:nW s.heap e c dx (tb.map λT=>(T,bx)))
  (q:∀h' T,gC (wj (env::outer)) (e::tb.toList) s.heap h'->s.heap.objs.size<=T->nW h' e c dx (ξ (T,eV L))->Q () {s with heap:=h'}):
  wpAny M A (sO (.ref e) env) Q E s:=by
 unfold sO;dsimp[hf];cases tb with
 |none=>
  let#[vs,sl,he,h1,hcn]:=x;rwa[ae (fh he rfl h1 ?_)];rw[if_neg ⋯]
  erw[Hq hfr hl hf he (dX.mp h1).1 hcn q]
 |some T=>
  let#[vs,sl,he,h1,hcn,nT,oT,ts,hT,hd,h3]:=x;rwa[ae (fh he rfl h1 ?_)];rw[if_pos (show(aL T !=bx)=ζ by simp)]
  rwa[ae (fh hT hd h3 ?_)];rw[if_neg (show ¬((bx==eV L)=ζ) by simp[eV])]
  rwa[ae (fW hT hd (dX.mp h3).1 ?_)];have kT:gC (wj (env::outer)) [T] s.heap (s.heap.update T (dw (·.setIfInBounds 3 bx))):=fF hT (jQ (d7 hd _));have e2:=fE (f:=dw (·.setIfInBounds 3 bx)) he (bI nT);rwa[Hq hfr (hl.of_keeps λb o hb hnf=>?_) hf e2 (dX.mp h1).1 hcn λh' T' k n z=>?_]
  .have nb:b≠T:=λz=>by rw[z,hT] at hb;cases hb;erw[hnf ts hd]
   exact#[o,fE hb nb,rfl]
  .rwa[q h' T' ((kT.mono (λ_ y=>y) (#v[])).trans (k.mono (λ_ y=>y) (#v[]))) ?_ z]
   rw[Heap.size_after_update] at n;erw[n]
def xC(x:nW s.heap e c dx (ξ (T,fl)))(q:∀h',gC [] [T] s.heap h'->nW h' e c dx (ξ (T,.none))->Q () {s with heap:=h'}):wpAny M A (Ga (.ref e) ψ) Q E s:=by
 let#[vs,sl,he,h1,hcn,nT,oT,ts,hT,hd,h3]:=x;have sz:=(dX.mp h3).1;unfold Ga;rwa[ae (fh he rfl h1 ?_)];rw[if_pos (show(aL T !=bx)=ζ by simp)]
 have fr:=jQ (d7 hd (·.setIfInBounds 3 bx));rwa[fW hT hd sz (q _ (fF hT fr) #[vs,sl,fE he (bI nT),h1,hcn,nT,_,_,bA _ hT fr,d7 hd _,by simp[sz]])]
def Cb(hf:env.frame=ξ L)(x:nW s.heap e c dx (ξ (T,eV L)))(q:Q () s):wpAny M A (sO (.ref e) env) Q E s:=by
 let#[vs,sl,he,h1,_,nT,oT,ts,hT,hd,h3]:=x;unfold sO;dsimp[hf];rwa[ae (fh he rfl h1 ?_)];rw[if_pos (show(aL T !=bx)=ζ by simp)]
 rwa[ae (fh hT hd h3 ?_)];rw[if_pos (beq_self_eq_true _)]
 erw[ao q]
def T6(hf:env.frame=ξ L)(x:nW s.heap e c dx (ξ (T,fl)))(q:∀h',gC [] [T] s.heap h'->nW h' e c dx (ξ (T,eV L))->Q () {s with heap:=h'}):wpAny M A (Ga (.ref e) env.frame) Q E s:=by
 let#[vs,sl,he,h1,hcn,nT,oT,ts,hT,hd,h3]:=x;have sz:=(dX.mp h3).1;unfold Ga;rw[hf]
 rwa[ae (fh he rfl h1 ?_)];rw[if_pos (show(aL T !=bx)=ζ by simp)]
 have fr:=jQ (d7 hd (·.setIfInBounds 3 (eV L)));rwa[fW hT hd sz (q _ (fF hT fr) #[vs,sl,fE he (bI nT),h1,hcn,nT,_,_,bA _ hT fr,d7 hd _,by simp[sz]])]
def Pn{tb:Option Addr}(hfr:A.frames=ξ (env::outer))(hl:s.heap.FunFrames base (env::outer))(hf:env.frame=ξ L)(x:nW s.heap e c dx (tb.map λT=>(T,bx)))
  (q:∀h' T,gC (wj (env::outer)) (e::tb.toList) s.heap h'->s.heap.objs.size<=T->nW h' e c dx (ξ (T,.none))->Q () {s with heap:=h'}):
  wpAny M A (leaving env (.ref e)) Q E s:=by
 unfold leaving;rwa[ae (Hr hfr hl hf x λh1 T k1 n1 x1=>?_)];refine xC (s:={s with heap:=h1}) x1 λh2 k2 x2=>q h2 T ?_ n1 x2
 refine#[λb o z n m=>?_,λb o z n m=>?_,λb o z=>?_]
 .exact k2.keep b o (k1.keep b o z n m) (#v[]) λy=>by
   have y':b=T:=by simpa using y
   rw[y'] at z;erw[absurd (aU z) (i8.mpr n1)]
 .let#[sl,z1]:=k1.slot b o z n m
  refine#[sl,k2.keep b _ z1 (#v[]) λy=>?_];have y':b=T:=by simpa using y
  rw[y'] at z;erw[absurd (aU z) (i8.mpr n1)]
 .let#[o1,z1]:=k1.there b o z
  erw[k2.there b o1 z1]
end
abbrev mP(P:bj)(w:bL):Hc:=λouter H s E e s'=>∃(a T:Addr)(c:Bool×Value)(dx:Option Addr)(H':Hp),e=.ref a/\s'.os=s.os/\nP s'.gens/\Un (wj outer) [] H H' s.heap s'.heap/\mI P w H' s'.heap /\
 nW s'.heap a c dx (ξ (T,.none))/\(H' a=ψ/\H' T=ψ)/\(s.heap.objs.size<=a/\s.heap.objs.size<=T)/\E c dx H'
def mI.jw(x:mI P w H h)(k:gC fs ch h h')(hf:∀b∈fs,H b=ψ)(hc:∀b∈ch,H b=ψ):mI P w H h':=λa o e=>by
 have nf:∀b u,H b=ξ u->b∉fs/\b∉ch:=λb u q=>#[λz=>(by rw[hf b z] at q;cases q),λz=>(by rw[hc b z] at q;cases q)]
 refine(x a o e).rO (λb u hb q=>?_) (λ_ q=>q) λ_ _ q=>q
 rcases hb with rfl|hb
 .erw[k.keep b u q (nf b _ e).1 (nf b _ e).2]
 .erw[k.keep b u q (nf b _ hb).1 (nf b _ hb).2]
abbrev vT(X:Cx)(pZ:List (Addr×Obj))(H:Hp)(b:Addr):Prop:=H b=ψ/\X.s₀.heap.objs.size<=b/\b≠X.env.locals/\(∀x c,X.env.cells.lookup x=ξ c->c≠b)/\∀p∈X.pn++pZ,p.1≠b
def Inv.Kk(I:Inv X pZ σ H s)(hb:s.heap.objs.size<=b):vT X pZ H b:=by
 have no:∀o,¬s.heap.get? b=ξ o:=λo e=>absurd (aU e) (i8.mpr hb)
 refine#[I.ck.fresh hb,aP I.sz hb,λe=>?_,λx c e z=>?_,λp hp z=>?_]
 .erw[absurd I.lt (i8.mpr (e▸hb))]
 .let#[v,o,ho,_]:=I.cell x c e
  rw[z] at ho;erw[no o ho]
 .have:=(I.pin p hp).1
  rw[z] at this;erw[no _ this]
def Inv.jw(I:Inv X pZ σ H s)(k:gC (wj X.stack) ch s.heap h')(hc:∀b∈ch,vT X pZ H b):Inv X pZ σ H {s with heap:=h'}:=by
 have any:∀b o,b∉ch->s.heap.get? b=ξ o->∃sl,h'.get? b=ξ {o with slots:=sl}:=λb o n e=>by
  by_cases z:b∈wj X.stack
  .erw[k.slot b o e z n]
  .exact#[o.slots,k.keep b o e z n]
 refine I.step (g':=s.gens) (t':=s.toks) (d':=s.drawn) (ch:=ch) (λb m=>#[.inr (hc b m).2.1,(hc b m).2.2.1,(hc b m).2.2.2.1,(hc b m).2.2.2.2]) (λb o nl nf nc e _=>k.keep b o e (λz=>?_) nc) (λb o _ _ nc e _=>any b o nc e) (λ_ _ _ _ n=>n)
  (λb o nc e=>let ⟨_,q⟩:=any b o nc e;#[_,q]) (λ_ _ e=>e) (λ_ _ _ e=>e) (λb ps e=>#[#[],by rw[e];simp]) (λm hm=>?_) (I.ck.jw k I.yC λb m=>(hc b m).1) I.bare
 .rcases aW.mp (I.uJ b z) with q|q
  .erw[nl q]
  .erw[nf q]
 .let#[o,es,ep,ho,r]:=hm
  let#[sl,q]:=any _ o (λz=>(hc _ z).2.2.1 rfl) ho;exact#[_,es,ep,q,r]
abbrev T7(X:Cx)(E:XK):Prop:=∀(pZ:List (Addr×Obj))(σ:St)(H:Hp)(s:av)(a:Addr)(tb:Option Addr)(c:Bool×Value)(dx:Option Addr),Inv X pZ σ H s->nW s.heap a c dx (tb.map λT=>(T,bx)) ->
 (∀b∈a::tb.toList,vT X pZ H b)->E c dx H->X.xe (.ref a) s
def mP.inv(I:Inv X pZ σ H s)(h:mP X.prog X.w X.stack H s E e s'):
  ∃a T c dx H',e=.ref a/\Inv X pZ σ H' s'/\nW s'.heap a c dx (ξ (T,.none))/\(∀b∈[a,T],vT X pZ H' b)/\E c dx H':=by
 let#[a,T,c,dx,H',rfl,os,bare,un,ck,x,#[ha,hT],#[fa,fT],q]:=h;have I':Inv X pZ σ H' s':=I.NH (ch:=[]) os un ck bare (λb z=>absurd z (#v[]));refine#[a,T,c,dx,H',rfl,I',x,λb m=>?_,q];rcases aW.mp m with e|m
 .subst e;exact#[ha,(I.Kk fa).2]
 .have e:b=T:=by simpa using m
  subst e;exact#[hT,(I.Kk fT).2]
def Hs{P:bj}{w:bL}{K:aH}{mg:Str->Option Value}{base:Heap}{N:List Str}{qual:Str}{scope:jh}{f:Addr}{cd:Value}{A:cf}{outer:List Env}{s:av}{H:Hp}{E:XK}:
  T7 (rT (mP P w) P w K mg base N qual scope f cd A outer s H E) E:=by
 intro pZ σ H1 s1 a tb c dx I x fr q;show wpAny _ _ (leaving _ (.ref a)) _ _ s1;have hL:(pX qual scope s.heap.objs.size f cd).frame=ξ s.heap.objs.size:=rfl;rwa[Pn (base:=base) (L:=s.heap.objs.size) I.ok.frames I.stack hL x λh' T' k n x'=>?_]
 have I':=I.jw k fr;have fa:s.heap.objs.size<=a:=(fr a aV).2.1;have sz:s.heap.objs.size<=s1.heap.objs.size:=I.sz;refine#[a,T',c,dx,H1,rfl,I.os,I.bare,?_,I'.ck,x',#[(fr a aV).1,I.ck.fresh n],#[fa,aP sz n],q];erw[I'.base]
def Fh{P:bj}{w:bL}{K:aH}{mg:Str->Option Value}{base:Heap}{N:List Str}{qual:Str}{scope:jh}{f:Addr}{cd:Value}{A:cf}{outer:List Env}{s:av}{H:Hp}{E:XK}{pZ:List (Addr×Obj)}{σ:St}{H1:Hp}{s1:av}{a T:Addr}{c:Bool×Value}{dx:Option Addr}
  (I:Inv (rT (mP P w) P w K mg base N qual scope f cd A outer s H E) pZ σ H1 s1) (x:nW s1.heap a c dx (ξ (T,eV s.heap.objs.size))) (fa:vT (rT (mP P w) P w K mg base N qual scope f cd A outer s H E) pZ H1 a) (fT:vT (rT (mP P w) P w K mg base N qual scope f cd A outer s H E) pZ H1 T) (q:E c dx H1):
  (rT (mP P w) P w K mg base N qual scope f cd A outer s H E).xe (.ref a) s1:=by
 show wpAny _ _ (leaving _ (.ref a)) _ _ s1
 unfold leaving;refine ae (Cb (L:=s.heap.objs.size) rfl x (xC x λh' k x'=>?_));have I':=I.jw (k.mono (λb z=>absurd z (#v[])) λ_ z=>z) (λb z=>by
  have e:b=T:=by simpa using z
  subst e;erw[fT])
 exact#[a,T,c,dx,H1,rfl,I.os,I.bare,I'.base,I'.ck,x',#[fa.1,fT.1],#[fa.2.1,fT.2.1],q]
def Ad.okX{P:bj}{w:bL}{K:aH}{mg:Str->Option Value}{base:Heap}{x qual:Str}{st:Stmt}{f:Addr}{fd:dv}{N ps:List Str}{k:Nat}{sp:Sp}(F:Ad K x qual st f fd)(S:fB N ps (bf st))(len:∀vs H Q E,sp vs H Q E->vs.length=ps.length)
  (hbody:∀(cdv:Value)(A:cf)(outer:List Env)(s:av)(H:Hp)(vs:List V)(Q:VK)(E:XK),jj k (A.deeper (pX qual (bf st) s.heap.objs.size f cdv))->sp vs H Q E ->
   ∃t,rF (rT (mP P w) P w K mg base N qual (bf st) f cdv A outer s H E) (dI st) t/\t {nx:=λ_ H'=>Q .bK H',rt:=Q} (start N vs) H):iz P w K mg base (mP P w) (k+1) f fd ps sp:=by
 let#[oc,od,kV,doc,pm,an,cdv,ct,osl,rfl,lk,hcd]:=F.ex;erw[NI (Rm:=jj k) lk hcd S len (λA env r=>r.deeper env) λA outer s H vs Q E hr hsp=>hbody cdv A outer s H vs Q E hr hsp]
def Ad.ZK{P:bj}{w:bL}{K:aH}{mg:Str->Option Value}{base:Heap}{x qual:Str}{st:Stmt}{f:Addr}{fd:dv}{N ps:List Str}{sp:Sp}(F:Ad K x qual st f fd)(S:fB N ps (bf st))(len:∀vs H Q E,sp vs H Q E->vs.length=ps.length)
  (hbody:∀(cdv:Value)(A:cf)(outer:List Env)(s:av)(H:Hp)(vs:List V)(Q:VK)(E:XK),sp vs H Q E ->
   ∃t,rF (rT (mP P w) P w K mg base N qual (bf st) f cdv A outer s H E) (dI st) t/\t {nx:=λ_ H'=>Q .bK H',rt:=Q} (start N vs) H):iz P w K mg base (mP P w) 0 f fd ps sp:=by
 let#[oc,od,kV,doc,pm,an,cdv,ct,osl,rfl,lk,hcd]:=F.ex;erw[NI (Rm:=λ_=>True) lk hcd S len (λ_ _ _=>trivial) λA outer s H vs Q E _ hsp=>hbody cdv A outer s H vs Q E hsp]
open Builtin Builtin.ObjectAttr
noncomputable abbrev xD:List Value:=[.type "ValueError",.type "Exception",.type "BaseException",.type "object"]
structure mh(K:Frag)(C:Addr)(bm:List Value):Prop where
 ob:∃nm q N bs sn sub ab col dd k0 k1 k2 k3 k5,K.lookup C=ξ (iP nm q C N bs bm ζ sn sub ab col dd k0 k1 k2 k3 k5 "ValueError.__new__")
 tl:tailIn K xD bm=ζ
def mh.tail{K:Frag}{C:Addr}{bm:List Value}{h:Heap}(x:mh K C bm)(X:K.In h):OwnTail h xD bm:=tail_of_in X x.tl
def mh.base{K:Frag}{C:Addr}{bm:List Value}{h:Heap}(x:mh K C bm)(X:K.In h):bm.contains (.type "BaseException")=ζ:=(x.tail X).hasType F.excBase_ValueError.hasBase
section
variable{prog:bj}{w:bL}{A:cf}{E:Value->av->Prop}{h:Heap}{g:Array Kq}{d:Drawn}{t:Nat}{os:OsState}
variable{nm q:Str}{C N:Addr}{bs bm bmB:List Value}{sn:List Str}{sub:List Value}{ab:Bool}{col:Option Bool}{dd:Option Addr}{k0 k1 k2 k3 k5:Option Value}{B newId initId:String}
def Ai(F:ExcBaseFacts B newId initId bmB)(T:OwnTail h bmB bm){rest:List Value}{fI:Addr}{Q:Fin->av->Prop}
  (hC:h.get? C=ξ (iP nm q C N bs bm ζ sn sub ab col dd k0 k1 k2 k3 k5 newId)) (hI:BI (aS prog w) h (pY (.ref C) "__init__") (ξ (.ref fI)))
  (hB:∀self,BI (aS prog w) h (bindSpecial (.ref fI) self) (.ref fI,[self]))
  (hq:∀h' e,Heap.MadeExcOf h h' e (.ref C) rest->h.objs.size<=e->wpAny (aS prog w) A (call (.ref fI) (.ref e::rest)) (λr s'=>r=.none/\Q (.done (.ret (.ref e))) s') E #[h',g,d,t,os]) (hrest:rest.length<=sizeLine):
  wpAny (aS prog w) A (Builtin.«type.__call__» #[.ref C::rest,[]]) Q E #[h,g,d,t,os]:=by
 generalize e1:({cls:=.type "tuple",data:=.seq rest.toArray}:Obj)=o1;generalize e2:({cls:=.ref C,data:=.fields (List.toArray [.ref h.objs.size,.none,.none,.none,.bool ϑ,.none])}:Obj)=o2;have kp:∀b o,h.get? b=ξ o->((h.push o1).push o2).get? b=ξ o:=λb o z=>az o2 (az o1 z)
 repeat (first|with_reducible refine cy hC ?_|with_reducible refine wpAny_madeBy_exc hC ?_|wp_step)
 rwa[codeAny_call_builtin_code (Gb _ F.quiet) (wpAny_check_new_subT F T hC (codeAny_exc_new_subT F T hC ?_ hrest))];rw[e1,e2]
 show wpAny _ _ _ _ _ _
 have hC1:=kp C _ hC;have hget:((h.push o1).push o2).get? (h.objs.size+1)=ξ o2:=by rw[<-e1,<-e2];heap_get
 have hcls:o2.cls=.ref C:=by rw[<-e2]
 have hcC:(aL C::bm).contains (.ref C)=ζ:=by simp
 unfold uA
 repeat (first| (with_reducible refine cy hget ?_;rw[hcls])| (with_reducible refine fU hC1 ?_;rw[hcC])|wp_step)
 show wpAny _ _ (pY (.ref C) _) _ _ _
 refine(hI.keeps kp).here ?_;rwa[cu (ae (((hB (.ref (h.objs.size+1))).keeps kp).here ?_))];rwa[ae (bg (hq _ (h.objs.size+1) #[kp,pN (hW _),h.objs.size,by rw[hget,<-e2],pN (ar _),?_] (hW _)) (λr s' hr=>?_) λ_ _ x=>x)]
 .rw[e1]
  erw[az o2 (Heap.get?_push_at (by rfl) (by rw[<-e1];rfl))]
 .let#[rfl,hQ]:=hr
  wp_walk
  erw[hQ]
def x_call(F:ExcBaseFacts B newId initId bmB)(T:OwnTail h bmB bm){rest:List Value}{fI:Addr}{Q:Value->av->Prop}
  (hC:h.get? C=ξ (iP nm q C N bs bm ζ sn sub ab col dd k0 k1 k2 k3 k5 newId)) (hI:BI (aS prog w) h (pY (.ref C) "__init__") (ξ (.ref fI)))
  (hB:∀self,BI (aS prog w) h (bindSpecial (.ref fI) self) (.ref fI,[self]))
  (hq:∀h' e,Heap.MadeExcOf h h' e (.ref C) rest->h.objs.size<=e->wpAny (aS prog w) (A.under (.builtin "type.__call__" #[.ref C::rest,[]])) (call (.ref fI) (.ref e::rest)) (λr s'=>r=.none/\Q (.ref e) s') E #[h',g,d,t,os]) (hrest:rest.length<=sizeLine):
  wpAny (aS prog w) A (call (.ref C) rest) Q E #[h,g,d,t,os]:=by
 have f1:=tc_lookup;have f2:=tc_bind (.ref C);have hT:(#[h,g,d,t,os]:av).TypeIs (.ref C) "type":=#[_,hC,rfl]
 rwa[mM (codeAny_of_tree ?_)];show wpAny _ _ (callAny (.ref C) _) _ _ _
 repeat (any_goals (first|assumption|with_reducible refine cy hC ?_|wp_step))
 exact#[rfl,codeAny_call_builtin_at (Gb _ (by decide +kernel)) entry_typeCall (wpAny_check_type_call_sub hC (Ai F T hC hI hB (λh' e hm hs=>hq h' e hm hs) hrest))]
def Aj(hbase:bm.contains (.type "BaseException")=ζ)(hh:A.handled=ψ)
  (hx:wpAny M A x (λv s₁=>∃e dx,v=.ref e/\s₁.heap.get? C=ξ (iP nm q C N bs bm ζ sn sub ab col dd k0 k1 k2 k3 k5 newId)/\nW s₁.heap e (ζ,.ref C) dx ψ/\E (.ref e) s₁) E s):
  wpAny M A (Gd env (ξ x) ψ) Q E s:=by
 have hcB:(aL C::bm).contains (.type "BaseException")=ζ:=by rw[i3,hbase,sP]
 unfold Gd;rwa[ae (bg hx (λv s₁ h₁=>?_) λ_ _ x=>x)];let#[e,dx,rfl,hC,#[vs,sl,he,h1,_],hE]:=h₁;let#[hp,g,d,tk,os]:=s₁
 repeat (first|with_reducible refine cy he ?_|with_reducible refine cy hC ?_| (with_reducible refine fU hC ?_;rw[hcB])|wp_step)
 rw[h1]
 rwa[ao ?_];rw[if_neg ⋯]
 erw[ao (wpAny_raiseNew_none hh hE)]
end
structure XGet(K:Frag)(C:Addr):Prop where
 ga:hX K (.ref C) "__getattribute__"=ξ (ξ (.builtin "BaseException.__getattribute__"))
 gh:hX K (.ref C) "__getattr__"=ξ ψ
 hb:mroIn K C (.type "BaseException")=ξ ζ
 hd:hasDictIn K C=ζ
 sa:hX K (.ref C) "__setattr__"=ξ (ξ (.builtin "object.__setattr__"))
 mo:∃cd bm,clsIn K C=ξ cd/\cd.mro=.ref C::bm/\tailIn K xD bm=ζ
abbrev xoP(e C:Addr)(od:Option Addr):Heap->Prop:=λh=>nW h e (ζ,.ref C) od ψ
abbrev X1(d:Addr)(fs:List (Str×V)):Heap->Prop:=λh=>∃mA,h.Ns1 d mA/\(∀f,kO (fs.lookup f) (mA f))/\kK mA (fs.map (·.1))
noncomputable abbrev HO.xo(e C:Addr)(od:Option Addr):HO:=.ext (xoP e C od)
@[reducible]def HO.xf(d:Addr)(fs:List (Str×V)):HO:=.ext (X1 d fs)
section
variable{P:bj}{w:bL}{H:Hp}{h:Heap}{e C d:Addr}{od:Option Addr}{fs:List (Str×V)}
def Ht(x:nW h e (ζ,.ref C) od ψ):c9 P w H h e (.xo e C od):=by
 let#[vs,sl,a,b]:=id x;exact#[x,#[_,a],λh1 h2 #[vs,sl,a,b] k=>#[vs,sl,k _ a,b]]
def NL(x:X1 d fs h):c9 P w H h d (.xf d fs):=by
 let#[mA,#[o,es,ep,e,c],r]:=id x;exact#[x,#[_,e],λh1 h2 #[mA,#[o,es,ep,e,c],r] k=>#[mA,#[o,es,ep,k _ e,c],r]]
def Ak(ck:mI P w H h)(q:H e=ξ (.xo e C od)):nW h e (ζ,.ref C) od ψ:=(ck e _ q).1
def DJ(ck:mI P w H h)(q:H d=ξ (.xf d fs)):X1 d fs h:=(ck d _ q).1
end
def sV{K:Frag}(self:Value):∀{l:List Value},tailIn K xD l=ζ->refuseLoop self "__setattr__" l=pure ()
 |[],e=>by simp[tailIn] at e
 |v::r,e=>by
  unfold tailIn at e;rcases Bool.or_eq_true_iff.mp e with q|q
  .rw[beq_iff_eq.mp q]
   erw[PySem.F.store_ValueError.passes self]
  .split at q
   .split at q
    .dsimp[aw] at q
     rw[refuseLoop_ref]
     erw[sV self q.2]
    .cases q
   .cases q
section
variable{prog:bj}{w:bL}{A:cf}{E:Value->av->Prop}{s:av}{K:Frag}{x C:Addr}{name:Str}{v:Value}{Q:Unit->av->Prop}
def uX{ox:Obj}{od:Option Obj}(X:K.In s.heap)(G:XGet K C)(I:gx s.heap x ox C od)(ht:takerIn K C name=ξ ψ)
  (h:∀(b:Bool)(t:Nat),wpAny (aS prog w) A.in1 (storeInOwnDict (.ref x) (.ref C) (.str name s.toks) name v b) (λfin s'=>match fin with|.done (.ret _)=>Q () s'|_=>False) E {s with toks:=s.toks+1}):
  wpAny (aS prog w) A (Gx (.ref x) name v) Q E s:=by
 have SF:=PySem.F.store_object;let#[cd,bm,hc,hm,tl]:=G.mo;have T:OwnTail s.heap xD bm:=tail_of_in X tl;have ne:¬cd.mro.isEmpty=ζ:=by rw[hm];simp
 have ho:cd.mro.contains (.type "object")=ζ:=by rw[hm,i3,T.hasType (X:="object") (b:=ζ) (by decide +kernel),sP]
 have sub:BI (aS prog w) s.heap (uA (.ref x) (.type "object")) ζ:=I.type.andThen (looks_mroIn X (by unfold mroIn;rw[hc,Option.bind_some,if_neg ne,ho]));refine set_plain X I G.sa ?_;refine Kw SF.slot.plain SF.entry (@check_slot (aS prog w) _ _ {s with toks:=s.toks+1} "object.__setattr__" "object" "__setattr__" (.ref x) [.str name s.toks,v] [] _ SF.kind SF.split sub (SF.args (.ref x) (.str name s.toks) v) ?_);let#[attr,ha,hr]:=ak.mp ht;have hmro:BI (aS prog w) s.heap (mroOf (.ref C)) cd.mro:=(Kx X hc).andThen .now;have L3:BI (aS prog w) s.heap (storeTaker? attr) ψ:=by
  cases attr with
  |none=>erw[.now]
  |some a=>
   let#[b,hb,hb2]:=aj.mp hr;cases b with
   |true=>cases hb2
   |false=>exact(looks_takesIn X hb).andThen .now
 rw[osa_eq,refuse_eq]
 have I':BI (aS prog w) s.heap (typeOf (.ref x)) (.ref C):=I.type;refine ae (ae (lH (s:={s with toks:=s.toks+1}) I' (ae (lH (s:={s with toks:=s.toks+1}) hmro ?_))));rw[hm,refuseLoop_ref,sV _ tl]
 refine ao (ae (lH (s:={s with toks:=s.toks+1}) I' (ae (lH (s:={s with toks:=s.toks+1}) (qb X ha) (ae (lH (s:={s with toks:=s.toks+1}) L3 ?_))))));rwa[bg (h attr.isSome 0) (λfin s' z=>?_) λ_ _ z=>z]
 cases fin with
 |again c=>erw[z.elim]
 |done f=>
  cases f with
  |ret u=>erw[z]
  |next=>erw[z.elim]
  |brk=>erw[z.elim]
  |cont=>erw[z.elim]
end
def Cc(wi:kK mA (fs.map (·.1))):kK (λg=>if g=f then ξ u else mA g) ((gB f y fs).map (·.1)):=λg hg=>by
 by_cases q:g=f
 .rw[q];exact(mf f y fs).1
 .refine(mf f y fs).2 g (wi g λz=>hg ?_)
  show(if g=f then ξ u else mA g)=ψ
  rw[if_neg q];erw[z]
def Hu{mA:Str->Option Value}{f:Str}{y:V}{u:Value}{fs:List (Str×V)}(r:∀g,kO (fs.lookup g) (mA g))(ry:RelV y u)(g:Str):kO ((gB f y fs).lookup g) (if g=f then ξ u else mA g):=by
 rw[oq]
 by_cases q:g=f
 .rw[if_pos q,if_pos q];erw[ry]
 .rw[if_neg q,if_neg q];erw[r g]
section
variable{X:Cx}{pZ:List (Addr×Obj)}{σ:St}{H:Hp}{s:av}{a C d:Addr}{fs:List (Str×V)}{f:Str}{y:V}{u:Value}{A:cf}{E:Value->av->Prop}
def qN(I:Inv X pZ σ H s)(hd:H d=ξ (.xf d fs))(hl:fs.length<1000)(ry:RelV y u)
  (h:∀s',Inv X pZ σ (upd H d (.xf d (gB f y fs))) s'->Q (.done (.ret .none)) s'):
  wpAny (aS X.prog X.w) A (storeInDict d (.str f tk) f u) Q E s:=by
 let#[mA,ns,r,wi]:=DJ I.ck hd;unfold storeInDict newKeyGuard;rwa[ae (ao (ae (wpAny_nsSet1 ns λh' hn2 hs2=>?_)))];let#[oD,esD,epD,hoD,hdD,hcD]:=hn2.count (yl f u wi);rwa[ae (wpAny_lookBehind hoD (%[hdD|pastItsLine_dict (aP hcD (by rw[a5,ah,gv];omega))]) ?_)];rwa[ao (h _ (I.write (x:=d) (e:=d) (%[hd|bY]) (.inl rfl) (λb q hb z=>(hs2.2 b hb).trans z) #[oD,hoD] (NL #[_,hn2,Hu r ry,Cc wi])))]
def Po(I:Inv X pZ σ H s)(e:H a=ξ (.xo a C od)):∃vs sl,s.heap.get? a=ξ #[.ref C,od,.fields vs,sl]:=by
 let#[vs,sl,q,_]:=Ak I.ck e;exact#[vs,sl,q]
def Cd(I:Inv X pZ σ H s)(G:XGet X.K C)(n:fA X.K C f)(e:H a=ξ (.xo a C ψ))(ry:RelV y u)
  (h:∀d s',H d=ψ->d≠a->Inv X pZ σ (upd (upd H d (.xf d [(f,y)])) a (.xo a C (ξ d))) s'->Q () s'):wpAny (aS X.prog X.w) A (Gx (.ref a) f u) Q E s:=by
 let#[vs,sl,q,q1]:=Ak I.ck e;rwa[uX (ox:=#[.ref C,ψ,.fields vs,sl]) (od:=ψ) I.jY G #[q,rfl,rfl,bY] n.Hb λb t=>?_]
 let#[cd,hc,hd']:=Ky G.hd;refine ae (ao (ae (ae (rJ (s:={s with toks:=s.toks+1}) q (ae (lH (s:={s with toks:=s.toks+1}) (Kx I.jY hc) ?_))))));rw[hd']
 generalize eD:({cls:=.type "dict",data:=.dict #[]}:Obj)=D0;have n0:H s.heap.objs.size=ψ:=I.ck.fresh (ar _);have na:s.heap.objs.size≠a:=cw (aU q);have e1:(s.heap.push D0).get? s.heap.objs.size=ξ D0:=a3 s.heap (by rw[<-eD];rfl);have e3:(s.heap.push D0).Ns s.heap.objs.size (λ_=>ψ):=#[D0,#[],_,e1,by rw[<-eD],(λe he=>absurd he (#v[])),λ_=>rfl]
 have I1:=I.laid (a:=s.heap.objs.size) (o:=.xf s.heap.objs.size []) (h':=s.heap.push D0) (t':=s.toks+1) (λb u q=>az _ q) (ar _) (NL #[_,BF e3,λ_=>bY,λy hy=>absurd rfl hy]);have qa:(s.heap.push D0).get? a=ξ #[.ref C,ψ,.fields vs,sl]:=az _ q;have fr:(({(#[.ref C,ψ,.fields vs,sl]:Obj) with dict:=ξ s.heap.objs.size}):Obj).isFreed=ϑ:=rfl;have I2:=I1.write (x:=a) (e:=a) (o:=.xo a C (ξ s.heap.objs.size)) (h':=(s.heap.push D0).update a λo=>{o with dict:=ξ s.heap.objs.size}) (t':=s.toks+1) (by rw[a7 (bI na),e];exact bY) (.inl rfl) (λb u hb z=>fE z hb)
  #[_,bA _ qa fr] (Ht #[vs,sl,bA _ qa fr,q1])
 refine ae (wpAny_alloc (ae (wpAny_update (a:=a) (s:={s with heap:=s.heap.push D0,toks:=s.toks+1}) qa (ao ?_))));rwa[qN (fs:=[]) I2 (by rw[a7 na,a9]) ⋯ ry λs' I3=>h s.heap.objs.size s' n0 na ?_]
 have hh:upd (upd (upd H s.heap.objs.size (.xf s.heap.objs.size [])) a (.xo a C (ξ s.heap.objs.size))) s.heap.objs.size (.xf s.heap.objs.size (gB f y []))=upd (upd H s.heap.objs.size (.xf s.heap.objs.size [(f,y)])) a (.xo a C (ξ s.heap.objs.size)):=by
  funext b
  by_cases z:b=s.heap.objs.size
  .rw[z,a9,a7 na,a9];rfl
  .rw[a7 z]
   by_cases z2:b=a
   .rw[z2,a9,a9]
   .rw[a7 z2,a7 z2,a7 z,a7 z]
 rw[<-hh]
 erw[I3]
def Ce(I:Inv X pZ σ H s)(G:XGet X.K C)(n:fA X.K C f)(e:H a=ξ (.xo a C (ξ d)))(hd:H d=ξ (.xf d fs))(hl:fs.length<1000)(ry:RelV y u)
  (h:∀s',Inv X pZ σ (upd H d (.xf d (gB f y fs))) s'->Q () s'):wpAny (aS X.prog X.w) A (Gx (.ref a) f u) Q E s:=by
 let#[vs,sl,q]:=Po I e;let#[mA,#[oD,es,ep,eo,c],r]:=DJ I.ck hd;rwa[uX (ox:=#[.ref C,ξ d,.fields vs,sl]) (od:=ξ oD) I.jY G #[q,rfl,rfl,eo] n.Hb λb t=>?_]
 let#[cd,hc,hd']:=Ky G.hd;refine ae (ao (ae (ae (rJ (s:={s with toks:=s.toks+1}) q (ae (lH (s:={s with toks:=s.toks+1}) (Kx I.jY hc) ?_))))));rw[hd']
 rwa[ao (a:=ξ d) ?_];erw[qN (I.tok (s.toks+1)) hd hl ry λs' I'=>h s' I']
abbrev T9(K:Frag)(ta tv:TE)(f:Str):TS:=λD σ H=>tv σ H λy H1=>ta σ H1 λx H2=>∃a C,x=.ref a/\XGet K C/\fA K C f /\
  ((H2 a=ξ (.xo a C ψ)/\∀d,H2 d=ψ->d≠a->D.nx σ (upd (upd H2 d (.xf d [(f,y)])) a (.xo a C (ξ d)))) \/
   ∃d fs,H2 a=ξ (.xo a C (ξ d))/\H2 d=ξ (.xf d fs)/\fs.length<1000/\D.nx σ (upd H2 d (.xf d (gB f y fs))))
def yJ(ha:PE X o ta)(hv:PE X value tv)(hs:fV value (ξ (.Attribute o f pos')) pos.line X.env=pure ϑ):PS X (.Assign [.Attribute o f pos'] value pos) (T9 X.K ta tv f):=by
 intro pZ s σ H D I h;rwa[wC (dS (hv pZ s σ H _ I h) λu s1 h9=>?_) hs];let#[y,H1,I1,ry,q]:=h9;rwa[dS (ha pZ s1 σ H1 _ I1 q) λov s2 h9=>?_]
 let#[x,H2,I2,rx,a,C,ex,G,n,q2]:=h9;subst ex;obtain rfl:ov=aL a:=rx;rcases q2 with⟨e,k⟩|⟨d,fs,e,hd,hl,k⟩
 .erw[Cd I2 G n e ry λd s3 hn ne I3=>#[σ,_,I3,k d hn ne]]
 .erw[Ce I2 G n e hd hl ry λs3 I3=>#[σ,_,I3,k]]
end
abbrev kb(H:Hp)(a:Addr):Hp:=λb=>if b=a then ψ else H b
def mQ:kb H a a=ψ:=if_pos rfl
def kX(n:b≠a):kb H a b=H b:=if_neg n
section
variable{X:Cx}{pZ:List (Addr×Obj)}{σ:St}{H:Hp}{s:av}{a C:Addr}{od:Option Addr}
def Inv.NM(I:Inv X pZ σ H s)(e:H a=ξ (.xo a C od)):Inv X pZ σ (kb H a) s:=by
 have no:∀b u,H b=ξ u->(∀φ,u≠.ext φ)->b≠a:=λb u q k z=>by
  subst z;rw[e] at q;erw[k _ (aG q).symm]
 have J:=I.step (g':=s.gens) (t':=s.toks) (d':=s.drawn) (h':=s.heap) (H':=kb H a) (ch:=[]) (λ_ z=>absurd z (#v[])) (λb o _ _ _ q _=>q) (λb o _ _ _ q _=>#[o.slots,q]) (λb o _ _ n=>by
   by_cases z:b=a
   .rw[z];erw[mQ]
   .rw[kX z];erw[n]) (λb o _ q=>#[o,q]) (λb xs q=>by rw[kX (no b _ q (by intro φ z;cases z))];erw[q]) (λb o u q=>by rw[kX (no b _ q (by intro φ z;cases z))];erw[q])
  (λb ps q=>#[#[],by rw[kX (no b _ q (by intro φ z;cases z)),q];simp]) (λm hm=>hm) (λb u q=>?_) I.bare
 .erw[J]
 .by_cases z:b=a
  .rw[z,mQ] at q;cases q
  .rw[kX z] at q
   exact(I.ck b u q).rO (λ_ _ _ q=>q) (λc q=>by rw[kX (no c _ q (by intro φ z;cases z))];erw[q]) λc xs q=>by rw[kX (no c _ q (by intro φ z;cases z))];erw[q]
end
section
variable{M:Kr}{A:cf}{E:Value->av->Prop}{s:av}
def qO{K:Frag}{C C' a:Addr}{bm bm':List Value}{dx:Option Addr}{tb:Option (Addr×Value)}{fl:Bool}{Q:Bool->av->Prop}(X:K.In s.heap)(c:mh K C bm)(c':mh K C' bm')(x:nW s.heap a (fl,.ref C) dx tb)
  (h:Q ((aL C::bm).contains (.ref C')) s):wpAny M A (excMatches (.ref a) (.ref C')) Q E s:=by
 let#[nm,q,N,bs,sn,sub,ab,col,dd,k0,k1,k2,k3,k5,hC0]:=c.ob;let#[nm',q',N',bs',sn',sub',ab',col',dd',k0',k1',k2',k3',k5',hC0']:=c'.ob;have hb:=c'.base X;let#[vs,sl,he]:=x.obj;have hC:=X _ _ hC0;have hC':=X _ _ hC0';let#[hp,g,d,tk,os]:=s;have hcB:(aL C'::bm').contains (.type "BaseException")=ζ:=by rw[i3,hb,sP]
 have f:=tc_notTuple;unfold excMatches
 repeat (first|with_reducible refine cy he ?_|with_reducible refine cy hC' ?_| (with_reducible refine fU hC' ?_;rw[hcB])|with_reducible refine fU hC ?_|wp_step)
 cases hb2:(aL C::bm).contains (.ref C')<;>(rw[hb2] at h;wp_walk;exact h)
end
noncomputable abbrev Cx.hand(X:Cx)(a:Addr):Cx:={X with A:=X.A.mark (ξ (.ref a)),calm:=ϑ,xe:=λ_ _=>False}
section
variable{X:Cx}{pZ:List (Addr×Obj)}{σ:St}{H:Hp}{s:av}{a:Addr}
def Cx.Ok.hand(ok:X.Ok)(a:Addr):(X.hand a).Ok:=
 #[ok.mod,ok.kind,ok.glob,ok.blt,ok.above,ok.inj,ok.has,ok.NG,λz=>absurd (show ϑ=ζ from z) ⋯,ok.frames,ok.Bs,ok.SS,ok.bs,ok.GQ,ok.z6,ok.BV,ok.pF,ok.Kj]
def Inv.hand(I:Inv X pZ σ H s)(a:Addr):Inv (X.hand a) pZ σ H s:=#[I.ok.hand a,I.os,I.bare,I.base,I.loc,I.cell,I.free,I.kP,I.pin,I.ck,I.len]
def Inv.uY(ok:X.Ok)(I:Inv (X.hand a) pZ σ H s):Inv X pZ σ H s:=#[ok,I.os,I.bare,I.base,I.loc,I.cell,I.free,I.kP,I.pin,I.ck,I.len]
abbrev ZL(a:Addr)(c:Bool×Value)(dx:Option Addr):Heap->Prop:=λh=>∃vs sl,h.get? a=ξ #[c.2,dx,.fields vs,sl]/\(c.1=ζ->vs[2]?=ξ .none)
noncomputable abbrev HO.xc(a:Addr)(c:Bool×Value)(dx:Option Addr):HO:=.ext (ZL a c dx)
def Inv.NN(I:Inv X pZ σ H s)(f:vT X pZ H a)(x:nW s.heap a c dx tb):Inv X pZ σ (upd H a (.xc a c dx)) s:=by
 have ne:∀b u,H b=ξ u->b≠a:=λb u e z=>by rw[z,f.1] at e;cases e
 have J:=I.step (g':=s.gens) (t':=s.toks) (d':=s.drawn) (h':=s.heap) (H':=upd H a (.xc a c dx)) (ch:=[a]) (λb m=>by
   have e:b=a:=by simpa using m
   subst e;exact#[.inr f.2.1,f.2.2.1,f.2.2.2.1,f.2.2.2.2]) (λb o _ _ _ q _=>q) (λb o _ _ _ q _=>#[o.slots,q]) (λb o n _ z=>%[a7 (λe=>n (by simp[e]))|z]) (λb o _ q=>#[o,q])
  (λb xs q=>%[a7 (ne b _ q)|q]) (λb o u q=>%[a7 (ne b _ q)|q]) (λb ps q=>#[#[],by rw[a7 (ne b _ q),q];simp]) (λm hm=>hm) (λb u q=>?_) I.bare
 .erw[J]
 .by_cases z:b=a
  .subst z
   rw[a9] at q;cases q;have⟨vs,sl,e,cn⟩:ZL b c dx s.heap:=by
    cases tb with
    |none=>let#[vs,sl,e,_,cn]:=x;exact#[vs,sl,e,λz=>(cn z).1]
    |some p=>let#[vs,sl,e,_,cn,_]:=x;exact#[vs,sl,e,λz=>(cn z).1]
   exact#[#[vs,sl,e,cn],#[_,e],λh1 h2 #[vs,sl,e,cn] k=>#[vs,sl,k _ e,cn]]
  .rw[a7 z] at q
   exact(I.ck b u q).rO (λ_ _ _ q=>q) (λc q=>%[a7 (ne c _ q)|q]) λc xs q=>%[a7 (ne c _ q)|q]
def mi(I:Inv X pZ σ H s)(hN:X.N.Nodup)(hi:X.N[i]?=ξ n)(hk:X.env.scope.names.lookup n=ξ .local)
  (h:∀s',Inv X pZ (σ.set i ψ) H s'->Q () s'):wpAny M A (do bindName X.env n .none;Kz X.env n pos) Q E s:=by
 have hcls:(X.env.scope.kind==.class||(X.env.scope.kind==.module&&X.env.locals !=X.env.globals))=ϑ:=by rw[I.ok.kind];rfl
 have hiσ:i<σ.length:=by rw[I.len];exact(ag.mp hi).1
 refine ae (wpAny_bindName (kQ (v:=.bK) I hN hi (.inl hk) rfl (λs1 I1=>?_) (.inr hk)));unfold Kz;refine wpAny_onRaise ?_;let#[m,hn,hl]:=id I1.loc;let#[u0,r0,l0]:=hl i n .bK hi (by rw[ba hiσ]) (.inl hk);have hv:m n=ξ u0:=by
  rcases l0 with⟨_,q⟩|⟨k,_⟩
  .erw[q]
  .have k':X.env.scope.names.lookup n=ξ .cell\/X.env.scope.names.lookup n=ξ .free:=k
   rw[hk] at k';rcases k' with z|z<;>cases z
 rwa[wpAny_unbindName_local hk hn hv hcls λh' u hn' hs=>h _ ?_]
 let#[oL,_,_,hoL,_]:=id hn;have tracked:mI X.prog X.w H h':=λb ob e=>by
  refine(I1.ck b ob e).rO (λc w' hc q=>(hs.2 c ?_).trans q) (λ_ q=>q) λ_ _ q=>q
  rintro rfl;rcases hc with rfl|hc
  .rw[I1.free] at e;cases e
  .rw[I1.free] at hc;cases hc
 have lt:∀b o,X.s₀.heap.get? b=ξ o->b≠X.env.locals:=λb o e=>a6 (au (aU e) I1.ok.above)
 refine#[I1.ok,I1.os,I1.bare,#[λb o e n hb hx=>(hs.2 b (lt b o e)).trans (I1.base.keep b o e n hb hx),λb o e n hb hx=>?_,I1.base.free,λb o e hx=>?_,I1.base.yz,I1.base.wg,I1.base.yA],#[_,hn',λj y v' e1 e2 e3=>?_],λy c e=>?_,I1.free,I1.kP,λp hp=>?_,tracked,?_]
 .let#[sl,e1]:=I1.base.slot b o e n hb hx
  exact#[sl,(hs.2 b (lt b o e)).trans e1]
 .let#[o',e1]:=I1.base.there b o e hx
  exact#[o',(hs.2 b (lt b o e)).trans e1]
 .have hj:j≠i:=by
   rintro rfl;rw[ba hiσ] at e2;cases e2
  rw[ai (bI hj)] at e2;let#[u',r',q]:=hl j y v' e1 (%[ai (bI hj)|e2]) e3;refine#[u',r',?_];rcases q with⟨k,e⟩|⟨k,c,e,z⟩
  .rwa[.inl #[k,?_]]
   have:y≠n:=λe=>hj (uK hN e1 (e▸hi))
   simp[this,e]
  .erw[.inr #[k,c,e,z.sameBut hs (I1.KO y c e)]]
 .let#[w',z]:=I1.cell y c e
  exact#[w',z.sameBut hs (I1.KO y c e)]
 .let#[e,n,ne,nf,d]:=I1.pin p hp
  exact#[(hs.2 p.1 ne).trans e,n,ne,nf,d]
 .rw[bR];erw[I.len]
end
abbrev XE(X:Cx)(pZ:List (Addr×Obj))(σ:St)(E:XK)(ex:Value)(s':av):Prop:=
 ∃(a:Addr)(tb:Option Addr)(c:Bool×Value)(dx:Option Addr)(H':Hp),ex=.ref a/\Inv X pZ σ H' s'/\nW s'.heap a c dx (tb.map λT=>(T,bx))/\(∀b∈a::tb.toList,vT X pZ H' b)/\E c dx H'
abbrev Ua(X:Cx)(pZ:List (Addr×Obj))(E:St->XK)(ex:Value)(s':av):Prop:=∃σ',XE X pZ σ' (E σ') ex s'
abbrev dG(X:Cx)(e:Expr)(t:XK->TE):Prop:=
 ∀(pZ:List (Addr×Obj))(s:av)(σ:St)(H:Hp)(Q:VK)(E:XK),Inv X pZ σ H s->t E σ H Q->wpAny (aS X.prog X.w) X.A (eval e X.env) (EP X pZ σ Q) (XE X pZ σ E) s
section
variable{X:Cx}{st:Stmt}{rest:List Stmt}{e:Expr}{es:List Expr}{pos p apos:Pos}
section
variable{k:Nat}{f C:Addr}{fd:dv}{ps:List Str}{sp:Sp}{dvs:List V}{ds:List Value}{x m:Str}{o:Expr}{ta:TE}{t:TA}
def tX(F:iz X.prog X.w X.K X.mg X.base (mP X.prog X.w) k f fd ps sp)(hr:jj k X.A)(hb:Binds X.K fd ps ds)(hd:Vals dvs ds)
  (I:Inv X pZ σ H s) (r:Vals vs us) (h:sp (vs++dvs) H Q E):wpAny (aS X.prog X.w) X.A (call (.ref f) us) (EP X pZ σ Q) (XE X pZ σ E) s:=by
 have r2:Vals (vs++dvs) (us++ds):=r.append hd;have hl:(us++ds).length=ps.length:=by rw[<-r2.length];erw[F.len _ _ _ _ h]
 rwa[mM (jV (F.run X.A X.stack s H #[us,[]] (us++ds) (vs++dvs) Q E hr I.K9 (hb s us I.jY hl) r2 h) λr s' hq=>?_)];cases r with
 |error e=>
  let#[a,T,c,dx,H',e1,I',x,fr,q]:=mP.inv I hq;exact#[a,ξ T,c,dx,H',e1,I',x,fr,q]
 |ok fl=>
  cases fl with
  |ret u=>erw[I.after hq]
  |next=>erw[aJ hq]
  |brk=>erw[aJ hq]
  |cont=>erw[aJ hq]
end
abbrev X2(K:Frag)(C':Addr)(i:Nat)(tb:(St->XK)->TS)(th:TS):TS:=λD σ H=>tb (λσ' c dx H'=>∃fl C bm,c=(fl,.ref C)/\mh K C bm/\(aL C::bm).contains (.ref C')=ζ/\∀a,H' a=ψ ->
 th {nx:=λσ2 H2=>D.nx (σ2.set i ψ) H2,rt:=D.rt,bk:=λσ2 H2=>D.bk (σ2.set i ψ) H2,ct:=λσ2 H2=>D.ct (σ2.set i ψ) H2} (σ'.set i (ξ (.ref a))) (upd H' a (.xc a c dx))) D σ H
end
abbrev pH(env:Env):List (Str×NameKind)->List (Str×Addr)->List (Str×Addr)
 |[],acc=>acc
 | (n,k)::r,acc=>pH env r (if k=.free then(n,(env.cells.lookup n).getD 0)::acc else acc)
def uZ(h:∀n,(n,bJ)∈scope.names->∃c,env.cells.lookup n=ξ c):closureFor scope env=pure (pH env scope.names []):=by
 have all:∀(l:List (Str×NameKind))(acc:List (Str×Addr)),(∀n,(n,bJ)∈l->∃c,env.cells.lookup n=ξ c) ->
   (forIn (m:=Sem) l acc λ(x:Str×NameKind)(cs:List (Str×Addr))=>if (x.2==.free)=ζ then do let c <-cellOf env x.1;pure (dY ((x.1,c)::cs)) else pure (dY cs))=pure (pH env l acc):=by
  intro l;induction l with
  |nil=>intro acc _;rfl
  |cons p r ih=>
   intro acc hl;let#[n,k]:=p;rw[nY]
   have hr:∀m,(m,bJ)∈r->∃c,env.cells.lookup m=ξ c:=λm hm=>hl m (ay _ hm)
   by_cases hk:k=.free
   .subst hk
    let#[c,hc]:=hl n aV;have e:cellOf env n=pure c:=by unfold cellOf;rw[hc]
    show(do let x <-(if (bJ==bJ)=ζ then do let c <-cellOf env n;pure (dY ((n,c)::acc)) else pure (dY acc));_)=_
    rw[if_pos ⋯,e]
    show(forIn (m:=Sem) r ((n,c)::acc) _)=_
    rw[ih _ hr]
    show _=pure (pH env r (if bJ=bJ then(n,(env.cells.lookup n).getD 0)::acc else acc))
    rw[if_pos rfl,hc]
    rfl
   .have hb:(k==bJ)=ϑ:=by simpa using hk
    show(do let x <-(if (k==bJ)=ζ then do let c <-cellOf env n;pure (dY ((n,c)::acc)) else pure (dY acc));_)=_
    rw[hb,if_neg ⋯]
    show(forIn (m:=Sem) r acc _)=_
    rw[ih _ hr]
    show _=pure (pH env r (if k=bJ then(n,(env.cells.lookup n).getD 0)::acc else acc))
    rw[if_neg hk]
 have:=all scope.names [] h;unfold closureFor;simpa using this
def sW:∀(l:List (Str×NameKind))(acc:List (Str×Addr))(y:Str)(c:Addr),(pH env l acc).lookup y=ξ c->(c=(env.cells.lookup y).getD 0/\(y,bJ)∈l)\/acc.lookup y=ξ c
 |[],acc,y,c,h=>.inr h
 | (n,k)::r,acc,y,c,h=>by
  rcases sW r _ y c h with⟨e,m⟩|q
  .erw[.inl #[e,ay _ m]]
  .by_cases hk:k=.free
   .rw[if_pos hk] at q
    by_cases e:y=n
    .subst e
     subst hk;rw[oM] at q;cases q;erw[.inl #[rfl,aV]]
    .rw[aQ,show(y==n)=ϑ by simpa using e] at q
     erw[.inr q]
   .rw[if_neg hk] at q
    erw[.inr q]
def Al:∀(l:List (Str×NameKind))(acc:List (Str×Addr))(y:Str),(∃c,acc.lookup y=ξ c)->∃c,(pH env l acc).lookup y=ξ c
 |[],_,_,h=>h
 | (n,k)::r,acc,y,h=>by
  rwa[Al r _ y ?_];by_cases hk:k=.free
  .rw[if_pos hk]
   by_cases e:y=n
   .subst e;exact#[_,oM]
   .rw[aQ,show(y==n)=ϑ by simpa using e];erw[h]
  .rw[if_neg hk];erw[h]
def u5:∀(l:List (Str×NameKind))(acc:List (Str×Addr))(y:Str),(y,bJ)∈l->∃c,(pH env l acc).lookup y=ξ c
 | (n,k)::r,acc,y,h=>by
  rcases aW.mp h with e|m
  .have e1:y=n:=congrArg Dp e
   have e2:bJ=k:=congrArg Prod.snd e;subst e1;rwa[Al r _ y ?_];rw[if_pos e2.symm]
   exact#[_,oM]
  .erw[u5 r _ y m]
def qg:∀(l:List (Str×NameKind))(n:Nat)(acc:List (Str×Addr)),iX n l acc=iX n l []++acc
 |[],_,_=>rfl
 | (y,k)::r,n,acc=>by
  unfold iX;split
  .rw[qg r _ ((y,n)::acc),qg r _ [(y,n)]];simp
  .erw[qg r n acc]
def yK:∀(l:List (Str×NameKind))(n:Nat)(y:Str)(c:Addr),(y,c)∈iX n l []->(y,fN)∈l
 | (z,k)::r,n,y,c,h=>by
  unfold iX at h;split at h
  .rename_i hk
   rw[qg] at h;rcases aT.mp h with h|h
   .erw[ay _ (yK r _ y c h)]
   .cases aX.mp h
    rw[beq_iff_eq.mp hk];erw[aV]
  .erw[ay _ (yK r n y c h)]
def yL:∀(l:List (Str×NameKind))(n:Nat)(y:Str),(y,fN)∈l->∃c,(y,c)∈iX n l []
 | (z,k)::r,n,y,h=>by
  unfold iX;rcases aW.mp h with e|h
  .cases e
   rw[if_pos (show(fN==fN)=ζ from rfl),qg]
   exact#[n,bb _ aV]
  .split
   .let#[c,q]:=yL r (n+1) y h
    rw[qg];exact#[c,eI _ q]
   .erw[yL r n y h]
def lX{α:Type}:∀{l:List (Str×α)}{y:Str}{c:α},(y,c)∈l->∃c',l.lookup y=ξ c'
 | (z,d)::r,y,c,h=>by
  rw[aQ]
  cases e:y==z with
  |true=>exact#[d,rfl]
  |false=>
   rcases aW.mp h with q|q
   .cases q;simp at e
   .erw[lX q]
abbrev rZ(scope:jh)(C:Addr):List (Str×Addr):=iX (C+1) scope.names []
abbrev Cx.u6(X:Cx)(scope:jh)(C:Addr)(N:List Str)(s₀:av)(H₀:Hp)(ex:List Addr):Cx:=
 {X with N:=N,s₀:=s₀,H₀:=H₀,env:=compEnvC scope (rZ scope C++pH X.env scope.names []) C X.env,outer:=X.stack,stack:=X.stack,ex:=ex,fn:=λy=>scope.names.lookup y==ξ .cell,pn:=[],xe:=λ_ _=>False}
structure Am(X:Cx)(scope:jh)(x:List Str):Prop where
 kind:scope.kind=.function
 nc:∀y∈scope.names,y.2=.cell->scope.names.lookup y.1=ξ .cell
 lo:∀y∈scope.names,y.2=.local->scope.names.lookup y.1=ξ .local
 fr:∀y∈scope.names,y.2=.free->X.env.scope.names.lookup y.1=ξ .cell
 nm:∀y∈x,scope.names.lookup y=ξ .local\/scope.names.lookup y=ξ .cell
 nd:x.Nodup
 lk:∀y,scope.names.lookup y=ξ .free->(y,bJ)∈scope.names
def gD{env : Env} : ∀(names : List (Str×NameKind))(x : Str)(k : NameKind),
    (names.map λ(n, k) => if (k==bJ&&env.scope.kind==.function&&env.kindOf n==ξ .cell) then (n, fN) else (n, k)).lookup x=ξ k -> names.lookup x=ξ k \/ (k=.cell /\ names.lookup x=ξ .free)
  |[], _, _, h => by cases h
  | (n, k0)::r, x, k, h => by
    rw [aA] at h;dsimp only at h;by_cases hc : (k0==bJ&&env.scope.kind==.function&&env.kindOf n==ξ .cell)=ζ
    · rw [if_pos hc] at h
      dsimp[aw, beq_iff_eq] at hc;by_cases e : (x==n)=ζ
      · rw [aQ, e] at h
        cases h;rwa[.inr #[rfl, ?_]];rw [aQ, e, hc.1.1]
      · have e' : (x==n)=ϑ := by simpa using e
        rw [aQ, e'] at h;rw [aQ, e'];erw[gD r x k h]
    · rw [if_neg hc] at h
      by_cases e : (x==n)=ζ
      · rw [aQ, e] at h
        cases h;rwa[.inl ?_];rw [aQ, e]
      · have e' : (x==n)=ϑ := by simpa using e
        rw [aQ, e'] at h;rw [aQ, e'];erw[gD r x k h]
section
variable{X:Cx}{pZ:List (Addr×Obj)}{σ:St}{H:Hp}{s:av}{scope:jh}{x:List Str}
def Am.cells(B:Am X scope x)(ok:X.Ok):∀n,(n,bJ)∈scope.names->∃c,X.env.cells.lookup n=ξ c:=λn hn=>ok.has n (.inl (B.fr _ hn rfl))
def Am.cl(B:Am X scope x)(ok:X.Ok)(h:(pH X.env scope.names []).lookup y=ξ c):X.env.cells.lookup y=ξ c/\X.env.scope.names.lookup y=ξ .cell:=by
 rcases sW _ _ _ _ h with⟨e,m⟩|q
 .let#[c',hc']:=B.cells ok y m
  rw[hc'] at e;rw[e]
  exact#[hc',B.fr _ m rfl]
 .cases q
def qh(B:Am X scope x)(h:(rZ scope C++pH X.env scope.names []).lookup y=ξ c):
  ((y,c)∈rZ scope C/\scope.names.lookup y=ξ .cell)\/((rZ scope C).lookup y=ψ/\(pH X.env scope.names []).lookup y=ξ c):=by
 rw[Ge] at h;cases q:(rZ scope C).lookup y with
 |some d=>rw[q] at h;cases h;have m:=cL q;erw[.inl #[m,B.nc _ (yK _ _ _ _ m) rfl]]
 |none=>rw[q] at h;erw[.inr #[rfl,h]]
def An(B:Am X scope x)(hf:scope.names.lookup y=ξ .free)(h:(pH X.env scope.names []).lookup y=ξ c):(rZ scope C++pH X.env scope.names []).lookup y=ξ c:=by
 rw[Ge]
 cases q:(rZ scope C).lookup y with
 |some d=>have z:=B.nc _ (yK _ _ _ _ (cL q)) rfl;rw[hf] at z;cases z
 |none=>erw[h]
def Ao{α:Type}{l:List (Str×α)}(h:l.Pairwise λx y=>x.2≠y.2):∀{a b:Str×α},a∈l->b∈l->a.2=b.2->a=b:=by
 induction h with
 |nil=>intro a b h;erw[nomatch h]
 |cons q _ ih=>
  intro a b ha hb e;rcases aW.mp ha with ea|ha'<;>rcases aW.mp hb with eb|hb'
  .rw[ea,eb]
  .subst ea;erw[absurd e (q _ hb')]
  .subst eb;erw[absurd e.symm (q _ ha')]
  .erw[ih ha' hb' e]
def Inv.block{C:Addr}{h':Heap}{t':Nat}{ex:List Addr}{N:List Str}{τ:St}(I:Inv X pZ σ H s)(B:Am X scope x)(hC:C=s.heap.objs.size)(hns:h'.Ns C λ_=>ψ)(oc:CellsOk h' (C+1) (rZ scope C))
  (kp:∀b o,s.heap.get? b=ξ o->h'.get? b=ξ o) (hex:∀b∈ex,pG X pZ H b/\b<s.heap.objs.size) (hl:τ.length=N.length)
  (hτ:∀(i:Nat)(y:Str)(v:V),N[i]?=ξ y->τ[i]?=ξ (ξ v)->scope.names.lookup y=ξ .free/\∃j:Nat,X.N[j]?=ξ y/\σ[j]?=ξ (ξ v)):
  Inv (X.u6 scope C N s H ex) [] τ H {s with heap:=h',toks:=t'}:=by
 have ok:=I.ok;have cleq:∀y c,(X.u6 scope C N s H ex).env.cells.lookup y=ξ c->((y,c)∈rZ scope C/\h'.IsCell c ψ/\C<c)\/(X.env.cells.lookup y=ξ c/\X.env.scope.names.lookup y=ξ .cell):=λy c e=>by
  rcases qh B e with q|q
  .erw[.inl #[q.1,oc.empty y c q.1]]
  .erw[.inr (B.cl ok q.2)]
 have old:∀y c,X.env.cells.lookup y=ξ c->c<C:=λy c e=>by
  let#[v,q]:=I.cell y c e;rw[hC];erw[q.lt]
 have hfr:H C=ψ:=%[hC|I.ck.fresh (ar _)]
 refine#[#[ok.mod,B.kind,ok.glob,ok.blt,BE hC.symm,λy z c h1 h2=>?_,λy hy=>?_,λy c z e=>?_,ok.hd,ok.frames,.inl rfl,λb hb=>?_,λb o e=>I.bs b o e,aP ok.GQ I.sz,λb o e hb=>?_,λb hb=>?_,I.stack,I.yC],
  rfl,I.bare,Un.kept kp,#[_,hns,λi y v e1 e2 e3=>?_],λy c e=>?_,hfr,λy c e=>?_,λp hp=>absurd (show p∈([]:List (Addr×Obj)) from hp) (#v[]),I.ck.kept kp,hl]
 .rcases cleq y c h1 with⟨m1,_,l1⟩|q1<;>rcases cleq z c h2 with⟨m2,_,l2⟩|q2
  .erw[congrArg Dp (Ao oc.apart m1 m2 rfl)]
  .erw[absurd (old z c q2.1) (i8.mpr (cv l1))]
  .erw[absurd (old y c q1.1) (i8.mpr (cv l2))]
  .erw[ok.inj y z c q1.1 q2.1]
 .have own:(y,fN)∈scope.names->∃c,(X.u6 scope C N s H ex).env.cells.lookup y=ξ c:=λm=>by
   let#[c,q]:=yL _ (C+1) _ m;erw[lX (eI _ q)]
  have Kk:scope.names.lookup y=ξ .free->∃c,(X.u6 scope C N s H ex).env.cells.lookup y=ξ c:=λm=>by
   let#[c,q]:=u5 (env:=X.env) scope.names [] y (B.lk y m);exact#[c,An B m q]
  rcases hy with h|h
  .rcases gD (env:=X.env) scope.names y .cell h with q|q
   .erw[own (cL q)]
   .erw[Kk q.2]
  .rcases gD (env:=X.env) scope.names y .free h with q|q
   .erw[Kk q]
   .erw[absurd q.1 ⋯]
 .rcases cleq y c e with q|q
  .show s.heap.objs.size<=c
   rw[<-hC];erw[cv q.2.2]
  .have z:scope.names.lookup y=ξ .cell:=beq_iff_eq.mp z
   rcases qh B e with w|w
   .erw[absurd (old y c q.1) (i8.mpr (cv (oc.empty y c w.1).2))]
   .let#[d,m]:=yL _ (C+1) _ (cL z)
    let#[d',m']:=lX m;rw[show(rZ scope C).lookup y=ξ d' from m'] at w;cases w.1
 .refine#[λz=>?_,λy c e z=>?_]
  .have:=(hex b hb).2
   rw[z,show(X.u6 scope C N s H ex).env.locals=C from rfl,hC] at this;erw[absurd this (cV _)]
  .rcases cleq y c e with q|q
   .have:=(hex b hb).2
    rw[<-z,<-hC] at this;erw[absurd this (i8.mpr (cv q.2.2))]
   .exact(hex b hb).1.2.2.2.2.1 y c q.1 z
 .let#[f0,f1,f2,f3,f4,f5]:=(hex b hb).1
  rcases f3 with z|z
  .erw[ok.z6 b o e z]
  .erw[absurd (au (aU (ok.bs b o e).1) z) (cV _)]
 .let#[f0,f1,f2,_]:=(hex b hb).1
  intro z;rcases aW.mp (I.uJ b z) with q|q
  .erw[f1 q]
  .erw[f2 q]
 .let#[hf,j,hj,hv]:=hτ i y v e1 e2
  let#[m,_,hlk]:=I.loc;have hcell:=B.fr _ (B.lk y hf) rfl;let#[u,r,l]:=hlk j y v hj hv (.inr (.inl hcell));refine#[u,r,.inr #[?_,?_]]
  .show(GF scope X.env).names.lookup y=ξ .cell\/(GF scope X.env).names.lookup y=ξ .free
   have:=e3;rcases this with q|q|q
   .rcases gD (env:=X.env) scope.names y .local q with z|z
    .rw[hf] at z;cases z
    .erw[absurd z.1 ⋯]
   .erw[.inl q]
   .erw[.inr q]
  .rcases l with⟨k,_⟩|⟨_,c,hc,z⟩
   .have k':X.env.scope.names.lookup y=ξ .local:=k
    rw[hcell] at k';cases k'
   .let#[c',hc']:=u5 (env:=X.env) scope.names [] y (B.lk y hf)
    have hc2:=(B.cl ok hc').1;rw[hc] at hc2;cases hc2;let#[o,ho,hd]:=z;exact#[c,An B hf hc',#[o,kp _ _ ho,hd]]
 .rcases cleq y c e with q|q
  .exact#[ψ,q.2.1]
  .let#[v,o,ho,hd]:=I.cell y c q.1
   exact#[v,o,kp _ _ ho,hd]
 .rcases cleq y c e with q|q
  .erw[I.ck.fresh (by rw[<-hC];exact cv q.2.2)]
  .erw[I.kP y c q.1]
def Inv.Lu(I:Inv X pZ σ H s)(J:Inv (X.u6 scope C N s H ex) [] τ H' s')(hex:∀b∈ex,pG X pZ H b):Inv X pZ σ H' s':=
 I.NH (ch:=ex) J.os J.base J.ck J.bare λb hb=>#[(hex b hb).2.2.2.1,(hex b hb).2.1,(hex b hb).2.2.2.2.1,(hex b hb).2.2.2.2.2]
end
abbrev Lw(X:Cx)(ifs:List Expr)(t:TT):Prop:=
 ∀(pZ:List (Addr×Obj))(s:av)(σ:St)(H:Hp)(Q:Bool->Hp->Prop),Inv X pZ σ H s->t σ H Q ->
  wpAny (aS X.prog X.w) X.A (forIn ifs ζ λc r=>if r=ζ then do let ok <-isTrue c X.env (eval c X.env);pure (dY ok) else pure (dY r)) (TP X pZ σ Q) X.xe s
abbrev Ub:TT:=λ_ H Q=>Q ζ H
def Lx:Lw X [] Ub:=λ_ _ _ H _ I q=>wpAny_tests_nil #[H,I,q]
def Lz(h:PT X c t):Lw X [c] t:=λpZ s σ H Q I q=>wpAny_tests_one (h pZ s σ H Q I q)
abbrev gE(σ:St)(ci:List Nat):St:=ci.map λj=>(σ[j]?).join
abbrev Uc(K:Frag)(pr:Bool)(y:V)(H:Hp)(k:St->Prop):Prop:=match pr with
 |false=>k [ξ y]
 |true=>∃p a b,y=.ref p/\nB K H p [a,b]/\k [ξ a,ξ b]
@[reducible]def NO(bd:V->Hp->(St->Prop)->Prop)(J:It)(D:Addr)(tc:TT)(te:TE)(caps:St)(R:Hp->Prop)(H1:Hp):Prop:=
 ∃W:Nat->Nat->List V->Hp->Prop,(∃m,W 0 m [] (upd H1 D (.lst [])))/\∀i m acc H2,W i m acc H2->H2 D=ξ (.lst acc)/\acc.length<sizeLine /\
  ((J.stop i H2/\R H2)\/(J.go i H2/\∀y H3,J.Tn i H2 y H3->bd y H3 λτ=>tc (τ++caps) H3 λb H4=>
   if b=ζ then te (τ++caps) H4 λz H5=>H5 D=ξ (.lst acc)/\∃m',m'<m/\W (i+1) m' (acc++[z]) (upd H5 D (.lst (acc++[z]))) else ∃m',m'<m/\W (i+1) m' acc H4))
abbrev Hv(bd:V->Hp->(St->Prop)->Prop)(wi:TI)(ci:List Nat)(tc:TT)(te:TE):TE:=λσ H Q=>wi σ H λJ H1=>∀D,H1 D=ψ->NO bd J D tc te (gE σ ci) (λH2=>Q (.ref D) H2) H1
structure yM(X:Cx)(scope:jh)(cn:List Str)(ci:List Nat):Prop where
 len:ci.length=cn.length
 at_:∀(k:Nat)(y:Str),cn[k]?=ξ y->∃j:Nat,ci[k]?=ξ j/\X.N[j]?=ξ y
 fr:∀y∈cn,scope.names.lookup y=ξ .free
section
variable{X:Cx}{pZ:List (Addr×Obj)}{σ:St}{H:Hp}{s:av}{scope:jh}{x:List Str}
def LA{M:Kr}{A:cf}{E:Value->av->Prop}{s:av}{scope:jh}{globals:Addr}{cl:List (Str×Addr)}{qual:Str}{env:Env}{Q:Env->av->Prop}
  (hQ:Q (newEnv scope s.heap.objs.size globals (rZ scope s.heap.objs.size++cl) qual ψ .none (ξ env) BD) {s with heap:=pushCells (s.heap.push {cls:=.type "dict",data:=.dict #[]}) scope.names}):
  wpAny M A (BJ scope globals cl [] qual ψ .none (ξ env)) Q E s:=by
 dsimp[BJ,Dn,if_true];refine ae (wpAny_alloc ?_);refine ae (wpAny_layCells _ (λname kind cells=>by cases hkc:kind==fN<;>simp[hkc]) _ _ _ _ ?_);rw[show({s with heap:=s.heap.push {cls:=.type "dict",data:=.dict #[]} }:av).heap.objs.size=s.heap.objs.size+1 from gV ..,qg]
 erw[ae (ao (ao hQ))]
def r6{cn:List Str}{X:Cx}{scope:jh}{ci:List Nat}(cp:yM X scope cn ci)(B:Am X scope x)(hn:cn.Nodup):(x++cn).Nodup:=
 dE.mpr #[B.nd,hn,λy hy z hz e=>(by
  subst e;have q:=cp.fr y hz;rcases B.nm y hy with z|z<;>(rw[z] at q;cases q))]
abbrev Sy(X:Cx)(tg:Expr)(scope:jh)(x cn:List Str)(bd:V->Hp->(St->Prop)->Prop):Prop:=
 ∀(C:Addr)(s₀:av)(H₀:Hp)(ex:List Addr)(pZ:List (Addr×Obj))(s:av)(τ caps:St)(H:Hp)(v:V)(u:Value)(k:St->Prop),Inv (X.u6 scope C (x++cn) s₀ H₀ ex) pZ (τ++caps) H s->τ.length=x.length->RelV v u->bd v H k ->
  wpAny (aS X.prog X.w) X.A (yh tg (X.u6 scope C (x++cn) s₀ H₀ ex).env u) (λ_ s'=>∃τ',τ'.length=x.length/\Inv (X.u6 scope C (x++cn) s₀ H₀ ex) pZ (τ'++caps) H s'/\k τ') (λ_ _=>False) s
def mR{env : Env}{k : NameKind}(hk : k≠.free) : ∀{names : List (Str×NameKind)}{x : Str}, names.lookup x=ξ k ->
    (names.map λ(n, k) => if (k==bJ&&env.scope.kind==.function&&env.kindOf n==ξ .cell) then (n, fN) else (n, k)).lookup x=ξ k
  | (n, k')::r, x, h => by
    rw [aA];dsimp only;rw [aQ] at h;cases e : x==n with
    |true =>
      rw [e] at h; cases h;rw [if_neg (by simp [hk]), aQ, e]
    |false =>
      rw [e] at h;split <;> (rw [aQ, e]; exact mR hk h)
def Am.loc(B:Am X scope x){C:Addr}{N:List Str}{s₀:av}{H₀:Hp}{ex:List Addr}{y:Str}(hy:y∈x):
  Loc (X.u6 scope C N s₀ H₀ ex).env.scope y/\((X.u6 scope C N s₀ H₀ ex).fn y=ζ\/(X.u6 scope C N s₀ H₀ ex).env.scope.names.lookup y=ξ .local):=by
 rcases B.nm y hy with z|z
 .have q:=mR (env:=X.env) (k:=.local) (by intro e;cases e) z
  exact#[.inl q,.inr q]
 .exact#[.inr (mR (env:=X.env) (k:=.cell) (by intro e;cases e) z),.inl (beq_iff_eq.mpr z)]
def Ud{α:Type}{l:List α}(h:l.length=2):∃a b,l=[a,b]:=by
 cases l with
 |nil=>cases h
 |cons a t=>let#[b,e]:=jq.mp (mF h);exact#[a,b,by rw[e]]
def Hw(B:Am X scope [y])(cp:yM X scope cn ci)(hnd:cn.Nodup):Sy X (.Name y py) scope [y] cn (Uc X.K ϑ):=by
 intro C s₀ H₀ ex pZ s τ caps H v u k I hl r h;have hx:=B.loc (C:=C) (N:=[y]++cn) (s₀:=s₀) (H₀:=H₀) (ex:=ex) (y:=y) (#v[]);let#[o,rfl]:=jq.mp hl;erw[v5 (kQ I (r6 cp B hnd) (i:=0) rfl hx.1 r (λs8 J8=>#[[ξ v],rfl,J8,h]) hx.2)]
def Hx{y z:Str}{py pz pt:Pos}{n:Nat}{cn:List Str}{ci:List Nat}(B:Am X scope [y,z])(cp:yM X scope cn ci)(hnd:cn.Nodup)(hc:X.calm=ζ):Sy X (.Tuple [.Name y py,.Name z pz] n pt) scope [y,z] cn (Uc X.K ζ):=by
 intro C s₀ H₀ ex pZ s τ caps H v u k I hl r h;have hy:=B.loc (C:=C) (N:=[y,z]++cn) (s₀:=s₀) (H₀:=H₀) (ex:=ex) (y:=y) (#v[]);have hz:=B.loc (C:=C) (N:=[y,z]++cn) (s₀:=s₀) (H₀:=H₀) (ex:=ex) (y:=z) (#v[]);have nd:=r6 cp B hnd;let#[p,a,b,e,hq,q]:=h;let#[o,o',rfl]:=Ud hl;rwa[bg (GV (X:=X.u6 scope C ([y,z]++cn) s₀ H₀ ex) (pos:=pt) (k:=n) hc (qI (qH (i:=0) (pos:=py) nd rfl hy.1 hy.2) (qI (qH (i:=1) (pos:=pz) nd rfl hz.1 hz.2) DA)) rfl rfl pZ s _ H v u (λσ' H'=>H'=H/\σ'=[ξ a,ξ b]++caps) I r ?_) (λ_ s' #[σ',H',I',e1,e2]=>?_) λ_ _ z=>z]
 .exact#[p,[a,b],e,hq,rfl,a,[b],rfl,b,[],rfl,rfl,rfl,rfl]
 .subst e1 e2
  exact#[[ξ a,ξ b],rfl,I',q]
def Aq{elt iter tg:Expr}{bd:V->Hp->(St->Prop)->Prop}{pos:Pos}{ifs:List Expr}{it:Addr}{fp:List Addr}{tn:Nat->Heap->Prop}{J:It}{tc:TT}{te:TE}{cn:List Str}{ci:List Nat}{RR:Value->Addr->Result->av->Prop}{Rq:Addr->Hp->Prop}{E:Value->av->Prop}
  (I:Inv X pZ σ H s) (B:Am X scope x) (cp:yM X scope cn ci) (hnd:cn.Nodup) (hcalm:X.calm=ζ) (ht:Sy X tg scope x cn bd) (T:Turn X.prog X.w X.K tg J fp it tn) (t0:tn 0 s.heap) (hf:∀b∈fp,pG X pZ H b)
  (hc:∀C s₀ H₀ ex,Lw (X.u6 scope C (x++cn) s₀ H₀ ex) ifs tc) (he:∀C s₀ H₀ ex,PE (X.u6 scope C (x++cn) s₀ H₀ ex) elt te)
  (h:∀D,H D=ψ->NO bd J D tc te (gE σ ci) (Rq D) H)
  (fin:∀C D H5 s5,Inv X pZ σ H5 s5->Rq D H5->(∃m,s5.heap.Ns C m)->vT X pZ H5 C->RR (.ref D) C (.ok .next) s5):
  wpAny (aS X.prog X.w) X.A (newList []) (λacc s₃=>wpAny (aS X.prog X.w) X.A (BJ scope X.env.globals (pH X.env scope.names []) [] X.env.qual ψ .none (ξ X.env)) (λcenv s₄=>
   nQ (aS X.prog X.w) X.A (.compStart (.ListComp elt [#[tg,iter,ifs,0]] scope pos) 0 (.ref it) acc {cenv with scope:=GF scope X.env}) (RR acc cenv.locals) s₄) E s₃) E s:=by
 have ok:=I.ok;let#[W,#[m0,w0],turn]:=h s.heap.objs.size (I.ck.fresh (ar _));generalize hD:s.heap.objs.size=D at turn w0;refine iu ?_;have I2:Inv X pZ σ (upd H D (.lst [])) {s with heap:=s.heap.push {cls:=.type "list",dict:=ψ,data:=.seq ([]:List Value).toArray} }:=by
  have:=I.TU (its:=[]) (ys:=[]) (t':=s.toks) .nil (bC _);rw[hD] at this;erw[this]
 generalize hH2:s.heap.push {cls:=.type "list",dict:=ψ,data:=.seq ([]:List Value).toArray}= h2 at I2 ⊢;have k2:∀b o,s.heap.get? b=ξ o->h2.get? b=ξ o:=λb o e=>by rw[<-hH2];erw[az _ e]
 have sz2:h2.objs.size=s.heap.objs.size+1:=by rw[<-hH2,gV]
 have fpl:∀b∈fp,b<s.heap.objs.size:=λb hb=>by
  let#[o,e,_]:=T.obj _ _ t0 b hb;erw[aU e]
 have nD:∀b∈fp,b≠D:=λb hb=>by rw[<-hD];erw[a6 (fpl b hb)]
 have hf2:∀b∈fp,pG X pZ (upd H D (.lst [])) b:=λb hb=>#[by rw[a7 (nD b hb)];exact(hf b hb).1,(hf b hb).2]
 have t2:tn 0 h2:=T.keep _ _ _ t0 λb _ o e=>k2 b o e
 show wpAny _ _ _ _ _ {s with heap:=h2}
 rwa[LA ?_];generalize hH3:pushCells (h2.push {cls:=.type "dict",data:=.dict #[]}) scope.names=h3;have kp3:∀b o,h2.get? b=ξ o->h3.get? b=ξ o:=λb o e=>by rw[<-hH3];erw[pushCells_keeps _ _ b o (az _ e)]
 have ns3:h3.Ns h2.objs.size λ_=>ψ:=by rw[<-hH3];exact(Heap.Ns.new h2 (.type "dict")).keeps (pushCells_keeps _ _)
 have oc3:CellsOk h3 (h2.objs.size+1) (rZ scope h2.objs.size):=by
  have:=cellsFrom_ok scope.names (h2.push {cls:=.type "dict",data:=.dict #[]}) (h2.objs.size+1) [] #[λ_ _ hm=>(nomatch hm),wK] (%[gV|ar _]);rw[gV,hH3] at this;erw[this]
 have hl:((x.map λ_=>ψ)++gE σ ci:St).length=(x++cn).length:=by
  rw[aC,aC,ah,gE,ah,cp.len]
 have J3:Inv (X.u6 scope h2.objs.size (x++cn) {s with heap:=h2} (upd H D (.lst [])) fp) [] ((x.map λ_=>ψ)++gE σ ci) (upd H D (.lst [])) {s with heap:=h3,toks:=s.toks+0}:=
  I2.block (s:={s with heap:=h2}) (h':=h3) (t':=s.toks+0) (N:=x++cn) B rfl ns3 oc3 kp3 (λb hb=>#[hf2 b hb,by rw[sz2];exact a8 (fpl b hb)]) hl (λi y v e1 e2=>by
   by_cases lt:i<x.length
   .rw[aq (~~~lt),aE,af lt] at e2
    cases e2
   .have e1':cn[i-x.length]?=ξ y:=by rw[aB ∅] at e1;erw[e1]
    have e2':(gE σ ci)[i-x.length]?=ξ (ξ v):=by rw[aB (~~~lt),ah] at e2;erw[e2]
    refine#[cp.fr y (ax e1'),?_];let#[j,hj,hy]:=cp.at_ _ y e1';refine#[j,hy,?_];rw[gE,aE,hj] at e2';have e3:(σ[j]?).join=ξ v:=aG e2';cases q:σ[j]? with
    |none=>rw[q] at e3;cases e3
    |some w=>rw[q] at e3;erw[congrArg ξ e3])
 generalize hY:X.u6 scope h2.objs.size (x++cn) {s with heap:=h2} (upd H D (.lst [])) fp=Y at J3;have ePr:Y.prog=X.prog:=by rw[<-hY];rfl
 have eW:Y.w=X.w:=by rw[<-hY];rfl
 have eK:Y.K=X.K:=by rw[<-hY];rfl
 have eC:Y.calm=ζ:=by rw[<-hY];erw[hcalm]
 have eA:Y.A=X.A:=by rw[<-hY];rfl
 have eE:Y.env=compEnvC scope (rZ scope h2.objs.size++pH X.env scope.names []) h2.objs.size X.env:=by rw[<-hY];rfl
 have hPc:Lw Y ifs tc:=by rw[<-hY];erw[hc _ _ _ _]
 have hPe:PE Y elt te:=by rw[<-hY];erw[he _ _ _ _]
 have eN:Y.N=x++cn:=by rw[<-hY];rfl
 have eX:Y.xe=λ_ _=>False:=by rw[<-hY];rfl
 have TY:Turn Y.prog Y.w Y.K tg J fp it tn:=%[ePr,eW,eK|T]
 have fpY:∀{H':Hp},(∀b∈fp,H' b=ψ)->∀b∈fp,pG Y [] H' b:=λhn b hb=>by
  let#[f0,f1,f2,f3,f4,f5]:=hf2 b hb;have lt2:b<h2.objs.size:=%[sz2|a8 (fpl b hb)]
  refine#[hn b hb,λz=>?_,λz=>?_,.inl (by rw[<-hY];erw[hb]),λy c e=>?_,λp hp=>?_]
  .have z':b=h2.objs.size:=by rw[eE] at z;erw[z]
   erw[absurd lt2 (by rw[z'];exact cV _)]
  .have z':b∈wj X.stack:=by rw[<-hY] at z;erw[z]
   rcases aW.mp (I.uJ b z') with q|q
   .erw[f1 q]
   .erw[f2 q]
  .rw[eE] at e
   rcases qh B e with q|q
   .intro z
    have:=(oc3.empty y c q.1).2;rw[z] at this;erw[absurd lt2 (i8.mpr (cv this))]
   .erw[f4 y c (B.cl ok q.2).1]
  .have:p∈([]:List (Addr×Obj)):=by rw[<-hY] at hp;erw[hp]
   erw[absurd this (#v[])]
 have loop:∀s4:av,s4={s with heap:=h3,toks:=s.toks+0}->nQ (aS X.prog X.w) X.A (.compLoop (.ListComp elt [#[tg,iter,ifs,0]] scope pos) 0 (.ref it) (.ref D) Y.env) (RR (.ref D) h2.objs.size) s4:=by
  rintro s4 rfl;rwa[codeAny_loop rfl (λn s'=>∃i acc τ H',τ.length=x.length/\Inv Y [] (τ++gE σ ci) H' s'/\tn i s'.heap/\(∀b∈fp,H' b=ψ)/\W i n acc H') ?_ m0 #[0,[],x.map λ_=>ψ,_,#v[],J3,T.keep _ _ _ t2 λb _ o e=>kp3 b o e,λb hb=>(hf2 b hb).1,w0]];rintro n s5 ⟨i,acc,τ,H5,hτ,J5,t5,f5,w5⟩;let#[hD5,hz5,alt]:=turn i n acc H5 w5;show wpAny _ X.A ((compTurn (.ListComp elt [#[tg,iter,ifs,0]] scope pos) 0 (.ref it) (.ref D) Y.env).onRaise (λx=>do sO x Y.env;theTreesLotGoes x)) _ _ s5;rwa[wpAny_noted ?_];rw[compTurn_list,<-eA]
  rcases alt with⟨stop,q5⟩|⟨go,step⟩
  .rwa[ae (gY (ae ?_))]
   rw[<-ePr,<-eW]
   rwa[dS (TY.done Y rfl rfl rfl eC i [] s5 _ H5 _ J5 (fpY f5) t5 stop) λr s6 h9=>?_]
   let#[hr,J6]:=h9;subst hr;rwa[ao ?_];have J6':Inv (X.u6 scope h2.objs.size (x++cn) {s with heap:=h2} (upd H D (.lst [])) fp) [] (τ++gE σ ci) H5 s6:=%[hY|J6]
   have I6:=I2.Lu J6' hf2;let#[m6,ns6,_]:=J6'.loc;have fC:=I2.Kk (b:=h2.objs.size) (ar _);erw[fin h2.objs.size D H5 s6 I6 q5 #[m6,ns6] #[J6'.free,fC.2]]
  .rwa[ae (gY (ae ?_))]
   rw[<-ePr,<-eW]
   rwa[dS (TY.item Y rfl rfl rfl eC i [] s5 _ H5 _ J5 (fpY f5) t5 go) λr s6 h9=>?_]
   let#[u,hr,h6]:=h9;subst hr;rwa[ae ?_];rw[eA,<-eA]
   rwa[dS h6 λ_ s7 h9=>?_]
   let#[y,H7,J7,r7,y7,t7,f7]:=h9;have J7':=J7.pinned (fpY f7) (T.obj _ _ t7);have noE:∀{α:Type}{t:Sem α}{Q:α->av->Prop}{E:Value->av->Prop}{s:av},wpAny (aS Y.prog Y.w) Y.A t Q Y.xe s->wpAny (aS Y.prog Y.w) Y.A t Q E s:=λh=>bg h (λ_ _ z=>z) λ_ _ z=>by rw[eX] at z;erw[z.elim]
   have ht':wpAny (aS Y.prog Y.w) Y.A (yh tg Y.env u) (λ_ s8=>∃τ',τ'.length=x.length/\Inv Y ([]++rQ fp s7.heap) (τ'++gE σ ci) H7 s8/\tc (τ'++gE σ ci) H7 λb H4=>
     if b=ζ then te (τ'++gE σ ci) H4 λz H5=>H5 D=ξ (.lst acc)/\∃m',m'<n/\W (i+1) m' (acc++[z]) (upd H5 D (.lst (acc++[z]))) else ∃m',m'<n/\W (i+1) m' acc H4) (λ_ _=>False) s7:=by
    have st:=step y H7 y7;subst hY;erw[ht _ _ _ _ _ s7 τ _ H7 y u _ J7' hτ r7 st]
   refine ae (bg ht' (λ_ s8 h9=>?_) λ_ _ z=>z.elim);let#[τ',hτ',J8',q8]:=h9;refine ae (noE (dS (hPc _ s8 _ H7 _ J8' q8) λb s9 h9=>?_));let#[H9,J9,q9]:=h9;have again:∀{acc':List V}{H':Hp}{s':av},Inv Y ([]++rQ fp s7.heap) (τ'++gE σ ci) H' s'->(∃m',m'<n/\W (i+1) m' acc' H')->∃m,m<n/\∃i acc τ H',τ.length=x.length/\Inv Y [] (τ++gE σ ci) H' s'/\tn i s'.heap/\(∀b∈fp,H' b=ψ)/\W i m acc H':=λ{acc' H' s'}J' ⟨m',lt,w'⟩=>by
    refine#[m',lt,i+1,acc',τ',H',hτ',J'.oo,T.keep _ _ _ t7 λb hb o e=>(J'.pin (b,o) (bb _ (bb _ (jv hb e)))).1,λb hb=>?_,w'];let#[o,e,d]:=T.obj _ _ t7 b hb;exact(J'.pin (b,o) (bb _ (bb _ (jv hb e)))).2.1
   cases b with
   |false=>erw[ao #[rfl,again J9 q9]]
   |true=>
    rwa[ae (ae (noE (dS (hPe _ s9 _ H9 _ J9 q9) λv s10 h9=>?_)))];let#[z,H10,J10,r10,hD10,q10]:=h9;rwa[ae (noE (dS (rV _ s10 _ H10 (.ref D) [z] (.ref D) [v] (λ_ H11=>H11=upd H10 D (.lst (acc++[z]))) J10 rfl (.cons r10 .nil) #[D,acc,z,rfl,rfl,hD10,hz5,rfl]) λv11 s11 h9=>?_))];let#[z11,H11,J11,_,e11]:=h9;subst e11;erw[ao (ao #[rfl,again J11 q10])]
 rw[eE] at loop;subst hD;erw[codeAny_compStart_list (loop _ rfl) (T.self _ 0 _ _ _ (T.keep _ _ _ t2 λb _ o e=>kp3 b o e) (loop _ rfl))]
def LB{elt iter tg:Expr}{bd:V->Hp->(St->Prop)->Prop}{pos:Pos}{ifs:List Expr}{wi:TI}{tc:TT}{te:TE}{cn:List Str}{ci:List Nat}(B:Am X scope x)(cp:yM X scope cn ci)(hnd:cn.Nodup)(hcalm:X.calm=ζ)(ht:Sy X tg scope x cn bd)(hi:PI X tg iter wi)
  (hc:∀C s₀ H₀ ex,Lw (X.u6 scope C (x++cn) s₀ H₀ ex) ifs tc) (he:∀C s₀ H₀ ex,PE (X.u6 scope C (x++cn) s₀ H₀ ex) elt te) (hs:∀x,foldedSetIterable iter X.env x=pure x:=by intro _;rfl):
  PE X (.ListComp elt [#[tg,iter,ifs,0]] scope pos) (Hv bd wi ci tc te):=by
 k_go;rw[eval_ListComp]
 rwa[EJ (use:=ψ) rfl hs (uZ (B.cells I.ok)) B.kind B.lo (dS (hi pZ s σ H _ I h) λv s1 h1=>dS h1 λitv s2 h2=>?_)];let#[it,fp,tn,J,H2,e,I2,T,t2,f2,q]:=h2;subst e;rwa[Aq (RR:=λacc C=>compPost (aS X.prog X.w) X.A X.xe ψ (EP X pZ σ Q) acc C) (Rq:=λD H2=>Q (.ref D) H2) I2 B cp hnd hcalm ht T t2 f2 hc he q λC D H5 s5 I5 q5 hn fC=>?_]
 let#[m,hm]:=hn;refine#[m,hm,λh' sb=>#[.ref D,H5,?_,rfl,q5]];erw[I5.turned (it:=C) (t':=s5.toks) (λb o hb e=>(sb.2 b hb).trans e) fC.1 fC.2.2.1 (.inr fC.2.1) fC.2.2.2.1 fC.2.2.2.2]
def Cf{elt iter tg:Expr}{bd:V->Hp->(St->Prop)->Prop}{py pos spos:Pos}{ifs:List Expr}{wi:TI}{tc:TT}{te:TE}{cn:List Str}{ci:List Nat}{i:Nat}{y:Str}(B:Am X scope x)(cp:yM X scope cn ci)(hnd:cn.Nodup)(hcalm:X.calm=ζ)(ht:Sy X tg scope x cn bd)(hi:PI X tg iter wi)
  (hc:∀C s₀ H₀ ex,Lw (X.u6 scope C (x++cn) s₀ H₀ ex) ifs tc) (he:∀C s₀ H₀ ex,PE (X.u6 scope C (x++cn) s₀ H₀ ex) elt te) (hN:X.N.Nodup) (hy:X.N[i]?=ξ y) (hk:X.env.scope.names.lookup y=ξ .local)
  (hsw:fV (.ListComp elt [#[tg,iter,ifs,0]] scope pos) (ξ (.Name y py)) spos.line X.env=pure ζ) (hs:∀x,foldedSetIterable iter X.env x=pure x:=by intro _;rfl):
  PS X (.Assign [.Name y py] (.ListComp elt [#[tg,iter,ifs,0]] scope pos) spos) (Th (Hv bd wi ci tc te) (wY i)):=by
 intro pZ s σ H D I h;rw[exec_Assign_Name_used _ _ _ _ hsw]
 refine ae (gY (ae ?_));show wpAny _ X.A (do let _ <-comprehension (.ListComp elt [#[tg,iter,ifs,0]] scope pos) scope X.env _ (newList []) ϑ (eval iter X.env) (ξ (yh (.Name y py) X.env))) _ _ s;refine ae (bg (EJ (use:=ξ (yh (.Name y py) X.env)) (Q:=λ_ s'=>SP X pZ D .next s') rfl hs (uZ (B.cells I.ok)) B.kind B.lo (dS (hi pZ s σ H _ I h) λv s1 h1=>dS h1 λitv s2 h2=>?_))
  (λ_ s' hq=>ao (ao hq)) λ_ _ e=>e)
 let#[it,fp,tn,J,H2,e,I2,T,t2,f2,q]:=h2;subst e;rwa[Aq (RR:=λacc C=>compPost (aS X.prog X.w) X.A X.xe (ξ (yh (.Name y py) X.env)) (λ_ s'=>SP X pZ D .next s') acc C) (Rq:=λD' H2=>(wY i) (.ref D') σ H2 D.nx) I2 B cp hnd hcalm ht T t2 f2 hc he q λC D' H5 s5 I5 q5 hn fC=>?_]
 let#[m,hm]:=hn;show wpAny _ X.A (yh (.Name y py) X.env (.ref D')) _ _ _;refine v5 (wW (v:=.ref D') I5 hN hy (.inl hk) rfl (λs6 I6 sb6=>?_) (.inr hk));let#[a,sb,ha]:=sb6;have nC:C≠a:=by
  rcases ha with z|z
  .rw[z];erw[fC.2.2.1]
  .intro w;erw[fC.2.2.2.1 y a z w.symm]
 refine#[m,hm.sameBut sb nC,λh' sb'=>#[_,H5,?_,q5]];erw[I6.turned (it:=C) (t':=s6.toks) (λb o hb e=>(sb'.2 b hb).trans e) fC.1 fC.2.2.1 (.inr fC.2.1) fC.2.2.2.1 fC.2.2.2.2]
abbrev Ue(z:Str):It:=#[λi _=>i<z.cps.size,λi H x H'=>H'=H/\∃c,z.cps[i]?=ξ c/\x=.str #[(List.toArray [c])],λi _=>z.cps.size<=i]
def Hy{P:bj}{w:bL}{K:Frag}{tg:Expr}(it:Addr)(z:Str)(t:Tok)(b:Bool):Turn P w K tg (Ue z) [it] it (λi h=>h.IsStrIter it (if b then "str_ascii_iterator" else "str_iterator") z t i) where
 mem:=by simp
 obj:=λi h st c hc=>by
  have e:c=it:=by simpa using hc
  subst e;let#[o,e,_,d]:=st;exact#[o,e,λv q=>by rw[d] at q;cases q]
 keep:=λi h h' st k=>by
  let#[o,e,c,d]:=st;exact#[o,k it (#v[]) o e,c,d]
 item:=by
  w_up;subst hP hw hK;let#[f0,f1,f2,f3,f4,f5]:=hf it (#v[]);have hx:z.cps[i]?=ξ (z.cps[i]'hg):=d8 hg;have done:∀h',h'.IsStrIter it (if b then "str_ascii_iterator" else "str_iterator") z t (i+1)->fS it s.heap h' ->
    ∃u,(ξ (mJ #[(List.toArray [z.cps[i]'hg])] s.toks):Option Value)=ξ u/\wpAny (aS X.prog X.w) X.A (qr tg (.ref it) u) (λ_ s2=>∃x H',Inv X pZ σ H' s2/\RelV x u/\(Ue z).Tn i H x H'/\s2.heap.IsStrIter it (if b then "str_ascii_iterator" else "str_iterator") z t (i+1)/\∀b∈[it],H' b=ψ) E {s with heap:=h',toks:=s.toks+1}:=λh' st' sb=>by
   have I1:Inv X pZ σ H {s with heap:=h',toks:=s.toks+1}:=I.turned (t':=s.toks+1) (λb o hb e=>(sb.2 b hb).trans e) f0 f1 f3 f4 f5;let#[o,e,c,d]:=id st';exact#[_,rfl,wZ (s:={s with heap:=h',toks:=s.toks+1}) e c d (by cases b<;>decide) #[.str #[(List.toArray [z.cps[i]'hg])],H,I1,#[_,rfl],#[rfl,_,hx,rfl],st',λb hb=>(hf b hb).1]]
  cases b with
  |true=>erw[wpAny_pyNext_ascii_item st hx λh' st' sb=>done h' st' sb]
  |false=>erw[wpAny_pyNext_wide_item st hx λh' st' sb=>done h' st' sb]
 done:=by
  w_up;subst hP hw hK;let#[f0,f1,f2,f3,f4,f5]:=hf it (#v[]);have hx:z.cps[i]?=ψ:=zR hg;cases b with
  |true=>erw[wpAny_pyNext_ascii_end (I.ok.hd hc) st hx λh' eb=>#[rfl,I.turned (t':=s.toks) (λb o hb e=>eb b o hb e) f0 f1 f3 f4 f5]]
  |false=>erw[wpAny_pyNext_wide_end (I.ok.hd hc) st hx λh' eb=>#[rfl,I.turned (t':=s.toks) (λb o hb e=>eb b o hb e) f0 f1 f3 f4 f5]]
 self:=λA i s Q E st h=>by
  cases b with
  |true=>erw[wpAny_pyIter_striter_ascii st h]
  |false=>erw[wpAny_pyIter_striter_wide st h]
end
noncomputable abbrev tx(l:List Nat):Str:=#[l.toArray]
def Ug(z:Str):z=tx z.cps.toList:=by
 let#[a]:=z;simp
def yN(a b:List Nat):tx a++tx b=tx (a++b):=by
 show Str.mk (a.toArray++b.toArray)=Str.mk (a++b).toArray
 simp
def ja(a:List Nat):(tx a).length=a.length:=by simp[Str.length]
def qi(h:tx a=tx b):a=b:=by
 have:=congrArg (λz:Str=>z.cps.toList) h;simpa using this
def NP:(tx a=tx b)↔a=b:=#[qi,λh=>by rw[h]]
def DK:(V.str (tx a)=V.str (tx b))↔a=b:=#[λh=>qi (V.str.inj h),λh=>by rw[h]]
section
variable{X:Cx}
def Fi:hJ X (cF .Add) (λx y H Q=>∃a b,x=.str (tx a)/\y=.str (tx b)/\a.length+b.length<=sizeLine/\Q (.str (tx (a++b))) H):=by
 x_go;let#[a,b,rfl,rfl,hz,q]:=h;rwa[B1 pZ s σ H _ _ v u Q I rx ry #[tx a,tx b,rfl,rfl,%[ja,ja|hz],?_]];rw[yN]
 erw[q]
def Cg:hJ X (gU .Add) (λx y H Q=>∃a b,x=.str (tx a)/\y=.str (tx b)/\a.length+b.length<=sizeLine/\Q (.str (tx (a++b))) H):=by
 x_go;let#[a,b,rfl,rfl,hz,q]:=h;rwa[z9 pZ s σ H _ _ v u Q I rx ry #[tx a,tx b,rfl,rfl,%[ja,ja|hz],?_]];rw[yN]
 erw[q]
def LC(h:c∈l):Txt.find (tx l) (tx [c])=((l.idxOf c:Nat):Int)/\(Builtin.Str.occurrences (tx l) (tx [c]) 0 (tx l).length 1).isEmpty=ϑ:=by
 have h2:(!(Builtin.Str.occurrences (tx l) #[(List.toArray [c])] 0 (tx l).length 1).isEmpty)=ζ:=by rw[StrLaws.found_one];simpa using h
 refine#[?_,~~~h2];have at_iff:∀i,StrLaws.At (tx l) (tx [c]) (tx l).length i↔l[i]?=ξ c:=λi=>by
  have:=StrLaws.subAt_one (tx l) c i;simpa[StrLaws.At] using this
 rcases find_whole (tx l) (tx [c]) with⟨_,no⟩|⟨i,e,hi,lo⟩
 .let#[j,hj,ej]:=qu h
  erw[absurd ((at_iff j).mpr (by rw[af hj,ej])) (no j)]
 .rw[e]
  have hi':=(at_iff i).mp hi;let#[hlt,ei]:=ag.mp hi';have e1:l.idxOf c=i:=by
   have hk:=cq h;rcases Nat.lt_trichotomy (l.idxOf c) i with q|q|q
   .erw[absurd ((at_iff _).mpr (by rw[af hk,i4])) (lo _ q)]
   .erw[q]
   .have:=Bm (p:=(·==c)) (xs:=l) (i:=i) q
    simp[ei] at this
  rw[e1]
abbrev Pp:V->List V->Hp->VK->Prop:=λx xs H Q=>∃l c,x=.str (tx l)/\xs=[.str (tx [c])]/\c∈l/\Q (.int ((l.idxOf c:Nat):Int)) H
def Ar(hA:X.A.handled=ψ):Bt X "str.index" Pp:=by
 intro pZ s σ H x xs v us Q I rx rs h;let#[l,c,rfl,rfl,hc,q]:=h;let#[t,rfl]:=rx;let#[u,rfl,t',rfl]:=vals1 rs;let#[e,ne]:=LC hc;rwa[index_or hA (λz w=>?_) λ_ _=>#[.int _,H,I.tok _,#[_,rfl],%[e|q]]]
 rw[ne] at w;cases w
end
abbrev u7(sep:List Nat):List (List Nat)->List Nat
 |[]=>[]
 |[x]=>x
 |x::r=>x++sep++u7 sep r
def LD(sep:List Nat):∀ts:List (List Nat),Txt.join (tx sep) (ts.map tx)=tx (u7 sep ts):=by
 intro ts;show Builtin.Str.glued (tx sep) (ts.map tx)=_;rw[StrLaws.glued_eq_join]
 induction ts with
 |nil=>rfl
 |cons a r ih=>
  cases r with
  |nil=>rfl
  |cons b r=>
   show tx a++tx sep++Str.join (tx sep) ((b::r).map tx)=tx (a++sep++u7 sep (b::r))
   rw[ih,yN,yN]
def u9:∀{ts:List (List Nat)}{us:List Value},Vals (ts.map λt=>V.str (tx t)) us->StrsAre us (ts.map tx)
 |[],_,.nil=>.nil
 |a::ts,_,.cons (b:=u) r h=>by
  let#[t,e]:=(show ∃t,u=mJ (tx a) t from r)
  subst e;erw[.cons _ _ (u9 h)]
section
variable{X:Cx}
abbrev rJoin(K:Frag):V->List V->Hp->VK->Prop:=λx xs H Q=>∃sep ts p,x=.str (tx sep)/\xs=[.ref p]/\iy K H p (ts.map λt=>V.str (tx t))/\(ts.map dh).sum+ts.length*sep.length<=1000000/\Q (.str (tx (u7 sep ts))) H
def DL:Bt X "str.join" (rJoin X.K):=by
 intro pZ s σ H x xs v us Q I rx rs h;let#[sep,ts,p,rfl,rfl,hl,hz,q]:=h;let#[t,rfl]:=rx;let#[u,rfl,ru]:=vals1 rs;cases ru;let#[its,r,pl,_]:=I.list hl;refine join_list pl.isList (ys:=ts.map tx) (~~~(u9 r)) ?_ λt' k=>#[.str (tx (u7 sep ts)),H,I.tok k,#[t',by rw[LD]],q]
 have e:((ts.map tx).map (·.length)).sum=(ts.map dh).sum:=by
  congr 1
  rw[bG]
  erw[qv λa _=>ja a]
 rw[e,ah,ja]
 omega
def vb:∀{l:List Nat},(∀k∈l,f k=g k)->l.filterMap f=l.filterMap g
 |[],_=>rfl
 |a::l,h=>by
  rw[bX,bX,h a aV,vb λk hk=>h k (ay _ hk)]
def mj(l:List Nat):∀(n i:Nat),i+n<=l.length->(b9 n).filterMap (λk=>l[i+k]?)=(l.drop i).take n
 |0,i,_=>by simp
 |n+1,i,h=>by
  rw[Bn,bX,Gf]
  have hi:i<l.length:=∅
  have e:l[i+0]?=ξ l[i]:=by simp[hi]
  rw[e,b8 hi,List.take_succ_cons]
  have:=mj l n (i+1) ∅;rw[<-this]
  show l[i]::_=l[i]::_
  congr 1
  rwa[vb λk _=>?_]
  show l[i+(k+1)]?=l[i+1+k]?
  rw[show i+(k+1)=i+1+k by omega]
abbrev Ci(l:List Nat)(i j:Nat):List Nat:=(l.drop i).take (j-i)
def DM{b:Int}{n:Nat}(h:0<=b):max 0 (min b (n:Int))=((min b.toNat n:Nat):Int):=by
 let#[k,rfl]:=Bo h;rw[Int.max_eq_right (Int.le_min.mpr #[h,Int.ofNat_nonneg n])]
 rw[mG];omega
def Hz(l:List Nat)(lo hi:Option Int)(i j:Nat)(hlo:lo=ψ/\i=0\/∃a:Int,lo=ξ a/\0<=a/\i=min a.toNat l.length)(hhi:hi=ψ/\j=l.length\/∃b:Int,hi=ξ b/\0<=b/\j=min b.toNat l.length):
  Txt.slice (tx l) lo hi=tx (Ci l i j):=by
 have hi':i<=l.length:=by rcases hlo with⟨_,e⟩|⟨a,_,_,e⟩<;>omega
 have hj':j<=l.length:=by rcases hhi with⟨_,e⟩|⟨b,_,_,e⟩<;>omega
 have key:Builtin.Str.strSliceIndices lo hi 1 l.length=(b9 (j-i)).map λk=>i+k:=by
  have e0:Builtin.Str.strSliceIndices lo hi 1 l.length=sliceRange (i:Int) (j:Int) 1:=by
   unfold Builtin.Str.strSliceIndices;rcases hlo with⟨rfl,rfl⟩|⟨a,rfl,h0,rfl⟩<;>rcases hhi with⟨rfl,rfl⟩|⟨b,rfl,h1,rfl⟩
   .rfl
   .dsimp[yu.mpr h1,if_false,show(1:Int)>0 by decide,if_true,DM h1]
    rfl
   .dsimp[yu.mpr h0,if_false,show(1:Int)>0 by decide,if_true,DM h0]
   .dsimp[yu.mpr h0,yu.mpr h1,if_false,show(1:Int)>0 by decide,if_true,DM h0,DM h1]
  rw[e0]
  unfold sliceRange;dsimp[show(1:Int)>0 by decide,if_true,Int.ediv_one];have e3:(if (i:Int)<(j:Int) then(j:Int)-i+1-1 else 0).toNat=j-i:=by split<;>omega
  rw[e3]
  rwa[qv λk _=>?_]
  omega
 have len:(tx l).length=l.length:=ja l;unfold Txt.slice;rw[len,key]
 have e4:((b9 (j-i)).map λk=>i+k).length=j-i:=by simp
 rw[e4]
 by_cases hw:j-i=l.length
 .rw[if_pos (by simp[hw])]
  have:Ci l i j=l:=by
   unfold Ci;have:i=0:=∅
   subst this;rw[hw,jr,cC]
  rw[this]
 .rw[if_neg (by simp[hw])]
  show tx _=tx _
  congr 1
  rw[Gf]
  by_cases hij:i<=j
  .have:=mj l (j-i) i ∅
   unfold Ci;rw[<-this]
   rwa[vb λk _=>?_]
   simp
  .have:j-i=0:=∅
   unfold Ci;rw[this]
   simp
abbrev X3:V->Option Int->Option Int->Hp->VK->Prop:=λx lo hi H Q=>∃l i j,x=.str (tx l)/\l.length<=sizeLine/\(lo=ψ/\i=0\/∃a:Int,lo=ξ a/\0<=a/\i=min a.toNat l.length)/\(hi=ψ/\j=l.length\/∃b:Int,hi=ξ b/\0<=b/\j=min b.toNat l.length)/\Q (.str (tx (Ci l i j))) H
def Uh:WB X X3:=by
 intro pZ s σ H x v vl vu lo hi sl Q I rx hs pl pu h;let#[l,i,j,rfl,hz,h1,h2,q]:=h;let#[t,rfl]:=rx;refine#["str",_,F.slot_str_getitem.lookup,typeIs_str _ _ _,?_];have fin:∀(a b:Option (Int×Tok)),vl=partValue a->vu=partValue b->lo=a.map (·.1)->hi=b.map (·.1)->wpAny (aS X.prog X.w) X.A (sN (.str (tx l) t) (.ref sl)) (EP X pZ σ Q) X.xe s:=λa b e1 e2 e3 e4=>by
  refine wpAny_getItem_str_slice (l:=a) (u:=b) (st:=ψ) (by rw[e1,e2] at hs;erw[hs]) rfl ?_;rwa[post_val_or_str #[aP (Txt.slice_le (tx l) _ _) (%[ja|hz]),λt' k=>#[.str (tx (Ci l i j)),H,I.tok k,#[t',?_],q]]];have:=Hz l lo hi i j h1 h2;rw[e3,e4] at this;rw[<-this]
  rfl
 cases pl with
 |none=>
  cases pu with
  |none=>erw[fin ψ ψ rfl rfl rfl rfl]
  |int b u=>erw[fin ψ (ξ (b,u)) rfl rfl rfl rfl]
 |int a u=>
  cases pu with
  |none=>erw[fin (ξ (a,u)) ψ rfl rfl rfl rfl]
  |int b u2=>erw[fin (ξ (a,u)) (ξ (b,u2)) rfl rfl rfl rfl]
end
section
variable{prog:bj}{w:bL}{A:cf}{E:Value->av->Prop}{hh:Heap}{g:Array Kq}{d:Drawn}{t:Nat}{os:OsState}{K:Frag}{x C:Addr}{ox:Obj}{od:Option Obj}{name:Str}
def HA{Q:Value->av->Prop}{fill expr:Bool}{tk:Tok}(X:K.In hh)(I:gx hh x ox C od)(G:XGet K C)
  (h:wpAny (aS prog w) A.in1 («object.__getattribute__» #[[.ref x,.str name tk],[]])
    (λfin s'=>match fin with
     |.done (.ret v)=>wpAny (aS prog w) A (Gg v) Q E s'
     |.done _=>False
     |.again c'=>c'.quiet=ζ/\nQ (aS prog w) A c' (λr s'=>match r with|.ok (.ret v)=>wpAny (aS prog w) A (Gg v) Q E s'|_=>False) s') (λ_ _=>False) #[hh,g,d,t,os]):
  wpAny (aS prog w) A (getAttrBy (.ref x) (.str name tk) fill expr) Q E #[hh,g,d,t,os]:=by
 have L0:=I.type (M:=aS prog w);have L1:=qb (M:=aS prog w) X G.ga;have L2:=qb (M:=aS prog w) X G.gh;have fb:=wQ.ga.bind (.ref x);have hx0:(expr&&onTheHeap (qw "BaseException.__getattribute__"))=ϑ:=by cases expr<;>rfl
 have hx2:(qw "BaseException.__getattribute__"==qw "object.__getattribute__")=ϑ:=by decide +kernel
 unfold getAttrBy;refine cu (ae (L0.at (ae (L1.at ?_))));dsimp only;rw[hx2,wJ,if_neg (#v[])]
 unfold getAttrByItsOwn hookBefore;rw[if_pos (by rfl)]
 refine ae (L2.at ?_);rwa[ae (tR (cu ?_))];unfold callGetattribute;rw[hx0,if_neg (#v[])]
 unfold boundAndCalled;rw[fb]
 rwa[ae (ao ?_)];rwa[mM (Kw wQ.ga.plain F.entry_bexc_ga ?_)];have hk:builtinKind "BaseException.__getattribute__"=ξ .slot:=by decide +kernel
 have hsplit:splitId "BaseException.__getattribute__"=ξ ("BaseException","__getattribute__"):=by decide +kernel
 have sub:BI (aS prog w) hh (uA (.ref x) (.type "BaseException")) ζ:=I.type.andThen (looks_mroIn X G.hb);rwa[@check_slot (aS prog w) _ _ #[hh,g,d,t,os] "BaseException.__getattribute__" "BaseException" "__getattribute__" (.ref x) [.str name tk] [] _ hk hsplit sub (F.args_bexc_ga (.ref x) (.str name tk)) ?_];rwa[bg h (λfin s' z=>?_) (λ_ _ z=>z.elim)];cases fin with
 |done f=>cases f<;>first|exact z|exact z.elim
 |again c'=>
  refine#[z.1,jV z.2 λr s2 q=>?_];rcases r with e|f
  .erw[q.elim]
  .cases f<;>first|exact q|exact q.elim
def LF{Q:Value->av->Prop}{expr:Bool}{v:Value}{s:av}(X:K.In s.heap)(I:gx s.heap x ox C od)(G:XGet K C)
  (hf:findObj K C od name=ξ (.value v)) (hh:handedIn v=ζ) (h:Q v {s with toks:=s.toks+1}):wpAny (aS prog w) A (Gw (.ref x) name expr) Q E s:=by
 let#[hp,g,d,t,os]:=s;unfold Gw;rwa[ae (wpAny_mkText ?_)];rwa[HA X I G ?_];have L0:=I.type (M:=aS prog w);have L1:=looks_find (M:=aS prog w) X I hf;refine ae (ao (ae (ao (ae (L0.at (ae (L1.at ?_)))))));rwa[ao ?_];show wpAny _ _ (Gg v) _ _ _;rw[handedOut_of hh];erw[ao h]
structure Sz(K:Frag)(C:Addr):Prop extends XGet K C where
 ha:hX K (.ref C) "__class__"=ξ (ξ (.builtin "object.__class__"))
 hn:specialIn K (.builtin "object.__class__") "__get__"=ξ (ξ (.builtin "getset_descriptor.__get__"))
 O4:takesIn K (.builtin "object.__class__")=ξ ζ
 hm:mroIn K C (.type "object")=ξ ζ
def LG{Q:Option Value->av->Prop}{s:av}{oD:Obj}(X:K.In s.heap)(I:gx s.heap x ox C (ξ oD))(G:Sz K C)
  (h:Q (ξ (.ref C)) {s with toks:=s.toks+1}):wpAny (aS prog w) A (KA (.ref x) "__class__") Q E s:=by
 have hf:findObj K C (ξ oD) "__class__"=ξ (.bind (.builtin "getset_descriptor.__get__") (.builtin "object.__class__")):=findObj_data (by let#[_,e,_]:=Ky G.hd;rw[e];rfl) G.ha G.hn G.O4;let#[hp,g,d,t,os]:=s;unfold KA getAttrBy?;rwa[ae (wpAny_mkText (ae (tR ?_)))];rwa[HA X I G.toXGet ?_];have L0:=I.type (M:=aS prog w);have L1:=looks_find (M:=aS prog w) X I hf;refine ae (ao (ae (ao (ae (L0.at (ae (L1.at ?_)))))));show wpAny _ _ (holding [.builtin "object.__class__"] (call (.builtin "getset_descriptor.__get__") [.builtin "object.__class__",.ref x,.ref C])>>=ret) _ _ _;rwa[ae (cu (mM (class_get (s:=#[hp,g,d,t+1,os]) (ox:=ox) (od:=ξ oD) X I G.hm ?_)))];rwa[ao ?_];show wpAny _ _ (Gg (.ref C)) _ _ _;rw[handedOut_of rfl]
 erw[ao (ao h)]
def LH(h:hasDictIn K C=ζ):∃c0 d0 cd0 sl0,K.lookup C=ξ #[c0,d0,.cls cd0,sl0]:=by
 let#[_,e,_]:=Ky h;unfold clsIn at e;split at e
 .exact#[_,_,_,_,by assumption]
 .cases e
def HB{oD:Obj}(G:Sz K C):KitX K (.ref x) (.ref C) (λh=>gx h x ox C (ξ oD)):=by
 let#[c0,d0,cd0,sl0,lk]:=LH G.hd;refine#[λ_ _ _ J=>J.type,λ_ _ KI _=>?_,λhp tp dd its n sl KI e=>?_,λKI J k=>LG KI J G k]
 .intro A1 Q1 E1 s1 sub q
  unfold isType loadHead;erw[ae (rJ (sub _ _ (KI _ _ lk)) (ao q))]
 .rwa[Bool.eq_false_iff.mpr λz=>?_]
  cases Value.ref.inj (beq_iff_eq.mp z);erw[nomatch (KI _ _ lk).symm.trans e]
end
section
variable{X:Cx}{pZ:List (Addr×Obj)}{σ:St}{H:Hp}{s:av}{a C d:Addr}{fs:List (Str×V)}{f:Str}{v:V}
def LI(I:Inv X pZ σ H s)(e:H a=ξ (.xc a (fl,.ref C) (ξ d)))(hd:H d=ξ (.xf d fs)):∃vs sl oD,gx s.heap a #[.ref C,ξ d,.fields vs,sl] C (ξ oD)/\s.heap.get? d=ξ oD:=by
 let#[#[vs,sl,q,_],_]:=I.ck a _ e;let#[mA,#[oD,es,ep,eo,c],r]:=DJ I.ck hd;exact#[vs,sl,oD,#[q,rfl,rfl,eo],eo]
inductive WH(K:Frag)(H:Hp):V->Value->Prop where
 |of{x:V}{t:Value}:rR K H x t->WH K H x t
 |exc{a C d:Addr}{fs:List (Str×V)}{fl:Bool} (e:H a=ξ (.xc a (fl,.ref C) (ξ d))) (hd:H d=ξ (.xf d fs)) (cl:Sz K C):WH K H (.ref a) (.ref C)
abbrev ZM:V->Value->Prop
 |.ty n,u=>u=.type n
 |.ref C,u=>u=.ref C
 |_,_=>False
def HC:iT X (.builtin "isinstance") (λxs H Q=>∃x c t u b,xs=[x,c]/\WH X.K H x t/\ZM c u/\rM X.K t u=ξ b/\Q (.bl b) H):=by
 k_ne;let#[x,c,t,u,b,rfl,ty,rc,e,q]:=h;let#[ux,uc,rfl,rx,rc']:=r.two;have eu:uc=u:=by
  cases c with
  |ref C=>erw[Eq.trans (show uc=aL C from rc') (show u=aL C from rc).symm]
  |ty n=>erw[Eq.trans (show uc=vY n from rc') (show u=vY n from rc).symm]
  |_=>erw[aJ rc]
 subst eu;have fin:∀tk,EP X pZ σ Q (.bool b) {s with toks:=tk}:=λtk=>#[.bl b,H,I.tok tk,rfl,q]
 cases ty with
 |of ty=>erw[E5 I rx ty e fin]
 |@exc a C d fs fl ea hd cl=>
  cases (show ux=aL a from rx);let#[vs,sl,oD,J,_]:=LI I ea hd;erw[kia_one (HB cl) I.jY J e (λz=>nomatch z) fin]
structure Pq(K:Frag)(P:Params)(a:Addr)(kvs:List (Str×V)):Prop where
 ex:∃es n,K.lookup a=ξ #[.type "dict",ψ,.dict es n,#[]]/\GG P es.toList
 at_:∀k v,kvs.lookup k=ξ v->∃u,RelV v u/\nsIn K a k=ξ (ξ u)
 no:∀k,kvs.lookup k=ψ->nsIn K a k=ξ ψ
 ns:(a==bV)=ϑ
abbrev X4(K:Frag)(P:Params):R2:=λx y H Q=>∃a kvs k v,x=.ref a/\y=.str k/\Pq K P a kvs/\kvs.lookup k=ξ v/\Q v H
def Cj:Sw X (X4 X.K X.w.params):=by
 intro value slice pZ s σ H x y v u Q I rx ry h hs;let#[a,kvs,k,z,rfl,rfl,T,e,q]:=h;cases rx;let#[t,rfl]:=ry;let#[es,n,lk,kl]:=T.ex;let#[w,rw',ew]:=T.at_ k z e;have hm:=mapOf_K (prog:=X.prog) (w:=X.w) I.jY lk kl;erw[tail_any hm.typeIs slot_dict_getitem.lookup (wpAny_getItem_of (strKind_is X.prog X.w k t) hm (find_K lk ew) #[z,H,I.tok _,rw',q]) hs]
end
inductive Dv where
 |bK|bl (b:Bool)|int (i:Int)|str (l:List Nat)|tup (ds:List Dv)|lst (ds:List Dv)
mutual
noncomputable def Dv.depth:Dv->Nat
 |.tup ds=>Dv.jZ ds+1
 |.lst ds=>Dv.jZ ds+1
 |_=>0
noncomputable def Dv.jZ:List Dv->Nat
 |[]=>0
 |d::ds=>max d.depth (Dv.jZ ds)
end
mutual
noncomputable def Bv:Dv->Dv->Bool
 |.bK,.bK=>ζ
 |.bl a,.bl b=>a==b
 |.bl a,.int b=>(if a then 1 else 0)== b
 |.int a,.bl b=>a==(if b then 1 else 0)
 |.int a,.int b=>a==b
 |.str a,.str b=>a==b
 |.tup xs,.tup ys=>mS xs ys
 |.lst xs,.lst ys=>mS xs ys
 |_,_=>ϑ
noncomputable def mS:List Dv->List Dv->Bool
 |[],[]=>ζ
 |x::xs,y::ys=>Bv x y&&mS xs ys
 |_,_=>ϑ
end
mutual
noncomputable def nE(K:Frag)(H:Hp):V->Dv->Prop
 |v,.bK=>v=.bK
 |v,.bl b=>v=.bl b
 |v,.int i=>v=.int i
 |v,.str l=>v=.str (tx l)
 |v,.tup ds=>∃a vs,v=.ref a/\nB K H a vs/\iQ K H vs ds
 |v,.lst ds=>∃a vs,v=.ref a/\iy K H a vs/\iQ K H vs ds
noncomputable def iQ(K:Frag)(H:Hp):List V->List Dv->Prop
 |[],[]=>True
 |v::vs,d::ds=>nE K H v d/\iQ K H vs ds
 |_,_=>False
end
def iQ.len{K:Frag}{H:Hp}:∀{vs:List V}{ds:List Dv},iQ K H vs ds->vs.length=ds.length
 |[],[],_=>rfl
 |_::vs,_::ds,h=>by
  unfold iQ at h;rw[a5,a5,iQ.len h.2]
 |[],_::_,h=>by unfold iQ at h;erw[h.elim]
 |_::_,[],h=>by unfold iQ at h;erw[h.elim]
def iQ.get{K:Frag}{H:Hp}:∀{vs:List V}{ds:List Dv}{i:Nat}{v:V}{d:Dv},iQ K H vs ds->vs[i]?=ξ v->ds[i]?=ξ d->nE K H v d
 |v::vs,d::ds,0,_,_,h,e1,e2=>by
  unfold iQ at h;simp at e1 e2;subst e1 e2;erw[h.1]
 |v::vs,d::ds,i+1,_,_,h,e1,e2=>by
  unfold iQ at h;exact iQ.get (i:=i) h.2 (~~~e1) (~~~e2)
 |[],_,_,_,_,_,e1,_=>by simp at e1
 |_,[],_,_,_,_,_,e2=>by simp at e2
mutual
theorem vc:∀d:Dv,Bv d d=ζ
 |.bK=>rfl
 |.bl b=>beq_self_eq_true _
 |.int i=>beq_self_eq_true _
 |.str l=>beq_self_eq_true _
 |.tup ds=>r8 ds
 |.lst ds=>r8 ds
theorem r8:∀ds:List Dv,mS ds ds=ζ
 |[]=>by unfold mS;rfl
 |d::ds=>by unfold mS;rw[vc d,r8 ds];rfl
end
def mT:∀(xs ys:List Dv)(e:Nat->Bool),(∀i x y,xs[i]?=ξ x->ys[i]?=ξ y->e i=Bv x y)->((b9 (min xs.length ys.length)).all e&&xs.length==ys.length)=mS xs ys
 |[],[],e,_=>by unfold mS;simp
 |[],y::ys,e,_=>by unfold mS;simp
 |x::xs,[],e,_=>by unfold mS;simp
 |x::xs,y::ys,e,h=>by
  have ih:=mT xs ys (λi=>e (i+1)) λi a b h1 h2=>h (i+1) a b (~~~h1) (~~~h2)
  unfold mS;rw[<-ih,<-h 0 x y rfl rfl]
  rw[a5,a5,Nat.succ_min_succ,Bn,bH,List.all_map]
  have:(xs.length+1==ys.length+1)=(xs.length==ys.length):=by simp
  rw[this,Bool.and_assoc]
  rfl
section
variable{X:Cx}{pZ:List (Addr×Obj)}{σ:St}{H:Hp}{s:av}
mutual
theorem nE.inj(I:Inv X pZ σ H s):∀{d d':Dv}{v:V},nE X.K H v d->nE X.K H v d'->d=d'
 |.bK,d',v,h,h'=>by
  unfold nE at h;subst h;cases d'<;>unfold nE at h'<;>first|rfl| (cases h';done)| (obtain⟨_,_,z,_⟩:=h';cases z)
 |.bl b,d',v,h,h'=>by
  unfold nE at h;subst h;cases d'<;>unfold nE at h'<;>first| (cases h';rfl)| (cases h';done)| (obtain⟨_,_,z,_⟩:=h';cases z)
 |.int b,d',v,h,h'=>by
  unfold nE at h;subst h;cases d'<;>unfold nE at h'<;>first| (cases h';rfl)| (cases h';done)| (obtain⟨_,_,z,_⟩:=h';cases z)
 |.str l,d',v,h,h'=>by
  unfold nE at h;subst h;cases d'<;>unfold nE at h'<;>first| (rw[DK.mp h'])| (cases h';done)| (obtain⟨_,_,z,_⟩:=h';cases z)
 |.tup ds,d',v,h,h'=>by
  let#[a,vs,rfl,hq,hd]:=h;cases d' with
  |tup ds'=>
   unfold nE at h';let#[a',vs',e,hq',hd']:=h';cases e;rw[I.wX hq' hq] at hd';rw[iQ.inj I hd hd']
  |lst ds'=>
   unfold nE at h';let#[a',vs',e,hq',hd']:=h';cases e;exfalso;let#[its,_,#[o,e1,c1,_],_]:=I.tuple hq;let#[its',_,#[o',n',e2,c2,_,_],_]:=I.list hq';rw[e1] at e2;cases e2;rw[c1] at c2;injection c2 with c2
   erw[absurd c2 ⋯]
  |_=>unfold nE at h';cases h'
 |.lst ds,d',v,h,h'=>by
  let#[a,vs,rfl,hq,hd]:=h;cases d' with
  |lst ds'=>
   unfold nE at h';let#[a',vs',e,hq',hd']:=h';cases e;rw[I.qG hq' hq] at hd';rw[iQ.inj I hd hd']
  |tup ds'=>
   unfold nE at h';let#[a',vs',e,hq',hd']:=h';cases e;exfalso;let#[its,_,#[o,e1,c1,_],_]:=I.tuple hq';let#[its',_,#[o',n',e2,c2,_,_],_]:=I.list hq;rw[e1] at e2;cases e2;rw[c1] at c2;injection c2 with c2
   erw[absurd c2 ⋯]
  |_=>unfold nE at h';cases h'
theorem iQ.inj(I:Inv X pZ σ H s):∀{ds ds':List Dv}{vs:List V},iQ X.K H vs ds->iQ X.K H vs ds'->ds=ds'
 |[],[],_,_,_=>rfl
 |[],_::_,[],_,h'=>by unfold iQ at h';erw[h'.elim]
 |[],_::_,_::_,h,_=>by unfold iQ at h;erw[h.elim]
 |_::_,[],[],h,_=>by unfold iQ at h;erw[h.elim]
 |_::_,[],_::_,_,h'=>by unfold iQ at h';erw[h'.elim]
 |d::ds,d'::ds',[],h,_=>by unfold iQ at h;erw[h.elim]
 |d::ds,d'::ds',v::vs,h,h'=>by
  unfold iQ at h h';rw[nE.inj I h.1 h'.1,iQ.inj I h.2 h'.2]
end
def oU:∀{ds:List Dv}{i:Nat}{d:Dv},ds[i]?=ξ d->d.depth<=Dv.jZ ds
 |d::ds,0,_,h=>by
  simp at h;subst h;unfold Dv.jZ;erw[Nat.le_max_left _ _]
 |d::ds,i+1,_,h=>by
  have:=oU (ds:=ds) (i:=i) (~~~h);unfold Dv.jZ;erw[aP this (Nat.le_max_right _ _)]
 |[],_,_,h=>by simp at h
def HD(I:Inv X pZ σ H s):∀(n:Nat){A:cf}{d d':Dv}{x y:V}{u v:Value},d.depth<=n->A.units+n<eF->nE X.K H x d->nE X.K H y d'->RelV x u->RelV y v->qC A s u v (Bv d d'):=by
 intro n;induction n with
 |zero=>
  intro A d d' x y u v hn hu hx hy rx ry;cases d with
  |tup ds=>unfold Dv.depth at hn;omega
  |lst ds=>unfold Dv.depth at hn;omega
  |bK=>
   cases (show _=_ from hx);cases rx;cases d'<;>unfold nE at hy
   .subst hy;cases ry;erw[jA _]
   .subst hy;cases ry;erw[wG _]
   .subst hy;let#[t,rfl]:=ry;erw[nN _ _]
   .subst hy;let#[t,rfl]:=ry;erw[nO _ _]
   .let#[a,vs,rfl,hq,_]:=hy;cases ry;let#[its,_,p,_]:=I.tuple hq;erw[SeqAt.EqAt.none_tuple p ∅]
   .let#[a,vs,rfl,hq,_]:=hy;cases ry;let#[its,_,p,_]:=I.list hq;erw[SeqAt.EqAt.none_list p.isList ∅]
  |bl b=>
   cases (show _=_ from hx);cases rx;cases d'<;>unfold nE at hy
   .subst hy;cases ry;erw[wH _]
   .subst hy;cases ry;erw[wI _ _]
   .subst hy;let#[t,rfl]:=ry;erw[yo _ _ _]
   .subst hy;let#[t,rfl]:=ry;erw[yp _ _ _]
   .let#[a,vs,rfl,hq,_]:=hy;cases ry;let#[its,_,p,_]:=I.tuple hq;erw[SeqAt.EqAt.bool_tuple _ p ∅]
   .let#[a,vs,rfl,hq,_]:=hy;cases ry;let#[its,_,p,_]:=I.list hq;erw[SeqAt.EqAt.bool_list _ p.isList ∅]
  |int i=>
   cases (show _=_ from hx);let#[t0,rfl]:=rx;cases d'<;>unfold nE at hy
   .subst hy;cases ry;erw[nL _ _]
   .subst hy;cases ry;erw[yq _ _ _]
   .subst hy;let#[t,rfl]:=ry;erw[zF _ _ _ _]
   .subst hy;let#[t,rfl]:=ry;erw[oI _ _ _ _]
   .let#[a,vs,rfl,hq,_]:=hy;cases ry;let#[its,_,p,_]:=I.tuple hq;erw[SeqAt.EqAt.int_tuple _ _ p ∅]
   .let#[a,vs,rfl,hq,_]:=hy;cases ry;let#[its,_,p,_]:=I.list hq;erw[SeqAt.EqAt.int_list _ _ p.isList ∅]
  |str l=>
   cases (show _=_ from hx);let#[t0,rfl]:=rx;cases d' with
   |bK=>cases (show _=_ from hy);cases ry;erw[nM _ _]
   |bl b=>cases (show _=_ from hy);cases ry;erw[yr _ _ _]
   |int i=>cases (show _=_ from hy);let#[t,rfl]:=ry;erw[oJ _ _ _ _]
   |str l'=>
    cases (show _=_ from hy);let#[t,rfl]:=ry;have e:(tx l==tx l')=Bv (.str l) (.str l'):=by
     show(tx l==tx l')=(l==l')
     rw[cA,beq_iff_eq,beq_iff_eq]
     erw[NP]
    rw[<-e]
    erw[oK _ _ _ _]
   |tup ds=>let#[a,vs,rfl,hq,_]:=hy;cases ry;let#[its,_,p,_]:=I.tuple hq;erw[SeqAt.EqAt.str_tuple _ _ p ∅]
   |lst ds=>let#[a,vs,rfl,hq,_]:=hy;cases ry;let#[its,_,p,_]:=I.list hq;erw[SeqAt.EqAt.str_list _ _ p.isList ∅]
 |succ n ih=>
  intro A d d' x y u v hn hu hx hy rx ry;have items:∀{vs vs':List V}{ds ds':List Dv}{its its':List Value},Dv.jZ ds<=n->iQ X.K H vs ds->iQ X.K H vs' ds'->Vals vs its->Vals vs' its' ->
    ∃e:Nat->Bool,(∀j(h1:j<its.toArray.size)(h2:j<its'.toArray.size),qC A.in1 s its.toArray[j] its'.toArray[j] (e j))/\((b9 (min its.toArray.size its'.toArray.size)).all e&&its.toArray.size==its'.toArray.size)=mS ds ds':=by
   intro vs vs' ds ds' its its' hd h1 h2 r1 r2;have l1:=h1.len;have l2:=h2.len;have m1:=r1.length;have m2:=r2.length;refine#[λj=>match ds[j]?,ds'[j]? with|some a,ξ b=>Bv a b|_,_=>ζ,λj k1 k2=>?_,?_]
   .rw[aI] at k1 k2
    have j1:j<ds.length:=∅
    have j2:j<ds'.length:=∅
    have i1:j<vs.length:=∅
    have i2:j<vs'.length:=∅
    have e1:ds[j]?=ξ ds[j]:=af j1;have e2:ds'[j]?=ξ ds'[j]:=af j2;have f1:vs[j]?=ξ vs[j]:=af i1;have f2:vs'[j]?=ξ vs'[j]:=af i2;let#[w1,g1,q1]:=r1.get f1;let#[w2,g2,q2]:=r2.get f2;have a1:its.toArray[j]=w1:=by
     let#[_,z]:=ag.mp g1;simpa using z
    have a2:its'.toArray[j]=w2:=by
     let#[_,z]:=ag.mp g2;simpa using z
    rw[a1,a2]
    dsimp only;rw[e1,e2]
    erw[ih (aP (oU e1) hd) (by show A.units+1+n<eF;omega) (h1.get f1 e1) (h2.get f2 e2) q1 q2]
   .rw[aI,aI,<-m1,<-m2,l1,l2]
    rwa[mT ds ds' _ λi a b h1 h2=>?_]
    rw[h1,h2]
  by_cases hz:d.depth<=n
  .erw[ih hz ∅ hx hy rx ry]
  .cases d with
   |bK=>unfold Dv.depth at hz;omega
   |bl b=>unfold Dv.depth at hz;omega
   |int b=>unfold Dv.depth at hz;omega
   |str b=>unfold Dv.depth at hz;omega
   |tup ds=>
    have hx0:=hx;let#[a,vs,rfl,hq,hd]:=hx;cases rx;let#[its,r1,p,_]:=I.tuple hq;unfold Dv.depth at hn;cases d' with
    |bK=>cases (show _=_ from hy);cases ry;erw[SeqAt.EqAt.tuple_none p ∅]
    |bl b=>cases (show _=_ from hy);cases ry;erw[SeqAt.EqAt.tuple_bool _ p ∅]
    |int i=>cases (show _=_ from hy);let#[t,rfl]:=ry;erw[SeqAt.EqAt.tuple_int _ _ p ∅]
    |str l'=>cases (show _=_ from hy);let#[t,rfl]:=ry;erw[SeqAt.EqAt.tuple_str _ _ p ∅]
    |lst ds'=>let#[a',vs',rfl,hq',_]:=hy;cases ry;let#[its',_,p',_]:=I.list hq';erw[SeqAt.EqAt.tuple_list p p'.isList ∅]
    |tup ds'=>
     have hy0:=hy;let#[a',vs',rfl,hq',hd']:=hy;cases ry;let#[its',r2,p',_]:=I.tuple hq';by_cases e:a=a'
     .subst e
      rw[nE.inj I hx0 hy0,vc]
      erw[jA _]
     .let#[f,hf,ef]:=items ∅ hd hd' r1 r2
      rw[show Bv (.tup ds) (.tup ds')=mS ds ds' from rfl,<-ef]
      erw[zH e (zS p p' ∅ hf)]
   |lst ds=>
    have hx0:=hx;let#[a,vs,rfl,hq,hd]:=hx;cases rx;let#[its,r1,p,_]:=I.list hq;unfold Dv.depth at hn;cases d' with
    |bK=>cases (show _=_ from hy);cases ry;erw[SeqAt.EqAt.list_none p.isList ∅]
    |bl b=>cases (show _=_ from hy);cases ry;erw[SeqAt.EqAt.list_bool _ p.isList ∅]
    |int i=>cases (show _=_ from hy);let#[t,rfl]:=ry;erw[SeqAt.EqAt.list_int _ _ p.isList ∅]
    |str l'=>cases (show _=_ from hy);let#[t,rfl]:=ry;erw[SeqAt.EqAt.list_str _ _ p.isList ∅]
    |tup ds'=>let#[a',vs',rfl,hq',_]:=hy;cases ry;let#[its',_,p',_]:=I.tuple hq';erw[SeqAt.EqAt.list_tuple p.isList p' ∅]
    |lst ds'=>
     have hy0:=hy;let#[a',vs',rfl,hq',hd']:=hy;cases ry;let#[its',r2,p',_]:=I.list hq';by_cases e:a=a'
     .subst e
      rw[nE.inj I hx0 hy0,vc]
      erw[jA _]
     .let#[f,hf,ef]:=items ∅ hd hd' r1 r2
      rw[show Bv (.lst ds) (.lst ds')=mS ds ds' from rfl,<-ef]
      rwa[zH e ?_];by_cases el:its.toArray.size=its'.toArray.size
      .have:((b9 (min its.toArray.size its'.toArray.size)).all f&&its.toArray.size==its'.toArray.size)=(b9 its.toArray.size).all f:=by
        rw[el,Nat.min_self]
        simp
       rw[this]
       erw[SeqAt.RcAt.lists p.isList p'.isList el ∅ hf]
      .have:((b9 (min its.toArray.size its'.toArray.size)).all f&&its.toArray.size==its'.toArray.size)=ϑ:=by
        have:(its.toArray.size==its'.toArray.size)=ϑ:=by simpa using el
        rw[this,wJ]
       rw[this]
       exact SeqAt.RcAt.lists_lengths p.isList p'.isList (~~~el) ∅
abbrev X5(K:Frag):R2:=λx y H Q=>∃ds d',nE K H x (.tup ds)/\nE K H y d'/\Dv.jZ ds<=100/\Q (.bl (Bv (.tup ds) d')) H
def Pr(hu:X.A.units+200<eF):hJ X (bB .Eq) (X5 X.K):=by
 intro pZ s σ H x y u v Q I rx ry h;let#[ds,d',hx,hy,hz,q]:=h;have fin:∀b,b=Bv (.tup ds) d'->EP X pZ σ Q (.bool b) s:=λb e=>by rw[e];exact#[.bl _,H,I,rfl,q]
 have hx0:=hx;let#[a,vs,rfl,hq,hd]:=hx;cases rx;let#[its,r1,p,_]:=I.tuple hq;cases d' with
 |bK=>cases (show _=_ from hy);cases ry;erw[SeqAt.RcAt.tuple_none p ∅ _ _ _ _ (fin _ (rfl))]
 |bl b=>cases (show _=_ from hy);cases ry;erw[SeqAt.RcAt.tuple_bool _ p ∅ _ _ _ _ (fin _ (rfl))]
 |int i=>cases (show _=_ from hy);let#[t,rfl]:=ry;erw[SeqAt.RcAt.tuple_int _ _ p ∅ _ _ _ _ (fin _ (rfl))]
 |str l'=>cases (show _=_ from hy);let#[t,rfl]:=ry;erw[SeqAt.RcAt.tuple_str _ _ p ∅ _ _ _ _ (fin _ (rfl))]
 |lst ds'=>let#[a',vs',rfl,hq',_]:=hy;cases ry;let#[its',_,p',_]:=I.list hq';erw[SeqAt.RcAt.tuple_list p p'.isList ∅ _ _ _ _ (fin _ (rfl))]
 |tup ds'=>
  let#[a',vs',rfl,hq',hd']:=hy;cases ry;let#[its',r2,p',_]:=I.tuple hq';have l1:=hd.len;have l2:=hd'.len;have m1:=r1.length;have m2:=r2.length;refine zS (e:=λj=>match ds[j]?,ds'[j]? with|some a,ξ b=>Bv a b|_,_=>ζ) p p' ∅ (λj k1 k2=>?_) _ _ _ _ (fin _ ?_)
  .rw[aI] at k1 k2
   have e1:ds[j]?=ξ (ds[j]'∅):=af _;have e2:ds'[j]?=ξ (ds'[j]'∅):=af _;have f1:vs[j]?=ξ (vs[j]'∅):=af _;have f2:vs'[j]?=ξ (vs'[j]'∅):=af _;let#[w1,g1,q1]:=r1.get f1;let#[w2,g2,q2]:=r2.get f2;have a1:its.toArray[j]=w1:=by
    let#[_,z]:=ag.mp g1;simpa using z
   have a2:its'.toArray[j]=w2:=by
    let#[_,z]:=ag.mp g2;simpa using z
   rw[a1,a2,e1,e2]
   erw[HD I 100 (aP (oU e1) hz) (by show X.A.units+1+100<eF;omega) (hd.get f1 e1) (hd'.get f2 e2) q1 q2]
  .rw[aI,aI,<-m1,<-m2,l1,l2]
   rw[show Bv (.tup ds) (.tup ds')=mS ds ds' from rfl]
   rwa[mT ds ds' _ λi a b h1 h2=>?_]
   rw[h1,h2]
end
end L2
namespace PL
def _root_.Lake.L2.ff{P:Prop}(h:ϑ=ζ):P:=by cases h
def _root_.Lake.L2.nn{α:Type}{x:α}{P:Prop}(h:(ψ:Option α)=ξ x):P:=by cases h
set_option genInjectivity true in
inductive U where
 |bK|bl (b:Bool)|int (i:Int)|str (l:List Nat)|tup (us:List U)|loc (n:Nat)
 |tL (ns:List Int)|tab (kvs:List (List Nat×List Nat))|exc (c:String) (us:List U)
instance:Inhabited U:=#[.bK]
set_option genInjectivity true in
inductive SO where
 |lst (us:List U)|df (kvs:List (U×U))|ins (c:String) (fs:List (String×U))
 |pI (kvs:List (U×U))|r9 (kvs:List (List Int×U))|vd (kvs:List ((Int×List Int)×U))
structure Xn where
 c:String
 us:List U
 f:Bool
@[reducible]def Env:=List (Option U)
@[reducible]def bE:=List SO
@[reducible]def KU:=U->bE->Prop
@[reducible]def KX:=Xn->bE->Prop
@[reducible]def Spec:=List U->bE->KU->KX->Prop
@[reducible]def bU:=String->Spec
inductive Gj where|add|sub|mul|fdiv|mod|band|bor|shl|shr
inductive NQ where|eq|ne|lt|le|gt|ge|isin|pR|HE|Ck|Cm
inductive Ui where|len|tuple|list|sum|all|any|int|dict|Pt|max|min2
inductive NR where|join|index|startswith|append|extend|get|mU|mV|vals|yO|wq
inductive Ty where|int|bool|str|list|tuple|dict|Fj|own (c:String)
set_option genCtorIdx false in
mutual
inductive Ex where
 |var (i:Nat)|lit (u:U)
 |bin (o:Gj) (a b:Ex)|neg (a:Ex)|not (a:Ex)|and (a b:Ex)|or (a b:Ex)
 |cmp (o:NQ) (a b:Ex)|Fl (c:Tx) (a b:Ex)
 |call (f:String) (as:vU)|mk (c q:String) (as:vU)|cB (c m q:String) (o:Ex) (as:vU)
 |blt (f:Ui) (as:vU)|mW (m:NR) (o:Ex) (as:vU)
 |fld (o:Ex) (f:String)|ix (o i:Ex)|sl (o:Ex) (lo hi:Ox)
 |tup (as:vU)|lst (as:vU)|df (ks vs:vU)
 |comp (pr:Bool) (e:Ex) (it:It) (c:Tx) (ci:List Nat)
 |DN (a:Ex) (ts:List Ty)|DO (o k:Ex)
inductive vU where|nil|cons (e:Ex) (es:vU)
inductive It where|val (e:Ex)|range (e:Ex)|enum (e:Ex)|rev (e:Ex)|keys (e:Ex)
inductive Ox where|no|e (a:Ex)
inductive Tx where|de (e:Ex)|not (t:Tx)|and (a b:Tx)|or (a b:Tx)
end
set_option genCtorIdx false in
inductive Tg where|name (i:Nat)|pair (i j:Nat)
set_option genCtorIdx false in
mutual
inductive Sm where
 |set (i:Nat) (e:Ex)|mm (o:Ex) (f:String) (e:Ex)|X6 (o i e:Ex)|mV (o k e:Ex)
 |aug (i:Nat) (p:Gj) (e:Ex)|Cn (o:Ex) (f:String) (p:Gj) (e:Ex)|Fm (o i:Ex) (p:Gj) (e:Ex)
 |ex (e:Ex)|ret (e:Ex)|ifs (c:Tx) (a b:dj)|Co (c:Tx) (b:dj)|jN (t:Tg) (it:It) (b:dj)
 |raise (c:String) (as:vU)|Pu (b:dj) (c:String) (i:Nat) (h:dj)
 |Uj (b:dj) (c:String) (i:Nat) (q:String) (as:vU)
inductive dj where|nil|cons (s:Sm) (ss:dj)
end
section
variable{α:Type}
abbrev opt(o:Option α)(Q:α->Prop):Prop:=match o with|some a=>Q a|none=>False
abbrev yP(o:Option (Option U))(Q:U->Prop):Prop:=match o with|some (ξ u)=>Q u|_=>False
abbrev getL(o:Option SO)(Q:List U->Prop):Prop:=match o with|some (.lst us)=>Q us|_=>False
abbrev getD(o:Option SO)(Q:List (U×U)->Prop):Prop:=match o with|some (.df kvs)=>Q kvs|_=>False
abbrev qj(o:Option SO)(Q:String->List (String×U)->Prop):Prop:=match o with|some (.ins c fs)=>Q c fs|_=>False
abbrev NS(x:U)(Q:Bool->Prop):Prop:=match x with|.bl b=>Q b|_=>False
abbrev lL(x:U)(Q:Int->Prop):Prop:=match x with|.int i=>Q i|_=>False
abbrev sd(x:U)(Q:Nat->Prop):Prop:=match x with|.loc n=>Q n|_=>False
abbrev NT(x:U)(Q:U->U->Prop):Prop:=match x with|.tup [a,b]=>Q a b|_=>False
@[simp] theorem bq{a:α}{Q:α->Prop}:opt (ξ a) Q=Q a:=rfl
@[simp] theorem Uk:opt ψ Q=False:=rfl
@[simp] theorem xE:yP (ξ (ξ u)) Q=Q u:=rfl
@[simp] theorem aK{us:List U}{Q:List U->Prop}:getL (ξ (.lst us)) Q=Q us:=rfl
@[simp] theorem getD_some:getD (ξ (.df us)) Q=Q us:=rfl
@[simp] theorem bT:qj (ξ (.ins c fs)) Q=Q c fs:=rfl
@[simp] theorem Pw:NS (.bl b) Q=Q b:=rfl
@[simp] theorem WJ:lL (.int i) Q=Q i:=rfl
@[simp] theorem WK:sd (.loc n) Q=Q n:=rfl
@[simp] theorem LJ:NT (.tup [a,b]) Q=Q a b:=rfl
def gM:opt o Q↔∃a,o=ξ a/\Q a:=by cases o<;>simp[opt]
def As:yP o Q↔∃a,o=ξ (ξ a)/\Q a:=by
 rcases o with _|_|a<;>simp[yP]
def cY:getL o Q↔∃a,o=ξ (.lst a)/\Q a:=
 #[λw=>by rcases o with _|a|a|a|a|a|a<;>first|exact#[_,rfl,w]|exact aJ w,by rintro⟨b,rfl,w⟩;exact w]
def Au:getD o Q↔∃a,o=ξ (.df a)/\Q a:=
 #[λw=>by rcases o with _|a|a|a|a|a|a<;>first|exact#[_,rfl,w]|exact aJ w,by rintro⟨b,rfl,w⟩;exact w]
def mq{o:Option SO}{Q:String->List (String×U)->Prop}:qj o Q↔∃c fs,o=ξ (.ins c fs)/\Q c fs:=
 #[λw=>by rcases o with _|a|a|a|a|a|a<;>first|exact#[_,_,rfl,w]|exact aJ w,by rintro⟨b,c,rfl,w⟩;exact w]
def yQ:NS x Q↔∃b,x=.bl b/\Q b:=#[λw=>by cases x<;>first|exact#[_,rfl,w]|exact aJ w,by rintro⟨b,rfl,w⟩;exact w]
def f9:lL x Q↔∃b,x=.int b/\Q b:=#[λw=>by cases x<;>first|exact#[_,rfl,w]|exact aJ w,by rintro⟨b,rfl,w⟩;exact w]
def iF:sd x Q↔∃b,x=.loc b/\Q b:=#[λw=>by cases x<;>first|exact#[_,rfl,w]|exact aJ w,by rintro⟨b,rfl,w⟩;exact w]
def DP:NT x Q↔∃a b,x=.tup [a,b]/\Q a b:=by
 refine#[λw=>?_,by rintro⟨a,b,rfl,w⟩;exact w];cases x<;>first|exact aJ w|skip
 rename_i us;rcases us with _|⟨a,_|⟨b,_|_⟩⟩<;>first|exact aJ w|exact#[_,_,rfl,w]
end
abbrev iA(o:Option SO)(Q:List (U×U)->Prop):Prop:=match o with|some (.df kvs)=>Q kvs|some (.pI kvs)=>Q kvs|_=>False
def iU:iA (ξ (.df us)) Q=Q us:=rfl
def iV:iA o Q↔∃a,(o=ξ (.df a)\/o=ξ (.pI a))/\Q a:=
 #[λw=>by rcases o with _|a|a|a|a|a|a<;>first|exact#[_,.inl rfl,w]|exact#[_,.inr rfl,w]|exact aJ w,by rintro⟨b,rfl|rfl,w⟩<;>exact w]
abbrev lY:U->Bool
 |.bK=>ζ|.int _=>ζ|.str _=>ζ
 |_=>ϑ
abbrev NU:U->U->Bool
 |.bK,.bK=>ζ
 |.int a,.int b=>a==b
 |.str a,.str b=>a==b
 |_,_=>ϑ
abbrev se(k:U):List (U×U)->Option U
 |[]=>ψ
 | (a,v)::r=>if NU a k=ζ then ξ v else se k r
abbrev bN:String->List String
 |"BadRule"=>["rule","at"]
 |"TakesNothing"=>["rule"]
 |"TooMany"=>["rule"]
 |"NoToken"=>["at"]
 |_=>[]
abbrev my:String->List String
 |"TokenError"=>["TokenError"]
 |"BadRule"=>["BadRule","TokenError"]
 |"TakesNothing"=>["TakesNothing","TokenError"]
 |"TooMany"=>["TooMany","TokenError"]
 |"NoToken"=>["NoToken","TokenError"]
 |_=>[]
mutual
noncomputable def Fn:U->Bool
 |.bK=>ζ|.bl _=>ζ|.int _=>ζ|.str _=>ζ
 |.tup us=>Av us
 |_=>ϑ
noncomputable def Av:List U->Bool
 |[]=>ζ
 |u::us=>Fn u&&Av us
end
mutual
noncomputable def dep:U->Nat
 |.tup us=>HF us+1
 |_=>0
noncomputable def HF:List U->Nat
 |[]=>0
 |u::us=>max (dep u) (HF us)
end
mutual
noncomputable def tY:U->U->Bool
 |.bK,.bK=>ζ
 |.bl a,.bl b=>a==b
 |.bl a,.int b=>(if a then 1 else 0)== b
 |.int a,.bl b=>a==(if b then 1 else 0)
 |.int a,.int b=>a==b
 |.str a,.str b=>a==b
 |.tup as,.tup bs=>LK as bs
 |_,_=>ϑ
noncomputable def LK:List U->List U->Bool
 |[],[]=>ζ
 |x::xs,y::ys=>tY x y&&LK xs ys
 |_,_=>ϑ
end
abbrev HG:U->U->Bool
 |.tup _,_=>ζ
 |.bK,.bK=>ζ|.bK,.int _=>ζ|.bK,.bl _=>ζ|.bK,.str _=>ζ
 |.int _,.bK=>ζ|.int _,.int _=>ζ|.int _,.str _=>ζ
 |.bl _,.bK=>ζ|.bl _,.bl _=>ζ|.bl _,.str _=>ζ
 |.str _,.bK=>ζ|.str _,.int _=>ζ|.str _,.bl _=>ζ|.str _,.str _=>ζ
 |_,_=>ϑ
abbrev vV(x y:U)(Q:Bool->Prop):Prop:=(HG x y=ζ/\Fn x=ζ/\Fn y=ζ/\dep x<=100)/\Q (tY x y)
abbrev HH:U->Bool
 |.tup _=>ϑ
 |_=>ζ
abbrev Cp:U->U->Bool
 |.tup _,.tup _=>ζ
 |.tup _,_=>ϑ
 |_,_=>ζ
abbrev flat:U->Bool
 |.bK=>ζ|.bl _=>ζ|.int _=>ζ|.str _=>ζ
 |_=>ϑ
abbrev sf(x:U)(us:List U)(Q:Bool->Prop):Prop:=(flat x=ζ/\us.all flat=ζ)/\Q (us.any λy=>tY y x)
abbrev kY:List Nat->List Nat->Bool
 |a,[]=>a.isEmpty
 |a,b::bs=>a.isPrefixOf (b::bs)||kY a bs
abbrev nI(S:bE):U->Option Nat
 |.str l=>ξ l.length
 |.tup us=>ξ us.length
 |.tL ns=>ξ ns.length
 |.loc n=>match S[n]? with
  |some (.lst us)=>ξ us.length
  |some (.df kvs)=>ξ kvs.length
  |some (.vd kvs)=>ξ kvs.length
  |_=>ψ
 |_=>ψ
abbrev ve(S:bE):U->Option Bool
 |.bK=>ξ ϑ
 |.bl b=>ξ b
 |.int i=>ξ (i !=0)
 |.str _=>ψ
 |.loc n=>match S[n]? with
  |some (.vd _)=>ψ
  |_=>(nI S (.loc n)).map λn=>n !=0
 |u=>(nI S u).map λn=>n !=0
abbrev Px(n:Nat)(i:Int):Option Nat:=if 0<=i then(if i<n then ξ i.toNat else ψ) else if -(n:Int)<=i then ξ (i+n).toNat else ψ
abbrev si{α:Type}(xs:List α)(i:Int):Option α:=(Px xs.length i).bind λj=>xs[j]?
abbrev sj{α:Type}(xs:List α)(lo hi:Option Int):List α:=(xs.drop (min (lo.getD 0).toNat xs.length)).take (min (hi.getD xs.length).toNat xs.length-min (lo.getD 0).toNat xs.length)
abbrev NV(x:U)(Q:List Nat->Prop):Prop:=match x with|.str a=>Q a|_=>False
abbrev WL(x:U)(Q:Prop):Prop:=match x with|.bK=>Q|_=>False
abbrev ZN(x:U)(Q:List U->Prop):Prop:=match x with|.tup a=>Q a|_=>False
def oV:NV x Q↔∃b,x=.str b/\Q b:=#[λw=>by cases x<;>first|exact#[_,rfl,w]|exact aJ w,by rintro⟨b,rfl,w⟩;exact w]
def LL:ZN x Q↔∃b,x=.tup b/\Q b:=#[λw=>by cases x<;>first|exact#[_,rfl,w]|exact aJ w,by rintro⟨b,rfl,w⟩;exact w]
def j6{x y:U}{P:Int->Int->Prop}(w:lL x λi=>lL y (P i)):∃i j,x=.int i/\y=.int j/\P i j:=by
 let#[i,e,w]:=f9.mp w;let#[j,e',w]:=f9.mp w;exact#[i,j,e,e',w]
abbrev kj(o:Gj)(x y:U)(S:bE)(Q:KU):Prop:=
 match o with
 |.add=>match x with
  |.int i=>lL y λj=>Q (.int (i+j)) S
  |.str a=>NV y λb=>a.length+b.length<=1000000/\Q (.str (a++b)) S
  |.tup a=>ZN y λb=>(a≠[]/\a.length+b.length<=1000000)/\Q (.tup (a++b)) S
  |.loc m=>sd y λn=>getL S[m]? λa=>getL S[n]? λb=>a.length+b.length<=1000000/\Q (.loc S.length) (S++[.lst (a++b)])
  |_=>False
 |.sub=>lL x λi=>lL y λj=>Q (.int (i-j)) S
 |.mul=>lL x λi=>lL y λj=>((-(2^64)<i/\i<2^64)\/(-(2^64)<j/\j<2^64))/\Q (.int (i*j)) S
 |.fdiv=>lL x λi=>lL y λj=>(0<j/\j<1073741824)/\Q (.int (i/j)) S
 |.mod=>lL x λi=>lL y λj=>0<j/\Q (.int (i%j)) S
 |.band=>lL x λi=>lL y λj=>(0<=i/\0<=j)/\Q (.int ((i.toNat&&&j.toNat:Nat):Int)) S
 |.bor=>lL x λi=>lL y λj=>(0<=i/\0<=j)/\Q (.int ((i.toNat|||j.toNat:Nat):Int)) S
 |.shl=>lL x λi=>lL y λj=>(0<=i/\i<1000/\0<=j/\j<=1000)/\Q (.int (i*2^j.toNat)) S
 |.shr=>lL x λi=>lL y λj=>(0<=i/\0<=j)/\Q (.int (i/2^j.toNat)) S
abbrev yR(o:Gj)(x y:U)(S:bE)(Q:KU):Prop:=
 match x with
 |.int i=>kj o (.int i) y S Q
 |.str a=>kj o (.str a) y S Q
 |_=>False
abbrev sX(x:U):Bool:=match x with|.bK=>ζ|_=>ϑ
abbrev Ul(x y:U)(Q:Bool->Prop):Prop:=Cp x y=ζ/\vV x y λb=>Q !b
abbrev ig(o:NQ)(x y:U)(S:bE)(Q:Bool->Prop):Prop:=
 match o with
 |.eq=>vV x y Q
 |.ne=>match x with
  |.loc m=>∃(n:Nat)(ts:List (List Nat)),y=.loc n/\S[m]?=ξ (.lst (ts.map .str))/\S[n]?=ξ (.lst (ts.map .str))/\Q ϑ
  |x=>Ul x y Q
 |.lt=>lL x λi=>lL y λj=>Q (decide (i<j))
 |.le=>lL x λi=>lL y λj=>Q (decide (i<=j))
 |.gt=>lL x λi=>lL y λj=>Q (decide (j<i))
 |.ge=>lL x λi=>lL y λj=>Q (decide (j<=i))
 |.isin=>match y with
  |.str b=>NV x λa=>Q (kY a b)
  |.tab kvs=>NV x λa=>Q (kvs.lookup a).isSome
  |.tup us=>sf x us Q
  |.loc n=>getL S[n]? λus=>sf x us Q
  |_=>False
 |.pR=>match y with
  |.str b=>NV x λa=>Q !(kY a b)
  |.tup us=>sf x us λb=>Q !b
  |.loc n=>getL S[n]? λus=>sf x us λb=>Q !b
  |_=>False
 |.HE=>WL y (Q (sX x))
 |.Ck=>WL y (Q !(sX x))
 |.Cm=>sd y λn=>iA S[n]? λkvs=>lY x=ζ/\Q (se x kvs).isNone
abbrev DQ(x y:U)(S:bE)(Q:U->Prop):Prop:=
 match x with
 |.str l=>lL y λi=>l.length<=1000000/\opt (si l i) λc=>Q (.str [c])
 |.tup us=>lL y λi=>us.length<=1000000/\opt (si us i) Q
 |.tL ns=>lL y λi=>ns.length<=1000000/\opt (si ns i) λn=>Q (.int n)
 |.loc n=>lL y λi=>getL S[n]? λus=>opt (si us i) Q
 |.tab kvs=>NV y λk=>opt (kvs.lookup k) λv=>Q (.str v)
 |_=>False
abbrev LM(x y:U)(S:bE)(Q:U->Prop):Prop:=sd x λn=>iA S[n]? λkvs=>lY y=ζ/\opt (se y kvs) Q
abbrev SA(x:U)(lo hi:Option Int)(S:bE)(Q:KU):Prop:=
 ((∀i,lo=ξ i->0<=i)/\∀i,hi=ξ i->0<=i)/\match x with
 |.str l=>l.length<=1000000/\Q (.str (sj l lo hi)) S
 |.loc n=>getL S[n]? λus=>Q (.loc S.length) (S++[.lst (sj us lo hi)])
 |_=>False
abbrev vf(sep:List Nat):List (List Nat)->List Nat
 |[]=>[]
 |[x]=>x
 |x::r=>x++sep++vf sep r
abbrev sY(n:Nat):Nat:=if n=0 then 0 else n.log2+1
abbrev sk(f:Ui)(us:List U)(S:bE)(Q:KU):Prop:=
 match f,us with
 |.len,[x]=>opt (nI S x) λn=>n<=1000000/\Q (.int n) S
 |.tuple,[.loc n]=>getL S[n]? λus=>Q (.tup us) S
 |.list,[.loc n]=>getL S[n]? λus=>Q (.loc S.length) (S++[.lst us])
 |.list,[.tup us]=>us.length<=1000000/\Q (.loc S.length) (S++[.lst us])
 |.all,[.loc n]=>∃bs:List Bool,S[n]?=ξ (.lst (bs.map .bl))/\Q (.bl (bs.all id)) S
 |.any,[.loc n]=>∃bs:List Bool,S[n]?=ξ (.lst (bs.map .bl))/\Q (.bl (bs.any id)) S
 |.sum,[.loc n]=>∃is:List Int,S[n]?=ξ (.lst (is.map .int))/\Q (.int is.sum) S
 |.dict,[.loc n]=>∃ps:List (List Nat×U),S[n]?=ξ (.lst (ps.map λp=>.tup [.str p.1,p.2]))/\(ps.map (·.1)).Nodup/\Q (.loc S.length) (S++[.df (ps.map λp=>(.str p.1,p.2))])
 |.max,[.loc n]=>∃(i:Int)(is:List Int),S[n]?=ξ (.lst ((i::is).map .int))/\∀m∈i::is,(∀j∈i::is,j<=m)->Q (.int m) S
 |.min2,[.int i,.int j]=>Q (.int (if j<i then j else i)) S
 |.Pt,[.loc n]=>∃t ts,S[n]?=ξ (.lst ((t::ts).map .str))/\(∀u∈t::ts,u.length<=1000000)/\Q (.str (ts.foldl (λb x=>if x.length<b.length then x else b) t)) S
 |_,_=>False
abbrev ZO{κ:Type}[BEq κ](kvs:List (κ×U))(k:κ)(f:List (κ×U)->SO)(S:bE)(n:Nat)(d:U)(Q:KU):Prop:=
 kvs.length<1000000/\match kvs.lookup k with
  |some v=>Q v S
  |none=>Q d (S.set n (f (kvs++[(k,d)])))
abbrev oz(S:bE)(n:Nat)(k d:U)(Q:KU):Prop:=
 match S[n]? with
 |some (.df kvs)=>(lY k=ζ/\kvs.length<1000000)/\match se k kvs with
  |some v=>Q v S
  |none=>Q d (S.set n (.df (kvs++[(k,d)])))
 |some (.r9 kvs)=>∃ks,k=.tup (ks.map .int)/\ZO kvs ks .r9 S n d Q
 |some (.vd kvs)=>∃b ks,k=.tup [.int b,.tup (ks.map .int)]/\ZO kvs (b,ks) .vd S n d Q
 |_=>False
abbrev pJ(m:NR)(x:U)(us:List U)(S:bE)(Q:KU):Prop:=
 match m,x,us with
 |.join,.str sep,[.loc n]=>∃ts:List (List Nat),S[n]?=ξ (.lst (ts.map .str))/\(ts.map dh).sum+ts.length*sep.length<=1000000/\Q (.str (vf sep ts)) S
 |.index,.str l,[.str k]=>∃c,k=[c]/\c∈l/\Q (.int (l.idxOf c:Nat)) S
 |.startswith,.str l,[.str k]=>Q (.bl (k.isPrefixOf l)) S
 |.mU,.int i,[]=>0<=i/\Q (.int (sY i.toNat:Nat)) S
 |.get,.loc n,[.str k,d]=>getD S[n]? λkvs=>∃ps:List (List Nat×U),kvs=(ps.map λp=>(U.str p.1,p.2))/\Q ((ps.lookup k).getD d) S
 |.get,.loc n,[k]=>iA S[n]? λkvs=>lY k=ζ/\Q ((se k kvs).getD .bK) S
 |.mV,.loc n,[k,d]=>oz S n k d Q
 |.vals,.loc n,[]=>match S[n]? with
  |some (.r9 kvs)=>Q (.loc S.length) (S++[.lst (kvs.map (·.2))])
  |_=>False
 |.append,.loc n,[u]=>getL S[n]? λus=>us.length<1000000/\Q .bK (S.set n (.lst (us++[u])))
 |.yO,.loc n,[x]=>getL S[n]? λus=>(flat x=ζ/\us.all flat=ζ)/\∃j z,us[j]?=ξ z/\tY z x=ζ/\(∀(i:Nat)(z':U),i<j->us[i]?=ξ z'->tY z' x=ϑ)/\Q (.int (j:Nat)) S
 |.wq,.tup us,[x]=>(flat x=ζ/\us.all flat=ζ)/\∃j z,us[j]?=ξ z/\tY z x=ζ/\(∀(i:Nat)(z':U),i<j->us[i]?=ξ z'->tY z' x=ϑ)/\Q (.int (j:Nat)) S
 |.extend,.loc n,[.loc m]=>getL S[n]? λus=>getL S[m]? λws=>us.length+ws.length<=1000000/\Q .bK (S.set n (.lst (us++ws)))
 |_,_,_=>False
abbrev qP(m:NR)(x:U)(S:bE):Prop:=
 match m,x with
 |.join,.str _=>True|.index,.str _=>True|.startswith,.str _=>True
 |.append,.loc n=>getL S[n]? λ_=>True
 |.yO,.loc n=>getL S[n]? λ_=>True
 |.wq,.tup _=>True
 |.extend,.loc n=>getL S[n]? λ_=>True
 |.get,.loc n=>iA S[n]? λ_=>True
 |.mV,.loc n=>match S[n]? with|some (.df _)=>True|some (.r9 _)=>True|some (.vd _)=>True|_=>False
 |.vals,.loc n=>match S[n]? with|some (.r9 _)=>True|_=>False
 |.mU,.int _=>True
 |_,_=>False
abbrev NW:Option SO->Ty->Option Bool
 |some (.lst _),.list=>ξ ζ
 |some (.df _),.dict=>ξ ζ
 |some (.pI _),_=>ψ
 |some (.r9 _),_=>ψ
 |some (.vd _),_=>ψ
 |some (.ins _ _),_=>ψ
 |some _,.own _=>ψ
 |some _,_=>ξ ϑ
 |none,_=>ψ
abbrev Py(S:bE):U->Ty->Option Bool
 |.int _,.int=>ξ ζ|.bl _,.int=>ξ ζ|.bl _,.bool=>ξ ζ
 |.bK,.own _=>ψ
 |.loc n,t=>NW S[n]? t
 |.str _,.str=>ξ ζ|.tup _,.tuple=>ξ ζ
 |.exc c _,.own d=>ξ ((my c).contains d)
 |.exc _ _,.Fj=>ξ ζ
 |.exc _ _,_=>ψ
 |.tL _,_=>ψ|.tab _,_=>ψ
 |_,.own _=>ψ
 |_,.Fj=>ψ
 |_,_=>ξ ϑ
abbrev DS(S:bE)(u:U):List Ty->Option Bool
 |[]=>ξ ϑ
 |t::ts=>match Py S u t,DS S u ts with
  |some a,ξ b=>ξ (a||b)
  |_,_=>ψ
abbrev gO(f:String)(v:U):List (String×U)->List (String×U)
 |[]=>[(f,v)]
 | (g,x)::r=>if g=f then(g,v)::r else(g,x)::gO f v r
abbrev nJ(x:U)(f:String)(S:bE)(Q:U->Prop):Prop:=
 match x with
 |.loc n=>qj S[n]? λ_ fs=>opt (fs.lookup f) Q
 |.exc c us=>opt (((bN c).zip us).lookup f) Q
 |_=>False
abbrev vg(g:bE->Prop)(turn:U->Env->bE->(Env->bE->Prop)->Prop)(fin:Env->bE->Prop):List U->Env->bE->Prop
 |[],env,S=>g S/\fin env S
 |u::us,env,S=>g S/\turn u env S (vg g turn fin us)
abbrev lM(g:bE->Prop)(c:U->bE->(Bool->bE->Prop)->Prop)(e:U->bE->KU->Prop)(Q:List U->bE->Prop):List U->List U->bE->Prop
 |[],acc,S=>g S/\acc.length<1000000/\Q acc S
 |u::us,acc,S=>g S/\acc.length<1000000/\c u S λb S1=>if b=ζ then e u S1 λv S2=>lM g c e Q us (acc++[v]) S2 else lM g c e Q us acc S1
abbrev yS(c:Env->bE->(Bool->bE->Prop)->Prop)(b:Env->bE->(Env->bE->Prop)->Prop)(fin:Env->bE->Prop):Nat->Env->bE->Prop
 |0,_,_=>False
 |n+1,env,S=>c env S λt S1=>if t=ζ then b env S1 (yS c b fin n) else fin env S1
abbrev HI(x:U)(S:bE)(R:List U->(bE->Prop)->Prop):Prop:=
 match x with
 |.str l=>R (l.map λc=>.str [c]) (λ_=>True)
 |.tup us=>us.length<=1000000/\R us (λ_=>True)
 |.loc n=>getL S[n]? λus=>R us (λS'=>S'[n]?=ξ (.lst us))
 |_=>False
abbrev mz(env:Env)(ci:List Nat):Env:=ci.map λj=>(env[j]?).join
abbrev pS(pr:Bool)(u:U)(caps:Env)(k:Env->Prop):Prop:=
 match pr with
 |false=>k (ξ u::caps)
 |true=>NT u λa b=>k (ξ a::ξ b::caps)
mutual
noncomputable def WE(Γ:bU):Ex->Env->bE->KU->KX->Prop
 |.var i,env,S,Q,_=>yP env[i]? λu=>Q u S
 |.lit u,_,S,Q,_=>Q u S
 |.bin o a b,env,S,Q,E=>WE Γ a env S (λx S1=>WE Γ b env S1 (λy S2=>kj o x y S2 Q) E) E
 |.neg a,env,S,Q,E=>WE Γ a env S (λx S1=>lL x λi=>Q (.int (-i)) S1) E
 |.not a,env,S,Q,E=>WE Γ a env S (λx S1=>NS x λb=>Q (.bl !b) S1) E
 |.and a b,env,S,Q,E=>WE Γ a env S (λx S1=>NS x λc=>if c=ζ then WE Γ b env S1 Q E else Q (.bl ϑ) S1) E
 |.or a b,env,S,Q,E=>WE Γ a env S (λx S1=>NS x λc=>if c=ζ then Q (.bl ζ) S1 else WE Γ b env S1 Q E) E
 |.cmp o a b,env,S,Q,E=>WE Γ a env S (λx S1=>WE Γ b env S1 (λy S2=>ig o x y S2 λr=>Q (.bl r) S2) E) E
 |.Fl c a b,env,S,Q,E=>WT Γ c env S (λt S1=>if t=ζ then WE Γ a env S1 Q E else WE Γ b env S1 Q E) E
 |.call f as,env,S,Q,E=>tM Γ as env S (λus S1=>Γ f us S1 Q E) E
 |.mk c q as,env,S,Q,E=>tM Γ as env S (λus S1=>Γ q (.loc S1.length::us) (S1++[.ins c []]) (λv S2=>v=.bK/\Q (.loc S1.length) S2) E) E
 |.cB c m q o as,env,S,Q,E=>WE Γ o env S (λx S1=>sd x λn=>qj S1[n]? λc' fs=>(c'=c/\fs.lookup m=ψ)/\tM Γ as env S1 (λus S2=>Γ q (x::us) S2 Q E) E) E
 |.blt f as,env,S,Q,E=>tM Γ as env S (λus S1=>sk f us S1 Q) E
 |.mW m o as,env,S,Q,E=>WE Γ o env S (λx S1=>qP m x S1/\tM Γ as env S1 (λus S2=>pJ m x us S2 Q) E) E
 |.fld o f,env,S,Q,E=>WE Γ o env S (λx S1=>nJ x f S1 λv=>Q v S1) E
 |.ix o i,env,S,Q,E=>WE Γ o env S (λx S1=>WE Γ i env S1 (λy S2=>DQ x y S2 λv=>Q v S2) E) E
 |.sl o lo hi,env,S,Q,E=>WE Γ o env S (λx S1=>WO Γ lo env S1 (λl S2=>WO Γ hi env S2 (λh S3=>SA x l h S3 Q) E) E) E
 |.tup as,env,S,Q,E=>tM Γ as env S (λus S1=>us.length<=1000000/\Q (.tup us) S1) E
 |.lst as,env,S,Q,E=>tM Γ as env S (λus S1=>us.length<=1000000/\Q (.loc S1.length) (S1++[.lst us])) E
 |.df ks vs,env,S,Q,E=>tM Γ ks env S (λus S1=>tM Γ vs env S1 (λws S2=>us.length<=100/\match us with
   |[]=>Q (.loc S2.length) (S2++[.df []])\/Q (.loc S2.length) (S2++[.r9 []])\/Q (.loc S2.length) (S2++[.vd []])
   |[k]=>lY k=ζ/\∃v,ws=[v]/\Q (.loc S2.length) (S2++[.df [(k,v)]])
   |_=>False) E) E
 |.comp pr e it c ci,env,S,Q,E=>WI Γ it env S (λus g S1=>lM g (λu S2 k=>pS pr u (mz env ci) λen=>WT Γ c en S2 k λ_ _=>False)
   (λu S2 k=>pS pr u (mz env ci) λen=>WE Γ e en S2 k λ_ _=>False) (λacc S3=>Q (.loc S3.length) (S3++[.lst acc])) us [] S1) E
 |.DO o k,env,S,Q,E=>WE Γ o env S (λx S1=>WE Γ k env S1 (λy S2=>LM x y S2 λv=>Q v S2) E) E
 |.DN a ts,env,S,Q,E=>WE Γ a env S (λx S1=>opt (DS S1 x ts) λb=>Q (.bl b) S1) E
noncomputable def tM(Γ:bU):vU->Env->bE->(List U->bE->Prop)->KX->Prop
 |.nil,_,S,Q,_=>Q [] S
 |.cons e es,env,S,Q,E=>WE Γ e env S (λx S1=>tM Γ es env S1 (λxs S2=>Q (x::xs) S2) E) E
noncomputable def WO(Γ:bU):Ox->Env->bE->(Option Int->bE->Prop)->KX->Prop
 |.no,_,S,Q,_=>Q ψ S
 |.e a,env,S,Q,E=>WE Γ a env S (λx S1=>lL x λj=>Q (ξ j) S1) E
noncomputable def WI(Γ:bU):It->Env->bE->(List U->(bE->Prop)->bE->Prop)->KX->Prop
 |.val e,env,S,R,E=>WE Γ e env S (λx S1=>HI x S1 λus g=>R us g S1) E
 |.range e,env,S,R,E=>WE Γ e env S (λx S1=>lL x λn=>n<=1000000/\-(1000000:Int)<=n/\R ((b9 n.toNat).map λk=>.int (k:Nat)) (λ_=>True) S1) E
 |.enum e,env,S,R,E=>WE Γ e env S (λx S1=>sd x λn=>getL S1[n]? λus=>R (us.mapIdx λi u=>.tup [.int (i:Nat),u]) (λS'=>S'[n]?=ξ (.lst us)) S1) E
 |.keys e,env,S,R,E=>WE Γ e env S (λx S1=>sd x λn=>iA S1[n]? λkvs=>R (kvs.map (·.1)) (λS'=>S'[n]?=ξ (.pI kvs)) (S1.set n (.pI kvs))) E
 |.rev e,env,S,R,E=>WE Γ e env S (λx S1=>sd x λn=>getL S1[n]? λus=>R us.reverse (λS'=>S'[n]?=ξ (.lst us)) S1) E
noncomputable def WT(Γ:bU):Tx->Env->bE->(Bool->bE->Prop)->KX->Prop
 |.de e,env,S,Q,E=>WE Γ e env S (λx S1=>opt (ve S1 x) λb=>Q b S1) E
 |.not t,env,S,Q,E=>WT Γ t env S (λb S1=>Q (!b) S1) E
 |.and a b,env,S,Q,E=>WT Γ a env S (λc S1=>if c=ζ then WT Γ b env S1 Q E else Q ϑ S1) E
 |.or a b,env,S,Q,E=>WT Γ a env S (λc S1=>if c=ζ then Q ζ S1 else WT Γ b env S1 Q E) E
end
structure Ends where
 nx:Env->bE->Prop
 rt:KU
 ex:Env->KX
mutual
noncomputable def WS(Γ:bU):Sm->Ends->Env->bE->Prop
 |.set i e,D,env,S=>WE Γ e env S (λu S1=>D.nx (env.set i (ξ u)) S1) (D.ex env)
 |.mm o f e,D,env,S=>WE Γ e env S (λu S1=>WE Γ o env S1 (λx S2=>sd x λn=>qj S2[n]? λc fs=>fs.length<100/\D.nx env (S2.set n (.ins c (gO f u fs)))) (D.ex env)) (D.ex env)
 |.X6 o i e,D,env,S=>WE Γ e env S (λu S1=>WE Γ o env S1 (λx S2=>WE Γ i env S2 (λy S3=>sd x λn=>lL y λk=>getL S3[n]? λus=>opt (Px us.length k) λj=>D.nx env (S3.set n (.lst (us.set j u)))) (D.ex env)) (D.ex env)) (D.ex env)
 |.mV o k e,D,env,S=>WE Γ e env S (λu S1=>WE Γ o env S1 (λx S2=>WE Γ k env S2 (λy S3=>sd x λn=>getD S3[n]? λkvs=>(lY y=ζ/\se y kvs=ψ/\kvs.length<1000000)/\D.nx env (S3.set n (.df (kvs++[(y,u)])))) (D.ex env)) (D.ex env)) (D.ex env)
 |.aug i p e,D,env,S=>yP env[i]? λx=>WE Γ e env S (λy S1=>yR p x y S1 λz S2=>D.nx (env.set i (ξ z)) S2) (D.ex env)
 |.Cn o f p e,D,env,S=>WE Γ o env S (λx S1=>sd x λn=>qj S1[n]? λc fs=>opt (fs.lookup f) λv=>
   WE Γ e env S1 (λy S2=>yR p v y S2 λz S3=>qj S3[n]? λc' fs'=>c'=c/\fs'.length<100/\D.nx env (S3.set n (.ins c (gO f z fs')))) (D.ex env)) (D.ex env)
 |.Fm o i p e,D,env,S=>WE Γ o env S (λx S1=>WE Γ i env S1 (λy S2=>sd x λn=>lL y λk=>getL S2[n]? λus=>0<=k/\opt (us[k.toNat]?) λv=>
   WE Γ e env S2 (λz S3=>yR p v z S3 λr S4=>getL S4[n]? λus'=>k.toNat<us'.length/\D.nx env (S4.set n (.lst (us'.set k.toNat r)))) (D.ex env)) (D.ex env)) (D.ex env)
 |.ex e,D,env,S=>WE Γ e env S (λ_ S1=>D.nx env S1) (D.ex env)
 |.ret e,D,env,S=>WE Γ e env S D.rt (D.ex env)
 |.ifs c a b,D,env,S=>WT Γ c env S (λt S1=>if t=ζ then rG Γ a D env S1 else rG Γ b D env S1) (D.ex env)
 |.Co c b,D,env,S=>∃n,yS (λen S1 k=>WT Γ c en S1 k (D.ex en)) (λen S1 k=>rG Γ b {D with nx:=k} en S1) D.nx n env S
 |.jN t it b,D,env,S=>WI Γ it env S (λus g S1=>vg g (λu en S2 k=>match t with
   |.name i=>rG Γ b {D with nx:=k} (en.set i (ξ u)) S2
   |.pair i j=>NT u λx y=>rG Γ b {D with nx:=k} ((en.set i (ξ x)).set j (ξ y)) S2) D.nx us env S1) (D.ex env)
 |.raise c as,D,env,S=>tM Γ as env S (λus S1=>us.length=(bN c).length/\D.ex env #[c,us,ζ] S1) (D.ex env)
 |.Pu b c i h,D,env,S=>rG Γ b {D with ex:=λen x S1=>(my x.c).contains c=ζ/\rG Γ h {nx:=λen2 S2=>D.nx (en2.set i ψ) S2,rt:=D.rt,ex:=λ_ _ _=>False} (en.set i (ξ (.exc x.c x.us))) S1} env S
 |.Uj b c i q as,D,env,S=>rG Γ b {D with ex:=λen x S1=>(x.f=ζ/\(my x.c).contains c=ζ)/\tM Γ as (en.set i (ξ (.exc x.c x.us))) S1 (λus S2=>us.length=(bN q).length/\D.ex (en.set i ψ) #[q,us,ϑ] S2) λ_ _=>False} env S
noncomputable def rG(Γ:bU):dj->Ends->Env->bE->Prop
 |.nil,D,env,S=>D.nx env S
 |.cons s ss,D,env,S=>WS Γ s {D with nx:=λen S1=>rG Γ ss D en S1} env S
end
end PL
namespace L2
open PySem PySem.Spec PyProof.Rows PySem.W
open Builtin Builtin.Str
def DT:∀{b:List Nat},PL.kY a b=ζ↔∃i,i+a.length<=b.length/\(b.drop i).take a.length=a
 |[]=>by
  unfold PL.kY;rw[List.isEmpty_iff]
  constructor
  .rintro rfl;exact#[0,ar _,rfl]
  .rintro⟨i,h,_⟩
   erw[fO (by have h:i+a.length<=0:=h;omega)]
 |x::b=>by
  unfold PL.kY;rw[cX,DT (b:=b),List.isPrefixOf_iff_prefix]
  constructor
  .rintro(h|⟨i,h1,h2⟩)
   .refine#[0,by have:=h.length_le;omega,?_]
    rw[jr];exact(zT.mp h).symm
   .exact#[i+1,(·),%[EK|h2]]
  .rintro⟨i,h1,h2⟩
   cases i with
   |zero=>rw[jr] at h2;erw[.inl (zT.mpr h2.symm)]
   |succ i=>rw[EK] at h2;exact .inr #[i,by simp at h1;omega,h2]
def Aw(a b:List Nat):(!(occurrences (tx b) (tx a) 0 (tx b).length 1).isEmpty)=PL.kY a b:=by
 rw[cA,StrLaws.found_iff,DT]
 rwa[exists_congr λi=>?_]
 rw[ja,ja]
 rwa[and_congr_right λh=>?_]
 rw[StrLaws.subAt_eq,beq_iff_eq]
 simp[ja]
section
variable{X:Cx}
def Fo:hJ X (bB .In) (λx y H Q=>∃a b,x=.str (tx a)/\y=.str (tx b)/\Q (.bl (PL.kY a b)) H):=by
 x_go;let#[a,b,rfl,rfl,q]:=h;rwa[E2 pZ s σ H _ _ v u Q I rx ry #[tx a,tx b,rfl,rfl,?_]];rw[Aw]
 erw[q]
def yT:hJ X (bB .NotIn) (λx y H Q=>∃a b,x=.str (tx a)/\y=.str (tx b)/\Q (.bl (!PL.kY a b)) H):=by
 x_go;let#[a,b,rfl,rfl,q]:=h;rwa[yH pZ s σ H _ _ v u Q I rx ry #[tx a,tx b,rfl,rfl,?_]];rw[Aw]
 erw[q]
def DV:∀{is:List Int}{us:List Value},Vals (is.map V.int) us->∃ps:List (Int×Tok),us=ps.map (λp=>jM p.1 p.2)/\ps.map (·.1)=is
 |[],_,.nil=>#[[],rfl,rfl]
 |i::is,_,.cons (b:=u) r h=>by
  let#[t,e]:=(show ∃t,u=jM i t from r)
  subst e;let#[ps,e1,e2]:=DV h;exact#[(i,t)::ps,by rw[e1];rfl,by rw[aA,e2]]
def Cq(hc:X.calm=ζ):iT X (.builtin "sum") (λxs H Q=>∃p,∃is:List Int,xs=[.ref p]/\iy X.K H p (is.map V.int)/\Q (.int is.sum) H):=by
 k_ne;let#[p,is,rfl,hl,q]:=h;let#[u,rfl,ru]:=vals1 r;cases ru;let#[its,r,pl,_]:=I.list hl;let#[ps,e1,e2]:=DV r;have hl:s.heap.IsList p (intItems ps.toArray):=by
  have:=pl.isList;rw[e1] at this;simpa[intItems] using this
 rwa[sum_intListG (I.ok.hd hc) hl λh' tk t' hk=>#[.int is.sum,H,I.kept hk,#[t',?_],q]]
 rw[preSum_eq,dO (#v[])]
 simp[e2]
def Pz(hu:X.A.units+200<eF):hJ X (bB .NotEq) (λx y H Q=>∃ds ds',nE X.K H x (.tup ds)/\nE X.K H y (.tup ds')/\Dv.jZ ds<=100/\Q (.bl (!mS ds ds')) H):=by
 intro pZ s σ H x y u v Q I rx ry h;let#[ds,ds',hx,hy,hz,q]:=h;unfold nE at hx hy;let#[a,vs,rfl,hq,hd]:=hx;let#[a',vs',rfl,hq',hd']:=hy;cases rx;cases ry;let#[its,r1,p,_]:=I.tuple hq;let#[its',r2,p',_]:=I.tuple hq';have l1:=hd.len;have l2:=hd'.len;have m1:=r1.length;have m2:=r2.length;refine SeqAt.RcNeAt.tuples (e:=λj=>match ds[j]?,ds'[j]? with|some a,ξ b=>Bv a b|_,_=>ζ) p p' ∅ (λj k1 k2=>?_) _ _ _ _ #[.bl _,H,I,?_,q]
 .rw[aI] at k1 k2
  have e1:ds[j]?=ξ (ds[j]'∅):=af _;have e2:ds'[j]?=ξ (ds'[j]'∅):=af _;have f1:vs[j]?=ξ (vs[j]'∅):=af _;have f2:vs'[j]?=ξ (vs'[j]'∅):=af _;let#[w1,g1,q1]:=r1.get f1;let#[w2,g2,q2]:=r2.get f2;have a1:its.toArray[j]=w1:=by
   let#[_,z]:=ag.mp g1;simpa using z
  have a2:its'.toArray[j]=w2:=by
   let#[_,z]:=ag.mp g2;simpa using z
  rw[a1,a2,e1,e2]
  erw[HD I 100 (aP (oU e1) hz) (by show X.A.units+1+100<eF;omega) (hd.get f1 e1) (hd'.get f2 e2) q1 q2]
 .show nG _=nG _
  congr 2
  rw[aI,aI,<-m1,<-m2,l1,l2]
  rwa[mT ds ds' _ λi a b h1 h2=>?_]
  rw[h1,h2]
def HJ:hJ X (bB .In) (λx y H Q=>∃a k r,x=.str k/\y=.ref a/\(∃es n,X.K.lookup a=ξ #[.type "dict",ψ,.dict es n,#[]]/\GG X.w.params es.toList)/\(a==bV)=ϑ/\nsIn X.K a k=ξ r/\Q (.bl r.isSome) H):=by
 x_go;let#[a,k,r,rfl,rfl,#[es,n,lk,kl],lo,e,q]:=h;let#[t,rfl]:=rx;cases ry;erw[wpAny_in_of (strKind_is X.prog X.w k t) lo (mapOf_K (prog:=X.prog) (w:=X.w) I.jY lk kl) (by rw[find_K lk e];exact#[.bl _,H,I.tok _,rfl,q])]
end
section
variable{X:Cx}{pZ:List (Addr×Obj)}{σ:St}{H:Hp}{s:av}
def Inv.LN{ch:List Addr}{h':Heap}{t':Nat}{a:Addr}{o:HO}(I:Inv X pZ σ H s)(k:∀b u,b∉ch->s.heap.get? b=ξ u->h'.get? b=ξ u)(hf:∀b∈ch,pG X pZ H b)(hp:s.heap.objs.size<=a)
  (new:c9 X.prog X.w (upd H a o) h' a o):Inv X pZ σ (upd H a o) {s with heap:=h',toks:=t'}:=by
 have hn:=I.ck.fresh hp;have na:∀b u,s.heap.get? b=ξ u->b≠a:=λb u e z=>absurd (au (aU e) hp) (%[z|cV _])
 have nt:∀b u,H b=ξ u->b∉ch:=λb u e z=>by rw[(hf b z).1] at e;cases e
 have tr:∀b u,H b=ξ u->upd H a o b=ξ u:=λb u e=>%[a7 (dk e hn)|e]
 refine I.step (g':=s.gens) (d':=s.drawn) (ch:=ch) (λb hb=>?_) (λb u _ _ hc e _=>k b u hc e) (λb u _ _ hc e _=>#[u.slots,k b u hc e]) (λb u _ e n=>by rw[a7 (na b u e)];exact n)
  (λb u hc e=>#[u,k b u hc e]) (λb _ e=>tr b _ e) (λb _ _ e=>tr b _ e) (λb ps e=>#[#[],by rw[tr b _ e];simp]) (λm hm=>?_) (λb u e=>?_) I.bare
 .let#[f0,f1,f2,f3,f4,f5]:=hf b hb
  exact#[f3,f1,f4,f5]
 .let#[q,es,ep,ho,r]:=hm
  exact#[q,es,ep,k _ q (λz=>(hf _ z).2.1 rfl) ho,r]
 .by_cases hb:b=a
  .subst hb;rw[a9] at e;cases e;erw[new]
  .rw[a7 hb] at e
   refine(I.ck b u e).rO (λc v hc q=>k c v ?_ q) (λc q=>tr c _ q) λc xs q=>tr c _ q
   rcases hc with z|z
   .rw[z];erw[nt b u e]
   .erw[nt c _ z]
abbrev WM(K:aH)(a:Addr):It:=
 #[λi H=>∃xs x,iy K H a xs/\xs[i]?=ξ x,λi H y H'=>∃p x,H p=ψ/\y=.ref p/\H'=upd H p (.tup [.int i,x])/\∀xs,iy K H a xs->xs[i]?=ξ x,λi H=>∃xs,iy K H a xs/\xs.length<=i]
def Fp{P:bj}{w:bL}{K:aH}{es:List Expr}{k:Nat}{pos:Pos}(a e it:Addr)(hne:e≠it):
  Turn P w K (.Tuple es k pos) (WM K a) [e,it] e (λi h=>(∃old,IsEnum h e it i old)/\h.IsListIter it a i) where
 mem:=by simp
 obj:=λi h st b hb=>by
  let#[#[old,h1],o,h2,c,d]:=st;rcases aW.mp hb with rfl|hb
  .exact#[_,h1,λv z=>by cases z]
  .have e:b=it:=by simpa using hb
   subst e;exact#[o,h2,λv z=>by rw[d] at z;cases z]
 keep:=λi h h' st k=>by
  let#[#[old,h1],h2]:=st;exact#[#[old,k e (#v[]) _ h1],h2.at λo q=>k it (#v[]) o q]
 item:=by
  w_up;subst hP hw hK;let#[xs,x,hq,hx]:=hg;let#[its,rv,p,hz]:=I.list hq;let#[u,hu,ru]:=rv.get hx;let#[#[old,h1],h2]:=st;refine wpAny_pyNext_enum_item h1 h2 p.isList (x:=u) (~~~hu) hne λh' ho hit' hT hsz hk=>?_
  refine#[_,rfl,wpAny_letOwnedTupleGo_enum ho λh'' he'' sb=>?_];have hel:e<s.heap.objs.size:=aU h1;have nT:s.heap.objs.size≠e:=cw hel;have k2:∀b v,b∉[e,it]->s.heap.get? b=ξ v->h''.get? b=ξ v:=λb v hb q=>by
   dsimp[aW,cj,or_false,not_or] at hb;exact(sb.2 b hb.1).trans (hk b v hb.1 hb.2 q)
  have hfr:=I.fresh;refine#[.ref s.heap.objs.size,upd H s.heap.objs.size (.tup [.int i,x]),I.LN (t':=s.toks+1) (h':=h'') k2 hf (ar _) ?_,rfl,#[_,x,hfr,rfl,rfl,λys hy=>%[I.qG hy hq|hx]],?_,λb hb=>?_]
  .exact#[show 2<=sizeLine by decide,[.int i s.toks,u],.cons #[_,rfl] (.cons ru .nil),_,(sb.2 _ nT).trans hT,rfl,#[_,rfl],rfl]
  .exact#[#[u,~~~he''],hit'.at λo q=>(sb.2 it hne.symm).trans q]
  .rw[a7]
   .exact(hf b hb).1
   .intro z
    let#[f0,_]:=hf b hb;rcases aW.mp hb with q|hb
    .erw[nT (z▸q.symm▸rfl)]
    .have q:b=it:=by simpa using hb
     let#[o,h3,_]:=h2;have:=aU h3;rw[<-q,z] at this;erw[cV _ this]
 done:=by
  w_up;subst hP hw hK;let#[xs,hq,hx]:=hg;let#[its,rv,p,hz]:=I.list hq;let#[#[old,h1],h2]:=st;have hl:=rv.length;let#[f0,f1,f2,f3,f4,f5]:=hf it (#v[]);erw[wpAny_pyNext_enum_end (I.ok.hd hc) h1 h2 p.isList ((·)) λh' eb=>#[rfl,I.turned (t':=s.toks) (λb o hb e=>eb b o hb e) f0 f1 f3 f4 f5]]
 self:=λ_ _ _ _ _ st h=>by
  let#[#[old,h1],h2]:=st;erw[wpAny_pyIter_enum h1 h]
abbrev Um(K:aH)(ta:TA):TI:=λσ H R=>ta σ H λvs H1=>∃a,vs=[.ref a]/\(∃xs,iy K H1 a xs)/\R (WM K a) H1
def LO{X:Cx}{a:Expr}{ta:TA}{p pos:Pos}{es:List Expr}{k:Nat}{tp:Pos}(hg:Gl X "enumerate")(hm:X.mg "enumerate"=ψ)(ha:PA X [a] ta)(hs:bM [a] X.env=[(ϑ,eval a X.env)]:=by rfl):
  PI X (.Tuple es k tp) (.Call (.Name "enumerate" p) [a] [] pos) (Um X.K ta):=by
 intro pZ s σ H R I h;rwa[Call_ (rP I hg hm boot_enumerate (fm (dS (ha pos pZ s σ H _ I h) λus s1 h9=>?_) hs rfl))];let#[vs,H1,I1,r1,q1]:=h9;let#[l,e,#[xs,hq],q]:=q1;subst e;cases r1 with
 |cons r rr=>
  cases rr;cases r;let#[its,rv,p,hz]:=I1.list hq;rwa[call_enumerate_list p.isList λh' hE hI hsz hk=>wpAny_pyIter_enum hE ?_]
  have I2:Inv X pZ σ H1 {s1 with heap:=h'}:=I1.kept (t':=s1.toks) λb o e=>hk b o e
  refine#[_,[s1.heap.objs.size+1,s1.heap.objs.size],_,WM X.K l,H1,rfl,I2,Fp l _ _ (Nat.succ_ne_self _),#[#[_,hE],hI],λb hb=>?_,q];rcases aW.mp hb with e|hb
  .subst e
   erw[I1.z8 (hW _) (I1.ck.fresh (hW _))]
  .have e:b=s1.heap.objs.size:=by simpa using hb
   subst e;erw[I1.z8 (ar _) (I1.ck.fresh (ar _))]
end
def yU:pY (.type "list") "keys"=pure ψ:=by rw[typeLookup_type,builtinLookup_eq_fast];kernel_rfl
def oW:plainId "dict.update.loop"=ζ:=by decide +kernel
def xF:entryFor table "dict.update.loop"=ξ Builtin.«dict.update.loop»:=entryFor_of_tree (by kernel_rfl)
section
variable{prog:bj}{w:bL}{A:cf}{E:Value->av->Prop}{s:av}{a l it D:Addr}{its:Array Value}{n:Nat}{K:Type}[DecidableEq K]{knd:KeyKind prog w K}
def Fq(hx:s.heap.get? a=ξ {cls:=.type "list",data:=.seq its n})(hA:A.handled=ψ)
  (hq:∀h' t',(∀b o,s.heap.get? b=ξ o->h'.get? b=ξ o)->Q ψ {s with heap:=h',toks:=t'}):wpAny (aS prog w) A (KA (.ref a) "keys") Q E s:=by
 let#[h,g,d,t,os]:=s;have hT:(#[h,g,d,t,os]:av).TypeIs (.ref a) "list":=#[_,hx,rfl]
 have f1:=sub_AttributeError;have f3:=nH.lookup;have f4:=nH.bind (.ref a);have f5:=am_list_getattr_none;unfold KA getAttrBy? getAttrBy
 repeat (any_goals (first|assumption| ((with_reducible show wpAny _ _ (call (qw "list.__getattribute__") _ _) _ _ _);refine uD nH (show Shared.TypeIs _ _ "list" from #[_,hx,rfl]) am_entry_list_getattribute (F.args_list_getattribute_2 _ _) (meets_getattribute_miss_list a its n #[] "keys" _ yU (by decide +kernel)) #[hx,hA,λh' tk' e hx'=>?_])|wp_step))
 let#[t',u',he]:=hx'.there;show wpAny _ _ (getattributeRaised _ _ _ _ _ _ _) _ _ _;unfold getattributeRaised
 repeat (any_goals (first|assumption|wp_step))
 erw[hq _ _ hx'.keeps]
def sm{h:Heap}{a b:Addr}{o u:Obj}(ha:h.get? a=ξ o)(hb:h.get? b=ξ u)(n:o.cls≠u.cls):a≠b:=λe=>by
 rw[e,hb] at ha;cases ha;erw[n rfl]
def Ft{R:Result->av->Prop}{more:List (K×Value)}{res:Value}(hh:A.handled=ψ)(hz:its.size=more.length):∀(k i:Nat)(s:av)(acc:List (K×Value)),more.length-i=k->i<=more.length->s.heap.IsListIter it l i->s.heap.IsList l its ->
  (∀(j:Nat)(kk:K)(v:Value),more[j]?=ξ (kk,v)->∃T key,its[j]?=ξ (.ref T)/\s.heap.IsTuple T (List.toArray [key,v])/\knd.is kk key=ζ)->s.heap.DictOf knd D acc->acc.length+k<=sizeLine ->
  (∀h' t',h'.DictOf knd D (merged acc (more.drop i))->(∀b o,b≠D->b≠it->s.heap.get? b=ξ o->h'.get? b=ξ o)->R (.ok (.ret res)) {s with heap:=h',toks:=t'}) ->
  nQ (aS prog w) A (.builtin "dict.update.loop" #[[aL D,aL it,eV i,res],[]]) R s:=by
 intro k;induction k with
 |zero=>
  intro i s acc hk hi hit hl hp hd hs hR;have hin:i=more.length:=∅
  rwa[codeAny_builtin xF ?_];rw[Bp oW _]
  show wpAny _ A.in1 (yi (.ref it)>>=_) _ _ s
  let#[oi,hoi,ci,di]:=id hit;let#[od,es,ep,hod,hcd,r]:=id hd;have nd:D≠it:=sm hod hoi (by rw[hcd.1,ci];decide);rwa[ae (Ka hh hit hl (by rw[hin,<-hz];simp) λh' eb=>?_)];rwa[ae (ao (ao ?_))];rwa[hR h' s.toks ?_ λb o _ hb e=>eb b o hb e]
  rw[hin,tU]
  exact#[od,es,ep,eb D od nd hod,hcd,r]
 |succ k ih=>
  intro i s acc hk hi hit hl hp hd hs hR;have lt:i<more.length:=∅
  obtain⟨⟨kk,v⟩,hkv⟩:∃p,more[i]?=ξ p:=#[_,af lt]
  let#[T,key,hT,ht,hk']:=hp i kk v hkv;rwa[codeAny_builtin xF ?_];rw[Bp oW _]
  show wpAny _ A.in1 (yi (.ref it)>>=_) _ _ s
  let#[oi,hoi,ci,di]:=id hit;let#[od,es,ep,hod,hcd,r]:=id hd;let#[ol,hol,cl,dl]:=id hl;have nd:D≠it:=sm hod hoi (by rw[hcd.1,ci];decide);have nl:l≠it:=sm hol hoi (by rw[cl,ci];decide);have nld:l≠D:=sm hol hod (by rw[cl,hcd.1];decide);have nt:∀{T:Addr}{vs:Array Value},s.heap.IsTuple T vs->T≠it/\T≠D:=λ⟨ot,hot,ct,_⟩=>#[sm hot hoi (by rw[ct,ci];decide),sm hot hod (by rw[ct,hcd.1];decide)]
  rwa[ae (Gu hit hl hT λh1 hit1 sb1=>?_)];let#[ot,hot,ct,nn,dt]:=id ht;have hot1:h1.get? T=ξ ot:=(sb1.2 T (nt ht).1).trans hot;rwa[ae (cu (ae (wpAny_tryCatch ?_)))];unfold Builtin.Dict.pairItems;rwa[ae (wpAny_typeOf (T:="tuple") #[ot,hot1,ct] ?_)];rw[if_pos ⋯]
  rwa[ae (Bz hot1 dt (ao ?_))];show wpAny _ A.in1 (holding [key,v] (dictSet D key v)) _ _ _;rwa[cu (cu (ae (knd.pyHash hk' ?_)))];have hd1:h1.DictOf knd D acc:=#[od,es,ep,(sb1.2 D nd).trans hod,hcd,r]
  rwa[wpAny_dictSetHashed_pairs hk' hd1 (λh2 hd2 sb2=>ao #[plainId_quiet oW _,?_]) ∅];have kp:∀b o,b≠D->b≠it->s.heap.get? b=ξ o->h2.get? b=ξ o:=λb o n1 n2 e=>(sb2.2 b n1).trans ((sb1.2 b n2).trans e)
  have e1:(eV ((i:Int)+1))=eV ((i+1:Nat):Int):=by push_cast;rfl
  rw[e1]
  refine ih (i+1) _ (uE acc kk v) ∅ lt (hit1.at λo e=>(sb2.2 it nd.symm).trans e) #[ol,kp l ol nld nl hol,cl,dl] (λj kk v e=>?_) hd2 ?_ λh' t' hd' kp'=>?_
  .let#[T,key,q1,#[ot,hot,r],q3]:=hp j kk v e
   exact#[T,key,q1,#[ot,kp T ot (nt #[ot,hot,r]).2 (nt #[ot,hot,r]).1 hot,r],q3]
  .have:(uE acc kk v).length<=acc.length+1:=by
    unfold uE;split
    .rw[ah];omega
    .rw[aC];simp
   omega
  .rwa[hR h' t' ?_ λb o n1 n2 e=>kp' b o n1 n2 (kp b o n1 n2 e)]
   rw[b8 lt]
   have:more[i]=(kk,v):=by rw[af lt] at hkv;erw[aG hkv]
   rw[this]
   erw[hd']
def Cr{more:List (K×Value)}{Q:Value->av->Prop}(hh:A.handled=ψ)(hl:s.heap.get? l=ξ {cls:=.type "list",data:=.seq its n})(hz:its.size=more.length)(hm:more.length<=sizeLine)
  (hp:∀(j:Nat)(kk:K)(v:Value),more[j]?=ξ (kk,v)->∃T key,its[j]?=ξ (.ref T)/\s.heap.IsTuple T (List.toArray [key,v])/\knd.is kk key=ζ)
  (h:∀h' t',h'.DictOf knd s.heap.objs.size (merged [] more)->(∀b o,s.heap.get? b=ξ o->h'.get? b=ξ o)->Q (.ref s.heap.objs.size) {s with heap:=h',toks:=t'}):
  wpAny (aS prog w) A (call (.type "dict") [.ref l]) Q E s:=by
 refine callType_codes (Q₁:=λobj s₁=>obj=.ref s.heap.objs.size/\s₁={s with heap:=s.heap.push {cls:=.type "dict",data:=.dict #[]} }) F.kt_called_dict (F.kt_typeCall_dict_1 _) F.entry_dict_init (kt_code_dict_new _ #[rfl,rfl]) ?_;rintro obj s₁ ⟨rfl,rfl⟩;have hnew:(s.heap.push {cls:=.type "dict",data:=.dict #[]}).DictOf knd s.heap.objs.size []:=Bl s.heap;have kp:∀b o,s.heap.get? b=ξ o->(s.heap.push {cls:=.type "dict",data:=.dict #[]}).get? b=ξ o:=λb o e=>az _ e
 generalize s.heap.push {cls:=.type "dict",data:=.dict #[]}= h1 at hnew kp;refine#[hnew.typeIs,F.args_dict_init_2 _ _,?_];unfold Builtin.«dict.__init__»;rwa[ae ?_];unfold Builtin.Dict.selfAndRest;rwa[ae (qD hnew.typeIs ?_)];show wpAny _ _ (pure (s.heap.objs.size,[aL l])) _ _ _;rwa[ao ?_];show wpAny _ _ (Builtin.Dict.updateFrom "dict.__init__" s.heap.objs.size (.ref l) [] .none) _ _ _;unfold Builtin.Dict.updateFrom;rwa[ae (wpAny_typeOf (T:="list") #[_,kp l _ hl,rfl] ?_)];rw[if_pos ⋯]
 rwa[ae (Fq (kp l _ hl) hh λh2 t2 k2=>?_)];rw[if_pos (by rfl)]
 refine ae (pW ?_);have hl2:=k2 l _ (kp l _ hl);refine ae (wb #[_,hl2,rfl,_,rfl] (ao #[plainId_quiet oW _,?_]));have nD:s.heap.objs.size<h2.objs.size:=by
  let#[od,_,_,hod,_]:=hnew;erw[aU (k2 _ _ hod)]
 have kp3:∀b o,s.heap.get? b=ξ o->(h2.push {cls:=.type "list_iterator",data:=.fields (List.toArray [.ref l,.int 0 0])}).get? b=ξ o:=λb o e=>az _ (k2 b o (kp b o e))
 refine Ft (A:=A.in1) (knd:=knd) (its:=its) (l:=l) hh hz more.length 0 _ [] ∅ (bC _) ?_ ?_ (λj kk v e=>?_) ?_ (~~~hm) λh' t' hd' kp'=>?_
 .exact#[_,a3 _ rfl,rfl,rfl]
 .exact#[{cls:=.type "list",data:=.seq its n},az _ hl2,rfl,n,rfl]
 .let#[T,key,q1,#[ot,hot,r],q3]:=hp j kk v e
  exact#[T,key,q1,#[ot,kp3 T ot hot,r],q3]
 .let#[od,es,ep,hod,r]:=hnew
  exact#[od,es,ep,az _ (k2 _ _ hod),r]
 .refine#[rfl,h h' t' hd' λb o e=>kp' b o ?_ ?_ (kp3 b o e)]
  .erw[a6 (aU e)]
  .erw[a6 (aU (k2 b o (kp b o e)))]
end
section
variable{X:Cx}{pZ:List (Addr×Obj)}{σ:St}{H:Hp}{s:av}
@[reducible]def PB(H:Hp)(v:V)(kv:Key×V):Prop:=∃T,v=.ref T/\H T=ξ (.tup [kV kv.1,kv.2])
def LP(I:Inv X pZ σ H s):∀{vs:List V}{kvs:List (Key×V)}{its:List Value},Paired (PB H) vs kvs->Vals vs its->∃more,KV kvs more/\its.length=more.length /\
  ∀(j:Nat)(kk:Key)(v:Value),more[j]?=ξ (kk,v)->∃T key,its[j]?=ξ (.ref T)/\s.heap.IsTuple T (List.toArray [key,v])/\(cR X.prog X.w).is kk key=ζ
 := by
 intro vs kvs its hp hv;induction hp generalizing its with
 |nil=>cases hv;exact#[[],.nil,rfl,λj kk v e=>by cases e]
 |cons ha hr ih=>
  rename_i b _ _;let#[k,x]:=b;let#[T,e,hT]:=ha;cases hv with|cons r rr=>?_
  subst e;cases r;let#[more,h1,h2,h3]:=ih rr;let#[z,its',rv,p]:=I.ck T _ hT;cases rv with
  |cons r1 rr1=>
   rename_i ku us';cases rr1 with
   |cons r2 rr2=>
    rename_i xu _;cases rr2;refine#[(k,xu)::more,.cons #[rfl,r2] h1,by simp[h2],λj kk v e=>?_];cases j with
    |zero=>
     simp at e;let#[rfl,rfl]:=e;exact#[T,ku,rfl,p.tup,qM r1]
    |succ j=>simpa using h3 j kk v (~~~e)
def Cs(hA:X.A.handled=ψ):iT X (.type "dict") (λxs H Q=>∃a vs kvs,xs=[.ref a]/\H a=ξ (.lst vs)/\Paired (PB H) vs kvs/\(kvs.map (·.1)).Nodup/\∀p,H p=ψ->Q (.ref p) (upd H p (.dK kvs))):=by
 intro pZ s σ H xs us Q I rv h;let#[a,vs,kvs,rfl,hH,hp,hn,q]:=h;let#[u,rfl,ru]:=rv.one;cases ru;let#[z,its,n,r,hl,e]:=I.E8 hH;let#[more,h1,h2,h3]:=LP I hp r;have hk:=h1.keys;refine Cr (knd:=cR X.prog X.w) (more:=more) hA e (~~~h2) (by rw[<-h2,<-hl];erw[z]) (λj kk v ej=>?_) λh' t' hd kp=>?_
 .let#[T,key,q1,q2,q3]:=h3 j kk v ej
  exact#[T,key,~~~q1,q2,q3]
 .rw[merged_nil_of_nodup more (by rw[<-hk];erw[hn])] at hd
  have hf:=I.fresh;refine#[.ref s.heap.objs.size,_,I.laid (t':=t') kp (ar _) (yI (kvs:=kvs) (by rw[h1.length,<-h2,<-hl];erw[z]) ?_ h1 hd),rfl,q _ hf];have:=I.big;erw[beq_eq_false_iff_ne.mpr (cw this)]
end
section
variable{X:Cx}
def tZ(hi:0<=i)(hj:0<=j):Builtin.bitAnd i j=((i.toNat&&&j.toNat:Nat):Int):=by
 unfold Builtin.bitAnd;rw[decide_eq_true hi,decide_eq_true hj]
def Ct(hi:0<=i)(hj:0<=j):Builtin.bitOr i j=((i.toNat|||j.toNat:Nat):Int):=by
 unfold Builtin.bitOr Builtin.bitAnd Builtin.bitNot;rw[decide_eq_false ∅,decide_eq_false ∅,show -(-i-1)-1=i by omega,show -(-j-1)-1=j by omega]
 dsimp only;omega
def Fu:Bt X "int.bit_length" (λx xs H Q=>∃i:Nat,x=.int i/\xs=[]/\Q (.int (if i=0 then 0 else i.log2+1:Nat)) H):=by
 intro pZ s σ H x xs v us Q I rx rs h;let#[i,rfl,rfl,q]:=h;let#[t,rfl]:=rx;cases rs;refine call_int_bit_length #[.int _,H,I.tok _,#[_,rfl],?_];have:Builtin.Int.intBits i=if i=0 then 0 else i.log2+1:=by
  unfold Builtin.Int.intBits;by_cases e:i=0
  .subst e;rfl
  .rw[if_neg e,if_neg (~~~e)];rfl
 rw[this]
 erw[q]
end
section
variable{X:Cx}
def Ax{val:Nat->Int}:∀k,argBest (λi j=>decide (val j<val i)) k<=k/\∀j,j<=k->val j<=val (argBest (λi j=>decide (val j<val i)) k)
 |0=>#[ar _,λj h=>%[EL.mp h|EM _]]
 |k+1=>by
  let#[h1,h2]:=Ax (val:=val) k;unfold argBest;split
  .rename_i hb
   have hb:=of_decide_eq_true hb;refine#[ar _,λj hj=>?_];rcases tI k j with z|z
   .rw[show j=k+1 by omega];erw[EM _]
   .erw[Int.le_of_lt (Int.lt_of_le_of_lt (h2 j z) hb)]
  .rename_i hb
   have hb:¬val (argBest _ k)<val (k+1):=λz=>hb (decide_eq_true z)
   refine#[mH h1,λj hj=>?_];rcases tI k j with z|z
   .rw[show j=k+1 by omega];omega
   .erw[h2 j z]
def DW:∀{is:List Int}{us:List Value},Vals (is.map V.int) us->us.length=is.length/\∀(i:Nat)v,us[i]?=ξ v->∃t,v=jM ((is[i]?).getD 0) t
 |[],_,r=>by rw[jo] at r;cases r;exact#[rfl,λi v e=>by simp at e]
 |k::ks,_,r=>by
  rw[aA] at r;cases r with
  |cons h t=>
   let#[h1,h2]:=DW t;refine#[by simp[h1],λi v e=>?_];cases i with
   |zero=>simp at e;subst e;erw[h]
   |succ i=>simp at e ⊢;erw[h2 i v e]
def Cu(hc:X.calm=ζ):iT X (.builtin "max") (λxs H Q=>∃p,∃(i:Int)(is:List Int),xs=[.ref p]/\iy X.K H p ((i::is).map V.int)/\∀m∈i::is,(∀j∈i::is,j<=m)->Q (.int m) H):=by
 k_ne;let#[p,i,is,rfl,hl,q]:=h;let#[u,rfl,ru]:=vals1 r;cases ru;let#[its,r,pl,_]:=I.list hl;have hl:=pl.isList;let#[e1,e2]:=DW r;have hlt:p<s.heap.objs.size:=by let#[_,e,_]:=hl;erw[aU e]
 refine call_max_walk (wb hl ?_);refine#[s.heap.objs.size,[s.heap.objs.size,p],[s.heap.objs.size],its.toArray.size,_,_,_,rfl,Walks.list (A:=X.A.in1) (I.ok.hd hc) _ p (a6 hlt) its.toArray,
  #[#[_,a3 _ rfl,rfl,rfl],hl.push _],λb hb=>?_,by simp[e1],CmpOf.ints_gt (λk=>((i::is)[k]?).getD 0) (λk v hv=>e2 k v (~~~hv)),λv h' tk hP hk=>?_]
 .show b<(s.heap.push _).objs.size
  rw[gV]
  rcases aW.mp hb with z|z
  .rw[z];erw[b4 _]
  .rw[aX.mp z];erw[a8 hlt]
 .have hn:its.toArray.size-1=is.length:=by simp[e1]
  rw[hn] at hP;let#[b1,b2]:=Ax (val:=λk=>((i::is)[k]?).getD 0) is.length;have get:∀k,k<=is.length->∃m,(i::is)[k]?=ξ m/\((i::is)[k]?).getD 0=m:=λk hk=>by
   have e:=af (l:=i::is) (i:=k) ((·));exact#[_,e,by rw[e];rfl]
  let#[m,g1,g2]:=get _ b1;let#[t,rfl]:=e2 _ v (~~~hP);refine#[.int m,H,I.kept (LSm.kept_iter hk),#[t,by rw[<-g2]],q m (ax g1) λj hj=>?_];let#[k,hk2,e]:=qu hj;have:=b2 k (by simp at hk2;omega);rw[<-g2]
  have e3:((i::is)[k]?).getD 0=j:=by rw[af hk2,e];rfl
  rw[<-e3];erw[this]
def Fv:iT X (.builtin "len") (λxs H Q=>∃a kvs,xs=[V.ref a]/\H a=ξ (.dP kvs)/\Q (.int kvs.length) H):=by
 k_ne;let#[a,kvs,rfl,ha,q]:=h;let#[u,rfl,ru]:=vals1 r;cases ru;let#[z,hd,ws,rel,dd]:=NK I.ck ha;have hT:=dd.typeIs;let#[o,es,ep,ho,hc,hdat,he,_]:=dd;have hsz:es.size=kvs.length:=by rw[zQ he,<-Paired.length rel]
 have h63:(kvs.length:Int)<2^63:=by rw[gv] at z;omega
 refine Calls.call_function_entry kind_len plain_len entry_len (args_len1 _) ?_;unfold Builtin.«len»;refine ae (m:=oneArg "len" _) (ao ?_);refine ae (m:=callSpecial? (.ref a) (bP "__len__")) (pD (name:=bP "__len__") hT zI
  (kJ zI hT PySem.F.entry_dict_len ?_ (PySem.F.args_dict_len_1 _)))
 show wpAny _ _ (dictSize a>>=_) _ _ s
 unfold dictSize;rwa[ae (ae (iq ho hdat (ao ?_)))];show wpAny _ _ (Builtin.Dict.pendingCount a>>=_) _ _ s;rwa[ae (wpAny_pendingCount_other hd ?_)];rwa[wpAny_ret_mkInt ?_];show wpAny _ _ _ _ _ {s with toks:=s.toks+1};rwa[ae (cu (ao ?_))];rwa[ae (wpAny_letGo ?_)];rw[hsz]
 show wpAny _ _ (if ((kvs.length:Nat):Int)<0 then _ else _) _ _ _
 rw[if_neg ∅]
 show wpAny _ _ (if ((kvs.length:Nat):Int)≥2^63 then _ else _) _ _ _
 rw[if_neg ∅]
 erw[ae (Ko (ao #[_,rfl,.int kvs.length,H,I.tok _,#[_,rfl],q]))]
def HK(h:Heap)(hb:bV<h.objs.size):c9 P w H (h.push {cls:=.type "dict",data:=.dict #[]}) h.objs.size (.dP []):=
 #[bC _,beq_eq_false_iff_ne.mpr (bI (a6 hb)),[],.nil,_,#[],0,a3 _ rfl,#[rfl,rfl,rfl],rfl,rfl,wL]
abbrev Uo:TE:=λ_ H Q=>∃o,(o=HO.dK []\/o=.dT []\/o=.dP [])/\∀p,H p=ψ->Q (.ref p) (upd H p o)
def LQ:PE X (.Dict [] [] pos) Uo:=λpZ s σ H Q I h=>by
 let#[o,ho,h]:=h;rwa[wpAny_Dict_empty #[.ref s.heap.objs.size,_,I.laid (a:=s.heap.objs.size) (o:=o) (t':=s.toks) (λ_ _ q=>az _ q) (ar _) ?_,rfl,h _ (I.ck.fresh (ar _))]];rcases ho with rfl|rfl|rfl
 .erw[Ag s.heap I.big]
 .erw[Hk s.heap I.big]
 .erw[HK s.heap I.big]
end
section
variable{prog:bj}{w:bL}{A:cf}{E:Value->av->Prop}{s:av}
abbrev Ay(h:Heap)(d:Addr)(es:Array pC)(ep:Nat):Prop:=∃o,h.get? d=ξ o/\o.data=.dict es ep
def Fw(hv:s.heap.IsValuesView v d)(hm:Ay s.heap d es ep)
  (hQ:Q (.ref s.heap.objs.size) {s with heap:=s.heap.push {cls:=.type "dict_valueiterator",data:=.fields (List.toArray [.ref d,.int 0 0,.int es.size 0,.int ep 0])} }):
  wpAny (aS prog w) A (pyIter (.ref v)) Q E s:=by
 let#[ov,hov,hcv,hdv]:=id hv;let#[o,ho,hdat]:=hm;rwa[wpAny_pyIter_slot hv.typeIs sQ (kJ sQ hv.typeIs PySem.F.entry_dict_values_iter ?_ (PySem.F.args_dict_values_iter_1 _))];unfold Builtin.«dict_values.__iter__»;rwa[ae (ao (ae ?_))];unfold Builtin.Dict_items.dictOf;rwa[ae (fh hov hdv (x:=.ref d) rfl (ao (ae ?_)))];unfold Builtin.Dict_items.newIterator;rwa[ae (iq ho hdat (ae (zU ho hdat ?_)))];have hown:Builtin.Dict_items.ownsTuple "dict_valueiterator"=ϑ:=⋯
 dsimp[hown,aD,if_false];rwa[iu (ao #[_,rfl,"dict_valueiterator",_,#[_,a3 _ rfl,rfl],cG.lookup,?_])];simpa[eV] using hQ
def HL(hit:s.heap.IsValIter it d i es.size ep)(hm:Ay s.heap d es ep)(hlt:i<es.size)
  (hQ:∀h',h'.IsValIter it d (i+1) es.size ep->fS it s.heap h'->Q (ξ es[i].val) {s with heap:=h'}):wpAny (aS prog w) A (yi (.ref it)) Q E s:=by
 let#[o,ho,hc,hd]:=id hit;let#[od,hod,hdd]:=id hm;unfold yi;refine ae (tR (pD (name:=bP "__next__") hit.typeIs cG
  (kJ cG hit.typeIs oN ?_ (n6 _))))
 rwa[ae (ao (ae (ae ?_)))];rwa[ae (gw hit.typeIs (ao ?_))];rwa[ae (wpAny_fieldsOf ho hd ?_)];have hown:Builtin.Dict_items.ownsTuple "dict_valueiterator"=ϑ:=⋯
 dsimp[hown,aD,if_false];show wpAny _ _ (if (aL d==bx)=ζ then _ else _) _ _ s;rw[if_neg (show ¬((aL d==bx)=ζ) from aY)]
 rwa[ae (ao (ae (iq hod hdd ?_)))];rw[if_neg (#v[])]
 rwa[ae (ao (ae (zU hod hdd ?_)))];rw[if_neg (#v[])]
 refine ao ?_;dsimp[show ¬((i:Int)<0) from by omega,if_false,mG,d8 hlt];refine ae ?_;refine ae (gw hit.typeIs (ao ?_));refine ae (qE hit.typeIs ?_);show wpAny _ _ (Kv (.ref it) 1 (eV ((i:Int)+1))>>=_) _ _ s;refine ae (fW ho hd (#v[]) ?_);have hit':(s.heap.update it (dw (·.setIfInBounds 1 (eV ((i:Int)+1))))).IsValIter it d (i+1) es.size ep:=
  #[_,bA _ ho (jQ (d7 hd _)),(Obj.cls_mapFields ..).trans hc,by rw[d7 hd];simp[eV]]
 rwa[ae (cu ?_)];refine ae (qE (s:={s with heap:=s.heap.update it (dw (·.setIfInBounds 1 (eV ((i:Int)+1))))}) hit'.typeIs ?_);refine ae (qE (s:={s with heap:=s.heap.update it (dw (·.setIfInBounds 1 (eV ((i:Int)+1))))}) hit'.typeIs ?_);show wpAny _ _ (pure es[i].val) _ _ _;erw[ao (ao #[_,rfl,ao (hQ _ hit' (d9 ..))])]
def LR(hh:A.handled=ψ)(hit:s.heap.IsValIter it d i es.size ep)(hm:Ay s.heap d es ep)(hge:es.size<=i)
  (hQ:∀h',Heap.ExtBut it s.heap h'->Q ψ {s with heap:=h'}):wpAny (aS prog w) A (yi (.ref it)) Q E s:=by
 let#[o,ho,hc,hd]:=id hit;let#[od,hod,hdd]:=id hm;unfold yi;refine ae (tR (pD (name:=bP "__next__") hit.typeIs cG
  (kJ cG hit.typeIs oN ?_ (n6 _))))
 rwa[ae (ao (ae (ae ?_)))];rwa[ae (gw hit.typeIs (ao ?_))];rwa[ae (wpAny_fieldsOf ho hd ?_)];have hown:Builtin.Dict_items.ownsTuple "dict_valueiterator"=ϑ:=⋯
 dsimp[hown,aD,if_false];show wpAny _ _ (if (aL d==bx)=ζ then _ else _) _ _ s;rw[if_neg (show ¬((aL d==bx)=ζ) from aY)]
 rwa[ae (ao (ae (iq hod hdd ?_)))];rw[if_neg (#v[])]
 rwa[ae (ao (ae (zU hod hdd ?_)))];rw[if_neg (#v[])]
 refine ao ?_;dsimp[show ¬((i:Int)<0) from by omega,if_false,mG,zR hge];refine ae ?_;refine ae (gw hit.typeIs (ao ?_));show wpAny _ _ (Kv (.ref it) 0 .none>>=_) _ _ s;refine ae (fW ho hd (#v[]) ?_);show wpAny _ _ (newExc (.type "StopIteration") []>>=_) _ _ _;dsimp[newExc,newTuple];refine ae (ae (iu (ae (m:=firstArgMember _ _) (wpAny_of_eq (a:=bx) (by first|rfl| (dsimp[firstArgMember];rfl)) (iu ?_ (by size_fits)))) (by size_fits)));dsimp[raiseNew];refine ae (wpAny_handled ?_);rw[show A.in1.handled=ψ from hh]
 rwa[ae (ao (KC ?_))];rwa[ae (pq (T:="StopIteration") (b:=ζ) #[_,a3 _ rfl,rfl] isSubtype_stop (ao (hQ _ ?_)))];exact((d9 ..).extBut.push _).push _
def Fx(hh:A.handled=ψ)(I d:Addr)(hne:d≠I)(es:Array pC)(ep:Nat):
  Walks prog w A I [I,d] [I] es.size (λi v=>(es[i]?).map (·.val)=ξ v) (λi h=>h.IsValIter I d i es.size ep/\Ay h d es ep) where
 sub:=λb hb=>by simp at hb;simp[hb]
 frame:=λ_ _ _ st hk=>#[let ⟨o,e,r⟩:=st.1;#[o,hk I (#v[]) o e,r],let ⟨o,e,r⟩:=st.2;#[o,hk d (#v[]) o e,r]]
 item:=λi s Q E hi st hQ=>HL st.1 st.2 hi λh' hit' hs'=>
  hQ _ h' s.toks (by rw[d8 hi];rfl) #[hit',let ⟨o,e,r⟩:=st.2;#[o,(hs'.2 d hne).trans e,r]] λb o hb e=>hs'.extBut b o (λh=>hb (by simp[h])) e
 done:=λs Q E st hQ=>LR hh st.1 st.2 (ar _) λh' he'=>hQ h' s.toks λb o hb e=>he' b o (λh=>hb (by simp[h])) e
 self:=λ_ _ _ _ st hQ=>wpAny_pyIter_valiter st.1 hQ
def HM:KdlSrc prog w "dict_values" r d es.size (λi v=>(es[i]?).map (·.val)=ξ v) (λh=>h.IsValuesView r d/\Ay h d es ep) where
 type:=λ_ hm=>hm.1.typeIs
 there:=λ_ hm=>#[let ⟨_,ho,_⟩:=hm.1;aU ho,let ⟨_,ho,_⟩:=hm.2;aU ho]
 keep:=λ_ _ hm hk=>#[let ⟨o,ho,x⟩:=hm.1;#[o,hk r (.inl rfl) o ho,x],let ⟨o,ho,x⟩:=hm.2;#[o,hk d (.inr rfl) o ho,x]]
 notList:=⋯
 notTuple:=⋯
 hint:=λ_ _ _ _ hm hq=>kdl_hint_values hm.1.typeIs hq
 iter:=λ_ s hh hm=>#[_,_,(λ_ _ hq=>Fw hm.1 hm.2 hq),Fx hh _ d (let ⟨_,ho,_⟩:=hm.2;a6 (aU ho)) es ep,#[#[_,a3 _ rfl,rfl,rfl],let ⟨o,ho,x⟩:=hm.2;#[o,az _ ho,x]]]
end
section
variable{X:Cx}
abbrev Up(p d:Addr):HO:=.ext λh=>h.IsValuesView p d
def Fy:Bt X "dict.values" (λx xs H Q=>∃d kvs,x=.ref d/\xs=[]/\H d=ξ (.dT kvs)/\∀p,H p=ψ->Q (.ref p) (upd H p (Up p d))):=by
 intro pZ s σ H x xs v us Q I rx rs h;let#[d,kvs,rfl,rfl,hd,q]:=h;cases rs;cases (show v=aL d from rx);let#[z,lo,ws,rel,dd]:=DH I.ck hd;refine md (S:=λA R s=>s.TypeIs (.ref d) "dict"/\R (.ok (.ret (.ref s.heap.objs.size))) {s with heap:=s.heap.push {cls:=.type "dict_values",data:=.fields (List.toArray [.ref d])} })
  wd dd.typeIs PySem.F.entry_dict_values (PySem.F.args_dict_values_1 _) (.of_wp λA R s h=>?_) #[dd.typeIs,?_]
 .rwa[ae ?_]
  unfold Builtin.Dict.noArgs;rwa[ae (qD h.1 ?_)];show wpAny _ _ (pure d) _ _ s;rwa[ao ?_];show wpAny _ _ (Builtin.Dict.showsAll d>>=_) _ _ s;unfold Builtin.Dict.showsAll;rw[if_neg (%[lo|aY])]
  erw[ae (ao (ae (iu (ao #[_,rfl,h.2]))))]
 .refine#[.ref s.heap.objs.size,_,I.laid (a:=s.heap.objs.size) (o:=Up s.heap.objs.size d) (t':=s.toks) (λ_ _ q=>az _ q) (ar _) ?_,rfl,q _ (I.ck.fresh (ar _))]
  have e:(s.heap.push {cls:=.type "dict_values",data:=.fields (List.toArray [.ref d])}).get? s.heap.objs.size=ξ {cls:=.type "dict_values",data:=.fields (List.toArray [.ref d])}:=a3 _ rfl;exact#[#[_,e,rfl,rfl],#[_,e],λh1 h2 #[o,ho,r] k=>#[o,k o ho,r]]
def Cv(hc:X.calm=ζ):iT X (.type "list") (λxs H Q=>∃p d kvs,xs=[.ref p]/\H p=ξ (Up p d)/\H d=ξ (.dT kvs)/\∀l,H l=ψ->Q (.ref l) (upd H l (.lst (kvs.map (·.2))))):=by
 k_ne;let#[p,d,kvs,rfl,hp,hd,q]:=h;let#[u,rfl,ru]:=vals1 r;cases ru;let#[hv,_,_]:=(show c9 X.prog X.w H s.heap p (Up p d) from I.ck p _ hp)
 let#[z,lo,ws,rel,o,es,ep,ho,hx,hdat,he,_]:=DH I.ck hd;have hsz:es.size=kvs.length:=by rw[zQ he,<-Paired.length rel]
 rwa[kdl_call HM (I.ok.hd hc) #[hv,o,ho,hdat] (%[hsz|z]) λh' tk acc' c' hk hl hi=>?_]
 have ea:acc'.toList=ws.map (·.2.2):=by
  rwa[List.ext_getElem? λj=>?_]
  rw[Array.getElem?_toList,aE]
  have e3:es[j]?=(ws[j]?).map (BC (mD (cR X.prog X.w))):=entry_at he j;cases e4:acc'[j]? with
  |some v=>
   have this:(es[j]?).map (·.val)=ξ v:=hi.2 j v e4;rw[e3] at this;cases e5:ws[j]? with
   |none=>rw[e5] at this;cases this
   |some q=>rw[e5] at this;erw[this.symm]
  |none=>
   have h1:acc'.size<=j:=Array.getElem?_eq_none_iff.mp e4;rw[dm (by rw[<-Paired.length rel,<-hsz,<-hi.1];erw[h1])];rfl
 have vals:∀{l:List (List Key×V)}{m:List (List Key×Addr×Value)},KT H l m->Vals (l.map (·.2)) (m.map (·.2.2)):=by
  intro l m r;induction r with
  |nil=>erw[.nil]
  |cons h _ ih=>erw[.cons h.2.2 ih]
 refine#[.ref s.heap.objs.size,_,I.laid (a:=s.heap.objs.size) (o:=.lst (kvs.map (·.2))) (t':=tk) hk (ar _) #[%[ah|z],acc'.toList,c',ea▸vals rel,?_],rfl,q _ (I.ck.fresh (ar _))];rw[Array.toArray_toList];erw[hl]
end
abbrev X7(K:aH)(a:Addr)(n:Nat):It:=
 #[λi H=>∃xs x,iy K H a xs/\i<n/\xs[n-1-i]?=ξ x,λi H x H'=>H'=H/\∀xs,iy K H a xs->xs[n-1-i]?=ξ x,λi _=>n<=i]
def HN{P:bj}{w:bL}{K:aH}{tg:Expr}(a it:Addr)(n:Nat):Turn P w K tg (X7 K a n) [it] it (λi h=>i<=n/\h.IsRevIter it a ((n:Int)-1-(i:Int))) where
 mem:=by simp
 obj:=λi h st b hb=>by
  have e:b=it:=by simpa using hb
  subst e;let#[_,o,e,c,d]:=st;exact#[o,e,λv z=>by rw[d] at z;cases z]
 keep:=λi h h' st k=>#[st.1,st.2.at λo e=>k it (#v[]) o e]
 item:=by
  w_up;subst hP hw hK;let#[xs,x,hq,hi,hx]:=hg;let#[its,rv,p,hz]:=I.list hq;let#[u,hu,ru]:=rv.get hx;let#[f0,f1,f2,f3,f4,f5]:=hf it (#v[]);let#[_,st]:=st;rw[show(n:Int)-1-(i:Int)=((n-1-i:Nat):Int) by omega] at st;refine wpAny_pyNext_rev_item st p.isList (x:=u) (~~~hu) λh' st' sb=>?_
  have I1:Inv X pZ σ H {s with heap:=h'}:=I.turned (t':=s.toks) (λb o hb e=>(sb.2 b hb).trans e) f0 f1 f3 f4 f5;rw[show((n-1-i:Nat):Int)-1=(n:Int)-1-((i+1:Nat):Int) by omega] at st';let#[o,e,c,d]:=id st';exact#[u,rfl,wZ (s:={s with heap:=h'}) e c d ⋯ #[x,H,I1,ru,#[rfl,λys hy=>%[I.qG hy hq|hx]],#[hi,st'],λb hb=>(hf b hb).1]]
 done:=by
  w_up;subst hP hw hK;have hg:n<=i:=hg;let#[f0,f1,f2,f3,f4,f5]:=hf it (#v[]);let#[hi,st]:=st;rw[show(n:Int)-1-(i:Int)= -1 by omega] at st;erw[wpAny_pyNext_rev_end (I.ok.hd hc) st λh' eb=>#[rfl,I.turned (t':=s.toks) (λb o hb e=>eb b o hb e) f0 f1 f3 f4 f5]]
 self:=λ_ _ _ _ _ st h=>KD st.2 h
abbrev X8(K:aH)(ta:TA):TI:=λσ H R=>ta σ H λvs H1=>∃a xs,vs=[.ref a]/\iy K H1 a xs/\R (X7 K a xs.length) H1
def PC{X:Cx}{a tg:Expr}{ta:TA}{p pos:Pos}(hg:Gl X "reversed")(hm:X.mg "reversed"=ψ)(ha:PA X [a] ta)(hs:bM [a] X.env=[(ϑ,eval a X.env)]:=by rfl):
  PI X tg (.Call (.Name "reversed" p) [a] [] pos) (X8 X.K ta):=by
 intro pZ s σ H R I h;rwa[Call_ (rP I hg hm boot_reversed (fm (dS (ha pos pZ s σ H _ I h) λus s1 h9=>?_) hs rfl))];let#[vs,H1,I1,r1,q1]:=h9;let#[l,xs,e,hq,q]:=q1;subst e;cases r1 with
 |cons r rr=>
  cases rr;cases r;let#[its,rv,p,hz]:=I1.list hq;have el:(its.toArray.size:Int)-1=(xs.length:Int)-1:=by rw[aI,rv.length]
  rwa[call_reversed_list p.isList ?_];rw[el]
  rwa[KD (l:=l) (i:=(xs.length:Int)-1) #[_,a3 _ rfl,rfl,rfl] ?_];refine#[s1.heap.objs.size,[s1.heap.objs.size],_,_,H1,rfl,I1.kept (t':=s1.toks) λb o e=>az _ e,HN l _ xs.length,#[bC _,_,a3 _ rfl,rfl,by simp[revObj]],λb hb=>?_,q]
  .have e:b=s1.heap.objs.size:=by simpa using hb
   subst e;erw[I1.z8 (ar _) (I1.ck.fresh (ar _))]
section
variable{X:Cx}
abbrev Uq(K:Frag):V->List V->Hp->VK->Prop:=λx xs H Q=>∃p y vs j z,x=.ref p/\xs=[y]/\iy K H p vs/\kR y=ζ/\vs.all kR=ζ/\vs[j]?=ξ z/\Bu z y=ζ/\(∀(i:Nat)(z':V),i<j->vs[i]?=ξ z'->Bu z' y=ϑ)/\Q (.int (j:Nat)) H
def DX:∀{xs:List V}{us:List Value},Vals xs us->∀(i:Nat)(u:Value),us[i]?=ξ u->∃x,xs[i]?=ξ x/\RelV x u
 |_,_,.nil,_,_,h=>by cases h
 |_,_,.cons r q,0,_,h=>by cases h;exact#[_,rfl,r]
 |_,_,.cons r q,i+1,u,h=>DX q i u h
def qQ:∀{xs:List V}{us:List Value},Vals xs us->xs.length=us.length
 |_,_,.nil=>rfl
 |_,_,.cons r q=>congrArg (·+1) (qQ q)
def HP(r:Vals vs its)(fs:vs.all kR=ζ)(i:Nat)(hi:i<its.length):∃z',vs[i]?=ξ z'/\vS y its[i]=Bu z' y:=by
 let#[z',h1,h2]:=DX r i _ (af hi);exact#[z',h1,B6 h2 (bu.mp fs z' (ax h1))]
def DY:Bt X "list.index" (Uq X.K):=by
 intro pZ s σ H x xs v us Q I rx rs h;let#[p,y,vs,j,z,rfl,rfl,hq,fy,fs,hj,ez,no,q]:=h;cases rx;let#[u,rfl,ru]:=rs.one;let#[its,r,pl,hz]:=I.list hq;have jl:j<its.length:=by rw[<-qQ r];exact(ag.mp hj).1
 have js:(j:Int)<2^63-1:=by
  have h1:vs.length=its.length:=qQ r;have h2:sizeLine<2^62:=⋯
  omega
 have ev:=HP (y:=y) r fs;let#[#[cls,dd,data,sl],ho,hc,n,hd]:=pl.isList;simp only at hc hd;subst hc hd;refine uD wR #[_,ho,rfl] PySem.F.entry_list_index (PySem.F.args_list_index_2 _ _)
  (SeqAt.list_indexAt p its.toArray n dd sl u (vS y) j (~~~jl) js ?_ ?_) #[ho,λw hw=>kS ru fy r fs w (~~~hw),#[.int j,H,I.tok _,#[_,rfl],q]]
 .let#[z',h1,h2]:=ev j jl
  rw[hj] at h1;cases h1;show vS y its[j]=ζ;rw[h2];erw[ez]
 .intro m hm lt
  have hm:m<its.length:=by simpa using hm
  let#[z',h1,h2]:=ev m hm;show vS y its[m]=ϑ;rw[h2];erw[no m z' lt h1]
end
def Fz{β:Type}(f:Nat->β->Sem (ForInStep β))(I:Nat->β->av->Prop)(Q:β->av->Prop)
  (turn:∀i b s,i<n->I i b s->wpAny M A (f i b) (λr s'=>match r with|.yield b'=>I (i+1) b' s'|.done b'=>Q b' s') E s)
  (fin:∀b s,I n b s->Q b s) (b:β) (h:I 0 b s):wpAny M A (forIn [:n] b f) Q E s:=by
 rw[Std.Legacy.Range.forIn_eq_forIn_range']
 dsimp[Std.Legacy.Range.size,n9,lW,Nat.div_one];rwa[wpAny_forIn_list _ (λrest b s'=>∃i,rest=List.range' i (n-i)/\i<=n/\I i b s') _ ?_ ?_ _ _ #[0,#v[],bC _,h]]
 .rintro x rest b s' ⟨i,hr,hi,q⟩
  have hlt:i<n:=by
   rcases tI i n with h|h
   .erw[h]
   .rw[Nat.sub_eq_zero_of_le h] at hr;simp at hr
  have e:n-i=(n-(i+1))+1:=∅
  rw[e,List.range'_succ] at hr;injection hr with h1 h2
  subst h1;rwa[bg (turn x b s' hlt q) (λr s2 hr=>?_) λ_ _ h'=>h']
  cases r with
  |done b'=>erw[hr]
  |yield b'=>exact#[x+1,h2,hlt,hr]
 .rintro b s' ⟨i,hr,hi,q⟩
  have:n-i=0:=by have:=congrArg dh hr;simpa using this.symm
  have e:i=n:=∅
  subst e;erw[fin _ _ q]
def wt(l:Addr)(items:Array Value)(n:Nat)(dd:Option Addr)(sl:Array (Option Value))(x:Value)(e:Value->Bool)(j:Nat)(hj:j<items.size)(hit:e items[j]=ζ)(hno:∀m (hm:m<items.size),m<j->e items[m]=ϑ):
  Meets (Builtin.«tuple.index» #[[.ref l,x],[]])
   (λA R s=>s.heap.get? l=ξ {cls:=.type "tuple",dict:=dd,data:=.seq items n,slots:=sl}/\(∀y,y∈items->qC A.in1 s y x (e y))/\R (.ok (.ret (.int j s.toks))) {s with toks:=s.toks+1}):=
 .of_wp λprog w A R s h=>by
  let#[hp,g,d,tk,os]:=s;let#[hl,he,h]:=h;have f2:=AutoSeq1.sub_tuple_tuple
  wp_walk using wpAny_loadPart' hl,Fz _ (λi b s'=>b.1=ψ/\s'=#[hp,g,d,tk,os]/\i<=j) _
  case turn=>
   rintro i b s' hi ⟨hb,rfl,ij⟩;have hi:i<items.size:=by simpa using hi
   rw[d8 hi]
   rwa[ae (he _ (Array.getElem_mem hi) prog w _ _ ?_)];by_cases z:i=j
   .subst z
    rw[hit]
    wp_walk
    exact#[_,rfl,h]
   .rw[hno i hi ∅]
    wp_walk
    exact#[rfl,rfl,∅]
  case fin=>
   rintro b s' ⟨hb,rfl,ij⟩;erw[absurd ij ((·))]
  exact#[rfl,rfl,bC _]
section
variable{X:Cx}
abbrev Ur(K:Frag):V->List V->Hp->VK->Prop:=λx xs H Q=>∃p y vs j z,x=.ref p/\xs=[y]/\nB K H p vs/\kR y=ζ/\vs.all kR=ζ/\vs[j]?=ξ z/\Bu z y=ζ/\(∀(i:Nat)(z':V),i<j->vs[i]?=ξ z'->Bu z' y=ϑ)/\Q (.int (j:Nat)) H
def DZ:Bt X "tuple.index" (Ur X.K):=by
 intro pZ s σ H x xs v us Q I rx rs h;let#[p,y,vs,j,z,rfl,rfl,hq,fy,fs,hj,ez,no,q]:=h;cases rx;let#[u,rfl,ru]:=rs.one;let#[its,r,pl,hz]:=I.tuple hq;have jl:j<its.length:=by rw[<-qQ r];exact(ag.mp hj).1
 have ev:=HP (y:=y) r fs;let#[#[cls,dd,data,sl],ho,hc,n,hd]:=id pl;simp only at hc hd;subst hc hd;refine uD we #[_,ho,rfl] PySem.F.entry_tuple_index (PySem.F.args_tuple_index_2 _ _)
  (wt p its.toArray n dd sl u (vS y) j (~~~jl) ?_ ?_) #[ho,λw hw=>kS ru fy r fs w (~~~hw),#[.int j,H,I.tok _,#[_,rfl],q]]
 .let#[z',h1,h2]:=ev j jl
  rw[hj] at h1;cases h1;show vS y its[j]=ζ;rw[h2];erw[ez]
 .intro m hm lt
  have hm:m<its.length:=by simpa using hm
  let#[z',h1,h2]:=ev m hm;show vS y its[m]=ϑ;rw[h2];erw[no m z' lt h1]
end
open Builtin.ObjectAttr
def wu:entryFor table "proto.unchain"=ξ Builtin.«proto.unchain»:=entryFor_of_tree (by kernel_rfl)
section
variable{prog:bj}{w:bL}{A:cf}{E:Value->av->Prop}{s:av}
def FA(h:s.heap.get? a0=ξ o)(hd:o.data=.fields vs)(h2:vs[2]?=ξ .none)(q:∀v,Q v s):
  wpAny (aS prog w) A (runValue (.builtin "proto.unchain" #[[.ref e,.ref a0,.ref a0,.bool ϑ],[]])) Q E s:=by
 rwa[runValue_entry wu ?_];unfold Builtin.«proto.unchain»;rwa[ae (fh h hd h2 ?_)];rw[if_pos ⋯]
 erw[ao #[_,rfl,q _]]
def Az{nm q:Str}{C N:Addr}{bs bm:List Value}{sn:List Str}{sub:List Value}{ab:Bool}{col:Option Bool}{dd:Option Addr}{k0 k1 k2 k3 k5:Option Value}{newId:String}{env:Env}{x cz:Sem Value}{a0:Addr}{Q:Flow->av->Prop}
  (hbase:bm.contains (.type "BaseException")=ζ) (hh:A.handled=ξ (.ref a0))
  (hx:wpAny (aS prog w) A x (λv s₁=>∃e dx,v=.ref e/\e≠a0/\s₁.heap.get? C=ξ (iP nm q C N bs bm ζ sn sub ab col dd k0 k1 k2 k3 k5 newId)/\nW s₁.heap e (ζ,.ref C) dx ψ/\(∃o vs,s₁.heap.get? a0=ξ o/\o.data=.fields vs/\vs[2]?=ξ .none) /\
   ∀h',gC [] [e] s₁.heap h'->nW h' e (ϑ,.ref C) dx ψ->E (.ref e) {s₁ with heap:=h'}) E s)
  (hz:∀(Q:Value->av->Prop)s,Q .none s->wpAny (aS prog w) A cz Q E s):
  wpAny (aS prog w) A (Gd env (ξ x) (ξ cz)) Q E s:=by
 have hcB:(aL C::bm).contains (.type "BaseException")=ζ:=by rw[i3,hbase,sP]
 unfold Gd;rwa[ae (bg hx (λv s₁ h₁=>?_) λ_ _ x=>x)];let#[e,dx,rfl,ne,hC,#[vs,sl,he,h1,h2],#[oa,va,ha,hda,hva],hE]:=h₁;let#[h2,hsz]:=h2 rfl;have he:s₁.heap.get? e=ξ #[.ref C,dx,.fields vs,sl]:=he;have hCe:C≠e:=λz=>by rw[z,he] at hC;cases hC
 rwa[ae (cu (hz _ _ (ae (ao ?_))))];dsimp only;let#[hp,g,d,tk,os]:=s₁;rwa[ae (cu ?_)];unfold excFromValue isExcClass
 repeat (first|with_reducible refine cy he ?_|with_reducible refine cy hC ?_| (with_reducible refine fU hC ?_;rw[hcB])|wp_step)
 rw[if_pos ∅]
 rwa[wpAny_update he ?_];have he2:(hp.update e (dw λx=>x.setIfInBounds 3 .none)).get? e=ξ #[.ref C,dx,.fields (vs.setIfInBounds 3 .none),sl]:=bA _ he rfl;have k2:gC [] [e] hp (hp.update e (dw λx=>x.setIfInBounds 3 .none)):=fF he rfl;generalize hp.update e (dw λx=>x.setIfInBounds 3 .none)=hq at he2 k2 ⊢;rwa[ae (fW (s:=#[hq,g,d,tk,os]) he2 rfl (%[iO|hsz]) ?_)];have he3:(hq.update e (dw λx=>x.setIfInBounds 4 (.bool ζ))).get? e=ξ #[.ref C,dx,.fields ((vs.setIfInBounds 3 .none).setIfInBounds 4 (.bool ζ)),sl]:=bA _ he2 rfl;have k3:=k2.trans (fF (fs:=[]) (f:=dw λx=>x.setIfInBounds 4 (.bool ζ)) he2 rfl);generalize hq.update e (dw λx=>x.setIfInBounds 4 (.bool ζ))=hr at he3 k3;have v1:((vs.setIfInBounds 3 bx).setIfInBounds 4 (.bool ζ))[1]?=ξ .none:=%[eO ⋯,eO ⋯|h1]
 have vz:2<((vs.setIfInBounds 3 bx).setIfInBounds 4 (.bool ζ)).size:=by rw[iO,iO];omega
 generalize (vs.setIfInBounds 3 bx).setIfInBounds 4 (.bool ζ)=ws at he3 v1 vz;have hC3:=k3.keep C _ hC (#v[]) (by simp[hCe]);have ha3:=k3.keep a0 _ ha (#v[]) (by simp[bI ne]);show wpAny (aS prog w) A _ _ _ #[hr,g,d,tk,os]
 repeat (first|with_reducible refine cy he3 ?_|with_reducible refine cy hC3 ?_| (with_reducible refine fU hC3 ?_;rw[hcB])|wp_step)
 rw[v1]
 rwa[ao ?_];rw[if_neg ⋯]
 rwa[ao ?_];unfold raiseNew;rwa[ae (wpAny_handled ?_)];rw[hh]
 dsimp only;rw[if_pos (by simp[bI ne])]
 rwa[ae (cu (FA (s:=#[hr,g,d,tk,os]) ha3 hda hva λ_=>?_))];rwa[ae (m:=Kv (.ref e) 2 (.ref a0)) (fW (s:=#[hr,g,d,tk,os]) he3 rfl vz ?_)];rwa[KC (hE _ (k3.trans (fF he3 rfl)) #[_,_,bA _ he3 rfl,?_,λz=>nomatch z])];rw[eO ⋯];erw[v1]
end
section
variable{X:Cx}
def PD(hu:X.A.units+200<eF):hJ X (bB .NotEq) (λx y H Q=>∃a b,∃ts:List Str,x=.ref a/\y=.ref b/\iy X.K H a (ts.map V.str)/\iy X.K H b (ts.map V.str)/\Q (.bl ϑ) H):=by
 x_go;let#[a,b,ts,rfl,rfl,ha,hb,q]:=h;cases rx;cases ry;let#[its,r1,p1,_]:=I.list ha;let#[its2,r2,p2,_]:=I.list hb;have l1:=r1.length;have l2:=r2.length;rw[ah] at l1 l2;rwa[SeqAt.RcNeAt.lists (e:=λ_=>ζ) p1.isList p2.isList (by rw[aI,aI];omega) ∅ (λj h1 h2=>?_) _ _ _ _ #[.bl _,H,I,rfl,%[show((b9 its.toArray.size).all λ_=>ζ)=ζ from bu.mpr λ_ _=>rfl|q]]];have j1:j<ts.length:=by rw[aI] at h1;omega
 have g:(ts.map V.str)[j]?=ξ (.str ts[j]):=by rw[aE,af j1];rfl
 let#[u1,e1,t1,rfl]:=r1.get g;let#[u2,e2,t2,rfl]:=r2.get g;rw[Dq,Dq,(ag.mp e1).2,(ag.mp e2).2,<-beq_self_eq_true ts[j]]
 erw[oK _ _ _ _]
end
end L2
namespace PL
section
variable{S:bE}{Q:KU}{q:Bool->Prop}{r:U->Prop}{i j:Int}{a b:List Nat}{x y:U}{us vs:List U}{m n:Nat}
def PF:kj .add (.int i) (.int j) S Q=Q (.int (i+j)) S:=rfl
def HQ:kj .add (.str a) (.str b) S Q=(a.length+b.length<=1000000/\Q (.str (a++b)) S):=rfl
def X9:kj .add (.tup us) (.tup vs) S Q=((us≠[]/\us.length+vs.length<=1000000)/\Q (.tup (us++vs)) S):=rfl
def Ya:kj .add (.loc m) (.loc n) S Q=getL S[m]? λa=>getL S[n]? λb=>a.length+b.length<=1000000/\Q (.loc S.length) (S++[.lst (a++b)]):=rfl
def PH:kj .sub (.int i) (.int j) S Q=Q (.int (i-j)) S:=rfl
def Yb:kj .mul (.int i) (.int j) S Q=(((-(2^64)<i/\i<2^64)\/(-(2^64)<j/\j<2^64))/\Q (.int (i*j)) S):=rfl
def WN:kj .fdiv (.int i) (.int j) S Q=((0<j/\j<1073741824)/\Q (.int (i/j)) S):=rfl
def Yc:kj .mod (.int i) (.int j) S Q=(0<j/\Q (.int (i%j)) S):=rfl
def LS:kj .band (.int i) (.int j) S Q=((0<=i/\0<=j)/\Q (.int ((i.toNat&&&j.toNat:Nat):Int)) S):=rfl
def PJ:kj .bor (.int i) (.int j) S Q=((0<=i/\0<=j)/\Q (.int ((i.toNat|||j.toNat:Nat):Int)) S):=rfl
def PK:kj .shl (.int i) (.int j) S Q=((0<=i/\i<1000/\0<=j/\j<=1000)/\Q (.int (i*2^j.toNat)) S):=rfl
def PM:kj .shr (.int i) (.int j) S Q=((0<=i/\0<=j)/\Q (.int (i/2^j.toNat)) S):=rfl
def ZP:yR o (.int i) y S Q=kj o (.int i) y S Q:=rfl
def ZQ:yR o (.str a) y S Q=kj o (.str a) y S Q:=rfl
def HR:ig .eq (.int i) y S q=vV (.int i) y q:=rfl
def NX:ig .eq (.str a) y S q=vV (.str a) y q:=rfl
def ZR:ig .eq .bK y S q=vV .bK y q:=rfl
def ZS:ig .eq (.tup us) y S q=vV (.tup us) y q:=rfl
def Us:ig .ne (.int i) y S q=(Cp (.int i) y=ζ/\vV (.int i) y λb=>q !b):=rfl
def ZT:ig .ne (.str a) y S q=(Cp (.str a) y=ζ/\vV (.str a) y λb=>q !b):=rfl
def ZU:ig .ne .bK y S q=(Cp .bK y=ζ/\vV .bK y λb=>q !b):=rfl
def ZV:ig .ne (.tup us) y S q=Ul (.tup us) y q:=rfl
def Ut:ig .ne (.loc m) y S q=∃(n:Nat)(ts:List (List Nat)),y=.loc n/\S[m]?=ξ (.lst (ts.map .str))/\S[n]?=ξ (.lst (ts.map .str))/\q ϑ:=rfl
def Yd:sk .min2 [.int i,.int j] S Q=Q (.int (if j<i then j else i)) S:=rfl
def aa3:(Cp (.int i) y=ζ)=True:=eq_true rfl
def aa4:(Cp (.str a) y=ζ)=True:=eq_true rfl
def aa5:(Cp .bK y=ζ)=True:=eq_true rfl
def aa6:ig .lt (.int i) (.int j) S q=q (decide (i<j)):=rfl
def aa7:ig .le (.int i) (.int j) S q=q (decide (i<=j)):=rfl
def aa8:ig .gt (.int i) (.int j) S q=q (decide (j<i)):=rfl
def Ye:ig .ge (.int i) (.int j) S q=q (decide (j<=i)):=rfl
def PN:∀{b:List Nat},kY [c] b=b.contains c
 |[]=>rfl
 |x::xs=>by
  rw[kY,PN (b:=xs),i3]
  simp[List.isPrefixOf]
def LU:ig .isin (.str [k]) (.str b) S q=q (b.contains k):=by
 rw[<-PN];rfl
def LV:ig .pR (.str [k]) (.str b) S q=q !(b.contains k):=by
 rw[<-PN];rfl
def PQ:ig .isin x (.tup us) S q=sf x us q:=rfl
def PU:ig .pR x (.tup us) S q=sf x us λb=>q !b:=rfl
def PV:ig .isin x (.loc n) S q=getL S[n]? λus=>sf x us q:=rfl
def Yf:ig .pR (.str a) (.loc n) S q=getL S[n]? λus=>sf (.str a) us λb=>q !b:=rfl
def Yg:ig .HE x .bK S q=q (sX x):=rfl
def PX:ig .Ck x .bK S q=q (!sX x):=rfl
def ew(h1:HG x y=ζ)(h2:Fn x=ζ)(h3:Fn y=ζ)(h4:dep x<=100)(h:tY x y=v):vV x y q=q v:=by
 rw[<-h];erw[propext #[λz=>z.2,λz=>#[#[h1,h2,h3,h4],z]]]
def LW:vV (.int i) (.int j) q=q (i==j):=ew rfl rfl rfl (bC _) rfl
def Uu:vV (.str a) (.str b) q=q (a==b):=ew rfl rfl rfl (bC _) rfl
def aa9:vV .bK .bK q=q ζ:=ew rfl rfl rfl (bC _) rfl
def aba{a b:Bool}:vV (.bl a) (.bl b) q=q (a==b):=ew rfl rfl rfl (bC _) rfl
def abb:vV (.int i) .bK q=q ϑ:=ew rfl rfl rfl (bC _) rfl
def abc:vV .bK (.int i) q=q ϑ:=ew rfl rfl rfl (bC _) rfl
def abd:vV (.int i) (.str a) q=q ϑ:=ew rfl rfl rfl (bC _) rfl
def abe:vV (.str a) (.int i) q=q ϑ:=ew rfl rfl rfl (bC _) rfl
def Uv(l:List (List Nat)):(l.map U.str).all flat=ζ:=bu.mpr λu m=>by let#[x,_,rfl]:=bO.mp m;rfl
def anyS{l:List (List Nat)}:sf (.str a) (l.map .str) q=q (l.any (·==a)):=by
 rwa[propext #[λz=>?_,λz=>#[#[rfl,Uv l],?_]]]
 .have:=z.2;rw[List.any_map] at this;erw[this]
 .rw[List.any_map];erw[z]
def Uw:DQ (.str a) (.int i) S r=(a.length<=1000000/\opt (si a i) λc=>r (.str [c])):=rfl
def sZ:DQ (.tup us) (.int i) S r=(us.length<=1000000/\opt (si us i) r):=rfl
def ZW:DQ (.tL ns) (.int i) S r=(ns.length<=1000000/\opt (si ns i) λn=>r (.int n)):=rfl
def HS:DQ (.loc n) (.int i) S r=getL S[n]? λus=>opt (si us i) r:=rfl
def Cj:DQ (.tab kvs) (.str a) S r=opt (kvs.lookup a) λv=>r (.str v):=rfl
def iB{f:String}:nJ (.loc n) f S r=qj S[n]? λ_ fs=>opt (fs.lookup f) r:=rfl
def ZX:nJ (.exc c us) f S r=opt (((bN c).zip us).lookup f) r:=rfl
def ZY:nI S (.str a)=ξ a.length:=rfl
def ZZ:nI S (.tup us)=ξ us.length:=rfl
def Z3:nI S (.tL ns)=ξ ns.length:=rfl
def jO(h:S[n]?=ξ (.lst us)):nI S (.loc n)=ξ us.length:=by delta nI;dsimp only;rw[h]
def Z4:ve S (.bl c)=ξ c:=rfl
def Z5:ve S .bK=ξ ϑ:=rfl
def Z6:ve S (.int i)=ξ (i !=0):=rfl
def Z7:ve S (.tL ns)=ξ (ns.length !=0):=rfl
def Z8:sk .len [x] S Q=opt (nI S x) λn=>n<=1000000/\Q (.int n) S:=rfl
def WQ:sk .tuple [.loc n] S Q=getL S[n]? λus=>Q (.tup us) S:=rfl
def Yh:sk .list [.loc n] S Q=getL S[n]? λus=>Q (.loc S.length) (S++[.lst us]):=rfl
def WR:sk .list [.tup us] S Q=(us.length<=1000000/\Q (.loc S.length) (S++[.lst us])):=rfl
def Z9:sk .all [.loc n] S Q=(∃bs:List Bool,S[n]?=ξ (.lst (bs.map .bl))/\Q (.bl (bs.all id)) S):=rfl
def aaa:sk .any [.loc n] S Q=(∃bs:List Bool,S[n]?=ξ (.lst (bs.map .bl))/\Q (.bl (bs.any id)) S):=rfl
def Yi:sk .dict [.loc n] S Q=(∃ps:List (List Nat×U),S[n]?=ξ (.lst (ps.map λp=>.tup [.str p.1,p.2]))/\(ps.map (·.1)).Nodup/\Q (.loc S.length) (S++[.df (ps.map λp=>(.str p.1,p.2))])):=rfl
def Yj:pJ .mU (.int i) [] S Q=(0<=i/\Q (.int (sY i.toNat:Nat)) S):=rfl
def aab:pJ .get (.loc n) [.str a,x] S Q=getD S[n]? λkvs=>∃ps:List (List Nat×U),kvs=(ps.map λp=>(U.str p.1,p.2))/\Q ((ps.lookup a).getD x) S:=rfl
def WU:qP .mU (.int i) S=True:=rfl
def Yk:qP .get (.loc n) S=iA S[n]? λ_=>True:=rfl
def Yl:pJ .get (.loc n) [.str a] S Q=iA S[n]? λkvs=>lY (.str a)=ζ/\Q ((se (.str a) kvs).getD .bK) S:=rfl
def Ux:LM (.loc n) y S r=iA S[n]? λkvs=>lY y=ζ/\opt (se y kvs) r:=rfl
def Ym:ig .Cm x (.loc n) S q=iA S[n]? λkvs=>lY x=ζ/\q (se x kvs).isNone:=rfl
def Yn:pJ .mV (.loc n) [x,y] S Q=oz S n x y Q:=rfl
def DL:qP .join (.str a) S=True:=rfl
def Ar:qP .index (.str a) S=True:=rfl
def SD:qP .startswith (.str a) S=True:=rfl
def rV:qP .append (.loc n) S=getL S[n]? λ_=>True:=rfl
def DY:qP .yO (.loc n) S=getL S[n]? λ_=>True:=rfl
def DZ:qP .wq (.tup us) S=True:=rfl
def Yo:pJ .wq (.tup us) [x] S Q=((flat x=ζ/\us.all flat=ζ)/\∃j z,us[j]?=ξ z/\tY z x=ζ/\(∀(i:Nat)(z':U),i<j->us[i]?=ξ z'->tY z' x=ϑ)/\Q (.int (j:Nat)) S):=rfl
def Yp:pJ .yO (.loc n) [x] S Q=getL S[n]? λus=>(flat x=ζ/\us.all flat=ζ)/\∃j z,us[j]?=ξ z/\tY z x=ζ/\(∀(i:Nat)(z':U),i<j->us[i]?=ξ z'->tY z' x=ϑ)/\Q (.int (j:Nat)) S:=rfl
def E9:qP .extend (.loc n) S=getL S[n]? λ_=>True:=rfl
def Yq:pJ .join (.str a) [.loc n] S Q=(∃ts:List (List Nat),S[n]?=ξ (.lst (ts.map .str))/\(ts.map dh).sum+ts.length*a.length<=1000000/\Q (.str (vf a ts)) S):=rfl
def WV:pJ .index (.str a) [.str b] S Q=(∃c,b=[c]/\c∈a/\Q (.int (a.idxOf c:Nat)) S):=rfl
def Uy:pJ .startswith (.str a) [.str b] S Q=Q (.bl (b.isPrefixOf a)) S:=rfl
def Uz:pJ .append (.loc n) [x] S Q=getL S[n]? λus=>us.length<1000000/\Q .bK (S.set n (.lst (us++[x]))):=rfl
def UA:pJ .extend (.loc n) [.loc m] S Q=getL S[n]? λus=>getL S[m]? λws=>us.length+ws.length<=1000000/\Q .bK (S.set n (.lst (us++ws))):=rfl
def v_s:HI (.str a) S R=R (a.map λc=>.str [c]) (λ_=>True):=rfl
def v_t:HI (.tup us) S R=(us.length<=1000000/\R us (λ_=>True)):=rfl
def v_l:HI (.loc n) S R=getL S[n]? λus=>R us (λS'=>S'[n]?=ξ (.lst us)):=rfl
def bind_f:pS ϑ x caps k=k (ξ x::caps):=rfl
def Yr:pS ζ x caps k=NT x λa b=>k (ξ a::ξ b::caps):=rfl
def jb{α:Type}{xs:List α}{k:Nat}:si xs (k:Int)=xs[k]?:=by
 unfold si Px;rw[if_pos ∅]
 split
 .simp
 .rename_i h
  rw[dm ∅]
  rfl
def FC{α:Type}{x:α}{xs:List α}:si (x::xs) 0=ξ x:=by
 have:=jb (xs:=x::xs) (k:=0);simpa using this
def FD{α:Type}{x y:α}{xs:List α}:si (x::y::xs) 1=ξ y:=by
 have:=jb (xs:=x::y::xs) (k:=1);simpa using this
end
def vh{α:Type}{o:Option α}{Q Q':α->Prop}(h:∀a,Q a->Q' a)(w:opt o Q):opt o Q':=by
 cases o with
 |none=>erw[w]
 |some a=>erw[h a w]
def so{o:Option SO}{Q Q':List U->Prop}(h:∀a,Q a->Q' a)(w:getL o Q):getL o Q':=by
 let#[a,e,z]:=cY.mp w;erw[cY.mpr #[a,e,h a z]]
def AA(h:∀b,Q b->Q' b)(w:vV x y Q):vV x y Q':=#[w.1,h _ w.2]
def oX(h:∀b,Q b->Q' b)(w:sf x us Q):sf x us Q':=#[w.1,h _ w.2]
def qR{x:U}{Q Q':Int->Prop}(h:∀b,Q b->Q' b)(w:lL x Q):lL x Q':=by
 cases x<;>first|exact h _ w|exact w
def vi{x:U}{Q Q':List Nat->Prop}(h:∀b,Q b->Q' b)(w:NV x Q):NV x Q':=by
 cases x<;>first|exact h _ w|exact w
def AB(h:Q->Q')(w:WL x Q):WL x Q':=by
 cases x<;>first|exact h w|exact w
def HU(h:∀b,Q b->Q' b)(w:Ul x y Q):Ul x y Q':=#[w.1,AA (λb z=>h _ z) w.2]
def HV(h:∀b,Q b->Q' b)(w:sd x Q):sd x Q':=by
 cases x<;>first|exact h _ w|exact w
def Cw(h:∀a,Q a->Q' a)(w:iA o Q):iA o Q':=by
 let#[a,e,z]:=iV.mp w;erw[iV.mpr #[a,e,h a z]]
def xG(h:∀b,Q b->Q' b)(w:ig o x y S Q):ig o x y S Q':=by
 cases o with
 |eq=>erw[AA h w]
 |ne=>cases x<;>first|exact HU h w|exact let ⟨n,ts,e1,e2,e3,w⟩:=w;#[n,ts,e1,e2,e3,h _ w]
 |isin=>cases y<;>first|exact vi (λ_ z=>h _ z) w|exact oX h w|exact so (λ_ z=>oX h z) w|exact w
 |pR=>cases y<;>first|exact vi (λ_ z=>h _ z) w|exact oX (λb z=>h _ z) w|exact so (λ_ z=>oX (λb z=>h _ z) z) w|exact w
 |HE=>erw[AB (h _) w]
 |Ck=>erw[AB (h _) w]
 |Cm=>erw[HV (λ_ z=>Cw (λ_ z=>#[z.1,h _ z.2]) z) w]
 |_=>erw[qR (λ_ z=>qR (λ_ z=>h _ z) z) w]
def HW{x y:U}{S:bE}{Q Q':U->Prop}(h:∀b,Q b->Q' b)(w:DQ x y S Q):DQ x y S Q':=by
 cases x<;>first|exact qR (λ_ z=>#[z.1,vh (λ_ z=>h _ z) z.2]) w|exact qR (λ_ z=>so (λ_ z=>vh (λ_ z=>h _ z) z) z) w|exact vi (λ_ z=>vh (λ_ z=>h _ z) z) w|exact w
abbrev Keeps(Γ:bU)(b:dj)(k:Nat)(sp:Spec):Prop:=∀us S Q E,sp us S Q E->rG Γ b #[λ_ S1=>Q .bK S1,Q,λ_=>E] (us.map ξ++pO k ψ) S
section
variable{Γ:bU}{D:Ends}{env:Env}{S:bE}{i:Nat}{e o:Ex}{c:Tx}{a b ss:dj}{s:Sm}{f:String}
abbrev Rest(Γ:bU)(ss:dj)(D:Ends)(env:Env)(S:bE):Prop:=rG Γ ss D env S
def Rest.go(h:rG Γ ss D env S):Rest Γ ss D env S:=h
def aad:rG Γ .nil D env S=D.nx env S:=rfl
def Ys:rG Γ (.cons s ss) D env S=WS Γ s #[λen S1=>rG Γ ss D en S1,D.rt,D.ex] env S:=rfl
def aae:WS Γ (.ifs c a b) D env S=WT Γ c env S (λt S1=>if t=ζ then rG Γ a D env S1 else rG Γ b D env S1) (D.ex env):=rfl
def aaf:WS Γ (.Co c b) D env S=∃n,yS (λen S1 k=>WT Γ c en S1 k (D.ex en)) (λen S1 k=>rG Γ b #[k,D.rt,D.ex] en S1) D.nx n env S:=rfl
def aag:WS Γ (.Pu a f i b) D env S=rG Γ a #[D.nx,D.rt,λen x S1=>(my x.c).contains f=ζ/\rG Γ b #[λen2 S2=>D.nx (en2.set i ψ) S2,D.rt,λ_ _ _=>False] (en.set i (ξ (.exc x.c x.us))) S1] env S:=rfl
variable{Q:KU}{E:KX}{e1 e2:Ex}{es ks:vU}{P:List U->bE->Prop}{B:Bool->bE->Prop}{q m:String}{t1 t2:Tx}{O:Option Int->bE->Prop}{R:List U->(bE->Prop)->bE->Prop}
def w_var:WE Γ (.var i) env S Q E=yP env[i]? λu=>Q u S:=rfl
def w_lit:WE Γ (.lit u) env S Q E=Q u S:=rfl
def aah{o:Gj}:WE Γ (.bin o e1 e2) env S Q E=WE Γ e1 env S (λx S1=>WE Γ e2 env S1 (λy S2=>kj o x y S2 Q) E) E:=rfl
def aai:WE Γ (.neg e1) env S Q E=WE Γ e1 env S (λx S1=>lL x λi=>Q (.int (-i)) S1) E:=rfl
def w_not:WE Γ (.not e1) env S Q E=WE Γ e1 env S (λx S1=>NS x λb=>Q (.bl !b) S1) E:=rfl
def w_and:WE Γ (.and e1 e2) env S Q E=WE Γ e1 env S (λx S1=>NS x λc=>if c=ζ then WE Γ e2 env S1 Q E else Q (.bl ϑ) S1) E:=rfl
def w_or:WE Γ (.or e1 e2) env S Q E=WE Γ e1 env S (λx S1=>NS x λc=>if c=ζ then Q (.bl ζ) S1 else WE Γ e2 env S1 Q E) E:=rfl
def aaj{o:NQ}:WE Γ (.cmp o e1 e2) env S Q E=WE Γ e1 env S (λx S1=>WE Γ e2 env S1 (λy S2=>ig o x y S2 λr=>Q (.bl r) S2) E) E:=rfl
def aak:WE Γ (.Fl c e1 e2) env S Q E=WT Γ c env S (λt S1=>if t=ζ then WE Γ e1 env S1 Q E else WE Γ e2 env S1 Q E) E:=rfl
def Yt:WE Γ (.call f es) env S Q E=tM Γ es env S (λus S1=>Γ f us S1 Q E) E:=rfl
def w_mk:WE Γ (.mk f q es) env S Q E=tM Γ es env S (λus S1=>Γ q (.loc S1.length::us) (S1++[.ins f []]) (λv S2=>v=.bK/\Q (.loc S1.length) S2) E) E:=rfl
def Yu:WE Γ (.cB f m q o es) env S Q E=WE Γ o env S (λx S1=>sd x λn=>qj S1[n]? λc' fs=>(c'=f/\fs.lookup m=ψ)/\tM Γ es env S1 (λus S2=>Γ q (x::us) S2 Q E) E) E:=rfl
def aal{b:Ui}:WE Γ (.blt b es) env S Q E=tM Γ es env S (λus S1=>sk b us S1 Q) E:=rfl
def aam{b:NR}:WE Γ (.mW b o es) env S Q E=WE Γ o env S (λx S1=>qP b x S1/\tM Γ es env S1 (λus S2=>pJ b x us S2 Q) E) E:=rfl
def w_fld:WE Γ (.fld o f) env S Q E=WE Γ o env S (λx S1=>nJ x f S1 λv=>Q v S1) E:=rfl
def abf:WE Γ (.ix e1 e2) env S Q E=WE Γ e1 env S (λx S1=>WE Γ e2 env S1 (λy S2=>DQ x y S2 λv=>Q v S2) E) E:=rfl
def abg:WE Γ (.sl o lo hi) env S Q E=WE Γ o env S (λx S1=>WO Γ lo env S1 (λl S2=>WO Γ hi env S2 (λh S3=>SA x l h S3 Q) E) E) E:=rfl
def aan:WE Γ (.tup es) env S Q E=tM Γ es env S (λus S1=>us.length<=1000000/\Q (.tup us) S1) E:=rfl
def aao:WE Γ (.lst es) env S Q E=tM Γ es env S (λus S1=>us.length<=1000000/\Q (.loc S1.length) (S1++[.lst us])) E:=rfl
def Yv:WE Γ (.comp pr e it c ci) env S Q E=WI Γ it env S (λus g S1=>lM g (λu S2 k=>pS pr u (mz env ci) λen=>WT Γ c en S2 k λ_ _=>False)
   (λu S2 k=>pS pr u (mz env ci) λen=>WE Γ e en S2 k λ_ _=>False) (λacc S3=>Q (.loc S3.length) (S3++[.lst acc])) us [] S1) E:=rfl
def aap:WE Γ (.DN e1 ts) env S Q E=WE Γ e1 env S (λx S1=>opt (DS S1 x ts) λb=>Q (.bl b) S1) E:=rfl
def aaq:tM Γ .nil env S P E=P [] S:=rfl
def Yw:tM Γ (.cons e es) env S P E=WE Γ e env S (λx S1=>tM Γ es env S1 (λxs S2=>P (x::xs) S2) E) E:=rfl
def abh:WO Γ .no env S O E=O ψ S:=rfl
def abi:WO Γ (.e e1) env S O E=WE Γ e1 env S (λx S1=>lL x λj=>O (ξ j) S1) E:=rfl
def NY:WI Γ (.val e) env S R E=WE Γ e env S (λx S1=>HI x S1 λus g=>R us g S1) E:=rfl
def aar:WI Γ (.range e) env S R E=WE Γ e env S (λx S1=>lL x λn=>n<=1000000/\-(1000000:Int)<=n/\R ((b9 n.toNat).map λk=>.int (k:Nat)) (λ_=>True) S1) E:=rfl
def Yx:WI Γ (.enum e) env S R E=WE Γ e env S (λx S1=>sd x λn=>getL S1[n]? λus=>R (us.mapIdx λi u=>.tup [.int (i:Nat),u]) (λS'=>S'[n]?=ξ (.lst us)) S1) E:=rfl
def aas:WT Γ (.de e) env S B E=WE Γ e env S (λx S1=>opt (ve S1 x) λb=>B b S1) E:=rfl
def Yy:WT Γ (.not t1) env S B E=WT Γ t1 env S (λb S1=>B (!b) S1) E:=rfl
def Yz:WT Γ (.and t1 t2) env S B E=WT Γ t1 env S (λc S1=>if c=ζ then WT Γ t2 env S1 B E else B ϑ S1) E:=rfl
def aat:WT Γ (.or t1 t2) env S B E=WT Γ t1 env S (λc S1=>if c=ζ then B ζ S1 else WT Γ t2 env S1 B E) E:=rfl
def vj:rG Γ (.cons s ss) D env S=WS Γ s #[λen S1=>Rest Γ ss D en S1,D.rt,D.ex] env S:=rfl
def UB:rG Γ .nil D env S=D.nx env S:=rfl
def UC:WS Γ (.set i e) D env S=WE Γ e env S (λu S1=>D.nx (env.set i (ξ u)) S1) (D.ex env):=rfl
def aau:WS Γ (.aug i p e) D env S=yP env[i]? λx=>WE Γ e env S (λy S1=>yR p x y S1 λz S2=>D.nx (env.set i (ξ z)) S2) (D.ex env):=rfl
def abj:WS Γ (.ex e) D env S=WE Γ e env S (λ_ S1=>D.nx env S1) (D.ex env):=rfl
def aav:WS Γ (.ret e) D env S=WE Γ e env S D.rt (D.ex env):=rfl
def aaw:WS Γ (.ifs c a b) D env S=WT Γ c env S (λt S1=>if t=ζ then Rest Γ a D env S1 else Rest Γ b D env S1) (D.ex env):=rfl
def UD:WS Γ (.Co c b) D env S=∃n,yS (λen S1 k=>WT Γ c en S1 k (D.ex en)) (λen S1 k=>Rest Γ b #[k,D.rt,D.ex] en S1) D.nx n env S:=rfl
def NZ:WS Γ (.jN (.name i) it b) D env S=WI Γ it env S (λus g S1=>vg g (λu en S2 k=>Rest Γ b #[k,D.rt,D.ex] (en.set i (ξ u)) S2) D.nx us env S1) (D.ex env):=rfl
def WW:WS Γ (.raise f as) D env S=tM Γ as env S (λus S1=>us.length=(bN f).length/\D.ex env #[f,us,ζ] S1) (D.ex env):=rfl
def aax:WS Γ (.Uj a f i q as) D env S=Rest Γ a #[D.nx,D.rt,λen x S1=>(x.f=ζ/\(my x.c).contains f=ζ)/\tM Γ as (en.set i (ξ (.exc x.c x.us))) S1 (λus S2=>us.length=(bN q).length/\D.ex (en.set i ψ) #[q,us,ϑ] S2) λ_ _=>False] env S:=rfl
def UE:WS Γ (.Pu a f i b) D env S=Rest Γ a #[D.nx,D.rt,λen x S1=>(my x.c).contains f=ζ/\Rest Γ b #[λen2 S2=>D.nx (en2.set i ψ) S2,D.rt,λ_ _ _=>False] (en.set i (ξ (.exc x.c x.us))) S1] env S:=rfl
def YA:WS Γ (.mm o f e) D env S=WE Γ e env S (λu S1=>WE Γ o env S1 (λx S2=>sd x λn=>qj S2[n]? λc fs=>fs.length<100/\D.nx env (S2.set n (.ins c (gO f u fs)))) (D.ex env)) (D.ex env):=rfl
def YB:WS Γ (.Cn o f p e) D env S=WE Γ o env S (λx S1=>sd x λn=>qj S1[n]? λc fs=>opt (fs.lookup f) λv=>
   WE Γ e env S1 (λy S2=>yR p v y S2 λz S3=>qj S3[n]? λc' fs'=>c'=c/\fs'.length<100/\D.nx env (S3.set n (.ins c (gO f z fs')))) (D.ex env)) (D.ex env):=rfl
def YC:WS Γ (.Fm o j p e) D env S=WE Γ o env S (λx S1=>WE Γ j env S1 (λy S2=>sd x λn=>lL y λk=>getL S2[n]? λus=>0<=k/\opt (us[k.toNat]?) λv=>
   WE Γ e env S2 (λz S3=>yR p v z S3 λr S4=>getL S4[n]? λus'=>k.toNat<us'.length/\D.nx env (S4.set n (.lst (us'.set k.toNat r)))) (D.ex env)) (D.ex env)) (D.ex env):=rfl
def aay:WE Γ (.DO e1 e2) env S Q E=WE Γ e1 env S (λx S1=>WE Γ e2 env S1 (λy S2=>LM x y S2 λv=>Q v S2) E) E:=rfl
def vk:WE Γ (.df .nil .nil) env S Q E=(0<=100/\(Q (.loc S.length) (S++[.df []])\/Q (.loc S.length) (S++[.r9 []])\/Q (.loc S.length) (S++[.vd []]))):=rfl
def YD:WI Γ (.keys e) env S R E=WE Γ e env S (λx S1=>sd x λn=>iA S1[n]? λkvs=>R (kvs.map (·.1)) (λS'=>S'[n]?=ξ (.pI kvs)) (S1.set n (.pI kvs))) E:=rfl
def YE:WS Γ (.mV o j e) D env S=WE Γ e env S (λu S1=>WE Γ o env S1 (λx S2=>WE Γ j env S2 (λy S3=>sd x λn=>getD S3[n]? λkvs=>(lY y=ζ/\se y kvs=ψ/\kvs.length<1000000)/\D.nx env (S3.set n (.df (kvs++[(y,u)])))) (D.ex env)) (D.ex env)) (D.ex env):=rfl
def aaz:WS Γ (.jN (.pair i j) it b) D env S=WI Γ it env S (λus g S1=>vg g (λu en S2 k=>NT u λx y=>Rest Γ b #[k,D.rt,D.ex] ((en.set i (ξ x)).set j (ξ y)) S2) D.nx us env S1) (D.ex env):=rfl
def ca{sp:Spec}{us:List U}{Q:KU}{E:KX}(h:Γ f=sp)(k:sp us S Q E):Γ f us S Q E:=%[h|k]
end
noncomputable abbrev SG:List Nat:=[10,32,33,34,35,36,38,39,40,41,42,43,44,45,46,47,48,49,50,51,52,53,54,55,56,57,58,59,60,61,62,63,64,65,66,67,68,69,70,71,72,73,74,75,76,77,78,79,80,81,82,83,84,85,86,87,88,89,90,91,92,93,94,95,96,97,98,99,100,101,102,103,104,105,106,107,108,109,110,111,112,113,114,115,116,117,118,119,120,121,122,123,124,125,126]
abbrev mY:dj:=#v[.ret (.mW .join (.lit (.str [])) #v[.comp ϑ @0 (.val (.lit (.str SG))) (.de (.cmp .isin @0 @1)) [0]])]
abbrev oY:dj:=#v[.ret (.mW .join (.lit (.str [])) #v[.comp ϑ @0 (.val (.lit (.str SG))) (.de (.cmp .pR @0 @1)) [0]])]
abbrev mZ:dj:=#v[.ret (.cmp .lt (.mW .index (.lit (.str SG)) #v[@0]) (.mW .index (.lit (.str SG)) #v[@1]))]
abbrev oZ:dj:=#v[.ret (.sl (.lit (.str SG)) (.e (.mW .index (.lit (.str SG)) #v[@0])) (.e (.bin .add (.mW .index (.lit (.str SG)) #v[@1]) ↑1)))]
abbrev yV:dj:=#v[.set 1 (.mk "Reader" "Reader.__init__" #v[@0]),.set 2 (.cB "Reader" "choice" "Reader.choice" @1 .nil),.ifs (.de (.cmp .lt (.fld @1 "at") (.blt .len #v[@0]))) #v[.raise "BadRule" #v[↑0,.fld @1 "at"]] .nil,.ret @2]
abbrev qS:dj:=#v[.ret (.Fl (.de (.cmp .eq (.blt .len #v[@1]) ↑1)) (.ix @1 ↑0) (.tup #v[@0,.blt .tuple #v[@1]]))]
abbrev jD:dj:=#v[.mm @0 "text" @1,.mm @0 "at" ↑0,.mm @0 "depth" ↑0]
abbrev jE:dj:=#v[.ret (.and (.cmp .lt (.fld @0 "at") (.blt .len #v[.fld @0 "text"])) (.cmp .isin (.ix (.fld @0 "text") (.fld @0 "at")) @1))]
abbrev iG:dj:=#v[.ifs (.not (.de (.cB "Reader" "sees" "Reader.sees" @0 #v[@1]))) #v[.raise "BadRule" #v[↑0,.fld @0 "at"]] .nil,.Cn @0 "at" .add ↑1,.ret (.ix (.fld @0 "text") (.bin .sub (.fld @0 "at") ↑1))]
abbrev iH:dj:=#v[.set 1 (.lst #v[.cB "Reader" "row" "Reader.row" @0 .nil]),.Co (.de (.cB "Reader" "sees" "Reader.sees" @0 #v[↑[124]])) #v[.ex (.cB "Reader" "passes" "Reader.passes" @0 #v[↑[124]]),.ex (.mW .append @1 #v[.cB "Reader" "row" "Reader.row" @0 .nil])],.ret (.call "joined" #v[↑[111,114],@1])]
abbrev km:dj:=#v[.set 1 (.lst #v[.cB "Reader" "repeat" "Reader.repeat" @0 .nil]),.Co (.and (.de (.cmp .lt (.fld @0 "at") (.blt .len #v[.fld @0 "text"]))) (.not (.de (.cB "Reader" "sees" "Reader.sees" @0 #v[↑[124,41]])))) #v[.ex (.mW .append @1 #v[.cB "Reader" "repeat" "Reader.repeat" @0 .nil])],.ret (.call "joined" #v[↑[114,111,119],@1])]
abbrev iI:dj:=#v[.set 1 (.cB "Reader" "atom" "Reader.atom" @0 .nil),.Co (.de (.cB "Reader" "sees" "Reader.sees" @0 #v[↑[42,43,63]])) #v[.set 1 (.tup #v[.ix (.lit (.tab [([42],[115,116,97,114]),([43],[112,108,117,115]),([63],[109,97,121,98,101])])) (.cB "Reader" "passes" "Reader.passes" @0 #v[↑[42,43,63]]),@1])],.ret @1]
abbrev jF:dj:=#v[.ifs (.de (.cB "Reader" "sees" "Reader.sees" @0 #v[↑[40]])) #v[.ret (.cB "Reader" "bracket" "Reader.bracket" @0 .nil)] .nil,.ifs (.de (.cB "Reader" "sees" "Reader.sees" @0 #v[↑[91]])) #v[.ret (.tup #v[↑[111,110,101],.cB "Reader" "sign_class" "Reader.sign_class" @0 .nil])] .nil,.ifs (.de (.cB "Reader" "sees" "Reader.sees" @0 #v[↑[46]])) #v[.ex (.cB "Reader" "passes" "Reader.passes" @0 #v[↑[46]]),.ret (.tup #v[↑[111,110,101],.call "all_but" #v[↑[10]]])] .nil,.ret (.tup #v[↑[111,110,101],.cB "Reader" "written_sign" "Reader.written_sign" @0 #v[↑[46,124,40,41,91,93,42,43,63,92]]])]
abbrev gQ:dj:=#v[.ifs (.de (.cmp .eq (.fld @0 "depth") ↑6)) #v[.raise "BadRule" #v[↑0,.fld @0 "at"]] .nil,.ex (.cB "Reader" "passes" "Reader.passes" @0 #v[↑[40]]),.Cn @0 "depth" .add ↑1,.set 1 (.cB "Reader" "choice" "Reader.choice" @0 .nil),.ex (.cB "Reader" "passes" "Reader.passes" @0 #v[↑[41]]),.Cn @0 "depth" .sub ↑1,.ret @1]
abbrev eP:dj:=#v[.ex (.cB "Reader" "passes" "Reader.passes" @0 #v[↑[91]]),.set 1 (.cB "Reader" "sees" "Reader.sees" @0 #v[↑[94]]),.ifs (.de @1) #v[.ex (.cB "Reader" "passes" "Reader.passes" @0 #v[↑[94]])] .nil,.set 2 (.cB "Reader" "item" "Reader.item" @0 .nil),.Co (.not (.de (.cB "Reader" "sees" "Reader.sees" @0 #v[↑[93]]))) #v[.aug 2 .add (.cB "Reader" "item" "Reader.item" @0 .nil)],.ex (.cB "Reader" "passes" "Reader.passes" @0 #v[↑[93]]),.ret (.Fl (.de @1) (.call "all_but" #v[@2]) (.call "in_order" #v[@2]))]
abbrev jG:dj:=#v[.set 1 (.cB "Reader" "written_sign" "Reader.written_sign" @0 #v[↑[93,45,92]]),.ifs (.not (.de (.cB "Reader" "sees" "Reader.sees" @0 #v[↑[45]]))) #v[.ret @1] .nil,.ex (.cB "Reader" "passes" "Reader.passes" @0 #v[↑[45]]),.set 2 (.fld @0 "at"),.set 3 (.cB "Reader" "written_sign" "Reader.written_sign" @0 #v[↑[93,45,92]]),.ifs (.de (.call "is_ahead" #v[@3,@1])) #v[.raise "BadRule" #v[↑0,@2]] .nil,.ret (.call "stretch" #v[@1,@3])]
abbrev dU:dj:=#v[.ifs (.not (.de (.cB "Reader" "sees" "Reader.sees" @0 #v[↑[92]]))) #v[.ret (.cB "Reader" "passes" "Reader.passes" @0 #v[.call "all_but" #v[@1]])] .nil,.ex (.cB "Reader" "passes" "Reader.passes" @0 #v[↑[92]]),.set 2 (.cB "Reader" "passes" "Reader.passes" @0 #v[↑[46,124,40,41,91,93,42,43,63,92,45,94,110]]),.ret (.Fl (.de (.cmp .eq @2 ↑[110])) ↑[10] @2)]
end PL
namespace PL.yW
abbrev lN:dj:=#v[.ifs (.de @0) #v[.ret (.ix @0 (.bin .mod @1 (.blt .len #v[@0])))] .nil,.ret ↑0]
abbrev m3:dj:=#v[.set 2 (.bin .mod (.bin .add (.call "_law_cell" #v[@0,@1]) (.bin .mul ↑104729 (.bin .add @1 ↑1))) ↑4294967291),.set 2 (.bin .mod (.bin .mul @2 ↑48271) ↑4294967279),.ret (.bin .mod (.bin .add (.bin .mul (.bin .fdiv @2 ↑64) ↑69621) @2) ↑4294967231)]
end PL.yW
namespace PL.rH
abbrev lO:dj:=#v[.set 2 (.mk "Layout" "Layout.__init__" .nil),.jN (.pair 3 4) (.enum (.sl @0 .no (.e ↑6))) #v[.set 5 (.cB "Layout" "lay" "Layout.lay" @2 #v[.call "tree_of" #v[@4,@3]]),.ifs (.de (.fld @5 "empty")) #v[.raise "TakesNothing" #v[@3]] .nil,.ifs (.de (.cmp .gt (.cB "Layout" "how_many" "Layout.how_many" @2 .nil) @1)) #v[.raise "TooMany" #v[@3]] .nil,.ex (.cB "Layout" "close_rule" "Layout.close_rule" @2 #v[@5])],.ifs (.de (.cmp .gt (.blt .len #v[@0]) ↑6)) #v[.raise "TooMany" #v[↑6]] .nil,.ret (.mk "Places" "Places.__init__" #v[@2])]
abbrev o6:dj:=#v[.ret (.comp ϑ @0 (.range (.mW .mU @0 .nil)) (.de (.bin .band (.bin .shr @1 @0) ↑1)) [0])]
abbrev lP:dj:=#v[.mm @0 "empty" @1,.mm @0 "firsts" @2,.mm @0 "lasts" @3]
abbrev fG:dj:=#v[.set 2 (.Fl (.de (.fld @0 "empty")) (.bin .bor (.fld @0 "firsts") (.fld @1 "firsts")) (.fld @0 "firsts")),.set 3 (.Fl (.de (.fld @1 "empty")) (.bin .bor (.fld @0 "lasts") (.fld @1 "lasts")) (.fld @1 "lasts")),.ret (.mk "Part" "Part.__init__" #v[.and (.fld @0 "empty") (.fld @1 "empty"),@2,@3])]
abbrev jc:dj:=#v[.ret (.mk "Part" "Part.__init__" #v[.or (.fld @0 "empty") (.fld @1 "empty"),.bin .bor (.fld @0 "firsts") (.fld @1 "firsts"),.bin .bor (.fld @0 "lasts") (.fld @1 "lasts")])]
abbrev jH:dj:=#v[.mm @0 "signs" (.lst #v[.lit (.str [])]),.mm @0 "behind" (.lst #v[↑0]),.mm @0 "ends" (.lst .nil)]
abbrev gc:dj:=#v[.ret (.bin .sub (.blt .len #v[.fld @0 "signs"]) ↑1)]
abbrev eQ:dj:=#v[.Fm (.fld @0 "behind") ↑0 .bor (.fld @1 "firsts"),.ex (.mW .append (.fld @0 "ends") #v[.fld @1 "lasts"])]
abbrev jI:dj:=#v[.jN (.name 3) (.val (.call "members" #v[@1])) #v[.Fm (.fld @0 "behind") @3 .bor @2]]
abbrev ko:dj:=#v[.ifs (.de (.cmp .eq (.ix @1 ↑0) ↑[111,110,101])) #v[.ret (.cB "Layout" "lay_place" "Layout.lay_place" @0 #v[.ix @1 ↑1])] .nil,.ifs (.de (.cmp .eq (.ix @1 ↑0) ↑[114,111,119])) #v[.ret (.cB "Layout" "lay_row" "Layout.lay_row" @0 #v[.ix @1 ↑1])] .nil,.ifs (.de (.cmp .eq (.ix @1 ↑0) ↑[111,114])) #v[.ret (.cB "Layout" "lay_choice" "Layout.lay_choice" @0 #v[.ix @1 ↑1])] .nil,.ret (.cB "Layout" "lay_repeat" "Layout.lay_repeat" @0 #v[@1])]
abbrev fH:dj:=#v[.set 2 (.bin .shl ↑1 (.blt .len #v[.fld @0 "signs"])),.ex (.mW .append (.fld @0 "signs") #v[@1]),.ex (.mW .append (.fld @0 "behind") #v[↑0]),.ret (.mk "Part" "Part.__init__" #v[.lit (.bl ϑ),@2,@2])]
abbrev gS:dj:=#v[.set 2 (.mk "Part" "Part.__init__" #v[.lit (.bl ζ),↑0,↑0]),.jN (.name 3) (.val @1) #v[.set 4 (.cB "Layout" "lay" "Layout.lay" @0 #v[@3]),.ex (.cB "Layout" "link" "Layout.link" @0 #v[.fld @2 "lasts",.fld @4 "firsts"]),.set 2 (.call "one_behind_other" #v[@2,@4])],.ret @2]
abbrev eR:dj:=#v[.set 2 (.mk "Part" "Part.__init__" #v[.lit (.bl ϑ),↑0,↑0]),.jN (.name 3) (.val @1) #v[.set 2 (.call "one_or_other" #v[@2,.cB "Layout" "lay" "Layout.lay" @0 #v[@3]])],.ret @2]
abbrev eS:dj:=#v[.set 2 (.lst .nil),.set 3 @1,.Co (.de (.cmp .isin (.ix @3 ↑0) (.tup #v[↑[115,116,97,114],↑[112,108,117,115],↑[109,97,121,98,101]]))) #v[.ex (.mW .append @2 #v[.ix @3 ↑0]),.set 3 (.ix @3 ↑1)],.set 4 (.cB "Layout" "lay" "Layout.lay" @0 #v[@3]),.ifs (.or (.de (.cmp .isin ↑[115,116,97,114] @2)) (.de (.cmp .isin ↑[112,108,117,115] @2))) #v[.ex (.cB "Layout" "link" "Layout.link" @0 #v[.fld @4 "lasts",.fld @4 "firsts"])] .nil,.set 5 (.or (.fld @4 "empty") (.or (.cmp .isin ↑[115,116,97,114] @2) (.cmp .isin ↑[109,97,121,98,101] @2))),.ret (.mk "Part" "Part.__init__" #v[@5,.fld @4 "firsts",.fld @4 "lasts"])]
abbrev iJ:dj:=#v[.set 1 (.blt .sum #v[.comp ζ (.bin .shl ↑1 @0) (.enum (.fld @0 "signs")) (.de (.cmp .ne @1 (.lit (.str [])))) []]),.set 2 ↑0,.jN (.name 3) (.val (.fld @0 "ends")) #v[.aug 2 .bor (.bin .band @3 @1)],.set 4 ↑0,.Co (.de (.cmp .ne @2 @4)) #v[.set 4 @2,.jN (.name 5) (.val (.call "members" #v[@1])) #v[.ifs (.de (.bin .band (.ix (.fld @0 "behind") @5) @4)) #v[.aug 2 .bor (.bin .shl ↑1 @5)] .nil]],.ret @4]
abbrev fJ:dj:=#v[.ret (.blt .sum #v[.comp ζ (.bin .shl ↑1 @0) (.enum (.fld @0 "signs")) (.de (.cmp .isin @2 @1)) [1]])]
abbrev jJ:dj:=#v[.set 2 (.call "useful_places" #v[@1]),.mm @0 "behind" (.comp ϑ (.bin .band @0 @1) (.val (.fld @1 "behind")) (.de (.lit (.bl ζ))) [2]),.mm @0 "ends" (.blt .list #v[.fld @1 "ends"]),.mm @0 "takers" (.blt .dict #v[.comp ϑ (.tup #v[@0,.call "places_that_take" #v[@1,@0]]) (.val (.lit (.str SG))) (.de (.lit (.bl ζ))) [1]])]
abbrev iK:dj:=#v[.set 2 ↑0,.jN (.name 3) (.val (.call "members" #v[@1])) #v[.aug 2 .bor (.ix (.fld @0 "behind") @3)],.ret @2]
abbrev eU:dj:=#v[.jN (.pair 2 3) (.enum (.fld @0 "ends")) #v[.ifs (.de (.bin .band @1 @3)) #v[.ret @2] .nil],.ret (.lit .bK)]
abbrev kq:dj:=#v[.mm @0 "places" (.call "places_of" #v[@1,↑24])]
end PL.rH
namespace PL.Bw
abbrev m7:dj:=#v[.ret (.call "smallest" #v[.call "spread" #v[.call "places_of" #v[@0,↑10]]])]
abbrev kz:dj:=#v[.mm @0 "takes" (.blt .list #v[@1]),.mm @0 "told" (.blt .tuple #v[@1]),.mm @0 "rows" @2]
abbrev kA:dj:=#v[.ret (.mW .get (.ix (.fld @0 "rows") @1) #v[@2])]
abbrev WX:dj:=#v[.ifs (.de (.cmp .ne @7 ↑0)) #v[.mV @5 @6 (.DO @2 @7)] .nil]
abbrev YF:dj:=(.cons (.set 7 (.bin .band @4 (.DO (.fld @0 "takers") @6))) (.cons (.ifs (.and (.de (.cmp .ne @7 ↑0)) (.de (.cmp .Cm @7 @2))) #v[.mV @2 @7 (.blt .len #v[@1]),.ex (.mW .append @1 #v[@7])] .nil) WX))
abbrev YG:dj:=#v[.set 4 (.cB "Places" "beyond" "Places.beyond" @0 #v[.ix @1 (.blt .len #v[@3])]),.set 5 (.df .nil .nil),.jN (.name 6) (.val (.lit (.str SG))) YF,.ex (.mW .append @3 #v[@5])]
abbrev YH:dj:=#v[.ret (.mk "Table" "Table.__init__" #v[.comp ϑ (.cB "Places" "first_rule" "Places.first_rule" @1 #v[@0]) (.val @1) (.de (.lit (.bl ζ))) [0],@3])]
abbrev qT:dj:=(.cons (.set 1 (.lst #v[↑1])) (.cons (.set 2 (.df #v[↑1] #v[↑0])) (.cons (.set 3 (.lst .nil)) (.cons (.Co (.de (.cmp .lt (.blt .len #v[@3]) (.blt .len #v[@1]))) YG) YH))))
abbrev YI:Ex:=.blt .dict #v[.comp ϑ (.tup #v[@0,.ix @1 (.DO @2 @0)]) (.keys @5) (.de (.lit (.bl ζ))) [1,5]]
abbrev YJ:dj:=#v[.ifs (.de (.cmp .eq (.ix @1 @4) (.blt .len #v[@3]))) #v[.ex (.mW .append @2 #v[.ix (.fld @0 "told") @4]),.ex (.mW .append @3 #v[YI])] .nil]
abbrev m8:dj:=#v[.set 1 (.ix (.call "rounds" #v[.bin .add (.fld @0 "told") (.tup #v[.lit .bK]),.call "with_nowhere" #v[.fld @0 "rows"]]) (.neg ↑1)),.set 2 (.lst .nil),.set 3 (.lst .nil),.jN (.pair 4 5) (.enum (.fld @0 "rows")) YJ,.ret (.mk "Table" "Table.__init__" #v[@2,@3])]
abbrev YK:Ex:=.blt .dict #v[.comp ϑ (.tup #v[@0,.mW .get @1 #v[@0,@2]]) (.val (.lit (.str SG))) (.de (.lit (.bl ζ))) [0,1]]
abbrev jd:dj:=#v[.set 1 (.blt .len #v[@0]),.ret (.comp ϑ YK (.val (.bin .add @0 (.lst #v[.df .nil .nil]))) (.de (.lit (.bl ζ))) [1])]
abbrev qU:dj:=#v[.set 2 (.call "telling_signs" #v[@1]),.set 3 (.lst #v[.call "numbered" #v[@0]]),.Co (.de (.lit (.bl ζ))) #v[.set 4 (.call "parted" #v[.ix @3 (.neg ↑1),@1,@2]),.ifs (.de (.cmp .eq (.blt .max #v[@4]) (.blt .max #v[.ix @3 (.neg ↑1)]))) #v[.ret @3] .nil,.ex (.mW .append @3 #v[@4])]]
abbrev YL:Ex:=.comp ϑ (.ix @1 (.DO @2 @0)) (.val @2) (.de (.lit (.bl ζ))) [0,5]
abbrev qV:dj:=#v[.set 3 (.lst .nil),.jN (.pair 4 5) (.enum @1) #v[.ex (.mW .append @3 #v[.tup #v[.ix @0 @4,.blt .tuple #v[YL]]])],.ret (.call "numbered" #v[@3])]
abbrev m9:dj:=#v[.set 1 (.df .nil .nil),.ret (.comp ϑ (.mW .mV @1 #v[@0,.blt .len #v[@1]]) (.val @0) (.de (.lit (.bl ζ))) [1])]
abbrev iL:dj:=#v[.set 1 (.df .nil .nil),.jN (.name 2) (.val (.lit (.str SG))) #v[.ex (.mW .mV @1 #v[.blt .tuple #v[.comp ϑ (.DO @0 @1) (.val @0) (.de (.lit (.bl ζ))) [2]],@2])],.ret (.mW .vals @1 .nil)]
end PL.Bw
namespace PL.PY
abbrev je:dj:=#v[.ret (.blt .len #v[.fld @0 "told"])]
abbrev pSs:Ex:=.comp ϑ (.call "sample" #v[@1,@2,@0]) (.range (.blt .len #v[@0])) (.de (.lit (.bl ζ))) [1,2]
abbrev o7:dj:=#v[.set 1 (.call "table_of" #v[@0]),.set 2 (.call "first_texts" #v[@1]),.ret pSs]
abbrev qW:dj:=#v[.ret (.comp ζ @0 (.enum (.call "samples" #v[@0])) (.de (.cmp .HE @1 (.lit .bK))) [])]
abbrev qX:dj:=#v[.ifs (.de (.cmp .pR @2 (.fld @0 "told"))) #v[.ret (.lit .bK)] .nil,.ret (.DO @1 (.mW .wq (.fld @0 "told") #v[@2]))]
abbrev YM:dj:=#v[.set 4 (.cB "Table" "goes" "Table.goes" @0 #v[@2,@3]),.ifs (.de (.cmp .Ck @4 (.lit .bK))) #v[.ex (.mW .mV @1 #v[@4,.bin .add (.DO @1 @2) @3])] .nil]
abbrev YN:dj:=#v[.jN (.name 3) (.val (.lit (.str SG))) YM]
abbrev jK:dj:=#v[.set 1 (.df #v[↑0] #v[.lit (.str [])]),.jN (.name 2) (.range (.cB "Table" "size" "Table.size" @0 .nil)) YN,.ret @1]
end PL.PY
namespace PL.HX
abbrev kB:dj:=#v[.set 2 (.call "table_of" #v[@0]),.set 3 (.call "table_of" #v[@1]),.set 4 (.bin .add (.bin .add (.fld @2 "told") (.fld @3 "told")) (.tup #v[.lit .bK])),.set 5 (.call "with_nowhere" #v[.bin .add (.fld @2 "rows") (.call "moved" #v[.fld @3 "rows",.cB "Table" "size" "Table.size" @2 .nil])]),.ret (.call "text_apart" #v[.call "rounds" #v[@4,@5],@5,.tup #v[↑0,.cB "Table" "size" "Table.size" @2 .nil]])]
abbrev je:dj:=#v[.ret (.blt .len #v[.fld @0 "told"])]
abbrev YO:Ex:=.blt .dict #v[.comp ϑ (.tup #v[@0,.bin .add (.DO @1 @0) @2]) (.keys @0) (.de (.lit (.bl ζ))) [0,1]]
abbrev ua:dj:=#v[.ret (.comp ϑ YO (.val @0) (.de (.lit (.bl ζ))) [1])]
abbrev WY:dj:=#v[.aug 4 .add (.call "sign_apart" #v[@6,@1,@5]),.set 5 (.call "states_behind" #v[@1,@5,.ix @4 (.neg ↑1)])]
abbrev kC:dj:=#v[.set 3 ↑0,.Co (.and (.de (.cmp .lt @3 (.blt .len #v[@0]))) (.not (.de (.call "are_apart" #v[.ix @0 @3,@2])))) #v[.aug 3 .add ↑1],.ifs (.de (.cmp .eq @3 (.blt .len #v[@0]))) #v[.ret (.lit .bK)] .nil,.set 4 (.lit (.str [])),.set 5 @2,.jN (.name 6) (.rev (.sl @0 .no (.e @3))) WY,.ret @4]
abbrev lQ:dj:=#v[.ret (.cmp .ne (.ix @0 (.ix @1 ↑0)) (.ix @0 (.ix @1 ↑1)))]
abbrev iM:dj:=#v[.ret (.tup #v[.DO (.ix @0 (.ix @1 ↑0)) @2,.DO (.ix @0 (.ix @1 ↑1)) @2])]
abbrev pSa:Ex:=.comp ϑ @0 (.val (.lit (.str SG))) (.de (.call "are_apart" #v[@1,.call "states_behind" #v[@2,@3,@0]])) [0,1,2]
abbrev kD:dj:=#v[.ret (.ix pSa ↑0)]
end PL.HX
namespace PL.ub
abbrev o9:dj:=#v[.Uj #v[.ret (.call "read" #v[@0])] "BadRule" 2 "BadRule" #v[@1,.fld @2 "at"]]
abbrev lR:dj:=#v[.set 1 (.lst #v[↑[97],↑[97,98],↑[97,98,99],↑[97,124,98],↑[40,97,98,41,43,99],↑[91,97,45,99,93,120,42],↑[46,98,63],↑[97,98,99,100,101,102,103,104],↑[97,98,99,100,101,102,103,104,105,106,107],↑[97,97,124,98,98,124,99,99],↑[120,43]]),.set 2 (.lst #v[↑[97,42],↑[40,97,63,41,43],↑[40,97,124,98,42,41],↑[91,94,97,93,63]]),.set 3 (.lst #v[.tup #v[↑[97,40],↑2],.tup #v[.lit (.str []),↑0],.tup #v[↑[97,124],↑2],.tup #v[↑[91,98,45,97,93],↑3],.tup #v[↑[42],↑0],.tup #v[↑[97,92,113],↑2],.tup #v[↑[97,98,41],↑2],.tup #v[↑[91,93],↑1],.tup #v[↑[40,40,40,40,40,40,40,40,97],↑6]]),.ifs (.de (.cmp .eq (.bin .mod @0 ↑9) ↑0)) #v[.ret (.tup #v[.ix (.ix @3 (.bin .mod (.bin .fdiv @0 ↑9) ↑9)) ↑0,↑0,.ix (.ix @3 (.bin .mod (.bin .fdiv @0 ↑9) ↑9)) ↑1])] .nil,.ifs (.de (.cmp .eq (.bin .mod @0 ↑9) ↑1)) #v[.ret (.tup #v[.ix @2 (.bin .mod (.bin .fdiv @0 ↑9) ↑4),↑0,.neg ↑2])] .nil,.set 4 (.ix @1 (.bin .mod (.bin .fdiv @0 ↑9) ↑11)),.ret (.tup #v[@4,.ix (.lst #v[↑1,↑2,↑3,↑2,↑3,↑2,↑2,↑8,↑11,↑6,↑1]) (.bin .mod (.bin .fdiv @0 ↑9) ↑11),.neg ↑1])]
abbrev ng:dj:=#v[.set 2 ↑0,.jN (.name 3) (.range (.blt .min2 #v[↑6,.blt .len #v[@0]])) #v[.ifs (.de (.cmp .ge (.ix (.ix @0 @3) ↑2) ↑0)) #v[.ret (.tup #v[↑[98,97,100],@3,.ix (.ix @0 @3) ↑2])] .nil,.ifs (.de (.cmp .eq (.ix (.ix @0 @3) ↑2) (.neg ↑2))) #v[.ret (.tup #v[↑[110,111,116,104,105,110,103],@3])] .nil,.set 2 (.bin .add @2 (.ix (.ix @0 @3) ↑1)),.ifs (.de (.cmp .gt @2 @1)) #v[.ret (.tup #v[↑[109,97,110,121],@3])] .nil],.ret (.Fl (.de (.cmp .gt (.blt .len #v[@0]) ↑6)) (.tup #v[↑[109,97,110,121],↑6]) (.lit .bK))]
abbrev kE:dj:=#v[.set 2 (.lit .bK),.Pu #v[.ifs (.de (.cmp .eq @1 ↑0)) #v[.ex (.mk "Lexer" "Lexer.__init__" #v[@0])] #v[.ifs (.de (.cmp .eq @1 ↑1)) #v[.ex (.call "table_of" #v[@0])] #v[.ifs (.de (.cmp .eq @1 ↑2)) #v[.ex (.call "difference" #v[@0,.lst #v[↑[97]]])] #v[.ifs (.de (.cmp .eq @1 ↑3)) #v[.ex (.call "difference" #v[.lst #v[↑[97]],@0])] #v[.ifs (.de (.cmp .eq @1 ↑4)) #v[.ex (.call "samples" #v[@0])] #v[.ex (.call "unused" #v[@0])]]]]]] "TokenError" 3 #v[.set 2 @3],.ifs (.de (.cmp .HE @2 (.lit .bK))) #v[.ret (.lit .bK)] .nil,.ifs (.or (.de (.DN @2 [.own "NoToken"])) (.not (.de (.DN @2 [.Fj])))) #v[.ret (.tup #v[↑[111,116,104,101,114]])] .nil,.ifs (.de (.DN @2 [.own "BadRule"])) #v[.ret (.tup #v[↑[98,97,100],.fld @2 "rule",.fld @2 "at"])] .nil,.ifs (.de (.DN @2 [.own "TakesNothing"])) #v[.ret (.tup #v[↑[110,111,116,104,105,110,103],.fld @2 "rule"])] .nil,.ret (.Fl (.de (.DN @2 [.own "TooMany"])) (.tup #v[↑[109,97,110,121],.fld @2 "rule"]) (.tup #v[↑[111,116,104,101,114]]))]
abbrev D1:dj:=#v[.set 1 (.comp ϑ (.call "_law_rule" #v[.call "_law_mix" #v[@1,.bin .add ↑1 @0]]) (.range (.bin .mod (.call "_law_mix" #v[@0,↑0]) ↑9)) (.de (.lit (.bl ζ))) [0]),.ifs (.de (.cmp .eq (.bin .mod (.call "_law_mix" #v[@0,↑20]) ↑2) ↑0)) #v[.set 1 (.comp ϑ @0 (.val @1) (.de (.cmp .eq (.ix @0 ↑2) (.neg ↑1))) [])] .nil,.set 2 (.comp ϑ (.ix @0 ↑0) (.val @1) (.de (.lit (.bl ζ))) []),.set 3 (.blt .list #v[@2]),.ifs (.or (.de (.cmp .ne (.call "_law_found" #v[@3,↑0]) (.call "_law_due" #v[@1,↑24]))) (.de (.cmp .ne @3 @2))) #v[.ret (.lit (.bl ϑ))] .nil,.ifs (.and (.de (.cmp .HE (.call "_law_due" #v[@1,↑10]) (.lit .bK))) (.de (.cmp .gt (.blt .len #v[@1]) ↑2))) #v[.set 1 (.sl @1 .no (.e ↑2))] .nil,.set 4 (.bin .add ↑1 (.bin .mod (.call "_law_mix" #v[@0,↑21]) ↑5)),.ret (.cmp .eq (.call "_law_found" #v[.comp ϑ (.ix @0 ↑0) (.val @1) (.de (.lit (.bl ζ))) [],@4]) (.call "_law_due" #v[@1,↑10]))]
end PL.ub
namespace L2
open PySem
open PL (U SO bE Xn KU KX Spec bU)
structure Tab where
 const:List (String×U)
 fns:List String
 qk:List String
 qm:List (String×String)
 vm:List String
 tN:List String
 fP:List String
structure Inf where
 names:List (Str×NameKind)
 N:List Str
 calm:Bool
abbrev pick(l:List String)(x:Str):Option String:=l.find? λs=>bP s==x
abbrev AD{α:Type}(l:List (String×α))(x:Str):Option (String×α):=l.find? λs=>bP s.1==x
abbrev dr(x:Str):List Str->Option Nat
 |[]=>ψ
 |y::ys=>if y=x then ξ 0 else(dr x ys).map (·+1)
abbrev PZ:Option NameKind->Bool
 |some .local=>ζ
 |some .cell=>ζ
 |some .free=>ζ
 |_=>ϑ
abbrev Inf.gl(I:Inf)(x:Str):Bool:=I.names.lookup x==ξ .globalImplicit
abbrev UG:mK->Option PL.Gj
 |.Add=>ξ .add|.Sub=>ξ .sub|.Mult=>ξ .mul|.FloorDiv=>ξ .fdiv|.Mod=>ξ .mod|.BitAnd=>ξ .band|.BitOr=>ξ .bor|.LShift=>ξ .shl|.RShift=>ξ .shr|_=>ψ
abbrev YQ:CmpOp->Option PL.NQ
 |.Eq=>ξ .eq|.NotEq=>ξ .ne|.Lt=>ξ .lt|.LtE=>ξ .le|.Gt=>ξ .gt|.GtE=>ξ .ge|.In=>ξ .isin|.NotIn=>ξ .pR|.Is=>ξ .HE|.IsNot=>ξ .Ck
abbrev HY:Expr->Option Str
 |.Name x _=>ξ x
 |_=>ψ
def UH:∀e,(∃x p,e=Kc x p)\/HY e=ψ:=by
 intro e;cases e<;>first|exact .inr rfl|exact .inl #[_,_,rfl]
def D3(h:HY e=ξ x):∃p,e=.Name x p:=by
 rcases UH e with⟨y,p,rfl⟩|e
 .exact#[p,congrArg (Kc · p) (aG h)]
 .erw[nn (e.symm.trans h)]
abbrev dkE(e:Expr):Bool:=HY e==ξ ("sign":Str)||HY e==ξ ("held":Str)
abbrev YR:CmpOp->Bool
 |.NotIn=>ζ
 |_=>ϑ
abbrev SE(op:CmpOp)(b:Expr):Option PL.NQ:=if YR op&&HY b==ξ ("numbers":Str) then ξ .Cm else YQ op
abbrev P0:Expr->Option Expr
 |.Call (.Attribute o m ap) [] [] cp=>if m==("values":Str)&&ap.endLine==cp.line then ξ o else ψ
 |_=>ψ
abbrev WZ:Expr->Option (Str×Expr)
 |.Call f [a] [] _=>(HY f).map λx=>(x,a)
 |_=>ψ
def UI:∀e,(∃f as ks p,e=Expr.Call f as ks p)\/WZ e=ψ:=by
 intro e;cases e<;>first|exact .inr rfl|exact .inl #[_,_,_,_,rfl]
def N0(h:WZ e=ξ (x,a)):∃p q,e=.Call (.Name x p) [a] [] q:=by
 rcases UI e with⟨f,as,ks,q,rfl⟩|e
 .cases as with
  |nil=>erw[nn h]
  |cons a as=>cases as with
   |cons=>erw[nn h]
   |nil=>cases ks with
    |cons=>erw[nn h]
    |nil=>
     let#[y,h1,h2]:=aj.mp h;cases h2;let#[p,rfl]:=D3 h1;exact#[p,q,rfl]
 .erw[nn (e.symm.trans h)]
abbrev YS(T:Tab)(I:Inf)(e:Expr):Option PL.Ty:=(HY e).bind λx=>
  if I.gl x&&x !=("__debug__":Str) then
   if x==("int":Str)&&T.fP.contains "int" then ξ .int else if x==("bool":Str)&&T.fP.contains "bool" then ξ .bool else if x==("str":Str)&&T.fP.contains "str" then ξ .str
   else if x==("list":Str)&&T.fP.contains "list" then ξ .list else if x==("tuple":Str)&&T.fP.contains "tuple" then ξ .tuple else if x==("dict":Str)&&T.fP.contains "dict" then ξ .dict
   else if x==("ValueError":Str)&&T.fP.contains "ValueError" then ξ .Fj else(pick T.tN x).map .own
  else ψ
abbrev qY(I : Inf)(names : List (Str×NameKind)) : List (Str×NameKind) := names.map λ(n, k) => if k==bJ&&I.names.lookup n==ξ .cell then (n, .cell) else (n, k)
abbrev vn(I:Inf)(sc:jh)(xs:List Str):Bool:=
 sc.kind==.function&&sc.names.all (λy=>y.2 !=.cell||sc.names.lookup y.1==ξ .cell)&&sc.names.all (λy=>y.2 !=.local||sc.names.lookup y.1==ξ .local)&&sc.names.all (λy=>y.2 !=.free||I.names.lookup y.1==ξ .cell)
  && xs.all (λx=>sc.names.lookup x==ξ .local||sc.names.lookup x==ξ .cell)&&decide xs.Nodup
abbrev iC(I:Inf)(sc:jh):List Str:=I.N.filter λy=>sc.names.lookup y==ξ .free
abbrev LX:Expr->Option (List Str)
 |.Name x _=>ξ [x]
 |.Tuple [a,b] _ _=>(HY a).bind λx=>(HY b).map λy=>[x,y]
 |_=>ψ
abbrev noStar:Expr->Bool
 |.Starred ..=>ϑ
 |_=>ζ
abbrev yX:Expr->Bool
 |.ListComp ..=>ϑ
 |.SetComp ..=>ϑ
 |.DictComp ..=>ϑ
 |_=>ζ
abbrev lS:Expr->Bool
 |.Slice ..=>ϑ
 |_=>ζ
abbrev fK:Expr->Bool
 |.Call (.Name _ _) [] [] _=>ϑ
 |_=>ζ
abbrev P1:Str->Option PL.Ui:=λx=>
 if x==("len":Str) then ξ .len else if x==("tuple":Str) then ξ .tuple else if x==("list":Str) then ξ .list
 else if x==("sum":Str) then ξ .sum else if x==("dict":Str) then ξ .dict else if x==("max":Str) then ξ .max else if x==("min":Str) then ξ .min2 else ψ
abbrev ixK:Expr->Nat
 |.Attribute ..=>2
 |.Name x _=>if x==("SIGNS":Str) then 0 else 1
 |_=>0
abbrev P2(lx:Nat):Str->Option PL.NR:=λx=>
 if x==("join":Str) then ξ .join else if x==("index":Str) then ξ (if lx==1 then .yO else if lx==2 then .wq else .index) else if x==("append":Str) then ξ .append else if x==("setdefault":Str) then ξ .mV else ψ
abbrev YT:Const->Option U
 |.none=>ξ .bK
 |.bool b=>ξ (.bl b)
 |.int i=>ξ (.int i)
 |.str x=>ξ (.str x.cps.toList)
 |_=>ψ
structure CF where
 e:Inf->Expr->Option PL.Ex
 es:Inf->List Expr->Option PL.vU
 bo:Inf->BoolOp->List Expr->Option PL.Ex
 o:Inf->Option Expr->Option PL.Ox
 i:Inf->Expr->Option PL.It
 n:Inf->Expr->Option PL.It
 t:Inf->Expr->Option PL.Tx
 tb:Inf->BoolOp->List Expr->Option PL.Tx
abbrev SH(T:Tab)(F:CF)(I:Inf)(e:Expr):Option PL.Ex:=match e with
  |.Name x _=>match dr x I.N with
   |some i=>if PZ (I.names.lookup x)&&x !=("__debug__":Str)&&x !=("__classdict__":Str) then ξ (.var i) else ψ
   |none=>if I.gl x&&x !=("__debug__":Str) then(AD T.const x).map λp=>.lit p.2 else ψ
  |.Constant c _ _=>(YT c).map .lit
  |.BinOp a op b _=>do
   let o <-UG op
   let x <-F.e I a
   let y <-F.e I b
   ξ (.bin o x y)
  |.UnaryOp op a _=>(match op with
   |.USub=>(F.e I a).map .neg
   |.Not=>(F.e I a).map .not
   |_=>ψ)
  |.BoolOp op vs _=>F.bo I op vs
  |.Compare a ops bs _=>(match ops with
   |[op]=>(match bs with
    |[b]=>do
     let o <-SE op b
     let x <-F.e I a
     let y <-F.e I b
     ξ (.cmp o x y)
    |_=>ψ)
   |_=>ψ)
  |.IfExp t a b _=>do
   let c <-F.t I t
   let x <-F.e I a
   let y <-F.e I b
   ξ (.Fl c x y)
  |.Call f args kws cp=>(match f with
   |.Name f _=>(match kws with
    |[]=>if I.gl f&&f !=("__debug__":Str) then
      if f==("isinstance":Str)&&T.fP.contains "isinstance" then(match args with
       |[a,t]=>if !noStar a then ψ else do
        let x <-F.e I a
        (match YS T I t with
         |some y=>ξ (.DN x [y])
         |none=>ψ)
       |_=>ψ)
      else match P1 f with
      |some b=>(match (match args with|[a]=>P0 a|_=>ψ) with
       |some o=>if f==("list":Str)&&T.fP.contains "list"&&I.calm&&fK o then(F.e I o).map λx=>.mW .vals x .nil else ψ
       |none=>if (pick T.fP f).isSome && !args.isEmpty&&I.calm then(F.es I args).map (.blt b) else ψ)
      |none=>if !I.calm then ψ else match pick T.fns f with
       |some q=>(F.es I args).map (.call q)
       |none=>match pick T.qk f with
        |some q=>(F.es I args).map (.mk q (q++".__init__"))
        |none=>ψ
     else ψ
    |_::_=>ψ)
   |.Attribute o m ap=>if !(kws.isEmpty&&fK o&&ap.endLine==cp.line&&decide (args.length<20)&&I.calm) then ψ else
    match AD T.qm m with
    |some (q,k)=>do
     let x <-F.e I o
     let as <-F.es I args
     ξ (.cB k q (k++"."++q) x as)
    |none=>(match args with
     |[]=>if m==("bit_length":Str) then(F.e I o).map λx=>.mW .mU x .nil else ψ
     |a::as=>if m==("get":Str) then(match as with
       |[d]=>if noStar a&&noStar d then do
         let x <-F.e I o
         let y <-F.e I a
         let z <-F.e I d
         ξ (.mW .get x (.cons y (.cons z .nil)))
        else ψ
       |[]=>if noStar a then do
         let x <-F.e I o
         let y <-F.e I a
         ξ (.mW .get x (.cons y .nil))
        else ψ
       |_=>ψ)
      else match P2 (ixK o) m with
      |some b=>do
       let x <-F.e I o
       let as <-F.es I (a::as)
       ξ (.mW b x as)
      |none=>ψ)
   |_=>ψ)
  |.Attribute o f _=>if !fK o then ψ else do
   let q <-pick T.vm f
   let x <-F.e I o
   ξ (.fld x q)
  |.Subscript o i _=>if lS i then do
    let x <-F.e I o
    let y <-F.e I i
    ξ (if dkE i||HY o==ξ ("texts":Str) then .DO x y else .ix x y)
   else(match i with
   |.Slice lo hi st _=>(match st with
    |none=>do
     let x <-F.e I o
     let a <-F.o I lo
     let b <-F.o I hi
     ξ (.sl x a b)
    |some _=>ψ)
   |_=>ψ)
  |.Dict ks vs _=>(match ks with
   |[]=>(match vs with
    |[]=>ξ (.df .nil .nil)
    |_=>ψ)
   |[ξ k]=>(match vs with
    |[v]=>do
     let x <-F.e I k
     let y <-F.e I v
     ξ (.df (.cons x .nil) (.cons y .nil))
    |_=>ψ)
   |_=>ψ)
  |.List es _=>(F.es I es).map .lst
  |.Tuple es _ _=>(F.es I es).map .tup
  |.ListComp elt gs sc _=>(match gs with
   |[g]=>(match g with
    |⟨tg,iter,ifs,as⟩=>match LX tg with
     |some xs=>if vn I sc xs&&I.calm&&as==0 then do
       let it <-(match xs with
        |[_]=>F.i I iter
        |_=>F.n I iter)
       let cn:=iC I sc
       let J:Inf:=#[qY I sc.names,xs++cn,ζ]
       let c <-(match ifs with
        |[]=>ξ (PL.Tx.de (.lit (.bl ζ)))
        |[c]=>F.t J c
        |_=>ψ)
       let e <-F.e J elt
       let ci <-cn.mapM λy=>dr y I.N
       ξ (.comp (xs.length==2) e it c ci)
      else ψ
     |none=>ψ)
   |_=>ψ)
  |_=>ψ
abbrev HZ(F:CF)(I:Inf):List Expr->Option PL.vU
 |[]=>ξ .nil
 |e::es=>if !noStar e then ψ else do
  let x <-F.e I e
  let xs <-F.es I es
  ξ (.cons x xs)
abbrev H0(F:CF)(I:Inf)(op:BoolOp):List Expr->Option PL.Ex
 |[]=>ψ
 |[a]=>F.e I a
 |a::b::r=>do
  let x <-F.e I a
  let y <-F.bo I op (b::r)
  ξ (match op with|.And=>.and x y|.Or=>.or x y)
abbrev W0(F:CF)(I:Inf):Option Expr->Option PL.Ox
 |none=>ξ .no
 |some e=>(F.e I e).map .e
abbrev stI(T:Tab)(F:CF)(I:Inf)(e:Expr):Option PL.It:=match WZ e with
  |some (f,a)=>if f==("range":Str) then(if I.gl f&&T.fP.contains "range" then(F.e I a).map .range else ψ) else if f==("reversed":Str) then(if I.gl f&&T.fP.contains "reversed" then(F.e I a).map .rev else ψ) else(F.e I e).map .val
  |none=>if HY e==ξ ("row":Str) then(F.e I e).map .keys else(F.e I e).map .val
abbrev stN(T:Tab)(F:CF)(I:Inf)(e:Expr):Option PL.It:=match WZ e with
  |some (f,a)=>if f==("enumerate":Str)&&I.gl f&&T.fP.contains "enumerate"&&noStar a then(F.e I a).map .enum else ψ
  |none=>ψ
abbrev stT(F:CF)(I:Inf)(e:Expr):Option PL.Tx:=match e with
  |.UnaryOp .Not a _=>(F.t I a).map .not
  |.BoolOp op vs _=>F.tb I op vs
  |.IfExp ..=>ψ
  |.Compare a [op] [b] _=>do
   let o <-SE op b
   let x <-F.e I a
   let y <-F.e I b
   ξ (.de (.cmp o x y))
  |.Compare ..=>ψ
  |_=>(F.e I e).map .de
abbrev H8(F:CF)(I:Inf)(op:BoolOp):List Expr->Option PL.Tx
 |[]=>ψ
 |[a]=>F.t I a
 |a::b::r=>do
  let x <-F.t I a
  let y <-F.tb I op (b::r)
  ξ (match op with|.And=>.and x y|.Or=>.or x y)
abbrev qZ(T:Tab):Nat->CF
 |0=>#[λ_ _=>ψ,λ_ _=>ψ,λ_ _ _=>ψ,λ_ _=>ψ,λ_ _=>ψ,λ_ _=>ψ,λ_ _=>ψ,λ_ _ _=>ψ]
 |n+1=>#[SH T (qZ T n),HZ (qZ T n),H0 (qZ T n),W0 (qZ T n),stI T (qZ T n),stN T (qZ T n),stT (qZ T n),H8 (qZ T n)]
@[reducible]def cE(T:Tab)(n:Nat):Inf->Expr->Option PL.Ex:=(qZ T n).e
@[reducible]def SI(T:Tab)(n:Nat):Inf->List Expr->Option PL.vU:=(qZ T n).es
@[reducible]def W2(T:Tab)(n:Nat):Inf->BoolOp->List Expr->Option PL.Ex:=(qZ T n).bo
@[reducible]def cO(T:Tab)(n:Nat):Inf->Option Expr->Option PL.Ox:=(qZ T n).o
@[reducible]def cI(T:Tab)(n:Nat):Inf->Expr->Option PL.It:=(qZ T n).i
@[reducible]def cN(T:Tab)(n:Nat):Inf->Expr->Option PL.It:=(qZ T n).n
@[reducible]def cT(T:Tab)(n:Nat):Inf->Expr->Option PL.Tx:=(qZ T n).t
@[reducible]def W3(T:Tab)(n:Nat):Inf->BoolOp->List Expr->Option PL.Tx:=(qZ T n).tb
section
variable{T:Tab}{n:Nat}{I:Inf}{x:Expr}{xs:List Expr}{p:BoolOp}{y:Option Expr}
def UJ:cE T 0 I x=ψ:=rfl
def LY:cE T (n+1) I x=SH T (qZ T n) I x:=rfl
def N1:SI T 0 I xs=ψ:=rfl
def Ia:SI T (n+1) I xs=HZ (qZ T n) I xs:=rfl
def UK:W2 T 0 I p xs=ψ:=rfl
def Ib:W2 T (n+1) I p xs=H0 (qZ T n) I p xs:=rfl
def YU:cO T 0 I y=ψ:=rfl
def UL:cO T (n+1) I y=W0 (qZ T n) I y:=rfl
def YV:cI T 0 I x=ψ:=rfl
def YW:cI T (n+1) I x=stI T (qZ T n) I x:=rfl
def YX:cN T 0 I x=ψ:=rfl
def YY:cN T (n+1) I x=stN T (qZ T n) I x:=rfl
def YZ:cT T 0 I x=ψ:=rfl
def Y0:cT T (n+1) I x=stT (qZ T n) I x:=rfl
def UM:W3 T 0 I p xs=ψ:=rfl
def Ic:W3 T (n+1) I p xs=H8 (qZ T n) I p xs:=rfl
end
abbrev Y1(T:Tab)(n:Nat)(J:Inf)(ifs:List Expr):Option PL.Tx:=match ifs with
 |[]=>ξ (PL.Tx.de (.lit (.bl ζ)))
 |[c]=>cT T n J c
 |_=>ψ
def vo(h:cE T (n+1) I (.ListComp elt gs sc pos)=ξ x):
  ∃tg iter ifs xs it c ee ci,gs=[#[tg,iter,ifs,0]]/\LX tg=ξ xs/\(vn I sc xs=ζ/\I.calm=ζ)/\((∃y,xs=[y])/\cI T n I iter=ξ it\/(¬ ∃y,xs=[y])/\cN T n I iter=ξ it)/\Y1 T n #[qY I sc.names,xs++iC I sc,ζ] ifs=ξ c /\
   cE T n #[qY I sc.names,xs++iC I sc,ζ] elt=ξ ee/\(iC I sc).mapM (λy=>dr y I.N)=ξ ci/\x=.comp (xs.length==2) ee it c ci:=by
 rw[LY] at h
 delta SH at h
 dsimp only at h;split at h
 .rename_i g
  let#[tg,iter,ifs,as]:=g;dsimp only at h;split at h
  .rename_i xs ht
   split at h
   .rename_i hc
    dsimp[aw] at hc;dsimp[aM,ak] at h;let#[it,h1,c,h2,ee,h3,ci,h4,h5]:=h;injection h5 with h5
    have e0:as=0:=eq_of_beq hc.2;subst e0;refine#[tg,iter,ifs,xs,it,c,ee,ci,rfl,ht,hc.1,?_,h2,h3,h4,h5.symm];split at h1
    .erw[.inl #[#[_,rfl],h1]]
    .rename_i hn
     erw[.inr #[λ⟨y,e⟩=>hn y e,h1]]
   .erw[nn h]
  .erw[nn h]
 .erw[nn h]
def UN:∀e,(∃x p,e=Kc x p)\/(∃es k q,e=Expr.Tuple es k q)\/LX e=ψ:=by
 intro e;cases e<;>first|exact .inr (.inr rfl)|exact .inl #[_,_,rfl]|exact .inr (.inl #[_,_,_,rfl])
def Cy(h:LX tg=ξ xs):(∃x p,tg=.Name x p/\xs=[x])\/∃x y p p' k q,tg=.Tuple [.Name x p,.Name y p'] k q/\xs=[x,y]:=by
 rcases UN tg with⟨x,p,rfl⟩|⟨es,k,q,rfl⟩|e
 .erw[.inl #[x,p,rfl,(aG h).symm]]
 .cases es with
  |nil=>erw[nn h]
  |cons a es=>cases es with
   |nil=>erw[nn h]
   |cons b es=>cases es with
    |cons=>erw[nn h]
    |nil=>
     let#[x,h1,h]:=ak.mp h;let#[y,h2,h3]:=aj.mp h;let#[p,rfl]:=D3 h1;let#[p',rfl]:=D3 h2;erw[.inr #[x,y,p,p',k,q,rfl,h3.symm]]
 .erw[nn (e.symm.trans h)]
open PL (U SO bE Xn KU KX Spec bU)
abbrev vp:Option NameKind->Bool
 |some .local=>ζ
 |some .cell=>ζ
 |_=>ϑ
abbrev Cz:mK->Option PL.Gj
 |.Add=>ξ .add|.Sub=>ξ .sub|.BitOr=>ξ .bor|_=>ψ
abbrev Y2(s:Stmt)(r:List Stmt):Option (Str×List Expr):=match s with
 |.Raise ex ca _=>(match ex with
  |some c=>(match c with
   |.Call f args kws _=>(match f with
    |.Name y _=>(match ca with
     |some z=>(match z with
      |.Constant cc _ _=>(match cc with
       |.none=>if kws.isEmpty&&r.isEmpty then ξ (y,args) else ψ
       |_=>ψ)
      |_=>ψ)
     |none=>ψ)
    |_=>ψ)
   |_=>ψ)
  |none=>ψ)
 |_=>ψ
def LZ(h:Y2 s r=ξ (y,args)):∃p cp zj zp rp,s=.Raise (ξ (.Call (.Name y p) args [] cp)) (ξ (.Constant .none zj zp)) rp/\r=[]:=by
 cases s with
 |Raise ex ca rp=>
  cases ex with
  |none=>erw[nn h]
  |some c=>
   cases c with
   |Call f args' kws cp=>
    cases f with
    |Name y' p=>
     cases ca with
     |none=>erw[nn h]
     |some z=>
      cases z with
      |Constant cc zj zp=>
       cases cc with
       |none=>
        dsimp only[Y2] at h;split at h
        .rename_i hc
         rw[aw] at hc;have h1:kws=[]:=by simpa using hc.1
         have h2:r=[]:=by simpa using hc.2
         cases h;exact#[p,cp,zj,zp,rp,by rw[h1],h2]
        .erw[nn h]
       |_=>erw[nn h]
      |_=>erw[nn h]
    |_=>erw[nn h]
   |_=>erw[nn h]
 |_=>erw[nn h]
structure CG where
 s:Inf->Stmt->Option PL.Sm
 ss:Inf->List Stmt->Option PL.dj
abbrev Y3(T:Tab)(F:CF)(G:CG)(I:Inf)(s:Stmt):Option PL.Sm:=match s with
  |.Assign ts e _=>(match ts with
   |[t]=>(match t with
    |.Name x _=>(match dr x I.N with
     |some i=>if vp (I.names.lookup x) then(F.e I e).map (.set i) else ψ
     |none=>ψ)
    |.Attribute o f _=>do
     let q <-pick T.vm f
     let x <-F.e I o
     let y <-F.e I e
     ξ (.mm x q y)
    |.Subscript o i _=>if lS i&&dkE i then do
      let x <-F.e I o
      let k <-F.e I i
      let y <-F.e I e
      ξ (.mV x k y)
     else ψ
    |_=>ψ)
   |_=>ψ)
  |.AugAssign t op e _=>(match t with
   |.Name x _=>(match dr x I.N with
    |some i=>if vp (I.names.lookup x) then do
      let p <-Cz op
      let y <-F.e I e
      ξ (.aug i p y)
     else ψ
    |none=>ψ)
   |.Attribute o f _=>do
    let q <-pick T.vm f
    let p <-Cz op
    let x <-F.e I o
    let y <-F.e I e
    ξ (.Cn x q p y)
   |.Subscript o i _=>if lS i then do
     let p <-Cz op
     let x <-F.e I o
     let j <-F.e I i
     let y <-F.e I e
     ξ (.Fm x j p y)
    else ψ
   |_=>ψ)
  |.Expr e _=>if yX e then(F.e I e).map .ex else ψ
  |.Return e _=>(match e with
   |some e=>(F.e I e).map .ret
   |none=>ψ)
  |.If c a b _=>do
   let c <-F.t I c
   let a <-G.ss I a
   let b <-G.ss I b
   ξ (.ifs c a b)
  |.While c b el _=>if el.isEmpty then do
    let c <-F.t I c
    let b <-G.ss I b
    ξ (.Co c b)
   else ψ
  |.For tg it b el _=>if !(I.calm&&el.isEmpty) then ψ else(match LX tg with
   |some xs=>(match xs with
    |[x]=>(match dr x I.N with
     |some i=>if vp (I.names.lookup x) then do
       let it <-F.i I it
       let b <-G.ss I b
       ξ (.jN (.name i) it b)
      else ψ
     |none=>ψ)
    |[x,y]=>(match dr x I.N with
     |some i=>(match dr y I.N with
      |some j=>if vp (I.names.lookup x)&&vp (I.names.lookup y) then do
        let it <-F.n I it
        let b <-G.ss I b
        ξ (.jN (.pair i j) it b)
       else ψ
      |none=>ψ)
     |none=>ψ)
    |_=>ψ)
   |none=>ψ)
  |.Raise ex ca _=>(match ca with
   |some _=>ξ (.ex (.ix (.lit .bK) (.lit .bK)))
   |none=>(match ex with
    |some c=>(match c with
     |.Call f args kws _=>(match f with
      |.Name x _=>if kws.isEmpty&&I.gl x&&x !=("__debug__":Str)&&I.calm && !args.isEmpty then do
        let q <-pick T.tN x
        let as <-F.es I args
        if (PL.bN q).isEmpty then ψ else ξ (.raise q as)
       else ψ
      |_=>ψ)
     |_=>ψ)
    |none=>ψ))
  |.Try b hs el fi _=>(match hs with
   |[h]=>(match h with
    |.ExceptHandler ty nm bd _=>(match ty with
     |some c=>(match c with
      |.Name x _=>(match nm with
       |some y=>(match bd with
        |h0::h=>if el.isEmpty&&fi.isEmpty&&I.gl x&&x !=("__debug__":Str)&&I.calm&&I.names.lookup y==ξ .local then
          (match dr y I.N with
          |some i=>do
           let q <-pick T.tN x
           let b <-G.ss I b
           match Y2 h0 h with
           |some r=>(if I.gl r.1&&r.1 !=("__debug__":Str) && !r.2.isEmpty then do
             let q2 <-pick T.tN r.1
             let as <-F.es {I with calm:=ϑ} r.2
             if (PL.bN q2).isEmpty then ψ else ξ (.Uj b q i q2 as)
            else ψ)
           |none=>do
            let h <-G.ss {I with calm:=ϑ} (h0::h)
            ξ (.Pu b q i h)
          |none=>ψ)
         else ψ
        |[]=>ψ)
       |none=>ψ)
      |_=>ψ)
     |none=>ψ))
   |_=>ψ)
  |_=>ψ
abbrev L4(G:CG)(I:Inf):List Stmt->Option PL.dj
 |[]=>ξ .nil
 |s::ss=>do
  let x <-G.s I s
  let xs <-G.ss I ss
  ξ (.cons x xs)
abbrev FE(T:Tab):Nat->CG
 |0=>#[λ_ _=>ψ,λ_ _=>ψ]
 |n+1=>#[Y3 T (qZ T n) (FE T n),L4 (FE T n)]
@[reducible]def cS(T:Tab)(n:Nat):Inf->Stmt->Option PL.Sm:=(FE T n).s
@[reducible]def Kl(T:Tab)(n:Nat):Inf->List Stmt->Option PL.dj:=(FE T n).ss
def Y4:cS T 0 I x=ψ:=rfl
def Y5:cS T (n+1) I x=Y3 T (qZ T n) (FE T n) I x:=rfl
def UO:Kl T 0 I x=ψ:=rfl
def N2:Kl T (n+1) I x=L4 (FE T n) I x:=rfl
open PySem.Spec PyProof.Rows PySem.W
open PL (U SO bE Xn KU KX Spec bU)
structure Ctx where
 P:bj
 w:bL
 K:Frag
 mg:Str->Option Value
 base:Heap
 cls:String->Option Addr
 exc:String->Option Addr
noncomputable abbrev nm(s:String):Str:=bP s
abbrev xH(K:Frag)(H:Hp)(a:Addr)(vs:List V):Prop:=
 (∃o,H a=ξ (.pP o (.lst vs))) \/
  ∃(o:Obj)(its:Array Value)(n:Nat),K.lookup a=ξ o/\o.cls=.type "list"/\o.dict=ψ/\o.data=.seq its n/\its.size<=sizeLine/\Vals vs its.toList
def xH.sq{K:Frag}{H:Hp}{a:Addr}{vs:List V}(h:xH K H a vs):iy K H a vs:=by
 rcases h with⟨o,h⟩|h
 .erw[.inl (.inr #[o,h])]
 .erw[.inr h]
section
variable(c:Ctx)(ρ:List Addr)(H:Hp)
mutual
noncomputable def Rep:U->V->Prop
 |.bK,v=>v=.bK
 |.bl b,v=>v=.bl b
 |.int i,v=>v=.int i
 |.str l,v=>v=.str (tx l)
 |.tup us,v=>∃a vs,v=.ref a/\H a=ξ (.tup vs)/\aZ us vs
 |.loc n,v=>∃a,v=.ref a/\ρ[n]?=ξ a
 |.tL ns,v=>∃a,v=.ref a/\xH c.K H a (ns.map .int)
 |.tab kvs,v=>∃a,v=.ref a/\Pq c.K c.w.params a (kvs.map λp=>(tx p.1,V.str (tx p.2)))
 |.exc x us,v=>∃a d C fs,v=.ref a/\c.exc x=ξ C/\(∃fl,H a=ξ (.xc a (fl,.ref C) (ξ d)))/\H d=ξ (.xf d fs)/\fs.map (·.1)=(PL.bN x).map nm/\aZ us (fs.map (·.2))
noncomputable def aZ:List U->List V->Prop
 |[],vs=>vs=[]
 |u::us,vs=>∃v r,vs=v::r/\Rep u v/\aZ us r
end
abbrev tO(a:Addr):SO->Prop
 |.lst us=>∃vs,H a=ξ (.lst vs)/\aZ c ρ H us vs
 |.ins x fs=>∃C dx vs,c.cls x=ξ C/\H a=ξ (.ins C dx vs)/\vs.map (·.1)=(fs.map (·.1)).map nm/\aZ c ρ H (fs.map (·.2)) (vs.map (·.2))
 |.df kvs=>∃vs,H a=ξ (.dK vs)/\vs.length=kvs.length/\aZ c ρ H (kvs.map (·.1)) (vs.map λp=>kV p.1)/\aZ c ρ H (kvs.map (·.2)) (vs.map (·.2))
 |.pI kvs=>∃o vs,H a=ξ (.pP o (.dK vs))/\vs.length=kvs.length/\aZ c ρ H (kvs.map (·.1)) (vs.map λp=>kV p.1)/\aZ c ρ H (kvs.map (·.2)) (vs.map (·.2))
 |.r9 kvs=>∃vs,H a=ξ (.dT vs)/\vs.map (·.1)=kvs.map (λp=>p.1.map wA)/\aZ c ρ H (kvs.map (·.2)) (vs.map (·.2))
 |.vd kvs=>∃vs,H a=ξ (.dP vs)/\vs.map (·.1)=kvs.map (·.1)/\aZ c ρ H (kvs.map (·.2)) (vs.map (·.2))
structure b6(S:bE):Prop where
 len:ρ.length=S.length
 nd:ρ.Nodup
 at_:∀(n:Nat)(a:Addr)(o:SO),ρ[n]?=ξ a->S[n]?=ξ o->tO c ρ H a o
end
structure gu(ρ:List Addr)(H:Hp)(ρ':List Addr)(H':Hp):Prop where
 pre:∃more,ρ'=ρ++more
 new:∀b∈ρ',b∉ρ->H b=ψ
 fr:∀b o,H b=ξ o->b∉ρ->H' b=ξ o
 fz:∀b o vs,H b=ξ (.pP o (.dK vs))->H' b=ξ (.pP o (.dK vs))
section
variable{c:Ctx}{ρ ρ' ρ'':List Addr}{H H' H'':Hp}{S S':bE}
def gu.refl:gu ρ H ρ H:=#[#[[],#v[]],λ_ h n=>absurd h n,λ_ _ h _=>h,λ_ _ _ h=>h]
def gu.trans(a:gu ρ H ρ' H')(b:gu ρ' H' ρ'' H''):gu ρ H ρ'' H'':=by
 let#[m1,e1]:=a.pre;let#[m2,e2]:=b.pre;refine#[#[m1++m2,by rw[e2,e1,eJ]],λx hx nx=>?_,λx o h nx=>?_,λx o vs h=>b.fz x o vs (a.fz x o vs h)]
 .by_cases z:x∈ρ'
  .erw[a.new x z nx]
  .cases q:H x with
   |none=>rfl
   |some o=>erw[absurd (a.fr x o q nx) (by rw[b.new x hx z];simp)]
 .have q:=a.fr x o h nx
  by_cases z:x∈ρ'
  .erw[absurd (a.new x z nx) (by rw[h];simp)]
  .erw[b.fr x o q z]
def gu.get(a:gu ρ H ρ' H'){n:Nat}{b:Addr}(h:ρ[n]?=ξ b):ρ'[n]?=ξ b:=by
 let#[m,e]:=a.pre;rw[e,aq (by let#[h,_]:=ag.mp h;erw[h])]
 erw[h]
abbrev yY:HO->Bool
 |.lst _=>ζ
 |.ins _ _ _=>ζ
 |.dK _=>ζ
 |.dT _=>ζ
 |.dP _=>ζ
 |.pP _ (.dK _)=>ζ
 |_=>ϑ
abbrev P4:HO->Bool
 |.pP _ _=>ζ
 |_=>ϑ
def b6.obj(R:b6 c ρ H S)(h:b∈ρ):∃o,H b=ξ o/\yY o=ζ:=by
 let#[n,hn,e]:=qu h;have hn':n<S.length:=R.len▸hn;have q:=R.at_ n b S[n] (by rw[af hn,e]) (af hn');cases o:S[n] with
 |lst us=>rw[o] at q;let#[vs,h,_]:=q;exact#[_,h,rfl]
 |ins x fs=>rw[o] at q;let#[C,dx,vs,_,h,_]:=q;exact#[_,h,rfl]
 |df kvs=>rw[o] at q;let#[vs,h,_]:=q;exact#[_,h,rfl]
 |pI kvs=>rw[o] at q;let#[o',vs,h,_]:=q;exact#[_,h,rfl]
 |r9 kvs=>rw[o] at q;let#[vs,h,_]:=q;exact#[_,h,rfl]
 |vd kvs=>rw[o] at q;let#[vs,h,_]:=q;exact#[_,h,rfl]
def b6.not(R:b6 c ρ H S)(h:H b=ξ o)(q:yY o=ϑ):b∉ρ:=λz=>by
 let#[o',h',q']:=R.obj z;rw[h] at h';injection h' with e;subst e
 rw[q] at q';erw[Kd q']
def b6.FF(R:b6 c ρ H S)(h:H b=ψ):b∉ρ:=λz=>by
 let#[o',h',_]:=R.obj z;rw[h] at h';cases h'
mutual
theorem Rep.gG(p:∃more,ρ'=ρ++more)(k:∀b o,H b=ξ o->yY o=ϑ->H' b=ξ o):∀{u:U}{v:V},Rep c ρ H u v->Rep c ρ' H' u v
 |.bK,_,h=>by unfold Rep at h ⊢;erw[h]
 |.bl _,_,h=>by unfold Rep at h ⊢;erw[h]
 |.int _,_,h=>by unfold Rep at h ⊢;erw[h]
 |.str _,_,h=>by unfold Rep at h ⊢;erw[h]
 |.tup us,_,h=>by
  unfold Rep at h ⊢;let#[x,vs,e,hx,hs]:=h;exact#[x,vs,e,k x _ hx rfl,aZ.gG p k hs]
 |.loc n,_,h=>by
  unfold Rep at h ⊢;let#[x,e,hx]:=h;let#[m,rfl]:=p;exact#[x,e,by rw[aq (by let#[h,_]:=ag.mp hx;erw[h])];erw[hx]]
 |.tL ns,_,h=>by
  unfold Rep at h ⊢;let#[x,e,hx]:=h;rcases hx with⟨o,hx⟩|hx
  .exact#[x,e,.inl #[o,k x _ hx rfl]]
  .exact#[x,e,.inr hx]
 |.tab _,_,h=>by unfold Rep at h ⊢;erw[h]
 |.exc x us,_,h=>by
  unfold Rep at h ⊢;let#[b,d,C,fs,e,hC,hb,hd,hk,hs]:=h;exact#[b,d,C,fs,e,hC,hb.imp λ_ z=>k b _ z rfl,k d _ hd rfl,hk,aZ.gG p k hs]
theorem aZ.gG(p:∃more,ρ'=ρ++more)(k:∀b o,H b=ξ o->yY o=ϑ->H' b=ξ o):∀{us:List U}{vs:List V},aZ c ρ H us vs->aZ c ρ' H' us vs
 |[],_,h=>by unfold aZ at h ⊢;erw[h]
 |u::us,_,h=>by
  unfold aZ at h ⊢;let#[v,r,e,h1,h2]:=h;exact#[v,r,e,Rep.gG p k h1,aZ.gG p k h2]
end
def tO.gG(p:∃more,ρ'=ρ++more)(m:∀b o,H b=ξ o->yY o=ϑ->H' b=ξ o)(h:tO c ρ H b o)(k:H' b=H b):tO c ρ' H' b o:=by
 cases o with
 |lst us=>let#[vs,h1,h2]:=h;exact#[vs,k.trans h1,h2.gG p m]
 |ins x fs=>let#[C,dx,vs,h0,h1,h2,h3]:=h;exact#[C,dx,vs,h0,k.trans h1,h2,h3.gG p m]
 |df kvs=>let#[vs,h1,h2,h3,h4]:=h;exact#[vs,k.trans h1,h2,h3.gG p m,h4.gG p m]
 |pI kvs=>let#[o,vs,h1,h2,h3,h4]:=h;exact#[o,vs,k.trans h1,h2,h3.gG p m,h4.gG p m]
 |r9 kvs=>let#[vs,h1,h2,h3]:=h;exact#[vs,k.trans h1,h2,h3.gG p m]
 |vd kvs=>let#[vs,h1,h2,h3]:=h;exact#[vs,k.trans h1,h2,h3.gG p m]
def gu.Y6(R:b6 c ρ H S)(a:gu ρ H ρ' H'):∀b o,H b=ξ o->yY o=ϑ->H' b=ξ o:=λb o h q=>a.fr b o h (R.not h q)
def Rep.mono(R:b6 c ρ H S)(a:gu ρ H ρ' H')(h:Rep c ρ H u v):Rep c ρ' H' u v:=h.gG a.pre (a.Y6 R)
def aZ.mono(R:b6 c ρ H S)(a:gu ρ H ρ' H')(h:aZ c ρ H us vs):aZ c ρ' H' us vs:=h.gG a.pre (a.Y6 R)
def tO.mono(R:b6 c ρ H S)(a:gu ρ H ρ' H')(h:tO c ρ H b o)(k:H' b=H b):tO c ρ' H' b o:=h.gG a.pre (a.Y6 R) k
def yZ(hD:H D=ξ o)(q:yY o=ζ):∀b o,H b=ξ o->yY o=ϑ->upd H D ho b=ξ o:=λb o' h z=>by
 rw[a7]
 .erw[h]
 .intro e;subst e;rw[hD] at h;injection h with h;subst h;rw[q] at z;erw[Kd z]
def b6.AE(R:b6 c ρ H S)(ho:HO)(hD:H D=ξ o)(q:yY o=ζ)(n:D∉ρ):b6 c ρ (upd H D ho) S:=
 #[R.len,R.nd,λm b o' h1 h2=>(R.at_ m b o' h1 h2).gG #[[],#v[]] (yZ hD q) (a7 λe=>n (e▸ax h1))]
def b6.join(R:b6 c ρ H S)(n:D∉ρ)(h:tO c ρ H D o):b6 c (ρ++[D]) H (S++[o]):=by
 have p:∃more,ρ++[D]=ρ++more:=#[[D],rfl]
 refine#[by simp[R.len],?_,λm a o' h1 h2=>?_]
 .rw[dE]
  exact#[R.nd,#v[],λx hx y hy=>%[aX.mp hy|λe=>n (e▸hx)]]
 .by_cases z:m<ρ.length
  .rw[aq z] at h1
   rw[aq (R.len▸z)] at h2;exact(R.at_ m a o' h1 h2).gG p (λ_ _ h _=>h) rfl
  .have hz:m=ρ.length:=by
    let#[q,_]:=ag.mp h1;simp at q;omega
   subst hz;rw[aB (ar _),bQ] at h1;rw[R.len,aB (ar _),bQ] at h2;simp at h1 h2;rw[<-h1,<-h2];erw[h.gG p (λ_ _ h _=>h) rfl]
def gu.alloc(R:b6 c ρ H S)(hp:H p=ψ)(o:HO):gu ρ H (ρ++[p]) (upd H p o):=by
 refine#[#[[p],rfl],λb hb nb=>?_,λb o h nb=>?_,λb o vs h=>%[a7 (dk h hp)|h]]
 .rcases aT.mp hb with h|h
  .erw[absurd h nb]
  .rw[aX.mp h];erw[hp]
 .rw[a7 (dk h hp)];erw[h]
def b6.alloc(R:b6 c ρ H S)(hp:H p=ψ)(h:tO c (ρ++[p]) (upd H p ho) p o):b6 c (ρ++[p]) (upd H p ho) (S++[o]):=by
 have st:=gu.alloc R hp ho;refine#[by simp[R.len],?_,λn a o' h1 h2=>?_]
 .rw[dE]
  exact#[R.nd,#v[],λx hx y hy=>%[aX.mp hy|λe=>R.FF hp (e▸hx)]]
 .by_cases z:n<ρ.length
  .rw[aq z] at h1
   rw[aq (R.len▸z)] at h2;refine(R.at_ n a o' h1 h2).mono R st (a7 λe=>?_);erw[R.FF hp (e▸ax h1)]
  .have hz:n=ρ.length:=by
    let#[q,_]:=ag.mp h1;simp at q;omega
   subst hz;rw[aB (ar _),bQ] at h1;rw[R.len,aB (ar _),bQ] at h2;simp at h1 h2;rw[<-h1,<-h2];erw[h]
def gu.lay(R:b6 c ρ H S)(hp:H p=ψ)(o:HO):gu ρ H ρ (upd H p o):=
 #[#[[],#v[]],λ_ h n=>absurd h n,λb _ h _=>%[a7 (dk h hp)|h],λb o vs h=>%[a7 (dk h hp)|h]]
def b6.lay(R:b6 c ρ H S)(hp:H p=ψ)(o:HO):b6 c ρ (upd H p o) S:=
 #[R.len,R.nd,λn a o' h1 h2=>(R.at_ n a o' h1 h2).mono R (gu.lay R hp o) (a7 λe=>R.FF hp (e▸ax h1))]
def gu.put(h:a∈ρ)(hu:H a=ξ u)(nf:P4 u=ϑ)(o:HO):gu ρ H ρ (upd H a o):=
 #[#[[],#v[]],λ_ h n=>absurd h n,λb _ q nb=>by rw[a7 (show b≠a from λe=>nb (by rw[e];exact h))];exact q,
  λb o' vs q=>by rw[a7 λe=>by rw[e,hu] at q;injection q with q;rw[q] at nf;cases nf];erw[q]]
def b6.put(R:b6 c ρ H S)(ha:ρ[n]?=ξ a)(hu:H a=ξ u)(nf:P4 u=ϑ)(h:tO c ρ (upd H a ho) a o):b6 c ρ (upd H a ho) (S.set n o):=by
 have hm:=ax ha;refine#[by simp[R.len],R.nd,λm b o' h1 h2=>?_];by_cases z:m=n
 .subst z
  rw[ha] at h1;injection h1 with h1;subst h1
  have hl:m<S.length:=R.len▸(ag.mp ha).1;rw[ba hl] at h2;injection h2 with h2;subst h2;erw[h]
 .rw[ai (bI z)] at h2
  refine(R.at_ m b o' h1 h2).mono R (gu.put hm hu nf ho) (a7 λe=>z ?_);subst e;let#[l1,e1]:=ag.mp h1;let#[l2,e2]:=ag.mp ha;exact(J4 R.nd).mp (e1.trans e2.symm)
def aZ.len:∀{us:List U}{vs:List V},aZ c ρ H us vs->us.length=vs.length
 |[],_,h=>by unfold aZ at h;subst h;rfl
 |_::us,_,h=>by
  unfold aZ at h;let#[v,r,e,_,h2]:=h;subst e;rw[a5,a5,aZ.len h2]
def aZ.nil:aZ c ρ H [] []:=by unfold aZ;rfl
def aZ.cons(h:Rep c ρ H u v)(t:aZ c ρ H us vs):aZ c ρ H (u::us) (v::vs):=by unfold aZ;exact#[v,vs,rfl,h,t]
def aZ.app:∀{us ws:List U}{vs xs:List V},aZ c ρ H us vs->aZ c ρ H ws xs->aZ c ρ H (us++ws) (vs++xs)
 |[],_,_,_,h,k=>by unfold aZ at h;subst h;erw[k]
 |u::us,_,_,_,h,k=>by
  unfold aZ at h;let#[v,r,e,h1,h2]:=h;subst e;erw[aZ.cons h1 (aZ.app h2 k)]
def aZ.get:∀{us:List U}{vs:List V}{n:Nat}{u:U},aZ c ρ H us vs->us[n]?=ξ u->∃v,vs[n]?=ξ v/\Rep c ρ H u v
 |[],_,_,_,_,e=>by simp at e
 |u::us,_,n,_,h,e=>by
  unfold aZ at h;let#[v,r,e',h1,h2]:=h;subst e';cases n with
  |zero=>simp at e;subst e;exact#[v,rfl,h1]
  |succ n=>simp at e ⊢;erw[aZ.get h2 e]
def aZ.take:∀{us:List U}{vs:List V}(n:Nat),aZ c ρ H us vs->aZ c ρ H (us.take n) (vs.take n)
 |_,_,0,_=>by dsimp[List.take_zero];erw[aZ.nil]
 |[],_,_+1,h=>by unfold aZ at h;subst h;dsimp[List.take_nil];erw[aZ.nil]
 |u::us,_,n+1,h=>by
  unfold aZ at h;let#[v,r,e,h1,h2]:=h;subst e;erw[aZ.cons h1 (aZ.take n h2)]
def aZ.drop:∀{us:List U}{vs:List V}(n:Nat),aZ c ρ H us vs->aZ c ρ H (us.drop n) (vs.drop n)
 |_,_,0,h=>h
 |[],_,_+1,h=>by unfold aZ at h;subst h;dsimp[List.drop_nil];erw[aZ.nil]
 |u::us,_,n+1,h=>by
  unfold aZ at h;let#[v,r,e,h1,h2]:=h;subst e;erw[aZ.drop n h2]
end
open PL (U SO bE Xn KU KX Spec bU)
noncomputable abbrev Cx.at_(X:Cx)(pZ:List (Addr×Obj))(E:St->XK):Cx:={X with pn:=X.pn++pZ,xe:=Ua X pZ E}
section
variable{X:Cx}{pZ pins':List (Addr×Obj)}{E:St->XK}{σ:St}{H:Hp}{s:av}
def Cx.Ok.at_(ok:X.Ok):(X.at_ pZ E).Ok:=
 #[ok.mod,ok.kind,ok.glob,ok.blt,ok.above,ok.inj,ok.has,ok.NG,ok.hd,ok.frames,ok.Bs,ok.SS,ok.bs,ok.GQ,ok.z6,ok.BV,ok.pF,ok.Kj]
def Cx.Ok.oA(ok:(X.at_ pZ E).Ok):X.Ok:=
 #[ok.mod,ok.kind,ok.glob,ok.blt,ok.above,ok.inj,ok.has,ok.NG,ok.hd,ok.frames,ok.Bs,ok.SS,ok.bs,ok.GQ,ok.z6,ok.BV,ok.pF,ok.Kj]
def Inv.at_(I:Inv X pZ σ H s):Inv (X.at_ pZ E) [] σ H s:=
 #[I.ok.at_,I.os,I.bare,I.base,I.loc,I.cell,I.free,I.kP,λp hp=>I.pin p (~~~hp),I.ck,I.len]
def Inv.oA(I:Inv (X.at_ pZ E) pins' σ H s):Inv X pZ σ H s:=
 #[I.ok.oA,I.os,I.bare,I.base,I.loc,I.cell,I.free,I.kP,λp hp=>I.pin p (aT.mpr (.inl hp)),I.ck,I.len]
def vT.oA(h:vT (X.at_ pZ E) pins' H b):vT X pZ H b:=
 #[h.1,h.2.1,h.2.2.1,h.2.2.2.1,λp hp=>h.2.2.2.2 p (aT.mpr (.inl hp))]
def XE.oA(h:XE (X.at_ pZ E) pins' σ (E σ) e s):Ua X pZ E e s:=by
 let#[a,tb,cl,dx,H',e1,I,x,f,q]:=h;exact#[σ,a,tb,cl,dx,H',e1,I.oA,x,λb hb=>(f b hb).oA,q]
@[reducible]def atS(σ:St)(E:XK):St->XK:=λσ' cl dx H=>σ'=σ/\E cl dx H
def vq(σ:St)(E:XK):atS σ E σ=E:=by
 funext cl dx H
 erw[propext #[λh=>h.2,λh=>#[rfl,h]]]
def Ua.one{e:Value}{E:XK}(h:Ua X pZ (atS σ E) e s):XE X pZ σ E e s:=by
 let#[σ',a,tb,cl,dx,H',e1,I,x,f,q,w]:=h;subst q;exact#[a,tb,cl,dx,H',e1,I,x,f,w]
def EP.oA(h:EP (X.at_ pZ E) pins' σ Q u s):EP X pZ σ Q u s:=by
 let#[v,H',I,r,q]:=h;exact#[v,H',I.oA,r,q]
end
abbrev CB(X:Cx)(e:Expr)(t:XK->TT):Prop:=
 ∀(pZ:List (Addr×Obj))(s:av)(σ:St)(H:Hp)(Q:Bool->Hp->Prop)(E:XK),Inv X pZ σ H s->t E σ H Q->wpAny (aS X.prog X.w) X.A (isTrue e X.env (eval e X.env)) (TP X pZ σ Q) (XE X pZ σ E) s
abbrev y6(X:Cx)(es:List Expr)(t:XK->TA):Prop:=
 ∀(pos:Pos)(pZ:List (Addr×Obj))(s:av)(σ:St)(H:Hp)(Q:List V->Hp->Prop)(E:XK),Inv X pZ σ H s->t E σ H Q->wpAny (aS X.prog X.w) X.A (spliced (hV pos (bM es X.env))) (AP X pZ σ Q) (XE X pZ σ E) s
section
variable{X:Cx}{pZ:List (Addr×Obj)}{e:Expr}{es:List Expr}
def PE.imp(h:PE X e t)(q:∀σ H Q,t' σ H Q->t σ H Q):PE X e t':=λpZ s σ H Q I z=>h pZ s σ H Q I (q σ H Q z)
def PT.imp(h:PT X e t)(q:∀σ H Q,t' σ H Q->t σ H Q):PT X e t':=λpZ s σ H Q I z=>h pZ s σ H Q I (q σ H Q z)
def up(h:∀pZ E,PE (X.at_ pZ E) e (λσ H Q=>t (E σ) σ H Q)):dG X e t:=by
 intro pZ s σ H Q E I z;rwa[bg (h pZ (atS σ E) [] s σ H Q I.at_ (by show t (atS σ E σ) σ H Q;rw[vq];erw[z])) (λu s' q=>q.oA) λu s' q=>q.one]
def dn(h:dG (X.at_ pZ E) e t):PE (X.at_ pZ E) e (λσ H Q=>t (E σ) σ H Q):=by
 intro pins' s σ H Q I z;erw[bg (h pins' s σ H Q (E σ) I z) (λu s' q=>q) λu s' q=>q.oA]
def W4(h:∀pZ E,PT (X.at_ pZ E) e (λσ H Q=>t (E σ) σ H Q)):CB X e t:=by
 intro pZ s σ H Q E I z;rwa[bg (h pZ (atS σ E) [] s σ H Q I.at_ (by show t (atS σ E σ) σ H Q;rw[vq];erw[z])) (λu s' #[H',I',q]=>#[H',I'.oA,q]) λu s' q=>q.one]
def SJ(h:CB (X.at_ pZ E) e t):PT (X.at_ pZ E) e (λσ H Q=>t (E σ) σ H Q):=by
 intro pins' s σ H Q I z;erw[bg (h pins' s σ H Q (E σ) I z) (λu s' q=>q) λu s' q=>q.oA]
def upA(h:∀pZ E,PA (X.at_ pZ E) es (λσ H Q=>t (E σ) σ H Q)):y6 X es t:=by
 intro pos pZ s σ H Q E I z;rwa[bg (h pZ (atS σ E) pos [] s σ H Q I.at_ (by show t (atS σ E σ) σ H Q;rw[vq];erw[z])) (λu s' #[vs,H',I',r,q]=>#[vs,H',I'.oA,r,q]) λu s' q=>q.one]
def Bx(h:y6 (X.at_ pZ E) es t):PA (X.at_ pZ E) es (λσ H Q=>t (E σ) σ H Q):=by
 intro pos pins' s σ H Q I z;erw[bg (h pos pins' s σ H Q (E σ) I z) (λu s' q=>q) λu s' q=>q.oA]
end
structure iY(c:Ctx)(ρ:List Addr)(H:Hp)(env:PL.Env)(σ:St):Prop where
 len:env.length=σ.length
 at_:∀(i:Nat)u,env[i]?=ξ (ξ u)->∃v,σ[i]?=ξ (ξ v)/\Rep c ρ H u v
abbrev ExcAt(c:Ctx)(ρ:List Addr)(H:Hp)(x:Xn)(C d:Addr):Prop:=c.exc x.c=ξ C/\∃fs,H d=ξ (.xf d fs)/\fs.map (·.1)=(PL.bN x.c).map nm/\aZ c ρ H x.us (fs.map (·.2))
section
variable(c:Ctx)(ρ:List Addr)(H:Hp)
abbrev QV(QU:KU)(Q:VK):Prop:=∀u S' v H' ρ',QU u S'->gu ρ H ρ' H'->b6 c ρ' H' S'->Rep c ρ' H' u v->Q v H'
abbrev QB(QU:Bool->bE->Prop)(Q:Bool->Hp->Prop):Prop:=∀b S' H' ρ',QU b S'->gu ρ H ρ' H'->b6 c ρ' H' S'->Q b H'
abbrev QA(QU:List U->bE->Prop)(Q:List V->Hp->Prop):Prop:=∀us S' vs H' ρ',QU us S'->gu ρ H ρ' H'->b6 c ρ' H' S'->aZ c ρ' H' us vs->Q vs H'
abbrev QX(EU:KX)(E:XK):Prop:=∀x S' H' ρ' C d,EU x S'->gu ρ H ρ' H'->b6 c ρ' H' S'->ExcAt c ρ' H' x C d->E (x.f,.ref C) (ξ d) H'
end
section
variable{c:Ctx}{ρ ρ':List Addr}{H H':Hp}{S:bE}
def QV.later(q:QV c ρ H QU Q)(a:gu ρ H ρ' H'):QV c ρ' H' QU Q:=λu S' v H2 ρ2 h b R r=>q u S' v H2 ρ2 h (a.trans b) R r
def QB.later(q:QB c ρ H QU Q)(a:gu ρ H ρ' H'):QB c ρ' H' QU Q:=λu S' H2 ρ2 h b R=>q u S' H2 ρ2 h (a.trans b) R
def QX.later(q:QX c ρ H EU E)(a:gu ρ H ρ' H'):QX c ρ' H' EU E:=λx S' H2 ρ2 C d h b R r=>q x S' H2 ρ2 C d h (a.trans b) R r
def QV.now(q:QV c ρ H QU Q)(R:b6 c ρ H S)(h:QU u S)(r:Rep c ρ H u v):Q v H:=q u S v H ρ h .refl R r
def iY.later(h:iY c ρ H env σ)(R:b6 c ρ H S)(a:gu ρ H ρ' H'):iY c ρ' H' env σ:=
 #[h.len,λi u e=>by let#[v,h1,h2]:=h.at_ i u e;exact#[v,h1,h2.mono R a]]
end
section
variable(c:Ctx)(Γ:bU)
abbrev tE(x:PL.Ex):XK->TE:=λE σ H Q=>∃env ρ S QU EU,iY c ρ H env σ/\b6 c ρ H S/\PL.WE Γ x env S QU EU/\QV c ρ H QU Q/\QX c ρ H EU E
abbrev tT(x:PL.Tx):XK->TT:=λE σ H Q=>∃env ρ S QU EU,iY c ρ H env σ/\b6 c ρ H S/\PL.WT Γ x env S QU EU/\QB c ρ H QU Q/\QX c ρ H EU E
abbrev D6(x:PL.vU):XK->TA:=λE σ H Q=>∃env ρ S QU EU,iY c ρ H env σ/\b6 c ρ H S/\PL.tM Γ x env S QU EU/\QA c ρ H QU Q/\QX c ρ H EU E
end
open PL (U SO bE Xn KU KX Spec bU)
def rf(h:n<=1000000):n<=sizeLine:=aP h ⋯
section
variable{c:Ctx}{ρ:List Addr}{H:Hp}{S:bE}
def dW:Rep c ρ H .bK v↔v=.bK:=by unfold Rep;erw[j7]
def fL:Rep c ρ H (.bl b) v↔v=.bl b:=by unfold Rep;erw[j7]
def aR:Rep c ρ H (.int b) v↔v=.int b:=by unfold Rep;erw[j7]
def bz:Rep c ρ H (.str b) v↔v=.str (tx b):=by unfold Rep;erw[j7]
def dg:Rep c ρ H (.tup us) v↔∃a vs,v=.ref a/\H a=ξ (.tup vs)/\aZ c ρ H us vs:=by unfold Rep;erw[j7]
def dJ:Rep c ρ H (.loc n) v↔∃a,v=.ref a/\ρ[n]?=ξ a:=by unfold Rep;erw[j7]
def rg:Rep c ρ H (.tL ns) v↔∃a,v=.ref a/\xH c.K H a (ns.map .int):=by unfold Rep;erw[j7]
def ue:Rep c ρ H (.tab kvs) v↔∃a,v=.ref a/\Pq c.K c.w.params a (kvs.map λp=>(tx p.1,V.str (tx p.2))):=by unfold Rep;erw[j7]
def b6.lst(R:b6 c ρ H S)(h:S[n]?=ξ (.lst us))(r:Rep c ρ H (.loc n) v):∃a vs,v=.ref a/\ρ[n]?=ξ a/\H a=ξ (.lst vs)/\aZ c ρ H us vs:=by
 let#[a,e,ha]:=dJ.mp r;let#[vs,h1,h2]:=R.at_ n a _ ha h;exact#[a,vs,e,ha,h1,h2]
def b6.ins(R:b6 c ρ H S)(h:S[n]?=ξ (.ins x fs))(r:Rep c ρ H (.loc n) v):∃a C dx vs,v=.ref a/\ρ[n]?=ξ a/\c.cls x=ξ C/\H a=ξ (.ins C dx vs)/\vs.map (·.1)=(fs.map (·.1)).map nm/\aZ c ρ H (fs.map (·.2)) (vs.map (·.2)):=by
 let#[a,e,ha]:=dJ.mp r;let#[C,dx,vs,h0,h1,h2,h3]:=R.at_ n a _ ha h;exact#[a,C,dx,vs,e,ha,h0,h1,h2,h3]
def QV.FG(q:QV c ρ H QU Q)(R:b6 c ρ H S)(r:aZ c ρ H us vs)(h:QU (.loc S.length) (S++[.lst us]))(hp:H p=ψ):Q (.ref p) (upd H p (.lst vs)):=by
 have st:=gu.alloc R hp (.lst vs);have R':b6 c (ρ++[p]) (upd H p (.lst vs)) (S++[.lst us]):=R.alloc hp #[vs,a9,r.mono R st];rwa[q _ _ _ _ _ h st R' (dJ.mpr #[p,rfl,?_])];rw[<-R.len,aB (ar _),bQ];rfl
def QV.P5(q:QV c ρ H QU Q)(R:b6 c ρ H S)(r:aZ c ρ H us vs)(h:QU (.tup us) S)(hp:H p=ψ):Q (.ref p) (upd H p (.tup vs)):=by
 have st:=gu.lay R hp (.tup vs);erw[q _ _ _ _ _ h st (R.lay hp _) (dg.mpr #[p,vs,rfl,a9,r.mono R st])]
end
abbrev wx(c:Ctx)(o:PL.Gj):R2:=λx y H Q=>∃ux uy ρ S QU,Rep c ρ H ux x/\Rep c ρ H uy y/\b6 c ρ H S/\PL.kj o ux uy S QU/\QV c ρ H QU Q
abbrev L5:PL.Gj->mK
 |.add=>.Add|.sub=>.Sub|.mul=>.Mult|.fdiv=>.FloorDiv|.mod=>.Mod|.band=>.BitAnd|.bor=>.BitOr|.shl=>.LShift|.shr=>.RShift
section
variable{X:Cx}{c:Ctx}
def L6:hJ X (cF .Add) (wx c .add):=by
 x_go;let#[ux,uy,ρ,S,QU,hx,hy,R,w,q]:=h;cases ux<;>first|exact aJ w|skip
 .rename_i i
  let#[j,rfl,w]:=PL.f9.mp w;erw[OQ pZ s σ H x y v u Q I rx ry #[i,j,aR.mp hx,aR.mp hy,q.now R w (aR.mpr rfl)]]
 .rename_i a
  let#[b,rfl,w]:=PL.oV.mp w;erw[Fi pZ s σ H x y v u Q I rx ry #[a,b,bz.mp hx,bz.mp hy,rf w.1,q.now R w.2 (bz.mpr rfl)]]
 .rename_i us
  let#[ws,rfl,w]:=PL.LL.mp w;let#[a,vs,e1,h1,r1]:=dg.mp hx;let#[b,zs,e2,h2,r2]:=dg.mp hy;let#[#[w0,w1],w2]:=w;rwa[Le pZ s σ H x y v u Q I rx ry #[a,b,vs,zs,e1,e2,nB.of h1,nB.of h2,λe=>w0 ?_,rf (by rw[<-r1.len,<-r2.len];erw[w1]),λe=>?_,λ_ p hp=>?_]]
  .erw[fO (by rw[r1.len,e];rfl)]
  .have e3:ws=[]:=fO (by rw[r2.len,e];rfl)
   subst e3;rw[cb] at w2;rw[<-e1]
   erw[q.now R w2 hx]
  .erw[q.P5 R (r1.app r2) w2 hp]
 .rename_i m
  let#[n,rfl,w]:=PL.iF.mp w;let#[us,h1,w1]:=PL.cY.mp w;let#[ws,h2,w2,w3]:=PL.cY.mp w1;let#[a,vs,e1,_,g1,r1]:=R.lst h1 hx;let#[b,zs,e2,_,g2,r2]:=R.lst h2 hy;erw[Pe pZ s σ H x y v u Q I rx ry #[a,b,vs,zs,e1,e2,g1,g2,rf (by rw[<-r1.len,<-r2.len];exact w2),λp hp=>q.FG R (r1.app r2) w3 hp]]
def L7:hJ X (cF .Sub) (wx c .sub):=by
 x_go;let#[ux,uy,ρ,S,QU,hx,hy,R,w,q]:=h;let#[i,j,rfl,rfl,w]:=PL.j6 w;erw[OR pZ s σ H x y v u Q I rx ry #[i,j,aR.mp hx,aR.mp hy,q.now R w (aR.mpr rfl)]]
def L8:hJ X (cF .Mult) (wx c .mul):=by
 x_go;let#[ux,uy,ρ,S,QU,hx,hy,R,w,q]:=h;let#[i,j,rfl,rfl,w]:=PL.j6 w;erw[OS pZ s σ H x y v u Q I rx ry #[i,j,aR.mp hx,aR.mp hy,w.1,q.now R w.2 (aR.mpr rfl)]]
def Ie:hJ X (cF .FloorDiv) (wx c .fdiv):=by
 x_go;let#[ux,uy,ρ,S,QU,hx,hy,R,w,q]:=h;let#[i,j,rfl,rfl,w]:=PL.j6 w;erw[K0 pZ s σ H x y v u Q I rx ry #[i,j,aR.mp hx,aR.mp hy,w.1,q.now R w.2 (aR.mpr rfl)]]
def L9:hJ X (cF .Mod) (wx c .mod):=by
 x_go;let#[ux,uy,ρ,S,QU,hx,hy,R,w,q]:=h;let#[i,j,rfl,rfl,w]:=PL.j6 w;erw[OT pZ s σ H x y v u Q I rx ry #[i,j,aR.mp hx,aR.mp hy,w.1,q.now R w.2 (aR.mpr rfl)]]
def Ig:hJ X (cF .BitAnd) (wx c .band):=by
 x_go;let#[ux,uy,ρ,S,QU,hx,hy,R,w,q]:=h;let#[i,j,rfl,rfl,w]:=PL.j6 w;erw[OW pZ s σ H x y v u Q I rx ry #[i,j,aR.mp hx,aR.mp hy,by dsimp only;rw[tZ w.1.1 w.1.2];exact q.now R w.2 (aR.mpr rfl)]]
def Ma:hJ X (cF .BitOr) (wx c .bor):=by
 x_go;let#[ux,uy,ρ,S,QU,hx,hy,R,w,q]:=h;let#[i,j,rfl,rfl,w]:=PL.j6 w;erw[Tt pZ s σ H x y v u Q I rx ry #[i,j,aR.mp hx,aR.mp hy,by dsimp only;rw[Ct w.1.1 w.1.2];exact q.now R w.2 (aR.mpr rfl)]]
def Mb:hJ X (cF .LShift) (wx c .shl):=by
 x_go;let#[ux,uy,ρ,S,QU,hx,hy,R,w,q]:=h;let#[i,j,rfl,rfl,w]:=PL.j6 w;let#[#[w1,w2,w3,w4],w5]:=w;erw[OU pZ s σ H x y v u Q I rx ry #[i,j,aR.mp hx,aR.mp hy,#[w3,∅,∅],q.now R w5 (aR.mpr rfl)]]
def Mc:hJ X (cF .RShift) (wx c .shr):=by
 x_go;let#[ux,uy,ρ,S,QU,hx,hy,R,w,q]:=h;let#[i,j,rfl,rfl,w]:=PL.j6 w;erw[OV pZ s σ H x y v u Q I rx ry #[i,j,aR.mp hx,aR.mp hy,w.1.2,q.now R w.2 (aR.mpr rfl)]]
abbrev FH(c:Ctx)(o:PL.Gj):R2:=λx y H Q=>∃ux uy ρ S QU,Rep c ρ H ux x/\Rep c ρ H uy y/\b6 c ρ H S/\PL.yR o ux uy S QU/\QV c ρ H QU Q
def Ih:hJ X (gU .Add) (FH c .add):=by
 x_go;let#[ux,uy,ρ,S,QU,hx,hy,R,w,q]:=h;cases ux<;>first|exact aJ w|skip
 .rename_i i
  let#[j,rfl,w]:=PL.f9.mp w;erw[K1 pZ s σ H x y v u Q I rx ry #[i,j,aR.mp hx,aR.mp hy,q.now R w (aR.mpr rfl)]]
 .rename_i a
  let#[b,rfl,w]:=PL.oV.mp w;erw[Cg pZ s σ H x y v u Q I rx ry #[a,b,bz.mp hx,bz.mp hy,rf w.1,q.now R w.2 (bz.mpr rfl)]]
def Ii:hJ X (gU .Sub) (FH c .sub):=by
 x_go;let#[ux,uy,ρ,S,QU,hx,hy,R,w,q]:=h;cases ux<;>first|exact aJ w|skip
 rename_i i;let#[j,rfl,w]:=PL.f9.mp w;erw[K2 pZ s σ H x y v u Q I rx ry #[i,j,aR.mp hx,aR.mp hy,q.now R w (aR.mpr rfl)]]
def Ij:hJ X (gU .BitOr) (FH c .bor):=by
 x_go;let#[ux,uy,ρ,S,QU,hx,hy,R,w,q]:=h;cases ux<;>first|exact aJ w|skip
 rename_i i;let#[j,rfl,w]:=PL.f9.mp w;erw[OX pZ s σ H x y v u Q I rx ry #[i,j,aR.mp hx,aR.mp hy,by dsimp only;rw[Ct w.1.1 w.1.2];exact q.now R w.2 (aR.mpr rfl)]]
def Md:hJ X (cF (L5 o)) (wx c o):=by
 cases o
 .erw[L6]
 .erw[L7]
 .erw[L8]
 .erw[Ie]
 .erw[L9]
 .erw[Ig]
 .erw[Ma]
 .erw[Mb]
 .erw[Mc]
def y8(h:o=.add\/o=.sub\/o=.bor):hJ X (gU (L5 o)) (FH c o):=by
 rcases h with rfl|rfl|rfl
 .erw[Ih]
 .erw[Ii]
 .erw[Ij]
abbrev tP(c:Ctx)(o:PL.NQ):R2:=λx y H Q=>∃ux uy ρ S,Rep c ρ H ux x/\Rep c ρ H uy y/\b6 c ρ H S/\PL.ig o ux uy S λb=>Q (.bl b) H
end
mutual
noncomputable def jP:U->Dv
 |.bK=>.bK
 |.bl b=>.bl b
 |.int i=>.int i
 |.str l=>.str l
 |.tup us=>.tup (hU us)
 |_=>.bK
noncomputable def hU:List U->List Dv
 |[]=>[]
 |u::us=>jP u::hU us
end
section
variable{c:Ctx}{ρ:List Addr}{H:Hp}{S:bE}
mutual
theorem rh:∀{u:U}{v:V},PL.Fn u=ζ->Rep c ρ H u v->nE c.K H v (jP u)
 |.bK,_,_,h=>by unfold jP nE;erw[dW.mp h]
 |.bl _,_,_,h=>by unfold jP nE;erw[fL.mp h]
 |.int _,_,_,h=>by unfold jP nE;erw[aR.mp h]
 |.str _,_,_,h=>by unfold jP nE;erw[bz.mp h]
 |.tup us,_,d,h=>by
  unfold jP nE;let#[a,vs,e,h1,h2]:=dg.mp h;exact#[a,vs,e,nB.of h1,AF (by unfold PL.Fn at d;erw[d]) h2]
 |.loc _,_,d,_=>by cases d
 |.tL _,_,d,_=>by cases d
 |.tab _,_,d,_=>by cases d
 |.exc _ _,_,d,_=>by cases d
theorem AF:∀{us:List U}{vs:List V},PL.Av us=ζ->aZ c ρ H us vs->iQ c.K H vs (hU us)
 |[],_,_,h=>by unfold aZ at h;subst h;unfold hU iQ;trivial
 |u::us,_,d,h=>by
  unfold aZ at h;let#[v,r,e,h1,h2]:=h;subst e;unfold PL.Av at d;rw[aw] at d;unfold hU iQ;exact#[rh d.1 h1,AF d.2 h2]
end
end
mutual
theorem P6:∀u:U,PL.Fn u=ζ->(jP u).depth=PL.dep u
 |.bK,_=>by simp[jP,Dv.depth,PL.dep]
 |.bl _,_=>by simp[jP,Dv.depth,PL.dep]
 |.int _,_=>by simp[jP,Dv.depth,PL.dep]
 |.str _,_=>by simp[jP,Dv.depth,PL.dep]
 |.tup us,d=>by
  unfold jP Dv.depth PL.dep;rw[uf us (by unfold PL.Fn at d;erw[d])]
 |.loc _,d=>by cases d
 |.tL _,d=>by cases d
 |.tab _,d=>by cases d
 |.exc _ _,d=>by cases d
theorem uf:∀us:List U,PL.Av us=ζ->Dv.jZ (hU us)=PL.HF us
 |[],_=>by simp[hU,Dv.jZ,PL.HF]
 |u::us,d=>by
  unfold PL.Av at d;rw[aw] at d;unfold hU Dv.jZ PL.HF;rw[P6 u d.1,uf us d.2]
end
mutual
theorem Ik:∀x y:U,PL.Fn x=ζ->PL.Fn y=ζ->PL.tY x y=Bv (jP x) (jP y)
 |.tup us,y,d,d'=>by
  cases y with
  |tup ws=>erw[Il us ws d d']
  |_=>first|rfl|cases d'
 |.loc _,_,d,_|.tL _,_,d,_|.tab _,_,d,_|.exc _ _,_,d,_=>by cases d
 |.bK,y,_,d|.bl _,y,_,d|.int _,y,_,d|.str _,y,_,d=>by cases y<;>first|rfl|cases d
theorem Il:∀xs ys:List U,PL.Av xs=ζ->PL.Av ys=ζ->PL.LK xs ys=mS (hU xs) (hU ys)
 |[],y,_,_=>by cases y<;>rfl
 |_::_,[],_,_=>rfl
 |x::xs,y::ys,d,d'=>by
  have d:=(aw _ _).mp d;have d':=(aw _ _).mp d'
  change (PL.tY x y&&PL.LK xs ys)=(Bv (jP x) (jP y)&&mS (hU xs) (hU ys))
  rw[Ik x y d.1 d'.1,Il xs ys d.2 d'.2]
end
def P7:decide (V.str (tx a)=V.str (tx b))=(a==b):=by
 rw[cA]
 simp[DK]
def D7(t:PL.HG x y=ζ)(nt:PL.HH x=ζ)(hx:Rep c ρ H x v)(hy:Rep c ρ H y w):OZ v w=ζ/\decide (v=w)=PL.tY x y:=by
 cases x<;>first|exact ff nt|exact ff t| (cases y<;>first|exact ff t| ((first|rw[dW.mp hx]|rw[fL.mp hx]|rw[aR.mp hx]|rw[bz.mp hx]);(first|rw[dW.mp hy]|rw[fL.mp hy]|rw[aR.mp hy]|rw[bz.mp hy]);first|exact#[rfl,rfl]|exact#[rfl,BZ]|exact#[rfl,yD]|exact#[rfl,P7]))
section
variable{X:Cx}{c:Ctx}
def P8(hK:X.K=c.K)(hu:X.A.units+200<eF):hJ X (bB .Eq) (tP c .eq):=by
 x_go;let#[ux,uy,ρ,S,hx,hy,R,w0]:=h;have go:(PL.vV ux uy λb=>Q (.bl b) H)->wpAny (aS X.prog X.w) X.A (bB .Eq v u) (EP X pZ σ Q) X.xe s:=by
  intro hh;let#[#[t,d,d',z],w]:=hh;by_cases nt:PL.HH ux=ζ
  .let#[e1,e2]:=D7 t nt hx hy
   erw[Tu pZ s σ H x y v u Q I rx ry #[e1,by rw[e2];exact w]]
  .cases ux<;>first|exact absurd rfl nt|skip
   rename_i us;have g:=rh d hx;unfold jP at g;rwa[Pr hu pZ s σ H x y v u Q I rx ry #[hU us,jP uy,hK▸g,hK▸rh d' hy,?_,?_]]
   .rw[uf us (by unfold PL.Fn at d;erw[d])];unfold PL.dep at z;omega
   .have:=Ik (.tup us) uy d d'
    rw[show jP (.tup us)= .tup (hU us) from by simp[jP]] at this;rw[<-this];erw[w]
 erw[go w0]
def qo:∀{ts:List (List Nat)}{vs:List V},aZ c ρ H (ts.map .str) vs->vs=(ts.map tx).map .str
 |[],vs,h=>by unfold aZ at h;erw[h]
 |t::ts,vs,h=>by
  rw[aA] at h;unfold aZ at h;let#[v,r,rfl,h1,h2]:=h;rw[bz.mp h1,qo h2];rfl
def P9(hK:X.K=c.K)(hu:X.A.units+200<eF):hJ X (bB .NotEq) (tP c .ne):=by
 x_go;let#[ux,uy,ρ,S,hx,hy,R,w0]:=h;by_cases hl:∃m,ux=.loc m
 .let#[m,rfl]:=hl
  let#[n,ts,rfl,g1,g2,w]:=w0;let#[a,vs,e1,_,k1,k2]:=R.lst g1 hx;let#[b,ws,e2,_,k3,k4]:=R.lst g2 hy;rw[qo k2] at k1;rw[qo k4] at k3;erw[PD hu pZ s σ H x y v u Q I rx ry #[a,b,ts.map tx,e1,e2,iy.of k1,iy.of k3,w]]
 have w0:PL.Ul ux uy λb=>Q (.bl b) H:=by cases ux<;>first|exact w0|exact absurd #[_,rfl] hl
 let#[nt,#[t,d,d',z],w]:=w0;by_cases nt1:PL.HH ux=ζ
 .let#[e1,e2]:=D7 t nt1 hx hy
  erw[Tv pZ s σ H x y v u Q I rx ry #[e1,by rw[e2];exact w]]
 .cases ux<;>first|exact absurd rfl nt1|skip
  cases uy<;>first|exact ff nt|skip
  rename_i us us';have g:=rh d hx;have g':=rh d' hy;unfold jP at g g';rwa[Pz hu pZ s σ H x y v u Q I rx ry #[hU us,hU us',hK▸g,hK▸g',?_,?_]]
  .rw[uf us (by unfold PL.Fn at d;erw[d])];unfold PL.dep at z;omega
  .have:=Ik (.tup us) (.tup us') d d'
   rw[show jP (.tup us)= .tup (hU us) from by simp[jP],show jP (.tup us')= .tup (hU us') from by simp[jP]] at this;rw[show mS (hU us) (hU us')=Bv (.tup (hU us)) (.tup (hU us')) from rfl,<-this];erw[w]
end
open PL (U SO bE Xn KU KX Spec bU)
section
variable{X:Cx}{c:Ctx}
def Qa:hJ X (bB .Lt) (tP c .lt):=by
 x_go;let#[ux,uy,ρ,S,hx,hy,R,w]:=h;let#[i,j,rfl,rfl,w]:=PL.j6 w;erw[Tw pZ s σ H x y v u Q I rx ry #[_,_,aR.mp hx,aR.mp hy,w]]
def Qb:hJ X (bB .LtE) (tP c .le):=by
 x_go;let#[ux,uy,ρ,S,hx,hy,R,w]:=h;let#[i,j,rfl,rfl,w]:=PL.j6 w;erw[TB pZ s σ H x y v u Q I rx ry #[_,_,aR.mp hx,aR.mp hy,w]]
def Qc:hJ X (bB .Gt) (tP c .gt):=by
 x_go;let#[ux,uy,ρ,S,hx,hy,R,w]:=h;let#[i,j,rfl,rfl,w]:=PL.j6 w;erw[TC pZ s σ H x y v u Q I rx ry #[_,_,aR.mp hx,aR.mp hy,w]]
def Qd:hJ X (bB .GtE) (tP c .ge):=by
 x_go;let#[ux,uy,ρ,S,hx,hy,R,w]:=h;let#[i,j,rfl,rfl,w]:=PL.j6 w;erw[TF pZ s σ H x y v u Q I rx ry #[_,_,aR.mp hx,aR.mp hy,w]]
def xI(h:Rep c ρ H u v):decide (v=V.bK)=PL.sX u:=by
 cases u with
 |bK=>rw[dW.mp h];rfl
 |bl b=>rw[fL.mp h];rfl
 |int i=>rw[aR.mp h];rfl
 |str l=>rw[bz.mp h];rfl
 |tup us=>let#[a,vs,e,_]:=dg.mp h;rw[e];rfl
 |loc n=>let#[a,e,_]:=dJ.mp h;rw[e];rfl
 |tL ns=>let#[a,e,_]:=rg.mp h;rw[e];rfl
 |tab kvs=>let#[a,e,_]:=ue.mp h;rw[e];rfl
 |exc x us=>unfold Rep at h;let#[a,d,C,fs,e,_]:=h;rw[e];rfl
def Qe:hJ X (bB .Is) (tP c .HE):=by
 x_go;let#[ux,uy,ρ,S,hx,hy,R,w]:=h;have e:uy=.bK:=by cases uy<;>first|rfl|exact aJ w
 subst e;rw[PL.Yg] at w;erw[O0 pZ s σ H x y v u Q I rx ry #[dW.mp hy,by rw[xI hx];exact w]]
def Im:hJ X (bB .IsNot) (tP c .Ck):=by
 x_go;let#[ux,uy,ρ,S,hx,hy,R,w]:=h;have e:uy=.bK:=by cases uy<;>first|rfl|exact aJ w
 subst e;rw[PL.PX] at w;erw[K3 pZ s σ H x y v u Q I rx ry #[dW.mp hy,by rw[xI hx];exact w]]
def kZ(f:PL.flat u=ζ)(h:Rep c ρ H u v):kR v=ζ:=by
 cases u<;>first|exact ff f| (rw[dW.mp h];rfl)| (rw[fL.mp h];rfl)| (rw[aR.mp h];rfl)| (rw[bz.mp h];rfl)
def y9(f:PL.flat u=ζ)(f':PL.flat u'=ζ)(h:Rep c ρ H u v)(h':Rep c ρ H u' v'):Bu v v'=PL.tY u u':=by
 cases u<;>first|exact ff f| (cases u'<;>first|exact ff f'| ((first|rw[dW.mp h]|rw[fL.mp h]|rw[aR.mp h]|rw[bz.mp h]);(first|rw[dW.mp h']|rw[fL.mp h']|rw[aR.mp h']|rw[bz.mp h']);first|rfl|exact cA.mpr (by rename_i a b;show(tx a==tx b)=ζ↔(a==b)=ζ;simp[NP])))
def nh(f:PL.flat u=ζ)(h:Rep c ρ H u v):∀{us:List U}{vs:List V},us.all PL.flat=ζ->aZ c ρ H us vs->vs.all kR=ζ/\WC v vs=us.any λy=>PL.tY y u
 |[],_,_,r=>by unfold aZ at r;subst r;exact#[rfl,rfl]
 |w::us,_,a,r=>by
  unfold aZ at r;let#[x,t,e,h1,h2]:=r;subst e;rw[bH,aw] at a;let#[z1,z2]:=nh f h a.2 h2;refine#[by rw[bH,kZ a.1 h1,z1];rfl,?_];unfold WC at z2 ⊢;rw[dQ,dQ,z2,y9 a.1 f h1 h]
def lookup_tab{kvs:List (List Nat×List Nat)}{k v:List Nat}(h:kvs.lookup k=ξ v):(kvs.map λp=>(tx p.1,V.str (tx p.2))).lookup (tx k)=ξ (V.str (tx v)):=by
 induction kvs with
 |nil=>cases h
 |cons p r ih=>
  let#[a,b]:=p;rw[aA,aQ]
  rw[aQ] at h;by_cases e:k=a
  .subst e
   simp at h ⊢;erw[h]
  .have e2:(k==a)=ϑ:=by simp[e]
   have e3:(tx k==tx a)=ϑ:=by
    rw[beq_eq_false_iff_ne];erw[λz=>e (qi z)]
   rw[e2] at h;dsimp[e3];erw[ih h]
def AG{kvs:List (List Nat×List Nat)}{k:List Nat}(h:kvs.lookup k=ψ):(kvs.map λp=>(tx p.1,V.str (tx p.2))).lookup (tx k)=ψ:=by
 induction kvs with
 |nil=>rfl
 |cons p r ih=>
  rw[aQ] at h;rw[aA,aQ]
  cases z:k==p.1 with
  |true=>rw[z] at h;cases h
  |false=>
   rw[z] at h;have:(tx k==tx p.1)=ϑ:=by
    rw[beq_eq_false_iff_ne] at z ⊢;erw[λe=>z (qi e)]
   rw[this]
   erw[ih h]
def Qf(hK:X.K=c.K)(hP:X.w.params=c.w.params):hJ X (bB .In) (tP c .isin):=by
 x_go;let#[ux,uy,ρ,S,hx,hy,R,w]:=h;cases uy with
 |str b=>
  let#[a,rfl,w]:=PL.oV.mp w;erw[Fo pZ s σ H x y v u Q I rx ry #[a,b,bz.mp hx,bz.mp hy,w]]
 |tab kvs=>
  let#[k,rfl,w]:=PL.oV.mp w;let#[a,e,h1]:=ue.mp hy;have w:Q (.bl (kvs.lookup k).isSome) H:=w;have ex:=h1.ex;rw[<-hK,<-hP] at ex;cases z:kvs.lookup k with
  |some t=>
   let#[u',_,e2]:=h1.at_ _ _ (lookup_tab z);exact HJ pZ s σ H x y v u Q I rx ry #[a,_,ξ u',bz.mp hx,e,ex,h1.ns,hK▸e2,by rw[z] at w;erw[w]]
  |none=>
   have e2:=h1.no _ (AG z);exact HJ pZ s σ H x y v u Q I rx ry #[a,_,ψ,bz.mp hx,e,ex,h1.ns,hK▸e2,by rw[z] at w;erw[w]]
 |tup us=>
  rw[PL.PQ] at w;let#[#[f,a],w]:=w;let#[p,vs,e,h1,h2]:=dg.mp hy;let#[z1,z2]:=nh f hx a h2;erw[xt pZ s σ H x y v u Q I rx ry #[p,vs,e,.inr (nB.of h1),kZ f hx,z1,by rw[z2];exact w]]
 |loc n=>
  rw[PL.PV] at w;let#[us,g,#[f,a],w]:=PL.cY.mp w;let#[p,vs,e,_,h1,h2]:=R.lst g hy;let#[z1,z2]:=nh f hx a h2;erw[xt pZ s σ H x y v u Q I rx ry #[p,vs,e,.inl (iy.of h1),kZ f hx,z1,by rw[z2];exact w]]
 |_=>erw[aJ w]
def FI(hK:X.K=c.K)(hu:X.A.units+200<eF):hJ X (bB .NotIn) (tP c .pR):=by
 x_go;let#[ux,uy,ρ,S,hx,hy,R,w]:=h;cases uy with
 |str b=>
  let#[a,rfl,w]:=PL.oV.mp w;erw[yT pZ s σ H x y v u Q I rx ry #[a,b,bz.mp hx,bz.mp hy,w]]
 |tup us=>
  rw[PL.PU] at w;let#[#[f,a],w]:=w;let#[p,vs,e,h1,h2]:=dg.mp hy;let#[z1,z2]:=nh f hx a h2;erw[qK pZ s σ H x y v u Q I rx ry #[p,vs,e,.inr (nB.of h1),kZ f hx,z1,by rw[z2];exact w]]
 |loc n=>
  have w:PL.getL S[n]? λus=>PL.sf ux us λb=>Q (.bl !b) H:=w
  let#[us,g,#[f,a],w]:=PL.cY.mp w;let#[p,vs,e,_,h1,h2]:=R.lst g hy;let#[z1,z2]:=nh f hx a h2;erw[qK pZ s σ H x y v u Q I rx ry #[p,vs,e,.inl (iy.of h1),kZ f hx,z1,by rw[z2];exact w]]
 |_=>erw[aJ w]
abbrev vt:U->Key
 |.int i=>.inl i
 |.str l=>.inr (ξ (tx l))
 |_=>.inr ψ
section
variable{ρ:List Addr}{H:Hp}{S:bE}
def jL(hk:PL.lY u=ζ)(r:Rep c ρ H u v):v=kV (vt u):=by
 cases u<;>first|exact ff hk|skip
 .erw[dW.mp r]
 .erw[aR.mp r]
 .erw[bz.mp r]
def Me(r:Rep c ρ H a (kV b)):PL.lY a=ζ/\vt a=b:=by
 have nr:∀p,kV b≠V.ref p:=λp=>by rcases b with i|_|x<;>exact λe=>nomatch e
 cases a<;>unfold Rep at r
 .rcases b with i|_|x<;>cases r;exact#[rfl,rfl]
 .rcases b with i|_|x<;>cases r
 .rcases b with i|_|x<;>cases r;exact#[rfl,rfl]
 .rcases b with i|_|x<;>cases r;exact#[rfl,rfl]
 .let#[p,_,e,_]:=r;erw[absurd e (nr p)]
 .let#[p,e,_]:=r;erw[absurd e (nr p)]
 .let#[p,e,_]:=r;erw[absurd e (nr p)]
 .let#[p,e,_]:=r;erw[absurd e (nr p)]
 .let#[p,_,_,_,e,_]:=r;erw[absurd e (nr p)]
def D8(ha:PL.lY a=ζ)(hu:PL.lY u=ζ):PL.NU a u=ζ↔vt a=vt u:=by
 cases a<;>first|exact ff ha| (cases u<;>first|exact ff hu|skip)
 .exact#[λ_=>rfl,λ_=>rfl]
 .exact#[λe=>ff e,λe=>by cases e]
 .exact#[λe=>ff e,λe=>by cases e]
 .exact#[λe=>ff e,λe=>by cases e]
 .exact#[λe=>congrArg wA (eq_of_beq e),λe=>beq_iff_eq.mpr (zL e)]
 .exact#[λe=>ff e,λe=>by cases e]
 .exact#[λe=>ff e,λe=>by cases e]
 .exact#[λe=>ff e,λe=>by cases e]
 .exact#[λe=>by rw[eq_of_beq e],λe=>beq_iff_eq.mpr (qi (aG (sJ e)))]
def rj(hu:PL.lY u=ζ):∀{kvs:List (U×U)}{vs:List (Key×V)},vs.length=kvs.length->aZ c ρ H (kvs.map (·.1)) (vs.map λp=>kV p.1)->aZ c ρ H (kvs.map (·.2)) (vs.map (·.2)) ->
  (PL.se u kvs=ψ/\jk vs (vt u)=ψ)\/∃u' v',PL.se u kvs=ξ u'/\jk vs (vt u)=ξ v'/\Rep c ρ H u' v':=by
 intro kvs;induction kvs with
 |nil=>intro vs hl _ _;cases vs with|nil=>erw[.inl #[rfl,rfl]]|cons _ _=>cases hl
 |cons p ps ih=>
  intro vs hl h1 h2;let#[a,w]:=p;cases vs with|nil=>cases hl|cons p vs=>?_
  let#[b,y]:=p;dsimp[aA] at h1 h2;unfold aZ at h1 h2;let#[v1,r1,e1,p1,q1]:=h1;let#[v2,r2,e2,p2,q2]:=h2;cases e1;cases e2;let#[ka,rfl]:=Me p1;unfold PL.se;by_cases ek:PL.NU a u=ζ
  .rw[if_pos ek,kU ((D8 ka hu).mp ek)]
   erw[.inr #[w,y,rfl,rfl,p2]]
  .rw[if_neg ek,kW λz=>ek ((D8 ka hu).mpr z)]
   erw[ih (mF hl) q1 q2]
def b6.dd(R:b6 c ρ H S)(e:S[n]?=ξ (.df kvs)\/S[n]?=ξ (.pI kvs))(r:Rep c ρ H (.loc n) v):
  ∃a vs,v=.ref a/\ρ[n]?=ξ a/\Rd H a (.dK vs)/\vs.length=kvs.length/\aZ c ρ H (kvs.map (·.1)) (vs.map λp=>kV p.1)/\aZ c ρ H (kvs.map (·.2)) (vs.map (·.2)):=by
 let#[a,ev,ha]:=dJ.mp r;rcases e with e|e
 .let#[vs,h1,h2]:=R.at_ n a _ ha e
  exact#[a,vs,ev,ha,.inl h1,h2]
 .let#[o,vs,h1,h2]:=R.at_ n a _ ha e
  exact#[a,vs,ev,ha,.inr #[o,h1],h2]
end
def Io(hu:X.A.units+200<eF):hJ X (bB .NotIn) (tP c .Cm):=by
 x_go;let#[ux,uy,ρ,S,hx,hy,R,w]:=h;let#[n,rfl,w]:=PL.iF.mp (show PL.sd _ _ from w);let#[kvs,e,hk,w]:=PL.iV.mp w;let#[a,vs,rfl,_,g1,g2,g3,g4]:=R.dd e hy;cases (show u=aL a from ry);have g:rX H a x (jk vs (vt ux)):=.inl #[vs,vt ux,g1,jL hk hx,rfl];rwa[Lk ∅ I g rx λs' I'=>#[.bl _,H,I',rfl,?_]]
 rcases rj hk g2 g3 g4 with⟨l1,l2⟩|⟨u',v',l1,l2,_⟩<;>rw[l1] at w<;>rw[l2]<;>exact w
abbrev D9:PL.NQ->CmpOp
 |.eq=>.Eq|.ne=>.NotEq|.lt=>.Lt|.le=>.LtE|.gt=>.Gt|.ge=>.GtE|.isin=>.In|.pR=>.NotIn|.HE=>.Is|.Ck=>.IsNot|.Cm=>.NotIn
def Ea(hK:X.K=c.K)(hP:X.w.params=c.w.params)(hu:X.A.units+200<eF)(o:PL.NQ):hJ X (bB (D9 o)) (tP c o):=by
 cases o
 .erw[P8 hK hu]
 .erw[P9 hK hu]
 .erw[Qa]
 .erw[Qb]
 .erw[Qc]
 .erw[Qd]
 .erw[Qf hK hP]
 .erw[FI hK hu]
 .erw[Qe]
 .erw[Im]
 .erw[Io hu]
abbrev Y7(c:Ctx):R2:=λx y H Q=>∃ux uy ρ S,Rep c ρ H ux x/\Rep c ρ H uy y/\b6 c ρ H S/\PL.DQ ux uy S λu=>∀v,Rep c ρ H u v->Q v H
def CC(r:aZ c ρ H us vs)(h:PL.si us i=ξ u):∃v,O9 vs i=ξ v/\Rep c ρ H u v:=by
 unfold PL.si at h;unfold O9;have e:O8 vs.length i=PL.Px us.length i:=by rw[r.len];rfl
 rw[e]
 cases q:PL.Px us.length i with
 |none=>rw[q] at h;cases h
 |some j=>
  rw[q] at h;erw[r.get h]
def xJ:∀{ns:List Int},aZ c ρ H (ns.map .int) (ns.map V.int)
 |[]=>aZ.nil
 |n::ns=>aZ.cons (aR.mpr rfl) xJ
def Qg(hK:X.K=c.K)(hP:X.w.params=c.w.params):Sw X (Y7 c):=by
 intro value slice pZ s σ H x y v u Q I rx ry h hs;let#[ux,uy,ρ,S,hx,hy,R,w]:=h;cases ux<;>first|exact aJ w|skip
 .rename_i l
  let#[i,rfl,w]:=PL.f9.mp w;let#[w1,w2]:=w;let#[k,g,w3]:=PL.gM.mp w2;erw[Pb value slice pZ s σ H x y v u Q I rx ry #[_,i,k,bz.mp hx,aR.mp hy,rf (by rw[ja];exact w1),g,w3 _ (bz.mpr rfl)] hs]
 .rename_i us
  let#[i,rfl,w]:=PL.f9.mp w;let#[w1,w2]:=w;let#[k,g,w3]:=PL.gM.mp w2;let#[p,vs,e,h1,h2]:=dg.mp hx;let#[z,e2,r2]:=CC h2 g;erw[Pa value slice pZ s σ H x y v u Q I rx ry #[p,vs,i,z,e,aR.mp hy,nB.of h1,e2,w3 _ r2] hs]
 .rename_i n
  let#[i,rfl,w]:=PL.f9.mp w;let#[us,g0,w1]:=PL.cY.mp w;let#[k,g,w3]:=PL.gM.mp w1;let#[p,vs,e,_,h1,h2]:=R.lst g0 hx;let#[z,e2,r2]:=CC h2 g;erw[DG value slice pZ s σ H x y v u Q I rx ry #[p,vs,i,z,e,aR.mp hy,iy.of h1,e2,w3 _ r2] hs]
 .rename_i ns
  let#[i,rfl,w]:=PL.f9.mp w;let#[w1,w2]:=w;let#[k,g,w3]:=PL.gM.mp w2;let#[p,e,h1]:=rg.mp hx;have g':PL.si (ns.map U.int) i=ξ (.int k):=by
   unfold PL.si at g ⊢;rw[ah]
   cases q:PL.Px ns.length i with
   |none=>rw[q] at g;erw[nn g]
   |some j=>rw[q] at g;simp at g ⊢;erw[g]
  let#[z,e2,r2]:=CC (c:=c) (ρ:=ρ) (H:=H) xJ g';erw[DG value slice pZ s σ H x y v u Q I rx ry #[p,_,i,z,e,aR.mp hy,hK▸h1.sq,e2,w3 _ r2] hs]
 .rename_i kvs
  let#[k,rfl,w]:=PL.oV.mp w;let#[z,g,w3]:=PL.gM.mp w;let#[a,e,h1]:=ue.mp hx;erw[Cj value slice pZ s σ H x y v u Q I rx ry #[a,_,_,_,e,bz.mp hy,by rw[hK,hP];exact h1,lookup_tab g,w3 _ (bz.mpr rfl)] hs]
abbrev Y8(c:Ctx):V->Option Int->Option Int->Hp->VK->Prop:=λx lo hi H Q=>∃ux ρ S QU,Rep c ρ H ux x/\b6 c ρ H S/\PL.SA ux lo hi S QU/\QV c ρ H QU Q
def Qh{lo:Option Int}{n:Nat}(h:∀i,lo=ξ i->0<=i):HT.wk n 0 lo=min (lo.getD 0).toNat n:=by
 cases lo with
 |none=>simp[HT.wk]
 |some i=>have:=h i rfl;dsimp[HT.wk,gZ];rw[if_neg ∅]
def Qi(h:∀i,hi=ξ i->0<=i):HT.wk n n hi=min (hi.getD n).toNat n:=by
 cases hi with
 |none=>simp[HT.wk]
 |some i=>have:=h i rfl;dsimp[HT.wk,gZ];rw[if_neg ∅]
def Mf{ρ:List Addr}{H:Hp}{us:List U}{vs:List V}{lo hi:Option Int}(h1:∀i,lo=ξ i->0<=i)(h2:∀i,hi=ξ i->0<=i)(r:aZ c ρ H us vs):aZ c ρ H (PL.sj us lo hi) (E7 vs lo hi):=by
 unfold PL.sj E7;rw[Qh h1,Qi h2,<-r.len]
 exact(r.drop _).take _
def Qj(hK:X.K=c.K):WB X (Y8 c):=by
 intro pZ s σ H x v vl vu lo hi sl Q I rx hs pl pu h;let#[ux,ρ,S,QU,hx,R,#[#[b1,b2],w],q]:=h;cases ux<;>try exact aJ w
 .rename_i l
  let#[w1,w2]:=w;rwa[Uh pZ s σ H x v vl vu lo hi sl Q I rx hs pl pu #[l,min (lo.getD 0).toNat l.length,min (hi.getD l.length).toNat l.length,bz.mp hx,rf w1,?_,?_,q.now R w2 (bz.mpr rfl)]]
  .cases lo with
   |none=>erw[.inl #[rfl,#v[]]]
   |some a=>erw[.inr #[a,rfl,b1 a rfl,rfl]]
  .cases hi with
   |none=>erw[.inl #[rfl,#v[]]]
   |some a=>erw[.inr #[a,rfl,b2 a rfl,rfl]]
 .rename_i n
  let#[us,g0,w1]:=PL.cY.mp w;let#[a,vs,e,_,g1,g2]:=R.lst g0 hx;erw[Lf pZ s σ H x v vl vu lo hi sl Q I rx hs pl pu #[a,vs,e,iy.of g1,λp hp=>q.FG R (Mf b1 b2 g2) w1 hp]]
end
open PL (U SO bE Xn KU KX Spec bU)
abbrev tf(c:Ctx)(b:PL.Ui):List V->Hp->VK->Prop:=λxs H Q=>∃us ρ S QU,aZ c ρ H us xs/\b6 c ρ H S/\PL.sk b us S QU/\QV c ρ H QU Q
abbrev tj(c:Ctx)(m:PL.NR):V->List V->Hp->VK->Prop:=λx xs H Q=>∃u us ρ S QU,Rep c ρ H u x/\aZ c ρ H us xs/\b6 c ρ H S/\PL.pJ m u us S QU/\QV c ρ H QU Q
section
variable{X:Cx}{c:Ctx}{ρ:List Addr}{H:Hp}{S:bE}
def mB(h:aZ c ρ H [u] vs):∃v,vs=[v]/\Rep c ρ H u v:=by
 unfold aZ at h;let#[v,r,e,h1,h2]:=h;unfold aZ at h2;subst h2;exact#[v,e,h1]
def AH(h:aZ c ρ H [u,w] vs):∃v z,vs=[v,z]/\Rep c ρ H u v/\Rep c ρ H w z:=by
 unfold aZ at h;let#[v,r,e,h1,h2]:=h;let#[z,e2,h3]:=mB h2;subst e2;exact#[v,z,e,h1,h3]
def Ip(hK:X.K=c.K)(R:b6 c ρ H S)(r:Rep c ρ H u v)(h:PL.nI S u=ξ n)(hn:n<=1000000):TJ X.K v H n\/(∃a kvs,v=.ref a/\H a=ξ (.dK kvs)/\n=kvs.length)\/∃a kvs,v=.ref a/\H a=ξ (.dP kvs)/\n=kvs.length:=by
 cases u with
 |str l=>rw[bz.mp r];obtain rfl:=aG h;erw[.inl #[rf (by rw[ja];exact hn),(ja l).symm]]
 |tup us=>
  let#[a,vs,e,h1,h2]:=dg.mp r;obtain rfl:=aG h;rw[e]
  erw[.inl (.inr #[vs,nB.of h1,h2.len])]
 |tL ns=>
  let#[a,e,h1]:=rg.mp r;obtain rfl:=aG h;rw[e]
  erw[.inl (.inl #[_,hK▸h1.sq,#v[]])]
 |loc m=>
  unfold PL.nI at h;cases q:S[m]? with
  |none=>dsimp[q] at h;erw[nn h]
  |some o=>
   dsimp[q] at h;cases o with
   |lst us=>
    let#[a,vs,e,_,h1,h2]:=R.lst q r;simp at h;subst h;rw[e]
    erw[.inl (.inl #[vs,iy.of h1,h2.len])]
   |df kvs=>
    let#[a,e,ha]:=dJ.mp r;let#[vs,h1,h2,_]:=R.at_ m a _ ha q;simp at h;subst h;erw[.inr (.inl #[a,vs,e,h1,h2.symm])]
   |vd kvs=>
    let#[a,e,ha]:=dJ.mp r;let#[vs,h1,h2,_]:=R.at_ m a _ ha q;simp at h;subst h;exact .inr (.inr #[a,vs,e,h1,by have:=congrArg dh h2;simpa using this.symm])
   |ins x fs=>erw[nn h]
   |pI x=>erw[nn h]
   |r9 x=>erw[nn h]
 |_=>erw[nn h]
def Mg(hK:X.K=c.K):iT X (.builtin "len") (tf c .len):=by
 k_ne;let#[ux,ρ,S,QU,hx,R,w,q]:=h
 match ux,w with
 |[u],w=>
  let#[n,e,w1,w2]:=PL.gM.mp (show PL.opt _ _ from w);let#[v,e1,r1]:=mB hx;rcases Ip hK R r1 e w1 with l|⟨a,kvs,e2,g,e3⟩|⟨a,kvs,e2,g,e3⟩
  .erw[G8 pZ s σ H xs us Q I r #[v,n,e1,l,q.now R w2 (aR.mpr rfl)]]
  .erw[Ff pZ s σ H xs us Q I r #[a,kvs,by rw[e1,e2],g,by rw[<-e3];exact q.now R w2 (aR.mpr rfl)]]
  .erw[Fv pZ s σ H xs us Q I r #[a,kvs,by rw[e1,e2],g,by rw[<-e3];exact q.now R w2 (aR.mpr rfl)]]
def FJ(hK:X.K=c.K):iT X (.type "tuple") (tf c .tuple):=by
 k_ne;let#[ux,ρ,S,QU,hx,R,w,q]:=h
 match ux,w with
 |[.loc n],w=>
  let#[us',e,w1]:=PL.cY.mp (show PL.getL _ _ from w);let#[v,e1,r1]:=mB hx;let#[a,vs,e2,_,g1,g2]:=R.lst e r1;erw[wo pZ s σ H xs us Q I r #[a,vs,by rw[e1,e2],.inl #[iy.of g1,λl hl=>q.P5 R g2 w1 hl]]]
def Iq(hK:X.K=c.K):iT X (.type "list") (tf c .list):=by
 k_ne;let#[ux,ρ,S,QU,hx,R,w,q]:=h
 match ux,w with
 |[.loc n],w=>
  let#[us',e,w1]:=PL.cY.mp (show PL.getL _ _ from w);let#[v,e1,r1]:=mB hx;let#[a,vs,e2,_,g1,g2]:=R.lst e r1;erw[qL pZ s σ H xs us Q I r #[a,vs,by rw[e1,e2],.inl (iy.of g1),λl hl=>q.FG R g2 w1 hl]]
 |[.tup us'],w=>
  let#[v,e1,r1]:=mB hx;let#[a,vs,e2,g1,g2]:=dg.mp r1;erw[qL pZ s σ H xs us Q I r #[a,vs,by rw[e1,e2],.inr (nB.of g1),λl hl=>q.FG R g2 w.2 hl]]
def k7:∀{bs:List Int}{vs:List V},aZ c ρ H (bs.map .int) vs->vs=bs.map V.int
 |[],_,h=>by unfold aZ at h;erw[h]
 |t::ts,_,h=>by
  rw[aA] at h;unfold aZ at h;let#[v,r,e,h1,h2]:=h;rw[e,aR.mp h1,k7 h2];rfl
def Mh(hc:X.calm=ζ):iT X (.builtin "sum") (tf c .sum):=by
 k_ne;let#[ux,ρ,S,QU,hx,R,w,q]:=h
 match ux,w with
 |[.loc n],w=>
  let#[bs,e,w1]:=w;let#[v,e1,r1]:=mB hx;let#[a,vs,e2,_,g1,g2]:=R.lst e r1;rw[k7 g2] at g1;erw[Cq hc pZ s σ H xs us Q I r #[a,bs,by rw[e1,e2],iy.of g1,q.now R w1 (aR.mpr rfl)]]
def Ir(hc:X.calm=ζ):iT X (.builtin "min") (tf c .min2):=by
 k_ne;let#[ux,ρ,S,QU,hx,R,w,q]:=h
 match ux,w with
 |[.int i,.int j],w=>
  let#[v1,v2,e,r1,r2]:=AH hx;rw[aR.mp r1,aR.mp r2] at e;erw[E3 hc pZ s σ H xs us Q I r #[i,j,e,q.now R w (aR.mpr rfl)]]
def Mi(hc:X.calm=ζ):iT X (.builtin "max") (tf c .max):=by
 k_ne;let#[ux,ρ,S,QU,hx,R,w,q]:=h
 match ux,w with
 |[.loc n],w=>
  let#[i,is,e,w1]:=w;let#[v,e1,r1]:=mB hx;let#[a,vs,e2,_,g1,g2]:=R.lst e r1;rw[k7 g2] at g1;erw[Cu hc pZ s σ H xs us Q I r #[a,i,is,by rw[e1,e2],iy.of g1,λm h1 h2=>q.now R (w1 m h1 h2) (aR.mpr rfl)]]
def vv:∀{ps:List (List Nat×U)}{vs:List V},aZ c ρ H (ps.map λp=>.tup [.str p.1,p.2]) vs->∃kvs:List (Key×V),Paired (PB H) vs kvs/\kvs.map (·.1)=ps.map (λp=>iZ (ξ (tx p.1)))/\aZ c ρ H (ps.map (·.2)) (kvs.map (·.2))
 |[],_,h=>by
  unfold aZ at h;subst h;exact#[[],.nil,rfl,aZ.nil]
 | (k,u)::ps,_,h=>by
  rw[aA] at h;unfold aZ at h;let#[v,r,e,h1,h2]:=h;subst e;let#[kvs,g1,g2,g3]:=vv h2;let#[a,vs,e1,ha,hr]:=dg.mp h1;let#[x,y,e2,r1,r2]:=AH hr;subst e2;rw[bz.mp r1] at ha;exact#[(iZ (ξ (tx k)),y)::kvs,.cons #[a,e1,ha] g1,by rw[aA,aA,g2],aZ.cons r2 g3]
def xK:∀{ks:List (List Nat)},aZ c ρ H (ks.map .str) (ks.map λk=>kV (iZ (ξ (tx k))))
 |[]=>aZ.nil
 |_::_=>aZ.cons (bz.mpr rfl) xK
def Iu(hA:X.A.handled=ψ):iT X (.type "dict") (tf c .dict):=by
 k_ne;let#[ux,ρ,S,QU,hx,R,w,q]:=h
 match ux,w with
 |[.loc n],w=>
  let#[ps,e,nd,w1]:=w;let#[v,e1,r1]:=mB hx;let#[a,vs,e2,_,g1,g2]:=R.lst e r1;let#[kvs,k1,k2,k3]:=vv g2;rwa[Cs hA pZ s σ H xs us Q I r #[a,vs,kvs,by rw[e1,e2],g1,k1,?_,λp hp=>?_]]
  .rw[k2,show ps.map (λp=>(iZ (ξ (tx p.1)):Key))=(ps.map (·.1)).map (λk=>iZ (ξ (tx k))) by rw[bG];rfl]
   erw[og _ (λa b h e=>h (qi (aG (sJ e)))) nd]
  .have st:=gu.alloc R hp (.dK kvs)
   have e5:kvs.map (λp=>kV p.1)=(ps.map (·.1)).map λk=>kV (iZ (ξ (tx k))):=by
    rw[show kvs.map (λp=>kV p.1)=(kvs.map (·.1)).map kV by rw[bG];rfl,k2,bG,bG];rfl
   have R':b6 c (ρ++[p]) (upd H p (.dK kvs)) (S++[.df (ps.map λp=>(.str p.1,p.2))]):=R.alloc hp #[kvs,a9,by have:=congrArg dh k2;simpa using this,by
     rw[e5,bG,show(Dp∘λp:List Nat×U=>(U.str p.1,p.2))=U.str∘Dp from rfl,<-bG];erw[xK],by
     rw[bG];erw[k3.mono R st]]
   rwa[q _ _ _ _ _ w1 st R' (dJ.mpr #[p,rfl,?_])];rw[<-R.len,aB (ar _),bQ];rfl
def CD:Bt X "int.bit_length" (tj c .mU):=by
 intro pZ s σ H x xs v us Q I rx r h;let#[u,ux,ρ,S,QU,hu,hx,R,w,q]:=h
 match u,ux,w with
 |.int i,[],w=>
  let#[w0,w1]:=w;unfold aZ at hx;rwa[Fu pZ s σ H x xs v us Q I rx r #[i.toNat,by rw[aR.mp hu];congr 1;omega,hx,q.now R w1 (aR.mpr rfl)]]
def Mj:∀{ps:List (List Nat×U)}{vs:List (Key×V)}{k:List Nat},vs.length=(ps.map λp=>(U.str p.1,p.2)).length->aZ c ρ H ((ps.map λp=>(U.str p.1,p.2)).map (·.1)) (vs.map λp=>kV p.1)->aZ c ρ H ((ps.map λp=>(U.str p.1,p.2)).map (·.2)) (vs.map (·.2)) ->
  (ps.lookup k=ψ/\jk vs (iZ (ξ (tx k)))=ψ)\/∃u v,ps.lookup k=ξ u/\jk vs (iZ (ξ (tx k)))=ξ v/\Rep c ρ H u v
 := by
 intro ps;induction ps with
 |nil=>intro vs k hl _ _;cases vs with|nil=>erw[.inl #[rfl,rfl]]|cons _ _=>cases hl
 |cons p ps ih=>
  intro vs k hl h1 h2;let#[a,u]:=p;cases vs with|nil=>cases hl|cons p vs=>?_
  let#[b,y]:=p;dsimp[aA] at h1 h2;unfold aZ at h1 h2;let#[v1,r1,e1,p1,q1]:=h1;let#[v2,r2,e2,p2,q2]:=h2;cases e1;cases e2;have eb:b=iZ (ξ (tx a)):=by
   have:=bz.mp p1;erw[Pg (b:=iZ (ξ (tx a))) this]
  subst eb;by_cases ek:k=a
  .subst ek
   erw[.inr #[u,y,#v[],kU rfl,p2]]
  .have e3:(k==a)=ϑ:=by simp[ek]
   rw[aQ,e3,kW (λz=>ek (qi (aG (sJ z))).symm)]
   erw[ih (mF hl) q1 q2]
def join_eq(sep:List Nat):∀ts:List (List Nat),u7 sep ts=PL.vf sep ts
 |[]=>rfl
 |[x]=>rfl
 |x::y::r=>by
  unfold u7 PL.vf;rw[join_eq sep (y::r)]
def xM:∀{ts:List (List Nat)}{vs:List V},aZ c ρ H (ts.map .str) vs->vs=ts.map λt=>V.str (tx t)
 |[],_,h=>by unfold aZ at h;erw[h]
 |t::ts,_,h=>by
  rw[aA] at h;unfold aZ at h;let#[v,r,e,h1,h2]:=h;rw[e,bz.mp h1,xM h2];rfl
def Iv(hK:X.K=c.K):Bt X "str.join" (tj c .join):=by
 intro pZ s σ H x xs v us Q I rx r h;let#[u,ux,ρ,S,QU,hu,hx,R,w,q]:=h
 match u,ux,w with
 |.str sep,[.loc n],w=>
  let#[ts,e,w1,w2]:=w;let#[z,e1,r1]:=mB hx;let#[a,vs,e2,_,g1,g2]:=R.lst e r1;rw[xM g2] at g1;erw[DL pZ s σ H x xs v us Q I rx r #[sep,ts,a,bz.mp hu,by rw[e1,e2],iy.of g1,w1,by rw[join_eq];exact q.now R w2 (bz.mpr rfl)]]
def FK(hA:X.A.handled=ψ):Bt X "str.index" (tj c .index):=by
 intro pZ s σ H x xs v us Q I rx r h;let#[u,ux,ρ,S,QU,hu,hx,R,w,q]:=h
 match u,ux,w with
 |.str l,[.str k],w=>
  let#[d,e,w1,w2]:=w;subst e;let#[z,e1,r1]:=mB hx;erw[Ar hA pZ s σ H x xs v us Q I rx r #[l,d,bz.mp hu,by rw[e1,bz.mp r1],w1,q.now R w2 (aR.mpr rfl)]]
def AI{j:Nat}{u z:U}{v:V}(f:PL.flat u=ζ)(h:Rep c ρ H u v){us:List U}{vs:List V}(a:us.all PL.flat=ζ)(r:aZ c ρ H us vs)(ej:us[j]?=ξ z)(e:PL.tY z u=ζ)(no:∀(i:Nat) (z':U),i<j->us[i]?=ξ z'->PL.tY z' u=ϑ):∃y,vs[j]?=ξ y/\Bu y v=ζ/\∀(i:Nat)(y':V),i<j->vs[i]?=ξ y'->Bu y' v=ϑ:=by
 have fl:∀(i:Nat)(x:U),us[i]?=ξ x->PL.flat x=ζ:=λi x q=>bu.mp a x (ax q)
 let#[y,h1,h2]:=r.get ej;refine#[y,h1,(y9 (fl j z ej) f h2 h).trans e,λi y' lt q=>?_];have il:i<us.length:=lG lt (ag.mp ej).1;have ei:=af il;let#[y2,h3,h4]:=r.get ei;rw[q] at h3;cases h3;exact(y9 (fl i _ ei) f h4 h).trans (no i _ lt ei)
def Iw(hK:X.K=c.K):Bt X "list.index" (tj c .yO):=by
 intro pZ s σ H x xs v us Q I rx r h;let#[u,ux,ρ,S,QU,hu,hx,R,w,q]:=h
 match u,ux,w with
 |.loc n,[k],w=>
  let#[us',e,#[f1,f2],j,z0,e0,e1,no,w2]:=PL.cY.mp (show PL.getL _ _ from w);let#[z,e2,r1]:=mB hx;let#[a,vs,e3,ha,g1,g2]:=R.lst e hu;let#[y,h1,h2,h3]:=AI f1 r1 f2 g2 e0 e1 no;erw[DY pZ s σ H x xs v us Q I rx r #[a,z,vs,j,y,e3,e2,iy.of g1,kZ f1 r1,(nh f1 r1 f2 g2).1,h1,h2,h3,q.now R w2 (aR.mpr rfl)]]
def Iy(hK:X.K=c.K):Bt X "tuple.index" (tj c .wq):=by
 intro pZ s σ H x xs v us Q I rx r h;let#[u,ux,ρ,S,QU,hu,hx,R,w,q]:=h
 match u,ux,w with
 |.tup us',[k],w=>
  let#[#[f1,f2],j,z0,e0,e1,no,w2]:=w;let#[z,e2,r1]:=mB hx;let#[a,vs,e3,g1,g2]:=dg.mp hu;let#[y,h1,h2,h3]:=AI f1 r1 f2 g2 e0 e1 no;erw[DZ pZ s σ H x xs v us Q I rx r #[a,z,vs,j,y,e3,e2,nB.of g1,kZ f1 r1,(nh f1 r1 f2 g2).1,h1,h2,h3,q.now R w2 (aR.mpr rfl)]]
def QV.putL(q:QV c ρ H QU Q)(R:b6 c ρ H S)(ha:ρ[n]?=ξ a)(hw:H a=ξ (.lst ws))(r:aZ c ρ H us vs)(h:QU .bK (S.set n (.lst us))):Q .bK (upd H a (.lst vs)):=by
 have st:=gu.put (H:=H) (ax ha) hw rfl (.lst vs);erw[q _ _ _ _ _ h st (R.put ha hw rfl #[vs,a9,r.mono R st]) (dW.mpr rfl)]
def CH:Bt X "list.append" (tj c .append):=by
 intro pZ s σ H x xs v us Q I rx r h;let#[u,ux,ρ,S,QU,hu,hx,R,w,q]:=h
 match u,ux,w with
 |.loc n,[k],w=>
  let#[us',e,w1,w2]:=PL.cY.mp (show PL.getL _ _ from w);let#[z,e1,r1]:=mB hx;let#[a,vs,e2,ha,g1,g2]:=R.lst e hu;rwa[rV pZ s σ H x xs v us Q I rx r #[a,vs,z,e2,e1,g1,?_,q.putL R ha g1 (g2.app (aZ.cons r1 aZ.nil)) w2]];rw[<-g2.len];erw[au w1 ⋯]
def Eb{κ κ':Type}[BEq κ][LawfulBEq κ][DecidableEq κ'](f:κ->κ')(hf:∀a b,f a=f b->a=b)(k:κ):∀{kvs:List (κ×U)}{vs:List (κ'×V)},vs.map (·.1)=kvs.map (λp=>f p.1)->aZ c ρ H (kvs.map (·.2)) (vs.map (·.2)) ->
  (kvs.lookup k=ψ/\jk vs (f k)=ψ)\/∃u v,kvs.lookup k=ξ u/\jk vs (f k)=ξ v/\Rep c ρ H u v:=by
 intro kvs;induction kvs with
 |nil=>intro vs hk _;cases vs with|nil=>erw[.inl #[rfl,rfl]]|cons _ _=>cases hk
 |cons p ps ih=>
  intro vs hk h2;let#[a,w]:=p;cases vs with|nil=>cases hk|cons p vs=>?_
  let#[b,y]:=p;dsimp[aA,dy] at h2 hk;unfold aZ at h2;let#[v2,r2,e2,p2,q2]:=h2;cases e2;let#[rfl,hk]:=hk;by_cases e:k=a
  .subst e
   erw[.inr #[w,y,#v[],kU rfl,p2]]
  .have e3:(k==a)=ϑ:=by simp[e]
   rw[aQ,e3,kW λz=>e (hf _ _ z).symm]
   erw[ih hk q2]
def QV.Qk(q:QV c ρ H QU Q)(R:b6 c ρ H S)(ha:ρ[n]?=ξ a)(e:H a=ξ hw)(nf:P4 hw=ϑ)(r:Rep c ρ H u v)(w:QU u (S.set n o))
  (hr:gu ρ H ρ (upd H a ho)->tO c ρ (upd H a ho) a o):Q v (upd H a ho):=by
 have st:=gu.put (H:=H) (ax ha) e nf ho;erw[q _ _ _ _ _ w st (R.put ha e nf (hr st)) (r.mono R st)]
def Iz(hu:X.A.units+200<eF):Bt X "dict.setdefault" (tj c .mV):=by
 intro pZ s σ H x xs v us Q I rx r h;let#[u,ux,ρ,S,QU,hu',hx,R,w,q]:=h
 match u,ux,w with
 |.loc n,[k,d],w=>
  have w:PL.oz S n k d QU:=w;let#[a,e0,ha]:=dJ.mp hu';let#[y,z,e1,r1,r2]:=AH hx;rwa[Lq ∅ pZ s σ H x xs v us Q I rx r ?_];unfold PL.oz at w;cases hs:S[n]? with
  |none=>rw[hs] at w;erw[w.elim]
  |some o=>
   rw[hs] at w;cases o with
   |df kvs=>
    let#[#[hk,hl],w]:=w;let#[vs,g1,g2,g3,g4]:=R.at_ n a _ ha hs;have hl':vs.length<sizeLine:=%[g2|au hl ⋯]
    rcases rj hk g2 g3 g4 with⟨l1,l2⟩|⟨u',v',l1,l2,l3⟩
    .rw[l1] at w
     refine#[a,y,z,z,_,e0,e1,.inl #[vs,vt k,g1,jL hk r1,hl',.inr #[l2,rfl,rfl]],q.Qk R ha g1 rfl r2 w λst=>#[_,a9,by simp[g2],?_,?_]]
     .rw[aN,aN]
      exact(g3.mono R st).app (aZ.cons (show Rep c ρ _ k (kV (vt k)) by rw[<-jL hk r1];erw[r1.mono R st]) aZ.nil)
     .rw[aN,aN]
      exact(g4.mono R st).app (aZ.cons (r2.mono R st) aZ.nil)
    .rw[l1] at w
     exact#[a,y,z,v',H,e0,e1,.inl #[vs,vt k,g1,jL hk r1,hl',.inl #[l2,rfl]],q.now R w l3]
   |r9 kvs=>
    let#[ks,rfl,hl,w]:=w;let#[vs,g1,g2,g4]:=R.at_ n a _ ha hs;have hl':vs.length<sizeLine:=by
     have:=congrArg dh g2;simp at this;rw[this];erw[au hl ⋯]
    let#[b,ws,e2,hb,hw]:=dg.mp r1;rw[k7 hw,show ks.map V.int=(ks.map wA).map kV by rw[bG];rfl] at hb;rcases Eb (λl:List Int=>l.map (wA:Int->Key)) (λa b e=>(rC (λ_ _ e=>zL e)).mp e) ks g2 g4 with⟨l1,l2⟩|⟨u',v',l1,l2,l3⟩
    .rw[l1] at w
     refine#[a,y,z,z,_,e0,e1,.inr (.inl #[vs,_,b,g1,e2,hb,hl',.inr #[l2,rfl,rfl]]),q.Qk R ha g1 rfl r2 w λst=>#[_,a9,by simp[g2],?_]];rw[aN,aN]
     exact(g4.mono R st).app (aZ.cons (r2.mono R st) aZ.nil)
    .rw[l1] at w
     exact#[a,y,z,v',H,e0,e1,.inr (.inl #[vs,_,b,g1,e2,hb,hl',.inl #[l2,rfl]]),q.now R w l3]
   |vd kvs=>
    let#[i,ks,rfl,hl,w]:=w;let#[vs,g1,g2,g4]:=R.at_ n a _ ha hs;have hl':vs.length<sizeLine:=by
     have:=congrArg dh g2;simp at this;rw[this];erw[au hl ⋯]
    let#[b,ws,e2,hb,hw]:=dg.mp r1;let#[x1,x2,e3,hi,ht]:=AH hw;let#[b2,ws2,e4,hb2,hw2]:=dg.mp ht;rw[k7 hw2] at hb2;rw[e3,aR.mp hi,e4] at hb;rcases Eb (λp:Int×List Int=>p) (λa b e=>e) (i,ks) g2 g4 with⟨l1,l2⟩|⟨u',v',l1,l2,l3⟩
    .rw[l1] at w
     refine#[a,y,z,z,_,e0,e1,.inr (.inr #[vs,(i,ks),b,b2,g1,e2,hb,hb2,hl',.inr #[l2,rfl,rfl]]),q.Qk R ha g1 rfl r2 w λst=>#[_,a9,by simp[g2],?_]];rw[aN,aN]
     exact(g4.mono R st).app (aZ.cons (r2.mono R st) aZ.nil)
    .rw[l1] at w
     exact#[a,y,z,v',H,e0,e1,.inr (.inr #[vs,(i,ks),b,b2,g1,e2,hb,hb2,hl',.inl #[l2,rfl]]),q.now R w l3]
   |_=>erw[w.elim]
def Ml(hK:X.K=c.K)(R:b6 c ρ H S)(r:Rep c ρ H u v)(h:PL.ve S u=ξ b):O1 X.K v H b:=by
 cases u with
 |bK=>rw[dW.mp r];exact(aG h).symm
 |bl k=>rw[fL.mp r];exact(aG h).symm
 |int i=>rw[aR.mp r];exact(aG h).symm
 |str l=>erw[nn h]
 |tup us=>
  let#[a,vs,e,h1,h2]:=dg.mp r;simp[PL.ve,PL.nI] at h;rw[e]
  rwa[.inr (.inl #[vs,nB.of h1,?_])];have:=h2.len;rw[<-h]
  cases us<;>cases vs<;>simp at this ⊢
 |tL ns=>
  let#[a,e,h1]:=rg.mp r;simp[PL.ve,PL.nI] at h;rw[e]
  rwa[.inl #[_,hK▸h1.sq,?_]];rw[<-h]
  cases ns<;>simp
 |loc m=>
  unfold PL.ve PL.nI at h;cases q:S[m]? with
  |none=>dsimp[q] at h;erw[nn h]
  |some o=>
   dsimp[q] at h;cases o with
   |lst us=>
    let#[a,vs,e,_,h1,h2]:=R.lst q r;simp at h;rw[e]
    rwa[.inl #[vs,iy.of h1,?_]];have:=h2.len;rw[<-h]
    cases us<;>cases vs<;>simp at this ⊢
   |df kvs=>
    let#[a,e,ha]:=dJ.mp r;let#[vs,h1,h2,_]:=R.at_ m a _ ha q;simp at h;rw[e]
    rwa[.inr (.inr #[vs,h1,?_])];rw[<-h]
    cases kvs<;>cases vs<;>simp at h2 ⊢
   |ins x fs=>erw[nn h]
   |pI x=>erw[nn h]
   |r9 x=>erw[nn h]
   |vd x=>erw[nn h]
 |_=>erw[nn h]
end
open PL (U SO bE Xn KU KX bU)
structure vW where
 cls:String->Option Addr
 exc:String->Option Addr
noncomputable abbrev Cx.cc(X:Cx)(t:vW):Ctx:=#[X.prog,X.w,X.K,X.mg,X.base,t.cls,t.exc]
abbrev lift(c:Ctx)(sp:PL.Spec):Sp:=λvs H Q E=>∃us ρ S QU EU,aZ c ρ H us vs/\b6 c ρ H S/\sp us S QU EU/\QV c ρ H QU Q/\QX c ρ H EU E
abbrev FnAt(c:Ctx)(k:Nat)(f:Addr)(sp:PL.Spec):Prop:=∃fd ps,iz c.P c.w c.K c.mg c.base (mP c.P c.w) k f fd ps (lift c sp)/\Binds c.K fd ps []
structure Ec(c:Ctx)(T:Tab):Prop where
 const:∀p∈T.const,∃v u,c.mg (nm p.1)=ξ u/\RelV v u/\∀ρ H,Rep c ρ H p.2 v
 fP:∀x∈T.fP,c.mg (nm x)=ψ
 cls:∀x C,c.cls x=ξ C->xm c.K C/\∀f∈T.vm,fA c.K C (nm f)
 exc:∀x C,c.exc x=ξ C->XGet c.K C/\Sz c.K C/\(∃bm,mh c.K C bm)/\∀f∈T.vm,fA c.K C (nm f)
 Y9:∀x C y D,c.exc x=ξ C->c.exc y=ξ D->rM c.K (.ref C) (.ref D)=ξ ((PL.my x).contains y)
 Za:∀x C,c.exc x=ξ C->rM c.K (.ref C) (.type "ValueError")=ξ ζ
 UP:∀x∈T.tN,∃C,c.exc x=ξ C/\c.mg (nm x)=ξ (.ref C)
structure gf(c:Ctx)(T:Tab)(Γ:bU)(k:Nat):Prop where
 fns:∀x∈T.fns,∃f,c.mg (nm x)=ξ (.ref f)/\kL c.K (.ref f)=ζ/\FnAt c k f (Γ x)
 SK:∀p∈T.qm,∃C f,c.cls p.2=ξ C/\Meth c.K C (nm p.1) f/\FnAt c k f (Γ (p.2++"."++p.1))
 cls:∀x∈T.qk,∃C f,c.cls x=ξ C/\c.mg (nm x)=ξ (.ref C)/\Mk c.K C f/\FnAt c k f (Γ (x++".__init__"))
structure Good(t:vW)(T:Tab)(Γ:bU)(k:Nat)(I:Inf)(X:Cx):Prop where
 tab:Ec (X.cc t) T
 Km:gf (X.cc t) T Γ k
 kind:X.env.scope.kind=.function
 names:X.env.scope.names=I.names
 slots:X.N=I.N
 nd:X.N.Nodup
 calm:I.calm=ζ->X.calm=ζ/\jj (k+1) X.A
 units:X.A.units+200<eF
def Good.at_{t:vW}{T:Tab}{Γ:bU}{k:Nat}{I:Inf}{X:Cx}{pZ:List (Addr×Obj)}{E:St->XK}(G:Good t T Γ k I X):Good t T Γ k I (X.at_ pZ E):=
 #[G.tab,G.Km,G.kind,G.names,G.slots,G.nd,G.calm,G.units]
abbrev AJ(c:Ctx)(ρ:List Addr)(H:Hp)(J:It)(us:List U)(g:bE->Prop):Prop:=
 ∀(i:Nat)(ρ2:List Addr)(H2:Hp)(S2:bE),gu ρ H ρ2 H2->b6 c ρ2 H2 S2->g S2 ->
  (∀u,us[i]?=ξ u->J.go i H2/\∀y H3,J.Tn i H2 y H3->gu ρ2 H2 ρ2 H3/\b6 c ρ2 H3 S2/\Rep c ρ2 H3 u y)/\(us.length<=i->J.stop i H2)
abbrev QI(c:Ctx)(ρ:List Addr)(H:Hp)(RU:List U->(bE->Prop)->bE->Prop)(R:It->Hp->Prop):Prop:=
 ∀us g S' H' ρ' J,RU us g S'->gu ρ H ρ' H'->b6 c ρ' H' S'->AJ c ρ' H' J us g->R J H'
abbrev xN(c:Ctx)(Γ:bU)(x:PL.It):XK->TI:=λE σ H R=>∃env ρ S RU EU,iY c ρ H env σ/\b6 c ρ H S/\PL.WI Γ x env S RU EU/\QI c ρ H RU R/\QX c ρ H EU E
abbrev QO(c:Ctx)(ρ:List Addr)(H:Hp)(QU:Option Int->bE->Prop)(Q:Option Int->Hp->Prop):Prop:=∀o S' H' ρ',QU o S'->gu ρ H ρ' H'->b6 c ρ' H' S'->Q o H'
abbrev W5(c:Ctx)(Γ:bU)(x:PL.Ox):XK->TO:=λE σ H Q=>∃env ρ S QU EU,iY c ρ H env σ/\b6 c ρ H S/\PL.WO Γ x env S QU EU/\QO c ρ H QU Q/\QX c ρ H EU E
structure FL(t:vW)(T:Tab)(Γ:bU)(k n:Nat):Prop where
 fe:∀{I X e x},Good t T Γ k I X->cE T n I e=ξ x->dG X e (tE (X.cc t) Γ x)
 Ql:∀{I X es xs},Good t T Γ k I X->SI T n I es=ξ xs->y6 X es (D6 (X.cc t) Γ xs)
 Zb:∀{I X op vs x pos},Good t T Γ k I X->W2 T n I op vs=ξ x->dG X (.BoolOp op vs pos) (tE (X.cc t) Γ x)
 fo:∀{I X oe x},Good t T Γ k I X->cO T n I oe=ξ x->∀pZ E,PO (X.at_ pZ E) oe (λσ H Q=>W5 (X.cc t) Γ x (E σ) σ H Q)
 fi:∀{I X e x tg},Good t T Γ k I X->cI T n I e=ξ x->∀pZ E,PI (X.at_ pZ E) tg e (λσ H R=>xN (X.cc t) Γ x (E σ) σ H R)
 fn:∀{I X e x es ek tp},Good t T Γ k I X->cN T n I e=ξ x->∀pZ E,PI (X.at_ pZ E) (.Tuple es ek tp) e (λσ H R=>xN (X.cc t) Γ x (E σ) σ H R)
 ft:∀{I X e x},Good t T Γ k I X->cT T n I e=ξ x->CB X e (tT (X.cc t) Γ x)
 Zc:∀{I X op vs x pos},Good t T Γ k I X->W3 T n I op vs=ξ x->∀pZ E,PW (X.at_ pZ E) (.BoolOp op vs pos) (λσ H Q=>tT (X.cc t) Γ x (E σ) σ H Q)
section
variable{t:vW}{T:Tab}{Γ:bU}{k n:Nat}{I:Inf}{X:Cx}
def dD:∀{l:List Str}{i:Nat},dr x l=ξ i->l[i]?=ξ x
 |[],_,h=>nn h
 |y::ys,i,h=>by
  unfold dr at h;by_cases e:y=x
  .rw[if_pos e] at h;injection h with h;subst h;subst e;rfl
  .rw[if_neg e] at h
   cases q:dr x ys with
   |none=>rw[q] at h;cases h
   |some j=>rw[q] at h;simp at h;subst h;simpa using dD q
def Qm(h:PZ (names.lookup x)=ζ)(e:sc.names=names):Ki sc x:=by
 rw[<-e] at h;unfold Ki;cases q:sc.names.lookup x with
 |none=>rw[q] at h;cases h
 |some kd=>rw[q] at h;cases kd<;>first|exact ff h|simp
def Mm(G:Good t T Γ k I X)(h:dr x I.N=ξ i)(hv:PZ (I.names.lookup x)=ζ)(h1:(x==("__debug__":Str))=ϑ)(h2:(x==("__classdict__":Str))=ϑ):dG X (.Name x pos) (tE (X.cc t) Γ (.var i)):=by
 rwa[up λpZ E=>(qc (i:=i) (X:=X.at_ pZ E) (by show X.N[i]?=ξ x;rw[G.slots];erw[dD h]) (Qm hv G.names) h1 h2).imp ?_]
 kd_p;let#[u,e,w]:=PL.As.mp (show PL.yP _ _ from w);let#[v,e1,r]:=he.at_ i u e;exact#[v,e1,q.now R w r]
def rm{e:Expr}{u:U}{v:V}(h:∀(pZ:List (Addr×Obj)) E,PE (X.at_ pZ E) e (tC v))(r:∀ρ H,Rep (X.cc t) ρ H u v):dG X e (tE (X.cc t) Γ (.lit u)):=by
 rwa[up λpZ E=>(h pZ E).imp ?_]
 kd_p;erw[q.now R w (r ρ H)]
def iD(h:pick l x=ξ s):s∈l/\nm s=x:=by
 unfold pick at h;exact#[yw h,~~~(KG h)]
def xO{α:Type}{l:List (String×α)}{x:Str}{s:String×α}(h:AD l x=ξ s):s∈l/\nm s.1=x:=by
 unfold AD at h;exact#[yw h,~~~(KG h)]
def gH(G:Good t T Γ k I X){x:Str}(h:I.gl x=ζ):Gl X x:=by
 unfold Inf.gl at h;show X.env.scope.names.lookup x=_;rw[G.names]
 simpa using h
def IA{x:Str}{pos:Pos}{p:String×U}(G:Good t T Γ k I X)(hg:I.gl x=ζ)(h:AD T.const x=ξ p)(h1:(x==("__debug__":Str))=ϑ):dG X (.Name x pos) (tE (X.cc t) Γ (.lit p.2)):=by
 let#[hm,e]:=xO h;let#[v,u,e1,rv,r]:=G.tab.const p hm;subst e;erw[rm (λpZ E=>Dy (X:=X.at_ pZ E) (gH G hg) e1 rv h1) r]
def Qn(G:Good t T Γ k I X)(ho:UG op=ξ o)(ha:∀pZ E,dG (X.at_ pZ E) a (tE (X.cc t) Γ x))(hb:∀pZ E,dG (X.at_ pZ E) b (tE (X.cc t) Γ y)):dG X (.BinOp a op b pos) (tE (X.cc t) Γ (.bin o x y)):=by
 have e:op=L5 o:=by
  cases op<;>first|exact nn ho| (cases ho;rfl)
 rw[e]
 rwa[up λpZ E=>(Tp (X:=X.at_ pZ E) (Md (X:=X.at_ pZ E) (c:=X.cc t)) (dn (ha pZ E)) (dn (hb pZ E))).imp ?_]
 kd_p;z_go;refine#[env,ρ1,S1,_,EU,he.later R st1,R1,w1,λu2 S2 v2 H2 ρ2 w2 st2 R2 r2=>?_,qx.later st1];exact#[u,u2,ρ2,S2,QU,r1.mono R1 st2,r2,R2,w2,q.later (st1.trans st2)]
def IB(ho:SE op b=ξ o):op=D9 o:=by
 unfold SE at ho;split at ho
 .rename_i hc
  cases op<;>first|exact ff hc| (cases ho;rfl)
 .cases op<;>first|exact nn ho| (cases ho;rfl)
def Qo(G:Good t T Γ k I X)(ho:SE op b=ξ o)(hm:behindInMarks op b=ϑ)(ha:∀pZ E,dG (X.at_ pZ E) a (tE (X.cc t) Γ x))(hb:∀pZ E,dG (X.at_ pZ E) b (tE (X.cc t) Γ y)):dG X (.Compare a [op] [b] pos) (tE (X.cc t) Γ (.cmp o x y)):=by
 have e:op=D9 o:=IB ho;subst e;rwa[up λpZ E=>(K4 (X:=X.at_ pZ E) (Ea (X:=X.at_ pZ E) (c:=X.cc t) rfl rfl G.units o) (dn (ha pZ E)) (dn (hb pZ E)) hm).imp ?_]
 kd_p;z_go;refine#[env,ρ1,S1,_,EU,he.later R st1,R1,w1,λu2 S2 v2 H2 ρ2 w2 st2 R2 r2=>?_,qx.later st1];refine#[u,u2,ρ2,S2,r1.mono R1 st2,r2,R2,PL.xG (λr h=>?_) w2];exact(q.later (st1.trans st2)).now R2 h (fL.mpr rfl)
def Mn(G:Good t T Γ k I X)(ho:SE op b=ξ o)(hm:behindInMarks op b=ϑ)(ha:∀pZ E,dG (X.at_ pZ E) a (tE (X.cc t) Γ x))(hb:∀pZ E,dG (X.at_ pZ E) b (tE (X.cc t) Γ y)):CB X (.Compare a [op] [b] pos) (tT (X.cc t) Γ (.de (.cmp o x y))):=by
 have e:op=D9 o:=IB ho;subst e;rwa[W4 λpZ E=>(K5 (X:=X.at_ pZ E) (Ea (X:=X.at_ pZ E) (c:=X.cc t) rfl rfl G.units o) (dn (ha pZ E)) (dn (hb pZ E)) hm).imp ?_]
 kd_p;z_go;refine#[env,ρ1,S1,_,EU,he.later R st1,R1,w1,λu2 S2 v2 H2 ρ2 w2 st2 R2 r2=>?_,qx.later st1];refine#[u,u2,ρ2,S2,r1.mono R1 st2,r2,R2,PL.xG (λr h=>#[r,rfl,?_]) w2];exact(q.later (st1.trans st2)) _ _ _ _ h .refl R2
end
open PL (U SO bE Xn KU KX bU)
def cx(h:noStar e=ζ):bM (e::es) env=(ϑ,eval e env)::bM es env:=by
 cases e<;>first|rfl|cases h
def vw:∀{es:List Expr},es.all noStar=ζ->bM es env=es.map λe=>(ϑ,eval e env)
 |[],_=>rfl
 |e::es,h=>by
  rw[bH,aw] at h;rw[cx h.1,vw h.2];rfl
def fD(h:fK o=ζ):gW o m env (eval o env)=eval o env:=by
 cases o with
 |Call f args kws pos=>
  cases f with
  |Name id p=>
   cases args with
   |nil=>
    cases kws with
    |nil=>cases h
    |cons k ks=>rfl
   |cons a as=>rfl
  |_=>rfl
 |_=>rfl
def AK(h:yX e=ζ):fV e tg l env=pure ϑ:=by
 cases e<;>first|rfl|cases h
def eZ(h:es.all noStar=ζ):(hV pos (bM es env)).any (·.1)=ϑ:=by
 rw[vw h]
 unfold hV;simp
def xP(h:es.all noStar=ζ)(hn:es.length<20):BK (es.length+([]:List p9).length) (hV pos (bM es env)) (backToKw pos (jC [] env))=ζ:=by
 rw[vw h]
 have e:jC [] env=[]:=rfl;rw[e]
 unfold BK hV;simp[backToKw]
 omega
def xQ(h0:fK o=ζ)(hst:args.all noStar=ζ)(hn:args.length<20)(hl:(apos.endLine==pos.line)=ζ):
  eval (.Call (.Attribute o m apos) args [] pos) env=(do
   let ov <-eval o env
   standAt apos.atName
   let (f,first) <-holding [ov] (getMethod ov m (do return (<-importBound o env).getD ζ))
   callWith pos f first (hV pos (bM args env)) (backToKw pos (jC [] env))):=by
 change (do
  let ov <-gW o m env (eval o env)
  standAt apos.atName
  methodCall o m apos pos env ov (args.length+[].length) (hV pos (bM args env)) (backToKw pos (jC [] env)))=_
 dsimp[fD h0,methodCall,xP hst hn,calleeOf,methodCallPos,hl]
 rfl
open PL (U SO bE Xn KU KX bU)
section
variable{X:Cx}{k:Nat}{f C:Addr}{fd:dv}{ps:List Str}{sp:Sp}{x m:Str}{p pos apos:Pos}{e o:Expr}{es:List Expr}{ta:XK->TA}{to:XK->TE}
def Zd(F:iz X.prog X.w X.K X.mg X.base (mP X.prog X.w) k f fd ps sp)(hr:jj k X.A)(hg:Gl X x)(hm:X.mg x=ξ (.ref f))(hk:kL X.K (.ref f)=ζ)(hb:Binds X.K fd ps [])(ha:y6 X (e::es) ta)
  (hdb:(x==("__debug__":Str))=ϑ) (he:noStar e=ζ) (hes:es.all noStar=ζ):dG X (.Call (.Name x p) (e::es) [] pos) (λE σ H Q=>ta E σ H λvs H1=>sp vs H1 Q E):=by
 intro pZ s σ H Q E I h;rwa[dC (kh I hg hm ?_ hdb)];rwa[uF (h₀:=X.base) I.ok.mod.Oy hk (dS (ha pos pZ s σ H _ E I h) λus s1 h9=>?_) (cx he) (eZ hes)];let#[vs,H1,I1,r,q]:=h9;refine#[I1.jY,?_];erw[tX F hr hb .nil I1 r (by rw[cb];exact q)]
def UQ(F:iz X.prog X.w X.K X.mg X.base (mP X.prog X.w) k f fd ps sp)(hr:jj k X.A)(hg:Gl X x)(hm:X.mg x=ξ (.ref f))(hk:kL X.K (.ref f)=ζ)(hb:Binds X.K fd ps [])
  (hdb:(x==("__debug__":Str))=ϑ):dG X (.Call (.Name x p) [] [] pos) (λE σ H Q=>sp [] H Q E):=by
 intro pZ s σ H Q E I h;rwa[dC (kh I hg hm ?_ hdb)];erw[KH I.jY hk (tX (us:=[]) (vs:=[]) F hr hb .nil I .nil h)]
def Ze(he:dG X o to)(c:xm X.K C)(hm:Meth X.K C m f)(F:iz X.prog X.w X.K X.mg X.base (mP X.prog X.w) k f fd ps sp)(hr:jj k X.A)(hb:Binds X.K fd ps [])(ha:y6 X (e::es) ta)
  (h0:fK o=ζ) (hn:(e::es).length<20) (hl:(apos.endLine==pos.line)=ζ) (hse:noStar e=ζ) (hes:es.all noStar=ζ):
  dG X (.Call (.Attribute o m apos) (e::es) [] pos) (λE σ H Q=>to E σ H λx H1=>∃a dx fs,x=.ref a/\H1 a=ξ (.ins C dx fs)/\fs.lookup m=ψ/\ta E σ H1 λvs H2=>sp (x::vs) H2 Q E):=by
 intro pZ s σ H Q E I h;refine methodCall_KW (dS (he pZ s σ H _ E I h) λu s1 h9=>?_) (xQ h0 (by rw[bH,hse,hes];rfl) hn hl);let#[x,H1,I1,rx,a,dx,fs,ex,ea,l,q]:=h9;subst ex;obtain rfl:u=aL a:=rx;refine uO I1 ea c hm l ?_;refine uF (first:=[.ref a]) (h₀:=X.base) I.ok.mod.Oy hm.kp (dS (ha pos pZ s1 σ H1 _ E I1 q) λus s2 h9=>?_) (cx hse) (eZ hes);obtain⟨vs,H2,I2,r,q2⟩:=h9;refine#[I2.jY,?_];exact tX (us:=.ref a::us) (vs:=.ref a::vs) F hr hb .nil I2 (.cons rfl r) (by rw[cb];exact q2)
def UR(he:dG X o to)(c:xm X.K C)(hm:Meth X.K C m f)(F:iz X.prog X.w X.K X.mg X.base (mP X.prog X.w) k f fd ps sp)(hr:jj k X.A)(hb:Binds X.K fd ps [])
  (h0:fK o=ζ) (hl:(apos.endLine==pos.line)=ζ):
  dG X (.Call (.Attribute o m apos) [] [] pos) (λE σ H Q=>to E σ H λx H1=>∃a dx fs,x=.ref a/\H1 a=ξ (.ins C dx fs)/\fs.lookup m=ψ/\sp [x] H1 Q E):=by
 intro pZ s σ H Q E I h;refine methodCall_KW (dS (he pZ s σ H _ E I h) λu s1 h9=>?_) (xQ h0 rfl ⋯ hl);let#[x,H1,I1,rx,a,dx,fs,ex,ea,l,q]:=h9;subst ex;obtain rfl:u=aL a:=rx;refine uO I1 ea c hm l ?_;exact KH (first:=[.ref a]) I1.jY hm.kp (tX (us:=[.ref a]) (vs:=[.ref a]) F hr hb .nil I1 (.cons rfl .nil) q)
def xR(M:Mk X.K C f)(F:iz X.prog X.w X.K X.mg X.base (mP X.prog X.w) k f fd ps sp)(hr:jj (k+1) X.A)(hb:Binds X.K fd ps [])
  (I:Inv X pZ σ H s) (r:Vals vs us) (h:∀x dx,H x=ψ->H dx=ψ->dx≠x->sp (.ref x::vs) (upd (upd H dx (.own x)) x (.ins C dx [])) (λv H2=>v=.bK/\Q (.ref x) H2) E):
  wpAny (aS X.prog X.w) X.A (call (.ref C) us) (EP X pZ σ Q) (XE X pZ σ E) s:=by
 have hq:=h (s.heap.objs.size+1) s.heap.objs.size (I.ck.fresh (hW _)) (I.ck.fresh (ar _)) (a6 (b4 _));have I2:=Inv.made (C:=C) I;have r2:Vals (V.ref (s.heap.objs.size+1)::vs) (aL (s.heap.objs.size+1)::us):=.cons rfl r;have hl:(aL (s.heap.objs.size+1)::us++([]:List Value)).length=ps.length:=by
  have e:=r2.length;rw[F.len _ _ _ _ hq] at e;rw[cb]
  erw[e.symm]
 have hb2:=hb {s with heap:=(s.heap.push cK).push (dB C s.heap.objs.size)} (aL (s.heap.objs.size+1)::us) I2.jY hl;rw[cb] at hb2;refine mM (Ha (f:=f) I.jY M.makes M.init (beq_iff_eq.mp M.fn) (jV (F.run _ X.stack _ _ #[aL (s.heap.objs.size+1)::us,[]] (aL (s.heap.objs.size+1)::us) _ _ E (hr.make C us [])
  (I2.K9.make C us []) hb2 r2 hq) λr s' hq'=>?_))
 cases r with
 |error e=>
  let#[a,T,c,dx,H',e1,I',x,fr,q]:=mP.inv I2 hq';exact#[a,ξ T,c,dx,H',e1,I',x,fr,q]
 |ok fl=>
  cases fl with
  |ret u=>
   let#[v,H',I3,rv,ev,q3]:=I2.after hq';subst ev;exact#[rv,#[V.ref (s.heap.objs.size+1),H',I3,rfl,q3]]
  |next=>erw[aJ hq']
  |brk=>erw[aJ hq']
  |cont=>erw[aJ hq']
def Zf(M:Mk X.K C f)(F:iz X.prog X.w X.K X.mg X.base (mP X.prog X.w) k f fd ps sp)(hr:jj (k+1) X.A)(hg:Gl X x)(hm:X.mg x=ξ (.ref C))(hb:Binds X.K fd ps [])(ha:y6 X (e::es) ta)
  (hdb:(x==("__debug__":Str))=ϑ) (he:noStar e=ζ) (hes:es.all noStar=ζ):dG X (.Call (.Name x p) (e::es) [] pos) (λE σ H Q=>ta E σ H λvs H1=>∀x dx,H1 x=ψ->H1 dx=ψ->dx≠x ->
   sp (.ref x::vs) (upd (upd H1 dx (.own x)) x (.ins C dx [])) (λv H2=>v=.bK/\Q (.ref x) H2) E):=by
 intro pZ s σ H Q E I h;rwa[dC (kh I hg hm ?_ hdb)];rwa[uF (h₀:=X.base) I.ok.mod.Oy M.kp (dS (ha pos pZ s σ H _ E I h) λus s1 h9=>?_) (cx he) (eZ hes)];let#[vs,H1,I1,r,q]:=h9;refine#[I1.jY,?_];erw[xR M F hr hb I1 r q]
def US(M:Mk X.K C f)(F:iz X.prog X.w X.K X.mg X.base (mP X.prog X.w) k f fd ps sp)(hr:jj (k+1) X.A)(hg:Gl X x)(hm:X.mg x=ξ (.ref C))(hb:Binds X.K fd ps [])
  (hdb:(x==("__debug__":Str))=ϑ):dG X (.Call (.Name x p) [] [] pos) (λE σ H Q=>∀x dx,H x=ψ->H dx=ψ->dx≠x ->
   sp [.ref x] (upd (upd H dx (.own x)) x (.ins C dx [])) (λv H2=>v=.bK/\Q (.ref x) H2) E):=by
 intro pZ s σ H Q E I h;rwa[dC (kh I hg hm ?_ hdb)];erw[KH I.jY M.kp (xR (us:=[]) (vs:=[]) M F hr hb I .nil h)]
end
def dG.imp(h:dG X e t)(q:∀E σ H Q,t' E σ H Q->t E σ H Q):dG X e t':=λpZ s σ H Q E I z=>h pZ s σ H Q E I (q E σ H Q z)
section
variable{t:vW}{T:Tab}{Γ:bU}{k n:Nat}{I:Inf}{X:Cx}
def kF:∀{n:Nat}{I:Inf}{es:List Expr}{xs:PL.vU},SI T n I es=ξ xs->es.all noStar=ζ
 |0,_,_,_,h=>by rw[N1] at h;cases h
 |n+1,I,[],_,_=>rfl
 |n+1,I,e::es,_,h=>by
  rw[Ia,HZ] at h;by_cases z:noStar e=ζ
  .dsimp[z,b5,aD,if_false,aM,ak] at h
   let#[x,_,xs,h2,_]:=h;rw[bH,z,kF h2];rfl
  .simp[z] at h
def Qp(IH:FL t T Γ k n)(G:Good t T Γ k I X):∀{es:List Expr}{xs:PL.vU},SI T (n+1) I es=ξ xs->y6 X es (D6 (X.cc t) Γ xs)
 |[],xs,h=>by
  rw[Ia,HZ] at h;injection h with h;subst h
  rwa[upA λpZ E=>?_]
  rwa[λpos pins' s σ H Q J z=>rS (X:=X.at_ pZ E) pos pins' s σ H Q J ?_]
  let#[env,ρ,S,QU,EU,he,R,w,q,qx]:=z;erw[q [] S [] H ρ w .refl R aZ.nil]
 |e::es,xs,h=>by
  have st:=kF h;rw[bH,aw] at st;rw[Ia,HZ] at h;dsimp[st.1,b5,aD,if_false,aM,ak] at h;let#[x,h1,ys,h2,h3]:=h;injection h3 with h3;subst h3
  rwa[upA λpZ E=>?_]
  have P:=mO (X:=X.at_ pZ E) (dn (IH.fe G.at_ h1)) (Bx (IH.Ql G.at_ h2)) (cx st.1);rwa[λpos pins' s σ H Q J z=>P pos pins' s σ H Q J ?_]
  let#[env,ρ,S,QU,EU,he,R,w,q,qx]:=z;z_go;refine#[env,ρ1,S1,_,EU,he.later R st1,R1,w1,λus S2 vs H2 ρ2 w2 st2 R2 r2=>?_,qx.later st1];erw[q _ _ _ _ _ w2 (st1.trans st2) R2 (aZ.cons (r1.mono R1 st2) r2)]
def Qq(ha:∀pZ E,dG (X.at_ pZ E) a (tE (X.cc t) Γ x)):dG X (.UnaryOp .USub a pos) (tE (X.cc t) Γ (.neg x)):=by
 rwa[up λpZ E=>(Tq (X:=X.at_ pZ E) OY (dn (ha pZ E))).imp ?_]
 kd_p;z_go;let#[i,e,w2]:=PL.f9.mp w1;subst e;exact#[i,aR.mp r1,(q.later st1).now R1 w2 (aR.mpr rfl)]
def Qr(ha:∀pZ E,dG (X.at_ pZ E) a (tE (X.cc t) Γ x)):dG X (.UnaryOp .Not a pos) (tE (X.cc t) Γ (.not x)):=by
 rwa[up λpZ E=>(OH (X:=X.at_ pZ E) (dn (ha pZ E))).imp ?_]
 kd_p;z_go;let#[i,e,w2]:=PL.yQ.mp w1;subst e;exact#[i,fL.mp r1,(q.later st1).now R1 w2 (fL.mpr rfl)]
def Qs(IH:FL t T Γ k n)(G:Good t T Γ k I X):∀{vs:List Expr}{x:PL.Ex},W2 T (n+1) I op vs=ξ x->dG X (.BoolOp op vs pos) (tE (X.cc t) Γ x)
 |[],x,h=>by rw[Ib,H0] at h;cases h
 |[a],x,h=>by
  rw[Ib,H0] at h;rwa[up λpZ E=>OF (X:=X.at_ pZ E) (dn (IH.fe G.at_ h))]
 |a::b::r,y,h=>by
  rw[Ib,H0] at h;dsimp[aM,ak] at h;let#[x,h1,z,h2,h3]:=h;injection h3 with h3;subst h3
  cases op with
  |And=>
   rwa[up λpZ E=>(OG (X:=X.at_ pZ E) (dn (IH.fe G.at_ h1)) (dn (IH.Zb G.at_ h2))).imp ?_]
   kd_p;z_go;let#[i,e,w2]:=PL.yQ.mp w1;subst e;refine#[i,fL.mp r1,?_];cases i with
   |true=>exact#[env,ρ1,S1,QU,EU,he.later R st1,R1,w2,q.later st1,qx.later st1]
   |false=>exact(q.later st1).now R1 w2 (fL.mpr rfl)
  |Or=>
   rwa[up λpZ E=>(SY (X:=X.at_ pZ E) (dn (IH.fe G.at_ h1)) (dn (IH.Zb G.at_ h2))).imp ?_]
   kd_p;z_go;let#[i,e,w2]:=PL.yQ.mp w1;subst e;refine#[i,fL.mp r1,?_];cases i with
   |true=>exact(q.later st1).now R1 w2 (fL.mpr rfl)
   |false=>exact#[env,ρ1,S1,QU,EU,he.later R st1,R1,w2,q.later st1,qx.later st1]
def UT(hc:∀pZ E,CB (X.at_ pZ E) c (tT (X.cc t) Γ x))(ha:∀pZ E,dG (X.at_ pZ E) a (tE (X.cc t) Γ y))(hb:∀pZ E,dG (X.at_ pZ E) b (tE (X.cc t) Γ z)):dG X (.IfExp c a b pos) (tE (X.cc t) Γ (.Fl x y z)):=by
 rwa[up λpZ E=>(GU (X:=X.at_ pZ E) (SJ (hc pZ E)) (dn (ha pZ E)) (dn (hb pZ E))).imp ?_]
 kd_p;refine#[env,ρ,S,_,EU,he,R,w,λb S1 H1 ρ1 w1 st1 R1=>?_,qx];cases b with
 |true=>exact#[env,ρ1,S1,QU,EU,he.later R st1,R1,w1,q.later st1,qx.later st1]
 |false=>exact#[env,ρ1,S1,QU,EU,he.later R st1,R1,w1,q.later st1,qx.later st1]
def Qt(ha:∀pZ E,y6 (X.at_ pZ E) es (D6 (X.cc t) Γ xs)):dG X (.Tuple es j pos) (tE (X.cc t) Γ (.tup xs)):=by
 rwa[up λpZ E=>(O5 (X:=X.at_ pZ E) (Bx (ha pZ E))).imp ?_]
 kd_p;refine#[env,ρ,S,_,EU,he,R,w,λus S1 vs H1 ρ1 w1 st1 R1 r1=>?_,qx];exact#[by rw[<-r1.len];erw[rf w1.1],λp hp=>(q.later st1).P5 R1 r1 w1.2 hp]
def Qu(ha:∀pZ E,y6 (X.at_ pZ E) es (D6 (X.cc t) Γ xs)):dG X (.List es pos) (tE (X.cc t) Γ (.lst xs)):=by
 rwa[up λpZ E=>(O6 (X:=X.at_ pZ E) (Bx (ha pZ E))).imp ?_]
 kd_p;refine#[env,ρ,S,_,EU,he,R,w,λus S1 vs H1 ρ1 w1 st1 R1 r1=>?_,qx];exact#[by rw[<-r1.len];erw[rf w1.1],λp hp=>(q.later st1).FG R1 r1 w1.2 hp]
def ni:∀{fs:List (String×U)}{vs:List (Str×V)},vs.map (·.1)=(fs.map (·.1)).map nm->aZ c ρ H (fs.map (·.2)) (vs.map (·.2))->fs.lookup f=ξ u->(∀a b:String,nm a=nm b->a=b)->∃v,vs.lookup (nm f)=ξ v/\Rep c ρ H u v
 |[],vs,_,_,h,_=>nomatch h
 | (g,w)::fs,[],e,_,_,_=>by simp at e
 | (g,w)::fs,(a,v)::vs,e,r,h,inj=>by
  dsimp[aA,dy] at e;rw[aA,aA] at r;unfold aZ at r;let#[v',r',e',h1,h2]:=r;injection e' with e1 e2
  subst e1;subst e2;rw[aQ] at h ⊢;by_cases z:f=g
  .subst z
   simp at h;subst h;have:(nm f==a)=ζ:=by rw[e.1];simp
   rw[this]
   exact#[v,rfl,h1]
  .have z1:(f==g)=ϑ:=by simp[z]
   rw[z1] at h;have z2:(nm f==a)=ϑ:=by
    rw[e.1]
    dsimp[beq_eq_false_iff_ne,ne_eq];erw[λq=>z (inj _ _ q)]
   rw[z2]
   erw[ni e.2 h2 h inj]
def su(a b:String)(h:nm a=nm b):a=b:=by
 unfold nm at h;rw[Str.ofString_eq_byList] at h;unfold Str.ofStringByList at h;injection h with h
 have h2:=congrArg zO h;dsimp[] at h2;have h3:a.toList=b.toList:=by
  refine(rC (f:=Char.toNat) ?_).mp h2;intro x y e;erw[Char.ext (UInt32.toNat_inj.mp e)]
 erw[String.toList_inj.mp h3]
end
open PL (U SO bE Xn KU KX bU)
def Mo(he:PE X e ta)(hb:gW e f X.env (eval e X.env)=eval e X.env):PE X (.Attribute e f pos) (λσ H Q=>ta σ H λx H1=>
  (∃a C dx fs v,x=.ref a/\H1 a=ξ (.ins C dx fs)/\xm X.K C/\fA X.K C f/\fs.lookup f=ξ v/\Q v H1) \/
  (∃a C d fs v,x=.ref a/\(∃fl,H1 a=ξ (.xc a (fl,.ref C) (ξ d)))/\H1 d=ξ (.xf d fs)/\XGet X.K C/\fA X.K C f/\fs.lookup f=ξ v/\Q v H1)):=by
 k_go;rwa[K7 hb (dS (he pZ s σ H _ I h) λu s1 h9=>?_)];let#[x,H1,I1,rx,z]:=h9;rcases z with⟨a,C,dx,fs,v,ex,ea,c,n,l,q⟩|⟨a,C,d,fs,v,ex,⟨fl,ea⟩,hd,G,n,l,q⟩
 .subst ex
  obtain rfl:u=aL a:=rx;erw[uM I1 ea c n l λu' s2 I2 ru=>#[v,H1,I2,ru,q]]
 .subst ex
  obtain rfl:u=aL a:=rx;let#[#[vs,sl,q0,_],_]:=I1.ck a _ ea;let#[mA,ns,r,_]:=DJ I1.ck hd;let#[oD,es,ep,eo,c]:=id ns;let#[w,hw,rw']:=kO.some_of (v:=v) (o:=mA f) (by rw[<-l];erw[r f]);rwa[LF (ox:=#[.ref C,ξ d,.fields vs,sl]) (od:=ξ oD) I1.jY #[q0,rfl,rfl,eo] G (findObj_own G.hd n rfl ?_) (xk rw') #[v,H1,I1.tok _,rw',q]];let#[o2,e2,hl]:=xj ns;rw[eo] at e2;cases e2;rw[hl f,hw]
section
variable{t:vW}{T:Tab}{Γ:bU}{k n:Nat}{I:Inf}{X:Cx}
def CI{us:List U}{l:List String}(h:l.length=us.length):(l.zip us).map (·.1)=l/\(l.zip us).map (·.2)=us:=by
 constructor
 .erw[jR ∅]
 .erw[jS ∅]
def Qv{o:Expr}{f:String}{x:PL.Ex}{pos:Pos}(G:Good t T Γ k I X)(hf:f∈T.vm)(h0:fK o=ζ)(ho:∀pZ E,dG (X.at_ pZ E) o (tE (X.cc t) Γ x)):dG X (.Attribute o (nm f) pos) (tE (X.cc t) Γ (.fld x f)):=by
 rwa[up λpZ E=>(Mo (X:=X.at_ pZ E) (dn (ho pZ E)) (fD h0)).imp ?_]
 kd_p;z_go;cases u with
 |loc m=>
  let#[c,fs,e,w2]:=PL.mq.mp (show PL.qj _ _ from w1);let#[u,e2,w3]:=PL.gM.mp w2;let#[a,C,dx,vs,ev,_,hc,ha,hn,hr]:=R1.ins e r1;let#[v',l,r2]:=ni hn hr e2 su;let#[cl,na]:=G.tab.cls c C hc;erw[.inl #[a,C,dx,vs,v',ev,ha,cl,na f hf,l,(q.later st1).now R1 w3 r2]]
 |exc c us=>
  let#[u,e2,w3]:=PL.gM.mp (show PL.opt _ _ from w1);unfold Rep at r1;let#[a,d,C,fs,ev,hc,ha,hd,hn,hr]:=r1;let#[xg,_,_,na]:=G.tab.exc c C hc;have hl:(PL.bN c).length=us.length:=by
   have h1:=congrArg dh hn;have h2:=hr.len;simp at h1 h2;omega
  let#[z1,z2]:=CI hl;let#[v',l,r2]:=ni (fs:=(PL.bN c).zip us) (vs:=fs) (%[z1|hn]) (%[z2|hr]) e2 su;erw[.inr #[a,C,d,fs,v',ev,ha,hd,xg,na f hf,l,(q.later st1).now R1 w3 r2]]
 |_=>erw[aJ w1]
def IC(h:lS b=ζ):DF b:=by
 intro o i;cases b<;>first|rfl|cases h
def UU(hs:lS b=ζ)(ha:∀pZ E,dG (X.at_ pZ E) a (tE (X.cc t) Γ x))(hb:∀pZ E,dG (X.at_ pZ E) b (tE (X.cc t) Γ y)):dG X (.Subscript a b pos) (tE (X.cc t) Γ (.ix x y)):=by
 rwa[up λpZ E=>(TN (X:=X.at_ pZ E) (Qg (X:=X.at_ pZ E) (c:=X.cc t) rfl rfl) (dn (ha pZ E)) (dn (hb pZ E)) (IC hs)).imp ?_]
 kd_p;z_go;refine#[env,ρ1,S1,_,EU,he.later R st1,R1,w1,λu2 S2 v2 H2 ρ2 w2 st2 R2 r2=>?_,qx.later st1];refine#[u,u2,ρ2,S2,r1.mono R1 st2,r2,R2,PL.HW (λr h v3 r3=>?_) w2];exact(q.later (st1.trans st2)).now R2 h r3
def UW(IH:FL t T Γ k n)(G:Good t T Γ k I X):∀{oe:Option Expr}{x:PL.Ox},cO T (n+1) I oe=ξ x->∀pZ E,PO (X.at_ pZ E) oe (λσ H Q=>W5 (X.cc t) Γ x (E σ) σ H Q)
 |none,x,h,pZ,E=>by
  rw[UL,W0] at h;injection h with h;subst h
  rwa[λpins' s σ H Q J z=>Lc (X:=X.at_ pZ E) pins' s σ H Q J ?_]
  let#[env,ρ,S,QU,EU,he,R,w,q,qx]:=z;erw[q ψ S H ρ w .refl R]
 |some e,x,h,pZ,E=>by
  rw[UL,W0] at h;let#[y,h1,h2]:=aj.mp h;subst h2;rwa[λpins' s σ H Q J z=>Ld (X:=X.at_ pZ E) (dn (IH.fe G.at_ h1)) pins' s σ H Q J ?_]
  let#[env,ρ,S,QU,EU,he,R,w,q,qx]:=z;z_go;let#[i,e,w2]:=PL.f9.mp w1;subst e;exact#[i,aR.mp r1,q _ _ _ _ w2 st1 R1]
def UX{a:Expr}{lo hi:Option Expr}{x:PL.Ex}{y z:PL.Ox}{pos p2:Pos}(ha:∀pZ E,dG (X.at_ pZ E) a (tE (X.cc t) Γ x))(hl:∀pZ E,PO (X.at_ pZ E) lo (λσ H Q=>W5 (X.cc t) Γ y (E σ) σ H Q))(hh:∀pZ E,PO (X.at_ pZ E) hi (λσ H Q=>W5 (X.cc t) Γ z (E σ) σ H Q)):dG X (.Subscript a (.Slice lo hi ψ p2) pos) (tE (X.cc t) Γ (.sl x y z)):=by
 rwa[up λpZ E=>(Hd (X:=X.at_ pZ E) (Qj (X:=X.at_ pZ E) (c:=X.cc t) rfl) (dn (ha pZ E)) (hl pZ E) (hh pZ E)).imp ?_]
 kd_p;z_go;refine#[env,ρ1,S1,_,EU,he.later R st1,R1,w1,λl S2 H2 ρ2 w2 st2 R2=>?_,qx.later st1];have st12:=st1.trans st2;refine#[env,ρ2,S2,_,EU,he.later R st12,R2,w2,λh S3 H3 ρ3 w3 st3 R3=>?_,qx.later st12];exact#[u,ρ3,S3,QU,r1.mono R1 (st2.trans st3),R3,w3,q.later (st12.trans st3)]
end
open PL (U SO bE Xn KU KX bU)
section
variable{t:vW}{T:Tab}{Γ:bU}{k n:Nat}{I:Inf}{X:Cx}
def Qw(G:Good t T Γ k I X)(hg:I.gl f=ζ)(hb:P1 f=ξ b)(hp:pick T.fP f=ξ s)(hcalm:X.calm=ζ)(hA:X.A.handled=ψ)(h1:noStar e=ζ)(h2:es.all noStar=ζ)
  (ha:∀pZ E,y6 (X.at_ pZ E) (e::es) (D6 (X.cc t) Γ xs)):dG X (.Call (.Name f p) (e::es) [] pos) (tE (X.cc t) Γ (.blt b xs)):=by
 let#[hm,rfl]:=iD hp;have hn:=G.tab.fP s hm;have rd:∀(pZ:List (Addr×Obj))(E:St->XK)(σ:St)(H:Hp)(Q:VK),tE (X.cc t) Γ (.blt b xs) (E σ) σ H Q->XQ (tf (X.cc t) b) (λσ H Q=>D6 (X.cc t) Γ xs (E σ) σ H Q) σ H Q:=by
  rintro pZ E σ H Q ⟨env,ρ,S,QU,EU,he,R,w,q,qx⟩;exact#[env,ρ,S,_,EU,he,R,w,λus S1 vs H1 ρ1 w1 st1 R1 r1=>#[us,ρ1,S1,QU,r1,R1,w1,q.later st1],qx]
 have sx:∀(pZ:List (Addr×Obj))(E:St->XK),bM (e::es) (X.at_ pZ E).env=(ϑ,eval e (X.at_ pZ E).env)::bM es (X.at_ pZ E).env:=λ_ _=>cx h1
 have sy:∀(pZ:List (Addr×Obj))(E:St->XK),(hV pos (bM es (X.at_ pZ E).env)).any (·.1)=ϑ:=λ_ _=>eZ h2
 unfold P1 at hb;by_cases c1:(nm s==("len":Str))=ζ
 .rw[if_pos c1] at hb;injection hb with hb;subst hb
  have ef:nm s=("len":Str):=by simpa using c1
  rw[ef] at hg hn ⊢;erw[up λpZ E=>(ou (X:=X.at_ pZ E) (Mg rfl) (gH G hg) hn PySem.boot_len (Bx (ha pZ E)) ⋯ ⋯ (sx pZ E) (sy pZ E)).imp (rd pZ E)]
 rw[if_neg c1] at hb;by_cases c2:(nm s==("tuple":Str))=ζ
 .rw[if_pos c2] at hb;injection hb with hb;subst hb
  have ef:nm s=("tuple":Str):=by simpa using c2
  rw[ef] at hg hn ⊢;erw[up λpZ E=>(oR (X:=X.at_ pZ E) (FJ rfl) (gH G hg) hn (by decide +kernel) (Bx (ha pZ E)) ⋯ ⋯ (sx pZ E) (sy pZ E)).imp (rd pZ E)]
 rw[if_neg c2] at hb;by_cases c4:(nm s==("list":Str))=ζ
 .rw[if_pos c4] at hb;injection hb with hb;subst hb
  have ef:nm s=("list":Str):=by simpa using c4
  rw[ef] at hg hn ⊢;erw[up λpZ E=>(oR (X:=X.at_ pZ E) (Iq rfl) (gH G hg) hn (by decide +kernel) (Bx (ha pZ E)) ⋯ ⋯ (sx pZ E) (sy pZ E)).imp (rd pZ E)]
 rw[if_neg c4] at hb;by_cases c8:(nm s==("sum":Str))=ζ
 .rw[if_pos c8] at hb;injection hb with hb;subst hb
  have ef:nm s=("sum":Str):=by simpa using c8
  rw[ef] at hg hn ⊢;erw[up λpZ E=>(ou (X:=X.at_ pZ E) (Mh hcalm) (gH G hg) hn boot_sum (Bx (ha pZ E)) ⋯ ⋯ (sx pZ E) (sy pZ E)).imp (rd pZ E)]
 rw[if_neg c8] at hb;by_cases c10:(nm s==("dict":Str))=ζ
 .rw[if_pos c10] at hb;injection hb with hb;subst hb
  have ef:nm s=("dict":Str):=by simpa using c10
  rw[ef] at hg hn ⊢;erw[up λpZ E=>(oR (X:=X.at_ pZ E) (Iu hA) (gH G hg) hn (by decide +kernel) (Bx (ha pZ E)) ⋯ ⋯ (sx pZ E) (sy pZ E)).imp (rd pZ E)]
 rw[if_neg c10] at hb;by_cases c11:(nm s==("max":Str))=ζ
 .rw[if_pos c11] at hb;injection hb with hb;subst hb
  have ef:nm s=("max":Str):=by simpa using c11
  rw[ef] at hg hn ⊢;erw[up λpZ E=>(ou (X:=X.at_ pZ E) (Mi hcalm) (gH G hg) hn (by decide +kernel) (Bx (ha pZ E)) ⋯ ⋯ (sx pZ E) (sy pZ E)).imp (rd pZ E)]
 rw[if_neg c11] at hb;by_cases c12:(nm s==("min":Str))=ζ
 .rw[if_pos c12] at hb;injection hb with hb;subst hb
  have ef:nm s=("min":Str):=by simpa using c12
  rw[ef] at hg hn ⊢;erw[up λpZ E=>(ou (X:=X.at_ pZ E) (Ir hcalm) (gH G hg) hn (by decide +kernel) (Bx (ha pZ E)) ⋯ ⋯ (sx pZ E) (sy pZ E)).imp (rd pZ E)]
 rw[if_neg c12] at hb;cases hb
end
open PL (U SO bE Xn KU KX bU)
section
variable{t:vW}{T:Tab}{Γ:bU}{k n:Nat}{I:Inf}{X:Cx}
abbrev UY:PL.NR->String
 |.join=>"str"|.index=>"str"|.startswith=>"str"|.append=>"list"|.yO=>"list"|.wq=>"tuple"|.extend=>"list"|.mU=>"int"|_=>"dict"
def ID(hb:b=.join\/b=.index\/b=.append\/b=.extend\/b=.startswith\/b=.mV\/b=.yO\/b=.wq)(R:b6 c ρ H S)(r:Rep c ρ H u v)(w:PL.qP b u S):WD c.K (UY b) v H:=by
 rcases hb with rfl|rfl|rfl|rfl|rfl|rfl|rfl|rfl
 .cases u<;>first|exact aJ w| (rw[bz.mp r];rfl)
 .cases u<;>first|exact aJ w| (rw[bz.mp r];rfl)
 .cases u<;>first|exact aJ w|skip
  let#[us,e,_]:=PL.cY.mp (show PL.getL _ _ from w);let#[a,vs,ev,_,h1,_]:=R.lst e r;rw[ev]
  erw[.inl #[rfl,vs,iy.of h1]]
 .cases u<;>first|exact aJ w|skip
  let#[us,e,_]:=PL.cY.mp (show PL.getL _ _ from w);let#[a,vs,ev,_,h1,_]:=R.lst e r;rw[ev]
  erw[.inl #[rfl,vs,iy.of h1]]
 .cases u<;>first|exact aJ w| (rw[bz.mp r];rfl)
 .cases u<;>first|exact aJ w|skip
  rename_i n;let#[a,ev,ha]:=dJ.mp r;have w:(match S[n]? with|some (.df _)=>True|some (.r9 _)=>True|some (.vd _)=>True|_=>False):=w;rw[ev]
  rwa[.inr (.inr (.inl #[rfl,?_]))];cases hs:S[n]? with
  |none=>rw[hs] at w;erw[w.elim]
  |some o=>
   rw[hs] at w;cases o with
   |df kvs=>let#[vs,h1,_]:=R.at_ n a _ ha hs;erw[.inl #[vs,h1]]
   |r9 kvs=>let#[vs,h1,_]:=R.at_ n a _ ha hs;erw[.inr (.inl #[vs,h1])]
   |vd kvs=>let#[vs,h1,_]:=R.at_ n a _ ha hs;erw[.inr (.inr #[vs,h1])]
   |_=>erw[w.elim]
 .cases u<;>first|exact aJ w|skip
  let#[us,e,_]:=PL.cY.mp (show PL.getL _ _ from w);let#[a,vs,ev,_,h1,_]:=R.lst e r;rw[ev]
  erw[.inl #[rfl,vs,iy.of h1]]
 .cases u<;>first|exact aJ w|skip
  let#[p,vs,e,h1,h2]:=dg.mp r;rw[e]
  erw[.inr (.inl #[rfl,vs,h1])]
def oB(h:es.all noStar=ζ)(hn:es.length<20):((hV cpos (bM es env)).all (λx=>!x.1)&&(backToKw cpos (jC [] env)).all (λx=>x.1.isSome)
   && decide (es.length+([]:List p9).length+(if ([]:List p9).isEmpty then 0 else 1)<30))=ζ:=by
 have:=xP (pos:=cpos) (env:=env) h hn;unfold BK at this;erw[this]
def Qx{m:Str}{lx:Nat}{o e:Expr}{es:List Expr}{b:PL.NR}{x:PL.Ex}{xs:PL.vU}{apos cpos:Pos}(G:Good t T Γ k I X)(hb:P2 lx m=ξ b)(hA:X.A.handled=ψ)(h0:fK o=ζ)(hl:(apos.endLine==cpos.line)=ζ)(hn:(e::es).length<20)(h1:noStar e=ζ)(h2:es.all noStar=ζ)
  (ho:∀pZ E,dG (X.at_ pZ E) o (tE (X.cc t) Γ x)) (ha:∀pZ E,y6 (X.at_ pZ E) (e::es) (D6 (X.cc t) Γ xs)):dG X (.Call (.Attribute o m apos) (e::es) [] cpos) (tE (X.cc t) Γ (.mW b x xs)):=by
 have hst:(e::es).all noStar=ζ:=by rw[bH,h1,h2];rfl
 have rd:∀(hb':b=.join\/b=.index\/b=.append\/b=.extend\/b=.startswith\/b=.mV\/b=.yO\/b=.wq)(E:St->XK)(σ:St)(H:Hp)(Q:VK),tE (X.cc t) Γ (.mW b x xs) (E σ) σ H Q->ZH X.K (UY b) (tj (X.cc t) b) (λσ H Q=>tE (X.cc t) Γ x (E σ) σ H Q) (λσ H Q=>D6 (X.cc t) Γ xs (E σ) σ H Q) σ H Q:=by
  rintro hb' E σ H Q ⟨env,ρ,S,QU,EU,he,R,w,q,qx⟩;refine#[env,ρ,S,_,EU,he,R,w,λu S1 v H1 ρ1 w1 st1 R1 r1=>#[ID (c:=X.cc t) hb' R1 r1 w1.1,?_],qx];exact#[env,ρ1,S1,_,EU,he.later R st1,R1,w1.2,λus S2 vs H2 ρ2 w2 st2 R2 r2=>#[u,us,ρ2,S2,QU,r1.mono R1 st2,r2,R2,w2,q.later (st1.trans st2)],qx.later st1]
 unfold P2 at hb;by_cases c1:(m==("join":Str))=ζ
 .rw[if_pos c1] at hb;injection hb with hb;subst hb
  have ef:m=("join":Str):=by simpa using c1
  subst ef;erw[up λpZ E=>(xv (X:=X.at_ pZ E) yx PySem.F.slot_str_join PySem.F.type_str_join (Iv rfl) (dn (ho pZ E)) (Bx (ha pZ E)) (fD h0) (oB hst hn) hl (cx h1) (eZ h2)).imp (rd (#v[]) E)]
 rw[if_neg c1] at hb;by_cases c2:(m==("index":Str))=ζ
 .rw[if_pos c2] at hb;injection hb with hb;subst hb
  have ef:m=("index":Str):=by simpa using c2
  subst ef;by_cases l1:(lx==1)=ζ
  .rw[if_pos l1] at rd ⊢
   erw[up λpZ E=>(xv (X:=X.at_ pZ E) wU wR PySem.F.type_list_index (Iw rfl) (dn (ho pZ E)) (Bx (ha pZ E)) (fD h0) (oB hst hn) hl (cx h1) (eZ h2)).imp (rd (#v[]) E)]
  rw[if_neg l1] at rd ⊢;by_cases l2:(lx==2)=ζ
  .rw[if_pos l2] at rd ⊢
   erw[up λpZ E=>(xv (X:=X.at_ pZ E) PySem.F.plainAttrs_tuple we PySem.F.type_tuple_index (Iy rfl) (dn (ho pZ E)) (Bx (ha pZ E)) (fD h0) (oB hst hn) hl (cx h1) (eZ h2)).imp (rd (#v[]) E)]
  rw[if_neg l2] at rd ⊢;erw[up λpZ E=>(xv (X:=X.at_ pZ E) yx PySem.F.slot_str_index PySem.F.type_str_index (FK hA) (dn (ho pZ E)) (Bx (ha pZ E)) (fD h0) (oB hst hn) hl (cx h1) (eZ h2)).imp (rd (#v[]) E)]
 rw[if_neg c2] at hb;by_cases c3:(m==("append":Str))=ζ
 .rw[if_pos c3] at hb;injection hb with hb;subst hb
  have ef:m=("append":Str):=by simpa using c3
  subst ef;erw[up λpZ E=>(xv (X:=X.at_ pZ E) wU PySem.F.slot_list_append PySem.F.type_list_append CH (dn (ho pZ E)) (Bx (ha pZ E)) (fD h0) (oB hst hn) hl (cx h1) (eZ h2)).imp (rd (#v[]) E)]
 rw[if_neg c3] at hb;by_cases c6:(m==("setdefault":Str))=ζ
 .rw[if_pos c6] at hb;injection hb with hb;subst hb
  have ef:m=("setdefault":Str):=by simpa using c6
  subst ef;erw[up λpZ E=>(xv (X:=X.at_ pZ E) iS tH PySem.F.type_dict_setdefault (Iz G.units) (dn (ho pZ E)) (Bx (ha pZ E)) (fD h0) (oB hst hn) hl (cx h1) (eZ h2)).imp (rd (#v[]) E)]
 rw[if_neg c6] at hb;cases hb
def Mp(G:Good t T Γ k I X)(h0:fK o=ζ)(hl:(apos.endLine==cpos.line)=ζ)(ho:∀pZ E,dG (X.at_ pZ E) o (tE (X.cc t) Γ x)):
  dG X (.Call (.Attribute o ("bit_length":Str) apos) [] [] cpos) (tE (X.cc t) Γ (.mW .mU x .nil)):=by
 rwa[up λpZ E=>(Hf (X:=X.at_ pZ E) PySem.F.plainAttrs_int PySem.F.slot_int_bit_length PySem.F.type_int_bit_length (CD (c:=X.cc t)) (dn (ho pZ E)) (fD h0) hl).imp ?_]
 kd_p;refine#[env,ρ,S,_,EU,he,R,w,λu S1 v H1 ρ1 w1 st1 R1 r1=>#[?_,u,[],ρ1,S1,QU,r1,aZ.nil,R1,w1.2,q.later st1],qx];cases u<;>first|exact aJ w1.1| (rw[aR.mp r1];rfl)
def Qy(G:Good t T Γ k I X)(h0:fK o=ζ)(hl:(apos.endLine==cpos.line)=ζ)(h1:noStar a=ζ)(h2:noStar d=ζ)(ho:∀pZ E,dG (X.at_ pZ E) o (tE (X.cc t) Γ x))
  (ha:∀pZ E,dG (X.at_ pZ E) a (tE (X.cc t) Γ y)) (hd:∀pZ E,dG (X.at_ pZ E) d (tE (X.cc t) Γ z)):dG X (.Call (.Attribute o ("get":Str) apos) [a,d] [] cpos) (tE (X.cc t) Γ (.mW .get x (.cons y (.cons z .nil)))):=by
 have hst:[a,d].all noStar=ζ:=by rw[bH,bH,h1,h2];rfl
 refine up λpZ E=>(Ho (X:=X.at_ pZ E) (by have:=G.units;show X.A.units+1<eF;omega) (dn (ho pZ E)) (dn (ha pZ E)) (dn (hd pZ E)) #[fD h0,oB hst (show 2<20 by decide),hl,by
  rw[cx (e:=a) (es:=[d]) h1,cx (e:=d) (es:=[]) h2];rfl]).imp ?_
 kd_p;z_go;let#[w1,w2]:=w1;cases u<;>first|exact aJ w1|skip
 rename_i n;let#[kvs,e,_]:=PL.iV.mp (show PL.iA _ _ from w1);let#[a1,vs,e1,ha1,g1,g2,g3,g4]:=R1.dd e r1;refine#[a1,e1,.inl #[vs,g1],env,ρ1,S1,_,EU,he.later R st1,R1,w2,λu2 S2 v2 H2 ρ2 w3 st2 R2 r2=>?_,qx.later st1];refine#[env,ρ2,S2,_,EU,(he.later R st1).later R1 st2,R2,w3,λu3 S3 v3 H3 ρ3 w4 st3 R3 r3=>?_,(qx.later st1).later st2];have r2':=r2.mono R2 st3;cases u2<;>first|exact aJ w4|skip
 rename_i k;let#[kvs',e',ps,ep,w5]:=PL.Au.mp (show PL.getD _ _ from w4);let#[vs',f1,f2,f3,f4]:=R3.at_ n a1 _ (st3.get (st2.get ha1)) e';subst ep;have g:=rX.k (k:=iZ (ξ (tx k))) f1;rw[bz.mp r2']
 rcases Mj (k:=k) f2 f3 f4 with⟨l1,l2⟩|⟨u',v',l1,l2,l3⟩
 .rw[l2] at g
  rw[l1] at w5;exact#[ψ,g,(q.later ((st1.trans st2).trans st3)).now R3 w5 r3]
 .rw[l2] at g
  rw[l1] at w5;exact#[ξ v',g,(q.later ((st1.trans st2).trans st3)).now R3 w5 l3]
def Mq(G:Good t T Γ k I X)(h0:fK o=ζ)(hl:(apos.endLine==cpos.line)=ζ)(h1:noStar a=ζ)(ho:∀pZ E,dG (X.at_ pZ E) o (tE (X.cc t) Γ x))
  (ha:∀pZ E,dG (X.at_ pZ E) a (tE (X.cc t) Γ y)):dG X (.Call (.Attribute o ("get":Str) apos) [a] [] cpos) (tE (X.cc t) Γ (.mW .get x (.cons y .nil))):=by
 have hst:[a].all noStar=ζ:=by rw[bH,h1];rfl
 refine up λpZ E=>(Hn (X:=X.at_ pZ E) (by have:=G.units;show X.A.units+1<eF;omega) (dn (ho pZ E)) (dn (ha pZ E)) #[fD h0,oB hst (show 1<20 by decide),hl,by
  rw[cx (e:=a) (es:=[]) h1];rfl]).imp ?_
 kd_p;z_go;let#[w1,w2]:=w1;cases u<;>first|exact aJ w1|skip
 rename_i n;let#[kvs,e,_]:=PL.iV.mp (show PL.iA _ _ from w1);let#[a1,vs,e1,ha1,g1,g2,g3,g4]:=R1.dd e r1;refine#[a1,e1,.inl #[vs,g1],env,ρ1,S1,_,EU,he.later R st1,R1,w2,λu2 S2 v2 H2 ρ2 w3 st2 R2 r2=>?_,qx.later st1];have r1':=r1.mono R1 st2;have w3:PL.pJ .get (.loc n) [u2] S2 QU:=w3;have w3:PL.iA S2[n]? λkvs=>PL.lY u2=ζ/\QU ((PL.se u2 kvs).getD .bK) S2:=by cases u2<;>exact w3
 let#[kvs',e',hk,w5]:=PL.iV.mp w3;let#[a2,vs',e2,_,f1,f2,f3,f4]:=R2.dd e' r1';rw[e1] at e2;cases e2;have g:rX H2 a1 v2 (jk vs' (vt u2)):=.inl #[vs',vt u2,f1,jL hk r2,rfl];rcases rj hk f2 f3 f4 with⟨l1,l2⟩|⟨u',v',l1,l2,l3⟩
 .rw[l2] at g
  rw[l1] at w5;exact#[ψ,g,(q.later (st1.trans st2)).now R2 w5 (dW.mpr rfl)]
 .rw[l2] at g
  rw[l1] at w5;exact#[ξ v',g,(q.later (st1.trans st2)).now R2 w5 l3]
def Qz(G:Good t T Γ k I X)(hs:lS b=ζ)(ha:∀pZ E,dG (X.at_ pZ E) a (tE (X.cc t) Γ x))(hb:∀pZ E,dG (X.at_ pZ E) b (tE (X.cc t) Γ y)):dG X (.Subscript a b pos) (tE (X.cc t) Γ (.DO x y)):=by
 refine up λpZ E=>(Lm (X:=X.at_ pZ E) (by have:=G.units;show X.A.units+1<eF;omega) (dn (ha pZ E)) (dn (hb pZ E)) (by cases b<;>first|exact ff hs| (intro _ _;rfl))).imp ?_
 kd_p;z_go;refine#[env,ρ1,S1,_,EU,he.later R st1,R1,w1,λu2 S2 v2 H2 ρ2 w2 st2 R2 r2=>?_,qx.later st1];let#[n,rfl,w2]:=PL.iF.mp (show PL.sd _ _ from w2);let#[kvs,e,hk,w3]:=PL.iV.mp w2;let#[u',l1,w4]:=PL.gM.mp w3;let#[a1,vs,e1,ha1,g1,g2,g3,g4]:=R2.dd e (r1.mono R1 st2);rcases rj hk g2 g3 g4 with⟨z1,_⟩|⟨u3,v',z1,l2,l3⟩
 .rw[l1] at z1;cases z1
 .rw[l1] at z1;cases z1
  exact#[a1,v',e1,.inl #[vs,vt u2,g1,jL hk r2,l2.symm],(q.later (st1.trans st2)).now R2 w4 l3]
def Mr:dG X (.Dict [] [] pos) (tE (X.cc t) Γ (.df .nil .nil)):=by
 rwa[up λpZ E=>(LQ (X:=X.at_ pZ E)).imp ?_]
 kd_p;have w:QU (.loc S.length) (S++[.df []])\/QU (.loc S.length) (S++[.r9 []])\/QU (.loc S.length) (S++[.vd []]):=w.2;have al:∀{ho:HO}{o:SO},QU (.loc S.length) (S++[o])->(∀p,tO (X.cc t) (ρ++[p]) (upd H p ho) p o)->∀p,H p=ψ->Q (.ref p) (upd H p ho):=λw z p hp=>by
  rwa[q _ _ _ _ _ w (gu.alloc R hp _) (R.alloc hp (z p)) (dJ.mpr #[p,rfl,?_])];rw[<-R.len,aB (ar _),bQ];rfl
 rcases w with w|w|w
 .exact#[.dK [],.inl rfl,al w λp=>#[[],a9,rfl,aZ.nil,aZ.nil]]
 .exact#[.dT [],.inr (.inl rfl),al w λp=>#[[],a9,rfl,aZ.nil]]
 .exact#[.dP [],.inr (.inr rfl),al w λp=>#[[],a9,rfl,aZ.nil]]
def Ms(G:Good t T Γ k I X)(hg:I.gl ("list":Str)=ζ)(hb:"list"∈T.fP)(hc:X.calm=ζ)(h0:fK o=ζ)(hl:(ap.endLine==cp.line)=ζ)(ho:∀pZ E,dG (X.at_ pZ E) o (tE (X.cc t) Γ x)):
  dG X (.Call (.Name ("list":Str) p) [.Call (.Attribute o ("values":Str) ap) [] [] cp] [] pos) (tE (X.cc t) Γ (.mW .vals x .nil)):=by
 refine up λpZ E=>(oR (X:=X.at_ pZ E) (Cv hc) (gH G hg) (G.tab.fP "list" hb) (by decide +kernel)
  (mO (Hf (X:=X.at_ pZ E) iS wd PySem.F.type_dict_values Fy (dn (ho pZ E)) (fD h0) hl) rS (cx rfl)) ⋯ ⋯ (cx rfl) rfl).imp ?_
 kd_p;z_go;let#[w1,w2]:=w1;cases u<;>first|exact aJ w1|skip
 rename_i n;let#[a,ev,ha]:=dJ.mp r1;have w2:PL.pJ .vals (.loc n) [] S1 QU:=w2;have w2:(match S1[n]? with|some (.r9 kvs)=>QU (.loc S1.length) (S1++[.lst (kvs.map (·.2))])|_=>False):=w2;cases hs:S1[n]? with
 |none=>rw[hs] at w2;erw[w2.elim]
 |some o=>
  rw[hs] at w2;cases o with
  |r9 kvs=>
   let#[vs,g1,g2,g3]:=R1.at_ n a _ ha hs;refine#[%[ev|.inr (.inr (.inl #[rfl,.inr (.inl #[vs,g1])]))],a,vs,ev,rfl,g1,λp hp=>?_];have st2:=gu.lay R1 hp (Up p a);exact#[p,a,vs,rfl,a9,%[a7 (dk g1 hp)|g1],λl hl=>(q.later (st1.trans st2)).FG (R1.lay hp _) (g3.mono R1 st2) w2 hl]
  |_=>erw[w2.elim]
def Mt(G:Good t T Γ k I X)(hg:I.gl (nm q)=ζ)(hc:I.calm=ζ)(hq:q∈T.fns)(hd:(nm q==("__debug__":Str))=ϑ)(h1:noStar e=ζ)(h2:es.all noStar=ζ)
  (ha:y6 X (e::es) (D6 (X.cc t) Γ xs)):dG X (.Call (.Name (nm q) p) (e::es) [] pos) (tE (X.cc t) Γ (.call q xs)):=by
 let#[f,hm,hk,fd,ps,F,B]:=G.Km.fns q hq;refine(Zd (k:=k) F ((G.calm hc).2.mono (hW k)) (gH G hg) hm hk B ha hd h1 h2).imp ?_;rintro E σ H Q ⟨env,ρ,S,QU,EU,he,R,w,qq,qx⟩;refine#[env,ρ,S,_,EU,he,R,w,λus S1 vs H1 ρ1 w1 st1 R1 r1=>?_,qx];exact#[us,ρ1,S1,QU,EU,r1,R1,w1,qq.later st1,qx.later st1]
def IE(G:Good t T Γ k I X)(hg:I.gl (nm q)=ζ)(hc:I.calm=ζ)(hq:q∈T.fns)(hd:(nm q==("__debug__":Str))=ϑ):dG X (.Call (.Name (nm q) p) [] [] pos) (tE (X.cc t) Γ (.call q .nil)):=by
 let#[f,hm,hk,fd,ps,F,B]:=G.Km.fns q hq;refine(UQ (k:=k) F ((G.calm hc).2.mono (hW k)) (gH G hg) hm hk B hd).imp ?_;rintro E σ H Q ⟨env,ρ,S,QU,EU,he,R,w,qq,qx⟩;exact#[[],ρ,S,QU,EU,aZ.nil,R,w,qq,qx]
def AL(R:b6 c ρ H S)(hc:c.cls cn=ξ C)(hx:H x=ψ)(hd:H dx=ψ)(ne:dx≠x):
  gu ρ H (ρ++[x]) (upd (upd H dx (.own x)) x (.ins C dx []))/\b6 c (ρ++[x]) (upd (upd H dx (.own x)) x (.ins C dx [])) (S++[.ins cn []])/\Rep c (ρ++[x]) (upd (upd H dx (.own x)) x (.ins C dx [])) (.loc S.length) (.ref x):=by
 have R1:=R.lay hd (.own x);have s1:=gu.lay R hd (.own x);have hx1:upd H dx (.own x) x=ψ:=%[a7 (bI ne)|hx]
 have s2:=gu.alloc R1 hx1 (.ins C dx []);refine#[s1.trans s2,R1.alloc hx1 #[C,dx,[],hc,a9,rfl,aZ.nil],dJ.mpr #[x,rfl,?_]];rw[<-R.len,aB (ar _),bQ];rfl
def UZ(G:Good t T Γ k I X)(hg:I.gl (nm q)=ζ)(hc:I.calm=ζ)(hq:q∈T.qk)(hd:(nm q==("__debug__":Str))=ϑ)(h1:noStar e=ζ)(h2:es.all noStar=ζ)
  (ha:y6 X (e::es) (D6 (X.cc t) Γ xs)):dG X (.Call (.Name (nm q) p) (e::es) [] pos) (tE (X.cc t) Γ (.mk q (q++".__init__") xs)):=by
 let#[C,f,hC,hm,M,fd,ps,F,B]:=G.Km.cls q hq;refine(Zf (k:=k) M F (G.calm hc).2 (gH G hg) hm B ha hd h1 h2).imp ?_;rintro E σ H Q ⟨env,ρ,S,QU,EU,he,R,w,qq,qx⟩;refine#[env,ρ,S,_,EU,he,R,w,λus S1 vs H1 ρ1 w1 st1 R1 r1=>?_,qx];intro x dx hx hdx ne;let#[s2,R2,r2]:=AL R1 hC hx hdx ne;refine#[_,ρ1++[x],_,_,EU,aZ.cons r2 (r1.mono R1 s2),R2,w1,λu S3 v H3 ρ3 w3 st3 R3 r3=>?_,qx.later (st1.trans s2)];let#[rfl,w4]:=w3;exact#[dW.mp r3,qq _ _ _ _ _ w4 ((st1.trans s2).trans st3) R3 (r2.mono R2 st3)]
def QC(G:Good t T Γ k I X)(hg:I.gl (nm q)=ζ)(hc:I.calm=ζ)(hq:q∈T.qk)(hd:(nm q==("__debug__":Str))=ϑ):dG X (.Call (.Name (nm q) p) [] [] pos) (tE (X.cc t) Γ (.mk q (q++".__init__") .nil)):=by
 let#[C,f,hC,hm,M,fd,ps,F,B]:=G.Km.cls q hq;refine(US (k:=k) M F (G.calm hc).2 (gH G hg) hm B hd).imp ?_;rintro E σ H Q ⟨env,ρ,S,QU,EU,he,R,w,qq,qx⟩;intro x dx hx hdx ne;let#[s2,R2,r2]:=AL R hC hx hdx ne;refine#[_,ρ++[x],_,_,EU,aZ.cons r2 aZ.nil,R2,w,λu S3 v H3 ρ3 w3 st3 R3 r3=>?_,qx.later s2];let#[rfl,w4]:=w3;exact#[dW.mp r3,qq _ _ _ _ _ w4 (s2.trans st3) R3 (r2.mono R2 st3)]
def lookup_none:∀{fs:List (String×U)}{vs:List (Str×V)}{m:String},vs.map (·.1)=(fs.map (·.1)).map nm->fs.lookup m=ψ->vs.lookup (nm m)=ψ
 |[],[],_,_,_=>rfl
 |[],_::_,_,e,_=>by simp at e
 |_::_,[],_,e,_=>by simp at e
 | (g,w)::fs,(a,v)::vs,m,e,h=>by
  dsimp[aA,dy] at e;rw[aQ] at h ⊢;by_cases z:m=g
  .subst z;simp at h
  .have z1:(m==g)=ϑ:=by simp[z]
   rw[z1] at h;have z2:(nm m==a)=ϑ:=by
    rw[e.1]
    dsimp[beq_eq_false_iff_ne,ne_eq];erw[λq=>z (su _ _ q)]
   rw[z2]
   erw[lookup_none e.2 h]
def Mu(G:Good t T Γ k I X)(hc:I.calm=ζ)(hq:(m,q)∈T.qm)(h0:fK o=ζ)(hl:(apos.endLine==pos.line)=ζ)(hn:(e::es).length<20)(h1:noStar e=ζ)(h2:es.all noStar=ζ)
  (ho:dG X o (tE (X.cc t) Γ x)) (ha:y6 X (e::es) (D6 (X.cc t) Γ xs)):dG X (.Call (.Attribute o (nm m) apos) (e::es) [] pos) (tE (X.cc t) Γ (.cB q m (q++"."++m) x xs)):=by
 let#[C,f,hC,M,fd,ps,F,B]:=G.Km.SK (m,q) hq;refine(Ze (k:=k) ho (G.tab.cls q C hC).1 M F ((G.calm hc).2.mono (hW k)) B ha h0 hn hl h1 h2).imp ?_;rintro E σ H Q ⟨env,ρ,S,QU,EU,he,R,w,qq,qx⟩;z_go;let#[l,e1,w2]:=PL.iF.mp w1;subst e1;let#[c',fs,e2,#[rfl,e3],w3]:=PL.mq.mp w2;let#[a,C',dx,vs,ev,_,hC',ha',hnn,_]:=R1.ins e2 r1;rw[hC] at hC';injection hC' with hC';subst hC'
 refine#[a,dx,vs,ev,ha',lookup_none hnn e3,?_];refine#[env,ρ1,S1,_,EU,he.later R st1,R1,w3,λus S2 vs2 H2 ρ2 w4 st2 R2 r2=>?_,qx.later st1];exact#[_,ρ2,S2,QU,EU,aZ.cons (r1.mono R1 st2) r2,R2,w4,qq.later (st1.trans st2),qx.later (st1.trans st2)]
def IF(G:Good t T Γ k I X)(hc:I.calm=ζ)(hq:(m,q)∈T.qm)(h0:fK o=ζ)(hl:(apos.endLine==pos.line)=ζ)
  (ho:dG X o (tE (X.cc t) Γ x)):dG X (.Call (.Attribute o (nm m) apos) [] [] pos) (tE (X.cc t) Γ (.cB q m (q++"."++m) x .nil)):=by
 let#[C,f,hC,M,fd,ps,F,B]:=G.Km.SK (m,q) hq;refine(UR (k:=k) ho (G.tab.cls q C hC).1 M F ((G.calm hc).2.mono (hW k)) B h0 hl).imp ?_;rintro E σ H Q ⟨env,ρ,S,QU,EU,he,R,w,qq,qx⟩;z_go;let#[l,e1,w2]:=PL.iF.mp w1;subst e1;let#[c',fs,e2,#[rfl,e3],w3]:=PL.mq.mp w2;let#[a,C',dx,vs,ev,_,hC',ha',hnn,_]:=R1.ins e2 r1;rw[hC] at hC';injection hC' with hC';subst hC'
 refine#[a,dx,vs,ev,ha',lookup_none hnn e3,?_];exact#[_,ρ1,S1,QU,EU,aZ.cons r1 aZ.nil,R1,w3,qq.later st1,qx.later st1]
end
open PL (U SO bE Xn KU KX bU)
section
variable{t:vW}{T:Tab}{Γ:bU}{k n:Nat}{I:Inf}{X:Cx}
abbrev N3(c:Ctx):PL.Ty->Option (V×Value)
 |.int=>ξ (.ty "int",.type "int")|.bool=>ξ (.ty "bool",.type "bool")|.str=>ξ (.ty "str",.type "str")|.list=>ξ (.ty "list",.type "list")
 |.tuple=>ξ (.ty "tuple",.type "tuple")|.dict=>ξ (.ty "dict",.type "dict")|.Fj=>ξ (.ty "ValueError",.type "ValueError")
 |.own x=>(c.exc x).map λC=>(.ref C,.ref C)
def CJ{c:Ctx}{tv:Value}{q p:V×Value}{x b:Bool}(hp:ξ q=ξ p)(h:ξ x=ξ b)(e:rM c.K tv q.2=ξ x):rM c.K tv p.2=ξ b:=by cases hp;cases h;erw[e]
def QD(Tb:Ec c T)(R:b6 c ρ H S)(r:Rep c ρ H u v)(h:PL.Py S u ty=ξ b)(hp:N3 c ty=ξ p):∃tv,WH c.K H v tv/\rM c.K tv p.2=ξ b:=by
 cases u with
 |bK=>rw[dW.mp r];refine#[_,.of .bK,?_];cases ty<;>first|exact nn h|exact CJ hp h rfl
 |bl x=>rw[fL.mp r];refine#[_,.of (.bl x),?_];cases ty<;>first|exact nn h|exact CJ hp h rfl
 |int x=>rw[aR.mp r];refine#[_,.of (.int x),?_];cases ty<;>first|exact nn h|exact CJ hp h rfl
 |str x=>rw[bz.mp r];refine#[_,.of (.str _),?_];cases ty<;>first|exact nn h|exact CJ hp h rfl
 |tup us=>
  let#[a,vs,e,h1,h2]:=dg.mp r;rw[e];refine#[_,.of (.tup h1),?_];cases ty<;>first|exact nn h|exact CJ hp h rfl
 |loc m=>
  change PL.NW S[m]? ty=ξ b at h
  cases q:S[m]? with
  |none=>rw[q] at h;erw[nn h]
  |some o=>
   rw[q] at h;cases o with
   |lst us=>
    let#[a,vs,e,_,h1,h2]:=R.lst q r;rw[e];refine#[_,.of (.lst h1),?_];cases ty<;>first|exact nn h|exact CJ hp h rfl
   |df kvs=>
    let#[a,e,ha]:=dJ.mp r;let#[vs,h1,_]:=R.at_ m a _ ha q;rw[e];refine#[_,.of (.dK h1),?_];cases ty<;>first|exact nn h|exact CJ hp h rfl
   |ins x fs=>erw[nn h]
   |pI _=>erw[nn h]
   |r9 _=>erw[nn h]
   |vd _=>erw[nn h]
 |tL ns=>erw[nn h]
 |tab kvs=>erw[nn h]
 |exc x us=>
  unfold Rep at r;let#[a,d,C,fs,e,hC,#[_,ha],hd,_,_]:=r;let#[_,xi,_,_]:=Tb.exc x C hC;rw[e]
  refine#[_,.exc ha hd xi,?_];cases ty<;>first|exact nn h|skip
  .cases h;cases hp;erw[Tb.Za x C hC]
  .rename_i y
   cases h;let#[D,hD,e9]:=aj.mp hp;cases e9;have:=Tb.Y9 x C y D hC hD;simpa using this
def vx{x:Str}{n:String}{pos:Pos}(G:Good t T Γ k I X)(g:I.gl x=ζ)(c:(x==(n:Str)&&T.fP.contains n)=ζ)(hv:jT (n:Str)=ξ (.type n))(hn:(n:Str)≠"__name__")(hd:((n:Str)== ("__debug__":Str))=ϑ):∀pZ E,PE (X.at_ pZ E) (.Name x pos) (tC (.ty n)):=by
 rw[aw] at c;obtain rfl:x=(n:Str):=eq_of_beq c.1;exact λpZ E=>KQ (X:=X.at_ pZ E) (gH G g) (G.tab.fP n (~~~c.2)) hv rfl hn hd
def QE(G:Good t T Γ k I X)(hh:YS T I e=ξ ty):∃p,N3 (X.cc t) ty=ξ p/\ZM p.1 p.2/\noStar e=ζ/\∀pZ E,PE (X.at_ pZ E) e (tC p.1):=by
 let#[x,h0,h]:=ak.mp hh;let#[pos,rfl]:=D3 h0;by_cases g:(I.gl x&&x !=("__debug__":Str))=ζ
 case neg=>rw[if_neg g] at h;erw[nn h]
 rw[if_pos g] at h;rw[aw] at g;by_cases c:(x==("int":Str)&&T.fP.contains "int")=ζ
 .rw[if_pos c] at h;obtain rfl:=aG h
  exact#[_,rfl,rfl,rfl,vx G g.1 c (by decide +kernel) ⋯ ⋯]
 rw[if_neg c] at h;clear c;by_cases c:(x==("bool":Str)&&T.fP.contains "bool")=ζ
 .rw[if_pos c] at h;obtain rfl:=aG h
  exact#[_,rfl,rfl,rfl,vx G g.1 c (by decide +kernel) ⋯ ⋯]
 rw[if_neg c] at h;clear c;by_cases c:(x==("str":Str)&&T.fP.contains "str")=ζ
 .rw[if_pos c] at h;obtain rfl:=aG h
  exact#[_,rfl,rfl,rfl,vx G g.1 c (by decide +kernel) ⋯ ⋯]
 rw[if_neg c] at h;clear c;by_cases c:(x==("list":Str)&&T.fP.contains "list")=ζ
 .rw[if_pos c] at h;obtain rfl:=aG h
  exact#[_,rfl,rfl,rfl,vx G g.1 c (by decide +kernel) ⋯ ⋯]
 rw[if_neg c] at h;clear c;by_cases c:(x==("tuple":Str)&&T.fP.contains "tuple")=ζ
 .rw[if_pos c] at h;obtain rfl:=aG h
  exact#[_,rfl,rfl,rfl,vx G g.1 c (by decide +kernel) ⋯ ⋯]
 rw[if_neg c] at h;clear c;by_cases c:(x==("dict":Str)&&T.fP.contains "dict")=ζ
 .rw[if_pos c] at h;obtain rfl:=aG h
  exact#[_,rfl,rfl,rfl,vx G g.1 c (by decide +kernel) ⋯ ⋯]
 rw[if_neg c] at h;clear c;by_cases c:(x==("ValueError":Str)&&T.fP.contains "ValueError")=ζ
 .rw[if_pos c] at h;obtain rfl:=aG h
  exact#[_,rfl,rfl,rfl,vx G g.1 c (by decide +kernel) ⋯ ⋯]
 rw[if_neg c] at h;clear c;let#[s,h1,h2]:=aj.mp h;subst h2;let#[hm,rfl]:=iD h1;let#[C,hC,hmg]:=G.tab.UP s hm;exact#[(.ref C,.ref C),congrArg (Ds λC=>(V.ref C,aL C)) hC,rfl,rfl,λpZ E=>Dy (X:=X.at_ pZ E) (gH G g.1) hmg rfl (~~~g.2)]
def QF(G:Good t T Γ k I X)(hg:I.gl ("isinstance":Str)=ζ)(hb:"isinstance"∈T.fP)(h1:noStar a=ζ)(hc:YS T I c=ξ ty)(ha:∀pZ E,dG (X.at_ pZ E) a (tE (X.cc t) Γ x)):
  dG X (.Call (.Name ("isinstance":Str) p) [a,c] [] pos) (tE (X.cc t) Γ (.DN x [ty])):=by
 let#[pv,e1,rv,h2,hp]:=QE G hc;rwa[up λpZ E=>(ou (X:=X.at_ pZ E) HC (gH G hg) (G.tab.fP "isinstance" hb) boot_isinstance (mO (dn (ha pZ E)) (mO (hp pZ E) rS (cx h2)) (cx h1)) ⋯ ⋯ (cx h1) (eZ (by simp[h2]))).imp ?_]
 kd_p;z_go;let#[b,e2,w2]:=PL.gM.mp w1;dsimp[PL.DS] at e2;cases e3:PL.Py S1 u ty with
 |none=>rw[e3] at e2;erw[nn e2]
 |some b'=>
  rw[e3] at e2;simp at e2;subst e2;let#[tv,h3,h4]:=QD G.tab R1 r1 e3 e1;exact#[v,pv.1,tv,pv.2,b',rfl,h3,rv,h4,(q.later st1).now R1 w2 (fL.mpr rfl)]
end
open PL (U SO bE Xn KU KX bU)
def QG(hl:PE X l tl):PI X tg l (λσ H R=>tl σ H λx H1=>(∃a,x=.ref a/\(∃xs,iy X.K H1 a xs)/\R (Xx X.K a) H1)\/(∃a,x=.ref a/\(∃xs,nB X.K H1 a xs)/\R (Xy X.K a) H1)\/∃z,x=.str z/\R (Ue z) H1):=by
 intro pZ s σ H R I h;rwa[dS (hl pZ s σ H _ I h) λv s1 h9=>?_]
 let#[x,H1,I1,r1,q1]:=h9;rcases q1 with⟨a,e,⟨xs,hq⟩,q⟩|⟨a,e,⟨xs,hq⟩,q⟩|⟨z,e,q⟩
 .subst e
  cases r1;let#[its,rv,p,hz]:=I1.list hq;rwa[wb p.isList ?_];refine#[s1.heap.objs.size,[s1.heap.objs.size],_,_,H1,rfl,I1.kept (t':=s1.toks) λb o e=>az _ e,EX a _,#[_,a3 _ rfl,rfl,rfl],λb hb=>?_,q];have e:b=s1.heap.objs.size:=by simpa using hb
  subst e;erw[I1.z8 (ar _) (I1.ck.fresh (ar _))]
 .subst e
  cases r1;let#[its,rv,p,hz]:=I1.tuple hq;rwa[wpAny_pyIter_tuple (show s1.heap.IsTuple a its.toArray from p) ?_];refine#[s1.heap.objs.size,[s1.heap.objs.size],_,_,H1,rfl,I1.kept (t':=s1.toks) λb o e=>az _ e,BW a _,#[_,a3 _ rfl,rfl,rfl],λb hb=>?_,q];have e:b=s1.heap.objs.size:=by simpa using hb
  subst e;erw[I1.z8 (ar _) (I1.ck.fresh (ar _))]
 .subst e
  let#[t,rfl]:=r1;have fin:∀(b:Bool)(o:Obj),o={cls:=.type (if b then "str_ascii_iterator" else "str_iterator"),data:=.fields (List.toArray [.str z t,.int 0 0])}->Xw X pZ σ tg R (.ref s1.heap.objs.size) {s1 with heap:=s1.heap.push o}:=λb o eo=>by
   refine#[s1.heap.objs.size,[s1.heap.objs.size],_,Ue z,H1,rfl,I1.kept (t':=s1.toks) λb o e=>az _ e,Hy _ z t b,#[_,a3 _ (by rw[eo];rfl),by rw[eo],by rw[eo];rfl],λc hc=>?_,q];have e:c=s1.heap.objs.size:=by simpa using hc
   subst e;erw[I1.z8 (ar _) (I1.ck.fresh (ar _))]
  cases ha:z.cps.all (·<128)
  .erw[wpAny_pyIter_wide ha (fin ϑ _ rfl)]
  .erw[wpAny_pyIter_ascii ha (fin ζ _ rfl)]
section
variable{c:Ctx}{ρ:List Addr}{H:Hp}{S:bE}
def Mv{n:Nat}{us:List U}{a:Addr}(ha:ρ[n]?=ξ a):AJ c ρ H (Xx c.K a) us (λS'=>S'[n]?=ξ (.lst us)):=by
 intro i ρ2 H2 S2 st R g;let#[vs,h1,h2]:=R.at_ n a _ (st.get ha) g;refine#[λu hu=>?_,λhl=>#[vs,iy.of h1,by rw[<-h2.len];erw[hl]]];let#[v,e,r]:=h2.get hu;refine#[#[vs,v,iy.of h1,e],λy H3 h9=>?_];let#[e3,hy]:=h9;subst e3;have:=hy vs (iy.of h1);rw[e] at this;injection this with this;subst this
 exact#[.refl,R,r]
def QH(R0:b6 c ρ H S)(h1:H a=ξ (.tup vs))(h2:aZ c ρ H us vs):AJ c ρ H (Xy c.K a) us (λ_=>True):=by
 intro i ρ2 H2 S2 st R g;have h1':=st.fr a _ h1 (R0.not h1 rfl);have h2':=h2.mono R0 st;refine#[λu hu=>?_,λhl=>#[vs,nB.of h1',by rw[<-h2'.len];erw[hl]]];let#[v,e,r]:=h2'.get hu;refine#[#[vs,v,nB.of h1',e],λy H3 h9=>?_];let#[e3,hy]:=h9;subst e3;have:=hy vs (nB.of h1');rw[e] at this;injection this with this;subst this
 exact#[.refl,R,r]
def QJ:AJ c ρ H (Ue (tx l)) (l.map λd=>.str [d]) (λ_=>True):=by
 intro i ρ2 H2 S2 st R g;refine#[λu hu=>?_,λhl=>?_]
 .rw[aE] at hu
  let#[d,e,e2]:=aj.mp hu;subst e2;refine#[?_,λy H3 #[e3,d',e4,e5]=>?_]
  .show i<(tx l).cps.size
   have:=(ag.mp e).1;simpa using this
  .subst e3
   have:l[i]?=ξ d':=by simpa using e4
   rw[e] at this;injection this with this;subst this
   rw[e5]
   exact#[.refl,R,bz.mpr rfl]
 .show(tx l).cps.size<=i
  simpa using hl
def Mw{n:Nat}{us:List U}{a:Addr}(ha:ρ[n]?=ξ a):AJ c ρ H (WM c.K a) (us.mapIdx λi u=>.tup [.int (i:Nat),u]) (λS'=>S'[n]?=ξ (.lst us)):=by
 intro i ρ2 H2 S2 st R g;let#[vs,h1,h2]:=R.at_ n a _ (st.get ha) g;refine#[λu hu=>?_,λhl=>#[vs,iy.of h1,by rw[<-h2.len];simpa using hl]];rw[dA] at hu;let#[u',e0,e1]:=aj.mp hu;subst e1;let#[v,e,r]:=h2.get e0;refine#[#[vs,v,iy.of h1,e],λy H3 h9=>?_];let#[p,x,hp,e3,e4,hy]:=h9;have:=hy vs (iy.of h1);rw[e] at this;injection this with this;subst this
 subst e3 e4;have st':=gu.lay R hp (.tup [.int (i:Nat),v]);exact#[st',R.lay hp _,dg.mpr #[p,_,rfl,a9,aZ.cons (aR.mpr rfl) (aZ.cons (r.mono R st') aZ.nil)]]
def Ed{n:Nat}{a:Addr}{o:Obj}{kvs:List (U×U)}{vs:List (Key×V)}(ha:ρ[n]?=ξ a)(h:H a=ξ (.pP o (.dK vs))):AJ c ρ H (Sx a o vs) (kvs.map (·.1)) (λS'=>S'[n]?=ξ (.pI kvs)):=by
 intro i ρ2 H2 S2 st R g;have e:=st.fz a o vs h;let#[o',vs',h1,h2,h3,_]:=R.at_ n a _ (st.get ha) g;rw[e] at h1;cases h1;refine#[λu hu=>?_,λhl=>#[e,by rw[h2];simpa using hl]];have hi:i<vs.length:=by rw[h2];have:=(ag.mp hu).1;simpa using this
 refine#[#[e,hi],λy H3 h9=>?_];let#[e3,k,v,e4,e5]:=h9;subst e3 e5;let#[v2,e6,r]:=h3.get hu;rw[aE,e4] at e6;cases e6;exact#[.refl,R,r]
def QK{n:Nat}{us:List U}{a:Addr}(ha:ρ[n]?=ξ a):AJ c ρ H (X7 c.K a us.length) us.reverse (λS'=>S'[n]?=ξ (.lst us)):=by
 intro i ρ2 H2 S2 st R g;let#[vs,h1,h2]:=R.at_ n a _ (st.get ha) g;refine#[λu hu=>?_,λhl=>by show us.length<=i;simpa using hl];have hi:i<us.length:=by have:=(ag.mp hu).1;simpa using this
 rw[BL hi] at hu;let#[v,e,r]:=h2.get hu;refine#[#[vs,v,iy.of h1,hi,e],λy H3 h9=>?_];let#[e3,hy]:=h9;have:=hy vs (iy.of h1);rw[e] at this;injection this with this;subst this;subst e3
 exact#[.refl,R,r]
def IG:AJ c ρ H (Wz 0 n) ((b9 n).map λk=>.int (k:Nat)) (λ_=>True):=by
 intro i ρ2 H2 S2 st R g;refine#[λu hu=>?_,λhl=>?_]
 .rw[aE] at hu
  let#[d,e,e2]:=aj.mp hu;subst e2;have hi:=(ag.mp e).1;rw[eL] at hi;rw[iE hi] at e;injection e with e;subst e
  refine#[hi,λy H3 h9=>?_];let#[e3,e4]:=h9;subst e3;subst e4;exact#[.refl,R,aR.mpr (#v[])]
 .show n<=i
  simpa using hl
end
section
variable{t:vW}{T:Tab}{Γ:bU}{k n:Nat}{I:Inf}{X:Cx}
def QL{e tg:Expr}{x:PL.Ex}(h:∀pZ E,dG (X.at_ pZ E) e (tE (X.cc t) Γ x))(pZ:List (Addr×Obj))(E:St->XK):PI (X.at_ pZ E) tg e (λσ H R=>xN (X.cc t) Γ (.val x) (E σ) σ H R):=by
 rwa[λpins' s σ H Q J z=>QG (X:=X.at_ pZ E) (dn (h pZ E)) pins' s σ H Q J ?_]
 let#[env,ρ,S,RU,EU,he,R,w,q,qx]:=z;z_go;cases u with
 |str l=>rw[bz.mp r1];erw[.inr (.inr #[_,rfl,q _ _ _ _ _ _ w1 st1 R1 QJ])]
 |tup us=>
  let#[a,vs,e1,h1,h2]:=dg.mp r1;erw[.inr (.inl #[a,e1,#[vs,nB.of h1],q _ _ _ _ _ _ w1.2 st1 R1 (QH R1 h1 h2)])]
 |loc m=>
  let#[us,e0,w2]:=PL.cY.mp (show PL.getL _ _ from w1);let#[a,vs,e1,ha,h1,h2]:=R1.lst e0 r1;erw[.inl #[a,e1,#[vs,iy.of h1],q _ _ _ _ _ _ w2 st1 R1 (Mv ha)]]
 |_=>erw[aJ w1]
def Mx{e tg:Expr}{x:PL.Ex}(h:∀pZ E,dG (X.at_ pZ E) e (tE (X.cc t) Γ x))(pZ:List (Addr×Obj))(E:St->XK):PI (X.at_ pZ E) tg e (λσ H R=>xN (X.cc t) Γ (.keys x) (E σ) σ H R):=by
 rwa[λpins' s σ H Q J z=>Lr (X:=X.at_ pZ E) (dn (h pZ E)) pins' s σ H Q J ?_]
 let#[env,ρ,S,RU,EU,he,R,w,q,qx]:=z;z_go;let#[n,rfl,w1]:=PL.iF.mp (show PL.sd _ _ from w1);let#[kvs,e,w2]:=PL.iV.mp w1;let#[a,ev,ha]:=dJ.mp r1;rcases e with e|e
 .let#[vs,g1,g2,g3,g4]:=R1.at_ n a _ ha e
  refine#[a,vs,ev,.inl #[g1,λo=>?_]];have st2:=gu.put (H:=H1) (ax ha) g1 rfl (.pP o (.dK vs));erw[q _ _ _ _ _ _ w2 (st1.trans st2) (R1.put ha g1 rfl #[o,vs,a9,g2,g3.mono R1 st2,g4.mono R1 st2]) (Ed ha a9)]
 .let#[o,vs,g1,g2,g3,g4]:=R1.at_ n a _ ha e
  have es:S1.set n (.pI kvs)=S1:=by
   let#[hl,e2]:=ag.mp e;rw[<-e2];erw[List.set_getElem_self hl]
  rw[es] at w2;exact#[a,vs,ev,.inr #[o,g1,q _ _ _ _ _ _ w2 st1 R1 (Ed ha g1)]]
def II(G:Good t T Γ k I X)(hg:I.gl ("range":Str)=ζ)(hb:"range"∈T.fP)(h1:noStar a=ζ)(h:∀pZ E,dG (X.at_ pZ E) a (tE (X.cc t) Γ x))(pZ:List (Addr×Obj))(E:St->XK):
  PI (X.at_ pZ E) tg (.Call (.Name ("range":Str) p) [a] [] pos) (λσ H R=>xN (X.cc t) Γ (.range x) (E σ) σ H R):=by
 rwa[λpins' s σ H Q J z=>EY (X:=X.at_ pZ E) (gH G hg) (G.tab.fP "range" hb) (mO (dn (h pZ E)) rS (cx h1)) (cx h1) pins' s σ H Q J ?_]
 let#[env,ρ,S,RU,EU,he,R,w,q,qx]:=z;z_go;let#[j,e,w2,w3,w4]:=PL.f9.mp w1;subst e;exact#[j,by rw[aR.mp r1],∅,∅,q _ _ _ _ _ _ w4 st1 R1 IG]
def QM(G:Good t T Γ k I X)(hg:I.gl ("reversed":Str)=ζ)(hb:"reversed"∈T.fP)(h1:noStar a=ζ)(h:∀pZ E,dG (X.at_ pZ E) a (tE (X.cc t) Γ x))(pZ:List (Addr×Obj))(E:St->XK):
  PI (X.at_ pZ E) tg (.Call (.Name ("reversed":Str) p) [a] [] pos) (λσ H R=>xN (X.cc t) Γ (.rev x) (E σ) σ H R):=by
 rwa[λpins' s σ H Q J z=>PC (X:=X.at_ pZ E) (gH G hg) (G.tab.fP "reversed" hb) (mO (dn (h pZ E)) rS (cx h1)) (cx h1) pins' s σ H Q J ?_]
 let#[env,ρ,S,RU,EU,he,R,w,q,qx]:=z;z_go;let#[m,e,w2]:=PL.iF.mp w1;subst e;let#[us,e0,w3]:=PL.cY.mp w2;let#[b,vs,e1,hb,g1,g2]:=R1.lst e0 r1;subst e1;exact#[b,vs,rfl,iy.of g1,by rw[<-g2.len];erw[q _ _ _ _ _ _ w3 st1 R1 (QK hb)]]
def Zg{n:Nat}{e:Expr}{x:PL.It}{es:List Expr}{ek:Nat}{tp:Pos}(IH:FL t T Γ k n)(G:Good t T Γ k I X)(h:cN T (n+1) I e=ξ x)(pZ:List (Addr×Obj))(E:St->XK):PI (X.at_ pZ E) (.Tuple es ek tp) e (λσ H R=>xN (X.cc t) Γ x (E σ) σ H R):=by
 rw[YY] at h;delta stN at h;split at h
 .rename_i f a hr
  let#[p,cp,rfl]:=N0 hr;split at h
  .rename_i hc
   dsimp[aw] at hc;let#[#[#[c1,c2],c3],c4]:=hc;have ef:f=("enumerate":Str):=by simpa using c1
   subst ef;let#[y,h1,h2]:=aj.mp h;subst h2;refine λpins' s σ H Q J z=>LO (X:=X.at_ pZ E) (gH G c2) (G.tab.fP "enumerate" (~~~c3)) (mO (dn (IH.fe G.at_ h1)) rS (cx c4)) (cx c4) pins' s σ H Q J ?_
   let#[env,ρ,S,RU,EU,he,R,w,q,qx]:=z;z_go;let#[m,e,w2]:=PL.iF.mp w1;subst e;let#[us,e0,w3]:=PL.cY.mp w2;let#[b,vs,e1,hb,g1,g2]:=R1.lst e0 r1;subst e1;exact#[b,rfl,#[vs,iy.of g1],q _ _ _ _ _ _ w3 st1 R1 (Mw hb)]
  .erw[nn h]
 .erw[nn h]
def Ee:∀{n:Nat}{I:Inf}{e:Expr}{x:PL.Ex},cE T n I e=ξ x->noStar e=ζ:=by
 intro n I e x h;cases n with
 |zero=>erw[nn h]
 |succ n=>
  cases e<;>first|rfl|exact nn h
def U0(IH:FL t T Γ k n)(G:Good t T Γ k I X)(h:cI T (n+1) I e=ξ x)(pZ:List (Addr×Obj))(E:St->XK):PI (X.at_ pZ E) tg e (λσ H R=>xN (X.cc t) Γ x (E σ) σ H R):=by
 have gen:∀{x:PL.It},(cE T n I e).map PL.It.val=ξ x->PI (X.at_ pZ E) tg e (λσ H R=>xN (X.cc t) Γ x (E σ) σ H R):=λh=>by
  let#[y,h1,h2]:=aj.mp h;subst h2;erw[QL (λpZ E=>IH.fe G.at_ h1) pZ E]
 rw[YW] at h;delta stI at h;split at h
 .rename_i f a hr
  let#[p,cp,rfl]:=N0 hr;split at h
  .rename_i hf
   split at h
   .rename_i hc
    rw[aw] at hc;let#[y,h1,h2]:=aj.mp h;subst h2;have ef:f=("range":Str):=by simpa using hf
    subst ef;exact II G hc.1 (~~~hc.2) (Ee h1) (λpZ E=>IH.fe G.at_ h1) pZ E
   .erw[nn h]
  .split at h
   .rename_i hf
    split at h
    .rename_i hc
     rw[aw] at hc;let#[y,h1,h2]:=aj.mp h;subst h2;have ef:f=("reversed":Str):=by simpa using hf
     subst ef;exact QM G hc.1 (~~~hc.2) (Ee h1) (λpZ E=>IH.fe G.at_ h1) pZ E
    .erw[nn h]
   .erw[gen h]
 .split at h
  .let#[y,h1,h2]:=aj.mp h
   subst h2;erw[Mx (λpZ E=>IH.fe G.at_ h1) pZ E]
  .erw[gen h]
end
open PL (U SO bE Xn KU KX bU)
section
variable{c:Ctx}{ρ ρ2:List Addr}{H H2:Hp}{S:bE}
def gu.U1(a:gu ρ H ρ2 H2)(h:H D=ψ):gu ρ H (ρ2++[D]) H2:=by
 let#[m,e]:=a.pre;refine#[#[m++[D],by rw[e,eJ]],λb hb nb=>?_,a.fr,a.fz];rcases aT.mp hb with z|z
 .erw[a.new b z nb]
 .rw[aX.mp z];erw[h]
def gu.AE(a:gu ρ H ρ2 H2)(h:H D=ψ)(o:HO):gu ρ H ρ2 (upd H2 D o):=
 #[a.pre,a.new,λb o' h1 h2=>%[a7 (dk h1 h)|a.fr b o' h1 h2],λb o' vs h1=>%[a7 (dk h1 h)|a.fz b o' vs h1]]
def gu.out(a:gu ρ H ρ2 H2)(h:H D=ξ o)(n:D∉ρ):D∉ρ2/\H2 D=ξ o:=by
 refine#[λz=>?_,a.fr D o h n];have:=a.new D z n;rw[h] at this;cases this
def IJ(he:iY c ρ H env σ)(r:iY c ρ H us ys):iY c ρ H (us++PL.mz env ci) (ys++gE σ ci):=by
 have hl:=r.len;refine#[by simp[PL.mz,gE,hl],λi w e=>?_];by_cases lt:i<us.length
 .rw[aq lt] at e
  rw[aq ∅]
  erw[r.at_ i w e]
 .rw[aB ∅] at e
  rw[aB ∅,<-hl]
  generalize i-us.length=i at e ⊢;unfold PL.mz at e;unfold gE;rw[aE] at e ⊢;cases q:ci[i]? with
  |none=>rw[q] at e;cases e
  |some j=>
   rw[q] at e;dsimp[j8,pE] at e ⊢;cases z:env[j]? with
   |none=>rw[z] at e;cases e
   |some o=>
    rw[z] at e;cases o with
    |none=>cases e
    |some w'=>
     simp at e;subst e;let#[v,e1,r1]:=he.at_ j w' z;exact#[v,by rw[e1];rfl,r1]
def U2(r:Rep c ρ H u y):iY c ρ H [ξ u] [ξ y]:=
 #[rfl,λi w e=>by cases i<;>simp at e;subst e;exact#[y,rfl,r]]
def U3(r:Rep c ρ H u y)(r':Rep c ρ H u' y'):iY c ρ H [ξ u,ξ u'] [ξ y,ξ y']:=
 #[rfl,λi w e=>by
  match i with
  |0=>simp at e;subst e;exact#[y,rfl,r]
  |1=>simp at e;subst e;exact#[y',rfl,r']
  |i+2=>simp at e]
end
section
variable{t:vW}{T:Tab}{Γ:bU}{k n:Nat}{I:Inf}{X:Cx}
def CB.no(h:CB X e tt)(hx:∀e s,X.xe e s↔False):PT X e (λσ H Q=>tt (λ_ _ _=>False) σ H Q):=by
 intro pZ s σ H Q J z;rwa[bg (h pZ s σ H Q _ J z) (λ_ _ q=>q) λu s' q=>?_]
 let#[a,tb,cl,dx,H',_,_,_,_,w]:=q;erw[aJ w]
def dG.no(h:dG X e tt)(hx:∀e s,X.xe e s↔False):PE X e (λσ H Q=>tt (λ_ _ _=>False) σ H Q):=by
 intro pZ s σ H Q J z;rwa[bg (h pZ s σ H Q _ J z) (λ_ _ q=>q) λu s' q=>?_]
 let#[a,tb,cl,dx,H',_,_,_,_,w]:=q;erw[aJ w]
def mem_lookup:∀{l:List (Str×NameKind)}{y:Str}{k:NameKind},l.lookup y=ξ k->(y,k)∈l
 |[],_,_,h=>nomatch h
 | (a,b)::l,y,k,h=>by
  rw[aQ] at h;by_cases e:y=a
  .subst e;simp at h;subst h;erw[aV]
  .have e2:(y==a)=ϑ:=by simp[e]
   rw[e2] at h;erw[ay _ (mem_lookup h)]
def vy(G:Good t T Γ k I X)(h:vn I sc x=ζ):Am X sc x:=by
 unfold vn at h;dsimp[aw,bu] at h;let#[#[#[#[#[h1,h2],h3],h4],h5],h6]:=h;refine#[~~~h1,λy hy e=>?_,λy hy e=>?_,λy hy e=>?_,λy hy=>by simpa using h5 y hy,of_decide_eq_true h6,λy e=>?_]
 .have:=h2 y hy;rw[e] at this;simpa using this
 .have:=h3 y hy;rw[e] at this;simpa using this
 .have:=h4 y hy;rw[e] at this;rw[G.names];simpa using this
 .erw[mem_lookup e]
def Ef(G:Good t T Γ k I X)(h:(iC I sc).mapM (λy=>dr y I.N)=ξ ci):yM X sc (iC I sc) ci:=by
 have key:∀(l:List Str)(ci:List Nat),l.mapM (λy=>dr y I.N)=ξ ci->ci.length=l.length/\∀(k:Nat)(y:Str),l[k]?=ξ y->∃j:Nat,ci[k]?=ξ j/\I.N[j]?=ξ y:=by
  intro l;induction l with
  |nil=>intro ci h;simp at h;subst h;exact#[rfl,λk y e=>by simp at e]
  |cons a l ih=>
   intro ci h;dsimp[List.mapM_cons,aM,ak] at h;let#[j,h1,r,h2,h3]:=h;simp at h3;subst h3;let#[q1,q2]:=ih r h2;refine#[by simp[q1],λk y e=>?_];cases k with
   |zero=>simp at e;subst e;exact#[j,rfl,dD h1]
   |succ k=>simp at e ⊢;erw[q2 k y e]
 let#[q1,q2]:=key _ _ h;refine#[q1,λk y e=>?_,λy hy=>?_]
 .rw[G.slots];erw[q2 k y e]
 .unfold iC at hy
  have:=(fZ.mp hy).2;simpa using this
def rn(G:Good t T Γ k I X)(hc:I.calm=ζ)(h:vn I sc x=ζ)(cp:yM X sc (iC I sc) ci)(hn:(iC I sc).Nodup):
  Good t T Γ k #[qY I sc.names,x++iC I sc,ζ] (X.u6 sc C (x++iC I sc) s₀ H₀ ex):=by
 have B:=vy G h;refine#[G.tab,G.Km,B.kind,?_,rfl,r6 cp B hn,λ_=>G.calm hc,G.units];show(GF sc X.env).names=_;unfold GF qY;simp only
 congr 1
 funext p
 let#[a,b]:=p;dsimp[G.kind,Env.kindOf,G.names];simp
def xS(z:tE (X.cc t) Γ (.comp pr e it tc ci) E σ H Q):
  Hv (Uc X.K pr) (λσ H R=>xN (X.cc t) Γ it E σ H R) ci (λσ H Q=>tT (X.cc t) Γ tc (λ_ _ _=>False) σ H Q) (λσ H Q=>tE (X.cc t) Γ e (λ_ _ _=>False) σ H Q) σ H Q:=by
 let#[env,ρ,S,QU,EU,he0,R,w,q,qx]:=z;refine#[env,ρ,S,_,EU,he0,R,w,λus g S1 H1 ρ1 J w1 st1 R1 io=>?_,qx];intro D hD;have he1:=he0.later R st1;have D0:D∉ρ1:=R1.FF hD
 let F:=PL.lM g (λu S2 k=>PL.pS pr u (PL.mz env ci) λen=>PL.WT Γ tc en S2 k λ_ _=>False)
   (λu S2 k=>PL.pS pr u (PL.mz env ci) λen=>PL.WE Γ e en S2 k λ_ _=>False) (λacc S3=>QU (.loc S3.length) (S3++[.lst acc]))
 refine#[λi m acc H2=>m+i=us.length/\∃ρ2 S2 accU,gu ρ1 H1 ρ2 H2/\b6 (X.cc t) ρ2 H2 S2/\D∉ρ2/\H2 D=ξ (.lst acc)/\aZ (X.cc t) ρ2 H2 accU acc/\F (us.drop i) accU S2,#[us.length,rfl,ρ1,S1,[],gu.lay R1 hD _,R1.lay hD _,D0,a9,aZ.nil,w1],?_];rintro i m acc H2 ⟨hm,ρ2,S2,accU,st2,R2,D2,hD2,ra,wc⟩;have hlen:acc.length=accU.length:=ra.len.symm;cases hd:us.drop i with
 |nil=>
  rw[hd] at wc;obtain⟨g2,hl,w2⟩:g S2/\accU.length<1000000/\QU (U.loc S2.length) (S2++[SO.lst accU]):=wc;refine#[hD2,%[hlen|au hl ⋯],.inl #[((io i ρ2 H2 S2 st2 R2 g2).2 (Dt.mp hd)),?_]];rwa[q _ _ _ _ _ w2 (st1.trans (st2.U1 hD)) (R2.join D2 #[acc,hD2,ra]) (dJ.mpr #[D,rfl,?_])];rw[<-R2.len,aB (ar _),bQ];rfl
 |cons u rest=>
  rw[hd] at wc;obtain⟨g2,hl,w0⟩:g S2/\accU.length<1000000/\PL.pS pr u (PL.mz env ci) λen=>PL.WT Γ tc en S2 (λb S3=>if b=ζ then PL.pS pr u (PL.mz env ci) (λen=>PL.WE Γ e en S3 (λv S4=>F rest (accU++[v]) S4) (λ_ _=>False)) else F rest accU S3) (λ_ _=>False):=wc
  have hu:us[i]?=ξ u:=by
   have:=congrArg (λl=>l[0]?) hd;simpa using this
  have hr:us.drop (i+1)=rest:=by
   have:=congrArg List.tail hd;simpa using this
  have hi:i<us.length:=(ag.mp hu).1;let#[jg,jy]:=(io i ρ2 H2 S2 st2 R2 g2).1 u hu;refine#[hD2,by rw[hlen];exact au hl ⋯,.inr #[jg,λy H3 hy=>?_]];let#[st3,R3,ry]:=jy y H3 hy;let#[_,hD3]:=st3.out hD2 D2;have ra3:=ra.mono R2 st3;obtain⟨us',τ,rτ,w2,kτ⟩:∃(us':PL.Env)(τ:St),iY (X.cc t) ρ2 H3 us' τ/\PL.WT Γ tc (us'++PL.mz env ci) S2 (λb S3=>if b=ζ then PL.WE Γ e (us'++PL.mz env ci) S3 (λv S4=>F rest (accU++[v]) S4) (λ_ _=>False) else F rest accU S3) (λ_ _=>False)/\∀k:St->Prop,k τ->Uc X.K pr y H3 k:=by
   cases pr with
   |false=>exact#[[ξ u],[ξ y],U2 ry,w0,λk z=>z]
   |true=>
    let#[u1,u2,eu,w2]:=PL.DP.mp w0;subst eu;let#[a,vs,e1,ha,hr2]:=dg.mp ry;let#[v1,v2,ev,r1,r2]:=AH hr2;subst ev;exact#[[ξ u1,ξ u2],[ξ v1,ξ v2],U3 r1 r2,w2,λk z=>#[a,v1,v2,e1,nB.of ha,z]]
  have he3:=IJ (ci:=ci) (he1.later R1 (st2.trans st3)) rτ;rwa[kτ _ #[_,ρ2,S2,_,_,he3,R3,w2,λb S4 H4 ρ4 w4 st4 R4=>?_,λ_ _ _ _ _ _ z=>aJ z]];let#[D4,hD4]:=st4.out hD3 D2;have ra4:=ra3.mono R3 st4;cases b with
  |false=>exact#[m-1,∅,∅,ρ4,S4,accU,(st2.trans st3).trans st4,R4,D4,hD4,ra4,%[hr|w4]]
  |true=>
   refine#[_,ρ4,S4,_,_,he3.later R3 st4,R4,w4,λv S5 z H5 ρ5 w5 st5 R5 r5=>?_,λ_ _ _ _ _ _ z=>aJ z];let#[D5,hD5]:=st5.out hD4 D4;have ra5:=(ra4.mono R4 st5).app (aZ.cons r5 aZ.nil);refine#[hD5,m-1,∅,∅,ρ5,S5,accU++[v],(((st2.trans st3).trans st4).trans st5).AE hD _,R5.AE _ hD5 rfl D5,D5,a9,ra5.gG #[[],#v[]] (yZ hD5 rfl),%[hr|w5]]
def IK(ht:LX tg=ξ x)(B:Am X sc x)(cp:yM X sc cn ci)(hn:cn.Nodup)(hc:X.calm=ζ):Sy X tg sc x cn (Uc X.K (x.length==2)):=by
 rcases Cy ht with⟨_,_,rfl,rfl⟩|⟨_,_,_,_,_,_,rfl,rfl⟩
 .erw[Hw B cp hn]
 .erw[Hx B cp hn hc]
def My{elt iter tg:Expr}{ifs:List Expr}{x:List Str}{pos:Pos}{sc:jh}{it:PL.It}{tc:PL.Tx}{e:PL.Ex}{ci:List Nat}(G:Good t T Γ k I X)(hc:I.calm=ζ)(ht:LX tg=ξ x)(hb:vn I sc x=ζ)(hci:(iC I sc).mapM (λy=>dr y I.N)=ξ ci)
  (hs:∀env v,foldedSetIterable iter env v=pure v) (hi:∀pZ E,PI (X.at_ pZ E) tg iter (λσ H R=>xN (X.cc t) Γ it (E σ) σ H R))
  (hif:∀(X':Cx),Good t T Γ k #[qY I sc.names,x++iC I sc,ζ] X'->X'.cc t=X.cc t->(∀e s,X'.xe e s↔False)->Lw X' ifs (λσ H Q=>tT (X.cc t) Γ tc (λ_ _ _=>False) σ H Q))
  (he:∀(X':Cx),Good t T Γ k #[qY I sc.names,x++iC I sc,ζ] X'->X'.cc t=X.cc t->dG X' elt (tE (X.cc t) Γ e)):
  dG X (.ListComp elt [#[tg,iter,ifs,0]] sc pos) (tE (X.cc t) Γ (.comp (x.length==2) e it tc ci)):=by
 have hn:(iC I sc).Nodup:=by
  unfold iC;have:=G.nd;rw[G.slots] at this;erw[this.filter _]
 rwa[up λpZ E=>?_]
 have cp:=Ef (X:=X.at_ pZ E) G.at_ hci;refine(LB (X:=X.at_ pZ E) (wi:=λσ H R=>xN (X.cc t) Γ it (E σ) σ H R) (tc:=λσ H Q=>tT (X.cc t) Γ tc (λ_ _ _=>False) σ H Q) (te:=λσ H Q=>tE (X.cc t) Γ e (λ_ _ _=>False) σ H Q)
  (vy G.at_ hb) cp hn (G.calm hc).1 (IK ht (vy G.at_ hb) cp hn (G.calm hc).1) (hi pZ E) (λC s₀ H₀ ex=>hif _ (rn G.at_ hc hb cp hn) rfl λ_ _=>j7) (λC s₀ H₀ ex=>(he _ (rn G.at_ hc hb cp hn) rfl).no λ_ _=>j7) (hs _)).imp λσ H Q z=>xS z
def Mz(ha:∀pZ E,dG (X.at_ pZ E) a (tE (X.cc t) Γ x))(hb:∀pZ E,dG (X.at_ pZ E) b (tE (X.cc t) Γ y)):dG X (.Dict [ξ a] [b] pos) (tE (X.cc t) Γ (.df #v[x] #v[y])):=by
 rwa[up λpZ E=>(Lp (X:=X.at_ pZ E) (Hl (dn (ha pZ E)) (dn (hb pZ E)) Lo) rfl rfl (#v[]) (show 1<=15 by decide)).imp ?_]
 kd_p;intro p hp;have st0:=gu.lay R hp (.dK []);have R0:=R.lay hp (.dK []);refine#[env,ρ,S,_,EU,he.later R st0,R0,w,λu S1 v H1 ρ1 w1 st1 R1 r1=>?_,qx.later st0];refine#[env,ρ1,S1,_,EU,(he.later R st0).later R0 st1,R1,w1,λu2 S2 v2 H2 ρ2 w2 st2 R2 r2=>?_,(qx.later st0).later st1];obtain⟨_,hk,w',e,w3⟩:([u]:List U).length<=100/\PL.lY u=ζ/\∃v,[u2]=[v]/\QU (.loc S2.length) (S2++[SO.df [(u,v)]]):=w2;cases e;let#[p2,hp2]:=(st1.trans st2).out a9 (R.FF hp);have im:=yZ (ho:=.dK [(vt u,v2)]) hp2 rfl;have k1:=(r1.mono R1 st2).gG (ρ':=ρ2) #[[],#v[]] im;have k2:=r2.gG (ρ':=ρ2) #[[],#v[]] im;refine#[hp2,[(vt u,v2)],by rw[jL hk r1];rfl,show 1<=15 by decide,?_];show Q (.ref p) (upd H2 p (.dK [(vt u,v2)]));rwa[q _ _ _ _ _ w3 ((((st0.trans st1).trans st2).AE hp _).U1 hp) ((R2.AE _ hp2 rfl p2).join p2 #[_,a9,rfl,aZ.cons (show Rep (X.cc t) ρ2 _ u (kV (vt u)) by rw[<-jL hk r1];erw[k1]) aZ.nil,aZ.cons k2 aZ.nil]) (dJ.mpr #[p,rfl,?_])];rw[<-R2.len,aB (ar _),bQ];rfl
end
open PL (U SO bE Xn KU KX bU)
section
variable{t:vW}{T:Tab}{Γ:bU}{k n:Nat}{I:Inf}{X:Cx}
def QN(h:∀pZ E,dG (X.at_ pZ E) e (tE (X.cc t) Γ x))(he:∀env whole,isTrue e env whole=(do let v <-whole;standAt e.pos;holding [v] (truthy v))):CB X e (tT (X.cc t) Γ (.de x)):=by
 rwa[W4 λpZ E=>(G7 (X:=X.at_ pZ E) (dn (h pZ E)) (he _)).imp ?_]
 kd_p;z_go;let#[b,e1,w2]:=PL.gM.mp w1;exact#[b,Ml (X:=X) rfl R1 r1 e1,q _ _ _ _ w2 st1 R1]
def MA(h:∀pZ E,CB (X.at_ pZ E) e (tT (X.cc t) Γ x)):CB X (.UnaryOp .Not e pos) (tT (X.cc t) Γ (.not x)):=by
 rwa[W4 λpZ E=>(OE (X:=X.at_ pZ E) (SJ (h pZ E))).imp ?_]
 kd_p;exact#[env,ρ,S,_,EU,he,R,w,λb S1 H1 ρ1 w1 st1 R1=>q _ _ _ _ w1 st1 R1,qx]
def PW.imp{e:Expr}{t t':TT}(h:PW X e t)(q:∀σ H Q,t' σ H Q->t σ H Q):PW X e t':=λwhole pZ s σ H Q I z=>h whole pZ s σ H Q I (q σ H Q z)
def QP(IH:FL t T Γ k n)(G:Good t T Γ k I X):∀{vs:List Expr}{x:PL.Tx},W3 T (n+1) I op vs=ξ x->∀pZ E,PW (X.at_ pZ E) (.BoolOp op vs pos) (λσ H Q=>tT (X.cc t) Γ x (E σ) σ H Q)
 |[],x,h,_,_=>by rw[Ic,H8] at h;cases h
 |[a],x,h,pZ,E=>by
  rw[Ic,H8] at h;cases op with
  |And=>erw[KR (SJ (IH.ft G.at_ h))]
  |Or=>erw[OC (SJ (IH.ft G.at_ h))]
 |a::b::r,y,h,pZ,E=>by
  rw[Ic,H8] at h;dsimp[aM,ak] at h;let#[x,h1,z,h2,h3]:=h;injection h3 with h3;subst h3
  cases op with
  |And=>
   refine(OD (X:=X.at_ pZ E) (SJ (IH.ft G.at_ h1)) (IH.Zc G h2 pZ E)).imp ?_;kd_p;refine#[env,ρ,S,_,EU,he,R,w,λb S1 H1 ρ1 w1 st1 R1=>?_,qx];cases b with
   |true=>exact#[env,ρ1,S1,QU,EU,he.later R st1,R1,w1,q.later st1,qx.later st1]
   |false=>erw[q _ _ _ _ w1 st1 R1]
  |Or=>
   refine(SV (X:=X.at_ pZ E) (SJ (IH.ft G.at_ h1)) (IH.Zc G h2 pZ E)).imp ?_;kd_p;refine#[env,ρ,S,_,EU,he,R,w,λb S1 H1 ρ1 w1 st1 R1=>?_,qx];cases b with
   |true=>erw[q _ _ _ _ w1 st1 R1]
   |false=>exact#[env,ρ1,S1,QU,EU,he.later R st1,R1,w1,q.later st1,qx.later st1]
def AM(h:cE T n I b=ξ x):behindInMarks op b=ϑ:=by
 cases b<;>first|rfl|skip
 cases n with
 |zero=>erw[nn h]
 |succ n=>erw[nn h]
def Eg(h:cI T n I e=ξ x):∀env v,foldedSetIterable e env v=pure v:=by
 intro env v;cases e<;>first|rfl|skip
 cases n with
 |zero=>erw[nn h]
 |succ n=>
  change ((qZ T n).e I _).map PL.It.val=ξ x at h
  let#[y,h1,_]:=aj.mp h
  change cE T n I _=ξ y at h1
  cases n with
  |zero=>erw[nn h1]
  |succ n=>erw[nn h1]
def N4(h:cN T n I e=ξ x):∀env v,foldedSetIterable e env v=pure v:=by
 intro env v;cases e<;>first|rfl|skip
 cases n with
 |zero=>erw[nn h]
 |succ n=>erw[nn h]
def IL(IH:FL t T Γ k n)(G:Good t T Γ k I X)(h:((qZ T n).e I e).map .de=ξ x)(he:∀env whole,isTrue e env whole=(do let v <-whole;standAt e.pos;holding [v] (truthy v))):CB X e (tT (X.cc t) Γ x):=by
 let#[y,h1,h2]:=aj.mp h;subst h2;erw[QN (λpZ E=>IH.fe G.at_ h1) he]
def U4(IH:FL t T Γ k n)(G:Good t T Γ k I X)(h:cT T (n+1) I e=ξ x):CB X e (tT (X.cc t) Γ x):=by
 rw[Y0] at h;cases e with
 |UnaryOp op a pos=>
  cases op with
  |Not=>
   let#[y,h1,h2]:=aj.mp h;subst h2;erw[MA λpZ E=>IH.ft G.at_ h1]
  |_=>erw[IL IH G h λ_ _=>rfl]
 |BoolOp op vs pos=>erw[W4 λpZ E=>(IH.Zc G h pZ E).pt]
 |IfExp=>erw[nn h]
 |Compare a ops bs pos=>
  cases ops with
  |nil=>erw[nn h]
  |cons op ops=>cases ops with
   |cons=>erw[nn h]
   |nil=>cases bs with
    |nil=>erw[nn h]
    |cons b bs=>cases bs with
     |cons=>erw[nn h]
     |nil=>
      let#[o,h1,hb]:=ak.mp h;let#[a,h2,hc]:=ak.mp hb;let#[b,h3,h4]:=ak.mp hc;injection h4 with h4;subst h4
      erw[Mn G h1 (AM h3) (λpZ E=>IH.fe G.at_ h2) (λpZ E=>IH.fe G.at_ h3)]
 |_=>erw[IL IH G h λ_ _=>rfl]
end
open PL (U SO bE Xn KU KX bU)
section
variable{t:vW}{T:Tab}{Γ:bU}{k n:Nat}{I:Inf}{X:Cx}
def za:∀{n:Nat},(qZ T n).es I []=ξ y->y=.nil
 |0,h=>by cases h
 |_+1,h=>(aG h).symm
def fc{x y:Str}(h:(x !=y)=ζ):(x==y)=ϑ:=by simpa using h
def AN(IH:FL t T Γ k n)(G:Good t T Γ k I X){tg iter:Expr}{xs:List Str}{it:PL.It}(ht:LX tg=ξ xs)(h:(∃y,xs=[y])/\cI T n I iter=ξ it\/(¬ ∃y,xs=[y])/\cN T n I iter=ξ it):
  (∀env v,foldedSetIterable iter env v=pure v)/\∀pZ E,PI (X.at_ pZ E) tg iter (λσ H R=>xN (X.cc t) Γ it (E σ) σ H R):=by
 rcases Cy ht with⟨x,p,rfl,rfl⟩|⟨x,y,p,p',kd,q,rfl,rfl⟩<;>rcases h with⟨z,h1⟩|⟨z,h1⟩
 .exact#[Eg h1,IH.fi G h1]
 .erw[absurd #[_,rfl] z]
 .let#[y,e]:=z;simp at e
 .exact#[N4 h1,IH.fn G h1]
def Eh(IH:FL t T Γ k n)(G':Good t T Γ k J X')(ec:X'.cc t=X.cc t)(hx:∀e s,X'.xe e s↔False)(h:Y1 T n J ifs=ξ c):Lw X' ifs (λσ H Q=>tT (X.cc t) Γ c (λ_ _ _=>False) σ H Q):=by
 unfold Y1 at h;split at h
 .injection h with h;subst h
  intro pZ s σ H Q J z;refine Lx (X:=X') pZ s σ H Q J ?_;let#[env,ρ,S,QU,EU,he,R,w,q,qx]:=z;have w2:QU ζ S:=by
   have:PL.opt (PL.ve S (.bl ζ)) (λb=>QU b S):=w;erw[this]
  erw[q ζ S H ρ w2 .refl R]
 .have:=(IH.ft G' h).no hx
  rw[ec] at this;erw[Lz this]
 .erw[nn h]
def MB(h:(match args with|[a]=>P0 a|_=>ψ)=ξ o):∃ap cp,(ap.endLine==cp.line)=ζ/\args=[.Call (.Attribute o ("values":Str) ap) [] [] cp]:=by
 split at h
 .rename_i a
  unfold P0 at h;split at h
  .split at h
   .rename_i o' m ap cp hc
    rw[aw] at hc;have e:=eq_of_beq hc.1;subst e;injection h with h;subst h
    exact#[ap,cp,hc.2,rfl]
   .erw[nn h]
  .erw[nn h]
 .erw[nn h]
def U5(IH:FL t T Γ k n)(G:Good t T Γ k I X){e:Expr}{x:PL.Ex}(h:cE T (n+1) I e=ξ x):dG X e (tE (X.cc t) Γ x):=by
 have ge:∀{e:Expr}{y:PL.Ex},cE T n I e=ξ y->∀pZ E,dG (X.at_ pZ E) e (tE (X.cc t) Γ y):=λh pZ E=>IH.fe G.at_ h
 have gA:∀{es:List Expr}{y:PL.vU},SI T n I es=ξ y->∀pZ E,y6 (X.at_ pZ E) es (D6 (X.cc t) Γ y):=λh pZ E=>IH.Ql G.at_ h
 have h0:=h;rw[LY] at h;cases e with(delta SH at h;try dsimp only at h)
 |Name x' pos=>
  split at h
  .rename_i i hi
   split at h
   .rename_i hc
    dsimp[aw] at hc;injection h with h;subst h
    erw[Mm G hi hc.1.1 (fc hc.1.2) (fc hc.2)]
   .erw[nn h]
  .split at h
   .rename_i hc
    rw[aw] at hc;let#[p,h1,h2]:=aj.mp h;subst h2;erw[IA G hc.1 h1 (fc hc.2)]
   .erw[nn h]
 |Constant c kd pos=>
  let#[u,h1,h2]:=aj.mp h;subst h2;cases c with
  |none=>cases h1;erw[rm (v:=.bK) (λpZ E=>OA) λ_ _=>dW.mpr rfl]
  |bool b=>cases h1;erw[rm (v:=.bl _) (λpZ E=>SU) λ_ _=>fL.mpr rfl]
  |int i=>cases h1;erw[rm (v:=.int _) (λpZ E=>Oz) λ_ _=>aR.mpr rfl]
  |str x=>cases h1;erw[rm (v:=.str _) (λpZ E=>OB) λ_ _=>bz.mpr (by rw[<-Ug])]
  |_=>erw[nn h1]
 |BinOp a op b pos=>
  dsimp[aM,ak] at h;let#[o,h1,a,h2,b,h3,h4]:=h;injection h4 with h4;subst h4
  erw[Qn G h1 (ge h2) (ge h3)]
 |UnaryOp op a pos=>
  cases op with
  |Not=>let#[y,h1,h2]:=aj.mp h;subst h2;erw[Qr (ge h1)]
  |USub=>let#[y,h1,h2]:=aj.mp h;subst h2;erw[Qq (ge h1)]
  |_=>erw[nn h]
 |BoolOp op vs pos=>erw[IH.Zb G h]
 |Compare a ops bs pos=>
  split at h
  .split at h
   .dsimp[aM,ak] at h
    let#[o,h1,a,h2,b,h3,h4]:=h;injection h4 with h4;subst h4
    erw[Qo G h1 (AM h3) (ge h2) (ge h3)]
   .erw[nn h]
  .erw[nn h]
 |IfExp c a b pos=>
  dsimp[aM,ak] at h;let#[o,h1,a,h2,b,h3,h4]:=h;injection h4 with h4;subst h4
  erw[UT (λpZ E=>IH.ft G.at_ h1) (ge h2) (ge h3)]
 |Call fn args kws cp=>
  cases fn with
  |Name f p=>
   cases kws with
   |nil=>
    dsimp only at h;split at h
    .rename_i hc
     rw[aw] at hc;let#[hg,hd]:=hc;split at h
     .rename_i hf
      rw[aw] at hf;have ef:f=("isinstance":Str):=by simpa using hf.1
      subst ef;have hb:"isinstance"∈T.fP:=by simpa using hf.2
      split at h
      .split at h
       .erw[nn h]
       .rename_i a tt hs
        dsimp[aM,ak] at h;let#[y,h1,h2]:=h;split at h2
        .rename_i ty ht
         injection h2 with h3;subst h3
         exact QF G hg hb (~~~hs) ht (ge h1)
        .erw[nn h2]
      .erw[nn h]
     .split at h
      .rename_i b hb
       split at h
       .rename_i o' ho'
        split at h
        .rename_i hc
         dsimp[aw] at hc;let#[#[#[hf,hm],hcm],h0']:=hc;have hf:=eq_of_beq hf;subst hf;let#[y,h1,h2]:=aj.mp h;subst h2;let#[ap,c2,hl,rfl]:=MB ho';exact Ms G hg (~~~hm) (G.calm hcm).1 h0' hl (ge h1)
        .erw[nn h]
       .split at h
        .rename_i hs
         dsimp[aw,wD] at hs;let#[#[#[s,hp],hs],hcm]:=hs;let#[y,h1,h2]:=aj.mp h;subst h2;cases args with
         |nil=>simp at hs
         |cons a as=>
          have st:=kF h1;rw[bH,aw] at st;erw[Qw G hg hb hp (G.calm hcm).1 ((G.calm hcm).2.hd (fq _)) st.1 st.2 (gA h1)]
        .erw[nn h]
      .split at h
       .erw[nn h]
       .rename_i hcm
        have hcm:I.calm=ζ:=by simpa using hcm
        split at h
        .rename_i q hq
         let#[hm,rfl]:=iD hq;let#[y,h1,h2]:=aj.mp h;subst h2;cases args with
         |nil=>
          cases za h1;erw[IE G hg hcm hm (fc hd)]
         |cons a as=>
          have st:=kF h1;rw[bH,aw] at st;erw[Mt G hg hcm hm (fc hd) st.1 st.2 (IH.Ql G h1)]
        .split at h
         .rename_i q hq
          let#[hm,rfl]:=iD hq;let#[y,h1,h2]:=aj.mp h;subst h2;cases args with
          |nil=>
           cases za h1;erw[QC G hg hcm hm (fc hd)]
          |cons a as=>
           have st:=kF h1;rw[bH,aw] at st;erw[UZ G hg hcm hm (fc hd) st.1 st.2 (IH.Ql G h1)]
         .erw[nn h]
    .erw[nn h]
   |cons kw ks=>erw[nn h]
  |Attribute o m ap=>
   dsimp only at h;split at h
   .erw[nn h]
   .rename_i hc
    dsimp[me,GH,aw] at hc;let#[#[#[#[hk,hc0],hl],hn],hcm]:=hc;have hk:kws=[]:=by simpa using hk
    subst hk;have hn:=of_decide_eq_true hn;split at h
    .rename_i q kk hq
     let#[hm,hq2]:=xO hq;dsimp only at hq2;subst hq2;dsimp[aM,ak] at h;let#[y,h1,as,h2,h3]:=h;injection h3 with h3;subst h3
     cases args with
     |nil=>
      cases za h2;erw[IF G hcm hm hc0 hl (IH.fe G h1)]
     |cons a as'=>
      have st:=kF h2;rw[bH,aw] at st;erw[Mu G hcm hm hc0 hl hn st.1 st.2 (IH.fe G h1) (IH.Ql G h2)]
    .split at h
     .split at h
      .rename_i em
       let#[y,h1,h2]:=aj.mp h;subst h2;have em:=eq_of_beq em;subst em;erw[Mp G hc0 hl (ge h1)]
      .erw[nn h]
     .rename_i a as
      split at h
      .rename_i em
       have em:=eq_of_beq em;subst em;split at h
       .rename_i d
        split at h
        .rename_i st
         rw[aw] at st;dsimp[aM,ak] at h;let#[y,h1,z,h2,w,h3,h4]:=h;injection h4 with h4;subst h4
         erw[Qy G hc0 hl st.1 st.2 (ge h1) (ge h2) (ge h3)]
        .erw[nn h]
       .split at h
        .rename_i st
         dsimp[aM,ak] at h;let#[y,h1,z,h2,h4]:=h;injection h4 with h4;subst h4
         erw[Mq G hc0 hl st (ge h1) (ge h2)]
        .erw[nn h]
       .erw[nn h]
      .split at h
       .rename_i b hb
        dsimp[aM,ak] at h;let#[y,h1,as',h2,h3]:=h;injection h3 with h3;subst h3
        have st:=kF h2;rw[bH,aw] at st;erw[Qx G hb ((G.calm hcm).2.hd (fq _)) hc0 hl hn st.1 st.2 (ge h1) (gA h2)]
       .erw[nn h]
  |_=>erw[nn h]
 |Attribute o f pos=>
  split at h
  .erw[nn h]
  .rename_i hc0
   dsimp[aM,ak] at h;let#[q,h1,y,h2,h3]:=h;injection h3 with h3;subst h3
   let#[hm,rfl]:=iD h1;exact Qv G hm (~~~hc0) (ge h2)
 |Subscript o i pos=>
  split at h
  .rename_i hs
   dsimp[aM,ak] at h;let#[y,h1,a,h2,h3]:=h;injection h3 with h3;subst h3
   split
   .erw[Qz G hs (ge h1) (ge h2)]
   .erw[UU hs (ge h1) (ge h2)]
  .split at h
   .split at h
    .dsimp[aM,ak] at h
     let#[y,h1,a,h2,b,h3,h4]:=h;injection h4 with h4;subst h4
     erw[UX (ge h1) (IH.fo G h2) (IH.fo G h3)]
    .erw[nn h]
   .erw[nn h]
 |Dict ks vs pos=>
  split at h
  .split at h
   .injection h with h;subst h;erw[Mr]
   .erw[nn h]
  .split at h
   .dsimp[aM,ak] at h
    let#[y,h1,z,h2,h4]:=h;injection h4 with h4;subst h4
    erw[Mz (ge h1) (ge h2)]
   .erw[nn h]
  .erw[nn h]
 |List es pos=>
  let#[y,h1,h2]:=aj.mp h;subst h2;erw[Qu (gA h1)]
 |Tuple es kd pos=>
  let#[y,h1,h2]:=aj.mp h;subst h2;erw[Qt (gA h1)]
 |ListComp elt gs sc pos=>
  let#[tg,iter,ifs,xs,it,c,ee,ci,rfl,ht,hc,h1,h2,h3,h4,h5]:=vo h0;subst h5;have hi:=AN IH G ht h1;rwa[My G hc.2 ht hc.1 h4 hi.1 hi.2 (λX' G' ec hx=>?_) (λX' G' ec=>?_)]
  .erw[Eh IH G' ec hx h2]
  .have:=IH.fe G' h3
   rw[ec] at this;erw[this]
 |_=>erw[nn h]
def IM:FL t T Γ k 0:=by
 constructor
 .intro I X e x _ h;rw[UJ] at h;erw[nn h]
 .intro I X e x _ h;rw[N1] at h;erw[nn h]
 .intro I X op vs x pos _ h;rw[UK] at h;erw[nn h]
 .intro I X e x _ h;rw[YU] at h;erw[nn h]
 .intro I X e x tg _ h;rw[YV] at h;erw[nn h]
 .intro I X e x es ek tp _ h;rw[YX] at h;erw[nn h]
 .intro I X e x _ h;rw[YZ] at h;erw[nn h]
 .intro I X op vs x pos _ h;rw[UM] at h;erw[nn h]
def zb:∀n,FL t T Γ k n
 |0=>IM
 |n+1=>
  have IH:=zb n
  #[λG h=>U5 IH G h,λG h=>Qp IH G h,λG h=>Qs IH G h,λG h=>UW IH G h,λG h=>U0 IH G h,λG h=>Zg IH G h,λG h=>U4 IH G h,λG h=>QP IH G h]
end
open PL (U SO bE Xn KU KX bU)
structure MC(X:Cx):Prop where
 Bs:X.stack=X.env::X.outer
 N5:X.env.frame=ξ X.env.locals
abbrev XN(X:Cx)(pZ:List (Addr×Obj))(E:St->XK)(e:Value)(s:av):Prop:=
 ∃(σ:St)(a T:Addr)(cl:Bool×Value)(dx:Option Addr)(H:Hp),e=.ref a/\Inv X pZ σ H s/\nW s.heap a cl dx (ξ (T,eV X.env.locals))/\vT X pZ H a/\vT X pZ H T/\E σ cl dx H
abbrev XL(X:Cx)(pZ:List (Addr×Obj))(E:St->XK)(e:Value)(s:av):Prop:=
 wpAny (aS X.prog X.w) X.A (sO e X.env) (λ_ s'=>XN X pZ E e s') (λ_ _=>False) s
noncomputable abbrev Cx.al(X:Cx)(pZ:List (Addr×Obj))(E:St->XK):Cx:={X with pn:=X.pn++pZ,xe:=XL X pZ E}
section
variable{X:Cx}{pZ pins':List (Addr×Obj)}{E:St->XK}{σ:St}{H:Hp}{s:av}
def Cx.Ok.al(ok:X.Ok):(X.al pZ E).Ok:=
 #[ok.mod,ok.kind,ok.glob,ok.blt,ok.above,ok.inj,ok.has,ok.NG,ok.hd,ok.frames,ok.Bs,ok.SS,ok.bs,ok.GQ,ok.z6,ok.BV,ok.pF,ok.Kj]
def Cx.Ok.nj(ok:(X.al pZ E).Ok):X.Ok:=
 #[ok.mod,ok.kind,ok.glob,ok.blt,ok.above,ok.inj,ok.has,ok.NG,ok.hd,ok.frames,ok.Bs,ok.SS,ok.bs,ok.GQ,ok.z6,ok.BV,ok.pF,ok.Kj]
def Inv.al(I:Inv X pZ σ H s):Inv (X.al pZ E) [] σ H s:=
 #[I.ok.al,I.os,I.bare,I.base,I.loc,I.cell,I.free,I.kP,λp hp=>I.pin p (~~~hp),I.ck,I.len]
def Inv.nj(I:Inv (X.al pZ E) pins' σ H s):Inv X pZ σ H s:=
 #[I.ok.nj,I.os,I.bare,I.base,I.loc,I.cell,I.free,I.kP,λp hp=>I.pin p (aT.mpr (.inl hp)),I.ck,I.len]
def vT.nj(h:vT (X.al pZ E) pins' H b):vT X pZ H b:=
 #[h.1,h.2.1,h.2.2.1,h.2.2.2.1,λp hp=>h.2.2.2.2 p (aT.mpr (.inl hp))]
def MC.al(f:MC X):MC (X.al pZ E):=#[f.Bs,f.N5]
def XE.toXL(f:MC X)(h:XE X pZ σ (E σ) e s):XL X pZ E e s:=by
 let#[a,tb,cl,dx,H',rfl,I,xa,fr,q]:=h;have fr1:X.A.frames=ξ (X.env::X.outer):=by rw[I.ok.frames,f.Bs]
 have fs1:s.heap.FunFrames X.base (X.env::X.outer):=by have:=I.stack;rw[f.Bs] at this;erw[this]
 rwa[Hr (base:=X.base) (outer:=X.outer) (L:=X.env.locals) fr1 fs1 f.N5 xa λh2 T2 k2 n2 x2=>?_]
 exact#[σ,a,T2,cl,dx,H',rfl,I.jw (%[f.Bs|k2]) fr,x2,fr a aV,I.Kk n2,q]
def XE.nj(f:MC X)(h:XE (X.al pZ E) pins' σ (E σ) e s):XL X pZ E e s:=by
 let#[a,tb,cl,dx,H',e1,I,x,fr,q]:=h;erw[XE.toXL f #[a,tb,cl,dx,H',e1,I.nj,x,λb hb=>(fr b hb).nj,q]]
def XN.nj(h:XN (X.al pZ E) pins' E e s):XN X pZ E e s:=by
 let#[σ',a,T,cl,dx,H',e1,I,x,fa,fT,q]:=h;exact#[σ',a,T,cl,dx,H',e1,I.nj,x,fa.nj,fT.nj,q]
def MD:F4 (aS (X.al pZ E).prog (X.al pZ E).w) (X.al pZ E).A (X.al pZ E).env (X.al pZ E).xe:=PassesOwn.looking
end
def SP.nj(q:SP (X.al pZ E) pins' D f s):SP X pZ D f s:=by
 cases f with
 |next=>let#[σ',H',I',q]:=q;exact#[σ',H',I'.nj,q]
 |brk=>let#[σ',H',I',q]:=q;exact#[σ',H',I'.nj,q]
 |cont=>let#[σ',H',I',q]:=q;exact#[σ',H',I'.nj,q]
 |ret u=>let#[v,σ',H',I',r,q]:=q;exact#[v,σ',H',I'.nj,r,q]
structure Tk(X:Cx)(E:St->XK):Prop where
 tk:∀(pZ:List (Addr×Obj))(σ:St)(s:av)(e:Value),XE X pZ σ (E σ) e s->X.xe e s
 ps:F4 (aS X.prog X.w) X.A X.env X.xe
 tn:∀(pZ:List (Addr×Obj))(s:av)(e:Value),XN X pZ E e s->X.xe e s
def N6(f:MC X):Tk (X.al pZ E) E:=#[λ_ _ _ _ h=>h.nj f,MD,λpins' s e h=>by
 have h:=h.nj;let#[σ,a,T,cl,dx,H,rfl,I,x,r]:=id h;erw[Cb f.N5 x h]]
def U6(h:X.xe=λ_ _=>False):Tk X (λ_ _ _ _=>False):=by
 refine#[λpZ σ s e z=>?_,?_,λpZ s e z=>?_]
 .let#[a,tb,cl,dx,H',_,_,_,_,w]:=z
  erw[aJ w]
 .rw[h];erw[PassesOwn.never]
 .let#[σ,a,T,cl,dx,H',_,_,_,_,_,w]:=z
  erw[aJ w]
section
variable{X:Cx}{e:Expr}{E:St->XK}
def CK(k:Tk X E)(h:dG X e t):PE X e (λσ H Q=>t (E σ) σ H Q):=by
 intro pins' s σ H Q I z;erw[bg (h pins' s σ H Q (E σ) I z) (λu s' q=>q) λu s' q=>k.tk _ _ _ _ q]
def U7(k:Tk X E)(h:CB X e t):PT X e (λσ H Q=>t (E σ) σ H Q):=by
 intro pins' s σ H Q I z;erw[bg (h pins' s σ H Q (E σ) I z) (λu s' q=>q) λu s' q=>k.tk _ _ _ _ q]
def PS.imp{st:Stmt}{t t':TS}(h:PS X st t)(q:∀D σ H,t' D σ H->t D σ H):PS X st t':=λpZ s σ H D I z=>h pZ s σ H D I (q D σ H z)
def rF.imp{st:List Stmt}{t t':TS}(h:rF X st t)(q:∀D σ H,t' D σ H->t D σ H):rF X st t':=λpZ s σ H D I z=>h pZ s σ H D I (q D σ H z)
end
def Good.al(G:Good t T Γ k I X):Good t T Γ k I (X.al pZ E):=
 #[G.tab,G.Km,G.kind,G.names,G.slots,G.nd,G.calm,G.units]
structure DR(c:Ctx)(ρ:List Addr)(H:Hp)(DU:PL.Ends)(D:Ends)(E:St->XK):Prop where
 nx:∀env' S' σ' H' ρ',DU.nx env' S'->gu ρ H ρ' H'->b6 c ρ' H' S'->iY c ρ' H' env' σ'->D.nx σ' H'
 rt:QV c ρ H DU.rt D.rt
 ex:∀env' σ' x S' H' ρ' C d,DU.ex env' x S'->gu ρ H ρ' H'->b6 c ρ' H' S'->iY c ρ' H' env' σ'->ExcAt c ρ' H' x C d->E σ' (x.f,.ref C) (ξ d) H'
abbrev tS(c:Ctx)(Γ:bU)(x:PL.Sm):(St->XK)->TS:=λE D σ H=>∃env ρ S DU,iY c ρ H env σ/\b6 c ρ H S/\PL.WS Γ x DU env S/\DR c ρ H DU D E
abbrev Gk(c:Ctx)(Γ:bU)(x:PL.dj):(St->XK)->TS:=λE D σ H=>∃env ρ S DU,iY c ρ H env σ/\b6 c ρ H S/\PL.rG Γ x DU env S/\DR c ρ H DU D E
section
variable{c:Ctx}{ρ ρ':List Addr}{H H':Hp}{S:bE}{DU:PL.Ends}{D:Ends}{E:St->XK}
def DR.later(q:DR c ρ H DU D E)(a:gu ρ H ρ' H'):DR c ρ' H' DU D E:=
 #[λenv' S' σ' H2 ρ2 h b R e=>q.nx env' S' σ' H2 ρ2 h (a.trans b) R e,q.rt.later a,λenv' σ' x S' H2 ρ2 C d h b R e z=>q.ex env' σ' x S' H2 ρ2 C d h (a.trans b) R e z]
def DR.qx(q:DR c ρ H DU D E)(R:b6 c ρ H S)(he:iY c ρ H env σ):QX c ρ H (DU.ex env) (E σ):=
 λx S' H2 ρ2 C d h b R2 z=>q.ex env σ x S' H2 ρ2 C d h b R2 (he.later R b) z
def iY.set(he:iY c ρ H env σ)(r:Rep c ρ H u v)(i:Nat):iY c ρ H (env.set i (ξ u)) (σ.set i (ξ v)):=by
 refine#[by simp[he.len],λj w e=>?_];by_cases z:j=i
 .subst z
  have hj:j<env.length:=by
   have:=(ag.mp e).1;simpa using this
  rw[ba hj] at e;injection e with e;injection e with e;subst e
  exact#[v,by rw[ba (by rw[<-he.len];erw[hj])],r]
 .rw[ai (bI z)] at e ⊢
  erw[he.at_ j w e]
def iY.del(he:iY c ρ H env σ)(i:Nat):iY c ρ H (env.set i ψ) (σ.set i ψ):=by
 refine#[by simp[he.len],λj w e=>?_];by_cases z:j=i
 .subst z
  have hj:j<env.length:=by
   have:=(ag.mp e).1;simpa using this
  rw[ba hj] at e;cases e
 .rw[ai (bI z)] at e ⊢
  erw[he.at_ j w e]
end
open PL (U SO bE Xn KU KX bU)
abbrev zc(C:Addr)(l:List Str):Sp:=λvs H Q _=>∃a ys,vs=.ref a::ys/\ys.length=l.length/\H a=ξ (.xo a C ψ)/\∀d,H d=ψ->d≠a->Q .bK (upd (upd H d (.xf d (l.zip ys))) a (.xo a C (ξ d)))
structure pU(c:Ctx)(k:Nat)(x:String):Prop where
 ex:∃C f fd ps,c.exc x=ξ C/\kL c.K (.ref C)=ζ/\hX c.K (.ref C) "__init__"=ξ (ξ (.ref f))/\isFn c.K (.ref f)=ζ/\iz c.P c.w c.K c.mg c.base (mP c.P c.w) 0 f fd ps (zc C ((PL.bN x).map nm))/\Binds c.K fd ps []/\ps.length<=1000
structure fg(t:vW)(T:Tab)(Γ:bU)(k:Nat)(I:Inf)(X:Cx):Prop where
 g:Good t T Γ k I X
 fr:MC X
 st:∀x,X.fn x=ζ
 xi:∀x∈T.tN,PL.bN x≠[]->pU (X.cc t) k x
 up:∀x C bm y D,t.exc x=ξ C->t.exc y=ξ D->mh X.K C bm->(PL.my x).contains y=ζ->(aL C::bm).contains (.ref D)=ζ
section
variable{t:vW}{T:Tab}{Γ:bU}{k n:Nat}{I:Inf}{X:Cx}
def fg.al(G:fg t T Γ k I X):fg t T Γ k I (X.al pZ E):=#[G.g.al,G.fr.al,G.st,G.xi,G.up]
variable{E:St->XK}
def sv(h:vp (names.lookup x)=ζ)(e:sc.names=names):Loc sc x:=by
 rw[<-e] at h;unfold Loc;cases q:sc.names.lookup x with
 |none=>rw[q] at h;cases h
 |some kd=>rw[q] at h;cases kd<;>first|exact ff h|simp
def CL(z:tS (X.cc t) Γ (.set i x) E D σ H):tE (X.cc t) Γ x (E σ) σ H λv H1=>D.nx (σ.set i (ξ v)) H1:=by
 let#[env,ρ,S,DU,he,R,w,q]:=z;refine#[env,ρ,S,_,_,he,R,w,λu S1 v H1 ρ1 w1 st1 R1 r1=>?_,q.qx R he];erw[q.nx _ _ _ _ _ w1 st1 R1 ((he.later R st1).set r1 i)]
def QQ(G:fg t T Γ k I X)(K:Tk X E)(h:dr x I.N=ξ i)(hl:vp (I.names.lookup x)=ζ)(hs:∀env,fV e (ξ (.Name x p)) pos.line env=pure ϑ)
  (hy:dG X e (tE (X.cc t) Γ y)):PS X (.Assign [.Name x p] e pos) (λD σ H=>tS (X.cc t) Γ (.set i y) E D σ H):=by
 refine(GX (X:=X) (i:=i) G.g.nd (by show X.N[i]?=ξ x;rw[G.g.slots];erw[dD h]) (sv hl G.g.names) (CK K hy) (hs _) (.inl (G.st x))).imp ?_;intro D σ H z;erw[CL z]
def ME(G:fg t T Γ k I X)(K:Tk X E)(hf:f∈T.vm)(hx:dG X o (tE (X.cc t) Γ x))(hy:dG X e (tE (X.cc t) Γ y)):PS X (.Assign [.Attribute o (nm f) p] e pos) (λD σ H=>tS (X.cc t) Γ (.mm x f y) E D σ H):=by
 have hs:∀env,fV e (ξ (.Attribute o (nm f) p)) pos.line env=pure ϑ:=λenv=>by cases e<;>rfl
 refine(O3 (X:=X) (CK K hx) (CK K hy) (hs _)).imp ?_;rintro D σ H ⟨env,ρ,S,DU,he,R,w,q⟩;refine#[env,ρ,S,_,_,he,R,w,λu S1 v H1 ρ1 w1 st1 R1 r1=>?_,q.qx R he];refine#[env,ρ1,S1,_,_,he.later R st1,R1,w1,λu2 S2 v2 H2 ρ2 w2 st2 R2 r2=>?_,(q.qx R he).later st1];let#[l,e1,w3]:=PL.iF.mp w2;subst e1;let#[c',fs,e2,hlen,w4]:=PL.mq.mp w3;let#[a,C,dx,vs,ev,ha,hC,hH,hn,hr]:=R2.ins e2 r2;let#[cl,na]:=G.g.tab.cls c' C hC;have hlv:vs.length=fs.length:=by have:=congrArg dh hn;simpa using this
 refine#[a,C,dx,vs,ev,hH,cl,na f hf,∅,?_];have st3:=gu.put (H:=H2) (ax ha) hH rfl (.ins C dx (gB (nm f) v vs));have ug:∀{fs:List (String×U)}{vs:List (Str×V)},vs.map (·.1)=(fs.map (·.1)).map nm->aZ (X.cc t) ρ2 H2 (fs.map (·.2)) (vs.map (·.2)) ->
   (gB (nm f) v vs).map (·.1)=((PL.gO f u fs).map (·.1)).map nm/\aZ (X.cc t) ρ2 H2 ((PL.gO f u fs).map (·.2)) ((gB (nm f) v vs).map (·.2)):=by
  intro fs;induction fs with
  |nil=>
   intro vs hn hr;cases vs with
   |nil=>exact#[rfl,aZ.cons (r1.mono R1 st2) aZ.nil]
   |cons a b=>simp at hn
  |cons p fs ih=>
   intro vs hn hr;let#[g,w']:=p;cases vs with
   |nil=>simp at hn
   |cons b vs=>
    let#[b1,b2]:=b;dsimp[aA,dy] at hn;rw[aA,aA] at hr;unfold aZ at hr;let#[v',r',e',k1,k2]:=hr;injection e' with e1' e2'
    subst e1';subst e2';unfold gB PL.gO;by_cases z:g=f
    .have z2:b1=nm f:=by rw[hn.1,z]
     rw[if_pos z2,if_pos z]
     exact#[by simp[hn.1,hn.2],aZ.cons (r1.mono R1 st2) k2]
    .have z2:¬b1=nm f:=λq=>z (su _ _ (hn.1.symm.trans q))
     rw[if_neg z2,if_neg z]
     let#[m1,m2]:=ih hn.2 k2;exact#[by dsimp[aA,dy];exact#[hn.1,m1],aZ.cons k1 m2]
 let#[m1,m2]:=ug hn hr;rwa[q.nx _ _ _ _ _ w4 ((st1.trans st2).trans st3) (R2.put ha hH rfl #[C,dx,_,hC,a9,m1,m2.mono R2 st3]) ((he.later R (st1.trans st2)).later R2 st3)]
def MF(G:fg t T Γ k I X)(K:Tk X E)(hx:dG X o (tE (X.cc t) Γ x))(hi:dG X i (tE (X.cc t) Γ z))(hy:dG X e (tE (X.cc t) Γ y)):PS X (.Assign [.Subscript o i p] e pos) (λD σ H=>tS (X.cc t) Γ (.mV x z y) E D σ H):=by
 have hs:∀env,fV e (ξ (.Subscript o i p)) pos.line env=pure ϑ:=λenv=>by cases e<;>rfl
 refine(Ln (X:=X) (by have:=G.g.units;omega) (CK K hx) (CK K hi) (CK K hy) (hs _)).imp ?_;rintro D σ H ⟨env,ρ,S,DU,he,R,w,q⟩;refine#[env,ρ,S,_,_,he,R,w,λu S1 v H1 ρ1 w1 st1 R1 r1=>?_,q.qx R he];refine#[env,ρ1,S1,_,_,he.later R st1,R1,w1,λu2 S2 v2 H2 ρ2 w2 st2 R2 r2=>?_,(q.qx R he).later st1];refine#[env,ρ2,S2,_,_,(he.later R st1).later R1 st2,R2,w2,λu3 S3 v3 H3 ρ3 w3 st3 R3 r3=>?_,(q.qx R he).later (st1.trans st2)];let#[n,e1,w3]:=PL.iF.mp w3;subst e1;let#[kvs,e2,#[hk,hn,hl],w4]:=PL.Au.mp w3;let#[a,ev,ha]:=dJ.mp (r2.mono R2 st3);let#[vs,g1,g2,g3,g4]:=R3.at_ n a _ ha e2;have l2:jk vs (vt u3)=ψ:=by
  rcases rj hk g2 g3 g4 with⟨_,l2⟩|⟨_,_,l1,_⟩
  .erw[l2]
  .rw[hn] at l1;cases l1
 have r1':=r1.mono R1 (st2.trans st3);have st4:=gu.put (H:=H3) (ax ha) g1 rfl (.dK (vs++[(vt u3,v)]));refine#[a,upd H3 a (.dK (vs++[(vt u3,v)])),ev,.inl #[vs,vt u3,g1,jL hk r3,%[g2|au hl ⋯],by rw[Ae v l2]],?_];rwa[q.nx _ _ _ _ _ w4 (((st1.trans st2).trans st3).trans st4) (R3.put ha g1 rfl #[_,a9,by simp[g2],?_,?_]) ((he.later R ((st1.trans st2).trans st3)).later R3 st4)]
 .rw[aN,aN]
  exact(g3.mono R3 st4).app (aZ.cons (show Rep (X.cc t) ρ3 _ u3 (kV (vt u3)) by rw[<-jL hk r3];erw[r3.mono R3 st4]) aZ.nil)
 .rw[aN,aN]
  exact(g4.mono R3 st4).app (aZ.cons (r1'.mono R3 st4) aZ.nil)
def U8(G:fg t T Γ k I X)(K:Tk X E)(hc:yX e=ζ)(hy:dG X e (tE (X.cc t) Γ y)):PS X (.Expr e pos) (λD σ H=>tS (X.cc t) Γ (.ex y) E D σ H):=by
 refine(KW (X:=X) (CK K hy) (AK hc)).imp ?_;rintro D σ H ⟨env,ρ,S,DU,he,R,w,q⟩;refine#[env,ρ,S,_,_,he,R,w,λu S1 v H1 ρ1 w1 st1 R1 r1=>?_,q.qx R he];erw[q.nx _ _ _ _ _ w1 st1 R1 (he.later R st1)]
def QR(G:fg t T Γ k I X)(K:Tk X E)(hy:dG X e (tE (X.cc t) Γ y)):PS X (.Return (ξ e) pos) (λD σ H=>tS (X.cc t) Γ (.ret y) E D σ H):=by
 refine(OI (X:=X) (CK K hy)).imp ?_;rintro D σ H ⟨env,ρ,S,DU,he,R,w,q⟩;exact#[env,ρ,S,_,_,he,R,w,q.rt,q.qx R he]
def QS(G:fg t T Γ k I X)(K:Tk X E)(hx:CB X c (tT (X.cc t) Γ x))(hy:rF X a (λD σ H=>Gk (X.cc t) Γ y E D σ H))(hz:rF X b (λD σ H=>Gk (X.cc t) Γ z E D σ H)):PS X (.If c a b pos) (λD σ H=>tS (X.cc t) Γ (.ifs x y z) E D σ H):=by
 refine(Tc (X:=X) (U7 K hx) (hy) (hz)).imp ?_;rintro D σ H ⟨env,ρ,S,DU,he,R,w,q⟩;refine#[env,ρ,S,_,_,he,R,w,λb S1 H1 ρ1 w1 st1 R1=>?_,q.qx R he];cases b with
 |true=>exact#[env,ρ1,S1,DU,he.later R st1,R1,w1,q.later st1]
 |false=>exact#[env,ρ1,S1,DU,he.later R st1,R1,w1,q.later st1]
def CM(hp:Cz op=ξ p):op=L5 p/\(p=.add\/p=.sub\/p=.bor):=by cases op<;>first|exact nn hp| (cases hp;exact#[rfl,#v[]])
def QT(G:fg t T Γ k I X)(K:Tk X E)(h:dr x I.N=ξ i)(hl:vp (I.names.lookup x)=ζ)(hp:Cz op=ξ p)(hy:dG X e (tE (X.cc t) Γ y)):PS X (.AugAssign (.Name x px) op e pos) (λD σ H=>tS (X.cc t) Γ (.aug i p y) E D σ H):=by
 have eo:=CM hp;rw[eo.1]
 refine(OL (X:=X) (i:=i) G.g.nd (by show X.N[i]?=ξ x;rw[G.g.slots];erw[dD h]) (sv hl G.g.names) (CK K hy) (y8 (X:=X) (c:=X.cc t) eo.2) (.inl (G.st x))).imp ?_;rintro D σ H ⟨env,ρ,S,DU,he,R,w,q⟩;let#[u0,e0,w0]:=PL.As.mp (show PL.yP _ _ from w);let#[v0,e1,r0]:=he.at_ i u0 e0;refine#[v0,e1,env,ρ,S,_,_,he,R,w0,λu S1 v H1 ρ1 w1 st1 R1 r1=>?_,q.qx R he];refine#[u0,u,ρ1,S1,_,r0.mono R st1,r1,R1,w1,λu2 S2 v2 H2 ρ2 w2 st2 R2 r2=>?_];erw[q.nx _ _ _ _ _ w2 (st1.trans st2) R2 ((he.later R (st1.trans st2)).set r2 i)]
end
open PL (U SO bE Xn KU KX bU)
section
variable{t:vW}{T:Tab}{Γ:bU}{k n:Nat}{I:Inf}{X:Cx}{E:St->XK}
def ug(ru:Rep c ρ H u v):∀{fs:List (String×U)}{vs:List (Str×V)},vs.map (·.1)=(fs.map (·.1)).map nm->aZ c ρ H (fs.map (·.2)) (vs.map (·.2)) ->
   (gB (nm f) v vs).map (·.1)=((PL.gO f u fs).map (·.1)).map nm/\aZ c ρ H ((PL.gO f u fs).map (·.2)) ((gB (nm f) v vs).map (·.2))
 |[],[],_,_=>#[rfl,aZ.cons ru aZ.nil]
 |[],_::_,hn,_=>by simp at hn
 |_::_,[],hn,_=>by simp at hn
 | (g,w')::fs,(b1,b2)::vs,hn,hr=>by
  dsimp[aA,dy] at hn;rw[aA,aA] at hr;unfold aZ at hr;let#[v',r',e',k1,k2]:=hr;injection e' with e1' e2'
  subst e1';subst e2';unfold gB PL.gO;by_cases z:g=f
  .have z2:b1=nm f:=by rw[hn.1,z]
   rw[if_pos z2,if_pos z]
   exact#[by simp[hn.1,hn.2],aZ.cons ru k2]
  .have z2:¬b1=nm f:=λq=>z (su _ _ (hn.1.symm.trans q))
   rw[if_neg z2,if_neg z]
   let#[m1,m2]:=ug ru hn.2 k2;exact#[by dsimp[aA,dy];exact#[hn.1,m1],aZ.cons k1 m2]
def MG(G:fg t T Γ k I X)(K:Tk X E)(hf:f∈T.vm)(hp:Cz op=ξ p)(hx:dG X o (tE (X.cc t) Γ x))(hy:dG X e (tE (X.cc t) Γ y)):PS X (.AugAssign (.Attribute o (nm f) tp) op e pos) (λD σ H=>tS (X.cc t) Γ (.Cn x f p y) E D σ H):=by
 have eo:=CM hp;rw[eo.1]
 refine(E4 (X:=X) (CK K hx) (CK K hy) (rd:=FH (X.cc t) p) (y8 (X:=X) (c:=X.cc t) eo.2)).imp ?_;rintro D σ H ⟨env,ρ,S,DU,he,R,w,q⟩;refine#[env,ρ,S,_,_,he,R,w,λu S1 v H1 ρ1 w1 st1 R1 r1=>?_,q.qx R he];let#[l,e1,w2]:=PL.iF.mp w1;subst e1;let#[c',fs,e2,w3]:=PL.mq.mp w2;let#[u0,e3,w4]:=PL.gM.mp w3;let#[a,C,dx,vs,ev,ha,hC,hH,hn,hr]:=R1.ins e2 r1;let#[cl,na]:=G.g.tab.cls c' C hC;let#[v0,l0,r0]:=ni hn hr e3 su;refine#[a,C,dx,vs,v0,ev,hH,cl,na f hf,l0,?_];refine#[env,ρ1,S1,_,_,he.later R st1,R1,w4,λu2 S2 v2 H2 ρ2 w5 st2 R2 r2=>?_,(q.qx R he).later st1];refine#[u0,u2,ρ2,S2,_,r0.mono R1 st2,r2,R2,w5,λu3 S3 v3 H3 ρ3 w6 st3 R3 r3=>?_];let#[c'',fs',e4,#[e5,hlen,w7]]:=PL.mq.mp w6;subst e5;have ha3:=(st2.trans st3).get ha;let#[C',dx',vs',hC',hH',hn',hr']:=R3.at_ l a _ ha3 e4;rw[hC] at hC';injection hC' with hC';subst hC'
 have hlv:vs'.length=fs'.length:=by have:=congrArg dh hn';simpa using this
 refine#[dx',vs',hH',∅,?_];have st4:=gu.put (H:=H3) (ax ha3) hH' rfl (.ins C dx' (gB (nm f) v3 vs'));let#[m1,m2]:=ug r3 hn' hr';rwa[q.nx _ _ _ _ _ w7 (((st1.trans st2).trans st3).trans st4) (R3.put ha3 hH' rfl #[C,dx',_,hC,a9,m1,m2.mono R3 st4]) ((he.later R ((st1.trans st2).trans st3)).later R3 st4)]
abbrev U9(K:Frag):V->V->Hp->VK->Prop:=λo i H Q=>∃p xs k v,o=.ref p/\i=.int k/\H p=ξ (.lst xs)/\0<=k/\xs[k.toNat]?=ξ v/\Q v H
def FN:Tj X (U9 X.K):=by
 intro pZ s σ H o i ov iv Q I ro ri h;let#[p,xs,k,v,rfl,rfl,hp,h0,hk,q]:=h;cases ro;let#[t,rfl]:=ri;let#[its,r,pl,hz]:=I.list (.inl (.inl hp));let#[w,ew,rw']:=r.get hk;have hn:=qd;have hl:=(ag.mp hk).1;erw[getItem_listL pl.isList h0 ∅ ew #[v,H,I,rw',q]]
def Zh(r:aZ c ρ H us vs)(ru:Rep c ρ H u v):∀(j:Nat),aZ c ρ H (us.set j u) (vs.set j v):=by
 intro j;induction us generalizing vs j with
 |nil=>cases vs with
  |nil=>erw[r]
  |cons a b=>erw[absurd r.len (#v[])]
 |cons x us ih=>cases vs with
  |nil=>erw[absurd r.len (#v[])]
  |cons a b=>
   unfold aZ at r;let#[v',r',e',k1,k2]:=r;injection e' with e1 e2
   subst e1;subst e2;cases j with
   |zero=>erw[aZ.cons ru k2]
   |succ j=>erw[aZ.cons k1 (ih k2 j)]
def MH(G:fg t T Γ k I X)(K:Tk X E)(hn:lS i=ζ)(hp:Cz op=ξ p)(hx:dG X o (tE (X.cc t) Γ x))(hi:dG X i (tE (X.cc t) Γ y))(hy:dG X e (tE (X.cc t) Γ z)):PS X (.AugAssign (.Subscript o i tp) op e pos) (λD σ H=>tS (X.cc t) Γ (.Fm x y p z) E D σ H):=by
 have eo:=CM hp;rw[eo.1]
 refine(KY (X:=X) (CK K hx) (CK K hi) FN (CK K hy) (tip:=FH (X.cc t) p) (y8 (X:=X) (c:=X.cc t) eo.2) set_list (λov iv new=>by cases i<;>first|rfl|simp[lS] at hn)).imp ?_;rintro D σ H ⟨env,ρ,S,DU,he,R,w,q⟩;refine#[env,ρ,S,_,_,he,R,w,λu S1 v H1 ρ1 w1 st1 R1 r1=>?_,q.qx R he];refine#[env,ρ1,S1,_,_,he.later R st1,R1,w1,λu2 S2 v2 H2 ρ2 w2 st2 R2 r2=>?_,(q.qx R he).later st1];obtain⟨l,e1,w3⟩:=PL.iF.mp w2;subst e1;obtain⟨j,e2,w4⟩:=PL.f9.mp w3;subst e2;obtain⟨us,e3,h0,w5⟩:=PL.cY.mp w4;obtain⟨u0,e4,w6⟩:=PL.gM.mp w5;obtain⟨a,vs,ev,ha,hH,hr⟩:=R2.lst e3 (r1.mono R1 st2);subst ev;obtain⟨v0,l0,r0⟩:=hr.get e4;refine#[a,vs,j,v0,rfl,aR.mp r2,hH,h0,l0,?_];refine#[env,ρ2,S2,_,_,(he.later R st1).later R1 st2,R2,w6,λu3 S3 v3 H3 ρ3 w7 st3 R3 r3=>?_,(q.qx R he).later (st1.trans st2)];refine#[u0,u3,ρ3,S3,_,r0.mono R2 st3,r3,R3,w7,λu4 S4 v4 H4 ρ4 w8 st4 R4 r4=>?_];obtain⟨us',e5,hj,w9⟩:=PL.cY.mp w8;have ha4:=(st3.trans st4).get ha;obtain⟨vs',hH',hr'⟩:=R4.at_ l a _ ha4 e5;refine#[a,vs',j,j.toNat,rfl,aR.mp r2,hH',?_,?_]
 .unfold O8
  rw[if_pos h0,if_pos (by have:=hr'.len;omega)]
 have st5:=gu.put (H:=H4) (ax ha4) hH' rfl (.lst (vs'.set j.toNat v4));rwa[q.nx _ _ _ _ _ w9 ((((st1.trans st2).trans st3).trans st4).trans st5) (R4.put ha4 hH' rfl #[_,a9,(Zh hr' r4 j.toNat).mono R4 st5]) ((he.later R (((st1.trans st2).trans st3).trans st4)).later R4 st5)]
def QW(K:Tk X E)(hx:CB X c (tT (X.cc t) Γ x))(hy:rF X b (λD σ H=>Gk (X.cc t) Γ y E D σ H)):PS X (.While c b [] pos) (λD σ H=>tS (X.cc t) Γ (.Co x y) E D σ H):=by
 refine(GY (X:=X) K.ps (U7 K hx) hy).imp ?_;rintro D σ H ⟨env,ρ,S,DU,he,R,w,q⟩;let#[n0,w0]:=w
 let F:=PL.yS (λen S1 k=>PL.WT Γ x en S1 k (DU.ex en)) (λen S1 k=>PL.rG Γ y {DU with nx:=k} en S1) DU.nx
 refine#[λm σ1 H1=>∃env1 ρ1 S1,gu ρ H ρ1 H1/\b6 (X.cc t) ρ1 H1 S1/\iY (X.cc t) ρ1 H1 env1 σ1/\F m env1 S1,#[n0,env,ρ,S,.refl,R,he,w0],?_];rintro m σ1 H1 ⟨env1,ρ1,S1,st1,R1,he1,w1⟩;cases m with
 |zero=>erw[aJ w1]
 |succ m=>
  have w1':PL.WT Γ x env1 S1 (λt S1=>if t=ζ then PL.rG Γ y {DU with nx:=F m} env1 S1 else DU.nx env1 S1) (DU.ex env1):=w1;have q1:=q.later st1;refine#[env1,ρ1,S1,_,_,he1,R1,w1',λb S2 H2 ρ2 w2 st2 R2=>?_,q1.qx R1 he1];cases b with
  |false=>erw[q1.nx _ _ _ _ _ w2 st2 R2 (he1.later R1 st2)]
  |true=>
   refine#[λσ3 H3=>∃env3 ρ3 S3,gu ρ H ρ3 H3/\b6 (X.cc t) ρ3 H3 S3/\iY (X.cc t) ρ3 H3 env3 σ3/\F m env3 S3,λσ3 H3 h3=>#[m,b4 m,h3],?_];have q2:=q1.later st2;refine#[env1,ρ2,S2,_,he1.later R1 st2,R2,w2,#[λenv' S' σ' H' ρ' h b R' e=>#[env',ρ',S',(st1.trans st2).trans b,R',e,h],q2.rt,q2.ex]]
abbrev IP(Γ:bU)(tt:PL.Tg)(z:PL.dj)(DU:PL.Ends)(u:U)(en:PL.Env)(S:bE)(k:PL.Env->bE->Prop):Prop:=match tt with
 |.name i=>PL.rG Γ z {DU with nx:=k} (en.set i (ξ u)) S
 |.pair i j=>PL.NT u λx y=>PL.rG Γ z {DU with nx:=k} ((en.set i (ξ x)).set j (ξ y)) S
def IQ:PL.WS Γ (.jN tt y z) DU env S=PL.WI Γ y env S (λus g S1=>PL.vg g (IP Γ tt z DU) DU.nx us env S1) (DU.ex env):=by
 cases tt<;>rfl
def IS(G:fg t T Γ k I X)(K:Tk X E)(hc:I.calm=ζ)(hs:∀env v,foldedSetIterable it env v=pure v)
  (hi:PI X tg it (λσ H R=>xN (X.cc t) Γ y (E σ) σ H R)) (hg:PG X tg g0) (hb:rF X b (λD σ H=>Gk (X.cc t) Γ z E D σ H))
  (hr0:∀{ρ H S env σ u v DU D Q k},iY (X.cc t) ρ H env σ->b6 (X.cc t) ρ H S->Rep (X.cc t) ρ H u v->IP Γ tt z DU u env S k->DR (X.cc t) ρ H {DU with nx:=k} D E->(∀σ' H',Gk (X.cc t) Γ z E D σ' H'->Q σ' H')->g0 v σ H Q):
  PS X (.For tg it b [] pos) (λD σ H=>tS (X.cc t) Γ (.jN tt y z) E D σ H):=by
 refine(ON (X:=X) K.ps (G.g.calm hc).1 hi hg hb (hs _)).imp ?_;rintro D σ H ⟨env,ρ,S,DU,he,R,w,q⟩;rw[IQ] at w;refine#[env,ρ,S,_,_,he,R,w,λus g S1 H1 ρ1 J w1 st1 R1 io=>?_,q.qx R he]
 let F:=PL.vg g (IP Γ tt z DU) DU.nx
 refine#[λj m σ2 H2=>m+j=us.length/\∃env2 ρ2 S2,gu ρ1 H1 ρ2 H2/\b6 (X.cc t) ρ2 H2 S2/\iY (X.cc t) ρ2 H2 env2 σ2/\F (us.drop j) env2 S2,#[us.length,rfl,env,ρ1,S1,.refl,R1,he.later R st1,w1],?_];rintro j m σ2 H2 ⟨hm,env2,ρ2,S2,st2,R2,he2,wf⟩;have q2:=q.later (st1.trans st2);cases hd:us.drop j with
 |nil=>
  rw[hd] at wf;obtain⟨g2,w2⟩:g S2/\DU.nx env2 S2:=wf;erw[.inl #[(io j ρ2 H2 S2 st2 R2 g2).2 (Dt.mp hd),q2.nx _ _ _ _ _ w2 .refl R2 he2]]
 |cons u rest=>
  rw[hd] at wf;let#[g2,w2]:=wf;have hu:us[j]?=ξ u:=by
   have:=congrArg (λl=>l[0]?) hd;simpa using this
  have hr:us.drop (j+1)=rest:=by
   have:=congrArg List.tail hd;simpa using this
  have hj:j<us.length:=(ag.mp hu).1;let#[jg,jy]:=(io j ρ2 H2 S2 st2 R2 g2).1 u hu;rwa[.inr #[jg,λσ3 H3=>∃env3 ρ3 S3,gu ρ1 H1 ρ3 H3/\b6 (X.cc t) ρ3 H3 S3/\iY (X.cc t) ρ3 H3 env3 σ3/\F rest env3 S3,λσ3 H3 h3=>#[m-1,∅,∅,%[hr|h3]],λyv H3 hy=>?_]];let#[st3,R3,ry]:=jy yv H3 hy;have q3:=q2.later st3;rwa[hr0 (DU:=DU) (k:=F rest) (D:=#[_,_,_,_]) (he2.later R2 st3) R3 ry w2 ?_ λσ' H' h=>h]
  exact#[λenv' S' σ' H' ρ' h b R' e=>#[env',ρ',S',(st2.trans st3).trans b,R',e,h],q3.rt,q3.ex]
def MI(G:fg t T Γ k I X)(K:Tk X E)(hc:I.calm=ζ)(h:dr x I.N=ξ i)(hl:vp (I.names.lookup x)=ζ)(hs:∀env v,foldedSetIterable it env v=pure v)
  (hi:PI X (.Name x px) it (λσ H R=>xN (X.cc t) Γ y (E σ) σ H R)) (hb:rF X b (λD σ H=>Gk (X.cc t) Γ z E D σ H)):PS X (.For (.Name x px) it b [] pos) (λD σ H=>tS (X.cc t) Γ (.jN (.name i) y z) E D σ H):=
 IS (tt:=.name i) G K hc hs hi (qH (i:=i) G.g.nd (by rw[G.g.slots];exact dD h) (sv hl G.g.names) (.inl (G.st x))) hb
  λhe R ru w q hq=>hq _ _ #[_,_,_,_,he.set ru i,R,w,q]
def MJ(G:fg t T Γ k I X)(K:Tk X E)(hc:I.calm=ζ)(h:dr x I.N=ξ i)(hl:vp (I.names.lookup x)=ζ)(h2:dr x2 I.N=ξ j)(hl2:vp (I.names.lookup x2)=ζ)(hs:∀env v,foldedSetIterable it env v=pure v)
  (hi:PI X (.Tuple [.Name x px,.Name x2 px2] kk pt) it (λσ H R=>xN (X.cc t) Γ y (E σ) σ H R)) (hb:rF X b (λD σ H=>Gk (X.cc t) Γ z E D σ H)):PS X (.For (.Tuple [.Name x px,.Name x2 px2] kk pt) it b [] pos) (λD σ H=>tS (X.cc t) Γ (.jN (.pair i j) y z) E D σ H):=by
 have p1:PG X (.Name x px) (wY i):=qH (i:=i) G.g.nd (%[G.g.slots|dD h]) (sv hl G.g.names) (.inl (G.st x));have p2:PG X (.Name x2 px2) (wY j):=qH (i:=j) G.g.nd (%[G.g.slots|dD h2]) (sv hl2 G.g.names) (.inl (G.st x2));rwa[IS (tt:=.pair i j) G K hc hs hi (GV (n:=2) (G.g.calm hc).1 (qI p1 (qI p2 DA rfl) rfl) rfl rfl) hb ?_];intro ρ H S env σ u v DU D Q kk he R ru w q hq;let#[a,b',e1,w]:=PL.DP.mp (show PL.NT _ _ from w);subst e1;let#[ad,vs,ev,hs',rs]:=dg.mp ru;subst ev;unfold aZ at rs;let#[v1,r1,rfl,k1,k2]:=rs;unfold aZ at k2;let#[v2,r2,rfl,k3,k4]:=k2;unfold aZ at k4;subst k4;exact#[ad,[v1,v2],rfl,.inl (.inl hs'),rfl,v1,[v2],rfl,v2,[],rfl,rfl,hq _ _ #[_,_,_,_,(he.set k1 i).set k3 j,R,w,q]]
end
open PL (U SO bE Xn KU KX bU)
section
variable{t:vW}{T:Tab}{Γ:bU}{k n:Nat}{I:Inf}{X:Cx}{E:St->XK}
def pG.oA(h:pG (X.at_ pZ E) [] H b):pG X pZ H b:=
 #[h.1,h.2.1,h.2.2.1,h.2.2.2.1,h.2.2.2.2.1,λp hp=>h.2.2.2.2.2 p (~~~hp)]
def IT(K:Tk X E)(h:∀pZ E,PI (X.at_ pZ E) tg it (λσ H R=>xN (X.cc t) Γ y (E σ) σ H R)):PI X tg it (λσ H R=>xN (X.cc t) Γ y (E σ) σ H R):=by
 intro pZ s σ H R J z;have tk:∀e s,Ua X pZ E e s->X.xe e s:=λe s #[σ',h]=>K.tk _ _ _ _ h
 rwa[bg (h pZ E [] s σ H R J.at_ z) (λv s1 q=>bg q (λitv s2 q2=>?_) tk) tk];let#[ita,fp,tn,Jt,H',e,I',tu,t0,hf,hr]:=q2;exact#[ita,fp,tn,Jt,H',e,I'.oA,tu,t0,λb hb=>(hf b hb).oA,hr]
def CN{elt iter tg:Expr}{ifs:List Expr}{x:List Str}{y:Str}{i:Nat}{py pos spos:Pos}{sc:jh}{it:PL.It}{tc:PL.Tx}{e:PL.Ex}{ci:List Nat}(G:fg t T Γ k I X)(K:Tk X E)(hc:I.calm=ζ)(ht:LX tg=ξ x)(hb:vn I sc x=ζ)(hci:(iC I sc).mapM (λy=>dr y I.N)=ξ ci)
  (hs:∀env v,foldedSetIterable iter env v=pure v) (hi:∀pZ E,PI (X.at_ pZ E) tg iter (λσ H R=>xN (X.cc t) Γ it (E σ) σ H R))
  (hif:∀(X':Cx),Good t T Γ k #[qY I sc.names,x++iC I sc,ζ] X'->X'.cc t=X.cc t->(∀e s,X'.xe e s↔False)->Lw X' ifs (λσ H Q=>tT (X.cc t) Γ tc (λ_ _ _=>False) σ H Q))
  (he:∀(X':Cx),Good t T Γ k #[qY I sc.names,x++iC I sc,ζ] X'->X'.cc t=X.cc t->dG X' elt (tE (X.cc t) Γ e))
  (hy:dr y I.N=ξ i) (hk:I.names.lookup y=ξ .local) (hsw:fV (.ListComp elt [#[tg,iter,ifs,0]] sc pos) (ξ (.Name y py)) spos.line X.env=pure ζ):
  PS X (.Assign [.Name y py] (.ListComp elt [#[tg,iter,ifs,0]] sc pos) spos) (λD σ H=>tS (X.cc t) Γ (.set i (.comp (x.length==2) e it tc ci)) E D σ H):=by
 have hn:(iC I sc).Nodup:=by
  unfold iC;have:=G.g.nd;rw[G.g.slots] at this;erw[this.filter _]
 have cp:=Ef G.g hci;refine(Cf (X:=X) (i:=i) (wi:=λσ H R=>xN (X.cc t) Γ it (E σ) σ H R) (tc:=λσ H Q=>tT (X.cc t) Γ tc (λ_ _ _=>False) σ H Q) (te:=λσ H Q=>tE (X.cc t) Γ e (λ_ _ _=>False) σ H Q)
  (vy G.g hb) cp hn (G.g.calm hc).1 (IK ht (vy G.g hb) cp hn (G.g.calm hc).1) (IT K hi) (λC s₀ H₀ ex=>hif _ (rn G.g hc hb cp hn) rfl λ_ _=>j7) (λC s₀ H₀ ex=>(he _ (rn G.g hc hb cp hn) rfl).no λ_ _=>j7) G.g.nd (%[G.g.slots|dD hy]) (%[G.g.names|hk]) hsw (hs _)).imp ?_
 intro D σ H z;erw[xS (CL z)]
def psR(K:Tk X E)(XC:mh X.K C bm)(kp:kL X.K (.ref C)=ζ)(hi:hX X.K (.ref C) "__init__"=ξ (ξ (.ref f)))(hf:isFn X.K (.ref f)=ζ)
  (F:iz X.prog X.w X.K X.mg X.base (mP X.prog X.w) k f fd ps sp) (hr:jj (k+1) X.A) (hg:Gl X x) (hm:X.mg x=ξ (.ref C)) (hb:Binds X.K fd ps []) (ha:y6 X (e::es) ta) (hps:ps.length<=1000)
  (hdb:(x==("__debug__":Str))=ϑ) (he:noStar e=ζ) (hes:es.all noStar=ζ):
  PS X (.Raise (ξ (.Call (.Name x p) (e::es) [] cpos)) ψ pos) (λ_ σ H=>ta (E σ) σ H λvs H1=>∀a,H1 a=ψ ->
   sp (.ref a::vs) (upd H1 a (.xo a C ψ)) (λv H2=>v=.bK/\∃d,H2 a=ξ (.xo a C (ξ d))/\E σ (ζ,.ref C) (ξ d) (kb H2 a)) (E σ)):=by
 intro pZ s σ H D I h;let#[nm,q,N,bs,sn,sub,ab,col,dd,k0,k1,k2,k3,k5,hC]:=XC.ob;rw[arm_exec_Raise]
 dsimp[evalOpt,Ds];rwa[ae (gY (Aj (C:=C) (nm:=nm) (q:=q) (N:=N) (bs:=bs) (bm:=bm) (sn:=sn) (sub:=sub) (ab:=ab) (col:=col) (dd:=dd) (k0:=k0) (k1:=k1) (k2:=k2) (k3:=k3) (k5:=k5) (newId:="ValueError.__new__") (XC.base I.jY) (hr.hd (fq _)) ?_))];rwa[ae (bg (Q:=λv s₁=>∃e dx,v=.ref e/\s₁.heap.get? C=ξ (iP nm q C N bs bm ζ sn sub ab col dd k0 k1 k2 k3 k5 "ValueError.__new__")/\nW s₁.heap e (ζ,.ref C) dx ψ/\X.xe (.ref e) s₁) ?_ (λv s3 h3=>ae (gY (ao h3))) λ_ _ x=>x)];rwa[dC (kh I hg hm ?_ hdb)];rwa[uF (h₀:=X.base) I.ok.mod.Oy kp (bg (ha cpos pZ s σ H _ (E σ) I h) (λus s1 h9=>?_) λ_ _ z=>K.tk _ _ _ _ z) (cx he) (eZ hes)];let#[vs,H1,I1,r,q1]:=h9;refine#[I1.jY,?_];let#[hp,gg,d0,tk,os]:=s1;rwa[x_call (fI:=f) uG (XC.tail I1.jY) (I1.jY C _ hC) (qb I1.jY hi) (λself=>bind_fn I1.jY self (beq_iff_eq.mp hf)) (λh' a hm' hs=>?_) ?_]
 .let#[t0,ta,tn,tt]:=hm'.there
  have xat:nW h' a (ζ,.ref C) ψ ψ:=#[_,_,ta,rfl,λ_=>#[rfl,by show 4<6;decide]]
  have I2:=I1.laid (a:=a) (o:=.xo a C ψ) (h':=h') (t':=tk) hm'.keeps hs (Ht xat);have na:H1 a=ψ:=I1.ck.fresh hs;have hsp:=q1 a na;have hl:(aL a::us++[]).length=ps.length:=by
   have el:=F.len _ _ _ _ hsp;rw[cb,<-el,a5,a5,r.length]
  refine mM (jV (F.run _ X.stack _ _ #[aL a::us,[]] (aL a::us) (V.ref a::vs) _ (E σ) (hr.make C us []) (I2.K9.make C us []) (by
   have b:=hb #[h',gg,d0,tk,os] (aL a::us) I2.jY hl;rw[cb] at b;erw[b]) (.cons rfl r) hsp) λres s' hq=>?_)
  cases res with
  |error ex=>
   let#[a',T',c',dx',H',e1,I',x',fr,q']:=mP.inv I2 hq;erw[K.tk pZ σ s' ex #[a',ξ T',c',dx',H',e1,I',x',fr,q']]
  |ok fl=>
   cases fl with
   |next=>erw[aJ hq]
   |brk=>erw[aJ hq]
   |cont=>erw[aJ hq]
   |ret u=>
    let#[v,H2,I3,rv,ev,d,hd,q2]:=I2.after hq;subst ev;refine#[rv,a,ξ d,rfl,I3.jY C _ hC,Ak I3.ck hd,?_];rwa[K.tk pZ σ s' _ #[a,ψ,(ζ,.ref C),ξ d,kb H2 a,rfl,I3.NM hd,Ak I3.ck hd,λb m=>?_,q2]];have e:b=a:=by simpa using m
    subst e;exact#[mQ,(I1.Kk hs).2]
 .have el:=r.length
  have hsp:=q1 hp.objs.size (I1.ck.fresh (ar _));have h2:=F.len _ _ _ _ hsp;rw[a5,el] at h2;show([]++us).length<=sizeLine;rw[oh,gv]
  omega
def IU(G:fg t T Γ k I X)(K:Tk X E)(hc:I.calm=ζ)(hg:I.gl (nm q)=ζ)(hq:q∈T.tN)(hd:(nm q==("__debug__":Str))=ϑ)(h1:noStar e=ζ)(h2:es.all noStar=ζ)(hf:PL.bN q≠[])
  (ha:y6 X (e::es) (D6 (X.cc t) Γ xs)):PS X (.Raise (ξ (.Call (.Name (nm q) p) (e::es) [] cpos)) ψ pos) (λD σ H=>tS (X.cc t) Γ (.raise q xs) E D σ H):=by
 let#[C,f,fd,ps,hC,kp,hi,hfn,F,B,hps]:=(G.xi q hq hf).ex;let#[C',hC',hmg]:=G.g.tab.UP q hq;rw[hC] at hC';injection hC' with hC';subst hC'
 let#[_,_,#[bm,XC],_]:=G.g.tab.exc q C hC;refine(psR (k:=k) K XC kp hi hfn (F.mono (bC k)) (G.g.calm hc).2 (gH G.g hg) hmg B ha hps hd h1 h2).imp ?_;rintro D σ H ⟨env,ρ,S,DU,he,R,w,qq⟩;refine#[env,ρ,S,_,_,he,R,w,λus S1 vs H1 ρ1 w1 st1 R1 r1=>?_,qq.qx R he];intro a ha;let#[hl,w2]:=w1;have hlv:vs.length=((PL.bN q).map nm).length:=by rw[ah,<-hl];erw[r1.len.symm]
 refine#[a,vs,rfl,hlv,a9,λd hd nd=>#[rfl,d,a9,?_]];have hd1:H1 d=ψ:=by rw[a7 nd] at hd;erw[hd]
 have hH:kb (upd (upd (upd H1 a (.xo a C ψ)) d (.xf d (((PL.bN q).map nm).zip vs))) a (.xo a C (ξ d))) a=upd H1 d (.xf d (((PL.bN q).map nm).zip vs)):=by
  funext b
  unfold kb;by_cases z:b=a
  .subst z;rw[if_pos rfl,a7 (bI nd),ha]
  .rw[if_neg z,a7 z]
   by_cases z2:b=d
   .subst z2;rw[a9,a9]
   .rw[a7 z2,a7 z2,a7 z]
 rw[hH]
 have st2:=gu.lay R1 hd1 (.xf d (((PL.bN q).map nm).zip vs));rwa[qq.ex env σ #[q,us,ζ] S1 _ ρ1 C d w2 (st1.trans st2) (R1.lay hd1 _) ((he.later R st1).later R1 st2) #[hC,_,a9,?_,?_]]
 .erw[jR ∅]
 .rw[jS ∅];erw[r1.mono R1 st2]
def psT{body suite:List Stmt}{b0:Stmt}{x n:Str}{np hpos pos:Pos}{C':Addr}{bm':List Value}{i:Nat}{tb:(St->XK)->TS}{th:TS}(fr:MC X)(hb:∀pZ E',rF (X.al pZ E') body (tb E'))(hs:∀a,rF (X.hand a) (b0::suite) th)
  (hN:X.N.Nodup) (hi:X.N[i]?=ξ n) (hk:X.env.scope.names.lookup n=ξ .local) (hg:Gl X x) (hm:X.mg x=ξ (.ref C')) (c':mh X.K C' bm') (hdb:(x==("__debug__":Str))=ϑ):
  PS X (.Try body [.ExceptHandler (ξ (.Name x np)) (ξ n) (b0::suite) hpos] [] [] pos) (X2 X.K C' i tb th):=by
 intro pZ s σ H D I h;rwa[wpAny_Try_except (bg (hb pZ _ [] s σ H D I.al h) (λf s1 q=>?_) λex s1 q=>?_)]
 .have q:=q.nj
  cases f with
  |next=>erw[jm q]
  |ret v=>erw[q]
  |brk=>erw[q]
  |cont=>erw[q]
 .rwa[bg q (λ_ s2 q2=>?_) λ_ _ z=>aJ z]
  let#[σ1,a,T2,c,dx,H1,rfl,I2,x2,fa2,fT2,fl,C,bm,rfl,xc,has,k]:=q2;rwa[xC (s:=s2) x2 λh3 k3 x3=>?_]
  have I3:Inv X pZ σ1 H1 {s2 with heap:=h3}:=I2.jw (k3.mono (λb z=>absurd z (#v[])) λ_ z=>z) (λb z=>by
   have e:b=T2:=by simpa using z
   subst e;erw[fT2])
  rwa[wpAny_handleBy_cons (Ke (kh (X:=X.hand a) (I3.hand a) hg hm ?_ hdb)) (by intro z;cases z)];refine qO (s:={s2 with heap:=h3}) I3.jY xc c' x3 ?_;rw[has]
  refine Du (xC (s:={s2 with heap:=h3}) x3 λh4 k4 x4=>?_);have I4:Inv X pZ σ1 H1 {s2 with heap:=h4}:=I3.jw (k4.mono (λb z=>absurd z (#v[])) λ_ z=>z) (λb z=>by
   have e:b=T2:=by simpa using z
   subst e;erw[fT2])
  have I5:=I4.NN fa2 x4;rwa[kQ (v:=.ref a) I5 hN hi (.inl hk) rfl (λs6 I6=>?_) (.inr hk)];rwa[bg (hs a pZ s6 _ _ _ (I6.hand a) (k a fa2.1)) (λf s7 q7=>?_) λ_ _ z=>aJ z]
  cases f with
  |next=>
   let#[σ7,H7,I7,q7]:=q7;erw[mi (I7.uY I.ok) hN hi hk λs8 I8=>#[_,H7,I8,q7]]
  |brk=>
   let#[σ7,H7,I7,q7]:=q7;erw[mi (I7.uY I.ok) hN hi hk λs8 I8=>#[_,H7,I8,q7]]
  |cont=>
   let#[σ7,H7,I7,q7]:=q7;erw[mi (I7.uY I.ok) hN hi hk λs8 I8=>#[_,H7,I8,q7]]
  |ret u=>
   let#[v7,σ7,H7,I7,r7,q7]:=q7;erw[mi (I7.uY I.ok) hN hi hk λs8 I8=>#[v7,_,H7,I8,r7,q7]]
def QY{q:String}{y:Str}{i:Nat}{b h:List Stmt}{h0:Stmt}{np hpos pos:Pos}{xb xh:PL.dj}(G:fg t T Γ k I X)(hg:I.gl (nm q)=ζ)(hq:q∈T.tN)(hd:(nm q==("__debug__":Str))=ϑ)(hy:dr y I.N=ξ i)(hk:I.names.lookup y=ξ .local)
  (hb:∀pZ E',rF (X.al pZ E') b (λD σ H=>Gk (X.cc t) Γ xb E' D σ H)) (hh:∀a,rF (X.hand a) (h0::h) (λD σ H=>Gk (X.cc t) Γ xh (λ_ _ _ _=>False) D σ H)):
  PS X (.Try b [.ExceptHandler (ξ (.Name (nm q) np)) (ξ y) (h0::h) hpos] [] [] pos) (λD σ H=>tS (X.cc t) Γ (.Pu xb q i xh) E D σ H):=by
 let#[C',hC',hmg]:=G.g.tab.UP q hq;let#[_,_,#[bm',XC'],_]:=G.g.tab.exc q C' hC';refine(psT (X:=X) (i:=i) G.fr hb hh G.g.nd (%[G.g.slots|dD hy]) (%[G.g.names|hk]) (gH G.g hg) hmg XC' hd).imp ?_;rintro D σ H ⟨env,ρ,S,DU,he,R,w,qq⟩;refine#[env,ρ,S,_,he,R,w,#[qq.nx,qq.rt,?_]];rintro env' σ' ⟨xc,xus,xfl⟩ S' H' ρ' C d ⟨hx,wh⟩ st R' he' ⟨hC,fs,hd',hn,hr⟩;let#[_,_,#[bm,XC],_]:=G.g.tab.exc xc C hC;refine#[_,C,bm,rfl,XC,G.up xc C bm q C' hC hC' XC hx,λa ha=>?_];have st2:=gu.lay R' ha (.xc a (xfl,.ref C) (ξ d));have R2:=R'.lay ha (.xc a (xfl,.ref C) (ξ d));have hda:d≠a:=λz=>by rw[z,ha] at hd';cases hd'
 have re:Rep (X.cc t) ρ' (upd H' a (.xc a (xfl,.ref C) (ξ d))) (.exc xc xus) (.ref a):=by
  unfold Rep;exact#[a,d,C,fs,rfl,hC,#[_,a9],%[a7 hda|hd'],hn,hr.mono R' st2]
 refine#[_,ρ',S',_,(he'.later R' st2).set re i,R2,wh,#[λenv2 S2 σ2 H2 ρ2 h st3 R3 e3=>?_,?_,λ_ _ _ _ _ _ _ _ z=>aJ z]]
 .erw[qq.nx _ _ _ _ _ h ((st.trans st2).trans st3) R3 (e3.del i)]
 .erw[qq.rt.later (st.trans st2)]
end
open PL (U SO bE Xn KU KX bU)
section
variable{M:Kr}{A:cf}{E:Value->av->Prop}{s:av}{env:Env}{L e T:Addr}{c:Bool×Value}{dx:Option Addr}{fl:Value}
def Va{α:Type}{what:String}{Q:α->av->Prop}(hf:env.frame=ξ L)(x:nW s.heap e c dx (ξ (T,fl)))(q:∀h',gC [] [T] s.heap h'->nW h' e c dx (ξ (T,eV L))->E (.ref e) {s with heap:=h'}):wpAny M A (PySem.passOn what (.ref e) env:Sem α) Q E s:=by
 let#[vs,sl,he,h1,_]:=id x;unfold PySem.passOn;rwa[ae (fh he rfl h1 ?_)];rw[if_neg (show ¬(aL T==bx)=ζ by simp)]
 erw[ae (T6 hf x λh' k x'=>KC (q h' k x'))]
def Vb(hf:env.frame=ξ L)(x:nW s.heap e c dx (ξ (T,fl)))(q:∀h',gC [] [T] s.heap h'->nW h' e c dx (ξ (T,eV L))->E' (.ref e) {s with heap:=h'}):cameBackBy M A env E' (.ref e) s:=by
 let#[vs,sl,he,h1,_]:=id x;unfold cameBackBy;rwa[ae (fh he rfl h1 ?_)];rw[if_neg (show ¬(aL T==bx)=ζ by simp)]
 erw[T6 hf x λh' k x'=>q h' k x']
end
section
variable{t:vW}{T:Tab}{Γ:bU}{k n:Nat}{I:Inf}{X:Cx}{E:St->XK}
def vT.fp(I:Inv X pZ σ H s)(f:vT X pZ H b):pG X pZ H b:=
 #[f.1,f.2.2.1,λz=>by
  let#[_,o,ho,_]:=I.ok.pF.mem z;erw[absurd (au (aU ho) f.2.1) (cV _)],.inr f.2.1,f.2.2.2.1,f.2.2.2.2]
def Zi{body:List Stmt}{x n y:Str}{np hpos pos rpos cpos p zp:Pos}{zj:Nat}{C' C f:Addr}{bm' bm:List Value}{fd:dv}{ps:List Str}{sp:Sp}{i:Nat}{e:Expr}{es:List Expr}{tb:(St->XK)->TS}{ta:XK->TA}(K:Tk X E)(fr:MC X)(hb:∀pZ E',rF (X.al pZ E') body (tb E'))(ha:∀a,y6 (X.hand a) (e::es) ta)
  (hN:X.N.Nodup) (hi:X.N[i]?=ξ n) (hk:X.env.scope.names.lookup n=ξ .local) (hg:Gl X x) (hm:X.mg x=ξ (.ref C')) (c':mh X.K C' bm') (hdb:(x==("__debug__":Str))=ϑ)
  (XC:mh X.K C bm) (kp:kL X.K (.ref C)=ζ) (hif:hX X.K (.ref C) "__init__"=ξ (ξ (.ref f))) (hfn:isFn X.K (.ref f)=ζ) (F:iz X.prog X.w X.K X.mg X.base (mP X.prog X.w) 0 f fd ps sp) (hr:jj 1 X.A) (hg2:Gl X y) (hm2:X.mg y=ξ (.ref C)) (hbi:Binds X.K fd ps []) (hps:ps.length<=1000)
  (hdb2:(y==("__debug__":Str))=ϑ) (he:noStar e=ζ) (hes:es.all noStar=ζ):
  PS X (.Try body [.ExceptHandler (ξ (.Name x np)) (ξ n) [.Raise (ξ (.Call (.Name y p) (e::es) [] cpos)) (ξ (.Constant .none zj zp)) rpos] hpos] [] [] pos) (λD σ H=>
   tb (λσ' c dx H'=>∃C0 bm0,c=(ζ,.ref C0)/\mh X.K C0 bm0/\(aL C0::bm0).contains (.ref C')=ζ/\∀a,H' a=ψ->ta (λ_ _ _=>False) (σ'.set i (ξ (.ref a))) (upd H' a (.xc a (ζ,.ref C0) dx)) λvs H1=>
    H1 a=ξ (.xc a (ζ,.ref C0) dx)/\∀b,H1 b=ψ->sp (.ref b::vs) (upd H1 b (.xo b C ψ)) (λv H2=>v=.bK/\H2 a=ξ (.xc a (ζ,.ref C0) dx)/\∃d,H2 b=ξ (.xo b C (ξ d))/\E ((σ'.set i (ξ (.ref a))).set i ψ) (ϑ,.ref C) (ξ d) (kb H2 b)) (λ_ _ _=>False)) D σ H):=by
 intro pZ s σ H D I h;rwa[wpAny_Try_except (bg (hb pZ _ [] s σ H D I.al h) (λf s1 q=>?_) λex s1 q=>?_)]
 .have q:=q.nj
  cases f with
  |next=>erw[jm q]
  |ret v=>erw[q]
  |brk=>erw[q]
  |cont=>erw[q]
 .rwa[bg q (λ_ s2 q2=>?_) λ_ _ z=>aJ z]
  let#[σ1,a,T2,c,dx,H1,rfl,I2,x2,fa2,fT2,C0,bm0,rfl,xc,has,k]:=q2;rwa[xC (s:=s2) x2 λh3 k3 x3=>?_]
  have I3:Inv X pZ σ1 H1 {s2 with heap:=h3}:=I2.jw (k3.mono (λb z=>absurd z (#v[])) λ_ z=>z) (λb z=>by
   have e:b=T2:=by simpa using z
   subst e;erw[fT2])
  rwa[wpAny_handleBy_cons (Ke (kh (X:=X.hand a) (I3.hand a) hg hm ?_ hdb)) (by intro z;cases z)];refine qO (s:={s2 with heap:=h3}) I3.jY xc c' x3 ?_;rw[has]
  refine Du (xC (s:={s2 with heap:=h3}) x3 λh4 k4 x4=>?_);have I4:Inv X pZ σ1 H1 {s2 with heap:=h4}:=I3.jw (k4.mono (λb z=>absurd z (#v[])) λ_ z=>z) (λb z=>by
   have e:b=T2:=by simpa using z
   subst e;erw[fT2])
  have I5:=I4.NN fa2 x4;rwa[kQ (v:=.ref a) I5 hN hi (.inl hk) rfl (λs6 I6=>?_) (.inr hk)];rwa[yg ?_];let#[nm,q,N,bs,sn,sub,ab,col,dd,k0,k1,k2,k3,k5,hC]:=XC.ob;rw[arm_exec_Raise]
  dsimp[evalOpt,Ds];have I6:=I6.hand a;refine ae (gY (Az (C:=C) (nm:=nm) (q:=q) (N:=N) (bs:=bs) (bm:=bm) (sn:=sn) (sub:=sub) (ab:=ab) (col:=col) (dd:=dd) (k0:=k0) (k1:=k1) (k2:=k2) (k3:=k3) (k5:=k5) (newId:="ValueError.__new__") (a0:=a) (XC.base I6.jY) rfl ?_ λQ s q=>ae (Constant_none (ae (gY (ao q))))));refine ae (bg (Q:=λv s₁=>∃e dx,v=.ref e/\e≠a/\s₁.heap.get? C=ξ (iP nm q C N bs bm ζ sn sub ab col dd k0 k1 k2 k3 k5 "ValueError.__new__")/\nW s₁.heap e (ζ,.ref C) dx ψ/\(∃o vs,s₁.heap.get? a=ξ o/\o.data=.fields vs/\vs[2]?=ξ .none) /\
   ∀h',gC [] [e] s₁.heap h'->nW h' e (ϑ,.ref C) dx ψ->_) ?_ (λv s3 h3=>ae (gY (ao h3))) λ_ _ x=>x)
  rwa[dC (kh (X:=X.hand a) I6 hg2 hm2 ?_ hdb2)];rwa[uF (h₀:=X.base) I6.ok.mod.Oy kp (bg (ha a cpos pZ s6 _ _ _ _ I6 (k a fa2.1)) (λus s7 h9=>?_) λ_ _ z=>?_) (cx he) (eZ hes)]
  .let#[vs,H7,I7,r,ha7,q7]:=h9
   refine#[I7.jY,?_];let#[hp,gg,d0,tk,os]:=s7;rwa[x_call (fI:=f) uG (XC.tail I7.jY) (I7.jY C _ hC) (qb I7.jY hif) (λself=>bind_fn I7.jY self (beq_iff_eq.mp hfn)) (λh' b hm' hs=>?_) ?_]
   .let#[t0,tb0,tn,tt]:=hm'.there
    have xat:nW h' b (ζ,.ref C) ψ ψ:=#[_,_,tb0,rfl,λ_=>#[rfl,by show 4<6;decide]]
    have I8:=I7.laid (a:=b) (o:=.xo b C ψ) (h':=h') (t':=tk) hm'.keeps hs (Ht xat);have nb:H7 b=ψ:=I7.ck.fresh hs;have hsp:=q7 b nb;have hl:(aL b::us++[]).length=ps.length:=by
     have el:=F.len _ _ _ _ hsp;rw[cb,<-el,a5,a5,r.length]
    refine mM (jV (F.run _ X.stack _ _ #[aL b::us,[]] (aL b::us) (V.ref b::vs) _ _ #[λz=>absurd rfl z,by have:=hr.dp;rw[uQ];show X.A.depth+1+3*0+5<_;omega,by have:=hr.un;rw[uR];show X.A.units+1+16*0+200<_;omega] (I8.K9.make C us []) (by
     have b:=hbi #[h',gg,d0,tk,os] (aL b::us) I8.jY hl;rw[cb] at b;erw[b]) (.cons rfl r) hsp) λres s' hq=>?_)
    cases res with
    |error ex=>
     let#[a',T',c',dx',H',e1,I',x',fr,q']:=mP.inv I8 hq;erw[aJ q']
    |ok fl=>
     cases fl with
     |next=>erw[aJ hq]
     |brk=>erw[aJ hq]
     |cont=>erw[aJ hq]
     |ret u=>
      let#[v,H9,I9,rv,ev,h9a,d,hd,q9]:=I8.after hq;subst ev;have nba:b≠a:=λz=>by rw[z,ha7] at nb;cases nb
      have fb:vT X pZ (kb H9 b) b:=#[mQ,(I7.Kk hs).2]
      have xb:=Ak I9.ck hd;let#[#[va,sla,ea,ca],_]:=I9.ck a _ h9a;refine#[rv,b,ξ d,rfl,nba,I9.jY C _ hC,xb,#[_,va,ea,rfl,ca rfl],λh' kp xf=>?_];have J0:Inv X pZ _ (kb H9 b) s':=(I9.NM hd).uY I.ok;have J1:=J0.jw (kp.mono (λb z=>absurd z (#v[])) λ_ z=>z) (λb' z=>by
       have e:b'=b:=by simpa using z
       subst e;erw[fb])
      have fr1:(X.hand a).A.frames=ξ (X.env::X.outer):=%[I6.ok.frames|congrArg ξ fr.Bs]
      have fs1:h'.FunFrames X.base (X.env::X.outer):=by have:=J1.stack;rw[fr.Bs] at this;erw[this]
      refine Hr (s:={s' with heap:=h'}) (tb:=ψ) (base:=X.base) (outer:=X.outer) (L:=X.env.locals) fr1 fs1 fr.N5 xf λh8 T8 k8 n8 x8=>?_
      have fT8:vT X pZ (kb H9 b) T8:=J1.Kk n8;have J2:=J1.jw (by rw[fr.Bs];exact k8) (λb' z=>by
       have e:b'=b:=by simpa using z
       subst e;erw[fb])
      let#[v8,sl8,e8,f8,c8,n8',oT,ts,eT,dT,gT]:=id x8;have J3:=J2.pinned (fp:=[b,T8]) (λb' z=>by
       rcases aW.mp z with z|z
       .subst z;erw[fb.fp J2]
       .have z:b'=T8:=by simpa using z
        subst z;erw[fT8.fp J2]) (λb' z=>by
       rcases aW.mp z with z|z
       .subst z;exact#[_,e8,λv w=>nomatch w]
       .have z:b'=T8:=by simpa using z
        subst z;exact#[_,eT,λv w=>by rw[dT] at w;cases w])
      rwa[mi J3 hN hi hk λs10 J10=>?_]
      have xA:nW s10.heap b (ϑ,.ref C) (ξ d) (ξ (T8,eV X.env.locals)):=#[v8,sl8,(J10.pin (b,_) (bb _ (bb _ (jv (#v[]) e8)))).1,f8,c8,n8',oT,ts,(J10.pin (T8,oT) (bb _ (bb _ (jv (#v[]) eT)))).1,dT,gT]
      have only:∀b'∈[T8],vT X pZ (kb H9 b) b':=λb' z=>by
       have z:b'=T8:=by simpa using z
       subst z;erw[fT8]
      rwa[Va fr.N5 xA λh11 k11 x11=>?_]
      rwa[Cb fr.N5 x11 ?_];rwa[Vb fr.N5 x11 λh12 k12 x12=>K.tn pZ _ _ #[_,b,T8,(ϑ,.ref C),ξ d,kb H9 b,rfl,?_,x12,fb,fT8,q9]]
      have J11:=J10.oo.jw (k11.mono (λb z=>absurd z (#v[])) λ_ z=>z) only;erw[J11.jw (k12.mono (λb z=>absurd z (#v[])) λ_ z=>z) only]
   .have el:=r.length
    have hsp:=q7 hp.objs.size (I7.ck.fresh (ar _));have h2:=F.len _ _ _ _ hsp;rw[a5,el] at h2;show([]++us).length<=sizeLine;rw[oh,gv]
    omega
  .let#[_,_,_,_,_,_,_,_,_,w]:=z
   erw[aJ w]
def Vc{q q2:String}{y:Str}{i:Nat}{b:List Stmt}{e:Expr}{es:List Expr}{np hpos pos rpos cpos p zp:Pos}{zj:Nat}{xb:PL.dj}{xs:PL.vU}(G:fg t T Γ k I X)(K:Tk X E)(hc:I.calm=ζ)(hg:I.gl (nm q)=ζ)(hq:q∈T.tN)(hd:(nm q==("__debug__":Str))=ϑ)(hy:dr y I.N=ξ i)(hk:I.names.lookup y=ξ .local)
  (hg2:I.gl (nm q2)=ζ) (hq2:q2∈T.tN) (hd2:(nm q2==("__debug__":Str))=ϑ) (h1:noStar e=ζ) (h2:es.all noStar=ζ) (hf:PL.bN q2≠[]) (hb:∀pZ E',rF (X.al pZ E') b (λD σ H=>Gk (X.cc t) Γ xb E' D σ H)) (ha:∀a,y6 (X.hand a) (e::es) (D6 (X.cc t) Γ xs)):
  PS X (.Try b [.ExceptHandler (ξ (.Name (nm q) np)) (ξ y) [.Raise (ξ (.Call (.Name (nm q2) p) (e::es) [] cpos)) (ξ (.Constant .none zj zp)) rpos] hpos] [] [] pos) (λD σ H=>tS (X.cc t) Γ (.Uj xb q i q2 xs) E D σ H):=by
 let#[C',hC',hmg']:=G.g.tab.UP q hq;let#[_,_,#[bm',XC'],_]:=G.g.tab.exc q C' hC';let#[C,f,fd,ps,hC,kp,hi,hfn,F,B,hps]:=(G.xi q2 hq2 hf).ex;let#[C2,hC2,hmg]:=G.g.tab.UP q2 hq2;rw[hC] at hC2;injection hC2 with hC2;subst hC2
 let#[_,_,#[bm,XC],_]:=G.g.tab.exc q2 C hC;refine(Zi (X:=X) (i:=i) K G.fr hb ha G.g.nd (%[G.g.slots|dD hy]) (%[G.g.names|hk]) (gH G.g hg) hmg' XC' hd XC kp hi hfn F ((G.g.calm hc).2.mono (fu (bC k))) (gH G.g hg2) hmg B hps hd2 h1 h2).imp ?_;rintro D σ H ⟨env,ρ,S,DU,he,R,w,qq⟩;refine#[env,ρ,S,_,he,R,w,#[qq.nx,qq.rt,?_]];rintro env' σ' ⟨xc,xus,xfl⟩ S' H' ρ' C0 d0 ⟨⟨hfl,hx⟩,wh⟩ st R' he' ⟨hC0,fs,hd',hn,hr⟩;have hfl:xfl=ζ:=hfl;subst hfl;let#[_,_,#[bm0,XC0],_]:=G.g.tab.exc xc C0 hC0;refine#[C0,bm0,rfl,XC0,G.up xc C0 bm0 q C' hC0 hC' XC0 hx,λa ha=>?_];have st2:=gu.lay R' ha (.xc a (ζ,.ref C0) (ξ d0));have R2:=R'.lay ha (.xc a (ζ,.ref C0) (ξ d0));have hda:d0≠a:=λz=>by rw[z,ha] at hd';cases hd'
 have re:Rep (X.cc t) ρ' (upd H' a (.xc a (ζ,.ref C0) (ξ d0))) (.exc xc xus) (.ref a):=by
  unfold Rep;exact#[a,d0,C0,fs,rfl,hC0,#[_,a9],%[a7 hda|hd'],hn,hr.mono R' st2]
 refine#[_,ρ',S',_,_,(he'.later R' st2).set re i,R2,wh,λus S1 vs H1 ρ1 w1 st1 R1 r1=>?_,λ_ _ _ _ _ _ z=>aJ z];let#[hl,w2]:=w1;have hlv:vs.length=((PL.bN q2).map nm).length:=by rw[ah,<-hl];erw[r1.len.symm]
 have h1a:H1 a=ξ (.xc a (ζ,.ref C0) (ξ d0)):=st1.fr a _ a9 (R'.FF ha);refine#[h1a,λb hb=>?_];have ab:a≠b:=λz=>by rw[z,hb] at h1a;cases h1a
 refine#[b,vs,rfl,hlv,a9,λd hd nd=>?_];have hd1:H1 d=ψ:=by rw[a7 nd] at hd;erw[hd]
 have ad:a≠d:=λz=>by rw[z,hd1] at h1a;cases h1a
 refine#[rfl,by rw[a7 ab,a7 ad,a7 ab];exact h1a,d,a9,?_];have hH:kb (upd (upd (upd H1 b (.xo b C ψ)) d (.xf d (((PL.bN q2).map nm).zip vs))) b (.xo b C (ξ d))) b=upd H1 d (.xf d (((PL.bN q2).map nm).zip vs)):=by
  funext x
  unfold kb;by_cases z:x=b
  .subst z;rw[if_pos rfl,a7 (bI nd),hb]
  .rw[if_neg z,a7 z]
   by_cases z2:x=d
   .subst z2;rw[a9,a9]
   .rw[a7 z2,a7 z2,a7 z]
 rw[hH,nV]
 have st3:=gu.lay R1 hd1 (.xf d (((PL.bN q2).map nm).zip vs));have st4:=(st2.trans st1).trans st3;rwa[qq.ex _ _ #[q2,us,ϑ] S1 _ ρ1 C d w2 (st.trans st4) (R1.lay hd1 _) ((he'.later R' st4).del i) #[hC,_,a9,?_,?_]]
 .erw[jR ∅]
 .rw[jS ∅];erw[r1.mono R1 st3]
end
open PL (U SO bE Xn KU KX bU)
structure MK(t:vW)(T:Tab)(Γ:bU)(k n:Nat):Prop where
 fs:∀{I X st x E},fg t T Γ k I X->Tk X E->cS T n I st=ξ x->PS X st (λD σ H=>tS (X.cc t) Γ x E D σ H)
 Kn:∀{I X st x E},fg t T Γ k I X->Tk X E->Kl T n I st=ξ x->rF X st (λD σ H=>Gk (X.cc t) Γ x E D σ H)
section
variable{t:vW}{T:Tab}{Γ:bU}{k n:Nat}{I:Inf}{X:Cx}{E:St->XK}
def fg.hand(G:fg t T Γ k I X)(a:Addr):fg t T Γ k {I with calm:=ϑ} (X.hand a):=
 #[#[G.g.tab,G.g.Km,G.g.kind,G.g.names,G.g.slots,G.g.nd,λh=>by simp at h,G.g.units],#[G.fr.Bs,G.fr.N5],G.st,G.xi,G.up]
def QZ(IH:MK t T Γ k n)(G:fg t T Γ k I X)(K:Tk X E):∀{st:List Stmt}{x:PL.dj},Kl T (n+1) I st=ξ x->rF X st (λD σ H=>Gk (X.cc t) Γ x E D σ H)
 |[],x,h=>by
  rw[N2,L4] at h;injection h with h;subst h
  refine(KS (X:=X)).imp ?_;rintro D σ H ⟨env,ρ,S,DU,he,R,w,q⟩;erw[q.nx _ _ _ _ _ w .refl R he]
 |s::ss,x,h=>by
  rw[N2,L4] at h;dsimp[aM,ak] at h;let#[y,h1,ys,h2,h3]:=h;injection h3 with h3;subst h3
  refine(z7 (X:=X) (IH.fs G K h1) (IH.Kn G K h2)).imp ?_;rintro D σ H ⟨env,ρ,S,DU,he,R,w,q⟩;refine#[env,ρ,S,_,he,R,w,#[λenv' S' σ' H' ρ' h st R' e=>?_,q.rt,q.ex]];exact#[env',ρ',S',DU,e,R',h,q.later st]
def Vd(IH:MK t T Γ k n)(G:fg t T Γ k I X)(K:Tk X E){st:Stmt}{x:PL.Sm}(h:cS T (n+1) I st=ξ x):PS X st (λD σ H=>tS (X.cc t) Γ x E D σ H):=by
 have A:=zb (t:=t) (T:=T) (Γ:=Γ) (k:=k) n;rw[Y5] at h;cases st with(delta Y3 at h;dsimp only at h)
 |Assign ts e pos=>
  split at h
  .rename_i tg
   cases tg with
   |Name x' px=>
    dsimp only at h;split at h
    .rename_i i hi
     split at h
     .rename_i hl
      let#[y,h1,h2]:=aj.mp h;subst h2;by_cases nc:yX e=ζ
      .erw[QQ G K hi hl (λenv=>AK nc) (A.fe G.g h1)]
      .change cE T n I _=_ at h1
       cases n with
       |zero=>rw[UJ] at h1;erw[nn h1]
       |succ n=>
        have A':=zb (t:=t) (T:=T) (Γ:=Γ) (k:=k) n;cases e with
        |ListComp elt gs sc cpos=>
         let#[tg,iter,ifs,xs,it,c,ee,ci,rfl,ht,hc,g1,g2,g3,g4,g5]:=vo h1;subst g5;have hi':=AN A' G.g ht g1;cases sw:(X.env.blockKind==.function&&X.env.kindOf x'==ξ .local&&px.line==cpos.line && !(sc.names.any λ(n,k)=>n==x'&&(k==.local||k==.cell))) with
         |true=>
          have hsw:fV (.ListComp elt [#[tg,iter,ifs,0]] sc cpos) (ξ (.Name x' px)) pos.line X.env=pure ζ:=by
           show(pure _:Sem Bool)=pure ζ
           erw[congrArg pure sw]
          have hkl:I.names.lookup x'=ξ .local:=by
           dsimp[aw] at sw;have:=sw.1.1.2;unfold Env.kindOf at this;rw[G.g.names] at this;simpa using this
          rwa[CN G K hc.2 ht hc.1 g4 hi'.1 hi'.2 (λX' G' ec hx=>Eh A' G' ec hx g2) (λX' G' ec=>?_) hi hkl hsw];have:=A'.fe G' g3;rw[ec] at this;erw[this]
         |false=>
          have hsw:fV (.ListComp elt [#[tg,iter,ifs,0]] sc cpos) (ξ (.Name x' px)) pos.line X.env=pure ϑ:=by
           show(pure _:Sem Bool)=pure ϑ
           erw[congrArg pure sw]
          refine(GX (X:=X) (i:=i) G.g.nd (%[G.g.slots|dD hi]) (sv hl G.g.names) (CK K (A.fe G.g h1)) hsw (.inl (G.st x'))).imp ?_;intro D σ H z;erw[CL z]
        |SetComp=>rw[LY] at h1;unfold SH at h1;erw[nn h1]
        |DictComp=>rw[LY] at h1;unfold SH at h1;erw[nn h1]
        |_=>erw[absurd rfl nc]
     .erw[nn h]
    .erw[nn h]
   |Attribute o f px=>
    dsimp[aM,ak] at h;let#[q,h1,a,h2,b,h3,h4]:=h;injection h4 with h4;subst h4
    let#[hm,rfl]:=iD h1;erw[ME G K hm (A.fe G.g h2) (A.fe G.g h3)]
   |Subscript o i px=>
    dsimp only at h;split at h
    .dsimp[aM,ak] at h
     let#[a,h1,b,h2,c,h3,h4]:=h;injection h4 with h4;subst h4
     erw[MF G K (A.fe G.g h1) (A.fe G.g h2) (A.fe G.g h3)]
    .erw[nn h]
   |_=>erw[nn h]
  .erw[nn h]
 |AugAssign tg op e pos=>
  cases tg with
  |Name x' px=>
   dsimp only at h;split at h
   .rename_i i hi
    split at h
    .rename_i hl
     dsimp[aM,ak] at h;let#[p,h1,y,h2,h3]:=h;injection h3 with h3;subst h3
     erw[QT G K hi hl h1 (A.fe G.g h2)]
    .erw[nn h]
   .erw[nn h]
  |Attribute o f px=>
   dsimp[aM,ak] at h;let#[q,h1,p,h2,a,h3,b,h4,h5]:=h;injection h5 with h5;subst h5
   let#[hm,rfl]:=iD h1;erw[MG G K hm h2 (A.fe G.g h3) (A.fe G.g h4)]
  |Subscript o i px=>
   dsimp only at h;split at h
   .rename_i hn
    dsimp[aM,ak] at h;let#[p,h1,a,h2,b,h3,c,h4,h5]:=h;injection h5 with h5;subst h5
    erw[MH G K hn h1 (A.fe G.g h2) (A.fe G.g h3) (A.fe G.g h4)]
   .erw[nn h]
  |_=>erw[nn h]
 |Expr e pos=>
  split at h
  .rename_i hc
   let#[y,h1,h2]:=aj.mp h;subst h2;erw[U8 G K hc (A.fe G.g h1)]
  .erw[nn h]
 |Return e pos=>
  cases e with
  |none=>erw[nn h]
  |some e=>
   let#[y,h1,h2]:=aj.mp h;subst h2;erw[QR G K (A.fe G.g h1)]
 |If c a b pos=>
  dsimp[aM,ak] at h;let#[c,h1,a,h2,b,h3,h4]:=h;injection h4 with h4;subst h4
  erw[QS G K (A.ft G.g h1) (IH.Kn G K h2) (IH.Kn G K h3)]
 |While c b el pos=>
  split at h
  .rename_i he
   have he:el=[]:=by simpa using he
   subst he;dsimp[aM,ak] at h;let#[c,h1,a,h2,h3]:=h;injection h3 with h3;subst h3
   erw[QW K (A.ft G.g h1) (IH.Kn G K h2)]
  .erw[nn h]
 |For tg it b el pos=>
  split at h
  .erw[nn h]
  .rename_i hc
   dsimp[me,GH,aw] at hc;have he:el=[]:=by simpa using hc.2
   subst he;split at h
   .rename_i xs ht
    rcases Cy ht with⟨x,p,rfl,rfl⟩|⟨x,y,p,p',kd,q,rfl,rfl⟩
    .dsimp only at h
     split at h
     .rename_i i hi
      split at h
      .rename_i hl
       dsimp[aM,ak] at h;let#[it,h1,a,h2,h3]:=h;injection h3 with h3;subst h3
       erw[MI G K hc.1 hi hl (Eg h1) (IT K (A.fi G.g h1)) (IH.Kn G K h2)]
      .erw[nn h]
     .erw[nn h]
    .dsimp only at h
     split at h
     .rename_i i hi
      split at h
      .rename_i j hj
       split at h
       .rename_i hl
        rw[aw] at hl;dsimp[aM,ak] at h;let#[it,h1,a,h2,h3]:=h;injection h3 with h3;subst h3
        erw[MJ G K hc.1 hi hl.1 hj hl.2 (N4 h1) (IT K (A.fn G.g h1)) (IH.Kn G K h2)]
       .erw[nn h]
      .erw[nn h]
     .erw[nn h]
   .erw[nn h]
 |Raise ex ca pos=>
  cases ca with
  |some cz=>
   injection h with h;subst h
   rintro pZ s σ H D J ⟨env,ρ,S,DU,he,R,w,q⟩;erw[aJ w]
  |none=>
   cases ex with
   |none=>erw[nn h]
   |some cc=>
    cases cc with
    |Call f args kws cp=>
     cases f with
     |Name xx p1=>
      dsimp only at h;split at h
      .rename_i hc
       dsimp[aw] at hc;let#[#[#[#[hk,hg],hd],hcm],hne]:=hc;have hk:kws=[]:=by simpa using hk
       subst hk;dsimp[aM,ak] at h;let#[q,h1,as,h2,h3]:=h;split at h3
       .erw[nn h3]
       .rename_i hfl
        injection h3 with h3;subst h3
        let#[hm,rfl]:=iD h1;cases args with
        |nil=>simp at hne
        |cons a as'=>
         have st:=kF h2;rw[bH,aw] at st;exact IU G K hcm hg hm (fc hd) st.1 st.2 (λz=>by rw[z] at hfl;simp at hfl) (A.Ql G.g h2)
      .erw[nn h]
     |_=>erw[nn h]
    |_=>erw[nn h]
 |Try b hs el fi pos=>
  split at h
  .rename_i hd
   let#[ty,ny,bd,hp]:=hd;cases ty with
   |none=>erw[nn h]
   |some cc=>
    cases cc with
    |Name x p=>
     cases ny with
     |none=>erw[nn h]
     |some y=>
      cases bd with
      |nil=>erw[nn h]
      |cons h0 hh0=>
       dsimp only at h;split at h
       .rename_i hc
        dsimp[aw] at hc;let#[#[#[#[#[he,hf],hg],hd],hcm],hk]:=hc;have he:el=[]:=by simpa using he
        have hf:fi=[]:=by simpa using hf
        subst he;subst hf;split at h
        .rename_i i hi
         dsimp[aM,ak] at h;let#[q,h1,b,h2,h]:=h;let#[hm,rfl]:=iD h1;split at h
         .rename_i r hr
          let#[ry,rargs]:=r;let#[p',cp,zj,zp,rp,rfl,rfl]:=LZ hr;split at h
          .rename_i hc
           dsimp[aw] at hc;let#[#[hg2,hd2],hne]:=hc;dsimp[aM,ak] at h;let#[q2,h5,as,h6,h7]:=h;split at h7
           .erw[nn h7]
           .rename_i hfl
            injection h7 with h7;subst h7
            let#[hm2,rfl]:=iD h5;cases rargs with
            |nil=>simp at hne
            |cons a as'=>
             have st:=kF h6;rw[bH,aw] at st;exact Vc G K hcm hg hm (fc hd) hi (~~~hk) hg2 hm2 (fc hd2) st.1 st.2 (λz=>by rw[z] at hfl;simp at hfl) (λpZ E'=>IH.Kn G.al (N6 G.fr) h2) λa=>A.Ql (G.hand a).g h6
          .erw[nn h]
         dsimp[aM,ak] at h;let#[hh,h3,h4]:=h;injection h4 with h4;subst h4
         exact QY G hg hm (fc hd) hi (~~~hk) (λpZ E'=>IH.Kn G.al (N6 G.fr) h2) (λa=>IH.Kn (G.hand a) (U6 rfl) h3)
        .erw[nn h]
       .erw[nn h]
    |_=>erw[nn h]
  .erw[nn h]
 |_=>erw[nn h]
def FO:MK t T Γ k 0:=by
 constructor
 .intro I X st x E _ _ h;rw[Y4] at h;erw[nn h]
 .intro I X st x E _ _ h;rw[UO] at h;erw[nn h]
def AO:∀n,MK t T Γ k n
 |0=>FO
 |n+1=>
  have IH:=AO n
  #[λG K h=>Vd IH G K h,λG K h=>QZ IH G K h]
end
open PL (U SO bE Xn KU KX bU)
structure Base(c:Ctx)(T:Tab)(kx:Nat):Prop where
 tab:Ec c T
 xi:∀x∈T.tN,PL.bN x≠[]->pU c kx x
 up:∀x C bm y D,c.exc x=ξ C->c.exc y=ξ D->mh c.K C bm->(PL.my x).contains y=ζ->(aL C::bm).contains (.ref D)=ζ
def pU.mono(h:pU c j x)(l:j<=k):pU c k x:=by
 let#[C,f,fd,ps,h1,h2,h3,h4,F,B,hp]:=h.ex;exact#[C,f,fd,ps,h1,h2,h3,h4,F,B,hp]
def N7{c:Ctx}{T:Tab}{Γ:bU}{k kx n m:Nat}{x qual:Str}{st:Stmt}{f:Addr}{fd:dv}{N ps:List Str}{sp:PL.Spec}{b:PL.dj}(F:Ad c.K x qual st f fd)(S:fB N ps (bf st))
  (B:Base c T kx) (hkx:kx<=k) (G:gf c T Γ k) (hc:Kl T n #[(bf st).names,N,ζ] (dI st)=ξ b) (hk:PL.Keeps Γ b m sp) (hm:N.length=ps.length+m) (hl:∀us S Q E,sp us S Q E->us.length=ps.length):
  iz c.P c.w c.K c.mg c.base (mP c.P c.w) (k+2) f fd ps (lift c sp):=by
 rwa[Ad.okX (k:=k+1) F S (λvs H Q E h=>?_) (λcdv A outer s H vs Q E hr h=>?_)]
 .let#[us,ρ,S0,QU,EU,r,R,w,q,qx]:=h
  rw[<-r.len];erw[hl _ _ _ _ w]
 let#[us,ρ,S0,QU,EU,r,R,w,q,qx]:=h
 let t:vW:=#[c.cls,c.exc]
 let X:=rT (mP c.P c.w) c.P c.w c.K c.mg c.base N qual (bf st) f cdv A outer s H E
 have G0:Good t T Γ k #[(bf st).names,N,ζ] X:=#[B.tab,G,S.kind,rfl,rfl,S.nd,λ_=>#[by show A.handled.isNone=ζ;rw[show A.handled=ψ from hr.hd (fq _)];rfl,hr],by have:=hr.un;show(A.deeper (pX qual (bf st) s.heap.objs.size f cdv)).units+200<eF;omega]
 have GS:fg t T Γ k #[(bf st).names,N,ζ] X:=#[G0,#[rfl,rfl],λ_=>rfl,λx hx hf=>(B.xi x hx hf).mono hkx,B.up]
 have K:Tk X (λ_=>E):=#[λpZ σ s' e z=>by
  let#[a,tb,cl,dx,H',rfl,I,x,fr,q]:=z;erw[Hs pZ σ H' s' a tb cl dx I x fr q],PassesOwn.leaving,λpZ s' e z=>by
  let#[σ,a,T,cl,dx,H',rfl,I,x,fa,fT,q]:=z;erw[Fh I x fa fT q]]
 refine#[_,(AO n).Kn GS K hc,?_];have hlen:us.length=ps.length:=hl _ _ _ _ w;have hvl:vs.length=us.length:=r.len.symm;refine#[us.map ξ++pO m ψ,ρ,S0,#[λ_ S1=>QU .bK S1,QU,λ_=>EU],#[?_,λi u e=>?_],R,hk us S0 QU EU w,#[λenv' S' σ' H' ρ' h st R' e=>q _ _ _ _ _ h st R' (dW.mpr rfl),q,λenv' σ' x S' H' ρ' C d h st R' e z=>qx _ _ _ _ _ _ h st R' z]]
 .unfold start
  simp
  omega
 .unfold start
  by_cases z:i<us.length
  .rw[aq (~~~z),aE] at e
   let#[u',e1,e2]:=aj.mp e;injection e2 with e2;subst e2
   let#[v,e3,r3]:=r.get e1;exact#[v,by rw[aq (%[ah,hvl|z]),aE,e3];rfl,r3]
  .rw[aB (~~~(jU z)),zP] at e
   split at e
   .cases e
   .cases e
section
variable{P:bj}{w:bL}{K:Frag}{mg:Str->Option Value}{base:Heap}{qual:Str}{st:Stmt}{f C:Addr}{fd:dv}{s a1 a2 f1 f2:Str}{p1 p2 p3 p4 p5 p6 p7 p8:Pos}
def IV(F:Ad K "__init__" qual st f fd)(S:fB [s,a1] [s,a1] (bf st))(hb:dI st=[.Assign [.Attribute (.Name s p1) f1 p2] (.Name a1 p3) p4])(xg:XGet K C)(n1:fA K C f1)
  (v0:Ki (bf st) s) (v1:Ki (bf st) a1) (d0:(s==("__debug__":Str))=ϑ) (d1:(a1==("__debug__":Str))=ϑ) (e0:(s==("__classdict__":Str))=ϑ) (e1:(a1==("__classdict__":Str))=ϑ):
  iz P w K mg base (mP P w) 0 f fd [s,a1] (zc C [f1]):=by
 rwa[Ad.ZK F S (λvs H Q E h=>?_) (λcdv A outer sh H vs Q E h=>?_)]
 .let#[a,ys,rfl,hl,_]:=h
  simp at hl ⊢;erw[hl]
 let#[a,ys,rfl,hl,ha,q]:=h;obtain⟨y1,rfl⟩:∃y1,ys=[y1]:=jq.mp (~~~hl);rw[hb]
 refine#[_,Dz (yJ (qc (i:=0) rfl v0 d0 e0) (qc (i:=1) rfl v1 d1 e1) rfl),?_];refine#[y1,rfl,.ref a,rfl,a,C,rfl,xg,n1,.inl #[ha,λd hd nd=>?_]];erw[q d hd nd]
def Ve(F:Ad K "__init__" qual st f fd)(S:fB [s,a1,a2] [s,a1,a2] (bf st))(hb:dI st=[.Assign [.Attribute (.Name s p1) f1 p2] (.Name a1 p3) p4,.Assign [.Attribute (.Name s p5) f2 p6] (.Name a2 p7) p8])(xg:XGet K C)(n1:fA K C f1)(n2:fA K C f2)(ne:f1≠f2)
  (v0:Ki (bf st) s) (v1:Ki (bf st) a1) (v2:Ki (bf st) a2) (d0:(s==("__debug__":Str))=ϑ) (d1:(a1==("__debug__":Str))=ϑ) (d2:(a2==("__debug__":Str))=ϑ) (e0:(s==("__classdict__":Str))=ϑ) (e1:(a1==("__classdict__":Str))=ϑ) (e2:(a2==("__classdict__":Str))=ϑ):
  iz P w K mg base (mP P w) 0 f fd [s,a1,a2] (zc C [f1,f2]):=by
 rwa[Ad.ZK F S (λvs H Q E h=>?_) (λcdv A outer sh H vs Q E h=>?_)]
 .let#[a,ys,rfl,hl,_]:=h
  simp at hl ⊢;erw[hl]
 let#[a,ys,rfl,hl,ha,q]:=h;obtain⟨y1,y2,rfl⟩:∃y1 y2,ys=[y1,y2]:=Ud hl;rw[hb]
 refine#[_,z7 (yJ (qc (i:=0) rfl v0 d0 e0) (qc (i:=1) rfl v1 d1 e1) rfl) (Dz (yJ (qc (i:=0) rfl v0 d0 e0) (qc (i:=2) rfl v2 d2 e2) rfl)),?_];refine#[y1,rfl,.ref a,rfl,a,C,rfl,xg,n1,.inl #[ha,λd hd nd=>?_]];refine#[y2,rfl,.ref a,rfl,a,C,rfl,xg,n2,.inr #[d,[(f1,y1)],a9,by rw[a7 nd];exact a9,by show 1<1000;decide,?_]];have e:=q d hd nd;have hh:upd (upd (upd H d (.xf d [(f1,y1)])) a (.xo a C (ξ d))) d (.xf d (gB f2 y2 [(f1,y1)]))=upd (upd H d (.xf d ([f1,f2].zip [y1,y2]))) a (.xo a C (ξ d)):=by
  have ep:gB f2 y2 [(f1,y1)]=[f1,f2].zip [y1,y2]:=by
   unfold gB gB;rw[if_neg ne];rfl
  rw[ep]
  funext b
  by_cases z:b=d
  .subst z;rw[a9,a7 nd,a9]
  .rw[a7 z]
   by_cases z2:b=a
   .subst z2;rw[a9,a9]
   .rw[a7 z2,a7 z2,a7 z,a7 z]
 show Q .bK _
 rw[hh]
 erw[e]
end
abbrev CO:PL.Spec:=λus _ Q _=>∃ns:List Int,us=[.tL ns]/\ns.length<=63/\∀S',Q (.bl ζ) S'
abbrev zd(K:Frag):Sp:=λvs H Q _=>∃(a:Addr)(ns:List Int),vs=[.ref a]/\ns.length<=63/\xH K H a (ns.map .int)/\∀H',Q (.bl ζ) H'
def ML(F:iz c.P c.w c.K c.mg c.base (mP c.P c.w) k f fd ps (lift c CO)):iz c.P c.w c.K c.mg c.base (mP c.P c.w) k f fd ps (zd c.K):=by
 rwa[F.imp λvs H Q E h=>?_]
 let#[a,ns,rfl,hl,hf,q]:=h;refine#[[.tL ns],[],[],λu _=>u=.bl ζ,λ_ _=>False,aZ.cons (rg.mpr #[a,rfl,hf]) aZ.nil,#[rfl,wL,λn a o h=>by simp at h],#[ns,rfl,hl,λ_=>rfl],λu S' v H' ρ' e _ _ r=>?_,λ_ _ _ _ _ _ z=>aJ z];subst e;rw[fL.mp r]
 erw[q H']
def IW{K:Frag}{H:Hp}{a:Addr}{xs:List V}(o:Li H)(h:iy K H a xs):xH K H a xs:=by
 rcases h with(h|⟨ob,h⟩)|h
 .rcases o a with z|⟨ob,ys,z⟩
  .rw[h] at z;cases z
  .rw[h] at z;cases z
 .erw[.inl #[ob,h]]
 .erw[.inr h]
def Q0(h:mP P w [] H s (λ_ _ _=>False) e s'):False:=by
 let#[a,T,c,dx,H',_,_,_,_,_,_,_,_,z]:=h;erw[z]
end L2
section
namespace PL
def W6:fM "text" [("text",a),("at",b),("depth",c)]=ξ a:=rfl
def aaF:fM "at" [("text",a),("at",b),("depth",c)]=ξ b:=rfl
def Vf:fM "depth" [("text",a),("at",b),("depth",c)]=ξ c:=rfl
end PL
open PL
namespace PL
abbrev lZ(x rest:List Nat)(d:Nat):SO:=.ins "Reader" [("text",.str x),("at",.int (x.length-rest.length:Nat)),("depth",.int d)]
abbrev lJ(r:Nat)(o:SO)(S S':bE):Prop:=S.length<=S'.length/\S'[r]?=ξ o/\∀n,n<S.length->n≠r->S'[n]?=S[n]?
abbrev Old(r:Nat)(S S':bE):Prop:=S.length<=S'.length/\∀n,n<S.length->n≠r->S'[n]?=S[n]?
abbrev Ext(S S':bE):Prop:=S.length<=S'.length/\∀n,n<S.length->S'[n]?=S[n]?
abbrev cZ(l rest:List Nat):Bool:=match rest with|[]=>ϑ|c::_=>l.contains c
abbrev CP:Spec:=λus S Q _=>∃r x rest d l,us=[.loc r,.str l]/\S[r]?=ξ (lZ x rest d)/\rest<:+x/\x.length<=1000/\Q (.bl (cZ l rest)) S
section
variable{x rest:List Nat}
def IX(h:rest<:+x)(k:Nat):x[x.length-rest.length+k]?=rest[k]?:=by
 let#[p,rfl]:=h;rw[aC,lW,aB ∅]
 congr 1
 omega
def N8(h:rest<:+x):((x.length-rest.length:Nat):Int)<x.length↔rest≠[]:=by
 let#[p,rfl]:=h;cases rest with
 |nil=>simp
 |cons c r=>simp;omega
end
section
variable{S:bE}{r:Nat}{x rest:List Nat}{d:Nat}{q:U->Prop}
def ze(h:S[r]?=ξ (lZ x rest d)):nJ (.loc r) "text" S q=q (.str x):=by rw[iB,h];rfl
def xT(h:S[r]?=ξ (lZ x rest d)):nJ (.loc r) "at" S q=q (.int (x.length-rest.length:Nat)):=by rw[iB,h];rfl
def IY(h:S[r]?=ξ (lZ x rest d)):nJ (.loc r) "depth" S q=q (.int d):=by rw[iB,h];rfl
def bS{Q:String->List (String×U)->Prop}(h:S[r]?=ξ (lZ x rest d)):qj S[r]? Q=Q "Reader" [("text",.str x),("at",.int (x.length-rest.length:Nat)),("depth",.int d)]:=by rw[h];rfl
end
def MM(Γ:bU):Keeps Γ jE 0 CP:=by
 rintro us S Q E ⟨r,x,rest,d,l,rfl,hS,hx,hl,q⟩;unfold jE;walk_at "pl";dsimp[<-iB,ze hS,xT hS];walk_at "pl";refine#[∅,?_];rw[jb]
 have h0:=IX hx 0;rw[Nat.add_zero] at h0;rw[h0]
 dsimp[decide_eq_true_eq,N8 hx];cases rest with
 |nil=>simpa[cZ] using q
 |cons c t=>simp[cZ] at q ⊢;exact#[∅,q]
@[reducible]def PR(α:Type):=Except (List Nat) (α×List Nat)
abbrev eM(l rest:List Nat):PR Nat:=match rest with|[]=>.error []|c::r=>if l.contains c then .ok (c,r) else .error (c::r)
abbrev mapR{α β:Type}(f:α->β):PR α->PR β|.ok (a,r)=>.ok (f a,r)|.error r=>.error r
abbrev bindR{α β:Type}(p:PR α)(f:α->List Nat->PR β):PR β:=match p with|.ok (a,r)=>f a r|.error r=>.error r
abbrev kG(c:Nat):U:=.str [c]
abbrev dM(r:Nat)(x:List Nat)(d:Nat)(S:bE)(Q:KU)(E:KX):PR U->Prop
 |.ok (u,r')=>∀S',lJ r (lZ x r' d) S S'->Q u S'
 |.error r'=>∀S',Old r S S'->E #["BadRule",[.int 0,.int (x.length-r'.length:Nat)],ζ] S'
abbrev zK(args:List U)(p:List Nat->PR U)(d:Nat):Spec:=λus S Q E=>∃r x rest,us=.loc r::args/\S[r]?=ξ (lZ x rest d)/\rest<:+x/\x.length<=1000/\dM r x d S Q E (p rest)
abbrev IZ:Spec:=λus S Q E=>∃l d,zK [.str l] (λrest=>mapR kG (eM l rest)) d us S Q E
section
variable{S S1 S2:bE}{r:Nat}{o o':SO}
def a4{α:Type}{l:List α}{n:Nat}{a:α}(h:l[n]?=ξ a):n<l.length:=(ag.mp h).1
def lJ.set(h:S[r]?=ξ o):lJ r o' S (S.set r o'):=by
 refine#[#v[],by simp[jt,a4 h],λn hn ne=>?_];rw[ai (bI ne)]
def lJ.refl(h:S[r]?=ξ o):lJ r o S S:=#[ar _,h,λ_ _ _=>rfl]
def Old.refl:Old r S S:=#[ar _,λ_ _ _=>rfl]
def Old.trans(a:Old r S S1)(b:Old r S1 S2):Old r S S2:=#[aP a.1 b.1,λn h ne=>(b.2 n (au h a.1) ne).trans (a.2 n h ne)]
def lJ.old(a:lJ r o S S1):Old r S S1:=#[a.1,a.2.2]
def lJ.trans(a:lJ r o S S1)(b:lJ r o' S1 S2):lJ r o' S S2:=#[aP a.1 b.1,b.2.1,(a.old.trans b.old).2]
def Ext.old(a:Ext S S1):Old r S S1:=#[a.1,λn h _=>a.2 n h]
def Ext.refl:Ext S S:=#[ar _,λ_ _=>rfl]
def Ext.trans(a:Ext S S1)(b:Ext S1 S2):Ext S S2:=#[aP a.1 b.1,λn h=>(b.2 n (au h a.1)).trans (a.2 n h)]
def Ext.get(a:Ext S S1)(h:S[r]?=ξ o):S1[r]?=ξ o:=(a.2 r (a4 h)).trans h
def Ext.chg(a:Ext S S1)(h:S[r]?=ξ o):lJ r o S S1:=#[a.1,a.get h,λn h _=>a.2 n h]
def Ext.app(l:List SO):Ext S (S++l):=#[#v[],λn h=>aq h]
def gs(h:S[r]?=ξ o):(S.set r o')[r]?=ξ o':=(lJ.set h).2.1
end
def sub_len(h:(c::t)<:+x):((x.length-(c::t).length:Nat):Int)+1=(x.length-t.length:Nat):=by
 let#[p,rfl]:=h;simp
 omega
def Q2{x t:List Nat}{z v:U}{d:Nat}(h:z=.int (x.length-t.length:Nat)):SO.ins "Reader" (gO "at" z [("text",.str x),("at",v),("depth",.int d)])=lZ x t d:=by subst h;rfl
def zf{x t:List Nat}{c:Nat}(h:(c::t)<:+x):t<:+x:=mN (c7 c t) h
def MN(Γ:bU)(h1:Γ "Reader.sees"=CP):Keeps Γ iG 0 IZ:=by
 rintro us S Q E ⟨l,d,r,x,rest,rfl,hS,hx,hl,q⟩;unfold iG;walk_at "pl";dsimp[bS hS,h1];walk_at "pl";refine#[rfl,r,x,rest,d,l,rfl,hS,hx,hl,?_];walk_at "pl";dsimp[bS hS];walk_at "pl";cases rest with
 |nil=>exact#[rfl,q S .refl]
 |cons c t=>
  by_cases e:l.contains c=ζ
  .dsimp[eM,e,if_true,mapR,dM] at q
   dsimp[cZ,e];have p:=Q2 (v:=.int ((x.length-(c::t).length:Nat):Int)) (d:=d) (congrArg U.int (sub_len hx));have g:=gs (o':=lZ x t d) hS;dsimp[b5,aD,if_false,PF];dsimp[bS hS,p];dsimp[<-iB,ze g,xT g,PH,Uw];refine#[trivial,#v[],∅,?_];have e2:((x.length-t.length:Nat):Int)-1=(x.length-(c::t).length:Nat):=by have:=sub_len hx;omega
   have h0:=IX hx 0;rw[Nat.add_zero] at h0;rw[e2,jb,h0]
   erw[q _ (lJ.set hS)]
  .dsimp[eM,e,mapR,dM] at q
   dsimp[cZ,e];exact#[rfl,q S .refl]
abbrev Suf{α:Type}(rest:List Nat):PR α->Prop
 |.ok (_,r)=>r<:+rest
 |.error r=>r<:+rest
abbrev l7{α:Type}(rest:List Nat):PR α->Prop
 |.ok (_,r)=>r<:+rest/\r.length<rest.length
 |.error r=>r<:+rest
def l7.Q3{α:Type}{rest:List Nat}{p:PR α}(h:l7 rest p):Suf rest p:=by
 cases p with
 |ok v=>erw[h.1]
 |error r=>erw[h]
def l7.bind{α β:Type}{rest:List Nat}{p:PR α}{f:α->List Nat->PR β}(h:l7 rest p)(k:∀a r,p=.ok (a,r)->Suf r (f a r)):l7 rest (bindR p f):=by
 cases p with
 |error r=>erw[h]
 |ok v=>
  let#[a,r]:=v;have:=k a r rfl;unfold bindR;dsimp only;cases q:f a r with
  |error r'=>rw[q] at this;erw[this.trans h.1]
  |ok w=>
   let#[b,r']:=w;rw[q] at this;exact#[this.trans h.1,i9 this.length_le h.2]
def Suf.bind{α β:Type}{rest:List Nat}{p:PR α}{f:α->List Nat->PR β}(h:Suf rest p)(k:∀a r,p=.ok (a,r)->Suf r (f a r)):Suf rest (bindR p f):=by
 cases p with
 |error r=>erw[h]
 |ok v=>
  let#[a,r]:=v;have:=k a r rfl;unfold bindR;dsimp only;cases q:f a r with
  |error r'=>rw[q] at this;erw[this.trans h]
  |ok w=>
   let#[b,r']:=w;rw[q] at this;erw[this.trans h]
def gI(l rest:List Nat):l7 rest (eM l rest):=by
 cases rest with
 |nil=>erw[bD _]
 |cons c t=>
  unfold eM;dsimp only;split
  .exact#[c7 c t,#v[]]
  .erw[bD _]
def dM.bind{α:Type}{toU:α->U}{p:PR α}{f:α->List Nat->PR U}{r d:Nat}{x rest:List Nat}{S S1:bE}{Q Q1:KU}{E:KX}(h:dM r x d S Q E (bindR p f))(st:lJ r (lZ x rest d) S S1)
  (k:∀a r1 S2,p=.ok (a,r1)->lJ r (lZ x r1 d) S S2->dM r x d S Q E (f a r1)->Q1 (toU a) S2):dM r x d S1 Q1 E (mapR toU p):=by
 cases p with
 |error r'=>erw[λS' o=>h S' (st.old.trans o)]
 |ok v=>
  let#[a,r1]:=v;erw[λS' c=>k a r1 S' rfl (st.trans c) h]
def MP:mapR id p=p:=by
 cases p with
 |ok v=>rfl
 |error r=>rfl
def xU{α β:Type}{f:α->β}{p:PR α}:mapR f p=bindR p (λa r=>.ok (f a,r)):=by
 cases p with
 |ok v=>rfl
 |error r=>rfl
def lT(p:Nat->Bool)(hg:g S)(hc:∀n k,k (p n) S->c (.str [n]) S k)(he:∀n k,k (.str [n]) S->e (.str [n]) S k):
  ∀(l:List Nat)(acc:List U),acc.length+l.length<1000000->Q (acc++(l.filter p).map kG) S->lM g c e Q (l.map λn=>.str [n]) acc S
 |[],acc,hl,q=>#[hg,~~~hl,~~~q]
 |n::l,acc,hl,q=>by
  dsimp[a5] at hl;refine#[hg,∅,hc n _ ?_];by_cases h:p n=ζ
  .rw[if_pos h]
   rwa[he n _ (lT p hg hc he l (acc++[.str [n]]) ((·)) ?_)];rw[iw,if_pos h] at q;simpa[kG] using q
  .rw[if_neg h]
   rwa[lT p hg hc he l acc ∅ ?_];rw[iw,if_neg h] at q;erw[q]
def join_ones:∀l:List Nat,vf [] (l.map λn=>[n])=l
 |[]=>rfl
 |[n]=>rfl
 |n::m::l=>by
  have:=join_ones (m::l);dsimp[aA] at this ⊢;dsimp[vf,cb];rw[this];rfl
abbrev iR(l:List Nat):List Nat:=SG.filter λc=>!l.contains c
abbrev inOrder(l:List Nat):List Nat:=SG.filter λc=>l.contains c
abbrev spT(f:List Nat->List Nat):Spec:=λus S Q _=>∃l,us=[.str l]/\∀S',Ext S S'->Q (.str (f l)) S'
def vA:∀l:List Nat,((l.map λn=>[n]).map dh).sum=l.length
 |[]=>rfl
 |n::l=>by rw[aA,aA,List.sum_cons,vA l];simp;omega
def Ei(l:List Nat):l.map kG=(l.map λn=>[n]).map U.str:=by
 rw[bG];rfl
def Ej(p:Nat->Bool):(SG.filter p).length<=95:=aP (BM _ _) ⋯
def AQ(Γ:bU):Keeps Γ mY 0 (spT inOrder):=by
 rintro us S Q E ⟨l,rfl,q⟩;unfold mY;walk_at "pl";refine lT (λc=>l.contains c) trivial (λn k h=>by rw[LU];exact h) (λn k h=>h) SG [] ⋯ ?_;dsimp[oh];try walk_at "pl"
 refine#[(inOrder l).map λn=>[n],?_,?_,?_]
 .rw[<-Ei];simp[inOrder]
 .have:=Ej λc=>l.contains c
  rw[vA];simp[inOrder] at this ⊢;omega
 .rw[join_ones];erw[q _ (Ext.app _)]
def CQ(Γ:bU):Keeps Γ oY 0 (spT iR):=by
 rintro us S Q E ⟨l,rfl,q⟩;unfold oY;walk_at "pl";refine lT (λc=>!l.contains c) trivial (λn k h=>by rw[LV];exact h) (λn k h=>h) SG [] ⋯ ?_;dsimp[oh];try walk_at "pl"
 refine#[(iR l).map λn=>[n],?_,?_,?_]
 .rw[<-Ei];simp[iR]
 .have:=Ej λc=>!l.contains c
  rw[vA];simp[iR] at this ⊢;omega
 .rw[join_ones];erw[q _ (Ext.app _)]
abbrev Ek:Spec:=λus S Q _=>∃a b,us=[.str [a],.str [b]]/\a∈SG/\b∈SG/\Q (.bl (decide (SG.idxOf a<SG.idxOf b))) S
def AR(Γ:bU):Keeps Γ mZ 0 Ek:=by
 rintro us S Q E ⟨a,b,rfl,ha,hb,q⟩;unfold mZ;walk_at "pl";refine#[a,rfl,ha,b,rfl,hb,?_];simpa using q
abbrev k9(a b:Nat):List Nat:=(SG.drop (SG.idxOf a)).take (SG.idxOf b+1-SG.idxOf a)
abbrev xV:Spec:=λus S Q _=>∃a b,us=[.str [a],.str [b]]/\a∈SG/\b∈SG/\Q (.str (k9 a b)) S
def CS(h:a∈SG):SG.idxOf a<95:=by
 have:=List.idxOf_lt_length_iff.mpr h;simpa using this
def CT(Γ:bU):Keeps Γ oZ 0 xV:=by
 rintro us S Q E ⟨a,b,rfl,ha,hb,q⟩;unfold oZ;walk_at "pl";refine#[a,rfl,ha,?_];refine#[b,rfl,hb,?_];try walk_at "pl"
 have h1:=CS ha;have h2:=CS hb;refine#[#[λi e=>?_,λi e=>?_],⋯,?_]
 .injection e with e;omega
 .injection e with e;omega
 .have e:sj SG (ξ (SG.idxOf a:Int)) (ξ ((SG.idxOf b:Int)+1))=k9 a b:=by
   unfold sj k9;have l:SG.length=95:=⋯
   dsimp[gZ,l];have e1:min (((SG.idxOf a:Nat):Int).toNat) 95=SG.idxOf a:=∅
   have e2:min ((((SG.idxOf b:Nat):Int)+1).toNat) 95=SG.idxOf b+1:=∅
   rw[e1,e2]
  show Q (.str (sj SG (ξ (SG.idxOf a:Int)) (ξ ((SG.idxOf b:Int)+1)))) S
  rw[e];erw[q]
noncomputable abbrev BB:List Nat:=[46,124,40,41,91,93,42,43,63,92,45,94,110]
noncomputable abbrev MO:List Nat:=[46,124,40,41,91,93,42,43,63,92]
noncomputable abbrev MW:List Nat:=[93,45,92]
abbrev ke(m rest:List Nat):PR Nat:=
 match rest with
 |92::r=>bindR (eM BB r) λs r'=>.ok (if s=110 then 10 else s,r')
 |_=>eM (iR m) rest
def Ja(m r:List Nat):ke m (92::r)=bindR (eM BB r) λs r'=>.ok (if s=110 then 10 else s,r'):=rfl
def Jb{m rest:List Nat}(h:cZ [92] rest=ϑ):ke m rest=eM (iR m) rest:=by
 unfold ke;split
 .simp[cZ] at h
 .rfl
def Jc{c:Nat}{rest:List Nat}(h:cZ [c] rest=ζ):∃t,rest=c::t:=by
 cases rest with
 |nil=>simp[cZ] at h
 |cons a t=>simp[cZ] at h;subst h;exact#[t,rfl]
def kI(m rest:List Nat):l7 rest (ke m rest):=by
 unfold ke;split
 .rename_i r
  have h:=(gI BB r).bind (f:=λs r'=>(.ok (if s=110 then 10 else s,r'):PR Nat)) λa r' _=>bD _
  cases q:bindR (eM BB r) λs r'=>(.ok (if s=110 then 10 else s,r'):PR Nat) with
  |error r'=>rw[q] at h;erw[h.trans (c7 _ _)]
  |ok v=>rw[q] at h;exact#[h.1.trans (c7 _ _),a8 h.2]
 .erw[gI _ _]
def El(h:eM l rest=.ok (c,r)):c∈l/\rest=c::r:=by
 cases rest with
 |nil=>simp[eM] at h
 |cons a t=>
  unfold eM at h;dsimp only at h;split at h
  .rename_i z
   injection h with h;injection h with h1 h2;subst h1;subst h2
   exact#[~~~z,rfl]
  .cases h
def vB{m rest:List Nat}{c:Nat}{r:List Nat}(h:ke m rest=.ok (c,r)):c∈SG:=by
 unfold ke at h;split at h
 .rename_i t
  cases q:eM BB t with
  |error r'=>rw[q] at h;cases h
  |ok v=>
   let#[s,r']:=v;rw[q] at h;dsimp[bindR] at h;injection h with h;injection h with h1 h2
   have hs:=(El q).1;subst h1;split
   .decide
   .have:∀s∈BB,s∈SG:=⋯
    erw[this s hs]
 .have:=(El h).1
  unfold iR at this;exact(fZ.mp this).1
abbrev Em(d:Nat):Spec:=λus S Q E=>∃m,zK [.str m] (λrest=>mapR kG (ke m rest)) d us S Q E
structure GR(Γ:bU):Prop where
 sees:Γ "Reader.sees"=CP
 pass:Γ "Reader.passes"=IZ
 FP:Γ "all_but"=spT iR
 Q4:Γ "in_order"=spT inOrder
 ahead:Γ "is_ahead"=Ek
 Jd:Γ "stretch"=xV
def Je(Γ:bU)(G:GR Γ)(d:Nat):Keeps Γ dU 1 (Em d):=by
 rintro us S Q E ⟨m,r,x,rest,rfl,hS,hx,hl,q⟩;have q:dM r x d S Q E (mapR kG (ke m rest)):=q;unfold dU;walk_at "pl";dsimp[bS hS,G.sees,G.pass];walk_at "pl";refine#[rfl,r,x,rest,d,_,rfl,hS,hx,hl,?_];walk_at "pl";by_cases e:cZ [92] rest=ζ
 .let#[t,rfl]:=Jc e
  dsimp[e,b5,aD,if_false];dsimp[bS hS];refine#[#[by first|trivial|rfl,rfl],[92],d,r,x,_,rfl,hS,hx,hl,?_];have ht:=zf hx;show dM r x d S _ E (mapR kG (.ok (92,t)));intro S1 c1;try walk_at "pl"
  dsimp[bS c1.2.1];refine#[#[by first|trivial|rfl,rfl],BB,d,r,x,t,rfl,c1.2.1,ht,hl,?_];rw[Ja] at q;have q':dM r x d S Q E (bindR (eM BB t) λs r'=>.ok (kG (if s=110 then 10 else s),r')):=by
   cases z:eM BB t with
   |error r'=>rw[z] at q;erw[q]
   |ok v=>rw[z] at q;erw[q]
  rwa[q'.bind c1 λa r1 S2 e1 c2 q2=>?_]
  unfold kG;try walk_at "pl"
  dsimp[beq_iff_eq,dy,and_true];have:=q2 S2 c2;unfold kG at this;by_cases z:a=110
  .subst z;simpa using this
  .dsimp[z,if_false] at this ⊢;erw[this]
 .have e:cZ [92] rest=ϑ:=by simpa using e
  dsimp[e,cU,if_true];dsimp[bS hS,G.FP,true_and];refine#[rfl,m,rfl,λS1 x1=>?_];refine#[iR m,d,r,x,rest,rfl,x1.get hS,hx,hl,?_];show dM r x d S1 Q E (mapR kG (eM (iR m) rest));rw[Jb e] at q;cases z:eM (iR m) rest with
  |error r'=>rw[z] at q;erw[λS' o=>q S' (x1.old.trans o)]
  |ok v=>rw[z] at q;erw[λS' c=>q S' ((x1.chg hS).trans c)]
end PL
namespace PL
abbrev lg(first:Nat)(r:List Nat):PR (List Nat):=
 match r with
 |45::r2=>bindR (ke MW r2) λsecond r3=>if SG.idxOf second<SG.idxOf first then .error r2 else .ok (k9 first second,r3)
 |_=>.ok ([first],r)
abbrev item(rest:List Nat):PR (List Nat):=bindR (ke MW rest) lg
def AS(f:Nat)(r:List Nat):lg f (45::r)=bindR (ke MW r) λsecond r3=>if SG.idxOf second<SG.idxOf f then .error r else .ok (k9 f second,r3):=rfl
def AU{f:Nat}{r:List Nat}(h:cZ [45] r=ϑ):lg f r=.ok ([f],r):=by
 unfold lg;split
 .simp[cZ] at h
 .rfl
def zg(f:Nat)(r:List Nat):Suf r (lg f r):=by
 unfold lg;split
 .rename_i r2
  have h:=(kI MW r2).bind (f:=λsecond r3=>(if SG.idxOf second<SG.idxOf f then .error r2 else .ok (k9 f second,r3):PR (List Nat)));cases q:ke MW r2 with
  |error r'=>have:=kI MW r2;rw[q] at this;erw[this.trans (c7 _ _)]
  |ok v=>
   have:=kI MW r2;rw[q] at this;dsimp[bindR];split
   .erw[c7 _ _]
   .erw[this.1.trans (c7 _ _)]
 .erw[bD _]
def rq(rest:List Nat):l7 rest (item rest):=(kI MW rest).bind λa r _=>zg a r
def jx{α β γ:Type}{g:β->γ}{p:PR α}{f:α->List Nat->PR β}:mapR g (bindR p f)=bindR p λa r=>mapR g (f a r):=by
 cases p with
 |ok v=>rfl
 |error r=>rfl
abbrev Jf(d:Nat):Spec:=zK [] (λrest=>mapR U.str (item rest)) d
structure GR2(Γ:bU)(d:Nat):Prop extends GR Γ where
 ws:Γ "Reader.written_sign"=Em d
def MQ(Γ:bU)(d:Nat)(G:GR2 Γ d):Keeps Γ jG 3 (Jf d):=by
 rintro us S Q E ⟨r,x,rest,rfl,hS,hx,hl,q⟩;have q:dM r x d S Q E (mapR U.str (item rest)):=q;unfold item at q;rw[jx] at q;unfold jG;walk_at "pf";dsimp[bS hS];refine#[#[by first|trivial|rfl,rfl],ca G.ws #[MW,r,x,rest,rfl,hS,hx,hl,?_]];refine q.bind (lJ.refl hS) λa r1 S1 e1 c1 q1=>?_
 have hs:=kI MW rest;rw[e1] at hs;have hx1:=hs.1.trans hx;have g1:=c1.2.1;unfold kG;try walk_at "pf"
 dsimp[bS g1,true_and];refine#[rfl,ca G.sees #[r,x,r1,d,_,rfl,g1,hx1,hl,?_]];try walk_at "pf"
 by_cases e:cZ [45] r1=ζ
 .let#[t,rfl]:=Jc e
  dsimp[e,b5,aD,if_false];walk_at "pf";dsimp[bS g1,true_and];refine#[rfl,ca G.pass #[[45],d,r,x,_,rfl,g1,hx1,hl,?_]];have ht:=zf hx1;show dM r x d S1 _ E (mapR kG (.ok (45,t)));intro S2 c2;have g2:=c2.2.1;try walk_at "pf"
  dsimp[<-iB,xT g2];walk_at "pf";dsimp[bS g2,true_and];refine#[rfl,ca G.ws #[MW,r,x,t,rfl,g2,ht,hl,?_]];rw[AS,jx] at q1;rwa[q1.bind (c1.trans c2) λb r3 S3 e3 c3 q3=>?_]
  unfold kG;try walk_at "pf"
  have ha:=vB e1;have hb:=vB e3;refine ca G.ahead #[b,a,rfl,hb,ha,?_];try walk_at "pf"
  by_cases z:SG.idxOf b<SG.idxOf a
  .dsimp[z,decide_true,if_true]
   dsimp[z,if_true] at q3;walk_at "pf";exact#[rfl,q3 S3 c3.old]
  .dsimp[z,decide_false,aD,if_false]
   dsimp[z,if_false] at q3;walk_at "pf";erw[ca G.Jd #[a,b,rfl,ha,hb,q3 S3 c3]]
 .have e:cZ [45] r1=ϑ:=by simpa using e
  dsimp[e,cU,if_true];rw[AU e] at q1;walk_at "pf";erw[q1 S1 c1]
abbrev lh:Nat->List Nat->List Nat->PR (List Nat)
 |0,_,rest=>.error rest
 |n+1,taken,rest=>if cZ [93] rest then .ok (taken,rest) else bindR (item rest) λt r=>lh n (taken++t) r
abbrev nk(turned:Bool)(r1:List Nat):PR (List Nat):=
 bindR (item r1) λt r2=>bindR (lh (r2.length+1) t r2) λtaken r3=>bindR (eM [93] r3) λ_ r4=>.ok (if turned then iR taken else inOrder taken,r4)
abbrev clsIn(r0:List Nat):PR (List Nat):=
 match r0 with
 |94::r=>nk ζ r
 |_=>nk ϑ r0
abbrev cls(rest:List Nat):PR (List Nat):=bindR (eM [91] rest) λ_ r0=>clsIn r0
def Jg(h:cZ [94] r=ϑ):clsIn r=nk ϑ r:=by
 unfold clsIn;split
 .simp[cZ] at h
 .rfl
def vC:∀(n:Nat)(taken rest:List Nat),Suf rest (lh n taken rest)
 |0,_,rest=>bD _
 |n+1,taken,rest=>by
  unfold lh;split
  .erw[bD _]
  .exact(rq rest).Q3.bind λa r _=>vC n _ r
def tm(b:Bool)(r:List Nat):Suf r (nk b r):=
 (rq r).Q3.bind λa r2 _=>(vC _ _ _).bind λt r3 _=>(gI _ _).Q3.bind λ_ r4 _=>bD _
def MR(rest:List Nat):l7 rest (cls rest):=by
 refine(gI _ _).bind λa r _=>?_
 unfold clsIn;split
 .rename_i r' hq
  have:=tm ζ r';cases q:nk ζ r' with
  |ok v=>rw[q] at this;erw[mN this (c7 _ _)]
  |error v=>rw[q] at this;erw[mN this (c7 _ _)]
 .erw[tm ϑ r]
abbrev N9(d:Nat):Spec:=zK [] (λrest=>mapR U.str (cls rest)) d
structure GR3(Γ:bU)(d:Nat):Prop extends GR2 Γ d where
 it:Γ "Reader.item"=Jf d
def vD(h:item rest=.ok (t,r)):t.length<=95:=by
 unfold item at h;cases q:ke MW rest with
 |error r'=>rw[q] at h;cases h
 |ok v=>
  let#[a,r1]:=v;rw[q] at h;dsimp[bindR] at h;unfold lg at h;split at h
  .rename_i r2
   cases q2:ke MW r2 with
   |error r'=>rw[q2] at h;cases h
   |ok v2=>
    rw[q2] at h;dsimp[bindR] at h;split at h
    .cases h
    .injection h with h;injection h with h1 h2;subst h1
     unfold k9;rwa[aP (List.length_take_le _ _) ?_];have:=CS (vB q2);omega
  .injection h with h;injection h with h1 h2;subst h1;simp
def vE{Γ:bU}{d:Nat}(G:GR3 Γ d){r:Nat}{x:List Nat}{S:bE}{E:KX}{fin:Env->bE->Prop}{env:Env}(hl:x.length<=1000)(k1:env[0]?=ξ (ξ (.loc r)))
  (cW:Env->bE->(Bool->bE->Prop)->Prop) (bW:Env->bE->(Env->bE->Prop)->Prop)
  (hc:∀taken S1 rest k,S1[r]?=ξ (lZ x rest d)->rest<:+x->k (!cZ [93] rest) S1->cW (env.set 2 (ξ (.str taken))) S1 k)
  (hb:∀taken S1 rest k,taken.length<=900000->S1[r]?=ξ (lZ x rest d)->rest<:+x->dM r x d S1 (λu S2=>∃t,u=.str t/\t.length<=95/\k (env.set 2 (ξ (.str (taken++t)))) S2) E (mapR U.str (item rest))->bW (env.set 2 (ξ (.str taken))) S1 k):
  ∀(n:Nat)(taken rest:List Nat)(S1:bE)(R:List Nat->List Nat->PR U),rest.length<n->taken.length+95*rest.length<=900000->rest<:+x->lJ r (lZ x rest d) S S1 ->
   (∀t2 r2 S2,lJ r (lZ x r2 d) S S2->r2<:+x->t2.length<=900000->lh n taken rest=.ok (t2,r2)->fin (env.set 2 (ξ (.str t2))) S2)->(∀r',lh n taken rest=.error r'->∀S',Old r S S'->E #["BadRule",[.int 0,.int (x.length-r'.length:Nat)],ζ] S') ->
   yS cW bW fin n (env.set 2 (ξ (.str taken))) S1
 |0,_,_,_,_,h,_,_,_,_,_=>∅
 |n+1,taken,rest,S1,R,h,ht,hx,c1,hf,he=>by
  rwa[hc taken S1 rest _ c1.2.1 hx ?_];by_cases e:cZ [93] rest=ζ
  .dsimp[e,b5,aD,if_false]
   erw[hf taken rest S1 c1 hx ∅ (by unfold lh;rw[if_pos e])]
  .have e':cZ [93] rest=ϑ:=by simpa using e
   dsimp[e',cU,if_true];rwa[hb taken S1 rest _ ∅ c1.2.1 hx ?_];have hs:=rq rest;cases q:item rest with
   |error r'=>
    intro S' o;erw[he r' (by unfold lh;rw[if_neg e,q];rfl) S' (c1.old.trans o)]
   |ok v=>
    let#[t,r1]:=v;rw[q] at hs;intro S2 c2;refine#[t,rfl,vD q,?_];have hlt:t.length<=95:=vD q;have hE:lh (n+1) taken rest=lh n (taken++t) r1:=by
     conv=>lhs;unfold lh
     rw[if_neg e,q];rfl
    rwa[vE G hl k1 cW bW hc hb n (taken++t) r1 S2 R (by have:=hs.2;omega) (by simp;have:=hs.2;omega) (hs.1.trans hx) (c1.trans c2) (λt2 r2 S3 c3 h3 h4 e3=>hf t2 r2 S3 c3 h3 h4 (%[hE|e3])) (λr' e3=>he r' (%[hE|e3]))]
def Q5(Γ:bU)(d:Nat)(G:GR3 Γ d):Keeps Γ eP 2 (N9 d):=by
  rintro us S Q E ⟨r,x,rest,rfl,hS,hx,hl,q⟩;have q:dM r x d S Q E (mapR U.str (cls rest)):=q;unfold cls at q;rw[jx] at q;unfold eP;walk_at "pf";dsimp[bS hS];refine#[#[by first|trivial|rfl,rfl],ca G.pass #[[91],d,r,x,rest,rfl,hS,hx,hl,?_]];refine q.bind (lJ.refl hS) λa r0 S0 e0 c0 q0=>?_
  have hs0:=gI [91] rest;rw[e0] at hs0;have hx0:=hs0.1.trans hx;have g0:=c0.2.1;walk_at "pf";dsimp[bS g0,true_and];refine#[rfl,ca G.sees #[r,x,r0,d,_,rfl,g0,hx0,hl,?_]];try walk_at "pf"
  have tail:∀(tb:Bool)(r1:List Nat)(S1:bE),lJ r (lZ x r1 d) S S1->r1<:+x->dM r x d S Q E (mapR U.str (nk tb r1)) ->
      rG Γ (.cons (.set 2 (.cB "Reader" "item" "Reader.item" @0 .nil))
   (.cons (.Co (.not (.de (.cB "Reader" "sees" "Reader.sees" @0 (.cons ↑[93] .nil)))) (.cons (.aug 2 .add (.cB "Reader" "item" "Reader.item" @0 .nil)) .nil))
   (.cons (.ex (.cB "Reader" "passes" "Reader.passes" @0 (.cons ↑[93] .nil)))
   (.cons (.ret (.Fl (.de @1) (.call "all_but" (.cons @2 .nil)) (.call "in_order" (.cons @2 .nil)))) .nil)))) #[λ_ S1=>Q .bK S1,Q,λ_=>E] [ξ (.loc r),ξ (.bl tb),ψ] S1:=by
    intro tb r1 S1 c1 hx1 q1;unfold nk at q1;rw[jx] at q1;have g1:=c1.2.1;walk_at "pf";dsimp[bS g1];refine#[#[by first|trivial|rfl,rfl],ca G.it #[r,x,r1,rfl,g1,hx1,hl,?_]];refine q1.bind c1 λt r2 S2 e2 c2 q2=>?_
    have hs2:=rq r1;rw[e2] at hs2;have hx2:=hs2.1.trans hx1;have hlt:=vD e2;have hr2:r2.length<=1000:=aP hx2.length_le hl;rw[jx] at q2;walk_at "pf";refine#[r2.length+1,vE (S:=S) (E:=E) (env:=[ξ (.loc r),ξ (.bl tb),ψ]) G hl rfl _ _ ?_ ?_ (r2.length+1) t r2 S2 (λ_ _=>.error []) ∅ ∅ hx2 c2 ?_ ?_]
    · intro taken S3 rest3 k g3 hx3 hk
      dsimp[rD,rE];try walk_at "pf"
      dsimp[bS g3,true_and];refine#[rfl,ca G.sees #[r,x,rest3,d,_,rfl,g3,hx3,hl,?_]];try walk_at "pf"
      erw[hk]
    · intro taken S3 rest3 k O4 g3 hx3 hk
      dsimp[rD,rE] at hk ⊢;try walk_at "pf"
      dsimp[bS g3,true_and];refine#[rfl,ca G.it #[r,x,rest3,rfl,g3,hx3,hl,?_]];show dM r x d S3 _ E (mapR U.str (item rest3));cases z:item rest3 with
      |error r'=>rw[z] at hk;erw[hk]
      |ok v=>
        let#[t3,r3]:=v;rw[z] at hk;intro S4 c4;let#[t',e',hl',hk']:=hk S4 c4;injection e' with e';subst e'
        rw[HQ]
        exact#[∅,Rest.go hk']
    · intro t3 r3 S3 c3 hx3 hl3 e3
      rw[e3] at q2;dsimp[bindR] at q2;have q2:dM r x d S Q E (mapR U.str (bindR (eM [93] r3) λ_ r4=>.ok (if tb then iR t3 else inOrder t3,r4))):=q2;rw[jx] at q2;have g3:=c3.2.1;dsimp[rD,rE];try walk_at "pf"
      dsimp[bS g3,true_and];refine#[rfl,ca G.pass #[[93],d,r,x,r3,rfl,g3,hx3,hl,?_]];rwa[q2.bind c3 λb r4 S4 e4 c4 q4=>?_]
      try walk_at "pf"
      cases tb with
      |true=>erw[ca G.FP #[t3,rfl,λS5 x5=>q4 S5 (c4.trans (x5.chg c4.2.1))]]
      |false=>erw[ca G.Q4 #[t3,rfl,λS5 x5=>q4 S5 (c4.trans (x5.chg c4.2.1))]]
    · intro r' e3 S' o
      rw[e3] at q2;erw[q2 S' o]
  by_cases e:cZ [94] r0=ζ
  · let#[t,rfl]:=Jc e
    dsimp[e,if_true];walk_at "pf";dsimp[bS g0,true_and];refine#[rfl,ca G.pass #[[94],d,r,x,_,rfl,g0,hx0,hl,?_]];show dM r x d S0 _ E (mapR kG (.ok (94,t)));intro S1 c1;erw[tail ζ t S1 (c0.trans c1) (zf hx0) q0]
  · have e:cZ [94] r0=ϑ:=by simpa using e
    dsimp[e,aD,if_false];rw[Jg e] at q0;erw[tail ϑ r0 S0 c0 hx0 q0]
abbrev uh(k:List Nat)(ts:List U):U:=match ts with|[t]=>t|_=>.tup [.str k,.tup ts]
abbrev lj:Spec:=λus S Q _=>∃k n ts,us=[.str k,.loc n]/\S[n]?=ξ (.lst ts)/\ts≠[]/\ts.length<=100000/\Q (uh k ts) S
def FQ(Γ:bU):Keeps Γ qS 0 lj:=by
 rintro us S Q E ⟨k,n,ts,rfl,hn,ne,hl,q⟩;unfold qS;walk_at "pl";dsimp[jO hn,hn];walk_at "pl";refine#[∅,?_];cases ts with
 |nil=>erw[absurd rfl ne]
 |cons t ts=>
  cases ts with
  |nil=>
   dsimp[BH];simp[FC,uh] at q ⊢;erw[q]
  |cons t2 ts=>
   have h1:((((t::t2::ts).length:Nat):Int)== 1)=ϑ:=by
    dsimp[a5,beq_eq_false_iff_ne];omega
   dsimp[h1,aD,if_false];refine#[#v[],?_];erw[q]
noncomputable abbrev Q6:List Nat:=[111,110,101]
noncomputable abbrev iW:List Nat:=[115,116,97,114]
noncomputable abbrev nF:List Nat:=[112,108,117,115]
noncomputable abbrev fX:List Nat:=[109,97,121,98,101]
noncomputable abbrev MS:List Nat:=[114,111,119]
noncomputable abbrev W7:List Nat:=[111,114]
abbrev Q7(l:List Nat):U:=.tup [.str Q6,.str l]
abbrev Q8(c:Nat)(t:U):U:=.tup [.str (if c=42 then iW else if c=43 then nF else fX),t]
abbrev oC:U->List Nat->U×List Nat
 |t,[]=>(t,[])
 |t,c::r=>if [42,43,63].contains c then oC (Q8 c t) r else(t,c::r)
abbrev Vg(br:Option (List Nat->PR U))(rest:List Nat):PR U:=
 match br with
 |none=>.error rest
 |some p=>bindR (eM [40] rest) λ_ r=>bindR (p r) λt r2=>bindR (eM [41] r2) λ_ r3=>.ok (t,r3)
abbrev xW(br:Option (List Nat->PR U))(rest:List Nat):PR U:=
 if cZ [40] rest then Vg br rest else if cZ [91] rest then mapR Q7 (cls rest) else if cZ [46] rest then bindR (eM [46] rest) (λ_ r=>.ok (Q7 (iR [10]),r)) else mapR (λc=>Q7 [c]) (ke MO rest)
abbrev lU(br:Option (List Nat->PR U))(rest:List Nat):PR U:=bindR (xW br rest) λt r=>.ok (oC t r)
abbrev fQ(stop:List Nat->Bool)(p:List Nat->PR U):Nat->List U->List Nat->PR (List U)
 |0,_,rest=>.error rest
 |n+1,acc,rest=>if stop rest then .ok (acc,rest) else bindR (p rest) λt r=>fQ stop p n (acc++[t]) r
abbrev zh(rest:List Nat):Bool:=rest.isEmpty||cZ [124,41] rest
abbrev stopOr(rest:List Nat):Bool:=!cZ [124] rest
abbrev AV(br:Option (List Nat->PR U))(rest:List Nat):PR U:=bindR (lU br rest) λt r=>bindR (fQ zh (lU br) (r.length+1) [t] r) λts r2=>.ok (uh MS ts,r2)
abbrev W8(br:Option (List Nat->PR U))(rest:List Nat):PR U:=bindR (eM [124] rest) λ_ r=>AV br r
abbrev jf(br:Option (List Nat->PR U))(rest:List Nat):PR U:=bindR (AV br rest) λt r=>bindR (fQ stopOr (W8 br) (r.length+1) [t] r) λts r2=>.ok (uh W7 ts,r2)
abbrev CU:Nat->Option (List Nat->PR U)
 |0=>ψ
 |k+1=>ξ (jf (CU k))
abbrev tq(x:List Nat):PR U:=bindR (jf (CU 6) x) λt r=>if r=[] then .ok (t,[]) else .error r
def AW:∀(t:U)(rest:List Nat),(oC t rest).2<:+rest
 |t,[]=>bD _
 |t,c::r=>by
  unfold oC;split
  .exact(AW _ r).trans (c7 _ _)
  .erw[bD _]
abbrev vF(br:Option (List Nat->PR U)):Prop:=∀p,br=ξ p->∀rest,l7 rest (p rest)
def Q9{br:Option (List Nat->PR U)}(h:vF br)(rest:List Nat):l7 rest (Vg br rest):=by
 unfold Vg;cases br with
 |none=>erw[bD _]
 |some p=>exact(gI _ _).bind λa r _=>(h p rfl r).Q3.bind λt r2 _=>(gI _ _).Q3.bind λ_ r3 _=>bD _
def l7.map{α β:Type}{rest:List Nat}{p:PR α}{f:α->β}(h:l7 rest p):l7 rest (mapR f p):=by
 cases p with
 |ok v=>erw[h]
 |error r=>erw[h]
def AX{br:Option (List Nat->PR U)}(h:vF br)(rest:List Nat):l7 rest (xW br rest):=by
 unfold xW;split
 .erw[Q9 h rest]
 .split
  .exact(MR rest).map
  .split
   .exact(gI _ _).bind λ_ r _=>bD _
   .exact(kI _ _).map
def nq(h:vF br)(rest:List Nat):l7 rest (lU br rest):=(AX h rest).bind λt r _=>AW t r
def nv(h:∀rest,l7 rest (p rest)):∀(n:Nat)(acc:List U)(rest:List Nat),Suf rest (fQ stop p n acc rest)
 |0,_,rest=>bD _
 |n+1,acc,rest=>by
  unfold fQ;split
  .erw[bD _]
  .exact(h rest).Q3.bind λa r _=>nv h n _ r
def zi(h:vF br)(rest:List Nat):l7 rest (AV br rest):=(nq h rest).bind λt r _=>(nv (nq h) _ _ _).bind λts r2 _=>bD _
def Jh(h:vF br)(rest:List Nat):l7 rest (W8 br rest):=(gI _ _).bind λ_ r _=>(zi h r).Q3
def vG(h:vF br)(rest:List Nat):l7 rest (jf br rest):=(zi h rest).bind λt r _=>(nv (Jh h) _ _ _).bind λts r2 _=>bD _
def zk:∀k,vF (CU k)
 |0=>λp e=>nomatch e
 |k+1=>λp e rest=>by injection e with e;subst e;erw[vG (zk k) rest]
def dM.Oa{α:Type}{toU:α->U}{p:PR α}{f:α->List Nat->PR U}{r d d':Nat}{x rest:List Nat}{S S1:bE}{Q Q1:KU}{E:KX}(h:dM r x d S Q E (bindR p f))(st:lJ r (lZ x rest d') S S1)
  (k:∀a r1 S2,p=.ok (a,r1)->lJ r (lZ x r1 d') S S2->dM r x d S Q E (f a r1)->Q1 (toU a) S2):dM r x d' S1 Q1 E (mapR toU p):=by
 cases p with
 |error r'=>erw[λS' o=>h S' (st.old.trans o)]
 |ok v=>
  let#[a,r1]:=v;erw[λS' c=>k a r1 S' rfl (st.trans c) h]
def dM.En{p:PR U}{f:U->List Nat->PR U}{r d d':Nat}{x rest:List Nat}{S S1:bE}{Q Q1:KU}{E:KX}(h:dM r x d S Q E (bindR p f))(st:lJ r (lZ x rest d') S S1)
  (k:∀a r1 S2,p=.ok (a,r1)->lJ r (lZ x r1 d') S S2->dM r x d S Q E (f a r1)->Q1 a S2):dM r x d' S1 Q1 E p:=by
 have:=dM.Oa (toU:=id) (Q1:=Q1) h st k;rw[MP] at this;erw[this]
def Eo{x t:List Nat}{z:U}{v:Nat}{d':Nat}(h:z=.int (d':Nat)):SO.ins "Reader" (gO "depth" z [("text",.str x),("at",.int (x.length-t.length:Nat)),("depth",.int v)])=lZ x t d':=by subst h;rfl
abbrev Vh(br:Option (List Nat->PR U))(d:Nat):Spec:=λus S Q E=>∃r x rest,us=[.loc r]/\S[r]?=ξ (lZ x rest d)/\rest<:+x/\x.length<=1000/\cZ [40] rest=ζ/\dM r x d S Q E (Vg br rest)
abbrev Vi(Γ:bU)(br:Option (List Nat->PR U))(d:Nat):Prop:=
 (br=ψ/\d=6)\/∃p,br=ξ p/\d<6/\vF br/\Γ "Reader.choice"=zK [] p (d+1)
def Vj(Γ:bU)(G:GR Γ)(br:Option (List Nat->PR U))(d:Nat)(hb:Vi Γ br d):Keeps Γ gQ 1 (Vh br d):=by
 rintro us S Q E ⟨r,x,rest,rfl,hS,hx,hl,hs,q⟩;unfold gQ;walk_at "pf";dsimp[<-iB,IY hS];walk_at "pf";rcases hb with⟨rfl,rfl⟩|⟨p,rfl,hd,hbo,hch⟩
 .have e:((((6:Nat):Int))== 6)=ζ:=⋯
  dsimp[e,if_true];walk_at "pf";dsimp[<-iB,xT hS];exact#[rfl,q S .refl]
 .have e:(((d:Nat):Int)== 6)=ϑ:=by dsimp[beq_eq_false_iff_ne];omega
  dsimp[e,aD,if_false];walk_at "pf";dsimp[bS hS,true_and];refine#[rfl,ca G.pass #[[40],d,r,x,rest,rfl,hS,hx,hl,?_]];unfold Vg at q;rwa[q.bind (lJ.refl hS) λa r1 S1 e1 c1 q1=>?_]
  have hs1:=gI [40] rest;rw[e1] at hs1;have hx1:=hs1.1.trans hx;have g1:=c1.2.1;walk_at "pf";dsimp[bS g1];try walk_at "pf"
  dsimp[bS g1,Eo (v:=d) (d':=d+1) (t:=r1) (x:=x) (z:=.int ((d:Nat)+1)) rfl];refine#[by first|trivial|rfl,#v[],?_];have c2:lJ r (lZ x r1 (d+1)) S (S1.set r (lZ x r1 (d+1))):=c1.trans (lJ.set g1);have g2:=c2.2.1;generalize S1.set r (lZ x r1 (d+1))=S2 at c2 g2;walk_at "pf";dsimp[bS g2,true_and];refine#[rfl,ca hch #[r,x,r1,rfl,g2,hx1,hl,?_]];refine q1.En c2 λt r2 S3 e3 c3 q3=>?_
  have hs3:=hbo p rfl r1;rw[e3] at hs3;have hx3:=hs3.1.trans hx1;have g3:=c3.2.1;try walk_at "pf"
  dsimp[bS g3,true_and];refine#[rfl,ca G.pass #[[41],d+1,r,x,r2,rfl,g3,hx3,hl,?_]];rwa[q3.Oa c3 λa r3 S4 e4 c4 q4=>?_]
  have g4:=c4.2.1;walk_at "pf";dsimp[bS g4];try walk_at "pf"
  dsimp[bS g4,Eo (v:=d+1) (d':=d) (t:=r3) (x:=x) (z:=.int (((d+1:Nat):Int)-1)) (by congr 1;omega)];refine#[by first|trivial|rfl,#v[],?_];walk_at "pf";exact q4 _ (c4.trans (lJ.set g4))
structure GA(Γ:bU)(br:Option (List Nat->PR U))(d:Nat):Prop extends GR3 Γ d where
 cl:Γ "Reader.sign_class"=N9 d
 bk:Γ "Reader.bracket"=Vh br d
def MT(Γ:bU)(br:Option (List Nat->PR U))(d:Nat)(G:GA Γ br d):Keeps Γ jF 0 (zK [] (xW br) d):=by
 rintro us S Q E ⟨r,x,rest,rfl,hS,hx,hl,q⟩;unfold jF;walk_at "pf";dsimp[bS hS];refine#[#[by first|trivial|rfl,rfl],ca G.sees #[r,x,rest,d,_,rfl,hS,hx,hl,?_]];try walk_at "pf"
 unfold xW at q;by_cases e1:cZ [40] rest=ζ
 .dsimp[e1,if_true] at q ⊢
  walk_at "pf";dsimp[bS hS,true_and];exact#[rfl,ca G.bk #[r,x,rest,rfl,hS,hx,hl,e1,q]]
 .have e1':cZ [40] rest=ϑ:=by simpa using e1
  dsimp[e1',aD,if_false] at q ⊢;walk_at "pf";dsimp[bS hS,true_and];refine#[rfl,ca G.sees #[r,x,rest,d,_,rfl,hS,hx,hl,?_]];try walk_at "pf"
  by_cases e2:cZ [91] rest=ζ
  .dsimp[e2,if_true] at q ⊢
   walk_at "pf";dsimp[bS hS,true_and];refine#[rfl,ca G.cl #[r,x,rest,rfl,hS,hx,hl,?_]];rw[xU] at q;rwa[q.bind (toU:=U.str) (lJ.refl hS) λa r1 S1 _ c1 q1=>?_]
   exact#[#v[],q1 S1 c1]
  .have e2':cZ [91] rest=ϑ:=by simpa using e2
   dsimp[e2',aD,if_false] at q ⊢;walk_at "pf";dsimp[bS hS,true_and];refine#[rfl,ca G.sees #[r,x,rest,d,_,rfl,hS,hx,hl,?_]];try walk_at "pf"
   by_cases e3:cZ [46] rest=ζ
   .dsimp[e3,if_true] at q ⊢
    walk_at "pf";dsimp[bS hS,true_and];refine#[rfl,ca G.pass #[[46],d,r,x,rest,rfl,hS,hx,hl,?_]];rwa[q.bind (lJ.refl hS) λa r1 S1 _ c1 q1=>?_]
    walk_at "pf";refine ca G.FP #[[10],rfl,λS2 x2=>?_];try walk_at "pf"
    exact#[#v[],q1 S2 (c1.trans (x2.chg c1.2.1))]
   .have e3':cZ [46] rest=ϑ:=by simpa using e3
    dsimp[e3',aD,if_false] at q ⊢;walk_at "pf";dsimp[bS hS,true_and];refine#[rfl,ca G.ws #[MO,r,x,rest,rfl,hS,hx,hl,?_]];rw[xU] at q;rwa[q.bind (lJ.refl hS) λa r1 S1 _ c1 q1=>?_]
    unfold kG;exact#[#v[],q1 S1 c1]
abbrev REP:List (List Nat×List Nat):=[([42],iW),([43],nF),([63],fX)]
def Ji(h:[42,43,63].contains c=ζ):REP.lookup [c]=ξ (if c=42 then iW else if c=43 then nF else fX):=by
 have:c=42\/c=43\/c=63:=by simpa using h
 rcases this with rfl|rfl|rfl<;>rfl
structure GP(Γ:bU)(br:Option (List Nat->PR U))(d:Nat):Prop extends GA Γ br d where
 at_:Γ "Reader.atom"=zK [] (xW br) d
def xX{Γ:bU}{r d:Nat}{x:List Nat}{S:bE}{fin:Env->bE->Prop}{e0:Option U}(hl:x.length<=1000)
  (cW:Env->bE->(Bool->bE->Prop)->Prop) (bW:Env->bE->(Env->bE->Prop)->Prop)
  (hc:∀t S1 rest k,S1[r]?=ξ (lZ x rest d)->rest<:+x->k (cZ [42,43,63] rest) S1->cW [e0,ξ t] S1 k)
  (hb:∀t S1 c rest k,S1[r]?=ξ (lZ x (c::rest) d)->(c::rest)<:+x->[42,43,63].contains c=ζ->(∀S2,lJ r (lZ x rest d) S1 S2->k [e0,ξ (Q8 c t)] S2)->bW [e0,ξ t] S1 k):
  ∀(rest:List Nat)(t:U)(S1:bE),rest<:+x->lJ r (lZ x rest d) S S1->(∀S2,lJ r (lZ x (oC t rest).2 d) S S2->fin [e0,ξ (oC t rest).1] S2)->yS cW bW fin (rest.length+1) [e0,ξ t] S1
 |[],t,S1,hx,c1,hf=>by
  rwa[hc t S1 [] _ c1.2.1 hx ?_];dsimp[cZ,aD,if_false];erw[hf S1 c1]
 |c::rest,t,S1,hx,c1,hf=>by
  rwa[hc t S1 _ _ c1.2.1 hx ?_];by_cases e:[42,43,63].contains c=ζ
  .dsimp[cZ,e,if_true]
   rwa[hb t S1 c rest _ c1.2.1 hx e λS2 c2=>?_]
   refine xX (Γ:=Γ) hl cW bW hc hb rest _ S2 (zf hx) (c1.trans c2) ?_;have:oC t (c::rest)=oC (Q8 c t) rest:=by
    conv=>lhs;unfold oC
    rw[if_pos e]
   rw[this] at hf;erw[hf]
  .have e':[42,43,63].contains c=ϑ:=by simpa using e
   dsimp[cZ,e',aD,if_false];have:oC t (c::rest)=(t,c::rest):=by
    unfold oC;rw[if_neg e]
   rw[this] at hf;erw[hf S1 c1]
def FR(Γ:bU)(br:Option (List Nat->PR U))(d:Nat)(hbo:vF br)(G:GP Γ br d):Keeps Γ iI 1 (zK [] (lU br) d):=by
 rintro us S Q E ⟨r,x,rest,rfl,hS,hx,hl,q⟩;unfold iI;walk_at "pl";dsimp[bS hS,G.at_];refine#[#[by first|trivial|rfl,rfl],r,x,rest,rfl,hS,hx,hl,?_];unfold lU at q;refine q.En (lJ.refl hS) λt r1 S1 e1 c1 q1=>?_
 have hs1:=AX hbo rest;rw[e1] at hs1;have hx1:=hs1.1.trans hx;refine#[r1.length+1,xX (Γ:=Γ) (S:=S) hl _ _ ?_ ?_ r1 t S1 hx1 c1 ?_]
 .intro t2 S2 rest2 k g2 hx2 hk
  try walk_at "pl"
  dsimp[bS g2,G.sees,true_and];refine#[rfl,r,x,rest2,d,_,rfl,g2,hx2,hl,?_];try walk_at "pl"
  erw[hk]
 .intro t2 S2 c rest2 k g2 hx2 hc hk
  try walk_at "pl"
  dsimp[bS g2,G.pass,true_and];refine#[rfl,[42,43,63],d,r,x,_,rfl,g2,hx2,hl,?_];have e2:eM [42,43,63] (c::rest2)= .ok (c,rest2):=by unfold eM;dsimp only;rw[if_pos hc]
  show dM r x d S2 _ E (mapR kG (eM [42,43,63] (c::rest2)))
  rw[e2]
  intro S3 c3;unfold kG;rw[Cj]
  have:=Ji hc;unfold REP at this;rw[this,bq]
  exact#[#v[],hk S3 c3]
 .intro S2 c2
  try walk_at "pl"
  erw[q1 S2 c2]
def sA(hp:∀rest,l7 rest (p rest))
  (cW:Env->bE->(Bool->bE->Prop)->Prop) (bW:Env->bE->(Env->bE->Prop)->Prop) (h0:S.length<=n0) (h1:n0≠r)
  (hc:∀S1 rest k,S1[r]?=ξ (lZ x rest d)->rest<:+x->k (!stop rest) S1->cW env S1 k)
  (hb:∀S1 rest acc k,S1[r]?=ξ (lZ x rest d)->S1[n0]?=ξ (.lst acc)->acc.length<=2000->rest<:+x->stop rest=ϑ->dM r x d S1 (λt S2=>k env (S2.set n0 (.lst (acc++[t])))) E (p rest)->bW env S1 k):
  ∀(m:Nat)(acc:List U)(rest:List Nat)(S1:bE),rest.length<m->acc.length+rest.length<=2000->rest<:+x->lJ r (lZ x rest d) S S1->S1[n0]?=ξ (.lst acc) ->
   (∀ts r2 S2,fQ stop p m acc rest=.ok (ts,r2)->lJ r (lZ x r2 d) S S2->r2<:+x->S2[n0]?=ξ (.lst ts)->ts.length<=2000->acc.length<=ts.length->fin env S2)->(∀r',fQ stop p m acc rest=.error r'->∀S',Old r S S'->E #["BadRule",[.int 0,.int (x.length-r'.length:Nat)],ζ] S') ->
   yS cW bW fin m env S1
 |0,_,_,_,h,_,_,_,_,_,_=>∅
 |m+1,acc,rest,S1,h,ht,hx,c1,hn,hf,he=>by
  rwa[hc S1 rest _ c1.2.1 hx ?_];by_cases e:stop rest=ζ
  .dsimp[e,b5,aD,if_false]
   erw[hf acc rest S1 (by unfold fQ;rw[if_pos e]) c1 hx hn ∅ (ar _)]
  .have e':stop rest=ϑ:=by simpa using e
   dsimp[e',cU,if_true];rwa[hb S1 rest acc _ c1.2.1 hn ∅ hx e' ?_];have hs:=hp rest;cases q:p rest with
   |error r'=>
    intro S' o;erw[he r' (by unfold fQ;rw[if_neg e,q];rfl) S' (c1.old.trans o)]
   |ok v=>
    let#[t,r1]:=v;rw[q] at hs;intro S2 c2;have hE:fQ stop p (m+1) acc rest=fQ stop p m (acc++[t]) r1:=by
     conv=>lhs;unfold fQ
     rw[if_neg e,q];rfl
    have hn2:S2[n0]?=ξ (.lst acc):=(c2.2.2 n0 (a4 hn) h1).trans hn;have c3:lJ r (lZ x r1 d) S (S2.set n0 (.lst (acc++[t]))):=by
     have c12:=c1.trans c2;refine#[~~~c12.1,%[ai h1|c12.2.1],λm hm ne=>?_];rw[ai ∅]
     erw[c12.2.2 m hm ne]
    refine sA hp cW bW h0 h1 hc hb m (acc++[t]) r1 _ (by have:=hs.2;omega) (by simp;have:=hs.2;omega) (hs.1.trans hx) c3 (gs hn2) (λts r2 S3 e3 c4 h3 h4 h5 h6=>hf ts r2 S3 (%[hE|e3]) c4 h3 h4 h5 (by simp at h6;omega)) (λr' e3=>he r' (%[hE|e3]))
structure GW(Γ:bU)(br:Option (List Nat->PR U))(d:Nat):Prop extends GP Γ br d where
 rp:Γ "Reader.repeat"=zK [] (lU br) d
 jn:Γ "joined"=lj
def Jj{x rest:List Nat}(h:rest<:+x):decide (((x.length-rest.length:Nat):Int)<x.length)= !rest.isEmpty:=by
 have:=N8 h;cases rest with
 |nil=>simp at this ⊢
 |cons a b=>dsimp[ne_eq,reduceCtorEq,not_false_eq_true,iff_true] at this;rw[decide_eq_true this];rfl
def Ra(Γ:bU)(br:Option (List Nat->PR U))(d:Nat)(hbo:vF br)(G:GW Γ br d):Keeps Γ km 1 (zK [] (AV br) d):=by
 rintro us S Q E ⟨r,x,rest,rfl,hS,hx,hl,q⟩;unfold km;walk_at "pl";dsimp[bS hS,G.rp];refine#[#[by first|trivial|rfl,rfl],r,x,rest,rfl,hS,hx,hl,?_];unfold AV at q;refine q.En (lJ.refl hS) λt r1 S1 e1 c1 q1=>?_
 have hs1:=nq hbo rest;rw[e1] at hs1;have hx1:=hs1.1.trans hx;have hr1:r1.length<=1000:=aP hx1.length_le hl;refine#[#v[],?_];have hrl:=a4 hS;have c2:lJ r (lZ x r1 d) S (S1++[.lst [t]]):=c1.trans ((Ext.app _).chg c1.2.1);have hn:(S1++[SO.lst [t]])[S1.length]?=ξ (.lst [t]):=by simp
 have hne:S1.length≠r:=by have:=c1.1;omega
 refine#[r1.length+1,sA (S:=S) (E:=E) (n0:=S1.length) (stop:=zh) (p:=lU br) (nq hbo) _ _ c1.1 hne ?_ ?_ (r1.length+1) [t] r1 _ ∅ ((·)) hx1 c2 hn ?_ ?_]
 .intro S2 rest2 k g2 hx2 hk
  try walk_at "pl"
  dsimp[<-iB,ze g2,xT g2];try walk_at "pl"
  refine#[∅,?_];dsimp[Jj hx2];unfold zh at hk;cases rest2 with
  |nil=>simpa using hk
  |cons c t2=>
   dsimp[GI,cU,if_true];dsimp[bS g2,G.sees,true_and];refine#[rfl,r,x,_,d,_,rfl,g2,hx2,hl,?_];try walk_at "pl"
   simpa using hk
 .intro S2 rest2 acc k g2 hn2 ha hx2 hst hk
  try walk_at "pl"
  dsimp[hn2,bS g2,G.rp,true_and];try walk_at "pl"
  refine#[rfl,r,x,rest2,rfl,g2,hx2,hl,?_];cases z:lU br rest2 with
  |error r'=>rw[z] at hk;erw[hk]
  |ok v=>
   rw[z] at hk;intro S3 c3;have hn3:S3[S1.length]?=ξ (.lst acc):=(c3.2.2 _ (a4 hn2) hne).trans hn2;dsimp[hn3];try walk_at "pl"
   exact#[∅,hk S3 c3]
 .intro ts r2 S2 e2 c3 hx2 hn2 hts ht1
  rw[e2] at q1;try walk_at "pl"
  dsimp[G.jn];refine#[MS,S1.length,ts,rfl,hn2,?_,∅,q1 S2 c3];intro z;rw[z] at ht1;simp at ht1
 .intro r' e2 S' o
  rw[e2] at q1;erw[q1 S' o]
structure GC(Γ:bU)(br:Option (List Nat->PR U))(d:Nat):Prop extends GW Γ br d where
 rw_:Γ "Reader.row"=zK [] (AV br) d
def FT(Γ:bU)(br:Option (List Nat->PR U))(d:Nat)(hbo:vF br)(G:GC Γ br d):Keeps Γ iH 1 (zK [] (jf br) d):=by
 rintro us S Q E ⟨r,x,rest,rfl,hS,hx,hl,q⟩;unfold iH;walk_at "pl";dsimp[bS hS,G.rw_];refine#[#[by first|trivial|rfl,rfl],r,x,rest,rfl,hS,hx,hl,?_];unfold jf at q;refine q.En (lJ.refl hS) λt r1 S1 e1 c1 q1=>?_
 have hs1:=zi hbo rest;rw[e1] at hs1;have hx1:=hs1.1.trans hx;have hr1:r1.length<=1000:=aP hx1.length_le hl;refine#[#v[],?_];have hrl:=a4 hS;have c2:lJ r (lZ x r1 d) S (S1++[.lst [t]]):=c1.trans ((Ext.app _).chg c1.2.1);have hn:(S1++[SO.lst [t]])[S1.length]?=ξ (.lst [t]):=by simp
 have hne:S1.length≠r:=by have:=c1.1;omega
 refine#[r1.length+1,sA (S:=S) (E:=E) (n0:=S1.length) (stop:=stopOr) (p:=W8 br) (Jh hbo) _ _ c1.1 hne ?_ ?_ (r1.length+1) [t] r1 _ ∅ ((·)) hx1 c2 hn ?_ ?_]
 .intro S2 rest2 k g2 hx2 hk
  try walk_at "pl"
  dsimp[bS g2,G.sees,true_and];refine#[rfl,r,x,_,d,_,rfl,g2,hx2,hl,?_];try walk_at "pl"
  simpa[stopOr] using hk
 .intro S2 rest2 acc k g2 hn2 ha hx2 hst hk
  try walk_at "pl"
  dsimp[bS g2,G.pass,true_and];refine#[rfl,[124],d,r,x,rest2,rfl,g2,hx2,hl,?_];unfold W8 at hk;rwa[dM.bind (f:=λ_ r=>AV br r) hk (lJ.refl g2) λa r3 S3 e3 c3 q3=>?_]
  have hs3:=gI [124] rest2;rw[e3] at hs3;have hx3:=hs3.1.trans hx2;have g3:=c3.2.1;have hn3:S3[S1.length]?=ξ (.lst acc):=(c3.2.2 _ (a4 hn2) hne).trans hn2;dsimp[hn3,bS g3,G.rw_,true_and];try walk_at "pl"
  refine#[rfl,r,x,r3,rfl,g3,hx3,hl,?_];cases z:AV br r3 with
  |error r'=>rw[z] at q3;erw[λS' o=>q3 S' (c3.old.trans o)]
  |ok v=>
   rw[z] at q3;intro S4 c4;have hn4:S4[S1.length]?=ξ (.lst acc):=(c4.2.2 _ (a4 hn3) hne).trans hn3;dsimp[hn4];try walk_at "pl"
   exact#[∅,q3 S4 (c3.trans c4)]
 .intro ts r2 S2 e2 c3 hx2 hn2 hts ht1
  rw[e2] at q1;try walk_at "pl"
  dsimp[G.jn];refine#[W7,S1.length,ts,rfl,hn2,?_,∅,q1 S2 c3];intro z;rw[z] at ht1;simp at ht1
 .intro r' e2 S' o
  rw[e2] at q1;erw[q1 S' o]
abbrev nA:Spec:=λus S Q _=>∃r x,us=[.loc r,.str x]/\S[r]?=ξ (.ins "Reader" [])/\Q .bK (S.set r (lZ x x 0))
def Jk(Γ:bU):Keeps Γ jD 0 nA:=by
 rintro us S Q E ⟨r,x,rfl,hS,q⟩;unfold jD;walk_at "pl";have hr:=a4 hS;dsimp[hS,bT,gO];refine#[#v[],?_];have g1:=gs (o':=SO.ins "Reader" [("text",U.str x)]) hS;generalize hS1:S.set r (SO.ins "Reader" [("text",U.str x)])=S1 at g1;dsimp[g1,bT];refine#[#v[],?_];have g2:=gs (o':=SO.ins "Reader" (gO "at" (U.int 0) [("text",U.str x)])) g1;generalize hS2:S1.set r (SO.ins "Reader" (gO "at" (U.int 0) [("text",U.str x)]))=S2 at g2;dsimp[g2,bT];refine#[by simp[gO],?_];subst hS2;subst hS1;rw[nV,nV]
 have e:SO.ins "Reader" (gO "depth" (.int 0) (gO "at" (.int 0) [("text",.str x)]))=lZ x x 0:=by
  unfold lZ;rw[bQ]
  rfl
 simpa[<-e] using q
abbrev CV:Spec:=λus S Q E=>∃x,us=[.str x]/\x.length<=1000/\match tq x with
 |.ok (t,_)=>∀S',Ext S S'->Q t S'
 |.error r=>∀S',Ext S S'->E #["BadRule",[.int 0,.int (x.length-r.length:Nat)],ζ] S'
def MU(Γ:bU)(h1:Γ "Reader.__init__"=nA)(h2:Γ "Reader.choice"=zK [] (jf (CU 6)) 0):Keeps Γ yV 2 CV:=by
 rintro us S Q E ⟨x,rfl,hl,q⟩;unfold yV;walk_at "pl";dsimp[h1,h2];have hn:(S++[SO.ins "Reader" []])[S.length]?=ξ (.ins "Reader" []):=by simp
 refine#[S.length,x,rfl,hn,rfl,?_];try walk_at "pl"
 have g1:=gs (o':=lZ x x 0) hn;have x1:Old S.length S ((S++[SO.ins "Reader" []]).set S.length (lZ x x 0)):=by
  refine#[#v[],λn h ne=>?_];rw[ai (bI ne),aq h]
 generalize (S++[SO.ins "Reader" []]).set S.length (lZ x x 0)=S1 at g1 x1;dsimp[bS g1,true_and];have toE:∀{S'},Old S.length S S'->Ext S S':=λo=>#[o.1,λn h=>o.2 n h ∅]
 refine#[rfl,S.length,x,x,rfl,g1,bD _,hl,?_];unfold tq at q;cases z:jf (CU 6) x with
 |error r'=>
  rw[z] at q;erw[λS' o=>q S' (toE (x1.trans o))]
 |ok v=>
  let#[t,r1]:=v;have hs:=vG (zk 6) x;rw[z] at q hs;intro S2 c2;have g2:=c2.2.1;dsimp[<-iB,xT g2];try walk_at "pl"
  refine#[∅,?_];dsimp[Jj hs.1];dsimp[bindR] at q;cases r1 with
  |nil=>
   dsimp[List.isEmpty_nil,b5,aD,if_false];try walk_at "pl"
   simp at q;erw[q S2 (toE (x1.trans c2.old))]
  |cons c t2=>
   dsimp[GI,cU,if_true];dsimp[reduceCtorEq,if_false] at q;exact#[rfl,q S2 (toE (x1.trans c2.old))]
section
variable{d f c:Nat}{r rest:List Nat}
abbrev hd(rest:List Nat)(l:List Nat):Prop:=cZ l rest=ζ
end
section
variable{α:Type}
def MV(h0:0<=i)(h1:i<l.length):∃a,si l i=ξ a/\a∈l:=by
 obtain⟨n,rfl⟩:∃n:Nat,i=n:=#[i.toNat,∅]
 have h2:n<l.length:=∅
 exact#[l[n],by rw[jb,af h2],cD h2]
def Rb(h0:0<=i)(h1:i<l.length)(h:∀a∈l,r a):opt (si l i) r:=by
 let#[a,e,m]:=MV h0 h1;rw[e];erw[h a m]
end
namespace yW
abbrev CW:Spec:=λus S Q _=>∃ns k,us=[.tL ns,.int k]/\ns.length<=1000/\∀m,Q (.int m) S
def MX(Γ:bU):Keeps Γ lN 0 CW:=by
 rintro us S Q E ⟨ns,k,rfl,hl,q⟩;unfold lN;walk_at "pl";by_cases h:ns.length=0
 .dsimp[h,bne_self_eq_false,aD,if_false]
  try walk_at "pl"
  erw[q 0]
 .have h':(ns.length !=0)=ζ:=by simpa using h
  dsimp[h',if_true];try walk_at "pl"
  refine#[∅,∅,∅,?_];erw[Rb (Int.emod_nonneg _ ∅) (GJ _ ∅) (λa _=>q a)]
abbrev xY:Spec:=λus S Q _=>∃ns k,us=[.tL ns,.int k]/\ns.length<=1000/\∀m:Int,0<=m->m<4294967231->Q (.int m) S
def Rc(Γ:bU)(h1:Γ "_law_cell"=CW):Keeps Γ m3 1 xY:=by
 rintro us S Q E ⟨ns,k,rfl,hl,q⟩;unfold m3;walk_at "pl";dsimp[h1];refine#[ns,k,rfl,hl,λc=>?_];walk_at "pl";refine#[∅,∅,∅,∅,∅,∅,∅,?_];erw[q _ ∅ ∅]
end yW
namespace yW
end yW
def pd(I:Nat->Env->bE->Prop)
  (h:∀n env S k,I n env S->(∀m env' S',m<n->I m env' S'->k env' S')->cW env S (λt S1=>if t=ζ then bW env S1 k else fin env S1)):
  ∀N n env S,n<N->I n env S->yS cW bW fin N env S
 |0,_,_,_,hn,_=>∅
 |N+1,n,env,S,hn,hi=>h n env S _ hi λm env' S' hm hi'=>pd I h N m env' S' ∅ hi'
def Ep(I:Nat->Env->bE->Prop)(hg:∀i env S,I i env S->g S)(l:List U)
  (h:∀i u env S k,l[i]?=ξ u->I i env S->(∀env' S',I (i+1) env' S'->k env' S')->turn u env S k) (hf:∀env S,I l.length env S->fin env S):
  ∀n i env S,i+n=l.length->I i env S->vg g turn fin (l.drop i) env S
 |0,i,env,S,e,hi=>by
  rw[Bq ∅]
  have:i=l.length:=∅
  subst this;exact#[hg _ _ _ hi,hf _ _ hi]
 |n+1,i,env,S,e,hi=>by
  have hlt:i<l.length:=∅
  rw[b8 hlt]
  exact#[hg _ _ _ hi,h i _ env S _ (af hlt) hi λenv' S' hi'=>Ep I hg l h hf n (i+1) env' S' ∅ hi']
def eh{g:bE->Prop}{turn:U->Env->bE->(Env->bE->Prop)->Prop}{fin:Env->bE->Prop}(I:Nat->Env->bE->Prop)(hg:∀i env S,I i env S->g S)(l:List U)
  (h:∀i u env S k,l[i]?=ξ u->I i env S->(∀env' S',I (i+1) env' S'->k env' S')->turn u env S k) (hf:∀env S,I l.length env S->fin env S)
  {env:Env}{S:bE} (hi:I 0 env S):vg g turn fin l env S:=Ep I hg l h hf l.length 0 env S ∅ hi
def rA{n i:Nat}{u:U}(h:((b9 n).map λk=>U.int (k:Nat))[i]?=ξ u):u=.int i/\i<n:=by
 rw[aE] at h;have hl:i<n:=by
  rcases tI i n with z|z
  .erw[z]
  .rw[dm (~~~z)] at h;simp at h
 rw[iE hl] at h;simp at h;exact#[h.symm,hl]
namespace yW
end yW
end PL
namespace PL.rH
inductive Mk where|star|plus|may
inductive Tr where|one (n:Nat) (l:List Nat)|row (a b:Tr)|or (a b:Tr)|rep (m:Mk) (a:Tr)
noncomputable section
abbrev null:Tr->Bool
 |.one _ _=>ϑ
 |.row a b=>null a&&null b
 |.or a b=>null a||null b
 |.rep .plus a=>null a
 |.rep _ _=>ζ
abbrev FS:Tr->Nat->Bool
 |.one n _,p=>p==n
 |.row a b,p=>FS a p||(null a&&FS b p)
 |.or a b,p=>FS a p||FS b p
 |.rep _ a,p=>FS a p
abbrev FSR:List Tr->Nat->Bool
 |[],_=>ϑ
 |t::K,p=>FS t p||(null t&&FSR K p)
abbrev IN:Tr->Nat->Bool
 |.one n _,p=>p==n
 |.row a b,p=>IN a p||IN b p
 |.or a b,p=>IN a p||IN b p
 |.rep _ a,p=>IN a p
abbrev sgn:Tr->Nat->List Nat
 |.one _ l,_=>l
 |.row a b,p=>if IN a p then sgn a p else sgn b p
 |.or a b,p=>if IN a p then sgn a p else sgn b p
 |.rep _ a,p=>sgn a p
abbrev more:Mk->Tr->List Tr
 |.may,_=>[]
 |_,a=>[.rep .star a]
abbrev cont:Tr->Nat->List Tr
 |.one _ _,_=>[]
 |.row a b,p=>if IN a p then cont a p++[b] else cont b p
 |.or a b,p=>if IN a p then cont a p else cont b p
 |.rep m a,p=>cont a p++more m a
abbrev ct(t:Tr)(p:Nat):List Tr:=if p=0 then [t] else cont t p
end
abbrev stp(t:Tr)(c:Nat)(H:Nat->Prop):Nat->Prop:=λp=>∃q,H q/\FSR (ct t q) p=ζ/\c∈sgn t p
abbrev hs(t:Tr)(w:List Nat):Nat->Prop:=w.foldl (λH c=>stp t c H) (λp=>p=0)
section
variable{S:bE}{Q:KU}{a b p:Nat}
def Ct:kj .bor (.int (a:Nat)) (.int (b:Nat)) S Q=Q (.int ((a|||b:Nat):Int)) S:=by
 rw[PJ,eq_true (show(0:Int)<=a/\(0:Int)<=b from #[∅,∅]),true_and];rfl
def tZ:kj .band (.int (a:Nat)) (.int (b:Nat)) S Q=Q (.int ((a&&&b:Nat):Int)) S:=by
 rw[LS,eq_true (show(0:Int)<=a/\(0:Int)<=b from #[∅,∅]),true_and];rfl
def W9:kj .band (.int (a:Nat)) (.int 1) S Q=Q (.int ((a&&&1:Nat):Int)) S:=tZ (b:=1)
def Rf:kj .shl (.int 1) (.int (p:Nat)) S Q=(p<=1000/\Q (.int ((1<<<p:Nat):Int)) S):=by
 rw[PK]
 have e:(1:Int)*(2:Int)^((p:Int).toNat)=((1<<<p:Nat):Int):=by
  rw[tJ];simp
 rw[e]
 erw[propext #[λh=>#[∅,h.2],λh=>#[∅,h.2]]]
def Zj:kj .shr (.int (a:Nat)) (.int (p:Nat)) S Q=Q (.int ((a>>>p:Nat):Int)) S:=by
 rw[PM,eq_true (show(0:Int)<=a/\(0:Int)<=p from #[∅,∅]),true_and]
 have e:(a:Int)/(2:Int)^((p:Int).toNat)=((a>>>p:Nat):Int):=by
  rw[Nat.shiftRight_eq_div_pow];simp
 rw[e]
def aaJ:sk .sum [.loc n] S Q=(∃is:List Int,S[n]?=ξ (.lst (is.map .int))/\Q (.int is.sum) S):=rfl
end
def Vk:(((a>>>p&&&1:Nat):Int) !=0)=a.testBit p:=by
 unfold Nat.testBit;rw[Nat.and_comm]
 by_cases h:1&&&a>>>p=0
 .simp[h]
 .have:¬(((1&&&a>>>p:Nat):Int)=0):=∅
  rw[bne_iff_ne.mpr this,bne_iff_ne.mpr h]
def zm{a:Nat}:((a:Int) !=0)=ζ↔∃p,a.testBit p=ζ:=by
 constructor
 .intro h
  have:a≠0:=by
   have:=bne_iff_ne.mp h;omega
  erw[vR this]
 .rintro⟨p,h⟩
  rwa[bne_iff_ne.mpr λz=>?_]
  have:a=0:=∅
  subst this;simp at h
def Rg(h:b.testBit p=ζ):p<sY b:=by
 have g:=Nat.ge_two_pow_of_testBit h;have b0:b≠0:=by
  have:0<2^p:=Nat.two_pow_pos p;omega
 unfold sY;rw[if_neg b0]
 have:=(Nat.le_log2 b0).mpr g;omega
def bits_le(h:b<2^n):sY b<=n:=by
 unfold sY;split
 .omega
 .rename_i z
  have:=(Nat.log2_lt z).mpr h;omega
def jz(h:∀p,b.testBit p=ζ->p<n):b<2^n:=KJ λz=>by
 let#[i,hi,ti]:=Nat.exists_ge_and_testBit_of_ge_two_pow z;have:=h i ti;omega
abbrev CY(b:Nat):List Nat:=(b9 (sY b)).filter b.testBit
def lu:p∈CY b↔b.testBit p=ζ:=by
 unfold CY;rw[fZ,pM]
 exact#[λh=>h.2,λh=>#[Rg h,h]]
noncomputable abbrev aO(n:Nat):U:=.int (n:Nat)
def fR(l:List U)(I:Nat->List U->bE->Prop)(hg:∀i acc S,i<=l.length->I i acc S->g S/\acc.length<1000000)
  (h:∀i u acc S(k:List U->bE->Prop),l[i]?=ξ u->I i acc S->(∀acc' S',I (i+1) acc' S'->k acc' S')->c u S λb S1=>if b=ζ then e u S1 λv S2=>k (acc++[v]) S2 else k acc S1) (hf:∀acc S,I l.length acc S->Q acc S){S:bE} (h0:I 0 [] S):lM g c e Q l [] S:=by
 have key:∀n i acc S,i+n=l.length->I i acc S->lM g c e Q (l.drop i) acc S:=by
  intro n;induction n with
  |zero=>
   intro i acc S e hi;rw[Bq ∅]
   have ei:i=l.length:=∅
   subst ei;exact#[(hg _ _ _ (ar _) hi).1,(hg _ _ _ (ar _) hi).2,hf _ _ hi]
  |succ n ih=>
   intro i acc S e hi;have hl:i<l.length:=∅
   rw[b8 hl]
   exact#[(hg _ _ _ ∅ hi).1,(hg _ _ _ ∅ hi).2,h i _ acc S _ (af hl) hi λacc' S' h'=>ih (i+1) acc' S' ∅ h']
 erw[key l.length 0 [] S ∅ h0]
def xZ(l:List U)(p:U->Bool)(f:U->U)(hg:g S)(hl:l.length<1000000)
  (h:∀u k,u∈l->((p u=ζ->k ζ S)/\(p u=ϑ->k ϑ S)->c u S k)) (he:∀u k,u∈l->p u=ζ->k (f u) S->e u S k) (q:Q ((l.filter p).map f) S):lM g c e Q l [] S:=by
 rwa[fR l (λi acc S'=>S'=S/\acc=((l.take i).filter p).map f) (λi acc S' hi h=>#[h.1▸hg,?_]) (λi u acc S' k hu hi hk=>?_) (λacc S' h=>?_) #[rfl,rfl]]
 .rw[h.2,ah]
  have:=BM p (l.take i);rw[b3] at this;omega
 .let#[rfl,rfl]:=hi
  have hm:=ax hu;have et:l.take (i+1)=l.take i++[u]:=by rw[sR,hu];rfl
  rwa[h u _ hm #[λz=>?_,λz=>?_]]
  .rw[if_pos rfl]
   erw[he u _ hm z (hk _ _ #[rfl,by rw[et,Gh,aN,List.filter_cons_of_pos z];rfl])]
  .rw[if_neg (#v[])]
   erw[hk _ _ #[rfl,by rw[et,Gh,List.filter_cons_of_neg (by simp[z])];simp]]
 .let#[rfl,rfl]:=h
  rw[cC];erw[q]
def fY{α β:Type}{l:List α}{f:α->β}{i:Nat}{u:β}(h:(l.map f)[i]?=ξ u):∃a,l[i]?=ξ a/\f a=u:=by
 rw[aE] at h;erw[aj.mp h]
def MY{α:Type}{l:List α}{i:Nat}{a:α}(h:l[i]?=ξ a):l.take (i+1)=l.take i++[a]:=by rw[sR,h];rfl
def _root_.Lake.PL.Ext.st{S S':bE}{n:Nat}{o:SO}(x:Ext S S')(h:S.length<=n):Ext S (S'.set n o):=
 #[%[bR|x.1],λk hk=>%[ai (cw (au hk h))|x.2 k hk]]
end PL.rH
open PL.rH
namespace PL.rH
abbrev AY:Spec:=λus S Q _=>∃b:Nat,us=[aO b]/\b<2^100/\∀n S',Ext S S'->S.length<=n->S'[n]?=ξ (.lst ((CY b).map aO))->Q (.loc n) S'
def Rh(Γ:bU):Keeps Γ o6 0 AY:=by
 rintro us S Q E ⟨b,rfl,hb,q⟩;unfold o6;room;have hl:=bits_le hb;refine#[∅,∅,∅,?_];refine xZ (S:=S) _ (λu=>match u with|.int i=>b.testBit i.toNat|_=>ϑ) id trivial ((·)) (λu k hu h=>?_) (λu k _ _ h=>h) ?_
 .let#[p,_,rfl]:=bO.mp hu
  room;rw[Vk]
  cases z:b.testBit p with
  |true=>erw[h.1 z]
  |false=>erw[h.2 z]
 .rwa[q _ _ (Ext.app _) (ar _) ?_]
  have:((b9 (sY b)).map λk=>U.int (k:Nat)).filter (λu=>match u with|.int i=>b.testBit i.toNat|_=>ϑ)=(CY b).map aO:=by
   rw[List.filter_map];rfl
  rw[List.map_id,this];simp
abbrev Gm(e:Bool)(F Z:Nat):SO:=.ins "Part" [("empty",.bl e),("firsts",aO F),("lasts",aO Z)]
section
variable{S:bE}{p F Z:Nat}{e:Bool}{r:U->Prop}(h:S[p]?=ξ (Gm e F Z))
include h
def FU:nJ (.loc p) "empty" S r=r (.bl e):=by rw[iB,h];rfl
def AZ:nJ (.loc p) "firsts" S r=r (aO F):=by rw[iB,h];rfl
def A0:nJ (.loc p) "lasts" S r=r (aO Z):=by rw[iB,h];rfl
end
abbrev zo:Spec:=λus S Q _=>∃p e F Z,us=[.loc p,.bl e,aO F,aO Z]/\S[p]?=ξ (.ins "Part" [])/\Q .bK (S.set p (Gm e F Z))
def Vl(Γ:bU):Keeps Γ lP 0 zo:=by
 rintro us S Q E ⟨p,e,F,Z,rfl,h,q⟩;unfold lP;room;rw[h]
 dsimp[bT];refine#[#v[],?_];have g1:=gs (o':=SO.ins "Part" (gO "empty" (U.bl e) [])) h;room;rw[g1]
 dsimp[bT];refine#[by simp[gO],?_];have g2:=gs (o':=SO.ins "Part" (gO "firsts" (aO F) (gO "empty" (U.bl e) []))) g1;room;rw[g2]
 dsimp[bT];refine#[by simp[gO],?_];room;rw[nV,nV]
 erw[q]
def pV{Γ:bU}(h1:Γ "Part.__init__"=zo){e:Bool}{F Z:Nat}{S:bE}{R:KU}{E:KX}(q:∀S',Ext S S'->S'[S.length]?=ξ (Gm e F Z)->R .bK S'):
  Γ "Part.__init__" [.loc S.length,.bl e,aO F,aO Z] (S++[.ins "Part" []]) R E:=by
 have g:(S++[SO.ins "Part" []])[S.length]?=ξ (.ins "Part" []):=by simp
 rwa[ca h1 #[S.length,e,F,Z,rfl,g,q _ #[#v[],λn hn=>?_] (gs g)]];rw[ai ∅,aq hn]
abbrev oE(f:Bool->Nat->Nat->Bool->Nat->Nat->Bool×Nat×Nat):Spec:=λus S Q _=>∃p1 e1 F1 Z1 p2 e2 F2 Z2,us=[.loc p1,.loc p2]/\S[p1]?=ξ (Gm e1 F1 Z1)/\S[p2]?=ξ (Gm e2 F2 Z2) /\
 ∀S',Ext S S'->S'[S.length]?=ξ (Gm (f e1 F1 Z1 e2 F2 Z2).1 (f e1 F1 Z1 e2 F2 Z2).2.1 (f e1 F1 Z1 e2 F2 Z2).2.2)->Q (.loc S.length) S'
abbrev FV(e1:Bool)(F1 Z1:Nat)(e2:Bool)(F2 Z2:Nat):Bool×Nat×Nat:=(e1&&e2,if e1 then F1|||F2 else F1,if e2 then Z1|||Z2 else Z2)
abbrev Xa(e1:Bool)(F1 Z1:Nat)(e2:Bool)(F2 Z2:Nat):Bool×Nat×Nat:=(e1||e2,F1|||F2,Z1|||Z2)
def Ri(Γ:bU)(h1:Γ "Part.__init__"=zo):Keeps Γ fG 2 (oE FV):=by
 rintro us S Q E ⟨p1,e1,F1,Z1,p2,e2,F2,Z2,rfl,g1,g2,q⟩;unfold fG;room;cases e1<;>cases e2<;>(repeat first|room|dsimp[FU g1,FU g2,AZ g1,AZ g2,A0 g1,A0 g2])
 .erw[pV h1 λS' x g=>#[rfl,q S' x g]]
 .erw[pV h1 λS' x g=>#[rfl,q S' x g]]
 .erw[pV h1 λS' x g=>#[rfl,q S' x g]]
 .erw[pV h1 λS' x g=>#[rfl,q S' x g]]
def Vm(Γ:bU)(h1:Γ "Part.__init__"=zo):Keeps Γ jc 0 (oE Xa):=by
 rintro us S Q E ⟨p1,e1,F1,Z1,p2,e2,F2,Z2,rfl,g1,g2,q⟩;unfold jc;cases e1<;>(repeat first|room|dsimp[FU g1,FU g2,AZ g1,AZ g2,A0 g1,A0 g2])
 .erw[pV h1 λS' x g=>#[rfl,q S' x g]]
 .erw[pV h1 λS' x g=>#[rfl,q S' x g]]
structure qp(S:bE)(L:Nat)(sg:List (List Nat))(bh en:List Nat):Prop where
 o:S[L]?=ξ (.ins "Layout" [("signs",.loc (L+1)),("behind",.loc (L+2)),("ends",.loc (L+3))])
 s:S[L+1]?=ξ (.lst (sg.map .str))
 b:S[L+2]?=ξ (.lst (bh.map aO))
 e:S[L+3]?=ξ (.lst (en.map aO))
abbrev Fr(L:Nat)(S S':bE):Prop:=S.length<=S'.length/\∀n,n<S.length->n<=L\/L+4<=n->S'[n]?=S[n]?
section
variable{S S1 S2:bE}{L:Nat}{sg:List (List Nat)}{bh en:List Nat}{r:U->Prop}{q:KU}
def Fr.refl:Fr L S S:=#[ar _,λ_ _ _=>rfl]
def Fr.trans(a:Fr L S S1)(b:Fr L S1 S2):Fr L S S2:=#[aP a.1 b.1,λn h z=>(b.2 n (au h a.1) z).trans (a.2 n h z)]
def Ext.fr(a:Ext S S1):Fr L S S1:=#[a.1,λn h _=>a.2 n h]
def Fr.get(a:Fr L S S1){n:Nat}{o:SO}(h:S[n]?=ξ o)(z:L+4<=n):S1[n]?=ξ o:=(a.2 n (a4 h) (.inr z)).trans h
def Fr.set(a:Fr L S S1){n:Nat}{o:SO}(h1:L<n)(h2:n<L+4):Fr L S (S1.set n o):=#[%[bR|a.1],λm h z=>%[ai ∅|a.2 m h z]]
variable(h:qp S L sg bh en)
include h
def qp.ext(x:Ext S S1):qp S1 L sg bh en:=#[x.get h.o,x.get h.s,x.get h.b,x.get h.e]
def qp.len:L+4<=S.length:=a4 h.e
def Jl:nJ (.loc L) "signs" S r=r (.loc (L+1)):=by rw[iB,h.o];rfl
def Jm:nJ (.loc L) "behind" S r=r (.loc (L+2)):=by rw[iB,h.o];rfl
def Rj:nJ (.loc L) "ends" S r=r (.loc (L+3)):=by rw[iB,h.o];rfl
def qp.Zk:qp (S.set (L+1) (.lst (sg'.map .str))) L sg' bh en:=
 #[%[ai ∅|h.o],gs h.s,%[ai ∅|h.b],%[ai ∅|h.e]]
def qp.setB:qp (S.set (L+2) (.lst (bh'.map aO))) L sg bh' en:=
 #[%[ai ∅|h.o],%[ai ∅|h.s],gs h.b,%[ai ∅|h.e]]
def qp.Zl:qp (S.set (L+3) (.lst (en'.map aO))) L sg bh en':=
 #[%[ai ∅|h.o],%[ai ∅|h.s],%[ai ∅|h.b],gs h.e]
end
abbrev Rk:Spec:=λus S Q _=>∃L,us=[.loc L]/\S[L]?=ξ (.ins "Layout" [])/\S.length=L+1/\∀S',(∀n,n<L->S'[n]?=S[n]?)->qp S' L [[]] [0] []->Q .bK S'
def Vn(Γ:bU):Keeps Γ jH 0 Rk:=by
 rintro us S Q E ⟨L,rfl,h,hl,q⟩;unfold jH;room;refine#[#v[],?_];have g0:(S++[SO.lst [U.str []]])[L]?=ξ (.ins "Layout" []):=%[aq ∅|h]
 rw[g0]
 dsimp[bT];refine#[#v[],?_];have g1:=gs (o':=SO.ins "Layout" (gO "signs" (U.loc S.length) [])) g0;room;refine#[#v[],?_];rw[aq ((·)),g1]
 dsimp[bT];refine#[by simp[gO],?_];room;refine#[#v[],?_];rw[aq ((·)),gs (%[aq ((·))|g1])]
 dsimp[bT];refine#[by simp[gO],?_];room;rwa[q _ (λn hn=>?_) #[?_,?_,?_,?_]]
 .simp[j9,jt,hl,cw hn,a8 hn,a8 (a8 hn),a8 (a8 (a8 hn))]
 .rw[ba ((·))]
  simp[gO,hl]
 .rw[ai ∅]
  simp[j9,jt,hl]
 .rw[ai ∅]
  simp[j9,jt,hl]
 .rw[ai ∅]
  simp[j9,jt,hl]
abbrev Rn:Spec:=λus S Q _=>∃L sg bh en,us=[.loc L]/\qp S L sg bh en/\sg.length<=1000/\Q (.int (sg.length-1:Int)) S
def Vo(Γ:bU):Keeps Γ gc 0 Rn:=by
 rintro us S Q E ⟨L,sg,bh,en,rfl,h,hl,q⟩;unfold gc;room;rw[Jl h,jO h.s]
 dsimp[bq,ah];exact#[∅,q]
def ui{l:List Nat}{k B:Nat}{r:U->Prop}(h:l[k]?=ξ B)(z:r (aO B)):opt ((l.map aO)[k]?) r:=by
 rw[aE,h];erw[z]
abbrev Ro:Spec:=λus S Q _=>∃L sg bh en p e F Z B bt,us=[.loc L,.loc p]/\qp S L sg bh en/\bh=B::bt/\S[p]?=ξ (Gm e F Z)/\L+4<=p/\en.length<=1000/\∀S',Fr L S S'->qp S' L sg ((B|||F)::bt) (en++[Z])->Q .bK S'
def Vp(Γ:bU):Keeps Γ eQ 0 Ro:=by
 rintro us S Q E ⟨L,sg,bh,en,p,e,F,Z,B,bt,rfl,h,rfl,hp,pl,hn,q⟩;unfold eQ;room;rw[Jm h]
 room;rw[h.b]
 dsimp[aK];refine#[EM _,?_];dsimp[yy];rwa[ui (B:=B) rfl ?_];rw[AZ hp]
 room;rw[h.b]
 dsimp[aK];refine#[#v[],?_];have h1:=h.setB (bh':=(B|||F)::bt);have e1:(dZ aO (B::bt)).set 0 (U.int ((B|||F:Nat):Int))=dZ aO ((B|||F)::bt):=by simp
 rw[e1]
 have f1:=(Fr.refl (L:=L) (S:=S)).set (n:=L+2) (o:=.lst (dZ aO ((B|||F)::bt))) ∅ ∅;have hp1:=f1.get hp pl;generalize S.set (L+2) (.lst (dZ aO ((B|||F)::bt)))=S1 at h1 f1 hp1;room;rw[Rj h1]
 room;rw[h1.e]
 dsimp[aK];room;rw[A0 hp1]
 refine#[(·),?_];room;have e2:dZ aO en++[aO Z]=dZ aO (en++[Z]):=by simp
 rw[e2]
 erw[q _ (f1.set ∅ ∅) h1.Zl]
abbrev Lnk(Z F:Nat)(bh bh':List Nat):Prop:=bh'.length=bh.length/\∀(q B:Nat),bh[q]?=ξ B->∃B',bh'[q]?=ξ B'/\∀r,B'.testBit r=(B.testBit r||(Z.testBit q&&F.testBit r))
abbrev Jn:Spec:=λus S Q _=>∃L sg bh en Z F,us=[.loc L,aO Z,aO F]/\qp S L sg bh en/\bh.length<=100/\(∀p,Z.testBit p=ζ->p<bh.length)/\∀S' bh',Fr L S S'->qp S' L sg bh' en->Lnk Z F bh bh'->Q .bK S'
def Vq(Γ:bU)(h1:Γ "members"=AY):Keeps Γ jI 1 Jn:=by
 rintro us S Q E ⟨L,sg,bh,en,Z,F,rfl,h,hl,hz,q⟩;unfold jI;room;rwa[ca h1 #[Z,rfl,au (jz hz) (ie ∅ hl),λn S1 x1 hn g1=>?_]];room;rw[g1]
 dsimp[aK];have hln:=h.len;refine eh (λi env S2=>∃bh2 x3,env=[ξ (.loc L),ξ (aO Z),ξ (aO F),x3]/\Fr L S1 S2/\qp S2 L sg bh2 en/\bh2.length=bh.length/\∀(q B:Nat),bh[q]?=ξ B->∃B',bh2[q]?=ξ B'/\∀r,B'.testBit r=(B.testBit r||(decide (q∈(CY Z).take i)&&F.testBit r)))
  (λi env S2 h9=>by let#[_,_,_,f,_]:=h9;erw[f.get g1 ∅]) _ ?_ ?_ #[bh,ψ,rfl,.refl,h.ext x1,rfl,λq B e=>#[B,e,λr=>#v[]]]
 .rintro i u env S2 K hu ⟨bh2,x3,rfl,f2,h2,l2,inv⟩ hK
  let#[p,hp,rfl]:=fY hu;have pz:=lu.mp (ax hp);have pl:=hz p pz;let#[B',e',b']:=inv p _ (af pl);room;rw[Jm h2]
  room;rw[h2.b]
  dsimp[aK];refine#[∅,ui e' ?_];room;rw[h2.b]
  dsimp[aK];refine#[(·),?_];have ee:(dZ aO bh2).set p (U.int ((B'|||F:Nat):Int))=dZ aO (bh2.set p (B'|||F)):=by rw[List.map_set]
  rw[ee]
  room;rwa[hK _ _ #[_,_,rfl,f2.set ∅ ∅,h2.setB,by simp[l2],λq B e=>?_]];have et:=MY hp;rw[et]
  by_cases z:q=p
  .subst z
   rw[af pl] at e;injection e with e;subst e
   refine#[B'|||F,by rw[ba ∅],λr=>?_];rw[fw,b']
   dsimp[aT,aX,or_true,decide_true,Bool.true_and];cases bh[q].testBit r<;>cases F.testBit r<;>simp
  .let#[B2,e2,b2]:=inv q B e
   refine#[B2,%[ai (bI z)|e2],λr=>?_];rw[b2]
   simp[z]
 .rintro env S2 ⟨bh2,x3,rfl,f2,h2,l2,inv⟩
  room;rwa[q _ _ (Ext.fr x1 |>.trans f2) h2 #[l2,λq B e=>?_]];let#[B',e',b']:=inv q B e;refine#[B',e',λr=>?_];rw[b',ah,cC]
  congr 2
  by_cases z:Z.testBit q=ζ
  .rw[z];erw[decide_eq_true (lu.mpr z)]
  .rw[Kf _ |>.mp z];erw[decide_eq_false λm=>z (lu.mp m)]
def uj:(1<<<n).testBit p=(p==n):=by
 rw[tJ,Nat.testBit_two_pow]
 by_cases z:n=p
 .subst z;simp
 .rw[decide_eq_false z]
  have:¬p=n:=λe=>z e.symm
  simp[this]
abbrev Vr:dj:=#v[.set 4 (.cB "Layout" "lay" "Layout.lay" @0 #v[@3]),.ex (.cB "Layout" "link" "Layout.link" @0 #v[.fld @2 "lasts",.fld @4 "firsts"]),.set 2 (.call "one_behind_other" #v[@2,@4])]
def in3:sf (.str k) [.str iW,.str nF,.str fX] q=q (iW==k||(nF==k||fX==k)):=by
 have:=anyS (a:=k) (l:=[iW,nF,fX]) (q:=q);simpa using this
abbrev Xb:dj:=#v[.set 5 (.or (.fld @4 "empty") (.or (.cmp .isin ↑[115,116,97,114] @2) (.cmp .isin ↑[109,97,121,98,101] @2))),.ret (.mk "Part" "Part.__init__" #v[@5,.fld @4 "firsts",.fld @4 "lasts"])]
abbrev Zm:dj:=#v[.ex (.cB "Layout" "link" "Layout.link" @0 #v[.fld @4 "lasts",.fld @4 "firsts"])]
abbrev pR2:dj:=(.cons (.set 4 (.cB "Layout" "lay" "Layout.lay" @0 #v[@3])) (.cons (.ifs (.or (.de (.cmp .isin ↑[115,116,97,114] @2)) (.de (.cmp .isin ↑[112,108,117,115] @2))) Zm .nil) Xb))
section
variable{Γ:bU}{D:Ends}{env:Env}{S:bE}{i:Nat}{k k':List Nat}{x:U}{a b ss:dj}
def Rr(h:env[i]?=ξ (ξ (.tup [.str k,x])))(e:(k==k')=ζ)(q:Rest Γ a #[λen S1=>Rest Γ ss D en S1,D.rt,D.ex] env S):Rest Γ (.cons (.ifs (.de (.cmp .eq (.ix (.var i) ↑0) (.lit (.str k')))) a b) ss) D env S:=by
 room;rw[h]
 dsimp[xE,sZ,FC,bq,NX,Uu,e,if_true];exact#[#v[],q]
def Rt(h:env[i]?=ξ (ξ (.tup [.str k,x])))(e:(k==k')=ϑ)(q:Rest Γ ss D env S):Rest Γ (.cons (.ifs (.de (.cmp .eq (.ix (.var i) ↑0) (.lit (.str k')))) a .nil) ss) D env S:=by
 room;rw[h]
 dsimp[xE,sZ,FC,bq,NX,Uu,e,aD,if_false];exact#[#v[],q]
end
abbrev oF(f:List Nat->Bool)(sg:List (List Nat))(p:Nat):Bool:=((sg[p]?).map f).getD ϑ
def x9(f:List Nat->Bool)(sg:List (List Nat))(hg:g S)(hl:sg.length<=100)
  (hc:∀(i:Nat)l k,k (f l) S->c (.tup [aO i,.str l]) S k) (he:∀(i:Nat)l k,i<=100->k (aO (1<<<i)) S->e (.tup [aO i,.str l]) S k)
  (q:∀(is:List Int)(b:Nat),is.sum=b->(∀p,b.testBit p=oF f sg p)->Q (is.map .int) S):lM g c e Q ((sg.map U.str).mapIdx λi u=>.tup [.int (i:Nat),u]) [] S:=by
 rwa[fR _ (λi acc S'=>S'=S/\∃(is:List Int)(b:Nat),acc=is.map .int/\is.sum=b/\b<2^i/\is.length<=i/\∀p,b.testBit p=(decide (p<i)&&oF f sg p)) (λi acc S' hi h=>?_) (λi u acc S' k hu hi hk=>?_) (λacc S' h=>?_) #[rfl,[],0,rfl,rfl,#v[],#v[],#v[]]]
 .let#[rfl,is,b,rfl,_,_,hl',_]:=h
  simp at hi;exact#[hg,(·)]
 .let#[rfl,is,b,rfl,h1,h2,h3,h4]:=hi
  dsimp[dA,aE] at hu;cases es:sg[i]? with
  |none=>rw[es] at hu;simp at hu
  |some l=>
   rw[es] at hu;dsimp[j8,pE] at hu;subst hu;have il:=(ag.mp es).1;have hi:oF f sg i=f l:=by unfold oF;rw[es];rfl
   rwa[hc i l _ ?_];cases z:f l with
   |false=>
    rw[if_neg (#v[])]
    rwa[hk _ _ #[rfl,is,b,rfl,h1,by rw[BN];omega,∅,λp=>?_]];rw[h4]
    by_cases zp:p=i
    .subst zp;simp[hi,z]
    .have:(p<i)↔(p<i+1):=∅
     dsimp[this]
   |true=>
    rw[if_pos rfl]
    rwa[he i l _ ∅ (hk _ _ #[rfl,is++[((1<<<i:Nat):Int)],2^i+b,#v[],?_,by rw[BN];omega,(·),λp=>?_])]
    .rw[List.sum_append,h1,tJ];simp;omega
    .by_cases zp:p=i
     .subst zp
      rw[Nat.testBit_two_pow_add_eq,BO h2];simp[hi,z]
     .by_cases zl:p<i
      .rw[Nat.testBit_two_pow_add_gt zl,h4]
       simp[zl,a8 zl]
      .rw[BO (au (show 2^i+b<2^(i+1) by rw[BN];omega) (ie ∅ ∅))]
       have:¬p<i+1:=∅
       simp[this]
 .let#[rfl,is,b,rfl,h1,_,_,h4]:=h
  rwa[q is b h1 λp=>?_]
  rw[h4]
  dsimp[i5,ah];by_cases z:p<sg.length
  .simp[z]
  .unfold oF
   rw[dm ∅];simp
def A2(h:oF f sg p=ζ):∃l,sg[p]?=ξ l/\f l=ζ:=by
 unfold oF at h;cases e:sg[p]? with
 |none=>rw[e] at h;simp at h
 |some l=>rw[e] at h;exact#[l,rfl,h]
abbrev Ob:Spec:=λus S Q _=>∃L sg bh en c,us=[.loc L,.str [c]]/\qp S L sg bh en/\sg.length<=100/\∀(b:Nat)S',Ext S S'->(∀p,b.testBit p=oF (·.contains c) sg p)->Q (aO b) S'
def Rv(Γ:bU):Keeps Γ fJ 0 Ob:=by
 rintro us S Q E ⟨L,sg,bh,en,c,rfl,h,hl,q⟩;unfold fJ;room;rw[Jl h]
 room;rw[h.s,aK]
 rwa[x9 (·.contains c) sg h.s hl (λi l k z=>?_) (λi l k hi z=>?_) λis b e hb=>?_]
 .room
  erw[z]
 .room
  exact#[∅,z]
 .exact#[is,#v[],%[e|q b _ (Ext.app _) hb]]
abbrev FW(l:List Nat):Bool:=!(l==[])
abbrev xm(sg:List (List Nat))(bh en:List Nat)(P:Nat->Prop):Prop:=(∀(Z p:Nat),Z∈en->Z.testBit p=ζ->oF FW sg p=ζ->P p)/\∀(q B p:Nat),oF FW sg q=ζ->bh[q]?=ξ B->B.testBit p=ζ->P p->P q
structure Xc(sg:List (List Nat))(bh en:List Nat)(u:Nat):Prop where
 e:∀(Z p:Nat),Z∈en->Z.testBit p=ζ->oF FW sg p=ζ->u.testBit p=ζ
 b:∀(q B p:Nat),oF FW sg q=ζ->bh[q]?=ξ B->B.testBit p=ζ->u.testBit p=ζ->u.testBit q=ζ
 m:∀P,xm sg bh en P->∀p,u.testBit p=ζ->P p
abbrev Vs:Spec:=λus S Q _=>∃L sg bh en,us=[.loc L]/\qp S L sg bh en/\sg.length<=100/\bh.length=sg.length/\∀(u:Nat)S',Ext S S'->Xc sg bh en u->Q (aO u) S'
def Vt(Γ:bU)(h1:Γ "members"=AY):Keeps Γ iJ 5 Vs:=by
 rintro us S Q E ⟨L,sg,bh,en,rfl,h,hl,hb,q⟩;unfold iJ;room;rw[Jl h]
 room;rw[h.s,aK]
 rwa[x9 FW sg h.s hl (λi l k z=>?_) (λi l k hi z=>?_) λis T e hT=>#[is,#v[],?_]]
 .room
  erw[z]
 .room
  exact#[∅,z]
 rw[e]
 have x0:Ext S (S++[SO.lst (is.map U.int)]):=Ext.app _;have h':=h.ext x0;generalize S++[SO.lst (is.map U.int)]=S0 at x0 h';have Tlt:∀p,T.testBit p=ζ->p<sg.length:=λp hp=>by
  rw[hT] at hp;let#[l,e,_]:=A2 hp;exact(ag.mp e).1
 have Tl:T<2^sg.length:=jz Tlt;room;rw[Rj h']
 room;rw[h'.e,aK]
 refine eh (λi env S2=>S2=S0/\∃(gr:Nat)(x3:Option U),env=[ξ (.loc L),ξ (aO T),ξ (aO gr),x3,ψ,ψ]/\gr<2^sg.length/\(∀(Z p:Nat),Z∈en.take i->Z.testBit p=ζ->T.testBit p=ζ->gr.testBit p=ζ)/\∀P,xm sg bh en P->∀p,gr.testBit p=ζ->P p) (λi env S2 z=>z.1▸h'.e) _ ?_ ?_ #[rfl,0,ψ,rfl,Nat.two_pow_pos _,#v[],λP _ p z=>by simp at z]
 .rintro i u env S2 K hu ⟨rfl,gr,x3,rfl,hgr,inv,only⟩ hK
  let#[Z,hZ,rfl]:=fY hu;room;have et:=MY hZ;rwa[hK _ _ #[rfl,gr|||(Z&&&T),_,rfl,Kg hgr (jz λp hp=>?_),λZ' p m h1 h2=>?_,λP cl p hp=>?_]]
  .rw[cg,aw] at hp;erw[Tlt p hp.2]
  .rw[et] at m
   rw[fw,cg]
   rcases aT.mp m with m|m
   .rw[inv Z' p m h1 h2];rfl
   .simp at m;subst m;rw[h1,h2];simp
  .rw[fw,cg,cX,aw] at hp
   rcases hp with hp|⟨z1,z2⟩
   .erw[only P cl p hp]
   .erw[cl.1 Z p (ax hZ) z1 (by rw[<-hT];exact z2)]
 .rintro env S2 ⟨rfl,gr,x3,rfl,hgr,inv,only⟩
  room;rw[ah,cC] at inv;have out:∀{S3:bE}{u:Nat},Ext S S3->(∀p,gr.testBit p=ζ->u.testBit p=ζ)->(∀(q B p:Nat),T.testBit q=ζ->bh[q]?=ξ B->B.testBit p=ζ->u.testBit p=ζ->u.testBit q=ζ)->(∀P,xm sg bh en P->∀p,u.testBit p=ζ->P p)->Q (aO u) S3:=λx3 a b c=>
   q _ _ x3 #[λZ p m z1 z2=>a p (inv Z p m z1 (%[hT|z2])),λq B p z1=>b q B p (%[hT|z1]),c]
  refine#[2^sg.length+1,pd (λn env S3=>∃(g2 u:Nat)(x3 x5:Option U),n=2^sg.length-u/\env=[ξ (.loc L),ξ (aO T),ξ (aO g2),x3,ξ (aO u),x5]/\Ext S S3/\qp S3 L sg bh en/\u<=g2/\g2<2^sg.length/\(∀p,gr.testBit p=ζ->g2.testBit p=ζ) /\
   (∀(q B p:Nat),T.testBit q=ζ->bh[q]?=ξ B->B.testBit p=ζ->u.testBit p=ζ->g2.testBit q=ζ)/\∀P,xm sg bh en P->∀p,g2.testBit p=ζ->P p) ?_ _ (2^sg.length) _ _ ∅ #[gr,0,x3,ψ,∅,rfl,x0,h',∅,hgr,λ_ z=>z,λq B p _ _ _ z=>by simp at z,only]]
  rintro n env S3 K ⟨g2,u,x3,x5,rfl,rfl,x3',h3,hu,hg,ia,ib,ic⟩ hK;room;by_cases z:g2=u
  .subst z
   dsimp[beq_self_eq_true,b5,aD,if_false];room;erw[out x3' ia ib ic]
  .have:((g2:Int)== (u:Int))=ϑ:=by
    rw[beq_eq_false_iff_ne];omega
   dsimp[this,cU,if_true];room;rwa[ca h1 #[T,rfl,au Tl (ie ∅ hl),λm S4 x4 hm g4=>?_]];room;rw[g4,aK]
   have h4:=h3.ext x4;refine eh (λi env S5=>S5=S4/\∃(g3:Nat)(x5:Option U),env=[ξ (.loc L),ξ (aO T),ξ (aO g3),x3,ξ (aO g2),x5]/\g2<=g3/\g3<2^sg.length/\(∀p,g2.testBit p=ζ->g3.testBit p=ζ) /\
    (∀(q B p:Nat),q∈(CY T).take i->bh[q]?=ξ B->B.testBit p=ζ->g2.testBit p=ζ->g3.testBit q=ζ)/\∀P,xm sg bh en P->∀p,g3.testBit p=ζ->P p) (λi env S5 z=>z.1▸g4) _ ?_ ?_ #[rfl,g2,x5,rfl,ar _,hg,λ_ z=>z,#v[],ic]
   .rintro i v env S5 K' hv ⟨rfl,g3,x5,rfl,j1,j2,j3,j4,j5⟩ hK'
    let#[p,hp,rfl]:=fY hv;have pT:=lu.mp (ax hp);have pl:=Tlt p pT;have et:=MY hp;room;rw[Jm h4]
    room;rw[h4.b,aK,jb]
    rwa[ui (af ∅) ?_];room;by_cases w:(((bh[p]'∅&&&g2:Nat):Int) !=0)=ζ
    .rw[if_pos w]
     room;refine#[∅,?_];try room
     rwa[hK' _ _ #[rfl,g3|||1<<<p,_,rfl,aP j1 Nat.left_le_or,Kg j2 (jz λr hr=>?_),λr hr=>by rw[fw,j3 r hr];rfl,λq B r m e1 e2 e3=>?_,λP cl r hr=>?_]]
     .rw[uj] at hr;have:=eq_of_beq hr;omega
     .rw[et] at m
      rw[fw,uj]
      rcases aT.mp m with m|m
      .rw[j4 q B r m e1 e2 e3];rfl
      .simp at m;subst m;simp
     .rw[fw,uj,cX] at hr
      rcases hr with hr|hr
      .erw[j5 P cl r hr]
      .have:=eq_of_beq hr
       subst this;let#[s,hs]:=zm.mp w;rw[cg,aw] at hs;erw[cl.2 _ _ s (by rw[<-hT];exact pT) (af ∅) hs.1 (ic P cl s hs.2)]
    .rw[if_neg w]
     room;rwa[hK' _ _ #[rfl,g3,_,rfl,j1,j2,j3,λq B r m e1 e2 e3=>?_,j5]];rw[et] at m;rcases aT.mp m with m|m
     .erw[j4 q B r m e1 e2 e3]
     .simp at m;subst m
      rwa[absurd (zm.mpr #[r,?_]) w];rw[af ∅] at e1;injection e1 with e1
      rw[e1,cg,e2,e3];rfl
   .rintro env S5 ⟨rfl,g3,x5,rfl,j1,j2,j3,j4,j5⟩
    rw[ah,cC] at j4;room;erw[hK (2^sg.length-g2) _ _ ∅ #[g3,g2,_,_,rfl,rfl,x3'.trans x4,h4,j1,j2,λp hp=>j3 p (ia p hp),λq B p z1=>j4 q B p (lu.mpr z1),j5]]
abbrev lz(f:List Nat->Bool):List (List Nat)->Nat
 |[]=>0
 |l::r=>(if f l=ζ then 1 else 0)+2*lz f r
def vH:∀{sg:List (List Nat)}{p:Nat},(lz f sg).testBit p=oF f sg p
 |[],p=>by simp[lz,oF]
 |l::r,0=>by
  unfold lz oF;rw[Nat.testBit_zero]
  cases z:f l<;>simp[z]<;>omega
 |l::r,p+1=>by
  unfold lz;have e:((if f l=ζ then 1 else 0)+2*lz f r)/2=lz f r:=by split<;>omega
  rw[Nat.testBit_succ,e,vH]
  rfl
section
variable{S S1 S2:bE}{r n:Nat}{o:SO}
def nK(a:Old r S S1)(h:S[n]?=ξ o)(ne:n≠r):S1[n]?=ξ o:=(a.2 n (a4 h) ne).trans h
def Vu(a:Old r S S1)(b:Ext S1 S2):Old r S S2:=a.trans (Ext.old b)
def CZ{c f:String}{fs:List (String×U)}{v:U}{K:bE->Prop}(h:S[r]?=ξ (.ins c fs))(hl:fs.length<100)(q:∀S',Old r S S'->S'.length=S.length->S'[r]?=ξ (.ins c (gO f v fs))->K S'):
  qj S[r]? λc fs=>fs.length<100/\K (S.set r (.ins c (gO f v fs))):=by
 rw[h,bT]
 exact#[hl,q _ (lJ.set h).old (#v[]) (gs h)]
end
structure Jo(S:bE)(P:Nat)(bh en:List Nat)(tk:Nat->Nat):Prop where
 o:∃b e k,S[P]?=ξ (.ins "Places" [("behind",.loc b),("ends",.loc e),("takers",.loc k)])/\S[b]?=ξ (.lst (bh.map aO))/\S[e]?=ξ (.lst (en.map aO))/\S[k]?=ξ (.df (SG.map λc=>(.str [c],aO (tk c))))
def Jo.ext{S S':bE}{P:Nat}{bh en:List Nat}{tk:Nat->Nat}(h:Jo S P bh en tk)(x:Ext S S'):Jo S' P bh en tk:=by
 let#[b,e,k,h1,h2,h3,h4]:=h.o;exact#[b,e,k,x.get h1,x.get h2,x.get h3,x.get h4]
abbrev Jp:Spec:=λus S Q _=>∃P L sg bh en,us=[.loc P,.loc L]/\S[P]?=ξ (.ins "Places" [])/\S.length=P+1/\qp S L sg bh en/\sg.length<=100/\bh.length=sg.length/\en.length<=100 /\
 ∀u S',Xc sg bh en u->(∀n,n<P->S'[n]?=S[n]?)->Jo S' P (bh.map (·&&&u)) en (λc=>lz (·.contains c) sg)->Q .bK S'
def Oc:(SG.map λc=>[c]).Nodup:=⋯
def Vv(Γ:bU)(h1:Γ "useful_places"=Vs)(h2:Γ "places_that_take"=Ob):Keeps Γ jJ 1 Jp:=by
 rintro us S Q E ⟨P,L,sg,bh,en,rfl,hP,hs,h,hl,hb,he,q⟩;unfold jJ;have nd:=Oc;generalize hG:SG=G at nd;have gl:G.length=95:=by rw[<-hG];rfl
 room;refine ca h1 #[L,sg,bh,en,rfl,h,hl,hb,λu S1 x1 hu=>?_];have la:=h.ext x1;have hP1:=x1.get hP;have ne:L+4<=P:=by
  have:=h.len;have n0:¬L=P:=λz=>by rw[z] at h;rw[h.o] at hP;simp at hP
  have n1:¬L+1=P:=λz=>by rw[<-z,h.s] at hP;simp at hP
  have n2:¬L+2=P:=λz=>by rw[<-z,h.b] at hP;simp at hP
  have n3:¬L+3=P:=λz=>by rw[<-z,h.e] at hP;simp at hP
  omega
 room;rw[Jm la]
 room;rw[la.b,aK]
 refine xZ (S:=S1) _ (λ_=>ζ) (λv=>match v with|.int i=>aO (i.toNat&&&u)|v=>v) la.b ((·)) (λv k _ z=>z.1 rfl) (λv k hv _ z=>?_) ?_
 .let#[B,_,rfl]:=bO.mp hv
  room;erw[z]
 have e1:(List.filter (λ_=>ζ) (bh.map aO)).map (λv=>match v with|.int i=>aO (i.toNat&&&u)|v=>v)=(bh.map (·&&&u)).map aO:=by
  rw[List.filter_eq_self.mpr (λ_ _=>rfl),bG,bG];rfl
 rw[e1]
 have x2:Ext S1 (S1++[SO.lst ((bh.map (·&&&u)).map aO)]):=Ext.app _;have g2:(S1++[SO.lst ((bh.map (·&&&u)).map aO)])[S1.length]?=ξ (.lst ((bh.map (·&&&u)).map aO)):=by simp
 have n2:S1.length≠P:=by have:=x1.1;omega
 generalize S1.length=b at g2 n2;generalize S1++[SO.lst ((bh.map (·&&&u)).map aO)]=S2 at g2 x2;rwa[CZ (x2.get hP1) (#v[]) λS3 o3 l3 hP3=>?_]
 have la3:qp S3 L sg bh en:=by
  have:=la.ext x2;exact#[nK o3 this.o ∅,nK o3 this.s ∅,nK o3 this.b ∅,nK o3 this.e ∅]
 have g3:=nK o3 g2 n2;have o13:=(Ext.old (r:=P) (x1.trans x2)).trans o3;room;rw[Rj la3]
 room;rw[la3.e,aK]
 have x4:Ext S3 (S3++[SO.lst (en.map aO)]):=Ext.app _;have g4:(S3++[SO.lst (en.map aO)])[S3.length]?=ξ (.lst (en.map aO)):=by simp
 have n4:S3.length≠P:=by have:=o13.1;omega
 generalize S3.length=e at g4 n4;generalize S3++[SO.lst (en.map aO)]=S4 at g4 x4;rwa[CZ (x4.get hP3) (by simp[gO]) λS5 o5 l5 hP5=>?_]
 have la5:qp S5 L sg bh en:=by
  have:=la3.ext x4;exact#[nK o5 this.o ∅,nK o5 this.s ∅,nK o5 this.b ∅,nK o5 this.e ∅]
 have o15:=(Vu o13 x4).trans o5;have g35:=nK o5 (x4.get g3) n2;have g45:=nK o5 g4 n4;room;rwa[fR _ (λi acc S6=>i<=G.length/\Ext S5 S6/\acc=(G.take i).map λc=>.tup [.str [c],aO (lz (·.contains c) sg)]) (λi acc S6 hi z=>#[trivial,?_]) (λi v acc S6 k hv hi hk=>?_) (λacc S6 z=>?_) #[∅,.refl,rfl]]
 .rw[z.2.2];simp;omega
 .let#[_,x6,rfl]:=hi
  let#[c,hc,rfl]:=fY hv;have et:=MY hc;room;rwa[ca h2 #[L,sg,bh,en,c,rfl,la5.ext x6,hl,λb S7 x7 hb=>#[#v[],?_]]];have eb:b=lz (·.contains c) sg:=Nat.eq_of_testBit_eq λp=>by rw[hb,vH]
  subst eb;erw[hk _ _ #[(ag.mp hc).1,x6.trans x7,by rw[et,aN];rfl]]
 let#[_,x6,rfl]:=z;rw[ah,cC]
 refine#[G.map λc=>([c],aO (lz (·.contains c) sg)),by simp[cH],%[bG|nd],?_];rw[bG]
 have x7:Ext S6 (S6++[SO.lst (G.map λc=>.tup [.str [c],aO (lz (·.contains c) sg)])]++[SO.df (G.map ((λp=>(U.str p.1,p.2))∘λc=>([c],aO (lz (·.contains c) sg))))]):=(Ext.app _).trans (Ext.app _);have g7:(S6++[SO.lst (G.map λc=>.tup [.str [c],aO (lz (·.contains c) sg)])]++[SO.df (G.map ((λp=>(U.str p.1,p.2))∘λc=>([c],aO (lz (·.contains c) sg))))])[(S6++[SO.lst (G.map λc=>.tup [.str [c],aO (lz (·.contains c) sg)])]).length]?=ξ (.df (G.map λc=>(.str [c],aO (lz (·.contains c) sg)))):=by
  rw[aB (ar _),bQ];rfl
 have n7:(S6++[SO.lst (G.map λc=>.tup [.str [c],aO (lz (·.contains c) sg)])]).length≠P:=by
  have:=o15.1;have:=x6.1;rw[aC];omega
 generalize (S6++[SO.lst (G.map λc=>.tup [.str [c],aO (lz (·.contains c) sg)])]).length=k at g7 n7;generalize S6++[SO.lst (G.map λc=>.tup [.str [c],aO (lz (·.contains c) sg)])]++[SO.df (G.map ((λp=>(U.str p.1,p.2))∘λc=>([c],aO (lz (·.contains c) sg))))]=S7 at g7 x7;rwa[CZ ((x6.trans x7).get hP5) (by simp[gO]) λS8 o8 l8 hP8=>?_]
 room;subst hG;erw[q u S8 hu (λn hn=>((Vu o15 (x6.trans x7)).trans o8).2 n ∅ ∅) #[b,e,k,hP8,nK o8 ((x6.trans x7).get g35) n2,nK o8 ((x6.trans x7).get g45) n4,nK o8 g7 n7]]
abbrev Zn(bh:List Nat)(h r:Nat):Prop:=∀p,r.testBit p=ζ↔∃q B,h.testBit q=ζ/\bh[q]?=ξ B/\B.testBit p=ζ
abbrev Jq:Spec:=λus S Q _=>∃P bh en tk h,us=[.loc P,aO h]/\Jo S P bh en tk/\bh.length<=100/\(∀p,h.testBit p=ζ->p<bh.length)/\∀r S',Zn bh h r->Ext S S'->Q (aO r) S'
def Vw(Γ:bU)(h1:Γ "members"=AY):Keeps Γ iK 2 Jq:=by
 rintro us S Q E ⟨P,bh,en,tk,h,rfl,pa,hl,hh,q⟩;unfold iK;room;rwa[ca h1 #[h,rfl,au (jz hh) (ie ∅ hl),λn S1 x1 hn g1=>?_]];let#[b,e,k,o,gb,_,_]:=(pa.ext x1).o;have fb:∀{r},nJ (.loc P) "behind" S1 r=r (.loc b):=by intro r;rw[iB,o];rfl
 room;rw[g1,aK]
 rwa[eh (λi env S2=>S2=S1/\∃(r:Nat)(x3:Option U),env=[ξ (.loc P),ξ (aO h),ξ (aO r),x3]/\∀p,r.testBit p=ζ↔∃q B,q∈(CY h).take i/\bh[q]?=ξ B/\B.testBit p=ζ) (λi env S2 z=>z.1▸g1) _ ?_ ?_ #[rfl,0,ψ,rfl,#v[]]]
 .rintro i u env S2 K hu ⟨rfl,r,x3,rfl,inv⟩ hK
  let#[p,hp,rfl]:=fY hu;have pl:=hh p (lu.mp (ax hp));have et:=MY hp;room;rw[fb]
  room;rw[gb,aK,jb]
  rwa[ui (af pl) ?_];room;rwa[hK _ _ #[rfl,_,_,rfl,λp'=>?_]];rw[fw,cX,inv,et]
  constructor
  .rintro(⟨q,B,m,e1,e2⟩|e2)
   .exact#[q,B,eI _ m,e1,e2]
   .exact#[p,_,bb _ (#v[]),af pl,e2]
  .rintro⟨q,B,m,e1,e2⟩
   rcases aT.mp m with m|m
   .erw[.inl #[q,B,m,e1,e2]]
   .simp at m;subst m
    rw[af pl] at e1;injection e1 with e1
    erw[.inr (by rw[e1];exact e2)]
 .rintro env S2 ⟨rfl,r,x3,rfl,inv⟩
  room;rwa[q r _ (λp=>?_) x1];rw[inv,ah,cC]
  dsimp[lu]
abbrev Ov(h:Nat)(en:List Nat)(i:Nat):Prop:=∃Z,en[i]?=ξ Z/\∃p,h.testBit p=ζ/\Nat.testBit Z p=ζ
abbrev uN:Option Nat->U
 |none=>.bK
 |some i=>aO i
abbrev Zo(h:Nat)(en:List Nat):Option Nat->Prop
 |none=>∀i,¬Ov h en i
 |some i=>Ov h en i/\∀i',i'<i->¬Ov h en i'
abbrev Jr:Spec:=λus S Q _=>∃P bh en tk h,us=[.loc P,aO h]/\Jo S P bh en tk/\∀r,Zo h en r->Q (uN r) S
def Vx(Γ:bU):Keeps Γ eU 2 Jr:=by
 rintro us S Q E ⟨P,bh,en,tk,h,rfl,pa,q⟩;unfold eU;let#[b,e,k,o,_,ge,_]:=pa.o;have fe:∀{r},nJ (.loc P) "ends" S r=r (.loc e):=by intro r;rw[iB,o];rfl
 room;rw[fe]
 room;rw[ge,aK]
 rwa[eh (λi env S2=>S2=S/\∃(x2 x3:Option U),env=[ξ (.loc P),ξ (aO h),x2,x3]/\∀i',i'<i->¬Ov h en i') (λi env S2 z=>z.1▸ge) _ ?_ ?_ #[rfl,ψ,ψ,rfl,#v[]]]
 .rintro i u env S2 K hu ⟨rfl,x2,x3,rfl,inv⟩ hK
  dsimp[dA,aE,oO] at hu;let#[Z,hZ,rfl]:=aj.mp hu;dsimp[cH];room;by_cases w:(((h&&&Z:Nat):Int) !=0)=ζ
  .rw[if_pos w]
   room;let#[p,hp]:=zm.mp w;rw[cg,aw] at hp;erw[q (ξ i) #[#[Z,hZ,p,hp.1,hp.2],inv]]
  .rw[if_neg w]
   room;rwa[hK _ _ #[rfl,_,_,rfl,λi' hi=>?_]];by_cases z:i'=i
   .subst z
    rintro⟨Z',e1,p,e2,e3⟩;rw[hZ] at e1;injection e1 with e1;subst e1
    erw[w (zm.mpr #[p,by rw[cg,e2,e3];rfl])]
   .erw[inv i' ∅]
 .rintro env S2 ⟨rfl,x2,x3,rfl,inv⟩
  room;rwa[q ψ λi ov=>?_]
  let#[Z,e1,_]:=ov;exact inv i (by have:=(ag.mp e1).1;simpa using this) #[Z,e1,‹_›]
def pe{g:bE->Prop}{c:U->bE->(Bool->bE->Prop)->Prop}{e:U->bE->KU->Prop}{Q:List U->bE->Prop}{S:bE}(l vs:List U)(hv:vs.length=l.length)(hl:l.length<1000000)(hg:∀S',Ext S S'->g S')(hc:∀u S' k,k ζ S'->c u S' k)
  (he:∀(i:Nat)u v,l[i]?=ξ u->vs[i]?=ξ v->∀S' k,Ext S S'->(∀S2,Ext S' S2->k v S2)->e u S' k) (q:∀S',Ext S S'->Q vs S'):lM g c e Q l [] S:=by
 rwa[fR l (λi acc S'=>Ext S S'/\acc=vs.take i) (λi acc S' hi h=>#[hg _ h.1,?_]) (λi u acc S' k hu hi hk=>?_) (λacc S' h=>?_) #[.refl,rfl]]
 .rw[h.2,b3];omega
 .let#[x,rfl]:=hi
  have il:i<vs.length:=by rw[hv];exact(ag.mp hu).1
  rwa[hc _ _ _ ?_];rw[if_pos rfl]
  rwa[he i u _ hu (af il) S' _ x λS2 x2=>hk _ _ #[x.trans x2,?_]]
  rw[sR,af il];rfl
 .let#[x,rfl]:=h
  rw[<-hv,cC];erw[q S' x]
def C1{α:Type}:∀{l l':List α},l.Nodup->(∀x∈l,x∈l')->l.length<=l'.length
 |[],_,_,_=>by simp
 |a::l,l',nd,h=>by
  let#[s,t,rfl]:=List.append_of_mem (h a (aV ..));rw[eG] at nd;have:=C1 (l':=s++t) nd.2 λx m=>by
   have hx:=h x (ay _ m);dsimp[aT,aW] at hx ⊢;rcases hx with z|z|z
   .erw[.inl z]
   .subst z;erw[absurd m nd.1]
   .erw[.inr z]
  dsimp[aC,a5] at this ⊢;omega
def Er{bh:List Nat}{u q B:Nat}(h:(bh.map (·&&&u))[q]?=ξ B):∃B',bh[q]?=ξ B'/\B=B'&&&u:=by
 rw[aE] at h;let#[B',h1,h2]:=aj.mp h;exact#[B',h1,h2.symm]
end PL.rH
namespace PL.Bw
section
variable{κ:Type}[BEq κ][LawfulBEq κ]
abbrev lK(seen:List κ):List κ->List Nat
 |[]=>[]
 |k::r=>if k∈seen then seen.idxOf k::lK seen r else seen.length::lK (seen++[k]) r
abbrev sn(seen:List κ):List κ->List κ
 |[]=>seen
 |k::r=>sn (if k∈seen then seen else seen++[k]) r
def lV:∀(ks:List κ)(seen:List κ),(lK seen ks).length=ks.length
 |[],_=>rfl
 |k::r,seen=>by unfold lK;split<;>simp[lV r]
def vI:∀(ks:List κ)(seen:List κ),(sn seen ks).length<=seen.length+ks.length
 |[],_=>by simp[sn]
 |k::r,seen=>by
  unfold sn;split
  .have:=vI r seen;simp;omega
  .have:=vI r (seen++[k]);simp at this ⊢;omega
def Js{κ':Type}[BEq κ'][LawfulBEq κ'](f:κ->κ')(hf:∀a b,f a=f b->a=b)(k:κ):∀l:List (κ×U),(l.map λp=>(f p.1,p.2)).lookup (f k)=l.lookup k
 |[]=>rfl
 | (a,v)::r=>by
  rw[aA,aQ,aQ,Js f hf k r]
  by_cases h:k=a
  .subst h;simp
  .rw[show(k==a)=ϑ by simp[h],show(f k==f a)=ϑ from beq_eq_false_iff_ne.mpr λe=>h (hf _ _ e)]
def zq:∀(ks:List κ)(seen:List κ),∃m,sn seen ks=seen++m
 |[],seen=>#[[],by simp[sn]]
 |k::r,seen=>by
  unfold sn;split
  .erw[zq r seen]
  .let#[m,e]:=zq r (seen++[k])
   exact#[k::m,by rw[e];simp]
def Ju:∀(ks:List κ)(seen:List κ),seen.Nodup->(sn seen ks).Nodup
 |[],_,h=>h
 |k::r,seen,h=>by
  unfold sn;split
  .erw[Ju r seen h]
  .rename_i hk
   rwa[Ju r _ ?_];rw[dE]
   exact#[h,#v[],λx hx y hy=>%[aX.mp hy|λe=>hk (e▸hx)]]
def ph{k:κ}{a b:List κ}(h:k∈a):(a++b).idxOf k=a.idxOf k:=by
 rw[ju,if_pos h]
def sC:∀(ks:List κ)(seen:List κ),lK seen ks=ks.map λk=>(sn seen ks).idxOf k
 |[],_=>rfl
 |k::r,seen=>by
  unfold lK sn;split
  .rename_i hk
   let#[m,e]:=zq r seen;rw[aA,sC r seen,e,ph hk]
  .rename_i hk
   let#[m,e]:=zq r (seen++[k]);rw[aA,sC r (seen++[k]),e]
   congr 1
   rw[ph (#v[]),ju,if_neg hk]
   simp
def vJ:∀(ks:List κ)(seen:List κ)(k:κ),k∈sn seen ks↔k∈seen\/k∈ks
 |[],_,_=>by simp[sn]
 |x::r,seen,k=>by
  unfold sn;rw[vJ r]
  split
  .rename_i hk
   constructor
   .rintro(h|h)
    .erw[.inl h]
    .erw[.inr (ay _ h)]
   .rintro(h|h)
    .erw[.inl h]
    .rcases aW.mp h with rfl|h
     .erw[.inl hk]
     .erw[.inr h]
  .simp[or_assoc]
abbrev dz(seen:List κ)(n:Nat):List (κ×U):=(seen.zipIdx n).map λp=>(p.1,aO p.2)
def Jv(a:List κ)(k:κ)(n:Nat):dz (a++[k]) n=dz a n++[(k,aO (n+a.length))]:=by
 unfold dz;rw[List.zipIdx_append,aN];simp
def zr(a:List κ)(n:Nat):(dz a n).length=a.length:=by simp[dz]
def zt:∀(a:List κ)(k:κ)(n:Nat),(dz a n).lookup k=if k∈a then ξ (aO (n+a.idxOf k)) else ψ
 |[],k,n=>rfl
 |x::a,k,n=>by
  have e:dz (x::a) n=(x,aO n)::dz a (n+1):=rfl;rw[e,aQ]
  by_cases h:k=x
  .subst h;simp
  .have h1:(k==x)=ϑ:=by simp[h]
   rw[h1,zt a k (n+1)]
   by_cases hk:k∈a
   .rw[if_pos hk,if_pos (ay _ hk),List.idxOf_cons,show(x==k)=ϑ by simp[bI h]]
    dsimp[cond_false]
    congr 2
    omega
   .rw[if_neg hk,if_neg (by simp[h,hk])]
end
def Rx(o:Option Nat):lY (uN o)=ζ:=by cases o<;>rfl
def Od(a b:Option Nat):NU (uN a) (uN b)=(a==b):=by
 cases a<;>cases b<;>first|rfl|skip
 rename_i x y;show((x:Int)== (y:Int))=(ξ x==ξ y);by_cases h:x=y
 .subst h;simp
 .rw[show((x:Int)== (y:Int))=ϑ from beq_eq_false_iff_ne.mpr λe=>h (oQ e),show(ξ x==ξ y)=ϑ from beq_eq_false_iff_ne.mpr λe=>h (aG e)]
def Jw(k:Option Nat):∀(l:List (Option Nat×U)),se (uN k) (l.map λp=>(uN p.1,p.2))=l.lookup k
 |[]=>rfl
 | (a,v)::r=>by
  rw[aA,aQ]
  unfold se;rw[Od,Jw k r]
  by_cases h:a=k
  .subst h;simp
  .have h1:(a==k)=ϑ:=by simp[h]
   have h2:(k==a)=ϑ:=by simp[bI h]
   rw[h1,h2];rfl
section
variable{κ β:Type}[BEq κ][LawfulBEq κ][BEq β][LawfulBEq β]{ks:List κ}
def MZ{l:List κ}{a b:κ}(ha:a∈l)(h:l.idxOf a=l.idxOf b):a=b:=by
 have la:=cq ha;have e:=i4 la;have lb:l.idxOf b<l.length:=∅
 rw[<-e,<-i4 lb]
 congr 1
def uk{i j:Nat}{a b:κ}(hi:ks[i]?=ξ a)(hj:ks[j]?=ξ b):(lK [] ks)[i]?=(lK [] ks)[j]?↔a=b:=by
 rw[sC,aE,aE,hi,hj]
 constructor
 .intro h
  erw[MZ ((vJ ks [] a).mpr (.inr (ax hi))) (aG h)]
 .intro h;rw[h]
def zu:∀(ks:List κ)(seen:List κ)(i v:Nat),(lK seen ks)[i]?=ξ (v+1)->v<seen.length\/∃p,p<i/\(lK seen ks)[p]?=ξ v
 |[],_,i,v,h=>by simp[lK] at h
 |k::r,seen,0,v,h=>by
  unfold lK at h;split at h
  .rename_i hk
   have:=cq hk;have:seen.idxOf k=v+1:=by simpa using h
   omega
  .have:seen.length=v+1:=by simpa using h
   omega
 |k::r,seen,i+1,v,h=>by
  unfold lK at h ⊢;split at h
  .rename_i hk
   rw[if_pos hk]
   rcases zu r seen i v (~~~h) with z|⟨p,hp,e⟩
   .erw[.inl z]
   .exact .inr #[p+1,∅,~~~e]
  .rename_i hk
   rw[if_neg hk]
   rcases zu r (seen++[k]) i v (~~~h) with z|⟨p,hp,e⟩
   .rw[aC] at z
    by_cases y:v<seen.length
    .erw[.inl y]
    .have:seen.length=v:=by simp at z;omega
     erw[.inr #[0,∅,by simp[this]]]
   .exact .inr #[p+1,∅,~~~e]
def M0(hm:m∈lK [] ks)(h:∀j∈lK [] ks,j<=m):m+1=(sn [] ks).length:=by
 rw[sC] at hm h;let#[k,hk,rfl]:=bO.mp hm;have l1:=cq ((vJ ks [] k).mpr (.inr hk));have ll:(sn [] ks).length-1<(sn [] ks).length:=∅
 have e:=(Ju ks [] (#v[])).idxOf_getElem _ ll;have m2:=(vJ ks [] _).mp (cD ll);have:=h _ (bO.mpr #[_,m2.resolve_left (#v[]),rfl]);rw[e] at this;omega
abbrev Vy(ps:List (κ×β)):Prop:=∀x∈ps,∀y∈ps,x.1=y.1->x.2=y.2
def A3:∀(ps:List (κ×β))(A:List κ)(B:List β),Vy ps->(∀x∈ps,x.1∈A->x.2∈B)->(sn B (ps.map (·.2))).length+A.length<=(sn A (ps.map (·.1))).length+B.length
 |[],A,B,_,_=>by simp[sn];omega
 |x::ps,A,B,hc,hA=>by
  have c':Vy ps:=λy hy z hz=>hc y (ay _ hy) z (ay _ hz)
  rw[aA,aA]
  unfold sn;by_cases h1:x.1∈A
  .have h2:=hA x (aV ..) h1
   rw[if_pos h1,if_pos h2]
   erw[A3 ps A B c' λy hy=>hA y (ay _ hy)]
  .have nx:∀y∈ps,y.1∈A++[x.1]->y.2∈B\/y.2=x.2:=λy hy m=>by
    rcases aT.mp m with m|m
    .erw[.inl (hA y (ay _ hy) m)]
    .exact .inr (hc y (ay _ hy) x (aV ..) (~~~m))
   rw[if_neg h1]
   by_cases h2:x.2∈B
   .rw[if_pos h2]
    have:=A3 ps (A++[x.1]) B c' λy hy m=>(nx y hy m).elim id λe=>e▸h2
    simp at this ⊢;omega
   .rw[if_neg h2]
    have:=A3 ps (A++[x.1]) (B++[x.2]) c' λy hy m=>by
     rcases nx y hy m with z|z
     .simp[z]
     .simp[z]
    simp at this ⊢;omega
def C3:∀(ps:List (κ×β))(A:List κ)(B:List β),Vy ps->A.length=B.length->(∀x∈ps,x.1∈A->x.2∈B/\A.idxOf x.1=B.idxOf x.2)->(sn B (ps.map (·.2))).length=(sn A (ps.map (·.1))).length->lK A (ps.map (·.1))=lK B (ps.map (·.2))
 |[],A,B,_,_,_,_=>rfl
 |x::ps,A,B,hc,hl,hA,he=>by
  have c':Vy ps:=λy hy z hz=>hc y (ay _ hy) z (ay _ hz)
  rw[aA,aA] at he ⊢;unfold sn at he;unfold lK;by_cases h1:x.1∈A
  .let#[h2,h3]:=hA x (aV ..) h1
   rw[if_pos h1,if_pos h2] at he ⊢;rw[h3,C3 ps A B c' hl (λy hy=>hA y (ay _ hy)) he]
  .have nx:∀y∈ps,y.1∈A++[x.1]->y.1∈A\/(y.1=x.1/\y.2=x.2):=λy hy m=>by
    rcases aT.mp m with m|m
    .erw[.inl m]
    .have e:y.1=x.1:=by simpa using m
     erw[.inr #[e,hc y (ay _ hy) x (aV ..) e]]
   rw[if_neg h1] at he ⊢;by_cases h2:x.2∈B
   .rw[if_pos h2] at he
    have:=A3 ps (A++[x.1]) B c' λy hy m=>by
     rcases nx y hy m with z|z
     .exact(hA y (ay _ hy) z).1
     .rw[z.2];erw[h2]
    simp at this;omega
   .rw[if_neg h2] at he ⊢
    rw[hl,C3 ps (A++[x.1]) (B++[x.2]) c' (by simp[hl]) (λy hy m=>?_) he]
    rcases nx y hy m with z|z
    .let#[z1,z2]:=hA y (ay _ hy) z
     exact#[by simp[z1],by rw[ph z,ph z1,z2]]
    .rw[z.1,z.2]
     exact#[#v[],by rw[ju,if_neg h1,ju,if_neg h2];simp[hl]]
def Jx{a:List κ}{b:List β}(h:∀(i j:Nat) (x y:κ) (u v:β),a[i]?=ξ x->a[j]?=ξ y->b[i]?=ξ u->b[j]?=ξ v->x=y->u=v):Vy (a.zip b):=by
 intro x hx y hy e;let#[i,hi]:=b7 hx;let#[j,hj]:=b7 hy;rw[List.getElem?_zip_eq_some] at hi hj;erw[h i j _ _ _ _ hi.1 hj.1 hi.2 hj.2 e]
def C4{a:List κ}{b:List β}(hl:a.length=b.length)(h:∀(i j:Nat) (x y:κ) (u v:β),a[i]?=ξ x->a[j]?=ξ y->b[i]?=ξ u->b[j]?=ξ v->x=y->u=v):(sn [] b).length<=(sn [] a).length:=by
 have:=A3 (a.zip b) [] [] (Jx h) (#v[]);rw[jR ∅,jS ∅] at this;simpa using this
def Es{a:List κ}{b:List β}(hl:a.length=b.length)(h:∀(i j:Nat) (x y:κ) (u v:β),a[i]?=ξ x->a[j]?=ξ y->b[i]?=ξ u->b[j]?=ξ v->x=y->u=v)(he:(sn [] b).length=(sn [] a).length):lK [] a=lK [] b:=by
 have:=C3 (a.zip b) [] [] (Jx h) rfl (#v[]);rw[jR ∅,jS ∅] at this;erw[this he]
def Et(ks:List κ):lK [] (lK [] ks)=lK [] ks:=by
 have l:=lV ks [];have h1:∀(i j:Nat)(x y:κ)(u v:Nat),ks[i]?=ξ x->ks[j]?=ξ y->(lK [] ks)[i]?=ξ u->(lK [] ks)[j]?=ξ v->x=y->u=v:=λi j x y u v hi hj hu hv e=>by
  have:=(uk hi hj).mpr e;rw[hu,hv] at this;erw[aG this]
 have h2:∀(i j:Nat)(x y:Nat)(u v:κ),(lK [] ks)[i]?=ξ x->(lK [] ks)[j]?=ξ y->ks[i]?=ξ u->ks[j]?=ξ v->x=y->u=v:=λi j x y u v hi hj hu hv e=>by
  refine(uk hu hv).mp ?_;rw[hi,hj,e]
 exact(Es l.symm h1 (Nat.le_antisymm (C4 l.symm h1) (C4 l h2))).symm
end
abbrev Jy(p:Nat×List Nat):U:=.tup [aO p.1,.tup (p.2.map aO)]
def um{κ:Type}[BEq κ][LawfulBEq κ]:∀(ks:List κ)(k:κ)(seen:List κ),sn seen (ks++[k])=if k∈sn seen ks then sn seen ks else sn seen ks++[k]
 |[],k,seen=>rfl
 |x::r,k,seen=>by
  rw[List.cons_append]
  unfold sn;erw[um r k _]
def Jz{κ:Type}[BEq κ][LawfulBEq κ](ks:List κ)(k:κ):lK [] (ks++[k])=lK [] ks++[(sn [] (ks++[k])).idxOf k]:=by
 rw[sC,sC,aN,um]
 congr 1
 rwa[qv λx hx=>?_]
 split
 .rfl
 .erw[ph ((vJ ks [] x).mpr (.inr hx))]
abbrev wy(p:Nat×List Nat):Int×List Int:=((p.1:Int),p.2.map λ(n:Nat)=>(n:Int))
def JA(a b:Nat×List Nat)(h:wy a=wy b):a=b:=by
 let#[h1,h2]:=zM h;erw[Prod.ext (oQ h1) ((rC λ_ _ e=>oQ e).mp h2)]
def JB(p:Nat×List Nat):Jy p=.tup [.int (wy p).1,.tup ((wy p).2.map .int)]:=by
 unfold Jy wy;rw[bG];rfl
abbrev JC:Spec:=λus S Q _=>∃u,us=[u]/\((∃ks:List (Option Nat),u=.tup (ks.map uN)/\ks.length<=9000/\∀m S',Ext S S'->S.length<=m->S'[m]?=ξ (.lst ((lK [] ks).map aO))->Q (.loc m) S') \/
 ∃n,∃ks:List (Nat×List Nat),u=.loc n/\S[n]?=ξ (.lst (ks.map Jy))/\ks.length<=9000/\∀m S',Ext S S'->S.length<=m->S'[m]?=ξ (.lst ((lK [] ks).map aO))->Q (.loc m) S')
def JD{κ:Type}[BEq κ][LawfulBEq κ](f:κ->U)(D:List (κ×U)->SO)(hD:∀(S:bE) (n:Nat) kvs k (d:U) (Q:KU),S[n]?=ξ (D kvs)->kvs.length<=9000->(match kvs.lookup k with|some v=>Q v S|none=>Q d (S.set n (D (kvs++[(k,d)]))))->oz S n (f k) d Q)(hL:∀(S:bE) (n:Nat) kvs,S[n]?=ξ (D kvs)->qP .mV (.loc n) S/\nI S (.loc n)=ξ kvs.length)
  {g:bE->Prop}{S:bE}{Q:List U->bE->Prop}{ks:List κ} (hl:ks.length<=9000) (hg:∀S',Ext S S'->g S') (q:∀S',Ext S S'->Q ((lK [] ks).map aO) S'):lM g (λ_ S2 k=>k ζ S2) (λu S2 k=>qP .mV (.loc S.length) S2/\opt (nI S2 (.loc S.length)) λn=>n<=1000000/\oz S2 S.length u (.int n) k) Q (ks.map f) [] (S++[D []]):=by
 rwa[fR _ (λi acc S'=>Ext S S'/\S'[S.length]?=ξ (D (dz (sn [] (ks.take i)) 0))/\acc=(lK [] (ks.take i)).map aO) (λi acc S' hi h=>#[hg _ h.1,?_]) (λi u acc S' k hu hI hk=>?_) (λacc S' hI=>?_) #[Ext.app _,by simp[sn,dz],rfl]]
 .rw[h.2.2,ah,lV,b3];omega
 .let#[x,e,rfl]:=hI
  let#[k0,hk0,rfl]:=fY hu;have tk:=MY hk0;have ln:(sn [] (ks.take i)).length<=9000:=by have:=vI (ks.take i) [];simp at this;omega
  have nt:(lK [] (ks.take (i+1))).map aO=(lK [] (ks.take i)).map aO++[aO ((sn [] (ks.take (i+1))).idxOf k0)]:=by rw[tk,Jz,aN];rfl
  rw[if_pos rfl,(hL _ _ _ e).2]
  refine#[(hL _ _ _ e).1,by rw[zr];omega,hD _ _ _ _ _ _ e (%[zr|ln]) ?_];rw[zt,zr]
  by_cases hm:k0∈sn [] (ks.take i)
  .have es:sn [] (ks.take (i+1))=sn [] (ks.take i):=by rw[tk,um,if_pos hm]
   rw[if_pos hm,oj]
   erw[hk _ _ #[x,by rw[es];exact e,by rw[nt,es]]]
  .have es:sn [] (ks.take (i+1))=sn [] (ks.take i)++[k0]:=by rw[tk,um,if_neg hm]
   rw[if_neg hm]
   refine hk _ _ #[#[~~~x.1,λn hn=>?_],?_,?_]
   .rw[ai ∅];erw[x.2 n hn]
   .rw[ba (ag.mp e).1,es,Jv,oj]
   .rw[nt,es,ju,if_neg hm];simp
 .let#[x,e,rfl]:=hI
  rw[show ks.take (ks.map f).length=ks by simp]
  erw[q _ x]
def Ry(Γ:bU):Keeps Γ m9 1 JC:=by
 rintro us S Q E ⟨u,rfl,h⟩;unfold m9;rcases h with⟨ks,rfl,hl,q⟩|⟨n,ks,rfl,g,hl,q⟩
 .room
  rw[vk]
  refine#[⋯,.inl ?_];room;refine#[(·),JD uN (λl=>.df (l.map λp=>(uN p.1,p.2))) (λS n kvs k d Q e l h=>?_) (λS n kvs e=>#[?_,by dsimp[nI,e,ah]]) hl (λ_ _=>trivial) λS' x=>q _ _ (x.trans (Ext.app _)) x.1 (#v[])]
  .unfold oz
   rw[e]
   refine#[#[Rx _,by rw[ah];omega],?_];rw[aN] at h;rw[Jw]
   erw[h]
  .show(match S[n]? with|some (.df _)=>True|some (.r9 _)=>True|some (.vd _)=>True|_=>False)
   rw[e];trivial
 .room
  rw[vk]
  refine#[⋯,.inr (.inr ?_)];room;rw[aq (a4 g),g]
  dsimp[aK];rwa[JD Jy (λl=>.vd (l.map λp=>(wy p.1,p.2))) (λS n kvs k d Q e l h=>?_) (λS n kvs e=>#[?_,by dsimp[nI,e,ah]]) hl (λS' x=>x.get g) λS' x=>q _ _ (x.trans (Ext.app _)) x.1 (#v[])]
  .unfold oz
   rw[e]
   refine#[_,_,JB k,by rw[ah];omega,?_];rw[show((wy k).1,(wy k).2)=wy k from rfl,Js wy JA]
   rw[aN] at h;erw[h]
  .show(match S[n]? with|some (.df _)=>True|some (.r9 _)=>True|some (.vd _)=>True|_=>False)
   rw[e];trivial
structure Rw(S:bE)(n:Nat)(ls:List Nat)(g:Nat->Nat->Nat):Prop where
 l:S[n]?=ξ (.lst (ls.map .loc))
 d:∀(j m:Nat),ls[j]?=ξ m->S[m]?=ξ (SO.df (SG.map λc=>(.str [c],aO (g j c))))
def Rw.ext{S S':bE}{n:Nat}{ls:List Nat}{g:Nat->Nat->Nat}(h:Rw S n ls g)(x:Ext S S'):Rw S' n ls g:=#[x.get h.l,λj m e=>x.get (h.d j m e)]
def vK{f:Nat->U}{c:Nat}:∀{l:List Nat},c∈l->se (.str [c]) (l.map λc=>(U.str [c],f c))=ξ (f c)
 |x::l,h=>by
  rw[aA]
  unfold se;by_cases e:x=c
  .subst e;rw[if_pos (show NU (.str [x]) (.str [x])=ζ from beq_self_eq_true [x])]
  .rw[if_neg (show ¬NU (.str [x]) (.str [c])=ζ from (by simp[e]:¬([x]==[c])=ζ))]
   rcases aW.mp h with z|z
   .erw[absurd z.symm e]
   .erw[vK z]
def A4{κ:Type}[BEq κ][LawfulBEq κ]{f:Nat->κ}{h:Nat->U}{k:κ}:∀l:List Nat,(∃c∈l,f c=k/\(l.map λc=>(f c,h c)).lookup k=ξ (h c))\/(l.map λc=>(f c,h c)).lookup k=ψ
 |[]=>.inr rfl
 |x::l=>by
  rw[aA,aQ]
  by_cases e:k=f x
  .erw[.inl #[x,aV ..,e.symm,by simp[e]]]
  .rw[show(k==f x)=ϑ by simp[e]]
   rcases A4 (f:=f) (h:=h) (k:=k) l with⟨c,m,z⟩|z
   .erw[.inl #[c,ay _ m,z]]
   .erw[.inr z]
abbrev Oe:Spec:=λus S Q _=>∃n ls g,us=[.loc n]/\Rw S n ls g/\ls.length<=9000/\∀(m:Nat)(S':bE)(sg:List Nat),Ext S S'->S.length<=m->S'[m]?=ξ (.lst (sg.map λc=>.str [c]))->sg.length<=95->(∀c∈sg,c∈SG)->(∀c∈SG,∃c'∈sg,∀j,j<ls.length->g j c'=g j c)->Q (.loc m) S'
def RA(Γ:bU):Keeps Γ iL 2 Oe:=by
 rintro us S Q E ⟨n,ls,g,rfl,rw0,hl,q⟩;let#[r1,r2]:=rw0;unfold iL;have gl:SG.length=95:=rfl;generalize SG=G at *;room;rw[vk]
 refine#[⋯,.inr (.inl ?_)];room
 let ky:Nat->List Int:=λc=>(b9 ls.length).map λj=>((g j c:Nat):Int)
 rwa[eh (λi env S1=>∃(sg:List Nat)(x2:Option U),env=[ξ (.loc n),ξ (.loc S.length),x2]/\Ext S S1/\S1[S.length]?=ξ (.r9 (sg.map λc=>(ky c,.str [c])))/\sg.length<=i/\(∀c∈sg,c∈G)/\∀c∈G.take i,∃c'∈sg,ky c'=ky c) (λ_ _ _ _=>trivial) _ ?_ ?_ #[[],ψ,rfl,Ext.app _,#v[],#v[],#v[],#v[]]]
 .rintro i u env S1 K hu ⟨sg,x2,rfl,x1,g1,sl,hs,inv⟩ hK
  let#[c,hc,rfl]:=fY hu;have cm:=ax hc;have il:i<95:=by have:=(ag.mp hc).1;omega
  have et:=MY hc;room;refine#[by show(match S1[S.length]? with|some (.df _)=>True|some (.r9 _)=>True|some (.vd _)=>True|_=>False);rw[g1];trivial,?_];rw[x1.get r1,aK]
  rwa[pe (S:=S1) _ ((ky c).map .int) (by simp[ky]) ((·)) (λS' x=>x.get (x1.get r1)) (λu S' k h=>h) (λj u v hu hv S2 k x hk=>?_) λS2 x=>?_]
  .let#[m,hm,rfl]:=fY hu
   have jl:=(ag.mp hm).1;rw[aE,aE,iE jl] at hv;have hv:aO (g j c)=v:=by simpa using hv
   subst hv;room;rw[(x1.trans x).get (r2 j m hm)]
   rw[iU]
   refine#[rfl,?_];rw[vK cm]
   erw[hk S2 .refl]
  .rw[aB (ar _),bQ]
   dsimp[List.getElem?_cons_zero,aK];have x2:=x.trans (Ext.app [SO.lst ((ky c).map U.int)]);have g2:=x2.get g1;generalize S2++[SO.lst ((ky c).map U.int)]=S3 at x2 g2;show oz S3 S.length _ _ _;unfold oz;rw[g2]
   refine#[ky c,rfl,(·),?_];rcases A4 (f:=ky) (h:=λc=>U.str [c]) (k:=ky c) sg with⟨c',m',e',z⟩|z
   .rw[z]
    room;rwa[hK _ _ #[sg,_,rfl,x1.trans x2,g2,∅,hs,λd hd=>?_]];rw[et] at hd;rcases aT.mp hd with hd|hd
    .erw[inv d hd]
    .have:d=c:=by simpa using hd
     subst this;exact#[c',m',e']
   .rw[z]
    room;have x13:=x1.trans x2;rwa[hK _ _ #[sg++[c],_,rfl,(x13.st ∅),by rw[gs g2];simp,(·),λd hd=>?_,λd hd=>?_]]
    .rcases aT.mp hd with hd|hd
     .erw[hs d hd]
     .have:d=c:=by simpa using hd
      subst this;erw[cm]
    .rw[et] at hd
     rcases aT.mp hd with hd|hd
     .let#[c',m',e']:=inv d hd
      exact#[c',by simp[m'],e']
     .have:d=c:=by simpa using hd
      subst this;exact#[d,#v[],rfl]
 .rintro env S1 ⟨sg,x2,rfl,x1,g1,sl,hs,inv⟩
  rw[ah,gl] at sl;rw[ah,cC] at inv;room;refine#[by show(match S1[S.length]? with|some (.r9 _)=>True|_=>False);rw[g1];trivial,?_];show(match S1[S.length]? with|some (.r9 kvs)=>Q (.loc S1.length) (S1++[.lst (kvs.map (·.2))])|_=>False)
  rw[g1]
  rwa[q _ _ sg (x1.trans (Ext.app _)) x1.1 (#v[]) sl hs λc hc=>?_]
  let#[c',m',e']:=inv c hc;refine#[c',m',λj hj=>?_];have:=congrArg (·[j]?) e';dsimp[ky,aE,iE hj] at this;have:((g j c':Nat):Int)=(g j c:Nat):=by simpa using this
  omega
abbrev cM(G:List Nat)(f:Nat->Option Nat):List (List Nat×U):=G.filterMap λc=>(f c).map λk=>([c],aO k)
abbrev sD(ps:List (List Nat×U)):List (U×U):=ps.map λp=>(U.str p.1,p.2)
def A5(a:List Nat):∀ps,se (.str a) (sD ps)=ps.lookup a
 |[]=>rfl
 | (b,v)::r=>by
  have ih:=A5 a r;show(if (b==a)=ζ then ξ v else se (.str a) (sD r))=_;rw[aQ,ih]
  by_cases h:b=a
  .subst h;simp
  .rw[if_neg (by simp[h]),show(a==b)=ϑ by simp[bI h]]
def sE(f:Nat->Option Nat)(c:Nat):∀G:List Nat,(cM G f).lookup [c]=if c∈G then(f c).map aO else ψ
 |[]=>rfl
 |x::G=>by
  have ih:=sE f c G;unfold cM at ih ⊢;rw[bX]
  by_cases e:c=x
  .subst e
   cases h:f c with
   |none=>rw[h] at ih;dsimp[tV,ih];simp
   |some k=>simp
  .have e1:(([c]:List Nat)== [x])=ϑ:=by simp[e]
   cases h:f x with
   |none=>dsimp[tV,ih,aW,e,false_or]
   |some k=>dsimp[j8,aQ,e1,ih,aW,e,false_or]
structure Rp(S:bE)(n:Nat)(ls:List Nat)(go:Nat->Nat->Option Nat):Prop where
 l:S[n]?=ξ (.lst (ls.map .loc))
 d:∀(j m:Nat),ls[j]?=ξ m->S[m]?=ξ (SO.df (sD (cM SG (go j))))
 z:∀(j c:Nat),ls.length<=j->go j c=ψ
def Rp.ext{S S':bE}{n:Nat}{ls:List Nat}{go:Nat->Nat->Option Nat}(h:Rp S n ls go)(x:Ext S S'):Rp S' n ls go:=#[x.get h.l,λj m e=>x.get (h.d j m e),h.z]
abbrev gN(N:Nat)(go:Nat->Nat->Option Nat)(j c:Nat):Nat:=(go j c).getD N
abbrev M3:Spec:=λus S Q _=>∃n ls go,us=[.loc n]/\Rp S n ls go/\ls.length<=9000/\∀(m:Nat)(S':bE)(ms:List Nat),Ext S S'->ms.length=ls.length+1->Rw S' m ms (gN ls.length go)->Q (.loc m) S'
def RB(hd:S[d]?=ξ (.df (sD (cM SG f))))(q:∀m S',Ext S S'->S'[m]?=ξ (.df (SG.map λc=>(.str [c],aO ((f c).getD N))))->k (.loc m) S'):WE Γ YK [ξ (.loc d),ξ (aO N)] S k E:=by
 unfold YK;have nd:=Oc;have gl:SG.length=95:=rfl;generalize SG=G at *;room;rwa[pe (S:=S) _ (G.map λc=>.tup [.str [c],aO ((f c).getD N)]) (#v[]) ((·)) (λS' x=>trivial) (λu S' k h=>h) (λj u v hu hv S2 k x' hk=>?_) λS2 x'=>?_]
 .rw[aE] at hu hv
  let#[c,hc,rfl]:=aj.mp hu;rw[hc] at hv;have hv:U.tup [.str [c],aO ((f c).getD N)]=v:=by simpa using hv
  subst hv;room;rw[x'.get hd]
  dsimp[getD_some,iU,true_and];refine#[cM G f,rfl,#v[],?_];rw[sE,if_pos (ax hc)]
  have:((f c).map aO).getD (aO N)=aO ((f c).getD N):=by cases f c<;>rfl
  rw[this]
  erw[hk S2 .refl]
 .refine#[G.map λc=>([c],aO ((f c).getD N)),by simp[cH],%[bG|nd],?_]
  rw[bG]
  erw[q _ _ (x'.trans ((Ext.app _).trans (Ext.app _))) (by rw[aB (ar _),bQ];rfl)]
def Vz(Γ:bU):Keeps Γ jd 1 M3:=by
 rintro us S Q E ⟨n,ls,go,rfl,⟨r1,r2,r3⟩,hl,q⟩;unfold jd;room;rw[jO r1]
 dsimp[bq,ah];refine#[∅,?_];room;rw[vk]
 refine#[⋯,.inl #[#v[],?_]];have x0:Ext S (S++[SO.df []]++[SO.lst [U.loc S.length]]):=(Ext.app _).trans (Ext.app _);have g0:(S++[SO.df []]++[SO.lst [U.loc S.length]])[(S++[SO.df []]).length]?=ξ (.lst [U.loc S.length]):=by
  rw[aB (ar _),bQ];rfl
 have d0:(S++[SO.df []]++[SO.lst [U.loc S.length]])[S.length]?=ξ (.df []):=(Ext.app _).get (#v[]);generalize (S++[SO.df []]).length=n0 at g0;generalize S++[SO.df []]++[SO.lst [U.loc S.length]]=S0 at x0 g0 d0;rw[x0.get r1,g0]
 dsimp[aK];refine#[(·),?_];have x1:Ext S (S0++[SO.lst (ls.map U.loc++[U.loc S.length])]):=x0.trans (Ext.app _);have g1:(S0++[SO.lst (ls.map U.loc++[U.loc S.length])])[S0.length]?=ξ (.lst ((ls++[S.length]).map U.loc)):=by simp
 have d1:=(Ext.app [SO.lst (ls.map U.loc++[U.loc S.length])]).get d0;generalize S0.length=n1 at g1;generalize S0++[SO.lst (ls.map U.loc++[U.loc S.length])]=S1 at x1 g1 d1;rw[g1,aK]
 have rd:∀(j d:Nat),(ls++[S.length])[j]?=ξ d->S1[d]?=ξ (.df (sD (cM SG (go j)))):=λj d h=>by
  by_cases hj:j<ls.length
  .rw[aq hj] at h
   erw[x1.get (r2 j d h)]
  .have:=(ag.mp h).1
   have ej:j=ls.length:=by simp at this;omega
   subst ej;have:S.length=d:=by simpa using h
   subst this;have:cM SG (go ls.length)= []:=by
    unfold cM;rw[List.filterMap_eq_nil_iff]
    intro c _;rw[r3 _ c (ar _)];rfl
   rw[this];erw[d1]
 refine fR _ (λi acc S'=>Ext S1 S'/\∃ms:List Nat,acc=ms.map .loc/\ms.length=i/\∀(j d:Nat),ms[j]?=ξ d->S'[d]?=ξ (SO.df (SG.map λc=>(.str [c],aO (gN ls.length go j c))))) (λi acc S' hi h9=>by let#[x,ms,e1,e2,_]:=h9;exact#[x.get g1,by rw[e1];simp at hi ⊢;omega]) (λi u acc S' k hu hi hk=>?_) (λacc S' hI=>?_) #[.refl,[],rfl,rfl,#v[]]
 .let#[x,ms,rfl,e2,inv]:=hi
  let#[d,hd,rfl]:=fY hu;rw[if_pos rfl]
  rwa[RB (x.get (rd i d hd)) λm S2 x2 g2=>hk _ _ #[x.trans x2,ms++[m],by rw[aN];rfl,by simp[e2],λj d hj=>?_]]
  by_cases hlt:j<ms.length
  .rw[aq hlt] at hj
   erw[x2.get (inv j d hj)]
  .have:=(ag.mp hj).1
   have ej:j=ms.length:=by simp at this;omega
   subst ej;have:m=d:=by simpa using hj
   rw[<-this,e2]
   erw[g2]
 .let#[x,ms,rfl,e2,inv]:=hI
  have e2:ms.length=ls.length+1:=by simpa using e2
  erw[q _ _ ms ((x1.trans x).trans (Ext.app _)) e2 #[#v[],λj d h=>(Ext.app _).get (inv j d h)]]
abbrev pk(b:List Nat)(g:Nat->Nat->Nat)(sg:List Nat)(N:Nat):List (Nat×List Nat):=(b9 N).map λj=>(b.getD j 0,sg.map λc=>b.getD (g j c) 0)
def sF{b:List Nat}{j:Nat}{r:U->Prop}(h:j<b.length)(z:r (aO (b.getD j 0))):opt (si (b.map aO) ((j:Nat):Int)) r:=by
 rw[jb,aE,af h]
 rw[bc,af h] at z;erw[z]
def RC{Γ:bU}{S:bE}{nb nr ns m d:Nat}{b sg:List Nat}{f:Nat->Nat}{x4:U}{k:KU}{E:KX}(hb:S[nb]?=ξ (.lst (b.map aO)))(hs:S[ns]?=ξ (.lst (sg.map λc=>.str [c])))(hd:S[d]?=ξ (.df (SG.map λc=>(.str [c],aO (f c)))))(sl:sg.length<=95)(hg:∀c∈sg,c∈SG/\f c<b.length)
  (q:∀m S',Ext S S'->S'[m]?=ξ (.lst ((sg.map λc=>b.getD (f c) 0).map aO))->k (.loc m) S'):WE Γ YL [ξ (.loc nb),ξ (.loc nr),ξ (.loc ns),ξ (.loc m),ξ x4,ξ (.loc d)] S k E:=by
 unfold YL;room;rw[hs,aK]
 rwa[pe (S:=S) _ ((sg.map λc=>b.getD (f c) 0).map aO) (#v[]) ((·)) (λS' x=>x.get hs) (λu S' k h=>h) (λj u v hu hv S2 k x' hk=>?_) λS2 x'=>?_]
 .let#[c,hc,rfl]:=fY hu
  rw[aE,aE,hc] at hv;have hv:aO (b.getD (f c) 0)=v:=by simpa using hv
  subst hv;let#[h1,h2]:=hg c (ax hc);rw[x'.get hd,iU,vK h1,bq]
  refine#[rfl,?_];show getL S2[nb]? _;rw[x'.get hb,aK]
  erw[sF h2 (hk S2 .refl)]
 .erw[q _ _ (x'.trans (Ext.app _)) (#v[])]
abbrev Of:Spec:=λus S Q _=>∃nb nr ns ls b sg g,us=[.loc nb,.loc nr,.loc ns]/\S[nb]?=ξ (.lst (b.map aO))/\Rw S nr ls g/\S[ns]?=ξ (.lst (sg.map λc=>.str [c]))/\ls.length<=9000/\b.length=ls.length/\sg.length<=95/\(∀c∈sg,c∈SG/\∀j,j<ls.length->g j c<ls.length) /\
 ∀m S',Ext S S'->S.length<=m->S'[m]?=ξ (.lst ((lK [] (pk b g sg ls.length)).map aO))->Q (.loc m) S'
def RD(Γ:bU)(h1:Γ "numbered"=JC):Keeps Γ qV 3 Of:=by
 rintro us S Q E ⟨nb,nr,ns,ls,b,sg,g,rfl,hb,R,hs,hl,bl,sl,hg,q⟩;unfold qV;room;refine#[#v[],?_];room;have x0:Ext S (S++[SO.lst []]):=Ext.app _;rw[x0.get R.l,aK]
 rwa[eh (λi env S1=>∃(x4 x5:Option U),env=[ξ (.loc nb),ξ (.loc nr),ξ (.loc ns),ξ (.loc S.length),x4,x5]/\Ext S S1/\S1[S.length]?=ξ (.lst ((pk b g sg i).map Jy))/\i<=ls.length) (λi env S1 h9=>by let#[_,_,_,x,_]:=h9;erw[x.get R.l]) _ ?_ ?_ #[ψ,ψ,rfl,x0,by simp[pk],∅]]
 .rintro i u env S1 K hu ⟨x4,x5,rfl,x1,g1,il⟩ hK
  dsimp[dA,aE,oO] at hu;let#[d,hd,rfl]:=aj.mp hu;have hi:=(ag.mp hd).1;dsimp[cH];room;rw[g1,x1.get hb]
  dsimp[aK];refine#[trivial,sF ∅ ?_];rwa[RC (x1.get hb) (x1.get hs) (x1.get (R.d i d hd)) sl (λc hc=>#[(hg c hc).1,by rw[bl];exact(hg c hc).2 i hi]) λm S2 x2 g2=>?_]
  room;rw[g2,aK]
  refine#[#v[],?_];rw[x2.get g1,aK]
  refine#[by simp[pk];omega,?_];room;have x12:=x1.trans x2;rwa[hK _ _ #[_,_,rfl,(x12.st ∅),?_,hi]];rw[gs (x2.get g1)]
  unfold pk;rw[List.range_succ,aN,aN]
  rfl
 .rintro env S1 ⟨x4,x5,rfl,x1,g1,il⟩
  rw[i5,ah] at g1;room;erw[ca h1 #[_,rfl,.inr #[_,_,rfl,g1,by simp[pk];omega,λm S2 x2 ml g2=>q m S2 (x1.trans x2) (aP x1.1 ml) g2]]]
abbrev Eqv(told:List (Option Nat))(g:Nat->Nat->Nat):Nat->Nat->Nat->Prop
 |0,i,j=>told[i]?=told[j]?
 |k+1,i,j=>Eqv told g k i j/\∀c∈SG,Eqv told g k (g i c) (g j c)
structure Gn(told:List (Option Nat))(g:Nat->Nat->Nat)(k:Nat)(b:List Nat):Prop where
 len:b.length=told.length
 fx:lK [] b=b
 iff:∀i j,i<told.length->j<told.length->(b.getD i 0=b.getD j 0↔Eqv told g k i j)
def gd{b:List Nat}{i:Nat}(h:i<b.length):b[i]?=ξ (b.getD i 0):=by
 rw[bc,af h];rfl
def JE{a b:List Nat}{i j:Nat}(hi:i<b.length)(hj:j<b.length):b.getD i 0=b.getD j 0↔b[i]?=b[j]?:=by
 rw[gd hi,gd hj];simp
def VA{told:List (Option Nat)}{g:Nat->Nat->Nat}:Gn told g 0 (lK [] told):=by
 refine#[lV told [],Et told,λi j hi hj=>?_];rw[JE (a:=[]) (%[lV|hi]) (%[lV|hj]),uk (af hi) (af hj)]
 unfold Eqv;rw[af hi,af hj]
 simp
def Og(h:i<N):(pk b g sg N)[i]?=ξ (b.getD i 0,sg.map λc=>b.getD (g i c) 0):=by
 unfold pk;rw[aE,iE h];rfl
def VB{told:List (Option Nat)}{g:Nat->Nat->Nat}{k:Nat}{b sg:List Nat}(h:Gn told g k b)(hc:∀j c,j<told.length->c∈SG->g j c<told.length)(h1:∀c∈sg,c∈SG)(h2:∀c∈SG,∃c'∈sg,∀j,j<told.length->g j c'=g j c):Gn told g (k+1) (lK [] (pk b g sg told.length)):=by
 have l1:(lK [] (pk b g sg told.length)).length=told.length:=by rw[lV];simp[pk]
 refine#[l1,Et _,λi j hi hj=>?_];rw[JE (a:=[]) ∅ ∅,uk (Og hi) (Og hj),Prod.mk.injEq,h.iff i j hi hj]
 show _↔Eqv told g k i j/\∀c∈SG,Eqv told g k (g i c) (g j c)
 rwa[and_congr_right λ_=>?_]
 rw[dF]
 constructor
 .intro z c hcm
  let#[c',m',e']:=h2 c hcm;rw[<-e' i hi,<-e' j hj]
  exact(h.iff _ _ (hc i c' hi (h1 c' m')) (hc j c' hj (h1 c' m'))).mp (z c' m')
 .intro z c hcm
  exact(h.iff _ _ (hc i c hi (h1 c hcm)) (hc j c hj (h1 c hcm))).mpr (z c (h1 c hcm))
def Eu{told:List (Option Nat)}{g:Nat->Nat->Nat}{k m:Nat}{b:List Nat}(h:Gn told g k b)(h1:m∈b)(h2:∀j∈b,j<=m):m+1=(sn [] b).length:=by
 have:=h.fx;rw[<-this] at h1 h2;erw[M0 h1 h2]
def RE{told:List (Option Nat)}{g:Nat->Nat->Nat}{k:Nat}{a b:List Nat}(ha:Gn told g (k+1) a)(hb:Gn told g k b):(sn [] b).length<=(sn [] a).length/\((sn [] b).length=(sn [] a).length->a=b):=by
 have h:∀(i j:Nat)(x y u v:Nat),a[i]?=ξ x->a[j]?=ξ y->b[i]?=ξ u->b[j]?=ξ v->x=y->u=v:=by
  intro i j x y u v e1 e2 e3 e4 e;have l1:=(ag.mp e1).1;have l2:=(ag.mp e2).1;have la:=ha.len;have lb:=hb.len;have z:=(ha.iff i j ∅ ∅).mp (by rw[bc,bc,e1,e2,e]);have:=(hb.iff i j ∅ ∅).mpr z.1;rw[bc,bc,e3,e4] at this;erw[this]
 have l:a.length=b.length:=by rw[ha.len,hb.len]
 refine#[C4 l h,λe=>?_];have:=Es l h e;rw[ha.fx,hb.fx] at this;erw[this]
def Ew{S:bE}{n:Nat}{b:List Nat}{Q:KU}(h:S[n]?=ξ (.lst (b.map aO)))(b0:0<b.length)(q:∀m∈b,(∀j∈b,j<=m)->Q (aO m) S):sk .max [.loc n] S Q:=by
 cases b with
 |nil=>simp at b0
 |cons x b=>
  refine#[(x:Int),b.map λ(n:Nat)=>(n:Int),by rw[h];simp,λm hm hj=>?_];have e:((x:Int)::b.map λ(n:Nat)=>(n:Int))=(x::b).map λ(n:Nat)=>(n:Int):=rfl
  rw[e] at hm hj;let#[y,hy,rfl]:=bO.mp hm;rwa[q y hy λj m=>?_]
  have:=hj _ (bO.mpr #[j,m,rfl]);omega
def uo{α:Type}{l:List α}{x:α}:si (l++[x]) (-1)=ξ x:=by
 unfold si Px;rw[if_neg ∅,if_pos ((·))]
 have:((-1:Int)+((l++[x]).length:Nat)).toNat=l.length:=by rw[aC];simp;omega
 rw[this];simp
structure JF(told:List (Option Nat))(g:Nat->Nat->Nat)(S:bE)(fs:List Nat):Prop where
 r:∀(k n:Nat),fs[k]?=ξ n->∃b,S[n]?=ξ (.lst (b.map aO))/\Gn told g k b
 ne:fs≠[]
 st:∀i j,i<told.length->j<told.length->Eqv told g (fs.length-1) i j->Eqv told g fs.length i j
 le:fs.length<=told.length+1
abbrev M4:Spec:=λus S Q _=>∃nr ls g told,us=[.tup (told.map uN),.loc nr]/\Rw S nr ls g/\told.length=ls.length/\0<ls.length/\ls.length<=9000/\(∀j c,j<told.length->c∈SG->g j c<told.length)/\∀F fs S',Ext S S'->S'[F]?=ξ (.lst (fs.map .loc))->JF told g S' fs->Q (.loc F) S'
structure VC(told:List (Option Nat))(g:Nat->Nat->Nat)(L:Nat)(S3:bE)(fs:List Nat)(m:Nat)(b:List Nat):Prop where
 f:S3[L]?=ξ (.lst ((fs++[m]).map .loc))
 v:S3[m]?=ξ (.lst (b.map aO))
 r:Gn told g fs.length b
 a:∀(k n:Nat),(fs++[m])[k]?=ξ n->n≠L/\∃b,S3[n]?=ξ (.lst (b.map aO))/\Gn told g k b
 l:fs.length<=(sn [] b).length/\(sn [] b).length<=told.length
def VC.push{told:List (Option Nat)}{g:Nat->Nat->Nat}{L m m':Nat}{S3 S4:bE}{fs b a':List Nat}(a:VC told g L S3 fs m b)(x:Ext S3 S4)(ml:S3.length<=m')(g4:S4[m']?=ξ (.lst (a'.map aO)))(ra:Gn told g (fs.length+1) a')(lt:(sn [] b).length<(sn [] a').length):VC told g L (S4.set L (.lst ((fs++[m]).map .loc++[.loc m']))) (fs++[m]) m' a':=by
 have ne:m'≠L:=cw (au (a4 a.f) ml);have gs':∀n o,n≠L->S4[n]?=ξ o->(S4.set L (.lst ((fs++[m]).map .loc++[.loc m'])))[n]?=ξ o:=λn o ne e=>%[ai (bI ne)|e]
 have le:(fs++[m]).length=fs.length+1:=by simp
 have sl:=vI a' [];refine#[by rw[gs (x.get a.f)];simp,gs' _ _ ne g4,%[le|ra],λk n e=>?_,%[le|i9 a.l.1 lt],?_]
 .by_cases hk:k<(fs++[m]).length
  .rw[aq hk] at e
   let#[ne,b',e1,e2]:=a.a k n e;exact#[ne,b',gs' _ _ ne (x.get e1),e2]
  .have:=a4 e
   rw[aC] at this;have ek:k=(fs++[m]).length:=Nat.le_antisymm (Nat.le_of_lt_succ this) (jU hk);subst ek;have:m'=n:=by simpa using e
   subst this;exact#[ne,a',gs' _ _ ne g4,%[le|ra]]
 .rw[ra.len] at sl;simpa using sl
def VD(Γ:bU)(h1:Γ "telling_signs"=Oe)(h2:Γ "numbered"=JC)(h3:Γ "parted"=Of):Keeps Γ qU 3 M4:=by
 rintro us S Q E ⟨nr,ls,g,told,rfl,R,tl,l0,hl,hg,q⟩;unfold qU;room;rwa[ca h1 #[nr,ls,g,rfl,R,hl,λns S1 sg x1 nsl g1 sl s1 s2=>?_]];rw[<-tl] at s2 hl l0;room;rwa[ca h2 #[_,rfl,.inl #[told,rfl,hl,λn0 S2 x2 nl2 g2=>#[#v[],?_]]]];have x12:=x1.trans x2;have gs2:=x2.get g1;room;have r0:Gn told g 0 (lK [] told):=VA;have sn0:=vI (lK [] told) [];rw[lV] at sn0;have I0:VC told g S2.length (S2++[SO.lst [U.loc n0]]) [] n0 (lK [] told):=#[#v[],(Ext.app _).get g2,r0,λk n e=>?_,bC _,~~~sn0]
 .refine#[told.length+1,pd (λN env S3=>∃(fs:List Nat)(m:Nat)(b:List Nat)(x4:Option U),N=told.length-(sn [] b).length/\env=[ξ (.tup (told.map uN)),ξ (.loc nr),ξ (.loc ns),ξ (.loc S2.length),x4]/\Ext S2 S3/\VC told g S2.length S3 fs m b) ?_ _ (told.length-(sn [] (lK [] told)).length) _ _ (Nat.lt_succ_of_le (Nat.sub_le _ _)) #[[],n0,_,ψ,rfl,rfl,Ext.app _,I0]]
  rintro N env S3 K ⟨fs,m,b,x4,rfl,rfl,x3,I⟩ hK;let#[g3,gm,rb,inv,fl,snl]:=id I;room;rw[g3,aK,aN]
  rw[show [m].map U.loc=[.loc m] from rfl,uo,bq]
  refine ca h3 #[m,nr,ns,ls,b,sg,g,rfl,gm,R.ext (x12.trans x3),x3.get gs2,tl▸hl,by rw[rb.len,tl],sl,λc hc=>#[s1 c hc,λj hj=>by rw[<-tl] at hj ⊢;erw[hg j c hj (s1 c hc)]],λm' S4 x4 ml' g4=>?_];rw[<-tl] at g4;have ra:=VB rb hg s1 s2;generalize lK [] (pk b g sg told.length)=a at g4 ra;let#[le,eqn]:=RE ra rb;room;rwa[Ew g4 (ra.len▸l0) λma h1a h2a=>?_]
  have ea:=Eu ra h1a h2a;rw[x4.get g3,aK,aN,show [m].map U.loc=[.loc m] from rfl,uo,bq]
  rwa[Ew (x4.get gm) (rb.len▸l0) λmb h1b h2b=>?_]
  have eb:=Eu rb h1b h2b;room;by_cases z:ma=mb
  .have:((ma:Int)== (mb:Int))=ζ:=by rw[beq_iff_eq,z]
   dsimp[this,if_true];have e:=eqn (by rw[<-ea,<-eb,z]);subst e;room;rwa[q _ (fs++[m]) S4 ((x12.trans x3).trans x4) (x4.get g3) #[λk n e=>?_,#v[],λi j hi hj h=>?_,%[aC|fu (aP fl snl)]]]
   .let#[_,b,e1,e2]:=inv k n e
    exact#[b,x4.get e1,e2]
   .rw[aC] at h ⊢
    exact(ra.iff i j hi hj).mp ((rb.iff i j hi hj).mpr h)
  .have:((ma:Int)== (mb:Int))=ϑ:=%[beq_eq_false_iff_ne|λy=>z (oQ y)]
   dsimp[this,aD,if_false];room;rw[x4.get g3,aK]
   have lt:(sn [] b).length<(sn [] a).length:=GK le λy=>z (by rw[<-ea,<-eb] at y;exact(mF y).symm)
   have I4:=I.push x4 ml' g4 ra lt;refine#[trivial,by rw[ah,aC];exact i9 (fu (aP fl (aP snl hl))) ⋯,?_];try room
   have x34:=x3.trans x4;erw[hK (told.length-(sn [] a).length) _ _ (Nat.sub_lt_sub_left (au lt I4.l.2) lt) #[fs++[m],m',a,_,rfl,rfl,#[by rw[bR];exact x34.1,λn hn=>by rw[ai (cw hn)];exact x34.2 n hn],I4]]
 .have:=a4 e
  have ek:k=0:=by simp at this;erw[this]
  subst ek;have:n0=n:=by simpa using e
  subst this;exact#[a6 (a4 g2),_,(Ext.app _).get g2,r0]
abbrev M5(k:Nat)(told:List (Option Nat))(R:Nat):SO:=.ins "Table" [("takes",.loc k),("told",.tup (told.map uN)),("rows",.loc R)]
structure Gq(S:bE)(T:Nat)(told:List (Option Nat))(ls:List Nat)(go:Nat->Nat->Option Nat):Prop where
 o:∃k R,S[T]?=ξ (M5 k told R)/\S[k]?=ξ (.lst (told.map uN))/\Rp S R ls go
 ll:ls.length=told.length
 sz:told.length<=4000
 cl:∀j c k,c∈SG->go j c=ξ k->k<told.length
def Gq.ext(h:Gq S T told ls go)(x:Ext S S'):Gq S' T told ls go:=by
 let#[k,R,h1,h2,h3]:=h.o;exact#[#[k,R,x.get h1,x.get h2,h3.ext x],h.ll,h.sz,h.cl]
abbrev M6:Spec:=λus S Q _=>∃T a R told,us=[.loc T,.loc a,.loc R]/\S[T]?=ξ (.ins "Table" [])/\S[a]?=ξ (.lst (told.map uN))/\∀k S',Old T S S'->S'[T]?=ξ (M5 k told R)->S'[k]?=ξ (.lst (told.map uN))->Q .bK S'
def VE(Γ:bU):Keeps Γ kz 0 M6:=by
 rintro us S Q E ⟨T,a,R,told,rfl,hT,ha,q⟩;unfold kz;have ne:a≠T:=λz=>by rw[z,hT] at ha;cases ha
 room;rw[ha,aK]
 have x1:Ext S (S++[SO.lst (told.map uN)]):=Ext.app _;have g1:(S++[SO.lst (told.map uN)])[S.length]?=ξ (.lst (told.map uN)):=by simp
 have n1:S.length≠T:=cw (a4 hT);generalize S.length=k at g1 n1;generalize S++[SO.lst (told.map uN)]=S1 at x1 g1;rwa[CZ (x1.get hT) (#v[]) λS2 o2 l2 g2=>?_]
 room;rw[nK o2 (x1.get ha) ne,aK]
 rwa[CZ g2 (by simp[gO]) λS3 o3 l3 g3=>?_]
 room;rwa[CZ g3 (by simp[gO]) λS4 o4 l4 g4=>?_]
 room;erw[q k S4 (((Ext.old x1).trans o2).trans (o3.trans o4)) g4 (nK o4 (nK o3 (nK o2 g1 n1) n1) n1)]
abbrev RF:Spec:=λus S Q _=>∃T told ls go j c,us=[.loc T,aO j,.str [c]]/\Gq S T told ls go/\j<told.length/\c∈SG/\Q (uN (go j c)) S
def JG(h:S[T]?=ξ (M5 k told R)):nJ (.loc T) "rows" S r=r (.loc R):=by rw[iB,h];rfl
def C5(h:S[T]?=ξ (M5 k told R)):nJ (.loc T) "told" S r=r (.tup (told.map uN)):=by rw[iB,h];rfl
def at_of{α:Type}{f:α->U}{l:List α}{j:Nat}{a:α}{r:U->Prop}(h:l[j]?=ξ a)(z:r (f a)):opt (si (l.map f) ((j:Nat):Int)) r:=by
 rw[jb,aE,h];erw[z]
def VF(Γ:bU):Keeps Γ kA 0 RF:=by
 rintro us S Q E ⟨T,told,ls,go,j,c,rfl,h,hj,hc,q⟩;unfold kA;let#[k,R,h1,h2,h3]:=h.o;have hl:=h.ll;room;rw[JG h1]
 room;rw[h3.l,aK]
 have hd:=af (show j<ls.length by omega);have dd:=h3.d j _ hd;rwa[at_of hd ?_];refine#[by show iA S[_]? _;rw[dd];trivial,?_];show iA S[_]? _;rw[dd]
 refine#[rfl,?_];rw[A5,sE,if_pos hc]
 cases e:go j c<;>rw[e] at q<;>exact q
abbrev Kh(go:Nat->Nat->Option Nat)(x:List Nat):Option Nat:=x.foldl (λs c=>s.bind λj=>go j c) (ξ 0)
abbrev fst(told:List (Option Nat))(go:Nat->Nat->Option Nat)(x:List Nat):Option Nat:=(Kh go x).bind λj=>told.getD j ψ
def zw{S S':bE}{o:SO}(h:Old S.length (S++[o]) S'):Ext S S':=by
 have l:=h.1;rw[aC] at l;exact#[aP (jW _ _) l,λn hn=>by rw[h.2 n (%[aC|au hn (jW _ _)]) (a6 hn),aq hn]]
section
variable{tk:Nat->Nat}{Ls G:List Nat}{r h c:Nat}
abbrev gz(tk:Nat->Nat)(Ls:List Nat)(r c:Nat):Option Nat:=if r&&&tk c=0 then ψ else ξ (Ls.idxOf (r&&&tk c))
def RG(z:r&&&tk c=0\/r&&&tk c∈Ls):gz tk (Ls++[h]) r c=gz tk Ls r c:=by
 unfold gz;rcases z with z|z
 .rw[if_pos z,if_pos z]
 .rw[ph z]
def A6(z:∀c∈G,r&&&tk c=0\/r&&&tk c∈Ls):cM G (gz tk (Ls++[h]) r)=cM G (gz tk Ls r):=by
 unfold cM;induction G with
 |nil=>rfl
 |cons x G ih=>rw[bX,bX,RG (z x (aV ..)),ih λc m=>z c (ay _ m)]
def M7(e:f c=ψ):cM (G++[c]) f=cM G f:=by
 unfold cM;rw[BP];simp[e]
def M8(e:f c=ξ k):sD (cM (G++[c]) f)=sD (cM G f)++[(.str [c],aO k)]:=by
 unfold cM sD;rw[BP,aN];simp[e]
abbrev nz(Ls:List Nat):List (U×U):=(dz Ls 0).map λp=>(aO p.1,p.2)
def RH:(nz Ls).length=Ls.length:=by unfold nz;rw[ah,zr]
def RI:nz (Ls++[h])=nz Ls++[(aO h,aO Ls.length)]:=by unfold nz;rw[Jv,aN,oj];rfl
def zx:se (aO h) (nz Ls)=if h∈Ls then ξ (aO (Ls.idxOf h)) else ψ:=by
 have e:nz Ls=((dz Ls 0).map λp=>(ξ p.1,p.2)).map λp=>(uN p.1,p.2):=by unfold nz;rw[bG];rfl
 have:=Jw (ξ h) ((dz Ls 0).map λp=>(ξ p.1,p.2));rw[e,show aO h=uN (ξ h) from rfl,this,Js ξ (λ_ _=>aG),zt,oj]
end
structure A7(S S1:bE)(tk:Nat->Nat)(Ls rs ds:List Nat):Prop where
 x:Ext S S1
 l:S1[S.length]?=ξ (.lst (Ls.map aO))
 n:S1[S.length+1]?=ξ (.df (nz Ls))
 r:S1[S.length+2]?=ξ (.lst (ds.map .loc))
 d:∀(j d r:Nat),ds[j]?=ξ d->rs[j]?=ξ r->S.length+3<=d/\S1[d]?=ξ (.df (sD (cM SG (gz tk Ls r))))
 m:∀r∈rs,∀c∈SG,r&&&tk c=0\/r&&&tk c∈Ls
 nd:Ls.Nodup
def A7.set(h:A7 S S1 tk Ls rs ds)(hd:S.length+3<=d0)(hn:∀(j r:Nat),rs[j]?=ξ r->ds[j]?≠ξ d0):A7 S (S1.set d0 o) tk Ls rs ds:=by
 have e:∀(n:Nat)(o':SO),n≠d0->S1[n]?=ξ o'->(S1.set d0 o)[n]?=ξ o':=λn o' ne g=>%[ai (bI ne)|g]
 exact#[#[%[bR|h.x.1],λn hn=>%[ai ∅|h.x.2 n hn]],e _ _ ∅ h.l,e _ _ ∅ h.n,e _ _ ∅ h.r,λj d r h1 h2=>#[(h.d j d r h1 h2).1,e _ _ (λz=>hn j r h2 (z▸h1)) (h.d j d r h1 h2).2],h.m,h.nd]
def A7.ext(h:A7 S S1 tk Ls rs ds)(x:Ext S1 S2):A7 S S2 tk Ls rs ds:=
 #[h.x.trans x,x.get h.l,x.get h.n,x.get h.r,λj d r h1 h2=>#[(h.d j d r h1 h2).1,x.get (h.d j d r h1 h2).2],h.m,h.nd]
def A7.more(a:A7 S S1 tk Ls rs ds)(hn:h∉Ls):A7 S ((S1.set (S.length+1) (.df (nz Ls++[(aO h,aO Ls.length)]))).set S.length (.lst (Ls.map aO++[aO h]))) tk (Ls++[h]) rs ds:=by
 have e:∀(n:Nat)(o o1 o2:SO),n≠S.length->n≠S.length+1->S1[n]?=ξ o->((S1.set (S.length+1) o1).set S.length o2)[n]?=ξ o:=λn o o1 o2 n1 n2 g=>%[ai (bI n1),ai (bI n2)|g]
 have l1:=a4 a.n;refine#[#[%[bR,bR|a.x.1],λn hn=>%[ai ∅,ai ∅|a.x.2 n hn]],?_,?_,e _ _ _ _ ∅ ∅ a.r,λj d r h1 h2=>?_,λr m c hc=>?_,?_]
 .rw[ba (by rw[bR];omega)];simp
 .rw[ai ∅,ba l1,RI]
 .let#[z1,z2]:=a.d j d r h1 h2
  exact#[z1,%[A6 (a.m r (ax h2))|e _ _ _ _ ∅ ∅ z2]]
 .rcases a.m r m c hc with z|z
  .erw[.inl z]
  .erw[.inr (by simp[z])]
 .rw[dE]
  exact#[a.nd,#v[],λx hx y hy=>%[aX.mp hy|λz=>hn (z▸hx)]]
def C6:SG.Nodup:=⋯
def VG(Γ:bU)(pa:Jo S P bh en tk)(I:A7 S S1 tk Ls rs ds)(g0:S1[d0]?=ξ (.df (sD (cM (SG.take m) (gz tk Ls r)))))(hd0:S.length+3<=d0)(hds:∀(j r:Nat),rs[j]?=ξ r->ds[j]?≠ξ d0)(hc:SG[m]?=ξ c)(hm:∀c∈SG.take m,r&&&tk c=0\/r&&&tk c∈Ls)(lt:Ls.length<=4000)
  (q:∀Ls' S2,A7 S S2 tk Ls' rs ds->S2[d0]?=ξ (.df (sD (cM (SG.take (m+1)) (gz tk Ls' r))))->(∀c∈SG.take (m+1),r&&&tk c=0\/r&&&tk c∈Ls')->(Ls'=Ls\/(r&&&tk c≠0/\Ls'=Ls++[r&&&tk c]))->K [ξ (.loc P),ξ (.loc S.length),ξ (.loc (S.length+1)),ξ (.loc (S.length+2)),ξ (aO r),ξ (.loc d0),ξ (.str [c]),ξ (aO (r&&&tk c))] S2):
  Rest Γ YF #[K,Q,E] [ξ (.loc P),ξ (.loc S.length),ξ (.loc (S.length+1)),ξ (.loc (S.length+2)),ξ (aO r),ξ (.loc d0),ξ (.str [c]),x7] S1:=by
 let#[b,e,k,oP,_,_,gk]:=(pa.ext I.x).o;have fk:∀{R},nJ (.loc P) "takers" S1 R=R (.loc k):=by intro R;rw[iB,oP];rfl
 have cm:=ax hc;have et:=MY hc;have nm:c∉SG.take m:=λz=>by
  let#[i,hi]:=b7 z;have il:=(ag.mp hi).1;rw[b3] at il;rw[mE ∅] at hi;have:=(List.getElem?_inj ∅ C6).mp (hi.trans hc.symm);omega
 rw[et] at q;have rl:(sD (cM (SG.take m) (gz tk Ls r))).length<1000000:=by
  have:(cM (SG.take m) (gz tk Ls r)).length<=(SG.take m).length:=List.length_filterMap_le ..;rw[b3] at this;have gl:SG.length=95:=rfl;unfold sD;rw[ah];omega
 have dn:∀f:Nat->Option Nat,se (.str [c]) (sD (cM (SG.take m) f))=ψ:=λf=>by rw[A5,sE,if_neg nm]
 unfold YF;room;rw[fk]
 room;rw[gk,iU,vK cm,bq]
 refine#[rfl,?_];rw[tZ]
 generalize hh:r&&&tk c=h at *;have go2:∀(Ls':List Nat)(S2:bE),A7 S S2 tk Ls' rs ds->S2[d0]?=ξ (.df (sD (cM (SG.take m) (gz tk Ls' r))))->sD (cM (SG.take m) (gz tk Ls' r))=sD (cM (SG.take m) (gz tk Ls r))->(∀c∈SG.take m,r&&&tk c=0\/r&&&tk c∈Ls')->(Ls'=Ls\/Ls'=Ls++[h])->h≠0->h∈Ls'->Rest Γ WX #[K,Q,E] [ξ (.loc P),ξ (.loc S.length),ξ (.loc (S.length+1)),ξ (.loc (S.length+2)),ξ (aO r),ξ (.loc d0),ξ (.str [c]),ξ (aO h)] S2:=by
  intro Ls' S2 I2 g2 e2 m2 l2 h0 hl;have:((h:Int)== 0)=ϑ:=by rw[beq_eq_false_iff_ne];omega
  unfold WX;room;dsimp[this,cU,if_true];room;rw[I2.n,iU,zx,if_pos hl,bq]
  refine#[rfl,?_];rw[g2,getD_some]
  refine#[#[rfl,dn _,%[e2|rl]],?_];room;rwa[q Ls' _ (I2.set hd0 hds) ?_ (λc' hc'=>?_) (l2.imp id λe=>#[h0,e])]
  .rw[gs g2,M8 (k:=Ls'.idxOf h) (by unfold gz;rw[hh,if_neg h0])]
  .rcases aT.mp hc' with z|z
   .erw[m2 c' z]
   .have:c'=c:=by simpa using z
    subst this;erw[.inr (by rw[hh];exact hl)]
 room;by_cases z:h=0
 .subst z
  have z0:(((0:Nat):Int)== 0)=ζ:=rfl;dsimp[z0,b5,aD,if_false];unfold WX;room;rwa[q Ls _ I (by rw[M7 (by unfold gz;rw[hh,if_pos rfl])];erw[g0]) (λc' hc'=>?_) (.inl rfl)];rcases aT.mp hc' with z|z
  .erw[hm c' z]
  .have:c'=c:=by simpa using z
   subst this;erw[.inl hh]
 .have z':((h:Int)== 0)=ϑ:=by rw[beq_eq_false_iff_ne];omega
  dsimp[z',cU,if_true];rw[I.n,iU,zx]
  refine#[rfl,?_];by_cases y:h∈Ls
  .rw[if_pos y]
   dsimp[Option.isNone_some,aD,if_false];erw[Rest.go (go2 Ls S1 I g0 rfl hm (.inl rfl) z y)]
  .rw[if_neg y]
   dsimp[Option.isNone_none,if_true];room;rw[jO I.l,bq,ah]
   refine#[∅,?_];rw[I.n,getD_some]
   refine#[#[rfl,by rw[zx,if_neg y],by rw[RH];omega],?_];have l1:(S1.set (S.length+1) (.df (nz Ls++[(aO h,aO Ls.length)])))[S.length]?=ξ (.lst (Ls.map aO)):=%[ai ∅|I.l]
   room;rw[l1,aK]
   refine#[trivial,(·),?_];have eq:=A6 (h:=h) hm;rwa[Rest.go (go2 (Ls++[h]) _ (I.more y) ?_ (by rw[eq]) (λc' m'=>(hm c' m').imp id λz=>by simp[z]) (.inr rfl) z (#v[]))];rw[eq,ai ∅,ai ∅]
   erw[g0]
def A7.push{S S1:bE}{tk:Nat->Nat}{Ls rs ds:List Nat}{d0 r:Nat}(a:A7 S S1 tk Ls rs ds)(g0:S1[d0]?=ξ (.df (sD (cM SG (gz tk Ls r)))))(hd:S.length+3<=d0)(hm:∀c∈SG,r&&&tk c=0\/r&&&tk c∈Ls)(hl:ds.length=rs.length):A7 S (S1.set (S.length+2) (.lst (ds.map .loc++[.loc d0]))) tk Ls (rs++[r]) (ds++[d0]):=by
 have e:∀(n:Nat)(o o':SO),n≠S.length+2->S1[n]?=ξ o'->(S1.set (S.length+2) o)[n]?=ξ o':=λn o o' ne g=>%[ai (bI ne)|g]
 refine#[#[%[bR|a.x.1],λn hn=>%[ai ∅|a.x.2 n hn]],e _ _ _ ∅ a.l,e _ _ _ ∅ a.n,by rw[gs a.r];simp,λj d r' h1 h2=>?_,λr' m=>?_,a.nd]
 .by_cases hj:j<ds.length
  .rw[aq hj] at h1
   rw[aq ∅] at h2;let#[z1,z2]:=a.d j d r' h1 h2;exact#[z1,e _ _ _ ∅ z2]
  .have:=(ag.mp h1).1
   have ej:j=ds.length:=by simp at this;omega
   subst ej;have e1:d0=d:=by simpa using h1
   have e2:r=r':=by rw[hl] at h2;simpa using h2
   subst e1;subst e2;exact#[hd,e _ _ _ ∅ g0]
 .rcases aT.mp m with m|m
  .erw[a.m r' m]
  .have:r'=r:=by simpa using m
   subst this;erw[hm]
abbrev Gs(tk:Nat->Nat)(Ls rs:List Nat)(j c:Nat):Option Nat:=(rs[j]?).bind λr=>gz tk Ls r c
def C7{tk:Nat->Nat}{Ls rs:List Nat}{j r:Nat}(h:rs[j]?=ξ r):Gs tk Ls rs j=gz tk Ls r:=by
 funext c;unfold Gs;rw[h];rfl
structure Zp(bh en:List Nat)(tk:Nat->Nat)(lots rs:List Nat)(told:List (Option Nat)):Prop where
 z:lots[0]?=ξ 1
 t:∀(j h:Nat),lots[j]?=ξ h->∃o,told[j]?=ξ o/\Zo h en o
 len:told.length=lots.length
 b:∀(j h:Nat),lots[j]?=ξ h->∃r,rs[j]?=ξ r/\Zn bh h r
 m:∀r∈rs,∀c∈SG,r&&&tk c=0\/r&&&tk c∈lots
structure DC(bh:List Nat)(D:Nat->Prop):Prop where
 l:bh.length<=11
 c:∀(q B p:Nat),D q->bh[q]?=ξ B->B.testBit p=ζ->D p
 b:∀p,D p->p<bh.length
structure RcS(tk:Nat->Nat)(D:Nat->Prop)(lots rs:List Nat):Prop where
 p:∀j,0<j->j<lots.length->∃i r c,i<j/\rs[i]?=ξ r/\c∈SG/\lots[j]?=ξ (r&&&tk c)/\r&&&tk c≠0/\Gs tk lots rs i c=ξ j
 d:∀h∈lots,∀p,h.testBit p=ζ->D p
abbrev RJ:Spec:=λus S Q _=>∃P bh en tk,∃D:Nat->Prop,us=[.loc P]/\Jo S P bh en tk/\DC bh D/\D 0 /\
 ∀T told ls lots rs S',Gq S' T told ls (Gs tk lots rs)->(∀d∈ls,S.length<=d)->Ext S S'->Zp bh en tk lots rs told->RcS tk D lots rs->Q (.loc T) S'
def uq{α:Type}{l:List α}{x y:α}{k:Nat}(h:(l++[x])[k]?=ξ y):l[k]?=ξ y\/(k=l.length/\x=y):=by
 by_cases z:k<l.length
 .rw[aq z] at h;erw[.inl h]
 .have:=a4 h
  have e:k=l.length:=by simp at this;omega
  subst e;exact .inr #[rfl,~~~h]
structure VH(S S1:bE)(tk:Nat->Nat)(bh:List Nat)(D:Nat->Prop)(Ls rs ds:List Nat):Prop where
 s:A7 S S1 tk Ls rs ds
 dl:ds.length=rs.length
 le:ds.length<=Ls.length
 z:Ls[0]?=ξ 1
 d:∀h∈Ls,∀p,h.testBit p=ζ->D p
 b:∀(j r:Nat),rs[j]?=ξ r->∃h,Ls[j]?=ξ h/\Zn bh h r
 p:∀(j h:Nat),0<j->Ls[j]?=ξ h->∃i r c,i<j/\rs[i]?=ξ r/\c∈SG/\h=r&&&tk c/\h≠0
def rB{bh L:List Nat}{D:Nat->Prop}(C:DC bh D)(nd:L.Nodup)(hL:∀h∈L,∀p,h.testBit p=ζ->D p):L.length<=2048:=by
 have:=C1 (l':=b9 2048) nd λx hx=>pM.mpr (au (jz λp hp=>C.b p (hL x hx p hp)) (show 2^bh.length<=2048 from ie (n:=2) (j:=11) ⋯ C.l))
 simpa using this
def RK(Γ:bU)(h1:Γ "Places.beyond"=Jq){S S1:bE}{P:Nat}{bh en Ls rs ds:List Nat}{tk:Nat->Nat}{D:Nat->Prop}{x4 x5 x6 x7:Option U}{K:Env->bE->Prop}{Q:KU}{E:Env->KX}(pa:Jo S P bh en tk)(C:DC bh D)(J:VH S S1 tk bh D Ls rs ds)(dl:ds.length<Ls.length)
  (q:∀Ls rs ds' S2 x4 x5 x6 x7,VH S S2 tk bh D Ls rs ds'->ds'.length=ds.length+1->K [ξ (.loc P),ξ (.loc S.length),ξ (.loc (S.length+1)),ξ (.loc (S.length+2)),x4,x5,x6,x7] S2):
  Rest Γ YG #[K,Q,E] [ξ (.loc P),ξ (.loc S.length),ξ (.loc (S.length+1)),ξ (.loc (S.length+2)),x4,x5,x6,x7] S1:=by
 let#[I,hl,hle,hz,hD,hb,hp]:=J;have hh:=af dl;generalize Ls[ds.length]=h at hh;have lb:=rB C I.nd hD;let#[b,e,k,oP,_]:=(pa.ext I.x).o;unfold YG;room;rw[oP,bT,I.l,jO I.r]
 dsimp[bq,aK,ah];refine#[#[trivial,rfl],∅,at_of hh ?_];refine ca h1 #[P,bh,en,tk,h,rfl,pa.ext I.x,aP C.l ⋯,λp hp=>C.b p (hD h (ax hh) p hp),λr S2 hr x2=>?_];have Dr:∀p,r.testBit p=ζ->D p:=λp hp=>by
  let#[q,B,z1,z2,z3]:=(hr p).mp hp;erw[C.c q B p (hD h (ax hh) q z1) z2 z3]
 room;rw[vk]
 refine#[⋯,.inl ?_];have I3:=I.ext (x2.trans (Ext.app [SO.df []]));have g3:(S2++[SO.df []])[S2.length]?=ξ (.df (sD (cM (SG.take 0) (gz tk Ls r)))):=by simp;rfl
 have d3:S.length+3<=S2.length:=by have:=a4 I.r;have:=x2.1;omega
 have n3:∀(j r:Nat),rs[j]?=ξ r->ds[j]?≠ξ S2.length:=λj r hj z=>by
  have:=a4 (I.d j _ r z hj).2;have:=x2.1;omega
 generalize S2.length=d0 at g3 d3 n3;generalize S2++[SO.df []]=S3 at I3 g3;have sgl:SG.length=95:=rfl;have sit:∀(i:Nat)(u:U),(SG.map λc=>U.str [c])[i]?=ξ u->∃c,SG[i]?=ξ c/\u=.str [c]:=λi u hu=>by
  let#[c,hc,rfl]:=fY hu;exact#[c,hc,rfl]
 have sl:(SG.map λc=>U.str [c]).length=95:=rfl;rwa[Rest.go ?_];rw[vj,NZ,NY,w_lit,v_s]
 generalize hM:(SG.map λc=>U.str [c])=M at sit sl;rwa[eh (λm env S4=>∃(Ls':List Nat)(x6 x7:Option U),env=[ξ (.loc P),ξ (.loc S.length),ξ (.loc (S.length+1)),ξ (.loc (S.length+2)),ξ (aO r),ξ (.loc d0),x6,x7]/\A7 S S4 tk Ls' rs ds/\S4[d0]?=ξ (.df (sD (cM (SG.take m) (gz tk Ls' r))))/\(∀c∈SG.take m,r&&&tk c=0\/r&&&tk c∈Ls')/\(∃s,Ls'=Ls++s/\∀h∈s,∃c∈SG,h=r&&&tk c/\h≠0)/\∀h∈Ls',∀p,h.testBit p=ζ->D p) (λ_ _ _ _=>trivial) M ?_ ?_ #[Ls,x6,x7,rfl,I3,g3,#v[],#[[],#v[],λh m=>by cases m],hD]]
 .rintro m u env S4 K' hu ⟨Ls',x6,x7,rfl,I4,g4,m4,⟨s,es,ps⟩,D4⟩ hK
  let#[c,hc,rfl]:=sit m u hu;rwa[VG Γ pa I4 g4 d3 n3 hc m4 (aP (rB C I4.nd D4) ⋯) λLs2 S5 I5 g5 m5 l5=>hK _ _ #[Ls2,_,_,rfl,I5,g5,m5,?_,?_]]
  .rcases l5 with rfl|⟨nz,rfl⟩
   .exact#[s,es,ps]
   .refine#[s++[_],by rw[es,eJ],λh' m'=>?_]
    rcases aT.mp m' with m'|m'
    .erw[ps h' m']
    .have:h'=r&&&tk c:=by simpa using m'
     subst this;exact#[c,ax hc,rfl,nz]
  .rcases l5 with rfl|⟨nz,rfl⟩
   .erw[D4]
   .intro h' m' p hp
    rcases aT.mp m' with m'|m'
    .erw[D4 h' m' p hp]
    .have:h'=r&&&tk c:=by simpa using m'
     subst this;rw[cg,aw] at hp;erw[Dr p hp.1]
 .rintro env S4 ⟨Ls',x6,x7,rfl,I4,g4,m4,hs,D4⟩
  have et:SG.take M.length=SG:=by rw[sl];rfl
  rw[et] at g4 m4;room;rw[I4.r,aK]
  dsimp[true_and];refine#[(·),?_];try room
  let#[s,es,ps]:=hs;rwa[q Ls' _ _ _ _ _ _ _ #[I4.push g4 d3 m4 hl,by simp[hl],%[es,aC,aC|aP dl (jW _ _)],%[es,aq (i9 (bC _) dl)|hz],D4,λj r' hj=>?_,λj h' j0 hj=>?_] (#v[])]
  .rcases uq hj with hj|⟨rfl,rfl⟩
   .let#[h,e1,e2]:=hb j r' hj
    exact#[h,%[es,aq (a4 e1)|e1],e2]
   .exact#[h,by rw[es,<-hl,aq dl];erw[hh],hr]
  .rw[es] at hj
   by_cases z:j<Ls.length
   .rw[aq z] at hj
    let#[i,r',c,e1,e2,e3]:=hp j h' j0 hj;exact#[i,r',c,e1,%[aq (a4 e2)|e2],e3]
   .rw[aB (jU z)] at hj
    let#[c,cm,e1,e2]:=ps h' (ax hj);exact#[rs.length,r,c,∅,#v[],cm,e1,e2]
def RL(Γ:bU)(h2:Γ "Places.first_rule"=Jr)(h3:Γ "Table.__init__"=M6){S S1:bE}{P:Nat}{bh en Ls rs ds:List Nat}{tk:Nat->Nat}{D:Nat->Prop}{x4 x5 x6 x7:Option U}{F:Ends}(pa:Jo S P bh en tk)(C:DC bh D)(J:VH S S1 tk bh D Ls rs ds)(el:Ls.length<=ds.length)
  (q:∀T told ls lots rs S',Gq S' T told ls (Gs tk lots rs)->(∀d∈ls,S.length<=d)->Ext S S'->Zp bh en tk lots rs told->RcS tk D lots rs->F.rt (.loc T) S'):
  Rest Γ YH F [ξ (.loc P),ξ (.loc S.length),ξ (.loc (S.length+1)),ξ (.loc (S.length+2)),x4,x5,x6,x7] S1:=by
 let#[I,hl,hle,hz,hD,inv,hp]:=J;have lb:=rB C I.nd hD;have pa1:=pa.ext I.x;let#[b,e,k,oP,_]:=pa1.o;have rat:∀{j:Nat},j<Ls.length->rs[j]?=ξ (rs.getD j 0):=λ{j}h=>by rw[bc,af (hl▸au h el)];rfl
 unfold YH;room;rw[I.l,aK]
 rwa[fR (Ls.map aO) (λi acc S2=>S2=S1/\∃told:List (Option Nat),acc=told.map uN/\told.length=i/\∀(j h:Nat),j<i->Ls[j]?=ξ h->∃o,told[j]?=ξ o/\Zo h en o) (λi acc S2 hi h9=>?_) (λi u acc S2 k hu hi hk=>?_) (λacc S2 hI=>?_) #[rfl,[],rfl,rfl,λj h hj=>absurd hj (gq j)]]
 .let#[x,told,e1,e2,_]:=h9
  rw[ah] at hi;exact#[x▸I.l,by rw[e1,ah];omega]
 .let#[rfl,told,rfl,e2,inv2]:=hi
  let#[h,hh,rfl]:=fY hu;rw[if_pos rfl,oP,bT]
  refine#[#[rfl,rfl],ca h2 #[P,bh,en,tk,h,rfl,pa1,λo ho=>hk _ _ #[rfl,told++[o],#v[],by simp[e2],λj h' hj hh'=>?_]]];rcases eY.mp hj with y|y
  .let#[o',z1,z2]:=inv2 j h' y hh'
   exact#[o',%[aq (e2▸y)|z1],z2]
  .subst y
   rw[hh] at hh';cases hh';exact#[o,by rw[<-e2];simp,ho]
 .let#[rfl,told,rfl,e2,inv2]:=hI
  rw[ah] at e2 inv2;have x3:Ext S2 (S2++[SO.lst (told.map uN)]):=Ext.app _;have g3:(S2++[SO.lst (told.map uN)])[S2.length]?=ξ (.lst (told.map uN)):=by simp
  have I3:=I.ext x3;generalize S2.length=a at g3;generalize S2++[SO.lst (told.map uN)]=S3 at I3 g3;rwa[ca h3 #[S3.length,a,_,told,rfl,lD,(Ext.app _).get g3,λk' S4 o4 gT gk=>#[rfl,?_]]];have y4:Ext S3 S4:=zw o4;rwa[q _ told ds Ls rs S4 #[#[k',_,gT,gk,y4.get I3.r,λj d hj=>?_,λj c hj=>?_],∅,∅,λj c k hc e=>?_] (λd m=>?_) (I3.x.trans y4) #[hz,λj h hj=>inv2 j h (a4 hj) hj,e2,λj h hj=>?_,I.m] #[λj j0 jl=>?_,hD]]
  .have hr:=rat (au (a4 hj) hle)
   rw[C7 hr]
   erw[y4.get (I3.d j d _ hj hr).2]
  .unfold Gs;rw[dm (hl▸hj)];rfl
  .unfold Gs at e
   let#[r,hr,e]:=ak.mp e;unfold gz at e;split at e
   .cases e
   .rename_i z
    cases e;rw[e2]
    erw[cq ((I.m r (ax hr) c hc).resolve_left z)]
  .let#[j,hj]:=b7 m
   erw[aP (jW _ 3) (I.d j d _ hj (rat (au (a4 hj) hle))).1]
  .have hr:=rat (a4 hj)
   let#[h',e1,e2]:=inv j _ hr;rw[hj] at e1;cases e1;exact#[_,hr,e2]
  .have hj:=af jl
   let#[i,r,c,z1,z2,z3,z4,z5]:=hp j _ j0 hj;rw[z4] at hj z5;refine#[i,r,c,z1,z2,z3,hj,z5,?_];rw[C7 z2]
   unfold gz;rw[if_neg z5,<-(ag.mp hj).2,List.Nodup.idxOf_getElem I.nd]
def VI(Γ:bU)(h1:Γ "Places.beyond"=Jq)(h2:Γ "Places.first_rule"=Jr)(h3:Γ "Table.__init__"=M6):Keeps Γ qT 7 RJ:=by
 rintro us S Q E ⟨P,bh,en,tk,D,rfl,pa,C,D0,q⟩;unfold qT;room;refine#[#v[],?_];room;rw[show ∀env S' Q' E',WE Γ (.df (.cons ↑1 .nil) (.cons ↑0 .nil)) env S' Q' E'=([U.int 1].length<=100/\lY (.int 1)=ζ/\∃v,[U.int 0]=[v]/\Q' (.loc S'.length) (S'++[.df [(.int 1,v)]])) from λ_ _ _ _=>rfl]
 refine#[#v[],rfl,_,rfl,?_];room;refine#[#v[],?_];have ls0:(S++[SO.lst [U.int 1]]).length=S.length+1:=by simp
 have ls1:(S++[SO.lst [U.int 1]]++[SO.df [(U.int 1,U.int 0)]]).length=S.length+2:=by simp
 have I0:VH S (S++[SO.lst [U.int 1]]++[SO.df [(U.int 1,U.int 0)]]++[SO.lst []]) tk bh D [1] [] []:=by
  refine#[#[((Ext.app _).trans (Ext.app _)).trans (Ext.app _),?_,?_,?_,#v[],#v[],#v[]],rfl,#v[],rfl,λh m p hp=>?_,#v[],λj h j0 hj=>?_]
  .exact((Ext.app _).trans (Ext.app _)).get (show(S++[SO.lst [U.int 1]])[S.length]?=_ by simp)
  .exact(Ext.app _).get (show(S++[SO.lst [U.int 1]]++[SO.df [(U.int 1,U.int 0)]])[S.length+1]?=_ by rw[<-ls0,aB (ar _),bQ];rfl)
  .rw[<-ls1,aB (ar _),bQ];rfl
  .have:h=1:=by simpa using m
   subst this;rw[Nat.testBit_one_eq_true_iff_self_eq_zero.mp hp]
   erw[D0]
  .have:=a4 hj
   simp at this;omega
 rw[ls0,ls1]
 generalize S++[SO.lst [U.int 1]]++[SO.df [(U.int 1,U.int 0)]]++[SO.lst []]=S0 at I0;rwa[Rest.go ?_];rw[vj,UD]
 refine#[2050,pd (λN env S1=>∃(Ls rs ds:List Nat)(x4 x5 x6 x7:Option U),N=2048-ds.length/\env=[ξ (.loc P),ξ (.loc S.length),ξ (.loc (S.length+1)),ξ (.loc (S.length+2)),x4,x5,x6,x7]/\VH S S1 tk bh D Ls rs ds) ?_ _ 2048 _ _ ⋯ #[[1],[],[],ψ,ψ,ψ,ψ,rfl,rfl,I0]];rintro N env S1 K ⟨Ls,rs,ds,x4,x5,x6,x7,rfl,rfl,J⟩ hK;have lb:=rB C J.s.nd J.d;have dl:=J.le;room;rw[jO J.s.r,jO J.s.l]
 dsimp[bq,ah];refine#[∅,∅,?_];by_cases z:ds.length<Ls.length
 .have:((ds.length:Int)<(Ls.length:Int)):=Int.ofNat_lt.mpr z
  dsimp[this,decide_true,if_true];erw[RK Γ h1 pa C J z λLs' rs' ds' S2 x4 x5 x6 x7 J2 e=>hK (2048-ds'.length) _ _ ∅ #[Ls',rs',ds',x4,x5,x6,x7,rfl,rfl,J2]]
 .have:¬((ds.length:Int)<(Ls.length:Int)):=λy=>z (Int.ofNat_lt.mp y)
  dsimp[this,decide_false,aD,if_false];erw[RL Γ h2 h3 pa C J (jU z) q]
section
variable{S S1 S2:bE}{X:List Nat}
abbrev Kp(X:List Nat)(S S1:bE):Prop:=S.length<=S1.length/\∀n,n<S.length->n∉X->S1[n]?=S[n]?
def Kp.refl:Kp X S S:=#[ar _,λ_ _ _=>rfl]
def Kp.trans(a:Kp X S S1)(b:Kp X S1 S2):Kp X S S2:=#[aP a.1 b.1,λn h ne=>(b.2 n (au h a.1) ne).trans (a.2 n h ne)]
def Ext.kp(a:Ext S S1):Kp X S S1:=#[a.1,λn h _=>a.2 n h]
def Kp.set(m:n∈X):Kp X S (S.set n o):=#[%[bR|ar _],λk _ ne=>by rw[ai λ(z:n=k)=>ne (by rw[<-z];erw[m])]]
def Kp.get(a:Kp X S S1)(h:S[n]?=ξ o)(m:n∉X):S1[n]?=ξ o:=(a.2 n (a4 h) m).trans h
end
def zy(f:Nat->Option Nat)(h:Nat->Nat):∀G:List Nat,∃ps:List (Nat×Nat),cM G f=ps.map (λp=>([p.1],aO p.2))/\cM G (λc=>(f c).map h)=ps.map (λp=>([p.1],aO (h p.2)))/\(∀p∈ps,p.1∈G/\f p.1=ξ p.2)/\(G.Nodup->(ps.map (·.1)).Nodup)/\ps.length<=G.length
 |[]=>#[[],rfl,rfl,#v[],#v[],#v[]]
 |x::G=>by
  let#[ps,h1,h2,h3,h4,h5]:=zy f h G;unfold cM at h1 h2 ⊢;cases e:f x with
  |none=>exact#[ps,by simp[e,h1],by rw[bX];dsimp[e,tV];erw[h2],λp m=>#[ay _ (h3 p m).1,(h3 p m).2],λnd=>h4 (eG.mp nd).2,(·)]
  |some k=>
   refine#[(x,k)::ps,by simp[e,h1],by rw[bX];dsimp[e,j8,aA];rw[h2],λp m=>?_,λnd=>?_,(·)]
   .rcases aW.mp m with rfl|m
    .exact#[aV ..,e]
    .exact#[ay _ (h3 p m).1,(h3 p m).2]
   .let#[n1,n2]:=eG.mp nd
    rw[aA,eG]
    refine#[λz=>?_,h4 n2];let#[p,m,e']:=bO.mp z;have:=(h3 p m).1;rw[show p.1=x from e'] at this;erw[n1 this]
def RM{Γ:bU}{S:bE}{T nb A R d:Nat}{b:List Nat}{f:Nat->Option Nat}{x4:U}{k:KU}{E:KX}(hb:S[nb]?=ξ (.lst (b.map aO)))(hd:S[d]?=ξ (.df (sD (cM SG f)))\/S[d]?=ξ (.pI (sD (cM SG f))))(hf:∀c k,c∈SG->f c=ξ k->k<b.length)
  (q:∀m S',Ext (S.set d (.pI (sD (cM SG f)))) S'->S.length<=m->S'[m]?=ξ (.df (sD (cM SG λc=>(f c).map λk=>b.getD k 0)))->k (.loc m) S'):WE Γ YI [ξ (.loc T),ξ (.loc nb),ξ (.loc A),ξ (.loc R),ξ x4,ξ (.loc d)] S k E:=by
 unfold YI;have gl:SG.length=95:=rfl;have nd:=C6;let#[ps,e1,e2,e3,e4,e5]:=zy f (λk=>b.getD k 0) SG;have lk:∀p∈ps,se (.str [p.1]) (sD (cM SG f))=ξ (aO p.2):=λp m=>by rw[A5,sE,if_pos (e3 p m).1,(e3 p m).2];rfl
 have kp:∀p∈ps,p.2<b.length:=λp m=>hf p.1 p.2 (e3 p m).1 (e3 p m).2
 rw[e2] at q;have ey:(sD (cM SG f)).map (·.1)=ps.map λp=>U.str [p.1]:=by rw[e1];unfold sD;simp[cH]
 have nd':=e4 nd;generalize cM SG f=rw0 at *;room;have e0:∀R,iA S[d]? R=R (sD rw0):=λR=>by rcases hd with h|h<;>rw[h]<;>rfl
 rw[e0,ey]
 have dl:d<S.length:=by rcases hd with h|h<;>exact a4 h
 have nbd:nb≠d:=λz=>by rcases hd with h|h<;>rw[<-z,hb] at h<;>cases h
 have g1:(S.set d (.pI (sD rw0)))[d]?=ξ (.pI (sD rw0)):=ba dl;have b1:(S.set d (.pI (sD rw0)))[nb]?=ξ (.lst (b.map aO)):=%[ai (bI nbd)|hb]
 have l1:(S.set d (.pI (sD rw0))).length=S.length:=bR;generalize S.set d (.pI (sD rw0))=S1 at g1 b1 q l1;rwa[pe (S:=S1) _ (ps.map λp=>.tup [.str [p.1],aO (b.getD p.2 0)]) (#v[]) ((·)) (λS' x=>x.get g1) (λu S' k h=>h) (λj u v hu hv S2 k x' hk=>?_) λS2 x'=>?_]
 .rw[aE] at hu hv
  let#[p,hp,rfl]:=aj.mp hu;rw[hp] at hv;have hv:U.tup [.str [p.1],aO (b.getD p.2 0)]=v:=by simpa using hv
  subst hv;have m:=ax hp;rw[x'.get g1]
  refine#[rfl,?_];rw[lk p m]
  show getL S2[nb]? _
  rw[x'.get b1,aK]
  erw[sF (kp p m) #[#v[],hk S2 .refl]]
 .refine#[ps.map λp=>([p.1],aO (b.getD p.2 0)),by simp[cH],?_,?_]
  .have:=nd'
   rw[bG]
   show(ps.map λp=>[p.1]).Nodup
   have e:(ps.map λp=>[p.1])=(ps.map (·.1)).map λc=>[c]:=by rw[bG];rfl
   rw[e]
   erw[og _ (λa b h z=>h (Gi z).1) nd']
  .erw[q _ _ (x'.trans ((Ext.app _).trans (Ext.app _))) (by have:=x'.1;rw[aC];omega) (by rw[aB (ar _),bQ];rfl)]
structure SM(told:List (Option Nat))(go:Nat->Nat->Option Nat)(told':List (Option Nat))(go':Nat->Nat->Option Nat)(b reps:List Nat):Prop where
 k:∃m,Gn (told++[ψ]) (gN told.length go) m b/\∀i j,i<(told++[ψ]).length->j<(told++[ψ]).length->Eqv (told++[ψ]) (gN told.length go) m i j->Eqv (told++[ψ]) (gN told.length go) (m+1) i j
 a:∀p,p<told.length->b.getD p 0<reps.length
 len:told'.length=reps.length
 r:∀(r p:Nat),reps[r]?=ξ p->p<told.length/\b.getD p 0=r/\∀p',p'<p->b.getD p' 0<r
 t:∀(r p:Nat),reps[r]?=ξ p->told'.getD r ψ=told.getD p ψ/\∀c,go' r c=(go p c).map λk=>b.getD k 0
abbrev SN(go:Nat->Nat->Option Nat)(b reps:List Nat)(r c:Nat):Option Nat:=(reps[r]?).bind λp=>(go p c).map λk=>b.getD k 0
def JH(h:reps[r]?=ξ p):SN go b reps r=λc=>(go p c).map λk=>b.getD k 0:=by
 funext c;unfold SN;rw[h];rfl
abbrev RO:Spec:=λus S Q _=>∃T told ls go B,us=[.loc T]/\Gq S T told ls go/\0<told.length/\(∀d∈ls,B<=d)/\B<=S.length/\∀T' told' ls' go' b reps S',Gq S' T' told' ls' go'->(∀n,n<B->S'[n]?=S[n]?)->S.length<=S'.length/\(∀d∈ls',S.length<=d)->SM told go told' go' b reps->Q (.loc T') S'
structure M9(S3 S4:bE)(L:Nat)(told:List (Option Nat))(ls:List Nat)(go:Nat->Nat->Option Nat)(b reps ds:List Nat)(i:Nat):Prop where
 k:Kp (L::(L+1)::ls) S3 S4
 a:S4[L]?=ξ (.lst ((reps.map λp=>told.getD p ψ).map uN))
 r:S4[L+1]?=ξ (.lst (ds.map .loc))
 dl:ds.length=reps.length
 od:∀(j d:Nat),ls[j]?=ξ d->S4[d]?=ξ (.df (sD (cM SG (go j))))\/S4[d]?=ξ (.pI (sD (cM SG (go j))))
 nw:∀(r d p:Nat),ds[r]?=ξ d->reps[r]?=ξ p->S3.length<=d/\S4[d]?=ξ (.df (sD (cM SG λc=>(go p c).map λk=>b.getD k 0)))
 ib:∀p,p<i->b.getD p 0<reps.length
 ir:∀(r p:Nat),reps[r]?=ξ p->p<i/\b.getD p 0=r/\∀p',p'<p->b.getD p' 0<r
 rl:reps.length<=i
section
variable{S3 S4 S6:bE}{L i d m:Nat}{told:List (Option Nat)}{ls b reps ds:List Nat}{go:Nat->Nat->Option Nat}
def M9.old(a:M9 S3 S4 L told ls go b reps ds i)(h:b.getD i 0<reps.length):M9 S3 S4 L told ls go b reps ds (i+1):=
 #[a.k,a.a,a.r,a.dl,a.od,a.nw,λp hp=>(eY.mp hp).elim (a.ib p) λe=>e▸h,λr p e=>#[a8 (a.ir r p e).1,(a.ir r p e).2],mH a.rl]
def M9.push(a:M9 S3 S4 L told ls go b reps ds i)(hz:b.getD i 0=reps.length)(hd:ls[i]?=ξ d)(lo:∀(j d:Nat),ls[j]?=ξ d->d<L/\S3[d]?=ξ (.df (sD (cM SG (go j)))))(l3:S3.length=L+2)
  (x6:Ext ((S4.set L (.lst (((reps++[i]).map λp=>told.getD p ψ).map uN))).set d (.pI (sD (cM SG (go i))))) S6) (ml:S4.length<=m) (g6:S6[m]?=ξ (.df (sD (cM SG λc=>(go i c).map λk=>b.getD k 0)))):
  M9 S3 (S6.set (L+1) (.lst (ds.map .loc++[.loc m]))) L told ls go b (reps++[i]) (ds++[m]) (i+1):=by
 have dL:=(lo i d hd).1;have lr:=a4 a.r;have lk:=a.k.1;have get:∀(n:Nat)(o:SO),n≠L->n≠L+1->n≠d->S4[n]?=ξ o->(S6.set (L+1) (.lst (ds.map .loc++[.loc m])))[n]?=ξ o:=λn o h1 h2 h3 e=>by
  rw[ai (bI h2)]
  erw[x6.get (by rw[ai (bI h3),ai (bI h1)];exact e)]
 have g1:S6[L+1]?=ξ (.lst (ds.map .loc)):=x6.get (%[ai (a6 (a8 dL)),ai (a6 (b4 L))|a.r]);have mX:d∈L::(L+1)::ls:=by simp[ax hd]
 refine#[(a.k.trans ((Kp.set (#v[])).trans (Kp.set mX))).trans ((Ext.kp x6).trans (Kp.set (#v[]))),?_,by rw[gs g1];simp,by simp[a.dl],λj d' hj=>?_,λr d' p e1 e2=>?_,λp hp=>?_,λr p e=>?_,%[aC|fu a.rl]]
 .rw[ai (cw (b4 L))]
  erw[x6.get (by rw[ai (a6 dL)];exact gs a.a)]
 .by_cases y:d'=d
  .subst y
   have e:sD (cM SG (go j))=sD (cM SG (go i)):=by
    have:=(lo j d' hj).2;rw[(lo i d' hd).2] at this;injection this with this;injection this with this
    erw[this.symm]
   rw[e,ai (cw (a8 dL))]
   erw[.inr (x6.get (ba (by rw[bR];exact lG dL (Nat.lt_of_succ_lt lr))))]
  .have dl:=(lo j d' hj).1
   have ne:=a6 dl;exact(a.od j d' hj).imp (get _ _ ne (a6 (a8 dl)) y) (get _ _ ne (a6 (a8 dl)) y)
 .rcases uq e1 with e1|⟨rfl,rfl⟩
  .have hr:=a4 e1
   rw[aq (a.dl▸hr)] at e2;let#[z1,z2]:=a.nw r d' p e1 e2;rw[l3] at z1;exact#[l3▸z1,get _ _ (cw (au (a8 (b4 L)) z1)) (cw z1) (cw (au (a8 (a8 dL)) z1)) z2]
  .have f2:i=p:=by rw[a.dl] at e2;simpa using e2
   subst f2;exact#[aP lk ml,%[ai (a6 (au lr ml))|g6]]
 .rw[aC]
  rcases eY.mp hp with y|y
  .erw[a8 (a.ib p y)]
  .rw[y,hz];erw[b4 _]
 .rcases uq e with e|⟨rfl,rfl⟩
  .let#[z1,z2]:=a.ir r p e
   exact#[a8 z1,z2]
  .exact#[b4 _,hz,a.ib]
end
def Na(Γ:bU){S3 S4:bE}{L i d m T kk R:Nat}{told:List (Option Nat)}{ls b reps ds:List Nat}{go:Nat->Nat->Option Nat}{K:Env->bE->Prop}{Q:KU}{E:Env->KX}(a:M9 S3 S4 L told ls go b reps ds i)(gT:S4[T]?=ξ (M5 kk told R))(gm:S4[m]?=ξ (.lst (b.map aO)))(mL:m≠L)(hd:ls[i]?=ξ d)(lo:∀(j d:Nat),ls[j]?=ξ d->d<L/\S3[d]?=ξ (.df (sD (cM SG (go j)))))(l3:S3.length=L+2)(hb:i<b.length)(le:b.getD i 0<=reps.length)(r4:i<=4000)(tl:told.length<=4000)(cl:∀c k,c∈SG->go i c=ξ k->k<b.length)(ht:told[i]?=ξ (told.getD i ψ))
  (q:∀reps ds S',M9 S3 S' L told ls go b reps ds (i+1)->K [ξ (.loc T),ξ (.loc m),ξ (.loc L),ξ (.loc (L+1)),ξ (aO i),ξ (.loc d)] S'):
  Rest Γ YJ #[K,Q,E] [ξ (.loc T),ξ (.loc m),ξ (.loc L),ξ (.loc (L+1)),ξ (aO i),ξ (.loc d)] S4:=by
 unfold YJ;have rl:=a.rl;have dl:=a.dl;room;rw[gm,aK]
 rwa[sF hb ?_];rw[jO a.r]
 dsimp[bq,ah];refine#[∅,?_];try room
 by_cases z:b.getD i 0=reps.length
 .have z':(((b.getD i 0:Nat):Int)== (ds.length:Int))=ζ:=by rw[beq_iff_eq,z,dl]
  dsimp[z',if_true];room;rw[a.a,aK,C5 gT]
  room;refine#[by rw[ah];omega,at_of ht #[by rw[ah,ah];omega,?_]];have dL:=lo i d hd;have eA:(reps.map λp=>told.getD p ψ).map uN++[uN (told.getD i ψ)]=((reps++[i]).map λp=>told.getD p ψ).map uN:=by rw[aN,aN];rfl
  rw[eA]
  have g1:(S4.set L (.lst (((reps++[i]).map λp=>told.getD p ψ).map uN)))[L+1]?=ξ (.lst (ds.map .loc)):=%[ai (a6 (b4 L))|a.r]
  have g2:∀{n:Nat}{o:SO},n≠L->S4[n]?=ξ o->(S4.set L (.lst (((reps++[i]).map λp=>told.getD p ψ).map uN)))[n]?=ξ o:=λ{n o}h e=>%[ai (bI h)|e]
  room;rw[g1,aK]
  refine#[trivial,RM (g2 mL gm) ((a.od i d hd).imp (g2 (a6 dL.1)) (g2 (a6 dL.1))) cl λm6 S6 x6 m6l g6=>?_];rw[bR] at m6l;have g6':S6[L+1]?=ξ (.lst (ds.map .loc)):=x6.get (%[ai (a6 (a8 dL.1))|g1]);rw[g6',aK]
  refine#[by rw[ah];omega,?_];try room
  erw[q _ _ _ (a.push z hd lo l3 x6 m6l g6)]
 .have z':(((b.getD i 0:Nat):Int)== (ds.length:Int))=ϑ:=by rw[beq_eq_false_iff_ne];omega
  dsimp[z',aD,if_false];room;erw[q _ _ _ (a.old (GK le z))]
def VJ(Γ:bU)(h1:Γ "rounds"=M4)(h2:Γ "with_nowhere"=M3)(h3:Γ "Table.__init__"=M6):Keeps Γ m8 5 RO:=by
 rintro us S Q E ⟨T,told,ls,go,B,rfl,h,h0,hB,hBl,q⟩;unfold m8;let#[kk,R,hT,hk,hR]:=h.o;have hl:=h.ll;have sz:=h.sz;room;rw[C5 hT]
 room;refine#[#v[],#[λz=>by rw[EN.mp z] at h0;erw[cV _ h0],(·)],?_];rw[JG hT]
 rwa[ca h2 #[R,ls,go,rfl,hR,∅,λnr S1 ms x1 ml Rw1=>?_]];have eN:(told++[ψ]).length=told.length+1:=by simp
 rwa[ca h1 #[nr,ms,gN ls.length go,told++[ψ],by rw[aN];rfl,Rw1,∅,∅,∅,λj c hj hc=>?_,λF fs S2 x2 gF Rs=>?_]]
 .unfold gN
  cases e:go j c with
  |none=>show ls.length<_;omega
  |some k=>have:=h.cl j c k hc e;show k<_;omega
 have x12:=x1.trans x2;obtain⟨fs0,m,rfl⟩:∃fs0 m,fs=fs0++[m]:=by
  rcases List.eq_nil_or_concat fs with z|⟨a,b,z⟩
  .erw[absurd z Rs.ne]
  .exact#[a,b,by rw[z,List.concat_eq_append]]
 let#[b,gm,rb]:=Rs.r fs0.length m (#v[]);have st:=Rs.st;rw[hl,show(fs0++[m]).length=fs0.length+1 by simp] at st;rw[hl] at rb;room;rw[gF,aK,aN,show [m].map U.loc=[.loc m] from rfl,uo,bq]
 room;refine#[#v[],?_];room;refine#[#v[],?_];have bl:=rb.len;rw[eN] at bl;have nX:∀(n:Nat)(o:SO),S2[n]?=ξ o->(∀j,o≠.df (sD (cM SG (go j))))->n∉S2.length::(S2.length+1)::ls:=λn o hn ho z=>by
  have:=a4 hn;rcases aW.mp z with z|z
  .omega
  .rcases aW.mp z with z|z
   .omega
   .let#[j,hj]:=b7 z
    have:=x12.get (hR.d j n hj);rw[hn] at this;erw[ho j (aG this)]
 have nT:=nX T _ (x12.get hT) (by intro j;unfold M5;intro z;cases z);have nR:=nX R _ (x12.get hR.l) (by intro j z;cases z);have nm:=nX m _ gm (by intro j z;cases z);have ls0:(S2++[SO.lst []]).length=S2.length+1:=by simp
 have y3:Ext S2 (S2++[SO.lst []]++[SO.lst []]):=(Ext.app _).trans (Ext.app _);have gA:(S2++[SO.lst []]++[SO.lst []])[S2.length]?=ξ (.lst []):=(Ext.app _).get (#v[]);have gR:(S2++[SO.lst []]++[SO.lst []])[S2.length+1]?=ξ (.lst []):=by rw[<-ls0,aB (ar _),bQ];rfl
 rw[ls0]
 have l3:(S2++[SO.lst []]++[SO.lst []]).length=S2.length+2:=by simp
 generalize S2++[SO.lst []]++[SO.lst []]=S3 at y3 gA gR l3;have x3:=x12.trans y3;room;rw[JG (x3.get hT)]
 room;rw[x3.get hR.l,aK]
 have fst':=zu b [];rw[rb.fx] at fst';have lo:∀(j d:Nat),ls[j]?=ξ d->d<S2.length/\S3[d]?=ξ (.df (sD (cM SG (go j)))):=λj d e=>#[a4 (x12.get (hR.d j d e)),x3.get (hR.d j d e)]
 rwa[eh (λi env S4=>∃(reps ds:List Nat)(x4 x5:Option U),env=[ξ (.loc T),ξ (.loc m),ξ (.loc S2.length),ξ (.loc (S2.length+1)),x4,x5]/\M9 S3 S4 S2.length told ls go b reps ds i) (λi env S4 h9=>?_) _ ?_ ?_ #[[],[],ψ,ψ,rfl,.refl,gA,gR,rfl,λj d e=>.inl (lo j d e).2,#v[],λp hp=>absurd hp (gq p),#v[],ar _]]
 .let#[_,_,_,_,_,a]:=h9
  erw[a.k.get (x3.get hR.l) nR]
 .rintro i u env S4 K hu ⟨reps,ds,x4,x5,rfl,a⟩ hK
  dsimp[dA,aE,oO] at hu;let#[d,hd,rfl]:=aj.mp hu;have hi:=a4 hd;have ht:told[i]?=ξ (told.getD i ψ):=by rw[bc,af (hl▸hi)];rfl
  dsimp[cH,LJ];rwa[Na Γ a (a.k.get (x3.get hT) nT) (a.k.get (y3.get gm) nm) (a6 (a4 gm)) hd lo l3 ∅ ?_ ∅ sz (λc k hc e=>lG (h.cl i c k hc e) ∅) ht λreps ds S' a'=>hK _ _ #[reps,ds,_,_,rfl,a']]
  have gi:=gd (b:=b) (i:=i) ∅;have ib:=a.ib
  clear a hK lo
  cases e:b.getD i 0 with
  |zero=>erw[bC _]
  |succ v=>
   rw[e] at gi;rcases fst' i v gi with z|⟨p,hp,e'⟩
   .erw[absurd z (gq v)]
   .have:=ib p hp
    rw[bc,e'] at this;erw[this]
 .rintro env S4 ⟨reps,ds,x4,x5,rfl,a⟩
  obtain⟨k4,gA4,gR4,dl,-,nw,ib,ir,rl⟩:=a;rw[i5,ah,hl] at ib ir rl;room;refine ca h3 #[S4.length,_,_,_,rfl,lD,(Ext.app _).get gA4,λk' S5 o5 gT gk=>#[rfl,?_]];have y5:Ext S4 S5:=zw o5;have t':∀(r p:Nat),reps[r]?=ξ p->(reps.map λp=>told.getD p ψ).getD r ψ=told.getD p ψ/\∀c,SN go b reps r c=(go p c).map λk=>b.getD k 0:=λr p e=>by
   refine#[by rw[bc,aE,e];rfl,λc=>by rw[JH e]]
  rwa[q _ (reps.map λp=>told.getD p ψ) ds (SN go b reps) b reps S5 #[#[k',_,gT,gk,y5.get gR4,λj d hj=>?_,λj c hj=>?_],%[ah|dl],by rw[ah];omega,λj c k hc e=>?_] (λn hn=>?_) #[aP x3.1 (aP k4.1 y5.1),λd m=>let ⟨j,hj⟩:=b7 m;aP x3.1 (nw j d _ hj (af (show j<reps.length from dl▸a4 hj))).1] #[#[fs0.length,rb,st],ib,#v[],ir,t']]
  .have hr:=af (show j<reps.length from dl▸a4 hj)
   rw[JH hr]
   erw[y5.get (nw j d _ hj hr).2]
  .unfold SN;rw[dm (dl▸hj)];rfl
  .unfold SN at e
   let#[p,hp,e]:=ak.mp e;let#[v,hv,e]:=aj.mp e;subst e;rw[ah]
   erw[ib v (h.cl p c v hc hv)]
  .have nS:n<S.length:=au hn hBl
   have n2:=au nS x12.1;have n3:=au nS x3.1;rw[y5.2 n (au n3 k4.1),k4.2 n n3 (λz=>?_),x3.2 n nS]
   rcases aW.mp z with z|z
   .erw[a6 n2 z]
   .rcases aW.mp z with z|z
    .erw[a6 (a8 n2) z]
    .erw[uH hn (hB n z)]
abbrev Ap(D:List Nat->Prop)(r:Nat)(y:List Nat):Prop:=∃w:List Nat,w.length<=r/\D (y++w)
abbrev Fs(P:Nat->Prop)(c:Nat):Prop:=∃i:Nat,SG[i]?=ξ c/\P c/\∀j c',j<i->SG[j]?=ξ c'->¬P c'
inductive Dw(D:List Nat->Prop)(r:Nat):List Nat->Prop
 |nil:Dw D r []
 |snoc{x:List Nat}{c:Nat}:Dw D r x->Fs (λc=>Ap D (r-1-x.length) (x++[c])) c->Dw D r (x++[c])
abbrev VL(D:List Nat->Prop):Option (List Nat)->Prop
 |none=>∀w,¬D w
 |some x=>Ap D x.length []/\(∀k,k<x.length->¬Ap D k [])/\Dw D x.length x
def Zq(h:Ap D 0 y):D y:=by
 let#[w,l,d]:=h;have:=fO (EL.mp l);subst this;rw[cb] at d;erw[d]
def VM(hD:∀w,D w->∀c∈w,c∈SG):Ap D (k+1) y↔Ap D k y\/∃c,c∈SG/\Ap D k (y++[c]):=by
 constructor
 .rintro⟨w,l,d⟩
  cases w with
  |nil=>erw[.inl #[[],bC _,d]]
  |cons c w=>
   rwa[.inr #[c,hD _ d c (#v[]),w,Nat.le_of_succ_le_succ l,?_]];rw[eJ];erw[d]
 .rintro(⟨w,l,d⟩|⟨c,_,w,l,d⟩)
  .exact#[w,mH l,d]
  .refine#[c::w,fu l,?_]
   rw[eJ] at d;erw[d]
section
variable{told:List (Option Nat)}{g:Nat->Nat->Nat}{p q:Nat}{D:List Nat->Prop}
def sG(hD:∀w,D w↔(∀c∈w,c∈SG)/\told[w.foldl g p]?≠told[w.foldl g q]?):∀(k:Nat)(y:List Nat),(∀c∈y,c∈SG)->(Eqv told g k (y.foldl g p) (y.foldl g q)↔¬Ap D k y)
 |0,y,hy=>by
  constructor
  .intro e a
   exact((hD y).mp (Zq a)).2 e
  .intro n
   rwa[kM λz=>n #[[],ar _,?_]]
   rw[cb]
   exact(hD y).mpr #[hy,z]
 |k+1,y,hy=>by
  have sg:∀c,c∈SG->∀c'∈y++[c],c'∈SG:=λc hc c' m=>by
   rcases aT.mp m with m|m
   .erw[hy _ m]
   .have:c'=c:=by simpa using m
    rw[this];erw[hc]
  have st:∀c r,(y++[c]).foldl g r=g (y.foldl g r) c:=λc r=>by rw[GL];rfl
  rw[VM λw h=>((hD w).mp h).1]
  constructor
  .rintro⟨e1,e2⟩ (a|⟨c,hc,a⟩)
   .exact(sG hD k y hy).mp e1 a
   .refine(sG hD k (y++[c]) (sg c hc)).mp ?_ a
    rw[st,st];erw[e2 c hc]
  .intro n
   refine#[(sG hD k y hy).mpr λa=>n (.inl a),λc hc=>?_];have:=(sG hD k (y++[c]) (sg c hc)).mpr λa=>n (.inr #[c,hc,a])
   rw[st,st] at this;erw[this]
def vL(hc:∀j c,j<N->c∈SG->g j c<N)(h:∀i j,i<N->j<N->Eqv told g m i j->Eqv told g (m+1) i j):∀k i j,i<N->j<N->Eqv told g m i j->Eqv told g (m+k) i j
 |0,_,_,_,_,e=>e
 |k+1,i,j,hi,hj,e=>#[vL hc h k i j hi hj e,λc m'=>vL hc h k _ _ (hc i c hi m') (hc j c hj m') ((h i j hi hj e).2 c m')]
end
abbrev gJ(n:Nat)(g1 g2:Nat->Nat->Option Nat)(j c:Nat):Option Nat:=if j<n then g1 j c else(g2 (j-n) c).map (·+n)
def A8{go:Nat->Nat->Option Nat}:∀w:List Nat,w.foldl (λs c=>s.bind λj=>go j c) ψ=ψ
 |[]=>rfl
 |_::w=>A8 w
def rO(h:∀c,f N c=N):∀w:List Nat,w.foldl f N=N
 |[]=>rfl
 |c::w=>%[om,h|rO h w]
def zz{f:Nat->Nat->Nat}{N n:Nat}{e:Nat->Nat}{go:Nat->Nat->Option Nat}(hN:∀c,f N c=N)(cl:∀j c k,c∈SG->go j c=ξ k->k<n)(hf:∀j c,j<n->f (e j) c=((go j c).map e).getD N):∀(w:List Nat)(j:Nat),j<n->(∀c∈w,c∈SG)->(w.foldl (λs c=>s.bind λj=>go j c) (ξ j)=ψ/\w.foldl f (e j)=N)\/∃k,k<n/\w.foldl (λs c=>s.bind λj=>go j c) (ξ j)=ξ k/\w.foldl f (e j)=e k
 |[],j,hj,_=>.inr #[j,hj,rfl,rfl]
 |c::w,j,hj,hw=>by
  rw[om,om,hf j c hj]
  show(w.foldl _ (go j c)=ψ/\_)\/∃k,k<n/\w.foldl _ (go j c)=ξ k/\_
  cases h:go j c with
  |none=>erw[.inl #[A8 w,rO hN w]]
  |some k=>erw[zz hN cl hf w k (cl j c k (hw c (#v[])) h) λc' m=>hw c' (ay _ m)]
section
variable{t1 t2:List (Option Nat)}{g1 g2:Nat->Nat->Option Nat}
def gd'{t:List (Option Nat)}{j:Nat}(h:j<t.length):t[j]?=ξ (t.getD j ψ):=by rw[bc,af h];rfl
def VN(z2:∀j c,t2.length<=j->g2 j c=ψ)(c:Nat):gN (t1.length+t2.length) (gJ t1.length g1 g2) (t1.length+t2.length) c=t1.length+t2.length:=by
 unfold gN gJ;rw[if_neg ∅,z2 _ _ ∅];rfl
def VO(c1:∀j c k,c∈SG->g1 j c=ξ k->k<t1.length)(z2:∀j c,t2.length<=j->g2 j c=ψ)(h1:0<t1.length){w:List Nat}(hw:∀c∈w,c∈SG):(t1++t2++[ψ])[w.foldl (gN (t1.length+t2.length) (gJ t1.length g1 g2)) 0]?=ξ (fst t1 g1 w):=by
 rcases zz (e:=id) (VN (g1:=g1) z2) c1 (λj c hj=>by show gN _ _ j c=_;unfold gN gJ;rw[if_pos hj];cases g1 j c<;>rfl) w 0 h1 hw with⟨a,b⟩|⟨k,hk,a,b⟩
 .have b':w.foldl (gN (t1.length+t2.length) (gJ t1.length g1 g2)) 0=t1.length+t2.length:=b
  rw[b'];unfold fst Kh;rw[a,<-aC];simp
 .have b':w.foldl (gN (t1.length+t2.length) (gJ t1.length g1 g2)) 0=k:=b
  rw[b'];unfold fst Kh;rw[a,eJ,aq hk];erw[gd' hk]
def VP(c2:∀j c k,c∈SG->g2 j c=ξ k->k<t2.length)(z2:∀j c,t2.length<=j->g2 j c=ψ)(h2:0<t2.length){w:List Nat}(hw:∀c∈w,c∈SG):(t1++t2++[ψ])[w.foldl (gN (t1.length+t2.length) (gJ t1.length g1 g2)) t1.length]?=ξ (fst t2 g2 w):=by
 have r:=zz (e:=(·+t1.length)) (VN (t1:=t1) (g1:=g1) z2) c2 (λj c hj=>by show gN _ _ (j+t1.length) c=_;unfold gN gJ;rw[if_neg ∅,lW]) w 0 h2 hw;rw[oj] at r;rcases r with⟨a,b⟩|⟨k,hk,a,b⟩
 .rw[b];unfold fst Kh;rw[a,<-aC];simp
 .rw[b];unfold fst Kh;rw[a,eJ,aB ∅,lW,aq hk];erw[gd' hk]
def Oh(c1:∀j c k,c∈SG->g1 j c=ξ k->k<t1.length)(c2:∀j c k,c∈SG->g2 j c=ξ k->k<t2.length)(j c:Nat)(hc:c∈SG):gN (t1.length+t2.length) (gJ t1.length g1 g2) j c<(t1++t2++[ψ]).length:=by
 have l:(t1++t2++[ψ]).length=t1.length+t2.length+1:=by rw[aC,aC];rfl
 rw[l]
 unfold gN gJ;split
 .cases e:g1 j c with
  |none=>erw[b4 _]
  |some k=>have:=c1 j c k hc e;erw[au this ∅]
 .cases e:g2 (j-t1.length) c with
  |none=>erw[b4 _]
  |some k=>have:=c2 _ c k hc e;show k+t1.length<_;omega
end
open PL.HX
def JI:∀l:List Nat,(∃c∈l,p c=ζ)->∃(c:Nat)(r:List Nat)(i:Nat),l.filter p=c::r/\l[i]?=ξ c/\p c=ζ/\∀j c',j<i->l[j]?=ξ c'->¬p c'=ζ
 |[],h=>by let#[c,m,_]:=h;cases m
 |a::l,h=>by
  by_cases z:p a=ζ
  .exact#[a,l.filter p,0,by rw[iw,if_pos z],rfl,z,λj c' hj=>absurd hj (gq _)]
  .let#[c,m,hc]:=h
   have m':c∈l:=by
    rcases aW.mp m with e|e
    .rw[e] at hc;erw[absurd hc z]
    .erw[e]
   let#[c',r,i,e1,e2,e3,e4]:=JI l #[c,m',hc];refine#[c',r,i+1,%[iw,if_neg z|e1],e2,e3,λj d hj e=>?_];cases j with
   |zero=>
    have:a=d:=by simpa using e
    rw[<-this];erw[z]
   |succ j=>erw[e4 j d (Nat.lt_of_succ_lt_succ hj) e]
def sH(p:Nat->Bool)(hg:g S)(he:∀n k,k (.str [n]) S->e (.str [n]) S k):
  ∀(l:List Nat)(acc:List U),(∀n∈l,∀k,k (p n) S->c (.str [n]) S k)->acc.length+l.length<1000000->Q (acc++(l.filter p).map kG) S->lM g c e Q (l.map λn=>.str [n]) acc S
 |[],acc,_,hl,q=>#[hg,~~~hl,~~~q]
 |n::l,acc,hc,hl,q=>by
  dsimp[a5] at hl;refine#[hg,∅,hc n (#v[]) _ ?_];have hc':∀m∈l,∀k,k (p m) S->c (.str [m]) S k:=λm h=>hc m (ay _ h)
  by_cases h:p n=ζ
  .rw[h]
   rwa[he n _ ?_];rwa[sH p hg he l _ hc' ((·)) ?_];rw[iw,if_pos h] at q;simpa[kG] using q
  .rw[Kf] at h
   rw[h]
   rwa[sH p hg he l _ hc' ∅ ?_];rw[iw,if_neg (by rw[h];decide)] at q;erw[q]
def two_le:[a,b].length<=1000000:=by show 2<=1000000;decide
abbrev RP:Spec:=λus S Q _=>∃(n i j:Nat)(b:List Nat),us=[.loc n,.tup [aO i,aO j]]/\S[n]?=ξ (.lst (b.map aO))/\i<b.length/\j<b.length/\Q (.bl (!(b.getD i 0==b.getD j 0))) S
def RQ(h:q (!(a==b))):ig .ne (aO a) (aO b) S q:=by
 show ig .ne (.int _) (.int _) S q
 rw[Us]
 refine#[rfl,?_];rw[LW]
 have:(((a:Nat):Int)== ((b:Nat):Int))=(a==b):=by
  rw[cA,beq_iff_eq,beq_iff_eq];omega
 rw[this];erw[h]
def VQ(Γ:bU):Keeps Γ lQ 0 RP:=by
 rintro us S Q E ⟨n,i,j,b,rfl,h,hi,hj,q⟩;unfold lQ;room;refine#[two_le,?_];show DQ (.loc n) (.int ((i:Nat):Int)) S _;rw[HS,h,aK]
 rwa[sF hi #[two_le,?_]];show DQ (.loc n) (.int ((j:Nat):Int)) S _;rw[HS,h,aK]
 erw[sF hj (RQ q)]
abbrev JJ:Spec:=λus S Q _=>∃(n i j c:Nat)(ls:List Nat)(g:Nat->Nat->Nat),us=[.loc n,.tup [aO i,aO j],.str [c]]/\Rw S n ls g/\i<ls.length/\j<ls.length/\c∈SG/\Q (.tup [aO (g i c),aO (g j c)]) S
def Oi(R:Rw S n ls g)(hi:i<ls.length)(hc:c∈SG)(q:r (aO (g i c))):DQ (.loc n) (aO i) S λv=>LM v (.str [c]) S r:=by
 show DQ (.loc n) (.int ((i:Nat):Int)) S _
 rw[HS,R.l,aK]
 have e:ls[i]?=ξ ls[i]:=af hi;rwa[at_of e ?_];rw[Ux,R.d _ _ e]
 refine#[rfl,?_];rw[vK hc]
 erw[q]
def VR(Γ:bU):Keeps Γ iM 0 JJ:=by
 rintro us S Q E ⟨n,i,j,c,ls,g,rfl,R,hi,hj,hc,q⟩;unfold iM;room;exact#[two_le,Oi R hi hc #[two_le,Oi R hj hc #[two_le,q]]]
abbrev Nb:Spec:=λus S Q _=>∃(nb nr i j:Nat)(b ls:List Nat)(g:Nat->Nat->Nat),us=[.loc nb,.loc nr,.tup [aO i,aO j]]/\S[nb]?=ξ (.lst (b.map aO))/\Rw S nr ls g/\i<ls.length/\j<ls.length/\(∀c∈SG,g i c<b.length/\g j c<b.length)/\(∃c∈SG,b.getD (g i c) 0≠b.getD (g j c) 0) /\
 ∀c S',Fs (λc=>b.getD (g i c) 0≠b.getD (g j c) 0) c->Ext S S'->Q (.str [c]) S'
def VS(Γ:bU)(h1:Γ "are_apart"=RP)(h2:Γ "states_behind"=JJ):Keeps Γ kD 0 Nb:=by
 rintro us S Q E ⟨nb,nr,i,j,b,ls,g,rfl,hb,R,hi,hj,hg,⟨c0,m0,n0⟩,q⟩;unfold kD pSa;let#[c,r,i0,e1,e2,e3,e4]:=JI (p:=λc=>!(b.getD (g i c) 0==b.getD (g j c) 0)) SG #[c0,m0,~~~n0];have gl:SG.length=95:=rfl;have hF:Fs (λc=>b.getD (g i c) 0≠b.getD (g j c) 0) c:=#[i0,e2,~~~e3,λj' c' a d=>by have:=e4 j' c' a d;simpa using this]
 have hR:∀c∈SG,∀(k:KU)E',k (.bl (!(b.getD (g i c) 0==b.getD (g j c) 0))) S->Γ "states_behind" [.loc nr,.tup [aO i,aO j],.str [c]] S (λu S1=>Γ "are_apart" [.loc nb,u] S1 k E') E':=λc hc k E' z=>by
  rw[h2]
  refine#[nr,i,j,c,ls,g,rfl,R,hi,hj,hc,?_];rw[h1]
  exact#[nb,_,_,b,rfl,hb,(hg c hc).1,(hg c hc).2,z]
 generalize SG=G at *;room;rwa[sH (λc=>!(b.getD (g i c) 0==b.getD (g j c) 0)) trivial (λ_ _ z=>z) G [] (λn hn k z=>hR n hn _ _ z) (by rw[gl];decide) ?_];rw[e1]
 have x:Ext S (S++[SO.lst ([]++(c::r).map kG)]):=Ext.app _;rw[show(S++[SO.lst ([]++(c::r).map kG)])[S.length]?=ξ (SO.lst ((c::r).map kG)) by simp,aK]
 erw[at_of (f:=kG) (l:=c::r) (j:=0) rfl (q c _ hF x)]
abbrev uS:Option (List Nat)->U
 |none=>.bK
 |some x=>.str x
def RS(h:∀c∈SG,P c↔P' c)(f:Fs P c):Fs P' c:=by
 let#[i,e,a,n]:=f;exact#[i,e,(h c (ax e)).mp a,λj c' hj e' z=>n j c' hj e' ((h c' (ax e')).mpr z)]
def fold_lt(hc:∀j c,j<N->c∈SG->g j c<N):∀(w:List Nat)(p:Nat),p<N->(∀c∈w,c∈SG)->w.foldl g p<N
 |[],_,hp,_=>hp
 |c::w,p,hp,hw=>fold_lt hc w _ (hc p c hp (hw c (#v[]))) λc' m=>hw c' (ay _ m)
def Ey(h:∀c∈x,c∈SG)(hc:c∈SG):∀c'∈x++[c],c'∈SG:=λc' m=>by
 rcases aT.mp m with m|m
 .erw[h _ m]
 .have:c'=c:=by simpa using m
  rw[this];erw[hc]
abbrev RT:Spec:=λus S Q _=>∃(F nr p q:Nat)(fs ls:List Nat)(g:Nat->Nat->Nat)(told:List (Option Nat))(D:List Nat->Prop),us=[.loc F,.loc nr,.tup [aO p,aO q]]/\S[F]?=ξ (.lst (fs.map .loc))/\JF told g S fs/\Rw S nr ls g/\told.length=ls.length/\ls.length<=9000/\(∀j c,j<told.length->c∈SG->g j c<told.length)/\p<told.length/\q<told.length/\(∀w,D w↔(∀c∈w,c∈SG)/\told[w.foldl g p]?≠told[w.foldl g q]?) /\
 ∀res S',VL D res->(∀x,res=ξ x->x.length<=9000)->Ext S S'->Q (uS res) S'
structure Zr(D:List Nat->Prop)(k i:Nat)(x:List Nat):Prop where
 l:x.length=i
 w:Dw D k x
 s:∀c∈x,c∈SG
 a:Ap D (k-i) x
def Nc(Γ:bU)(h2:Γ "states_behind"=JJ)(h3:Γ "sign_apart"=Nb)(kl:k<=9001)(Rs:JF told g S fs)(R:Rw S nr ls g)(tl:told.length=ls.length)(hc:∀j c,j<told.length->c∈SG->g j c<told.length)(hp:p<told.length)(hq:q<told.length)(hD:∀w,D w↔(∀c∈w,c∈SG)/\told[w.foldl g p]?≠told[w.foldl g q]?)(mn:∀j,j<k->¬Ap D j [])(hi:i<k)(hn:fs[k-1-i]?=ξ n)(I:Zr D k i x)
  (z:∀S' x',Ext S S'->Zr D k (i+1) x'->K [y0,ξ (.loc nr),y2,y3,ξ (.str x'),ξ (.tup [aO (x'.foldl g p),aO (x'.foldl g q)]),ξ (.loc n)] S'):
  Rest Γ WY #[K,Q,E] [y0,ξ (.loc nr),y2,y3,ξ (.str x),ξ (.tup [aO (x.foldl g p),aO (x.foldl g q)]),ξ (.loc n)] S:=by
 let#[b,e1,e2]:=Rs.r _ _ hn;have ek:k-i=(k-1-i)+1:=∅
 have P:=fold_lt hc x p hp I.s;have P':=fold_lt hc x q hq I.s;have st:∀c r,(x++[c]).foldl g r=g (x.foldl g r) c:=λc r=>by rw[GL];rfl
 have key:∀c∈SG,(b.getD (g (x.foldl g p) c) 0≠b.getD (g (x.foldl g q) c) 0)↔Ap D (k-1-i) (x++[c]):=λc m=>by
  have a1:=e2.iff _ _ (hc _ c P m) (hc _ c P' m);have a2:=sG hD (k-1-i) (x++[c]) (Ey I.s m);rw[st,st] at a2;rw[Ne,a1,a2]
  exact#[λh=>kM h,λh h'=>h' h]
 have ex:∃c∈SG,b.getD (g (x.foldl g p) c) 0≠b.getD (g (x.foldl g q) c) 0:=by
  have a:=I.a;rw[ek,VM λw h=>((hD w).mp h).1] at a;rcases a with⟨w,wl,d⟩|⟨c,m,a⟩
  .erw[absurd #[x++w,by rw[aC,I.l];omega,d] (mn (k-1) ∅)]
  .exact#[c,m,(key c m).mpr a]
 unfold WY;room;rwa[ca h3 #[n,nr,_,_,b,ls,g,rfl,e1,R,by rw[<-tl];erw[P],by rw[<-tl];erw[P'],λc m=>by rw[e2.len];exact#[hc _ c P m,hc _ c P' m],ex,λc S1 f x1=>?_]];have m:c∈SG:=let ⟨_,e,_⟩:=f;ax e;have f':=RS key f;room;have xl:=I.l;refine#[by rw[xl];show i+1<=1000000;omega,?_];room;refine#[by rw[aC,xl];show i+1<=1000000;omega,?_];rw[show(-1:Int)= -1 from rfl,uo]
 rwa[ca h2 #[nr,_,_,c,ls,g,rfl,R.ext x1,by rw[<-tl];erw[P],by rw[<-tl];erw[P'],m,?_]];room;rw[<-st,<-st]
 rwa[z S1 (x++[c]) x1 #[by rw[aC,xl];rfl,.snoc I.w (%[xl|f']),Ey I.s m,?_]];rw[show k-(i+1)=k-1-i by omega]
 exact(key c m).mp (let ⟨_,_,a,_⟩:=f;a)
def w_rev:WI Γ (.rev e) env S R E=WE Γ e env S (λx S1=>sd x λn=>getL S1[n]? λus=>R us.reverse (λS'=>S'[n]?=ξ (.lst us)) S1) E:=rfl
def Nd{l:List U}{k:Nat}:sj l ψ (ξ (k:Int))=l.take k:=by
 unfold sj;dsimp[jB,gZ,mG,show(0:Int).toNat=0 from rfl,BQ,jr,n9];rcases Nat.le_total k l.length with h|h
 .rw[kN h]
 .rw[jX h,dO h,cC]
def Zs{n k:Nat}{us:List U}{S:bE}{Q:KU}(h:S[n]?=ξ (.lst us))(q:Q (.loc S.length) (S++[.lst (us.take k)])):SA (.loc n) ψ (ξ (k:Int)) S Q:=by
 refine#[#[λi h=>(by cases h),λi h=>?_],?_]
 .injection h with h;rw[<-h];erw[Gv _]
 .show getL S[n]? _
  rw[h,aK,Nd];erw[q]
def Nf(Γ:bU)(h2:Γ "states_behind"=JJ)(h3:Γ "sign_apart"=Nb)(fl:fs.length<=9001)(kl:k<fs.length)(hF:S[F]?=ξ (.lst (fs.map .loc)))(Rs:JF told g S fs)(R:Rw S nr ls g)(tl:told.length=ls.length)(hc:∀j c,j<told.length->c∈SG->g j c<told.length)(hp:p<told.length)(hq:q<told.length)(hD:∀w,D w↔(∀c∈w,c∈SG)/\told[w.foldl g p]?≠told[w.foldl g q]?)(mn:∀j,j<k->¬Ap D j [])(ap:Ap D k [])
  (z:∀x S',VL D (ξ x)->x.length<=9000->Ext S S'->Q (.str x) S'):
  Rest Γ (.cons (.set 4 (.lit (.str []))) (.cons (.set 5 @2) (.cons (.jN (.name 6) (.rev (.sl @0 .no (.e @3))) WY) (.cons (.ret @4) .nil)))) #[λ_ S1=>Q .bK S1,Q,λ_=>E] [ξ (.loc F),ξ (.loc nr),ξ (.tup [aO p,aO q]),ξ (aO k),ψ,ψ,ψ] S:=by
 room;rw[w_rev]
 room;rwa[Zs hF ?_];rw[<-zJ]
 have x1:Ext S (S++[SO.lst ((fs.take k).map U.loc)]):=Ext.app _;have g1:(S++[SO.lst ((fs.take k).map U.loc)])[S.length]?=ξ (.lst ((fs.take k).map U.loc)):=by simp
 generalize S.length=n1 at g1;generalize S++[SO.lst ((fs.take k).map U.loc)]=S1 at x1 g1;show getL S1[n1]? _;rw[g1,aK,<-List.map_reverse]
 have rs:∀S2,Ext S S2->JF told g S2 fs:=λS2 x=>#[λk n e=>let ⟨b,a,c⟩:=Rs.r k n e;#[b,x.get a,c],Rs.ne,Rs.st,Rs.le]
 rwa[eh (λi env S2=>Ext S1 S2/\∃(x:List Nat)(y:Option U),Zr D k i x/\env=[ξ (.loc F),ξ (.loc nr),ξ (.tup [aO p,aO q]),ξ (aO k),ξ (.str x),ξ (.tup [aO (x.foldl g p),aO (x.foldl g q)]),y]) (λi env S2 h=>h.1.get g1) _ ?_ ?_ #[.refl,[],ψ,#[rfl,.nil,λc m=>(by cases m),%[n9|ap]],rfl]]
 .rintro i u env S2 K hu ⟨x2,x,y,I,rfl⟩ hK
  let#[n,en,rfl]:=fY hu;have hi:i<k:=by
   have:=(ag.mp en).1;rw[EO,b3] at this;erw[au this (Nat.min_le_left _ _)]
  have tk:(fs.take k).length=k:=by rw[b3];omega
  rw[BL (%[tk|hi]),tk,List.getElem?_take,if_pos ∅] at en;erw[Nc Γ h2 h3 (k:=k) ∅ (rs S2 (x1.trans x2)) (R.ext (x1.trans x2)) tl hc hp hq hD mn hi en I λS3 x' x3 I'=>hK _ _ #[x2.trans x3,x',_,I',rfl]]
 .rintro env S2 ⟨x2,x,y,I,rfl⟩
  have tk:((fs.take k).reverse.map U.loc).length=k:=by rw[ah,EO,b3];omega
  rw[tk] at I;room;have xl:=I.l;erw[z x S2 #[by rw[xl];exact ap,λj hj=>mn j ∅,by rw[xl];exact I.w] ∅ (x1.trans x2)]
def VT(Γ:bU)(h1:Γ "are_apart"=RP)(h2:Γ "states_behind"=JJ)(h3:Γ "sign_apart"=Nb):Keeps Γ kC 4 RT:=by
 rintro us S Q E ⟨F,nr,p,q,fs,ls,g,told,D,rfl,hF,Rs,R,tl,ll,hc,hp,hq,hD,z⟩;have fl:fs.length<=9001:=aP Rs.le ∅;have ap:∀k,Eqv told g k p q↔¬Ap D k []:=λk=>sG hD k [] (λc m=>by cases m)
 unfold kC;room;refine#[fs.length+1,pd (λN env S1=>∃k,N=fs.length-k/\k<=fs.length/\(∀i,i<k->¬Ap D i [])/\S1=S/\env=[ξ (.loc F),ξ (.loc nr),ξ (.tup [aO p,aO q]),ξ (aO k),ψ,ψ,ψ]) ?_ _ fs.length _ _ (b4 _) #[0,rfl,bC _,λi hi=>absurd hi (gq _),rfl,rfl]];rintro N env S1 K ⟨k,rfl,kl,inv,rfl,rfl⟩ hK;room;rw[jO hF,bq,ah]
 refine#[∅,?_];by_cases hk:k<fs.length
 .have e1:decide ((k:Int)<(fs.length:Int))=ζ:=by rw[decide_eq_true_iff];omega
  rw[if_pos e1,hF,aK]
  have en:fs[k]?=ξ fs[k]:=af hk;rwa[at_of en ?_];let#[b,eb,rb]:=Rs.r _ _ en;rwa[ca h1 #[_,p,q,b,rfl,eb,%[rb.len|hp],%[rb.len|hq],?_]];have key:=(rb.iff p q hp hq).trans (ap k);by_cases e2:b.getD p 0=b.getD q 0
  .have e3:(b.getD p 0==b.getD q 0)=ζ:=%[beq_iff_eq|e2]
   rw[e3]
   room;have e4:U.int ((k:Int)+1)=aO (k+1):=rfl;rw[e4]
   exact hK (fs.length-(k+1)) _ _ ∅ #[k+1,rfl,hk,λi hi=>by
    rcases eY.mp hi with h|h
    .erw[inv i h]
    .rw[h];erw[key.mp e2],rfl,rfl]
  .have e3:(b.getD p 0==b.getD q 0)=ϑ:=%[beq_eq_false_iff_ne|e2]
   rw[e3]
   room;rw[jO hF,bq,ah]
   refine#[∅,?_];have e5:¬((k:Int)== (fs.length:Int))=ζ:=by rw[beq_iff_eq];omega
   rw[if_neg e5]
   rwa[Rest.go ?_];dsimp[UB];erw[Nf Γ h2 h3 fl hk hF Rs R tl hc hp hq hD inv (kM λh=>e2 (key.mpr h)) λx S' d l x'=>z (ξ x) S' d (λy e=>by cases e;exact l) x']
 .have e1:¬decide ((k:Int)<(fs.length:Int))=ζ:=by rw[decide_eq_true_iff];omega
  rw[if_neg e1]
  room;rw[jO hF,bq,ah]
  refine#[∅,?_];have ek:k=fs.length:=∅
  have e5:((k:Int)== (fs.length:Int))=ζ:=by rw[beq_iff_eq];omega
  rw[if_pos e5]
  room;rwa[z ψ S1 (λw d=>?_) (λy e=>by cases e) .refl];have f0:0<fs.length:=List.length_pos_iff.mpr Rs.ne;have e6:fs.length-1+1=fs.length:=∅
  have e7:=(ap (fs.length-1)).mpr (inv _ ∅);have e8:=vL (m:=fs.length-1) hc (%[e6|Rs.st]) w.length p q hp hq e7;exact(ap _).mp e8 #[w,Nat.le_add_left _ _,d]
def RV(hd:S[d]?=ξ (.df (sD (cM SG f)))\/S[d]?=ξ (.pI (sD (cM SG f))))
  (q:∀m S',Ext (S.set d (.pI (sD (cM SG f)))) S'->S.length<=m->S'[m]?=ξ (.df (sD (cM SG λc=>(f c).map λk=>k+N)))->k (.loc m) S'):WE Γ YO [ξ (.loc d),ξ (aO N)] S k E:=by
 unfold YO;have gl:SG.length=95:=rfl;have nd:=C6;let#[ps,e1,e2,e3,e4,e5]:=zy f (λk=>k+N) SG;have lk:∀p∈ps,se (.str [p.1]) (sD (cM SG f))=ξ (aO p.2):=λp m=>by rw[A5,sE,if_pos (e3 p m).1,(e3 p m).2];rfl
 rw[e2] at q;have ey:(sD (cM SG f)).map (·.1)=ps.map λp=>U.str [p.1]:=by rw[e1];unfold sD;simp[cH]
 have nd':=e4 nd;generalize cM SG f=rw0 at *;room;have e0:∀R,iA S[d]? R=R (sD rw0):=λR=>by rcases hd with h|h<;>rw[h]<;>rfl
 rw[e0,ey]
 have dl:d<S.length:=by rcases hd with h|h<;>exact a4 h
 have g1:(S.set d (.pI (sD rw0)))[d]?=ξ (.pI (sD rw0)):=ba dl;have l1:(S.set d (.pI (sD rw0))).length=S.length:=bR;generalize S.set d (.pI (sD rw0))=S1 at g1 q l1;rwa[pe (S:=S1) _ (ps.map λp=>.tup [.str [p.1],aO (p.2+N)]) (#v[]) ((·)) (λS' x=>x.get g1) (λu S' k h=>h) (λj u v hu hv S2 k x' hk=>?_) λS2 x'=>?_]
 .rw[aE] at hu hv
  let#[p,hp,rfl]:=aj.mp hu;rw[hp] at hv;have hv:U.tup [.str [p.1],aO (p.2+N)]=v:=by simpa using hv
  subst hv;have m:=ax hp;rw[x'.get g1]
  refine#[rfl,?_];rw[lk p m]
  exact#[two_le,hk S2 .refl]
 .refine#[ps.map λp=>([p.1],aO (p.2+N)),by simp[cH],?_,?_]
  .rw[bG]
   show(ps.map λp=>[p.1]).Nodup
   have e:(ps.map λp=>[p.1])=(ps.map (·.1)).map λc=>[c]:=by rw[bG];rfl
   rw[e]
   erw[og _ (λa b h z=>h (Gi z).1) nd']
  .erw[q _ _ (x'.trans ((Ext.app _).trans (Ext.app _))) (by have:=x'.1;rw[aC];omega) (by rw[aB (ar _),bQ];rfl)]
abbrev RW:Spec:=λus S Q _=>∃(n N:Nat)(ls:List Nat)(go:Nat->Nat->Option Nat),us=[.loc n,aO N]/\Rp S n ls go/\ls.length<=5000/\∀(m:Nat)(S':bE)(ms:List Nat),Kp ls S S'->ms.length=ls.length->S'[m]?=ξ (.lst (ms.map .loc))->(∀(j d:Nat),ms[j]?=ξ d->S'[d]?=ξ (.df (sD (cM SG λc=>(go j c).map λk=>k+N))))->Q (.loc m) S'
structure MvI(S:bE)(n N:Nat)(ls:List Nat)(go:Nat->Nat->Option Nat)(i:Nat)(ms:List Nat)(S1:bE):Prop where
 k:Kp ls S S1
 l:ms.length=i
 o:∀(j d:Nat),ls[j]?=ξ d->S1[d]?=ξ (.df (sD (cM SG (go j))))\/S1[d]?=ξ (.pI (sD (cM SG (go j))))
 d:∀(j d:Nat),ms[j]?=ξ d->S.length<=d/\S1[d]?=ξ (.df (sD (cM SG λc=>(go j c).map λk=>k+N)))
def VU(Γ:bU):Keeps Γ ua 0 RW:=by
 rintro us S Q E ⟨n,N,ls,go,rfl,R,hl,q⟩;unfold ua;have lo:∀(j d:Nat),ls[j]?=ξ d->d<S.length:=λj d e=>a4 (R.d j d e)
 have nn:n∉ls:=λh=>by
  let#[j,e]:=b7 h;have:=R.d j n e;rw[R.l] at this;cases this
 room;rw[R.l,aK]
 refine fR (ls.map U.loc) (λi acc S1=>∃ms:List Nat,acc=ms.map .loc/\MvI S n N ls go i ms S1) (λi acc S1 hi h=>?_) (λi u acc S1 k hu hi hk=>?_) (λacc S1 h=>?_) #[[],rfl,.refl,rfl,λj d e=>.inl (R.d j d e),λj d e=>by simp at e]
 .let#[ms,rfl,I]:=h
  rw[ah] at hi;exact#[I.k.get R.l nn,by rw[ah,I.l];omega]
 .let#[ms,rfl,I]:=hi
  let#[d,ed,rfl]:=fY hu;rwa[RV (I.o i d ed) λm S2 x2 ml g2=>?_]
  have mX:=ax ed;have dl:=lo i d ed;have kl:S.length<=S1.length:=I.k.1;have ne:∀{a:Nat}{o:SO},a≠d->S1[a]?=ξ o->S2[a]?=ξ o:=λ{a o}h e=>x2.get (%[ai (bI h)|e])
  have g3:S2[d]?=ξ (.pI (sD (cM SG (go i)))):=x2.get (ba (au dl kl));rwa[hk _ _ #[ms++[m],by rw[aN];rfl,I.k.trans ((Kp.set mX).trans (Ext.kp x2)),by rw[aC,I.l];rfl,λj d' e=>?_,λj d' e=>?_]]
  .by_cases h:d'=d
   .subst h
    have a:=I.o i d' ed;have b:=I.o j d' e;have:sD (cM SG (go i))=sD (cM SG (go j)):=by
     rcases a with a|a<;>rcases b with b|b<;>rw[a] at b<;>injection b with b<;>first| (injection b with b)|cases b
    erw[.inr (by rw[<-this];exact g3)]
   .exact(I.o j d' e).imp (ne h) (ne h)
  .rcases uq e with e|⟨rfl,rfl⟩
   .have z:=I.d j d' e
    exact#[z.1,ne (cw (au dl z.1)) z.2]
   .rw[I.l]
    exact#[aP kl ml,g2]
 .let#[ms,rfl,I]:=h
  have x:=Ext.app (S:=S1) [SO.lst (ms.map U.loc)];exact q _ _ ms (I.k.trans (Ext.kp x)) (by have:=I.l;rw[ah] at this;erw[this]) (#v[]) λj d e=>x.get (I.d j d e).2
end PL.Bw
namespace PL.ub
abbrev Ng:U->Option (List Nat)
 |.str l=>ξ l
 |_=>ψ
abbrev Nh:U->Option (List U)
 |.tup l=>ξ l
 |_=>ψ
def ya(h:Ng v=ξ l):v=.str l:=by
 cases v<;>first|exact L2.nn h| (cases h;rfl)
def sI(h:Nh v=ξ l):v=.tup l:=by
 cases v<;>first|exact L2.nn h| (cases h;rfl)
abbrev Ni(f:U->Option (Nat×Bool)):List U->Option (Nat×Bool×Bool)
 |[]=>ξ (0,ζ,ϑ)
 |u::us=>(f u).bind λa=>(Ni f us).map λb=>(a.1+b.1,a.2&&b.2.1,a.2||b.2.2)
abbrev Zt(f:U->Option (Nat×Bool))(s:List Nat)(v:U):Option (Nat×Bool):=
 if s=Q6 then(Ng v).bind λl=>if l.all SG.contains then ξ (1,ϑ) else ψ
 else if s=MS then(Nh v).bind λus=>if us.length<=1000 then(Ni f us).map λr=>(r.1,r.2.1) else ψ
 else if s=W7 then(Nh v).bind λus=>if us.length<=1000 then(Ni f us).map λr=>(r.1,r.2.2) else ψ
 else if s=iW then(f v).map λr=>(r.1,ζ)
 else if s=nF then f v
 else if s=fX then(f v).map λr=>(r.1,ζ)
 else ψ
abbrev tz:Nat->U->Option (Nat×Bool)
 |0,_=>ψ
 |k+1,u=>(Nh u).bind λus=>match us with
  |[a,v]=>(Ng a).bind λs=>Zt (tz k) s v
  |_=>ψ
def JK(h:tz j a=ξ r):∃j' s v,j=j'+1/\a=.tup [.str s,v]/\Zt (tz j') s v=ξ r:=by
 cases j with
 |zero=>erw[L2.nn h]
 |succ j=>
  let#[us,e1,h]:=ak.mp h;rcases us with _|⟨x,_|⟨v,_|_⟩⟩
  .erw[L2.nn h]
  .erw[L2.nn h]
  .let#[s,e2,h]:=ak.mp h
   exact#[j,s,v,rfl,by rw[sI e1,ya e2],h]
  .erw[L2.nn h]
abbrev Tz(d:Nat)(u:U)(n:Nat)(e:Bool):Prop:=∃j,j<=d/\tz j u=ξ (n,e)
abbrev Bd(n B:Nat):Prop:=∀p,B.testBit p=ζ->p<n
def Bd.mono(h:Bd n B)(l:n<=m):Bd m B:=λp z=>au (h p z) l
def Bd.or(h:Bd n A)(h':Bd n B):Bd n (A|||B):=λp z=>by
 rw[fw,cX] at z;erw[z.elim (h p) (h' p)]
def Bd.zero:Bd n 0:=λp z=>by simp at z
structure Ly(sg:List (List Nat))(bh:List Nat):Prop where
 l:bh.length=sg.length
 b:∀B∈bh,Bd bh.length B
 s:∀l∈sg,∀c∈l,c∈SG
def Ly.SQ(h:Ly sg bh)(k:Lnk Z F bh bh')(hF:Bd bh.length F):Ly sg bh':=by
 refine#[%[k.1|h.l],λB' m p hp=>?_,h.s];let#[q,hq]:=b7 m;have ql:q<bh.length:=by rw[<-k.1];erw[a4 hq]
 let#[B2,e1,e2]:=k.2 q _ (af ql);rw[hq] at e1;cases e1;rw[e2,cX,aw] at hp;rw[k.1]
 rcases hp with hp|hp
 .erw[h.b _ (cD ql) p hp]
 .erw[hF p hp.2]
abbrev kH(D:U->Nat->Bool->Prop):Spec:=λus S Q _=>∃L sg bh en u n e,us=[.loc L,u]/\D u n e/\qp S L sg bh en/\Ly sg bh/\sg.length+n<=100 /\
 ∀S' p F Z sg' bh',Fr L S S'->L+4<=p->S'[p]?=ξ (Gm e F Z)->qp S' L sg' bh' en->Ly sg' bh'->sg'.length=sg.length+n->Bd sg'.length F->Bd sg'.length Z->Q (.loc p) S'
def RX(Γ:bU)(h1:Γ "Part.__init__"=zo):Keeps Γ fH 1 (kH λu n e=>n=1/\e=ϑ/\∃l,u=.str l/\∀c∈l,c∈SG):=by
 rintro us S Q E ⟨L,sg,bh,en,u,n,e,rfl,⟨rfl,rfl,l,rfl,hs⟩,h,ly,hl,q⟩;have hb:=ly.l;unfold fH;room;rw[Jl h,jO h.s]
 dsimp[bq,ah,Rf];refine#[∅,∅,?_];room;rw[Jl h]
 room;rw[h.s]
 dsimp[aK,true_and];refine#[(·),?_];have e1:dZ U.str sg++[U.str l]=dZ U.str (sg++[l]):=by simp
 rw[e1]
 have h2:=h.Zk (sg':=sg++[l]);have f2:=(Fr.refl (L:=L) (S:=S)).set (n:=L+1) (o:=.lst (dZ U.str (sg++[l]))) ∅ ∅;generalize S.set (L+1) (.lst (dZ U.str (sg++[l])))=S2 at h2 f2;room;rw[Jm h2]
 room;rw[h2.b]
 dsimp[aK,true_and];refine#[(·),?_];have e2:dZ aO bh++[U.int 0]=dZ aO (bh++[0]):=by simp
 rw[e2]
 have h3:=h2.setB (bh':=bh++[0]);have f3:=f2.set (n:=L+2) (o:=.lst (dZ aO (bh++[0]))) ∅ ∅;generalize S2.set (L+2) (.lst (dZ aO (bh++[0])))=S3 at h3 f3;room;rwa[pV h1 λS4 x4 g4=>#[rfl,?_]]
 have:=h3.len;have bp:Bd (sg++[l]).length (1<<<sg.length):=λp z=>by
  rw[uj] at z;have:=beq_iff_eq.mp z;simp;omega
 rwa[q S4 _ _ _ _ _ (f3.trans (Ext.fr x4)) ∅ g4 (h3.ext x4) #[by simp[hb],λB m=>?_,λl' m=>?_] (#v[]) bp bp]
 .rw[aC]
  rcases aT.mp m with m|m
  .exact(ly.b B m).mono (jW _ _)
  .rw[aX.mp m];erw[.zero]
 .rcases aT.mp m with m|m
  .erw[ly.s l' m]
  .rw[aX.mp m];erw[hs]
def VW(a:Bd n F1)(b:Bd n Z1)(c:Bd n F2)(d:Bd n Z2):Bd n (FV e1 F1 Z1 e2 F2 Z2).2.1/\Bd n (FV e1 F1 Z1 e2 F2 Z2).2.2:=by
 cases e1<;>cases e2
 .exact#[a,d]
 .exact#[a,b.or d]
 .exact#[a.or c,d]
 .exact#[a.or c,b.or d]
def JL(Γ:bU){d:Nat}(h2:Γ "Layout.lay"=kH (Tz d))(h3:Γ "Layout.link"=Jn)(h4:Γ "one_behind_other"=oE FV){j L m:Nat}(hj:j<=d){en:List Nat}{v1:U}{S0:bE}{D:Ends}{e:Bool}
  (q:∀S p F Z sg bh x3 x4,Fr L S0 S->L+4<=p->S[p]?=ξ (Gm e F Z)->qp S L sg bh en->Ly sg bh->sg.length=m->Bd sg.length F->Bd sg.length Z->D.nx [ξ (.loc L),ξ v1,ξ (.loc p),x3,x4] S) (hm:m<=100):
  ∀(us:List U)(S:bE)(pw:Nat)(e0:Bool)(F0 Z0:Nat)(sg:List (List Nat))(bh:List Nat)(x3 x4:Option U)(n:Nat)(a o:Bool),Ni (tz j) us=ξ (n,a,o)->Fr L S0 S->S[pw]?=ξ (Gm e0 F0 Z0)->L+4<=pw->qp S L sg bh en->Ly sg bh->sg.length+n=m->Bd sg.length F0->Bd sg.length Z0->(e0&&a)=e ->
   vg (λ_=>True) (λu en S2 k=>Rest Γ Vr {D with nx:=k} (en.set 3 (ξ u)) S2) D.nx us [ξ (.loc L),ξ v1,ξ (.loc pw),x3,x4] S:=by
 intro us;induction us with
 |nil=>
  intro S pw e0 F0 Z0 sg bh x3 x4 n a o ht f0 g pl la ly hn bF bZ he;cases ht;rw[Bool.and_true] at he;subst he;exact#[trivial,q _ _ _ _ _ _ _ _ f0 pl g la ly hn bF bZ]
 |cons u us ih=>
  intro S pw e0 F0 Z0 sg bh x3 x4 n a o ht f0 g pl la ly hn bF bZ he;let#[#[n1,e1],t1,ht]:=ak.mp ht;let#[#[n2,a2,o2],t2,ht]:=aj.mp ht;injection ht with k1 k2
  injection k2 with k2 k3
  have k1:n1+n2=n:=k1;have k2:(e1&&a2)=a:=k2;refine#[trivial,?_];unfold Vr;room;rw[la.o,bT]
  refine#[#[rfl,rfl],?_];rwa[ca h2 #[L,sg,bh,en,u,n1,e1,rfl,#[j,hj,t1],la,ly,∅,λS1 p F Z sg1 bh1 f1 pl1 g1 la1 ly1 l1 bF1 bZ1=>?_]];have g0:=f1.get g pl;have lb:=ly1.l;room;rw[la1.o,bT]
  refine#[#[rfl,rfl],?_];rw[A0 g0,AZ g1]
  have bZ':Bd bh1.length Z0:=bZ.mono ∅;rwa[ca h3 #[L,_,bh1,en,Z0,F,rfl,la1,∅,bZ',λS2 bh2 f2 la2 lk=>?_]];room;rwa[ca h4 #[pw,e0,F0,Z0,p,e1,F,Z,rfl,f2.get g0 pl,f2.get g1 pl1,λS3 x3 g3=>?_]];room;have:=la2.len;have ly2:=ly1.SQ lk (%[lb|bF1]);let#[b1,b2]:=VW (e1:=e0) (e2:=e1) (bF.mono (m:=sg1.length) ∅) (bZ.mono (m:=sg1.length) ∅) bF1 bZ1;erw[ih _ _ _ _ _ _ _ _ _ n2 a2 o2 t2 (f0.trans ((f1.trans f2).trans (Ext.fr x3))) g3 ∅ (la2.ext x3) ly2 ∅ b1 b2 (by rw[<-he,<-k2,<-Bool.and_assoc];rfl)]
def RY(Γ:bU)(d:Nat)(h1:Γ "Part.__init__"=zo)(h2:Γ "Layout.lay"=kH (Tz d))(h3:Γ "Layout.link"=Jn)(h4:Γ "one_behind_other"=oE FV):
  Keeps Γ gS 3 (kH λu n e=>∃j us o,j<=d/\u=.tup us/\us.length<=1000/\Ni (tz j) us=ξ (n,e,o)):=by
 rintro us S Q E ⟨L,sg,bh,en,u,n,e,rfl,⟨j,ms,o,hj,rfl,hm,ht⟩,h,ly,hl,q⟩;unfold gS;room;rwa[pV h1 (F:=0) (Z:=0) λS1 x1 g1=>#[rfl,?_]]
 have p1:L+4<=S.length:=h.len;have h':=h.ext x1;generalize S.length=pw at g1 p1;room;refine#[∅,?_];rwa[JL Γ (D:=#[λen S1=>Rest Γ (.cons (.ret @2) .nil) #[λ_ S1=>Q .bK S1,Q,λ_=>E] en S1,Q,λ_=>E]) (v1:=.tup ms) h2 h3 h4 hj (S0:=S) (m:=sg.length+n) (λS2 p F Z sg' bh' x3 x4 f2 pl g la ly' e' bF bZ=>?_) hl ms S1 pw ζ 0 0 sg bh _ _ n e o ht (Ext.fr x1) g1 p1 h' ly rfl .zero .zero (Bool.true_and _)];room;erw[q _ _ _ _ _ _ f2 pl g la ly' e' bF bZ]
abbrev pCh:dj:=#v[.set 2 (.call "one_or_other" #v[@2,.cB "Layout" "lay" "Layout.lay" @0 #v[@3]])]
def Nj(Γ:bU){d:Nat}(h2:Γ "Layout.lay"=kH (Tz d))(h4:Γ "one_or_other"=oE Xa){j L m:Nat}(hj:j<=d){en:List Nat}{v1:U}{S0:bE}{D:Ends}{e:Bool}
  (q:∀S p F Z sg bh x3,Fr L S0 S->L+4<=p->S[p]?=ξ (Gm e F Z)->qp S L sg bh en->Ly sg bh->sg.length=m->Bd sg.length F->Bd sg.length Z->D.nx [ξ (.loc L),ξ v1,ξ (.loc p),x3] S) (hm:m<=100):
  ∀(us:List U)(S:bE)(pw:Nat)(e0:Bool)(F0 Z0:Nat)(sg:List (List Nat))(bh:List Nat)(x3:Option U)(n:Nat)(a o:Bool),Ni (tz j) us=ξ (n,a,o)->Fr L S0 S->S[pw]?=ξ (Gm e0 F0 Z0)->L+4<=pw->qp S L sg bh en->Ly sg bh->sg.length+n=m->Bd sg.length F0->Bd sg.length Z0->(e0||o)=e ->
   vg (λ_=>True) (λu en S2 k=>Rest Γ pCh {D with nx:=k} (en.set 3 (ξ u)) S2) D.nx us [ξ (.loc L),ξ v1,ξ (.loc pw),x3] S:=by
 intro us;induction us with
 |nil=>
  intro S pw e0 F0 Z0 sg bh x3 n a o ht f0 g pl la ly hn bF bZ he;cases ht;rw[Bool.or_false] at he;subst he;exact#[trivial,q _ _ _ _ _ _ _ f0 pl g la ly hn bF bZ]
 |cons u us ih=>
  intro S pw e0 F0 Z0 sg bh x3 n a o ht f0 g pl la ly hn bF bZ he;let#[#[n1,e1],t1,ht]:=ak.mp ht;let#[#[n2,a2,o2],t2,ht]:=aj.mp ht;injection ht with k1 k2
  injection k2 with k2 k3
  have k1:n1+n2=n:=k1;have k3:(e1||o2)=o:=k3;refine#[trivial,?_];unfold pCh;room;rw[la.o,bT]
  refine#[#[rfl,rfl],?_];rwa[ca h2 #[L,sg,bh,en,u,n1,e1,rfl,#[j,hj,t1],la,ly,∅,λS1 p F Z sg1 bh1 f1 pl1 g1 la1 ly1 l1 bF1 bZ1=>?_]];rwa[ca h4 #[pw,e0,F0,Z0,p,e1,F,Z,rfl,f1.get g pl,g1,λS3 x3 g3=>?_]];room;have:=la1.len;erw[ih _ _ _ _ _ _ _ _ n2 a2 o2 t2 (f0.trans (f1.trans (Ext.fr x3))) g3 ∅ (la1.ext x3) ly1 ∅ ((bF.mono ∅).or bF1) ((bZ.mono ∅).or bZ1) (by rw[<-he,<-k3,<-Bool.or_assoc];rfl)]
def RZ(Γ:bU)(d:Nat)(h1:Γ "Part.__init__"=zo)(h2:Γ "Layout.lay"=kH (Tz d))(h4:Γ "one_or_other"=oE Xa):
  Keeps Γ eR 2 (kH λu n e=>∃j us a,j<=d/\u=.tup us/\us.length<=1000/\Ni (tz j) us=ξ (n,a,e)):=by
 rintro us S Q E ⟨L,sg,bh,en,u,n,e,rfl,⟨j,ms,a,hj,rfl,hm,ht⟩,h,ly,hl,q⟩;unfold eR;room;rwa[pV h1 (F:=0) (Z:=0) λS1 x1 g1=>#[rfl,?_]]
 have p1:L+4<=S.length:=h.len;have h':=h.ext x1;generalize S.length=pw at g1 p1;room;refine#[∅,?_];rwa[Nj Γ (D:=#[λen S1=>Rest Γ (.cons (.ret @2) .nil) #[λ_ S1=>Q .bK S1,Q,λ_=>E] en S1,Q,λ_=>E]) (v1:=.tup ms) h2 h4 hj (S0:=S) (m:=sg.length+n) (λS2 p F Z sg' bh' x3 f2 pl g la ly' e' bF bZ=>?_) hl ms S1 pw ϑ 0 0 sg bh _ n a e ht (Ext.fr x1) g1 p1 h' ly rfl .zero .zero (Bool.false_or _)];room;erw[q _ _ _ _ _ _ f2 pl g la ly' e' bF bZ]
abbrev R6(s:List Nat):Bool:=iW==s||(nF==s||fX==s)
abbrev R7(ms:List (List Nat)):Bool:=ms.any (·==iW)||ms.any (·==fX)
def R8(h:Zt (tz j) s v=ξ (n,e))(k:R6 s=ζ):∃ev,tz j v=ξ (n,ev)/\e=(ev||(iW==s||fX==s)):=by
 unfold R6 at k;rw[cX,cX,beq_iff_eq,beq_iff_eq,beq_iff_eq] at k;have st:∀{x:Option (Nat×Bool)},x.map (λr=>(r.1,ζ))=ξ (n,e)->∃ev,x=ξ (n,ev)/\e=ζ:=λ{x}h=>by
  let#[#[n',ev],h1,h2]:=aj.mp h;cases h2;exact#[ev,h1,rfl]
 rcases k with rfl|rfl|rfl
 .let#[ev,h1,h2]:=st h
  exact#[ev,h1,by rw[h2];cases ev<;>rfl]
 .exact#[e,h,by cases e<;>rfl]
 .let#[ev,h1,h2]:=st h
  exact#[ev,h1,by rw[h2];cases ev<;>rfl]
def Nk(ms:List (List Nat))(s:List Nat):R7 (ms++[s])=(R7 ms||(iW==s||fX==s)):=by
 have c:∀a b:List Nat,(b==a)=(a==b):=λa b=>%[cA,beq_iff_eq,beq_iff_eq|eq_comm]
 unfold R7;rw[KL,KL,dQ,List.any_nil,dQ,List.any_nil,c iW s,c fX s]
 cases ms.any (·==iW)<;>cases ms.any (·==fX)<;>cases (iW==s)<;>cases (fX==s)<;>rfl
def R9(Γ:bU)(d:Nat)(hd:d<=100)(h1:Γ "Part.__init__"=zo)(h2:Γ "Layout.lay"=kH (Tz d))(h3:Γ "Layout.link"=Jn):
  Keeps Γ eS 4 (kH λu n e=>∃j s v,j<=d/\u=.tup [.str s,v]/\R6 s=ζ/\tz (j+1) u=ξ (n,e)):=by
 rintro us S Q E ⟨L,sg,bh,en,u,n,e,rfl,⟨j0,s0,v0,hj0,eu,k0,ht0⟩,h,ly,hl,q⟩;have sl:=h.len;have fin:∀(ms:List (List Nat))(a:U)(S2:bE)(ea:Bool)(j:Nat),j<=d->tz j a=ξ (n,ea)->e=(ea||R7 ms)->(∀n,n<S.length->S2[n]?=S[n]?)->S2[S.length]?=ξ (.lst (ms.map .str))->Rest Γ pR2 #[λ_ S1=>Q .bK S1,Q,λ_=>E] [ξ (.loc L),ξ u,ξ (.loc S.length),ξ a,ψ,ψ] S2:=by
  intro ms a S2 ea j hj ta he e2 g2;have x2:Ext S S2:=#[cv (a4 g2),e2]
  have la:=h.ext x2;unfold pR2;room;rw[la.o,bT]
  refine#[#[rfl,rfl],?_];rwa[ca h2 #[L,sg,bh,en,a,n,ea,rfl,#[j,hj,ta],la,ly,hl,λS3 p F Z sg3 bh3 f3 pl3 g3 la3 ly3 l3 bF bZ=>?_]];have lb:=ly3.l;have gm:∀S4,Fr L S3 S4->S4[S.length]?=ξ (.lst (ms.map .str)):=λS4 f4=>f4.get (f3.get g2 sl) sl
  have fin2:∀S4 bh4,Fr L S3 S4->qp S4 L sg3 bh4 en->Ly sg3 bh4->Rest Γ Xb #[λ_ S1=>Q .bK S1,Q,λ_=>E] [ξ (.loc L),ξ u,ξ (.loc S.length),ξ a,ξ (.loc p),ψ] S4:=by
   intro S4 bh4 f4 la4 ly4;have g4:=f4.get g3 pl3;have en4:∀e',e'=e->Rest Γ (.cons (.ret (.mk "Part" "Part.__init__" (.cons @5 (.cons (.fld @4 "firsts") (.cons (.fld @4 "lasts") .nil))))) .nil) #[λ_ S1=>Q .bK S1,Q,λ_=>E] [ξ (.loc L),ξ u,ξ (.loc S.length),ξ a,ξ (.loc p),ξ (.bl e')] S4:=by
    rintro e' rfl;room;rw[AZ g4,A0 g4]
    rwa[pV h1 λS5 x5 g5=>#[rfl,?_]]
    erw[q _ _ _ _ _ _ (((Ext.fr x2).trans f3).trans (f4.trans (Ext.fr x5))) la4.len g5 (la4.ext x5) ly4 l3 bF bZ]
   unfold Xb;room;rw[FU g4]
   room;rw[gm S4 f4]
   dsimp[aK,anyS,Pw];unfold R7 at he;have nl:=he;cases e1:ea<;>cases e2:ms.any (·==iW)<;>dsimp[e1,e2,aD,if_false,if_true,aK,anyS]<;>refine en4 _ ?_<;>rw[nl,e1,e2]<;>simp
  have SQ:Rest Γ Zm #[λen S4=>Rest Γ Xb #[λ_ S1=>Q .bK S1,Q,λ_=>E] en S4,Q,λ_=>E] [ξ (.loc L),ξ u,ξ (.loc S.length),ξ a,ξ (.loc p),ψ] S3:=by
   unfold Zm;room;rw[la3.o,bT]
   refine#[#[rfl,rfl],?_];rw[A0 g3,AZ g3]
   refine ca h3 #[L,_,bh3,en,Z,F,rfl,la3,∅,by rw[<-lb] at bZ;erw[bZ],λS4 bh4 f4 la4 lk=>?_];erw[Rest.go (fin2 S4 bh4 f4 la4 (ly3.SQ lk (by rw[lb];exact bF)))]
  room;rw[gm S3 .refl]
  dsimp[aK,anyS];cases e1:ms.any (·==iW)<;>cases e2:ms.any (·==nF)<;>dsimp[e1,e2,aD,if_false,if_true,aK,anyS]
  .erw[Rest.go (fin2 S3 bh3 .refl la3 ly3)]
  .erw[SQ]
  .erw[SQ]
  .erw[SQ]
 unfold eS;room;refine#[#v[],?_];room;have x0:Ext S (S++[SO.lst []]):=Ext.app _;have g0:(S++[SO.lst []])[S.length]?=ξ (.lst (([]:List (List Nat)).map .str)):=by simp
 refine#[j0+2,pd (λN env S2=>∃(ms:List (List Nat))(a:U)(ea:Bool),tz N a=ξ (n,ea)/\N<=d+1/\(N<=d\/a=u)/\e=(ea||R7 ms)/\ms.length+N<=200/\env=[ξ (.loc L),ξ u,ξ (.loc S.length),ξ a,ψ,ψ]/\(∀n,n<S.length->S2[n]?=S[n]?)/\S2[S.length]?=ξ (.lst (ms.map .str))) ?_ _ (j0+1) _ _ ∅ #[[],u,e,ht0,∅,.inr rfl,by cases e<;>rfl,(·),rfl,x0.2,g0]];rintro N env S2 K ⟨ms,a,ea,ta,hN1,hN,he,hms,rfl,e2,g2⟩ hK;obtain⟨j,s,v,rfl,rfl,t1⟩:=JK ta;room;rw[FC,bq]
 refine#[#v[],#v[],?_];rw[in3]
 cases ks:R6 s with
 |false=>
  have ks':(iW==s||(nF==s||fX==s))=ϑ:=ks;rw[ks']
  rwa[fin ms _ S2 ea (j+1) (hN.elim id λz=>?_) ta he e2 g2];rw[eu] at z;cases z;rw[k0] at ks;cases ks
 |true=>
  have ks':(iW==s||(nF==s||fX==s))=ζ:=ks;rw[ks']
  let#[ev,tv,hv]:=R8 t1 ks;room;rw[g2]
  dsimp[aK,FC,FD,bq];refine#[trivial,#v[],(·),?_];room;dsimp[FD,bq];refine#[#v[],?_];try room
  refine hK j _ _ ∅ #[ms++[s],v,ev,tv,∅,.inl ∅,by rw[he,hv,Nk];cases ev<;>cases R7 ms<;>cases (iW==s||fX==s)<;>rfl,(·),rfl,λn hn=>?_,by rw[gs g2];simp];rw[ai ∅];exact e2 n hn
def Nl(Γ:bU)(d:Nat)(h1:Γ "Layout.lay_place"=kH λu n e=>n=1/\e=ϑ/\∃l,u=.str l/\∀c∈l,c∈SG)(h2:Γ "Layout.lay_row"=kH λu n e=>∃j us o,j<=d/\u=.tup us/\us.length<=1000/\Ni (tz j) us=ξ (n,e,o))
  (h3:Γ "Layout.lay_choice"=kH λu n e=>∃j us a,j<=d/\u=.tup us/\us.length<=1000/\Ni (tz j) us=ξ (n,a,e)) (h4:Γ "Layout.lay_repeat"=kH λu n e=>∃j s v,j<=d/\u=.tup [.str s,v]/\R6 s=ζ/\tz (j+1) u=ξ (n,e)):Keeps Γ ko 0 (kH (Tz (d+1))):=by
 rintro us S Q E ⟨L,sg,bh,en,u,n,e,rfl,⟨j,hj,t⟩,h,ly,hl,q⟩;let#[j,s,v,rfl,rfl,t1]:=JK t;unfold ko;by_cases k1:s=Q6
 .subst k1
  let#[l,e1,t2]:=ak.mp (show(Ng v).bind _=ξ (n,e) from t1);have e1:=ya e1;subst e1;have hs:l.all SG.contains=ζ:=by
   by_cases z:l.all SG.contains=ζ
   .erw[z]
   .rw[if_neg z] at t2;cases t2
  rw[if_pos hs] at t2;cases t2;rwa[Rr rfl rfl ?_];room;rw[h.o,bT,FD]
  exact#[#[rfl,rfl],#v[],ca h1 #[L,sg,bh,en,_,_,_,rfl,#[rfl,rfl,l,rfl,λc m=>by simpa using bu.mp hs c m],h,ly,hl,q]]
 rwa[Rt rfl (beq_eq_false_iff_ne.mpr k1) ?_];have t1:=(if_neg k1).symm.trans t1;by_cases k2:s=MS
 .subst k2
  let#[us,e1,t3]:=ak.mp ((if_pos rfl).symm.trans t1);have e1:=sI e1;subst e1;by_cases z:us.length<=1000
  .rw[if_pos z] at t3
   let#[#[n',a,o],t2,t3]:=aj.mp t3;cases t3;rwa[Rr rfl rfl ?_];room;rw[h.o,bT,FD]
   exact#[#[rfl,rfl],#v[],ca h2 #[L,sg,bh,en,_,_,_,rfl,#[j,us,o,∅,rfl,z,t2],h,ly,hl,q]]
  .rw[if_neg z] at t3;cases t3
 rwa[Rt rfl (beq_eq_false_iff_ne.mpr k2) ?_];have t1:=(if_neg k2).symm.trans t1;by_cases k3:s=W7
 .subst k3
  let#[us,e1,t3]:=ak.mp ((if_pos rfl).symm.trans t1);have e1:=sI e1;subst e1;by_cases z:us.length<=1000
  .rw[if_pos z] at t3
   let#[#[n',a,o],t2,t3]:=aj.mp t3;cases t3;rwa[Rr rfl rfl ?_];room;rw[h.o,bT,FD]
   exact#[#[rfl,rfl],#v[],ca h3 #[L,sg,bh,en,_,_,_,rfl,#[j,us,a,∅,rfl,z,t2],h,ly,hl,q]]
  .rw[if_neg z] at t3;cases t3
 refine Rt rfl (beq_eq_false_iff_ne.mpr k3) ?_;have t1:=(if_neg k3).symm.trans t1;have kr:R6 s=ζ:=by
  unfold R6;rw[cX,cX,beq_iff_eq,beq_iff_eq,beq_iff_eq]
  by_cases k4:s=iW
  .erw[.inl k4.symm]
  by_cases k5:s=nF
  .erw[.inr (.inl k5.symm)]
  by_cases k6:s=fX
  .erw[.inr (.inr k6.symm)]
  rw[if_neg k4,if_neg k5,if_neg k6] at t1;cases t1
 room;rw[h.o,bT]
 exact#[#[rfl,rfl],ca h4 #[L,sg,bh,en,_,_,_,rfl,#[j,s,v,∅,rfl,kr,t],h,ly,hl,q]]
inductive Rz where|bad (a:Nat)|nul (n:Nat)|pl (n:Nat)|no
abbrev rz(x:List Nat):Rz:=match tq x with
 |.error r=>.bad (x.length-r.length)
 |.ok (u,_)=>match tz 6 u with
  |some (n,ζ)=>.nul n
  |some (n,ϑ)=>.pl n
  |none=>.no
abbrev VX:Spec:=λus S Q E=>∃x k,us=[.str x,aO k]/\x.length<=1000/\match tq x with
 |.ok (u,_)=>∀S',Ext S S'->Q u S'
 |.error r=>∀S',Ext S S'->E #["BadRule",[aO k,aO (x.length-r.length)],ϑ] S'
def VY(Γ:bU)(h1:Γ "read"=CV):Keeps Γ ub.o9 1 VX:=by
 rintro us S Q E ⟨x,k,rfl,hl,q⟩;unfold ub.o9;room;rwa[ca h1 #[x,rfl,hl,?_]];cases h:tq x with
 |ok p=>rw[h] at q;erw[q]
 |error r=>
  rw[h] at q;intro S' x';refine#[#[rfl,rfl],?_];room;exact#[rfl,q S' x']
abbrev out(M:Nat):Nat->Nat->List (List Nat)->Option Xn
 |_,_,[]=>ψ
 |k,m,x::r=>if k=6 then ξ #["TooMany",[aO 6],ζ] else match rz x with
  |.bad a=>ξ #["BadRule",[aO k,aO a],ϑ]
  |.nul _=>ξ #["TakesNothing",[aO k],ζ]
  |.pl n=>if M<m+n then ξ #["TooMany",[aO k],ζ] else out M (k+1) (m+n) r
  |.no=>ψ
abbrev vM(x:List Nat):Prop:=x.length<=1000/\match tq x with
 |.error r=>True
 |.ok (u,_)=>∃n e,tz 6 u=ξ (n,e)/\n<=20
abbrev Sa:Spec:=λus S Q E=>∃n xs M,us=[.loc n,aO M]/\S[n]?=ξ (.lst (xs.map .str))/\(∀x∈xs,vM x)/\xs.length<=100/\M<=24/\(∀x,out M 0 0 xs=ξ x->∀S',Ext S S'->E x S') /\
 (out M 0 0 xs=ψ->∀P u sg bh en S',Jo S' P (bh.map (·&&&u)) en (λc=>lz (·.contains c) sg)->Xc sg bh en u->Ly sg bh->0<sg.length->sg.length<=1+M->Ext S S'->Q (.loc P) S')
def VZ(Γ:bU)(h1:Γ "Layout.__init__"=Rk)(h2:Γ "Layout.lay"=kH (Tz 6))(h3:Γ "tree_of"=VX)(h4:Γ "Layout.how_many"=Rn)(h5:Γ "Layout.close_rule"=Ro)(h6:Γ "Places.__init__"=Jp):Keeps Γ lO 4 Sa:=by
 rintro us S Q E ⟨n,xs,M,rfl,gn,hR,xl,hM,qe,q⟩;generalize ho0:out M 0 0 xs=o0 at qe q;unfold lO;have gL:(S++[SO.ins "Layout" []])[S.length]?=ξ (.ins "Layout" []):=by simp
 have nS:=a4 gn;room;rwa[ca h1 #[S.length,rfl,gL,#v[],λS1 e1 la1=>#[rfl,?_]]];have x1:∀n,n<S.length->S1[n]?=S[n]?:=λn hn=>by rw[e1 n hn,aq hn]
 have gn1:S1[n]?=ξ (.lst (xs.map .str)):=%[x1 n nS|gn]
 room;dsimp[SA];rw[gn1,aK]
 have ec:sj (xs.map U.str) ψ (ξ 6)=(xs.take 6).map U.str:=by
  unfold sj;dsimp[jB,gZ,yy,BQ,jr,n9,ah];rw[zJ]
  by_cases z:xs.length<=6
  .rw[jX (by show xs.length<=6;erw[z]),dO (#v[]),dO (by simp;erw[z])]
  .rw[kN (by show 6<=xs.length;omega)];rfl
 rw[ec]
 refine#[#[λi e=>(by cases e),λi e=>(by injection e with e;omega)],?_];have x2:Ext S1 (S1++[SO.lst ((xs.take 6).map U.str)]):=Ext.app _;have g2:(S1++[SO.lst ((xs.take 6).map U.str)])[S1.length]?=ξ (.lst ((xs.take 6).map .str)):=by simp
 have l1:=la1.len;generalize S1.length=m at g2 l1;generalize S1++[SO.lst ((xs.take 6).map U.str)]=S2 at g2 x2;have up:∀S3,Fr S.length S2 S3->Ext S S3:=λS3 f=>#[by have:=x2.1;have:=f.1;have:=la1.len;omega,λn hn=>by
  have:=x2.1;have:=la1.len;rw[f.2 n ∅ (.inl ∅),x2.2 n ∅];erw[x1 n hn]]
 room;rw[g2,aK]
 refine eh (λi env S3=>∃(sg:List (List Nat))(bh en:List Nat)(k:Nat)(x3 x4 x5:Option U),env=[ξ (.loc n),ξ (aO M),ξ (.loc S.length),x3,x4,x5]/\Fr S.length S2 S3/\qp S3 S.length sg bh en/\Ly sg bh/\sg.length=1+k/\k<=M/\en.length=i/\i<=6/\o0=out M i k (xs.drop i)) (λi env S3 h9=>by let#[_,_,_,_,_,_,_,_,f,_]:=h9;exact f.get g2 l1) _ ?_ ?_
  #[[[]],[0],[],0,ψ,ψ,ψ,rfl,.refl,la1.ext x2,#[rfl,λB m=>%[aX.mp m|.zero],λl m=>%[aX.mp m|λc m=>nomatch m]],rfl,∅,rfl,∅,ho0.symm]
 .rintro i u env S3 K hu ⟨sg,bh,en,k,x3,x4,x5,rfl,f3,la3,ly,hsg,hk,he,hi,ho⟩ hK
  dsimp[dA,aE,oO] at hu;let#[x,hx,rfl]:=aj.mp hu;have i6:i<6:=by have:=a4 hx;rw[b3] at this;omega
  rw[mE i6] at hx;have il:=a4 hx;let#[xle,hr]:=hR x (ax hx);have ed:xs.drop i=x::xs.drop (i+1):=by rw[b8 il,(ag.mp hx).2]
  rw[ed] at ho;unfold out at ho;rw[if_neg ∅] at ho;unfold rz at ho;dsimp[cH];room;rw[la3.o,bT]
  refine#[#[rfl,rfl],ca h3 #[x,i,rfl,xle,?_]];cases hrd:tq x with
  |error r=>
   rw[hrd] at ho;intro S4 x4;erw[qe _ ho S4 ((up S3 f3).trans x4)]
  |ok p=>
   let#[t,r]:=p;rw[hrd] at hr ho;let#[n1,e1,ht,hn1]:=hr;dsimp only at ho;rw[ht] at ho;intro S4 x4;have la4:=la3.ext x4;rwa[ca h2 #[S.length,sg,bh,en,t,n1,e1,rfl,#[6,ar _,ht],la4,ly,∅,λS5 p F Z sg5 bh5 f5 pl5 g5 la5 ly5 l5 bF bZ=>?_]];have f35:=(f3.trans (Ext.fr x4)).trans f5;room;rw[FU g5]
   room;cases e1 with
   |true=>
    dsimp only at ho;rw[if_pos rfl]
    exact#[rfl,qe _ ho S5 (up S5 f35)]
   |false=>
    dsimp only at ho;rw[if_neg ⋯]
    room;rw[la5.o,bT]
    refine#[#[rfl,rfl],ca h4 #[S.length,_,bh5,en,rfl,la5,∅,?_]];room;by_cases z:M<k+n1
    .have:(M:Int)<(sg5.length:Int)-1:=∅
     rw[if_pos z] at ho;dsimp[this,decide_true,if_true];room;exact#[rfl,qe _ ho S5 (up S5 f35)]
    .have:¬((M:Int)<(sg5.length:Int)-1):=∅
     rw[if_neg z] at ho;dsimp[this,decide_false,aD,if_false];room;rw[la5.o,bT]
     have bl:=ly5.l;cases bh5 with
     |nil=>simp at bl;omega
     |cons B bt=>
      refine#[#[rfl,rfl],ca h5 #[S.length,_,_,en,p,ϑ,F,Z,B,bt,rfl,la5,rfl,g5,pl5,∅,λS6 f6 la6=>?_]];room;refine hK _ _ #[sg5,_,_,k+n1,_,_,_,rfl,f35.trans f6,la6,#[~~~bl,λB' m=>?_,ly5.s],∅,∅,by simp[he],∅,ho];have lB:=ly5.b;rw[a5] at lB ⊢;rcases aW.mp m with m|m
      .rw[m];exact(lB B (aV ..)).or (by rw[<-bl] at bF;erw[bF])
      .erw[lB B' (ay _ m)]
 .rintro env S3 ⟨sg,bh,en,k,x3,x4,x5,rfl,f3,la3,ly,hsg,hk,he,hi,ho⟩
  rw[i5,ah,b3] at he ho hi;have gn3:S3[n]?=ξ (.lst (xs.map .str)):=(up S3 f3).get gn;room;rw[jO gn3]
  dsimp[bq,ah];refine#[∅,?_];by_cases z:6<xs.length
  .have z':(6:Int)<(xs.length:Int):=∅
   dsimp[z',decide_true,if_true];room;have ed:xs.drop 6=xs[6]::xs.drop 7:=b8 z;rw[kN ∅,ed] at ho;unfold out at ho;exact#[rfl,qe _ ho S3 (up S3 f3)]
  .have z':¬((6:Int)<(xs.length:Int)):=∅
   dsimp[z',decide_false,aD,if_false];room;rw[jX ∅,tU] at ho;have gP:(S3++[SO.ins "Places" []])[S3.length]?=ξ (.ins "Places" []):=by simp
   have sl3:=la3.len;rwa[ca h6 #[S3.length,S.length,sg,bh,en,rfl,gP,#v[],la3.ext (Ext.app _),∅,ly.l,∅,λu S4 hu e4 pa=>#[rfl,?_]]];let#[_,_,_,oP,_]:=pa.o;have x3:=up S3 f3;rwa[q ho _ u sg bh en S4 pa hu ly ∅ ∅ #[?_,λn hn=>?_]]
   .have:=a4 oP;have:=x3.1;omega
   .have:=x3.1
    rw[e4 n ∅,aq ∅];erw[x3.2 n hn]
abbrev V0:Spec:=λus S Q E=>∃X n xs,us=[.loc X,.loc n]/\S[X]?=ξ (.ins "Lexer" [])/\S[n]?=ξ (.lst (xs.map .str))/\(∀x∈xs,vM x)/\xs.length<=100/\(∀x,out 24 0 0 xs=ξ x->∀S',Ext S S'->E x S')/\(out 24 0 0 xs=ψ->∀S',Old X S S'->Q .bK S')
def V1(Γ:bU)(h1:Γ "places_of"=Sa):Keeps Γ kq 0 V0:=by
 rintro us S Q E ⟨X,n,xs,rfl,gX,gn,hR,xl,qe,q⟩;unfold kq;room;rwa[ca h1 #[n,xs,24,rfl,gn,hR,xl,∅,λx e S1 x1=>qe x e S1 x1,λho P u sg bh en S1 pp U ly l0 l1 x1=>?_]];rwa[CZ (x1.get gX) (#v[]) λS2 o2 l2 g2=>?_]
 room;erw[q ho S2 ((Ext.old x1).trans o2)]
open PL.Bw
@[reducible]def FX(sg:List (List Nat)):Nat->Nat:=λc=>lz (·.contains c) sg
abbrev Lv(told:List (Option Nat))(go:Nat->Nat->Option Nat)(j:Nat):Prop:=∃w:List Nat,(∀c∈w,c∈SG)/\(told++[ψ]).getD (w.foldl (gN told.length go) j) ψ≠ψ
section
variable{told told':List (Option Nat)}{go go':Nat->Nat->Option Nat}{b reps:List Nat}
def Oj{g:Nat->Nat->Nat}:∀{m i j:Nat},Eqv told g m i j->told[i]?=told[j]?
 |0,_,_,h=>h
 |m+1,_,_,h=>Oj h.1
def JM(M:SM told go told' go' b reps)(cl:∀j c k,c∈SG->go j c=ξ k->k<told.length){i j:Nat}(hi:i<=told.length)(hj:j<=told.length)(e:b.getD i 0=b.getD j 0):(told++[ψ])[i]?=(told++[ψ])[j]?/\∀c∈SG,b.getD (gN told.length go i c) 0=b.getD (gN told.length go j c) 0:=by
 let#[m,R,st]:=M.k;have hN:(told++[ψ]).length=told.length+1:=by simp
 have hq:=(R.iff i j ∅ ∅).mp e;refine#[Oj hq,λc hc=>?_];have le:∀i,gN told.length go i c<(told++[ψ]).length:=λi=>by
  unfold gN;cases z:go i c with
  |none=>show told.length<_;omega
  |some k=>have:=cl i c k hc z;show k<_;omega
 exact(R.iff _ _ (le i) (le j)).mpr ((st i j ∅ ∅ hq).2 c hc)
def Ez(M:SM told go told' go' b reps)(cl:∀j c k,c∈SG->go j c=ξ k->k<told.length)(z0:∀j c,told.length<=j->go j c=ψ):∀(w:List Nat)(i:Nat),(∀c∈w,c∈SG)->i<=told.length->b.getD i 0=b.getD told.length 0->(told++[ψ]).getD (w.foldl (gN told.length go) i) ψ=ψ
 |[],i,_,hi,e=>by
  have:=(JM M cl hi (ar _) e).1;show(told++[ψ]).getD i ψ=ψ;rw[bc,this];simp
 |c::w,i,hw,hi,e=>by
  have cm:=hw c (#v[]);have:=(JM M cl hi (ar _) e).2 c cm;rw[show gN told.length go told.length c=told.length by unfold gN;rw[z0 _ c (ar _)];rfl] at this;rwa[Ez M cl z0 w _ (λx hx=>hw x (ay _ hx)) ?_ this];unfold gN;cases z:go i c with
  |none=>erw[ar _]
  |some k=>erw[cv (cl i c k cm z)]
def V2(M:SM told go told' go' b reps)(h0:0<told.length):b.getD 0 0=0:=by
 have l0:0<reps.length:=i9 (bC _) (M.a 0 h0);have e0:=af l0;let#[_,q2,q3]:=M.r 0 _ e0;generalize reps[0]=q at q2 q3;by_cases y:0<q
 .erw[absurd (q3 0 y) (gq _)]
 .have:q=0:=∅
  subst this;erw[q2]
def Nm(M:SM told go told' go' b reps)(h0:0<told.length){r p:Nat}(r0:0<r)(hp:reps[r]?=ξ p):0<p:=by
 rwa[Nat.pos_of_ne_zero λz=>?_]
 subst z;have:=(M.r r 0 hp).2.1;rw[V2 M h0] at this;omega
abbrev Sb(n:Nat)(go:Nat->Nat->Option Nat):Prop:=∀j,0<j->j<n->∃i c,i<j/\c∈SG/\go i c=ξ j
def Nn(M:SM told go told' go' b reps)(cl:∀j c k,c∈SG->go j c=ξ k->k<told.length)(z0:∀j c,told.length<=j->go j c=ψ)(h0:0<told.length)(rc:Sb told.length go)(lv:∀j,0<j->j<told.length->Lv told go j):Sb told'.length go':=by
 intro r r0 rl;rw[M.len] at rl;have hp:=af rl;let#[p1,p2,p3]:=M.r r _ hp;generalize reps[r]=p at hp p1 p2 p3;have p0:=Nm M h0 r0 hp;let#[i,c,il,cm,e]:=rc p p0 p1;have bi:=p3 i il;have hi:=af (lG bi rl);let#[q1,q2,_]:=M.r _ _ hi;have tg:=(M.t _ _ hi).2 c;generalize reps[b.getD i 0]=q at hi q1 q2 tg;have eb:=(JM M cl (cv (lG il p1)) (cv q1) q2.symm).2 c cm;have ei:gN told.length go i c=p:=by unfold gN;rw[e];rfl
 rw[ei] at eb;refine#[b.getD i 0,c,bi,cm,?_];rw[tg]
 cases z:go q c with
 |none=>
  have en:gN told.length go q c=told.length:=by unfold gN;rw[z];rfl
  rw[en] at eb;let#[w,hw,ne]:=lv p p0 p1;erw[absurd (Ez M cl z0 w p hw (cv p1) eb) ne]
 |some k=>
  have en:gN told.length go q c=k:=by unfold gN;rw[z];rfl
  rw[en] at eb;show ξ (b.getD k 0)=ξ r;rw[<-eb,p2]
end
section
variable{sg:List (List Nat)}{bh en lots rs:List Nat}{u:Nat}{told:List (Option Nat)}
def Np(L:Ly sg bh)(U:Xc sg bh en u)(P:Zp (bh.map (·&&&u)) en (FX sg) lots rs told){p:Nat}(hp:u.testBit p=ζ){j h:Nat}(hj:lots[j]?=ξ h)(hh:h.testBit p=ζ):Lv told (Gs (FX sg) lots rs) j:=by
 have sgs:∀{p:Nat},oF FW sg p=ζ->∃c∈SG,(FX sg c).testBit p=ζ:=λ{p}e=>by
  let#[l,e1,e2]:=A2 e;cases z:l with
  |nil=>rw[z] at e2;cases e2
  |cons c r=>
   refine#[c,L.s l (ax e1) c (by rw[z];simp),?_];rw[vH]
   unfold oF;rw[e1,z];simp
 refine(U.m (λp=>u.testBit p=ζ/\(∃c∈SG,(FX sg c).testBit p=ζ)/\∀j h,lots[j]?=ξ h->h.testBit p=ζ->Lv told (Gs (FX sg) lots rs) j) #[λZ p hZ hz e=>#[U.e Z p hZ hz e,sgs e,λj h hj hh=>?_],λq B p e hB hb ih=>#[U.b q B p e hB hb ih.1,sgs e,λj h hj hh=>?_]] p hp).2.2 j h hj hh
 .let#[o,e1,f]:=P.t j h hj
  refine#[[],λc m=>(cj m).elim,?_];show(told++[ψ]).getD j ψ≠ψ;rw[bc,aq (a4 e1),e1]
  rintro rfl;let#[k,ek]:=b7 hZ;erw[f k #[Z,ek,p,hh,hz]]
 .let#[c,cm,tc]:=ih.2.1
  have lv:=ih.2.2;let#[r,hr,V3]:=P.b j h hj;have rp:r.testBit p=ζ:=(V3 p).mpr #[q,B&&&u,hh,by rw[aE,hB];rfl,by rw[cg,hb,ih.1];rfl];have hp':(r&&&FX sg c).testBit p=ζ:=by rw[cg,rp,tc];rfl
  have nz:r&&&FX sg c≠0:=λz=>by rw[z] at hp';simp at hp'
  have hm:=(P.m r (ax hr) c cm).resolve_left nz;have hk:=cq hm;let#[w,hw,e]:=lv _ _ (show lots[lots.idxOf (r&&&FX sg c)]?=ξ (r&&&FX sg c) by rw[af hk,i4 hk]) hp';refine#[c::w,λx hx=>(aW.mp hx).elim (λz=>z▸cm) (hw x),?_];rw[om]
  have:gN told.length (Gs (FX sg) lots rs) j c=lots.idxOf (r&&&FX sg c):=by
   unfold gN;rw[C7 hr]
   unfold gz;rw[if_neg nz];rfl
  rw[this];erw[e]
end
abbrev Nq:Spec:=λus S Q E=>∃n xs,us=[.loc n]/\S[n]?=ξ (.lst (xs.map .str))/\(∀x∈xs,vM x)/\xs.length<=100/\(∀x,out 10 0 0 xs=ξ x->∀S',Ext S S'->E x S') /\
 (out 10 0 0 xs=ψ->∀T told ls go S',Gq S' T told ls go->0<told.length->Ext S S'->(∀d∈ls,S.length<=d)->Sb told.length go->Q (.loc T) S')
def V4(Γ:bU)(h1:Γ "places_of"=Sa)(h2:Γ "spread"=RJ)(h3:Γ "smallest"=RO):Keeps Γ m7 0 Nq:=by
 rintro us S Q E ⟨n,xs,rfl,gn,hR,xl,qe,q⟩;unfold m7;room;rwa[ca h1 #[n,xs,10,rfl,gn,hR,xl,∅,qe,λho P u sg bh en S1 pp U ly l0 l1 x1=>?_]];have al:=ly.l;rwa[ca h2 #[P,_,en,_,λp=>p<bh.length,rfl,pp,#[by rw[ah];omega,λq B p hq hB hp=>?_,λp hp=>%[ah|hp]],∅,λT told ls lots rs S2 tb dl x2 sp rc=>?_]]
 .let#[B',e,rfl]:=Er hB
  rw[cg,aw] at hp;erw[ly.b B' (ax e) p hp.1]
 have t0:0<told.length:=%[sp.len|a4 sp.z]
 let#[_,_,_,_,rp]:=tb.o;have ll:=tb.ll;rwa[ca h3 #[T,told,ls,_,S1.length,rfl,tb,t0,dl,x2.1,λT' told' ls' go' b reps S3 tb' k3 #[l3,l4] M=>?_]];have z0:∀j c,told.length<=j->Gs (FX sg) lots rs j c=ψ:=λj c hj=>rp.z j c ∅
 have lv:∀j,0<j->j<told.length->Lv told (Gs (FX sg) lots rs) j:=λj j0 jl=>by
  let#[i,r,c,e1,e2,e3,e4,e5,_]:=rc.p j j0 (by rw[<-sp.len];erw[jl]);let#[p,hp]:=vR e5;have hp2:=hp;rw[cg,aw] at hp2;have hi:=af (show i<lots.length by have:=sp.len;omega);let#[r',e6,V3]:=sp.b i _ hi;rw[e2] at e6;cases e6;let#[q,B,hq,hB,hb]:=(V3 p).mp hp2.1;let#[B',eB,rfl]:=Er hB;rw[cg,aw] at hb;erw[Np ly U sp hb.2 e4 hp]
 rwa[q ho T' told' ls' go' S3 tb' ?_ #[by have:=x1.1;have:=x2.1;omega,λn hn=>?_] (λd m=>aP (aP x1.1 x2.1) (l4 d m)) (Nn M tb.cl z0 t0 (λj j0 jl=>?_) lv)]
 .rw[M.len]
  have:=M.a 0 t0;omega
 .have:=x1.1
  rw[k3 n ∅,x2.2 n ∅,x1.2 n hn]
 .let#[i,_,c,e1,_,e2,_,_,e3]:=rc.p j j0 (by rw[<-sp.len];erw[jl])
  exact#[i,c,e1,e2,e3]
open PL.HX
abbrev Nr:Spec:=λus S Q _=>∃(T k R:Nat)(told:List (Option Nat)),us=[.loc T]/\S[T]?=ξ (M5 k told R)/\told.length<=1000000/\Q (aO told.length) S
def V5(Γ:bU):Keeps Γ je 0 Nr:=by
 rintro us S Q E ⟨T,k,R,told,rfl,h,hl,q⟩;unfold je;room;rw[C5 h]
 room;try rw[ah]
 exact#[hl,q]
abbrev V6:Spec:=λus S Q E=>∃(n n':Nat)(xs xs':List (List Nat)),us=[.loc n,.loc n']/\S[n]?=ξ (.lst (xs.map .str))/\S[n']?=ξ (.lst (xs'.map .str))/\(∀x∈xs,vM x)/\xs.length<=100/\(∀x∈xs',vM x)/\xs'.length<=100/\(∀x,out 10 0 0 xs=ξ x->∀S',Ext S S'->E x S') /\
 (out 10 0 0 xs=ψ->(∀x,out 10 0 0 xs'=ξ x->∀S',Ext S S'->E x S')/\(out 10 0 0 xs'=ψ->∀v S',Ext S S'->Q v S'))
def V7(Γ:bU)(h1:Γ "table_of"=Nq)(h2:Γ "Table.size"=Nr)(h3:Γ "moved"=RW)(h4:Γ "with_nowhere"=M3)(h5:Γ "rounds"=M4)(h6:Γ "text_apart"=RT):Keeps Γ kB 4 V6:=by
 rintro us S Q E ⟨n,n',xs,xs',rfl,gn,gn',r1,t1,r2,t2,qe,q⟩;unfold kB;room;rwa[ca h1 #[n,xs,rfl,gn,r1,t1,qe,λho T told ls go S1 tb p0 x1 nw rc=>?_]];room;rwa[ca h1 #[n',xs',rfl,x1.get gn',r2,t2,λx e S2 x2=>(q ho).1 x e S2 (x1.trans x2),λho' T' told' ls' go' S2 tb' p0' x2 nw' rc'=>?_]];let#[k,R,g1,g2,g3]:=(tb.ext x2).o;let#[k',R',g1',g2',g3']:=tb'.o;have l1:=tb.sz;have l2:=tb'.sz;have l3:=tb.ll;have l4:=tb'.ll;room;rw[C5 g1,C5 g1']
 room;have ne:told.map uN≠[]:=λz=>by rw[EN.mp z] at p0;erw[cV _ p0]
 refine#[#[ne,by rw[ah,ah];omega],⋯,#[λz=>ne (List.append_eq_nil_iff.mp z).1,by rw[aC,ah,ah];show _+1<=_;omega],?_];have e1:told.map uN++told'.map uN++[U.bK]=(told++told'++[ψ]).map uN:=by rw[aN,aN];rfl
 rw[e1]
 room;rw[JG g1,JG g1',g1]
 refine#[#[rfl,rfl],ca h2 #[T,k,R,told,rfl,g1,∅,?_]];refine ca h3 #[R',told.length,ls',go',rfl,g3',∅,λm S3 ms kp ml gm gd=>?_];have nd:∀{a:Nat}{o:SO},S2[a]?=ξ o->(∀j,o≠.df (sD (cM SG (go' j))))->a∉ls':=λ{a o}h ho z=>by
  let#[j,hj]:=b7 z;have:=g3'.d j a hj;rw[h] at this;erw[ho j (aG this)]
 have gT:S3[T]?=ξ (M5 k told R):=kp.get g1 (nd g1 (by intro j;unfold M5;intro z;cases z));have gR:S3[R]?=ξ (.lst (ls.map .loc)):=kp.get g3.l (nd g3.l (by intro j z;cases z));have gl:∀(j d:Nat),ls[j]?=ξ d->S3[d]?=ξ (.df (sD (cM SG (go j)))):=λj d e=>by
  rwa[kp.get (g3.d j d e) λz=>?_]
  let#[_,_,_,_,r]:=tb.o;erw[uH (a4 (r.d j d e)) (nw' d z)]
 have x3:Ext S S3:=#[aP (aP x1.1 x2.1) kp.1,λa h=>by
  have h1:=au h x1.1;rw[kp.2 a (au h1 x2.1) λz=>uH h1 (nw' a z),x2.2 a h1,x1.2 a h]]
 have z2:=g3'.z;rw[l4] at z2;have c1:=tb.cl;have c2:=tb'.cl
 clear g1 g2 g3 g1' g2' g3' x1 x2 gn gn' nw nw' kp nd
 room;rw[gR,aK,gm,aK]
 refine#[by rw[ah,ah];omega,?_];rw[<-aN]
 have x4:Ext S3 (S3++[SO.lst ((ls++ms).map U.loc)]):=Ext.app _;have g4:(S3++[SO.lst ((ls++ms).map U.loc)])[S3.length]?=ξ (.lst ((ls++ms).map U.loc)):=by simp
 generalize S3.length=n4 at g4;generalize S3++[SO.lst ((ls++ms).map U.loc)]=S4 at x4 g4;have ll:(ls++ms).length=told.length+told'.length:=by rw[aC];omega
 have rp:Rp S4 n4 (ls++ms) (gJ told.length go go'):=by
  refine#[g4,λj d e=>?_,λj c hj=>?_]
  .by_cases h:j<ls.length
   .rw[aq h] at e
    have:gJ told.length go go' j=go j:=funext λc=>by unfold gJ;rw[if_pos ∅]
    rw[this]
    erw[x4.get (gl j d e)]
   .rw[aB ∅] at e
    have:gJ told.length go go' j=λc=>(go' (j-ls.length) c).map λk=>k+told.length:=funext λc=>by unfold gJ;rw[if_neg ∅,l3]
    rw[this]
    erw[x4.get (gd _ d e)]
  .rw[ll] at hj
   unfold gJ;rw[if_neg ∅,z2 _ _ ∅];rfl
 rwa[ca h4 #[n4,ls++ms,_,rfl,rp,∅,λnr S5 m5 x5 ml5 R5=>?_]];rw[ll] at R5 ml5;have tl:(told++told'++[ψ]).length=told.length+told'.length+1:=by rw[aC,aC];rfl
 room;rwa[ca h5 #[nr,m5,_,told++told'++[ψ],rfl,R5,∅,∅,∅,λj c _ hc=>Oh c1 c2 j c hc,λF fs S6 x6 gF Rs=>?_]];have x46:=x4.trans (x5.trans x6);room;have gT6:=x46.get gT;rw[gT6]
 refine#[#[rfl,rfl],ca h2 #[T,k,R,told,rfl,gT6,∅,two_le,?_]];rwa[ca h6 #[F,nr,0,told.length,fs,m5,_,told++told'++[ψ],λw=>(∀c∈w,c∈SG)/\fst told go w≠fst told' go' w,rfl,gF,Rs,R5.ext x6,∅,∅,λj c _ hc=>Oh c1 c2 j c hc,∅,∅,λw=>?_,λres S7 d l x7=>(q ho).2 ho' _ S7 ((x3.trans x46).trans x7)]];refine#[λ⟨a,b⟩=>#[a,?_],λ⟨a,b⟩=>#[a,?_]]
 .rw[VO c1 z2 p0 a,VP c2 z2 p0' a]
  erw[λh=>b (aG h)]
 .rw[VO c1 z2 p0 a,VP c2 z2 p0' a] at b
  erw[λh=>b (by rw[h])]
open PL.PY
abbrev tD(ps:List (Nat×List Nat)):List (U×U):=ps.map λp=>(aO p.1,U.str p.2)
def EB(k:Nat):∀ps,se (aO k) (tD ps)=(ps.lookup k).map .str
 |[]=>rfl
 | (a,v)::r=>by
  show(if NU (aO a) (aO k)=ζ then ξ (U.str v) else se (aO k) (tD r))=_
  rw[show NU (aO a) (aO k)=(ξ a==ξ k) from Od (ξ a) (ξ k),EB k r,aQ]
  by_cases h:a=k
  .subst h;simp
  .have h1:(ξ a==ξ k)=ϑ:=by simp[h]
   have h2:(k==a)=ϑ:=by simp[bI h]
   rw[h1,h2];rfl
def ur:∀{ps:List (Nat×List Nat)},k∈ps.map (·.1)->∃w,ps.lookup k=ξ w/\(k,w)∈ps
 | (a,v)::r,h=>by
  rw[aQ]
  by_cases e:k=a
  .subst e;exact#[v,#v[],#v[]]
  .have h2:(k==a)=ϑ:=by simp[e]
   rw[h2]
   rw[aA,aW] at h;let#[w,h3,h4]:=ur (h.resolve_left e);exact#[w,h3,ay _ h4]
def EC:∀{ps:List (Nat×List Nat)},k∉ps.map (·.1)->ps.lookup k=ψ
 |[],h=>rfl
 | (a,v)::r,h=>by
  rw[aA,aW] at h;have h2:(k==a)=ϑ:=by simp;erw[λe=>h (.inl e)]
  rw[aQ,h2]
  erw[EC λz=>h (.inr z)]
structure C8(go:Nat->Nat->Option Nat)(n i:Nat)(G:List Nat)(ps:List (Nat×List Nat)):Prop where
 b:∀p∈ps,p.1<n/\p.2.length<=p.1
 nd:(ps.map (·.1)).Nodup
 z:0∈ps.map (·.1)
 r:∀i' c j,i'<i->c∈SG->go i' c=ξ j->j∈ps.map (·.1)
 g:∀c j,c∈G->go i c=ξ j->j∈ps.map (·.1)
section
variable{go:Nat->Nat->Option Nat}{n i c k:Nat}{G:List Nat}{ps:List (Nat×List Nat)}
def C8.low(I:C8 go n i G ps)(rc:Sb n go)(h:j<=i)(hn:j<n):j∈ps.map (·.1):=by
 by_cases z:j=0
 .subst z;erw[I.z]
 .let#[i',c,h1,h2,h3]:=rc j ∅ hn
  erw[I.r i' c j ∅ h2 h3]
def C8.len(I:C8 go n i G ps):ps.length<=n:=by
 have:=C1 (l':=b9 n) I.nd λx hx=>by
  let#[p,m,rfl]:=bO.mp hx;erw[pM.mpr (I.b p m).1]
 simpa using this
def C8.old(I:C8 go n i G ps)(h:∀j,go i c=ξ j->j∈ps.map (·.1)):C8 go n i (G++[c]) ps:=
 #[I.b,I.nd,I.z,I.r,λc' j m e=>(aT.mp m).elim (λm=>I.g c' j m e) λm=>h j (by rw[aX.mp m] at e;erw[e])]
def C8.new(I:C8 go n i G ps)(rc:Sb n go)(hw:(i,w)∈ps)(kn:k<n)(e:go i c=ξ k)(hk:k∉ps.map (·.1)):C8 go n i (G++[c]) (ps++[(k,w++[c])]):=by
 have ik:i<k:=KJ λz=>hk (I.low rc z kn)
 have up:∀j,j∈ps.map (·.1)->j∈(ps++[(k,w++[c])]).map (·.1):=λj m=>%[aN|eI _ m]
 refine#[λp m=>?_,?_,up _ I.z,λi' c' j h1 h2 h3=>up _ (I.r i' c' j h1 h2 h3),λc' j m e'=>?_]
 .rcases aT.mp m with m|m
  .erw[I.b p m]
  .rw[aX.mp m]
   have:=(I.b _ hw).2;exact#[kn,by rw[aC];show _+1<=k;erw[aP (fu this) ik]]
 .rw[aN,dE]
  exact#[I.nd,#v[],λx hx y hy=>%[aX.mp hy|λz=>hk ((show x=k from z)▸hx)]]
 .rcases aT.mp m with m|m
  .erw[up _ (I.g c' j m e')]
  .rw[aX.mp m,e] at e'
   cases e';rw[aN];erw[bb _ (aX.mpr rfl)]
end
abbrev Sd:Spec:=λus S Q _=>∃T told ls go,us=[.loc T]/\Gq S T told ls go/\0<told.length/\Sb told.length go/\∀m ps S',Ext S S'->S'[m]?=ξ (.df (tD ps))->(∀j,j<told.length->j∈ps.map (·.1))->Q (.loc m) S'
def V8(Γ:bU)(h2:Γ "Table.goes"=RF)(h:Gq S T told ls go)(rc:Sb told.length go)(x1:Ext S S1)(ml:S.length<=m)(g1:S1[m]?=ξ (.df (tD ps)))(hi:i<told.length)(I:C8 go told.length i G ps)(cm:c∈SG)
  (q:∀S2 ps' x4,Ext S S2->S2[m]?=ξ (.df (tD ps'))->C8 go told.length i (G++[c]) ps'->K [ξ (.loc T),ξ (.loc m),ξ (aO i),ξ (.str [c]),x4] S2):
  Rest Γ YM #[K,Q,E] [ξ (.loc T),ξ (.loc m),ξ (aO i),ξ (.str [c]),x4] S1:=by
 have hh:=h.ext x1;let#[k,R,hT,_]:=hh.o;unfold YM;room;rw[hT]
 refine#[#[rfl,rfl],ca h2 #[T,told,ls,go,i,c,rfl,hh,hi,cm,?_]];cases e:go i c with
 |none=>
  room;exact q S1 ps _ x1 g1 (I.old λj z=>by rw[e] at z;cases z)
 |some k'=>
  have kn:=h.cl i c k' cm e;let#[w,lw,mw]:=ur (I.low rc (ar _) hi);have wl:w.length<=i:=(I.b _ mw).2;have sz:=h.sz;have ln:=I.len;room;refine#[?_,?_]
  .show(match S1[m]? with|some (.df _)=>True|some (.r9 _)=>True|some (.vd _)=>True|_=>False)
   rw[g1];trivial
  rw[g1,iU,EB,lw,j8,bq,HQ]
  refine#[rfl,by rw[a5,vQ];omega,?_];unfold oz;rw[g1]
  show(lY (aO k')=ζ/\(tD ps).length<1000000)/\match se (aO k') (tD ps) with|some v=>_|none=>_
  refine#[#[rfl,by unfold tD;rw[ah];omega],?_];rw[EB]
  by_cases hk:k'∈ps.map (·.1)
  .let#[w',lw',_]:=ur hk
   rw[lw']
   room;exact q S1 ps _ x1 g1 (I.old λj z=>by rw[e] at z;cases z;erw[hk])
  .rw[EC hk]
   room;rwa[q _ (ps++[(k',w++[c])]) _ (x1.st ml) ?_ (I.new rc mw kn e hk)];rw[gs g1];unfold tD;rw[aN];rfl
def V9(Γ:bU)(h1:Γ "Table.size"=Nr)(h2:Γ "Table.goes"=RF):Keeps Γ jK 4 Sd:=by
 rintro us S Q E ⟨T,told,ls,go,rfl,h,h0,rc,q⟩;have sz:=h.sz;unfold jK;room;rw[show ∀env S' Q' E',WE Γ (.df (.cons ↑0 .nil) (.cons (.lit (.str [])) .nil)) env S' Q' E'=([U.int 0].length<=100/\lY (.int 0)=ζ/\∃v,[U.str []]=[v]/\Q' (.loc S'.length) (S'++[.df [(.int 0,v)]])) from λ_ _ _ _=>rfl]
 refine#[⋯,rfl,_,rfl,?_];have x0:Ext S (S++[SO.df [(U.int 0,U.str [])]]):=Ext.app _;have g0:(S++[SO.df [(U.int 0,U.str [])]])[S.length]?=ξ (.df (tD [(0,[])])):=by simp;rfl
 have I0:C8 go told.length 0 [] [(0,[])]:=#[λp m=>by rw[aX.mp m];exact#[h0,ar _],#v[],#v[],λ_ _ _ z=>absurd z (gq _),λc j m=>by cases m]
 have ml:S.length<=S.length:=ar _;generalize hM:S.length=m at g0 ml;generalize S++[SO.df [(U.int 0,U.str [])]]=S0 at x0 g0;room;let#[k,R,hT,_]:=(h.ext x0).o;rw[hT]
 refine#[#[rfl,rfl],ca h1 #[T,k,R,told,rfl,hT,∅,?_]];refine#[by show(told.length:Int)<=1000000;omega,by show(-1000000:Int)<=(told.length:Int);omega,?_];show vg _ _ _ (dZ (λk=>U.int ((k:Nat):Int)) (b9 told.length)) _ _;rwa[eh (λi env S1=>∃ps x2 x3 x4,env=[ξ (.loc T),ξ (.loc m),x2,x3,x4]/\Ext S S1/\S1[m]?=ξ (.df (tD ps))/\C8 go told.length i [] ps) (λ_ _ _ _=>trivial) _ ?_ ?_ #[[(0,[])],ψ,ψ,ψ,rfl,x0,g0,I0]]
 .rintro i u env S1 K hu ⟨ps,x2,x3,x4,rfl,x1,g1,I⟩ hK
  let#[rfl,hi]:=rA hu;show Rest Γ YN _ [ξ (.loc T),ξ (.loc m),ξ (aO i),x3,x4] S1;unfold YN;rwa[Rest.go ?_];rw[vj,NZ,NY,w_lit,v_s]
  have sit:∀(i:Nat)(u:U),(SG.map λc=>U.str [c])[i]?=ξ u->∃c,SG[i]?=ξ c/\u=.str [c]:=λi u hu=>by
   let#[c,hc,rfl]:=fY hu;exact#[c,hc,rfl]
  have sl:(SG.map λc=>U.str [c]).length=SG.length:=ah _;generalize hM:(SG.map λc=>U.str [c])=M at sit sl;rwa[eh (λj env S2=>∃ps x3 x4,env=[ξ (.loc T),ξ (.loc m),ξ (aO i),x3,x4]/\Ext S S2/\S2[m]?=ξ (.df (tD ps))/\C8 go told.length i (SG.take j) ps) (λ_ _ _ _=>trivial) M ?_ ?_ #[ps,x3,x4,rfl,x1,g1,%[List.take_zero|I]]]
  .rintro j u env S2 K' hu ⟨ps,x3,x4,rfl,x2,g2,I2⟩ hK'
   let#[c,hc,rfl]:=sit j u hu;rwa[V8 Γ h2 h rc x2 ∅ g2 hi I2 (ax hc) λS3 ps' x4 x3 g3 I3=>hK' _ _ #[ps',_,_,rfl,x3,g3,?_]]
   rw[MY hc];erw[I3]
  .rintro env S2 ⟨ps,x3,x4,rfl,x2,g2,I2⟩
   rw[sl,cC] at I2;room;erw[hK _ _ #[ps,_,_,_,rfl,x2,g2,I2.b,I2.nd,I2.z,λi' c j hi' cm e=>(eY.mp hi').elim (λl=>I2.r i' c j l cm e) λz=>I2.g c j cm (z▸e),λc j z=>by cases z]]
 .rintro env S1 ⟨ps,x2,x3,x4,rfl,x1,g1,I⟩
  room;rw[ah,eL] at I;erw[q m ps S1 x1 g1 λj hj=>I.low rc (cv hj) hj]
abbrev JN:Spec:=λus S Q _=>∃(T m k:Nat)(told:List (Option Nat))(ls:List Nat)(go:Nat->Nat->Option Nat)(ps:List (Nat×List Nat)),us=[.loc T,.loc m,aO k]/\Gq S T told ls go/\S[m]?=ξ (.df (tD ps))/\(∀j,j<told.length->j∈ps.map (·.1))/\(ξ k∉told->Q .bK S)/\(ξ k∈told->∀w,Q (.str w) S)
def uu(k:Nat)(o:Option Nat):tY (uN o) (aO k)=decide (o=ξ k):=by
 cases o with
 |none=>rfl
 |some a=>
  show((a:Int)== (k:Int))=_
  rw[cA,beq_iff_eq,decide_eq_true_iff,pE]
  erw[Int.ofNat_inj]
def JO(k:Nat)(told:List (Option Nat)):((told.map uN).any λy=>tY y (aO k))=decide (ξ k∈told):=by
 rw[cA,Kb,decide_eq_true_iff]
 constructor
 .rintro⟨u,m,e⟩
  let#[o,mo,rfl]:=bO.mp m;rw[uu,decide_eq_true_iff] at e;erw[e▸mo]
 .intro m
  exact#[aO k,bO.mpr #[_,m,rfl],by rw[show aO k=uN (ξ k) from rfl];show tY (uN (ξ k)) (aO k)=ζ;rw[uu];simp]
def JP{k:Nat}{told:List (Option Nat)}(z:ξ k∈told):∃j,j<told.length/\(told.map uN)[j]?=ξ (aO k)/\tY (aO k) (aO k)=ζ/\∀(i:Nat)(z':U),i<j->(told.map uN)[i]?=ξ z'->tY z' (aO k)=ϑ:=by
 have hl:=cq z;refine#[told.idxOf (ξ k),hl,by rw[aE,af hl,i4 hl];rfl,?_,λi z' hi e=>?_]
 .have:=uu k (ξ k)
  rw[show uN (ξ k)=aO k from rfl] at this;rw[this];simp
 .let#[o,eo,rfl]:=fY e
  rw[uu,decide_eq_false_iff_not]
  rintro rfl;have hi':=(ag.mp eo).1;have:=Bm (p:=(·==ξ k)) (xs:=told) (i:=i) hi;rw[(ag.mp eo).2] at this;simp at this
def yb(told:List (Option Nat)):(told.map uN).all flat=ζ:=by
 rw[bu]
 rintro u m;let#[o,_,rfl]:=bO.mp m;cases o<;>rfl
def Se(Γ:bU):Keeps Γ qX 0 JN:=by
 rintro us S Q E ⟨T,m,k,told,ls,go,ps,rfl,h,g,hp,q1,q2⟩;let#[k',R,hT,_]:=h.o;unfold qX;room;rw[C5 hT]
 room;refine#[#[rfl,yb told],?_];rw[JO]
 by_cases z:ξ k∈told
 .rw[decide_eq_true z]
  dsimp[b5,aD,if_false];room;rw[C5 hT]
  room;let#[j,jl,e1,e2,e3]:=JP z;let#[w,lw,_]:=ur (hp j jl);refine#[#[rfl,yb told],j,_,e1,e2,e3,?_];rw[g,iU,show U.int (j:Nat)=aO j from rfl,EB,lw]
  exact#[rfl,q2 z w]
 .rw[decide_eq_false z]
  dsimp[cU,if_true];room;erw[q1 z]
abbrev Sf:Spec:=λus S Q E=>∃n xs,us=[.loc n]/\S[n]?=ξ (.lst (xs.map .str))/\(∀x∈xs,vM x)/\xs.length<=100/\(∀x,out 10 0 0 xs=ξ x->∀S',Ext S S'->E x S')/\(out 10 0 0 xs=ψ->∀vs m S',Ext S S'->S'[m]?=ξ (.lst vs)->vs.length<=1000->Q (.loc m) S')
def Wa(Γ:bU)(h1:Γ "table_of"=Nq)(h2:Γ "first_texts"=Sd)(h3:Γ "sample"=JN):Keeps Γ o7 2 Sf:=by
 rintro us S Q E ⟨n,xs,rfl,gn,hR,xl,qe,q⟩;unfold o7;room;rwa[ca h1 #[n,xs,rfl,gn,hR,xl,qe,λho T told ls go S1 tb t0 x1 _ rc=>?_]];room;rwa[ca h2 #[T,told,ls,go,rfl,tb,t0,rc,λm ps S2 x2 g2 hp=>?_]];unfold pSs;room;have gn2:=(x1.trans x2).get gn;rw[jO gn2,bq,ah]
 refine#[∅,?_];refine#[∅,∅,?_];have tb2:=tb.ext x2;refine fR _ (λi acc S3=>S3=S2/\acc.length=i) (λi acc S3 hi h9=>#[trivial,by rw[h9.2];rw[ah,eL] at hi;omega]) (λi u acc S3 k hu hi hk=>?_) (λacc S3 h=>?_) #[rfl,rfl]
 .let#[rfl,al]:=hi
  let#[rfl,il]:=rA hu;have push:∀v:U,k (acc++[v]) S3:=λv=>hk _ _ #[rfl,by rw[aC,al];rfl]
  rw[if_pos rfl]
  erw[ca h3 #[T,m,i,told,ls,go,ps,rfl,tb2,g2,hp,λz=>push _,λz w=>push _]]
 .let#[rfl,al]:=h
  rw[ah,eL] at al;erw[q ho acc _ _ ((x1.trans x2).trans (Ext.app _)) (#v[]) ∅]
abbrev Wb:Spec:=λus S Q E=>∃n xs,us=[.loc n]/\S[n]?=ξ (.lst (xs.map .str))/\(∀x∈xs,vM x)/\xs.length<=100/\(∀x,out 10 0 0 xs=ξ x->∀S',Ext S S'->E x S')/\(out 10 0 0 xs=ψ->∀v S',Ext S S'->Q v S')
def Wc(Γ:bU)(h1:Γ "samples"=Sf):Keeps Γ qW 0 Wb:=by
 rintro us S Q E ⟨n,xs,rfl,gn,hR,xl,qe,q⟩;unfold qW;room;rwa[ca h1 #[n,xs,rfl,gn,hR,xl,qe,λho vs m S1 x1 g1 vl=>?_]];room;rw[g1,aK]
 rwa[fR _ (λi acc S3=>S3=S1/\acc.length<=i) (λi acc S3 hi h9=>?_) (λi u acc S3 k hu hi hk=>?_) (λacc S3 h=>?_) #[rfl,ar _]]
 .let#[rfl,l]:=h9
  rw[i5] at hi;exact#[g1,∅]
 .let#[rfl,l]:=hi
  rw[dA] at hu;let#[v,ev,rfl]:=aj.mp hu;show if sX v=ζ then _ else _
  by_cases z:sX v=ζ
  .rw[if_pos z]
   erw[hk _ _ #[rfl,by rw[aC];exact fu l]]
  .rw[if_neg z]
   erw[hk _ _ #[rfl,mH l]]
 .let#[rfl,_]:=h
  erw[q ho _ _ (x1.trans (Ext.app _))]
def JQ(hl:x.length<=1000)(h:(match rz x with|.bad _=>ζ|.nul n=>decide (n<=20)|.pl n=>decide (n<=20)|.no=>ϑ)=ζ):vM x:=by
 refine#[hl,?_];unfold rz at h;cases hr:tq x with
 |error r=>trivial
 |ok p=>
  let#[u,r]:=p;rw[hr] at h;dsimp only at h ⊢;cases ht:tz 6 u with
  |none=>rw[ht] at h;erw[L2.ff h]
  |some q=>
   let#[n,e]:=q;rw[ht] at h;refine#[n,e,rfl,?_];cases e<;>exact of_decide_eq_true h
@[reducible]def Rl:=List Nat×Nat×Int
abbrev vX(p:Rl):U:=.tup [.str p.1,aO p.2.1,.int p.2.2]
structure Ru(p:Rl):Prop where
 ok:vM p.1
 bad:0<=p.2.2->rz p.1=.bad p.2.2.toNat
 nul:p.2.2 = -2->∃n,rz p.1=.nul n
 pl:p.2.2<0->p.2.2≠-2->p.2.2 = -1/\rz p.1=.pl p.2.1
abbrev A9:List (List Nat×Nat):=[([97,40],2),([],0),([97,124],2),([91,98,45,97,93],3),([42],0),([97,92,113],2),([97,98,41],2),([91,93],1),([40,40,40,40,40,40,40,40,97],6)]
abbrev Ba:List (List Nat):=[[97,42],[40,97,63,41,43],[40,97,124,98,42,41],[91,94,97,93,63]]
abbrev tw:List (List Nat×Nat):=[([97],1),([97,98],2),([97,98,99],3),([97,124,98],2),([40,97,98,41,43,99],3),([91,97,45,99,93,120,42],2),([46,98,63],2),([97,98,99,100,101,102,103,104],8),([97,98,99,100,101,102,103,104,105,106,107],11),([97,97,124,98,98,124,99,99],6),([120,43],1)]
def Nt:(A9.all λp=>decide (p.1.length<=1000)&&match rz p.1 with|.bad a=>a==p.2|_=>ϑ)=ζ:=by decide +kernel
def Nu:(Ba.all λp=>decide (p.length<=1000)&&match rz p with|.nul n=>decide (n<=20)|_=>ϑ)=ζ:=by decide +kernel
def JR:(tw.all λp=>decide (p.1.length<=1000)&&match rz p.1 with|.pl n=>n==p.2&&decide (n<=20)|_=>ϑ)=ζ:=by decide +kernel
def Sg(m:p∈A9):Ru (p.1,0,(p.2:Int)):=by
 have h:=bu.mp Nt p m;rw[aw,decide_eq_true_eq] at h;let#[h1,h2]:=h;have e:rz p.1=.bad p.2:=by
  cases z:rz p.1<;>rw[z] at h2<;>first|exact L2.ff h2| (rw[beq_iff_eq.mp h2])
 exact#[JQ h1 (by rw[e]),λ_=>e,λz=>absurd (show(p.2:Int)= -2 from z) ∅,λz=>absurd (show(p.2:Int)<0 from z) ∅]
def Sh(m:x∈Ba):Ru (x,0,-2):=by
 have h:=bu.mp Nu x m;rw[aw,decide_eq_true_eq] at h;let#[h1,h2]:=h;cases z:rz x<;>rw[z] at h2<;>first|exact L2.ff h2|skip
 rename_i n;exact#[JQ h1 (%[z|h2]),λh=>absurd h (by show ¬(0:Int)<=-2;decide),λ_=>#[n,z],λ_ h=>absurd rfl h]
def zA(m:p∈tw):Ru (p.1,p.2,-1):=by
 have h:=bu.mp JR p m;rw[aw,decide_eq_true_eq] at h;let#[h1,h2]:=h;cases z:rz p.1<;>rw[z] at h2<;>first|exact L2.ff h2|skip
 rw[aw,beq_iff_eq] at h2;exact#[JQ h1 (%[z|h2.2]),λh=>absurd h (by show ¬(0:Int)<=-1;decide),λh=>absurd h (by show ¬(-1:Int)= -2;decide),λ_ _=>#[rfl,by rw[h2.1] at z;erw[z]]]
def C9{α:Type}(l:List α)(m N:Int)(hn:(l.length:Int)=N)(n0:0<N):∃a∈l,∀f:α->U,si (l.map f) (m%N)=ξ (f a):=by
 have h1:=Int.emod_nonneg m (show N≠0 by omega);have h2:=GJ m n0;let#[k,hk]:=Bo h1;rw[hk] at h2 ⊢;have kl:k<l.length:=∅
 exact#[_,cD kl,λf=>by rw[jb,aE,af kl];rfl]
abbrev Wd:Spec:=λus S Q _=>∃m:Int,us=[.int m]/\0<=m/\∀p S',Ru p->Ext S S'->Q (vX p) S'
def We(Γ:bU):Keeps Γ ub.lR 4 Wd:=by
 rintro us S Q E ⟨m,rfl,m0,q⟩;unfold ub.lR;room;refine#[⋯,?_];have x1:Ext S (S++[SO.lst (tw.map λp=>U.str p.1)]):=Ext.app _;have g1:(S++[SO.lst (tw.map λp=>U.str p.1)])[S.length]?=ξ (.lst (tw.map λp=>U.str p.1)):=by simp
 change Rest Γ _ _ _ (S++[SO.lst (tw.map λp=>U.str p.1)])
 generalize S.length=n1 at g1 ⊢;generalize S++[SO.lst (tw.map λp=>U.str p.1)]=S1 at x1 g1 ⊢;room;refine#[⋯,?_];have x2:Ext S1 (S1++[SO.lst (Ba.map U.str)]):=Ext.app _;have g2:(S1++[SO.lst (Ba.map U.str)])[S1.length]?=ξ (.lst (Ba.map U.str)):=by simp
 change Rest Γ _ _ _ (S1++[SO.lst (Ba.map U.str)])
 generalize S1.length=n2 at g2 ⊢;generalize S1++[SO.lst (Ba.map U.str)]=S2 at x2 g2 ⊢;room;refine#[⋯,⋯,⋯,⋯,⋯,⋯,⋯,⋯,⋯,⋯,?_];have x3:Ext S2 (S2++[SO.lst (A9.map λp=>U.tup [.str p.1,aO p.2])]):=Ext.app _;have g3:(S2++[SO.lst (A9.map λp=>U.tup [.str p.1,aO p.2])])[S2.length]?=ξ (.lst (A9.map λp=>U.tup [.str p.1,aO p.2])):=by simp
 change Rest Γ _ _ _ (S2++[SO.lst (A9.map λp=>U.tup [.str p.1,aO p.2])])
 generalize S2.length=n3 at g3 ⊢;generalize S2++[SO.lst (A9.map λp=>U.tup [.str p.1,aO p.2])]=S3 at x3 g3 ⊢;have g1:=(x2.trans x3).get g1;have g2:=x3.get g2;have x:=(x1.trans x2).trans x3
 clear x1 x2 x3
 room;refine#[⋯,?_];by_cases z:(m%9==0)=ζ
 .rw[if_pos z]
  room;let#[p,mp,hp]:=C9 A9 (m/9) 9 rfl ⋯;have hp:=hp λp=>U.tup [.str p.1,aO p.2]
  rw[g3,aK,hp,bq]
  refine#[⋯,⋯,?_];rw[sZ,FC,bq]
  refine#[#v[],⋯,⋯,?_];rw[aK,hp,bq,sZ,FD,bq]
  exact#[#v[],#v[],q _ _ (Sg mp) x]
 rw[if_neg z]
 room;refine#[⋯,?_];by_cases z:(m%9==1)=ζ
 .rw[if_pos z]
  room;let#[p,mp,hp]:=C9 Ba (m/9) 4 rfl ⋯;have hp:=hp U.str;rw[g2,aK,hp,bq]
  exact#[⋯,⋯,#v[],q _ _ (Sh mp) x]
 rw[if_neg z]
 room;let#[p,mp,hp]:=C9 tw (m/9) 11 rfl ⋯;have hp1:=hp λp=>U.str p.1
 have hp2:=hp λp=>aO p.2
 rw[g1,aK,hp1,bq]
 refine#[⋯,⋯,?_];room;refine#[⋯,⋯,⋯,?_];rw[lD,aK]
 refine(show si _ (m/9%11)=ξ (aO p.2) from hp2)▸?_;exact#[#v[],q _ _ (zA mp) (x.trans (Ext.app _))]
abbrev du:Option Xn->U
 |none=>.bK
 |some x=>.tup (.str (if x.c="BadRule" then [98,97,100] else if x.c="TakesNothing" then [110,111,116,104,105,110,103] else [109,97,110,121])::x.us)
def Wf:du (ξ #["BadRule",us,f])= .tup (.str [98,97,100]::us):=rfl
def Wg:du (ξ #["TakesNothing",us,f])= .tup (.str [110,111,116,104,105,110,103]::us):=rfl
def Si:du (ξ #["TooMany",us,f])= .tup (.str [109,97,110,121]::us):=rfl
def Wh:si [a,b,c] 1=ξ b:=rfl
def Nv:si [a,b,c] 2=ξ c:=rfl
abbrev JS:Spec:=λus S Q _=>∃(n M:Nat)(ps:List Rl),us=[.loc n,aO M]/\S[n]?=ξ (.lst (ps.map vX))/\(∀p∈ps,Ru p)/\ps.length<=100/\Q (du (out M 0 0 (ps.map (·.1)))) S
def Wi(Γ:bU):Keeps Γ ub.ng 2 JS:=by
 rintro us S Q E ⟨n,M,ps,rfl,gn,hR,hl,q⟩;generalize ho0:out M 0 0 (ps.map (·.1))=o0 at q;unfold ub.ng;room;rw[jO gn,bq,ah]
 refine#[∅,?_];have em:(if (ps.length:Int)<6 then(ps.length:Int) else 6).toNat=min 6 ps.length:=by split<;>omega
 rw[em]
 refine#[by split<;>omega,by split<;>omega,?_];refine eh (λi env S1=>S1=S/\∃(m:Nat)(x3:Option U),env=[ξ (.loc n),ξ (aO M),ξ (aO m),x3]/\o0=out M i m ((ps.drop i).map (·.1))) (λ_ _ _ _=>trivial) _ ?_ ?_ #[rfl,0,ψ,rfl,ho0.symm]
 .rintro i u env S1 K hu ⟨rfl,m,x3,rfl,ho⟩ hK
  let#[rfl,hi]:=rA hu;have il:i<ps.length:=∅
  have ei:=af il;have ru:=hR _ (cD il);rw[b8 il,aA] at ho;generalize ps[i]=p at ei ru ho;let#[x,n1,t]:=p;have ea:si (ps.map vX) ((i:Nat):Int)=ξ (vX (x,n1,t)):=by rw[jb,aE,ei];rfl
  unfold out at ho;rw[if_neg ∅] at ho;room;rw[gn,aK,ea,bq]
  unfold vX;rw[sZ,Nv,bq]
  refine#[#v[],?_];show ig .ge (.int t) (.int 0) S1 _;rw[Ye]
  by_cases z:(0:Int)<=t
  .rw[show rz x=_ from ru.bad z] at ho
   rw[ho,Wf] at q;rw[if_pos (decide_eq_true z)]
   room;rw[gn,aK,ea,bq]
   unfold vX;rw[sZ,Nv,bq]
   refine#[#v[],#v[],?_];have et:((t.toNat:Nat):Int)=t:=Int.toNat_of_nonneg z;unfold aO at q;rw[show((x,n1,t):Rl).2.2.toNat=t.toNat from rfl,et] at q;erw[q]
  rw[if_neg (~~~z)]
  room;rw[gn,aK,ea,bq]
  unfold vX;rw[sZ,Nv,bq]
  refine#[#v[],?_];show ig .eq (.int t) (.int (-2)) S1 _;rw[HR,LW]
  by_cases z2:t = -2
  .let#[n2,e2]:=ru.nul z2
   rw[show rz x=_ from e2] at ho;rw[ho,Wg] at q;rw[if_pos (%[beq_iff_eq|z2])]
   room;exact#[#v[],q]
  let#[_,e2]:=ru.pl (Int.lt_of_not_ge z) z2;rw[show rz x=_ from e2] at ho;rw[if_neg (%[beq_iff_eq|z2])]
  room;rw[gn,aK,ea,bq]
  unfold vX;rw[sZ,Wh,bq]
  refine#[#v[],?_];room;have ei:(m:Int)+((n1:Nat):Int)=((m+n1:Nat):Int):=∅
  have ho:o0=if M<m+n1 then _ else _:=ho
  rw[ei]
  by_cases z3:M<m+n1
  .rw[ho,if_pos z3,Si] at q
   rw[if_pos (decide_eq_true ∅)]
   room;exact#[#v[],q]
  .rw[if_neg z3] at ho
   rw[if_neg (by simpa using by omega)]
   room;erw[hK _ _ #[rfl,m+n1,_,rfl,ho]]
 .rintro env S1 ⟨rfl,m,x3,rfl,ho⟩
  rw[ah,eL] at ho;room;rw[jO gn,bq,ah]
  refine#[∅,?_];by_cases z:6<ps.length
  .have z':(6:Int)<(ps.length:Int):=∅
   rw[kN ∅,b8 z,aA] at ho;unfold out at ho;rw[ho,if_pos rfl,Si] at q;rw[if_pos (decide_eq_true z')]
   exact#[#v[],q]
  .rw[jX ∅,tU] at ho
   have z':¬(6:Int)<(ps.length:Int):=∅
   rw[ho] at q;rw[if_neg (~~~z')]
   erw[q]
abbrev Zu:dj:=#v[.ifs (.de (.cmp .HE @2 (.lit .bK))) #v[.ret (.lit .bK)] .nil,.ifs (.or (.de (.DN @2 [.own "NoToken"])) (.not (.de (.DN @2 [.Fj])))) #v[.ret (.tup #v[↑[111,116,104,101,114]])] .nil,.ifs (.de (.DN @2 [.own "BadRule"])) #v[.ret (.tup #v[↑[98,97,100],.fld @2 "rule",.fld @2 "at"])] .nil,.ifs (.de (.DN @2 [.own "TakesNothing"])) #v[.ret (.tup #v[↑[110,111,116,104,105,110,103],.fld @2 "rule"])] .nil,.ret (.Fl (.de (.DN @2 [.own "TooMany"])) (.tup #v[↑[109,97,110,121],.fld @2 "rule"]) (.tup #v[↑[111,116,104,101,114]]))]
def pj:∀{xs:List (List Nat)}{k m:Nat}{x:Xn},out M k m xs=ξ x->(∃a b,x=#["BadRule",[aO a,aO b],ϑ])\/(∃a,x=#["TakesNothing",[aO a],ζ])\/∃a,x=#["TooMany",[aO a],ζ]
 |[],k,m,x,h=>L2.nn h
 |y::r,k,m,x,h=>by
  unfold out at h;by_cases z:k=6
  .rw[if_pos z] at h;cases h;erw[.inr (.inr #[6,rfl])]
  rw[if_neg z] at h;cases e:rz y with
  |bad a=>rw[e] at h;cases h;erw[.inl #[k,a,rfl]]
  |nul n=>rw[e] at h;cases h;erw[.inr (.inl #[k,rfl])]
  |no=>rw[e] at h;erw[L2.nn h]
  |pl n=>
   rw[e] at h;have h:(if M<m+n then _ else _)=ξ x:=h;by_cases z:M<m+n
   .rw[if_pos z] at h;cases h;erw[.inr (.inr #[k,rfl])]
   .rw[if_neg z] at h;erw[pj h]
abbrev Zv:Option Xn->U
 |none=>.bK
 |some x=>.exc x.c x.us
def ED(Γ:bU)(hD:D.rt=Q)(ho:out M 0 0 xs=o)(q:Q (du o) S):Rest Γ Zu D [ξ (.loc n),ξ w,ξ (Zv o),x3] S:=by
 subst hD;unfold Zu;cases o with
 |none=>
  unfold Zv;room;erw[q]
 |some x=>
  unfold Zv;rcases pj ho with⟨a,b,rfl⟩|⟨a,rfl⟩|⟨a,rfl⟩
  .rw[Wf] at q
   room;exact#[#v[],q]
  .rw[Wg] at q
   room;exact#[#v[],q]
  .rw[Si] at q
   room;exact#[#v[],q]
abbrev wM(w:Int):Nat:=if w=0 then 24 else 10
abbrev JT:Spec:=λus S Q _=>∃(n:Nat)(w:Int)(xs:List (List Nat)),us=[.loc n,.int w]/\S[n]?=ξ (.lst (xs.map .str))/\(∀x∈xs,vM x)/\xs.length<=100/\∀S',Ext S S'->Q (du (out (wM w) 0 0 xs)) S'
abbrev Zw:dj:=#v[.ifs (.de (.cmp .eq @1 ↑0)) #v[.ex (.mk "Lexer" "Lexer.__init__" #v[@0])] #v[.ifs (.de (.cmp .eq @1 ↑1)) #v[.ex (.call "table_of" #v[@0])] #v[.ifs (.de (.cmp .eq @1 ↑2)) #v[.ex (.call "difference" #v[@0,.lst #v[↑[97]]])] #v[.ifs (.de (.cmp .eq @1 ↑3)) #v[.ex (.call "difference" #v[.lst #v[↑[97]],@0])] #v[.ifs (.de (.cmp .eq @1 ↑4)) #v[.ex (.call "samples" #v[@0])] #v[.ex (.call "unused" #v[@0])]]]]]]
def Sj(Γ:bU)(ho:out M 0 0 xs=o)(q:∀S',Ext S S'->Q (du o) S')
  (hb:∀D:Ends,(o=ψ->∀S',Ext S S'->D.nx [ξ (.loc n),ξ w,ξ .bK,ψ] S')->(∀x,o=ξ x->∀S',Ext S S'->D.ex [ξ (.loc n),ξ w,ξ .bK,ψ] x S')->Rest Γ Zw D [ξ (.loc n),ξ w,ξ .bK,ψ] S):
  Rest Γ (.cons (.Pu Zw "TokenError" 3 (.cons (.set 2 @3) .nil)) Zu) #[λ_ S1=>Q .bK S1,Q,λ_=>E] [ξ (.loc n),ξ w,ξ .bK,ψ] S:=by
 rwa[Rest.go ?_];rw[vj,UE]
 rwa[hb _ (λe S' x=>?_) (λx e S' x'=>#[?_,?_])]
 .subst e
  erw[ED (o:=ψ) (n:=n) (w:=w) (x3:=ψ) (D:=#[λ_ S1=>Q .bK S1,Q,λ_=>E]) Γ rfl ho (q S' x)]
 .subst e
  rcases pj ho with⟨a,b,rfl⟩|⟨a,rfl⟩|⟨a,rfl⟩<;>rfl
 .subst e
  room;erw[ED (o:=ξ x) (n:=n) (w:=w) (x3:=ψ) (D:=#[λ_ S1=>Q .bK S1,Q,λ_=>E]) Γ rfl ho (q S' x')]
def Wj:∀x∈[[97]],vM x:=λx m=>(zA (p:=([97],1)) (by rw[aX.mp m] at *;erw[aV ..])).ok |> λh=>%[aX.mp m|h]
def Ol:out 10 0 0 [[97]]=ψ:=by
 have h:rz [97]=.pl 1:=((zA (p:=([97],1)) (aV ..)).pl ⋯ ⋯).2;unfold out;rw[if_neg ⋯,h]
 rfl
def Wk(Γ:bU)(h1:Γ "Lexer.__init__"=V0)(h2:Γ "table_of"=Nq)(h3:Γ "difference"=V6)(h4:Γ "samples"=Sf)(h5:Γ "unused"=Wb):Keeps Γ ub.kE 2 JT:=by
 rintro us S Q E ⟨n,w,xs,rfl,gn,hR,hl,q⟩;generalize ho:out (wM w) 0 0 xs=o at q;unfold ub.kE;rw[vj,UC,w_lit]
 rwa[Rest.go ?_];rwa[Sj Γ ho q λD qn qx=>?_]
 subst ho;unfold Zw;room;by_cases z:(w==0)=ζ
 .have e:wM w=24:=if_pos (beq_iff_eq.mp z)
  rw[e] at qn qx;rw[if_pos z]
  room;rwa[ca h1 #[S.length,n,xs,rfl,#v[],(Ext.app _).get gn,hR,hl,λx e S' x'=>qx x e S' ((Ext.app _).trans x'),λe S' o'=>#[rfl,?_]]];room;erw[qn e S' (zw o')]
 have e:wM w=10:=if_neg λy=>z (beq_iff_eq.mpr y)
 rw[e] at qn qx;rw[if_neg z]
 room;by_cases z:(w==1)=ζ
 .rw[if_pos z]
  room;rwa[ca h2 #[n,xs,rfl,gn,hR,hl,qx,λe T told ls go S' _ _ x' _ _=>?_]];room;erw[qn e S' x']
 rw[if_neg z]
 room;have xa:Ext S (S++[SO.lst [U.str [97]]]):=Ext.app _;have ga:(S++[SO.lst [U.str [97]]])[S.length]?=ξ (.lst ([[97]].map .str)):=by simp
 by_cases z:(w==2)=ζ
 .rw[if_pos z]
  room;refine#[#v[],ca h3 #[n,S.length,xs,[[97]],rfl,xa.get gn,ga,hR,hl,Wj,#v[],λx e S' x'=>qx x e S' (xa.trans x'),λe=>#[λx e'=>absurd e' (%[Ol|λz=>nomatch z]),λ_ v S' x'=>?_]]];room;erw[qn e S' (xa.trans x')]
 rw[if_neg z]
 room;by_cases z:(w==3)=ζ
 .rw[if_pos z]
  room;refine#[#v[],ca h3 #[S.length,n,[[97]],xs,rfl,ga,xa.get gn,Wj,#v[],hR,hl,λx e'=>absurd e' (%[Ol|λz=>nomatch z]),λ_=>#[λx e S' x'=>qx x e S' (xa.trans x'),λe v S' x'=>?_]]];room;erw[qn e S' (xa.trans x')]
 rw[if_neg z]
 room;by_cases z:(w==4)=ζ
 .rw[if_pos z]
  room;rwa[ca h4 #[n,xs,rfl,gn,hR,hl,qx,λe vs m S' x' _ _=>?_]];room;erw[qn e S' x']
 rw[if_neg z]
 room;rwa[ca h5 #[n,xs,rfl,gn,hR,hl,qx,λe v S' x'=>?_]];room;erw[qn e S' x']
abbrev Xd:dj:=#v[.set 4 (.bin .add ↑1 (.bin .mod (.call "_law_mix" #v[@0,↑21]) ↑5)),.ret (.cmp .eq (.call "_law_found" #v[.comp ϑ (.ix @0 ↑0) (.val @1) (.de (.lit (.bl ζ))) [],@4]) (.call "_law_due" #v[@1,↑10]))]
abbrev Zx:dj:=(.cons (.ifs (.and (.de (.cmp .HE (.call "_law_due" #v[@1,↑10]) (.lit .bK))) (.de (.cmp .gt (.blt .len #v[@1]) ↑2))) #v[.set 1 (.sl @1 .no (.e ↑2))] .nil) Xd)
abbrev pL2:dj:=(.cons (.set 2 (.comp ϑ (.ix @0 ↑0) (.val @1) (.de (.lit (.bl ζ))) [])) (.cons (.set 3 (.blt .list #v[@2])) (.cons (.ifs (.or (.de (.cmp .ne (.call "_law_found" #v[@3,↑0]) (.call "_law_due" #v[@1,↑24]))) (.de (.cmp .ne @3 @2))) #v[.ret (.lit (.bl ϑ))] .nil) Zx)))
def Om(ho:out M 0 0 xs=o)(h:q ζ):vV (du o) (du o) q:=by
 cases o with
 |none=>exact#[#[rfl,rfl,rfl,bC _],h]
 |some x=>
  have sr:∀s:List Nat,(s==s)=ζ:=λs=>beq_self_eq_true s
  have ir:∀s:Int,(s==s)=ζ:=λs=>beq_self_eq_true s
  rcases pj ho with⟨a,b,rfl⟩|⟨a,rfl⟩|⟨a,rfl⟩
  .refine#[#[rfl,rfl,rfl,by show 1<=100;decide],?_]
   show q (([98,97,100]==[98,97,100])&&(((a:Int)== a)&&(((b:Int)== b)&&ζ)))
   rw[ir,ir];erw[h]
  .refine#[#[rfl,rfl,rfl,by show 1<=100;decide],?_]
   show q (([110,111,116,104,105,110,103]==[110,111,116,104,105,110,103])&&(((a:Int)== a)&&ζ))
   rw[ir];erw[h]
  .refine#[#[rfl,rfl,rfl,by show 1<=100;decide],?_]
   show q (([109,97,110,121]==[109,97,110,121])&&(((a:Int)== a)&&ζ))
   rw[ir];erw[h]
def Wl(ho:out M 0 0 xs=o)(h:q ϑ):ig .ne (du o) (du o) S q:=by
 have e:=Om (q:=λb=>q !b) ho h;cases o with
 |none=>exact#[rfl,e]
 |some x=>exact#[rfl,e]
def txs{g:bE->Prop}{c:U->bE->(Bool->bE->Prop)->Prop}{e:U->bE->KU->Prop}{Q:List U->bE->Prop}{S:bE}{ps:List Rl}(hl:ps.length<=100)(hg:∀S',Ext S S'->g S')(hc:∀u S' k,k ζ S'->c u S' k)(he:∀p S' k,k (.str p.1) S'->e (vX p) S' k)(q:∀S',Ext S S'->Q ((ps.map (·.1)).map .str) S'):lM g c e Q (ps.map vX) [] S:=by
 rwa[pe (S:=S) _ ((ps.map (·.1)).map .str) (#v[]) ((·)) hg hc (λj u v hu hv S2 k x hk=>?_) q];let#[p,hp,rfl]:=fY hu;rw[aE,aE,hp] at hv;have hv:U.str p.1=v:=by simpa using hv
 subst hv;erw[he p S2 k (hk S2 .refl)]
def Oo(Γ:bU)(h1:Γ "_law_mix"=yW.xY)(h2:Γ "_law_found"=JT)(h3:Γ "_law_due"=JS){S:bE}{n:Nat}{ns:List Int}{ps:List Rl}{x2 x3 x4:Option U}{D:Ends}(hn:ns.length<=63)(gn:S[n]?=ξ (.lst (ps.map vX)))(hR:∀p∈ps,Ru p)(hl:ps.length<=100)(q:∀S',D.rt (.bl ζ) S'):
  Rest Γ Xd D [ξ (.tL ns),ξ (.loc n),x2,x3,x4] S:=by
 unfold Xd;room;rwa[ca h1 #[ns,_,rfl,∅,λm m0 m1=>#[⋯,?_]]];room;rw[gn,aK]
 have w0:wM (1+m%5)=10:=if_neg ∅;rwa[txs hl (λS' x=>x.get gn) (λu S' k h=>h) (λp S' k h=>?_) λS1 x1=>?_]
 .exact#[by show 3<=1000000;decide,h]
 rwa[ca h2 #[S1.length,1+m%5,ps.map (·.1),rfl,#v[],λx mx=>?_,by simp;erw[hl],λS2 x2=>?_]]
 .let#[p,mp,rfl]:=bO.mp mx
  exact(hR p mp).ok
 rw[w0]
 have x:=(x1.trans (Ext.app [SO.lst ((ps.map (·.1)).map U.str)])).trans x2;rwa[ca h3 #[n,10,ps,rfl,x.get gn,hR,hl,?_]];erw[Om (q:=λr=>D.rt (.bl r) S2) rfl (q S2)]
def Wm(Γ:bU)(h1:Γ "_law_mix"=yW.xY)(h2:Γ "_law_found"=JT)(h3:Γ "_law_due"=JS){S:bE}{n:Nat}{ns:List Int}{ps:List Rl}{x2 x3 x4:Option U}{D:Ends}(hn:ns.length<=63)(gn:S[n]?=ξ (.lst (ps.map vX)))(hR:∀p∈ps,Ru p)(hl:ps.length<=100)(q:∀S',D.rt (.bl ζ) S'):
  Rest Γ Zx D [ξ (.tL ns),ξ (.loc n),x2,x3,x4] S:=by
 unfold Zx;room;refine ca h3 #[n,10,ps,rfl,gn,hR,hl,?_];room;have no:∀S,S[n]?=ξ (.lst (ps.map vX))->Rest Γ dj.nil #[λen S1=>Rest Γ Xd D en S1,D.rt,D.ex] [ξ (.tL ns),ξ (.loc n),x2,x3,x4] S:=λS gn=>by
  room;erw[Oo Γ h1 h2 h3 hn gn hR hl q]
 cases sX (du (out 10 0 0 (ps.map (·.1)))) with
 |false=>erw[no S gn]
 |true=>
  rw[if_pos rfl,jO gn,bq,ah]
  refine#[∅,?_];cases decide ((2:Int)<(ps.length:Int)) with
  |false=>erw[no S gn]
  |true=>
   rw[if_pos rfl]
   room;dsimp[SA];rw[gn,aK]
   have ec:sj (ps.map vX) ψ (ξ 2)=(ps.take 2).map vX:=by
    unfold sj;dsimp[jB,gZ,yy,BQ,jr,n9,ah];rw[zJ]
    by_cases z:ps.length<=2
    .rw[jX (by show ps.length<=2;erw[z]),dO (#v[]),dO (by simp;erw[z])]
    .rw[kN (by show 2<=ps.length;omega)];rfl
   rw[ec]
   refine#[#[λi e=>(by cases e),λi e=>(by injection e with e;omega)],?_];room;erw[Oo Γ h1 h2 h3 (ps:=ps.take 2) hn (#v[]) (λp m=>hR p (List.mem_of_mem_take m)) (by rw[b3];omega) q]
def Oq(Γ:bU)(h1:Γ "_law_mix"=yW.xY)(h2:Γ "_law_found"=JT)(h3:Γ "_law_due"=JS){S:bE}{n:Nat}{ns:List Int}{ps:List Rl}{D:Ends}(hn:ns.length<=63)(gn:S[n]?=ξ (.lst (ps.map vX)))(hR:∀p∈ps,Ru p)(hl:ps.length<=100)(q:∀S',D.rt (.bl ζ) S'):
  Rest Γ pL2 D [ξ (.tL ns),ξ (.loc n),ψ,ψ,ψ] S:=by
 unfold pL2;room;rw[gn,aK]
 rwa[txs hl (λS' x=>x.get gn) (λu S' k h=>h) (λp S' k h=>#[by show 3<=1000000;decide,h]) λS1 x1=>?_]
 room;have x2:=x1.trans (Ext.app [SO.lst ((ps.map (·.1)).map U.str)]);have g2:(S1++[SO.lst ((ps.map (·.1)).map U.str)])[S1.length]?=ξ (.lst ((ps.map (·.1)).map U.str)):=by simp
 generalize S1.length=t at g2 ⊢;generalize S1++[SO.lst ((ps.map (·.1)).map U.str)]=S2 at x2 g2 ⊢;rw[g2,aK]
 have x3:=x2.trans (Ext.app [SO.lst ((ps.map (·.1)).map U.str)]);have g3:(S2++[SO.lst ((ps.map (·.1)).map U.str)])[S2.length]?=ξ (.lst ((ps.map (·.1)).map U.str)):=by simp
 have g2:=(Ext.app [SO.lst ((ps.map (·.1)).map U.str)]).get g2;generalize S2.length=h at g3 ⊢;generalize S2++[SO.lst ((ps.map (·.1)).map U.str)]=S3 at x3 g2 g3 ⊢;room;rwa[ca h2 #[h,0,ps.map (·.1),rfl,g3,λx mx=>?_,by simp;erw[hl],λS4 x4=>?_]]
 .let#[p,mp,rfl]:=bO.mp mx
  exact(hR p mp).ok
 rw[show wM 0=24 from rfl]
 rwa[ca h3 #[n,24,ps,rfl,(x3.trans x4).get gn,hR,hl,?_]];rwa[Wl rfl ?_];room;rw[Ut]
 refine#[t,ps.map (·.1),rfl,x4.get g3,x4.get g2,?_];rw[if_neg ⋯]
 room;erw[Wm Γ h1 h2 h3 hn ((x3.trans x4).get gn) hR hl q]
def JU(Γ:bU)(h1:Γ "_law_mix"=yW.xY)(h2:Γ "_law_found"=JT)(h3:Γ "_law_due"=JS)(h4:Γ "_law_rule"=Wd):Keeps Γ ub.D1 4 (λus _ Q _=>∃ns:List Int,us=[.tL ns]/\ns.length<=63/\∀S',Q (.bl ζ) S'):=by
 rintro us S Q E ⟨ns,rfl,hn,q⟩;unfold ub.D1;room;rwa[ca h1 #[ns,_,rfl,∅,λm m0 m1=>#[⋯,?_]]];refine#[∅,∅,?_];rwa[fR _ (λi acc S'=>Ext S S'/\∃ps:List Rl,acc=ps.map vX/\ps.length=i/\∀p∈ps,Ru p) (λi acc S' hi h9=>#[trivial,?_]) (λi u acc S' k hu hi hk=>?_) (λacc S1 h=>?_) #[.refl,[],rfl,rfl,λp mp=>nomatch mp]]
 .let#[_,ps,rfl,e,_]:=h9
  rw[ah,eL] at hi;rw[ah];omega
 .let#[x,ps,rfl,e,hR]:=hi
  let#[rfl,_]:=rA hu;rw[if_pos rfl]
  room;rwa[ca h1 #[ns,_,rfl,∅,λm' m0' m1'=>?_]];rwa[ca h4 #[m',rfl,m0',λp S2 hp x2=>hk _ _ #[x.trans x2,ps++[p],#v[],by simp[e],λp' m=>?_]]];rcases aT.mp m with m|m
  .erw[hR p' m]
  .rw[aX.mp m];erw[hp]
 let#[x,ps,rfl,e,hR]:=h;rw[ah,eL] at e;have hl:ps.length<=9:=∅
 have x1:=x.trans (Ext.app [SO.lst (ps.map vX)]);have g1:(S1++[SO.lst (ps.map vX)])[S1.length]?=ξ (.lst (ps.map vX)):=by simp
 generalize S1.length=n at g1 ⊢;generalize S1++[SO.lst (ps.map vX)]=S2 at x1 g1 ⊢;room;rwa[ca h1 #[ns,_,rfl,∅,λm' m0' m1'=>#[⋯,?_]]];show ig .eq (.int (m'%2)) (.int 0) S2 _;rw[HR,LW]
 cases (m'%2==0) with
 |false=>
  rw[if_neg ⋯]
  room;erw[Oq Γ h1 h2 h3 (D:=#[λ_ S1=>Q .bK S1,Q,λ_=>E]) hn g1 hR ∅ q]
 |true=>
  rw[if_pos rfl]
  room;rw[g1,aK]
  rwa[fR _ (λi acc S'=>S'=S2/\∃ps':List Rl,acc=ps'.map vX/\ps'.length<=i/\∀p∈ps',Ru p) (λi acc S' hi h9=>?_) (λi u acc S' k hu hi hk=>?_) (λacc S3 h=>?_) #[rfl,[],rfl,ar _,λp mp=>nomatch mp]]
  .let#[rfl,ps',rfl,e',_]:=h9
   rw[ah] at hi ⊢;exact#[g1,∅]
  .let#[rfl,ps',rfl,e',hR']:=hi
   let#[p,hp,rfl]:=fY hu;room;refine#[by show 3<=1000000;decide,?_];rw[Nv,bq]
   rw[HR,LW]
   cases (p.2.2 == -1) with
   |false=>erw[hk _ _ #[rfl,ps',rfl,∅,hR']]
   |true=>
    rwa[hk _ _ #[rfl,ps'++[p],#v[],(·),λp' m=>?_]];rcases aT.mp m with m|m
    .erw[hR' p' m]
    .rw[aX.mp m];erw[hR p (ax hp)]
  .let#[rfl,ps',rfl,e',hR']:=h
   rw[ah] at e';room;erw[Oq Γ h1 h2 h3 (D:=#[λ_ S1=>Q .bK S1,Q,λ_=>E]) hn (#v[]) hR' ∅ q]
end PL.ub
end
namespace L2
open PySem PySem.Spec PyProof.Rows PySem.W
open PL (U SO bE Xn KU KX bU)
abbrev wz:PL.Spec:=λ_ _ _ _=>False
abbrev FY(Γ:bU)(x:String)(sp:PL.Spec):bU:=λy=>if y=x then sp else Γ y
abbrev Role(c:Ctx)(T:Tab)(x:String)(f:Addr):Prop:=
 (x∈T.fns/\c.mg (nm x)=ξ (.ref f))\/(∃p∈T.qm,x=p.2++"."++p.1/\∃C,c.cls p.2=ξ C/\Meth c.K C (nm p.1) f)\/(∃y∈T.qk,x=y++".__init__"/\∃C,c.cls y=ξ C/\Mk c.K C f)
def FnAt.mono(F:FnAt c j f sp)(h:j<=k):FnAt c k f sp:=by
 let#[fd,ps,F,B]:=F;exact#[fd,ps,F.mono h,B]
def cP:FY Γ x sp x=sp:=if_pos rfl
def uv(h:y≠x):FY Γ x sp y=Γ y:=if_neg h
def gf.add(G:gf c T Γ k)(h:k<=k')(F:∀f,Role c T x f->FnAt c k' f sp):gf c T (FY Γ x sp) k':=by
 refine#[λy hy=>?_,λp hp=>?_,λy hy=>?_]
 .let#[f,hm,kp,A]:=G.fns y hy
  refine#[f,hm,kp,?_];by_cases e:y=x
  .subst e;rw[cP];erw[F f (.inl #[hy,hm])]
  .rw[uv e];erw[A.mono h]
 .let#[C,f,hc,hm,A]:=G.SK p hp
  refine#[C,f,hc,hm,?_];by_cases e:p.2++"."++p.1=x
  .rw[e,cP];erw[F f (.inr (.inl #[p,hp,e.symm,C,hc,hm]))]
  .rw[uv e];erw[A.mono h]
 .let#[C,f,hc,hg,hm,A]:=G.cls y hy
  refine#[C,f,hc,hg,hm,?_];by_cases e:y++".__init__"=x
  .rw[e,cP];erw[F f (.inr (.inr #[y,hy,e.symm,C,hc,hm]))]
  .rw[uv e];erw[A.mono h]
def Nw(hm:c.mg (nm x)=ξ (.ref f0))(h2:(T.qm.all λp=>p.2++"."++p.1 !=x)=ζ)(h3:(T.qk.all λy=>y++".__init__" !=x)=ζ)(R:Role c T x f):f=f0:=by
 rcases R with⟨_,e⟩|⟨p,hp,e,_⟩|⟨y,hy,e,_⟩
 .rw[hm] at e;cases e;rfl
 .have:=bu.mp h2 p hp
  rw[e] at this;simp at this
 .have:=bu.mp h3 y hy
  rw[e] at this;simp at this
def Nx(hc:c.cls cl=ξ C)(hm:Meth c.K C (nm m) f0)(h1:T.fns.contains (cl++"."++m)=ϑ)(h2:(T.qm.all λp=>p.2++"."++p.1 !=cl++"."++m||(p.1==m&&p.2==cl))=ζ)(h3:(T.qk.all λy=>y++".__init__" !=cl++"."++m)=ζ)(R:Role c T (cl++"."++m) f):f=f0:=by
 rcases R with⟨h,_⟩|⟨p,hp,e,C',hc',hm'⟩|⟨y,hy,e,_⟩
 .erw[absurd (BR.mpr h) (by rw[h1];simp)]
 .have:=bu.mp h2 p hp
  rw[e] at this;simp at this;let#[e1,e2]:=this;rw[e2,hc] at hc';cases hc';rw[e1] at hm';have:=hm.at_.symm.trans hm'.at_;cases this;rfl
 .have:=bu.mp h3 y hy
  rw[e] at this;simp at this
def Ny(hc:c.cls cl=ξ C)(hm:Mk c.K C f0)(h1:T.fns.contains (cl++".__init__")=ϑ)(h2:(T.qm.all λp=>p.2++"."++p.1 !=cl++".__init__")=ζ)(h3:(T.qk.all λy=>y++".__init__" !=cl++".__init__"||y==cl)=ζ)(R:Role c T (cl++".__init__") f):f=f0:=by
 rcases R with⟨h,_⟩|⟨p,hp,e,C',hc',hm'⟩|⟨y,hy,e,C',hc',hm'⟩
 .erw[absurd (BR.mpr h) (by rw[h1];simp)]
 .have:=bu.mp h2 p hp
  rw[e] at this;simp at this
 .have:=bu.mp h3 y hy
  rw[e] at this;simp at this;rw[this,hc] at hc';cases hc';have:=hm.init.symm.trans hm'.init;cases this;rfl
def Wn(B:Binds c.K fd ps []):FnAt c k f wz:=
 #[fd,ps,#[λvs H Q E h=>by let#[us,ρ,S0,QU,EU,r,R,w,q,qx]:=h;erw[w.elim],λA outer s H args us vs Q E hr he hb hv hs=>by let#[us,ρ,S0,QU,EU,r,R,w,q,qx]:=hs;erw[w.elim]],B]
structure Df(c:Ctx)(T:Tab)(st:Stmt)(f:Addr)(N ps:List Str)(b:PL.dj)(m:Nat):Prop where
 fn:∃x qual fd,Ad c.K x qual st f fd/\Binds c.K fd ps []
 sc:fB N ps (bf st)
 tx:∃n,Kl T n #[(bf st).names,N,ζ] (dI st)=ξ b
 hm:N.length=ps.length+m
def Df.ok{c:Ctx}{T:Tab}{Γ:bU}{st:Stmt}{f:Addr}{N ps:List Str}{b:PL.dj}{m k kx:Nat}{sp:PL.Spec}(D:Df c T st f N ps b m)(B:Base c T kx)(hkx:kx<=k)(G:gf c T Γ k)(hk:PL.Keeps Γ b m sp)(hl:∀us S Q E,sp us S Q E->us.length=ps.length):FnAt c (k+2) f sp:=by
 let#[x,qual,fd,F,Bi]:=D.fn;let#[n,hc]:=D.tx;exact#[fd,ps,N7 F D.sc B hkx G hc hk D.hm hl,Bi]
def Df.up{c:Ctx}{T:Tab}{Γ:bU}{st:Stmt}{f:Addr}{N ps:List Str}{b:PL.dj}{m k kx:Nat}{x:String}{sp:PL.Spec}(D:Df c T st f N ps b m)(R:∀g,Role c T x g->g=f)(B:Base c T kx)(hkx:kx<=k)(G:gf c T Γ k)(hk:PL.Keeps Γ b m sp)(hl:∀us S Q E,sp us S Q E->us.length=ps.length):gf c T (FY Γ x sp) (k+2):=
 G.add ∅ λg r=>%[R g r|D.ok B hkx G hk hl]
abbrev er(Γ Γ':bU)(l:List String):Prop:=∀x,x∉l->Γ' x=Γ x
def er.refl(Γ:bU)(l:List String):er Γ Γ l:=λ_ _=>rfl
def er.up(h:er Γ Γ' l)(m:x∈l):er Γ (FY Γ' x sp) l:=λy hy=>(uv (λe=>hy (%[e|m]))).trans (h y hy)
def gf.none(h1:∀x∈T.fns,∃f,c.mg (nm x)=ξ (.ref f)/\kL c.K (.ref f)=ζ/\FnAt c k f wz)(h2:∀p∈T.qm,∃C f,c.cls p.2=ξ C/\Meth c.K C (nm p.1) f/\FnAt c k f wz)
  (h3:∀x∈T.qk,∃C f,c.cls x=ξ C/\c.mg (nm x)=ξ (.ref C)/\Mk c.K C f/\FnAt c k f wz):gf c T (λ_=>wz) k:=#[h1,h2,h3]
open PL (U SO bE Xn KU KX bU)
abbrev RN:List String:=["in_order","all_but","is_ahead","stretch","read","joined","Reader.__init__","Reader.sees","Reader.passes","Reader.choice","Reader.row","Reader.repeat","Reader.atom","Reader.bracket","Reader.sign_class","Reader.item","Reader.written_sign"]
structure ip(c:Ctx)(T:Tab)(x:String)(n m:Nat)(b:PL.dj):Prop where
 ex:∃st f N ps,Df c T st f N ps b m/\ps.length=n/\∀g,Role c T x g->g=f
structure GS(c:Ctx)(T:Tab)(kx:Nat)(Γ:bU)(k:Nat):Prop where
 le:kx<=k
 ok:gf c T Γ k
def ip.up(D:ip c T x n m b)(B:Base c T kx)(G:GS c T kx Γ k)(hk:PL.Keeps Γ b m sp)(hl:∀us S Q E,sp us S Q E->us.length=n):GS c T kx (FY Γ x sp) (k+2):=by
 let#[st,f,N,ps,D0,e,R]:=D.ex;exact#[Nat.le_add_right_of_le G.le,L2.Df.up D0 R B G.le G.ok hk (λus S Q E h=>(hl us S Q E h).trans e.symm)]
structure JV(c:Ctx)(T:Tab):Prop where
 Q4:ip c T "in_order" 1 0 PL.mY
 FP:ip c T "all_but" 1 0 PL.oY
 ahead:ip c T "is_ahead" 2 0 PL.mZ
 Jd:ip c T "stretch" 2 0 PL.oZ
 read:ip c T "read" 1 2 PL.yV
 joined:ip c T "joined" 2 0 PL.qS
 init:ip c T "Reader.__init__" 2 0 PL.jD
 sees:ip c T "Reader.sees" 2 0 PL.jE
 passes:ip c T "Reader.passes" 2 0 PL.iG
 choice:ip c T "Reader.choice" 1 1 PL.iH
 row:ip c T "Reader.row" 1 1 PL.km
 repeat_:ip c T "Reader.repeat" 1 1 PL.iI
 atom:ip c T "Reader.atom" 1 0 PL.jF
 bracket:ip c T "Reader.bracket" 1 1 PL.gQ
 cls:ip c T "Reader.sign_class" 1 2 PL.eP
 item:ip c T "Reader.item" 1 3 PL.jG
 ws:ip c T "Reader.written_sign" 2 1 PL.dU
def tB(us:List U)(S:bE)(Q:KU)(E:KX)(h:PL.zK args p d us S Q E):us.length=args.length+1:=by
 let#[r,x,rest,rfl,_]:=h;rfl
def len_T(us:List U)(S:bE)(Q:KU)(E:KX)(h:PL.spT f us S Q E):us.length=1:=by
 let#[l,rfl,_]:=h;rfl
def Bb(R:JV c T)(B:Base c T kx)(G:GS c T kx Γ k):∃Γ',GS c T kx Γ' (k+16)/\er Γ Γ' RN/\PL.GR Γ'/\Γ' "joined"=PL.lj/\Γ' "Reader.__init__"=PL.nA:=by
 have g1:=R.Q4.up B G (PL.AQ _) len_T;have g2:=R.FP.up B g1 (PL.CQ _) len_T;have g3:=R.ahead.up B g2 (PL.AR _) (λus S Q E h=>by let#[a,b,rfl,_]:=h;rfl);have g4:=R.Jd.up B g3 (PL.CT _) (λus S Q E h=>by let#[a,b,rfl,_]:=h;rfl);have g5:=R.joined.up B g4 (PL.FQ _) (λus S Q E h=>by let#[a,b,t,rfl,_]:=h;rfl);have g6:=R.init.up B g5 (PL.Jk _) (λus S Q E h=>by let#[a,b,rfl,_]:=h;rfl);have g7:=R.sees.up B g6 (PL.MM _) (λus S Q E h=>by let#[a,b,_,_,_,rfl,_]:=h;rfl);have g8:=R.passes.up B g7 (PL.MN _ cP) (λus S Q E h=>by let#[l,d,h]:=h;exact tB _ _ _ _ h);refine#[_,g8,?_,#[rfl,rfl,rfl,rfl,rfl,rfl],rfl,rfl];refine er.up (er.up (er.up (er.up (er.up (er.up (er.up (er.up (er.refl _ _) ?_) ?_) ?_) ?_) ?_) ?_) ?_) ?_<;>decide
def Wo(k d:Nat)(h:d+k=6)(hc:∀j,k=j+1->Γ "Reader.choice"=PL.zK [] (PL.jf (PL.CU j)) (d+1)):PL.Vi Γ (PL.CU k) d:=by
 cases k with
 |zero=>erw[.inl #[rfl,∅]]
 |succ j=>erw[.inr #[_,rfl,∅,PL.zk (j+1),hc j rfl]]
def tF(R:JV c T)(B:Base c T kx)(G:GS c T kx Γ k)(Sm:er Γ0 Γ RN)(gr:PL.GR Γ)(gj:Γ "joined"=PL.lj)(gi:Γ "Reader.__init__"=PL.nA)(n d:Nat)(hd:d+n=6)
  (hc:∀j,n=j+1->Γ "Reader.choice"=PL.zK [] (PL.jf (PL.CU j)) (d+1)):
  ∃Γ',GS c T kx Γ' (k+16)/\er Γ0 Γ' RN/\PL.GR Γ'/\Γ' "joined"=PL.lj/\Γ' "Reader.__init__"=PL.nA/\Γ' "Reader.choice"=PL.zK [] (PL.jf (PL.CU n)) d:=by
 let#[e1,e2,e3,e4,e5,e6]:=gr;have hbo:=PL.zk n;have g1:=R.bracket.up B G (PL.Vj _ #[e1,e2,e3,e4,e5,e6] (PL.CU n) d (Wo n d hd hc)) (λus S Q E h=>by let#[a,b,_,rfl,_]:=h;rfl);have g2:=R.ws.up B g1 (PL.Je _ #[e1,e2,e3,e4,e5,e6] d) (λus S Q E h=>by let#[m,h]:=h;exact tB _ _ _ _ h);have g3:=R.item.up B g2 (PL.MQ _ d #[#[e1,e2,e3,e4,e5,e6],rfl]) tB;have g4:=R.cls.up B g3 (PL.Q5 _ d #[#[#[e1,e2,e3,e4,e5,e6],rfl],rfl]) tB;have g5:=R.atom.up B g4 (PL.MT _ (PL.CU n) d #[#[#[#[e1,e2,e3,e4,e5,e6],rfl],rfl],rfl,rfl]) tB;have g6:=R.repeat_.up B g5 (PL.FR _ (PL.CU n) d hbo #[#[#[#[#[e1,e2,e3,e4,e5,e6],rfl],rfl],rfl,rfl],rfl]) tB;have g7:=R.row.up B g6 (PL.Ra _ (PL.CU n) d hbo #[#[#[#[#[#[e1,e2,e3,e4,e5,e6],rfl],rfl],rfl,rfl],rfl],rfl,gj]) tB;have g8:=R.choice.up B g7 (PL.FT _ (PL.CU n) d hbo #[#[#[#[#[#[#[e1,e2,e3,e4,e5,e6],rfl],rfl],rfl,rfl],rfl],rfl,gj],rfl]) tB;refine#[_,g8,?_,#[e1,e2,e3,e4,e5,e6],gj,gi,rfl];refine er.up (er.up (er.up (er.up (er.up (er.up (er.up (er.up Sm ?_) ?_) ?_) ?_) ?_) ?_) ?_) ?_<;>decide
def vN(R:JV c T)(B:Base c T kx)(G:GS c T kx Γ k)(Sm:er Γ0 Γ RN)(gr:PL.GR Γ)(gj:Γ "joined"=PL.lj)(gi:Γ "Reader.__init__"=PL.nA):
  ∀(n d:Nat),d+n=6->∃Γ',GS c T kx Γ' (k+16*(n+1))/\er Γ0 Γ' RN/\PL.GR Γ'/\Γ' "joined"=PL.lj/\Γ' "Reader.__init__"=PL.nA/\Γ' "Reader.choice"=PL.zK [] (PL.jf (PL.CU n)) d
 |0,d,h=>tF R B G Sm gr gj gi 0 d h (λj e=>∅)
 |n+1,d,h=>by
  let#[Γ1,G1,S1,r1,j1,i1,c1]:=vN R B G Sm gr gj gi n (d+1) ∅;let#[Γ2,G2,z]:=tF R B G1 S1 r1 j1 i1 (n+1) d h (λj e=>by cases e;erw[c1]);exact#[Γ2,G2,z]
def Dc(R:JV c T)(B:Base c T kx)(G:GS c T kx Γ k):∃Γ',GS c T kx Γ' (k+130)/\er Γ Γ' RN/\Γ' "read"=PL.CV/\Γ' "all_but"=PL.spT PL.iR:=by
 let#[Γ1,G1,S1,r1,j1,i1]:=Bb R B G;let#[Γ2,G2,S2,r2,j2,i2,c2]:=vN R B G1 S1 r1 j1 i1 6 0 rfl;have g:=R.read.up B G2 (PL.MU _ i2 c2) (λus S Q E h=>by let#[x,rfl,_]:=h;rfl);exact#[_,g,er.up S2 ⋯,cP,r2.FP]
open PL (U SO bE Xn KU KX bU)
structure pK where
 x:String
 q:String
 cl:String
 st:Stmt
 N:List Str
 ps:List Str
 b:PL.dj
abbrev vO(K:Frag)(x qual:Str)(st:Stmt)(f:Addr):Prop:=∃(oc:Value)(od:Option Addr)(kV dc pm:Value)(an:Option Addr)(cd ct:Value)(sl:Array (Option Value)),
 K.lookup f=ξ #[oc,od,.func (fnOf x qual (ki st) (dI st) (bf st) .none kV dc pm an cd ct),sl]/\codeIn K cd qual=ζ/\kL K (.ref f)=ζ
def vO.fn{K:Frag}{x qual:Str}{st:Stmt}{f:Addr}(h:vO K x qual st f):∃fd,Ad K x qual st f fd/\kL K (.ref f)=ζ:=by
 let#[oc,od,kV,dc,pm,an,cd,ct,sl,h1,h2,h3]:=h;exact#[_,Hi h1 h2 h3,h3]
inductive Bc(K:Frag)(CA:List (String×Addr)):pK->Prop
 |fn{q:String}{st:Stmt}{N ps:List Str}{b:PL.dj}{f:Addr}:nsIn K bw (bP q)=ξ (ξ (.ref f))->vO K (bP q) (bP q) st f->Bc K CA #[q,q,"",st,N,ps,b]
 |mt{x q cl:String}{st:Stmt}{N ps:List Str}{b:PL.dj}{f C:Addr}:(cl=="")=ϑ->CA.lookup cl=ξ C->hX K (.ref C) (bP q)=ξ (ξ (.ref f))->isFn K (.ref f)=ζ->vO K (bP q) (bP x) st f->Bc K CA #[x,q,cl,st,N,ps,b]
abbrev Be(r:pK):Prop:=∀(x qual:Str)(kV dc pm:Value)(an:Option Addr)(cd ct:Value)(us:List Value),us.length=r.ps.length->BG (fnOf x qual (ki r.st) (dI r.st) (bf r.st) .none kV dc pm an cd ct) #[us,[]]=pure (r.ps.zip us)
@[reducible]def Nz(r:pK)(us:List Value):Prop:=∀(x qual:Str)(kV dc pm:Value)(an:Option Addr)(cd ct:Value),BG (fnOf x qual (ki r.st) (dI r.st) (bf r.st) .none kV dc pm an cd ct) #[us,[]]=pure (r.ps.zip us)
def Sk{α:Type}{l:List α}{n:Nat}(h:l.length=n+1):∃a r,l=a::r/\r.length=n:=by
 cases l with
 |nil=>erw[absurd h (fq n).symm]
 |cons a r=>exact#[a,r,rfl,mF h]
def ln1{α:Type}{l:List α}(h:l.length=1):∃a,l=[a]:=jq.mp h
def ln2{α:Type}{l:List α}(h:l.length=2):∃a b,l=[a,b]:=by
 let#[a,r,rfl,k]:=Sk h;let#[b,rfl]:=ln1 k;exact#[a,b,rfl]
def Zy{α:Type}{l:List α}(h:l.length=3):∃a b c,l=[a,b,c]:=by
 let#[a,r,rfl,k]:=Sk h;let#[b,c,rfl]:=ln2 k;exact#[a,b,c,rfl]
def bd1{r:pK}(e:r.ps.length=1)(h:∀a,Nz r [a]):Be r:=λx q a b c d f g us hl=>by
 let#[u,rfl]:=ln1 (hl.trans e);erw[h u x q a b c d f g]
def bd2{r:pK}(e:r.ps.length=2)(h:∀a b,Nz r [a,b]):Be r:=λx q a b c d f g us hl=>by
 let#[u,v,rfl]:=ln2 (hl.trans e);erw[h u v x q a b c d f g]
def bd3{r:pK}(e:r.ps.length=3)(h:∀a b c,Nz r [a,b,c]):Be r:=λx q a b c d f g us hl=>by
 let#[u,v,w,rfl]:=Zy (hl.trans e);erw[h u v w x q a b c d f g]
def bd4{r:pK}(e:r.ps.length=4)(h:∀a b c d,Nz r [a,b,c,d]):Be r:=λx q a b c d f g us hl=>by
 let#[u,s,rfl,k]:=Sk (hl.trans e);let#[v,w,z,rfl]:=Zy k;erw[h u v w z x q a b c d f g]
abbrev FZ(r:pK):Bool:=(bf r.st).kind==.function && !(bf r.st).isCoroutine && !(bf r.st).isGenerator&&decide r.N.Nodup&&r.N.take r.ps.length==r.ps&&(r.ps.all λx=>(bf r.st).names.lookup x==ξ .local||(bf r.st).names.lookup x==ξ .cell)&&((bf r.st).names.all λy=>y.2 !=.free)&&decide (r.ps.length<=r.N.length)
def FZ.sc{r:pK}(h:FZ r=ζ):fB r.N r.ps (bf r.st)/\r.ps.length<=r.N.length:=by
 unfold FZ at h;dsimp[aw,bu,decide_eq_true_eq,cX,beq_iff_eq,me,bne_iff_ne] at h;let#[#[#[#[#[#[#[h1,h2],h3],h4],h5],h6],h7],h8]:=h;exact#[#[h1,h2,h3,h4,h5,h6,h7],h8]
abbrev Sl(T:Tab)(r:pK):Bool:=
 if r.cl=="" then(T.qm.all λp=>p.2++"."++p.1 !=r.x)&&(T.qk.all λy=>y++".__init__" !=r.x)
 else !(T.fns.contains r.x)&&r.x==r.cl++"."++r.q&&if r.q=="__init__" then(T.qm.all λp=>p.2++"."++p.1 !=r.x)&&(T.qk.all λy=>y++".__init__" !=r.x||y==r.cl)
  else(T.qm.all λp=>p.2++"."++p.1 !=r.x||(p.1==r.q&&p.2==r.cl))&&(T.qk.all λy=>y++".__init__" !=r.x)
abbrev JW(rows:List pK):List String:=(rows.filter λr=>r.cl=="").map (·.x)
abbrev JX(rows:List pK):List (String×String):=(rows.filter λr=>r.cl !=""&&r.q !="__init__").map λr=>(r.q,r.cl)
structure NA(K:Frag)(p:String×Addr)(fl:List String):Prop where
 ns:nsIn K bw (bP p.1)=ξ (ξ (.ref p.2))
 cl:xm K p.2
 ms:makesIn K p.2=ζ
 kp:kL K (.ref p.2)=ζ
 na:fl.map (λf=>hX K (.ref p.2) (bP f))=fl.map λ_=>ξ ψ
def oG{α:Type}{x:String}{a:α}:∀{l:List (String×α)},l.lookup x=ξ a->(x,a)∈l
 | (k,v)::l,h=>by
  rw[aQ] at h;split at h
  .rename_i e
   have e:x=k:=eq_of_beq e;cases h;subst e;erw[aV ..]
  .erw[ay _ (oG h)]
def Ot{K:Frag}{C:Addr}{fl:List String}(h:fl.map (λf=>hX K (.ref C) (bP f))=fl.map λ_=>ξ ψ):∀f∈fl,fA K C (nm f):=λf m=>dF.mp h f m
section
variable{c:Ctx}{T:Tab}{rows:List pK}{CA:List (String×Addr)}{h:Heap}{fl:List String}
def NB(X:c.K.In h)(G:h.Ns bw c.mg)(hc:c.cls=λx=>CA.lookup x)(hC:∀p∈CA,NA c.K p fl)(R:∀r∈rows,Bc c.K CA r)(bd:∀r∈rows,Be r)(sc:rows.all FZ=ζ)(rl:rows.all (Sl T)=ζ)
  (tx:rows.map (λr=>Kl T 60 #[(bf r.st).names,r.N,ζ] (dI r.st))=rows.map λr=>ξ r.b) (i:Nat) (r:pK) (e:rows[i]?=ξ r):ip c T r.x r.ps.length (r.N.length-r.ps.length) r.b:=by
 have m:=ax e;let#[s1,s2]:=(bu.mp sc r m |> FZ.sc)
 have t:=dF.mp tx r m;have b:=bd r m;have rr:=bu.mp rl r m;have ln:r.N.length=r.ps.length+(r.N.length-r.ps.length):=∅
 cases R r m with
 |fn h1 h2=>
  let#[fd,F,kp]:=h2.fn;refine#[#[_,_,_,_,#[#[_,_,fd,F,F.binds λkV dc pm an cd ct us hl=>b _ _ kV dc pm an cd ct us hl],s1,#[60,t],ln],rfl,λg ro=>?_]];have rr:((T.qm.all λp=>p.2++"."++p.1 !=_)&&(T.qk.all λy=>y++".__init__" !=_))=ζ:=rr;rw[aw] at rr;erw[Nw (lI X G h1) rr.1 rr.2 ro]
 |@mt x q cl st N ps b' f C hn h0 h1 h2 h3=>
  let#[fd,F,kp]:=h3.fn;refine#[#[_,_,_,_,#[#[_,_,fd,F,F.binds λkV dc pm an cd ct us hl=>b _ _ kV dc pm an cd ct us hl],s1,#[60,t],ln],rfl,λg ro=>?_]];unfold Sl at rr;dsimp[hn,aD,if_false,aw,me,beq_iff_eq] at rr;let#[#[r1,r2],r3]:=rr;have hcl:c.cls cl=ξ C:=%[hc|h0]
  have cm:=hC _ (oG h0);subst r2;by_cases z:q="__init__"
  .subst z
   dsimp[if_true,aw] at r3;have e:cl++"."++"__init__"=cl++".__init__":=by rw[String.append_assoc];rfl
   have ro:Role c T (cl++"."++"__init__") g:=ro;rw[e] at r1 r3 ro;erw[Ny (cl:=cl) hcl #[cm.ms,h1,h2,cm.kp] r1 r3.1 r3.2 ro]
  .rw[if_neg z,aw] at r3
   erw[Nx (m:=q) (cl:=cl) hcl #[h1,h2,kp] r1 r3.1 r3.2 ro]
def Dd{r:pK}{f:Addr}{x qual:Str}{k:Nat}(b:Be r)(h:vO c.K x qual r.st f):FnAt c k f wz:=by
 let#[fd,F,kp]:=h.fn;erw[Wn (F.binds λkV dc pm an cd ct us hl=>b _ _ kV dc pm an cd ct us hl)]
def Sn{k:Nat}(X:c.K.In h)(G:h.Ns bw c.mg)(hc:c.cls=λx=>CA.lookup x)(hC:∀p∈CA,NA c.K p fl)(R:∀r∈rows,Bc c.K CA r)(bd:∀r∈rows,Be r)
  (t1:T.fns=JW rows) (t2:T.qm=JX rows) (t3:∀x∈T.qk,∃r∈rows,r.cl=x/\r.q="__init__"/\(x=="")=ϑ):gf c T (λ_=>wz) k:=by
 rwa[gf.none (λx hx=>?_) (λp hp=>?_) (λx hx=>?_)]
 .rw[t1] at hx
  let#[r,hr,rfl]:=bO.mp hx;let#[m,e]:=fZ.mp hr;have b:=bd r m;cases R r m with
  |@fn q st N ps b' f h1 h2=>
   let#[fd,F,kp]:=h2.fn;exact#[f,lI X G h1,kp,Dd b h2]
  |mt hn=>erw[absurd e (by show ¬(_=="")=ζ;rw[hn];simp)]
 .rw[t2] at hp
  let#[r,hr,rfl]:=bO.mp hp;let#[m,e]:=fZ.mp hr;have b:=bd r m;cases R r m with
  |fn h1 h2=>simp at e
  |@mt x q cl st N ps b' f C hn h0 h1 h2 h3=>
   let#[fd,F,kp]:=h3.fn;exact#[C,f,%[hc|h0],#[h1,h2,kp],Dd b h3]
 .let#[r,m,rfl,eq,ne]:=t3 x hx
  have b:=bd r m;cases R r m with
  |fn h1 h2=>simp at ne
  |@mt x q cl st N ps b' f C hn h0 h1 h2 h3=>
   have eq:q="__init__":=eq;subst eq;have cm:=hC _ (oG h0);exact#[C,f,%[hc|h0],lI X G cm.ns,#[cm.ms,h1,h2,cm.kp],Dd b h3]
def So(hc:c.cls=λx=>CA.lookup x)(hC:∀p∈CA,NA c.K p fl)(x:String)(C:Addr)(h:c.cls x=ξ C):xm c.K C/\∀f∈fl,fA c.K C (nm f):=by
 rw[hc] at h;have:=hC _ (oG h);exact#[this.cl,Ot this.na]
end
structure XF(K:Frag)(C:Addr)(bm:List Value):Prop where
 get:XGet K C
 is:Sz K C
 cls:mh K C bm
def Wq{K:Frag}{C N:Addr}{bm bs:List Value}{cd:ClassData}{nm q:Str}{sn:List Str}{sub:List Value}{ab:Bool}{col:Option Bool}{dd:Option Addr}{k0 k1 k2 k3 k5:Option Value}
  (ga:hX K (.ref C) "__getattribute__"=ξ (ξ (.builtin "BaseException.__getattribute__"))) (gh:hX K (.ref C) "__getattr__"=ξ ψ) (hb:mroIn K C (.type "BaseException")=ξ ζ) (hd:hasDictIn K C=ζ) (sa:hX K (.ref C) "__setattr__"=ξ (ξ (.builtin "object.__setattr__")))
  (cl:clsIn K C=ξ cd) (ob:K.lookup C=ξ (iP nm q C N bs bm ζ sn sub ab col dd k0 k1 k2 k3 k5 "ValueError.__new__")) (mr:cd.mro=.ref C::bm) (tl:tailIn K xD bm=ζ)
  (ha:hX K (.ref C) "__class__"=ξ (ξ (.builtin "object.__class__"))) (hn:specialIn K (.builtin "object.__class__") "__get__"=ξ (ξ (.builtin "getset_descriptor.__get__")))
  (O4:takesIn K (.builtin "object.__class__")=ξ ζ) (hm:mroIn K C (.type "object")=ξ ζ):XF K C bm:=
 #[#[ga,gh,hb,hd,sa,cd,bm,cl,mr,tl],#[#[ga,gh,hb,hd,sa,cd,bm,cl,mr,tl],ha,hn,O4,hm],#[#[nm,q,N,bs,sn,sub,ab,col,dd,k0,k1,k2,k3,k5,ob],tl]]
def Sq{K:Frag}{C:Addr}{b1 b2:List Value}(h1:mh K C b1)(h2:mh K C b2):b1=b2:=by
 let#[nm,q,N,bs,sn,sub,ab,col,dd,k0,k1,k2,k3,k5,e1]:=h1.ob;let#[nm',q',N',bs',sn',sub',ab',col',dd',k0',k1',k2',k3',k5',e2]:=h2.ob;have e:=e1.symm.trans e2;unfold iP at e;cases e
 rfl
@[reducible]def Wr:=String×Addr×List Value
structure Zz(K:Frag)(fl:List String)(p:Wr):Prop where
 ns:nsIn K bw (bP p.1)=ξ (ξ (.ref p.2.1))
 xf:XF K p.2.1 p.2.2
 na:fl.map (λf=>hX K (.ref p.2.1) (bP f))=fl.map λ_=>ξ ψ
abbrev zB(EA:List Wr)(x:String):Option Addr:=(EA.lookup x).map (·.1)
structure Xs(K:Frag)(fl:List String)(EA:List Wr):Prop where
 xs:∀p∈EA,Zz K fl p
 q:EA.map (λp=>EA.map λr=>rM K (.ref p.2.1) (.ref r.2.1))=EA.map λp=>EA.map λr=>ξ ((PL.my p.1).contains r.1)
 v:EA.map (λp=>rM K (.ref p.2.1) (.type "ValueError"))=EA.map λ_=>ξ ζ
 u:EA.map (λp=>EA.map λr=>!(PL.my p.1).contains r.1||(aL p.2.1::p.2.2).contains (.ref r.2.1))=EA.map λ_=>EA.map λ_=>ζ
section
variable{K:Frag}{fl:List String}{EA:List Wr}{x y:String}{C D:Addr}
def lA(h:zB EA x=ξ C):∃bm,(x,C,bm)∈EA:=by
 let#[p,e,rfl]:=aj.mp h;exact#[p.2,oG e]
variable(X:Xs K fl EA)
include X
def Xs.exc(x:String)(C:Addr)(h:zB EA x=ξ C):XGet K C/\Sz K C/\(∃bm,mh K C bm)/\∀f∈fl,fA K C (nm f):=by
 let#[bm,m]:=lA h;have:=X.xs _ m;exact#[this.xf.get,this.xf.is,#[_,this.xf.cls],Ot this.na]
def Xs.ns{x:String}{C:Addr}(h:zB EA x=ξ C):nsIn K bw (bP x)=ξ (ξ (.ref C)):=by
 let#[bm,m]:=lA h;exact(X.xs _ m).ns
def Xs.Y9(x:String)(C:Addr)(y:String)(D:Addr)(h:zB EA x=ξ C)(h':zB EA y=ξ D):rM K (.ref C) (.ref D)=ξ ((PL.my x).contains y):=by
 let#[bm,m]:=lA h;let#[bn,n]:=lA h';erw[dF.mp (dF.mp X.q _ m) _ n]
def Xs.Za(x:String)(C:Addr)(h:zB EA x=ξ C):rM K (.ref C) (.type "ValueError")=ξ ζ:=by
 let#[bm,m]:=lA h;erw[dF.mp X.v _ m]
def Xs.up(x:String)(C:Addr)(bm:List Value)(y:String)(D:Addr)(h:zB EA x=ξ C)(h':zB EA y=ξ D)(hc:mh K C bm)(hu:(PL.my x).contains y=ζ):(aL C::bm).contains (.ref D)=ζ:=by
 let#[bm',m]:=lA h;let#[bn,n]:=lA h';have:=dF.mp (dF.mp X.u _ m) _ n;rw[Sq hc (X.xs _ m).xf.cls]
 rw[hu] at this;erw[this]
end
def uw{c:Ctx}{x:String}{s:Str}{t:Tok}{l:List Nat}(h:c.mg (nm x)=ξ (.str s t))(e:s=tx l):∃v u,c.mg (nm x)=ξ u/\RelV v u/\∀ρ H,Rep c ρ H (.str l) v:=
 #[.str (tx l),_,h,#[t,by rw[e]],λ_ _=>bz.mpr rfl]
def Bf{K:Frag}{a:Addr}:∀(kvs:List (Str×Str)),(∀p∈kvs,∃t,nsIn K a p.1=ξ (ξ (.str p.2 t)))->∀k v,(kvs.map λp=>(p.1,V.str p.2)).lookup k=ξ v->∃u,RelV v u/\nsIn K a k=ξ (ξ u)
 |[],_,k,v,h=>by simp at h
 |p::r,hp,k,v,h=>by
  rw[aA,aQ] at h;split at h
  .rename_i e
   have e:k=p.1:=eq_of_beq e;cases h;let#[t,z]:=hp p (aV ..);exact#[_,#[t,rfl],%[e|z]]
  .erw[Bf r (λq hq=>hp q (ay _ hq)) k v h]
abbrev JY:Value->Option Str
 |.str s _=>ξ s
 |_=>ψ
def EE(k:Str):∀(es:List pC)(ks:List Str),es.map (λe=>JY e.key)=ks.map ξ->k∉ks->es.find? (·.key.isStr k)=ψ/\es.any (·.refKey)=ϑ
 |[],_,_,_=>#[rfl,rfl]
 |e::r,[],h,_=>by cases h
 |⟨hs,ky,vl⟩::r,q::ks,h,n=>by
  rw[aA,aA,dy] at h;let#[i,j]:=EE k r ks h.2 λz=>n (ay _ z)
  have h1:JY ky=ξ q:=h.1;cases ky with
  |str s t=>
   have e:s=q:=aG h1;subst e;have ne:(s==k)=ϑ:=by
    rw[beq_eq_false_iff_ne];erw[λz=>n (z▸aV ..)]
   exact#[by rw[dH];show(match (s==k) with|true=>_|false=>_)=_;rw[ne];erw[i],by rw[dQ,j];rfl]
  |_=>cases h1
def NC{c:Ctx}{x:String}{a:Addr}{es:Array pC}{n:Nat}{kvs:List (List Nat×List Nat)}(h:c.mg (nm x)=ξ (.ref a))(l:c.K.lookup a=ξ #[.type "dict",ψ,.dict es n,#[]])(kl:GG c.w.params es.toList)
  (ky:es.toList.map (λe=>JY e.key)=(kvs.map λp=>tx p.1).map ξ) (ns:(a==bV)=ϑ)
  (hk:∀p∈kvs,∃t,nsIn c.K a (tx p.1)=ξ (ξ (.str (tx p.2) t))):∃v u,c.mg (nm x)=ξ u/\RelV v u/\∀ρ H,Rep c ρ H (.tab kvs) v:=by
 refine#[.ref a,_,h,rfl,λρ H=>ue.mpr #[a,rfl,#[es,n,l,kl],λk v e=>?_,λk e=>?_,ns]]
 .rwa[Bf (kvs.map λp=>(tx p.1,tx p.2)) ?_ k v (%[bG|e])]
  intro p hp;let#[q,hq,rfl]:=bO.mp hp;erw[hk q hq]
 .have nm:k∉kvs.map λp=>tx p.1:=λz=>by
   let#[q,hq,rfl]:=bO.mp z;have:=List.lookup_eq_none_iff.mp e (tx q.1,V.str (tx q.2)) (bO.mpr #[q,hq,rfl]);simp at this
  let#[i,j]:=EE k _ _ ky nm;unfold nsIn;rw[l]
  show(match es.toList.find? (·.key.isStr k) with|some e=>ξ (ξ e.val)|none=>if es.toList.any (·.refKey) then ψ else ξ ψ)=ξ ψ
  rw[i,j]
  rfl
def ZA{c:Ctx}{x:String}{a:Addr}{es:Array pC}{n:Nat}{z0 z1 z2 k0 k1 k2:Str}{t0 t1 t2:Tok}{l0 l1 l2 m0 m1 m2:List Nat}(h:c.mg (nm x)=ξ (.ref a))(l:c.K.lookup a=ξ #[.type "dict",ψ,.dict es n,#[]])(kl:GG c.w.params es.toList)
  (ky:es.toList.map (λe=>JY e.key)= [ξ k0,ξ k1,ξ k2]) (ns:(a==bV)=ϑ) (c0:k0=tx l0) (c1:k1=tx l1) (c2:k2=tx l2)
  (r0:nsIn c.K a k0=ξ (ξ (.str z0 t0))) (e0:z0=tx m0) (r1:nsIn c.K a k1=ξ (ξ (.str z1 t1))) (e1:z1=tx m1) (r2:nsIn c.K a k2=ξ (ξ (.str z2 t2))) (e2:z2=tx m2):
  ∃v u,c.mg (nm x)=ξ u/\RelV v u/\∀ρ H,Rep c ρ H (.tab [(l0,m0),(l1,m1),(l2,m2)]) v:=by
 subst c0 c1 c2 e0 e1 e2;rwa[NC h l kl ky ns ?_];erw[aF.mpr #[#[t0,r0],aF.mpr #[#[t1,r1],aF.mpr #[#[t2,r2],λ_ h=>(cj h).elim]]]]
def Xe{c:Ctx}{EA:List Wr}{x:String}{C f:Addr}{st:Stmt}{ps:List Str}(hx:c.exc x=ξ C)(kc:kL c.K (.ref C)=ζ)(a:hX c.K (.ref C) "__init__"=ξ (ξ (.ref f)))(i:isFn c.K (.ref f)=ζ){q:Str}(F:vO c.K "__init__" q st f)
  (bd:∀(x qual:Str)(kV dc pm:Value)(an:Option Addr)(cd ct:Value)(us:List Value),us.length=ps.length->BG (fnOf x qual (ki st) (dI st) (bf st) .none kV dc pm an cd ct) #[us,[]]=pure (ps.zip us)) (hp:ps.length<=1000)
  (h:∀fd,Ad c.K "__init__" q st f fd->iz c.P c.w c.K c.mg c.base (mP c.P c.w) 0 f fd ps (zc C ((PL.bN x).map nm))):pU c 1 x:=by
 let#[fd,F,kp]:=F.fn;exact#[#[C,f,fd,ps,hx,kc,a,i,h fd F,F.binds λkV dc pm an cd ct us hl=>bd _ _ kV dc pm an cd ct us hl,hp]]
open PL (U SO bE Xn KU KX bU)
def gf.mono(G:gf c T Γ j)(h:j<=k):gf c T Γ k:=
 #[λx hx=>let ⟨f,a,b,d⟩:=G.fns x hx;#[f,a,b,d.mono h],λp hp=>let ⟨C,f,a,b,d⟩:=G.SK p hp;#[C,f,a,b,d.mono h],λx hx=>let ⟨C,f,a,b,e,d⟩:=G.cls x hx;#[C,f,a,b,e,d.mono h]]
def gf.mix(G1:gf c T Γ1 k)(G2:gf c T Γ2 k)(h:∀x,Γ x=Γ1 x\/Γ x=Γ2 x):gf c T Γ k:=by
 refine#[λx hx=>?_,λp hp=>?_,λx hx=>?_]
 .rcases h x with e|e<;>rw[e]
  .erw[G1.fns x hx]
  .erw[G2.fns x hx]
 .rcases h (p.2++"."++p.1) with e|e<;>rw[e]
  .erw[G1.SK p hp]
  .erw[G2.SK p hp]
 .rcases h (x++".__init__") with e|e<;>rw[e]
  .erw[G1.cls x hx]
  .erw[G2.cls x hx]
def GS.mono(G:GS c T kx Γ j)(h:j<=k):GS c T kx Γ k:=#[aP G.le h,gf.mono G.ok h]
open PL.rH in
structure zC(c:Ctx)(T:Tab):Prop where
 po:ip c T "places_of" 2 4 lO
 to:ip c T "tree_of" 2 1 PL.ub.o9
 mem:ip c T "members" 1 0 o6
 pt:ip c T "Part.__init__" 4 0 lP
 beh:ip c T "one_behind_other" 2 2 fG
 or_:ip c T "one_or_other" 2 0 jc
 li:ip c T "Layout.__init__" 1 0 jH
 hm:ip c T "Layout.how_many" 1 0 gc
 cr:ip c T "Layout.close_rule" 2 0 eQ
 lk:ip c T "Layout.link" 3 1 jI
 lay:ip c T "Layout.lay" 2 0 ko
 lp:ip c T "Layout.lay_place" 2 1 fH
 lr:ip c T "Layout.lay_row" 2 3 gS
 lc:ip c T "Layout.lay_choice" 2 2 eR
 lq:ip c T "Layout.lay_repeat" 2 4 eS
 us:ip c T "useful_places" 1 5 iJ
 ptt:ip c T "places_that_take" 2 0 fJ
 pi:ip c T "Places.__init__" 2 1 jJ
 V3:ip c T "Places.beyond" 2 2 iK
 fr:ip c T "Places.first_rule" 2 2 eU
 lx:ip c T "Lexer.__init__" 2 0 kq
open PL.Bw in
structure Ws(c:Ctx)(T:Tab):Prop where
 tb:ip c T "table_of" 1 0 m7
 ti:ip c T "Table.__init__" 3 0 kz
 go:ip c T "Table.goes" 3 0 kA
 sp:ip c T "spread" 1 7 qT
 st:ip c T "smallest" 1 5 m8
 wn:ip c T "with_nowhere" 1 1 jd
 ro:ip c T "rounds" 2 3 qU
 pa:ip c T "parted" 3 3 qV
 nu:ip c T "numbered" 1 1 m9
 te:ip c T "telling_signs" 1 2 iL
open PL.HX in
structure Wt(c:Ctx)(T:Tab):Prop where
 di:ip c T "difference" 2 4 kB
 mv:ip c T "moved" 2 0 ua
 ta:ip c T "text_apart" 3 4 kC
 aa:ip c T "are_apart" 2 0 lQ
 sb:ip c T "states_behind" 3 0 iM
 sa:ip c T "sign_apart" 3 0 kD
 sz:ip c T "Table.size" 1 0 je
open PL.PY in
structure Wu(c:Ctx)(T:Tab):Prop where
 ft:ip c T "first_texts" 1 4 jK
 sa:ip c T "sample" 3 0 qX
 ss:ip c T "samples" 1 2 o7
 un:ip c T "unused" 1 0 qW
structure Sr(c:Ctx)(T:Tab):Prop where
 cell:ip c T "_law_cell" 2 0 PL.yW.lN
 mix:ip c T "_law_mix" 2 1 PL.yW.m3
 ru:ip c T "_law_rule" 1 4 PL.ub.lR
 du:ip c T "_law_due" 2 2 PL.ub.ng
 fo:ip c T "_law_found" 2 2 PL.ub.kE
section
open PL PL.rH PL.Bw PL.ub
def yc(us:List U)(S:bE)(Q:KU)(E:KX)(h:kH D us S Q E):us.length=2:=by
 let#[_,_,_,_,_,_,_,rfl,_]:=h;rfl
structure GP(Γ:bU):Prop where
 mem:Γ "members"=AY
 pt:Γ "Part.__init__"=zo
 beh:Γ "one_behind_other"=oE FV
 or_:Γ "one_or_other"=oE Xa
 li:Γ "Layout.__init__"=Rk
 hm:Γ "Layout.how_many"=Rn
 cr:Γ "Layout.close_rule"=Ro
 lk:Γ "Layout.link"=Jn
 lp:Γ "Layout.lay_place"=kH λu n e=>n=1/\e=ϑ/\∃l,u=.str l/\∀c∈l,c∈SG
variable{c:Ctx}{T:Tab}{Γ:bU}{j kx:Nat}
def ND(P:zC c T)(B:Base c T kx)(G:GS c T kx Γ j):∃Γ',GS c T kx Γ' (j+20)/\GP Γ'/\Γ' "Layout.lay"=kH (Tz 0):=by
 have g1:=P.mem.up B G (Rh _) (λus S Q E h=>by let#[_,rfl,_]:=h;rfl);have g2:=P.pt.up B g1 (Vl _) (λus S Q E h=>by let#[_,_,_,_,rfl,_]:=h;rfl);have g3:=P.beh.up B g2 (Ri _ cP) (λus S Q E h=>by let#[_,_,_,_,_,_,_,_,rfl,_]:=h;rfl);have g4:=P.or_.up B g3 (Vm _ rfl) (λus S Q E h=>by let#[_,_,_,_,_,_,_,_,rfl,_]:=h;rfl);have g5:=P.li.up B g4 (Vn _) (λus S Q E h=>by let#[_,rfl,_]:=h;rfl);have g6:=P.hm.up B g5 (Vo _) (λus S Q E h=>by let#[_,_,_,_,rfl,_]:=h;rfl);have g7:=P.cr.up B g6 (Vp _) (λus S Q E h=>by let#[_,_,_,_,_,_,_,_,_,_,rfl,_]:=h;rfl);have g8:=P.lk.up B g7 (Vq _ rfl) (λus S Q E h=>by let#[_,_,_,_,_,_,rfl,_]:=h;rfl);have g9:=P.lp.up B g8 (RX _ rfl) yc;have ga:=P.lay.up B g9 (sp:=kH (Tz 0)) (λus S Q E h=>by
  let#[_,_,_,_,_,_,_,_,#[j,hj,t],_]:=h;rw[EL.mp hj] at t;erw[L2.nn t]) yc
 exact#[_,ga,#[rfl,rfl,rfl,rfl,rfl,rfl,rfl,rfl,rfl],cP]
def mC(P:zC c T)(B:Base c T kx)(G:GS c T kx Γ j)(g:GP Γ)(d:Nat)(hd:d<=100)(hl:Γ "Layout.lay"=kH (Tz d)):∃Γ',GS c T kx Γ' (j+8)/\GP Γ'/\Γ' "Layout.lay"=kH (Tz (d+1)):=by
 let#[e1,e2,e3,e4,e5,e6,e7,e8,e9]:=g;have g1:=P.lr.up B G (RY _ d e2 hl e8 e3) yc;have g2:=P.lc.up B g1 (RZ _ d e2 hl e4) yc;have g3:=P.lq.up B g2 (R9 _ d hd e2 hl e8) yc;have g4:=P.lay.up B g3 (Nl _ d e9 rfl rfl rfl) yc;exact#[_,g4,#[e1,e2,e3,e4,e5,e6,e7,e8,e9],cP]
def Wv(P:zC c T)(B:Base c T kx)(G:GS c T kx Γ j):∃Γ',GS c T kx Γ' (j+80)/\GP Γ'/\Γ' "Layout.lay"=kH (Tz 6)/\Γ' "Places.__init__"=Jp/\Γ' "Places.beyond"=Jq/\Γ' "Places.first_rule"=Jr:=by
 let#[Γ0,G0,p0,l0]:=ND P B G;let#[Γ1,G1,p1,l1]:=mC P B G0 p0 0 ∅ l0;let#[Γ2,G2,p2,l2]:=mC P B G1 p1 1 ∅ l1;let#[Γ3,G3,p3,l3]:=mC P B G2 p2 2 ∅ l2;let#[Γ4,G4,p4,l4]:=mC P B G3 p3 3 ∅ l3;let#[Γ5,G5,p5,l5]:=mC P B G4 p4 4 ∅ l4;let#[Γ6,G6,p6,l6]:=mC P B G5 p5 5 ∅ l5;let#[e1,e2,e3,e4,e5,e6,e7,e8,e9]:=p6;have g1:=P.us.up B G6 (Vt _ e1) (λus S Q E h=>by let#[_,_,_,_,rfl,_]:=h;rfl);have g2:=P.ptt.up B g1 (Rv _) (λus S Q E h=>by let#[_,_,_,_,_,rfl,_]:=h;rfl);have g3:=P.pi.up B g2 (Vv _ rfl cP) (λus S Q E h=>by let#[_,_,_,_,_,rfl,_]:=h;rfl);have g4:=P.V3.up B g3 (Vw _ e1) (λus S Q E h=>by let#[_,_,_,_,_,rfl,_]:=h;rfl);have g5:=P.fr.up B g4 (Vx _) (λus S Q E h=>by let#[_,_,_,_,_,rfl,_]:=h;rfl);exact#[_,g5.mono ∅,#[e1,e2,e3,e4,e5,e6,e7,e8,e9],l6,rfl,rfl,cP]
structure GT(Γ:bU):Prop where
 sp:Γ "spread"=RJ
 st:Γ "smallest"=RO
 wn:Γ "with_nowhere"=M3
 ro:Γ "rounds"=M4
 mv:Γ "moved"=RW
 ta:Γ "text_apart"=RT
 sz:Γ "Table.size"=Nr
 ft:Γ "first_texts"=Sd
 sa:Γ "sample"=JN
def Ww(W:Ws c T)(D:Wt c T)(A:Wu c T)(B:Base c T kx)(G:GS c T kx Γ j)(h1:Γ "Places.beyond"=Jq)(h2:Γ "Places.first_rule"=Jr)(g:GP Γ)(h3:Γ "Layout.lay"=kH (Tz 6))(h4:Γ "Places.__init__"=Jp):∃Γ',GS c T kx Γ' (j+40)/\GP Γ'/\GT Γ'/\Γ' "Layout.lay"=kH (Tz 6)/\Γ' "Places.__init__"=Jp:=by
 let#[e1,e2,e3,e4,e5,e6,e7,e8,e9]:=g;have g1:=W.nu.up B G (Ry _) (λus S Q E h=>by let#[_,rfl,_]:=h;rfl);have g2:=W.te.up B g1 (RA _) (λus S Q E h=>by let#[_,_,_,rfl,_]:=h;rfl);have g3:=W.wn.up B g2 (Vz _) (λus S Q E h=>by let#[_,_,_,rfl,_]:=h;rfl);have g4:=W.pa.up B g3 (RD _ rfl) (λus S Q E h=>by let#[_,_,_,_,_,_,_,rfl,_]:=h;rfl);have g5:=W.ro.up B g4 (VD _ rfl rfl cP) (λus S Q E h=>by let#[_,_,_,_,rfl,_]:=h;rfl);have g6:=W.ti.up B g5 (VE _) (λus S Q E h=>by let#[_,_,_,_,rfl,_]:=h;rfl);have g7:=W.go.up B g6 (VF _) (λus S Q E h=>by let#[_,_,_,_,_,_,rfl,_]:=h;rfl);have g9:=W.sp.up B g7 (VI _ h1 h2 rfl) (λus S Q E h=>by let#[_,_,_,_,_,rfl,_]:=h;rfl);have ga:=W.st.up B g9 (VJ _ rfl rfl rfl) (λus S Q E h=>by let#[_,_,_,_,_,rfl,_]:=h;rfl);have d1:=D.aa.up B ga (VQ _) (λus S Q E h=>by let#[_,_,_,_,rfl,_]:=h;rfl);have d2:=D.sb.up B d1 (VR _) (λus S Q E h=>by let#[_,_,_,_,_,_,rfl,_]:=h;rfl);have d3:=D.sa.up B d2 (VS _ rfl rfl) (λus S Q E h=>by let#[_,_,_,_,_,_,_,rfl,_]:=h;rfl);have d4:=D.ta.up B d3 (VT _ rfl rfl rfl) (λus S Q E h=>by let#[_,_,_,_,_,_,_,_,_,rfl,_]:=h;rfl);have d5:=D.mv.up B d4 (VU _) (λus S Q E h=>by let#[_,_,_,_,rfl,_]:=h;rfl);have d6:=D.sz.up B d5 (V5 _) (λus S Q E h=>by let#[_,_,_,_,rfl,_]:=h;rfl);have s1:=A.ft.up B d6 (V9 _ rfl rfl) (λus S Q E h=>by let#[_,_,_,_,rfl,_]:=h;rfl);have s2:=A.sa.up B s1 (Se _) (λus S Q E h=>by let#[_,_,_,_,_,_,_,rfl,_]:=h;rfl);exact#[_,s2.mono ∅,#[e1,e2,e3,e4,e5,e6,e7,e8,e9],#[rfl,rfl,rfl,rfl,rfl,rfl,rfl,rfl,cP],h3,h4]
def NF(l:List String)(G1:GS c T kx Γ1 j)(G2:GS c T kx Γ2 j):GS c T kx (λx=>if x∈l then Γ1 x else Γ2 x) j:=#[G1.le,gf.mix G1.ok G2.ok λx=>by
 by_cases h:x∈l
 .erw[.inl (if_pos h)]
 .erw[.inr (if_neg h)]]
def JZ{xs qual:Str}{st:Stmt}{f:Addr}{fd:dv}{N ps:List Str}(R:JV c T)(P:zC c T)(W:Ws c T)(D:Wt c T)(A:Wu c T)(L:Sr c T)(F:Ad c.K xs qual st f fd)(S:fB N ps (bf st))(tx:Kl T 60 #[(bf st).names,N,ζ] (dI st)=ξ PL.ub.D1)(hm:N.length=ps.length+4)(hp:ps.length=1)(B:Base c T 1)(G:gf c T (λ_=>wz) 1):iz c.P c.w c.K c.mg c.base (mP c.P c.w) 200 f fd ps (lift c CO):=by
 have G:GS c T 1 (λ_=>wz) 1:=#[ar _,G]
 obtain⟨Γr,Gr,-,hr,-⟩:=Dc R B G;let#[Γp,Gp,gp,pl,pi,pb,pf]:=Wv P B G;let#[Γt,Gt,gt,#[t1,t2,t3,t4,t5,t6,t7,t8,t9],tl,ti]:=Ww W D A B Gp pb pf gp pl pi;let#[e1,e2,e3,e4,e5,e6,e7,e8,e9]:=gt;have m1:=NF ["read"] Gr (Gt.mono (k:=1+130) ∅);have g1:=P.to.up B m1 (VY _ hr) (λus S Q E h=>by let#[_,_,rfl,_]:=h;rfl);have g2:=P.po.up B g1 (VZ _ e5 tl cP e6 e7 ti) (λus S Q E h=>by let#[_,_,_,rfl,_]:=h;rfl);have g3:=P.lx.up B g2 (V1 _ cP) (λus S Q E h=>by let#[_,_,_,rfl,_]:=h;rfl);have g4:=W.tb.up B g3 (V4 _ rfl t1 t2) (λus S Q E h=>by let#[_,_,rfl,_]:=h;rfl);have g5:=D.di.up B g4 (V7 _ cP t7 t5 t3 t4 t6) (λus S Q E h=>by let#[_,_,_,_,rfl,_]:=h;rfl);have g6:=A.ss.up B g5 (Wa _ rfl t8 t9) (λus S Q E h=>by let#[_,_,rfl,_]:=h;rfl);have g7:=A.un.up B g6 (Wc _ cP) (λus S Q E h=>by let#[_,_,rfl,_]:=h;rfl);have c1:=L.cell.up B g7 (sp:=yW.CW) (yW.MX _) (λus S Q E h=>by let#[_,_,rfl,_]:=h;rfl);have c2:=L.mix.up B c1 (sp:=yW.xY) (yW.Rc _ cP) (λus S Q E h=>by let#[_,_,rfl,_]:=h;rfl);have c3:=L.ru.up B c2 (We _) (λus S Q E h=>by let#[_,rfl,_]:=h;rfl);have c4:=L.du.up B c3 (Wi _) (λus S Q E h=>by let#[_,_,_,rfl,_]:=h;rfl);have c5:=L.fo.up B c4 (Wk _ rfl rfl rfl rfl rfl) (λus S Q E h=>by let#[_,_,_,rfl,_]:=h;rfl);have h:=N7 F S B c5.le c5.ok tx (sp:=CO) (JU _ rfl cP rfl rfl) hm (λus S Q E h=>by let#[_,rfl,_]:=h;erw[hp.symm]);erw[h.mono ∅]
end
end L2
section
set_option autoImplicit false
namespace De
open PySem PySem.Spec PyProof.Rows PySem.W L2
abbrev top(i:Nat):Stmt:=PySem.Challenge.pw_tokenwright_k10_rules_refused.main.body.getD i (.Pass #[0,0,0,0])
abbrev rows:List pK:=
 #["in_order","in_order","",top 11,["signs"],["signs"],PL.mY]::
 #["all_but","all_but","",top 12,["signs"],["signs"],PL.oY]::
 #["is_ahead","is_ahead","",top 13,["one","other"],["one","other"],PL.mZ]::
 #["stretch","stretch","",top 14,["first","last"],["first","last"],PL.oZ]::
 #["read","read","",top 19,["text","reader","tree"],["text"],PL.yV]::
 #["joined","joined","",top 20,["kind","trees"],["kind","trees"],PL.qS]::
 #["Reader.__init__","__init__","Reader",inClass (top 21) 0,["self","text"],["self","text"],PL.jD]::
 #["Reader.sees","sees","Reader",inClass (top 21) 1,["self","signs"],["self","signs"],PL.jE]::
 #["Reader.passes","passes","Reader",inClass (top 21) 2,["self","signs"],["self","signs"],PL.iG]::
 #["Reader.choice","choice","Reader",inClass (top 21) 3,["self","trees"],["self"],PL.iH]::
 #["Reader.row","row","Reader",inClass (top 21) 4,["self","trees"],["self"],PL.km]::
 #["Reader.repeat","repeat","Reader",inClass (top 21) 5,["self","tree"],["self"],PL.iI]::
 #["Reader.atom","atom","Reader",inClass (top 21) 6,["self"],["self"],PL.jF]::
 #["Reader.bracket","bracket","Reader",inClass (top 21) 7,["self","tree"],["self"],PL.gQ]::
 #["Reader.sign_class","sign_class","Reader",inClass (top 21) 8,["self","turned","taken"],["self"],PL.eP]::
 #["Reader.item","item","Reader",inClass (top 21) 9,["self","first","second_at","second"],["self"],PL.jG]::
 #["Reader.written_sign","written_sign","Reader",inClass (top 21) 10,["self","marked","sign"],["self","marked"],PL.dU]::
 #["places_of","places_of","",top 25,["rules","most","layout","number","rule","part"],["rules","most"],PL.rH.lO]::
 #["tree_of","tree_of","",top 26,["rule","number","fault"],["rule","number"],PL.ub.o9]::
 #["members","members","",top 27,["bits"],["bits"],PL.rH.o6]::
 #["Part.__init__","__init__","Part",inClass (top 28) 0,["self","empty","firsts","lasts"],["self","empty","firsts","lasts"],PL.rH.lP]::
 #["one_behind_other","one_behind_other","",top 29,["one","other","firsts","lasts"],["one","other"],PL.rH.fG]::
 #["one_or_other","one_or_other","",top 30,["one","other"],["one","other"],PL.rH.jc]::
 #["Layout.__init__","__init__","Layout",inClass (top 31) 0,["self"],["self"],PL.rH.jH]::
 #["Layout.how_many","how_many","Layout",inClass (top 31) 1,["self"],["self"],PL.rH.gc]::
 #["Layout.close_rule","close_rule","Layout",inClass (top 31) 2,["self","part"],["self","part"],PL.rH.eQ]::
 #["Layout.link","link","Layout",inClass (top 31) 3,["self","lasts","firsts","place"],["self","lasts","firsts"],PL.rH.jI]::
 #["Layout.lay","lay","Layout",inClass (top 31) 4,["self","tree"],["self","tree"],PL.rH.ko]::
 #["Layout.lay_place","lay_place","Layout",inClass (top 31) 5,["self","signs","place"],["self","signs"],PL.rH.fH]::
 #["Layout.lay_row","lay_row","Layout",inClass (top 31) 6,["self","trees","whole","tree","part"],["self","trees"],PL.rH.gS]::
 #["Layout.lay_choice","lay_choice","Layout",inClass (top 31) 7,["self","trees","whole","tree"],["self","trees"],PL.rH.eR]::
 #["Layout.lay_repeat","lay_repeat","Layout",inClass (top 31) 8,["self","tree","marks","inner","part","empty"],["self","tree"],PL.rH.eS]::
 #["useful_places","useful_places","",top 32,["layout","takes_some","grown","lasts","useful","place"],["layout"],PL.rH.iJ]::
 #["places_that_take","places_that_take","",top 33,["layout","sign"],["layout","sign"],PL.rH.fJ]::
 #["Places.__init__","__init__","Places",inClass (top 34) 0,["self","layout","useful"],["self","layout"],PL.rH.jJ]::
 #["Places.beyond","beyond","Places",inClass (top 34) 1,["self","held","reached","place"],["self","held"],PL.rH.iK]::
 #["Places.first_rule","first_rule","Places",inClass (top 34) 2,["self","held","number","lasts"],["self","held"],PL.rH.eU]::
 #["Lexer.__init__","__init__","Lexer",inClass (top 59) 0,["self","rules"],["self","rules"],PL.rH.kq]::
 #["table_of","table_of","",top 37,["rules"],["rules"],PL.Bw.m7]::
 #["Table.__init__","__init__","Table",inClass (top 38) 0,["self","told","rows"],["self","told","rows"],PL.Bw.kz]::
 #["Table.goes","goes","Table",inClass (top 38) 2,["self","state","sign"],["self","state","sign"],PL.Bw.kA]::
 #["spread","spread","",top 39,["places","lots","numbers","rows","reach","row","sign","held"],["places"],PL.Bw.qT]::
 #["smallest","smallest","",top 40,["table","blocks","told","rows","state","row"],["table"],PL.Bw.m8]::
 #["with_nowhere","with_nowhere","",top 41,["rows","nowhere"],["rows"],PL.Bw.jd]::
 #["rounds","rounds","",top 42,["told","rows","signs","found","finer"],["told","rows"],PL.Bw.qU]::
 #["parted","parted","",top 43,["blocks","rows","signs","keys","state","row"],["blocks","rows","signs"],PL.Bw.qV]::
 #["numbered","numbered","",top 44,["keys","numbers"],["keys"],PL.Bw.m9]::
 #["telling_signs","telling_signs","",top 45,["rows","firsts","sign"],["rows"],PL.Bw.iL]::
 #["difference","difference","",top 47,["rules","other_rules","one","other","told","rows"],["rules","other_rules"],PL.HX.kB]::
 #["moved","moved","",top 48,["rows","by"],["rows","by"],PL.HX.ua]::
 #["text_apart","text_apart","",top 49,["found","rows","states","size","text","pair","blocks"],["found","rows","states"],PL.HX.kC]::
 #["are_apart","are_apart","",top 50,["blocks","pair"],["blocks","pair"],PL.HX.lQ]::
 #["states_behind","states_behind","",top 51,["rows","pair","sign"],["rows","pair","sign"],PL.HX.iM]::
 #["sign_apart","sign_apart","",top 52,["blocks","rows","pair"],["blocks","rows","pair"],PL.HX.kD]::
 #["Table.size","size","Table",inClass (top 38) 1,["self"],["self"],PL.HX.je]::
 #["first_texts","first_texts","",top 56,["table","texts","state","sign","behind"],["table"],PL.PY.jK]::
 #["sample","sample","",top 55,["table","texts","number"],["table","texts","number"],PL.PY.qX]::
 #["samples","samples","",top 53,["rules","table","texts"],["rules"],PL.PY.o7]::
 #["unused","unused","",top 54,["rules"],["rules"],PL.PY.qW]::
 #["_law_cell","_law_cell","",top 61,["_law_script","_law_k"],["_law_script","_law_k"],PL.yW.lN]::
 #["_law_mix","_law_mix","",top 62,["_law_script","_law_k","_law_number"],["_law_script","_law_k"],PL.yW.m3]::
 #["_law_rule","_law_rule","",top 65,["_law_number","_law_good","_law_nothing","_law_bad","_law_text"],["_law_number"],PL.ub.lR]::
 #["_law_due","_law_due","",top 66,["_law_rules","_law_most","_law_places","_law_k"],["_law_rules","_law_most"],PL.ub.ng]::
 #["_law_found","_law_found","",top 67,["_law_rules","_law_way","_law_kept","e"],["_law_rules","_law_way"],PL.ub.kE]::[]
abbrev T:Tab where
 const:=[("SIGNS",.str PL.SG),("MARKED_OUTSIDE",.str [46,124,40,41,91,93,42,43,63,92]),("MARKED_WITHIN",.str [93,45,92]),("DEEPEST",.int 6),("REPEATS",.tab [([42],[115,116,97,114]),([43],[112,108,117,115]),([63],[109,97,121,98,101])]),("BEHIND_BACKSLASH",.str [46,124,40,41,91,93,42,43,63,92,45,94,110]),("MOST_RULES",.int 6),("AHEAD",.int 1),("MOST_PLACES_tables",.int 10),("MOST_PLACES_lexing",.int 24)]
 fns:=JW rows
 qk:=["Reader","Part","Layout","Places","Table","Lexer"]
 qm:=JX rows
 vm:=["text","at","depth","rule","empty","firsts","lasts","signs","behind","ends","takers","takes","told","rows","places"]
 tN:=["TokenError","BadRule","TakesNothing","TooMany","NoToken"]
 fP:=["len","tuple","list","dict","sum","min","max","all","any","isinstance","range","enumerate","reversed","ValueError"]
def ZC:rows.all FZ=ζ:=by decide +kernel
def ZD:rows.all (Sl T)=ζ:=by decide +kernel
def ZE:rows.map (λr=>Kl T 60 #[(bf r.st).names,r.N,ζ] (dI r.st))=rows.map λr=>ξ r.b:=by kernel_rfl
def Wx:∀r∈rows,Be r:=by
 unfold rows
 repeat' refine aF.mpr #[?_,?_]
 all_goals first|exact λ_ h=>(cj h).elim|exact bd1 rfl λ_ _ _ _ _ _ _ _ _=>rfl|exact bd2 rfl λ_ _ _ _ _ _ _ _ _ _=>rfl|exact bd3 rfl λ_ _ _ _ _ _ _ _ _ _ _=>rfl|exact bd0 rfl λ_ _ _ _ _ _ _ _=>rfl|exact bd4 rfl λ_ _ _ _ _ _ _ _ _ _ _ _=>rfl
@[reducible]def sL:Stmt:=top 68
def Ss:fB ["_law_script","_law_rules","_law_texts","_law_handed","_law_way"] ["_law_script"] (bf sL):=#[rfl,rfl,rfl,by decide +kernel,rfl,by decide +kernel,by decide +kernel]
def Su:Kl T 60 #[(bf sL).names,["_law_script","_law_rules","_law_texts","_law_handed","_law_way"],ζ] (dI sL)=ξ PL.ub.D1:=by kernel_rfl
@[reducible]def yd:Stmt:=inClass (top 3) 0
def Dg:fB ["self","rule","at"] ["self","rule","at"] (bf yd):=#[rfl,rfl,rfl,by decide +kernel,rfl,by decide +kernel,by decide +kernel]
@[reducible]def oH:Stmt:=inClass (top 4) 0
def tQ:fB ["self","rule"] ["self","rule"] (bf oH):=#[rfl,rfl,rfl,by decide +kernel,rfl,by decide +kernel,by decide +kernel]
@[reducible]def ye:Stmt:=inClass (top 5) 0
def Dh:fB ["self","rule"] ["self","rule"] (bf ye):=#[rfl,rfl,rfl,by decide +kernel,rfl,by decide +kernel,by decide +kernel]
@[reducible]def yf:Stmt:=inClass (top 6) 0
def Di:fB ["self","at"] ["self","at"] (bf yf):=#[rfl,rfl,rfl,by decide +kernel,rfl,by decide +kernel,by decide +kernel]
end De
end
section
set_option autoImplicit true
namespace De
open PySem PySem.Spec PyProof.Rows PySem.W L2
def all_mk{l:GD}{w:bL}{K:Frag}{h:Heap}{mg:Str->Option Value}{fa:Addr}(X:K.In h)(G:h.Ns bw mg)(hfa:mg "law"=ξ (.ref fa))
  (a_law:nsIn K bw "law"=ξ (ξ (.ref fl)))
  (f_law:vO K "law" "law" sL fl)
  (hC:∀p∈([("Reader",C_Reader),("Part",C_Part),("Layout",C_Layout),("Places",C_Places),("Table",C_Table),("Lexer",C_Lexer)]:List (String×Addr)),NA K p T.vm)
  (hR:∀r∈rows,Bc K [("Reader",C_Reader),("Part",C_Part),("Layout",C_Layout),("Places",C_Places),("Table",C_Table),("Lexer",C_Lexer)] r)
  (hE:Xs K T.vm [("TokenError",X_TokenError,b_TokenError),("BadRule",X_BadRule,b_BadRule),("TakesNothing",X_TakesNothing,b_TakesNothing),("TooMany",X_TooMany,b_TooMany),("NoToken",X_NoToken,b_NoToken)])
  (k_BadRule:kL K (.ref X_BadRule)=ζ)
  (a_BadRule:hX K (.ref X_BadRule) "__init__"=ξ (ξ (.ref f_BadRule)))
  (i_BadRule:isFn K (.ref f_BadRule)=ζ)
  (f_BadRule:vO K "__init__" "BadRule.__init__" yd f_BadRule)
  (k_TakesNothing:kL K (.ref X_TakesNothing)=ζ)
  (a_TakesNothing:hX K (.ref X_TakesNothing) "__init__"=ξ (ξ (.ref f_TakesNothing)))
  (i_TakesNothing:isFn K (.ref f_TakesNothing)=ζ)
  (f_TakesNothing:vO K "__init__" "TakesNothing.__init__" oH f_TakesNothing)
  (k_TooMany:kL K (.ref X_TooMany)=ζ)
  (a_TooMany:hX K (.ref X_TooMany) "__init__"=ξ (ξ (.ref f_TooMany)))
  (i_TooMany:isFn K (.ref f_TooMany)=ζ)
  (f_TooMany:vO K "__init__" "TooMany.__init__" ye f_TooMany)
  (k_NoToken:kL K (.ref X_NoToken)=ζ)
  (a_NoToken:hX K (.ref X_NoToken) "__init__"=ξ (ξ (.ref f_NoToken)))
  (i_NoToken:isFn K (.ref f_NoToken)=ζ)
  (f_NoToken:vO K "__init__" "NoToken.__init__" yf f_NoToken)
  (a_SIGNS:nsIn K bw "SIGNS"=ξ (ξ (.str z_SIGNS t_SIGNS)))
  (e_SIGNS:z_SIGNS=tx PL.SG)
  (a_MARKED_OUTSIDE:nsIn K bw "MARKED_OUTSIDE"=ξ (ξ (.str z_MARKED_OUTSIDE t_MARKED_OUTSIDE)))
  (e_MARKED_OUTSIDE:z_MARKED_OUTSIDE=tx [46,124,40,41,91,93,42,43,63,92])
  (a_MARKED_WITHIN:nsIn K bw "MARKED_WITHIN"=ξ (ξ (.str z_MARKED_WITHIN t_MARKED_WITHIN)))
  (e_MARKED_WITHIN:z_MARKED_WITHIN=tx [93,45,92])
  (a_DEEPEST:nsIn K bw "DEEPEST"=ξ (ξ (.int 6 t_DEEPEST)))
  (a_REPEATS:nsIn K bw "REPEATS"=ξ (ξ (.ref r_REPEATS)))
  (l_REPEATS:K.lookup r_REPEATS=ξ #[.type "dict",ψ,.dict es_REPEATS ec_REPEATS,#[]])
  (kl_REPEATS:GG w.params es_REPEATS.toList)
  (ky_REPEATS:es_REPEATS.toList.map (λe=>JY e.key)= [ξ ("*":Str),ξ ("+":Str),ξ ("?":Str)])
  (sm_REPEATS:(r_REPEATS==bV)=ϑ)
  (r_REPEATS0:nsIn K r_REPEATS "*"=ξ (ξ (.str z_REPEATS0 t_REPEATS0)))
  (re_REPEATS0:z_REPEATS0=tx [115,116,97,114])
  (r_REPEATS1:nsIn K r_REPEATS "+"=ξ (ξ (.str z_REPEATS1 t_REPEATS1)))
  (re_REPEATS1:z_REPEATS1=tx [112,108,117,115])
  (r_REPEATS2:nsIn K r_REPEATS "?"=ξ (ξ (.str z_REPEATS2 t_REPEATS2)))
  (re_REPEATS2:z_REPEATS2=tx [109,97,121,98,101])
  (a_BEHIND_BACKSLASH:nsIn K bw "BEHIND_BACKSLASH"=ξ (ξ (.str z_BEHIND_BACKSLASH t_BEHIND_BACKSLASH)))
  (e_BEHIND_BACKSLASH:z_BEHIND_BACKSLASH=tx [46,124,40,41,91,93,42,43,63,92,45,94,110])
  (a_MOST_RULES:nsIn K bw "MOST_RULES"=ξ (ξ (.int 6 t_MOST_RULES)))
  (a_AHEAD:nsIn K bw "AHEAD"=ξ (ξ (.int 1 t_AHEAD)))
  (a_MOST_PLACES_tables:nsIn K bw "MOST_PLACES_tables"=ξ (ξ (.int 10 t_MOST_PLACES_tables)))
  (a_MOST_PLACES_lexing:nsIn K bw "MOST_PLACES_lexing"=ξ (ξ (.int 24 t_MOST_PLACES_lexing)))
  (hz:∀b∈T.fP,nsIn K bw (bP b)=ξ ψ)
  : ∃fd:dv,(∀(s:av)(v:Value),Bk s fd #[[v],[]] [("_law_script",v)])/\∀base:Heap,K.In base->base.Ns bw mg->iz l.prog w K mg base (mP l.prog w) 200 fa fd ["_law_script"] (zd K):=by
 have e:=hfa.symm.trans (lI X G a_law);cases e;let#[oc,od,kV,dc,pm,an,cd,ct,sl,h1,h2,h3]:=f_law;refine#[fnOf "law" "law" (ki sL) (dI sL) (bf sL) .none kV dc pm an cd ct,λs v=>.of_eq rfl,λbase _ _=>?_]
 let c:L2.Ctx:=#[l.prog,w,K,mg,base,λx=>([("Reader",C_Reader),("Part",C_Part),("Layout",C_Layout),("Places",C_Places),("Table",C_Table),("Lexer",C_Lexer)]:List (String×Addr)).lookup x,zB [("TokenError",X_TokenError,b_TokenError),("BadRule",X_BadRule,b_BadRule),("TakesNothing",X_TakesNothing,b_TakesNothing),("TooMany",X_TooMany,b_TooMany),("NoToken",X_NoToken,b_NoToken)]]
 have hT:Ec c T:=by
  refine#[?_,λx hx=>mg_none_of X G (hz x hx),So rfl hC,hE.exc,hE.Y9,hE.Za,?_]
  .exact(aF.mpr #[uw (lI X G a_SIGNS) e_SIGNS,(aF.mpr #[uw (lI X G a_MARKED_OUTSIDE) e_MARKED_OUTSIDE,(aF.mpr #[uw (lI X G a_MARKED_WITHIN) e_MARKED_WITHIN,(aF.mpr #[#[.int 6,_,lI X G a_DEEPEST,#[t_DEEPEST,rfl],λ_ _=>aR.mpr rfl],(aF.mpr #[ZA (lI X G a_REPEATS) l_REPEATS kl_REPEATS ky_REPEATS sm_REPEATS (by kernel_rfl:("*":Str)=tx [42]) (by kernel_rfl:("+":Str)=tx [43]) (by kernel_rfl:("?":Str)=tx [63]) r_REPEATS0 re_REPEATS0 r_REPEATS1 re_REPEATS1 r_REPEATS2 re_REPEATS2,(aF.mpr #[uw (lI X G a_BEHIND_BACKSLASH) e_BEHIND_BACKSLASH,(aF.mpr #[#[.int 6,_,lI X G a_MOST_RULES,#[t_MOST_RULES,rfl],λ_ _=>aR.mpr rfl],(aF.mpr #[#[.int 1,_,lI X G a_AHEAD,#[t_AHEAD,rfl],λ_ _=>aR.mpr rfl],(aF.mpr #[#[.int 10,_,lI X G a_MOST_PLACES_tables,#[t_MOST_PLACES_tables,rfl],λ_ _=>aR.mpr rfl],(aF.mpr #[#[.int 24,_,lI X G a_MOST_PLACES_lexing,#[t_MOST_PLACES_lexing,rfl],λ_ _=>aR.mpr rfl],(λ_ h=>(cj h).elim)])])])])])])])])])])
  .exact(aF.mpr #[#[X_TokenError,rfl,lI X G (hE.ns rfl)],(aF.mpr #[#[X_BadRule,rfl,lI X G (hE.ns rfl)],(aF.mpr #[#[X_TakesNothing,rfl,lI X G (hE.ns rfl)],(aF.mpr #[#[X_TooMany,rfl,lI X G (hE.ns rfl)],(aF.mpr #[#[X_NoToken,rfl,lI X G (hE.ns rfl)],(λ_ h=>(cj h).elim)])])])])])
 have x_BadRule:pU c 1 "BadRule":=Xe (EA:=[("TokenError",X_TokenError,b_TokenError),("BadRule",X_BadRule,b_BadRule),("TakesNothing",X_TakesNothing,b_TakesNothing),("TooMany",X_TooMany,b_TooMany),("NoToken",X_NoToken,b_NoToken)]) rfl k_BadRule a_BadRule i_BadRule f_BadRule (ps:=["self","rule","at"]) (λ_ _ _ _ _ _ _ _ us hl=>by let#[_,_,_,rfl]:=Zy hl;rfl) ⋯ λfd F=>Ve F Dg rfl (hE.exc "BadRule" _ rfl).1 ((hE.exc "BadRule" _ rfl).2.2.2 "rule" ⋯) ((hE.exc "BadRule" _ rfl).2.2.2 "at" ⋯) (by decide +kernel) (sS (by decide +kernel)) (sS (by decide +kernel)) (sS (by decide +kernel)) (by decide +kernel) (by decide +kernel) (by decide +kernel) (by decide +kernel) (by decide +kernel) (by decide +kernel)
 have x_TakesNothing:pU c 1 "TakesNothing":=Xe (EA:=[("TokenError",X_TokenError,b_TokenError),("BadRule",X_BadRule,b_BadRule),("TakesNothing",X_TakesNothing,b_TakesNothing),("TooMany",X_TooMany,b_TooMany),("NoToken",X_NoToken,b_NoToken)]) rfl k_TakesNothing a_TakesNothing i_TakesNothing f_TakesNothing (ps:=["self","rule"]) (λ_ _ _ _ _ _ _ _ us hl=>by let#[_,_,rfl]:=ln2 hl;rfl) ⋯ λfd F=>IV F tQ rfl (hE.exc "TakesNothing" _ rfl).1 ((hE.exc "TakesNothing" _ rfl).2.2.2 "rule" ⋯) (sS (by decide +kernel)) (sS (by decide +kernel)) (by decide +kernel) (by decide +kernel) (by decide +kernel) (by decide +kernel)
 have x_TooMany:pU c 1 "TooMany":=Xe (EA:=[("TokenError",X_TokenError,b_TokenError),("BadRule",X_BadRule,b_BadRule),("TakesNothing",X_TakesNothing,b_TakesNothing),("TooMany",X_TooMany,b_TooMany),("NoToken",X_NoToken,b_NoToken)]) rfl k_TooMany a_TooMany i_TooMany f_TooMany (ps:=["self","rule"]) (λ_ _ _ _ _ _ _ _ us hl=>by let#[_,_,rfl]:=ln2 hl;rfl) ⋯ λfd F=>IV F Dh rfl (hE.exc "TooMany" _ rfl).1 ((hE.exc "TooMany" _ rfl).2.2.2 "rule" ⋯) (sS (by decide +kernel)) (sS (by decide +kernel)) (by decide +kernel) (by decide +kernel) (by decide +kernel) (by decide +kernel)
 have x_NoToken:pU c 1 "NoToken":=Xe (EA:=[("TokenError",X_TokenError,b_TokenError),("BadRule",X_BadRule,b_BadRule),("TakesNothing",X_TakesNothing,b_TakesNothing),("TooMany",X_TooMany,b_TooMany),("NoToken",X_NoToken,b_NoToken)]) rfl k_NoToken a_NoToken i_NoToken f_NoToken (ps:=["self","at"]) (λ_ _ _ _ _ _ _ _ us hl=>by let#[_,_,rfl]:=ln2 hl;rfl) ⋯ λfd F=>IV F Di rfl (hE.exc "NoToken" _ rfl).1 ((hE.exc "NoToken" _ rfl).2.2.2 "at" ⋯) (sS (by decide +kernel)) (sS (by decide +kernel)) (by decide +kernel) (by decide +kernel) (by decide +kernel) (by decide +kernel)
 have hB:Base c T 1:=by
  refine#[hT,?_,hE.up];exact(aF.mpr #[λh=>absurd rfl h,(aF.mpr #[λ_=>x_BadRule,(aF.mpr #[λ_=>x_TakesNothing,(aF.mpr #[λ_=>x_TooMany,(aF.mpr #[λ_=>x_NoToken,(λ_ h=>(cj h).elim)])])])])])
 have G0:gf c T (λ_=>wz) 1:=Sn X G rfl hC hR Wx rfl rfl (aF.mpr #[#[rows[6],cD _,rfl,rfl,rfl],(aF.mpr #[#[rows[20],cD _,rfl,rfl,rfl],(aF.mpr #[#[rows[23],cD _,rfl,rfl,rfl],(aF.mpr #[#[rows[34],cD _,rfl,rfl,rfl],(aF.mpr #[#[rows[39],cD _,rfl,rfl,rfl],(aF.mpr #[#[rows[37],cD _,rfl,rfl,rfl],(λ_ h=>(cj h).elim)])])])])])]);have R:=NB (c:=c) X G rfl hC hR Wx ZC ZD ZE;erw[ML (JZ #[R 0 _ rfl,R 1 _ rfl,R 2 _ rfl,R 3 _ rfl,R 4 _ rfl,R 5 _ rfl,R 6 _ rfl,R 7 _ rfl,R 8 _ rfl,R 9 _ rfl,R 10 _ rfl,R 11 _ rfl,R 12 _ rfl,R 13 _ rfl,R 14 _ rfl,R 15 _ rfl,R 16 _ rfl] #[R 17 _ rfl,R 18 _ rfl,R 19 _ rfl,R 20 _ rfl,R 21 _ rfl,R 22 _ rfl,R 23 _ rfl,R 24 _ rfl,R 25 _ rfl,R 26 _ rfl,R 27 _ rfl,R 28 _ rfl,R 29 _ rfl,R 30 _ rfl,R 31 _ rfl,R 32 _ rfl,R 33 _ rfl,R 34 _ rfl,R 35 _ rfl,R 36 _ rfl,R 37 _ rfl] #[R 38 _ rfl,R 39 _ rfl,R 40 _ rfl,R 41 _ rfl,R 42 _ rfl,R 43 _ rfl,R 44 _ rfl,R 45 _ rfl,R 46 _ rfl,R 47 _ rfl] #[R 48 _ rfl,R 49 _ rfl,R 50 _ rfl,R 51 _ rfl,R 52 _ rfl,R 53 _ rfl,R 54 _ rfl] #[R 55 _ rfl,R 56 _ rfl,R 57 _ rfl,R 58 _ rfl] #[R 59 _ rfl,R 60 _ rfl,R 61 _ rfl,R 62 _ rfl,R 63 _ rfl] (Hi h1 h2 h3) Ss Su rfl rfl hB G0)]
def walk{l:GD}{q:bj}{loose:List Str}{XP:(Str->Option Value)->Heap->Prop}{YP:bL->Heap->Prop}{d:DefRec}{K:Params->Frag}(hn:l.most=ξ 63)(hdf:d.params.defaults=[])
  (hY:∀(w:bL)(h:Heap),YP w h->(K w.params).In h)
  (F:∀(w:bL)(mg:Str->Option Value)(fa:Addr)(h:Heap),(K w.params).In h->h.Ns bw mg->mg d.name=ξ (.ref fa) ->
   ∃fd:dv,(∀(s:av)(u:Value),Bk s fd #[[u],[]] [("_law_script",u)])/\∀base:Heap,(K w.params).In base->base.Ns bw mg->iz l.prog w (K w.params) mg base (mP l.prog w) 200 fa fd ["_law_script"] (zd (K w.params))):
  WalkO q loose XP YP l.row.toRowW d [] (λf vs=>EH f vs):=
 L2.Lj (n:=63) (k:=200) (x:="_law_script") (CX:=λw=>mP l.prog w) (sp:=λw=>zd (K w.params)) hn ⋯ hdf #[λ_=>rfl,⋯,⋯] hY F (λ_ _ a ns hl o hS=>#[a,ns,rfl,hl,IW o hS,λ_=>rfl]) λ_ _ _ _ _ z=>Q0 z
end De
end
end Lake
end
section
open Lake
local macro_rules(kind:=Lean.Parser.Command.print)|x=>match x[1].isStrLit? with
 |some s=>let r:=s.foldl (fun(a:Array Lean.Syntax×Nat×Nat) c=>let d:=if c=='~' then 64 else c.toNat;let n:=a.2.2*90+(if d>92 then d-36 else d-35);if a.2.1==9 then (a.1.push (zR .missing ("0N 0N 0N 0N 0N 0N 0N 7declModifiers . 'PySem.W.Fast.tw"++toString n++" 0N 2declId 0N . 'True 2EtypeSpec 2declSig . 'trivial 0N 0N 2PTermination.suffix 0N 4declValSimple 4theorem 2declaration")),0,0) else (a.1,a.2.1+1,n)) (#[],0,0);pure (Lean.mkNullNode r.1)
 |_=>Lean.Macro.throwUnsupported
#print "DJcVr_7L-5.GvaLU~freG+|[U'$T'<E0U>ijVd|HG%B`.e#L;0>B:e1{12DdAE>k[n^#jF36(H|aa%xC#ybR&kK3]`Mh+co+AFo4AE1n~bAXej0,n4FE+zR=BhL=dPu6<h6`BpL+}PXP+M'UnRIJLUEG<g6Ib7$5Ex&/(&0ILIC7*gzHNJuCA<ZpZ'p^BVA)8p)M`yNS)n{<hWn:JB';qOx|4ULM=VU~R=<zy)IN:m'DtT?t<#mT$Pi=bg->1`^8P0^ZN]$]qxER`-)yQb'$zr`SFyn&k#J|LnCLw*Fyt|v1E]8G`btrk;E$Jb||r8jE3z&~yFRM`N;4=zY=u%WtEQy16b-#vD~9'`j'>Mb#/p&w%Fm.MyP)E6Nl<pM;%dOEL~eo`CC{K660$eJa;K.t5No|oC5~Xa<y0-ol1cTj<iV.m;*aB%>77b*vP_C_}),5Z_G?Uq*Y`I6bEk6V*QZNPzIe*Sj`zQp-879TSLI*uy2{%Ep<l(I5QzVvp'zzgY0B){{FyaMt#:*#2];d0l0?hwMs*.O?1Ak`JI9bm^MlE#y/.VKgF'n2%1&t&5EYK(dI`A0R>d53ijzQH=*F%;(HfrhJ%4<*Ih=5)FNH%bw4g5~0.hH2a/P7W0Jlo%g_F6-{R%=Qz9><Ui4s6}b{SA-##C]T^gZql}Q6ei(Md;+5?D+jXr3dW4=mM7BeC~MT2;C7sa2_ec<oEp~]Lt'7%CkL^X*Q*N;~E`meo~oq0T_hD-_wLE5RC(=H<_+S7G+SE^JS19Cxs(uwy9ggC62#(&M~o&*FIpo1LQ6>FHm0[j>ZPP?Ob6?zH(+k9d4m0Qs-|34x^`8ftId8Bn5s%2#xPW2,'f)3Yy#ZDZ{B`x{a5/PM0I[Nh';N(q_{*d3$oe3V~,3GnG:.AF.*R2Es[12|t+eJ,1aC8Kyx>Ux>DMNo*pIjg24#1(WEfJ9>[?QMOgjMLe?<~E:hkJJh%_4bayOW$_sLC*;9S1Iza%6Ol*w.d/W8M+?NVC%TRJ8k/D{O.&p2Aay-hs=QzqPE3_O)'}BJ-E$j_M8Pv&O=B9?V%0J#Id)^.4SYkv2CBJ}ybJIw?w&A*,4bo-GuxxsGYhZg9y`N&y#}BS.dIn`bukt?~96C7{Z1&P6>3_nf5[fs?}R+bB`.eACDi>4'kadkGn4vRU-'rzB[a#TqXz4x1a-o>0+h*6~p[W%[E{#J6I2vOlki1#/pO%h&6VNB2wj`GtNvI2~7BB9A4jwT.~$fDD7U{3'8SQX2PDukHuV7w+P3TiA*BIGjO}hG:x]e#S2N._*J>,u3>JkV&eB+)v+[J%J0UKIfA{88QZw|I-w$Rm*8)-Q_V,|]:KfxwDZzNF#?#5p/Io&ZPAN`}Ra[p'1HRU3e.JnWD+=$lYf86LEg1&jI$Ah|;9=GVxP8lK5/#&PL5z)xD[&7}^}93}29+<>L4A+r1I:4F+;sXU,i`GcmVYgIO2vL3:{M']JrpWlyq7-DBPTp$hz?~59.4k#B$cqMH9B.F28/+;(92U>PY#;%:o5g)KQsML<jxw)JF~`c<I&VXiLc0XH5WCxo|bWr.C9~<YtTB0'<pFP)$=ZZNXlS]x?X}y'eTV0CJHwuKG]Ei2U|QT6QpI{&Abqt<]'jwEMc9{)4.-8cLsEZ*,Yf||$]hsLcfVim.CZLJ'(Wiao2`1+/WAc7r%}O;-YZ9?[.Qq=-FR+#.z-=C3V.GI{1zV=|anKDt|2V+(v&|*^}4:AEIj*N6SI}~9/XG4AD#L'z$-,T1L1Y(N7rI~$dk08ej>|mE-'j:<)-5tcA=nDWo+`_xRIO50a$BrATa}*9dk<q5#N#:ab~#]HQb'4?XlUlnl>IKwyPsL~i><IkJp*js&f?ItQ~/yZ]?P95sq'VDRzZ7.}AD#TNpI'o4bpBJipoL5wlfM+`6h*lw-4NX^(n07M41r,QsYNp7o+-Qi50-_9mm^Zm=_25e3<jbg%9HziET*.=pB%kF_'25[mO>/S68:FH.9+'a6Er%{thA%'$7jC)p_MHwp-Ke+/7IoO/k9VIbS+)rnACjh}34FG^D)Ze}V8%C.j,UAWg-cdod4;(o=K(a#'hpKL{MCT^Hd~}`I0-<43JL}8BHMAvI&_s#{8=w{KUz/Yq~y4,(=0$1m1mQUN+'J&8+/&K_#';ZM%Ke5:$LPVWDY=rZTA*_B><r_%8p;}Y'hh3JTD_BJ~{iOWndSQc8{6n]E|)h,6W?$co-?&Y(ouOEYo{#{Osqly8&;FvM96z*][Y28;l.7&<1|XgM~GaL9KlRt4))dI5niB$Ioq,:&]Cf?E%6gkK>B8f6:b'iUJ{*_(Vwnac?bW?5$DJHWT6^{RH5-u^}Z5{Ot',{yh|?]KqZ.?90jm`G'h*7WtbZ)H9G'(*Msk)B[m4,KxJ$m9U]$iYsxpp'DG.[lhvAlI9.a<j[MDHDfqnBAwRf)?>%zv0uFeb6,zLQvDix5LGpwcpE(jiQ:v^?47$IlBaa<=%&tKr~$6Tmly8TJKJAIk+woe*.UvrI~<.ph1l??j;ndH,MPXP#I~~$5/cMd5rN{Hr9|h}mY*bp}1f3AoPN,[bJBK5fG0;ayH6Ut]ZYVbc4q#moP<NFU616)e%~`>_RF88H`DV;AIx$J}64y.8HE5k{H<q`,H'RA5y:Q'#J(X=1%`Om}B;U<[L-Pp.42#>(p7gMH(hr242-vqLFH/0w'to~0/B0CGr8RtJ-RSc%1PGjaAtc?RoYa&q>vuO{UY[+%EtBGR(N78N3JlJ9rVYQ_(z_I>9c&P.EoiXK4A4RbLv2;Te>D(kGVc/=u=*:)E`$Ocmrg20EAhK|0ZWidD;gC{b>M'wI/QK1x[C{C9/yVWz>?K|DI4N[WlHMtMyd<0j99|(3TDE}}MJH{0FHgsKT3qE-B;1[_v29r+|vf[^1Y-_+sKn7^Vv-x)=Txug+O+5ROU/N.tp#COdDSBC,A+QN|/<mHr0WqJoKR8y4Wr'FLWMW4lZ`6E>jxHUJ^*tE<[qF%,6O#&G-BKxu#BMDy;$9Z&.p8&(cz8sL'qC>>D&Pd>oFNOAIKaMydi'']Y`%Gi1>KH8}[bE-b_z+'*=*4WA{/0`6Ek(<l0yRY-WVI6q/5KJPX$:pfB[;8y+18_cA(3'dGShI,<g2DT}~yOkCy0PR{y=Fb6w/lfsz/i>~6'qs){mdcn(P~a7SZ-v]0O5]O?Nq)%:KQsrU>IAl$J^wb4F4HMoALJQ]KTRTz=^lRu{%vd.GkV4)^7kM-6G7HlT<NTBLaQBK,bT:A2y_>hbmB;_,JOEZG3~OyR*)Y2G`UcIEeE~-MbE6|5r]X#r5a3c+s7LEjT}6:9D[2I%0b251LVKZH5r38/)8<m~Oh3-$)=kc}olf^O=WC;1Ov3(NZWjj*9;zFBJonl&$`)WATks&6PfA_?XT22W9r#8#_3^xx3]>F*MS+hT]va9DCcl2f:{/)~zr,V,[++j9'Ir;$_a2(7,]r_0GEY56?0AhN~N+M45OS{PptLF3LHtxR'$cU$1o*}UB2uY./+4|tnQH<-sP~&7xrDv)B+<I~.JF1'r3*BKyHLq'jwOYO3TszQFE*|)J8|)Q,oy'8.$?jP+kQj(0_jCNsACEvT8uZJFy8gO3Hu{J<d1B+/H&kIF.-[N?I=iH,Ktf4L'pIH$P,Qhuk-xE2FKR~dI|SDc+Y?cz'6&A[PICo=Hw.~&ftz*IjC=?|?{3^I}Pb"
open PySem PySem.W PyProof.Rows
set_option maxRecDepth 100000 in
set_option maxHeartbeats 0 in
theorem PySem.Challenge.cw_tokenwright_k10_rules_refused_holds : PySem.Challenge.rw_tokenwright_k10_rules_refused.Holds := by
 w_on;o_law;k_head;(case hw=>w_witness2)
 k_fill
 refine De.walk (l:=PySem.Challenge.rw_tokenwright_k10_rules_refused) rfl rfl (fun w h Y=>PySem.W.kIn_of Y) ?F
 case F=>
  intro w mg fa h KX G hmg;refine' De.all_mk KX G hmg ?A0 ?A1 ?A2 ?A3 ?A4 ?A5 ?A6 ?A7 ?A8 ?A9 ?B0 ?B1 ?B2 ?B3 ?B4 ?B5 ?B6 ?B7 ?B8 ?B9 ?C0 ?C1 ?C2 ?C3 ?C4 ?C5 ?C6 ?C7 ?C8 ?C9 ?D0 ?D1 ?D2 ?D3 ?D4 ?D5 ?D6 ?D7 ?D8 ?D9 ?E0 ?E1 ?E2 ?E3 ?E4 ?E5
  (case A0=>k_is)
  (case A1=>exact⟨_,_,_,_,_,_,_,_,_,by k_is,by k_is,by k_is⟩)
  (case A2=>(repeat' refine aF.mpr ⟨?_,?_⟩);all_goals first | exact fun _ h=>(cj h).elim | exact⟨(by(try dsimp only);k_is),⟨(by(try dsimp only);k_is),(by(try dsimp only);k_is),(by(try dsimp only);k_is),(by(try dsimp only);k_is)⟩,(by(try dsimp only);k_is),(by(try dsimp only);k_is),(by kernel_rfl)⟩)
  (case A3=>unfold De.rows;(repeat' refine aF.mpr ⟨?_,?_⟩);all_goals first | exact fun _ h=>(cj h).elim | exact .fn (by k_is) ⟨_,_,_,_,_,_,_,_,_,by k_is,by k_is,by k_is⟩ | exact .mt rfl rfl (by k_is) (by k_is) ⟨_,_,_,_,_,_,_,_,_,by k_is,by k_is,by k_is⟩)
  (case A4=>refine' ⟨?hx,?hq,?hv,?hu⟩;(case hx=>(repeat' refine aF.mpr ⟨?_,?_⟩);all_goals first | exact fun _ h=>(cj h).elim | exact⟨(by(try dsimp only);k_is),L2.Wq (by(try dsimp only);k_is) (by(try dsimp only);k_is) (by(try dsimp only);k_is) (by(try dsimp only);k_is) (by(try dsimp only);k_is) (by(try dsimp only);k_is) (by(try dsimp only);k_is) rfl (by kernel_rfl) (by(try dsimp only);k_is) (by(try dsimp only);k_is) (by(try dsimp only);k_is) (by(try dsimp only);k_is),(by kernel_rfl)⟩);all_goals kernel_rfl)
  (case A5=>k_is)
  (case A6=>k_is)
  (case A7=>k_is)
  (case A8=>exact⟨_,_,_,_,_,_,_,_,_,by k_is,by k_is,by k_is⟩)
  (case A9=>k_is)
  (case B0=>k_is)
  (case B1=>k_is)
  (case B2=>exact⟨_,_,_,_,_,_,_,_,_,by k_is,by k_is,by k_is⟩)
  (case B3=>k_is)
  (case B4=>k_is)
  (case B5=>k_is)
  (case B6=>exact⟨_,_,_,_,_,_,_,_,_,by k_is,by k_is,by k_is⟩)
  (case B7=>k_is)
  (case B8=>k_is)
  (case B9=>k_is)
  (case C0=>exact⟨_,_,_,_,_,_,_,_,_,by k_is,by k_is,by k_is⟩)
  (case C1=>k_is)
  (case C2=>kernel_rfl)
  (case C3=>k_is)
  (case C4=>kernel_rfl)
  (case C5=>k_is)
  (case C6=>kernel_rfl)
  (case C7=>k_is)
  (case C8=>k_is)
  (case C9=>k_is)
  (case D0=>exact⟨⟨_,_,rfl,rfl⟩,⟨⟨_,_,rfl,rfl⟩,⟨⟨_,_,rfl,rfl⟩,trivial⟩⟩⟩)
  (case D1=>kernel_rfl)
  (case D2=>kernel_rfl)
  (case D3=>k_is)
  (case D4=>kernel_rfl)
  (case D5=>k_is)
  (case D6=>kernel_rfl)
  (case D7=>k_is)
  (case D8=>kernel_rfl)
  (case D9=>k_is)
  (case E0=>kernel_rfl)
  (case E1=>k_is)
  (case E2=>k_is)
  (case E3=>k_is)
  (case E4=>k_is)
  (case E5=>unfold De.T;(repeat' refine aF.mpr ⟨?_,?_⟩);all_goals first | exact fun _ h=>(cj h).elim | k_is)
end
