import PyProof.Rows.All
import Wide.All
import OpenK.AllK
import Wide.FinOn
import PyProof.EqAt
import PyProof.EqKinds
import PyProof.TupleCall
import PyProof.NeKinds
import KE.KMinBuiltin
import Lean
import PySem.Challenge.RW_tokenwright_k21_tables_alike
open Array renaming getElem?_eq_getElem->cC,getElem?_eq_none->gw,forIn_toList->qW,toList->Af,getElem?_toList->BV,toArray_toList->Ca,length_toList->DI
open Bool renaming and_eq_true->aj,false_eq_true->ax,false_ne_true->a9,or_eq_true->bq,not_true->bX,eq_iff_iff->cy,not_false->cz,not_eq_true->fS,not_eq_true'->gZ,true_and->kn,false_and->qh,not_eq_false->HE,noConfusion->Lq,true->ζ,false->ϑ
open Classical renaming byContradiction->eS
open False renaming elim->aZ
open ForInStep renaming yield->eV
open Function renaming comp_def->cJ
open Iff renaming rfl->lJ
open Int renaming toNat_natCast->dA,emod_lt_of_pos->mm,emod_nonneg->pA,fdiv_eq_ediv_of_nonneg->yn,not_lt->yy,ofNat->BX,le_refl->Fj,natCast_nonneg->Ht
open Int.ofNat renaming inj->iL
open List renaming getElem?_eq_getElem->ab,length_map->ae,getElem?_eq_some_iff->ag,getElem?_append_left->ah,mem_of_getElem?->ai,getElem?_set_ne->ao,length_append->aq,mem_cons_of_mem->av,map_cons->aw,getElem?_append_right->ay,getD_eq_getElem?_getD->az,getElem?_map->aB,size_toArray->aD,map_append->aI,mem_append->aL,mem_cons->aM,mem_cons_self->aN,lookup_cons->aP,mem_append_right->aR,length_cons->aU,forall_mem_cons->ba,mem_append_left->bj,filterMap_cons->bu,append_assoc->bw,getElem?_set_self->bA,map_map->bB,range->bC,idxOf_lt_length_of_mem->bE,all_cons->bG,mem_singleton->bI,suffix_refl->bN,mem_map->bO,getElem?_of_mem->bR,all_eq_true->bS,append_nil->bT,length_set->b9,take_length->cb,length->cw,not_mem_nil->cA,length_take->cH,getElem?_eq_none->cL,foldl_cons->cR,suffix_cons->du,getElem_idxOf->dH,getElem_mem->dJ,any_cons->dO,map->dQ,length_range->dU,nodup_cons->dW,find?_cons->dX,length_nil->dY,getElem?_range->eh,take_of_length_le->eI,getElem?_concat_length->eL,mem_filterMap->eT,drop_eq_getElem_cons->fu,mem_filter->fw,lookup->fB,map_nil->fD,nodup_append->fE,getElem?_mapIdx->fF,foldl_append->fG,eq_nil_of_length_eq_zero->gx,length_singleton->gU,contains_iff_mem->gW,getElem?_append->iF,foldl_nil->iG,filter_cons->iO,set_cons_succ->jd,set_cons_zero->je,mem_range->jA,length_eq_one_iff->jB,drop_zero->jC,drop_of_length_le->jD,getElem?_set->jE,take_add_one->jF,idxOf_append->jG,lookup_cons_self->jZ,nil_append->kX,mem_map_of_mem->k7,length_reverse->k8,length_mapIdx->lN,mem_of_find?_eq_some->mG,reverse_cons->mI,prefix_iff_eq_take->nQ,cons_append->nU,append_eq_nil_iff->oF,forIn_cons->oJ,getElem?_reverse->pv,eq_nil_or_concat->pC,concat_eq_append->pD,getElem_of_mem->qR,map_congr_left->qS,map_eq_nil_iff->qU,map_inj_right->sA,all_map->tO,set_set->tQ,flatten_cons->tR,map_inj_left->tU,take_append_of_le_length->u5,of_mem_zip->wo,forIn_nil->wY,replicate->wZ,nodup_nil->xj,isPrefixOf_iff_prefix->xn,getElem?_take_of_lt->zT,sum_cons->zZ,getElem?_replicate->Ag,length_eq_zero_iff->Ao,lookup_eq_none_iff->Aq,range_succ_eq_map->BS,any_map->BW,length_filter_le->Cc,take_append_drop->Ce,filterMap_append->Cg,getElem_toArray->DL,drop_eq_nil_iff->DM,take_succ_cons->Fg,drop_succ_cons->Fh,length_pos_iff->Fl,lookup_append->Hc,filterMap_map->Hd,contains_cons->He,filter_append->Hf,ext_getElem?->HC,isEmpty_cons->HF,flatMap_cons->HG,getElem_inj->Lm,drop_length->Lo,map_fst_zip->Lu,map_snd_zip->Lw,find?_some->LN,sum_append->LO
open List.IsSuffix renaming trans->mZ
open List.Pairwise renaming map->oQ,nil->xi
open List.cons renaming injEq->dy,inj->Hg
open Nat renaming le_refl->ar,lt_of_lt_of_le->au,le_trans->aH,ne_of_lt->aV,lt_succ_of_lt->bc,pow_le_pow_right->bx,zero_le->bJ,testBit_and->bP,le_of_lt->bQ,sub_self->bZ,lt_succ_self->cB,ne_of_gt->cD,testBit_or->cQ,lt_irrefl->dj,lt_trans->dm,not_lt_zero->dq,pow_succ->gE,testBit_one_eq_true_iff_self_eq_zero->hJ,le_succ->iK,lt_succ_iff_lt_or_eq->jb,lt_of_le_of_lt->ji,le_succ_of_le->jH,le_of_not_lt->kh,eq_of_testBit_eq->kF,zero_add->lI,not_lt->mi,lt_trichotomy->mU,succ_le_succ->n8,le_add_right->n9,add_sub_cancel->sI,one_shiftLeft->ug,lt_of_not_le->uY,min_eq_right->uZ,not_le_of_lt->u6,exists_testBit_of_ne_zero->wq,zero_or->wt,le_of_eq->B7,lt_or_ge->B9,testBit_lt_two_pow->Cd,sub_zero->Cf,lt_of_le_of_ne->HH,or_lt_two_pow->Lr
open Nat.succ renaming inj->mT
open Ne renaming symm->cM
open Option renaming map_eq_some_iff->ak,bind_eq_some_iff->aA,bind_eq_bind->aQ,getD_some->eJ,map_some->gD,getD_none->jM,map_map->pB,isSome_some->qP,map_none->uw,isSome_iff_exists->xa,isSome_map->Fd,some->ξ,none->ψ
open Option.some renaming inj->aK,injEq->pY
open Prod renaming fst->DK
open Prod.mk renaming inj->Ad
open PyProof.Rows renaming callWith_type1->dg,AllBare->qw,envOfC->sG,subscriptTail->E9,subscriptTail_builtinR->Hv,IntsAre->Hw
open PyProof.Rows.LSm renaming kept_iter->Aj
open PySem renaming wpAny_bind->af,wpAny_pure->aC,Shared->aE,model->bf,starEach->bz,compareOp->bH,Program->bK,mainGlobals->bL,sysModules->cg,World->cx,wpAny_truthy_bool->cP,binaryOp->cX,mem_of_lookup->de,Around->dC,wpAny_loadPart'->dI,wpAny_Call_Name_kw->dS,cLine->d6,wpAny_holding->eY,backTo->fN,swapsWith->fO,FuncData->fP,wpAny_mono->fU,keywordEach->gQ,wpAny_typeNameOfWhole_valiter->gV,tupleKind_room_in1->gY,wpAny_passesOwn->iu,inplaceOp->iD,attributeBase->iE,wpAny_dictEntries->iN,dictSetDefault->iZ,cellsFrom->ja,bootBuiltins->kf,Scope->kg,call_meetsIn->ki,wpAny_newObj_type->kj,wpAny_pyIter_list->km,wpAny_call_entry->k5,wpAny_isInstance->k6,valueAt->lF,sizeLine_eq->lG,sliceBounds->lH,wpAny_specialOf->mf,tupleKind->mS,wpAny_rule->mV,Operator->mW,codeAny->oB,Keyword->oE,rawInt->oK,plainId_quiet->oN,DictEntry->p9,wpAny_callSpecial?_slot->qa,wpAny_execs_nil->qN,letOwnedTupleGo->qO,atKey->qQ,codeAny_builtin->qT,isSubtype_tuple_tuple->qX,wpAny_notOrdered_dict->rf,builtinLookup_eq_fast->rg,wpAny_isOneOf_valiter->rh,wpAny_seqItems->sF,wpAny_pyIter_revIter->sH,getItem->tN,wpAny_tupleItemsOf->uT,assignEach->uU,typeLookup->uW,stored->uX,wpAny_assign_Name->wA,codeAny_mono->wB,callerA->wF,assign->yl,pyNext->ym,getMethod->yp,subscripted->zU,Within->Ae,size_of_entries->Ah,typeLookup_type->Ak,wpAny_dictEpoch->Al,wpAny_ite_split->An,intKind->BN,wpAny_richCompare_same_room->BO,BindsTo->BQ,entryOfKey->B5,builtinsNs->B6,newFunctionEnv->B8,methodCallForm->Cb,call->Fc,wpAny_standAt->Fe,wpAny_comprehension_free->Ff,eqIsQuiet->G7,bindL->G9,bindC->Ha,wpAny_pyNext_list_item->Hs,seqIndex_neg->Hu,wpAny_Assign_Subscript->Hy,relabel->Hz,wpAny_typeOf->HA,wpAny_pyNext_list_end->Ln,wpAny_mkInt->LH,wpAny_loadName_local->LI,bindArgs->LJ,seqIndex_of->LK,wpAny_updateDictKeys->LL,boot_len->LM
open PySem.Around renaming under_plainId->ke,in1_units->tM,under->zR
open PySem.Calls renaming spliced_cons->gu,spliced_nil->jv,callWith_builtin->jw,evalArgs_plain->p8,Name_function_global->wz
open PySem.Code renaming isFrame->BP
open PySem.Expr renaming Name->Lp
open PySem.F renaming slot_dict_valueiterator_next->cY,slot_dict_get->eQ,plainAttrs_dict->i6,entry_dict_get->jh,plainAttrs_str->mY,slot_list_getattribute->nZ,args_dict_valueiterator_next_1->oO,entry_dict_valueiterator_next->pq,slot_tuple_eq->qg,slot_dict_values_iter->tP,slot_dict_setdefault->uf,args_tuple_add_2->wC,slot_dict_values->wG,entry_tuple_add->xc,args_dict_get_2->xk,args_dict_get_3->xm,plainAttrs_list->xo,slot_tuple_add->yr,type_dict_get->zW,slot_dict_len->zY
open PySem.Heap renaming get?_push_of_some->aG,lt_size->aO,get?_push_size->aX,size_push->fQ,SameBut->gC,get?_update_self->gS,get?_update_other->oC
open PySem.Heap.DictOf renaming new->BR
open PySem.Heap.SameBut renaming update->fg
open PySem.NameKind renaming free->bU,cell->gv
open PySem.Obj renaming data_mapDictKeys->kE,mapSeq->mh,mapFields->Am,isFreed_of_dict->Hb,data_mapFields->HB
open PySem.SeqAt renaming EqAt->wD
open PySem.SeqAt.EqAt renaming same->jL,int_none->ow,str_none->ox,none_int->oy,none_str->oA,int_str->pf,str_int->ph,int_int->pj,none_bool->xf,bool_none->xg,bool_bool->xh,bool_int->yt,bool_str->yu,int_bool->yw,str_bool->yx,str_str->zV,of_refs->zX
open PySem.SeqAt.RcAt renaming lists_lengths->uv,tuples->Ai
open PySem.Str renaming ofString->cj
open PySem.Value renaming ref->bp,none->gh,bool->iq,int->lD,str->lE,isInt->B4,type->E7
open PySem.W renaming Frag->aJ,emptyDict->dw,findIn->eM,instObj->fc,keepIn->jf,fnOf->kD,plainGet->mH,lookIn->oM,plainGet_of->p6,callWith_K0->p7,callWith_K->qx,mg_of->qV,methodObj->qY,hasDictIn->qZ,takerIn->ue,codeIn->uV,isFn->yo,cellsFrom_some->yq,methodCall_KW->zS,pyHash_slot->BM,KeysLit->BU,plainOver->DJ,handedIn->E8,makesIn->G8,OpenLaw->Hx,keepIn->HD
open PySem.Walks renaming list->Fi
open Sum renaming inr->jc,inl->wX
open Sum.inl renaming inj->Ac
open Sum.inr renaming inj->oI
open True renaming intro->eU
set_option linter.all false
set_option Elab.async false
set_option maxRecDepth 100000
set_option maxHeartbeats 4000000
set_option genSizeOf false
set_option genInjectivity false
set_option bootstrap.genMatcherCode false
set_option compiler.extract_closed false
noncomputable section
section
def zQ(x:Lean.Syntax):Lean.Syntax:=x.rewriteBottomUp fun
 |.node i k a=>if k==`Lean.Parser.Term.anonymousCtor then .node i `Lean.Parser.Tactic.rcasesPat.tuple (a.modify 1 fun b=>Lean.mkNullNode (b.getArgs.map fun c=>if c.isAtom then c else .node i `Lean.Parser.Tactic.rcasesPatLo #[.node i `Lean.Parser.Tactic.rcasesPatMed #[Lean.mkNullNode #[c]],Lean.mkNullNode]))
  else if k==`Lean.Parser.Term.hole then .node i `Lean.Parser.Tactic.rcasesPat.ignore a else .node i k a
 |x=>if x.isIdent then Lean.mkNode `Lean.Parser.Tactic.rcasesPat.one #[x] else x
def zR(x:Lean.Syntax)(t:String):Lean.Syntax:=((t.splitOn " ").foldl (fun s w=>match w.toList with
 |'.'::r=>Lean.mkAtom (String.ofList r)::s
 |'$'::r=>r.foldl (fun y c=>y[c.toNat-48]) x::s
 |'\''::r=>(Lean.mkIdent (String.ofList r).toName).raw::s
 |'%'::_=>s.modifyHead zQ
 |'S'::_=>s.modifyHead fun x=>Lean.mkNode `Lean.Parser.Tactic.tacticSeq #[Lean.mkNode `Lean.Parser.Tactic.tacticSeq1Indented #[x]]
 |'O'::_=>Lean.mkNode `Lean.Parser.Tactic.optConfig #[Lean.mkNullNode]::s
 |c::r=>let n:=c.toNat-48;Lean.mkNode (match r with
  |'N'::_=>`null
  |'T'::r=>`Lean.Parser.Tactic++(String.ofList r).toName
  |'E'::r=>`Lean.Parser.Term++(String.ofList r).toName
  |'P'::r=>`Lean.Parser++(String.ofList r).toName
  |r=>`Lean.Parser.Command++(String.ofList r).toName) (s.take n).reverse.toArray::s.drop n
 |_=>s) []).headD .missing
def zT:List (String×String):=("term#[_,]¦a
term∅¦. . O 2Tomega 1N S 2EbyTactic
Term.omission¦. . O 2Tdecide 1N S 2EbyTactic
Term.paren¦?
Term.parenTerm.cdotmissing00false¦. . O 0N 0N 0N 0N 6Tsimp .; . O 2Tomega 3N S 2EbyTactic
term~~~_¦. . 0N 0N O 0N 0N 0N .using $1 2N 5TsimpaArgsRest 4Tsimpa 1N S 2EbyTactic
Term.explicit¦?
Term.explicitnummissing00true¦. 'var 2EdotIdent $1 1N 2Eapp
coeNotation¦?
coeNotationnummissing00true¦. 'lit 2EdotIdent . 'int 2EdotIdent $1 1N 2Eapp 1N 2Eapp
coeNotationterm[_]missing00true¦. 'lit 2EdotIdent . 'str 2EdotIdent $1 1N 2Eapp 1N 2Eapp
Tactic.tacticErw___¦?
Tactic.tacticErw___Tactic.optConfig[00true¦. $2101 2Texact
Tactic.tacticRwa__¦?
Tactic.tacticRwa__Tactic.rwRuleSeqmissing00true¦. $1101 2Trefine
Tactic.dsimp¦?
Tactic.dsimpTactic.optConfigmissing30true¦$0 $1 $2 .only 1N $4 $5 6Tsimp
Tactic.tacticLet__¦?
Tactic.tacticLet__Term.letConfigTerm.letPatDecl00true¦. $200 % 1N 1TrcasesPatMed 1N 0N . $204 1N 2N 4Tobtain
Command.declaration¦?
Command.declarationCommand.definitionmissing00true¦$0 $10 $11 $120 $1210 2declSig $13 4theorem 2declaration
Command.declarationCommand.abbrevmissing00true¦0N 0N 0N 0N . 1noncomputable 1N 0N 0N 7declModifiers $10 $11 $12 $13 0N 5definition 2declaration
Vector.term#v[_,]¦v
v¦. . O 0N 0N 0N 0N 6Tsimp 1N S 2EbyTactic
term%[_|_]¦r
r¦. . O . $1 . 3TrwRuleSeq 0N 4TrwSeq .; . $3 2Texact 3N S 2EbyTactic
PySem.W.X.tacticZ_go¦. . 'env ., 'ρ ., 'S ., ._ 1Ehole ., 'he ., 'R ., 'w ., . 'u 'S1 'v 'H1 'ρ1 'w1 'st1 'R1 'r1 9N 0N . .? ._ 2EsyntheticHole 4EbasicFun 2Efun ?N . 3EanonymousCtor 2Trefine
PySem.W.X.tacticX_go¦. 'pZ 's 'σ 'H 'x 'y 'v 'u 'Q 'I 'rx 'ry 'h =N 2Tintro
PySem.W.tacticKd_p¦. . 'σ 'H 'Q 'zz 4N 2Tintro .; . . 'env ., 'ρ ., 'S ., 'QU ., 'he ., 'R ., 'w ., 'q ?N . 3EanonymousCtor % 1N 1TrcasesPatMed 1N 0N . 'zz 1N 2N 4Tobtain 3N S . 3Tparen
PySem.W.tacticW_up¦. 'X 'hP 'hw 'hK 'hc 'i 'pZ 's 'σ 'H 'E 'I 'hf 'st 'hg ?N 2Tintro
PySem.W.tacticK_ne¦. 'pZ 's 'σ 'H 'Q 'I 'h 7N 2Tintro
PySem.W.tacticK_go¦. 'pZ 's 'σ 'H 'xs 'us 'Q 'I 'r 'h :N 2Tintro
PyProof.Rows.tacticWalk_at_¦w
PyProof.Rows.tacticRoom¦w
w0¦Ed abg ab6 abh Zw Zx w_var w_lit aa3 aa4 w_not w_and w_or aa5 aa6 Zp w_mk Zq aa7 aa8 w_fld ab2 ab3 aa9 aba Zr abc Zs ab4 ab5 VA abd Zt abe Zu Zv abf QG QH Y6 Y7 QJ Y8 X4 Y9 Vq Eb aaK Vr Vs aaL aaM aaN abR abS abT abU MV MX QP QQ QR Zc Zd QS Vt MY abV abW abX abY abZ ab0 aaI aaJ OS Ec aaO IX yP Vv aaP aaQ aaR aaS aaT aaU aaV X5 Ze X6 aaW aaX D1 AS xN sO xF Zm X8 Vx Vy Vz v_s v_t v_l bind_f Zn abO abP abQ true_and bg pH aF b7 IF XW XX MG List.getElem?_cons_zero List.getElem?_cons_succ List.map_cons List.map_nil List.replicate_zero List.replicate_succ List.cons_append List.nil_append List.append_nil List.set_cons_zero List.set_cons_succ mO Option.join_some
wpl¦ aaZ Zo aa0 aa1 aa2 i8 Yh abq V7
wpf¦ sZ A7 abi VB VC abj i8 Yh abq V7
wpk¦ sZ A7 abi VB VC abj Zy abl Zf abu CV uE Yi Sh aai Zg aaY X7 Zh getD_some kY abb Zl abk Zz ZA Vw Zj Zi Zk Int.toNat_natCast Bool.false_eq_true if_false if_true Bool.not_true Bool.not_false
w1¦. O 0N .only 1N .[ $0 .] 3N 0N 6Tsimp
w2¦. . . 'Rest.go .? ._ 2EsyntheticHole 1N 2Eapp 2Trefine 1N S 2TtacticTry_ .; $0 .; . . 'Rest.go .? ._ 2EsyntheticHole 1N 2Eapp 2Trefine .; $0 3N S 2TtacticRepeat_ 5N S . 3Tparen".splitOn "\n").map fun l=>match l.splitOn "¦" with|[a,b]=>(a,b)|_=>("","")
def zW(t:String):Lean.Syntax:=Lean.mkNullNode #[Lean.mkNullNode ((t.splitOn " ").toArray.flatMap fun n=>#[zR .missing ("0N 0N '"++n++" 3TsimpLemma"),Lean.mkAtom ","])]
def zF(x:Lean.Syntax):Lean.Syntax:=let x:=x.setInfo .none;match x with
 |.node _ k _=>let f(s:String):=(zT.lookup (s.replace "Lean.Parser." "")).getD "";let s:=k.toString false;match f s with
  |""=>x
  |"?"=>match f (s++x[1].getKind.toString false++x[2][0].getKind.toString false++toString x[4].getNumArgs++toString x[3].getNumArgs++toString (x[0].getArgs.all (·.getNumArgs==0))) with
   |""=>x
   |t=>zR x t
  |"a"=>if x[1].getNumArgs==0 then x else x.setKind `Lean.Parser.Term.anonymousCtor
  |"v"=>if x[1].getNumArgs==0 then zR x (f "v") else x[1].getSepArgs.foldr (fun a r=>zR (Lean.mkNullNode #[a,r]) ". 'cons 2EdotIdent $0 $1 2N 2Eapp") (zR x ". 'nil 2EdotIdent")
  |"r"=>zR (x.setArg 1 (Lean.mkNullNode (x[1].getArgs.map fun a=>if a.isAtom then a else zR a "0N $ 2TrwRule"))) (f "r")
  |"w"=>let s:=x[1].isStrLit?.getD "pk";let w:=zR (zW (f "w0"++f ("w"++s))) (f "w1");if s=="pl" then w else zR (Lean.mkNullNode #[w]) (f "w2")
  |t=>zR x t
 |x=>x
def zM(x:Lean.Syntax)(f:Lean.Syntax->Lean.Syntax):Lean.MacroM Lean.Syntax:=let y:=x.rewriteBottomUp f;if y==x then Lean.Macro.throwUnsupported else pure y
local macro_rules(kind:=Lean.Parser.Command.declaration)|x=>zM x zF
local macro_rules(kind:=Lean.Parser.Command.mutual)|x=>zM x fun x=>if x.isOfKind `Lean.Parser.Command.declaration then x else zF x
namespace Lake
namespace L2
open PySem PySem.Spec PyProof.Rows
@[reducible]def Key:=Sum Int (Option Str)
abbrev xp:Key->Value->Bool
 |.inl k,v=>B4 k v
 |.inr (ξ x),v=>Value.isStrOf x v
 |.inr ψ,v=>v==gh
abbrev Yn(w:cx):Key->Int
 |.inl k=>hashInt k
 |.inr (ξ x)=>hashStr w x
 |.inr ψ=>reduceHash 0xFCA86420
def fT:∀{k:Key}{v:Value},xp k v=ζ->(∃i t,k=wX i/\v=lD i t)\/(∃x t,k=jc (ξ x)/\v=lE x t)\/(k=jc ψ/\v=gh)
 |.inl i,v,h=>by
  let#[t,e]:=Value.isInt_shape (k:=i) (v:=v) h;erw[.inl #[i,t,rfl,e]]
 |.inr (ξ x),v,h=>by
  let#[t,e]:=Value.isStrOf_shape (x:=x) (v:=v) h;erw[.inr (.inl #[x,t,rfl,e])]
 |.inr ψ,v,h=>.inr (.inr #[rfl,eq_of_beq h])
def Fm(i:Int)(t:Tok):xp (.inl i) (.int i t)=ζ:=by simp[xp,B4]
def Fn(x:Str)(t:Tok):xp (.inr (ξ x)) (.str x t)=ζ:=by simp[xp,Value.isStrOf]
def HI{α:Type}[DecidableEq α]{β:Type}[DecidableEq β](f:α->β)(hf:∀a b,f a=f b->a=b)(a b:α):decide (f a=f b)=decide (a=b):=decide_eq_decide.mpr #[hf a b,λe=>e▸rfl]
def Fo(h:Q (reduceHash 0xFCA86420) {s with toks:=s.toks+1}):wpAny (bf prog w) A (pyHash .none) Q E s:=by
 unfold pyHash;erw[BM (T:="NoneType") rfl F.slot_NoneType_hash F.entry_NoneType_hash (F.args_NoneType_hash_1 _) (beq_builtin_none _) (.inl rfl) (af (aC (af (LH (aC #[_,_,rfl,h])))))]
abbrev dh(prog:bK)(w:cx):PySem.KeyKind prog w Key where
 is:=xp
 hash:=Yn w
 inj:=λv a b ha hb=>by
  rcases fT ha with⟨i,t,rfl,rfl⟩|⟨x,t,rfl,rfl⟩|⟨rfl,rfl⟩<;>rcases fT hb with⟨j,u,rfl,e⟩|⟨y,u,rfl,e⟩|⟨rfl,e⟩<;>cases e<;>rfl
 byValue:=λk v h=>by
  rcases fT h with⟨i,t,rfl,rfl⟩|⟨x,t,rfl,rfl⟩|⟨rfl,rfl⟩<;>rfl
 pyHash:=λhv h=>by
  rcases fT hv with⟨i,t,rfl,rfl⟩|⟨x,t,rfl,rfl⟩|⟨rfl,rfl⟩
  .erw[wpAny_pyHash_int h]
  .erw[wpAny_pyHash_str h]
  .erw[Fo h]
 eqBool:=λhu hv h=>by
  rcases fT hu with⟨i,t,rfl,rfl⟩|⟨x,t,rfl,rfl⟩|⟨rfl,rfl⟩<;>rcases fT hv with⟨j,u,rfl,rfl⟩|⟨y,u,rfl,rfl⟩|⟨rfl,rfl⟩
  .rw[HI wX (λ_ _ e=>Ac e)] at h;erw[wpAny_eqBool_int (by rw[show(i==j)=decide (i=j) from rfl];exact h)]
  .erw[pf i t y u _ _ _ _ h]
  .erw[ow i t _ _ _ _ h]
  .erw[ph x t j u _ _ _ _ h]
  .rw[HI (λz=>jc (ξ z)) (λ_ _ e=>aK (oI e))] at h;erw[wpAny_eqBool_str h]
  .erw[ox x t _ _ _ _ h]
  .erw[oy j u _ _ _ _ h]
  .erw[oA y u _ _ _ _ h]
  .erw[jL _ _ _ _ _ h]
 «strs»:=λk x t v h=>by
  rcases fT h with⟨i,u,rfl,e⟩|⟨y,u,rfl,e⟩|⟨rfl,e⟩
  .erw[nomatch e]
  .cases e
   cases v<;>rfl
  .erw[nomatch e]
section
variable{prog:bK}{w:cx}
@[reducible]def sJ:=Int×List Int
abbrev IsPair(prog:bK)(w:cx)(h:Heap)(k:sJ)(a:Addr):Prop:=∃t c n o,h.get? a=ξ o/\o.cls=.type "tuple"/\o.data=.seq (List.toArray [.int k.1 t,.ref c]) n/\IsTupleKey (BN prog w) h k.2 c
abbrev u7(prog:bK)(w:cx)(k:sJ):Int:=reduceHash (Builtin.Tuple.tupleHashOf [hashInt k.1,tupleKeyHash (BN prog w) k.2])
variable{A:dC}{E:Value->aE->Prop}{s:aE}
def Ar(hu:A.units+1<d6)(hk:IsPair prog w s.heap k a)(h:Q (u7 prog w k) {s with toks:=s.toks+(k.2.length+3)}):
  wpAny (bf prog w) A (pyHash (.ref a)) Q E s:=by
 let#[t,c,n,o,ho,hc,hd,hi]:=hk;have hT:s.TypeIs (.ref a) "tuple":=#[o,ho,hc]
 unfold pyHash;rwa[BM (T:="tuple") hT F.slot_tuple_hash F.entry_tuple_hash (F.args_tuple_hash_1 _) (beq_builtin_none _) (.inr ∅) ?_];show wpAny _ _ (Builtin.Tuple.tupleItemsOf (.ref a)>>=_) _ _ s;rwa[af (uT ho hd ?_)];rwa[af ?_];rw[<-qW]
 dsimp[oJ,wY];rwa[af (af (wpAny_pyHash_int ?_))];refine aC (af (af (wpAny_pyHash_tuple (s:={s with toks:=s.toks+1}) (by dsimp[tM];omega) hi (aC (aC ?_)))));rwa[af (LH (aC #[_,_,rfl,?_]))];have e:s.toks+1+(k.2.length+1)+1=s.toks+(k.2.length+3):=∅
 have h:Q _ _:=h;rw[<-e] at h;simpa[u7] using h
def IsPair.inj{h:Heap}{a:Addr}{x y:sJ}(hx:IsPair prog w h x a)(hy:IsPair prog w h y a):x=y:=by
 let#[t,c,n,o,ho,hc,hd,hi]:=hx;let#[t',c',n',o',ho',hc',hd',hi']:=hy;obtain rfl:o=o':=aK (ho.symm.trans ho');rw[hd] at hd';injection hd' with h1 _
 injection h1 with h1
 injection h1 with h1 h2
 injection h1 with h1 _
 injection h2 with h2 _
 injection h2 with h2
 subst h2;erw[Prod.ext h1 (hi.inj hi')]
def As(hu:A.units+1<d6)(hx:IsPair prog w s.heap x a)(hy:IsPair prog w s.heap y b)(h:Q (decide (x=y)) s):
  wpAny (bf prog w) A (eqBool (.ref a) (.ref b)) Q E s:=by
 unfold eqBool;rwa[eY ?_];show wpAny _ _ (if (bp a==bp b)=ζ then _ else _) Q E s;by_cases hab:(bp a==bp b)=ζ
 .rw[if_pos hab]
  have e:a=b:=by have:=eq_of_beq hab;injection this
  subst e;obtain rfl:=hx.inj hy;exact af (mV (aC (~~~h)))
 .rw[if_neg hab]
  let#[t,c,n,o,ho,hc,hd,hi]:=hx;let#[t',c',n',o',ho',hc',hd',hi']:=hy;have hT:s.TypeIs (.ref a) "tuple":=#[o,ho,hc]
  have hT':s.TypeIs (.ref b) "tuple":=#[o',ho',hc']
  refine af (BO (op:=.Eq) hT hT' qg
   (k5 qg hT F.entry_tuple_eq ?_ (F.args_tuple_eq_2 _ _)) ∅)
  show wpAny _ _ (isInstance (.ref b) (.type "tuple")>>=_) _ _ s
  rwa[af (k6 hT' qX ?_)];dsimp[bX,ax,if_false];rwa[af (uT ho hd ?_)];rwa[af (uT ho' hd' ?_)];rwa[af ?_];dsimp[List.zip_cons_cons,List.zip_nil_right,oJ,wY];rwa[af (af (wpAny_eqBool_int ?_))];let#[x1,x2]:=x;let#[y1,y2]:=y;by_cases e1:x1=y1
  .subst e1
   dsimp[BEq.rfl,bX,ax,if_false];rwa[aC (af (af (wpAny_eqBool_tuple (by dsimp[tM];omega) hi hi' ?_)))];by_cases e2:x2=y2
   .subst e2
    dsimp[decide_true,bX,ax,if_false] at h ⊢;erw[aC (aC (aC #[_,rfl,(λz=>nomatch z),cP h]))]
   .have e3:decide ((x1,x2)=(x1,y2))=ϑ:=decide_eq_false λz=>e2 (Ad z).2
    rw[e3] at h;dsimp[decide_eq_false e2,cz,if_true];erw[af (aC (aC (aC (aC #[_,rfl,(λz=>nomatch z),cP h]))))]
  .have e3:decide ((x1,x2)=(y1,y2))=ϑ:=decide_eq_false λz=>e1 (Ad z).1
   rw[e3] at h;have e4:(x1==y1)=ϑ:=beq_eq_false_iff_ne.mpr e1;dsimp[e4,cz,if_true];erw[af (aC (aC (aC (aC #[_,rfl,(λz=>nomatch z),cP h]))))]
def Ci(hk:IsTupleKey (BN prog w) s.heap ks a)(h:Q ζ s):wpAny (bf prog w) A (G7 (n+1) (.ref a)) Q E s:=by
 have hT:=hk.typeIs;let#[o,items,m,ho,_,hd,hi]:=hk;unfold G7;rwa[af (mf hT qg.lookup (af (k6 hT qX ?_)))];dsimp[bX,ax,if_false];rwa[af (sF ho hd (af ?_))];rw[<-qW]
 rwa[wpAny_forIn_list _ (λl r s'=>r.1=ψ/\s'=s/\∀v∈l,carriedByValue v=ζ) _ ?_ ?_ _ _ #[rfl,rfl,hi.byValue]]
 .rintro v l r s' ⟨hr,rfl,z⟩
  rw[eqIsQuiet_byValue _ (z v aN)]
  erw[af (aC (aC #[rfl,rfl,λu hu=>z u (av _ hu)]))]
 .rintro⟨r1,r2⟩ s' ⟨hr,rfl,_⟩
  cases hr;erw[aC h]
def Cj(hk:IsPair prog w s.heap k a)(h:Q ζ s):wpAny (bf prog w) A (G7 8 (.ref a)) Q E s:=by
 let#[t,c,n,o,ho,hc,hd,hi]:=hk;have hT:s.TypeIs (.ref a) "tuple":=#[o,ho,hc]
 unfold G7;rwa[af (mf hT qg.lookup ?_)];show wpAny _ _ (isInstance (.ref a) (.type "tuple")>>=_) _ _ s;rwa[af (k6 hT qX ?_)];dsimp[bX,ax,if_false];rwa[af (sF ho hd ?_)];rwa[af ?_];show wpAny _ _ (forIn (List.toArray [lD k.1 t,.ref c]) _ _) _ _ s;rw[<-qW]
 dsimp[oJ,wY];rw[eqIsQuiet_byValue 7 (v:=.int k.1 t) rfl]
 erw[af (af (aC (aC (af (af (Ci hi (aC (aC (aC h)))))))))]
def IsPair.keeps{es ep}(x:IsPair prog w h k a)(ho:h.get? d=ξ o)(hd:o.data=.dict es ep)(hs:gC d h h'):IsPair prog w h' k a:=by
 let#[t,c,n,o',ho',hc,hd',hi]:=x;refine#[t,c,n,o',(hs.2 a ?_).trans ho',hc,hd',hi.keeps ho hd hs];rintro rfl;obtain rfl:o'=o:=aK (ho'.symm.trans ho);rw[hd] at hd';erw[nomatch hd']
abbrev rj(prog:bK)(w:cx):HeapKind prog w sJ where
 is:=IsPair prog w
 hash:=u7 prog w
 draws:=λk=>k.2.length+3
 room:=λA=>A.units+1<d6
 inj:=λhx hy=>hx.inj hy
 keeps:=λx ho hd hs=>x.keeps ho hd hs
 pyHash:=λhu hk h=>Ar hu hk h
 eqBool:=λhu hx hy h=>As hu hx hy h
 quiet:=λhk h=>Cj hk h
end
def Au(prog:bK)(w:cx)(i:Int)(t:Tok):(dh prog w).is (.inl i) (.int i t)=ζ:=Fm i t
def Av(prog:bK)(w:cx)(x:Str)(t:Tok):(dh prog w).is (.inr (ξ x)) (.str x t)=ζ:=Fn x t
set_option genInjectivity true in
inductive V where
 |cf|bl (b:Bool)|int (i:Int)|str (x:Str)|BY (b:Array UInt8)|XI (b:UInt64)|ref (a:Addr)|ty (n:String)
 deriving DecidableEq
abbrev RelV:V->Value->Prop
 |.cf,u=>u=gh
 |.bl b,u=>u=iq b
 |.int i,u=>∃t,u=lD i t
 |.str x,u=>∃t,u=lE x t
 |.BY b,u=>∃t,u=Value.bytes b t
 |.XI b,u=>∃t,u=Value.float b t
 |.ref a,u=>u=bp a
 |.ty n,u=>u=E7 n
@[reducible]def Vals:List V->List Value->Prop:=Paired RelV
def Vals.length{xs:List V}{us:List Value}(r:Vals xs us):xs.length=us.length:=Paired.length r
def Vals.get:∀{xs:List V}{us:List Value}{i:Nat}{x:V},Vals xs us->xs[i]?=ξ x->∃u,us[i]?=ξ u/\RelV x u
 |_,_,_,_,.nil,e=>by simp at e
 |_,_,0,_,.cons r _,e=>by simp at e;subst e;exact#[_,rfl,r]
 |_,_,i+1,x,.cons _ t,e=>by
  let#[u,h1,h2]:=Vals.get (i:=i) (x:=x) t (~~~e);exact#[u,~~~h1,h2]
def Vals.set(r:RelV x u):∀{xs:List V}{us:List Value}(i:Nat),Vals xs us->Vals (xs.set i x) (us.set i u)
 |_,_,_,.nil=>.nil
 |_,_,0,.cons _ t=>.cons r t
 |_,_,i+1,.cons q t=>.cons q (Vals.set r i t)
def Vals.append:∀{xs ys:List V}{us ws:List Value},Vals xs us->Vals ys ws->Vals (xs++ys) (us++ws)
 |_,_,_,_,.nil,s=>s
 |_,_,_,_,.cons r t,s=>.cons r (Vals.append t s)
def Vals.take:∀{xs:List V}{us:List Value}(n:Nat),Vals xs us->Vals (xs.take n) (us.take n)
 |_,_,0,_=>.nil
 |_,_,_+1,.nil=>.nil
 |_,_,n+1,.cons r t=>.cons r (Vals.take n t)
def Vals.drop:∀{xs:List V}{us:List Value}(n:Nat),Vals xs us->Vals (xs.drop n) (us.drop n)
 |_,_,0,r=>r
 |_,_,_+1,.nil=>.nil
 |_,_,n+1,.cons _ t=>Vals.drop n t
abbrev mq:Option V->Option Value->Prop
 |some v,ξ u=>RelV v u
 |none,ψ=>True
 |_,_=>False
abbrev KV{κ:Type}:List (κ×V)->List (κ×Value)->Prop:=Paired λ(p:κ×V)(q:κ×Value)=>p.1=q.1/\RelV p.2 q.2
abbrev kV:Key->V
 |.inl i=>.int i
 |.inr (ξ x)=>.str x
 |.inr ψ=>.cf
inductive HO where
 |lst (xs:List V)
 |tup (xs:List V)
 |dK (kvs:List (Key×V))|dT (kvs:List (List Key×V))|dP (kvs:List (sJ×V))
 |set (S:Int->Bool) (n:Nat)
 |ins (C dx:Addr) (fs:List (Str×V))
 |own (x:Addr)
 |xd (fs:List (Str×V))
 |met (f x:Addr)
 |Yo (lo hi:Int)
 |sC (o:Obj) (u:HO)
 |Pn (ps:Array Value)
 |ext (φ:Heap->Prop)
@[reducible]def Hp:=Addr->Option HO
abbrev upd(H:Hp)(a:Addr)(o:HO):Hp:=λb=>if b=a then ξ o else H b
def b8:upd H a o a=ξ o:=by unfold upd;rw[if_pos rfl]
def cq(h:b≠a):upd H a o b=H b:=by unfold upd;rw[if_neg h]
def Um{H:Hp}{a b:Addr}{o u:HO}(h:H a=ξ o)(h':H b=ξ u)(d:o≠u):a≠b:=by
 intro e;subst e;rw[h] at h';erw[d (aK h')]
def dD{H:Hp}{a b:Addr}{o:HO}(h:H a=ξ o)(h':H b=ψ):a≠b:=by
 intro e;subst e;rw[h] at h';cases h'
section
variable(P:bK)(w:cx)
abbrev dM(H:Hp)(h:Heap)(a:Addr):HO->Prop
 |.lst xs=>xs.length<=sizeLine/\∃(its:List Value)(n:Nat),Vals xs its/\h.get? a=ξ {cls:=.type "list",data:=.seq its.toArray n}
 |.tup xs=>xs.length<=sizeLine/\∃its:List Value,Vals xs its/\IsTup h a its.toArray
 |.dK kvs=>kvs.length<=sizeLine/\(a==cg)=ϑ/\∃vs,KV kvs vs/\h.DictOf (dh P w) a vs
 |.dT kvs=>kvs.length<=sizeLine/\(a==cg)=ϑ/\∃xs:List (List Key×Addr×Value),
   Paired (λ(p:List Key×V)(q:List Key×Addr×Value)=>p.1=q.1/\H q.2.1=ξ (.tup (p.1.map kV))/\RelV p.2 q.2.2) kvs xs /\
   ∃o es ep,h.get? a=ξ o/\o.ExactDict/\o.data=.dict es ep/\es.toList=xs.map (B5 (mS (dh P w)))/\(xs.map (·.1)).Nodup
 |.dP kvs=>kvs.length<=sizeLine/\(a==cg)=ϑ/\∃xs:List (sJ×Addr×Value),
   Paired (λ(p:sJ×V)(q:sJ×Addr×Value)=>p.1=q.1/\(∃c,H q.2.1=ξ (.tup [.int p.1.1,.ref c])/\H c=ξ (.tup (p.1.2.map .int)))/\RelV p.2 q.2.2) kvs xs /\
   ∃o es ep,h.get? a=ξ o/\o.ExactDict/\o.data=.dict es ep/\es.toList=xs.map (B5 (rj P w))/\(xs.map (·.1)).Nodup
 |.set S n=>h.SetOf (BN P w) a S n
 |.ins C dx fs=>H dx=ξ (.own a)/\fs.length<=1000/\dx≠a/\h.get? a=ξ (fc C dx) /\
   ∃mA,h.Ns1 dx mA/\(∀f,mq (fs.lookup f) (mA f))/\Ae mA (fs.map (·.1))
 |.own _=>∃o,h.get? a=ξ o
 |.xd fs=>∃mA,h.Ns1 a mA/\∀f,mq (fs.lookup f) (mA f)
 |.Yo lo hi=>∃t u v,h.get? a=ξ {cls:=.type "range",data:=.fields (List.toArray [.int lo t,.int hi u,.int 1 v])}
 |.sC o u=>h.get? a=ξ o/\dM H h a u
 |.Pn ps=>h.get? a=ξ {cls:=.none,data:=.fields ps}
 |.met f x=>h.get? a=ξ (qY (.ref f) (.ref x))
 |.ext φ=>φ h/\(∃o,h.get? a=ξ o)/\∀h1 h2:Heap,φ h1->(∀o,h1.get? a=ξ o->h2.get? a=ξ o)->φ h2
abbrev qc(H:Hp)(h:Heap):Prop:=∀a o,H a=ξ o->dM P w H h a o
end
section
variable{P:bK}{w:cx}{H H':Hp}{h h':Heap}{a:Addr}{o:HO}
def dM.lt(x:dM P w H h a o):a<h.objs.size:=by
 cases o with
 |lst xs=>let#[_,_,_,_,e]:=x;erw[aO e]
 |tup xs=>let#[_,_,_,p]:=x;erw[p.lt]
 |dK kvs=>let#[_,_,_,_,o,_,_,e,_]:=x;erw[aO e]
 |dT kvs=>let#[_,_,_,_,o,_,_,e,_]:=x;erw[aO e]
 |dP kvs=>let#[_,_,_,_,o,_,_,e,_]:=x;erw[aO e]
 |set S n=>let#[o,_,_,_,e,_]:=x;erw[aO e]
 |ins C dx fs=>let#[_,_,_,e,_]:=x;erw[aO e]
 |own y=>let#[_,e]:=x;erw[aO e]
 |xd fs=>let#[_,#[_,_,_,e,_],_]:=x;erw[aO e]
 |Yo lo hi=>let#[_,_,_,e]:=x;erw[aO e]
 |sC ob u=>let#[e,_]:=x;erw[aO e]
 |Pn ps=>erw[aO (show h.get? a=ξ _ from x)]
 |met f y=>erw[aO (show h.get? a=ξ _ from x)]
 |ext φ=>let#[_,#[_,e],_]:=x;erw[aO e]
def Paired.Fp{α β:Type}{F G:α->β->Prop}:∀{l₁:List α}{l₂:List β},Paired F l₁ l₂->(∀a b,F a b->G a b)->Paired G l₁ l₂
 |_,_,.nil,_=>.nil
 |_,_,.cons r t,f=>.cons (f _ _ r) (Paired.Fp t f)
def dM.wH(x:dM P w H h a o)(k:∀b u,(b=a\/H b=ξ (.own a))->h.get? b=ξ u->h'.get? b=ξ u)
  (ho:∀b,H b=ξ (.own a)->H' b=ξ (.own a)) (ht:∀b xs,H b=ξ (.tup xs)->H' b=ξ (.tup xs)):dM P w H' h' a o:=by
 induction o with
 |lst xs=>let#[z,its,n,r,e]:=x;exact#[z,its,n,r,k _ _ (.inl rfl) e]
 |tup xs=>let#[z,its,r,ob,e,c]:=x;exact#[z,its,r,ob,k _ _ (.inl rfl) e,c]
 |dK kvs=>let#[z,y,vs,r,ob,es,ep,e,c]:=x;exact#[z,y,vs,r,ob,es,ep,k _ _ (.inl rfl) e,c]
 |dT kvs=>
  let#[z,y,xs,r,ob,es,ep,e,c]:=x;exact#[z,y,xs,Paired.Fp r λp q z=>#[z.1,ht _ _ z.2.1,z.2.2],ob,es,ep,k _ _ (.inl rfl) e,c]
 |dP kvs=>
  let#[z,y,xs,r,ob,es,ep,e,c]:=x;exact#[z,y,xs,Paired.Fp r λp q z=>#[z.1,let ⟨c,e1,e2⟩:=z.2.1;#[c,ht _ _ e1,ht _ _ e2],z.2.2],ob,es,ep,k _ _ (.inl rfl) e,c]
 |set S n=>let#[ob,es,ep,t,e,c]:=x;exact#[ob,es,ep,t,k _ _ (.inl rfl) e,c]
 |ins C dx fs=>
  let#[d,z,ne,e,mA,#[od,es,ep,e2,c],r]:=x;exact#[ho _ d,z,ne,k _ _ (.inl rfl) e,mA,#[od,es,ep,k _ _ (.inr d) e2,c],r]
 |own y=>let#[ob,e]:=x;exact#[ob,k _ _ (.inl rfl) e]
 |xd fs=>let#[mA,#[od,es,ep,e,c],r]:=x;exact#[mA,#[od,es,ep,k _ _ (.inl rfl) e,c],r]
 |Yo lo hi=>let#[t,u,v,e]:=x;exact#[t,u,v,k _ _ (.inl rfl) e]
 |sC ob u ih=>let#[e,q]:=x;exact#[k _ _ (.inl rfl) e,ih q]
 |Pn ps=>
  have e:h.get? a=ξ {cls:=.none,data:=.fields ps}:=x;show h'.get? a=ξ {cls:=.none,data:=.fields ps};erw[k a _ (.inl rfl) e]
 |met f y=>
  have e:h.get? a=ξ (qY (.ref f) (.ref y)):=x;show h'.get? a=ξ (qY (.ref f) (.ref y));erw[k a _ (.inl rfl) e]
 |ext φ=>let#[p,#[o,e],st]:=x;exact#[st _ _ p λo q=>k _ _ (.inl rfl) q,#[o,k _ _ (.inl rfl) e],st]
def qc.lt(x:qc P w H h)(e:H a=ξ o):a<h.objs.size:=(x a o e).lt
def qc.fresh(x:qc P w H h)(e:h.objs.size<=a):H a=ψ:=by
 cases q:H a with
 |none=>rfl
 |some u=>erw[absurd (au (x.lt q) e) (dj _)]
def qc.kept(x:qc P w H h)(k:∀b u,h.get? b=ξ u->h'.get? b=ξ u):qc P w H h':=λa o e=>
 (x a o e).wH (λb u _ q=>k b u q) (λ_ q=>q) λ_ _ q=>q
def qc.laid(x:qc P w H h)(k:∀b u,h.get? b=ξ u->h'.get? b=ξ u)(hp:h.objs.size<=a)(new:dM P w (upd H a o) h' a o):qc P w (upd H a o) h':=λb u e=>by
 have hn:=x.fresh hp;by_cases hb:b=a
 .subst hb;rw[b8] at e;cases e;erw[new]
 .rw[cq hb] at e
  exact(x b u e).wH (λc v _ q=>k c v q) (λc q=>%[cq (dD q hn)|q]) λc xs q=>%[cq (dD q hn)|q]
end
abbrev Rd(H:Hp)(a:Addr)(u:HO):Prop:=H a=ξ u\/∃o,H a=ξ (.sC o u)
def Rd.ok{P:bK}{w:cx}{H:Hp}{h:Heap}{a:Addr}{u:HO}(r:Rd H a u)(x:qc P w H h):dM P w H h a u:=by
 rcases r with r|⟨o,r⟩
 .erw[x a u r]
 .let#[_,q]:=x a _ r
  erw[q]
abbrev T1:Option HO->Prop
 |some (.lst _)=>True
 |some (.dK _)=>True
 |some (.dT _)=>True
 |some (.dP _)=>True
 |some (.set _ _)=>True
 |some (.ins _ _ _)=>True
 |some (.ext _)=>True
 |_=>False
section
variable{P:bK}{w:cx}{H:Hp}{h h':Heap}{x e:Addr}{o':HO}
def qc.write(ok:qc P w H h)(mu:T1 (H x))(he:e=x\/H e=ξ (.own x))(k:∀b u,b≠e->h.get? b=ξ u->h'.get? b=ξ u)(heo:∃u,h'.get? e=ξ u)
  (new:dM P w (upd H x o') h' x o'):qc P w (upd H x o') h':=λb u q=>by
 have nown:∀c y,H c=ξ (.own y)->c≠x:=λc y r z=>by subst z;rw[r] at mu;erw[mu]
 have ntup:∀c xs,H c=ξ (.tup xs)->c≠x:=λc xs r z=>by subst z;rw[r] at mu;erw[mu]
 by_cases hb:b=x
 .subst hb;rw[b8] at q;cases q;erw[new]
 .rw[cq hb] at q
  by_cases hbe:b=e
  .have q':H b=ξ (.own x):=by
    rcases he with z|z
    .erw[absurd (hbe.trans z) hb]
    .rw[hbe];erw[z]
   rw[q] at q';cases q';let#[v,hv]:=heo;exact#[v,%[hbe|hv]]
  .refine(ok b u q).wH (λc v hc r=>k c v ?_ r) (λc r=>%[cq (nown c b r)|r]) λc xs r=>%[cq (ntup c xs r)|r]
   rcases hc with rfl|hc
   .erw[hbe]
   .rintro rfl
    rcases he with z|z
    .erw[nown c b hc z]
    .rw[hc] at z;cases z;erw[hb rfl]
end
structure Un(fs ex:List Addr)(H H':Hp)(h h':Heap):Prop where
 keep:∀b o,h.get? b=ξ o->H b=ψ->b∉fs->b∉ex->h'.get? b=ξ o
 slot:∀b o,h.get? b=ξ o->H b=ψ->b∈fs->b∉ex->∃sl,h'.get? b=ξ {o with slots:=sl}
 free:∀b o,h.get? b=ξ o->H b=ψ->b∉ex->H' b=ψ
 there:∀b o,h.get? b=ξ o->b∉ex->∃o',h'.get? b=ξ o'
 Aw:∀b xs,H b=ξ (.tup xs)->H' b=ξ (.tup xs)
 yz:∀b o u,H b=ξ (.sC o u)->H' b=ξ (.sC o u)
 Ax:∀b ps,H b=ξ (.Pn ps)->∃more,H' b=ξ (.Pn (ps++more))
section
variable{fs fs' ex ex':List Addr}{H H1 H2:Hp}{h h1 h2 h':Heap}{a x e:Addr}{o:HO}
def Un.any(u:Un fs ex H H1 h h1){b:Addr}{ob:Obj}(q:h.get? b=ξ ob)(n:H b=ψ)(hx:b∉ex):∃sl,h1.get? b=ξ {ob with slots:=sl}:=by
 by_cases hb:b∈fs
 .erw[u.slot b ob q n hb hx]
 .exact#[ob.slots,u.keep b ob q n hb hx]
def Un.kept(k:∀b u,h.get? b=ξ u->h'.get? b=ξ u):Un fs ex H H h h':=
 #[λb ob q _ _ _=>k b ob q,λb ob q _ _ _=>#[ob.slots,k b ob q],λ_ _ _ n _=>n,λb ob q _=>#[ob,k b ob q],λ_ _ q=>q,λ_ _ _ q=>q,λ_ ps q=>#[#[],by rw[q];simp]]
def Un.refl:Un fs ex H H h h:=Un.kept λ_ _ q=>q
def Un.laid(k:∀b u,h.get? b=ξ u->h'.get? b=ξ u)(hp:h.objs.size<=a)(hn:H a=ψ):Un fs ex H (upd H a o) h h' where
 keep:=λb u q _ _ _=>k b u q
 slot:=λb u q _ _ _=>#[u.slots,k b u q]
 free:=λb u q n _=>%[cq (aV (au (aO q) hp))|n]
 there:=λb u q _=>#[u,k b u q]
 Aw:=λb xs q=>%[cq (dD q hn)|q]
 yz:=λb u xs q=>%[cq (dD q hn)|q]
 Ax:=λb ps q=>#[#[],by rw[cq (dD q hn),q];simp]
def Un.write(mu:T1 (H x))(he:e=x\/H e=ξ (.own x))(k:∀b u,b≠e->h.get? b=ξ u->h'.get? b=ξ u)(heo:∃u,h'.get? e=ξ u):Un fs ex H (upd H x o) h h':=by
 have hx:∀b,H b=ψ->b≠x:=λb n z=>by subst z;rw[n] at mu;erw[mu]
 have hb:∀b,H b=ψ->b≠e:=λb n z=>by
  subst z;rcases he with r|r
  .erw[hx b n r]
  .rw[n] at r;cases r
 have hm:∀b u,H b=ξ u->¬T1 (ξ u)->b≠x:=λb u q nm z=>by subst z;rw[q] at mu;erw[nm mu]
 refine#[λb u q n _ _=>k b u (hb b n) q,λb u q n _ _=>#[u.slots,k b u (hb b n) q],λb u q n _=>by rw[cq (hx b n)];exact n,λb u q _=>?_,
  λb xs q=>%[cq (hm b _ q λz=>z)|q],λb u xs q=>%[cq (hm b _ q λz=>z)|q],λb ps q=>#[#[],by rw[cq (hm b _ q λz=>z),q];simp]]
 by_cases hbe:b=e
 .subst hbe;erw[heo]
 .exact#[u,k b u hbe q]
end
abbrev Hh(h:Heap)(H:Hp):List Addr:=(bC h.objs.size).filter λa=>(H a).isSome
abbrev yA(h:Heap)(H:Hp):Heap:=PySem.W.hideAll h (Hh h H)
def Fq(h:Heap)(H:Hp):(yA h H).objs.size=h.objs.size:=PySem.W.hideAll_size _ _
def HJ(e:h.get? b=ξ o)(n:H b=ψ):(yA h H).get? b=ξ o:=
 PySem.W.hideAll_get _ e λhm=>by
  have q:(H b).isSome=ζ:=(fw.mp hm).2;rw[n] at q;simp at q
def LP(e:(yA h H).get? b=ξ o):h.get? b=ξ o/\H b=ψ:=by
 have e':h.get? b=ξ o:=PySem.W.of_hideAll (Hh h H) e;refine#[e',?_];cases q:H b with
 |none=>rfl
 |some x=>
  have hm:b∈Hh h H:=fw.mpr #[jA.mpr (aO e'),by simp[q]];have z:(yA h H).get? b=ψ:=PySem.W.hideAll_none (Hh h H) hm;rw[z] at e;cases e
abbrev rm(g h:Heap)(L:Addr):List (Addr×Obj):=(bC h.objs.size).filterMap λa=>if a=L\/(g.get? a).isSome=ζ then ψ else(h.get? a).map λo=>(a,o)
def Ay(h1:a≠L)(h2:g.get? a=ψ)(h3:h.get? a=ξ o):(a,o)∈rm g h L:=
 eT.mpr #[a,jA.mpr (aO h3),by simp[h1,h2,h3]]
def u9(hp:p∈rm g h L):p.1≠L/\g.get? p.1=ψ/\h.get? p.1=ξ p.2:=by
 let#[b,_,e]:=eT.mp hp;split at e
 .cases e
 .rename_i hn
  cases q:h.get? b with
  |none=>rw[q] at e;simp at e
  |some u=>
   rw[q] at e;dsimp[gD,pY] at e;subst e;refine#[λz=>hn (.inl z),?_,q];show g.get? b=ψ;cases r:g.get? b with
   |none=>rfl
   |some v=>exact(hn (.inr (by simp[r]))).elim
def HK:News g L h (rm g h L):=λp hp=>let ⟨a,b,c⟩:=u9 hp;#[c,a,b]
structure Mod(K:aJ)(mg:Str->Option Value)(base:Heap):Prop where
 Uo:K.In base
 glob:base.Ns bL mg
 blt:∃mb,base.Ns B6 mb/\∀x:Str,x≠"__name__"->mb x=kf x
 nolimit:base.NoLimit
structure Cx where
 prog:bK
 w:cx
 K:aJ
 mg:Str->Option Value
 base:Heap
 A:dC
 N:List Str
 s₀:aE
 H₀:Hp
 env:Env
 outer:List Env
 stack:List Env
 ex:List Addr
 fn:Str->Bool
 calm:Bool
 pn:List (Addr×Obj)
 xe:Value->aE->Prop
abbrev Hi(l:List Env):List Addr:=l.filterMap (·.frame)
@[reducible]def Cx.fs(X:Cx):List Addr:=Hi X.outer
abbrev Up(sc:kg)(x:Str):Prop:=sc.names.lookup x=ξ .local\/sc.names.lookup x=ξ .cell\/sc.names.lookup x=ξ .free
abbrev Loc(sc:kg)(x:Str):Prop:=sc.names.lookup x=ξ .local\/sc.names.lookup x=ξ .cell
abbrev Look(env:Env)(h:Heap)(m:Str->Option Value)(x:Str)(u:Value):Prop:=
 (env.kindOf x=ξ .local/\m x=ξ u)\/((env.kindOf x=ξ .cell\/env.kindOf x=ξ .free)/\∃c,env.cells.lookup x=ξ c/\h.IsCell c (ξ u))
structure Cx.Ok(X:Cx):Prop where
 mod:Mod X.K X.mg X.base
 kind:X.env.scope.kind=.function
 glob:X.env.globals=bL
 blt:X.env.builtins=B6
 above:X.s₀.heap.objs.size<=X.env.locals
 inj:∀x y c,X.env.cells.lookup x=ξ c->X.env.cells.lookup y=ξ c->x=y
 has:∀x,(X.env.kindOf x=ξ .cell\/X.env.kindOf x=ξ .free)->∃c,X.env.cells.lookup x=ξ c
 Uq:∀x c,X.fn x=ζ->X.env.cells.lookup x=ξ c->X.s₀.heap.objs.size<=c
 hd:X.calm=ζ->X.A.handled=ψ
 frames:X.A.frames=ξ X.stack
 XJ:X.stack=X.outer\/(X.stack=X.env::X.outer/\X.env.frame=ξ X.env.locals)
 exf:∀b∈X.ex,b≠X.env.locals/\∀x c,X.env.cells.lookup x=ξ c->c≠b
 bs:∀b o,X.base.get? b=ξ o->X.s₀.heap.get? b=ξ o/\X.H₀ b=ψ
 LQ:X.base.objs.size<=X.s₀.heap.objs.size
 HL:∀b o,X.base.get? b=ξ o->b∉X.ex
 LR:∀b∈X.ex,b∉X.fs
 uh:X.s₀.heap.FunFrames X.base X.outer
 Po:∀b∈X.fs,X.H₀ b=ψ
structure Inv(X:Cx)(pZ:List (Addr×Obj))(σ:List (Option V))(H:Hp)(s:aE):Prop where
 ok:X.Ok
 os:s.os=X.s₀.os
 bare:qw s.gens
 base:Un X.fs X.ex X.H₀ H X.s₀.heap s.heap
 loc:∃m,s.heap.Ns X.env.locals m/\∀(i:Nat)(x:Str)(v:V),X.N[i]?=ξ x->σ[i]?=ξ (ξ v)->Up X.env.scope x->∃u,RelV v u/\Look X.env s.heap m x u
 cell:∀x c,X.env.cells.lookup x=ξ c->∃v,s.heap.IsCell c v
 free:H X.env.locals=ψ
 qj:∀x c,X.env.cells.lookup x=ξ c->H c=ψ
 pin:∀p∈X.pn++pZ,s.heap.get? p.1=ξ p.2/\H p.1=ψ/\p.1≠X.env.locals/\p.1∉X.fs/\∀v,p.2.data≠.cell v
 dE:qc X.prog X.w H s.heap
 len:σ.length=X.N.length
section
variable{X:Cx}{pZ:List (Addr×Obj)}{σ:List (Option V)}{H H':Hp}{s:aE}{h':Heap}
def Cx.Ok.Yp(ok:X.Ok)(e:X.base.get? b=ξ o):b∉X.fs:=λhb=>by
 have:=(ok.uh.mem hb).1;rw[e] at this;cases this
def Inv.bs(I:Inv X pZ σ H s):∀b o,X.base.get? b=ξ o->s.heap.get? b=ξ o/\H b=ψ:=λb o e=>
 #[I.base.keep b o (I.ok.bs b o e).1 (I.ok.bs b o e).2 (I.ok.Yp e) (I.ok.HL b o e),I.base.free b o (I.ok.bs b o e).1 (I.ok.bs b o e).2 (I.ok.HL b o e)]
def Inv.bk(I:Inv X pZ σ H s):∀b o,X.base.get? b=ξ o->s.heap.get? b=ξ o:=λb o e=>(I.bs b o e).1
def Inv.mod(I:Inv X pZ σ H s):Mod X.K X.mg X.base:=I.ok.mod
def Inv.yB(I:Inv X pZ σ H s):X.K.In s.heap:=I.ok.mod.Uo.keeps I.bk
def Inv.fr(I:Inv X pZ σ H s):∃m,Fr X.base X.env.locals s.heap m:=
 let ⟨m,hn,_⟩:=I.loc
 #[m,hn,I.bk,aH I.ok.LQ I.ok.above]
def Inv.lt(I:Inv X pZ σ H s):X.env.locals<s.heap.objs.size:=let ⟨_,hn,_⟩:=I.loc;hn.lt
def Inv.sz(I:Inv X pZ σ H s):X.s₀.heap.objs.size<=s.heap.objs.size:=aH I.ok.above (bQ I.lt)
def Inv.Yq(I:Inv X pZ σ H s)(h:s.heap.objs.size<=a):a∉X.fs:=λhb=>by
 let#[_,o,ho,_]:=I.ok.uh.mem hb;erw[absurd (au (aO ho) (aH I.sz h)) (dj _)]
def Inv.Pp(I:Inv X pZ σ H s):∀x c,X.env.cells.lookup x=ξ c->c≠X.env.locals:=λx c e z=>by
 let#[v,o,ho,hd]:=I.cell x c e;let#[m,#[o',es,ep,ho',hd',_],_]:=I.loc;rw[z,ho'] at ho;cases ho;rw[hd'] at hd;cases hd
def Inv.uh(I:Inv X pZ σ H s):s.heap.FunFrames X.base X.outer:=by
 have all:∀(l:List Env),(∀b∈Hi l,b∈X.fs)->X.s₀.heap.FunFrames X.base l->s.heap.FunFrames X.base l:=by
  intro l;induction l with
  |nil=>intro _ _;trivial
  |cons env r ih=>
   intro hs hl;let#[hk,#[L,o,hf,hn,ho,hd],hr]:=hl;have hL:L∈X.fs:=hs L (by unfold Hi;rw[bu,hf];erw[aN]);let#[sl,e]:=I.base.slot L o ho (I.ok.Po L hL) hL λz=>I.ok.LR L z hL
   exact#[hk,#[L,_,hf,hn,e,hd],ih (λb hb=>hs b (by unfold Hi;rw[bu,hf];erw[av _ hb])) hr]
 erw[all X.outer (λ_ hb=>hb) I.ok.uh]
def Inv.stack(I:Inv X pZ σ H s):s.heap.FunFrames X.base X.stack:=by
 rcases I.ok.XJ with e|⟨e,hf⟩
 .rw[e];erw[I.uh]
 .rw[e]
  let#[m,hn,_]:=I.loc;rwa[.cons (by rw[I.ok.kind];decide) hf hn ?_ I.uh];erw[Heap.get?_none_of_le (aH I.ok.LQ I.ok.above)]
def Inv.yC(I:Inv X pZ σ H s):∀b∈Hi X.stack,b∈X.env.locals::X.fs:=λb hb=>by
 rcases I.ok.XJ with e|⟨e,hf⟩
 .rw[e] at hb;erw[av _ hb]
 .rw[e] at hb
  unfold Hi at hb;rw[bu,hf] at hb;erw[hb]
def Inv.DN(I:Inv X pZ σ H s):∀b∈Hi X.stack,H b=ψ:=λb hb=>by
 rcases aM.mp (I.yC b hb) with e|hb
 .rw[e];erw[I.free]
 .let#[_,o,ho,_]:=I.ok.uh.mem hb
  erw[I.base.free b o ho (I.ok.Po b hb) λz=>I.ok.LR b z hb]
def Inv.step{g':Array GenState}{t':Nat}{d':Drawn}{ch:List Addr}(I:Inv X pZ σ H s)
  (hch:∀b∈ch,(b∈X.ex\/X.s₀.heap.objs.size<=b)/\b≠X.env.locals/\(∀x c,X.env.cells.lookup x=ξ c->c≠b)/\∀p∈X.pn++pZ,p.1≠b)
  (keep:∀b o,b≠X.env.locals->b∉X.fs->b∉ch->s.heap.get? b=ξ o->H b=ψ->h'.get? b=ξ o)
  (slot:∀b o,b≠X.env.locals->b∈X.fs->b∉ch->s.heap.get? b=ξ o->H b=ψ->∃sl,h'.get? b=ξ {o with slots:=sl}) (free:∀b o,b∉ch->s.heap.get? b=ξ o->H b=ψ->H' b=ψ)
  (there:∀b o,b∉ch->s.heap.get? b=ξ o->∃o',h'.get? b=ξ o')
  (Aw:∀b xs,H b=ξ (.tup xs)->H' b=ξ (.tup xs)) (yz:∀b o u,H b=ξ (.sC o u)->H' b=ξ (.sC o u)) (Ax:∀b ps,H b=ξ (.Pn ps)->∃more,H' b=ξ (.Pn (ps++more)))
  (ns:∀m,s.heap.Ns X.env.locals m->h'.Ns X.env.locals m) (dE:qc X.prog X.w H' h') (hg:qw g'):
  Inv X pZ σ H' {s with heap:=h',gens:=g',drawn:=d',toks:=t'}:=by
 have neL:∀b o,X.s₀.heap.get? b=ξ o->b≠X.env.locals:=λb o e=>aV (au (aO e) I.ok.above)
 have neC:∀b o,X.s₀.heap.get? b=ξ o->b∉X.ex->b∉ch:=λb o e hx hb=>by
  rcases(hch b hb).1 with z|z
  .erw[hx z]
  .erw[absurd (au (aO e) z) (dj _)]
 have cellK:∀x c,X.env.cells.lookup x=ξ c->∀v,s.heap.IsCell c v->h'.IsCell c v:=λx c e v #[o,ho,hd]=>by
  have nch:c∉ch:=λz=>(hch c z).2.2.1 x c e rfl
  by_cases hc:c∈X.fs
  .let#[sl,q]:=slot c o (I.Pp x c e) hc nch ho (I.qj x c e)
   exact#[_,q,hd]
  .exact#[o,keep c o (I.Pp x c e) hc nch ho (I.qj x c e),hd]
 refine#[I.ok,I.os,hg,#[λb o e n hb hx=>?_,λb o e n hb hx=>?_,λb o e n hx=>?_,λb o e hx=>?_,λb xs e=>Aw b xs (I.base.Aw b xs e),λb o xs e=>yz b o xs (I.base.yz b o xs e),λb ps e=>?_],?_,λx c e=>?_,?_,λx c e=>?_,λp hp=>?_,dE,I.len]
 .erw[keep b o (neL b o e) hb (neC b o e hx) (I.base.keep b o e n hb hx) (I.base.free b o e n hx)]
 .let#[sl,e1]:=I.base.slot b o e n hb hx
  let#[sl',e2]:=slot b _ (neL b o e) hb (neC b o e hx) e1 (I.base.free b o e n hx);exact#[sl',e2]
 .let#[o',e1]:=I.base.there b o e hx
  erw[free b o' (neC b o e hx) e1 (I.base.free b o e n hx)]
 .let#[o',e1]:=I.base.there b o e hx
  erw[there b o' (neC b o e hx) e1]
 .let#[m1,e1]:=I.base.Ax b ps e
  let#[m2,e2]:=Ax b _ e1;exact#[m1++m2,by rw[e2,Array.append_assoc]]
 .let#[m,hn,hl]:=I.loc
  refine#[m,ns m hn,λi x v e1 e2 e3=>?_];let#[u,r,l]:=hl i x v e1 e2 e3;refine#[u,r,?_];rcases l with l|⟨k,c,e,z⟩
  .erw[.inl l]
  .erw[.inr #[k,c,e,cellK x c e _ z]]
 .let#[v,z]:=I.cell x c e
  exact#[v,cellK x c e v z]
 .let#[m,#[o,_,_,ho,_],_]:=I.loc
  erw[free _ o (λz=>(hch _ z).2.1 rfl) ho I.free]
 .let#[v,o,ho,hd]:=I.cell x c e
  erw[free c o (λz=>(hch c z).2.2.1 x c e rfl) ho (I.qj x c e)]
 .let#[e,n,ne,nf,d]:=I.pin p hp
  have nch:p.1∉ch:=λz=>(hch p.1 z).2.2.2 p hp rfl
  exact#[keep p.1 p.2 ne nf nch e n,free p.1 p.2 nch e n,ne,nf,d]
def Inv.un{t':Nat}(I:Inv X pZ σ H s)(u:Un X.fs [] H H' s.heap h')(dE:qc X.prog X.w H' h'):Inv X pZ σ H' {s with heap:=h',toks:=t'}:=by
 let#[m,#[o,es,ep,ho,r],_]:=id I.loc;let#[sl,hL]:=u.any ho I.free (#v[]);exact I.step (g':=s.gens) (d':=s.drawn) (ch:=[]) (λ_ z=>nomatch z) (λb o _ hb _ e n=>u.keep b o e n hb (#v[])) (λb o _ hb _ e n=>u.slot b o e n hb (#v[])) (λb o _ e n=>u.free b o e n (#v[])) (λb o _ e=>u.there b o e (#v[])) u.Aw u.yz u.Ax (λm' hm=>by
  let#[o',es',ep',ho',r']:=hm;rw[ho] at ho';cases ho';exact#[_,es',ep',hL,r']) dE I.bare
def Inv.call{g':Array GenState}{t':Nat}{d':Drawn}{ch:List Addr}(I:Inv X pZ σ H s)(u:Un (Hi X.stack) ch H H' s.heap h')(dE:qc X.prog X.w H' h')(hg:qw g')
  (hch:∀b∈ch,(b∈X.ex\/X.s₀.heap.objs.size<=b)/\b≠X.env.locals/\(∀x c,X.env.cells.lookup x=ξ c->c≠b)/\∀p∈X.pn++pZ,p.1≠b):
  Inv X pZ σ H' {s with heap:=h',gens:=g',drawn:=d',toks:=t'}:=by
 let#[m,#[o,es,ep,ho,r],_]:=id I.loc;let#[sl,hL]:=u.any ho I.free λz=>(hch _ z).2.1 rfl
 exact I.step (ch:=ch) hch (λb o hL hb hc e n=>u.keep b o e n (λz=>(aM.mp (I.yC b z)).elim hL hb) hc) (λb o _ _ hc e n=>u.any e n hc) (λb o hc e n=>u.free b o e n hc) (λb o hc e=>u.there b o e hc) u.Aw u.yz u.Ax (λm' hm=>by
  let#[o',es',ep',ho',r']:=hm;rw[ho] at ho';cases ho';exact#[_,es',ep',hL,r']) dE hg
def Inv.turned{t':Nat}{it:Addr}(I:Inv X pZ σ H s)(k:∀b o,b≠it->s.heap.get? b=ξ o->h'.get? b=ξ o)(hn:H it=ψ)(hL:it≠X.env.locals)
  (h1:it∈X.ex\/X.s₀.heap.objs.size<=it) (h2:∀x c,X.env.cells.lookup x=ξ c->c≠it) (h3:∀p∈X.pn++pZ,p.1≠it):Inv X pZ σ H {s with heap:=h',toks:=t'}:=by
 have nit:∀b u,H b=ξ u->b≠it:=λb u e z=>by rw[z,hn] at e;cases e
 refine I.step (g':=s.gens) (d':=s.drawn) (ch:=[it]) (λb hb=>?_) (λb o _ _ hc e _=>k b o (λz=>hc (by simp[z])) e) (λb o _ _ hc e _=>#[o.slots,k b o (λz=>hc (by simp[z])) e]) (λ_ _ _ _ n=>n)
  (λb o hc e=>#[o,k b o (λz=>hc (by simp[z])) e]) (λ_ _ e=>e) (λ_ _ _ e=>e) (λb ps e=>#[#[],by rw[e];simp]) (λm hm=>?_) (λb u e=>?_) I.bare
 .have e:b=it:=by simpa using hb
  subst e;exact#[h1,hL,h2,h3]
 .let#[o,es,ep,ho,r]:=hm
  exact#[o,es,ep,k _ o (cM hL) ho,r]
 .refine(I.dE b u e).wH (λc v hc q=>k c v ?_ q) (λ_ q=>q) λ_ _ q=>q
  rcases hc with z|z
  .rw[z];erw[nit b u e]
  .erw[nit c _ z]
def Inv.tok(I:Inv X pZ σ H s)(t:Nat):Inv X pZ σ H {s with toks:=t}:=I.un (h':=s.heap) (t':=t) Un.refl I.dE
def Inv.kept{t':Nat}(I:Inv X pZ σ H s)(k:∀b u,s.heap.get? b=ξ u->h'.get? b=ξ u):Inv X pZ σ H {s with heap:=h',toks:=t'}:=I.un (Un.kept k) (I.dE.kept k)
def Inv.laid{a:Addr}{o:HO}{t':Nat}(I:Inv X pZ σ H s)(k:∀b u,s.heap.get? b=ξ u->h'.get? b=ξ u)(hp:s.heap.objs.size<=a)(new:dM X.prog X.w (upd H a o) h' a o):
  Inv X pZ σ (upd H a o) {s with heap:=h',toks:=t'}:=I.un (Un.laid k hp (I.dE.fresh hp)) (I.dE.laid k hp new)
def Inv.write(I:Inv X pZ σ H s)(mu:T1 (H x))(he:e=x\/H e=ξ (.own x))(k:∀b u,b≠e->s.heap.get? b=ξ u->h'.get? b=ξ u)(heo:∃u,h'.get? e=ξ u)
  (new:dM X.prog X.w (upd H x o) h' x o):Inv X pZ σ (upd H x o) {s with heap:=h',toks:=t'}:=I.un (Un.write mu he k heo) (I.dE.write mu he k heo new)
def Inv.DO(I:Inv X pZ σ H s)(h:∀p∈pins',s.heap.get? p.1=ξ p.2/\H p.1=ψ/\p.1≠X.env.locals/\p.1∉X.fs/\∀v,p.2.data≠.cell v):Inv X pins' σ H s:=
 #[I.ok,I.os,I.bare,I.base,I.loc,I.cell,I.free,I.qj,λp hp=>(aL.mp hp).elim (λz=>I.pin p (bj _ z)) (h p),I.dE,I.len]
def Az{N:List Str}(hN:N.Nodup){i j:Nat}{x:Str}(a:N[i]?=ξ x)(b:N[j]?=ξ x):i=j:=by
 let#[h1,e1]:=ag.mp a;let#[h2,e2]:=ag.mp b;exact(Lm hN).mp (e1.trans e2.symm)
def xq{M:Model}{A:dC}{E:Value->aE->Prop}{i:Nat}{x:Str}{v:V}{u:Value}{Q:Unit->aE->Prop}(I:Inv X pZ σ H s)(hN:X.N.Nodup)(hi:X.N[i]?=ξ x)(hx:Loc X.env.scope x)(r:RelV v u)
  (h:∀s',Inv X pZ (σ.set i (ξ v)) H s'->(∃a,gC a s.heap s'.heap/\(a=X.env.locals\/X.env.cells.lookup x=ξ a))->Q () s') (hf:X.fn x=ζ\/X.env.scope.names.lookup x=ξ .local:=by first|exact .inl rfl|exact .inr rfl|assumption):wpAny M A (storeName X.env x u) Q E s:=by
 let#[m,hn,hl]:=id I.loc;have hcls:(X.env.scope.kind==.class||(X.env.scope.kind==.module&&X.env.locals !=X.env.globals))=ϑ:=by rw[I.ok.kind];rfl
 have hiσ:i<σ.length:=by rw[I.len];exact(ag.mp hi).1
 have Pp:=I.Pp;have tracked:∀{a:Addr}{h':Heap},(∃o,s.heap.get? a=ξ o/\H a=ψ)->gC a s.heap h'->qc X.prog X.w H h':=λ{a h'}ha hs b ob e=>by
  let#[_,_,hfree]:=ha;refine(I.dE b ob e).wH (λc w' hc q=>(hs.2 c ?_).trans q) (λ_ q=>q) λ_ _ q=>q
  rintro rfl;rcases hc with rfl|hc
  .rw[hfree] at e;cases e
  .rw[hfree] at hc;cases hc
 rcases hx with hk|hk
 .rwa[wpAny_storeName_local hk hn (λh' hn' hs=>?_) hcls]
  let#[oL,_,_,hoL,_]:=id hn;refine h _ #[I.ok,I.os,I.bare,#[λb o e n hb hx=>?_,λb o e n hb hx=>?_,I.base.free,λb o e hx=>?_,I.base.Aw,I.base.yz,I.base.Ax],#[_,hn',λj y v' e1 e2 e3=>?_],λy c e=>?_,I.free,I.qj,λp hp=>?_,tracked #[oL,hoL,I.free] hs,~~~I.len] #[_,hs,.inl rfl]
  .exact(hs.2 b (aV (au (aO e) I.ok.above))).trans (I.base.keep b o e n hb hx)
  .let#[sl,e1]:=I.base.slot b o e n hb hx
   exact#[sl,(hs.2 b (aV (au (aO e) I.ok.above))).trans e1]
  .let#[o',e1]:=I.base.there b o e hx
   exact#[o',(hs.2 b (aV (au (aO e) I.ok.above))).trans e1]
  .by_cases hj:j=i
   .subst hj
    rw[hi] at e1;cases e1;rw[bA hiσ] at e2;cases e2;exact#[u,r,.inl #[hk,#v[]]]
   .rw[ao (cM hj)] at e2
    let#[u',r',q]:=hl j y v' e1 e2 e3;refine#[u',r',?_];rcases q with⟨k,e⟩|⟨k,c,e,z⟩
    .rwa[.inl #[k,?_]]
     have:y≠x:=λe=>hj (Az hN e1 (e▸hi))
     simp[this,e]
    .erw[.inr #[k,c,e,z.sameBut hs (Pp y c e)]]
  .let#[w',z]:=I.cell y c e
   exact#[w',z.sameBut hs (Pp y c e)]
  .let#[e,n,ne,nf,d]:=I.pin p hp
   exact#[(hs.2 p.1 ne).trans e,n,ne,nf,d]
 .have hfn:X.fn x=ζ:=by
   rcases hf with z|z
   .erw[z]
   .rw[z] at hk;cases hk
  let#[c,hc]:=I.ok.has x (.inl hk);let#[w',z]:=I.cell x c hc;rwa[wpAny_storeName_cell I.ok.kind hk hc z (λh' hc' hs=>?_)];let#[oc,hoc,hocd]:=id z;refine h {s with heap:=h'} #[I.ok,I.os,I.bare,#[λb o e n hb hx=>?_,λb o e n hb hx=>?_,I.base.free,λb o e hx=>?_,I.base.Aw,I.base.yz,I.base.Ax],#[m,hn.sameBut hs (cM (Pp x c hc)),λj y v' e1 e2 e3=>?_],λy c' e=>?_,I.free,I.qj,λp hp=>?_,tracked #[oc,hoc,I.qj x c hc] hs,~~~I.len] #[c,hs,.inr hc]
  .exact(hs.2 b (aV (au (aO e) (I.ok.Uq x c hfn hc)))).trans (I.base.keep b o e n hb hx)
  .let#[sl,e1]:=I.base.slot b o e n hb hx
   exact#[sl,(hs.2 b (aV (au (aO e) (I.ok.Uq x c hfn hc)))).trans e1]
  .let#[o',e1]:=I.base.there b o e hx
   exact#[o',(hs.2 b (aV (au (aO e) (I.ok.Uq x c hfn hc)))).trans e1]
  .by_cases hj:j=i
   .subst hj
    rw[hi] at e1;cases e1;rw[bA hiσ] at e2;cases e2;exact#[u,r,.inr #[.inl hk,c,hc,hc']]
   .rw[ao (cM hj)] at e2
    let#[u',r',q]:=hl j y v' e1 e2 e3;refine#[u',r',?_];rcases q with q|⟨k,c',e,z'⟩
    .erw[.inl q]
    .rwa[.inr #[k,c',e,z'.sameBut hs ?_]]
     rintro rfl;erw[hj (Az hN e1 (I.ok.inj _ _ _ e hc▸hi))]
  .by_cases hcc:c'=c
   .subst hcc;exact#[_,hc']
   .let#[w2,z2]:=I.cell y c' e
    exact#[w2,z2.sameBut hs hcc]
  .let#[e,n,ne,nf,d]:=I.pin p hp
   refine#[(hs.2 p.1 ?_).trans e,n,ne,nf,d];intro q;rw[q,hoc] at e;have q':oc=p.2:=aK e;erw[d w' (by rw[<-q'];exact hocd)]
def rn{M:Model}{A:dC}{E:Value->aE->Prop}{i:Nat}{x:Str}{v:V}{u:Value}{Q:Unit->aE->Prop}(I:Inv X pZ σ H s)(hN:X.N.Nodup)(hi:X.N[i]?=ξ x)(hx:Loc X.env.scope x)(r:RelV v u)
  (h:∀s',Inv X pZ (σ.set i (ξ v)) H s'->Q () s') (hf:X.fn x=ζ\/X.env.scope.names.lookup x=ξ .local:=by first|exact .inl rfl|exact .inr rfl|assumption):wpAny M A (storeName X.env x u) Q E s:=
 xq I hN hi hx r (λs' I' _=>h s' I') hf
def Inv.Ur(I:Inv X pZ σ H s)(ho:s'.os=s.os)(u:Un (Hi X.stack) ch H H' s.heap s'.heap)(dE:qc X.prog X.w H' s'.heap)(hg:qw s'.gens)
  (hch:∀b∈ch,(b∈X.ex\/X.s₀.heap.objs.size<=b)/\b≠X.env.locals/\(∀x c,X.env.cells.lookup x=ξ c->c≠b)/\∀p∈X.pn++pZ,p.1≠b):Inv X pZ σ H' s':=by
 let#[h',g',d',t',o']:=s';have e:o'=s.os:=ho;subst e;erw[I.call (g':=g') (t':=t') (d':=d') u dE hg hch]
end
@[reducible]def XK:=Value->Option Addr->Hp->Prop
@[reducible]def St:=List (Option V)
@[reducible]def VK:=V->Hp->Prop
@[reducible]def TE:=St->Hp->VK->Prop
@[reducible]def TT:=St->Hp->(Bool->Hp->Prop)->Prop
@[reducible]def TA:=St->Hp->(List V->Hp->Prop)->Prop
structure Ends where
 nx:St->Hp->Prop
 rt:VK
 bk:St->Hp->Prop:=λ_ _=>False
 ct:St->Hp->Prop:=λ_ _=>False
@[reducible]def TS:=Ends->St->Hp->Prop
abbrev EP(X:Cx)(pZ:List (Addr×Obj))(σ:St)(Q:VK)(u:Value)(s':aE):Prop:=∃v H',Inv X pZ σ H' s'/\RelV v u/\Q v H'
abbrev TP(X:Cx)(pZ:List (Addr×Obj))(σ:St)(Q:Bool->Hp->Prop)(b:Bool)(s':aE):Prop:=∃H',Inv X pZ σ H' s'/\Q b H'
abbrev AP(X:Cx)(pZ:List (Addr×Obj))(σ:St)(Q:List V->Hp->Prop)(us:List Value)(s':aE):Prop:=∃vs H',Inv X pZ σ H' s'/\Vals vs us/\Q vs H'
abbrev SP(X:Cx)(pZ:List (Addr×Obj))(D:Ends)(f:Flow)(s':aE):Prop:=
 match f with
 |.next=>∃σ' H',Inv X pZ σ' H' s'/\D.nx σ' H'
 |.brk=>∃σ' H',Inv X pZ σ' H' s'/\D.bk σ' H'
 |.cont=>∃σ' H',Inv X pZ σ' H' s'/\D.ct σ' H'
 |.ret u=>∃v σ' H',Inv X pZ σ' H' s'/\RelV v u/\D.rt v H'
abbrev PE(X:Cx)(e:Expr)(t:TE):Prop:=
 ∀(pZ:List (Addr×Obj))(s:aE)(σ:St)(H:Hp)(Q:VK),Inv X pZ σ H s->t σ H Q->wpAny (bf X.prog X.w) X.A (eval e X.env) (EP X pZ σ Q) X.xe s
abbrev PT(X:Cx)(e:Expr)(t:TT):Prop:=
 ∀(pZ:List (Addr×Obj))(s:aE)(σ:St)(H:Hp)(Q:Bool->Hp->Prop),Inv X pZ σ H s->t σ H Q->wpAny (bf X.prog X.w) X.A (isTrue e X.env (eval e X.env)) (TP X pZ σ Q) X.xe s
abbrev PW(X:Cx)(e:Expr)(t:TT):Prop:=
 ∀(whole:Sem Value)(pZ:List (Addr×Obj))(s:aE)(σ:St)(H:Hp)(Q:Bool->Hp->Prop),Inv X pZ σ H s->t σ H Q->wpAny (bf X.prog X.w) X.A (isTrue e X.env whole) (TP X pZ σ Q) X.xe s
def PW.pt{X:Cx}{e:Expr}{t:TT}(h:PW X e t):PT X e t:=h _
abbrev PA(X:Cx)(es:List Expr)(t:TA):Prop:=
 ∀(pos:Pos)(pZ:List (Addr×Obj))(s:aE)(σ:St)(H:Hp)(Q:List V->Hp->Prop),Inv X pZ σ H s->t σ H Q->wpAny (bf X.prog X.w) X.A (spliced (fN pos (bz es X.env))) (AP X pZ σ Q) X.xe s
abbrev PS(X:Cx)(st:Stmt)(t:TS):Prop:=
 ∀(pZ:List (Addr×Obj))(s:aE)(σ:St)(H:Hp)(D:Ends),Inv X pZ σ H s->t D σ H->wpAny (bf X.prog X.w) X.A (exec st X.env) (SP X pZ D) X.xe s
abbrev uz(X:Cx)(st:List Stmt)(t:TS):Prop:=
 ∀(pZ:List (Addr×Obj))(s:aE)(σ:St)(H:Hp)(D:Ends),Inv X pZ σ H s->t D σ H->wpAny (bf X.prog X.w) X.A (execs st X.env) (SP X pZ D) X.xe s
def eG{α:Type}{t:Sem α}{Q Q':α->aE->Prop}{M:Model}{A:dC}{E:Value->aE->Prop}{s:aE}(h:wpAny M A t Q E s)(hQ:∀a s,Q a s->Q' a s):wpAny M A t Q' E s:=fU h hQ λ_ _ x=>x
section
variable{X:Cx}
abbrev Yr(i:Nat):TE:=λσ H Q=>∃v,σ[i]?=ξ (ξ v)/\Q v H
abbrev tC(v:V):TE:=λ_ H Q=>Q v H
def Pq(hN:X.N[i]?=ξ x)(hv:Up X.env.scope x)(hd:(x==("__debug__":Str))=ϑ:=by decide)(hcd:(x==("__classdict__":Str))=ϑ:=by decide):PE X (.Name x pos) (Yr i):=by
 k_ne;let#[v,e,h]:=h;let#[m,hn,hl]:=I.loc;let#[u,r,l]:=hl i x v hN e hv;have fin:EP X pZ σ Q u s:=#[v,H,I,r,h]
 rcases l with⟨hk,hm⟩|⟨hk,c,hc,hcell⟩
 .erw[wpAny_Name (LI I.ok.kind hk hn hm fin) hd]
 .rcases hk with hk|hk
  .erw[wpAny_Name (wpAny_loadName_cell I.ok.kind hk hc hcell fin) hd]
  .erw[wpAny_Name (wpAny_loadName_free I.ok.kind hk hc hcell fin hcd) hd]
def Pr{i j pos}:PE X (.Constant (.int i) j pos) (tC (.int i)):=λ_ _ _ H _ I h=>wpAny_Constant_int #[.int i,H,I.tok _,#[_,rfl],h]
def Us{b j pos}:PE X (.Constant (.bool b) j pos) (tC (.bl b)):=λ_ _ _ H _ I h=>Constant_bool #[.bl b,H,I,rfl,h]
def Pt{j pos}:PE X (.Constant .none j pos) (tC .cf):=λ_ _ _ H _ I h=>Constant_none #[.cf,H,I,rfl,h]
def Pu{x j pos}:PE X (.Constant (.str x) j pos) (tC (.str x)):=λ_ _ _ H _ I h=>Calls.Constant_str #[.str x,H,I.tok _,#[_,rfl],h]
abbrev Gl(X:Cx)(x:Str):Prop:=X.env.kindOf x=ξ .globalImplicit
def rq{E:Value->aE->Prop}{pZ:List (Addr×Obj)}{s:aE}{σ:St}{H:Hp}{x:Str}{u:Value}{pos:Pos}{Q:Value->aE->Prop}(I:Inv X pZ σ H s)(hg:Gl X x)(hm:X.mg x=ξ u)(h:Q u s)
  (hd:(x==("__debug__":Str))=ϑ:=by decide):wpAny (bf X.prog X.w) X.A (eval (.Name x pos) X.env) Q E s:=
 wz I.ok.kind hg (Calls.loadGlobal_global (%[I.ok.glob|I.mod.glob.keeps I.bk]) hm h) hd
def mr{E:Value->aE->Prop}{pZ:List (Addr×Obj)}{s:aE}{σ:St}{H:Hp}{x:Str}{u:Value}{pos:Pos}{Q:Value->aE->Prop}(I:Inv X pZ σ H s)(hg:Gl X x)(hm:X.mg x=ψ)(hv:kf x=ξ u)(h:Q u s)
  (hn:x≠"__name__":=by decide) (hd:(x==("__debug__":Str))=ϑ:=by decide):wpAny (bf X.prog X.w) X.A (eval (.Name x pos) X.env) Q E s:=by
 let#[mb,h1,h2]:=I.mod.blt;erw[wz I.ok.kind hg (Calls.loadGlobal_builtin (by rw[I.ok.glob];exact I.mod.glob.keeps I.bk) hm (by rw[I.ok.blt];exact h1.keeps I.bk) ((h2 x hn).trans hv) h) hd]
def LS{x:Str}{v:V}{u:Value}{pos:Pos}(hg:Gl X x)(hm:X.mg x=ξ u)(r:RelV v u)(hd:(x==("__debug__":Str))=ϑ:=by decide):PE X (.Name x pos) (tC v):=
 λ_ _ _ H _ I h=>rq I hg hm #[v,H,I,r,h] hd
def LU(hg:Gl X x)(hm:X.mg x=ψ)(hv:kf x=ξ u)(r:RelV v u)(hn:x≠"__name__":=by decide)(hd:(x==("__debug__":Str))=ϑ:=by decide):PE X (.Name x pos) (tC v):=
 λ_ _ _ H _ I h=>mr I hg hm hv #[v,H,I,r,h] hn hd
variable{a b:Expr}{ta tb:TE}{pos:Pos}
variable{tA tB':TT}{rest:List Expr}
abbrev Ys(t u:TT):TT:=λσ H Q=>t σ H λc H1=>if c=ζ then u σ H1 Q else Q ϑ H1
abbrev tOr(t u:TT):TT:=λσ H Q=>t σ H λc H1=>if c=ζ then Q ζ H1 else u σ H1 Q
abbrev Yt(t:TT):TT:=λσ H Q=>t σ H λc H1=>Q (!c) H1
def LV(ha:PT X a tA):PW X (.BoolOp .And [a] pos) tA:=by
 intro wh pZ s σ H Q I h;rwa[isTrue_and (eG (ha pZ s σ H Q I h) λc s1 e=>?_)];cases c with
 |true=>erw[isTrue_and_nil e]
 |false=>erw[e]
def Pw(ha:PT X a tA):PW X (.BoolOp .Or [a] pos) tA:=by
 intro wh pZ s σ H Q I h;rwa[isTrue_or (eG (ha pZ s σ H Q I h) λc s1 e=>?_)];cases c with
 |false=>erw[isTrue_or_nil e]
 |true=>erw[e]
def Px(ha:PT X a tA)(hb:PW X (.BoolOp .And (b::rest) pos) tB'):PW X (.BoolOp .And (a::b::rest) pos) (Ys tA tB'):=by
 intro wh pZ s σ H Q I h;rwa[isTrue_and (eG (ha pZ s σ H _ I h) λc s1 h9=>?_)];let#[H1,I1,q1]:=h9;cases c with
 |true=>erw[hb wh pZ s1 σ H1 Q I1 q1]
 |false=>exact#[H1,I1,q1]
def Ut(ha:PT X a tA)(hb:PW X (.BoolOp .Or (b::rest) pos) tB'):PW X (.BoolOp .Or (a::b::rest) pos) (tOr tA tB'):=by
 intro wh pZ s σ H Q I h;rwa[isTrue_or (eG (ha pZ s σ H _ I h) λc s1 h9=>?_)];let#[H1,I1,q1]:=h9;cases c with
 |true=>exact#[H1,I1,q1]
 |false=>erw[hb wh pZ s1 σ H1 Q I1 q1]
def Py(ha:PT X a tA):PT X (.UnaryOp .Not a pos) (Yt tA):=by
 k_ne;erw[isTrue_not (ha pZ s σ H (λc H1=>Q (!c) H1) I h)]
abbrev Uu(ta tb:TE):TE:=λσ H Q=>ta σ H λx H1=>∃c,x=.bl c/\if c=ζ then tb σ H1 Q else Q (.bl ϑ) H1
abbrev Yu(ta tb:TE):TE:=λσ H Q=>ta σ H λx H1=>∃c,x=.bl c/\if c=ζ then Q (.bl ζ) H1 else tb σ H1 Q
abbrev Uv(ta:TE):TE:=λσ H Q=>ta σ H λx H1=>∃c,x=.bl c/\Q (.bl (!c)) H1
def Pz{op}(h:PE X a t):PE X (.BoolOp op [a] pos) t:=λpZ s σ H Q I hw=>BoolOp_one (h pZ s σ H Q I hw)
def PB(ha:PE X a ta)(hb:PE X (.BoolOp .And (b::rest) pos) tb):PE X (.BoolOp .And (a::b::rest) pos) (Uu ta tb):=by
 k_ne;rwa[BoolOp_and (eG (ha pZ s σ H _ I h) λv s1 h9=>?_)];let#[x,H1,I1,r1,q1]:=h9;let#[c,rfl,q1]:=q1;cases r1;rwa[cP ?_];cases c with
 |true=>erw[hb pZ s1 σ H1 Q I1 q1]
 |false=>exact#[.bl ϑ,H1,I1,rfl,q1]
def Uw(ha:PE X a ta)(hb:PE X (.BoolOp .Or (b::rest) pos) tb):PE X (.BoolOp .Or (a::b::rest) pos) (Yu ta tb):=by
 k_ne;rwa[BoolOp_or (eG (ha pZ s σ H _ I h) λv s1 h9=>?_)];let#[x,H1,I1,r1,q1]:=h9;let#[c,rfl,q1]:=q1;cases r1;rwa[cP ?_];cases c with
 |false=>erw[hb pZ s1 σ H1 Q I1 q1]
 |true=>exact#[.bl ζ,H1,I1,rfl,q1]
def PC(ha:PE X a ta):PE X (.UnaryOp .Not a pos) (Uv ta):=by
 k_ne;rwa[UnaryOp_ (eG (ha pZ s σ H _ I h) λv s1 h9=>?_)];let#[x,H1,I1,r1,q1]:=h9;let#[c,rfl,q1]:=q1;cases r1;erw[not_of (cP #[.bl (!c),H1,I1,rfl,q1])]
abbrev tIf(t:TT)(ta tb:TE):TE:=λσ H Q=>t σ H λc H1=>if c=ζ then ta σ H1 Q else tb σ H1 Q
def HM{c:Expr}(hc:PT X c tA)(ha:PE X a ta)(hb:PE X b tb):PE X (.IfExp c a b pos) (tIf tA ta tb):=by
 k_ne;rwa[wpAny_IfExp (eG (hc pZ s σ H _ I h) λd s1 h9=>?_)];let#[H1,I1,q1]:=h9;cases d with
 |true=>erw[ha pZ s1 σ H1 Q I1 q1]
 |false=>erw[hb pZ s1 σ H1 Q I1 q1]
end
abbrev gX(K:aJ)(H:Hp)(a:Addr)(xs:List V):Prop:=
 Rd H a (.lst xs) \/
  ∃(o:Obj)(its:Array Value)(n:Nat),K.lookup a=ξ o/\o.cls=.type "list"/\o.dict=ψ/\o.data=.seq its n/\its.size<=sizeLine/\Vals xs its.toList
abbrev oG(K:aJ)(H:Hp)(a:Addr)(xs:List V):Prop:=
 Rd H a (.tup xs) \/
  ∃(o:Obj)(its:Array Value)(n:Nat),K.lookup a=ξ o/\o.cls=.type "tuple"/\o.data=.seq its n/\its.size<=sizeLine/\Vals xs its.toList
abbrev Yv:Value->Option V
 |.none=>ξ .cf
 |.bool b=>ξ (.bl b)
 |.int i _=>ξ (.int i)
 |.str x _=>ξ (.str x)
 |.bytes b _=>ξ (.BY b)
 |.float b _=>ξ (.XI b)
 |.ref a=>ξ (.ref a)
 |.type n=>ξ (.ty n)
 |_=>ψ
def RelV.abs(r:RelV x u):Yv u=ξ x:=by
 cases x with
 |cf=>cases r;rfl
 |bl _=>cases r;rfl
 |int _=>let#[t,rfl]:=r;rfl
 |str _=>let#[t,rfl]:=r;rfl
 |BY _=>let#[t,rfl]:=r;rfl
 |XI _=>let#[t,rfl]:=r;rfl
 |ref _=>cases r;rfl
 |ty _=>cases r;rfl
def RelV.inj{x y:V}{u:Value}(r:RelV x u)(q:RelV y u):x=y:=aK (r.abs.symm.trans q.abs)
def Vals.inj:∀{xs ys:List V}{us:List Value},Vals xs us->Vals ys us->xs=ys
 |_,_,_,.nil,.nil=>rfl
 |_,_,_,.cons r t,.cons r' t'=>by rw[r.inj r',Vals.inj t t']
section
variable{X:Cx}{pZ:List (Addr×Obj)}{σ:St}{H:Hp}{s:aE}{a:Addr}{xs ys:List V}
def gX.of{K:aJ}(h:H a=ξ (.lst xs)):gX K H a xs:=.inl (.inl h)
def oG.of{K:aJ}(h:H a=ξ (.tup xs)):oG K H a xs:=.inl (.inl h)
def Inv.list(I:Inv X pZ σ H s)(h:gX X.K H a xs):∃its:List Value,Vals xs its/\PlainL s.heap a its.toArray/\xs.length<=sizeLine:=by
 rcases h with h|⟨o,its,n,hk,hc,hd,hs,hz,r⟩
 .let#[z,its,n,r,e]:=h.ok I.dE
  exact#[its,r,#[_,n,e,rfl,rfl,rfl],z]
 .refine#[its.toList,r,#[o,n,I.yB a o hk,hc,hd,~~~hs],?_]
  have e:=r.length;dsimp[DI] at e;omega
def Inv.tuple(I:Inv X pZ σ H s)(h:oG X.K H a xs):∃its:List Value,Vals xs its/\IsTup s.heap a its.toArray/\xs.length<=sizeLine:=by
 rcases h with h|⟨o,its,n,hk,hc,hs,hz,r⟩
 .let#[z,its,r,p]:=h.ok I.dE
  exact#[its,r,p,z]
 .refine#[its.toList,r,#[o,I.yB a o hk,hc,n,~~~hs],?_]
  have e:=r.length;dsimp[DI] at e;omega
def Inv.rA(I:Inv X pZ σ H s)(h:gX X.K H a xs)(h':gX X.K H a ys):xs=ys:=by
 let#[its,r,#[o,n,e,_,_,d],_]:=I.list h;let#[its',r',#[o',n',e',_,_,d'],_]:=I.list h';rw[e] at e';cases e';rw[d] at d';injection d' with d1 _
 have:its=its':=by simpa using congrArg Af d1
 subst this;erw[r.inj r']
def Inv.xr(I:Inv X pZ σ H s)(h:oG X.K H a xs)(h':oG X.K H a ys):xs=ys:=by
 let#[its,r,#[o,e,_,n,d],_]:=I.tuple h;let#[its',r',#[o',e',_,n',d'],_]:=I.tuple h';rw[e] at e';cases e';rw[d] at d';injection d' with d1 _
 have:its=its':=by simpa using congrArg Af d1
 subst this;erw[r.inj r']
end
noncomputable abbrev Cx.wI(X:Cx)(E:Value->aE->Prop):Cx:={X with xe:=E}
@[reducible]def Cx.Ux(X:Cx):Cx:=X.wI λ_ _=>False
def Cx.Ok.wI{X:Cx}(ok:X.Ok)(E:Value->aE->Prop):(X.wI E).Ok:=
 #[ok.mod,ok.kind,ok.glob,ok.blt,ok.above,ok.inj,ok.has,ok.Uq,ok.hd,ok.frames,ok.XJ,ok.exf,ok.bs,ok.LQ,ok.HL,ok.LR,ok.uh,ok.Po]
def Cx.Ok.oR{X:Cx}{E:Value->aE->Prop}(ok:(X.wI E).Ok):X.Ok:=
 #[ok.mod,ok.kind,ok.glob,ok.blt,ok.above,ok.inj,ok.has,ok.Uq,ok.hd,ok.frames,ok.XJ,ok.exf,ok.bs,ok.LQ,ok.HL,ok.LR,ok.uh,ok.Po]
section
variable{X:Cx}{pZ:List (Addr×Obj)}{σ:St}{H:Hp}{s:aE}{E:Value->aE->Prop}
def Inv.wI(I:Inv X pZ σ H s)(E:Value->aE->Prop):Inv (X.wI E) pZ σ H s:=#[I.ok.wI E,I.os,I.bare,I.base,I.loc,I.cell,I.free,I.qj,I.pin,I.dE,I.len]
def Inv.oR(I:Inv (X.wI E) pZ σ H s):Inv X pZ σ H s:=#[I.ok.oR,I.os,I.bare,I.base,I.loc,I.cell,I.free,I.qj,I.pin,I.dE,I.len]
def SP.oR(h:SP (X.wI E) pZ D f s'):SP X pZ D f s':=by
 cases f with
 |next=>let#[σ',H',I,q]:=h;exact#[σ',H',I.oR,q]
 |brk=>let#[σ',H',I,q]:=h;exact#[σ',H',I.oR,q]
 |cont=>let#[σ',H',I,q]:=h;exact#[σ',H',I.oR,q]
 |ret u=>let#[v,σ',H',I,r,q]:=h;exact#[v,σ',H',I.oR,r,q]
def uz.Ux{st:List Stmt}{t:TS}(h:uz X.Ux st t):uz X st t:=λpZ s σ H D I hw=>
 fU (h pZ s σ H D (I.wI _) hw) (λ_ _ q=>q.oR) λ_ _ z=>aZ z
end
section
variable{X:Cx}{st:Stmt}{rest:List Stmt}{t u:TS}{e:Expr}{te:TE}{pos:Pos}
abbrev Uy:TS:=λD σ H=>D.nx σ H
abbrev Yw(t u:TS):TS:=λD σ H=>t {D with nx:=u D} σ H
def LW:uz X [] Uy:=λ_ _ σ H _ I h=>qN #[σ,H,I,h]
def HN(h1:PS X st t)(h2:uz X rest u):uz X (st::rest) (Yw t u):=by
 intro pZ s σ H D I h;refine wpAny_execs_cons (eG (h1 pZ s σ H {D with nx:=u D} I h) λf s1 q=>?_);cases f with
 |next=>
  let#[σ',H',I',q]:=q;erw[h2 pZ s1 σ' H' D I' q]
 |ret v=>erw[q]
 |brk=>erw[q]
 |cont=>erw[q]
def Inv.quiet{pZ:List (Addr×Obj)}{σ:St}{H:Hp}{s:aE}(I:Inv X pZ σ H s):interactive X.env=ϑ:=by simp[interactive,I.ok.kind]
abbrev Uz(te:TE):TS:=λD σ H=>te σ H λ_ H1=>D.nx σ H1
def LX(he:PE X e te)(hs:fO e ψ pos.line X.env=pure ϑ:=by rfl):PS X (.Expr e pos) (Uz te):=by
 intro pZ s σ H D I h;rwa[wpAny_Expr_any (eG (he pZ s σ H _ I h) λv s1 h9=>?_) I.quiet hs];let#[x,H1,I1,r1,q1]:=h9;exact#[σ,H1,I1,q1]
abbrev Yx(te:TE):TS:=λD σ H=>te σ H D.rt
def PD(he:PE X e te):PS X (.Return (ξ e) pos) (Yx te):=by
 intro pZ s σ H D I h;rwa[wpAny_Return_some (eG (he pZ s σ H _ I h) λv s1 h9=>?_)];let#[x,H1,I1,r1,q1]:=h9;exact#[x,σ,H1,I1,r1,q1]
abbrev Yy(c:TT)(t u:TS):TS:=λD σ H=>c σ H λb H1=>if b=ζ then t D σ H1 else u D σ H1
def UA{c:Expr}{a b:List Stmt}{tc:TT}(hc:PT X c tc)(ha:uz X a t)(hb:uz X b u):PS X (.If c a b pos) (Yy tc t u):=by
 intro pZ s σ H D I h;rwa[wpAny_If (eG (hc pZ s σ H _ I h) λd s1 h9=>?_)];let#[H1,I1,q1]:=h9;cases d with
 |true=>erw[ha pZ s1 σ H1 D I1 q1]
 |false=>erw[hb pZ s1 σ H1 D I1 q1]
end
@[reducible]def TG:=V->St->Hp->(St->Hp->Prop)->Prop
@[reducible]def PF:=List V->St->Hp->(St->Hp->Prop)->Prop
abbrev PG(X:Cx)(target:Expr)(t:TG):Prop:=
 ∀(pZ:List (Addr×Obj))(s:aE)(σ:St)(H:Hp)(v:V)(u:Value)(Q:St->Hp->Prop),Inv X pZ σ H s->RelV v u->t v σ H Q ->
  wpAny (bf X.prog X.w) X.A (yl target X.env u) (λ_ s'=>∃σ' H',Inv X pZ σ' H' s'/\Q σ' H') X.xe s
abbrev XM(X:Cx)(ts:List Expr)(t:PF):Prop:=
 ∀(pZ:List (Addr×Obj))(s:aE)(σ:St)(H:Hp)(vs:List V)(us:List Value)(Q:St->Hp->Prop),Inv X pZ σ H s->Vals vs us->t vs σ H Q ->
  wpAny (bf X.prog X.w) X.A (assignInOrder ((uU ts X.env).map (·.2)) us) (λ_ s'=>∃σ' H',Inv X pZ σ' H' s'/\Q σ' H') X.xe s
@[reducible]def HP:=V->V->V->Hp->(Hp->Prop)->Prop
abbrev PH(X:Cx)(t:HP):Prop:=
 ∀(pZ:List (Addr×Obj))(s:aE)(σ:St)(H:Hp)(o i v:V)(ov iv u:Value)(Q:Hp->Prop),Inv X pZ σ H s->RelV o ov->RelV i iv->RelV v u->t o i v H Q ->
  wpAny (bf X.prog X.w) X.A (setItem ov iv u) (λ_ s'=>∃H',Inv X pZ σ H' s'/\Q H') X.xe s
@[reducible]def UB:=V->V->Hp->VK->Prop
abbrev PIp(X:Cx)(op:mW)(t:UB):Prop:=
 ∀(pZ:List (Addr×Obj))(s:aE)(σ:St)(H:Hp)(x y:V)(v u:Value)(Q:VK),Inv X pZ σ H s->RelV x v->RelV y u->t x y H Q ->
  wpAny (bf X.prog X.w) X.A (iD op v u) (EP X pZ σ Q) X.xe s
section
variable{X:Cx}{pos:Pos}
abbrev xt(i:Nat):TG:=λv σ H Q=>Q (σ.set i (ξ v)) H
def rB{i:Nat}{x:Str}(hN:X.N.Nodup)(hi:X.N[i]?=ξ x)(hx:Loc X.env.scope x)(hf:X.fn x=ζ\/X.env.scope.names.lookup x=ξ .local:=by first|exact .inl rfl|exact .inr rfl|assumption):PG X (.Name x pos) (xt i):=by
 intro pZ s σ H v u Q I r h;erw[wA (rn I hN hi hx r (λs' I'=>#[_,H,I',h]) hf)]
abbrev Yz:PF:=λvs σ H Q=>vs=[]/\Q σ H
abbrev UC(t:TG)(u:PF):PF:=λvs σ H Q=>∃v r,vs=v::r/\t v σ H λσ' H'=>u r σ' H' Q
def DP:XM X [] Yz:=by
 intro pZ s σ H vs us Q I r h;let#[e,h]:=h;subst e;cases r;erw[assignInOrder_nil #[σ,H,I,h]]
def rC{e:Expr}{es:List Expr}{t:TG}{u:PF}(h1:PG X e t)(h2:XM X es u)
  (hs:(uU (e::es) X.env).map (·.2)=yl e X.env::(uU es X.env).map (·.2):=by rfl):XM X (e::es) (UC t u):=by
 intro pZ s σ H vs us Q I r h;let#[v,vr,e1,h]:=h;subst e1;cases r with
 |cons r rr=>
  rw[hs]
  rwa[assignInOrder_cons (eG (h1 pZ s σ H _ _ _ I r h) λ_ s1 h9=>?_)];let#[σ1,H1,I1,q1]:=h9;erw[h2 pZ s1 σ1 H1 _ _ Q I1 rr q1]
abbrev YA(K:aJ)(n:Nat)(t:PF):TG:=λv σ H Q=>∃a xs,v=.ref a/\oG K H a xs/\xs.length=n/\t xs σ H Q
def HQ{es:List Expr}{k:Nat}{t:PF}{n:Nat}(hc:X.calm=ζ)(h:XM X es t)
  (hn:(uU es X.env).length=n:=by rfl) (hst:(uU es X.env).findIdx? (·.1)=ψ:=by rfl):PG X (.Tuple es k pos) (YA X.K n t):=by
 intro pZ s σ H v u Q I r hw;let#[a,xs,e1,hq,hl,hw]:=hw;subst e1;cases r;let#[its,rv,ht,hz]:=I.tuple hq;rwa[assign_Tuple_tuple (I.ok.hd hc) ht (by simp[hn,<-hl,rv.length]) hst λh' hx=>?_]
 have I1:Inv X pZ σ H {s with heap:=h'}:=I.kept (t':=s.toks) λb o e=>hx b o (aV (aO e)) e
 exact h pZ _ σ H xs _ Q I1 (~~~rv) hw
abbrev UD(te:TE)(g:TG):TS:=λD σ H=>te σ H λx H1=>g x σ H1 D.nx
def HR{i:Nat}{x:Str}{e:Expr}{te:TE}{pos':Pos}(hN:X.N.Nodup)(hi:X.N[i]?=ξ x)(hx:Loc X.env.scope x)(he:PE X e te)(hs:fO e (ξ (.Name x pos')) pos.line X.env=pure ϑ:=by rfl)(hf:X.fn x=ζ\/X.env.scope.names.lookup x=ξ .local:=by first|exact .inl rfl|exact .inr rfl|assumption):
  PS X (.Assign [.Name x pos'] e pos) (UD te (xt i)):=by
 intro pZ s σ H D I h;rwa[wpAny_Assign_Name (eG (he pZ s σ H _ I h) λv s1 h9=>?_) hs];let#[y,H1,I1,r1,q1]:=h9;erw[rn I1 hN hi hx r1 (λs2 I2=>#[_,H1,I2,q1]) hf]
abbrev YB(i:Nat)(te:TE)(ti:UB):TS:=λD σ H=>∃x,σ[i]?=ξ (ξ x)/\te σ H λy H1=>ti x y H1 λz H2=>D.nx (σ.set i (ξ z)) H2
def PJ{i:Nat}{x:Str}{e:Expr}{te:TE}{op:mW}{ti:UB}{pos':Pos}(hN:X.N.Nodup)(hi:X.N[i]?=ξ x)(hx:Loc X.env.scope x)(he:PE X e te)(ho:PIp X op ti)(hf:X.fn x=ζ\/X.env.scope.names.lookup x=ξ .local:=by first|exact .inl rfl|exact .inr rfl|assumption):
  PS X (.AugAssign (.Name x pos') op e pos) (YB i te ti):=by
 intro pZ s σ H D I h;let#[v,e1,h]:=h;let#[m,hn,hl]:=I.loc;have vis:Up X.env.scope x:=by rcases hx with k|k;erw[.inl k];erw[.inr (.inl k)]
 let#[u,r,l]:=hl i x v hi e1 vis;refine wpAny_AugAssign_Name ?_;have go:wpAny (bf X.prog X.w) X.A (eval e X.env) (λw s₂=>wpAny (bf X.prog X.w) X.A (iD op u w) (λr s₃=>wpAny (bf X.prog X.w) X.A (storeName X.env x r) (λ_=>SP X pZ D .next) X.xe s₃) X.xe s₂) X.xe s:=by
  rwa[eG (he pZ s σ H _ I h) λw s1 h9=>?_]
  let#[y,H1,I1,r1,q1]:=h9;rwa[eG (ho pZ s1 σ H1 v y u w _ I1 r r1 q1) λz s2 h9=>?_]
  let#[zv,H2,I2,r2,q2]:=h9;erw[rn I2 hN hi hx r2 (λs3 I3=>#[_,H2,I3,q2]) hf]
 rcases l with⟨hk,hm⟩|⟨hk,c,hc,hcell⟩
 .erw[LI I.ok.kind hk hn hm go]
 .rcases hk with hk|hk
  .erw[wpAny_loadName_cell I.ok.kind hk hc hcell go]
  .rcases hx with k|k
   .have:X.env.scope.names.lookup x=ξ .free:=hk
    rw[k] at this;cases this
   .have:X.env.scope.names.lookup x=ξ .free:=hk
    rw[k] at this;cases this
abbrev UE(to ti te:TE)(tget:V->V->Hp->VK->Prop)(tip:UB)(tset:HP):TS:=λD σ H=>to σ H λo H1=>ti σ H1 λi H2=>tget o i H2 λx H3=>te σ H3 λy H4=>tip x y H4 λz H5=>tset o i z H5 λH6=>D.nx σ H6
abbrev UG(X:Cx)(t:V->V->Hp->VK->Prop):Prop:=
 ∀(pZ:List (Addr×Obj))(s:aE)(σ:St)(H:Hp)(o i:V)(ov iv:Value)(Q:VK),Inv X pZ σ H s->RelV o ov->RelV i iv->t o i H Q ->
  wpAny (bf X.prog X.w) X.A (tN ov iv) (EP X pZ σ Q) X.xe s
def LY{o i e:Expr}{to ti te:TE}{tget:V->V->Hp->VK->Prop}{tip:UB}{tset:HP}{op:mW}{tpos:Pos}(ho:PE X o to)(hi:PE X i ti)(hg:UG X tget)(he:PE X e te)(hp:PIp X op tip)(hs:PH X tset)
  (ha:∀ov iv new,augStore i ov iv new=(do holding [new,ov,iv] (setItem ov iv new);release [new,ov,iv] [];pure .next):=by intros;rfl):PS X (.AugAssign (.Subscript o i tpos) op e pos) (UE to ti te tget tip tset):=by
 intro pZ s σ H D I h;rwa[wpAny_AugAssign_SubscriptAny (eG (ho pZ s σ H _ I h) λov s1 h9=>?_) ha];let#[x1,H1,I1,r1,q1]:=h9;rwa[eG (hi pZ s1 σ H1 _ I1 q1) λiv s2 h9=>?_]
 let#[x2,H2,I2,r2,q2]:=h9;rwa[eG (hg pZ s2 σ H2 x1 x2 ov iv _ I2 r1 r2 q2) λold s3 h9=>?_]
 let#[x3,H3,I3,r3,q3]:=h9;rwa[eG (he pZ s3 σ H3 _ I3 q3) λv s4 h9=>?_]
 let#[x4,H4,I4,r4,q4]:=h9;rwa[eG (hp pZ s4 σ H4 x3 x4 old v _ I4 r3 r4 q4) λnew s5 h9=>?_]
 let#[x5,H5,I5,r5,q5]:=h9;rwa[eG (hs pZ s5 σ H5 x1 x2 x5 ov iv new _ I5 r1 r2 r5 q5) λ_ s6 h9=>?_]
 let#[H6,I6,q6]:=h9;exact#[σ,H6,I6,q6]
end
section
variable{X:Cx}{pos:Pos}
abbrev PK(c:TT)(tb:TS):TS:=λD σ H=>∃W:Nat->St->Hp->Prop,(∃m,W m σ H)/\∀m σ H,W m σ H ->
 c σ H λb H1=>if b=ζ then ∃N:St->Hp->Prop,(∀σ' H',N σ' H'->∃m',m'<m/\W m' σ' H')/\tb {D with nx:=N,ct:=N,bk:=D.nx} σ H1 else D.nx σ H1
def HS{c:Expr}{body:List Stmt}{tc:TT}{tb:TS}(hp:PassesOwn (bf X.prog X.w) X.A X.env X.xe)(hc:PT X c tc)(hb:uz X body tb):PS X (.While c body [] pos) (PK tc tb):=by
 intro pZ s σ H D I h;let#[W,#[m0,w0],turn]:=h;rwa[wpAny_While (codeAny_whileLoop (λn s'=>∃σ' H',Inv X pZ σ' H' s'/\W n σ' H') ?_ m0 #[σ,H,I,w0])];rintro n s1 ⟨σ1,H1,I1,w1⟩;rwa[iu hp (eG (hc pZ s1 σ1 H1 _ I1 (turn n σ1 H1 w1)) λb s2 h9=>?_)];let#[H2,I2,q2]:=h9;cases b with
 |true=>
  let#[N,hN,q2]:=q2;rw[if_pos rfl]
  rwa[iu hp (eG (hb pZ s2 σ1 H2 _ I2 q2) λf s3 q3=>?_)];cases f with
  |next=>
   let#[σ3,H3,I3,n3]:=q3;let#[m',hm,w3]:=hN σ3 H3 n3;exact#[m',hm,σ3,H3,I3,w3]
  |cont=>
   let#[σ3,H3,I3,n3]:=q3;let#[m',hm,w3]:=hN σ3 H3 n3;exact#[m',hm,σ3,H3,I3,w3]
  |brk=>erw[q3]
  |ret v=>erw[q3]
 |false=>
  rw[if_neg a9]
  erw[qN #[σ1,H2,I2,q2]]
end
structure It where
 go:Nat->Hp->Prop
 UH:Nat->Hp->V->Hp->Prop
 stop:Nat->Hp->Prop
abbrev ui(X:Cx)(pZ:List (Addr×Obj))(H:Hp)(b:Addr):Prop:=
 H b=ψ/\b≠X.env.locals/\b∉X.fs/\(b∈X.ex\/X.s₀.heap.objs.size<=b)/\(∀x c,X.env.cells.lookup x=ξ c->c≠b)/\∀p∈X.pn++pZ,p.1≠b
def Inv.AA{X:Cx}{pZ:List (Addr×Obj)}{σ:St}{H H':Hp}{s:aE}{b:Addr}(I:Inv X pZ σ H s)(hb:s.heap.objs.size<=b)(hn:H' b=ψ):ui X pZ H' b:=by
 refine#[hn,cD (au I.lt hb),I.Yq hb,.inr (aH I.sz hb),λx c e z=>?_,λp hp z=>?_]
 .let#[v,q]:=I.cell x c e
  erw[absurd (au q.lt (by rw[z];exact hb)) (dj _)]
 .erw[absurd (au (aO (I.pin p hp).1) (by rw[z];exact hb)) (dj _)]
structure Turn(P:bK)(w:cx)(K:aJ)(tg:Expr)(J:It)(fp:List Addr)(it:Addr)(tn:Nat->Heap->Prop):Prop where
 mem:it∈fp
 obj:∀i h,tn i h->∀b∈fp,∃o,h.get? b=ξ o/\∀v,o.data≠.cell v
 keep:∀i h h',tn i h->(∀b∈fp,∀o,h.get? b=ξ o->h'.get? b=ξ o)->tn i h'
 item:∀(X:Cx),X.prog=P->X.w=w->X.K=K->X.calm=ζ->∀(i:Nat)(pZ:List (Addr×Obj))(s:aE)(σ:St)(H:Hp)(E:Value->aE->Prop),Inv X pZ σ H s->(∀b∈fp,ui X pZ H b)->tn i s.heap->J.go i H ->
  wpAny (bf P w) X.A (ym (.ref it)) (λr s1=>∃u,r=ξ u /\
   wpAny (bf P w) X.A (qO tg (.ref it) u) (λ_ s2=>∃x H',Inv X pZ σ H' s2/\RelV x u/\J.UH i H x H'/\tn (i+1) s2.heap/\∀b∈fp,H' b=ψ) E s1) E s
 done:∀(X:Cx),X.prog=P->X.w=w->X.K=K->X.calm=ζ->∀(i:Nat)(pZ:List (Addr×Obj))(s:aE)(σ:St)(H:Hp)(E:Value->aE->Prop),Inv X pZ σ H s->(∀b∈fp,ui X pZ H b)->tn i s.heap->J.stop i H ->
  wpAny (bf P w) X.A (ym (.ref it)) (λr s1=>r=ψ/\Inv X pZ σ H s1) E s
 self:∀(A:dC)(i:Nat)(s:aE)(Q:Value->aE->Prop)(E:Value->aE->Prop),tn i s.heap->Q (.ref it) s->wpAny (bf P w) A (pyIter (.ref it)) Q E s
@[reducible]def TI:=St->Hp->(It->Hp->Prop)->Prop
abbrev YC(X:Cx)(pZ:List (Addr×Obj))(σ:St)(tg:Expr)(R:It->Hp->Prop)(itv:Value)(s2:aE):Prop:=
 ∃(it:Addr)(fp:List Addr)(tn:Nat->Heap->Prop)(J:It)(H':Hp),itv=.ref it/\Inv X pZ σ H' s2/\Turn X.prog X.w X.K tg J fp it tn/\tn 0 s2.heap/\(∀b∈fp,ui X pZ H' b)/\R J H'
abbrev PI(X:Cx)(tg iter:Expr)(wi:TI):Prop:=
 ∀(pZ:List (Addr×Obj))(s:aE)(σ:St)(H:Hp)(R:It->Hp->Prop),Inv X pZ σ H s->wi σ H R ->
  wpAny (bf X.prog X.w) X.A (eval iter X.env) (λv s1=>wpAny (bf X.prog X.w) X.A (pyIter v) (YC X pZ σ tg R) X.xe s1) X.xe s
def xv(ho:s.heap.get? it=ξ o)(hc:o.cls=.type n)(hd:o.data=.fields vs)
    (hn:["enumerate","zip","dict_itemiterator","dict_reverseitemiterator","odict_iterator","itertools.zip_longest","itertools.pairwise"].contains n=ϑ) (hQ:Q () s):wpAny M A (qO tg (.ref it) u) Q E s:=by
  unfold qO;cases tg<;>first
    |exact aC hQ
    | (cases u<;>first
        |exact aC hQ
        | (refine af (wpAny_load ho ?_)
           rw[hc,hd]
           show wpAny M A (if (["enumerate","zip","dict_itemiterator","dict_reverseitemiterator","odict_iterator","itertools.zip_longest","itertools.pairwise"].contains n&&vs[0]?==ξ (oK _))=ζ then _ else _) Q E s
           rw[if_neg (by intro h;rw[hn,qh] at h;cases h)]
           erw[aC hQ]))
abbrev YD(K:aJ)(a:Addr):It:=
 #[λi H=>∃xs x,gX K H a xs/\xs[i]?=ξ x,λi H x H'=>H'=H/\∀xs,gX K H a xs->xs[i]?=ξ x,λi H=>∃xs,gX K H a xs/\xs.length<=i]
abbrev YE(K:aJ)(a:Addr):It:=
 #[λi H=>∃xs x,oG K H a xs/\xs[i]?=ξ x,λi H x H'=>H'=H/\∀xs,oG K H a xs->xs[i]?=ξ x,λi H=>∃xs,oG K H a xs/\xs.length<=i]
abbrev XN(lo:Int)(n:Nat):It:=#[λi _=>i<n,λi H x H'=>H'=H/\x=.int (lo+i),λi _=>n<=i]
def Ft{P:bK}{w:cx}{K:aJ}{tg:Expr}(a it:Addr):Turn P w K tg (YD K a) [it] it (λi h=>h.IsListIter it a i) where
 mem:=by simp
 obj:=λi h st b hb=>by
  have e:b=it:=by simpa using hb
  subst e;let#[o,e,c,d]:=st;exact#[o,e,λv z=>by rw[d] at z;cases z]
 keep:=λi h h' st k=>st.at λo e=>k it (#v[]) o e
 item:=by
  w_up;subst hP hw hK;let#[xs,x,hq,hx]:=hg;let#[its,rv,p,hz]:=I.list hq;let#[u,hu,ru]:=rv.get hx;let#[f0,f1,f2,f3,f4,f5]:=hf it (#v[]);refine Hs st p.isList (x:=u) (~~~hu) λh' st' sb=>?_
  have I1:Inv X pZ σ H {s with heap:=h'}:=I.turned (t':=s.toks) (λb o hb e=>(sb.2 b hb).trans e) f0 f1 f3 f4 f5;let#[o,e,c,d]:=id st';exact#[u,rfl,xv (s:={s with heap:=h'}) e c d ⋯ #[x,H,I1,ru,#[rfl,λys hy=>%[I.rA hy hq|hx]],st',λb hb=>(hf b hb).1]]
 done:=by
  w_up;subst hP hw hK;let#[xs,hq,hx]:=hg;let#[its,rv,p,hz]:=I.list hq;let#[f0,f1,f2,f3,f4,f5]:=hf it (#v[]);have hl:=rv.length;erw[Ln (I.ok.hd hc) st p.isList ((·)) λh' eb=>#[rfl,I.turned (t':=s.toks) (λb o hb e=>eb b o hb e) f0 f1 f3 f4 f5]]
 self:=λ_ _ _ _ _ st h=>wpAny_pyIter_listiter st h
def Ck{P:bK}{w:cx}{K:aJ}{tg:Expr}(a it:Addr):Turn P w K tg (YE K a) [it] it (λi h=>h.IsTupleIter it a i) where
 mem:=by simp
 obj:=λi h st b hb=>by
  have e:b=it:=by simpa using hb
  subst e;let#[o,e,c,d]:=st;exact#[o,e,λv z=>by rw[d] at z;cases z]
 keep:=λi h h' st k=>st.at λo e=>k it (#v[]) o e
 item:=by
  w_up;subst hP hw hK;let#[xs,x,hq,hx]:=hg;let#[its,rv,p,hz]:=I.tuple hq;let#[u,hu,ru]:=rv.get hx;let#[f0,f1,f2,f3,f4,f5]:=hf it (#v[]);refine wpAny_pyNext_tuple_item st (show s.heap.IsTuple a its.toArray from p) (x:=u) (~~~hu) λh' st' sb=>?_
  have I1:Inv X pZ σ H {s with heap:=h'}:=I.turned (t':=s.toks) (λb o hb e=>(sb.2 b hb).trans e) f0 f1 f3 f4 f5;let#[o,e,c,d]:=id st';exact#[u,rfl,xv (s:={s with heap:=h'}) e c d ⋯ #[x,H,I1,ru,#[rfl,λys hy=>%[I.xr hy hq|hx]],st',λb hb=>(hf b hb).1]]
 done:=by
  w_up;subst hP hw hK;let#[xs,hq,hx]:=hg;let#[its,rv,p,hz]:=I.tuple hq;let#[f0,f1,f2,f3,f4,f5]:=hf it (#v[]);have hl:=rv.length;erw[wpAny_pyNext_tuple_end (I.ok.hd hc) st (show s.heap.IsTuple a its.toArray from p) ((·)) λh' eb=>#[rfl,I.turned (t':=s.toks) (λb o hb e=>eb b o hb e) f0 f1 f3 f4 f5]]
 self:=λ_ _ _ _ _ st h=>wpAny_pyIter_tupleiter st h
def Cm{P:bK}{w:cx}{K:aJ}{tg:Expr}(it:Addr)(lo:Int)(n:Nat):Turn P w K tg (XN lo n) [it] it (λi h=>IsRangeIter h it (lo+(i:Nat)*1) ((n:Int)-(i:Nat)) 1) where
 mem:=by simp
 obj:=λi h st b hb=>by
  have e:b=it:=by simpa using hb
  subst e;exact#[_,st,λv z=>by
   have z':Data.fields _=Data.cell v:=z;cases z']
 keep:=λi h h' st k=>k it (#v[]) _ st
 item:=by
  w_up;subst hP hw hK;let#[f0,f1,f2,f3,f4,f5]:=hf it (#v[]);have W:=Walks.range (prog:=X.prog) (w:=X.w) (I.ok.hd hc) it lo 1 n;rwa[W.item i s _ _ hg st λv h' tk hv st' kk=>?_]
  let#[t,rfl]:=hv;have I1:Inv X pZ σ H {s with heap:=h',toks:=tk}:=I.turned (λb o hb e=>kk b o (~~~hb) e) f0 f1 f3 f4 f5;refine#[_,rfl,xv (s:={s with heap:=h',toks:=tk}) (n:="range_iterator") st' rfl rfl ⋯ #[.int (lo+i),H,I1,#[t,?_],#[rfl,rfl],st',λb hb=>(hf b hb).1]];rw[Int.mul_one]
 done:=by
  w_up;subst hP hw hK;let#[f0,f1,f2,f3,f4,f5]:=hf it (#v[]);erw[wpAny_pyNext_range_end (I.ok.hd hc) st (by have:n<=i:=hg;omega) λh' eb=>#[rfl,I.turned (t':=s.toks) (λb o hb e=>eb b o hb e) f0 f1 f3 f4 f5]]
 self:=λ_ _ _ _ _ st h=>wpAny_pyIter_rangeiter st h
section
variable{X:Cx}{tg:Expr}
def HU{pZ:List (Addr×Obj)}{σ:St}{H:Hp}{s:aE}{R:It->Hp->Prop}{E:Value->aE->Prop}{lo hi:Int}{t u v:Tok}{tk:Nat}(I:Inv X pZ σ H s)(h1:-(2^62)<=lo)(h2:lo<2^62)(h3:-(2^62)<=hi)(h4:hi<2^62)
  (q:R (XN lo (hi-lo).toNat) H):wpAny (bf X.prog X.w) X.A (pyIter (.ref s.heap.objs.size)) (YC X pZ σ tg R) E {s with heap:=s.heap.push {cls:=.type "range",data:=.fields (List.toArray [.int lo t,.int hi u,.int 1 v])},toks:=tk}:=by
 rwa[wpAny_pyIter_range (IsRange.new ..) (small_one h1 h2 h3 h4) ?_];have I1:Inv X pZ σ H {s with heap:=s.heap.push {cls:=.type "range",data:=.fields (List.toArray [.int lo t,.int hi u,.int 1 v])},toks:=tk}:=I.kept λb o e=>aG _ e
 refine#[(s.heap.push {cls:=.type "range",data:=.fields (List.toArray [.int lo t,.int hi u,.int 1 v])}).objs.size,[(s.heap.push {cls:=.type "range",data:=.fields (List.toArray [.int lo t,.int hi u,.int 1 v])}).objs.size],_,_,H,rfl,
  I1.kept (t':=tk) λb o e=>aG _ e,Cm _ lo (hi-lo).toNat,?_,λb hb=>?_,q]
 .have e1:lo+((0:Nat):Int)*1=lo:=by simp
  have e2:(((hi-lo).toNat:Nat):Int)-((0:Nat):Int)=Builtin.Range.rangeSize lo hi 1:=by rw[rangeSize_one];split<;>omega
  show IsRangeIter _ _ (lo+((0:Nat):Int)*1) ((((hi-lo).toNat:Nat):Int)-((0:Nat):Int)) 1
  rw[e1,e2]
  erw[aX _ rfl]
 .have e:b=(s.heap.push {cls:=.type "range",data:=.fields (List.toArray [.int lo t,.int hi u,.int 1 v])}).objs.size:=by simpa using hb
  subst e;erw[I1.AA (ar _) (I1.dE.fresh (ar _))]
abbrev UI(ta:TA):TI:=λσ H R=>ta σ H λvs H1=>∃j:Int,vs=[.int j]/\-(2^62)<=j/\j<2^62/\R (XN 0 j.toNat) H1
def Fu{a:Expr}{ta:TA}{p pos:Pos}(hg:Gl X "range")(hm:X.mg "range"=ψ)(ha:PA X [a] ta)(hs:bz [a] X.env=[(ϑ,eval a X.env)]:=by rfl):PI X tg (.Call (.Name "range" p) [a] [] pos) (UI ta):=by
 intro pZ s σ H R I h;rwa[Call_ (mr I hg hm boot_range (dg (eG (ha pos pZ s σ H _ I h) λus s1 h9=>?_) hs rfl))];let#[vs,H1,I1,r1,q1]:=h9;let#[j,e,q1,q2,q]:=q1;subst e;cases r1 with
 |cons r rr=>
  cases rr;let#[t,rfl]:=r;exact call_range_1 (HU I1 ∅ ∅ q1 q2 (~~~q))
abbrev YF(wi:TI)(g:TG)(tb:TS):TS:=λD σ H=>wi σ H λJ H1=>∃W:Nat->Nat->St->Hp->Prop,(∃m,W 0 m σ H1)/\∀i m σ H,W i m σ H ->
 (J.stop i H/\D.nx σ H)\/(J.go i H/\∃N:St->Hp->Prop,(∀σ' H',N σ' H'->∃m',m'<m/\W (i+1) m' σ' H')/\∀x H',J.UH i H x H'->g x σ H' λσ2 H2=>tb {D with nx:=N,ct:=N,bk:=D.nx} σ2 H2)
abbrev sM(fp:List Addr)(h:Heap):List (Addr×Obj):=fp.filterMap λb=>(h.get? b).map λo=>(b,o)
def m7{fp:List Addr}{h:Heap}{b:Addr}{o:Obj}(hb:b∈fp)(e:h.get? b=ξ o):(b,o)∈sM fp h:=eT.mpr #[b,hb,by rw[e];rfl]
def Fv(hp:p∈sM fp h):p.1∈fp/\h.get? p.1=ξ p.2:=by
 let#[b,hb,e]:=eT.mp hp;cases q:h.get? b with
 |none=>rw[q] at e;cases e
 |some o=>
  rw[q] at e;have e':(b,o)=p:=aK e;subst e';exact#[hb,q]
def Inv.pinned{pZ:List (Addr×Obj)}{σ:St}{H:Hp}{s:aE}{fp:List Addr}(I:Inv X pZ σ H s)(hf:∀b∈fp,ui X pZ H b)(ho:∀b∈fp,∃o,s.heap.get? b=ξ o/\∀v,o.data≠.cell v):Inv X (pZ++sM fp s.heap) σ H s:=
 I.DO λp hp=>(aL.mp hp).elim (λz=>I.pin p (aR _ z)) λz=>by
  let#[hb,e]:=Fv z;let#[f0,f1,f2,_]:=hf p.1 hb;let#[o,e',d]:=ho p.1 hb;rw[e] at e';cases e';exact#[e,f0,f1,f2,d]
def Inv.rD{pZ pl:List (Addr×Obj)}{σ:St}{H:Hp}{s:aE}(I:Inv X (pZ++pl) σ H s):Inv X pZ σ H s:=I.DO λp hp=>I.pin p (aR _ (bj _ hp))
def PM{iter:Expr}{body:List Stmt}{wi:TI}{g:TG}{tb:TS}{pos:Pos}(hp:PassesOwn (bf X.prog X.w) X.A X.env X.xe)(hc:X.calm=ζ)(hi:PI X tg iter wi)(hg:PG X tg g)(hb:uz X body tb)
  (hs:∀x,foldedSetIterable iter X.env x=pure x:=by intro _;rfl):PS X (.For tg iter body [] pos) (YF wi g tb):=by
 intro pZ s σ H D I h;rwa[wpAny_For (eG (hi pZ s σ H _ I h) λv s1 h1=>eG h1 λitv s2 h2=>?_) hs];let#[it,fp,tn,J,H2,e,I2,T,st2,f2,W,#[m0,w0],turn]:=h2;subst e;have stat:∀{H':Hp},(∀b∈fp,H' b=ψ)->∀b∈fp,ui X pZ H' b:=λhn b hb=>#[hn b hb,(f2 b hb).2]
 rwa[codeAny_forLoop_any (λn s'=>∃i σ' H',Inv X pZ σ' H' s'/\tn i s'.heap/\(∀b∈fp,H' b=ψ)/\W i n σ' H') ?_ m0 #[0,σ,H2,I2,st2,λb hb=>(f2 b hb).1,w0]];rintro n s3 ⟨i,σ3,H3,I3,st3,fr3,w3⟩;rcases turn i n σ3 H3 w3 with⟨stop,qn⟩|⟨go,N,hN,step⟩
 .rwa[iu hp (eG (T.done X rfl rfl rfl hc i pZ s3 σ3 H3 X.xe I3 (stat fr3) st3 stop) λr s4 h9=>?_)]
  let#[hr,I4]:=h9;subst hr;erw[qN #[σ3,H3,I4,qn]]
 .rwa[iu hp (eG (T.item X rfl rfl rfl hc i pZ s3 σ3 H3 X.xe I3 (stat fr3) st3 go) λr s4 h9=>?_)]
  let#[u,hr,h4]:=h9;subst hr;refine iu hp (eG h4 λ_ s5 h9=>?_);let#[x,H5,I5,r5,y5,st5,fr5]:=h9;have I5':=I5.pinned (stat fr5) (T.obj _ _ st5);refine iu hp (eG (hg _ s5 σ3 H5 x u _ I5' r5 (step x H5 y5)) λ_ s6 h9=>?_);let#[σ6,H6,I6,q6]:=h9;refine iu hp (eG (hb _ s6 σ6 H6 _ I6 q6) λf s7 q7=>?_);have again:∀{σ7:St}{H7:Hp},Inv X (pZ++sM fp s5.heap) σ7 H7 s7->N σ7 H7->∃m,m<n/\∃i σ' H',Inv X pZ σ' H' s7/\tn i s7.heap/\(∀b∈fp,H' b=ψ)/\W i m σ' H':=λ{σ7 H7}I7 n7=>by
   let#[m',hm,w7]:=hN σ7 H7 n7;refine#[m',hm,i+1,σ7,H7,I7.rD,T.keep _ _ _ st5 λb hb o e=>(I7.pin (b,o) (aR _ (aR _ (m7 hb e)))).1,λb hb=>?_,w7];let#[o,e,d]:=T.obj _ _ st5 b hb;exact(I7.pin (b,o) (aR _ (aR _ (m7 hb e)))).2.1
  cases f with
  |next=>let#[σ7,H7,I7,n7]:=q7;erw[again I7 n7]
  |cont=>let#[σ7,H7,I7,n7]:=q7;erw[again I7 n7]
  |brk=>let#[σ7,H7,I7,q7]:=q7;exact#[σ7,H7,I7.rD,q7]
  |ret v=>let#[x7,σ7,H7,I7,r7,q7]:=q7;exact#[x7,σ7,H7,I7.rD,r7,q7]
end
@[reducible]def R2:=V->V->Hp->VK->Prop
abbrev iw(X:Cx)(f:Value->Value->Sem Value)(r:R2):Prop:=
 ∀(pZ:List (Addr×Obj))(s:aE)(σ:St)(H:Hp)(x y:V)(v u:Value)(Q:VK),Inv X pZ σ H s->RelV x v->RelV y u->r x y H Q ->
  wpAny (bf X.prog X.w) X.A (f v u) (EP X pZ σ Q) X.xe s
abbrev YG(X:Cx)(f:Value->Sem Value)(r:V->Hp->VK->Prop):Prop:=
 ∀(pZ:List (Addr×Obj))(s:aE)(σ:St)(H:Hp)(x:V)(v:Value)(Q:VK),Inv X pZ σ H s->RelV x v->r x H Q ->
  wpAny (bf X.prog X.w) X.A (f v) (EP X pZ σ Q) X.xe s
abbrev iH(X:Cx)(f:Value)(r:List V->Hp->VK->Prop):Prop:=
 ∀(pZ:List (Addr×Obj))(s:aE)(σ:St)(H:Hp)(xs:List V)(us:List Value)(Q:VK),Inv X pZ σ H s->Vals xs us->r xs H Q ->
  wpAny (bf X.prog X.w) X.A (call f us) (EP X pZ σ Q) X.xe s
abbrev YH(X:Cx)(r:V->Hp->(Bool->Hp->Prop)->Prop):Prop:=
 ∀(pZ:List (Addr×Obj))(s:aE)(σ:St)(H:Hp)(x:V)(v:Value)(Q:Bool->Hp->Prop),Inv X pZ σ H s->RelV x v->r x H Q ->
  wpAny (bf X.prog X.w) X.A (truthy v) (TP X pZ σ Q) X.xe s
abbrev XO(r:R2)(ta tb:TE):TE:=λσ H Q=>ta σ H λx H1=>tb σ H1 λy H2=>r x y H2 Q
abbrev tUn(r:V->Hp->VK->Prop)(ta:TE):TE:=λσ H Q=>ta σ H λx H1=>r x H1 Q
abbrev rI(C:Int->Int->Prop)(g:Int->Int->V):R2:=λx y H Q=>∃i j,x=.int i/\y=.int j/\C i j/\Q (g i j) H
abbrev Fw(g:Int->Int->V):R2:=λx y H Q=>∃i j,x=.int i/\y=.int j/\Q (g i j) H
abbrev rU(g:Int->V):V->Hp->VK->Prop:=λx H Q=>∃i,x=.int i/\Q (g i) H
section
variable{X:Cx}{a b c:Expr}{ta tb tc:TE}{pos:Pos}
def PN(ha:PE X a ta)(hb:PE X b tb){pZ:List (Addr×Obj)}{s:aE}{σ:St}{H:Hp}{R:V->V->Hp->Prop}(I:Inv X pZ σ H s)
  (h:ta σ H λx H1=>tb σ H1 λy H2=>R x y H2){Q:Value->aE->Prop}{f:Value->Value->Sem Value}
  (hf:∀v u s2 x y H2,Inv X pZ σ H2 s2->RelV x v->RelV y u->R x y H2->wpAny (bf X.prog X.w) X.A (f v u) Q X.xe s2):
  wpAny (bf X.prog X.w) X.A (eval a X.env) (λv s₁=>wpAny (bf X.prog X.w) X.A (eval b X.env) (λu s₂=>wpAny (bf X.prog X.w) X.A (f v u) Q X.xe s₂) X.xe s₁) X.xe s:=by
 rwa[eG (ha pZ s σ H _ I h) λv s1 h9=>?_]
 let#[x,H1,I1,r1,q1]:=h9;rwa[eG (hb pZ s1 σ H1 _ I1 q1) λu s2 h9=>?_]
 let#[y,H2,I2,r2,q2]:=h9;erw[hf v u s2 x y H2 I2 r1 r2 q2]
def UJ{op:mW}{r:R2}(ho:iw X (cX op) r)(ha:PE X a ta)(hb:PE X b tb):PE X (.BinOp a op b pos) (XO r ta tb):=by
 k_ne;erw[wpAny_BinOp (PN ha hb I h λv u s2 x y H2 I2 rx ry q=>ho pZ s2 σ H2 x y v u Q I2 rx ry q)]
def UK{op:UnaryOp}{r:V->Hp->VK->Prop}(ho:YG X (unaryOp op) r)(ha:PE X a ta):PE X (.UnaryOp op a pos) (tUn r ta):=by
 k_ne;rwa[UnaryOp_ (eG (ha pZ s σ H _ I h) λv s1 h9=>?_)];let#[x,H1,I1,r1,q1]:=h9;erw[ho pZ s1 σ H1 x v Q I1 r1 q1]
def UL{f:Value->Value->Sem Value}{C:Int->Int->Prop}{g:Int->Int->Int}
  (rule:∀(i j:Int)(t u:Tok)(s:aE)(Q:Value->aE->Prop)(E:Value->aE->Prop),C i j->Q (.int (g i j) s.toks) {s with toks:=s.toks+1}->wpAny (bf X.prog X.w) X.A (f (.int i t) (.int j u)) Q E s):
  iw X f (rI C λi j=>.int (g i j)):=by
 x_go;let#[i,j,rfl,rfl,hc,q]:=h;let#[t,rfl]:=rx;let#[t',rfl]:=ry;erw[rule i j t t' s _ _ hc #[.int (g i j),H,I.tok _,#[_,rfl],q]]
def Cn{f:Value->Value->Sem Value}{g:Int->Int->Int}
  (rule:∀(i j:Int)(t u:Tok)(s:aE)(Q:Value->aE->Prop)(E:Value->aE->Prop),Q (.int (g i j) s.toks) {s with toks:=s.toks+1}->wpAny (bf X.prog X.w) X.A (f (.int i t) (.int j u)) Q E s):
  iw X f (Fw λi j=>.int (g i j)):=by
 x_go;let#[i,j,rfl,rfl,q]:=h;let#[t,rfl]:=rx;let#[t',rfl]:=ry;erw[rule i j t t' s _ _ #[.int (g i j),H,I.tok _,#[_,rfl],q]]
def LZ{f:Value->Value->Sem Value}{g:Int->Int->Bool}
  (rule:∀(i j:Int)(t u:Tok)(s:aE)(Q:Value->aE->Prop)(E:Value->aE->Prop),Q (.bool (g i j)) s->wpAny (bf X.prog X.w) X.A (f (.int i t) (.int j u)) Q E s):
  iw X f (Fw λi j=>.bl (g i j)):=by
 x_go;let#[i,j,rfl,rfl,q]:=h;let#[t,rfl]:=rx;let#[t',rfl]:=ry;erw[rule i j t t' s _ _ #[.bl (g i j),H,I,rfl,q]]
abbrev YI(i j:Int):Prop:=0<j/\j<1073741824
abbrev YJ(i j:Int):Prop:=0<=j/\j<=1000000/\i.natAbs<2^64
abbrev PQ(i j:Int):Prop:=(-(2^64)<i/\i<2^64)\/(-(2^64)<j/\j<2^64)
def PQ.ok{i j:Int}(h:PQ i j):IntMulOk i j:=by
 rcases h with⟨h1,h2⟩|⟨h1,h2⟩
 .erw[.of_left (intBits_le_64 h1 h2)]
 .erw[.of_right (intBits_le_64 h1 h2)]
def two_pow_nn(k:Nat):(0:Int)<=2^k:=by
 rw[two_pow_cast]
 erw[Ht _]
def PU:iw X (cX .Add) (Fw λi j=>.int (i+j)):=Cn λ_ _ _ _ _ _ _ q=>add_int q
def PV:iw X (cX .Sub) (Fw λi j=>.int (i-j)):=Cn λ_ _ _ _ _ _ _ q=>sub_int q
def PX:iw X (cX .Mult) (rI PQ λi j=>.int (i*j)):=UL λ_ _ _ _ _ _ _ hc q=>mul_int q hc.ok
def L0:iw X (cX .FloorDiv) (rI YI λi j=>.int (i/j)):=UL λi j _ _ _ _ _ hc q=>by
 have h1:(0:Int)<j:=hc.1;have h2:j<1073741824:=hc.2;erw[floordiv_int ∅ (by rw[yn i ∅];exact q) (.inl (PyProof.noPylong_small ∅))]
def PY:iw X (cX .Mod) (rI (λ_ j=>0<j) λi j=>.int (i%j)):=UL λi j _ _ _ _ _ hc q=>by
 have h1:(0:Int)<j:=hc;erw[mod_int' ∅ (by rw[Int.fmod_eq_emod_of_nonneg i ∅];exact q)]
def PZ:iw X (cX .LShift) (rI YJ λi j=>.int (i*2^j.toNat)):=UL λ_ _ _ _ _ _ _ hc q=>lshift_int_small hc.1 hc.2.1 hc.2.2 q
def P0:iw X (cX .RShift) (rI (λ_ j=>0<=j) λi j=>.int (i/2^j.toNat)):=UL λi j _ _ _ _ _ hc q=>
 rshift_int hc (%[yn i (two_pow_nn _)|q])
def P1:iw X (cX .BitAnd) (Fw λi j=>.int (Builtin.bitAnd i j)):=Cn λ_ _ _ _ _ _ _ q=>and_int q
def UM:iw X (cX .BitOr) (Fw λi j=>.int (Builtin.bitOr i j)):=Cn λ_ _ _ _ _ _ _ q=>or_int q
def L1:iw X (iD .Add) (Fw λi j=>.int (i+j)):=Cn λ_ _ _ _ _ _ _ q=>iadd_int q
def L3:iw X (iD .Sub) (Fw λi j=>.int (i-j)):=Cn λ_ _ _ _ _ _ _ q=>isub_int q
def P2:iw X (iD .BitOr) (Fw λi j=>.int (Builtin.bitOr i j)):=Cn λ_ _ _ _ _ _ _ q=>ior_int q
def unI{f:Value->Sem Value}{g:Int->Int}
  (rule:∀(i:Int)(t:Tok)(s:aE)(Q:Value->aE->Prop)(E:Value->aE->Prop),Q (.int (g i) s.toks) {s with toks:=s.toks+1}->wpAny (bf X.prog X.w) X.A (f (.int i t)) Q E s):
  YG X f (rU λi=>.int (g i)):=by
 intro pZ s σ H x v Q I rx h;let#[i,rfl,q]:=h;let#[t,rfl]:=rx;erw[rule i t s _ _ #[.int (g i),H,I.tok _,#[_,rfl],q]]
def P4:YG X (unaryOp .USub) (rU λi=>.int (-i)):=unI λ_ _ _ _ _ q=>neg_int q
end
abbrev P5:V->V->Bool
 |.cf,.cf=>ζ|.cf,.int _=>ζ|.int _,.cf=>ζ|.cf,.bl _=>ζ|.bl _,.cf=>ζ|.cf,.str _=>ζ|.str _,.cf=>ζ
 |.int _,.int _=>ζ|.bl _,.bl _=>ζ|.str _,.str _=>ζ|.BY _,.BY _=>ζ
 |.int _,.str _=>ζ|.str _,.int _=>ζ|.bl _,.str _=>ζ|.str _,.bl _=>ζ
 |_,_=>ϑ
abbrev rEq:R2:=λx y H Q=>P5 x y=ζ/\Q (.bl (decide (x=y))) H
abbrev rNe:R2:=λx y H Q=>P5 x y=ζ/\Q (.bl (!decide (x=y))) H
def yD:decide (V.int i=V.int j)=(i==j):=by
 rw[cy]
 simp
def Co:decide (V.bl i=V.bl j)=(i==j):=by
 rw[cy]
 simp
def DQ:decide (V.str i=V.str j)=(i==j):=by
 rw[cy]
 simp
def DS:decide (V.BY i=V.BY j)=(i.toList==j.toList):=by
 rw[cy]
 cases i;cases j;simp
section
variable{X:Cx}{a b c:Expr}{ta tb tc:TE}{pos:Pos}
def cZ(I:Inv X pZ σ H s)(q:Q (.bl k) H)(e:k=k'):EP X pZ σ Q (.bool k') s:=by
 subst e;exact#[.bl k,H,I,rfl,q]
def UN:iw X (bH .Eq) rEq:=by
 x_go;let#[hs,q]:=h;cases x with
 |cf=>
  cases rx;cases y with
  |cf=>cases ry;erw[PySem.EqNone.eq_none_none (cZ I q (#v[]))]
  |bl j=>cases ry;erw[PySem.EqNone.eq_none_bool (cZ I q (#v[]))]
  |int j=>let#[t',rfl]:=ry;erw[PySem.EqNone.eq_none_int (cZ I q (#v[]))]
  |str j=>let#[t',rfl]:=ry;erw[PySem.EqNone.eq_none_str (cZ I q (#v[]))]
  |_=>erw[absurd (show ϑ=ζ from hs) a9]
 |bl i=>
  cases rx;cases y with
  |cf=>cases ry;erw[PySem.EqNone.eq_bool_none (cZ I q (#v[]))]
  |bl j=>cases ry;erw[eq_bool (cZ I q Co)]
  |str j=>let#[t',rfl]:=ry;erw[PySem.EqMixed.eq_bool_str (cZ I q (#v[]))]
  |_=>erw[absurd (show ϑ=ζ from hs) a9]
 |int i=>
  let#[t,rfl]:=rx;cases y with
  |cf=>cases ry;erw[PySem.EqNone.eq_int_none (cZ I q (#v[]))]
  |int j=>let#[t',rfl]:=ry;erw[eq_int (cZ I q yD)]
  |str j=>let#[t',rfl]:=ry;erw[PySem.EqMixed.eq_int_str (cZ I q (#v[]))]
  |_=>erw[absurd (show ϑ=ζ from hs) a9]
 |str i=>
  let#[t,rfl]:=rx;cases y with
  |cf=>cases ry;erw[PySem.EqNone.eq_str_none (cZ I q (#v[]))]
  |bl j=>cases ry;erw[PySem.EqMixed.eq_str_bool (cZ I q (#v[]))]
  |int j=>let#[t',rfl]:=ry;erw[PySem.EqMixed.eq_str_int (cZ I q (#v[]))]
  |str j=>let#[t',rfl]:=ry;erw[eq_str (cZ I q DQ)]
  |_=>erw[absurd (show ϑ=ζ from hs) a9]
 |BY i=>
  let#[t,rfl]:=rx;cases y with
  |BY j=>let#[t',rfl]:=ry;erw[PySem.W.eq_bytes (cZ I q DS)]
  |_=>erw[absurd (show ϑ=ζ from hs) a9]
 |_=>cases y<;>exact absurd (show ϑ=ζ from hs) a9
def UO:iw X (bH .NotEq) rNe:=by
 x_go;let#[hs,q]:=h;cases x with
 |cf=>
  cases rx;cases y with
  |cf=>cases ry;erw[PySem.EqNone.ne_none_none (cZ I q (#v[]))]
  |bl j=>cases ry;erw[PySem.EqNone.ne_none_bool (cZ I q (#v[]))]
  |int j=>let#[t',rfl]:=ry;erw[PySem.EqNone.ne_none_int (cZ I q (#v[]))]
  |str j=>let#[t',rfl]:=ry;erw[PySem.EqNone.ne_none_str (cZ I q (#v[]))]
  |_=>erw[absurd (show ϑ=ζ from hs) a9]
 |bl i=>
  cases rx;cases y with
  |cf=>cases ry;erw[PySem.EqNone.ne_bool_none (cZ I q (#v[]))]
  |bl j=>cases ry;erw[ne_bool (cZ I q (congrArg not Co))]
  |str j=>let#[t',rfl]:=ry;erw[PySem.EqMixed.ne_bool_str (cZ I q (#v[]))]
  |_=>erw[absurd (show ϑ=ζ from hs) a9]
 |int i=>
  let#[t,rfl]:=rx;cases y with
  |cf=>cases ry;erw[PySem.EqNone.ne_int_none (cZ I q (#v[]))]
  |int j=>let#[t',rfl]:=ry;erw[ne_int (cZ I q (congrArg not yD))]
  |str j=>let#[t',rfl]:=ry;erw[PySem.EqMixed.ne_int_str (cZ I q (#v[]))]
  |_=>erw[absurd (show ϑ=ζ from hs) a9]
 |str i=>
  let#[t,rfl]:=rx;cases y with
  |cf=>cases ry;erw[PySem.EqNone.ne_str_none (cZ I q (#v[]))]
  |bl j=>cases ry;erw[PySem.EqMixed.ne_str_bool (cZ I q (#v[]))]
  |int j=>let#[t',rfl]:=ry;erw[PySem.EqMixed.ne_str_int (cZ I q (#v[]))]
  |str j=>let#[t',rfl]:=ry;erw[ne_str (cZ I q (congrArg not DQ))]
  |_=>erw[absurd (show ϑ=ζ from hs) a9]
 |BY i=>
  let#[t,rfl]:=rx;cases y with
  |BY j=>let#[t',rfl]:=ry;erw[PySem.W.ne_bytes (cZ I q (congrArg not DS))]
  |_=>erw[absurd (show ϑ=ζ from hs) a9]
 |_=>cases y<;>exact absurd (show ϑ=ζ from hs) a9
def UP:iw X (bH .Lt) (Fw λi j=>.bl (decide (i<j))):=LZ λ_ _ _ _ _ _ _ q=>lt_int q
def UQ:iw X (bH .LtE) (Fw λi j=>.bl (decide (i<=j))):=LZ λ_ _ _ _ _ _ _ q=>le_int q
def UR:iw X (bH .Gt) (Fw λi j=>.bl (decide (j<i))):=LZ λ_ _ _ _ _ _ _ q=>gt_int q
def US:iw X (bH .GtE) (Fw λi j=>.bl (decide (j<=i))):=LZ λ_ _ _ _ _ _ _ q=>ge_int q
def Fx:iw X (bH .In) (λx y H Q=>∃i j,x=.str i/\y=.str j/\Q (.bl (!(Builtin.Str.occurrences j i 0 j.length 1).isEmpty)) H):=by
 x_go;let#[i,j,rfl,rfl,q]:=h;let#[t,rfl]:=rx;let#[t',rfl]:=ry;erw[in_str (cZ I q rfl)]
def P6:iw X (bH .Is) (λx y H Q=>y=.cf/\Q (.bl (decide (x=.cf))) H):=by
 x_go;let#[rfl,q]:=h;cases ry;refine is_none_gen (cZ I q ?_);cases x<;>first
  | (cases rx;rfl)
  | (let#[t,rfl]:=rx;rfl)
def L4:iw X (bH .IsNot) (λx y H Q=>y=.cf/\Q (.bl (!decide (x=.cf))) H):=by
 x_go;let#[rfl,q]:=h;cases ry;refine isnot_none_gen (cZ I q ?_);cases x<;>first
  | (cases rx;rfl)
  | (let#[t,rfl]:=rx;rfl)
def L5(ho:iw X (bH op) r)(ha:PE X a ta)(hb:PE X b tb)(hm:behindInMarks op b=ϑ):PE X (.Compare a [op] [b] pos) (XO r ta tb):=by
 k_ne;erw[wpAny_Compare1 (PN ha hb I h λv u s2 x y H2 I2 rx ry q=>ho pZ s2 σ H2 x y v u Q I2 rx ry q) hm]
abbrev UT(t:TE):TT:=λσ H Q=>t σ H λx H'=>∃k,x=.bl k/\Q k H'
def L6{op:CmpOp}{r:R2}(ho:iw X (bH op) r)(ha:PE X a ta)(hb:PE X b tb)(hm:behindInMarks op b=ϑ):PT X (.Compare a [op] [b] pos) (UT (XO r ta tb)):=by
 intro pZ s σ H Q I h;refine wpAny_isTrue_Compare1 (eG (ha pZ s σ H _ I h) λv s1 #[x,H1,I1,r1,q1]=>eG (hb pZ s1 σ H1 _ I1 q1) λu s2 #[y,H2,I2,r2,q2]=>
  eG (ho pZ s2 σ H2 x y v u _ I2 r1 r2 q2) λc s3 #[z,H3,I3,r3,k,e,q3]=>?_) hm
 subst e;cases r3;erw[cP #[H3,I3,q3]]
abbrev P7(K:aJ)(x:V)(H:Hp)(k:Bool):Prop:=
 match x with
 |.cf=>k=ϑ
 |.bl b=>k=b
 |.int i=>k=(i !=0)
 |.str y=>y.length<=sizeLine/\k=((y.length:Int) !=0)
 |.BY y=>y.size<=sizeLine/\k=((y.size:Int) !=0)
 |.ref p=>(∃xs,gX K H p xs/\k = !xs.isEmpty)\/(∃xs,oG K H p xs/\k = !xs.isEmpty)\/∃kvs,H p=ξ (.dK kvs)/\k = !kvs.isEmpty
 |_=>False
def Cp{κ:Type}{kvs:List (κ×V)}{vs:List (κ×Value)}(r:KV kvs vs):(!vs.isEmpty)= !kvs.isEmpty:=by
 cases r<;>rfl
def vc{xs:List V}{its:List Value}(r:Vals xs its):(!its.toArray.isEmpty)= !xs.isEmpty:=by
 cases r<;>simp
def oS:(sizeLine:Nat)<2^63:=by rw[lG];decide
def P8:YH X (λx H Q=>∃k,P7 X.K x H k/\Q k H):=by
 intro pZ s σ H x v Q I rx h;let#[k,e,q]:=h;have hl:=oS;have hs:sizeLine=16777216:=lG;cases x with
 |cf=>
  cases rx;have e':k=ϑ:=e;subst e';erw[truthy_none #[H,I,q]]
 |bl b=>
  cases rx;have e':k=b:=e;subst e';erw[cP #[H,I,q]]
 |int i=>
  let#[t,rfl]:=rx;have e':k=(i !=0):=e;subst e';erw[PySem.P.truthy_int #[H,I,q]]
 |str y=>
  let#[t,rfl]:=rx;obtain⟨hy,e'⟩:y.length<=sizeLine/\k=((y.length:Int) !=0):=e;subst e';erw[PySem.P.truthy_str ∅ #[H,I.tok _,q]]
 |BY y=>
  let#[t,rfl]:=rx;obtain⟨hy,e'⟩:y.size<=sizeLine/\k=((y.size:Int) !=0):=e;subst e';erw[PySem.W.truthy_bytes ∅ #[H,I.tok _,q]]
 |ref p=>
  cases rx;have e':(∃xs,gX X.K H p xs/\k = !xs.isEmpty)\/(∃xs,oG X.K H p xs/\k = !xs.isEmpty)\/∃kvs,H p=ξ (.dK kvs)/\k = !kvs.isEmpty:=e;rcases e' with⟨xs,hx,e'⟩|⟨xs,hx,e'⟩|⟨kvs,hx,e'⟩
  .subst e'
   let#[its,r,pl,hz]:=I.list hx;have hlen:=r.length;erw[wpAny_truthy_list pl.isList (by dsimp[aD];omega) #[H,I.tok _,by rw[vc r];exact q]]
  .subst e'
   let#[its,r,pl,hz]:=I.tuple hx;have hlen:=r.length;erw[truthy_tuple pl (by dsimp[aD];omega) #[H,I.tok _,by rw[vc r];exact q]]
  .subst e'
   obtain⟨hz,hS,vs,r,m⟩:kvs.length<=sizeLine/\(p==cg)=ϑ/\∃vs,KV kvs vs/\s.heap.DictOf (dh X.prog X.w) p vs:=I.dE p _ hx;have hlen:kvs.length=vs.length:=Paired.length r;erw[wpAny_truthy_dict hS m ∅ #[H,I.tok _,by rw[Cp r];exact q]]
 |_=>exact(show False from e).elim
def HV(ha:PE X a ta)(he:∀whole,isTrue a X.env whole=(do let v <-whole;standAt a.pos;holding [v] (truthy v))):
  PT X a (λσ H Q=>ta σ H λx H'=>∃k,P7 X.K x H' k/\Q k H'):=by
 k_ne;rwa[isTrue_plain (eG (ha pZ s σ H _ I h) λv s1 h9=>?_) (he _)];let#[x,H1,I1,r1,q1]:=h9;erw[P8 pZ s1 σ H1 x v Q I1 r1 q1]
def Cq:iw X (cX .Add) (λx y H Q=>∃i j,x=.str i/\y=.str j/\i.length+j.length<=sizeLine/\Q (.str (i++j)) H):=by
 x_go;let#[i,j,rfl,rfl,hz,q]:=h;let#[t,rfl]:=rx;let#[t',rfl]:=ry;erw[add_str (λt' tk=>#[.str (i++j),H,I.tok _,#[_,rfl],q]) hz]
def AB:iw X (iD .Add) (λx y H Q=>∃i j,x=.str i/\y=.str j/\i.length+j.length<=sizeLine/\Q (.str (i++j)) H):=by
 x_go;let#[i,j,rfl,rfl,hz,q]:=h;let#[t,rfl]:=rx;let#[t',rfl]:=ry;erw[iadd_str (λt' tk=>#[.str (i++j),H,I.tok _,#[_,rfl],q]) hz]
def vals1(r:Vals [x] us):∃u,us=[u]/\RelV x u:=by
 cases r with
 |cons r1 r2=>cases r2;exact#[_,rfl,r1]
abbrev UU(K:aJ)(x:V)(H:Hp)(n:Nat):Prop:=
 match x with
 |.str y=>y.length<=sizeLine/\n=y.length
 |.BY y=>y.size<=sizeLine/\n=y.size
 |.ref p=>(∃xs,gX K H p xs/\n=xs.length)\/∃xs,oG K H p xs/\n=xs.length
 |_=>False
def HW:iH X (.builtin "len") (λxs H Q=>∃x n,xs=[x]/\UU X.K x H n/\Q (.int n) H):=by
 k_go;let#[x,n,rfl,e,q]:=h;let#[u,rfl,rx]:=vals1 r;have hl:=oS;have hs:sizeLine=16777216:=lG;cases x with
 |str y=>
  let#[t,rfl]:=rx;obtain⟨hy,e'⟩:y.length<=sizeLine/\n=y.length:=e;subst e';erw[len_str ∅ #[.int _,H,I.tok _,#[_,rfl],q]]
 |BY y=>
  let#[t,rfl]:=rx;obtain⟨hy,e'⟩:y.size<=sizeLine/\n=y.size:=e;subst e';erw[PySem.W.len_bytes ∅ #[.int _,H,I.tok _,#[_,rfl],q]]
 |ref p=>
  cases rx;have e':(∃xs,gX X.K H p xs/\n=xs.length)\/∃xs,oG X.K H p xs/\n=xs.length:=e;rcases e' with⟨xs,hx,e'⟩|⟨xs,hx,e'⟩
  .subst e'
   let#[its,r',pl,hz]:=I.list hx;have hlen:=r'.length;erw[Calls.call_len_list pl.isList (by dsimp[aD];omega) #[.int xs.length,H,I.tok _,#[_,by dsimp[aD];rw[hlen]],q]]
  .subst e'
   let#[its,r',pl,hz]:=I.tuple hx;have hlen:=r'.length;erw[len_tuple pl (by dsimp[aD];omega) #[.int xs.length,H,I.tok _,#[_,by dsimp[aD];rw[hlen]],q]]
 |_=>exact(show False from e).elim
end
structure Cr(h:Heap)(x dx C:Addr)(mA:Str->Option Value):Prop where
 obj:h.get? x=ξ (fc C dx)
 ns:h.Ns1 dx mA
 ne:dx≠x
def Fy{h:Heap}{dx:Addr}{mA:Str->Option Value}(n:h.Ns1 dx mA):∃od,h.get? dx=ξ od/\∀name,oM name od=ξ (mA name):=by
 let#[o,es,ep,ho,hd,hk,_,hm]:=n;refine#[o,ho,λname=>?_];have e:=hm name;unfold nsFind findBy at e;rw[<-Array.find?_toList] at e;unfold oM;rw[hd]
 dsimp only;split
 .rename_i y q
  rw[q] at e;erw[congrArg ξ e]
 .rename_i q
  rw[q] at e;have a:es.toList.any (·.refKey)=ϑ:=by
   rw[List.any_eq_false]
   intro y hy;let#[z,t,hkey]:=hk y (Array.mem_toList_iff.mp hy);simp[DictEntry.refKey,hkey]
  have a':¬es.toList.any (·.refKey)=ζ:=%[a|a9]
  rw[if_neg a']
  erw[congrArg ξ e]
def Cr.look(I:Cr h x dx C mA):∃od,PySem.W.InstAt h x (fc C dx) C (ξ od)/\∀name,oM name od=ξ (mA name):=
 let ⟨od,ho,hl⟩:=Fy I.ns
 #[od,#[I.obj,rfl,rfl,ho],hl]
section
variable{prog:bK}{w:cx}{A:dC}{E:Value->aE->Prop}{s:aE}{K:aJ}{x dx C f:Addr}{mA:Str->Option Value}{name:Str}{v:Value}
def get_map(X:K.In s.heap)(I:Cr s.heap x dx C mA)(hg:mH K C name=ζ)(hh:qZ K C=ζ)
  (ha:eM K (.ref C) name=ξ ψ) (hv:mA name=ξ v) (hv':E8 v=ζ) (h:Q v {s with toks:=s.toks+1}):
  wpAny (bf prog w) A (getAttr (.ref x) name expr) Q E s:=by
 let#[od,J,hl]:=I.look;erw[PySem.W.get_value X J (p6 hg).1 (PySem.W.findObj_own hh ha rfl (by rw[hl,hv])) hv' h]
def HX(X:K.In s.heap)(I:Cr s.heap x dx C mA)(hg:mH K C name=ζ)
  (hf:eM K (.ref C) name=ξ (ξ (.ref f))) (ht:yo K (.ref f)=ζ) (hv:mA name=ψ) (h:Q (.ref f,[.ref x]) s):
  wpAny (bf prog w) A (yp (.ref x) name pl) Q E s:=by
 let#[od,J,hl]:=I.look;erw[PySem.W.method_fn X J (p6 hg).1 (p6 hg).2 hf (beq_iff_eq.mp ht) (by show(oM name od).map (·.isSome)=ξ ϑ;rw[hl,hv];rfl) h]
def L7(X:K.In s.heap)(I:Cr s.heap x dx C mA)
  (hs:eM K (.ref C) "__setattr__"=ξ (ξ (.builtin "object.__setattr__"))) (hp:DJ K C=ζ) (ht:ue K C name=ξ ψ) (hh:qZ K C=ζ)
  (hw:Ae mA ns) (hsz:ns.length<=sizeLine)
  (h:∀h',Cr h' x dx C (λy=>if y=name then ξ v else mA y)->gC dx s.heap h'->Q () {s with heap:=h',toks:=s.toks+2}):
  wpAny (bf prog w) A (setAttr (.ref x) name v) Q E s:=by
 let#[od,J,hl]:=I.look;refine PySem.W.set_plain X J hs (PySem.W.osa_open (s:={s with toks:=s.toks+1}) (r:=ψ) X J hp ht λb=>?_);let#[cd,hc,hd']:=PySem.W.any_some hh;have hx:s.heap.get? x=ξ #[.ref C,ξ dx,.plain,#[]]:=I.obj;refine af (aC (af (af (wpAny_loadPart hx (af (PySem.W.Looks.here (s:={s with toks:=s.toks+1}) (PySem.W.looks_clsIn X hc) ?_))))));rw[hd']
 rwa[aC (a:=ξ dx) (af (aC (af ?_)))];refine wpAny_nsSet1 (s:={s with toks:=s.toks+1}) I.ns λh' hn2 hs2=>?_
 let#[oD,esD,epD,hoD,hdD,hcD]:=hn2.count (PySem.Within.cons name v hw);rwa[af (wpAny_lookBehind hoD (%[hdD|pastItsLine_dict (aH hcD (by rw[aU];omega))]) ?_)];erw[aC (h _ #[(hs2.2 _ (cM I.ne)).trans I.obj,hn2,I.ne] hs2)]
def HY(X:K.In s.heap)(hm:G8 K C=ζ)
  (hi:eM K (.ref C) "__init__"=ξ (ξ (.ref f))) (hf:PySem.W.typeIn K (.ref f)=ξ (.type "function"))
  (h:oB (bf prog w) (A.under (.builtin "type.__call__" #[.ref C::vs,kw])) (.call (.ref f) #[.ref (s.heap.objs.size+1)::vs,kw]) (PySem.W.InitBack (s.heap.objs.size+1) R)
   {s with heap:=(s.heap.push dw).push (fc C s.heap.objs.size)}):
  oB (bf prog w) A (.call (.ref C) #[vs,kw]) R s:=by
 let#[hh,g,d,t,os]:=s;erw[PySem.W.make_core (PySem.W.makes_of X hm) (PySem.W.looks_findIn X hi) (λself=>PySem.W.bind_fn X self hf) (.inl rfl) h]
end
abbrev ko(f:Str)(v:V):List (Str×V)->List (Str×V)
 |[]=>[(f,v)]
 | (g,x)::r=>if g=f then(g,v)::r else(g,x)::ko f v r
def tV(f g:Str)(v:V):∀fs:List (Str×V),(ko f v fs).lookup g=if g=f then ξ v else fs.lookup g
 |[]=>by
  show fB g [(f,v)]=_
  by_cases h:g=f
  .have hb:(g==f)=ζ:=beq_iff_eq.mpr h
   dsimp[fB,hb,if_pos h]
  .have hb:(g==f)=ϑ:=beq_eq_false_iff_ne.mpr h
   dsimp[fB,hb,if_neg h]
 | (k,x)::r=>by
  have ih:=tV f g v r;rw[show ko f v ((k,x)::r)=(if k=f then(k,v)::r else(k,x)::ko f v r) from rfl]
  by_cases hk:k=f
  .rw[if_pos hk]
   by_cases h:g=k
   .have hb:(g==k)=ζ:=beq_iff_eq.mpr h
    dsimp[fB,hb,if_pos (h.trans hk)]
   .have hb:(g==k)=ϑ:=beq_eq_false_iff_ne.mpr h
    dsimp[fB,hb,if_neg (λe:g=f=>h (e.trans hk.symm))]
  .rw[if_neg hk]
   by_cases h:g=k
   .have hb:(g==k)=ζ:=beq_iff_eq.mpr h
    dsimp[fB,hb,if_neg (λe:g=f=>hk (h.symm.trans e))]
   .have hb:(g==k)=ϑ:=beq_eq_false_iff_ne.mpr h
    dsimp[fB,hb];erw[ih]
def sN(f:Str)(v:V):∀fs:List (Str×V),f∈(ko f v fs).map (·.1)/\∀g,g∈fs.map (·.1)->g∈(ko f v fs).map (·.1)
 |[]=>#[by simp[ko],λg h=>by simp at h]
 | (k,x)::r=>by
  let#[i1,i2]:=sN f v r;rw[show ko f v ((k,x)::r)=(if k=f then(k,v)::r else(k,x)::ko f v r) from rfl]
  by_cases hk:k=f
  .rw[if_pos hk]
   subst hk;exact#[#v[],λg h=>by simpa using h]
  .rw[if_neg hk]
   refine#[?_,λg h=>?_]
   .rw[aw]
    erw[av _ i1]
   .rw[aw] at h ⊢
    rcases aM.mp h with e|e
    .erw[aM.mpr (.inl e)]
    .erw[av _ (i2 g e)]
def tW(f:Str)(v:V):∀fs:List (Str×V),(ko f v fs).length<=fs.length+1
 |[]=>by simp[ko]
 | (k,x)::r=>by
  have ih:=tW f v r;rw[show ko f v ((k,x)::r)=(if k=f then(k,v)::r else(k,x)::ko f v r) from rfl]
  by_cases hk:k=f
  .rw[if_pos hk,aU,aU];omega
  .rw[if_neg hk,aU,aU];omega
def mq.some_of(r:mq (ξ v) o):∃u,o=ξ u/\RelV v u:=by
 cases o with
 |none=>exact(show False from r).elim
 |some u=>exact#[u,rfl,r]
def mq.none_of(r:mq ψ o):o=ψ:=by
 cases o with
 |none=>rfl
 |some u=>exact(show False from r).elim
def Fz(r:RelV v u):E8 u=ζ:=by
 cases v with
 |cf=>cases (show u=gh from r);rfl
 |bl b=>cases (show u=iq b from r);rfl
 |int i=>let#[t,e]:=(show ∃t,u=lD i t from r);cases e;rfl
 |str x=>let#[t,e]:=(show ∃t,u=lE x t from r);cases e;rfl
 |BY b=>let#[t,e]:=(show ∃t,u=Value.bytes b t from r);cases e;rfl
 |XI b=>let#[t,e]:=(show ∃t,u=Value.float b t from r);cases e;rfl
 |ref a=>cases (show u=bp a from r);rfl
 |ty n=>cases (show u=E7 n from r);rfl
section
variable{P:bK}{w:cx}{H H':Hp}{h h':Heap}{a C dx:Addr}{fs fs':List (Str×V)}
def yE(dE:qc P w H h)(e:H a=ξ (.ins C dx fs)):∃mA,Cr h a dx C mA/\(∀f,mq (fs.lookup f) (mA f))/\Ae mA (fs.map (·.1))/\fs.length<=1000/\H dx=ξ (.own a):=by
 let#[d,z,ne,ob,mA,n,r,q]:=(show dM P w H h a (.ins C dx fs) from dE a _ e)
 exact#[mA,#[ob,n,ne],r,q,z,d]
end
structure xw(K:aJ)(C:Addr):Prop where
 pg:mH K C Str.empty=ζ
 hd:qZ K C=ζ
 po:DJ K C=ζ
 sa:eM K (.ref C) "__setattr__"=ξ (ξ (.builtin "object.__setattr__"))
def xw.get{K:aJ}{C:Addr}(c:xw K C)(f:Str):mH K C f=ζ:=c.pg
abbrev mw(K:aJ)(C:Addr)(f:Str):Prop:=eM K (.ref C) f=ξ ψ
def mw.UW{K:aJ}{C:Addr}{f:Str}(n:mw K C f):ue K C f=ξ ψ:=by
 unfold ue;rw[show eM K (.ref C) f=ξ ψ from n]
 rfl
structure Meth(K:aJ)(C:Addr)(m:Str)(f:Addr):Prop where
 at_:eM K (.ref C) m=ξ (ξ (.ref f))
 fn:yo K (.ref f)=ζ
 kp:jf K (.ref f)=ζ
section
variable{X:Cx}{pZ:List (Addr×Obj)}{σ:St}{H:Hp}{s:aE}{a C dx:Addr}{fs:List (Str×V)}{f:Str}{v:V}{A:dC}{E:Value->aE->Prop}
def vd{b:Bool}{Q:Value->aE->Prop}(I:Inv X pZ σ H s)(e:H a=ξ (.ins C dx fs))(c:xw X.K C)(n:mw X.K C f)(l:fs.lookup f=ξ v)
  (h:∀u s',Inv X pZ σ H s'->RelV v u->Q u s'):wpAny (bf X.prog X.w) A (getAttr (.ref a) f b) Q E s:=by
 let#[mA,O,r,_,_,_]:=yE I.dE e;let#[u,hu,ru]:=mq.some_of (v:=v) (o:=mA f) (by rw[<-l];erw[r f]);erw[get_map I.yB O (c.get f) c.hd n hu (Fz ru) (h u _ (I.tok _) ru)]
def ve{m:Str}{g:Addr}{pl:Sem Bool}{Q:Value×List Value->aE->Prop}(I:Inv X pZ σ H s)(e:H a=ξ (.ins C dx fs))(c:xw X.K C)(k:Meth X.K C m g)(l:fs.lookup m=ψ)
  (h:Q (.ref g,[.ref a]) s):wpAny (bf X.prog X.w) A (yp (.ref a) m pl) Q E s:=by
 let#[mA,O,r,_,_,_]:=yE I.dE e;have hn:mA m=ψ:=mq.none_of (by rw[<-l];erw[r m]);erw[HX I.yB O (c.get m) k.at_ k.fn hn h]
def vf{y:V}{u:Value}{Q:Unit->aE->Prop}(I:Inv X pZ σ H s)(e:H a=ξ (.ins C dx fs))(c:xw X.K C)(n:mw X.K C f)(hl:fs.length<1000)(ry:RelV y u)
  (h:∀s',Inv X pZ σ (upd H a (.ins C dx (ko f y fs))) s'->Q () s'):wpAny (bf X.prog X.w) A (setAttr (.ref a) f u) Q E s:=by
 let#[mA,O,r,wi,_,ho]:=yE I.dE e;have hz:(fs.map (·.1)).length<=sizeLine:=by rw[ae,lG];omega
 rwa[L7 I.yB O c.sa c.po n.UW c.hd wi hz λh' O' sb=>h _ ?_]
 have hd:∃o,h'.get? dx=ξ o:=let ⟨o,_,_,e',_⟩:=O'.ns;#[o,e'];rwa[I.write (x:=a) (e:=dx) (%[e|eU]) (.inr ho) (λb q hb z=>(sb.2 b hb).trans z) hd ?_];refine#[%[cq O.ne|ho],?_,O.ne,O'.obj,_,O'.ns,λg=>?_,λg hg=>?_]
 .have:=tW f y fs;omega
 .show mq ((ko f y fs).lookup g) (if g=f then ξ u else mA g)
  rw[tV]
  by_cases q:g=f
  .rw[if_pos q,if_pos q];erw[ry]
  .rw[if_neg q,if_neg q];erw[r g]
 .by_cases q:g=f
  .rw[q];exact(sN f y fs).1
  .refine(sN f y fs).2 g (wi g λz=>hg ?_)
   show(if g=f then ξ u else mA g)=ψ
   rw[if_neg q];erw[z]
def Inv.made(I:Inv X pZ σ H s):Inv X pZ σ (upd (upd H s.heap.objs.size (.own (s.heap.objs.size+1))) (s.heap.objs.size+1) (.ins C s.heap.objs.size []))
  {s with heap:=(s.heap.push dw).push (fc C s.heap.objs.size)}:=by
 have e1:(s.heap.push dw).get? s.heap.objs.size=ξ dw:=aX s.heap rfl;have e2:((s.heap.push dw).push (fc C s.heap.objs.size)).get? (s.heap.objs.size+1)=ξ (fc C s.heap.objs.size):=by
  have:=aX (s.heap.push dw) (o:=fc C s.heap.objs.size) rfl
  rwa [fQ] at this
 have e3:(s.heap.push dw).Ns s.heap.objs.size (λ_=>ψ):=#[dw,#[],_,e1,rfl,(λe he=>absurd he (#v[])),λ_=>rfl]
 have I1:=I.laid (a:=s.heap.objs.size) (o:=.own (s.heap.objs.size+1)) (h':=s.heap.push dw) (t':=s.toks) (λb u q=>aG _ q) (ar _) #[_,e1];rwa[I1.laid (a:=s.heap.objs.size+1) (o:=.ins C s.heap.objs.size []) (t':=s.toks) (λb u q=>aG _ q) (B7 (fQ _ _)) ?_];have ne:s.heap.objs.size≠s.heap.objs.size+1:=aV (cB _);refine#[by rw[cq ne,b8],bJ _,ne,e2,λ_=>ψ,(Heap.Ns1.of_empty e3).at λo q=>aG _ q,λ_=>eU,λy hy=>absurd rfl hy]
def L8{prog:bK}{w:cx}{env:Env}{e:Expr}{f:Str}{pos:Pos}{s:aE}{Q:Value->aE->Prop}(hb:iE e f env (eval e env)=eval e env)
  (h:wpAny (bf prog w) A (eval e env) (λo s₁=>wpAny (bf prog w) A (getAttr o f ζ) Q E s₁) E s):wpAny (bf prog w) A (eval (.Attribute e f pos) env) Q E s:=
 Attribute_any_ h (by rw[arm_eval_Attribute,hb])
end
abbrev YK(K:aJ)(ta:TE)(f:Str):TE:=λσ H Q=>ta σ H λx H1=>∃a C dx fs v,x=.ref a/\H1 a=ξ (.ins C dx fs)/\xw K C/\mw K C f/\fs.lookup f=ξ v/\Q v H1
abbrev YL(K:aJ)(ta tv:TE)(f:Str):TS:=λD σ H=>tv σ H λy H1=>ta σ H1 λx H2=>∃a C dx fs,x=.ref a/\H2 a=ξ (.ins C dx fs)/\xw K C/\mw K C f/\fs.length<1000 /\
 D.nx σ (upd H2 a (.ins C dx (ko f y fs)))
abbrev YM(X:Cx)(op:mW)(rd:V->V->Hp->VK->Prop):Prop:=
 ∀(pZ:List (Addr×Obj))(s:aE)(σ:St)(H:Hp)(x y:V)(u v:Value)(Q:VK),Inv X pZ σ H s->RelV x u->RelV y v->rd x y H Q->wpAny (bf X.prog X.w) X.A (iD op u v) (EP X pZ σ Q) X.xe s
abbrev L9(K:aJ)(ta tv:TE)(rd:V->V->Hp->VK->Prop)(f:Str):TS:=λD σ H=>ta σ H λx H1=>∃a C dx fs v,x=.ref a/\H1 a=ξ (.ins C dx fs)/\xw K C/\mw K C f/\fs.lookup f=ξ v /\
 tv σ H1 λy H2=>rd v y H2 λz H3=>∃dx' fs',H3 a=ξ (.ins C dx' fs')/\fs'.length<1000/\D.nx σ (upd H3 a (.ins C dx' (ko f z fs')))
section
variable{X:Cx}{o e value:Expr}{f:Str}{pos pos' tpos:Pos}{ta tv:TE}
def P9(he:PE X e ta)(hb:iE e f X.env (eval e X.env)=eval e X.env):PE X (.Attribute e f pos) (YK X.K ta f):=by
 k_ne;rwa[L8 hb (eG (he pZ s σ H _ I h) λu s1 h9=>?_)];let#[x,H1,I1,rx,a,C,dx,fs,v,ex,ea,c,n,l,q]:=h9;subst ex;obtain rfl:u=bp a:=rx;erw[vd I1 ea c n l λu' s2 I2 ru=>#[v,H1,I2,ru,q]]
def Qa(ha:PE X o ta)(hv:PE X value tv)(hs:fO value (ξ (.Attribute o f pos')) pos.line X.env=pure ϑ):PS X (.Assign [.Attribute o f pos'] value pos) (YL X.K ta tv f):=by
 intro pZ s σ H D I h;rwa[plainObj_wpAny_Assign_Attribute (eG (hv pZ s σ H _ I h) λu s1 h9=>?_) hs];let#[y,H1,I1,ry,q]:=h9;rwa[eG (ha pZ s1 σ H1 _ I1 q) λov s2 h9=>?_]
 let#[x,H2,I2,rx,a,C,dx,fs,ex,ea,c,n,l,q2]:=h9;subst ex;obtain rfl:ov=bp a:=rx;erw[vf I2 ea c n l ry λs3 I3=>#[σ,_,I3,q2]]
def FA{op:mW}{rd:V->V->Hp->VK->Prop}(ha:PE X o ta)(hv:PE X value tv)(hop:YM X op rd):PS X (.AugAssign (.Attribute o f tpos) op value pos) (L9 X.K ta tv rd f):=by
 intro pZ s σ H D I h;rwa[wpAny_AugAssign_AttributeAny (eG (ha pZ s σ H _ I h) λov s1 h9=>?_)];let#[x,H1,I1,rx,a,C,dx,fs,v,ex,ea,c,n,l,q]:=h9;subst ex;obtain rfl:ov=bp a:=rx;rwa[vd I1 ea c n l λu s2 I2 ru=>eG (hv pZ s2 σ H1 _ I2 q) λw3 s3 h9=>?_]
 let#[y,H2,I3,ry,q3]:=h9;rwa[eG (hop pZ s3 σ H2 v y u w3 _ I3 ru ry q3) λw4 s4 h9=>?_]
 let#[z,H3,I4,rz,dx',fs',ea',l',q4]:=h9;erw[vf I4 ea' c n l' rz λs5 I5=>#[σ,_,I5,q4]]
end
structure jx(k:Nat)(A:dC):Prop where
 hd:A.handled=ψ
 dp:A.depth+3*k+5<recursionLimit
 un:A.units+16*k+200<d6
def jx.mono(r:jx k A)(h:j<=k):jx j A:=#[r.hd,by have:=r.dp;omega,by have:=r.un;omega]
def jx.deeper(r:jx (k+1) A)(env:Env):jx k (A.deeper env):=
 #[r.hd,by have:=r.dp;show A.depth+1+3*k+5<_;omega,by have:=r.un;show A.units+3+16*k+200<_;omega]
def Cs{A:dC}{C:Addr}{us:List Value}{kw:List (Str×Value)}:(A.under (.builtin "type.__call__" #[.ref C::us,kw])).depth=A.depth+1:=by
 first|rfl|simp[zR,Code.weight,Code.isCreation,Code.isGuard,Code.isCaller,Code.frames,BP,guardIds]
def Ct{A:dC}{C:Addr}{us:List Value}{kw:List (Str×Value)}:(A.under (.builtin "type.__call__" #[.ref C::us,kw])).units=A.units+1:=by
 first|rfl|simp[zR,Code.cUnits,Code.frames,BP]
def jx.make(r:jx (k+1) A)(C:Addr)(us:List Value)(kw:List (Str×Value)):jx k (A.under (.builtin "type.__call__" #[.ref C::us,kw])):=
 #[r.hd,by have:=r.dp;rw[Cs];omega,by have:=r.un;rw[Ct];omega]
def jx.depth(r:jx k A):A.depth<recursionLimit:=by have:=r.dp;omega
abbrev Ma:TA:=λ_ H Q=>Q [] H
abbrev UX(ta:TE)(tr:TA):TA:=λσ H Q=>ta σ H λx H1=>tr σ H1 λxs H2=>Q (x::xs) H2
section
variable{X:Cx}{e:Expr}{es:List Expr}{te:TE}{t:TA}{pos:Pos}
def qy:PA X [] Ma:=λ_ _ _ _ H Q I h=>jv #[[],H,I,.nil,h]
def lO(ha:PE X e te)(hr:PA X es t)(hs:bz (e::es) X.env=(ϑ,eval e X.env)::bz es X.env:=by rfl):PA X (e::es) (UX te t):=by
 intro pos pZ s σ H Q I h;rw[hs]
 show wpAny _ _ (spliced ((ϑ,eval e X.env)::fN pos (bz es X.env))) _ _ s
 rwa[gu (eG (ha pZ s σ H _ I h) λu s1 h9=>?_)];let#[x,H1,I1,r1,q1]:=h9;rwa[eG (hr pos pZ s1 σ H1 _ I1 q1) λus s2 h9=>?_]
 let#[xs,H2,I2,r2,q2]:=h9;exact#[x::xs,H2,I2,.cons r1 r2,q2]
abbrev YN(t:TA):TE:=λσ H Q=>t σ H λxs H1=>xs.length<=sizeLine/\∀p,H1 p=ψ->Q (.ref p) (upd H1 p (.tup xs))
abbrev YO(t:TA):TE:=λσ H Q=>t σ H λxs H1=>xs.length<=sizeLine/\∀p,H1 p=ψ->Q (.ref p) (upd H1 p (.lst xs))
def Qb{x1}(h:PA X es t):PE X (.Tuple es x1 pos) (YN t):=by
 intro pZ s σ H Q I hq;rwa[wpAny_Tuple_spliced (eG (h pos pZ s σ H _ I hq) λus s1 h9=>?_)];let#[xs,H1,I1,r,z,q]:=h9;refine#[by rw[<-r.length];erw[z],?_];have hf:H1 s1.heap.objs.size=ψ:=I1.dE.fresh (ar _);refine#[.ref s1.heap.objs.size,upd H1 s1.heap.objs.size (.tup xs),I1.laid (t':=s1.toks) (λb u e=>aG _ e) (ar _) ?_,rfl,q _ hf];exact#[z,us,r,#[_,aX _ rfl,rfl,_,rfl]]
def Qc(h:PA X es t):PE X (.List es pos) (YO t):=by
 intro pZ s σ H Q I hq;rwa[wpAny_List_spliced (eG (h pos pZ s σ H _ I hq) λus s1 h9=>?_)];let#[xs,H1,I1,r,z,q]:=h9;refine#[by rw[<-r.length];erw[z],?_];have hf:H1 s1.heap.objs.size=ψ:=I1.dE.fresh (ar _);refine#[.ref s1.heap.objs.size,upd H1 s1.heap.objs.size (.lst xs),I1.laid (t':=s1.toks) (λb u e=>aG _ e) (ar _) ?_,rfl,q _ hf];exact#[z,us,0,r,aX _ rfl]
end
@[reducible]def Sp:=List V->Hp->VK->XK->Prop
@[reducible]def Hj:=List Env->Hp->aE->XK->Value->aE->Prop
structure Cu(P:bK)(w:cx)(K:aJ)(mg:Str->Option Value)(base:Heap)(A:dC)(outer:List Env)(s:aE)(H:Hp):Prop where
 frames:A.frames=ξ outer
 mod:Mod K mg base
 bs:∀b o,base.get? b=ξ o->s.heap.get? b=ξ o/\H b=ψ
 LQ:base.objs.size<=s.heap.objs.size
 uh:s.heap.FunFrames base outer
 Po:∀b∈Hi outer,H b=ψ
 dE:qc P w H s.heap
 bare:qw s.gens
abbrev CE(outer:List Env)(P:bK)(w:cx)(H:Hp)(s:aE)(Q:VK)(u:Value)(s':aE):Prop:=
 ∃v H',s'.os=s.os/\qw s'.gens/\Un (Hi outer) [] H H' s.heap s'.heap/\qc P w H' s'.heap/\RelV v u/\Q v H'
abbrev CR(CX:Hj)(outer:List Env)(P:bK)(w:cx)(H:Hp)(s:aE)(Q:VK)(E:XK)(r:Result)(s':aE):Prop:=
 match r with
 |.ok (.ret u)=>CE outer P w H s Q u s'
 |.ok _=>False
 |.error e=>CX outer H s E e s'
structure jz(P:bK)(w:cx)(K:aJ)(mg:Str->Option Value)(base:Heap)(CX:Hj)(k:Nat)(f:Addr)(fd:fP)(ps:List Str)(sp:Sp):Prop where
 len:∀vs H Q E,sp vs H Q E->vs.length=ps.length
 run:∀(A:dC)(outer:List Env)(s:aE)(H:Hp)(args:Args)(us:List Value)(vs:List V)(Q:VK)(E:XK),jx k A->Cu P w K mg base A outer s H->BQ s fd args (ps.zip us)->Vals vs us->sp vs H Q E ->
  oB (bf P w) A (.call (.ref f) args) (CR CX outer P w H s Q E) s
def jz.mono{P:bK}{w:cx}{K:aJ}{mg:Str->Option Value}{base:Heap}{CX:Hj}{j k:Nat}{f:Addr}{fd:fP}{ps:List Str}{sp:Sp}(F:jz P w K mg base CX j f fd ps sp)(h:j<=k):
  jz P w K mg base CX k f fd ps sp:=#[F.len,λA outer s H args us vs Q E hr=>F.run A outer s H args us vs Q E (hr.mono h)]
def jz.imp{P:bK}{w:cx}{K:aJ}{mg:Str->Option Value}{base:Heap}{CX:Hj}{k:Nat}{f:Addr}{fd:fP}{ps:List Str}{sp sp':Sp}(F:jz P w K mg base CX k f fd ps sp)
  (h:∀vs H Q E,sp' vs H Q E->sp vs H Q E):jz P w K mg base CX k f fd ps sp':=
 #[λvs H Q E q=>F.len vs H Q E (h _ _ _ _ q),λA outer s H args us vs Q E hr he hb hv hs=>F.run A outer s H args us vs Q E hr he hb hv (h _ _ _ _ hs)]
def Cu.make{P:bK}{w:cx}{K:aJ}{mg:Str->Option Value}{base:Heap}{A:dC}{outer:List Env}{s:aE}{H:Hp}(e:Cu P w K mg base A outer s H)(C:Addr)(us:List Value)(kw:List (Str×Value)):
  Cu P w K mg base (A.under (.builtin "type.__call__" #[.ref C::us,kw])) outer s H:=#[by first|exact e.frames| (simpa[zR,Code.envs,BP,pushEnvs] using e.frames),e.mod,e.bs,e.LQ,e.uh,e.Po,e.dE,e.bare]
section
variable{X:Cx}{pZ:List (Addr×Obj)}{σ:St}{H:Hp}{s s':aE}
def Inv.UY(I:Inv X pZ σ H s):Cu X.prog X.w X.K X.mg X.base X.A X.stack s H:=
 #[I.ok.frames,I.ok.mod,I.bs,aH I.ok.LQ I.sz,I.stack,I.DN,I.dE,I.bare]
def Inv.after(I:Inv X pZ σ H s)(h:CE X.stack X.prog X.w H s Q u s'):EP X pZ σ Q u s':=by
 let#[v,H',os,bare,un,dE,r,q]:=h;let#[hh,g,d,t,os']:=s';obtain rfl:os'=s.os:=os;exact#[v,H',I.call (h':=hh) (g':=g) (d':=d) (t':=t) (ch:=[]) un dE bare (λb z=>absurd z (#v[])),r,q]
end
abbrev HZ(sp:Sp)(dvs:List V)(E:XK)(t:TA):TE:=λσ H Q=>t σ H λvs H1=>sp (vs++dvs) H1 Q E
abbrev H0(C:Addr)(m:Str)(sp:Sp)(dvs:List V)(E:XK)(ta:TE)(t:TA):TE:=λσ H Q=>ta σ H λx H1=>∃a dx fs,x=.ref a/\H1 a=ξ (.ins C dx fs)/\fs.lookup m=ψ /\
 t σ H1 λvs H2=>sp (x::(vs++dvs)) H2 Q E
abbrev H8(C:Addr)(sp:Sp)(dvs:List V)(E:XK)(t:TA):TE:=λσ H Q=>t σ H λvs H1=>∀x dx,H1 x=ψ->H1 dx=ψ->dx≠x ->
 sp (.ref x::(vs++dvs)) (upd (upd H1 dx (.own x)) x (.ins C dx [])) (λv H2=>v=.cf/\Q (.ref x) H2) E
abbrev Binds(K:aJ)(fd:fP)(ps:List Str)(ds:List Value):Prop:=
 ∀(s:aE)(us:List Value),K.In s.heap->(us++ds).length=ps.length->BQ s fd #[us,[]] (ps.zip (us++ds))
def Binds.all{K:aJ}{fd:fP}{ps:List Str}(h:∀us:List Value,us.length=ps.length->LJ fd #[us,[]]=pure (ps.zip us)):Binds K fd ps []:=λs us _ hl=>by
 rw[bT] at hl ⊢;erw[.of_eq (h us hl)]
abbrev Passes(CX:Hj)(X:Cx)(E:XK):Prop:=∀(pZ:List (Addr×Obj))(σ:St)(H:Hp)(s:aE)(e:Value)(s':aE),Inv X pZ σ H s->CX X.stack H s E e s'->X.xe e s'
section
variable{X:Cx}{CX:Hj}{k:Nat}{f C:Addr}{fd:fP}{ps:List Str}{sp:Sp}{dvs:List V}{ds:List Value}{E:XK}{x m:Str}{p pos apos:Pos}{e o:Expr}{es:List Expr}{ta:TE}{t:TA}
def yF{pZ:List (Addr×Obj)}{σ:St}{H:Hp}{s:aE}{Q:VK}{us:List Value}{vs:List V}(F:jz X.prog X.w X.K X.mg X.base CX k f fd ps sp)(hr:jx k X.A)(hb:Binds X.K fd ps ds)(hd:Vals dvs ds)(hx:Passes CX X E)
  (I:Inv X pZ σ H s) (r:Vals vs us) (h:sp (vs++dvs) H Q E):wpAny (bf X.prog X.w) X.A (call (.ref f) us) (EP X pZ σ Q) X.xe s:=by
 have r2:Vals (vs++dvs) (us++ds):=r.append hd;have hl:(us++ds).length=ps.length:=by rw[<-r2.length];erw[F.len _ _ _ _ h]
 rwa[wpAny_call (wB (F.run X.A X.stack s H #[us,[]] (us++ds) (vs++dvs) Q E hr I.UY (hb s us I.yB hl) r2 h) λr s' hq=>?_)];cases r with
 |error e=>erw[hx pZ σ H s e s' I hq]
 |ok fl=>
  cases fl with
  |ret u=>erw[I.after hq]
  |next=>erw[aZ hq]
  |brk=>erw[aZ hq]
  |cont=>erw[aZ hq]
def Mb(F:jz X.prog X.w X.K X.mg X.base CX k f fd ps sp)(hr:jx k X.A)(hg:Gl X x)(hm:X.mg x=ξ (.ref f))(hk:jf X.K (.ref f)=ζ)(hb:Binds X.K fd ps ds)(hd:Vals dvs ds)(hx:Passes CX X E)
  (ha:PA X (e::es) t) (hdb:(x==("__debug__":Str))=ϑ:=by decide) (he:bz (e::es) X.env=(ϑ,eval e X.env)::bz es X.env:=by rfl) (hpl:(fN pos (bz es X.env)).any (·.1)=ϑ:=by rfl):
  PE X (.Call (.Name x p) (e::es) [] pos) (HZ sp dvs E t):=by
 k_ne;rwa[dS (rq I hg hm ?_ hdb)];rwa[qx (h₀:=X.base) I.ok.mod.Uo hk (eG (ha pos pZ s σ H _ I h) λus s1 h9=>?_) he hpl];let#[vs,H1,I1,r,q]:=h9;refine#[I1.yB,?_];erw[yF F hr hb hd hx I1 r q]
def Ia(F:jz X.prog X.w X.K X.mg X.base CX k f fd ps sp)(hr:jx k X.A)(hg:Gl X x)(hm:X.mg x=ξ (.ref f))(hk:jf X.K (.ref f)=ζ)(hb:Binds X.K fd ps ds)(hd:Vals dvs ds)(hx:Passes CX X E)
  (hdb:(x==("__debug__":Str))=ϑ:=by decide):PE X (.Call (.Name x p) [] [] pos) (HZ sp dvs E Ma):=by
 k_ne;rwa[dS (rq I hg hm ?_ hdb)];erw[p7 I.yB hk (yF (us:=[]) F hr hb hd hx I .nil h)]
def Mc{pl:Sem Bool}(he:PE X o ta)(c:xw X.K C)(hm:Meth X.K C m f)(F:jz X.prog X.w X.K X.mg X.base CX k f fd ps sp)(hr:jx k X.A)(hb:Binds X.K fd ps ds)(hd:Vals dvs ds)(hx:Passes CX X E)(ha:PA X (e::es) t)
  (hst:bz (e::es) X.env=(ϑ,eval e X.env)::bz es X.env:=by rfl) (hpl:(fN pos (bz es X.env)).any (·.1)=ϑ:=by rfl)
  (ht:eval (.Call (.Attribute o m apos) (e::es) [] pos) X.env=(do
   let ov <-eval o X.env
   standAt apos.atName
   let (f,first) <-holding [ov] (yp ov m pl)
   callWith pos f first (fN pos (bz (e::es) X.env)) (backToKw pos (gQ [] X.env))):=by rfl):
  PE X (.Call (.Attribute o m apos) (e::es) [] pos) (H0 C m sp dvs E ta t):=by
 k_ne;refine zS (pl:=pl) (eG (he pZ s σ H _ I h) λu s1 h9=>?_) ht;let#[x,H1,I1,rx,a,dx,fs,ex,ea,l,q]:=h9;subst ex;obtain rfl:u=bp a:=rx;refine ve I1 ea c hm l ?_;refine qx (first:=[.ref a]) (h₀:=X.base) I.ok.mod.Uo hm.kp (eG (ha pos pZ s1 σ H1 _ I1 q) λus s2 h9=>?_) hst hpl;obtain⟨vs,H2,I2,r,q2⟩:=h9;refine#[I2.yB,?_];exact yF (us:=.ref a::us) (vs:=.ref a::vs) F hr hb hd hx I2 (.cons rfl r) q2
def Ib(he:PE X o ta)(c:xw X.K C)(hm:Meth X.K C m f)(F:jz X.prog X.w X.K X.mg X.base CX k f fd ps sp)(hr:jx k X.A)(hb:Binds X.K fd ps ds)(hd:Vals dvs ds)(hx:Passes CX X E)
  (ht:eval (.Call (.Attribute o m apos) [] [] pos) X.env=(do
   let ov <-eval o X.env
   standAt apos.atName
   let (f,first) <-holding [ov] (yp ov m pl)
   callWith pos f first (fN pos (bz [] X.env)) (backToKw pos (gQ [] X.env))):=by rfl):
  PE X (.Call (.Attribute o m apos) [] [] pos) (H0 C m sp dvs E ta Ma):=by
 k_ne;refine zS (pl:=pl) (eG (he pZ s σ H _ I h) λu s1 h9=>?_) ht;let#[x,H1,I1,rx,a,dx,fs,ex,ea,l,q]:=h9;subst ex;obtain rfl:u=bp a:=rx;refine ve I1 ea c hm l ?_;exact p7 (first:=[.ref a]) I1.yB hm.kp (yF (us:=[.ref a]) (vs:=[.ref a]) F hr hb hd hx I1 (.cons rfl .nil) q)
structure Mk(K:aJ)(C f:Addr):Prop where
 makes:G8 K C=ζ
 init:eM K (.ref C) "__init__"=ξ (ξ (.ref f))
 fn:yo K (.ref f)=ζ
 kp:jf K (.ref C)=ζ
def AD(M:Mk X.K C f)(F:jz X.prog X.w X.K X.mg X.base CX k f fd ps sp)(hr:jx (k+1) X.A)(hb:Binds X.K fd ps ds)(hd:Vals dvs ds)
  (hx:Passes CX X E) (I:Inv X pZ σ H s) (r:Vals vs us)
  (h:∀x dx,H x=ψ->H dx=ψ->dx≠x->sp (.ref x::(vs++dvs)) (upd (upd H dx (.own x)) x (.ins C dx [])) (λv H2=>v=.cf/\Q (.ref x) H2) E):
  wpAny (bf X.prog X.w) X.A (call (.ref C) us) (EP X pZ σ Q) X.xe s:=by
 have hq:=h (s.heap.objs.size+1) s.heap.objs.size (I.dE.fresh (iK _)) (I.dE.fresh (ar _)) (aV (cB _));have I2:=Inv.made (C:=C) I;have r2:Vals (V.ref (s.heap.objs.size+1)::(vs++dvs)) (bp (s.heap.objs.size+1)::(us++ds)):=.cons rfl (r.append hd);have hl:(bp (s.heap.objs.size+1)::us++ds).length=ps.length:=by
  have e:=r2.length;rw[F.len _ _ _ _ hq] at e;erw[e.symm]
 refine wpAny_call (HY (f:=f) I.yB M.makes M.init (beq_iff_eq.mp M.fn) (wB (F.run _ X.stack _ _ #[bp (s.heap.objs.size+1)::us,[]] (bp (s.heap.objs.size+1)::(us++ds)) _ _ E (hr.make C us [])
  (I2.UY.make C us []) (hb _ (bp (s.heap.objs.size+1)::us) I2.yB hl) r2 hq) λr s' hq'=>?_))
 cases r with
 |error e=>erw[hx pZ σ _ _ e s' I2 hq']
 |ok fl=>
  cases fl with
  |ret u=>
   let#[v,H',I3,rv,ev,q3]:=I2.after hq';subst ev;exact#[rv,#[V.ref (s.heap.objs.size+1),H',I3,rfl,q3]]
  |next=>erw[aZ hq']
  |brk=>erw[aZ hq']
  |cont=>erw[aZ hq']
def Md(M:Mk X.K C f)(F:jz X.prog X.w X.K X.mg X.base CX k f fd ps sp)(hr:jx (k+1) X.A)(hg:Gl X x)(hm:X.mg x=ξ (.ref C))(hb:Binds X.K fd ps ds)(hd:Vals dvs ds)(hx:Passes CX X E)
  (ha:PA X (e::es) t) (hdb:(x==("__debug__":Str))=ϑ:=by decide) (he:bz (e::es) X.env=(ϑ,eval e X.env)::bz es X.env:=by rfl) (hpl:(fN pos (bz es X.env)).any (·.1)=ϑ:=by rfl):
  PE X (.Call (.Name x p) (e::es) [] pos) (H8 C sp dvs E t):=by
 k_ne;rwa[dS (rq I hg hm ?_ hdb)];rwa[qx (h₀:=X.base) I.ok.mod.Uo M.kp (eG (ha pos pZ s σ H _ I h) λus s1 h9=>?_) he hpl];let#[vs,H1,I1,r,q]:=h9;refine#[I1.yB,?_];erw[AD M F hr hb hd hx I1 r q]
def Ic(M:Mk X.K C f)(F:jz X.prog X.w X.K X.mg X.base CX k f fd ps sp)(hr:jx (k+1) X.A)(hg:Gl X x)(hm:X.mg x=ξ (.ref C))(hb:Binds X.K fd ps ds)(hd:Vals dvs ds)(hx:Passes CX X E)
  (hdb:(x==("__debug__":Str))=ϑ:=by decide):PE X (.Call (.Name x p) [] [] pos) (H8 C sp dvs E Ma):=by
 k_ne;rwa[dS (rq I hg hm ?_ hdb)];erw[p7 I.yB M.kp (AD (us:=[]) M F hr hb hd hx I .nil h)]
end
structure lP(N P:List Str)(sc:kg):Prop where
 kind:sc.kind=.function
 co:sc.isCoroutine=ϑ
 gen:sc.isGenerator=ϑ
 nd:N.Nodup
 pre:N.take P.length=P
 par:∀x∈P,sc.names.lookup x=ξ .local\/sc.names.lookup x=ξ .cell
 Qd:∀y∈sc.names,y.2≠.free
def xy{kindOf:Str->Option NameKind}{x:Str}:∀{binds:List (Str×Value)}{m:Str->Option Value},(∀v,(x,v)∉binds)->G9 kindOf binds m x=m x
 |[],_,_=>rfl
 | (n,v)::r,m,h=>by
  unfold G9;rw[xy λw hw=>h w (av _ hw)]
  split
  .have:x≠n:=by rintro rfl;erw[h v aN]
   simp[this]
  .rfl
def xA{kindOf:Str->Option NameKind}{x:Str}:∀{binds:List (Str×Value)}{m:Str->Option Value},(∀v,(x,v)∉binds)->Ha kindOf binds m x=m x
 |[],_,_=>rfl
 | (n,v)::r,m,h=>by
  unfold Ha;rw[xA λw hw=>h w (av _ hw)]
  split
  .rfl
  .have:x≠n:=by rintro rfl;erw[h v aN]
   simp[this]
def xB{kindOf:Str->Option NameKind}{x:Str}{v:Value}:∀{P:List Str}{vs:List Value}{i:Nat}{m:Str->Option Value},P.Nodup->P[i]?=ξ x->vs[i]?=ξ v->kindOf x=ξ .local ->
  G9 kindOf (P.zip vs) m x=ξ v
 |[],_,_,_,_,h,_,_=>by simp at h
 |_::_,[],_,_,_,_,h,_=>by simp at h
 |p::P,w::vs,0,m,nd,h1,h2,hk=>by
  simp at h1 h2;subst h1;subst h2;show G9 kindOf ((p,w)::P.zip vs) m p=_;unfold G9;rw[xy λv hv=>(dW.mp nd).1 (wo hv).1,if_pos hk]
  simp
 |p::P,w::vs,i+1,m,nd,h1,h2,hk=>by
  show G9 kindOf ((p,w)::P.zip vs) m x=_
  unfold G9;exact xB (i:=i) (dW.mp nd).2 (~~~h1) (~~~h2) hk
def xC{kindOf:Str->Option NameKind}{x:Str}{v:Value}:∀{P:List Str}{vs:List Value}{i:Nat}{m:Str->Option Value},P.Nodup->P[i]?=ξ x->vs[i]?=ξ v->kindOf x≠ξ .local ->
  Ha kindOf (P.zip vs) m x=ξ v
 |[],_,_,_,_,h,_,_=>by simp at h
 |_::_,[],_,_,_,_,h,_=>by simp at h
 |p::P,w::vs,0,m,nd,h1,h2,hk=>by
  simp at h1 h2;subst h1;subst h2;show Ha kindOf ((p,w)::P.zip vs) m p=_;unfold Ha;rw[xA λv hv=>(dW.mp nd).1 (wo hv).1,if_neg hk]
  simp
 |p::P,w::vs,i+1,m,nd,h1,h2,hk=>by
  show Ha kindOf ((p,w)::P.zip vs) m x=_
  unfold Ha;exact xC (i:=i) (dW.mp nd).2 (~~~h1) (~~~h2) hk
abbrev start(N:List Str)(vs:List V):St:=vs.map ξ++wZ (N.length-vs.length) ψ
abbrev Cv(CX:Hj)(P:bK)(w:cx)(K:aJ)(mg:Str->Option Value)(base:Heap)(N:List Str)(qual:Str)(scope:kg)(f:Addr)(cd:Value)(A:dC)(outer:List Env)(s:aE)(H:Hp)(E:XK):Cx where
 prog:=P
 w:=w
 K:=K
 mg:=mg
 base:=base
 A:=A.deeper (sG qual scope s.heap.objs.size f cd)
 N:=N
 s₀:=s
 H₀:=H
 env:=sG qual scope s.heap.objs.size f cd
 outer:=outer
 stack:=sG qual scope s.heap.objs.size f cd::outer
 ex:=[]
 calm:=ζ
 fn:=λ_=>ζ
 pn:=[]
 xe:=λe s'=>wpAny (bf P w) (A.deeper (sG qual scope s.heap.objs.size f cd)) (leaving (sG qual scope s.heap.objs.size f cd) e) (λ_ s''=>CX outer H s E e s'') (λe' s''=>CX outer H s E e' s'') s'
def AE{sc:kg}{n:Nat}{x:Str}(h:sc.names.lookup x=ξ .cell):∃c,(ja n sc.names []).lookup x=ξ c:=by
 have q:=yq sc.names n [] (.inl h);erw[xa.mp q]
def FC{CX:Hj}{P:bK}{w:cx}{K:aJ}{mg:Str->Option Value}{base:Heap}{N ps:List Str}{qual:Str}{scope:kg}{f:Addr}{cd:Value}{A:dC}{outer:List Env}{s s1:aE}{H:Hp}{E:XK}{us:List Value}{vs:List V}
  (S:lP N ps scope) (hd:A.handled=ψ) (e0:Cu P w K mg base A outer s H) (hl:vs.length=ps.length) (r:Vals vs us)
  (x:InCallC s s.heap.objs.size (G9 (sG qual scope s.heap.objs.size f cd).kindOf (ps.zip us) λ_=>ψ) (ja (s.heap.objs.size+1) scope.names []) (Ha (sG qual scope s.heap.objs.size f cd).kindOf (ps.zip us) λ_=>ψ) s1):
  Inv (Cv CX P w K mg base N qual scope f cd A outer s H E) [] (start N vs) H s1:=by
 have hpl:ps.length<=N.length:=by have:=congrArg cw S.pre;rw[cH] at this;omega
 let#[h1,tk,rfl,hk]:=x.done;have noA:∀b:Addr,b∉(Cv CX P w K mg base N qual scope f cd A outer s H E).ex:=λb z=>absurd (show b∈([]:List Addr) from z) (#v[])
 refine#[#[e0.mod,S.kind,rfl,rfl,ar _,λy z c h1 h2=>?_,λy hy=>?_,λy c _ h=>?_,λ_=>hd,Around.frames_deeper e0.frames,.inr #[rfl,rfl],λb z=>absurd z (noA b),e0.bs,e0.LQ,λb _ _=>noA b,λb z=>absurd z (noA b),e0.uh,e0.Po],
  rfl,e0.bare,Un.kept hk,#[_,x.toInCall.ns,λi y v h1 h2 h3=>?_],λy c h=>#[_,x.cell y c h],e0.dE.fresh (ar _),λy c h=>?_,λp hp=>absurd (show p∈([]:List (Addr×Obj)) from hp) (#v[]),e0.dE.kept hk,?_]
 .erw[name_of_addr x.apart (de h1) (de h2)]
 .have hy:scope.names.lookup y=ξ .cell\/scope.names.lookup y=ξ .free:=hy
  rcases hy with hy|hy
  .erw[AE hy]
  .erw[absurd rfl (S.Qd _ (de hy))]
 .erw[bQ (x.above y c (de h))]
 .have hi:i<vs.length:=by
   unfold start at h2;by_cases hi:i<vs.length
   .erw[hi]
   .rw[ay (~~~hi)] at h2
    rw[Ag] at h2;split at h2<;>cases h2
  have ha:vs[i]?=ξ v:=by
   unfold start at h2;rw[ah (~~~hi),aB] at h2;cases e:vs[i]? with
   |none=>rw[e] at h2;cases h2
   |some a=>rw[e] at h2;cases h2;rfl
  let#[u,hu,rv]:=r.get ha;have hp:ps[i]?=ξ y:=by
   rw[<-S.pre,zT ∅];erw[h1]
  have ndP:ps.Nodup:=by rw[<-S.pre];erw[S.nd.sublist (List.take_sublist _ _)]
  refine#[u,rv,?_];rcases S.par y (ai hp) with k|k
  .erw[.inl #[k,xB ndP hp hu k]]
  .let#[c,e]:=AE (n:=s.heap.objs.size+1) k
   rwa[.inr #[.inl k,c,e,?_]];have q:=x.cell y c e;rw[xC ndP hp hu (by show scope.names.lookup y≠_;rw[k];decide)] at q;erw[q]
 .erw[e0.dE.fresh (bQ (x.above y c (de h)))]
 .unfold start
  show _=N.length
  rw[aq,ae,List.length_replicate]
  omega
def UZ{CX:Hj}{P:bK}{w:cx}{K:aJ}{mg:Str->Option Value}{base:Heap}{k:Nat}{f:Addr}{name qual:Str}{params:Arguments}{body:List Stmt}{scope:kg}{dV kV doc pm cdv ct oc:Value}{an od:Option Addr}
  {osl:Array (Option Value)}{N ps:List Str}{sp:Sp} (lk:K.lookup f=ξ #[oc,od,.func (kD name qual params body scope dV kV doc pm an cdv ct),osl]) (hcd:uV K cdv qual=ζ) (S:lP N ps scope)
  (len:∀vs H Q E,sp vs H Q E->vs.length=ps.length)
  (hbody:∀(A:dC)(outer:List Env)(s:aE)(H:Hp)(vs:List V)(Q:VK)(E:XK),jx k (A.deeper (sG qual scope s.heap.objs.size f cdv))->sp vs H Q E ->
   ∃t,uz (Cv CX P w K mg base N qual scope f cdv A outer s H E) body t/\t {nx:=λ_ H'=>Q .cf H',rt:=Q} (start N vs) H):
  jz P w K mg base CX (k+1) f (kD name qual params body scope dV kV doc pm an cdv ct) ps sp:=by
 refine#[len,λA outer s H args us vs Q E hr e0 hb r hsp=>?_];have hl:=len _ _ _ _ hsp;have KX:K.In s.heap:=e0.mod.Uo.keeps λb o e=>(e0.bs b o e).1
 have lim:s.heap.NoLimit:=e0.mod.nolimit.keeps λb o e=>(e0.bs b o e).1
 have hkind:∀y∈ps.zip us,scope.names.lookup y.1=ξ .local\/(scope.names.lookup y.1=ξ .cell/\((ja (s.heap.objs.size+1) scope.names []).lookup y.1).isSome=ζ):=λ⟨n,v⟩ hy=>by
  rcases S.par n (wo hy).1 with q|q
  .erw[.inl q]
  .erw[.inr #[q,yq _ _ _ (.inl q)]]
 rwa[codeAny_call_function hr.depth (KX _ _ lk) rfl S.co S.gen rfl (PySem.W.codeRec_of KX hcd) (hb _ _ _ _ ?_)];rwa[wpAny_newFunctionEnv_cells S.kind hkind λenv he s1 x=>?_]
 subst he;refine#[lim.keeps x.toInCall.keep,codeAny_func ?_];let#[t,ht,hq]:=hbody A outer s H vs Q E (hr.deeper _) hsp;have I:Inv (Cv CX P w K mg base N qual scope f cdv A outer s H E) [] (start N vs) H s1:=FC S hr.hd e0 hl r x;rwa[fU (ht [] s1 (start N vs) H _ I hq) (λfl s' hs=>?_) λe s' hs=>hs]
 have fin:∀{σ':St}{H':Hp}{v:V}{u:Value},Inv (Cv CX P w K mg base N qual scope f cdv A outer s H E) [] σ' H' s'->RelV v u->Q v H'->CE outer P w H s Q u s':=
  λ{σ' H' v u}J rv q=>#[v,H',J.os,J.bare,J.base,J.dE,rv,q]
 cases fl with
 |ret u=>
  let#[v,σ',H',J,rv,q]:=hs;erw[fin J rv q]
 |next=>
  let#[σ',H',J,q]:=hs;erw[fin (v:=V.cf) (u:=gh) J rfl q]
 |brk=>
  let#[_,_,_,q]:=hs;erw[aZ q]
 |cont=>
  let#[_,_,_,q]:=hs;erw[aZ q]
section
variable{X:Cx}{x:Str}{p pos:Pos}{e:Expr}{es:List Expr}{t:TA}{id T:String}{r:List V->Hp->VK->Prop}
abbrev YQ(r:List V->Hp->VK->Prop)(t:TA):TE:=λσ H Q=>t σ H λvs H1=>r vs H1 Q
def mJ(hc:iH X (.builtin id) r)(hg:Gl X x)(hm:X.mg x=ψ)(hv:kf x=ξ (.builtin id))(ha:PA X (e::es) t)(hn:x≠"__name__":=by decide)(hdb:(x==("__debug__":Str))=ϑ:=by decide)
  (he:bz (e::es) X.env=(ϑ,eval e X.env)::bz es X.env:=by rfl) (hpl:(fN pos (bz es X.env)).any (·.1)=ϑ:=by rfl):PE X (.Call (.Name x p) (e::es) [] pos) (YQ r t):=by
 k_ne;rwa[dS (mr I hg hm hv ?_ hn hdb)];rwa[PyProof.Rows.callWith_builtin1 (eG (ha pos pZ s σ H _ I h) λus s1 h9=>?_) he hpl];let#[vs,H1,I1,r1,q1]:=h9;erw[hc pZ s1 σ H1 vs us Q I1 r1 q1]
def pE(hc:iH X (.type T) r)(hg:Gl X x)(hm:X.mg x=ψ)(hv:kf x=ξ (.type T))(ha:PA X (e::es) t)(hn:x≠"__name__":=by decide)(hdb:(x==("__debug__":Str))=ϑ:=by decide)
  (he:bz (e::es) X.env=(ϑ,eval e X.env)::bz es X.env:=by rfl) (hpl:(fN pos (bz es X.env)).any (·.1)=ϑ:=by rfl):PE X (.Call (.Name x p) (e::es) [] pos) (YQ r t):=by
 k_ne;rwa[dS (mr I hg hm hv ?_ hn hdb)];rwa[dg (eG (ha pos pZ s σ H _ I h) λus s1 h9=>?_) he hpl];let#[vs,H1,I1,r1,q1]:=h9;erw[hc pZ s1 σ H1 vs us Q I1 r1 q1]
end
end L2
namespace HT
open PySem PyProof.Rows
section
variable{prog:bK}{w:cx}{A:dC}{E:Value->aE->Prop}{s:aE}
def Me(ht:IsTup s.heap t vs.toArray)(hb:IsTup s.heap b ws.toArray)(hv:vs≠[])
  (h1:ws=[]->Q (.ref t) s) (h2:ws≠[]->Q (.ref s.heap.objs.size) {s with heap:=s.heap.push {cls:=.type "tuple",data:=.seq (vs++ws).toArray} })
  (hsz:vs.length+ws.length<=sizeLine):wpAny (bf prog w) A (cX .Add (.ref t) (.ref b)) Q E s:=by
 let#[#[cls,dd,data,sl],ho,hc,n,hd]:=id ht;let#[#[cls2,dd2,data2,sl2],ho2,hc2,n2,hd2]:=id hb;simp only at hc hd hc2 hd2;subst hc hd hc2 hd2;have e:vs.toArray++ws.toArray=(vs++ws).toArray:=by simp
 by_cases hw:ws=[]
 .exact concat_meets #[_,ho,rfl] #[_,ho2,rfl] noFill_tuple_add seq_tuple_add yr xc (wC _ _)
   (tuple_addW1 t b vs.toArray ws.toArray n n2 dd dd2 sl sl2 (~~~hv) (by simp[hw])) #[ho,ho2,h1 hw]
 .refine concat_meets #[_,ho,rfl] #[_,ho2,rfl] noFill_tuple_add seq_tuple_add yr xc (wC _ _)
   (tuple_addW2 t b vs.toArray ws.toArray n n2 dd dd2 sl sl2 (~~~hv) (~~~hw) (%[aD,aD|hsz])) #[ho,ho2,?_]
  rw[e]
  erw[h2 hw]
abbrev wJ(n d:Nat):Option Int->Nat
 |none=>d
 |some v=>if v<0 then(v+(n:Int)).toNat else min v.toNat n
end
end HT
namespace L2
open PySem PySem.Spec PyProof.Rows
@[reducible]def TO:=St->Hp->(Option Int->Hp->Prop)->Prop
abbrev PO(X:Cx)(e:Option Expr)(t:TO):Prop:=
 ∀(pZ:List (Addr×Obj))(s:aE)(σ:St)(H:Hp)(Q:Option Int->Hp->Prop),Inv X pZ σ H s->t σ H Q ->
  wpAny (bf X.prog X.w) X.A (evalPart e X.env) (λu s'=>∃o H',Inv X pZ σ H' s'/\IsPart u o/\Q o H') X.xe s
abbrev Mf:TO:=λ_ H Q=>Q ψ H
abbrev U0(t:TE):TO:=λσ H Q=>t σ H λx H1=>∃i,x=.int i/\Q (ξ i) H1
section
variable{X:Cx}{e:Expr}{te:TE}{lo hi:Option Expr}{tl th:TO}{pos p2:Pos}
def Mg:PO X ψ Mf:=by
 k_ne;rw[evalPart_none]
 erw[aC #[ψ,H,I,.none,h]]
def Mh(h:PE X e te):PO X (ξ e) (U0 te):=by
 intro pZ s σ H Q I hw;rw[evalPart_some]
 rwa[eG (h pZ s σ H _ I hw) λu s1 h9=>?_]
 let#[x,H1,I1,r1,q1]:=h9;let#[i,rfl,q]:=q1;let#[t,rfl]:=r1;exact#[ξ i,H1,I1,.int i t,q]
abbrev XQ(X:Cx)(r:V->Option Int->Option Int->Hp->VK->Prop):Prop:=
 ∀(pZ:List (Addr×Obj))(s:aE)(σ:St)(H:Hp)(x:V)(v vl vu:Value)(lo hi:Option Int)(sl:Addr)(Q:VK),Inv X pZ σ H s->RelV x v->s.heap.IsSliceOf sl vl vu .none->IsPart vl lo->IsPart vu hi->r x lo hi H Q ->
  ∃T id,uW (.type T) "__getitem__"=pure (ξ (.builtin id))/\s.TypeIs v T/\wpAny (bf X.prog X.w) X.A (tN v (.ref sl)) (EP X pZ σ Q) X.xe s
abbrev tSl(r:V->Option Int->Option Int->Hp->VK->Prop)(te:TE)(tl th:TO):TE:=λσ H Q=>te σ H λx H1=>tl σ H1 λl H2=>th σ H2 λu H3=>r x l u H3 Q
def Ie(hr:XQ X r)(he:PE X e te)(hl:PO X lo tl)(hu:PO X hi th):PE X (.Subscript e (.Slice lo hi ψ p2) pos) (tSl r te tl th):=by
 k_ne;rwa[Subscript_ (eG (he pZ s σ H _ I h) λv s1 h9=>?_)];let#[x,H1,I1,r1,q1]:=h9;rwa[wpAny_Slice (eG (hl pZ s1 σ H1 _ I1 q1) λvl s2 h9=>?_)];let#[l,H2,I2,pl,q2]:=h9;rwa[eG (hu pZ s2 σ H2 _ I2 q2) λvu s3 h9=>?_]
 let#[u,H3,I3,pu,q3]:=h9;rw[evalPart_none]
 rwa[aC ?_];have I4:Inv X pZ σ H3 {s3 with heap:=s3.heap.push {cls:=.type "slice",data:=.fields (List.toArray [vl,vu,.none])} }:=I3.kept (t':=s3.toks) λb ob q=>aG _ q
 let#[T,id,hT,ht,hg]:=hr pZ {s3 with heap:=s3.heap.push {cls:=.type "slice",data:=.fields (List.toArray [vl,vu,.none])} } σ H3 x v vl vu l u s3.heap.objs.size Q I4 r1 (Heap.IsSliceOf.new ..) pl pu q3;show wpAny (bf X.prog X.w) X.A (E9 e (.Slice lo hi ψ p2) v (.ref s3.heap.objs.size)) (EP X pZ σ Q) X.xe {s3 with heap:=s3.heap.push {cls:=.type "slice",data:=.fields (List.toArray [vl,vu,.none])} };erw[tail_any (ops:=[.ref s3.heap.objs.size,v]) ht hT hg (by with_unfolding_all rfl)]
abbrev FD(xs:List V)(lo hi:Option Int):List V:=(xs.drop (HT.wJ xs.length 0 lo)).take (HT.wJ xs.length xs.length hi-HT.wJ xs.length 0 lo)
def AF(xs:List V)(lo hi:Option Int):(FD xs lo hi).length<=xs.length:=by
 unfold FD;rw[cH,List.length_drop]
 omega
abbrev U1(K:aJ):R2:=λx y H Q=>∃a b xs ys,x=.ref a/\y=.ref b/\oG K H a xs/\oG K H b ys/\xs≠[]/\xs.length+ys.length<=sizeLine /\
 (ys=[]->Q (.ref a) H)/\(ys≠[]->∀p,H p=ψ->Q (.ref p) (upd H p (.tup (xs++ys))))
def Vals.yG(r:Vals xs us):us=[]↔xs=[]:=by
 cases r with
 |nil=>simp
 |cons _ _=>simp
def Mi:iw X (cX .Add) (U1 X.K):=by
 x_go;let#[a,b,xs,ys,rfl,rfl,ha,hb,hx,hz,q1,q2]:=h;cases rx;cases ry;let#[its,r1,p1,_]:=I.tuple ha;let#[its2,r2,p2,_]:=I.tuple hb;rwa[HT.Me p1 p2 (λz=>hx (r1.yG.mp z)) (λz=>#[.ref a,H,I,rfl,q1 (r2.yG.mp z)]) (λz=>?_) (by rw[<-r1.length,<-r2.length];erw[hz])];refine#[.ref s.heap.objs.size,_,I.laid (t':=s.toks) (o:=.tup (xs++ys)) (λb ob q=>aG _ q) (ar _) ?_,rfl,q2 (λw=>z (r2.yG.mpr w)) _ (I.dE.fresh (ar _))];exact#[%[aq|hz],_,r1.append r2,IsTup.new _ _]
end
abbrev Qe(n:Nat)(i:Int):Option Nat:=if 0<=i then(if i<n then ξ i.toNat else ψ) else if -(n:Int)<=i then ξ (i+n).toNat else ψ
abbrev Qf{α:Type}(xs:List α)(i:Int):Option α:=(Qe xs.length i).bind λj=>xs[j]?
def DT(h:Qe n i=ξ j):seqIndex? i n=ξ j/\j<n/\-(n:Int)<=i/\i<n:=by
 unfold Qe at h;by_cases h0:0<=i
 .rw[if_pos h0] at h
  by_cases h1:i<n
  .rw[if_pos h1] at h
   have e:i.toNat=j:=aK h;exact#[by rw[LK h0 h1,e],∅,∅,h1]
  .rw[if_neg h1] at h;cases h
 .rw[if_neg h0] at h
  by_cases h1:-(n:Int)<=i
  .rw[if_pos h1] at h
   have e:(i+n).toNat=j:=aK h;exact#[by rw[Hu ∅ h1,e],∅,h1,∅]
  .rw[if_neg h1] at h;cases h
def yH{α:Type}{xs:List α}{i:Int}{v:α}(h:Qf xs i=ξ v):∃j,seqIndex? i xs.length=ξ j/\xs[j]?=ξ v/\j<xs.length/\-(xs.length:Int)<=i/\i<xs.length:=by
 unfold Qf at h;cases e:Qe xs.length i with
 |none=>rw[e] at h;cases h
 |some j=>
  rw[e] at h;let#[h1,h2,h3,h4]:=DT e;exact#[j,h1,h,h2,h3,h4]
abbrev DV(b:Expr):Prop:=∀o i,zU b ϑ o i=operate [o,i] (tN o i)
abbrev T2(X:Cx)(r:R2):Prop:=
 ∀(value slice:Expr)(pZ:List (Addr×Obj))(s:aE)(σ:St)(H:Hp)(x y:V)(v u:Value)(Q:VK),Inv X pZ σ H s->RelV x v->RelV y u->r x y H Q ->
  zU slice ϑ v u=operate [v,u] (tN v u)->wpAny (bf X.prog X.w) X.A (E9 value slice v u) (EP X pZ σ Q) X.xe s
abbrev Cw(X:Cx)(id:String)(r:V->List V->Hp->VK->Prop):Prop:=
 ∀(pZ:List (Addr×Obj))(s:aE)(σ:St)(H:Hp)(x:V)(xs:List V)(v:Value)(us:List Value)(Q:VK),Inv X pZ σ H s->RelV x v->Vals xs us->r x xs H Q ->
  wpAny (bf X.prog X.w) X.A (call (.builtin id) (v::us)) (EP X pZ σ Q) X.xe s
section
variable{X:Cx}{a b:Expr}{ta tb:TE}{pos:Pos}
def U2(hr:T2 X r)(ha:PE X a ta)(hb:PE X b tb)(hs:DV b):PE X (.Subscript a b pos) (XO r ta tb):=by
 k_ne;erw[Subscript_ (PN ha hb I h λv u s2 x y H2 I2 rx ry q=>hr a b pZ s2 σ H2 x y v u Q I2 rx ry q (hs _ _))]
abbrev YR(K:aJ):R2:=λx y H Q=>∃p xs i v,x=.ref p/\y=.int i/\gX K H p xs/\Qf xs i=ξ v/\Q v H
abbrev YS(K:aJ):R2:=λx y H Q=>∃p xs i v,x=.ref p/\y=.int i/\oG K H p xs/\Qf xs i=ξ v/\Q v H
abbrev YT:R2:=λx y H Q=>∃z i c,x=.str z/\y=.int i/\z.length<=sizeLine/\Qf z.cps.toList i=ξ c/\Q (.str #[(List.toArray [c])]) H
def DW:T2 X (YR X.K):=by
 intro value slice pZ s σ H x y v u Q I rx ry h hs;let#[p,xs,i,z,rfl,rfl,hq,he,q]:=h;cases rx;let#[t,rfl]:=ry;let#[its,r,pl,hz]:=I.list hq;let#[j,h1,h2,h3,h4,h5]:=yH he;let#[w,ew,rw']:=r.get h2;have hl:=r.length;have hn:=oS;have fin:EP X pZ σ Q w s:=#[z,H,I,rw',q]
 by_cases h0:0<=i
 .have hj:i.toNat=j:=by
   rw[LK h0 h5] at h1;erw[aK h1]
  exact item_listR pl.isList h0 ∅ (by rw[hj];simpa using ew) fin hs
 .have hj:(i+(its.toArray.size:Int)).toNat=j:=by
   rw[Hu ∅ h4] at h1;rw[aD,<-hl]
   erw[aK h1]
  exact Hv (x:=w) pl.isList.typeIs slot_list_getitem.lookup
   (wpAny_getItem_list_neg (Q:=λr s'=>r=w/\EP X pZ σ Q r s') pl.isList ∅ (by rw[aD]<;>omega) ∅ (by rw[hj];simpa using ew) #[rfl,fin]) hs
def Qg:T2 X (YS X.K):=by
 intro value slice pZ s σ H x y v u Q I rx ry h hs;let#[p,xs,i,z,rfl,rfl,hq,he,q]:=h;cases rx;let#[t,rfl]:=ry;let#[its,r,pl,hz]:=I.tuple hq;let#[j,h1,h2,h3,h4,h5]:=yH he;let#[w,ew,rw']:=r.get h2;have hl:=r.length;have hn:=oS;have fin:EP X pZ σ Q w s:=#[z,H,I,rw',q]
 exact Hv (x:=w) pl.typeIs slot_tuple_getitem.lookup
  (getItem_tuple (j:=j) (Q:=λr s'=>r=w/\EP X pZ σ Q r s') pl ∅ ∅ (by rw[aD,<-hl];erw[h1]) (~~~ew) #[rfl,fin]) hs
def Qh:T2 X YT:=by
 intro value slice pZ s σ H x y v u Q I rx ry h hs;let#[z,i,c,rfl,rfl,hz,he,q]:=h;let#[t,rfl]:=rx;let#[t',rfl]:=ry;let#[j,h1,h2,h3,h4,h5]:=yH he;have hl:z.cps.toList.length=z.length:=by simp[Str.length]
 rw[hl] at h1 h4 h5;have hn:=oS;exact tail_any (typeIs_str s z t) slot_str_getitem.lookup (getItem_str (c:=c) (by
  have e1:decide (i < -(2^63:Int))=ϑ:=decide_eq_false ∅;have e2:decide (i≥2^63)=ϑ:=decide_eq_false ∅;rw[e1,e2,Bool.or_false]) (by rw[h1];simpa using h2) #[.str #[(List.toArray [c])],H,I.tok _,#[_,rfl],q]) hs
def Cy(its:List Value)(n j:Nat)(u:Value):mh (·.setIfInBounds j u) {cls:=.type "list",data:=.seq its.toArray n}= {cls:=.type "list",data:=.seq (its.set j u).toArray n}:=by
 simp[mh]
def Inv.lst{pZ:List (Addr×Obj)}{σ:St}{H:Hp}{s:aE}{p:Addr}{xs:List V}(I:Inv X pZ σ H s)(h:H p=ξ (.lst xs)):
  ∃(its:List Value)(n:Nat),Vals xs its/\s.heap.get? p=ξ {cls:=.type "list",data:=.seq its.toArray n}/\xs.length<=sizeLine:=by
 let#[z,its,n,r,e]:=I.dE p _ h;exact#[its,n,r,e,z]
def Inv.Qi{pZ:List (Addr×Obj)}{σ:St}{H:Hp}{s:aE}{p:Addr}{xs ys:List V}{its its':List Value}{n n':Nat}{f:Obj->Obj}(I:Inv X pZ σ H s)(h:H p=ξ (.lst xs))
  (ho:s.heap.get? p=ξ {cls:=.type "list",data:=.seq its.toArray n}) (hf:f {cls:=.type "list",data:=.seq its.toArray n}= {cls:=.type "list",data:=.seq its'.toArray n'}) (r:Vals ys its') (hz:ys.length<=sizeLine) (t:Nat):
  Inv X pZ σ (upd H p (.lst ys)) {s with heap:=s.heap.update p f,toks:=t}:=by
 have e:(s.heap.update p f).get? p=ξ {cls:=.type "list",data:=.seq its'.toArray n'}:=by
  rw[gS f ho (by rw[hf]<;>rfl),hf]
 rwa[I.write (x:=p) (e:=p) (by rw[h];trivial) (.inl rfl) (λb u hb q=>(oC _ _ (cM hb)).trans q) #[_,e] ?_];exact#[hz,its',n',r,e]
abbrev U3:V->V->V->Hp->(Hp->Prop)->Prop:=λo i v H Q=>∃p xs k j,o=.ref p/\i=.int k/\H p=ξ (.lst xs)/\Qe xs.length k=ξ j/\Q (upd H p (.lst (xs.set j v)))
def set_list:PH X U3:=by
 intro pZ s σ H o i v ov iv u Q I ro ri rv h;let#[p,xs,k,j,rfl,rfl,hp,hj,q]:=h;cases ro;let#[t,rfl]:=ri;let#[its,n,r,ho,hz]:=I.lst hp;let#[h1,h2,h3,h4]:=DT hj;have hl:=r.length;have hn:=oS;have I':Inv X pZ σ (upd H p (.lst (xs.set j v))) {s with heap:=s.heap.update p (mh (·.setIfInBounds j u))}:=
  I.Qi hp ho (Cy its n j u) (r.set rv j) (%[b9|hz]) s.toks
 by_cases h0:0<=k
 .have hk:k.toNat=j:=by
   rw[LK h0 h4] at h1;erw[aK h1]
  erw[PySem.W.ki_setAt ho h0 ∅ (by rw[aD,<-hl];exact h4) (by rw[hk];exact#[_,I',q])]
 .have hk:(k+(its.toArray.size:Int)).toNat=j:=by
   rw[Hu ∅ h3] at h1;rw[aD,<-hl]
   erw[aK h1]
  erw[PySem.W.ki_setBack ho ∅ (by rw[aD,<-hl];exact h3) ∅ (by rw[hk];exact#[_,I',q])]
def yI(lo hi:Option Int)(n:Nat):(lH lo hi ψ n).1=((HT.wJ n 0 lo:Nat):Int)/\(lH lo hi ψ n).2.1=((HT.wJ n n hi:Nat):Int)/\(lH lo hi ψ n).2.2=1:=by
 refine#[?_,?_,rfl]
 .cases lo with
  |none=>simp[lH,HT.wJ]
  |some i=>
   dsimp[lH,HT.wJ,jM,show(1:Int)>0 by decide,if_true];by_cases h:i<0
   .dsimp[h,if_true]<;>omega
   .dsimp[h,if_false]<;>omega
 .cases hi with
  |none=>simp[lH,HT.wJ]
  |some i=>
   dsimp[lH,HT.wJ,jM,show(1:Int)>0 by decide,if_true];by_cases h:i<0
   .dsimp[h,if_true]<;>omega
   .dsimp[h,if_false]<;>omega
def wK(its:List Value)(lo hi:Option Int):slicePick its.toArray lo hi ψ=((its.drop (HT.wJ its.length 0 lo)).take (HT.wJ its.length its.length hi-HT.wJ its.length 0 lo)).toArray:=by
 let#[h1,h2,h3]:=yI lo hi its.toArray.size;unfold slicePick;rw[h1,h2,h3]
 dsimp[sliceRange_one,pick_run,aD]<;>rfl
abbrev YU(K:aJ):V->Option Int->Option Int->Hp->VK->Prop:=λx lo hi H Q=>∃a xs,x=.ref a/\gX K H a xs/\∀p,H p=ψ->Q (.ref p) (upd H p (.lst (FD xs lo hi)))
def Mj:XQ X (YU X.K):=by
 intro pZ s σ H x v vl vu lo hi sl Q I rx hs pl pu h;let#[a,xs,rfl,hx,q]:=h;cases rx;let#[its,r,ht,hz]:=I.list hx;have hlen:=r.length;refine#["list",_,slot_list_getitem.lookup,ht.isList.typeIs,?_];refine wpAny_getItem_list_slice ht.isList hs pl pu .none (#v[]) ?_ (by rw[aD]<;>omega);rw[wK,<-hlen]
 refine#[.ref s.heap.objs.size,_,I.laid (t':=s.toks) (o:=.lst (FD xs lo hi)) (λb ob q=>aG _ q) (ar _) ?_,rfl,q _ (I.dE.fresh (ar _))];exact#[aH (AF xs lo hi) hz,_,0,(r.drop (HT.wJ xs.length 0 lo)).take (HT.wJ xs.length xs.length hi-HT.wJ xs.length 0 lo),aX _ rfl]
abbrev qk:V->Bool
 |.cf=>ζ
 |.bl _=>ζ
 |.int _=>ζ
 |.str _=>ζ
 |_=>ϑ
abbrev Ml:V->V->Bool
 |.cf,.cf=>ζ
 |.bl a,.bl b=>a==b
 |.bl a,.int b=>(if a then 1 else 0)== b
 |.int a,.bl b=>a==(if b then 1 else 0)
 |.int a,.int b=>a==b
 |.str a,.str b=>a==b
 |_,_=>ϑ
def Qj(ry:RelV y u)(rx:RelV x v)(fy:qk y=ζ)(fx:qk x=ζ):wD A s u v (Ml y x):=by
 cases y with
 |cf=>
  cases ry;cases x with
  |cf=>cases rx;erw[jL _]
  |bl b=>cases rx;erw[xf b]
  |int b=>let#[t,rfl]:=rx;erw[oy b t]
  |str b=>let#[t,rfl]:=rx;erw[oA b t]
  |_=>erw[absurd (show ϑ=ζ from fx) a9]
 |bl a=>
  cases ry;cases x with
  |cf=>cases rx;erw[xg a]
  |bl b=>cases rx;erw[xh a b]
  |int b=>let#[t,rfl]:=rx;erw[yt a b t]
  |str b=>let#[t,rfl]:=rx;erw[yu a b t]
  |_=>erw[absurd (show ϑ=ζ from fx) a9]
 |int a=>
  let#[t',rfl]:=ry;cases x with
  |cf=>cases rx;erw[ow a t']
  |bl b=>cases rx;erw[yw a t' b]
  |int b=>let#[t,rfl]:=rx;erw[pj a t' b t]
  |str b=>let#[t,rfl]:=rx;erw[pf a t' b t]
  |_=>erw[absurd (show ϑ=ζ from fx) a9]
 |str a=>
  let#[t',rfl]:=ry;cases x with
  |cf=>cases rx;erw[ox a t']
  |bl b=>cases rx;erw[yx a t' b]
  |int b=>let#[t,rfl]:=rx;erw[ph a t' b t]
  |str b=>let#[t,rfl]:=rx;erw[zV a t' b t]
  |_=>erw[absurd (show ϑ=ζ from fx) a9]
 |_=>erw[absurd (show ϑ=ζ from fy) a9]
abbrev Cz(x:V)(u:Value):Bool:=match u with
 |.none=>Ml .cf x
 |.bool b=>Ml (.bl b) x
 |.int i _=>Ml (.int i) x
 |.str z _=>Ml (.str z) x
 |_=>ϑ
def Ig(r:RelV y u)(f:qk y=ζ):Cz x u=Ml y x:=by
 cases y with
 |cf=>cases r;rfl
 |bl b=>cases r;rfl
 |int i=>let#[t,rfl]:=r;rfl
 |str z=>let#[t,rfl]:=r;rfl
 |_=>erw[absurd (show ϑ=ζ from f) a9]
def rE:∀{xs:List V}{us:List Value},Vals xs us->xs.all qk=ζ->us.any (Cz x)=xs.any λy=>Ml y x
 |_,_,.nil,_=>rfl
 |y::xs,u::us,.cons r t,f=>by
  rw[bG,aj] at f;rw[dO,dO,Ig r f.1,rE t f.2]
def oT(rx:RelV x v)(fx:qk x=ζ):∀{xs:List V}{us:List Value},Vals xs us->xs.all qk=ζ->∀u∈us,wD A s u v (Cz x u)
 |_,_,.nil,_=>λu hu=>by cases hu
 |y::xs,u::us,.cons r t,f=>λu' hu=>by
  rw[bG,aj] at f;rcases aM.mp hu with rfl|hu
  .rw[Ig r f.1];erw[Qj r rx f.1 fx]
  .erw[oT rx fx t f.2 u' hu]
abbrev XR(x:V)(xs:List V):Bool:=xs.any λy=>Ml y x
abbrev rIn(K:aJ)(neg:Bool):R2:=λx y H Q=>∃p xs,y=.ref p/\(gX K H p xs\/oG K H p xs)/\qk x=ζ/\xs.all qk=ζ/\Q (.bl (if neg then !XR x xs else XR x xs)) H
def xD:iw X (bH .In) (rIn X.K ϑ):=by
 x_go;let#[p,xs,rfl,hq,fx,fs,q]:=h;cases ry;rcases hq with hq|hq
 .let#[its,r,pl,hz]:=I.list hq
  refine SeqAt.in_listAt (Cz x) pl.isList (λw hw=>oT rx fx r fs w (~~~hw)) #[.bl _,H,I,rfl,?_];rw[show its.toArray.any (Cz x)=its.any (Cz x) by simp,rE r fs]
  erw[q]
 .let#[its,r,pl,hz]:=I.tuple hq
  refine SeqAt.in_tupleAt (Cz x) pl (λw hw=>oT rx fx r fs w (~~~hw)) #[.bl _,H,I,rfl,?_];rw[show its.toArray.any (Cz x)=its.any (Cz x) by simp,rE r fs]
  erw[q]
def rF:iw X (bH .NotIn) (rIn X.K ζ):=by
 x_go;let#[p,xs,rfl,hq,fx,fs,q]:=h;cases ry;rcases hq with hq|hq
 .let#[its,r,pl,hz]:=I.list hq
  refine SeqAt.notIn_listAt (Cz x) pl.isList (λw hw=>oT rx fx r fs w (~~~hw)) #[.bl _,H,I,rfl,?_];rw[show its.toArray.any (Cz x)=its.any (Cz x) by simp,rE r fs]
  erw[q]
 .let#[its,r,pl,hz]:=I.tuple hq
  refine SeqAt.notIn_tupleAt (Cz x) pl (λw hw=>oT rx fx r fs w (~~~hw)) #[.bl _,H,I,rfl,?_];rw[show its.toArray.any (Cz x)=its.any (Cz x) by simp,rE r fs]
  erw[q]
def yJ:iw X (bH .NotIn) (λx y H Q=>∃i j,x=.str i/\y=.str j/\Q (.bl (!(!(Builtin.Str.occurrences j i 0 j.length 1).isEmpty))) H):=by
 x_go;let#[i,j,rfl,rfl,q]:=h;let#[t,rfl]:=rx;let#[t',rfl]:=ry;erw[notIn_str #[.bl _,H,I,rfl,q]]
def rG:iH X (.type "list") (λxs H Q=>∃p ys,xs=[.ref p]/\(gX X.K H p ys\/oG X.K H p ys)/\∀l,H l=ψ->Q (.ref l) (upd H l (.lst ys))):=by
 k_go;let#[p,ys,rfl,hq,q]:=h;let#[u,rfl,rx]:=vals1 r;cases rx;have fin:∀(its:List Value),Vals ys its->ys.length<=sizeLine->∀(h':Heap)(c':Nat),(∀b o',s.heap.get? b=ξ o'->h'.get? b=ξ o') ->
   h'.get? s.heap.objs.size=ξ {cls:=.type "list",dict:=ψ,data:=.seq its.toArray c',slots:=#[]}->EP X pZ σ Q (.ref s.heap.objs.size) {s with heap:=h'}:=λits r' hz h' c' kp e=>
  #[.ref s.heap.objs.size,_,I.laid (t':=s.toks) kp (ar _) (show dM X.prog X.w _ h' _ (.lst ys) from #[hz,its,c',r',e]),rfl,q _ (I.dE.fresh (ar _))]
 rcases hq with hq|hq
 .let#[its,r',pl,hz]:=I.list hq
  have hlen:=r'.length;let#[o,ho,hc,n,hd]:=pl.isList;exact call_list_seq p (.inl rfl) ho hc hd (λh' c' kp e=>fin its r' hz h' c' kp e) (by dsimp[aD]<;>omega)
 .let#[its,r',pl,hz]:=I.tuple hq
  have hlen:=r'.length;let#[o,ho,hc,n,hd]:=pl;exact call_list_seq p (.inr rfl) ho hc hd (λh' c' kp e=>fin its r' hz h' c' kp e) (by dsimp[aD]<;>omega)
def wL:iH X (.type "tuple") (λxs H Q=>∃p ys,xs=[.ref p]/\((gX X.K H p ys/\∀l,H l=ψ->Q (.ref l) (upd H l (.tup ys)))\/(oG X.K H p ys/\Q (.ref p) H))):=by
 k_go;let#[p,ys,rfl,h]:=h;let#[u,rfl,rx]:=vals1 r;cases rx;rcases h with⟨hq,q⟩|⟨hq,q⟩
 .let#[its,r',pl,hz]:=I.list hq
  have hlen:=r'.length;refine call_tuple_list pl.isList (λh' kp=>?_) (by dsimp[aD]<;>omega);have I1:Inv X pZ σ H {s with heap:=h'}:=I.kept (t':=s.toks) kp;have I2:Inv X pZ σ (upd H h'.objs.size (.tup ys)) {s with heap:=h'.push {cls:=.type "tuple",data:=.seq its.toArray} }:=
   I1.laid (t':=s.toks) (λb o e=>aG _ e) (ar _) (show dM X.prog X.w _ _ _ (.tup ys) from #[hz,its,r',IsTup.new _ _])
  exact#[.ref h'.objs.size,_,I2,rfl,q _ (I1.dE.fresh (ar _))]
 .let#[its,r',pl,hz]:=I.tuple hq
  erw[call_tuple_same pl #[.ref p,H,I,rfl,q]]
abbrev XS(K:aJ)(T:String)(x:V)(H:Hp):Prop:=match x with
 |.str _=>T="str"
 |.int _=>T="int"
 |.ref p=>(T="list"/\∃xs,gX K H p xs)\/(T="tuple"/\∃o,K.lookup p=ξ o/\o.cls=.type "tuple"/\o.dict=ψ) \/
   (T="dict"/\((∃kvs,H p=ξ (.dK kvs))\/(∃kvs,H p=ξ (.dT kvs))\/∃kvs,H p=ξ (.dP kvs)))\/(T="set"/\∃S n,H p=ξ (.set S n))
 |_=>False
def Ih(I:Inv X pZ σ H s)(r:RelV x v)(ty:XS X.K T x H):
  s.TypeIs v T/\∀a,v=.ref a->∃ob,s.heap.get? a=ξ ob/\ob.dict=ψ:=by
 cases x with
 |str z=>
  let#[t,rfl]:=r;cases (show T="str" from ty);exact#[typeIs_str s z t,λ_ e=>nomatch e]
 |int i=>
  let#[t,rfl]:=r;cases (show T="int" from ty);exact#[typeIs_int s i t,λ_ e=>nomatch e]
 |ref p=>
  cases r;rcases ty with⟨rfl,xs,hq⟩|⟨rfl,o,hk,hc,hd⟩|⟨rfl,hk⟩|⟨rfl,S,n,hk⟩
  .let#[its,_,pl,_]:=I.list hq
   refine#[pl.isList.typeIs,λa e=>?_];cases e;let#[o,n,e,c,hd,_]:=pl;exact#[o,e,hd]
  .refine#[#[o,I.yB p o hk,hc],λa e=>?_]
   cases e;exact#[o,I.yB _ o hk,hd]
  .have z:∃o,s.heap.get? p=ξ o/\o.ExactDict:=by
    rcases hk with⟨kvs,hk⟩|⟨kvs,hk⟩|⟨kvs,hk⟩<;>(obtain⟨_,_,_,_,o,_,_,e,ex,_⟩:=I.dE p _ hk;exact#[o,e,ex])
   let#[o,e,ex]:=z;refine#[#[o,e,ex.1],λa e2=>?_];cases e2;exact#[o,e,ex.2.1]
  .let#[o,_,_,_,e,ex,_]:=I.dE p _ hk
   refine#[#[o,e,ex.1],λa e2=>?_];cases e2;exact#[o,e,ex.2.1]
 |_=>erw[aZ ty]
abbrev YV(K:aJ)(T:String)(r:V->List V->Hp->VK->Prop)(to:TE):TE:=λσ H Q=>to σ H λx H1=>XS K T x H1/\r x [] H1 Q
abbrev tBM(K:aJ)(T:String)(r:V->List V->Hp->VK->Prop)(to:TE)(t:TA):TE:=λσ H Q=>to σ H λx H1=>XS K T x H1/\t σ H1 λxs H2=>r x xs H2 Q
variable{o e:Expr}{es:List Expr}{to:TE}{t:TA}{name:Str}{apos cpos:Pos}{T id:String}{r:V->List V->Hp->VK->Prop}
def Ii(pa:PlainAttrs T)(slot:Slot T name id)(hty:typeOf (.builtin id)=pure (.type "method_descriptor"))(hm:Cw X id r)(ho:PE X o to)
  (hbase:iE o name X.env (eval o X.env)=eval o X.env:=by rfl) (hline:(apos.endLine==cpos.line)=ζ:=by rfl):PE X (.Call (.Attribute o name apos) [] [] cpos) (YV X.K T r to):=by
 k_ne;rwa[wpAny_Call_method0_late hbase hline (eG (ho pZ s σ H _ I h) λv s1 h9=>?_)];let#[x,H1,I1,r1,ty,q1]:=h9;let#[h1,h2]:=Ih I1 r1 ty;exact#[T,id,pa,slot,hty,h1,h2,jw rfl (PySem.evalArgs_none (hm pZ s1 σ H1 x [] v [] Q I1 r1 .nil q1))]
def xE(pa:PlainAttrs T)(slot:Slot T name id)(hty:typeOf (.builtin id)=pure (.type "method_descriptor"))(hm:Cw X id r)(ho:PE X o to)(ha:PA X (e::es) t)
  (hbase:iE o name X.env (eval o X.env)=eval o X.env:=by rfl)
  (hfew:((fN cpos (bz (e::es) X.env)).all (λx=>!x.1)&&(backToKw cpos (gQ [] X.env)).all (λx=>x.1.isSome)
   && decide ((e::es).length+([]:List oE).length+(if ([]:List oE).isEmpty then 0 else 1)<30))=ζ:=by rfl)
  (hline:(apos.endLine==cpos.line)=ζ:=by rfl) (hs:bz (e::es) X.env=(ϑ,eval e X.env)::bz es X.env:=by rfl) (hplain:(fN cpos (bz es X.env)).any (·.1)=ϑ:=by rfl):
  PE X (.Call (.Attribute o name apos) (e::es) [] cpos) (tBM X.K T r to t):=by
 k_ne;refine wpAny_Call_method_late hbase hfew hline rfl (eG (ho pZ s σ H _ I h) λv s1 h9=>?_);let#[x,H1,I1,r1,ty,q1]:=h9;let#[h1,h2]:=Ih I1 r1 ty;refine#[T,id,pa,slot,hty,h1,h2,?_];have hA:=ha cpos pZ s1 σ H1 _ I1 q1;rw[hs] at hA ⊢;refine jw (by show(ϑ||(fN cpos (bz es X.env)).any (·.1))=ϑ;rw[hplain]<;>rfl) (p8 ?_);refine eG hA λus s2 h9=>?_
 let#[vs,H2,I2,r2,q2]:=h9;erw[hm pZ s2 σ H2 x vs v us Q I2 r1 r2 q2]
end
abbrev MtM(X:Cx)(id:String)(r:V->List V->Hp->VK->Prop):Prop:=
 ∀(pZ:List (Addr×Obj))(s:aE)(σ:St)(H:Hp)(x:V)(xs:List V)(v:Value)(us:List Value)(Q:VK),Inv X pZ σ H s->RelV x v->Vals xs us->r x xs H Q ->
  wpAny (bf X.prog X.w) X.A (call (.builtin id) (v::us)) (EP X pZ σ Q) X.xe s
def Vals.one:∀{x:V}{us:List Value},Vals [x] us->∃u,us=[u]/\RelV x u
 := by
 intro _ _ h;cases h with|cons r q=>cases q;exact#[_,rfl,r]
def Vals.two:∀{x y:V}{us:List Value},Vals [x,y] us->∃u v,us=[u,v]/\RelV x u/\RelV y v
 := by
 intro _ _ _ h;cases h with|cons r q=>cases q with|cons q q'=>cases q';exact#[_,_,rfl,r,q]
def Vals.reverse{xs:List V}{us:List Value}(h:Vals xs us):Vals xs.reverse us.reverse:=by
 induction h with
 |nil=>erw[.nil]
 |cons r t ih=>rw[mI,mI];erw[Vals.append ih (.cons r .nil)]
section
variable{X:Cx}{pZ:List (Addr×Obj)}{σ:St}{H:Hp}{s:aE}{l b:Addr}{xs ys zs:List V}
def Inv.U4{its its':List Value}{n:Nat}{f:Array Value->Array Value}{t':Nat}(I:Inv X pZ σ H s)(hH:H l=ξ (.lst xs))
  (e:s.heap.get? l=ξ {cls:=.type "list",data:=.seq its.toArray n}) (hf:f its.toArray=its'.toArray) (hv:Vals ys its') (hz:ys.length<=sizeLine):
  Inv X pZ σ (upd H l (.lst ys)) {s with heap:=s.heap.update l (mh f),toks:=t'}:=by
 have q:=PySem.IsL.update e f;rw[hf] at q;rwa[I.write (x:=l) (e:=l) (%[hH|trivial]) (.inl rfl) (λb' u hb hu=>(oC s.heap (mh f) (cM hb)).trans hu) #[_,q] ?_];exact#[hz,its',_,hv,q]
def Inv.U5(I:Inv X pZ σ H s)(hv:Vals ys its)(hz:ys.length<=sizeLine):
  Inv X pZ σ (upd H s.heap.objs.size (.lst ys)) {s with heap:=s.heap.push {cls:=.type "list",data:=.seq its.toArray},toks:=t'}:=
 I.laid (λ_ _ q=>aG _ q) (ar _) #[hz,its,0,hv,aX _ rfl]
def Inv.fresh(I:Inv X pZ σ H s):H s.heap.objs.size=ψ:=I.dE.fresh (ar _)
def Inv.FE(I:Inv X pZ σ H s)(hH:H l=ξ (.lst xs)):xs.length<=sizeLine/\∃(its:List Value)(n:Nat),Vals xs its/\xs.length=its.length/\s.heap.get? l=ξ {cls:=.type "list",data:=.seq its.toArray n}:=by
 let#[z,its,n,r,e]:=I.dE l _ hH;exact#[z,its,n,r,r.length,e]
def Ij(h:n<=sizeLine):Builtin.List.listTooLong n=ϑ:=by
 unfold Builtin.List.listTooLong;erw[decide_eq_false ∅]
end
section
variable{X:Cx}
abbrev Mm:V->List V->Hp->VK->Prop:=λx vs H Q=>∃l xs y,x=.ref l/\vs=[y]/\H l=ξ (.lst xs)/\xs.length<sizeLine/\Q .cf (upd H l (.lst (xs++[y])))
def sO:MtM X "list.append" Mm:=by
 intro pZ s σ H x vs v us Q I rx rv h;let#[l,xs,y,rfl,rfl,hH,hz,q]:=h;cases rx;let#[u,rfl,ru]:=rv.one;let#[z,its,n,r,hl,e]:=I.FE hH;rwa[call_meets F.slot_list_append #[_,e,rfl] F.entry_list_append (F.args_list_append_2 _ _) (PySem.list_append l its.toArray n u (by rw[aD];omega)) #[e,?_]];refine#[.cf,_,I.U4 (its':=its++[u]) hH e (#v[]) (r.append (.cons ru .nil)) ?_,rfl,q];rw[aq,gU]
 omega
abbrev Mn:V->List V->Hp->VK->Prop:=λx vs H Q=>∃l b xs zs,x=.ref l/\vs=[.ref b]/\H l=ξ (.lst xs)/\H b=ξ (.lst zs)/\xs.length+zs.length<=sizeLine/\Q .cf (upd H l (.lst (xs++zs)))
def xF:MtM X "list.extend" Mn:=by
 intro pZ s σ H x vs v us Q I rx rv h;let#[l,b,xs,zs,rfl,rfl,hH,hB,hz,q]:=h;cases rx;let#[u,rfl,ru]:=rv.one;cases ru;let#[z,its,n,r,hl,e]:=I.FE hH;let#[z2,its2,n2,r2,hl2,e2]:=I.FE hB;have hsz:its.toArray.size+its2.toArray.size<=sizeLine:=by rw[aD,aD];omega
 have hlong:¬(!its.toArray.isEmpty&&Builtin.List.listTooLong (its.toArray.size+its2.toArray.size))=ζ:=by
  rw[Ij hsz,Bool.and_false]
  erw[a9]
 refine call_meets F.slot_list_extend #[_,e,rfl] F.entry_list_extend (F.args_list_extend_2 _ _)
  (AutoSeq1.list_extend_list_list_0 l its.toArray n b its2.toArray n2 hlong (by rw[aD];omega) ∅) #[e,e2,?_]
 refine#[.cf,_,I.U4 (its':=its++its2) hH e (#v[]) (r.append r2) ?_,rfl,q];rw[aq]
 omega
abbrev YW:R2:=λx y H Q=>∃l b xs zs,x=.ref l/\y=.ref b/\H l=ξ (.lst xs)/\H b=ξ (.lst zs)/\xs.length+zs.length<=sizeLine/\∀p,H p=ψ->Q (.ref p) (upd H p (.lst (xs++zs)))
def Qk:iw X (cX .Add) YW:=by
 x_go;let#[l,b,xs,zs,rfl,rfl,hH,hB,hz,q]:=h;cases rx;cases ry;let#[z,its,n,r,hl,e]:=I.FE hH;let#[z2,its2,n2,r2,hl2,e2]:=I.FE hB;rwa[PySem.P.add_list e e2 ?_ (by rw[aD,aD];omega)];have ea:its.toArray++its2.toArray=(its++its2).toArray:=by simp
 rw[ea]
 exact#[.ref _,_,I.U5 (t':=s.toks) (r.append r2) (by rw[aq];omega),rfl,q _ I.fresh]
end
end L2
namespace Att
open PySem PySem.W PySem.Calls PyProof.Rows
def uj:∀(ns:List Int)(vs:List Value),WellAll P h vs (ns.map WData.int)->Hw vs ns:=by
 intro ns;induction ns with
 |nil=>
  intro vs w;rw[fD] at w;cases w;erw[.nil]
 |cons n ns ih=>
  intro vs w;rw[aw] at w;cases w with
  |cons a b=>
   cases a;erw[.cons _ _ (ih _ b)]
def FF{l:Hx}{n:Nat}(hn:l.most=ξ n){P:Params}{h:Heap}{args:List WData}{vals:List Value}
  (hpre:l.row.toRowW.claim.pre args=ζ) (hwl:WellAll P h vals args):
  ∃a vs ns,vals=[bp a]/\args=[WData.list (ns.map WData.int)]/\h.get? a=ξ {cls:=.type "list",data:=.seq vs.toArray}/\Hw vs ns/\ns.length<=n:=by
 have hsh:WShape.hasAll [] args [.list .int]=ζ:=(pre_splitW hpre).1;have hc:l.pre.holds [] {args:=args}= ζ:=(pre_splitW hpre).2;let#[d,r,rfl,h1,h2]:=hasAllW_cons hsh;obtain rfl:=hasAllW_nil h2;let#[xs,rfl,h3]:=hasW_list h1;let#[ns,rfl]:=items_int h3;have hlen:ns.length<=n:=by
  unfold OpenLaw.pre at hc;have h4:(WTm.not (.lt (.lit (.int (n:Int))) (.len (.arg 0)))).holds [] {args:=[.list (ns.map .int)]}= ζ:=by
   have h4:=(holds_andW hc).1;rw[hn] at h4;erw[h4]
  have h5:=condW_of h4 (w_not (w_lt w_lit (w_len_list (w_arg rfl))));rw[ae] at h5;rwa[kh λq=>?_]
  have q':(n:Int)<((ns.length:Nat):Int):=∅
  first
   | (rw[decide_eq_true q'] at h5;erw[absurd h5 ⋯])
   | (simp at h5;omega)
 cases hwl with
 |cons w1 w2=>
  cases w2;cases w1 with
  |list ho hall=>exact#[_,_,ns,rfl,rfl,ho,uj ns _ hall,hlen]
def FG(l:Hx)(args:List WData):l.row.toRowW.claim.post args (.bool ζ) args=ζ:=
 postW_of (r:=l.row.toRowW) (X:=(ζ==ζ))
  (show WShape.has [] (.bool ζ) .bool=ζ by first|rfl|decide|simp[WShape.has,WShape.arms,WShape.armsAll])
  (show(WTm.eq .res (.lit (.bool ζ))).value [] {args:=args,res:=ξ (.bool ζ),after:=args}= ξ (.bool (ζ==ζ)) from w_eq_bool (w_res rfl) w_lit) rfl
def AG{l:Hx}{n:Nat}{q:bK}{loose:List Str}{XP:(Str->Option Value)->Heap->Prop}{YP:cx->Heap->Prop}{d:DefRec}
  (hn:l.most=ξ n) (hdf:d.params.defaults=[])
  (call:∀(w:cx)(s₀ s₁:aE)(mg mb:Str->Option Value)(fa:Addr)(o:Obj)(pm cd doc:Value)(a:Addr)(vs:List Value)(ns:List Int),
   Ground q loose [] XP w s₀ mg mb s₁.heap->YP w s₁.heap ->
   s₁.heap.get? fa=ξ o->o.data=.func (docDef d.name d.params d.body d.scope pm cd doc)->s₁.heap.CodeRec cd d.name->mg d.name=ξ (.ref fa) ->
   s₁.heap.get? a=ξ {cls:=.type "list",data:=.seq vs.toArray}->Hw vs ns->ns.length<=n->s₁.gens = #[] ->
   oB (bf l.prog w) wF (.call (.ref fa) #[[.ref a],[]]) (λr s'=>r=.ok (.ret (.bool ζ))/\OldK s₁.heap s'.heap/\s'.os=s₁.os/\qw s'.gens) s₁):
  WalkO q loose XP YP l.row.toRowW d [] (λf vs=>Fc f vs):=by
 intro w s₀ s₁ mg mb G Y fa o pm cd doc dV kV ho hd hcd hD hmg hg args vals as hpre hlay hrd hwl hlo;obtain rfl:dV=.none:=Dflts.none hD hdf;obtain rfl:kV=.none:=Dflts.noKw hD;let#[a,vs,ns,rfl,rfl,hobj,hints,hlen]:=FF hn hpre hwl;rwa[enter_call (wB (call w s₀ s₁ mg mb fa o pm cd doc a vs ns G Y ho (fd_plain hd) hcd hmg hobj hints hlen hg) λr s' hq=>?_)];let#[rfl,h2,h3,h4]:=hq;exact#[.inl #[.bool ζ,.bool ζ,[],rfl,λ_=>rfl,.bool ζ,FG l _,λ_=>#[xi,λ_ hm=>(nomatch hm)]],h2,h3,h4]
end Att
namespace L2
open PySem PySem.Spec PyProof.Rows
def xG:∀{vs:List Value}{ns:List Int},Hw vs ns->Vals (ns.map V.int) vs
 |_,_,.nil=>.nil
 |_,_,.cons n t h=>.cons #[t,rfl] (xG h)
abbrev Mo(H:Hp):Prop:=∀b,H b=ψ\/∃o xs,H b=ξ (.sC o (.lst xs))
def Ik{P:bK}{w:cx}{K:aJ}{mg mb:Str->Option Value}{CX:Hj}{k:Nat}{fa a:Addr}{fd:fP}{x:Str}{sp:Sp}{s₁:aE}{vs:List Value}{ns:List Int}
  (KX:K.In s₁.heap) (hns:s₁.heap.Ns bL mg) (hb:s₁.heap.Ns B6 mb) (hbb:∀x:Str,x≠"__name__"->mb x=kf x) (hlim:s₁.heap.NoLimit) (hg:s₁.gens = #[])
  (ha:s₁.heap.get? a=ξ {cls:=.type "list",data:=.seq vs.toArray}) (hi:Hw vs ns) (hl:ns.length<=sizeLine) (hr:jx k wF)
  (F:∀base:Heap,K.In base->base.Ns bL mg->jz P w K mg base CX k fa fd [x] sp) (hbind:∀(s:aE)(u:Value),BQ s fd #[[u],[]] [(x,u)])
  (hsp:∀H:Hp,Mo H->gX K H a (ns.map V.int)->sp [.ref a] H (λv _=>v=.bl ζ) λ_ _ _=>False)
  (hCX:∀H e s',CX [] H s₁ (λ_ _ _=>False) e s'->False):
  oB (bf P w) wF (.call (.ref fa) #[[.ref a],[]]) (λr s'=>r=.ok (.ret (.bool ζ))/\OldK s₁.heap s'.heap/\s'.os=s₁.os/\qw s'.gens) s₁:=by
 have rv:=xG hi;have lenV:=hi.length;have core:∀H:Hp,Mo H->gX K H a (ns.map V.int)->qc P w H s₁.heap->(∀b,H b≠ψ->b=a)->(H a≠ψ->K.lookup a=ψ) ->
   oB (bf P w) wF (.call (.ref fa) #[[.ref a],[]]) (λr s'=>r=.ok (.ret (.bool ζ))/\OldK s₁.heap s'.heap/\s'.os=s₁.os/\qw s'.gens) s₁:=by
  intro H hO hS dE hA hK;have fV:∀{b:Addr}{o:Obj},s₁.heap.get? b=ξ o->H b=ψ->(yA s₁.heap H).get? b=ξ o:=λe n=>HJ e n
  have noA:∀{b:Addr}{o:Obj}{es:Array p9}{ep:Nat},s₁.heap.get? b=ξ o->o.data=.dict es ep->H b=ψ:=λ{b o es ep}e d=>by
   cases q:H b with
   |none=>rfl
   |some u=>
    have e':b=a:=hA b (by rw[q];simp);subst e';rw[ha] at e;cases e;have d':Data.seq vs.toArray _=Data.dict es ep:=d;cases d'
  have nsK:∀{b:Addr}{m:Str->Option Value},s₁.heap.Ns b m->(yA s₁.heap H).Ns b m:=λ{b m} ⟨o,es,ep,e,d,r⟩=>#[o,es,ep,fV e (noA e d),d,r]
  have hKb:K.In (yA s₁.heap H):=λb o e=>fV (KX b o e) (by
   cases q:H b with
   |none=>rfl
   |some u=>
    have e':b=a:=hA b (by rw[q];simp);subst e';rw[hK (by rw[q];simp)] at e;cases e)
  have hM:Mod K mg (yA s₁.heap H):=#[hKb,nsK hns,#[mb,nsK hb,hbb],let ⟨mc,h1,h2⟩:=hlim;#[mc,nsK h1,h2]]
  have e0:Cu P w K mg (yA s₁.heap H) wF [] s₁ H:=#[rfl,hM,λb o e=>LP e,B7 (Fq _ _),trivial,λb hb=>absurd (show b∈([]:List Addr) from hb) (#v[]),dE,.of_eq hg]
  rwa[wB ((F _ hKb (nsK hns)).run wF [] s₁ H #[[.ref a],[]] [.ref a] [.ref a] _ _ hr e0 (hbind s₁ (.ref a)) (.cons rfl .nil) (hsp H hO hS)) λr s' h=>?_]
  cases r with
  |error e=>exact(hCX H e s' h).elim
  |ok fl=>
   cases fl with
   |next=>erw[aZ h]
   |brk=>erw[aZ h]
   |cont=>erw[aZ h]
   |ret u=>
    let#[v,H',os,bare,un,hok',r',q]:=h;have q':v=.bl ζ:=q;subst q';obtain rfl:u=iq ζ:=r';refine#[rfl,OldK.of_keep λb o e=>?_,os,bare];cases q:H b with
    |none=>erw[un.keep b o e q (by intro z;exact absurd (show b∈([]:List Addr) from z) (#v[])) (#v[])]
    |some u=>
     rcases hO b with z|⟨ob,xs,z⟩
     .rw[q] at z;cases z
     .have z2:=un.yz b ob _ z
      let#[e1,_]:=dE b _ z;let#[e2,_]:=hok' b _ z2;rw[e] at e1;cases e1;erw[e2]
 cases hk:K.lookup a with
 |some o=>
  have e:=KX a o hk;rw[ha] at e;cases e;refine core (λ_=>ψ) (λ_=>.inl rfl) (.inr #[_,vs.toArray,_,hk,rfl,rfl,rfl,%[aD,lenV|hl],~~~rv]) (λb u z=>by have z':(ψ:Option HO)=ξ u:=z;cases z') (λb z=>absurd rfl z) λz=>absurd rfl z
 |none=>
  rwa[core (λb=>if b=a then ξ (.sC {cls:=.type "list",data:=.seq vs.toArray} (.lst (ns.map V.int))) else ψ) (λb=>?_) (.inl (.inr #[{cls:=.type "list",data:=.seq vs.toArray},if_pos rfl])) (λb u z=>?_) (λb z=>?_) λ_=>hk]
  .by_cases hb:b=a
   .erw[.inr #[_,_,if_pos hb]]
   .erw[.inl (if_neg hb)]
  .by_cases hb:b=a
   .have z':=(if_pos hb).symm.trans z
    cases z';subst hb;exact#[ha,%[ae|hl],vs,_,rv,ha]
   .have z':=(if_neg hb).symm.trans z
    cases z'
  .by_cases hb:b=a
   .erw[hb]
   .erw[absurd (if_neg hb) z]
def Mp{l:PySem.W.OpenLaw}{n k:Nat}{q:bK}{loose:List Str}{XP:(Str->Option Value)->Heap->Prop}{YP:cx->Heap->Prop}{d:DefRec}{K:Params->aJ}{CX:cx->Hj}{sp:cx->Sp}{x:Str}
  (hn:l.most=ξ n) (hn2:n<=sizeLine) (hdf:d.params.defaults=[]) (hr:jx k wF)
  (hY:∀(w:cx)(h:Heap),YP w h->(K w.params).In h)
  (F:∀(w:cx)(mg:Str->Option Value)(fa:Addr)(h:Heap),(K w.params).In h->h.Ns bL mg->mg d.name=ξ (.ref fa) ->
   ∃fd:fP,(∀(s:aE)(u:Value),BQ s fd #[[u],[]] [(x,u)]) /\
    ∀base:Heap,(K w.params).In base->base.Ns bL mg->jz l.prog w (K w.params) mg base (CX w) k fa fd [x] (sp w))
  (hsp:∀(w:cx)(H:Hp)(a:Addr)(ns:List Int),ns.length<=n->Mo H->gX (K w.params) H a (ns.map V.int)->sp w [.ref a] H (λv _=>v=.bl ζ) λ_ _ _=>False)
  (hCX:∀(w:cx)(H:Hp)(s:aE)(e:Value)(s':aE),CX w [] H s (λ_ _ _=>False) e s'->False):
  PySem.W.WalkO q loose XP YP l.row.toRowW d [] (λf vs=>Fc f vs):=by
 rwa[Att.AG hn hdf λw s₀ s₁ mg mb fa o pm cd doc a vs ns G Y ho hd hcd hmg hobj hints hlen hg=>?_]
 have KX:=hY w _ Y;let#[fd,hb,hF]:=F w mg fa _ KX G.T.g hmg;erw[Ik KX G.T.g G.T.b G.T.builtins G.T.nolimit hg hobj hints (aH hlen hn2) hr hF hb (λH hO hS=>hsp w H a ns hlen hO hS) λH e s'=>hCX w H s₁ e s']
abbrev inClass(s:Stmt)(j:Nat):Stmt:=match s with
 |.ClassDef _ _ _ body _ _ _ _ _ _ _=>body.getD j (.Pass #[0,0,0,0])
 |_=>.Pass #[0,0,0,0]
abbrev lQ(s:Stmt):Arguments:=match s with
 |.FunctionDef _ a _ _ _ _ _ _ _ _=>a
 |_=>{posonlyargs:=[],args:=[],vararg:=ψ,kwonlyargs:=[],kw_defaults:=[],kwarg:=ψ,defaults:=[]}
abbrev fW(s:Stmt):List Stmt:=match s with
 |.FunctionDef _ _ b _ _ _ _ _ _ _=>b
 |_=>[]
abbrev bY(s:Stmt):kg:=match s with
 |.FunctionDef _ _ _ _ _ _ sc _ _ _=>sc
 |_=>{kind:=.function,names:=[],isGenerator:=ϑ,isCoroutine:=ϑ}
@[reducible]def CB:Hj:=λ_ _ _ _ _ _=>False
@[reducible]def E0:XK:=λ_ _ _=>False
def xH:Passes CB X E0:=λ_ _ _ _ _ _ _ h=>h.elim
structure Lx(K:aJ)(x qual:Str)(st:Stmt)(f:Addr)(fd:fP):Prop where
 ex:∃(oc:Value)(od:Option Addr)(kV doc pm:Value)(an:Option Addr)(cdv ct:Value)(osl:Array (Option Value)),
  fd=kD x qual (lQ st) (fW st) (bY st) .none kV doc pm an cdv ct/\K.lookup f=ξ #[oc,od,.func fd,osl]/\uV K cdv qual=ζ
 kp:jf K (.ref f)=ζ
section
variable{P:bK}{w:cx}{K:aJ}{mg:Str->Option Value}{base:Heap}
def Lx.ok{x qual:Str}{st:Stmt}{f:Addr}{fd:fP}{N ps:List Str}{k:Nat}{sp:Sp}(F:Lx K x qual st f fd)(S:lP N ps (bY st))(len:∀vs H Q E,sp vs H Q E->vs.length=ps.length)
  (hbody:∀(cdv:Value)(A:dC)(outer:List Env)(s:aE)(H:Hp)(vs:List V)(Q:VK)(E:XK),jx k (A.deeper (sG qual (bY st) s.heap.objs.size f cdv))->sp vs H Q E ->
   ∃t,uz (Cv CB P w K mg base N qual (bY st) f cdv A outer s H E).Ux (fW st) t/\t {nx:=λ_ H'=>Q .cf H',rt:=Q} (start N vs) H):jz P w K mg base CB (k+1) f fd ps sp:=by
 let#[oc,od,kV,doc,pm,an,cdv,ct,osl,rfl,lk,hcd]:=F.ex;rwa[UZ lk hcd S len λA outer s H vs Q E hr hsp=>?_]
 let#[t,h,q]:=hbody cdv A outer s H vs Q E hr hsp;exact#[t,h.Ux,q]
def Lx.binds{x qual:Str}{st:Stmt}{f:Addr}{fd:fP}{ps:List Str}(F:Lx K x qual st f fd)
  (h:∀(kV doc pm:Value)(an:Option Addr)(cdv ct:Value)(us:List Value),us.length=ps.length->LJ (kD x qual (lQ st) (fW st) (bY st) .none kV doc pm an cdv ct) #[us,[]]=pure (ps.zip us)):Binds K fd ps []:=by
 let#[oc,od,kV,doc,pm,an,cdv,ct,osl,rfl,lk,hcd]:=F.ex;erw[.all (h kV doc pm an cdv ct)]
def Il{x qual:Str}{st:Stmt}{f:Addr}{oc:Value}{od an:Option Addr}{osl:Array (Option Value)}{kV doc pm cdv ct:Value}(l:K.lookup f=ξ #[oc,od,.func (kD x qual (lQ st) (fW st) (bY st) .none kV doc pm an cdv ct),osl])
  (c:uV K cdv qual=ζ) (k:jf K (.ref f)=ζ):Lx K x qual st f (kD x qual (lQ st) (fW st) (bY st) .none kV doc pm an cdv ct):=#[#[oc,od,kV,doc,pm,an,cdv,ct,osl,rfl,l,c],k]
end
section
variable{κ:Type}[DecidableEq κ]
abbrev gO(kvs:List (κ×V))(k:κ):Option V:=(kvs.find? λkv=>decide (kv.1=k)).map (·.2)
abbrev putK(kvs:List (κ×V))(k:κ)(v:V):List (κ×V):=
 if (kvs.any λkv=>decide (kv.1=k))=ζ then kvs.map (λkv=>if kv.1=k then(kv.1,v) else kv) else kvs++[(k,v)]
def jj{p:κ×V}{r:List (κ×V)}{k:κ}(e:p.1=k):gO (p::r) k=ξ p.2:=by simp[gO,dX,e]
def jk{p:κ×V}{r:List (κ×V)}{k:κ}(e:¬p.1=k):gO (p::r) k=gO r k:=by simp[gO,dX,e]
def vg(k:κ):∀kvs:List (κ×V),(kvs.any λkv=>decide (kv.1=k))=(gO kvs k).isSome
 |[]=>rfl
 |p::r=>by
  rw[dO]
  by_cases e:p.1=k
  .dsimp[jj e,decide_eq_true e,Bool.true_or,qP]
  .rw[jk e,decide_eq_false e,Bool.false_or];erw[vg k r]
def oU(kvs:List (κ×V))(k:κ)(v:V):(putK kvs k v).length<=kvs.length+1:=by
 unfold putK;split
 .rw[ae];omega
 .rw[aq,aU,dY];omega
def AH{kvs:List (κ×V)}{k:κ}(v:V)(h:gO kvs k=ψ):putK kvs k v=kvs++[(k,v)]:=by
 unfold putK;rw[vg,h]
 erw[if_neg ⋯]
def mq.sP(r:mq o u):o.isSome=u.isSome:=by
 cases o with
 |none=>cases u with
  |none=>rfl
  |some _=>exact(show False from r).elim
 |some _=>cases u with
  |none=>exact(show False from r).elim
  |some _=>rfl
def mq.getD(r:mq o u)(rd:RelV d d'):RelV (o.getD d) (u.getD d'):=by
 cases o with
 |none=>cases u with
  |none=>erw[rd]
  |some _=>exact(show False from r).elim
 |some _=>cases u with
  |none=>exact(show False from r).elim
  |some _=>erw[r]
def KV.val{kvs:List (κ×V)}{vs:List (κ×Value)}(r:KV kvs vs)(k:κ):mq (gO kvs k) (lF vs k):=by
 unfold KV at r;induction r with
 |nil=>erw[eU]
 |@cons p q ps qs h t ih=>
  let#[h1,h2]:=h;by_cases e:p.1=k
  .have e':q.1=k:=h1.symm.trans e
   have b:lF (q::qs) k=ξ q.2:=by simp[lF,dX,e']
   rw[jj e,b];erw[h2]
  .have e':¬q.1=k:=λz=>e (h1.trans z)
   have b:lF (q::qs) k=lF qs k:=by simp[lF,dX,e']
   rw[jk e,b];erw[ih]
def KV.any(r:KV kvs vs)(k:κ):(kvs.any λkv=>decide (kv.1=k))=vs.any λkv=>decide (kv.1=k):=by
 unfold KV at r;induction r with
 |nil=>rfl
 |cons h t ih=>rw[dO,dO,ih,h.1]
def KV.Ql(r:KV kvs vs)(k:κ)(ry:RelV y u):
  KV (kvs.map λkv=>if kv.1=k then(kv.1,y) else kv) (vs.map λkv=>if kv.1=k then(kv.1,u) else kv):=by
 unfold KV at r ⊢;induction r with
 |nil=>erw[.nil]
 |@cons p q ps qs h t ih=>
  rw[aw,aw]
  rwa[.cons ?_ ih];let#[h1,h2]:=h;by_cases e:p.1=k
  .rw[if_pos e,if_pos (h1.symm.trans e)];exact#[h1,ry]
  .rw[if_neg e,if_neg (λz=>e (h1.trans z))];exact#[h1,h2]
def KV.put(r:KV kvs vs)(k:κ)(ry:RelV y u):KV (putK kvs k y) (uX vs k u):=by
 unfold putK uX;rw[r.any k]
 by_cases e:(vs.any λkv=>decide (kv.1=k))=ζ
 .rw[if_pos e,if_pos e];erw[r.Ql k ry]
 .rw[if_neg e,if_neg e];erw[Paired.snoc r #[rfl,ry]]
def KV.keys{kvs:List (κ×V)}{vs:List (κ×Value)}(r:KV kvs vs):kvs.map (·.1)=vs.map (·.1):=by
 unfold KV at r;induction r with
 |nil=>rfl
 |cons h t ih=>rw[aw,aw,ih,h.1]
def KV.length(r:KV kvs vs):kvs.length=vs.length:=Paired.length r
end
def rH(r:RelV (kV k) u):(dh P w).is k u=ζ:=by
 rcases k with i|_|x
 .let#[t,e]:=(show ∃t,u=lD i t from r);subst e;erw[Au P w i t]
 .cases (show u=gh from r);rfl
 .let#[t,e]:=(show ∃t,u=lE x t from r);subst e;erw[Av P w x t]
def Im(e:kV a=kV b):a=b:=by
 rcases a with i|_|x<;>rcases b with j|_|y<;>cases e<;>rfl
def xI:∀{ks:List Key}{us:List Value},Vals (ks.map kV) us->ItemsAre (dh P w) ks us
 |[],_,r=>by rw[fD] at r;cases r;erw[.nil]
 |k::ks,_,r=>by
  rw[aw] at r;cases r with
  |cons h t=>erw[.cons (rH h) (xI t)]
@[reducible]def KT(H:Hp):List (List Key×V)->List (List Key×Addr×Value)->Prop:=Paired λp q=>p.1=q.1/\H q.2.1=ξ (.tup (p.1.map kV))/\RelV p.2 q.2.2
def KT.val{H:Hp}{kvs:List (List Key×V)}{xs:List (List Key×Addr×Value)}(r:KT H kvs xs)(k:List Key):mq (gO kvs k) ((qQ xs k).map (·.2)):=by
 induction r with
 |nil=>erw[eU]
 |@cons p q ps qs h t ih=>
  let#[h1,_,h2]:=h;by_cases e:p.1=k
  .have e':q.1=k:=h1.symm.trans e
   have b:qQ (q::qs) k=ξ q.2:=by simp[qQ,dX,e']
   rw[jj e,b];erw[h2]
  .have e':¬q.1=k:=λz=>e (h1.trans z)
   have b:qQ (q::qs) k=qQ qs k:=by simp[qQ,dX,e']
   rw[jk e,b];erw[ih]
def KT.Ql(r:KT H kvs xs)(k:List Key)(ry:RelV y u):
  KT H (kvs.map λkv=>if kv.1=k then(kv.1,y) else kv) (xs.map (putAt k u)):=by
 induction r with
 |nil=>erw[.nil]
 |@cons p q ps qs h t ih=>
  rw[aw,aw]
  rwa[.cons ?_ ih];let#[h1,h2,h3]:=h;unfold putAt;by_cases e:p.1=k
  .rw[if_pos e,if_pos (h1.symm.trans e)];exact#[h1,h2,ry]
  .rw[if_neg e,if_neg (λz=>e (h1.trans z))];exact#[h1,h2,h3]
def KT.put(r:KT H kvs xs)(k:List Key)(hb:H b=ξ (.tup (k.map kV)))(ry:RelV y u):
  KT H (putK kvs k y) (storedH xs k b u):=by
 have e:(kvs.any λkv=>decide (kv.1=k))=(qQ xs k).isSome:=by
  rw[vg,(r.val k).sP,Fd]
 unfold putK storedH;rw[e]
 by_cases q:(qQ xs k).isSome=ζ
 .rw[if_pos q,if_pos q];erw[r.Ql k ry]
 .rw[if_neg q,if_neg q];erw[Paired.snoc r #[rfl,hb,ry]]
def KT.keeps(r:KT H kvs xs)(ht:∀b ys,H b=ξ (.tup ys)->H' b=ξ (.tup ys)):KT H' kvs xs:=
 Paired.Fp r λ_ _ z=>#[z.1,ht _ _ z.2.1,z.2.2]
section
variable{P:bK}{w:cx}{H:Hp}{h:Heap}{a:Addr}
def OL(ok:qc P w H h)(e:Rd H a u):dM P w H h a u:=e.ok ok
def tX(ok:qc P w H h)(e:Rd H a (.dK kvs)):kvs.length<=sizeLine/\(a==cg)=ϑ/\∃vs,KV kvs vs/\h.DictOf (dh P w) a vs:=
 show dM P w H h a (.dK kvs) from OL ok e
def Io(ok:qc P w H h)(e:H a=ξ (.dK kvs)):kvs.length<=sizeLine/\(a==cg)=ϑ/\∃vs,KV kvs vs/\h.DictOf (dh P w) a vs:=tX ok (.inl e)
def qz(ok:qc P w H h)(e:H a=ξ (.tup (ks.map kV))):(mS (dh P w)).is h ks a:=by
 let#[_,its,r,o,h1,h2,n,h3]:=(show dM P w H h a (.tup (ks.map kV)) from ok a _ e)
 exact#[o,its.toArray,n,h1,h2,h3,~~~(xI r)]
def vh(ok:qc P w H h)(e:Rd H a (.dT kvs)):kvs.length<=sizeLine/\(a==cg)=ϑ /\
  ∃xs,KT H kvs xs/\h.DictOfH (mS (dh P w)) a xs:=by
 let#[z,y,xs,r,o,es,ep,h1,h2,h3,h4,h5]:=(show dM P w H h a (.dT kvs) from OL ok e)
 refine#[z,y,xs,r,o,es,ep,h1,h2,h3,h4,λx hx=>?_,h5];have all:∀{l:List (List Key×V)}{m:List (List Key×Addr×Value)},KT H l m->∀x∈m,(mS (dh P w)).is h x.1 x.2.1:=by
  intro l m q;induction q with
  |nil=>intro x hx;erw[nomatch hx]
  |@cons p q ps qs hq t ih=>
   intro x hx;rcases aM.mp hx with e|hx
   .subst e
    erw[qz ok (by rw[<-hq.1];exact hq.2.1)]
   .erw[ih x hx]
 erw[all r x hx]
def DX(ok:qc P w H h)(e:H a=ξ (.dT kvs)):kvs.length<=sizeLine/\(a==cg)=ϑ /\
  ∃xs,KT H kvs xs/\h.DictOfH (mS (dh P w)) a xs:=vh ok (.inl e)
end
abbrev sQ(H:Hp)(a:Addr)(y:V)(r:Option V):Prop:=
 (∃kvs k,Rd H a (.dK kvs)/\y=kV k/\r=gO kvs k)\/∃kvs k b,Rd H a (.dT kvs)/\y=.ref b/\H b=ξ (.tup (k.map kV))/\r=gO kvs k
abbrev U6(H:Hp)(a:Addr)(y v:V)(H':Hp):Prop:=
 (∃kvs k,H a=ξ (.dK kvs)/\y=kV k/\kvs.length<sizeLine/\H'=upd H a (.dK (putK kvs k v))) \/
 ∃kvs k b,H a=ξ (.dT kvs)/\y=.ref b/\H b=ξ (.tup (k.map kV))/\kvs.length<sizeLine/\H'=upd H a (.dT (putK kvs k v))
def sQ.k{H:Hp}{a:Addr}{kvs:List (Key×V)}{k:Key}(e:H a=ξ (.dK kvs)):sQ H a (kV k) (gO kvs k):=.inl #[kvs,k,.inl e,rfl,rfl]
section
variable{X:Cx}{pZ:List (Addr×Obj)}{σ:St}{H:Hp}{s:aE}{a:Addr}{y v:V}{u r:Value}{o:Option V}{A:dC}{E:Value->aE->Prop}
def Inv.big(I:Inv X pZ σ H s):cg<s.heap.objs.size:=by
 have h:bL<s.heap.objs.size:=(I.mod.glob.keeps I.bk).lt;erw[dm ⋯ h]
def FH(hu:A.units+1<d6)(I:Inv X pZ σ H s)(g:sQ H a y (ξ v))(ry:RelV y u)(h:∀w' s',Inv X pZ σ H s'->RelV v w'->Q w' s'):
  wpAny (bf X.prog X.w) A (tN (.ref a) u) Q E s:=by
 rcases g with⟨kvs,k,e,ey,l⟩|⟨kvs,k,b,e,ey,eb,l⟩
 .subst ey
  let#[z,hd,vs,rel,dd]:=tX I.dE e;let#[w',hw,rw']:=mq.some_of (v:=v) (o:=lF vs k) (%[l|rel.val k]);erw[wpAny_getItem_of (rH ry) dd.mapOf hw (h w' _ (I.tok _) rw')]
 .subst ey
  cases (show u=bp b from ry);let#[z,hd,xs,rel,dd]:=vh I.dE e;let#[w',hw,rw']:=mq.some_of (v:=v) (o:=(qQ xs k).map (·.2)) (%[l|rel.val k]);let#[p,hp,hp2]:=ak.mp hw;rwa[wpAny_getItem_heap (gY hu) (qz I.dE eb) dd hp ?_];rw[hp2]
  erw[h w' _ (I.tok _) rw']
def Mq(hu:A.units+1<d6)(I:Inv X pZ σ H s)(g:sQ H a y o)(ry:RelV y u)(h:∀s',Inv X pZ σ H s'->Q (.bool (!o.isSome)) s'):
  wpAny (bf X.prog X.w) A (bH .NotIn u (.ref a)) Q E s:=by
 rcases g with⟨kvs,k,e,ey,l⟩|⟨kvs,k,b,e,ey,eb,l⟩
 .subst ey
  let#[z,hd,vs,rel,dd]:=tX I.dE e;rwa[wpAny_notIn_of (rH ry) hd dd.mapOf ?_];rw[<-(rel.val k).sP,<-l]
  erw[h _ (I.tok _)]
 .subst ey
  cases (show u=bp b from ry);let#[z,hd,xs,rel,dd]:=vh I.dE e;rwa[wpAny_notIn_heap (gY hu) (qz I.dE eb) hd dd ?_];have q:=(rel.val k).sP;rw[Fd] at q;rw[<-q,<-l]
  erw[h _ (I.tok _)]
def pF(I:Inv X pZ σ H s)(mu:T1 (H a))(hs:gC a s.heap h')(he:∃q,h'.get? a=ξ q)(new:dM X.prog X.w (upd H a ob) h' a ob):
  Inv X pZ σ (upd H a ob) {s with heap:=h',toks:=t'}:=
 I.write (x:=a) (e:=a) mu (.inl rfl) (λb q hb z=>(hs.2 b hb).trans z) he new
def yK(z:kvs.length<=sizeLine)(hd:(a==cg)=ϑ)(rel:KV kvs vs)(dd:h'.DictOf (dh P w) a vs):
  dM P w H' h' a (.dK kvs):=#[z,hd,vs,rel,dd]
def FI(hu:A.units+1<d6)(I:Inv X pZ σ H s)(g:U6 H a y v H')(ry:RelV y u)(rv:RelV v r)(h:∀s',Inv X pZ σ H' s'->Q () s'):
  wpAny (bf X.prog X.w) A (setItem (.ref a) u r) Q E s:=by
 rcases g with⟨kvs,k,e,ey,l,eH⟩|⟨kvs,k,b,e,ey,eb,l,eH⟩
 .subst ey eH
  let#[z,hd,vs,rel,dd]:=Io I.dE e;have hz:vs.length<=sizeLine:=by rw[<-rel.length];erw[z]
  have hl:(putK kvs k v).length<=sizeLine:=by have:=oU kvs k v;omega
  rwa[wpAny_setItem_pairs (hsz:=hz) (rH ry) dd λh' dd' hs=>h _ ?_]
  have he:∃q,h'.get? a=ξ q:=let ⟨q,_,_,hq,_⟩:=dd';#[q,hq];erw[pF I (by rw[e];exact eU) hs he (yK hl hd (rel.put k rv) dd')]
 .subst ey eH
  cases (show u=bp b from ry);let#[z,hd,xs,rel,dd]:=DX I.dE e;have hz:xs.length<=sizeLine:=by rw[<-Paired.length rel];erw[z]
  have hl:(putK kvs k v).length<=sizeLine:=by have:=oU kvs k v;omega
  rwa[wpAny_setItem_heap (hsz:=hz) (gY hu) (qz I.dE eb) dd λh' dd' hs=>h _ ?_]
  let#[q,es,ep,hq,h2,h3,h4,_,h5]:=dd';rwa[pF I (%[e|eU]) hs #[q,hq] #[hl,hd,_,(rel.put k eb rv).keeps λc ys ec=>?_,q,es,ep,hq,h2,h3,h4,h5]];rw[cq (Um ec e (λz=>nomatch z))]
  erw[ec]
end
section
variable{X:Cx}{pZ:List (Addr×Obj)}{σ:St}{H:Hp}{s:aE}{a:Addr}{kvs:List (Key×V)}{k:Key}{u:Value}{A:dC}{E:Value->aE->Prop}
def U7(I:Inv X pZ σ H s)(e:Rd H a (.dK kvs))(h:∀t s',Inv X pZ σ H s'->Q (.int kvs.length t) s'):wpAny (bf X.prog X.w) A (call (.builtin "len") [.ref a]) Q E s:=by
 let#[z,hd,vs,rel,dd]:=tX I.dE e;refine call_len_dict hd dd (by rw[<-rel.length];rw[lG] at z;omega) ?_;rw[<-rel.length]
 erw[h _ _ (I.tok _)]
end
abbrev U8(i:Expr):Prop:=∀ov iv,zU i ϑ ov iv=operate [ov,iv] (tN ov iv)
def Mr{prog:bK}{w:cx}{A:dC}{E:Value->aE->Prop}{s:aE}{env:Env}{value slice:Expr}{pos:Pos}{T id:String}{Q:Value->aE->Prop}
  (hl:uW (.type T) "__getitem__"=pure (ξ (.builtin id))) (hs:U8 slice)
  (h:wpAny (bf prog w) A (eval value env) (λo s₁=>wpAny (bf prog w) A (eval slice env) (λi s₂=>s₂.TypeIs o T/\wpAny (bf prog w) A (tN o i) Q E s₂) E s₁) E s):
  wpAny (bf prog w) A (eval (.Subscript value slice pos) env) Q E s:=by
 rwa[Subscript_ (fU h (λo s₁ h₁=>fU h₁ (λi s₂ h₂=>?_) λ_ _ x=>x) λ_ _ x=>x)];let#[hT,h₂]:=h₂;unfold E9;rwa[af ?_];rw[getitemInPython_of_ne hT.not_modules]
 refine af (mf hT hl ?_);have fin:wpAny (bf prog w) A (zU slice ϑ o i) (λr s₃=>wpAny (bf prog w) A (letTemporaryGo value o r>>=λ_=>pure r) Q E s₃) E s₂:=by
  rw[hs o i]
  erw[wpAny_operating (fU h₂ (λr s₃ h₃=>af (wpAny_letTemporaryGo (aC h₃))) λ_ _ x=>x)]
 first
  |exact aC (af fin)
  |exact af (aC (af fin))
  |exact af fin
def AI(I:Inv X pZ σ H s)(g:sQ H a y o):s.TypeIs (.ref a) "dict":=by
 rcases g with⟨kvs,k,e,_,_⟩|⟨kvs,k,b,e,_,_,_⟩
 .let#[_,_,vs,_,dd]:=tX I.dE e
  erw[dd.typeIs]
 .let#[_,_,xs,_,dd]:=vh I.dE e
  erw[dd.typeIs]
abbrev U9(td ty:TE):TE:=λσ H Q=>td σ H λx H1=>ty σ H1 λy H2=>∃a v,x=.ref a/\sQ H2 a y (ξ v)/\Q v H2
abbrev Va(td ty tv:TE):TS:=λD σ H=>tv σ H λv H1=>td σ H1 λx H2=>ty σ H2 λy H3=>∃a H4,x=.ref a/\U6 H3 a y v H4/\D.nx σ H4
section
variable{X:Cx}{o i e value:Expr}{pos pos' tpos:Pos}{td ty tv:TE}
def Ms(hu:X.A.units+1<d6)(ho:PE X o td)(hi:PE X i ty)(hs:U8 i):PE X (.Subscript o i pos) (U9 td ty):=by
 k_ne;rwa[Mr PySem.F.slot_dict_getitem.lookup hs (eG (ho pZ s σ H _ I h) λu s1 h9=>?_)];let#[x,H1,I1,rx,q1]:=h9;rwa[eG (hi pZ s1 σ H1 _ I1 q1) λiv s2 h9=>?_]
 let#[y,H2,I2,ry,a,v,ex,g,q2]:=h9;subst ex;obtain rfl:u=bp a:=rx;exact#[AI I2 g,FH hu I2 g ry λw' s3 I3 rw'=>#[v,H2,I3,rw',q2]]
def Mt(hu:X.A.units+1<d6)(ho:PE X o td)(hi:PE X i ty)(hv:PE X value tv)(hs:fO value (ξ (.Subscript o i pos')) pos.line X.env=pure ϑ):
  PS X (.Assign [.Subscript o i pos'] value pos) (Va td ty tv):=by
 intro pZ s σ H D I h;rwa[Hy (eG (hv pZ s σ H _ I h) λr s1 h9=>?_) hs];let#[v,H1,I1,rv,q1]:=h9;rwa[eG (ho pZ s1 σ H1 _ I1 q1) λu s2 h9=>?_]
 let#[x,H2,I2,rx,q2]:=h9;rwa[eG (hi pZ s2 σ H2 _ I2 q2) λiv s3 h9=>?_]
 let#[y,H3,I3,ry,a,H4,ex,g,q3]:=h9;subst ex;obtain rfl:u=bp a:=rx;erw[FI hu I3 g ry rv λs4 I4=>#[σ,H4,I4,q3]]
end
def AJ(h:Heap)(hb:cg<h.objs.size):dM P w H (h.push {cls:=.type "dict",data:=.dict #[]}) h.objs.size (.dK []):=
 #[bJ _,beq_eq_false_iff_ne.mpr (cM (aV hb)),[],.nil,BR h]
def Ip(h:Heap)(hb:cg<h.objs.size):dM P w H (h.push {cls:=.type "dict",data:=.dict #[]}) h.objs.size (.dT []):=
 #[bJ _,beq_eq_false_iff_ne.mpr (cM (aV hb)),[],.nil,_,#[],0,aX _ rfl,#[rfl,rfl,rfl],rfl,rfl,xj]
abbrev CC:List (TE×TE)->St->Hp->(List (V×V)->Hp->Prop)->Prop
 |[],_,H,Q=>Q [] H
 | (tk,tv)::r,σ,H,Q=>tk σ H λx H1=>tv σ H1 λy H2=>CC r σ H2 λps H3=>Q ((x,y)::ps) H3
@[reducible]def VV:List (V×V)->List (Value×Value)->Prop:=Paired λp q=>RelV p.1 q.1/\RelV p.2 q.2
abbrev XT(X:Cx)(pos:Pos)(keys:List (Option Expr))(values:List Expr)(trs:List (TE×TE)):Prop:=
 ∀(pZ:List (Addr×Obj))(s:aE)(σ:St)(H:Hp)(Q:List (V×V)->Hp->Prop),Inv X pZ σ H s->CC trs σ H Q ->
  wpAny (bf X.prog X.w) X.A (evalPairs (pairTrees keys values X.env pos)) (λvs s'=>∃ps H',Inv X pZ σ H' s'/\VV ps vs/\Q ps H') X.xe s
def Mu:XT X pos [] [] []:=λpZ s σ H Q I h=>pairTrees_nil_walk #[[],H,I,.nil,h]
def Iq(hk:PE X k tk)(hv:PE X v tv)(hr:XT X pos ks vs trs):
  XT X pos (ξ k::ks) (v::vs) ((tk,tv)::trs):=λpZ s σ H Q I h=>
 pairTrees_cons_walk (eG (hk pZ s σ H _ I h) λu s1 #[x,H1,I1,rx,q1]=>eG (hv pZ s1 σ H1 _ I1 q1) λw2 s2 #[y,H2,I2,ry,q2]=>
  eG (hr pZ s2 σ H2 _ I2 q2) λws s3 #[ps,H3,I3,rel,q3]=>#[(x,y)::ps,H3,I3,.cons #[rx,ry] rel,q3])
abbrev vi(kvs more:List (Key×V)):List (Key×V):=more.foldl (λacc kv=>putK acc kv.1 kv.2) kvs
def KV.merge:∀{more:List (Key×V)}{rs:List (Key×Value)}{kvs:List (Key×V)}{vs:List (Key×Value)},KV more rs->KV kvs vs->KV (vi kvs more) (merged vs rs):=by
 intro more rs kvs vs r;unfold KV at r;induction r generalizing kvs vs with
 |nil=>intro q;erw[q]
 |@cons p q ps qs h t ih=>
  intro r0;have e:KV (putK kvs p.1 p.2) (uX vs q.1 q.2):=by
   have:=r0.put p.1 h.2;rw[<-h.1];erw[this]
  erw[ih e]
def qm:∀(more kvs:List (Key×V)),(vi kvs more).length<=kvs.length+more.length
 |[],kvs=>by show kvs.length<=kvs.length+0;omega
 |p::r,kvs=>by
  have h1:=qm r (putK kvs p.1 p.2);have h2:=oU kvs p.1 p.2;show(vi (putK kvs p.1 p.2) r).length<=_;rw[aU];omega
def vj:∀{kvs:List (Key×V)}{ws:List (Value×Value)},VV (kvs.map λkv=>(kV kv.1,kv.2)) ws->∃rs,Carries (dh P w) ws rs/\KV kvs rs
 |[],_,r=>by rw[fD] at r;cases r;exact#[[],eU,.nil]
 |p::kvs,_,r=>by
  rw[aw] at r;cases r with
  |@cons a b as bs h t=>
   let#[rs,c,q]:=vj (P:=P) (w:=w) t;let#[b1,b2]:=b;exact#[(p.1,b2)::rs,#[rH h.1,rfl,c],.cons #[rfl,h.2] q]
abbrev Vb(trs:List (TE×TE)):TE:=λσ H Q=>∀p,H p=ψ->CC trs σ (upd H p (.dK [])) λps H2=>H2 p=ξ (.dK [])/\∃kvs:List (Key×V),ps=kvs.map (λkv=>(kV kv.1,kv.2))/\kvs.length<=15/\Q (.ref p) (upd H2 p (.dK (vi [] kvs)))
def Mv(h:XT X pos keys values trs)(hall:keys.all (·.isSome)=ζ)(hl:keys.length=values.length)(h0:keys≠[])
  (h15:keys.length<=15):PE X (.Dict keys values pos) (Vb trs):=by
 intro pZ s σ H Q I q;have hn:=I.dE.fresh (ar s.heap.objs.size);have I1:=I.laid (a:=s.heap.objs.size) (o:=.dK []) (h':=s.heap.push {cls:=.type "dict",data:=.dict #[]}) (t':=s.toks) (λ_ _ q=>aG _ q) (ar _) (AJ s.heap I.big);refine wpAny_Dict_walk (knd:=dh X.prog X.w) hall hl h0 h15 (eG (h pZ _ σ _ _ I1 (q _ hn)) λws s2 h9=>?_);let#[ps,H2,I2,rel,e,kvs,ep,lk,q2]:=h9;subst ep;let#[rs,c,rk]:=vj (P:=X.prog) (w:=X.w) rel;let#[z,hd,vs0,r0,dd]:=Io I2.dE e;cases r0;refine#[rs,c,dd,λh' dd' hs=>#[.ref s.heap.objs.size,_,?_,rfl,q2]];have hz:(vi [] kvs).length<=sizeLine:=by
  have h1:=qm kvs [];rw[dY] at h1;rw[lG];omega
 have he:∃q,h'.get? s.heap.objs.size=ξ q:=let ⟨q,_,_,hq,_⟩:=dd';#[q,hq];erw[pF I2 (by rw[e];exact eU) hs he (yK hz hd (rk.merge .nil) dd')]
structure M1(X:Cx)(o:Expr)(m:Str)(apos:Pos)(e:Expr)(cpos:Pos):Prop where
 base:iE o m X.env (eval o X.env)=eval o X.env
 YX:((fN cpos (bz [e] X.env)).all (λx=>!x.1)&&(backToKw cpos (gQ [] X.env)).all (λx=>x.1.isSome)
  && decide (([e]:List Expr).length+([]:List oE).length+(if ([]:List oE).isEmpty then 0 else 1)<30))=ζ
 line:(apos.endLine==cpos.line)=ζ
 trees:fN cpos (bz [e] X.env)= [(ϑ,eval e X.env)]
structure M2(X:Cx)(o:Expr)(m:Str)(apos:Pos)(e f:Expr)(cpos:Pos):Prop where
 base:iE o m X.env (eval o X.env)=eval o X.env
 YX:((fN cpos (bz [e,f] X.env)).all (λx=>!x.1)&&(backToKw cpos (gQ [] X.env)).all (λx=>x.1.isSome)
  && decide (([e,f]:List Expr).length+([]:List oE).length+(if ([]:List oE).isEmpty then 0 else 1)<30))=ζ
 line:(apos.endLine==cpos.line)=ζ
 trees:fN cpos (bz [e,f] X.env)= [(ϑ,eval e X.env),(ϑ,eval f X.env)]
abbrev YY(H:Hp)(a:Addr):Prop:=(∃kvs,Rd H a (.dK kvs))\/∃kvs,Rd H a (.dT kvs)
def Ir(I:Inv X pZ σ H s)(d:YY H a):
  s.TypeIs (.ref a) "dict"/\(∀b,bp a=.ref b->∃ob,s.heap.get? b=ξ ob/\ob.dict=ψ)/\(a==cg)=ϑ:=by
 rcases d with⟨kvs,e⟩|⟨kvs,e⟩
 .let#[_,hd,vs,_,dd]:=tX I.dE e
  refine#[dd.typeIs,λb q=>?_,hd];cases q;let#[ob,_,_,h1,h2,_]:=dd;exact#[ob,h1,h2.2.1]
 .let#[_,hd,xs,_,dd]:=vh I.dE e
  refine#[dd.typeIs,λb q=>?_,hd];cases q;let#[ob,_,_,h1,h2,_]:=dd;exact#[ob,h1,h2.2.1]
section
variable{X:Cx}{pZ:List (Addr×Obj)}{σ:St}{H:Hp}{s:aE}{a:Addr}{y d:V}{u r:Value}{o:Option V}{A:dC}{E:Value->aE->Prop}
def Qm(hu:A.units+1<d6)(I:Inv X pZ σ H s)(g:sQ H a y o)(ry:RelV y u)(h:∀w' s',Inv X pZ σ H s'->RelV (o.getD .cf) w'->Q w' s'):
  wpAny (bf X.prog X.w) A (call (.builtin "dict.get") [.ref a,u]) Q E s:=by
 rcases g with⟨kvs,k,e,ey,l⟩|⟨kvs,k,b,e,ey,eb,l⟩
 .subst ey
  let#[z,hd,vs,rel,dd]:=tX I.dE e;rwa[ki eQ dd.typeIs jh (xk _ _) (meets_dict_get (dh X.prog X.w) a (rH ry) hd) #[_,dd.mapOf,h _ _ (I.tok _) ?_]];rw[l]
  exact(rel.val k).getD rfl
 .subst ey
  cases (show u=bp b from ry);let#[z,hd,xs,rel,dd]:=vh I.dE e;rwa[ki eQ dd.typeIs jh (xk _ _) (meetsH_dict_get (mS (dh X.prog X.w)) a b hd) #[gY hu,k,xs,qz I.dE eb,dd,h _ _ (I.tok _) ?_]];rw[l]
  exact(rel.val k).getD rfl
def Qn(hu:A.units+1<d6)(I:Inv X pZ σ H s)(g:sQ H a y o)(ry:RelV y u)(rd:RelV d r)(h:∀w' s',Inv X pZ σ H s'->RelV (o.getD d) w'->Q w' s'):
  wpAny (bf X.prog X.w) A (call (.builtin "dict.get") [.ref a,u,r]) Q E s:=by
 rcases g with⟨kvs,k,e,ey,l⟩|⟨kvs,k,b,e,ey,eb,l⟩
 .subst ey
  let#[z,hd,vs,rel,dd]:=tX I.dE e;rwa[ki eQ dd.typeIs jh (xm _ _ _) (meets_dict_get_default (dh X.prog X.w) a (rH ry) hd r) #[_,dd.mapOf,h _ _ (I.tok _) ?_]];rw[l]
  exact(rel.val k).getD rd
 .subst ey
  cases (show u=bp b from ry);let#[z,hd,xs,rel,dd]:=vh I.dE e;rwa[ki eQ dd.typeIs jh (xm _ _ _) (meetsH_dict_get_default (mS (dh X.prog X.w)) a b hd r) #[gY hu,k,xs,qz I.dE eb,dd,h _ _ (I.tok _) ?_]];rw[l]
  exact(rel.val k).getD rd
end
abbrev Qo(td ty:TE):TE:=λσ H Q=>td σ H λx H1=>∃a,x=.ref a/\YY H1 a/\ty σ H1 λy H2=>∃o,sQ H2 a y o/\Q (o.getD .cf) H2
abbrev Qp(td ty tx:TE):TE:=λσ H Q=>td σ H λx H1=>∃a,x=.ref a/\YY H1 a/\ty σ H1 λy H2=>tx σ H2 λz H3=>∃o,sQ H3 a y o/\Q (o.getD z) H3
section
variable{X:Cx}{o e f:Expr}{apos cpos:Pos}{td ty tx:TE}
def Iu(hu:X.A.units+1<d6)(ho:PE X o td)(he:PE X e ty)(m:M1 X o "get" apos e cpos):PE X (.Call (.Attribute o "get" apos) [e] [] cpos) (Qo td ty):=by
 k_ne;rwa[wpAny_Call_method m.base m.YX m.line i6 eQ zW (eG (ho pZ s σ H _ I h) λu s1 h9=>?_)];let#[x,H1,I1,rx,a,ex,d,q1]:=h9;subst ex;obtain rfl:u=bp a:=rx;let#[t1,t2,_]:=Ir I1 d;refine#[t1,t2,?_];rw[m.trees]
 rwa[jw rfl (p8 (gu (eG (he pZ s1 σ H1 _ I1 q1) λiv s2 h9=>?_)))];let#[y,H2,I2,ry,ov,g,q2]:=h9;rwa[jv ?_];erw[Qm hu I2 g ry λw' s3 I3 rw'=>#[_,H2,I3,rw',q2]]
def Iv(hu:X.A.units+1<d6)(ho:PE X o td)(he:PE X e ty)(hf:PE X f tx)(m:M2 X o "get" apos e f cpos):PE X (.Call (.Attribute o "get" apos) [e,f] [] cpos) (Qp td ty tx):=by
 k_ne;rwa[wpAny_Call_method m.base m.YX m.line i6 eQ zW (eG (ho pZ s σ H _ I h) λu s1 h9=>?_)];let#[x,H1,I1,rx,a,ex,d,q1]:=h9;subst ex;obtain rfl:u=bp a:=rx;let#[t1,t2,_]:=Ir I1 d;refine#[t1,t2,?_];rw[m.trees]
 refine jw rfl (p8 (gu (eG (he pZ s1 σ H1 _ I1 q1) λiv s2 #[y,H2,I2,ry,q2]=>
  gu (eG (hf pZ s2 σ H2 _ I2 q2) λfv s3 #[z,H3,I3,rz,ov,g,q3]=>jv ?_))))
 erw[Qn hu I3 g ry rz λw' s4 I4 rw'=>#[_,H3,I4,rw',q3]]
end
section
variable{X:Cx}
def FJ:iH X (.builtin "len") (λxs H Q=>∃a kvs,xs=[V.ref a]/\H a=ξ (.dK kvs)/\Q (.int kvs.length) H):=by
 k_go;let#[a,kvs,rfl,ha,q]:=h;let#[u,rfl,ru]:=vals1 r;cases ru;erw[U7 I (.inl ha) λt s' I'=>#[.int kvs.length,H,I',#[t,rfl],q]]
end
open PySem.W
section
variable{prog:bK}{w:cx}{K:Type}[DecidableEq K]{A:dC}{E:Value->aE->Prop}{s:aE}
def CD{knd:KeyKind prog w K}{d:Addr}{kvs:List (K×Value)}{k:K}{key v:Value}{Q:Value->aE->Prop}(hkey:knd.is k key=ζ)(hm:s.heap.DictOf knd d kvs)(hsz:kvs.length<=sizeLine)
  (h1:∀x t',lF kvs k=ξ x->Q x {s with toks:=t'})
  (h2:∀h' t',lF kvs k=ψ->h'.DictOf knd d (uX kvs k v)->gC d s.heap h'->Q v {s with heap:=h',toks:=t'}):
  wpAny (bf prog w) A (iZ d key v) Q E s:=by
 have mo:s.heap.MapOf knd d (lF kvs):=hm.mapOf;let#[o,es,ep,ho,hc,hd,hk,hp,hn]:=hm;let#[o',es',ep',ho',_,hd',_,hf]:=mo;obtain rfl:o=o':=aK (ho.symm.trans ho');rw[hd] at hd';injection hd' with e1 _
 subst e1;have hes:es.size<=sizeLine:=by
  have e1:=hp.length;have e2:es.toList.length=es.size:=by simp
  omega
 unfold iZ;refine eY (af (knd.pyHash hkey ?_));refine af (wpAny_dictFind_of (s:={s with toks:=s.toks+1}) hkey ho hd hk ?_);have hidx:(es.findIdx? λe=>knd.is k e.key)=kvs.findIdx? λkv=>decide (kv.1=k):=by
  rw[<-hp.findIdx k];let#[l]:=es;simp
 have hv:lF kvs k=((es.findIdx? λe=>knd.is k e.key).bind λi=>es[i]?).map (·.val):=by
  rw[<-hf k,findBy_of_findIdx?]
  cases es.findIdx? λe=>knd.is k e.key<;>rfl
 cases hi:es.findIdx? λe=>knd.is k e.key with
 |some i=>
  rw[hi] at hv;refine af (iN (s:={s with toks:=s.toks+1}) ho hd ?_);have hlt:i<es.size:=(Array.findIdx?_eq_some_iff_findIdx_eq.mp hi).1;have hv:lF kvs k=(es[i]?).map (·.val):=hv;rw[cC hlt] at hv ⊢;erw[af (mV (aC (h1 _ _ hv)))]
 |none=>
  rw[hi] at hv;have hnot:k∉kvs.map (·.1):=not_mem_of_findIdx_none (hidx▸hi);have hany:¬(kvs.any λkv=>decide (kv.1=k))=ζ:=by
   rw[List.any_eq_true];rintro⟨kv,hkv,he⟩;erw[hnot (bO.mpr #[kv,hkv,of_decide_eq_true he])]
  refine af (mV (af (LL (hz:=hes) (s:={s with toks:=s.toks+1}) ho hd (aC (h2 _ _ hv #[_,_,ep+1,gS _ ho (Hb (kE hd _)),
   hc.mapDictKeys _,kE hd _,hk.push hkey _,?_,?_] (fg ..))))))
  .rw[uX,if_neg hany]
   have:=hp.append hkey (knd.hash k) v;let#[l]:=es;simpa using this
  .rw[uX,if_neg hany,aI,fE]
   refine#[hn,#v[],λa ha b hb=>?_];dsimp[aw,fD,bI] at hb;subst hb;erw[λe=>hnot (e▸ha)]
def xJ{knd:HeapKind prog w K}{d a:Addr}{xs:List (K×Addr×Value)}{k:K}{v:Value}{Q:Value->aE->Prop}(hu:knd.room A)(hkey:knd.is s.heap k a)(hm:s.heap.DictOfH knd d xs)(hsz:xs.length<=sizeLine)
  (h1:∀x t',(qQ xs k).map (·.2)=ξ x->Q x {s with toks:=t'})
  (h2:∀h' t',qQ xs k=ψ->h'.DictOfH knd d (xs++[(k,a,v)])->gC d s.heap h'->Q v {s with heap:=h',toks:=t'}):
  wpAny (bf prog w) A (iZ d (.ref a) v) Q E s:=by
 let#[o,es,ep,ho,hc,hd,he,his,hn]:=hm;unfold iZ;rwa[eY (af (knd.pyHash hu hkey ?_))];refine af (wpAny_dictFind_heap (s:={s with toks:=s.toks+knd.draws k}) hu hkey ho hd he his hn ?_ ?_)
 .intro hno
  have hnot:k∉xs.map (·.1):=not_mem_keys_of_get hno;refine af (mV (af (LL (hz:=by have e:=Ah he;omega) (s:={s with toks:=s.toks+knd.draws k}) ho hd (aC (h2 _ _ (atKey_none_of_get hno) #[_,_,ep+1,gS _ ho (Hb (kE hd _)),
   hc.mapDictKeys _,kE hd _,?_,?_,?_] (fg ..))))))
  .simp[he,B5]
  .intro x hx
   rcases aL.mp hx with hx|hx
   .erw[knd.keeps (his x hx) ho hd (fg ..)]
   .dsimp[bI] at hx
    subst hx;erw[knd.keeps hkey ho hd (fg ..)]
  .rw[aI,fE]
   refine#[hn,#v[],λx hx y hy=>?_];dsimp[aw,fD,bI] at hy;subst hy;erw[λe=>hnot (e▸hx)]
 .intro j p hj
  refine af (iN (s:={s with toks:=s.toks+knd.draws k}) ho hd ?_);rw[entry_at he j,hj]
  erw[af (mV (aC (h1 _ _ (by rw[atKey_of_get hn hj];rfl))))]
def sR(hT:s.TypeIs (.ref a) "dict")(hd:(a==cg)=ϑ)(h:wpAny (bf prog w) A.in1 (iZ a u r) Q E s):
  wpAny (bf prog w) A (call (.builtin "dict.setdefault") [.ref a,u,r]) Q E s:=by
 refine ki (S:=λA R s=>s.TypeIs (.ref a) "dict"/\wpAny (bf prog w) A.in1 (iZ a u r) (λv s'=>R (.ok (.ret v)) s') (λe s'=>R (.error e) s') s)
  uf hT PySem.F.entry_dict_setdefault (PySem.F.args_dict_setdefault_3 _ _ _) (.of_wp λA R s h=>?_) #[hT,h]
 unfold Builtin.«dict.setdefault»;rwa[af ?_];unfold Builtin.Dict.keyAndDefault;rwa[af (rf h.1 (aC ?_))];show wpAny _ _ (if (a==cg)=ζ then _ else(iZ a u r>>=_)) _ _ s;rw[if_neg (%[hd|a9])]
 erw[af (fU h.2 (λv s' q=>aC #[v,rfl,q]) λ_ _ q=>q)]
end
section
variable{X:Cx}
@[reducible]def KP(H:Hp):List (sJ×V)->List (sJ×Addr×Value)->Prop:=Paired λp q=>p.1=q.1/\(∃c,H q.2.1=ξ (.tup [.int p.1.1,.ref c])/\H c=ξ (.tup (p.1.2.map .int)))/\RelV p.2 q.2.2
def AK:∀{ks:List Int}{us:List Value},Vals (ks.map .int) us->ItemsAre (BN P w) ks us
 |[],_,r=>by rw[fD] at r;cases r;erw[.nil]
 |k::ks,_,r=>by
  rw[aw] at r;cases r with
  |cons h t=>
   let#[t',e]:=h;erw[.cons (by rw[e];simp[BN,B4]) (AK t)]
def DY(ok:qc P w H h)(e:H a=ξ (.tup [.int k.1,.ref c]))(e2:H c=ξ (.tup (k.2.map .int))):(rj P w).is h k a:=by
 let#[_,its,r,o,h1,h2,n,h3]:=(show dM P w H h a (.tup [.int k.1,.ref c]) from ok a _ e)
 let#[_,jts,r',o',g1,g2,n',g3]:=(show dM P w H h c (.tup (k.2.map .int)) from ok c _ e2)
 cases r with
 |cons r1 r2=>
  let#[t,e]:=r1;cases r2 with
  |cons r3 r4=>
   cases r4;cases (show _=bp c from r3);subst e;exact#[t,c,n,o,h1,h2,h3,o',jts.toArray,n',g1,g2,g3,~~~(AK r')]
def OM(ok:qc P w H h)(e:H a=ξ (.dP kvs)):kvs.length<=sizeLine/\(a==cg)=ϑ /\
  ∃xs,KP H kvs xs/\h.DictOfH (rj P w) a xs:=by
 let#[z,y,xs,r,o,es,ep,h1,h2,h3,h4,h5]:=(show dM P w H h a (.dP kvs) from ok a _ e)
 refine#[z,y,xs,r,o,es,ep,h1,h2,h3,h4,λx hx=>?_,h5];have all:∀{l:List (sJ×V)}{m:List (sJ×Addr×Value)},KP H l m->∀x∈m,(rj P w).is h x.1 x.2.1:=by
  intro l m q;induction q with
  |nil=>intro x hx;erw[nomatch hx]
  |@cons p q ps qs hq t ih=>
   intro x hx;rcases aM.mp hx with e|hx
   .subst e
    let#[e1,#[c,e2,e3],_]:=hq;rw[<-e1]
    erw[DY ok e2 e3]
   .erw[ih x hx]
 erw[all r x hx]
def KP.val(r:KP H kvs xs)(k:sJ):mq (gO kvs k) ((qQ xs k).map (·.2)):=by
 induction r with
 |nil=>erw[eU]
 |@cons p q ps qs hq t ih=>
  by_cases e:p.1=k
  .have e':q.1=k:=hq.1▸e
   rw[jj e]
   dsimp[qQ,dX,e',decide_true];erw[hq.2.2]
  .have e':¬q.1=k:=hq.1▸e
   rw[jk e]
   simpa[qQ,dX,e'] using ih
abbrev YZ(H:Hp)(a:Addr)(y d r:V)(H':Hp):Prop:=
 (∃kvs k,H a=ξ (.dK kvs)/\y=kV k/\kvs.length<sizeLine/\((gO kvs k=ξ r/\H'=H)\/(gO kvs k=ψ/\r=d/\H'=upd H a (.dK (kvs++[(k,d)]))))) \/
 (∃kvs k b,H a=ξ (.dT kvs)/\y=.ref b/\H b=ξ (.tup (k.map kV))/\kvs.length<sizeLine/\((gO kvs k=ξ r/\H'=H)\/(gO kvs k=ψ/\r=d/\H'=upd H a (.dT (kvs++[(k,d)]))))) \/
 ∃kvs k b c,H a=ξ (.dP kvs)/\y=.ref b/\H b=ξ (.tup [.int k.1,.ref c])/\H c=ξ (.tup (k.2.map .int))/\kvs.length<sizeLine/\((gO kvs k=ξ r/\H'=H)\/(gO kvs k=ψ/\r=d/\H'=upd H a (.dP (kvs++[(k,d)]))))
def oV{α β:Type}{F:α->β->Prop}:∀{l:List α}{m:List β}{a:α}{b:β},Paired F l m->F a b->Paired F (l++[a]) (m++[b])
 |_,_,_,_,.nil,f=>.cons f .nil
 |_,_,_,_,.cons r t,f=>.cons r (oV t f)
def Mw(hu:X.A.units+2<d6):Cw X "dict.setdefault" (λx xs H Q=>∃a y d r H',x=.ref a/\xs=[y,d]/\YZ H a y d r H'/\Q r H'):=by
 intro pZ s σ H x xs v us Q I rx rs h;let#[a,y,d,r,H',rfl,rfl,g,q]:=h;let#[u,ud,rfl,ry,rd]:=rs.two;cases (show v=bp a from rx);rcases g with⟨kvs,k,e,rfl,l,g⟩|⟨kvs,k,b,e,rfl,eb,l,g⟩|⟨kvs,k,b,c,e,rfl,eb,ec,l,g⟩
 .let#[z,hd,vs,rel,dd]:=Io I.dE e
  have rv:=rel.val k;rwa[sR dd.typeIs hd (CD (rH ry) dd (by rw[<-rel.length];erw[z]) (λx t' hx=>?_) λh' t' hn dd' hs=>?_)]
  .rw[hx] at rv
   rcases g with⟨g1,rfl⟩|⟨g1,_⟩
   .rw[g1] at rv;exact#[r,H',I.tok _,rv,q]
   .rw[g1] at rv;erw[rv.elim]
  .rw[hn] at rv
   rcases g with⟨g1,rfl⟩|⟨g1,rfl,rfl⟩
   .rw[g1] at rv;erw[rv.elim]
   .have e2:putK kvs k r=kvs++[(k,r)]:=AH r g1
    have he:∃q,h'.get? a=ξ q:=let ⟨q,_,_,hq,_⟩:=dd';#[q,hq];exact#[r,_,pF I (%[e|eU]) hs he (yK ((·)) hd (e2▸rel.put k rd) dd'),rd,q]
 .cases (show u=bp b from ry)
  let#[z,hd,ws,rel,dd]:=DX I.dE e;have rv:=rel.val k;rwa[sR dd.typeIs hd (xJ (gY ∅) (qz I.dE eb) dd (by rw[<-Paired.length rel];erw[z]) (λx t' hx=>?_) λh' t' hn dd' hs=>?_)]
  .rw[hx] at rv
   rcases g with⟨g1,rfl⟩|⟨g1,_⟩
   .rw[g1] at rv;exact#[r,H',I.tok _,rv,q]
   .rw[g1] at rv;erw[rv.elim]
  .rw[hn] at rv
   rcases g with⟨g1,rfl⟩|⟨g1,rfl,rfl⟩
   .rw[g1] at rv;erw[rv.elim]
   .let#[o,es,ep,hq,h2,h3,h4,_,h5]:=dd'
    have nt:∀b ys,H b=ξ (.tup ys)->b≠a:=λb ys eq z=>by rw[z,e] at eq;cases eq
    refine#[r,upd H a (.dT (kvs++[(k,r)])),pF (ob:=.dT (kvs++[(k,r)])) I (%[e|eU]) hs #[o,hq] #[(·),hd,ws++[(k,b,ud)],oV (Paired.Fp rel λp q z=>#[z.1,?_,z.2.2]) #[rfl,?_,rd],o,es,ep,hq,h2,h3,h4,h5],rd,q]
    .rw[cq (nt _ _ z.2.1)];erw[z.2.1]
    .rw[cq (nt _ _ eb)];erw[eb]
 .cases (show u=bp b from ry)
  let#[z,hd,ws,rel,dd]:=OM I.dE e;have rv:=rel.val k;rwa[sR dd.typeIs hd (xJ (show X.A.in1.units+1<d6 by dsimp[tM];omega) (DY I.dE eb ec) dd (by rw[<-Paired.length rel];erw[z]) (λx t' hx=>?_) λh' t' hn dd' hs=>?_)]
  .rw[hx] at rv
   rcases g with⟨g1,rfl⟩|⟨g1,_⟩
   .rw[g1] at rv;exact#[r,H',I.tok _,rv,q]
   .rw[g1] at rv;erw[rv.elim]
  .rw[hn] at rv
   rcases g with⟨g1,rfl⟩|⟨g1,rfl,rfl⟩
   .rw[g1] at rv;erw[rv.elim]
   .let#[o,es,ep,hq,h2,h3,h4,_,h5]:=dd'
    have nt:∀b ys,H b=ξ (.tup ys)->b≠a:=λb ys eq z=>by rw[z,e] at eq;cases eq
    refine#[r,upd H a (.dP (kvs++[(k,r)])),pF (ob:=.dP (kvs++[(k,r)])) I (%[e|eU]) hs #[o,hq] #[(·),hd,ws++[(k,b,ud)],oV (Paired.Fp rel λp q z=>#[z.1,?_,z.2.2]) #[rfl,#[c,?_,?_],rd],o,es,ep,hq,h2,h3,h4,h5],rd,q]
    .let#[c,e1,e2]:=z.2.1
     exact#[c,%[cq (nt _ _ e1)|e1],%[cq (nt _ _ e2)|e2]]
    .rw[cq (nt _ _ eb)];erw[eb]
    .rw[cq (nt _ _ ec)];erw[ec]
end
def Qq(h:(dh P w).is k u=ζ):RelV (kV k) u:=by
 rcases fT h with⟨i,t,rfl,rfl⟩|⟨x,t,rfl,rfl⟩|⟨rfl,rfl⟩
 .exact#[t,rfl]
 .exact#[t,rfl]
 .rfl
abbrev T3(a:Addr)(o:Obj)(kvs:List (Key×V)):It:=
 #[λi H=>H a=ξ (.sC o (.dK kvs))/\i<kvs.length,λi H x H'=>H'=H/\∃k v,kvs[i]?=ξ (k,v)/\x=kV k,λi H=>H a=ξ (.sC o (.dK kvs))/\kvs.length<=i]
def CH(ok:qc P w H h)(e:H a=ξ (.sC o (.dK kvs)))(hd:o.data=.dict es ep):
  (a==cg)=ϑ/\∃vs,KV kvs vs/\h.DictAt (dh P w) a vs ep:=by
 let#[ho,z,y,vs,rel,o',es',ep',h1,h2,h3,h4]:=(show dM P w H h a (.sC o (.dK kvs)) from ok a _ e)
 rw[ho] at h1;cases h1;rw[hd] at h3;cases h3;exact#[y,vs,rel,o,es,ho,h2,hd,h4]
def FK{P:bK}{w:cx}{K:aJ}{tg:Expr}(a it:Addr){o:Obj}{es:Array p9}{ep:Nat}(hd:o.data=.dict es ep)(kvs:List (Key×V)):
  Turn P w K tg (T3 a o kvs) [it] it (λi h=>h.IsKeyIter it a i kvs.length ep) where
 mem:=by simp
 obj:=λi h st b hb=>by
  have e:b=it:=by simpa using hb
  subst e;let#[o,e,c,d]:=st;exact#[o,e,λv z=>by rw[d] at z;cases z]
 keep:=λi h h' st k=>by
  let#[o,e,r]:=st;exact#[o,k it (#v[]) o e,r]
 item:=by
  w_up;subst hP hw hK;let#[hq,hl]:=hg;let#[_,vs,rel,da]:=CH I.dE hq hd;let#[f0,f1,f2,f3,f4,f5]:=hf it (#v[]);have hlen:=rel.length;have hk:=congrArg (λl=>l[i]?) rel.keys;dsimp[aB] at hk;let#[k,v]:=vs[i]'∅;have e1:vs[i]?=ξ vs[i]:=ab ∅;have e2:kvs[i]?=ξ kvs[i]:=ab hl;rw[e1,e2] at hk;have hk:kvs[i].1=vs[i].1:=aK hk;rw[hlen] at st;rwa[wpAny_pyNext_dict_item st da (k:=vs[i].1) (v:=vs[i].2) e1 λkey h' ik st' sb=>?_]
  have I1:Inv X pZ σ H {s with heap:=h'}:=I.turned (t':=s.toks) (λb o hb e=>(sb.2 b hb).trans e) f0 f1 f3 f4 f5;let#[o',e,c,d]:=id st';exact#[key,rfl,xv (s:={s with heap:=h'}) e c d ⋯ #[kV vs[i].1,H,I1,Qq ik,#[rfl,vs[i].1,kvs[i].2,by rw[e2,<-hk],rfl],%[hlen|st'],λb hb=>(hf b hb).1]]
 done:=by
  w_up;subst hP hw hK;let#[hq,hl]:=hg;let#[_,vs,rel,da]:=CH I.dE hq hd;let#[f0,f1,f2,f3,f4,f5]:=hf it (#v[]);have hlen:=rel.length;rw[hlen] at st;erw[wpAny_pyNext_dict_end (I.ok.hd hc) st da (cL ∅) λh' eb=>#[rfl,I.turned (t':=s.toks) (λb o hb e=>eb b o hb e) f0 f1 f3 f4 f5]]
 self:=λ_ _ _ _ _ st h=>wpAny_pyIter_keyiter st h
section
variable{X:Cx}
def Inv.freeze(I:Inv X pZ σ H s)(e:H a=ξ u)(mu:T1 (ξ u))(ho:s.heap.get? a=ξ o)(k:dM X.prog X.w (upd H a (.sC o u)) s.heap a u):
  Inv X pZ σ (upd H a (.sC o u)) s:=
 I.write (x:=a) (e:=a) (h':=s.heap) (t':=s.toks) (%[e|mu]) (.inl rfl) (λb u _ q=>q) #[o,ho] #[ho,k]
abbrev Vc(tl:TE):TI:=λσ H R=>tl σ H λx H1=>∃a kvs,x=.ref a/\((H1 a=ξ (.dK kvs)/\∀o,R (T3 a o kvs) (upd H1 a (.sC o (.dK kvs))))\/∃o,H1 a=ξ (.sC o (.dK kvs))/\R (T3 a o kvs) H1)
def Mx{tg l:Expr}{tl:TE}(hl:PE X l tl):PI X tg l (Vc tl):=by
 intro pZ s σ H R I h;rwa[eG (hl pZ s σ H _ I h) λv s1 h9=>?_]
 let#[x,H1,I1,r1,a,kvs,rfl,q]:=h9;cases (show v=bp a from r1);obtain⟨o,H2,I2,e2,q2⟩:∃o H2,Inv X pZ σ H2 s1/\H2 a=ξ (.sC o (.dK kvs))/\R (T3 a o kvs) H2:=by
  rcases q with⟨e,q⟩|⟨o,e,q⟩
  .have k:=(show dM X.prog X.w H1 s1.heap a (.dK kvs) from I1.dE a _ e)
   let#[_,_,_,_,o,_,_,ho,_]:=id k;exact#[o,_,I1.freeze e eU ho k,b8,q o]
  .exact#[o,H1,I1,e,q]
 obtain⟨es,ep,hd⟩:∃es ep,o.data=.dict es ep:=by
  let#[ho,_,_,_,_,o',es,ep,h1,_,h3,_]:=(show dM X.prog X.w H2 s1.heap a (.sC o (.dK kvs)) from I2.dE a _ e2)
  rw[ho] at h1;cases h1;exact#[es,ep,h3]
 let#[lo,vs,rel,da]:=CH I2.dE e2 hd;rwa[wpAny_pyIter_dict lo da ?_];refine#[s1.heap.objs.size,[s1.heap.objs.size],_,T3 a o kvs,H2,rfl,I2.kept (t':=s1.toks) λb o e=>aG _ e,FK a _ hd kvs,#[_,aX _ rfl,rfl,by rw[rel.length];rfl],λc hc=>?_,q2];have e:c=s1.heap.objs.size:=by simpa using hc
 subst e;erw[I2.AA (ar _) (I2.dE.fresh (ar _))]
end
abbrev Fre(X:Cx)(pZ:List (Addr×Obj))(H:Hp)(b:Addr):Prop:=H b=ψ/\X.s₀.heap.objs.size<=b/\b≠X.env.locals/\(∀x c,X.env.cells.lookup x=ξ c->c≠b)/\∀p∈X.pn++pZ,p.1≠b
def Inv.XU(I:Inv X pZ σ H s)(hb:s.heap.objs.size<=b):Fre X pZ H b:=by
 have no:∀o,¬s.heap.get? b=ξ o:=λo e=>absurd (aO e) (mi.mpr hb)
 refine#[I.dE.fresh hb,aH I.sz hb,λe=>?_,λx c e z=>?_,λp hp z=>?_]
 .erw[absurd I.lt (mi.mpr (e▸hb))]
 .let#[v,o,ho,_]:=I.cell x c e
  rw[z] at ho;erw[no o ho]
 .have:=(I.pin p hp).1
  rw[z] at this;erw[no _ this]
open Builtin Builtin.ObjectAttr
abbrev qd(env:Env):List (Str×NameKind)->List (Str×Addr)->List (Str×Addr)
 |[],acc=>acc
 | (n,k)::r,acc=>qd env r (if k=.free then(n,(env.cells.lookup n).getD 0)::acc else acc)
def vk(h:∀n,(n,bU)∈scope.names->∃c,env.cells.lookup n=ξ c):closureFor scope env=pure (qd env scope.names []):=by
 have all:∀(l:List (Str×NameKind))(acc:List (Str×Addr)),(∀n,(n,bU)∈l->∃c,env.cells.lookup n=ξ c) ->
   (forIn (m:=Sem) l acc λ(x:Str×NameKind)(cs:List (Str×Addr))=>if (x.2==.free)=ζ then do let c <-cellOf env x.1;pure (eV ((x.1,c)::cs)) else pure (eV cs))=pure (qd env l acc):=by
  intro l;induction l with
  |nil=>intro acc _;rfl
  |cons p r ih=>
   intro acc hl;let#[n,k]:=p;rw[oJ]
   have hr:∀m,(m,bU)∈r->∃c,env.cells.lookup m=ξ c:=λm hm=>hl m (av _ hm)
   by_cases hk:k=.free
   .subst hk
    let#[c,hc]:=hl n aN;have e:cellOf env n=pure c:=by unfold cellOf;rw[hc]
    show(do let x <-(if (bU==bU)=ζ then do let c <-cellOf env n;pure (eV ((n,c)::acc)) else pure (eV acc));_)=_
    rw[if_pos ⋯,e]
    show(forIn (m:=Sem) r ((n,c)::acc) _)=_
    rw[ih _ hr]
    show _=pure (qd env r (if bU=bU then(n,(env.cells.lookup n).getD 0)::acc else acc))
    rw[if_pos rfl,hc]
    rfl
   .have hb:(k==bU)=ϑ:=by simpa using hk
    show(do let x <-(if (k==bU)=ζ then do let c <-cellOf env n;pure (eV ((n,c)::acc)) else pure (eV acc));_)=_
    rw[hb,if_neg ⋯]
    show(forIn (m:=Sem) r acc _)=_
    rw[ih _ hr]
    show _=pure (qd env r (if k=bU then(n,(env.cells.lookup n).getD 0)::acc else acc))
    rw[if_neg hk]
 have:=all scope.names [] h;unfold closureFor;simpa using this
def tY:∀(l:List (Str×NameKind))(acc:List (Str×Addr))(y:Str)(c:Addr),(qd env l acc).lookup y=ξ c->(c=(env.cells.lookup y).getD 0/\(y,bU)∈l)\/acc.lookup y=ξ c
 |[],acc,y,c,h=>.inr h
 | (n,k)::r,acc,y,c,h=>by
  rcases tY r _ y c h with⟨e,m⟩|q
  .erw[.inl #[e,av _ m]]
  .by_cases hk:k=.free
   .rw[if_pos hk] at q
    by_cases e:y=n
    .subst e
     subst hk;rw[jZ] at q;cases q;erw[.inl #[rfl,aN]]
    .rw[aP,show(y==n)=ϑ by simpa using e] at q
     erw[.inr q]
   .rw[if_neg hk] at q
    erw[.inr q]
def AL:∀(l:List (Str×NameKind))(acc:List (Str×Addr))(y:Str),(∃c,acc.lookup y=ξ c)->∃c,(qd env l acc).lookup y=ξ c
 |[],_,_,h=>h
 | (n,k)::r,acc,y,h=>by
  rwa[AL r _ y ?_];by_cases hk:k=.free
  .rw[if_pos hk]
   by_cases e:y=n
   .subst e;exact#[_,jZ]
   .rw[aP,show(y==n)=ϑ by simpa using e];erw[h]
  .rw[if_neg hk];erw[h]
def vm:∀(l:List (Str×NameKind))(acc:List (Str×Addr))(y:Str),(y,bU)∈l->∃c,(qd env l acc).lookup y=ξ c
 | (n,k)::r,acc,y,h=>by
  rcases aM.mp h with e|m
  .have e1:y=n:=congrArg DK e
   have e2:bU=k:=congrArg Prod.snd e;subst e1;rwa[AL r _ y ?_];rw[if_pos e2.symm]
   exact#[_,jZ]
  .erw[vm r _ y m]
def qA:∀(l:List (Str×NameKind))(n:Nat)(acc:List (Str×Addr)),ja n l acc=ja n l []++acc
 |[],_,_=>rfl
 | (y,k)::r,n,acc=>by
  unfold ja;split
  .rw[qA r _ ((y,n)::acc),qA r _ [(y,n)]];simp
  .erw[qA r n acc]
def yL:∀(l:List (Str×NameKind))(n:Nat)(y:Str)(c:Addr),(y,c)∈ja n l []->(y,gv)∈l
 | (z,k)::r,n,y,c,h=>by
  unfold ja at h;split at h
  .rename_i hk
   rw[qA] at h;rcases aL.mp h with h|h
   .erw[av _ (yL r _ y c h)]
   .cases bI.mp h
    rw[beq_iff_eq.mp hk];erw[aN]
  .erw[av _ (yL r n y c h)]
def yM:∀(l:List (Str×NameKind))(n:Nat)(y:Str),(y,gv)∈l->∃c,(y,c)∈ja n l []
 | (z,k)::r,n,y,h=>by
  unfold ja;rcases aM.mp h with e|h
  .cases e
   rw[if_pos (show(gv==gv)=ζ from rfl),qA]
   exact#[n,aR _ aN]
  .split
   .let#[c,q]:=yM r (n+1) y h
    rw[qA];exact#[c,bj _ q]
   .erw[yM r n y h]
def mB{α:Type}:∀{l:List (Str×α)}{y:Str}{c:α},(y,c)∈l->∃c',l.lookup y=ξ c'
 | (z,d)::r,y,c,h=>by
  rw[aP]
  cases e:y==z with
  |true=>exact#[d,rfl]
  |false=>
   rcases aM.mp h with q|q
   .cases q;simp at e
   .erw[mB q]
abbrev sS(scope:kg)(C:Addr):List (Str×Addr):=ja (C+1) scope.names []
abbrev Cx.vn(X:Cx)(scope:kg)(C:Addr)(N:List Str)(s₀:aE)(H₀:Hp)(ex:List Addr):Cx:=
 {X with N:=N,s₀:=s₀,H₀:=H₀,env:=compEnvC scope (sS scope C++qd X.env scope.names []) C X.env,outer:=X.stack,stack:=X.stack,ex:=ex,fn:=λy=>scope.names.lookup y==ξ .cell,pn:=[],xe:=λ_ _=>False}
structure AM(X:Cx)(scope:kg)(x:List Str):Prop where
 kind:scope.kind=.function
 nc:∀y∈scope.names,y.2=.cell->scope.names.lookup y.1=ξ .cell
 lo:∀y∈scope.names,y.2=.local->scope.names.lookup y.1=ξ .local
 fr:∀y∈scope.names,y.2=.free->X.env.scope.names.lookup y.1=ξ .cell
 nm:∀y∈x,scope.names.lookup y=ξ .local\/scope.names.lookup y=ξ .cell
 nd:x.Nodup
 lk:∀y,scope.names.lookup y=ξ .free->(y,bU)∈scope.names
def hU{env : Env} : ∀(names : List (Str×NameKind))(x : Str)(k : NameKind),
    (names.map λ(n, k) => if (k==bU&&env.scope.kind==.function&&env.kindOf n==ξ .cell) then (n, gv) else (n, k)).lookup x=ξ k -> names.lookup x=ξ k \/ (k=.cell /\ names.lookup x=ξ .free)
  |[], _, _, h => by cases h
  | (n, k0)::r, x, k, h => by
    rw [aw] at h;dsimp only at h;by_cases hc : (k0==bU&&env.scope.kind==.function&&env.kindOf n==ξ .cell)=ζ
    · rw [if_pos hc] at h
      dsimp[aj, beq_iff_eq] at hc;by_cases e : (x==n)=ζ
      · rw [aP, e] at h
        cases h;rwa[.inr #[rfl, ?_]];rw [aP, e, hc.1.1]
      · have e' : (x==n)=ϑ := by simpa using e
        rw [aP, e'] at h;rw [aP, e'];erw[hU r x k h]
    · rw [if_neg hc] at h
      by_cases e : (x==n)=ζ
      · rw [aP, e] at h
        cases h;rwa[.inl ?_];rw [aP, e]
      · have e' : (x==n)=ϑ := by simpa using e
        rw [aP, e'] at h;rw [aP, e'];erw[hU r x k h]
section
variable{X:Cx}{pZ:List (Addr×Obj)}{σ:St}{H:Hp}{s:aE}{scope:kg}{x:List Str}
def AM.cells(B:AM X scope x)(ok:X.Ok):∀n,(n,bU)∈scope.names->∃c,X.env.cells.lookup n=ξ c:=λn hn=>ok.has n (.inl (B.fr _ hn rfl))
def AM.cl(B:AM X scope x)(ok:X.Ok)(h:(qd X.env scope.names []).lookup y=ξ c):X.env.cells.lookup y=ξ c/\X.env.scope.names.lookup y=ξ .cell:=by
 rcases tY _ _ _ _ h with⟨e,m⟩|q
 .let#[c',hc']:=B.cells ok y m
  rw[hc'] at e;rw[e]
  exact#[hc',B.fr _ m rfl]
 .cases q
def qB(B:AM X scope x)(h:(sS scope C++qd X.env scope.names []).lookup y=ξ c):
  ((y,c)∈sS scope C/\scope.names.lookup y=ξ .cell)\/((sS scope C).lookup y=ψ/\(qd X.env scope.names []).lookup y=ξ c):=by
 rw[Hc] at h;cases q:(sS scope C).lookup y with
 |some d=>rw[q] at h;cases h;have m:=de q;erw[.inl #[m,B.nc _ (yL _ _ _ _ m) rfl]]
 |none=>rw[q] at h;erw[.inr #[rfl,h]]
def AN(B:AM X scope x)(hf:scope.names.lookup y=ξ .free)(h:(qd X.env scope.names []).lookup y=ξ c):(sS scope C++qd X.env scope.names []).lookup y=ξ c:=by
 rw[Hc]
 cases q:(sS scope C).lookup y with
 |some d=>have z:=B.nc _ (yL _ _ _ _ (de q)) rfl;rw[hf] at z;cases z
 |none=>erw[h]
def AO{α:Type}{l:List (Str×α)}(h:l.Pairwise λx y=>x.2≠y.2):∀{a b:Str×α},a∈l->b∈l->a.2=b.2->a=b:=by
 induction h with
 |nil=>intro a b h;erw[nomatch h]
 |cons q _ ih=>
  intro a b ha hb e;rcases aM.mp ha with ea|ha'<;>rcases aM.mp hb with eb|hb'
  .rw[ea,eb]
  .subst ea;erw[absurd e (q _ hb')]
  .subst eb;erw[absurd e.symm (q _ ha')]
  .erw[ih ha' hb' e]
def Inv.block{C:Addr}{h':Heap}{t':Nat}{ex:List Addr}{N:List Str}{τ:St}(I:Inv X pZ σ H s)(B:AM X scope x)(hC:C=s.heap.objs.size)(hns:h'.Ns C λ_=>ψ)(oc:CellsOk h' (C+1) (sS scope C))
  (kp:∀b o,s.heap.get? b=ξ o->h'.get? b=ξ o) (hex:∀b∈ex,ui X pZ H b/\b<s.heap.objs.size) (hl:τ.length=N.length)
  (hτ:∀(i:Nat)(y:Str)(v:V),N[i]?=ξ y->τ[i]?=ξ (ξ v)->scope.names.lookup y=ξ .free/\∃j:Nat,X.N[j]?=ξ y/\σ[j]?=ξ (ξ v)):
  Inv (X.vn scope C N s H ex) [] τ H {s with heap:=h',toks:=t'}:=by
 have ok:=I.ok;have cleq:∀y c,(X.vn scope C N s H ex).env.cells.lookup y=ξ c->((y,c)∈sS scope C/\h'.IsCell c ψ/\C<c)\/(X.env.cells.lookup y=ξ c/\X.env.scope.names.lookup y=ξ .cell):=λy c e=>by
  rcases qB B e with q|q
  .erw[.inl #[q.1,oc.empty y c q.1]]
  .erw[.inr (B.cl ok q.2)]
 have old:∀y c,X.env.cells.lookup y=ξ c->c<C:=λy c e=>by
  let#[v,q]:=I.cell y c e;rw[hC];erw[q.lt]
 have hfr:H C=ψ:=%[hC|I.dE.fresh (ar _)]
 refine#[#[ok.mod,B.kind,ok.glob,ok.blt,B7 hC.symm,λy z c h1 h2=>?_,λy hy=>?_,λy c z e=>?_,ok.hd,ok.frames,.inl rfl,λb hb=>?_,λb o e=>I.bs b o e,aH ok.LQ I.sz,λb o e hb=>?_,λb hb=>?_,I.stack,I.DN],
  rfl,I.bare,Un.kept kp,#[_,hns,λi y v e1 e2 e3=>?_],λy c e=>?_,hfr,λy c e=>?_,λp hp=>absurd (show p∈([]:List (Addr×Obj)) from hp) (#v[]),I.dE.kept kp,hl]
 .rcases cleq y c h1 with⟨m1,_,l1⟩|q1<;>rcases cleq z c h2 with⟨m2,_,l2⟩|q2
  .erw[congrArg DK (AO oc.apart m1 m2 rfl)]
  .erw[absurd (old z c q2.1) (mi.mpr (bQ l1))]
  .erw[absurd (old y c q1.1) (mi.mpr (bQ l2))]
  .erw[ok.inj y z c q1.1 q2.1]
 .have own:(y,gv)∈scope.names->∃c,(X.vn scope C N s H ex).env.cells.lookup y=ξ c:=λm=>by
   let#[c,q]:=yM _ (C+1) _ m;erw[mB (bj _ q)]
  have XU:scope.names.lookup y=ξ .free->∃c,(X.vn scope C N s H ex).env.cells.lookup y=ξ c:=λm=>by
   let#[c,q]:=vm (env:=X.env) scope.names [] y (B.lk y m);exact#[c,AN B m q]
  rcases hy with h|h
  .rcases hU (env:=X.env) scope.names y .cell h with q|q
   .erw[own (de q)]
   .erw[XU q.2]
  .rcases hU (env:=X.env) scope.names y .free h with q|q
   .erw[XU q]
   .erw[absurd q.1 ⋯]
 .rcases cleq y c e with q|q
  .show s.heap.objs.size<=c
   rw[<-hC];erw[bQ q.2.2]
  .have z:scope.names.lookup y=ξ .cell:=beq_iff_eq.mp z
   rcases qB B e with w|w
   .erw[absurd (old y c q.1) (mi.mpr (bQ (oc.empty y c w.1).2))]
   .let#[d,m]:=yM _ (C+1) _ (de z)
    let#[d',m']:=mB m;rw[show(sS scope C).lookup y=ξ d' from m'] at w;cases w.1
 .refine#[λz=>?_,λy c e z=>?_]
  .have:=(hex b hb).2
   rw[z,show(X.vn scope C N s H ex).env.locals=C from rfl,hC] at this;erw[absurd this (dj _)]
  .rcases cleq y c e with q|q
   .have:=(hex b hb).2
    rw[<-z,<-hC] at this;erw[absurd this (mi.mpr (bQ q.2.2))]
   .exact(hex b hb).1.2.2.2.2.1 y c q.1 z
 .let#[f0,f1,f2,f3,f4,f5]:=(hex b hb).1
  rcases f3 with z|z
  .erw[ok.HL b o e z]
  .erw[absurd (au (aO (ok.bs b o e).1) z) (dj _)]
 .let#[f0,f1,f2,_]:=(hex b hb).1
  intro z;rcases aM.mp (I.yC b z) with q|q
  .erw[f1 q]
  .erw[f2 q]
 .let#[hf,j,hj,hv]:=hτ i y v e1 e2
  let#[m,_,hlk]:=I.loc;have hcell:=B.fr _ (B.lk y hf) rfl;let#[u,r,l]:=hlk j y v hj hv (.inr (.inl hcell));refine#[u,r,.inr #[?_,?_]]
  .show(Hz scope X.env).names.lookup y=ξ .cell\/(Hz scope X.env).names.lookup y=ξ .free
   have:=e3;rcases this with q|q|q
   .rcases hU (env:=X.env) scope.names y .local q with z|z
    .rw[hf] at z;cases z
    .erw[absurd z.1 ⋯]
   .erw[.inl q]
   .erw[.inr q]
  .rcases l with⟨k,_⟩|⟨_,c,hc,z⟩
   .have k':X.env.scope.names.lookup y=ξ .local:=k
    rw[hcell] at k';cases k'
   .let#[c',hc']:=vm (env:=X.env) scope.names [] y (B.lk y hf)
    have hc2:=(B.cl ok hc').1;rw[hc] at hc2;cases hc2;let#[o,ho,hd]:=z;exact#[c,AN B hf hc',#[o,kp _ _ ho,hd]]
 .rcases cleq y c e with q|q
  .exact#[ψ,q.2.1]
  .let#[v,o,ho,hd]:=I.cell y c q.1
   exact#[v,o,kp _ _ ho,hd]
 .rcases cleq y c e with q|q
  .erw[I.dE.fresh (by rw[<-hC];exact bQ q.2.2)]
  .erw[I.qj y c q.1]
def Inv.My(I:Inv X pZ σ H s)(J:Inv (X.vn scope C N s H ex) [] τ H' s')(hex:∀b∈ex,ui X pZ H b):Inv X pZ σ H' s':=
 I.Ur (ch:=ex) J.os J.base J.dE J.bare λb hb=>#[(hex b hb).2.2.2.1,(hex b hb).2.1,(hex b hb).2.2.2.2.1,(hex b hb).2.2.2.2.2]
end
abbrev Mz(X:Cx)(ifs:List Expr)(t:TT):Prop:=
 ∀(pZ:List (Addr×Obj))(s:aE)(σ:St)(H:Hp)(Q:Bool->Hp->Prop),Inv X pZ σ H s->t σ H Q ->
  wpAny (bf X.prog X.w) X.A (forIn ifs ζ λc r=>if r=ζ then do let ok <-isTrue c X.env (eval c X.env);pure (eV ok) else pure (eV r)) (TP X pZ σ Q) X.xe s
abbrev Vd:TT:=λ_ H Q=>Q ζ H
def MA:Mz X [] Vd:=λ_ _ _ H _ I q=>wpAny_tests_nil #[H,I,q]
def MB(h:PT X c t):Mz X [c] t:=λpZ s σ H Q I q=>wpAny_tests_one (h pZ s σ H Q I q)
abbrev hW(σ:St)(ci:List Nat):St:=ci.map λj=>(σ[j]?).join
abbrev Ve(K:Frag)(pr:Bool)(y:V)(H:Hp)(k:St->Prop):Prop:=match pr with
 |false=>k [ξ y]
 |true=>∃p a b,y=.ref p/\oG K H p [a,b]/\k [ξ a,ξ b]
@[reducible]def ON(bd:V->Hp->(St->Prop)->Prop)(J:It)(D:Addr)(tc:TT)(te:TE)(caps:St)(R:Hp->Prop)(H1:Hp):Prop:=
 ∃W:Nat->Nat->List V->Hp->Prop,(∃m,W 0 m [] (upd H1 D (.lst [])))/\∀i m acc H2,W i m acc H2->H2 D=ξ (.lst acc)/\acc.length<sizeLine /\
  ((J.stop i H2/\R H2)\/(J.go i H2/\∀y H3,J.UH i H2 y H3->bd y H3 λτ=>tc (τ++caps) H3 λb H4=>
   if b=ζ then te (τ++caps) H4 λz H5=>H5 D=ξ (.lst acc)/\∃m',m'<m/\W (i+1) m' (acc++[z]) (upd H5 D (.lst (acc++[z]))) else ∃m',m'<m/\W (i+1) m' acc H4))
abbrev Iw(bd:V->Hp->(St->Prop)->Prop)(wi:TI)(ci:List Nat)(tc:TT)(te:TE):TE:=λσ H Q=>wi σ H λJ H1=>∀D,H1 D=ψ->ON bd J D tc te (hW σ ci) (λH2=>Q (.ref D) H2) H1
structure yN(X:Cx)(scope:kg)(cn:List Str)(ci:List Nat):Prop where
 len:ci.length=cn.length
 at_:∀(k:Nat)(y:Str),cn[k]?=ξ y->∃j:Nat,ci[k]?=ξ j/\X.N[j]?=ξ y
 fr:∀y∈cn,scope.names.lookup y=ξ .free
section
variable{X:Cx}{pZ:List (Addr×Obj)}{σ:St}{H:Hp}{s:aE}{scope:kg}{x:List Str}
def MC{M:Model}{A:dC}{E:Value->aE->Prop}{s:aE}{scope:kg}{globals:Addr}{cl:List (Str×Addr)}{qual:Str}{env:Env}{Q:Env->aE->Prop}
  (hQ:Q (newEnv scope s.heap.objs.size globals (sS scope s.heap.objs.size++cl) qual ψ .none (ξ env) B6) {s with heap:=pushCells (s.heap.push {cls:=.type "dict",data:=.dict #[]}) scope.names}):
  wpAny M A (B8 scope globals cl [] qual ψ .none (ξ env)) Q E s:=by
 dsimp[B8,qP,if_true];refine af (wpAny_alloc ?_);refine af (wpAny_layCells _ (λname kind cells=>by cases hkc:kind==gv<;>simp[hkc]) _ _ _ _ ?_);rw[show({s with heap:=s.heap.push {cls:=.type "dict",data:=.dict #[]} }:aE).heap.objs.size=s.heap.objs.size+1 from fQ ..,qA]
 erw[af (aC (aC hQ))]
def sT{cn:List Str}{X:Cx}{scope:kg}{ci:List Nat}(cp:yN X scope cn ci)(B:AM X scope x)(hn:cn.Nodup):(x++cn).Nodup:=
 fE.mpr #[B.nd,hn,λy hy z hz e=>(by
  subst e;have q:=cp.fr y hz;rcases B.nm y hy with z|z<;>(rw[z] at q;cases q))]
abbrev T4(X:Cx)(tg:Expr)(scope:kg)(x cn:List Str)(bd:V->Hp->(St->Prop)->Prop):Prop:=
 ∀(C:Addr)(s₀:aE)(H₀:Hp)(ex:List Addr)(pZ:List (Addr×Obj))(s:aE)(τ caps:St)(H:Hp)(v:V)(u:Value)(k:St->Prop),Inv (X.vn scope C (x++cn) s₀ H₀ ex) pZ (τ++caps) H s->τ.length=x.length->RelV v u->bd v H k ->
  wpAny (bf X.prog X.w) X.A (yl tg (X.vn scope C (x++cn) s₀ H₀ ex).env u) (λ_ s'=>∃τ',τ'.length=x.length/\Inv (X.vn scope C (x++cn) s₀ H₀ ex) pZ (τ'++caps) H s'/\k τ') (λ_ _=>False) s
def m8{env : Env}{k : NameKind}(hk : k≠.free) : ∀{names : List (Str×NameKind)}{x : Str}, names.lookup x=ξ k ->
    (names.map λ(n, k) => if (k==bU&&env.scope.kind==.function&&env.kindOf n==ξ .cell) then (n, gv) else (n, k)).lookup x=ξ k
  | (n, k')::r, x, h => by
    rw [aw];dsimp only;rw [aP] at h;cases e : x==n with
    |true =>
      rw [e] at h; cases h;rw [if_neg (by simp [hk]), aP, e]
    |false =>
      rw [e] at h;split <;> (rw [aP, e]; exact m8 hk h)
def AM.loc(B:AM X scope x){C:Addr}{N:List Str}{s₀:aE}{H₀:Hp}{ex:List Addr}{y:Str}(hy:y∈x):
  Loc (X.vn scope C N s₀ H₀ ex).env.scope y/\((X.vn scope C N s₀ H₀ ex).fn y=ζ\/(X.vn scope C N s₀ H₀ ex).env.scope.names.lookup y=ξ .local):=by
 rcases B.nm y hy with z|z
 .have q:=m8 (env:=X.env) (k:=.local) (by intro e;cases e) z
  exact#[.inl q,.inr q]
 .exact#[.inr (m8 (env:=X.env) (k:=.cell) (by intro e;cases e) z),.inl (beq_iff_eq.mpr z)]
def Y0{α:Type}{l:List α}(h:l.length=2):∃a b,l=[a,b]:=by
 cases l with
 |nil=>cases h
 |cons a t=>let#[b,e]:=jB.mp (mT h);exact#[a,b,by rw[e]]
def Iy(B:AM X scope [y])(cp:yN X scope cn ci)(hnd:cn.Nodup):T4 X (.Name y py) scope [y] cn (Ve X.K ϑ):=by
 intro C s₀ H₀ ex pZ s τ caps H v u k I hl r h;have hx:=B.loc (C:=C) (N:=[y]++cn) (s₀:=s₀) (H₀:=H₀) (ex:=ex) (y:=y) (#v[]);let#[o,rfl]:=jB.mp hl;erw[wA (rn I (sT cp B hnd) (i:=0) rfl hx.1 r (λs8 J8=>#[[ξ v],rfl,J8,h]) hx.2)]
def Iz{y z:Str}{py pz pt:Pos}{n:Nat}{cn:List Str}{ci:List Nat}(B:AM X scope [y,z])(cp:yN X scope cn ci)(hnd:cn.Nodup)(hc:X.calm=ζ):T4 X (.Tuple [.Name y py,.Name z pz] n pt) scope [y,z] cn (Ve X.K ζ):=by
 intro C s₀ H₀ ex pZ s τ caps H v u k I hl r h;have hy:=B.loc (C:=C) (N:=[y,z]++cn) (s₀:=s₀) (H₀:=H₀) (ex:=ex) (y:=y) (#v[]);have hz:=B.loc (C:=C) (N:=[y,z]++cn) (s₀:=s₀) (H₀:=H₀) (ex:=ex) (y:=z) (#v[]);have nd:=sT cp B hnd;let#[p,a,b,e,hq,q]:=h;let#[o,o',rfl]:=Y0 hl;rwa[fU (HQ (X:=X.vn scope C ([y,z]++cn) s₀ H₀ ex) (pos:=pt) (k:=n) hc (rC (rB (i:=0) (pos:=py) nd rfl hy.1 hy.2) (rC (rB (i:=1) (pos:=pz) nd rfl hz.1 hz.2) DP)) rfl rfl pZ s _ H v u (λσ' H'=>H'=H/\σ'=[ξ a,ξ b]++caps) I r ?_) (λ_ s' #[σ',H',I',e1,e2]=>?_) λ_ _ z=>z]
 .exact#[p,[a,b],e,hq,rfl,a,[b],rfl,b,[],rfl,rfl,rfl,rfl]
 .subst e1 e2
  exact#[[ξ a,ξ b],rfl,I',q]
def AQ{elt iter tg:Expr}{bd:V->Hp->(St->Prop)->Prop}{pos:Pos}{ifs:List Expr}{it:Addr}{fp:List Addr}{tn:Nat->Heap->Prop}{J:It}{tc:TT}{te:TE}{cn:List Str}{ci:List Nat}{RR:Value->Addr->Result->aE->Prop}{Rq:Addr->Hp->Prop}{E:Value->aE->Prop}
  (I:Inv X pZ σ H s) (B:AM X scope x) (cp:yN X scope cn ci) (hnd:cn.Nodup) (hcalm:X.calm=ζ) (ht:T4 X tg scope x cn bd) (T:Turn X.prog X.w X.K tg J fp it tn) (t0:tn 0 s.heap) (hf:∀b∈fp,ui X pZ H b)
  (hc:∀C s₀ H₀ ex,Mz (X.vn scope C (x++cn) s₀ H₀ ex) ifs tc) (he:∀C s₀ H₀ ex,PE (X.vn scope C (x++cn) s₀ H₀ ex) elt te)
  (h:∀D,H D=ψ->ON bd J D tc te (hW σ ci) (Rq D) H)
  (fin:∀C D H5 s5,Inv X pZ σ H5 s5->Rq D H5->(∃m,s5.heap.Ns C m)->Fre X pZ H5 C->RR (.ref D) C (.ok .next) s5):
  wpAny (bf X.prog X.w) X.A (newList []) (λacc s₃=>wpAny (bf X.prog X.w) X.A (B8 scope X.env.globals (qd X.env scope.names []) [] X.env.qual ψ .none (ξ X.env)) (λcenv s₄=>
   oB (bf X.prog X.w) X.A (.compStart (.ListComp elt [#[tg,iter,ifs,0]] scope pos) 0 (.ref it) acc {cenv with scope:=Hz scope X.env}) (RR acc cenv.locals) s₄) E s₃) E s:=by
 have ok:=I.ok;let#[W,#[m0,w0],turn]:=h s.heap.objs.size (I.dE.fresh (ar _));generalize hD:s.heap.objs.size=D at turn w0;refine kj ?_;have I2:Inv X pZ σ (upd H D (.lst [])) {s with heap:=s.heap.push {cls:=.type "list",dict:=ψ,data:=.seq ([]:List Value).toArray} }:=by
  have:=I.U5 (its:=[]) (ys:=[]) (t':=s.toks) .nil (bJ _);rw[hD] at this;erw[this]
 generalize hH2:s.heap.push {cls:=.type "list",dict:=ψ,data:=.seq ([]:List Value).toArray}= h2 at I2 ⊢;have k2:∀b o,s.heap.get? b=ξ o->h2.get? b=ξ o:=λb o e=>by rw[<-hH2];erw[aG _ e]
 have sz2:h2.objs.size=s.heap.objs.size+1:=by rw[<-hH2,fQ]
 have fpl:∀b∈fp,b<s.heap.objs.size:=λb hb=>by
  let#[o,e,_]:=T.obj _ _ t0 b hb;erw[aO e]
 have nD:∀b∈fp,b≠D:=λb hb=>by rw[<-hD];erw[aV (fpl b hb)]
 have hf2:∀b∈fp,ui X pZ (upd H D (.lst [])) b:=λb hb=>#[by rw[cq (nD b hb)];exact(hf b hb).1,(hf b hb).2]
 have t2:tn 0 h2:=T.keep _ _ _ t0 λb _ o e=>k2 b o e
 show wpAny _ _ _ _ _ {s with heap:=h2}
 rwa[MC ?_];generalize hH3:pushCells (h2.push {cls:=.type "dict",data:=.dict #[]}) scope.names=h3;have kp3:∀b o,h2.get? b=ξ o->h3.get? b=ξ o:=λb o e=>by rw[<-hH3];erw[pushCells_keeps _ _ b o (aG _ e)]
 have ns3:h3.Ns h2.objs.size λ_=>ψ:=by rw[<-hH3];exact(Heap.Ns.new h2 (.type "dict")).keeps (pushCells_keeps _ _)
 have oc3:CellsOk h3 (h2.objs.size+1) (sS scope h2.objs.size):=by
  have:=cellsFrom_ok scope.names (h2.push {cls:=.type "dict",data:=.dict #[]}) (h2.objs.size+1) [] #[λ_ _ hm=>(nomatch hm),xi] (%[fQ|ar _]);rw[fQ,hH3] at this;erw[this]
 have hl:((x.map λ_=>ψ)++hW σ ci:St).length=(x++cn).length:=by
  rw[aq,aq,ae,hW,ae,cp.len]
 have J3:Inv (X.vn scope h2.objs.size (x++cn) {s with heap:=h2} (upd H D (.lst [])) fp) [] ((x.map λ_=>ψ)++hW σ ci) (upd H D (.lst [])) {s with heap:=h3,toks:=s.toks+0}:=
  I2.block (s:={s with heap:=h2}) (h':=h3) (t':=s.toks+0) (N:=x++cn) B rfl ns3 oc3 kp3 (λb hb=>#[hf2 b hb,by rw[sz2];exact bc (fpl b hb)]) hl (λi y v e1 e2=>by
   by_cases lt:i<x.length
   .rw[ah (~~~lt),aB,ab lt] at e2
    cases e2
   .have e1':cn[i-x.length]?=ξ y:=by rw[ay ∅] at e1;erw[e1]
    have e2':(hW σ ci)[i-x.length]?=ξ (ξ v):=by rw[ay (~~~lt),ae] at e2;erw[e2]
    refine#[cp.fr y (ai e1'),?_];let#[j,hj,hy]:=cp.at_ _ y e1';refine#[j,hy,?_];rw[hW,aB,hj] at e2';have e3:(σ[j]?).join=ξ v:=aK e2';cases q:σ[j]? with
    |none=>rw[q] at e3;cases e3
    |some w=>rw[q] at e3;erw[congrArg ξ e3])
 generalize hY:X.vn scope h2.objs.size (x++cn) {s with heap:=h2} (upd H D (.lst [])) fp=Y at J3;have ePr:Y.prog=X.prog:=by rw[<-hY];rfl
 have eW:Y.w=X.w:=by rw[<-hY];rfl
 have eK:Y.K=X.K:=by rw[<-hY];rfl
 have eC:Y.calm=ζ:=by rw[<-hY];erw[hcalm]
 have eA:Y.A=X.A:=by rw[<-hY];rfl
 have eE:Y.env=compEnvC scope (sS scope h2.objs.size++qd X.env scope.names []) h2.objs.size X.env:=by rw[<-hY];rfl
 have hPc:Mz Y ifs tc:=by rw[<-hY];erw[hc _ _ _ _]
 have hPe:PE Y elt te:=by rw[<-hY];erw[he _ _ _ _]
 have eN:Y.N=x++cn:=by rw[<-hY];rfl
 have eX:Y.xe=λ_ _=>False:=by rw[<-hY];rfl
 have TY:Turn Y.prog Y.w Y.K tg J fp it tn:=%[ePr,eW,eK|T]
 have fpY:∀{H':Hp},(∀b∈fp,H' b=ψ)->∀b∈fp,ui Y [] H' b:=λhn b hb=>by
  let#[f0,f1,f2,f3,f4,f5]:=hf2 b hb;have lt2:b<h2.objs.size:=%[sz2|bc (fpl b hb)]
  refine#[hn b hb,λz=>?_,λz=>?_,.inl (by rw[<-hY];erw[hb]),λy c e=>?_,λp hp=>?_]
  .have z':b=h2.objs.size:=by rw[eE] at z;erw[z]
   erw[absurd lt2 (by rw[z'];exact dj _)]
  .have z':b∈Hi X.stack:=by rw[<-hY] at z;erw[z]
   rcases aM.mp (I.yC b z') with q|q
   .erw[f1 q]
   .erw[f2 q]
  .rw[eE] at e
   rcases qB B e with q|q
   .intro z
    have:=(oc3.empty y c q.1).2;rw[z] at this;erw[absurd lt2 (mi.mpr (bQ this))]
   .erw[f4 y c (B.cl ok q.2).1]
  .have:p∈([]:List (Addr×Obj)):=by rw[<-hY] at hp;erw[hp]
   erw[absurd this (#v[])]
 have loop:∀s4:aE,s4={s with heap:=h3,toks:=s.toks+0}->oB (bf X.prog X.w) X.A (.compLoop (.ListComp elt [#[tg,iter,ifs,0]] scope pos) 0 (.ref it) (.ref D) Y.env) (RR (.ref D) h2.objs.size) s4:=by
  rintro s4 rfl;rwa[codeAny_loop rfl (λn s'=>∃i acc τ H',τ.length=x.length/\Inv Y [] (τ++hW σ ci) H' s'/\tn i s'.heap/\(∀b∈fp,H' b=ψ)/\W i n acc H') ?_ m0 #[0,[],x.map λ_=>ψ,_,#v[],J3,T.keep _ _ _ t2 λb _ o e=>kp3 b o e,λb hb=>(hf2 b hb).1,w0]];rintro n s5 ⟨i,acc,τ,H5,hτ,J5,t5,f5,w5⟩;let#[hD5,hz5,alt]:=turn i n acc H5 w5;show wpAny _ X.A ((compTurn (.ListComp elt [#[tg,iter,ifs,0]] scope pos) 0 (.ref it) (.ref D) Y.env).onRaise (λx=>do noteFrame x Y.env;theTreesLotGoes x)) _ _ s5;rwa[wpAny_noted ?_];rw[compTurn_list,<-eA]
  rcases alt with⟨stop,q5⟩|⟨go,step⟩
  .rwa[af (Fe (af ?_))]
   rw[<-ePr,<-eW]
   rwa[eG (TY.done Y rfl rfl rfl eC i [] s5 _ H5 _ J5 (fpY f5) t5 stop) λr s6 h9=>?_]
   let#[hr,J6]:=h9;subst hr;rwa[aC ?_];have J6':Inv (X.vn scope h2.objs.size (x++cn) {s with heap:=h2} (upd H D (.lst [])) fp) [] (τ++hW σ ci) H5 s6:=%[hY|J6]
   have I6:=I2.My J6' hf2;let#[m6,ns6,_]:=J6'.loc;have fC:=I2.XU (b:=h2.objs.size) (ar _);erw[fin h2.objs.size D H5 s6 I6 q5 #[m6,ns6] #[J6'.free,fC.2]]
  .rwa[af (Fe (af ?_))]
   rw[<-ePr,<-eW]
   rwa[eG (TY.item Y rfl rfl rfl eC i [] s5 _ H5 _ J5 (fpY f5) t5 go) λr s6 h9=>?_]
   let#[u,hr,h6]:=h9;subst hr;rwa[af ?_];rw[eA,<-eA]
   rwa[eG h6 λ_ s7 h9=>?_]
   let#[y,H7,J7,r7,y7,t7,f7]:=h9;have J7':=J7.pinned (fpY f7) (T.obj _ _ t7);have noE:∀{α:Type}{t:Sem α}{Q:α->aE->Prop}{E:Value->aE->Prop}{s:aE},wpAny (bf Y.prog Y.w) Y.A t Q Y.xe s->wpAny (bf Y.prog Y.w) Y.A t Q E s:=λh=>fU h (λ_ _ z=>z) λ_ _ z=>by rw[eX] at z;erw[z.elim]
   have ht':wpAny (bf Y.prog Y.w) Y.A (yl tg Y.env u) (λ_ s8=>∃τ',τ'.length=x.length/\Inv Y ([]++sM fp s7.heap) (τ'++hW σ ci) H7 s8/\tc (τ'++hW σ ci) H7 λb H4=>
     if b=ζ then te (τ'++hW σ ci) H4 λz H5=>H5 D=ξ (.lst acc)/\∃m',m'<n/\W (i+1) m' (acc++[z]) (upd H5 D (.lst (acc++[z]))) else ∃m',m'<n/\W (i+1) m' acc H4) (λ_ _=>False) s7:=by
    have st:=step y H7 y7;subst hY;erw[ht _ _ _ _ _ s7 τ _ H7 y u _ J7' hτ r7 st]
   refine af (fU ht' (λ_ s8 h9=>?_) λ_ _ z=>z.elim);let#[τ',hτ',J8',q8]:=h9;refine af (noE (eG (hPc _ s8 _ H7 _ J8' q8) λb s9 h9=>?_));let#[H9,J9,q9]:=h9;have again:∀{acc':List V}{H':Hp}{s':aE},Inv Y ([]++sM fp s7.heap) (τ'++hW σ ci) H' s'->(∃m',m'<n/\W (i+1) m' acc' H')->∃m,m<n/\∃i acc τ H',τ.length=x.length/\Inv Y [] (τ++hW σ ci) H' s'/\tn i s'.heap/\(∀b∈fp,H' b=ψ)/\W i m acc H':=λ{acc' H' s'}J' ⟨m',lt,w'⟩=>by
    refine#[m',lt,i+1,acc',τ',H',hτ',J'.rD,T.keep _ _ _ t7 λb hb o e=>(J'.pin (b,o) (aR _ (aR _ (m7 hb e)))).1,λb hb=>?_,w'];let#[o,e,d]:=T.obj _ _ t7 b hb;exact(J'.pin (b,o) (aR _ (aR _ (m7 hb e)))).2.1
   cases b with
   |false=>erw[aC #[rfl,again J9 q9]]
   |true=>
    rwa[af (af (noE (eG (hPe _ s9 _ H9 _ J9 q9) λv s10 h9=>?_)))];let#[z,H10,J10,r10,hD10,q10]:=h9;rwa[af (noE (eG (sO _ s10 _ H10 (.ref D) [z] (.ref D) [v] (λ_ H11=>H11=upd H10 D (.lst (acc++[z]))) J10 rfl (.cons r10 .nil) #[D,acc,z,rfl,rfl,hD10,hz5,rfl]) λv11 s11 h9=>?_))];let#[z11,H11,J11,_,e11]:=h9;subst e11;erw[aC (aC #[rfl,again J11 q10])]
 rw[eE] at loop;subst hD;erw[codeAny_compStart_list (loop _ rfl) (T.self _ 0 _ _ _ (T.keep _ _ _ t2 λb _ o e=>kp3 b o e) (loop _ rfl))]
def MD{elt iter tg:Expr}{bd:V->Hp->(St->Prop)->Prop}{pos:Pos}{ifs:List Expr}{wi:TI}{tc:TT}{te:TE}{cn:List Str}{ci:List Nat}(B:AM X scope x)(cp:yN X scope cn ci)(hnd:cn.Nodup)(hcalm:X.calm=ζ)(ht:T4 X tg scope x cn bd)(hi:PI X tg iter wi)
  (hc:∀C s₀ H₀ ex,Mz (X.vn scope C (x++cn) s₀ H₀ ex) ifs tc) (he:∀C s₀ H₀ ex,PE (X.vn scope C (x++cn) s₀ H₀ ex) elt te) (hs:∀x,foldedSetIterable iter X.env x=pure x:=by intro _;rfl):
  PE X (.ListComp elt [#[tg,iter,ifs,0]] scope pos) (Iw bd wi ci tc te):=by
 k_ne;rw[eval_ListComp]
 rwa[Ff (use:=ψ) rfl hs (vk (B.cells I.ok)) B.kind B.lo (eG (hi pZ s σ H _ I h) λv s1 h1=>eG h1 λitv s2 h2=>?_)];let#[it,fp,tn,J,H2,e,I2,T,t2,f2,q]:=h2;subst e;rwa[AQ (RR:=λacc C=>compPost (bf X.prog X.w) X.A X.xe ψ (EP X pZ σ Q) acc C) (Rq:=λD H2=>Q (.ref D) H2) I2 B cp hnd hcalm ht T t2 f2 hc he q λC D H5 s5 I5 q5 hn fC=>?_]
 let#[m,hm]:=hn;refine#[m,hm,λh' sb=>#[.ref D,H5,?_,rfl,q5]];erw[I5.turned (it:=C) (t':=s5.toks) (λb o hb e=>(sb.2 b hb).trans e) fC.1 fC.2.2.1 (.inr fC.2.1) fC.2.2.2.1 fC.2.2.2.2]
def CI{elt iter tg:Expr}{bd:V->Hp->(St->Prop)->Prop}{py pos spos:Pos}{ifs:List Expr}{wi:TI}{tc:TT}{te:TE}{cn:List Str}{ci:List Nat}{i:Nat}{y:Str}(B:AM X scope x)(cp:yN X scope cn ci)(hnd:cn.Nodup)(hcalm:X.calm=ζ)(ht:T4 X tg scope x cn bd)(hi:PI X tg iter wi)
  (hc:∀C s₀ H₀ ex,Mz (X.vn scope C (x++cn) s₀ H₀ ex) ifs tc) (he:∀C s₀ H₀ ex,PE (X.vn scope C (x++cn) s₀ H₀ ex) elt te) (hN:X.N.Nodup) (hy:X.N[i]?=ξ y) (hk:X.env.scope.names.lookup y=ξ .local)
  (hsw:fO (.ListComp elt [#[tg,iter,ifs,0]] scope pos) (ξ (.Name y py)) spos.line X.env=pure ζ) (hs:∀x,foldedSetIterable iter X.env x=pure x:=by intro _;rfl):
  PS X (.Assign [.Name y py] (.ListComp elt [#[tg,iter,ifs,0]] scope pos) spos) (UD (Iw bd wi ci tc te) (xt i)):=by
 intro pZ s σ H D I h;rw[exec_Assign_Name_used _ _ _ _ hsw]
 refine af (Fe (af ?_));show wpAny _ X.A (do let _ <-comprehension (.ListComp elt [#[tg,iter,ifs,0]] scope pos) scope X.env _ (newList []) ϑ (eval iter X.env) (ξ (yl (.Name y py) X.env))) _ _ s;refine af (fU (Ff (use:=ξ (yl (.Name y py) X.env)) (Q:=λ_ s'=>SP X pZ D .next s') rfl hs (vk (B.cells I.ok)) B.kind B.lo (eG (hi pZ s σ H _ I h) λv s1 h1=>eG h1 λitv s2 h2=>?_))
  (λ_ s' hq=>aC (aC hq)) λ_ _ e=>e)
 let#[it,fp,tn,J,H2,e,I2,T,t2,f2,q]:=h2;subst e;rwa[AQ (RR:=λacc C=>compPost (bf X.prog X.w) X.A X.xe (ξ (yl (.Name y py) X.env)) (λ_ s'=>SP X pZ D .next s') acc C) (Rq:=λD' H2=>(xt i) (.ref D') σ H2 D.nx) I2 B cp hnd hcalm ht T t2 f2 hc he q λC D' H5 s5 I5 q5 hn fC=>?_]
 let#[m,hm]:=hn;show wpAny _ X.A (yl (.Name y py) X.env (.ref D')) _ _ _;refine wA (xq (v:=.ref D') I5 hN hy (.inl hk) rfl (λs6 I6 sb6=>?_) (.inr hk));let#[a,sb,ha]:=sb6;have nC:C≠a:=by
  rcases ha with z|z
  .rw[z];erw[fC.2.2.1]
  .intro w;erw[fC.2.2.2.1 y a z w.symm]
 refine#[m,hm.sameBut sb nC,λh' sb'=>#[_,H5,?_,q5]];erw[I6.turned (it:=C) (t':=s6.toks) (λb o hb e=>(sb'.2 b hb).trans e) fC.1 fC.2.2.1 (.inr fC.2.1) fC.2.2.2.1 fC.2.2.2.2]
abbrev Vf(z:Str):It:=#[λi _=>i<z.cps.size,λi H x H'=>H'=H/\∃c,z.cps[i]?=ξ c/\x=.str #[(List.toArray [c])],λi _=>z.cps.size<=i]
def IA{P:bK}{w:cx}{K:Frag}{tg:Expr}(it:Addr)(z:Str)(t:Tok)(b:Bool):Turn P w K tg (Vf z) [it] it (λi h=>h.IsStrIter it (if b then "str_ascii_iterator" else "str_iterator") z t i) where
 mem:=by simp
 obj:=λi h st c hc=>by
  have e:c=it:=by simpa using hc
  subst e;let#[o,e,_,d]:=st;exact#[o,e,λv q=>by rw[d] at q;cases q]
 keep:=λi h h' st k=>by
  let#[o,e,c,d]:=st;exact#[o,k it (#v[]) o e,c,d]
 item:=by
  w_up;subst hP hw hK;let#[f0,f1,f2,f3,f4,f5]:=hf it (#v[]);have hx:z.cps[i]?=ξ (z.cps[i]'hg):=cC hg;have done:∀h',h'.IsStrIter it (if b then "str_ascii_iterator" else "str_iterator") z t (i+1)->gC it s.heap h' ->
    ∃u,(ξ (lE #[(List.toArray [z.cps[i]'hg])] s.toks):Option Value)=ξ u/\wpAny (bf X.prog X.w) X.A (qO tg (.ref it) u) (λ_ s2=>∃x H',Inv X pZ σ H' s2/\RelV x u/\(Vf z).UH i H x H'/\s2.heap.IsStrIter it (if b then "str_ascii_iterator" else "str_iterator") z t (i+1)/\∀b∈[it],H' b=ψ) E {s with heap:=h',toks:=s.toks+1}:=λh' st' sb=>by
   have I1:Inv X pZ σ H {s with heap:=h',toks:=s.toks+1}:=I.turned (t':=s.toks+1) (λb o hb e=>(sb.2 b hb).trans e) f0 f1 f3 f4 f5;let#[o,e,c,d]:=id st';exact#[_,rfl,xv (s:={s with heap:=h',toks:=s.toks+1}) e c d (by cases b<;>decide) #[.str #[(List.toArray [z.cps[i]'hg])],H,I1,#[_,rfl],#[rfl,_,hx,rfl],st',λb hb=>(hf b hb).1]]
  cases b with
  |true=>erw[wpAny_pyNext_ascii_item st hx λh' st' sb=>done h' st' sb]
  |false=>erw[wpAny_pyNext_wide_item st hx λh' st' sb=>done h' st' sb]
 done:=by
  w_up;subst hP hw hK;let#[f0,f1,f2,f3,f4,f5]:=hf it (#v[]);have hx:z.cps[i]?=ψ:=gw hg;cases b with
  |true=>erw[wpAny_pyNext_ascii_end (I.ok.hd hc) st hx λh' eb=>#[rfl,I.turned (t':=s.toks) (λb o hb e=>eb b o hb e) f0 f1 f3 f4 f5]]
  |false=>erw[wpAny_pyNext_wide_end (I.ok.hd hc) st hx λh' eb=>#[rfl,I.turned (t':=s.toks) (λb o hb e=>eb b o hb e) f0 f1 f3 f4 f5]]
 self:=λA i s Q E st h=>by
  cases b with
  |true=>erw[wpAny_pyIter_striter_ascii st h]
  |false=>erw[wpAny_pyIter_striter_wide st h]
end
noncomputable abbrev tx(l:List Nat):Str:=#[l.toArray]
def Vg(z:Str):z=tx z.cps.toList:=by
 let#[a]:=z;simp
def yO(a b:List Nat):tx a++tx b=tx (a++b):=by
 show Str.mk (a.toArray++b.toArray)=Str.mk (a++b).toArray
 simp
def dN(a:List Nat):(tx a).length=a.length:=by simp[Str.length]
def oW(h:tx a=tx b):a=b:=by
 have:=congrArg (λz:Str=>z.cps.toList) h;simpa using this
def OO:(tx a=tx b)↔a=b:=#[oW,λh=>by rw[h]]
def DZ:(V.str (tx a)=V.str (tx b))↔a=b:=#[λh=>oW (V.str.inj h),λh=>by rw[h]]
section
variable{X:Cx}
def FL:iw X (cX .Add) (λx y H Q=>∃a b,x=.str (tx a)/\y=.str (tx b)/\a.length+b.length<=sizeLine/\Q (.str (tx (a++b))) H):=by
 x_go;let#[a,b,rfl,rfl,hz,q]:=h;rwa[Cq pZ s σ H _ _ v u Q I rx ry #[tx a,tx b,rfl,rfl,%[dN,dN|hz],?_]];rw[yO]
 erw[q]
def CJ:iw X (iD .Add) (λx y H Q=>∃a b,x=.str (tx a)/\y=.str (tx b)/\a.length+b.length<=sizeLine/\Q (.str (tx (a++b))) H):=by
 x_go;let#[a,b,rfl,rfl,hz,q]:=h;rwa[AB pZ s σ H _ _ v u Q I rx ry #[tx a,tx b,rfl,rfl,%[dN,dN|hz],?_]];rw[yO]
 erw[q]
def ME(h:c∈l):Txt.find (tx l) (tx [c])=((l.idxOf c:Nat):Int)/\(Builtin.Str.occurrences (tx l) (tx [c]) 0 (tx l).length 1).isEmpty=ϑ:=by
 have h2:(!(Builtin.Str.occurrences (tx l) #[(List.toArray [c])] 0 (tx l).length 1).isEmpty)=ζ:=by rw[StrLaws.found_one];simpa using h
 refine#[?_,~~~h2];have at_iff:∀i,StrLaws.At (tx l) (tx [c]) (tx l).length i↔l[i]?=ξ c:=λi=>by
  have:=StrLaws.subAt_one (tx l) c i;simpa[StrLaws.At] using this
 rcases find_whole (tx l) (tx [c]) with⟨_,no⟩|⟨i,e,hi,lo⟩
 .let#[j,hj,ej]:=qR h
  erw[absurd ((at_iff j).mpr (by rw[ab hj,ej])) (no j)]
 .rw[e]
  have hi':=(at_iff i).mp hi;let#[hlt,ei]:=ag.mp hi';have e1:l.idxOf c=i:=by
   have hk:=bE h;rcases mU (l.idxOf c) i with q|q|q
   .erw[absurd ((at_iff _).mpr (by rw[ab hk,dH])) (lo _ q)]
   .erw[q]
   .have:=List.not_of_lt_findIdx (p:=(·==c)) (xs:=l) (i:=i) q
    simp[ei] at this
  rw[e1]
abbrev Qr:V->List V->Hp->VK->Prop:=λx xs H Q=>∃l c,x=.str (tx l)/\xs=[.str (tx [c])]/\c∈l/\Q (.int ((l.idxOf c:Nat):Int)) H
def AS(hA:X.A.handled=ψ):Cw X "str.index" Qr:=by
 intro pZ s σ H x xs v us Q I rx rs h;let#[l,c,rfl,rfl,hc,q]:=h;let#[t,rfl]:=rx;let#[u,rfl,t',rfl]:=vals1 rs;let#[e,ne]:=ME hc;rwa[index_or hA (λz w=>?_) λ_ _=>#[.int _,H,I.tok _,#[_,rfl],%[e|q]]]
 rw[ne] at w;cases w
end
abbrev vo(sep:List Nat):List (List Nat)->List Nat
 |[]=>[]
 |[x]=>x
 |x::r=>x++sep++vo sep r
def MF(sep:List Nat):∀ts:List (List Nat),Txt.join (tx sep) (ts.map tx)=tx (vo sep ts):=by
 intro ts;show Builtin.Str.glued (tx sep) (ts.map tx)=_;rw[StrLaws.glued_eq_join]
 induction ts with
 |nil=>rfl
 |cons a r ih=>
  cases r with
  |nil=>rfl
  |cons b r=>
   show tx a++tx sep++Str.join (tx sep) ((b::r).map tx)=tx (a++sep++vo sep (b::r))
   rw[ih,yO,yO]
def vp:∀{ts:List (List Nat)}{us:List Value},Vals (ts.map λt=>V.str (tx t)) us->StrsAre us (ts.map tx)
 |[],_,.nil=>.nil
 |a::ts,_,.cons (b:=u) r h=>by
  let#[t,e]:=(show ∃t,u=lE (tx a) t from r)
  subst e;erw[.cons _ _ (vp h)]
section
variable{X:Cx}
abbrev rJoin(K:Frag):V->List V->Hp->VK->Prop:=λx xs H Q=>∃sep ts p,x=.str (tx sep)/\xs=[.ref p]/\gX K H p (ts.map λt=>V.str (tx t))/\(ts.map cw).sum+ts.length*sep.length<=1000000/\Q (.str (tx (vo sep ts))) H
def D1:Cw X "str.join" (rJoin X.K):=by
 intro pZ s σ H x xs v us Q I rx rs h;let#[sep,ts,p,rfl,rfl,hl,hz,q]:=h;let#[t,rfl]:=rx;let#[u,rfl,ru]:=vals1 rs;cases ru;let#[its,r,pl,_]:=I.list hl;refine join_list pl.isList (ys:=ts.map tx) (~~~(vp r)) ?_ λt' k=>#[.str (tx (vo sep ts)),H,I.tok k,#[t',by rw[MF]],q]
 have e:((ts.map tx).map (·.length)).sum=(ts.map cw).sum:=by
  congr 1
  rw[bB]
  erw[qS λa _=>dN a]
 rw[e,ae,dN]
 omega
def vq:∀{l:List Nat},(∀k∈l,f k=g k)->l.filterMap f=l.filterMap g
 |[],_=>rfl
 |a::l,h=>by
  rw[bu,bu,h a aN,vq λk hk=>h k (av _ hk)]
def mK(l:List Nat):∀(n i:Nat),i+n<=l.length->(bC n).filterMap (λk=>l[i+k]?)=(l.drop i).take n
 |0,i,_=>by simp
 |n+1,i,h=>by
  rw[BS,bu,Hd]
  have hi:i<l.length:=∅
  have e:l[i+0]?=ξ l[i]:=by simp[hi]
  rw[e,fu hi,Fg]
  have:=mK l n (i+1) ∅;rw[<-this]
  show l[i]::_=l[i]::_
  congr 1
  rwa[vq λk _=>?_]
  show l[i+(k+1)]?=l[i+1+k]?
  rw[show i+(k+1)=i+1+k by omega]
abbrev CK(l:List Nat)(i j:Nat):List Nat:=(l.drop i).take (j-i)
def D3{b:Int}{n:Nat}(h:0<=b):max 0 (min b (n:Int))=((min b.toNat n:Nat):Int):=by
 let#[k,rfl]:=Int.eq_ofNat_of_zero_le h;rw[Int.max_eq_right (Int.le_min.mpr #[h,Int.ofNat_nonneg n])]
 rw[dA];omega
def IB(l:List Nat)(lo hi:Option Int)(i j:Nat)(hlo:lo=ψ/\i=0\/∃a:Int,lo=ξ a/\0<=a/\i=min a.toNat l.length)(hhi:hi=ψ/\j=l.length\/∃b:Int,hi=ξ b/\0<=b/\j=min b.toNat l.length):
  Txt.slice (tx l) lo hi=tx (CK l i j):=by
 have hi':i<=l.length:=by rcases hlo with⟨_,e⟩|⟨a,_,_,e⟩<;>omega
 have hj':j<=l.length:=by rcases hhi with⟨_,e⟩|⟨b,_,_,e⟩<;>omega
 have key:Builtin.Str.strSliceIndices lo hi 1 l.length=(bC (j-i)).map λk=>i+k:=by
  have e0:Builtin.Str.strSliceIndices lo hi 1 l.length=sliceRange (i:Int) (j:Int) 1:=by
   unfold Builtin.Str.strSliceIndices;rcases hlo with⟨rfl,rfl⟩|⟨a,rfl,h0,rfl⟩<;>rcases hhi with⟨rfl,rfl⟩|⟨b,rfl,h1,rfl⟩
   .rfl
   .dsimp[yy.mpr h1,if_false,show(1:Int)>0 by decide,if_true,D3 h1]
    rfl
   .dsimp[yy.mpr h0,if_false,show(1:Int)>0 by decide,if_true,D3 h0]
   .dsimp[yy.mpr h0,yy.mpr h1,if_false,show(1:Int)>0 by decide,if_true,D3 h0,D3 h1]
  rw[e0]
  unfold sliceRange;dsimp[show(1:Int)>0 by decide,if_true,Int.ediv_one];have e3:(if (i:Int)<(j:Int) then(j:Int)-i+1-1 else 0).toNat=j-i:=by split<;>omega
  rw[e3]
  rwa[qS λk _=>?_]
  omega
 have len:(tx l).length=l.length:=dN l;unfold Txt.slice;rw[len,key]
 have e4:((bC (j-i)).map λk=>i+k).length=j-i:=by simp
 rw[e4]
 by_cases hw:j-i=l.length
 .rw[if_pos (by simp[hw])]
  have:CK l i j=l:=by
   unfold CK;have:i=0:=∅
   subst this;rw[hw,jC,cb]
  rw[this]
 .rw[if_neg (by simp[hw])]
  show tx _=tx _
  congr 1
  rw[Hd]
  by_cases hij:i<=j
  .have:=mK l (j-i) i ∅
   unfold CK;rw[<-this]
   rwa[vq λk _=>?_]
   simp
  .have:j-i=0:=∅
   unfold CK;rw[this]
   simp
abbrev Y1:V->Option Int->Option Int->Hp->VK->Prop:=λx lo hi H Q=>∃l i j,x=.str (tx l)/\l.length<=sizeLine/\(lo=ψ/\i=0\/∃a:Int,lo=ξ a/\0<=a/\i=min a.toNat l.length)/\(hi=ψ/\j=l.length\/∃b:Int,hi=ξ b/\0<=b/\j=min b.toNat l.length)/\Q (.str (tx (CK l i j))) H
def Vh:XQ X Y1:=by
 intro pZ s σ H x v vl vu lo hi sl Q I rx hs pl pu h;let#[l,i,j,rfl,hz,h1,h2,q]:=h;let#[t,rfl]:=rx;refine#["str",_,F.slot_str_getitem.lookup,typeIs_str _ _ _,?_];have fin:∀(a b:Option (Int×Tok)),vl=partValue a->vu=partValue b->lo=a.map (·.1)->hi=b.map (·.1)->wpAny (bf X.prog X.w) X.A (tN (.str (tx l) t) (.ref sl)) (EP X pZ σ Q) X.xe s:=λa b e1 e2 e3 e4=>by
  refine wpAny_getItem_str_slice (l:=a) (u:=b) (st:=ψ) (by rw[e1,e2] at hs;erw[hs]) rfl ?_;rwa[post_val_or_str #[aH (Txt.slice_le (tx l) _ _) (%[dN|hz]),λt' k=>#[.str (tx (CK l i j)),H,I.tok k,#[t',?_],q]]];have:=IB l lo hi i j h1 h2;rw[e3,e4] at this;rw[<-this]
  rfl
 cases pl with
 |none=>
  cases pu with
  |none=>erw[fin ψ ψ rfl rfl rfl rfl]
  |int b u=>erw[fin ψ (ξ (b,u)) rfl rfl rfl rfl]
 |int a u=>
  cases pu with
  |none=>erw[fin (ξ (a,u)) ψ rfl rfl rfl rfl]
  |int b u2=>erw[fin (ξ (a,u)) (ξ (b,u2)) rfl rfl rfl rfl]
end
section
variable{X:Cx}{pZ:List (Addr×Obj)}{σ:St}{H:Hp}{s:aE}{a C d:Addr}{fs:List (Str×V)}{f:Str}{v:V}
structure Qs(K:Frag)(P:Params)(a:Addr)(kvs:List (Str×V)):Prop where
 ex:∃es n,K.lookup a=ξ #[.type "dict",ψ,.dict es n,#[]]/\BU P es.toList
 at_:∀k v,kvs.lookup k=ξ v->∃u,RelV v u/\nsIn K a k=ξ (ξ u)
 no:∀k,kvs.lookup k=ψ->nsIn K a k=ξ ψ
 ns:(a==cg)=ϑ
abbrev Y2(K:Frag)(P:Params):R2:=λx y H Q=>∃a kvs k v,x=.ref a/\y=.str k/\Qs K P a kvs/\kvs.lookup k=ξ v/\Q v H
def yP:T2 X (Y2 X.K X.w.params):=by
 intro value slice pZ s σ H x y v u Q I rx ry h hs;let#[a,kvs,k,z,rfl,rfl,T,e,q]:=h;cases rx;let#[t,rfl]:=ry;let#[es,n,lk,kl]:=T.ex;let#[w,rw',ew]:=T.at_ k z e;have hm:=mapOf_K (prog:=X.prog) (w:=X.w) I.yB lk kl;erw[tail_any hm.typeIs slot_dict_getitem.lookup (wpAny_getItem_of (strKind_is X.prog X.w k t) hm (find_K lk ew) #[z,H,I.tok _,rw',q]) hs]
end
inductive Dv where
 |cf|bl (b:Bool)|int (i:Int)|str (l:List Nat)|tup (ds:List Dv)|lst (ds:List Dv)
mutual
noncomputable def Dv.depth:Dv->Nat
 |.tup ds=>Dv.kq ds+1
 |.lst ds=>Dv.kq ds+1
 |_=>0
noncomputable def Dv.kq:List Dv->Nat
 |[]=>0
 |d::ds=>max d.depth (Dv.kq ds)
end
mutual
noncomputable def BZ:Dv->Dv->Bool
 |.cf,.cf=>ζ
 |.bl a,.bl b=>a==b
 |.bl a,.int b=>(if a then 1 else 0)== b
 |.int a,.bl b=>a==(if b then 1 else 0)
 |.int a,.int b=>a==b
 |.str a,.str b=>a==b
 |.tup xs,.tup ys=>m9 xs ys
 |.lst xs,.lst ys=>m9 xs ys
 |_,_=>ϑ
noncomputable def m9:List Dv->List Dv->Bool
 |[],[]=>ζ
 |x::xs,y::ys=>BZ x y&&m9 xs ys
 |_,_=>ϑ
end
mutual
noncomputable def nV(K:Frag)(H:Hp):V->Dv->Prop
 |v,.cf=>v=.cf
 |v,.bl b=>v=.bl b
 |v,.int i=>v=.int i
 |v,.str l=>v=.str (tx l)
 |v,.tup ds=>∃a vs,v=.ref a/\oG K H a vs/\i3 K H vs ds
 |v,.lst ds=>∃a vs,v=.ref a/\gX K H a vs/\i3 K H vs ds
noncomputable def i3(K:Frag)(H:Hp):List V->List Dv->Prop
 |[],[]=>True
 |v::vs,d::ds=>nV K H v d/\i3 K H vs ds
 |_,_=>False
end
def i3.len{K:Frag}{H:Hp}:∀{vs:List V}{ds:List Dv},i3 K H vs ds->vs.length=ds.length
 |[],[],_=>rfl
 |_::vs,_::ds,h=>by
  unfold i3 at h;rw[aU,aU,i3.len h.2]
 |[],_::_,h=>by unfold i3 at h;erw[h.elim]
 |_::_,[],h=>by unfold i3 at h;erw[h.elim]
def i3.get{K:Frag}{H:Hp}:∀{vs:List V}{ds:List Dv}{i:Nat}{v:V}{d:Dv},i3 K H vs ds->vs[i]?=ξ v->ds[i]?=ξ d->nV K H v d
 |v::vs,d::ds,0,_,_,h,e1,e2=>by
  unfold i3 at h;simp at e1 e2;subst e1 e2;erw[h.1]
 |v::vs,d::ds,i+1,_,_,h,e1,e2=>by
  unfold i3 at h;exact i3.get (i:=i) h.2 (~~~e1) (~~~e2)
 |[],_,_,_,_,_,e1,_=>by simp at e1
 |_,[],_,_,_,_,_,e2=>by simp at e2
mutual
theorem vt:∀d:Dv,BZ d d=ζ
 |.cf=>rfl
 |.bl b=>beq_self_eq_true _
 |.int i=>beq_self_eq_true _
 |.str l=>beq_self_eq_true _
 |.tup ds=>sU ds
 |.lst ds=>sU ds
theorem sU:∀ds:List Dv,m9 ds ds=ζ
 |[]=>by unfold m9;rfl
 |d::ds=>by unfold m9;rw[vt d,sU ds];rfl
end
def ng:∀(xs ys:List Dv)(e:Nat->Bool),(∀i x y,xs[i]?=ξ x->ys[i]?=ξ y->e i=BZ x y)->((bC (min xs.length ys.length)).all e&&xs.length==ys.length)=m9 xs ys
 |[],[],e,_=>by unfold m9;simp
 |[],y::ys,e,_=>by unfold m9;simp
 |x::xs,[],e,_=>by unfold m9;simp
 |x::xs,y::ys,e,h=>by
  have ih:=ng xs ys (λi=>e (i+1)) λi a b h1 h2=>h (i+1) a b (~~~h1) (~~~h2)
  unfold m9;rw[<-ih,<-h 0 x y rfl rfl]
  rw[aU,aU,Nat.succ_min_succ,BS,bG,tO]
  have:(xs.length+1==ys.length+1)=(xs.length==ys.length):=by simp
  rw[this,Bool.and_assoc]
  rfl
section
variable{X:Cx}{pZ:List (Addr×Obj)}{σ:St}{H:Hp}{s:aE}
mutual
theorem nV.inj(I:Inv X pZ σ H s):∀{d d':Dv}{v:V},nV X.K H v d->nV X.K H v d'->d=d'
 |.cf,d',v,h,h'=>by
  unfold nV at h;subst h;cases d'<;>unfold nV at h'<;>first|rfl| (cases h';done)| (obtain⟨_,_,z,_⟩:=h';cases z)
 |.bl b,d',v,h,h'=>by
  unfold nV at h;subst h;cases d'<;>unfold nV at h'<;>first| (cases h';rfl)| (cases h';done)| (obtain⟨_,_,z,_⟩:=h';cases z)
 |.int b,d',v,h,h'=>by
  unfold nV at h;subst h;cases d'<;>unfold nV at h'<;>first| (cases h';rfl)| (cases h';done)| (obtain⟨_,_,z,_⟩:=h';cases z)
 |.str l,d',v,h,h'=>by
  unfold nV at h;subst h;cases d'<;>unfold nV at h'<;>first| (rw[DZ.mp h'])| (cases h';done)| (obtain⟨_,_,z,_⟩:=h';cases z)
 |.tup ds,d',v,h,h'=>by
  let#[a,vs,rfl,hq,hd]:=h;cases d' with
  |tup ds'=>
   unfold nV at h';let#[a',vs',e,hq',hd']:=h';cases e;rw[I.xr hq' hq] at hd';rw[i3.inj I hd hd']
  |lst ds'=>
   unfold nV at h';let#[a',vs',e,hq',hd']:=h';cases e;exfalso;let#[its,_,#[o,e1,c1,_],_]:=I.tuple hq;let#[its',_,#[o',n',e2,c2,_,_],_]:=I.list hq';rw[e1] at e2;cases e2;rw[c1] at c2;injection c2 with c2
   erw[absurd c2 ⋯]
  |_=>unfold nV at h';cases h'
 |.lst ds,d',v,h,h'=>by
  let#[a,vs,rfl,hq,hd]:=h;cases d' with
  |lst ds'=>
   unfold nV at h';let#[a',vs',e,hq',hd']:=h';cases e;rw[I.rA hq' hq] at hd';rw[i3.inj I hd hd']
  |tup ds'=>
   unfold nV at h';let#[a',vs',e,hq',hd']:=h';cases e;exfalso;let#[its,_,#[o,e1,c1,_],_]:=I.tuple hq';let#[its',_,#[o',n',e2,c2,_,_],_]:=I.list hq;rw[e1] at e2;cases e2;rw[c1] at c2;injection c2 with c2
   erw[absurd c2 ⋯]
  |_=>unfold nV at h';cases h'
theorem i3.inj(I:Inv X pZ σ H s):∀{ds ds':List Dv}{vs:List V},i3 X.K H vs ds->i3 X.K H vs ds'->ds=ds'
 |[],[],_,_,_=>rfl
 |[],_::_,[],_,h'=>by unfold i3 at h';erw[h'.elim]
 |[],_::_,_::_,h,_=>by unfold i3 at h;erw[h.elim]
 |_::_,[],[],h,_=>by unfold i3 at h;erw[h.elim]
 |_::_,[],_::_,_,h'=>by unfold i3 at h';erw[h'.elim]
 |d::ds,d'::ds',[],h,_=>by unfold i3 at h;erw[h.elim]
 |d::ds,d'::ds',v::vs,h,h'=>by
  unfold i3 at h h';rw[nV.inj I h.1 h'.1,i3.inj I h.2 h'.2]
end
def pG:∀{ds:List Dv}{i:Nat}{d:Dv},ds[i]?=ξ d->d.depth<=Dv.kq ds
 |d::ds,0,_,h=>by
  simp at h;subst h;unfold Dv.kq;erw[Nat.le_max_left _ _]
 |d::ds,i+1,_,h=>by
  have:=pG (ds:=ds) (i:=i) (~~~h);unfold Dv.kq;erw[aH this (Nat.le_max_right _ _)]
 |[],_,_,h=>by simp at h
def IC(I:Inv X pZ σ H s):∀(n:Nat){A:dC}{d d':Dv}{x y:V}{u v:Value},d.depth<=n->A.units+n<d6->nV X.K H x d->nV X.K H y d'->RelV x u->RelV y v->wD A s u v (BZ d d'):=by
 intro n;induction n with
 |zero=>
  intro A d d' x y u v hn hu hx hy rx ry;cases d with
  |tup ds=>unfold Dv.depth at hn;omega
  |lst ds=>unfold Dv.depth at hn;omega
  |cf=>
   cases (show _=_ from hx);cases rx;cases d'<;>unfold nV at hy
   .subst hy;cases ry;erw[jL _]
   .subst hy;cases ry;erw[xf _]
   .subst hy;let#[t,rfl]:=ry;erw[oy _ _]
   .subst hy;let#[t,rfl]:=ry;erw[oA _ _]
   .let#[a,vs,rfl,hq,_]:=hy;cases ry;let#[its,_,p,_]:=I.tuple hq;erw[SeqAt.EqAt.none_tuple p ∅]
   .let#[a,vs,rfl,hq,_]:=hy;cases ry;let#[its,_,p,_]:=I.list hq;erw[SeqAt.EqAt.none_list p.isList ∅]
  |bl b=>
   cases (show _=_ from hx);cases rx;cases d'<;>unfold nV at hy
   .subst hy;cases ry;erw[xg _]
   .subst hy;cases ry;erw[xh _ _]
   .subst hy;let#[t,rfl]:=ry;erw[yt _ _ _]
   .subst hy;let#[t,rfl]:=ry;erw[yu _ _ _]
   .let#[a,vs,rfl,hq,_]:=hy;cases ry;let#[its,_,p,_]:=I.tuple hq;erw[SeqAt.EqAt.bool_tuple _ p ∅]
   .let#[a,vs,rfl,hq,_]:=hy;cases ry;let#[its,_,p,_]:=I.list hq;erw[SeqAt.EqAt.bool_list _ p.isList ∅]
  |int i=>
   cases (show _=_ from hx);let#[t0,rfl]:=rx;cases d'<;>unfold nV at hy
   .subst hy;cases ry;erw[ow _ _]
   .subst hy;cases ry;erw[yw _ _ _]
   .subst hy;let#[t,rfl]:=ry;erw[pj _ _ _ _]
   .subst hy;let#[t,rfl]:=ry;erw[pf _ _ _ _]
   .let#[a,vs,rfl,hq,_]:=hy;cases ry;let#[its,_,p,_]:=I.tuple hq;erw[SeqAt.EqAt.int_tuple _ _ p ∅]
   .let#[a,vs,rfl,hq,_]:=hy;cases ry;let#[its,_,p,_]:=I.list hq;erw[SeqAt.EqAt.int_list _ _ p.isList ∅]
  |str l=>
   cases (show _=_ from hx);let#[t0,rfl]:=rx;cases d' with
   |cf=>cases (show _=_ from hy);cases ry;erw[ox _ _]
   |bl b=>cases (show _=_ from hy);cases ry;erw[yx _ _ _]
   |int i=>cases (show _=_ from hy);let#[t,rfl]:=ry;erw[ph _ _ _ _]
   |str l'=>
    cases (show _=_ from hy);let#[t,rfl]:=ry;have e:(tx l==tx l')=BZ (.str l) (.str l'):=by
     show(tx l==tx l')=(l==l')
     rw[cy,beq_iff_eq,beq_iff_eq]
     erw[OO]
    rw[<-e]
    erw[zV _ _ _ _]
   |tup ds=>let#[a,vs,rfl,hq,_]:=hy;cases ry;let#[its,_,p,_]:=I.tuple hq;erw[SeqAt.EqAt.str_tuple _ _ p ∅]
   |lst ds=>let#[a,vs,rfl,hq,_]:=hy;cases ry;let#[its,_,p,_]:=I.list hq;erw[SeqAt.EqAt.str_list _ _ p.isList ∅]
 |succ n ih=>
  intro A d d' x y u v hn hu hx hy rx ry;have items:∀{vs vs':List V}{ds ds':List Dv}{its its':List Value},Dv.kq ds<=n->i3 X.K H vs ds->i3 X.K H vs' ds'->Vals vs its->Vals vs' its' ->
    ∃e:Nat->Bool,(∀j(h1:j<its.toArray.size)(h2:j<its'.toArray.size),wD A.in1 s its.toArray[j] its'.toArray[j] (e j))/\((bC (min its.toArray.size its'.toArray.size)).all e&&its.toArray.size==its'.toArray.size)=m9 ds ds':=by
   intro vs vs' ds ds' its its' hd h1 h2 r1 r2;have l1:=h1.len;have l2:=h2.len;have m1:=r1.length;have m2:=r2.length;refine#[λj=>match ds[j]?,ds'[j]? with|some a,ξ b=>BZ a b|_,_=>ζ,λj k1 k2=>?_,?_]
   .rw[aD] at k1 k2
    have j1:j<ds.length:=∅
    have j2:j<ds'.length:=∅
    have i1:j<vs.length:=∅
    have i2:j<vs'.length:=∅
    have e1:ds[j]?=ξ ds[j]:=ab j1;have e2:ds'[j]?=ξ ds'[j]:=ab j2;have f1:vs[j]?=ξ vs[j]:=ab i1;have f2:vs'[j]?=ξ vs'[j]:=ab i2;let#[w1,g1,q1]:=r1.get f1;let#[w2,g2,q2]:=r2.get f2;have a1:its.toArray[j]=w1:=by
     let#[_,z]:=ag.mp g1;simpa using z
    have a2:its'.toArray[j]=w2:=by
     let#[_,z]:=ag.mp g2;simpa using z
    rw[a1,a2]
    dsimp only;rw[e1,e2]
    erw[ih (aH (pG e1) hd) (by show A.units+1+n<d6;omega) (h1.get f1 e1) (h2.get f2 e2) q1 q2]
   .rw[aD,aD,<-m1,<-m2,l1,l2]
    rwa[ng ds ds' _ λi a b h1 h2=>?_]
    rw[h1,h2]
  by_cases hz:d.depth<=n
  .erw[ih hz ∅ hx hy rx ry]
  .cases d with
   |cf=>unfold Dv.depth at hz;omega
   |bl b=>unfold Dv.depth at hz;omega
   |int b=>unfold Dv.depth at hz;omega
   |str b=>unfold Dv.depth at hz;omega
   |tup ds=>
    have hx0:=hx;let#[a,vs,rfl,hq,hd]:=hx;cases rx;let#[its,r1,p,_]:=I.tuple hq;unfold Dv.depth at hn;cases d' with
    |cf=>cases (show _=_ from hy);cases ry;erw[SeqAt.EqAt.tuple_none p ∅]
    |bl b=>cases (show _=_ from hy);cases ry;erw[SeqAt.EqAt.tuple_bool _ p ∅]
    |int i=>cases (show _=_ from hy);let#[t,rfl]:=ry;erw[SeqAt.EqAt.tuple_int _ _ p ∅]
    |str l'=>cases (show _=_ from hy);let#[t,rfl]:=ry;erw[SeqAt.EqAt.tuple_str _ _ p ∅]
    |lst ds'=>let#[a',vs',rfl,hq',_]:=hy;cases ry;let#[its',_,p',_]:=I.list hq';erw[SeqAt.EqAt.tuple_list p p'.isList ∅]
    |tup ds'=>
     have hy0:=hy;let#[a',vs',rfl,hq',hd']:=hy;cases ry;let#[its',r2,p',_]:=I.tuple hq';by_cases e:a=a'
     .subst e
      rw[nV.inj I hx0 hy0,vt]
      erw[jL _]
     .let#[f,hf,ef]:=items ∅ hd hd' r1 r2
      rw[show BZ (.tup ds) (.tup ds')=m9 ds ds' from rfl,<-ef]
      erw[zX e (Ai p p' ∅ hf)]
   |lst ds=>
    have hx0:=hx;let#[a,vs,rfl,hq,hd]:=hx;cases rx;let#[its,r1,p,_]:=I.list hq;unfold Dv.depth at hn;cases d' with
    |cf=>cases (show _=_ from hy);cases ry;erw[SeqAt.EqAt.list_none p.isList ∅]
    |bl b=>cases (show _=_ from hy);cases ry;erw[SeqAt.EqAt.list_bool _ p.isList ∅]
    |int i=>cases (show _=_ from hy);let#[t,rfl]:=ry;erw[SeqAt.EqAt.list_int _ _ p.isList ∅]
    |str l'=>cases (show _=_ from hy);let#[t,rfl]:=ry;erw[SeqAt.EqAt.list_str _ _ p.isList ∅]
    |tup ds'=>let#[a',vs',rfl,hq',_]:=hy;cases ry;let#[its',_,p',_]:=I.tuple hq';erw[SeqAt.EqAt.list_tuple p.isList p' ∅]
    |lst ds'=>
     have hy0:=hy;let#[a',vs',rfl,hq',hd']:=hy;cases ry;let#[its',r2,p',_]:=I.list hq';by_cases e:a=a'
     .subst e
      rw[nV.inj I hx0 hy0,vt]
      erw[jL _]
     .let#[f,hf,ef]:=items ∅ hd hd' r1 r2
      rw[show BZ (.lst ds) (.lst ds')=m9 ds ds' from rfl,<-ef]
      rwa[zX e ?_];by_cases el:its.toArray.size=its'.toArray.size
      .have:((bC (min its.toArray.size its'.toArray.size)).all f&&its.toArray.size==its'.toArray.size)=(bC its.toArray.size).all f:=by
        rw[el,Nat.min_self]
        simp
       rw[this]
       erw[SeqAt.RcAt.lists p.isList p'.isList el ∅ hf]
      .have:((bC (min its.toArray.size its'.toArray.size)).all f&&its.toArray.size==its'.toArray.size)=ϑ:=by
        have:(its.toArray.size==its'.toArray.size)=ϑ:=by simpa using el
        rw[this,Bool.and_false]
       rw[this]
       exact uv p.isList p'.isList (~~~el) ∅
abbrev Y3(K:Frag):R2:=λx y H Q=>∃ds d',nV K H x (.tup ds)/\nV K H y d'/\Dv.kq ds<=100/\Q (.bl (BZ (.tup ds) d')) H
def Qt(hu:X.A.units+200<d6):iw X (bH .Eq) (Y3 X.K):=by
 intro pZ s σ H x y u v Q I rx ry h;let#[ds,d',hx,hy,hz,q]:=h;have fin:∀b,b=BZ (.tup ds) d'->EP X pZ σ Q (.bool b) s:=λb e=>by rw[e];exact#[.bl _,H,I,rfl,q]
 have hx0:=hx;let#[a,vs,rfl,hq,hd]:=hx;cases rx;let#[its,r1,p,_]:=I.tuple hq;cases d' with
 |cf=>cases (show _=_ from hy);cases ry;erw[SeqAt.RcAt.tuple_none p ∅ _ _ _ _ (fin _ (rfl))]
 |bl b=>cases (show _=_ from hy);cases ry;erw[SeqAt.RcAt.tuple_bool _ p ∅ _ _ _ _ (fin _ (rfl))]
 |int i=>cases (show _=_ from hy);let#[t,rfl]:=ry;erw[SeqAt.RcAt.tuple_int _ _ p ∅ _ _ _ _ (fin _ (rfl))]
 |str l'=>cases (show _=_ from hy);let#[t,rfl]:=ry;erw[SeqAt.RcAt.tuple_str _ _ p ∅ _ _ _ _ (fin _ (rfl))]
 |lst ds'=>let#[a',vs',rfl,hq',_]:=hy;cases ry;let#[its',_,p',_]:=I.list hq';erw[SeqAt.RcAt.tuple_list p p'.isList ∅ _ _ _ _ (fin _ (rfl))]
 |tup ds'=>
  let#[a',vs',rfl,hq',hd']:=hy;cases ry;let#[its',r2,p',_]:=I.tuple hq';have l1:=hd.len;have l2:=hd'.len;have m1:=r1.length;have m2:=r2.length;refine Ai (e:=λj=>match ds[j]?,ds'[j]? with|some a,ξ b=>BZ a b|_,_=>ζ) p p' ∅ (λj k1 k2=>?_) _ _ _ _ (fin _ ?_)
  .rw[aD] at k1 k2
   have e1:ds[j]?=ξ (ds[j]'∅):=ab _;have e2:ds'[j]?=ξ (ds'[j]'∅):=ab _;have f1:vs[j]?=ξ (vs[j]'∅):=ab _;have f2:vs'[j]?=ξ (vs'[j]'∅):=ab _;let#[w1,g1,q1]:=r1.get f1;let#[w2,g2,q2]:=r2.get f2;have a1:its.toArray[j]=w1:=by
    let#[_,z]:=ag.mp g1;simpa using z
   have a2:its'.toArray[j]=w2:=by
    let#[_,z]:=ag.mp g2;simpa using z
   rw[a1,a2,e1,e2]
   erw[IC I 100 (aH (pG e1) hz) (by show X.A.units+1+100<d6;omega) (hd.get f1 e1) (hd'.get f2 e2) q1 q2]
  .rw[aD,aD,<-m1,<-m2,l1,l2]
   rw[show BZ (.tup ds) (.tup ds')=m9 ds ds' from rfl]
   rwa[ng ds ds' _ λi a b h1 h2=>?_]
   rw[h1,h2]
end
end L2
namespace PL
def _root_.Lake.L2.ff{P:Prop}(h:ϑ=ζ):P:=by cases h
def _root_.Lake.L2.nn{α:Type}{x:α}{P:Prop}(h:(ψ:Option α)=ξ x):P:=by cases h
set_option genInjectivity true in
inductive U where
 |cf|bl (b:Bool)|int (i:Int)|str (l:List Nat)|tup (us:List U)|loc (n:Nat)
 |sV (ns:List Int)|tab (kvs:List (List Nat×List Nat))
instance:Inhabited U:=#[.cf]
set_option genInjectivity true in
inductive SO where
 |lst (us:List U)|dZ (kvs:List (U×U))|ins (c:String) (fs:List (String×U))
 |qC (kvs:List (U×U))|uA (kvs:List (List Int×U))|xK (kvs:List ((Int×List Int)×U))
@[reducible]def Env:=List (Option U)
@[reducible]def bM:=List SO
@[reducible]def KU:=U->bM->Prop
@[reducible]def Spec:=List U->bM->KU->Prop
@[reducible]def cv:=String->Spec
inductive FN where|add|sub|mul|fdiv|mod|band|bor|shl|shr
inductive OP where|eq|ne|lt|le|gt|ge|isin|qo|Qu|FO|CM|T5
inductive Vi where|len|tuple|list|sum|all|any|int|dict|vv|FP|max
inductive Qv where|join|index|startswith|append|extend|get|nh|og|vals
mutual
inductive Ex where
 |var (i:Nat)|lit (u:U)
 |bin (o:FN) (a b:Ex)|neg (a:Ex)|not (a:Ex)|and (a b:Ex)|or (a b:Ex)
 |cmp (o:OP) (a b:Ex)|Hk (c:Tx) (a b:Ex)
 |call (f:String) (as:z7)|mk (c q:String) (as:z7)|df (c m q:String) (o:Ex) (as:z7)
 |blt (f:Vi) (as:z7)|j6 (m:Qv) (o:Ex) (as:z7)
 |fld (o:Ex) (f:String)|ix (o i:Ex)|sl (o:Ex) (lo hi:Ox)
 |tup (as:z7)|lst (as:z7)|dZ (ks vs:z7)
 |comp (pr:Bool) (e:Ex) (it:It) (c:Tx) (ci:List Nat)
 |Vj (a:Ex)|Hl (o k:Ex)
inductive z7 where|nil|cons (e:Ex) (es:z7)
inductive It where|val (e:Ex)|range (e:Ex)|enum (e:Ex)|rev (e:Ex)|keys (e:Ex)
inductive Ox where|no|e (a:Ex)
inductive Tx where|dk (e:Ex)|not (t:Tx)|and (a b:Tx)|or (a b:Tx)
end
set_option genCtorIdx false in
inductive Tg where|name (i:Nat)|pair (i j:Nat)
set_option genCtorIdx false in
mutual
inductive Sm where
 |set (i:Nat) (e:Ex)|ni (o:Ex) (f:String) (e:Ex)|ID (o i e:Ex)|og (o k e:Ex)
 |aug (i:Nat) (p:FN) (e:Ex)|CN (o:Ex) (f:String) (p:FN) (e:Ex)|FQ (o i:Ex) (p:FN) (e:Ex)
 |ex (e:Ex)|ret (e:Ex)|ifs (c:Tx) (a b:dG)|B1 (c:Tx) (b:dG)|j7 (t:Tg) (it:It) (b:dG)
 |T6 (b:dG)
inductive dG where|nil|cons (s:Sm) (ss:dG)
end
section
variable{α:Type}
abbrev opt(o:Option α)(Q:α->Prop):Prop:=match o with|some a=>Q a|none=>False
abbrev yQ(o:Option (Option U))(Q:U->Prop):Prop:=match o with|some (ξ u)=>Q u|_=>False
abbrev getL(o:Option SO)(Q:List U->Prop):Prop:=match o with|some (.lst us)=>Q us|_=>False
abbrev getD(o:Option SO)(Q:List (U×U)->Prop):Prop:=match o with|some (.dZ kvs)=>Q kvs|_=>False
abbrev qD(o:Option SO)(Q:String->List (String×U)->Prop):Prop:=match o with|some (.ins c fs)=>Q c fs|_=>False
abbrev IE(x:U)(Q:Bool->Prop):Prop:=match x with|.bl b=>Q b|_=>False
abbrev lK(x:U)(Q:Int->Prop):Prop:=match x with|.int i=>Q i|_=>False
abbrev sE(x:U)(Q:Nat->Prop):Prop:=match x with|.loc n=>Q n|_=>False
abbrev OQ(x:U)(Q:U->U->Prop):Prop:=match x with|.tup [a,b]=>Q a b|_=>False
@[simp] theorem bg{a:α}{Q:α->Prop}:opt (ξ a) Q=Q a:=rfl
@[simp] theorem Vk:opt ψ Q=False:=rfl
@[simp] theorem pH:yQ (ξ (ξ u)) Q=Q u:=rfl
@[simp] theorem aF{us:List U}{Q:List U->Prop}:getL (ξ (.lst us)) Q=Q us:=rfl
@[simp] theorem getD_some:getD (ξ (.dZ us)) Q=Q us:=rfl
@[simp] theorem b7:qD (ξ (.ins c fs)) Q=Q c fs:=rfl
@[simp] theorem IF:IE (.bl b) Q=Q b:=rfl
@[simp] theorem XW:lK (.int i) Q=Q i:=rfl
@[simp] theorem XX:sE (.loc n) Q=Q n:=rfl
@[simp] theorem MG:OQ (.tup [a,b]) Q=Q a b:=rfl
def iR:opt o Q↔∃a,o=ξ a/\Q a:=by cases o<;>simp[opt]
def AU:yQ o Q↔∃a,o=ξ (ξ a)/\Q a:=by
 rcases o with _|_|a<;>simp[yQ]
def cU:getL o Q↔∃a,o=ξ (.lst a)/\Q a:=
 #[λw=>by rcases o with _|a|a|a|a|a|a<;>first|exact#[_,rfl,w]|exact aZ w,by rintro⟨b,rfl,w⟩;exact w]
def AV:getD o Q↔∃a,o=ξ (.dZ a)/\Q a:=
 #[λw=>by rcases o with _|a|a|a|a|a|a<;>first|exact#[_,rfl,w]|exact aZ w,by rintro⟨b,rfl,w⟩;exact w]
def mM{o:Option SO}{Q:String->List (String×U)->Prop}:qD o Q↔∃c fs,o=ξ (.ins c fs)/\Q c fs:=
 #[λw=>by rcases o with _|a|a|a|a|a|a<;>first|exact#[_,_,rfl,w]|exact aZ w,by rintro⟨b,c,rfl,w⟩;exact w]
def uB:IE x Q↔∃b,x=.bl b/\Q b:=#[λw=>by cases x<;>first|exact#[_,rfl,w]|exact aZ w,by rintro⟨b,rfl,w⟩;exact w]
def fX:lK x Q↔∃b,x=.int b/\Q b:=#[λw=>by cases x<;>first|exact#[_,rfl,w]|exact aZ w,by rintro⟨b,rfl,w⟩;exact w]
def iy:sE x Q↔∃b,x=.loc b/\Q b:=#[λw=>by cases x<;>first|exact#[_,rfl,w]|exact aZ w,by rintro⟨b,rfl,w⟩;exact w]
def D6:OQ x Q↔∃a b,x=.tup [a,b]/\Q a b:=by
 refine#[λw=>?_,by rintro⟨a,b,rfl,w⟩;exact w];cases x<;>first|exact aZ w|skip
 rename_i us;rcases us with _|⟨a,_|⟨b,_|_⟩⟩<;>first|exact aZ w|exact#[_,_,rfl,w]
end
abbrev jm(o:Option SO)(Q:List (U×U)->Prop):Prop:=match o with|some (.dZ kvs)=>Q kvs|some (.qC kvs)=>Q kvs|_=>False
def kY:jm (ξ (.dZ us)) Q=Q us:=rfl
def i7:jm o Q↔∃a,(o=ξ (.dZ a)\/o=ξ (.qC a))/\Q a:=
 #[λw=>by rcases o with _|a|a|a|a|a|a<;>first|exact#[_,.inl rfl,w]|exact#[_,.inr rfl,w]|exact aZ w,by rintro⟨b,rfl|rfl,w⟩<;>exact w]
abbrev nj:U->Bool
 |.cf=>ζ|.int _=>ζ|.str _=>ζ
 |_=>ϑ
abbrev T7:U->U->Bool
 |.cf,.cf=>ζ
 |.int a,.int b=>a==b
 |.str a,.str b=>a==b
 |_,_=>ϑ
abbrev uC(k:U):List (U×U)->Option U
 |[]=>ψ
 | (a,v)::r=>if T7 a k=ζ then ξ v else uC k r
mutual
noncomputable def CO:U->Bool
 |.cf=>ζ|.bl _=>ζ|.int _=>ζ|.str _=>ζ
 |.tup us=>wM us
 |_=>ϑ
noncomputable def wM:List U->Bool
 |[]=>ζ
 |u::us=>CO u&&wM us
end
mutual
noncomputable def dep:U->Nat
 |.tup us=>AW us+1
 |_=>0
noncomputable def AW:List U->Nat
 |[]=>0
 |u::us=>max (dep u) (AW us)
end
mutual
noncomputable def Hm:U->U->Bool
 |.cf,.cf=>ζ
 |.bl a,.bl b=>a==b
 |.bl a,.int b=>(if a then 1 else 0)== b
 |.int a,.bl b=>a==(if b then 1 else 0)
 |.int a,.int b=>a==b
 |.str a,.str b=>a==b
 |.tup as,.tup bs=>FR as bs
 |_,_=>ϑ
noncomputable def FR:List U->List U->Bool
 |[],[]=>ζ
 |x::xs,y::ys=>Hm x y&&FR xs ys
 |_,_=>ϑ
end
abbrev IG:U->U->Bool
 |.tup _,_=>ζ
 |.cf,.cf=>ζ|.cf,.int _=>ζ|.cf,.bl _=>ζ|.cf,.str _=>ζ
 |.int _,.cf=>ζ|.int _,.int _=>ζ|.int _,.str _=>ζ
 |.bl _,.cf=>ζ|.bl _,.bl _=>ζ|.bl _,.str _=>ζ
 |.str _,.cf=>ζ|.str _,.int _=>ζ|.str _,.bl _=>ζ|.str _,.str _=>ζ
 |_,_=>ϑ
abbrev wu(x y:U)(Q:Bool->Prop):Prop:=(IG x y=ζ/\CO x=ζ/\CO y=ζ/\dep x<=100)/\Q (Hm x y)
abbrev II:U->Bool
 |.tup _=>ϑ
 |_=>ζ
abbrev AX:U->U->Bool
 |.tup _,.tup _=>ζ
 |.tup _,_=>ϑ
 |_,_=>ζ
abbrev flat:U->Bool
 |.cf=>ζ|.bl _=>ζ|.int _=>ζ|.str _=>ζ
 |_=>ϑ
abbrev qE(x:U)(us:List U)(Q:Bool->Prop):Prop:=(flat x=ζ/\us.all flat=ζ)/\Q (us.any λy=>Hm y x)
abbrev i4:List Nat->List Nat->Bool
 |a,[]=>a.isEmpty
 |a,b::bs=>a.isPrefixOf (b::bs)||i4 a bs
abbrev oh(S:bM):U->Option Nat
 |.str l=>ξ l.length
 |.tup us=>ξ us.length
 |.sV ns=>ξ ns.length
 |.loc n=>match S[n]? with
  |some (.lst us)=>ξ us.length
  |some (.dZ kvs)=>ξ kvs.length
  |some (.xK kvs)=>ξ kvs.length
  |_=>ψ
 |_=>ψ
abbrev vw(S:bM):U->Option Bool
 |.cf=>ξ ϑ
 |.bl b=>ξ b
 |.int i=>ξ (i !=0)
 |.str _=>ψ
 |.loc n=>match S[n]? with
  |some (.xK _)=>ψ
  |_=>(oh S (.loc n)).map λn=>n !=0
 |u=>(oh S u).map λn=>n !=0
abbrev IJ(n:Nat)(i:Int):Option Nat:=if 0<=i then(if i<n then ξ i.toNat else ψ) else if -(n:Int)<=i then ξ (i+n).toNat else ψ
abbrev sW{α:Type}(xs:List α)(i:Int):Option α:=(IJ xs.length i).bind λj=>xs[j]?
abbrev rJ{α:Type}(xs:List α)(lo hi:Option Int):List α:=(xs.drop (min (lo.getD 0).toNat xs.length)).take (min (hi.getD xs.length).toNat xs.length-min (lo.getD 0).toNat xs.length)
abbrev OR(x:U)(Q:List Nat->Prop):Prop:=match x with|.str a=>Q a|_=>False
abbrev XY(x:U)(Q:Prop):Prop:=match x with|.cf=>Q|_=>False
abbrev asU(x:U)(Q:List U->Prop):Prop:=match x with|.tup a=>Q a|_=>False
def pI:OR x Q↔∃b,x=.str b/\Q b:=#[λw=>by cases x<;>first|exact#[_,rfl,w]|exact aZ w,by rintro⟨b,rfl,w⟩;exact w]
def MH:asU x Q↔∃b,x=.tup b/\Q b:=#[λw=>by cases x<;>first|exact#[_,rfl,w]|exact aZ w,by rintro⟨b,rfl,w⟩;exact w]
def kr{x y:U}{P:Int->Int->Prop}(w:lK x λi=>lK y (P i)):∃i j,x=.int i/\y=.int j/\P i j:=by
 let#[i,e,w]:=fX.mp w;let#[j,e',w]:=fX.mp w;exact#[i,j,e,e',w]
abbrev kG(o:FN)(x y:U)(S:bM)(Q:KU):Prop:=
 match o with
 |.add=>match x with
  |.int i=>lK y λj=>Q (.int (i+j)) S
  |.str a=>OR y λb=>a.length+b.length<=1000000/\Q (.str (a++b)) S
  |.tup a=>asU y λb=>(a≠[]/\a.length+b.length<=1000000)/\Q (.tup (a++b)) S
  |.loc m=>sE y λn=>getL S[m]? λa=>getL S[n]? λb=>a.length+b.length<=1000000/\Q (.loc S.length) (S++[.lst (a++b)])
  |_=>False
 |.sub=>lK x λi=>lK y λj=>Q (.int (i-j)) S
 |.mul=>lK x λi=>lK y λj=>((-(2^64)<i/\i<2^64)\/(-(2^64)<j/\j<2^64))/\Q (.int (i*j)) S
 |.fdiv=>lK x λi=>lK y λj=>(0<j/\j<1073741824)/\Q (.int (i/j)) S
 |.mod=>lK x λi=>lK y λj=>0<j/\Q (.int (i%j)) S
 |.band=>lK x λi=>lK y λj=>(0<=i/\0<=j)/\Q (.int ((i.toNat&&&j.toNat:Nat):Int)) S
 |.bor=>lK x λi=>lK y λj=>(0<=i/\0<=j)/\Q (.int ((i.toNat|||j.toNat:Nat):Int)) S
 |.shl=>lK x λi=>lK y λj=>(0<=i/\i<1000/\0<=j/\j<=1000)/\Q (.int (i*2^j.toNat)) S
 |.shr=>lK x λi=>lK y λj=>(0<=i/\0<=j)/\Q (.int (i/2^j.toNat)) S
abbrev yR(o:FN)(x y:U)(S:bM)(Q:KU):Prop:=
 match x with
 |.int i=>kG o (.int i) y S Q
 |.str a=>kG o (.str a) y S Q
 |_=>False
abbrev xM(x:U):Bool:=match x with|.cf=>ζ|_=>ϑ
abbrev XZ(x y:U)(Q:Bool->Prop):Prop:=AX x y=ζ/\wu x y λb=>Q !b
abbrev Vl(a b:List (List Nat×Int)):Bool:=a.length==b.length&&a.all λp=>b.lookup p.1==ξ p.2
abbrev X0(a b:List (List (List Nat×Int))):Bool:=a.length==b.length&&(bC a.length).all λj=>Vl (a.getD j []) (b.getD j [])
abbrev MI(S:bM)(ls:List Nat)(ps:List (List (List Nat×Int))):Prop:=ps.length=ls.length/\∀(i:Nat)d p,ls[i]?=ξ d->ps[i]?=ξ p->S[d]?=ξ (.dZ (p.map λq=>(.str q.1,.int q.2)))
abbrev iP(o:OP)(x y:U)(S:bM)(Q:Bool->Prop):Prop:=
 match o with
 |.eq=>wu x y Q
 |.ne=>XZ x y Q
 |.lt=>lK x λi=>lK y λj=>Q (decide (i<j))
 |.le=>lK x λi=>lK y λj=>Q (decide (i<=j))
 |.gt=>lK x λi=>lK y λj=>Q (decide (j<i))
 |.ge=>lK x λi=>lK y λj=>Q (decide (j<=i))
 |.isin=>match y with
  |.str b=>OR x λa=>Q (i4 a b)
  |.tab kvs=>OR x λa=>Q (kvs.lookup a).isSome
  |.tup us=>qE x us Q
  |.loc n=>getL S[n]? λus=>qE x us Q
  |_=>False
 |.qo=>match y with
  |.str b=>OR x λa=>Q !(i4 a b)
  |.tup us=>qE x us λb=>Q !b
  |.loc n=>getL S[n]? λus=>qE x us λb=>Q !b
  |_=>False
 |.Qu=>XY y (Q (xM x))
 |.FO=>XY y (Q !(xM x))
 |.T5=>∃n m ls ls' ps qs,x=.loc n/\y=.loc m/\S[n]?=ξ (.lst (ls.map .loc))/\S[m]?=ξ (.lst (ls'.map .loc))/\MI S ls ps/\MI S ls' qs/\Q (X0 ps qs)
 |.CM=>sE y λn=>jm S[n]? λkvs=>nj x=ζ/\Q (uC x kvs).isNone
abbrev CP(x y:U)(S:bM)(Q:U->Prop):Prop:=
 match x with
 |.str l=>lK y λi=>l.length<=1000000/\opt (sW l i) λc=>Q (.str [c])
 |.tup us=>lK y λi=>us.length<=1000000/\opt (sW us i) Q
 |.sV ns=>lK y λi=>ns.length<=1000000/\opt (sW ns i) λn=>Q (.int n)
 |.loc n=>lK y λi=>getL S[n]? λus=>opt (sW us i) Q
 |.tab kvs=>OR y λk=>opt (kvs.lookup k) λv=>Q (.str v)
 |_=>False
abbrev MJ(x y:U)(S:bM)(Q:U->Prop):Prop:=sE x λn=>jm S[n]? λkvs=>nj y=ζ/\opt (uC y kvs) Q
abbrev T8(x:U)(lo hi:Option Int)(S:bM)(Q:KU):Prop:=
 ((∀i,lo=ξ i->0<=i)/\∀i,hi=ξ i->0<=i)/\match x with
 |.str l=>l.length<=1000000/\Q (.str (rJ l lo hi)) S
 |.loc n=>getL S[n]? λus=>Q (.loc S.length) (S++[.lst (rJ us lo hi)])
 |_=>False
abbrev lR(sep:List Nat):List (List Nat)->List Nat
 |[]=>[]
 |[x]=>x
 |x::r=>x++sep++lR sep r
abbrev tZ(n:Nat):Nat:=if n=0 then 0 else n.log2+1
abbrev qF(f:Vi)(us:List U)(S:bM)(Q:KU):Prop:=
 match f,us with
 |.len,[x]=>opt (oh S x) λn=>n<=1000000/\Q (.int n) S
 |.tuple,[.loc n]=>getL S[n]? λus=>Q (.tup us) S
 |.list,[.loc n]=>getL S[n]? λus=>Q (.loc S.length) (S++[.lst us])
 |.FP,[.loc n]=>getL S[n]? λus=>Q (.loc S.length) (S++[.lst us.reverse])
 |.list,[.tup us]=>us.length<=1000000/\Q (.loc S.length) (S++[.lst us])
 |.all,[.loc n]=>∃bs:List Bool,S[n]?=ξ (.lst (bs.map .bl))/\Q (.bl (bs.all id)) S
 |.any,[.loc n]=>∃bs:List Bool,S[n]?=ξ (.lst (bs.map .bl))/\Q (.bl (bs.any id)) S
 |.sum,[.loc n]=>∃is:List Int,S[n]?=ξ (.lst (is.map .int))/\Q (.int is.sum) S
 |.dict,[.loc n]=>∃ps:List (List Nat×U),S[n]?=ξ (.lst (ps.map λp=>.tup [.str p.1,p.2]))/\(ps.map (·.1)).Nodup/\Q (.loc S.length) (S++[.dZ (ps.map λp=>(.str p.1,p.2))])
 |.max,[.loc n]=>∃(i:Int)(is:List Int),S[n]?=ξ (.lst ((i::is).map .int))/\∀m∈i::is,(∀j∈i::is,j<=m)->Q (.int m) S
 |.vv,[.loc n]=>∃t ts,S[n]?=ξ (.lst ((t::ts).map .str))/\(∀u∈t::ts,u.length<=1000000)/\Q (.str (ts.foldl (λb x=>if x.length<b.length then x else b) t)) S
 |_,_=>False
abbrev sdW{κ:Type}[BEq κ](kvs:List (κ×U))(k:κ)(f:List (κ×U)->SO)(S:bM)(n:Nat)(d:U)(Q:KU):Prop:=
 kvs.length<1000000/\match kvs.lookup k with
  |some v=>Q v S
  |none=>Q d (S.set n (f (kvs++[(k,d)])))
abbrev qp(S:bM)(n:Nat)(k d:U)(Q:KU):Prop:=
 match S[n]? with
 |some (.dZ kvs)=>(nj k=ζ/\kvs.length<1000000)/\match uC k kvs with
  |some v=>Q v S
  |none=>Q d (S.set n (.dZ (kvs++[(k,d)])))
 |some (.uA kvs)=>∃ks,k=.tup (ks.map .int)/\sdW kvs ks .uA S n d Q
 |some (.xK kvs)=>∃b ks,k=.tup [.int b,.tup (ks.map .int)]/\sdW kvs (b,ks) .xK S n d Q
 |_=>False
abbrev rK(m:Qv)(x:U)(us:List U)(S:bM)(Q:KU):Prop:=
 match m,x,us with
 |.join,.str sep,[.loc n]=>∃ts:List (List Nat),S[n]?=ξ (.lst (ts.map .str))/\(ts.map cw).sum+ts.length*sep.length<=1000000/\Q (.str (lR sep ts)) S
 |.index,.str l,[.str k]=>∃c,k=[c]/\c∈l/\Q (.int (l.idxOf c:Nat)) S
 |.startswith,.str l,[.str k]=>Q (.bl (k.isPrefixOf l)) S
 |.nh,.int i,[]=>0<=i/\Q (.int (tZ i.toNat:Nat)) S
 |.get,.loc n,[.str k,d]=>getD S[n]? λkvs=>∃ps:List (List Nat×U),kvs=(ps.map λp=>(U.str p.1,p.2))/\Q ((ps.lookup k).getD d) S
 |.get,.loc n,[k]=>jm S[n]? λkvs=>nj k=ζ/\Q ((uC k kvs).getD .cf) S
 |.og,.loc n,[k,d]=>qp S n k d Q
 |.vals,.loc n,[]=>match S[n]? with
  |some (.uA kvs)=>Q (.loc S.length) (S++[.lst (kvs.map (·.2))])
  |_=>False
 |.append,.loc n,[u]=>getL S[n]? λus=>us.length<1000000/\Q .cf (S.set n (.lst (us++[u])))
 |.extend,.loc n,[.loc m]=>getL S[n]? λus=>getL S[m]? λws=>us.length+ws.length<=1000000/\Q .cf (S.set n (.lst (us++ws)))
 |_,_,_=>False
abbrev uk(m:Qv)(x:U)(S:bM):Prop:=
 match m,x with
 |.join,.str _=>True|.index,.str _=>True|.startswith,.str _=>True
 |.append,.loc n=>getL S[n]? λ_=>True
 |.extend,.loc n=>getL S[n]? λ_=>True
 |.get,.loc n=>jm S[n]? λ_=>True
 |.og,.loc n=>match S[n]? with|some (.dZ _)=>True|some (.uA _)=>True|some (.xK _)=>True|_=>False
 |.vals,.loc n=>match S[n]? with|some (.uA _)=>True|_=>False
 |.nh,.int _=>True
 |_,_=>False
abbrev iz(f:String)(v:U):List (String×U)->List (String×U)
 |[]=>[(f,v)]
 | (g,x)::r=>if g=f then(g,v)::r else(g,x)::iz f v r
abbrev oX(x:U)(f:String)(S:bM)(Q:U->Prop):Prop:=
 match x with
 |.loc n=>qD S[n]? λ_ fs=>opt (fs.lookup f) Q
 |_=>False
abbrev wN(g:bM->Prop)(turn:U->Env->bM->(Env->bM->Prop)->Prop)(fin:Env->bM->Prop):List U->Env->bM->Prop
 |[],env,S=>g S/\fin env S
 |u::us,env,S=>g S/\turn u env S (wN g turn fin us)
abbrev mN(g:bM->Prop)(c:U->bM->(Bool->bM->Prop)->Prop)(e:U->bM->KU->Prop)(Q:List U->bM->Prop):List U->List U->bM->Prop
 |[],acc,S=>g S/\acc.length<1000000/\Q acc S
 |u::us,acc,S=>g S/\acc.length<1000000/\c u S λb S1=>if b=ζ then e u S1 λv S2=>mN g c e Q us (acc++[v]) S2 else mN g c e Q us acc S1
abbrev yS(c:Env->bM->(Bool->bM->Prop)->Prop)(b:Env->bM->(Env->bM->Prop)->Prop)(fin:Env->bM->Prop):Nat->Env->bM->Prop
 |0,_,_=>False
 |n+1,env,S=>c env S λt S1=>if t=ζ then b env S1 (yS c b fin n) else fin env S1
abbrev IK(x:U)(S:bM)(R:List U->(bM->Prop)->Prop):Prop:=
 match x with
 |.str l=>R (l.map λc=>.str [c]) (λ_=>True)
 |.tup us=>us.length<=1000000/\R us (λ_=>True)
 |.loc n=>getL S[n]? λus=>R us (λS'=>S'[n]?=ξ (.lst us))
 |_=>False
abbrev mO(env:Env)(ci:List Nat):Env:=ci.map λj=>(env[j]?).join
abbrev qr(pr:Bool)(u:U)(caps:Env)(k:Env->Prop):Prop:=
 match pr with
 |false=>k (ξ u::caps)
 |true=>OQ u λa b=>k (ξ a::ξ b::caps)
mutual
noncomputable def WE(Γ:cv):Ex->Env->bM->KU->Prop
 |.var i,env,S,Q=>yQ env[i]? λu=>Q u S
 |.lit u,_,S,Q=>Q u S
 |.bin o a b,env,S,Q=>WE Γ a env S (λx S1=>WE Γ b env S1 (λy S2=>kG o x y S2 Q))
 |.neg a,env,S,Q=>WE Γ a env S (λx S1=>lK x λi=>Q (.int (-i)) S1)
 |.not a,env,S,Q=>WE Γ a env S (λx S1=>IE x λb=>Q (.bl !b) S1)
 |.and a b,env,S,Q=>WE Γ a env S (λx S1=>IE x λc=>if c=ζ then WE Γ b env S1 Q else Q (.bl ϑ) S1)
 |.or a b,env,S,Q=>WE Γ a env S (λx S1=>IE x λc=>if c=ζ then Q (.bl ζ) S1 else WE Γ b env S1 Q)
 |.cmp o a b,env,S,Q=>WE Γ a env S (λx S1=>WE Γ b env S1 (λy S2=>iP o x y S2 λr=>Q (.bl r) S2))
 |.Hk c a b,env,S,Q=>WT Γ c env S (λt S1=>if t=ζ then WE Γ a env S1 Q else WE Γ b env S1 Q)
 |.call f as,env,S,Q=>wO Γ as env S (λus S1=>Γ f us S1 Q)
 |.mk c q as,env,S,Q=>wO Γ as env S (λus S1=>Γ q (.loc S1.length::us) (S1++[.ins c []]) (λv S2=>v=.cf/\Q (.loc S1.length) S2))
 |.df c m q o as,env,S,Q=>WE Γ o env S (λx S1=>sE x λn=>qD S1[n]? λc' fs=>(c'=c/\fs.lookup m=ψ)/\wO Γ as env S1 (λus S2=>Γ q (x::us) S2 Q))
 |.blt f as,env,S,Q=>wO Γ as env S (λus S1=>qF f us S1 Q)
 |.j6 m o as,env,S,Q=>WE Γ o env S (λx S1=>uk m x S1/\wO Γ as env S1 (λus S2=>rK m x us S2 Q))
 |.fld o f,env,S,Q=>WE Γ o env S (λx S1=>oX x f S1 λv=>Q v S1)
 |.ix o i,env,S,Q=>WE Γ o env S (λx S1=>WE Γ i env S1 (λy S2=>CP x y S2 λv=>Q v S2))
 |.sl o lo hi,env,S,Q=>WE Γ o env S (λx S1=>WO Γ lo env S1 (λl S2=>WO Γ hi env S2 (λh S3=>T8 x l h S3 Q)))
 |.tup as,env,S,Q=>wO Γ as env S (λus S1=>us.length<=1000000/\Q (.tup us) S1)
 |.lst as,env,S,Q=>wO Γ as env S (λus S1=>us.length<=1000000/\Q (.loc S1.length) (S1++[.lst us]))
 |.dZ ks vs,env,S,Q=>wO Γ ks env S (λus S1=>wO Γ vs env S1 (λws S2=>us.length<=100/\match us with
   |[]=>Q (.loc S2.length) (S2++[.dZ []])\/Q (.loc S2.length) (S2++[.uA []])\/Q (.loc S2.length) (S2++[.xK []])
   |[k]=>nj k=ζ/\∃v,ws=[v]/\Q (.loc S2.length) (S2++[.dZ [(k,v)]])
   |_=>False))
 |.comp pr e it c ci,env,S,Q=>WI Γ it env S (λus g S1=>mN g (λu S2 k=>qr pr u (mO env ci) λen=>WT Γ c en S2 k)
   (λu S2 k=>qr pr u (mO env ci) λen=>WE Γ e en S2 k) (λacc S3=>Q (.loc S3.length) (S3++[.lst acc])) us [] S1)
 |.Vj a,env,S,Q=>WE Γ a env S (λx S1=>IE x λ_=>Q (.bl ζ) S1)
 |.Hl o k,env,S,Q=>WE Γ o env S (λx S1=>WE Γ k env S1 (λy S2=>MJ x y S2 λv=>Q v S2))
noncomputable def wO(Γ:cv):z7->Env->bM->(List U->bM->Prop)->Prop
 |.nil,_,S,Q=>Q [] S
 |.cons e es,env,S,Q=>WE Γ e env S (λx S1=>wO Γ es env S1 (λxs S2=>Q (x::xs) S2))
noncomputable def WO(Γ:cv):Ox->Env->bM->(Option Int->bM->Prop)->Prop
 |.no,_,S,Q=>Q ψ S
 |.e a,env,S,Q=>WE Γ a env S (λx S1=>lK x λj=>Q (ξ j) S1)
noncomputable def WI(Γ:cv):It->Env->bM->(List U->(bM->Prop)->bM->Prop)->Prop
 |.val e,env,S,R=>WE Γ e env S (λx S1=>IK x S1 λus g=>R us g S1)
 |.range e,env,S,R=>WE Γ e env S (λx S1=>lK x λn=>n<=1000000/\-(1000000:Int)<=n/\R ((bC n.toNat).map λk=>.int (k:Nat)) (λ_=>True) S1)
 |.enum e,env,S,R=>WE Γ e env S (λx S1=>sE x λn=>getL S1[n]? λus=>R (us.mapIdx λi u=>.tup [.int (i:Nat),u]) (λS'=>S'[n]?=ξ (.lst us)) S1)
 |.keys e,env,S,R=>WE Γ e env S (λx S1=>sE x λn=>jm S1[n]? λkvs=>R (kvs.map (·.1)) (λS'=>S'[n]?=ξ (.qC kvs)) (S1.set n (.qC kvs)))
 |.rev e,env,S,R=>WE Γ e env S (λx S1=>sE x λn=>getL S1[n]? λus=>R us.reverse (λS'=>S'[n]?=ξ (.lst us)) S1)
noncomputable def WT(Γ:cv):Tx->Env->bM->(Bool->bM->Prop)->Prop
 |.dk e,env,S,Q=>WE Γ e env S (λx S1=>opt (vw S1 x) λb=>Q b S1)
 |.not t,env,S,Q=>WT Γ t env S (λb S1=>Q (!b) S1)
 |.and a b,env,S,Q=>WT Γ a env S (λc S1=>if c=ζ then WT Γ b env S1 Q else Q ϑ S1)
 |.or a b,env,S,Q=>WT Γ a env S (λc S1=>if c=ζ then Q ζ S1 else WT Γ b env S1 Q)
end
structure Ends where
 nx:Env->bM->Prop
 rt:KU
mutual
noncomputable def WS(Γ:cv):Sm->Ends->Env->bM->Prop
 |.set i e,D,env,S=>WE Γ e env S (λu S1=>D.nx (env.set i (ξ u)) S1)
 |.ni o f e,D,env,S=>WE Γ e env S (λu S1=>WE Γ o env S1 (λx S2=>sE x λn=>qD S2[n]? λc fs=>fs.length<100/\D.nx env (S2.set n (.ins c (iz f u fs)))))
 |.ID o i e,D,env,S=>WE Γ e env S (λu S1=>WE Γ o env S1 (λx S2=>WE Γ i env S2 (λy S3=>sE x λn=>lK y λk=>getL S3[n]? λus=>opt (IJ us.length k) λj=>D.nx env (S3.set n (.lst (us.set j u))))))
 |.og o k e,D,env,S=>WE Γ e env S (λu S1=>WE Γ o env S1 (λx S2=>WE Γ k env S2 (λy S3=>sE x λn=>getD S3[n]? λkvs=>(nj y=ζ/\uC y kvs=ψ/\kvs.length<1000000)/\D.nx env (S3.set n (.dZ (kvs++[(y,u)]))))))
 |.aug i p e,D,env,S=>yQ env[i]? λx=>WE Γ e env S (λy S1=>yR p x y S1 λz S2=>D.nx (env.set i (ξ z)) S2)
 |.CN o f p e,D,env,S=>WE Γ o env S (λx S1=>sE x λn=>qD S1[n]? λc fs=>opt (fs.lookup f) λv=>
   WE Γ e env S1 (λy S2=>yR p v y S2 λz S3=>qD S3[n]? λc' fs'=>c'=c/\fs'.length<100/\D.nx env (S3.set n (.ins c (iz f z fs')))))
 |.FQ o i p e,D,env,S=>WE Γ o env S (λx S1=>WE Γ i env S1 (λy S2=>sE x λn=>lK y λk=>getL S2[n]? λus=>0<=k/\opt (us[k.toNat]?) λv=>
   WE Γ e env S2 (λz S3=>yR p v z S3 λr S4=>getL S4[n]? λus'=>k.toNat<us'.length/\D.nx env (S4.set n (.lst (us'.set k.toNat r))))))
 |.ex e,D,env,S=>WE Γ e env S (λ_ S1=>D.nx env S1)
 |.ret e,D,env,S=>WE Γ e env S D.rt
 |.ifs c a b,D,env,S=>WT Γ c env S (λt S1=>if t=ζ then um Γ a D env S1 else um Γ b D env S1)
 |.B1 c b,D,env,S=>∃n,yS (λen S1 k=>WT Γ c en S1 k) (λen S1 k=>um Γ b {D with nx:=k} en S1) D.nx n env S
 |.j7 t it b,D,env,S=>WI Γ it env S (λus g S1=>wN g (λu en S2 k=>match t with
   |.name i=>um Γ b {D with nx:=k} (en.set i (ξ u)) S2
   |.pair i j=>OQ u λx y=>um Γ b {D with nx:=k} ((en.set i (ξ x)).set j (ξ y)) S2) D.nx us env S1)
 |.T6 b,D,env,S=>um Γ b D env S
noncomputable def um(Γ:cv):dG->Ends->Env->bM->Prop
 |.nil,D,env,S=>D.nx env S
 |.cons s ss,D,env,S=>WS Γ s {D with nx:=λen S1=>um Γ ss D en S1} env S
end
end PL
namespace L2
open PySem PySem.Spec PyProof.Rows PySem.W
open Builtin Builtin.Str
def D7:∀{b:List Nat},PL.i4 a b=ζ↔∃i,i+a.length<=b.length/\(b.drop i).take a.length=a
 |[]=>by
  unfold PL.i4;rw[List.isEmpty_iff]
  constructor
  .rintro rfl;exact#[0,ar _,rfl]
  .rintro⟨i,h,_⟩
   erw[gx (by have h:i+a.length<=0:=h;omega)]
 |x::b=>by
  unfold PL.i4;rw[bq,D7 (b:=b),xn]
  constructor
  .rintro(h|⟨i,h1,h2⟩)
   .refine#[0,by have:=h.length_le;omega,?_]
    rw[jC];exact(nQ.mp h).symm
   .exact#[i+1,(·),%[Fh|h2]]
  .rintro⟨i,h1,h2⟩
   cases i with
   |zero=>rw[jC] at h2;erw[.inl (nQ.mpr h2.symm)]
   |succ i=>rw[Fh] at h2;exact .inr #[i,by simp at h1;omega,h2]
def AY(a b:List Nat):(!(occurrences (tx b) (tx a) 0 (tx b).length 1).isEmpty)=PL.i4 a b:=by
 rw[cy,StrLaws.found_iff,D7]
 rwa[exists_congr λi=>?_]
 rw[dN,dN]
 rwa[and_congr_right λh=>?_]
 rw[StrLaws.subAt_eq,beq_iff_eq]
 simp[dN]
section
variable{X:Cx}
def FT:iw X (bH .In) (λx y H Q=>∃a b,x=.str (tx a)/\y=.str (tx b)/\Q (.bl (PL.i4 a b)) H):=by
 x_go;let#[a,b,rfl,rfl,q]:=h;rwa[Fx pZ s σ H _ _ v u Q I rx ry #[tx a,tx b,rfl,rfl,?_]];rw[AY]
 erw[q]
def yT:iw X (bH .NotIn) (λx y H Q=>∃a b,x=.str (tx a)/\y=.str (tx b)/\Q (.bl (!PL.i4 a b)) H):=by
 x_go;let#[a,b,rfl,rfl,q]:=h;rwa[yJ pZ s σ H _ _ v u Q I rx ry #[tx a,tx b,rfl,rfl,?_]];rw[AY]
 erw[q]
def xN:Cw X "str.startswith" (λx xs H Q=>∃a b,x=.str (tx a)/\xs=[.str (tx b)]/\Q (.bl (b.isPrefixOf a)) H):=by
 intro pZ s σ H x xs v us Q I rx rs h;let#[a,b,rfl,rfl,q]:=h;let#[t,rfl]:=rx;let#[u,rfl,t',rfl]:=vals1 rs;rwa[SC.startswith #[.bl _,H,I,?_,q]];show iq (Txt.startswith (tx a) (tx b))=iq (b.isPrefixOf a)
 congr 1
 unfold Txt.startswith;rw[cy,aj,decide_eq_true_eq,StrLaws.subAt_eq,beq_iff_eq,xn,nQ,dN,dN]
 dsimp[jC,dN,lI];constructor
 .rintro⟨_,h⟩;erw[h.symm]
 .intro h
  refine#[?_,h.symm];have:=congrArg cw h;simp at this;omega
def vx:∀{bs:List Bool}{us:List Value},Vals (bs.map V.bl) us->us=bs.map iq
 |[],_,.nil=>rfl
 |b::bs,_,.cons r h=>by
  cases r;rw[vx h];rfl
def CQ(hc:X.calm=ζ):iH X (.builtin "all") (λxs H Q=>∃p,∃bs:List Bool,xs=[.ref p]/\gX X.K H p (bs.map V.bl)/\Q (.bl (bs.all id)) H):=by
 k_go;let#[p,bs,rfl,hl,q]:=h;let#[u,rfl,ru]:=vals1 r;cases ru;let#[its,r,pl,_]:=I.list hl;have hl:=pl.isList;have hits:=vx r;have hlt:p<s.heap.objs.size:=by let#[_,e,_]:=hl;erw[aO e]
 refine call_all_walk (km hl ?_);refine#[s.heap.objs.size,[s.heap.objs.size,p],[s.heap.objs.size],its.toArray.size,_,_,λi=>(bs[i]?).getD ζ,rfl,Fi (A:=X.A.in1) (I.ok.hd hc) _ p (aV hlt) its.toArray,
  #[#[_,aX _ rfl,rfl,rfl],hl.push _],λi v s' Q' E' hP hQ=>?_,λh' tk hk=>?_]
 .have hP:its[i]?=ξ v:=by simpa using hP
  rw[hits,aB] at hP;cases e:bs[i]? with
  |none=>rw[e] at hP;cases hP
  |some b=>
   rw[e] at hP;have hQ:Q' ((bs[i]?).getD ζ) s':=hQ;rw[e] at hQ;cases hP;erw[cP hQ]
 .have e:((bC its.toArray.size).all λi=>(bs[i]?).getD ζ)=bs.all id:=by
   rw[aD,hits,ae];erw[LSm.range_all bs]
  rw[e]
  exact#[.bl _,H,I.kept (Aj hk),rfl,q]
def D8:∀{is:List Int}{us:List Value},Vals (is.map V.int) us->∃ps:List (Int×Tok),us=ps.map (λp=>lD p.1 p.2)/\ps.map (·.1)=is
 |[],_,.nil=>#[[],rfl,rfl]
 |i::is,_,.cons (b:=u) r h=>by
  let#[t,e]:=(show ∃t,u=lD i t from r)
  subst e;let#[ps,e1,e2]:=D8 h;exact#[(i,t)::ps,by rw[e1];rfl,by rw[aw,e2]]
def CS(hc:X.calm=ζ):iH X (.builtin "sum") (λxs H Q=>∃p,∃is:List Int,xs=[.ref p]/\gX X.K H p (is.map V.int)/\Q (.int is.sum) H):=by
 k_go;let#[p,is,rfl,hl,q]:=h;let#[u,rfl,ru]:=vals1 r;cases ru;let#[its,r,pl,_]:=I.list hl;let#[ps,e1,e2]:=D8 r;have hl:s.heap.IsList p (intItems ps.toArray):=by
  have:=pl.isList;rw[e1] at this;simpa[intItems] using this
 rwa[sum_intListG (I.ok.hd hc) hl λh' tk t' hk=>#[.int is.sum,H,I.kept hk,#[t',?_],q]]
 rw[preSum_eq,eI (#v[])]
 simp[e2]
def Qw(hu:X.A.units+200<d6):iw X (bH .NotEq) (λx y H Q=>∃ds ds',nV X.K H x (.tup ds)/\nV X.K H y (.tup ds')/\Dv.kq ds<=100/\Q (.bl (!m9 ds ds')) H):=by
 intro pZ s σ H x y u v Q I rx ry h;let#[ds,ds',hx,hy,hz,q]:=h;unfold nV at hx hy;let#[a,vs,rfl,hq,hd]:=hx;let#[a',vs',rfl,hq',hd']:=hy;cases rx;cases ry;let#[its,r1,p,_]:=I.tuple hq;let#[its',r2,p',_]:=I.tuple hq';have l1:=hd.len;have l2:=hd'.len;have m1:=r1.length;have m2:=r2.length;refine SeqAt.RcNeAt.tuples (e:=λj=>match ds[j]?,ds'[j]? with|some a,ξ b=>BZ a b|_,_=>ζ) p p' ∅ (λj k1 k2=>?_) _ _ _ _ #[.bl _,H,I,?_,q]
 .rw[aD] at k1 k2
  have e1:ds[j]?=ξ (ds[j]'∅):=ab _;have e2:ds'[j]?=ξ (ds'[j]'∅):=ab _;have f1:vs[j]?=ξ (vs[j]'∅):=ab _;have f2:vs'[j]?=ξ (vs'[j]'∅):=ab _;let#[w1,g1,q1]:=r1.get f1;let#[w2,g2,q2]:=r2.get f2;have a1:its.toArray[j]=w1:=by
   let#[_,z]:=ag.mp g1;simpa using z
  have a2:its'.toArray[j]=w2:=by
   let#[_,z]:=ag.mp g2;simpa using z
  rw[a1,a2,e1,e2]
  erw[IC I 100 (aH (pG e1) hz) (by show X.A.units+1+100<d6;omega) (hd.get f1 e1) (hd'.get f2 e2) q1 q2]
 .show iq _=iq _
  congr 2
  rw[aD,aD,<-m1,<-m2,l1,l2]
  rwa[ng ds ds' _ λi a b h1 h2=>?_]
  rw[h1,h2]
def IL:iw X (bH .In) (λx y H Q=>∃a k r,x=.str k/\y=.ref a/\(∃es n,X.K.lookup a=ξ #[.type "dict",ψ,.dict es n,#[]]/\BU X.w.params es.toList)/\(a==cg)=ϑ/\nsIn X.K a k=ξ r/\Q (.bl r.isSome) H):=by
 x_go;let#[a,k,r,rfl,rfl,#[es,n,lk,kl],lo,e,q]:=h;let#[t,rfl]:=rx;cases ry;erw[wpAny_in_of (strKind_is X.prog X.w k t) lo (mapOf_K (prog:=X.prog) (w:=X.w) I.yB lk kl) (by rw[find_K lk e];exact#[.bl _,H,I.tok _,rfl,q])]
end
section
variable{X:Cx}{pZ:List (Addr×Obj)}{σ:List (Option V)}{H:Hp}{s:aE}{h':Heap}
def Inv.Qx(I:Inv X pZ σ H s)(k:∀b o,b≠X.env.locals->s.heap.get? b=ξ o->h'.get? b=ξ o)(h1:s.heap.Ns X.env.locals m)(h2:h'.Ns X.env.locals m):Inv X pZ σ H {s with heap:=h',toks:=t'}:=by
 have nL:∀b u,H b=ξ u->b≠X.env.locals:=λb u e z=>by rw[z,I.free] at e;cases e
 refine I.step (g':=s.gens) (d':=s.drawn) (ch:=[]) (λ_ z=>nomatch z) (λb o hL _ _ e _=>k b o hL e) (λb o hL _ _ e _=>#[o.slots,k b o hL e]) (λ_ _ _ _ n=>n)
  (λb o _ e=>?_) (λ_ _ e=>e) (λ_ _ _ e=>e) (λb ps e=>#[#[],by rw[e];simp]) (λm' hm=>?_) (λb u e=>?_) I.bare
 .by_cases z:b=X.env.locals
  .let#[o',_,_,ho,_]:=h2
   exact#[o',%[z|ho]]
  .exact#[o,k b o z e]
 .rw[hm.eq_nsMap,<-h1.eq_nsMap];erw[h2]
 .refine(I.dE b u e).wH (λc v hc q=>k c v ?_ q) (λ_ q=>q) λ_ _ q=>q
  rcases hc with z|z
  .rw[z];erw[nL b u e]
  .erw[nL c _ z]
end
section
variable{X:Cx}
abbrev AZ(t:List Nat)(ts:List (List Nat)):List Nat:=ts.foldl (λb x=>if x.length<b.length then x else b) t
def D9:∀{ts:List (List Nat)}{us:List Value},Vals (ts.map λt=>V.str (tx t)) us->us.length=ts.length/\∀(i:Nat)v,us[i]?=ξ v->∃t k,ts[i]?=ξ t/\v=lE (tx t) k
 |[],_,.nil=>#[rfl,λi v h=>by simp at h]
 |t::ts,_,.cons (b:=u) r h=>by
  let#[k,e]:=(show ∃k,u=lE (tx t) k from r)
  subst e;let#[e1,e2]:=D9 h;refine#[by simp[e1],λi v q=>?_];cases i with
  |zero=>simp at q;exact#[t,k,rfl,q.symm]
  |succ i=>exact e2 i v (~~~q)
def uD(b:List Nat):∀(ts:List (List Nat))(i:Nat)(t:List Nat),(b::ts)[i]?=ξ t->(∀j u,(b::ts)[j]?=ξ u->t.length<=u.length/\(j<i->t.length<u.length))->AZ b ts=t
 |[],i,t,h,_=>by
  cases i with
  |zero=>simp at h;erw[h]
  |succ i=>simp at h
 |x::ts,i,t,h,m=>by
  show AZ (if x.length<b.length then x else b) ts=t
  have mb:=m 0 b rfl;have mx:=m 1 x rfl;by_cases z:x.length<b.length
  .rw[if_pos z]
   cases i with
   |zero=>simp at h;subst h;omega
   |succ i=>
    refine uD x ts i t (~~~h) λj u hj=>?_
    have:=m (j+1) u (~~~hj);exact#[this.1,λq=>this.2 ∅]
  .rw[if_neg z]
   cases i with
   |zero=>
    simp at h;subst h;rwa[uD b ts 0 b rfl λj u hj=>#[?_,λq=>∅]]
    cases j with
    |zero=>simp at hj;subst hj;erw[ar _]
    |succ j=>exact(m (j+2) u (~~~hj)).1
   |succ i=>
    cases i with
    |zero=>simp at h;subst h;have:=mb.2 ∅;omega
    |succ i=>
     refine uD b ts (i+1) t (~~~h) λj u hj=>?_
     cases j with
     |zero=>simp at hj;subst hj;exact#[mb.1,λ_=>mb.2 ∅]
     |succ j=>
      have:=m (j+2) u (~~~hj);exact#[this.1,λq=>this.2 ∅]
def A0(hc:X.calm=ζ)(I:Inv X pZ σ H s)(hl:gX X.K H p ((t::ts).map λt=>V.str (tx t)))
  (hz:∀u∈t::ts,u.length<=1000000) (q:Q (.str (tx (AZ t ts))) H){E:Value->aE->Prop}:
  wpAny (bf X.prog X.w) X.A (call (.builtin "min") [.ref p] [(cj "key",.builtin "len")]) (EP X pZ σ Q) E s:=by
 let#[its,r,pl,_]:=I.list hl;let#[e1,e2]:=D9 r;let#[m,F]:=I.fr;have kp:∀h,Fr X.base X.env.locals h m->News X.base X.env.locals h (rm X.base s.heap X.env.locals)->∀b o,b≠X.env.locals->s.heap.get? b=ξ o->h.get? b=ξ o:=λh F' N' b o hb e=>by
  cases z:X.base.get? b with
  |some o'=>have:=I.bk b o' z;rw[e] at this;cases this;erw[F'.keep b _ z]
  |none=>exact(N' (b,o) (Ay hb z e)).1
 let#[ol,hol,hc1,n1,hd1]:=pl.isList;have pL:p≠X.env.locals:=λe=>by
  let#[o',es,ep,ho',hd',_]:=F.ns;rw[<-e,hol] at ho';cases ho';rw[hd1] at hd';cases hd'
 rwa[kmb_min (kid:="len") (vs:=its) (news:=rm X.base s.heap X.env.locals) (λi=>(((t::ts)[i]?).getD []).length) (I.ok.hd hc) F HK (λh F' N'=>?_) (by rw[e1];simp) (λi v hv h tk own F' N'=>?_) (λi v h' tk' hv hb F' N'=>?_)]
 .exact#[ol,kp h F' N' p ol pL hol,hc1,n1,hd1]
 .let#[u,k,hu,rfl]:=e2 i v hv
  have hn:=oS;have hu':=hz u (ai hu);rwa[len_str (by rw[dN];omega) ?_];rw[hu,eJ,dN]
  erw[KskEnd.intro F' N' λp hp=>hp]
 .let#[u,k,hu,rfl]:=e2 i v hv
  have eb:AZ t ts=u:=uD t ts i u hu λj w hj=>by
   have hj':j<its.length:=by rw[e1];exact(ag.mp hj).1
   have:=hb j hj';rw[hu,hj] at this;dsimp[eJ] at this;exact#[∅,λq=>by have:=this.2 q;omega]
  rw[eb] at q;refine#[.str (tx u),H,?_,#[k,rfl],q];rwa[I.Qx (λb o hb e=>?_) F.ns F'.ns];erw[kp h' F' N' b o hb e]
def FU(hc:X.calm=ζ)(hg:Gl X "min")(hm:X.mg "min"=ψ)(hg2:Gl X "len")(hm2:X.mg "len"=ψ)(ha:PE X e te)(hs:bz [e] X.env=[(ϑ,eval e X.env)]:=by rfl):
  PE X (.Call (.Name "min" p) [e] [#[ξ "key",.Name "len" pl,kp]] pos) (λσ H Q=>te σ H λv H1=>∃a t ts,v=.ref a/\gX X.K H1 a ((t::ts).map λt=>V.str (tx t))/\(∀u∈t::ts,u.length<=1000000)/\Q (.str (tx (AZ t ts))) H1):=by
 k_ne;rwa[dS (mr I hg hm boot_min ?_)];rwa[callWith_kw (e:=e) (rest:=[]) ?_ (by rw[hs];rfl) (by rw[hs];rfl)];rw[hs]
 rwa[gu (eG (ha pZ s σ H _ I h) λu s1 h9=>?_)];let#[x,H1,I1,r1,a,t,ts,e2,hl,hz,q]:=h9;rwa[jv ?_];subst e2;cases r1;rwa[kws_cons (mr I1 hg2 hm2 LM (kws_nil ?_))];erw[A0 hc I1 hl hz q]
end
section
variable{X:Cx}{pZ:List (Addr×Obj)}{σ:St}{H:Hp}{s:aE}
def Inv.MK{ch:List Addr}{h':Heap}{t':Nat}{a:Addr}{o:HO}(I:Inv X pZ σ H s)(k:∀b u,b∉ch->s.heap.get? b=ξ u->h'.get? b=ξ u)(hf:∀b∈ch,ui X pZ H b)(hp:s.heap.objs.size<=a)
  (new:dM X.prog X.w (upd H a o) h' a o):Inv X pZ σ (upd H a o) {s with heap:=h',toks:=t'}:=by
 have hn:=I.dE.fresh hp;have na:∀b u,s.heap.get? b=ξ u->b≠a:=λb u e z=>absurd (au (aO e) hp) (%[z|dj _])
 have nt:∀b u,H b=ξ u->b∉ch:=λb u e z=>by rw[(hf b z).1] at e;cases e
 have tr:∀b u,H b=ξ u->upd H a o b=ξ u:=λb u e=>%[cq (dD e hn)|e]
 refine I.step (g':=s.gens) (d':=s.drawn) (ch:=ch) (λb hb=>?_) (λb u _ _ hc e _=>k b u hc e) (λb u _ _ hc e _=>#[u.slots,k b u hc e]) (λb u _ e n=>by rw[cq (na b u e)];exact n)
  (λb u hc e=>#[u,k b u hc e]) (λb _ e=>tr b _ e) (λb _ _ e=>tr b _ e) (λb ps e=>#[#[],by rw[tr b _ e];simp]) (λm hm=>?_) (λb u e=>?_) I.bare
 .let#[f0,f1,f2,f3,f4,f5]:=hf b hb
  exact#[f3,f1,f4,f5]
 .let#[q,es,ep,ho,r]:=hm
  exact#[q,es,ep,k _ q (λz=>(hf _ z).2.1 rfl) ho,r]
 .by_cases hb:b=a
  .subst hb;rw[b8] at e;cases e;erw[new]
  .rw[cq hb] at e
   refine(I.dE b u e).wH (λc v hc q=>k c v ?_ q) (λc q=>tr c _ q) λc xs q=>tr c _ q
   rcases hc with z|z
   .rw[z];erw[nt b u e]
   .erw[nt c _ z]
abbrev X1(K:aJ)(a:Addr):It:=
 #[λi H=>∃xs x,gX K H a xs/\xs[i]?=ξ x,λi H y H'=>∃p x,H p=ψ/\y=.ref p/\H'=upd H p (.tup [.int i,x])/\∀xs,gX K H a xs->xs[i]?=ξ x,λi H=>∃xs,gX K H a xs/\xs.length<=i]
def FV{P:bK}{w:cx}{K:aJ}{es:List Expr}{k:Nat}{pos:Pos}(a e it:Addr)(hne:e≠it):
  Turn P w K (.Tuple es k pos) (X1 K a) [e,it] e (λi h=>(∃old,IsEnum h e it i old)/\h.IsListIter it a i) where
 mem:=by simp
 obj:=λi h st b hb=>by
  let#[#[old,h1],o,h2,c,d]:=st;rcases aM.mp hb with rfl|hb
  .exact#[_,h1,λv z=>by cases z]
  .have e:b=it:=by simpa using hb
   subst e;exact#[o,h2,λv z=>by rw[d] at z;cases z]
 keep:=λi h h' st k=>by
  let#[#[old,h1],h2]:=st;exact#[#[old,k e (#v[]) _ h1],h2.at λo q=>k it (#v[]) o q]
 item:=by
  w_up;subst hP hw hK;let#[xs,x,hq,hx]:=hg;let#[its,rv,p,hz]:=I.list hq;let#[u,hu,ru]:=rv.get hx;let#[#[old,h1],h2]:=st;refine wpAny_pyNext_enum_item h1 h2 p.isList (x:=u) (~~~hu) hne λh' ho hit' hT hsz hk=>?_
  refine#[_,rfl,wpAny_letOwnedTupleGo_enum ho λh'' he'' sb=>?_];have hel:e<s.heap.objs.size:=aO h1;have nT:s.heap.objs.size≠e:=cD hel;have k2:∀b v,b∉[e,it]->s.heap.get? b=ξ v->h''.get? b=ξ v:=λb v hb q=>by
   dsimp[aM,cA,or_false,not_or] at hb;exact(sb.2 b hb.1).trans (hk b v hb.1 hb.2 q)
  have hfr:=I.fresh;refine#[.ref s.heap.objs.size,upd H s.heap.objs.size (.tup [.int i,x]),I.MK (t':=s.toks+1) (h':=h'') k2 hf (ar _) ?_,rfl,#[_,x,hfr,rfl,rfl,λys hy=>%[I.rA hy hq|hx]],?_,λb hb=>?_]
  .exact#[show 2<=sizeLine by decide,[.int i s.toks,u],.cons #[_,rfl] (.cons ru .nil),_,(sb.2 _ nT).trans hT,rfl,_,rfl]
  .exact#[#[u,~~~he''],hit'.at λo q=>(sb.2 it hne.symm).trans q]
  .rw[cq]
   .exact(hf b hb).1
   .intro z
    let#[f0,_]:=hf b hb;rcases aM.mp hb with q|hb
    .erw[nT (z▸q.symm▸rfl)]
    .have q:b=it:=by simpa using hb
     let#[o,h3,_]:=h2;have:=aO h3;rw[<-q,z] at this;erw[dj _ this]
 done:=by
  w_up;subst hP hw hK;let#[xs,hq,hx]:=hg;let#[its,rv,p,hz]:=I.list hq;let#[#[old,h1],h2]:=st;have hl:=rv.length;let#[f0,f1,f2,f3,f4,f5]:=hf it (#v[]);erw[wpAny_pyNext_enum_end (I.ok.hd hc) h1 h2 p.isList ((·)) λh' eb=>#[rfl,I.turned (t':=s.toks) (λb o hb e=>eb b o hb e) f0 f1 f3 f4 f5]]
 self:=λ_ _ _ _ _ st h=>by
  let#[#[old,h1],h2]:=st;erw[wpAny_pyIter_enum h1 h]
abbrev Vm(K:aJ)(ta:TA):TI:=λσ H R=>ta σ H λvs H1=>∃a,vs=[.ref a]/\(∃xs,gX K H1 a xs)/\R (X1 K a) H1
def ML{X:Cx}{a:Expr}{ta:TA}{p pos:Pos}{es:List Expr}{k:Nat}{tp:Pos}(hg:Gl X "enumerate")(hm:X.mg "enumerate"=ψ)(ha:PA X [a] ta)(hs:bz [a] X.env=[(ϑ,eval a X.env)]:=by rfl):
  PI X (.Tuple es k tp) (.Call (.Name "enumerate" p) [a] [] pos) (Vm X.K ta):=by
 intro pZ s σ H R I h;rwa[Call_ (mr I hg hm boot_enumerate (dg (eG (ha pos pZ s σ H _ I h) λus s1 h9=>?_) hs rfl))];let#[vs,H1,I1,r1,q1]:=h9;let#[l,e,#[xs,hq],q]:=q1;subst e;cases r1 with
 |cons r rr=>
  cases rr;cases r;let#[its,rv,p,hz]:=I1.list hq;rwa[call_enumerate_list p.isList λh' hE hI hsz hk=>wpAny_pyIter_enum hE ?_]
  have I2:Inv X pZ σ H1 {s1 with heap:=h'}:=I1.kept (t':=s1.toks) λb o e=>hk b o e
  refine#[_,[s1.heap.objs.size+1,s1.heap.objs.size],_,X1 X.K l,H1,rfl,I2,FV l _ _ (Nat.succ_ne_self _),#[#[_,hE],hI],λb hb=>?_,q];rcases aM.mp hb with e|hb
  .subst e
   erw[I1.AA (iK _) (I1.dE.fresh (iK _))]
  .have e:b=s1.heap.objs.size:=by simpa using hb
   subst e;erw[I1.AA (ar _) (I1.dE.fresh (ar _))]
end
def yU:uW (.type "list") "keys"=pure ψ:=by rw[Ak,rg];kernel_rfl
def pJ:plainId "dict.update.loop"=ζ:=by decide +kernel
def xO:entryFor table "dict.update.loop"=ξ Builtin.«dict.update.loop»:=entryFor_of_tree (by kernel_rfl)
section
variable{prog:bK}{w:cx}{A:dC}{E:Value->aE->Prop}{s:aE}{a l it D:Addr}{its:Array Value}{n:Nat}{K:Type}[DecidableEq K]{knd:KeyKind prog w K}
def FW(hx:s.heap.get? a=ξ {cls:=.type "list",data:=.seq its n})(hA:A.handled=ψ)
  (hq:∀h' t',(∀b o,s.heap.get? b=ξ o->h'.get? b=ξ o)->Q ψ {s with heap:=h',toks:=t'}):wpAny (bf prog w) A (getAttr? (.ref a) "keys") Q E s:=by
 let#[h,g,d,t,os]:=s;have hT:(#[h,g,d,t,os]:aE).TypeIs (.ref a) "list":=#[_,hx,rfl]
 have f1:=sub_AttributeError;have f3:=nZ.lookup;have f4:=nZ.bind (.ref a);have f5:=am_list_getattr_none;unfold getAttr? getAttrBy? getAttrBy
 repeat (any_goals (first|assumption| ((with_reducible show wpAny _ _ (call (Value.builtin "list.__getattribute__") _ _) _ _ _);refine call_meets nZ (show Shared.TypeIs _ _ "list" from #[_,hx,rfl]) am_entry_list_getattribute (F.args_list_getattribute_2 _ _) (meets_getattribute_miss_list a its n #[] "keys" _ yU (by decide +kernel)) #[hx,hA,λh' tk' e hx'=>?_])|wp_step))
 let#[t',u',he]:=hx'.there;show wpAny _ _ (getattributeRaised _ _ _ _ _ _ _) _ _ _;unfold getattributeRaised
 repeat (any_goals (first|assumption|wp_step))
 erw[hq _ _ hx'.keeps]
def sX{h:Heap}{a b:Addr}{o u:Obj}(ha:h.get? a=ξ o)(hb:h.get? b=ξ u)(n:o.cls≠u.cls):a≠b:=λe=>by
 rw[e,hb] at ha;cases ha;erw[n rfl]
def FX{R:Result->aE->Prop}{more:List (K×Value)}{res:Value}(hh:A.handled=ψ)(hz:its.size=more.length):∀(k i:Nat)(s:aE)(acc:List (K×Value)),more.length-i=k->i<=more.length->s.heap.IsListIter it l i->s.heap.IsList l its ->
  (∀(j:Nat)(kk:K)(v:Value),more[j]?=ξ (kk,v)->∃T key,its[j]?=ξ (.ref T)/\s.heap.IsTuple T (List.toArray [key,v])/\knd.is kk key=ζ)->s.heap.DictOf knd D acc->acc.length+k<=sizeLine ->
  (∀h' t',h'.DictOf knd D (merged acc (more.drop i))->(∀b o,b≠D->b≠it->s.heap.get? b=ξ o->h'.get? b=ξ o)->R (.ok (.ret res)) {s with heap:=h',toks:=t'}) ->
  oB (bf prog w) A (.builtin "dict.update.loop" #[[bp D,bp it,oK i,res],[]]) R s:=by
 intro k;induction k with
 |zero=>
  intro i s acc hk hi hit hl hp hd hs hR;have hin:i=more.length:=∅
  rwa[qT xO ?_];rw[ke pJ _]
  show wpAny _ A.in1 (ym (.ref it)>>=_) _ _ s
  let#[oi,hoi,ci,di]:=id hit;let#[od,es,ep,hod,hcd,r]:=id hd;have nd:D≠it:=sX hod hoi (by rw[hcd.1,ci];decide);rwa[af (Ln hh hit hl (by rw[hin,<-hz];simp) λh' eb=>?_)];rwa[af (aC (aC ?_))];rwa[hR h' s.toks ?_ λb o _ hb e=>eb b o hb e]
  rw[hin,Lo]
  exact#[od,es,ep,eb D od nd hod,hcd,r]
 |succ k ih=>
  intro i s acc hk hi hit hl hp hd hs hR;have lt:i<more.length:=∅
  obtain⟨⟨kk,v⟩,hkv⟩:∃p,more[i]?=ξ p:=#[_,ab lt]
  let#[T,key,hT,ht,hk']:=hp i kk v hkv;rwa[qT xO ?_];rw[ke pJ _]
  show wpAny _ A.in1 (ym (.ref it)>>=_) _ _ s
  let#[oi,hoi,ci,di]:=id hit;let#[od,es,ep,hod,hcd,r]:=id hd;let#[ol,hol,cl,dl]:=id hl;have nd:D≠it:=sX hod hoi (by rw[hcd.1,ci];decide);have nl:l≠it:=sX hol hoi (by rw[cl,ci];decide);have nld:l≠D:=sX hol hod (by rw[cl,hcd.1];decide);have nt:∀{T:Addr}{vs:Array Value},s.heap.IsTuple T vs->T≠it/\T≠D:=λ⟨ot,hot,ct,_⟩=>#[sX hot hoi (by rw[ct,ci];decide),sX hot hod (by rw[ct,hcd.1];decide)]
  rwa[af (Hs hit hl hT λh1 hit1 sb1=>?_)];let#[ot,hot,ct,nn,dt]:=id ht;have hot1:h1.get? T=ξ ot:=(sb1.2 T (nt ht).1).trans hot;rwa[af (eY (af (wpAny_tryCatch ?_)))];unfold Builtin.Dict.pairItems;rwa[af (HA (T:="tuple") #[ot,hot1,ct] ?_)];rw[if_pos ⋯]
  rwa[af (sF hot1 dt (aC ?_))];show wpAny _ A.in1 (holding [key,v] (dictSet D key v)) _ _ _;rwa[eY (eY (af (knd.pyHash hk' ?_)))];have hd1:h1.DictOf knd D acc:=#[od,es,ep,(sb1.2 D nd).trans hod,hcd,r]
  rwa[wpAny_dictSetHashed_pairs hk' hd1 (λh2 hd2 sb2=>aC #[oN pJ _,?_]) ∅];have kp:∀b o,b≠D->b≠it->s.heap.get? b=ξ o->h2.get? b=ξ o:=λb o n1 n2 e=>(sb2.2 b n1).trans ((sb1.2 b n2).trans e)
  have e1:(oK ((i:Int)+1))=oK ((i+1:Nat):Int):=by push_cast;rfl
  rw[e1]
  refine ih (i+1) _ (uX acc kk v) ∅ lt (hit1.at λo e=>(sb2.2 it nd.symm).trans e) #[ol,kp l ol nld nl hol,cl,dl] (λj kk v e=>?_) hd2 ?_ λh' t' hd' kp'=>?_
  .let#[T,key,q1,#[ot,hot,r],q3]:=hp j kk v e
   exact#[T,key,q1,#[ot,kp T ot (nt #[ot,hot,r]).2 (nt #[ot,hot,r]).1 hot,r],q3]
  .have:(uX acc kk v).length<=acc.length+1:=by
    unfold uX;split
    .rw[ae];omega
    .rw[aq];simp
   omega
  .rwa[hR h' t' ?_ λb o n1 n2 e=>kp' b o n1 n2 (kp b o n1 n2 e)]
   rw[fu lt]
   have:more[i]=(kk,v):=by rw[ab lt] at hkv;erw[aK hkv]
   rw[this]
   erw[hd']
def CT{more:List (K×Value)}{Q:Value->aE->Prop}(hh:A.handled=ψ)(hl:s.heap.get? l=ξ {cls:=.type "list",data:=.seq its n})(hz:its.size=more.length)(hm:more.length<=sizeLine)
  (hp:∀(j:Nat)(kk:K)(v:Value),more[j]?=ξ (kk,v)->∃T key,its[j]?=ξ (.ref T)/\s.heap.IsTuple T (List.toArray [key,v])/\knd.is kk key=ζ)
  (h:∀h' t',h'.DictOf knd s.heap.objs.size (merged [] more)->(∀b o,s.heap.get? b=ξ o->h'.get? b=ξ o)->Q (.ref s.heap.objs.size) {s with heap:=h',toks:=t'}):
  wpAny (bf prog w) A (call (.type "dict") [.ref l]) Q E s:=by
 refine callType_codes (Q₁:=λobj s₁=>obj=.ref s.heap.objs.size/\s₁={s with heap:=s.heap.push {cls:=.type "dict",data:=.dict #[]} }) F.kt_called_dict (F.kt_typeCall_dict_1 _) F.entry_dict_init (kt_code_dict_new _ #[rfl,rfl]) ?_;rintro obj s₁ ⟨rfl,rfl⟩;have hnew:(s.heap.push {cls:=.type "dict",data:=.dict #[]}).DictOf knd s.heap.objs.size []:=BR s.heap;have kp:∀b o,s.heap.get? b=ξ o->(s.heap.push {cls:=.type "dict",data:=.dict #[]}).get? b=ξ o:=λb o e=>aG _ e
 generalize s.heap.push {cls:=.type "dict",data:=.dict #[]}= h1 at hnew kp;refine#[hnew.typeIs,F.args_dict_init_2 _ _,?_];unfold Builtin.«dict.__init__»;rwa[af ?_];unfold Builtin.Dict.selfAndRest;rwa[af (rf hnew.typeIs ?_)];show wpAny _ _ (pure (s.heap.objs.size,[bp l])) _ _ _;rwa[aC ?_];show wpAny _ _ (Builtin.Dict.updateFrom "dict.__init__" s.heap.objs.size (.ref l) [] .none) _ _ _;unfold Builtin.Dict.updateFrom;rwa[af (HA (T:="list") #[_,kp l _ hl,rfl] ?_)];rw[if_pos ⋯]
 rwa[af (FW (kp l _ hl) hh λh2 t2 k2=>?_)];rw[if_pos (by rfl)]
 refine af (mV ?_);have hl2:=k2 l _ (kp l _ hl);refine af (km #[_,hl2,rfl,_,rfl] (aC #[oN pJ _,?_]));have nD:s.heap.objs.size<h2.objs.size:=by
  let#[od,_,_,hod,_]:=hnew;erw[aO (k2 _ _ hod)]
 have kp3:∀b o,s.heap.get? b=ξ o->(h2.push {cls:=.type "list_iterator",data:=.fields (List.toArray [.ref l,.int 0 0])}).get? b=ξ o:=λb o e=>aG _ (k2 b o (kp b o e))
 refine FX (A:=A.in1) (knd:=knd) (its:=its) (l:=l) hh hz more.length 0 _ [] ∅ (bJ _) ?_ ?_ (λj kk v e=>?_) ?_ (~~~hm) λh' t' hd' kp'=>?_
 .exact#[_,aX _ rfl,rfl,rfl]
 .exact#[{cls:=.type "list",data:=.seq its n},aG _ hl2,rfl,n,rfl]
 .let#[T,key,q1,#[ot,hot,r],q3]:=hp j kk v e
  exact#[T,key,q1,#[ot,kp3 T ot hot,r],q3]
 .let#[od,es,ep,hod,r]:=hnew
  exact#[od,es,ep,aG _ (k2 _ _ hod),r]
 .refine#[rfl,h h' t' hd' λb o e=>kp' b o ?_ ?_ (kp3 b o e)]
  .erw[aV (aO e)]
  .erw[aV (aO (k2 b o (kp b o e)))]
end
section
variable{X:Cx}{pZ:List (Addr×Obj)}{σ:St}{H:Hp}{s:aE}
@[reducible]def Qy(H:Hp)(v:V)(kv:Key×V):Prop:=∃T,v=.ref T/\H T=ξ (.tup [kV kv.1,kv.2])
def MM(I:Inv X pZ σ H s):∀{vs:List V}{kvs:List (Key×V)}{its:List Value},Paired (Qy H) vs kvs->Vals vs its->∃more,KV kvs more/\its.length=more.length /\
  ∀(j:Nat)(kk:Key)(v:Value),more[j]?=ξ (kk,v)->∃T key,its[j]?=ξ (.ref T)/\s.heap.IsTuple T (List.toArray [key,v])/\(dh X.prog X.w).is kk key=ζ
 := by
 intro vs kvs its hp hv;induction hp generalizing its with
 |nil=>cases hv;exact#[[],.nil,rfl,λj kk v e=>by cases e]
 |cons ha hr ih=>
  rename_i b _ _;let#[k,x]:=b;let#[T,e,hT]:=ha;cases hv with|cons r rr=>?_
  subst e;cases r;let#[more,h1,h2,h3]:=ih rr;let#[z,its',rv,p]:=I.dE T _ hT;cases rv with
  |cons r1 rr1=>
   rename_i ku us';cases rr1 with
   |cons r2 rr2=>
    rename_i xu _;cases rr2;refine#[(k,xu)::more,.cons #[rfl,r2] h1,by simp[h2],λj kk v e=>?_];cases j with
    |zero=>
     simp at e;let#[rfl,rfl]:=e;exact#[T,ku,rfl,p,rH r1]
    |succ j=>simpa using h3 j kk v (~~~e)
def CU(hA:X.A.handled=ψ):iH X (.type "dict") (λxs H Q=>∃a vs kvs,xs=[.ref a]/\H a=ξ (.lst vs)/\Paired (Qy H) vs kvs/\(kvs.map (·.1)).Nodup/\∀p,H p=ψ->Q (.ref p) (upd H p (.dK kvs))):=by
 intro pZ s σ H xs us Q I rv h;let#[a,vs,kvs,rfl,hH,hp,hn,q]:=h;let#[u,rfl,ru]:=rv.one;cases ru;let#[z,its,n,r,hl,e]:=I.FE hH;let#[more,h1,h2,h3]:=MM I hp r;have hk:=h1.keys;refine CT (knd:=dh X.prog X.w) (more:=more) hA e (~~~h2) (by rw[<-h2,<-hl];erw[z]) (λj kk v ej=>?_) λh' t' hd kp=>?_
 .let#[T,key,q1,q2,q3]:=h3 j kk v ej
  exact#[T,key,~~~q1,q2,q3]
 .rw[merged_nil_of_nodup more (by rw[<-hk];erw[hn])] at hd
  have hf:=I.fresh;refine#[.ref s.heap.objs.size,_,I.laid (t':=t') kp (ar _) (yK (kvs:=kvs) (by rw[h1.length,<-h2,<-hl];erw[z]) ?_ h1 hd),rfl,q _ hf];have:=I.big;erw[beq_eq_false_iff_ne.mpr (cD this)]
end
section
variable{X:Cx}
def uE(hi:0<=i)(hj:0<=j):Builtin.bitAnd i j=((i.toNat&&&j.toNat:Nat):Int):=by
 unfold Builtin.bitAnd;rw[decide_eq_true hi,decide_eq_true hj]
def CV(hi:0<=i)(hj:0<=j):Builtin.bitOr i j=((i.toNat|||j.toNat:Nat):Int):=by
 unfold Builtin.bitOr Builtin.bitAnd Builtin.bitNot;rw[decide_eq_false ∅,decide_eq_false ∅,show -(-i-1)-1=i by omega,show -(-j-1)-1=j by omega]
 dsimp only;omega
def FY:Cw X "int.bit_length" (λx xs H Q=>∃i:Nat,x=.int i/\xs=[]/\Q (.int (if i=0 then 0 else i.log2+1:Nat)) H):=by
 intro pZ s σ H x xs v us Q I rx rs h;let#[i,rfl,rfl,q]:=h;let#[t,rfl]:=rx;cases rs;refine call_int_bit_length #[.int _,H,I.tok _,#[_,rfl],?_];have:Builtin.Int.intBits i=if i=0 then 0 else i.log2+1:=by
  unfold Builtin.Int.intBits;by_cases e:i=0
  .subst e;rfl
  .rw[if_neg e,if_neg (~~~e)];rfl
 rw[this]
 erw[q]
def CW(hc:X.calm=ζ):iH X (.builtin "any") (λxs H Q=>∃p,∃bs:List Bool,xs=[.ref p]/\gX X.K H p (bs.map V.bl)/\Q (.bl (bs.any id)) H):=by
 k_go;let#[p,bs,rfl,hl,q]:=h;let#[u,rfl,ru]:=vals1 r;cases ru;let#[its,r,pl,_]:=I.list hl;have hl:=pl.isList;have hits:=vx r;have hlt:p<s.heap.objs.size:=by let#[_,e,_]:=hl;erw[aO e]
 refine call_any_walk (km hl ?_);refine#[s.heap.objs.size,[s.heap.objs.size,p],[s.heap.objs.size],its.toArray.size,_,_,λi=>(bs[i]?).getD ϑ,rfl,Fi (A:=X.A.in1) (I.ok.hd hc) _ p (aV hlt) its.toArray,
  #[#[_,aX _ rfl,rfl,rfl],hl.push _],λi v s' Q' E' hP hQ=>?_,λh' tk hk=>?_]
 .have hP:its[i]?=ξ v:=by simpa using hP
  rw[hits,aB] at hP;cases e:bs[i]? with
  |none=>rw[e] at hP;cases hP
  |some b=>
   rw[e] at hP;have hQ:Q' ((bs[i]?).getD ϑ) s':=hQ;rw[e] at hQ;cases hP;erw[cP hQ]
 .have e:((bC its.toArray.size).any λi=>(bs[i]?).getD ϑ)=bs.any id:=by
   rw[aD,hits,ae];erw[LSm.range_any bs]
  rw[e]
  exact#[.bl _,H,I.kept (Aj hk),rfl,q]
end
section
variable{X:Cx}
def A1{val:Nat->Int}:∀k,argBest (λi j=>decide (val j<val i)) k<=k/\∀j,j<=k->val j<=val (argBest (λi j=>decide (val j<val i)) k)
 |0=>#[ar _,λj h=>%[Nat.le_zero.mp h|Fj _]]
 |k+1=>by
  let#[h1,h2]:=A1 (val:=val) k;unfold argBest;split
  .rename_i hb
   have hb:=of_decide_eq_true hb;refine#[ar _,λj hj=>?_];rcases B9 k j with z|z
   .rw[show j=k+1 by omega];erw[Fj _]
   .erw[Int.le_of_lt (Int.lt_of_le_of_lt (h2 j z) hb)]
  .rename_i hb
   have hb:¬val (argBest _ k)<val (k+1):=λz=>hb (decide_eq_true z)
   refine#[jH h1,λj hj=>?_];rcases B9 k j with z|z
   .rw[show j=k+1 by omega];omega
   .erw[h2 j z]
def Ea:∀{is:List Int}{us:List Value},Vals (is.map V.int) us->us.length=is.length/\∀(i:Nat)v,us[i]?=ξ v->∃t,v=lD ((is[i]?).getD 0) t
 |[],_,r=>by rw[fD] at r;cases r;exact#[rfl,λi v e=>by simp at e]
 |k::ks,_,r=>by
  rw[aw] at r;cases r with
  |cons h t=>
   let#[h1,h2]:=Ea t;refine#[by simp[h1],λi v e=>?_];cases i with
   |zero=>simp at e;subst e;erw[h]
   |succ i=>simp at e ⊢;erw[h2 i v e]
def CY(hc:X.calm=ζ):iH X (.builtin "max") (λxs H Q=>∃p,∃(i:Int)(is:List Int),xs=[.ref p]/\gX X.K H p ((i::is).map V.int)/\∀m∈i::is,(∀j∈i::is,j<=m)->Q (.int m) H):=by
 k_go;let#[p,i,is,rfl,hl,q]:=h;let#[u,rfl,ru]:=vals1 r;cases ru;let#[its,r,pl,_]:=I.list hl;have hl:=pl.isList;let#[e1,e2]:=Ea r;have hlt:p<s.heap.objs.size:=by let#[_,e,_]:=hl;erw[aO e]
 refine call_max_walk (km hl ?_);refine#[s.heap.objs.size,[s.heap.objs.size,p],[s.heap.objs.size],its.toArray.size,_,_,_,rfl,Fi (A:=X.A.in1) (I.ok.hd hc) _ p (aV hlt) its.toArray,
  #[#[_,aX _ rfl,rfl,rfl],hl.push _],λb hb=>?_,by simp[e1],CmpOf.ints_gt (λk=>((i::is)[k]?).getD 0) (λk v hv=>e2 k v (~~~hv)),λv h' tk hP hk=>?_]
 .show b<(s.heap.push _).objs.size
  rw[fQ]
  rcases aM.mp hb with z|z
  .rw[z];erw[cB _]
  .rw[bI.mp z];erw[bc hlt]
 .have hn:its.toArray.size-1=is.length:=by simp[e1]
  rw[hn] at hP;let#[b1,b2]:=A1 (val:=λk=>((i::is)[k]?).getD 0) is.length;have get:∀k,k<=is.length->∃m,(i::is)[k]?=ξ m/\((i::is)[k]?).getD 0=m:=λk hk=>by
   have e:=ab (l:=i::is) (i:=k) ((·));exact#[_,e,by rw[e];rfl]
  let#[m,g1,g2]:=get _ b1;let#[t,rfl]:=e2 _ v (~~~hP);refine#[.int m,H,I.kept (Aj hk),#[t,by rw[<-g2]],q m (ai g1) λj hj=>?_];let#[k,hk2,e]:=qR hj;have:=b2 k (by simp at hk2;omega);rw[<-g2]
  have e3:((i::is)[k]?).getD 0=j:=by rw[ab hk2,e];rfl
  rw[<-e3];erw[this]
def FZ:iH X (.builtin "len") (λxs H Q=>∃a kvs,xs=[V.ref a]/\H a=ξ (.dP kvs)/\Q (.int kvs.length) H):=by
 k_go;let#[a,kvs,rfl,ha,q]:=h;let#[u,rfl,ru]:=vals1 r;cases ru;let#[z,hd,ws,rel,dd]:=OM I.dE ha;have hT:=dd.typeIs;let#[o,es,ep,ho,hc,hdat,he,_]:=dd;have hsz:es.size=kvs.length:=by rw[Ah he,<-Paired.length rel]
 have h63:(kvs.length:Int)<2^63:=by rw[lG] at z;omega
 refine Calls.call_function_entry kind_len plain_len entry_len (args_len1 _) ?_;unfold Builtin.«len»;refine af (m:=oneArg "len" _) (aC ?_);refine af (m:=callSpecial? (.ref a) (cj "__len__")) (qa (name:=cj "__len__") hT zY
  (k5 zY hT PySem.F.entry_dict_len ?_ (PySem.F.args_dict_len_1 _)))
 show wpAny _ _ (dictSize a>>=_) _ _ s
 unfold dictSize;rwa[af (af (iN ho hdat (aC ?_)))];show wpAny _ _ (Builtin.Dict.pendingCount a>>=_) _ _ s;rwa[af (wpAny_pendingCount_other hd ?_)];rwa[wpAny_ret_mkInt ?_];show wpAny _ _ _ _ _ {s with toks:=s.toks+1};rwa[af (eY (aC ?_))];rwa[af (wpAny_letGo ?_)];rw[hsz]
 show wpAny _ _ (if ((kvs.length:Nat):Int)<0 then _ else _) _ _ _
 rw[if_neg ∅]
 show wpAny _ _ (if ((kvs.length:Nat):Int)≥2^63 then _ else _) _ _ _
 rw[if_neg ∅]
 erw[af (LH (aC #[_,rfl,.int kvs.length,H,I.tok _,#[_,rfl],q]))]
def IM(h:Heap)(hb:cg<h.objs.size):dM P w H (h.push {cls:=.type "dict",data:=.dict #[]}) h.objs.size (.dP []):=
 #[bJ _,beq_eq_false_iff_ne.mpr (cM (aV hb)),[],.nil,_,#[],0,aX _ rfl,#[rfl,rfl,rfl],rfl,rfl,xj]
abbrev Vn:TE:=λ_ H Q=>∃o,(o=HO.dK []\/o=.dT []\/o=.dP [])/\∀p,H p=ψ->Q (.ref p) (upd H p o)
def MN:PE X (.Dict [] [] pos) Vn:=λpZ s σ H Q I h=>by
 let#[o,ho,h]:=h;rwa[wpAny_Dict_empty #[.ref s.heap.objs.size,_,I.laid (a:=s.heap.objs.size) (o:=o) (t':=s.toks) (λ_ _ q=>aG _ q) (ar _) ?_,rfl,h _ (I.dE.fresh (ar _))]];rcases ho with rfl|rfl|rfl
 .erw[AJ s.heap I.big]
 .erw[Ip s.heap I.big]
 .erw[IM s.heap I.big]
end
section
variable{prog:bK}{w:cx}{A:dC}{E:Value->aE->Prop}{s:aE}
abbrev A2(h:Heap)(d:Addr)(es:Array p9)(ep:Nat):Prop:=∃o,h.get? d=ξ o/\o.data=.dict es ep
def F3(hv:s.heap.IsValuesView v d)(hm:A2 s.heap d es ep)
  (hQ:Q (.ref s.heap.objs.size) {s with heap:=s.heap.push {cls:=.type "dict_valueiterator",data:=.fields (List.toArray [.ref d,.int 0 0,.int es.size 0,.int ep 0])} }):
  wpAny (bf prog w) A (pyIter (.ref v)) Q E s:=by
 let#[ov,hov,hcv,hdv]:=id hv;let#[o,ho,hdat]:=hm;rwa[wpAny_pyIter_slot hv.typeIs tP (k5 tP hv.typeIs PySem.F.entry_dict_values_iter ?_ (PySem.F.args_dict_values_iter_1 _))];unfold Builtin.«dict_values.__iter__»;rwa[af (aC (af ?_))];unfold Builtin.Dict_items.dictOf;rwa[af (wpAny_field hov hdv (x:=.ref d) rfl (aC (af ?_)))];unfold Builtin.Dict_items.newIterator;rwa[af (iN ho hdat (af (Al ho hdat ?_)))];have hown:Builtin.Dict_items.ownsTuple "dict_valueiterator"=ϑ:=⋯
 dsimp[hown,ax,if_false];rwa[kj (aC #[_,rfl,"dict_valueiterator",_,#[_,aX _ rfl,rfl],cY.lookup,?_])];simpa[oK] using hQ
def IP(hit:s.heap.IsValIter it d i es.size ep)(hm:A2 s.heap d es ep)(hlt:i<es.size)
  (hQ:∀h',h'.IsValIter it d (i+1) es.size ep->gC it s.heap h'->Q (ξ es[i].val) {s with heap:=h'}):wpAny (bf prog w) A (ym (.ref it)) Q E s:=by
 let#[o,ho,hc,hd]:=id hit;let#[od,hod,hdd]:=id hm;unfold ym;refine af (wpAny_attempt (qa (name:=cj "__next__") hit.typeIs cY
  (k5 cY hit.typeIs pq ?_ (oO _))))
 rwa[af (aC (af (af ?_)))];rwa[af (gV hit.typeIs (aC ?_))];rwa[af (wpAny_fieldsOf ho hd ?_)];have hown:Builtin.Dict_items.ownsTuple "dict_valueiterator"=ϑ:=⋯
 dsimp[hown,ax,if_false];show wpAny _ _ (if (bp d==gh)=ζ then _ else _) _ _ s;rw[if_neg (show ¬((bp d==gh)=ζ) from a9)]
 rwa[af (aC (af (iN hod hdd ?_)))];rw[if_neg (#v[])]
 rwa[af (aC (af (Al hod hdd ?_)))];rw[if_neg (#v[])]
 refine aC ?_;dsimp[show ¬((i:Int)<0) from by omega,if_false,dA,cC hlt];refine af ?_;refine af (gV hit.typeIs (aC ?_));refine af (rh hit.typeIs ?_);show wpAny _ _ (setField (.ref it) 1 (oK ((i:Int)+1))>>=_) _ _ s;refine af (wpAny_setField ho hd (#v[]) ?_);have hit':(s.heap.update it (Am (·.setIfInBounds 1 (oK ((i:Int)+1))))).IsValIter it d (i+1) es.size ep:=
  #[_,gS _ ho (Obj.isFreed_of_fields (HB hd _)),(Obj.cls_mapFields ..).trans hc,by rw[HB hd];simp[oK]]
 rwa[af (eY ?_)];refine af (rh (s:={s with heap:=s.heap.update it (Am (·.setIfInBounds 1 (oK ((i:Int)+1))))}) hit'.typeIs ?_);refine af (rh (s:={s with heap:=s.heap.update it (Am (·.setIfInBounds 1 (oK ((i:Int)+1))))}) hit'.typeIs ?_);show wpAny _ _ (pure es[i].val) _ _ _;erw[aC (aC #[_,rfl,aC (hQ _ hit' (fg ..))])]
def MP(hh:A.handled=ψ)(hit:s.heap.IsValIter it d i es.size ep)(hm:A2 s.heap d es ep)(hge:es.size<=i)
  (hQ:∀h',Heap.ExtBut it s.heap h'->Q ψ {s with heap:=h'}):wpAny (bf prog w) A (ym (.ref it)) Q E s:=by
 let#[o,ho,hc,hd]:=id hit;let#[od,hod,hdd]:=id hm;unfold ym;refine af (wpAny_attempt (qa (name:=cj "__next__") hit.typeIs cY
  (k5 cY hit.typeIs pq ?_ (oO _))))
 rwa[af (aC (af (af ?_)))];rwa[af (gV hit.typeIs (aC ?_))];rwa[af (wpAny_fieldsOf ho hd ?_)];have hown:Builtin.Dict_items.ownsTuple "dict_valueiterator"=ϑ:=⋯
 dsimp[hown,ax,if_false];show wpAny _ _ (if (bp d==gh)=ζ then _ else _) _ _ s;rw[if_neg (show ¬((bp d==gh)=ζ) from a9)]
 rwa[af (aC (af (iN hod hdd ?_)))];rw[if_neg (#v[])]
 rwa[af (aC (af (Al hod hdd ?_)))];rw[if_neg (#v[])]
 refine aC ?_;dsimp[show ¬((i:Int)<0) from by omega,if_false,dA,gw hge];refine af ?_;refine af (gV hit.typeIs (aC ?_));show wpAny _ _ (setField (.ref it) 0 .none>>=_) _ _ s;refine af (wpAny_setField ho hd (#v[]) ?_);show wpAny _ _ (newExc (.type "StopIteration") []>>=_) _ _ _;dsimp[newExc,newTuple];refine af (af (kj (af (m:=firstArgMember _ _) (wpAny_of_eq (a:=gh) (by first|rfl| (dsimp[firstArgMember];rfl)) (kj ?_ (by size_fits)))) (by size_fits)));dsimp[raiseNew];refine af (wpAny_handled ?_);rw[show A.in1.handled=ψ from hh]
 rwa[af (aC (wpAny_throw ?_))];rwa[af (k6 (T:="StopIteration") (b:=ζ) #[_,aX _ rfl,rfl] isSubtype_stop (aC (hQ _ ?_)))];exact((fg ..).extBut.push _).push _
def F4(hh:A.handled=ψ)(I d:Addr)(hne:d≠I)(es:Array p9)(ep:Nat):
  Walks prog w A I [I,d] [I] es.size (λi v=>(es[i]?).map (·.val)=ξ v) (λi h=>h.IsValIter I d i es.size ep/\A2 h d es ep) where
 sub:=λb hb=>by simp at hb;simp[hb]
 frame:=λ_ _ _ st hk=>#[let ⟨o,e,r⟩:=st.1;#[o,hk I (#v[]) o e,r],let ⟨o,e,r⟩:=st.2;#[o,hk d (#v[]) o e,r]]
 item:=λi s Q E hi st hQ=>IP st.1 st.2 hi λh' hit' hs'=>
  hQ _ h' s.toks (by rw[cC hi];rfl) #[hit',let ⟨o,e,r⟩:=st.2;#[o,(hs'.2 d hne).trans e,r]] λb o hb e=>hs'.extBut b o (λh=>hb (by simp[h])) e
 done:=λs Q E st hQ=>MP hh st.1 st.2 (ar _) λh' he'=>hQ h' s.toks λb o hb e=>he' b o (λh=>hb (by simp[h])) e
 self:=λ_ _ _ _ st hQ=>wpAny_pyIter_valiter st.1 hQ
def IQ:KdlSrc prog w "dict_values" r d es.size (λi v=>(es[i]?).map (·.val)=ξ v) (λh=>h.IsValuesView r d/\A2 h d es ep) where
 type:=λ_ hm=>hm.1.typeIs
 there:=λ_ hm=>#[let ⟨_,ho,_⟩:=hm.1;aO ho,let ⟨_,ho,_⟩:=hm.2;aO ho]
 keep:=λ_ _ hm hk=>#[let ⟨o,ho,x⟩:=hm.1;#[o,hk r (.inl rfl) o ho,x],let ⟨o,ho,x⟩:=hm.2;#[o,hk d (.inr rfl) o ho,x]]
 notList:=⋯
 notTuple:=⋯
 hint:=λ_ _ _ _ hm hq=>kdl_hint_values hm.1.typeIs hq
 iter:=λ_ s hh hm=>#[_,_,(λ_ _ hq=>F3 hm.1 hm.2 hq),F4 hh _ d (let ⟨_,ho,_⟩:=hm.2;aV (aO ho)) es ep,#[#[_,aX _ rfl,rfl,rfl],let ⟨o,ho,x⟩:=hm.2;#[o,aG _ ho,x]]]
end
section
variable{X:Cx}
abbrev Vo(p d:Addr):HO:=.ext λh=>h.IsValuesView p d
def F5:Cw X "dict.values" (λx xs H Q=>∃d kvs,x=.ref d/\xs=[]/\H d=ξ (.dT kvs)/\∀p,H p=ψ->Q (.ref p) (upd H p (Vo p d))):=by
 intro pZ s σ H x xs v us Q I rx rs h;let#[d,kvs,rfl,rfl,hd,q]:=h;cases rs;cases (show v=bp d from rx);let#[z,lo,ws,rel,dd]:=DX I.dE hd;refine ki (S:=λA R s=>s.TypeIs (.ref d) "dict"/\R (.ok (.ret (.ref s.heap.objs.size))) {s with heap:=s.heap.push {cls:=.type "dict_values",data:=.fields (List.toArray [.ref d])} })
  wG dd.typeIs PySem.F.entry_dict_values (PySem.F.args_dict_values_1 _) (.of_wp λA R s h=>?_) #[dd.typeIs,?_]
 .rwa[af ?_]
  unfold Builtin.Dict.noArgs;rwa[af (rf h.1 ?_)];show wpAny _ _ (pure d) _ _ s;rwa[aC ?_];show wpAny _ _ (Builtin.Dict.showsAll d>>=_) _ _ s;unfold Builtin.Dict.showsAll;rw[if_neg (%[lo|a9])]
  erw[af (aC (af (kj (aC #[_,rfl,h.2]))))]
 .refine#[.ref s.heap.objs.size,_,I.laid (a:=s.heap.objs.size) (o:=Vo s.heap.objs.size d) (t':=s.toks) (λ_ _ q=>aG _ q) (ar _) ?_,rfl,q _ (I.dE.fresh (ar _))]
  have e:(s.heap.push {cls:=.type "dict_values",data:=.fields (List.toArray [.ref d])}).get? s.heap.objs.size=ξ {cls:=.type "dict_values",data:=.fields (List.toArray [.ref d])}:=aX _ rfl;exact#[#[_,e,rfl,rfl],#[_,e],λh1 h2 #[o,ho,r] k=>#[o,k o ho,r]]
def CZ(hc:X.calm=ζ):iH X (.type "list") (λxs H Q=>∃p d kvs,xs=[.ref p]/\H p=ξ (Vo p d)/\H d=ξ (.dT kvs)/\∀l,H l=ψ->Q (.ref l) (upd H l (.lst (kvs.map (·.2))))):=by
 k_go;let#[p,d,kvs,rfl,hp,hd,q]:=h;let#[u,rfl,ru]:=vals1 r;cases ru;let#[hv,_,_]:=(show dM X.prog X.w H s.heap p (Vo p d) from I.dE p _ hp)
 let#[z,lo,ws,rel,o,es,ep,ho,hx,hdat,he,_]:=DX I.dE hd;have hsz:es.size=kvs.length:=by rw[Ah he,<-Paired.length rel]
 rwa[kdl_call IQ (I.ok.hd hc) #[hv,o,ho,hdat] (%[hsz|z]) λh' tk acc' c' hk hl hi=>?_]
 have ea:acc'.toList=ws.map (·.2.2):=by
  rwa[HC λj=>?_]
  rw[BV,aB]
  have e3:es[j]?=(ws[j]?).map (B5 (mS (dh X.prog X.w))):=entry_at he j;cases e4:acc'[j]? with
  |some v=>
   have this:(es[j]?).map (·.val)=ξ v:=hi.2 j v e4;rw[e3] at this;cases e5:ws[j]? with
   |none=>rw[e5] at this;cases this
   |some q=>rw[e5] at this;erw[this.symm]
  |none=>
   have h1:acc'.size<=j:=Array.getElem?_eq_none_iff.mp e4;rw[cL (by rw[<-Paired.length rel,<-hsz,<-hi.1];erw[h1])];rfl
 have vals:∀{l:List (List Key×V)}{m:List (List Key×Addr×Value)},KT H l m->Vals (l.map (·.2)) (m.map (·.2.2)):=by
  intro l m r;induction r with
  |nil=>erw[.nil]
  |cons h _ ih=>erw[.cons h.2.2 ih]
 refine#[.ref s.heap.objs.size,_,I.laid (a:=s.heap.objs.size) (o:=.lst (kvs.map (·.2))) (t':=tk) hk (ar _) #[%[ae|z],acc'.toList,c',ea▸vals rel,?_],rfl,q _ (I.dE.fresh (ar _))];rw[Ca];erw[hl]
end
abbrev Y4(K:aJ)(a:Addr)(n:Nat):It:=
 #[λi H=>∃xs x,gX K H a xs/\i<n/\xs[n-1-i]?=ξ x,λi H x H'=>H'=H/\∀xs,gX K H a xs->xs[n-1-i]?=ξ x,λi _=>n<=i]
def IS{P:bK}{w:cx}{K:aJ}{tg:Expr}(a it:Addr)(n:Nat):Turn P w K tg (Y4 K a n) [it] it (λi h=>i<=n/\h.IsRevIter it a ((n:Int)-1-(i:Int))) where
 mem:=by simp
 obj:=λi h st b hb=>by
  have e:b=it:=by simpa using hb
  subst e;let#[_,o,e,c,d]:=st;exact#[o,e,λv z=>by rw[d] at z;cases z]
 keep:=λi h h' st k=>#[st.1,st.2.at λo e=>k it (#v[]) o e]
 item:=by
  w_up;subst hP hw hK;let#[xs,x,hq,hi,hx]:=hg;let#[its,rv,p,hz]:=I.list hq;let#[u,hu,ru]:=rv.get hx;let#[f0,f1,f2,f3,f4,f5]:=hf it (#v[]);let#[_,st]:=st;rw[show(n:Int)-1-(i:Int)=((n-1-i:Nat):Int) by omega] at st;refine wpAny_pyNext_rev_item st p.isList (x:=u) (~~~hu) λh' st' sb=>?_
  have I1:Inv X pZ σ H {s with heap:=h'}:=I.turned (t':=s.toks) (λb o hb e=>(sb.2 b hb).trans e) f0 f1 f3 f4 f5;rw[show((n-1-i:Nat):Int)-1=(n:Int)-1-((i+1:Nat):Int) by omega] at st';let#[o,e,c,d]:=id st';exact#[u,rfl,xv (s:={s with heap:=h'}) e c d ⋯ #[x,H,I1,ru,#[rfl,λys hy=>%[I.rA hy hq|hx]],#[hi,st'],λb hb=>(hf b hb).1]]
 done:=by
  w_up;subst hP hw hK;have hg:n<=i:=hg;let#[f0,f1,f2,f3,f4,f5]:=hf it (#v[]);let#[hi,st]:=st;rw[show(n:Int)-1-(i:Int)= -1 by omega] at st;erw[wpAny_pyNext_rev_end (I.ok.hd hc) st λh' eb=>#[rfl,I.turned (t':=s.toks) (λb o hb e=>eb b o hb e) f0 f1 f3 f4 f5]]
 self:=λ_ _ _ _ _ st h=>sH st.2 h
abbrev Y5(K:aJ)(ta:TA):TI:=λσ H R=>ta σ H λvs H1=>∃a xs,vs=[.ref a]/\gX K H1 a xs/\R (Y4 K a xs.length) H1
def Qz{X:Cx}{a tg:Expr}{ta:TA}{p pos:Pos}(hg:Gl X "reversed")(hm:X.mg "reversed"=ψ)(ha:PA X [a] ta)(hs:bz [a] X.env=[(ϑ,eval a X.env)]:=by rfl):
  PI X tg (.Call (.Name "reversed" p) [a] [] pos) (Y5 X.K ta):=by
 intro pZ s σ H R I h;rwa[Call_ (mr I hg hm boot_reversed (dg (eG (ha pos pZ s σ H _ I h) λus s1 h9=>?_) hs rfl))];let#[vs,H1,I1,r1,q1]:=h9;let#[l,xs,e,hq,q]:=q1;subst e;cases r1 with
 |cons r rr=>
  cases rr;cases r;let#[its,rv,p,hz]:=I1.list hq;have el:(its.toArray.size:Int)-1=(xs.length:Int)-1:=by rw[aD,rv.length]
  rwa[call_reversed_list p.isList ?_];rw[el]
  rwa[sH (l:=l) (i:=(xs.length:Int)-1) #[_,aX _ rfl,rfl,rfl] ?_];refine#[s1.heap.objs.size,[s1.heap.objs.size],_,_,H1,rfl,I1.kept (t':=s1.toks) λb o e=>aG _ e,IS l _ xs.length,#[bJ _,_,aX _ rfl,rfl,by simp[revObj]],λb hb=>?_,q]
  .have e:b=s1.heap.objs.size:=by simpa using hb
   subst e;erw[I1.AA (ar _) (I1.dE.fresh (ar _))]
section
open PySem.SeqAt
open PySem.AutoSeq1 (wpAny_loadPart')
open PySem.MeetsSeq PySem.MeetsSeq2 PySem.MeetsSeq3
variable{P:bK}{w:cx}
abbrev X2(P:bK)(w:cx)(A:dC)(s:aE)(x y:Value)(b:Bool):Prop:=∀(E:Value->aE->Prop)(Q:Bool->aE->Prop),Q b s->wpAny (bf P w) A (eqBool x y) Q E s
abbrev QC(h:Heap)(a:Addr)(xs:Array Value)(n:Nat)(d:Option Addr)(sl:Array (Option Value)):Prop:=h.get? a=ξ {cls:=.type "list",dict:=d,data:=.seq xs n,slots:=sl}
def A3(z:xs.size=ys.size):∀(k i:Nat),xs.size-i=k->MeetsIn P w (Builtin.«list.__eq__.loop» #[[.ref a,.ref b,oK i,oK 2],[]])
   (λA R s=>QC s.heap a xs n d1 s1/\QC s.heap b ys m d2 s2/\(∀j(h1:j<xs.size)(h2:j<ys.size),X2 P w A.in1 s xs[j] ys[j] (f j))/\R (.ok (.ret (.bool (((bC xs.size).drop i).all f)))) s)
 |0,i,hk=>λA R s h=>by
  let#[hp,g,d,tk,os]:=s;let#[ha,hb,he,h]:=h;unfold QC at ha hb
  wp_walk using dI ha,dI hb
  have e1:xs[((i:Nat):Int).toNat]?=ψ:=gw (by rw[dA];omega);have e2:ys[((i:Nat):Int).toNat]?=ψ:=gw (by rw[dA];omega);rw[jD (by rw[dU];omega)] at h;rw[e1,e2]
  wp_walk using dI ha,dI hb
  show R (.ok (.ret (.bool (xs.size==ys.size)))) _
  rw[z,beq_self_eq_true];erw[h]
 |k+1,i,hk=>λA R s h=>by
  let#[hp,g,d,tk,os]:=s;let#[ha,hb,he,h]:=h;have l1:i<xs.size:=∅
  have l2:i<ys.size:=∅
  have e1:xs[((i:Nat):Int).toNat]?=ξ xs[i]:=%[dA|cC l1]
  have e2:ys[((i:Nat):Int).toNat]?=ξ ys[i]:=%[dA|cC l2]
  have ed:(bC xs.size).drop i=i::(bC xs.size).drop (i+1):=by
   rw[fu (%[dU|l1]),List.getElem_range]
  rw[ed,bG] at h;have ih:=A3 (a:=a) (b:=b) (n:=n) (m:=m) (d1:=d1) (d2:=d2) (s1:=s1) (s2:=s2) z (f:=f) k (i+1) ∅;have step:=he i l1 l2;have ha':=ha;have hb':=hb;unfold QC at ha hb
  wp_walk using dI ha,dI hb
  rw[e1,e2]
  rwa[af (step _ _ ?_)];cases y:f i with
  |true=>
   rw[y,kn] at h
   wp_walk
   rw[show((i:Int)+1)=((i+1:Nat):Int) from rfl]
   exact#[oN plain_eq_loop _,qT entry_eq_loop (by
    rw[ke plain_eq_loop _]
    erw[ih A R _ #[ha',hb',he,h]])]
  |false=>
   rw[y,qh] at h
   wp_walk using dI ha,dI hb
   rw[e1,e2]
   wp_walk
   erw[h]
def F6(ha:s.heap.IsList a xs)(hb:s.heap.IsList b ys)(z:xs.size=ys.size)(hu:A.units<d6)
  (he:∀j(h1:j<xs.size)(h2:j<ys.size),X2 P w A.in1 s xs[j] ys[j] (f j)) (h:Q (.bool ((bC xs.size).all f)) s):wpAny (bf P w) A (bH .Eq (.ref a) (.ref b)) Q E s:=by
 let#[#[c1,d1,t1,s1],o1,k1,n,e1]:=id ha;let#[#[c2,d2,t2,s2],o2,k2,m,e2]:=id hb;simp only at k1 e1 k2 e2;subst k1 e1 k2 e2;rwa[BO (op:=.Eq) #[_,o1,rfl] #[_,o2,rfl] F.slot_list_eq (ki (S:=λA R s=>QC s.heap a xs n d1 s1/\QC s.heap b ys m d2 s2/\(∀j(h1:j<xs.size)(h2:j<ys.size),X2 P w A.in1 s xs[j] ys[j] (f j))/\R (.ok (.ret (.bool ((bC xs.size).all f)))) s) F.slot_list_eq #[_,o1,rfl] F.entry_list_eq (F.args_list_eq_2 _ _) (λA R s h=>?_) #[o1,o2,he,show iq ((bC xs.size).all f)≠Value.notImplemented/\Q (.bool ((bC xs.size).all f)) s from #[(λx=>nomatch x),h]]) hu];let#[hp,g,d,tk,os]:=s;let#[ha,hb,he,h]:=h;have f3:=AutoSeq1.sub_list_list;have ne:¬(xs.size !=ys.size)=ζ:=by rw[z];simp
 have ha':=ha;have hb':=hb;unfold QC at ha hb
 wp_walk using dI ha,dI hb
 exact#[oN plain_eq_loop _,qT entry_eq_loop (by
  rw[ke plain_eq_loop _]
  erw[A3 z _ 0 rfl A R _ #[ha',hb',he,h]])]
end
section
variable{X:Cx}
abbrev QD(a b:List (Key×V)):Bool:=a.length==b.length&&a.all λp=>decide (gO b p.1=ξ p.2)
abbrev F7(k:List (Key×V)):Prop:=∀p∈k,∃i,p.2=.int i
def IT(h:F7 kb)(e:gO kb k=ξ y):∃i,y=.int i:=by
 unfold gO at e;let#[p,e1,rfl]:=ak.mp e;erw[h p (mG e1)]
def MQ(rb:KV kb vb)(hb:F7 kb):∀{ka:List (Key×V)}{va:List (Key×Value)},KV ka va->F7 ka->KeqHits A s vb va (ka.all λp=>decide (gO kb p.1=ξ p.2)):=by
 intro ka va r;unfold KV at r;induction r with
 |nil=>erw[λ_=>.nil]
 |@cons p q ps qs h t ih=>
  intro ha;let#[h1,h2]:=h;let#[k,v]:=q;cases (show p.1=k from h1);have rest:=ih λp m=>ha p (av _ m)
  let#[i,ei]:=ha p (aN ..);rw[ei] at h2;let#[t1,rfl]:=h2;rw[bG,ei]
  have ro:=rb.val p.1;cases y:gO kb p.1 with
  |none=>
   rw[y] at ro;rw[decide_eq_false (λz=>nomatch z),qh]
   erw[.miss (mq.none_of ro)]
  |some u=>
   let#[j,rfl]:=IT hb y;rw[y] at ro;let#[w,ew,t2,rfl]:=mq.some_of ro;rw[show decide (ξ (V.int j)=ξ (V.int i))=(i==j) by rw[show(i==j)=decide (i=j) from rfl];exact decide_eq_decide.mpr #[λz=>by injection z with z;injection z with z;erw[z.symm],λz=>by rw[z]]]
   erw[.hit ew (pj _ _ _ _) rest]
def yV{l:List (Key×V)}{m:List (Key×Value)}(h:KV l m):m.map (·.1)=l.map (·.1):=by
 unfold KV at h;induction h with
 |nil=>rfl
 |cons h _ ih=>rw[aw,aw,ih,h.1]
def xP:∀{k:List (Key×V)},(k.map (·.1)).Nodup->∀p∈k,gO k p.1=ξ p.2
 |q::k,n,p,m=>by
  rw[aw,dW] at n;rcases aM.mp m with rfl|m
  .erw[jj rfl]
  .rw[jk λz=>n.1 (z▸k7 m)]
   erw[xP n.2 p m]
def QE{A:dC}{pZ:List (Addr×Obj)}{σ:St}{H:Hp}{s:aE}(I:Inv X pZ σ H s)(hu:A.units<d6){a b:Addr}{ka kb:List (Key×V)}(ha:H a=ξ (.dK ka))(hb:H b=ξ (.dK kb))(ia:F7 ka)(ib:F7 kb):X2 X.prog X.w A s (.ref a) (.ref b) (QD ka kb):=by
 intro E Q q;let#[za,sa,va,ra,da]:=(show dM X.prog X.w H s.heap a (.dK ka) from I.dE a _ ha)
 let#[zb,sb,vb,rb,db]:=(show dM X.prog X.w H s.heap b (.dK kb) from I.dE b _ hb)
 have la:va.length=ka.length:=by have:=congrArg cw (yV ra);rwa [ae,ae] at this
 have lb:vb.length=kb.length:=by have:=congrArg cw (yV rb);rwa [ae,ae] at this
 unfold eqBool;rwa[eY ?_];rwa[An (λz=>?_) (λ_=>?_)]
 .have z:a=b:=by have:=eq_of_beq z;injection this
  subst z;rw[ha] at hb;injection hb with hb;injection hb with hb
  subst hb;have e:QD ka ka=ζ:=by
   unfold QD;let#[_,_,_,_,_,_,_,_,n]:=da;rw[beq_self_eq_true,kn,bS]
   erw[λp m=>decide_eq_true (xP (by rw[<-yV ra];exact n) p m)]
  rw[e] at q;erw[af (mV (aC q))]
 .rwa[af (keq_eq sa sb da db hu (λ_=>MQ rb ib ra ia) (cP ?_))]
  rw[la,lb]
  erw[q]
abbrev IU(H:Hp)(as:List Addr)(ka:List (List (Key×V))):Prop:=ka.length=as.length/\∀(i:Nat)a k,as[i]?=ξ a->ka[i]?=ξ k->H a=ξ (.dK k)/\F7 k
abbrev X3(a b:List (List (Key×V))):Bool:=a.length==b.length&&(bC a.length).all λj=>QD (a.getD j []) (b.getD j [])
def QF(hu:X.A.units+200<d6):iw X (bH .Eq) (λx y H Q=>∃a b as bs ka kb,x=.ref a/\y=.ref b/\gX X.K H a (as.map V.ref)/\gX X.K H b (bs.map V.ref)/\IU H as ka/\IU H bs kb/\Q (.bl (X3 ka kb)) H):=by
 x_go;let#[a,b,as,bs,ka,kb,rfl,rfl,ha,hb,ra,rb,q]:=h;cases rx;cases ry;let#[its,r1,p1,_]:=I.list ha;let#[its2,r2,p2,_]:=I.list hb;have l1:=r1.length;have l2:=r2.length;rw[ae] at l1 l2;have ea:=ra.1;have eb:=rb.1;unfold X3 at q;by_cases z:as.length=bs.length
 .have hz:its.toArray.size=its2.toArray.size:=by rw[aD,aD];omega
  rwa[F6 (f:=λj=>QD (ka.getD j []) (kb.getD j [])) p1.isList p2.isList hz ∅ (λj h1 h2=>?_) #[.bl _,H,I,rfl,?_]]
  .have j1:j<as.length:=by rw[aD] at h1;omega
   have j2:j<bs.length:=∅
   let#[u1,e1,x1]:=r1.get (show(as.map V.ref)[j]?=ξ (.ref as[j]) by rw[aB,ab j1];rfl);let#[u2,e2,x2]:=r2.get (show(bs.map V.ref)[j]?=ξ (.ref bs[j]) by rw[aB,ab j2];rfl);cases (show u1=bp _ from x1);cases (show u2=bp _ from x2);have k1:=ab (l:=ka) (i:=j) ∅;have k2:=ab (l:=kb) (i:=j) ∅;let#[f1,f2]:=ra.2 j _ _ (ab j1) k1;let#[g1,g2]:=rb.2 j _ _ (ab j2) k2;rw[DL,DL,(ag.mp e1).2,(ag.mp e2).2,az,az,k1,k2]
   erw[QE I (by show X.A.units+1<d6;omega) f1 g1 f2 g2]
  .rw[ea,eb,z,beq_self_eq_true,kn] at q
   rw[aD,<-l1,z]
   erw[q]
 .rw[ea,eb,beq_eq_false_iff_ne.mpr z,qh] at q
  erw[uv p1.isList p2.isList (by rw[aD,aD];simp;omega) ∅ _ _ _ _ #[.bl _,H,I,rfl,q]]
end
section
variable{P:bK}{w:cx}{A:dC}{E:Value->aE->Prop}{s:aE}
def MR:uW (.type "list_reverseiterator") "__len__"=pure ψ:=by rw[Ak,rg];kernel_rfl
def IV:uW (.type "list_reverseiterator") "__length_hint__"=pure (ξ (.builtin "list_reverseiterator.__length_hint__")):=by rw[Ak,rg];kernel_rfl
def IW(hT:s.TypeIs (.ref r) "list_reverseiterator")(q:Q ϑ s):wpAny (bf P w) A (Builtin.List.listLengthHint (.ref r)) Q E s:=by
 unfold Builtin.List.listLengthHint;rwa[af (mf hT MR ?_)];show wpAny _ _ (specialOf (bp r) (cj "__length_hint__")>>=_) _ _ _;rwa[af (mf hT IV ?_)];generalize hid:("list_reverseiterator.__length_hint__":String)=i0
 wp_delta
 rw[show splitId i0=ξ ("list_reverseiterator","__length_hint__") from by subst hid;decide +kernel]
 subst hid;rwa[af (k6 (T:="list_reverseiterator") (b:=ζ) hT (by rw[isSubtype_type];kernel_rfl) ?_)];rw[if_neg ⋯]
 rwa[An (λ_=>?_) (λz=>absurd (by decide +kernel) z)];rw[if_neg ⋯]
 erw[aC q]
def MS(hh:A.handled=ψ)(hr:s.heap.IsRevIter r l ((xs.size:Int)-1))(hl:s.heap.IsList l xs)(rl:l≠r)(Sr:S≠r)(Sl:S≠l)(hS:s.heap.get? S=ξ {cls:=.type "list",data:=.seq #[] c})(hn:xs.size<=sizeLine)
  (h:∀h' tk ys c',(∀b o,b≠S->b≠r->s.heap.get? b=ξ o->h'.get? b=ξ o)->h'.get? S=ξ {cls:=.type "list",dict:=ψ,data:=.seq ys c',slots:=#[]}->ItemsOf (λi v=>xs[xs.size-1-i]?=ξ v) ys xs.size->R (.ok (.ret .none)) {s with heap:=h',toks:=tk}):
  wpAny (bf P w) A.in1 (Builtin.List.listExtendWith (.ref S) (.ref r) .none)
   (λf s'=>match f with|.done f=>R (.ok f) s'|.again k=>k.quiet=ζ/\oB (bf P w) A k R s') (λe s'=>R (.error e) s') s:=by
 unfold Builtin.List.listExtendWith;rwa[af (HA hr.typeIs ?_)];have e1:Builtin.List.listSameRef (.ref S) (.ref r)=ϑ:=by simp[Builtin.List.listSameRef,Sr]
 rw[if_neg (by rw[e1];decide)]
 rwa[af (sH hr ?_)];rwa[af (eY (IW hr.typeIs ?_))];rwa[An (λz=>absurd z (by decide +kernel)) (λ_=>?_)];rwa[aC #[oN PySem.F.plain_extend_loop _,?_]];have W:=Walks.listRev (prog:=P) (w:=w) (A:=A.in1) hh r l rl xs;refine codeAny_extend_loopS W.toS hn S (by simp[Sr,Sl]) .none xs.size 0 s #[] c rfl (bJ _) #[bJ _,~~~hr,hl] hS (ItemsOf.nil _) λs' ys c' m hS' hy=>?_
 rw[Moved.eq_with m]
 erw[h _ _ ys c' (λb o h1 h2 e=>m.heap b o (by simp[h1,h2]) e) hS' hy]
def F8(hh:A.handled=ψ)(hr:s.heap.IsRevIter r l ((xs.size:Int)-1))(hl:s.heap.IsList l xs)(rl:l≠r)(hn:xs.size<=sizeLine)
  (h:∀h' tk ys c',(∀b o,b≠r->s.heap.get? b=ξ o->h'.get? b=ξ o)->h'.get? s.heap.objs.size=ξ {cls:=.type "list",dict:=ψ,data:=.seq ys c',slots:=#[]}->ItemsOf (λi v=>xs[xs.size-1-i]?=ξ v) ys xs.size->Q (.ref s.heap.objs.size) {s with heap:=h',toks:=tk}):
  wpAny (bf P w) A (call (.type "list") [.ref r]) Q E s:=by
 have lr:r<s.heap.objs.size:=let ⟨_,e,_⟩:=hr;aO e;have ll:l<s.heap.objs.size:=let ⟨_,e,_⟩:=hl;aO e;refine callType_codes (Q₁:=λv s1=>v=.ref s.heap.objs.size/\s1={s with heap:=s.heap.push {cls:=.type "list",data:=.seq #[]} }) PySem.F.called_list (PySem.F.typeCall_list_1 _) PySem.F.entry_list_init (code_list_new _ #[rfl,rfl]) λv s1 e=>?_
 let#[rfl,rfl]:=e;have hS:(s.heap.push {cls:=.type "list",data:=.seq #[]}).get? s.heap.objs.size=ξ {cls:=.type "list",data:=.seq #[]}:=aX _ rfl;refine#[#[_,hS,rfl],PySem.F.args_list_init_2 _ _,?_];show wpAny _ _ (Builtin.List.listItems (.ref s.heap.objs.size)>>=_) _ _ _;rwa[af ?_];unfold Builtin.List.listItems;rwa[af (sF hS rfl (aC ?_))];show wpAny _ _ (updateSeq s.heap.objs.size (λ_=>#[])>>=_) _ _ _;rwa[af (wpAny_updateSeq hS rfl ?_)];have k1:∀b o,b≠s.heap.objs.size->s.heap.get? b=ξ o->((s.heap.push {cls:=.type "list",data:=.seq #[]}).update s.heap.objs.size (mh λ_=>(#[]:Array Value))).get? b=ξ o:=λb o nb e=>(oC _ _ (cM nb)).trans (aG _ e)
 rwa[af (wpAny_letGo ?_)];refine MS (A:=A.in1) hh (hr.at λo e=>k1 r o (aV lr) e) (hl.at λo e=>k1 l o (aV ll) e) rl (cD lr) (cD ll) (gS (mh λ_=>(#[]:Array Value)) hS rfl) hn λh' tk ys c' k2 hS' hy=>?_
 exact#[rfl,h _ _ ys c' (λb o nb e=>k2 b o (aV (aO e)) nb (k1 b o (aV (aO e)) e)) hS' hy]
end
section
variable{X:Cx}
abbrev Vp(K:aJ)(ta:TA):TE:=λσ H Q=>ta σ H λvs H1=>∃l xs,vs=[.ref l]/\gX K H1 l xs/\∀n,H1 n=ψ->Q (.ref n) (upd H1 n (.lst xs.reverse))
def MT(hc:X.calm=ζ)(hg:Gl X "list")(hm:X.mg "list"=ψ)(hg2:Gl X "reversed")(hm2:X.mg "reversed"=ψ)(ha:PA X [a] ta)(hs:bz [a] X.env=[(ϑ,eval a X.env)]):
  PE X (.Call (.Name "list" p) [.Call (.Name "reversed" p2) [a] [] pos2] [] pos) (Vp X.K ta):=by
 k_ne;rwa[dS (mr I hg hm boot_list ?_)];rwa[dg ?_ rfl rfl];show wpAny _ _ (spliced ((ϑ,eval (.Call (.Name "reversed" p2) [a] [] pos2) X.env)::[])) _ _ s;rwa[gu ?_];rwa[Call_ (mr I hg2 hm2 boot_reversed (dg (eG (ha pos2 pZ s σ H _ I h) λus s1 h9=>?_) hs rfl))];let#[vs,H1,I1,r1,q1]:=h9;let#[l,xs,e,hq,q]:=q1;subst e;cases r1 with
 |cons r rr=>
  cases rr;cases r;let#[its,rv,p,hz]:=I1.list hq;have el:=rv.length;have ll:l<s1.heap.objs.size:=let ⟨_,e,_⟩:=p.isList;aO e;rwa[call_reversed_list p.isList (jv ?_)];refine F8 (r:=s1.heap.objs.size) (l:=l) (xs:=its.toArray) (I1.ok.hd hc) #[_,aX _ rfl,rfl,rfl] (p.isList.at λo e=>aG _ e) (aV ll) (by rw[aD,<-el];erw[hz]) λh' tk ys c' k hS hy=>?_
  have ey:ys.toList=its.reverse:=by
   rwa[HC λj=>?_]
   have y1:ys.size=its.length:=hy.1.trans aD;have y2:=hy.2;rw[BV]
   by_cases z:j<ys.size
   .have:=y2 j _ (cC z)
    rw[aD,List.getElem?_toArray] at this;rw[cC z,pv ∅,this]
   .rw[gw ∅,cL (by rw[k8];omega)]
  have sz:(s1.heap.push (revObj l ((its.toArray.size:Int)-1))).objs.size=s1.heap.objs.size+1:=fQ ..;rw[sz] at hS ⊢;refine#[.ref (s1.heap.objs.size+1),_,I1.laid (a:=s1.heap.objs.size+1) (o:=.lst xs.reverse) (t':=tk) (λb o e=>k b o (aV (aO e)) (aG _ e)) (iK _) #[%[k8|hz],ys.toList,c',ey▸rv.reverse,?_],rfl,q _ (I1.dE.fresh (iK _))];rw[Ca];erw[hS]
end
end L2
namespace PL
section
variable{S:bM}{Q:KU}{q:Bool->Prop}{r:U->Prop}{i j:Int}{a b:List Nat}{x y:U}{us vs:List U}{m n:Nat}
def QG:kG .add (.int i) (.int j) S Q=Q (.int (i+j)) S:=rfl
def QH:kG .add (.str a) (.str b) S Q=(a.length+b.length<=1000000/\Q (.str (a++b)) S):=rfl
def Y6:kG .add (.tup us) (.tup vs) S Q=((us≠[]/\us.length+vs.length<=1000000)/\Q (.tup (us++vs)) S):=rfl
def Y7:kG .add (.loc m) (.loc n) S Q=getL S[m]? λa=>getL S[n]? λb=>a.length+b.length<=1000000/\Q (.loc S.length) (S++[.lst (a++b)]):=rfl
def QJ:kG .sub (.int i) (.int j) S Q=Q (.int (i-j)) S:=rfl
def Y8:kG .mul (.int i) (.int j) S Q=(((-(2^64)<i/\i<2^64)\/(-(2^64)<j/\j<2^64))/\Q (.int (i*j)) S):=rfl
def X4:kG .fdiv (.int i) (.int j) S Q=((0<j/\j<1073741824)/\Q (.int (i/j)) S):=rfl
def Y9:kG .mod (.int i) (.int j) S Q=(0<j/\Q (.int (i%j)) S):=rfl
def MU:kG .band (.int i) (.int j) S Q=((0<=i/\0<=j)/\Q (.int ((i.toNat&&&j.toNat:Nat):Int)) S):=rfl
def QK:kG .bor (.int i) (.int j) S Q=((0<=i/\0<=j)/\Q (.int ((i.toNat|||j.toNat:Nat):Int)) S):=rfl
def QL:kG .shl (.int i) (.int j) S Q=((0<=i/\i<1000/\0<=j/\j<=1000)/\Q (.int (i*2^j.toNat)) S):=rfl
def QM:kG .shr (.int i) (.int j) S Q=((0<=i/\0<=j)/\Q (.int (i/2^j.toNat)) S):=rfl
def aaI:yR o (.int i) y S Q=kG o (.int i) y S Q:=rfl
def aaJ:yR o (.str a) y S Q=kG o (.str a) y S Q:=rfl
def Vq:iP .eq (.int i) y S q=wu (.int i) y q:=rfl
def Eb:iP .eq (.str a) y S q=wu (.str a) y q:=rfl
def aaK:iP .eq .cf y S q=wu .cf y q:=rfl
def Vr:iP .eq (.tup us) y S q=wu (.tup us) y q:=rfl
def Vs:iP .ne (.int i) y S q=(AX (.int i) y=ζ/\wu (.int i) y λb=>q !b):=rfl
def aaL:iP .ne (.str a) y S q=(AX (.str a) y=ζ/\wu (.str a) y λb=>q !b):=rfl
def aaM:iP .ne .cf y S q=(AX .cf y=ζ/\wu .cf y λb=>q !b):=rfl
def aaN:iP .ne (.tup us) y S q=XZ (.tup us) y q:=rfl
def abO:(AX (.int i) y=ζ)=True:=eq_true rfl
def abP:(AX (.str a) y=ζ)=True:=eq_true rfl
def abQ:(AX .cf y=ζ)=True:=eq_true rfl
def abR:iP .lt (.int i) (.int j) S q=q (decide (i<j)):=rfl
def abS:iP .le (.int i) (.int j) S q=q (decide (i<=j)):=rfl
def abT:iP .gt (.int i) (.int j) S q=q (decide (j<i)):=rfl
def abU:iP .ge (.int i) (.int j) S q=q (decide (j<=i)):=rfl
def QN:∀{b:List Nat},i4 [c] b=b.contains c
 |[]=>rfl
 |x::xs=>by
  rw[i4,QN (b:=xs),He]
  simp[List.isPrefixOf]
def MV:iP .isin (.str [k]) (.str b) S q=q (b.contains k):=by
 rw[<-QN];rfl
def MX:iP .qo (.str [k]) (.str b) S q=q !(b.contains k):=by
 rw[<-QN];rfl
def A4:iP .isin (.str a) (.tab kvs) S q=q (kvs.lookup a).isSome:=rfl
def QP:iP .isin x (.tup us) S q=qE x us q:=rfl
def QQ:iP .qo x (.tup us) S q=qE x us λb=>q !b:=rfl
def QR:iP .isin x (.loc n) S q=getL S[n]? λus=>qE x us q:=rfl
def Zc:iP .qo (.str a) (.loc n) S q=getL S[n]? λus=>qE (.str a) us λb=>q !b:=rfl
def Zd:iP .Qu x .cf S q=q (xM x):=rfl
def QS:iP .FO x .cf S q=q (!xM x):=rfl
def ew(h1:IG x y=ζ)(h2:CO x=ζ)(h3:CO y=ζ)(h4:dep x<=100)(h:Hm x y=v):wu x y q=q v:=by
 rw[<-h];erw[propext #[λz=>z.2,λz=>#[#[h1,h2,h3,h4],z]]]
def Vt:wu (.int i) (.int j) q=q (i==j):=ew rfl rfl rfl (bJ _) rfl
def MY:wu (.str a) (.str b) q=q (a==b):=ew rfl rfl rfl (bJ _) rfl
def abV:wu .cf .cf q=q ζ:=ew rfl rfl rfl (bJ _) rfl
def abW{a b:Bool}:wu (.bl a) (.bl b) q=q (a==b):=ew rfl rfl rfl (bJ _) rfl
def abX:wu (.int i) .cf q=q ϑ:=ew rfl rfl rfl (bJ _) rfl
def abY:wu .cf (.int i) q=q ϑ:=ew rfl rfl rfl (bJ _) rfl
def abZ:wu (.int i) (.str a) q=q ϑ:=ew rfl rfl rfl (bJ _) rfl
def ab0:wu (.str a) (.int i) q=q ϑ:=ew rfl rfl rfl (bJ _) rfl
def Vu(l:List (List Nat)):(l.map U.str).all flat=ζ:=bS.mpr λu m=>by let#[x,_,rfl]:=bO.mp m;rfl
def anyS{l:List (List Nat)}:qE (.str a) (l.map .str) q=q (l.any (·==a)):=by
 rwa[propext #[λz=>?_,λz=>#[#[rfl,Vu l],?_]]]
 .have:=z.2;rw[BW] at this;erw[this]
 .rw[BW];erw[z]
def OS:CP (.str a) (.int i) S r=(a.length<=1000000/\opt (sW a i) λc=>r (.str [c])):=rfl
def Ec:CP (.tup us) (.int i) S r=(us.length<=1000000/\opt (sW us i) r):=rfl
def aaO:CP (.sV ns) (.int i) S r=(ns.length<=1000000/\opt (sW ns i) λn=>r (.int n)):=rfl
def IX:CP (.loc n) (.int i) S r=getL S[n]? λus=>opt (sW us i) r:=rfl
def yP:CP (.tab kvs) (.str a) S r=opt (kvs.lookup a) λv=>r (.str v):=rfl
def i8{f:String}:oX (.loc n) f S r=qD S[n]? λ_ fs=>opt (fs.lookup f) r:=rfl
def Vv:oh S (.str a)=ξ a.length:=rfl
def aaP:oh S (.tup us)=ξ us.length:=rfl
def aaQ:oh S (.sV ns)=ξ ns.length:=rfl
def lS(h:S[n]?=ξ (.lst us)):oh S (.loc n)=ξ us.length:=by delta oh;dsimp only;rw[h]
def aaR:vw S (.bl c)=ξ c:=rfl
def aaS:vw S .cf=ξ ϑ:=rfl
def aaT:vw S (.int i)=ξ (i !=0):=rfl
def aaU:vw S (.sV ns)=ξ (ns.length !=0):=rfl
def aaV:qF .len [x] S Q=opt (oh S x) λn=>n<=1000000/\Q (.int n) S:=rfl
def X5:qF .tuple [.loc n] S Q=getL S[n]? λus=>Q (.tup us) S:=rfl
def Ze:qF .list [.loc n] S Q=getL S[n]? λus=>Q (.loc S.length) (S++[.lst us]):=rfl
def X6:qF .list [.tup us] S Q=(us.length<=1000000/\Q (.loc S.length) (S++[.lst us])):=rfl
def aaW:qF .all [.loc n] S Q=(∃bs:List Bool,S[n]?=ξ (.lst (bs.map .bl))/\Q (.bl (bs.all id)) S):=rfl
def aaX:qF .any [.loc n] S Q=(∃bs:List Bool,S[n]?=ξ (.lst (bs.map .bl))/\Q (.bl (bs.any id)) S):=rfl
def Zf:qF .dict [.loc n] S Q=(∃ps:List (List Nat×U),S[n]?=ξ (.lst (ps.map λp=>.tup [.str p.1,p.2]))/\(ps.map (·.1)).Nodup/\Q (.loc S.length) (S++[.dZ (ps.map λp=>(.str p.1,p.2))])):=rfl
def Zg:rK .nh (.int i) [] S Q=(0<=i/\Q (.int (tZ i.toNat:Nat)) S):=rfl
def aaY:rK .get (.loc n) [.str a,x] S Q=getD S[n]? λkvs=>∃ps:List (List Nat×U),kvs=(ps.map λp=>(U.str p.1,p.2))/\Q ((ps.lookup a).getD x) S:=rfl
def X7:uk .nh (.int i) S=True:=rfl
def Zh:uk .get (.loc n) S=jm S[n]? λ_=>True:=rfl
def Zi:rK .get (.loc n) [.str a] S Q=jm S[n]? λkvs=>nj (.str a)=ζ/\Q ((uC (.str a) kvs).getD .cf) S:=rfl
def Vw:MJ (.loc n) y S r=jm S[n]? λkvs=>nj y=ζ/\opt (uC y kvs) r:=rfl
def Zj:iP .CM x (.loc n) S q=jm S[n]? λkvs=>nj x=ζ/\q (uC x kvs).isNone:=rfl
def Zk:rK .og (.loc n) [x,y] S Q=qp S n x y Q:=rfl
def D1:uk .join (.str a) S=True:=rfl
def AS:uk .index (.str a) S=True:=rfl
def xN:uk .startswith (.str a) S=True:=rfl
def sO:uk .append (.loc n) S=getL S[n]? λ_=>True:=rfl
def Zl:qF .FP [.loc n] S Q=getL S[n]? λus=>Q (.loc S.length) (S++[.lst us.reverse]):=rfl
def xF:uk .extend (.loc n) S=getL S[n]? λ_=>True:=rfl
def Zm:rK .join (.str a) [.loc n] S Q=(∃ts:List (List Nat),S[n]?=ξ (.lst (ts.map .str))/\(ts.map cw).sum+ts.length*a.length<=1000000/\Q (.str (lR a ts)) S):=rfl
def X8:rK .index (.str a) [.str b] S Q=(∃c,b=[c]/\c∈a/\Q (.int (a.idxOf c:Nat)) S):=rfl
def Vx:rK .startswith (.str a) [.str b] S Q=Q (.bl (b.isPrefixOf a)) S:=rfl
def Vy:rK .append (.loc n) [x] S Q=getL S[n]? λus=>us.length<1000000/\Q .cf (S.set n (.lst (us++[x]))):=rfl
def Vz:rK .extend (.loc n) [.loc m] S Q=getL S[n]? λus=>getL S[m]? λws=>us.length+ws.length<=1000000/\Q .cf (S.set n (.lst (us++ws))):=rfl
def v_s:IK (.str a) S R=R (a.map λc=>.str [c]) (λ_=>True):=rfl
def v_t:IK (.tup us) S R=(us.length<=1000000/\R us (λ_=>True)):=rfl
def v_l:IK (.loc n) S R=getL S[n]? λus=>R us (λS'=>S'[n]?=ξ (.lst us)):=rfl
def bind_f:qr ϑ x caps k=k (ξ x::caps):=rfl
def Zn:qr ζ x caps k=OQ x λa b=>k (ξ a::ξ b::caps):=rfl
def kH{α:Type}{xs:List α}{k:Nat}:sW xs (k:Int)=xs[k]?:=by
 unfold sW IJ;rw[if_pos ∅]
 split
 .simp
 .rename_i h
  rw[cL ∅]
  rfl
def mC{α:Type}{x:α}{xs:List α}:sW (x::xs) 0=ξ x:=by
 have:=kH (xs:=x::xs) (k:=0);simpa using this
def qe{α:Type}{x y:α}{xs:List α}:sW (x::y::xs) 1=ξ y:=by
 have:=kH (xs:=x::y::xs) (k:=1);simpa using this
end
def vy{α:Type}{o:Option α}{Q Q':α->Prop}(h:∀a,Q a->Q' a)(w:opt o Q):opt o Q':=by
 cases o with
 |none=>erw[w]
 |some a=>erw[h a w]
def sY{o:Option SO}{Q Q':List U->Prop}(h:∀a,Q a->Q' a)(w:getL o Q):getL o Q':=by
 let#[a,e,z]:=cU.mp w;erw[cU.mpr #[a,e,h a z]]
def A5(h:∀b,Q b->Q' b)(w:wu x y Q):wu x y Q':=#[w.1,h _ w.2]
def pK(h:∀b,Q b->Q' b)(w:qE x us Q):qE x us Q':=#[w.1,h _ w.2]
def rL{x:U}{Q Q':Int->Prop}(h:∀b,Q b->Q' b)(w:lK x Q):lK x Q':=by
 cases x<;>first|exact h _ w|exact w
def vz{x:U}{Q Q':List Nat->Prop}(h:∀b,Q b->Q' b)(w:OR x Q):OR x Q':=by
 cases x<;>first|exact h _ w|exact w
def A6(h:Q->Q')(w:XY x Q):XY x Q':=by
 cases x<;>first|exact h w|exact w
def IY(h:∀b,Q b->Q' b)(w:XZ x y Q):XZ x y Q':=#[w.1,A5 (λb z=>h _ z) w.2]
def IZ(h:∀b,Q b->Q' b)(w:sE x Q):sE x Q':=by
 cases x<;>first|exact h _ w|exact w
def C0(h:∀a,Q a->Q' a)(w:jm o Q):jm o Q':=by
 let#[a,e,z]:=i7.mp w;erw[i7.mpr #[a,e,h a z]]
def xQ(h:∀b,Q b->Q' b)(w:iP o x y S Q):iP o x y S Q':=by
 cases o with
 |eq=>erw[A5 h w]
 |ne=>erw[IY h w]
 |T5=>let#[n,m,ls,ls',ps,qs,e1,e2,e3,e4,e5,e6,w]:=w;exact#[n,m,ls,ls',ps,qs,e1,e2,e3,e4,e5,e6,h _ w]
 |isin=>cases y<;>first|exact vz (λ_ z=>h _ z) w|exact pK h w|exact sY (λ_ z=>pK h z) w|exact w
 |qo=>cases y<;>first|exact vz (λ_ z=>h _ z) w|exact pK (λb z=>h _ z) w|exact sY (λ_ z=>pK (λb z=>h _ z) z) w|exact w
 |Qu=>erw[A6 (h _) w]
 |FO=>erw[A6 (h _) w]
 |CM=>erw[IZ (λ_ z=>C0 (λ_ z=>#[z.1,h _ z.2]) z) w]
 |_=>erw[rL (λ_ z=>rL (λ_ z=>h _ z) z) w]
def I8{x y:U}{S:bM}{Q Q':U->Prop}(h:∀b,Q b->Q' b)(w:CP x y S Q):CP x y S Q':=by
 cases x<;>first|exact rL (λ_ z=>#[z.1,vy (λ_ z=>h _ z) z.2]) w|exact rL (λ_ z=>sY (λ_ z=>vy (λ_ z=>h _ z) z) z) w|exact vz (λ_ z=>vy (λ_ z=>h _ z) z) w|exact w
abbrev Keeps(Γ:cv)(b:dG)(k:Nat)(sp:Spec):Prop:=∀us S Q,sp us S Q->um Γ b #[λ_ S1=>Q .cf S1,Q] (us.map ξ++wZ k ψ) S
section
variable{Γ:cv}{D:Ends}{env:Env}{S:bM}{i:Nat}{e o:Ex}{c:Tx}{a b ss:dG}{s:Sm}{f:String}
abbrev Rest(Γ:cv)(ss:dG)(D:Ends)(env:Env)(S:bM):Prop:=um Γ ss D env S
def Rest.go(h:um Γ ss D env S):Rest Γ ss D env S:=h
def aaZ:um Γ .nil D env S=D.nx env S:=rfl
def Zo:um Γ (.cons s ss) D env S=WS Γ s #[λen S1=>um Γ ss D en S1,D.rt] env S:=rfl
def aa0:WS Γ (.ifs c a b) D env S=WT Γ c env S (λt S1=>if t=ζ then um Γ a D env S1 else um Γ b D env S1):=rfl
def aa1:WS Γ (.B1 c b) D env S=∃n,yS (λen S1 k=>WT Γ c en S1 k) (λen S1 k=>um Γ b #[k,D.rt] en S1) D.nx n env S:=rfl
def aa2:WS Γ (.T6 a) D env S=um Γ a D env S:=rfl
variable{Q:KU}{e1 e2:Ex}{es ks:z7}{P:List U->bM->Prop}{B:Bool->bM->Prop}{q m:String}{t1 t2:Tx}{O:Option Int->bM->Prop}{R:List U->(bM->Prop)->bM->Prop}
def w_var:WE Γ (.var i) env S Q=yQ env[i]? λu=>Q u S:=rfl
def w_lit{u:U}:WE Γ (.lit u) env S Q=Q u S:=rfl
def aa3{o:FN}:WE Γ (.bin o e1 e2) env S Q=WE Γ e1 env S (λx S1=>WE Γ e2 env S1 (λy S2=>kG o x y S2 Q)):=rfl
def aa4:WE Γ (.neg e1) env S Q=WE Γ e1 env S (λx S1=>lK x λi=>Q (.int (-i)) S1):=rfl
def w_not:WE Γ (.not e1) env S Q=WE Γ e1 env S (λx S1=>IE x λb=>Q (.bl !b) S1):=rfl
def w_and:WE Γ (.and e1 e2) env S Q=WE Γ e1 env S (λx S1=>IE x λc=>if c=ζ then WE Γ e2 env S1 Q else Q (.bl ϑ) S1):=rfl
def w_or:WE Γ (.or e1 e2) env S Q=WE Γ e1 env S (λx S1=>IE x λc=>if c=ζ then Q (.bl ζ) S1 else WE Γ e2 env S1 Q):=rfl
def aa5{o:OP}:WE Γ (.cmp o e1 e2) env S Q=WE Γ e1 env S (λx S1=>WE Γ e2 env S1 (λy S2=>iP o x y S2 λr=>Q (.bl r) S2)):=rfl
def aa6:WE Γ (.Hk c e1 e2) env S Q=WT Γ c env S (λt S1=>if t=ζ then WE Γ e1 env S1 Q else WE Γ e2 env S1 Q):=rfl
def Zp:WE Γ (.call f es) env S Q=wO Γ es env S (λus S1=>Γ f us S1 Q):=rfl
def w_mk:WE Γ (.mk f q es) env S Q=wO Γ es env S (λus S1=>Γ q (.loc S1.length::us) (S1++[.ins f []]) (λv S2=>v=.cf/\Q (.loc S1.length) S2)):=rfl
def Zq:WE Γ (.df f m q o es) env S Q=WE Γ o env S (λx S1=>sE x λn=>qD S1[n]? λc' fs=>(c'=f/\fs.lookup m=ψ)/\wO Γ es env S1 (λus S2=>Γ q (x::us) S2 Q)):=rfl
def aa7{b:Vi}:WE Γ (.blt b es) env S Q=wO Γ es env S (λus S1=>qF b us S1 Q):=rfl
def aa8{b:Qv}:WE Γ (.j6 b o es) env S Q=WE Γ o env S (λx S1=>uk b x S1/\wO Γ es env S1 (λus S2=>rK b x us S2 Q)):=rfl
def w_fld:WE Γ (.fld o f) env S Q=WE Γ o env S (λx S1=>oX x f S1 λv=>Q v S1):=rfl
def ab2:WE Γ (.ix e1 e2) env S Q=WE Γ e1 env S (λx S1=>WE Γ e2 env S1 (λy S2=>CP x y S2 λv=>Q v S2)):=rfl
def ab3{lo hi:Ox}:WE Γ (.sl o lo hi) env S Q=WE Γ o env S (λx S1=>WO Γ lo env S1 (λl S2=>WO Γ hi env S2 (λh S3=>T8 x l h S3 Q))):=rfl
def aa9:WE Γ (.tup es) env S Q=wO Γ es env S (λus S1=>us.length<=1000000/\Q (.tup us) S1):=rfl
def aba:WE Γ (.lst es) env S Q=wO Γ es env S (λus S1=>us.length<=1000000/\Q (.loc S1.length) (S1++[.lst us])):=rfl
def Zr{pr:Bool}{it:It}{ci:List Nat}:WE Γ (.comp pr e it c ci) env S Q=WI Γ it env S (λus g S1=>mN g (λu S2 k=>qr pr u (mO env ci) λen=>WT Γ c en S2 k)
   (λu S2 k=>qr pr u (mO env ci) λen=>WE Γ e en S2 k) (λacc S3=>Q (.loc S3.length) (S3++[.lst acc])) us [] S1):=rfl
def abb:WE Γ (.Vj e1) env S Q=WE Γ e1 env S (λx S1=>IE x λ_=>Q (.bl ζ) S1):=rfl
def abc:wO Γ .nil env S P=P [] S:=rfl
def Zs:wO Γ (.cons e es) env S P=WE Γ e env S (λx S1=>wO Γ es env S1 (λxs S2=>P (x::xs) S2)):=rfl
def ab4:WO Γ .no env S O=O ψ S:=rfl
def ab5:WO Γ (.e e1) env S O=WE Γ e1 env S (λx S1=>lK x λj=>O (ξ j) S1):=rfl
def VA:WI Γ (.val e) env S R=WE Γ e env S (λx S1=>IK x S1 λus g=>R us g S1):=rfl
def abd:WI Γ (.range e) env S R=WE Γ e env S (λx S1=>lK x λn=>n<=1000000/\-(1000000:Int)<=n/\R ((bC n.toNat).map λk=>.int (k:Nat)) (λ_=>True) S1):=rfl
def Zt:WI Γ (.enum e) env S R=WE Γ e env S (λx S1=>sE x λn=>getL S1[n]? λus=>R (us.mapIdx λi u=>.tup [.int (i:Nat),u]) (λS'=>S'[n]?=ξ (.lst us)) S1):=rfl
def abe:WT Γ (.dk e) env S B=WE Γ e env S (λx S1=>opt (vw S1 x) λb=>B b S1):=rfl
def Zu:WT Γ (.not t1) env S B=WT Γ t1 env S (λb S1=>B (!b) S1):=rfl
def Zv:WT Γ (.and t1 t2) env S B=WT Γ t1 env S (λc S1=>if c=ζ then WT Γ t2 env S1 B else B ϑ S1):=rfl
def abf:WT Γ (.or t1 t2) env S B=WT Γ t1 env S (λc S1=>if c=ζ then B ζ S1 else WT Γ t2 env S1 B):=rfl
def sZ:um Γ (.cons s ss) D env S=WS Γ s #[λen S1=>Rest Γ ss D en S1,D.rt] env S:=rfl
def A7:um Γ .nil D env S=D.nx env S:=rfl
def Ed:WS Γ (.set i e) D env S=WE Γ e env S (λu S1=>D.nx (env.set i (ξ u)) S1):=rfl
def abg{p:FN}:WS Γ (.aug i p e) D env S=yQ env[i]? λx=>WE Γ e env S (λy S1=>yR p x y S1 λz S2=>D.nx (env.set i (ξ z)) S2):=rfl
def ab6:WS Γ (.ex e) D env S=WE Γ e env S (λ_ S1=>D.nx env S1):=rfl
def abh:WS Γ (.ret e) D env S=WE Γ e env S D.rt:=rfl
def abi:WS Γ (.ifs c a b) D env S=WT Γ c env S (λt S1=>if t=ζ then Rest Γ a D env S1 else Rest Γ b D env S1):=rfl
def VB:WS Γ (.B1 c b) D env S=∃n,yS (λen S1 k=>WT Γ c en S1 k) (λen S1 k=>Rest Γ b #[k,D.rt] en S1) D.nx n env S:=rfl
def VC{it:It}:WS Γ (.j7 (.name i) it b) D env S=WI Γ it env S (λus g S1=>wN g (λu en S2 k=>Rest Γ b #[k,D.rt] (en.set i (ξ u)) S2) D.nx us env S1):=rfl
def abj:WS Γ (.T6 a) D env S=Rest Γ a D env S:=rfl
def Zw:WS Γ (.ni o f e) D env S=WE Γ e env S (λu S1=>WE Γ o env S1 (λx S2=>sE x λn=>qD S2[n]? λc fs=>fs.length<100/\D.nx env (S2.set n (.ins c (iz f u fs))))):=rfl
def Zx:WS Γ (.CN o f p e) D env S=WE Γ o env S (λx S1=>sE x λn=>qD S1[n]? λc fs=>opt (fs.lookup f) λv=>
   WE Γ e env S1 (λy S2=>yR p v y S2 λz S3=>qD S3[n]? λc' fs'=>c'=c/\fs'.length<100/\D.nx env (S3.set n (.ins c (iz f z fs'))))):=rfl
def Zy:WS Γ (.FQ o j p e) D env S=WE Γ o env S (λx S1=>WE Γ j env S1 (λy S2=>sE x λn=>lK y λk=>getL S2[n]? λus=>0<=k/\opt (us[k.toNat]?) λv=>
   WE Γ e env S2 (λz S3=>yR p v z S3 λr S4=>getL S4[n]? λus'=>k.toNat<us'.length/\D.nx env (S4.set n (.lst (us'.set k.toNat r)))))):=rfl
def abk:WE Γ (.Hl e1 e2) env S Q=WE Γ e1 env S (λx S1=>WE Γ e2 env S1 (λy S2=>MJ x y S2 λv=>Q v S2)):=rfl
def vA:WE Γ (.dZ .nil .nil) env S Q=(0<=100/\(Q (.loc S.length) (S++[.dZ []])\/Q (.loc S.length) (S++[.uA []])\/Q (.loc S.length) (S++[.xK []]))):=rfl
def Zz:WI Γ (.keys e) env S R=WE Γ e env S (λx S1=>sE x λn=>jm S1[n]? λkvs=>R (kvs.map (·.1)) (λS'=>S'[n]?=ξ (.qC kvs)) (S1.set n (.qC kvs))):=rfl
def ZA{j:Ex}:WS Γ (.og o j e) D env S=WE Γ e env S (λu S1=>WE Γ o env S1 (λx S2=>WE Γ j env S2 (λy S3=>sE x λn=>getD S3[n]? λkvs=>(nj y=ζ/\uC y kvs=ψ/\kvs.length<1000000)/\D.nx env (S3.set n (.dZ (kvs++[(y,u)])))))):=rfl
def abl{it:It}{j:Nat}:WS Γ (.j7 (.pair i j) it b) D env S=WI Γ it env S (λus g S1=>wN g (λu en S2 k=>OQ u λx y=>Rest Γ b #[k,D.rt] ((en.set i (ξ x)).set j (ξ y)) S2) D.nx us env S1):=rfl
def ca{sp:Spec}{us:List U}{Q:KU}(h:Γ f=sp)(k:sp us S Q):Γ f us S Q:=%[h|k]
end
noncomputable abbrev SG:List Nat:=[10,32,33,34,35,36,38,39,40,41,42,43,44,45,46,47,48,49,50,51,52,53,54,55,56,57,58,59,60,61,62,63,64,65,66,67,68,69,70,71,72,73,74,75,76,77,78,79,80,81,82,83,84,85,86,87,88,89,90,91,92,93,94,95,96,97,98,99,100,101,102,103,104,105,106,107,108,109,110,111,112,113,114,115,116,117,118,119,120,121,122,123,124,125,126]
noncomputable abbrev SG1:List Nat:=[32,33,34,35,36,38,39,40,41,42,43,44,45,46,47,48,49,50,51,52,53,54,55,56,57,58,59,60,61,62,63,64,65,66,67,68,69,70,71,72,73,74,75,76,77,78,79,80,81,82,83,84,85,86,87,88,89,90,91,92,93,94,95,96,97,98,99,100,101,102,103,104,105,106,107,108,109,110,111,112,113,114,115,116,117,118,119,120,121,122,123,124,125,126]
abbrev nk:dG:=#v[.ret (.j6 .join (.lit (.str [])) #v[.comp ϑ @0 (.val (.lit (.str SG))) (.dk (.cmp .isin @0 @1)) [0]])]
abbrev pM:dG:=#v[.ret (.j6 .join (.lit (.str [])) #v[.comp ϑ @0 (.val (.lit (.str SG))) (.dk (.cmp .qo @0 @1)) [0]])]
abbrev nq:dG:=#v[.ret (.cmp .lt (.j6 .index (.lit (.str SG)) #v[@0]) (.j6 .index (.lit (.str SG)) #v[@1]))]
abbrev pN:dG:=#v[.ret (.sl (.lit (.str SG)) (.e (.j6 .index (.lit (.str SG)) #v[@0])) (.e (.bin .add (.j6 .index (.lit (.str SG)) #v[@1]) ↑1)))]
abbrev yW:dG:=#v[.set 1 (.mk "Reader" "Reader.__init__" #v[@0]),.set 2 (.df "Reader" "choice" "Reader.choice" @1 .nil),.ifs (.dk (.cmp .lt (.fld @1 "at") (.blt .len #v[@0]))) #v[.ex (.ix (.lit .cf) (.lit .cf))] .nil,.ret @2]
abbrev rM:dG:=#v[.ret (.Hk (.dk (.cmp .eq (.blt .len #v[@1]) ↑1)) (.ix @1 ↑0) (.tup #v[@0,.blt .tuple #v[@1]]))]
abbrev jN:dG:=#v[.ni @0 "text" @1,.ni @0 "at" ↑0,.ni @0 "depth" ↑0]
abbrev jO:dG:=#v[.ret (.and (.cmp .lt (.fld @0 "at") (.blt .len #v[.fld @0 "text"])) (.cmp .isin (.ix (.fld @0 "text") (.fld @0 "at")) @1))]
abbrev iS:dG:=#v[.ifs (.not (.dk (.df "Reader" "sees" "Reader.sees" @0 #v[@1]))) #v[.ex (.ix (.lit .cf) (.lit .cf))] .nil,.CN @0 "at" .add ↑1,.ret (.ix (.fld @0 "text") (.bin .sub (.fld @0 "at") ↑1))]
abbrev iT:dG:=#v[.set 1 (.lst #v[.df "Reader" "row" "Reader.row" @0 .nil]),.B1 (.dk (.df "Reader" "sees" "Reader.sees" @0 #v[↑[124]])) #v[.ex (.df "Reader" "passes" "Reader.passes" @0 #v[↑[124]]),.ex (.j6 .append @1 #v[.df "Reader" "row" "Reader.row" @0 .nil])],.ret (.call "joined" #v[↑[111,114],@1])]
abbrev kJ:dG:=#v[.set 1 (.lst #v[.df "Reader" "repeat" "Reader.repeat" @0 .nil]),.B1 (.and (.dk (.cmp .lt (.fld @0 "at") (.blt .len #v[.fld @0 "text"]))) (.not (.dk (.df "Reader" "sees" "Reader.sees" @0 #v[↑[124,41]])))) #v[.ex (.j6 .append @1 #v[.df "Reader" "repeat" "Reader.repeat" @0 .nil])],.ret (.call "joined" #v[↑[114,111,119],@1])]
abbrev iU:dG:=#v[.set 1 (.df "Reader" "atom" "Reader.atom" @0 .nil),.B1 (.dk (.df "Reader" "sees" "Reader.sees" @0 #v[↑[42,43,63]])) #v[.set 1 (.tup #v[.ix (.lit (.tab [([42],[115,116,97,114]),([43],[112,108,117,115]),([63],[109,97,121,98,101])])) (.df "Reader" "passes" "Reader.passes" @0 #v[↑[42,43,63]]),@1])],.ret @1]
abbrev jP:dG:=#v[.ifs (.dk (.df "Reader" "sees" "Reader.sees" @0 #v[↑[40]])) #v[.ret (.df "Reader" "bracket" "Reader.bracket" @0 .nil)] .nil,.ifs (.dk (.df "Reader" "sees" "Reader.sees" @0 #v[↑[91]])) #v[.ret (.tup #v[↑[111,110,101],.df "Reader" "sign_class" "Reader.sign_class" @0 .nil])] .nil,.ifs (.dk (.df "Reader" "sees" "Reader.sees" @0 #v[↑[46]])) #v[.ex (.df "Reader" "passes" "Reader.passes" @0 #v[↑[46]]),.ret (.tup #v[↑[111,110,101],.call "all_but" #v[↑[10]]])] .nil,.ret (.tup #v[↑[111,110,101],.df "Reader" "written_sign" "Reader.written_sign" @0 #v[↑[46,124,40,41,91,93,42,43,63,92]]])]
abbrev iA:dG:=#v[.ifs (.dk (.cmp .eq (.fld @0 "depth") ↑6)) #v[.ex (.ix (.lit .cf) (.lit .cf))] .nil,.ex (.df "Reader" "passes" "Reader.passes" @0 #v[↑[40]]),.CN @0 "depth" .add ↑1,.set 1 (.df "Reader" "choice" "Reader.choice" @0 .nil),.ex (.df "Reader" "passes" "Reader.passes" @0 #v[↑[41]]),.CN @0 "depth" .sub ↑1,.ret @1]
abbrev fH:dG:=#v[.ex (.df "Reader" "passes" "Reader.passes" @0 #v[↑[91]]),.set 1 (.df "Reader" "sees" "Reader.sees" @0 #v[↑[94]]),.ifs (.dk @1) #v[.ex (.df "Reader" "passes" "Reader.passes" @0 #v[↑[94]])] .nil,.set 2 (.df "Reader" "item" "Reader.item" @0 .nil),.B1 (.not (.dk (.df "Reader" "sees" "Reader.sees" @0 #v[↑[93]]))) #v[.aug 2 .add (.df "Reader" "item" "Reader.item" @0 .nil)],.ex (.df "Reader" "passes" "Reader.passes" @0 #v[↑[93]]),.ret (.Hk (.dk @1) (.call "all_but" #v[@2]) (.call "in_order" #v[@2]))]
abbrev jQ:dG:=#v[.set 1 (.df "Reader" "written_sign" "Reader.written_sign" @0 #v[↑[93,45,92]]),.ifs (.not (.dk (.df "Reader" "sees" "Reader.sees" @0 #v[↑[45]]))) #v[.ret @1] .nil,.ex (.df "Reader" "passes" "Reader.passes" @0 #v[↑[45]]),.set 2 (.fld @0 "at"),.set 3 (.df "Reader" "written_sign" "Reader.written_sign" @0 #v[↑[93,45,92]]),.ifs (.dk (.call "is_ahead" #v[@3,@1])) #v[.ex (.ix (.lit .cf) (.lit .cf))] .nil,.ret (.call "stretch" #v[@1,@3])]
abbrev eR:dG:=#v[.ifs (.not (.dk (.df "Reader" "sees" "Reader.sees" @0 #v[↑[92]]))) #v[.ret (.df "Reader" "passes" "Reader.passes" @0 #v[.call "all_but" #v[@1]])] .nil,.ex (.df "Reader" "passes" "Reader.passes" @0 #v[↑[92]]),.set 2 (.df "Reader" "passes" "Reader.passes" @0 #v[↑[46,124,40,41,91,93,42,43,63,92,45,94,110]]),.ret (.Hk (.dk (.cmp .eq @2 ↑[110])) ↑[10] @2)]
abbrev pO:dG:=#v[.ifs (.dk (.cmp .eq (.ix @0 ↑0) ↑[111,114])) #v[.ret (.j6 .join ↑[124] #v[.comp ϑ (.call "row_text" #v[@0]) (.val (.ix @0 ↑1)) (.dk (.lit (.bl ζ))) []])] .nil,.ret (.call "row_text" #v[@0])]
abbrev nv:dG:=#v[.ifs (.dk (.cmp .eq (.ix @0 ↑0) ↑[114,111,119])) #v[.ret (.j6 .join (.lit (.str [])) #v[.comp ϑ (.call "repeat_text" #v[@0]) (.val (.ix @0 ↑1)) (.dk (.lit (.bl ζ))) []])] .nil,.ret (.call "repeat_text" #v[@0])]
abbrev jR:dG:=#v[.set 1 (.lit (.str [])),.set 2 @0,.B1 (.dk (.cmp .isin (.ix @2 ↑0) (.lit (.tab [([115,116,97,114],[42]),([112,108,117,115],[43]),([109,97,121,98,101],[63])])))) #v[.set 1 (.bin .add (.ix (.lit (.tab [([115,116,97,114],[42]),([112,108,117,115],[43]),([109,97,121,98,101],[63])])) (.ix @2 ↑0)) @1),.set 2 (.ix @2 ↑1)],.ret (.bin .add (.call "atom_text" #v[@2]) @1)]
abbrev lT:dG:=#v[.ifs (.dk (.cmp .eq (.ix @0 ↑0) ↑[111,110,101])) #v[.ret (.call "place_text" #v[.ix @0 ↑1])] .nil,.ret (.bin .add (.bin .add ↑[40] (.call "written" #v[@0])) ↑[41])]
abbrev kK:dG:=#v[.ifs (.dk (.cmp .eq (.blt .len #v[@0]) ↑1)) #v[.ret (.call "sign_text" #v[@0,↑[46,124,40,41,91,93,42,43,63,92]])] .nil,.ifs (.dk (.cmp .eq @0 (.call "all_but" #v[↑[10]]))) #v[.ret ↑[46]] .nil,.ret (.blt .vv #v[.call "class_texts" #v[@0]])]
abbrev lU:dG:=#v[.ret (.Hk (.dk (.cmp .isin @0 @1)) (.bin .add ↑[92] @0) @0)]
abbrev jS:dG:=#v[.set 1 (.lst .nil),.ifs (.dk (.cmp .ne @0 (.lit (.str [])))) #v[.ex (.j6 .append @1 #v[.bin .add (.bin .add ↑[91] (.call "guarded" #v[.call "class_items" #v[@0]])) ↑[93]])] .nil,.ifs (.dk (.cmp .ne @0 (.lit (.str SG)))) #v[.ex (.j6 .append @1 #v[.bin .add (.bin .add ↑[91,94] (.j6 .join (.lit (.str [])) #v[.call "class_items" #v[.call "all_but" #v[@0]]])) ↑[93]])] .nil,.ret @1]
abbrev pP:dG:=#v[.ifs (.not (.dk (.j6 .startswith (.ix @0 ↑0) #v[↑[94]]))) #v[.ret (.j6 .join (.lit (.str [])) #v[@0])] .nil,.ifs (.dk (.cmp .eq (.blt .len #v[@0]) ↑1)) #v[.ret (.bin .add ↑[92] (.ix @0 ↑0))] .nil,.ret (.bin .add (.j6 .join (.lit (.str [])) #v[.sl @0 (.e ↑1) .no]) (.ix @0 ↑0))]
abbrev jT:dG:=#v[.set 1 (.lst .nil),.j7 (.name 2) (.val (.call "runs" #v[@0])) #v[.ex (.j6 .extend @1 #v[.call "run_items" #v[@2]])],.ret @1]
abbrev yX:dG:=#v[.set 1 (.lst .nil),.set 2 (.lit (.str [])),.j7 (.name 3) (.val @0) #v[.ifs (.dk (.cmp .qo (.bin .add @2 @3) (.lit (.str SG)))) #v[.ex (.j6 .append @1 #v[@2]),.set 2 (.lit (.str []))] .nil,.aug 2 .add @3],.ex (.j6 .append @1 #v[@2]),.ret @1]
abbrev lV:dG:=#v[.set 1 (.comp ϑ (.call "sign_text" #v[@0,↑[93,45,92]]) (.val @0) (.dk (.lit (.bl ζ))) []),.set 2 (.bin .add (.bin .add (.call "sign_text" #v[.ix @0 ↑0,↑[93,45,92]]) ↑[45]) (.call "sign_text" #v[.ix @0 (.neg ↑1),↑[93,45,92]])),.ret (.Hk (.dk (.cmp .le (.blt .len #v[.j6 .join (.lit (.str [])) #v[@1]]) (.blt .len #v[@2]))) @1 (.lst #v[@2]))]
end PL
namespace PL.uF
abbrev lW:dG:=#v[.ifs (.dk @0) #v[.ret (.ix @0 (.bin .mod @1 (.blt .len #v[@0])))] .nil,.ret ↑0]
abbrev ny:dG:=#v[.set 2 (.bin .mod (.bin .add (.call "_law_cell" #v[@0,@1]) (.bin .mul ↑104729 (.bin .add @1 ↑1))) ↑4294967291),.set 2 (.bin .mod (.bin .mul @2 ↑48271) ↑4294967279),.ret (.bin .mod (.bin .add (.bin .mul (.bin .fdiv @2 ↑64) ↑69621) @2) ↑4294967231)]
abbrev nA:dG:=#v[.set 0 (.lit (.str SG1)),.ret (.bin .add ↑[10] @0)]
end PL.uF
namespace PL.nW
abbrev lX:dG:=#v[.set 2 (.mk "Layout" "Layout.__init__" .nil),.j7 (.pair 3 4) (.enum (.sl @0 .no (.e ↑6))) #v[.set 5 (.df "Layout" "lay" "Layout.lay" @2 #v[.call "tree_of" #v[@4,@3]]),.ifs (.dk (.fld @5 "empty")) #v[.ex (.ix (.lit .cf) (.lit .cf))] .nil,.ifs (.dk (.cmp .gt (.df "Layout" "how_many" "Layout.how_many" @2 .nil) @1)) #v[.ex (.ix (.lit .cf) (.lit .cf))] .nil,.ex (.df "Layout" "close_rule" "Layout.close_rule" @2 #v[@5])],.ifs (.dk (.cmp .gt (.blt .len #v[@0]) ↑6)) #v[.ex (.ix (.lit .cf) (.lit .cf))] .nil,.ret (.mk "Places" "Places.__init__" #v[@2])]
abbrev pQ:dG:=#v[.T6 #v[.ret (.call "read" #v[@0])]]
abbrev pR:dG:=#v[.ret (.comp ϑ @0 (.range (.j6 .nh @0 .nil)) (.dk (.bin .band (.bin .shr @1 @0) ↑1)) [0])]
abbrev lY:dG:=#v[.ni @0 "empty" @1,.ni @0 "firsts" @2,.ni @0 "lasts" @3]
abbrev fY:dG:=#v[.set 2 (.Hk (.dk (.fld @0 "empty")) (.bin .bor (.fld @0 "firsts") (.fld @1 "firsts")) (.fld @0 "firsts")),.set 3 (.Hk (.dk (.fld @1 "empty")) (.bin .bor (.fld @0 "lasts") (.fld @1 "lasts")) (.fld @1 "lasts")),.ret (.mk "Part" "Part.__init__" #v[.and (.fld @0 "empty") (.fld @1 "empty"),@2,@3])]
abbrev jo:dG:=#v[.ret (.mk "Part" "Part.__init__" #v[.or (.fld @0 "empty") (.fld @1 "empty"),.bin .bor (.fld @0 "firsts") (.fld @1 "firsts"),.bin .bor (.fld @0 "lasts") (.fld @1 "lasts")])]
abbrev jU:dG:=#v[.ni @0 "signs" (.lst #v[.lit (.str [])]),.ni @0 "behind" (.lst #v[↑0]),.ni @0 "ends" (.lst .nil)]
abbrev gI:dG:=#v[.ret (.bin .sub (.blt .len #v[.fld @0 "signs"]) ↑1)]
abbrev fI:dG:=#v[.FQ (.fld @0 "behind") ↑0 .bor (.fld @1 "firsts"),.ex (.j6 .append (.fld @0 "ends") #v[.fld @1 "lasts"])]
abbrev jV:dG:=#v[.j7 (.name 3) (.val (.call "members" #v[@1])) #v[.FQ (.fld @0 "behind") @3 .bor @2]]
abbrev kL:dG:=#v[.ifs (.dk (.cmp .eq (.ix @1 ↑0) ↑[111,110,101])) #v[.ret (.df "Layout" "lay_place" "Layout.lay_place" @0 #v[.ix @1 ↑1])] .nil,.ifs (.dk (.cmp .eq (.ix @1 ↑0) ↑[114,111,119])) #v[.ret (.df "Layout" "lay_row" "Layout.lay_row" @0 #v[.ix @1 ↑1])] .nil,.ifs (.dk (.cmp .eq (.ix @1 ↑0) ↑[111,114])) #v[.ret (.df "Layout" "lay_choice" "Layout.lay_choice" @0 #v[.ix @1 ↑1])] .nil,.ret (.df "Layout" "lay_repeat" "Layout.lay_repeat" @0 #v[@1])]
abbrev fZ:dG:=#v[.set 2 (.bin .shl ↑1 (.blt .len #v[.fld @0 "signs"])),.ex (.j6 .append (.fld @0 "signs") #v[@1]),.ex (.j6 .append (.fld @0 "behind") #v[↑0]),.ret (.mk "Part" "Part.__init__" #v[.lit (.bl ϑ),@2,@2])]
abbrev iB:dG:=#v[.set 2 (.mk "Part" "Part.__init__" #v[.lit (.bl ζ),↑0,↑0]),.j7 (.name 3) (.val @1) #v[.set 4 (.df "Layout" "lay" "Layout.lay" @0 #v[@3]),.ex (.df "Layout" "link" "Layout.link" @0 #v[.fld @2 "lasts",.fld @4 "firsts"]),.set 2 (.call "one_behind_other" #v[@2,@4])],.ret @2]
abbrev fJ:dG:=#v[.set 2 (.mk "Part" "Part.__init__" #v[.lit (.bl ϑ),↑0,↑0]),.j7 (.name 3) (.val @1) #v[.set 2 (.call "one_or_other" #v[@2,.df "Layout" "lay" "Layout.lay" @0 #v[@3]])],.ret @2]
abbrev fK:dG:=#v[.set 2 (.lst .nil),.set 3 @1,.B1 (.dk (.cmp .isin (.ix @3 ↑0) (.tup #v[↑[115,116,97,114],↑[112,108,117,115],↑[109,97,121,98,101]]))) #v[.ex (.j6 .append @2 #v[.ix @3 ↑0]),.set 3 (.ix @3 ↑1)],.set 4 (.df "Layout" "lay" "Layout.lay" @0 #v[@3]),.ifs (.or (.dk (.cmp .isin ↑[115,116,97,114] @2)) (.dk (.cmp .isin ↑[112,108,117,115] @2))) #v[.ex (.df "Layout" "link" "Layout.link" @0 #v[.fld @4 "lasts",.fld @4 "firsts"])] .nil,.set 5 (.or (.fld @4 "empty") (.or (.cmp .isin ↑[115,116,97,114] @2) (.cmp .isin ↑[109,97,121,98,101] @2))),.ret (.mk "Part" "Part.__init__" #v[@5,.fld @4 "firsts",.fld @4 "lasts"])]
abbrev iV:dG:=#v[.set 1 (.blt .sum #v[.comp ζ (.bin .shl ↑1 @0) (.enum (.fld @0 "signs")) (.dk (.cmp .ne @1 (.lit (.str [])))) []]),.set 2 ↑0,.j7 (.name 3) (.val (.fld @0 "ends")) #v[.aug 2 .bor (.bin .band @3 @1)],.set 4 ↑0,.B1 (.dk (.cmp .ne @2 @4)) #v[.set 4 @2,.j7 (.name 5) (.val (.call "members" #v[@1])) #v[.ifs (.dk (.bin .band (.ix (.fld @0 "behind") @5) @4)) #v[.aug 2 .bor (.bin .shl ↑1 @5)] .nil]],.ret @4]
abbrev f9:dG:=#v[.ret (.blt .sum #v[.comp ζ (.bin .shl ↑1 @0) (.enum (.fld @0 "signs")) (.dk (.cmp .isin @2 @1)) [1]])]
abbrev jW:dG:=#v[.set 2 (.call "useful_places" #v[@1]),.ni @0 "behind" (.comp ϑ (.bin .band @0 @1) (.val (.fld @1 "behind")) (.dk (.lit (.bl ζ))) [2]),.ni @0 "ends" (.blt .list #v[.fld @1 "ends"]),.ni @0 "takers" (.blt .dict #v[.comp ϑ (.tup #v[@0,.call "places_that_take" #v[@1,@0]]) (.val (.lit (.str SG))) (.dk (.lit (.bl ζ))) [1]])]
abbrev iW:dG:=#v[.set 2 ↑0,.j7 (.name 3) (.val (.call "members" #v[@1])) #v[.aug 2 .bor (.ix (.fld @0 "behind") @3)],.ret @2]
abbrev fL:dG:=#v[.j7 (.pair 2 3) (.enum (.fld @0 "ends")) #v[.ifs (.dk (.bin .band @1 @3)) #v[.ret @2] .nil],.ret (.lit .cf)]
abbrev jq:dG:=#v[.ifs (.dk (.cmp .eq (.ix @0 ↑0) ↑[111,110,101])) #v[.ret (.lit (.bl ϑ))] .nil,.ifs (.dk (.cmp .eq (.ix @0 ↑0) ↑[114,111,119])) #v[.ret (.blt .all #v[.comp ϑ (.call "_law_nothing" #v[@0]) (.val (.ix @0 ↑1)) (.dk (.lit (.bl ζ))) []])] .nil,.ifs (.dk (.cmp .eq (.ix @0 ↑0) ↑[111,114])) #v[.ret (.blt .any #v[.comp ϑ (.call "_law_nothing" #v[@0]) (.val (.ix @0 ↑1)) (.dk (.lit (.bl ζ))) []])] .nil,.ret (.or (.cmp .isin (.ix @0 ↑0) (.tup #v[↑[115,116,97,114],↑[109,97,121,98,101]])) (.call "_law_nothing" #v[.ix @0 ↑1]))]
abbrev kM:dG:=#v[.set 3 (.call "_law_mix" #v[@0,@1]),.set 4 (.bin .mod @3 ↑9),.ifs (.or (.dk (.cmp .eq @2 ↑0)) (.dk (.cmp .lt @4 ↑4))) #v[.ret (.tup #v[↑[111,110,101],.ix (.lst #v[↑[97],↑[98],↑[99],↑[97,98],↑[98,99],.call "_law_all" .nil,↑[97],↑[98],↑[48],.lit (.str [])]) (.bin .mod (.bin .fdiv @3 ↑9) ↑10)])] .nil,.ifs (.dk (.cmp .lt @4 ↑7)) #v[.set 5 (.comp ϑ (.call "_law_small" #v[@1,.bin .add (.bin .add (.bin .mul ↑2 @2) ↑1) @0,.bin .sub @3 ↑1]) (.range ↑2) (.dk (.lit (.bl ζ))) [0,1,2]),.ret (.tup #v[.ix (.lst #v[↑[114,111,119],↑[111,114],↑[114,111,119]]) (.bin .sub @4 ↑4),.blt .tuple #v[@5]])] .nil,.ret (.tup #v[.ix (.lst #v[↑[115,116,97,114],↑[112,108,117,115],↑[109,97,121,98,101]]) (.bin .mod (.bin .fdiv @3 ↑9) ↑3),.call "_law_small" #v[@0,.bin .add (.bin .mul ↑2 @1) ↑1,.bin .sub @2 ↑1]])]
abbrev kN:dG:=#v[.set 4 (.lst .nil),.j7 (.name 5) (.range @2) #v[.set 6 (.call "_law_small" #v[@0,.bin .add @1 (.bin .mul ↑9 @5),@3]),.ifs (.dk (.call "_law_nothing" #v[@6])) #v[.set 6 (.tup #v[↑[114,111,119],.tup #v[.tup #v[↑[111,110,101],.ix ↑[97,98,99] (.bin .mod @5 ↑3)],@6]])] .nil,.ex (.j6 .append @4 #v[@6])],.ret @4]
end PL.nW
namespace PL.wx
abbrev nB:dG:=#v[.ret (.call "smallest" #v[.call "spread" #v[.call "places_of" #v[@0,↑10]]])]
abbrev kO:dG:=#v[.ni @0 "takes" (.blt .list #v[@1]),.ni @0 "told" (.blt .tuple #v[@1]),.ni @0 "rows" @2]
abbrev X9:dG:=#v[.ifs (.dk (.cmp .ne @7 ↑0)) #v[.og @5 @6 (.Hl @2 @7)] .nil]
abbrev ZC:dG:=(.cons (.set 7 (.bin .band @4 (.Hl (.fld @0 "takers") @6))) (.cons (.ifs (.and (.dk (.cmp .ne @7 ↑0)) (.dk (.cmp .CM @7 @2))) #v[.og @2 @7 (.blt .len #v[@1]),.ex (.j6 .append @1 #v[@7])] .nil) X9))
abbrev ZD:dG:=#v[.set 4 (.df "Places" "beyond" "Places.beyond" @0 #v[.ix @1 (.blt .len #v[@3])]),.set 5 (.dZ .nil .nil),.j7 (.name 6) (.val (.lit (.str SG))) ZC,.ex (.j6 .append @3 #v[@5])]
abbrev ZE:dG:=#v[.ret (.mk "Table" "Table.__init__" #v[.comp ϑ (.df "Places" "first_rule" "Places.first_rule" @1 #v[@0]) (.val @1) (.dk (.lit (.bl ζ))) [0],@3])]
abbrev rN:dG:=(.cons (.set 1 (.lst #v[↑1])) (.cons (.set 2 (.dZ #v[↑1] #v[↑0])) (.cons (.set 3 (.lst .nil)) (.cons (.B1 (.dk (.cmp .lt (.blt .len #v[@3]) (.blt .len #v[@1]))) ZD) ZE))))
abbrev ZF:Ex:=.blt .dict #v[.comp ϑ (.tup #v[@0,.ix @1 (.Hl @2 @0)]) (.keys @5) (.dk (.lit (.bl ζ))) [1,5]]
abbrev ZG:dG:=#v[.ifs (.dk (.cmp .eq (.ix @1 @4) (.blt .len #v[@3]))) #v[.ex (.j6 .append @2 #v[.ix (.fld @0 "told") @4]),.ex (.j6 .append @3 #v[ZF])] .nil]
abbrev nE:dG:=#v[.set 1 (.ix (.call "rounds" #v[.bin .add (.fld @0 "told") (.tup #v[.lit .cf]),.call "with_nowhere" #v[.fld @0 "rows"]]) (.neg ↑1)),.set 2 (.lst .nil),.set 3 (.lst .nil),.j7 (.pair 4 5) (.enum (.fld @0 "rows")) ZG,.ret (.mk "Table" "Table.__init__" #v[@2,@3])]
abbrev ZH:Ex:=.blt .dict #v[.comp ϑ (.tup #v[@0,.j6 .get @1 #v[@0,@2]]) (.val (.lit (.str SG))) (.dk (.lit (.bl ζ))) [0,1]]
abbrev jr:dG:=#v[.set 1 (.blt .len #v[@0]),.ret (.comp ϑ ZH (.val (.bin .add @0 (.lst #v[.dZ .nil .nil]))) (.dk (.lit (.bl ζ))) [1])]
abbrev rO:dG:=#v[.set 2 (.call "telling_signs" #v[@1]),.set 3 (.lst #v[.call "numbered" #v[@0]]),.B1 (.dk (.lit (.bl ζ))) #v[.set 4 (.call "parted" #v[.ix @3 (.neg ↑1),@1,@2]),.ifs (.dk (.cmp .eq (.blt .max #v[@4]) (.blt .max #v[.ix @3 (.neg ↑1)]))) #v[.ret @3] .nil,.ex (.j6 .append @3 #v[@4])]]
abbrev ZI:Ex:=.comp ϑ (.ix @1 (.Hl @2 @0)) (.val @2) (.dk (.lit (.bl ζ))) [0,5]
abbrev rP:dG:=#v[.set 3 (.lst .nil),.j7 (.pair 4 5) (.enum @1) #v[.ex (.j6 .append @3 #v[.tup #v[.ix @0 @4,.blt .tuple #v[ZI]]])],.ret (.call "numbered" #v[@3])]
abbrev nF:dG:=#v[.set 1 (.dZ .nil .nil),.ret (.comp ϑ (.j6 .og @1 #v[@0,.blt .len #v[@1]]) (.val @0) (.dk (.lit (.bl ζ))) [1])]
abbrev iX:dG:=#v[.set 1 (.dZ .nil .nil),.j7 (.name 2) (.val (.lit (.str SG))) #v[.ex (.j6 .og @1 #v[.blt .tuple #v[.comp ϑ (.Hl @0 @1) (.val @0) (.dk (.lit (.bl ζ))) [2]],@2])],.ret (.j6 .vals @1 .nil)]
end PL.wx
namespace PL.Ly
abbrev kP:dG:=#v[.set 2 (.call "table_of" #v[@0]),.set 3 (.call "table_of" #v[@1]),.set 4 (.bin .add (.bin .add (.fld @2 "told") (.fld @3 "told")) (.tup #v[.lit .cf])),.set 5 (.call "with_nowhere" #v[.bin .add (.fld @2 "rows") (.call "moved" #v[.fld @3 "rows",.df "Table" "size" "Table.size" @2 .nil])]),.ret (.call "text_apart" #v[.call "rounds" #v[@4,@5],@5,.tup #v[↑0,.df "Table" "size" "Table.size" @2 .nil]])]
abbrev kQ:dG:=#v[.ret (.blt .len #v[.fld @0 "told"])]
abbrev ZJ:Ex:=.blt .dict #v[.comp ϑ (.tup #v[@0,.bin .add (.Hl @1 @0) @2]) (.keys @0) (.dk (.lit (.bl ζ))) [0,1]]
abbrev uG:dG:=#v[.ret (.comp ϑ ZJ (.val @0) (.dk (.lit (.bl ζ))) [1])]
abbrev Ya:dG:=#v[.aug 4 .add (.call "sign_apart" #v[@6,@1,@5]),.set 5 (.call "states_behind" #v[@1,@5,.ix @4 (.neg ↑1)])]
abbrev kR:dG:=#v[.set 3 ↑0,.B1 (.and (.dk (.cmp .lt @3 (.blt .len #v[@0]))) (.not (.dk (.call "are_apart" #v[.ix @0 @3,@2])))) #v[.aug 3 .add ↑1],.ifs (.dk (.cmp .eq @3 (.blt .len #v[@0]))) #v[.ret (.lit .cf)] .nil,.set 4 (.lit (.str [])),.set 5 @2,.j7 (.name 6) (.rev (.sl @0 .no (.e @3))) Ya,.ret @4]
abbrev lZ:dG:=#v[.ret (.cmp .ne (.ix @0 (.ix @1 ↑0)) (.ix @0 (.ix @1 ↑1)))]
abbrev iY:dG:=#v[.ret (.tup #v[.Hl (.ix @0 (.ix @1 ↑0)) @2,.Hl (.ix @0 (.ix @1 ↑1)) @2])]
abbrev pSa:Ex:=.comp ϑ @0 (.val (.lit (.str SG))) (.dk (.call "are_apart" #v[@1,.call "states_behind" #v[@2,@3,@0]])) [0,1,2]
abbrev kS:dG:=#v[.ret (.ix pSa ↑0)]
end PL.Ly
namespace PL.Lz
abbrev yY:dG:=#v[.ret (.and (.cmp .eq (.fld @0 "told") (.fld @1 "told")) (.cmp .T5 (.fld @0 "rows") (.fld @1 "rows")))]
abbrev ZK:Ex:=(.comp ϑ (.call "_law_other" #v[@0,.bin .fdiv @1 ↑3]) (.val (.ix @0 ↑1)) (.dk (.lit (.bl ζ))) [1])
abbrev ZL:dG:=#v[.ifs (.and (.dk (.cmp .eq (.ix @0 ↑0) ↑[112,108,117,115])) (.dk (.cmp .gt (.bin .mod @1 ↑3) ↑0))) #v[.ret (.tup #v[↑[114,111,119],.tup #v[@3,.tup #v[↑[115,116,97,114],@3]]])] .nil,.ifs (.and (.dk (.cmp .eq (.ix @0 ↑0) ↑[115,116,97,114])) (.dk (.cmp .eq (.bin .mod @1 ↑3) ↑1))) #v[.ret (.tup #v[↑[109,97,121,98,101],.tup #v[↑[112,108,117,115],@3]])] .nil,.ifs (.and (.dk (.cmp .eq (.ix @0 ↑0) ↑[109,97,121,98,101])) (.and (.not (.dk (.call "_law_nothing" #v[@3]))) (.dk (.cmp .eq (.bin .mod @1 ↑3) ↑2)))) #v[.ret (.tup #v[↑[109,97,121,98,101],.tup #v[↑[111,114],.tup #v[@3,@3]]])] .nil,.ret (.tup #v[.ix @0 ↑0,@3])]
abbrev kT:dG:=(.cons (.ifs (.dk (.cmp .eq (.ix @0 ↑0) ↑[111,110,101])) #v[.ifs (.and (.dk (.cmp .eq (.blt .len #v[.ix @0 ↑1]) ↑2)) (.dk (.cmp .eq (.bin .mod @1 ↑2) ↑0))) #v[.ret (.tup #v[↑[111,114],.tup #v[.tup #v[↑[111,110,101],.ix (.ix @0 ↑1) ↑1],.tup #v[↑[111,110,101],.ix (.ix @0 ↑1) ↑0]]])] .nil,.ret @0] .nil) (.cons (.ifs (.dk (.cmp .isin (.ix @0 ↑0) (.tup #v[↑[114,111,119],↑[111,114]]))) #v[.set 2 ZK,.ifs (.dk (.cmp .eq (.ix @0 ↑0) ↑[111,114])) #v[.set 2 (.blt .FP #v[@2])] .nil,.ret (.tup #v[.ix @0 ↑0,.blt .tuple #v[@2]])] .nil) (.cons (.set 3 (.call "_law_other" #v[.ix @0 ↑1,.bin .fdiv @1 ↑2])) ZL)))
abbrev ZM:Ex:=(.comp ϑ (.call "_law_other" #v[@0,.call "_law_mix" #v[@1,↑51]]) (.val @1) (.dk (.lit (.bl ζ))) [0])
abbrev ZN:Ex:=(.comp ϑ (.call "written" #v[@0]) (.val @1) (.dk (.lit (.bl ζ))) [])
abbrev pOb:Ex:=(.comp ϑ (.call "written" #v[@0]) (.val @2) (.dk (.lit (.bl ζ))) [])
abbrev ZO:dG:=#v[.set 4 ZN,.set 5 pOb,.set 6 (.call "same" #v[.call "table_of" #v[@4],.call "table_of" #v[@5]]),.set 7 (.call "difference" #v[@4,@5]),.ifs (.or (.not (.dk (.Vj @6))) (.dk (.cmp .ne @6 (.cmp .Qu @7 (.lit .cf))))) #v[.ret (.lit (.bl ϑ))] .nil,.ret (.or @3 @6)]
abbrev Ee:dG:=(.cons (.set 1 (.call "_law_trees" #v[@0,↑0,.bin .add ↑1 (.bin .mod (.call "_law_mix" #v[@0,↑50]) ↑2),↑1])) (.cons (.set 2 ZM) (.cons (.set 3 (.cmp .eq (.bin .mod (.call "_law_mix" #v[@0,↑52]) ↑2) ↑0)) (.cons (.ifs (.dk @3) #v[.ID @2 ↑0 (.ix (.call "_law_trees" #v[@0,↑30,↑1,↑1]) ↑0)] .nil) ZO))))
end PL.Lz
namespace L2
open PySem
open PL (U SO bM KU Spec cv)
structure Tab where
 const:List (String×U)
 fns:List String
 qG:List String
 qH:List (String×String)
 yZ:List String
 gG:List String
structure Inf where
 names:List (Str×NameKind)
 N:List Str
 calm:Bool
abbrev pick(l:List String)(x:Str):Option String:=l.find? λs=>cj s==x
abbrev A8{α:Type}(l:List (String×α))(x:Str):Option (String×α):=l.find? λs=>cj s.1==x
abbrev eO(x:Str):List Str->Option Nat
 |[]=>ψ
 |y::ys=>if y=x then ξ 0 else(eO x ys).map (·+1)
abbrev QT:Option NameKind->Bool
 |some .local=>ζ
 |some .cell=>ζ
 |some .free=>ζ
 |_=>ϑ
abbrev Inf.gl(I:Inf)(x:Str):Bool:=I.names.lookup x==ξ .globalImplicit
abbrev VD:mW->Option PL.FN
 |.Add=>ξ .add|.Sub=>ξ .sub|.Mult=>ξ .mul|.FloorDiv=>ξ .fdiv|.Mod=>ξ .mod|.BitAnd=>ξ .band|.BitOr=>ξ .bor|.LShift=>ξ .shl|.RShift=>ξ .shr|_=>ψ
abbrev ZP:CmpOp->Option PL.OP
 |.Eq=>ξ .eq|.NotEq=>ξ .ne|.Lt=>ξ .lt|.LtE=>ξ .le|.Gt=>ξ .gt|.GtE=>ξ .ge|.In=>ξ .isin|.NotIn=>ξ .qo|.Is=>ξ .Qu|.IsNot=>ξ .FO
abbrev LA:Expr->Option Str
 |.Name x _=>ξ x
 |_=>ψ
def VE:∀e,(∃x p,e=Lp x p)\/LA e=ψ:=by
 intro e;cases e<;>first|exact .inr rfl|exact .inl #[_,_,rfl]
def Ef(h:LA e=ξ x):∃p,e=.Name x p:=by
 rcases VE e with⟨y,p,rfl⟩|e
 .exact#[p,congrArg (Lp · p) (aK h)]
 .erw[nn (e.symm.trans h)]
abbrev dkE(e:Expr):Bool:=LA e==ξ ("sign":Str)||LA e==ξ ("held":Str)
abbrev ZQ:CmpOp->Bool
 |.NotIn=>ζ
 |_=>ϑ
abbrev isEq:CmpOp->Bool
 |.Eq=>ζ
 |_=>ϑ
abbrev F9:Expr->Bool
 |.Attribute _ m _=>m==("rows":Str)
 |_=>ϑ
abbrev T9(op:CmpOp)(b:Expr):Option PL.OP:=if ZQ op&&LA b==ξ ("numbers":Str) then ξ .CM else if isEq op&&F9 b then ξ .T5 else ZP op
abbrev QW:Expr->Option Expr
 |.Call (.Attribute o m ap) [] [] cp=>if m==("values":Str)&&ap.endLine==cp.line then ξ o else ψ
 |_=>ψ
abbrev Yb:Expr->Option (Str×Expr)
 |.Call f [a] [] _=>(LA f).map λx=>(x,a)
 |_=>ψ
def VF:∀e,(∃f as ks p,e=Expr.Call f as ks p)\/Yb e=ψ:=by
 intro e;cases e<;>first|exact .inr rfl|exact .inl #[_,_,_,_,rfl]
def OT(h:Yb e=ξ (x,a)):∃p q,e=.Call (.Name x p) [a] [] q:=by
 rcases VF e with⟨f,as,ks,q,rfl⟩|e
 .cases as with
  |nil=>erw[nn h]
  |cons a as=>cases as with
   |cons=>erw[nn h]
   |nil=>cases ks with
    |cons=>erw[nn h]
    |nil=>
     let#[y,h1,h2]:=ak.mp h;cases h2;let#[p,rfl]:=Ef h1;exact#[p,q,rfl]
 .erw[nn (e.symm.trans h)]
abbrev Yc(T:Tab)(I:Inf)(e:Expr):Bool:=match LA e with
 |some x=>I.gl x&&(x==("bool":Str)&&T.gG.contains "bool")
 |none=>ϑ
abbrev QX:Expr->Option Expr
 |.Call (.Name f _) [a] [] _=>if f==("reversed":Str) then ξ a else ψ
 |_=>ψ
abbrev rQ(I : Inf)(names : List (Str×NameKind)) : List (Str×NameKind) := names.map λ(n, k) => if k==bU&&I.names.lookup n==ξ .cell then (n, .cell) else (n, k)
abbrev vB(I:Inf)(sc:kg)(xs:List Str):Bool:=
 sc.kind==.function&&sc.names.all (λy=>y.2 !=.cell||sc.names.lookup y.1==ξ .cell)&&sc.names.all (λy=>y.2 !=.local||sc.names.lookup y.1==ξ .local)&&sc.names.all (λy=>y.2 !=.free||I.names.lookup y.1==ξ .cell)
  && xs.all (λx=>sc.names.lookup x==ξ .local||sc.names.lookup x==ξ .cell)&&decide xs.Nodup
abbrev iQ(I:Inf)(sc:kg):List Str:=I.N.filter λy=>sc.names.lookup y==ξ .free
abbrev MZ:Expr->Option (List Str)
 |.Name x _=>ξ [x]
 |.Tuple [a,b] _ _=>(LA a).bind λx=>(LA b).map λy=>[x,y]
 |_=>ψ
abbrev noStar:Expr->Bool
 |.Starred ..=>ϑ
 |_=>ζ
abbrev y6:Expr->Bool
 |.ListComp ..=>ϑ
 |.SetComp ..=>ϑ
 |.DictComp ..=>ϑ
 |_=>ζ
abbrev kU:Expr->Bool
 |.Slice ..=>ϑ
 |_=>ζ
abbrev gK:Expr->Bool
 |.Call (.Name _ _) [] [] _=>ϑ
 |_=>ζ
abbrev QY:Str->Option PL.Vi:=λx=>
 if x==("len":Str) then ξ .len else if x==("tuple":Str) then ξ .tuple else if x==("list":Str) then ξ .list
 else if x==("all":Str) then ξ .all else if x==("sum":Str) then ξ .sum else if x==("any":Str) then ξ .any else if x==("dict":Str) then ξ .dict else if x==("max":Str) then ξ .max else ψ
abbrev QZ:Str->Option PL.Qv:=λx=>
 if x==("join":Str) then ξ .join else if x==("index":Str) then ξ .index else if x==("append":Str) then ξ .append else if x==("extend":Str) then ξ .extend else if x==("startswith":Str) then ξ .startswith else if x==("setdefault":Str) then ξ .og else ψ
abbrev ZR:Const->Option U
 |.none=>ξ .cf
 |.bool b=>ξ (.bl b)
 |.int i=>ξ (.int i)
 |.str x=>ξ (.str x.cps.toList)
 |_=>ψ
abbrev I9(I:Inf)(k:oE):Bool:=match k with
 |⟨kw,v,_⟩=>kw==ξ ("key":Str)&&(match v with
  |.Name l _=>l==("len":Str)&&I.gl l
  |_=>ϑ)
structure CF where
 e:Inf->Expr->Option PL.Ex
 es:Inf->List Expr->Option PL.z7
 bo:Inf->BoolOp->List Expr->Option PL.Ex
 o:Inf->Option Expr->Option PL.Ox
 i:Inf->Expr->Option PL.It
 n:Inf->Expr->Option PL.It
 t:Inf->Expr->Option PL.Tx
 tb:Inf->BoolOp->List Expr->Option PL.Tx
abbrev Ua(T:Tab)(F:CF)(I:Inf)(e:Expr):Option PL.Ex:=match e with
  |.Name x _=>match eO x I.N with
   |some i=>if QT (I.names.lookup x)&&x !=("__debug__":Str)&&x !=("__classdict__":Str) then ξ (.var i) else ψ
   |none=>if I.gl x&&x !=("__debug__":Str) then(A8 T.const x).map λp=>.lit p.2 else ψ
  |.Constant c _ _=>(ZR c).map .lit
  |.BinOp a op b _=>do
   let o <-VD op
   let x <-F.e I a
   let y <-F.e I b
   ξ (.bin o x y)
  |.UnaryOp op a _=>(match op with
   |.USub=>(F.e I a).map .neg
   |.Not=>(F.e I a).map .not
   |_=>ψ)
  |.BoolOp op vs _=>F.bo I op vs
  |.Compare a ops bs _=>(match ops with
   |[op]=>(match bs with
    |[b]=>do
     let o <-T9 op b
     let x <-F.e I a
     let y <-F.e I b
     ξ (.cmp o x y)
    |_=>ψ)
   |_=>ψ)
  |.IfExp t a b _=>do
   let c <-F.t I t
   let x <-F.e I a
   let y <-F.e I b
   ξ (.Hk c x y)
  |.Call f args kws cp=>(match f with
   |.Name f _=>(match kws with
    |[]=>if I.gl f&&f !=("__debug__":Str) then
      if f==("isinstance":Str)&&T.gG.contains "isinstance" then(match args with
       |[a,t]=>if !noStar a then ψ else if Yc T I t then(F.e I a).map .Vj else ψ
       |_=>ψ)
      else match (match args with|[a]=>QX a|_=>ψ) with
      |some a=>if f==("list":Str)&&T.gG.contains "list"&&T.gG.contains "reversed"&&I.gl ("reversed":Str)&&I.calm&&noStar a then(F.e I a).map λx=>.blt .FP (.cons x .nil) else ψ
      |none=>match QY f with
      |some b=>(match (match args with|[a]=>QW a|_=>ψ) with
       |some o=>if f==("list":Str)&&T.gG.contains "list"&&I.calm&&gK o then(F.e I o).map λx=>.j6 .vals x .nil else ψ
       |none=>if (pick T.gG f).isSome && !args.isEmpty&&I.calm then(F.es I args).map (.blt b) else ψ)
      |none=>if !I.calm then ψ else match pick T.fns f with
       |some q=>(F.es I args).map (.call q)
       |none=>match pick T.qG f with
        |some q=>(F.es I args).map (.mk q (q++".__init__"))
        |none=>ψ
     else ψ
    |kw::ks=>(match args with
     |[a]=>if ks.isEmpty&&f==("min":Str)&&I9 I kw&&I.gl f&&T.gG.contains "min"&&T.gG.contains "len"&&I.calm&&noStar a then(F.e I a).map λx=>.blt .vv (.cons x .nil) else ψ
     |_=>ψ))
   |.Attribute o m ap=>if !(kws.isEmpty&&gK o&&ap.endLine==cp.line&&decide (args.length<20)&&I.calm) then ψ else
    match A8 T.qH m with
    |some (q,k)=>do
     let x <-F.e I o
     let as <-F.es I args
     ξ (.df k q (k++"."++q) x as)
    |none=>(match args with
     |[]=>if m==("bit_length":Str) then(F.e I o).map λx=>.j6 .nh x .nil else ψ
     |a::as=>if m==("get":Str) then(match as with
       |[d]=>if noStar a&&noStar d then do
         let x <-F.e I o
         let y <-F.e I a
         let z <-F.e I d
         ξ (.j6 .get x (.cons y (.cons z .nil)))
        else ψ
       |[]=>if noStar a then do
         let x <-F.e I o
         let y <-F.e I a
         ξ (.j6 .get x (.cons y .nil))
        else ψ
       |_=>ψ)
      else match QZ m with
      |some b=>do
       let x <-F.e I o
       let as <-F.es I (a::as)
       ξ (.j6 b x as)
      |none=>ψ)
   |_=>ψ)
  |.Attribute o f _=>if !gK o then ψ else do
   let q <-pick T.yZ f
   let x <-F.e I o
   ξ (.fld x q)
  |.Subscript o i _=>if kU i then do
    let x <-F.e I o
    let y <-F.e I i
    ξ (if dkE i then .Hl x y else .ix x y)
   else(match i with
   |.Slice lo hi st _=>(match st with
    |none=>do
     let x <-F.e I o
     let a <-F.o I lo
     let b <-F.o I hi
     ξ (.sl x a b)
    |some _=>ψ)
   |_=>ψ)
  |.Dict ks vs _=>(match ks with
   |[]=>(match vs with
    |[]=>ξ (.dZ .nil .nil)
    |_=>ψ)
   |[ξ k]=>(match vs with
    |[v]=>do
     let x <-F.e I k
     let y <-F.e I v
     ξ (.dZ (.cons x .nil) (.cons y .nil))
    |_=>ψ)
   |_=>ψ)
  |.List es _=>(F.es I es).map .lst
  |.Tuple es _ _=>(F.es I es).map .tup
  |.ListComp elt gs sc _=>(match gs with
   |[g]=>(match g with
    |⟨tg,iter,ifs,as⟩=>match MZ tg with
     |some xs=>if vB I sc xs&&I.calm&&as==0 then do
       let it <-(match xs with
        |[_]=>F.i I iter
        |_=>F.n I iter)
       let cn:=iQ I sc
       let J:Inf:=#[rQ I sc.names,xs++cn,ζ]
       let c <-(match ifs with
        |[]=>ξ (PL.Tx.dk (.lit (.bl ζ)))
        |[c]=>F.t J c
        |_=>ψ)
       let e <-F.e J elt
       let ci <-cn.mapM λy=>eO y I.N
       ξ (.comp (xs.length==2) e it c ci)
      else ψ
     |none=>ψ)
   |_=>ψ)
  |_=>ψ
abbrev Ja(F:CF)(I:Inf):List Expr->Option PL.z7
 |[]=>ξ .nil
 |e::es=>if !noStar e then ψ else do
  let x <-F.e I e
  let xs <-F.es I es
  ξ (.cons x xs)
abbrev Jb(F:CF)(I:Inf)(op:BoolOp):List Expr->Option PL.Ex
 |[]=>ψ
 |[a]=>F.e I a
 |a::b::r=>do
  let x <-F.e I a
  let y <-F.bo I op (b::r)
  ξ (match op with|.And=>.and x y|.Or=>.or x y)
abbrev Yd(F:CF)(I:Inf):Option Expr->Option PL.Ox
 |none=>ξ .no
 |some e=>(F.e I e).map .e
abbrev stI(T:Tab)(F:CF)(I:Inf)(e:Expr):Option PL.It:=match Yb e with
  |some (f,a)=>if f==("range":Str) then(if I.gl f&&T.gG.contains "range" then(F.e I a).map .range else ψ) else if f==("reversed":Str) then(if I.gl f&&T.gG.contains "reversed" then(F.e I a).map .rev else ψ) else(F.e I e).map .val
  |none=>if LA e==ξ ("row":Str) then(F.e I e).map .keys else(F.e I e).map .val
abbrev stN(T:Tab)(F:CF)(I:Inf)(e:Expr):Option PL.It:=match Yb e with
  |some (f,a)=>if f==("enumerate":Str)&&I.gl f&&T.gG.contains "enumerate"&&noStar a then(F.e I a).map .enum else ψ
  |none=>ψ
abbrev stT(F:CF)(I:Inf)(e:Expr):Option PL.Tx:=match e with
  |.UnaryOp .Not a _=>(F.t I a).map .not
  |.BoolOp op vs _=>F.tb I op vs
  |.IfExp ..=>ψ
  |.Compare a [op] [b] _=>do
   let o <-T9 op b
   let x <-F.e I a
   let y <-F.e I b
   ξ (.dk (.cmp o x y))
  |.Compare ..=>ψ
  |_=>(F.e I e).map .dk
abbrev Jc(F:CF)(I:Inf)(op:BoolOp):List Expr->Option PL.Tx
 |[]=>ψ
 |[a]=>F.t I a
 |a::b::r=>do
  let x <-F.t I a
  let y <-F.tb I op (b::r)
  ξ (match op with|.And=>.and x y|.Or=>.or x y)
abbrev rR(T:Tab):Nat->CF
 |0=>#[λ_ _=>ψ,λ_ _=>ψ,λ_ _ _=>ψ,λ_ _=>ψ,λ_ _=>ψ,λ_ _=>ψ,λ_ _=>ψ,λ_ _ _=>ψ]
 |n+1=>#[Ua T (rR T n),Ja (rR T n),Jb (rR T n),Yd (rR T n),stI T (rR T n),stN T (rR T n),stT (rR T n),Jc (rR T n)]
@[reducible]def cE(T:Tab)(n:Nat):Inf->Expr->Option PL.Ex:=(rR T n).e
@[reducible]def Ub(T:Tab)(n:Nat):Inf->List Expr->Option PL.z7:=(rR T n).es
@[reducible]def Ye(T:Tab)(n:Nat):Inf->BoolOp->List Expr->Option PL.Ex:=(rR T n).bo
@[reducible]def cO(T:Tab)(n:Nat):Inf->Option Expr->Option PL.Ox:=(rR T n).o
@[reducible]def cI(T:Tab)(n:Nat):Inf->Expr->Option PL.It:=(rR T n).i
@[reducible]def cN(T:Tab)(n:Nat):Inf->Expr->Option PL.It:=(rR T n).n
@[reducible]def cT(T:Tab)(n:Nat):Inf->Expr->Option PL.Tx:=(rR T n).t
@[reducible]def Yf(T:Tab)(n:Nat):Inf->BoolOp->List Expr->Option PL.Tx:=(rR T n).tb
section
variable{T:Tab}{n:Nat}{I:Inf}{x:Expr}{xs:List Expr}{p:BoolOp}{y:Option Expr}
def VG:cE T 0 I x=ψ:=rfl
def M0:cE T (n+1) I x=Ua T (rR T n) I x:=rfl
def OU:Ub T 0 I xs=ψ:=rfl
def Jd:Ub T (n+1) I xs=Ja (rR T n) I xs:=rfl
def VH:Ye T 0 I p xs=ψ:=rfl
def Je:Ye T (n+1) I p xs=Jb (rR T n) I p xs:=rfl
def ZS:cO T 0 I y=ψ:=rfl
def VI:cO T (n+1) I y=Yd (rR T n) I y:=rfl
def ZT:cI T 0 I x=ψ:=rfl
def ZU:cI T (n+1) I x=stI T (rR T n) I x:=rfl
def ZV:cN T 0 I x=ψ:=rfl
def ZW:cN T (n+1) I x=stN T (rR T n) I x:=rfl
def ZX:cT T 0 I x=ψ:=rfl
def ZY:cT T (n+1) I x=stT (rR T n) I x:=rfl
def VJ:Yf T 0 I p xs=ψ:=rfl
def Jf:Yf T (n+1) I p xs=Jc (rR T n) I p xs:=rfl
end
abbrev ZZ(T:Tab)(n:Nat)(J:Inf)(ifs:List Expr):Option PL.Tx:=match ifs with
 |[]=>ξ (PL.Tx.dk (.lit (.bl ζ)))
 |[c]=>cT T n J c
 |_=>ψ
def vC(h:cE T (n+1) I (.ListComp elt gs sc pos)=ξ x):
  ∃tg iter ifs xs it c ee ci,gs=[#[tg,iter,ifs,0]]/\MZ tg=ξ xs/\(vB I sc xs=ζ/\I.calm=ζ)/\((∃y,xs=[y])/\cI T n I iter=ξ it\/(¬ ∃y,xs=[y])/\cN T n I iter=ξ it)/\ZZ T n #[rQ I sc.names,xs++iQ I sc,ζ] ifs=ξ c /\
   cE T n #[rQ I sc.names,xs++iQ I sc,ζ] elt=ξ ee/\(iQ I sc).mapM (λy=>eO y I.N)=ξ ci/\x=.comp (xs.length==2) ee it c ci:=by
 rw[M0] at h
 delta Ua at h
 dsimp only at h;split at h
 .rename_i g
  let#[tg,iter,ifs,as]:=g;dsimp only at h;split at h
  .rename_i xs ht
   split at h
   .rename_i hc
    dsimp[aj] at hc;dsimp[aQ,aA] at h;let#[it,h1,c,h2,ee,h3,ci,h4,h5]:=h;injection h5 with h5
    have e0:as=0:=eq_of_beq hc.2;subst e0;refine#[tg,iter,ifs,xs,it,c,ee,ci,rfl,ht,hc.1,?_,h2,h3,h4,h5.symm];split at h1
    .erw[.inl #[#[_,rfl],h1]]
    .rename_i hn
     erw[.inr #[λ⟨y,e⟩=>hn y e,h1]]
   .erw[nn h]
  .erw[nn h]
 .erw[nn h]
def VL:∀e,(∃x p,e=Lp x p)\/(∃es k q,e=Expr.Tuple es k q)\/MZ e=ψ:=by
 intro e;cases e<;>first|exact .inr (.inr rfl)|exact .inl #[_,_,rfl]|exact .inr (.inl #[_,_,_,rfl])
def C1(h:MZ tg=ξ xs):(∃x p,tg=.Name x p/\xs=[x])\/∃x y p p' k q,tg=.Tuple [.Name x p,.Name y p'] k q/\xs=[x,y]:=by
 rcases VL tg with⟨x,p,rfl⟩|⟨es,k,q,rfl⟩|e
 .erw[.inl #[x,p,rfl,(aK h).symm]]
 .cases es with
  |nil=>erw[nn h]
  |cons a es=>cases es with
   |nil=>erw[nn h]
   |cons b es=>cases es with
    |cons=>erw[nn h]
    |nil=>
     let#[x,h1,h]:=aA.mp h;let#[y,h2,h3]:=ak.mp h;let#[p,rfl]:=Ef h1;let#[p',rfl]:=Ef h2;erw[.inr #[x,y,p,p',k,q,rfl,h3.symm]]
 .erw[nn (e.symm.trans h)]
open PL (U SO bM KU Spec cv)
abbrev vD:Option NameKind->Bool
 |some .local=>ζ
 |some .cell=>ζ
 |_=>ϑ
abbrev C2:mW->Option PL.FN
 |.Add=>ξ .add|.Sub=>ξ .sub|.BitOr=>ξ .bor|_=>ψ
structure CG where
 s:Inf->Stmt->Option PL.Sm
 ss:Inf->List Stmt->Option PL.dG
abbrev Z3(T:Tab)(F:CF)(G:CG)(I:Inf)(s:Stmt):Option PL.Sm:=match s with
  |.Assign ts e _=>(match ts with
   |[t]=>(match t with
    |.Name x _=>(match eO x I.N with
     |some i=>if vD (I.names.lookup x) then(F.e I e).map (.set i) else ψ
     |none=>ψ)
    |.Attribute o f _=>do
     let q <-pick T.yZ f
     let x <-F.e I o
     let y <-F.e I e
     ξ (.ni x q y)
    |.Subscript o i _=>if kU i&&dkE i then do
      let x <-F.e I o
      let k <-F.e I i
      let y <-F.e I e
      ξ (.og x k y)
     else if kU i then do
      let x <-F.e I o
      let k <-F.e I i
      let y <-F.e I e
      ξ (.ID x k y)
     else ψ
    |_=>ψ)
   |_=>ψ)
  |.AugAssign t op e _=>(match t with
   |.Name x _=>(match eO x I.N with
    |some i=>if vD (I.names.lookup x) then do
      let p <-C2 op
      let y <-F.e I e
      ξ (.aug i p y)
     else ψ
    |none=>ψ)
   |.Attribute o f _=>do
    let q <-pick T.yZ f
    let p <-C2 op
    let x <-F.e I o
    let y <-F.e I e
    ξ (.CN x q p y)
   |.Subscript o i _=>if kU i then do
     let p <-C2 op
     let x <-F.e I o
     let j <-F.e I i
     let y <-F.e I e
     ξ (.FQ x j p y)
    else ψ
   |_=>ψ)
  |.Expr e _=>if y6 e then(F.e I e).map .ex else ψ
  |.Return e _=>(match e with
   |some e=>(F.e I e).map .ret
   |none=>ψ)
  |.If c a b _=>do
   let c <-F.t I c
   let a <-G.ss I a
   let b <-G.ss I b
   ξ (.ifs c a b)
  |.While c b el _=>if el.isEmpty then do
    let c <-F.t I c
    let b <-G.ss I b
    ξ (.B1 c b)
   else ψ
  |.For tg it b el _=>if !(I.calm&&el.isEmpty) then ψ else(match MZ tg with
   |some xs=>(match xs with
    |[x]=>(match eO x I.N with
     |some i=>if vD (I.names.lookup x) then do
       let it <-F.i I it
       let b <-G.ss I b
       ξ (.j7 (.name i) it b)
      else ψ
     |none=>ψ)
    |[x,y]=>(match eO x I.N with
     |some i=>(match eO y I.N with
      |some j=>if vD (I.names.lookup x)&&vD (I.names.lookup y) then do
        let it <-F.n I it
        let b <-G.ss I b
        ξ (.j7 (.pair i j) it b)
       else ψ
      |none=>ψ)
     |none=>ψ)
    |_=>ψ)
   |none=>ψ)
  |.Raise _ _ _=>ξ (.ex (.ix (.lit .cf) (.lit .cf)))
  |.Try b hs el fi _=>(match hs with
   |_::_=>if el.isEmpty&&fi.isEmpty then(G.ss I b).map .T6 else ψ
   |[]=>ψ)
  |_=>ψ
abbrev M3(G:CG)(I:Inf):List Stmt->Option PL.dG
 |[]=>ξ .nil
 |s::ss=>do
  let x <-G.s I s
  let xs <-G.ss I ss
  ξ (.cons x xs)
abbrev Ga(T:Tab):Nat->CG
 |0=>#[λ_ _=>ψ,λ_ _=>ψ]
 |n+1=>#[Z3 T (rR T n) (Ga T n),M3 (Ga T n)]
@[reducible]def cS(T:Tab)(n:Nat):Inf->Stmt->Option PL.Sm:=(Ga T n).s
@[reducible]def LB(T:Tab)(n:Nat):Inf->List Stmt->Option PL.dG:=(Ga T n).ss
def Z4:cS T 0 I x=ψ:=rfl
def Z5:cS T (n+1) I x=Z3 T (rR T n) (Ga T n) I x:=rfl
def VM:LB T 0 I x=ψ:=rfl
def OV:LB T (n+1) I x=M3 (Ga T n) I x:=rfl
open PySem.Spec PyProof.Rows PySem.W
open PL (U SO bM KU Spec cv)
structure Ctx where
 P:bK
 w:cx
 K:Frag
 mg:Str->Option Value
 base:Heap
 cls:String->Option Addr
noncomputable abbrev nm(s:String):Str:=cj s
abbrev xR(K:Frag)(H:Hp)(a:Addr)(vs:List V):Prop:=
 (∃o,H a=ξ (.sC o (.lst vs))) \/
  ∃(o:Obj)(its:Array Value)(n:Nat),K.lookup a=ξ o/\o.cls=.type "list"/\o.dict=ψ/\o.data=.seq its n/\its.size<=sizeLine/\Vals vs its.toList
def xR.sq{K:Frag}{H:Hp}{a:Addr}{vs:List V}(h:xR K H a vs):gX K H a vs:=by
 rcases h with⟨o,h⟩|h
 .erw[.inl (.inr #[o,h])]
 .erw[.inr h]
section
variable(c:Ctx)(ρ:List Addr)(H:Hp)
mutual
noncomputable def Rep:U->V->Prop
 |.cf,v=>v=.cf
 |.bl b,v=>v=.bl b
 |.int i,v=>v=.int i
 |.str l,v=>v=.str (tx l)
 |.tup us,v=>∃a vs,v=.ref a/\H a=ξ (.tup vs)/\aY us vs
 |.loc n,v=>∃a,v=.ref a/\ρ[n]?=ξ a
 |.sV ns,v=>∃a,v=.ref a/\xR c.K H a (ns.map .int)
 |.tab kvs,v=>∃a,v=.ref a/\Qs c.K c.w.params a (kvs.map λp=>(tx p.1,V.str (tx p.2)))
noncomputable def aY:List U->List V->Prop
 |[],vs=>vs=[]
 |u::us,vs=>∃v r,vs=v::r/\Rep u v/\aY us r
end
abbrev uo(a:Addr):SO->Prop
 |.lst us=>∃vs,H a=ξ (.lst vs)/\aY c ρ H us vs
 |.ins x fs=>∃C dx vs,c.cls x=ξ C/\H a=ξ (.ins C dx vs)/\vs.map (·.1)=(fs.map (·.1)).map nm/\aY c ρ H (fs.map (·.2)) (vs.map (·.2))
 |.dZ kvs=>∃vs,H a=ξ (.dK vs)/\vs.length=kvs.length/\aY c ρ H (kvs.map (·.1)) (vs.map λp=>kV p.1)/\aY c ρ H (kvs.map (·.2)) (vs.map (·.2))
 |.qC kvs=>∃o vs,H a=ξ (.sC o (.dK vs))/\vs.length=kvs.length/\aY c ρ H (kvs.map (·.1)) (vs.map λp=>kV p.1)/\aY c ρ H (kvs.map (·.2)) (vs.map (·.2))
 |.uA kvs=>∃vs,H a=ξ (.dT vs)/\vs.map (·.1)=kvs.map (λp=>p.1.map wX)/\aY c ρ H (kvs.map (·.2)) (vs.map (·.2))
 |.xK kvs=>∃vs,H a=ξ (.dP vs)/\vs.map (·.1)=kvs.map (·.1)/\aY c ρ H (kvs.map (·.2)) (vs.map (·.2))
structure cF(S:bM):Prop where
 len:ρ.length=S.length
 nd:ρ.Nodup
 at_:∀(n:Nat)(a:Addr)(o:SO),ρ[n]?=ξ a->S[n]?=ξ o->uo c ρ H a o
end
structure iM(ρ:List Addr)(H:Hp)(ρ':List Addr)(H':Hp):Prop where
 pre:∃more,ρ'=ρ++more
 new:∀b∈ρ',b∉ρ->H b=ψ
 fr:∀b o,H b=ξ o->b∉ρ->H' b=ξ o
 fz:∀b o vs,H b=ξ (.sC o (.dK vs))->H' b=ξ (.sC o (.dK vs))
section
variable{c:Ctx}{ρ ρ' ρ'':List Addr}{H H' H'':Hp}{S S':bM}
def iM.refl:iM ρ H ρ H:=#[#[[],#v[]],λ_ h n=>absurd h n,λ_ _ h _=>h,λ_ _ _ h=>h]
def iM.trans(a:iM ρ H ρ' H')(b:iM ρ' H' ρ'' H''):iM ρ H ρ'' H'':=by
 let#[m1,e1]:=a.pre;let#[m2,e2]:=b.pre;refine#[#[m1++m2,by rw[e2,e1,bw]],λx hx nx=>?_,λx o h nx=>?_,λx o vs h=>b.fz x o vs (a.fz x o vs h)]
 .by_cases z:x∈ρ'
  .erw[a.new x z nx]
  .cases q:H x with
   |none=>rfl
   |some o=>erw[absurd (a.fr x o q nx) (by rw[b.new x hx z];simp)]
 .have q:=a.fr x o h nx
  by_cases z:x∈ρ'
  .erw[absurd (a.new x z nx) (by rw[h];simp)]
  .erw[b.fr x o q z]
def iM.get(a:iM ρ H ρ' H'){n:Nat}{b:Addr}(h:ρ[n]?=ξ b):ρ'[n]?=ξ b:=by
 let#[m,e]:=a.pre;rw[e,ah (by let#[h,_]:=ag.mp h;erw[h])]
 erw[h]
abbrev y8:HO->Bool
 |.lst _=>ζ
 |.ins _ _ _=>ζ
 |.dK _=>ζ
 |.dT _=>ζ
 |.dP _=>ζ
 |.sC _ (.dK _)=>ζ
 |_=>ϑ
abbrev Q0:HO->Bool
 |.sC _ _=>ζ
 |_=>ϑ
def cF.obj(R:cF c ρ H S)(h:b∈ρ):∃o,H b=ξ o/\y8 o=ζ:=by
 let#[n,hn,e]:=qR h;have hn':n<S.length:=R.len▸hn;have q:=R.at_ n b S[n] (by rw[ab hn,e]) (ab hn');cases o:S[n] with
 |lst us=>rw[o] at q;let#[vs,h,_]:=q;exact#[_,h,rfl]
 |ins x fs=>rw[o] at q;let#[C,dx,vs,_,h,_]:=q;exact#[_,h,rfl]
 |dZ kvs=>rw[o] at q;let#[vs,h,_]:=q;exact#[_,h,rfl]
 |qC kvs=>rw[o] at q;let#[o',vs,h,_]:=q;exact#[_,h,rfl]
 |uA kvs=>rw[o] at q;let#[vs,h,_]:=q;exact#[_,h,rfl]
 |xK kvs=>rw[o] at q;let#[vs,h,_]:=q;exact#[_,h,rfl]
def cF.not(R:cF c ρ H S)(h:H b=ξ o)(q:y8 o=ϑ):b∉ρ:=λz=>by
 let#[o',h',q']:=R.obj z;rw[h] at h';injection h' with e;subst e
 rw[q] at q';erw[Lq q']
def cF.Jg(R:cF c ρ H S)(h:H b=ψ):b∉ρ:=λz=>by
 let#[o',h',_]:=R.obj z;rw[h] at h';cases h'
mutual
theorem Rep.iI(p:∃more,ρ'=ρ++more)(k:∀b o,H b=ξ o->y8 o=ϑ->H' b=ξ o):∀{u:U}{v:V},Rep c ρ H u v->Rep c ρ' H' u v
 |.cf,_,h=>by unfold Rep at h ⊢;erw[h]
 |.bl _,_,h=>by unfold Rep at h ⊢;erw[h]
 |.int _,_,h=>by unfold Rep at h ⊢;erw[h]
 |.str _,_,h=>by unfold Rep at h ⊢;erw[h]
 |.tup us,_,h=>by
  unfold Rep at h ⊢;let#[x,vs,e,hx,hs]:=h;exact#[x,vs,e,k x _ hx rfl,aY.iI p k hs]
 |.loc n,_,h=>by
  unfold Rep at h ⊢;let#[x,e,hx]:=h;let#[m,rfl]:=p;exact#[x,e,by rw[ah (by let#[h,_]:=ag.mp hx;erw[h])];erw[hx]]
 |.sV ns,_,h=>by
  unfold Rep at h ⊢;let#[x,e,hx]:=h;rcases hx with⟨o,hx⟩|hx
  .exact#[x,e,.inl #[o,k x _ hx rfl]]
  .exact#[x,e,.inr hx]
 |.tab _,_,h=>by unfold Rep at h ⊢;erw[h]
theorem aY.iI(p:∃more,ρ'=ρ++more)(k:∀b o,H b=ξ o->y8 o=ϑ->H' b=ξ o):∀{us:List U}{vs:List V},aY c ρ H us vs->aY c ρ' H' us vs
 |[],_,h=>by unfold aY at h ⊢;erw[h]
 |u::us,_,h=>by
  unfold aY at h ⊢;let#[v,r,e,h1,h2]:=h;exact#[v,r,e,Rep.iI p k h1,aY.iI p k h2]
end
def uo.iI(p:∃more,ρ'=ρ++more)(m:∀b o,H b=ξ o->y8 o=ϑ->H' b=ξ o)(h:uo c ρ H b o)(k:H' b=H b):uo c ρ' H' b o:=by
 cases o with
 |lst us=>let#[vs,h1,h2]:=h;exact#[vs,k.trans h1,h2.iI p m]
 |ins x fs=>let#[C,dx,vs,h0,h1,h2,h3]:=h;exact#[C,dx,vs,h0,k.trans h1,h2,h3.iI p m]
 |dZ kvs=>let#[vs,h1,h2,h3,h4]:=h;exact#[vs,k.trans h1,h2,h3.iI p m,h4.iI p m]
 |qC kvs=>let#[o,vs,h1,h2,h3,h4]:=h;exact#[o,vs,k.trans h1,h2,h3.iI p m,h4.iI p m]
 |uA kvs=>let#[vs,h1,h2,h3]:=h;exact#[vs,k.trans h1,h2,h3.iI p m]
 |xK kvs=>let#[vs,h1,h2,h3]:=h;exact#[vs,k.trans h1,h2,h3.iI p m]
def iM.Z6(R:cF c ρ H S)(a:iM ρ H ρ' H'):∀b o,H b=ξ o->y8 o=ϑ->H' b=ξ o:=λb o h q=>a.fr b o h (R.not h q)
def Rep.mono(R:cF c ρ H S)(a:iM ρ H ρ' H')(h:Rep c ρ H u v):Rep c ρ' H' u v:=h.iI a.pre (a.Z6 R)
def aY.mono(R:cF c ρ H S)(a:iM ρ H ρ' H')(h:aY c ρ H us vs):aY c ρ' H' us vs:=h.iI a.pre (a.Z6 R)
def uo.mono(R:cF c ρ H S)(a:iM ρ H ρ' H')(h:uo c ρ H b o)(k:H' b=H b):uo c ρ' H' b o:=h.iI a.pre (a.Z6 R) k
def y9(hD:H D=ξ o)(q:y8 o=ζ):∀b o,H b=ξ o->y8 o=ϑ->upd H D ho b=ξ o:=λb o' h z=>by
 rw[cq]
 .erw[h]
 .intro e;subst e;rw[hD] at h;injection h with h;subst h;rw[q] at z;erw[Lq z]
def cF.A9(R:cF c ρ H S)(ho:HO)(hD:H D=ξ o)(q:y8 o=ζ)(n:D∉ρ):cF c ρ (upd H D ho) S:=
 #[R.len,R.nd,λm b o' h1 h2=>(R.at_ m b o' h1 h2).iI #[[],#v[]] (y9 hD q) (cq λe=>n (e▸ai h1))]
def cF.join(R:cF c ρ H S)(n:D∉ρ)(h:uo c ρ H D o):cF c (ρ++[D]) H (S++[o]):=by
 have p:∃more,ρ++[D]=ρ++more:=#[[D],rfl]
 refine#[by simp[R.len],?_,λm a o' h1 h2=>?_]
 .rw[fE]
  exact#[R.nd,#v[],λx hx y hy=>%[bI.mp hy|λe=>n (e▸hx)]]
 .by_cases z:m<ρ.length
  .rw[ah z] at h1
   rw[ah (R.len▸z)] at h2;exact(R.at_ m a o' h1 h2).iI p (λ_ _ h _=>h) rfl
  .have hz:m=ρ.length:=by
    let#[q,_]:=ag.mp h1;simp at q;omega
   subst hz;rw[ay (ar _),bZ] at h1;rw[R.len,ay (ar _),bZ] at h2;simp at h1 h2;rw[<-h1,<-h2];erw[h.iI p (λ_ _ h _=>h) rfl]
def iM.alloc(R:cF c ρ H S)(hp:H p=ψ)(o:HO):iM ρ H (ρ++[p]) (upd H p o):=by
 refine#[#[[p],rfl],λb hb nb=>?_,λb o h nb=>?_,λb o vs h=>%[cq (dD h hp)|h]]
 .rcases aL.mp hb with h|h
  .erw[absurd h nb]
  .rw[bI.mp h];erw[hp]
 .rw[cq (dD h hp)];erw[h]
def cF.alloc(R:cF c ρ H S)(hp:H p=ψ)(h:uo c (ρ++[p]) (upd H p ho) p o):cF c (ρ++[p]) (upd H p ho) (S++[o]):=by
 have st:=iM.alloc R hp ho;refine#[by simp[R.len],?_,λn a o' h1 h2=>?_]
 .rw[fE]
  exact#[R.nd,#v[],λx hx y hy=>%[bI.mp hy|λe=>R.Jg hp (e▸hx)]]
 .by_cases z:n<ρ.length
  .rw[ah z] at h1
   rw[ah (R.len▸z)] at h2;refine(R.at_ n a o' h1 h2).mono R st (cq λe=>?_);erw[R.Jg hp (e▸ai h1)]
  .have hz:n=ρ.length:=by
    let#[q,_]:=ag.mp h1;simp at q;omega
   subst hz;rw[ay (ar _),bZ] at h1;rw[R.len,ay (ar _),bZ] at h2;simp at h1 h2;rw[<-h1,<-h2];erw[h]
def iM.lay(R:cF c ρ H S)(hp:H p=ψ)(o:HO):iM ρ H ρ (upd H p o):=
 #[#[[],#v[]],λ_ h n=>absurd h n,λb _ h _=>%[cq (dD h hp)|h],λb o vs h=>%[cq (dD h hp)|h]]
def cF.lay(R:cF c ρ H S)(hp:H p=ψ)(o:HO):cF c ρ (upd H p o) S:=
 #[R.len,R.nd,λn a o' h1 h2=>(R.at_ n a o' h1 h2).mono R (iM.lay R hp o) (cq λe=>R.Jg hp (e▸ai h1))]
def iM.put(h:a∈ρ)(hu:H a=ξ u)(nf:Q0 u=ϑ)(o:HO):iM ρ H ρ (upd H a o):=
 #[#[[],#v[]],λ_ h n=>absurd h n,λb _ q nb=>by rw[cq (show b≠a from λe=>nb (by rw[e];exact h))];exact q,
  λb o' vs q=>by rw[cq λe=>by rw[e,hu] at q;injection q with q;rw[q] at nf;cases nf];erw[q]]
def cF.put(R:cF c ρ H S)(ha:ρ[n]?=ξ a)(hu:H a=ξ u)(nf:Q0 u=ϑ)(h:uo c ρ (upd H a ho) a o):cF c ρ (upd H a ho) (S.set n o):=by
 have hm:=ai ha;refine#[by simp[R.len],R.nd,λm b o' h1 h2=>?_];by_cases z:m=n
 .subst z
  rw[ha] at h1;injection h1 with h1;subst h1
  have hl:m<S.length:=R.len▸(ag.mp ha).1;rw[bA hl] at h2;injection h2 with h2;subst h2;erw[h]
 .rw[ao (cM z)] at h2
  refine(R.at_ m b o' h1 h2).mono R (iM.put hm hu nf ho) (cq λe=>z ?_);subst e;let#[l1,e1]:=ag.mp h1;let#[l2,e2]:=ag.mp ha;exact(Lm R.nd).mp (e1.trans e2.symm)
def aY.len:∀{us:List U}{vs:List V},aY c ρ H us vs->us.length=vs.length
 |[],_,h=>by unfold aY at h;subst h;rfl
 |_::us,_,h=>by
  unfold aY at h;let#[v,r,e,_,h2]:=h;subst e;rw[aU,aU,aY.len h2]
def aY.nil:aY c ρ H [] []:=by unfold aY;rfl
def aY.cons(h:Rep c ρ H u v)(t:aY c ρ H us vs):aY c ρ H (u::us) (v::vs):=by unfold aY;exact#[v,vs,rfl,h,t]
def aY.app:∀{us ws:List U}{vs xs:List V},aY c ρ H us vs->aY c ρ H ws xs->aY c ρ H (us++ws) (vs++xs)
 |[],_,_,_,h,k=>by unfold aY at h;subst h;erw[k]
 |u::us,_,_,_,h,k=>by
  unfold aY at h;let#[v,r,e,h1,h2]:=h;subst e;erw[aY.cons h1 (aY.app h2 k)]
def aY.get:∀{us:List U}{vs:List V}{n:Nat}{u:U},aY c ρ H us vs->us[n]?=ξ u->∃v,vs[n]?=ξ v/\Rep c ρ H u v
 |[],_,_,_,_,e=>by simp at e
 |u::us,_,n,_,h,e=>by
  unfold aY at h;let#[v,r,e',h1,h2]:=h;subst e';cases n with
  |zero=>simp at e;subst e;exact#[v,rfl,h1]
  |succ n=>simp at e ⊢;erw[aY.get h2 e]
def aY.take:∀{us:List U}{vs:List V}(n:Nat),aY c ρ H us vs->aY c ρ H (us.take n) (vs.take n)
 |_,_,0,_=>by dsimp[List.take_zero];erw[aY.nil]
 |[],_,_+1,h=>by unfold aY at h;subst h;dsimp[List.take_nil];erw[aY.nil]
 |u::us,_,n+1,h=>by
  unfold aY at h;let#[v,r,e,h1,h2]:=h;subst e;erw[aY.cons h1 (aY.take n h2)]
def aY.drop:∀{us:List U}{vs:List V}(n:Nat),aY c ρ H us vs->aY c ρ H (us.drop n) (vs.drop n)
 |_,_,0,h=>h
 |[],_,_+1,h=>by unfold aY at h;subst h;dsimp[List.drop_nil];erw[aY.nil]
 |u::us,_,n+1,h=>by
  unfold aY at h;let#[v,r,e,h1,h2]:=h;subst e;erw[aY.drop n h2]
end
open PL (U SO bM KU Spec cv)
section
variable{X:Cx}{pZ:List (Addr×Obj)}{e:Expr}{es:List Expr}
def PE.imp(h:PE X e t)(q:∀σ H Q,t' σ H Q->t σ H Q):PE X e t':=λpZ s σ H Q I z=>h pZ s σ H Q I (q σ H Q z)
def PT.imp(h:PT X e t)(q:∀σ H Q,t' σ H Q->t σ H Q):PT X e t':=λpZ s σ H Q I z=>h pZ s σ H Q I (q σ H Q z)
end
structure kz(c:Ctx)(ρ:List Addr)(H:Hp)(env:PL.Env)(σ:St):Prop where
 len:env.length=σ.length
 at_:∀(i:Nat)u,env[i]?=ξ (ξ u)->∃v,σ[i]?=ξ (ξ v)/\Rep c ρ H u v
section
variable(c:Ctx)(ρ:List Addr)(H:Hp)
abbrev QV(QU:KU)(Q:VK):Prop:=∀u S' v H' ρ',QU u S'->iM ρ H ρ' H'->cF c ρ' H' S'->Rep c ρ' H' u v->Q v H'
abbrev QB(QU:Bool->bM->Prop)(Q:Bool->Hp->Prop):Prop:=∀b S' H' ρ',QU b S'->iM ρ H ρ' H'->cF c ρ' H' S'->Q b H'
abbrev QA(QU:List U->bM->Prop)(Q:List V->Hp->Prop):Prop:=∀us S' vs H' ρ',QU us S'->iM ρ H ρ' H'->cF c ρ' H' S'->aY c ρ' H' us vs->Q vs H'
end
section
variable{c:Ctx}{ρ ρ':List Addr}{H H':Hp}{S:bM}
def QV.later(q:QV c ρ H QU Q)(a:iM ρ H ρ' H'):QV c ρ' H' QU Q:=λu S' v H2 ρ2 h b R r=>q u S' v H2 ρ2 h (a.trans b) R r
def QB.later(q:QB c ρ H QU Q)(a:iM ρ H ρ' H'):QB c ρ' H' QU Q:=λu S' H2 ρ2 h b R=>q u S' H2 ρ2 h (a.trans b) R
def QV.now(q:QV c ρ H QU Q)(R:cF c ρ H S)(h:QU u S)(r:Rep c ρ H u v):Q v H:=q u S v H ρ h .refl R r
def kz.later(h:kz c ρ H env σ)(R:cF c ρ H S)(a:iM ρ H ρ' H'):kz c ρ' H' env σ:=
 #[h.len,λi u e=>by let#[v,h1,h2]:=h.at_ i u e;exact#[v,h1,h2.mono R a]]
end
section
variable(c:Ctx)(Γ:cv)
abbrev tE(x:PL.Ex):TE:=λσ H Q=>∃env ρ S QU,kz c ρ H env σ/\cF c ρ H S/\PL.WE Γ x env S QU/\QV c ρ H QU Q
abbrev tT(x:PL.Tx):TT:=λσ H Q=>∃env ρ S QU,kz c ρ H env σ/\cF c ρ H S/\PL.WT Γ x env S QU/\QB c ρ H QU Q
abbrev Hn(x:PL.z7):TA:=λσ H Q=>∃env ρ S QU,kz c ρ H env σ/\cF c ρ H S/\PL.wO Γ x env S QU/\QA c ρ H QU Q
end
open PL (U SO bM KU Spec cv)
def qt(h:n<=1000000):n<=sizeLine:=aH h ⋯
section
variable{c:Ctx}{ρ:List Addr}{H:Hp}{S:bM}
def fh:Rep c ρ H .cf v↔v=.cf:=by unfold Rep;erw[lJ]
def eP:Rep c ρ H (.bl b) v↔v=.bl b:=by unfold Rep;erw[lJ]
def aT:Rep c ρ H (.int b) v↔v=.int b:=by unfold Rep;erw[lJ]
def bF:Rep c ρ H (.str b) v↔v=.str (tx b):=by unfold Rep;erw[lJ]
def d7:Rep c ρ H (.tup us) v↔∃a vs,v=.ref a/\H a=ξ (.tup vs)/\aY c ρ H us vs:=by unfold Rep;erw[lJ]
def d8:Rep c ρ H (.loc n) v↔∃a,v=.ref a/\ρ[n]?=ξ a:=by unfold Rep;erw[lJ]
def rS:Rep c ρ H (.sV ns) v↔∃a,v=.ref a/\xR c.K H a (ns.map .int):=by unfold Rep;erw[lJ]
def uH:Rep c ρ H (.tab kvs) v↔∃a,v=.ref a/\Qs c.K c.w.params a (kvs.map λp=>(tx p.1,V.str (tx p.2))):=by unfold Rep;erw[lJ]
def cF.lst(R:cF c ρ H S)(h:S[n]?=ξ (.lst us))(r:Rep c ρ H (.loc n) v):∃a vs,v=.ref a/\ρ[n]?=ξ a/\H a=ξ (.lst vs)/\aY c ρ H us vs:=by
 let#[a,e,ha]:=d8.mp r;let#[vs,h1,h2]:=R.at_ n a _ ha h;exact#[a,vs,e,ha,h1,h2]
def cF.ins(R:cF c ρ H S)(h:S[n]?=ξ (.ins x fs))(r:Rep c ρ H (.loc n) v):∃a C dx vs,v=.ref a/\ρ[n]?=ξ a/\c.cls x=ξ C/\H a=ξ (.ins C dx vs)/\vs.map (·.1)=(fs.map (·.1)).map nm/\aY c ρ H (fs.map (·.2)) (vs.map (·.2)):=by
 let#[a,e,ha]:=d8.mp r;let#[C,dx,vs,h0,h1,h2,h3]:=R.at_ n a _ ha h;exact#[a,C,dx,vs,e,ha,h0,h1,h2,h3]
def QV.C3(q:QV c ρ H QU Q)(R:cF c ρ H S)(r:aY c ρ H us vs)(h:QU (.loc S.length) (S++[.lst us]))(hp:H p=ψ):Q (.ref p) (upd H p (.lst vs)):=by
 have st:=iM.alloc R hp (.lst vs);have R':cF c (ρ++[p]) (upd H p (.lst vs)) (S++[.lst us]):=R.alloc hp #[vs,b8,r.mono R st];rwa[q _ _ _ _ _ h st R' (d8.mpr #[p,rfl,?_])];rw[<-R.len,ay (ar _),bZ];rfl
def QV.Q2(q:QV c ρ H QU Q)(R:cF c ρ H S)(r:aY c ρ H us vs)(h:QU (.tup us) S)(hp:H p=ψ):Q (.ref p) (upd H p (.tup vs)):=by
 have st:=iM.lay R hp (.tup vs);erw[q _ _ _ _ _ h st (R.lay hp _) (d7.mpr #[p,vs,rfl,b8,r.mono R st])]
end
abbrev wQ(c:Ctx)(o:PL.FN):R2:=λx y H Q=>∃ux uy ρ S QU,Rep c ρ H ux x/\Rep c ρ H uy y/\cF c ρ H S/\PL.kG o ux uy S QU/\QV c ρ H QU Q
abbrev M4:PL.FN->mW
 |.add=>.Add|.sub=>.Sub|.mul=>.Mult|.fdiv=>.FloorDiv|.mod=>.Mod|.band=>.BitAnd|.bor=>.BitOr|.shl=>.LShift|.shr=>.RShift
section
variable{X:Cx}{c:Ctx}
def M5:iw X (cX .Add) (wQ c .add):=by
 x_go;let#[ux,uy,ρ,S,QU,hx,hy,R,w,q]:=h;cases ux<;>first|exact aZ w|skip
 .rename_i i
  let#[j,rfl,w]:=PL.fX.mp w;erw[PU pZ s σ H x y v u Q I rx ry #[i,j,aT.mp hx,aT.mp hy,q.now R w (aT.mpr rfl)]]
 .rename_i a
  let#[b,rfl,w]:=PL.pI.mp w;erw[FL pZ s σ H x y v u Q I rx ry #[a,b,bF.mp hx,bF.mp hy,qt w.1,q.now R w.2 (bF.mpr rfl)]]
 .rename_i us
  let#[ws,rfl,w]:=PL.MH.mp w;let#[a,vs,e1,h1,r1]:=d7.mp hx;let#[b,zs,e2,h2,r2]:=d7.mp hy;let#[#[w0,w1],w2]:=w;rwa[Mi pZ s σ H x y v u Q I rx ry #[a,b,vs,zs,e1,e2,oG.of h1,oG.of h2,λe=>w0 ?_,qt (by rw[<-r1.len,<-r2.len];erw[w1]),λe=>?_,λ_ p hp=>?_]]
  .erw[gx (by rw[r1.len,e];rfl)]
  .have e3:ws=[]:=gx (by rw[r2.len,e];rfl)
   subst e3;rw[bT] at w2;rw[<-e1]
   erw[q.now R w2 hx]
  .erw[q.Q2 R (r1.app r2) w2 hp]
 .rename_i m
  let#[n,rfl,w]:=PL.iy.mp w;let#[us,h1,w1]:=PL.cU.mp w;let#[ws,h2,w2,w3]:=PL.cU.mp w1;let#[a,vs,e1,_,g1,r1]:=R.lst h1 hx;let#[b,zs,e2,_,g2,r2]:=R.lst h2 hy;erw[Qk pZ s σ H x y v u Q I rx ry #[a,b,vs,zs,e1,e2,g1,g2,qt (by rw[<-r1.len,<-r2.len];exact w2),λp hp=>q.C3 R (r1.app r2) w3 hp]]
def M6:iw X (cX .Sub) (wQ c .sub):=by
 x_go;let#[ux,uy,ρ,S,QU,hx,hy,R,w,q]:=h;let#[i,j,rfl,rfl,w]:=PL.kr w;erw[PV pZ s σ H x y v u Q I rx ry #[i,j,aT.mp hx,aT.mp hy,q.now R w (aT.mpr rfl)]]
def M7:iw X (cX .Mult) (wQ c .mul):=by
 x_go;let#[ux,uy,ρ,S,QU,hx,hy,R,w,q]:=h;let#[i,j,rfl,rfl,w]:=PL.kr w;erw[PX pZ s σ H x y v u Q I rx ry #[i,j,aT.mp hx,aT.mp hy,w.1,q.now R w.2 (aT.mpr rfl)]]
def Jh:iw X (cX .FloorDiv) (wQ c .fdiv):=by
 x_go;let#[ux,uy,ρ,S,QU,hx,hy,R,w,q]:=h;let#[i,j,rfl,rfl,w]:=PL.kr w;erw[L0 pZ s σ H x y v u Q I rx ry #[i,j,aT.mp hx,aT.mp hy,w.1,q.now R w.2 (aT.mpr rfl)]]
def M8:iw X (cX .Mod) (wQ c .mod):=by
 x_go;let#[ux,uy,ρ,S,QU,hx,hy,R,w,q]:=h;let#[i,j,rfl,rfl,w]:=PL.kr w;erw[PY pZ s σ H x y v u Q I rx ry #[i,j,aT.mp hx,aT.mp hy,w.1,q.now R w.2 (aT.mpr rfl)]]
def Ji:iw X (cX .BitAnd) (wQ c .band):=by
 x_go;let#[ux,uy,ρ,S,QU,hx,hy,R,w,q]:=h;let#[i,j,rfl,rfl,w]:=PL.kr w;erw[P1 pZ s σ H x y v u Q I rx ry #[i,j,aT.mp hx,aT.mp hy,by dsimp only;rw[uE w.1.1 w.1.2];exact q.now R w.2 (aT.mpr rfl)]]
def M9:iw X (cX .BitOr) (wQ c .bor):=by
 x_go;let#[ux,uy,ρ,S,QU,hx,hy,R,w,q]:=h;let#[i,j,rfl,rfl,w]:=PL.kr w;erw[UM pZ s σ H x y v u Q I rx ry #[i,j,aT.mp hx,aT.mp hy,by dsimp only;rw[CV w.1.1 w.1.2];exact q.now R w.2 (aT.mpr rfl)]]
def Na:iw X (cX .LShift) (wQ c .shl):=by
 x_go;let#[ux,uy,ρ,S,QU,hx,hy,R,w,q]:=h;let#[i,j,rfl,rfl,w]:=PL.kr w;let#[#[w1,w2,w3,w4],w5]:=w;erw[PZ pZ s σ H x y v u Q I rx ry #[i,j,aT.mp hx,aT.mp hy,#[w3,∅,∅],q.now R w5 (aT.mpr rfl)]]
def Nb:iw X (cX .RShift) (wQ c .shr):=by
 x_go;let#[ux,uy,ρ,S,QU,hx,hy,R,w,q]:=h;let#[i,j,rfl,rfl,w]:=PL.kr w;erw[P0 pZ s σ H x y v u Q I rx ry #[i,j,aT.mp hx,aT.mp hy,w.1.2,q.now R w.2 (aT.mpr rfl)]]
abbrev Gb(c:Ctx)(o:PL.FN):R2:=λx y H Q=>∃ux uy ρ S QU,Rep c ρ H ux x/\Rep c ρ H uy y/\cF c ρ H S/\PL.yR o ux uy S QU/\QV c ρ H QU Q
def Jj:iw X (iD .Add) (Gb c .add):=by
 x_go;let#[ux,uy,ρ,S,QU,hx,hy,R,w,q]:=h;cases ux<;>first|exact aZ w|skip
 .rename_i i
  let#[j,rfl,w]:=PL.fX.mp w;erw[L1 pZ s σ H x y v u Q I rx ry #[i,j,aT.mp hx,aT.mp hy,q.now R w (aT.mpr rfl)]]
 .rename_i a
  let#[b,rfl,w]:=PL.pI.mp w;erw[CJ pZ s σ H x y v u Q I rx ry #[a,b,bF.mp hx,bF.mp hy,qt w.1,q.now R w.2 (bF.mpr rfl)]]
def Jk:iw X (iD .Sub) (Gb c .sub):=by
 x_go;let#[ux,uy,ρ,S,QU,hx,hy,R,w,q]:=h;cases ux<;>first|exact aZ w|skip
 rename_i i;let#[j,rfl,w]:=PL.fX.mp w;erw[L3 pZ s σ H x y v u Q I rx ry #[i,j,aT.mp hx,aT.mp hy,q.now R w (aT.mpr rfl)]]
def Jl:iw X (iD .BitOr) (Gb c .bor):=by
 x_go;let#[ux,uy,ρ,S,QU,hx,hy,R,w,q]:=h;cases ux<;>first|exact aZ w|skip
 rename_i i;let#[j,rfl,w]:=PL.fX.mp w;erw[P2 pZ s σ H x y v u Q I rx ry #[i,j,aT.mp hx,aT.mp hy,by dsimp only;rw[CV w.1.1 w.1.2];exact q.now R w.2 (aT.mpr rfl)]]
def Nc:iw X (cX (M4 o)) (wQ c o):=by
 cases o
 .erw[M5]
 .erw[M6]
 .erw[M7]
 .erw[Jh]
 .erw[M8]
 .erw[Ji]
 .erw[M9]
 .erw[Na]
 .erw[Nb]
def zc(h:o=.add\/o=.sub\/o=.bor):iw X (iD (M4 o)) (Gb c o):=by
 rcases h with rfl|rfl|rfl
 .erw[Jj]
 .erw[Jk]
 .erw[Jl]
abbrev tf(c:Ctx)(o:PL.OP):R2:=λx y H Q=>∃ux uy ρ S,Rep c ρ H ux x/\Rep c ρ H uy y/\cF c ρ H S/\PL.iP o ux uy S λb=>Q (.bl b) H
end
mutual
noncomputable def j8:U->Dv
 |.cf=>.cf
 |.bl b=>.bl b
 |.int i=>.int i
 |.str l=>.str l
 |.tup us=>.tup (iJ us)
 |_=>.cf
noncomputable def iJ:List U->List Dv
 |[]=>[]
 |u::us=>j8 u::iJ us
end
section
variable{c:Ctx}{ρ:List Addr}{H:Hp}{S:bM}
mutual
theorem rT:∀{u:U}{v:V},PL.CO u=ζ->Rep c ρ H u v->nV c.K H v (j8 u)
 |.cf,_,_,h=>by unfold j8 nV;erw[fh.mp h]
 |.bl _,_,_,h=>by unfold j8 nV;erw[eP.mp h]
 |.int _,_,_,h=>by unfold j8 nV;erw[aT.mp h]
 |.str _,_,_,h=>by unfold j8 nV;erw[bF.mp h]
 |.tup us,_,d,h=>by
  unfold j8 nV;let#[a,vs,e,h1,h2]:=d7.mp h;exact#[a,vs,e,oG.of h1,Ba (by unfold PL.CO at d;erw[d]) h2]
 |.loc _,_,d,_=>by cases d
 |.sV _,_,d,_=>by cases d
 |.tab _,_,d,_=>by cases d
theorem Ba:∀{us:List U}{vs:List V},PL.wM us=ζ->aY c ρ H us vs->i3 c.K H vs (iJ us)
 |[],_,_,h=>by unfold aY at h;subst h;unfold iJ i3;trivial
 |u::us,_,d,h=>by
  unfold aY at h;let#[v,r,e,h1,h2]:=h;subst e;unfold PL.wM at d;rw[aj] at d;unfold iJ i3;exact#[rT d.1 h1,Ba d.2 h2]
end
end
mutual
theorem Q3:∀u:U,PL.CO u=ζ->(j8 u).depth=PL.dep u
 |.cf,_=>by simp[j8,Dv.depth,PL.dep]
 |.bl _,_=>by simp[j8,Dv.depth,PL.dep]
 |.int _,_=>by simp[j8,Dv.depth,PL.dep]
 |.str _,_=>by simp[j8,Dv.depth,PL.dep]
 |.tup us,d=>by
  unfold j8 Dv.depth PL.dep;rw[uI us (by unfold PL.CO at d;erw[d])]
 |.loc _,d=>by cases d
 |.sV _,d=>by cases d
 |.tab _,d=>by cases d
theorem uI:∀us:List U,PL.wM us=ζ->Dv.kq (iJ us)=PL.AW us
 |[],_=>by simp[iJ,Dv.kq,PL.AW]
 |u::us,d=>by
  unfold PL.wM at d;rw[aj] at d;unfold iJ Dv.kq PL.AW;rw[Q3 u d.1,uI us d.2]
end
mutual
theorem Jm:∀x y:U,PL.CO x=ζ->PL.CO y=ζ->PL.Hm x y=BZ (j8 x) (j8 y)
 |.tup us,y,d,d'=>by
  cases y with
  |tup ws=>erw[Jn us ws d d']
  |_=>first|rfl|cases d'
 |.loc _,_,d,_|.sV _,_,d,_|.tab _,_,d,_=>by cases d
 |.cf,y,_,d|.bl _,y,_,d|.int _,y,_,d|.str _,y,_,d=>by cases y<;>first|rfl|cases d
theorem Jn:∀xs ys:List U,PL.wM xs=ζ->PL.wM ys=ζ->PL.FR xs ys=m9 (iJ xs) (iJ ys)
 |[],y,_,_=>by cases y<;>rfl
 |_::_,[],_,_=>rfl
 |x::xs,y::ys,d,d'=>by
  have d:=(aj _ _).mp d;have d':=(aj _ _).mp d'
  change (PL.Hm x y&&PL.FR xs ys)=(BZ (j8 x) (j8 y)&&m9 (iJ xs) (iJ ys))
  rw[Jm x y d.1 d'.1,Jn xs ys d.2 d'.2]
end
def Q4:decide (V.str (tx a)=V.str (tx b))=(a==b):=by
 rw[cy]
 simp[DZ]
def Eg(t:PL.IG x y=ζ)(nt:PL.II x=ζ)(hx:Rep c ρ H x v)(hy:Rep c ρ H y w):P5 v w=ζ/\decide (v=w)=PL.Hm x y:=by
 cases x<;>first|exact ff nt|exact ff t| (cases y<;>first|exact ff t| ((first|rw[fh.mp hx]|rw[eP.mp hx]|rw[aT.mp hx]|rw[bF.mp hx]);(first|rw[fh.mp hy]|rw[eP.mp hy]|rw[aT.mp hy]|rw[bF.mp hy]);first|exact#[rfl,rfl]|exact#[rfl,Co]|exact#[rfl,yD]|exact#[rfl,Q4]))
section
variable{X:Cx}{c:Ctx}
def Q5(hK:X.K=c.K)(hu:X.A.units+200<d6):iw X (bH .Eq) (tf c .eq):=by
 x_go;let#[ux,uy,ρ,S,hx,hy,R,w0]:=h;have go:(PL.wu ux uy λb=>Q (.bl b) H)->wpAny (bf X.prog X.w) X.A (bH .Eq v u) (EP X pZ σ Q) X.xe s:=by
  intro hh;let#[#[t,d,d',z],w]:=hh;by_cases nt:PL.II ux=ζ
  .let#[e1,e2]:=Eg t nt hx hy
   erw[UN pZ s σ H x y v u Q I rx ry #[e1,by rw[e2];exact w]]
  .cases ux<;>first|exact absurd rfl nt|skip
   rename_i us;have g:=rT d hx;unfold j8 at g;rwa[Qt hu pZ s σ H x y v u Q I rx ry #[iJ us,j8 uy,hK▸g,hK▸rT d' hy,?_,?_]]
   .rw[uI us (by unfold PL.CO at d;erw[d])];unfold PL.dep at z;omega
   .have:=Jm (.tup us) uy d d'
    rw[show j8 (.tup us)= .tup (iJ us) from by simp[j8]] at this;rw[<-this];erw[w]
 erw[go w0]
def Q6(hK:X.K=c.K)(hu:X.A.units+200<d6):iw X (bH .NotEq) (tf c .ne):=by
 x_go;let#[ux,uy,ρ,S,hx,hy,R,w0]:=h;let#[nt,#[t,d,d',z],w]:=w0;by_cases nt1:PL.II ux=ζ
 .let#[e1,e2]:=Eg t nt1 hx hy
  erw[UO pZ s σ H x y v u Q I rx ry #[e1,by rw[e2];exact w]]
 .cases ux<;>first|exact absurd rfl nt1|skip
  cases uy<;>first|exact ff nt|skip
  rename_i us us';have g:=rT d hx;have g':=rT d' hy;unfold j8 at g g';rwa[Qw hu pZ s σ H x y v u Q I rx ry #[iJ us,iJ us',hK▸g,hK▸g',?_,?_]]
  .rw[uI us (by unfold PL.CO at d;erw[d])];unfold PL.dep at z;omega
  .have:=Jm (.tup us) (.tup us') d d'
   rw[show j8 (.tup us)= .tup (iJ us) from by simp[j8],show j8 (.tup us')= .tup (iJ us') from by simp[j8]] at this;rw[show m9 (iJ us) (iJ us')=BZ (.tup (iJ us)) (.tup (iJ us')) from rfl,<-this];erw[w]
end
open PL (U SO bM KU Spec cv)
section
variable{X:Cx}{c:Ctx}
def Q7:iw X (bH .Lt) (tf c .lt):=by
 x_go;let#[ux,uy,ρ,S,hx,hy,R,w]:=h;let#[i,j,rfl,rfl,w]:=PL.kr w;erw[UP pZ s σ H x y v u Q I rx ry #[_,_,aT.mp hx,aT.mp hy,w]]
def Q8:iw X (bH .LtE) (tf c .le):=by
 x_go;let#[ux,uy,ρ,S,hx,hy,R,w]:=h;let#[i,j,rfl,rfl,w]:=PL.kr w;erw[UQ pZ s σ H x y v u Q I rx ry #[_,_,aT.mp hx,aT.mp hy,w]]
def Q9:iw X (bH .Gt) (tf c .gt):=by
 x_go;let#[ux,uy,ρ,S,hx,hy,R,w]:=h;let#[i,j,rfl,rfl,w]:=PL.kr w;erw[UR pZ s σ H x y v u Q I rx ry #[_,_,aT.mp hx,aT.mp hy,w]]
def Ra:iw X (bH .GtE) (tf c .ge):=by
 x_go;let#[ux,uy,ρ,S,hx,hy,R,w]:=h;let#[i,j,rfl,rfl,w]:=PL.kr w;erw[US pZ s σ H x y v u Q I rx ry #[_,_,aT.mp hx,aT.mp hy,w]]
def xS(h:Rep c ρ H u v):decide (v=V.cf)=PL.xM u:=by
 cases u with
 |cf=>rw[fh.mp h];rfl
 |bl b=>rw[eP.mp h];rfl
 |int i=>rw[aT.mp h];rfl
 |str l=>rw[bF.mp h];rfl
 |tup us=>let#[a,vs,e,_]:=d7.mp h;rw[e];rfl
 |loc n=>let#[a,e,_]:=d8.mp h;rw[e];rfl
 |sV ns=>let#[a,e,_]:=rS.mp h;rw[e];rfl
 |tab kvs=>let#[a,e,_]:=uH.mp h;rw[e];rfl
def Rb:iw X (bH .Is) (tf c .Qu):=by
 x_go;let#[ux,uy,ρ,S,hx,hy,R,w]:=h;have e:uy=.cf:=by cases uy<;>first|rfl|exact aZ w
 subst e;rw[PL.Zd] at w;erw[P6 pZ s σ H x y v u Q I rx ry #[fh.mp hy,by rw[xS hx];exact w]]
def Jo:iw X (bH .IsNot) (tf c .FO):=by
 x_go;let#[ux,uy,ρ,S,hx,hy,R,w]:=h;have e:uy=.cf:=by cases uy<;>first|rfl|exact aZ w
 subst e;rw[PL.QS] at w;erw[L4 pZ s σ H x y v u Q I rx ry #[fh.mp hy,by rw[xS hx];exact w]]
def oY(f:PL.flat u=ζ)(h:Rep c ρ H u v):qk v=ζ:=by
 cases u<;>first|exact ff f| (rw[fh.mp h];rfl)| (rw[eP.mp h];rfl)| (rw[aT.mp h];rfl)| (rw[bF.mp h];rfl)
def Nd(f:PL.flat u=ζ)(f':PL.flat u'=ζ)(h:Rep c ρ H u v)(h':Rep c ρ H u' v'):Ml v v'=PL.Hm u u':=by
 cases u<;>first|exact ff f| (cases u'<;>first|exact ff f'| ((first|rw[fh.mp h]|rw[eP.mp h]|rw[aT.mp h]|rw[bF.mp h]);(first|rw[fh.mp h']|rw[eP.mp h']|rw[aT.mp h']|rw[bF.mp h']);first|rfl|exact cy.mpr (by rename_i a b;show(tx a==tx b)=ζ↔(a==b)=ζ;simp[OO])))
def rV(f:PL.flat u=ζ)(h:Rep c ρ H u v):∀{us:List U}{vs:List V},us.all PL.flat=ζ->aY c ρ H us vs->vs.all qk=ζ/\XR v vs=us.any λy=>PL.Hm y u
 |[],_,_,r=>by unfold aY at r;subst r;exact#[rfl,rfl]
 |w::us,_,a,r=>by
  unfold aY at r;let#[x,t,e,h1,h2]:=r;subst e;rw[bG,aj] at a;let#[z1,z2]:=rV f h a.2 h2;refine#[by rw[bG,oY a.1 h1,z1];rfl,?_];unfold XR at z2 ⊢;rw[dO,dO,z2,Nd a.1 f h1 h]
def lookup_tab{kvs:List (List Nat×List Nat)}{k v:List Nat}(h:kvs.lookup k=ξ v):(kvs.map λp=>(tx p.1,V.str (tx p.2))).lookup (tx k)=ξ (V.str (tx v)):=by
 induction kvs with
 |nil=>cases h
 |cons p r ih=>
  let#[a,b]:=p;rw[aw,aP]
  rw[aP] at h;by_cases e:k=a
  .subst e
   simp at h ⊢;erw[h]
  .have e2:(k==a)=ϑ:=by simp[e]
   have e3:(tx k==tx a)=ϑ:=by
    rw[beq_eq_false_iff_ne];erw[λz=>e (oW z)]
   rw[e2] at h;dsimp[e3];erw[ih h]
def Bb{kvs:List (List Nat×List Nat)}{k:List Nat}(h:kvs.lookup k=ψ):(kvs.map λp=>(tx p.1,V.str (tx p.2))).lookup (tx k)=ψ:=by
 induction kvs with
 |nil=>rfl
 |cons p r ih=>
  rw[aP] at h;rw[aw,aP]
  cases z:k==p.1 with
  |true=>rw[z] at h;cases h
  |false=>
   rw[z] at h;have:(tx k==tx p.1)=ϑ:=by
    rw[beq_eq_false_iff_ne] at z ⊢;erw[λe=>z (oW e)]
   rw[this]
   erw[ih h]
def Rc(hK:X.K=c.K)(hP:X.w.params=c.w.params):iw X (bH .In) (tf c .isin):=by
 x_go;let#[ux,uy,ρ,S,hx,hy,R,w]:=h;cases uy with
 |str b=>
  let#[a,rfl,w]:=PL.pI.mp w;erw[FT pZ s σ H x y v u Q I rx ry #[a,b,bF.mp hx,bF.mp hy,w]]
 |tab kvs=>
  let#[k,rfl,w]:=PL.pI.mp w;let#[a,e,h1]:=uH.mp hy;have w:Q (.bl (kvs.lookup k).isSome) H:=w;have ex:=h1.ex;rw[<-hK,<-hP] at ex;cases z:kvs.lookup k with
  |some t=>
   let#[u',_,e2]:=h1.at_ _ _ (lookup_tab z);exact IL pZ s σ H x y v u Q I rx ry #[a,_,ξ u',bF.mp hx,e,ex,h1.ns,hK▸e2,by rw[z] at w;erw[w]]
  |none=>
   have e2:=h1.no _ (Bb z);exact IL pZ s σ H x y v u Q I rx ry #[a,_,ψ,bF.mp hx,e,ex,h1.ns,hK▸e2,by rw[z] at w;erw[w]]
 |tup us=>
  rw[PL.QP] at w;let#[#[f,a],w]:=w;let#[p,vs,e,h1,h2]:=d7.mp hy;let#[z1,z2]:=rV f hx a h2;erw[xD pZ s σ H x y v u Q I rx ry #[p,vs,e,.inr (oG.of h1),oY f hx,z1,by rw[z2];exact w]]
 |loc n=>
  rw[PL.QR] at w;let#[us,g,#[f,a],w]:=PL.cU.mp w;let#[p,vs,e,_,h1,h2]:=R.lst g hy;let#[z1,z2]:=rV f hx a h2;erw[xD pZ s σ H x y v u Q I rx ry #[p,vs,e,.inl (gX.of h1),oY f hx,z1,by rw[z2];exact w]]
 |_=>erw[aZ w]
def Gd(hK:X.K=c.K)(hu:X.A.units+200<d6):iw X (bH .NotIn) (tf c .qo):=by
 x_go;let#[ux,uy,ρ,S,hx,hy,R,w]:=h;cases uy with
 |str b=>
  let#[a,rfl,w]:=PL.pI.mp w;erw[yT pZ s σ H x y v u Q I rx ry #[a,b,bF.mp hx,bF.mp hy,w]]
 |tup us=>
  rw[PL.QQ] at w;let#[#[f,a],w]:=w;let#[p,vs,e,h1,h2]:=d7.mp hy;let#[z1,z2]:=rV f hx a h2;erw[rF pZ s σ H x y v u Q I rx ry #[p,vs,e,.inr (oG.of h1),oY f hx,z1,by rw[z2];exact w]]
 |loc n=>
  have w:PL.getL S[n]? λus=>PL.qE ux us λb=>Q (.bl !b) H:=w
  let#[us,g,#[f,a],w]:=PL.cU.mp w;let#[p,vs,e,_,h1,h2]:=R.lst g hy;let#[z1,z2]:=rV f hx a h2;erw[rF pZ s σ H x y v u Q I rx ry #[p,vs,e,.inl (gX.of h1),oY f hx,z1,by rw[z2];exact w]]
 |_=>erw[aZ w]
abbrev vE:U->Key
 |.int i=>.inl i
 |.str l=>.inr (ξ (tx l))
 |_=>.inr ψ
section
variable{ρ:List Addr}{H:Hp}{S:bM}
def jX(hk:PL.nj u=ζ)(r:Rep c ρ H u v):v=kV (vE u):=by
 cases u<;>first|exact ff hk|skip
 .erw[fh.mp r]
 .erw[aT.mp r]
 .erw[bF.mp r]
def Nf(r:Rep c ρ H a (kV b)):PL.nj a=ζ/\vE a=b:=by
 have nr:∀p,kV b≠V.ref p:=λp=>by rcases b with i|_|x<;>exact λe=>nomatch e
 cases a<;>unfold Rep at r
 .rcases b with i|_|x<;>cases r;exact#[rfl,rfl]
 .rcases b with i|_|x<;>cases r
 .rcases b with i|_|x<;>cases r;exact#[rfl,rfl]
 .rcases b with i|_|x<;>cases r;exact#[rfl,rfl]
 .let#[p,_,e,_]:=r;erw[absurd e (nr p)]
 .let#[p,e,_]:=r;erw[absurd e (nr p)]
 .let#[p,e,_]:=r;erw[absurd e (nr p)]
 .let#[p,e,_]:=r;erw[absurd e (nr p)]
def Eh(ha:PL.nj a=ζ)(hu:PL.nj u=ζ):PL.T7 a u=ζ↔vE a=vE u:=by
 cases a<;>first|exact ff ha| (cases u<;>first|exact ff hu|skip)
 .exact#[λ_=>rfl,λ_=>rfl]
 .exact#[λe=>ff e,λe=>by cases e]
 .exact#[λe=>ff e,λe=>by cases e]
 .exact#[λe=>ff e,λe=>by cases e]
 .exact#[λe=>congrArg wX (eq_of_beq e),λe=>beq_iff_eq.mpr (Ac e)]
 .exact#[λe=>ff e,λe=>by cases e]
 .exact#[λe=>ff e,λe=>by cases e]
 .exact#[λe=>ff e,λe=>by cases e]
 .exact#[λe=>by rw[eq_of_beq e],λe=>beq_iff_eq.mpr (oW (aK (oI e)))]
def rW(hu:PL.nj u=ζ):∀{kvs:List (U×U)}{vs:List (Key×V)},vs.length=kvs.length->aY c ρ H (kvs.map (·.1)) (vs.map λp=>kV p.1)->aY c ρ H (kvs.map (·.2)) (vs.map (·.2)) ->
  (PL.uC u kvs=ψ/\gO vs (vE u)=ψ)\/∃u' v',PL.uC u kvs=ξ u'/\gO vs (vE u)=ξ v'/\Rep c ρ H u' v':=by
 intro kvs;induction kvs with
 |nil=>intro vs hl _ _;cases vs with|nil=>erw[.inl #[rfl,rfl]]|cons _ _=>cases hl
 |cons p ps ih=>
  intro vs hl h1 h2;let#[a,w]:=p;cases vs with|nil=>cases hl|cons p vs=>?_
  let#[b,y]:=p;dsimp[aw] at h1 h2;unfold aY at h1 h2;let#[v1,r1,e1,p1,q1]:=h1;let#[v2,r2,e2,p2,q2]:=h2;cases e1;cases e2;let#[ka,rfl]:=Nf p1;unfold PL.uC;by_cases ek:PL.T7 a u=ζ
  .rw[if_pos ek,jj ((Eh ka hu).mp ek)]
   erw[.inr #[w,y,rfl,rfl,p2]]
  .rw[if_neg ek,jk λz=>ek ((Eh ka hu).mpr z)]
   erw[ih (mT hl) q1 q2]
def cF.dd(R:cF c ρ H S)(e:S[n]?=ξ (.dZ kvs)\/S[n]?=ξ (.qC kvs))(r:Rep c ρ H (.loc n) v):
  ∃a vs,v=.ref a/\ρ[n]?=ξ a/\Rd H a (.dK vs)/\vs.length=kvs.length/\aY c ρ H (kvs.map (·.1)) (vs.map λp=>kV p.1)/\aY c ρ H (kvs.map (·.2)) (vs.map (·.2)):=by
 let#[a,ev,ha]:=d8.mp r;rcases e with e|e
 .let#[vs,h1,h2]:=R.at_ n a _ ha e
  exact#[a,vs,ev,ha,.inl h1,h2]
 .let#[o,vs,h1,h2]:=R.at_ n a _ ha e
  exact#[a,vs,ev,ha,.inr #[o,h1],h2]
end
def Jp(hu:X.A.units+200<d6):iw X (bH .NotIn) (tf c .CM):=by
 x_go;let#[ux,uy,ρ,S,hx,hy,R,w]:=h;let#[n,rfl,w]:=PL.iy.mp (show PL.sE _ _ from w);let#[kvs,e,hk,w]:=PL.i7.mp w;let#[a,vs,rfl,_,g1,g2,g3,g4]:=R.dd e hy;cases (show u=bp a from ry);have g:sQ H a x (gO vs (vE ux)):=.inl #[vs,vE ux,g1,jX hk hx,rfl];rwa[Mq ∅ I g rx λs' I'=>#[.bl _,H,I',rfl,?_]]
 rcases rW hk g2 g3 g4 with⟨l1,l2⟩|⟨u',v',l1,l2,_⟩<;>rw[l1] at w<;>rw[l2]<;>exact w
section
variable{ρ:List Addr}{H:Hp}
def vF:∀{ls:List Nat}{vs:List V},aY c ρ H (ls.map U.loc) vs->∃as:List Addr,vs=as.map V.ref/\as.length=ls.length/\∀(i n:Nat),ls[i]?=ξ n->∃a,as[i]?=ξ a/\ρ[n]?=ξ a
 |[],vs,h=>by
  rw[fD] at h;unfold aY at h;exact#[[],h,rfl,λi n e=>nomatch e]
 |n::ls,vs,h=>by
  rw[aw] at h;unfold aY at h;let#[v,r,rfl,h1,h2]:=h;let#[a,rfl,ha]:=d8.mp h1;let#[as,rfl,l,f]:=vF h2;refine#[a::as,rfl,by rw[aU,l];rfl,λi m e=>?_];cases i with
  |zero=>cases e;exact#[a,rfl,ha]
  |succ i=>erw[f i m e]
abbrev kI(p:List (List Nat×Int)):List (Key×V):=p.map λq=>(.inr (ξ (tx q.1)),.int q.2)
def Ei:∀{p:List (List Nat×Int)}{vs:List (Key×V)},aY c ρ H ((p.map λq=>(U.str q.1,U.int q.2)).map (·.1)) (vs.map λr=>kV r.1)->aY c ρ H ((p.map λq=>(U.str q.1,U.int q.2)).map (·.2)) (vs.map (·.2))->vs=kI p
 |[],vs,h1,_=>by
  rw[fD,fD] at h1;unfold aY at h1;erw[qU.mp h1]
 |q::p,vs,h1,h2=>by
  rw[aw,aw] at h1 h2;unfold aY at h1 h2;let#[v1,r1,e1,g1,k1]:=h1;let#[v2,r2,e2,g2,k2]:=h2;cases vs with
  |nil=>cases e1
  |cons w vs=>
   rw[aw] at e1 e2;injection e1 with a1 a2
   injection e2 with b1 b2
   subst a2 b2;rw[<-a1] at g1;rw[<-b1] at g2;have e:w=(.inr (ξ (tx q.1)),.int q.2):=Prod.ext (Im (b:=.inr (ξ (tx q.1))) (bF.mp g1)) (aT.mp g2);rw[e,Ei k1 k2];rfl
end
def Jq{a:List Nat}:∀{q:List (List Nat×Int)},gO (kI q) (.inr (ξ (tx a)))=(q.lookup a).map V.int
 |[]=>rfl
 | (b,i)::q=>by
  rw[aP]
  by_cases z:a=b
  .subst z
   rw[beq_self_eq_true]
   erw[jj rfl]
  .rw[beq_eq_false_iff_ne.mpr z]
   refine(jk (p:=(.inr (ξ (tx b)),.int i)) λe=>z ?_).trans Jq;exact(oW (aK (oI e))).symm
def Rf{p q:List (List Nat×Int)}:QD (kI p) (kI q)=PL.Vl p q:=by
 unfold QD PL.Vl;rw[show(kI p).length=p.length from ae _,show(kI q).length=q.length from ae _]
 congr 1
 unfold kI;rw[tO]
 congr 1
 funext r
 show decide (gO (kI q) (.inr (ξ (tx r.1)))=ξ (.int r.2))=_
 rw[Jq,cy,decide_eq_true_iff,beq_iff_eq]
 cases q.lookup r.1 with
 |none=>exact#[(λz=>nomatch z),(λz=>nomatch z)]
 |some i=>exact#[λz=>by injection z with z;injection z with z;rw[z],λz=>by injection z with z;rw[z];rfl]
def Rg{ps qs:List (List (List Nat×Int))}:X3 (ps.map kI) (qs.map kI)=PL.X0 ps qs:=by
 unfold X3 PL.X0;rw[ae,ae]
 congr 2
 funext j
 have g:∀l:List (List (List Nat×Int)),(l.map kI).getD j []=kI (l.getD j []):=λl=>by
  rw[az,az,aB]
  cases l[j]?<;>rfl
 rw[g,g,Rf]
def Ng(hK:X.K=c.K)(hu:X.A.units+200<d6):iw X (bH .Eq) (tf c .T5):=by
 x_go;let#[ux,uy,ρ,S,hx,hy,R,n,m,ls,ls',ps,qs,rfl,rfl,e1,e2,r1,r2,w]:=h;let#[a,vs,ea,_,g1,g2]:=R.lst e1 hx;let#[b,ws,eb,_,k1,k2]:=R.lst e2 hy;let#[as,rfl,la,fa]:=vF g2;let#[bs,rfl,lb,fb]:=vF k2;have key:∀{l:List Nat}{as:List Addr}{p:List (List (List Nat×Int))},PL.MI S l p->as.length=l.length->(∀(i n:Nat),l[i]?=ξ n->∃a,as[i]?=ξ a/\ρ[n]?=ξ a)->IU H as (p.map kI):=λ{l as p}r el f=>by
  refine#[by rw[ae,r.1,el],λi a k e ek=>?_];have il:=(ag.mp e).1;have hn:=ab (l:=l) (i:=i) ∅;let#[a',e',ra]:=f i _ hn;rw[e] at e';cases e';rw[aB] at ek;let#[q,hq,rfl]:=ak.mp ek;let#[vs,h1,_,h2,h3]:=R.at_ _ a _ ra (r.2 i _ q hn hq);rw[Ei h2 h3] at h1;exact#[h1,λz mz=>by let#[y,_,rfl]:=bO.mp mz;exact#[y.2,rfl]]
 rwa[QF hu pZ s σ H x y v u Q I rx ry #[a,b,as,bs,_,_,ea,eb,gX.of g1,gX.of k1,key r1 la fa,key r2 lb fb,?_]];rw[Rg];erw[w]
abbrev Ej:PL.OP->CmpOp
 |.eq=>.Eq|.ne=>.NotEq|.lt=>.Lt|.le=>.LtE|.gt=>.Gt|.ge=>.GtE|.isin=>.In|.qo=>.NotIn|.Qu=>.Is|.FO=>.IsNot|.CM=>.NotIn|.T5=>.Eq
def Ek(hK:X.K=c.K)(hP:X.w.params=c.w.params)(hu:X.A.units+200<d6)(o:PL.OP):iw X (bH (Ej o)) (tf c o):=by
 cases o
 .erw[Q5 hK hu]
 .erw[Q6 hK hu]
 .erw[Q7]
 .erw[Q8]
 .erw[Q9]
 .erw[Ra]
 .erw[Rc hK hP]
 .erw[Gd hK hu]
 .erw[Rb]
 .erw[Jo]
 .erw[Jp hu]
 .erw[Ng hK hu]
abbrev Z7(c:Ctx):R2:=λx y H Q=>∃ux uy ρ S,Rep c ρ H ux x/\Rep c ρ H uy y/\cF c ρ H S/\PL.CP ux uy S λu=>∀v,Rep c ρ H u v->Q v H
def C4(r:aY c ρ H us vs)(h:PL.sW us i=ξ u):∃v,Qf vs i=ξ v/\Rep c ρ H u v:=by
 unfold PL.sW at h;unfold Qf;have e:Qe vs.length i=PL.IJ us.length i:=by rw[r.len];rfl
 rw[e]
 cases q:PL.IJ us.length i with
 |none=>rw[q] at h;cases h
 |some j=>
  rw[q] at h;erw[r.get h]
def xT:∀{ns:List Int},aY c ρ H (ns.map .int) (ns.map V.int)
 |[]=>aY.nil
 |n::ns=>aY.cons (aT.mpr rfl) xT
def Rh(hK:X.K=c.K)(hP:X.w.params=c.w.params):T2 X (Z7 c):=by
 intro value slice pZ s σ H x y v u Q I rx ry h hs;let#[ux,uy,ρ,S,hx,hy,R,w]:=h;cases ux<;>first|exact aZ w|skip
 .rename_i l
  let#[i,rfl,w]:=PL.fX.mp w;let#[w1,w2]:=w;let#[k,g,w3]:=PL.iR.mp w2;erw[Qh value slice pZ s σ H x y v u Q I rx ry #[_,i,k,bF.mp hx,aT.mp hy,qt (by rw[dN];exact w1),g,w3 _ (bF.mpr rfl)] hs]
 .rename_i us
  let#[i,rfl,w]:=PL.fX.mp w;let#[w1,w2]:=w;let#[k,g,w3]:=PL.iR.mp w2;let#[p,vs,e,h1,h2]:=d7.mp hx;let#[z,e2,r2]:=C4 h2 g;erw[Qg value slice pZ s σ H x y v u Q I rx ry #[p,vs,i,z,e,aT.mp hy,oG.of h1,e2,w3 _ r2] hs]
 .rename_i n
  let#[i,rfl,w]:=PL.fX.mp w;let#[us,g0,w1]:=PL.cU.mp w;let#[k,g,w3]:=PL.iR.mp w1;let#[p,vs,e,_,h1,h2]:=R.lst g0 hx;let#[z,e2,r2]:=C4 h2 g;erw[DW value slice pZ s σ H x y v u Q I rx ry #[p,vs,i,z,e,aT.mp hy,gX.of h1,e2,w3 _ r2] hs]
 .rename_i ns
  let#[i,rfl,w]:=PL.fX.mp w;let#[w1,w2]:=w;let#[k,g,w3]:=PL.iR.mp w2;let#[p,e,h1]:=rS.mp hx;have g':PL.sW (ns.map U.int) i=ξ (.int k):=by
   unfold PL.sW at g ⊢;rw[ae]
   cases q:PL.IJ ns.length i with
   |none=>rw[q] at g;erw[nn g]
   |some j=>rw[q] at g;simp at g ⊢;erw[g]
  let#[z,e2,r2]:=C4 (c:=c) (ρ:=ρ) (H:=H) xT g';erw[DW value slice pZ s σ H x y v u Q I rx ry #[p,_,i,z,e,aT.mp hy,hK▸h1.sq,e2,w3 _ r2] hs]
 .rename_i kvs
  let#[k,rfl,w]:=PL.pI.mp w;let#[z,g,w3]:=PL.iR.mp w;let#[a,e,h1]:=uH.mp hx;erw[yP value slice pZ s σ H x y v u Q I rx ry #[a,_,_,_,e,bF.mp hy,by rw[hK,hP];exact h1,lookup_tab g,w3 _ (bF.mpr rfl)] hs]
abbrev Z8(c:Ctx):V->Option Int->Option Int->Hp->VK->Prop:=λx lo hi H Q=>∃ux ρ S QU,Rep c ρ H ux x/\cF c ρ H S/\PL.T8 ux lo hi S QU/\QV c ρ H QU Q
def Ri{lo:Option Int}{n:Nat}(h:∀i,lo=ξ i->0<=i):HT.wJ n 0 lo=min (lo.getD 0).toNat n:=by
 cases lo with
 |none=>simp[HT.wJ]
 |some i=>have:=h i rfl;dsimp[HT.wJ,eJ];rw[if_neg ∅]
def Rj(h:∀i,hi=ξ i->0<=i):HT.wJ n n hi=min (hi.getD n).toNat n:=by
 cases hi with
 |none=>simp[HT.wJ]
 |some i=>have:=h i rfl;dsimp[HT.wJ,eJ];rw[if_neg ∅]
def Nh{ρ:List Addr}{H:Hp}{us:List U}{vs:List V}{lo hi:Option Int}(h1:∀i,lo=ξ i->0<=i)(h2:∀i,hi=ξ i->0<=i)(r:aY c ρ H us vs):aY c ρ H (PL.rJ us lo hi) (FD vs lo hi):=by
 unfold PL.rJ FD;rw[Ri h1,Rj h2,<-r.len]
 exact(r.drop _).take _
def Rk(hK:X.K=c.K):XQ X (Z8 c):=by
 intro pZ s σ H x v vl vu lo hi sl Q I rx hs pl pu h;let#[ux,ρ,S,QU,hx,R,#[#[b1,b2],w],q]:=h;cases ux<;>try exact aZ w
 .rename_i l
  let#[w1,w2]:=w;rwa[Vh pZ s σ H x v vl vu lo hi sl Q I rx hs pl pu #[l,min (lo.getD 0).toNat l.length,min (hi.getD l.length).toNat l.length,bF.mp hx,qt w1,?_,?_,q.now R w2 (bF.mpr rfl)]]
  .cases lo with
   |none=>erw[.inl #[rfl,#v[]]]
   |some a=>erw[.inr #[a,rfl,b1 a rfl,rfl]]
  .cases hi with
   |none=>erw[.inl #[rfl,#v[]]]
   |some a=>erw[.inr #[a,rfl,b2 a rfl,rfl]]
 .rename_i n
  let#[us,g0,w1]:=PL.cU.mp w;let#[a,vs,e,_,g1,g2]:=R.lst g0 hx;erw[Mj pZ s σ H x v vl vu lo hi sl Q I rx hs pl pu #[a,vs,e,gX.of g1,λp hp=>q.C3 R (Nh b1 b2 g2) w1 hp]]
end
open PL (U SO bM KU Spec cv)
abbrev rX(c:Ctx)(b:PL.Vi):List V->Hp->VK->Prop:=λxs H Q=>∃us ρ S QU,aY c ρ H us xs/\cF c ρ H S/\PL.qF b us S QU/\QV c ρ H QU Q
abbrev t4(c:Ctx)(m:PL.Qv):V->List V->Hp->VK->Prop:=λx xs H Q=>∃u us ρ S QU,Rep c ρ H u x/\aY c ρ H us xs/\cF c ρ H S/\PL.rK m u us S QU/\QV c ρ H QU Q
section
variable{X:Cx}{c:Ctx}{ρ:List Addr}{H:Hp}{S:bM}
def k9(h:aY c ρ H [u] vs):∃v,vs=[v]/\Rep c ρ H u v:=by
 unfold aY at h;let#[v,r,e,h1,h2]:=h;unfold aY at h2;subst h2;exact#[v,e,h1]
def El(h:aY c ρ H [u,w] vs):∃v z,vs=[v,z]/\Rep c ρ H u v/\Rep c ρ H w z:=by
 unfold aY at h;let#[v,r,e,h1,h2]:=h;let#[z,e2,h3]:=k9 h2;subst e2;exact#[v,z,e,h1,h3]
def Jr(hK:X.K=c.K)(R:cF c ρ H S)(r:Rep c ρ H u v)(h:PL.oh S u=ξ n)(hn:n<=1000000):UU X.K v H n\/(∃a kvs,v=.ref a/\H a=ξ (.dK kvs)/\n=kvs.length)\/∃a kvs,v=.ref a/\H a=ξ (.dP kvs)/\n=kvs.length:=by
 cases u with
 |str l=>rw[bF.mp r];obtain rfl:=aK h;erw[.inl #[qt (by rw[dN];exact hn),(dN l).symm]]
 |tup us=>
  let#[a,vs,e,h1,h2]:=d7.mp r;obtain rfl:=aK h;rw[e]
  erw[.inl (.inr #[vs,oG.of h1,h2.len])]
 |sV ns=>
  let#[a,e,h1]:=rS.mp r;obtain rfl:=aK h;rw[e]
  erw[.inl (.inl #[_,hK▸h1.sq,#v[]])]
 |loc m=>
  unfold PL.oh at h;cases q:S[m]? with
  |none=>dsimp[q] at h;erw[nn h]
  |some o=>
   dsimp[q] at h;cases o with
   |lst us=>
    let#[a,vs,e,_,h1,h2]:=R.lst q r;simp at h;subst h;rw[e]
    erw[.inl (.inl #[vs,gX.of h1,h2.len])]
   |dZ kvs=>
    let#[a,e,ha]:=d8.mp r;let#[vs,h1,h2,_]:=R.at_ m a _ ha q;simp at h;subst h;erw[.inr (.inl #[a,vs,e,h1,h2.symm])]
   |xK kvs=>
    let#[a,e,ha]:=d8.mp r;let#[vs,h1,h2,_]:=R.at_ m a _ ha q;simp at h;subst h;exact .inr (.inr #[a,vs,e,h1,by have:=congrArg cw h2;simpa using this.symm])
   |ins x fs=>erw[nn h]
   |qC x=>erw[nn h]
   |uA x=>erw[nn h]
 |_=>erw[nn h]
def Ni(hK:X.K=c.K):iH X (.builtin "len") (rX c .len):=by
 k_go;let#[ux,ρ,S,QU,hx,R,w,q]:=h
 match ux,w with
 |[u],w=>
  let#[n,e,w1,w2]:=PL.iR.mp (show PL.opt _ _ from w);let#[v,e1,r1]:=k9 hx;rcases Jr hK R r1 e w1 with l|⟨a,kvs,e2,g,e3⟩|⟨a,kvs,e2,g,e3⟩
  .erw[HW pZ s σ H xs us Q I r #[v,n,e1,l,q.now R w2 (aT.mpr rfl)]]
  .erw[FJ pZ s σ H xs us Q I r #[a,kvs,by rw[e1,e2],g,by rw[<-e3];exact q.now R w2 (aT.mpr rfl)]]
  .erw[FZ pZ s σ H xs us Q I r #[a,kvs,by rw[e1,e2],g,by rw[<-e3];exact q.now R w2 (aT.mpr rfl)]]
def Ge(hK:X.K=c.K):iH X (.type "tuple") (rX c .tuple):=by
 k_go;let#[ux,ρ,S,QU,hx,R,w,q]:=h
 match ux,w with
 |[.loc n],w=>
  let#[us',e,w1]:=PL.cU.mp (show PL.getL _ _ from w);let#[v,e1,r1]:=k9 hx;let#[a,vs,e2,_,g1,g2]:=R.lst e r1;erw[wL pZ s σ H xs us Q I r #[a,vs,by rw[e1,e2],.inl #[gX.of g1,λl hl=>q.Q2 R g2 w1 hl]]]
def Js(hK:X.K=c.K):iH X (.type "list") (rX c .list):=by
 k_go;let#[ux,ρ,S,QU,hx,R,w,q]:=h
 match ux,w with
 |[.loc n],w=>
  let#[us',e,w1]:=PL.cU.mp (show PL.getL _ _ from w);let#[v,e1,r1]:=k9 hx;let#[a,vs,e2,_,g1,g2]:=R.lst e r1;erw[rG pZ s σ H xs us Q I r #[a,vs,by rw[e1,e2],.inl (gX.of g1),λl hl=>q.C3 R g2 w1 hl]]
 |[.tup us'],w=>
  let#[v,e1,r1]:=k9 hx;let#[a,vs,e2,g1,g2]:=d7.mp r1;erw[rG pZ s σ H xs us Q I r #[a,vs,by rw[e1,e2],.inr (oG.of g1),λl hl=>q.C3 R g2 w.2 hl]]
def qI:∀{bs:List Bool}{vs:List V},aY c ρ H (bs.map .bl) vs->vs=bs.map V.bl
 |[],_,h=>by unfold aY at h;erw[h]
 |t::ts,_,h=>by
  rw[aw] at h;unfold aY at h;let#[v,r,e,h1,h2]:=h;rw[e,eP.mp h1,qI h2];rfl
def lh:∀{bs:List Int}{vs:List V},aY c ρ H (bs.map .int) vs->vs=bs.map V.int
 |[],_,h=>by unfold aY at h;erw[h]
 |t::ts,_,h=>by
  rw[aw] at h;unfold aY at h;let#[v,r,e,h1,h2]:=h;rw[e,aT.mp h1,lh h2];rfl
def Jt(hc:X.calm=ζ):iH X (.builtin "all") (rX c .all):=by
 k_go;let#[ux,ρ,S,QU,hx,R,w,q]:=h
 match ux,w with
 |[.loc n],w=>
  let#[bs,e,w1]:=w;let#[v,e1,r1]:=k9 hx;let#[a,vs,e2,_,g1,g2]:=R.lst e r1;rw[qI g2] at g1;erw[CQ hc pZ s σ H xs us Q I r #[a,bs,by rw[e1,e2],gX.of g1,q.now R w1 (eP.mpr rfl)]]
def Nj(hc:X.calm=ζ):iH X (.builtin "sum") (rX c .sum):=by
 k_go;let#[ux,ρ,S,QU,hx,R,w,q]:=h
 match ux,w with
 |[.loc n],w=>
  let#[bs,e,w1]:=w;let#[v,e1,r1]:=k9 hx;let#[a,vs,e2,_,g1,g2]:=R.lst e r1;rw[lh g2] at g1;erw[CS hc pZ s σ H xs us Q I r #[a,bs,by rw[e1,e2],gX.of g1,q.now R w1 (aT.mpr rfl)]]
def Nk(hc:X.calm=ζ):iH X (.builtin "max") (rX c .max):=by
 k_go;let#[ux,ρ,S,QU,hx,R,w,q]:=h
 match ux,w with
 |[.loc n],w=>
  let#[i,is,e,w1]:=w;let#[v,e1,r1]:=k9 hx;let#[a,vs,e2,_,g1,g2]:=R.lst e r1;rw[lh g2] at g1;erw[CY hc pZ s σ H xs us Q I r #[a,i,is,by rw[e1,e2],gX.of g1,λm h1 h2=>q.now R (w1 m h1 h2) (aT.mpr rfl)]]
def Ju(hc:X.calm=ζ):iH X (.builtin "any") (rX c .any):=by
 k_go;let#[ux,ρ,S,QU,hx,R,w,q]:=h
 match ux,w with
 |[.loc n],w=>
  let#[bs,e,w1]:=w;let#[v,e1,r1]:=k9 hx;let#[a,vs,e2,_,g1,g2]:=R.lst e r1;rw[qI g2] at g1;erw[CW hc pZ s σ H xs us Q I r #[a,bs,by rw[e1,e2],gX.of g1,q.now R w1 (eP.mpr rfl)]]
def vG:∀{ps:List (List Nat×U)}{vs:List V},aY c ρ H (ps.map λp=>.tup [.str p.1,p.2]) vs->∃kvs:List (Key×V),Paired (Qy H) vs kvs/\kvs.map (·.1)=ps.map (λp=>jc (ξ (tx p.1)))/\aY c ρ H (ps.map (·.2)) (kvs.map (·.2))
 |[],_,h=>by
  unfold aY at h;subst h;exact#[[],.nil,rfl,aY.nil]
 | (k,u)::ps,_,h=>by
  rw[aw] at h;unfold aY at h;let#[v,r,e,h1,h2]:=h;subst e;let#[kvs,g1,g2,g3]:=vG h2;let#[a,vs,e1,ha,hr]:=d7.mp h1;let#[x,y,e2,r1,r2]:=El hr;subst e2;rw[bF.mp r1] at ha;exact#[(jc (ξ (tx k)),y)::kvs,.cons #[a,e1,ha] g1,by rw[aw,aw,g2],aY.cons r2 g3]
def xU:∀{ks:List (List Nat)},aY c ρ H (ks.map .str) (ks.map λk=>kV (jc (ξ (tx k))))
 |[]=>aY.nil
 |_::_=>aY.cons (bF.mpr rfl) xU
def Jv(hA:X.A.handled=ψ):iH X (.type "dict") (rX c .dict):=by
 k_go;let#[ux,ρ,S,QU,hx,R,w,q]:=h
 match ux,w with
 |[.loc n],w=>
  let#[ps,e,nd,w1]:=w;let#[v,e1,r1]:=k9 hx;let#[a,vs,e2,_,g1,g2]:=R.lst e r1;let#[kvs,k1,k2,k3]:=vG g2;rwa[CU hA pZ s σ H xs us Q I r #[a,vs,kvs,by rw[e1,e2],g1,k1,?_,λp hp=>?_]]
  .rw[k2,show ps.map (λp=>(jc (ξ (tx p.1)):Key))=(ps.map (·.1)).map (λk=>jc (ξ (tx k))) by rw[bB];rfl]
   erw[oQ _ (λa b h e=>h (oW (aK (oI e)))) nd]
  .have st:=iM.alloc R hp (.dK kvs)
   have e5:kvs.map (λp=>kV p.1)=(ps.map (·.1)).map λk=>kV (jc (ξ (tx k))):=by
    rw[show kvs.map (λp=>kV p.1)=(kvs.map (·.1)).map kV by rw[bB];rfl,k2,bB,bB];rfl
   have R':cF c (ρ++[p]) (upd H p (.dK kvs)) (S++[.dZ (ps.map λp=>(.str p.1,p.2))]):=R.alloc hp #[kvs,b8,by have:=congrArg cw k2;simpa using this,by
     rw[e5,bB,show(DK∘λp:List Nat×U=>(U.str p.1,p.2))=U.str∘DK from rfl,<-bB];erw[xU],by
     rw[bB];erw[k3.mono R st]]
   rwa[q _ _ _ _ _ w1 st R' (d8.mpr #[p,rfl,?_])];rw[<-R.len,ay (ar _),bZ];rfl
def C5:Cw X "int.bit_length" (t4 c .nh):=by
 intro pZ s σ H x xs v us Q I rx r h;let#[u,ux,ρ,S,QU,hu,hx,R,w,q]:=h
 match u,ux,w with
 |.int i,[],w=>
  let#[w0,w1]:=w;unfold aY at hx;rwa[FY pZ s σ H x xs v us Q I rx r #[i.toNat,by rw[aT.mp hu];congr 1;omega,hx,q.now R w1 (aT.mpr rfl)]]
def Nl:∀{ps:List (List Nat×U)}{vs:List (Key×V)}{k:List Nat},vs.length=(ps.map λp=>(U.str p.1,p.2)).length->aY c ρ H ((ps.map λp=>(U.str p.1,p.2)).map (·.1)) (vs.map λp=>kV p.1)->aY c ρ H ((ps.map λp=>(U.str p.1,p.2)).map (·.2)) (vs.map (·.2)) ->
  (ps.lookup k=ψ/\gO vs (jc (ξ (tx k)))=ψ)\/∃u v,ps.lookup k=ξ u/\gO vs (jc (ξ (tx k)))=ξ v/\Rep c ρ H u v
 := by
 intro ps;induction ps with
 |nil=>intro vs k hl _ _;cases vs with|nil=>erw[.inl #[rfl,rfl]]|cons _ _=>cases hl
 |cons p ps ih=>
  intro vs k hl h1 h2;let#[a,u]:=p;cases vs with|nil=>cases hl|cons p vs=>?_
  let#[b,y]:=p;dsimp[aw] at h1 h2;unfold aY at h1 h2;let#[v1,r1,e1,p1,q1]:=h1;let#[v2,r2,e2,p2,q2]:=h2;cases e1;cases e2;have eb:b=jc (ξ (tx a)):=by
   have:=bF.mp p1;erw[Im (b:=jc (ξ (tx a))) this]
  subst eb;by_cases ek:k=a
  .subst ek
   erw[.inr #[u,y,#v[],jj rfl,p2]]
  .have e3:(k==a)=ϑ:=by simp[ek]
   rw[aP,e3,jk (λz=>ek (oW (aK (oI z))).symm)]
   erw[ih (mT hl) q1 q2]
def join_eq(sep:List Nat):∀ts:List (List Nat),vo sep ts=PL.lR sep ts
 |[]=>rfl
 |[x]=>rfl
 |x::y::r=>by
  unfold vo PL.lR;rw[join_eq sep (y::r)]
def tq:∀{ts:List (List Nat)}{vs:List V},aY c ρ H (ts.map .str) vs->vs=ts.map λt=>V.str (tx t)
 |[],_,h=>by unfold aY at h;erw[h]
 |t::ts,_,h=>by
  rw[aw] at h;unfold aY at h;let#[v,r,e,h1,h2]:=h;rw[e,bF.mp h1,tq h2];rfl
def Jw(hK:X.K=c.K):Cw X "str.join" (t4 c .join):=by
 intro pZ s σ H x xs v us Q I rx r h;let#[u,ux,ρ,S,QU,hu,hx,R,w,q]:=h
 match u,ux,w with
 |.str sep,[.loc n],w=>
  let#[ts,e,w1,w2]:=w;let#[z,e1,r1]:=k9 hx;let#[a,vs,e2,_,g1,g2]:=R.lst e r1;rw[tq g2] at g1;erw[D1 pZ s σ H x xs v us Q I rx r #[sep,ts,a,bF.mp hu,by rw[e1,e2],gX.of g1,w1,by rw[join_eq];exact q.now R w2 (bF.mpr rfl)]]
def C6:Cw X "str.startswith" (t4 c .startswith):=by
 intro pZ s σ H x xs v us Q I rx r h;let#[u,ux,ρ,S,QU,hu,hx,R,w,q]:=h
 match u,ux,w with
 |.str l,[.str k],w=>
  let#[z,e1,r1]:=k9 hx;erw[xN pZ s σ H x xs v us Q I rx r #[l,k,bF.mp hu,by rw[e1,bF.mp r1],q.now R w (eP.mpr rfl)]]
def Gf(hA:X.A.handled=ψ):Cw X "str.index" (t4 c .index):=by
 intro pZ s σ H x xs v us Q I rx r h;let#[u,ux,ρ,S,QU,hu,hx,R,w,q]:=h
 match u,ux,w with
 |.str l,[.str k],w=>
  let#[d,e,w1,w2]:=w;subst e;let#[z,e1,r1]:=k9 hx;erw[AS hA pZ s σ H x xs v us Q I rx r #[l,d,bF.mp hu,by rw[e1,bF.mp r1],w1,q.now R w2 (aT.mpr rfl)]]
def QV.putL(q:QV c ρ H QU Q)(R:cF c ρ H S)(ha:ρ[n]?=ξ a)(hw:H a=ξ (.lst ws))(r:aY c ρ H us vs)(h:QU .cf (S.set n (.lst us))):Q .cf (upd H a (.lst vs)):=by
 have st:=iM.put (H:=H) (ai ha) hw rfl (.lst vs);erw[q _ _ _ _ _ h st (R.put ha hw rfl #[vs,b8,r.mono R st]) (fh.mpr rfl)]
def C7:Cw X "list.append" (t4 c .append):=by
 intro pZ s σ H x xs v us Q I rx r h;let#[u,ux,ρ,S,QU,hu,hx,R,w,q]:=h
 match u,ux,w with
 |.loc n,[k],w=>
  let#[us',e,w1,w2]:=PL.cU.mp (show PL.getL _ _ from w);let#[z,e1,r1]:=k9 hx;let#[a,vs,e2,ha,g1,g2]:=R.lst e hu;rwa[sO pZ s σ H x xs v us Q I rx r #[a,vs,z,e2,e1,g1,?_,q.putL R ha g1 (g2.app (aY.cons r1 aY.nil)) w2]];rw[<-g2.len];erw[au w1 ⋯]
def C8:Cw X "list.extend" (t4 c .extend):=by
 intro pZ s σ H x xs v us Q I rx r h;let#[u,ux,ρ,S,QU,hu,hx,R,w,q]:=h
 match u,ux,w with
 |.loc n,[.loc m],w=>
  let#[us',e,w1]:=PL.cU.mp (show PL.getL _ _ from w);let#[ws,e',w2,w3]:=PL.cU.mp w1;let#[z,e1,r1]:=k9 hx;let#[a,vs,e2,ha,g1,g2]:=R.lst e hu;let#[b,zs,e3,hb,g3,g4]:=R.lst e' r1;erw[xF pZ s σ H x xs v us Q I rx r #[a,b,vs,zs,e2,by rw[e1,e3],g1,g3,qt (by rw[<-g2.len,<-g4.len];exact w2),q.putL R ha g1 (g2.app g4) w3]]
def Em{κ κ':Type}[BEq κ][LawfulBEq κ][DecidableEq κ'](f:κ->κ')(hf:∀a b,f a=f b->a=b)(k:κ):∀{kvs:List (κ×U)}{vs:List (κ'×V)},vs.map (·.1)=kvs.map (λp=>f p.1)->aY c ρ H (kvs.map (·.2)) (vs.map (·.2)) ->
  (kvs.lookup k=ψ/\gO vs (f k)=ψ)\/∃u v,kvs.lookup k=ξ u/\gO vs (f k)=ξ v/\Rep c ρ H u v:=by
 intro kvs;induction kvs with
 |nil=>intro vs hk _;cases vs with|nil=>erw[.inl #[rfl,rfl]]|cons _ _=>cases hk
 |cons p ps ih=>
  intro vs hk h2;let#[a,w]:=p;cases vs with|nil=>cases hk|cons p vs=>?_
  let#[b,y]:=p;dsimp[aw,dy] at h2 hk;unfold aY at h2;let#[v2,r2,e2,p2,q2]:=h2;cases e2;let#[rfl,hk]:=hk;by_cases e:k=a
  .subst e
   erw[.inr #[w,y,#v[],jj rfl,p2]]
  .have e3:(k==a)=ϑ:=by simp[e]
   rw[aP,e3,jk λz=>e (hf _ _ z).symm]
   erw[ih hk q2]
def QV.Rl(q:QV c ρ H QU Q)(R:cF c ρ H S)(ha:ρ[n]?=ξ a)(e:H a=ξ hw)(nf:Q0 hw=ϑ)(r:Rep c ρ H u v)(w:QU u (S.set n o))
  (hr:iM ρ H ρ (upd H a ho)->uo c ρ (upd H a ho) a o):Q v (upd H a ho):=by
 have st:=iM.put (H:=H) (ai ha) e nf ho;erw[q _ _ _ _ _ w st (R.put ha e nf (hr st)) (r.mono R st)]
def Jx(hu:X.A.units+200<d6):Cw X "dict.setdefault" (t4 c .og):=by
 intro pZ s σ H x xs v us Q I rx r h;let#[u,ux,ρ,S,QU,hu',hx,R,w,q]:=h
 match u,ux,w with
 |.loc n,[k,d],w=>
  have w:PL.qp S n k d QU:=w;let#[a,e0,ha]:=d8.mp hu';let#[y,z,e1,r1,r2]:=El hx;rwa[Mw ∅ pZ s σ H x xs v us Q I rx r ?_];unfold PL.qp at w;cases hs:S[n]? with
  |none=>rw[hs] at w;erw[w.elim]
  |some o=>
   rw[hs] at w;cases o with
   |dZ kvs=>
    let#[#[hk,hl],w]:=w;let#[vs,g1,g2,g3,g4]:=R.at_ n a _ ha hs;have hl':vs.length<sizeLine:=%[g2|au hl ⋯]
    rcases rW hk g2 g3 g4 with⟨l1,l2⟩|⟨u',v',l1,l2,l3⟩
    .rw[l1] at w
     refine#[a,y,z,z,_,e0,e1,.inl #[vs,vE k,g1,jX hk r1,hl',.inr #[l2,rfl,rfl]],q.Rl R ha g1 rfl r2 w λst=>#[_,b8,by simp[g2],?_,?_]]
     .rw[aI,aI]
      exact(g3.mono R st).app (aY.cons (show Rep c ρ _ k (kV (vE k)) by rw[<-jX hk r1];erw[r1.mono R st]) aY.nil)
     .rw[aI,aI]
      exact(g4.mono R st).app (aY.cons (r2.mono R st) aY.nil)
    .rw[l1] at w
     exact#[a,y,z,v',H,e0,e1,.inl #[vs,vE k,g1,jX hk r1,hl',.inl #[l2,rfl]],q.now R w l3]
   |uA kvs=>
    let#[ks,rfl,hl,w]:=w;let#[vs,g1,g2,g4]:=R.at_ n a _ ha hs;have hl':vs.length<sizeLine:=by
     have:=congrArg cw g2;simp at this;rw[this];erw[au hl ⋯]
    let#[b,ws,e2,hb,hw]:=d7.mp r1;rw[lh hw,show ks.map V.int=(ks.map wX).map kV by rw[bB];rfl] at hb;rcases Em (λl:List Int=>l.map (wX:Int->Key)) (λa b e=>(sA (λ_ _ e=>Ac e)).mp e) ks g2 g4 with⟨l1,l2⟩|⟨u',v',l1,l2,l3⟩
    .rw[l1] at w
     refine#[a,y,z,z,_,e0,e1,.inr (.inl #[vs,_,b,g1,e2,hb,hl',.inr #[l2,rfl,rfl]]),q.Rl R ha g1 rfl r2 w λst=>#[_,b8,by simp[g2],?_]];rw[aI,aI]
     exact(g4.mono R st).app (aY.cons (r2.mono R st) aY.nil)
    .rw[l1] at w
     exact#[a,y,z,v',H,e0,e1,.inr (.inl #[vs,_,b,g1,e2,hb,hl',.inl #[l2,rfl]]),q.now R w l3]
   |xK kvs=>
    let#[i,ks,rfl,hl,w]:=w;let#[vs,g1,g2,g4]:=R.at_ n a _ ha hs;have hl':vs.length<sizeLine:=by
     have:=congrArg cw g2;simp at this;rw[this];erw[au hl ⋯]
    let#[b,ws,e2,hb,hw]:=d7.mp r1;let#[x1,x2,e3,hi,ht]:=El hw;let#[b2,ws2,e4,hb2,hw2]:=d7.mp ht;rw[lh hw2] at hb2;rw[e3,aT.mp hi,e4] at hb;rcases Em (λp:Int×List Int=>p) (λa b e=>e) (i,ks) g2 g4 with⟨l1,l2⟩|⟨u',v',l1,l2,l3⟩
    .rw[l1] at w
     refine#[a,y,z,z,_,e0,e1,.inr (.inr #[vs,(i,ks),b,b2,g1,e2,hb,hb2,hl',.inr #[l2,rfl,rfl]]),q.Rl R ha g1 rfl r2 w λst=>#[_,b8,by simp[g2],?_]];rw[aI,aI]
     exact(g4.mono R st).app (aY.cons (r2.mono R st) aY.nil)
    .rw[l1] at w
     exact#[a,y,z,v',H,e0,e1,.inr (.inr #[vs,(i,ks),b,b2,g1,e2,hb,hb2,hl',.inl #[l2,rfl]]),q.now R w l3]
   |_=>erw[w.elim]
def Nm(hK:X.K=c.K)(R:cF c ρ H S)(r:Rep c ρ H u v)(h:PL.vw S u=ξ b):P7 X.K v H b:=by
 cases u with
 |cf=>rw[fh.mp r];exact(aK h).symm
 |bl k=>rw[eP.mp r];exact(aK h).symm
 |int i=>rw[aT.mp r];exact(aK h).symm
 |str l=>erw[nn h]
 |tup us=>
  let#[a,vs,e,h1,h2]:=d7.mp r;simp[PL.vw,PL.oh] at h;rw[e]
  rwa[.inr (.inl #[vs,oG.of h1,?_])];have:=h2.len;rw[<-h]
  cases us<;>cases vs<;>simp at this ⊢
 |sV ns=>
  let#[a,e,h1]:=rS.mp r;simp[PL.vw,PL.oh] at h;rw[e]
  rwa[.inl #[_,hK▸h1.sq,?_]];rw[<-h]
  cases ns<;>simp
 |loc m=>
  unfold PL.vw PL.oh at h;cases q:S[m]? with
  |none=>dsimp[q] at h;erw[nn h]
  |some o=>
   dsimp[q] at h;cases o with
   |lst us=>
    let#[a,vs,e,_,h1,h2]:=R.lst q r;simp at h;rw[e]
    rwa[.inl #[vs,gX.of h1,?_]];have:=h2.len;rw[<-h]
    cases us<;>cases vs<;>simp at this ⊢
   |dZ kvs=>
    let#[a,e,ha]:=d8.mp r;let#[vs,h1,h2,_]:=R.at_ m a _ ha q;simp at h;rw[e]
    rwa[.inr (.inr #[vs,h1,?_])];rw[<-h]
    cases kvs<;>cases vs<;>simp at h2 ⊢
   |ins x fs=>erw[nn h]
   |qC x=>erw[nn h]
   |uA x=>erw[nn h]
   |xK x=>erw[nn h]
 |_=>erw[nn h]
end
open PL (U SO bM KU cv)
structure xV where
 cls:String->Option Addr
noncomputable abbrev Cx.cc(X:Cx)(t:xV):Ctx:=#[X.prog,X.w,X.K,X.mg,X.base,t.cls]
abbrev lift(c:Ctx)(sp:PL.Spec):Sp:=λvs H Q _=>∃us ρ S QU,aY c ρ H us vs/\cF c ρ H S/\sp us S QU/\QV c ρ H QU Q
abbrev FnAt(c:Ctx)(k:Nat)(f:Addr)(sp:PL.Spec):Prop:=∃fd ps,jz c.P c.w c.K c.mg c.base CB k f fd ps (lift c sp)/\Binds c.K fd ps []
structure Jy(c:Ctx)(T:Tab):Prop where
 const:∀p∈T.const,∃v u,c.mg (nm p.1)=ξ u/\RelV v u/\∀ρ H,Rep c ρ H p.2 v
 gG:∀x∈T.gG,c.mg (nm x)=ψ
 cls:∀x C,c.cls x=ξ C->xw c.K C/\∀f∈T.yZ,mw c.K C (nm f)
structure gM(c:Ctx)(T:Tab)(Γ:cv)(k:Nat):Prop where
 fns:∀x∈T.fns,∃f,c.mg (nm x)=ξ (.ref f)/\HD c.K (.ref f)=ζ/\FnAt c k f (Γ x)
 Uc:∀p∈T.qH,∃C f,c.cls p.2=ξ C/\Meth c.K C (nm p.1) f/\FnAt c k f (Γ (p.2++"."++p.1))
 cls:∀x∈T.qG,∃C f,c.cls x=ξ C/\c.mg (nm x)=ξ (.ref C)/\Mk c.K C f/\FnAt c k f (Γ (x++".__init__"))
structure Good(t:xV)(T:Tab)(Γ:cv)(k:Nat)(I:Inf)(X:Cx):Prop where
 tab:Jy (X.cc t) T
 Rm:gM (X.cc t) T Γ k
 kind:X.env.scope.kind=.function
 names:X.env.scope.names=I.names
 slots:X.N=I.N
 nd:X.N.Nodup
 calm:I.calm=ζ->X.calm=ζ/\jx (k+1) X.A
 units:X.A.units+200<d6
 xe:X.xe=λ_ _=>False
abbrev Bc(c:Ctx)(ρ:List Addr)(H:Hp)(J:It)(us:List U)(g:bM->Prop):Prop:=
 ∀(i:Nat)(ρ2:List Addr)(H2:Hp)(S2:bM),iM ρ H ρ2 H2->cF c ρ2 H2 S2->g S2 ->
  (∀u,us[i]?=ξ u->J.go i H2/\∀y H3,J.UH i H2 y H3->iM ρ2 H2 ρ2 H3/\cF c ρ2 H3 S2/\Rep c ρ2 H3 u y)/\(us.length<=i->J.stop i H2)
abbrev QI(c:Ctx)(ρ:List Addr)(H:Hp)(RU:List U->(bM->Prop)->bM->Prop)(R:It->Hp->Prop):Prop:=
 ∀us g S' H' ρ' J,RU us g S'->iM ρ H ρ' H'->cF c ρ' H' S'->Bc c ρ' H' J us g->R J H'
abbrev z8(c:Ctx)(Γ:cv)(x:PL.It):TI:=λσ H R=>∃env ρ S RU,kz c ρ H env σ/\cF c ρ H S/\PL.WI Γ x env S RU/\QI c ρ H RU R
abbrev QO(c:Ctx)(ρ:List Addr)(H:Hp)(QU:Option Int->bM->Prop)(Q:Option Int->Hp->Prop):Prop:=∀o S' H' ρ',QU o S'->iM ρ H ρ' H'->cF c ρ' H' S'->Q o H'
abbrev Yg(c:Ctx)(Γ:cv)(x:PL.Ox):TO:=λσ H Q=>∃env ρ S QU,kz c ρ H env σ/\cF c ρ H S/\PL.WO Γ x env S QU/\QO c ρ H QU Q
structure Gg(t:xV)(T:Tab)(Γ:cv)(k n:Nat):Prop where
 fe:∀{I X e x},Good t T Γ k I X->cE T n I e=ξ x->PE X e (tE (X.cc t) Γ x)
 VN:∀{I X es xs},Good t T Γ k I X->Ub T n I es=ξ xs->PA X es (Hn (X.cc t) Γ xs)
 Z9:∀{I X op vs x pos},Good t T Γ k I X->Ye T n I op vs=ξ x->PE X (.BoolOp op vs pos) (tE (X.cc t) Γ x)
 fo:∀{I X oe x},Good t T Γ k I X->cO T n I oe=ξ x->PO X oe (Yg (X.cc t) Γ x)
 fi:∀{I X e x tg},Good t T Γ k I X->cI T n I e=ξ x->PI X tg e (z8 (X.cc t) Γ x)
 fn:∀{I X e x es ek tp},Good t T Γ k I X->cN T n I e=ξ x->PI X (.Tuple es ek tp) e (z8 (X.cc t) Γ x)
 ft:∀{I X e x},Good t T Γ k I X->cT T n I e=ξ x->PT X e (tT (X.cc t) Γ x)
 ftb:∀{I X op vs x pos},Good t T Γ k I X->Yf T n I op vs=ξ x->PW X (.BoolOp op vs pos) (tT (X.cc t) Γ x)
section
variable{t:xV}{T:Tab}{Γ:cv}{k n:Nat}{I:Inf}{X:Cx}
def fA:∀{l:List Str}{i:Nat},eO x l=ξ i->l[i]?=ξ x
 |[],_,h=>nn h
 |y::ys,i,h=>by
  unfold eO at h;by_cases e:y=x
  .rw[if_pos e] at h;injection h with h;subst h;subst e;rfl
  .rw[if_neg e] at h
   cases q:eO x ys with
   |none=>rw[q] at h;cases h
   |some j=>rw[q] at h;simp at h;subst h;simpa using fA q
def Rn(h:QT (names.lookup x)=ζ)(e:sc.names=names):Up sc x:=by
 rw[<-e] at h;unfold Up;cases q:sc.names.lookup x with
 |none=>rw[q] at h;cases h
 |some kd=>rw[q] at h;cases kd<;>first|exact ff h|simp
def Nn(G:Good t T Γ k I X)(h:eO x I.N=ξ i)(hv:QT (I.names.lookup x)=ζ)(h1:(x==("__debug__":Str))=ϑ)(h2:(x==("__classdict__":Str))=ϑ):PE X (.Name x pos) (tE (X.cc t) Γ (.var i)):=by
 refine(Pq (i:=i) (by show X.N[i]?=ξ x;rw[G.slots];erw[fA h]) (Rn hv G.names) h1 h2).imp ?_;rintro σ H Q ⟨env,ρ,S,QU,he,R,w,q⟩;let#[u,e,w]:=PL.AU.mp (show PL.yQ _ _ from w);let#[v,e1,r]:=he.at_ i u e;exact#[v,e1,q.now R w r]
def rY{e:Expr}{u:U}{v:V}(h:PE X e (tC v))(r:∀ρ H,Rep (X.cc t) ρ H u v):PE X e (tE (X.cc t) Γ (.lit u)):=by
 rwa[h.imp ?_];kd_p;erw[q.now R w (r ρ H)]
def mP(h:pick l x=ξ s):s∈l/\nm s=x:=by
 unfold pick at h;exact#[mG h,~~~(LN h)]
def xW{α:Type}{l:List (String×α)}{x:Str}{s:String×α}(h:A8 l x=ξ s):s∈l/\nm s.1=x:=by
 unfold A8 at h;exact#[mG h,~~~(LN h)]
def hX(G:Good t T Γ k I X){x:Str}(h:I.gl x=ζ):Gl X x:=by
 unfold Inf.gl at h;show X.env.scope.names.lookup x=_;rw[G.names]
 simpa using h
def Jz{x:Str}{pos:Pos}{p:String×U}(G:Good t T Γ k I X)(hg:I.gl x=ζ)(h:A8 T.const x=ξ p)(h1:(x==("__debug__":Str))=ϑ):PE X (.Name x pos) (tE (X.cc t) Γ (.lit p.2)):=by
 let#[hm,e]:=xW h;let#[v,u,e1,rv,r]:=G.tab.const p hm;subst e;erw[rY (LS (hX G hg) e1 rv h1) r]
def Ro(G:Good t T Γ k I X)(ho:VD op=ξ o)(ha:PE X a (tE (X.cc t) Γ x))(hb:PE X b (tE (X.cc t) Γ y)):PE X (.BinOp a op b pos) (tE (X.cc t) Γ (.bin o x y)):=by
 have e:op=M4 o:=by
  cases op<;>first|exact nn ho| (cases ho;rfl)
 rw[e]
 refine(UJ (Nc (c:=X.cc t)) ha hb).imp ?_;kd_p;z_go;refine#[env,ρ1,S1,_,he.later R st1,R1,w1,λu2 S2 v2 H2 ρ2 w2 st2 R2 r2=>?_];exact#[u,u2,ρ2,S2,QU,r1.mono R1 st2,r2,R2,w2,q.later (st1.trans st2)]
def JA(ho:T9 op b=ξ o):op=Ej o:=by
 unfold T9 at ho;split at ho
 .rename_i hc
  cases op<;>first|exact ff hc| (cases ho;rfl)
 split at ho
 .rename_i hc
  cases op<;>first|exact ff hc| (cases ho;rfl)
 .cases op<;>first|exact nn ho| (cases ho;rfl)
def Rr(G:Good t T Γ k I X)(ho:T9 op b=ξ o)(hm:behindInMarks op b=ϑ)(ha:PE X a (tE (X.cc t) Γ x))(hb:PE X b (tE (X.cc t) Γ y)):PE X (.Compare a [op] [b] pos) (tE (X.cc t) Γ (.cmp o x y)):=by
 have e:op=Ej o:=JA ho;subst e;refine(L5 (Ek (c:=X.cc t) rfl rfl G.units o) ha hb hm).imp ?_;kd_p;z_go;refine#[env,ρ1,S1,_,he.later R st1,R1,w1,λu2 S2 v2 H2 ρ2 w2 st2 R2 r2=>?_];refine#[u,u2,ρ2,S2,r1.mono R1 st2,r2,R2,PL.xQ (λr h=>?_) w2];exact(q.later (st1.trans st2)).now R2 h (eP.mpr rfl)
def Np(G:Good t T Γ k I X)(ho:T9 op b=ξ o)(hm:behindInMarks op b=ϑ)(ha:PE X a (tE (X.cc t) Γ x))(hb:PE X b (tE (X.cc t) Γ y)):PT X (.Compare a [op] [b] pos) (tT (X.cc t) Γ (.dk (.cmp o x y))):=by
 have e:op=Ej o:=JA ho;subst e;refine(L6 (Ek (c:=X.cc t) rfl rfl G.units o) ha hb hm).imp ?_;kd_p;z_go;refine#[env,ρ1,S1,_,he.later R st1,R1,w1,λu2 S2 v2 H2 ρ2 w2 st2 R2 r2=>?_];refine#[u,u2,ρ2,S2,r1.mono R1 st2,r2,R2,PL.xQ (λr h=>#[r,rfl,?_]) w2];exact(q.later (st1.trans st2)) _ _ _ _ h .refl R2
end
open PL (U SO bM KU cv)
def cK(h:noStar e=ζ):bz (e::es) env=(ϑ,eval e env)::bz es env:=by
 cases e<;>first|rfl|cases h
def vH:∀{es:List Expr},es.all noStar=ζ->bz es env=es.map λe=>(ϑ,eval e env)
 |[],_=>rfl
 |e::es,h=>by
  rw[bG,aj] at h;rw[cK h.1,vH h.2];rfl
def fV(h:gK o=ζ):iE o m env (eval o env)=eval o env:=by
 cases o with
 |Call f args kws pos=>
  cases f with
  |Name id p=>
   cases args with
   |nil=>
    cases kws with
    |nil=>cases h
    |cons k ks=>rfl
   |cons a as=>rfl
  |_=>rfl
 |_=>rfl
def Bd(h:y6 e=ζ):fO e tg l env=pure ϑ:=by
 cases e<;>first|rfl|cases h
def ie(h:es.all noStar=ζ):(fN pos (bz es env)).any (·.1)=ϑ:=by
 rw[vH h]
 unfold fN;simp
def xX(h:es.all noStar=ζ)(hn:es.length<20):Cb (es.length+([]:List oE).length) (fN pos (bz es env)) (backToKw pos (gQ [] env))=ζ:=by
 rw[vH h]
 have e:gQ [] env=[]:=rfl;rw[e]
 unfold Cb fN;simp[backToKw]
 omega
def xY(h0:gK o=ζ)(hst:args.all noStar=ζ)(hn:args.length<20)(hl:(apos.endLine==pos.line)=ζ):
  eval (.Call (.Attribute o m apos) args [] pos) env=(do
   let ov <-eval o env
   standAt apos.atName
   let (f,first) <-holding [ov] (yp ov m (do return (<-importBound o env).getD ζ))
   callWith pos f first (fN pos (bz args env)) (backToKw pos (gQ [] env))):=by
 change (do
  let ov <-iE o m env (eval o env)
  standAt apos.atName
  methodCall o m apos pos env ov (args.length+[].length) (fN pos (bz args env)) (backToKw pos (gQ [] env)))=_
 dsimp[fV h0,methodCall,xX hst hn,calleeOf,methodCallPos,hl]
 rfl
open PL (U SO bM KU cv)
section
variable{X:Cx}{k:Nat}{f C:Addr}{fd:fP}{ps:List Str}{sp:Sp}{x m:Str}{p pos apos:Pos}{e o:Expr}{es:List Expr}{ta:TA}{to:TE}
def aab(F:jz X.prog X.w X.K X.mg X.base CB k f fd ps sp)(hr:jx k X.A)(hg:Gl X x)(hm:X.mg x=ξ (.ref f))(hk:HD X.K (.ref f)=ζ)(hb:Binds X.K fd ps [])(ha:PA X (e::es) ta)
  (hdb:(x==("__debug__":Str))=ϑ) (he:noStar e=ζ) (hes:es.all noStar=ζ):PE X (.Call (.Name x p) (e::es) [] pos) (λσ H Q=>ta σ H λvs H1=>sp vs H1 Q E0):=
 (Mb F hr hg hm hk hb .nil xH ha hdb (cK he) (ie hes)).imp λσ H Q h=>by unfold HZ;dsimp[bT];erw[h]
def aac(he:PE X o to)(c:xw X.K C)(hm:Meth X.K C m f)(F:jz X.prog X.w X.K X.mg X.base CB k f fd ps sp)(hr:jx k X.A)(hb:Binds X.K fd ps [])(ha:PA X (e::es) ta)
  (h0:gK o=ζ) (hn:(e::es).length<20) (hl:(apos.endLine==pos.line)=ζ) (hse:noStar e=ζ) (hes:es.all noStar=ζ):
  PE X (.Call (.Attribute o m apos) (e::es) [] pos) (λσ H Q=>to σ H λx H1=>∃a dx fs,x=.ref a/\H1 a=ξ (.ins C dx fs)/\fs.lookup m=ψ/\ta σ H1 λvs H2=>sp (x::vs) H2 Q E0):=
 (Mc he c hm F hr hb .nil xH ha (cK hse) (ie hes) (xY h0 (by rw[bG,hse,hes];rfl) hn hl)).imp λσ H Q h=>by unfold H0;dsimp[bT];erw[h]
def aad(M:Mk X.K C f)(F:jz X.prog X.w X.K X.mg X.base CB k f fd ps sp)(hr:jx (k+1) X.A)(hg:Gl X x)(hm:X.mg x=ξ (.ref C))(hb:Binds X.K fd ps [])(ha:PA X (e::es) ta)
  (hdb:(x==("__debug__":Str))=ϑ) (he:noStar e=ζ) (hes:es.all noStar=ζ):PE X (.Call (.Name x p) (e::es) [] pos) (λσ H Q=>ta σ H λvs H1=>∀x dx,H1 x=ψ->H1 dx=ψ->dx≠x ->
   sp (.ref x::vs) (upd (upd H1 dx (.own x)) x (.ins C dx [])) (λv H2=>v=.cf/\Q (.ref x) H2) E0):=
 (Md M F hr hg hm hb .nil xH ha hdb (cK he) (ie hes)).imp λσ H Q h=>by unfold H8;dsimp[bT];erw[h]
end
section
variable{t:xV}{T:Tab}{Γ:cv}{k n:Nat}{I:Inf}{X:Cx}
def nG:∀{n:Nat}{I:Inf}{es:List Expr}{xs:PL.z7},Ub T n I es=ξ xs->es.all noStar=ζ
 |0,_,_,_,h=>by rw[OU] at h;cases h
 |n+1,I,[],_,_=>rfl
 |n+1,I,e::es,_,h=>by
  rw[Jd,Ja] at h;by_cases z:noStar e=ζ
  .dsimp[z,bX,ax,if_false,aQ,aA] at h
   let#[x,_,xs,h2,_]:=h;rw[bG,z,nG h2];rfl
  .simp[z] at h
def Rt(IH:Gg t T Γ k n)(G:Good t T Γ k I X):∀{es:List Expr}{xs:PL.z7},Ub T (n+1) I es=ξ xs->PA X es (Hn (X.cc t) Γ xs)
 |[],xs,h=>by
  rw[Jd,Ja] at h;injection h with h;subst h
  rwa[λpos pins' s σ H Q J z=>qy pos pins' s σ H Q J ?_]
  let#[env,ρ,S,QU,he,R,w,q]:=z;erw[q [] S [] H ρ w .refl R aY.nil]
 |e::es,xs,h=>by
  have st:=nG h;rw[bG,aj] at st;rw[Jd,Ja] at h;dsimp[st.1,bX,ax,if_false,aQ,aA] at h;let#[x,h1,ys,h2,h3]:=h;injection h3 with h3;subst h3
  have P:=lO (IH.fe G h1) (IH.VN G h2) (cK st.1);rwa[λpos pins' s σ H Q J z=>P pos pins' s σ H Q J ?_]
  let#[env,ρ,S,QU,he,R,w,q]:=z;z_go;refine#[env,ρ1,S1,_,he.later R st1,R1,w1,λus S2 vs H2 ρ2 w2 st2 R2 r2=>?_];erw[q _ _ _ _ _ w2 (st1.trans st2) R2 (aY.cons (r1.mono R1 st2) r2)]
def Ru(ha:PE X a (tE (X.cc t) Γ x)):PE X (.UnaryOp .USub a pos) (tE (X.cc t) Γ (.neg x)):=by
 refine(UK P4 ha).imp ?_;kd_p;z_go;let#[i,e,w2]:=PL.fX.mp w1;subst e;exact#[i,aT.mp r1,(q.later st1).now R1 w2 (aT.mpr rfl)]
def Rv(ha:PE X a (tE (X.cc t) Γ x)):PE X (.UnaryOp .Not a pos) (tE (X.cc t) Γ (.not x)):=by
 refine(PC ha).imp ?_;kd_p;z_go;let#[i,e,w2]:=PL.uB.mp w1;subst e;exact#[i,eP.mp r1,(q.later st1).now R1 w2 (eP.mpr rfl)]
def Rx(IH:Gg t T Γ k n)(G:Good t T Γ k I X):∀{vs:List Expr}{x:PL.Ex},Ye T (n+1) I op vs=ξ x->PE X (.BoolOp op vs pos) (tE (X.cc t) Γ x)
 |[],x,h=>by rw[Je,Jb] at h;cases h
 |[a],x,h=>by
  rw[Je,Jb] at h;rwa[Pz (IH.fe G h)]
 |a::b::r,y,h=>by
  rw[Je,Jb] at h;dsimp[aQ,aA] at h;let#[x,h1,z,h2,h3]:=h;injection h3 with h3;subst h3
  cases op with
  |And=>
   refine(PB (IH.fe G h1) (IH.Z9 G h2)).imp ?_;kd_p;z_go;let#[i,e,w2]:=PL.uB.mp w1;subst e;refine#[i,eP.mp r1,?_];cases i with
   |true=>exact#[env,ρ1,S1,QU,he.later R st1,R1,w2,q.later st1]
   |false=>exact(q.later st1).now R1 w2 (eP.mpr rfl)
  |Or=>
   refine(Uw (IH.fe G h1) (IH.Z9 G h2)).imp ?_;kd_p;z_go;let#[i,e,w2]:=PL.uB.mp w1;subst e;refine#[i,eP.mp r1,?_];cases i with
   |true=>exact(q.later st1).now R1 w2 (eP.mpr rfl)
   |false=>exact#[env,ρ1,S1,QU,he.later R st1,R1,w2,q.later st1]
def VO(hc:PT X c (tT (X.cc t) Γ x))(ha:PE X a (tE (X.cc t) Γ y))(hb:PE X b (tE (X.cc t) Γ z)):PE X (.IfExp c a b pos) (tE (X.cc t) Γ (.Hk x y z)):=by
 refine(HM hc ha hb).imp ?_;kd_p;refine#[env,ρ,S,_,he,R,w,λb S1 H1 ρ1 w1 st1 R1=>?_];cases b with
 |true=>exact#[env,ρ1,S1,QU,he.later R st1,R1,w1,q.later st1]
 |false=>exact#[env,ρ1,S1,QU,he.later R st1,R1,w1,q.later st1]
def Ry(ha:PA X es (Hn (X.cc t) Γ xs)):PE X (.Tuple es j pos) (tE (X.cc t) Γ (.tup xs)):=by
 refine(Qb ha).imp ?_;kd_p;refine#[env,ρ,S,_,he,R,w,λus S1 vs H1 ρ1 w1 st1 R1 r1=>?_];exact#[by rw[<-r1.len];erw[qt w1.1],λp hp=>(q.later st1).Q2 R1 r1 w1.2 hp]
def Rz(ha:PA X es (Hn (X.cc t) Γ xs)):PE X (.List es pos) (tE (X.cc t) Γ (.lst xs)):=by
 refine(Qc ha).imp ?_;kd_p;refine#[env,ρ,S,_,he,R,w,λus S1 vs H1 ρ1 w1 st1 R1 r1=>?_];exact#[by rw[<-r1.len];erw[qt w1.1],λp hp=>(q.later st1).C3 R1 r1 w1.2 hp]
def qJ:∀{fs:List (String×U)}{vs:List (Str×V)},vs.map (·.1)=(fs.map (·.1)).map nm->aY c ρ H (fs.map (·.2)) (vs.map (·.2))->fs.lookup f=ξ u->(∀a b:String,nm a=nm b->a=b)->∃v,vs.lookup (nm f)=ξ v/\Rep c ρ H u v
 |[],vs,_,_,h,_=>nomatch h
 | (g,w)::fs,[],e,_,_,_=>by simp at e
 | (g,w)::fs,(a,v)::vs,e,r,h,inj=>by
  dsimp[aw,dy] at e;rw[aw,aw] at r;unfold aY at r;let#[v',r',e',h1,h2]:=r;injection e' with e1 e2
  subst e1;subst e2;rw[aP] at h ⊢;by_cases z:f=g
  .subst z
   simp at h;subst h;have:(nm f==a)=ζ:=by rw[e.1];simp
   rw[this]
   exact#[v,rfl,h1]
  .have z1:(f==g)=ϑ:=by simp[z]
   rw[z1] at h;have z2:(nm f==a)=ϑ:=by
    rw[e.1]
    dsimp[beq_eq_false_iff_ne,ne_eq];erw[λq=>z (inj _ _ q)]
   rw[z2]
   erw[qJ e.2 h2 h inj]
def vI(a b:String)(h:nm a=nm b):a=b:=by
 unfold nm at h;rw[Str.ofString_eq_byList] at h;unfold Str.ofStringByList at h;injection h with h
 have h2:=congrArg Af h;dsimp[] at h2;have h3:a.toList=b.toList:=by
  refine(sA (f:=Char.toNat) ?_).mp h2;intro x y e;erw[Char.ext (UInt32.toNat_inj.mp e)]
 erw[String.toList_inj.mp h3]
end
open PL (U SO bM KU cv)
section
variable{t:xV}{T:Tab}{Γ:cv}{k n:Nat}{I:Inf}{X:Cx}
def RA(G:Good t T Γ k I X)(hf:f∈T.yZ)(h0:gK o=ζ)(ho:PE X o (tE (X.cc t) Γ x)):PE X (.Attribute o (nm f) pos) (tE (X.cc t) Γ (.fld x f)):=by
 refine(P9 ho (fV h0)).imp ?_;kd_p;z_go;cases u with
 |loc m=>
  let#[c,fs,e,w2]:=PL.mM.mp (show PL.qD _ _ from w1);let#[u,e2,w3]:=PL.iR.mp w2;let#[a,C,dx,vs,ev,_,hc,ha,hn,hr]:=R1.ins e r1;let#[v',l,r2]:=qJ hn hr e2 vI;let#[cl,na]:=G.tab.cls c C hc;exact#[a,C,dx,vs,v',ev,ha,cl,na f hf,l,(q.later st1).now R1 w3 r2]
 |_=>erw[aZ w1]
def JB(h:kU b=ζ):DV b:=by
 intro o i;cases b<;>first|rfl|cases h
def VP(hs:kU b=ζ)(ha:PE X a (tE (X.cc t) Γ x))(hb:PE X b (tE (X.cc t) Γ y)):PE X (.Subscript a b pos) (tE (X.cc t) Γ (.ix x y)):=by
 refine(U2 (Rh (c:=X.cc t) rfl rfl) ha hb (JB hs)).imp ?_;kd_p;z_go;refine#[env,ρ1,S1,_,he.later R st1,R1,w1,λu2 S2 v2 H2 ρ2 w2 st2 R2 r2=>?_];refine#[u,u2,ρ2,S2,r1.mono R1 st2,r2,R2,PL.I8 (λr h v3 r3=>?_) w2];exact(q.later (st1.trans st2)).now R2 h r3
def VQ(IH:Gg t T Γ k n)(G:Good t T Γ k I X):∀{oe:Option Expr}{x:PL.Ox},cO T (n+1) I oe=ξ x->PO X oe (Yg (X.cc t) Γ x)
 |none,x,h=>by
  rw[VI,Yd] at h;injection h with h;subst h
  rwa[λpins' s σ H Q J z=>Mg pins' s σ H Q J ?_]
  let#[env,ρ,S,QU,he,R,w,q]:=z;erw[q ψ S H ρ w .refl R]
 |some e,x,h=>by
  rw[VI,Yd] at h;let#[y,h1,h2]:=ak.mp h;subst h2;rwa[λpins' s σ H Q J z=>Mh (IH.fe G h1) pins' s σ H Q J ?_]
  let#[env,ρ,S,QU,he,R,w,q]:=z;z_go;let#[i,e,w2]:=PL.fX.mp w1;subst e;exact#[i,aT.mp r1,q _ _ _ _ w2 st1 R1]
def VR{a:Expr}{lo hi:Option Expr}{x:PL.Ex}{y z:PL.Ox}{pos p2:Pos}(ha:PE X a (tE (X.cc t) Γ x))(hl:PO X lo (Yg (X.cc t) Γ y))(hh:PO X hi (Yg (X.cc t) Γ z)):PE X (.Subscript a (.Slice lo hi ψ p2) pos) (tE (X.cc t) Γ (.sl x y z)):=by
 refine(Ie (Rk (c:=X.cc t) rfl) ha hl hh).imp ?_;kd_p;z_go;refine#[env,ρ1,S1,_,he.later R st1,R1,w1,λl S2 H2 ρ2 w2 st2 R2=>?_];have st12:=st1.trans st2;refine#[env,ρ2,S2,_,he.later R st12,R2,w2,λh S3 H3 ρ3 w3 st3 R3=>?_];exact#[u,ρ3,S3,QU,r1.mono R1 (st2.trans st3),R3,w3,q.later (st12.trans st3)]
end
open PL (U SO bM KU cv)
section
variable{t:xV}{T:Tab}{Γ:cv}{k n:Nat}{I:Inf}{X:Cx}
def RB(G:Good t T Γ k I X)(hg:I.gl f=ζ)(hb:QY f=ξ b)(hp:pick T.gG f=ξ s)(hcalm:X.calm=ζ)(hA:X.A.handled=ψ)(h1:noStar e=ζ)(h2:es.all noStar=ζ)
  (ha:PA X (e::es) (Hn (X.cc t) Γ xs)):PE X (.Call (.Name f p) (e::es) [] pos) (tE (X.cc t) Γ (.blt b xs)):=by
 let#[hm,rfl]:=mP hp;have hn:=G.tab.gG s hm;have rd:∀(σ:St)(H:Hp)(Q:VK),tE (X.cc t) Γ (.blt b xs) σ H Q->YQ (rX (X.cc t) b) (Hn (X.cc t) Γ xs) σ H Q:=by
  kd_p;exact#[env,ρ,S,_,he,R,w,λus S1 vs H1 ρ1 w1 st1 R1 r1=>#[us,ρ1,S1,QU,r1,R1,w1,q.later st1]]
 have sx:bz (e::es) X.env=(ϑ,eval e X.env)::bz es X.env:=cK h1;have sy:(fN pos (bz es X.env)).any (·.1)=ϑ:=ie h2;unfold QY at hb;by_cases c1:(nm s==("len":Str))=ζ
 .rw[if_pos c1] at hb;injection hb with hb;subst hb
  have ef:nm s=("len":Str):=by simpa using c1
  rw[ef] at hg hn ⊢;exact(mJ (Ni rfl) (hX G hg) hn LM ha ⋯ ⋯ sx sy).imp rd
 rw[if_neg c1] at hb;by_cases c2:(nm s==("tuple":Str))=ζ
 .rw[if_pos c2] at hb;injection hb with hb;subst hb
  have ef:nm s=("tuple":Str):=by simpa using c2
  rw[ef] at hg hn ⊢;exact(pE (Ge rfl) (hX G hg) hn (by decide +kernel) ha ⋯ ⋯ sx sy).imp rd
 rw[if_neg c2] at hb;by_cases c4:(nm s==("list":Str))=ζ
 .rw[if_pos c4] at hb;injection hb with hb;subst hb
  have ef:nm s=("list":Str):=by simpa using c4
  rw[ef] at hg hn ⊢;exact(pE (Js rfl) (hX G hg) hn (by decide +kernel) ha ⋯ ⋯ sx sy).imp rd
 rw[if_neg c4] at hb;by_cases c7:(nm s==("all":Str))=ζ
 .rw[if_pos c7] at hb;injection hb with hb;subst hb
  have ef:nm s=("all":Str):=by simpa using c7
  rw[ef] at hg hn ⊢;exact(mJ (Jt hcalm) (hX G hg) hn (by decide +kernel) ha ⋯ ⋯ sx sy).imp rd
 rw[if_neg c7] at hb;by_cases c8:(nm s==("sum":Str))=ζ
 .rw[if_pos c8] at hb;injection hb with hb;subst hb
  have ef:nm s=("sum":Str):=by simpa using c8
  rw[ef] at hg hn ⊢;exact(mJ (Nj hcalm) (hX G hg) hn boot_sum ha ⋯ ⋯ sx sy).imp rd
 rw[if_neg c8] at hb;by_cases c9:(nm s==("any":Str))=ζ
 .rw[if_pos c9] at hb;injection hb with hb;subst hb
  have ef:nm s=("any":Str):=by simpa using c9
  rw[ef] at hg hn ⊢;exact(mJ (Ju hcalm) (hX G hg) hn (by decide +kernel) ha ⋯ ⋯ sx sy).imp rd
 rw[if_neg c9] at hb;by_cases c10:(nm s==("dict":Str))=ζ
 .rw[if_pos c10] at hb;injection hb with hb;subst hb
  have ef:nm s=("dict":Str):=by simpa using c10
  rw[ef] at hg hn ⊢;exact(pE (Jv hA) (hX G hg) hn (by decide +kernel) ha ⋯ ⋯ sx sy).imp rd
 rw[if_neg c10] at hb;by_cases c11:(nm s==("max":Str))=ζ
 .rw[if_pos c11] at hb;injection hb with hb;subst hb
  have ef:nm s=("max":Str):=by simpa using c11
  rw[ef] at hg hn ⊢;exact(mJ (Nk hcalm) (hX G hg) hn (by decide +kernel) ha ⋯ ⋯ sx sy).imp rd
 rw[if_neg c11] at hb;cases hb
def Gh(G:Good t T Γ k I X)(hg:I.gl ("min":Str)=ζ)(hg2:I.gl ("len":Str)=ζ)(hb:"min"∈T.gG)(hb2:"len"∈T.gG)(hc:X.calm=ζ)(h1:noStar a=ζ)(ha:PE X a (tE (X.cc t) Γ x)):
  PE X (.Call (.Name ("min":Str) p) [a] [#[ξ "key",.Name ("len":Str) pl,kp]] pos) (tE (X.cc t) Γ (.blt .vv (.cons x .nil))):=by
 refine(FU hc (hX G hg) (G.tab.gG "min" hb) (hX G hg2) (G.tab.gG "len" hb2) ha (cK h1)).imp ?_;kd_p;z_go;have w1:PL.qF .vv [u] S1 QU:=w1
 match u,w1 with
 |.loc n,w1=>
  let#[t0,ts,e,hz,w2]:=w1;let#[a,vs,e2,_,g1,g2]:=R1.lst e r1;rw[tq g2] at g1;exact#[a,t0,ts,e2,gX.of g1,hz,(q.later st1).now R1 w2 (bF.mpr rfl)]
end
open PL (U SO bM KU cv)
section
variable{t:xV}{T:Tab}{Γ:cv}{k n:Nat}{I:Inf}{X:Cx}
abbrev VS:PL.Qv->String
 |.join=>"str"|.index=>"str"|.startswith=>"str"|.append=>"list"|.extend=>"list"|.nh=>"int"|_=>"dict"
def JC(hb:b=.join\/b=.index\/b=.append\/b=.extend\/b=.startswith\/b=.og)(R:cF c ρ H S)(r:Rep c ρ H u v)(w:PL.uk b u S):XS c.K (VS b) v H:=by
 rcases hb with rfl|rfl|rfl|rfl|rfl|rfl
 .cases u<;>first|exact aZ w| (rw[bF.mp r];rfl)
 .cases u<;>first|exact aZ w| (rw[bF.mp r];rfl)
 .cases u<;>first|exact aZ w|skip
  let#[us,e,_]:=PL.cU.mp (show PL.getL _ _ from w);let#[a,vs,ev,_,h1,_]:=R.lst e r;rw[ev]
  erw[.inl #[rfl,vs,gX.of h1]]
 .cases u<;>first|exact aZ w|skip
  let#[us,e,_]:=PL.cU.mp (show PL.getL _ _ from w);let#[a,vs,ev,_,h1,_]:=R.lst e r;rw[ev]
  erw[.inl #[rfl,vs,gX.of h1]]
 .cases u<;>first|exact aZ w| (rw[bF.mp r];rfl)
 .cases u<;>first|exact aZ w|skip
  rename_i n;let#[a,ev,ha]:=d8.mp r;have w:(match S[n]? with|some (.dZ _)=>True|some (.uA _)=>True|some (.xK _)=>True|_=>False):=w;rw[ev]
  rwa[.inr (.inr (.inl #[rfl,?_]))];cases hs:S[n]? with
  |none=>rw[hs] at w;erw[w.elim]
  |some o=>
   rw[hs] at w;cases o with
   |dZ kvs=>let#[vs,h1,_]:=R.at_ n a _ ha hs;erw[.inl #[vs,h1]]
   |uA kvs=>let#[vs,h1,_]:=R.at_ n a _ ha hs;erw[.inr (.inl #[vs,h1])]
   |xK kvs=>let#[vs,h1,_]:=R.at_ n a _ ha hs;erw[.inr (.inr #[vs,h1])]
   |_=>erw[w.elim]
def oZ(h:es.all noStar=ζ)(hn:es.length<20):((fN cpos (bz es env)).all (λx=>!x.1)&&(backToKw cpos (gQ [] env)).all (λx=>x.1.isSome)
   && decide (es.length+([]:List oE).length+(if ([]:List oE).isEmpty then 0 else 1)<30))=ζ:=by
 have:=xX (pos:=cpos) (env:=env) h hn;unfold Cb at this;erw[this]
def RC(G:Good t T Γ k I X)(hb:QZ m=ξ b)(hA:X.A.handled=ψ)(h0:gK o=ζ)(hl:(apos.endLine==cpos.line)=ζ)(hn:(e::es).length<20)(h1:noStar e=ζ)(h2:es.all noStar=ζ)
  (ho:PE X o (tE (X.cc t) Γ x)) (ha:PA X (e::es) (Hn (X.cc t) Γ xs)):PE X (.Call (.Attribute o m apos) (e::es) [] cpos) (tE (X.cc t) Γ (.j6 b x xs)):=by
 have hst:(e::es).all noStar=ζ:=by rw[bG,h1,h2];rfl
 have rd:∀(hb':b=.join\/b=.index\/b=.append\/b=.extend\/b=.startswith\/b=.og)(σ:St)(H:Hp)(Q:VK),tE (X.cc t) Γ (.j6 b x xs) σ H Q->tBM X.K (VS b) (t4 (X.cc t) b) (tE (X.cc t) Γ x) (Hn (X.cc t) Γ xs) σ H Q:=by
  rintro hb' σ H Q ⟨env,ρ,S,QU,he,R,w,q⟩;refine#[env,ρ,S,_,he,R,w,λu S1 v H1 ρ1 w1 st1 R1 r1=>#[JC (c:=X.cc t) hb' R1 r1 w1.1,?_]];exact#[env,ρ1,S1,_,he.later R st1,R1,w1.2,λus S2 vs H2 ρ2 w2 st2 R2 r2=>#[u,us,ρ2,S2,QU,r1.mono R1 st2,r2,R2,w2,q.later (st1.trans st2)]]
 unfold QZ at hb;by_cases c1:(m==("join":Str))=ζ
 .rw[if_pos c1] at hb;injection hb with hb;subst hb
  have ef:m=("join":Str):=by simpa using c1
  subst ef;exact(xE mY PySem.F.slot_str_join PySem.F.type_str_join (Jw rfl) ho ha (fV h0) (oZ hst hn) hl (cK h1) (ie h2)).imp (rd (#v[]))
 rw[if_neg c1] at hb;by_cases c2:(m==("index":Str))=ζ
 .rw[if_pos c2] at hb;injection hb with hb;subst hb
  have ef:m=("index":Str):=by simpa using c2
  subst ef;exact(xE mY PySem.F.slot_str_index PySem.F.type_str_index (Gf hA) ho ha (fV h0) (oZ hst hn) hl (cK h1) (ie h2)).imp (rd (#v[]))
 rw[if_neg c2] at hb;by_cases c3:(m==("append":Str))=ζ
 .rw[if_pos c3] at hb;injection hb with hb;subst hb
  have ef:m=("append":Str):=by simpa using c3
  subst ef;exact(xE xo PySem.F.slot_list_append PySem.F.type_list_append C7 ho ha (fV h0) (oZ hst hn) hl (cK h1) (ie h2)).imp (rd (#v[]))
 rw[if_neg c3] at hb;by_cases c4:(m==("extend":Str))=ζ
 .rw[if_pos c4] at hb;injection hb with hb;subst hb
  have ef:m=("extend":Str):=by simpa using c4
  subst ef;exact(xE xo PySem.F.slot_list_extend PySem.F.type_list_extend C8 ho ha (fV h0) (oZ hst hn) hl (cK h1) (ie h2)).imp (rd (#v[]))
 rw[if_neg c4] at hb;by_cases c5:(m==("startswith":Str))=ζ
 .rw[if_pos c5] at hb;injection hb with hb;subst hb
  have ef:m=("startswith":Str):=by simpa using c5
  subst ef;exact(xE mY PySem.F.slot_str_startswith PySem.F.type_str_startswith C6 ho ha (fV h0) (oZ hst hn) hl (cK h1) (ie h2)).imp (rd (#v[]))
 rw[if_neg c5] at hb;by_cases c6:(m==("setdefault":Str))=ζ
 .rw[if_pos c6] at hb;injection hb with hb;subst hb
  have ef:m=("setdefault":Str):=by simpa using c6
  subst ef;exact(xE i6 uf PySem.F.type_dict_setdefault (Jx G.units) ho ha (fV h0) (oZ hst hn) hl (cK h1) (ie h2)).imp (rd (#v[]))
 rw[if_neg c6] at hb;cases hb
def Nq(G:Good t T Γ k I X)(h0:gK o=ζ)(hl:(apos.endLine==cpos.line)=ζ)(ho:PE X o (tE (X.cc t) Γ x)):
  PE X (.Call (.Attribute o ("bit_length":Str) apos) [] [] cpos) (tE (X.cc t) Γ (.j6 .nh x .nil)):=by
 refine(Ii PySem.F.plainAttrs_int PySem.F.slot_int_bit_length PySem.F.type_int_bit_length (C5 (c:=X.cc t)) ho (fV h0) hl).imp ?_;kd_p;refine#[env,ρ,S,_,he,R,w,λu S1 v H1 ρ1 w1 st1 R1 r1=>#[?_,u,[],ρ1,S1,QU,r1,aY.nil,R1,w1.2,q.later st1]];cases u<;>first|exact aZ w1.1| (rw[aT.mp r1];rfl)
def RD(G:Good t T Γ k I X)(h0:gK o=ζ)(hl:(apos.endLine==cpos.line)=ζ)(h1:noStar a=ζ)(h2:noStar d=ζ)(ho:PE X o (tE (X.cc t) Γ x))
  (ha:PE X a (tE (X.cc t) Γ y)) (hd:PE X d (tE (X.cc t) Γ z)):PE X (.Call (.Attribute o ("get":Str) apos) [a,d] [] cpos) (tE (X.cc t) Γ (.j6 .get x (.cons y (.cons z .nil)))):=by
 have hst:[a,d].all noStar=ζ:=by rw[bG,bG,h1,h2];rfl
 refine(Iv (by have:=G.units;show X.A.units+1<d6;omega) ho ha hd #[fV h0,oZ hst (show 2<20 by decide),hl,by
  rw[cK (e:=a) (es:=[d]) h1,cK (e:=d) (es:=[]) h2];rfl]).imp ?_
 kd_p;z_go;let#[w1,w2]:=w1;cases u<;>first|exact aZ w1|skip
 rename_i n;let#[kvs,e,_]:=PL.i7.mp (show PL.jm _ _ from w1);let#[a1,vs,e1,ha1,g1,g2,g3,g4]:=R1.dd e r1;refine#[a1,e1,.inl #[vs,g1],env,ρ1,S1,_,he.later R st1,R1,w2,λu2 S2 v2 H2 ρ2 w3 st2 R2 r2=>?_];refine#[env,ρ2,S2,_,(he.later R st1).later R1 st2,R2,w3,λu3 S3 v3 H3 ρ3 w4 st3 R3 r3=>?_];have r2':=r2.mono R2 st3;cases u2<;>first|exact aZ w4|skip
 rename_i k;let#[kvs',e',ps,ep,w5]:=PL.AV.mp (show PL.getD _ _ from w4);let#[vs',f1,f2,f3,f4]:=R3.at_ n a1 _ (st3.get (st2.get ha1)) e';subst ep;have g:=sQ.k (k:=jc (ξ (tx k))) f1;rw[bF.mp r2']
 rcases Nl (k:=k) f2 f3 f4 with⟨l1,l2⟩|⟨u',v',l1,l2,l3⟩
 .rw[l2] at g
  rw[l1] at w5;exact#[ψ,g,(q.later ((st1.trans st2).trans st3)).now R3 w5 r3]
 .rw[l2] at g
  rw[l1] at w5;exact#[ξ v',g,(q.later ((st1.trans st2).trans st3)).now R3 w5 l3]
def Nr(G:Good t T Γ k I X)(h0:gK o=ζ)(hl:(apos.endLine==cpos.line)=ζ)(h1:noStar a=ζ)(ho:PE X o (tE (X.cc t) Γ x))
  (ha:PE X a (tE (X.cc t) Γ y)):PE X (.Call (.Attribute o ("get":Str) apos) [a] [] cpos) (tE (X.cc t) Γ (.j6 .get x (.cons y .nil))):=by
 have hst:[a].all noStar=ζ:=by rw[bG,h1];rfl
 refine(Iu (by have:=G.units;show X.A.units+1<d6;omega) ho ha #[fV h0,oZ hst (show 1<20 by decide),hl,by
  rw[cK (e:=a) (es:=[]) h1];rfl]).imp ?_
 kd_p;z_go;let#[w1,w2]:=w1;cases u<;>first|exact aZ w1|skip
 rename_i n;let#[kvs,e,_]:=PL.i7.mp (show PL.jm _ _ from w1);let#[a1,vs,e1,ha1,g1,g2,g3,g4]:=R1.dd e r1;refine#[a1,e1,.inl #[vs,g1],env,ρ1,S1,_,he.later R st1,R1,w2,λu2 S2 v2 H2 ρ2 w3 st2 R2 r2=>?_];have r1':=r1.mono R1 st2;have w3:PL.rK .get (.loc n) [u2] S2 QU:=w3;have w3:PL.jm S2[n]? λkvs=>PL.nj u2=ζ/\QU ((PL.uC u2 kvs).getD .cf) S2:=by cases u2<;>exact w3
 let#[kvs',e',hk,w5]:=PL.i7.mp w3;let#[a2,vs',e2,_,f1,f2,f3,f4]:=R2.dd e' r1';rw[e1] at e2;cases e2;have g:sQ H2 a1 v2 (gO vs' (vE u2)):=.inl #[vs',vE u2,f1,jX hk r2,rfl];rcases rW hk f2 f3 f4 with⟨l1,l2⟩|⟨u',v',l1,l2,l3⟩
 .rw[l2] at g
  rw[l1] at w5;exact#[ψ,g,(q.later (st1.trans st2)).now R2 w5 (fh.mpr rfl)]
 .rw[l2] at g
  rw[l1] at w5;exact#[ξ v',g,(q.later (st1.trans st2)).now R2 w5 l3]
def RE(G:Good t T Γ k I X)(hs:kU b=ζ)(ha:PE X a (tE (X.cc t) Γ x))(hb:PE X b (tE (X.cc t) Γ y)):PE X (.Subscript a b pos) (tE (X.cc t) Γ (.Hl x y)):=by
 refine(Ms (by have:=G.units;show X.A.units+1<d6;omega) ha hb (by cases b<;>first|exact ff hs| (intro _ _;rfl))).imp ?_;rintro σ H Q ⟨env,ρ,S,QU,he,R,w,q⟩;refine#[env,ρ,S,_,he,R,w,λu S1 v H1 ρ1 w1 st1 R1 r1=>?_];refine#[env,ρ1,S1,_,he.later R st1,R1,w1,λu2 S2 v2 H2 ρ2 w2 st2 R2 r2=>?_];obtain⟨n,rfl,w2⟩:=PL.iy.mp (show PL.sE _ _ from w2);obtain⟨kvs,e,hk,w3⟩:=PL.i7.mp w2;obtain⟨u',l1,w4⟩:=PL.iR.mp w3;obtain⟨a1,vs,e1,ha1,g1,g2,g3,g4⟩:=R2.dd e (r1.mono R1 st2);rcases rW hk g2 g3 g4 with⟨z1,_⟩|⟨u3,v',z1,l2,l3⟩
 .rw[l1] at z1;cases z1
 .rw[l1] at z1;cases z1
  exact#[a1,v',e1,.inl #[vs,vE u2,g1,jX hk r2,l2.symm],(q.later (st1.trans st2)).now R2 w4 l3]
def Nt:PE X (.Dict [] [] pos) (tE (X.cc t) Γ (.dZ .nil .nil)):=by
 refine(MN).imp ?_;kd_p;have w:QU (.loc S.length) (S++[.dZ []])\/QU (.loc S.length) (S++[.uA []])\/QU (.loc S.length) (S++[.xK []]):=w.2;have al:∀{ho:HO}{o:SO},QU (.loc S.length) (S++[o])->(∀p,uo (X.cc t) (ρ++[p]) (upd H p ho) p o)->∀p,H p=ψ->Q (.ref p) (upd H p ho):=λw z p hp=>by
  rwa[q _ _ _ _ _ w (iM.alloc R hp _) (R.alloc hp (z p)) (d8.mpr #[p,rfl,?_])];rw[<-R.len,ay (ar _),bZ];rfl
 rcases w with w|w|w
 .exact#[.dK [],.inl rfl,al w λp=>#[[],b8,rfl,aY.nil,aY.nil]]
 .exact#[.dT [],.inr (.inl rfl),al w λp=>#[[],b8,rfl,aY.nil]]
 .exact#[.dP [],.inr (.inr rfl),al w λp=>#[[],b8,rfl,aY.nil]]
def Nu(G:Good t T Γ k I X)(hg:I.gl ("list":Str)=ζ)(hb:"list"∈T.gG)(hc:X.calm=ζ)(h0:gK o=ζ)(hl:(ap.endLine==cp.line)=ζ)(ho:PE X o (tE (X.cc t) Γ x)):
  PE X (.Call (.Name ("list":Str) p) [.Call (.Attribute o ("values":Str) ap) [] [] cp] [] pos) (tE (X.cc t) Γ (.j6 .vals x .nil)):=by
 refine(pE (CZ hc) (hX G hg) (G.tab.gG "list" hb) (by decide +kernel)
  (lO (Ii i6 wG PySem.F.type_dict_values F5 ho (fV h0) hl) qy (cK rfl)) ⋯ ⋯ (cK rfl) rfl).imp ?_
 kd_p;z_go;let#[w1,w2]:=w1;cases u<;>first|exact aZ w1|skip
 rename_i n;let#[a,ev,ha]:=d8.mp r1;have w2:PL.rK .vals (.loc n) [] S1 QU:=w2;have w2:(match S1[n]? with|some (.uA kvs)=>QU (.loc S1.length) (S1++[.lst (kvs.map (·.2))])|_=>False):=w2;cases hs:S1[n]? with
 |none=>rw[hs] at w2;erw[w2.elim]
 |some o=>
  rw[hs] at w2;cases o with
  |uA kvs=>
   let#[vs,g1,g2,g3]:=R1.at_ n a _ ha hs;refine#[%[ev|.inr (.inr (.inl #[rfl,.inr (.inl #[vs,g1])]))],a,vs,ev,rfl,g1,λp hp=>?_];have st2:=iM.lay R1 hp (Vo p a);exact#[p,a,vs,rfl,b8,%[cq (dD g1 hp)|g1],λl hl=>(q.later (st1.trans st2)).C3 (R1.lay hp _) (g3.mono R1 st2) w2 hl]
  |_=>erw[w2.elim]
def Nv(G:Good t T Γ k I X)(hg:I.gl (nm q)=ζ)(hc:I.calm=ζ)(hq:q∈T.fns)(hd:(nm q==("__debug__":Str))=ϑ)(h1:noStar e=ζ)(h2:es.all noStar=ζ)
  (ha:PA X (e::es) (Hn (X.cc t) Γ xs)):PE X (.Call (.Name (nm q) p) (e::es) [] pos) (tE (X.cc t) Γ (.call q xs)):=by
 let#[f,hm,hk,fd,ps,F,B]:=G.Rm.fns q hq;refine(aab (k:=k) F ((G.calm hc).2.mono (iK k)) (hX G hg) hm hk B ha hd h1 h2).imp ?_;rintro σ H Q ⟨env,ρ,S,QU,he,R,w,qq⟩;refine#[env,ρ,S,_,he,R,w,λus S1 vs H1 ρ1 w1 st1 R1 r1=>?_];exact#[us,ρ1,S1,QU,r1,R1,w1,qq.later st1]
def JD(G:Good t T Γ k I X)(hg:I.gl (nm q)=ζ)(hc:I.calm=ζ)(hq:q∈T.fns)(hd:(nm q==("__debug__":Str))=ϑ):PE X (.Call (.Name (nm q) p) [] [] pos) (tE (X.cc t) Γ (.call q .nil)):=by
 let#[f,hm,hk,fd,ps,F,B]:=G.Rm.fns q hq;refine(Ia (k:=k) F ((G.calm hc).2.mono (iK k)) (hX G hg) hm hk B .nil xH hd).imp ?_;rintro σ H Q ⟨env,ρ,S,QU,he,R,w,qq⟩;exact#[[],ρ,S,QU,aY.nil,R,w,qq]
def Be(R:cF c ρ H S)(hc:c.cls cn=ξ C)(hx:H x=ψ)(hd:H dx=ψ)(ne:dx≠x):
  iM ρ H (ρ++[x]) (upd (upd H dx (.own x)) x (.ins C dx []))/\cF c (ρ++[x]) (upd (upd H dx (.own x)) x (.ins C dx [])) (S++[.ins cn []])/\Rep c (ρ++[x]) (upd (upd H dx (.own x)) x (.ins C dx [])) (.loc S.length) (.ref x):=by
 have R1:=R.lay hd (.own x);have s1:=iM.lay R hd (.own x);have hx1:upd H dx (.own x) x=ψ:=%[cq (cM ne)|hx]
 have s2:=iM.alloc R1 hx1 (.ins C dx []);refine#[s1.trans s2,R1.alloc hx1 #[C,dx,[],hc,b8,rfl,aY.nil],d8.mpr #[x,rfl,?_]];rw[<-R.len,ay (ar _),bZ];rfl
def VT(G:Good t T Γ k I X)(hg:I.gl (nm q)=ζ)(hc:I.calm=ζ)(hq:q∈T.qG)(hd:(nm q==("__debug__":Str))=ϑ)(h1:noStar e=ζ)(h2:es.all noStar=ζ)
  (ha:PA X (e::es) (Hn (X.cc t) Γ xs)):PE X (.Call (.Name (nm q) p) (e::es) [] pos) (tE (X.cc t) Γ (.mk q (q++".__init__") xs)):=by
 let#[C,f,hC,hm,M,fd,ps,F,B]:=G.Rm.cls q hq;refine(aad (k:=k) M F (G.calm hc).2 (hX G hg) hm B ha hd h1 h2).imp ?_;rintro σ H Q ⟨env,ρ,S,QU,he,R,w,qq⟩;refine#[env,ρ,S,_,he,R,w,λus S1 vs H1 ρ1 w1 st1 R1 r1=>?_];intro x dx hx hdx ne;let#[s2,R2,r2]:=Be R1 hC hx hdx ne;refine#[_,ρ1++[x],_,_,aY.cons r2 (r1.mono R1 s2),R2,w1,λu S3 v H3 ρ3 w3 st3 R3 r3=>?_];let#[rfl,w4]:=w3;exact#[fh.mp r3,qq _ _ _ _ _ w4 ((st1.trans s2).trans st3) R3 (r2.mono R2 st3)]
def RF(G:Good t T Γ k I X)(hg:I.gl (nm q)=ζ)(hc:I.calm=ζ)(hq:q∈T.qG)(hd:(nm q==("__debug__":Str))=ϑ):PE X (.Call (.Name (nm q) p) [] [] pos) (tE (X.cc t) Γ (.mk q (q++".__init__") .nil)):=by
 let#[C,f,hC,hm,M,fd,ps,F,B]:=G.Rm.cls q hq;refine(Ic (k:=k) M F (G.calm hc).2 (hX G hg) hm B .nil xH hd).imp ?_;rintro σ H Q ⟨env,ρ,S,QU,he,R,w,qq⟩;intro x dx hx hdx ne;let#[s2,R2,r2]:=Be R hC hx hdx ne;refine#[_,ρ++[x],_,_,aY.cons r2 aY.nil,R2,w,λu S3 v H3 ρ3 w3 st3 R3 r3=>?_];let#[rfl,w4]:=w3;exact#[fh.mp r3,qq _ _ _ _ _ w4 (s2.trans st3) R3 (r2.mono R2 st3)]
def lookup_none:∀{fs:List (String×U)}{vs:List (Str×V)}{m:String},vs.map (·.1)=(fs.map (·.1)).map nm->fs.lookup m=ψ->vs.lookup (nm m)=ψ
 |[],[],_,_,_=>rfl
 |[],_::_,_,e,_=>by simp at e
 |_::_,[],_,e,_=>by simp at e
 | (g,w)::fs,(a,v)::vs,m,e,h=>by
  dsimp[aw,dy] at e;rw[aP] at h ⊢;by_cases z:m=g
  .subst z;simp at h
  .have z1:(m==g)=ϑ:=by simp[z]
   rw[z1] at h;have z2:(nm m==a)=ϑ:=by
    rw[e.1]
    dsimp[beq_eq_false_iff_ne,ne_eq];erw[λq=>z (vI _ _ q)]
   rw[z2]
   erw[lookup_none e.2 h]
def Nw(G:Good t T Γ k I X)(hc:I.calm=ζ)(hq:(m,q)∈T.qH)(h0:gK o=ζ)(hl:(apos.endLine==pos.line)=ζ)(hn:(e::es).length<20)(h1:noStar e=ζ)(h2:es.all noStar=ζ)
  (ho:PE X o (tE (X.cc t) Γ x)) (ha:PA X (e::es) (Hn (X.cc t) Γ xs)):PE X (.Call (.Attribute o (nm m) apos) (e::es) [] pos) (tE (X.cc t) Γ (.df q m (q++"."++m) x xs)):=by
 let#[C,f,hC,M,fd,ps,F,B]:=G.Rm.Uc (m,q) hq;refine(aac (k:=k) ho (G.tab.cls q C hC).1 M F ((G.calm hc).2.mono (iK k)) B ha h0 hn hl h1 h2).imp ?_;rintro σ H Q ⟨env,ρ,S,QU,he,R,w,qq⟩;z_go;let#[l,e1,w2]:=PL.iy.mp w1;subst e1;let#[c',fs,e2,#[rfl,e3],w3]:=PL.mM.mp w2;let#[a,C',dx,vs,ev,_,hC',ha',hnn,_]:=R1.ins e2 r1;rw[hC] at hC';injection hC' with hC';subst hC'
 refine#[a,dx,vs,ev,ha',lookup_none hnn e3,?_];refine#[env,ρ1,S1,_,he.later R st1,R1,w3,λus S2 vs2 H2 ρ2 w4 st2 R2 r2=>?_];exact#[_,ρ2,S2,QU,aY.cons (r1.mono R1 st2) r2,R2,w4,qq.later (st1.trans st2)]
def JE(G:Good t T Γ k I X)(hc:I.calm=ζ)(hq:(m,q)∈T.qH)(h0:gK o=ζ)(hl:(apos.endLine==pos.line)=ζ)
  (ho:PE X o (tE (X.cc t) Γ x)):PE X (.Call (.Attribute o (nm m) apos) [] [] pos) (tE (X.cc t) Γ (.df q m (q++"."++m) x .nil)):=by
 let#[C,f,hC,M,fd,ps,F,B]:=G.Rm.Uc (m,q) hq;refine(Ib (k:=k) ho (G.tab.cls q C hC).1 M F ((G.calm hc).2.mono (iK k)) B .nil xH (xY h0 rfl ⋯ hl)).imp ?_;rintro σ H Q ⟨env,ρ,S,QU,he,R,w,qq⟩;z_go;let#[l,e1,w2]:=PL.iy.mp w1;subst e1;let#[c',fs,e2,#[rfl,e3],w3]:=PL.mM.mp w2;let#[a,C',dx,vs,ev,_,hC',ha',hnn,_]:=R1.ins e2 r1;rw[hC] at hC';injection hC' with hC';subst hC'
 refine#[a,dx,vs,ev,ha',lookup_none hnn e3,?_];exact#[_,ρ1,S1,QU,aY.cons r1 aY.nil,R1,w3,qq.later st1]
end
open PL (U SO bM KU cv)
section
variable{t:xV}{T:Tab}{Γ:cv}{k n:Nat}{I:Inf}{X:Cx}
def VU{x:Str}{n:String}{pos:Pos}(G:Good t T Γ k I X)(g:I.gl x=ζ)(c:(x==(n:Str)&&T.gG.contains n)=ζ)(hv:kf (n:Str)=ξ (.type n))(hn:(n:Str)≠"__name__")(hd:((n:Str)== ("__debug__":Str))=ϑ):PE X (.Name x pos) (tC (.ty n)):=by
 rw[aj] at c;obtain rfl:x=(n:Str):=eq_of_beq c.1;exact LU (hX G g) (G.tab.gG n (~~~c.2)) hv rfl hn hd
def RG{e:Expr}(G:Good t T Γ k I X)(h:Yc T I e=ζ):noStar e=ζ/\PE X e (tC (.ty "bool")):=by
 unfold Yc at h;split at h
 .rename_i x h0
  let#[pos,rfl]:=Ef h0;rw[aj] at h;exact#[rfl,VU G h.1 h.2 (by decide +kernel) ⋯ ⋯]
 .erw[ff h]
def Gi:iH X (.builtin "isinstance") (λxs H Q=>∃b,xs=[.bl b,.ty "bool"]/\Q (.bl ζ) H):=by
 k_go;let#[b,rfl,q]:=h;let#[ux,uc,rfl,rx,rc]:=r.two;cases (show uc=E7 "bool" from rc);cases (show ux=iq b from rx);erw[kia_one kitx_bool I.yB trivial rfl (λz=>nomatch z) λtk=>#[.bl ζ,H,I.tok tk,rfl,q]]
def RH{a c:Expr}{x:PL.Ex}{p pos:Pos}(G:Good t T Γ k I X)(hg:I.gl ("isinstance":Str)=ζ)(hb:"isinstance"∈T.gG)(h1:noStar a=ζ)(hc:Yc T I c=ζ)(ha:PE X a (tE (X.cc t) Γ x)):
  PE X (.Call (.Name ("isinstance":Str) p) [a,c] [] pos) (tE (X.cc t) Γ (.Vj x)):=by
 let#[h2,hp]:=RG G hc;refine(mJ Gi (hX G hg) (G.tab.gG "isinstance" hb) boot_isinstance (lO ha (lO hp qy (cK h2)) (cK h1)) ⋯ ⋯ (cK h1) (ie (by simp[h2]))).imp ?_;rintro σ H Q ⟨env,ρ,S,QU,he,R,w,q⟩;refine#[env,ρ,S,_,he,R,w,λu S1 v H1 ρ1 w1 st1 R1 r1=>?_];let#[l,rfl,w2]:=PL.uB.mp (show PL.IE _ _ from w1);exact#[_,by rw[eP.mp r1],(q.later st1).now R1 w2 (eP.mpr rfl)]
def aY.rev{c:Ctx}{ρ:List Addr}{H:Hp}:∀{us:List U}{vs:List V},aY c ρ H us vs->aY c ρ H us.reverse vs.reverse
 |[],vs,h=>by
  have e:=h;unfold aY at e;subst e;erw[h]
 |w::us,vs,h=>by
  unfold aY at h;let#[x,ws,rfl,h1,h2]:=h;rw[mI,mI]
  erw[h2.rev.app (.cons h1 .nil)]
def Nx{a:Expr}{x:PL.Ex}{p p2 pos pos2:Pos}(G:Good t T Γ k I X)(hg:I.gl ("list":Str)=ζ)(hb:"list"∈T.gG)(hg2:I.gl ("reversed":Str)=ζ)(hb2:"reversed"∈T.gG)(hc:X.calm=ζ)(h1:noStar a=ζ)(ha:PE X a (tE (X.cc t) Γ x)):
  PE X (.Call (.Name ("list":Str) p) [.Call (.Name ("reversed":Str) p2) [a] [] pos2] [] pos) (tE (X.cc t) Γ (.blt .FP (.cons x .nil))):=by
 refine(MT hc (hX G hg) (G.tab.gG "list" hb) (hX G hg2) (G.tab.gG "reversed" hb2) (lO ha qy (cK h1)) (cK h1)).imp ?_;kd_p;z_go;have w1:PL.qF .FP [u] S1 QU:=w1;cases u<;>first|exact aZ w1|skip
 rename_i n;let#[us,e,w2]:=PL.cU.mp (show PL.getL _ _ from w1);let#[a,vs,ev,_,g1,g2]:=R1.lst e r1;exact#[a,vs,by rw[ev],gX.of g1,λl hl=>(q.later st1).C3 R1 g2.rev w2 hl]
end
open PL (U SO bM KU cv)
def RI(hl:PE X l tl):PI X tg l (λσ H R=>tl σ H λx H1=>(∃a,x=.ref a/\(∃xs,gX X.K H1 a xs)/\R (YD X.K a) H1)\/(∃a,x=.ref a/\(∃xs,oG X.K H1 a xs)/\R (YE X.K a) H1)\/∃z,x=.str z/\R (Vf z) H1):=by
 intro pZ s σ H R I h;rwa[eG (hl pZ s σ H _ I h) λv s1 h9=>?_]
 let#[x,H1,I1,r1,q1]:=h9;rcases q1 with⟨a,e,⟨xs,hq⟩,q⟩|⟨a,e,⟨xs,hq⟩,q⟩|⟨z,e,q⟩
 .subst e
  cases r1;let#[its,rv,p,hz]:=I1.list hq;rwa[km p.isList ?_];refine#[s1.heap.objs.size,[s1.heap.objs.size],_,_,H1,rfl,I1.kept (t':=s1.toks) λb o e=>aG _ e,Ft a _,#[_,aX _ rfl,rfl,rfl],λb hb=>?_,q];have e:b=s1.heap.objs.size:=by simpa using hb
  subst e;erw[I1.AA (ar _) (I1.dE.fresh (ar _))]
 .subst e
  cases r1;let#[its,rv,p,hz]:=I1.tuple hq;rwa[wpAny_pyIter_tuple (show s1.heap.IsTuple a its.toArray from p) ?_];refine#[s1.heap.objs.size,[s1.heap.objs.size],_,_,H1,rfl,I1.kept (t':=s1.toks) λb o e=>aG _ e,Ck a _,#[_,aX _ rfl,rfl,rfl],λb hb=>?_,q];have e:b=s1.heap.objs.size:=by simpa using hb
  subst e;erw[I1.AA (ar _) (I1.dE.fresh (ar _))]
 .subst e
  let#[t,rfl]:=r1;have fin:∀(b:Bool)(o:Obj),o={cls:=.type (if b then "str_ascii_iterator" else "str_iterator"),data:=.fields (List.toArray [.str z t,.int 0 0])}->YC X pZ σ tg R (.ref s1.heap.objs.size) {s1 with heap:=s1.heap.push o}:=λb o eo=>by
   refine#[s1.heap.objs.size,[s1.heap.objs.size],_,Vf z,H1,rfl,I1.kept (t':=s1.toks) λb o e=>aG _ e,IA _ z t b,#[_,aX _ (by rw[eo];rfl),by rw[eo],by rw[eo];rfl],λc hc=>?_,q];have e:c=s1.heap.objs.size:=by simpa using hc
   subst e;erw[I1.AA (ar _) (I1.dE.fresh (ar _))]
  cases ha:z.cps.all (·<128)
  .erw[wpAny_pyIter_wide ha (fin ϑ _ rfl)]
  .erw[wpAny_pyIter_ascii ha (fin ζ _ rfl)]
section
variable{c:Ctx}{ρ:List Addr}{H:Hp}{S:bM}
def Ny{n:Nat}{us:List U}{a:Addr}(ha:ρ[n]?=ξ a):Bc c ρ H (YD c.K a) us (λS'=>S'[n]?=ξ (.lst us)):=by
 intro i ρ2 H2 S2 st R g;let#[vs,h1,h2]:=R.at_ n a _ (st.get ha) g;refine#[λu hu=>?_,λhl=>#[vs,gX.of h1,by rw[<-h2.len];erw[hl]]];let#[v,e,r]:=h2.get hu;refine#[#[vs,v,gX.of h1,e],λy H3 h9=>?_];let#[e3,hy]:=h9;subst e3;have:=hy vs (gX.of h1);rw[e] at this;injection this with this;subst this
 exact#[.refl,R,r]
def RJ(R0:cF c ρ H S)(h1:H a=ξ (.tup vs))(h2:aY c ρ H us vs):Bc c ρ H (YE c.K a) us (λ_=>True):=by
 intro i ρ2 H2 S2 st R g;have h1':=st.fr a _ h1 (R0.not h1 rfl);have h2':=h2.mono R0 st;refine#[λu hu=>?_,λhl=>#[vs,oG.of h1',by rw[<-h2'.len];erw[hl]]];let#[v,e,r]:=h2'.get hu;refine#[#[vs,v,oG.of h1',e],λy H3 h9=>?_];let#[e3,hy]:=h9;subst e3;have:=hy vs (oG.of h1');rw[e] at this;injection this with this;subst this
 exact#[.refl,R,r]
def RK:Bc c ρ H (Vf (tx l)) (l.map λd=>.str [d]) (λ_=>True):=by
 intro i ρ2 H2 S2 st R g;refine#[λu hu=>?_,λhl=>?_]
 .rw[aB] at hu
  let#[d,e,e2]:=ak.mp hu;subst e2;refine#[?_,λy H3 #[e3,d',e4,e5]=>?_]
  .show i<(tx l).cps.size
   have:=(ag.mp e).1;simpa using this
  .subst e3
   have:l[i]?=ξ d':=by simpa using e4
   rw[e] at this;injection this with this;subst this
   rw[e5]
   exact#[.refl,R,bF.mpr rfl]
 .show(tx l).cps.size<=i
  simpa using hl
def Nz{n:Nat}{us:List U}{a:Addr}(ha:ρ[n]?=ξ a):Bc c ρ H (X1 c.K a) (us.mapIdx λi u=>.tup [.int (i:Nat),u]) (λS'=>S'[n]?=ξ (.lst us)):=by
 intro i ρ2 H2 S2 st R g;let#[vs,h1,h2]:=R.at_ n a _ (st.get ha) g;refine#[λu hu=>?_,λhl=>#[vs,gX.of h1,by rw[<-h2.len];simpa using hl]];rw[fF] at hu;let#[u',e0,e1]:=ak.mp hu;subst e1;let#[v,e,r]:=h2.get e0;refine#[#[vs,v,gX.of h1,e],λy H3 h9=>?_];let#[p,x,hp,e3,e4,hy]:=h9;have:=hy vs (gX.of h1);rw[e] at this;injection this with this;subst this
 subst e3 e4;have st':=iM.lay R hp (.tup [.int (i:Nat),v]);exact#[st',R.lay hp _,d7.mpr #[p,_,rfl,b8,aY.cons (aT.mpr rfl) (aY.cons (r.mono R st') aY.nil)]]
def Eo{n:Nat}{a:Addr}{o:Obj}{kvs:List (U×U)}{vs:List (Key×V)}(ha:ρ[n]?=ξ a)(h:H a=ξ (.sC o (.dK vs))):Bc c ρ H (T3 a o vs) (kvs.map (·.1)) (λS'=>S'[n]?=ξ (.qC kvs)):=by
 intro i ρ2 H2 S2 st R g;have e:=st.fz a o vs h;let#[o',vs',h1,h2,h3,_]:=R.at_ n a _ (st.get ha) g;rw[e] at h1;cases h1;refine#[λu hu=>?_,λhl=>#[e,by rw[h2];simpa using hl]];have hi:i<vs.length:=by rw[h2];have:=(ag.mp hu).1;simpa using this
 refine#[#[e,hi],λy H3 h9=>?_];let#[e3,k,v,e4,e5]:=h9;subst e3 e5;let#[v2,e6,r]:=h3.get hu;rw[aB,e4] at e6;cases e6;exact#[.refl,R,r]
def RL{n:Nat}{us:List U}{a:Addr}(ha:ρ[n]?=ξ a):Bc c ρ H (Y4 c.K a us.length) us.reverse (λS'=>S'[n]?=ξ (.lst us)):=by
 intro i ρ2 H2 S2 st R g;let#[vs,h1,h2]:=R.at_ n a _ (st.get ha) g;refine#[λu hu=>?_,λhl=>by show us.length<=i;simpa using hl];have hi:i<us.length:=by have:=(ag.mp hu).1;simpa using this
 rw[pv hi] at hu;let#[v,e,r]:=h2.get hu;refine#[#[vs,v,gX.of h1,hi,e],λy H3 h9=>?_];let#[e3,hy]:=h9;have:=hy vs (gX.of h1);rw[e] at this;injection this with this;subst this;subst e3
 exact#[.refl,R,r]
def JF:Bc c ρ H (XN 0 n) ((bC n).map λk=>.int (k:Nat)) (λ_=>True):=by
 intro i ρ2 H2 S2 st R g;refine#[λu hu=>?_,λhl=>?_]
 .rw[aB] at hu
  let#[d,e,e2]:=ak.mp hu;subst e2;have hi:=(ag.mp e).1;rw[dU] at hi;rw[eh hi] at e;injection e with e;subst e
  refine#[hi,λy H3 h9=>?_];let#[e3,e4]:=h9;subst e3;subst e4;exact#[.refl,R,aT.mpr (#v[])]
 .show n<=i
  simpa using hl
end
section
variable{t:xV}{T:Tab}{Γ:cv}{k n:Nat}{I:Inf}{X:Cx}
def RM{e tg:Expr}{x:PL.Ex}(h:PE X e (tE (X.cc t) Γ x)):PI X tg e (z8 (X.cc t) Γ (.val x)):=by
 rwa[λpins' s σ H Q J z=>RI h pins' s σ H Q J ?_]
 let#[env,ρ,S,RU,he,R,w,q]:=z;z_go;cases u with
 |str l=>rw[bF.mp r1];erw[.inr (.inr #[_,rfl,q _ _ _ _ _ _ w1 st1 R1 RK])]
 |tup us=>
  let#[a,vs,e1,h1,h2]:=d7.mp r1;erw[.inr (.inl #[a,e1,#[vs,oG.of h1],q _ _ _ _ _ _ w1.2 st1 R1 (RJ R1 h1 h2)])]
 |loc m=>
  let#[us,e0,w2]:=PL.cU.mp (show PL.getL _ _ from w1);let#[a,vs,e1,ha,h1,h2]:=R1.lst e0 r1;erw[.inl #[a,e1,#[vs,gX.of h1],q _ _ _ _ _ _ w2 st1 R1 (Ny ha)]]
 |_=>erw[aZ w1]
def NA{e tg:Expr}{x:PL.Ex}(h:PE X e (tE (X.cc t) Γ x)):PI X tg e (z8 (X.cc t) Γ (.keys x)):=by
 rwa[λpins' s σ H Q J z=>Mx h pins' s σ H Q J ?_]
 let#[env,ρ,S,RU,he,R,w,q]:=z;z_go;let#[n,rfl,w1]:=PL.iy.mp (show PL.sE _ _ from w1);let#[kvs,e,w2]:=PL.i7.mp w1;let#[a,ev,ha]:=d8.mp r1;rcases e with e|e
 .let#[vs,g1,g2,g3,g4]:=R1.at_ n a _ ha e
  refine#[a,vs,ev,.inl #[g1,λo=>?_]];have st2:=iM.put (H:=H1) (ai ha) g1 rfl (.sC o (.dK vs));erw[q _ _ _ _ _ _ w2 (st1.trans st2) (R1.put ha g1 rfl #[o,vs,b8,g2,g3.mono R1 st2,g4.mono R1 st2]) (Eo ha b8)]
 .let#[o,vs,g1,g2,g3,g4]:=R1.at_ n a _ ha e
  have es:S1.set n (.qC kvs)=S1:=by
   let#[hl,e2]:=ag.mp e;rw[<-e2];erw[List.set_getElem_self hl]
  rw[es] at w2;exact#[a,vs,ev,.inr #[o,g1,q _ _ _ _ _ _ w2 st1 R1 (Eo ha g1)]]
def JG(G:Good t T Γ k I X)(hg:I.gl ("range":Str)=ζ)(hb:"range"∈T.gG)(h1:noStar a=ζ)(h:PE X a (tE (X.cc t) Γ x)):
  PI X tg (.Call (.Name ("range":Str) p) [a] [] pos) (z8 (X.cc t) Γ (.range x)):=by
 rwa[λpins' s σ H Q J z=>Fu (hX G hg) (G.tab.gG "range" hb) (lO h qy (cK h1)) (cK h1) pins' s σ H Q J ?_]
 let#[env,ρ,S,RU,he,R,w,q]:=z;z_go;let#[j,e,w2,w3,w4]:=PL.fX.mp w1;subst e;exact#[j,by rw[aT.mp r1],∅,∅,q _ _ _ _ _ _ w4 st1 R1 JF]
def RO{a tg:Expr}{x:PL.Ex}{p pos:Pos}(G:Good t T Γ k I X)(hg:I.gl ("reversed":Str)=ζ)(hb:"reversed"∈T.gG)(h1:noStar a=ζ)(h:PE X a (tE (X.cc t) Γ x)):
  PI X tg (.Call (.Name ("reversed":Str) p) [a] [] pos) (z8 (X.cc t) Γ (.rev x)):=by
 rwa[λpins' s σ H Q J z=>Qz (hX G hg) (G.tab.gG "reversed" hb) (lO h qy (cK h1)) (cK h1) pins' s σ H Q J ?_]
 let#[env,ρ,S,RU,he,R,w,q]:=z;z_go;let#[m,e,w2]:=PL.iy.mp w1;subst e;let#[us,e0,w3]:=PL.cU.mp w2;let#[b,vs,e1,hb,g1,g2]:=R1.lst e0 r1;subst e1;exact#[b,vs,rfl,gX.of g1,by rw[<-g2.len];erw[q _ _ _ _ _ _ w3 st1 R1 (RL hb)]]
def aae{n:Nat}{e:Expr}{x:PL.It}{es:List Expr}{ek:Nat}{tp:Pos}(IH:Gg t T Γ k n)(G:Good t T Γ k I X)(h:cN T (n+1) I e=ξ x):PI X (.Tuple es ek tp) e (z8 (X.cc t) Γ x):=by
 rw[ZW] at h;delta stN at h;split at h
 .rename_i f a hr
  let#[p,cp,rfl]:=OT hr;split at h
  .rename_i hc
   dsimp[aj] at hc;let#[#[#[c1,c2],c3],c4]:=hc;have ef:f=("enumerate":Str):=by simpa using c1
   subst ef;let#[y,h1,h2]:=ak.mp h;subst h2;refine λpins' s σ H Q J z=>ML (hX G c2) (G.tab.gG "enumerate" (~~~c3)) (lO (IH.fe G h1) qy (cK c4)) (cK c4) pins' s σ H Q J ?_
   let#[env,ρ,S,RU,he,R,w,q]:=z;z_go;let#[m,e,w2]:=PL.iy.mp w1;subst e;let#[us,e0,w3]:=PL.cU.mp w2;let#[b,vs,e1,hb,g1,g2]:=R1.lst e0 r1;subst e1;exact#[b,rfl,#[vs,gX.of g1],q _ _ _ _ _ _ w3 st1 R1 (Nz hb)]
  .erw[nn h]
 .erw[nn h]
def Ep:∀{n:Nat}{I:Inf}{e:Expr}{x:PL.Ex},cE T n I e=ξ x->noStar e=ζ:=by
 intro n I e x h;cases n with
 |zero=>erw[nn h]
 |succ n=>
  cases e<;>first|rfl|exact nn h
def VW(IH:Gg t T Γ k n)(G:Good t T Γ k I X)(h:cI T (n+1) I e=ξ x):PI X tg e (z8 (X.cc t) Γ x):=by
 have gen:∀{x:PL.It},(cE T n I e).map PL.It.val=ξ x->PI X tg e (z8 (X.cc t) Γ x):=λh=>by
  let#[y,h1,h2]:=ak.mp h;subst h2;erw[RM (IH.fe G h1)]
 rw[ZU] at h;delta stI at h;split at h
 .rename_i f a hr
  let#[p,cp,rfl]:=OT hr;split at h
  .rename_i hf
   split at h
   .rename_i hc
    rw[aj] at hc;let#[y,h1,h2]:=ak.mp h;subst h2;have ef:f=("range":Str):=by simpa using hf
    subst ef;exact JG G hc.1 (~~~hc.2) (Ep h1) (IH.fe G h1)
   .erw[nn h]
  .split at h
   .rename_i hf
    split at h
    .rename_i hc
     rw[aj] at hc;let#[y,h1,h2]:=ak.mp h;subst h2;have ef:f=("reversed":Str):=by simpa using hf
     subst ef;exact RO G hc.1 (~~~hc.2) (Ep h1) (IH.fe G h1)
    .erw[nn h]
   .erw[gen h]
 .split at h
  .let#[y,h1,h2]:=ak.mp h
   subst h2;erw[NA (IH.fe G h1)]
  .erw[gen h]
end
open PL (U SO bM KU cv)
section
variable{c:Ctx}{ρ ρ2:List Addr}{H H2:Hp}{S:bM}
def iM.VX(a:iM ρ H ρ2 H2)(h:H D=ψ):iM ρ H (ρ2++[D]) H2:=by
 let#[m,e]:=a.pre;refine#[#[m++[D],by rw[e,bw]],λb hb nb=>?_,a.fr,a.fz];rcases aL.mp hb with z|z
 .erw[a.new b z nb]
 .rw[bI.mp z];erw[h]
def iM.A9(a:iM ρ H ρ2 H2)(h:H D=ψ)(o:HO):iM ρ H ρ2 (upd H2 D o):=
 #[a.pre,a.new,λb o' h1 h2=>%[cq (dD h1 h)|a.fr b o' h1 h2],λb o' vs h1=>%[cq (dD h1 h)|a.fz b o' vs h1]]
def iM.out(a:iM ρ H ρ2 H2)(h:H D=ξ o)(n:D∉ρ):D∉ρ2/\H2 D=ξ o:=by
 refine#[λz=>?_,a.fr D o h n];have:=a.new D z n;rw[h] at this;cases this
def JH(he:kz c ρ H env σ)(r:kz c ρ H us ys):kz c ρ H (us++PL.mO env ci) (ys++hW σ ci):=by
 have hl:=r.len;refine#[by simp[PL.mO,hW,hl],λi w e=>?_];by_cases lt:i<us.length
 .rw[ah lt] at e
  rw[ah ∅]
  erw[r.at_ i w e]
 .rw[ay ∅] at e
  rw[ay ∅,<-hl]
  generalize i-us.length=i at e ⊢;unfold PL.mO at e;unfold hW;rw[aB] at e ⊢;cases q:ci[i]? with
  |none=>rw[q] at e;cases e
  |some j=>
   rw[q] at e;dsimp[gD,pY] at e ⊢;cases z:env[j]? with
   |none=>rw[z] at e;cases e
   |some o=>
    rw[z] at e;cases o with
    |none=>cases e
    |some w'=>
     simp at e;subst e;let#[v,e1,r1]:=he.at_ j w' z;exact#[v,by rw[e1];rfl,r1]
def VY(r:Rep c ρ H u y):kz c ρ H [ξ u] [ξ y]:=
 #[rfl,λi w e=>by cases i<;>simp at e;subst e;exact#[y,rfl,r]]
def VZ(r:Rep c ρ H u y)(r':Rep c ρ H u' y'):kz c ρ H [ξ u,ξ u'] [ξ y,ξ y']:=
 #[rfl,λi w e=>by
  match i with
  |0=>simp at e;subst e;exact#[y,rfl,r]
  |1=>simp at e;subst e;exact#[y',rfl,r']
  |i+2=>simp at e]
end
section
variable{t:xV}{T:Tab}{Γ:cv}{k n:Nat}{I:Inf}{X:Cx}
def mem_lookup:∀{l:List (Str×NameKind)}{y:Str}{k:NameKind},l.lookup y=ξ k->(y,k)∈l
 |[],_,_,h=>nomatch h
 | (a,b)::l,y,k,h=>by
  rw[aP] at h;by_cases e:y=a
  .subst e;simp at h;subst h;erw[aN]
  .have e2:(y==a)=ϑ:=by simp[e]
   rw[e2] at h;erw[av _ (mem_lookup h)]
def vJ(G:Good t T Γ k I X)(h:vB I sc x=ζ):AM X sc x:=by
 unfold vB at h;dsimp[aj,bS] at h;let#[#[#[#[#[h1,h2],h3],h4],h5],h6]:=h;refine#[~~~h1,λy hy e=>?_,λy hy e=>?_,λy hy e=>?_,λy hy=>by simpa using h5 y hy,of_decide_eq_true h6,λy e=>?_]
 .have:=h2 y hy;rw[e] at this;simpa using this
 .have:=h3 y hy;rw[e] at this;simpa using this
 .have:=h4 y hy;rw[e] at this;rw[G.names];simpa using this
 .erw[mem_lookup e]
def Er(G:Good t T Γ k I X)(h:(iQ I sc).mapM (λy=>eO y I.N)=ξ ci):yN X sc (iQ I sc) ci:=by
 have key:∀(l:List Str)(ci:List Nat),l.mapM (λy=>eO y I.N)=ξ ci->ci.length=l.length/\∀(k:Nat)(y:Str),l[k]?=ξ y->∃j:Nat,ci[k]?=ξ j/\I.N[j]?=ξ y:=by
  intro l;induction l with
  |nil=>intro ci h;simp at h;subst h;exact#[rfl,λk y e=>by simp at e]
  |cons a l ih=>
   intro ci h;dsimp[List.mapM_cons,aQ,aA] at h;let#[j,h1,r,h2,h3]:=h;simp at h3;subst h3;let#[q1,q2]:=ih r h2;refine#[by simp[q1],λk y e=>?_];cases k with
   |zero=>simp at e;subst e;exact#[j,rfl,fA h1]
   |succ k=>simp at e ⊢;erw[q2 k y e]
 let#[q1,q2]:=key _ _ h;refine#[q1,λk y e=>?_,λy hy=>?_]
 .rw[G.slots];erw[q2 k y e]
 .unfold iQ at hy
  have:=(fw.mp hy).2;simpa using this
def rZ(G:Good t T Γ k I X)(hc:I.calm=ζ)(h:vB I sc x=ζ)(cp:yN X sc (iQ I sc) ci)(hn:(iQ I sc).Nodup):
  Good t T Γ k #[rQ I sc.names,x++iQ I sc,ζ] (X.vn sc C (x++iQ I sc) s₀ H₀ ex):=by
 have B:=vJ G h;refine#[G.tab,G.Rm,B.kind,?_,rfl,sT cp B hn,λ_=>G.calm hc,G.units,rfl];show(Hz sc X.env).names=_;unfold Hz rQ;simp only
 congr 1
 funext p
 let#[a,b]:=p;dsimp[G.kind,Env.kindOf,G.names];simp
def xZ(z:tE (X.cc t) Γ (.comp pr e it tc ci) σ H Q):
  Iw (Ve X.K pr) (z8 (X.cc t) Γ it) ci (tT (X.cc t) Γ tc) (tE (X.cc t) Γ e) σ H Q:=by
 let#[env,ρ,S,QU,he0,R,w,q]:=z;refine#[env,ρ,S,_,he0,R,w,λus g S1 H1 ρ1 J w1 st1 R1 io=>?_];intro D hD;have he1:=he0.later R st1;have D0:D∉ρ1:=R1.Jg hD
 let F:=PL.mN g (λu S2 k=>PL.qr pr u (PL.mO env ci) λen=>PL.WT Γ tc en S2 k)
   (λu S2 k=>PL.qr pr u (PL.mO env ci) λen=>PL.WE Γ e en S2 k) (λacc S3=>QU (.loc S3.length) (S3++[.lst acc]))
 refine#[λi m acc H2=>m+i=us.length/\∃ρ2 S2 accU,iM ρ1 H1 ρ2 H2/\cF (X.cc t) ρ2 H2 S2/\D∉ρ2/\H2 D=ξ (.lst acc)/\aY (X.cc t) ρ2 H2 accU acc/\F (us.drop i) accU S2,#[us.length,rfl,ρ1,S1,[],iM.lay R1 hD _,R1.lay hD _,D0,b8,aY.nil,w1],?_];rintro i m acc H2 ⟨hm,ρ2,S2,accU,st2,R2,D2,hD2,ra,wc⟩;have hlen:acc.length=accU.length:=ra.len.symm;cases hd:us.drop i with
 |nil=>
  rw[hd] at wc;obtain⟨g2,hl,w2⟩:g S2/\accU.length<1000000/\QU (U.loc S2.length) (S2++[SO.lst accU]):=wc;refine#[hD2,%[hlen|au hl ⋯],.inl #[((io i ρ2 H2 S2 st2 R2 g2).2 (DM.mp hd)),?_]];rwa[q _ _ _ _ _ w2 (st1.trans (st2.VX hD)) (R2.join D2 #[acc,hD2,ra]) (d8.mpr #[D,rfl,?_])];rw[<-R2.len,ay (ar _),bZ];rfl
 |cons u rest=>
  rw[hd] at wc;obtain⟨g2,hl,w0⟩:g S2/\accU.length<1000000/\PL.qr pr u (PL.mO env ci) λen=>PL.WT Γ tc en S2 (λb S3=>if b=ζ then PL.qr pr u (PL.mO env ci) (λen=>PL.WE Γ e en S3 (λv S4=>F rest (accU++[v]) S4)) else F rest accU S3):=wc
  have hu:us[i]?=ξ u:=by
   have:=congrArg (λl=>l[0]?) hd;simpa using this
  have hr:us.drop (i+1)=rest:=by
   have:=congrArg List.tail hd;simpa using this
  have hi:i<us.length:=(ag.mp hu).1;let#[jg,jy]:=(io i ρ2 H2 S2 st2 R2 g2).1 u hu;refine#[hD2,by rw[hlen];exact au hl ⋯,.inr #[jg,λy H3 hy=>?_]];let#[st3,R3,ry]:=jy y H3 hy;let#[_,hD3]:=st3.out hD2 D2;have ra3:=ra.mono R2 st3;obtain⟨us',τ,rτ,w2,kτ⟩:∃(us':PL.Env)(τ:St),kz (X.cc t) ρ2 H3 us' τ/\PL.WT Γ tc (us'++PL.mO env ci) S2 (λb S3=>if b=ζ then PL.WE Γ e (us'++PL.mO env ci) S3 (λv S4=>F rest (accU++[v]) S4) else F rest accU S3)/\∀k:St->Prop,k τ->Ve X.K pr y H3 k:=by
   cases pr with
   |false=>exact#[[ξ u],[ξ y],VY ry,w0,λk z=>z]
   |true=>
    let#[u1,u2,eu,w2]:=PL.D6.mp w0;subst eu;let#[a,vs,e1,ha,hr2]:=d7.mp ry;let#[v1,v2,ev,r1,r2]:=El hr2;subst ev;exact#[[ξ u1,ξ u2],[ξ v1,ξ v2],VZ r1 r2,w2,λk z=>#[a,v1,v2,e1,oG.of ha,z]]
  have he3:=JH (ci:=ci) (he1.later R1 (st2.trans st3)) rτ;rwa[kτ _ #[_,ρ2,S2,_,he3,R3,w2,λb S4 H4 ρ4 w4 st4 R4=>?_]];let#[D4,hD4]:=st4.out hD3 D2;have ra4:=ra3.mono R3 st4;cases b with
  |false=>exact#[m-1,∅,∅,ρ4,S4,accU,(st2.trans st3).trans st4,R4,D4,hD4,ra4,%[hr|w4]]
  |true=>
   refine#[_,ρ4,S4,_,he3.later R3 st4,R4,w4,λv S5 z H5 ρ5 w5 st5 R5 r5=>?_];let#[D5,hD5]:=st5.out hD4 D4;have ra5:=(ra4.mono R4 st5).app (aY.cons r5 aY.nil);refine#[hD5,m-1,∅,∅,ρ5,S5,accU++[v],(((st2.trans st3).trans st4).trans st5).A9 hD _,R5.A9 _ hD5 rfl D5,D5,b8,ra5.iI #[[],#v[]] (y9 hD5 rfl),%[hr|w5]]
def JI(ht:MZ tg=ξ x)(B:AM X sc x)(cp:yN X sc cn ci)(hn:cn.Nodup)(hc:X.calm=ζ):T4 X tg sc x cn (Ve X.K (x.length==2)):=by
 rcases C1 ht with⟨_,_,rfl,rfl⟩|⟨_,_,_,_,_,_,rfl,rfl⟩
 .erw[Iy B cp hn]
 .erw[Iz B cp hn hc]
def NB{elt iter tg:Expr}{ifs:List Expr}{x:List Str}{pos:Pos}{sc:kg}{it:PL.It}{tc:PL.Tx}{e:PL.Ex}{ci:List Nat}(G:Good t T Γ k I X)(hc:I.calm=ζ)(ht:MZ tg=ξ x)(hb:vB I sc x=ζ)(hci:(iQ I sc).mapM (λy=>eO y I.N)=ξ ci)
  (hs:∀env v,foldedSetIterable iter env v=pure v) (hi:PI X tg iter (z8 (X.cc t) Γ it))
  (hif:∀(X':Cx),Good t T Γ k #[rQ I sc.names,x++iQ I sc,ζ] X'->X'.cc t=X.cc t->Mz X' ifs (tT (X.cc t) Γ tc))
  (he:∀(X':Cx),Good t T Γ k #[rQ I sc.names,x++iQ I sc,ζ] X'->X'.cc t=X.cc t->PE X' elt (tE (X.cc t) Γ e)):
  PE X (.ListComp elt [#[tg,iter,ifs,0]] sc pos) (tE (X.cc t) Γ (.comp (x.length==2) e it tc ci)):=by
 have hn:(iQ I sc).Nodup:=by
  unfold iQ;have:=G.nd;rw[G.slots] at this;erw[this.filter _]
 have cp:=Er G hci;refine(MD (wi:=z8 (X.cc t) Γ it) (tc:=tT (X.cc t) Γ tc) (te:=tE (X.cc t) Γ e)
  (vJ G hb) cp hn (G.calm hc).1 (JI ht (vJ G hb) cp hn (G.calm hc).1) hi (λC s₀ H₀ ex=>hif _ (rZ G hc hb cp hn) rfl) (λC s₀ H₀ ex=>he _ (rZ G hc hb cp hn) rfl) (hs _)).imp λσ H Q z=>xZ z
def NC(ha:PE X a (tE (X.cc t) Γ x))(hb:PE X b (tE (X.cc t) Γ y)):PE X (.Dict [ξ a] [b] pos) (tE (X.cc t) Γ (.dZ #v[x] #v[y])):=by
 refine(Mv (Iq ha hb Mu) rfl rfl (#v[]) (show 1<=15 by decide)).imp ?_;rintro σ H Q ⟨env,ρ,S,QU,he,R,w,q⟩;intro p hp;have st0:=iM.lay R hp (.dK []);have R0:=R.lay hp (.dK []);refine#[env,ρ,S,_,he.later R st0,R0,w,λu S1 v H1 ρ1 w1 st1 R1 r1=>?_];refine#[env,ρ1,S1,_,(he.later R st0).later R0 st1,R1,w1,λu2 S2 v2 H2 ρ2 w2 st2 R2 r2=>?_];obtain⟨_,hk,w',e,w3⟩:([u]:List U).length<=100/\PL.nj u=ζ/\∃v,[u2]=[v]/\QU (.loc S2.length) (S2++[SO.dZ [(u,v)]]):=w2;cases e;let#[p2,hp2]:=(st1.trans st2).out b8 (R.Jg hp);have im:=y9 (ho:=.dK [(vE u,v2)]) hp2 rfl;have k1:=(r1.mono R1 st2).iI (ρ':=ρ2) #[[],#v[]] im;have k2:=r2.iI (ρ':=ρ2) #[[],#v[]] im;refine#[hp2,[(vE u,v2)],by rw[jX hk r1];rfl,show 1<=15 by decide,?_];show Q (.ref p) (upd H2 p (.dK [(vE u,v2)]));rwa[q _ _ _ _ _ w3 ((((st0.trans st1).trans st2).A9 hp _).VX hp) ((R2.A9 _ hp2 rfl p2).join p2 #[_,b8,rfl,aY.cons (show Rep (X.cc t) ρ2 _ u (kV (vE u)) by rw[<-jX hk r1];erw[k1]) aY.nil,aY.cons k2 aY.nil]) (d8.mpr #[p,rfl,?_])];rw[<-R2.len,ay (ar _),bZ];rfl
end
open PL (U SO bM KU cv)
section
variable{t:xV}{T:Tab}{Γ:cv}{k n:Nat}{I:Inf}{X:Cx}
def RP(h:PE X e (tE (X.cc t) Γ x))(he:∀env whole,isTrue e env whole=(do let v <-whole;standAt e.pos;holding [v] (truthy v))):PT X e (tT (X.cc t) Γ (.dk x)):=by
 refine(HV h (he _)).imp ?_;kd_p;z_go;let#[b,e1,w2]:=PL.iR.mp w1;exact#[b,Nm (X:=X) rfl R1 r1 e1,q _ _ _ _ w2 st1 R1]
def ND(h:PT X e (tT (X.cc t) Γ x)):PT X (.UnaryOp .Not e pos) (tT (X.cc t) Γ (.not x)):=by
 refine(Py h).imp ?_;kd_p;exact#[env,ρ,S,_,he,R,w,λb S1 H1 ρ1 w1 st1 R1=>q _ _ _ _ w1 st1 R1]
def PW.imp{e:Expr}{t t':TT}(h:PW X e t)(q:∀σ H Q,t' σ H Q->t σ H Q):PW X e t':=λwhole pZ s σ H Q I z=>h whole pZ s σ H Q I (q σ H Q z)
def RQ(IH:Gg t T Γ k n)(G:Good t T Γ k I X):∀{vs:List Expr}{x:PL.Tx},Yf T (n+1) I op vs=ξ x->PW X (.BoolOp op vs pos) (tT (X.cc t) Γ x)
 |[],x,h=>by rw[Jf,Jc] at h;cases h
 |[a],x,h=>by
  rw[Jf,Jc] at h;cases op with
  |And=>erw[LV (IH.ft G h)]
  |Or=>erw[Pw (IH.ft G h)]
 |a::b::r,y,h=>by
  rw[Jf,Jc] at h;dsimp[aQ,aA] at h;let#[x,h1,z,h2,h3]:=h;injection h3 with h3;subst h3
  cases op with
  |And=>
   refine(Px (IH.ft G h1) (IH.ftb G h2)).imp ?_;kd_p;refine#[env,ρ,S,_,he,R,w,λb S1 H1 ρ1 w1 st1 R1=>?_];cases b with
   |true=>exact#[env,ρ1,S1,QU,he.later R st1,R1,w1,q.later st1]
   |false=>erw[q _ _ _ _ w1 st1 R1]
  |Or=>
   refine(Ut (IH.ft G h1) (IH.ftb G h2)).imp ?_;kd_p;refine#[env,ρ,S,_,he,R,w,λb S1 H1 ρ1 w1 st1 R1=>?_];cases b with
   |true=>erw[q _ _ _ _ w1 st1 R1]
   |false=>exact#[env,ρ1,S1,QU,he.later R st1,R1,w1,q.later st1]
def Bf(h:cE T n I b=ξ x):behindInMarks op b=ϑ:=by
 cases b<;>first|rfl|skip
 cases n with
 |zero=>erw[nn h]
 |succ n=>erw[nn h]
def Es(h:cI T n I e=ξ x):∀env v,foldedSetIterable e env v=pure v:=by
 intro env v;cases e<;>first|rfl|skip
 cases n with
 |zero=>erw[nn h]
 |succ n=>
  change ((rR T n).e I _).map PL.It.val=ξ x at h
  let#[y,h1,_]:=ak.mp h
  change cE T n I _=ξ y at h1
  cases n with
  |zero=>erw[nn h1]
  |succ n=>erw[nn h1]
def OW(h:cN T n I e=ξ x):∀env v,foldedSetIterable e env v=pure v:=by
 intro env v;cases e<;>first|rfl|skip
 cases n with
 |zero=>erw[nn h]
 |succ n=>erw[nn h]
def JJ(IH:Gg t T Γ k n)(G:Good t T Γ k I X)(h:((rR T n).e I e).map .dk=ξ x)(he:∀env whole,isTrue e env whole=(do let v <-whole;standAt e.pos;holding [v] (truthy v))):PT X e (tT (X.cc t) Γ x):=by
 let#[y,h1,h2]:=ak.mp h;subst h2;erw[RP (IH.fe G h1) he]
def V0(IH:Gg t T Γ k n)(G:Good t T Γ k I X)(h:cT T (n+1) I e=ξ x):PT X e (tT (X.cc t) Γ x):=by
 rw[ZY] at h;cases e with
 |UnaryOp op a pos=>
  cases op with
  |Not=>
   let#[y,h1,h2]:=ak.mp h;subst h2;erw[ND (IH.ft G h1)]
  |_=>erw[JJ IH G h λ_ _=>rfl]
 |BoolOp op vs pos=>exact(IH.ftb G h).pt
 |IfExp=>erw[nn h]
 |Compare a ops bs pos=>
  cases ops with
  |nil=>erw[nn h]
  |cons op ops=>cases ops with
   |cons=>erw[nn h]
   |nil=>cases bs with
    |nil=>erw[nn h]
    |cons b bs=>cases bs with
     |cons=>erw[nn h]
     |nil=>
      let#[o,h1,hb]:=aA.mp h;let#[a,h2,hc]:=aA.mp hb;let#[b,h3,h4]:=aA.mp hc;injection h4 with h4;subst h4
      erw[Np G h1 (Bf h3) (IH.fe G h2) (IH.fe G h3)]
 |_=>erw[JJ IH G h λ_ _=>rfl]
end
open PL (U SO bM KU cv)
section
variable{t:xV}{T:Tab}{Γ:cv}{k n:Nat}{I:Inf}{X:Cx}
def zd:∀{n:Nat},(rR T n).es I []=ξ y->y=.nil
 |0,h=>by cases h
 |_+1,h=>(aK h).symm
def jI{x y:Str}(h:(x !=y)=ζ):(x==y)=ϑ:=by simpa using h
def Bg(IH:Gg t T Γ k n)(G:Good t T Γ k I X){tg iter:Expr}{xs:List Str}{it:PL.It}(ht:MZ tg=ξ xs)(h:(∃y,xs=[y])/\cI T n I iter=ξ it\/(¬ ∃y,xs=[y])/\cN T n I iter=ξ it):
  (∀env v,foldedSetIterable iter env v=pure v)/\PI X tg iter (z8 (X.cc t) Γ it):=by
 rcases C1 ht with⟨x,p,rfl,rfl⟩|⟨x,y,p,p',kd,q,rfl,rfl⟩<;>rcases h with⟨z,h1⟩|⟨z,h1⟩
 .exact#[Es h1,IH.fi G h1]
 .erw[absurd #[_,rfl] z]
 .let#[y,e]:=z;simp at e
 .exact#[OW h1,IH.fn G h1]
def Et(IH:Gg t T Γ k n)(G':Good t T Γ k J X')(ec:X'.cc t=X.cc t)(h:ZZ T n J ifs=ξ c):Mz X' ifs (tT (X.cc t) Γ c):=by
 unfold ZZ at h;split at h
 .injection h with h;subst h
  intro pZ s σ H Q J z;refine MA (X:=X') pZ s σ H Q J ?_;let#[env,ρ,S,QU,he,R,w,q]:=z;have w2:QU ζ S:=by
   have:PL.opt (PL.vw S (.bl ζ)) (λb=>QU b S):=w;erw[this]
  erw[q ζ S H ρ w2 .refl R]
 .have:=IH.ft G' h
  rw[ec] at this;erw[MB this]
 .erw[nn h]
def RS{args:List Expr}{o:Expr}(h:(match args with|[a]=>QX a|_=>ψ)=ξ o):∃p c,args=[.Call (.Name ("reversed":Str) p) [o] [] c]:=by
 split at h
 .unfold QX at h
  split at h
  .split at h
   .rename_i hc
    have e:=eq_of_beq hc;subst e;injection h with h;subst h
    exact#[_,_,rfl]
   .erw[nn h]
  .erw[nn h]
 .erw[nn h]
def NF(h:(match args with|[a]=>QW a|_=>ψ)=ξ o):∃ap cp,(ap.endLine==cp.line)=ζ/\args=[.Call (.Attribute o ("values":Str) ap) [] [] cp]:=by
 split at h
 .rename_i a
  unfold QW at h;split at h
  .split at h
   .rename_i o' m ap cp hc
    rw[aj] at hc;have e:=eq_of_beq hc.1;subst e;injection h with h;subst h
    exact#[ap,cp,hc.2,rfl]
   .erw[nn h]
  .erw[nn h]
 .erw[nn h]
def V1(IH:Gg t T Γ k n)(G:Good t T Γ k I X){e:Expr}{x:PL.Ex}(h:cE T (n+1) I e=ξ x):PE X e (tE (X.cc t) Γ x):=by
 have ge:∀{e:Expr}{y:PL.Ex},cE T n I e=ξ y->PE X e (tE (X.cc t) Γ y):=λh=>IH.fe G h
 have gA:∀{es:List Expr}{y:PL.z7},Ub T n I es=ξ y->PA X es (Hn (X.cc t) Γ y):=λh=>IH.VN G h
 have h0:=h;rw[M0] at h;cases e with(delta Ua at h;try dsimp only at h)
 |Name x' pos=>
  split at h
  .rename_i i hi
   split at h
   .rename_i hc
    dsimp[aj] at hc;injection h with h;subst h
    erw[Nn G hi hc.1.1 (jI hc.1.2) (jI hc.2)]
   .erw[nn h]
  .split at h
   .rename_i hc
    rw[aj] at hc;let#[p,h1,h2]:=ak.mp h;subst h2;erw[Jz G hc.1 h1 (jI hc.2)]
   .erw[nn h]
 |Constant c kd pos=>
  let#[u,h1,h2]:=ak.mp h;subst h2;cases c with
  |none=>cases h1;erw[rY (v:=.cf) (Pt) λ_ _=>fh.mpr rfl]
  |bool b=>cases h1;erw[rY (v:=.bl _) (Us) λ_ _=>eP.mpr rfl]
  |int i=>cases h1;erw[rY (v:=.int _) (Pr) λ_ _=>aT.mpr rfl]
  |str x=>cases h1;erw[rY (v:=.str _) (Pu) λ_ _=>bF.mpr (by rw[<-Vg])]
  |_=>erw[nn h1]
 |BinOp a op b pos=>
  dsimp[aQ,aA] at h;let#[o,h1,a,h2,b,h3,h4]:=h;injection h4 with h4;subst h4
  erw[Ro G h1 (ge h2) (ge h3)]
 |UnaryOp op a pos=>
  cases op with
  |Not=>let#[y,h1,h2]:=ak.mp h;subst h2;erw[Rv (ge h1)]
  |USub=>let#[y,h1,h2]:=ak.mp h;subst h2;erw[Ru (ge h1)]
  |_=>erw[nn h]
 |BoolOp op vs pos=>erw[IH.Z9 G h]
 |Compare a ops bs pos=>
  split at h
  .split at h
   .dsimp[aQ,aA] at h
    let#[o,h1,a,h2,b,h3,h4]:=h;injection h4 with h4;subst h4
    erw[Rr G h1 (Bf h3) (ge h2) (ge h3)]
   .erw[nn h]
  .erw[nn h]
 |IfExp c a b pos=>
  dsimp[aQ,aA] at h;let#[o,h1,a,h2,b,h3,h4]:=h;injection h4 with h4;subst h4
  erw[VO (IH.ft G h1) (ge h2) (ge h3)]
 |Call fn args kws cp=>
  cases fn with
  |Name f p=>
   cases kws with
   |nil=>
    dsimp only at h;split at h
    .rename_i hc
     rw[aj] at hc;let#[hg,hd]:=hc;split at h
     .rename_i hf
      rw[aj] at hf;have ef:f=("isinstance":Str):=eq_of_beq hf.1;subst ef;have hb:"isinstance"∈T.gG:=by simpa using hf.2
      split at h
      .split at h
       .erw[nn h]
       .rename_i hs
        split at h
        .rename_i h3
         let#[y,h1,h4]:=ak.mp h;subst h4;exact RH G hg hb (~~~hs) h3 (ge h1)
        .erw[nn h]
      .erw[nn h]
     .split at h
      .rename_i o' ho'
       split at h
       .rename_i hc
        dsimp[aj] at hc;let#[#[#[#[#[hf,hm],hm2],hg2],hcm],hs]:=hc;have hf:=eq_of_beq hf;subst hf;let#[y,h1,h2]:=ak.mp h;subst h2;let#[p,c2,rfl]:=RS ho';exact Nx G hg (~~~hm) hg2 (~~~hm2) (G.calm hcm).1 hs (ge h1)
       .erw[nn h]
      split at h
      .rename_i b hb
       split at h
       .rename_i o' ho'
        split at h
        .rename_i hc
         dsimp[aj] at hc;let#[#[#[hf,hm],hcm],h0']:=hc;have hf:=eq_of_beq hf;subst hf;let#[y,h1,h2]:=ak.mp h;subst h2;let#[ap,c2,hl,rfl]:=NF ho';exact Nu G hg (~~~hm) (G.calm hcm).1 h0' hl (ge h1)
        .erw[nn h]
       .split at h
        .rename_i hs
         dsimp[aj,xa] at hs;let#[#[#[s,hp],hs],hcm]:=hs;let#[y,h1,h2]:=ak.mp h;subst h2;cases args with
         |nil=>simp at hs
         |cons a as=>
          have st:=nG h1;rw[bG,aj] at st;erw[RB G hg hb hp (G.calm hcm).1 (G.calm hcm).2.hd st.1 st.2 (gA h1)]
        .erw[nn h]
      .split at h
       .erw[nn h]
       .rename_i hcm
        have hcm:I.calm=ζ:=by simpa using hcm
        split at h
        .rename_i q hq
         let#[hm,rfl]:=mP hq;let#[y,h1,h2]:=ak.mp h;subst h2;cases args with
         |nil=>
          cases zd h1;erw[JD G hg hcm hm (jI hd)]
         |cons a as=>
          have st:=nG h1;rw[bG,aj] at st;erw[Nv G hg hcm hm (jI hd) st.1 st.2 (IH.VN G h1)]
        .split at h
         .rename_i q hq
          let#[hm,rfl]:=mP hq;let#[y,h1,h2]:=ak.mp h;subst h2;cases args with
          |nil=>
           cases zd h1;erw[RF G hg hcm hm (jI hd)]
          |cons a as=>
           have st:=nG h1;rw[bG,aj] at st;erw[VT G hg hcm hm (jI hd) st.1 st.2 (IH.VN G h1)]
         .erw[nn h]
    .erw[nn h]
   |cons kw ks=>
    dsimp only at h;split at h
    .split at h
     .rename_i hc
      dsimp[aj] at hc;let#[#[#[#[#[#[#[q0,q1],q2],q4],q6],q7],q8],q9]:=hc;have q1:=eq_of_beq q1;subst q1;have q0:ks=[]:=by simpa using q0
      subst q0;let#[y,h1,h2]:=ak.mp h;subst h2;let#[ka,kv,kp]:=kw;unfold I9 at q2;rw[aj] at q2;have e1:=eq_of_beq q2.1;subst e1;have q3:=q2.2;cases kv with
      |Name l lp=>
       have q3:(l==("len":Str)&&I.gl l)=ζ:=q3;rw[aj] at q3;have e2:=eq_of_beq q3.1;subst e2;exact Gh G q4 q3.2 (~~~q6) (~~~q7) (G.calm q8).1 q9 (ge h1)
      |_=>cases q3
     .erw[nn h]
    .erw[nn h]
  |Attribute o m ap=>
   dsimp only at h;split at h
   .erw[nn h]
   .rename_i hc
    dsimp[gZ,HE,aj] at hc;let#[#[#[#[hk,hc0],hl],hn],hcm]:=hc;have hk:kws=[]:=by simpa using hk
    subst hk;have hn:=of_decide_eq_true hn;split at h
    .rename_i q kk hq
     let#[hm,hq2]:=xW hq;dsimp only at hq2;subst hq2;dsimp[aQ,aA] at h;let#[y,h1,as,h2,h3]:=h;injection h3 with h3;subst h3
     cases args with
     |nil=>
      cases zd h2;erw[JE G hcm hm hc0 hl (IH.fe G h1)]
     |cons a as'=>
      have st:=nG h2;rw[bG,aj] at st;erw[Nw G hcm hm hc0 hl hn st.1 st.2 (IH.fe G h1) (IH.VN G h2)]
    .split at h
     .split at h
      .rename_i em
       let#[y,h1,h2]:=ak.mp h;subst h2;have em:=eq_of_beq em;subst em;erw[Nq G hc0 hl (ge h1)]
      .erw[nn h]
     .rename_i a as
      split at h
      .rename_i em
       have em:=eq_of_beq em;subst em;split at h
       .rename_i d
        split at h
        .rename_i st
         rw[aj] at st;dsimp[aQ,aA] at h;let#[y,h1,z,h2,w,h3,h4]:=h;injection h4 with h4;subst h4
         erw[RD G hc0 hl st.1 st.2 (ge h1) (ge h2) (ge h3)]
        .erw[nn h]
       .split at h
        .rename_i st
         dsimp[aQ,aA] at h;let#[y,h1,z,h2,h4]:=h;injection h4 with h4;subst h4
         erw[Nr G hc0 hl st (ge h1) (ge h2)]
        .erw[nn h]
       .erw[nn h]
      .split at h
       .rename_i b hb
        dsimp[aQ,aA] at h;let#[y,h1,as',h2,h3]:=h;injection h3 with h3;subst h3
        have st:=nG h2;rw[bG,aj] at st;erw[RC G hb (G.calm hcm).2.hd hc0 hl hn st.1 st.2 (ge h1) (gA h2)]
       .erw[nn h]
  |_=>erw[nn h]
 |Attribute o f pos=>
  split at h
  .erw[nn h]
  .rename_i hc0
   dsimp[aQ,aA] at h;let#[q,h1,y,h2,h3]:=h;injection h3 with h3;subst h3
   let#[hm,rfl]:=mP h1;exact RA G hm (~~~hc0) (ge h2)
 |Subscript o i pos=>
  split at h
  .rename_i hs
   dsimp[aQ,aA] at h;let#[y,h1,a,h2,h3]:=h;injection h3 with h3;subst h3
   split
   .erw[RE G hs (ge h1) (ge h2)]
   .erw[VP hs (ge h1) (ge h2)]
  .split at h
   .split at h
    .dsimp[aQ,aA] at h
     let#[y,h1,a,h2,b,h3,h4]:=h;injection h4 with h4;subst h4
     erw[VR (ge h1) (IH.fo G h2) (IH.fo G h3)]
    .erw[nn h]
   .erw[nn h]
 |Dict ks vs pos=>
  split at h
  .split at h
   .injection h with h;subst h;erw[Nt]
   .erw[nn h]
  .split at h
   .dsimp[aQ,aA] at h
    let#[y,h1,z,h2,h4]:=h;injection h4 with h4;subst h4
    erw[NC (ge h1) (ge h2)]
   .erw[nn h]
  .erw[nn h]
 |List es pos=>
  let#[y,h1,h2]:=ak.mp h;subst h2;erw[Rz (gA h1)]
 |Tuple es kd pos=>
  let#[y,h1,h2]:=ak.mp h;subst h2;erw[Ry (gA h1)]
 |ListComp elt gs sc pos=>
  let#[tg,iter,ifs,xs,it,c,ee,ci,rfl,ht,hc,h1,h2,h3,h4,h5]:=vC h0;subst h5;have hi:=Bg IH G ht h1;rwa[NB G hc.2 ht hc.1 h4 hi.1 hi.2 (λX' G' ec=>?_) (λX' G' ec=>?_)]
  .erw[Et IH G' ec h2]
  .have:=IH.fe G' h3
   rw[ec] at this;erw[this]
 |_=>erw[nn h]
def JK:Gg t T Γ k 0:=by
 constructor
 .intro I X e x _ h;rw[VG] at h;erw[nn h]
 .intro I X e x _ h;rw[OU] at h;erw[nn h]
 .intro I X op vs x pos _ h;rw[VH] at h;erw[nn h]
 .intro I X e x _ h;rw[ZS] at h;erw[nn h]
 .intro I X e x tg _ h;rw[ZT] at h;erw[nn h]
 .intro I X e x es ek tp _ h;rw[ZV] at h;erw[nn h]
 .intro I X e x _ h;rw[ZX] at h;erw[nn h]
 .intro I X op vs x pos _ h;rw[VJ] at h;erw[nn h]
def ze:∀n,Gg t T Γ k n
 |0=>JK
 |n+1=>
  have IH:=ze n
  #[λG h=>V1 IH G h,λG h=>Rt IH G h,λG h=>Rx IH G h,λG h=>VQ IH G h,λG h=>VW IH G h,λG h=>aae IH G h,λG h=>V0 IH G h,λG h=>RQ IH G h]
end
open PL (U SO bM KU cv)
def PS.imp{X:Cx}{st:Stmt}{t t':TS}(h:PS X st t)(q:∀D σ H,t' D σ H->t D σ H):PS X st t':=λpZ s σ H D I z=>h pZ s σ H D I (q D σ H z)
def uz.imp{X:Cx}{st:List Stmt}{t t':TS}(h:uz X st t)(q:∀D σ H,t' D σ H->t D σ H):uz X st t':=λpZ s σ H D I z=>h pZ s σ H D I (q D σ H z)
def Good.ps(G:Good t T Γ k I X):PassesOwn (bf X.prog X.w) X.A X.env X.xe:=%[G.xe|PassesOwn.never]
structure DR(c:Ctx)(ρ:List Addr)(H:Hp)(DU:PL.Ends)(D:Ends):Prop where
 nx:∀env' S' σ' H' ρ',DU.nx env' S'->iM ρ H ρ' H'->cF c ρ' H' S'->kz c ρ' H' env' σ'->D.nx σ' H'
 rt:QV c ρ H DU.rt D.rt
abbrev tS(c:Ctx)(Γ:cv)(x:PL.Sm):TS:=λD σ H=>∃env ρ S DU,kz c ρ H env σ/\cF c ρ H S/\PL.WS Γ x DU env S/\DR c ρ H DU D
abbrev LC(c:Ctx)(Γ:cv)(x:PL.dG):TS:=λD σ H=>∃env ρ S DU,kz c ρ H env σ/\cF c ρ H S/\PL.um Γ x DU env S/\DR c ρ H DU D
section
variable{c:Ctx}{ρ ρ':List Addr}{H H':Hp}{S:bM}{DU:PL.Ends}{D:Ends}
def DR.later(q:DR c ρ H DU D)(a:iM ρ H ρ' H'):DR c ρ' H' DU D:=
 #[λenv' S' σ' H2 ρ2 h b R e=>q.nx env' S' σ' H2 ρ2 h (a.trans b) R e,q.rt.later a]
def kz.set(he:kz c ρ H env σ)(r:Rep c ρ H u v)(i:Nat):kz c ρ H (env.set i (ξ u)) (σ.set i (ξ v)):=by
 refine#[by simp[he.len],λj w e=>?_];by_cases z:j=i
 .subst z
  have hj:j<env.length:=by
   have:=(ag.mp e).1;simpa using this
  rw[bA hj] at e;injection e with e;injection e with e;subst e
  exact#[v,by rw[bA (by rw[<-he.len];erw[hj])],r]
 .rw[ao (cM z)] at e ⊢
  erw[he.at_ j w e]
end
open PL (U SO bM KU cv)
structure i9(t:xV)(T:Tab)(Γ:cv)(k:Nat)(I:Inf)(X:Cx):Prop where
 g:Good t T Γ k I X
 st:∀x,X.fn x=ζ
section
variable{t:xV}{T:Tab}{Γ:cv}{k n:Nat}{I:Inf}{X:Cx}
def tu(h:vD (names.lookup x)=ζ)(e:sc.names=names):Loc sc x:=by
 rw[<-e] at h;unfold Loc;cases q:sc.names.lookup x with
 |none=>rw[q] at h;cases h
 |some kd=>rw[q] at h;cases kd<;>first|exact ff h|simp
def C9(z:tS (X.cc t) Γ (.set i x) D σ H):tE (X.cc t) Γ x σ H λv H1=>D.nx (σ.set i (ξ v)) H1:=by
 let#[env,ρ,S,DU,he,R,w,q]:=z;z_go;erw[q.nx _ _ _ _ _ w1 st1 R1 ((he.later R st1).set r1 i)]
def RT(G:i9 t T Γ k I X)(h:eO x I.N=ξ i)(hl:vD (I.names.lookup x)=ζ)(hs:∀env,fO e (ξ (.Name x p)) pos.line env=pure ϑ)
  (hy:PE X e (tE (X.cc t) Γ y)):PS X (.Assign [.Name x p] e pos) (tS (X.cc t) Γ (.set i y)):=by
 refine(HR (X:=X) (i:=i) G.g.nd (by show X.N[i]?=ξ x;rw[G.g.slots];erw[fA h]) (tu hl G.g.names) hy (hs _) (.inl (G.st x))).imp ?_;intro D σ H z;erw[C9 z]
def NG(G:i9 t T Γ k I X)(hf:f∈T.yZ)(hx:PE X o (tE (X.cc t) Γ x))(hy:PE X e (tE (X.cc t) Γ y)):PS X (.Assign [.Attribute o (nm f) p] e pos) (tS (X.cc t) Γ (.ni x f y)):=by
 have hs:∀env,fO e (ξ (.Attribute o (nm f) p)) pos.line env=pure ϑ:=λenv=>by cases e<;>rfl
 refine(Qa (X:=X) hx hy (hs _)).imp ?_;rintro D σ H ⟨env,ρ,S,DU,he,R,w,q⟩;z_go;refine#[env,ρ1,S1,_,he.later R st1,R1,w1,λu2 S2 v2 H2 ρ2 w2 st2 R2 r2=>?_];let#[l,e1,w3]:=PL.iy.mp w2;subst e1;let#[c',fs,e2,hlen,w4]:=PL.mM.mp w3;let#[a,C,dx,vs,ev,ha,hC,hH,hn,hr]:=R2.ins e2 r2;let#[cl,na]:=G.g.tab.cls c' C hC;have hlv:vs.length=fs.length:=by have:=congrArg cw hn;simpa using this
 refine#[a,C,dx,vs,ev,hH,cl,na f hf,∅,?_];have st3:=iM.put (H:=H2) (ai ha) hH rfl (.ins C dx (ko (nm f) v vs));have uJ:∀{fs:List (String×U)}{vs:List (Str×V)},vs.map (·.1)=(fs.map (·.1)).map nm->aY (X.cc t) ρ2 H2 (fs.map (·.2)) (vs.map (·.2)) ->
   (ko (nm f) v vs).map (·.1)=((PL.iz f u fs).map (·.1)).map nm/\aY (X.cc t) ρ2 H2 ((PL.iz f u fs).map (·.2)) ((ko (nm f) v vs).map (·.2)):=by
  intro fs;induction fs with
  |nil=>
   intro vs hn hr;cases vs with
   |nil=>exact#[rfl,aY.cons (r1.mono R1 st2) aY.nil]
   |cons a b=>simp at hn
  |cons p fs ih=>
   intro vs hn hr;let#[g,w']:=p;cases vs with
   |nil=>simp at hn
   |cons b vs=>
    let#[b1,b2]:=b;dsimp[aw,dy] at hn;rw[aw,aw] at hr;unfold aY at hr;let#[v',r',e',k1,k2]:=hr;injection e' with e1' e2'
    subst e1';subst e2';unfold ko PL.iz;by_cases z:g=f
    .have z2:b1=nm f:=by rw[hn.1,z]
     rw[if_pos z2,if_pos z]
     exact#[by simp[hn.1,hn.2],aY.cons (r1.mono R1 st2) k2]
    .have z2:¬b1=nm f:=λq=>z (vI _ _ (hn.1.symm.trans q))
     rw[if_neg z2,if_neg z]
     let#[m1,m2]:=ih hn.2 k2;exact#[by dsimp[aw,dy];exact#[hn.1,m1],aY.cons k1 m2]
 let#[m1,m2]:=uJ hn hr;rwa[q.nx _ _ _ _ _ w4 ((st1.trans st2).trans st3) (R2.put ha hH rfl #[C,dx,_,hC,b8,m1,m2.mono R2 st3]) ((he.later R (st1.trans st2)).later R2 st3)]
def NH(G:i9 t T Γ k I X)(hx:PE X o (tE (X.cc t) Γ x))(hi:PE X i (tE (X.cc t) Γ z))(hy:PE X e (tE (X.cc t) Γ y)):PS X (.Assign [.Subscript o i p] e pos) (tS (X.cc t) Γ (.og x z y)):=by
 have hs:∀env,fO e (ξ (.Subscript o i p)) pos.line env=pure ϑ:=λenv=>by cases e<;>rfl
 refine(Mt (X:=X) (by have:=G.g.units;omega) hx hi hy (hs _)).imp ?_;rintro D σ H ⟨env,ρ,S,DU,he,R,w,q⟩;refine#[env,ρ,S,_,he,R,w,λu S1 v H1 ρ1 w1 st1 R1 r1=>?_];refine#[env,ρ1,S1,_,he.later R st1,R1,w1,λu2 S2 v2 H2 ρ2 w2 st2 R2 r2=>?_];refine#[env,ρ2,S2,_,(he.later R st1).later R1 st2,R2,w2,λu3 S3 v3 H3 ρ3 w3 st3 R3 r3=>?_];let#[n,e1,w3]:=PL.iy.mp w3;subst e1;let#[kvs,e2,#[hk,hn,hl],w4]:=PL.AV.mp w3;let#[a,ev,ha]:=d8.mp (r2.mono R2 st3);let#[vs,g1,g2,g3,g4]:=R3.at_ n a _ ha e2;have l2:gO vs (vE u3)=ψ:=by
  rcases rW hk g2 g3 g4 with⟨_,l2⟩|⟨_,_,l1,_⟩
  .erw[l2]
  .rw[hn] at l1;cases l1
 have r1':=r1.mono R1 (st2.trans st3);have st4:=iM.put (H:=H3) (ai ha) g1 rfl (.dK (vs++[(vE u3,v)]));refine#[a,upd H3 a (.dK (vs++[(vE u3,v)])),ev,.inl #[vs,vE u3,g1,jX hk r3,%[g2|au hl ⋯],by rw[AH v l2]],?_];rwa[q.nx _ _ _ _ _ w4 (((st1.trans st2).trans st3).trans st4) (R3.put ha g1 rfl #[_,b8,by simp[g2],?_,?_]) ((he.later R ((st1.trans st2).trans st3)).later R3 st4)]
 .rw[aI,aI]
  exact(g3.mono R3 st4).app (aY.cons (show Rep (X.cc t) ρ3 _ u3 (kV (vE u3)) by rw[<-jX hk r3];erw[r3.mono R3 st4]) aY.nil)
 .rw[aI,aI]
  exact(g4.mono R3 st4).app (aY.cons (r1'.mono R3 st4) aY.nil)
def V2(G:i9 t T Γ k I X)(hc:y6 e=ζ)(hy:PE X e (tE (X.cc t) Γ y)):PS X (.Expr e pos) (tS (X.cc t) Γ (.ex y)):=by
 refine(LX (X:=X) hy (Bd hc)).imp ?_;rintro D σ H ⟨env,ρ,S,DU,he,R,w,q⟩;z_go;erw[q.nx _ _ _ _ _ w1 st1 R1 (he.later R st1)]
def RV(G:i9 t T Γ k I X)(hy:PE X e (tE (X.cc t) Γ y)):PS X (.Return (ξ e) pos) (tS (X.cc t) Γ (.ret y)):=by
 refine(PD (X:=X) hy).imp ?_;rintro D σ H ⟨env,ρ,S,DU,he,R,w,q⟩;exact#[env,ρ,S,_,he,R,w,q.rt]
def RW(G:i9 t T Γ k I X)(hx:PT X c (tT (X.cc t) Γ x))(hy:uz X a (LC (X.cc t) Γ y))(hz:uz X b (LC (X.cc t) Γ z)):PS X (.If c a b pos) (tS (X.cc t) Γ (.ifs x y z)):=by
 refine(UA (X:=X) hx (hy) (hz)).imp ?_;rintro D σ H ⟨env,ρ,S,DU,he,R,w,q⟩;refine#[env,ρ,S,_,he,R,w,λb S1 H1 ρ1 w1 st1 R1=>?_];cases b with
 |true=>exact#[env,ρ1,S1,DU,he.later R st1,R1,w1,q.later st1]
 |false=>exact#[env,ρ1,S1,DU,he.later R st1,R1,w1,q.later st1]
def Dc(hp:C2 op=ξ p):op=M4 p/\(p=.add\/p=.sub\/p=.bor):=by cases op<;>first|exact nn hp| (cases hp;exact#[rfl,#v[]])
def RX(G:i9 t T Γ k I X)(h:eO x I.N=ξ i)(hl:vD (I.names.lookup x)=ζ)(hp:C2 op=ξ p)(hy:PE X e (tE (X.cc t) Γ y)):PS X (.AugAssign (.Name x px) op e pos) (tS (X.cc t) Γ (.aug i p y)):=by
 have eo:=Dc hp;rw[eo.1]
 refine(PJ (X:=X) (i:=i) G.g.nd (by show X.N[i]?=ξ x;rw[G.g.slots];erw[fA h]) (tu hl G.g.names) hy (zc (X:=X) (c:=X.cc t) eo.2) (.inl (G.st x))).imp ?_;rintro D σ H ⟨env,ρ,S,DU,he,R,w,q⟩;let#[u0,e0,w0]:=PL.AU.mp (show PL.yQ _ _ from w);let#[v0,e1,r0]:=he.at_ i u0 e0;refine#[v0,e1,env,ρ,S,_,he,R,w0,λu S1 v H1 ρ1 w1 st1 R1 r1=>?_];refine#[u0,u,ρ1,S1,_,r0.mono R st1,r1,R1,w1,λu2 S2 v2 H2 ρ2 w2 st2 R2 r2=>?_];erw[q.nx _ _ _ _ _ w2 (st1.trans st2) R2 ((he.later R (st1.trans st2)).set r2 i)]
end
open PL (U SO bM KU cv)
section
variable{t:xV}{T:Tab}{Γ:cv}{k n:Nat}{I:Inf}{X:Cx}
def uJ(ru:Rep c ρ H u v):∀{fs:List (String×U)}{vs:List (Str×V)},vs.map (·.1)=(fs.map (·.1)).map nm->aY c ρ H (fs.map (·.2)) (vs.map (·.2)) ->
   (ko (nm f) v vs).map (·.1)=((PL.iz f u fs).map (·.1)).map nm/\aY c ρ H ((PL.iz f u fs).map (·.2)) ((ko (nm f) v vs).map (·.2))
 |[],[],_,_=>#[rfl,aY.cons ru aY.nil]
 |[],_::_,hn,_=>by simp at hn
 |_::_,[],hn,_=>by simp at hn
 | (g,w')::fs,(b1,b2)::vs,hn,hr=>by
  dsimp[aw,dy] at hn;rw[aw,aw] at hr;unfold aY at hr;let#[v',r',e',k1,k2]:=hr;injection e' with e1' e2'
  subst e1';subst e2';unfold ko PL.iz;by_cases z:g=f
  .have z2:b1=nm f:=by rw[hn.1,z]
   rw[if_pos z2,if_pos z]
   exact#[by simp[hn.1,hn.2],aY.cons ru k2]
  .have z2:¬b1=nm f:=λq=>z (vI _ _ (hn.1.symm.trans q))
   rw[if_neg z2,if_neg z]
   let#[m1,m2]:=uJ ru hn.2 k2;exact#[by dsimp[aw,dy];exact#[hn.1,m1],aY.cons k1 m2]
def NI(G:i9 t T Γ k I X)(hf:f∈T.yZ)(hp:C2 op=ξ p)(hx:PE X o (tE (X.cc t) Γ x))(hy:PE X e (tE (X.cc t) Γ y)):PS X (.AugAssign (.Attribute o (nm f) tp) op e pos) (tS (X.cc t) Γ (.CN x f p y)):=by
 have eo:=Dc hp;rw[eo.1]
 refine(FA (X:=X) hx hy (rd:=Gb (X.cc t) p) (zc (X:=X) (c:=X.cc t) eo.2)).imp ?_;rintro D σ H ⟨env,ρ,S,DU,he,R,w,q⟩;z_go;let#[l,e1,w2]:=PL.iy.mp w1;subst e1;let#[c',fs,e2,w3]:=PL.mM.mp w2;let#[u0,e3,w4]:=PL.iR.mp w3;let#[a,C,dx,vs,ev,ha,hC,hH,hn,hr]:=R1.ins e2 r1;let#[cl,na]:=G.g.tab.cls c' C hC;let#[v0,l0,r0]:=qJ hn hr e3 vI;refine#[a,C,dx,vs,v0,ev,hH,cl,na f hf,l0,?_];refine#[env,ρ1,S1,_,he.later R st1,R1,w4,λu2 S2 v2 H2 ρ2 w5 st2 R2 r2=>?_];refine#[u0,u2,ρ2,S2,_,r0.mono R1 st2,r2,R2,w5,λu3 S3 v3 H3 ρ3 w6 st3 R3 r3=>?_];let#[c'',fs',e4,#[e5,hlen,w7]]:=PL.mM.mp w6;subst e5;have ha3:=(st2.trans st3).get ha;let#[C',dx',vs',hC',hH',hn',hr']:=R3.at_ l a _ ha3 e4;rw[hC] at hC';injection hC' with hC';subst hC'
 have hlv:vs'.length=fs'.length:=by have:=congrArg cw hn';simpa using this
 refine#[dx',vs',hH',∅,?_];have st4:=iM.put (H:=H3) (ai ha3) hH' rfl (.ins C dx' (ko (nm f) v3 vs'));let#[m1,m2]:=uJ r3 hn' hr';rwa[q.nx _ _ _ _ _ w7 (((st1.trans st2).trans st3).trans st4) (R3.put ha3 hH' rfl #[C,dx',_,hC,b8,m1,m2.mono R3 st4]) ((he.later R ((st1.trans st2).trans st3)).later R3 st4)]
abbrev V3(K:Frag):V->V->Hp->VK->Prop:=λo i H Q=>∃p xs k v,o=.ref p/\i=.int k/\H p=ξ (.lst xs)/\0<=k/\xs[k.toNat]?=ξ v/\Q v H
def Gj:UG X (V3 X.K):=by
 intro pZ s σ H o i ov iv Q I ro ri h;let#[p,xs,k,v,rfl,rfl,hp,h0,hk,q]:=h;cases ro;let#[t,rfl]:=ri;let#[its,r,pl,hz]:=I.list (.inl (.inl hp));let#[w,ew,rw']:=r.get hk;have hn:=oS;have hl:=(ag.mp hk).1;erw[getItem_listL pl.isList h0 ∅ ew #[v,H,I,rw',q]]
def V4(r:aY c ρ H us vs)(ru:Rep c ρ H u v):∀(j:Nat),aY c ρ H (us.set j u) (vs.set j v):=by
 intro j;induction us generalizing vs j with
 |nil=>cases vs with
  |nil=>erw[r]
  |cons a b=>erw[absurd r.len (#v[])]
 |cons x us ih=>cases vs with
  |nil=>erw[absurd r.len (#v[])]
  |cons a b=>
   unfold aY at r;let#[v',r',e',k1,k2]:=r;injection e' with e1 e2
   subst e1;subst e2;cases j with
   |zero=>erw[aY.cons ru k2]
   |succ j=>erw[aY.cons k1 (ih k2 j)]
def NJ(G:i9 t T Γ k I X)(hn:kU i=ζ)(hp:C2 op=ξ p)(hx:PE X o (tE (X.cc t) Γ x))(hi:PE X i (tE (X.cc t) Γ y))(hy:PE X e (tE (X.cc t) Γ z)):PS X (.AugAssign (.Subscript o i tp) op e pos) (tS (X.cc t) Γ (.FQ x y p z)):=by
 have eo:=Dc hp;rw[eo.1]
 refine(LY (X:=X) hx hi Gj hy (tip:=Gb (X.cc t) p) (zc (X:=X) (c:=X.cc t) eo.2) set_list (λov iv new=>by cases i<;>first|rfl|simp[kU] at hn)).imp ?_;rintro D σ H ⟨env,ρ,S,DU,he,R,w,q⟩;refine#[env,ρ,S,_,he,R,w,λu S1 v H1 ρ1 w1 st1 R1 r1=>?_];refine#[env,ρ1,S1,_,he.later R st1,R1,w1,λu2 S2 v2 H2 ρ2 w2 st2 R2 r2=>?_];obtain⟨l,e1,w3⟩:=PL.iy.mp w2;subst e1;obtain⟨j,e2,w4⟩:=PL.fX.mp w3;subst e2;obtain⟨us,e3,h0,w5⟩:=PL.cU.mp w4;obtain⟨u0,e4,w6⟩:=PL.iR.mp w5;obtain⟨a,vs,ev,ha,hH,hr⟩:=R2.lst e3 (r1.mono R1 st2);subst ev;obtain⟨v0,l0,r0⟩:=hr.get e4;refine#[a,vs,j,v0,rfl,aT.mp r2,hH,h0,l0,?_];refine#[env,ρ2,S2,_,(he.later R st1).later R1 st2,R2,w6,λu3 S3 v3 H3 ρ3 w7 st3 R3 r3=>?_];refine#[u0,u3,ρ3,S3,_,r0.mono R2 st3,r3,R3,w7,λu4 S4 v4 H4 ρ4 w8 st4 R4 r4=>?_];obtain⟨us',e5,hj,w9⟩:=PL.cU.mp w8;have ha4:=(st3.trans st4).get ha;obtain⟨vs',hH',hr'⟩:=R4.at_ l a _ ha4 e5;refine#[a,vs',j,j.toNat,rfl,aT.mp r2,hH',?_,?_]
 .unfold Qe
  rw[if_pos h0,if_pos (by have:=hr'.len;omega)]
 have st5:=iM.put (H:=H4) (ai ha4) hH' rfl (.lst (vs'.set j.toNat v4));rwa[q.nx _ _ _ _ _ w9 ((((st1.trans st2).trans st3).trans st4).trans st5) (R4.put ha4 hH' rfl #[_,b8,(V4 hr' r4 j.toNat).mono R4 st5]) ((he.later R (((st1.trans st2).trans st3).trans st4)).later R4 st5)]
abbrev V5(to ti te:TE)(tset:HP):TS:=λD σ H=>te σ H λv H1=>to σ H1 λo H2=>ti σ H2 λi H3=>tset o i v H3 λH4=>D.nx σ H4
def NK{o i e:Expr}{to ti te:TE}{tset:HP}{p pos:Pos}(ho:PE X o to)(hi:PE X i ti)(he:PE X e te)(hs:PH X tset)(hw:fO e (ξ (.Subscript o i p)) pos.line X.env=pure ϑ):PS X (.Assign [.Subscript o i p] e pos) (V5 to ti te tset):=by
 intro pZ s σ H D I h;rwa[Hy (eG (he pZ s σ H _ I h) λr s1 h9=>?_) hw];let#[v,H1,I1,rv,q1]:=h9;rwa[eG (ho pZ s1 σ H1 _ I1 q1) λu s2 h9=>?_]
 let#[x,H2,I2,rx,q2]:=h9;rwa[eG (hi pZ s2 σ H2 _ I2 q2) λiv s3 h9=>?_]
 let#[y,H3,I3,ry,q3]:=h9;rwa[eG (hs pZ s3 σ H3 _ _ _ _ _ _ _ I3 rx ry rv q3) λ_ s4 h9=>?_]
 let#[H4,I4,q4]:=h9;exact#[σ,H4,I4,q4]
def NL{o i e:Expr}{x y z:PL.Ex}{p pos:Pos}(G:i9 t T Γ k I X)(hx:PE X o (tE (X.cc t) Γ x))(hi:PE X i (tE (X.cc t) Γ z))(hy:PE X e (tE (X.cc t) Γ y)):PS X (.Assign [.Subscript o i p] e pos) (tS (X.cc t) Γ (.ID x z y)):=by
 have hs:∀env,fO e (ξ (.Subscript o i p)) pos.line env=pure ϑ:=λenv=>by cases e<;>rfl
 refine(NK (X:=X) hx hi hy set_list (hs _)).imp ?_;rintro D σ H ⟨env,ρ,S,DU,he,R,w,q⟩;z_go;refine#[env,ρ1,S1,_,he.later R st1,R1,w1,λu2 S2 v2 H2 ρ2 w2 st2 R2 r2=>?_];refine#[env,ρ2,S2,_,(he.later R st1).later R1 st2,R2,w2,λu3 S3 v3 H3 ρ3 w3 st3 R3 r3=>?_];let#[l,e1,w3]:=PL.iy.mp w3;subst e1;let#[j,e2,w4]:=PL.fX.mp w3;subst e2;let#[us,e3,w5]:=PL.cU.mp w4;let#[m,e4,w6]:=PL.iR.mp w5;let#[a,vs,ev,ha,hH,hr]:=R3.lst e3 (r2.mono R2 st3);subst ev;refine#[a,vs,j,m,rfl,aT.mp r3,hH,by rw[hr.len] at e4;erw[e4],?_];have r1':=r1.mono R1 (st2.trans st3);have st5:=iM.put (H:=H3) (ai ha) hH rfl (.lst (vs.set m v));rwa[q.nx _ _ _ _ _ w6 (((st1.trans st2).trans st3).trans st5) (R3.put ha hH rfl #[_,b8,(V4 hr r1' m).mono R3 st5]) ((he.later R ((st1.trans st2).trans st3)).later R3 st5)]
def RY(G:i9 t T Γ k I X)(hx:PT X c (tT (X.cc t) Γ x))(hy:uz X b (LC (X.cc t) Γ y)):PS X (.While c b [] pos) (tS (X.cc t) Γ (.B1 x y)):=by
 refine(HS (X:=X) G.g.ps hx hy).imp ?_;rintro D σ H ⟨env,ρ,S,DU,he,R,w,q⟩;let#[n0,w0]:=w
 let F:=PL.yS (λen S1 k=>PL.WT Γ x en S1 k) (λen S1 k=>PL.um Γ y {DU with nx:=k} en S1) DU.nx
 refine#[λm σ1 H1=>∃env1 ρ1 S1,iM ρ H ρ1 H1/\cF (X.cc t) ρ1 H1 S1/\kz (X.cc t) ρ1 H1 env1 σ1/\F m env1 S1,#[n0,env,ρ,S,.refl,R,he,w0],?_];rintro m σ1 H1 ⟨env1,ρ1,S1,st1,R1,he1,w1⟩;cases m with
 |zero=>erw[aZ w1]
 |succ m=>
  have w1':PL.WT Γ x env1 S1 (λt S1=>if t=ζ then PL.um Γ y {DU with nx:=F m} env1 S1 else DU.nx env1 S1):=w1;have q1:=q.later st1;refine#[env1,ρ1,S1,_,he1,R1,w1',λb S2 H2 ρ2 w2 st2 R2=>?_];cases b with
  |false=>erw[q1.nx _ _ _ _ _ w2 st2 R2 (he1.later R1 st2)]
  |true=>
   refine#[λσ3 H3=>∃env3 ρ3 S3,iM ρ H ρ3 H3/\cF (X.cc t) ρ3 H3 S3/\kz (X.cc t) ρ3 H3 env3 σ3/\F m env3 S3,λσ3 H3 h3=>#[m,cB m,h3],?_];have q2:=q1.later st2;refine#[env1,ρ2,S2,_,he1.later R1 st2,R2,w2,#[λenv' S' σ' H' ρ' h b R' e=>#[env',ρ',S',(st1.trans st2).trans b,R',e,h],q2.rt]]
abbrev JL(Γ:cv)(tt:PL.Tg)(z:PL.dG)(DU:PL.Ends)(u:U)(en:PL.Env)(S:bM)(k:PL.Env->bM->Prop):Prop:=match tt with
 |.name i=>PL.um Γ z {DU with nx:=k} (en.set i (ξ u)) S
 |.pair i j=>PL.OQ u λx y=>PL.um Γ z {DU with nx:=k} ((en.set i (ξ x)).set j (ξ y)) S
def JM:PL.WS Γ (.j7 tt y z) DU env S=PL.WI Γ y env S (λus g S1=>PL.wN g (JL Γ tt z DU) DU.nx us env S1):=by
 cases tt<;>rfl
def JN(G:i9 t T Γ k I X)(hc:I.calm=ζ)(hs:∀env v,foldedSetIterable it env v=pure v)
  (hi:PI X tg it (z8 (X.cc t) Γ y)) (hg:PG X tg g0) (hb:uz X b (LC (X.cc t) Γ z))
  (hr0:∀{ρ H S env σ u v DU D Q k},kz (X.cc t) ρ H env σ->cF (X.cc t) ρ H S->Rep (X.cc t) ρ H u v->JL Γ tt z DU u env S k->DR (X.cc t) ρ H {DU with nx:=k} D->(∀σ' H',LC (X.cc t) Γ z D σ' H'->Q σ' H')->g0 v σ H Q):
  PS X (.For tg it b [] pos) (tS (X.cc t) Γ (.j7 tt y z)):=by
 refine(PM (X:=X) G.g.ps (G.g.calm hc).1 hi hg hb (hs _)).imp ?_;rintro D σ H ⟨env,ρ,S,DU,he,R,w,q⟩;rw[JM] at w;refine#[env,ρ,S,_,he,R,w,λus g S1 H1 ρ1 J w1 st1 R1 io=>?_]
 let F:=PL.wN g (JL Γ tt z DU) DU.nx
 refine#[λj m σ2 H2=>m+j=us.length/\∃env2 ρ2 S2,iM ρ1 H1 ρ2 H2/\cF (X.cc t) ρ2 H2 S2/\kz (X.cc t) ρ2 H2 env2 σ2/\F (us.drop j) env2 S2,#[us.length,rfl,env,ρ1,S1,.refl,R1,he.later R st1,w1],?_];rintro j m σ2 H2 ⟨hm,env2,ρ2,S2,st2,R2,he2,wf⟩;have q2:=q.later (st1.trans st2);cases hd:us.drop j with
 |nil=>
  rw[hd] at wf;obtain⟨g2,w2⟩:g S2/\DU.nx env2 S2:=wf;erw[.inl #[(io j ρ2 H2 S2 st2 R2 g2).2 (DM.mp hd),q2.nx _ _ _ _ _ w2 .refl R2 he2]]
 |cons u rest=>
  rw[hd] at wf;let#[g2,w2]:=wf;have hu:us[j]?=ξ u:=by
   have:=congrArg (λl=>l[0]?) hd;simpa using this
  have hr:us.drop (j+1)=rest:=by
   have:=congrArg List.tail hd;simpa using this
  have hj:j<us.length:=(ag.mp hu).1;let#[jg,jy]:=(io j ρ2 H2 S2 st2 R2 g2).1 u hu;rwa[.inr #[jg,λσ3 H3=>∃env3 ρ3 S3,iM ρ1 H1 ρ3 H3/\cF (X.cc t) ρ3 H3 S3/\kz (X.cc t) ρ3 H3 env3 σ3/\F rest env3 S3,λσ3 H3 h3=>#[m-1,∅,∅,%[hr|h3]],λyv H3 hy=>?_]];let#[st3,R3,ry]:=jy yv H3 hy;have q3:=q2.later st3;rwa[hr0 (DU:=DU) (k:=F rest) (D:=#[_,_,_,_]) (he2.later R2 st3) R3 ry w2 ?_ λσ' H' h=>h]
  exact#[λenv' S' σ' H' ρ' h b R' e=>#[env',ρ',S',(st2.trans st3).trans b,R',e,h],q3.rt]
def NM(G:i9 t T Γ k I X)(hc:I.calm=ζ)(h:eO x I.N=ξ i)(hl:vD (I.names.lookup x)=ζ)(hs:∀env v,foldedSetIterable it env v=pure v)
  (hi:PI X (.Name x px) it (z8 (X.cc t) Γ y)) (hb:uz X b (LC (X.cc t) Γ z)):PS X (.For (.Name x px) it b [] pos) (tS (X.cc t) Γ (.j7 (.name i) y z)):=
 JN (tt:=.name i) G hc hs hi (rB (i:=i) G.g.nd (by rw[G.g.slots];exact fA h) (tu hl G.g.names) (.inl (G.st x))) hb
  λhe R ru w q hq=>hq _ _ #[_,_,_,_,he.set ru i,R,w,q]
def NN(G:i9 t T Γ k I X)(hc:I.calm=ζ)(h:eO x I.N=ξ i)(hl:vD (I.names.lookup x)=ζ)(h2:eO x2 I.N=ξ j)(hl2:vD (I.names.lookup x2)=ζ)(hs:∀env v,foldedSetIterable it env v=pure v)
  (hi:PI X (.Tuple [.Name x px,.Name x2 px2] kk pt) it (z8 (X.cc t) Γ y)) (hb:uz X b (LC (X.cc t) Γ z)):PS X (.For (.Tuple [.Name x px,.Name x2 px2] kk pt) it b [] pos) (tS (X.cc t) Γ (.j7 (.pair i j) y z)):=by
 have p1:PG X (.Name x px) (xt i):=rB (i:=i) G.g.nd (%[G.g.slots|fA h]) (tu hl G.g.names) (.inl (G.st x));have p2:PG X (.Name x2 px2) (xt j):=rB (i:=j) G.g.nd (%[G.g.slots|fA h2]) (tu hl2 G.g.names) (.inl (G.st x2));rwa[JN (tt:=.pair i j) G hc hs hi (HQ (n:=2) (G.g.calm hc).1 (rC p1 (rC p2 DP rfl) rfl) rfl rfl) hb ?_];intro ρ H S env σ u v DU D Q kk he R ru w q hq;let#[a,b',e1,w]:=PL.D6.mp (show PL.OQ _ _ from w);subst e1;let#[ad,vs,ev,hs',rs]:=d7.mp ru;subst ev;unfold aY at rs;let#[v1,r1,rfl,k1,k2]:=rs;unfold aY at k2;let#[v2,r2,rfl,k3,k4]:=k2;unfold aY at k4;subst k4;exact#[ad,[v1,v2],rfl,.inl (.inl hs'),rfl,v1,[v2],rfl,v2,[],rfl,rfl,hq _ _ #[_,_,_,_,(he.set k1 i).set k3 j,R,w,q]]
end
open PL (U SO bM KU cv)
section
variable{t:xV}{T:Tab}{Γ:cv}{k n:Nat}{I:Inf}{X:Cx}
def Dd{elt iter tg:Expr}{ifs:List Expr}{x:List Str}{y:Str}{i:Nat}{py pos spos:Pos}{sc:kg}{it:PL.It}{tc:PL.Tx}{e:PL.Ex}{ci:List Nat}(G:i9 t T Γ k I X)(hc:I.calm=ζ)(ht:MZ tg=ξ x)(hb:vB I sc x=ζ)(hci:(iQ I sc).mapM (λy=>eO y I.N)=ξ ci)
  (hs:∀env v,foldedSetIterable iter env v=pure v) (hi:PI X tg iter (z8 (X.cc t) Γ it))
  (hif:∀(X':Cx),Good t T Γ k #[rQ I sc.names,x++iQ I sc,ζ] X'->X'.cc t=X.cc t->Mz X' ifs (tT (X.cc t) Γ tc))
  (he:∀(X':Cx),Good t T Γ k #[rQ I sc.names,x++iQ I sc,ζ] X'->X'.cc t=X.cc t->PE X' elt (tE (X.cc t) Γ e))
  (hy:eO y I.N=ξ i) (hk:I.names.lookup y=ξ .local) (hsw:fO (.ListComp elt [#[tg,iter,ifs,0]] sc pos) (ξ (.Name y py)) spos.line X.env=pure ζ):
  PS X (.Assign [.Name y py] (.ListComp elt [#[tg,iter,ifs,0]] sc pos) spos) (tS (X.cc t) Γ (.set i (.comp (x.length==2) e it tc ci))):=by
 have hn:(iQ I sc).Nodup:=by
  unfold iQ;have:=G.g.nd;rw[G.g.slots] at this;erw[this.filter _]
 have cp:=Er G.g hci;refine(CI (X:=X) (i:=i) (wi:=z8 (X.cc t) Γ it) (tc:=tT (X.cc t) Γ tc) (te:=tE (X.cc t) Γ e)
  (vJ G.g hb) cp hn (G.g.calm hc).1 (JI ht (vJ G.g hb) cp hn (G.g.calm hc).1) hi (λC s₀ H₀ ex=>hif _ (rZ G.g hc hb cp hn) rfl) (λC s₀ H₀ ex=>he _ (rZ G.g hc hb cp hn) rfl) G.g.nd (%[G.g.slots|fA hy]) (%[G.g.names|hk]) hsw (hs _)).imp ?_
 intro D σ H z;erw[xZ (C9 z)]
def RZ(G:i9 t T Γ k I X)(hb:uz X b (LC (X.cc t) Γ xb)):PS X (.Try b (h::hs) [] [] pos) (tS (X.cc t) Γ (.T6 xb)):=by
 intro pZ s σ H D J z;rwa[wpAny_Try_except (fU (hb pZ s σ H D J z) (λf s1 q=>?_) λex s1 q=>?_)]
 .cases f with
  |next=>erw[qN q]
  |ret v=>erw[q]
  |brk=>erw[q]
  |cont=>erw[q]
 .rw[G.g.xe] at q;erw[q.elim]
end
open PL (U SO bM KU cv)
structure NO(t:xV)(T:Tab)(Γ:cv)(k n:Nat):Prop where
 fs:∀{I X st x},i9 t T Γ k I X->cS T n I st=ξ x->PS X st (tS (X.cc t) Γ x)
 OX:∀{I X st x},i9 t T Γ k I X->LB T n I st=ξ x->uz X st (LC (X.cc t) Γ x)
section
variable{t:xV}{T:Tab}{Γ:cv}{k n:Nat}{I:Inf}{X:Cx}
def R6(IH:NO t T Γ k n)(G:i9 t T Γ k I X):∀{st:List Stmt}{x:PL.dG},LB T (n+1) I st=ξ x->uz X st (LC (X.cc t) Γ x)
 |[],x,h=>by
  rw[OV,M3] at h;injection h with h;subst h
  refine(LW (X:=X)).imp ?_;rintro D σ H ⟨env,ρ,S,DU,he,R,w,q⟩;erw[q.nx _ _ _ _ _ w .refl R he]
 |s::ss,x,h=>by
  rw[OV,M3] at h;dsimp[aQ,aA] at h;let#[y,h1,ys,h2,h3]:=h;injection h3 with h3;subst h3
  refine(HN (X:=X) (IH.fs G h1) (IH.OX G h2)).imp ?_;rintro D σ H ⟨env,ρ,S,DU,he,R,w,q⟩;refine#[env,ρ,S,_,he,R,w,#[λenv' S' σ' H' ρ' h st R' e=>?_,q.rt]];exact#[env',ρ',S',DU,e,R',h,q.later st]
def V6(IH:NO t T Γ k n)(G:i9 t T Γ k I X){st:Stmt}{x:PL.Sm}(h:cS T (n+1) I st=ξ x):PS X st (tS (X.cc t) Γ x):=by
 have A:=ze (t:=t) (T:=T) (Γ:=Γ) (k:=k) n;rw[Z5] at h;cases st with(delta Z3 at h;dsimp only at h)
 |Assign ts e pos=>
  split at h
  .rename_i tg
   cases tg with
   |Name x' px=>
    dsimp only at h;split at h
    .rename_i i hi
     split at h
     .rename_i hl
      let#[y,h1,h2]:=ak.mp h;subst h2;by_cases nc:y6 e=ζ
      .erw[RT G hi hl (λenv=>Bd nc) (A.fe G.g h1)]
      .change cE T n I _=_ at h1
       cases n with
       |zero=>rw[VG] at h1;erw[nn h1]
       |succ n=>
        have A':=ze (t:=t) (T:=T) (Γ:=Γ) (k:=k) n;cases e with
        |ListComp elt gs sc cpos=>
         let#[tg,iter,ifs,xs,it,c,ee,ci,rfl,ht,hc,g1,g2,g3,g4,g5]:=vC h1;subst g5;have hi':=Bg A' G.g ht g1;cases sw:(X.env.blockKind==.function&&X.env.kindOf x'==ξ .local&&px.line==cpos.line && !(sc.names.any λ(n,k)=>n==x'&&(k==.local||k==.cell))) with
         |true=>
          have hsw:fO (.ListComp elt [#[tg,iter,ifs,0]] sc cpos) (ξ (.Name x' px)) pos.line X.env=pure ζ:=by
           show(pure _:Sem Bool)=pure ζ
           erw[congrArg pure sw]
          have hkl:I.names.lookup x'=ξ .local:=by
           dsimp[aj] at sw;have:=sw.1.1.2;unfold Env.kindOf at this;rw[G.g.names] at this;simpa using this
          rwa[Dd G hc.2 ht hc.1 g4 hi'.1 hi'.2 (λX' G' ec=>Et A' G' ec g2) (λX' G' ec=>?_) hi hkl hsw];have:=A'.fe G' g3;rw[ec] at this;erw[this]
         |false=>
          have hsw:fO (.ListComp elt [#[tg,iter,ifs,0]] sc cpos) (ξ (.Name x' px)) pos.line X.env=pure ϑ:=by
           show(pure _:Sem Bool)=pure ϑ
           erw[congrArg pure sw]
          refine(HR (X:=X) (i:=i) G.g.nd (%[G.g.slots|fA hi]) (tu hl G.g.names) (A.fe G.g h1) hsw (.inl (G.st x'))).imp ?_;intro D σ H z;erw[C9 z]
        |SetComp=>rw[M0] at h1;unfold Ua at h1;erw[nn h1]
        |DictComp=>rw[M0] at h1;unfold Ua at h1;erw[nn h1]
        |_=>erw[absurd rfl nc]
     .erw[nn h]
    .erw[nn h]
   |Attribute o f px=>
    dsimp[aQ,aA] at h;let#[q,h1,a,h2,b,h3,h4]:=h;injection h4 with h4;subst h4
    let#[hm,rfl]:=mP h1;erw[NG G hm (A.fe G.g h2) (A.fe G.g h3)]
   |Subscript o i px=>
    dsimp only at h;split at h
    .dsimp[aQ,aA] at h
     let#[a,h1,b,h2,c,h3,h4]:=h;injection h4 with h4;subst h4
     erw[NH G (A.fe G.g h1) (A.fe G.g h2) (A.fe G.g h3)]
    .split at h
     .dsimp[aQ,aA] at h
      let#[a,h1,b,h2,c,h3,h4]:=h;injection h4 with h4;subst h4
      erw[NL G (A.fe G.g h1) (A.fe G.g h2) (A.fe G.g h3)]
     .erw[nn h]
   |_=>erw[nn h]
  .erw[nn h]
 |AugAssign tg op e pos=>
  cases tg with
  |Name x' px=>
   dsimp only at h;split at h
   .rename_i i hi
    split at h
    .rename_i hl
     dsimp[aQ,aA] at h;let#[p,h1,y,h2,h3]:=h;injection h3 with h3;subst h3
     erw[RX G hi hl h1 (A.fe G.g h2)]
    .erw[nn h]
   .erw[nn h]
  |Attribute o f px=>
   dsimp[aQ,aA] at h;let#[q,h1,p,h2,a,h3,b,h4,h5]:=h;injection h5 with h5;subst h5
   let#[hm,rfl]:=mP h1;erw[NI G hm h2 (A.fe G.g h3) (A.fe G.g h4)]
  |Subscript o i px=>
   dsimp only at h;split at h
   .rename_i hn
    dsimp[aQ,aA] at h;let#[p,h1,a,h2,b,h3,c,h4,h5]:=h;injection h5 with h5;subst h5
    erw[NJ G hn h1 (A.fe G.g h2) (A.fe G.g h3) (A.fe G.g h4)]
   .erw[nn h]
  |_=>erw[nn h]
 |Expr e pos=>
  split at h
  .rename_i hc
   let#[y,h1,h2]:=ak.mp h;subst h2;erw[V2 G hc (A.fe G.g h1)]
  .erw[nn h]
 |Return e pos=>
  cases e with
  |none=>erw[nn h]
  |some e=>
   let#[y,h1,h2]:=ak.mp h;subst h2;erw[RV G (A.fe G.g h1)]
 |If c a b pos=>
  dsimp[aQ,aA] at h;let#[c,h1,a,h2,b,h3,h4]:=h;injection h4 with h4;subst h4
  erw[RW G (A.ft G.g h1) (IH.OX G h2) (IH.OX G h3)]
 |While c b el pos=>
  split at h
  .rename_i he
   have he:el=[]:=by simpa using he
   subst he;dsimp[aQ,aA] at h;let#[c,h1,a,h2,h3]:=h;injection h3 with h3;subst h3
   erw[RY G (A.ft G.g h1) (IH.OX G h2)]
  .erw[nn h]
 |For tg it b el pos=>
  split at h
  .erw[nn h]
  .rename_i hc
   dsimp[gZ,HE,aj] at hc;have he:el=[]:=by simpa using hc.2
   subst he;split at h
   .rename_i xs ht
    rcases C1 ht with⟨x,p,rfl,rfl⟩|⟨x,y,p,p',kd,q,rfl,rfl⟩
    .dsimp only at h
     split at h
     .rename_i i hi
      split at h
      .rename_i hl
       dsimp[aQ,aA] at h;let#[it,h1,a,h2,h3]:=h;injection h3 with h3;subst h3
       erw[NM G hc.1 hi hl (Es h1) (A.fi G.g h1) (IH.OX G h2)]
      .erw[nn h]
     .erw[nn h]
    .dsimp only at h
     split at h
     .rename_i i hi
      split at h
      .rename_i j hj
       split at h
       .rename_i hl
        rw[aj] at hl;dsimp[aQ,aA] at h;let#[it,h1,a,h2,h3]:=h;injection h3 with h3;subst h3
        erw[NN G hc.1 hi hl.1 hj hl.2 (OW h1) (A.fn G.g h1) (IH.OX G h2)]
       .erw[nn h]
      .erw[nn h]
     .erw[nn h]
   .erw[nn h]
 |Raise ex ca pos=>
  injection h with h;subst h
  rintro pZ s σ H D J ⟨env,ρ,S,DU,he,R,w,q⟩;erw[aZ w]
 |Try b hs el fi pos=>
  cases hs with
  |nil=>erw[nn h]
  |cons h0 hs=>
   dsimp only at h;split at h
   .rename_i hc
    rw[aj] at hc;let#[he,hf]:=hc;have he:el=[]:=by simpa using he
    have hf:fi=[]:=by simpa using hf
    subst he;subst hf;let#[b,h2,h4]:=ak.mp h;subst h4;erw[RZ G (IH.OX G h2)]
   .erw[nn h]
 |_=>erw[nn h]
def Gk:NO t T Γ k 0:=by
 constructor
 .intro I X st x _ h;rw[Z4] at h;erw[nn h]
 .intro I X st x _ h;rw[VM] at h;erw[nn h]
def Bh:∀n,NO t T Γ k n
 |0=>Gk
 |n+1=>
  have IH:=Bh n
  #[λG h=>V6 IH G h,λG h=>R6 IH G h]
end
open PL (U SO bM KU cv)
structure Base(c:Ctx)(T:Tab)(kx:Nat):Prop where
 tab:Jy c T
def OY{c:Ctx}{T:Tab}{Γ:cv}{k kx n m:Nat}{x qual:Str}{st:Stmt}{f:Addr}{fd:fP}{N ps:List Str}{sp:PL.Spec}{b:PL.dG}(F:Lx c.K x qual st f fd)(S:lP N ps (bY st))
  (B:Base c T kx) (hkx:kx<=k) (G:gM c T Γ k) (hc:LB T n #[(bY st).names,N,ζ] (fW st)=ξ b) (hk:PL.Keeps Γ b m sp) (hm:N.length=ps.length+m) (hl:∀us S Q,sp us S Q->us.length=ps.length):
  jz c.P c.w c.K c.mg c.base CB (k+2) f fd ps (lift c sp):=by
 rwa[Lx.ok (k:=k+1) F S (λvs H Q E h=>?_) (λcdv A outer s H vs Q E hr h=>?_)]
 .let#[us,ρ,S0,QU,r,R,w,q]:=h
  rw[<-r.len];erw[hl _ _ _ w]
 let#[us,ρ,S0,QU,r,R,w,q]:=h
 let t:xV:=#[c.cls]
 let X:=(Cv CB c.P c.w c.K c.mg c.base N qual (bY st) f cdv A outer s H E).Ux
 have G0:Good t T Γ k #[(bY st).names,N,ζ] X:=#[B.tab,G,S.kind,rfl,rfl,S.nd,λ_=>#[rfl,hr],by have:=hr.un;show(A.deeper (sG qual (bY st) s.heap.objs.size f cdv)).units+200<d6;omega,rfl]
 refine#[_,(Bh n).OX #[G0,λ_=>rfl] hc,?_];have hlen:us.length=ps.length:=hl _ _ _ w;have hvl:vs.length=us.length:=r.len.symm;refine#[us.map ξ++wZ m ψ,ρ,S0,#[λ_ S1=>QU .cf S1,QU],#[?_,λi u e=>?_],R,hk us S0 QU w,#[λenv' S' σ' H' ρ' h st R' e=>q _ _ _ _ _ h st R' (fh.mpr rfl),q]]
 .unfold start
  simp
  omega
 .unfold start
  by_cases z:i<us.length
  .rw[ah (~~~z),aB] at e
   let#[u',e1,e2]:=ak.mp e;injection e2 with e2;subst e2
   let#[v,e3,r3]:=r.get e1;exact#[v,by rw[ah (%[ae,hvl|z]),aB,e3];rfl,r3]
  .rw[ay (~~~(kh z)),Ag] at e
   split at e
   .cases e
   .cases e
abbrev De:PL.Spec:=λus _ Q=>∃ns:List Int,us=[.sV ns]/\ns.length<=63/\∀S',Q (.bl ζ) S'
abbrev zf(K:Frag):Sp:=λvs H Q _=>∃(a:Addr)(ns:List Int),vs=[.ref a]/\ns.length<=63/\xR K H a (ns.map .int)/\∀H',Q (.bl ζ) H'
def NP(F:jz c.P c.w c.K c.mg c.base CB k f fd ps (lift c De)):jz c.P c.w c.K c.mg c.base CB k f fd ps (zf c.K):=by
 rwa[F.imp λvs H Q E h=>?_]
 let#[a,ns,rfl,hl,hf,q]:=h;refine#[[.sV ns],[],[],λu _=>u=.bl ζ,aY.cons (rS.mpr #[a,rfl,hf]) aY.nil,#[rfl,xj,λn a o h=>by simp at h],#[ns,rfl,hl,λ_=>rfl],λu S' v H' ρ' e _ _ r=>?_];subst e;rw[eP.mp r]
 erw[q H']
def JO{K:Frag}{H:Hp}{a:Addr}{xs:List V}(o:Mo H)(h:gX K H a xs):xR K H a xs:=by
 rcases h with(h|⟨ob,h⟩)|h
 .rcases o a with z|⟨ob,ys,z⟩
  .rw[h] at z;cases z
  .rw[h] at z;cases z
 .erw[.inl #[ob,h]]
 .erw[.inr h]
end L2
section
namespace PL
def Yh:fB "text" [("text",a),("at",b),("depth",c)]=ξ a:=rfl
def abq:fB "at" [("text",a),("at",b),("depth",c)]=ξ b:=rfl
def V7:fB "depth" [("text",a),("at",b),("depth",c)]=ξ c:=rfl
end PL
open PL
namespace PL
abbrev mD(x rest:List Nat)(d:Nat):SO:=.ins "Reader" [("text",.str x),("at",.int (x.length-rest.length:Nat)),("depth",.int d)]
abbrev lL(r:Nat)(o:SO)(S S':bM):Prop:=S.length<=S'.length/\S'[r]?=ξ o/\∀n,n<S.length->n≠r->S'[n]?=S[n]?
abbrev Old(r:Nat)(S S':bM):Prop:=S.length<=S'.length/\∀n,n<S.length->n≠r->S'[n]?=S[n]?
abbrev Ext(S S':bM):Prop:=S.length<=S'.length/\∀n,n<S.length->S'[n]?=S[n]?
abbrev cG(l rest:List Nat):Bool:=match rest with|[]=>ϑ|c::_=>l.contains c
abbrev Dg:Spec:=λus S Q=>∃r x rest d l,us=[.loc r,.str l]/\S[r]?=ξ (mD x rest d)/\rest<:+x/\x.length<=1000/\Q (.bl (cG l rest)) S
section
variable{x rest:List Nat}
def JP(h:rest<:+x)(k:Nat):x[x.length-rest.length+k]?=rest[k]?:=by
 let#[p,rfl]:=h;rw[aq,sI,ay ∅]
 congr 1
 omega
def OZ(h:rest<:+x):((x.length-rest.length:Nat):Int)<x.length↔rest≠[]:=by
 let#[p,rfl]:=h;cases rest with
 |nil=>simp
 |cons c r=>simp;omega
end
section
variable{S:bM}{r:Nat}{x rest:List Nat}{d:Nat}{q:U->Prop}
def zg(h:S[r]?=ξ (mD x rest d)):oX (.loc r) "text" S q=q (.str x):=by rw[i8,h];rfl
def Bj(h:S[r]?=ξ (mD x rest d)):oX (.loc r) "at" S q=q (.int (x.length-rest.length:Nat)):=by rw[i8,h];rfl
def JQ(h:S[r]?=ξ (mD x rest d)):oX (.loc r) "depth" S q=q (.int d):=by rw[i8,h];rfl
def cu{Q:String->List (String×U)->Prop}(h:S[r]?=ξ (mD x rest d)):qD S[r]? Q=Q "Reader" [("text",.str x),("at",.int (x.length-rest.length:Nat)),("depth",.int d)]:=by rw[h];rfl
end
def NQ(Γ:cv):Keeps Γ jO 0 Dg:=by
 rintro us S Q ⟨r,x,rest,d,l,rfl,hS,hx,hl,q⟩;unfold jO;walk_at "pl";dsimp[<-i8,zg hS,Bj hS];walk_at "pl";refine#[∅,?_];rw[kH]
 have h0:=JP hx 0;rw[Nat.add_zero] at h0;rw[h0]
 dsimp[decide_eq_true_eq,OZ hx];cases rest with
 |nil=>simpa[cG] using q
 |cons c t=>simp[cG] at q ⊢;exact#[∅,q]
@[reducible]def PR(α:Type):=Except (List Nat) (α×List Nat)
abbrev eD(l rest:List Nat):PR Nat:=match rest with|[]=>.error []|c::r=>if l.contains c then .ok (c,r) else .error (c::r)
abbrev mapR{α β:Type}(f:α->β):PR α->PR β|.ok (a,r)=>.ok (f a,r)|.error r=>.error r
abbrev bindR{α β:Type}(p:PR α)(f:α->List Nat->PR β):PR β:=match p with|.ok (a,r)=>f a r|.error r=>.error r
abbrev kW(c:Nat):U:=.str [c]
abbrev eF(r:Nat)(x:List Nat)(d:Nat)(S:bM)(Q:KU):PR U->Prop
 |.ok (u,r')=>∀S',lL r (mD x r' d) S S'->Q u S'
 |.error r'=>False
abbrev z9(args:List U)(p:List Nat->PR U)(d:Nat):Spec:=λus S Q=>∃r x rest,us=.loc r::args/\S[r]?=ξ (mD x rest d)/\rest<:+x/\x.length<=1000/\eF r x d S Q (p rest)
abbrev JR:Spec:=λus S Q=>∃l d,z9 [.str l] (λrest=>mapR kW (eD l rest)) d us S Q
section
variable{S S1 S2:bM}{r:Nat}{o o':SO}
def aS{α:Type}{l:List α}{n:Nat}{a:α}(h:l[n]?=ξ a):n<l.length:=(ag.mp h).1
def lL.set(h:S[r]?=ξ o):lL r o' S (S.set r o'):=by
 refine#[#v[],by simp[jE,aS h],λn hn ne=>?_];rw[ao (cM ne)]
def lL.refl(h:S[r]?=ξ o):lL r o S S:=#[ar _,h,λ_ _ _=>rfl]
def Old.trans(a:Old r S S1)(b:Old r S1 S2):Old r S S2:=#[aH a.1 b.1,λn h ne=>(b.2 n (au h a.1) ne).trans (a.2 n h ne)]
def lL.old(a:lL r o S S1):Old r S S1:=#[a.1,a.2.2]
def lL.trans(a:lL r o S S1)(b:lL r o' S1 S2):lL r o' S S2:=#[aH a.1 b.1,b.2.1,(a.old.trans b.old).2]
def Ext.old(a:Ext S S1):Old r S S1:=#[a.1,λn h _=>a.2 n h]
def Ext.refl:Ext S S:=#[ar _,λ_ _=>rfl]
def Ext.trans(a:Ext S S1)(b:Ext S1 S2):Ext S S2:=#[aH a.1 b.1,λn h=>(b.2 n (au h a.1)).trans (a.2 n h)]
def Ext.get(a:Ext S S1)(h:S[r]?=ξ o):S1[r]?=ξ o:=(a.2 r (aS h)).trans h
def Ext.chg(a:Ext S S1)(h:S[r]?=ξ o):lL r o S S1:=#[a.1,a.get h,λn h _=>a.2 n h]
def Ext.app(l:List SO):Ext S (S++l):=#[#v[],λn h=>ah h]
def gs(h:S[r]?=ξ o):(S.set r o')[r]?=ξ o':=(lL.set h).2.1
end
def sub_len(h:(c::t)<:+x):((x.length-(c::t).length:Nat):Int)+1=(x.length-t.length:Nat):=by
 let#[p,rfl]:=h;simp
 omega
def R7{x t:List Nat}{z v:U}{d:Nat}(h:z=.int (x.length-t.length:Nat)):SO.ins "Reader" (iz "at" z [("text",.str x),("at",v),("depth",.int d)])=mD x t d:=by subst h;rfl
def zh{x t:List Nat}{c:Nat}(h:(c::t)<:+x):t<:+x:=mZ (du c t) h
def NR(Γ:cv)(h1:Γ "Reader.sees"=Dg):Keeps Γ iS 0 JR:=by
 rintro us S Q ⟨l,d,r,x,rest,rfl,hS,hx,hl,q⟩;unfold iS;walk_at "pl";dsimp[cu hS,h1];walk_at "pl";refine#[rfl,r,x,rest,d,l,rfl,hS,hx,hl,?_];walk_at "pl";dsimp[cu hS];walk_at "pl";cases rest with
 |nil=>erw[q.elim]
 |cons c t=>
  by_cases e:l.contains c=ζ
  .dsimp[eD,e,if_true,mapR,eF] at q
   dsimp[cG,e];have p:=R7 (v:=.int ((x.length-(c::t).length:Nat):Int)) (d:=d) (congrArg U.int (sub_len hx));have g:=gs (o':=mD x t d) hS;dsimp[bX,ax,if_false,QG];dsimp[cu hS,p];dsimp[<-i8,zg g,Bj g,QJ,OS];refine#[trivial,#v[],∅,?_];have e2:((x.length-t.length:Nat):Int)-1=(x.length-(c::t).length:Nat):=by have:=sub_len hx;omega
   have h0:=JP hx 0;rw[Nat.add_zero] at h0;rw[e2,kH,h0]
   erw[q _ (lL.set hS)]
  .dsimp[eD,e,mapR,eF] at q
   dsimp[cG,e];erw[q.elim]
abbrev Suf{α:Type}(rest:List Nat):PR α->Prop
 |.ok (_,r)=>r<:+rest
 |.error r=>r<:+rest
abbrev mE{α:Type}(rest:List Nat):PR α->Prop
 |.ok (_,r)=>r<:+rest/\r.length<rest.length
 |.error r=>r<:+rest
def mE.R8{α:Type}{rest:List Nat}{p:PR α}(h:mE rest p):Suf rest p:=by
 cases p with
 |ok v=>erw[h.1]
 |error r=>erw[h]
def mE.bind{α β:Type}{rest:List Nat}{p:PR α}{f:α->List Nat->PR β}(h:mE rest p)(k:∀a r,p=.ok (a,r)->Suf r (f a r)):mE rest (bindR p f):=by
 cases p with
 |error r=>erw[h]
 |ok v=>
  let#[a,r]:=v;have:=k a r rfl;unfold bindR;dsimp only;cases q:f a r with
  |error r'=>rw[q] at this;erw[this.trans h.1]
  |ok w=>
   let#[b,r']:=w;rw[q] at this;exact#[this.trans h.1,ji this.length_le h.2]
def Suf.bind{α β:Type}{rest:List Nat}{p:PR α}{f:α->List Nat->PR β}(h:Suf rest p)(k:∀a r,p=.ok (a,r)->Suf r (f a r)):Suf rest (bindR p f):=by
 cases p with
 |error r=>erw[h]
 |ok v=>
  let#[a,r]:=v;have:=k a r rfl;unfold bindR;dsimp only;cases q:f a r with
  |error r'=>rw[q] at this;erw[this.trans h]
  |ok w=>
   let#[b,r']:=w;rw[q] at this;erw[this.trans h]
def ig(l rest:List Nat):mE rest (eD l rest):=by
 cases rest with
 |nil=>erw[bN _]
 |cons c t=>
  unfold eD;dsimp only;split
  .exact#[du c t,#v[]]
  .erw[bN _]
def eF.bind{α:Type}{toU:α->U}{p:PR α}{f:α->List Nat->PR U}{r d:Nat}{x rest:List Nat}{S S1:bM}{Q Q1:KU}(h:eF r x d S Q (bindR p f))(st:lL r (mD x rest d) S S1)
  (k:∀a r1 S2,p=.ok (a,r1)->lL r (mD x r1 d) S S2->eF r x d S Q (f a r1)->Q1 (toU a) S2):eF r x d S1 Q1 (mapR toU p):=by
 cases p with
 |error r'=>erw[h]
 |ok v=>
  let#[a,r1]:=v;erw[λS' c=>k a r1 S' rfl (st.trans c) h]
def NS:mapR id p=p:=by
 cases p with
 |ok v=>rfl
 |error r=>rfl
def x8{α β:Type}{f:α->β}{p:PR α}:mapR f p=bindR p (λa r=>.ok (f a,r)):=by
 cases p with
 |ok v=>rfl
 |error r=>rfl
def l6(p:Nat->Bool)(hg:g S)(hc:∀n k,k (p n) S->c (.str [n]) S k)(he:∀n k,k (.str [n]) S->e (.str [n]) S k):
  ∀(l:List Nat)(acc:List U),acc.length+l.length<1000000->Q (acc++(l.filter p).map kW) S->mN g c e Q (l.map λn=>.str [n]) acc S
 |[],acc,hl,q=>#[hg,~~~hl,~~~q]
 |n::l,acc,hl,q=>by
  dsimp[aU] at hl;refine#[hg,∅,hc n _ ?_];by_cases h:p n=ζ
  .rw[if_pos h]
   rwa[he n _ (l6 p hg hc he l (acc++[.str [n]]) ((·)) ?_)];rw[iO,if_pos h] at q;simpa[kW] using q
  .rw[if_neg h]
   rwa[l6 p hg hc he l acc ∅ ?_];rw[iO,if_neg h] at q;erw[q]
def join_ones:∀l:List Nat,lR [] (l.map λn=>[n])=l
 |[]=>rfl
 |[n]=>rfl
 |n::m::l=>by
  have:=join_ones (m::l);dsimp[aw] at this ⊢;dsimp[lR,bT];rw[this];rfl
abbrev d9(l:List Nat):List Nat:=SG.filter λc=>!l.contains c
abbrev inOrder(l:List Nat):List Nat:=SG.filter λc=>l.contains c
abbrev spT(f:List Nat->List Nat):Spec:=λus S Q=>∃l,us=[.str l]/\∀S',Ext S S'->Q (.str (f l)) S'
def vK:∀l:List Nat,((l.map λn=>[n]).map cw).sum=l.length
 |[]=>rfl
 |n::l=>by rw[aw,aw,zZ,vK l];simp;omega
def Eu(l:List Nat):l.map kW=(l.map λn=>[n]).map U.str:=by
 rw[bB];rfl
def Ew(p:Nat->Bool):(SG.filter p).length<=95:=aH (Cc _ _) ⋯
def Bk(Γ:cv):Keeps Γ nk 0 (spT inOrder):=by
 rintro us S Q ⟨l,rfl,q⟩;unfold nk;walk_at "pl";refine l6 (λc=>l.contains c) trivial (λn k h=>by rw[MV];exact h) (λn k h=>h) SG [] ⋯ ?_;dsimp[kX];try walk_at "pl"
 refine#[(inOrder l).map λn=>[n],?_,?_,?_]
 .rw[<-Eu];simp[inOrder]
 .have:=Ew λc=>l.contains c
  rw[vK];simp[inOrder] at this ⊢;omega
 .rw[join_ones];erw[q _ (Ext.app _)]
def vL(Γ:cv):Keeps Γ pM 0 (spT d9):=by
 rintro us S Q ⟨l,rfl,q⟩;unfold pM;walk_at "pl";refine l6 (λc=>!l.contains c) trivial (λn k h=>by rw[MX];exact h) (λn k h=>h) SG [] ⋯ ?_;dsimp[kX];try walk_at "pl"
 refine#[(d9 l).map λn=>[n],?_,?_,?_]
 .rw[<-Eu];simp[d9]
 .have:=Ew λc=>!l.contains c
  rw[vK];simp[d9] at this ⊢;omega
 .rw[join_ones];erw[q _ (Ext.app _)]
abbrev Ey:Spec:=λus S Q=>∃a b,us=[.str [a],.str [b]]/\a∈SG/\b∈SG/\Q (.bl (decide (SG.idxOf a<SG.idxOf b))) S
def Bl(Γ:cv):Keeps Γ nq 0 Ey:=by
 rintro us S Q ⟨a,b,rfl,ha,hb,q⟩;unfold nq;walk_at "pl";refine#[a,rfl,ha,b,rfl,hb,?_];simpa using q
abbrev lj(a b:Nat):List Nat:=(SG.drop (SG.idxOf a)).take (SG.idxOf b+1-SG.idxOf a)
abbrev x9:Spec:=λus S Q=>∃a b,us=[.str [a],.str [b]]/\a∈SG/\b∈SG/\Q (.str (lj a b)) S
def Dh(h:a∈SG):SG.idxOf a<95:=by
 have:=List.idxOf_lt_length_iff.mpr h;simpa using this
def Di(Γ:cv):Keeps Γ pN 0 x9:=by
 rintro us S Q ⟨a,b,rfl,ha,hb,q⟩;unfold pN;walk_at "pl";refine#[a,rfl,ha,?_];refine#[b,rfl,hb,?_];try walk_at "pl"
 have h1:=Dh ha;have h2:=Dh hb;refine#[#[λi e=>?_,λi e=>?_],⋯,?_]
 .injection e with e;omega
 .injection e with e;omega
 .have e:rJ SG (ξ (SG.idxOf a:Int)) (ξ ((SG.idxOf b:Int)+1))=lj a b:=by
   unfold rJ lj;have l:SG.length=95:=⋯
   dsimp[eJ,l];have e1:min (((SG.idxOf a:Nat):Int).toNat) 95=SG.idxOf a:=∅
   have e2:min ((((SG.idxOf b:Nat):Int)+1).toNat) 95=SG.idxOf b+1:=∅
   rw[e1,e2]
  show Q (.str (rJ SG (ξ (SG.idxOf a:Int)) (ξ ((SG.idxOf b:Int)+1)))) S
  rw[e];erw[q]
noncomputable abbrev BB:List Nat:=[46,124,40,41,91,93,42,43,63,92,45,94,110]
noncomputable abbrev MO:List Nat:=[46,124,40,41,91,93,42,43,63,92]
noncomputable abbrev MW:List Nat:=[93,45,92]
abbrev kC(m rest:List Nat):PR Nat:=
 match rest with
 |92::r=>bindR (eD BB r) λs r'=>.ok (if s=110 then 10 else s,r')
 |_=>eD (d9 m) rest
def JS(m r:List Nat):kC m (92::r)=bindR (eD BB r) λs r'=>.ok (if s=110 then 10 else s,r'):=rfl
def Bm{m rest:List Nat}(h:cG [92] rest=ϑ):kC m rest=eD (d9 m) rest:=by
 unfold kC;split
 .simp[cG] at h
 .rfl
def JT{c:Nat}{rest:List Nat}(h:cG [c] rest=ζ):∃t,rest=c::t:=by
 cases rest with
 |nil=>simp[cG] at h
 |cons a t=>simp[cG] at h;subst h;exact#[t,rfl]
def kZ(m rest:List Nat):mE rest (kC m rest):=by
 unfold kC;split
 .rename_i r
  have h:=(ig BB r).bind (f:=λs r'=>(.ok (if s=110 then 10 else s,r'):PR Nat)) λa r' _=>bN _
  cases q:bindR (eD BB r) λs r'=>(.ok (if s=110 then 10 else s,r'):PR Nat) with
  |error r'=>rw[q] at h;erw[h.trans (du _ _)]
  |ok v=>rw[q] at h;exact#[h.1.trans (du _ _),bc h.2]
 .erw[ig _ _]
def Ez(h:eD l rest=.ok (c,r)):c∈l/\rest=c::r:=by
 cases rest with
 |nil=>simp[eD] at h
 |cons a t=>
  unfold eD at h;dsimp only at h;split at h
  .rename_i z
   injection h with h;injection h with h1 h2;subst h1;subst h2
   exact#[~~~z,rfl]
  .cases h
def vM{m rest:List Nat}{c:Nat}{r:List Nat}(h:kC m rest=.ok (c,r)):c∈SG:=by
 unfold kC at h;split at h
 .rename_i t
  cases q:eD BB t with
  |error r'=>rw[q] at h;cases h
  |ok v=>
   let#[s,r']:=v;rw[q] at h;dsimp[bindR] at h;injection h with h;injection h with h1 h2
   have hs:=(Ez q).1;subst h1;split
   .decide
   .have:∀s∈BB,s∈SG:=⋯
    erw[this s hs]
 .have:=(Ez h).1
  unfold d9 at this;exact(fw.mp this).1
abbrev EA(d:Nat):Spec:=λus S Q=>∃m,z9 [.str m] (λrest=>mapR kW (kC m rest)) d us S Q
structure GR(Γ:cv):Prop where
 sees:Γ "Reader.sees"=Dg
 pass:Γ "Reader.passes"=JR
 Dj:Γ "all_but"=spT d9
 R9:Γ "in_order"=spT inOrder
 ahead:Γ "is_ahead"=Ey
 JU:Γ "stretch"=x9
def JV(Γ:cv)(G:GR Γ)(d:Nat):Keeps Γ eR 1 (EA d):=by
 rintro us S Q ⟨m,r,x,rest,rfl,hS,hx,hl,q⟩;have q:eF r x d S Q (mapR kW (kC m rest)):=q;unfold eR;walk_at "pl";dsimp[cu hS,G.sees,G.pass];walk_at "pl";refine#[rfl,r,x,rest,d,_,rfl,hS,hx,hl,?_];walk_at "pl";by_cases e:cG [92] rest=ζ
 .let#[t,rfl]:=JT e
  dsimp[e,bX,ax,if_false];dsimp[cu hS];refine#[#[by first|trivial|rfl,rfl],[92],d,r,x,_,rfl,hS,hx,hl,?_];have ht:=zh hx;show eF r x d S _ (mapR kW (.ok (92,t)));intro S1 c1;try walk_at "pl"
  dsimp[cu c1.2.1];refine#[#[by first|trivial|rfl,rfl],BB,d,r,x,t,rfl,c1.2.1,ht,hl,?_];rw[JS] at q;have q':eF r x d S Q (bindR (eD BB t) λs r'=>.ok (kW (if s=110 then 10 else s),r')):=by
   cases z:eD BB t with
   |error r'=>rw[z] at q;erw[q]
   |ok v=>rw[z] at q;erw[q]
  rwa[q'.bind c1 λa r1 S2 e1 c2 q2=>?_]
  unfold kW;try walk_at "pl"
  dsimp[beq_iff_eq,dy,and_true];have:=q2 S2 c2;unfold kW at this;by_cases z:a=110
  .subst z;simpa using this
  .dsimp[z,if_false] at this ⊢;erw[this]
 .have e:cG [92] rest=ϑ:=by simpa using e
  dsimp[e,cz,if_true];dsimp[cu hS,G.Dj,true_and];refine#[rfl,m,rfl,λS1 x1=>?_];refine#[d9 m,d,r,x,rest,rfl,x1.get hS,hx,hl,?_];show eF r x d S1 Q (mapR kW (eD (d9 m) rest));rw[Bm e] at q;cases z:eD (d9 m) rest with
  |error r'=>rw[z] at q;erw[q]
  |ok v=>rw[z] at q;erw[λS' c=>q S' ((x1.chg hS).trans c)]
end PL
namespace PL
abbrev lu(first:Nat)(r:List Nat):PR (List Nat):=
 match r with
 |45::r2=>bindR (kC MW r2) λsecond r3=>if SG.idxOf second<SG.idxOf first then .error r2 else .ok (lj first second,r3)
 |_=>.ok ([first],r)
abbrev item(rest:List Nat):PR (List Nat):=bindR (kC MW rest) lu
def Bn(f:Nat)(r:List Nat):lu f (45::r)=bindR (kC MW r) λsecond r3=>if SG.idxOf second<SG.idxOf f then .error r else .ok (lj f second,r3):=rfl
def Bo{f:Nat}{r:List Nat}(h:cG [45] r=ϑ):lu f r=.ok ([f],r):=by
 unfold lu;split
 .simp[cG] at h
 .rfl
def zi(f:Nat)(r:List Nat):Suf r (lu f r):=by
 unfold lu;split
 .rename_i r2
  have h:=(kZ MW r2).bind (f:=λsecond r3=>(if SG.idxOf second<SG.idxOf f then .error r2 else .ok (lj f second,r3):PR (List Nat)));cases q:kC MW r2 with
  |error r'=>have:=kZ MW r2;rw[q] at this;erw[this.trans (du _ _)]
  |ok v=>
   have:=kZ MW r2;rw[q] at this;dsimp[bindR];split
   .erw[du _ _]
   .erw[this.1.trans (du _ _)]
 .erw[bN _]
def r6(rest:List Nat):mE rest (item rest):=(kZ MW rest).bind λa r _=>zi a r
def jJ{α β γ:Type}{g:β->γ}{p:PR α}{f:α->List Nat->PR β}:mapR g (bindR p f)=bindR p λa r=>mapR g (f a r):=by
 cases p with
 |ok v=>rfl
 |error r=>rfl
abbrev JW(d:Nat):Spec:=z9 [] (λrest=>mapR U.str (item rest)) d
structure GR2(Γ:cv)(d:Nat):Prop extends GR Γ where
 ws:Γ "Reader.written_sign"=EA d
def NT(Γ:cv)(d:Nat)(G:GR2 Γ d):Keeps Γ jQ 3 (JW d):=by
 rintro us S Q ⟨r,x,rest,rfl,hS,hx,hl,q⟩;have q:eF r x d S Q (mapR U.str (item rest)):=q;unfold item at q;rw[jJ] at q;unfold jQ;walk_at "pf";dsimp[cu hS];refine#[#[by first|trivial|rfl,rfl],ca G.ws #[MW,r,x,rest,rfl,hS,hx,hl,?_]];refine q.bind (lL.refl hS) λa r1 S1 e1 c1 q1=>?_
 have hs:=kZ MW rest;rw[e1] at hs;have hx1:=hs.1.trans hx;have g1:=c1.2.1;unfold kW;try walk_at "pf"
 dsimp[cu g1,true_and];refine#[rfl,ca G.sees #[r,x,r1,d,_,rfl,g1,hx1,hl,?_]];try walk_at "pf"
 by_cases e:cG [45] r1=ζ
 .let#[t,rfl]:=JT e
  dsimp[e,bX,ax,if_false];walk_at "pf";dsimp[cu g1,true_and];refine#[rfl,ca G.pass #[[45],d,r,x,_,rfl,g1,hx1,hl,?_]];have ht:=zh hx1;show eF r x d S1 _ (mapR kW (.ok (45,t)));intro S2 c2;have g2:=c2.2.1;try walk_at "pf"
  dsimp[<-i8,Bj g2];walk_at "pf";dsimp[cu g2,true_and];refine#[rfl,ca G.ws #[MW,r,x,t,rfl,g2,ht,hl,?_]];rw[Bn,jJ] at q1;rwa[q1.bind (c1.trans c2) λb r3 S3 e3 c3 q3=>?_]
  unfold kW;try walk_at "pf"
  have ha:=vM e1;have hb:=vM e3;refine ca G.ahead #[b,a,rfl,hb,ha,?_];try walk_at "pf"
  by_cases z:SG.idxOf b<SG.idxOf a
  .dsimp[z,decide_true,if_true]
   dsimp[z,if_true] at q3;walk_at "pf";erw[q3.elim]
  .dsimp[z,decide_false,ax,if_false]
   dsimp[z,if_false] at q3;walk_at "pf";erw[ca G.JU #[a,b,rfl,ha,hb,q3 S3 c3]]
 .have e:cG [45] r1=ϑ:=by simpa using e
  dsimp[e,cz,if_true];rw[Bo e] at q1;walk_at "pf";erw[q1 S1 c1]
abbrev lx:Nat->List Nat->List Nat->PR (List Nat)
 |0,_,rest=>.error rest
 |n+1,taken,rest=>if cG [93] rest then .ok (taken,rest) else bindR (item rest) λt r=>lx n (taken++t) r
abbrev nH(turned:Bool)(r1:List Nat):PR (List Nat):=
 bindR (item r1) λt r2=>bindR (lx (r2.length+1) t r2) λtaken r3=>bindR (eD [93] r3) λ_ r4=>.ok (if turned then d9 taken else inOrder taken,r4)
abbrev clsIn(r0:List Nat):PR (List Nat):=
 match r0 with
 |94::r=>nH ζ r
 |_=>nH ϑ r0
abbrev cls(rest:List Nat):PR (List Nat):=bindR (eD [91] rest) λ_ r0=>clsIn r0
def JX(h:cG [94] r=ϑ):clsIn r=nH ϑ r:=by
 unfold clsIn;split
 .simp[cG] at h
 .rfl
def vN:∀(n:Nat)(taken rest:List Nat),Suf rest (lx n taken rest)
 |0,_,rest=>bN _
 |n+1,taken,rest=>by
  unfold lx;split
  .erw[bN _]
  .exact(r6 rest).R8.bind λa r _=>vN n _ r
def t6(b:Bool)(r:List Nat):Suf r (nH b r):=
 (r6 r).R8.bind λa r2 _=>(vN _ _ _).bind λt r3 _=>(ig _ _).R8.bind λ_ r4 _=>bN _
def NU(rest:List Nat):mE rest (cls rest):=by
 refine(ig _ _).bind λa r _=>?_
 unfold clsIn;split
 .rename_i r' hq
  have:=t6 ζ r';cases q:nH ζ r' with
  |ok v=>rw[q] at this;erw[mZ this (du _ _)]
  |error v=>rw[q] at this;erw[mZ this (du _ _)]
 .erw[t6 ϑ r]
abbrev O0(d:Nat):Spec:=z9 [] (λrest=>mapR U.str (cls rest)) d
structure GR3(Γ:cv)(d:Nat):Prop extends GR2 Γ d where
 it:Γ "Reader.item"=JW d
def vO(h:item rest=.ok (t,r)):t.length<=95:=by
 unfold item at h;cases q:kC MW rest with
 |error r'=>rw[q] at h;cases h
 |ok v=>
  let#[a,r1]:=v;rw[q] at h;dsimp[bindR] at h;unfold lu at h;split at h
  .rename_i r2
   cases q2:kC MW r2 with
   |error r'=>rw[q2] at h;cases h
   |ok v2=>
    rw[q2] at h;dsimp[bindR] at h;split at h
    .cases h
    .injection h with h;injection h with h1 h2;subst h1
     unfold lj;rwa[aH (List.length_take_le _ _) ?_];have:=Dh (vM q2);omega
  .injection h with h;injection h with h1 h2;subst h1;simp
def vP{Γ:cv}{d:Nat}(G:GR3 Γ d){r:Nat}{x:List Nat}{S:bM}{fin:Env->bM->Prop}{env:Env}(hl:x.length<=1000)(k1:env[0]?=ξ (ξ (.loc r)))
  (cW:Env->bM->(Bool->bM->Prop)->Prop) (bW:Env->bM->(Env->bM->Prop)->Prop)
  (hc:∀taken S1 rest k,S1[r]?=ξ (mD x rest d)->rest<:+x->k (!cG [93] rest) S1->cW (env.set 2 (ξ (.str taken))) S1 k)
  (hb:∀taken S1 rest k,taken.length<=900000->S1[r]?=ξ (mD x rest d)->rest<:+x->eF r x d S1 (λu S2=>∃t,u=.str t/\t.length<=95/\k (env.set 2 (ξ (.str (taken++t)))) S2) (mapR U.str (item rest))->bW (env.set 2 (ξ (.str taken))) S1 k):
  ∀(n:Nat)(taken rest:List Nat)(S1:bM)(R:List Nat->List Nat->PR U),rest.length<n->taken.length+95*rest.length<=900000->rest<:+x->lL r (mD x rest d) S S1 ->
   (∀t2 r2 S2,lL r (mD x r2 d) S S2->r2<:+x->t2.length<=900000->lx n taken rest=.ok (t2,r2)->fin (env.set 2 (ξ (.str t2))) S2)->(∀r',lx n taken rest=.error r'->False) ->
   yS cW bW fin n (env.set 2 (ξ (.str taken))) S1
 |0,_,_,_,_,h,_,_,_,_,_=>∅
 |n+1,taken,rest,S1,R,h,ht,hx,c1,hf,he=>by
  rwa[hc taken S1 rest _ c1.2.1 hx ?_];by_cases e:cG [93] rest=ζ
  .dsimp[e,bX,ax,if_false]
   erw[hf taken rest S1 c1 hx ∅ (by unfold lx;rw[if_pos e])]
  .have e':cG [93] rest=ϑ:=by simpa using e
   dsimp[e',cz,if_true];rwa[hb taken S1 rest _ ∅ c1.2.1 hx ?_];have hs:=r6 rest;cases q:item rest with
   |error r'=>
    erw[he r' (by unfold lx;rw[if_neg e,q];rfl)]
   |ok v=>
    let#[t,r1]:=v;rw[q] at hs;intro S2 c2;refine#[t,rfl,vO q,?_];have hlt:t.length<=95:=vO q;have hE:lx (n+1) taken rest=lx n (taken++t) r1:=by
     conv=>lhs;unfold lx
     rw[if_neg e,q];rfl
    rwa[vP G hl k1 cW bW hc hb n (taken++t) r1 S2 R (by have:=hs.2;omega) (by simp;have:=hs.2;omega) (hs.1.trans hx) (c1.trans c2) (λt2 r2 S3 c3 h3 h4 e3=>hf t2 r2 S3 c3 h3 h4 (%[hE|e3])) (λr' e3=>he r' (%[hE|e3]))]
def Sa(Γ:cv)(d:Nat)(G:GR3 Γ d):Keeps Γ fH 2 (O0 d):=by
  rintro us S Q ⟨r,x,rest,rfl,hS,hx,hl,q⟩;have q:eF r x d S Q (mapR U.str (cls rest)):=q;unfold cls at q;rw[jJ] at q;unfold fH;walk_at "pf";dsimp[cu hS];refine#[#[by first|trivial|rfl,rfl],ca G.pass #[[91],d,r,x,rest,rfl,hS,hx,hl,?_]];refine q.bind (lL.refl hS) λa r0 S0 e0 c0 q0=>?_
  have hs0:=ig [91] rest;rw[e0] at hs0;have hx0:=hs0.1.trans hx;have g0:=c0.2.1;walk_at "pf";dsimp[cu g0,true_and];refine#[rfl,ca G.sees #[r,x,r0,d,_,rfl,g0,hx0,hl,?_]];try walk_at "pf"
  have tail:∀(tb:Bool)(r1:List Nat)(S1:bM),lL r (mD x r1 d) S S1->r1<:+x->eF r x d S Q (mapR U.str (nH tb r1)) ->
      um Γ (.cons (.set 2 (.df "Reader" "item" "Reader.item" @0 .nil))
   (.cons (.B1 (.not (.dk (.df "Reader" "sees" "Reader.sees" @0 (.cons ↑[93] .nil)))) (.cons (.aug 2 .add (.df "Reader" "item" "Reader.item" @0 .nil)) .nil))
   (.cons (.ex (.df "Reader" "passes" "Reader.passes" @0 (.cons ↑[93] .nil)))
   (.cons (.ret (.Hk (.dk @1) (.call "all_but" (.cons @2 .nil)) (.call "in_order" (.cons @2 .nil)))) .nil)))) #[λ_ S1=>Q .cf S1,Q] [ξ (.loc r),ξ (.bl tb),ψ] S1:=by
    intro tb r1 S1 c1 hx1 q1;unfold nH at q1;rw[jJ] at q1;have g1:=c1.2.1;walk_at "pf";dsimp[cu g1];refine#[#[by first|trivial|rfl,rfl],ca G.it #[r,x,r1,rfl,g1,hx1,hl,?_]];refine q1.bind c1 λt r2 S2 e2 c2 q2=>?_
    have hs2:=r6 r1;rw[e2] at hs2;have hx2:=hs2.1.trans hx1;have hlt:=vO e2;have hr2:r2.length<=1000:=aH hx2.length_le hl;rw[jJ] at q2;walk_at "pf";refine#[r2.length+1,vP (S:=S) (env:=[ξ (.loc r),ξ (.bl tb),ψ]) G hl rfl _ _ ?_ ?_ (r2.length+1) t r2 S2 (λ_ _=>.error []) ∅ ∅ hx2 c2 ?_ ?_]
    · intro taken S3 rest3 k g3 hx3 hk
      dsimp[jd,je];try walk_at "pf"
      dsimp[cu g3,true_and];refine#[rfl,ca G.sees #[r,x,rest3,d,_,rfl,g3,hx3,hl,?_]];try walk_at "pf"
      erw[hk]
    · intro taken S3 rest3 k htk g3 hx3 hk
      dsimp[jd,je] at hk ⊢;try walk_at "pf"
      dsimp[cu g3,true_and];refine#[rfl,ca G.it #[r,x,rest3,rfl,g3,hx3,hl,?_]];show eF r x d S3 _ (mapR U.str (item rest3));cases z:item rest3 with
      |error r'=>rw[z] at hk;erw[hk]
      |ok v=>
        let#[t3,r3]:=v;rw[z] at hk;intro S4 c4;let#[t',e',hl',hk']:=hk S4 c4;injection e' with e';subst e'
        rw[QH]
        exact#[∅,Rest.go hk']
    · intro t3 r3 S3 c3 hx3 hl3 e3
      rw[e3] at q2;dsimp[bindR] at q2;have q2:eF r x d S Q (mapR U.str (bindR (eD [93] r3) λ_ r4=>.ok (if tb then d9 t3 else inOrder t3,r4))):=q2;rw[jJ] at q2;have g3:=c3.2.1;dsimp[jd,je];try walk_at "pf"
      dsimp[cu g3,true_and];refine#[rfl,ca G.pass #[[93],d,r,x,r3,rfl,g3,hx3,hl,?_]];rwa[q2.bind c3 λb r4 S4 e4 c4 q4=>?_]
      try walk_at "pf"
      cases tb with
      |true=>erw[ca G.Dj #[t3,rfl,λS5 x5=>q4 S5 (c4.trans (x5.chg c4.2.1))]]
      |false=>erw[ca G.R9 #[t3,rfl,λS5 x5=>q4 S5 (c4.trans (x5.chg c4.2.1))]]
    · intro r' e3
      rw[e3] at q2;erw[q2]
  by_cases e:cG [94] r0=ζ
  · let#[t,rfl]:=JT e
    dsimp[e,if_true];walk_at "pf";dsimp[cu g0,true_and];refine#[rfl,ca G.pass #[[94],d,r,x,_,rfl,g0,hx0,hl,?_]];show eF r x d S0 _ (mapR kW (.ok (94,t)));intro S1 c1;erw[tail ζ t S1 (c0.trans c1) (zh hx0) q0]
  · have e:cG [94] r0=ϑ:=by simpa using e
    dsimp[e,ax,if_false];rw[JX e] at q0;erw[tail ϑ r0 S0 c0 hx0 q0]
abbrev pS(k:List Nat)(ts:List U):U:=match ts with|[t]=>t|_=>.tup [.str k,.tup ts]
abbrev ly:Spec:=λus S Q=>∃k n ts,us=[.str k,.loc n]/\S[n]?=ξ (.lst ts)/\ts≠[]/\ts.length<=100000/\Q (pS k ts) S
def Gm(Γ:cv):Keeps Γ rM 0 ly:=by
 rintro us S Q ⟨k,n,ts,rfl,hn,ne,hl,q⟩;unfold rM;walk_at "pl";dsimp[lS hn,hn];walk_at "pl";refine#[∅,?_];cases ts with
 |nil=>erw[absurd rfl ne]
 |cons t ts=>
  cases ts with
  |nil=>
   dsimp[gU];simp[mC,pS] at q ⊢;erw[q]
  |cons t2 ts=>
   have h1:((((t::t2::ts).length:Nat):Int)== 1)=ϑ:=by
    dsimp[aU,beq_eq_false_iff_ne];omega
   dsimp[h1,ax,if_false];refine#[#v[],?_];erw[q]
noncomputable abbrev Gn:List Nat:=[111,110,101]
noncomputable abbrev lz:List Nat:=[115,116,97,114]
noncomputable abbrev o7:List Nat:=[112,108,117,115]
noncomputable abbrev kA:List Nat:=[109,97,121,98,101]
noncomputable abbrev zj:List Nat:=[114,111,119]
noncomputable abbrev O1:List Nat:=[111,114]
abbrev NV(l:List Nat):U:=.tup [.str Gn,.str l]
abbrev JY(c:Nat)(t:U):U:=.tup [.str (if c=42 then lz else if c=43 then o7 else kA),t]
abbrev l7:U->List Nat->U×List Nat
 |t,[]=>(t,[])
 |t,c::r=>if [42,43,63].contains c then l7 (JY c t) r else(t,c::r)
abbrev Ud(br:Option (List Nat->PR U))(rest:List Nat):PR U:=
 match br with
 |none=>.error rest
 |some p=>bindR (eD [40] rest) λ_ r=>bindR (p r) λt r2=>bindR (eD [41] r2) λ_ r3=>.ok (t,r3)
abbrev r8(br:Option (List Nat->PR U))(rest:List Nat):PR U:=
 if cG [40] rest then Ud br rest else if cG [91] rest then mapR NV (cls rest) else if cG [46] rest then bindR (eD [46] rest) (λ_ r=>.ok (NV (d9 [10]),r)) else mapR (λc=>NV [c]) (kC MO rest)
abbrev js(br:Option (List Nat->PR U))(rest:List Nat):PR U:=bindR (r8 br rest) λt r=>.ok (l7 t r)
abbrev dB(stop:List Nat->Bool)(p:List Nat->PR U):Nat->List U->List Nat->PR (List U)
 |0,_,rest=>.error rest
 |n+1,acc,rest=>if stop rest then .ok (acc,rest) else bindR (p rest) λt r=>dB stop p n (acc++[t]) r
abbrev jt(rest:List Nat):Bool:=rest.isEmpty||cG [124,41] rest
abbrev stopOr(rest:List Nat):Bool:=!cG [124] rest
abbrev wR(br:Option (List Nat->PR U))(rest:List Nat):PR U:=bindR (js br rest) λt r=>bindR (dB jt (js br) (r.length+1) [t] r) λts r2=>.ok (pS zj ts,r2)
abbrev Sb(br:Option (List Nat->PR U))(rest:List Nat):PR U:=bindR (eD [124] rest) λ_ r=>wR br r
abbrev iC(br:Option (List Nat->PR U))(rest:List Nat):PR U:=bindR (wR br rest) λt r=>bindR (dB stopOr (Sb br) (r.length+1) [t] r) λts r2=>.ok (pS O1 ts,r2)
abbrev t8:Nat->Option (List Nat->PR U)
 |0=>ψ
 |k+1=>ξ (iC (t8 k))
abbrev vQ(x:List Nat):PR U:=bindR (iC (t8 6) x) λt r=>if r=[] then .ok (t,[]) else .error r
def Bp:∀(t:U)(rest:List Nat),(l7 t rest).2<:+rest
 |t,[]=>bN _
 |t,c::r=>by
  unfold l7;split
  .exact(Bp _ r).trans (du _ _)
  .erw[bN _]
abbrev oj(br:Option (List Nat->PR U)):Prop:=∀p,br=ξ p->∀rest,mE rest (p rest)
def Sd{br:Option (List Nat->PR U)}(h:oj br)(rest:List Nat):mE rest (Ud br rest):=by
 unfold Ud;cases br with
 |none=>erw[bN _]
 |some p=>exact(ig _ _).bind λa r _=>(h p rfl r).R8.bind λt r2 _=>(ig _ _).R8.bind λ_ r3 _=>bN _
def mE.map{α β:Type}{rest:List Nat}{p:PR α}{f:α->β}(h:mE rest p):mE rest (mapR f p):=by
 cases p with
 |ok v=>erw[h]
 |error r=>erw[h]
def vR{br:Option (List Nat->PR U)}(h:oj br)(rest:List Nat):mE rest (r8 br rest):=by
 unfold r8;split
 .erw[Sd h rest]
 .split
  .exact(NU rest).map
  .split
   .exact(ig _ _).bind λ_ r _=>bN _
   .exact(kZ _ _).map
def nI(h:oj br)(rest:List Nat):mE rest (js br rest):=(vR h rest).bind λt r _=>Bp t r
def nJ(h:∀rest,mE rest (p rest)):∀(n:Nat)(acc:List U)(rest:List Nat),Suf rest (dB stop p n acc rest)
 |0,_,rest=>bN _
 |n+1,acc,rest=>by
  unfold dB;split
  .erw[bN _]
  .exact(h rest).R8.bind λa r _=>nJ h n _ r
def zk(h:oj br)(rest:List Nat):mE rest (wR br rest):=(nI h rest).bind λt r _=>(nJ (nI h) _ _ _).bind λts r2 _=>bN _
def JZ(h:oj br)(rest:List Nat):mE rest (Sb br rest):=(ig _ _).bind λ_ r _=>(zk h r).R8
def vS(h:oj br)(rest:List Nat):mE rest (iC br rest):=(zk h rest).bind λt r _=>(nJ (JZ h) _ _ _).bind λts r2 _=>bN _
def tw:∀k,oj (t8 k)
 |0=>λp e=>nomatch e
 |k+1=>λp e rest=>by injection e with e;subst e;erw[vS (tw k) rest]
def eF.O2{α:Type}{toU:α->U}{p:PR α}{f:α->List Nat->PR U}{r d d':Nat}{x rest:List Nat}{S S1:bM}{Q Q1:KU}(h:eF r x d S Q (bindR p f))(st:lL r (mD x rest d') S S1)
  (k:∀a r1 S2,p=.ok (a,r1)->lL r (mD x r1 d') S S2->eF r x d S Q (f a r1)->Q1 (toU a) S2):eF r x d' S1 Q1 (mapR toU p):=by
 cases p with
 |error r'=>erw[h]
 |ok v=>
  let#[a,r1]:=v;erw[λS' c=>k a r1 S' rfl (st.trans c) h]
def eF.EB{p:PR U}{f:U->List Nat->PR U}{r d d':Nat}{x rest:List Nat}{S S1:bM}{Q Q1:KU}(h:eF r x d S Q (bindR p f))(st:lL r (mD x rest d') S S1)
  (k:∀a r1 S2,p=.ok (a,r1)->lL r (mD x r1 d') S S2->eF r x d S Q (f a r1)->Q1 a S2):eF r x d' S1 Q1 p:=by
 have:=eF.O2 (toU:=id) (Q1:=Q1) h st k;rw[NS] at this;erw[this]
def EC{x t:List Nat}{z:U}{v:Nat}{d':Nat}(h:z=.int (d':Nat)):SO.ins "Reader" (iz "depth" z [("text",.str x),("at",.int (x.length-t.length:Nat)),("depth",.int v)])=mD x t d':=by subst h;rfl
abbrev V8(br:Option (List Nat->PR U))(d:Nat):Spec:=λus S Q=>∃r x rest,us=[.loc r]/\S[r]?=ξ (mD x rest d)/\rest<:+x/\x.length<=1000/\cG [40] rest=ζ/\eF r x d S Q (Ud br rest)
abbrev V9(Γ:cv)(br:Option (List Nat->PR U))(d:Nat):Prop:=
 (br=ψ/\d=6)\/∃p,br=ξ p/\d<6/\oj br/\Γ "Reader.choice"=z9 [] p (d+1)
def Wa(Γ:cv)(G:GR Γ)(br:Option (List Nat->PR U))(d:Nat)(hb:V9 Γ br d):Keeps Γ iA 1 (V8 br d):=by
 rintro us S Q ⟨r,x,rest,rfl,hS,hx,hl,hs,q⟩;unfold iA;walk_at "pf";dsimp[<-i8,JQ hS];walk_at "pf";rcases hb with⟨rfl,rfl⟩|⟨p,rfl,hd,hbo,hch⟩
 .have e:((((6:Nat):Int))== 6)=ζ:=⋯
  dsimp[e,if_true];erw[q.elim]
 .have e:(((d:Nat):Int)== 6)=ϑ:=by dsimp[beq_eq_false_iff_ne];omega
  dsimp[e,ax,if_false];walk_at "pf";dsimp[cu hS,true_and];refine#[rfl,ca G.pass #[[40],d,r,x,rest,rfl,hS,hx,hl,?_]];unfold Ud at q;rwa[q.bind (lL.refl hS) λa r1 S1 e1 c1 q1=>?_]
  have hs1:=ig [40] rest;rw[e1] at hs1;have hx1:=hs1.1.trans hx;have g1:=c1.2.1;walk_at "pf";dsimp[cu g1];try walk_at "pf"
  dsimp[cu g1,EC (v:=d) (d':=d+1) (t:=r1) (x:=x) (z:=.int ((d:Nat)+1)) rfl];refine#[by first|trivial|rfl,#v[],?_];have c2:lL r (mD x r1 (d+1)) S (S1.set r (mD x r1 (d+1))):=c1.trans (lL.set g1);have g2:=c2.2.1;generalize S1.set r (mD x r1 (d+1))=S2 at c2 g2;walk_at "pf";dsimp[cu g2,true_and];refine#[rfl,ca hch #[r,x,r1,rfl,g2,hx1,hl,?_]];refine q1.EB c2 λt r2 S3 e3 c3 q3=>?_
  have hs3:=hbo p rfl r1;rw[e3] at hs3;have hx3:=hs3.1.trans hx1;have g3:=c3.2.1;try walk_at "pf"
  dsimp[cu g3,true_and];refine#[rfl,ca G.pass #[[41],d+1,r,x,r2,rfl,g3,hx3,hl,?_]];rwa[q3.O2 c3 λa r3 S4 e4 c4 q4=>?_]
  have g4:=c4.2.1;walk_at "pf";dsimp[cu g4];try walk_at "pf"
  dsimp[cu g4,EC (v:=d+1) (d':=d) (t:=r3) (x:=x) (z:=.int (((d+1:Nat):Int)-1)) (by congr 1;omega)];refine#[by first|trivial|rfl,#v[],?_];walk_at "pf";exact q4 _ (c4.trans (lL.set g4))
structure GA(Γ:cv)(br:Option (List Nat->PR U))(d:Nat):Prop extends GR3 Γ d where
 cl:Γ "Reader.sign_class"=O0 d
 bk:Γ "Reader.bracket"=V8 br d
def NW(Γ:cv)(br:Option (List Nat->PR U))(d:Nat)(G:GA Γ br d):Keeps Γ jP 0 (z9 [] (r8 br) d):=by
 rintro us S Q ⟨r,x,rest,rfl,hS,hx,hl,q⟩;unfold jP;walk_at "pf";dsimp[cu hS];refine#[#[by first|trivial|rfl,rfl],ca G.sees #[r,x,rest,d,_,rfl,hS,hx,hl,?_]];try walk_at "pf"
 unfold r8 at q;by_cases e1:cG [40] rest=ζ
 .dsimp[e1,if_true] at q ⊢
  walk_at "pf";dsimp[cu hS,true_and];exact#[rfl,ca G.bk #[r,x,rest,rfl,hS,hx,hl,e1,q]]
 .have e1':cG [40] rest=ϑ:=by simpa using e1
  dsimp[e1',ax,if_false] at q ⊢;walk_at "pf";dsimp[cu hS,true_and];refine#[rfl,ca G.sees #[r,x,rest,d,_,rfl,hS,hx,hl,?_]];try walk_at "pf"
  by_cases e2:cG [91] rest=ζ
  .dsimp[e2,if_true] at q ⊢
   walk_at "pf";dsimp[cu hS,true_and];refine#[rfl,ca G.cl #[r,x,rest,rfl,hS,hx,hl,?_]];rw[x8] at q;rwa[q.bind (toU:=U.str) (lL.refl hS) λa r1 S1 _ c1 q1=>?_]
   exact#[#v[],q1 S1 c1]
  .have e2':cG [91] rest=ϑ:=by simpa using e2
   dsimp[e2',ax,if_false] at q ⊢;walk_at "pf";dsimp[cu hS,true_and];refine#[rfl,ca G.sees #[r,x,rest,d,_,rfl,hS,hx,hl,?_]];try walk_at "pf"
   by_cases e3:cG [46] rest=ζ
   .dsimp[e3,if_true] at q ⊢
    walk_at "pf";dsimp[cu hS,true_and];refine#[rfl,ca G.pass #[[46],d,r,x,rest,rfl,hS,hx,hl,?_]];rwa[q.bind (lL.refl hS) λa r1 S1 _ c1 q1=>?_]
    walk_at "pf";refine ca G.Dj #[[10],rfl,λS2 x2=>?_];try walk_at "pf"
    exact#[#v[],q1 S2 (c1.trans (x2.chg c1.2.1))]
   .have e3':cG [46] rest=ϑ:=by simpa using e3
    dsimp[e3',ax,if_false] at q ⊢;walk_at "pf";dsimp[cu hS,true_and];refine#[rfl,ca G.ws #[MO,r,x,rest,rfl,hS,hx,hl,?_]];rw[x8] at q;rwa[q.bind (lL.refl hS) λa r1 S1 _ c1 q1=>?_]
    unfold kW;exact#[#v[],q1 S1 c1]
abbrev REP:List (List Nat×List Nat):=[([42],lz),([43],o7),([63],kA)]
def J0(h:[42,43,63].contains c=ζ):REP.lookup [c]=ξ (if c=42 then lz else if c=43 then o7 else kA):=by
 have:c=42\/c=43\/c=63:=by simpa using h
 rcases this with rfl|rfl|rfl<;>rfl
structure GP(Γ:cv)(br:Option (List Nat->PR U))(d:Nat):Prop extends GA Γ br d where
 at_:Γ "Reader.atom"=z9 [] (r8 br) d
def ya{Γ:cv}{r d:Nat}{x:List Nat}{S:bM}{fin:Env->bM->Prop}{e0:Option U}(hl:x.length<=1000)
  (cW:Env->bM->(Bool->bM->Prop)->Prop) (bW:Env->bM->(Env->bM->Prop)->Prop)
  (hc:∀t S1 rest k,S1[r]?=ξ (mD x rest d)->rest<:+x->k (cG [42,43,63] rest) S1->cW [e0,ξ t] S1 k)
  (hb:∀t S1 c rest k,S1[r]?=ξ (mD x (c::rest) d)->(c::rest)<:+x->[42,43,63].contains c=ζ->(∀S2,lL r (mD x rest d) S1 S2->k [e0,ξ (JY c t)] S2)->bW [e0,ξ t] S1 k):
  ∀(rest:List Nat)(t:U)(S1:bM),rest<:+x->lL r (mD x rest d) S S1->(∀S2,lL r (mD x (l7 t rest).2 d) S S2->fin [e0,ξ (l7 t rest).1] S2)->yS cW bW fin (rest.length+1) [e0,ξ t] S1
 |[],t,S1,hx,c1,hf=>by
  rwa[hc t S1 [] _ c1.2.1 hx ?_];dsimp[cG,ax,if_false];erw[hf S1 c1]
 |c::rest,t,S1,hx,c1,hf=>by
  rwa[hc t S1 _ _ c1.2.1 hx ?_];by_cases e:[42,43,63].contains c=ζ
  .dsimp[cG,e,if_true]
   rwa[hb t S1 c rest _ c1.2.1 hx e λS2 c2=>?_]
   refine ya (Γ:=Γ) hl cW bW hc hb rest _ S2 (zh hx) (c1.trans c2) ?_;have:l7 t (c::rest)=l7 (JY c t) rest:=by
    conv=>lhs;unfold l7
    rw[if_pos e]
   rw[this] at hf;erw[hf]
  .have e':[42,43,63].contains c=ϑ:=by simpa using e
   dsimp[cG,e',ax,if_false];have:l7 t (c::rest)=(t,c::rest):=by
    unfold l7;rw[if_neg e]
   rw[this] at hf;erw[hf S1 c1]
def Gs(Γ:cv)(br:Option (List Nat->PR U))(d:Nat)(hbo:oj br)(G:GP Γ br d):Keeps Γ iU 1 (z9 [] (js br) d):=by
 rintro us S Q ⟨r,x,rest,rfl,hS,hx,hl,q⟩;unfold iU;walk_at "pl";dsimp[cu hS,G.at_];refine#[#[by first|trivial|rfl,rfl],r,x,rest,rfl,hS,hx,hl,?_];unfold js at q;refine q.EB (lL.refl hS) λt r1 S1 e1 c1 q1=>?_
 have hs1:=vR hbo rest;rw[e1] at hs1;have hx1:=hs1.1.trans hx;refine#[r1.length+1,ya (Γ:=Γ) (S:=S) hl _ _ ?_ ?_ r1 t S1 hx1 c1 ?_]
 .intro t2 S2 rest2 k g2 hx2 hk
  try walk_at "pl"
  dsimp[cu g2,G.sees,true_and];refine#[rfl,r,x,rest2,d,_,rfl,g2,hx2,hl,?_];try walk_at "pl"
  erw[hk]
 .intro t2 S2 c rest2 k g2 hx2 hc hk
  try walk_at "pl"
  dsimp[cu g2,G.pass,true_and];refine#[rfl,[42,43,63],d,r,x,_,rfl,g2,hx2,hl,?_];have e2:eD [42,43,63] (c::rest2)= .ok (c,rest2):=by unfold eD;dsimp only;rw[if_pos hc]
  show eF r x d S2 _ (mapR kW (eD [42,43,63] (c::rest2)))
  rw[e2]
  intro S3 c3;unfold kW;rw[yP]
  have:=J0 hc;unfold REP at this;rw[this,bg]
  exact#[#v[],hk S3 c3]
 .intro S2 c2
  try walk_at "pl"
  erw[q1 S2 c2]
def tB(hp:∀rest,mE rest (p rest))
  (cW:Env->bM->(Bool->bM->Prop)->Prop) (bW:Env->bM->(Env->bM->Prop)->Prop) (h0:S.length<=n0) (h1:n0≠r)
  (hc:∀S1 rest k,S1[r]?=ξ (mD x rest d)->rest<:+x->k (!stop rest) S1->cW env S1 k)
  (hb:∀S1 rest acc k,S1[r]?=ξ (mD x rest d)->S1[n0]?=ξ (.lst acc)->acc.length<=2000->rest<:+x->stop rest=ϑ->eF r x d S1 (λt S2=>k env (S2.set n0 (.lst (acc++[t])))) (p rest)->bW env S1 k):
  ∀(m:Nat)(acc:List U)(rest:List Nat)(S1:bM),rest.length<m->acc.length+rest.length<=2000->rest<:+x->lL r (mD x rest d) S S1->S1[n0]?=ξ (.lst acc) ->
   (∀ts r2 S2,dB stop p m acc rest=.ok (ts,r2)->lL r (mD x r2 d) S S2->r2<:+x->S2[n0]?=ξ (.lst ts)->ts.length<=2000->acc.length<=ts.length->fin env S2)->(∀r',dB stop p m acc rest=.error r'->False) ->
   yS cW bW fin m env S1
 |0,_,_,_,h,_,_,_,_,_,_=>∅
 |m+1,acc,rest,S1,h,ht,hx,c1,hn,hf,he=>by
  rwa[hc S1 rest _ c1.2.1 hx ?_];by_cases e:stop rest=ζ
  .dsimp[e,bX,ax,if_false]
   erw[hf acc rest S1 (by unfold dB;rw[if_pos e]) c1 hx hn ∅ (ar _)]
  .have e':stop rest=ϑ:=by simpa using e
   dsimp[e',cz,if_true];rwa[hb S1 rest acc _ c1.2.1 hn ∅ hx e' ?_];have hs:=hp rest;cases q:p rest with
   |error r'=>
    erw[he r' (by unfold dB;rw[if_neg e,q];rfl)]
   |ok v=>
    let#[t,r1]:=v;rw[q] at hs;intro S2 c2;have hE:dB stop p (m+1) acc rest=dB stop p m (acc++[t]) r1:=by
     conv=>lhs;unfold dB
     rw[if_neg e,q];rfl
    have hn2:S2[n0]?=ξ (.lst acc):=(c2.2.2 n0 (aS hn) h1).trans hn;have c3:lL r (mD x r1 d) S (S2.set n0 (.lst (acc++[t]))):=by
     have c12:=c1.trans c2;refine#[~~~c12.1,%[ao h1|c12.2.1],λm hm ne=>?_];rw[ao ∅]
     erw[c12.2.2 m hm ne]
    refine tB hp cW bW h0 h1 hc hb m (acc++[t]) r1 _ (by have:=hs.2;omega) (by simp;have:=hs.2;omega) (hs.1.trans hx) c3 (gs hn2) (λts r2 S3 e3 c4 h3 h4 h5 h6=>hf ts r2 S3 (%[hE|e3]) c4 h3 h4 h5 (by simp at h6;omega)) (λr' e3=>he r' (%[hE|e3]))
structure GW(Γ:cv)(br:Option (List Nat->PR U))(d:Nat):Prop extends GP Γ br d where
 rp:Γ "Reader.repeat"=z9 [] (js br) d
 jn:Γ "joined"=ly
def J1{x rest:List Nat}(h:rest<:+x):decide (((x.length-rest.length:Nat):Int)<x.length)= !rest.isEmpty:=by
 have:=OZ h;cases rest with
 |nil=>simp at this ⊢
 |cons a b=>dsimp[ne_eq,reduceCtorEq,not_false_eq_true,iff_true] at this;rw[decide_eq_true this];rfl
def Se(Γ:cv)(br:Option (List Nat->PR U))(d:Nat)(hbo:oj br)(G:GW Γ br d):Keeps Γ kJ 1 (z9 [] (wR br) d):=by
 rintro us S Q ⟨r,x,rest,rfl,hS,hx,hl,q⟩;unfold kJ;walk_at "pl";dsimp[cu hS,G.rp];refine#[#[by first|trivial|rfl,rfl],r,x,rest,rfl,hS,hx,hl,?_];unfold wR at q;refine q.EB (lL.refl hS) λt r1 S1 e1 c1 q1=>?_
 have hs1:=nI hbo rest;rw[e1] at hs1;have hx1:=hs1.1.trans hx;have hr1:r1.length<=1000:=aH hx1.length_le hl;refine#[#v[],?_];have hrl:=aS hS;have c2:lL r (mD x r1 d) S (S1++[.lst [t]]):=c1.trans ((Ext.app _).chg c1.2.1);have hn:(S1++[SO.lst [t]])[S1.length]?=ξ (.lst [t]):=by simp
 have hne:S1.length≠r:=by have:=c1.1;omega
 refine#[r1.length+1,tB (S:=S) (n0:=S1.length) (stop:=jt) (p:=js br) (nI hbo) _ _ c1.1 hne ?_ ?_ (r1.length+1) [t] r1 _ ∅ ((·)) hx1 c2 hn ?_ ?_]
 .intro S2 rest2 k g2 hx2 hk
  try walk_at "pl"
  dsimp[<-i8,zg g2,Bj g2];try walk_at "pl"
  refine#[∅,?_];dsimp[J1 hx2];unfold jt at hk;cases rest2 with
  |nil=>simpa using hk
  |cons c t2=>
   dsimp[HF,cz,if_true];dsimp[cu g2,G.sees,true_and];refine#[rfl,r,x,_,d,_,rfl,g2,hx2,hl,?_];try walk_at "pl"
   simpa using hk
 .intro S2 rest2 acc k g2 hn2 ha hx2 hst hk
  try walk_at "pl"
  dsimp[hn2,cu g2,G.rp,true_and];try walk_at "pl"
  refine#[rfl,r,x,rest2,rfl,g2,hx2,hl,?_];cases z:js br rest2 with
  |error r'=>rw[z] at hk;erw[hk]
  |ok v=>
   rw[z] at hk;intro S3 c3;have hn3:S3[S1.length]?=ξ (.lst acc):=(c3.2.2 _ (aS hn2) hne).trans hn2;dsimp[hn3];try walk_at "pl"
   exact#[∅,hk S3 c3]
 .intro ts r2 S2 e2 c3 hx2 hn2 hts ht1
  rw[e2] at q1;try walk_at "pl"
  dsimp[G.jn];refine#[zj,S1.length,ts,rfl,hn2,?_,∅,q1 S2 c3];intro z;rw[z] at ht1;simp at ht1
 .intro r' e2
  rw[e2] at q1;erw[q1]
structure GC(Γ:cv)(br:Option (List Nat->PR U))(d:Nat):Prop extends GW Γ br d where
 rw_:Γ "Reader.row"=z9 [] (wR br) d
def Gu(Γ:cv)(br:Option (List Nat->PR U))(d:Nat)(hbo:oj br)(G:GC Γ br d):Keeps Γ iT 1 (z9 [] (iC br) d):=by
 rintro us S Q ⟨r,x,rest,rfl,hS,hx,hl,q⟩;unfold iT;walk_at "pl";dsimp[cu hS,G.rw_];refine#[#[by first|trivial|rfl,rfl],r,x,rest,rfl,hS,hx,hl,?_];unfold iC at q;refine q.EB (lL.refl hS) λt r1 S1 e1 c1 q1=>?_
 have hs1:=zk hbo rest;rw[e1] at hs1;have hx1:=hs1.1.trans hx;have hr1:r1.length<=1000:=aH hx1.length_le hl;refine#[#v[],?_];have hrl:=aS hS;have c2:lL r (mD x r1 d) S (S1++[.lst [t]]):=c1.trans ((Ext.app _).chg c1.2.1);have hn:(S1++[SO.lst [t]])[S1.length]?=ξ (.lst [t]):=by simp
 have hne:S1.length≠r:=by have:=c1.1;omega
 refine#[r1.length+1,tB (S:=S) (n0:=S1.length) (stop:=stopOr) (p:=Sb br) (JZ hbo) _ _ c1.1 hne ?_ ?_ (r1.length+1) [t] r1 _ ∅ ((·)) hx1 c2 hn ?_ ?_]
 .intro S2 rest2 k g2 hx2 hk
  try walk_at "pl"
  dsimp[cu g2,G.sees,true_and];refine#[rfl,r,x,_,d,_,rfl,g2,hx2,hl,?_];try walk_at "pl"
  simpa[stopOr] using hk
 .intro S2 rest2 acc k g2 hn2 ha hx2 hst hk
  try walk_at "pl"
  dsimp[cu g2,G.pass,true_and];refine#[rfl,[124],d,r,x,rest2,rfl,g2,hx2,hl,?_];unfold Sb at hk;rwa[eF.bind (f:=λ_ r=>wR br r) hk (lL.refl g2) λa r3 S3 e3 c3 q3=>?_]
  have hs3:=ig [124] rest2;rw[e3] at hs3;have hx3:=hs3.1.trans hx2;have g3:=c3.2.1;have hn3:S3[S1.length]?=ξ (.lst acc):=(c3.2.2 _ (aS hn2) hne).trans hn2;dsimp[hn3,cu g3,G.rw_,true_and];try walk_at "pl"
  refine#[rfl,r,x,r3,rfl,g3,hx3,hl,?_];cases z:wR br r3 with
  |error r'=>rw[z] at q3;erw[q3]
  |ok v=>
   rw[z] at q3;intro S4 c4;have hn4:S4[S1.length]?=ξ (.lst acc):=(c4.2.2 _ (aS hn3) hne).trans hn3;dsimp[hn4];try walk_at "pl"
   exact#[∅,q3 S4 (c3.trans c4)]
 .intro ts r2 S2 e2 c3 hx2 hn2 hts ht1
  rw[e2] at q1;try walk_at "pl"
  dsimp[G.jn];refine#[O1,S1.length,ts,rfl,hn2,?_,∅,q1 S2 c3];intro z;rw[z] at ht1;simp at ht1
 .intro r' e2
  rw[e2] at q1;erw[q1]
abbrev nK:Spec:=λus S Q=>∃r x,us=[.loc r,.str x]/\S[r]?=ξ (.ins "Reader" [])/\Q .cf (S.set r (mD x x 0))
def J4(Γ:cv):Keeps Γ jN 0 nK:=by
 rintro us S Q ⟨r,x,rfl,hS,q⟩;unfold jN;walk_at "pl";have hr:=aS hS;dsimp[hS,b7,iz];refine#[#v[],?_];have g1:=gs (o':=SO.ins "Reader" [("text",U.str x)]) hS;generalize hS1:S.set r (SO.ins "Reader" [("text",U.str x)])=S1 at g1;dsimp[g1,b7];refine#[#v[],?_];have g2:=gs (o':=SO.ins "Reader" (iz "at" (U.int 0) [("text",U.str x)])) g1;generalize hS2:S1.set r (SO.ins "Reader" (iz "at" (U.int 0) [("text",U.str x)]))=S2 at g2;dsimp[g2,b7];refine#[by simp[iz],?_];subst hS2;subst hS1;rw[tQ,tQ]
 have e:SO.ins "Reader" (iz "depth" (.int 0) (iz "at" (.int 0) [("text",.str x)]))=mD x x 0:=by
  unfold mD;rw[bZ]
  rfl
 simpa[<-e] using q
abbrev Dk:Spec:=λus S Q=>∃x,us=[.str x]/\x.length<=1000/\match vQ x with
 |.ok (t,_)=>∀S',Ext S S'->Q t S'
 |.error r=>False
def NX(Γ:cv)(h1:Γ "Reader.__init__"=nK)(h2:Γ "Reader.choice"=z9 [] (iC (t8 6)) 0):Keeps Γ yW 2 Dk:=by
 rintro us S Q ⟨x,rfl,hl,q⟩;unfold yW;walk_at "pl";dsimp[h1,h2];have hn:(S++[SO.ins "Reader" []])[S.length]?=ξ (.ins "Reader" []):=by simp
 refine#[S.length,x,rfl,hn,rfl,?_];try walk_at "pl"
 have g1:=gs (o':=mD x x 0) hn;have x1:Old S.length S ((S++[SO.ins "Reader" []]).set S.length (mD x x 0)):=by
  refine#[#v[],λn h ne=>?_];rw[ao (cM ne),ah h]
 generalize (S++[SO.ins "Reader" []]).set S.length (mD x x 0)=S1 at g1 x1;dsimp[cu g1,true_and];have toE:∀{S'},Old S.length S S'->Ext S S':=λo=>#[o.1,λn h=>o.2 n h ∅]
 refine#[rfl,S.length,x,x,rfl,g1,bN _,hl,?_];unfold vQ at q;cases z:iC (t8 6) x with
 |error r'=>
  rw[z] at q;erw[q]
 |ok v=>
  let#[t,r1]:=v;have hs:=vS (tw 6) x;rw[z] at q hs;intro S2 c2;have g2:=c2.2.1;dsimp[<-i8,Bj g2];try walk_at "pl"
  refine#[∅,?_];dsimp[J1 hs.1];dsimp[bindR] at q;cases r1 with
  |nil=>
   dsimp[List.isEmpty_nil,bX,ax,if_false];try walk_at "pl"
   simp at q;erw[q S2 (toE (x1.trans c2.old))]
  |cons c t2=>
   dsimp[HF,cz,if_true];dsimp[reduceCtorEq,if_false] at q
section
variable{d f c:Nat}{r rest:List Nat}
abbrev hd(rest:List Nat)(l:List Nat):Prop:=cG l rest=ζ
end
section
variable{α:Type}
def NY(h0:0<=i)(h1:i<l.length):∃a,sW l i=ξ a/\a∈l:=by
 obtain⟨n,rfl⟩:∃n:Nat,i=n:=#[i.toNat,∅]
 have h2:n<l.length:=∅
 exact#[l[n],by rw[kH,ab h2],dJ h2]
def vT(h0:0<=i)(h1:i<l.length)(h:∀a∈l,r a):opt (sW l i) r:=by
 let#[a,e,m]:=NY h0 h1;rw[e];erw[h a m]
end
namespace uF
abbrev Dl:Spec:=λus S Q=>∃ns k,us=[.sV ns,.int k]/\ns.length<=1000/\∀m,Q (.int m) S
def NZ(Γ:cv):Keeps Γ lW 0 Dl:=by
 rintro us S Q ⟨ns,k,rfl,hl,q⟩;unfold lW;walk_at "pl";by_cases h:ns.length=0
 .dsimp[h,bne_self_eq_false,ax,if_false]
  try walk_at "pl"
  erw[q 0]
 .have h':(ns.length !=0)=ζ:=by simpa using h
  dsimp[h',if_true];try walk_at "pl"
  refine#[∅,∅,∅,?_];erw[vT (pA _ ∅) (mm _ ∅) (λa _=>q a)]
abbrev yb:Spec:=λus S Q=>∃ns k,us=[.sV ns,.int k]/\ns.length<=1000/\∀m:Int,0<=m->m<4294967231->Q (.int m) S
def Sf(Γ:cv)(h1:Γ "_law_cell"=Dl):Keeps Γ ny 1 yb:=by
 rintro us S Q ⟨ns,k,rfl,hl,q⟩;unfold ny;walk_at "pl";dsimp[h1];refine#[ns,k,rfl,hl,λc=>?_];walk_at "pl";refine#[∅,∅,∅,∅,∅,∅,∅,?_];erw[q _ ∅ ∅]
abbrev Ka:Spec:=λus S Q=>us=[]/\∀G,G=SG->Q (.str G) S
def Sg(Γ:cv):Keeps Γ nA 1 Ka:=by
 rintro us S Q ⟨rfl,q⟩;unfold nA;walk_at "pl";exact#[⋯,q _ rfl]
end uF
namespace uF
noncomputable abbrev Gn:List Nat:=[111,110,101]
noncomputable abbrev zj:List Nat:=[114,111,119]
noncomputable abbrev O1:List Nat:=[111,114]
end uF
def nM{cW:Env->bM->(Bool->bM->Prop)->Prop}{bW:Env->bM->(Env->bM->Prop)->Prop}{fin:Env->bM->Prop}(I:Nat->Env->bM->Prop)
  (h:∀n env S k,I n env S->(∀m env' S',m<n->I m env' S'->k env' S')->cW env S (λt S1=>if t=ζ then bW env S1 k else fin env S1)):
  ∀N n env S,n<N->I n env S->yS cW bW fin N env S
 |0,_,_,_,hn,_=>∅
 |N+1,n,env,S,hn,hi=>h n env S _ hi λm env' S' hm hi'=>nM I h N m env' S' ∅ hi'
def ED(I:Nat->Env->bM->Prop)(hg:∀i env S,I i env S->g S)(l:List U)
  (h:∀i u env S k,l[i]?=ξ u->I i env S->(∀env' S',I (i+1) env' S'->k env' S')->turn u env S k) (hf:∀env S,I l.length env S->fin env S):
  ∀n i env S,i+n=l.length->I i env S->wN g turn fin (l.drop i) env S
 |0,i,env,S,e,hi=>by
  rw[jD ∅]
  have:i=l.length:=∅
  subst this;exact#[hg _ _ _ hi,hf _ _ hi]
 |n+1,i,env,S,e,hi=>by
  have hlt:i<l.length:=∅
  rw[fu hlt]
  exact#[hg _ _ _ hi,h i _ env S _ (ab hlt) hi λenv' S' hi'=>ED I hg l h hf n (i+1) env' S' ∅ hi']
def fj{g:bM->Prop}{turn:U->Env->bM->(Env->bM->Prop)->Prop}{fin:Env->bM->Prop}(I:Nat->Env->bM->Prop)(hg:∀i env S,I i env S->g S)(l:List U)
  (h:∀i u env S k,l[i]?=ξ u->I i env S->(∀env' S',I (i+1) env' S'->k env' S')->turn u env S k) (hf:∀env S,I l.length env S->fin env S)
  {env:Env}{S:bM} (hi:I 0 env S):wN g turn fin l env S:=ED I hg l h hf l.length 0 env S ∅ hi
def Bq{n i:Nat}{u:U}(h:((bC n).map λk=>U.int (k:Nat))[i]?=ξ u):u=.int i/\i<n:=by
 rw[aB] at h;have hl:i<n:=by
  rcases B9 i n with z|z
  .erw[z]
  .rw[cL (~~~z)] at h;simp at h
 rw[eh hl] at h;simp at h;exact#[h.symm,hl]
namespace uF
end uF
abbrev vU(br:Option (List Nat->PR U))(x:List Nat)(t:U):Prop:=∀rest,r8 br (x++rest)= .ok (t,rest)
abbrev N0(t:U)(ms:List Nat):U:=ms.foldl (λt c=>JY c t) t
abbrev vV(br:Option (List Nat->PR U))(x:List Nat)(t:U):Prop:=∃a ta ms,x=a++ms/\vU br a ta/\(∀c∈ms,c∈[42,43,63])/\t=N0 ta ms
def EE:∀(ms:List Nat)(t:U)(rest:List Nat),(∀c∈ms,c∈[42,43,63])->cG [42,43,63] rest=ϑ->l7 t (ms++rest)=(N0 t ms,rest)
 |[],t,rest,_,h=>by
  cases rest with
  |nil=>rfl
  |cons c r=>
   have h:[42,43,63].contains c=ϑ:=h;rw[kX,l7,h]
   rfl
 |m::ms,t,rest,hm,h=>by
  have e:[42,43,63].contains m=ζ:=gW.mpr (hm m (aN ..));rw[nU,l7,if_pos e,EE ms _ rest (λc hc=>hm c (av _ hc)) h]
  rfl
def Kb(h:vV br x t)(hr:cG [42,43,63] rest=ϑ):js br (x++rest)= .ok (t,rest):=by
 let#[a,ta,ms,rfl,ha,hm,rfl]:=h;unfold js;rw[bw,ha (ms++rest)]
 dsimp[bindR];rw[EE ms ta rest hm hr]
def Gv(hb:oj br)(h:vU br x t):∃c r,x=c::r/\c∉[42,43,63,124,41]:=by
 have h0:=h [];have hs:=vR hb (x++[]);rw[h0] at hs;cases x with
 |nil=>have:=hs.2;simp at this
 |cons c r=>
  refine#[c,r,rfl,λhc=>?_];have e1:cG [40] (c::r++[])=ϑ:=(by decide:∀c∈[42,43,63,124,41],[40].contains c=ϑ) c hc;have e2:cG [91] (c::r++[])=ϑ:=(by decide:∀c∈[42,43,63,124,41],[91].contains c=ϑ) c hc;have e3:cG [46] (c::r++[])=ϑ:=(by decide:∀c∈[42,43,63,124,41],[46].contains c=ϑ) c hc;have e4:cG [92] (c::r++[])=ϑ:=(by decide:∀c∈[42,43,63,124,41],[92].contains c=ϑ) c hc;unfold r8 at h0;rw[e1,e2,e3] at h0;dsimp[ax,if_false] at h0;rw[Bm e4] at h0;have e5:eD (d9 MO) (c::r++[])= .error (c::r++[]):=by
   have hn:(d9 MO).contains c=ϑ:=by
    have:c∈MO:=(by decide:∀c∈[42,43,63,124,41],c∈MO) c hc;unfold d9;dsimp[List.contains_eq_mem,decide_eq_false_iff_not];intro q;have:=(fw.mp q).2
    simp_all
   show(if (d9 MO).contains c=ζ then _ else _)=_
   rw[if_neg (by rw[hn];simp)]
   rfl
  rw[e5] at h0;cases h0
def Br(hb:oj br)(h:vV br x t):∃c r,x=c::r/\c∉[42,43,63,124,41]:=by
 let#[a,ta,ms,rfl,ha,hm,rfl]:=h;let#[c,r,rfl,hc]:=Gv hb ha;exact#[c,r++ms,rfl,hc]
inductive r9(br:Option (List Nat->PR U)):List Nat->List U->Prop
 |nil:r9 br [] []
 |cons{x y:List Nat}{t:U}{ts:List U}:vV br x t->r9 br y ts->r9 br (x++y) (t::ts)
def t9(hb:oj br)(h:r9 br y ts)(hr:jt rest=ζ):cG [42,43,63] (y++rest)=ϑ:=by
 cases h with
 |nil=>
  cases rest with
  |nil=>rfl
  |cons c r=>
   have:[124,41].contains c=ζ:=by simpa[jt,cG] using hr
   show [42,43,63].contains c=ϑ
   simp at this ⊢;omega
 |cons a b=>
  let#[c,r,rfl,hc]:=Br hb a;show [42,43,63].contains c=ϑ;simp at hc ⊢;omega
def yc(hb:oj br)(hr:jt rest=ζ):∀{y:List Nat}{ts:List U},r9 br y ts->∀(n:Nat)(acc:List U),y.length<n->dB jt (js br) n acc (y++rest)= .ok (acc++ts,rest)
 |_,_,.nil,n,acc,hn=>by
  cases n with
  |zero=>omega
  |succ n=>rw[dB,kX,if_pos hr,bT]
 |_,_,.cons (x:=x) (y:=y) (t:=t) (ts:=ts) a b,n,acc,hn=>by
  let#[c,r,rfl,hc]:=Br hb a;cases n with
  |zero=>omega
  |succ n=>
   have hs:jt (c::r++y++rest)=ϑ:=by
    unfold jt;have:[124,41].contains c=ϑ:=by simp at hc ⊢;omega
    show(ϑ||[124,41].contains c)=ϑ
    rw[this];rfl
   rw[dB,if_neg (by rw[hs];simp),bw,Kb a (t9 hb b hr)]
   dsimp[bindR];rw[yc hb hr b n (acc++[t]) (by simp at hn;omega),bw]
   rfl
abbrev vW(br:Option (List Nat->PR U))(x:List Nat)(t:U):Prop:=∃ts,ts≠[]/\r9 br x ts/\t=pS zj ts
def Kc(hb:oj br)(h:vW br x t)(hr:jt rest=ζ):wR br (x++rest)= .ok (t,rest):=by
 let#[ts,hn,h,rfl]:=h;cases h with
 |nil=>erw[absurd rfl hn]
 |@cons x y t ts a b=>
  unfold wR;rw[bw,Kb a (t9 hb b hr)]
  dsimp[bindR];rw[yc hb hr b _ [t] ((·))]
  rfl
inductive vX(br:Option (List Nat->PR U)):List Nat->List U->Prop
 |nil:vX br [] []
 |cons{x y:List Nat}{t:U}{ts:List U}:vW br x t->vX br y ts->vX br (124::x++y) (t::ts)
abbrev Gx(br:Option (List Nat->PR U))(x:List Nat)(t:U):Prop:=∃a b t0 ts,x=a++b/\vW br a t0/\vX br b ts/\t=pS O1 (t0::ts)
abbrev Kd(rest:List Nat):Prop:=rest=[]\/∃r,rest=41::r
def yd(h:vX br y ts)(hr:Kd rest):jt (y++rest)=ζ:=by
 cases h with
 |nil=>rcases hr with rfl|⟨r,rfl⟩<;>rfl
 |cons a b=>rfl
def ye(hb:oj br)(hr:Kd rest):∀{y:List Nat}{ts:List U},vX br y ts->∀(n:Nat)(acc:List U),y.length<n->dB stopOr (Sb br) n acc (y++rest)= .ok (acc++ts,rest)
 |_,_,.nil,n,acc,hn=>by
  have e:stopOr rest=ζ:=by rcases hr with rfl|⟨r,rfl⟩<;>rfl
  cases n with
  |zero=>omega
  |succ n=>rw[dB,kX,if_pos e,bT]
 |_,_,.cons (x:=x) (y:=y) (t:=t) (ts:=ts) a b,n,acc,hn=>by
  cases n with
  |zero=>omega
  |succ n=>
   have e:Sb br (124::x++y++rest)= .ok (t,y++rest):=by
    unfold Sb;have:eD [124] (124::x++y++rest)= .ok (124,x++(y++rest)):=by
     rw[bw];rfl
    rw[this]
    dsimp[bindR];erw[Kc hb a (yd b hr)]
   rw[dB,if_neg (by simp[stopOr,cG]),e]
   dsimp[bindR];rw[ye hb hr b n (acc++[t]) (by simp at hn;omega),bw]
   rfl
def yf(hb:oj br)(h:Gx br x t)(hr:Kd rest):iC br (x++rest)= .ok (t,rest):=by
 let#[a,b,t0,ts,rfl,ha,hb',rfl]:=h;unfold iC;rw[bw,Kc hb ha (yd hb' hr)]
 dsimp[bindR];rw[ye hb hr hb' _ [t0] ((·))]
 rfl
def EF(h:Gx (t8 k) x t):vU (t8 (k+1)) (40::(x++[41])) t:=by
 intro rest;unfold r8;rw[if_pos (by rfl)]
 unfold Ud t8;show bindR (eD [40] (40::(x++[41]++rest))) _=_;have e1:eD [40] (40::(x++[41]++rest))= .ok (40,x++(41::rest)):=by
  rw[bw];rfl
 rw[e1]
 dsimp[bindR];rw[yf (tw k) h (.inr #[rest,rfl])]
 rfl
def N1(h:Gx (t8 6) x t):vQ x=.ok (t,[]):=by
 unfold vQ;have:=yf (tw 6) h (rest:=[]) (.inl rfl);rw[bT] at this;rw[this]
 rfl
end PL
namespace PL.nW
inductive Mk where|star|plus|may
inductive Tr where|one (n:Nat) (l:List Nat)|row (a b:Tr)|or (a b:Tr)|rep (m:Mk) (a:Tr)
noncomputable section
abbrev null:Tr->Bool
 |.one _ _=>ϑ
 |.row a b=>null a&&null b
 |.or a b=>null a||null b
 |.rep .plus a=>null a
 |.rep _ _=>ζ
abbrev dv(K:List Tr):Bool:=K.all null
abbrev FS:Tr->Nat->Bool
 |.one n _,p=>p==n
 |.row a b,p=>FS a p||(null a&&FS b p)
 |.or a b,p=>FS a p||FS b p
 |.rep _ a,p=>FS a p
abbrev nY:List Tr->Nat->Bool
 |[],_=>ϑ
 |t::K,p=>FS t p||(null t&&nY K p)
abbrev IN:Tr->Nat->Bool
 |.one n _,p=>p==n
 |.row a b,p=>IN a p||IN b p
 |.or a b,p=>IN a p||IN b p
 |.rep _ a,p=>IN a p
abbrev sgn:Tr->Nat->List Nat
 |.one _ l,_=>l
 |.row a b,p=>if IN a p then sgn a p else sgn b p
 |.or a b,p=>if IN a p then sgn a p else sgn b p
 |.rep _ a,p=>sgn a p
abbrev more:Mk->Tr->List Tr
 |.may,_=>[]
 |_,a=>[.rep .star a]
abbrev cont:Tr->Nat->List Tr
 |.one _ _,_=>[]
 |.row a b,p=>if IN a p then cont a p++[b] else cont b p
 |.or a b,p=>if IN a p then cont a p else cont b p
 |.rep m a,p=>cont a p++more m a
abbrev ct(t:Tr)(p:Nat):List Tr:=if p=0 then [t] else cont t p
abbrev dF:Tr->Nat->List (List Tr)
 |.one _ l,c=>if l.contains c then [[]] else []
 |.or a b,c=>dF a c++dF b c
 |.row a b,c=>(dF a c).map (·++[b])++if null a then dF b c else []
 |.rep m a,c=>(dF a c).map (·++more m a)
abbrev dR:List Tr->Nat->List (List Tr)
 |[],_=>[]
 |t::K,c=>(dF t c).map (·++K)++if null t then dR K c else []
abbrev size:Tr->Nat
 |.one _ _=>1
 |.row a b=>size a+size b
 |.or a b=>size a+size b
 |.rep _ a=>size a
abbrev bV:Tr->Nat
 |.one _ _=>0
 |.row a b=>max (bV a) (bV b)+1
 |.or a b=>max (bV a) (bV b)+1
 |.rep _ a=>bV a+1
abbrev om:Nat->Tr->Prop
 |n,.one k _=>k=n
 |n,.row a b=>om n a/\om (n+size a) b
 |n,.or a b=>om n a/\om (n+size a) b
 |n,.rep _ a=>om n a
abbrev nN:Tr->List (List Nat)
 |.one _ l=>[l]
 |.row a b=>nN a++nN b
 |.or a b=>nN a++nN b
 |.rep _ a=>nN a
end
def gc:∀t,(nN t).length=size t
 |.one _ _=>rfl
 |.row a b=>by simp[nN,size,gc a,gc b]
 |.or a b=>by simp[nN,size,gc a,gc b]
 |.rep _ a=>by simp[nN,size,gc a]
def gf:∀{t n p},om n t->(IN t p=ζ↔n<=p/\p<n+size t)
 |.one k l,n,p,h=>by
  have h:k=n:=h;subst h;dsimp[IN,size,beq_iff_eq];omega
 |.row a b,n,p,h=>by
  dsimp[IN,size,bq,gf h.1,gf h.2];omega
 |.or a b,n,p,h=>by
  dsimp[IN,size,bq,gf h.1,gf h.2];omega
 |.rep m a,n,p,h=>gf (t:=a) h
def qK:∀{t n p},om n t->IN t p=ζ->(nN t)[p-n]?=ξ (sgn t p)
 |.one k l,n,p,h,i=>by
  have h:k=n:=h;subst h;have:p=k:=by simpa[IN] using i
  simp[this,nN,sgn]
 |.row a b,n,p,h,i=>by
  have e1:=gf (p:=p) h.1;have e2:=gf (p:=p) h.2;have l1:=gc a;dsimp[nN,sgn];by_cases z:IN a p=ζ
  .rw[if_pos z,ah (by have:=e1.mp z;omega)];erw[qK h.1 z]
  .have z2:IN b p=ζ:=by simpa[IN,z] using i
   have:=e2.mp z2;rw[if_neg z,ay ∅,<-qK h.2 z2]
   congr 1;omega
 |.or a b,n,p,h,i=>by
  have e1:=gf (p:=p) h.1;have e2:=gf (p:=p) h.2;have l1:=gc a;dsimp[nN,sgn];by_cases z:IN a p=ζ
  .rw[if_pos z,ah (by have:=e1.mp z;omega)];erw[qK h.1 z]
  .have z2:IN b p=ζ:=by simpa[IN,z] using i
   have:=e2.mp z2;rw[if_neg z,ay ∅,<-qK h.2 z2]
   congr 1;omega
 |.rep m a,n,p,h,i=>qK (t:=a) h i
def gy(h:om n a/\om (n+size a) b)(i:IN b p=ζ):¬IN a p=ζ:=λz=>by
 have:=(gf h.1).mp z;have:=(gf h.2).mp i;omega
def ju:∀{t p},FS t p=ζ->IN t p=ζ
 |.one k l,p,h=>h
 |.row a b,p,h=>by
  dsimp[FS,bq,aj] at h;dsimp[IN,bq];erw[h.imp ju λz=>ju z.2]
 |.or a b,p,h=>by
  dsimp[FS,bq] at h;dsimp[IN,bq];erw[h.imp ju ju]
 |.rep m a,p,h=>ju (t:=a) h
def l9:∀{K L:List Tr}{p:Nat},nY (K++L) p=(nY K p||(dv K&&nY L p))
 |[],L,p=>by simp[nY,dv]
 |t::K,L,p=>by
  dsimp[nU,nY,l9,dv,bG];cases null t<;>cases FS t p<;>simp
def tD:∀{K L:List Tr}{c:Nat},dR (K++L) c=(dR K c).map (·++L)++if dv K then dR L c else []
 |[],L,c=>by simp[dR,dv]
 |t::K,L,c=>by
  dsimp[nU,dR,tD,dv,bG];by_cases z:null t=ζ<;>simp[z,dv,aI,cJ]
def sd:dv (K++L)=(dv K&&dv L):=by simp[dv]
def Ke:nY (more m a) p=ζ->FS a p=ζ:=by
 cases m<;>simp[more,nY,FS]
def fM:∀{t q p},nY (cont t q) p=ζ->IN t p=ζ
 |.one k l,q,p,h=>by simp[cont,nY] at h
 |.row a b,q,p,h=>by
  dsimp[cont] at h;dsimp[IN,bq];split at h
  .rw[l9] at h
   dsimp[bq,aj] at h;rcases h with h|⟨_,h⟩
   .erw[.inl (fM h)]
   .exact .inr (ju (by simpa[nY] using h))
  .erw[.inr (fM h)]
 |.or a b,q,p,h=>by
  dsimp[cont] at h;dsimp[IN,bq];split at h
  .erw[.inl (fM h)]
  .erw[.inr (fM h)]
 |.rep m a,q,p,h=>by
  dsimp[cont] at h;rw[l9] at h;dsimp[bq,aj] at h;rcases h with h|⟨_,h⟩
  .erw[fM (t:=a) h]
  .erw[ju (t:=a) (Ke h)]
def i5:∀{t n c x},om n t->(x∈dF t c↔∃p,FS t p=ζ/\c∈sgn t p/\x=cont t p)
 |.one k l,n,c,x,h=>by
  dsimp[dF,FS,sgn,cont,beq_iff_eq];by_cases z:c∈l
  .simp[z]
  .simp[z]
 |.row a b,n,c,x,h=>by
  dsimp[dF,aL,bO,FS,bq,aj];constructor
  .rintro(⟨y,hy,rfl⟩|hy)
   .let#[p,h1,h2,rfl]:=(i5 h.1).mp hy
    have i:=ju h1;exact#[p,.inl h1,by dsimp[sgn,if_pos i];erw[h2],by dsimp[cont,if_pos i]]
   .split at hy
    .rename_i z
     let#[p,h1,h2,rfl]:=(i5 h.2).mp hy;have i:=gy h (ju h1);exact#[p,.inr #[z,h1],by dsimp[sgn,if_neg i];erw[h2],by dsimp[cont,if_neg i]]
    .simp at hy
  .rintro⟨p,h1|⟨z,h1⟩,h2,rfl⟩
   .have i:=ju h1
    dsimp[sgn,if_pos i] at h2;erw[.inl #[_,(i5 h.1).mpr #[p,h1,h2,rfl],by dsimp[cont,if_pos i]]]
   .have i:=gy h (ju h1)
    dsimp[sgn,if_neg i] at h2;rw[if_pos z]
    erw[.inr ((i5 h.2).mpr #[p,h1,h2,by dsimp[cont,if_neg i]])]
 |.or a b,n,c,x,h=>by
  dsimp[dF,aL,FS,bq];constructor
  .rintro(hy|hy)
   .let#[p,h1,h2,rfl]:=(i5 h.1).mp hy
    have i:=ju h1;exact#[p,.inl h1,by dsimp[sgn,if_pos i];erw[h2],by dsimp[cont,if_pos i]]
   .let#[p,h1,h2,rfl]:=(i5 h.2).mp hy
    have i:=gy h (ju h1);exact#[p,.inr h1,by dsimp[sgn,if_neg i];erw[h2],by dsimp[cont,if_neg i]]
  .rintro⟨p,h1|h1,h2,rfl⟩
   .have i:=ju h1
    dsimp[sgn,if_pos i] at h2;erw[.inl ((i5 h.1).mpr #[p,h1,h2,by dsimp[cont,if_pos i]])]
   .have i:=gy h (ju h1)
    dsimp[sgn,if_neg i] at h2;erw[.inr ((i5 h.2).mpr #[p,h1,h2,by dsimp[cont,if_neg i]])]
 |.rep m a,n,c,x,h=>by
  dsimp[dF,bO,FS,sgn,cont];constructor
  .rintro⟨y,hy,rfl⟩
   let#[p,h1,h2,rfl]:=(i5 (t:=a) h).mp hy;exact#[p,h1,h2,rfl]
  .rintro⟨p,h1,h2,rfl⟩
   exact#[_,(i5 (t:=a) h).mpr #[p,h1,h2,rfl],rfl]
def o9:dR [t] c=dF t c:=by simp[dR]
def pb:∀{t n c x q},om n t->(x∈dR (cont t q) c↔∃p,nY (cont t q) p=ζ/\c∈sgn t p/\x=cont t p)
 |.one k l,n,c,x,q,h=>by simp[cont,dR,nY]
 |.row a b,n,c,x,q,h=>by
  by_cases z:IN a q=ζ
  .have e:cont (.row a b) q=cont a q++[b]:=by dsimp[cont,if_pos z]
   rw[e,tD,o9]
   dsimp[l9,aL,bO,bq,aj];constructor
   .rintro(⟨y,hy,rfl⟩|hy)
    .let#[p,h1,h2,rfl]:=(pb h.1).mp hy
     have i:=fM h1;exact#[p,.inl h1,by dsimp[sgn,if_pos i];erw[h2],by dsimp[cont,if_pos i]]
    .split at hy
     .rename_i z
      let#[p,h1,h2,rfl]:=(i5 h.2).mp hy;have i:=gy h (ju h1);exact#[p,.inr #[z,by simp[nY,h1]],by dsimp[sgn,if_neg i];erw[h2],by dsimp[cont,if_neg i]]
     .simp at hy
   .rintro⟨p,h1|⟨z,h1⟩,h2,rfl⟩
    .have i:=fM h1
     dsimp[sgn,if_pos i] at h2;erw[.inl #[_,(pb h.1).mpr #[p,h1,h2,rfl],by dsimp[cont,if_pos i]]]
    .have h1:FS b p=ζ:=by simpa[nY] using h1
     have i:=gy h (ju h1);dsimp[sgn,if_neg i] at h2;rw[if_pos z]
     erw[.inr ((i5 h.2).mpr #[p,h1,h2,by dsimp[cont,if_neg i]])]
  .have e:cont (.row a b) q=cont b q:=by dsimp[cont,if_neg z]
   rw[e,pb h.2]
   constructor
   .rintro⟨p,h1,h2,rfl⟩
    have i:=gy h (fM h1);exact#[p,h1,by dsimp[sgn,if_neg i];erw[h2],by dsimp[cont,if_neg i]]
   .rintro⟨p,h1,h2,rfl⟩
    have i:=gy h (fM h1);dsimp[sgn,if_neg i] at h2;exact#[p,h1,h2,by dsimp[cont,if_neg i]]
 |.or a b,n,c,x,q,h=>by
  by_cases z:IN a q=ζ
  .have e:cont (.or a b) q=cont a q:=by dsimp[cont,if_pos z]
   rw[e,pb h.1]
   constructor
   .rintro⟨p,h1,h2,rfl⟩
    have i:=fM h1;exact#[p,h1,by dsimp[sgn,if_pos i];erw[h2],by dsimp[cont,if_pos i]]
   .rintro⟨p,h1,h2,rfl⟩
    have i:=fM h1;dsimp[sgn,if_pos i] at h2;exact#[p,h1,h2,by dsimp[cont,if_pos i]]
  .have e:cont (.or a b) q=cont b q:=by dsimp[cont,if_neg z]
   rw[e,pb h.2]
   constructor
   .rintro⟨p,h1,h2,rfl⟩
    have i:=gy h (fM h1);exact#[p,h1,by dsimp[sgn,if_neg i];erw[h2],by dsimp[cont,if_neg i]]
   .rintro⟨p,h1,h2,rfl⟩
    have i:=gy h (fM h1);dsimp[sgn,if_neg i] at h2;exact#[p,h1,h2,by dsimp[cont,if_neg i]]
 |.rep m a,n,c,x,q,h=>by
  have hm:x∈dR (more m a) c↔∃p,nY (more m a) p=ζ/\c∈sgn a p/\x=cont (.rep m a) p:=by
   cases m with
   |may=>simp[more,dR,nY]
   |star=>
    show x∈dR [.rep .star a] c↔_
    rw[o9,i5 (t:=.rep .star a) h]
    simp[more,nY,FS,sgn]
   |plus=>
    show x∈dR [.rep .star a] c↔_
    rw[o9,i5 (t:=.rep .star a) h]
    simp[more,nY,FS,sgn,cont]
  dsimp[cont,tD,l9,aL,bO,bq,aj,sgn];constructor
  .rintro(⟨y,hy,rfl⟩|hy)
   .let#[p,h1,h2,rfl]:=(pb (t:=a) h).mp hy
    exact#[p,.inl h1,h2,rfl]
   .split at hy
    .rename_i z
     let#[p,h1,h2,rfl]:=hm.mp hy;exact#[p,.inr #[z,h1],h2,rfl]
    .simp at hy
  .rintro⟨p,h1|⟨z,h1⟩,h2,rfl⟩
   .erw[.inl #[_,(pb (t:=a) h).mpr #[p,h1,h2,rfl],rfl]]
   .rw[if_pos z]
    erw[.inr (hm.mpr #[p,h1,h2,rfl])]
abbrev oH:Mk->List Nat
 |.star=>lz
 |.plus=>o7
 |.may=>kA
abbrev enc:Tr->U
 |.one _ l=>.tup [.str Gn,.str l]
 |.row a b=>.tup [.str zj,.tup [enc a,enc b]]
 |.or a b=>.tup [.str O1,.tup [enc a,enc b]]
 |.rep m a=>.tup [.str (oH m),enc a]
abbrev aaf(K:List Tr):U:=.tup (K.map enc)
abbrev aag(K:List Tr):U:=.tup [.str zj,aaf K]
def EG(h:nY (ct t q) p=ζ):IN t p=ζ:=by
 unfold ct at h;split at h
 .dsimp[nY,bq,aj,ax,and_false,or_false] at h
  erw[ju h]
 .erw[fM h]
def zm(h:om n t)(n0:0<n)(i:IN t p=ζ):p≠0:=by
 have:=(gf h).mp i;omega
def Kf(h:om n t)(n0:0<n):x∈dR (ct t q) c↔∃p,nY (ct t q) p=ζ/\c∈sgn t p/\x=ct t p:=by
 have key:∀p,nY (ct t q) p=ζ->ct t p=cont t p:=λp hp=>by
  unfold ct;rw[if_neg (zm h n0 (EG hp))]
 have e:x∈dR (ct t q) c↔∃p,nY (ct t q) p=ζ/\c∈sgn t p/\x=cont t p:=by
  unfold ct;split
  .rw[o9,i5 h]
   simp[nY]
  .erw[pb h]
 rw[e]
 constructor
 .rintro⟨p,h1,h2,h3⟩;exact#[p,h1,h2,h3.trans (key p h1).symm]
 .rintro⟨p,h1,h2,h3⟩;exact#[p,h1,h2,h3.trans (key p h1)]
abbrev stp(t:Tr)(c:Nat)(H:Nat->Prop):Nat->Prop:=λp=>∃q,H q/\nY (ct t q) p=ζ/\c∈sgn t p
abbrev hs(t:Tr)(w:List Nat):Nat->Prop:=w.foldl (λH c=>stp t c H) (λp=>p=0)
abbrev En(t:Tr)(H:Nat->Prop):Prop:=∃p,H p/\dv (ct t p)=ζ
def zo:hs t (w++[c])=stp t c (hs t w):=by unfold hs;rw[fG];rfl
section
variable{S:bM}{Q:KU}{a b p:Nat}
def CV:kG .bor (.int (a:Nat)) (.int (b:Nat)) S Q=Q (.int ((a|||b:Nat):Int)) S:=by
 rw[QK,eq_true (show(0:Int)<=a/\(0:Int)<=b from #[∅,∅]),true_and];rfl
def uE:kG .band (.int (a:Nat)) (.int (b:Nat)) S Q=Q (.int ((a&&&b:Nat):Int)) S:=by
 rw[MU,eq_true (show(0:Int)<=a/\(0:Int)<=b from #[∅,∅]),true_and];rfl
def Yi:kG .band (.int (a:Nat)) (.int 1) S Q=Q (.int ((a&&&1:Nat):Int)) S:=uE (b:=1)
def Sh:kG .shl (.int 1) (.int (p:Nat)) S Q=(p<=1000/\Q (.int ((1<<<p:Nat):Int)) S):=by
 rw[QL]
 have e:(1:Int)*(2:Int)^((p:Int).toNat)=((1<<<p:Nat):Int):=by
  rw[ug];simp
 rw[e]
 erw[propext #[λh=>#[∅,h.2],λh=>#[∅,h.2]]]
def aai:kG .shr (.int (a:Nat)) (.int (p:Nat)) S Q=Q (.int ((a>>>p:Nat):Int)) S:=by
 rw[QM,eq_true (show(0:Int)<=a/\(0:Int)<=p from #[∅,∅]),true_and]
 have e:(a:Int)/(2:Int)^((p:Int).toNat)=((a>>>p:Nat):Int):=by
  rw[Nat.shiftRight_eq_div_pow];simp
 rw[e]
def abu:qF .sum [.loc n] S Q=(∃is:List Int,S[n]?=ξ (.lst (is.map .int))/\Q (.int is.sum) S):=rfl
end
def Wb:(((a>>>p&&&1:Nat):Int) !=0)=a.testBit p:=by
 unfold Nat.testBit;rw[Nat.and_comm]
 by_cases h:1&&&a>>>p=0
 .simp[h]
 .have:¬(((1&&&a>>>p:Nat):Int)=0):=∅
  rw[bne_iff_ne.mpr this,bne_iff_ne.mpr h]
def zq{a:Nat}:((a:Int) !=0)=ζ↔∃p,a.testBit p=ζ:=by
 constructor
 .intro h
  have:a≠0:=by
   have:=bne_iff_ne.mp h;omega
  erw[wq this]
 .rintro⟨p,h⟩
  rwa[bne_iff_ne.mpr λz=>?_]
  have:a=0:=∅
  subst this;simp at h
def Si(h:b.testBit p=ζ):p<tZ b:=by
 have g:=Nat.ge_two_pow_of_testBit h;have b0:b≠0:=by
  have:0<2^p:=Nat.two_pow_pos p;omega
 unfold tZ;rw[if_neg b0]
 have:=(Nat.le_log2 b0).mpr g;omega
def bits_le(h:b<2^n):tZ b<=n:=by
 unfold tZ;split
 .omega
 .rename_i z
  have:=(Nat.log2_lt z).mpr h;omega
def jK(h:∀p,b.testBit p=ζ->p<n):b<2^n:=uY λz=>by
 let#[i,hi,ti]:=Nat.exists_ge_and_testBit_of_ge_two_pow z;have:=h i ti;omega
abbrev Dm(b:Nat):List Nat:=(bC (tZ b)).filter b.testBit
def lA:p∈Dm b↔b.testBit p=ζ:=by
 unfold Dm;rw[fw,jA]
 exact#[λh=>h.2,λh=>#[Si h,h]]
noncomputable abbrev aW(n:Nat):U:=.int (n:Nat)
def gB(l:List U)(I:Nat->List U->bM->Prop)(hg:∀i acc S,i<=l.length->I i acc S->g S/\acc.length<1000000)
  (h:∀i u acc S(k:List U->bM->Prop),l[i]?=ξ u->I i acc S->(∀acc' S',I (i+1) acc' S'->k acc' S')->c u S λb S1=>if b=ζ then e u S1 λv S2=>k (acc++[v]) S2 else k acc S1) (hf:∀acc S,I l.length acc S->Q acc S){S:bM} (h0:I 0 [] S):mN g c e Q l [] S:=by
 have key:∀n i acc S,i+n=l.length->I i acc S->mN g c e Q (l.drop i) acc S:=by
  intro n;induction n with
  |zero=>
   intro i acc S e hi;rw[jD ∅]
   have ei:i=l.length:=∅
   subst ei;exact#[(hg _ _ _ (ar _) hi).1,(hg _ _ _ (ar _) hi).2,hf _ _ hi]
  |succ n ih=>
   intro i acc S e hi;have hl:i<l.length:=∅
   rw[fu hl]
   exact#[(hg _ _ _ ∅ hi).1,(hg _ _ _ ∅ hi).2,h i _ acc S _ (ab hl) hi λacc' S' h'=>ih (i+1) acc' S' ∅ h']
 erw[key l.length 0 [] S ∅ h0]
def yg(l:List U)(p:U->Bool)(f:U->U)(hg:g S)(hl:l.length<1000000)
  (h:∀u k,u∈l->((p u=ζ->k ζ S)/\(p u=ϑ->k ϑ S)->c u S k)) (he:∀u k,u∈l->p u=ζ->k (f u) S->e u S k) (q:Q ((l.filter p).map f) S):mN g c e Q l [] S:=by
 rwa[gB l (λi acc S'=>S'=S/\acc=((l.take i).filter p).map f) (λi acc S' hi h=>#[h.1▸hg,?_]) (λi u acc S' k hu hi hk=>?_) (λacc S' h=>?_) #[rfl,rfl]]
 .rw[h.2,ae]
  have:=Cc p (l.take i);rw[cH] at this;omega
 .let#[rfl,rfl]:=hi
  have hm:=ai hu;have et:l.take (i+1)=l.take i++[u]:=by rw[jF,hu];rfl
  rwa[h u _ hm #[λz=>?_,λz=>?_]]
  .rw[if_pos rfl]
   erw[he u _ hm z (hk _ _ #[rfl,by rw[et,Hf,aI,List.filter_cons_of_pos z];rfl])]
  .rw[if_neg (#v[])]
   erw[hk _ _ #[rfl,by rw[et,Hf,List.filter_cons_of_neg (by simp[z])];simp]]
 .let#[rfl,rfl]:=h
  rw[cb];erw[q]
def gg{α β:Type}{l:List α}{f:α->β}{i:Nat}{u:β}(h:(l.map f)[i]?=ξ u):∃a,l[i]?=ξ a/\f a=u:=by
 rw[aB] at h;erw[ak.mp h]
def Kg{α:Type}{l:List α}{i:Nat}{a:α}(h:l[i]?=ξ a):l.take (i+1)=l.take i++[a]:=by rw[jF,h];rfl
def _root_.Lake.PL.Ext.st{S S':bM}{n:Nat}{o:SO}(x:Ext S S')(h:S.length<=n):Ext S (S'.set n o):=
 #[%[b9|x.1],λk hk=>%[ao (cD (au hk h))|x.2 k hk]]
end PL.nW
open PL.nW
namespace PL.nW
abbrev Bs:Spec:=λus S Q=>∃b:Nat,us=[aW b]/\b<2^100/\∀n S',Ext S S'->S.length<=n->S'[n]?=ξ (.lst ((Dm b).map aW))->Q (.loc n) S'
def Sj(Γ:cv):Keeps Γ pR 0 Bs:=by
 rintro us S Q ⟨b,rfl,hb,q⟩;unfold pR;room;have hl:=bits_le hb;refine#[∅,∅,∅,?_];refine yg (S:=S) _ (λu=>match u with|.int i=>b.testBit i.toNat|_=>ϑ) id trivial ((·)) (λu k hu h=>?_) (λu k _ _ h=>h) ?_
 .let#[p,_,rfl]:=bO.mp hu
  room;rw[Wb]
  cases z:b.testBit p with
  |true=>erw[h.1 z]
  |false=>erw[h.2 z]
 .rwa[q _ _ (Ext.app _) (ar _) ?_]
  have:((bC (tZ b)).map λk=>U.int (k:Nat)).filter (λu=>match u with|.int i=>b.testBit i.toNat|_=>ϑ)=(Dm b).map aW:=by
   rw[List.filter_map];rfl
  rw[List.map_id,this];simp
abbrev LD(e:Bool)(F Z:Nat):SO:=.ins "Part" [("empty",.bl e),("firsts",aW F),("lasts",aW Z)]
section
variable{S:bM}{p F Z:Nat}{e:Bool}{r:U->Prop}(h:S[p]?=ξ (LD e F Z))
include h
def Gy:oX (.loc p) "empty" S r=r (.bl e):=by rw[i8,h];rfl
def Bt:oX (.loc p) "firsts" S r=r (aW F):=by rw[i8,h];rfl
def Bu:oX (.loc p) "lasts" S r=r (aW Z):=by rw[i8,h];rfl
end
abbrev zr:Spec:=λus S Q=>∃p e F Z,us=[.loc p,.bl e,aW F,aW Z]/\S[p]?=ξ (.ins "Part" [])/\Q .cf (S.set p (LD e F Z))
def Wc(Γ:cv):Keeps Γ lY 0 zr:=by
 rintro us S Q ⟨p,e,F,Z,rfl,h,q⟩;unfold lY;room;rw[h]
 dsimp[b7];refine#[#v[],?_];have g1:=gs (o':=SO.ins "Part" (iz "empty" (U.bl e) [])) h;room;rw[g1]
 dsimp[b7];refine#[by simp[iz],?_];have g2:=gs (o':=SO.ins "Part" (iz "firsts" (aW F) (iz "empty" (U.bl e) []))) g1;room;rw[g2]
 dsimp[b7];refine#[by simp[iz],?_];room;rw[tQ,tQ]
 erw[q]
def qu{Γ:cv}(h1:Γ "Part.__init__"=zr){e:Bool}{F Z:Nat}{S:bM}{R:KU}(q:∀S',Ext S S'->S'[S.length]?=ξ (LD e F Z)->R .cf S'):
  Γ "Part.__init__" [.loc S.length,.bl e,aW F,aW Z] (S++[.ins "Part" []]) R:=by
 have g:(S++[SO.ins "Part" []])[S.length]?=ξ (.ins "Part" []):=by simp
 rwa[ca h1 #[S.length,e,F,Z,rfl,g,q _ #[#v[],λn hn=>?_] (gs g)]];rw[ao ∅,ah hn]
abbrev qL(f:Bool->Nat->Nat->Bool->Nat->Nat->Bool×Nat×Nat):Spec:=λus S Q=>∃p1 e1 F1 Z1 p2 e2 F2 Z2,us=[.loc p1,.loc p2]/\S[p1]?=ξ (LD e1 F1 Z1)/\S[p2]?=ξ (LD e2 F2 Z2) /\
 ∀S',Ext S S'->S'[S.length]?=ξ (LD (f e1 F1 Z1 e2 F2 Z2).1 (f e1 F1 Z1 e2 F2 Z2).2.1 (f e1 F1 Z1 e2 F2 Z2).2.2)->Q (.loc S.length) S'
abbrev tF(e1:Bool)(F1 Z1:Nat)(e2:Bool)(F2 Z2:Nat):Bool×Nat×Nat:=(e1&&e2,if e1 then F1|||F2 else F1,if e2 then Z1|||Z2 else Z2)
abbrev Wd(e1:Bool)(F1 Z1:Nat)(e2:Bool)(F2 Z2:Nat):Bool×Nat×Nat:=(e1||e2,F1|||F2,Z1|||Z2)
def Sk(Γ:cv)(h1:Γ "Part.__init__"=zr):Keeps Γ fY 2 (qL tF):=by
 rintro us S Q ⟨p1,e1,F1,Z1,p2,e2,F2,Z2,rfl,g1,g2,q⟩;unfold fY;room;cases e1<;>cases e2<;>(repeat first|room|dsimp[Gy g1,Gy g2,Bt g1,Bt g2,Bu g1,Bu g2])
 .erw[qu h1 λS' x g=>#[rfl,q S' x g]]
 .erw[qu h1 λS' x g=>#[rfl,q S' x g]]
 .erw[qu h1 λS' x g=>#[rfl,q S' x g]]
 .erw[qu h1 λS' x g=>#[rfl,q S' x g]]
def We(Γ:cv)(h1:Γ "Part.__init__"=zr):Keeps Γ jo 0 (qL Wd):=by
 rintro us S Q ⟨p1,e1,F1,Z1,p2,e2,F2,Z2,rfl,g1,g2,q⟩;unfold jo;cases e1<;>(repeat first|room|dsimp[Gy g1,Gy g2,Bt g1,Bt g2,Bu g1,Bu g2])
 .erw[qu h1 λS' x g=>#[rfl,q S' x g]]
 .erw[qu h1 λS' x g=>#[rfl,q S' x g]]
structure sf(S:bM)(L:Nat)(sg:List (List Nat))(bh en:List Nat):Prop where
 o:S[L]?=ξ (.ins "Layout" [("signs",.loc (L+1)),("behind",.loc (L+2)),("ends",.loc (L+3))])
 s:S[L+1]?=ξ (.lst (sg.map .str))
 b:S[L+2]?=ξ (.lst (bh.map aW))
 e:S[L+3]?=ξ (.lst (en.map aW))
abbrev Fr(L:Nat)(S S':bM):Prop:=S.length<=S'.length/\∀n,n<S.length->n<=L\/L+4<=n->S'[n]?=S[n]?
section
variable{S S1 S2:bM}{L:Nat}{sg:List (List Nat)}{bh en:List Nat}{r:U->Prop}{q:KU}
def Fr.refl:Fr L S S:=#[ar _,λ_ _ _=>rfl]
def Fr.trans(a:Fr L S S1)(b:Fr L S1 S2):Fr L S S2:=#[aH a.1 b.1,λn h z=>(b.2 n (au h a.1) z).trans (a.2 n h z)]
def Ext.fr(a:Ext S S1):Fr L S S1:=#[a.1,λn h _=>a.2 n h]
def Fr.get(a:Fr L S S1){n:Nat}{o:SO}(h:S[n]?=ξ o)(z:L+4<=n):S1[n]?=ξ o:=(a.2 n (aS h) (.inr z)).trans h
def Fr.set(a:Fr L S S1){n:Nat}{o:SO}(h1:L<n)(h2:n<L+4):Fr L S (S1.set n o):=#[%[b9|a.1],λm h z=>%[ao ∅|a.2 m h z]]
variable(h:sf S L sg bh en)
include h
def sf.ext(x:Ext S S1):sf S1 L sg bh en:=#[x.get h.o,x.get h.s,x.get h.b,x.get h.e]
def sf.len:L+4<=S.length:=aS h.e
def Kh:oX (.loc L) "signs" S r=r (.loc (L+1)):=by rw[i8,h.o];rfl
def Ki:oX (.loc L) "behind" S r=r (.loc (L+2)):=by rw[i8,h.o];rfl
def Sn:oX (.loc L) "ends" S r=r (.loc (L+3)):=by rw[i8,h.o];rfl
def sf.aaj:sf (S.set (L+1) (.lst (sg'.map .str))) L sg' bh en:=
 #[%[ao ∅|h.o],gs h.s,%[ao ∅|h.b],%[ao ∅|h.e]]
def sf.setB:sf (S.set (L+2) (.lst (bh'.map aW))) L sg bh' en:=
 #[%[ao ∅|h.o],%[ao ∅|h.s],gs h.b,%[ao ∅|h.e]]
def sf.aak:sf (S.set (L+3) (.lst (en'.map aW))) L sg bh en':=
 #[%[ao ∅|h.o],%[ao ∅|h.s],%[ao ∅|h.b],gs h.e]
end
abbrev So:Spec:=λus S Q=>∃L,us=[.loc L]/\S[L]?=ξ (.ins "Layout" [])/\S.length=L+1/\∀S',(∀n,n<L->S'[n]?=S[n]?)->sf S' L [[]] [0] []->Q .cf S'
def Wf(Γ:cv):Keeps Γ jU 0 So:=by
 rintro us S Q ⟨L,rfl,h,hl,q⟩;unfold jU;room;refine#[#v[],?_];have g0:(S++[SO.lst [U.str []]])[L]?=ξ (.ins "Layout" []):=%[ah ∅|h]
 rw[g0]
 dsimp[b7];refine#[#v[],?_];have g1:=gs (o':=SO.ins "Layout" (iz "signs" (U.loc S.length) [])) g0;room;refine#[#v[],?_];rw[ah ((·)),g1]
 dsimp[b7];refine#[by simp[iz],?_];room;refine#[#v[],?_];rw[ah ((·)),gs (%[ah ((·))|g1])]
 dsimp[b7];refine#[by simp[iz],?_];room;rwa[q _ (λn hn=>?_) #[?_,?_,?_,?_]]
 .simp[iF,jE,hl,cD hn,bc hn,bc (bc hn),bc (bc (bc hn))]
 .rw[bA ((·))]
  simp[iz,hl]
 .rw[ao ∅]
  simp[iF,jE,hl]
 .rw[ao ∅]
  simp[iF,jE,hl]
 .rw[ao ∅]
  simp[iF,jE,hl]
abbrev Sq:Spec:=λus S Q=>∃L sg bh en,us=[.loc L]/\sf S L sg bh en/\sg.length<=1000/\Q (.int (sg.length-1:Int)) S
def Wg(Γ:cv):Keeps Γ gI 0 Sq:=by
 rintro us S Q ⟨L,sg,bh,en,rfl,h,hl,q⟩;unfold gI;room;rw[Kh h,lS h.s]
 dsimp[bg,ae];exact#[∅,q]
def uK{l:List Nat}{k B:Nat}{r:U->Prop}(h:l[k]?=ξ B)(z:r (aW B)):opt ((l.map aW)[k]?) r:=by
 rw[aB,h];erw[z]
abbrev Ss:Spec:=λus S Q=>∃L sg bh en p e F Z B bt,us=[.loc L,.loc p]/\sf S L sg bh en/\bh=B::bt/\S[p]?=ξ (LD e F Z)/\L+4<=p/\en.length<=1000/\∀S',Fr L S S'->sf S' L sg ((B|||F)::bt) (en++[Z])->Q .cf S'
def Wh(Γ:cv):Keeps Γ fI 0 Ss:=by
 rintro us S Q ⟨L,sg,bh,en,p,e,F,Z,B,bt,rfl,h,rfl,hp,pl,hn,q⟩;unfold fI;room;rw[Ki h]
 room;rw[h.b]
 dsimp[aF];refine#[Fj _,?_];dsimp[Int.toNat_zero];rwa[uK (B:=B) rfl ?_];rw[Bt hp]
 room;rw[h.b]
 dsimp[aF];refine#[#v[],?_];have h1:=h.setB (bh':=(B|||F)::bt);have e1:(dQ aW (B::bt)).set 0 (U.int ((B|||F:Nat):Int))=dQ aW ((B|||F)::bt):=by simp
 rw[e1]
 have f1:=(Fr.refl (L:=L) (S:=S)).set (n:=L+2) (o:=.lst (dQ aW ((B|||F)::bt))) ∅ ∅;have hp1:=f1.get hp pl;generalize S.set (L+2) (.lst (dQ aW ((B|||F)::bt)))=S1 at h1 f1 hp1;room;rw[Sn h1]
 room;rw[h1.e]
 dsimp[aF];room;rw[Bu hp1]
 refine#[(·),?_];room;have e2:dQ aW en++[aW Z]=dQ aW (en++[Z]):=by simp
 rw[e2]
 erw[q _ (f1.set ∅ ∅) h1.aak]
abbrev Wi(Z F:Nat)(bh bh':List Nat):Prop:=bh'.length=bh.length/\∀(q B:Nat),bh[q]?=ξ B->∃B',bh'[q]?=ξ B'/\∀r,B'.testBit r=(B.testBit r||(Z.testBit q&&F.testBit r))
abbrev Kj:Spec:=λus S Q=>∃L sg bh en Z F,us=[.loc L,aW Z,aW F]/\sf S L sg bh en/\bh.length<=100/\(∀p,Z.testBit p=ζ->p<bh.length)/\∀S' bh',Fr L S S'->sf S' L sg bh' en->Wi Z F bh bh'->Q .cf S'
def Wj(Γ:cv)(h1:Γ "members"=Bs):Keeps Γ jV 1 Kj:=by
 rintro us S Q ⟨L,sg,bh,en,Z,F,rfl,h,hl,hz,q⟩;unfold jV;room;rwa[ca h1 #[Z,rfl,au (jK hz) (bx ∅ hl),λn S1 x1 hn g1=>?_]];room;rw[g1]
 dsimp[aF];have hln:=h.len;refine fj (λi env S2=>∃bh2 x3,env=[ξ (.loc L),ξ (aW Z),ξ (aW F),x3]/\Fr L S1 S2/\sf S2 L sg bh2 en/\bh2.length=bh.length/\∀(q B:Nat),bh[q]?=ξ B->∃B',bh2[q]?=ξ B'/\∀r,B'.testBit r=(B.testBit r||(decide (q∈(Dm Z).take i)&&F.testBit r)))
  (λi env S2 h9=>by let#[_,_,_,f,_]:=h9;erw[f.get g1 ∅]) _ ?_ ?_ #[bh,ψ,rfl,.refl,h.ext x1,rfl,λq B e=>#[B,e,λr=>#v[]]]
 .rintro i u env S2 K hu ⟨bh2,x3,rfl,f2,h2,l2,inv⟩ hK
  let#[p,hp,rfl]:=gg hu;have pz:=lA.mp (ai hp);have pl:=hz p pz;let#[B',e',b']:=inv p _ (ab pl);room;rw[Ki h2]
  room;rw[h2.b]
  dsimp[aF];refine#[∅,uK e' ?_];room;rw[h2.b]
  dsimp[aF];refine#[(·),?_];have ee:(dQ aW bh2).set p (U.int ((B'|||F:Nat):Int))=dQ aW (bh2.set p (B'|||F)):=by rw[List.map_set]
  rw[ee]
  room;rwa[hK _ _ #[_,_,rfl,f2.set ∅ ∅,h2.setB,by simp[l2],λq B e=>?_]];have et:=Kg hp;rw[et]
  by_cases z:q=p
  .subst z
   rw[ab pl] at e;injection e with e;subst e
   refine#[B'|||F,by rw[bA ∅],λr=>?_];rw[cQ,b']
   dsimp[aL,bI,or_true,decide_true,kn];cases bh[q].testBit r<;>cases F.testBit r<;>simp
  .let#[B2,e2,b2]:=inv q B e
   refine#[B2,%[ao (cM z)|e2],λr=>?_];rw[b2]
   simp[z]
 .rintro env S2 ⟨bh2,x3,rfl,f2,h2,l2,inv⟩
  room;rwa[q _ _ (Ext.fr x1 |>.trans f2) h2 #[l2,λq B e=>?_]];let#[B',e',b']:=inv q B e;refine#[B',e',λr=>?_];rw[b',ae,cb]
  congr 2
  by_cases z:Z.testBit q=ζ
  .rw[z];erw[decide_eq_true (lA.mpr z)]
  .rw[fS _ |>.mp z];erw[decide_eq_false λm=>z (lA.mp m)]
structure ur(t:Tr)(bh:List Nat)(F Z:Nat)(bh':List Nat):Prop where
 f:∀p,F.testBit p=FS t p
 z:∀p,Z.testBit p=(IN t p&&dv (cont t p))
 len:bh'.length=bh.length+size t
 old:∀q,q<bh.length->bh'[q]?=bh[q]?
 new:∀q,IN t q=ζ->∃B:Nat,bh'[q]?=ξ B/\∀p,B.testBit p=nY (cont t q) p
abbrev ij(D:Tr->U->Prop):Spec:=λus S Q=>∃L sg bh en t u,us=[.loc L,u]/\D t u/\sf S L sg bh en/\om sg.length t/\bh.length=sg.length/\sg.length+size t<=100 /\
 ∀S' p F Z bh',Fr L S S'->L+4<=p->S'[p]?=ξ (LD (null t) F Z)->sf S' L (sg++nN t) bh' en->ur t bh F Z bh'->Q (.loc p) S'
def sh:(1<<<n).testBit p=(p==n):=by
 rw[ug,Nat.testBit_two_pow]
 by_cases z:n=p
 .subst z;simp
 .rw[decide_eq_false z]
  have:¬p=n:=λe=>z e.symm
  simp[this]
def Wk(Γ:cv)(h1:Γ "Part.__init__"=zr):Keeps Γ fZ 1 (ij λt u=>∃n l,t=.one n l/\u=.str l):=by
 rintro us S Q ⟨L,sg,bh,en,t,u,rfl,⟨n,l,rfl,rfl⟩,h,hp,hb,hl,q⟩;have hp:n=sg.length:=hp;subst hp;have hl:sg.length+1<=100:=hl;unfold fZ;room;rw[Kh h,lS h.s]
 dsimp[bg,ae,Sh];refine#[∅,∅,?_];room;rw[Kh h]
 room;rw[h.s]
 dsimp[aF,true_and];refine#[(·),?_];have e1:dQ U.str sg++[U.str l]=dQ U.str (sg++[l]):=by simp
 rw[e1]
 have h2:=h.aaj (sg':=sg++[l]);have f2:=(Fr.refl (L:=L) (S:=S)).set (n:=L+1) (o:=.lst (dQ U.str (sg++[l]))) ∅ ∅;generalize S.set (L+1) (.lst (dQ U.str (sg++[l])))=S2 at h2 f2;room;rw[Ki h2]
 room;rw[h2.b]
 dsimp[aF,true_and];refine#[(·),?_];have e2:dQ aW bh++[U.int 0]=dQ aW (bh++[0]):=by simp
 rw[e2]
 have h3:=h2.setB (bh':=bh++[0]);have f3:=f2.set (n:=L+2) (o:=.lst (dQ aW (bh++[0]))) ∅ ∅;generalize S2.set (L+2) (.lst (dQ aW (bh++[0])))=S3 at h3 f3;room;rwa[qu h1 λS4 x4 g4=>#[rfl,?_]]
 have:=h3.len;rwa[q S4 _ _ _ _ (f3.trans (Ext.fr x4)) ∅ g4 (h3.ext x4) #[λp=>sh,λp=>?_,by simp[size],λq hq=>ah hq,λq hq=>?_]]
 .rw[sh];simp[IN,cont,dv]
 .have:q=sg.length:=by simpa[IN] using hq
  subst this;refine#[0,by rw[ay ∅,hb];simp,λp=>by simp[cont,nY]]
abbrev Tu(d:Nat)(t:Tr)(u:U):Prop:=bV t<d/\u=enc t
abbrev Wl:dG:=#v[.set 4 (.df "Layout" "lay" "Layout.lay" @0 #v[@3]),.ex (.df "Layout" "link" "Layout.link" @0 #v[.fld @2 "lasts",.fld @4 "firsts"]),.set 2 (.call "one_behind_other" #v[@2,@4])]
def Bv(Γ:cv)(h2:Γ "Layout.lay"=ij (Tu d))(h3:Γ "Layout.link"=Kj)(h4:Γ "one_behind_other"=qL tF)
  (da:bV a<d) (h:sf S L sg bh en) (hp:om sg.length a) (hb:bh.length=sg.length) (hl:sg.length+size a<=100) (g:S[pw]?=ξ (LD e0 F0 Z0)) (pl:L+4<=pw) (hz:∀p,Z0.testBit p=ζ->p<bh.length)
  (q:∀S' p F Z bh1 bh2 x,Fr L S S'->L+4<=p->S'[p]?=ξ (LD (tF e0 F0 Z0 (null a) F Z).1 (tF e0 F0 Z0 (null a) F Z).2.1 (tF e0 F0 Z0 (null a) F Z).2.2)->sf S' L (sg++nN a) bh2 en->ur a bh F Z bh1->Wi Z0 F bh1 bh2 ->
   D.nx [ξ (.loc L),ξ v1,ξ (.loc p),ξ (enc a),x] S'):Rest Γ Wl D [ξ (.loc L),ξ v1,ξ (.loc pw),ξ (enc a),x4] S:=by
 unfold Wl;room;rw[h.o,b7]
 refine#[#[rfl,rfl],?_];rwa[ca h2 #[L,sg,bh,en,a,_,rfl,#[da,rfl],h,hp,hb,hl,λS1 p F Z bh1 f1 pl1 g1 la1 r1=>?_]];have g0:=f1.get g pl;room;rw[la1.o,b7]
 refine#[#[rfl,rfl],?_];rw[Bu g0,Bt g1]
 rwa[ca h3 #[L,_,bh1,en,Z0,F,rfl,la1,by rw[r1.len];omega,λp hp=>by rw[r1.len];have:=hz p hp;omega,λS2 bh2 f2 la2 lk=>?_]];room;rwa[ca h4 #[pw,e0,F0,Z0,p,null a,F,Z,rfl,f2.get g0 pl,f2.get g1 pl1,λS3 x3 g3=>?_]];room;have:=la2.len;erw[q _ _ F Z bh1 bh2 _ ((f1.trans f2).trans (Ext.fr x3)) ∅ g3 (la2.ext x3) r1 lk]
def Wm:tF ζ 0 0 e F Z=(e,F,Z):=by
 unfold tF;rw[wt,wt]
 cases e<;>rfl
def aal:Wd ϑ 0 0 e F Z=(e,F,Z):=by
 unfold Wd;rw[wt,wt];rfl
def N2(hp:om n a/\om (n+size a) b)(hb:bh.length=n)(ra:ur a bh Fa Za bh1)(lk2:Wi 0 Fa bh1 bh2)(rb:ur b bh2 Fb Zb bh3)(lk4:Wi Za Fb bh3 bh4):
  ur (.row a b) bh (tF (null a) Fa Za (null b) Fb Zb).2.1 (tF (null a) Fa Za (null b) Fb Zb).2.2 bh4:=by
 have l1:=ra.len;have l2:=rb.len;have l3:=lk2.1;have l4:=lk4.1;have e12:∀q,q<bh1.length->bh2[q]?=bh1[q]?:=λq hq=>by
  let#[B',e1,e2]:=lk2.2 q _ (ab hq);rw[e1,ab hq]
  congr 1
  erw[kF λr=>by simp[e2]]
 have e14:∀q B,q<bh1.length->bh1[q]?=ξ B->∃B',bh4[q]?=ξ B'/\∀r,B'.testBit r=(B.testBit r||(Za.testBit q&&Fb.testBit r)):=λq B hq e=>lk4.2 q B (%[rb.old q ∅,e12 q hq|e])
 refine#[λp=>?_,λp=>?_,by dsimp[size];omega,λq hq=>?_,λq hq=>?_]
 .dsimp[tF,FS]
  cases null a<;>simp[cQ,ra.f,rb.f]
 .dsimp[tF,IN,cont]
  by_cases z:IN a p=ζ
  .have z2:IN b p=ϑ:=by
    cases e:IN b p with
    |false=>rfl
    |true=>erw[absurd z (gy hp e)]
   have nb:dv [b]=null b:=by simp[dv]
   dsimp[sd,nb,if_pos z];cases null b<;>simp[cQ,ra.z,rb.z,z,z2]
  .have z:IN a p=ϑ:=by simpa using z
   cases null b<;>simp[cQ,ra.z,rb.z,z]
 .let#[B',h1,h2]:=e14 q _ ∅ ((ra.old q hq).trans (ab hq))
  rw[h1,ab hq]
  congr 1
  rwa[kF λr=>?_]
  have:IN a q=ϑ:=by
   cases e:IN a q with
   |false=>rfl
   |true=>have:=(gf hp.1).mp e;omega
  rw[h2,ra.z,this];simp
 .by_cases z:IN a q=ζ
  .let#[B,h1,h2]:=ra.new q z
   have:=(gf hp.1).mp z;let#[B',h3,h4]:=e14 q B ∅ h1;refine#[B',h3,λp=>?_];have ec:cont (.row a b) q=cont a q++[b]:=by dsimp[cont,if_pos z]
   rw[ec,l9,h4,h2,ra.z,rb.f,z]
   simp[nY]
  .have z2:IN b q=ζ:=by simpa[IN,z] using hq
   let#[B,h1,h2]:=rb.new q z2;let#[B',h3,h4]:=lk4.2 q B h1;refine#[B',h3,λp=>?_];have z:IN a q=ϑ:=by simpa using z
   rw[h4,ra.z,z,h2]
   simp[cont,z]
def Wn(Γ:cv)(d:Nat)(h1:Γ "Part.__init__"=zr)(h2:Γ "Layout.lay"=ij (Tu d))(h3:Γ "Layout.link"=Kj)(h4:Γ "one_behind_other"=qL tF):
  Keeps Γ iB 3 (ij λt u=>∃a b,t=.row a b/\bV a<d/\bV b<d/\u=.tup [enc a,enc b]):=by
 rintro us S Q ⟨L,sg,bh,en,t,u,rfl,⟨a,b,rfl,da,db,rfl⟩,h,hp,hb,hl,q⟩;have hl:sg.length+(size a+size b)<=100:=hl;have hp:om sg.length a/\om (sg.length+size a) b:=hp;have ll:=gc a;unfold iB;room;rwa[qu h1 (F:=0) (Z:=0) λS1 x1 g1=>#[rfl,?_]]
 have p1:L+4<=S.length:=h.len;have h':=h.ext x1;generalize S.length=pw at g1 p1;room;refine#[#v[],?_];dsimp[wN];refine#[trivial,Bv Γ h2 h3 h4 da h' hp.1 hb ∅ g1 p1 (#v[]) λS2 p2 Fa Za bh1 bh2 x f2 pl2 g2 la2 ra lk2=>?_];rw[Wm] at g2;refine#[trivial,Bv Γ h2 h3 h4 db la2 (%[aq,ll|hp.2]) (by rw[lk2.1,ra.len,hb];simp[ll]) ((·)) g2 pl2 (λp hp'=>?_) λS3 p3 Fb Zb bh3 bh4 x' f3 pl3 g3 la3 rb lk4=>#[trivial,?_]]
 .rw[ra.z,aj] at hp'
  have:=(gf hp.1).mp hp'.1;rw[lk2.1,ra.len];omega
 .room
  exact q _ _ _ _ _ ((Ext.fr x1 |>.trans f2).trans f3) pl3 g3 (by rw[bw] at la3;erw[la3]) (N2 hp hb ra lk2 rb lk4)
def Su(hp:om n a/\om (n+size a) b)(hb:bh.length=n)(ra:ur a bh Fa Za bh1)(rb:ur b bh1 Fb Zb bh2):ur (.or a b) bh (Fa|||Fb) (Za|||Zb) bh2:=by
 have l1:=ra.len;have l2:=rb.len;refine#[λp=>by rw[cQ,ra.f,rb.f];rfl,λp=>?_,by dsimp[size];omega,λq hq=>(rb.old q ∅).trans (ra.old q hq),λq hq=>?_]
 .rw[cQ,ra.z,rb.z]
  dsimp[IN,cont];by_cases z:IN a p=ζ
  .have z2:IN b p=ϑ:=by
    cases e:IN b p with
    |false=>rfl
    |true=>erw[absurd z (gy hp e)]
   simp[z,z2]
  .have z:IN a p=ϑ:=by simpa using z
   simp[z]
 .by_cases z:IN a q=ζ
  .let#[B,h1,h2]:=ra.new q z
   have:=(gf hp.1).mp z;exact#[B,(rb.old q ∅).trans h1,λp=>by rw[h2];simp[cont,z]]
  .have z2:IN b q=ζ:=by simpa[IN,z] using hq
   let#[B,h1,h2]:=rb.new q z2;exact#[B,h1,λp=>by rw[h2];simp[cont,z]]
def Wo(Γ:cv)(d:Nat)(h1:Γ "Part.__init__"=zr)(h2:Γ "Layout.lay"=ij (Tu d))(h4:Γ "one_or_other"=qL Wd):
  Keeps Γ fJ 2 (ij λt u=>∃a b,t=.or a b/\bV a<d/\bV b<d/\u=.tup [enc a,enc b]):=by
 rintro us S Q ⟨L,sg,bh,en,t,u,rfl,⟨a,b,rfl,da,db,rfl⟩,h,hp,hb,hl,q⟩;have hl:sg.length+(size a+size b)<=100:=hl;have hp:om sg.length a/\om (sg.length+size a) b:=hp;have ll:=gc a;unfold fJ;room;rwa[qu h1 (F:=0) (Z:=0) λS1 x1 g1=>#[rfl,?_]]
 have p1:L+4<=S.length:=h.len;have h':=h.ext x1;generalize S.length=pw at g1 p1;room;refine#[#v[],?_];dsimp[wN];refine#[trivial,?_];room;rw[h'.o,b7]
 refine#[#[rfl,rfl],?_];rwa[ca h2 #[L,sg,bh,en,a,_,rfl,#[da,rfl],h',hp.1,hb,∅,λS2 p2 Fa Za bh1 f2 pl2 g2 la2 ra=>?_]];rwa[ca h4 #[pw,_,_,_,p2,_,_,_,rfl,f2.get g1 p1,g2,λS3 x3 g3=>?_]];rw[aal] at g3;have la3:=la2.ext x3;have p3:=la2.len;generalize S2.length=p3' at g3 p3;room;rw[la3.o,b7]
 refine#[#[rfl,rfl],?_];rwa[ca h2 #[L,_,bh1,en,b,_,rfl,#[db,rfl],la3,%[aq,ll|hp.2],by rw[ra.len,hb];simp[ll],(·),λS4 p4 Fb Zb bh2 f4 pl4 g4 la4 rb=>?_]];rwa[ca h4 #[p3',_,_,_,p4,_,_,_,rfl,f4.get g3 p3,g4,λS5 x5 g5=>?_]];have p5:=la4.len;room;exact q _ _ _ _ _ (((((Ext.fr x1).trans f2).trans (Ext.fr x3)).trans f4).trans (Ext.fr x5)) p5 g5 (by have:=la4.ext x5;rw[bw] at this;erw[this]) (Su hp hb ra rb)
abbrev Gz:Mk->Bool
 |.may=>ϑ
 |_=>ζ
abbrev GB:Mk->Bool
 |.plus=>ϑ
 |_=>ζ
structure O3(t:Tr)(ms:List Mk)(a:Tr):Prop where
 fs:∀p,FS t p=FS a p
 nl:null t=(null a||ms.any GB)
 inn:∀p,IN t p=IN a p
 ct:∀p,∃R,cont t p=cont a p++R/\dv R=ζ/\∀r,nY R r=(ms.any Gz&&FS a r)
 sz:size t=size a
 lv:nN t=nN a
 pl:∀n,om n t->om n a
def O3.zero(t:Tr):O3 t [] t:=#[λ_=>rfl,#v[],λ_=>rfl,λp=>#[[],#v[],rfl,λr=>by simp[nY]],rfl,rfl,λ_ h=>h]
def O3.next(h:O3 t ms (.rep m a)):O3 t (ms++[m]) a:=by
 refine#[h.fs,?_,h.inn,λp=>?_,h.sz,h.lv,h.pl]
 .rw[h.nl]
  cases m<;>simp[null,GB]
 .let#[R,h1,h2,h3]:=h.ct p
  refine#[more m a++R,by rw[h1];simp[cont],?_,λr=>?_]
  .rw[sd,h2];cases m<;>simp[more,dv,null]
  .rw[l9,h3]
   cases m<;>simp[more,nY,FS,dv,null,Gz]
def EH(k:O3 t ms a)(hp:om n a)(hb:bh.length=n)(ra:ur a bh F Z bh1)
  (lk:if ms.any Gz=ζ then Wi Z F bh1 bh2 else bh2=bh1):ur t bh F Z bh2:=by
 have eZ:∀p,dv (cont t p)=dv (cont a p):=λp=>by
  let#[R,h1,h2,_]:=k.ct p;rw[h1,sd,h2,Bool.and_true]
 have l1:=ra.len;have key:∀(q B:Nat),bh1[q]?=ξ B->∃B',bh2[q]?=ξ B'/\∀r,B'.testBit r=(B.testBit r||(ms.any Gz&&(Z.testBit q&&F.testBit r))):=λq B e=>by
  split at lk
  .rename_i z
   let#[B',e1,e2]:=lk.2 q B e;exact#[B',e1,λr=>by rw[e2,z,kn]]
  .rename_i z
   subst lk;exact#[B,e,λr=>by simp[fS _ |>.mp z]]
 have l2:bh2.length=bh1.length:=by
  split at lk
  .erw[lk.1]
  .rw[lk]
 refine#[λp=>by rw[ra.f,k.fs],λp=>by rw[ra.z,k.inn,eZ],by rw[l2,l1,k.sz],λq hq=>?_,λq hq=>?_]
 .let#[B',h1,h2]:=key q _ ((ra.old q hq).trans (ab hq))
  rw[h1,ab hq]
  congr 1
  rwa[kF λr=>?_]
  have:IN a q=ϑ:=by
   cases e:IN a q with
   |false=>rfl
   |true=>have:=(gf hp).mp e;omega
  rw[h2,ra.z,this];simp
 .rw[k.inn] at hq
  let#[B,h1,h2]:=ra.new q hq;let#[B',h3,h4]:=key q B h1;refine#[B',h3,λp=>?_];let#[R,e1,e2,e3]:=k.ct q;rw[h4,h2,e1,l9,e3,ra.z,ra.f,hq,kn]
  cases nY (cont a q) p<;>cases dv (cont a q)<;>cases FS a p<;>simp
def in3:qE (.str k) [.str lz,.str o7,.str kA] q=q (lz==k||(o7==k||kA==k)):=by
 have:=anyS (a:=k) (l:=[lz,o7,kA]) (q:=q);simpa using this
def Kk(ms:List Mk)(a b:List Nat):(ms.any λm=>oH m==a||oH m==b)=(((ms.map oH).any (·==a))||((ms.map oH).any (·==b))):=by
 induction ms with
 |nil=>rfl
 |cons m ms ih=>
  rw[dO,aw,dO,dO,ih]
  cases (oH m==a)<;>cases (oH m==b)<;>simp
def Sv(ms:List Mk):ms.any Gz=(((ms.map oH).any (·==lz))||((ms.map oH).any (·==o7))):=by
 rw[<-Kk]
 congr 1;funext m
 cases m<;>rfl
def Sw(ms:List Mk):ms.any GB=(((ms.map oH).any (·==lz))||((ms.map oH).any (·==kA))):=by
 rw[<-Kk]
 congr 1;funext m
 cases m<;>rfl
def N3(m:Mk):(lz==oH m||(o7==oH m||kA==oH m))=ζ:=by cases m<;>rfl
abbrev Yj:dG:=#v[.set 5 (.or (.fld @4 "empty") (.or (.cmp .isin ↑[115,116,97,114] @2) (.cmp .isin ↑[109,97,121,98,101] @2))),.ret (.mk "Part" "Part.__init__" #v[@5,.fld @4 "firsts",.fld @4 "lasts"])]
abbrev pLk:dG:=#v[.ex (.df "Layout" "link" "Layout.link" @0 #v[.fld @4 "lasts",.fld @4 "firsts"])]
abbrev pR2:dG:=(.cons (.set 4 (.df "Layout" "lay" "Layout.lay" @0 #v[@3])) (.cons (.ifs (.or (.dk (.cmp .isin ↑[115,116,97,114] @2)) (.dk (.cmp .isin ↑[112,108,117,115] @2))) pLk .nil) Yj))
def Wq(Γ:cv)(d:Nat)(hd:d<=100)(h1:Γ "Part.__init__"=zr)(h2:Γ "Layout.lay"=ij (Tu d))(h3:Γ "Layout.link"=Kj):
  Keeps Γ fK 4 (ij λt u=>∃m a,t=.rep m a/\bV a<d/\u=enc t):=by
 rintro us S Q ⟨L,sg,bh,en,t,u,rfl,⟨m0,a0,et,da,rfl⟩,h,hp,hb,hl,q⟩;have sl:=h.len;have fin:∀(ms:List Mk)(a:Tr)(S2:bM),O3 t ms a->bV a<d->(∀n,n<S.length->S2[n]?=S[n]?)->S2[S.length]?=ξ (.lst (ms.map λm=>U.str (oH m)))->Rest Γ pR2 #[λ_ S1=>Q .cf S1,Q] [ξ (.loc L),ξ (enc t),ξ (.loc S.length),ξ (enc a),ψ,ψ] S2:=by
  intro ms a S2 mk da e2 g2;have x2:Ext S S2:=#[bQ (aS g2),e2]
  have la:=h.ext x2;have sz:=mk.sz;have hpa:=mk.pl _ hp;unfold pR2;room;rw[la.o,b7]
  refine#[#[rfl,rfl],?_];rwa[ca h2 #[L,sg,bh,en,a,_,rfl,#[da,rfl],la,hpa,hb,∅,λS3 p F Z bh1 f3 pl3 g3 la3 ra=>?_]];have gm:∀S4,Fr L S3 S4->S4[S.length]?=ξ (.lst ((ms.map oH).map .str)):=λS4 f4=>%[bB|f4.get (f3.get g2 sl) sl]
  have fin2:∀S4 bh2,Fr L S3 S4->sf S4 L (sg++nN a) bh2 en->ur t bh F Z bh2->Rest Γ Yj #[λ_ S1=>Q .cf S1,Q] [ξ (.loc L),ξ (enc t),ξ (.loc S.length),ξ (enc a),ξ (.loc p),ψ] S4:=by
   intro S4 bh2 f4 la4 r4;have g4:=f4.get g3 pl3;have en4:∀e,e=null t->Rest Γ (.cons (.ret (.mk "Part" "Part.__init__" (.cons @5 (.cons (.fld @4 "firsts") (.cons (.fld @4 "lasts") .nil))))) .nil) #[λ_ S1=>Q .cf S1,Q] [ξ (.loc L),ξ (enc t),ξ (.loc S.length),ξ (enc a),ξ (.loc p),ξ (.bl e)] S4:=by
    rintro e rfl;room;rw[Bt g4,Bu g4]
    rwa[qu h1 λS5 x5 g5=>#[rfl,?_]]
    erw[q _ _ _ _ _ (((Ext.fr x2).trans f3).trans (f4.trans (Ext.fr x5))) la4.len g5 (by rw[mk.lv];exact la4.ext x5) r4]
   have nl:=mk.nl;rw[Sw] at nl;unfold Yj;room;rw[Gy g4]
   room;rw[gm S4 f4]
   dsimp[aF,anyS,IF];cases e1:null a<;>cases e2:(ms.map oH).any (·==lz)<;>dsimp[e1,e2,ax,if_false,if_true,aF,anyS]<;>refine en4 _ ?_<;>rw[nl,e1,e2]<;>simp
  have hs:=Sv ms;have lnk:ms.any Gz=ζ->Rest Γ pLk #[λen S4=>Rest Γ Yj #[λ_ S1=>Q .cf S1,Q] en S4,Q] [ξ (.loc L),ξ (enc t),ξ (.loc S.length),ξ (enc a),ξ (.loc p),ψ] S3:=by
   intro z;unfold pLk;room;rw[la3.o,b7]
   refine#[#[rfl,rfl],?_];rw[Bu g3,Bt g3]
   rwa[ca h3 #[L,_,bh1,en,Z,F,rfl,la3,by rw[ra.len];omega,λp hp'=>?_,λS4 bh2 f4 la4 lk=>?_]]
   .rw[ra.z,aj] at hp'
    have:=(gf hpa).mp hp'.1;rw[ra.len];omega
   .erw[Rest.go (fin2 S4 bh2 f4 la4 (EH mk hpa hb ra (by rw[if_pos z];exact lk)))]
  room;rw[gm S3 .refl]
  dsimp[aF,anyS];cases e1:(ms.map oH).any (·==lz)<;>cases e2:(ms.map oH).any (·==o7)<;>rw[e1,e2] at hs<;>dsimp[e1,e2,ax,if_false,if_true,aF,anyS]
  .erw[Rest.go (fin2 S3 bh1 .refl la3 (EH mk hpa hb ra (by rw[if_neg (by simp[hs])])))]
  .erw[lnk hs]
  .erw[lnk hs]
  .erw[lnk hs]
 unfold fK;room;refine#[#v[],?_];room;have x0:Ext S (S++[SO.lst []]):=Ext.app _;have g0:(S++[SO.lst []])[S.length]?=ξ (.lst (([]:List Mk).map λm=>U.str (oH m))):=by simp
 have dt:bV t<=d:=%[et|da]
 refine#[bV t+1,nM (λn env S2=>∃ms a,n=bV a/\O3 t ms a/\(a=t\/bV a<d)/\ms.length+bV a<=200/\env=[ξ (.loc L),ξ (enc t),ξ (.loc S.length),ξ (enc a),ψ,ψ]/\(∀n,n<S.length->S2[n]?=S[n]?)/\S2[S.length]?=ξ (.lst (ms.map λm=>U.str (oH m)))) ?_ _ (bV t) _ _ ∅ #[[],t,rfl,.zero t,.inl rfl,(·),rfl,x0.2,g0]];rintro n env S2 K ⟨ms,a,rfl,mk,hda,hms,rfl,e2,g2⟩ hK;have out:(∀m a',a≠.rep m a')->bV a<d:=λz=>by
  rcases hda with rfl|z2
  .erw[absurd et (z m0 a0)]
  .erw[z2]
 have stop:∀k x,enc a=.tup [.str k,x]->(lz==k||(o7==k||kA==k))=ϑ->bV a<d->WT Γ (.dk (.cmp .isin (.ix @3 ↑0) (.tup (.cons ↑[115,116,97,114] (.cons ↑[112,108,117,115] (.cons ↑[109,97,121,98,101] .nil)))))) [ξ (.loc L),ξ (enc t),ξ (.loc S.length),ξ (enc a),ψ,ψ] S2
   (λt1 S1=>if t1=ζ then Rest Γ (.cons (.ex (.j6 .append @2 (.cons (.ix @3 ↑0) .nil))) (.cons (.set 3 (.ix @3 ↑1)) .nil)) #[K,Q] [ξ (.loc L),ξ (enc t),ξ (.loc S.length),ξ (enc a),ψ,ψ] S1 else Rest Γ pR2 #[λ_ S1=>Q .cf S1,Q] [ξ (.loc L),ξ (enc t),ξ (.loc S.length),ξ (enc a),ψ,ψ] S1):=by
  intro k x ek ek2 da;have:=fin ms a S2 mk da e2 g2;rw[ek] at this ⊢;room;rw[mC,bg]
  refine#[#v[],#v[],?_];rw[in3,ek2]
  erw[this]
 cases a with
 |one k l=>erw[stop _ _ rfl rfl (out λ_ _ z=>nomatch z)]
 |row a b=>erw[stop _ _ rfl rfl (out λ_ _ z=>nomatch z)]
 |or a b=>erw[stop _ _ rfl rfl (out λ_ _ z=>nomatch z)]
 |rep m a=>
  have ek:enc (.rep m a)= .tup [.str (oH m),enc a]:=rfl;have dr:bV (.rep m a)=bV a+1:=rfl;rw[ek]
  room;rw[mC,bg]
  refine#[#v[],#v[],?_];rw[in3,N3]
  room;rw[g2]
  dsimp[aF,mC,qe,bg];refine#[trivial,#v[],(·),?_];room;dsimp[qe,bg];refine#[#v[],?_];try room
  refine hK (bV a) _ _ ∅ #[ms++[m],a,rfl,mk.next,.inr (by rcases hda with rfl|z<;>omega),(·),rfl,λn hn=>?_,by rw[gs g2];simp];rw[ao ∅];exact e2 n hn
section
variable{Γ:cv}{D:Ends}{env:Env}{S:bM}{i:Nat}{k k':List Nat}{x:U}{a b ss:dG}
def uu(h:env[i]?=ξ (ξ (.tup [.str k,x])))(e:(k==k')=ζ)(q:Rest Γ a #[λen S1=>Rest Γ ss D en S1,D.rt] env S):Rest Γ (.cons (.ifs (.dk (.cmp .eq (.ix (.var i) ↑0) (.lit (.str k')))) a b) ss) D env S:=by
 room;rw[h]
 dsimp[pH,Ec,mC,bg,Eb,MY,e,if_true];exact#[#v[],q]
def kB(h:env[i]?=ξ (ξ (.tup [.str k,x])))(e:(k==k')=ϑ)(q:Rest Γ ss D env S):Rest Γ (.cons (.ifs (.dk (.cmp .eq (.ix (.var i) ↑0) (.lit (.str k')))) a .nil) ss) D env S:=by
 room;rw[h]
 dsimp[pH,Ec,mC,bg,Eb,MY,e,ax,if_false];exact#[#v[],q]
end
def Sx(Γ:cv)(d:Nat)(h1:Γ "Layout.lay_place"=ij λt u=>∃n l,t=.one n l/\u=.str l)(h2:Γ "Layout.lay_row"=ij λt u=>∃a b,t=.row a b/\bV a<d/\bV b<d/\u=.tup [enc a,enc b])
  (h3:Γ "Layout.lay_choice"=ij λt u=>∃a b,t=.or a b/\bV a<d/\bV b<d/\u=.tup [enc a,enc b]) (h4:Γ "Layout.lay_repeat"=ij λt u=>∃m a,t=.rep m a/\bV a<d/\u=enc t):Keeps Γ kL 0 (ij (Tu (d+1))):=by
 rintro us S Q ⟨L,sg,bh,en,t,u,rfl,⟨dt,rfl⟩,h,hp,hb,hl,q⟩;unfold kL;cases t with
 |one n l=>
  rwa[uu rfl rfl ?_];dsimp[enc];room;rw[h.o,b7,qe]
  exact#[#[rfl,rfl],#v[],ca h1 #[L,sg,bh,en,_,_,rfl,#[n,l,rfl,rfl],h,hp,hb,hl,q]]
 |row a b=>
  have dt:max (bV a) (bV b)+1<d+1:=dt;rwa[kB rfl rfl (uu rfl rfl ?_)];dsimp[enc];room;rw[h.o,b7,qe]
  exact#[#[rfl,rfl],#v[],ca h2 #[L,sg,bh,en,_,_,rfl,#[a,b,rfl,∅,∅,rfl],h,hp,hb,hl,q]]
 |or a b=>
  have dt:max (bV a) (bV b)+1<d+1:=dt;rwa[kB rfl rfl (kB rfl rfl (uu rfl rfl ?_))];dsimp[enc];room;rw[h.o,b7,qe]
  exact#[#[rfl,rfl],#v[],ca h3 #[L,sg,bh,en,_,_,rfl,#[a,b,rfl,∅,∅,rfl],h,hp,hb,hl,q]]
 |rep m a=>
  have dt:bV a+1<d+1:=dt;have k1:(oH m==Gn)=ϑ/\(oH m==zj)=ϑ/\(oH m==O1)=ϑ:=by cases m<;>exact#[rfl,rfl,rfl]
  rwa[kB rfl k1.1 (kB rfl k1.2.1 (kB rfl k1.2.2 ?_))];room;rw[h.o,b7]
  exact#[#[rfl,rfl],ca h4 #[L,sg,bh,en,_,_,rfl,#[m,a,rfl,∅,rfl],h,hp,hb,hl,q]]
abbrev mQ(f:List Nat->Bool)(sg:List (List Nat))(p:Nat):Bool:=((sg[p]?).map f).getD ϑ
def yh(f:List Nat->Bool)(sg:List (List Nat))(hg:g S)(hl:sg.length<=100)
  (hc:∀(i:Nat)l k,k (f l) S->c (.tup [aW i,.str l]) S k) (he:∀(i:Nat)l k,i<=100->k (aW (1<<<i)) S->e (.tup [aW i,.str l]) S k)
  (q:∀(is:List Int)(b:Nat),is.sum=b->(∀p,b.testBit p=mQ f sg p)->Q (is.map .int) S):mN g c e Q ((sg.map U.str).mapIdx λi u=>.tup [.int (i:Nat),u]) [] S:=by
 rwa[gB _ (λi acc S'=>S'=S/\∃(is:List Int)(b:Nat),acc=is.map .int/\is.sum=b/\b<2^i/\is.length<=i/\∀p,b.testBit p=(decide (p<i)&&mQ f sg p)) (λi acc S' hi h=>?_) (λi u acc S' k hu hi hk=>?_) (λacc S' h=>?_) #[rfl,[],0,rfl,rfl,#v[],#v[],#v[]]]
 .let#[rfl,is,b,rfl,_,_,hl',_]:=h
  simp at hi;exact#[hg,(·)]
 .let#[rfl,is,b,rfl,h1,h2,h3,h4]:=hi
  dsimp[fF,aB] at hu;cases es:sg[i]? with
  |none=>rw[es] at hu;simp at hu
  |some l=>
   rw[es] at hu;dsimp[gD,pY] at hu;subst hu;have il:=(ag.mp es).1;have hi:mQ f sg i=f l:=by unfold mQ;rw[es];rfl
   rwa[hc i l _ ?_];cases z:f l with
   |false=>
    rw[if_neg (#v[])]
    rwa[hk _ _ #[rfl,is,b,rfl,h1,by rw[gE];omega,∅,λp=>?_]];rw[h4]
    by_cases zp:p=i
    .subst zp;simp[hi,z]
    .have:(p<i)↔(p<i+1):=∅
     dsimp[this]
   |true=>
    rw[if_pos rfl]
    rwa[he i l _ ∅ (hk _ _ #[rfl,is++[((1<<<i:Nat):Int)],2^i+b,#v[],?_,by rw[gE];omega,(·),λp=>?_])]
    .rw[LO,h1,ug];simp;omega
    .by_cases zp:p=i
     .subst zp
      rw[Nat.testBit_two_pow_add_eq,Cd h2];simp[hi,z]
     .by_cases zl:p<i
      .rw[Nat.testBit_two_pow_add_gt zl,h4]
       simp[zl,bc zl]
      .rw[Cd (au (show 2^i+b<2^(i+1) by rw[gE];omega) (bx ∅ ∅))]
       have:¬p<i+1:=∅
       simp[this]
 .let#[rfl,is,b,rfl,h1,_,_,h4]:=h
  rwa[q is b h1 λp=>?_]
  rw[h4]
  dsimp[lN,ae];by_cases z:p<sg.length
  .simp[z]
  .unfold mQ
   rw[cL ∅];simp
def vY(h:mQ f sg p=ζ):∃l,sg[p]?=ξ l/\f l=ζ:=by
 unfold mQ at h;cases e:sg[p]? with
 |none=>rw[e] at h;simp at h
 |some l=>rw[e] at h;exact#[l,rfl,h]
abbrev O4:Spec:=λus S Q=>∃L sg bh en c,us=[.loc L,.str [c]]/\sf S L sg bh en/\sg.length<=100/\∀(b:Nat)S',Ext S S'->(∀p,b.testBit p=mQ (·.contains c) sg p)->Q (aW b) S'
def Sy(Γ:cv):Keeps Γ f9 0 O4:=by
 rintro us S Q ⟨L,sg,bh,en,c,rfl,h,hl,q⟩;unfold f9;room;rw[Kh h]
 room;rw[h.s,aF]
 rwa[yh (·.contains c) sg h.s hl (λi l k z=>?_) (λi l k hi z=>?_) λis b e hb=>?_]
 .room
  erw[z]
 .room
  exact#[∅,z]
 .exact#[is,#v[],%[e|q b _ (Ext.app _) hb]]
abbrev zt(l:List Nat):Bool:=!(l==[])
abbrev xw(sg:List (List Nat))(bh en:List Nat)(P:Nat->Prop):Prop:=(∀(Z p:Nat),Z∈en->Z.testBit p=ζ->mQ zt sg p=ζ->P p)/\∀(q B p:Nat),mQ zt sg q=ζ->bh[q]?=ξ B->B.testBit p=ζ->P p->P q
structure Ho(sg:List (List Nat))(bh en:List Nat)(u:Nat):Prop where
 e:∀(Z p:Nat),Z∈en->Z.testBit p=ζ->mQ zt sg p=ζ->u.testBit p=ζ
 b:∀(q B p:Nat),mQ zt sg q=ζ->bh[q]?=ξ B->B.testBit p=ζ->u.testBit p=ζ->u.testBit q=ζ
 m:∀P,xw sg bh en P->∀p,u.testBit p=ζ->P p
abbrev Wr:Spec:=λus S Q=>∃L sg bh en,us=[.loc L]/\sf S L sg bh en/\sg.length<=100/\bh.length=sg.length/\∀(u:Nat)S',Ext S S'->Ho sg bh en u->Q (aW u) S'
def Ws(Γ:cv)(h1:Γ "members"=Bs):Keeps Γ iV 5 Wr:=by
 rintro us S Q ⟨L,sg,bh,en,rfl,h,hl,hb,q⟩;unfold iV;room;rw[Kh h]
 room;rw[h.s,aF]
 rwa[yh zt sg h.s hl (λi l k z=>?_) (λi l k hi z=>?_) λis T e hT=>#[is,#v[],?_]]
 .room
  erw[z]
 .room
  exact#[∅,z]
 rw[e]
 have x0:Ext S (S++[SO.lst (is.map U.int)]):=Ext.app _;have h':=h.ext x0;generalize S++[SO.lst (is.map U.int)]=S0 at x0 h';have Tlt:∀p,T.testBit p=ζ->p<sg.length:=λp hp=>by
  rw[hT] at hp;let#[l,e,_]:=vY hp;exact(ag.mp e).1
 have Tl:T<2^sg.length:=jK Tlt;room;rw[Sn h']
 room;rw[h'.e,aF]
 refine fj (λi env S2=>S2=S0/\∃(gr:Nat)(x3:Option U),env=[ξ (.loc L),ξ (aW T),ξ (aW gr),x3,ψ,ψ]/\gr<2^sg.length/\(∀(Z p:Nat),Z∈en.take i->Z.testBit p=ζ->T.testBit p=ζ->gr.testBit p=ζ)/\∀P,xw sg bh en P->∀p,gr.testBit p=ζ->P p) (λi env S2 z=>z.1▸h'.e) _ ?_ ?_ #[rfl,0,ψ,rfl,Nat.two_pow_pos _,#v[],λP _ p z=>by simp at z]
 .rintro i u env S2 K hu ⟨rfl,gr,x3,rfl,hgr,inv,only⟩ hK
  let#[Z,hZ,rfl]:=gg hu;room;have et:=Kg hZ;rwa[hK _ _ #[rfl,gr|||(Z&&&T),_,rfl,Lr hgr (jK λp hp=>?_),λZ' p m h1 h2=>?_,λP cl p hp=>?_]]
  .rw[bP,aj] at hp;erw[Tlt p hp.2]
  .rw[et] at m
   rw[cQ,bP]
   rcases aL.mp m with m|m
   .rw[inv Z' p m h1 h2];rfl
   .simp at m;subst m;rw[h1,h2];simp
  .rw[cQ,bP,bq,aj] at hp
   rcases hp with hp|⟨z1,z2⟩
   .erw[only P cl p hp]
   .erw[cl.1 Z p (ai hZ) z1 (by rw[<-hT];exact z2)]
 .rintro env S2 ⟨rfl,gr,x3,rfl,hgr,inv,only⟩
  room;rw[ae,cb] at inv;have out:∀{S3:bM}{u:Nat},Ext S S3->(∀p,gr.testBit p=ζ->u.testBit p=ζ)->(∀(q B p:Nat),T.testBit q=ζ->bh[q]?=ξ B->B.testBit p=ζ->u.testBit p=ζ->u.testBit q=ζ)->(∀P,xw sg bh en P->∀p,u.testBit p=ζ->P p)->Q (aW u) S3:=λx3 a b c=>
   q _ _ x3 #[λZ p m z1 z2=>a p (inv Z p m z1 (%[hT|z2])),λq B p z1=>b q B p (%[hT|z1]),c]
  refine#[2^sg.length+1,nM (λn env S3=>∃(g2 u:Nat)(x3 x5:Option U),n=2^sg.length-u/\env=[ξ (.loc L),ξ (aW T),ξ (aW g2),x3,ξ (aW u),x5]/\Ext S S3/\sf S3 L sg bh en/\u<=g2/\g2<2^sg.length/\(∀p,gr.testBit p=ζ->g2.testBit p=ζ) /\
   (∀(q B p:Nat),T.testBit q=ζ->bh[q]?=ξ B->B.testBit p=ζ->u.testBit p=ζ->g2.testBit q=ζ)/\∀P,xw sg bh en P->∀p,g2.testBit p=ζ->P p) ?_ _ (2^sg.length) _ _ ∅ #[gr,0,x3,ψ,∅,rfl,x0,h',∅,hgr,λ_ z=>z,λq B p _ _ _ z=>by simp at z,only]]
  rintro n env S3 K ⟨g2,u,x3,x5,rfl,rfl,x3',h3,hu,hg,ia,ib,ic⟩ hK;room;by_cases z:g2=u
  .subst z
   dsimp[beq_self_eq_true,bX,ax,if_false];room;erw[out x3' ia ib ic]
  .have:((g2:Int)== (u:Int))=ϑ:=by
    rw[beq_eq_false_iff_ne];omega
   dsimp[this,cz,if_true];room;rwa[ca h1 #[T,rfl,au Tl (bx ∅ hl),λm S4 x4 hm g4=>?_]];room;rw[g4,aF]
   have h4:=h3.ext x4;refine fj (λi env S5=>S5=S4/\∃(g3:Nat)(x5:Option U),env=[ξ (.loc L),ξ (aW T),ξ (aW g3),x3,ξ (aW g2),x5]/\g2<=g3/\g3<2^sg.length/\(∀p,g2.testBit p=ζ->g3.testBit p=ζ) /\
    (∀(q B p:Nat),q∈(Dm T).take i->bh[q]?=ξ B->B.testBit p=ζ->g2.testBit p=ζ->g3.testBit q=ζ)/\∀P,xw sg bh en P->∀p,g3.testBit p=ζ->P p) (λi env S5 z=>z.1▸g4) _ ?_ ?_ #[rfl,g2,x5,rfl,ar _,hg,λ_ z=>z,#v[],ic]
   .rintro i v env S5 K' hv ⟨rfl,g3,x5,rfl,j1,j2,j3,j4,j5⟩ hK'
    let#[p,hp,rfl]:=gg hv;have pT:=lA.mp (ai hp);have pl:=Tlt p pT;have et:=Kg hp;room;rw[Ki h4]
    room;rw[h4.b,aF,kH]
    rwa[uK (ab ∅) ?_];room;by_cases w:(((bh[p]'∅&&&g2:Nat):Int) !=0)=ζ
    .rw[if_pos w]
     room;refine#[∅,?_];try room
     rwa[hK' _ _ #[rfl,g3|||1<<<p,_,rfl,aH j1 Nat.left_le_or,Lr j2 (jK λr hr=>?_),λr hr=>by rw[cQ,j3 r hr];rfl,λq B r m e1 e2 e3=>?_,λP cl r hr=>?_]]
     .rw[sh] at hr;have:=eq_of_beq hr;omega
     .rw[et] at m
      rw[cQ,sh]
      rcases aL.mp m with m|m
      .rw[j4 q B r m e1 e2 e3];rfl
      .simp at m;subst m;simp
     .rw[cQ,sh,bq] at hr
      rcases hr with hr|hr
      .erw[j5 P cl r hr]
      .have:=eq_of_beq hr
       subst this;let#[s,hs]:=zq.mp w;rw[bP,aj] at hs;erw[cl.2 _ _ s (by rw[<-hT];exact pT) (ab ∅) hs.1 (ic P cl s hs.2)]
    .rw[if_neg w]
     room;rwa[hK' _ _ #[rfl,g3,_,rfl,j1,j2,j3,λq B r m e1 e2 e3=>?_,j5]];rw[et] at m;rcases aL.mp m with m|m
     .erw[j4 q B r m e1 e2 e3]
     .simp at m;subst m
      rwa[absurd (zq.mpr #[r,?_]) w];rw[ab ∅] at e1;injection e1 with e1
      rw[e1,bP,e2,e3];rfl
   .rintro env S5 ⟨rfl,g3,x5,rfl,j1,j2,j3,j4,j5⟩
    rw[ae,cb] at j4;room;erw[hK (2^sg.length-g2) _ _ ∅ #[g3,g2,_,_,rfl,rfl,x3'.trans x4,h4,j1,j2,λp hp=>j3 p (ia p hp),λq B p z1=>j4 q B p (lA.mpr z1),j5]]
abbrev j9(f:List Nat->Bool):List (List Nat)->Nat
 |[]=>0
 |l::r=>(if f l=ζ then 1 else 0)+2*j9 f r
def si:∀{sg:List (List Nat)}{p:Nat},(j9 f sg).testBit p=mQ f sg p
 |[],p=>by simp[j9,mQ]
 |l::r,0=>by
  unfold j9 mQ;rw[Nat.testBit_zero]
  cases z:f l<;>simp[z]<;>omega
 |l::r,p+1=>by
  unfold j9;have e:((if f l=ζ then 1 else 0)+2*j9 f r)/2=j9 f r:=by split<;>omega
  rw[Nat.testBit_succ,e,si]
  rfl
section
variable{S S1 S2:bM}{r n:Nat}{o:SO}
def oo(a:Old r S S1)(h:S[n]?=ξ o)(ne:n≠r):S1[n]?=ξ o:=(a.2 n (aS h) ne).trans h
def Wt(a:Old r S S1)(b:Ext S1 S2):Old r S S2:=a.trans (Ext.old b)
def GD{c f:String}{fs:List (String×U)}{v:U}{K:bM->Prop}(h:S[r]?=ξ (.ins c fs))(hl:fs.length<100)(q:∀S',Old r S S'->S'.length=S.length->S'[r]?=ξ (.ins c (iz f v fs))->K S'):
  qD S[r]? λc fs=>fs.length<100/\K (S.set r (.ins c (iz f v fs))):=by
 rw[h,b7]
 exact#[hl,q _ (lL.set h).old (#v[]) (gs h)]
end
structure Kl(S:bM)(P:Nat)(bh en:List Nat)(tk:Nat->Nat):Prop where
 o:∃b e k,S[P]?=ξ (.ins "Places" [("behind",.loc b),("ends",.loc e),("takers",.loc k)])/\S[b]?=ξ (.lst (bh.map aW))/\S[e]?=ξ (.lst (en.map aW))/\S[k]?=ξ (.dZ (SG.map λc=>(.str [c],aW (tk c))))
def Kl.ext{S S':bM}{P:Nat}{bh en:List Nat}{tk:Nat->Nat}(h:Kl S P bh en tk)(x:Ext S S'):Kl S' P bh en tk:=by
 let#[b,e,k,h1,h2,h3,h4]:=h.o;exact#[b,e,k,x.get h1,x.get h2,x.get h3,x.get h4]
abbrev Km:Spec:=λus S Q=>∃P L sg bh en,us=[.loc P,.loc L]/\S[P]?=ξ (.ins "Places" [])/\S.length=P+1/\sf S L sg bh en/\sg.length<=100/\bh.length=sg.length/\en.length<=100 /\
 ∀u S',Ho sg bh en u->(∀n,n<P->S'[n]?=S[n]?)->Kl S' P (bh.map (·&&&u)) en (λc=>j9 (·.contains c) sg)->Q .cf S'
def O5:(SG.map λc=>[c]).Nodup:=⋯
def Wu(Γ:cv)(h1:Γ "useful_places"=Wr)(h2:Γ "places_that_take"=O4):Keeps Γ jW 1 Km:=by
 rintro us S Q ⟨P,L,sg,bh,en,rfl,hP,hs,h,hl,hb,he,q⟩;unfold jW;have nd:=O5;generalize hG:SG=G at nd;have gl:G.length=95:=by rw[<-hG];rfl
 room;refine ca h1 #[L,sg,bh,en,rfl,h,hl,hb,λu S1 x1 hu=>?_];have la:=h.ext x1;have hP1:=x1.get hP;have ne:L+4<=P:=by
  have:=h.len;have n0:¬L=P:=λz=>by rw[z] at h;rw[h.o] at hP;simp at hP
  have n1:¬L+1=P:=λz=>by rw[<-z,h.s] at hP;simp at hP
  have n2:¬L+2=P:=λz=>by rw[<-z,h.b] at hP;simp at hP
  have n3:¬L+3=P:=λz=>by rw[<-z,h.e] at hP;simp at hP
  omega
 room;rw[Ki la]
 room;rw[la.b,aF]
 refine yg (S:=S1) _ (λ_=>ζ) (λv=>match v with|.int i=>aW (i.toNat&&&u)|v=>v) la.b ((·)) (λv k _ z=>z.1 rfl) (λv k hv _ z=>?_) ?_
 .let#[B,_,rfl]:=bO.mp hv
  room;erw[z]
 have e1:(List.filter (λ_=>ζ) (bh.map aW)).map (λv=>match v with|.int i=>aW (i.toNat&&&u)|v=>v)=(bh.map (·&&&u)).map aW:=by
  rw[List.filter_eq_self.mpr (λ_ _=>rfl),bB,bB];rfl
 rw[e1]
 have x2:Ext S1 (S1++[SO.lst ((bh.map (·&&&u)).map aW)]):=Ext.app _;have g2:(S1++[SO.lst ((bh.map (·&&&u)).map aW)])[S1.length]?=ξ (.lst ((bh.map (·&&&u)).map aW)):=by simp
 have n2:S1.length≠P:=by have:=x1.1;omega
 generalize S1.length=b at g2 n2;generalize S1++[SO.lst ((bh.map (·&&&u)).map aW)]=S2 at g2 x2;rwa[GD (x2.get hP1) (#v[]) λS3 o3 l3 hP3=>?_]
 have la3:sf S3 L sg bh en:=by
  have:=la.ext x2;exact#[oo o3 this.o ∅,oo o3 this.s ∅,oo o3 this.b ∅,oo o3 this.e ∅]
 have g3:=oo o3 g2 n2;have o13:=(Ext.old (r:=P) (x1.trans x2)).trans o3;room;rw[Sn la3]
 room;rw[la3.e,aF]
 have x4:Ext S3 (S3++[SO.lst (en.map aW)]):=Ext.app _;have g4:(S3++[SO.lst (en.map aW)])[S3.length]?=ξ (.lst (en.map aW)):=by simp
 have n4:S3.length≠P:=by have:=o13.1;omega
 generalize S3.length=e at g4 n4;generalize S3++[SO.lst (en.map aW)]=S4 at g4 x4;rwa[GD (x4.get hP3) (by simp[iz]) λS5 o5 l5 hP5=>?_]
 have la5:sf S5 L sg bh en:=by
  have:=la3.ext x4;exact#[oo o5 this.o ∅,oo o5 this.s ∅,oo o5 this.b ∅,oo o5 this.e ∅]
 have o15:=(Wt o13 x4).trans o5;have g35:=oo o5 (x4.get g3) n2;have g45:=oo o5 g4 n4;room;rwa[gB _ (λi acc S6=>i<=G.length/\Ext S5 S6/\acc=(G.take i).map λc=>.tup [.str [c],aW (j9 (·.contains c) sg)]) (λi acc S6 hi z=>#[trivial,?_]) (λi v acc S6 k hv hi hk=>?_) (λacc S6 z=>?_) #[∅,.refl,rfl]]
 .rw[z.2.2];simp;omega
 .let#[_,x6,rfl]:=hi
  let#[c,hc,rfl]:=gg hv;have et:=Kg hc;room;rwa[ca h2 #[L,sg,bh,en,c,rfl,la5.ext x6,hl,λb S7 x7 hb=>#[#v[],?_]]];have eb:b=j9 (·.contains c) sg:=kF λp=>by rw[hb,si]
  subst eb;erw[hk _ _ #[(ag.mp hc).1,x6.trans x7,by rw[et,aI];rfl]]
 let#[_,x6,rfl]:=z;rw[ae,cb]
 refine#[G.map λc=>([c],aW (j9 (·.contains c) sg)),by simp[cJ],%[bB|nd],?_];rw[bB]
 have x7:Ext S6 (S6++[SO.lst (G.map λc=>.tup [.str [c],aW (j9 (·.contains c) sg)])]++[SO.dZ (G.map ((λp=>(U.str p.1,p.2))∘λc=>([c],aW (j9 (·.contains c) sg))))]):=(Ext.app _).trans (Ext.app _);have g7:(S6++[SO.lst (G.map λc=>.tup [.str [c],aW (j9 (·.contains c) sg)])]++[SO.dZ (G.map ((λp=>(U.str p.1,p.2))∘λc=>([c],aW (j9 (·.contains c) sg))))])[(S6++[SO.lst (G.map λc=>.tup [.str [c],aW (j9 (·.contains c) sg)])]).length]?=ξ (.dZ (G.map λc=>(.str [c],aW (j9 (·.contains c) sg)))):=by
  rw[ay (ar _),bZ];rfl
 have n7:(S6++[SO.lst (G.map λc=>.tup [.str [c],aW (j9 (·.contains c) sg)])]).length≠P:=by
  have:=o15.1;have:=x6.1;rw[aq];omega
 generalize (S6++[SO.lst (G.map λc=>.tup [.str [c],aW (j9 (·.contains c) sg)])]).length=k at g7 n7;generalize S6++[SO.lst (G.map λc=>.tup [.str [c],aW (j9 (·.contains c) sg)])]++[SO.dZ (G.map ((λp=>(U.str p.1,p.2))∘λc=>([c],aW (j9 (·.contains c) sg))))]=S7 at g7 x7;rwa[GD ((x6.trans x7).get hP5) (by simp[iz]) λS8 o8 l8 hP8=>?_]
 room;subst hG;erw[q u S8 hu (λn hn=>((Wt o15 (x6.trans x7)).trans o8).2 n ∅ ∅) #[b,e,k,hP8,oo o8 ((x6.trans x7).get g35) n2,oo o8 ((x6.trans x7).get g45) n4,oo o8 g7 n7]]
abbrev Sz(bh:List Nat)(h r:Nat):Prop:=∀p,r.testBit p=ζ↔∃q B,h.testBit q=ζ/\bh[q]?=ξ B/\B.testBit p=ζ
abbrev Kn:Spec:=λus S Q=>∃P bh en tk h,us=[.loc P,aW h]/\Kl S P bh en tk/\bh.length<=100/\(∀p,h.testBit p=ζ->p<bh.length)/\∀r S',Sz bh h r->Ext S S'->Q (aW r) S'
def Wv(Γ:cv)(h1:Γ "members"=Bs):Keeps Γ iW 2 Kn:=by
 rintro us S Q ⟨P,bh,en,tk,h,rfl,pa,hl,hh,q⟩;unfold iW;room;rwa[ca h1 #[h,rfl,au (jK hh) (bx ∅ hl),λn S1 x1 hn g1=>?_]];let#[b,e,k,o,gb,_,_]:=(pa.ext x1).o;have fb:∀{r},oX (.loc P) "behind" S1 r=r (.loc b):=by intro r;rw[i8,o];rfl
 room;rw[g1,aF]
 rwa[fj (λi env S2=>S2=S1/\∃(r:Nat)(x3:Option U),env=[ξ (.loc P),ξ (aW h),ξ (aW r),x3]/\∀p,r.testBit p=ζ↔∃q B,q∈(Dm h).take i/\bh[q]?=ξ B/\B.testBit p=ζ) (λi env S2 z=>z.1▸g1) _ ?_ ?_ #[rfl,0,ψ,rfl,#v[]]]
 .rintro i u env S2 K hu ⟨rfl,r,x3,rfl,inv⟩ hK
  let#[p,hp,rfl]:=gg hu;have pl:=hh p (lA.mp (ai hp));have et:=Kg hp;room;rw[fb]
  room;rw[gb,aF,kH]
  rwa[uK (ab pl) ?_];room;rwa[hK _ _ #[rfl,_,_,rfl,λp'=>?_]];rw[cQ,bq,inv,et]
  constructor
  .rintro(⟨q,B,m,e1,e2⟩|e2)
   .exact#[q,B,bj _ m,e1,e2]
   .exact#[p,_,aR _ (#v[]),ab pl,e2]
  .rintro⟨q,B,m,e1,e2⟩
   rcases aL.mp m with m|m
   .erw[.inl #[q,B,m,e1,e2]]
   .simp at m;subst m
    rw[ab pl] at e1;injection e1 with e1
    erw[.inr (by rw[e1];exact e2)]
 .rintro env S2 ⟨rfl,r,x3,rfl,inv⟩
  room;rwa[q r _ (λp=>?_) x1];rw[inv,ae,cb]
  dsimp[lA]
abbrev Ov(h:Nat)(en:List Nat)(i:Nat):Prop:=∃Z,en[i]?=ξ Z/\∃p,h.testBit p=ζ/\Nat.testBit Z p=ζ
abbrev uN:Option Nat->U
 |none=>.cf
 |some i=>aW i
abbrev Yk(h:Nat)(en:List Nat):Option Nat->Prop
 |none=>∀i,¬Ov h en i
 |some i=>Ov h en i/\∀i',i'<i->¬Ov h en i'
abbrev Ko:Spec:=λus S Q=>∃P bh en tk h,us=[.loc P,aW h]/\Kl S P bh en tk/\∀r,Yk h en r->Q (uN r) S
def Ww(Γ:cv):Keeps Γ fL 2 Ko:=by
 rintro us S Q ⟨P,bh,en,tk,h,rfl,pa,q⟩;unfold fL;let#[b,e,k,o,_,ge,_]:=pa.o;have fe:∀{r},oX (.loc P) "ends" S r=r (.loc e):=by intro r;rw[i8,o];rfl
 room;rw[fe]
 room;rw[ge,aF]
 rwa[fj (λi env S2=>S2=S/\∃(x2 x3:Option U),env=[ξ (.loc P),ξ (aW h),x2,x3]/\∀i',i'<i->¬Ov h en i') (λi env S2 z=>z.1▸ge) _ ?_ ?_ #[rfl,ψ,ψ,rfl,#v[]]]
 .rintro i u env S2 K hu ⟨rfl,x2,x3,rfl,inv⟩ hK
  dsimp[fF,aB,pB] at hu;let#[Z,hZ,rfl]:=ak.mp hu;dsimp[cJ];room;by_cases w:(((h&&&Z:Nat):Int) !=0)=ζ
  .rw[if_pos w]
   room;let#[p,hp]:=zq.mp w;rw[bP,aj] at hp;erw[q (ξ i) #[#[Z,hZ,p,hp.1,hp.2],inv]]
  .rw[if_neg w]
   room;rwa[hK _ _ #[rfl,_,_,rfl,λi' hi=>?_]];by_cases z:i'=i
   .subst z
    rintro⟨Z',e1,p,e2,e3⟩;rw[hZ] at e1;injection e1 with e1;subst e1
    erw[w (zq.mpr #[p,by rw[bP,e2,e3];rfl])]
   .erw[inv i' ∅]
 .rintro env S2 ⟨rfl,x2,x3,rfl,inv⟩
  room;rwa[q ψ λi ov=>?_]
  let#[Z,e1,_]:=ov;exact inv i (by have:=(ag.mp e1).1;simpa using this) #[Z,e1,‹_›]
structure Aa(ts:List Tr)(sg:List (List Nat))(bh en:List Nat):Prop where
 len:bh.length=sg.length
 GF:en.length=ts.length
 dis:∀(i j:Nat)t t' p,ts[i]?=ξ t->ts[j]?=ξ t'->IN t p=ζ->IN t' p=ζ->i=j
 pos:∀t∈ts,∃n,0<n/\om n t
 sgn:∀t∈ts,∀p,IN t p=ζ->sg[p]?=ξ (sgn t p)
 b0:∃B,bh[0]?=ξ B/\∀p,B.testBit p=ζ↔∃t∈ts,FS t p=ζ
 b:∀t∈ts,∀q,IN t q=ζ->∃B,bh[q]?=ξ B/\∀p,B.testBit p=nY (cont t q) p
 e:∀(i:Nat)t,ts[i]?=ξ t->∃Z,en[i]?=ξ Z/\∀p,Z.testBit p=(IN t p&&dv (cont t p))
 nl:∀t∈ts,null t=ϑ
section
variable{ts:List Tr}{sg:List (List Nat)}{bh en:List Nat}{u r r' c:Nat}{w:List Nat}
abbrev O6(ts:List Tr)(u:Nat)(w:List Nat)(r:Nat):Prop:=∀p,r.testBit p=ζ↔(∃t∈ts,∃q,hs t w q/\nY (ct t q) p=ζ)/\u.testBit p=ζ
def uL{q B:Nat}(h:(bh.map (·&&&u))[q]?=ξ B):∃B',bh[q]?=ξ B'/\B=B'&&&u:=by
 rw[aB] at h;let#[B',h1,h2]:=ak.mp h;exact#[B',h1,h2.symm]
def ct0:ct t 0=[t]:=rfl
def Ue(h:p≠0):ct t p=cont t p:=by unfold ct;rw[if_neg h]
def Wx:nY [t] p=FS t p:=by simp[nY]
def GG(A:Aa ts sg bh en)(h:Sz (bh.map (·&&&u)) 1 r):O6 ts u [] r:=by
 intro p;let#[B,e0,b0]:=A.b0;rw[h p]
 constructor
 .rintro⟨q,B',h1,h2,h3⟩
  have q0:=hJ.mp h1;subst q0;let#[B2,e2,rfl]:=uL h2;rw[e0] at e2;injection e2 with e2;subst e2
  rw[bP,aj,b0] at h3;let#[#[t,m,f],z]:=h3;exact#[#[t,m,0,rfl,%[ct0,Wx|f]],z]
 .rintro⟨⟨t,m,q,hq,f⟩,z⟩
  have hq:q=0:=hq;subst hq;rw[ct0,Wx] at f;exact#[0,B&&&u,rfl,by rw[aB,e0];rfl,by rw[bP,(b0 p).mpr #[t,m,f],z];rfl]
def sj(A:Aa ts sg bh en)(h:O6 ts u w r)(p:Nat):(r&&&j9 (·.contains c) sg).testBit p=ζ↔(∃t∈ts,hs t (w++[c]) p)/\u.testBit p=ζ:=by
 rw[bP,aj,h p,si]
 constructor
 .rintro⟨⟨⟨t,m,q,hq,f⟩,z⟩,k⟩
  let#[l,e1,e2]:=vY k;rw[A.sgn t m p (EG f)] at e1;injection e1 with e1;subst e1
  exact#[#[t,m,by rw[zo];exact#[q,hq,f,gW.mp e2]],z]
 .rintro⟨⟨t,m,hq⟩,z⟩
  rw[zo] at hq;let#[q,hq,f,k]:=hq;refine#[#[#[t,m,q,hq,f],z],?_];unfold mQ;rw[A.sgn t m p (EG f)]
  erw[gW.mpr k]
def pU(A:Aa ts sg bh en)(m:t∈ts)(h:hs t (w++[c]) p):IN t p=ζ/\p≠0/\mQ zt sg p=ζ:=by
 rw[zo] at h;let#[q,_,f,k]:=h;have i:=EG f;let#[n,n0,pl]:=A.pos t m;refine#[i,zm pl n0 i,?_];unfold mQ;rw[A.sgn t m p i]
 show zt (sgn t p)=ζ
 unfold zt;cases e:nW.sgn t p with
 |nil=>rw[e] at k;simp at k
 |cons a l=>rfl
def Kq(A:Aa ts sg bh en)(U:Ho sg bh en u)(m:t∈ts)(h:hs t (w++[c]) q)(f:nY (ct t q) p=ζ)(z:u.testBit p=ζ):u.testBit q=ζ:=by
 let#[i,q0,k]:=pU A m h;let#[B,e1,e2]:=A.b t m q i;rw[Ue q0] at f;erw[U.b q B p k e1 (by rw[e2];exact f) z]
def vZ(A:Aa ts sg bh en)(U:Ho sg bh en u)(h:O6 ts u w r)(hr:Sz (bh.map (·&&&u)) (r&&&j9 (·.contains c) sg) r'):O6 ts u (w++[c]) r':=by
 intro p;rw[hr p]
 constructor
 .rintro⟨q,B',h1,h2,h3⟩
  let#[#[t,m,hq],_]:=(sj A h q).mp h1;let#[i,q0,_]:=pU A m hq;let#[B2,e2,rfl]:=uL h2;let#[B,e1,b1]:=A.b t m q i;rw[e1] at e2;injection e2 with e2;subst e2
  rw[bP,aj,b1] at h3;exact#[#[t,m,q,hq,%[Ue q0|h3.1]],h3.2]
 .rintro⟨⟨t,m,q,hq,f⟩,z⟩
  have uq:=Kq A U m hq f z;let#[i,q0,_]:=pU A m hq;let#[B,e1,b1]:=A.b t m q i;rw[Ue q0] at f;exact#[q,B&&&u,(sj A h q).mpr #[#[t,m,hq],uq],by rw[aB,e1];rfl,by rw[bP,b1,f,z];rfl]
def N4(A:Aa ts sg bh en)(U:Ho sg bh en u)(m:t∈ts)(h:hs t (w++[c]) p)(n:dv (ct t p)=ζ):u.testBit p=ζ:=by
 let#[i,p0,k]:=pU A m h;rw[Ue p0] at n;let#[j,ej]:=bR m;let#[Z,e1,e2]:=A.e j t ej;erw[U.e Z p (ai e1) (by rw[e2,i,n];rfl) k]
def Kr(A:Aa ts sg bh en)(U:Ho sg bh en u)(h:O6 ts u w r)(i:Nat):Ov (r&&&j9 (·.contains c) sg) en i↔∃t,ts[i]?=ξ t/\En t (hs t (w++[c])):=by
 constructor
 .rintro⟨Z,e1,p,h1,h2⟩
  have hi:i<ts.length:=by rw[<-A.GF];exact(ag.mp e1).1
  let#[Z',e2,b2]:=A.e i _ (ab hi);rw[e1] at e2;injection e2 with e2;subst e2
  rw[b2,aj] at h2;let#[#[t,m,hq],_]:=(sj A h p).mp h1;let#[ip,p0,_]:=pU A m hq;let#[j,ej]:=bR m;have:=A.dis i j _ t p (ab hi) ej h2.1 ip;subst this;rw[ab hi] at ej;injection ej with ej;subst ej
  exact#[_,ab hi,p,hq,%[Ue p0|h2.2]]
 .rintro⟨t,ei,p,hq,n⟩
  have m:=ai ei;let#[Z,e1,e2]:=A.e i t ei;let#[ip,p0,_]:=pU A m hq;have up:=N4 A U m hq n;rw[Ue p0] at n;exact#[Z,e1,p,(sj A h p).mpr #[#[t,m,hq],up],by rw[e2,ip,n];rfl]
end
abbrev fm(ts:List Tr):Nat:=(ts.map size).sum
abbrev N5:Nat->List Tr->Prop
 |_,[]=>True
 |n,t::ts=>om n t/\N5 (n+size t) ts
def zu:∀{ts:List Tr}{n i:Nat}{t:Tr},N5 n ts->ts[i]?=ξ t->om (n+fm (ts.take i)) t
 |[],n,i,t,h,e=>by simp at e
 |a::ts,n,0,t,h,e=>by
  have:a=t:=by simpa using e
  subst this;erw[h.1]
 |a::ts,n,i+1,t,h,e=>by
  have:=zu (i:=i) h.2 (~~~e);simpa[fm,Nat.add_assoc] using this
def N6:Aa [] [[]] [0] []:=
 #[rfl,rfl,λi j t t' p h=>by simp at h,λt h=>by simp at h,λt h=>by simp at h,#[0,rfl,λp=>#v[]],λt h=>by simp at h,λi t h=>by simp at h,λt h=>by simp at h]
def Ks(A:Aa ts sg bh en)(s0:0<sg.length)(hp:om sg.length t)(nt:null t=ϑ)(l:ur t bh F Z (B::bt)):Aa (ts++[t]) (sg++nN t) ((B|||F)::bt) (en++[Z]):=by
 have lt:∀t'∈ts,∀p,IN t' p=ζ->p<sg.length:=λt' m p i=>(ag.mp (A.sgn t' m p i)).1
 have ge:∀p,IN t p=ζ->sg.length<=p/\p<sg.length+size t:=λp i=>(gf hp).mp i
 have ll:=gc t;have l1:=l.len;have l2:=A.len;have bs:∀(q C:Nat),0<q->(B::bt)[q]?=ξ C->((B|||F)::bt)[q]?=ξ C:=λq C h e=>by
  cases q with
  |zero=>omega
  |succ q=>erw[e]
 have mem:∀{t'},t'∈ts++[t]->t'∈ts\/t'=t:=λh=>by simpa using h
 have at_:∀{i:Nat}{t'},(ts++[t])[i]?=ξ t'->ts[i]?=ξ t'\/(i=ts.length/\t'=t):=λ{i t'}h=>by
  rw[iF] at h;split at h
  .erw[.inl h]
  .rename_i z
   have il:i=ts.length:=by
    have:=(ag.mp h).1;simp at this;omega
   subst il;simp at h;erw[.inr #[rfl,h.symm]]
 refine#[?_,?_,?_,?_,?_,?_,?_,?_,?_]
 .rw[aq,ll]
  dsimp[aU] at l1 ⊢;omega
 .simp[A.GF]
 .intro i j t1 t2 p e1 e2 i1 i2
  rcases at_ e1 with f1|⟨f1,g1⟩<;>rcases at_ e2 with f2|⟨f2,g2⟩
  .erw[A.dis i j _ _ p f1 f2 i1 i2]
  .have:=lt _ (ai f1) p i1;rw[g2] at i2;have:=ge p i2;omega
  .have:=lt _ (ai f2) p i2;rw[g1] at i1;have:=ge p i1;omega
  .omega
 .intro t' m
  rcases mem m with m|rfl
  .erw[A.pos t' m]
  .exact#[_,s0,hp]
 .intro t' m p i
  rcases mem m with m|rfl
  .rw[ah (lt t' m p i)];erw[A.sgn t' m p i]
  .rw[ay (ge p i).1];erw[qK hp i]
 .let#[B',e,b]:=A.b0
  have:=l.old 0 ∅;rw[e] at this;have eB:B=B':=by simpa using this
  subst eB;refine#[B|||F,rfl,λp=>?_];rw[cQ,bq,b,l.f]
  constructor
  .rintro(⟨t',m,f⟩|f)
   .exact#[t',by simp[m],f]
   .exact#[t,#v[],f]
  .rintro⟨t',m,f⟩
   rcases mem m with m|rfl
   .erw[.inl #[t',m,f]]
   .erw[.inr f]
 .intro t' m q i
  rcases mem m with m|rfl
  .let#[C,e,b]:=A.b t' m q i
   have ql:=lt t' m q i;let#[n,n0,pl]:=A.pos t' m;have q0:=zm pl n0 i;exact#[C,bs q C ∅ ((l.old q ∅).trans e),b]
  .let#[C,e,b]:=l.new q i
   have:=ge q i;exact#[C,bs q C ∅ e,b]
 .intro i t' e
  rcases at_ e with e|⟨rfl,rfl⟩
  .let#[Z',e1,b]:=A.e i t' e
   exact#[Z',%[ah (ag.mp e1).1|e1],b]
  .exact#[Z,by rw[<-A.GF];simp,l.z]
 .intro t' m
  rcases mem m with m|rfl
  .erw[A.nl t' m]
  .erw[nt]
abbrev Wy:Spec:=λus S Q=>∃x v t r,us=[.str x,v]/\x.length<=1000/\vQ x=.ok (t,r)/\∀S',Ext S S'->Q t S'
def Wz(Γ:cv)(h1:Γ "read"=Dk):Keeps Γ pQ 1 Wy:=by
 rintro us S Q ⟨x,v,t,r,rfl,hl,hr,q⟩;unfold pQ;room;rwa[ca h1 #[x,rfl,hl,?_]];rw[hr]
 erw[q]
abbrev WA(ts:List Tr)(xs:List (List Nat)):Prop:=xs.length=ts.length/\∀(i:Nat)t x,ts[i]?=ξ t->xs[i]?=ξ x->x.length<=1000/\∃r,vQ x=.ok (enc t,r)
structure zw(ts:List Tr):Prop where
 len:ts.length<=4
 pl:N5 1 ts
 nl:∀t∈ts,null t=ϑ
 dp:∀t∈ts,bV t<5
 sz:fm ts<=24
def size_take(e:ts[i]?=ξ t):fm (ts.take (i+1))=fm (ts.take i)+size t/\fm (ts.take (i+1))<=fm ts:=by
 have h1:=Kg e;refine#[by rw[h1];simp[fm],?_];have:fm ts=fm (ts.take (i+1))+fm (ts.drop (i+1)):=by
  unfold fm;rw[<-LO,<-aI,Ce]
 omega
abbrev WB:Spec:=λus S Q=>∃n xs ts M,us=[.loc n,aW M]/\S[n]?=ξ (.lst (xs.map .str))/\WA ts xs/\zw ts/\fm ts<=M/\∀P u sg bh en S',Kl S' P (bh.map (·&&&u)) en (λc=>j9 (·.contains c) sg)->Aa ts sg bh en->Ho sg bh en u->sg.length=1+fm ts->Ext S S'->Q (.loc P) S'
def WC(Γ:cv)(h1:Γ "Layout.__init__"=So)(h2:Γ "Layout.lay"=ij (Tu 5))(h3:Γ "tree_of"=Wy)(h4:Γ "Layout.how_many"=Sq)(h5:Γ "Layout.close_rule"=Ss)(h6:Γ "Places.__init__"=Km):Keeps Γ lX 4 WB:=by
 rintro us S Q ⟨n,xs,ts,M,rfl,gn,hR,hT,hM,q⟩;unfold lX;have gL:(S++[SO.ins "Layout" []])[S.length]?=ξ (.ins "Layout" []):=by simp
 have nS:=aS gn;room;rwa[ca h1 #[S.length,rfl,gL,#v[],λS1 e1 la1=>#[rfl,?_]]];have x1:∀n,n<S.length->S1[n]?=S[n]?:=λn hn=>by rw[e1 n hn,ah hn]
 have gn1:S1[n]?=ξ (.lst (xs.map .str)):=%[x1 n nS|gn]
 have xl:xs.length<=4:=%[hR.1|hT.len]
 room;dsimp[T8];rw[gn1,aF]
 have ec:rJ (xs.map U.str) ψ (ξ 6)=xs.map U.str:=by
  unfold rJ;dsimp[jM,eJ,Int.toNat_zero,Nat.zero_min,jC,Cf,ae];rw[uZ (by show xs.length<=6;omega)]
  erw[eI (#v[])]
 rw[ec]
 refine#[#[λi e=>(by cases e),λi e=>(by injection e with e;omega)],?_];have x2:Ext S1 (S1++[SO.lst (xs.map U.str)]):=Ext.app _;have g2:(S1++[SO.lst (xs.map U.str)])[S1.length]?=ξ (.lst (xs.map .str)):=by simp
 have l1:=la1.len;generalize S1.length=m at g2 l1;generalize S1++[SO.lst (xs.map U.str)]=S2 at g2 x2;room;rw[g2,aF]
 refine fj (λi env S3=>∃(sg:List (List Nat))(bh en:List Nat)(x3 x4 x5:Option U),env=[ξ (.loc n),ξ (aW M),ξ (.loc S.length),x3,x4,x5]/\Fr S.length S2 S3/\sf S3 S.length sg bh en/\Aa (ts.take i) sg bh en/\sg.length=1+fm (ts.take i)/\i<=ts.length) (λi env S3 h9=>by let#[_,_,_,_,_,_,_,f,_]:=h9;exact f.get g2 l1) _ ?_ ?_
  #[[[]],[0],[],ψ,ψ,ψ,rfl,.refl,la1.ext x2,N6,rfl,∅]
 .rintro i u env S3 K hu ⟨sg,bh,en,x3,x4,x5,rfl,f3,la3,A,hsg,hi⟩ hK
  dsimp[fF,aB,pB] at hu;let#[x,hx,rfl]:=ak.mp hu;have il:i<ts.length:=by rw[<-hR.1];exact(ag.mp hx).1
  have ht:ts[i]?=ξ ts[i]:=ab il;have hm:ts[i]∈ts:=dJ il;generalize ts[i]=t at ht hm;let#[xle,r,hr]:=hR.2 i t x ht hx;have pt:=zu hT.pl ht;rw[<-hsg] at pt;let#[s1,s2]:=size_take ht;have sz:=hT.sz;have nt:=hT.nl t hm;dsimp[cJ];room;rw[la3.o,b7]
  refine#[#[rfl,rfl],ca h3 #[x,_,enc t,r,rfl,xle,hr,λS4 x4=>?_]];have la4:=la3.ext x4;rwa[ca h2 #[S.length,sg,bh,en,t,_,rfl,#[hT.dp t hm,rfl],la4,pt,A.len,∅,λS5 p F Z bh' f5 pl5 g5 la5 lr=>?_]];rw[nt] at g5;room;rw[Gy g5]
  room;rw[la5.o,b7]
  refine#[#[rfl,rfl],ca h4 #[S.length,_,bh',en,rfl,la5,by rw[aq,gc];omega,?_]];have:¬((M:Int)<(((sg++nN t).length:Nat):Int)-1):=by rw[aq,gc];omega
  room;dsimp[this,decide_false,ax,if_false];room;rw[la5.o,b7]
  have bl:=lr.len;cases bh' with
  |nil=>have:=A.len;simp at bl;omega
  |cons B bt=>
   refine#[#[rfl,rfl],ca h5 #[S.length,_,_,en,p,ϑ,F,Z,B,bt,rfl,la5,rfl,g5,pl5,by rw[A.GF];simp;have:=hT.len;omega,λS6 f6 la6=>?_]];room;have et:=Kg ht;rwa[hK _ _ #[_,_,_,_,_,_,rfl,((f3.trans (Ext.fr x4)).trans f5).trans f6,la6,%[et|Ks A ∅ pt nt lr],by rw[aq,gc,s1];omega,il]]
 .rintro env S3 ⟨sg,bh,en,x3,x4,x5,rfl,f3,la3,A,hsg,hi⟩
  rw[lN,ae,hR.1,cb] at A hsg;have gn3:S3[n]?=ξ (.lst (xs.map .str)):=by
   rw[f3.2 n (by have:=x2.1;have:=aS gn1;omega) (.inl ∅),x2.2 n (aS gn1)];erw[gn1]
  room;rw[lS gn3]
  dsimp[bg,ae];have:¬((6:Int)<(xs.length:Int)):=∅
  refine#[∅,?_];dsimp[this,decide_false,ax,if_false];room;have gP:(S3++[SO.ins "Places" []])[S3.length]?=ξ (.ins "Places" []):=by simp
  have sz:=hT.sz;have sl3:=la3.len;rwa[ca h6 #[S3.length,S.length,sg,bh,en,rfl,gP,#v[],la3.ext (Ext.app _),∅,A.len,by rw[A.GF];have:=hT.len;omega,λu S4 hu e4 pa=>#[rfl,?_]]];let#[_,_,_,oP,_]:=pa.o;rwa[q _ u sg bh en S4 pa A hu hsg #[?_,λn hn=>?_]]
  .have:=aS oP;omega
  .have:=x2.1
   have:=la1.len;rw[e4 n ∅,ah ∅,f3.2 n ∅ (.inl ∅),x2.2 n ∅];erw[x1 n hn]
abbrev er:Tr->Tr
 |.one _ l=>.one 0 l
 |.row a b=>.row (er a) (er b)
 |.or a b=>.or (er a) (er b)
 |.rep m a=>.rep m (er a)
def md:∀t,null (er t)=null t
 |.one _ l=>rfl
 |.row a b=>by dsimp[er,null,md a,md b]
 |.or a b=>by dsimp[er,null,md a,md b]
 |.rep m a=>by cases m<;>dsimp[er,null,md a]
def N7:more m (er a)=(more m a).map er:=by cases m<;>rfl
def yi:∀t c,dF (er t) c=(dF t c).map (dQ er)
 |.one _ l,c=>by dsimp[er,dF];split<;>rfl
 |.row a b,c=>by
  dsimp[er,dF,yi a,yi b,md,aI,bB]
  congr 1
  .congr 1;funext x;simp
  .split<;>rfl
 |.or a b,c=>by dsimp[er,dF,yi a,yi b,aI]
 |.rep m a,c=>by
  dsimp[er,dF,yi a,N7,bB]
  congr 1;funext x;simp
def O7:∀(K:List Tr)c,dR (K.map er) c=(dR K c).map (dQ er)
 |[],c=>rfl
 |t::K,c=>by
  dsimp[aw,dR,yi,O7 K,md,aI,bB]
  congr 1
  .congr 1;funext x;simp
  .split<;>rfl
def EI(m:Mk):oH m≠Gn/\oH m≠zj/\oH m≠O1:=by cases m<;>decide
def Kt(M:List Tr):dv (M.map er)=dv M:=by unfold dv;rw[tO];congr 1;funext t;erw[md t]
def jY{g:bM->Prop}{c:U->bM->(Bool->bM->Prop)->Prop}{e:U->bM->KU->Prop}{Q:List U->bM->Prop}{S:bM}(l vs:List U)(hv:vs.length=l.length)(hl:l.length<1000000)(hg:∀S',Ext S S'->g S')(hc:∀u S' k,k ζ S'->c u S' k)
  (he:∀(i:Nat)u v,l[i]?=ξ u->vs[i]?=ξ v->∀S' k,Ext S S'->(∀S2,Ext S' S2->k v S2)->e u S' k) (q:∀S',Ext S S'->Q vs S'):mN g c e Q l [] S:=by
 rwa[gB l (λi acc S'=>Ext S S'/\acc=vs.take i) (λi acc S' hi h=>#[hg _ h.1,?_]) (λi u acc S' k hu hi hk=>?_) (λacc S' h=>?_) #[.refl,rfl]]
 .rw[h.2,cH];omega
 .let#[x,rfl]:=hi
  have il:i<vs.length:=by rw[hv];exact(ag.mp hu).1
  rwa[hc _ _ _ ?_];rw[if_pos rfl]
  rwa[he i u _ hu (ab il) S' _ x λS2 x2=>hk _ _ #[x.trans x2,?_]]
  rw[jF,ab il];rfl
 .let#[x,rfl]:=h
  rw[<-hv,cb];erw[q S' x]
abbrev spB(f:Tr->Bool)(fR:List Tr->Bool)(d:Nat):Spec:=λus S Q=>∃u,us=[u]/\((∃t,u=enc t/\bV t<d/\∀S',Ext S S'->Q (.bl (f t)) S')\/∃K,u=aag K/\0<d/\(∀t∈K,bV t+1<d)/\K.length<=1000/\∀S',Ext S S'->Q (.bl (fR K)) S')
abbrev Bw:Nat->Spec:=spB null dv
def zx{K:List Tr}{f:Tr->U}{i:Nat}{u v:U}(hu:(K.map enc)[i]?=ξ u)(hv:(K.map f)[i]?=ξ v):∃t,t∈K/\u=enc t/\v=f t:=by
 rw[aB] at hu hv;let#[t,e,rfl]:=ak.mp hu;rw[e] at hv;exact#[t,ai e,rfl,(aK hv).symm]
section
variable{Γ:cv}{N:String}{d:Nat}{f:Tr->Bool}{fR:List Tr->Bool}{S:bM}{Q:KU}{k:U}{K:List Tr}
def EJ(h1:Γ N=spB f fR d)(hK:∀t∈K,bV t<d)(hl:K.length<=1000)(q:∀S',Ext S S'->Q (.bl (K.all f)) S'):
  WE Γ (.blt .all (.cons (.comp ϑ (.call N (.cons @0 .nil)) (.val (.ix @0 ↑1)) (.dk (.lit (.bl ζ))) []) .nil)) [ξ (.tup [k,.tup (K.map enc)])] S Q:=by
 room;dsimp[qe,bg];refine#[#v[],(·),?_];rwa[jY _ (K.map λt=>.bl (f t)) (#v[]) ((·)) (λ_ _=>trivial) (λu S' k h=>h) (λi u v hu hv S' k x hk=>?_) λS' x=>?_]
 .let#[t,m,rfl,rfl]:=zx hu hv
  erw[ca h1 #[_,rfl,.inl #[t,rfl,hK t m,hk]]]
 .exact#[K.map f,#v[],by rw[show(K.map f).all id=K.all f by rw[tO];rfl];erw[q _ (x.trans (Ext.app _))]]
def N8(h1:Γ N=spB f fR d)(hK:∀t∈K,bV t<d)(hl:K.length<=1000)(q:∀S',Ext S S'->Q (.bl (K.any f)) S'):
  WE Γ (.blt .any (.cons (.comp ϑ (.call N (.cons @0 .nil)) (.val (.ix @0 ↑1)) (.dk (.lit (.bl ζ))) []) .nil)) [ξ (.tup [k,.tup (K.map enc)])] S Q:=by
 room;dsimp[qe,bg];refine#[#v[],(·),?_];rwa[jY _ (K.map λt=>.bl (f t)) (#v[]) ((·)) (λ_ _=>trivial) (λu S' k h=>h) (λi u v hu hv S' k x hk=>?_) λS' x=>?_]
 .let#[t,m,rfl,rfl]:=zx hu hv
  erw[ca h1 #[_,rfl,.inl #[t,rfl,hK t m,hk]]]
 .exact#[K.map f,#v[],by rw[show(K.map f).any id=K.any f by rw[BW];rfl];erw[q _ (x.trans (Ext.app _))]]
end
def dp2(h:max (bV a) (bV b)+1<d+1)(m:t∈[a,b]):bV t<d:=by
 rcases aM.mp m with rfl|m
 .omega
 .simp at m;subst m;omega
def rr(h:WE Γ e env S (λv S1=>D.rt v S1)):Rest Γ #v[.ret e] D env S:=h
def WD(Γ:cv)(d:Nat)(h1:Γ "_law_nothing"=Bw d):Keeps Γ jq 0 (Bw (d+1)):=by
 rintro us S Q ⟨u,rfl,h⟩;unfold jq;rcases h with⟨t,rfl,dt,q⟩|⟨K,rfl,-,dK,hl,q⟩
 .cases t with
  |one n l=>erw[uu rfl rfl (q S .refl)]
  |row a b=>exact kB rfl rfl (uu rfl rfl (rr (EJ (K:=[a,b]) h1 (λt m=>dp2 dt m) (#v[]) λS' x=>by have:=q S' x;simpa[null] using this)))
  |or a b=>exact kB rfl rfl (kB rfl rfl (uu rfl rfl (rr (N8 (K:=[a,b]) h1 (λt m=>dp2 dt m) (#v[]) λS' x=>by have:=q S' x;simpa[null] using this))))
  |rep m a=>
   have dt:bV a+1<d+1:=dt;have k1:=EI m;refine kB rfl (beq_eq_false_iff_ne.mpr k1.1) (kB rfl (beq_eq_false_iff_ne.mpr k1.2.1) (kB rfl (beq_eq_false_iff_ne.mpr k1.2.2) ?_));unfold enc;room;dsimp[mC,qe,bg];refine#[#v[],#v[],?_];have e2:∀q:Bool->Prop,qE (.str (oH m)) [.str lz,.str kA] q=q (GB m):=λq=>by
    have:=anyS (a:=oH m) (l:=[lz,kA]) (q:=q);cases m<;>simpa[GB,oH] using this
   rw[e2]
   cases m<;>dsimp[GB,IF,ax,if_false,if_true]
   .erw[q S .refl]
   .exact#[#v[],ca h1 #[_,rfl,.inl #[a,rfl,∅,q]]]
   .erw[q S .refl]
 .erw[kB rfl rfl (uu rfl rfl (rr (EJ h1 (λt m=>by have:=dK t m;omega) hl q)))]
def GH{α:Type}{x:List α}{a:Nat}:rJ x (ξ (a:Nat)) ψ=x.drop a:=by
 unfold rJ;dsimp[eJ,jM,dA,Nat.min_self];by_cases h:a<=x.length
 .rw[Nat.min_eq_left h,eI (#v[])]
 .rw[uZ ∅,Lo,jD ∅];simp
def Ku{α:Type}:∀{l l':List α},l.Nodup->(∀x∈l,x∈l')->l.length<=l'.length
 |[],_,_,_=>by simp
 |a::l,l',nd,h=>by
  let#[s,t,rfl]:=List.append_of_mem (h a (aN ..));rw[dW] at nd;have:=Ku (l':=s++t) nd.2 λx m=>by
   have hx:=h x (av _ m);dsimp[aL,aM] at hx ⊢;rcases hx with z|z|z
   .erw[.inl z]
   .subst z;erw[absurd m nd.1]
   .erw[.inr z]
  dsimp[aq,aU] at this ⊢;omega
abbrev Ab(m:List Nat)(c:Nat):List Nat:=if m.contains c=ζ then [92,c] else [c]
def Dn(m:List Nat)(c:Nat):(Ab m c).length<=2:=by unfold Ab;split<;>simp
abbrev Ug(R:List Nat):List Nat:=Ab MW (R.headD 0)++[45]++Ab MW (R.getLastD 0)
abbrev O8(R:List Nat):List (List Nat):=if (R.map (Ab MW)).flatten.length<=(Ug R).length then R.map (Ab MW) else [Ug R]
abbrev rnS(st:List (List Nat)×List Nat)(c:Nat):List (List Nat)×List Nat:=if i4 (st.2++[c]) SG=ζ then(st.1,st.2++[c]) else(st.1++[st.2],[c])
abbrev Uh(l:List Nat):List (List Nat):=(l.foldl rnS ([],[])).1++[(l.foldl rnS ([],[])).2]
abbrev GI(l:List Nat):List (List Nat):=(Uh l).flatMap O8
abbrev SA:List (List Nat)->List Nat
 |[]=>[]
 |x::r=>if [94].isPrefixOf x=ζ then(if r.isEmpty=ζ then 92::x else r.flatten++x) else(x::r).flatten
abbrev Ui(l:List Nat):List (List Nat):=(if l==[] then [] else [[91]++SA (GI l)++[93]])++if l==SG then [] else [[91,94]++(GI (d9 l)).flatten++[93]]
abbrev aar:List (List Nat)->List Nat
 |[]=>[]
 |t::ts=>ts.foldl (λb x=>if x.length<b.length then x else b) t
abbrev Kv(l:List Nat):List Nat:=if l.length=1 then Ab MO (l.headD 0) else aar (Ui l)
abbrev GJ(l:List Nat):Bool:=decide (l.length<=95)&&((Uh l).all λR=>!(R==[])&&decide (R.length<=95))&&decide ((Uh l).length<=100)&&decide ((GI l).length<=200)&&decide ((GI l).flatten.length<=400) && !(GI l==[])
abbrev SD:Spec:=λus S Q=>∃c m,us=[.str [c],.str m]/\Q (.str (Ab m c)) S
def WG(Γ:cv):Keeps Γ lU 0 SD:=by
 rintro us S Q ⟨c,m,rfl,q⟩;unfold lU;room;unfold Ab at q;by_cases z:m.contains c=ζ
 .rw[if_pos z] at q ⊢
  exact#[#v[],q]
 .rw[if_neg z] at q ⊢
  erw[q]
def v5:∀ts:List (List Nat),lR [] ts=ts.flatten
 |[]=>rfl
 |[x]=>by simp[lR]
 |x::y::r=>by
  rw[lR,v5 (y::r)]
  .simp
  .simp
def zy(ts:List (List Nat)):(ts.map cw).sum+ts.length*([]:List Nat).length=ts.flatten.length:=by rw[List.length_flatten];simp
abbrev WH:Spec:=λus S Q=>∃R,us=[.str R]/\R≠[]/\R.length<=95/\∀n S',Ext S S'->S'[n]?=ξ (.lst ((O8 R).map .str))->Q (.loc n) S'
def Kw(m:List Nat):∀R:List Nat,(R.map (Ab m)).flatten.length<=2*R.length
 |[]=>by simp
 |c::r=>by
  have:=Kw m r;have:=Dn m c;rw[aw,tR,aq,aU];omega
def WJ(Γ:cv)(h1:Γ "sign_text"=SD):Keeps Γ lV 2 WH:=by
 rintro us S Q ⟨R,rfl,ne,hl,q⟩;unfold lV;have f2:=Kw MW R;room;rwa[jY (S:=S) _ ((R.map (Ab MW)).map .str) (#v[]) ((·)) (λ_ _=>trivial) (λu S' k h=>h) (λi u v hu hv S' k x hk=>?_) λS1 x1=>?_]
 .let#[c,e,rfl]:=gg hu
  rw[aB,aB,e] at hv;cases hv;erw[ca h1 #[c,MW,rfl,hk S' .refl]]
 have g2:(S1++[SO.lst ((R.map (Ab MW)).map U.str)])[S1.length]?=ξ (.lst ((R.map (Ab MW)).map U.str)):=by simp
 have x2:Ext S (S1++[SO.lst ((R.map (Ab MW)).map U.str)]):=x1.trans (Ext.app _);generalize S1.length=m at g2;generalize S1++[SO.lst ((R.map (Ab MW)).map U.str)]=S2 at g2 x2;have t1:=Dn MW (R.headD 0);have t2:=Dn MW (R.getLastD 0);have wl:(Ug R).length<=5:=by unfold Ug;rw[aq,aq];dsimp[aU,dY];omega
 have e0:sW R 0=ξ (R.headD 0):=by
  cases R with
  |nil=>erw[absurd rfl ne]
  |cons a r=>erw[mC]
 have el:sW R (-1)=ξ (R.getLastD 0):=by
  have:0<R.length:=Fl.mpr ne;unfold sW IJ;rw[if_neg ∅,if_pos ∅]
  dsimp[Option.bind_some];rw[List.getLastD_eq_getLast?,List.getLast?_eq_getElem?]
  have e:((-1:Int)+(R.length:Int)).toNat=R.length-1:=∅
  rw[e,ab ∅]
  rfl
 room;rw[e0,el]
 dsimp[bg];refine#[∅,ca h1 #[_,MW,rfl,#[by rw[gU];omega,∅,ca h1 #[_,MW,rfl,#[by rw[aq,gU];omega,?_]]]]];have ew:Ab MW (R.headD 0)++[45]++Ab MW (R.getLastD 0)=Ug R:=rfl;rw[ew]
 room;refine#[_,g2,by rw[zy];omega,?_];rw[v5]
 refine#[∅,∅,?_];unfold O8 at q;by_cases z:(R.map (Ab MW)).flatten.length<=(Ug R).length
 .rw[if_pos z] at q
  rw[if_pos (~~~z)]
  erw[q _ _ x2 g2]
 .rw[if_neg z] at q
  rw[if_neg (~~~z)]
  exact#[#v[],q _ _ (x2.trans (Ext.app _)) (#v[])]
abbrev WK:Spec:=λus S Q=>∃l,us=[.str l]/\l.length<=95/\∀n S',Ext S S'->S.length<=n->S'[n]?=ξ (.lst ((Uh l).map .str))->Q (.loc n) S'
def WL(Γ:cv):Keeps Γ yX 3 WK:=by
 rintro us S Q ⟨l,rfl,hl,q⟩;unfold Uh rnS at q;unfold yX;generalize hG:SG=G at q ⊢;room;refine#[#v[],?_];have x0:Ext S (S++[SO.lst []]):=Ext.app _;have g0:(S++[SO.lst []])[S.length]?=ξ (.lst []):=by simp
 room;have keep:∀{S1:bM}{o:SO},Ext S S1->Ext S (S1.set S.length o):=λx=>(x.st ∅)
 rwa[fj (λi env S1=>∃(st:List (List Nat)×List Nat)(x3:Option U),env=[ξ (.str l),ξ (.loc S.length),ξ (.str st.2),x3]/\S1[S.length]?=ξ (.lst (st.1.map .str))/\Ext S S1/\st.1.length<=i/\st.2.length<=i/\i<=l.length/\st=(l.take i).foldl (λst c=>if i4 (st.2++[c]) G=ζ then(st.1,st.2++[c]) else(st.1++[st.2],[c])) ([],[])) (λ_ _ _ _=>trivial) _ ?_ ?_ #[([],[]),ψ,rfl,g0,x0,#v[],#v[],∅,rfl]]
 .rintro i u env S1 K hu ⟨st,x3,rfl,g1,x1,l1,l2,hi,e⟩ hK
  let#[c,hc,rfl]:=gg hu;have il:=(ag.mp hc).1;have et:=Kg hc;room;refine#[(·),?_];show(if (!i4 (st.2++[c]) G)=ζ then _ else _)
  by_cases z:i4 (st.2++[c]) G=ζ
  .rw[z]
   dsimp[bX,ax,if_false];room;refine#[(·),?_];room;rwa[hK _ _ #[(st.1,st.2++[c]),_,rfl,g1,x1,(·),(·),il,?_]];rw[et,fG,<-e]
   dsimp[cR,iG,if_pos z]
  .rw[fS _ |>.mp z]
   dsimp[cz,if_true];room;rw[g1,aF]
   refine#[trivial,(·),?_];room;refine#[#v[],?_];room;rwa[hK _ _ #[(st.1++[st.2],[c]),_,rfl,by rw[gs g1];simp,keep x1,(·),#v[],il,?_]];rw[et,fG,<-e]
   dsimp[cR,iG,if_neg z]
 .rintro env S1 ⟨st,x3,rfl,g1,x1,l1,l2,hi,e⟩
  room;rw[g1,aF]
  rw[ae] at l1 e;rw[cb] at e;refine#[trivial,(·),?_];room;erw[q _ _ (keep x1) (ar _) (by rw[gs g1,<-e];simp)]
abbrev WM:Spec:=λus S Q=>∃l,us=[.str l]/\GJ l=ζ/\∀n S',Ext S S'->S'[n]?=ξ (.lst ((GI l).map .str))->Q (.loc n) S'
def EK{α β:Type}(f:α->List β):∀(l:List α)(i:Nat),((l.take i).flatMap f).length<=(l.flatMap f).length
 |[],i=>by simp
 |a::l,0=>by simp
 |a::l,i+1=>by
  have:=EK f l i;rw[Fg,HG,HG,aq,aq];omega
def WN(Γ:cv)(h1:Γ "runs"=WK)(h2:Γ "run_items"=WH):Keeps Γ jT 2 WM:=by
 rintro us S Q ⟨l,rfl,ok,q⟩;unfold GJ at ok;dsimp[aj,decide_eq_true_eq] at ok;let#[#[#[#[#[o1,o2],o3],o4],o5],o6]:=ok;rw[bS] at o2;unfold GI at q o4;unfold jT;room;refine#[#v[],?_];have x0:Ext S (S++[SO.lst []]):=Ext.app _;have g0:(S++[SO.lst []])[S.length]?=ξ (.lst []):=by simp
 have l0:(S++[SO.lst []]).length=S.length+1:=by simp
 generalize S++[SO.lst []]=S1 at x0 g0 l0;room;rwa[ca h1 #[l,rfl,o1,λn S2 x2 nl g2=>?_]];generalize Uh l=Rs at o2 o3 o4 q g2;room;rw[g2,aF]
 refine fj (λi env S3=>∃x,env=[ξ (.str l),ξ (.loc S.length),x]/\S3[S.length]?=ξ (.lst (((Rs.take i).flatMap O8).map .str))/\S3[n]?=ξ (.lst (Rs.map .str))/\Ext S S3) (λi env S3 h9=>by let#[_,_,_,h,_]:=h9;erw[h]) _ ?_ ?_ #[ψ,rfl,~~~(x2.get g0),g2,x0.trans x2]
 .rintro i u env S3 K hu ⟨x,rfl,g3,g4,x3⟩ hK
  let#[R,hc,rfl]:=gg hu;have hR:=o2 R (ai hc);dsimp[aj,decide_eq_true_eq,gZ,beq_eq_false_iff_ne] at hR;have tk:(Rs.take (i+1)).flatMap O8=(Rs.take i).flatMap O8++O8 R:=by rw[jF,hc];simp
  have tl:=EK O8 Rs (i+1);rw[tk,aq] at tl;room;rw[g3,aF]
  refine#[trivial,ca h2 #[R,rfl,hR.1,hR.2,λm S4 x4 g5=>?_]];room;rw[x4.get g3,g5,aF,aF]
  refine#[by rw[ae,ae];omega,?_];room;rwa[hK _ _ #[_,rfl,by rw[gs (x4.get g3),tk];simp,?_,?_]]
  .rw[ao ∅];erw[x4.get g4]
  .have:=x3.trans x4
   exact(this.st ∅)
 .rintro env S3 ⟨x,rfl,g3,g4,x3⟩
  rw[ae,cb] at g3;room;erw[q _ _ x3 g3]
def O9(x:List Nat)(r:List (List Nat)):SA (x::r)=if [94].isPrefixOf x=ζ then(if r.isEmpty=ζ then 92::x else r.flatten++x) else(x::r).flatten:=rfl
abbrev WQ:Spec:=λus S Q=>∃n its,us=[.loc n]/\S[n]?=ξ (.lst (its.map .str))/\its≠[]/\its.length<=200/\its.flatten.length<=400/\∀S',Ext S S'->Q (.str (SA its)) S'
def WR(Γ:cv):Keeps Γ pP 0 WQ:=by
 rintro us S Q ⟨n,its,rfl,g,ne,hl,hf,q⟩;unfold pP;cases its with
 |nil=>erw[absurd rfl ne]
 |cons x r=>
  rw[tR,aq] at hf;dsimp[aU] at hl;have a0:∀{R:U->Prop},opt (sW ((x::r).map U.str) 0) R=R (.str x):=by intro R;rw[aw,mC];rfl
  room;rw[g,aF]
  rw[a0]
  room;rw[O9] at q;by_cases z:[94].isPrefixOf x=ζ
  .rw[if_pos z] at q
   rw[z]
   dsimp[bX,ax,if_false];room;rw[lS g]
   dsimp[bg,ae,aU];refine#[∅,?_];cases r with
   |nil=>
    have q:∀S',Ext S S'->Q (.str (92::x)) S':=q;rw[if_pos (#v[])]
    room;rw[g,aF]
    rw[a0]
    room;exact#[by simp at hf ⊢;omega,q S .refl]
   |cons y r=>
    rw[if_neg (#v[])] at q;rw[if_neg ((·))]
    room;dsimp[T8];rw[g,aF]
    have ec:rJ ((x::y::r).map U.str) (ξ 1) ψ=(y::r).map U.str:=GH (a:=1);rw[ec]
    refine#[#[λi e=>(by injection e with e;omega),λi e=>(by cases e)],y::r,#v[],by rw[zy];omega,?_];rw[v5]
    show getL (S++_)[n]? _
    rw[(Ext.app _:Ext S _).get g,aF,a0]
    room;exact#[∅,q _ (Ext.app _)]
  .rw[if_neg z] at q
   rw[fS _ |>.mp z]
   dsimp[cz,if_true];room;refine#[x::r,g,by rw[zy,tR,aq];omega,?_];rw[v5]
   erw[q S .refl]
def SE(its:List (List Nat)):(SA its).length<=its.flatten.length+1:=by
 cases its with
 |nil=>simp[SA]
 |cons x r=>
  rw[O9]
  split
  .split
   .rename_i z;have:r=[]:=by simpa using z
    subst this;simp
   .simp;omega
  .simp
abbrev SF(l:List Nat):Bool:=(l==[]||GJ l)&&(l==SG||GJ (d9 l))
abbrev WU:Spec:=λus S Q=>∃l,us=[.str l]/\SF l=ζ/\∀n S',Ext S S'->S'[n]?=ξ (.lst ((Ui l).map .str))->Q (.loc n) S'
def Bx(h:GJ l=ζ):(GI l).length<=200/\(GI l).flatten.length<=400/\GI l≠[]:=by
 unfold GJ at h;dsimp[aj,decide_eq_true_eq,gZ,beq_eq_false_iff_ne] at h;exact#[h.1.1.2,h.1.2,h.2]
abbrev pCt:dG:=#v[.ifs (.dk (.cmp .ne @0 (.lit (.str SG)))) #v[.ex (.j6 .append @1 #v[.bin .add (.bin .add ↑[91,94] (.j6 .join (.lit (.str [])) #v[.call "class_items" #v[.call "all_but" #v[@0]]])) ↑[93]])] .nil,.ret @1]
def WV(Γ:cv)(h1:Γ "class_items"=WM)(h2:Γ "guarded"=WQ)(h3:Γ "all_but"=spT d9):Keeps Γ jS 1 WU:=by
 rintro us S Q ⟨l,rfl,ok,q⟩;unfold SF at ok;rw[aj,bq,bq] at ok;have keep:∀{S1:bM}{o:SO},Ext S S1->Ext S (S1.set S.length o):=λx=>(x.st ∅)
 have fin:∀S1 acc,Ext S S1->S1[S.length]?=ξ (.lst (acc.map .str))->acc.length<=10->acc=(if l==[] then [] else [[91]++SA (GI l)++[93]])->Rest Γ pCt #[λ_ S1=>Q .cf S1,Q] [ξ (.str l),ξ (.loc S.length)] S1:=by
  intro S1 acc x1 g1 al ea;unfold Ui at q;rw[<-ea] at q;unfold pCt;have ok2:=ok.2;generalize SG=G at q ok2;room;by_cases z:(l==G)=ζ
  .rw[z]
   rw[if_pos z,bT] at q;dsimp[bX,ax,if_false];room;erw[q _ _ x1 g1]
  .rw[fS _ |>.mp z]
   rw[if_neg z] at q;dsimp[cz,if_true];have ck:=ok2.resolve_left z;let#[f1,f2,f3]:=Bx ck;room;rw[g1,aF]
   refine#[trivial,ca h3 #[l,rfl,λS2 x2=>ca h1 #[_,rfl,ck,λn S3 x3 g3=>#[_,g3,by rw[zy];omega,?_]]]];rw[v5]
   refine#[by dsimp[aU,dY];omega,by rw[aq];dsimp[aU,dY];omega,?_];show getL S3[S.length]? _;rw[(x2.trans x3).get g1,aF]
   refine#[by rw[ae];omega,?_];room;erw[q _ _ (keep (x1.trans (x2.trans x3))) (by rw[gs ((x2.trans x3).get g1)];simp)]
 unfold jS;room;refine#[#v[],?_];have x0:Ext S (S++[SO.lst []]):=Ext.app _;have g0:(S++[SO.lst []])[S.length]?=ξ (.lst []):=by simp
 generalize S++[SO.lst []]=S0 at x0 g0;room;by_cases z:(l==[])=ζ
 .rw[z]
  dsimp[bX,ax,if_false];erw[Rest.go (fin S0 [] x0 g0 (#v[]) (by rw[if_pos z]))]
 .rw[fS _ |>.mp z]
  dsimp[cz,if_true];have ck:=ok.1.resolve_left z;let#[f1,f2,f3]:=Bx ck;have gl:=SE (GI l);room;rw[g0,aF]
  refine#[trivial,ca h1 #[l,rfl,ck,λn S2 x2 g2=>ca h2 #[n,_,rfl,g2,f3,f1,f2,λS3 x3=>?_]]];room;refine#[by dsimp[aU,dY];omega,by dsimp[aU,dY];omega,?_];rw[(x2.trans x3).get g0,aF]
  refine#[#v[],?_];erw[Rest.go (fin _ [[91]++SA (GI l)++[93]] (keep (x0.trans (x2.trans x3))) (by rw[gs ((x2.trans x3).get g0)];simp) (#v[]) (by rw[if_neg z]))]
@[reducible]def CL:List (List Nat):=[[97],[98],[99],[97,98],[98,99],SG,[48],[],[48,97,98,99]]
def Kx:∀l∈CL,l.length=1\/(SF l=ζ/\(l==d9 [10])=ϑ/\Ui l≠[]/\(Ui l).all (λx=>decide (x.length<=1000))=ζ):=by
 decide +kernel
abbrev N9:Spec:=λus S Q=>∃l,us=[.str l]/\l∈CL/\∀S',Ext S S'->Q (.str (Kv l)) S'
def WW(Γ:cv)(h1:Γ "sign_text"=SD)(h2:Γ "all_but"=spT d9)(h3:Γ "class_texts"=WU):Keeps Γ kK 0 N9:=by
 rintro us S Q ⟨l,rfl,hl,q⟩;have fa:=Kx l hl;have ll:l.length<=95:=by
  have:∀l∈CL,l.length<=95:=⋯
  erw[this l hl]
 unfold kK;unfold Kv at q;room;refine#[∅,?_];by_cases z:l.length=1
 .rw[if_pos z] at q
  rw[if_pos (by rw[z];rfl)]
  obtain⟨c,rfl⟩:∃c,l=[c]:=jB.mp z;room;erw[ca h1 #[c,MO,rfl,q S .refl]]
 .rw[if_neg z] at q
  rw[if_neg ((·))]
  let#[f1,f2,f3,f4]:=fa.resolve_left z;room;rwa[ca h2 #[_,rfl,λS1 x1=>?_]];room;rw[f2]
  dsimp[ax,if_false];room;rwa[ca h3 #[l,rfl,f1,λn S2 x2 g2=>?_]];cases e:Ui l with
  |nil=>erw[absurd e f3]
  |cons t ts=>
   rw[e] at g2 q f4;refine#[t,ts,g2,λu hu=>?_,q S2 (x1.trans x2)];have:=bS.mp f4 u hu;simp at this;omega
def SH:∀l∈CL,(Kv l).length<=10:=by decide +kernel
def sk:Kv [97,98]=[91,97,98,93]/\Kv [98,99]=[91,98,99,93]/\Kv SG=[91,10,45,126,93]/\Kv []=[91,94,10,45,126,93]/\Kv [48,97,98,99]=[91,48,97,98,99,93]:=by decide +kernel
set_option maxRecDepth 100000 in
def Oa(h:l∈CL)(br:Option (List Nat->PR U)):vU br (Kv l) (NV l):=by
 intro rest;dsimp[aM,cA,or_false] at h;rcases h with rfl|rfl|rfl|rfl|rfl|rfl|rfl|rfl|rfl
 .rfl
 .rfl
 .rfl
 .rw[sk.1];rfl
 .rw[sk.2.1];rfl
 .rw[sk.2.2.1];rfl
 .rfl
 .rw[sk.2.2.2.1];rfl
 .rw[sk.2.2.2.2];rfl
abbrev num:Nat->Tr->Tr
 |n,.one _ l=>.one n l
 |n,.row a b=>.row (num n a) (num (n+size a) b)
 |n,.or a b=>.or (num n a) (num (n+size a) b)
 |n,.rep m a=>.rep m (num n a)
def tG:∀t n,enc (num n t)=enc t/\size (num n t)=size t/\bV (num n t)=bV t/\null (num n t)=null t/\nN (num n t)=nN t/\om n (num n t)
 |.one _ l,n=>#[rfl,rfl,rfl,rfl,rfl,rfl]
 |.row a b,n=>by
  let#[a1,a2,a3,a4,a5,a6]:=tG a n;let#[b1,b2,b3,b4,b5,b6]:=tG b (n+size a);dsimp[num,enc,size,bV,null,nN,om,a1,a2,a3,a4,a5,b1,b2,b3,b4,b5];exact#[trivial,trivial,trivial,trivial,trivial,a6,b6]
 |.or a b,n=>by
  let#[a1,a2,a3,a4,a5,a6]:=tG a n;let#[b1,b2,b3,b4,b5,b6]:=tG b (n+size a);dsimp[num,enc,size,bV,null,nN,om,a1,a2,a3,a4,a5,b1,b2,b3,b4,b5];exact#[trivial,trivial,trivial,trivial,trivial,a6,b6]
 |.rep m a,n=>by
  let#[a1,a2,a3,a4,a5,a6]:=tG a n;cases m<;>dsimp[num,enc,size,bV,null,nN,om,a1,a2,a3,a4,a5]<;>exact#[trivial,trivial,trivial,trivial,trivial,a6]
abbrev oq:Nat->List Tr->List Tr
 |_,[]=>[]
 |n,t::ts=>num n t::oq (n+size t) ts
def pV:∀ts n,(oq n ts).map enc=ts.map enc/\N5 n (oq n ts)/\fm (oq n ts)=fm ts/\∀t∈oq n ts,∃t'∈ts,bV t=bV t'/\null t=null t'/\nN t=nN t'
 |[],n=>#[rfl,trivial,rfl,by simp[oq]]
 |t::ts,n=>by
  let#[a1,a2,a3,a4,a5,a6]:=tG t n;let#[b1,b2,b3,b4]:=pV ts (n+size t);refine#[by dsimp[oq,aw,a1,b1],#[a6,%[a2|b2]],by dsimp[fm] at b3 ⊢;dsimp[oq,aw,zZ,a2,b3],λt' m=>?_];rcases aM.mp m with rfl|m
  .exact#[t,aN ..,a3,a4,a5]
  .let#[t2,m2,h]:=b4 t' m
   exact#[t2,av _ m2,h]
abbrev kc(t:Tr):Prop:=∀l∈nN t,l∈CL
abbrev od:Tr->Nat
 |.one _ _=>1
 |.row a b=>max (od a) (od b)+1
 |.or a b=>max (od a) (od b)+1
 |.rep _ a=>od a+2
abbrev oz:Tr->Nat
 |.one _ l=>if l.length=2 then 2 else 1
 |.row a b=>oz a+oz b
 |.or a b=>oz a+oz b
 |.rep _ a=>2*oz a
def yj:∀t n,od (num n t)=od t/\oz (num n t)=oz t
 |.one _ _,_=>#[rfl,rfl]
 |.row a b,n=>by dsimp[num,od,oz,yj a n,yj b (n+size a)];exact#[trivial,trivial]
 |.or a b,n=>by dsimp[num,od,oz,yj a n,yj b (n+size a)];exact#[trivial,trivial]
 |.rep m a,n=>by dsimp[num,od,oz,yj a n];exact#[trivial,trivial]
def Ky:∀ts n,∀t∈oq n ts,∃t'∈ts,od t=od t'/\oz t=oz t'
 |[],_,_,m=>nomatch m
 |x::ts,n,t,m=>by
  rcases aM.mp m with rfl|m
  .exact#[x,aN ..,yj x n]
  .let#[t',m',h]:=Ky ts _ t m
   exact#[t',av _ m',h]
def WX:∀{t:Tr},bV t=0->od t=1/\oz t<=2
 |.one _ l,_=>#[rfl,by show(if l.length=2 then 2 else 1)<=2;split<;>omega]
 |.row _ _,h=>nomatch h
 |.or _ _,h=>nomatch h
 |.rep _ _,h=>nomatch h
def Yl:∀{t:Tr},bV t<=1->od t<=3/\oz t<=4
 |.one _ l,_=>#[(by decide:1<=3),by show(if l.length=2 then 2 else 1)<=4;split<;>omega]
 |.row a b,h=>by
  dsimp[bV] at h;have h1:=WX (t:=a) ∅;have h2:=WX (t:=b) ∅;dsimp[od,oz];omega
 |.or a b,h=>by
  dsimp[bV] at h;have h1:=WX (t:=a) ∅;have h2:=WX (t:=b) ∅;dsimp[od,oz];omega
 |.rep m a,h=>by
  dsimp[bV] at h;have h1:=WX (t:=a) ∅;dsimp[od,oz];omega
def lB:∀t,size t<=2^bV t
 |.one _ _=>by simp[size,bV]
 |.row a b=>by
  have h1:=lB a;have h2:=lB b;have p1:2^bV a<=2^max (bV a) (bV b):=bx ∅ ∅;have p2:2^bV b<=2^max (bV a) (bV b):=bx ∅ ∅;dsimp[size,bV,gE];omega
 |.or a b=>by
  have h1:=lB a;have h2:=lB b;have p1:2^bV a<=2^max (bV a) (bV b):=bx ∅ ∅;have p2:2^bV b<=2^max (bV a) (bV b):=bx ∅ ∅;dsimp[size,bV,gE];omega
 |.rep m a=>by
  have h1:=lB a;dsimp[size,bV,gE];omega
abbrev Ob(D:Nat):Spec:=λus S Q=>∃(ns:List Int)(b:Int)(d:Nat),us=[.sV ns,.int b,aW d]/\ns.length<=1000/\d<D/\∀t S',bV t<=d->kc t->Ext S S'->Q (enc t) S'
def Kz(Γ:cv)(D:Nat)(h1:Γ "_law_mix"=uF.yb)(h2:Γ "_law_all"=uF.Ka)(h3:Γ "_law_small"=Ob D):Keeps Γ kM 3 (Ob (D+1)):=by
 rintro us S Q ⟨ns,b,d,rfl,hl,hd,q⟩;unfold kM;room;refine ca h1 #[ns,b,rfl,hl,λm m0 m1=>?_];room;refine#[∅,?_];room;have leaf:Rest Γ (.cons (.ret (.tup (.cons ↑[111,110,101] (.cons (.ix (.lst (.cons ↑[97] (.cons ↑[98] (.cons ↑[99] (.cons ↑[97,98] (.cons ↑[98,99] (.cons (.call "_law_all" .nil) (.cons ↑[97] (.cons ↑[98] (.cons ↑[48] (.cons (.lit (.str [])) .nil))))))))))) (.bin .mod (.bin .fdiv @3 ↑9) ↑10)) .nil)))) .nil) #[λ_ S1=>Q .cf S1,Q] [ξ (.sV ns),ξ (.int b),ξ (aW d),ξ (.int m),ξ (.int (m%9)),ψ] S:=by
  room;rwa[ca h2 #[rfl,λG hG=>?_]];refine#[#v[],∅,∅,?_];have gl:(S++[SO.lst [U.str [97],U.str [98],U.str [99],U.str [97,98],U.str [98,99],U.str G,U.str [97],U.str [98],U.str [48],U.str []]])[S.length]?=ξ (.lst ([[97],[98],[99],[97,98],[98,99],G,[97],[98],[48],[]].map U.str)):=by simp
  rw[gl,aF]
  rwa[vT (pA _ ∅) (by simp;erw[mm _ ∅]) λu hu=>?_]
  let#[l,ml,rfl]:=bO.mp hu;refine#[#v[],q (.one 0 l) _ (bJ _) (λl' m'=>?_) (Ext.app _)];have:l'=l:=by simpa[nN] using m'
  subst this;rw[hG] at ml
  revert ml
  dsimp[aM];rintro(h|h|h|h|h|h|h|h|h|h|h)<;>simp_all
 by_cases z:d=0\/m%9<4
 .have z1:((d:Int)== 0)=ζ\/(((d:Int)== 0)=ϑ/\decide (m%9<4)=ζ):=by
   by_cases y:d=0
   .subst y;erw[.inl rfl]
   .rwa[.inr #[by rw[beq_eq_false_iff_ne];omega,decide_eq_true ∅]]
  rcases z1 with z1|⟨z1,z2⟩
  .dsimp[z1,if_true];erw[leaf]
  .dsimp[z1,z2,ax,if_false,if_true];erw[leaf]
 .have z1:((d:Int)== 0)=ϑ:=by rw[beq_eq_false_iff_ne];omega
  have z2:decide (m%9<4)=ϑ:=decide_eq_false ∅;obtain⟨d,rfl⟩:∃d',d=d'+1:=#[d-1,∅]
  have ed:(((d+1:Nat):Int)-1)=(d:Int):=∅
  dsimp[z1,z2,ax,if_false];room;by_cases y:m%9<7
  .dsimp[y,decide_true,if_true]
   room;refine#[∅,∅,?_];refine gB _ (λi acc S1=>Ext S S1/\∃l:List Tr,acc=l.map enc/\l.length=i/\∀t∈l,bV t<=d/\kc t) (λi acc S1 hi h9=>by let#[x,l,e1,e2,_]:=h9;exact#[trivial,by rw[e1,ae];simp at hi;omega]) (λi u acc S1 k hu hi hk=>?_) (λacc S1 h=>?_) #[.refl,[],rfl,rfl,#v[]]
   .let#[x1,l,rfl,e2,inv]:=hi
    let#[rfl,_]:=Bq (n:=2) hu;room;rw[ed]
    refine#[.inl ∅,ca h3 #[ns,_,d,rfl,hl,∅,λt S2 dt lt x2=>hk _ _ #[x1.trans x2,l++[t],#v[],by simp[e2],λt' m'=>?_]]];rcases aL.mp m' with m'|m'
    .erw[inv t' m']
    .simp at m';subst m';exact#[dt,lt]
   .let#[x1,l,rfl,e2,inv]:=h
    have e2:l.length=2:=e2;obtain⟨a,b,rfl⟩:∃a b,l=[a,b]:=by
     match l,e2 with
     |[a,b],_=>exact#[a,b,rfl]
    have ia:=inv a (#v[]);have ib:=inv b (#v[]);have g2:(S1++[SO.lst ([a,b].map enc)])[S1.length]?=ξ (.lst [enc a,enc b]):=by simp
    have x2:Ext S (S1++[SO.lst ([a,b].map enc)]):=x1.trans (Ext.app _);generalize S1.length=m2 at g2;generalize S1++[SO.lst ([a,b].map enc)]=S2 at g2 x2;room;refine#[#v[],?_];have gl:(S2++[SO.lst [U.str [114,111,119],U.str [111,114],U.str [114,111,119]]])[S2.length]?=ξ (.lst [U.str [114,111,119],U.str [111,114],U.str [114,111,119]]):=by simp
    rw[gl,aF,(Ext.app _:Ext S2 _).get g2]
    rwa[vT ∅ ((·)) λu hu=>#[#v[],?_]]
    have lv:∀l∈nN a++nN b,l∈CL:=λl hl=>(aL.mp hl).elim (ia.2 l) (ib.2 l)
    dsimp[aM,cA,or_false] at hu;have dd:max (bV a) (bV b)+1<=d+1:=∅
    rcases hu with rfl|rfl|rfl
    .erw[q (.row a b) _ dd lv (x2.trans (Ext.app _))]
    .erw[q (.or a b) _ dd lv (x2.trans (Ext.app _))]
    .erw[q (.row a b) _ dd lv (x2.trans (Ext.app _))]
  .dsimp[y,decide_false,ax,if_false]
   room;refine#[#v[],∅,∅,?_];have gl:(S++[SO.lst [U.str [115,116,97,114],U.str [112,108,117,115],U.str [109,97,121,98,101]]])[S.length]?=ξ (.lst [U.str [115,116,97,114],U.str [112,108,117,115],U.str [109,97,121,98,101]]):=by simp
   rw[gl,aF]
   rwa[vT (pA _ ∅) (by simp;erw[mm _ ∅]) λu hu=>?_]
   rw[ed]
   refine#[.inl ∅,ca h3 #[ns,_,d,rfl,hl,∅,λt S2 dt lt x2=>#[#v[],?_]]];have xx:Ext S S2:=(Ext.app _).trans x2;have dd:bV t+1<=d+1:=∅
   dsimp[aM,cA,or_false] at hu;rcases hu with rfl|rfl|rfl
   .erw[q (.rep .star t) _ dd lt xx]
   .erw[q (.rep .plus t) _ dd lt xx]
   .erw[q (.rep .may t) _ dd lt xx]
abbrev SI:Spec:=λus S Q=>∃(ns:List Int)(bs k:Int)(dp:Nat),us=[.sV ns,.int bs,.int k,.int dp]/\dp<=2/\ns.length<=1000/\0<=k/\k<=4/\∀ts n S',zw ts->(∀t∈ts,kc t)->(fm ts:Int)<=5*k->(ts.length:Int)=k/\((∀t∈ts,bV t<4)/\(dp<=1->∀t∈ts,size t<=2/\bV t<=2/\od t<=4/\oz t<=5))->Ext S S'->S'[n]?=ξ (.lst (ts.map enc))->Q (.loc n) S'
def SJ:∀{t:Tr},bV t<=1->null t=ζ->size t=1
 |.one _ _,_,h=>by cases h
 |.row a b,d,h=>by
  have:bV a=0:=by dsimp[bV] at d;omega
  cases a<;>first| (simp[null] at h;done)| (simp[bV] at this;done)
 |.or a b,d,h=>by
  have h1:bV a=0:=by dsimp[bV] at d;omega
  have h2:bV b=0:=by dsimp[bV] at d;omega
  cases a<;>first| (simp[bV] at h1;done)| (cases b<;>first| (simp[bV] at h2;done)| (simp[null] at h;done))
 |.rep m a,d,h=>by
  have h1:bV a=0:=by dsimp[bV] at d;omega
  cases a<;>first|rfl| (simp[bV] at h1;done)
def WY(Γ:cv)(h1:Γ "_law_small"=Ob 3)(h2:Γ "_law_nothing"=Bw 6):Keeps Γ kN 3 SI:=by
 rintro us S Q ⟨ns,bs,k,dp,rfl,hdp,hl,k0,k4,q⟩;unfold kN;room;refine#[#v[],?_];have x0:Ext S (S++[SO.lst []]):=Ext.app _;have g0:(S++[SO.lst []])[S.length]?=ξ (.lst []):=by simp
 room;refine#[∅,∅,?_];rwa[fj (λi env S1=>∃(l:List Tr)(x5 x6:Option U),env=[ξ (.sV ns),ξ (.int bs),ξ (.int k),ξ (.int dp),ξ (.loc S.length),x5,x6]/\Ext S S1/\S1[S.length]?=ξ (.lst (l.map enc))/\l.length=i/\fm l<=5*i/\∀t∈l,bV t<4/\null t=ϑ/\kc t/\(dp<=1->size t<=2/\bV t<=2/\od t<=4/\oz t<=5)) (λ_ _ _ _=>trivial) _ ?_ ?_ #[[],ψ,ψ,rfl,x0,g0,rfl,by simp[fm],#v[]]]
 .rintro i u env S1 K hu ⟨l,x5,x6,rfl,x1,g1,ll,sl,inv⟩ hK
  let#[rfl,hi]:=Bq hu;room;refine#[.inl ∅,ca h1 #[ns,_,dp,rfl,hl,∅,λt S2 dt lt x2=>?_]];have st:size t<=4:=aH (lB t) (bx (n:=2) (j:=2) ∅ (aH dt hdp));have g2:=x2.get g1;room;refine ca h2 #[_,rfl,.inl #[t,rfl,∅,λS3 x3=>?_]];have g3:=x3.get g2;have fin:∀(t':Tr)(x5 x6:Option U),bV t'<4->null t'=ϑ->kc t'->size t'<=5->(dp<=1->size t'<=2/\bV t'<=2/\od t'<=4/\oz t'<=5)->x6=ξ (enc t')->Rest Γ (.cons (.ex (.j6 .append @4 (.cons @6 .nil))) .nil) #[K,Q] [ξ (.sV ns),ξ (.int bs),ξ (.int k),ξ (.int dp),ξ (.loc S.length),x5,x6] S3:=by
   rintro t' x5 x6 d1 d2 d3 d4 d5 rfl;room;rw[g3,aF]
   refine#[trivial,(·),?_];room;have x13:=(x1.trans x2).trans x3;refine hK _ _ #[l++[t'],_,_,rfl,(x13.st ∅),by rw[gs g3];simp,by simp[ll],by simp[fm] at sl ⊢;omega,λt2 m2=>?_];rcases aL.mp m2 with m2|m2
   .erw[inv t2 m2]
   .simp at m2;subst m2;exact#[d1,d2,d3,d5]
  room;cases nt:null t with
  |false=>
   dsimp[ax,if_false];erw[fin t _ _ ∅ nt lt ∅ (λh=>#[aH (lB t) (bx (n:=2) (j:=1) ∅ (aH dt h)),∅,by have:=Yl (aH dt h);omega,by have:=Yl (aH dt h);omega]) rfl]
  |true=>
   dsimp[if_true];room;refine#[∅,#v[],?_];rwa[vT (pA _ ∅) (by simp;erw[mm _ ∅]) λc hc=>#[#v[],#v[],#v[],?_]]
   rwa[fin (.row (.one 0 [c]) t) _ _ ?_ (by simp[null]) (λl hl=>?_) (by dsimp[size];omega) (λh=>#[by dsimp[size];rw[SJ (aH dt h) nt];decide,by show max 0 (bV t)+1<=2;omega,by have:=Yl (aH dt h);show max 1 (od t)+1<=4;omega,by have:=Yl (aH dt h);show 1+oz t<=5;omega]) rfl]
   .show max 0 (bV t)+1<4;omega
   .rcases aL.mp hl with h|h
    .have:l=[c]:=by simpa[nN] using h
     subst this;dsimp[aM,cA,or_false] at hc;rcases hc with rfl|rfl|rfl<;>simp
    .erw[lt l h]
 .rintro env S1 ⟨l,x5,x6,rfl,x1,g1,ll,sl,inv⟩
  room;have ll2:=ll;have ll:l.length<=4:=by rw[ll];simp;omega
  let#[e1,e2,e3,e4]:=pV l 1;have el:(oq 1 l).length=l.length:=by have:=congrArg cw e1;simpa using this
  have ll':(l.length:Int)=k:=by rw[ll2];dsimp[ae,dU];omega
  refine q (oq 1 l) _ S1 #[∅,e2,λt m=>?_,λt m=>?_,by rw[e3];dsimp[ae,dU] at sl;omega] (λt m=>?_) (by rw[e3];dsimp[ae,dU] at sl;omega) #[%[el|ll'],λt m=>?_,λh t m=>?_] x1 (%[e1|g1])
  .let#[t',m',h]:=e4 t m;rw[h.2.1];exact(inv t' m').2.1
  .let#[t',m',h]:=e4 t m;rw[h.1];erw[bc (inv t' m').1]
  .let#[t',m',h]:=e4 t m
   intro l hl;rw[h.2.2] at hl;exact(inv t' m').2.2.1 l hl
  .let#[t',m',h]:=e4 t m;rw[h.1];exact(inv t' m').1
  .let#[t',m',z]:=e4 t m
   have:=(inv t' m').2.2.2 h;let#[t2,m2,z2]:=Ky l 1 t m;have a2:=(inv t2 m2).2.2.2 h;rw[<-gc,z.2.2,gc,z.1,z2.1,z2.2];exact#[this.1,this.2.1,a2.2.2]
abbrev SK:Mk->Nat
 |.star=>42
 |.plus=>43
 |.may=>63
abbrev tx:Tr->List Nat×List Nat
 |.one _ l=>(Kv l,Kv l)
 |.rep m a=>((tx a).1++[SK m],(tx a).1++[SK m])
 |.row a b=>(40::((tx a).1++(tx b).1++[41]),(tx a).1++(tx b).1)
 |.or a b=>(40::((tx a).2++124::(tx b).2++[41]),40::((tx a).2++124::(tx b).2++[41]))
abbrev wr:Tr->List Nat
 |.or a b=>(tx a).2++124::(tx b).2
 |t=>(tx t).2
def dN:∀t,kc t->(tx t).1.length+3<=13*2^bV t/\(tx t).2.length<=(tx t).1.length/\(wr t).length<=(tx t).1.length
 |.one _ l,h=>by
  have:=SH l (h l (by simp[nN]));dsimp[tx,wr,bV];omega
 |.rep m a,h=>by
  have:=dN a h;dsimp[tx,wr,bV,gE,aq,gU];omega
 |.row a b,h=>by
  have h1:=dN a λl m=>h l (bj _ m)
  have h2:=dN b λl m=>h l (aR _ m)
  have p1:2^bV a<=2^max (bV a) (bV b):=bx ∅ ∅;have p2:2^bV b<=2^max (bV a) (bV b):=bx ∅ ∅;dsimp[tx,wr,bV,gE,aq,aU,dY];omega
 |.or a b,h=>by
  have h1:=dN a λl m=>h l (bj _ m)
  have h2:=dN b λl m=>h l (aR _ m)
  have p1:2^bV a<=2^max (bV a) (bV b):=bx ∅ ∅;have p2:2^bV b<=2^max (bV a) (bV b):=bx ∅ ∅;dsimp[tx,wr,bV,gE,aq,aU,dY];omega
def lC{t:Tr}(h:kc t)(d:bV t<5):(tx t).1.length<=300/\(tx t).2.length<=300/\(wr t).length<=300:=by
 have:=dN t h;have p:2^bV t<=2^4:=bx ∅ ∅;omega
section
variable{br:Option (List Nat->PR U)}{x:List Nat}{t:U}
def so(h:vV br x t):vW br x t:=#[[t],#v[],by have:=r9.cons h .nil;rwa [bT] at this,rfl]
def zz(h:vW br x t):Gx br x t:=#[x,[],t,[],#v[],h,.nil,rfl]
def v7(h:vU br x t):vV br x t:=#[x,t,[],#v[],h,#v[],rfl]
end
def pW:∀t k,kc t->bV t<=k->vV (t8 k) (tx t).1 (enc t)/\vW (t8 k) (tx t).2 (enc t)/\Gx (t8 k) (wr t) (enc t)
 |.one _ l,k,h,d=>by
  have a:=v7 (Oa (h l (by simp[nN])) (t8 k));exact#[a,so a,zz (so a)]
 |.rep m a,k,h,d=>by
  have d:bV a+1<=k:=d;let#[x,ta,ms,e,ia,hm,et]:=(pW a k h ∅).1;have r:vV (t8 k) ((tx a).1++[SK m]) (enc (.rep m a)):=by
   refine#[x,ta,ms++[SK m],by rw[e,bw],ia,λc hc=>?_,?_]
   .rcases aL.mp hc with h|h
    .erw[hm c h]
    .simp at h;subst h;cases m<;>decide
   .unfold N0
    rw[fG]
    show enc (.rep m a)=JY (SK m) (N0 ta ms)
    rw[<-et]
    cases m<;>rfl
  exact#[r,so r,zz (so r)]
 |.row a b,k,h,d=>by
  have d:max (bV a) (bV b)+1<=k:=d;have key:∀k,max (bV a) (bV b)<=k->vW (t8 k) ((tx a).1++(tx b).1) (enc (.row a b)):=λk hk=>by
   have h1:=(pW a k (λl m=>h l (bj _ m)) ∅).1;have h2:=(pW b k (λl m=>h l (aR _ m)) ∅).1;exact#[[enc a,enc b],#v[],by have:=r9.cons h1 (r9.cons h2 .nil);rwa [bT] at this,rfl]
  obtain⟨k,rfl⟩:∃k',k=k'+1:=#[k-1,∅]
  have r:=v7 (EF (zz (key k ∅)));exact#[r,key _ ∅,zz (key _ ∅)]
 |.or a b,k,h,d=>by
  have d:max (bV a) (bV b)+1<=k:=d;have key:∀k,max (bV a) (bV b)<=k->Gx (t8 k) ((tx a).2++124::(tx b).2) (enc (.or a b)):=λk hk=>by
   have h1:=(pW a k (λl m=>h l (bj _ m)) ∅).2.1;have h2:=(pW b k (λl m=>h l (aR _ m)) ∅).2.1;exact#[(tx a).2,124::(tx b).2,enc a,[enc b],rfl,h1,by have:=vX.cons h2 .nil;rwa [bT] at this,rfl]
  obtain⟨k,rfl⟩:∃k',k=k'+1:=#[k-1,∅]
  have r:=v7 (EF (key k ∅));exact#[r,so r,key _ ∅]
def Oc{t:Tr}(h:kc t)(d:bV t<5):vQ (wr t)= .ok (enc t,[]):=N1 (pW t 6 h ∅).2.2
abbrev By(D:Tr->Prop)(f:Tr->List Nat):Spec:=λus S Q=>∃t,us=[enc t]/\D t/\kc t/\bV t<5/\∀S',Ext S S'->Q (.str (f t)) S'
abbrev v8:Tr->Prop
 |.row _ _=>True
 |.or _ _=>True
 |_=>False
abbrev KA:Tr->Prop
 |.rep _ _=>False
 |_=>True
def SM(Γ:cv)(k:Nat)(D:Tr->Prop)(hD:∀t,bV t<=k->v8 t->D t)(h1:Γ "place_text"=N9)(h2:Γ "written"=By D wr):Keeps Γ lT 0 (By (λt=>bV t<=k/\KA t) λt=>(tx t).1):=by
 rintro us S Q ⟨t,rfl,⟨dt,nr⟩,lt,d4,q⟩;have q:∀S',Ext S S'->Q (.str (tx t).1) S':=q;unfold lT;have sm:=lC lt d4;have go:v8 t->(tx t).1=40::(wr t++[41])->Rest Γ (.cons (.ret (.bin .add (.bin .add ↑[40] (.call "written" (.cons @0 .nil))) ↑[41])) .nil) #[λ_ S1=>Q .cf S1,Q] [ξ (enc t)] S:=by
  intro ro e;room;rwa[ca h2 #[t,rfl,hD t dt ro,lt,d4,λS1 x1=>?_]];room;refine#[(·),(·),?_];rw[<-e]
  erw[q S1 x1]
 cases t with
 |one n l=>
  rwa[uu rfl rfl ?_];unfold enc;room;dsimp[qe,bg];exact#[#v[],ca h1 #[l,rfl,lt l (by simp[nN]),q]]
 |row a b=>erw[kB rfl rfl (go trivial (by simp[tx,wr]))]
 |or a b=>erw[kB rfl rfl (go trivial (by simp[tx,wr]))]
 |rep m a=>erw[nr.elim]
noncomputable abbrev Ym:List (List Nat×List Nat):=[([115,116,97,114],[42]),([112,108,117,115],[43]),([109,97,121,98,101],[63])]
def SN(Γ:cv)(k:Nat)(hk:k<=10)(h1:Γ "atom_text"=By (λt=>bV t<=k/\KA t) λt=>(tx t).1):Keeps Γ jR 2 (By (λt=>bV t<=k) λt=>(tx t).1):=by
 rintro us S Q ⟨t,rfl,dt,lt,d4,q⟩;have q:∀S',Ext S S'->Q (.str (tx t).1) S':=q;unfold jR;have sm:=lC lt d4;room;refine#[bV t+1,nM (λn env S1=>S1=S/\∃a ms,n=bV a/\bV a<=bV t/\kc a/\ms.length+bV a<=bV t/\(tx t).1=(tx a).1++ms/\env=[ξ (enc t),ξ (.str ms),ξ (enc a)]) ?_ _ (bV t) _ _ ∅ #[rfl,t,[],rfl,ar _,lt,#v[],#v[],rfl]];rintro n env S1 K ⟨rfl,a,ms,rfl,da,la,ml,e,rfl⟩ hK;have stop:∀kk x,enc a=.tup [.str kk,x]->(Ym.lookup kk).isSome=ϑ->KA a->WT Γ (.dk (.cmp .isin (.ix @2 ↑0) (.lit (.tab Ym)))) [ξ (enc t),ξ (.str ms),ξ (enc a)] S1
   (λt1 S2=>if t1=ζ then Rest Γ (.cons (.set 1 (.bin .add (.ix (.lit (.tab Ym)) (.ix @2 ↑0)) @1)) (.cons (.set 2 (.ix @2 ↑1)) .nil)) #[K,Q] [ξ (enc t),ξ (.str ms),ξ (enc a)] S2 else Rest Γ (.cons (.ret (.bin .add (.call "atom_text" (.cons @2 .nil)) @1)) .nil) #[λ_ S1=>Q .cf S1,Q] [ξ (enc t),ξ (.str ms),ξ (enc a)] S2):=by
  intro kk x ek el nr;have fin:Rest Γ (.cons (.ret (.bin .add (.call "atom_text" (.cons @2 .nil)) @1)) .nil) #[λ_ S1=>Q .cf S1,Q] [ξ (enc t),ξ (.str ms),ξ (enc a)] S1:=by
   room;rwa[ca h1 #[a,rfl,#[∅,nr],la,∅,λS2 x2=>?_]];room;rw[<-e]
   refine#[?_,q S2 x2];rw[e,aq] at sm;omega
  rw[ek] at fin ⊢;room;rw[mC,bg,A4,el]
  exact#[#v[],fin]
 cases a with
 |one n l=>erw[stop _ _ rfl rfl trivial]
 |row a b=>erw[stop _ _ rfl rfl trivial]
 |or a b=>erw[stop _ _ rfl rfl trivial]
 |rep m a=>
  have dr:bV (.rep m a)=bV a+1:=rfl;have ek:enc (.rep m a)= .tup [.str (oH m),enc a]:=rfl;rw[ek]
  have el:Ym.lookup (oH m)=ξ [SK m]:=by cases m<;>rfl
  room;rw[mC,bg,A4,el]
  refine#[#v[],?_];dsimp[qP,if_true];room;dsimp[mC,bg,yP,el];room;refine#[#v[],(·),?_];room;dsimp[qe,bg];refine#[#v[],?_];try room
  erw[hK (bV a) _ _ ∅ #[rfl,a,SK m::ms,rfl,∅,la,(·),by rw[e];simp[tx],rfl]]
abbrev F9:Tr->Prop
 |.row _ _=>True
 |_=>False
def two_get{a b:Tr}{f:Tr->List Nat}{i:Nat}{u v:U}(hu:[enc a,enc b][i]?=ξ u)(hv:[U.str (f a),U.str (f b)][i]?=ξ v):∃t,(t=a\/t=b)/\u=enc t/\v=.str (f t):=by
 let#[t,m,h1,h2]:=zx (K:=[a,b]) (f:=λt=>.str (f t)) hu hv;exact#[t,~~~m,h1,h2]
def SQ(Γ:cv)(k:Nat)(h1:Γ "repeat_text"=By (λt=>bV t<=k) λt=>(tx t).1):Keeps Γ nv 0 (By (λt=>bV t<=k\/(F9 t/\bV t<=k+1)) λt=>(tx t).2):=by
 rintro us S Q ⟨t,rfl,dt,lt,d4,q⟩;have q:∀S',Ext S S'->Q (.str (tx t).2) S':=q;unfold nv;have go:¬F9 t->(tx t).2=(tx t).1->Rest Γ (.cons (.ret (.call "repeat_text" (.cons @0 .nil))) .nil) #[λ_ S1=>Q .cf S1,Q] [ξ (enc t)] S:=by
  intro nr e;room;rw[e] at q;erw[ca h1 #[t,rfl,dt.resolve_right λz=>nr z.1,lt,d4,q]]
 cases t with
 |one n l=>erw[kB rfl rfl (go (λz=>z) rfl)]
 |rep m a=>erw[kB rfl (beq_eq_false_iff_ne.mpr (EI m).2.1) (go (λz=>z) rfl)]
 |or a b=>erw[kB rfl rfl (go (λz=>z) rfl)]
 |row a b=>
  have dt:max (bV a) (bV b)+1<=k+1:=by rcases dt with z|z;erw[jH z];erw[z.2]
  have d4:max (bV a) (bV b)+1<5:=d4;have lo:∀t,t=a\/t=b->kc t/\bV t<=k/\bV t<5:=by
   rintro t (rfl|rfl)
   .exact#[λl m=>lt l (bj _ m),∅,∅]
   .exact#[λl m=>lt l (aR _ m),∅,∅]
  have sa:=(lC (lo a (.inl rfl)).1 (lo a (.inl rfl)).2.2).1;have sb:=(lC (lo b (.inr rfl)).1 (lo b (.inr rfl)).2.2).1;rwa[uu rfl rfl ?_];unfold enc;room;dsimp[qe,bg];refine#[#v[],#v[],?_];rwa[jY (S:=S) _ [.str (tx a).1,.str (tx b).1] (#v[]) (#v[]) (λ_ _=>trivial) (λu S' k h=>h) (λi u v hu hv S' k x hk=>?_) λS1 x1=>?_]
  .let#[t,m,rfl,rfl]:=two_get (f:=λt=>(tx t).1) hu hv
   let#[l1,l2,l3]:=lo t m;erw[ca h1 #[t,rfl,l2,l1,l3,hk]]
  .refine#[[(tx a).1,(tx b).1],#v[],(·),?_]
   have e:lR [] [(tx a).1,(tx b).1]=(tx (.row a b)).2:=by simp[lR,tx]
   rw[e]
   erw[q _ (x1.trans (Ext.app _))]
def SR(Γ:cv)(k:Nat)(h1:Γ "row_text"=By (λt=>bV t<=k\/(F9 t/\bV t<=k+1)) λt=>(tx t).2):Keeps Γ pO 0 (By (λt=>bV t<=k\/(v8 t/\bV t<=k+1)) wr):=by
 rintro us S Q ⟨t,rfl,dt,lt,d4,q⟩;unfold pO;have go:(v8 t->F9 t)->wr t=(tx t).2->Rest Γ (.cons (.ret (.call "row_text" (.cons @0 .nil))) .nil) #[λ_ S1=>Q .cf S1,Q] [ξ (enc t)] S:=by
  intro nr e;room;rw[e] at q;erw[ca h1 #[t,rfl,dt.imp_right λz=>#[nr z.1,z.2],lt,d4,q]]
 cases t with
 |one n l=>erw[kB rfl rfl (go (λz=>z) rfl)]
 |rep m a=>erw[kB rfl (beq_eq_false_iff_ne.mpr (EI m).2.2) (go (λz=>z) rfl)]
 |row a b=>erw[kB rfl rfl (go (λz=>z) rfl)]
 |or a b=>
  have dt:max (bV a) (bV b)+1<=k+1:=by rcases dt with z|z;erw[jH z];erw[z.2]
  have d4:max (bV a) (bV b)+1<5:=d4;have lo:∀t,t=a\/t=b->kc t/\bV t<=k/\bV t<5:=by
   rintro t (rfl|rfl)
   .exact#[λl m=>lt l (bj _ m),∅,∅]
   .exact#[λl m=>lt l (aR _ m),∅,∅]
  have sa:=(lC (lo a (.inl rfl)).1 (lo a (.inl rfl)).2.2).2.1;have sb:=(lC (lo b (.inr rfl)).1 (lo b (.inr rfl)).2.2).2.1;rwa[uu rfl rfl ?_];unfold enc;room;dsimp[qe,bg];refine#[#v[],#v[],?_];rwa[jY (S:=S) _ [.str (tx a).2,.str (tx b).2] (#v[]) (#v[]) (λ_ _=>trivial) (λu S' k h=>h) (λi u v hu hv S' k x hk=>?_) λS1 x1=>?_]
  .let#[t,m,rfl,rfl]:=two_get (f:=λt=>(tx t).2) hu hv
   let#[l1,l2,l3]:=lo t m;erw[ca h1 #[t,rfl,.inl l2,l1,l3,hk]]
  .refine#[[(tx a).2,(tx b).2],#v[],(·),?_]
   have e:lR [124] [(tx a).2,(tx b).2]=wr (.or a b):=by simp[lR,wr]
   rw[e]
   erw[q _ (x1.trans (Ext.app _))]
end PL.nW
namespace PL.wx
section
variable{κ:Type}[BEq κ][LawfulBEq κ]
abbrev lM(seen:List κ):List κ->List Nat
 |[]=>[]
 |k::r=>if k∈seen then seen.idxOf k::lM seen r else seen.length::lM (seen++[k]) r
abbrev sn(seen:List κ):List κ->List κ
 |[]=>seen
 |k::r=>sn (if k∈seen then seen else seen++[k]) r
def me:∀(ks:List κ)(seen:List κ),(lM seen ks).length=ks.length
 |[],_=>rfl
 |k::r,seen=>by unfold lM;split<;>simp[me r]
def v9:∀(ks:List κ)(seen:List κ),(sn seen ks).length<=seen.length+ks.length
 |[],_=>by simp[sn]
 |k::r,seen=>by
  unfold sn;split
  .have:=v9 r seen;simp;omega
  .have:=v9 r (seen++[k]);simp at this ⊢;omega
def KC{κ':Type}[BEq κ'][LawfulBEq κ'](f:κ->κ')(hf:∀a b,f a=f b->a=b)(k:κ):∀l:List (κ×U),(l.map λp=>(f p.1,p.2)).lookup (f k)=l.lookup k
 |[]=>rfl
 | (a,v)::r=>by
  rw[aw,aP,aP,KC f hf k r]
  by_cases h:k=a
  .subst h;simp
  .rw[show(k==a)=ϑ by simp[h],show(f k==f a)=ϑ from beq_eq_false_iff_ne.mpr λe=>h (hf _ _ e)]
def zA:∀(ks:List κ)(seen:List κ),∃m,sn seen ks=seen++m
 |[],seen=>#[[],by simp[sn]]
 |k::r,seen=>by
  unfold sn;split
  .erw[zA r seen]
  .let#[m,e]:=zA r (seen++[k])
   exact#[k::m,by rw[e];simp]
def KD:∀(ks:List κ)(seen:List κ),seen.Nodup->(sn seen ks).Nodup
 |[],_,h=>h
 |k::r,seen,h=>by
  unfold sn;split
  .erw[KD r seen h]
  .rename_i hk
   rwa[KD r _ ?_];rw[fE]
   exact#[h,#v[],λx hx y hy=>%[bI.mp hy|λe=>hk (e▸hx)]]
def nO{k:κ}{a b:List κ}(h:k∈a):(a++b).idxOf k=a.idxOf k:=by
 rw[jG,if_pos h]
def tH:∀(ks:List κ)(seen:List κ),lM seen ks=ks.map λk=>(sn seen ks).idxOf k
 |[],_=>rfl
 |k::r,seen=>by
  unfold lM sn;split
  .rename_i hk
   let#[m,e]:=zA r seen;rw[aw,tH r seen,e,nO hk]
  .rename_i hk
   let#[m,e]:=zA r (seen++[k]);rw[aw,tH r (seen++[k]),e]
   congr 1
   rw[nO (#v[]),jG,if_neg hk]
   simp
def wa:∀(ks:List κ)(seen:List κ)(k:κ),k∈sn seen ks↔k∈seen\/k∈ks
 |[],_,_=>by simp[sn]
 |x::r,seen,k=>by
  unfold sn;rw[wa r]
  split
  .rename_i hk
   constructor
   .rintro(h|h)
    .erw[.inl h]
    .erw[.inr (av _ h)]
   .rintro(h|h)
    .erw[.inl h]
    .rcases aM.mp h with rfl|h
     .erw[.inl hk]
     .erw[.inr h]
  .simp[or_assoc]
abbrev dz(seen:List κ)(n:Nat):List (κ×U):=(seen.zipIdx n).map λp=>(p.1,aW p.2)
def KG(a:List κ)(k:κ)(n:Nat):dz (a++[k]) n=dz a n++[(k,aW (n+a.length))]:=by
 unfold dz;rw[List.zipIdx_append,aI];simp
def zB(a:List κ)(n:Nat):(dz a n).length=a.length:=by simp[dz]
def zC:∀(a:List κ)(k:κ)(n:Nat),(dz a n).lookup k=if k∈a then ξ (aW (n+a.idxOf k)) else ψ
 |[],k,n=>rfl
 |x::a,k,n=>by
  have e:dz (x::a) n=(x,aW n)::dz a (n+1):=rfl;rw[e,aP]
  by_cases h:k=x
  .subst h;simp
  .have h1:(k==x)=ϑ:=by simp[h]
   rw[h1,zC a k (n+1)]
   by_cases hk:k∈a
   .rw[if_pos hk,if_pos (av _ hk),List.idxOf_cons,show(x==k)=ϑ by simp[cM h]]
    dsimp[cond_false]
    congr 2
    omega
   .rw[if_neg hk,if_neg (by simp[h,hk])]
end
def SS(o:Option Nat):nj (uN o)=ζ:=by cases o<;>rfl
def WZ(a b:Option Nat):T7 (uN a) (uN b)=(a==b):=by
 cases a<;>cases b<;>first|rfl|skip
 rename_i x y;show((x:Int)== (y:Int))=(ξ x==ξ y);by_cases h:x=y
 .subst h;simp
 .rw[show((x:Int)== (y:Int))=ϑ from beq_eq_false_iff_ne.mpr λe=>h (iL e),show(ξ x==ξ y)=ϑ from beq_eq_false_iff_ne.mpr λe=>h (aK e)]
def KH(k:Option Nat):∀(l:List (Option Nat×U)),uC (uN k) (l.map λp=>(uN p.1,p.2))=l.lookup k
 |[]=>rfl
 | (a,v)::r=>by
  rw[aw,aP]
  unfold uC;rw[WZ,KH k r]
  by_cases h:a=k
  .subst h;simp
  .have h1:(a==k)=ϑ:=by simp[h]
   have h2:(k==a)=ϑ:=by simp[cM h]
   rw[h1,h2];rfl
section
variable{κ β:Type}[BEq κ][LawfulBEq κ][BEq β][LawfulBEq β]{ks:List κ}
def Od{l:List κ}{a b:κ}(ha:a∈l)(h:l.idxOf a=l.idxOf b):a=b:=by
 have la:=bE ha;have e:=dH la;have lb:l.idxOf b<l.length:=∅
 rw[<-e,<-dH lb]
 congr 1
def uM{i j:Nat}{a b:κ}(hi:ks[i]?=ξ a)(hj:ks[j]?=ξ b):(lM [] ks)[i]?=(lM [] ks)[j]?↔a=b:=by
 rw[tH,aB,aB,hi,hj]
 constructor
 .intro h
  erw[Od ((wa ks [] a).mpr (.inr (ai hi))) (aK h)]
 .intro h;rw[h]
def zD:∀(ks:List κ)(seen:List κ)(i v:Nat),(lM seen ks)[i]?=ξ (v+1)->v<seen.length\/∃p,p<i/\(lM seen ks)[p]?=ξ v
 |[],_,i,v,h=>by simp[lM] at h
 |k::r,seen,0,v,h=>by
  unfold lM at h;split at h
  .rename_i hk
   have:=bE hk;have:seen.idxOf k=v+1:=by simpa using h
   omega
  .have:seen.length=v+1:=by simpa using h
   omega
 |k::r,seen,i+1,v,h=>by
  unfold lM at h ⊢;split at h
  .rename_i hk
   rw[if_pos hk]
   rcases zD r seen i v (~~~h) with z|⟨p,hp,e⟩
   .erw[.inl z]
   .exact .inr #[p+1,∅,~~~e]
  .rename_i hk
   rw[if_neg hk]
   rcases zD r (seen++[k]) i v (~~~h) with z|⟨p,hp,e⟩
   .rw[aq] at z
    by_cases y:v<seen.length
    .erw[.inl y]
    .have:seen.length=v:=by simp at z;omega
     erw[.inr #[0,∅,by simp[this]]]
   .exact .inr #[p+1,∅,~~~e]
def Oe(hm:m∈lM [] ks)(h:∀j∈lM [] ks,j<=m):m+1=(sn [] ks).length:=by
 rw[tH] at hm h;let#[k,hk,rfl]:=bO.mp hm;have l1:=bE ((wa ks [] k).mpr (.inr hk));have ll:(sn [] ks).length-1<(sn [] ks).length:=∅
 have e:=(KD ks [] (#v[])).idxOf_getElem _ ll;have m2:=(wa ks [] _).mp (dJ ll);have:=h _ (bO.mpr #[_,m2.resolve_left (#v[]),rfl]);rw[e] at this;omega
abbrev W0(ps:List (κ×β)):Prop:=∀x∈ps,∀y∈ps,x.1=y.1->x.2=y.2
def Bz:∀(ps:List (κ×β))(A:List κ)(B:List β),W0 ps->(∀x∈ps,x.1∈A->x.2∈B)->(sn B (ps.map (·.2))).length+A.length<=(sn A (ps.map (·.1))).length+B.length
 |[],A,B,_,_=>by simp[sn];omega
 |x::ps,A,B,hc,hA=>by
  have c':W0 ps:=λy hy z hz=>hc y (av _ hy) z (av _ hz)
  rw[aw,aw]
  unfold sn;by_cases h1:x.1∈A
  .have h2:=hA x (aN ..) h1
   rw[if_pos h1,if_pos h2]
   erw[Bz ps A B c' λy hy=>hA y (av _ hy)]
  .have nx:∀y∈ps,y.1∈A++[x.1]->y.2∈B\/y.2=x.2:=λy hy m=>by
    rcases aL.mp m with m|m
    .erw[.inl (hA y (av _ hy) m)]
    .exact .inr (hc y (av _ hy) x (aN ..) (~~~m))
   rw[if_neg h1]
   by_cases h2:x.2∈B
   .rw[if_pos h2]
    have:=Bz ps (A++[x.1]) B c' λy hy m=>(nx y hy m).elim id λe=>e▸h2
    simp at this ⊢;omega
   .rw[if_neg h2]
    have:=Bz ps (A++[x.1]) (B++[x.2]) c' λy hy m=>by
     rcases nx y hy m with z|z
     .simp[z]
     .simp[z]
    simp at this ⊢;omega
def Dp:∀(ps:List (κ×β))(A:List κ)(B:List β),W0 ps->A.length=B.length->(∀x∈ps,x.1∈A->x.2∈B/\A.idxOf x.1=B.idxOf x.2)->(sn B (ps.map (·.2))).length=(sn A (ps.map (·.1))).length->lM A (ps.map (·.1))=lM B (ps.map (·.2))
 |[],A,B,_,_,_,_=>rfl
 |x::ps,A,B,hc,hl,hA,he=>by
  have c':W0 ps:=λy hy z hz=>hc y (av _ hy) z (av _ hz)
  rw[aw,aw] at he ⊢;unfold sn at he;unfold lM;by_cases h1:x.1∈A
  .let#[h2,h3]:=hA x (aN ..) h1
   rw[if_pos h1,if_pos h2] at he ⊢;rw[h3,Dp ps A B c' hl (λy hy=>hA y (av _ hy)) he]
  .have nx:∀y∈ps,y.1∈A++[x.1]->y.1∈A\/(y.1=x.1/\y.2=x.2):=λy hy m=>by
    rcases aL.mp m with m|m
    .erw[.inl m]
    .have e:y.1=x.1:=by simpa using m
     erw[.inr #[e,hc y (av _ hy) x (aN ..) e]]
   rw[if_neg h1] at he ⊢;by_cases h2:x.2∈B
   .rw[if_pos h2] at he
    have:=Bz ps (A++[x.1]) B c' λy hy m=>by
     rcases nx y hy m with z|z
     .exact(hA y (av _ hy) z).1
     .rw[z.2];erw[h2]
    simp at this;omega
   .rw[if_neg h2] at he ⊢
    rw[hl,Dp ps (A++[x.1]) (B++[x.2]) c' (by simp[hl]) (λy hy m=>?_) he]
    rcases nx y hy m with z|z
    .let#[z1,z2]:=hA y (av _ hy) z
     exact#[by simp[z1],by rw[nO z,nO z1,z2]]
    .rw[z.1,z.2]
     exact#[#v[],by rw[jG,if_neg h1,jG,if_neg h2];simp[hl]]
def KI{a:List κ}{b:List β}(h:∀(i j:Nat) (x y:κ) (u v:β),a[i]?=ξ x->a[j]?=ξ y->b[i]?=ξ u->b[j]?=ξ v->x=y->u=v):W0 (a.zip b):=by
 intro x hx y hy e;let#[i,hi]:=bR hx;let#[j,hj]:=bR hy;rw[List.getElem?_zip_eq_some] at hi hj;erw[h i j _ _ _ _ hi.1 hj.1 hi.2 hj.2 e]
def Dq{a:List κ}{b:List β}(hl:a.length=b.length)(h:∀(i j:Nat) (x y:κ) (u v:β),a[i]?=ξ x->a[j]?=ξ y->b[i]?=ξ u->b[j]?=ξ v->x=y->u=v):(sn [] b).length<=(sn [] a).length:=by
 have:=Bz (a.zip b) [] [] (KI h) (#v[]);rw[Lu ∅,Lw ∅] at this;simpa using this
def EL{a:List κ}{b:List β}(hl:a.length=b.length)(h:∀(i j:Nat) (x y:κ) (u v:β),a[i]?=ξ x->a[j]?=ξ y->b[i]?=ξ u->b[j]?=ξ v->x=y->u=v)(he:(sn [] b).length=(sn [] a).length):lM [] a=lM [] b:=by
 have:=Dp (a.zip b) [] [] (KI h) rfl (#v[]);rw[Lu ∅,Lw ∅] at this;erw[this he]
def EM(ks:List κ):lM [] (lM [] ks)=lM [] ks:=by
 have l:=me ks [];have h1:∀(i j:Nat)(x y:κ)(u v:Nat),ks[i]?=ξ x->ks[j]?=ξ y->(lM [] ks)[i]?=ξ u->(lM [] ks)[j]?=ξ v->x=y->u=v:=λi j x y u v hi hj hu hv e=>by
  have:=(uM hi hj).mpr e;rw[hu,hv] at this;erw[aK this]
 have h2:∀(i j:Nat)(x y:Nat)(u v:κ),(lM [] ks)[i]?=ξ x->(lM [] ks)[j]?=ξ y->ks[i]?=ξ u->ks[j]?=ξ v->x=y->u=v:=λi j x y u v hi hj hu hv e=>by
  refine(uM hu hv).mp ?_;rw[hi,hj,e]
 exact(EL l.symm h1 (Nat.le_antisymm (Dq l.symm h1) (Dq l h2))).symm
end
abbrev KJ(p:Nat×List Nat):U:=.tup [aW p.1,.tup (p.2.map aW)]
def uO{κ:Type}[BEq κ][LawfulBEq κ]:∀(ks:List κ)(k:κ)(seen:List κ),sn seen (ks++[k])=if k∈sn seen ks then sn seen ks else sn seen ks++[k]
 |[],k,seen=>rfl
 |x::r,k,seen=>by
  rw[nU]
  unfold sn;erw[uO r k _]
def KL{κ:Type}[BEq κ][LawfulBEq κ](ks:List κ)(k:κ):lM [] (ks++[k])=lM [] ks++[(sn [] (ks++[k])).idxOf k]:=by
 rw[tH,tH,aI,uO]
 congr 1
 rwa[qS λx hx=>?_]
 split
 .rfl
 .erw[nO ((wa ks [] x).mpr (.inr hx))]
abbrev wU(p:Nat×List Nat):Int×List Int:=((p.1:Int),p.2.map λ(n:Nat)=>(n:Int))
def KN(a b:Nat×List Nat)(h:wU a=wU b):a=b:=by
 let#[h1,h2]:=Ad h;erw[Prod.ext (iL h1) ((sA λ_ _ e=>iL e).mp h2)]
def KO(p:Nat×List Nat):KJ p=.tup [.int (wU p).1,.tup ((wU p).2.map .int)]:=by
 unfold KJ wU;rw[bB];rfl
abbrev KQ:Spec:=λus S Q=>∃u,us=[u]/\((∃ks:List (Option Nat),u=.tup (ks.map uN)/\ks.length<=9000/\∀m S',Ext S S'->S.length<=m->S'[m]?=ξ (.lst ((lM [] ks).map aW))->Q (.loc m) S') \/
 ∃n,∃ks:List (Nat×List Nat),u=.loc n/\S[n]?=ξ (.lst (ks.map KJ))/\ks.length<=9000/\∀m S',Ext S S'->S.length<=m->S'[m]?=ξ (.lst ((lM [] ks).map aW))->Q (.loc m) S')
def KR{κ:Type}[BEq κ][LawfulBEq κ](f:κ->U)(D:List (κ×U)->SO)(hD:∀(S:bM) (n:Nat) kvs k (d:U) (Q:KU),S[n]?=ξ (D kvs)->kvs.length<=9000->(match kvs.lookup k with|some v=>Q v S|none=>Q d (S.set n (D (kvs++[(k,d)]))))->qp S n (f k) d Q)(hL:∀(S:bM) (n:Nat) kvs,S[n]?=ξ (D kvs)->uk .og (.loc n) S/\oh S (.loc n)=ξ kvs.length)
  {g:bM->Prop}{S:bM}{Q:List U->bM->Prop}{ks:List κ} (hl:ks.length<=9000) (hg:∀S',Ext S S'->g S') (q:∀S',Ext S S'->Q ((lM [] ks).map aW) S'):mN g (λ_ S2 k=>k ζ S2) (λu S2 k=>uk .og (.loc S.length) S2/\opt (oh S2 (.loc S.length)) λn=>n<=1000000/\qp S2 S.length u (.int n) k) Q (ks.map f) [] (S++[D []]):=by
 rwa[gB _ (λi acc S'=>Ext S S'/\S'[S.length]?=ξ (D (dz (sn [] (ks.take i)) 0))/\acc=(lM [] (ks.take i)).map aW) (λi acc S' hi h=>#[hg _ h.1,?_]) (λi u acc S' k hu hI hk=>?_) (λacc S' hI=>?_) #[Ext.app _,by simp[sn,dz],rfl]]
 .rw[h.2.2,ae,me,cH];omega
 .let#[x,e,rfl]:=hI
  let#[k0,hk0,rfl]:=gg hu;have tk:=Kg hk0;have ln:(sn [] (ks.take i)).length<=9000:=by have:=v9 (ks.take i) [];simp at this;omega
  have nt:(lM [] (ks.take (i+1))).map aW=(lM [] (ks.take i)).map aW++[aW ((sn [] (ks.take (i+1))).idxOf k0)]:=by rw[tk,KL,aI];rfl
  rw[if_pos rfl,(hL _ _ _ e).2]
  refine#[(hL _ _ _ e).1,by rw[zB];omega,hD _ _ _ _ _ _ e (%[zB|ln]) ?_];rw[zC,zB]
  by_cases hm:k0∈sn [] (ks.take i)
  .have es:sn [] (ks.take (i+1))=sn [] (ks.take i):=by rw[tk,uO,if_pos hm]
   rw[if_pos hm,lI]
   erw[hk _ _ #[x,by rw[es];exact e,by rw[nt,es]]]
  .have es:sn [] (ks.take (i+1))=sn [] (ks.take i)++[k0]:=by rw[tk,uO,if_neg hm]
   rw[if_neg hm]
   refine hk _ _ #[#[~~~x.1,λn hn=>?_],?_,?_]
   .rw[ao ∅];erw[x.2 n hn]
   .rw[bA (ag.mp e).1,es,KG,lI]
   .rw[nt,es,jG,if_neg hm];simp
 .let#[x,e,rfl]:=hI
  rw[show ks.take (ks.map f).length=ks by simp]
  erw[q _ x]
def SU(Γ:cv):Keeps Γ nF 1 KQ:=by
 rintro us S Q ⟨u,rfl,h⟩;unfold nF;rcases h with⟨ks,rfl,hl,q⟩|⟨n,ks,rfl,g,hl,q⟩
 .room
  rw[vA]
  refine#[⋯,.inl ?_];room;refine#[(·),KR uN (λl=>.dZ (l.map λp=>(uN p.1,p.2))) (λS n kvs k d Q e l h=>?_) (λS n kvs e=>#[?_,by dsimp[oh,e,ae]]) hl (λ_ _=>trivial) λS' x=>q _ _ (x.trans (Ext.app _)) x.1 (#v[])]
  .unfold qp
   rw[e]
   refine#[#[SS _,by rw[ae];omega],?_];rw[aI] at h;rw[KH]
   erw[h]
  .show(match S[n]? with|some (.dZ _)=>True|some (.uA _)=>True|some (.xK _)=>True|_=>False)
   rw[e];trivial
 .room
  rw[vA]
  refine#[⋯,.inr (.inr ?_)];room;rw[ah (aS g),g]
  dsimp[aF];rwa[KR KJ (λl=>.xK (l.map λp=>(wU p.1,p.2))) (λS n kvs k d Q e l h=>?_) (λS n kvs e=>#[?_,by dsimp[oh,e,ae]]) hl (λS' x=>x.get g) λS' x=>q _ _ (x.trans (Ext.app _)) x.1 (#v[])]
  .unfold qp
   rw[e]
   refine#[_,_,KO k,by rw[ae];omega,?_];rw[show((wU k).1,(wU k).2)=wU k from rfl,KC wU KN]
   rw[aI] at h;erw[h]
  .show(match S[n]? with|some (.dZ _)=>True|some (.uA _)=>True|some (.xK _)=>True|_=>False)
   rw[e];trivial
structure Rw(S:bM)(n:Nat)(ls:List Nat)(g:Nat->Nat->Nat):Prop where
 l:S[n]?=ξ (.lst (ls.map .loc))
 d:∀(j m:Nat),ls[j]?=ξ m->S[m]?=ξ (SO.dZ (SG.map λc=>(.str [c],aW (g j c))))
def Rw.ext{S S':bM}{n:Nat}{ls:List Nat}{g:Nat->Nat->Nat}(h:Rw S n ls g)(x:Ext S S'):Rw S' n ls g:=#[x.get h.l,λj m e=>x.get (h.d j m e)]
def wb{f:Nat->U}{c:Nat}:∀{l:List Nat},c∈l->uC (.str [c]) (l.map λc=>(U.str [c],f c))=ξ (f c)
 |x::l,h=>by
  rw[aw]
  unfold uC;by_cases e:x=c
  .subst e;rw[if_pos (show T7 (.str [x]) (.str [x])=ζ from beq_self_eq_true [x])]
  .rw[if_neg (show ¬T7 (.str [x]) (.str [c])=ζ from (by simp[e]:¬([x]==[c])=ζ))]
   rcases aM.mp h with z|z
   .erw[absurd z.symm e]
   .erw[wb z]
def BA{κ:Type}[BEq κ][LawfulBEq κ]{f:Nat->κ}{h:Nat->U}{k:κ}:∀l:List Nat,(∃c∈l,f c=k/\(l.map λc=>(f c,h c)).lookup k=ξ (h c))\/(l.map λc=>(f c,h c)).lookup k=ψ
 |[]=>.inr rfl
 |x::l=>by
  rw[aw,aP]
  by_cases e:k=f x
  .erw[.inl #[x,aN ..,e.symm,by simp[e]]]
  .rw[show(k==f x)=ϑ by simp[e]]
   rcases BA (f:=f) (h:=h) (k:=k) l with⟨c,m,z⟩|z
   .erw[.inl #[c,av _ m,z]]
   .erw[.inr z]
abbrev Pa:Spec:=λus S Q=>∃n ls g,us=[.loc n]/\Rw S n ls g/\ls.length<=9000/\∀(m:Nat)(S':bM)(sg:List Nat),Ext S S'->S.length<=m->S'[m]?=ξ (.lst (sg.map λc=>.str [c]))->sg.length<=95->(∀c∈sg,c∈SG)->(∀c∈SG,∃c'∈sg,∀j,j<ls.length->g j c'=g j c)->Q (.loc m) S'
def SV(Γ:cv):Keeps Γ iX 2 Pa:=by
 rintro us S Q ⟨n,ls,g,rfl,rw0,hl,q⟩;let#[r1,r2]:=rw0;unfold iX;have gl:SG.length=95:=rfl;generalize SG=G at *;room;rw[vA]
 refine#[⋯,.inr (.inl ?_)];room
 let ky:Nat->List Int:=λc=>(bC ls.length).map λj=>((g j c:Nat):Int)
 rwa[fj (λi env S1=>∃(sg:List Nat)(x2:Option U),env=[ξ (.loc n),ξ (.loc S.length),x2]/\Ext S S1/\S1[S.length]?=ξ (.uA (sg.map λc=>(ky c,.str [c])))/\sg.length<=i/\(∀c∈sg,c∈G)/\∀c∈G.take i,∃c'∈sg,ky c'=ky c) (λ_ _ _ _=>trivial) _ ?_ ?_ #[[],ψ,rfl,Ext.app _,#v[],#v[],#v[],#v[]]]
 .rintro i u env S1 K hu ⟨sg,x2,rfl,x1,g1,sl,hs,inv⟩ hK
  let#[c,hc,rfl]:=gg hu;have cm:=ai hc;have il:i<95:=by have:=(ag.mp hc).1;omega
  have et:=Kg hc;room;refine#[by show(match S1[S.length]? with|some (.dZ _)=>True|some (.uA _)=>True|some (.xK _)=>True|_=>False);rw[g1];trivial,?_];rw[x1.get r1,aF]
  rwa[jY (S:=S1) _ ((ky c).map .int) (by simp[ky]) ((·)) (λS' x=>x.get (x1.get r1)) (λu S' k h=>h) (λj u v hu hv S2 k x hk=>?_) λS2 x=>?_]
  .let#[m,hm,rfl]:=gg hu
   have jl:=(ag.mp hm).1;rw[aB,aB,eh jl] at hv;have hv:aW (g j c)=v:=by simpa using hv
   subst hv;room;rw[(x1.trans x).get (r2 j m hm)]
   rw[kY]
   refine#[rfl,?_];rw[wb cm]
   erw[hk S2 .refl]
  .rw[ay (ar _),bZ]
   dsimp[List.getElem?_cons_zero,aF];have x2:=x.trans (Ext.app [SO.lst ((ky c).map U.int)]);have g2:=x2.get g1;generalize S2++[SO.lst ((ky c).map U.int)]=S3 at x2 g2;show qp S3 S.length _ _ _;unfold qp;rw[g2]
   refine#[ky c,rfl,(·),?_];rcases BA (f:=ky) (h:=λc=>U.str [c]) (k:=ky c) sg with⟨c',m',e',z⟩|z
   .rw[z]
    room;rwa[hK _ _ #[sg,_,rfl,x1.trans x2,g2,∅,hs,λd hd=>?_]];rw[et] at hd;rcases aL.mp hd with hd|hd
    .erw[inv d hd]
    .have:d=c:=by simpa using hd
     subst this;exact#[c',m',e']
   .rw[z]
    room;have x13:=x1.trans x2;rwa[hK _ _ #[sg++[c],_,rfl,(x13.st ∅),by rw[gs g2];simp,(·),λd hd=>?_,λd hd=>?_]]
    .rcases aL.mp hd with hd|hd
     .erw[hs d hd]
     .have:d=c:=by simpa using hd
      subst this;erw[cm]
    .rw[et] at hd
     rcases aL.mp hd with hd|hd
     .let#[c',m',e']:=inv d hd
      exact#[c',by simp[m'],e']
     .have:d=c:=by simpa using hd
      subst this;exact#[d,#v[],rfl]
 .rintro env S1 ⟨sg,x2,rfl,x1,g1,sl,hs,inv⟩
  rw[ae,gl] at sl;rw[ae,cb] at inv;room;refine#[by show(match S1[S.length]? with|some (.uA _)=>True|_=>False);rw[g1];trivial,?_];show(match S1[S.length]? with|some (.uA kvs)=>Q (.loc S1.length) (S1++[.lst (kvs.map (·.2))])|_=>False)
  rw[g1]
  rwa[q _ _ sg (x1.trans (Ext.app _)) x1.1 (#v[]) sl hs λc hc=>?_]
  let#[c',m',e']:=inv c hc;refine#[c',m',λj hj=>?_];have:=congrArg (·[j]?) e';dsimp[ky,aB,eh hj] at this;have:((g j c':Nat):Int)=(g j c:Nat):=by simpa using this
  omega
abbrev cV(G:List Nat)(f:Nat->Option Nat):List (List Nat×U):=G.filterMap λc=>(f c).map λk=>([c],aW k)
abbrev sD(ps:List (List Nat×U)):List (U×U):=ps.map λp=>(U.str p.1,p.2)
def EN(a:List Nat):∀ps,uC (.str a) (sD ps)=ps.lookup a
 |[]=>rfl
 | (b,v)::r=>by
  have ih:=EN a r;show(if (b==a)=ζ then ξ v else uC (.str a) (sD r))=_;rw[aP,ih]
  by_cases h:b=a
  .subst h;simp
  .rw[if_neg (by simp[h]),show(a==b)=ϑ by simp[cM h]]
def wd(f:Nat->Option Nat)(c:Nat):∀G:List Nat,(cV G f).lookup [c]=if c∈G then(f c).map aW else ψ
 |[]=>rfl
 |x::G=>by
  have ih:=wd f c G;unfold cV at ih ⊢;rw[bu]
  by_cases e:c=x
  .subst e
   cases h:f c with
   |none=>rw[h] at ih;dsimp[uw,ih];simp
   |some k=>simp
  .have e1:(([c]:List Nat)== [x])=ϑ:=by simp[e]
   cases h:f x with
   |none=>dsimp[uw,ih,aM,e,false_or]
   |some k=>dsimp[gD,aP,e1,ih,aM,e,false_or]
structure Rp(S:bM)(n:Nat)(ls:List Nat)(go:Nat->Nat->Option Nat):Prop where
 l:S[n]?=ξ (.lst (ls.map .loc))
 d:∀(j m:Nat),ls[j]?=ξ m->S[m]?=ξ (SO.dZ (sD (cV SG (go j))))
 z:∀(j c:Nat),ls.length<=j->go j c=ψ
def Rp.ext{S S':bM}{n:Nat}{ls:List Nat}{go:Nat->Nat->Option Nat}(h:Rp S n ls go)(x:Ext S S'):Rp S' n ls go:=#[x.get h.l,λj m e=>x.get (h.d j m e),h.z]
abbrev gN(N:Nat)(go:Nat->Nat->Option Nat)(j c:Nat):Nat:=(go j c).getD N
abbrev KS:Spec:=λus S Q=>∃n ls go,us=[.loc n]/\Rp S n ls go/\ls.length<=9000/\∀(m:Nat)(S':bM)(ms:List Nat),Ext S S'->ms.length=ls.length+1->Rw S' m ms (gN ls.length go)->Q (.loc m) S'
def SW{Γ:cv}{S:bM}{d N:Nat}{f:Nat->Option Nat}{k:KU}(hd:S[d]?=ξ (.dZ (sD (cV SG f))))(q:∀m S',Ext S S'->S'[m]?=ξ (.dZ (SG.map λc=>(.str [c],aW ((f c).getD N))))->k (.loc m) S'):WE Γ ZH [ξ (.loc d),ξ (aW N)] S k:=by
 unfold ZH;have nd:=O5;have gl:SG.length=95:=rfl;generalize SG=G at *;room;rwa[jY (S:=S) _ (G.map λc=>.tup [.str [c],aW ((f c).getD N)]) (#v[]) ((·)) (λS' x=>trivial) (λu S' k h=>h) (λj u v hu hv S2 k x' hk=>?_) λS2 x'=>?_]
 .rw[aB] at hu hv
  let#[c,hc,rfl]:=ak.mp hu;rw[hc] at hv;have hv:U.tup [.str [c],aW ((f c).getD N)]=v:=by simpa using hv
  subst hv;room;rw[x'.get hd]
  dsimp[getD_some,kY,true_and];refine#[cV G f,rfl,#v[],?_];rw[wd,if_pos (ai hc)]
  have:((f c).map aW).getD (aW N)=aW ((f c).getD N):=by cases f c<;>rfl
  rw[this]
  erw[hk S2 .refl]
 .refine#[G.map λc=>([c],aW ((f c).getD N)),by simp[cJ],%[bB|nd],?_]
  rw[bB]
  erw[q _ _ (x'.trans ((Ext.app _).trans (Ext.app _))) (by rw[ay (ar _),bZ];rfl)]
def W2(Γ:cv):Keeps Γ jr 1 KS:=by
 rintro us S Q ⟨n,ls,go,rfl,⟨r1,r2,r3⟩,hl,q⟩;unfold jr;room;rw[lS r1]
 dsimp[bg,ae];refine#[∅,?_];room;rw[vA]
 refine#[⋯,.inl #[#v[],?_]];have x0:Ext S (S++[SO.dZ []]++[SO.lst [U.loc S.length]]):=(Ext.app _).trans (Ext.app _);have g0:(S++[SO.dZ []]++[SO.lst [U.loc S.length]])[(S++[SO.dZ []]).length]?=ξ (.lst [U.loc S.length]):=by
  rw[ay (ar _),bZ];rfl
 have d0:(S++[SO.dZ []]++[SO.lst [U.loc S.length]])[S.length]?=ξ (.dZ []):=(Ext.app _).get (#v[]);generalize (S++[SO.dZ []]).length=n0 at g0;generalize S++[SO.dZ []]++[SO.lst [U.loc S.length]]=S0 at x0 g0 d0;rw[x0.get r1,g0]
 dsimp[aF];refine#[(·),?_];have x1:Ext S (S0++[SO.lst (ls.map U.loc++[U.loc S.length])]):=x0.trans (Ext.app _);have g1:(S0++[SO.lst (ls.map U.loc++[U.loc S.length])])[S0.length]?=ξ (.lst ((ls++[S.length]).map U.loc)):=by simp
 have d1:=(Ext.app [SO.lst (ls.map U.loc++[U.loc S.length])]).get d0;generalize S0.length=n1 at g1;generalize S0++[SO.lst (ls.map U.loc++[U.loc S.length])]=S1 at x1 g1 d1;rw[g1,aF]
 have rd:∀(j d:Nat),(ls++[S.length])[j]?=ξ d->S1[d]?=ξ (.dZ (sD (cV SG (go j)))):=λj d h=>by
  by_cases hj:j<ls.length
  .rw[ah hj] at h
   erw[x1.get (r2 j d h)]
  .have:=(ag.mp h).1
   have ej:j=ls.length:=by simp at this;omega
   subst ej;have:S.length=d:=by simpa using h
   subst this;have:cV SG (go ls.length)= []:=by
    unfold cV;rw[List.filterMap_eq_nil_iff]
    intro c _;rw[r3 _ c (ar _)];rfl
   rw[this];erw[d1]
 refine gB _ (λi acc S'=>Ext S1 S'/\∃ms:List Nat,acc=ms.map .loc/\ms.length=i/\∀(j d:Nat),ms[j]?=ξ d->S'[d]?=ξ (SO.dZ (SG.map λc=>(.str [c],aW (gN ls.length go j c))))) (λi acc S' hi h9=>by let#[x,ms,e1,e2,_]:=h9;exact#[x.get g1,by rw[e1];simp at hi ⊢;omega]) (λi u acc S' k hu hi hk=>?_) (λacc S' hI=>?_) #[.refl,[],rfl,rfl,#v[]]
 .let#[x,ms,rfl,e2,inv]:=hi
  let#[d,hd,rfl]:=gg hu;rw[if_pos rfl]
  rwa[SW (x.get (rd i d hd)) λm S2 x2 g2=>hk _ _ #[x.trans x2,ms++[m],by rw[aI];rfl,by simp[e2],λj d hj=>?_]]
  by_cases hlt:j<ms.length
  .rw[ah hlt] at hj
   erw[x2.get (inv j d hj)]
  .have:=(ag.mp hj).1
   have ej:j=ms.length:=by simp at this;omega
   subst ej;have:m=d:=by simpa using hj
   rw[<-this,e2]
   erw[g2]
 .let#[x,ms,rfl,e2,inv]:=hI
  have e2:ms.length=ls.length+1:=by simpa using e2
  erw[q _ _ ms ((x1.trans x).trans (Ext.app _)) e2 #[#v[],λj d h=>(Ext.app _).get (inv j d h)]]
abbrev pk(b:List Nat)(g:Nat->Nat->Nat)(sg:List Nat)(N:Nat):List (Nat×List Nat):=(bC N).map λj=>(b.getD j 0,sg.map λc=>b.getD (g j c) 0)
def tI{b:List Nat}{j:Nat}{r:U->Prop}(h:j<b.length)(z:r (aW (b.getD j 0))):opt (sW (b.map aW) ((j:Nat):Int)) r:=by
 rw[kH,aB,ab h]
 rw[az,ab h] at z;erw[z]
def SX{Γ:cv}{S:bM}{nb nr ns m d:Nat}{b sg:List Nat}{f:Nat->Nat}{x4:U}{k:KU}(hb:S[nb]?=ξ (.lst (b.map aW)))(hs:S[ns]?=ξ (.lst (sg.map λc=>.str [c])))(hd:S[d]?=ξ (.dZ (SG.map λc=>(.str [c],aW (f c)))))(sl:sg.length<=95)(hg:∀c∈sg,c∈SG/\f c<b.length)
  (q:∀m S',Ext S S'->S'[m]?=ξ (.lst ((sg.map λc=>b.getD (f c) 0).map aW))->k (.loc m) S'):WE Γ ZI [ξ (.loc nb),ξ (.loc nr),ξ (.loc ns),ξ (.loc m),ξ x4,ξ (.loc d)] S k:=by
 unfold ZI;room;rw[hs,aF]
 rwa[jY (S:=S) _ ((sg.map λc=>b.getD (f c) 0).map aW) (#v[]) ((·)) (λS' x=>x.get hs) (λu S' k h=>h) (λj u v hu hv S2 k x' hk=>?_) λS2 x'=>?_]
 .let#[c,hc,rfl]:=gg hu
  rw[aB,aB,hc] at hv;have hv:aW (b.getD (f c) 0)=v:=by simpa using hv
  subst hv;let#[h1,h2]:=hg c (ai hc);rw[x'.get hd,kY,wb h1,bg]
  refine#[rfl,?_];show getL S2[nb]? _;rw[x'.get hb,aF]
  erw[tI h2 (hk S2 .refl)]
 .erw[q _ _ (x'.trans (Ext.app _)) (#v[])]
abbrev Pb:Spec:=λus S Q=>∃nb nr ns ls b sg g,us=[.loc nb,.loc nr,.loc ns]/\S[nb]?=ξ (.lst (b.map aW))/\Rw S nr ls g/\S[ns]?=ξ (.lst (sg.map λc=>.str [c]))/\ls.length<=9000/\b.length=ls.length/\sg.length<=95/\(∀c∈sg,c∈SG/\∀j,j<ls.length->g j c<ls.length) /\
 ∀m S',Ext S S'->S.length<=m->S'[m]?=ξ (.lst ((lM [] (pk b g sg ls.length)).map aW))->Q (.loc m) S'
def SY(Γ:cv)(h1:Γ "numbered"=KQ):Keeps Γ rP 3 Pb:=by
 rintro us S Q ⟨nb,nr,ns,ls,b,sg,g,rfl,hb,R,hs,hl,bl,sl,hg,q⟩;unfold rP;room;refine#[#v[],?_];room;have x0:Ext S (S++[SO.lst []]):=Ext.app _;rw[x0.get R.l,aF]
 rwa[fj (λi env S1=>∃(x4 x5:Option U),env=[ξ (.loc nb),ξ (.loc nr),ξ (.loc ns),ξ (.loc S.length),x4,x5]/\Ext S S1/\S1[S.length]?=ξ (.lst ((pk b g sg i).map KJ))/\i<=ls.length) (λi env S1 h9=>by let#[_,_,_,x,_]:=h9;erw[x.get R.l]) _ ?_ ?_ #[ψ,ψ,rfl,x0,by simp[pk],∅]]
 .rintro i u env S1 K hu ⟨x4,x5,rfl,x1,g1,il⟩ hK
  dsimp[fF,aB,pB] at hu;let#[d,hd,rfl]:=ak.mp hu;have hi:=(ag.mp hd).1;dsimp[cJ];room;rw[g1,x1.get hb]
  dsimp[aF];refine#[trivial,tI ∅ ?_];rwa[SX (x1.get hb) (x1.get hs) (x1.get (R.d i d hd)) sl (λc hc=>#[(hg c hc).1,by rw[bl];exact(hg c hc).2 i hi]) λm S2 x2 g2=>?_]
  room;rw[g2,aF]
  refine#[#v[],?_];rw[x2.get g1,aF]
  refine#[by simp[pk];omega,?_];room;have x12:=x1.trans x2;rwa[hK _ _ #[_,_,rfl,(x12.st ∅),?_,hi]];rw[gs (x2.get g1)]
  unfold pk;rw[List.range_succ,aI,aI]
  rfl
 .rintro env S1 ⟨x4,x5,rfl,x1,g1,il⟩
  rw[lN,ae] at g1;room;erw[ca h1 #[_,rfl,.inr #[_,_,rfl,g1,by simp[pk];omega,λm S2 x2 ml g2=>q m S2 (x1.trans x2) (aH x1.1 ml) g2]]]
abbrev Eqv(told:List (Option Nat))(g:Nat->Nat->Nat):Nat->Nat->Nat->Prop
 |0,i,j=>told[i]?=told[j]?
 |k+1,i,j=>Eqv told g k i j/\∀c∈SG,Eqv told g k (g i c) (g j c)
structure Hq(told:List (Option Nat))(g:Nat->Nat->Nat)(k:Nat)(b:List Nat):Prop where
 len:b.length=told.length
 fx:lM [] b=b
 iff:∀i j,i<told.length->j<told.length->(b.getD i 0=b.getD j 0↔Eqv told g k i j)
def gd{b:List Nat}{i:Nat}(h:i<b.length):b[i]?=ξ (b.getD i 0):=by
 rw[az,ab h];rfl
def KW{a b:List Nat}{i j:Nat}(hi:i<b.length)(hj:j<b.length):b.getD i 0=b.getD j 0↔b[i]?=b[j]?:=by
 rw[gd hi,gd hj];simp
def W3{told:List (Option Nat)}{g:Nat->Nat->Nat}:Hq told g 0 (lM [] told):=by
 refine#[me told [],EM told,λi j hi hj=>?_];rw[KW (a:=[]) (%[me|hi]) (%[me|hj]),uM (ab hi) (ab hj)]
 unfold Eqv;rw[ab hi,ab hj]
 simp
def Pc(h:i<N):(pk b g sg N)[i]?=ξ (b.getD i 0,sg.map λc=>b.getD (g i c) 0):=by
 unfold pk;rw[aB,eh h];rfl
def W4{told:List (Option Nat)}{g:Nat->Nat->Nat}{k:Nat}{b sg:List Nat}(h:Hq told g k b)(hc:∀j c,j<told.length->c∈SG->g j c<told.length)(h1:∀c∈sg,c∈SG)(h2:∀c∈SG,∃c'∈sg,∀j,j<told.length->g j c'=g j c):Hq told g (k+1) (lM [] (pk b g sg told.length)):=by
 have l1:(lM [] (pk b g sg told.length)).length=told.length:=by rw[me];simp[pk]
 refine#[l1,EM _,λi j hi hj=>?_];rw[KW (a:=[]) ∅ ∅,uM (Pc hi) (Pc hj),Prod.mk.injEq,h.iff i j hi hj]
 show _↔Eqv told g k i j/\∀c∈SG,Eqv told g k (g i c) (g j c)
 rwa[and_congr_right λ_=>?_]
 rw[tU]
 constructor
 .intro z c hcm
  let#[c',m',e']:=h2 c hcm;rw[<-e' i hi,<-e' j hj]
  exact(h.iff _ _ (hc i c' hi (h1 c' m')) (hc j c' hj (h1 c' m'))).mp (z c' m')
 .intro z c hcm
  exact(h.iff _ _ (hc i c hi (h1 c hcm)) (hc j c hj (h1 c hcm))).mpr (z c (h1 c hcm))
def EO{told:List (Option Nat)}{g:Nat->Nat->Nat}{k m:Nat}{b:List Nat}(h:Hq told g k b)(h1:m∈b)(h2:∀j∈b,j<=m):m+1=(sn [] b).length:=by
 have:=h.fx;rw[<-this] at h1 h2;erw[Oe h1 h2]
def S9{told:List (Option Nat)}{g:Nat->Nat->Nat}{k:Nat}{a b:List Nat}(ha:Hq told g (k+1) a)(hb:Hq told g k b):(sn [] b).length<=(sn [] a).length/\((sn [] b).length=(sn [] a).length->a=b):=by
 have h:∀(i j:Nat)(x y u v:Nat),a[i]?=ξ x->a[j]?=ξ y->b[i]?=ξ u->b[j]?=ξ v->x=y->u=v:=by
  intro i j x y u v e1 e2 e3 e4 e;have l1:=(ag.mp e1).1;have l2:=(ag.mp e2).1;have la:=ha.len;have lb:=hb.len;have z:=(ha.iff i j ∅ ∅).mp (by rw[az,az,e1,e2,e]);have:=(hb.iff i j ∅ ∅).mpr z.1;rw[az,az,e3,e4] at this;erw[this]
 have l:a.length=b.length:=by rw[ha.len,hb.len]
 refine#[Dq l h,λe=>?_];have:=EL l h e;rw[ha.fx,hb.fx] at this;erw[this]
def ER{S:bM}{n:Nat}{b:List Nat}{Q:KU}(h:S[n]?=ξ (.lst (b.map aW)))(b0:0<b.length)(q:∀m∈b,(∀j∈b,j<=m)->Q (aW m) S):qF .max [.loc n] S Q:=by
 cases b with
 |nil=>simp at b0
 |cons x b=>
  refine#[(x:Int),b.map λ(n:Nat)=>(n:Int),by rw[h];simp,λm hm hj=>?_];have e:((x:Int)::b.map λ(n:Nat)=>(n:Int))=(x::b).map λ(n:Nat)=>(n:Int):=rfl
  rw[e] at hm hj;let#[y,hy,rfl]:=bO.mp hm;rwa[q y hy λj m=>?_]
  have:=hj _ (bO.mpr #[j,m,rfl]);omega
def uP{α:Type}{l:List α}{x:α}:sW (l++[x]) (-1)=ξ x:=by
 unfold sW IJ;rw[if_neg ∅,if_pos ((·))]
 have:((-1:Int)+((l++[x]).length:Nat)).toNat=l.length:=by rw[aq];simp;omega
 rw[this];simp
structure KY(told:List (Option Nat))(g:Nat->Nat->Nat)(S:bM)(fs:List Nat):Prop where
 r:∀(k n:Nat),fs[k]?=ξ n->∃b,S[n]?=ξ (.lst (b.map aW))/\Hq told g k b
 ne:fs≠[]
 st:∀i j,i<told.length->j<told.length->Eqv told g (fs.length-1) i j->Eqv told g fs.length i j
 le:fs.length<=told.length+1
abbrev KZ:Spec:=λus S Q=>∃nr ls g told,us=[.tup (told.map uN),.loc nr]/\Rw S nr ls g/\told.length=ls.length/\0<ls.length/\ls.length<=9000/\(∀j c,j<told.length->c∈SG->g j c<told.length)/\∀F fs S',Ext S S'->S'[F]?=ξ (.lst (fs.map .loc))->KY told g S' fs->Q (.loc F) S'
structure W5(told:List (Option Nat))(g:Nat->Nat->Nat)(L:Nat)(S3:bM)(fs:List Nat)(m:Nat)(b:List Nat):Prop where
 f:S3[L]?=ξ (.lst ((fs++[m]).map .loc))
 v:S3[m]?=ξ (.lst (b.map aW))
 r:Hq told g fs.length b
 a:∀(k n:Nat),(fs++[m])[k]?=ξ n->n≠L/\∃b,S3[n]?=ξ (.lst (b.map aW))/\Hq told g k b
 l:fs.length<=(sn [] b).length/\(sn [] b).length<=told.length
def W5.push{told:List (Option Nat)}{g:Nat->Nat->Nat}{L m m':Nat}{S3 S4:bM}{fs b a':List Nat}(a:W5 told g L S3 fs m b)(x:Ext S3 S4)(ml:S3.length<=m')(g4:S4[m']?=ξ (.lst (a'.map aW)))(ra:Hq told g (fs.length+1) a')(lt:(sn [] b).length<(sn [] a').length):W5 told g L (S4.set L (.lst ((fs++[m]).map .loc++[.loc m']))) (fs++[m]) m' a':=by
 have ne:m'≠L:=cD (au (aS a.f) ml);have gs':∀n o,n≠L->S4[n]?=ξ o->(S4.set L (.lst ((fs++[m]).map .loc++[.loc m'])))[n]?=ξ o:=λn o ne e=>%[ao (cM ne)|e]
 have le:(fs++[m]).length=fs.length+1:=by simp
 have sl:=v9 a' [];refine#[by rw[gs (x.get a.f)];simp,gs' _ _ ne g4,%[le|ra],λk n e=>?_,%[le|ji a.l.1 lt],?_]
 .by_cases hk:k<(fs++[m]).length
  .rw[ah hk] at e
   let#[ne,b',e1,e2]:=a.a k n e;exact#[ne,b',gs' _ _ ne (x.get e1),e2]
  .have:=aS e
   rw[aq] at this;have ek:k=(fs++[m]).length:=Nat.le_antisymm (Nat.le_of_lt_succ this) (kh hk);subst ek;have:m'=n:=by simpa using e
   subst this;exact#[ne,a',gs' _ _ ne g4,%[le|ra]]
 .rw[ra.len] at sl;simpa using sl
def W6(Γ:cv)(h1:Γ "telling_signs"=Pa)(h2:Γ "numbered"=KQ)(h3:Γ "parted"=Pb):Keeps Γ rO 3 KZ:=by
 rintro us S Q ⟨nr,ls,g,told,rfl,R,tl,l0,hl,hg,q⟩;unfold rO;room;rwa[ca h1 #[nr,ls,g,rfl,R,hl,λns S1 sg x1 nsl g1 sl s1 s2=>?_]];rw[<-tl] at s2 hl l0;room;rwa[ca h2 #[_,rfl,.inl #[told,rfl,hl,λn0 S2 x2 nl2 g2=>#[#v[],?_]]]];have x12:=x1.trans x2;have gs2:=x2.get g1;room;have r0:Hq told g 0 (lM [] told):=W3;have sn0:=v9 (lM [] told) [];rw[me] at sn0;have I0:W5 told g S2.length (S2++[SO.lst [U.loc n0]]) [] n0 (lM [] told):=#[#v[],(Ext.app _).get g2,r0,λk n e=>?_,bJ _,~~~sn0]
 .refine#[told.length+1,nM (λN env S3=>∃(fs:List Nat)(m:Nat)(b:List Nat)(x4:Option U),N=told.length-(sn [] b).length/\env=[ξ (.tup (told.map uN)),ξ (.loc nr),ξ (.loc ns),ξ (.loc S2.length),x4]/\Ext S2 S3/\W5 told g S2.length S3 fs m b) ?_ _ (told.length-(sn [] (lM [] told)).length) _ _ (Nat.lt_succ_of_le (Nat.sub_le _ _)) #[[],n0,_,ψ,rfl,rfl,Ext.app _,I0]]
  rintro N env S3 K ⟨fs,m,b,x4,rfl,rfl,x3,I⟩ hK;let#[g3,gm,rb,inv,fl,snl]:=id I;room;rw[g3,aF,aI]
  rw[show [m].map U.loc=[.loc m] from rfl,uP,bg]
  refine ca h3 #[m,nr,ns,ls,b,sg,g,rfl,gm,R.ext (x12.trans x3),x3.get gs2,tl▸hl,by rw[rb.len,tl],sl,λc hc=>#[s1 c hc,λj hj=>by rw[<-tl] at hj ⊢;erw[hg j c hj (s1 c hc)]],λm' S4 x4 ml' g4=>?_];rw[<-tl] at g4;have ra:=W4 rb hg s1 s2;generalize lM [] (pk b g sg told.length)=a at g4 ra;let#[le,eqn]:=S9 ra rb;room;rwa[ER g4 (ra.len▸l0) λma h1a h2a=>?_]
  have ea:=EO ra h1a h2a;rw[x4.get g3,aF,aI,show [m].map U.loc=[.loc m] from rfl,uP,bg]
  rwa[ER (x4.get gm) (rb.len▸l0) λmb h1b h2b=>?_]
  have eb:=EO rb h1b h2b;room;by_cases z:ma=mb
  .have:((ma:Int)== (mb:Int))=ζ:=by rw[beq_iff_eq,z]
   dsimp[this,if_true];have e:=eqn (by rw[<-ea,<-eb,z]);subst e;room;rwa[q _ (fs++[m]) S4 ((x12.trans x3).trans x4) (x4.get g3) #[λk n e=>?_,#v[],λi j hi hj h=>?_,%[aq|n8 (aH fl snl)]]]
   .let#[_,b,e1,e2]:=inv k n e
    exact#[b,x4.get e1,e2]
   .rw[aq] at h ⊢
    exact(ra.iff i j hi hj).mp ((rb.iff i j hi hj).mpr h)
  .have:((ma:Int)== (mb:Int))=ϑ:=%[beq_eq_false_iff_ne|λy=>z (iL y)]
   dsimp[this,ax,if_false];room;rw[x4.get g3,aF]
   have lt:(sn [] b).length<(sn [] a).length:=HH le λy=>z (by rw[<-ea,<-eb] at y;exact(mT y).symm)
   have I4:=I.push x4 ml' g4 ra lt;refine#[trivial,by rw[ae,aq];exact ji (n8 (aH fl (aH snl hl))) ⋯,?_];try room
   have x34:=x3.trans x4;erw[hK (told.length-(sn [] a).length) _ _ (Nat.sub_lt_sub_left (au lt I4.l.2) lt) #[fs++[m],m',a,_,rfl,rfl,#[by rw[b9];exact x34.1,λn hn=>by rw[ao (cD hn)];exact x34.2 n hn],I4]]
 .have:=aS e
  have ek:k=0:=by simp at this;erw[this]
  subst ek;have:n0=n:=by simpa using e
  subst this;exact#[aV (aS g2),_,(Ext.app _).get g2,r0]
abbrev Of(k:Nat)(told:List (Option Nat))(R:Nat):SO:=.ins "Table" [("takes",.loc k),("told",.tup (told.map uN)),("rows",.loc R)]
structure K0(S:bM)(T:Nat)(told:List (Option Nat))(ls:List Nat)(go:Nat->Nat->Option Nat):Prop where
 o:∃k R,S[T]?=ξ (Of k told R)/\S[k]?=ξ (.lst (told.map uN))/\Rp S R ls go
 ll:ls.length=told.length
 sz:told.length<=4000
 cl:∀j c k,c∈SG->go j c=ξ k->k<told.length
def K0.ext(h:K0 S T told ls go)(x:Ext S S'):K0 S' T told ls go:=by
 let#[k,R,h1,h2,h3]:=h.o;exact#[#[k,R,x.get h1,x.get h2,h3.ext x],h.ll,h.sz,h.cl]
abbrev Og:Spec:=λus S Q=>∃T a R told,us=[.loc T,.loc a,.loc R]/\S[T]?=ξ (.ins "Table" [])/\S[a]?=ξ (.lst (told.map uN))/\∀k S',Old T S S'->S'[T]?=ξ (Of k told R)->S'[k]?=ξ (.lst (told.map uN))->Q .cf S'
def W7(Γ:cv):Keeps Γ kO 0 Og:=by
 rintro us S Q ⟨T,a,R,told,rfl,hT,ha,q⟩;unfold kO;have ne:a≠T:=λz=>by rw[z,hT] at ha;cases ha
 room;rw[ha,aF]
 have x1:Ext S (S++[SO.lst (told.map uN)]):=Ext.app _;have g1:(S++[SO.lst (told.map uN)])[S.length]?=ξ (.lst (told.map uN)):=by simp
 have n1:S.length≠T:=cD (aS hT);generalize S.length=k at g1 n1;generalize S++[SO.lst (told.map uN)]=S1 at x1 g1;rwa[GD (x1.get hT) (#v[]) λS2 o2 l2 g2=>?_]
 room;rw[oo o2 (x1.get ha) ne,aF]
 rwa[GD g2 (by simp[iz]) λS3 o3 l3 g3=>?_]
 room;rwa[GD g3 (by simp[iz]) λS4 o4 l4 g4=>?_]
 room;erw[q k S4 (((Ext.old x1).trans o2).trans (o3.trans o4)) g4 (oo o4 (oo o3 (oo o2 g1 n1) n1) n1)]
def GK(h:S[T]?=ξ (Of k told R)):oX (.loc T) "rows" S r=r (.loc R):=by rw[i8,h];rfl
def Ds(h:S[T]?=ξ (Of k told R)):oX (.loc T) "told" S r=r (.tup (told.map uN)):=by rw[i8,h];rfl
def at_of{α:Type}{f:α->U}{l:List α}{j:Nat}{a:α}{r:U->Prop}(h:l[j]?=ξ a)(z:r (f a)):opt (sW (l.map f) ((j:Nat):Int)) r:=by
 rw[kH,aB,h];erw[z]
abbrev Hh(go:Nat->Nat->Option Nat)(x:List Nat):Option Nat:=x.foldl (λs c=>s.bind λj=>go j c) (ξ 0)
abbrev fst(told:List (Option Nat))(go:Nat->Nat->Option Nat)(x:List Nat):Option Nat:=(Hh go x).bind λj=>told.getD j ψ
def ES{S S':bM}{o:SO}(h:Old S.length (S++[o]) S'):Ext S S':=by
 have l:=h.1;rw[aq] at l;exact#[aH (n9 _ _) l,λn hn=>by rw[h.2 n (%[aq|au hn (n9 _ _)]) (aV hn),ah hn]]
section
variable{tk:Nat->Nat}{Ls G:List Nat}{r h c:Nat}
abbrev gz(tk:Nat->Nat)(Ls:List Nat)(r c:Nat):Option Nat:=if r&&&tk c=0 then ψ else ξ (Ls.idxOf (r&&&tk c))
def Ta(z:r&&&tk c=0\/r&&&tk c∈Ls):gz tk (Ls++[h]) r c=gz tk Ls r c:=by
 unfold gz;rcases z with z|z
 .rw[if_pos z,if_pos z]
 .rw[nO z]
def BC(z:∀c∈G,r&&&tk c=0\/r&&&tk c∈Ls):cV G (gz tk (Ls++[h]) r)=cV G (gz tk Ls r):=by
 unfold cV;induction G with
 |nil=>rfl
 |cons x G ih=>rw[bu,bu,Ta (z x (aN ..)),ih λc m=>z c (av _ m)]
def Oh(e:f c=ψ):cV (G++[c]) f=cV G f:=by
 unfold cV;rw[Cg];simp[e]
def Oi(e:f c=ξ k):sD (cV (G++[c]) f)=sD (cV G f)++[(.str [c],aW k)]:=by
 unfold cV sD;rw[Cg,aI];simp[e]
abbrev nz(Ls:List Nat):List (U×U):=(dz Ls 0).map λp=>(aW p.1,p.2)
def Tc:(nz Ls).length=Ls.length:=by unfold nz;rw[ae,zB]
def Td:nz (Ls++[h])=nz Ls++[(aW h,aW Ls.length)]:=by unfold nz;rw[KG,aI,lI];rfl
def zE:uC (aW h) (nz Ls)=if h∈Ls then ξ (aW (Ls.idxOf h)) else ψ:=by
 have e:nz Ls=((dz Ls 0).map λp=>(ξ p.1,p.2)).map λp=>(uN p.1,p.2):=by unfold nz;rw[bB];rfl
 have:=KH (ξ h) ((dz Ls 0).map λp=>(ξ p.1,p.2));rw[e,show aW h=uN (ξ h) from rfl,this,KC ξ (λ_ _=>aK),zC,lI]
end
structure BD(S S1:bM)(tk:Nat->Nat)(Ls rs ds:List Nat):Prop where
 x:Ext S S1
 l:S1[S.length]?=ξ (.lst (Ls.map aW))
 n:S1[S.length+1]?=ξ (.dZ (nz Ls))
 r:S1[S.length+2]?=ξ (.lst (ds.map .loc))
 d:∀(j d r:Nat),ds[j]?=ξ d->rs[j]?=ξ r->S.length+3<=d/\S1[d]?=ξ (.dZ (sD (cV SG (gz tk Ls r))))
 m:∀r∈rs,∀c∈SG,r&&&tk c=0\/r&&&tk c∈Ls
 nd:Ls.Nodup
def BD.set(h:BD S S1 tk Ls rs ds)(hd:S.length+3<=d0)(hn:∀(j r:Nat),rs[j]?=ξ r->ds[j]?≠ξ d0):BD S (S1.set d0 o) tk Ls rs ds:=by
 have e:∀(n:Nat)(o':SO),n≠d0->S1[n]?=ξ o'->(S1.set d0 o)[n]?=ξ o':=λn o' ne g=>%[ao (cM ne)|g]
 exact#[#[%[b9|h.x.1],λn hn=>%[ao ∅|h.x.2 n hn]],e _ _ ∅ h.l,e _ _ ∅ h.n,e _ _ ∅ h.r,λj d r h1 h2=>#[(h.d j d r h1 h2).1,e _ _ (λz=>hn j r h2 (z▸h1)) (h.d j d r h1 h2).2],h.m,h.nd]
def BD.ext(h:BD S S1 tk Ls rs ds)(x:Ext S1 S2):BD S S2 tk Ls rs ds:=
 #[h.x.trans x,x.get h.l,x.get h.n,x.get h.r,λj d r h1 h2=>#[(h.d j d r h1 h2).1,x.get (h.d j d r h1 h2).2],h.m,h.nd]
def BD.more(a:BD S S1 tk Ls rs ds)(hn:h∉Ls):BD S ((S1.set (S.length+1) (.dZ (nz Ls++[(aW h,aW Ls.length)]))).set S.length (.lst (Ls.map aW++[aW h]))) tk (Ls++[h]) rs ds:=by
 have e:∀(n:Nat)(o o1 o2:SO),n≠S.length->n≠S.length+1->S1[n]?=ξ o->((S1.set (S.length+1) o1).set S.length o2)[n]?=ξ o:=λn o o1 o2 n1 n2 g=>%[ao (cM n1),ao (cM n2)|g]
 have l1:=aS a.n;refine#[#[%[b9,b9|a.x.1],λn hn=>%[ao ∅,ao ∅|a.x.2 n hn]],?_,?_,e _ _ _ _ ∅ ∅ a.r,λj d r h1 h2=>?_,λr m c hc=>?_,?_]
 .rw[bA (by rw[b9];omega)];simp
 .rw[ao ∅,bA l1,Td]
 .let#[z1,z2]:=a.d j d r h1 h2
  exact#[z1,%[BC (a.m r (ai h2))|e _ _ _ _ ∅ ∅ z2]]
 .rcases a.m r m c hc with z|z
  .erw[.inl z]
  .erw[.inr (by simp[z])]
 .rw[fE]
  exact#[a.nd,#v[],λx hx y hy=>%[bI.mp hy|λz=>hn (z▸hx)]]
def zF:SG.Nodup:=⋯
def W8(Γ:cv)(pa:Kl S P bh en tk)(I:BD S S1 tk Ls rs ds)(g0:S1[d0]?=ξ (.dZ (sD (cV (SG.take m) (gz tk Ls r)))))(hd0:S.length+3<=d0)(hds:∀(j r:Nat),rs[j]?=ξ r->ds[j]?≠ξ d0)(hc:SG[m]?=ξ c)(hm:∀c∈SG.take m,r&&&tk c=0\/r&&&tk c∈Ls)(lt:Ls.length<=4000)
  (q:∀Ls' S2,BD S S2 tk Ls' rs ds->S2[d0]?=ξ (.dZ (sD (cV (SG.take (m+1)) (gz tk Ls' r))))->(∀c∈SG.take (m+1),r&&&tk c=0\/r&&&tk c∈Ls')->(Ls'=Ls\/(r&&&tk c≠0/\Ls'=Ls++[r&&&tk c]))->K [ξ (.loc P),ξ (.loc S.length),ξ (.loc (S.length+1)),ξ (.loc (S.length+2)),ξ (aW r),ξ (.loc d0),ξ (.str [c]),ξ (aW (r&&&tk c))] S2):
  Rest Γ ZC #[K,Q] [ξ (.loc P),ξ (.loc S.length),ξ (.loc (S.length+1)),ξ (.loc (S.length+2)),ξ (aW r),ξ (.loc d0),ξ (.str [c]),x7] S1:=by
 let#[b,e,k,oP,_,_,gk]:=(pa.ext I.x).o;have fk:∀{R},oX (.loc P) "takers" S1 R=R (.loc k):=by intro R;rw[i8,oP];rfl
 have cm:=ai hc;have et:=Kg hc;have nm:c∉SG.take m:=λz=>by
  let#[i,hi]:=bR z;have il:=(ag.mp hi).1;rw[cH] at il;rw[zT ∅] at hi;have:=(List.getElem?_inj ∅ zF).mp (hi.trans hc.symm);omega
 rw[et] at q;have rl:(sD (cV (SG.take m) (gz tk Ls r))).length<1000000:=by
  have:(cV (SG.take m) (gz tk Ls r)).length<=(SG.take m).length:=List.length_filterMap_le ..;rw[cH] at this;have gl:SG.length=95:=rfl;unfold sD;rw[ae];omega
 have dn:∀f:Nat->Option Nat,uC (.str [c]) (sD (cV (SG.take m) f))=ψ:=λf=>by rw[EN,wd,if_neg nm]
 unfold ZC;room;rw[fk]
 room;rw[gk,kY,wb cm,bg]
 refine#[rfl,?_];rw[uE]
 generalize hh:r&&&tk c=h at *;have go2:∀(Ls':List Nat)(S2:bM),BD S S2 tk Ls' rs ds->S2[d0]?=ξ (.dZ (sD (cV (SG.take m) (gz tk Ls' r))))->sD (cV (SG.take m) (gz tk Ls' r))=sD (cV (SG.take m) (gz tk Ls r))->(∀c∈SG.take m,r&&&tk c=0\/r&&&tk c∈Ls')->(Ls'=Ls\/Ls'=Ls++[h])->h≠0->h∈Ls'->Rest Γ X9 #[K,Q] [ξ (.loc P),ξ (.loc S.length),ξ (.loc (S.length+1)),ξ (.loc (S.length+2)),ξ (aW r),ξ (.loc d0),ξ (.str [c]),ξ (aW h)] S2:=by
  intro Ls' S2 I2 g2 e2 m2 l2 h0 hl;have:((h:Int)== 0)=ϑ:=by rw[beq_eq_false_iff_ne];omega
  unfold X9;room;dsimp[this,cz,if_true];room;rw[I2.n,kY,zE,if_pos hl,bg]
  refine#[rfl,?_];rw[g2,getD_some]
  refine#[#[rfl,dn _,%[e2|rl]],?_];room;rwa[q Ls' _ (I2.set hd0 hds) ?_ (λc' hc'=>?_) (l2.imp id λe=>#[h0,e])]
  .rw[gs g2,Oi (k:=Ls'.idxOf h) (by unfold gz;rw[hh,if_neg h0])]
  .rcases aL.mp hc' with z|z
   .erw[m2 c' z]
   .have:c'=c:=by simpa using z
    subst this;erw[.inr (by rw[hh];exact hl)]
 room;by_cases z:h=0
 .subst z
  have z0:(((0:Nat):Int)== 0)=ζ:=rfl;dsimp[z0,bX,ax,if_false];unfold X9;room;rwa[q Ls _ I (by rw[Oh (by unfold gz;rw[hh,if_pos rfl])];erw[g0]) (λc' hc'=>?_) (.inl rfl)];rcases aL.mp hc' with z|z
  .erw[hm c' z]
  .have:c'=c:=by simpa using z
   subst this;erw[.inl hh]
 .have z':((h:Int)== 0)=ϑ:=by rw[beq_eq_false_iff_ne];omega
  dsimp[z',cz,if_true];rw[I.n,kY,zE]
  refine#[rfl,?_];by_cases y:h∈Ls
  .rw[if_pos y]
   dsimp[Option.isNone_some,ax,if_false];erw[Rest.go (go2 Ls S1 I g0 rfl hm (.inl rfl) z y)]
  .rw[if_neg y]
   dsimp[Option.isNone_none,if_true];room;rw[lS I.l,bg,ae]
   refine#[∅,?_];rw[I.n,getD_some]
   refine#[#[rfl,by rw[zE,if_neg y],by rw[Tc];omega],?_];have l1:(S1.set (S.length+1) (.dZ (nz Ls++[(aW h,aW Ls.length)])))[S.length]?=ξ (.lst (Ls.map aW)):=%[ao ∅|I.l]
   room;rw[l1,aF]
   refine#[trivial,(·),?_];have eq:=BC (h:=h) hm;rwa[Rest.go (go2 (Ls++[h]) _ (I.more y) ?_ (by rw[eq]) (λc' m'=>(hm c' m').imp id λz=>by simp[z]) (.inr rfl) z (#v[]))];rw[eq,ao ∅,ao ∅]
   erw[g0]
def BD.push{S S1:bM}{tk:Nat->Nat}{Ls rs ds:List Nat}{d0 r:Nat}(a:BD S S1 tk Ls rs ds)(g0:S1[d0]?=ξ (.dZ (sD (cV SG (gz tk Ls r)))))(hd:S.length+3<=d0)(hm:∀c∈SG,r&&&tk c=0\/r&&&tk c∈Ls)(hl:ds.length=rs.length):BD S (S1.set (S.length+2) (.lst (ds.map .loc++[.loc d0]))) tk Ls (rs++[r]) (ds++[d0]):=by
 have e:∀(n:Nat)(o o':SO),n≠S.length+2->S1[n]?=ξ o'->(S1.set (S.length+2) o)[n]?=ξ o':=λn o o' ne g=>%[ao (cM ne)|g]
 refine#[#[%[b9|a.x.1],λn hn=>%[ao ∅|a.x.2 n hn]],e _ _ _ ∅ a.l,e _ _ _ ∅ a.n,by rw[gs a.r];simp,λj d r' h1 h2=>?_,λr' m=>?_,a.nd]
 .by_cases hj:j<ds.length
  .rw[ah hj] at h1
   rw[ah ∅] at h2;let#[z1,z2]:=a.d j d r' h1 h2;exact#[z1,e _ _ _ ∅ z2]
  .have:=(ag.mp h1).1
   have ej:j=ds.length:=by simp at this;omega
   subst ej;have e1:d0=d:=by simpa using h1
   have e2:r=r':=by rw[hl] at h2;simpa using h2
   subst e1;subst e2;exact#[hd,e _ _ _ ∅ g0]
 .rcases aL.mp m with m|m
  .erw[a.m r' m]
  .have:r'=r:=by simpa using m
   subst this;erw[hm]
abbrev wV(tk:Nat->Nat)(Ls rs:List Nat)(j c:Nat):Option Nat:=(rs[j]?).bind λr=>gz tk Ls r c
def we(h:rs[j]?=ξ r):wV tk Ls rs j=gz tk Ls r:=by
 funext c;unfold wV;rw[h];rfl
structure Uj(bh en:List Nat)(tk:Nat->Nat)(lots rs:List Nat)(told:List (Option Nat)):Prop where
 z:lots[0]?=ξ 1
 t:∀(j h:Nat),lots[j]?=ξ h->∃o,told[j]?=ξ o/\Yk h en o
 len:told.length=lots.length
 b:∀(j h:Nat),lots[j]?=ξ h->∃r,rs[j]?=ξ r/\Sz bh h r
 m:∀r∈rs,∀c∈SG,r&&&tk c=0\/r&&&tk c∈lots
 rl:rs.length<=lots.length
structure DC(bh:List Nat)(D:Nat->Prop):Prop where
 l:bh.length<=11
 c:∀(q B p:Nat),D q->bh[q]?=ξ B->B.testBit p=ζ->D p
 b:∀p,D p->p<bh.length
abbrev Uk(i c i' c':Nat):Prop:=i<i'\/(i=i'/\SG.idxOf c<SG.idxOf c')
def ET(h:¬Uk i c i' c'):i'<i\/(i'=i/\SG.idxOf c'<=SG.idxOf c):=by
 unfold Uk at h;omega
structure RcS(tk:Nat->Nat)(D:Nat->Prop)(lots rs:List Nat):Prop where
 p:∀j,0<j->j<lots.length->∃i r c,i<j/\rs[i]?=ξ r/\c∈SG/\lots[j]?=ξ (r&&&tk c)/\r&&&tk c≠0/\wV tk lots rs i c=ξ j/\∀i' c' k,c'∈SG->wV tk lots rs i' c'=ξ k->j<k->Uk i c i' c'
 d:∀h∈lots,∀p,h.testBit p=ζ->D p
abbrev Tf:Spec:=λus S Q=>∃P bh en tk,∃D:Nat->Prop,us=[.loc P]/\Kl S P bh en tk/\DC bh D/\D 0 /\
 ∀T told ls lots rs S',K0 S' T told ls (wV tk lots rs)->(∀d∈ls,S.length<=d)->Ext S S'->Uj bh en tk lots rs told->RcS tk D lots rs->Q (.loc T) S'
def nP{α:Type}{l:List α}{x y:α}{k:Nat}(h:(l++[x])[k]?=ξ y):l[k]?=ξ y\/(k=l.length/\x=y):=by
 by_cases z:k<l.length
 .rw[ah z] at h;erw[.inl h]
 .have:=aS h
  have e:k=l.length:=by simp at this;omega
  subst e;exact .inr #[rfl,~~~h]
structure W9(S S1:bM)(tk:Nat->Nat)(bh:List Nat)(D:Nat->Prop)(Ls rs ds:List Nat):Prop where
 s:BD S S1 tk Ls rs ds
 dl:ds.length=rs.length
 le:ds.length<=Ls.length
 z:Ls[0]?=ξ 1
 d:∀h∈Ls,∀p,h.testBit p=ζ->D p
 b:∀(j r:Nat),rs[j]?=ξ r->∃h,Ls[j]?=ξ h/\Sz bh h r
 p:∀(j h:Nat),0<j->Ls[j]?=ξ h->∃i r c,i<j/\rs[i]?=ξ r/\c∈SG/\h=r&&&tk c/\h≠0/\∀i' r' c',rs[i']?=ξ r'->c'∈SG->¬Uk i c i' c'->r'&&&tk c'=0\/r'&&&tk c'∈Ls.take (j+1)
def sr{bh L:List Nat}{D:Nat->Prop}(C:DC bh D)(nd:L.Nodup)(hL:∀h∈L,∀p,h.testBit p=ζ->D p):L.length<=2048:=by
 have:=Ku (l':=bC 2048) nd λx hx=>jA.mpr (au (jK λp hp=>C.b p (hL x hx p hp)) (show 2^bh.length<=2048 from bx (n:=2) (j:=11) ⋯ C.l))
 simpa using this
def Th(Γ:cv)(h1:Γ "Places.beyond"=Kn){S S1:bM}{P:Nat}{bh en Ls rs ds:List Nat}{tk:Nat->Nat}{D:Nat->Prop}{x4 x5 x6 x7:Option U}{K:Env->bM->Prop}{Q:KU}(pa:Kl S P bh en tk)(C:DC bh D)(J:W9 S S1 tk bh D Ls rs ds)(dl:ds.length<Ls.length)
  (q:∀Ls rs ds' S2 x4 x5 x6 x7,W9 S S2 tk bh D Ls rs ds'->ds'.length=ds.length+1->K [ξ (.loc P),ξ (.loc S.length),ξ (.loc (S.length+1)),ξ (.loc (S.length+2)),x4,x5,x6,x7] S2):
  Rest Γ ZD #[K,Q] [ξ (.loc P),ξ (.loc S.length),ξ (.loc (S.length+1)),ξ (.loc (S.length+2)),x4,x5,x6,x7] S1:=by
 let#[I,hl,hle,hz,hD,hb,hp]:=J;have hh:=ab dl;generalize Ls[ds.length]=h at hh;have lb:=sr C I.nd hD;let#[b,e,k,oP,_]:=(pa.ext I.x).o;unfold ZD;room;rw[oP,b7,I.l,lS I.r]
 dsimp[bg,aF,ae];refine#[#[trivial,rfl],∅,at_of hh ?_];refine ca h1 #[P,bh,en,tk,h,rfl,pa.ext I.x,aH C.l ⋯,λp hp=>C.b p (hD h (ai hh) p hp),λr S2 hr x2=>?_];have Dr:∀p,r.testBit p=ζ->D p:=λp hp=>by
  let#[q,B,z1,z2,z3]:=(hr p).mp hp;erw[C.c q B p (hD h (ai hh) q z1) z2 z3]
 room;rw[vA]
 refine#[⋯,.inl ?_];have I3:=I.ext (x2.trans (Ext.app [SO.dZ []]));have g3:(S2++[SO.dZ []])[S2.length]?=ξ (.dZ (sD (cV (SG.take 0) (gz tk Ls r)))):=by simp;rfl
 have d3:S.length+3<=S2.length:=by have:=aS I.r;have:=x2.1;omega
 have n3:∀(j r:Nat),rs[j]?=ξ r->ds[j]?≠ξ S2.length:=λj r hj z=>by
  have:=aS (I.d j _ r z hj).2;have:=x2.1;omega
 generalize S2.length=d0 at g3 d3 n3;generalize S2++[SO.dZ []]=S3 at I3 g3;have sgl:SG.length=95:=rfl;have sit:∀(i:Nat)(u:U),(SG.map λc=>U.str [c])[i]?=ξ u->∃c,SG[i]?=ξ c/\u=.str [c]:=λi u hu=>by
  let#[c,hc,rfl]:=gg hu;exact#[c,hc,rfl]
 have sl:(SG.map λc=>U.str [c]).length=95:=rfl;rwa[Rest.go ?_];rw[sZ,VC,VA,w_lit,v_s]
 generalize hM:(SG.map λc=>U.str [c])=M at sit sl;rwa[fj (λm env S4=>∃(Ls':List Nat)(x6 x7:Option U),env=[ξ (.loc P),ξ (.loc S.length),ξ (.loc (S.length+1)),ξ (.loc (S.length+2)),ξ (aW r),ξ (.loc d0),x6,x7]/\BD S S4 tk Ls' rs ds/\S4[d0]?=ξ (.dZ (sD (cV (SG.take m) (gz tk Ls' r))))/\(∀c∈SG.take m,r&&&tk c=0\/r&&&tk c∈Ls')/\(∃s,Ls'=Ls++s/\∀(k h:Nat),s[k]?=ξ h->∃m' c,SG[m']?=ξ c/\h=r&&&tk c/\h≠0/\∀c'∈SG.take (m'+1),r&&&tk c'=0\/r&&&tk c'∈Ls++s.take (k+1))/\∀h∈Ls',∀p,h.testBit p=ζ->D p) (λ_ _ _ _=>trivial) M ?_ ?_ #[Ls,x6,x7,rfl,I3,g3,#v[],#[[],#v[],λk h m=>nomatch m],hD]]
 .rintro m u env S4 K' hu ⟨Ls',x6,x7,rfl,I4,g4,m4,⟨s,es,ps⟩,D4⟩ hK
  let#[c,hc,rfl]:=sit m u hu;rwa[W8 Γ pa I4 g4 d3 n3 hc m4 (aH (sr C I4.nd D4) ⋯) λLs2 S5 I5 g5 m5 l5=>hK _ _ #[Ls2,_,_,rfl,I5,g5,m5,?_,?_]]
  .rcases l5 with rfl|⟨nz,rfl⟩
   .exact#[s,es,ps]
   .refine#[s++[_],by rw[es,bw],λk h' m'=>?_]
    rcases nP m' with m'|⟨rfl,rfl⟩
    .let#[m1,c1,e1,e2,e3,e4]:=ps k h' m'
     exact#[m1,c1,e1,e2,e3,%[u5 (aS m')|e4]]
    .refine#[m,c,hc,rfl,nz,?_]
     rw[show(s++[r&&&tk c]).take (s.length+1)=s++[r&&&tk c] from eI (#v[]),<-bw,<-es];erw[m5]
  .rcases l5 with rfl|⟨nz,rfl⟩
   .erw[D4]
   .intro h' m' p hp
    rcases aL.mp m' with m'|m'
    .erw[D4 h' m' p hp]
    .have:h'=r&&&tk c:=by simpa using m'
     subst this;rw[bP,aj] at hp;erw[Dr p hp.1]
 .rintro env S4 ⟨Ls',x6,x7,rfl,I4,g4,m4,hs,D4⟩
  have et:SG.take M.length=SG:=by rw[sl];rfl
  rw[et] at g4 m4;room;rw[I4.r,aF]
  dsimp[true_and];refine#[(·),?_];try room
  let#[s,es,ps]:=hs;rwa[q Ls' _ _ _ _ _ _ _ #[I4.push g4 d3 m4 hl,by simp[hl],%[es,aq,aq|aH dl (n9 _ _)],%[es,ah (ji (bJ _) dl)|hz],D4,λj r' hj=>?_,λj h' j0 hj=>?_] (#v[])]
  .rcases nP hj with hj|⟨rfl,rfl⟩
   .let#[h,e1,e2]:=hb j r' hj
    exact#[h,%[es,ah (aS e1)|e1],e2]
   .exact#[h,by rw[es,<-hl,ah dl];erw[hh],hr]
  .rw[es] at hj
   by_cases z:j<Ls.length
   .rw[ah z] at hj
    let#[i,r',c,e1,e2,e3,e4,e5,e6]:=hp j h' j0 hj;refine#[i,r',c,e1,by rw[ah (aS e2)];exact e2,e3,e4,e5,λi1 r1 c1 f1 f2 f3=>?_];have:=aS e2;rw[ah (by rcases ET f3 with y|y<;>omega)] at f1;rw[es,u5 z]
    erw[e6 i1 r1 c1 f1 f2 f3]
   .rw[ay (kh z)] at hj
    let#[m',c,cm,e1,e2,e3]:=ps _ h' hj;refine#[rs.length,r,c,∅,#v[],ai cm,e1,e2,λi1 r1 c1 f1 f2 f3=>?_];rw[es,List.take_append,eI ∅,show j+1-Ls.length=j-Ls.length+1 by omega]
    rcases nP f1 with f1|⟨rfl,rfl⟩
    .exact(I.m r1 (ai f1) c1 f2).imp id (bj _)
    .rwa[e3 c1 (List.mem_take_iff_getElem.mpr ?_)]
     rcases ET f3 with y|⟨_,y⟩
     .erw[absurd y (dj _)]
     .have l1:=bE f2
      have l2:=aS cm;have:SG.idxOf c=m':=by rw[<-(ag.mp cm).2];erw[zF.idxOf_getElem _ l2]
      exact#[SG.idxOf c1,∅,dH l1]
def Ti(Γ:cv)(h2:Γ "Places.first_rule"=Ko)(h3:Γ "Table.__init__"=Og)(pa:Kl S P bh en tk)(C:DC bh D)(J:W9 S S1 tk bh D Ls rs ds)(el:Ls.length<=ds.length)
  (q:∀T told ls lots rs S',K0 S' T told ls (wV tk lots rs)->(∀d∈ls,S.length<=d)->Ext S S'->Uj bh en tk lots rs told->RcS tk D lots rs->F.rt (.loc T) S'):
  Rest Γ ZE F [ξ (.loc P),ξ (.loc S.length),ξ (.loc (S.length+1)),ξ (.loc (S.length+2)),x4,x5,x6,x7] S1:=by
 let#[I,hl,hle,hz,hD,inv,hp]:=J;have lb:=sr C I.nd hD;have pa1:=pa.ext I.x;let#[b,e,k,oP,_]:=pa1.o;have rat:∀{j:Nat},j<Ls.length->rs[j]?=ξ (rs.getD j 0):=λ{j}h=>by rw[az,ab (hl▸au h el)];rfl
 unfold ZE;room;rw[I.l,aF]
 rwa[gB (Ls.map aW) (λi acc S2=>S2=S1/\∃told:List (Option Nat),acc=told.map uN/\told.length=i/\∀(j h:Nat),j<i->Ls[j]?=ξ h->∃o,told[j]?=ξ o/\Yk h en o) (λi acc S2 hi h9=>?_) (λi u acc S2 k hu hi hk=>?_) (λacc S2 hI=>?_) #[rfl,[],rfl,rfl,λj h hj=>absurd hj (dq j)]]
 .let#[x,told,e1,e2,_]:=h9
  rw[ae] at hi;exact#[x▸I.l,by rw[e1,ae];omega]
 .let#[rfl,told,rfl,e2,inv2]:=hi
  let#[h,hh,rfl]:=gg hu;rw[if_pos rfl,oP,b7]
  refine#[#[rfl,rfl],ca h2 #[P,bh,en,tk,h,rfl,pa1,λo ho=>hk _ _ #[rfl,told++[o],#v[],by simp[e2],λj h' hj hh'=>?_]]];rcases jb.mp hj with y|y
  .let#[o',z1,z2]:=inv2 j h' y hh'
   exact#[o',%[ah (e2▸y)|z1],z2]
  .subst y
   rw[hh] at hh';cases hh';exact#[o,by rw[<-e2];simp,ho]
 .let#[rfl,told,rfl,e2,inv2]:=hI
  rw[ae] at e2 inv2;have x3:Ext S2 (S2++[SO.lst (told.map uN)]):=Ext.app _;have g3:(S2++[SO.lst (told.map uN)])[S2.length]?=ξ (.lst (told.map uN)):=by simp
  have I3:=I.ext x3;generalize S2.length=a at g3;generalize S2++[SO.lst (told.map uN)]=S3 at I3 g3;rwa[ca h3 #[S3.length,a,_,told,rfl,eL,(Ext.app _).get g3,λk' S4 o4 gT gk=>#[rfl,?_]]];have y4:Ext S3 S4:=ES o4;rwa[q _ told ds Ls rs S4 #[#[k',_,gT,gk,y4.get I3.r,λj d hj=>?_,λj c hj=>?_],∅,∅,λj c k hc e=>?_] (λd m=>?_) (I3.x.trans y4) #[hz,λj h hj=>inv2 j h (aS hj) hj,e2,λj h hj=>?_,I.m,hl▸hle] #[λj j0 jl=>?_,hD]]
  .have hr:=rat (au (aS hj) hle)
   rw[we hr]
   erw[y4.get (I3.d j d _ hj hr).2]
  .unfold wV;rw[cL (hl▸hj)];rfl
  .unfold wV at e
   let#[r,hr,e]:=aA.mp e;unfold gz at e;split at e
   .cases e
   .rename_i z
    cases e;rw[e2]
    erw[bE ((I.m r (ai hr) c hc).resolve_left z)]
  .let#[j,hj]:=bR m
   erw[aH (n9 _ 3) (I.d j d _ hj (rat (au (aS hj) hle))).1]
  .have hr:=rat (aS hj)
   let#[h',e1,e2]:=inv j _ hr;rw[hj] at e1;cases e1;exact#[_,hr,e2]
  .have hj:=ab jl
   let#[i,r,c,z1,z2,z3,z4,z5,z6]:=hp j _ j0 hj;rw[z4] at hj z5;refine#[i,r,c,z1,z2,z3,hj,z5,?_,λi' c' k f1 f2 f3=>eS λf4=>?_]
   .rw[we z2]
    unfold gz;rw[if_neg z5,<-(ag.mp hj).2,List.Nodup.idxOf_getElem I.nd]
   .let#[r',hr,e]:=aA.mp f2
    unfold gz at e;split at e
    .cases e
    .rename_i z
     cases e;have:=bE ((z6 i' r' c' hr f1 f4).resolve_left z);have ep:=nO (b:=Ls.drop (j+1)) ((z6 i' r' c' hr f1 f4).resolve_left z);rw[Ce] at ep;rw[cH] at this;omega
def Xa(Γ:cv)(h1:Γ "Places.beyond"=Kn)(h2:Γ "Places.first_rule"=Ko)(h3:Γ "Table.__init__"=Og):Keeps Γ rN 7 Tf:=by
 rintro us S Q ⟨P,bh,en,tk,D,rfl,pa,C,D0,q⟩;unfold rN;room;refine#[#v[],?_];room;rw[show ∀env S' Q',WE Γ (.dZ (.cons ↑1 .nil) (.cons ↑0 .nil)) env S' Q'=([U.int 1].length<=100/\nj (.int 1)=ζ/\∃v,[U.int 0]=[v]/\Q' (.loc S'.length) (S'++[.dZ [(.int 1,v)]])) from λ_ _ _=>rfl]
 refine#[#v[],rfl,_,rfl,?_];room;refine#[#v[],?_];have ls0:(S++[SO.lst [U.int 1]]).length=S.length+1:=by simp
 have ls1:(S++[SO.lst [U.int 1]]++[SO.dZ [(U.int 1,U.int 0)]]).length=S.length+2:=by simp
 have I0:W9 S (S++[SO.lst [U.int 1]]++[SO.dZ [(U.int 1,U.int 0)]]++[SO.lst []]) tk bh D [1] [] []:=by
  refine#[#[((Ext.app _).trans (Ext.app _)).trans (Ext.app _),?_,?_,?_,#v[],#v[],#v[]],rfl,#v[],rfl,λh m p hp=>?_,#v[],λj h j0 hj=>?_]
  .exact((Ext.app _).trans (Ext.app _)).get (show(S++[SO.lst [U.int 1]])[S.length]?=_ by simp)
  .exact(Ext.app _).get (show(S++[SO.lst [U.int 1]]++[SO.dZ [(U.int 1,U.int 0)]])[S.length+1]?=_ by rw[<-ls0,ay (ar _),bZ];rfl)
  .rw[<-ls1,ay (ar _),bZ];rfl
  .have:h=1:=by simpa using m
   subst this;rw[hJ.mp hp]
   erw[D0]
  .have:=aS hj
   simp at this;omega
 rw[ls0,ls1]
 generalize S++[SO.lst [U.int 1]]++[SO.dZ [(U.int 1,U.int 0)]]++[SO.lst []]=S0 at I0;rwa[Rest.go ?_];rw[sZ,VB]
 refine#[2050,nM (λN env S1=>∃(Ls rs ds:List Nat)(x4 x5 x6 x7:Option U),N=2048-ds.length/\env=[ξ (.loc P),ξ (.loc S.length),ξ (.loc (S.length+1)),ξ (.loc (S.length+2)),x4,x5,x6,x7]/\W9 S S1 tk bh D Ls rs ds) ?_ _ 2048 _ _ ⋯ #[[1],[],[],ψ,ψ,ψ,ψ,rfl,rfl,I0]];rintro N env S1 K ⟨Ls,rs,ds,x4,x5,x6,x7,rfl,rfl,J⟩ hK;have lb:=sr C J.s.nd J.d;have dl:=J.le;room;rw[lS J.s.r,lS J.s.l]
 dsimp[bg,ae];refine#[∅,∅,?_];by_cases z:ds.length<Ls.length
 .have:((ds.length:Int)<(Ls.length:Int)):=Int.ofNat_lt.mpr z
  dsimp[this,decide_true,if_true];erw[Th Γ h1 pa C J z λLs' rs' ds' S2 x4 x5 x6 x7 J2 e=>hK (2048-ds'.length) _ _ ∅ #[Ls',rs',ds',x4,x5,x6,x7,rfl,rfl,J2]]
 .have:¬((ds.length:Int)<(Ls.length:Int)):=λy=>z (Int.ofNat_lt.mp y)
  dsimp[this,decide_false,ax,if_false];erw[Ti Γ h2 h3 pa C J (kh z) q]
section
variable{S S1 S2:bM}{X:List Nat}
abbrev Kp(X:List Nat)(S S1:bM):Prop:=S.length<=S1.length/\∀n,n<S.length->n∉X->S1[n]?=S[n]?
def Kp.refl:Kp X S S:=#[ar _,λ_ _ _=>rfl]
def Kp.trans(a:Kp X S S1)(b:Kp X S1 S2):Kp X S S2:=#[aH a.1 b.1,λn h ne=>(b.2 n (au h a.1) ne).trans (a.2 n h ne)]
def Ext.kp(a:Ext S S1):Kp X S S1:=#[a.1,λn h _=>a.2 n h]
def Kp.set(m:n∈X):Kp X S (S.set n o):=#[%[b9|ar _],λk _ ne=>by rw[ao λ(z:n=k)=>ne (by rw[<-z];erw[m])]]
def Kp.get(a:Kp X S S1)(h:S[n]?=ξ o)(m:n∉X):S1[n]?=ξ o:=(a.2 n (aS h) m).trans h
end
def zG(f:Nat->Option Nat)(h:Nat->Nat):∀G:List Nat,∃ps:List (Nat×Nat),cV G f=ps.map (λp=>([p.1],aW p.2))/\cV G (λc=>(f c).map h)=ps.map (λp=>([p.1],aW (h p.2)))/\(∀p∈ps,p.1∈G/\f p.1=ξ p.2)/\(G.Nodup->(ps.map (·.1)).Nodup)/\ps.length<=G.length
 |[]=>#[[],rfl,rfl,#v[],#v[],#v[]]
 |x::G=>by
  let#[ps,h1,h2,h3,h4,h5]:=zG f h G;unfold cV at h1 h2 ⊢;cases e:f x with
  |none=>exact#[ps,by simp[e,h1],by rw[bu];dsimp[e,uw];erw[h2],λp m=>#[av _ (h3 p m).1,(h3 p m).2],λnd=>h4 (dW.mp nd).2,(·)]
  |some k=>
   refine#[(x,k)::ps,by simp[e,h1],by rw[bu];dsimp[e,gD,aw];rw[h2],λp m=>?_,λnd=>?_,(·)]
   .rcases aM.mp m with rfl|m
    .exact#[aN ..,e]
    .exact#[av _ (h3 p m).1,(h3 p m).2]
   .let#[n1,n2]:=dW.mp nd
    rw[aw,dW]
    refine#[λz=>?_,h4 n2];let#[p,m,e']:=bO.mp z;have:=(h3 p m).1;rw[show p.1=x from e'] at this;erw[n1 this]
def Tj{Γ:cv}{S:bM}{T nb A R d:Nat}{b:List Nat}{f:Nat->Option Nat}{x4:U}{k:KU}(hb:S[nb]?=ξ (.lst (b.map aW)))(hd:S[d]?=ξ (.dZ (sD (cV SG f)))\/S[d]?=ξ (.qC (sD (cV SG f))))(hf:∀c k,c∈SG->f c=ξ k->k<b.length)
  (q:∀m S',Ext (S.set d (.qC (sD (cV SG f)))) S'->S.length<=m->S'[m]?=ξ (.dZ (sD (cV SG λc=>(f c).map λk=>b.getD k 0)))->k (.loc m) S'):WE Γ ZF [ξ (.loc T),ξ (.loc nb),ξ (.loc A),ξ (.loc R),ξ x4,ξ (.loc d)] S k:=by
 unfold ZF;have gl:SG.length=95:=rfl;have nd:=zF;let#[ps,e1,e2,e3,e4,e5]:=zG f (λk=>b.getD k 0) SG;have lk:∀p∈ps,uC (.str [p.1]) (sD (cV SG f))=ξ (aW p.2):=λp m=>by rw[EN,wd,if_pos (e3 p m).1,(e3 p m).2];rfl
 have kp:∀p∈ps,p.2<b.length:=λp m=>hf p.1 p.2 (e3 p m).1 (e3 p m).2
 rw[e2] at q;have ey:(sD (cV SG f)).map (·.1)=ps.map λp=>U.str [p.1]:=by rw[e1];unfold sD;simp[cJ]
 have nd':=e4 nd;generalize cV SG f=rw0 at *;room;have e0:∀R,jm S[d]? R=R (sD rw0):=λR=>by rcases hd with h|h<;>rw[h]<;>rfl
 rw[e0,ey]
 have dl:d<S.length:=by rcases hd with h|h<;>exact aS h
 have nbd:nb≠d:=λz=>by rcases hd with h|h<;>rw[<-z,hb] at h<;>cases h
 have g1:(S.set d (.qC (sD rw0)))[d]?=ξ (.qC (sD rw0)):=bA dl;have b1:(S.set d (.qC (sD rw0)))[nb]?=ξ (.lst (b.map aW)):=%[ao (cM nbd)|hb]
 have l1:(S.set d (.qC (sD rw0))).length=S.length:=b9;generalize S.set d (.qC (sD rw0))=S1 at g1 b1 q l1;rwa[jY (S:=S1) _ (ps.map λp=>.tup [.str [p.1],aW (b.getD p.2 0)]) (#v[]) ((·)) (λS' x=>x.get g1) (λu S' k h=>h) (λj u v hu hv S2 k x' hk=>?_) λS2 x'=>?_]
 .rw[aB] at hu hv
  let#[p,hp,rfl]:=ak.mp hu;rw[hp] at hv;have hv:U.tup [.str [p.1],aW (b.getD p.2 0)]=v:=by simpa using hv
  subst hv;have m:=ai hp;rw[x'.get g1]
  refine#[rfl,?_];rw[lk p m]
  show getL S2[nb]? _
  rw[x'.get b1,aF]
  erw[tI (kp p m) #[#v[],hk S2 .refl]]
 .refine#[ps.map λp=>([p.1],aW (b.getD p.2 0)),by simp[cJ],?_,?_]
  .have:=nd'
   rw[bB]
   show(ps.map λp=>[p.1]).Nodup
   have e:(ps.map λp=>[p.1])=(ps.map (·.1)).map λc=>[c]:=by rw[bB];rfl
   rw[e]
   erw[oQ _ (λa b h z=>h (Hg z).1) nd']
  .erw[q _ _ (x'.trans ((Ext.app _).trans (Ext.app _))) (by have:=x'.1;rw[aq];omega) (by rw[ay (ar _),bZ];rfl)]
structure LF(told:List (Option Nat))(go:Nat->Nat->Option Nat)(told':List (Option Nat))(go':Nat->Nat->Option Nat)(b reps:List Nat):Prop where
 k:∃m,Hq (told++[ψ]) (gN told.length go) m b/\∀i j,i<(told++[ψ]).length->j<(told++[ψ]).length->Eqv (told++[ψ]) (gN told.length go) m i j->Eqv (told++[ψ]) (gN told.length go) (m+1) i j
 a:∀p,p<told.length->b.getD p 0<reps.length
 len:told'.length=reps.length
 r:∀(r p:Nat),reps[r]?=ξ p->p<told.length/\b.getD p 0=r/\∀p',p'<p->b.getD p' 0<r
 t:∀(r p:Nat),reps[r]?=ξ p->told'.getD r ψ=told.getD p ψ/\∀c,go' r c=(go p c).map λk=>b.getD k 0
abbrev Ul(go:Nat->Nat->Option Nat)(b reps:List Nat)(r c:Nat):Option Nat:=(reps[r]?).bind λp=>(go p c).map λk=>b.getD k 0
def K1(h:reps[r]?=ξ p):Ul go b reps r=λc=>(go p c).map λk=>b.getD k 0:=by
 funext c;unfold Ul;rw[h];rfl
abbrev Tn:Spec:=λus S Q=>∃T told ls go B,us=[.loc T]/\K0 S T told ls go/\0<told.length/\(∀d∈ls,B<=d)/\B<=S.length/\∀T' told' ls' go' b reps S',K0 S' T' told' ls' go'->(∀n,n<B->S'[n]?=S[n]?)->S.length<=S'.length/\(∀d∈ls',S.length<=d)->LF told go told' go' b reps->Q (.loc T') S'
structure Oj(S3 S4:bM)(L:Nat)(told:List (Option Nat))(ls:List Nat)(go:Nat->Nat->Option Nat)(b reps ds:List Nat)(i:Nat):Prop where
 k:Kp (L::(L+1)::ls) S3 S4
 a:S4[L]?=ξ (.lst ((reps.map λp=>told.getD p ψ).map uN))
 r:S4[L+1]?=ξ (.lst (ds.map .loc))
 dl:ds.length=reps.length
 od:∀(j d:Nat),ls[j]?=ξ d->S4[d]?=ξ (.dZ (sD (cV SG (go j))))\/S4[d]?=ξ (.qC (sD (cV SG (go j))))
 nw:∀(r d p:Nat),ds[r]?=ξ d->reps[r]?=ξ p->S3.length<=d/\S4[d]?=ξ (.dZ (sD (cV SG λc=>(go p c).map λk=>b.getD k 0)))
 ib:∀p,p<i->b.getD p 0<reps.length
 ir:∀(r p:Nat),reps[r]?=ξ p->p<i/\b.getD p 0=r/\∀p',p'<p->b.getD p' 0<r
 rl:reps.length<=i
section
variable{S3 S4 S6:bM}{L i d m:Nat}{told:List (Option Nat)}{ls b reps ds:List Nat}{go:Nat->Nat->Option Nat}
def Oj.old(a:Oj S3 S4 L told ls go b reps ds i)(h:b.getD i 0<reps.length):Oj S3 S4 L told ls go b reps ds (i+1):=
 #[a.k,a.a,a.r,a.dl,a.od,a.nw,λp hp=>(jb.mp hp).elim (a.ib p) λe=>e▸h,λr p e=>#[bc (a.ir r p e).1,(a.ir r p e).2],jH a.rl]
def Oj.push(a:Oj S3 S4 L told ls go b reps ds i)(hz:b.getD i 0=reps.length)(hd:ls[i]?=ξ d)(lo:∀(j d:Nat),ls[j]?=ξ d->d<L/\S3[d]?=ξ (.dZ (sD (cV SG (go j)))))(l3:S3.length=L+2)
  (x6:Ext ((S4.set L (.lst (((reps++[i]).map λp=>told.getD p ψ).map uN))).set d (.qC (sD (cV SG (go i))))) S6) (ml:S4.length<=m) (g6:S6[m]?=ξ (.dZ (sD (cV SG λc=>(go i c).map λk=>b.getD k 0)))):
  Oj S3 (S6.set (L+1) (.lst (ds.map .loc++[.loc m]))) L told ls go b (reps++[i]) (ds++[m]) (i+1):=by
 have dL:=(lo i d hd).1;have lr:=aS a.r;have lk:=a.k.1;have get:∀(n:Nat)(o:SO),n≠L->n≠L+1->n≠d->S4[n]?=ξ o->(S6.set (L+1) (.lst (ds.map .loc++[.loc m])))[n]?=ξ o:=λn o h1 h2 h3 e=>by
  rw[ao (cM h2)]
  erw[x6.get (by rw[ao (cM h3),ao (cM h1)];exact e)]
 have g1:S6[L+1]?=ξ (.lst (ds.map .loc)):=x6.get (%[ao (aV (bc dL)),ao (aV (cB L))|a.r]);have mX:d∈L::(L+1)::ls:=by simp[ai hd]
 refine#[(a.k.trans ((Kp.set (#v[])).trans (Kp.set mX))).trans ((Ext.kp x6).trans (Kp.set (#v[]))),?_,by rw[gs g1];simp,by simp[a.dl],λj d' hj=>?_,λr d' p e1 e2=>?_,λp hp=>?_,λr p e=>?_,%[aq|n8 a.rl]]
 .rw[ao (cD (cB L))]
  erw[x6.get (by rw[ao (aV dL)];exact gs a.a)]
 .by_cases y:d'=d
  .subst y
   have e:sD (cV SG (go j))=sD (cV SG (go i)):=by
    have:=(lo j d' hj).2;rw[(lo i d' hd).2] at this;injection this with this;injection this with this
    erw[this.symm]
   rw[e,ao (cD (bc dL))]
   erw[.inr (x6.get (bA (by rw[b9];exact dm dL (Nat.lt_of_succ_lt lr))))]
  .have dl:=(lo j d' hj).1
   have ne:=aV dl;exact(a.od j d' hj).imp (get _ _ ne (aV (bc dl)) y) (get _ _ ne (aV (bc dl)) y)
 .rcases nP e1 with e1|⟨rfl,rfl⟩
  .have hr:=aS e1
   rw[ah (a.dl▸hr)] at e2;let#[z1,z2]:=a.nw r d' p e1 e2;rw[l3] at z1;exact#[l3▸z1,get _ _ (cD (au (bc (cB L)) z1)) (cD z1) (cD (au (bc (bc dL)) z1)) z2]
  .have f2:i=p:=by rw[a.dl] at e2;simpa using e2
   subst f2;exact#[aH lk ml,%[ao (aV (au lr ml))|g6]]
 .rw[aq]
  rcases jb.mp hp with y|y
  .erw[bc (a.ib p y)]
  .rw[y,hz];erw[cB _]
 .rcases nP e with e|⟨rfl,rfl⟩
  .let#[z1,z2]:=a.ir r p e
   exact#[bc z1,z2]
  .exact#[cB _,hz,a.ib]
end
def Ol(Γ:cv)(a:Oj S3 S4 L told ls go b reps ds i)(gT:S4[T]?=ξ (Of kk told R))(gm:S4[m]?=ξ (.lst (b.map aW)))(mL:m≠L)(hd:ls[i]?=ξ d)(lo:∀(j d:Nat),ls[j]?=ξ d->d<L/\S3[d]?=ξ (.dZ (sD (cV SG (go j)))))(l3:S3.length=L+2)(hb:i<b.length)(le:b.getD i 0<=reps.length)(r4:i<=4000)(tl:told.length<=4000)(cl:∀c k,c∈SG->go i c=ξ k->k<b.length)(ht:told[i]?=ξ (told.getD i ψ))
  (q:∀reps ds S',Oj S3 S' L told ls go b reps ds (i+1)->K [ξ (.loc T),ξ (.loc m),ξ (.loc L),ξ (.loc (L+1)),ξ (aW i),ξ (.loc d)] S'):
  Rest Γ ZG #[K,Q] [ξ (.loc T),ξ (.loc m),ξ (.loc L),ξ (.loc (L+1)),ξ (aW i),ξ (.loc d)] S4:=by
 unfold ZG;have rl:=a.rl;have dl:=a.dl;room;rw[gm,aF]
 rwa[tI hb ?_];rw[lS a.r]
 dsimp[bg,ae];refine#[∅,?_];try room
 by_cases z:b.getD i 0=reps.length
 .have z':(((b.getD i 0:Nat):Int)== (ds.length:Int))=ζ:=by rw[beq_iff_eq,z,dl]
  dsimp[z',if_true];room;rw[a.a,aF,Ds gT]
  room;refine#[by rw[ae];omega,at_of ht #[by rw[ae,ae];omega,?_]];have dL:=lo i d hd;have eA:(reps.map λp=>told.getD p ψ).map uN++[uN (told.getD i ψ)]=((reps++[i]).map λp=>told.getD p ψ).map uN:=by rw[aI,aI];rfl
  rw[eA]
  have g1:(S4.set L (.lst (((reps++[i]).map λp=>told.getD p ψ).map uN)))[L+1]?=ξ (.lst (ds.map .loc)):=%[ao (aV (cB L))|a.r]
  have g2:∀{n:Nat}{o:SO},n≠L->S4[n]?=ξ o->(S4.set L (.lst (((reps++[i]).map λp=>told.getD p ψ).map uN)))[n]?=ξ o:=λ{n o}h e=>%[ao (cM h)|e]
  room;rw[g1,aF]
  refine#[trivial,Tj (g2 mL gm) ((a.od i d hd).imp (g2 (aV dL.1)) (g2 (aV dL.1))) cl λm6 S6 x6 m6l g6=>?_];rw[b9] at m6l;have g6':S6[L+1]?=ξ (.lst (ds.map .loc)):=x6.get (%[ao (aV (bc dL.1))|g1]);rw[g6',aF]
  refine#[by rw[ae];omega,?_];try room
  erw[q _ _ _ (a.push z hd lo l3 x6 m6l g6)]
 .have z':(((b.getD i 0:Nat):Int)== (ds.length:Int))=ϑ:=by rw[beq_eq_false_iff_ne];omega
  dsimp[z',ax,if_false];room;erw[q _ _ _ (a.old (HH le z))]
def Xb(Γ:cv)(h1:Γ "rounds"=KZ)(h2:Γ "with_nowhere"=KS)(h3:Γ "Table.__init__"=Og):Keeps Γ nE 5 Tn:=by
 rintro us S Q ⟨T,told,ls,go,B,rfl,h,h0,hB,hBl,q⟩;unfold nE;let#[kk,R,hT,hk,hR]:=h.o;have hl:=h.ll;have sz:=h.sz;room;rw[Ds hT]
 room;refine#[#v[],#[λz=>by rw[qU.mp z] at h0;erw[dj _ h0],(·)],?_];rw[GK hT]
 rwa[ca h2 #[R,ls,go,rfl,hR,∅,λnr S1 ms x1 ml Rw1=>?_]];have eN:(told++[ψ]).length=told.length+1:=by simp
 rwa[ca h1 #[nr,ms,gN ls.length go,told++[ψ],by rw[aI];rfl,Rw1,∅,∅,∅,λj c hj hc=>?_,λF fs S2 x2 gF Rs=>?_]]
 .unfold gN
  cases e:go j c with
  |none=>show ls.length<_;omega
  |some k=>have:=h.cl j c k hc e;show k<_;omega
 have x12:=x1.trans x2;obtain⟨fs0,m,rfl⟩:∃fs0 m,fs=fs0++[m]:=by
  rcases pC fs with z|⟨a,b,z⟩
  .erw[absurd z Rs.ne]
  .exact#[a,b,by rw[z,pD]]
 let#[b,gm,rb]:=Rs.r fs0.length m (#v[]);have st:=Rs.st;rw[hl,show(fs0++[m]).length=fs0.length+1 by simp] at st;rw[hl] at rb;room;rw[gF,aF,aI,show [m].map U.loc=[.loc m] from rfl,uP,bg]
 room;refine#[#v[],?_];room;refine#[#v[],?_];have bl:=rb.len;rw[eN] at bl;have nX:∀(n:Nat)(o:SO),S2[n]?=ξ o->(∀j,o≠.dZ (sD (cV SG (go j))))->n∉S2.length::(S2.length+1)::ls:=λn o hn ho z=>by
  have:=aS hn;rcases aM.mp z with z|z
  .omega
  .rcases aM.mp z with z|z
   .omega
   .let#[j,hj]:=bR z
    have:=x12.get (hR.d j n hj);rw[hn] at this;erw[ho j (aK this)]
 have nT:=nX T _ (x12.get hT) (by intro j;unfold Of;intro z;cases z);have nR:=nX R _ (x12.get hR.l) (by intro j z;cases z);have nm:=nX m _ gm (by intro j z;cases z);have ls0:(S2++[SO.lst []]).length=S2.length+1:=by simp
 have y3:Ext S2 (S2++[SO.lst []]++[SO.lst []]):=(Ext.app _).trans (Ext.app _);have gA:(S2++[SO.lst []]++[SO.lst []])[S2.length]?=ξ (.lst []):=(Ext.app _).get (#v[]);have gR:(S2++[SO.lst []]++[SO.lst []])[S2.length+1]?=ξ (.lst []):=by rw[<-ls0,ay (ar _),bZ];rfl
 rw[ls0]
 have l3:(S2++[SO.lst []]++[SO.lst []]).length=S2.length+2:=by simp
 generalize S2++[SO.lst []]++[SO.lst []]=S3 at y3 gA gR l3;have x3:=x12.trans y3;room;rw[GK (x3.get hT)]
 room;rw[x3.get hR.l,aF]
 have fst':=zD b [];rw[rb.fx] at fst';have lo:∀(j d:Nat),ls[j]?=ξ d->d<S2.length/\S3[d]?=ξ (.dZ (sD (cV SG (go j)))):=λj d e=>#[aS (x12.get (hR.d j d e)),x3.get (hR.d j d e)]
 rwa[fj (λi env S4=>∃(reps ds:List Nat)(x4 x5:Option U),env=[ξ (.loc T),ξ (.loc m),ξ (.loc S2.length),ξ (.loc (S2.length+1)),x4,x5]/\Oj S3 S4 S2.length told ls go b reps ds i) (λi env S4 h9=>?_) _ ?_ ?_ #[[],[],ψ,ψ,rfl,.refl,gA,gR,rfl,λj d e=>.inl (lo j d e).2,#v[],λp hp=>absurd hp (dq p),#v[],ar _]]
 .let#[_,_,_,_,_,a]:=h9
  erw[a.k.get (x3.get hR.l) nR]
 .rintro i u env S4 K hu ⟨reps,ds,x4,x5,rfl,a⟩ hK
  dsimp[fF,aB,pB] at hu;let#[d,hd,rfl]:=ak.mp hu;have hi:=aS hd;have ht:told[i]?=ξ (told.getD i ψ):=by rw[az,ab (hl▸hi)];rfl
  dsimp[cJ,MG];rwa[Ol Γ a (a.k.get (x3.get hT) nT) (a.k.get (y3.get gm) nm) (aV (aS gm)) hd lo l3 ∅ ?_ ∅ sz (λc k hc e=>dm (h.cl i c k hc e) ∅) ht λreps ds S' a'=>hK _ _ #[reps,ds,_,_,rfl,a']]
  have gi:=gd (b:=b) (i:=i) ∅;have ib:=a.ib
  clear a hK lo
  cases e:b.getD i 0 with
  |zero=>erw[bJ _]
  |succ v=>
   rw[e] at gi;rcases fst' i v gi with z|⟨p,hp,e'⟩
   .erw[absurd z (dq v)]
   .have:=ib p hp
    rw[az,e'] at this;erw[this]
 .rintro env S4 ⟨reps,ds,x4,x5,rfl,a⟩
  obtain⟨k4,gA4,gR4,dl,-,nw,ib,ir,rl⟩:=a;rw[lN,ae,hl] at ib ir rl;room;refine ca h3 #[S4.length,_,_,_,rfl,eL,(Ext.app _).get gA4,λk' S5 o5 gT gk=>#[rfl,?_]];have y5:Ext S4 S5:=ES o5;have t':∀(r p:Nat),reps[r]?=ξ p->(reps.map λp=>told.getD p ψ).getD r ψ=told.getD p ψ/\∀c,Ul go b reps r c=(go p c).map λk=>b.getD k 0:=λr p e=>by
   refine#[by rw[az,aB,e];rfl,λc=>by rw[K1 e]]
  rwa[q _ (reps.map λp=>told.getD p ψ) ds (Ul go b reps) b reps S5 #[#[k',_,gT,gk,y5.get gR4,λj d hj=>?_,λj c hj=>?_],%[ae|dl],by rw[ae];omega,λj c k hc e=>?_] (λn hn=>?_) #[aH x3.1 (aH k4.1 y5.1),λd m=>let ⟨j,hj⟩:=bR m;aH x3.1 (nw j d _ hj (ab (show j<reps.length from dl▸aS hj))).1] #[#[fs0.length,rb,st],ib,#v[],ir,t']]
  .have hr:=ab (show j<reps.length from dl▸aS hj)
   rw[K1 hr]
   erw[y5.get (nw j d _ hj hr).2]
  .unfold Ul;rw[cL (dl▸hj)];rfl
  .unfold Ul at e
   let#[p,hp,e]:=aA.mp e;let#[v,hv,e]:=ak.mp e;subst e;rw[ae]
   erw[ib v (h.cl p c v hc hv)]
  .have nS:n<S.length:=au hn hBl
   have n2:=au nS x12.1;have n3:=au nS x3.1;rw[y5.2 n (au n3 k4.1),k4.2 n n3 (λz=>?_),x3.2 n nS]
   rcases aM.mp z with z|z
   .erw[aV n2 z]
   .rcases aM.mp z with z|z
    .erw[aV (bc n2) z]
    .erw[u6 hn (hB n z)]
abbrev B3(ts:List Tr)(w:List Nat):Option Nat->Prop
 |none=>∀(i:Nat)t,ts[i]?=ξ t->¬En t (hs t w)
 |some i=>(∃t,ts[i]?=ξ t/\En t (hs t w))/\∀(i':Nat)t,i'<i->ts[i']?=ξ t->¬En t (hs t w)
def zH(h:B3 ts w o)(h':B3 ts w o'):o=o':=by
 cases o with
 |none=>
  cases o' with
  |none=>rfl
  |some i=>let#[#[t,e,z],_]:=h';erw[absurd z (h i t e)]
 |some i=>
  let#[#[t,e,z],n]:=h;cases o' with
  |none=>erw[absurd z (h' i t e)]
  |some j=>
   let#[#[t',e',z'],n']:=h';rcases mU i j with y|y|y
   .erw[absurd z (n' i t y e)]
   .rw[y]
   .erw[absurd z' (n j t' y e')]
abbrev tot(N:Nat)(go:Nat->Nat->Option Nat)(w:List Nat):Nat:=w.foldl (gN N go) 0
def BE:tot N go (w++[c])=gN N go (tot N go w) c:=by unfold tot;rw[fG];rfl
def Pd:Sz bh 0 0:=λp=>by simp
section
variable{ts:List Tr}{sg:List (List Nat)}{bh en lots rs:List Nat}{u:Nat}{told:List (Option Nat)}
@[reducible]def ou(sg:List (List Nat)):Nat->Nat:=λc=>j9 (·.contains c) sg
abbrev Lv(told:List (Option Nat))(go:Nat->Nat->Option Nat)(j:Nat):Prop:=∃w:List Nat,(∀c∈w,c∈SG)/\(told++[ψ]).getD (w.foldl (gN told.length go) j) ψ≠ψ
def Om(A:Aa ts sg bh en)(U:Ho sg bh en u)(P:Uj (bh.map (·&&&u)) en (ou sg) lots rs told)(hS:∀t∈ts,∀l∈nN t,∀c∈l,c∈SG)(hp:u.testBit p=ζ)(m:t∈ts)(i:IN t p=ζ)(hj:lots[j]?=ξ h)(hh:h.testBit p=ζ):Lv told (wV (ou sg) lots rs) j:=by
 have sgs:∀{p:Nat}{t:Tr},t∈ts->IN t p=ζ->mQ zt sg p=ζ->∃c∈SG,(ou sg c).testBit p=ζ:=λ{p t}m i e=>by
  let#[l,e1,e2]:=vY e;have e3:=A.sgn t m p i;rw[e1] at e3;cases e3;let#[n,_,pl]:=A.pos t m;have hl:=ai (qK pl i);cases z:nW.sgn t p with
  |nil=>rw[z] at e2;cases e2
  |cons c l=>
   refine#[c,hS t m _ hl c (by rw[z];simp),?_];rw[si]
   unfold mQ;rw[e1,z];simp
 refine((U.m (λp=>u.testBit p=ζ/\∀t∈ts,IN t p=ζ->(∃c∈SG,(ou sg c).testBit p=ζ)/\∀j h,lots[j]?=ξ h->h.testBit p=ζ->Lv told (wV (ou sg) lots rs) j) #[λZ p hZ hz e=>#[U.e Z p hZ hz e,λt m i=>#[sgs m i e,λj h hj hh=>?_]],λq B p e hB hb ih=>#[U.b q B p e hB hb ih.1,λt m i=>#[sgs m i e,λj h hj hh=>?_]]] p hp).2 t m i).2 j h hj hh
 .let#[o,e1,f]:=P.t j h hj
  refine#[[],λc m=>(cA m).elim,?_];show(told++[ψ]).getD j ψ≠ψ;rw[az,ah (aS e1),e1]
  rintro rfl;let#[k,ek]:=bR hZ;erw[f k #[Z,ek,p,hh,hz]]
 .let#[B',e1,b1]:=A.b t m q i
  rw[hB] at e1;cases e1;have ip:=fM ((b1 p).symm.trans hb);let#[#[c,cm,tc],lv]:=ih.2 t m ip;let#[r,hr,Xc]:=P.b j h hj;have rp:r.testBit p=ζ:=(Xc p).mpr #[q,B&&&u,hh,by rw[aB,hB];rfl,by rw[bP,hb,ih.1];rfl];have hp':(r&&&ou sg c).testBit p=ζ:=by rw[bP,rp,tc];rfl
  have nz:r&&&ou sg c≠0:=λz=>by rw[z] at hp';simp at hp'
  have hm:=(P.m r (ai hr) c cm).resolve_left nz;have hk:=bE hm;let#[w,hw,e]:=lv _ _ (show lots[lots.idxOf (r&&&ou sg c)]?=ξ (r&&&ou sg c) by rw[ab hk,dH hk]) hp';refine#[c::w,λx hx=>(aM.mp hx).elim (λz=>z▸cm) (hw x),?_];rw[cR]
  have:gN told.length (wV (ou sg) lots rs) j c=lots.idxOf (r&&&ou sg c):=by
   unfold gN;rw[we hr]
   unfold gz;rw[if_neg nz];rfl
  rw[this];erw[e]
def K2(A:Aa ts sg bh en)(hq:q=0\/∃t∈ts,IN t q=ζ)(e:bh[q]?=ξ B)(hp:B.testBit p=ζ):∃t∈ts,IN t p=ζ:=by
 rcases hq with rfl|⟨t,m,i⟩
 .let#[B0,e0,f0]:=A.b0
  rw[e] at e0;cases e0;let#[t,m,f]:=(f0 p).mp hp;exact#[t,m,ju f]
 .let#[B0,e0,f0]:=A.b t m q i
  rw[e] at e0;cases e0;exact#[t,m,fM ((f0 p).symm.trans hp)]
def K3(A:Aa ts sg bh en)(U:Ho sg bh en u)(P:Uj (bh.map (·&&&u)) en (ou sg) lots rs told)(R:RcS (ou sg) (λp=>p=0\/∃t∈ts,IN t p=ζ) lots rs)(hS:∀t∈ts,∀l∈nN t,∀c∈l,c∈SG)(i c j:Nat)(cm:c∈SG)(e:wV (ou sg) lots rs i c=ξ j):Lv told (wV (ou sg) lots rs) j:=by
 let#[r,hr,e]:=aA.mp e;unfold gz at e;by_cases nz:r&&&ou sg c=0
 .rw[if_pos nz] at e;cases e
 rw[if_neg nz] at e;cases e;have hm:=(P.m r (ai hr) c cm).resolve_left nz;have hk:=bE hm;have hj:lots[lots.idxOf (r&&&ou sg c)]?=ξ (r&&&ou sg c):=by rw[ab hk,dH hk]
 let#[p,hp]:=wq nz;have hp2:=hp;rw[bP,aj] at hp2;have hi:=ab (au (aS hr) P.rl);let#[r',e1,Xc]:=P.b i _ hi;rw[hr] at e1;cases e1;let#[q,B,hq,hB,hb]:=(Xc p).mp hp2.1;let#[B',eB,rfl]:=uL hB;rw[bP,aj] at hb;have⟨t,m,ip⟩:∃t∈ts,IN t p=ζ:=K2 A (R.d _ (ai hi) q hq) eB hb.1;erw[Om A U P hS hb.2 m ip hj hp]
def BF(A:Aa ts sg bh en)(U:Ho sg bh en u)(P:Uj (bh.map (·&&&u)) en (ou sg) lots rs told)(gz0:∀j c,told.length<=j->wV (ou sg) lots rs j c=ψ):∀(n:Nat)(w:List Nat),w.length=n->(∀c∈w,c∈SG)->(∃r,rs[tot told.length (wV (ou sg) lots rs) w]?=ξ r/\O6 ts u w r)\/(tot told.length (wV (ou sg) lots rs) w=told.length/\O6 ts u w 0)
 |0,w,hn,_=>by
  rw[Ao.mp hn]
  let#[r,h1,h2]:=P.b 0 1 P.z;erw[.inl #[r,h1,GG A h2]]
 |n+1,w,hn,hw=>by
  rcases pC w with rfl|⟨w,c,rfl⟩
  .simp at hn
  rw[pD] at hn hw ⊢;have cm:c∈SG:=hw c (#v[]);rw[BE]
  rcases BF A U P gz0 n w (~~~hn) (λc m=>hw c (by simp[m])) with⟨r,h1,h2⟩|⟨h1,h2⟩
  .unfold gN
   rw[we h1]
   unfold gz;by_cases z:r&&&ou sg c=0
   .rw[if_pos z]
    erw[.inr #[rfl,vZ A U h2 (show Sz _ (r&&&ou sg c) 0 by rw[z];exact Pd)]]
   .rw[if_neg z]
    have hm:=(P.m r (ai h1) c cm).resolve_left z;have hk:=bE hm;have e:lots[lots.idxOf (r&&&ou sg c)]?=ξ (r&&&ou sg c):=by rw[ab hk,dH hk]
    let#[r',e1,e2]:=P.b _ _ e;erw[.inl #[r',e1,vZ A U h2 e2]]
  .rwa[.inr #[?_,vZ A U h2 (%[Nat.zero_and|Pd])]]
   unfold gN;rw[h1,gz0 _ c (ar _)];rfl
def Xd:¬Ov 0 en i:=λ⟨_,_,p,h,_⟩=>by simp at h
def Dt(A:Aa ts sg bh en)(U:Ho sg bh en u)(h:O6 ts u w r)(f:Yk (r&&&ou sg c) en o):B3 ts (w++[c]) o:=by
 have k:=Kr (c:=c) A U h;cases o with
 |none=>erw[λi t e z=>f i ((k i).mpr #[t,e,z])]
 |some i=>exact#[(k i).mp f.1,λi' t hi e z=>f.2 i' hi ((k i').mpr #[t,e,z])]
def GL(A:Aa ts sg bh en)(U:Ho sg bh en u)(P:Uj (bh.map (·&&&u)) en (ou sg) lots rs told)(gz0:∀j c,told.length<=j->wV (ou sg) lots rs j c=ψ)(w:List Nat)(hw:∀c∈w,c∈SG):B3 ts w ((told++[ψ]).getD (tot told.length (wV (ou sg) lots rs) w) ψ):=by
 have nn:(told++[ψ]).getD told.length ψ=ψ:=by rw[az];simp
 have tt:∀{k:Nat}{o:Option Nat},told[k]?=ξ o->(told++[ψ]).getD k ψ=o:=λ{k o}e=>by rw[az,ah (aS e),e];rfl
 rcases pC w with rfl|⟨w,c,rfl⟩
 .let#[o,e1,e2]:=P.t 0 1 P.z
  rw[show tot told.length (wV (ou sg) lots rs) []=0 from rfl,tt e1]
  cases o with
  |none=>
   rintro i t e ⟨p,hp,z⟩;have hp:p=0:=hp;subst hp;have:=A.nl t (ai e);have z:dv [t]=ζ:=z;simp[dv,this] at z
  |some i=>
   let#[Z,f1,p,f2,f3]:=e2.1;have p0:=hJ.mp f2;subst p0;have il:i<ts.length:=by rw[<-A.GF];erw[aS f1]
   let#[Z',g1,g2]:=A.e i _ (ab il);rw[f1] at g1;cases g1;rw[g2,aj] at f3;let#[n,n0,pl]:=A.pos _ (dJ il);erw[absurd rfl (zm pl n0 f3.1)]
 .rw[pD] at hw ⊢
  have cm:c∈SG:=hw c (#v[]);rw[BE]
  rcases BF A U P gz0 _ w rfl (λc m=>hw c (by simp[m])) with⟨r,h1,h2⟩|⟨h1,h2⟩
  .unfold gN
   rw[we h1]
   unfold gz;by_cases z:r&&&ou sg c=0
   .rw[if_pos z]
    show B3 ts _ ((told++[ψ]).getD told.length ψ)
    rw[nn]
    erw[Dt (r:=r) A U h2 (o:=ψ) (by rw[z];exact λi=>Xd)]
   .rw[if_neg z]
    have hm:=(P.m r (ai h1) c cm).resolve_left z;have hk:=bE hm;have e:lots[lots.idxOf (r&&&ou sg c)]?=ξ (r&&&ou sg c):=by rw[ab hk,dH hk]
    let#[o,e1,e2]:=P.t _ _ e;show B3 ts _ ((told++[ψ]).getD (lots.idxOf (r&&&ou sg c)) ψ);rw[tt e1]
    erw[Dt A U h2 e2]
  .unfold gN
   rw[h1,gz0 _ c (ar _)]
   show B3 ts _ ((told++[ψ]).getD told.length ψ)
   rw[nn]
   erw[Dt (r:=0) A U h2 (o:=ψ) (by rw[Nat.zero_and];exact λi=>Xd)]
end
section
variable{told told':List (Option Nat)}{go go':Nat->Nat->Option Nat}{b reps:List Nat}
def Pe:∀{m i j:Nat},Eqv told g m i j->told[i]?=told[j]?
 |0,_,_,h=>h
 |m+1,_,_,h=>Pe h.1
def BG(M:LF told go told' go' b reps)(cl:∀j c k,c∈SG->go j c=ξ k->k<told.length)(hi:i<=told.length)(hj:j<=told.length)(e:b.getD i 0=b.getD j 0):(told++[ψ])[i]?=(told++[ψ])[j]?/\∀c∈SG,b.getD (gN told.length go i c) 0=b.getD (gN told.length go j c) 0:=by
 let#[m,R,st]:=M.k;have hN:(told++[ψ]).length=told.length+1:=by simp
 have hq:=(R.iff i j ∅ ∅).mp e;refine#[Pe hq,λc hc=>?_];have le:∀i,gN told.length go i c<(told++[ψ]).length:=λi=>by
  unfold gN;cases z:go i c with
  |none=>show told.length<_;omega
  |some k=>have:=cl i c k hc z;show k<_;omega
 exact(R.iff _ _ (le i) (le j)).mpr ((st i j ∅ ∅ hq).2 c hc)
def zI(M:LF told go told' go' b reps)(cl:∀j c k,c∈SG->go j c=ξ k->k<told.length)(z0:∀j c,told.length<=j->go j c=ψ):∀(w:List Nat)(i:Nat),(∀c∈w,c∈SG)->i<=told.length->b.getD i 0=b.getD told.length 0->(told++[ψ]).getD (w.foldl (gN told.length go) i) ψ=ψ
 |[],i,_,hi,e=>by
  have:=(BG M cl hi (ar _) e).1;show(told++[ψ]).getD i ψ=ψ;rw[az,this];simp
 |c::w,i,hw,hi,e=>by
  have cm:=hw c (#v[]);have:=(BG M cl hi (ar _) e).2 c cm;rw[show gN told.length go told.length c=told.length by unfold gN;rw[z0 _ c (ar _)];rfl] at this;rwa[zI M cl z0 w _ (λx hx=>hw x (av _ hx)) ?_ this];unfold gN;cases z:go i c with
  |none=>erw[ar _]
  |some k=>erw[bQ (cl i c k cm z)]
abbrev Xe(n:Nat)(go:Nat->Nat->Option Nat):Prop:=∀j,0<j->j<n->∃i c,i<j/\c∈SG/\go i c=ξ j/\∀i' c' k,i'<n->c'∈SG->go i' c'=ξ k->j<k->Uk i c i' c'
def Pf(M:LF told go told' go' b reps)(h0:0<told.length):b.getD 0 0=0:=by
 have l0:0<reps.length:=ji (bJ _) (M.a 0 h0);have e0:=ab l0;let#[_,q2,q3]:=M.r 0 _ e0;generalize reps[0]=q at q2 q3;by_cases y:0<q
 .erw[absurd (q3 0 y) (dq _)]
 .have:q=0:=∅
  subst this;erw[q2]
def Oo(M:LF told go told' go' b reps)(h0:0<told.length)(r0:0<r)(hp:reps[r]?=ξ p):0<p:=by
 rwa[Nat.pos_of_ne_zero λz=>?_]
 subst z;have:=(M.r r 0 hp).2.1;rw[Pf M h0] at this;omega
def Oq(M:LF told go told' go' b reps)(cl:∀j c k,c∈SG->go j c=ξ k->k<told.length)(z0:∀j c,told.length<=j->go j c=ψ)(h0:0<told.length)(rc:Xe told.length go)(lv:∀j,0<j->j<told.length->Lv told go j):Xe told'.length go':=by
 intro r r0 rl;rw[M.len] at rl ⊢;have hp:=ab rl;let#[p1,p2,p3]:=M.r r _ hp;generalize reps[r]=p at hp p1 p2 p3;have p0:=Oo M h0 r0 hp;let#[i,c,il,cm,e,er]:=rc p p0 p1;have bi:=p3 i il;have hi:=ab (dm bi rl);let#[q1,q2,_]:=M.r _ _ hi;have tg:=(M.t _ _ hi).2 c;generalize reps[b.getD i 0]=q at hi q1 q2 tg;have eb:=(BG M cl (bQ (dm il p1)) (bQ q1) q2.symm).2 c cm;have ei:gN told.length go i c=p:=by unfold gN;rw[e];rfl
 rw[ei] at eb;refine#[b.getD i 0,c,bi,cm,?_,λi' c' k hi' cm' e' rk=>?_]
 .rw[tg]
  cases z:go q c with
  |none=>
   have en:gN told.length go q c=told.length:=by unfold gN;rw[z];rfl
   rw[en] at eb;let#[w,hw,ne]:=lv p p0 p1;erw[absurd (zI M cl z0 w p hw (bQ p1) eb) ne]
  |some k=>
   have en:gN told.length go q c=k:=by unfold gN;rw[z];rfl
   rw[en] at eb;show ξ (b.getD k 0)=ξ r;rw[<-eb,p2]
 .have hq:=ab hi'
  let#[s1,s2,s3]:=M.r _ _ hq;rw[(M.t _ _ hq).2 c'] at e';generalize reps[i']=q' at s1 s2 s3 e';let#[k',f1,rfl]:=ak.mp e';have pk:p<k':=uY λz=>by
   rcases Nat.lt_or_eq_of_le z with z|z
   .have:=p3 k' z;omega
   .rw[z] at rk;omega
  rcases er q' c' k' s1 cm' f1 pk with y|⟨y,y'⟩
  .erw[.inl (s3 i y)]
  .erw[.inr #[by rw[y];exact s2,y']]
abbrev Tl(told:List (Option Nat))(go:Nat->Nat->Option Nat)(i:Nat)(w:List Nat):Option Nat:=(told++[ψ]).getD (w.foldl (gN told.length go) i) ψ
def zJ(h:i<l.length):(l++[ψ]).getD i ψ=l.getD i ψ:=by rw[az,ah h,<-az]
def zK(z0:∀j c,told.length<=j->go j c=ψ):∀w:List Nat,Tl told go told.length w=ψ
 |[]=>by unfold Tl;rw[iG,az];simp
 |c::w=>by
  have e:gN told.length go told.length c=told.length:=by unfold gN;rw[z0 _ c (ar _)];rfl
  unfold Tl;rw[cR,e]
  erw[zK z0 w]
def mR(M:LF told go told' go' b reps)(cl:∀j c k,c∈SG->go j c=ξ k->k<told.length)(z0:∀j c,told.length<=j->go j c=ψ)(z0':∀j c,told'.length<=j->go' j c=ψ):∀(w:List Nat)(i:Nat),(∀c∈w,c∈SG)->i<told.length->Tl told' go' (b.getD i 0) w=Tl told go i w
 |[],i,_,hi=>by
  have hp:=ab (M.a i hi);let#[p1,p2,_]:=M.r _ _ hp;have:=(BG M cl (bQ p1) (bQ hi) p2).1;have tt:=(M.t _ _ hp).1;show(told'++[ψ]).getD (b.getD i 0) ψ=(told++[ψ]).getD i ψ;rw[zJ (%[M.len|M.a i hi]),tt,<-zJ p1,az,this,<-az]
 |c::w,i,hw,hi=>by
  have cm:=hw c (aN ..);have hw':∀x∈w,x∈SG:=λx hx=>hw x (av _ hx)
  have ha:=M.a i hi;have hp:=ab ha;let#[p1,p2,_]:=M.r _ _ hp;have tg:=(M.t _ _ hp).2 c;generalize reps[b.getD i 0]=p at hp p1 p2 tg;have eb:=(BG M cl (bQ p1) (bQ hi) p2).2 c cm;have far:∀{k:Nat},k<=told.length->b.getD k 0=b.getD told.length 0->Tl told go k w=ψ:=λh e=>zI M cl z0 w _ hw' h e
  have gl:gN told.length go i c<told.length\/gN told.length go i c=told.length:=by
   unfold gN;cases z:go i c with
   |none=>erw[.inr rfl]
   |some k=>erw[.inl (cl i c k cm z)]
  show Tl told' go' (gN told'.length go' (b.getD i 0) c) w=Tl told go (gN told.length go i c) w
  cases z:go p c with
  |none=>
   have e1:gN told'.length go' (b.getD i 0) c=told'.length:=by unfold gN;rw[tg,z];rfl
   have e2:gN told.length go p c=told.length:=by unfold gN;rw[z];rfl
   rw[e2] at eb;rw[e1,zK z0',far ∅ eb.symm]
  |some k=>
   have e1:gN told'.length go' (b.getD i 0) c=b.getD k 0:=by unfold gN;rw[tg,z];rfl
   have e2:gN told.length go p c=k:=by unfold gN;rw[z];rfl
   have kl:=cl p c k cm z;rw[e2] at eb;rw[e1]
   rcases gl with y|y
   .rw[eb];erw[mR M cl z0 z0' w _ hw' y]
   .rw[mR M cl z0 z0' w k hw' kl,y,zK z0,far (bQ kl) (by rw[eb,y])]
def Du(z0:∀j c,told.length<=j->go j c=ψ)(w:List Nat):fst told go w=Tl told go 0 w:=by
 have h:∀(w:List Nat)(s:Option Nat),w.foldl (gN told.length go) (s.getD told.length)=(w.foldl (λs c=>s.bind λj=>go j c) s).getD told.length:=λw=>by
  induction w with
  |nil=>erw[λs=>rfl]
  |cons c w ih=>
   intro s;rw[cR,cR,<-ih]
   congr 1
   cases s with
   |none=>unfold gN;rw[show go (none.getD told.length) c=ψ from z0 _ c (ar _)];rfl
   |some j=>rfl
 have:=h w (ξ 0);unfold Tl fst Hh;rw[show w.foldl (gN told.length go) 0=_ from this]
 cases w.foldl (λs c=>s.bind λj=>go j c) (ξ 0) with
 |none=>rw[az];simp
 |some j=>
  show told.getD j ψ=(told++[ψ]).getD j ψ
  rw[az,az]
  by_cases y:j<told.length
  .rw[ah y]
  .rw[ay ∅,cL ∅]
   cases j-told.length<;>rfl
def GN(M:LF told go told' go' b reps)(cl:∀j c k,c∈SG->go j c=ξ k->k<told.length)(z0:∀j c,told.length<=j->go j c=ψ)(z0':∀j c,told'.length<=j->go' j c=ψ)(h0:0<told.length)(w:List Nat)(hw:∀c∈w,c∈SG):fst told' go' w=(told++[ψ]).getD (tot told.length go w) ψ:=by
 rw[Du z0',<-Pf M h0]
 erw[mR M cl z0 z0' w 0 hw h0]
abbrev Mnl(told:List (Option Nat))(go:Nat->Nat->Option Nat):Prop:=∀i j,i<told.length->j<told.length->(∀w:List Nat,(∀c∈w,c∈SG)->Tl told go i w=Tl told go j w)->i=j
def Dx(cl:∀j c k,c∈SG->go j c=ξ k->k<told.length):∀(k i j:Nat),i<=told.length->j<=told.length->(∀w:List Nat,(∀c∈w,c∈SG)->Tl told go i w=Tl told go j w)->Eqv (told++[ψ]) (gN told.length go) k i j
 |0,i,j,hi,hj,h=>by
  have:=h [] (λc m=>nomatch m);unfold Tl at this;rw[iG,iG,az,az] at this;have hN:(told++[ψ]).length=told.length+1:=by simp
  show(told++[ψ])[i]?=(told++[ψ])[j]?
  rw[ab ∅,ab ∅] at this ⊢;erw[congrArg ξ this]
 |k+1,i,j,hi,hj,h=>by
  have le:∀{c i:Nat},c∈SG->gN told.length go i c<=told.length:=λ{c i}m=>by
   unfold gN;cases z:go i c with
   |none=>erw[ar _]
   |some k=>erw[bQ (cl i c k m z)]
  exact#[Dx cl k i j hi hj h,λc m=>Dx cl k _ _ (le m) (le m) λw hw=>h (c::w) λx hx=>(aM.mp hx).elim (λz=>z▸m) (hw x)]
def Ot(M:LF told go told' go' b reps)(cl:∀j c k,c∈SG->go j c=ξ k->k<told.length)(z0:∀j c,told.length<=j->go j c=ψ)(z0':∀j c,told'.length<=j->go' j c=ψ):Mnl told' go':=by
 intro i j hi hj h;rw[M.len] at hi hj;let#[p1,p2,_]:=M.r _ _ (ab hi);let#[q1,q2,_]:=M.r _ _ (ab hj);generalize reps[i]=p at p1 p2;generalize reps[j]=q at q1 q2;let#[m,R,_]:=M.k;have hN:(told++[ψ]).length=told.length+1:=by simp
 rw[<-p2,<-q2]
 refine(R.iff p q ∅ ∅).mpr (Dx cl m p q (bQ p1) (bQ q1) λw hw=>?_);rw[<-mR M cl z0 z0' w p hw p1,<-mR M cl z0 z0' w q hw q1,p2,q2]
 erw[h w hw]
def To(M:LF told go told' go' b reps)(cl:∀j c k,c∈SG->go j c=ξ k->k<told.length)(z0:∀j c,told.length<=j->go j c=ψ)(z0':∀j c,told'.length<=j->go' j c=ψ)(lg:∀i c j,c∈SG->go i c=ξ j->Lv told go j)(r c k:Nat)(cm:c∈SG)(e:go' r c=ξ k):Lv told' go' k:=by
 have rl:r<reps.length:=uY λz=>by rw[z0' r c (%[M.len|z])] at e;cases e
 have hp:=ab rl;rw[(M.t _ _ hp).2 c] at e;let#[k',f1,rfl]:=ak.mp e;let#[w,hw,ne]:=lg _ c k' cm f1;exact#[w,hw,λz=>ne ((mR M cl z0 z0' w k' hw (cl _ c k' cm f1)).symm.trans z)]
end
structure Mna(told:List (Option Nat))(go:Nat->Nat->Option Nat):Prop where
 r:Xe told.length go
 g:∀i c j,c∈SG->go i c=ξ j->Lv told go j
 m:Mnl told go
def Tp(r:Xe n go)(g:∀i c j,c∈SG->go i c=ξ j->Lv told go j)(j:Nat)(j0:0<j)(jl:j<n):Lv told go j:=by
 let#[i,c,_,cm,e,_]:=r j j0 jl;erw[g i c j cm e]
abbrev GO:Spec:=λus S Q=>∃n xs ts,us=[.loc n]/\S[n]?=ξ (.lst (xs.map .str))/\WA ts xs/\zw ts/\fm ts<=10/\∀T told ls go S',K0 S' T told ls go->0<told.length->(∀w,(∀c∈w,c∈SG)->B3 ts w (fst told go w))->Ext S S'->(∀d∈ls,S.length<=d)->((∀t∈ts,∀l∈nN t,∀c∈l,c∈SG)->Mna told go)->Q (.loc T) S'
def Xf(Γ:cv)(h1:Γ "places_of"=WB)(h2:Γ "spread"=Tf)(h3:Γ "smallest"=Tn):Keeps Γ nB 0 GO:=by
 rintro us S Q ⟨n,xs,ts,rfl,gn,hR,hT,hs,q⟩;unfold nB;room;rwa[ca h1 #[n,xs,ts,10,rfl,gn,hR,hT,hs,λP u sg bh en S1 pp A U l x1=>?_]];have al:=A.len;have b0:0<bh.length:=∅
 rwa[ca h2 #[P,_,en,_,λp=>p=0\/∃t∈ts,IN t p=ζ,rfl,pp,#[by rw[ae];omega,λq B p hq hB hp=>.inr ?_,λp hp=>?_],.inl rfl,λT told ls lots rs S2 tb dl x2 sp rc=>?_]]
 .let#[B',e,rfl]:=uL hB
  rw[bP,aj] at hp;erw[K2 A hq e hp.1]
 .rw[ae]
  rcases hp with rfl|⟨t,m,i⟩
  .erw[b0]
  .rw[al];erw[aS (A.sgn t m p i)]
 have t0:0<told.length:=%[sp.len|aS sp.z]
 let#[_,_,_,_,rp]:=tb.o;have ll:=tb.ll;rwa[ca h3 #[T,told,ls,_,S1.length,rfl,tb,t0,dl,x2.1,λT' told' ls' go' b reps S3 tb' k3 #[l3,l4] M=>?_]];have z0:∀j c,told.length<=j->wV (ou sg) lots rs j c=ψ:=λj c hj=>rp.z j c ∅
 have z0':∀j c,told'.length<=j->go' j c=ψ:=λj c hj=>by
  let#[_,_,_,_,rp']:=tb'.o;erw[rp'.z j c (by rw[tb'.ll];exact hj)]
 have rcs:Xe told.length (wV (ou sg) lots rs):=λj j0 jl=>by
  let#[i,_,c,e1,_,e2,_,_,e3,e4]:=rc.p j j0 (by rw[<-sp.len];erw[jl]);exact#[i,c,e1,e2,e3,λi' c' k _=>e4 i' c' k]
 rwa[q T' told' ls' go' S3 tb' ?_ (λw hw=>?_) #[by have:=x1.1;have:=x2.1;omega,λn hn=>?_] (λd m=>aH (aH x1.1 x2.1) (l4 d m)) (λhS=>#[Oq M tb.cl z0 t0 rcs (Tp rcs (K3 A U sp rc hS)),To M tb.cl z0 z0' (K3 A U sp rc hS),Ot M tb.cl z0 z0'])]
 .rw[M.len]
  have:=M.a 0 t0;omega
 .rw[GN M tb.cl z0 z0' t0 w hw]
  erw[GL A U sp z0 w hw]
 .have:=x1.1
  rw[k3 n ∅,x2.2 n ∅,x1.2 n hn]
abbrev Ap(D:List Nat->Prop)(r:Nat)(y:List Nat):Prop:=∃w:List Nat,w.length<=r/\D (y++w)
abbrev Fs(P:Nat->Prop)(c:Nat):Prop:=∃i:Nat,SG[i]?=ξ c/\P c/\∀j c',j<i->SG[j]?=ξ c'->¬P c'
inductive Dw(D:List Nat->Prop)(r:Nat):List Nat->Prop
 |nil:Dw D r []
 |snoc{x:List Nat}{c:Nat}:Dw D r x->Fs (λc=>Ap D (r-1-x.length) (x++[c])) c->Dw D r (x++[c])
abbrev Ou(D:List Nat->Prop):Option (List Nat)->Prop
 |none=>∀w,¬D w
 |some x=>Ap D x.length []/\(∀k,k<x.length->¬Ap D k [])/\Dw D x.length x
def Tq(h:Ap D 0 y):D y:=by
 let#[w,l,d]:=h;have:=gx (Nat.le_zero.mp l);subst this;rw[bT] at d;erw[d]
def Pg(h:Ou D (ξ x)):D x:=by
 let#[h1,_,h3]:=h;have aux:∀r x,Dw D r x->x.length=r->Ap D r []->D x:=by
  intro r x h;cases h with
  |nil=>intro e a;cases e;erw[Tq a]
  |snoc k1 k2=>
   rename_i x c;intro e _;let#[i,_,p,_]:=k2;have z:r-1-x.length=0:=by simp at e;omega
   have p':Ap D (r-1-x.length) (x++[c]):=p;rw[z] at p';erw[Tq p']
 erw[aux _ _ h3 rfl h1]
def Xg(hD:∀w,D w->∀c∈w,c∈SG):Ap D (k+1) y↔Ap D k y\/∃c,c∈SG/\Ap D k (y++[c]):=by
 constructor
 .rintro⟨w,l,d⟩
  cases w with
  |nil=>erw[.inl #[[],bJ _,d]]
  |cons c w=>
   rwa[.inr #[c,hD _ d c (#v[]),w,Nat.le_of_succ_le_succ l,?_]];rw[bw];erw[d]
 .rintro(⟨w,l,d⟩|⟨c,_,w,l,d⟩)
  .exact#[w,jH l,d]
  .refine#[c::w,n8 l,?_]
   rw[bw] at d;erw[d]
section
variable{told:List (Option Nat)}{g:Nat->Nat->Nat}{p q:Nat}{D:List Nat->Prop}
def tJ(hD:∀w,D w↔(∀c∈w,c∈SG)/\told[w.foldl g p]?≠told[w.foldl g q]?):∀(k:Nat)(y:List Nat),(∀c∈y,c∈SG)->(Eqv told g k (y.foldl g p) (y.foldl g q)↔¬Ap D k y)
 |0,y,hy=>by
  constructor
  .intro e a
   exact((hD y).mp (Tq a)).2 e
  .intro n
   rwa[eS λz=>n #[[],ar _,?_]]
   rw[bT]
   exact(hD y).mpr #[hy,z]
 |k+1,y,hy=>by
  have sg:∀c,c∈SG->∀c'∈y++[c],c'∈SG:=λc hc c' m=>by
   rcases aL.mp m with m|m
   .erw[hy _ m]
   .have:c'=c:=by simpa using m
    rw[this];erw[hc]
  have st:∀c r,(y++[c]).foldl g r=g (y.foldl g r) c:=λc r=>by rw[fG];rfl
  rw[Xg λw h=>((hD w).mp h).1]
  constructor
  .rintro⟨e1,e2⟩ (a|⟨c,hc,a⟩)
   .exact(tJ hD k y hy).mp e1 a
   .refine(tJ hD k (y++[c]) (sg c hc)).mp ?_ a
    rw[st,st];erw[e2 c hc]
  .intro n
   refine#[(tJ hD k y hy).mpr λa=>n (.inl a),λc hc=>?_];have:=(tJ hD k (y++[c]) (sg c hc)).mpr λa=>n (.inr #[c,hc,a])
   rw[st,st] at this;erw[this]
def wg(hc:∀j c,j<N->c∈SG->g j c<N)(h:∀i j,i<N->j<N->Eqv told g m i j->Eqv told g (m+1) i j):∀k i j,i<N->j<N->Eqv told g m i j->Eqv told g (m+k) i j
 |0,_,_,_,_,e=>e
 |k+1,i,j,hi,hj,e=>#[wg hc h k i j hi hj e,λc m'=>wg hc h k _ _ (hc i c hi m') (hc j c hj m') ((h i j hi hj e).2 c m')]
end
abbrev gJ(n:Nat)(g1 g2:Nat->Nat->Option Nat)(j c:Nat):Option Nat:=if j<n then g1 j c else(g2 (j-n) c).map (·+n)
def BH{go:Nat->Nat->Option Nat}:∀w:List Nat,w.foldl (λs c=>s.bind λj=>go j c) ψ=ψ
 |[]=>rfl
 |_::w=>BH w
def wH(h:∀c,f N c=N):∀w:List Nat,w.foldl f N=N
 |[]=>rfl
 |c::w=>%[cR,h|wH h w]
def zL{f:Nat->Nat->Nat}{N n:Nat}{e:Nat->Nat}{go:Nat->Nat->Option Nat}(hN:∀c,f N c=N)(cl:∀j c k,c∈SG->go j c=ξ k->k<n)(hf:∀j c,j<n->f (e j) c=((go j c).map e).getD N):∀(w:List Nat)(j:Nat),j<n->(∀c∈w,c∈SG)->(w.foldl (λs c=>s.bind λj=>go j c) (ξ j)=ψ/\w.foldl f (e j)=N)\/∃k,k<n/\w.foldl (λs c=>s.bind λj=>go j c) (ξ j)=ξ k/\w.foldl f (e j)=e k
 |[],j,hj,_=>.inr #[j,hj,rfl,rfl]
 |c::w,j,hj,hw=>by
  rw[cR,cR,hf j c hj]
  show(w.foldl _ (go j c)=ψ/\_)\/∃k,k<n/\w.foldl _ (go j c)=ξ k/\_
  cases h:go j c with
  |none=>erw[.inl #[BH w,wH hN w]]
  |some k=>erw[zL hN cl hf w k (cl j c k (hw c (#v[])) h) λc' m=>hw c' (av _ m)]
section
variable{t1 t2:List (Option Nat)}{g1 g2:Nat->Nat->Option Nat}
def gd'{t:List (Option Nat)}{j:Nat}(h:j<t.length):t[j]?=ξ (t.getD j ψ):=by rw[az,ab h];rfl
def Xh(z2:∀j c,t2.length<=j->g2 j c=ψ)(c:Nat):gN (t1.length+t2.length) (gJ t1.length g1 g2) (t1.length+t2.length) c=t1.length+t2.length:=by
 unfold gN gJ;rw[if_neg ∅,z2 _ _ ∅];rfl
def Xi(c1:∀j c k,c∈SG->g1 j c=ξ k->k<t1.length)(z2:∀j c,t2.length<=j->g2 j c=ψ)(h1:0<t1.length){w:List Nat}(hw:∀c∈w,c∈SG):(t1++t2++[ψ])[w.foldl (gN (t1.length+t2.length) (gJ t1.length g1 g2)) 0]?=ξ (fst t1 g1 w):=by
 rcases zL (e:=id) (Xh (g1:=g1) z2) c1 (λj c hj=>by show gN _ _ j c=_;unfold gN gJ;rw[if_pos hj];cases g1 j c<;>rfl) w 0 h1 hw with⟨a,b⟩|⟨k,hk,a,b⟩
 .have b':w.foldl (gN (t1.length+t2.length) (gJ t1.length g1 g2)) 0=t1.length+t2.length:=b
  rw[b'];unfold fst Hh;rw[a,<-aq];simp
 .have b':w.foldl (gN (t1.length+t2.length) (gJ t1.length g1 g2)) 0=k:=b
  rw[b'];unfold fst Hh;rw[a,bw,ah hk];erw[gd' hk]
def Xj(c2:∀j c k,c∈SG->g2 j c=ξ k->k<t2.length)(z2:∀j c,t2.length<=j->g2 j c=ψ)(h2:0<t2.length){w:List Nat}(hw:∀c∈w,c∈SG):(t1++t2++[ψ])[w.foldl (gN (t1.length+t2.length) (gJ t1.length g1 g2)) t1.length]?=ξ (fst t2 g2 w):=by
 have r:=zL (e:=(·+t1.length)) (Xh (t1:=t1) (g1:=g1) z2) c2 (λj c hj=>by show gN _ _ (j+t1.length) c=_;unfold gN gJ;rw[if_neg ∅,sI]) w 0 h2 hw;rw[lI] at r;rcases r with⟨a,b⟩|⟨k,hk,a,b⟩
 .rw[b];unfold fst Hh;rw[a,<-aq];simp
 .rw[b];unfold fst Hh;rw[a,bw,ay ∅,sI,ah hk];erw[gd' hk]
def Ph(c1:∀j c k,c∈SG->g1 j c=ξ k->k<t1.length)(c2:∀j c k,c∈SG->g2 j c=ξ k->k<t2.length)(j c:Nat)(hc:c∈SG):gN (t1.length+t2.length) (gJ t1.length g1 g2) j c<(t1++t2++[ψ]).length:=by
 have l:(t1++t2++[ψ]).length=t1.length+t2.length+1:=by rw[aq,aq];rfl
 rw[l]
 unfold gN gJ;split
 .cases e:g1 j c with
  |none=>erw[cB _]
  |some k=>have:=c1 j c k hc e;erw[au this ∅]
 .cases e:g2 (j-t1.length) c with
  |none=>erw[cB _]
  |some k=>have:=c2 _ c k hc e;show k+t1.length<_;omega
end
abbrev DF(ts ts':List Tr)(w:List Nat):Prop:=(∀c∈w,c∈SG)/\∃o o',B3 ts w o/\B3 ts' w o'/\o≠o'
def K4{ts ts':List Tr}{f f':List Nat->Option Nat}(h:∀w,(∀c∈w,c∈SG)->B3 ts w (f w))(h':∀w,(∀c∈w,c∈SG)->B3 ts' w (f' w))(w:List Nat):DF ts ts' w↔(∀c∈w,c∈SG)/\f w≠f' w:=
 #[λ⟨k,o,o',a,b,c⟩=>#[k,%[zH (h w k) a,zH (h' w k) b|c]],λ⟨k,c⟩=>#[k,_,_,h w k,h' w k,c]]
open PL.Ly
def K5:∀l:List Nat,(∃c∈l,p c=ζ)->∃(c:Nat)(r:List Nat)(i:Nat),l.filter p=c::r/\l[i]?=ξ c/\p c=ζ/\∀j c',j<i->l[j]?=ξ c'->¬p c'=ζ
 |[],h=>by let#[c,m,_]:=h;cases m
 |a::l,h=>by
  by_cases z:p a=ζ
  .exact#[a,l.filter p,0,by rw[iO,if_pos z],rfl,z,λj c' hj=>absurd hj (dq _)]
  .let#[c,m,hc]:=h
   have m':c∈l:=by
    rcases aM.mp m with e|e
    .rw[e] at hc;erw[absurd hc z]
    .erw[e]
   let#[c',r,i,e1,e2,e3,e4]:=K5 l #[c,m',hc];refine#[c',r,i+1,%[iO,if_neg z|e1],e2,e3,λj d hj e=>?_];cases j with
   |zero=>
    have:a=d:=by simpa using e
    rw[<-this];erw[z]
   |succ j=>erw[e4 j d (Nat.lt_of_succ_lt_succ hj) e]
def tK(p:Nat->Bool)(hg:g S)(he:∀n k,k (.str [n]) S->e (.str [n]) S k):
  ∀(l:List Nat)(acc:List U),(∀n∈l,∀k,k (p n) S->c (.str [n]) S k)->acc.length+l.length<1000000->Q (acc++(l.filter p).map kW) S->mN g c e Q (l.map λn=>.str [n]) acc S
 |[],acc,_,hl,q=>#[hg,~~~hl,~~~q]
 |n::l,acc,hc,hl,q=>by
  dsimp[aU] at hl;refine#[hg,∅,hc n (#v[]) _ ?_];have hc':∀m∈l,∀k,k (p m) S->c (.str [m]) S k:=λm h=>hc m (av _ h)
  by_cases h:p n=ζ
  .rw[h]
   rwa[he n _ ?_];rwa[tK p hg he l _ hc' ((·)) ?_];rw[iO,if_pos h] at q;simpa[kW] using q
  .rw[fS] at h
   rw[h]
   rwa[tK p hg he l _ hc' ∅ ?_];rw[iO,if_neg (by rw[h];decide)] at q;erw[q]
def two_le:[a,b].length<=1000000:=by show 2<=1000000;decide
abbrev Ts:Spec:=λus S Q=>∃(n i j:Nat)(b:List Nat),us=[.loc n,.tup [aW i,aW j]]/\S[n]?=ξ (.lst (b.map aW))/\i<b.length/\j<b.length/\Q (.bl (!(b.getD i 0==b.getD j 0))) S
def Tt(h:q (!(a==b))):iP .ne (aW a) (aW b) S q:=by
 show iP .ne (.int _) (.int _) S q
 rw[Vs]
 refine#[rfl,?_];rw[Vt]
 have:(((a:Nat):Int)== ((b:Nat):Int))=(a==b):=by
  rw[cy,beq_iff_eq,beq_iff_eq];omega
 rw[this];erw[h]
def Xk(Γ:cv):Keeps Γ lZ 0 Ts:=by
 rintro us S Q ⟨n,i,j,b,rfl,h,hi,hj,q⟩;unfold lZ;room;refine#[two_le,?_];show CP (.loc n) (.int ((i:Nat):Int)) S _;rw[IX,h,aF]
 rwa[tI hi #[two_le,?_]];show CP (.loc n) (.int ((j:Nat):Int)) S _;rw[IX,h,aF]
 erw[tI hj (Tt q)]
abbrev K6:Spec:=λus S Q=>∃(n i j c:Nat)(ls:List Nat)(g:Nat->Nat->Nat),us=[.loc n,.tup [aW i,aW j],.str [c]]/\Rw S n ls g/\i<ls.length/\j<ls.length/\c∈SG/\Q (.tup [aW (g i c),aW (g j c)]) S
def Pj(R:Rw S n ls g)(hi:i<ls.length)(hc:c∈SG)(q:r (aW (g i c))):CP (.loc n) (aW i) S λv=>MJ v (.str [c]) S r:=by
 show CP (.loc n) (.int ((i:Nat):Int)) S _
 rw[IX,R.l,aF]
 have e:ls[i]?=ξ ls[i]:=ab hi;rwa[at_of e ?_];rw[Vw,R.d _ _ e]
 refine#[rfl,?_];rw[wb hc]
 erw[q]
def Xl(Γ:cv):Keeps Γ iY 0 K6:=by
 rintro us S Q ⟨n,i,j,c,ls,g,rfl,R,hi,hj,hc,q⟩;unfold iY;room;exact#[two_le,Pj R hi hc #[two_le,Pj R hj hc #[two_le,q]]]
abbrev Ow:Spec:=λus S Q=>∃(nb nr i j:Nat)(b ls:List Nat)(g:Nat->Nat->Nat),us=[.loc nb,.loc nr,.tup [aW i,aW j]]/\S[nb]?=ξ (.lst (b.map aW))/\Rw S nr ls g/\i<ls.length/\j<ls.length/\(∀c∈SG,g i c<b.length/\g j c<b.length)/\(∃c∈SG,b.getD (g i c) 0≠b.getD (g j c) 0) /\
 ∀c S',Fs (λc=>b.getD (g i c) 0≠b.getD (g j c) 0) c->Ext S S'->Q (.str [c]) S'
def Xm(Γ:cv)(h1:Γ "are_apart"=Ts)(h2:Γ "states_behind"=K6):Keeps Γ kS 0 Ow:=by
 rintro us S Q ⟨nb,nr,i,j,b,ls,g,rfl,hb,R,hi,hj,hg,⟨c0,m0,n0⟩,q⟩;unfold kS pSa;let#[c,r,i0,e1,e2,e3,e4]:=K5 (p:=λc=>!(b.getD (g i c) 0==b.getD (g j c) 0)) SG #[c0,m0,~~~n0];have gl:SG.length=95:=rfl;have hF:Fs (λc=>b.getD (g i c) 0≠b.getD (g j c) 0) c:=#[i0,e2,~~~e3,λj' c' a d=>by have:=e4 j' c' a d;simpa using this]
 have hR:∀c∈SG,∀(k:KU),k (.bl (!(b.getD (g i c) 0==b.getD (g j c) 0))) S->Γ "states_behind" [.loc nr,.tup [aW i,aW j],.str [c]] S (λu S1=>Γ "are_apart" [.loc nb,u] S1 k):=λc hc k z=>by
  rw[h2]
  refine#[nr,i,j,c,ls,g,rfl,R,hi,hj,hc,?_];rw[h1]
  exact#[nb,_,_,b,rfl,hb,(hg c hc).1,(hg c hc).2,z]
 generalize SG=G at *;room;rwa[tK (λc=>!(b.getD (g i c) 0==b.getD (g j c) 0)) trivial (λ_ _ z=>z) G [] (λn hn k z=>hR n hn _ z) (by rw[gl];decide) ?_];rw[e1]
 have x:Ext S (S++[SO.lst ([]++(c::r).map kW)]):=Ext.app _;rw[show(S++[SO.lst ([]++(c::r).map kW)])[S.length]?=ξ (SO.lst ((c::r).map kW)) by simp,aF]
 erw[at_of (f:=kW) (l:=c::r) (j:=0) rfl (q c _ hF x)]
abbrev uS:Option (List Nat)->U
 |none=>.cf
 |some x=>.str x
def Tv(h:∀c∈SG,P c↔P' c)(f:Fs P c):Fs P' c:=by
 let#[i,e,a,n]:=f;exact#[i,e,(h c (ai e)).mp a,λj c' hj e' z=>n j c' hj e' ((h c' (ai e')).mpr z)]
def fold_lt(hc:∀j c,j<N->c∈SG->g j c<N):∀(w:List Nat)(p:Nat),p<N->(∀c∈w,c∈SG)->w.foldl g p<N
 |[],_,hp,_=>hp
 |c::w,p,hp,hw=>fold_lt hc w _ (hc p c hp (hw c (#v[]))) λc' m=>hw c' (av _ m)
def EU(h:∀c∈x,c∈SG)(hc:c∈SG):∀c'∈x++[c],c'∈SG:=λc' m=>by
 rcases aL.mp m with m|m
 .erw[h _ m]
 .have:c'=c:=by simpa using m
  rw[this];erw[hc]
abbrev Xn:Spec:=λus S Q=>∃(F nr p q:Nat)(fs ls:List Nat)(g:Nat->Nat->Nat)(told:List (Option Nat))(D:List Nat->Prop),us=[.loc F,.loc nr,.tup [aW p,aW q]]/\S[F]?=ξ (.lst (fs.map .loc))/\KY told g S fs/\Rw S nr ls g/\told.length=ls.length/\ls.length<=9000/\(∀j c,j<told.length->c∈SG->g j c<told.length)/\p<told.length/\q<told.length/\(∀w,D w↔(∀c∈w,c∈SG)/\told[w.foldl g p]?≠told[w.foldl g q]?) /\
 ∀res S',Ou D res->(∀x,res=ξ x->x.length<=9000)->Ext S S'->Q (uS res) S'
structure TaI(D:List Nat->Prop)(k i:Nat)(x:List Nat):Prop where
 l:x.length=i
 w:Dw D k x
 s:∀c∈x,c∈SG
 a:Ap D (k-i) x
def Oy(Γ:cv)(h2:Γ "states_behind"=K6)(h3:Γ "sign_apart"=Ow){S:bM}{nr p q k i n:Nat}{fs ls x:List Nat}{g:Nat->Nat->Nat}{told:List (Option Nat)}{D:List Nat->Prop}{y0 y2 y3:Option U}{K:Env->bM->Prop}{Q:KU}(kl:k<=9001)(Rs:KY told g S fs)(R:Rw S nr ls g)(tl:told.length=ls.length)(hc:∀j c,j<told.length->c∈SG->g j c<told.length)(hp:p<told.length)(hq:q<told.length)(hD:∀w,D w↔(∀c∈w,c∈SG)/\told[w.foldl g p]?≠told[w.foldl g q]?)(mn:∀j,j<k->¬Ap D j [])(hi:i<k)(hn:fs[k-1-i]?=ξ n)(I:TaI D k i x)
  (z:∀S' x',Ext S S'->TaI D k (i+1) x'->K [y0,ξ (.loc nr),y2,y3,ξ (.str x'),ξ (.tup [aW (x'.foldl g p),aW (x'.foldl g q)]),ξ (.loc n)] S'):
  Rest Γ Ya #[K,Q] [y0,ξ (.loc nr),y2,y3,ξ (.str x),ξ (.tup [aW (x.foldl g p),aW (x.foldl g q)]),ξ (.loc n)] S:=by
 let#[b,e1,e2]:=Rs.r _ _ hn;have ek:k-i=(k-1-i)+1:=∅
 have P:=fold_lt hc x p hp I.s;have P':=fold_lt hc x q hq I.s;have st:∀c r,(x++[c]).foldl g r=g (x.foldl g r) c:=λc r=>by rw[fG];rfl
 have key:∀c∈SG,(b.getD (g (x.foldl g p) c) 0≠b.getD (g (x.foldl g q) c) 0)↔Ap D (k-1-i) (x++[c]):=λc m=>by
  have a1:=e2.iff _ _ (hc _ c P m) (hc _ c P' m);have a2:=tJ hD (k-1-i) (x++[c]) (EU I.s m);rw[st,st] at a2;rw[Ne,a1,a2]
  exact#[λh=>eS h,λh h'=>h' h]
 have ex:∃c∈SG,b.getD (g (x.foldl g p) c) 0≠b.getD (g (x.foldl g q) c) 0:=by
  have a:=I.a;rw[ek,Xg λw h=>((hD w).mp h).1] at a;rcases a with⟨w,wl,d⟩|⟨c,m,a⟩
  .erw[absurd #[x++w,by rw[aq,I.l];omega,d] (mn (k-1) ∅)]
  .exact#[c,m,(key c m).mpr a]
 unfold Ya;room;rwa[ca h3 #[n,nr,_,_,b,ls,g,rfl,e1,R,by rw[<-tl];erw[P],by rw[<-tl];erw[P'],λc m=>by rw[e2.len];exact#[hc _ c P m,hc _ c P' m],ex,λc S1 f x1=>?_]];have m:c∈SG:=let ⟨_,e,_⟩:=f;ai e;have f':=Tv key f;room;have xl:=I.l;refine#[by rw[xl];show i+1<=1000000;omega,?_];room;refine#[by rw[aq,xl];show i+1<=1000000;omega,?_];rw[show(-1:Int)= -1 from rfl,uP]
 rwa[ca h2 #[nr,_,_,c,ls,g,rfl,R.ext x1,by rw[<-tl];erw[P],by rw[<-tl];erw[P'],m,?_]];room;rw[<-st,<-st]
 rwa[z S1 (x++[c]) x1 #[by rw[aq,xl];rfl,.snoc I.w (%[xl|f']),EU I.s m,?_]];rw[show k-(i+1)=k-1-i by omega]
 exact(key c m).mp (let ⟨_,_,a,_⟩:=f;a)
def w_rev{Γ:cv}{e:Ex}{env:Env}{S:bM}{R:List U->(bM->Prop)->bM->Prop}:WI Γ (.rev e) env S R=WE Γ e env S (λx S1=>sE x λn=>getL S1[n]? λus=>R us.reverse (λS'=>S'[n]?=ξ (.lst us)) S1):=rfl
def Oz{l:List U}{k:Nat}:rJ l ψ (ξ (k:Int))=l.take k:=by
 unfold rJ;dsimp[jM,eJ,dA,show(0:Int).toNat=0 from rfl,Nat.zero_min,jC,Cf];rcases Nat.le_total k l.length with h|h
 .rw[Nat.min_eq_left h]
 .rw[uZ h,eI h,cb]
def aau{n k:Nat}{us:List U}{S:bM}{Q:KU}(h:S[n]?=ξ (.lst us))(q:Q (.loc S.length) (S++[.lst (us.take k)])):T8 (.loc n) ψ (ξ (k:Int)) S Q:=by
 refine#[#[λi h=>(by cases h),λi h=>?_],?_]
 .injection h with h;rw[<-h];erw[Ht _]
 .show getL S[n]? _
  rw[h,aF,Oz];erw[q]
def OA(Γ:cv)(h2:Γ "states_behind"=K6)(h3:Γ "sign_apart"=Ow){S:bM}{F nr p q k:Nat}{fs ls:List Nat}{g:Nat->Nat->Nat}{told:List (Option Nat)}{D:List Nat->Prop}{Q:KU}(fl:fs.length<=9001)(kl:k<fs.length)(hF:S[F]?=ξ (.lst (fs.map .loc)))(Rs:KY told g S fs)(R:Rw S nr ls g)(tl:told.length=ls.length)(hc:∀j c,j<told.length->c∈SG->g j c<told.length)(hp:p<told.length)(hq:q<told.length)(hD:∀w,D w↔(∀c∈w,c∈SG)/\told[w.foldl g p]?≠told[w.foldl g q]?)(mn:∀j,j<k->¬Ap D j [])(ap:Ap D k [])
  (z:∀x S',Ou D (ξ x)->x.length<=9000->Ext S S'->Q (.str x) S'):
  Rest Γ (.cons (.set 4 (.lit (.str []))) (.cons (.set 5 @2) (.cons (.j7 (.name 6) (.rev (.sl @0 .no (.e @3))) Ya) (.cons (.ret @4) .nil)))) #[λ_ S1=>Q .cf S1,Q] [ξ (.loc F),ξ (.loc nr),ξ (.tup [aW p,aW q]),ξ (aW k),ψ,ψ,ψ] S:=by
 room;rw[w_rev]
 room;rwa[aau hF ?_];rw[<-List.map_take]
 have x1:Ext S (S++[SO.lst ((fs.take k).map U.loc)]):=Ext.app _;have g1:(S++[SO.lst ((fs.take k).map U.loc)])[S.length]?=ξ (.lst ((fs.take k).map U.loc)):=by simp
 generalize S.length=n1 at g1;generalize S++[SO.lst ((fs.take k).map U.loc)]=S1 at x1 g1;show getL S1[n1]? _;rw[g1,aF,<-List.map_reverse]
 have rs:∀S2,Ext S S2->KY told g S2 fs:=λS2 x=>#[λk n e=>let ⟨b,a,c⟩:=Rs.r k n e;#[b,x.get a,c],Rs.ne,Rs.st,Rs.le]
 rwa[fj (λi env S2=>Ext S1 S2/\∃(x:List Nat)(y:Option U),TaI D k i x/\env=[ξ (.loc F),ξ (.loc nr),ξ (.tup [aW p,aW q]),ξ (aW k),ξ (.str x),ξ (.tup [aW (x.foldl g p),aW (x.foldl g q)]),y]) (λi env S2 h=>h.1.get g1) _ ?_ ?_ #[.refl,[],ψ,#[rfl,.nil,λc m=>(by cases m),%[Cf|ap]],rfl]]
 .rintro i u env S2 K hu ⟨x2,x,y,I,rfl⟩ hK
  let#[n,en,rfl]:=gg hu;have hi:i<k:=by
   have:=(ag.mp en).1;rw[k8,cH] at this;erw[au this (Nat.min_le_left _ _)]
  have tk:(fs.take k).length=k:=by rw[cH];omega
  rw[pv (%[tk|hi]),tk,List.getElem?_take,if_pos ∅] at en;erw[Oy Γ h2 h3 (k:=k) ∅ (rs S2 (x1.trans x2)) (R.ext (x1.trans x2)) tl hc hp hq hD mn hi en I λS3 x' x3 I'=>hK _ _ #[x2.trans x3,x',_,I',rfl]]
 .rintro env S2 ⟨x2,x,y,I,rfl⟩
  have tk:((fs.take k).reverse.map U.loc).length=k:=by rw[ae,k8,cH];omega
  rw[tk] at I;room;have xl:=I.l;erw[z x S2 #[by rw[xl];exact ap,λj hj=>mn j ∅,by rw[xl];exact I.w] ∅ (x1.trans x2)]
def Xo(Γ:cv)(h1:Γ "are_apart"=Ts)(h2:Γ "states_behind"=K6)(h3:Γ "sign_apart"=Ow):Keeps Γ kR 4 Xn:=by
 rintro us S Q ⟨F,nr,p,q,fs,ls,g,told,D,rfl,hF,Rs,R,tl,ll,hc,hp,hq,hD,z⟩;have fl:fs.length<=9001:=aH Rs.le ∅;have ap:∀k,Eqv told g k p q↔¬Ap D k []:=λk=>tJ hD k [] (λc m=>by cases m)
 unfold kR;room;refine#[fs.length+1,nM (λN env S1=>∃k,N=fs.length-k/\k<=fs.length/\(∀i,i<k->¬Ap D i [])/\S1=S/\env=[ξ (.loc F),ξ (.loc nr),ξ (.tup [aW p,aW q]),ξ (aW k),ψ,ψ,ψ]) ?_ _ fs.length _ _ (cB _) #[0,rfl,bJ _,λi hi=>absurd hi (dq _),rfl,rfl]];rintro N env S1 K ⟨k,rfl,kl,inv,rfl,rfl⟩ hK;room;rw[lS hF,bg,ae]
 refine#[∅,?_];by_cases hk:k<fs.length
 .have e1:decide ((k:Int)<(fs.length:Int))=ζ:=by rw[decide_eq_true_iff];omega
  rw[if_pos e1,hF,aF]
  have en:fs[k]?=ξ fs[k]:=ab hk;rwa[at_of en ?_];let#[b,eb,rb]:=Rs.r _ _ en;rwa[ca h1 #[_,p,q,b,rfl,eb,%[rb.len|hp],%[rb.len|hq],?_]];have key:=(rb.iff p q hp hq).trans (ap k);by_cases e2:b.getD p 0=b.getD q 0
  .have e3:(b.getD p 0==b.getD q 0)=ζ:=%[beq_iff_eq|e2]
   rw[e3]
   room;have e4:U.int ((k:Int)+1)=aW (k+1):=rfl;rw[e4]
   exact hK (fs.length-(k+1)) _ _ ∅ #[k+1,rfl,hk,λi hi=>by
    rcases jb.mp hi with h|h
    .erw[inv i h]
    .rw[h];erw[key.mp e2],rfl,rfl]
  .have e3:(b.getD p 0==b.getD q 0)=ϑ:=%[beq_eq_false_iff_ne|e2]
   rw[e3]
   room;rw[lS hF,bg,ae]
   refine#[∅,?_];have e5:¬((k:Int)== (fs.length:Int))=ζ:=by rw[beq_iff_eq];omega
   rw[if_neg e5]
   rwa[Rest.go ?_];dsimp[A7];erw[OA Γ h2 h3 fl hk hF Rs R tl hc hp hq hD inv (eS λh=>e2 (key.mpr h)) λx S' d l x'=>z (ξ x) S' d (λy e=>by cases e;exact l) x']
 .have e1:¬decide ((k:Int)<(fs.length:Int))=ζ:=by rw[decide_eq_true_iff];omega
  rw[if_neg e1]
  room;rw[lS hF,bg,ae]
  refine#[∅,?_];have ek:k=fs.length:=∅
  have e5:((k:Int)== (fs.length:Int))=ζ:=by rw[beq_iff_eq];omega
  rw[if_pos e5]
  room;rwa[z ψ S1 (λw d=>?_) (λy e=>by cases e) .refl];have f0:0<fs.length:=Fl.mpr Rs.ne;have e6:fs.length-1+1=fs.length:=∅
  have e7:=(ap (fs.length-1)).mpr (inv _ ∅);have e8:=wg (m:=fs.length-1) hc (%[e6|Rs.st]) w.length p q hp hq e7;exact(ap _).mp e8 #[w,Nat.le_add_left _ _,d]
def Tw{Γ:cv}{S:bM}{d N:Nat}{f:Nat->Option Nat}{k:KU}(hd:S[d]?=ξ (.dZ (sD (cV SG f)))\/S[d]?=ξ (.qC (sD (cV SG f))))
  (q:∀m S',Ext (S.set d (.qC (sD (cV SG f)))) S'->S.length<=m->S'[m]?=ξ (.dZ (sD (cV SG λc=>(f c).map λk=>k+N)))->k (.loc m) S'):WE Γ ZJ [ξ (.loc d),ξ (aW N)] S k:=by
 unfold ZJ;have gl:SG.length=95:=rfl;have nd:=zF;let#[ps,e1,e2,e3,e4,e5]:=zG f (λk=>k+N) SG;have lk:∀p∈ps,uC (.str [p.1]) (sD (cV SG f))=ξ (aW p.2):=λp m=>by rw[EN,wd,if_pos (e3 p m).1,(e3 p m).2];rfl
 rw[e2] at q;have ey:(sD (cV SG f)).map (·.1)=ps.map λp=>U.str [p.1]:=by rw[e1];unfold sD;simp[cJ]
 have nd':=e4 nd;generalize cV SG f=rw0 at *;room;have e0:∀R,jm S[d]? R=R (sD rw0):=λR=>by rcases hd with h|h<;>rw[h]<;>rfl
 rw[e0,ey]
 have dl:d<S.length:=by rcases hd with h|h<;>exact aS h
 have g1:(S.set d (.qC (sD rw0)))[d]?=ξ (.qC (sD rw0)):=bA dl;have l1:(S.set d (.qC (sD rw0))).length=S.length:=b9;generalize S.set d (.qC (sD rw0))=S1 at g1 q l1;rwa[jY (S:=S1) _ (ps.map λp=>.tup [.str [p.1],aW (p.2+N)]) (#v[]) ((·)) (λS' x=>x.get g1) (λu S' k h=>h) (λj u v hu hv S2 k x' hk=>?_) λS2 x'=>?_]
 .rw[aB] at hu hv
  let#[p,hp,rfl]:=ak.mp hu;rw[hp] at hv;have hv:U.tup [.str [p.1],aW (p.2+N)]=v:=by simpa using hv
  subst hv;have m:=ai hp;rw[x'.get g1]
  refine#[rfl,?_];rw[lk p m]
  exact#[two_le,hk S2 .refl]
 .refine#[ps.map λp=>([p.1],aW (p.2+N)),by simp[cJ],?_,?_]
  .rw[bB]
   show(ps.map λp=>[p.1]).Nodup
   have e:(ps.map λp=>[p.1])=(ps.map (·.1)).map λc=>[c]:=by rw[bB];rfl
   rw[e]
   erw[oQ _ (λa b h z=>h (Hg z).1) nd']
  .erw[q _ _ (x'.trans ((Ext.app _).trans (Ext.app _))) (by have:=x'.1;rw[aq];omega) (by rw[ay (ar _),bZ];rfl)]
abbrev Xp:Spec:=λus S Q=>∃(n N:Nat)(ls:List Nat)(go:Nat->Nat->Option Nat),us=[.loc n,aW N]/\Rp S n ls go/\ls.length<=5000/\∀(m:Nat)(S':bM)(ms:List Nat),Kp ls S S'->ms.length=ls.length->S'[m]?=ξ (.lst (ms.map .loc))->(∀(j d:Nat),ms[j]?=ξ d->S'[d]?=ξ (.dZ (sD (cV SG λc=>(go j c).map λk=>k+N))))->Q (.loc m) S'
structure MvI(S:bM)(n N:Nat)(ls:List Nat)(go:Nat->Nat->Option Nat)(i:Nat)(ms:List Nat)(S1:bM):Prop where
 k:Kp ls S S1
 l:ms.length=i
 o:∀(j d:Nat),ls[j]?=ξ d->S1[d]?=ξ (.dZ (sD (cV SG (go j))))\/S1[d]?=ξ (.qC (sD (cV SG (go j))))
 d:∀(j d:Nat),ms[j]?=ξ d->S.length<=d/\S1[d]?=ξ (.dZ (sD (cV SG λc=>(go j c).map λk=>k+N)))
def Xq(Γ:cv):Keeps Γ uG 0 Xp:=by
 rintro us S Q ⟨n,N,ls,go,rfl,R,hl,q⟩;unfold uG;have lo:∀(j d:Nat),ls[j]?=ξ d->d<S.length:=λj d e=>aS (R.d j d e)
 have nn:n∉ls:=λh=>by
  let#[j,e]:=bR h;have:=R.d j n e;rw[R.l] at this;cases this
 room;rw[R.l,aF]
 refine gB (ls.map U.loc) (λi acc S1=>∃ms:List Nat,acc=ms.map .loc/\MvI S n N ls go i ms S1) (λi acc S1 hi h=>?_) (λi u acc S1 k hu hi hk=>?_) (λacc S1 h=>?_) #[[],rfl,.refl,rfl,λj d e=>.inl (R.d j d e),λj d e=>by simp at e]
 .let#[ms,rfl,I]:=h
  rw[ae] at hi;exact#[I.k.get R.l nn,by rw[ae,I.l];omega]
 .let#[ms,rfl,I]:=hi
  let#[d,ed,rfl]:=gg hu;rwa[Tw (I.o i d ed) λm S2 x2 ml g2=>?_]
  have mX:=ai ed;have dl:=lo i d ed;have kl:S.length<=S1.length:=I.k.1;have ne:∀{a:Nat}{o:SO},a≠d->S1[a]?=ξ o->S2[a]?=ξ o:=λ{a o}h e=>x2.get (%[ao (cM h)|e])
  have g3:S2[d]?=ξ (.qC (sD (cV SG (go i)))):=x2.get (bA (au dl kl));rwa[hk _ _ #[ms++[m],by rw[aI];rfl,I.k.trans ((Kp.set mX).trans (Ext.kp x2)),by rw[aq,I.l];rfl,λj d' e=>?_,λj d' e=>?_]]
  .by_cases h:d'=d
   .subst h
    have a:=I.o i d' ed;have b:=I.o j d' e;have:sD (cV SG (go i))=sD (cV SG (go j)):=by
     rcases a with a|a<;>rcases b with b|b<;>rw[a] at b<;>injection b with b<;>first| (injection b with b)|cases b
    erw[.inr (by rw[<-this];exact g3)]
   .exact(I.o j d' e).imp (ne h) (ne h)
  .rcases nP e with e|⟨rfl,rfl⟩
   .have z:=I.d j d' e
    exact#[z.1,ne (cD (au dl z.1)) z.2]
   .rw[I.l]
    exact#[aH kl ml,g2]
 .let#[ms,rfl,I]:=h
  have x:=Ext.app (S:=S1) [SO.lst (ms.map U.loc)];exact q _ _ ms (I.k.trans (Ext.kp x)) (by have:=I.l;rw[ae] at this;erw[this]) (#v[]) λj d e=>x.get (I.d j d e).2
abbrev Xr:Spec:=λus S Q=>∃(T k R:Nat)(told:List (Option Nat)),us=[.loc T]/\S[T]?=ξ (Of k told R)/\told.length<=1000000/\Q (aW told.length) S
def Xs(Γ:cv):Keeps Γ kQ 0 Xr:=by
 rintro us S Q ⟨T,k,R,told,rfl,h,hl,q⟩;unfold kQ;room;rw[Ds h]
 room;try rw[ae]
 exact#[hl,q]
abbrev OB:Spec:=λus S Q=>∃(n n':Nat)(xs xs':List (List Nat))(ts ts':List Tr),us=[.loc n,.loc n']/\S[n]?=ξ (.lst (xs.map .str))/\S[n']?=ξ (.lst (xs'.map .str))/\WA ts xs/\zw ts/\fm ts<=10/\WA ts' xs'/\zw ts'/\fm ts'<=10/\∀res S',Ou (DF ts ts') res->(∀x,res=ξ x->x.length<=9000)->Ext S S'->Q (uS res) S'
def Xt(Γ:cv)(h1:Γ "table_of"=GO)(h2:Γ "Table.size"=Xr)(h3:Γ "moved"=Xp)(h4:Γ "with_nowhere"=KS)(h5:Γ "rounds"=KZ)(h6:Γ "text_apart"=Xn):Keeps Γ kP 4 OB:=by
 rintro us S Q ⟨n,n',xs,xs',ts,ts',rfl,gn,gn',r1,t1,s1,r2,t2,s2,q⟩;unfold kP;room;rwa[ca h1 #[n,xs,ts,rfl,gn,r1,t1,s1,λT told ls go S1 tb p0 hf x1 nw _=>?_]];room;rwa[ca h1 #[n',xs',ts',rfl,x1.get gn',r2,t2,s2,λT' told' ls' go' S2 tb' p0' hf' x2 nw' _=>?_]];let#[k,R,g1,g2,g3]:=(tb.ext x2).o;let#[k',R',g1',g2',g3']:=tb'.o;have l1:=tb.sz;have l2:=tb'.sz;have l3:=tb.ll;have l4:=tb'.ll;room;rw[Ds g1,Ds g1']
 room;have ne:told.map uN≠[]:=λz=>by rw[qU.mp z] at p0;erw[dj _ p0]
 refine#[#[ne,by rw[ae,ae];omega],⋯,#[λz=>ne (oF.mp z).1,by rw[aq,ae,ae];show _+1<=_;omega],?_];have e1:told.map uN++told'.map uN++[U.cf]=(told++told'++[ψ]).map uN:=by rw[aI,aI];rfl
 rw[e1]
 room;rw[GK g1,GK g1',g1]
 refine#[#[rfl,rfl],ca h2 #[T,k,R,told,rfl,g1,∅,?_]];refine ca h3 #[R',told.length,ls',go',rfl,g3',∅,λm S3 ms kp ml gm gd=>?_];have nd:∀{a:Nat}{o:SO},S2[a]?=ξ o->(∀j,o≠.dZ (sD (cV SG (go' j))))->a∉ls':=λ{a o}h ho z=>by
  let#[j,hj]:=bR z;have:=g3'.d j a hj;rw[h] at this;erw[ho j (aK this)]
 have gT:S3[T]?=ξ (Of k told R):=kp.get g1 (nd g1 (by intro j;unfold Of;intro z;cases z));have gR:S3[R]?=ξ (.lst (ls.map .loc)):=kp.get g3.l (nd g3.l (by intro j z;cases z));have gl:∀(j d:Nat),ls[j]?=ξ d->S3[d]?=ξ (.dZ (sD (cV SG (go j)))):=λj d e=>by
  rwa[kp.get (g3.d j d e) λz=>?_]
  let#[_,_,_,_,r]:=tb.o;erw[u6 (aS (r.d j d e)) (nw' d z)]
 have x3:Ext S S3:=#[aH (aH x1.1 x2.1) kp.1,λa h=>by
  have h1:=au h x1.1;rw[kp.2 a (au h1 x2.1) λz=>u6 h1 (nw' a z),x2.2 a h1,x1.2 a h]]
 have z2:=g3'.z;rw[l4] at z2;have c1:=tb.cl;have c2:=tb'.cl
 clear g1 g2 g3 g1' g2' g3' x1 x2 gn gn' nw nw' kp nd
 room;rw[gR,aF,gm,aF]
 refine#[by rw[ae,ae];omega,?_];rw[<-aI]
 have x4:Ext S3 (S3++[SO.lst ((ls++ms).map U.loc)]):=Ext.app _;have g4:(S3++[SO.lst ((ls++ms).map U.loc)])[S3.length]?=ξ (.lst ((ls++ms).map U.loc)):=by simp
 generalize S3.length=n4 at g4;generalize S3++[SO.lst ((ls++ms).map U.loc)]=S4 at x4 g4;have ll:(ls++ms).length=told.length+told'.length:=by rw[aq];omega
 have rp:Rp S4 n4 (ls++ms) (gJ told.length go go'):=by
  refine#[g4,λj d e=>?_,λj c hj=>?_]
  .by_cases h:j<ls.length
   .rw[ah h] at e
    have:gJ told.length go go' j=go j:=funext λc=>by unfold gJ;rw[if_pos ∅]
    rw[this]
    erw[x4.get (gl j d e)]
   .rw[ay ∅] at e
    have:gJ told.length go go' j=λc=>(go' (j-ls.length) c).map λk=>k+told.length:=funext λc=>by unfold gJ;rw[if_neg ∅,l3]
    rw[this]
    erw[x4.get (gd _ d e)]
  .rw[ll] at hj
   unfold gJ;rw[if_neg ∅,z2 _ _ ∅];rfl
 rwa[ca h4 #[n4,ls++ms,_,rfl,rp,∅,λnr S5 m5 x5 ml5 R5=>?_]];rw[ll] at R5 ml5;have tl:(told++told'++[ψ]).length=told.length+told'.length+1:=by rw[aq,aq];rfl
 room;rwa[ca h5 #[nr,m5,_,told++told'++[ψ],rfl,R5,∅,∅,∅,λj c _ hc=>Ph c1 c2 j c hc,λF fs S6 x6 gF Rs=>?_]];have x46:=x4.trans (x5.trans x6);room;have gT6:=x46.get gT;rw[gT6]
 refine#[#[rfl,rfl],ca h2 #[T,k,R,told,rfl,gT6,∅,two_le,?_]];rwa[ca h6 #[F,nr,0,told.length,fs,m5,_,told++told'++[ψ],DF ts ts',rfl,gF,Rs,R5.ext x6,∅,∅,λj c _ hc=>Ph c1 c2 j c hc,∅,∅,λw=>?_,λres S7 d l x7=>q res S7 d l ((x3.trans x46).trans x7)]];rw[K4 hf hf' w]
 refine#[λ⟨a,b⟩=>#[a,?_],λ⟨a,b⟩=>#[a,?_]]
 .rw[Xi c1 z2 p0 a,Xj c2 z2 p0' a]
  erw[λh=>b (aK h)]
 .rw[Xi c1 z2 p0 a,Xj c2 z2 p0' a] at b
  erw[λh=>b (by rw[h])]
abbrev AR:List Nat->List Tr->Prop
 |[],K=>dv K=ζ
 |c::w,K=>∃K'∈dR K c,AR w K'
def EV(h:om n t)(n0:0<n):∀(w:List Nat)(H:Nat->Prop),En t (w.foldl (λH c=>stp t c H) H)↔∃p,H p/\AR w (ct t p)
 |[],H=>lJ
 |c::w,H=>by
  rw[cR,EV h n0 w]
  constructor
  .rintro⟨p,⟨q,hq,f,s⟩,a⟩
   exact#[q,hq,ct t p,(Kf h n0).mpr #[p,f,s,rfl],a]
  .rintro⟨q,hq,K,m,a⟩
   let#[p,f,s,rfl]:=(Kf h n0).mp m;exact#[p,#[q,hq,f,s],a]
def Pk(h:om n t)(n0:0<n)(w:List Nat):En t (hs t w)↔AR w [t]:=
 (EV h n0 w _).trans #[λ⟨p,e,a⟩=>by cases e;erw[a],λa=>#[0,rfl,a]]
def EW:∀(w:List Nat)(K:List Tr),AR w (K.map er)↔AR w K
 |[],K=>by unfold AR;rw[Kt]
 |c::w,K=>by
  unfold AR;rw[O7]
  constructor
  .rintro⟨K',m,a⟩
   let#[L,ml,rfl]:=bO.mp m;exact#[L,ml,(EW w L).mp a]
  .rintro⟨L,ml,a⟩
   exact#[L.map er,k7 ml,(EW w L).mpr a]
def qM:∀(w:List Nat)(J K:List Tr),AR w (J++K)↔∃u v,w=u++v/\AR u J/\AR v K
 |[],J,K=>by
  have e:AR [] (J++K)↔dv J=ζ/\dv K=ζ:=by unfold AR;rw[sd,aj]
  rw[e]
  refine#[λh=>#[[],[],rfl,h],λ⟨u,v,e,h⟩=>?_];let#[rfl,rfl]:=oF.mp e.symm;erw[h]
 |c::w,J,K=>by
  constructor
  .rintro⟨L,m,a⟩
   rw[tD] at m;rcases aL.mp m with m|m
   .let#[J',mj,rfl]:=bO.mp m
    let#[u,v,rfl,a1,a2]:=(qM w J' K).mp a;exact#[c::u,v,rfl,#[J',mj,a1],a2]
   .by_cases z:dv J=ζ
    .rw[if_pos z] at m
     exact#[[],c::w,rfl,z,L,m,a]
    .rw[if_neg z] at m;cases m
  .rintro⟨u,v,e,a1,a2⟩
   cases u with
   |nil=>
    cases e;let#[L,m,a]:=a2;exact#[L,%[tD|aR _ (by rw[if_pos (show dv J=ζ from a1)];exact m)],a]
   |cons d u=>
    cases e;let#[J',m,a]:=a1;exact#[J'++K,%[tD|bj _ (k7 m)],(qM _ J' K).mpr #[u,v,rfl,a,a2]]
abbrev Sm(K L:List Tr):Prop:=∀w,AR w K↔AR w L
def Sm.app(h:Sm J J')(k:Sm K K'):Sm (J++K) (J'++K'):=λw=>by
 rw[qM,qM]
 exact#[λ⟨u,v,e,a,b⟩=>#[u,v,e,(h u).mp a,(k v).mp b],λ⟨u,v,e,a,b⟩=>#[u,v,e,(h u).mpr a,(k v).mpr b]]
def Sm.null(h:Sm [a] [b]):null a=null b:=by
 have:=h [];dsimp[AR,dv,bG,List.all_nil,Bool.and_true] at this;erw[cy.mpr this]
def K7:AR [] [a]↔null a=ζ:=by simp[AR,dv]
def Dy:Sm [.row a b] [a,b]:=λw=>by
 cases w with
 |nil=>simp[AR,dv,null]
 |cons c w=>dsimp[AR,o9,dF,dR];simp
def EX(w:List Nat):AR w [.or a b]↔AR w [a]\/AR w [b]:=by
 cases w with
 |nil=>simp[AR,dv,null]
 |cons c w=>
  dsimp[AR,o9,dF];constructor
  .rintro⟨K,m,a⟩
   exact(aL.mp m).imp (λm=>#[K,m,a]) λm=>#[K,m,a]
  .rintro(⟨K,m,a⟩|⟨K,m,a⟩)
   .exact#[K,bj _ m,a]
   .exact#[K,aR _ m,a]
def mF:AR (c::w) [.rep m a]↔∃u v,w=u++v/\AR (c::u) [a]/\AR v (more m a):=by
 dsimp[AR,o9,dF];constructor
 .rintro⟨K,mk,h⟩
  let#[L,ml,rfl]:=bO.mp mk;let#[u,v,e,a1,a2]:=(qM _ _ _).mp h;exact#[u,v,e,#[L,ml,a1],a2]
 .rintro⟨u,v,e,⟨L,ml,a1⟩,a2⟩
  exact#[_,k7 ml,(qM _ _ _).mpr #[u,v,e,a1,a2]]
def zM(h:Sm [a] [b]):∀(n:Nat)(w:List Nat),w.length<=n->(AR w [.rep .star a]↔AR w [.rep .star b])
 |_,[],_=>#[λ_=>rfl,λ_=>rfl]
 |n+1,c::w,hl=>by
  have ih:∀{u v:List Nat},w=u++v->(AR v [.rep .star a]↔AR v [.rep .star b]):=λ{u v}e=>zM h n v (by have:=congrArg cw e;rw[aq] at this;rw[aU] at hl;omega)
  rw[mF,mF]
  exact#[λ⟨u,v,e,p,q⟩=>#[u,v,e,(h _).mp p,(ih e).mp q],λ⟨u,v,e,p,q⟩=>#[u,v,e,(h _).mpr p,(ih e).mpr q]]
def wj(h:Sm [a] [b]):Sm [.rep m a] [.rep m b]:=λw=>by
 cases w with
 |nil=>rw[K7,K7];cases m<;>dsimp[null,h.null]
 |cons c w=>
  have k:Sm (more m a) (more m b):=λv=>by
   cases m with
   |may=>erw[lJ]
   |star=>erw[zM h _ v (ar _)]
   |plus=>erw[zM h _ v (ar _)]
  rw[mF,mF]
  exact#[λ⟨u,v,e,p,q⟩=>#[u,v,e,(h _).mp p,(k v).mp q],λ⟨u,v,e,p,q⟩=>#[u,v,e,(h _).mpr p,(k v).mpr q]]
inductive qv:Tr->Tr->Prop where
 |one {n l}:qv (.one n l) (.one n l)
 |two {n x y}:qv (.one n [x,y]) (.or (.one n [y]) (.one n [x]))
 |row {a b a' b'}:qv a a'->qv b b'->qv (.row a b) (.row a' b')
 |or {a b a' b'}:qv a a'->qv b b'->qv (.or a b) (.or b' a')
 |rep {m a a'}:qv a a'->qv (.rep m a) (.rep m a')
 |plus {a a'}:qv a a'->qv (.rep .plus a) (.row a' (.rep .star a'))
 |star {a a'}:qv a a'->qv (.rep .star a) (.rep .may (.rep .plus a'))
 |may {a a'}:qv a a'->qv (.rep .may a) (.rep .may (.or a' a'))
def qv.sm(h:qv t t'):Sm [t] [t']:=by
 induction h with
 |one=>erw[λw=>lJ]
 |two=>
  rename_i n x y;intro w;rw[EX]
  cases w with
  |nil=>simp[AR,dv,null]
  |cons c w=>
   dsimp[AR,o9,dF,He,List.contains_nil,Bool.or_false];cases (c==x)<;>cases (c==y)<;>simp
 |row _ _ i j=>erw[λw=>(Dy w).trans ((i.app j w).trans (Dy w).symm)]
 |or _ _ i j=>intro w;rw[EX,EX,i w,j w];erw[Or.comm]
 |rep _ i=>erw[wj i]
 |plus _ i=>
  intro w;rw[wj i w,Dy w,show ∀(a b:Tr),[a,b]=[a]++[b] from λ_ _=>rfl,qM]
  cases w with
  |nil=>
   rw[K7]
   exact#[λz=>#[[],[],rfl,K7.mpr z,rfl],λ⟨u,v,e,p,_⟩=>by let#[rfl,rfl]:=oF.mp e.symm;erw[K7.mp p]]
  |cons c w=>
   rw[mF]
   constructor
   .rintro⟨u,v,rfl,p,q⟩;exact#[c::u,v,rfl,p,q]
   .rintro⟨u,v,e,p,q⟩
    cases u with
    |nil=>cases e;exact(mF (m:=.star)).mp q
    |cons d u=>cases e;exact#[u,v,rfl,p,q]
 |star _ i=>
  intro w;rw[wj i w]
  cases w with
  |nil=>exact#[λ_=>rfl,λ_=>rfl]
  |cons c w=>
   rw[mF,mF]
   constructor
   .rintro⟨u,v,rfl,p,q⟩;exact#[u++v,[],by rw[bT],mF.mpr #[u,v,rfl,p,q],rfl]
   .rintro⟨u,v,e,p,q⟩
    cases v with
    |nil=>rw[e,bT];exact(mF (m:=.plus)).mp p
    |cons d v=>let#[_,m,_]:=q;cases m
 |may _ i=>
  intro w;rw[wj i w]
  erw[wj (λw=>by rw[EX];exact#[.inl,λz=>z.elim id id]) w]
structure Hr(told:List (Option Nat))(go:Nat->Nat->Option Nat):Prop where
 n:0<told.length
 c:∀j c k,c∈SG->go j c=ξ k->k<told.length
 z:∀j c,told.length<=j->go j c=ψ
 m:Mna told go
section
variable{told told':List (Option Nat)}{go go':Nat->Nat->Option Nat}
abbrev Te(told told':List (Option Nat))(go go':Nat->Nat->Option Nat)(i j:Nat):Prop:=∀w:List Nat,(∀c∈w,c∈SG)->Tl told go i w=Tl told' go' j w
def Te.symm(h:Te told told' go go' i j):Te told' told go' go j i:=λw hw=>(h w hw).symm
def EY:Tl told go i (c::w)=Tl told go (gN told.length go i c) w:=rfl
def K8(T:Hr told go)(T':Hr told' go')(cm:c∈SG)(h:Te told told' go go' i j)(e:go i c=ξ k):∃k',go' j c=ξ k'/\k'<told'.length/\Te told told' go go' k k':=by
 have st:∀w:List Nat,(∀c∈w,c∈SG)->Tl told go k w=Tl told' go' (gN told'.length go' j c) w:=λw hw=>by
  have:=h (c::w) λx hx=>(aM.mp hx).elim (λz=>z▸cm) (hw x)
  rw[EY,EY] at this;rw[<-this]
  unfold gN;rw[e];rfl
 cases z:go' j c with
 |none=>
  let#[w,hw,ne]:=T.m.g i c k cm e;have:=st w hw;rw[show gN told'.length go' j c=told'.length by unfold gN;rw[z];rfl,zK T'.z] at this;erw[absurd this ne]
 |some k'=>
  refine#[k',rfl,T'.c j c k' cm z,λw hw=>?_];rw[st w hw]
  unfold gN;rw[z];rfl
def zN(T:Hr told go)(T':Hr told' go')(h0:Te told told' go go' 0 0)(ih:∀i,i<j->(i<told.length↔i<told'.length)/\(i<told.length->Te told told' go go' i i))(hj:j<told.length):j<told'.length/\Te told told' go go' j j:=by
 by_cases j0:0<j
 .let#[i,c,il,cm,e,er]:=T.m.r j j0 hj
  have ti:=(ih i il).2 (dm il hj);let#[k,e',kl,tk]:=K8 T T' cm ti e;rcases mU k j with y|y|y
  .have:=T.m.m j k hj (dm y hj) λw hw=>(tk w hw).trans ((ih k y).2 (dm y hj) w hw).symm
   omega
  .subst y;exact#[kl,tk]
  .have jl:=dm y kl
   let#[i2,c2,i2l,cm2,e2,er2]:=T'.m.r j j0 jl;have b1:=er2 i c k (dm il jl) cm e' y;have t2:=(ih i2 i2l).2 (dm i2l hj);let#[m,e3,ml,tm]:=K8 T' T cm2 t2.symm e2;rcases mU m j with x|x|x
   .have:=T'.m.m j m jl (dm x jl) λw hw=>(tm w hw).trans ((ih m x).2 (dm x hj) w hw)
    omega
   .subst x
    have:=T'.m.m k m kl jl λw hw=>(tk w hw).symm.trans (tm w hw).symm
    omega
   .have b2:=er i2 c2 m (dm i2l hj) cm2 e3 x
    unfold Uk at b1 b2;omega
 .have:j=0:=∅
  subst this;exact#[T'.n,h0]
def Tz(T:Hr told go)(T':Hr told' go')(h0:Te told told' go go' 0 0):∀j,(j<told.length↔j<told'.length)/\(j<told.length->Te told told' go go' j j):=λj=>by
 induction j using Nat.strongRecOn with
 |ind j ih=>
  refine#[#[λh=>(zN T T' h0 ih h).1,λh=>(zN T' T h0.symm (λi hi=>#[(ih i hi).1.symm,λz=>((ih i hi).2 ((ih i hi).1.mpr z)).symm]) h).1],λh=>(zN T T' h0 ih h).2]
def TB(T:Hr told go)(T':Hr told' go')(h0:∀w:List Nat,(∀c∈w,c∈SG)->fst told go w=fst told' go' w):told=told'/\∀j c,c∈SG->go j c=go' j c:=by
 have A:=Tz T T' λw hw=>by rw[<-Du T.z,<-Du T'.z];erw[h0 w hw]
 have el:told.length=told'.length:=by
  have a:=(A told.length).1;have b:=(A told'.length).1;omega
 refine#[List.ext_getElem el λj h1 h2=>?_,λj c cm=>?_]
 .have:=(A j).2 h1 [] λc m=>nomatch m
  unfold Tl at this;rw[iG,iG,zJ h1,zJ h2,az,az,ab h1,ab h2] at this;erw[this]
 .by_cases jl:j<told.length
  .have tj:=(A j).2 jl
   have key:∀{a b:List (Option Nat)}{g g':Nat->Nat->Option Nat},Hr a g->Hr b g'->(∀k,k<a.length->k<b.length/\Te a b g g' k k)->Te a b g g' j j->∀k,g j c=ξ k->g' j c=ξ k:=λ{a b g g'}H H' B hj k e=>by
    let#[k',e',kl,tk]:=K8 H H' cm hj e;have kb:=B k (H.c j c k cm e);have:=H'.m.m k k' kb.1 kl λw hw=>(kb.2 w hw).symm.trans (tk w hw)
    rw[e',this]
   have k1:=key T T' (λk h=>#[(A k).1.mp h,(A k).2 h]) tj;have k2:=key T' T (λk h=>#[(A k).1.mpr h,((A k).2 ((A k).1.mpr h)).symm]) tj.symm;cases z:go j c with
   |none=>cases y:go' j c with
    |none=>rfl
    |some k=>rw[k2 k y] at z;cases z
   |some k=>exact(k1 k z).symm
  .rw[T.z j c ∅,T'.z j c ∅]
end
open PL.Lz
def qv.le(h:qv t t'):bV t'<=od t/\size t'<=oz t:=by
 induction h with
 |one=>rename_i n l;exact#[bJ _,by show 1<=if l.length=2 then 2 else 1;split<;>omega]
 |two=>exact#[ar _,ar _]
 |row _ _ i j=>dsimp[bV,size,od,oz];omega
 |or _ _ i j=>dsimp[bV,size,od,oz];omega
 |rep _ i=>dsimp[bV,size,od,oz];omega
 |plus _ i=>dsimp[bV,size,od,oz];omega
 |star _ i=>dsimp[bV,size,od,oz];omega
 |may _ i=>dsimp[bV,size,od,oz];omega
def qv.lv(h:qv t t')(v:kc t):kc t':=by
 induction h with
 |one=>erw[v]
 |two=>
  rename_i n x y;have:[x,y]∈CL:=v _ (bI.mpr rfl);have k:=(by decide:∀l∈CL,l.length=2->∀x∈l,[x]∈CL) _ this rfl;intro l m;rcases aL.mp m with m|m<;>rw[bI.mp m]
  .erw[k y (av _ (aN ..))]
  .erw[k x (aN ..)]
 |row _ _ i j=>erw[λl m=>(aL.mp m).elim (i (λl m=>v l (bj _ m)) l) (j (λl m=>v l (aR _ m)) l)]
 |or _ _ i j=>erw[λl m=>(aL.mp m).elim (j (λl m=>v l (aR _ m)) l) (i (λl m=>v l (bj _ m)) l)]
 |rep _ i=>erw[i v]
 |plus _ i=>erw[λl m=>(aL.mp m).elim (i v l) (i v l)]
 |star _ i=>erw[i v]
 |may _ i=>erw[λl m=>(aL.mp m).elim (i v l) (i v l)]
abbrev Dz(d:Nat):Spec:=λus S Q=>∃(t:Tr)(n:Int),us=[enc t,.int n]/\bV t<d/\od t<=4/\kc t/\∀t' S',qv t t'->Ext S S'->Q (enc t') S'
def TC:∀l∈CL,l.length<=95:=⋯
def K9(h1:Γ "_law_other"=Dz d)(da:bV a<d)(db:bV b<d)(oa:od a<=4)(ob:od b<=4)(la:kc a)(lb:kc b)(q:∀a' b' m S',qv a a'->qv b b'->Ext S S'->S'[m]?=ξ (.lst [enc a',enc b'])->k (.loc m) S'):
  WE Γ ZK (ξ (.tup [kk,.tup [enc a,enc b]])::ξ (.int n)::ys) S k:=by
 unfold ZK;room;rw[qe,bg]
 refine#[#v[],#v[],?_];rwa[gB [enc a,enc b] (λi acc S1=>Ext S S1/\((i=0/\acc=[])\/(i=1/\∃a',qv a a'/\acc=[enc a'])\/(i=2/\∃a' b',qv a a'/\qv b b'/\acc=[enc a',enc b']))) (λi acc S1 hi h9=>#[trivial,?_]) (λi u acc S1 k' hu hi hk=>?_) (λacc S1 h=>?_) #[.refl,.inl #[rfl,rfl]]]
 .rcases h9.2 with⟨_,rfl⟩|⟨_,_,_,rfl⟩|⟨_,_,_,_,_,rfl⟩<;>simp
 .let#[x1,h]:=hi
  rw[if_pos rfl]
  rcases h with⟨rfl,rfl⟩|⟨rfl,a',oa',rfl⟩|⟨rfl,_⟩
  .cases hu
   exact#[⋯,ca h1 #[a,_,rfl,da,oa,la,λt' S2 o x2=>hk _ _ #[x1.trans x2,.inr (.inl #[rfl,t',o,rfl])]]]
  .cases hu
   exact#[⋯,ca h1 #[b,_,rfl,db,ob,lb,λt' S2 o x2=>hk _ _ #[x1.trans x2,.inr (.inr #[rfl,a',t',oa',o,rfl])]]]
  .cases hu
 .let#[x1,h]:=h
  rcases h with⟨z,_⟩|⟨z,_⟩|⟨_,a',b',o1,o2,rfl⟩
  .cases z
  .cases z
  .erw[q a' b' _ _ o1 o2 (x1.trans (Ext.app _)) eL]
def La:qE (.str kk) [.str [114,111,119],.str [111,114]] q=q ([114,111,119]==kk||[111,114]==kk):=by
 have:=anyS (a:=kk) (l:=[[114,111,119],[111,114]]) (q:=q);simpa using this
section
variable{Γ:cv}{i:Nat}{k k':List Nat}{x:U}{c:Tx}{a ss:dG}{D:Ends}{env:Env}{S:bM}
def GQ(h:env[i]?=ξ (ξ (.tup [.str k,x])))(e:(k==k')=ϑ)(q:Rest Γ ss D env S):Rest Γ (.cons (.ifs (.and (.dk (.cmp .eq (.ix (.var i) ↑0) (.lit (.str k')))) c) a .nil) ss) D env S:=by
 room;rw[h]
 dsimp[pH,Ec,mC,bg,Eb,MY,e,ax,if_false];exact#[#v[],q]
def TF(h:env[i]?=ξ (ξ (.tup [.str k,x])))(e:(k==k')=ζ)(q:WT Γ c env S λb S1=>if b=ζ then Rest Γ a #[λen S2=>Rest Γ ss D en S2,D.rt] env S1 else Rest Γ ss D env S1):Rest Γ (.cons (.ifs (.and (.dk (.cmp .eq (.ix (.var i) ↑0) (.lit (.str k')))) c) a .nil) ss) D env S:=by
 room;rw[h]
 dsimp[pH,Ec,mC,bg,Eb,MY,e,if_true];exact#[#v[],q]
end
def OC(h2:Γ "_law_nothing"=Bw 6)(da:bV a'<6)(q:∀t' S',(qv a a'->qv (.rep m a) t')->Ext S S'->Q (enc t') S'):
  Rest Γ ZL #[nx,Q] [ξ (.tup [.str (oH m),enc a]),ξ (.int n),y,ξ (enc a')] S:=by
 unfold ZL;have last:∀S',Ext S S'->Rest Γ (.cons (.ret (.tup (.cons (.ix @0 ↑0) (.cons @3 .nil)))) .nil) #[nx,Q] [ξ (.tup [.str (oH m),enc a]),ξ (.int n),y,ξ (enc a')] S':=λS' x'=>by
  room;rw[mC,bg]
  exact#[#v[],#v[],q (.rep m a') S' .rep x']
 cases m with
 |plus=>
  rwa[TF rfl rfl ?_];room;refine#[⋯,?_];by_cases z:n%3>0
  .rw[if_pos (decide_eq_true z)]
   room;exact#[#v[],#v[],#v[],q (.row a' (.rep .star a')) S .plus .refl]
  .rw[if_neg (%[decide_eq_true_iff|z])]
   erw[GQ rfl rfl (GQ rfl rfl (last S .refl))]
 |star=>
  rwa[GQ rfl rfl (TF rfl rfl ?_)];room;refine#[⋯,?_];generalize (n%3==1)=b;cases b with
  |true=>
   rw[if_pos rfl]
   room;exact#[#v[],#v[],q (.rep .may (.rep .plus a')) S .star .refl]
  |false=>
   rw[if_neg ⋯]
   erw[GQ rfl rfl (last S .refl)]
 |may=>
  rwa[GQ rfl rfl (GQ rfl rfl (TF rfl rfl ?_))];room;rwa[ca h2 #[_,rfl,.inl #[a',rfl,da,λS1 x1=>?_]]];room;cases null a' with
  |true=>
   rw[if_neg ⋯]
   erw[last S1 x1]
  |false=>
   rw[if_pos (by rfl)]
   refine#[⋯,?_];generalize (n%3==2)=b;cases b with
   |true=>
    rw[if_pos rfl]
    room;exact#[#v[],#v[],#v[],q (.rep .may (.or a' a')) S1 .may x1]
   |false=>
    rw[if_neg ⋯]
    erw[last S1 x1]
def Lb(Γ:cv)(d:Nat)(h1:Γ "_law_other"=Dz d)(h2:Γ "_law_nothing"=Bw 6):Keeps Γ kT 2 (Dz (d+1)):=by
 rintro us S Q ⟨t,n,rfl,dt,ot,lv,q⟩;unfold kT;cases t with
 |one k l=>
  have ll:=TC l (lv l (bI.mpr rfl));rwa[uu rfl rfl ?_];rw[show enc (.one k l)= .tup [.str Gn,.str l] from rfl]
  room;rw[qe,bg,Vv,bg]
  refine#[#v[],∅,?_];by_cases z:l.length=2
  .obtain⟨x,y,rfl⟩:∃x y,l=[x,y]:=by
    match l,z with
    |[x,y],_=>exact#[x,y,rfl]
   rw[if_pos (show((([x,y].length:Nat):Int)== 2)=ζ from rfl)]
   refine#[⋯,?_];generalize (n%2==0)=bb;cases bb with
   |false=>
    rw[if_neg ⋯]
    rwa[Rest.go ?_];rw[A7]
    erw[q _ S .one .refl]
   |true=>
    rw[if_pos rfl]
    room;rw[qe,bg]
    have g:∀{j:Int}{c:Nat}{r:U->Prop},sW [x,y] j=ξ c->r (.str [c])->CP (.str [x,y]) (.int j) S r:=λe h=>by rw[OS,e,bg];exact#[#v[],h]
    refine#[#v[],g rfl #[#v[],#v[],?_]];rw[bg]
    erw[g rfl #[#v[],#v[],#v[],q _ S .two .refl]]
  .rw[if_neg (show ¬((l.length:Int)== 2)=ζ from λe=>z (iL (eq_of_beq e)))]
   rwa[Rest.go ?_];rw[A7]
   erw[q _ S .one .refl]
 |row a b=>
  have dt:max (bV a) (bV b)+1<d+1:=dt;have ot:max (od a) (od b)+1<=4:=ot;rwa[kB rfl rfl ?_];rw[show enc (.row a b)= .tup [.str zj,.tup [enc a,enc b]] from rfl]
  room;rw[mC,bg,La]
  refine#[#v[],#v[],?_];rw[if_pos ⋯]
  rwa[Rest.go ?_];rw[sZ,Ed]
  rwa[K9 h1 ∅ ∅ ∅ ∅ (λl m=>lv l (bj _ m)) (λl m=>lv l (aR _ m)) λa' b' m S1 oa ob x1 g1=>?_]
  dsimp[jd,je];rwa[kB rfl rfl ?_];room;rw[mC,bg,g1,aF]
  exact#[#v[],#v[],q _ S1 (.row oa ob) x1]
 |or a b=>
  have dt:max (bV a) (bV b)+1<d+1:=dt;have ot:max (od a) (od b)+1<=4:=ot;rwa[kB rfl rfl ?_];rw[show enc (.or a b)= .tup [.str O1,.tup [enc a,enc b]] from rfl]
  room;rw[mC,bg,La]
  refine#[#v[],#v[],?_];rw[if_pos ⋯]
  rwa[Rest.go ?_];rw[sZ,Ed]
  rwa[K9 h1 ∅ ∅ ∅ ∅ (λl m=>lv l (bj _ m)) (λl m=>lv l (aR _ m)) λa' b' m S1 oa ob x1 g1=>?_]
  dsimp[jd,je];rwa[uu rfl rfl ?_];room;rw[g1,aF]
  show Rest Γ _ _ _ (S1++[SO.lst [enc b',enc a']])
  room;rw[mC,bg,eL,aF]
  exact#[#v[],#v[],q _ _ (.or oa ob) (x1.trans (Ext.app _))]
 |rep m a=>
  have dt:bV a+1<d+1:=dt;have ot:od a+2<=4:=ot;have k1:=EI m;rwa[kB rfl (beq_eq_false_iff_ne.mpr k1.1) ?_];rw[show enc (.rep m a)= .tup [.str (oH m),enc a] from rfl]
  room;rw[mC,bg,La]
  refine#[#v[],#v[],?_];rw[if_neg (by cases m<;>decide)]
  rwa[Rest.go ?_];rw[A7]
  room;rw[qe,bg]
  refine#[#v[],⋯,ca h1 #[a,_,rfl,∅,∅,lv,λa' S1 oa x1=>?_]];erw[OC h2 (by have:=oa.le;omega) λt' S2 h x2=>q t' S2 (h oa) (x1.trans x2)]
abbrev wy(G:List Nat)(f:Nat->Option Nat):List (List Nat×Int):=G.filterMap λc=>(f c).map λk:Nat=>([c],BX k)
def Lc(f:Nat->Option Nat):∀G:List Nat,sD (cV G f)=(wy G f).map λq=>(.str q.1,.int q.2)
 |[]=>rfl
 |c::G=>by
  have ih:=Lc f G;unfold cV wy at ih ⊢;rw[bu,bu]
  cases f c with
  |none=>erw[ih]
  |some k=>
   show(U.str [c],aW k)::sD _=_::dQ _ _
   rw[ih];rfl
def wk(f:Nat->Option Nat)(c:Nat):∀G:List Nat,c∈G->(wy G f).lookup [c]=(f c).map BX
 |x::G,m=>by
  unfold wy;rw[bu]
  by_cases e:c=x
  .subst e
   cases h:f c with
   |none=>
    show(wy G f).lookup [c]=ψ
    by_cases z:c∈G
    .rw[wk f c G z,h];rfl
    .rwa[Aq.mpr λp mp=>?_]
     let#[y,my,ey]:=eT.mp mp;let#[k,_,rfl]:=ak.mp ey;rw[bne_iff_ne]
     intro q;have:c=y:=by injection q
     erw[z (this▸my)]
   |some k=>rw[gD,jZ];rfl
  .have m:=(aM.mp m).resolve_left e
   cases h:f x with
   |none=>erw[wk f c G m]
   |some k=>
    rw[gD]
    show fB [c] (([x],BX k)::wy G f)=_
    rw[aP,show(([c]:List Nat)== [x])=ϑ from beq_eq_false_iff_ne.mpr λz=>e (by injection z)]
    erw[wk f c G m]
def EZ:∀{G:List Nat},(∀c∈G,∀k,f c=ξ k->g c=ξ k)->(wy G f).length<=(wy G g).length/\((wy G f).length=(wy G g).length->∀c∈G,f c=g c)
 |[],_=>#[ar _,λ_ c m=>nomatch m]
 |x::G,h=>by
  let#[i1,i2]:=EZ (G:=G) λc m=>h c (av _ m)
  have hx:=h x (aN ..);have e:∀(f:Nat->Option Nat),(wy (x::G) f).length=(wy G f).length+(if f x=ψ then 0 else 1):=λf=>by
   unfold wy;rw[bu]
   cases f x with
   |none=>rw[if_pos rfl];rfl
   |some k=>rw[if_neg (λz=>nomatch z)];rfl
  rw[e f,e g]
  cases a:f x with
  |none=>
   rw[if_pos rfl]
   refine#[∅,λz c m=>?_];cases b:g x with
   |none=>
    rw[b,if_pos rfl] at z;rcases aM.mp m with rfl|m
    .rw[a,b]
    .erw[i2 z c m]
   |some k=>rw[b,if_neg (λz=>nomatch z)] at z;omega
  |some k=>
   rw[hx k a,if_neg (λz=>nomatch z)]
   refine#[∅,λz c m=>?_];rcases aM.mp m with rfl|m
   .rw[a,hx k a]
   .erw[i2 ∅ c m]
def Ld:Vl (wy SG f) (wy SG g)=ζ↔∀c∈SG,f c=g c:=by
 unfold Vl;rw[aj,beq_iff_eq,bS]
 constructor
 .rintro⟨l,a⟩
  refine(EZ λc m k e=>?_).2 l;have:=a ([c],BX k) (eT.mpr #[c,m,by rw[e];rfl]);rw[beq_iff_eq,wk g c SG m] at this;let#[k',e',z]:=ak.mp this;rw[e',iL z]
 .intro h
  have e:∀G:List Nat,(∀c∈G,f c=g c)->wy G f=wy G g:=λG=>by
   induction G with
   |nil=>erw[λ_=>rfl]
   |cons c G ih=>
    intro h;have:=ih λx m=>h x (av _ m)
    unfold wy at this ⊢;rw[bu,bu,h c (aN ..),this]
  have e:=e SG h;refine#[by rw[e],λp mp=>?_];let#[c,m,ec]:=eT.mp mp;let#[k,ek,rfl]:=ak.mp ec;rw[beq_iff_eq,wk g c SG m,<-h c m,ek];rfl
def E1:∀{a b:List (Option Nat)},FR (a.map uN) (b.map uN)=decide (a=b)
 |[],[]=>rfl
 |[],_::_=>rfl
 |_::_,[]=>rfl
 |x::a,y::b=>by
  have e:Hm (uN x) (uN y)=decide (x=y):=by
   cases x with
   |none=>cases y<;>rfl
   |some i=>cases y with
    |none=>rfl
    |some j=>
     show((i:Int)== (j:Int))=_
     rw[cy,beq_iff_eq,decide_eq_true_iff]
     exact#[λz=>by rw[iL z],λz=>by rw[aK z]]
  show(Hm (uN x) (uN y)&&FR (a.map uN) (b.map uN))=_
  rw[e,E1,cy,aj,decide_eq_true_iff,decide_eq_true_iff,decide_eq_true_iff,dy]
def DA:∀{a:List (Option Nat)},wM (a.map uN)=ζ/\AW (a.map uN)=0
 |[]=>#[rfl,rfl]
 |x::a=>by
  let#[h1,h2]:=DA (a:=a);have:CO (uN x)=ζ/\dep (uN x)=0:=by cases x<;>exact#[rfl,rfl]
  exact#[by show(CO (uN x)&&wM _)=ζ;rw[this.1,h1];rfl,by show max (dep (uN x)) (AW _)=0;rw[this.2,h2];rfl]
abbrev E2:Spec:=λus S Q=>∃(T T':Nat)(told told':List (Option Nat))(ls ls':List Nat)(go go':Nat->Nat->Option Nat),us=[.loc T,.loc T']/\K0 S T told ls go/\K0 S T' told' ls' go'/\∀b,(b=ζ↔told=told'/\∀j c,c∈SG->go j c=go' j c)->Q (.bl b) S
def Le(r:Rp S n ls go):MI S ls ((bC ls.length).map λj=>wy SG (go j)):=by
 refine#[by rw[ae,dU],λi d p hd hp=>?_];rw[aB,eh (aS hd)] at hp;cases hp;rw[r.d i d hd,Lc]
def OD(Γ:cv):Keeps Γ yY 0 E2:=by
 rintro us S Q ⟨T,T',told,told',ls,ls',go,go',rfl,tb,tb',q⟩;let#[k,R,g1,_,g3]:=tb.o;let#[k',R',g1',_,g3']:=tb'.o;have l1:=tb.ll;have l2:=tb'.ll;unfold yY;room;rw[Ds g1,Ds g1']
 have d1:=DA (a:=told);have e1:iP .eq (.tup (told.map uN)) (.tup (told'.map uN)) S=λq=>q (decide (told=told')):=funext λq=>by
  rw[Vr,ew (x:=.tup (told.map uN)) (y:=.tup (told'.map uN)) rfl d1.1 (DA (a:=told')).1 (by show AW _+1<=100;rw[d1.2];decide) E1]
 rw[e1]
 show if decide (told=told')=ζ then _ else _
 by_cases z:told=told'
 .subst z
  rw[if_pos (decide_eq_true rfl),GK g1,GK g1']
  refine#[R,R',ls,ls',_,_,rfl,rfl,g3.l,g3'.l,Le g3,Le g3',q _ ?_];have len:∀(go:Nat->Nat->Option Nat)(n:Nat),((bC n).map λj=>wy SG (go j)).length=n:=λgo n=>by rw[ae,dU]
  have at_:∀(go:Nat->Nat->Option Nat)(n j:Nat),j<n->((bC n).map λj=>wy SG (go j)).getD j []=wy SG (go j):=λgo n j h=>by
   rw[az,aB,eh h];rfl
  unfold X0;rw[len,len,aj,beq_iff_eq,bS]
  constructor
  .rintro⟨_,h⟩
   refine#[rfl,λj c m=>?_];by_cases y:j<ls.length
   .have:=h j (jA.mpr y)
    rw[at_ go _ j y,at_ go' _ j ∅] at this;erw[Ld.mp this c m]
   .rw[g3.z j c ∅,g3'.z j c ∅]
  .rintro⟨_,h⟩
   refine#[∅,λj m=>?_];have y:=jA.mp m;rw[at_ go _ j y,at_ go' _ j ∅]
   erw[Ld.mpr λc m=>h j c m]
 .rw[if_neg (%[decide_eq_true_iff|z])]
  erw[q ϑ #[(λh=>nomatch h),λh=>absurd h.1 z]]
structure LG(S:bM)(L:Nat)(us:List Tr):Prop where
 g:S[L]?=ξ (.lst (us.map enc))
 t:zw us
 v:∀t∈us,kc t
 z:fm us<=10
def LG.ext(h:LG S L us)(x:Ext S S'):LG S' L us:=#[x.get h.g,h.t,h.v,h.z]
def Xu:∀l∈CL,∀c∈l,c∈SG:=by decide +kernel
def Pl{us:List Tr}(v:∀t∈us,kc t):∀t∈us,∀l∈nN t,∀c∈l,c∈SG:=λt m l ml=>Xu l (v t m l ml)
def DB:∀(l:List Tr)(b:Nat),(∀t∈l,size t<=b)->fm l<=b*l.length
 |[],b,_=>bJ _
 |t::l,b,h=>by
  have h1:=h t (#v[]);have h2:=DB l b λx m=>h x (av _ m)
  unfold fm at h2 ⊢;rw[aw,zZ,aU,Nat.mul_succ]
  omega
def TH(len:l.length<=4)(nl:∀t∈l,null t=ϑ)(dp:∀t∈l,bV t<5)(sz:fm l<=24)(v:∀t∈l,kc t):zw (oq 1 l)/\(∀t∈oq 1 l,kc t):=by
 let#[e1,e2,e3,e4]:=pV l 1;have el:(oq 1 l).length=l.length:=by have:=congrArg cw e1;simpa using this
 refine#[#[∅,e2,λt m=>?_,λt m=>?_,∅],λt m=>?_]
 .let#[t',m',h]:=e4 t m;rw[h.2.1];erw[nl t' m']
 .let#[t',m',h]:=e4 t m;rw[h.1];erw[dp t' m']
 .let#[t',m',h]:=e4 t m
  intro l hl;rw[h.2.2] at hl;erw[v t' m' l hl]
def Lf(hT:zw ts)(hV:∀t∈ts,kc t):WA ts (ts.map wr):=by
 refine#[by rw[ae],λj t y e e'=>?_];rw[aB,e] at e';cases e';have m:=ai e;exact#[by have:=(lC (hV t m) (hT.dp t m)).2.2;omega,[],Oc (hV t m) (hT.dp t m)]
def Lg(h4:Γ "written"=By (λt=>bV t<=4\/(v8 t/\bV t<=4+1)) wr)(R:LG S L us)(q:∀n S',Ext S S'->S'[n]?=ξ (.lst ((us.map wr).map .str))->k (.loc n) S'):WE Γ ZN (y0::ξ (.loc L)::ys) S k:=by
 have tl:=R.t.len;unfold ZN;room;rw[R.g,aF]
 rwa[gB (us.map enc) (λi acc S3=>Ext S S3/\acc=((us.take i).map wr).map .str) (λi acc S3 hi h9=>#[h9.1.get R.g,by rw[h9.2,ae,ae,cH];omega]) (λi u acc S3 k hu hi hk=>?_) (λacc S3 h=>?_) #[.refl,rfl]]
 .let#[x3,rfl]:=hi
  let#[t,et,rfl]:=gg hu;have mt:=ai et;have d4:=R.t.dp t mt;rwa[ca h4 #[t,rfl,.inl ∅,R.v t mt,d4,λS4 x4=>hk _ _ #[x3.trans x4,?_]]];rw[jF,et,aI,aI];rfl
 .let#[x3,rfl]:=h
  rw[ae,cb]
  erw[q _ _ (x3.trans (Ext.app _)) (#v[])]
def TJ(h4:Γ "written"=By (λt=>bV t<=4\/(v8 t/\bV t<=4+1)) wr)(R:LG S L us)(q:∀n S',Ext S S'->S'[n]?=ξ (.lst ((us.map wr).map .str))->k (.loc n) S'):WE Γ pOb (y0::y1::ξ (.loc L)::ys) S k:=Lg (y0:=y0) (ys:=ys) h4 R q
def Xv:iP .ne (.bl a) (.bl a) S q=q ϑ:=by
 show(AX (.bl a) (.bl a)=ζ/\wu (.bl a) (.bl a) λb=>q !b)=_
 rw[ew rfl rfl rfl (bJ _) (show Hm (.bl a) (.bl a)=ζ from beq_self_eq_true a)]
 erw[propext #[λz=>z.2,λz=>#[rfl,z]]]
def E3(Γ:cv)(h4:Γ "written"=By (λt=>bV t<=4\/(v8 t/\bV t<=4+1)) wr)(h5:Γ "difference"=OB)(h6:Γ "table_of"=GO)(h7:Γ "same"=E2){S:bM}{L L':Nat}{us us':List Tr}{ch:Bool}{y0:Option U}{D:Ends}(R:LG S L us)(R':LG S L' us')(al:ch=ϑ->∀w o,B3 us w o↔B3 us' w o)(q:∀S',D.rt (.bl ζ) S'):
  Rest Γ ZO D [y0,ξ (.loc L),ξ (.loc L'),ξ (.bl ch),ψ,ψ,ψ,ψ] S:=by
 unfold ZO;room;rwa[Lg h4 R λn S1 x1 g1=>?_]
 rwa[Rest.go ?_];rw[sZ,Ed]
 rwa[TJ h4 (R'.ext x1) λn' S2 x2 g2=>?_]
 have g1:=x2.get g1;have r1:=Lf R.t R.v;have r2:=Lf R'.t R'.v;room;refine ca h6 #[n,_,us,rfl,g1,r1,R.t,R.z,λT told ls go S3 tb t0 hf x3 nw mn=>?_];refine ca h6 #[n',_,us',rfl,x3.get g2,r2,R'.t,R'.z,λT' told' ls' go' S4 tb' t0' hf' x4 nw' mn'=>?_];have z1:∀{S:bM}{T:Nat}{told:List (Option Nat)}{ls:List Nat}{go:Nat->Nat->Option Nat},K0 S T told ls go->∀j c,told.length<=j->go j c=ψ:=λh j c hj=>by
  let#[_,_,_,_,r]:=h.o;erw[r.z j c (by rw[h.ll];exact hj)]
 have M:Hr told go:=#[t0,tb.cl,z1 tb,mn (Pl R.v)]
 have M':Hr told' go':=#[t0',tb'.cl,z1 tb',mn' (Pl R'.v)]
 refine ca h7 #[T,T',told,told',ls,ls',go,go',rfl,tb.ext x4,tb',λb hb=>?_];have x24:=x3.trans x4;room;refine ca h5 #[n,n',_,_,us,us',rfl,x24.get g1,x24.get g2,r1,R.t,R.z,r2,R'.t,R'.z,λres S5 hd _ x5=>?_];have key:b=ζ↔res=ψ:=by
  rw[hb]
  constructor
  .rintro⟨e1,e2⟩
   cases res with
   |none=>rfl
   |some x=>
    have⟨hs,ne⟩:=(K4 hf hf' x).mp (Pg hd);refine absurd ?_ ne;subst e1;have tr:∀(w:List Nat)(o:Option Nat),(∀c∈w,c∈SG)->w.foldl (λs c=>s.bind λj=>go j c) o=w.foldl (λs c=>s.bind λj=>go' j c) o:=λw=>by
     induction w with
     |nil=>erw[λ_ _=>rfl]
     |cons c w ih=>
      intro o h;rw[cR,cR,show(o.bind λj=>go j c)=o.bind λj=>go' j c from by
       cases o with
       |none=>rfl
       |some j=>erw[e2 j c (h c (aN ..))]]
      erw[ih _ λd m=>h d (av _ m)]
    unfold fst Hh;rw[tr x _ hs]
  .rintro rfl
   erw[TB M M' λw hw=>eS λz=>hd w ((K4 hf hf' w).mpr #[hw,z])]
 have en:xM (uS res)=b:=by
  cases res with
  |none=>exact(key.mpr rfl).symm
  |some x=>cases b with
   |true=>erw[absurd (key.mp rfl) λz=>nomatch z]
   |false=>rfl
 room;rw[en,Xv,if_neg ⋯]
 room;have fin:ch=ϑ->b=ζ:=λz=>key.mpr (by
  cases res with
  |none=>rfl
  |some x=>
   let#[hs,o,o',f1,f2,ne]:=Pg hd;erw[absurd (zH ((al z x o).mp f1) f2) ne])
 cases ch with
 |true=>rw[if_pos rfl];erw[q S5]
 |false=>
  rw[if_neg ⋯,fin rfl]
  erw[q S5]
def TK:WS Γ (.ID o i e) D env S=WE Γ e env S (λu S1=>WE Γ o env S1 (λx S2=>WE Γ i env S2 (λy S3=>sE x λn=>lK y λk=>getL S3[n]? λus=>opt (IJ us.length k) λj=>D.nx env (S3.set n (.lst (us.set j u)))))):=rfl
def TL{Γ:cv}(h1:Γ "_law_mix"=uF.yb)(h2:Γ "_law_other"=Dz 3){S:bM}{L:Nat}{ns:List Int}{ts:List Tr}{ys:Env}{k:KU}(hl:ns.length<=63)(g:S[L]?=ξ (.lst (ts.map enc)))(tl:ts.length<=4)(hd:∀t∈ts,bV t<=2/\od t<=4/\kc t)
  (q:∀n S'(ts':List Tr),ts'.length=ts.length->(∀(i:Nat)t t',ts[i]?=ξ t->ts'[i]?=ξ t'->qv t t')->Ext S S'->S'[n]?=ξ (.lst (ts'.map enc))->S.length<=n->k (.loc n) S'):WE Γ ZM (ξ (.sV ns)::ξ (.loc L)::ys) S k:=by
 unfold ZM;room;rw[g,aF]
 refine gB (ts.map enc) (λi acc S1=>Ext S S1/\∃ts':List Tr,acc=ts'.map enc/\ts'.length=i/\∀(j:Nat)t t',ts[j]?=ξ t->ts'[j]?=ξ t'->qv t t') (λi acc S1 hi h9=>by let#[x,ts',rfl,e,_]:=h9;exact#[x.get g,by rw[ae,e];rw[ae] at hi;omega]) (λi u acc S1 k' hu hi hk=>?_) (λacc S1 h=>?_) #[.refl,[],rfl,rfl,λj t t' _ e=>nomatch e]
 .let#[x1,ts',rfl,e,inv]:=hi
  let#[t,et,rfl]:=gg hu;have ht:=hd t (ai et);rw[if_pos rfl]
  rwa[ca h1 #[ns,_,rfl,∅,λm m0 m1=>?_]];rwa[ca h2 #[t,m,rfl,∅,ht.2.1,ht.2.2,λt' S2 o x2=>hk _ _ #[x1.trans x2,ts'++[t'],by rw[aI];rfl,by rw[aq,e];rfl,λj a a' ea ea'=>(nP ea').elim (inv j a a' ea) λz=>?_]]];let#[rfl,rfl]:=z;rw[e,et] at ea;cases ea;erw[o]
 .let#[x1,ts',rfl,e,inv]:=h
  erw[q _ _ ts' (by rw[e,ae]) inv (x1.trans (Ext.app _)) eL x1.1]
def E4(n:ts.length=us.length)(h:∀(i:Nat) t u,ts[i]?=ξ t->us[i]?=ξ u->∀w,En t (hs t w)↔En u (hs u w))(w:List Nat)(o:Option Nat)(f:B3 ts w o):B3 us w o:=by
 have g:∀{i:Nat}{u:Tr},us[i]?=ξ u->∃t,ts[i]?=ξ t/\(En t (hs t w)↔En u (hs u w)):=λ{i u}e=>by
  have:=aS e;exact#[_,ab ∅,h i _ u (ab ∅) e w]
 cases o with
 |none=>erw[λi u e z=>(g e).elim λt y=>f i t y.1 (y.2.mpr z)]
 |some i=>
  let#[#[t,et,z],no]:=f;have il:=aS et;have eu:=ab (l:=us) (i:=i) ∅;exact#[#[_,eu,(h i t _ et eu w).mp z],λi' u hi e z=>(g e).elim λt y=>no i' t hi y.1 (y.2.mpr z)]
def Pm(h:zw ts)(m:t∈ts):∃n,om n t/\0<n:=by
 let#[i,e]:=bR m;exact#[_,zu h.pl e,∅]
def tL:∀t n,er (num n t)=er t
 |.one _ _,_=>rfl
 |.row a b,n=>by dsimp[num,er,tL a n,tL b (n+size a)]
 |.or a b,n=>by dsimp[num,er,tL a n,tL b (n+size a)]
 |.rep m a,n=>by dsimp[num,er,tL a n]
def E5:∀(ts:List Tr)n(i:Nat)t,(oq n ts)[i]?=ξ t->∃t' k,ts[i]?=ξ t'/\t=num k t'
 |x::ts,n,0,t,e=>by cases e;exact#[x,n,rfl,rfl]
 |x::ts,n,i+1,t,e=>E5 ts _ i t e
def TM(w:List Nat):AR w [num n t]↔AR w [t]:=by
 rw[<-EW w [num n t],<-EW w [t],aw,aw,tL]
def Lh(Γ:cv)(h1:Γ "_law_mix"=uF.yb)(h2:Γ "_law_trees"=SI)(h3:Γ "_law_other"=Dz 3)(h4:Γ "written"=By (λt=>bV t<=4\/(v8 t/\bV t<=4+1)) wr)(h5:Γ "difference"=OB)(h6:Γ "table_of"=GO)(h7:Γ "same"=E2):Keeps Γ Lz.Ee 7 (λus _ Q=>∃ns:List Int,us=[.sV ns]/\ns.length<=63/\∀S',Q (.bl ζ) S'):=by
 rintro us S Q ⟨ns,rfl,hl,q⟩;unfold Lz.Ee;room;rwa[ca h1 #[ns,_,rfl,∅,λm m0 m1=>#[∅,?_]]];rwa[ca h2 #[ns,0,_,1,rfl,⋯,∅,∅,∅,λts n S2 hT hV hz hs x2 g2=>?_]];let#[ln,d4,sm]:=hs;have sm:=sm (ar _);have tl:ts.length<=2:=∅
 have z1:=DB ts 2 λt m=>(sm t m).1
 rwa[Rest.go ?_];rw[sZ,Ed]
 rwa[TL h1 h3 hl g2 ∅ (λt m=>#[(sm t m).2.1,(sm t m).2.2.1,hV t m]) λn' S3 ts' el ho x3 g3 nl=>?_]
 have R:LG S3 n ts:=#[x3.get g2,hT,hV,∅]
 have hp:∀t'∈ts',size t'<=5/\bV t'<5/\null t'=ϑ/\kc t':=λt' m'=>by
  let#[i,e']:=bR m';have:=aS e';have et:=ab (l:=ts) (i:=i) ∅;have mt:=ai et;have o:=ho i _ t' et e';have le:=o.le;have s:=sm _ mt;exact#[∅,∅,by rw[<-o.sm.null];erw[hT.nl _ mt],o.lv (hV _ mt)]
 have mk:∀{l:List Tr}{S':bM},l.length<=2->(∀x∈l,size x<=5/\bV x<5/\null x=ϑ/\kc x)->S'[n']?=ξ (.lst (l.map enc))->LG S' n' (oq 1 l):=λ{l S'}ll h g=>by
  have s5:=DB l 5 λx m=>(h x m).1
  let#[a1,a2]:=TH (l:=l) ∅ (λx m=>(h x m).2.2.1) (λx m=>(h x m).2.1) ∅ (λx m=>(h x m).2.2.2);exact#[%[(pV l 1).1|g],a1,a2,by rw[(pV l 1).2.2.1];omega]
 show Rest Γ _ _ [ξ (.sV ns),ξ (.loc n),ξ (.loc n'),ψ,ψ,ψ,ψ,ψ] S3
 room;rwa[ca h1 #[ns,_,rfl,∅,λm' m0 m1=>#[∅,?_]]];show iP .eq (.int (m'%2)) (.int 0) S3 _;rw[Vq,Vt]
 generalize (m'%2==0)=b;show Rest Γ _ _ [ξ (.sV ns),ξ (.loc n),ξ (.loc n'),ξ (.bl b),ψ,ψ,ψ,ψ] S3;cases b with
 |false=>
  room;have R':=mk ∅ hp g3;rwa[E3 Γ h4 h5 h6 h7 R R' (λ_=>?_) q];have n1:(oq 1 ts').length=ts'.length:=by have:=congrArg cw (pV ts' 1).1;simpa using this
  have key:∀(i:Nat)t u,ts[i]?=ξ t->(oq 1 ts')[i]?=ξ u->∀w,En t (hs t w)↔En u (hs u w):=λi t u et eu w=>by
   let#[t',k,et',rfl]:=E5 ts' 1 i u eu;let#[p1,q1,q2]:=Pm hT (ai et);let#[p2,r1,r2]:=Pm R'.t (ai eu);rw[Pk q1 q2,Pk r1 r2,TM,(ho i t t' et et').sm w]
  erw[λw o=>#[E4 ∅ key w o,E4 ∅ (λi u t eu et w=>(key i t u et eu w).symm) w o]]
 |true=>
  room;rw[TK]
  room;refine ca h2 #[ns,30,1,1,rfl,⋯,∅,∅,∅,λts2 n2 S4 hT2 hV2 hz2 hs2 x4 g4=>?_];let#[ln2,d42,sm2]:=hs2;have sm2:=sm2 (ar _);obtain⟨t2,rfl⟩:∃t2,ts2=[t2]:=by
   match ts2,ln2 with
   |[t2],_=>exact#[t2,rfl]
  show getL S4[n2]? _
  rw[g4,aF]
  have g5:=x4.get g3;have l0:0<ts'.length:=∅
  rw[aw,mC,bg,g5,aF,ae]
  have ez:IJ ts'.length 0=ξ 0:=by unfold IJ;rw[if_pos ∅,if_pos ∅];rfl
  rw[ez,bg]
  rwa[Rest.go ?_];rw[A7]
  have nn:n'≠n:=cD (au (aS g2) nl);have R4:LG (S4.set n' (.lst ((ts'.map enc).set 0 (enc t2)))) n ts:=#[%[ao nn|x4.get R.g],R.t,R.v,R.z]
  have m2:t2∈[t2]:=bI.mpr rfl;have s2:=sm2 t2 m2;rwa[E3 Γ h4 h5 h6 h7 R4 (mk (l:=ts'.set 0 t2) (by rw[b9];omega) (λx m=>?_) ((gs g5).trans (by rw[List.map_set]))) (λz=>nomatch z) q];rcases List.mem_or_eq_of_mem_set m with m|rfl
  .erw[hp x m]
  .exact#[∅,∅,hT2.nl _ m2,hV2 _ m2]
end PL.wx
end
namespace L2
open PySem PySem.Spec PyProof.Rows PySem.W
open PL (U SO bM KU cv)
abbrev wW:PL.Spec:=λ_ _ _=>False
abbrev GU(Γ:cv)(x:String)(sp:PL.Spec):cv:=λy=>if y=x then sp else Γ y
abbrev Role(c:Ctx)(T:Tab)(x:String)(f:Addr):Prop:=
 (x∈T.fns/\c.mg (nm x)=ξ (.ref f))\/(∃p∈T.qH,x=p.2++"."++p.1/\∃C,c.cls p.2=ξ C/\Meth c.K C (nm p.1) f)\/(∃y∈T.qG,x=y++".__init__"/\∃C,c.cls y=ξ C/\Mk c.K C f)
def FnAt.mono(F:FnAt c j f sp)(h:j<=k):FnAt c k f sp:=by
 let#[fd,ps,F,B]:=F;exact#[fd,ps,F.mono h,B]
def bD:GU Γ x sp x=sp:=if_pos rfl
def uQ(h:y≠x):GU Γ x sp y=Γ y:=if_neg h
def gM.add(G:gM c T Γ k)(h:k<=k')(F:∀f,Role c T x f->FnAt c k' f sp):gM c T (GU Γ x sp) k':=by
 refine#[λy hy=>?_,λp hp=>?_,λy hy=>?_]
 .let#[f,hm,kp,A]:=G.fns y hy
  refine#[f,hm,kp,?_];by_cases e:y=x
  .subst e;rw[bD];erw[F f (.inl #[hy,hm])]
  .rw[uQ e];erw[A.mono h]
 .let#[C,f,hc,hm,A]:=G.Uc p hp
  refine#[C,f,hc,hm,?_];by_cases e:p.2++"."++p.1=x
  .rw[e,bD];erw[F f (.inr (.inl #[p,hp,e.symm,C,hc,hm]))]
  .rw[uQ e];erw[A.mono h]
 .let#[C,f,hc,hg,hm,A]:=G.cls y hy
  refine#[C,f,hc,hg,hm,?_];by_cases e:y++".__init__"=x
  .rw[e,bD];erw[F f (.inr (.inr #[y,hy,e.symm,C,hc,hm]))]
  .rw[uQ e];erw[A.mono h]
def OE(hm:c.mg (nm x)=ξ (.ref f0))(h2:(T.qH.all λp=>p.2++"."++p.1 !=x)=ζ)(h3:(T.qG.all λy=>y++".__init__" !=x)=ζ)(R:Role c T x f):f=f0:=by
 rcases R with⟨_,e⟩|⟨p,hp,e,_⟩|⟨y,hy,e,_⟩
 .rw[hm] at e;cases e;rfl
 .have:=bS.mp h2 p hp
  rw[e] at this;simp at this
 .have:=bS.mp h3 y hy
  rw[e] at this;simp at this
def OF(hc:c.cls cl=ξ C)(hm:Meth c.K C (nm m) f0)(h1:T.fns.contains (cl++"."++m)=ϑ)(h2:(T.qH.all λp=>p.2++"."++p.1 !=cl++"."++m||(p.1==m&&p.2==cl))=ζ)(h3:(T.qG.all λy=>y++".__init__" !=cl++"."++m)=ζ)(R:Role c T (cl++"."++m) f):f=f0:=by
 rcases R with⟨h,_⟩|⟨p,hp,e,C',hc',hm'⟩|⟨y,hy,e,_⟩
 .erw[absurd (gW.mpr h) (by rw[h1];simp)]
 .have:=bS.mp h2 p hp
  rw[e] at this;simp at this;let#[e1,e2]:=this;rw[e2,hc] at hc';cases hc';rw[e1] at hm';have:=hm.at_.symm.trans hm'.at_;cases this;rfl
 .have:=bS.mp h3 y hy
  rw[e] at this;simp at this
def OG(hc:c.cls cl=ξ C)(hm:Mk c.K C f0)(h1:T.fns.contains (cl++".__init__")=ϑ)(h2:(T.qH.all λp=>p.2++"."++p.1 !=cl++".__init__")=ζ)(h3:(T.qG.all λy=>y++".__init__" !=cl++".__init__"||y==cl)=ζ)(R:Role c T (cl++".__init__") f):f=f0:=by
 rcases R with⟨h,_⟩|⟨p,hp,e,C',hc',hm'⟩|⟨y,hy,e,C',hc',hm'⟩
 .erw[absurd (gW.mpr h) (by rw[h1];simp)]
 .have:=bS.mp h2 p hp
  rw[e] at this;simp at this
 .have:=bS.mp h3 y hy
  rw[e] at this;simp at this;rw[this,hc] at hc';cases hc';have:=hm.init.symm.trans hm'.init;cases this;rfl
def Xw(B:Binds c.K fd ps []):FnAt c k f wW:=
 #[fd,ps,#[λvs H Q E h=>by let#[us,ρ,S0,QU,r,R,w,q]:=h;erw[w.elim],λA outer s H args us vs Q E hr he hb hv hs=>by let#[us,ρ,S0,QU,r,R,w,q]:=hs;erw[w.elim]],B]
structure Df(c:Ctx)(T:Tab)(st:Stmt)(f:Addr)(N ps:List Str)(b:PL.dG)(m:Nat):Prop where
 fn:∃x qual fd,Lx c.K x qual st f fd/\Binds c.K fd ps []
 sc:lP N ps (bY st)
 tx:∃n,LB T n #[(bY st).names,N,ζ] (fW st)=ξ b
 hm:N.length=ps.length+m
def Df.ok{c:Ctx}{T:Tab}{Γ:cv}{st:Stmt}{f:Addr}{N ps:List Str}{b:PL.dG}{m k kx:Nat}{sp:PL.Spec}(D:Df c T st f N ps b m)(B:Base c T kx)(hkx:kx<=k)(G:gM c T Γ k)(hk:PL.Keeps Γ b m sp)(hl:∀us S Q,sp us S Q->us.length=ps.length):FnAt c (k+2) f sp:=by
 let#[x,qual,fd,F,Bi]:=D.fn;let#[n,hc]:=D.tx;exact#[fd,ps,OY F D.sc B hkx G hc hk D.hm hl,Bi]
def Df.up{c:Ctx}{T:Tab}{Γ:cv}{st:Stmt}{f:Addr}{N ps:List Str}{b:PL.dG}{m k kx:Nat}{x:String}{sp:PL.Spec}(D:Df c T st f N ps b m)(R:∀g,Role c T x g->g=f)(B:Base c T kx)(hkx:kx<=k)(G:gM c T Γ k)(hk:PL.Keeps Γ b m sp)(hl:∀us S Q,sp us S Q->us.length=ps.length):gM c T (GU Γ x sp) (k+2):=
 G.add ∅ λg r=>%[R g r|D.ok B hkx G hk hl]
abbrev fq(Γ Γ':cv)(l:List String):Prop:=∀x,x∉l->Γ' x=Γ x
def fq.refl(Γ:cv)(l:List String):fq Γ Γ l:=λ_ _=>rfl
def fq.up(h:fq Γ Γ' l)(m:x∈l):fq Γ (GU Γ' x sp) l:=λy hy=>(uQ (λe=>hy (%[e|m]))).trans (h y hy)
def gM.none(h1:∀x∈T.fns,∃f,c.mg (nm x)=ξ (.ref f)/\HD c.K (.ref f)=ζ/\FnAt c k f wW)(h2:∀p∈T.qH,∃C f,c.cls p.2=ξ C/\Meth c.K C (nm p.1) f/\FnAt c k f wW)
  (h3:∀x∈T.qG,∃C f,c.cls x=ξ C/\c.mg (nm x)=ξ (.ref C)/\Mk c.K C f/\FnAt c k f wW):gM c T (λ_=>wW) k:=#[h1,h2,h3]
open PL (U SO bM KU cv)
abbrev RN:List String:=["in_order","all_but","is_ahead","stretch","read","joined","Reader.__init__","Reader.sees","Reader.passes","Reader.choice","Reader.row","Reader.repeat","Reader.atom","Reader.bracket","Reader.sign_class","Reader.item","Reader.written_sign"]
structure gH(c:Ctx)(T:Tab)(x:String)(n m:Nat)(b:PL.dG):Prop where
 ex:∃st f N ps,Df c T st f N ps b m/\ps.length=n/\∀g,Role c T x g->g=f
structure GS(c:Ctx)(T:Tab)(kx:Nat)(Γ:cv)(k:Nat):Prop where
 le:kx<=k
 ok:gM c T Γ k
def gH.up(D:gH c T x n m b)(B:Base c T kx)(G:GS c T kx Γ k)(hk:PL.Keeps Γ b m sp)(hl:∀us S Q,sp us S Q->us.length=n):GS c T kx (GU Γ x sp) (k+2):=by
 let#[st,f,N,ps,D0,e,R]:=D.ex;exact#[Nat.le_add_right_of_le G.le,L2.Df.up D0 R B G.le G.ok hk (λus S Q h=>(hl us S Q h).trans e.symm)]
structure GV(c:Ctx)(T:Tab):Prop where
 R9:gH c T "in_order" 1 0 PL.nk
 Dj:gH c T "all_but" 1 0 PL.pM
 ahead:gH c T "is_ahead" 2 0 PL.nq
 JU:gH c T "stretch" 2 0 PL.pN
 read:gH c T "read" 1 2 PL.yW
 joined:gH c T "joined" 2 0 PL.rM
 init:gH c T "Reader.__init__" 2 0 PL.jN
 sees:gH c T "Reader.sees" 2 0 PL.jO
 passes:gH c T "Reader.passes" 2 0 PL.iS
 choice:gH c T "Reader.choice" 1 1 PL.iT
 row:gH c T "Reader.row" 1 1 PL.kJ
 repeat_:gH c T "Reader.repeat" 1 1 PL.iU
 atom:gH c T "Reader.atom" 1 0 PL.jP
 bracket:gH c T "Reader.bracket" 1 1 PL.iA
 cls:gH c T "Reader.sign_class" 1 2 PL.fH
 item:gH c T "Reader.item" 1 3 PL.jQ
 ws:gH c T "Reader.written_sign" 2 1 PL.eR
def ua(us:List U)(S:bM)(Q:KU)(h:PL.z9 args p d us S Q):us.length=args.length+1:=by
 let#[r,x,rest,rfl,_]:=h;rfl
def len_T(us:List U)(S:bM)(Q:KU)(h:PL.spT f us S Q):us.length=1:=by
 let#[l,rfl,_]:=h;rfl
def BI(R:GV c T)(B:Base c T kx)(G:GS c T kx Γ k):∃Γ',GS c T kx Γ' (k+16)/\fq Γ Γ' RN/\PL.GR Γ'/\Γ' "joined"=PL.ly/\Γ' "Reader.__init__"=PL.nK:=by
 have g1:=R.R9.up B G (PL.Bk _) len_T;have g2:=R.Dj.up B g1 (PL.vL _) len_T;have g3:=R.ahead.up B g2 (PL.Bl _) (λus S Q h=>by let#[a,b,rfl,_]:=h;rfl);have g4:=R.JU.up B g3 (PL.Di _) (λus S Q h=>by let#[a,b,rfl,_]:=h;rfl);have g5:=R.joined.up B g4 (PL.Gm _) (λus S Q h=>by let#[a,b,t,rfl,_]:=h;rfl);have g6:=R.init.up B g5 (PL.J4 _) (λus S Q h=>by let#[a,b,rfl,_]:=h;rfl);have g7:=R.sees.up B g6 (PL.NQ _) (λus S Q h=>by let#[a,b,_,_,_,rfl,_]:=h;rfl);have g8:=R.passes.up B g7 (PL.NR _ bD) (λus S Q h=>by let#[l,d,h]:=h;exact ua _ _ _ h);refine#[_,g8,?_,#[rfl,rfl,rfl,rfl,rfl,rfl],rfl,rfl];refine fq.up (fq.up (fq.up (fq.up (fq.up (fq.up (fq.up (fq.up (fq.refl _ _) ?_) ?_) ?_) ?_) ?_) ?_) ?_) ?_<;>decide
def Xx(k d:Nat)(h:d+k=6)(hc:∀j,k=j+1->Γ "Reader.choice"=PL.z9 [] (PL.iC (PL.t8 j)) (d+1)):PL.V9 Γ (PL.t8 k) d:=by
 cases k with
 |zero=>erw[.inl #[rfl,∅]]
 |succ j=>erw[.inr #[_,rfl,∅,PL.tw (j+1),hc j rfl]]
def ub(R:GV c T)(B:Base c T kx)(G:GS c T kx Γ k)(Sm:fq Γ0 Γ RN)(gr:PL.GR Γ)(gj:Γ "joined"=PL.ly)(gi:Γ "Reader.__init__"=PL.nK)(n d:Nat)(hd:d+n=6)
  (hc:∀j,n=j+1->Γ "Reader.choice"=PL.z9 [] (PL.iC (PL.t8 j)) (d+1)):
  ∃Γ',GS c T kx Γ' (k+16)/\fq Γ0 Γ' RN/\PL.GR Γ'/\Γ' "joined"=PL.ly/\Γ' "Reader.__init__"=PL.nK/\Γ' "Reader.choice"=PL.z9 [] (PL.iC (PL.t8 n)) d:=by
 let#[e1,e2,e3,e4,e5,e6]:=gr;have hbo:=PL.tw n;have g1:=R.bracket.up B G (PL.Wa _ #[e1,e2,e3,e4,e5,e6] (PL.t8 n) d (Xx n d hd hc)) (λus S Q h=>by let#[a,b,_,rfl,_]:=h;rfl);have g2:=R.ws.up B g1 (PL.JV _ #[e1,e2,e3,e4,e5,e6] d) (λus S Q h=>by let#[m,h]:=h;exact ua _ _ _ h);have g3:=R.item.up B g2 (PL.NT _ d #[#[e1,e2,e3,e4,e5,e6],rfl]) ua;have g4:=R.cls.up B g3 (PL.Sa _ d #[#[#[e1,e2,e3,e4,e5,e6],rfl],rfl]) ua;have g5:=R.atom.up B g4 (PL.NW _ (PL.t8 n) d #[#[#[#[e1,e2,e3,e4,e5,e6],rfl],rfl],rfl,rfl]) ua;have g6:=R.repeat_.up B g5 (PL.Gs _ (PL.t8 n) d hbo #[#[#[#[#[e1,e2,e3,e4,e5,e6],rfl],rfl],rfl,rfl],rfl]) ua;have g7:=R.row.up B g6 (PL.Se _ (PL.t8 n) d hbo #[#[#[#[#[#[e1,e2,e3,e4,e5,e6],rfl],rfl],rfl,rfl],rfl],rfl,gj]) ua;have g8:=R.choice.up B g7 (PL.Gu _ (PL.t8 n) d hbo #[#[#[#[#[#[#[e1,e2,e3,e4,e5,e6],rfl],rfl],rfl,rfl],rfl],rfl,gj],rfl]) ua;refine#[_,g8,?_,#[e1,e2,e3,e4,e5,e6],gj,gi,rfl];refine fq.up (fq.up (fq.up (fq.up (fq.up (fq.up (fq.up (fq.up Sm ?_) ?_) ?_) ?_) ?_) ?_) ?_) ?_<;>decide
def wm(R:GV c T)(B:Base c T kx)(G:GS c T kx Γ k)(Sm:fq Γ0 Γ RN)(gr:PL.GR Γ)(gj:Γ "joined"=PL.ly)(gi:Γ "Reader.__init__"=PL.nK):
  ∀(n d:Nat),d+n=6->∃Γ',GS c T kx Γ' (k+16*(n+1))/\fq Γ0 Γ' RN/\PL.GR Γ'/\Γ' "joined"=PL.ly/\Γ' "Reader.__init__"=PL.nK/\Γ' "Reader.choice"=PL.z9 [] (PL.iC (PL.t8 n)) d
 |0,d,h=>ub R B G Sm gr gj gi 0 d h (λj e=>∅)
 |n+1,d,h=>by
  let#[Γ1,G1,S1,r1,j1,i1,c1]:=wm R B G Sm gr gj gi n (d+1) ∅;let#[Γ2,G2,z]:=ub R B G1 S1 r1 j1 i1 (n+1) d h (λj e=>by cases e;erw[c1]);exact#[Γ2,G2,z]
def DD(R:GV c T)(B:Base c T kx)(G:GS c T kx Γ k):∃Γ',GS c T kx Γ' (k+130)/\fq Γ Γ' RN/\Γ' "read"=PL.Dk/\Γ' "all_but"=PL.spT PL.d9:=by
 let#[Γ1,G1,S1,r1,j1,i1]:=BI R B G;let#[Γ2,G2,S2,r2,j2,i2,c2]:=wm R B G1 S1 r1 j1 i1 6 0 rfl;have g:=R.read.up B G2 (PL.NX _ i2 c2) (λus S Q h=>by let#[x,rfl,_]:=h;rfl);exact#[_,g,fq.up S2 ⋯,bD,r2.Dj]
open PL (U SO bM KU cv)
structure pd where
 x:String
 q:String
 cl:String
 st:Stmt
 N:List Str
 ps:List Str
 b:PL.dG
abbrev GX(K:Frag)(x qual:Str)(st:Stmt)(f:Addr):Prop:=∃(oc:Value)(od:Option Addr)(kV dc pm:Value)(an:Option Addr)(cd ct:Value)(sl:Array (Option Value)),
 K.lookup f=ξ #[oc,od,.func (fnOf x qual (lQ st) (fW st) (bY st) .none kV dc pm an cd ct),sl]/\codeIn K cd qual=ζ/\HD K (.ref f)=ζ
def GX.fn{K:Frag}{x qual:Str}{st:Stmt}{f:Addr}(h:GX K x qual st f):∃fd,Lx K x qual st f fd/\HD K (.ref f)=ζ:=by
 let#[oc,od,kV,dc,pm,an,cd,ct,sl,h1,h2,h3]:=h;exact#[_,Il h1 h2 h3,h3]
inductive BJ(K:Frag)(CA:List (String×Addr)):pd->Prop
 |fn{q:String}{st:Stmt}{N ps:List Str}{b:PL.dG}{f:Addr}:nsIn K bL (cj q)=ξ (ξ (.ref f))->GX K (cj q) (cj q) st f->BJ K CA #[q,q,"",st,N,ps,b]
 |mt{x q cl:String}{st:Stmt}{N ps:List Str}{b:PL.dG}{f C:Addr}:(cl=="")=ϑ->CA.lookup cl=ξ C->findIn K (.ref C) (cj q)=ξ (ξ (.ref f))->isFn K (.ref f)=ζ->GX K (cj q) (cj x) st f->BJ K CA #[x,q,cl,st,N,ps,b]
abbrev zO(r:pd):Prop:=∀(x qual:Str)(kV dc pm:Value)(an:Option Addr)(cd ct:Value)(us:List Value),us.length=r.ps.length->LJ (fnOf x qual (lQ r.st) (fW r.st) (bY r.st) .none kV dc pm an cd ct) #[us,[]]=pure (r.ps.zip us)
@[reducible]def Li(r:pd)(us:List Value):Prop:=∀(x qual:Str)(kV dc pm:Value)(an:Option Addr)(cd ct:Value),LJ (fnOf x qual (lQ r.st) (fW r.st) (bY r.st) .none kV dc pm an cd ct) #[us,[]]=pure (r.ps.zip us)
def TN{α:Type}{l:List α}{n:Nat}(h:l.length=n+1):∃a r,l=a::r/\r.length=n:=by
 cases l with
 |nil=>erw[absurd h (Nat.succ_ne_zero n).symm]
 |cons a r=>exact#[a,r,rfl,mT h]
def ln1{α:Type}{l:List α}(h:l.length=1):∃a,l=[a]:=jB.mp h
def ln2{α:Type}{l:List α}(h:l.length=2):∃a b,l=[a,b]:=by
 let#[a,r,rfl,k]:=TN h;let#[b,rfl]:=ln1 k;exact#[a,b,rfl]
def ln3{α:Type}{l:List α}(h:l.length=3):∃a b c,l=[a,b,c]:=by
 let#[a,r,rfl,k]:=TN h;let#[b,c,rfl]:=ln2 k;exact#[a,b,c,rfl]
def bd0{r:pd}(e:r.ps.length=0)(h:Li r []):zO r:=λx q a b c d f g us hl=>by
 rw[e] at hl;obtain rfl:=Ao.mp hl;erw[h x q a b c d f g]
def bd1{r:pd}(e:r.ps.length=1)(h:∀a,Li r [a]):zO r:=λx q a b c d f g us hl=>by
 let#[u,rfl]:=ln1 (hl.trans e);erw[h u x q a b c d f g]
def bd2{r:pd}(e:r.ps.length=2)(h:∀a b,Li r [a,b]):zO r:=λx q a b c d f g us hl=>by
 let#[u,v,rfl]:=ln2 (hl.trans e);erw[h u v x q a b c d f g]
def bd3{r:pd}(e:r.ps.length=3)(h:∀a b c,Li r [a,b,c]):zO r:=λx q a b c d f g us hl=>by
 let#[u,v,w,rfl]:=ln3 (hl.trans e);erw[h u v w x q a b c d f g]
def bd4{r:pd}(e:r.ps.length=4)(h:∀a b c d,Li r [a,b,c,d]):zO r:=λx q a b c d f g us hl=>by
 let#[u,s,rfl,k]:=TN (hl.trans e);let#[v,w,z,rfl]:=ln3 k;erw[h u v w z x q a b c d f g]
abbrev GY(r:pd):Bool:=(bY r.st).kind==.function && !(bY r.st).isCoroutine && !(bY r.st).isGenerator&&decide r.N.Nodup&&r.N.take r.ps.length==r.ps&&(r.ps.all λx=>(bY r.st).names.lookup x==ξ .local||(bY r.st).names.lookup x==ξ .cell)&&((bY r.st).names.all λy=>y.2 !=.free)&&decide (r.ps.length<=r.N.length)
def GY.sc{r:pd}(h:GY r=ζ):lP r.N r.ps (bY r.st)/\r.ps.length<=r.N.length:=by
 unfold GY at h;dsimp[aj,bS,decide_eq_true_eq,bq,beq_iff_eq,gZ,bne_iff_ne] at h;let#[#[#[#[#[#[#[h1,h2],h3],h4],h5],h6],h7],h8]:=h;exact#[#[h1,h2,h3,h4,h5,h6,h7],h8]
abbrev TQ(T:Tab)(r:pd):Bool:=
 if r.cl=="" then(T.qH.all λp=>p.2++"."++p.1 !=r.x)&&(T.qG.all λy=>y++".__init__" !=r.x)
 else !(T.fns.contains r.x)&&r.x==r.cl++"."++r.q&&if r.q=="__init__" then(T.qH.all λp=>p.2++"."++p.1 !=r.x)&&(T.qG.all λy=>y++".__init__" !=r.x||y==r.cl)
  else(T.qH.all λp=>p.2++"."++p.1 !=r.x||(p.1==r.q&&p.2==r.cl))&&(T.qG.all λy=>y++".__init__" !=r.x)
abbrev Lj(rows:List pd):List String:=(rows.filter λr=>r.cl=="").map (·.x)
abbrev Lk(rows:List pd):List (String×String):=(rows.filter λr=>r.cl !=""&&r.q !="__init__").map λr=>(r.q,r.cl)
structure OH(K:Frag)(p:String×Addr)(fl:List String):Prop where
 ns:nsIn K bL (cj p.1)=ξ (ξ (.ref p.2))
 cl:xw K p.2
 ms:makesIn K p.2=ζ
 kp:HD K (.ref p.2)=ζ
 na:fl.map (λf=>findIn K (.ref p.2) (cj f))=fl.map λ_=>ξ ψ
def su{α:Type}{x:String}{a:α}:∀{l:List (String×α)},l.lookup x=ξ a->(x,a)∈l
 | (k,v)::l,h=>by
  rw[aP] at h;split at h
  .rename_i e
   have e:x=k:=eq_of_beq e;cases h;subst e;erw[aN ..]
  .erw[av _ (su h)]
def Xy{K:Frag}{C:Addr}{fl:List String}(h:fl.map (λf=>findIn K (.ref C) (cj f))=fl.map λ_=>ξ ψ):∀f∈fl,mw K C (nm f):=λf m=>tU.mp h f m
section
variable{c:Ctx}{T:Tab}{rows:List pd}{CA:List (String×Addr)}{h:Heap}{fl:List String}
def OI(X:c.K.In h)(G:h.Ns bL c.mg)(hc:c.cls=λx=>CA.lookup x)(hC:∀p∈CA,OH c.K p fl)(R:∀r∈rows,BJ c.K CA r)(bd:∀r∈rows,zO r)(sc:rows.all GY=ζ)(rl:rows.all (TQ T)=ζ)
  (tx:rows.map (λr=>LB T 60 #[(bY r.st).names,r.N,ζ] (fW r.st))=rows.map λr=>ξ r.b) (i:Nat) (r:pd) (e:rows[i]?=ξ r):gH c T r.x r.ps.length (r.N.length-r.ps.length) r.b:=by
 have m:=ai e;let#[s1,s2]:=(bS.mp sc r m |> GY.sc)
 have t:=tU.mp tx r m;have b:=bd r m;have rr:=bS.mp rl r m;have ln:r.N.length=r.ps.length+(r.N.length-r.ps.length):=∅
 cases R r m with
 |fn h1 h2=>
  let#[fd,F,kp]:=h2.fn;refine#[#[_,_,_,_,#[#[_,_,fd,F,F.binds λkV dc pm an cd ct us hl=>b _ _ kV dc pm an cd ct us hl],s1,#[60,t],ln],rfl,λg ro=>?_]];have rr:((T.qH.all λp=>p.2++"."++p.1 !=_)&&(T.qG.all λy=>y++".__init__" !=_))=ζ:=rr;rw[aj] at rr;erw[OE (qV X G h1) rr.1 rr.2 ro]
 |@mt x q cl st N ps b' f C hn h0 h1 h2 h3=>
  let#[fd,F,kp]:=h3.fn;refine#[#[_,_,_,_,#[#[_,_,fd,F,F.binds λkV dc pm an cd ct us hl=>b _ _ kV dc pm an cd ct us hl],s1,#[60,t],ln],rfl,λg ro=>?_]];unfold TQ at rr;dsimp[hn,ax,if_false,aj,gZ,beq_iff_eq] at rr;let#[#[r1,r2],r3]:=rr;have hcl:c.cls cl=ξ C:=%[hc|h0]
  have cm:=hC _ (su h0);subst r2;by_cases z:q="__init__"
  .subst z
   dsimp[if_true,aj] at r3;have e:cl++"."++"__init__"=cl++".__init__":=by rw[String.append_assoc];rfl
   have ro:Role c T (cl++"."++"__init__") g:=ro;rw[e] at r1 r3 ro;erw[OG (cl:=cl) hcl #[cm.ms,h1,h2,cm.kp] r1 r3.1 r3.2 ro]
  .rw[if_neg z,aj] at r3
   erw[OF (m:=q) (cl:=cl) hcl #[h1,h2,kp] r1 r3.1 r3.2 ro]
def DE{r:pd}{f:Addr}{x qual:Str}{k:Nat}(b:zO r)(h:GX c.K x qual r.st f):FnAt c k f wW:=by
 let#[fd,F,kp]:=h.fn;erw[Xw (F.binds λkV dc pm an cd ct us hl=>b _ _ kV dc pm an cd ct us hl)]
def TR{k:Nat}(X:c.K.In h)(G:h.Ns bL c.mg)(hc:c.cls=λx=>CA.lookup x)(hC:∀p∈CA,OH c.K p fl)(R:∀r∈rows,BJ c.K CA r)(bd:∀r∈rows,zO r)
  (t1:T.fns=Lj rows) (t2:T.qH=Lk rows) (t3:∀x∈T.qG,∃r∈rows,r.cl=x/\r.q="__init__"/\(x=="")=ϑ):gM c T (λ_=>wW) k:=by
 rwa[gM.none (λx hx=>?_) (λp hp=>?_) (λx hx=>?_)]
 .rw[t1] at hx
  let#[r,hr,rfl]:=bO.mp hx;let#[m,e]:=fw.mp hr;have b:=bd r m;cases R r m with
  |@fn q st N ps b' f h1 h2=>
   let#[fd,F,kp]:=h2.fn;exact#[f,qV X G h1,kp,DE b h2]
  |mt hn=>erw[absurd e (by show ¬(_=="")=ζ;rw[hn];simp)]
 .rw[t2] at hp
  let#[r,hr,rfl]:=bO.mp hp;let#[m,e]:=fw.mp hr;have b:=bd r m;cases R r m with
  |fn h1 h2=>simp at e
  |@mt x q cl st N ps b' f C hn h0 h1 h2 h3=>
   let#[fd,F,kp]:=h3.fn;exact#[C,f,%[hc|h0],#[h1,h2,kp],DE b h3]
 .let#[r,m,rfl,eq,ne]:=t3 x hx
  have b:=bd r m;cases R r m with
  |fn h1 h2=>simp at ne
  |@mt x q cl st N ps b' f C hn h0 h1 h2 h3=>
   have eq:q="__init__":=eq;subst eq;have cm:=hC _ (su h0);exact#[C,f,%[hc|h0],qV X G cm.ns,#[cm.ms,h1,h2,cm.kp],DE b h3]
def TU(hc:c.cls=λx=>CA.lookup x)(hC:∀p∈CA,OH c.K p fl)(x:String)(C:Addr)(h:c.cls x=ξ C):xw c.K C/\∀f∈fl,mw c.K C (nm f):=by
 rw[hc] at h;have:=hC _ (su h);exact#[this.cl,Xy this.na]
end
def uR{c:Ctx}{x:String}{s:Str}{t:Tok}{l:List Nat}(h:c.mg (nm x)=ξ (.str s t))(e:s=tx l):∃v u,c.mg (nm x)=ξ u/\RelV v u/\∀ρ H,Rep c ρ H (.str l) v:=
 #[.str (tx l),_,h,#[t,by rw[e]],λ_ _=>bF.mpr rfl]
def BK{K:Frag}{a:Addr}:∀(kvs:List (Str×Str)),(∀p∈kvs,∃t,nsIn K a p.1=ξ (ξ (.str p.2 t)))->∀k v,(kvs.map λp=>(p.1,V.str p.2)).lookup k=ξ v->∃u,RelV v u/\nsIn K a k=ξ (ξ u)
 |[],_,k,v,h=>by simp at h
 |p::r,hp,k,v,h=>by
  rw[aw,aP] at h;split at h
  .rename_i e
   have e:k=p.1:=eq_of_beq e;cases h;let#[t,z]:=hp p (aN ..);exact#[_,#[t,rfl],%[e|z]]
  .erw[BK r (λq hq=>hp q (av _ hq)) k v h]
abbrev GZ:Value->Option Str
 |.str s _=>ξ s
 |_=>ψ
def E6(k:Str):∀(es:List p9)(ks:List Str),es.map (λe=>GZ e.key)=ks.map ξ->k∉ks->es.find? (·.key.isStr k)=ψ/\es.any (·.refKey)=ϑ
 |[],_,_,_=>#[rfl,rfl]
 |e::r,[],h,_=>by cases h
 |⟨hs,ky,vl⟩::r,q::ks,h,n=>by
  rw[aw,aw,dy] at h;let#[i,j]:=E6 k r ks h.2 λz=>n (av _ z)
  have h1:GZ ky=ξ q:=h.1;cases ky with
  |str s t=>
   have e:s=q:=aK h1;subst e;have ne:(s==k)=ϑ:=by
    rw[beq_eq_false_iff_ne];erw[λz=>n (z▸aN ..)]
   exact#[by rw[dX];show(match (s==k) with|true=>_|false=>_)=_;rw[ne];erw[i],by rw[dO,j];rfl]
  |_=>cases h1
def OJ{c:Ctx}{x:String}{a:Addr}{es:Array p9}{n:Nat}{kvs:List (List Nat×List Nat)}(h:c.mg (nm x)=ξ (.ref a))(l:c.K.lookup a=ξ #[.type "dict",ψ,.dict es n,#[]])(kl:BU c.w.params es.toList)
  (ky:es.toList.map (λe=>GZ e.key)=(kvs.map λp=>tx p.1).map ξ) (ns:(a==cg)=ϑ)
  (hk:∀p∈kvs,∃t,nsIn c.K a (tx p.1)=ξ (ξ (.str (tx p.2) t))):∃v u,c.mg (nm x)=ξ u/\RelV v u/\∀ρ H,Rep c ρ H (.tab kvs) v:=by
 refine#[.ref a,_,h,rfl,λρ H=>uH.mpr #[a,rfl,#[es,n,l,kl],λk v e=>?_,λk e=>?_,ns]]
 .rwa[BK (kvs.map λp=>(tx p.1,tx p.2)) ?_ k v (%[bB|e])]
  intro p hp;let#[q,hq,rfl]:=bO.mp hp;erw[hk q hq]
 .have nm:k∉kvs.map λp=>tx p.1:=λz=>by
   let#[q,hq,rfl]:=bO.mp z;have:=Aq.mp e (tx q.1,V.str (tx q.2)) (bO.mpr #[q,hq,rfl]);simp at this
  let#[i,j]:=E6 k _ _ ky nm;unfold nsIn;rw[l]
  show(match es.toList.find? (·.key.isStr k) with|some e=>ξ (ξ e.val)|none=>if es.toList.any (·.refKey) then ψ else ξ ψ)=ξ ψ
  rw[i,j]
  rfl
def Xz{c:Ctx}{x:String}{a:Addr}{es:Array p9}{n:Nat}{z0 z1 z2 k0 k1 k2:Str}{t0 t1 t2:Tok}{l0 l1 l2 m0 m1 m2:List Nat}(h:c.mg (nm x)=ξ (.ref a))(l:c.K.lookup a=ξ #[.type "dict",ψ,.dict es n,#[]])(kl:BU c.w.params es.toList)
  (ky:es.toList.map (λe=>GZ e.key)= [ξ k0,ξ k1,ξ k2]) (ns:(a==cg)=ϑ) (c0:k0=tx l0) (c1:k1=tx l1) (c2:k2=tx l2)
  (r0:nsIn c.K a k0=ξ (ξ (.str z0 t0))) (e0:z0=tx m0) (r1:nsIn c.K a k1=ξ (ξ (.str z1 t1))) (e1:z1=tx m1) (r2:nsIn c.K a k2=ξ (ξ (.str z2 t2))) (e2:z2=tx m2):
  ∃v u,c.mg (nm x)=ξ u/\RelV v u/\∀ρ H,Rep c ρ H (.tab [(l0,m0),(l1,m1),(l2,m2)]) v:=by
 subst c0 c1 c2 e0 e1 e2;rwa[OJ h l kl ky ns ?_];erw[ba.mpr #[#[t0,r0],ba.mpr #[#[t1,r1],ba.mpr #[#[t2,r2],λ_ h=>(cA h).elim]]]]
open PL (U SO bM KU cv)
def gM.mono(G:gM c T Γ j)(h:j<=k):gM c T Γ k:=
 #[λx hx=>let ⟨f,a,b,d⟩:=G.fns x hx;#[f,a,b,d.mono h],λp hp=>let ⟨C,f,a,b,d⟩:=G.Uc p hp;#[C,f,a,b,d.mono h],λx hx=>let ⟨C,f,a,b,e,d⟩:=G.cls x hx;#[C,f,a,b,e,d.mono h]]
def gM.mix(G1:gM c T Γ1 k)(G2:gM c T Γ2 k)(h:∀x,Γ x=Γ1 x\/Γ x=Γ2 x):gM c T Γ k:=by
 refine#[λx hx=>?_,λp hp=>?_,λx hx=>?_]
 .rcases h x with e|e<;>rw[e]
  .erw[G1.fns x hx]
  .erw[G2.fns x hx]
 .rcases h (p.2++"."++p.1) with e|e<;>rw[e]
  .erw[G1.Uc p hp]
  .erw[G2.Uc p hp]
 .rcases h (x++".__init__") with e|e<;>rw[e]
  .erw[G1.cls x hx]
  .erw[G2.cls x hx]
def GS.mono(G:GS c T kx Γ j)(h:j<=k):GS c T kx Γ k:=#[aH G.le h,gM.mono G.ok h]
structure TV(c:Ctx)(T:Tab):Prop where
 written:gH c T "written" 1 0 PL.pO
 row:gH c T "row_text" 1 0 PL.nv
 rep:gH c T "repeat_text" 1 2 PL.jR
 atom:gH c T "atom_text" 1 0 PL.lT
 place:gH c T "place_text" 1 0 PL.kK
 sign:gH c T "sign_text" 2 0 PL.lU
 texts:gH c T "class_texts" 1 1 PL.jS
 guarded:gH c T "guarded" 1 0 PL.pP
 items:gH c T "class_items" 1 2 PL.jT
 runs:gH c T "runs" 1 3 PL.yX
 aav:gH c T "run_items" 1 2 PL.lV
open PL.nW in
structure zP(c:Ctx)(T:Tab):Prop where
 po:gH c T "places_of" 2 4 lX
 to:gH c T "tree_of" 2 1 pQ
 mem:gH c T "members" 1 0 pR
 pt:gH c T "Part.__init__" 4 0 lY
 beh:gH c T "one_behind_other" 2 2 fY
 or_:gH c T "one_or_other" 2 0 jo
 li:gH c T "Layout.__init__" 1 0 jU
 hm:gH c T "Layout.how_many" 1 0 gI
 cr:gH c T "Layout.close_rule" 2 0 fI
 lk:gH c T "Layout.link" 3 1 jV
 lay:gH c T "Layout.lay" 2 0 kL
 lp:gH c T "Layout.lay_place" 2 1 fZ
 lr:gH c T "Layout.lay_row" 2 3 iB
 lc:gH c T "Layout.lay_choice" 2 2 fJ
 lq:gH c T "Layout.lay_repeat" 2 4 fK
 us:gH c T "useful_places" 1 5 iV
 ptt:gH c T "places_that_take" 2 0 f9
 pi:gH c T "Places.__init__" 2 1 jW
 Xc:gH c T "Places.beyond" 2 2 iW
 fr:gH c T "Places.first_rule" 2 2 fL
open PL.nW in
structure DG(c:Ctx)(T:Tab):Prop where
 cell:gH c T "_law_cell" 2 0 PL.uF.lW
 mix:gH c T "_law_mix" 2 1 PL.uF.ny
 all:gH c T "_law_all" 0 1 PL.uF.nA
 no:gH c T "_law_nothing" 1 0 jq
 sm:gH c T "_law_small" 3 3 kM
 tr:gH c T "_law_trees" 4 3 kN
 ot:gH c T "_law_other" 2 2 PL.Lz.kT
open PL.wx in
structure XA(c:Ctx)(T:Tab):Prop where
 tb:gH c T "table_of" 1 0 nB
 ti:gH c T "Table.__init__" 3 0 kO
 sp:gH c T "spread" 1 7 rN
 st:gH c T "smallest" 1 5 nE
 wn:gH c T "with_nowhere" 1 1 jr
 ro:gH c T "rounds" 2 3 rO
 pa:gH c T "parted" 3 3 rP
 nu:gH c T "numbered" 1 1 nF
 te:gH c T "telling_signs" 1 2 iX
open PL.Ly in
structure XB(c:Ctx)(T:Tab):Prop where
 di:gH c T "difference" 2 4 kP
 mv:gH c T "moved" 2 0 uG
 ta:gH c T "text_apart" 3 4 kR
 aa:gH c T "are_apart" 2 0 lZ
 sb:gH c T "states_behind" 3 0 iY
 sa:gH c T "sign_apart" 3 0 kS
 sz:gH c T "Table.size" 1 0 kQ
 se:gH c T "same" 2 0 PL.Lz.yY
open PL PL.nW in
def BL(us:List U)(S:bM)(Q:KU)(h:By D f us S Q):us.length=1:=by
 let#[_,rfl,_]:=h;rfl
open PL PL.nW in
def yk(us:List U)(S:bM)(Q:KU)(h:ij D us S Q):us.length=2:=by
 let#[_,_,_,_,_,_,rfl,_]:=h;rfl
open PL PL.nW in
def sv(W:TV c T)(B:Base c T kx)(G:GS c T kx Γ j)(k:Nat)(hk:k<=10)(D:Tr->Prop)(hD:∀t,bV t<=k->v8 t->D t)(hp:Γ "place_text"=N9)(hw:Γ "written"=By D wr):
  ∃Γ',GS c T kx Γ' (j+8)/\Γ' "place_text"=N9/\Γ' "written"=By (λt=>bV t<=k\/(v8 t/\bV t<=k+1)) wr:=by
 have g1:=W.atom.up B G (SM _ k D hD hp hw) BL;have g2:=W.rep.up B g1 (SN _ k hk bD) BL;have g3:=W.row.up B g2 (SQ _ k bD) BL;have g4:=W.written.up B g3 (SR _ k bD) BL;exact#[_,g4,hp,bD]
open PL PL.nW in
def XC(R:GV c T)(W:TV c T)(B:Base c T kx)(G:GS c T kx Γ j):∃Γ',GS c T kx Γ' (j+58)/\Γ' "written"=By (λt=>bV t<=4\/(v8 t/\bV t<=4+1)) wr:=by
 have a0:=R.Dj.up B G (vL _) len_T;have a1:=W.sign.up B a0 (WG _) (λus S Q h=>by let#[_,_,rfl,_]:=h;rfl);have a2:=W.aav.up B a1 (WJ _ bD) (λus S Q h=>by let#[_,rfl,_]:=h;rfl);have a3:=W.runs.up B a2 (WL _) (λus S Q h=>by let#[_,rfl,_]:=h;rfl);have a4:=W.items.up B a3 (WN _ rfl rfl) (λus S Q h=>by let#[_,rfl,_]:=h;rfl);have a5:=W.guarded.up B a4 (WR _) (λus S Q h=>by let#[_,_,rfl,_]:=h;rfl);have a6:=W.texts.up B a5 (WV _ rfl rfl rfl) (λus S Q h=>by let#[_,rfl,_]:=h;rfl);have a7:=W.place.up B a6 (WW _ rfl rfl rfl) (λus S Q h=>by let#[_,rfl,_]:=h;rfl);have a8:=W.written.up B a7 (sp:=By (λ_=>False) wr) (λus S Q h=>by let#[_,_,h,_]:=h;exact h.elim) BL;let#[Γ1,G1,p1,w1]:=sv W B a8 0 ∅ _ (λt d r=>by cases t<;>first|exact r.elim|exact absurd d (Nat.not_succ_le_zero _)) rfl bD;obtain⟨Γ2,G2,p2,w2⟩:=sv W B G1 1 ∅ _ (λt d r=>.inr #[r,d]) p1 w1;obtain⟨Γ3,G3,p3,w3⟩:=sv W B G2 2 ∅ _ (λt d r=>.inr #[r,d]) p2 w2;obtain⟨Γ4,G4,p4,w4⟩:=sv W B G3 3 ∅ _ (λt d r=>.inr #[r,d]) p3 w3;obtain⟨Γ5,G5,p5,w5⟩:=sv W B G4 4 ∅ _ (λt d r=>.inr #[r,d]) p4 w4;exact#[Γ5,G5,w5]
section
open PL PL.nW
structure GP(Γ:cv):Prop where
 mem:Γ "members"=Bs
 pt:Γ "Part.__init__"=zr
 beh:Γ "one_behind_other"=qL tF
 or_:Γ "one_or_other"=qL Wd
 li:Γ "Layout.__init__"=So
 hm:Γ "Layout.how_many"=Sq
 cr:Γ "Layout.close_rule"=Ss
 lk:Γ "Layout.link"=Kj
 lp:Γ "Layout.lay_place"=ij λt u=>∃n l,t=.one n l/\u=.str l
variable{c:Ctx}{T:Tab}{Γ:cv}{j kx:Nat}
def OK(P:zP c T)(B:Base c T kx)(G:GS c T kx Γ j):∃Γ',GS c T kx Γ' (j+20)/\GP Γ'/\Γ' "Layout.lay"=ij (Tu 0):=by
 have g1:=P.mem.up B G (Sj _) (λus S Q h=>by let#[_,rfl,_]:=h;rfl);have g2:=P.pt.up B g1 (Wc _) (λus S Q h=>by let#[_,_,_,_,rfl,_]:=h;rfl);have g3:=P.beh.up B g2 (Sk _ bD) (λus S Q h=>by let#[_,_,_,_,_,_,_,_,rfl,_]:=h;rfl);have g4:=P.or_.up B g3 (We _ rfl) (λus S Q h=>by let#[_,_,_,_,_,_,_,_,rfl,_]:=h;rfl);have g5:=P.li.up B g4 (Wf _) (λus S Q h=>by let#[_,rfl,_]:=h;rfl);have g6:=P.hm.up B g5 (Wg _) (λus S Q h=>by let#[_,_,_,_,rfl,_]:=h;rfl);have g7:=P.cr.up B g6 (Wh _) (λus S Q h=>by let#[_,_,_,_,_,_,_,_,_,_,rfl,_]:=h;rfl);have g8:=P.lk.up B g7 (Wj _ rfl) (λus S Q h=>by let#[_,_,_,_,_,_,rfl,_]:=h;rfl);have g9:=P.lp.up B g8 (Wk _ rfl) yk;have ga:=P.lay.up B g9 (sp:=ij (Tu 0)) (λus S Q h=>by let#[_,_,_,_,_,_,_,h,_]:=h;erw[absurd h.1 (dq _)]) yk;exact#[_,ga,#[rfl,rfl,rfl,rfl,rfl,rfl,rfl,rfl,rfl],bD]
def pe(P:zP c T)(B:Base c T kx)(G:GS c T kx Γ j)(g:GP Γ)(d:Nat)(hd:d<=100)(hl:Γ "Layout.lay"=ij (Tu d)):∃Γ',GS c T kx Γ' (j+8)/\GP Γ'/\Γ' "Layout.lay"=ij (Tu (d+1)):=by
 let#[e1,e2,e3,e4,e5,e6,e7,e8,e9]:=g;have g1:=P.lr.up B G (Wn _ d e2 hl e8 e3) yk;have g2:=P.lc.up B g1 (Wo _ d e2 hl e4) yk;have g3:=P.lq.up B g2 (Wq _ d hd e2 hl e8) yk;have g4:=P.lay.up B g3 (Sx _ d e9 rfl rfl rfl) yk;exact#[_,g4,#[e1,e2,e3,e4,e5,e6,e7,e8,e9],bD]
def XD(P:zP c T)(B:Base c T kx)(G:GS c T kx Γ j):∃Γ',GS c T kx Γ' (j+75)/\GP Γ'/\Γ' "Layout.lay"=ij (Tu 5)/\Γ' "Places.__init__"=Km/\Γ' "Places.beyond"=Kn/\Γ' "Places.first_rule"=Ko:=by
 let#[Γ0,G0,p0,l0]:=OK P B G;let#[Γ1,G1,p1,l1]:=pe P B G0 p0 0 ∅ l0;let#[Γ2,G2,p2,l2]:=pe P B G1 p1 1 ∅ l1;let#[Γ3,G3,p3,l3]:=pe P B G2 p2 2 ∅ l2;let#[Γ4,G4,p4,l4]:=pe P B G3 p3 3 ∅ l3;let#[Γ5,G5,p5,l5]:=pe P B G4 p4 4 ∅ l4;let#[e1,e2,e3,e4,e5,e6,e7,e8,e9]:=p5;have g1:=P.us.up B G5 (Ws _ e1) (λus S Q h=>by let#[_,_,_,_,rfl,_]:=h;rfl);have g2:=P.ptt.up B g1 (Sy _) (λus S Q h=>by let#[_,_,_,_,_,rfl,_]:=h;rfl);have g3:=P.pi.up B g2 (Wu _ rfl bD) (λus S Q h=>by let#[_,_,_,_,_,rfl,_]:=h;rfl);have g4:=P.Xc.up B g3 (Wv _ e1) (λus S Q h=>by let#[_,_,_,_,_,rfl,_]:=h;rfl);have g5:=P.fr.up B g4 (Ww _) (λus S Q h=>by let#[_,_,_,_,_,rfl,_]:=h;rfl);exact#[_,g5.mono ∅,#[e1,e2,e3,e4,e5,e6,e7,e8,e9],l5,rfl,rfl,bD]
open PL.wx in
def XE(W:XA c T)(B:Base c T kx)(G:GS c T kx Γ j)(h1:Γ "Places.beyond"=Kn)(h2:Γ "Places.first_rule"=Ko)(g:GP Γ)(h3:Γ "Layout.lay"=ij (Tu 5))(h4:Γ "Places.__init__"=Km):∃Γ',GS c T kx Γ' (j+25)/\GP Γ'/\Γ' "Layout.lay"=ij (Tu 5)/\Γ' "Places.__init__"=Km/\Γ' "spread"=Tf/\Γ' "smallest"=Tn/\Γ' "with_nowhere"=KS/\Γ' "rounds"=KZ:=by
 let#[e1,e2,e3,e4,e5,e6,e7,e8,e9]:=g;have g1:=W.nu.up B G (SU _) (λus S Q h=>by let#[_,rfl,_]:=h;rfl);have g2:=W.te.up B g1 (SV _) (λus S Q h=>by let#[_,_,_,rfl,_]:=h;rfl);have g3:=W.wn.up B g2 (W2 _) (λus S Q h=>by let#[_,_,_,rfl,_]:=h;rfl);have g4:=W.pa.up B g3 (SY _ rfl) (λus S Q h=>by let#[_,_,_,_,_,_,_,rfl,_]:=h;rfl);have g5:=W.ro.up B g4 (W6 _ rfl rfl bD) (λus S Q h=>by let#[_,_,_,_,rfl,_]:=h;rfl);have g6:=W.ti.up B g5 (W7 _) (λus S Q h=>by let#[_,_,_,_,rfl,_]:=h;rfl);have g9:=W.sp.up B g6 (Xa _ h1 h2 bD) (λus S Q h=>by let#[_,_,_,_,_,rfl,_]:=h;rfl);have ga:=W.st.up B g9 (Xb _ rfl rfl rfl) (λus S Q h=>by let#[_,_,_,_,_,rfl,_]:=h;rfl);exact#[_,ga.mono ∅,#[e1,e2,e3,e4,e5,e6,e7,e8,e9],h3,h4,rfl,bD,rfl,rfl]
open PL.wx in
def XF(D:XB c T)(B:Base c T kx)(G:GS c T kx Γ j)(h1:Γ "table_of"=GO)(h2:Γ "with_nowhere"=KS)(h3:Γ "rounds"=KZ):∃Γ',GS c T kx Γ' (j+16)/\Γ' "table_of"=GO/\Γ' "difference"=OB/\Γ' "same"=E2:=by
 have g1:=D.aa.up B G (Xk _) (λus S Q h=>by let#[_,_,_,_,rfl,_]:=h;rfl);have g2:=D.sb.up B g1 (Xl _) (λus S Q h=>by let#[_,_,_,_,_,_,rfl,_]:=h;rfl);have g3:=D.sa.up B g2 (Xm _ rfl rfl) (λus S Q h=>by let#[_,_,_,_,_,_,_,rfl,_]:=h;rfl);have g4:=D.ta.up B g3 (Xo _ rfl rfl rfl) (λus S Q h=>by let#[_,_,_,_,_,_,_,_,_,rfl,_]:=h;rfl);have g5:=D.mv.up B g4 (Xq _) (λus S Q h=>by let#[_,_,_,_,rfl,_]:=h;rfl);have g6:=D.sz.up B g5 (Xs _) (λus S Q h=>by let#[_,_,_,_,rfl,_]:=h;rfl);have g7:=D.di.up B g6 (Xt _ h1 bD rfl h2 h3 rfl) (λus S Q h=>by let#[_,_,_,_,_,_,rfl,_]:=h;rfl);have g8:=D.se.up B g7 (OD _) (λus S Q h=>by let#[_,_,_,_,_,_,_,_,rfl,_]:=h;rfl);exact#[_,g8.mono ∅,h1,rfl,bD]
def pX(L:DG c T)(B:Base c T kx)(G:GS c T kx Γ j)(d:Nat)(h1:Γ "_law_nothing"=Bw d):∃Γ',GS c T kx Γ' (j+4)/\Γ' "_law_nothing"=Bw (d+1):=by
 have g2:=L.no.up B G (WD _ d h1) (λus S Q h=>by let#[_,rfl,_]:=h;rfl);exact#[_,g2.mono ∅,bD]
def XG(L:DG c T)(B:Base c T kx)(G:GS c T kx Γ j):∃Γ',GS c T kx Γ' (j+70)/\Γ' "_law_mix"=uF.yb/\Γ' "_law_trees"=SI/\Γ' "_law_other"=PL.wx.Dz 3:=by
 have a1:=L.no.up B G (sp:=Bw 0) (λus S Q h=>by
  obtain⟨_,_,⟨_,_,h,_⟩|⟨_,_,h,_⟩⟩:=h
  .erw[absurd h (dq _)]
  .erw[absurd h (dq _)]) (λus S Q h=>by let#[_,rfl,_]:=h;rfl)
 let#[Γ1,G1,n1]:=pX L B a1 0 bD;let#[Γ2,G2,n2]:=pX L B G1 1 n1;let#[Γ3,G3,n3]:=pX L B G2 2 n2;let#[Γ4,G4,n4]:=pX L B G3 3 n3;let#[Γ5,G5,n5]:=pX L B G4 4 n4;let#[Γ6,G6,n6]:=pX L B G5 5 n5;have c1:=L.cell.up B G6 (sp:=uF.Dl) (uF.NZ _) (λus S Q h=>by let#[_,_,rfl,_]:=h;rfl);have c2:=L.mix.up B c1 (sp:=uF.yb) (uF.Sf _ bD) (λus S Q h=>by let#[_,_,rfl,_]:=h;rfl);have c3:=L.all.up B c2 (sp:=uF.Ka) (uF.Sg _) (λus S Q h=>by let#[rfl,_]:=h;rfl);have c4:=L.sm.up B c3 (sp:=Ob 0) (λus S Q h=>by let#[_,_,_,_,_,h,_]:=h;erw[absurd h (dq _)]) (λus S Q h=>by let#[_,_,_,rfl,_]:=h;rfl);have c5:=L.sm.up B c4 (Kz _ 0 rfl rfl bD) (λus S Q h=>by let#[_,_,_,rfl,_]:=h;rfl);have c6:=L.sm.up B c5 (Kz _ 1 rfl rfl bD) (λus S Q h=>by let#[_,_,_,rfl,_]:=h;rfl);have c7:=L.sm.up B c6 (Kz _ 2 rfl rfl bD) (λus S Q h=>by let#[_,_,_,rfl,_]:=h;rfl);have c8:=L.tr.up B c7 (WY _ bD n6) (λus S Q h=>by let#[_,_,_,_,rfl,_]:=h;rfl);have d0:=L.ot.up B c8 (sp:=PL.wx.Dz 0) (λus S Q h=>by let#[_,_,_,h,_]:=h;erw[absurd h (dq _)]) (λus S Q h=>by let#[_,_,rfl,_]:=h;rfl);have d1:=L.ot.up B d0 (PL.wx.Lb _ 0 bD n6) (λus S Q h=>by let#[_,_,rfl,_]:=h;rfl);have d2:=L.ot.up B d1 (PL.wx.Lb _ 1 bD n6) (λus S Q h=>by let#[_,_,rfl,_]:=h;rfl);have d3:=L.ot.up B d2 (PL.wx.Lb _ 2 bD n6) (λus S Q h=>by let#[_,_,rfl,_]:=h;rfl);exact#[_,d3.mono ∅,rfl,rfl,bD]
def zQ(l:List String)(G1:GS c T kx Γ1 j)(G2:GS c T kx Γ2 j):GS c T kx (λx=>if x∈l then Γ1 x else Γ2 x) j:=#[G1.le,gM.mix G1.ok G2.ok λx=>by
 by_cases h:x∈l
 .erw[.inl (if_pos h)]
 .erw[.inr (if_neg h)]]
def Ll{xs qual:Str}{st:Stmt}{f:Addr}{fd:fP}{N ps:List Str}(R:GV c T)(W:TV c T)(P:zP c T)(Tb:XA c T)(D:XB c T)(L:DG c T)(F:Lx c.K xs qual st f fd)(S:lP N ps (bY st))(tx:LB T 60 #[(bY st).names,N,ζ] (fW st)=ξ PL.Lz.Ee)(hm:N.length=ps.length+7)(hp:ps.length=1)(B:Base c T 1)(G:gM c T (λ_=>wW) 1):jz c.P c.w c.K c.mg c.base CB 200 f fd ps (lift c De):=by
 have G:GS c T 1 (λ_=>wW) 1:=#[ar _,G]
 obtain⟨Γr,Gr,-,hr,-⟩:=DD R B G;let#[Γw,Gw,hw]:=XC R W B G;let#[Γq,Gq,gq,ql,qi,qb,qf]:=XD P B G;let#[Γp,Gp,gp,pl,pi,ps1,pt,pw,pr]:=XE Tb B Gq qb qf gq ql qi;let#[Γl,Gl,l1,l2,l3]:=XG L B G;let#[e1,e2,e3,e4,e5,e6,e7,e8,e9]:=gp;have m1:=zQ ["read"] Gr (Gp.mono (k:=1+130) ∅);have g1:=P.to.up B m1 (Wz _ hr) (λus S Q h=>by let#[_,_,_,_,rfl,_]:=h;rfl);have g2:=P.po.up B g1 (WC _ e5 pl bD e6 e7 pi) (λus S Q h=>by let#[_,_,_,_,rfl,_]:=h;rfl);have g4:=Tb.tb.up B g2 (PL.wx.Xf _ bD ps1 pt) (λus S Q h=>by let#[_,_,_,rfl,_]:=h;rfl);let#[Γd,g5,d1,d2,d3]:=XF D B g4 bD pw pr;have m2:=zQ ["written"] (Gw.mono (k:=162) ∅) (g5.mono ∅);have m3:=zQ ["_law_mix","_law_trees","_law_other"] (Gl.mono (k:=162) ∅) m2;have h:=OY F S B m3.le m3.ok tx (sp:=De) (PL.wx.Lh _ l1 l2 l3 hw d2 d1 d3) hm (λus S Q h=>by let#[_,rfl,_]:=h;erw[hp.symm]);erw[h.mono ∅]
end
end L2
section
set_option autoImplicit false
namespace DH
open PySem PySem.Spec PyProof.Rows PySem.W L2
abbrev top(i:Nat):Stmt:=PySem.Challenge.pw_tokenwright_k21_tables_alike.main.body.getD i (.Pass #[0,0,0,0])
abbrev rows:List pd:=
 #["in_order","in_order","",top 9,["signs"],["signs"],PL.nk]::
 #["all_but","all_but","",top 10,["signs"],["signs"],PL.pM]::
 #["is_ahead","is_ahead","",top 11,["one","other"],["one","other"],PL.nq]::
 #["stretch","stretch","",top 12,["first","last"],["first","last"],PL.pN]::
 #["read","read","",top 17,["text","reader","tree"],["text"],PL.yW]::
 #["joined","joined","",top 18,["kind","trees"],["kind","trees"],PL.rM]::
 #["Reader.__init__","__init__","Reader",inClass (top 19) 0,["self","text"],["self","text"],PL.jN]::
 #["Reader.sees","sees","Reader",inClass (top 19) 1,["self","signs"],["self","signs"],PL.jO]::
 #["Reader.passes","passes","Reader",inClass (top 19) 2,["self","signs"],["self","signs"],PL.iS]::
 #["Reader.choice","choice","Reader",inClass (top 19) 3,["self","trees"],["self"],PL.iT]::
 #["Reader.row","row","Reader",inClass (top 19) 4,["self","trees"],["self"],PL.kJ]::
 #["Reader.repeat","repeat","Reader",inClass (top 19) 5,["self","tree"],["self"],PL.iU]::
 #["Reader.atom","atom","Reader",inClass (top 19) 6,["self"],["self"],PL.jP]::
 #["Reader.bracket","bracket","Reader",inClass (top 19) 7,["self","tree"],["self"],PL.iA]::
 #["Reader.sign_class","sign_class","Reader",inClass (top 19) 8,["self","turned","taken"],["self"],PL.fH]::
 #["Reader.item","item","Reader",inClass (top 19) 9,["self","first","second_at","second"],["self"],PL.jQ]::
 #["Reader.written_sign","written_sign","Reader",inClass (top 19) 10,["self","marked","sign"],["self","marked"],PL.eR]::
 #["written","written","",top 54,["tree"],["tree"],PL.pO]::
 #["row_text","row_text","",top 55,["tree"],["tree"],PL.nv]::
 #["repeat_text","repeat_text","",top 56,["tree","marks","inner"],["tree"],PL.jR]::
 #["atom_text","atom_text","",top 57,["tree"],["tree"],PL.lT]::
 #["place_text","place_text","",top 58,["signs"],["signs"],PL.kK]::
 #["sign_text","sign_text","",top 59,["sign","marked"],["sign","marked"],PL.lU]::
 #["class_texts","class_texts","",top 60,["signs","texts"],["signs"],PL.jS]::
 #["guarded","guarded","",top 61,["items"],["items"],PL.pP]::
 #["class_items","class_items","",top 62,["signs","items","run"],["signs"],PL.jT]::
 #["runs","runs","",top 63,["signs","found","run","sign"],["signs"],PL.yX]::
 #["run_items","run_items","",top 64,["run","singles","whole"],["run"],PL.lV]::
 #["places_of","places_of","",top 23,["rules","most","layout","number","rule","part"],["rules","most"],PL.nW.lX]::
 #["tree_of","tree_of","",top 24,["rule","number","fault"],["rule","number"],PL.nW.pQ]::
 #["members","members","",top 25,["bits"],["bits"],PL.nW.pR]::
 #["Part.__init__","__init__","Part",inClass (top 26) 0,["self","empty","firsts","lasts"],["self","empty","firsts","lasts"],PL.nW.lY]::
 #["one_behind_other","one_behind_other","",top 27,["one","other","firsts","lasts"],["one","other"],PL.nW.fY]::
 #["one_or_other","one_or_other","",top 28,["one","other"],["one","other"],PL.nW.jo]::
 #["Layout.__init__","__init__","Layout",inClass (top 29) 0,["self"],["self"],PL.nW.jU]::
 #["Layout.how_many","how_many","Layout",inClass (top 29) 1,["self"],["self"],PL.nW.gI]::
 #["Layout.close_rule","close_rule","Layout",inClass (top 29) 2,["self","part"],["self","part"],PL.nW.fI]::
 #["Layout.link","link","Layout",inClass (top 29) 3,["self","lasts","firsts","place"],["self","lasts","firsts"],PL.nW.jV]::
 #["Layout.lay","lay","Layout",inClass (top 29) 4,["self","tree"],["self","tree"],PL.nW.kL]::
 #["Layout.lay_place","lay_place","Layout",inClass (top 29) 5,["self","signs","place"],["self","signs"],PL.nW.fZ]::
 #["Layout.lay_row","lay_row","Layout",inClass (top 29) 6,["self","trees","whole","tree","part"],["self","trees"],PL.nW.iB]::
 #["Layout.lay_choice","lay_choice","Layout",inClass (top 29) 7,["self","trees","whole","tree"],["self","trees"],PL.nW.fJ]::
 #["Layout.lay_repeat","lay_repeat","Layout",inClass (top 29) 8,["self","tree","marks","inner","part","empty"],["self","tree"],PL.nW.fK]::
 #["useful_places","useful_places","",top 30,["layout","takes_some","grown","lasts","useful","place"],["layout"],PL.nW.iV]::
 #["places_that_take","places_that_take","",top 31,["layout","sign"],["layout","sign"],PL.nW.f9]::
 #["Places.__init__","__init__","Places",inClass (top 32) 0,["self","layout","useful"],["self","layout"],PL.nW.jW]::
 #["Places.beyond","beyond","Places",inClass (top 32) 1,["self","held","reached","place"],["self","held"],PL.nW.iW]::
 #["Places.first_rule","first_rule","Places",inClass (top 32) 2,["self","held","number","lasts"],["self","held"],PL.nW.fL]::
 #["table_of","table_of","",top 35,["rules"],["rules"],PL.wx.nB]::
 #["Table.__init__","__init__","Table",inClass (top 37) 0,["self","told","rows"],["self","told","rows"],PL.wx.kO]::
 #["spread","spread","",top 38,["places","lots","numbers","rows","reach","row","sign","held"],["places"],PL.wx.rN]::
 #["smallest","smallest","",top 39,["table","blocks","told","rows","state","row"],["table"],PL.wx.nE]::
 #["with_nowhere","with_nowhere","",top 40,["rows","nowhere"],["rows"],PL.wx.jr]::
 #["rounds","rounds","",top 41,["told","rows","signs","found","finer"],["told","rows"],PL.wx.rO]::
 #["parted","parted","",top 42,["blocks","rows","signs","keys","state","row"],["blocks","rows","signs"],PL.wx.rP]::
 #["numbered","numbered","",top 43,["keys","numbers"],["keys"],PL.wx.nF]::
 #["telling_signs","telling_signs","",top 44,["rows","firsts","sign"],["rows"],PL.wx.iX]::
 #["difference","difference","",top 46,["rules","other_rules","one","other","told","rows"],["rules","other_rules"],PL.Ly.kP]::
 #["moved","moved","",top 47,["rows","by"],["rows","by"],PL.Ly.uG]::
 #["text_apart","text_apart","",top 48,["found","rows","states","size","text","pair","blocks"],["found","rows","states"],PL.Ly.kR]::
 #["are_apart","are_apart","",top 49,["blocks","pair"],["blocks","pair"],PL.Ly.lZ]::
 #["states_behind","states_behind","",top 50,["rows","pair","sign"],["rows","pair","sign"],PL.Ly.iY]::
 #["sign_apart","sign_apart","",top 51,["blocks","rows","pair"],["blocks","rows","pair"],PL.Ly.kS]::
 #["Table.size","size","Table",inClass (top 37) 1,["self"],["self"],PL.Ly.kQ]::
 #["same","same","",top 36,["one","other"],["one","other"],PL.Lz.yY]::
 #["_law_cell","_law_cell","",top 66,["_law_script","_law_k"],["_law_script","_law_k"],PL.uF.lW]::
 #["_law_mix","_law_mix","",top 67,["_law_script","_law_k","_law_number"],["_law_script","_law_k"],PL.uF.ny]::
 #["_law_all","_law_all","",top 70,["_law_low"],[],PL.uF.nA]::
 #["_law_nothing","_law_nothing","",top 71,["_law_tree"],["_law_tree"],PL.nW.jq]::
 #["_law_small","_law_small","",top 80,["_law_script","_law_base","_law_deep","_law_number","_law_way","_law_parts"],["_law_script","_law_base","_law_deep"],PL.nW.kM]::
 #["_law_trees","_law_trees","",top 81,["_law_script","_law_base","_law_many","_law_deep","_law_found","_law_k","_law_tree"],["_law_script","_law_base","_law_many","_law_deep"],PL.nW.kN]::
 #["_law_other","_law_other","",top 83,["_law_tree","_law_number","_law_parts","_law_part"],["_law_tree","_law_number"],PL.Lz.kT]::[]
abbrev T:Tab where
 const:=[("SIGNS",.str PL.SG),("MARKED_OUTSIDE",.str [46,124,40,41,91,93,42,43,63,92]),("MARKED_WITHIN",.str [93,45,92]),("DEEPEST",.int 6),("REPEATS",.tab [([42],[115,116,97,114]),([43],[112,108,117,115]),([63],[109,97,121,98,101])]),("BEHIND_BACKSLASH",.str [46,124,40,41,91,93,42,43,63,92,45,94,110]),("MOST_RULES",.int 6),("AHEAD",.int 1),("MOST_PLACES",.int 10),("MARKS",.tab [([115,116,97,114],[42]),([112,108,117,115],[43]),([109,97,121,98,101],[63])])]
 fns:=Lj rows
 qG:=["Reader","Part","Layout","Places","Table"]
 qH:=Lk rows
 yZ:=["text","at","depth","rule","empty","firsts","lasts","signs","behind","ends","takers","takes","told","rows"]
 gG:=["len","tuple","list","bool","dict","sum","min","max","all","any","isinstance","range","enumerate","reversed"]
def aaw:rows.all GY=ζ:=by decide +kernel
def aax:rows.all (TQ T)=ζ:=by decide +kernel
def aay:rows.map (λr=>LB T 60 #[(bY r.st).names,r.N,ζ] (fW r.st))=rows.map λr=>ξ r.b:=by kernel_rfl
def XH:∀r∈rows,zO r:=by
 unfold rows
 repeat' refine ba.mpr #[?_,?_]
 all_goals first|exact λ_ h=>(cA h).elim|exact bd1 rfl λ_ _ _ _ _ _ _ _ _=>rfl|exact bd2 rfl λ_ _ _ _ _ _ _ _ _ _=>rfl|exact bd3 rfl λ_ _ _ _ _ _ _ _ _ _ _=>rfl|exact bd0 rfl λ_ _ _ _ _ _ _ _=>rfl|exact bd4 rfl λ_ _ _ _ _ _ _ _ _ _ _ _=>rfl
@[reducible]def sL:Stmt:=top 84
def TX:lP ["_law_script","_law_trees_here","_law_others_here","_law_changed","_law_rules","_law_told","_law_found","_law_apart"] ["_law_script"] (bY sL):=#[rfl,rfl,rfl,by decide +kernel,rfl,by decide +kernel,by decide +kernel]
def TZ:LB T 60 #[(bY sL).names,["_law_script","_law_trees_here","_law_others_here","_law_changed","_law_rules","_law_told","_law_found","_law_apart"],ζ] (fW sL)=ξ PL.Lz.Ee:=by kernel_rfl
end DH
end
section
set_option autoImplicit true
namespace DH
open PySem PySem.Spec PyProof.Rows PySem.W L2
def all_mk{l:Hx}{w:cx}{K:Frag}{h:Heap}{mg:Str->Option Value}{fa:Addr}(X:K.In h)(G:h.Ns bL mg)(hfa:mg "law"=ξ (.ref fa))
  (a_law:nsIn K bL "law"=ξ (ξ (.ref fl)))
  (f_law:GX K "law" "law" sL fl)
  (hC:∀p∈([("Reader",C_Reader),("Part",C_Part),("Layout",C_Layout),("Places",C_Places),("Table",C_Table)]:List (String×Addr)),OH K p T.yZ)
  (hR:∀r∈rows,BJ K [("Reader",C_Reader),("Part",C_Part),("Layout",C_Layout),("Places",C_Places),("Table",C_Table)] r)
  (a_SIGNS:nsIn K bL "SIGNS"=ξ (ξ (.str z_SIGNS t_SIGNS)))
  (e_SIGNS:z_SIGNS=tx PL.SG)
  (a_MARKED_OUTSIDE:nsIn K bL "MARKED_OUTSIDE"=ξ (ξ (.str z_MARKED_OUTSIDE t_MARKED_OUTSIDE)))
  (e_MARKED_OUTSIDE:z_MARKED_OUTSIDE=tx [46,124,40,41,91,93,42,43,63,92])
  (a_MARKED_WITHIN:nsIn K bL "MARKED_WITHIN"=ξ (ξ (.str z_MARKED_WITHIN t_MARKED_WITHIN)))
  (e_MARKED_WITHIN:z_MARKED_WITHIN=tx [93,45,92])
  (a_DEEPEST:nsIn K bL "DEEPEST"=ξ (ξ (.int 6 t_DEEPEST)))
  (a_REPEATS:nsIn K bL "REPEATS"=ξ (ξ (.ref r_REPEATS)))
  (l_REPEATS:K.lookup r_REPEATS=ξ #[.type "dict",ψ,.dict es_REPEATS ec_REPEATS,#[]])
  (kl_REPEATS:BU w.params es_REPEATS.toList)
  (ky_REPEATS:es_REPEATS.toList.map (λe=>GZ e.key)= [ξ ("*":Str),ξ ("+":Str),ξ ("?":Str)])
  (sm_REPEATS:(r_REPEATS==cg)=ϑ)
  (r_REPEATS0:nsIn K r_REPEATS "*"=ξ (ξ (.str z_REPEATS0 t_REPEATS0)))
  (re_REPEATS0:z_REPEATS0=tx [115,116,97,114])
  (r_REPEATS1:nsIn K r_REPEATS "+"=ξ (ξ (.str z_REPEATS1 t_REPEATS1)))
  (re_REPEATS1:z_REPEATS1=tx [112,108,117,115])
  (r_REPEATS2:nsIn K r_REPEATS "?"=ξ (ξ (.str z_REPEATS2 t_REPEATS2)))
  (re_REPEATS2:z_REPEATS2=tx [109,97,121,98,101])
  (a_BEHIND_BACKSLASH:nsIn K bL "BEHIND_BACKSLASH"=ξ (ξ (.str z_BEHIND_BACKSLASH t_BEHIND_BACKSLASH)))
  (e_BEHIND_BACKSLASH:z_BEHIND_BACKSLASH=tx [46,124,40,41,91,93,42,43,63,92,45,94,110])
  (a_MOST_RULES:nsIn K bL "MOST_RULES"=ξ (ξ (.int 6 t_MOST_RULES)))
  (a_AHEAD:nsIn K bL "AHEAD"=ξ (ξ (.int 1 t_AHEAD)))
  (a_MOST_PLACES:nsIn K bL "MOST_PLACES"=ξ (ξ (.int 10 t_MOST_PLACES)))
  (a_MARKS:nsIn K bL "MARKS"=ξ (ξ (.ref r_MARKS)))
  (l_MARKS:K.lookup r_MARKS=ξ #[.type "dict",ψ,.dict es_MARKS ec_MARKS,#[]])
  (kl_MARKS:BU w.params es_MARKS.toList)
  (ky_MARKS:es_MARKS.toList.map (λe=>GZ e.key)= [ξ ("star":Str),ξ ("plus":Str),ξ ("maybe":Str)])
  (sm_MARKS:(r_MARKS==cg)=ϑ)
  (r_MARKS0:nsIn K r_MARKS "star"=ξ (ξ (.str z_MARKS0 t_MARKS0)))
  (re_MARKS0:z_MARKS0=tx [42])
  (r_MARKS1:nsIn K r_MARKS "plus"=ξ (ξ (.str z_MARKS1 t_MARKS1)))
  (re_MARKS1:z_MARKS1=tx [43])
  (r_MARKS2:nsIn K r_MARKS "maybe"=ξ (ξ (.str z_MARKS2 t_MARKS2)))
  (re_MARKS2:z_MARKS2=tx [63])
  (hz:∀b∈T.gG,nsIn K bL (cj b)=ξ ψ)
  : ∃fd:fP,(∀(s:aE)(v:Value),BQ s fd #[[v],[]] [("_law_script",v)])/\∀base:Heap,K.In base->base.Ns bL mg->jz l.prog w K mg base CB 200 fa fd ["_law_script"] (zf K):=by
 have e:=hfa.symm.trans (qV X G a_law);cases e;let#[oc,od,kV,dc,pm,an,cd,ct,sl,h1,h2,h3]:=f_law;refine#[fnOf "law" "law" (lQ sL) (fW sL) (bY sL) .none kV dc pm an cd ct,λs v=>.of_eq rfl,λbase _ _=>?_]
 let c:L2.Ctx:=#[l.prog,w,K,mg,base,λx=>([("Reader",C_Reader),("Part",C_Part),("Layout",C_Layout),("Places",C_Places),("Table",C_Table)]:List (String×Addr)).lookup x]
 have hT:Jy c T:=by
  refine#[?_,λx hx=>mg_none_of X G (hz x hx),TU rfl hC]
  .exact(ba.mpr #[uR (qV X G a_SIGNS) e_SIGNS,(ba.mpr #[uR (qV X G a_MARKED_OUTSIDE) e_MARKED_OUTSIDE,(ba.mpr #[uR (qV X G a_MARKED_WITHIN) e_MARKED_WITHIN,(ba.mpr #[#[.int 6,_,qV X G a_DEEPEST,#[t_DEEPEST,rfl],λ_ _=>aT.mpr rfl],(ba.mpr #[Xz (qV X G a_REPEATS) l_REPEATS kl_REPEATS ky_REPEATS sm_REPEATS (by kernel_rfl:("*":Str)=tx [42]) (by kernel_rfl:("+":Str)=tx [43]) (by kernel_rfl:("?":Str)=tx [63]) r_REPEATS0 re_REPEATS0 r_REPEATS1 re_REPEATS1 r_REPEATS2 re_REPEATS2,(ba.mpr #[uR (qV X G a_BEHIND_BACKSLASH) e_BEHIND_BACKSLASH,(ba.mpr #[#[.int 6,_,qV X G a_MOST_RULES,#[t_MOST_RULES,rfl],λ_ _=>aT.mpr rfl],(ba.mpr #[#[.int 1,_,qV X G a_AHEAD,#[t_AHEAD,rfl],λ_ _=>aT.mpr rfl],(ba.mpr #[#[.int 10,_,qV X G a_MOST_PLACES,#[t_MOST_PLACES,rfl],λ_ _=>aT.mpr rfl],(ba.mpr #[Xz (qV X G a_MARKS) l_MARKS kl_MARKS ky_MARKS sm_MARKS (by kernel_rfl:("star":Str)=tx [115,116,97,114]) (by kernel_rfl:("plus":Str)=tx [112,108,117,115]) (by kernel_rfl:("maybe":Str)=tx [109,97,121,98,101]) r_MARKS0 re_MARKS0 r_MARKS1 re_MARKS1 r_MARKS2 re_MARKS2,(λ_ h=>(cA h).elim)])])])])])])])])])])
 have hB:Base c T 1:=#[hT]
 have G0:gM c T (λ_=>wW) 1:=TR X G rfl hC hR XH rfl rfl (ba.mpr #[#[rows[6],dJ _,rfl,rfl,rfl],(ba.mpr #[#[rows[31],dJ _,rfl,rfl,rfl],(ba.mpr #[#[rows[34],dJ _,rfl,rfl,rfl],(ba.mpr #[#[rows[45],dJ _,rfl,rfl,rfl],(ba.mpr #[#[rows[49],dJ _,rfl,rfl,rfl],(λ_ h=>(cA h).elim)])])])])]);have R:=OI (c:=c) X G rfl hC hR XH aaw aax aay;erw[NP (Ll #[R 0 _ rfl,R 1 _ rfl,R 2 _ rfl,R 3 _ rfl,R 4 _ rfl,R 5 _ rfl,R 6 _ rfl,R 7 _ rfl,R 8 _ rfl,R 9 _ rfl,R 10 _ rfl,R 11 _ rfl,R 12 _ rfl,R 13 _ rfl,R 14 _ rfl,R 15 _ rfl,R 16 _ rfl] #[R 17 _ rfl,R 18 _ rfl,R 19 _ rfl,R 20 _ rfl,R 21 _ rfl,R 22 _ rfl,R 23 _ rfl,R 24 _ rfl,R 25 _ rfl,R 26 _ rfl,R 27 _ rfl] #[R 28 _ rfl,R 29 _ rfl,R 30 _ rfl,R 31 _ rfl,R 32 _ rfl,R 33 _ rfl,R 34 _ rfl,R 35 _ rfl,R 36 _ rfl,R 37 _ rfl,R 38 _ rfl,R 39 _ rfl,R 40 _ rfl,R 41 _ rfl,R 42 _ rfl,R 43 _ rfl,R 44 _ rfl,R 45 _ rfl,R 46 _ rfl,R 47 _ rfl] #[R 48 _ rfl,R 49 _ rfl,R 50 _ rfl,R 51 _ rfl,R 52 _ rfl,R 53 _ rfl,R 54 _ rfl,R 55 _ rfl,R 56 _ rfl] #[R 57 _ rfl,R 58 _ rfl,R 59 _ rfl,R 60 _ rfl,R 61 _ rfl,R 62 _ rfl,R 63 _ rfl,R 64 _ rfl] #[R 65 _ rfl,R 66 _ rfl,R 67 _ rfl,R 68 _ rfl,R 69 _ rfl,R 70 _ rfl,R 71 _ rfl] (Il h1 h2 h3) TX TZ rfl rfl hB G0)]
def walk{l:Hx}{q:bK}{loose:List Str}{XP:(Str->Option Value)->Heap->Prop}{YP:cx->Heap->Prop}{d:DefRec}{K:Params->Frag}(hn:l.most=ξ 63)(hdf:d.params.defaults=[])
  (hY:∀(w:cx)(h:Heap),YP w h->(K w.params).In h)
  (F:∀(w:cx)(mg:Str->Option Value)(fa:Addr)(h:Heap),(K w.params).In h->h.Ns bL mg->mg d.name=ξ (.ref fa) ->
   ∃fd:fP,(∀(s:aE)(u:Value),BQ s fd #[[u],[]] [("_law_script",u)])/\∀base:Heap,(K w.params).In base->base.Ns bL mg->jz l.prog w (K w.params) mg base CB 200 fa fd ["_law_script"] (zf (K w.params))):
  WalkO q loose XP YP l.row.toRowW d [] (λf vs=>Fc f vs):=
 L2.Mp (n:=63) (k:=200) (x:="_law_script") (CX:=λ_=>CB) (sp:=λw=>zf (K w.params)) hn ⋯ hdf #[rfl,⋯,⋯] hY F (λ_ _ a ns hl o hS=>#[a,ns,rfl,hl,JO o hS,λ_=>rfl]) λ_ _ _ _ _ z=>z
end DH
end
end Lake
end
section
open Lake
local macro_rules(kind:=Lean.Parser.Command.print)|x=>match x[1].isStrLit? with
 |some s=>let r:=s.foldl (fun(a:Array Lean.Syntax×Nat×Nat) c=>let d:=if c=='~' then 64 else c.toNat;let n:=a.2.2*90+(if d>92 then d-36 else d-35);if a.2.1==9 then (a.1.push (zR .missing ("0N 0N 0N 0N 0N 0N 0N 7declModifiers . 'PySem.W.Fast.tw"++toString n++" 0N 2declId 0N . 'True 2EtypeSpec 2declSig . 'trivial 0N 0N 2PTermination.suffix 0N 4declValSimple 4theorem 2declaration")),0,0) else (a.1,a.2.1+1,n)) (#[],0,0);pure (Lean.mkNullNode r.1)
 |_=>Lean.Macro.throwUnsupported
#print "3eJEPSOq7k?S,0$p)8Q_4ey)}I>t>v&?V]B4&I9DIY.)Bim(~A>7->x>^RE;5bOs}324~gBO&qt~sM?]:uBe&Y,FTKD_3ammxJKLI,p_w/1C):J2E-NuveXb;P680'^ybkE&$_&K=L5kG_nLQ);c{6FA$*J,VQYQ<D|pD{3Bz3-GHFUKzNN=NZsb+Bmp.:NZPiVaba5-&}r7l;c[$7;q4kt$w0z:?eNsT61.v,)^`{:?SWfh4ADBeN,2f^*Xg,tdUA4DKvaHyaq$OeH6UA>X;7F`9#9.<55L<c70C4iToL}*)P(o&3fosG?[9FI**rpBH'Wr^`:G*iFTVOj<sIY,6G?`dP~<{;6$nhWobU*8H;1(wmdErB&I#v_{?z#e>.$,b&Q8{i(oL|ZuR'Bn*~TN(;dsfQ<>f5{%|MTp7B?'IiK6)v4&Ns-DqVMv-%q%7%s$LaAgHd0.n{tB1VO1KR.xO+HzT_BTa?k=9>GXW<qPxpK0bRQ`;i01Me87/B11oJ)Zpk1#LBJ&DPLq}Q0<cu9E}%D2>:y]=B'0v91h.+)90W5TDV}FC2zO#L6tD/,IIL9m7_uJ<hqeackD(,Ds9WF~E,30GtdoYvKc=zMIs[7EslU3*qIX7{/Hpb(b|(:5Nb&DKy2s_}STso>D11|cwhb+-s&OR`Zz9XNoCB>n>'LU,,EnR4a^lr(<R+F~+4DK=e5(32&KzZ-qu9^wyP9R(jAW#{VW&ADz/DbjEc1^~OHm,DjDM+7[5;Boac<18//$UV+*#`DAPE5lPO&S;8V5rXRuWSI^c&;&}';4Bjph;A{<_,*$8LsZ|iux,4C3j-DvyY4(R`ZNIqxL71Pp(/hE|lBWD?=v1|/w1E0+^0]K`$+/)sq},l/d:%2y8>ATOXKRV-0T:4>SBmul'=HR#c,jFCfA'R>e0[>x}<dJAq+..`JMyR|iMyXSb`F63fELMm/:tt(xM^Q])vl6r}=~=]},wlKYLxY[7oLiDdE+~:Q.]q_3$tbAg.[X}G9+a(<Sw'qV:Y+Ug;kR?s~0.s2EH%3Z+$mY45ji|^A>k/6s=zaDP*d`sa%}cB1c)x7d,2G8F7w,B/LeA]~VlnQ'j-|RM2}Ig=B}**A:3S1{-juy(w'tM_U+I.K_9SR'3nx`%#NPAxj1D,+xY4Xeer5W:SwXa~qqnM;OBS<e]m(w,WANYF}g%sNZ*[C&mv4b2*L:.Og=qiP|A=)?Bf]K1RJdSyk?[30b%c)ZC,'U$1>ZiRr=,%Qws^kYa/ZW'K^]oUj-PA~JliH'c%I~3:q?&7|u6W7DH+5iOOz)&Xuq|e5~/c(`.N#C:AbN7*]%^h(;:*9deD/:QR4i3/i|GqI3Yp#wD%6M`&jQPgzMr_XMXmPs~~cJ1XLl;zThKb=jHq)'dDh+]cxx2a33|Z|QyP8;ItgD9`cI)KKvl$:SMM(lQA;Fh=j=FumY$zVq}^FMk5,U/-a&OA0ZCL-abR2o>/y,fy0kQbYRJn{c:O-dN<l5-Kx&<L:3WN<p*iOtdNqZ0oq_K'2NU;TU{iGpy9<ycI-M0Tq639]vbo/=*ymuCf87'xdH'kZRQ+Fk*#4i]E:UAv2(.bqKlj#a#iG9_;vI16M7c}~`5S8vu*/`9.Xd52ZV0%Ew`eGY50o[?/Q?7ykEj+l+wc8_BW[SSQt5NAQ'uqanG2QC?Si?NeG<%pb2Mcg]|P3/#*gX<o{mFm`jvj1h#=3D.Oxb,TP?LW&$vtuGPLK1Z7?;^E0n>aPA*b+n3lPyo;N6Bxf,AKWY6Vt<CF<?^4&b}/t0'KLqZB1TGi('Zcx08B5NMwPijXFv[l/<}S*T1mZ%)nzIDPuUjX9bQZ]JqU;s>K>~U:/%[`+}%qz`6rcVBVL+OS./^CIccqE:]-/.;HxdSV`#W^+E&w#1dGPP&5]TO?7Ut3+b[Epkr~%ePEn[2CHT0;Hv2AZwZdp`5PI(=LK4s4Iinoo?8x|NOkb2Q#'K[}IvAt7(jD/C$-X%Ui|{$C&9Kr2R;n8I<[|lp5%Cmb4F(CT,.kh%-lS[RBg]sRRJ&YE<mC>OA=Y7fVup)$NiV6r/ZpD$<m]P$AJz=q#xX,*Zkb3%/rcQ6:u;eQH?P~k$Xch~<`RdMrO{)WLsEP}fDzkFI,s,va^$/;*a7FvwhBo44VZ|z6j9rDMfB&`bGx.;/=2]|Fc07o?Ju5'5~3w25+z'NW:^:uG(uPm_(1=IB^#t][EI2K5b+bG_ZR-G,[95]OdEMSJ4^8$eE/hK%Fd=_skmmS;%m</WKoYZ>FLpW4>I9q>y&HZ5Y*ad8AGON`uz^v,a~MpYgmi%Q/oleW)WZX~aPf1MsOh*.[g6o<WeCFA.~gcx*)v;.>hd;7<0b5)`f0*'#CDb;0UUn5Iox,-~yKxKqFtW&4Fi9S(T;:(AvuGj-OpT$=,E~eX(y_-PmvZPC?NG>rg0*f4+XA&u/NNMU3ZeN6QHdy4n~J'.77F&SPjrE/TR#B~g?>K1Q/$y>B7D*XNP_qBIR6IAzyN-4R(sGGGhuEFQ/`G%Eam/EfttK'c%fHb`z/NnVG^[KHO~;GTE5:<nvLNKcs'.oXqN9amUrCZNU]J2=C<HOnt|L:xV7hlRve~1Pa.jh`.6R'tO~10|E(&XX)A`_528C7b;d:9QQx~l2:&gLNM>K.GBXjxra>39sba~DD86<J2O*ZT2K]Q76rnPVH^?I8w.9O71$J#gF4<Fr3t,87/E%H4w85QBp-<=~XAN)ITbM{7ec5Eh,6k7XU]N?$GU``gvZ[GLr(:6Gy]z2W.$?k~B(.HJej~DrEQQ6H?9[iclp=>fr$7[9y?3K3>(_E%A(`2}b2(5m*wk3t%/2y19Iu2K/?&P|.hq/Kr1kGLGv#+YrDnJJNg2GqDcXpef+RBdzN~8NEJKA68z7s_Vir-ai?P4u^ppR#:t[mnWRYDtWHOlz|>b;7='Emqj2VP:R+6enNx9E1Wm7Op9b}B4;|>W0ATQ5,ZNWgE3E{D0>X&<B^50:4t6k;`>No1S_b$$FEHN#lv,q?czCMP{L=*rJbbX?'<+*E4z+^5rr|hdb(OI,HY9+vh#U)G&h`}'>^rf)?_P6S8M1%F;qH0m)baX8sv[,3PX-66mg67VB&N[6CBw*p|}QZ5i$]&O{c>1#35=TjBM?I0L~uOaEszG-/?u>_vrkq#|Av$5hf1/*DddvW6z>SO=vc+4W9yaK5NQd(bk<YG^^&gQG2{*EJG.^C${$WC'c_56FrW#&1l%1Vx9#GB]9FT-0a$DB8SPc+D,=0Al/J0(OBH4~STp4rWbh^>z'dJmFlwJ.bwex3RW3)&,Lc-gu?+8A#'$bfp~n:4E9C3$55Vk%|Vn-{n74M9M^<~+pm3P/VZ+|ZaPmyOY-ur4I&B%Moxr&/()N>Hp:(pm(?b2Hfc6vy:_8lC{;q_Zf#Qf>e{0<?(>}4>Pr]3BY,)%=?Jd^>|/oI9kB>sD5U?&/tkdTpOOu3B]DCcMr{AA+<_4DUam1#&vh?`YoGrOCILMy+:FPh>w]1hN-,ol3?~EXWa'f|9McJ*B^Nt*5wD<'/Zw0P0s}Y9gA:4VQYmNOu/I+7G/~Cm^vukWFfK.H#g+9I&S6O9svgWt?r7gKB%nJh*j/K<ujkQC~?Ai'bqtZ,<Bu%32(~GO%FEucOy-6/8'bR01MUT(7sq1PJK3+Z6<e&7^`5$q6,1vzpn(?U6(.{4f]fV(3lo4Oho+:r0w'?c2k;eI-%]rSL:^`u,6{_v.sLq_,1+[~G.{+?+|M&,%{IPH*1|Y3t'eBt*&V:HgR}Y2)m?&yMF%_T(};NJ>YK;I(xbdO?hn9~(`2G'U13.X'osEB~)+%VR4Zr{(U~&[PfQ>f8(=0`PGl(=/*~oAOlJzQNY0HOM-JH2m2jh''&,W`snk^dK?uy>&tu)}&i6-=Tdu_g&e=It^TCc<&_1T+xaM[gFtKjG4'PoMEQ$c{4YOPMC8o:Y;1-w0B*Q><u2b$yA'^DFf&AB,?kZD=hV|;}?,8`f1~_J.?)ap5B;t^T>d<[Y+K;':>5=lqD6avN=g]d$U'31R1R(6w}Y*#A"
open PySem PySem.W PyProof.Rows
set_option maxRecDepth 100000 in
set_option maxHeartbeats 0 in
theorem PySem.Challenge.cw_tokenwright_k21_tables_alike_holds : PySem.Challenge.rw_tokenwright_k21_tables_alike.Holds := by
 w_on;o_law;k_head;(case hw=>w_witness2)
 k_fill
 refine DH.walk (l:=PySem.Challenge.rw_tokenwright_k21_tables_alike) rfl rfl (fun w h Y=>PySem.W.kIn_of Y) ?F
 case F=>
  intro w mg fa h KX G hmg;refine' DH.all_mk KX G hmg ?A0 ?A1 ?A2 ?A3 ?A4 ?A5 ?A6 ?A7 ?A8 ?A9 ?B0 ?B1 ?B2 ?B3 ?B4 ?B5 ?B6 ?B7 ?B8 ?B9 ?C0 ?C1 ?C2 ?C3 ?C4 ?C5 ?C6 ?C7 ?C8 ?C9 ?D0 ?D1 ?D2 ?D3 ?D4 ?D5 ?D6 ?D7 ?D8
  (case A0=>k_is)
  (case A1=>exact⟨_,_,_,_,_,_,_,_,_,by k_is,by k_is,by k_is⟩)
  (case A2=>(repeat' refine ba.mpr ⟨?_,?_⟩);all_goals first | exact fun _ h=>(cA h).elim | exact⟨(by(try dsimp only);k_is),⟨(by(try dsimp only);k_is),(by(try dsimp only);k_is),(by(try dsimp only);k_is),(by(try dsimp only);k_is)⟩,(by(try dsimp only);k_is),(by(try dsimp only);k_is),(by kernel_rfl)⟩)
  (case A3=>unfold DH.rows;(repeat' refine ba.mpr ⟨?_,?_⟩);all_goals first | exact fun _ h=>(cA h).elim | exact .fn (by k_is) ⟨_,_,_,_,_,_,_,_,_,by k_is,by k_is,by k_is⟩ | exact .mt rfl rfl (by k_is) (by k_is) ⟨_,_,_,_,_,_,_,_,_,by k_is,by k_is,by k_is⟩)
  (case A4=>k_is)
  (case A5=>kernel_rfl)
  (case A6=>k_is)
  (case A7=>kernel_rfl)
  (case A8=>k_is)
  (case A9=>kernel_rfl)
  (case B0=>k_is)
  (case B1=>k_is)
  (case B2=>k_is)
  (case B3=>exact⟨⟨_,_,rfl,rfl⟩,⟨⟨_,_,rfl,rfl⟩,⟨⟨_,_,rfl,rfl⟩,trivial⟩⟩⟩)
  (case B4=>kernel_rfl)
  (case B5=>kernel_rfl)
  (case B6=>k_is)
  (case B7=>kernel_rfl)
  (case B8=>k_is)
  (case B9=>kernel_rfl)
  (case C0=>k_is)
  (case C1=>kernel_rfl)
  (case C2=>k_is)
  (case C3=>kernel_rfl)
  (case C4=>k_is)
  (case C5=>k_is)
  (case C6=>k_is)
  (case C7=>k_is)
  (case C8=>k_is)
  (case C9=>exact⟨⟨_,_,rfl,rfl⟩,⟨⟨_,_,rfl,rfl⟩,⟨⟨_,_,rfl,rfl⟩,trivial⟩⟩⟩)
  (case D0=>kernel_rfl)
  (case D1=>kernel_rfl)
  (case D2=>k_is)
  (case D3=>kernel_rfl)
  (case D4=>k_is)
  (case D5=>kernel_rfl)
  (case D6=>k_is)
  (case D7=>kernel_rfl)
  (case D8=>unfold DH.T;(repeat' refine ba.mpr ⟨?_,?_⟩);all_goals first | exact fun _ h=>(cA h).elim | k_is)
end
