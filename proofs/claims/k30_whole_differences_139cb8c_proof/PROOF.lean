import PyProof.Rows.All
import Wide.All
import OpenK.AllK
import Wide.FinOn
import PyProof.EqAt
import PyProof.EqKinds
import PyProof.TupleCall
import PyProof.NeKinds
import KE.KMinBuiltin
import Lean
import PySem.Challenge.RW_tokenwright_k30_whole_differences
open Array renaming getElem?_eq_getElem->iM,length_toList->qw,forIn_toList->qW,toList->AA,getElem?_eq_none->AE,getElem?_toList->B4
open Bool renaming and_eq_true->ar,false_eq_true->aw,false_ne_true->aX,or_eq_true->bq,not_true->bH,not_false->bV,eq_iff_iff->dv,not_eq_true->eP,not_eq_true'->gW,true_and->An,and_true->Ao,not_eq_false->Hz,noConfusion->Li,true->ζ,false->ϑ
open Classical renaming byContradiction->eT
open False renaming elim->aV
open ForInStep renaming yield->eV
open Function renaming comp_def->cH
open Iff renaming rfl->qS
open Int renaming toNat_natCast->fG,emod_lt_of_pos->gE,emod_nonneg->jr,ofNat_lt->uw,fdiv_eq_ediv_of_nonneg->yE,not_lt->yO,le_refl->Ft,natCast_nonneg->Hm
open Int.ofNat renaming inj->lS
open List renaming getElem?_eq_getElem->ab,length_map->ae,getElem?_eq_some_iff->ag,mem_of_getElem?->ah,length_append->aj,getElem?_set_ne->ak,getElem?_append_left->ao,getElem?_append_right->ax,mem_cons_of_mem->ay,map_cons->az,getElem?_map->aC,map_append->aG,size_toArray->aK,mem_append->aL,mem_cons->aN,lookup_cons->aP,mem_cons_self->aQ,length_cons->aU,forall_mem_cons->aY,getD_eq_getElem?_getD->bb,mem_append_right->bf,getElem?_of_mem->bj,mem_singleton->bp,map_map->bw,append_assoc->bx,getElem?_set_self->bA,mem_map->bD,suffix_refl->bK,mem_append_left->bN,take_length->bP,all_cons->bQ,getElem?_concat_length->bS,append_nil->bT,length_set->b8,range->cv,filterMap_cons->cw,length_take->cx,all_eq_true->cy,getElem_mem->cz,not_mem_nil->cG,idxOf_lt_length_of_mem->cM,length->cR,any_cons->dm,suffix_cons->dA,map->dB,length_nil->dH,drop_eq_getElem_cons->dM,getElem?_eq_none->dO,eq_nil_of_length_eq_zero->dW,nodup_append->dZ,foldl_append->d6,find?_cons->d8,mem_filter->fq,nodup_cons->fw,getElem?_mapIdx->fD,take_add_one->fE,lookup->gx,length_singleton->gO,contains_iff_mem->gS,length_range->gV,getElem?_append->iH,filter_cons->iN,cons_append->iO,getElem?_range->iS,sum_cons->jb,nil_append->jj,getElem_idxOf->jq,map_nil->jM,length_eq_one_iff->jN,drop_zero->jO,take_of_length_le->jP,getElem?_set->jR,drop_of_length_le->jS,idxOf_append->jT,eq_nil_or_concat->ko,concat_eq_append->kq,any_eq_true->kA,foldl_cons->lh,mem_filterMap->lW,set_cons_succ->lX,set_cons_zero->lY,length_mapIdx->lZ,prefix_iff_eq_take->oh,length_eq_zero_iff->oj,forIn_cons->oJ,lookup_cons_self->pq,cons_lt_cons_iff->pB,mem_range->qg,getElem_of_mem->qQ,map_congr_left->qR,length_pos_iff->qT,filterMap_map->sv,map_inj_right->sA,set_set->tX,flatten_cons->tY,map_inj_left->tZ,length_drop->uG,of_mem_zip->wD,sum_append->wG,forIn_nil->xi,replicate->xj,nodup_nil->xq,isPrefixOf_iff_prefix->xv,lt_irrefl->xw,foldl_nil->xy,mem_of_find?_eq_some->yP,getElem?_take_of_lt->Af,getElem?_replicate->AB,getElem?_cons_zero->AI,range_succ_eq_map->B6,all_map->B8,any_map->Ca,getElem?_reverse->Cp,length_filter_le->Cq,take_append_drop->Cs,filterMap_append->Cu,drop_eq_nil_iff->D1,take_succ_cons->Fo,drop_succ_cons->Fp,length_reverse->Fu,lookup_append->Ha,filter_append->Hb,append_of_mem->Hd,isEmpty_cons->HA,mem_range'_1->HB,flatMap_cons->HC,getElem_inj->Le,drop_length->Lg,map_fst_zip->Lk,map_snd_zip->Lm,find?_some->LI
open List.IsSuffix renaming trans->nv
open List.Pairwise renaming map->oN,nil->xp
open List.cons renaming injEq->dE,inj->He
open Nat renaming le_refl->aq,lt_of_lt_of_le->av,le_trans->aF,ne_of_lt->ba,lt_succ_of_lt->bc,pow_le_pow_right->bz,zero_le->bJ,sub_self->bL,lt_succ_self->b9,testBit_and->cA,succ_le_succ->cB,testBit_or->cV,not_lt_zero->cX,le_of_lt->cY,ne_of_gt->dw,lt_irrefl->dU,le_succ->fF,le_add_right->fX,pow_succ->gG,testBit_one_eq_true_iff_self_eq_zero->gX,lt_succ_iff_lt_or_eq->jk,lt_of_le_of_lt->ju,le_succ_of_le->jU,eq_of_testBit_eq->kN,zero_add->lR,not_lt->mE,le_of_not_lt->ou,add_sub_cancel->sI,le_of_eq->uk,lt_trichotomy->uo,lt_or_ge->ur,one_shiftLeft->uu,le_of_lt_succ->uv,min_eq_right->vd,not_le_of_lt->ve,zero_or->wF,min_eq_left->wO,sub_le->yQ,lt_trans->Cm,testBit_lt_two_pow->Cr,sub_zero->Ct,mul_le_mul_left->Hc,lt_of_le_of_ne->HD,or_lt_two_pow->Lj,lt_succ_of_le->Ln,le_max_right->LF
open Nat.succ renaming inj->nh
open Ne renaming symm->cJ
open Option renaming map_eq_some_iff->au,bind_eq_some_iff->aE,bind_eq_bind->aM,getD_some->eI,map_some->i4,getD_none->j6,map_map->pA,isSome_some->qO,map_none->uH,isSome_iff_exists->xk,isSome_map->Fl,some->ξ,none->ψ
open Option.some renaming inj->aH,injEq->pY
open Prod renaming fst->DZ
open Prod.mk renaming inj->Ax
open PyProof.Rows renaming callWith_type1->fW,slot_tuple_getitem->i9,AllBare->qv,envOfC->sG,subscriptTail->Fh,subscriptTail_builtinR->Hs,IntsAre->Ht
open PyProof.Rows.IsTup renaming new->Hq
open PyProof.Rows.LSm renaming kept_iter->AF
open PySem renaming wpAny_bind->af,wpAny_pure->aA,Shared->aD,model->bg,starEach->bB,compareOp->bF,mainGlobals->bI,Program->bO,sysModules->cb,World->cC,binaryOp->cQ,mem_of_lookup->df,wpAny_truthy_bool->dq,wpAny_newObj_type->dJ,Around->d9,wpAny_Call_Name_kw->fu,backTo->fN,swapsWith->fP,FuncData->fQ,wpAny_holding->fU,wpAny_mono->fV,cLine->gv,keywordEach->gM,wpAny_typeNameOfWhole_valiter->gQ,tupleKind_room_in1->gU,wpAny_passesOwn->ig,inplaceOp->iE,attributeBase->iG,wpAny_dictEntries->iL,dictSetDefault->i5,wpAny_call_entry->jf,cellsFrom->ji,wpAny_loadPart'->jQ,wpAny_callSpecial?_slot->j0,bootBuiltins->kB,Scope->kC,wpAny_pyIter_list->kD,valueAt->lN,sizeLine_eq->lP,sliceBounds->lQ,call_meetsIn->mQ,tupleKind->ng,Operator->nj,getItem->oH,Keyword->oI,wpAny_isInstance->pX,DictEntry->p9,wpAny_rule->qu,codeAny->qx,wpAny_execs_nil->qM,letOwnedTupleGo->qN,atKey->qP,isSubtype_tuple_tuple->qX,wpAny_notOrdered_dict->rf,wpAny_isOneOf_valiter->rg,rawInt->sF,wpAny_tupleItemsOf->u9,assignEach->va,stored->vc,wpAny_assign_Name->wJ,codeAny_mono->wK,callerA->wM,wpAny_eqBool_int->yB,assign->yC,pyNext->yD,getMethod->yG,noFill_tuple_add->yI,IsPart->yJ,wpAny_field->Ag,subscripted->Ah,wpAny_specialOf->Ay,Within->Az,size_of_entries->AD,wpAny_dictEpoch->AG,intKind->BY,BindsTo->B1,wpAny_seqItems->Cg,entryOfKey->Ci,builtinsNs->Cj,call_meets->Ck,newFunctionEnv->Cn,methodCallForm->Co,seq_tuple_add->Fg,call->Fj,wpAny_standAt->Fm,wpAny_comprehension_free->Fn,eqIsQuiet->GX,bindL->GZ,bindC->G7,seqIndex?->G8,wpAny_pyNext_list_item->Hl,concat_meets->Hn,wpAny_typeOf->Ho,seqIndex_neg->Hr,wpAny_Assign_Subscript->Hv,relabel->Hw,wpAny_pyNext_list_end->Lf,wpAny_mkInt->Lz,wpAny_loadName_local->LA,bindArgs->LB,seqIndex_of->LC,wpAny_updateDictKeys->LD,boot_len->LG,wpAny_pyIter_revIter->LH
open PySem.Around renaming in1_units->tV,under->Ad,under_plainId->B9
open PySem.Calls renaming spliced_cons->jh,callWith_builtin->jG,spliced_nil->mN,evalArgs_plain->p8,Name_function_global->wI
open PySem.Code renaming isFrame->BZ
open PySem.Expr renaming Name->Lh
open PySem.F renaming slot_dict_valueiterator_next->cZ,slot_dict_get->eO,plainAttrs_dict->ja,entry_dict_get->jt,args_tuple_add_2->mD,entry_tuple_add->mP,plainAttrs_list->mR,slot_tuple_add->nk,plainAttrs_str->nq,slot_list_getattribute->ow,args_dict_valueiterator_next_1->oM,entry_dict_valueiterator_next->pv,slot_tuple_eq->qe,slot_dict_values_iter->tW,slot_dict_setdefault->um,slot_dict_values->wN,args_dict_get_2->xr,args_dict_get_3->xt,type_dict_get->Ak,slot_dict_len->Am
open PySem.Heap renaming get?_push_of_some->aJ,lt_size->aS,get?_push_size->aZ,SameBut->gD,size_push->iF,get?_update_self->kn,get?_update_other->B3
open PySem.Heap.DictOf renaming new->B5
open PySem.Heap.SameBut renaming update->fh
open PySem.NameKind renaming free->bR,cell->gy
open PySem.Obj renaming data_mapDictKeys->kM,mapSeq->sH,mapFields->AH,isFreed_of_dict->G9,data_mapFields->Hx
open PySem.SeqAt renaming EqAt->wL,notIn_listAt->Fi
open PySem.SeqAt.EqAt renaming same->jZ,int_none->oC,str_none->oE,none_int->oF,none_str->oG,int_str->ph,str_int->pj,none_bool->xm,bool_none->xn,bool_bool->xo,bool_int->yK,bool_str->yL,int_bool->yM,str_bool->yN,int_int->Ai,str_str->Aj,of_refs->Al
open PySem.Str renaming ofString->cj
open PySem.Value renaming ref->bu,none->gw,int->lL,str->lM,bool->oq,isInt->Cf,type->Fe
open PySem.W renaming Frag->aI,emptyDict->dD,findIn->eL,instObj->fg,keepIn->js,fnOf->kL,plainGet->mO,lookIn->oK,plainGet_of->p6,callWith_K0->p7,callWith_K->qy,mg_of->qU,methodObj->qY,hasDictIn->qZ,takerIn->uj,codeIn->vb,isFn->yF,cellsFrom_some->yH,methodCall_KW->Ae,pyHash_slot->BX,KeysLit->B7,plainOver->DY,handedIn->Ff,makesIn->GY,OpenLaw->Hu,keepIn->Hy
open PySem.Walks renaming list->Fq
open Sum renaming inr->jo,inl->xh
open Sum.inl renaming inj->Aw
open Sum.inr renaming inj->tU
open True renaming intro->eU
set_option linter.all false
set_option Elab.async false
set_option maxRecDepth 100000
set_option maxHeartbeats 4000000
set_option genSizeOf false
set_option genInjectivity false
set_option bootstrap.genMatcherCode false
set_option compiler.extract_closed false
noncomputable section
section
def zQ(x:Lean.Syntax):Lean.Syntax:=x.rewriteBottomUp fun
 |.node i k a=>if k==`Lean.Parser.Term.anonymousCtor then .node i `Lean.Parser.Tactic.rcasesPat.tuple (a.modify 1 fun b=>Lean.mkNullNode (b.getArgs.map fun c=>if c.isAtom then c else .node i `Lean.Parser.Tactic.rcasesPatLo #[.node i `Lean.Parser.Tactic.rcasesPatMed #[Lean.mkNullNode #[c]],Lean.mkNullNode]))
  else if k==`Lean.Parser.Term.hole then .node i `Lean.Parser.Tactic.rcasesPat.ignore a else .node i k a
 |x=>if x.isIdent then Lean.mkNode `Lean.Parser.Tactic.rcasesPat.one #[x] else x
def zR(x:Lean.Syntax)(t:String):Lean.Syntax:=((t.splitOn " ").foldl (fun s w=>match w.toList with
 |'.'::r=>Lean.mkAtom (String.ofList r)::s
 |'$'::r=>r.foldl (fun y c=>y[c.toNat-48]) x::s
 |'\''::r=>(Lean.mkIdent (String.ofList r).toName).raw::s
 |'%'::_=>s.modifyHead zQ
 |'S'::_=>s.modifyHead fun x=>Lean.mkNode `Lean.Parser.Tactic.tacticSeq #[Lean.mkNode `Lean.Parser.Tactic.tacticSeq1Indented #[x]]
 |'O'::_=>Lean.mkNode `Lean.Parser.Tactic.optConfig #[Lean.mkNullNode]::s
 |c::r=>let n:=c.toNat-48;Lean.mkNode (match r with
  |'N'::_=>`null
  |'T'::r=>`Lean.Parser.Tactic++(String.ofList r).toName
  |'E'::r=>`Lean.Parser.Term++(String.ofList r).toName
  |'P'::r=>`Lean.Parser++(String.ofList r).toName
  |r=>`Lean.Parser.Command++(String.ofList r).toName) (s.take n).reverse.toArray::s.drop n
 |_=>s) []).headD .missing
def zT:List (String×String):=("term#[_,]¦a
term∅¦. . O 2Tomega 1N S 2EbyTactic
Term.omission¦. . O 2Tdecide 1N S 2EbyTactic
Term.paren¦?
Term.parenTerm.cdotmissing00false¦. . O 0N 0N 0N 0N 6Tsimp .; . O 2Tomega 3N S 2EbyTactic
term~~~_¦. . 0N 0N O 0N 0N 0N .using $1 2N 5TsimpaArgsRest 4Tsimpa 1N S 2EbyTactic
Term.explicit¦?
Term.explicitnummissing00true¦. 'var 2EdotIdent $1 1N 2Eapp
coeNotation¦?
coeNotationnummissing00true¦. 'lit 2EdotIdent . 'int 2EdotIdent $1 1N 2Eapp 1N 2Eapp
coeNotationterm[_]missing00true¦. 'lit 2EdotIdent . 'str 2EdotIdent $1 1N 2Eapp 1N 2Eapp
Tactic.tacticErw___¦?
Tactic.tacticErw___Tactic.optConfig[00true¦. $2101 2Texact
Tactic.tacticRwa__¦?
Tactic.tacticRwa__Tactic.rwRuleSeqmissing00true¦. $1101 2Trefine
Tactic.dsimp¦?
Tactic.dsimpTactic.optConfigmissing30true¦$0 $1 $2 .only 1N $4 $5 6Tsimp
Tactic.tacticLet__¦?
Tactic.tacticLet__Term.letConfigTerm.letPatDecl00true¦. $200 % 1N 1TrcasesPatMed 1N 0N . $204 1N 2N 4Tobtain
Command.declaration¦?
Command.declarationCommand.definitionmissing00true¦$0 $10 $11 $120 $1210 2declSig $13 4theorem 2declaration
Command.declarationCommand.abbrevmissing00true¦0N 0N 0N 0N . 1noncomputable 1N 0N 0N 7declModifiers $10 $11 $12 $13 0N 5definition 2declaration
Vector.term#v[_,]¦v
v¦. . O 0N 0N 0N 0N 6Tsimp 1N S 2EbyTactic
term%[_|_]¦r
r¦. . O . $1 . 3TrwRuleSeq 0N 4TrwSeq .; . $3 2Texact 3N S 2EbyTactic
PySem.W.X.tacticZ_go¦. . 'env ., 'ρ ., 'S ., ._ 1Ehole ., 'he ., 'R ., 'w ., . 'u 'S1 'v 'H1 'ρ1 'w1 'st1 'R1 'r1 9N 0N . .? ._ 2EsyntheticHole 4EbasicFun 2Efun ?N . 3EanonymousCtor 2Trefine
PySem.W.X.tacticX_go¦. 'pZ 's 'σ 'H 'x 'y 'v 'u 'Q 'I 'rx 'ry 'h =N 2Tintro
PySem.W.tacticKd_p¦. . 'σ 'H 'Q 'zz 4N 2Tintro .; . . 'env ., 'ρ ., 'S ., 'QU ., 'he ., 'R ., 'w ., 'q ?N . 3EanonymousCtor % 1N 1TrcasesPatMed 1N 0N . 'zz 1N 2N 4Tobtain 3N S . 3Tparen
PySem.W.tacticW_up¦. 'X 'hP 'hw 'hK 'hc 'i 'pZ 's 'σ 'H 'E 'I 'hf 'st 'hg ?N 2Tintro
PySem.W.tacticK_ne¦. 'pZ 's 'σ 'H 'Q 'I 'h 7N 2Tintro
PySem.W.tacticK_go¦. 'pZ 's 'σ 'H 'xs 'us 'Q 'I 'r 'h :N 2Tintro
PyProof.Rows.tacticWalk_at_¦w
PyProof.Rows.tacticRoom¦w
w0¦Vr abq ach abr ZG ZH w_var w_lit abd abe w_not w_and w_or abf abg Zy w_mk Zz abh abi w_fld acd ace abj abk ZA abm ZC acf acg OQ abn ZD abo ZE ZF abp QH IL QJ Zd QK Ze X3 Zf IM OM Vi aaS ON aaT Vj aaU ab4 ab5 ab6 ab7 MK ML QQ QR QS Zi MM Zj QT MN Vk Zk ab8 Zl Zm ab9 aca aaQ aaR Vm Er aaV IP zg OO aaW aaX aaY aaZ aa0 aa1 aa2 X4 Zn X5 aa3 aa4 Eh A8 xW sQ xN Zv X7 Vo Vp Vq v_s v_t v_l bind_f Zw Zg ab3 Zh true_and aW xT aB bZ IA MA XZ MB List.getElem?_cons_zero List.getElem?_cons_succ List.map_cons List.map_nil List.replicate_zero List.replicate_succ List.cons_append List.nil_append List.append_nil List.set_cons_zero List.set_cons_succ mZ Option.join_some
wpl¦ aa9 Zx aba abb abc jd Yg abE VW
wpf¦ vI Es abt OR OS abu jd Yg abE VW
wpk¦ vI Es abt OR OS abu ZI abw Zo abH Dd uM Yh Sb aas Zp aa5 X6 Zq getD_some lj abl Zu aa6 abv ZJ ZK Vn Zs Zr Zt Int.toNat_natCast Bool.false_eq_true if_false if_true Bool.not_true Bool.not_false
w1¦. O 0N .only 1N .[ $0 .] 3N 0N 6Tsimp
w2¦. . . 'Rest.go .? ._ 2EsyntheticHole 1N 2Eapp 2Trefine 1N S 2TtacticTry_ .; $0 .; . . 'Rest.go .? ._ 2EsyntheticHole 1N 2Eapp 2Trefine .; $0 3N S 2TtacticRepeat_ 5N S . 3Tparen".splitOn "\n").map fun l=>match l.splitOn "¦" with|[a,b]=>(a,b)|_=>("","")
def zW(t:String):Lean.Syntax:=Lean.mkNullNode #[Lean.mkNullNode ((t.splitOn " ").toArray.flatMap fun n=>#[zR .missing ("0N 0N '"++n++" 3TsimpLemma"),Lean.mkAtom ","])]
def zF(x:Lean.Syntax):Lean.Syntax:=let x:=x.setInfo .none;match x with
 |.node _ k _=>let f(s:String):=(zT.lookup (s.replace "Lean.Parser." "")).getD "";let s:=k.toString false;match f s with
  |""=>x
  |"?"=>match f (s++x[1].getKind.toString false++x[2][0].getKind.toString false++toString x[4].getNumArgs++toString x[3].getNumArgs++toString (x[0].getArgs.all (·.getNumArgs==0))) with
   |""=>x
   |t=>zR x t
  |"a"=>if x[1].getNumArgs==0 then x else x.setKind `Lean.Parser.Term.anonymousCtor
  |"v"=>if x[1].getNumArgs==0 then zR x (f "v") else x[1].getSepArgs.foldr (fun a r=>zR (Lean.mkNullNode #[a,r]) ". 'cons 2EdotIdent $0 $1 2N 2Eapp") (zR x ". 'nil 2EdotIdent")
  |"r"=>zR (x.setArg 1 (Lean.mkNullNode (x[1].getArgs.map fun a=>if a.isAtom then a else zR a "0N $ 2TrwRule"))) (f "r")
  |"w"=>let s:=x[1].isStrLit?.getD "pk";let w:=zR (zW (f "w0"++f ("w"++s))) (f "w1");if s=="pl" then w else zR (Lean.mkNullNode #[w]) (f "w2")
  |t=>zR x t
 |x=>x
def zM(x:Lean.Syntax)(f:Lean.Syntax->Lean.Syntax):Lean.MacroM Lean.Syntax:=let y:=x.rewriteBottomUp f;if y==x then Lean.Macro.throwUnsupported else pure y
local macro_rules(kind:=Lean.Parser.Command.declaration)|x=>zM x zF
local macro_rules(kind:=Lean.Parser.Command.mutual)|x=>zM x fun x=>if x.isOfKind `Lean.Parser.Command.declaration then x else zF x
namespace Lake
namespace L2
open PySem PySem.Spec PyProof.Rows
@[reducible]def Key:=Sum Int (Option Str)
abbrev xA:Key->Value->Bool
 |.inl k,v=>Cf k v
 |.inr (ξ x),v=>Value.isStrOf x v
 |.inr ψ,v=>v==gw
abbrev Yp(w:cC):Key->Int
 |.inl k=>hashInt k
 |.inr (ξ x)=>hashStr w x
 |.inr ψ=>reduceHash 0xFCA86420
def fS:∀{k:Key}{v:Value},xA k v=ζ->(∃i t,k=xh i/\v=lL i t)\/(∃x t,k=jo (ξ x)/\v=lM x t)\/(k=jo ψ/\v=gw)
 |.inl i,v,h=>by
  let#[t,e]:=Value.isInt_shape (k:=i) (v:=v) h;erw[.inl #[i,t,rfl,e]]
 |.inr (ξ x),v,h=>by
  let#[t,e]:=Value.isStrOf_shape (x:=x) (v:=v) h;erw[.inr (.inl #[x,t,rfl,e])]
 |.inr ψ,v,h=>.inr (.inr #[rfl,eq_of_beq h])
def Fv(i:Int)(t:Tok):xA (.inl i) (.int i t)=ζ:=by simp[xA,Cf]
def Fw(x:Str)(t:Tok):xA (.inr (ξ x)) (.str x t)=ζ:=by simp[xA,Value.isStrOf]
def HE{α:Type}[DecidableEq α]{β:Type}[DecidableEq β](f:α->β)(hf:∀a b,f a=f b->a=b)(a b:α):decide (f a=f b)=decide (a=b):=decide_eq_decide.mpr #[hf a b,λe=>e▸rfl]
def Fx(h:Q (reduceHash 0xFCA86420) {s with toks:=s.toks+1}):wpAny (bg prog w) A (pyHash .none) Q E s:=by
 unfold pyHash;erw[BX (T:="NoneType") rfl F.slot_NoneType_hash F.entry_NoneType_hash (F.args_NoneType_hash_1 _) (beq_builtin_none _) (.inl rfl) (af (aA (af (Lz (aA #[_,_,rfl,h])))))]
abbrev dj(prog:bO)(w:cC):PySem.KeyKind prog w Key where
 is:=xA
 hash:=Yp w
 inj:=λv a b ha hb=>by
  rcases fS ha with⟨i,t,rfl,rfl⟩|⟨x,t,rfl,rfl⟩|⟨rfl,rfl⟩<;>rcases fS hb with⟨j,u,rfl,e⟩|⟨y,u,rfl,e⟩|⟨rfl,e⟩<;>cases e<;>rfl
 byValue:=λk v h=>by
  rcases fS h with⟨i,t,rfl,rfl⟩|⟨x,t,rfl,rfl⟩|⟨rfl,rfl⟩<;>rfl
 pyHash:=λhv h=>by
  rcases fS hv with⟨i,t,rfl,rfl⟩|⟨x,t,rfl,rfl⟩|⟨rfl,rfl⟩
  .erw[wpAny_pyHash_int h]
  .erw[wpAny_pyHash_str h]
  .erw[Fx h]
 eqBool:=λhu hv h=>by
  rcases fS hu with⟨i,t,rfl,rfl⟩|⟨x,t,rfl,rfl⟩|⟨rfl,rfl⟩<;>rcases fS hv with⟨j,u,rfl,rfl⟩|⟨y,u,rfl,rfl⟩|⟨rfl,rfl⟩
  .rw[HE xh (λ_ _ e=>Aw e)] at h;erw[yB (by rw[show(i==j)=decide (i=j) from rfl];exact h)]
  .erw[ph i t y u _ _ _ _ h]
  .erw[oC i t _ _ _ _ h]
  .erw[pj x t j u _ _ _ _ h]
  .rw[HE (λz=>jo (ξ z)) (λ_ _ e=>aH (tU e))] at h;erw[wpAny_eqBool_str h]
  .erw[oE x t _ _ _ _ h]
  .erw[oF j u _ _ _ _ h]
  .erw[oG y u _ _ _ _ h]
  .erw[jZ _ _ _ _ _ h]
 «strs»:=λk x t v h=>by
  rcases fS h with⟨i,u,rfl,e⟩|⟨y,u,rfl,e⟩|⟨rfl,e⟩
  .erw[nomatch e]
  .cases e
   cases v<;>rfl
  .erw[nomatch e]
section
variable{prog:bO}{w:cC}
@[reducible]def sJ:=Int×List Int
abbrev IsPair(prog:bO)(w:cC)(h:Heap)(k:sJ)(a:Addr):Prop:=∃t c n o,h.get? a=ξ o/\o.cls=.type "tuple"/\o.data=.seq (List.toArray [.int k.1 t,.ref c]) n/\IsTupleKey (BY prog w) h k.2 c
abbrev vf(prog:bO)(w:cC)(k:sJ):Int:=reduceHash (Builtin.Tuple.tupleHashOf [hashInt k.1,tupleKeyHash (BY prog w) k.2])
variable{A:d9}{E:Value->aD->Prop}{s:aD}
def AJ(hu:A.units+1<gv)(hk:IsPair prog w s.heap k a)(h:Q (vf prog w k) {s with toks:=s.toks+(k.2.length+3)}):
  wpAny (bg prog w) A (pyHash (.ref a)) Q E s:=by
 let#[t,c,n,o,ho,hc,hd,hi]:=hk;have hT:s.TypeIs (.ref a) "tuple":=#[o,ho,hc]
 unfold pyHash;rwa[BX (T:="tuple") hT F.slot_tuple_hash F.entry_tuple_hash (F.args_tuple_hash_1 _) (beq_builtin_none _) (.inr ∅) ?_];show wpAny _ _ (Builtin.Tuple.tupleItemsOf (.ref a)>>=_) _ _ s;rwa[af (u9 ho hd ?_)];rwa[af ?_];rw[<-qW]
 dsimp[oJ,xi];rwa[af (af (wpAny_pyHash_int ?_))];refine aA (af (af (wpAny_pyHash_tuple (s:={s with toks:=s.toks+1}) (by dsimp[tV];omega) hi (aA (aA ?_)))));rwa[af (Lz (aA #[_,_,rfl,?_]))];have e:s.toks+1+(k.2.length+1)+1=s.toks+(k.2.length+3):=∅
 have h:Q _ _:=h;rw[<-e] at h;simpa[vf] using h
def IsPair.inj{h:Heap}{a:Addr}{x y:sJ}(hx:IsPair prog w h x a)(hy:IsPair prog w h y a):x=y:=by
 let#[t,c,n,o,ho,hc,hd,hi]:=hx;let#[t',c',n',o',ho',hc',hd',hi']:=hy;obtain rfl:o=o':=aH (ho.symm.trans ho');rw[hd] at hd';injection hd' with h1 _
 injection h1 with h1
 injection h1 with h1 h2
 injection h1 with h1 _
 injection h2 with h2 _
 injection h2 with h2
 subst h2;erw[Prod.ext h1 (hi.inj hi')]
def AK(hu:A.units+1<gv)(hx:IsPair prog w s.heap x a)(hy:IsPair prog w s.heap y b)(h:Q (decide (x=y)) s):
  wpAny (bg prog w) A (eqBool (.ref a) (.ref b)) Q E s:=by
 unfold eqBool;rwa[fU ?_];show wpAny _ _ (if (bu a==bu b)=ζ then _ else _) Q E s;by_cases hab:(bu a==bu b)=ζ
 .rw[if_pos hab]
  have e:a=b:=by have:=eq_of_beq hab;injection this
  subst e;obtain rfl:=hx.inj hy;exact af (qu (aA (~~~h)))
 .rw[if_neg hab]
  let#[t,c,n,o,ho,hc,hd,hi]:=hx;let#[t',c',n',o',ho',hc',hd',hi']:=hy;have hT:s.TypeIs (.ref a) "tuple":=#[o,ho,hc]
  have hT':s.TypeIs (.ref b) "tuple":=#[o',ho',hc']
  refine af (wpAny_richCompare_same_room (op:=.Eq) hT hT' qe
   (jf qe hT F.entry_tuple_eq ?_ (F.args_tuple_eq_2 _ _)) ∅)
  show wpAny _ _ (isInstance (.ref b) (.type "tuple")>>=_) _ _ s
  rwa[af (pX hT' qX ?_)];dsimp[bH,aw,if_false];rwa[af (u9 ho hd ?_)];rwa[af (u9 ho' hd' ?_)];rwa[af ?_];dsimp[List.zip_cons_cons,List.zip_nil_right,oJ,xi];rwa[af (af (yB ?_))];let#[x1,x2]:=x;let#[y1,y2]:=y;by_cases e1:x1=y1
  .subst e1
   dsimp[BEq.rfl,bH,aw,if_false];rwa[aA (af (af (wpAny_eqBool_tuple (by dsimp[tV];omega) hi hi' ?_)))];by_cases e2:x2=y2
   .subst e2
    dsimp[decide_true,bH,aw,if_false] at h ⊢;erw[aA (aA (aA #[_,rfl,(λz=>nomatch z),dq h]))]
   .have e3:decide ((x1,x2)=(x1,y2))=ϑ:=decide_eq_false λz=>e2 (Ax z).2
    rw[e3] at h;dsimp[decide_eq_false e2,bV,if_true];erw[af (aA (aA (aA (aA #[_,rfl,(λz=>nomatch z),dq h]))))]
  .have e3:decide ((x1,x2)=(y1,y2))=ϑ:=decide_eq_false λz=>e1 (Ax z).1
   rw[e3] at h;have e4:(x1==y1)=ϑ:=beq_eq_false_iff_ne.mpr e1;dsimp[e4,bV,if_true];erw[af (aA (aA (aA (aA #[_,rfl,(λz=>nomatch z),dq h]))))]
def Cv(hk:IsTupleKey (BY prog w) s.heap ks a)(h:Q ζ s):wpAny (bg prog w) A (GX (n+1) (.ref a)) Q E s:=by
 have hT:=hk.typeIs;let#[o,items,m,ho,_,hd,hi]:=hk;unfold GX;rwa[af (Ay hT qe.lookup (af (pX hT qX ?_)))];dsimp[bH,aw,if_false];rwa[af (Cg ho hd (af ?_))];rw[<-qW]
 rwa[wpAny_forIn_list _ (λl r s'=>r.1=ψ/\s'=s/\∀v∈l,carriedByValue v=ζ) _ ?_ ?_ _ _ #[rfl,rfl,hi.byValue]]
 .rintro v l r s' ⟨hr,rfl,z⟩
  rw[eqIsQuiet_byValue _ (z v aQ)]
  erw[af (aA (aA #[rfl,rfl,λu hu=>z u (ay _ hu)]))]
 .rintro⟨r1,r2⟩ s' ⟨hr,rfl,_⟩
  cases hr;erw[aA h]
def Cw(hk:IsPair prog w s.heap k a)(h:Q ζ s):wpAny (bg prog w) A (GX 8 (.ref a)) Q E s:=by
 let#[t,c,n,o,ho,hc,hd,hi]:=hk;have hT:s.TypeIs (.ref a) "tuple":=#[o,ho,hc]
 unfold GX;rwa[af (Ay hT qe.lookup ?_)];show wpAny _ _ (isInstance (.ref a) (.type "tuple")>>=_) _ _ s;rwa[af (pX hT qX ?_)];dsimp[bH,aw,if_false];rwa[af (Cg ho hd ?_)];rwa[af ?_];show wpAny _ _ (forIn (List.toArray [lL k.1 t,.ref c]) _ _) _ _ s;rw[<-qW]
 dsimp[oJ,xi];rw[eqIsQuiet_byValue 7 (v:=.int k.1 t) rfl]
 erw[af (af (aA (aA (af (af (Cv hi (aA (aA (aA h)))))))))]
def IsPair.keeps{es ep}(x:IsPair prog w h k a)(ho:h.get? d=ξ o)(hd:o.data=.dict es ep)(hs:gD d h h'):IsPair prog w h' k a:=by
 let#[t,c,n,o',ho',hc,hd',hi]:=x;refine#[t,c,n,o',(hs.2 a ?_).trans ho',hc,hd',hi.keeps ho hd hs];rintro rfl;obtain rfl:o'=o:=aH (ho'.symm.trans ho);rw[hd] at hd';erw[nomatch hd']
abbrev rh(prog:bO)(w:cC):HeapKind prog w sJ where
 is:=IsPair prog w
 hash:=vf prog w
 draws:=λk=>k.2.length+3
 room:=λA=>A.units+1<gv
 inj:=λhx hy=>hx.inj hy
 keeps:=λx ho hd hs=>x.keeps ho hd hs
 pyHash:=λhu hk h=>AJ hu hk h
 eqBool:=λhu hx hy h=>AK hu hx hy h
 quiet:=λhk h=>Cw hk h
end
def AL(prog:bO)(w:cC)(i:Int)(t:Tok):(dj prog w).is (.inl i) (.int i t)=ζ:=Fv i t
def AM(prog:bO)(w:cC)(x:Str)(t:Tok):(dj prog w).is (.inr (ξ x)) (.str x t)=ζ:=Fw x t
set_option genInjectivity true in
inductive V where
 |b7|bl (b:Bool)|int (i:Int)|str (x:Str)|Cb (b:Array UInt8)|XO (b:UInt64)|ref (a:Addr)|ty (n:String)
 deriving DecidableEq
abbrev RelV:V->Value->Prop
 |.b7,u=>u=gw
 |.bl b,u=>u=oq b
 |.int i,u=>∃t,u=lL i t
 |.str x,u=>∃t,u=lM x t
 |.Cb b,u=>∃t,u=Value.bytes b t
 |.XO b,u=>∃t,u=Value.float b t
 |.ref a,u=>u=bu a
 |.ty n,u=>u=Fe n
@[reducible]def Vals:List V->List Value->Prop:=Paired RelV
def Vals.length{xs:List V}{us:List Value}(r:Vals xs us):xs.length=us.length:=Paired.length r
def Vals.get:∀{xs:List V}{us:List Value}{i:Nat}{x:V},Vals xs us->xs[i]?=ξ x->∃u,us[i]?=ξ u/\RelV x u
 |_,_,_,_,.nil,e=>by simp at e
 |_,_,0,_,.cons r _,e=>by simp at e;subst e;exact#[_,rfl,r]
 |_,_,i+1,x,.cons _ t,e=>by
  let#[u,h1,h2]:=Vals.get (i:=i) (x:=x) t (~~~e);exact#[u,~~~h1,h2]
def Vals.set(r:RelV x u):∀{xs:List V}{us:List Value}(i:Nat),Vals xs us->Vals (xs.set i x) (us.set i u)
 |_,_,_,.nil=>.nil
 |_,_,0,.cons _ t=>.cons r t
 |_,_,i+1,.cons q t=>.cons q (Vals.set r i t)
def Vals.append:∀{xs ys:List V}{us ws:List Value},Vals xs us->Vals ys ws->Vals (xs++ys) (us++ws)
 |_,_,_,_,.nil,s=>s
 |_,_,_,_,.cons r t,s=>.cons r (Vals.append t s)
def Vals.take:∀{xs:List V}{us:List Value}(n:Nat),Vals xs us->Vals (xs.take n) (us.take n)
 |_,_,0,_=>.nil
 |_,_,_+1,.nil=>.nil
 |_,_,n+1,.cons r t=>.cons r (Vals.take n t)
def Vals.drop:∀{xs:List V}{us:List Value}(n:Nat),Vals xs us->Vals (xs.drop n) (us.drop n)
 |_,_,0,r=>r
 |_,_,_+1,.nil=>.nil
 |_,_,n+1,.cons _ t=>Vals.drop n t
abbrev ny:Option V->Option Value->Prop
 |some v,ξ u=>RelV v u
 |none,ψ=>True
 |_,_=>False
abbrev KV{κ:Type}:List (κ×V)->List (κ×Value)->Prop:=Paired λ(p:κ×V)(q:κ×Value)=>p.1=q.1/\RelV p.2 q.2
abbrev kV:Key->V
 |.inl i=>.int i
 |.inr (ξ x)=>.str x
 |.inr ψ=>.b7
inductive HO where
 |lst (xs:List V)
 |tup (xs:List V)
 |dK (kvs:List (Key×V))|dT (kvs:List (List Key×V))|dP (kvs:List (sJ×V))
 |set (S:Int->Bool) (n:Nat)
 |ins (C dx:Addr) (fs:List (Str×V))
 |own (x:Addr)
 |xd (fs:List (Str×V))
 |met (f x:Addr)
 |Yq (lo hi:Int)
 |sC (o:Obj) (u:HO)
 |Pn (ps:Array Value)
 |ext (φ:Heap->Prop)
@[reducible]def Hp:=Addr->Option HO
abbrev upd(H:Hp)(a:Addr)(o:HO):Hp:=λb=>if b=a then ξ o else H b
def bX:upd H a o a=ξ o:=by unfold upd;rw[if_pos rfl]
def cq(h:b≠a):upd H a o b=H b:=by unfold upd;rw[if_neg h]
def Ug{H:Hp}{a b:Addr}{o u:HO}(h:H a=ξ o)(h':H b=ξ u)(d:o≠u):a≠b:=by
 intro e;subst e;rw[h] at h';erw[d (aH h')]
def dN{H:Hp}{a b:Addr}{o:HO}(h:H a=ξ o)(h':H b=ψ):a≠b:=by
 intro e;subst e;rw[h] at h';cases h'
section
variable(P:bO)(w:cC)
abbrev d7(H:Hp)(h:Heap)(a:Addr):HO->Prop
 |.lst xs=>xs.length<=sizeLine/\∃(its:List Value)(n:Nat),Vals xs its/\h.get? a=ξ {cls:=.type "list",data:=.seq its.toArray n}
 |.tup xs=>xs.length<=sizeLine/\∃its:List Value,Vals xs its/\IsTup h a its.toArray
 |.dK kvs=>kvs.length<=sizeLine/\(a==cb)=ϑ/\∃vs,KV kvs vs/\h.DictOf (dj P w) a vs
 |.dT kvs=>kvs.length<=sizeLine/\(a==cb)=ϑ/\∃xs:List (List Key×Addr×Value),
   Paired (λ(p:List Key×V)(q:List Key×Addr×Value)=>p.1=q.1/\H q.2.1=ξ (.tup (p.1.map kV))/\RelV p.2 q.2.2) kvs xs /\
   ∃o es ep,h.get? a=ξ o/\o.ExactDict/\o.data=.dict es ep/\es.toList=xs.map (Ci (ng (dj P w)))/\(xs.map (·.1)).Nodup
 |.dP kvs=>kvs.length<=sizeLine/\(a==cb)=ϑ/\∃xs:List (sJ×Addr×Value),
   Paired (λ(p:sJ×V)(q:sJ×Addr×Value)=>p.1=q.1/\(∃c,H q.2.1=ξ (.tup [.int p.1.1,.ref c])/\H c=ξ (.tup (p.1.2.map .int)))/\RelV p.2 q.2.2) kvs xs /\
   ∃o es ep,h.get? a=ξ o/\o.ExactDict/\o.data=.dict es ep/\es.toList=xs.map (Ci (rh P w))/\(xs.map (·.1)).Nodup
 |.set S n=>h.SetOf (BY P w) a S n
 |.ins C dx fs=>H dx=ξ (.own a)/\fs.length<=1000/\dx≠a/\h.get? a=ξ (fg C dx) /\
   ∃mA,h.Ns1 dx mA/\(∀f,ny (fs.lookup f) (mA f))/\Az mA (fs.map (·.1))
 |.own _=>∃o,h.get? a=ξ o
 |.xd fs=>∃mA,h.Ns1 a mA/\∀f,ny (fs.lookup f) (mA f)
 |.Yq lo hi=>∃t u v,h.get? a=ξ {cls:=.type "range",data:=.fields (List.toArray [.int lo t,.int hi u,.int 1 v])}
 |.sC o u=>h.get? a=ξ o/\d7 H h a u
 |.Pn ps=>h.get? a=ξ {cls:=.none,data:=.fields ps}
 |.met f x=>h.get? a=ξ (qY (.ref f) (.ref x))
 |.ext φ=>φ h/\(∃o,h.get? a=ξ o)/\∀h1 h2:Heap,φ h1->(∀o,h1.get? a=ξ o->h2.get? a=ξ o)->φ h2
abbrev qa(H:Hp)(h:Heap):Prop:=∀a o,H a=ξ o->d7 P w H h a o
end
section
variable{P:bO}{w:cC}{H H':Hp}{h h':Heap}{a:Addr}{o:HO}
def d7.lt(x:d7 P w H h a o):a<h.objs.size:=by
 cases o with
 |lst xs=>let#[_,_,_,_,e]:=x;erw[aS e]
 |tup xs=>let#[_,_,_,p]:=x;erw[p.lt]
 |dK kvs=>let#[_,_,_,_,o,_,_,e,_]:=x;erw[aS e]
 |dT kvs=>let#[_,_,_,_,o,_,_,e,_]:=x;erw[aS e]
 |dP kvs=>let#[_,_,_,_,o,_,_,e,_]:=x;erw[aS e]
 |set S n=>let#[o,_,_,_,e,_]:=x;erw[aS e]
 |ins C dx fs=>let#[_,_,_,e,_]:=x;erw[aS e]
 |own y=>let#[_,e]:=x;erw[aS e]
 |xd fs=>let#[_,#[_,_,_,e,_],_]:=x;erw[aS e]
 |Yq lo hi=>let#[_,_,_,e]:=x;erw[aS e]
 |sC ob u=>let#[e,_]:=x;erw[aS e]
 |Pn ps=>erw[aS (show h.get? a=ξ _ from x)]
 |met f y=>erw[aS (show h.get? a=ξ _ from x)]
 |ext φ=>let#[_,#[_,e],_]:=x;erw[aS e]
def Paired.Fy{α β:Type}{F G:α->β->Prop}:∀{l₁:List α}{l₂:List β},Paired F l₁ l₂->(∀a b,F a b->G a b)->Paired G l₁ l₂
 |_,_,.nil,_=>.nil
 |_,_,.cons r t,f=>.cons (f _ _ r) (Paired.Fy t f)
def d7.wQ(x:d7 P w H h a o)(k:∀b u,(b=a\/H b=ξ (.own a))->h.get? b=ξ u->h'.get? b=ξ u)
  (ho:∀b,H b=ξ (.own a)->H' b=ξ (.own a)) (ht:∀b xs,H b=ξ (.tup xs)->H' b=ξ (.tup xs)):d7 P w H' h' a o:=by
 induction o with
 |lst xs=>let#[z,its,n,r,e]:=x;exact#[z,its,n,r,k _ _ (.inl rfl) e]
 |tup xs=>let#[z,its,r,ob,e,c]:=x;exact#[z,its,r,ob,k _ _ (.inl rfl) e,c]
 |dK kvs=>let#[z,y,vs,r,ob,es,ep,e,c]:=x;exact#[z,y,vs,r,ob,es,ep,k _ _ (.inl rfl) e,c]
 |dT kvs=>
  let#[z,y,xs,r,ob,es,ep,e,c]:=x;exact#[z,y,xs,Paired.Fy r λp q z=>#[z.1,ht _ _ z.2.1,z.2.2],ob,es,ep,k _ _ (.inl rfl) e,c]
 |dP kvs=>
  let#[z,y,xs,r,ob,es,ep,e,c]:=x;exact#[z,y,xs,Paired.Fy r λp q z=>#[z.1,let ⟨c,e1,e2⟩:=z.2.1;#[c,ht _ _ e1,ht _ _ e2],z.2.2],ob,es,ep,k _ _ (.inl rfl) e,c]
 |set S n=>let#[ob,es,ep,t,e,c]:=x;exact#[ob,es,ep,t,k _ _ (.inl rfl) e,c]
 |ins C dx fs=>
  let#[d,z,ne,e,mA,#[od,es,ep,e2,c],r]:=x;exact#[ho _ d,z,ne,k _ _ (.inl rfl) e,mA,#[od,es,ep,k _ _ (.inr d) e2,c],r]
 |own y=>let#[ob,e]:=x;exact#[ob,k _ _ (.inl rfl) e]
 |xd fs=>let#[mA,#[od,es,ep,e,c],r]:=x;exact#[mA,#[od,es,ep,k _ _ (.inl rfl) e,c],r]
 |Yq lo hi=>let#[t,u,v,e]:=x;exact#[t,u,v,k _ _ (.inl rfl) e]
 |sC ob u ih=>let#[e,q]:=x;exact#[k _ _ (.inl rfl) e,ih q]
 |Pn ps=>
  have e:h.get? a=ξ {cls:=.none,data:=.fields ps}:=x;show h'.get? a=ξ {cls:=.none,data:=.fields ps};erw[k a _ (.inl rfl) e]
 |met f y=>
  have e:h.get? a=ξ (qY (.ref f) (.ref y)):=x;show h'.get? a=ξ (qY (.ref f) (.ref y));erw[k a _ (.inl rfl) e]
 |ext φ=>let#[p,#[o,e],st]:=x;exact#[st _ _ p λo q=>k _ _ (.inl rfl) q,#[o,k _ _ (.inl rfl) e],st]
def qa.lt(x:qa P w H h)(e:H a=ξ o):a<h.objs.size:=(x a o e).lt
def qa.fresh(x:qa P w H h)(e:h.objs.size<=a):H a=ψ:=by
 cases q:H a with
 |none=>rfl
 |some u=>erw[absurd (av (x.lt q) e) (dU _)]
def qa.kept(x:qa P w H h)(k:∀b u,h.get? b=ξ u->h'.get? b=ξ u):qa P w H h':=λa o e=>
 (x a o e).wQ (λb u _ q=>k b u q) (λ_ q=>q) λ_ _ q=>q
def qa.laid(x:qa P w H h)(k:∀b u,h.get? b=ξ u->h'.get? b=ξ u)(hp:h.objs.size<=a)(new:d7 P w (upd H a o) h' a o):qa P w (upd H a o) h':=λb u e=>by
 have hn:=x.fresh hp;by_cases hb:b=a
 .subst hb;rw[bX] at e;cases e;erw[new]
 .rw[cq hb] at e
  exact(x b u e).wQ (λc v _ q=>k c v q) (λc q=>%[cq (dN q hn)|q]) λc xs q=>%[cq (dN q hn)|q]
end
abbrev Rd(H:Hp)(a:Addr)(u:HO):Prop:=H a=ξ u\/∃o,H a=ξ (.sC o u)
def Rd.ok{P:bO}{w:cC}{H:Hp}{h:Heap}{a:Addr}{u:HO}(r:Rd H a u)(x:qa P w H h):d7 P w H h a u:=by
 rcases r with r|⟨o,r⟩
 .erw[x a u r]
 .let#[_,q]:=x a _ r
  erw[q]
abbrev TN:Option HO->Prop
 |some (.lst _)=>True
 |some (.dK _)=>True
 |some (.dT _)=>True
 |some (.dP _)=>True
 |some (.set _ _)=>True
 |some (.ins _ _ _)=>True
 |some (.ext _)=>True
 |_=>False
section
variable{P:bO}{w:cC}{H:Hp}{h h':Heap}{x e:Addr}{o':HO}
def qa.write(ok:qa P w H h)(mu:TN (H x))(he:e=x\/H e=ξ (.own x))(k:∀b u,b≠e->h.get? b=ξ u->h'.get? b=ξ u)(heo:∃u,h'.get? e=ξ u)
  (new:d7 P w (upd H x o') h' x o'):qa P w (upd H x o') h':=λb u q=>by
 have nown:∀c y,H c=ξ (.own y)->c≠x:=λc y r z=>by subst z;rw[r] at mu;erw[mu]
 have ntup:∀c xs,H c=ξ (.tup xs)->c≠x:=λc xs r z=>by subst z;rw[r] at mu;erw[mu]
 by_cases hb:b=x
 .subst hb;rw[bX] at q;cases q;erw[new]
 .rw[cq hb] at q
  by_cases hbe:b=e
  .have q':H b=ξ (.own x):=by
    rcases he with z|z
    .erw[absurd (hbe.trans z) hb]
    .rw[hbe];erw[z]
   rw[q] at q';cases q';let#[v,hv]:=heo;exact#[v,%[hbe|hv]]
  .refine(ok b u q).wQ (λc v hc r=>k c v ?_ r) (λc r=>%[cq (nown c b r)|r]) λc xs r=>%[cq (ntup c xs r)|r]
   rcases hc with rfl|hc
   .erw[hbe]
   .rintro rfl
    rcases he with z|z
    .erw[nown c b hc z]
    .rw[hc] at z;cases z;erw[hb rfl]
end
structure Un(fs ex:List Addr)(H H':Hp)(h h':Heap):Prop where
 keep:∀b o,h.get? b=ξ o->H b=ψ->b∉fs->b∉ex->h'.get? b=ξ o
 slot:∀b o,h.get? b=ξ o->H b=ψ->b∈fs->b∉ex->∃sl,h'.get? b=ξ {o with slots:=sl}
 free:∀b o,h.get? b=ξ o->H b=ψ->b∉ex->H' b=ψ
 there:∀b o,h.get? b=ξ o->b∉ex->∃o',h'.get? b=ξ o'
 AN:∀b xs,H b=ξ (.tup xs)->H' b=ξ (.tup xs)
 yR:∀b o u,H b=ξ (.sC o u)->H' b=ξ (.sC o u)
 AO:∀b ps,H b=ξ (.Pn ps)->∃more,H' b=ξ (.Pn (ps++more))
section
variable{fs fs' ex ex':List Addr}{H H1 H2:Hp}{h h1 h2 h':Heap}{a x e:Addr}{o:HO}
def Un.any(u:Un fs ex H H1 h h1){b:Addr}{ob:Obj}(q:h.get? b=ξ ob)(n:H b=ψ)(hx:b∉ex):∃sl,h1.get? b=ξ {ob with slots:=sl}:=by
 by_cases hb:b∈fs
 .erw[u.slot b ob q n hb hx]
 .exact#[ob.slots,u.keep b ob q n hb hx]
def Un.kept(k:∀b u,h.get? b=ξ u->h'.get? b=ξ u):Un fs ex H H h h':=
 #[λb ob q _ _ _=>k b ob q,λb ob q _ _ _=>#[ob.slots,k b ob q],λ_ _ _ n _=>n,λb ob q _=>#[ob,k b ob q],λ_ _ q=>q,λ_ _ _ q=>q,λ_ ps q=>#[#[],by rw[q];simp]]
def Un.refl:Un fs ex H H h h:=Un.kept λ_ _ q=>q
def Un.laid(k:∀b u,h.get? b=ξ u->h'.get? b=ξ u)(hp:h.objs.size<=a)(hn:H a=ψ):Un fs ex H (upd H a o) h h' where
 keep:=λb u q _ _ _=>k b u q
 slot:=λb u q _ _ _=>#[u.slots,k b u q]
 free:=λb u q n _=>%[cq (ba (av (aS q) hp))|n]
 there:=λb u q _=>#[u,k b u q]
 AN:=λb xs q=>%[cq (dN q hn)|q]
 yR:=λb u xs q=>%[cq (dN q hn)|q]
 AO:=λb ps q=>#[#[],by rw[cq (dN q hn),q];simp]
def Un.write(mu:TN (H x))(he:e=x\/H e=ξ (.own x))(k:∀b u,b≠e->h.get? b=ξ u->h'.get? b=ξ u)(heo:∃u,h'.get? e=ξ u):Un fs ex H (upd H x o) h h':=by
 have hx:∀b,H b=ψ->b≠x:=λb n z=>by subst z;rw[n] at mu;erw[mu]
 have hb:∀b,H b=ψ->b≠e:=λb n z=>by
  subst z;rcases he with r|r
  .erw[hx b n r]
  .rw[n] at r;cases r
 have hm:∀b u,H b=ξ u->¬TN (ξ u)->b≠x:=λb u q nm z=>by subst z;rw[q] at mu;erw[nm mu]
 refine#[λb u q n _ _=>k b u (hb b n) q,λb u q n _ _=>#[u.slots,k b u (hb b n) q],λb u q n _=>by rw[cq (hx b n)];exact n,λb u q _=>?_,
  λb xs q=>%[cq (hm b _ q λz=>z)|q],λb u xs q=>%[cq (hm b _ q λz=>z)|q],λb ps q=>#[#[],by rw[cq (hm b _ q λz=>z),q];simp]]
 by_cases hbe:b=e
 .subst hbe;erw[heo]
 .exact#[u,k b u hbe q]
end
abbrev Cc(h:Heap)(H:Hp):List Addr:=(cv h.objs.size).filter λa=>(H a).isSome
abbrev yS(h:Heap)(H:Hp):Heap:=PySem.W.hideAll h (Cc h H)
def Fz(h:Heap)(H:Hp):(yS h H).objs.size=h.objs.size:=PySem.W.hideAll_size _ _
def HF(e:h.get? b=ξ o)(n:H b=ψ):(yS h H).get? b=ξ o:=
 PySem.W.hideAll_get _ e λhm=>by
  have q:(H b).isSome=ζ:=(fq.mp hm).2;rw[n] at q;simp at q
def LJ(e:(yS h H).get? b=ξ o):h.get? b=ξ o/\H b=ψ:=by
 have e':h.get? b=ξ o:=PySem.W.of_hideAll (Cc h H) e;refine#[e',?_];cases q:H b with
 |none=>rfl
 |some x=>
  have hm:b∈Cc h H:=fq.mpr #[qg.mpr (aS e'),by simp[q]];have z:(yS h H).get? b=ψ:=PySem.W.hideAll_none (Cc h H) hm;rw[z] at e;cases e
abbrev rj(g h:Heap)(L:Addr):List (Addr×Obj):=(cv h.objs.size).filterMap λa=>if a=L\/(g.get? a).isSome=ζ then ψ else(h.get? a).map λo=>(a,o)
def AQ(h1:a≠L)(h2:g.get? a=ψ)(h3:h.get? a=ξ o):(a,o)∈rj g h L:=
 lW.mpr #[a,qg.mpr (aS h3),by simp[h1,h2,h3]]
def vg(hp:p∈rj g h L):p.1≠L/\g.get? p.1=ψ/\h.get? p.1=ξ p.2:=by
 let#[b,_,e]:=lW.mp hp;split at e
 .cases e
 .rename_i hn
  cases q:h.get? b with
  |none=>rw[q] at e;simp at e
  |some u=>
   rw[q] at e;dsimp[i4,pY] at e;subst e;refine#[λz=>hn (.inl z),?_,q];show g.get? b=ψ;cases r:g.get? b with
   |none=>rfl
   |some v=>exact(hn (.inr (by simp[r]))).elim
def HG:News g L h (rj g h L):=λp hp=>let ⟨a,b,c⟩:=vg hp;#[c,a,b]
structure Mod(K:aI)(mg:Str->Option Value)(base:Heap):Prop where
 Uh:K.In base
 glob:base.Ns bI mg
 blt:∃mb,base.Ns Cj mb/\∀x:Str,x≠"__name__"->mb x=kB x
 nolimit:base.NoLimit
structure Cx where
 prog:bO
 w:cC
 K:aI
 mg:Str->Option Value
 base:Heap
 A:d9
 N:List Str
 s₀:aD
 H₀:Hp
 env:Env
 outer:List Env
 stack:List Env
 ex:List Addr
 fn:Str->Bool
 calm:Bool
 pn:List (Addr×Obj)
 xe:Value->aD->Prop
abbrev Hf(l:List Env):List Addr:=l.filterMap (·.frame)
@[reducible]def Cx.fs(X:Cx):List Addr:=Hf X.outer
abbrev Ui(sc:kC)(x:Str):Prop:=sc.names.lookup x=ξ .local\/sc.names.lookup x=ξ .cell\/sc.names.lookup x=ξ .free
abbrev Loc(sc:kC)(x:Str):Prop:=sc.names.lookup x=ξ .local\/sc.names.lookup x=ξ .cell
abbrev Look(env:Env)(h:Heap)(m:Str->Option Value)(x:Str)(u:Value):Prop:=
 (env.kindOf x=ξ .local/\m x=ξ u)\/((env.kindOf x=ξ .cell\/env.kindOf x=ξ .free)/\∃c,env.cells.lookup x=ξ c/\h.IsCell c (ξ u))
structure Cx.Ok(X:Cx):Prop where
 mod:Mod X.K X.mg X.base
 kind:X.env.scope.kind=.function
 glob:X.env.globals=bI
 blt:X.env.builtins=Cj
 above:X.s₀.heap.objs.size<=X.env.locals
 inj:∀x y c,X.env.cells.lookup x=ξ c->X.env.cells.lookup y=ξ c->x=y
 has:∀x,(X.env.kindOf x=ξ .cell\/X.env.kindOf x=ξ .free)->∃c,X.env.cells.lookup x=ξ c
 Uj:∀x c,X.fn x=ζ->X.env.cells.lookup x=ξ c->X.s₀.heap.objs.size<=c
 hd:X.calm=ζ->X.A.handled=ψ
 frames:X.A.frames=ξ X.stack
 XQ:X.stack=X.outer\/(X.stack=X.env::X.outer/\X.env.frame=ξ X.env.locals)
 exf:∀b∈X.ex,b≠X.env.locals/\∀x c,X.env.cells.lookup x=ξ c->c≠b
 bs:∀b o,X.base.get? b=ξ o->X.s₀.heap.get? b=ξ o/\X.H₀ b=ψ
 LK:X.base.objs.size<=X.s₀.heap.objs.size
 HH:∀b o,X.base.get? b=ξ o->b∉X.ex
 LL:∀b∈X.ex,b∉X.fs
 uz:X.s₀.heap.FunFrames X.base X.outer
 Po:∀b∈X.fs,X.H₀ b=ψ
structure Inv(X:Cx)(pZ:List (Addr×Obj))(σ:List (Option V))(H:Hp)(s:aD):Prop where
 ok:X.Ok
 os:s.os=X.s₀.os
 bare:qv s.gens
 base:Un X.fs X.ex X.H₀ H X.s₀.heap s.heap
 loc:∃m,s.heap.Ns X.env.locals m/\∀(i:Nat)(x:Str)(v:V),X.N[i]?=ξ x->σ[i]?=ξ (ξ v)->Ui X.env.scope x->∃u,RelV v u/\Look X.env s.heap m x u
 cell:∀x c,X.env.cells.lookup x=ξ c->∃v,s.heap.IsCell c v
 free:H X.env.locals=ψ
 qh:∀x c,X.env.cells.lookup x=ξ c->H c=ψ
 pin:∀p∈X.pn++pZ,s.heap.get? p.1=ξ p.2/\H p.1=ψ/\p.1≠X.env.locals/\p.1∉X.fs/\∀v,p.2.data≠.cell v
 dQ:qa X.prog X.w H s.heap
 len:σ.length=X.N.length
section
variable{X:Cx}{pZ:List (Addr×Obj)}{σ:List (Option V)}{H H':Hp}{s:aD}{h':Heap}
def Cx.Ok.Yr(ok:X.Ok)(e:X.base.get? b=ξ o):b∉X.fs:=λhb=>by
 have:=(ok.uz.mem hb).1;rw[e] at this;cases this
def Inv.bs(I:Inv X pZ σ H s):∀b o,X.base.get? b=ξ o->s.heap.get? b=ξ o/\H b=ψ:=λb o e=>
 #[I.base.keep b o (I.ok.bs b o e).1 (I.ok.bs b o e).2 (I.ok.Yr e) (I.ok.HH b o e),I.base.free b o (I.ok.bs b o e).1 (I.ok.bs b o e).2 (I.ok.HH b o e)]
def Inv.bk(I:Inv X pZ σ H s):∀b o,X.base.get? b=ξ o->s.heap.get? b=ξ o:=λb o e=>(I.bs b o e).1
def Inv.mod(I:Inv X pZ σ H s):Mod X.K X.mg X.base:=I.ok.mod
def Inv.yT(I:Inv X pZ σ H s):X.K.In s.heap:=I.ok.mod.Uh.keeps I.bk
def Inv.fr(I:Inv X pZ σ H s):∃m,Fr X.base X.env.locals s.heap m:=
 let ⟨m,hn,_⟩:=I.loc
 #[m,hn,I.bk,aF I.ok.LK I.ok.above]
def Inv.lt(I:Inv X pZ σ H s):X.env.locals<s.heap.objs.size:=let ⟨_,hn,_⟩:=I.loc;hn.lt
def Inv.sz(I:Inv X pZ σ H s):X.s₀.heap.objs.size<=s.heap.objs.size:=aF I.ok.above (cY I.lt)
def Inv.Yt(I:Inv X pZ σ H s)(h:s.heap.objs.size<=a):a∉X.fs:=λhb=>by
 let#[_,o,ho,_]:=I.ok.uz.mem hb;erw[absurd (av (aS ho) (aF I.sz h)) (dU _)]
def Inv.Pp(I:Inv X pZ σ H s):∀x c,X.env.cells.lookup x=ξ c->c≠X.env.locals:=λx c e z=>by
 let#[v,o,ho,hd]:=I.cell x c e;let#[m,#[o',es,ep,ho',hd',_],_]:=I.loc;rw[z,ho'] at ho;cases ho;rw[hd'] at hd;cases hd
def Inv.uz(I:Inv X pZ σ H s):s.heap.FunFrames X.base X.outer:=by
 have all:∀(l:List Env),(∀b∈Hf l,b∈X.fs)->X.s₀.heap.FunFrames X.base l->s.heap.FunFrames X.base l:=by
  intro l;induction l with
  |nil=>intro _ _;trivial
  |cons env r ih=>
   intro hs hl;let#[hk,#[L,o,hf,hn,ho,hd],hr]:=hl;have hL:L∈X.fs:=hs L (by unfold Hf;rw[cw,hf];erw[aQ]);let#[sl,e]:=I.base.slot L o ho (I.ok.Po L hL) hL λz=>I.ok.LL L z hL
   exact#[hk,#[L,_,hf,hn,e,hd],ih (λb hb=>hs b (by unfold Hf;rw[cw,hf];erw[ay _ hb])) hr]
 erw[all X.outer (λ_ hb=>hb) I.ok.uz]
def Inv.stack(I:Inv X pZ σ H s):s.heap.FunFrames X.base X.stack:=by
 rcases I.ok.XQ with e|⟨e,hf⟩
 .rw[e];erw[I.uz]
 .rw[e]
  let#[m,hn,_]:=I.loc;rwa[.cons (by rw[I.ok.kind];decide) hf hn ?_ I.uz];erw[Heap.get?_none_of_le (aF I.ok.LK I.ok.above)]
def Inv.yU(I:Inv X pZ σ H s):∀b∈Hf X.stack,b∈X.env.locals::X.fs:=λb hb=>by
 rcases I.ok.XQ with e|⟨e,hf⟩
 .rw[e] at hb;erw[ay _ hb]
 .rw[e] at hb
  unfold Hf at hb;rw[cw,hf] at hb;erw[hb]
def Inv.D3(I:Inv X pZ σ H s):∀b∈Hf X.stack,H b=ψ:=λb hb=>by
 rcases aN.mp (I.yU b hb) with e|hb
 .rw[e];erw[I.free]
 .let#[_,o,ho,_]:=I.ok.uz.mem hb
  erw[I.base.free b o ho (I.ok.Po b hb) λz=>I.ok.LL b z hb]
def Inv.step{g':Array GenState}{t':Nat}{d':Drawn}{ch:List Addr}(I:Inv X pZ σ H s)
  (hch:∀b∈ch,(b∈X.ex\/X.s₀.heap.objs.size<=b)/\b≠X.env.locals/\(∀x c,X.env.cells.lookup x=ξ c->c≠b)/\∀p∈X.pn++pZ,p.1≠b)
  (keep:∀b o,b≠X.env.locals->b∉X.fs->b∉ch->s.heap.get? b=ξ o->H b=ψ->h'.get? b=ξ o)
  (slot:∀b o,b≠X.env.locals->b∈X.fs->b∉ch->s.heap.get? b=ξ o->H b=ψ->∃sl,h'.get? b=ξ {o with slots:=sl}) (free:∀b o,b∉ch->s.heap.get? b=ξ o->H b=ψ->H' b=ψ)
  (there:∀b o,b∉ch->s.heap.get? b=ξ o->∃o',h'.get? b=ξ o')
  (AN:∀b xs,H b=ξ (.tup xs)->H' b=ξ (.tup xs)) (yR:∀b o u,H b=ξ (.sC o u)->H' b=ξ (.sC o u)) (AO:∀b ps,H b=ξ (.Pn ps)->∃more,H' b=ξ (.Pn (ps++more)))
  (ns:∀m,s.heap.Ns X.env.locals m->h'.Ns X.env.locals m) (dQ:qa X.prog X.w H' h') (hg:qv g'):
  Inv X pZ σ H' {s with heap:=h',gens:=g',drawn:=d',toks:=t'}:=by
 have neL:∀b o,X.s₀.heap.get? b=ξ o->b≠X.env.locals:=λb o e=>ba (av (aS e) I.ok.above)
 have neC:∀b o,X.s₀.heap.get? b=ξ o->b∉X.ex->b∉ch:=λb o e hx hb=>by
  rcases(hch b hb).1 with z|z
  .erw[hx z]
  .erw[absurd (av (aS e) z) (dU _)]
 have cellK:∀x c,X.env.cells.lookup x=ξ c->∀v,s.heap.IsCell c v->h'.IsCell c v:=λx c e v #[o,ho,hd]=>by
  have nch:c∉ch:=λz=>(hch c z).2.2.1 x c e rfl
  by_cases hc:c∈X.fs
  .let#[sl,q]:=slot c o (I.Pp x c e) hc nch ho (I.qh x c e)
   exact#[_,q,hd]
  .exact#[o,keep c o (I.Pp x c e) hc nch ho (I.qh x c e),hd]
 refine#[I.ok,I.os,hg,#[λb o e n hb hx=>?_,λb o e n hb hx=>?_,λb o e n hx=>?_,λb o e hx=>?_,λb xs e=>AN b xs (I.base.AN b xs e),λb o xs e=>yR b o xs (I.base.yR b o xs e),λb ps e=>?_],?_,λx c e=>?_,?_,λx c e=>?_,λp hp=>?_,dQ,I.len]
 .erw[keep b o (neL b o e) hb (neC b o e hx) (I.base.keep b o e n hb hx) (I.base.free b o e n hx)]
 .let#[sl,e1]:=I.base.slot b o e n hb hx
  let#[sl',e2]:=slot b _ (neL b o e) hb (neC b o e hx) e1 (I.base.free b o e n hx);exact#[sl',e2]
 .let#[o',e1]:=I.base.there b o e hx
  erw[free b o' (neC b o e hx) e1 (I.base.free b o e n hx)]
 .let#[o',e1]:=I.base.there b o e hx
  erw[there b o' (neC b o e hx) e1]
 .let#[m1,e1]:=I.base.AO b ps e
  let#[m2,e2]:=AO b _ e1;exact#[m1++m2,by rw[e2,Array.append_assoc]]
 .let#[m,hn,hl]:=I.loc
  refine#[m,ns m hn,λi x v e1 e2 e3=>?_];let#[u,r,l]:=hl i x v e1 e2 e3;refine#[u,r,?_];rcases l with l|⟨k,c,e,z⟩
  .erw[.inl l]
  .erw[.inr #[k,c,e,cellK x c e _ z]]
 .let#[v,z]:=I.cell x c e
  exact#[v,cellK x c e v z]
 .let#[m,#[o,_,_,ho,_],_]:=I.loc
  erw[free _ o (λz=>(hch _ z).2.1 rfl) ho I.free]
 .let#[v,o,ho,hd]:=I.cell x c e
  erw[free c o (λz=>(hch c z).2.2.1 x c e rfl) ho (I.qh x c e)]
 .let#[e,n,ne,nf,d]:=I.pin p hp
  have nch:p.1∉ch:=λz=>(hch p.1 z).2.2.2 p hp rfl
  exact#[keep p.1 p.2 ne nf nch e n,free p.1 p.2 nch e n,ne,nf,d]
def Inv.un{t':Nat}(I:Inv X pZ σ H s)(u:Un X.fs [] H H' s.heap h')(dQ:qa X.prog X.w H' h'):Inv X pZ σ H' {s with heap:=h',toks:=t'}:=by
 let#[m,#[o,es,ep,ho,r],_]:=id I.loc;let#[sl,hL]:=u.any ho I.free (#v[]);exact I.step (g':=s.gens) (d':=s.drawn) (ch:=[]) (λ_ z=>nomatch z) (λb o _ hb _ e n=>u.keep b o e n hb (#v[])) (λb o _ hb _ e n=>u.slot b o e n hb (#v[])) (λb o _ e n=>u.free b o e n (#v[])) (λb o _ e=>u.there b o e (#v[])) u.AN u.yR u.AO (λm' hm=>by
  let#[o',es',ep',ho',r']:=hm;rw[ho] at ho';cases ho';exact#[_,es',ep',hL,r']) dQ I.bare
def Inv.call{g':Array GenState}{t':Nat}{d':Drawn}{ch:List Addr}(I:Inv X pZ σ H s)(u:Un (Hf X.stack) ch H H' s.heap h')(dQ:qa X.prog X.w H' h')(hg:qv g')
  (hch:∀b∈ch,(b∈X.ex\/X.s₀.heap.objs.size<=b)/\b≠X.env.locals/\(∀x c,X.env.cells.lookup x=ξ c->c≠b)/\∀p∈X.pn++pZ,p.1≠b):
  Inv X pZ σ H' {s with heap:=h',gens:=g',drawn:=d',toks:=t'}:=by
 let#[m,#[o,es,ep,ho,r],_]:=id I.loc;let#[sl,hL]:=u.any ho I.free λz=>(hch _ z).2.1 rfl
 exact I.step (ch:=ch) hch (λb o hL hb hc e n=>u.keep b o e n (λz=>(aN.mp (I.yU b z)).elim hL hb) hc) (λb o _ _ hc e n=>u.any e n hc) (λb o hc e n=>u.free b o e n hc) (λb o hc e=>u.there b o e hc) u.AN u.yR u.AO (λm' hm=>by
  let#[o',es',ep',ho',r']:=hm;rw[ho] at ho';cases ho';exact#[_,es',ep',hL,r']) dQ hg
def Inv.turned{t':Nat}{it:Addr}(I:Inv X pZ σ H s)(k:∀b o,b≠it->s.heap.get? b=ξ o->h'.get? b=ξ o)(hn:H it=ψ)(hL:it≠X.env.locals)
  (h1:it∈X.ex\/X.s₀.heap.objs.size<=it) (h2:∀x c,X.env.cells.lookup x=ξ c->c≠it) (h3:∀p∈X.pn++pZ,p.1≠it):Inv X pZ σ H {s with heap:=h',toks:=t'}:=by
 have nit:∀b u,H b=ξ u->b≠it:=λb u e z=>by rw[z,hn] at e;cases e
 refine I.step (g':=s.gens) (d':=s.drawn) (ch:=[it]) (λb hb=>?_) (λb o _ _ hc e _=>k b o (λz=>hc (by simp[z])) e) (λb o _ _ hc e _=>#[o.slots,k b o (λz=>hc (by simp[z])) e]) (λ_ _ _ _ n=>n)
  (λb o hc e=>#[o,k b o (λz=>hc (by simp[z])) e]) (λ_ _ e=>e) (λ_ _ _ e=>e) (λb ps e=>#[#[],by rw[e];simp]) (λm hm=>?_) (λb u e=>?_) I.bare
 .have e:b=it:=by simpa using hb
  subst e;exact#[h1,hL,h2,h3]
 .let#[o,es,ep,ho,r]:=hm
  exact#[o,es,ep,k _ o (cJ hL) ho,r]
 .refine(I.dQ b u e).wQ (λc v hc q=>k c v ?_ q) (λ_ q=>q) λ_ _ q=>q
  rcases hc with z|z
  .rw[z];erw[nit b u e]
  .erw[nit c _ z]
def Inv.tok(I:Inv X pZ σ H s)(t:Nat):Inv X pZ σ H {s with toks:=t}:=I.un (h':=s.heap) (t':=t) Un.refl I.dQ
def Inv.kept{t':Nat}(I:Inv X pZ σ H s)(k:∀b u,s.heap.get? b=ξ u->h'.get? b=ξ u):Inv X pZ σ H {s with heap:=h',toks:=t'}:=I.un (Un.kept k) (I.dQ.kept k)
def Inv.laid{a:Addr}{o:HO}{t':Nat}(I:Inv X pZ σ H s)(k:∀b u,s.heap.get? b=ξ u->h'.get? b=ξ u)(hp:s.heap.objs.size<=a)(new:d7 X.prog X.w (upd H a o) h' a o):
  Inv X pZ σ (upd H a o) {s with heap:=h',toks:=t'}:=I.un (Un.laid k hp (I.dQ.fresh hp)) (I.dQ.laid k hp new)
def Inv.write(I:Inv X pZ σ H s)(mu:TN (H x))(he:e=x\/H e=ξ (.own x))(k:∀b u,b≠e->s.heap.get? b=ξ u->h'.get? b=ξ u)(heo:∃u,h'.get? e=ξ u)
  (new:d7 X.prog X.w (upd H x o) h' x o):Inv X pZ σ (upd H x o) {s with heap:=h',toks:=t'}:=I.un (Un.write mu he k heo) (I.dQ.write mu he k heo new)
def Inv.D6(I:Inv X pZ σ H s)(h:∀p∈pins',s.heap.get? p.1=ξ p.2/\H p.1=ψ/\p.1≠X.env.locals/\p.1∉X.fs/\∀v,p.2.data≠.cell v):Inv X pins' σ H s:=
 #[I.ok,I.os,I.bare,I.base,I.loc,I.cell,I.free,I.qh,λp hp=>(aL.mp hp).elim (λz=>I.pin p (bN _ z)) (h p),I.dQ,I.len]
def AR{N:List Str}(hN:N.Nodup){i j:Nat}{x:Str}(a:N[i]?=ξ x)(b:N[j]?=ξ x):i=j:=by
 let#[h1,e1]:=ag.mp a;let#[h2,e2]:=ag.mp b;exact(Le hN).mp (e1.trans e2.symm)
def xB{M:Model}{A:d9}{E:Value->aD->Prop}{i:Nat}{x:Str}{v:V}{u:Value}{Q:Unit->aD->Prop}(I:Inv X pZ σ H s)(hN:X.N.Nodup)(hi:X.N[i]?=ξ x)(hx:Loc X.env.scope x)(r:RelV v u)
  (h:∀s',Inv X pZ (σ.set i (ξ v)) H s'->(∃a,gD a s.heap s'.heap/\(a=X.env.locals\/X.env.cells.lookup x=ξ a))->Q () s') (hf:X.fn x=ζ\/X.env.scope.names.lookup x=ξ .local:=by first|exact .inl rfl|exact .inr rfl|assumption):wpAny M A (storeName X.env x u) Q E s:=by
 let#[m,hn,hl]:=id I.loc;have hcls:(X.env.scope.kind==.class||(X.env.scope.kind==.module&&X.env.locals !=X.env.globals))=ϑ:=by rw[I.ok.kind];rfl
 have hiσ:i<σ.length:=by rw[I.len];exact(ag.mp hi).1
 have Pp:=I.Pp;have tracked:∀{a:Addr}{h':Heap},(∃o,s.heap.get? a=ξ o/\H a=ψ)->gD a s.heap h'->qa X.prog X.w H h':=λ{a h'}ha hs b ob e=>by
  let#[_,_,hfree]:=ha;refine(I.dQ b ob e).wQ (λc w' hc q=>(hs.2 c ?_).trans q) (λ_ q=>q) λ_ _ q=>q
  rintro rfl;rcases hc with rfl|hc
  .rw[hfree] at e;cases e
  .rw[hfree] at hc;cases hc
 rcases hx with hk|hk
 .rwa[wpAny_storeName_local hk hn (λh' hn' hs=>?_) hcls]
  let#[oL,_,_,hoL,_]:=id hn;refine h _ #[I.ok,I.os,I.bare,#[λb o e n hb hx=>?_,λb o e n hb hx=>?_,I.base.free,λb o e hx=>?_,I.base.AN,I.base.yR,I.base.AO],#[_,hn',λj y v' e1 e2 e3=>?_],λy c e=>?_,I.free,I.qh,λp hp=>?_,tracked #[oL,hoL,I.free] hs,~~~I.len] #[_,hs,.inl rfl]
  .exact(hs.2 b (ba (av (aS e) I.ok.above))).trans (I.base.keep b o e n hb hx)
  .let#[sl,e1]:=I.base.slot b o e n hb hx
   exact#[sl,(hs.2 b (ba (av (aS e) I.ok.above))).trans e1]
  .let#[o',e1]:=I.base.there b o e hx
   exact#[o',(hs.2 b (ba (av (aS e) I.ok.above))).trans e1]
  .by_cases hj:j=i
   .subst hj
    rw[hi] at e1;cases e1;rw[bA hiσ] at e2;cases e2;exact#[u,r,.inl #[hk,#v[]]]
   .rw[ak (cJ hj)] at e2
    let#[u',r',q]:=hl j y v' e1 e2 e3;refine#[u',r',?_];rcases q with⟨k,e⟩|⟨k,c,e,z⟩
    .rwa[.inl #[k,?_]]
     have:y≠x:=λe=>hj (AR hN e1 (e▸hi))
     simp[this,e]
    .erw[.inr #[k,c,e,z.sameBut hs (Pp y c e)]]
  .let#[w',z]:=I.cell y c e
   exact#[w',z.sameBut hs (Pp y c e)]
  .let#[e,n,ne,nf,d]:=I.pin p hp
   exact#[(hs.2 p.1 ne).trans e,n,ne,nf,d]
 .have hfn:X.fn x=ζ:=by
   rcases hf with z|z
   .erw[z]
   .rw[z] at hk;cases hk
  let#[c,hc]:=I.ok.has x (.inl hk);let#[w',z]:=I.cell x c hc;rwa[wpAny_storeName_cell I.ok.kind hk hc z (λh' hc' hs=>?_)];let#[oc,hoc,hocd]:=id z;refine h {s with heap:=h'} #[I.ok,I.os,I.bare,#[λb o e n hb hx=>?_,λb o e n hb hx=>?_,I.base.free,λb o e hx=>?_,I.base.AN,I.base.yR,I.base.AO],#[m,hn.sameBut hs (cJ (Pp x c hc)),λj y v' e1 e2 e3=>?_],λy c' e=>?_,I.free,I.qh,λp hp=>?_,tracked #[oc,hoc,I.qh x c hc] hs,~~~I.len] #[c,hs,.inr hc]
  .exact(hs.2 b (ba (av (aS e) (I.ok.Uj x c hfn hc)))).trans (I.base.keep b o e n hb hx)
  .let#[sl,e1]:=I.base.slot b o e n hb hx
   exact#[sl,(hs.2 b (ba (av (aS e) (I.ok.Uj x c hfn hc)))).trans e1]
  .let#[o',e1]:=I.base.there b o e hx
   exact#[o',(hs.2 b (ba (av (aS e) (I.ok.Uj x c hfn hc)))).trans e1]
  .by_cases hj:j=i
   .subst hj
    rw[hi] at e1;cases e1;rw[bA hiσ] at e2;cases e2;exact#[u,r,.inr #[.inl hk,c,hc,hc']]
   .rw[ak (cJ hj)] at e2
    let#[u',r',q]:=hl j y v' e1 e2 e3;refine#[u',r',?_];rcases q with q|⟨k,c',e,z'⟩
    .erw[.inl q]
    .rwa[.inr #[k,c',e,z'.sameBut hs ?_]]
     rintro rfl;erw[hj (AR hN e1 (I.ok.inj _ _ _ e hc▸hi))]
  .by_cases hcc:c'=c
   .subst hcc;exact#[_,hc']
   .let#[w2,z2]:=I.cell y c' e
    exact#[w2,z2.sameBut hs hcc]
  .let#[e,n,ne,nf,d]:=I.pin p hp
   refine#[(hs.2 p.1 ?_).trans e,n,ne,nf,d];intro q;rw[q,hoc] at e;have q':oc=p.2:=aH e;erw[d w' (by rw[<-q'];exact hocd)]
def rm{M:Model}{A:d9}{E:Value->aD->Prop}{i:Nat}{x:Str}{v:V}{u:Value}{Q:Unit->aD->Prop}(I:Inv X pZ σ H s)(hN:X.N.Nodup)(hi:X.N[i]?=ξ x)(hx:Loc X.env.scope x)(r:RelV v u)
  (h:∀s',Inv X pZ (σ.set i (ξ v)) H s'->Q () s') (hf:X.fn x=ζ\/X.env.scope.names.lookup x=ξ .local:=by first|exact .inl rfl|exact .inr rfl|assumption):wpAny M A (storeName X.env x u) Q E s:=
 xB I hN hi hx r (λs' I' _=>h s' I') hf
def Inv.Uk(I:Inv X pZ σ H s)(ho:s'.os=s.os)(u:Un (Hf X.stack) ch H H' s.heap s'.heap)(dQ:qa X.prog X.w H' s'.heap)(hg:qv s'.gens)
  (hch:∀b∈ch,(b∈X.ex\/X.s₀.heap.objs.size<=b)/\b≠X.env.locals/\(∀x c,X.env.cells.lookup x=ξ c->c≠b)/\∀p∈X.pn++pZ,p.1≠b):Inv X pZ σ H' s':=by
 let#[h',g',d',t',o']:=s';have e:o'=s.os:=ho;subst e;erw[I.call (g':=g') (t':=t') (d':=d') u dQ hg hch]
end
@[reducible]def XK:=Value->Option Addr->Hp->Prop
@[reducible]def St:=List (Option V)
@[reducible]def VK:=V->Hp->Prop
@[reducible]def TE:=St->Hp->VK->Prop
@[reducible]def TT:=St->Hp->(Bool->Hp->Prop)->Prop
@[reducible]def TA:=St->Hp->(List V->Hp->Prop)->Prop
structure Ends where
 nx:St->Hp->Prop
 rt:VK
 bk:St->Hp->Prop:=λ_ _=>False
 ct:St->Hp->Prop:=λ_ _=>False
@[reducible]def TS:=Ends->St->Hp->Prop
abbrev EP(X:Cx)(pZ:List (Addr×Obj))(σ:St)(Q:VK)(u:Value)(s':aD):Prop:=∃v H',Inv X pZ σ H' s'/\RelV v u/\Q v H'
abbrev TP(X:Cx)(pZ:List (Addr×Obj))(σ:St)(Q:Bool->Hp->Prop)(b:Bool)(s':aD):Prop:=∃H',Inv X pZ σ H' s'/\Q b H'
abbrev AP(X:Cx)(pZ:List (Addr×Obj))(σ:St)(Q:List V->Hp->Prop)(us:List Value)(s':aD):Prop:=∃vs H',Inv X pZ σ H' s'/\Vals vs us/\Q vs H'
abbrev SP(X:Cx)(pZ:List (Addr×Obj))(D:Ends)(f:Flow)(s':aD):Prop:=
 match f with
 |.next=>∃σ' H',Inv X pZ σ' H' s'/\D.nx σ' H'
 |.brk=>∃σ' H',Inv X pZ σ' H' s'/\D.bk σ' H'
 |.cont=>∃σ' H',Inv X pZ σ' H' s'/\D.ct σ' H'
 |.ret u=>∃v σ' H',Inv X pZ σ' H' s'/\RelV v u/\D.rt v H'
abbrev PE(X:Cx)(e:Expr)(t:TE):Prop:=
 ∀(pZ:List (Addr×Obj))(s:aD)(σ:St)(H:Hp)(Q:VK),Inv X pZ σ H s->t σ H Q->wpAny (bg X.prog X.w) X.A (eval e X.env) (EP X pZ σ Q) X.xe s
abbrev PT(X:Cx)(e:Expr)(t:TT):Prop:=
 ∀(pZ:List (Addr×Obj))(s:aD)(σ:St)(H:Hp)(Q:Bool->Hp->Prop),Inv X pZ σ H s->t σ H Q->wpAny (bg X.prog X.w) X.A (isTrue e X.env (eval e X.env)) (TP X pZ σ Q) X.xe s
abbrev PW(X:Cx)(e:Expr)(t:TT):Prop:=
 ∀(whole:Sem Value)(pZ:List (Addr×Obj))(s:aD)(σ:St)(H:Hp)(Q:Bool->Hp->Prop),Inv X pZ σ H s->t σ H Q->wpAny (bg X.prog X.w) X.A (isTrue e X.env whole) (TP X pZ σ Q) X.xe s
def PW.pt{X:Cx}{e:Expr}{t:TT}(h:PW X e t):PT X e t:=h _
abbrev PA(X:Cx)(es:List Expr)(t:TA):Prop:=
 ∀(pos:Pos)(pZ:List (Addr×Obj))(s:aD)(σ:St)(H:Hp)(Q:List V->Hp->Prop),Inv X pZ σ H s->t σ H Q->wpAny (bg X.prog X.w) X.A (spliced (fN pos (bB es X.env))) (AP X pZ σ Q) X.xe s
abbrev PS(X:Cx)(st:Stmt)(t:TS):Prop:=
 ∀(pZ:List (Addr×Obj))(s:aD)(σ:St)(H:Hp)(D:Ends),Inv X pZ σ H s->t D σ H->wpAny (bg X.prog X.w) X.A (exec st X.env) (SP X pZ D) X.xe s
abbrev uI(X:Cx)(st:List Stmt)(t:TS):Prop:=
 ∀(pZ:List (Addr×Obj))(s:aD)(σ:St)(H:Hp)(D:Ends),Inv X pZ σ H s->t D σ H->wpAny (bg X.prog X.w) X.A (execs st X.env) (SP X pZ D) X.xe s
def eJ{α:Type}{t:Sem α}{Q Q':α->aD->Prop}{M:Model}{A:d9}{E:Value->aD->Prop}{s:aD}(h:wpAny M A t Q E s)(hQ:∀a s,Q a s->Q' a s):wpAny M A t Q' E s:=fV h hQ λ_ _ x=>x
section
variable{X:Cx}
abbrev Yu(i:Nat):TE:=λσ H Q=>∃v,σ[i]?=ξ (ξ v)/\Q v H
abbrev tC(v:V):TE:=λ_ H Q=>Q v H
def Pq(hN:X.N[i]?=ξ x)(hv:Ui X.env.scope x)(hd:(x==("__debug__":Str))=ϑ:=by decide)(hcd:(x==("__classdict__":Str))=ϑ:=by decide):PE X (.Name x pos) (Yu i):=by
 k_ne;let#[v,e,h]:=h;let#[m,hn,hl]:=I.loc;let#[u,r,l]:=hl i x v hN e hv;have fin:EP X pZ σ Q u s:=#[v,H,I,r,h]
 rcases l with⟨hk,hm⟩|⟨hk,c,hc,hcell⟩
 .erw[wpAny_Name (LA I.ok.kind hk hn hm fin) hd]
 .rcases hk with hk|hk
  .erw[wpAny_Name (wpAny_loadName_cell I.ok.kind hk hc hcell fin) hd]
  .erw[wpAny_Name (wpAny_loadName_free I.ok.kind hk hc hcell fin hcd) hd]
def Pr{i j pos}:PE X (.Constant (.int i) j pos) (tC (.int i)):=λ_ _ _ H _ I h=>wpAny_Constant_int #[.int i,H,I.tok _,#[_,rfl],h]
def Ul{b j pos}:PE X (.Constant (.bool b) j pos) (tC (.bl b)):=λ_ _ _ H _ I h=>Constant_bool #[.bl b,H,I,rfl,h]
def Pt{j pos}:PE X (.Constant .none j pos) (tC .b7):=λ_ _ _ H _ I h=>Constant_none #[.b7,H,I,rfl,h]
def Pu{x j pos}:PE X (.Constant (.str x) j pos) (tC (.str x)):=λ_ _ _ H _ I h=>Calls.Constant_str #[.str x,H,I.tok _,#[_,rfl],h]
abbrev Gl(X:Cx)(x:Str):Prop:=X.env.kindOf x=ξ .globalImplicit
def rn{E:Value->aD->Prop}{pZ:List (Addr×Obj)}{s:aD}{σ:St}{H:Hp}{x:Str}{u:Value}{pos:Pos}{Q:Value->aD->Prop}(I:Inv X pZ σ H s)(hg:Gl X x)(hm:X.mg x=ξ u)(h:Q u s)
  (hd:(x==("__debug__":Str))=ϑ:=by decide):wpAny (bg X.prog X.w) X.A (eval (.Name x pos) X.env) Q E s:=
 wI I.ok.kind hg (Calls.loadGlobal_global (%[I.ok.glob|I.mod.glob.keeps I.bk]) hm h) hd
def oO{E:Value->aD->Prop}{pZ:List (Addr×Obj)}{s:aD}{σ:St}{H:Hp}{x:Str}{u:Value}{pos:Pos}{Q:Value->aD->Prop}(I:Inv X pZ σ H s)(hg:Gl X x)(hm:X.mg x=ψ)(hv:kB x=ξ u)(h:Q u s)
  (hn:x≠"__name__":=by decide) (hd:(x==("__debug__":Str))=ϑ:=by decide):wpAny (bg X.prog X.w) X.A (eval (.Name x pos) X.env) Q E s:=by
 let#[mb,h1,h2]:=I.mod.blt;erw[wI I.ok.kind hg (Calls.loadGlobal_builtin (by rw[I.ok.glob];exact I.mod.glob.keeps I.bk) hm (by rw[I.ok.blt];exact h1.keeps I.bk) ((h2 x hn).trans hv) h) hd]
def LM{x:Str}{v:V}{u:Value}{pos:Pos}(hg:Gl X x)(hm:X.mg x=ξ u)(r:RelV v u)(hd:(x==("__debug__":Str))=ϑ:=by decide):PE X (.Name x pos) (tC v):=
 λ_ _ _ H _ I h=>rn I hg hm #[v,H,I,r,h] hd
def LN(hg:Gl X x)(hm:X.mg x=ψ)(hv:kB x=ξ u)(r:RelV v u)(hn:x≠"__name__":=by decide)(hd:(x==("__debug__":Str))=ϑ:=by decide):PE X (.Name x pos) (tC v):=
 λ_ _ _ H _ I h=>oO I hg hm hv #[v,H,I,r,h] hn hd
variable{a b:Expr}{ta tb:TE}{pos:Pos}
variable{tA tB':TT}{rest:List Expr}
abbrev Yv(t u:TT):TT:=λσ H Q=>t σ H λc H1=>if c=ζ then u σ H1 Q else Q ϑ H1
abbrev tOr(t u:TT):TT:=λσ H Q=>t σ H λc H1=>if c=ζ then Q ζ H1 else u σ H1 Q
abbrev Yw(t:TT):TT:=λσ H Q=>t σ H λc H1=>Q (!c) H1
def LO(ha:PT X a tA):PW X (.BoolOp .And [a] pos) tA:=by
 intro wh pZ s σ H Q I h;rwa[isTrue_and (eJ (ha pZ s σ H Q I h) λc s1 e=>?_)];cases c with
 |true=>erw[isTrue_and_nil e]
 |false=>erw[e]
def Pw(ha:PT X a tA):PW X (.BoolOp .Or [a] pos) tA:=by
 intro wh pZ s σ H Q I h;rwa[isTrue_or (eJ (ha pZ s σ H Q I h) λc s1 e=>?_)];cases c with
 |false=>erw[isTrue_or_nil e]
 |true=>erw[e]
def Px(ha:PT X a tA)(hb:PW X (.BoolOp .And (b::rest) pos) tB'):PW X (.BoolOp .And (a::b::rest) pos) (Yv tA tB'):=by
 intro wh pZ s σ H Q I h;rwa[isTrue_and (eJ (ha pZ s σ H _ I h) λc s1 h9=>?_)];let#[H1,I1,q1]:=h9;cases c with
 |true=>erw[hb wh pZ s1 σ H1 Q I1 q1]
 |false=>exact#[H1,I1,q1]
def Um(ha:PT X a tA)(hb:PW X (.BoolOp .Or (b::rest) pos) tB'):PW X (.BoolOp .Or (a::b::rest) pos) (tOr tA tB'):=by
 intro wh pZ s σ H Q I h;rwa[isTrue_or (eJ (ha pZ s σ H _ I h) λc s1 h9=>?_)];let#[H1,I1,q1]:=h9;cases c with
 |true=>exact#[H1,I1,q1]
 |false=>erw[hb wh pZ s1 σ H1 Q I1 q1]
def Py(ha:PT X a tA):PT X (.UnaryOp .Not a pos) (Yw tA):=by
 k_ne;erw[isTrue_not (ha pZ s σ H (λc H1=>Q (!c) H1) I h)]
abbrev Uo(ta tb:TE):TE:=λσ H Q=>ta σ H λx H1=>∃c,x=.bl c/\if c=ζ then tb σ H1 Q else Q (.bl ϑ) H1
abbrev Yx(ta tb:TE):TE:=λσ H Q=>ta σ H λx H1=>∃c,x=.bl c/\if c=ζ then Q (.bl ζ) H1 else tb σ H1 Q
abbrev Up(ta:TE):TE:=λσ H Q=>ta σ H λx H1=>∃c,x=.bl c/\Q (.bl (!c)) H1
def Pz{op}(h:PE X a t):PE X (.BoolOp op [a] pos) t:=λpZ s σ H Q I hw=>BoolOp_one (h pZ s σ H Q I hw)
def PB(ha:PE X a ta)(hb:PE X (.BoolOp .And (b::rest) pos) tb):PE X (.BoolOp .And (a::b::rest) pos) (Uo ta tb):=by
 k_ne;rwa[BoolOp_and (eJ (ha pZ s σ H _ I h) λv s1 h9=>?_)];let#[x,H1,I1,r1,q1]:=h9;let#[c,rfl,q1]:=q1;cases r1;rwa[dq ?_];cases c with
 |true=>erw[hb pZ s1 σ H1 Q I1 q1]
 |false=>exact#[.bl ϑ,H1,I1,rfl,q1]
def Uq(ha:PE X a ta)(hb:PE X (.BoolOp .Or (b::rest) pos) tb):PE X (.BoolOp .Or (a::b::rest) pos) (Yx ta tb):=by
 k_ne;rwa[BoolOp_or (eJ (ha pZ s σ H _ I h) λv s1 h9=>?_)];let#[x,H1,I1,r1,q1]:=h9;let#[c,rfl,q1]:=q1;cases r1;rwa[dq ?_];cases c with
 |false=>erw[hb pZ s1 σ H1 Q I1 q1]
 |true=>exact#[.bl ζ,H1,I1,rfl,q1]
def PC(ha:PE X a ta):PE X (.UnaryOp .Not a pos) (Up ta):=by
 k_ne;rwa[UnaryOp_ (eJ (ha pZ s σ H _ I h) λv s1 h9=>?_)];let#[x,H1,I1,r1,q1]:=h9;let#[c,rfl,q1]:=q1;cases r1;erw[not_of (dq #[.bl (!c),H1,I1,rfl,q1])]
abbrev tIf(t:TT)(ta tb:TE):TE:=λσ H Q=>t σ H λc H1=>if c=ζ then ta σ H1 Q else tb σ H1 Q
def HI{c:Expr}(hc:PT X c tA)(ha:PE X a ta)(hb:PE X b tb):PE X (.IfExp c a b pos) (tIf tA ta tb):=by
 k_ne;rwa[wpAny_IfExp (eJ (hc pZ s σ H _ I h) λd s1 h9=>?_)];let#[H1,I1,q1]:=h9;cases d with
 |true=>erw[ha pZ s1 σ H1 Q I1 q1]
 |false=>erw[hb pZ s1 σ H1 Q I1 q1]
end
abbrev ij(K:aI)(H:Hp)(a:Addr)(xs:List V):Prop:=
 Rd H a (.lst xs) \/
  ∃(o:Obj)(its:Array Value)(n:Nat),K.lookup a=ξ o/\o.cls=.type "list"/\o.dict=ψ/\o.data=.seq its n/\its.size<=sizeLine/\Vals xs its.toList
abbrev lO(K:aI)(H:Hp)(a:Addr)(xs:List V):Prop:=
 Rd H a (.tup xs) \/
  ∃(o:Obj)(its:Array Value)(n:Nat),K.lookup a=ξ o/\o.cls=.type "tuple"/\o.data=.seq its n/\its.size<=sizeLine/\Vals xs its.toList
abbrev Yy:Value->Option V
 |.none=>ξ .b7
 |.bool b=>ξ (.bl b)
 |.int i _=>ξ (.int i)
 |.str x _=>ξ (.str x)
 |.bytes b _=>ξ (.Cb b)
 |.float b _=>ξ (.XO b)
 |.ref a=>ξ (.ref a)
 |.type n=>ξ (.ty n)
 |_=>ψ
def RelV.abs(r:RelV x u):Yy u=ξ x:=by
 cases x with
 |b7=>cases r;rfl
 |bl _=>cases r;rfl
 |int _=>let#[t,rfl]:=r;rfl
 |str _=>let#[t,rfl]:=r;rfl
 |Cb _=>let#[t,rfl]:=r;rfl
 |XO _=>let#[t,rfl]:=r;rfl
 |ref _=>cases r;rfl
 |ty _=>cases r;rfl
def RelV.inj{x y:V}{u:Value}(r:RelV x u)(q:RelV y u):x=y:=aH (r.abs.symm.trans q.abs)
def Vals.inj:∀{xs ys:List V}{us:List Value},Vals xs us->Vals ys us->xs=ys
 |_,_,_,.nil,.nil=>rfl
 |_,_,_,.cons r t,.cons r' t'=>by rw[r.inj r',Vals.inj t t']
section
variable{X:Cx}{pZ:List (Addr×Obj)}{σ:St}{H:Hp}{s:aD}{a:Addr}{xs ys:List V}
def ij.of{K:aI}(h:H a=ξ (.lst xs)):ij K H a xs:=.inl (.inl h)
def lO.of{K:aI}(h:H a=ξ (.tup xs)):lO K H a xs:=.inl (.inl h)
def Inv.list(I:Inv X pZ σ H s)(h:ij X.K H a xs):∃its:List Value,Vals xs its/\PlainL s.heap a its.toArray/\xs.length<=sizeLine:=by
 rcases h with h|⟨o,its,n,hk,hc,hd,hs,hz,r⟩
 .let#[z,its,n,r,e]:=h.ok I.dQ
  exact#[its,r,#[_,n,e,rfl,rfl,rfl],z]
 .refine#[its.toList,r,#[o,n,I.yT a o hk,hc,hd,~~~hs],?_]
  have e:=r.length;dsimp[qw] at e;omega
def Inv.tuple(I:Inv X pZ σ H s)(h:lO X.K H a xs):∃its:List Value,Vals xs its/\IsTup s.heap a its.toArray/\xs.length<=sizeLine:=by
 rcases h with h|⟨o,its,n,hk,hc,hs,hz,r⟩
 .let#[z,its,r,p]:=h.ok I.dQ
  exact#[its,r,p,z]
 .refine#[its.toList,r,#[o,I.yT a o hk,hc,n,~~~hs],?_]
  have e:=r.length;dsimp[qw] at e;omega
def Inv.rq(I:Inv X pZ σ H s)(h:ij X.K H a xs)(h':ij X.K H a ys):xs=ys:=by
 let#[its,r,#[o,n,e,_,_,d],_]:=I.list h;let#[its',r',#[o',n',e',_,_,d'],_]:=I.list h';rw[e] at e';cases e';rw[d] at d';injection d' with d1 _
 have:its=its':=by simpa using congrArg AA d1
 subst this;erw[r.inj r']
def Inv.xC(I:Inv X pZ σ H s)(h:lO X.K H a xs)(h':lO X.K H a ys):xs=ys:=by
 let#[its,r,#[o,e,_,n,d],_]:=I.tuple h;let#[its',r',#[o',e',_,n',d'],_]:=I.tuple h';rw[e] at e';cases e';rw[d] at d';injection d' with d1 _
 have:its=its':=by simpa using congrArg AA d1
 subst this;erw[r.inj r']
end
noncomputable abbrev Cx.wR(X:Cx)(E:Value->aD->Prop):Cx:={X with xe:=E}
@[reducible]def Cx.Ur(X:Cx):Cx:=X.wR λ_ _=>False
def Cx.Ok.wR{X:Cx}(ok:X.Ok)(E:Value->aD->Prop):(X.wR E).Ok:=
 #[ok.mod,ok.kind,ok.glob,ok.blt,ok.above,ok.inj,ok.has,ok.Uj,ok.hd,ok.frames,ok.XQ,ok.exf,ok.bs,ok.LK,ok.HH,ok.LL,ok.uz,ok.Po]
def Cx.Ok.oQ{X:Cx}{E:Value->aD->Prop}(ok:(X.wR E).Ok):X.Ok:=
 #[ok.mod,ok.kind,ok.glob,ok.blt,ok.above,ok.inj,ok.has,ok.Uj,ok.hd,ok.frames,ok.XQ,ok.exf,ok.bs,ok.LK,ok.HH,ok.LL,ok.uz,ok.Po]
section
variable{X:Cx}{pZ:List (Addr×Obj)}{σ:St}{H:Hp}{s:aD}{E:Value->aD->Prop}
def Inv.wR(I:Inv X pZ σ H s)(E:Value->aD->Prop):Inv (X.wR E) pZ σ H s:=#[I.ok.wR E,I.os,I.bare,I.base,I.loc,I.cell,I.free,I.qh,I.pin,I.dQ,I.len]
def Inv.oQ(I:Inv (X.wR E) pZ σ H s):Inv X pZ σ H s:=#[I.ok.oQ,I.os,I.bare,I.base,I.loc,I.cell,I.free,I.qh,I.pin,I.dQ,I.len]
def SP.oQ(h:SP (X.wR E) pZ D f s'):SP X pZ D f s':=by
 cases f with
 |next=>let#[σ',H',I,q]:=h;exact#[σ',H',I.oQ,q]
 |brk=>let#[σ',H',I,q]:=h;exact#[σ',H',I.oQ,q]
 |cont=>let#[σ',H',I,q]:=h;exact#[σ',H',I.oQ,q]
 |ret u=>let#[v,σ',H',I,r,q]:=h;exact#[v,σ',H',I.oQ,r,q]
def uI.Ur{st:List Stmt}{t:TS}(h:uI X.Ur st t):uI X st t:=λpZ s σ H D I hw=>
 fV (h pZ s σ H D (I.wR _) hw) (λ_ _ q=>q.oQ) λ_ _ z=>aV z
end
section
variable{X:Cx}{st:Stmt}{rest:List Stmt}{t u:TS}{e:Expr}{te:TE}{pos:Pos}
abbrev Us:TS:=λD σ H=>D.nx σ H
abbrev Yz(t u:TS):TS:=λD σ H=>t {D with nx:=u D} σ H
def LP:uI X [] Us:=λ_ _ σ H _ I h=>qM #[σ,H,I,h]
def HJ(h1:PS X st t)(h2:uI X rest u):uI X (st::rest) (Yz t u):=by
 intro pZ s σ H D I h;refine wpAny_execs_cons (eJ (h1 pZ s σ H {D with nx:=u D} I h) λf s1 q=>?_);cases f with
 |next=>
  let#[σ',H',I',q]:=q;erw[h2 pZ s1 σ' H' D I' q]
 |ret v=>erw[q]
 |brk=>erw[q]
 |cont=>erw[q]
def Inv.quiet{pZ:List (Addr×Obj)}{σ:St}{H:Hp}{s:aD}(I:Inv X pZ σ H s):interactive X.env=ϑ:=by simp[interactive,I.ok.kind]
abbrev Ut(te:TE):TS:=λD σ H=>te σ H λ_ H1=>D.nx σ H1
def LQ(he:PE X e te)(hs:fP e ψ pos.line X.env=pure ϑ:=by rfl):PS X (.Expr e pos) (Ut te):=by
 intro pZ s σ H D I h;rwa[wpAny_Expr_any (eJ (he pZ s σ H _ I h) λv s1 h9=>?_) I.quiet hs];let#[x,H1,I1,r1,q1]:=h9;exact#[σ,H1,I1,q1]
abbrev YA(te:TE):TS:=λD σ H=>te σ H D.rt
def PD(he:PE X e te):PS X (.Return (ξ e) pos) (YA te):=by
 intro pZ s σ H D I h;rwa[wpAny_Return_some (eJ (he pZ s σ H _ I h) λv s1 h9=>?_)];let#[x,H1,I1,r1,q1]:=h9;exact#[x,σ,H1,I1,r1,q1]
abbrev YB(c:TT)(t u:TS):TS:=λD σ H=>c σ H λb H1=>if b=ζ then t D σ H1 else u D σ H1
def Uu{c:Expr}{a b:List Stmt}{tc:TT}(hc:PT X c tc)(ha:uI X a t)(hb:uI X b u):PS X (.If c a b pos) (YB tc t u):=by
 intro pZ s σ H D I h;rwa[wpAny_If (eJ (hc pZ s σ H _ I h) λd s1 h9=>?_)];let#[H1,I1,q1]:=h9;cases d with
 |true=>erw[ha pZ s1 σ H1 D I1 q1]
 |false=>erw[hb pZ s1 σ H1 D I1 q1]
end
@[reducible]def TG:=V->St->Hp->(St->Hp->Prop)->Prop
@[reducible]def PF:=List V->St->Hp->(St->Hp->Prop)->Prop
abbrev PG(X:Cx)(target:Expr)(t:TG):Prop:=
 ∀(pZ:List (Addr×Obj))(s:aD)(σ:St)(H:Hp)(v:V)(u:Value)(Q:St->Hp->Prop),Inv X pZ σ H s->RelV v u->t v σ H Q ->
  wpAny (bg X.prog X.w) X.A (yC target X.env u) (λ_ s'=>∃σ' H',Inv X pZ σ' H' s'/\Q σ' H') X.xe s
abbrev XR(X:Cx)(ts:List Expr)(t:PF):Prop:=
 ∀(pZ:List (Addr×Obj))(s:aD)(σ:St)(H:Hp)(vs:List V)(us:List Value)(Q:St->Hp->Prop),Inv X pZ σ H s->Vals vs us->t vs σ H Q ->
  wpAny (bg X.prog X.w) X.A (assignInOrder ((va ts X.env).map (·.2)) us) (λ_ s'=>∃σ' H',Inv X pZ σ' H' s'/\Q σ' H') X.xe s
@[reducible]def HK:=V->V->V->Hp->(Hp->Prop)->Prop
abbrev PH(X:Cx)(t:HK):Prop:=
 ∀(pZ:List (Addr×Obj))(s:aD)(σ:St)(H:Hp)(o i v:V)(ov iv u:Value)(Q:Hp->Prop),Inv X pZ σ H s->RelV o ov->RelV i iv->RelV v u->t o i v H Q ->
  wpAny (bg X.prog X.w) X.A (setItem ov iv u) (λ_ s'=>∃H',Inv X pZ σ H' s'/\Q H') X.xe s
@[reducible]def Uv:=V->V->Hp->VK->Prop
abbrev PIp(X:Cx)(op:nj)(t:Uv):Prop:=
 ∀(pZ:List (Addr×Obj))(s:aD)(σ:St)(H:Hp)(x y:V)(v u:Value)(Q:VK),Inv X pZ σ H s->RelV x v->RelV y u->t x y H Q ->
  wpAny (bg X.prog X.w) X.A (iE op v u) (EP X pZ σ Q) X.xe s
section
variable{X:Cx}{pos:Pos}
abbrev xD(i:Nat):TG:=λv σ H Q=>Q (σ.set i (ξ v)) H
def rA{i:Nat}{x:Str}(hN:X.N.Nodup)(hi:X.N[i]?=ξ x)(hx:Loc X.env.scope x)(hf:X.fn x=ζ\/X.env.scope.names.lookup x=ξ .local:=by first|exact .inl rfl|exact .inr rfl|assumption):PG X (.Name x pos) (xD i):=by
 intro pZ s σ H v u Q I r h;erw[wJ (rm I hN hi hx r (λs' I'=>#[_,H,I',h]) hf)]
abbrev YC:PF:=λvs σ H Q=>vs=[]/\Q σ H
abbrev Uw(t:TG)(u:PF):PF:=λvs σ H Q=>∃v r,vs=v::r/\t v σ H λσ' H'=>u r σ' H' Q
def D7:XR X [] YC:=by
 intro pZ s σ H vs us Q I r h;let#[e,h]:=h;subst e;cases r;erw[assignInOrder_nil #[σ,H,I,h]]
def rB{e:Expr}{es:List Expr}{t:TG}{u:PF}(h1:PG X e t)(h2:XR X es u)
  (hs:(va (e::es) X.env).map (·.2)=yC e X.env::(va es X.env).map (·.2):=by rfl):XR X (e::es) (Uw t u):=by
 intro pZ s σ H vs us Q I r h;let#[v,vr,e1,h]:=h;subst e1;cases r with
 |cons r rr=>
  rw[hs]
  rwa[assignInOrder_cons (eJ (h1 pZ s σ H _ _ _ I r h) λ_ s1 h9=>?_)];let#[σ1,H1,I1,q1]:=h9;erw[h2 pZ s1 σ1 H1 _ _ Q I1 rr q1]
abbrev YD(K:aI)(n:Nat)(t:PF):TG:=λv σ H Q=>∃a xs,v=.ref a/\lO K H a xs/\xs.length=n/\t xs σ H Q
def HL{es:List Expr}{k:Nat}{t:PF}{n:Nat}(hc:X.calm=ζ)(h:XR X es t)
  (hn:(va es X.env).length=n:=by rfl) (hst:(va es X.env).findIdx? (·.1)=ψ:=by rfl):PG X (.Tuple es k pos) (YD X.K n t):=by
 intro pZ s σ H v u Q I r hw;let#[a,xs,e1,hq,hl,hw]:=hw;subst e1;cases r;let#[its,rv,ht,hz]:=I.tuple hq;rwa[assign_Tuple_tuple (I.ok.hd hc) ht (by simp[hn,<-hl,rv.length]) hst λh' hx=>?_]
 have I1:Inv X pZ σ H {s with heap:=h'}:=I.kept (t':=s.toks) λb o e=>hx b o (ba (aS e)) e
 exact h pZ _ σ H xs _ Q I1 (~~~rv) hw
abbrev Ux(te:TE)(g:TG):TS:=λD σ H=>te σ H λx H1=>g x σ H1 D.nx
def HM{i:Nat}{x:Str}{e:Expr}{te:TE}{pos':Pos}(hN:X.N.Nodup)(hi:X.N[i]?=ξ x)(hx:Loc X.env.scope x)(he:PE X e te)(hs:fP e (ξ (.Name x pos')) pos.line X.env=pure ϑ:=by rfl)(hf:X.fn x=ζ\/X.env.scope.names.lookup x=ξ .local:=by first|exact .inl rfl|exact .inr rfl|assumption):
  PS X (.Assign [.Name x pos'] e pos) (Ux te (xD i)):=by
 intro pZ s σ H D I h;rwa[wpAny_Assign_Name (eJ (he pZ s σ H _ I h) λv s1 h9=>?_) hs];let#[y,H1,I1,r1,q1]:=h9;erw[rm I1 hN hi hx r1 (λs2 I2=>#[_,H1,I2,q1]) hf]
abbrev YE(i:Nat)(te:TE)(ti:Uv):TS:=λD σ H=>∃x,σ[i]?=ξ (ξ x)/\te σ H λy H1=>ti x y H1 λz H2=>D.nx (σ.set i (ξ z)) H2
def PJ{i:Nat}{x:Str}{e:Expr}{te:TE}{op:nj}{ti:Uv}{pos':Pos}(hN:X.N.Nodup)(hi:X.N[i]?=ξ x)(hx:Loc X.env.scope x)(he:PE X e te)(ho:PIp X op ti)(hf:X.fn x=ζ\/X.env.scope.names.lookup x=ξ .local:=by first|exact .inl rfl|exact .inr rfl|assumption):
  PS X (.AugAssign (.Name x pos') op e pos) (YE i te ti):=by
 intro pZ s σ H D I h;let#[v,e1,h]:=h;let#[m,hn,hl]:=I.loc;have vis:Ui X.env.scope x:=by rcases hx with k|k;erw[.inl k];erw[.inr (.inl k)]
 let#[u,r,l]:=hl i x v hi e1 vis;refine wpAny_AugAssign_Name ?_;have go:wpAny (bg X.prog X.w) X.A (eval e X.env) (λw s₂=>wpAny (bg X.prog X.w) X.A (iE op u w) (λr s₃=>wpAny (bg X.prog X.w) X.A (storeName X.env x r) (λ_=>SP X pZ D .next) X.xe s₃) X.xe s₂) X.xe s:=by
  rwa[eJ (he pZ s σ H _ I h) λw s1 h9=>?_]
  let#[y,H1,I1,r1,q1]:=h9;rwa[eJ (ho pZ s1 σ H1 v y u w _ I1 r r1 q1) λz s2 h9=>?_]
  let#[zv,H2,I2,r2,q2]:=h9;erw[rm I2 hN hi hx r2 (λs3 I3=>#[_,H2,I3,q2]) hf]
 rcases l with⟨hk,hm⟩|⟨hk,c,hc,hcell⟩
 .erw[LA I.ok.kind hk hn hm go]
 .rcases hk with hk|hk
  .erw[wpAny_loadName_cell I.ok.kind hk hc hcell go]
  .rcases hx with k|k
   .have:X.env.scope.names.lookup x=ξ .free:=hk
    rw[k] at this;cases this
   .have:X.env.scope.names.lookup x=ξ .free:=hk
    rw[k] at this;cases this
abbrev Uy(to ti te:TE)(tget:V->V->Hp->VK->Prop)(tip:Uv)(tset:HK):TS:=λD σ H=>to σ H λo H1=>ti σ H1 λi H2=>tget o i H2 λx H3=>te σ H3 λy H4=>tip x y H4 λz H5=>tset o i z H5 λH6=>D.nx σ H6
abbrev Uz(X:Cx)(t:V->V->Hp->VK->Prop):Prop:=
 ∀(pZ:List (Addr×Obj))(s:aD)(σ:St)(H:Hp)(o i:V)(ov iv:Value)(Q:VK),Inv X pZ σ H s->RelV o ov->RelV i iv->t o i H Q ->
  wpAny (bg X.prog X.w) X.A (oH ov iv) (EP X pZ σ Q) X.xe s
def LR{o i e:Expr}{to ti te:TE}{tget:V->V->Hp->VK->Prop}{tip:Uv}{tset:HK}{op:nj}{tpos:Pos}(ho:PE X o to)(hi:PE X i ti)(hg:Uz X tget)(he:PE X e te)(hp:PIp X op tip)(hs:PH X tset)
  (ha:∀ov iv new,augStore i ov iv new=(do holding [new,ov,iv] (setItem ov iv new);release [new,ov,iv] [];pure .next):=by intros;rfl):PS X (.AugAssign (.Subscript o i tpos) op e pos) (Uy to ti te tget tip tset):=by
 intro pZ s σ H D I h;rwa[wpAny_AugAssign_SubscriptAny (eJ (ho pZ s σ H _ I h) λov s1 h9=>?_) ha];let#[x1,H1,I1,r1,q1]:=h9;rwa[eJ (hi pZ s1 σ H1 _ I1 q1) λiv s2 h9=>?_]
 let#[x2,H2,I2,r2,q2]:=h9;rwa[eJ (hg pZ s2 σ H2 x1 x2 ov iv _ I2 r1 r2 q2) λold s3 h9=>?_]
 let#[x3,H3,I3,r3,q3]:=h9;rwa[eJ (he pZ s3 σ H3 _ I3 q3) λv s4 h9=>?_]
 let#[x4,H4,I4,r4,q4]:=h9;rwa[eJ (hp pZ s4 σ H4 x3 x4 old v _ I4 r3 r4 q4) λnew s5 h9=>?_]
 let#[x5,H5,I5,r5,q5]:=h9;rwa[eJ (hs pZ s5 σ H5 x1 x2 x5 ov iv new _ I5 r1 r2 r5 q5) λ_ s6 h9=>?_]
 let#[H6,I6,q6]:=h9;exact#[σ,H6,I6,q6]
end
section
variable{X:Cx}{pos:Pos}
abbrev PK(c:TT)(tb:TS):TS:=λD σ H=>∃W:Nat->St->Hp->Prop,(∃m,W m σ H)/\∀m σ H,W m σ H ->
 c σ H λb H1=>if b=ζ then ∃N:St->Hp->Prop,(∀σ' H',N σ' H'->∃m',m'<m/\W m' σ' H')/\tb {D with nx:=N,ct:=N,bk:=D.nx} σ H1 else D.nx σ H1
def HN{c:Expr}{body:List Stmt}{tc:TT}{tb:TS}(hp:PassesOwn (bg X.prog X.w) X.A X.env X.xe)(hc:PT X c tc)(hb:uI X body tb):PS X (.While c body [] pos) (PK tc tb):=by
 intro pZ s σ H D I h;let#[W,#[m0,w0],turn]:=h;rwa[wpAny_While (codeAny_whileLoop (λn s'=>∃σ' H',Inv X pZ σ' H' s'/\W n σ' H') ?_ m0 #[σ,H,I,w0])];rintro n s1 ⟨σ1,H1,I1,w1⟩;rwa[ig hp (eJ (hc pZ s1 σ1 H1 _ I1 (turn n σ1 H1 w1)) λb s2 h9=>?_)];let#[H2,I2,q2]:=h9;cases b with
 |true=>
  let#[N,hN,q2]:=q2;rw[if_pos rfl]
  rwa[ig hp (eJ (hb pZ s2 σ1 H2 _ I2 q2) λf s3 q3=>?_)];cases f with
  |next=>
   let#[σ3,H3,I3,n3]:=q3;let#[m',hm,w3]:=hN σ3 H3 n3;exact#[m',hm,σ3,H3,I3,w3]
  |cont=>
   let#[σ3,H3,I3,n3]:=q3;let#[m',hm,w3]:=hN σ3 H3 n3;exact#[m',hm,σ3,H3,I3,w3]
  |brk=>erw[q3]
  |ret v=>erw[q3]
 |false=>
  rw[if_neg aX]
  erw[qM #[σ1,H2,I2,q2]]
end
structure It where
 go:Nat->Hp->Prop
 UA:Nat->Hp->V->Hp->Prop
 stop:Nat->Hp->Prop
abbrev uA(X:Cx)(pZ:List (Addr×Obj))(H:Hp)(b:Addr):Prop:=
 H b=ψ/\b≠X.env.locals/\b∉X.fs/\(b∈X.ex\/X.s₀.heap.objs.size<=b)/\(∀x c,X.env.cells.lookup x=ξ c->c≠b)/\∀p∈X.pn++pZ,p.1≠b
def Inv.AS{X:Cx}{pZ:List (Addr×Obj)}{σ:St}{H H':Hp}{s:aD}{b:Addr}(I:Inv X pZ σ H s)(hb:s.heap.objs.size<=b)(hn:H' b=ψ):uA X pZ H' b:=by
 refine#[hn,dw (av I.lt hb),I.Yt hb,.inr (aF I.sz hb),λx c e z=>?_,λp hp z=>?_]
 .let#[v,q]:=I.cell x c e
  erw[absurd (av q.lt (by rw[z];exact hb)) (dU _)]
 .erw[absurd (av (aS (I.pin p hp).1) (by rw[z];exact hb)) (dU _)]
structure Turn(P:bO)(w:cC)(K:aI)(tg:Expr)(J:It)(fp:List Addr)(it:Addr)(tn:Nat->Heap->Prop):Prop where
 mem:it∈fp
 obj:∀i h,tn i h->∀b∈fp,∃o,h.get? b=ξ o/\∀v,o.data≠.cell v
 keep:∀i h h',tn i h->(∀b∈fp,∀o,h.get? b=ξ o->h'.get? b=ξ o)->tn i h'
 item:∀(X:Cx),X.prog=P->X.w=w->X.K=K->X.calm=ζ->∀(i:Nat)(pZ:List (Addr×Obj))(s:aD)(σ:St)(H:Hp)(E:Value->aD->Prop),Inv X pZ σ H s->(∀b∈fp,uA X pZ H b)->tn i s.heap->J.go i H ->
  wpAny (bg P w) X.A (yD (.ref it)) (λr s1=>∃u,r=ξ u /\
   wpAny (bg P w) X.A (qN tg (.ref it) u) (λ_ s2=>∃x H',Inv X pZ σ H' s2/\RelV x u/\J.UA i H x H'/\tn (i+1) s2.heap/\∀b∈fp,H' b=ψ) E s1) E s
 done:∀(X:Cx),X.prog=P->X.w=w->X.K=K->X.calm=ζ->∀(i:Nat)(pZ:List (Addr×Obj))(s:aD)(σ:St)(H:Hp)(E:Value->aD->Prop),Inv X pZ σ H s->(∀b∈fp,uA X pZ H b)->tn i s.heap->J.stop i H ->
  wpAny (bg P w) X.A (yD (.ref it)) (λr s1=>r=ψ/\Inv X pZ σ H s1) E s
 self:∀(A:d9)(i:Nat)(s:aD)(Q:Value->aD->Prop)(E:Value->aD->Prop),tn i s.heap->Q (.ref it) s->wpAny (bg P w) A (pyIter (.ref it)) Q E s
@[reducible]def TI:=St->Hp->(It->Hp->Prop)->Prop
abbrev YF(X:Cx)(pZ:List (Addr×Obj))(σ:St)(tg:Expr)(R:It->Hp->Prop)(itv:Value)(s2:aD):Prop:=
 ∃(it:Addr)(fp:List Addr)(tn:Nat->Heap->Prop)(J:It)(H':Hp),itv=.ref it/\Inv X pZ σ H' s2/\Turn X.prog X.w X.K tg J fp it tn/\tn 0 s2.heap/\(∀b∈fp,uA X pZ H' b)/\R J H'
abbrev PI(X:Cx)(tg iter:Expr)(wi:TI):Prop:=
 ∀(pZ:List (Addr×Obj))(s:aD)(σ:St)(H:Hp)(R:It->Hp->Prop),Inv X pZ σ H s->wi σ H R ->
  wpAny (bg X.prog X.w) X.A (eval iter X.env) (λv s1=>wpAny (bg X.prog X.w) X.A (pyIter v) (YF X pZ σ tg R) X.xe s1) X.xe s
def xE(ho:s.heap.get? it=ξ o)(hc:o.cls=.type n)(hd:o.data=.fields vs)
    (hn:["enumerate","zip","dict_itemiterator","dict_reverseitemiterator","odict_iterator","itertools.zip_longest","itertools.pairwise"].contains n=ϑ) (hQ:Q () s):wpAny M A (qN tg (.ref it) u) Q E s:=by
  unfold qN;cases tg<;>first
    |exact aA hQ
    | (cases u<;>first
        |exact aA hQ
        | (refine af (wpAny_load ho ?_)
           rw[hc,hd]
           show wpAny M A (if (["enumerate","zip","dict_itemiterator","dict_reverseitemiterator","odict_iterator","itertools.zip_longest","itertools.pairwise"].contains n&&vs[0]?==ξ (sF _))=ζ then _ else _) Q E s
           rw[if_neg (by intro h;rw[hn,Bool.false_and] at h;cases h)]
           erw[aA hQ]))
abbrev YG(K:aI)(a:Addr):It:=
 #[λi H=>∃xs x,ij K H a xs/\xs[i]?=ξ x,λi H x H'=>H'=H/\∀xs,ij K H a xs->xs[i]?=ξ x,λi H=>∃xs,ij K H a xs/\xs.length<=i]
abbrev YH(K:aI)(a:Addr):It:=
 #[λi H=>∃xs x,lO K H a xs/\xs[i]?=ξ x,λi H x H'=>H'=H/\∀xs,lO K H a xs->xs[i]?=ξ x,λi H=>∃xs,lO K H a xs/\xs.length<=i]
abbrev XS(lo:Int)(n:Nat):It:=#[λi _=>i<n,λi H x H'=>H'=H/\x=.int (lo+i),λi _=>n<=i]
def FA{P:bO}{w:cC}{K:aI}{tg:Expr}(a it:Addr):Turn P w K tg (YG K a) [it] it (λi h=>h.IsListIter it a i) where
 mem:=by simp
 obj:=λi h st b hb=>by
  have e:b=it:=by simpa using hb
  subst e;let#[o,e,c,d]:=st;exact#[o,e,λv z=>by rw[d] at z;cases z]
 keep:=λi h h' st k=>st.at λo e=>k it (#v[]) o e
 item:=by
  w_up;subst hP hw hK;let#[xs,x,hq,hx]:=hg;let#[its,rv,p,hz]:=I.list hq;let#[u,hu,ru]:=rv.get hx;let#[f0,f1,f2,f3,f4,f5]:=hf it (#v[]);refine Hl st p.isList (x:=u) (~~~hu) λh' st' sb=>?_
  have I1:Inv X pZ σ H {s with heap:=h'}:=I.turned (t':=s.toks) (λb o hb e=>(sb.2 b hb).trans e) f0 f1 f3 f4 f5;let#[o,e,c,d]:=id st';exact#[u,rfl,xE (s:={s with heap:=h'}) e c d ⋯ #[x,H,I1,ru,#[rfl,λys hy=>%[I.rq hy hq|hx]],st',λb hb=>(hf b hb).1]]
 done:=by
  w_up;subst hP hw hK;let#[xs,hq,hx]:=hg;let#[its,rv,p,hz]:=I.list hq;let#[f0,f1,f2,f3,f4,f5]:=hf it (#v[]);have hl:=rv.length;erw[Lf (I.ok.hd hc) st p.isList ((·)) λh' eb=>#[rfl,I.turned (t':=s.toks) (λb o hb e=>eb b o hb e) f0 f1 f3 f4 f5]]
 self:=λ_ _ _ _ _ st h=>wpAny_pyIter_listiter st h
def Cy{P:bO}{w:cC}{K:aI}{tg:Expr}(a it:Addr):Turn P w K tg (YH K a) [it] it (λi h=>h.IsTupleIter it a i) where
 mem:=by simp
 obj:=λi h st b hb=>by
  have e:b=it:=by simpa using hb
  subst e;let#[o,e,c,d]:=st;exact#[o,e,λv z=>by rw[d] at z;cases z]
 keep:=λi h h' st k=>st.at λo e=>k it (#v[]) o e
 item:=by
  w_up;subst hP hw hK;let#[xs,x,hq,hx]:=hg;let#[its,rv,p,hz]:=I.tuple hq;let#[u,hu,ru]:=rv.get hx;let#[f0,f1,f2,f3,f4,f5]:=hf it (#v[]);refine wpAny_pyNext_tuple_item st (show s.heap.IsTuple a its.toArray from p) (x:=u) (~~~hu) λh' st' sb=>?_
  have I1:Inv X pZ σ H {s with heap:=h'}:=I.turned (t':=s.toks) (λb o hb e=>(sb.2 b hb).trans e) f0 f1 f3 f4 f5;let#[o,e,c,d]:=id st';exact#[u,rfl,xE (s:={s with heap:=h'}) e c d ⋯ #[x,H,I1,ru,#[rfl,λys hy=>%[I.xC hy hq|hx]],st',λb hb=>(hf b hb).1]]
 done:=by
  w_up;subst hP hw hK;let#[xs,hq,hx]:=hg;let#[its,rv,p,hz]:=I.tuple hq;let#[f0,f1,f2,f3,f4,f5]:=hf it (#v[]);have hl:=rv.length;erw[wpAny_pyNext_tuple_end (I.ok.hd hc) st (show s.heap.IsTuple a its.toArray from p) ((·)) λh' eb=>#[rfl,I.turned (t':=s.toks) (λb o hb e=>eb b o hb e) f0 f1 f3 f4 f5]]
 self:=λ_ _ _ _ _ st h=>wpAny_pyIter_tupleiter st h
def Cz{P:bO}{w:cC}{K:aI}{tg:Expr}(it:Addr)(lo:Int)(n:Nat):Turn P w K tg (XS lo n) [it] it (λi h=>IsRangeIter h it (lo+(i:Nat)*1) ((n:Int)-(i:Nat)) 1) where
 mem:=by simp
 obj:=λi h st b hb=>by
  have e:b=it:=by simpa using hb
  subst e;exact#[_,st,λv z=>by
   have z':Data.fields _=Data.cell v:=z;cases z']
 keep:=λi h h' st k=>k it (#v[]) _ st
 item:=by
  w_up;subst hP hw hK;let#[f0,f1,f2,f3,f4,f5]:=hf it (#v[]);have W:=Walks.range (prog:=X.prog) (w:=X.w) (I.ok.hd hc) it lo 1 n;rwa[W.item i s _ _ hg st λv h' tk hv st' kk=>?_]
  let#[t,rfl]:=hv;have I1:Inv X pZ σ H {s with heap:=h',toks:=tk}:=I.turned (λb o hb e=>kk b o (~~~hb) e) f0 f1 f3 f4 f5;refine#[_,rfl,xE (s:={s with heap:=h',toks:=tk}) (n:="range_iterator") st' rfl rfl ⋯ #[.int (lo+i),H,I1,#[t,?_],#[rfl,rfl],st',λb hb=>(hf b hb).1]];rw[Int.mul_one]
 done:=by
  w_up;subst hP hw hK;let#[f0,f1,f2,f3,f4,f5]:=hf it (#v[]);erw[wpAny_pyNext_range_end (I.ok.hd hc) st (by have:n<=i:=hg;omega) λh' eb=>#[rfl,I.turned (t':=s.toks) (λb o hb e=>eb b o hb e) f0 f1 f3 f4 f5]]
 self:=λ_ _ _ _ _ st h=>wpAny_pyIter_rangeiter st h
section
variable{X:Cx}{tg:Expr}
def HP{pZ:List (Addr×Obj)}{σ:St}{H:Hp}{s:aD}{R:It->Hp->Prop}{E:Value->aD->Prop}{lo hi:Int}{t u v:Tok}{tk:Nat}(I:Inv X pZ σ H s)(h1:-(2^62)<=lo)(h2:lo<2^62)(h3:-(2^62)<=hi)(h4:hi<2^62)
  (q:R (XS lo (hi-lo).toNat) H):wpAny (bg X.prog X.w) X.A (pyIter (.ref s.heap.objs.size)) (YF X pZ σ tg R) E {s with heap:=s.heap.push {cls:=.type "range",data:=.fields (List.toArray [.int lo t,.int hi u,.int 1 v])},toks:=tk}:=by
 rwa[wpAny_pyIter_range (IsRange.new ..) (small_one h1 h2 h3 h4) ?_];have I1:Inv X pZ σ H {s with heap:=s.heap.push {cls:=.type "range",data:=.fields (List.toArray [.int lo t,.int hi u,.int 1 v])},toks:=tk}:=I.kept λb o e=>aJ _ e
 refine#[(s.heap.push {cls:=.type "range",data:=.fields (List.toArray [.int lo t,.int hi u,.int 1 v])}).objs.size,[(s.heap.push {cls:=.type "range",data:=.fields (List.toArray [.int lo t,.int hi u,.int 1 v])}).objs.size],_,_,H,rfl,
  I1.kept (t':=tk) λb o e=>aJ _ e,Cz _ lo (hi-lo).toNat,?_,λb hb=>?_,q]
 .have e1:lo+((0:Nat):Int)*1=lo:=by simp
  have e2:(((hi-lo).toNat:Nat):Int)-((0:Nat):Int)=Builtin.Range.rangeSize lo hi 1:=by rw[rangeSize_one];split<;>omega
  show IsRangeIter _ _ (lo+((0:Nat):Int)*1) ((((hi-lo).toNat:Nat):Int)-((0:Nat):Int)) 1
  rw[e1,e2]
  erw[aZ _ rfl]
 .have e:b=(s.heap.push {cls:=.type "range",data:=.fields (List.toArray [.int lo t,.int hi u,.int 1 v])}).objs.size:=by simpa using hb
  subst e;erw[I1.AS (aq _) (I1.dQ.fresh (aq _))]
abbrev UB(ta:TA):TI:=λσ H R=>ta σ H λvs H1=>∃j:Int,vs=[.int j]/\-(2^62)<=j/\j<2^62/\R (XS 0 j.toNat) H1
def FC{a:Expr}{ta:TA}{p pos:Pos}(hg:Gl X "range")(hm:X.mg "range"=ψ)(ha:PA X [a] ta)(hs:bB [a] X.env=[(ϑ,eval a X.env)]:=by rfl):PI X tg (.Call (.Name "range" p) [a] [] pos) (UB ta):=by
 intro pZ s σ H R I h;rwa[Call_ (oO I hg hm boot_range (fW (eJ (ha pos pZ s σ H _ I h) λus s1 h9=>?_) hs rfl))];let#[vs,H1,I1,r1,q1]:=h9;let#[j,e,q1,q2,q]:=q1;subst e;cases r1 with
 |cons r rr=>
  cases rr;let#[t,rfl]:=r;exact call_range_1 (HP I1 ∅ ∅ q1 q2 (~~~q))
abbrev YI(wi:TI)(g:TG)(tb:TS):TS:=λD σ H=>wi σ H λJ H1=>∃W:Nat->Nat->St->Hp->Prop,(∃m,W 0 m σ H1)/\∀i m σ H,W i m σ H ->
 (J.stop i H/\D.nx σ H)\/(J.go i H/\∃N:St->Hp->Prop,(∀σ' H',N σ' H'->∃m',m'<m/\W (i+1) m' σ' H')/\∀x H',J.UA i H x H'->g x σ H' λσ2 H2=>tb {D with nx:=N,ct:=N,bk:=D.nx} σ2 H2)
abbrev sM(fp:List Addr)(h:Heap):List (Addr×Obj):=fp.filterMap λb=>(h.get? b).map λo=>(b,o)
def nA{fp:List Addr}{h:Heap}{b:Addr}{o:Obj}(hb:b∈fp)(e:h.get? b=ξ o):(b,o)∈sM fp h:=lW.mpr #[b,hb,by rw[e];rfl]
def FD(hp:p∈sM fp h):p.1∈fp/\h.get? p.1=ξ p.2:=by
 let#[b,hb,e]:=lW.mp hp;cases q:h.get? b with
 |none=>rw[q] at e;cases e
 |some o=>
  rw[q] at e;have e':(b,o)=p:=aH e;subst e';exact#[hb,q]
def Inv.pinned{pZ:List (Addr×Obj)}{σ:St}{H:Hp}{s:aD}{fp:List Addr}(I:Inv X pZ σ H s)(hf:∀b∈fp,uA X pZ H b)(ho:∀b∈fp,∃o,s.heap.get? b=ξ o/\∀v,o.data≠.cell v):Inv X (pZ++sM fp s.heap) σ H s:=
 I.D6 λp hp=>(aL.mp hp).elim (λz=>I.pin p (bf _ z)) λz=>by
  let#[hb,e]:=FD z;let#[f0,f1,f2,_]:=hf p.1 hb;let#[o,e',d]:=ho p.1 hb;rw[e] at e';cases e';exact#[e,f0,f1,f2,d]
def Inv.rC{pZ pl:List (Addr×Obj)}{σ:St}{H:Hp}{s:aD}(I:Inv X (pZ++pl) σ H s):Inv X pZ σ H s:=I.D6 λp hp=>I.pin p (bf _ (bN _ hp))
def PM{iter:Expr}{body:List Stmt}{wi:TI}{g:TG}{tb:TS}{pos:Pos}(hp:PassesOwn (bg X.prog X.w) X.A X.env X.xe)(hc:X.calm=ζ)(hi:PI X tg iter wi)(hg:PG X tg g)(hb:uI X body tb)
  (hs:∀x,foldedSetIterable iter X.env x=pure x:=by intro _;rfl):PS X (.For tg iter body [] pos) (YI wi g tb):=by
 intro pZ s σ H D I h;rwa[wpAny_For (eJ (hi pZ s σ H _ I h) λv s1 h1=>eJ h1 λitv s2 h2=>?_) hs];let#[it,fp,tn,J,H2,e,I2,T,st2,f2,W,#[m0,w0],turn]:=h2;subst e;have stat:∀{H':Hp},(∀b∈fp,H' b=ψ)->∀b∈fp,uA X pZ H' b:=λhn b hb=>#[hn b hb,(f2 b hb).2]
 rwa[codeAny_forLoop_any (λn s'=>∃i σ' H',Inv X pZ σ' H' s'/\tn i s'.heap/\(∀b∈fp,H' b=ψ)/\W i n σ' H') ?_ m0 #[0,σ,H2,I2,st2,λb hb=>(f2 b hb).1,w0]];rintro n s3 ⟨i,σ3,H3,I3,st3,fr3,w3⟩;rcases turn i n σ3 H3 w3 with⟨stop,qn⟩|⟨go,N,hN,step⟩
 .rwa[ig hp (eJ (T.done X rfl rfl rfl hc i pZ s3 σ3 H3 X.xe I3 (stat fr3) st3 stop) λr s4 h9=>?_)]
  let#[hr,I4]:=h9;subst hr;erw[qM #[σ3,H3,I4,qn]]
 .rwa[ig hp (eJ (T.item X rfl rfl rfl hc i pZ s3 σ3 H3 X.xe I3 (stat fr3) st3 go) λr s4 h9=>?_)]
  let#[u,hr,h4]:=h9;subst hr;refine ig hp (eJ h4 λ_ s5 h9=>?_);let#[x,H5,I5,r5,y5,st5,fr5]:=h9;have I5':=I5.pinned (stat fr5) (T.obj _ _ st5);refine ig hp (eJ (hg _ s5 σ3 H5 x u _ I5' r5 (step x H5 y5)) λ_ s6 h9=>?_);let#[σ6,H6,I6,q6]:=h9;refine ig hp (eJ (hb _ s6 σ6 H6 _ I6 q6) λf s7 q7=>?_);have again:∀{σ7:St}{H7:Hp},Inv X (pZ++sM fp s5.heap) σ7 H7 s7->N σ7 H7->∃m,m<n/\∃i σ' H',Inv X pZ σ' H' s7/\tn i s7.heap/\(∀b∈fp,H' b=ψ)/\W i m σ' H':=λ{σ7 H7}I7 n7=>by
   let#[m',hm,w7]:=hN σ7 H7 n7;refine#[m',hm,i+1,σ7,H7,I7.rC,T.keep _ _ _ st5 λb hb o e=>(I7.pin (b,o) (bf _ (bf _ (nA hb e)))).1,λb hb=>?_,w7];let#[o,e,d]:=T.obj _ _ st5 b hb;exact(I7.pin (b,o) (bf _ (bf _ (nA hb e)))).2.1
  cases f with
  |next=>let#[σ7,H7,I7,n7]:=q7;erw[again I7 n7]
  |cont=>let#[σ7,H7,I7,n7]:=q7;erw[again I7 n7]
  |brk=>let#[σ7,H7,I7,q7]:=q7;exact#[σ7,H7,I7.rC,q7]
  |ret v=>let#[x7,σ7,H7,I7,r7,q7]:=q7;exact#[x7,σ7,H7,I7.rC,r7,q7]
end
@[reducible]def R2:=V->V->Hp->VK->Prop
abbrev iq(X:Cx)(f:Value->Value->Sem Value)(r:R2):Prop:=
 ∀(pZ:List (Addr×Obj))(s:aD)(σ:St)(H:Hp)(x y:V)(v u:Value)(Q:VK),Inv X pZ σ H s->RelV x v->RelV y u->r x y H Q ->
  wpAny (bg X.prog X.w) X.A (f v u) (EP X pZ σ Q) X.xe s
abbrev YJ(X:Cx)(f:Value->Sem Value)(r:V->Hp->VK->Prop):Prop:=
 ∀(pZ:List (Addr×Obj))(s:aD)(σ:St)(H:Hp)(x:V)(v:Value)(Q:VK),Inv X pZ σ H s->RelV x v->r x H Q ->
  wpAny (bg X.prog X.w) X.A (f v) (EP X pZ σ Q) X.xe s
abbrev iI(X:Cx)(f:Value)(r:List V->Hp->VK->Prop):Prop:=
 ∀(pZ:List (Addr×Obj))(s:aD)(σ:St)(H:Hp)(xs:List V)(us:List Value)(Q:VK),Inv X pZ σ H s->Vals xs us->r xs H Q ->
  wpAny (bg X.prog X.w) X.A (call f us) (EP X pZ σ Q) X.xe s
abbrev YK(X:Cx)(r:V->Hp->(Bool->Hp->Prop)->Prop):Prop:=
 ∀(pZ:List (Addr×Obj))(s:aD)(σ:St)(H:Hp)(x:V)(v:Value)(Q:Bool->Hp->Prop),Inv X pZ σ H s->RelV x v->r x H Q ->
  wpAny (bg X.prog X.w) X.A (truthy v) (TP X pZ σ Q) X.xe s
abbrev XT(r:R2)(ta tb:TE):TE:=λσ H Q=>ta σ H λx H1=>tb σ H1 λy H2=>r x y H2 Q
abbrev tUn(r:V->Hp->VK->Prop)(ta:TE):TE:=λσ H Q=>ta σ H λx H1=>r x H1 Q
abbrev rI(C:Int->Int->Prop)(g:Int->Int->V):R2:=λx y H Q=>∃i j,x=.int i/\y=.int j/\C i j/\Q (g i j) H
abbrev FE(g:Int->Int->V):R2:=λx y H Q=>∃i j,x=.int i/\y=.int j/\Q (g i j) H
abbrev rU(g:Int->V):V->Hp->VK->Prop:=λx H Q=>∃i,x=.int i/\Q (g i) H
section
variable{X:Cx}{a b c:Expr}{ta tb tc:TE}{pos:Pos}
def PN(ha:PE X a ta)(hb:PE X b tb){pZ:List (Addr×Obj)}{s:aD}{σ:St}{H:Hp}{R:V->V->Hp->Prop}(I:Inv X pZ σ H s)
  (h:ta σ H λx H1=>tb σ H1 λy H2=>R x y H2){Q:Value->aD->Prop}{f:Value->Value->Sem Value}
  (hf:∀v u s2 x y H2,Inv X pZ σ H2 s2->RelV x v->RelV y u->R x y H2->wpAny (bg X.prog X.w) X.A (f v u) Q X.xe s2):
  wpAny (bg X.prog X.w) X.A (eval a X.env) (λv s₁=>wpAny (bg X.prog X.w) X.A (eval b X.env) (λu s₂=>wpAny (bg X.prog X.w) X.A (f v u) Q X.xe s₂) X.xe s₁) X.xe s:=by
 rwa[eJ (ha pZ s σ H _ I h) λv s1 h9=>?_]
 let#[x,H1,I1,r1,q1]:=h9;rwa[eJ (hb pZ s1 σ H1 _ I1 q1) λu s2 h9=>?_]
 let#[y,H2,I2,r2,q2]:=h9;erw[hf v u s2 x y H2 I2 r1 r2 q2]
def UC{op:nj}{r:R2}(ho:iq X (cQ op) r)(ha:PE X a ta)(hb:PE X b tb):PE X (.BinOp a op b pos) (XT r ta tb):=by
 k_ne;erw[wpAny_BinOp (PN ha hb I h λv u s2 x y H2 I2 rx ry q=>ho pZ s2 σ H2 x y v u Q I2 rx ry q)]
def UD{op:UnaryOp}{r:V->Hp->VK->Prop}(ho:YJ X (unaryOp op) r)(ha:PE X a ta):PE X (.UnaryOp op a pos) (tUn r ta):=by
 k_ne;rwa[UnaryOp_ (eJ (ha pZ s σ H _ I h) λv s1 h9=>?_)];let#[x,H1,I1,r1,q1]:=h9;erw[ho pZ s1 σ H1 x v Q I1 r1 q1]
def UE{f:Value->Value->Sem Value}{C:Int->Int->Prop}{g:Int->Int->Int}
  (rule:∀(i j:Int)(t u:Tok)(s:aD)(Q:Value->aD->Prop)(E:Value->aD->Prop),C i j->Q (.int (g i j) s.toks) {s with toks:=s.toks+1}->wpAny (bg X.prog X.w) X.A (f (.int i t) (.int j u)) Q E s):
  iq X f (rI C λi j=>.int (g i j)):=by
 x_go;let#[i,j,rfl,rfl,hc,q]:=h;let#[t,rfl]:=rx;let#[t',rfl]:=ry;erw[rule i j t t' s _ _ hc #[.int (g i j),H,I.tok _,#[_,rfl],q]]
def CB{f:Value->Value->Sem Value}{g:Int->Int->Int}
  (rule:∀(i j:Int)(t u:Tok)(s:aD)(Q:Value->aD->Prop)(E:Value->aD->Prop),Q (.int (g i j) s.toks) {s with toks:=s.toks+1}->wpAny (bg X.prog X.w) X.A (f (.int i t) (.int j u)) Q E s):
  iq X f (FE λi j=>.int (g i j)):=by
 x_go;let#[i,j,rfl,rfl,q]:=h;let#[t,rfl]:=rx;let#[t',rfl]:=ry;erw[rule i j t t' s _ _ #[.int (g i j),H,I.tok _,#[_,rfl],q]]
def LS{f:Value->Value->Sem Value}{g:Int->Int->Bool}
  (rule:∀(i j:Int)(t u:Tok)(s:aD)(Q:Value->aD->Prop)(E:Value->aD->Prop),Q (.bool (g i j)) s->wpAny (bg X.prog X.w) X.A (f (.int i t) (.int j u)) Q E s):
  iq X f (FE λi j=>.bl (g i j)):=by
 x_go;let#[i,j,rfl,rfl,q]:=h;let#[t,rfl]:=rx;let#[t',rfl]:=ry;erw[rule i j t t' s _ _ #[.bl (g i j),H,I,rfl,q]]
abbrev YL(i j:Int):Prop:=0<j/\j<1073741824
abbrev YM(i j:Int):Prop:=0<=j/\j<=1000000/\i.natAbs<2^64
abbrev PQ(i j:Int):Prop:=(-(2^64)<i/\i<2^64)\/(-(2^64)<j/\j<2^64)
def PQ.ok{i j:Int}(h:PQ i j):IntMulOk i j:=by
 rcases h with⟨h1,h2⟩|⟨h1,h2⟩
 .erw[.of_left (intBits_le_64 h1 h2)]
 .erw[.of_right (intBits_le_64 h1 h2)]
def two_pow_nn(k:Nat):(0:Int)<=2^k:=by
 rw[two_pow_cast]
 erw[Hm _]
def PU:iq X (cQ .Add) (FE λi j=>.int (i+j)):=CB λ_ _ _ _ _ _ _ q=>add_int q
def PV:iq X (cQ .Sub) (FE λi j=>.int (i-j)):=CB λ_ _ _ _ _ _ _ q=>sub_int q
def PX:iq X (cQ .Mult) (rI PQ λi j=>.int (i*j)):=UE λ_ _ _ _ _ _ _ hc q=>mul_int q hc.ok
def LU:iq X (cQ .FloorDiv) (rI YL λi j=>.int (i/j)):=UE λi j _ _ _ _ _ hc q=>by
 have h1:(0:Int)<j:=hc.1;have h2:j<1073741824:=hc.2;erw[floordiv_int ∅ (by rw[yE i ∅];exact q) (.inl (PyProof.noPylong_small ∅))]
def PY:iq X (cQ .Mod) (rI (λ_ j=>0<j) λi j=>.int (i%j)):=UE λi j _ _ _ _ _ hc q=>by
 have h1:(0:Int)<j:=hc;erw[mod_int' ∅ (by rw[Int.fmod_eq_emod_of_nonneg i ∅];exact q)]
def PZ:iq X (cQ .LShift) (rI YM λi j=>.int (i*2^j.toNat)):=UE λ_ _ _ _ _ _ _ hc q=>lshift_int_small hc.1 hc.2.1 hc.2.2 q
def P0:iq X (cQ .RShift) (rI (λ_ j=>0<=j) λi j=>.int (i/2^j.toNat)):=UE λi j _ _ _ _ _ hc q=>
 rshift_int hc (%[yE i (two_pow_nn _)|q])
def P1:iq X (cQ .BitAnd) (FE λi j=>.int (Builtin.bitAnd i j)):=CB λ_ _ _ _ _ _ _ q=>and_int q
def UG:iq X (cQ .BitOr) (FE λi j=>.int (Builtin.bitOr i j)):=CB λ_ _ _ _ _ _ _ q=>or_int q
def LV:iq X (iE .Add) (FE λi j=>.int (i+j)):=CB λ_ _ _ _ _ _ _ q=>iadd_int q
def LW:iq X (iE .Sub) (FE λi j=>.int (i-j)):=CB λ_ _ _ _ _ _ _ q=>isub_int q
def P2:iq X (iE .BitOr) (FE λi j=>.int (Builtin.bitOr i j)):=CB λ_ _ _ _ _ _ _ q=>ior_int q
def unI{f:Value->Sem Value}{g:Int->Int}
  (rule:∀(i:Int)(t:Tok)(s:aD)(Q:Value->aD->Prop)(E:Value->aD->Prop),Q (.int (g i) s.toks) {s with toks:=s.toks+1}->wpAny (bg X.prog X.w) X.A (f (.int i t)) Q E s):
  YJ X f (rU λi=>.int (g i)):=by
 intro pZ s σ H x v Q I rx h;let#[i,rfl,q]:=h;let#[t,rfl]:=rx;erw[rule i t s _ _ #[.int (g i),H,I.tok _,#[_,rfl],q]]
def P4:YJ X (unaryOp .USub) (rU λi=>.int (-i)):=unI λ_ _ _ _ _ q=>neg_int q
end
abbrev P5:V->V->Bool
 |.b7,.b7=>ζ|.b7,.int _=>ζ|.int _,.b7=>ζ|.b7,.bl _=>ζ|.bl _,.b7=>ζ|.b7,.str _=>ζ|.str _,.b7=>ζ
 |.int _,.int _=>ζ|.bl _,.bl _=>ζ|.str _,.str _=>ζ|.Cb _,.Cb _=>ζ
 |.int _,.str _=>ζ|.str _,.int _=>ζ|.bl _,.str _=>ζ|.str _,.bl _=>ζ
 |_,_=>ϑ
abbrev rEq:R2:=λx y H Q=>P5 x y=ζ/\Q (.bl (decide (x=y))) H
abbrev rNe:R2:=λx y H Q=>P5 x y=ζ/\Q (.bl (!decide (x=y))) H
def yV:decide (V.int i=V.int j)=(i==j):=by
 rw[dv]
 simp
def CC:decide (V.bl i=V.bl j)=(i==j):=by
 rw[dv]
 simp
def D8:decide (V.str i=V.str j)=(i==j):=by
 rw[dv]
 simp
def D9:decide (V.Cb i=V.Cb j)=(i.toList==j.toList):=by
 rw[dv]
 cases i;cases j;simp
section
variable{X:Cx}{a b c:Expr}{ta tb tc:TE}{pos:Pos}
def de(I:Inv X pZ σ H s)(q:Q (.bl k) H)(e:k=k'):EP X pZ σ Q (.bool k') s:=by
 subst e;exact#[.bl k,H,I,rfl,q]
def UH:iq X (bF .Eq) rEq:=by
 x_go;let#[hs,q]:=h;cases x with
 |b7=>
  cases rx;cases y with
  |b7=>cases ry;erw[PySem.EqNone.eq_none_none (de I q (#v[]))]
  |bl j=>cases ry;erw[PySem.EqNone.eq_none_bool (de I q (#v[]))]
  |int j=>let#[t',rfl]:=ry;erw[PySem.EqNone.eq_none_int (de I q (#v[]))]
  |str j=>let#[t',rfl]:=ry;erw[PySem.EqNone.eq_none_str (de I q (#v[]))]
  |_=>erw[absurd (show ϑ=ζ from hs) aX]
 |bl i=>
  cases rx;cases y with
  |b7=>cases ry;erw[PySem.EqNone.eq_bool_none (de I q (#v[]))]
  |bl j=>cases ry;erw[eq_bool (de I q CC)]
  |str j=>let#[t',rfl]:=ry;erw[PySem.EqMixed.eq_bool_str (de I q (#v[]))]
  |_=>erw[absurd (show ϑ=ζ from hs) aX]
 |int i=>
  let#[t,rfl]:=rx;cases y with
  |b7=>cases ry;erw[PySem.EqNone.eq_int_none (de I q (#v[]))]
  |int j=>let#[t',rfl]:=ry;erw[eq_int (de I q yV)]
  |str j=>let#[t',rfl]:=ry;erw[PySem.EqMixed.eq_int_str (de I q (#v[]))]
  |_=>erw[absurd (show ϑ=ζ from hs) aX]
 |str i=>
  let#[t,rfl]:=rx;cases y with
  |b7=>cases ry;erw[PySem.EqNone.eq_str_none (de I q (#v[]))]
  |bl j=>cases ry;erw[PySem.EqMixed.eq_str_bool (de I q (#v[]))]
  |int j=>let#[t',rfl]:=ry;erw[PySem.EqMixed.eq_str_int (de I q (#v[]))]
  |str j=>let#[t',rfl]:=ry;erw[eq_str (de I q D8)]
  |_=>erw[absurd (show ϑ=ζ from hs) aX]
 |Cb i=>
  let#[t,rfl]:=rx;cases y with
  |Cb j=>let#[t',rfl]:=ry;erw[PySem.W.eq_bytes (de I q D9)]
  |_=>erw[absurd (show ϑ=ζ from hs) aX]
 |_=>cases y<;>exact absurd (show ϑ=ζ from hs) aX
def UI:iq X (bF .NotEq) rNe:=by
 x_go;let#[hs,q]:=h;cases x with
 |b7=>
  cases rx;cases y with
  |b7=>cases ry;erw[PySem.EqNone.ne_none_none (de I q (#v[]))]
  |bl j=>cases ry;erw[PySem.EqNone.ne_none_bool (de I q (#v[]))]
  |int j=>let#[t',rfl]:=ry;erw[PySem.EqNone.ne_none_int (de I q (#v[]))]
  |str j=>let#[t',rfl]:=ry;erw[PySem.EqNone.ne_none_str (de I q (#v[]))]
  |_=>erw[absurd (show ϑ=ζ from hs) aX]
 |bl i=>
  cases rx;cases y with
  |b7=>cases ry;erw[PySem.EqNone.ne_bool_none (de I q (#v[]))]
  |bl j=>cases ry;erw[ne_bool (de I q (congrArg not CC))]
  |str j=>let#[t',rfl]:=ry;erw[PySem.EqMixed.ne_bool_str (de I q (#v[]))]
  |_=>erw[absurd (show ϑ=ζ from hs) aX]
 |int i=>
  let#[t,rfl]:=rx;cases y with
  |b7=>cases ry;erw[PySem.EqNone.ne_int_none (de I q (#v[]))]
  |int j=>let#[t',rfl]:=ry;erw[ne_int (de I q (congrArg not yV))]
  |str j=>let#[t',rfl]:=ry;erw[PySem.EqMixed.ne_int_str (de I q (#v[]))]
  |_=>erw[absurd (show ϑ=ζ from hs) aX]
 |str i=>
  let#[t,rfl]:=rx;cases y with
  |b7=>cases ry;erw[PySem.EqNone.ne_str_none (de I q (#v[]))]
  |bl j=>cases ry;erw[PySem.EqMixed.ne_str_bool (de I q (#v[]))]
  |int j=>let#[t',rfl]:=ry;erw[PySem.EqMixed.ne_str_int (de I q (#v[]))]
  |str j=>let#[t',rfl]:=ry;erw[ne_str (de I q (congrArg not D8))]
  |_=>erw[absurd (show ϑ=ζ from hs) aX]
 |Cb i=>
  let#[t,rfl]:=rx;cases y with
  |Cb j=>let#[t',rfl]:=ry;erw[PySem.W.ne_bytes (de I q (congrArg not D9))]
  |_=>erw[absurd (show ϑ=ζ from hs) aX]
 |_=>cases y<;>exact absurd (show ϑ=ζ from hs) aX
def UJ:iq X (bF .Lt) (FE λi j=>.bl (decide (i<j))):=LS λ_ _ _ _ _ _ _ q=>lt_int q
def UK:iq X (bF .LtE) (FE λi j=>.bl (decide (i<=j))):=LS λ_ _ _ _ _ _ _ q=>le_int q
def UL:iq X (bF .Gt) (FE λi j=>.bl (decide (j<i))):=LS λ_ _ _ _ _ _ _ q=>gt_int q
def UM:iq X (bF .GtE) (FE λi j=>.bl (decide (j<=i))):=LS λ_ _ _ _ _ _ _ q=>ge_int q
def FF:iq X (bF .In) (λx y H Q=>∃i j,x=.str i/\y=.str j/\Q (.bl (!(Builtin.Str.occurrences j i 0 j.length 1).isEmpty)) H):=by
 x_go;let#[i,j,rfl,rfl,q]:=h;let#[t,rfl]:=rx;let#[t',rfl]:=ry;erw[in_str (de I q rfl)]
def P6:iq X (bF .Is) (λx y H Q=>y=.b7/\Q (.bl (decide (x=.b7))) H):=by
 x_go;let#[rfl,q]:=h;cases ry;refine is_none_gen (de I q ?_);cases x<;>first
  | (cases rx;rfl)
  | (let#[t,rfl]:=rx;rfl)
def LX:iq X (bF .IsNot) (λx y H Q=>y=.b7/\Q (.bl (!decide (x=.b7))) H):=by
 x_go;let#[rfl,q]:=h;cases ry;refine isnot_none_gen (de I q ?_);cases x<;>first
  | (cases rx;rfl)
  | (let#[t,rfl]:=rx;rfl)
def LY(ho:iq X (bF op) r)(ha:PE X a ta)(hb:PE X b tb)(hm:behindInMarks op b=ϑ):PE X (.Compare a [op] [b] pos) (XT r ta tb):=by
 k_ne;erw[wpAny_Compare1 (PN ha hb I h λv u s2 x y H2 I2 rx ry q=>ho pZ s2 σ H2 x y v u Q I2 rx ry q) hm]
abbrev UN(t:TE):TT:=λσ H Q=>t σ H λx H'=>∃k,x=.bl k/\Q k H'
def LZ{op:CmpOp}{r:R2}(ho:iq X (bF op) r)(ha:PE X a ta)(hb:PE X b tb)(hm:behindInMarks op b=ϑ):PT X (.Compare a [op] [b] pos) (UN (XT r ta tb)):=by
 intro pZ s σ H Q I h;refine wpAny_isTrue_Compare1 (eJ (ha pZ s σ H _ I h) λv s1 #[x,H1,I1,r1,q1]=>eJ (hb pZ s1 σ H1 _ I1 q1) λu s2 #[y,H2,I2,r2,q2]=>
  eJ (ho pZ s2 σ H2 x y v u _ I2 r1 r2 q2) λc s3 #[z,H3,I3,r3,k,e,q3]=>?_) hm
 subst e;cases r3;erw[dq #[H3,I3,q3]]
abbrev P7(K:aI)(x:V)(H:Hp)(k:Bool):Prop:=
 match x with
 |.b7=>k=ϑ
 |.bl b=>k=b
 |.int i=>k=(i !=0)
 |.str y=>y.length<=sizeLine/\k=((y.length:Int) !=0)
 |.Cb y=>y.size<=sizeLine/\k=((y.size:Int) !=0)
 |.ref p=>(∃xs,ij K H p xs/\k = !xs.isEmpty)\/(∃xs,lO K H p xs/\k = !xs.isEmpty)\/∃kvs,H p=ξ (.dK kvs)/\k = !kvs.isEmpty
 |_=>False
def CD{κ:Type}{kvs:List (κ×V)}{vs:List (κ×Value)}(r:KV kvs vs):(!vs.isEmpty)= !kvs.isEmpty:=by
 cases r<;>rfl
def vh{xs:List V}{its:List Value}(r:Vals xs its):(!its.toArray.isEmpty)= !xs.isEmpty:=by
 cases r<;>simp
def oR:(sizeLine:Nat)<2^63:=by rw[lP];decide
def P8:YK X (λx H Q=>∃k,P7 X.K x H k/\Q k H):=by
 intro pZ s σ H x v Q I rx h;let#[k,e,q]:=h;have hl:=oR;have hs:sizeLine=16777216:=lP;cases x with
 |b7=>
  cases rx;have e':k=ϑ:=e;subst e';erw[truthy_none #[H,I,q]]
 |bl b=>
  cases rx;have e':k=b:=e;subst e';erw[dq #[H,I,q]]
 |int i=>
  let#[t,rfl]:=rx;have e':k=(i !=0):=e;subst e';erw[PySem.P.truthy_int #[H,I,q]]
 |str y=>
  let#[t,rfl]:=rx;obtain⟨hy,e'⟩:y.length<=sizeLine/\k=((y.length:Int) !=0):=e;subst e';erw[PySem.P.truthy_str ∅ #[H,I.tok _,q]]
 |Cb y=>
  let#[t,rfl]:=rx;obtain⟨hy,e'⟩:y.size<=sizeLine/\k=((y.size:Int) !=0):=e;subst e';erw[PySem.W.truthy_bytes ∅ #[H,I.tok _,q]]
 |ref p=>
  cases rx;have e':(∃xs,ij X.K H p xs/\k = !xs.isEmpty)\/(∃xs,lO X.K H p xs/\k = !xs.isEmpty)\/∃kvs,H p=ξ (.dK kvs)/\k = !kvs.isEmpty:=e;rcases e' with⟨xs,hx,e'⟩|⟨xs,hx,e'⟩|⟨kvs,hx,e'⟩
  .subst e'
   let#[its,r,pl,hz]:=I.list hx;have hlen:=r.length;erw[wpAny_truthy_list pl.isList (by dsimp[aK];omega) #[H,I.tok _,by rw[vh r];exact q]]
  .subst e'
   let#[its,r,pl,hz]:=I.tuple hx;have hlen:=r.length;erw[truthy_tuple pl (by dsimp[aK];omega) #[H,I.tok _,by rw[vh r];exact q]]
  .subst e'
   obtain⟨hz,hS,vs,r,m⟩:kvs.length<=sizeLine/\(p==cb)=ϑ/\∃vs,KV kvs vs/\s.heap.DictOf (dj X.prog X.w) p vs:=I.dQ p _ hx;have hlen:kvs.length=vs.length:=Paired.length r;erw[wpAny_truthy_dict hS m ∅ #[H,I.tok _,by rw[CD r];exact q]]
 |_=>exact(show False from e).elim
def HQ(ha:PE X a ta)(he:∀whole,isTrue a X.env whole=(do let v <-whole;standAt a.pos;holding [v] (truthy v))):
  PT X a (λσ H Q=>ta σ H λx H'=>∃k,P7 X.K x H' k/\Q k H'):=by
 k_ne;rwa[isTrue_plain (eJ (ha pZ s σ H _ I h) λv s1 h9=>?_) (he _)];let#[x,H1,I1,r1,q1]:=h9;erw[P8 pZ s1 σ H1 x v Q I1 r1 q1]
def CH:iq X (cQ .Add) (λx y H Q=>∃i j,x=.str i/\y=.str j/\i.length+j.length<=sizeLine/\Q (.str (i++j)) H):=by
 x_go;let#[i,j,rfl,rfl,hz,q]:=h;let#[t,rfl]:=rx;let#[t',rfl]:=ry;erw[add_str (λt' tk=>#[.str (i++j),H,I.tok _,#[_,rfl],q]) hz]
def AU:iq X (iE .Add) (λx y H Q=>∃i j,x=.str i/\y=.str j/\i.length+j.length<=sizeLine/\Q (.str (i++j)) H):=by
 x_go;let#[i,j,rfl,rfl,hz,q]:=h;let#[t,rfl]:=rx;let#[t',rfl]:=ry;erw[iadd_str (λt' tk=>#[.str (i++j),H,I.tok _,#[_,rfl],q]) hz]
def vals1(r:Vals [x] us):∃u,us=[u]/\RelV x u:=by
 cases r with
 |cons r1 r2=>cases r2;exact#[_,rfl,r1]
def vals2(r:Vals [x,y] us):∃u w',us=[u,w']/\RelV x u/\RelV y w':=by
 cases r with
 |cons r1 r2=>
  cases r2 with
  |cons r3 r4=>cases r4;exact#[_,_,rfl,r1,r3]
abbrev UO(K:aI)(x:V)(H:Hp)(n:Nat):Prop:=
 match x with
 |.str y=>y.length<=sizeLine/\n=y.length
 |.Cb y=>y.size<=sizeLine/\n=y.size
 |.ref p=>(∃xs,ij K H p xs/\n=xs.length)\/∃xs,lO K H p xs/\n=xs.length
 |_=>False
def HR:iI X (.builtin "len") (λxs H Q=>∃x n,xs=[x]/\UO X.K x H n/\Q (.int n) H):=by
 k_go;let#[x,n,rfl,e,q]:=h;let#[u,rfl,rx]:=vals1 r;have hl:=oR;have hs:sizeLine=16777216:=lP;cases x with
 |str y=>
  let#[t,rfl]:=rx;obtain⟨hy,e'⟩:y.length<=sizeLine/\n=y.length:=e;subst e';erw[len_str ∅ #[.int _,H,I.tok _,#[_,rfl],q]]
 |Cb y=>
  let#[t,rfl]:=rx;obtain⟨hy,e'⟩:y.size<=sizeLine/\n=y.size:=e;subst e';erw[PySem.W.len_bytes ∅ #[.int _,H,I.tok _,#[_,rfl],q]]
 |ref p=>
  cases rx;have e':(∃xs,ij X.K H p xs/\n=xs.length)\/∃xs,lO X.K H p xs/\n=xs.length:=e;rcases e' with⟨xs,hx,e'⟩|⟨xs,hx,e'⟩
  .subst e'
   let#[its,r',pl,hz]:=I.list hx;have hlen:=r'.length;erw[Calls.call_len_list pl.isList (by dsimp[aK];omega) #[.int xs.length,H,I.tok _,#[_,by dsimp[aK];rw[hlen]],q]]
  .subst e'
   let#[its,r',pl,hz]:=I.tuple hx;have hlen:=r'.length;erw[len_tuple pl (by dsimp[aK];omega) #[.int xs.length,H,I.tok _,#[_,by dsimp[aK];rw[hlen]],q]]
 |_=>exact(show False from e).elim
end
structure CI(h:Heap)(x dx C:Addr)(mA:Str->Option Value):Prop where
 obj:h.get? x=ξ (fg C dx)
 ns:h.Ns1 dx mA
 ne:dx≠x
def FG{h:Heap}{dx:Addr}{mA:Str->Option Value}(n:h.Ns1 dx mA):∃od,h.get? dx=ξ od/\∀name,oK name od=ξ (mA name):=by
 let#[o,es,ep,ho,hd,hk,_,hm]:=n;refine#[o,ho,λname=>?_];have e:=hm name;unfold nsFind findBy at e;rw[<-Array.find?_toList] at e;unfold oK;rw[hd]
 dsimp only;split
 .rename_i y q
  rw[q] at e;erw[congrArg ξ e]
 .rename_i q
  rw[q] at e;have a:es.toList.any (·.refKey)=ϑ:=by
   rw[List.any_eq_false]
   intro y hy;let#[z,t,hkey]:=hk y (Array.mem_toList_iff.mp hy);simp[DictEntry.refKey,hkey]
  have a':¬es.toList.any (·.refKey)=ζ:=%[a|aX]
  rw[if_neg a']
  erw[congrArg ξ e]
def CI.look(I:CI h x dx C mA):∃od,PySem.W.InstAt h x (fg C dx) C (ξ od)/\∀name,oK name od=ξ (mA name):=
 let ⟨od,ho,hl⟩:=FG I.ns
 #[od,#[I.obj,rfl,rfl,ho],hl]
section
variable{prog:bO}{w:cC}{A:d9}{E:Value->aD->Prop}{s:aD}{K:aI}{x dx C f:Addr}{mA:Str->Option Value}{name:Str}{v:Value}
def get_map(X:K.In s.heap)(I:CI s.heap x dx C mA)(hg:mO K C name=ζ)(hh:qZ K C=ζ)
  (ha:eL K (.ref C) name=ξ ψ) (hv:mA name=ξ v) (hv':Ff v=ζ) (h:Q v {s with toks:=s.toks+1}):
  wpAny (bg prog w) A (getAttr (.ref x) name expr) Q E s:=by
 let#[od,J,hl]:=I.look;erw[PySem.W.get_value X J (p6 hg).1 (PySem.W.findObj_own hh ha rfl (by rw[hl,hv])) hv' h]
def HS(X:K.In s.heap)(I:CI s.heap x dx C mA)(hg:mO K C name=ζ)
  (hf:eL K (.ref C) name=ξ (ξ (.ref f))) (ht:yF K (.ref f)=ζ) (hv:mA name=ψ) (h:Q (.ref f,[.ref x]) s):
  wpAny (bg prog w) A (yG (.ref x) name pl) Q E s:=by
 let#[od,J,hl]:=I.look;erw[PySem.W.method_fn X J (p6 hg).1 (p6 hg).2 hf (beq_iff_eq.mp ht) (by show(oK name od).map (·.isSome)=ξ ϑ;rw[hl,hv];rfl) h]
def L0(X:K.In s.heap)(I:CI s.heap x dx C mA)
  (hs:eL K (.ref C) "__setattr__"=ξ (ξ (.builtin "object.__setattr__"))) (hp:DY K C=ζ) (ht:uj K C name=ξ ψ) (hh:qZ K C=ζ)
  (hw:Az mA ns) (hsz:ns.length<=sizeLine)
  (h:∀h',CI h' x dx C (λy=>if y=name then ξ v else mA y)->gD dx s.heap h'->Q () {s with heap:=h',toks:=s.toks+2}):
  wpAny (bg prog w) A (setAttr (.ref x) name v) Q E s:=by
 let#[od,J,hl]:=I.look;refine PySem.W.set_plain X J hs (PySem.W.osa_open (s:={s with toks:=s.toks+1}) (r:=ψ) X J hp ht λb=>?_);let#[cd,hc,hd']:=PySem.W.any_some hh;have hx:s.heap.get? x=ξ #[.ref C,ξ dx,.plain,#[]]:=I.obj;refine af (aA (af (af (wpAny_loadPart hx (af (PySem.W.Looks.here (s:={s with toks:=s.toks+1}) (PySem.W.looks_clsIn X hc) ?_))))));rw[hd']
 rwa[aA (a:=ξ dx) (af (aA (af ?_)))];refine wpAny_nsSet1 (s:={s with toks:=s.toks+1}) I.ns λh' hn2 hs2=>?_
 let#[oD,esD,epD,hoD,hdD,hcD]:=hn2.count (PySem.Within.cons name v hw);rwa[af (wpAny_lookBehind hoD (%[hdD|pastItsLine_dict (aF hcD (by rw[aU];omega))]) ?_)];erw[aA (h _ #[(hs2.2 _ (cJ I.ne)).trans I.obj,hn2,I.ne] hs2)]
def HU(X:K.In s.heap)(hm:GY K C=ζ)
  (hi:eL K (.ref C) "__init__"=ξ (ξ (.ref f))) (hf:PySem.W.typeIn K (.ref f)=ξ (.type "function"))
  (h:qx (bg prog w) (A.under (.builtin "type.__call__" #[.ref C::vs,kw])) (.call (.ref f) #[.ref (s.heap.objs.size+1)::vs,kw]) (PySem.W.InitBack (s.heap.objs.size+1) R)
   {s with heap:=(s.heap.push dD).push (fg C s.heap.objs.size)}):
  qx (bg prog w) A (.call (.ref C) #[vs,kw]) R s:=by
 let#[hh,g,d,t,os]:=s;erw[PySem.W.make_core (PySem.W.makes_of X hm) (PySem.W.looks_findIn X hi) (λself=>PySem.W.bind_fn X self hf) (.inl rfl) h]
end
abbrev kE(f:Str)(v:V):List (Str×V)->List (Str×V)
 |[]=>[(f,v)]
 | (g,x)::r=>if g=f then(g,v)::r else(g,x)::kE f v r
def t4(f g:Str)(v:V):∀fs:List (Str×V),(kE f v fs).lookup g=if g=f then ξ v else fs.lookup g
 |[]=>by
  show gx g [(f,v)]=_
  by_cases h:g=f
  .have hb:(g==f)=ζ:=beq_iff_eq.mpr h
   dsimp[gx,hb,if_pos h]
  .have hb:(g==f)=ϑ:=beq_eq_false_iff_ne.mpr h
   dsimp[gx,hb,if_neg h]
 | (k,x)::r=>by
  have ih:=t4 f g v r;rw[show kE f v ((k,x)::r)=(if k=f then(k,v)::r else(k,x)::kE f v r) from rfl]
  by_cases hk:k=f
  .rw[if_pos hk]
   by_cases h:g=k
   .have hb:(g==k)=ζ:=beq_iff_eq.mpr h
    dsimp[gx,hb,if_pos (h.trans hk)]
   .have hb:(g==k)=ϑ:=beq_eq_false_iff_ne.mpr h
    dsimp[gx,hb,if_neg (λe:g=f=>h (e.trans hk.symm))]
  .rw[if_neg hk]
   by_cases h:g=k
   .have hb:(g==k)=ζ:=beq_iff_eq.mpr h
    dsimp[gx,hb,if_neg (λe:g=f=>hk (h.symm.trans e))]
   .have hb:(g==k)=ϑ:=beq_eq_false_iff_ne.mpr h
    dsimp[gx,hb];erw[ih]
def sN(f:Str)(v:V):∀fs:List (Str×V),f∈(kE f v fs).map (·.1)/\∀g,g∈fs.map (·.1)->g∈(kE f v fs).map (·.1)
 |[]=>#[by simp[kE],λg h=>by simp at h]
 | (k,x)::r=>by
  let#[i1,i2]:=sN f v r;rw[show kE f v ((k,x)::r)=(if k=f then(k,v)::r else(k,x)::kE f v r) from rfl]
  by_cases hk:k=f
  .rw[if_pos hk]
   subst hk;exact#[#v[],λg h=>by simpa using h]
  .rw[if_neg hk]
   refine#[?_,λg h=>?_]
   .rw[az]
    erw[ay _ i1]
   .rw[az] at h ⊢
    rcases aN.mp h with e|e
    .erw[aN.mpr (.inl e)]
    .erw[ay _ (i2 g e)]
def t6(f:Str)(v:V):∀fs:List (Str×V),(kE f v fs).length<=fs.length+1
 |[]=>by simp[kE]
 | (k,x)::r=>by
  have ih:=t6 f v r;rw[show kE f v ((k,x)::r)=(if k=f then(k,v)::r else(k,x)::kE f v r) from rfl]
  by_cases hk:k=f
  .rw[if_pos hk,aU,aU];omega
  .rw[if_neg hk,aU,aU];omega
def ny.some_of(r:ny (ξ v) o):∃u,o=ξ u/\RelV v u:=by
 cases o with
 |none=>exact(show False from r).elim
 |some u=>exact#[u,rfl,r]
def ny.none_of(r:ny ψ o):o=ψ:=by
 cases o with
 |none=>rfl
 |some u=>exact(show False from r).elim
def FH(r:RelV v u):Ff u=ζ:=by
 cases v with
 |b7=>cases (show u=gw from r);rfl
 |bl b=>cases (show u=oq b from r);rfl
 |int i=>let#[t,e]:=(show ∃t,u=lL i t from r);cases e;rfl
 |str x=>let#[t,e]:=(show ∃t,u=lM x t from r);cases e;rfl
 |Cb b=>let#[t,e]:=(show ∃t,u=Value.bytes b t from r);cases e;rfl
 |XO b=>let#[t,e]:=(show ∃t,u=Value.float b t from r);cases e;rfl
 |ref a=>cases (show u=bu a from r);rfl
 |ty n=>cases (show u=Fe n from r);rfl
section
variable{P:bO}{w:cC}{H H':Hp}{h h':Heap}{a C dx:Addr}{fs fs':List (Str×V)}
def yW(dQ:qa P w H h)(e:H a=ξ (.ins C dx fs)):∃mA,CI h a dx C mA/\(∀f,ny (fs.lookup f) (mA f))/\Az mA (fs.map (·.1))/\fs.length<=1000/\H dx=ξ (.own a):=by
 let#[d,z,ne,ob,mA,n,r,q]:=(show d7 P w H h a (.ins C dx fs) from dQ a _ e)
 exact#[mA,#[ob,n,ne],r,q,z,d]
end
structure xF(K:aI)(C:Addr):Prop where
 pg:mO K C Str.empty=ζ
 hd:qZ K C=ζ
 po:DY K C=ζ
 sa:eL K (.ref C) "__setattr__"=ξ (ξ (.builtin "object.__setattr__"))
def xF.get{K:aI}{C:Addr}(c:xF K C)(f:Str):mO K C f=ζ:=c.pg
abbrev mF(K:aI)(C:Addr)(f:Str):Prop:=eL K (.ref C) f=ξ ψ
def mF.UP{K:aI}{C:Addr}{f:Str}(n:mF K C f):uj K C f=ξ ψ:=by
 unfold uj;rw[show eL K (.ref C) f=ξ ψ from n]
 rfl
structure Meth(K:aI)(C:Addr)(m:Str)(f:Addr):Prop where
 at_:eL K (.ref C) m=ξ (ξ (.ref f))
 fn:yF K (.ref f)=ζ
 kp:js K (.ref f)=ζ
section
variable{X:Cx}{pZ:List (Addr×Obj)}{σ:St}{H:Hp}{s:aD}{a C dx:Addr}{fs:List (Str×V)}{f:Str}{v:V}{A:d9}{E:Value->aD->Prop}
def vi{b:Bool}{Q:Value->aD->Prop}(I:Inv X pZ σ H s)(e:H a=ξ (.ins C dx fs))(c:xF X.K C)(n:mF X.K C f)(l:fs.lookup f=ξ v)
  (h:∀u s',Inv X pZ σ H s'->RelV v u->Q u s'):wpAny (bg X.prog X.w) A (getAttr (.ref a) f b) Q E s:=by
 let#[mA,O,r,_,_,_]:=yW I.dQ e;let#[u,hu,ru]:=ny.some_of (v:=v) (o:=mA f) (by rw[<-l];erw[r f]);erw[get_map I.yT O (c.get f) c.hd n hu (FH ru) (h u _ (I.tok _) ru)]
def vj{m:Str}{g:Addr}{pl:Sem Bool}{Q:Value×List Value->aD->Prop}(I:Inv X pZ σ H s)(e:H a=ξ (.ins C dx fs))(c:xF X.K C)(k:Meth X.K C m g)(l:fs.lookup m=ψ)
  (h:Q (.ref g,[.ref a]) s):wpAny (bg X.prog X.w) A (yG (.ref a) m pl) Q E s:=by
 let#[mA,O,r,_,_,_]:=yW I.dQ e;have hn:mA m=ψ:=ny.none_of (by rw[<-l];erw[r m]);erw[HS I.yT O (c.get m) k.at_ k.fn hn h]
def vk{y:V}{u:Value}{Q:Unit->aD->Prop}(I:Inv X pZ σ H s)(e:H a=ξ (.ins C dx fs))(c:xF X.K C)(n:mF X.K C f)(hl:fs.length<1000)(ry:RelV y u)
  (h:∀s',Inv X pZ σ (upd H a (.ins C dx (kE f y fs))) s'->Q () s'):wpAny (bg X.prog X.w) A (setAttr (.ref a) f u) Q E s:=by
 let#[mA,O,r,wi,_,ho]:=yW I.dQ e;have hz:(fs.map (·.1)).length<=sizeLine:=by rw[ae,lP];omega
 rwa[L0 I.yT O c.sa c.po n.UP c.hd wi hz λh' O' sb=>h _ ?_]
 have hd:∃o,h'.get? dx=ξ o:=let ⟨o,_,_,e',_⟩:=O'.ns;#[o,e'];rwa[I.write (x:=a) (e:=dx) (%[e|eU]) (.inr ho) (λb q hb z=>(sb.2 b hb).trans z) hd ?_];refine#[%[cq O.ne|ho],?_,O.ne,O'.obj,_,O'.ns,λg=>?_,λg hg=>?_]
 .have:=t6 f y fs;omega
 .show ny ((kE f y fs).lookup g) (if g=f then ξ u else mA g)
  rw[t4]
  by_cases q:g=f
  .rw[if_pos q,if_pos q];erw[ry]
  .rw[if_neg q,if_neg q];erw[r g]
 .by_cases q:g=f
  .rw[q];exact(sN f y fs).1
  .refine(sN f y fs).2 g (wi g λz=>hg ?_)
   show(if g=f then ξ u else mA g)=ψ
   rw[if_neg q];erw[z]
def Inv.made(I:Inv X pZ σ H s):Inv X pZ σ (upd (upd H s.heap.objs.size (.own (s.heap.objs.size+1))) (s.heap.objs.size+1) (.ins C s.heap.objs.size []))
  {s with heap:=(s.heap.push dD).push (fg C s.heap.objs.size)}:=by
 have e1:(s.heap.push dD).get? s.heap.objs.size=ξ dD:=aZ s.heap rfl;have e2:((s.heap.push dD).push (fg C s.heap.objs.size)).get? (s.heap.objs.size+1)=ξ (fg C s.heap.objs.size):=by
  have:=aZ (s.heap.push dD) (o:=fg C s.heap.objs.size) rfl
  rwa [iF] at this
 have e3:(s.heap.push dD).Ns s.heap.objs.size (λ_=>ψ):=#[dD,#[],_,e1,rfl,(λe he=>absurd he (#v[])),λ_=>rfl]
 have I1:=I.laid (a:=s.heap.objs.size) (o:=.own (s.heap.objs.size+1)) (h':=s.heap.push dD) (t':=s.toks) (λb u q=>aJ _ q) (aq _) #[_,e1];rwa[I1.laid (a:=s.heap.objs.size+1) (o:=.ins C s.heap.objs.size []) (t':=s.toks) (λb u q=>aJ _ q) (uk (iF _ _)) ?_];have ne:s.heap.objs.size≠s.heap.objs.size+1:=ba (b9 _);refine#[by rw[cq ne,bX],bJ _,ne,e2,λ_=>ψ,(Heap.Ns1.of_empty e3).at λo q=>aJ _ q,λ_=>eU,λy hy=>absurd rfl hy]
def L1{prog:bO}{w:cC}{env:Env}{e:Expr}{f:Str}{pos:Pos}{s:aD}{Q:Value->aD->Prop}(hb:iG e f env (eval e env)=eval e env)
  (h:wpAny (bg prog w) A (eval e env) (λo s₁=>wpAny (bg prog w) A (getAttr o f ζ) Q E s₁) E s):wpAny (bg prog w) A (eval (.Attribute e f pos) env) Q E s:=
 Attribute_any_ h (by rw[arm_eval_Attribute,hb])
end
abbrev YN(K:aI)(ta:TE)(f:Str):TE:=λσ H Q=>ta σ H λx H1=>∃a C dx fs v,x=.ref a/\H1 a=ξ (.ins C dx fs)/\xF K C/\mF K C f/\fs.lookup f=ξ v/\Q v H1
abbrev YO(K:aI)(ta tv:TE)(f:Str):TS:=λD σ H=>tv σ H λy H1=>ta σ H1 λx H2=>∃a C dx fs,x=.ref a/\H2 a=ξ (.ins C dx fs)/\xF K C/\mF K C f/\fs.length<1000 /\
 D.nx σ (upd H2 a (.ins C dx (kE f y fs)))
abbrev YQ(X:Cx)(op:nj)(rd:V->V->Hp->VK->Prop):Prop:=
 ∀(pZ:List (Addr×Obj))(s:aD)(σ:St)(H:Hp)(x y:V)(u v:Value)(Q:VK),Inv X pZ σ H s->RelV x u->RelV y v->rd x y H Q->wpAny (bg X.prog X.w) X.A (iE op u v) (EP X pZ σ Q) X.xe s
abbrev L3(K:aI)(ta tv:TE)(rd:V->V->Hp->VK->Prop)(f:Str):TS:=λD σ H=>ta σ H λx H1=>∃a C dx fs v,x=.ref a/\H1 a=ξ (.ins C dx fs)/\xF K C/\mF K C f/\fs.lookup f=ξ v /\
 tv σ H1 λy H2=>rd v y H2 λz H3=>∃dx' fs',H3 a=ξ (.ins C dx' fs')/\fs'.length<1000/\D.nx σ (upd H3 a (.ins C dx' (kE f z fs')))
section
variable{X:Cx}{o e value:Expr}{f:Str}{pos pos' tpos:Pos}{ta tv:TE}
def P9(he:PE X e ta)(hb:iG e f X.env (eval e X.env)=eval e X.env):PE X (.Attribute e f pos) (YN X.K ta f):=by
 k_ne;rwa[L1 hb (eJ (he pZ s σ H _ I h) λu s1 h9=>?_)];let#[x,H1,I1,rx,a,C,dx,fs,v,ex,ea,c,n,l,q]:=h9;subst ex;obtain rfl:u=bu a:=rx;erw[vi I1 ea c n l λu' s2 I2 ru=>#[v,H1,I2,ru,q]]
def Qa(ha:PE X o ta)(hv:PE X value tv)(hs:fP value (ξ (.Attribute o f pos')) pos.line X.env=pure ϑ):PS X (.Assign [.Attribute o f pos'] value pos) (YO X.K ta tv f):=by
 intro pZ s σ H D I h;rwa[plainObj_wpAny_Assign_Attribute (eJ (hv pZ s σ H _ I h) λu s1 h9=>?_) hs];let#[y,H1,I1,ry,q]:=h9;rwa[eJ (ha pZ s1 σ H1 _ I1 q) λov s2 h9=>?_]
 let#[x,H2,I2,rx,a,C,dx,fs,ex,ea,c,n,l,q2]:=h9;subst ex;obtain rfl:ov=bu a:=rx;erw[vk I2 ea c n l ry λs3 I3=>#[σ,_,I3,q2]]
def FI{op:nj}{rd:V->V->Hp->VK->Prop}(ha:PE X o ta)(hv:PE X value tv)(hop:YQ X op rd):PS X (.AugAssign (.Attribute o f tpos) op value pos) (L3 X.K ta tv rd f):=by
 intro pZ s σ H D I h;rwa[wpAny_AugAssign_AttributeAny (eJ (ha pZ s σ H _ I h) λov s1 h9=>?_)];let#[x,H1,I1,rx,a,C,dx,fs,v,ex,ea,c,n,l,q]:=h9;subst ex;obtain rfl:ov=bu a:=rx;rwa[vi I1 ea c n l λu s2 I2 ru=>eJ (hv pZ s2 σ H1 _ I2 q) λw3 s3 h9=>?_]
 let#[y,H2,I3,ry,q3]:=h9;rwa[eJ (hop pZ s3 σ H2 v y u w3 _ I3 ru ry q3) λw4 s4 h9=>?_]
 let#[z,H3,I4,rz,dx',fs',ea',l',q4]:=h9;erw[vk I4 ea' c n l' rz λs5 I5=>#[σ,_,I5,q4]]
end
structure jH(k:Nat)(A:d9):Prop where
 hd:A.handled=ψ
 dp:A.depth+3*k+5<recursionLimit
 un:A.units+16*k+200<gv
def jH.mono(r:jH k A)(h:j<=k):jH j A:=#[r.hd,by have:=r.dp;omega,by have:=r.un;omega]
def jH.deeper(r:jH (k+1) A)(env:Env):jH k (A.deeper env):=
 #[r.hd,by have:=r.dp;show A.depth+1+3*k+5<_;omega,by have:=r.un;show A.units+3+16*k+200<_;omega]
def CJ{A:d9}{C:Addr}{us:List Value}{kw:List (Str×Value)}:(A.under (.builtin "type.__call__" #[.ref C::us,kw])).depth=A.depth+1:=by
 first|rfl|simp[Ad,Code.weight,Code.isCreation,Code.isGuard,Code.isCaller,Code.frames,BZ,guardIds]
def CK{A:d9}{C:Addr}{us:List Value}{kw:List (Str×Value)}:(A.under (.builtin "type.__call__" #[.ref C::us,kw])).units=A.units+1:=by
 first|rfl|simp[Ad,Code.cUnits,Code.frames,BZ]
def jH.make(r:jH (k+1) A)(C:Addr)(us:List Value)(kw:List (Str×Value)):jH k (A.under (.builtin "type.__call__" #[.ref C::us,kw])):=
 #[r.hd,by have:=r.dp;rw[CJ];omega,by have:=r.un;rw[CK];omega]
def jH.depth(r:jH k A):A.depth<recursionLimit:=by have:=r.dp;omega
abbrev L4:TA:=λ_ H Q=>Q [] H
abbrev UQ(ta:TE)(tr:TA):TA:=λσ H Q=>ta σ H λx H1=>tr σ H1 λxs H2=>Q (x::xs) H2
section
variable{X:Cx}{e:Expr}{es:List Expr}{te:TE}{t:TA}{pos:Pos}
def sO:PA X [] L4:=λ_ _ _ _ H Q I h=>mN #[[],H,I,.nil,h]
def nB(ha:PE X e te)(hr:PA X es t)(hs:bB (e::es) X.env=(ϑ,eval e X.env)::bB es X.env:=by rfl):PA X (e::es) (UQ te t):=by
 intro pos pZ s σ H Q I h;rw[hs]
 show wpAny _ _ (spliced ((ϑ,eval e X.env)::fN pos (bB es X.env))) _ _ s
 rwa[jh (eJ (ha pZ s σ H _ I h) λu s1 h9=>?_)];let#[x,H1,I1,r1,q1]:=h9;rwa[eJ (hr pos pZ s1 σ H1 _ I1 q1) λus s2 h9=>?_]
 let#[xs,H2,I2,r2,q2]:=h9;exact#[x::xs,H2,I2,.cons r1 r2,q2]
abbrev YR(t:TA):TE:=λσ H Q=>t σ H λxs H1=>xs.length<=sizeLine/\∀p,H1 p=ψ->Q (.ref p) (upd H1 p (.tup xs))
abbrev YS(t:TA):TE:=λσ H Q=>t σ H λxs H1=>xs.length<=sizeLine/\∀p,H1 p=ψ->Q (.ref p) (upd H1 p (.lst xs))
def Qb{x1}(h:PA X es t):PE X (.Tuple es x1 pos) (YR t):=by
 intro pZ s σ H Q I hq;rwa[wpAny_Tuple_spliced (eJ (h pos pZ s σ H _ I hq) λus s1 h9=>?_)];let#[xs,H1,I1,r,z,q]:=h9;refine#[by rw[<-r.length];erw[z],?_];have hf:H1 s1.heap.objs.size=ψ:=I1.dQ.fresh (aq _);refine#[.ref s1.heap.objs.size,upd H1 s1.heap.objs.size (.tup xs),I1.laid (t':=s1.toks) (λb u e=>aJ _ e) (aq _) ?_,rfl,q _ hf];exact#[z,us,r,#[_,aZ _ rfl,rfl,_,rfl]]
def Qc(h:PA X es t):PE X (.List es pos) (YS t):=by
 intro pZ s σ H Q I hq;rwa[wpAny_List_spliced (eJ (h pos pZ s σ H _ I hq) λus s1 h9=>?_)];let#[xs,H1,I1,r,z,q]:=h9;refine#[by rw[<-r.length];erw[z],?_];have hf:H1 s1.heap.objs.size=ψ:=I1.dQ.fresh (aq _);refine#[.ref s1.heap.objs.size,upd H1 s1.heap.objs.size (.lst xs),I1.laid (t':=s1.toks) (λb u e=>aJ _ e) (aq _) ?_,rfl,q _ hf];exact#[z,us,0,r,aZ _ rfl]
end
@[reducible]def Sp:=List V->Hp->VK->XK->Prop
@[reducible]def Hg:=List Env->Hp->aD->XK->Value->aD->Prop
structure CM(P:bO)(w:cC)(K:aI)(mg:Str->Option Value)(base:Heap)(A:d9)(outer:List Env)(s:aD)(H:Hp):Prop where
 frames:A.frames=ξ outer
 mod:Mod K mg base
 bs:∀b o,base.get? b=ξ o->s.heap.get? b=ξ o/\H b=ψ
 LK:base.objs.size<=s.heap.objs.size
 uz:s.heap.FunFrames base outer
 Po:∀b∈Hf outer,H b=ψ
 dQ:qa P w H s.heap
 bare:qv s.gens
abbrev CE(outer:List Env)(P:bO)(w:cC)(H:Hp)(s:aD)(Q:VK)(u:Value)(s':aD):Prop:=
 ∃v H',s'.os=s.os/\qv s'.gens/\Un (Hf outer) [] H H' s.heap s'.heap/\qa P w H' s'.heap/\RelV v u/\Q v H'
abbrev CR(CX:Hg)(outer:List Env)(P:bO)(w:cC)(H:Hp)(s:aD)(Q:VK)(E:XK)(r:Result)(s':aD):Prop:=
 match r with
 |.ok (.ret u)=>CE outer P w H s Q u s'
 |.ok _=>False
 |.error e=>CX outer H s E e s'
structure jI(P:bO)(w:cC)(K:aI)(mg:Str->Option Value)(base:Heap)(CX:Hg)(k:Nat)(f:Addr)(fd:fQ)(ps:List Str)(sp:Sp):Prop where
 len:∀vs H Q E,sp vs H Q E->vs.length=ps.length
 run:∀(A:d9)(outer:List Env)(s:aD)(H:Hp)(args:Args)(us:List Value)(vs:List V)(Q:VK)(E:XK),jH k A->CM P w K mg base A outer s H->B1 s fd args (ps.zip us)->Vals vs us->sp vs H Q E ->
  qx (bg P w) A (.call (.ref f) args) (CR CX outer P w H s Q E) s
def jI.mono{P:bO}{w:cC}{K:aI}{mg:Str->Option Value}{base:Heap}{CX:Hg}{j k:Nat}{f:Addr}{fd:fQ}{ps:List Str}{sp:Sp}(F:jI P w K mg base CX j f fd ps sp)(h:j<=k):
  jI P w K mg base CX k f fd ps sp:=#[F.len,λA outer s H args us vs Q E hr=>F.run A outer s H args us vs Q E (hr.mono h)]
def jI.imp{P:bO}{w:cC}{K:aI}{mg:Str->Option Value}{base:Heap}{CX:Hg}{k:Nat}{f:Addr}{fd:fQ}{ps:List Str}{sp sp':Sp}(F:jI P w K mg base CX k f fd ps sp)
  (h:∀vs H Q E,sp' vs H Q E->sp vs H Q E):jI P w K mg base CX k f fd ps sp':=
 #[λvs H Q E q=>F.len vs H Q E (h _ _ _ _ q),λA outer s H args us vs Q E hr he hb hv hs=>F.run A outer s H args us vs Q E hr he hb hv (h _ _ _ _ hs)]
def CM.make{P:bO}{w:cC}{K:aI}{mg:Str->Option Value}{base:Heap}{A:d9}{outer:List Env}{s:aD}{H:Hp}(e:CM P w K mg base A outer s H)(C:Addr)(us:List Value)(kw:List (Str×Value)):
  CM P w K mg base (A.under (.builtin "type.__call__" #[.ref C::us,kw])) outer s H:=#[by first|exact e.frames| (simpa[Ad,Code.envs,BZ,pushEnvs] using e.frames),e.mod,e.bs,e.LK,e.uz,e.Po,e.dQ,e.bare]
section
variable{X:Cx}{pZ:List (Addr×Obj)}{σ:St}{H:Hp}{s s':aD}
def Inv.UR(I:Inv X pZ σ H s):CM X.prog X.w X.K X.mg X.base X.A X.stack s H:=
 #[I.ok.frames,I.ok.mod,I.bs,aF I.ok.LK I.sz,I.stack,I.D3,I.dQ,I.bare]
def Inv.after(I:Inv X pZ σ H s)(h:CE X.stack X.prog X.w H s Q u s'):EP X pZ σ Q u s':=by
 let#[v,H',os,bare,un,dQ,r,q]:=h;let#[hh,g,d,t,os']:=s';obtain rfl:os'=s.os:=os;exact#[v,H',I.call (h':=hh) (g':=g) (d':=d) (t':=t) (ch:=[]) un dQ bare (λb z=>absurd z (#v[])),r,q]
end
abbrev HV(sp:Sp)(dvs:List V)(E:XK)(t:TA):TE:=λσ H Q=>t σ H λvs H1=>sp (vs++dvs) H1 Q E
abbrev HW(C:Addr)(m:Str)(sp:Sp)(dvs:List V)(E:XK)(ta:TE)(t:TA):TE:=λσ H Q=>ta σ H λx H1=>∃a dx fs,x=.ref a/\H1 a=ξ (.ins C dx fs)/\fs.lookup m=ψ /\
 t σ H1 λvs H2=>sp (x::(vs++dvs)) H2 Q E
abbrev HX(C:Addr)(sp:Sp)(dvs:List V)(E:XK)(t:TA):TE:=λσ H Q=>t σ H λvs H1=>∀x dx,H1 x=ψ->H1 dx=ψ->dx≠x ->
 sp (.ref x::(vs++dvs)) (upd (upd H1 dx (.own x)) x (.ins C dx [])) (λv H2=>v=.b7/\Q (.ref x) H2) E
abbrev Binds(K:aI)(fd:fQ)(ps:List Str)(ds:List Value):Prop:=
 ∀(s:aD)(us:List Value),K.In s.heap->(us++ds).length=ps.length->B1 s fd #[us,[]] (ps.zip (us++ds))
def Binds.all{K:aI}{fd:fQ}{ps:List Str}(h:∀us:List Value,us.length=ps.length->LB fd #[us,[]]=pure (ps.zip us)):Binds K fd ps []:=λs us _ hl=>by
 rw[bT] at hl ⊢;erw[.of_eq (h us hl)]
abbrev Passes(CX:Hg)(X:Cx)(E:XK):Prop:=∀(pZ:List (Addr×Obj))(σ:St)(H:Hp)(s:aD)(e:Value)(s':aD),Inv X pZ σ H s->CX X.stack H s E e s'->X.xe e s'
section
variable{X:Cx}{CX:Hg}{k:Nat}{f C:Addr}{fd:fQ}{ps:List Str}{sp:Sp}{dvs:List V}{ds:List Value}{E:XK}{x m:Str}{p pos apos:Pos}{e o:Expr}{es:List Expr}{ta:TE}{t:TA}
def yX{pZ:List (Addr×Obj)}{σ:St}{H:Hp}{s:aD}{Q:VK}{us:List Value}{vs:List V}(F:jI X.prog X.w X.K X.mg X.base CX k f fd ps sp)(hr:jH k X.A)(hb:Binds X.K fd ps ds)(hd:Vals dvs ds)(hx:Passes CX X E)
  (I:Inv X pZ σ H s) (r:Vals vs us) (h:sp (vs++dvs) H Q E):wpAny (bg X.prog X.w) X.A (call (.ref f) us) (EP X pZ σ Q) X.xe s:=by
 have r2:Vals (vs++dvs) (us++ds):=r.append hd;have hl:(us++ds).length=ps.length:=by rw[<-r2.length];erw[F.len _ _ _ _ h]
 rwa[wpAny_call (wK (F.run X.A X.stack s H #[us,[]] (us++ds) (vs++dvs) Q E hr I.UR (hb s us I.yT hl) r2 h) λr s' hq=>?_)];cases r with
 |error e=>erw[hx pZ σ H s e s' I hq]
 |ok fl=>
  cases fl with
  |ret u=>erw[I.after hq]
  |next=>erw[aV hq]
  |brk=>erw[aV hq]
  |cont=>erw[aV hq]
def L5(F:jI X.prog X.w X.K X.mg X.base CX k f fd ps sp)(hr:jH k X.A)(hg:Gl X x)(hm:X.mg x=ξ (.ref f))(hk:js X.K (.ref f)=ζ)(hb:Binds X.K fd ps ds)(hd:Vals dvs ds)(hx:Passes CX X E)
  (ha:PA X (e::es) t) (hdb:(x==("__debug__":Str))=ϑ:=by decide) (he:bB (e::es) X.env=(ϑ,eval e X.env)::bB es X.env:=by rfl) (hpl:(fN pos (bB es X.env)).any (·.1)=ϑ:=by rfl):
  PE X (.Call (.Name x p) (e::es) [] pos) (HV sp dvs E t):=by
 k_ne;rwa[fu (rn I hg hm ?_ hdb)];rwa[qy (h₀:=X.base) I.ok.mod.Uh hk (eJ (ha pos pZ s σ H _ I h) λus s1 h9=>?_) he hpl];let#[vs,H1,I1,r,q]:=h9;refine#[I1.yT,?_];erw[yX F hr hb hd hx I1 r q]
def HY(F:jI X.prog X.w X.K X.mg X.base CX k f fd ps sp)(hr:jH k X.A)(hg:Gl X x)(hm:X.mg x=ξ (.ref f))(hk:js X.K (.ref f)=ζ)(hb:Binds X.K fd ps ds)(hd:Vals dvs ds)(hx:Passes CX X E)
  (hdb:(x==("__debug__":Str))=ϑ:=by decide):PE X (.Call (.Name x p) [] [] pos) (HV sp dvs E L4):=by
 k_ne;rwa[fu (rn I hg hm ?_ hdb)];erw[p7 I.yT hk (yX (us:=[]) F hr hb hd hx I .nil h)]
def L6{pl:Sem Bool}(he:PE X o ta)(c:xF X.K C)(hm:Meth X.K C m f)(F:jI X.prog X.w X.K X.mg X.base CX k f fd ps sp)(hr:jH k X.A)(hb:Binds X.K fd ps ds)(hd:Vals dvs ds)(hx:Passes CX X E)(ha:PA X (e::es) t)
  (hst:bB (e::es) X.env=(ϑ,eval e X.env)::bB es X.env:=by rfl) (hpl:(fN pos (bB es X.env)).any (·.1)=ϑ:=by rfl)
  (ht:eval (.Call (.Attribute o m apos) (e::es) [] pos) X.env=(do
   let ov <-eval o X.env
   standAt apos.atName
   let (f,first) <-holding [ov] (yG ov m pl)
   callWith pos f first (fN pos (bB (e::es) X.env)) (backToKw pos (gM [] X.env))):=by rfl):
  PE X (.Call (.Attribute o m apos) (e::es) [] pos) (HW C m sp dvs E ta t):=by
 k_ne;refine Ae (pl:=pl) (eJ (he pZ s σ H _ I h) λu s1 h9=>?_) ht;let#[x,H1,I1,rx,a,dx,fs,ex,ea,l,q]:=h9;subst ex;obtain rfl:u=bu a:=rx;refine vj I1 ea c hm l ?_;refine qy (first:=[.ref a]) (h₀:=X.base) I.ok.mod.Uh hm.kp (eJ (ha pos pZ s1 σ H1 _ I1 q) λus s2 h9=>?_) hst hpl;obtain⟨vs,H2,I2,r,q2⟩:=h9;refine#[I2.yT,?_];exact yX (us:=.ref a::us) (vs:=.ref a::vs) F hr hb hd hx I2 (.cons rfl r) q2
def HZ(he:PE X o ta)(c:xF X.K C)(hm:Meth X.K C m f)(F:jI X.prog X.w X.K X.mg X.base CX k f fd ps sp)(hr:jH k X.A)(hb:Binds X.K fd ps ds)(hd:Vals dvs ds)(hx:Passes CX X E)
  (ht:eval (.Call (.Attribute o m apos) [] [] pos) X.env=(do
   let ov <-eval o X.env
   standAt apos.atName
   let (f,first) <-holding [ov] (yG ov m pl)
   callWith pos f first (fN pos (bB [] X.env)) (backToKw pos (gM [] X.env))):=by rfl):
  PE X (.Call (.Attribute o m apos) [] [] pos) (HW C m sp dvs E ta L4):=by
 k_ne;refine Ae (pl:=pl) (eJ (he pZ s σ H _ I h) λu s1 h9=>?_) ht;let#[x,H1,I1,rx,a,dx,fs,ex,ea,l,q]:=h9;subst ex;obtain rfl:u=bu a:=rx;refine vj I1 ea c hm l ?_;exact p7 (first:=[.ref a]) I1.yT hm.kp (yX (us:=[.ref a]) (vs:=[.ref a]) F hr hb hd hx I1 (.cons rfl .nil) q)
structure Mk(K:aI)(C f:Addr):Prop where
 makes:GY K C=ζ
 init:eL K (.ref C) "__init__"=ξ (ξ (.ref f))
 fn:yF K (.ref f)=ζ
 kp:js K (.ref C)=ζ
def AV(M:Mk X.K C f)(F:jI X.prog X.w X.K X.mg X.base CX k f fd ps sp)(hr:jH (k+1) X.A)(hb:Binds X.K fd ps ds)(hd:Vals dvs ds)
  (hx:Passes CX X E) (I:Inv X pZ σ H s) (r:Vals vs us)
  (h:∀x dx,H x=ψ->H dx=ψ->dx≠x->sp (.ref x::(vs++dvs)) (upd (upd H dx (.own x)) x (.ins C dx [])) (λv H2=>v=.b7/\Q (.ref x) H2) E):
  wpAny (bg X.prog X.w) X.A (call (.ref C) us) (EP X pZ σ Q) X.xe s:=by
 have hq:=h (s.heap.objs.size+1) s.heap.objs.size (I.dQ.fresh (fF _)) (I.dQ.fresh (aq _)) (ba (b9 _));have I2:=Inv.made (C:=C) I;have r2:Vals (V.ref (s.heap.objs.size+1)::(vs++dvs)) (bu (s.heap.objs.size+1)::(us++ds)):=.cons rfl (r.append hd);have hl:(bu (s.heap.objs.size+1)::us++ds).length=ps.length:=by
  have e:=r2.length;rw[F.len _ _ _ _ hq] at e;erw[e.symm]
 refine wpAny_call (HU (f:=f) I.yT M.makes M.init (beq_iff_eq.mp M.fn) (wK (F.run _ X.stack _ _ #[bu (s.heap.objs.size+1)::us,[]] (bu (s.heap.objs.size+1)::(us++ds)) _ _ E (hr.make C us [])
  (I2.UR.make C us []) (hb _ (bu (s.heap.objs.size+1)::us) I2.yT hl) r2 hq) λr s' hq'=>?_))
 cases r with
 |error e=>erw[hx pZ σ _ _ e s' I2 hq']
 |ok fl=>
  cases fl with
  |ret u=>
   let#[v,H',I3,rv,ev,q3]:=I2.after hq';subst ev;exact#[rv,#[V.ref (s.heap.objs.size+1),H',I3,rfl,q3]]
  |next=>erw[aV hq']
  |brk=>erw[aV hq']
  |cont=>erw[aV hq']
def L7(M:Mk X.K C f)(F:jI X.prog X.w X.K X.mg X.base CX k f fd ps sp)(hr:jH (k+1) X.A)(hg:Gl X x)(hm:X.mg x=ξ (.ref C))(hb:Binds X.K fd ps ds)(hd:Vals dvs ds)(hx:Passes CX X E)
  (ha:PA X (e::es) t) (hdb:(x==("__debug__":Str))=ϑ:=by decide) (he:bB (e::es) X.env=(ϑ,eval e X.env)::bB es X.env:=by rfl) (hpl:(fN pos (bB es X.env)).any (·.1)=ϑ:=by rfl):
  PE X (.Call (.Name x p) (e::es) [] pos) (HX C sp dvs E t):=by
 k_ne;rwa[fu (rn I hg hm ?_ hdb)];rwa[qy (h₀:=X.base) I.ok.mod.Uh M.kp (eJ (ha pos pZ s σ H _ I h) λus s1 h9=>?_) he hpl];let#[vs,H1,I1,r,q]:=h9;refine#[I1.yT,?_];erw[AV M F hr hb hd hx I1 r q]
def H0(M:Mk X.K C f)(F:jI X.prog X.w X.K X.mg X.base CX k f fd ps sp)(hr:jH (k+1) X.A)(hg:Gl X x)(hm:X.mg x=ξ (.ref C))(hb:Binds X.K fd ps ds)(hd:Vals dvs ds)(hx:Passes CX X E)
  (hdb:(x==("__debug__":Str))=ϑ:=by decide):PE X (.Call (.Name x p) [] [] pos) (HX C sp dvs E L4):=by
 k_ne;rwa[fu (rn I hg hm ?_ hdb)];erw[p7 I.yT M.kp (AV (us:=[]) M F hr hb hd hx I .nil h)]
end
structure l6(N P:List Str)(sc:kC):Prop where
 kind:sc.kind=.function
 co:sc.isCoroutine=ϑ
 gen:sc.isGenerator=ϑ
 nd:N.Nodup
 pre:N.take P.length=P
 par:∀x∈P,sc.names.lookup x=ξ .local\/sc.names.lookup x=ξ .cell
 Qd:∀y∈sc.names,y.2≠.free
def xG{kindOf:Str->Option NameKind}{x:Str}:∀{binds:List (Str×Value)}{m:Str->Option Value},(∀v,(x,v)∉binds)->GZ kindOf binds m x=m x
 |[],_,_=>rfl
 | (n,v)::r,m,h=>by
  unfold GZ;rw[xG λw hw=>h w (ay _ hw)]
  split
  .have:x≠n:=by rintro rfl;erw[h v aQ]
   simp[this]
  .rfl
def xH{kindOf:Str->Option NameKind}{x:Str}:∀{binds:List (Str×Value)}{m:Str->Option Value},(∀v,(x,v)∉binds)->G7 kindOf binds m x=m x
 |[],_,_=>rfl
 | (n,v)::r,m,h=>by
  unfold G7;rw[xH λw hw=>h w (ay _ hw)]
  split
  .rfl
  .have:x≠n:=by rintro rfl;erw[h v aQ]
   simp[this]
def xI{kindOf:Str->Option NameKind}{x:Str}{v:Value}:∀{P:List Str}{vs:List Value}{i:Nat}{m:Str->Option Value},P.Nodup->P[i]?=ξ x->vs[i]?=ξ v->kindOf x=ξ .local ->
  GZ kindOf (P.zip vs) m x=ξ v
 |[],_,_,_,_,h,_,_=>by simp at h
 |_::_,[],_,_,_,_,h,_=>by simp at h
 |p::P,w::vs,0,m,nd,h1,h2,hk=>by
  simp at h1 h2;subst h1;subst h2;show GZ kindOf ((p,w)::P.zip vs) m p=_;unfold GZ;rw[xG λv hv=>(fw.mp nd).1 (wD hv).1,if_pos hk]
  simp
 |p::P,w::vs,i+1,m,nd,h1,h2,hk=>by
  show GZ kindOf ((p,w)::P.zip vs) m x=_
  unfold GZ;exact xI (i:=i) (fw.mp nd).2 (~~~h1) (~~~h2) hk
def xJ{kindOf:Str->Option NameKind}{x:Str}{v:Value}:∀{P:List Str}{vs:List Value}{i:Nat}{m:Str->Option Value},P.Nodup->P[i]?=ξ x->vs[i]?=ξ v->kindOf x≠ξ .local ->
  G7 kindOf (P.zip vs) m x=ξ v
 |[],_,_,_,_,h,_,_=>by simp at h
 |_::_,[],_,_,_,_,h,_=>by simp at h
 |p::P,w::vs,0,m,nd,h1,h2,hk=>by
  simp at h1 h2;subst h1;subst h2;show G7 kindOf ((p,w)::P.zip vs) m p=_;unfold G7;rw[xH λv hv=>(fw.mp nd).1 (wD hv).1,if_neg hk]
  simp
 |p::P,w::vs,i+1,m,nd,h1,h2,hk=>by
  show G7 kindOf ((p,w)::P.zip vs) m x=_
  unfold G7;exact xJ (i:=i) (fw.mp nd).2 (~~~h1) (~~~h2) hk
abbrev start(N:List Str)(vs:List V):St:=vs.map ξ++xj (N.length-vs.length) ψ
abbrev CN(CX:Hg)(P:bO)(w:cC)(K:aI)(mg:Str->Option Value)(base:Heap)(N:List Str)(qual:Str)(scope:kC)(f:Addr)(cd:Value)(A:d9)(outer:List Env)(s:aD)(H:Hp)(E:XK):Cx where
 prog:=P
 w:=w
 K:=K
 mg:=mg
 base:=base
 A:=A.deeper (sG qual scope s.heap.objs.size f cd)
 N:=N
 s₀:=s
 H₀:=H
 env:=sG qual scope s.heap.objs.size f cd
 outer:=outer
 stack:=sG qual scope s.heap.objs.size f cd::outer
 ex:=[]
 calm:=ζ
 fn:=λ_=>ζ
 pn:=[]
 xe:=λe s'=>wpAny (bg P w) (A.deeper (sG qual scope s.heap.objs.size f cd)) (leaving (sG qual scope s.heap.objs.size f cd) e) (λ_ s''=>CX outer H s E e s'') (λe' s''=>CX outer H s E e' s'') s'
def AW{sc:kC}{n:Nat}{x:Str}(h:sc.names.lookup x=ξ .cell):∃c,(ji n sc.names []).lookup x=ξ c:=by
 have q:=yH sc.names n [] (.inl h);erw[xk.mp q]
def FJ{CX:Hg}{P:bO}{w:cC}{K:aI}{mg:Str->Option Value}{base:Heap}{N ps:List Str}{qual:Str}{scope:kC}{f:Addr}{cd:Value}{A:d9}{outer:List Env}{s s1:aD}{H:Hp}{E:XK}{us:List Value}{vs:List V}
  (S:l6 N ps scope) (hd:A.handled=ψ) (e0:CM P w K mg base A outer s H) (hl:vs.length=ps.length) (r:Vals vs us)
  (x:InCallC s s.heap.objs.size (GZ (sG qual scope s.heap.objs.size f cd).kindOf (ps.zip us) λ_=>ψ) (ji (s.heap.objs.size+1) scope.names []) (G7 (sG qual scope s.heap.objs.size f cd).kindOf (ps.zip us) λ_=>ψ) s1):
  Inv (CN CX P w K mg base N qual scope f cd A outer s H E) [] (start N vs) H s1:=by
 have hpl:ps.length<=N.length:=by have:=congrArg cR S.pre;rw[cx] at this;omega
 let#[h1,tk,rfl,hk]:=x.done;have noA:∀b:Addr,b∉(CN CX P w K mg base N qual scope f cd A outer s H E).ex:=λb z=>absurd (show b∈([]:List Addr) from z) (#v[])
 refine#[#[e0.mod,S.kind,rfl,rfl,aq _,λy z c h1 h2=>?_,λy hy=>?_,λy c _ h=>?_,λ_=>hd,Around.frames_deeper e0.frames,.inr #[rfl,rfl],λb z=>absurd z (noA b),e0.bs,e0.LK,λb _ _=>noA b,λb z=>absurd z (noA b),e0.uz,e0.Po],
  rfl,e0.bare,Un.kept hk,#[_,x.toInCall.ns,λi y v h1 h2 h3=>?_],λy c h=>#[_,x.cell y c h],e0.dQ.fresh (aq _),λy c h=>?_,λp hp=>absurd (show p∈([]:List (Addr×Obj)) from hp) (#v[]),e0.dQ.kept hk,?_]
 .erw[name_of_addr x.apart (df h1) (df h2)]
 .have hy:scope.names.lookup y=ξ .cell\/scope.names.lookup y=ξ .free:=hy
  rcases hy with hy|hy
  .erw[AW hy]
  .erw[absurd rfl (S.Qd _ (df hy))]
 .erw[cY (x.above y c (df h))]
 .have hi:i<vs.length:=by
   unfold start at h2;by_cases hi:i<vs.length
   .erw[hi]
   .rw[ax (~~~hi)] at h2
    rw[AB] at h2;split at h2<;>cases h2
  have ha:vs[i]?=ξ v:=by
   unfold start at h2;rw[ao (~~~hi),aC] at h2;cases e:vs[i]? with
   |none=>rw[e] at h2;cases h2
   |some a=>rw[e] at h2;cases h2;rfl
  let#[u,hu,rv]:=r.get ha;have hp:ps[i]?=ξ y:=by
   rw[<-S.pre,Af ∅];erw[h1]
  have ndP:ps.Nodup:=by rw[<-S.pre];erw[S.nd.sublist (List.take_sublist _ _)]
  refine#[u,rv,?_];rcases S.par y (ah hp) with k|k
  .erw[.inl #[k,xI ndP hp hu k]]
  .let#[c,e]:=AW (n:=s.heap.objs.size+1) k
   rwa[.inr #[.inl k,c,e,?_]];have q:=x.cell y c e;rw[xJ ndP hp hu (by show scope.names.lookup y≠_;rw[k];decide)] at q;erw[q]
 .erw[e0.dQ.fresh (cY (x.above y c (df h)))]
 .unfold start
  show _=N.length
  rw[aj,ae,List.length_replicate]
  omega
def US{CX:Hg}{P:bO}{w:cC}{K:aI}{mg:Str->Option Value}{base:Heap}{k:Nat}{f:Addr}{name qual:Str}{params:Arguments}{body:List Stmt}{scope:kC}{dV kV doc pm cdv ct oc:Value}{an od:Option Addr}
  {osl:Array (Option Value)}{N ps:List Str}{sp:Sp} (lk:K.lookup f=ξ #[oc,od,.func (kL name qual params body scope dV kV doc pm an cdv ct),osl]) (hcd:vb K cdv qual=ζ) (S:l6 N ps scope)
  (len:∀vs H Q E,sp vs H Q E->vs.length=ps.length)
  (hbody:∀(A:d9)(outer:List Env)(s:aD)(H:Hp)(vs:List V)(Q:VK)(E:XK),jH k (A.deeper (sG qual scope s.heap.objs.size f cdv))->sp vs H Q E ->
   ∃t,uI (CN CX P w K mg base N qual scope f cdv A outer s H E) body t/\t {nx:=λ_ H'=>Q .b7 H',rt:=Q} (start N vs) H):
  jI P w K mg base CX (k+1) f (kL name qual params body scope dV kV doc pm an cdv ct) ps sp:=by
 refine#[len,λA outer s H args us vs Q E hr e0 hb r hsp=>?_];have hl:=len _ _ _ _ hsp;have KX:K.In s.heap:=e0.mod.Uh.keeps λb o e=>(e0.bs b o e).1
 have lim:s.heap.NoLimit:=e0.mod.nolimit.keeps λb o e=>(e0.bs b o e).1
 have hkind:∀y∈ps.zip us,scope.names.lookup y.1=ξ .local\/(scope.names.lookup y.1=ξ .cell/\((ji (s.heap.objs.size+1) scope.names []).lookup y.1).isSome=ζ):=λ⟨n,v⟩ hy=>by
  rcases S.par n (wD hy).1 with q|q
  .erw[.inl q]
  .erw[.inr #[q,yH _ _ _ (.inl q)]]
 rwa[codeAny_call_function hr.depth (KX _ _ lk) rfl S.co S.gen rfl (PySem.W.codeRec_of KX hcd) (hb _ _ _ _ ?_)];rwa[wpAny_newFunctionEnv_cells S.kind hkind λenv he s1 x=>?_]
 subst he;refine#[lim.keeps x.toInCall.keep,codeAny_func ?_];let#[t,ht,hq]:=hbody A outer s H vs Q E (hr.deeper _) hsp;have I:Inv (CN CX P w K mg base N qual scope f cdv A outer s H E) [] (start N vs) H s1:=FJ S hr.hd e0 hl r x;rwa[fV (ht [] s1 (start N vs) H _ I hq) (λfl s' hs=>?_) λe s' hs=>hs]
 have fin:∀{σ':St}{H':Hp}{v:V}{u:Value},Inv (CN CX P w K mg base N qual scope f cdv A outer s H E) [] σ' H' s'->RelV v u->Q v H'->CE outer P w H s Q u s':=
  λ{σ' H' v u}J rv q=>#[v,H',J.os,J.bare,J.base,J.dQ,rv,q]
 cases fl with
 |ret u=>
  let#[v,σ',H',J,rv,q]:=hs;erw[fin J rv q]
 |next=>
  let#[σ',H',J,q]:=hs;erw[fin (v:=V.b7) (u:=gw) J rfl q]
 |brk=>
  let#[_,_,_,q]:=hs;erw[aV q]
 |cont=>
  let#[_,_,_,q]:=hs;erw[aV q]
section
variable{X:Cx}{x:Str}{p pos:Pos}{e:Expr}{es:List Expr}{t:TA}{id T:String}{r:List V->Hp->VK->Prop}
abbrev YT(r:List V->Hp->VK->Prop)(t:TA):TE:=λσ H Q=>t σ H λvs H1=>r vs H1 Q
def mS(hc:iI X (.builtin id) r)(hg:Gl X x)(hm:X.mg x=ψ)(hv:kB x=ξ (.builtin id))(ha:PA X (e::es) t)(hn:x≠"__name__":=by decide)(hdb:(x==("__debug__":Str))=ϑ:=by decide)
  (he:bB (e::es) X.env=(ϑ,eval e X.env)::bB es X.env:=by rfl) (hpl:(fN pos (bB es X.env)).any (·.1)=ϑ:=by rfl):PE X (.Call (.Name x p) (e::es) [] pos) (YT r t):=by
 k_ne;rwa[fu (oO I hg hm hv ?_ hn hdb)];rwa[PyProof.Rows.callWith_builtin1 (eJ (ha pos pZ s σ H _ I h) λus s1 h9=>?_) he hpl];let#[vs,H1,I1,r1,q1]:=h9;erw[hc pZ s1 σ H1 vs us Q I1 r1 q1]
def pC(hc:iI X (.type T) r)(hg:Gl X x)(hm:X.mg x=ψ)(hv:kB x=ξ (.type T))(ha:PA X (e::es) t)(hn:x≠"__name__":=by decide)(hdb:(x==("__debug__":Str))=ϑ:=by decide)
  (he:bB (e::es) X.env=(ϑ,eval e X.env)::bB es X.env:=by rfl) (hpl:(fN pos (bB es X.env)).any (·.1)=ϑ:=by rfl):PE X (.Call (.Name x p) (e::es) [] pos) (YT r t):=by
 k_ne;rwa[fu (oO I hg hm hv ?_ hn hdb)];rwa[fW (eJ (ha pos pZ s σ H _ I h) λus s1 h9=>?_) he hpl];let#[vs,H1,I1,r1,q1]:=h9;erw[hc pZ s1 σ H1 vs us Q I1 r1 q1]
end
end L2
namespace HT
open PySem PyProof.Rows
section
variable{prog:bO}{w:cC}{A:d9}{E:Value->aD->Prop}{s:aD}
def L8(ht:IsTup s.heap t vs.toArray)(hb:IsTup s.heap b ws.toArray)(hv:vs≠[])
  (h1:ws=[]->Q (.ref t) s) (h2:ws≠[]->Q (.ref s.heap.objs.size) {s with heap:=s.heap.push {cls:=.type "tuple",data:=.seq (vs++ws).toArray} })
  (hsz:vs.length+ws.length<=sizeLine):wpAny (bg prog w) A (cQ .Add (.ref t) (.ref b)) Q E s:=by
 let#[#[cls,dd,data,sl],ho,hc,n,hd]:=id ht;let#[#[cls2,dd2,data2,sl2],ho2,hc2,n2,hd2]:=id hb;simp only at hc hd hc2 hd2;subst hc hd hc2 hd2;have e:vs.toArray++ws.toArray=(vs++ws).toArray:=by simp
 by_cases hw:ws=[]
 .exact Hn #[_,ho,rfl] #[_,ho2,rfl] yI Fg nk mP (mD _ _)
   (tuple_addW1 t b vs.toArray ws.toArray n n2 dd dd2 sl sl2 (~~~hv) (by simp[hw])) #[ho,ho2,h1 hw]
 .refine Hn #[_,ho,rfl] #[_,ho2,rfl] yI Fg nk mP (mD _ _)
   (tuple_addW2 t b vs.toArray ws.toArray n n2 dd dd2 sl sl2 (~~~hv) (~~~hw) (%[aK,aK|hsz])) #[ho,ho2,?_]
  rw[e]
  erw[h2 hw]
abbrev jJ(n d:Nat):Option Int->Nat
 |none=>d
 |some v=>if v<0 then(v+(n:Int)).toNat else min v.toNat n
def Qe(n d:Nat)(hd:d<=n)(o:Option Int):jJ n d o<=n:=by
 cases o with
 |none=>erw[hd]
 |some v=>
  show(if v<0 then(v+(n:Int)).toNat else min v.toNat n)<=n
  by_cases hv:v<0
  .rw[if_pos hv];omega
  .rw[if_neg hv];erw[Nat.min_le_right _ _]
def Ea(v:Int)(n d:Nat):(if v<0 then max (v+(n:Int)) 0 else min v (n:Int))=((jJ n d (ξ v):Nat):Int):=by
 show(if v<0 then max (v+(n:Int)) 0 else min v (n:Int))=(((if v<0 then(v+(n:Int)).toNat else min v.toNat n):Nat):Int)
 by_cases hv:v<0
 .dsimp[if_pos hv];omega
 .dsimp[if_neg hv];omega
def CO(lo hi:Option Int)(n:Nat):Builtin.Slice.sliceAdjust lo hi 1 (n:Int)=(((jJ n 0 lo:Nat):Int),((jJ n n hi:Nat):Int)):=by
 have h1:¬((1:Int)<0):=∅
 unfold Builtin.Slice.sliceAdjust;dsimp[h1,if_false];rwa[Prod.ext ?_ ?_]
 .cases lo with
  |none=>rfl
  |some v=>erw[Ea v n 0]
 .cases hi with
  |none=>rfl
  |some v=>erw[Ea v n n]
def CP(i j:Nat):Builtin.Slice.slicePlaces (i:Int) (j:Int) 1=j-i:=by
 unfold Builtin.Slice.slicePlaces;have h1:(1:Int)>0:=∅
 dsimp[h1,if_true,Int.ediv_one];split<;>omega
def vm(p:yJ v o)(h:Q o s):wpAny (bg prog w) A (Builtin.Slice.slicePartIndex v) Q E s:=by
 cases p with
 |none=>erw[slicePart_none h]
 |int i t=>erw[slicePart_int h]
def sP{sl:Addr}{vl vu:Value}{lo hi:Option Int}{n:Nat}{Q:Int×Int×Nat->aD->Prop}(hs:s.heap.IsSliceOf sl vl vu .none)(pl:yJ vl lo)(pu:yJ vu hi)
  (h:Q (((jJ n 0 lo:Nat):Int),1,jJ n n hi-jJ n 0 lo) s):wpAny (bg prog w) A (Builtin.Slice.sliceApplied (.ref sl) (pure (n:Int))) Q E s:=by
 let#[os,hos,hcs,hds]:=id hs;unfold Builtin.Slice.sliceApplied Builtin.Slice.sliceFields;rwa[af (af (Ag hos hds (x:=vl) rfl (af (Ag hos hds (x:=vu) rfl (af (Ag hos hds (x:=.none) rfl (aA ?_)))))))];rwa[af (slicePart_none ?_)];show wpAny _ _ (if ((1:Int)== 0)=ζ then _ else _) _ _ s;rw[if_neg ⋯]
 rwa[af (vm pl (af (vm pu (af (aA ?_)))))];show wpAny _ _ (match Builtin.Slice.sliceAdjust lo hi 1 (n:Int) with| (lo,hi)=>pure (lo,(1:Int),Builtin.Slice.slicePlaces lo hi 1)) _ _ s;rw[CO lo hi n]
 show wpAny _ _ (pure (((jJ n 0 lo:Nat):Int),(1:Int),Builtin.Slice.slicePlaces ((jJ n 0 lo:Nat):Int) ((jJ n n hi:Nat):Int) 1)) _ _ s
 rw[CP]
 erw[aA h]
def H8(xs:Array Value)(i k:Nat):((cv k).filterMap λ(m:Nat)=>xs[((i:Int)+(m:Int)*1).toNat]?).toArray=((xs.toList.drop i).take k).toArray:=by
 have e:(λ(m:Nat)=>xs[((i:Int)+(m:Int)*1).toNat]?)=λm=>xs[i+m]?:=by
  funext m
  have:((i:Int)+(m:Int)*1).toNat=i+m:=∅
  rw[this]
 rw[e]
 have:=pick_run xs i k;rw[sv] at this;have e2:((λx=>xs[x]?)∘λx=>i+x)=λm=>xs[i+m]?:=rfl
 rw[e2] at this;rw[this]
def rD{t sl:Addr}{items:Array Value}{vl vu:Value}{lo hi:Option Int}{Q:Value->aD->Prop}(ht:IsTup s.heap t items)(hs:s.heap.IsSliceOf sl vl vu .none)(pl:yJ vl lo)(pu:yJ vu hi)
  (hw:¬(jJ items.size 0 lo=0/\jJ items.size items.size hi=items.size))
  (h:Q (.ref s.heap.objs.size) {s with heap:=s.heap.push {cls:=.type "tuple",data:=.seq ((items.toList.drop (jJ items.size 0 lo)).take (jJ items.size items.size hi-jJ items.size 0 lo)).toArray} })
  (hsz:items.size<=sizeLine):wpAny (bg prog w) A (oH (.ref t) (.ref sl)) Q E s:=by
 have htake:sizeOk (.seq ((items.toList.drop (jJ items.size 0 lo)).take (jJ items.size items.size hi-jJ items.size 0 lo)).toArray):=by
  show((items.toList.drop (jJ items.size 0 lo)).take (jJ items.size items.size hi-jJ items.size 0 lo)).toArray.size<=sizeLine
  rw[aK,cx,uG,qw]
  omega
 have hj:jJ items.size items.size hi<=items.size:=Qe _ _ (aq _) hi;let#[os,hos,hcs,hds]:=id hs;have hTs:s.TypeIs (.ref sl) "slice":=#[os,hos,hcs]
 unfold oH;try with_reducible refine fU ?_
 first|refine af (aA ?_)|skip
 refine af (wpAny_sequenceKey ht.typeIs ⋯ ?_);refine af (j0 (name:=cj "__getitem__") ht.typeIs i9
  (jf i9 ht.typeIs entry_tuple_getitem ?_ (args_tuple_getitem _ _)))
 show wpAny _ _ (Builtin.Tuple.tupleItemsOf (.ref t)>>=_) _ _ s
 rwa[af (tupleItemsOf_ ht ?_)];rwa[af (Ho hTs ?_)];rw[if_pos ⋯]
 refine af (sP hs pl pu ?_);have hno:¬((((jJ items.size 0 lo:Nat):Int)== 0&&(1:Int)== 1&&(jJ items.size items.size hi-jJ items.size 0 lo)== items.size)=ζ):=by
  intro q;rw[ar,ar] at q;have q1:((jJ items.size 0 lo:Nat):Int)=0:=eq_of_beq q.1.1;have q2:jJ items.size items.size hi-jJ items.size 0 lo=items.size:=eq_of_beq q.2;erw[hw #[∅,∅]]
 show wpAny _ _ (if (((jJ items.size 0 lo:Nat):Int)== 0&&(1:Int)== 1&&(jJ items.size items.size hi-jJ items.size 0 lo)== items.size)=ζ then _ else _) _ _ s
 rw[if_neg hno,H8]
 first
  |exact af (m:=Builtin.Tuple.tupleExact _) (dJ (aA #[_,rfl,aA h]) htake)
  |exact af (m:=Builtin.Tuple.tupleExact _) (dJ (af (aA (aA #[_,rfl,aA h]))) htake)
  |exact af (af (m:=Builtin.Tuple.tupleExact _) (dJ (aA (aA #[_,rfl,aA h])) htake))
  |exact af (af (m:=Builtin.Tuple.tupleExact _) (dJ (aA #[_,rfl,aA h]) htake))
end
end HT
namespace L2
open PySem PySem.Spec PyProof.Rows
@[reducible]def TO:=St->Hp->(Option Int->Hp->Prop)->Prop
abbrev PO(X:Cx)(e:Option Expr)(t:TO):Prop:=
 ∀(pZ:List (Addr×Obj))(s:aD)(σ:St)(H:Hp)(Q:Option Int->Hp->Prop),Inv X pZ σ H s->t σ H Q ->
  wpAny (bg X.prog X.w) X.A (evalPart e X.env) (λu s'=>∃o H',Inv X pZ σ H' s'/\yJ u o/\Q o H') X.xe s
abbrev L9:TO:=λ_ H Q=>Q ψ H
abbrev UT(t:TE):TO:=λσ H Q=>t σ H λx H1=>∃i,x=.int i/\Q (ξ i) H1
section
variable{X:Cx}{e:Expr}{te:TE}{lo hi:Option Expr}{tl th:TO}{pos p2:Pos}
def Ma:PO X ψ L9:=by
 k_ne;rw[evalPart_none]
 erw[aA #[ψ,H,I,.none,h]]
def Mb(h:PE X e te):PO X (ξ e) (UT te):=by
 intro pZ s σ H Q I hw;rw[evalPart_some]
 rwa[eJ (h pZ s σ H _ I hw) λu s1 h9=>?_]
 let#[x,H1,I1,r1,q1]:=h9;let#[i,rfl,q]:=q1;let#[t,rfl]:=r1;exact#[ξ i,H1,I1,.int i t,q]
abbrev UU(X:Cx)(r:V->Option Int->Option Int->Hp->VK->Prop):Prop:=
 ∀(pZ:List (Addr×Obj))(s:aD)(σ:St)(H:Hp)(x:V)(v vl vu:Value)(lo hi:Option Int)(sl:Addr)(Q:VK),Inv X pZ σ H s->RelV x v->s.heap.IsSliceOf sl vl vu .none->yJ vl lo->yJ vu hi->r x lo hi H Q ->
  ∃T id,typeLookup (.type T) "__getitem__"=pure (ξ (.builtin id))/\s.TypeIs v T/\wpAny (bg X.prog X.w) X.A (oH v (.ref sl)) (EP X pZ σ Q) X.xe s
abbrev tSl(r:V->Option Int->Option Int->Hp->VK->Prop)(te:TE)(tl th:TO):TE:=λσ H Q=>te σ H λx H1=>tl σ H1 λl H2=>th σ H2 λu H3=>r x l u H3 Q
def Ia(hr:UU X r)(he:PE X e te)(hl:PO X lo tl)(hu:PO X hi th):PE X (.Subscript e (.Slice lo hi ψ p2) pos) (tSl r te tl th):=by
 k_ne;rwa[Subscript_ (eJ (he pZ s σ H _ I h) λv s1 h9=>?_)];let#[x,H1,I1,r1,q1]:=h9;rwa[wpAny_Slice (eJ (hl pZ s1 σ H1 _ I1 q1) λvl s2 h9=>?_)];let#[l,H2,I2,pl,q2]:=h9;rwa[eJ (hu pZ s2 σ H2 _ I2 q2) λvu s3 h9=>?_]
 let#[u,H3,I3,pu,q3]:=h9;rw[evalPart_none]
 rwa[aA ?_];have I4:Inv X pZ σ H3 {s3 with heap:=s3.heap.push {cls:=.type "slice",data:=.fields (List.toArray [vl,vu,.none])} }:=I3.kept (t':=s3.toks) λb ob q=>aJ _ q
 let#[T,id,hT,ht,hg]:=hr pZ {s3 with heap:=s3.heap.push {cls:=.type "slice",data:=.fields (List.toArray [vl,vu,.none])} } σ H3 x v vl vu l u s3.heap.objs.size Q I4 r1 (Heap.IsSliceOf.new ..) pl pu q3;show wpAny (bg X.prog X.w) X.A (Fh e (.Slice lo hi ψ p2) v (.ref s3.heap.objs.size)) (EP X pZ σ Q) X.xe {s3 with heap:=s3.heap.push {cls:=.type "slice",data:=.fields (List.toArray [vl,vu,.none])} };erw[tail_any (ops:=[.ref s3.heap.objs.size,v]) ht hT hg (by with_unfolding_all rfl)]
abbrev AX(xs:List V)(lo hi:Option Int):List V:=(xs.drop (HT.jJ xs.length 0 lo)).take (HT.jJ xs.length xs.length hi-HT.jJ xs.length 0 lo)
def t8(xs:List V)(lo hi:Option Int):(AX xs lo hi).length<=xs.length:=by
 unfold AX;rw[cx,uG]
 omega
abbrev YU(K:aI):V->Option Int->Option Int->Hp->VK->Prop:=λx lo hi H Q=>∃a xs,x=.ref a/\lO K H a xs /\
 ¬(HT.jJ xs.length 0 lo=0/\HT.jJ xs.length xs.length hi=xs.length)/\∀p,H p=ψ->Q (.ref p) (upd H p (.tup (AX xs lo hi)))
def Qf:UU X (YU X.K):=by
 intro pZ s σ H x v vl vu lo hi sl Q I rx hs pl pu h;let#[a,xs,rfl,hx,hw,q]:=h;cases rx;let#[its,r,ht,hz]:=I.tuple hx;have hlen:its.toArray.size=xs.length:=%[aK|r.length.symm]
 refine#["tuple",_,i9.lookup,ht.typeIs,?_];rwa[HT.rD ht hs pl pu (%[hlen|hw]) ?_ (%[hlen|hz])];rw[hlen]
 refine#[.ref s.heap.objs.size,_,I.laid (t':=s.toks) (o:=.tup (AX xs lo hi)) (λb ob q=>aJ _ q) (aq _) ?_,rfl,q _ (I.dQ.fresh (aq _))];exact#[aF (t8 xs lo hi) hz,_,(r.drop (HT.jJ xs.length 0 lo)).take (HT.jJ xs.length xs.length hi-HT.jJ xs.length 0 lo),Hq _ _]
abbrev UW(K:aI):R2:=λx y H Q=>∃a b xs ys,x=.ref a/\y=.ref b/\lO K H a xs/\lO K H b ys/\xs≠[]/\xs.length+ys.length<=sizeLine /\
 (ys=[]->Q (.ref a) H)/\(ys≠[]->∀p,H p=ψ->Q (.ref p) (upd H p (.tup (xs++ys))))
def Vals.yY(r:Vals xs us):us=[]↔xs=[]:=by
 cases r with
 |nil=>simp
 |cons _ _=>simp
def Mc:iq X (cQ .Add) (UW X.K):=by
 x_go;let#[a,b,xs,ys,rfl,rfl,ha,hb,hx,hz,q1,q2]:=h;cases rx;cases ry;let#[its,r1,p1,_]:=I.tuple ha;let#[its2,r2,p2,_]:=I.tuple hb;rwa[HT.L8 p1 p2 (λz=>hx (r1.yY.mp z)) (λz=>#[.ref a,H,I,rfl,q1 (r2.yY.mp z)]) (λz=>?_) (by rw[<-r1.length,<-r2.length];erw[hz])];refine#[.ref s.heap.objs.size,_,I.laid (t':=s.toks) (o:=.tup (xs++ys)) (λb ob q=>aJ _ q) (aq _) ?_,rfl,q2 (λw=>z (r2.yY.mpr w)) _ (I.dQ.fresh (aq _))];exact#[%[aj|hz],_,r1.append r2,Hq _ _]
end
abbrev Qg(n:Nat)(i:Int):Option Nat:=if 0<=i then(if i<n then ξ i.toNat else ψ) else if -(n:Int)<=i then ξ (i+n).toNat else ψ
abbrev Qh{α:Type}(xs:List α)(i:Int):Option α:=(Qg xs.length i).bind λj=>xs[j]?
def Eb(h:Qg n i=ξ j):G8 i n=ξ j/\j<n/\-(n:Int)<=i/\i<n:=by
 unfold Qg at h;by_cases h0:0<=i
 .rw[if_pos h0] at h
  by_cases h1:i<n
  .rw[if_pos h1] at h
   have e:i.toNat=j:=aH h;exact#[by rw[LC h0 h1,e],∅,∅,h1]
  .rw[if_neg h1] at h;cases h
 .rw[if_neg h0] at h
  by_cases h1:-(n:Int)<=i
  .rw[if_pos h1] at h
   have e:(i+n).toNat=j:=aH h;exact#[by rw[Hr ∅ h1,e],∅,h1,∅]
  .rw[if_neg h1] at h;cases h
def yZ{α:Type}{xs:List α}{i:Int}{v:α}(h:Qh xs i=ξ v):∃j,G8 i xs.length=ξ j/\xs[j]?=ξ v/\j<xs.length/\-(xs.length:Int)<=i/\i<xs.length:=by
 unfold Qh at h;cases e:Qg xs.length i with
 |none=>rw[e] at h;cases h
 |some j=>
  rw[e] at h;let#[h1,h2,h3,h4]:=Eb e;exact#[j,h1,h,h2,h3,h4]
abbrev Ec(b:Expr):Prop:=∀o i,Ah b ϑ o i=operate [o,i] (oH o i)
abbrev TQ(X:Cx)(r:R2):Prop:=
 ∀(value slice:Expr)(pZ:List (Addr×Obj))(s:aD)(σ:St)(H:Hp)(x y:V)(v u:Value)(Q:VK),Inv X pZ σ H s->RelV x v->RelV y u->r x y H Q ->
  Ah slice ϑ v u=operate [v,u] (oH v u)->wpAny (bg X.prog X.w) X.A (Fh value slice v u) (EP X pZ σ Q) X.xe s
abbrev Cd(X:Cx)(id:String)(r:V->List V->Hp->VK->Prop):Prop:=
 ∀(pZ:List (Addr×Obj))(s:aD)(σ:St)(H:Hp)(x:V)(xs:List V)(v:Value)(us:List Value)(Q:VK),Inv X pZ σ H s->RelV x v->Vals xs us->r x xs H Q ->
  wpAny (bg X.prog X.w) X.A (call (.builtin id) (v::us)) (EP X pZ σ Q) X.xe s
section
variable{X:Cx}{a b:Expr}{ta tb:TE}{pos:Pos}
def UX(hr:TQ X r)(ha:PE X a ta)(hb:PE X b tb)(hs:Ec b):PE X (.Subscript a b pos) (XT r ta tb):=by
 k_ne;erw[Subscript_ (PN ha hb I h λv u s2 x y H2 I2 rx ry q=>hr a b pZ s2 σ H2 x y v u Q I2 rx ry q (hs _ _))]
abbrev YV(K:aI):R2:=λx y H Q=>∃p xs i v,x=.ref p/\y=.int i/\ij K H p xs/\Qh xs i=ξ v/\Q v H
abbrev YW(K:aI):R2:=λx y H Q=>∃p xs i v,x=.ref p/\y=.int i/\lO K H p xs/\Qh xs i=ξ v/\Q v H
abbrev YX:R2:=λx y H Q=>∃z i c,x=.str z/\y=.int i/\z.length<=sizeLine/\Qh z.cps.toList i=ξ c/\Q (.str #[(List.toArray [c])]) H
def Ed:TQ X (YV X.K):=by
 intro value slice pZ s σ H x y v u Q I rx ry h hs;let#[p,xs,i,z,rfl,rfl,hq,he,q]:=h;cases rx;let#[t,rfl]:=ry;let#[its,r,pl,hz]:=I.list hq;let#[j,h1,h2,h3,h4,h5]:=yZ he;let#[w,ew,rw']:=r.get h2;have hl:=r.length;have hn:=oR;have fin:EP X pZ σ Q w s:=#[z,H,I,rw',q]
 by_cases h0:0<=i
 .have hj:i.toNat=j:=by
   rw[LC h0 h5] at h1;erw[aH h1]
  exact item_listR pl.isList h0 ∅ (by rw[hj];simpa using ew) fin hs
 .have hj:(i+(its.toArray.size:Int)).toNat=j:=by
   rw[Hr ∅ h4] at h1;rw[aK,<-hl]
   erw[aH h1]
  exact Hs (x:=w) pl.isList.typeIs slot_list_getitem.lookup
   (wpAny_getItem_list_neg (Q:=λr s'=>r=w/\EP X pZ σ Q r s') pl.isList ∅ (by rw[aK]<;>omega) ∅ (by rw[hj];simpa using ew) #[rfl,fin]) hs
def Qi:TQ X (YW X.K):=by
 intro value slice pZ s σ H x y v u Q I rx ry h hs;let#[p,xs,i,z,rfl,rfl,hq,he,q]:=h;cases rx;let#[t,rfl]:=ry;let#[its,r,pl,hz]:=I.tuple hq;let#[j,h1,h2,h3,h4,h5]:=yZ he;let#[w,ew,rw']:=r.get h2;have hl:=r.length;have hn:=oR;have fin:EP X pZ σ Q w s:=#[z,H,I,rw',q]
 exact Hs (x:=w) pl.typeIs slot_tuple_getitem.lookup
  (getItem_tuple (j:=j) (Q:=λr s'=>r=w/\EP X pZ σ Q r s') pl ∅ ∅ (by rw[aK,<-hl];erw[h1]) (~~~ew) #[rfl,fin]) hs
def Qj:TQ X YX:=by
 intro value slice pZ s σ H x y v u Q I rx ry h hs;let#[z,i,c,rfl,rfl,hz,he,q]:=h;let#[t,rfl]:=rx;let#[t',rfl]:=ry;let#[j,h1,h2,h3,h4,h5]:=yZ he;have hl:z.cps.toList.length=z.length:=by simp[Str.length]
 rw[hl] at h1 h4 h5;have hn:=oR;exact tail_any (typeIs_str s z t) slot_str_getitem.lookup (getItem_str (c:=c) (by
  have e1:decide (i < -(2^63:Int))=ϑ:=decide_eq_false ∅;have e2:decide (i≥2^63)=ϑ:=decide_eq_false ∅;rw[e1,e2,Bool.or_false]) (by rw[h1];simpa using h2) #[.str #[(List.toArray [c])],H,I.tok _,#[_,rfl],q]) hs
def CQ(its:List Value)(n j:Nat)(u:Value):sH (·.setIfInBounds j u) {cls:=.type "list",data:=.seq its.toArray n}= {cls:=.type "list",data:=.seq (its.set j u).toArray n}:=by
 simp[sH]
def Inv.lst{pZ:List (Addr×Obj)}{σ:St}{H:Hp}{s:aD}{p:Addr}{xs:List V}(I:Inv X pZ σ H s)(h:H p=ξ (.lst xs)):
  ∃(its:List Value)(n:Nat),Vals xs its/\s.heap.get? p=ξ {cls:=.type "list",data:=.seq its.toArray n}/\xs.length<=sizeLine:=by
 let#[z,its,n,r,e]:=I.dQ p _ h;exact#[its,n,r,e,z]
def Inv.Qk{pZ:List (Addr×Obj)}{σ:St}{H:Hp}{s:aD}{p:Addr}{xs ys:List V}{its its':List Value}{n n':Nat}{f:Obj->Obj}(I:Inv X pZ σ H s)(h:H p=ξ (.lst xs))
  (ho:s.heap.get? p=ξ {cls:=.type "list",data:=.seq its.toArray n}) (hf:f {cls:=.type "list",data:=.seq its.toArray n}= {cls:=.type "list",data:=.seq its'.toArray n'}) (r:Vals ys its') (hz:ys.length<=sizeLine) (t:Nat):
  Inv X pZ σ (upd H p (.lst ys)) {s with heap:=s.heap.update p f,toks:=t}:=by
 have e:(s.heap.update p f).get? p=ξ {cls:=.type "list",data:=.seq its'.toArray n'}:=by
  rw[kn f ho (by rw[hf]<;>rfl),hf]
 rwa[I.write (x:=p) (e:=p) (by rw[h];trivial) (.inl rfl) (λb u hb q=>(B3 _ _ (cJ hb)).trans q) #[_,e] ?_];exact#[hz,its',n',r,e]
abbrev UY:V->V->V->Hp->(Hp->Prop)->Prop:=λo i v H Q=>∃p xs k j,o=.ref p/\i=.int k/\H p=ξ (.lst xs)/\Qg xs.length k=ξ j/\Q (upd H p (.lst (xs.set j v)))
def set_list:PH X UY:=by
 intro pZ s σ H o i v ov iv u Q I ro ri rv h;let#[p,xs,k,j,rfl,rfl,hp,hj,q]:=h;cases ro;let#[t,rfl]:=ri;let#[its,n,r,ho,hz]:=I.lst hp;let#[h1,h2,h3,h4]:=Eb hj;have hl:=r.length;have hn:=oR;have I':Inv X pZ σ (upd H p (.lst (xs.set j v))) {s with heap:=s.heap.update p (sH (·.setIfInBounds j u))}:=
  I.Qk hp ho (CQ its n j u) (r.set rv j) (%[b8|hz]) s.toks
 by_cases h0:0<=k
 .have hk:k.toNat=j:=by
   rw[LC h0 h4] at h1;erw[aH h1]
  erw[PySem.W.ki_setAt ho h0 ∅ (by rw[aK,<-hl];exact h4) (by rw[hk];exact#[_,I',q])]
 .have hk:(k+(its.toArray.size:Int)).toNat=j:=by
   rw[Hr ∅ h3] at h1;rw[aK,<-hl]
   erw[aH h1]
  erw[PySem.W.ki_setBack ho ∅ (by rw[aK,<-hl];exact h3) ∅ (by rw[hk];exact#[_,I',q])]
def y9(lo hi:Option Int)(n:Nat):(lQ lo hi ψ n).1=((HT.jJ n 0 lo:Nat):Int)/\(lQ lo hi ψ n).2.1=((HT.jJ n n hi:Nat):Int)/\(lQ lo hi ψ n).2.2=1:=by
 refine#[?_,?_,rfl]
 .cases lo with
  |none=>simp[lQ,HT.jJ]
  |some i=>
   dsimp[lQ,HT.jJ,j6,show(1:Int)>0 by decide,if_true];by_cases h:i<0
   .dsimp[h,if_true]<;>omega
   .dsimp[h,if_false]<;>omega
 .cases hi with
  |none=>simp[lQ,HT.jJ]
  |some i=>
   dsimp[lQ,HT.jJ,j6,show(1:Int)>0 by decide,if_true];by_cases h:i<0
   .dsimp[h,if_true]<;>omega
   .dsimp[h,if_false]<;>omega
def wU(its:List Value)(lo hi:Option Int):slicePick its.toArray lo hi ψ=((its.drop (HT.jJ its.length 0 lo)).take (HT.jJ its.length its.length hi-HT.jJ its.length 0 lo)).toArray:=by
 let#[h1,h2,h3]:=y9 lo hi its.toArray.size;unfold slicePick;rw[h1,h2,h3]
 dsimp[sliceRange_one,pick_run,aK]<;>rfl
abbrev YY(K:aI):V->Option Int->Option Int->Hp->VK->Prop:=λx lo hi H Q=>∃a xs,x=.ref a/\ij K H a xs/\∀p,H p=ψ->Q (.ref p) (upd H p (.lst (AX xs lo hi)))
def Md:UU X (YY X.K):=by
 intro pZ s σ H x v vl vu lo hi sl Q I rx hs pl pu h;let#[a,xs,rfl,hx,q]:=h;cases rx;let#[its,r,ht,hz]:=I.list hx;have hlen:=r.length;refine#["list",_,slot_list_getitem.lookup,ht.isList.typeIs,?_];refine wpAny_getItem_list_slice ht.isList hs pl pu .none (#v[]) ?_ (by rw[aK]<;>omega);rw[wU,<-hlen]
 refine#[.ref s.heap.objs.size,_,I.laid (t':=s.toks) (o:=.lst (AX xs lo hi)) (λb ob q=>aJ _ q) (aq _) ?_,rfl,q _ (I.dQ.fresh (aq _))];exact#[aF (t8 xs lo hi) hz,_,0,(r.drop (HT.jJ xs.length 0 lo)).take (HT.jJ xs.length xs.length hi-HT.jJ xs.length 0 lo),aZ _ rfl]
abbrev qj:V->Bool
 |.b7=>ζ
 |.bl _=>ζ
 |.int _=>ζ
 |.str _=>ζ
 |_=>ϑ
abbrev Me:V->V->Bool
 |.b7,.b7=>ζ
 |.bl a,.bl b=>a==b
 |.bl a,.int b=>(if a then 1 else 0)== b
 |.int a,.bl b=>a==(if b then 1 else 0)
 |.int a,.int b=>a==b
 |.str a,.str b=>a==b
 |_,_=>ϑ
def Ql(ry:RelV y u)(rx:RelV x v)(fy:qj y=ζ)(fx:qj x=ζ):wL A s u v (Me y x):=by
 cases y with
 |b7=>
  cases ry;cases x with
  |b7=>cases rx;erw[jZ _]
  |bl b=>cases rx;erw[xm b]
  |int b=>let#[t,rfl]:=rx;erw[oF b t]
  |str b=>let#[t,rfl]:=rx;erw[oG b t]
  |_=>erw[absurd (show ϑ=ζ from fx) aX]
 |bl a=>
  cases ry;cases x with
  |b7=>cases rx;erw[xn a]
  |bl b=>cases rx;erw[xo a b]
  |int b=>let#[t,rfl]:=rx;erw[yK a b t]
  |str b=>let#[t,rfl]:=rx;erw[yL a b t]
  |_=>erw[absurd (show ϑ=ζ from fx) aX]
 |int a=>
  let#[t',rfl]:=ry;cases x with
  |b7=>cases rx;erw[oC a t']
  |bl b=>cases rx;erw[yM a t' b]
  |int b=>let#[t,rfl]:=rx;erw[Ai a t' b t]
  |str b=>let#[t,rfl]:=rx;erw[ph a t' b t]
  |_=>erw[absurd (show ϑ=ζ from fx) aX]
 |str a=>
  let#[t',rfl]:=ry;cases x with
  |b7=>cases rx;erw[oE a t']
  |bl b=>cases rx;erw[yN a t' b]
  |int b=>let#[t,rfl]:=rx;erw[pj a t' b t]
  |str b=>let#[t,rfl]:=rx;erw[Aj a t' b t]
  |_=>erw[absurd (show ϑ=ζ from fx) aX]
 |_=>erw[absurd (show ϑ=ζ from fy) aX]
abbrev CS(x:V)(u:Value):Bool:=match u with
 |.none=>Me .b7 x
 |.bool b=>Me (.bl b) x
 |.int i _=>Me (.int i) x
 |.str z _=>Me (.str z) x
 |_=>ϑ
def Ib(r:RelV y u)(f:qj y=ζ):CS x u=Me y x:=by
 cases y with
 |b7=>cases r;rfl
 |bl b=>cases r;rfl
 |int i=>let#[t,rfl]:=r;rfl
 |str z=>let#[t,rfl]:=r;rfl
 |_=>erw[absurd (show ϑ=ζ from f) aX]
def rE:∀{xs:List V}{us:List Value},Vals xs us->xs.all qj=ζ->us.any (CS x)=xs.any λy=>Me y x
 |_,_,.nil,_=>rfl
 |y::xs,u::us,.cons r t,f=>by
  rw[bQ,ar] at f;rw[dm,dm,Ib r f.1,rE t f.2]
def oS(rx:RelV x v)(fx:qj x=ζ):∀{xs:List V}{us:List Value},Vals xs us->xs.all qj=ζ->∀u∈us,wL A s u v (CS x u)
 |_,_,.nil,_=>λu hu=>by cases hu
 |y::xs,u::us,.cons r t,f=>λu' hu=>by
  rw[bQ,ar] at f;rcases aN.mp hu with rfl|hu
  .rw[Ib r f.1];erw[Ql r rx f.1 fx]
  .erw[oS rx fx t f.2 u' hu]
abbrev XU(x:V)(xs:List V):Bool:=xs.any λy=>Me y x
abbrev rIn(K:aI)(neg:Bool):R2:=λx y H Q=>∃p xs,y=.ref p/\(ij K H p xs\/lO K H p xs)/\qj x=ζ/\xs.all qj=ζ/\Q (.bl (if neg then !XU x xs else XU x xs)) H
def xK:iq X (bF .In) (rIn X.K ϑ):=by
 x_go;let#[p,xs,rfl,hq,fx,fs,q]:=h;cases ry;rcases hq with hq|hq
 .let#[its,r,pl,hz]:=I.list hq
  refine SeqAt.in_listAt (CS x) pl.isList (λw hw=>oS rx fx r fs w (~~~hw)) #[.bl _,H,I,rfl,?_];rw[show its.toArray.any (CS x)=its.any (CS x) by simp,rE r fs]
  erw[q]
 .let#[its,r,pl,hz]:=I.tuple hq
  refine SeqAt.in_tupleAt (CS x) pl (λw hw=>oS rx fx r fs w (~~~hw)) #[.bl _,H,I,rfl,?_];rw[show its.toArray.any (CS x)=its.any (CS x) by simp,rE r fs]
  erw[q]
def rF:iq X (bF .NotIn) (rIn X.K ζ):=by
 x_go;let#[p,xs,rfl,hq,fx,fs,q]:=h;cases ry;rcases hq with hq|hq
 .let#[its,r,pl,hz]:=I.list hq
  refine Fi (CS x) pl.isList (λw hw=>oS rx fx r fs w (~~~hw)) #[.bl _,H,I,rfl,?_];rw[show its.toArray.any (CS x)=its.any (CS x) by simp,rE r fs]
  erw[q]
 .let#[its,r,pl,hz]:=I.tuple hq
  refine SeqAt.notIn_tupleAt (CS x) pl (λw hw=>oS rx fx r fs w (~~~hw)) #[.bl _,H,I,rfl,?_];rw[show its.toArray.any (CS x)=its.any (CS x) by simp,rE r fs]
  erw[q]
def za:iq X (bF .NotIn) (λx y H Q=>∃i j,x=.str i/\y=.str j/\Q (.bl (!(!(Builtin.Str.occurrences j i 0 j.length 1).isEmpty))) H):=by
 x_go;let#[i,j,rfl,rfl,q]:=h;let#[t,rfl]:=rx;let#[t',rfl]:=ry;erw[notIn_str #[.bl _,H,I,rfl,q]]
def rG:iI X (.type "list") (λxs H Q=>∃p ys,xs=[.ref p]/\(ij X.K H p ys\/lO X.K H p ys)/\∀l,H l=ψ->Q (.ref l) (upd H l (.lst ys))):=by
 k_go;let#[p,ys,rfl,hq,q]:=h;let#[u,rfl,rx]:=vals1 r;cases rx;have fin:∀(its:List Value),Vals ys its->ys.length<=sizeLine->∀(h':Heap)(c':Nat),(∀b o',s.heap.get? b=ξ o'->h'.get? b=ξ o') ->
   h'.get? s.heap.objs.size=ξ {cls:=.type "list",dict:=ψ,data:=.seq its.toArray c',slots:=#[]}->EP X pZ σ Q (.ref s.heap.objs.size) {s with heap:=h'}:=λits r' hz h' c' kp e=>
  #[.ref s.heap.objs.size,_,I.laid (t':=s.toks) kp (aq _) (show d7 X.prog X.w _ h' _ (.lst ys) from #[hz,its,c',r',e]),rfl,q _ (I.dQ.fresh (aq _))]
 rcases hq with hq|hq
 .let#[its,r',pl,hz]:=I.list hq
  have hlen:=r'.length;let#[o,ho,hc,n,hd]:=pl.isList;exact call_list_seq p (.inl rfl) ho hc hd (λh' c' kp e=>fin its r' hz h' c' kp e) (by dsimp[aK]<;>omega)
 .let#[its,r',pl,hz]:=I.tuple hq
  have hlen:=r'.length;let#[o,ho,hc,n,hd]:=pl;exact call_list_seq p (.inr rfl) ho hc hd (λh' c' kp e=>fin its r' hz h' c' kp e) (by dsimp[aK]<;>omega)
def wV:iI X (.type "tuple") (λxs H Q=>∃p ys,xs=[.ref p]/\((ij X.K H p ys/\∀l,H l=ψ->Q (.ref l) (upd H l (.tup ys)))\/(lO X.K H p ys/\Q (.ref p) H))):=by
 k_go;let#[p,ys,rfl,h]:=h;let#[u,rfl,rx]:=vals1 r;cases rx;rcases h with⟨hq,q⟩|⟨hq,q⟩
 .let#[its,r',pl,hz]:=I.list hq
  have hlen:=r'.length;refine call_tuple_list pl.isList (λh' kp=>?_) (by dsimp[aK]<;>omega);have I1:Inv X pZ σ H {s with heap:=h'}:=I.kept (t':=s.toks) kp;have I2:Inv X pZ σ (upd H h'.objs.size (.tup ys)) {s with heap:=h'.push {cls:=.type "tuple",data:=.seq its.toArray} }:=
   I1.laid (t':=s.toks) (λb o e=>aJ _ e) (aq _) (show d7 X.prog X.w _ _ _ (.tup ys) from #[hz,its,r',Hq _ _])
  exact#[.ref h'.objs.size,_,I2,rfl,q _ (I1.dQ.fresh (aq _))]
 .let#[its,r',pl,hz]:=I.tuple hq
  erw[call_tuple_same pl #[.ref p,H,I,rfl,q]]
abbrev XW(K:aI)(T:String)(x:V)(H:Hp):Prop:=match x with
 |.str _=>T="str"
 |.int _=>T="int"
 |.ref p=>(T="list"/\∃xs,ij K H p xs)\/(T="tuple"/\∃o,K.lookup p=ξ o/\o.cls=.type "tuple"/\o.dict=ψ) \/
   (T="dict"/\((∃kvs,H p=ξ (.dK kvs))\/(∃kvs,H p=ξ (.dT kvs))\/∃kvs,H p=ξ (.dP kvs)))\/(T="set"/\∃S n,H p=ξ (.set S n))
 |_=>False
def Ic(I:Inv X pZ σ H s)(r:RelV x v)(ty:XW X.K T x H):
  s.TypeIs v T/\∀a,v=.ref a->∃ob,s.heap.get? a=ξ ob/\ob.dict=ψ:=by
 cases x with
 |str z=>
  let#[t,rfl]:=r;cases (show T="str" from ty);exact#[typeIs_str s z t,λ_ e=>nomatch e]
 |int i=>
  let#[t,rfl]:=r;cases (show T="int" from ty);exact#[typeIs_int s i t,λ_ e=>nomatch e]
 |ref p=>
  cases r;rcases ty with⟨rfl,xs,hq⟩|⟨rfl,o,hk,hc,hd⟩|⟨rfl,hk⟩|⟨rfl,S,n,hk⟩
  .let#[its,_,pl,_]:=I.list hq
   refine#[pl.isList.typeIs,λa e=>?_];cases e;let#[o,n,e,c,hd,_]:=pl;exact#[o,e,hd]
  .refine#[#[o,I.yT p o hk,hc],λa e=>?_]
   cases e;exact#[o,I.yT _ o hk,hd]
  .have z:∃o,s.heap.get? p=ξ o/\o.ExactDict:=by
    rcases hk with⟨kvs,hk⟩|⟨kvs,hk⟩|⟨kvs,hk⟩<;>(obtain⟨_,_,_,_,o,_,_,e,ex,_⟩:=I.dQ p _ hk;exact#[o,e,ex])
   let#[o,e,ex]:=z;refine#[#[o,e,ex.1],λa e2=>?_];cases e2;exact#[o,e,ex.2.1]
  .let#[o,_,_,_,e,ex,_]:=I.dQ p _ hk
   refine#[#[o,e,ex.1],λa e2=>?_];cases e2;exact#[o,e,ex.2.1]
 |_=>erw[aV ty]
abbrev YZ(K:aI)(T:String)(r:V->List V->Hp->VK->Prop)(to:TE):TE:=λσ H Q=>to σ H λx H1=>XW K T x H1/\r x [] H1 Q
abbrev tBM(K:aI)(T:String)(r:V->List V->Hp->VK->Prop)(to:TE)(t:TA):TE:=λσ H Q=>to σ H λx H1=>XW K T x H1/\t σ H1 λxs H2=>r x xs H2 Q
variable{o e:Expr}{es:List Expr}{to:TE}{t:TA}{name:Str}{apos cpos:Pos}{T id:String}{r:V->List V->Hp->VK->Prop}
def Ie(pa:PlainAttrs T)(slot:Slot T name id)(hty:typeOf (.builtin id)=pure (.type "method_descriptor"))(hm:Cd X id r)(ho:PE X o to)
  (hbase:iG o name X.env (eval o X.env)=eval o X.env:=by rfl) (hline:(apos.endLine==cpos.line)=ζ:=by rfl):PE X (.Call (.Attribute o name apos) [] [] cpos) (YZ X.K T r to):=by
 k_ne;rwa[wpAny_Call_method0_late hbase hline (eJ (ho pZ s σ H _ I h) λv s1 h9=>?_)];let#[x,H1,I1,r1,ty,q1]:=h9;let#[h1,h2]:=Ic I1 r1 ty;exact#[T,id,pa,slot,hty,h1,h2,jG rfl (PySem.evalArgs_none (hm pZ s1 σ H1 x [] v [] Q I1 r1 .nil q1))]
def vn(pa:PlainAttrs T)(slot:Slot T name id)(hty:typeOf (.builtin id)=pure (.type "method_descriptor"))(hm:Cd X id r)(ho:PE X o to)(ha:PA X (e::es) t)
  (hbase:iG o name X.env (eval o X.env)=eval o X.env:=by rfl)
  (hfew:((fN cpos (bB (e::es) X.env)).all (λx=>!x.1)&&(backToKw cpos (gM [] X.env)).all (λx=>x.1.isSome)
   && decide ((e::es).length+([]:List oI).length+(if ([]:List oI).isEmpty then 0 else 1)<30))=ζ:=by rfl)
  (hline:(apos.endLine==cpos.line)=ζ:=by rfl) (hs:bB (e::es) X.env=(ϑ,eval e X.env)::bB es X.env:=by rfl) (hplain:(fN cpos (bB es X.env)).any (·.1)=ϑ:=by rfl):
  PE X (.Call (.Attribute o name apos) (e::es) [] cpos) (tBM X.K T r to t):=by
 k_ne;refine wpAny_Call_method_late hbase hfew hline rfl (eJ (ho pZ s σ H _ I h) λv s1 h9=>?_);let#[x,H1,I1,r1,ty,q1]:=h9;let#[h1,h2]:=Ic I1 r1 ty;refine#[T,id,pa,slot,hty,h1,h2,?_];have hA:=ha cpos pZ s1 σ H1 _ I1 q1;rw[hs] at hA ⊢;refine jG (by show(ϑ||(fN cpos (bB es X.env)).any (·.1))=ϑ;rw[hplain]<;>rfl) (p8 ?_);refine eJ hA λus s2 h9=>?_
 let#[vs,H2,I2,r2,q2]:=h9;erw[hm pZ s2 σ H2 x vs v us Q I2 r1 r2 q2]
end
abbrev Y0(X:Cx)(id:String)(r:V->List V->Hp->VK->Prop):Prop:=
 ∀(pZ:List (Addr×Obj))(s:aD)(σ:St)(H:Hp)(x:V)(xs:List V)(v:Value)(us:List Value)(Q:VK),Inv X pZ σ H s->RelV x v->Vals xs us->r x xs H Q ->
  wpAny (bg X.prog X.w) X.A (call (.builtin id) (v::us)) (EP X pZ σ Q) X.xe s
def Vals.one:∀{x:V}{us:List Value},Vals [x] us->∃u,us=[u]/\RelV x u
 := by
 intro _ _ h;cases h with|cons r q=>cases q;exact#[_,rfl,r]
def Vals.two:∀{x y:V}{us:List Value},Vals [x,y] us->∃u v,us=[u,v]/\RelV x u/\RelV y v
 := by
 intro _ _ _ h;cases h with|cons r q=>cases q with|cons q q'=>cases q';exact#[_,_,rfl,r,q]
def Vals.eraseIdx:∀{xs:List V}{us:List Value}(i:Nat),Vals xs us->Vals (xs.eraseIdx i) (us.eraseIdx i)
 |_,_,_,.nil=>.nil
 |_,_,0,.cons _ t=>t
 |_,_,i+1,.cons r t=>.cons r (Vals.eraseIdx i t)
def xM{α:Type}:∀(l:List α)(i:Nat),(l.eraseIdx i).length<=l.length
 |[],_=>aq _
 |_::_,0=>fF _
 |_::r,i+1=>cB (xM r i)
section
variable{X:Cx}{pZ:List (Addr×Obj)}{σ:St}{H:Hp}{s:aD}{l b:Addr}{xs ys zs:List V}
def Inv.Qm{its its':List Value}{n:Nat}{f:Array Value->Array Value}{t':Nat}(I:Inv X pZ σ H s)(hH:H l=ξ (.lst xs))
  (e:s.heap.get? l=ξ {cls:=.type "list",data:=.seq its.toArray n}) (hf:f its.toArray=its'.toArray) (hv:Vals ys its') (hz:ys.length<=sizeLine):
  Inv X pZ σ (upd H l (.lst ys)) {s with heap:=s.heap.update l (sH f),toks:=t'}:=by
 have q:=PySem.IsL.update e f;rw[hf] at q;rwa[I.write (x:=l) (e:=l) (%[hH|trivial]) (.inl rfl) (λb' u hb hu=>(B3 s.heap (sH f) (cJ hb)).trans hu) #[_,q] ?_];exact#[hz,its',_,hv,q]
def Inv.UZ(I:Inv X pZ σ H s)(hv:Vals ys its)(hz:ys.length<=sizeLine):
  Inv X pZ σ (upd H s.heap.objs.size (.lst ys)) {s with heap:=s.heap.push {cls:=.type "list",data:=.seq its.toArray},toks:=t'}:=
 I.laid (λ_ _ q=>aJ _ q) (aq _) #[hz,its,0,hv,aZ _ rfl]
def Inv.fresh(I:Inv X pZ σ H s):H s.heap.objs.size=ψ:=I.dQ.fresh (aq _)
def Inv.CT(I:Inv X pZ σ H s)(hH:H l=ξ (.lst xs)):xs.length<=sizeLine/\∃(its:List Value)(n:Nat),Vals xs its/\xs.length=its.length/\s.heap.get? l=ξ {cls:=.type "list",data:=.seq its.toArray n}:=by
 let#[z,its,n,r,e]:=I.dQ l _ hH;exact#[z,its,n,r,r.length,e]
def Ig(h:n<=sizeLine):Builtin.List.listTooLong n=ϑ:=by
 unfold Builtin.List.listTooLong;erw[decide_eq_false ∅]
end
section
variable{X:Cx}
abbrev Mf:V->List V->Hp->VK->Prop:=λx vs H Q=>∃l xs y,x=.ref l/\vs=[y]/\H l=ξ (.lst xs)/\xs.length<sizeLine/\Q .b7 (upd H l (.lst (xs++[y])))
def sQ:Y0 X "list.append" Mf:=by
 intro pZ s σ H x vs v us Q I rx rv h;let#[l,xs,y,rfl,rfl,hH,hz,q]:=h;cases rx;let#[u,rfl,ru]:=rv.one;let#[z,its,n,r,hl,e]:=I.CT hH;rwa[Ck F.slot_list_append #[_,e,rfl] F.entry_list_append (F.args_list_append_2 _ _) (PySem.list_append l its.toArray n u (by rw[aK];omega)) #[e,?_]];refine#[.b7,_,I.Qm (its':=its++[u]) hH e (#v[]) (r.append (.cons ru .nil)) ?_,rfl,q];rw[aj,gO]
 omega
abbrev Mg:V->List V->Hp->VK->Prop:=λx vs H Q=>∃l b xs zs,x=.ref l/\vs=[.ref b]/\H l=ξ (.lst xs)/\H b=ξ (.lst zs)/\xs.length+zs.length<=sizeLine/\Q .b7 (upd H l (.lst (xs++zs)))
def xN:Y0 X "list.extend" Mg:=by
 intro pZ s σ H x vs v us Q I rx rv h;let#[l,b,xs,zs,rfl,rfl,hH,hB,hz,q]:=h;cases rx;let#[u,rfl,ru]:=rv.one;cases ru;let#[z,its,n,r,hl,e]:=I.CT hH;let#[z2,its2,n2,r2,hl2,e2]:=I.CT hB;have hsz:its.toArray.size+its2.toArray.size<=sizeLine:=by rw[aK,aK];omega
 have hlong:¬(!its.toArray.isEmpty&&Builtin.List.listTooLong (its.toArray.size+its2.toArray.size))=ζ:=by
  rw[Ig hsz,Bool.and_false]
  erw[aX]
 refine Ck F.slot_list_extend #[_,e,rfl] F.entry_list_extend (F.args_list_extend_2 _ _)
  (AutoSeq1.list_extend_list_list_0 l its.toArray n b its2.toArray n2 hlong (by rw[aK];omega) ∅) #[e,e2,?_]
 refine#[.b7,_,I.Qm (its':=its++its2) hH e (#v[]) (r.append r2) ?_,rfl,q];rw[aj]
 omega
abbrev Qn:V->List V->Hp->VK->Prop:=λx vs H Q=>∃l xs i k y,x=.ref l/\vs=[.int i]/\H l=ξ (.lst xs)/\-(2^63)<=i/\i<2^63/\G8 i xs.length=ξ k/\xs[k]?=ξ y/\Q y (upd H l (.lst (xs.eraseIdx k)))
def Ih:Y0 X "list.pop" Qn:=by
 intro pZ s σ H x vs v us Q I rx rv h;let#[l,xs,i,k,y,rfl,rfl,hH,h1,h2,hk,hy,q]:=h;cases rx;let#[u,rfl,ru]:=rv.one;let#[t,rfl]:=ru;let#[z,its,n,r,hl,e]:=I.CT hH;let#[w,hw,rw']:=r.get hy;refine Ck F.slot_list_pop #[_,e,rfl] F.entry_list_pop (F.args_list_pop_2 _ _)
  (MeetsSeq.list_pop_at l its.toArray n i t k w (fitsIndex_both h1 h2) (by rw[aK,<-hl];erw[hk]) (by rw[<-B4];erw[hw]) (by rw[aK];omega)) #[e,?_]
 refine#[y,_,I.Qm (its':=its.eraseIdx k) hH e ?_ (r.eraseIdx k) ?_,rw',q]
 .show its.toArray.eraseIdxIfInBounds k=(its.eraseIdx k).toArray
  rw[List.eraseIdxIfInBounds_toArray]
 .have:=xM xs k
  omega
abbrev Y1:R2:=λx y H Q=>∃l b xs zs,x=.ref l/\y=.ref b/\H l=ξ (.lst xs)/\H b=ξ (.lst zs)/\xs.length+zs.length<=sizeLine/\∀p,H p=ψ->Q (.ref p) (upd H p (.lst (xs++zs)))
def Qo:iq X (cQ .Add) Y1:=by
 x_go;let#[l,b,xs,zs,rfl,rfl,hH,hB,hz,q]:=h;cases rx;cases ry;let#[z,its,n,r,hl,e]:=I.CT hH;let#[z2,its2,n2,r2,hl2,e2]:=I.CT hB;rwa[PySem.P.add_list e e2 ?_ (by rw[aK,aK];omega)];have ea:its.toArray++its2.toArray=(its++its2).toArray:=by simp
 rw[ea]
 exact#[.ref _,_,I.UZ (t':=s.toks) (r.append r2) (by rw[aj];omega),rfl,q _ I.fresh]
end
end L2
namespace Att
open PySem PySem.W PySem.Calls PyProof.Rows
def uB:∀(ns:List Int)(vs:List Value),WellAll P h vs (ns.map WData.int)->Ht vs ns:=by
 intro ns;induction ns with
 |nil=>
  intro vs w;rw[jM] at w;cases w;erw[.nil]
 |cons n ns ih=>
  intro vs w;rw[az] at w;cases w with
  |cons a b=>
   cases a;erw[.cons _ _ (ih _ b)]
def FK{l:Hu}{n:Nat}(hn:l.most=ξ n){P:Params}{h:Heap}{args:List WData}{vals:List Value}
  (hpre:l.row.toRowW.claim.pre args=ζ) (hwl:WellAll P h vals args):
  ∃a vs ns,vals=[bu a]/\args=[WData.list (ns.map WData.int)]/\h.get? a=ξ {cls:=.type "list",data:=.seq vs.toArray}/\Ht vs ns/\ns.length<=n:=by
 have hsh:WShape.hasAll [] args [.list .int]=ζ:=(pre_splitW hpre).1;have hc:l.pre.holds [] {args:=args}= ζ:=(pre_splitW hpre).2;let#[d,r,rfl,h1,h2]:=hasAllW_cons hsh;obtain rfl:=hasAllW_nil h2;let#[xs,rfl,h3]:=hasW_list h1;let#[ns,rfl]:=items_int h3;have hlen:ns.length<=n:=by
  unfold OpenLaw.pre at hc;have h4:(WTm.not (.lt (.lit (.int (n:Int))) (.len (.arg 0)))).holds [] {args:=[.list (ns.map .int)]}= ζ:=by
   have h4:=(holds_andW hc).1;rw[hn] at h4;erw[h4]
  have h5:=condW_of h4 (w_not (w_lt w_lit (w_len_list (w_arg rfl))));rw[ae] at h5;rwa[ou λq=>?_]
  have q':(n:Int)<((ns.length:Nat):Int):=∅
  first
   | (rw[decide_eq_true q'] at h5;erw[absurd h5 ⋯])
   | (simp at h5;omega)
 cases hwl with
 |cons w1 w2=>
  cases w2;cases w1 with
  |list ho hall=>exact#[_,_,ns,rfl,rfl,ho,uB ns _ hall,hlen]
def FL(l:Hu)(args:List WData):l.row.toRowW.claim.post args (.bool ζ) args=ζ:=
 postW_of (r:=l.row.toRowW) (X:=(ζ==ζ))
  (show WShape.has [] (.bool ζ) .bool=ζ by first|rfl|decide|simp[WShape.has,WShape.arms,WShape.armsAll])
  (show(WTm.eq .res (.lit (.bool ζ))).value [] {args:=args,res:=ξ (.bool ζ),after:=args}= ξ (.bool (ζ==ζ)) from w_eq_bool (w_res rfl) w_lit) rfl
def AY{l:Hu}{n:Nat}{q:bO}{loose:List Str}{XP:(Str->Option Value)->Heap->Prop}{YP:cC->Heap->Prop}{d:DefRec}
  (hn:l.most=ξ n) (hdf:d.params.defaults=[])
  (call:∀(w:cC)(s₀ s₁:aD)(mg mb:Str->Option Value)(fa:Addr)(o:Obj)(pm cd doc:Value)(a:Addr)(vs:List Value)(ns:List Int),
   Ground q loose [] XP w s₀ mg mb s₁.heap->YP w s₁.heap ->
   s₁.heap.get? fa=ξ o->o.data=.func (docDef d.name d.params d.body d.scope pm cd doc)->s₁.heap.CodeRec cd d.name->mg d.name=ξ (.ref fa) ->
   s₁.heap.get? a=ξ {cls:=.type "list",data:=.seq vs.toArray}->Ht vs ns->ns.length<=n->s₁.gens = #[] ->
   qx (bg l.prog w) wM (.call (.ref fa) #[[.ref a],[]]) (λr s'=>r=.ok (.ret (.bool ζ))/\OldK s₁.heap s'.heap/\s'.os=s₁.os/\qv s'.gens) s₁):
  WalkO q loose XP YP l.row.toRowW d [] (λf vs=>Fj f vs):=by
 intro w s₀ s₁ mg mb G Y fa o pm cd doc dV kV ho hd hcd hD hmg hg args vals as hpre hlay hrd hwl hlo;obtain rfl:dV=.none:=Dflts.none hD hdf;obtain rfl:kV=.none:=Dflts.noKw hD;let#[a,vs,ns,rfl,rfl,hobj,hints,hlen]:=FK hn hpre hwl;rwa[enter_call (wK (call w s₀ s₁ mg mb fa o pm cd doc a vs ns G Y ho (fd_plain hd) hcd hmg hobj hints hlen hg) λr s' hq=>?_)];let#[rfl,h2,h3,h4]:=hq;exact#[.inl #[.bool ζ,.bool ζ,[],rfl,λ_=>rfl,.bool ζ,FL l _,λ_=>#[xp,λ_ hm=>(nomatch hm)]],h2,h3,h4]
end Att
namespace L2
open PySem PySem.Spec PyProof.Rows
def xO:∀{vs:List Value}{ns:List Int},Ht vs ns->Vals (ns.map V.int) vs
 |_,_,.nil=>.nil
 |_,_,.cons n t h=>.cons #[t,rfl] (xO h)
abbrev Mh(H:Hp):Prop:=∀b,H b=ψ\/∃o xs,H b=ξ (.sC o (.lst xs))
def Ii{P:bO}{w:cC}{K:aI}{mg mb:Str->Option Value}{CX:Hg}{k:Nat}{fa a:Addr}{fd:fQ}{x:Str}{sp:Sp}{s₁:aD}{vs:List Value}{ns:List Int}
  (KX:K.In s₁.heap) (hns:s₁.heap.Ns bI mg) (hb:s₁.heap.Ns Cj mb) (hbb:∀x:Str,x≠"__name__"->mb x=kB x) (hlim:s₁.heap.NoLimit) (hg:s₁.gens = #[])
  (ha:s₁.heap.get? a=ξ {cls:=.type "list",data:=.seq vs.toArray}) (hi:Ht vs ns) (hl:ns.length<=sizeLine) (hr:jH k wM)
  (F:∀base:Heap,K.In base->base.Ns bI mg->jI P w K mg base CX k fa fd [x] sp) (hbind:∀(s:aD)(u:Value),B1 s fd #[[u],[]] [(x,u)])
  (hsp:∀H:Hp,Mh H->ij K H a (ns.map V.int)->sp [.ref a] H (λv _=>v=.bl ζ) λ_ _ _=>False)
  (hCX:∀H e s',CX [] H s₁ (λ_ _ _=>False) e s'->False):
  qx (bg P w) wM (.call (.ref fa) #[[.ref a],[]]) (λr s'=>r=.ok (.ret (.bool ζ))/\OldK s₁.heap s'.heap/\s'.os=s₁.os/\qv s'.gens) s₁:=by
 have rv:=xO hi;have lenV:=hi.length;have core:∀H:Hp,Mh H->ij K H a (ns.map V.int)->qa P w H s₁.heap->(∀b,H b≠ψ->b=a)->(H a≠ψ->K.lookup a=ψ) ->
   qx (bg P w) wM (.call (.ref fa) #[[.ref a],[]]) (λr s'=>r=.ok (.ret (.bool ζ))/\OldK s₁.heap s'.heap/\s'.os=s₁.os/\qv s'.gens) s₁:=by
  intro H hO hS dQ hA hK;have fH:∀{b:Addr}{o:Obj},s₁.heap.get? b=ξ o->H b=ψ->(yS s₁.heap H).get? b=ξ o:=λe n=>HF e n
  have noA:∀{b:Addr}{o:Obj}{es:Array p9}{ep:Nat},s₁.heap.get? b=ξ o->o.data=.dict es ep->H b=ψ:=λ{b o es ep}e d=>by
   cases q:H b with
   |none=>rfl
   |some u=>
    have e':b=a:=hA b (by rw[q];simp);subst e';rw[ha] at e;cases e;have d':Data.seq vs.toArray _=Data.dict es ep:=d;cases d'
  have nsK:∀{b:Addr}{m:Str->Option Value},s₁.heap.Ns b m->(yS s₁.heap H).Ns b m:=λ{b m} ⟨o,es,ep,e,d,r⟩=>#[o,es,ep,fH e (noA e d),d,r]
  have hKb:K.In (yS s₁.heap H):=λb o e=>fH (KX b o e) (by
   cases q:H b with
   |none=>rfl
   |some u=>
    have e':b=a:=hA b (by rw[q];simp);subst e';rw[hK (by rw[q];simp)] at e;cases e)
  have hM:Mod K mg (yS s₁.heap H):=#[hKb,nsK hns,#[mb,nsK hb,hbb],let ⟨mc,h1,h2⟩:=hlim;#[mc,nsK h1,h2]]
  have e0:CM P w K mg (yS s₁.heap H) wM [] s₁ H:=#[rfl,hM,λb o e=>LJ e,uk (Fz _ _),trivial,λb hb=>absurd (show b∈([]:List Addr) from hb) (#v[]),dQ,.of_eq hg]
  rwa[wK ((F _ hKb (nsK hns)).run wM [] s₁ H #[[.ref a],[]] [.ref a] [.ref a] _ _ hr e0 (hbind s₁ (.ref a)) (.cons rfl .nil) (hsp H hO hS)) λr s' h=>?_]
  cases r with
  |error e=>exact(hCX H e s' h).elim
  |ok fl=>
   cases fl with
   |next=>erw[aV h]
   |brk=>erw[aV h]
   |cont=>erw[aV h]
   |ret u=>
    let#[v,H',os,bare,un,hok',r',q]:=h;have q':v=.bl ζ:=q;subst q';obtain rfl:u=oq ζ:=r';refine#[rfl,OldK.of_keep λb o e=>?_,os,bare];cases q:H b with
    |none=>erw[un.keep b o e q (by intro z;exact absurd (show b∈([]:List Addr) from z) (#v[])) (#v[])]
    |some u=>
     rcases hO b with z|⟨ob,xs,z⟩
     .rw[q] at z;cases z
     .have z2:=un.yR b ob _ z
      let#[e1,_]:=dQ b _ z;let#[e2,_]:=hok' b _ z2;rw[e] at e1;cases e1;erw[e2]
 cases hk:K.lookup a with
 |some o=>
  have e:=KX a o hk;rw[ha] at e;cases e;refine core (λ_=>ψ) (λ_=>.inl rfl) (.inr #[_,vs.toArray,_,hk,rfl,rfl,rfl,%[aK,lenV|hl],~~~rv]) (λb u z=>by have z':(ψ:Option HO)=ξ u:=z;cases z') (λb z=>absurd rfl z) λz=>absurd rfl z
 |none=>
  rwa[core (λb=>if b=a then ξ (.sC {cls:=.type "list",data:=.seq vs.toArray} (.lst (ns.map V.int))) else ψ) (λb=>?_) (.inl (.inr #[{cls:=.type "list",data:=.seq vs.toArray},if_pos rfl])) (λb u z=>?_) (λb z=>?_) λ_=>hk]
  .by_cases hb:b=a
   .erw[.inr #[_,_,if_pos hb]]
   .erw[.inl (if_neg hb)]
  .by_cases hb:b=a
   .have z':=(if_pos hb).symm.trans z
    cases z';subst hb;exact#[ha,%[ae|hl],vs,_,rv,ha]
   .have z':=(if_neg hb).symm.trans z
    cases z'
  .by_cases hb:b=a
   .erw[hb]
   .erw[absurd (if_neg hb) z]
def Mi{l:PySem.W.OpenLaw}{n k:Nat}{q:bO}{loose:List Str}{XP:(Str->Option Value)->Heap->Prop}{YP:cC->Heap->Prop}{d:DefRec}{K:Params->aI}{CX:cC->Hg}{sp:cC->Sp}{x:Str}
  (hn:l.most=ξ n) (hn2:n<=sizeLine) (hdf:d.params.defaults=[]) (hr:jH k wM)
  (hY:∀(w:cC)(h:Heap),YP w h->(K w.params).In h)
  (F:∀(w:cC)(mg:Str->Option Value)(fa:Addr)(h:Heap),(K w.params).In h->h.Ns bI mg->mg d.name=ξ (.ref fa) ->
   ∃fd:fQ,(∀(s:aD)(u:Value),B1 s fd #[[u],[]] [(x,u)]) /\
    ∀base:Heap,(K w.params).In base->base.Ns bI mg->jI l.prog w (K w.params) mg base (CX w) k fa fd [x] (sp w))
  (hsp:∀(w:cC)(H:Hp)(a:Addr)(ns:List Int),ns.length<=n->Mh H->ij (K w.params) H a (ns.map V.int)->sp w [.ref a] H (λv _=>v=.bl ζ) λ_ _ _=>False)
  (hCX:∀(w:cC)(H:Hp)(s:aD)(e:Value)(s':aD),CX w [] H s (λ_ _ _=>False) e s'->False):
  PySem.W.WalkO q loose XP YP l.row.toRowW d [] (λf vs=>Fj f vs):=by
 rwa[Att.AY hn hdf λw s₀ s₁ mg mb fa o pm cd doc a vs ns G Y ho hd hcd hmg hobj hints hlen hg=>?_]
 have KX:=hY w _ Y;let#[fd,hb,hF]:=F w mg fa _ KX G.T.g hmg;erw[Ii KX G.T.g G.T.b G.T.builtins G.T.nolimit hg hobj hints (aF hlen hn2) hr hF hb (λH hO hS=>hsp w H a ns hlen hO hS) λH e s'=>hCX w H s₁ e s']
abbrev inClass(s:Stmt)(j:Nat):Stmt:=match s with
 |.ClassDef _ _ _ body _ _ _ _ _ _ _=>body.getD j (.Pass #[0,0,0,0])
 |_=>.Pass #[0,0,0,0]
abbrev l7(s:Stmt):Arguments:=match s with
 |.FunctionDef _ a _ _ _ _ _ _ _ _=>a
 |_=>{posonlyargs:=[],args:=[],vararg:=ψ,kwonlyargs:=[],kw_defaults:=[],kwarg:=ψ,defaults:=[]}
abbrev fY(s:Stmt):List Stmt:=match s with
 |.FunctionDef _ _ b _ _ _ _ _ _ _=>b
 |_=>[]
abbrev bU(s:Stmt):kC:=match s with
 |.FunctionDef _ _ _ _ _ _ sc _ _ _=>sc
 |_=>{kind:=.function,names:=[],isGenerator:=ϑ,isCoroutine:=ϑ}
@[reducible]def CU:Hg:=λ_ _ _ _ _ _=>False
@[reducible]def E0:XK:=λ_ _ _=>False
def xP:Passes CU X E0:=λ_ _ _ _ _ _ _ h=>h.elim
structure Lo(K:aI)(x qual:Str)(st:Stmt)(f:Addr)(fd:fQ):Prop where
 ex:∃(oc:Value)(od:Option Addr)(kV doc pm:Value)(an:Option Addr)(cdv ct:Value)(osl:Array (Option Value)),
  fd=kL x qual (l7 st) (fY st) (bU st) .none kV doc pm an cdv ct/\K.lookup f=ξ #[oc,od,.func fd,osl]/\vb K cdv qual=ζ
 kp:js K (.ref f)=ζ
section
variable{P:bO}{w:cC}{K:aI}{mg:Str->Option Value}{base:Heap}
def Lo.ok{x qual:Str}{st:Stmt}{f:Addr}{fd:fQ}{N ps:List Str}{k:Nat}{sp:Sp}(F:Lo K x qual st f fd)(S:l6 N ps (bU st))(len:∀vs H Q E,sp vs H Q E->vs.length=ps.length)
  (hbody:∀(cdv:Value)(A:d9)(outer:List Env)(s:aD)(H:Hp)(vs:List V)(Q:VK)(E:XK),jH k (A.deeper (sG qual (bU st) s.heap.objs.size f cdv))->sp vs H Q E ->
   ∃t,uI (CN CU P w K mg base N qual (bU st) f cdv A outer s H E).Ur (fY st) t/\t {nx:=λ_ H'=>Q .b7 H',rt:=Q} (start N vs) H):jI P w K mg base CU (k+1) f fd ps sp:=by
 let#[oc,od,kV,doc,pm,an,cdv,ct,osl,rfl,lk,hcd]:=F.ex;rwa[US lk hcd S len λA outer s H vs Q E hr hsp=>?_]
 let#[t,h,q]:=hbody cdv A outer s H vs Q E hr hsp;exact#[t,h.Ur,q]
def Lo.binds{x qual:Str}{st:Stmt}{f:Addr}{fd:fQ}{ps:List Str}(F:Lo K x qual st f fd)
  (h:∀(kV doc pm:Value)(an:Option Addr)(cdv ct:Value)(us:List Value),us.length=ps.length->LB (kL x qual (l7 st) (fY st) (bU st) .none kV doc pm an cdv ct) #[us,[]]=pure (ps.zip us)):Binds K fd ps []:=by
 let#[oc,od,kV,doc,pm,an,cdv,ct,osl,rfl,lk,hcd]:=F.ex;erw[.all (h kV doc pm an cdv ct)]
def Ij{x qual:Str}{st:Stmt}{f:Addr}{oc:Value}{od an:Option Addr}{osl:Array (Option Value)}{kV doc pm cdv ct:Value}(l:K.lookup f=ξ #[oc,od,.func (kL x qual (l7 st) (fY st) (bU st) .none kV doc pm an cdv ct),osl])
  (c:vb K cdv qual=ζ) (k:js K (.ref f)=ζ):Lo K x qual st f (kL x qual (l7 st) (fY st) (bU st) .none kV doc pm an cdv ct):=#[#[oc,od,kV,doc,pm,an,cdv,ct,osl,rfl,l,c],k]
end
section
variable{κ:Type}[DecidableEq κ]
abbrev jK(kvs:List (κ×V))(k:κ):Option V:=(kvs.find? λkv=>decide (kv.1=k)).map (·.2)
abbrev putK(kvs:List (κ×V))(k:κ)(v:V):List (κ×V):=
 if (kvs.any λkv=>decide (kv.1=k))=ζ then kvs.map (λkv=>if kv.1=k then(kv.1,v) else kv) else kvs++[(k,v)]
def ly{p:κ×V}{r:List (κ×V)}{k:κ}(e:p.1=k):jK (p::r) k=ξ p.2:=by simp[jK,d8,e]
def lz{p:κ×V}{r:List (κ×V)}{k:κ}(e:¬p.1=k):jK (p::r) k=jK r k:=by simp[jK,d8,e]
def vo(k:κ):∀kvs:List (κ×V),(kvs.any λkv=>decide (kv.1=k))=(jK kvs k).isSome
 |[]=>rfl
 |p::r=>by
  rw[dm]
  by_cases e:p.1=k
  .dsimp[ly e,decide_eq_true e,Bool.true_or,qO]
  .rw[lz e,decide_eq_false e,Bool.false_or];erw[vo k r]
def oT(kvs:List (κ×V))(k:κ)(v:V):(putK kvs k v).length<=kvs.length+1:=by
 unfold putK;split
 .rw[ae];omega
 .rw[aj,aU,dH];omega
def AZ{kvs:List (κ×V)}{k:κ}(v:V)(h:jK kvs k=ψ):putK kvs k v=kvs++[(k,v)]:=by
 unfold putK;rw[vo,h]
 erw[if_neg ⋯]
def ny.sR(r:ny o u):o.isSome=u.isSome:=by
 cases o with
 |none=>cases u with
  |none=>rfl
  |some _=>exact(show False from r).elim
 |some _=>cases u with
  |none=>exact(show False from r).elim
  |some _=>rfl
def ny.getD(r:ny o u)(rd:RelV d d'):RelV (o.getD d) (u.getD d'):=by
 cases o with
 |none=>cases u with
  |none=>erw[rd]
  |some _=>exact(show False from r).elim
 |some _=>cases u with
  |none=>exact(show False from r).elim
  |some _=>erw[r]
def KV.val{kvs:List (κ×V)}{vs:List (κ×Value)}(r:KV kvs vs)(k:κ):ny (jK kvs k) (lN vs k):=by
 unfold KV at r;induction r with
 |nil=>erw[eU]
 |@cons p q ps qs h t ih=>
  let#[h1,h2]:=h;by_cases e:p.1=k
  .have e':q.1=k:=h1.symm.trans e
   have b:lN (q::qs) k=ξ q.2:=by simp[lN,d8,e']
   rw[ly e,b];erw[h2]
  .have e':¬q.1=k:=λz=>e (h1.trans z)
   have b:lN (q::qs) k=lN qs k:=by simp[lN,d8,e']
   rw[lz e,b];erw[ih]
def KV.any(r:KV kvs vs)(k:κ):(kvs.any λkv=>decide (kv.1=k))=vs.any λkv=>decide (kv.1=k):=by
 unfold KV at r;induction r with
 |nil=>rfl
 |cons h t ih=>rw[dm,dm,ih,h.1]
def KV.Qp(r:KV kvs vs)(k:κ)(ry:RelV y u):
  KV (kvs.map λkv=>if kv.1=k then(kv.1,y) else kv) (vs.map λkv=>if kv.1=k then(kv.1,u) else kv):=by
 unfold KV at r ⊢;induction r with
 |nil=>erw[.nil]
 |@cons p q ps qs h t ih=>
  rw[az,az]
  rwa[.cons ?_ ih];let#[h1,h2]:=h;by_cases e:p.1=k
  .rw[if_pos e,if_pos (h1.symm.trans e)];exact#[h1,ry]
  .rw[if_neg e,if_neg (λz=>e (h1.trans z))];exact#[h1,h2]
def KV.put(r:KV kvs vs)(k:κ)(ry:RelV y u):KV (putK kvs k y) (vc vs k u):=by
 unfold putK vc;rw[r.any k]
 by_cases e:(vs.any λkv=>decide (kv.1=k))=ζ
 .rw[if_pos e,if_pos e];erw[r.Qp k ry]
 .rw[if_neg e,if_neg e];erw[Paired.snoc r #[rfl,ry]]
def KV.keys{kvs:List (κ×V)}{vs:List (κ×Value)}(r:KV kvs vs):kvs.map (·.1)=vs.map (·.1):=by
 unfold KV at r;induction r with
 |nil=>rfl
 |cons h t ih=>rw[az,az,ih,h.1]
def KV.length(r:KV kvs vs):kvs.length=vs.length:=Paired.length r
end
def rH(r:RelV (kV k) u):(dj P w).is k u=ζ:=by
 rcases k with i|_|x
 .let#[t,e]:=(show ∃t,u=lL i t from r);subst e;erw[AL P w i t]
 .cases (show u=gw from r);rfl
 .let#[t,e]:=(show ∃t,u=lM x t from r);subst e;erw[AM P w x t]
def Qq(e:kV a=kV b):a=b:=by
 rcases a with i|_|x<;>rcases b with j|_|y<;>cases e<;>rfl
def xQ:∀{ks:List Key}{us:List Value},Vals (ks.map kV) us->ItemsAre (dj P w) ks us
 |[],_,r=>by rw[jM] at r;cases r;erw[.nil]
 |k::ks,_,r=>by
  rw[az] at r;cases r with
  |cons h t=>erw[.cons (rH h) (xQ t)]
@[reducible]def KT(H:Hp):List (List Key×V)->List (List Key×Addr×Value)->Prop:=Paired λp q=>p.1=q.1/\H q.2.1=ξ (.tup (p.1.map kV))/\RelV p.2 q.2.2
def KT.val{H:Hp}{kvs:List (List Key×V)}{xs:List (List Key×Addr×Value)}(r:KT H kvs xs)(k:List Key):ny (jK kvs k) ((qP xs k).map (·.2)):=by
 induction r with
 |nil=>erw[eU]
 |@cons p q ps qs h t ih=>
  let#[h1,_,h2]:=h;by_cases e:p.1=k
  .have e':q.1=k:=h1.symm.trans e
   have b:qP (q::qs) k=ξ q.2:=by simp[qP,d8,e']
   rw[ly e,b];erw[h2]
  .have e':¬q.1=k:=λz=>e (h1.trans z)
   have b:qP (q::qs) k=qP qs k:=by simp[qP,d8,e']
   rw[lz e,b];erw[ih]
def KT.Qp(r:KT H kvs xs)(k:List Key)(ry:RelV y u):
  KT H (kvs.map λkv=>if kv.1=k then(kv.1,y) else kv) (xs.map (putAt k u)):=by
 induction r with
 |nil=>erw[.nil]
 |@cons p q ps qs h t ih=>
  rw[az,az]
  rwa[.cons ?_ ih];let#[h1,h2,h3]:=h;unfold putAt;by_cases e:p.1=k
  .rw[if_pos e,if_pos (h1.symm.trans e)];exact#[h1,h2,ry]
  .rw[if_neg e,if_neg (λz=>e (h1.trans z))];exact#[h1,h2,h3]
def KT.put(r:KT H kvs xs)(k:List Key)(hb:H b=ξ (.tup (k.map kV)))(ry:RelV y u):
  KT H (putK kvs k y) (storedH xs k b u):=by
 have e:(kvs.any λkv=>decide (kv.1=k))=(qP xs k).isSome:=by
  rw[vo,(r.val k).sR,Fl]
 unfold putK storedH;rw[e]
 by_cases q:(qP xs k).isSome=ζ
 .rw[if_pos q,if_pos q];erw[r.Qp k ry]
 .rw[if_neg q,if_neg q];erw[Paired.snoc r #[rfl,hb,ry]]
def KT.keeps(r:KT H kvs xs)(ht:∀b ys,H b=ξ (.tup ys)->H' b=ξ (.tup ys)):KT H' kvs xs:=
 Paired.Fy r λ_ _ z=>#[z.1,ht _ _ z.2.1,z.2.2]
section
variable{P:bO}{w:cC}{H:Hp}{h:Heap}{a:Addr}
def OE(ok:qa P w H h)(e:Rd H a u):d7 P w H h a u:=e.ok ok
def t9(ok:qa P w H h)(e:Rd H a (.dK kvs)):kvs.length<=sizeLine/\(a==cb)=ϑ/\∃vs,KV kvs vs/\h.DictOf (dj P w) a vs:=
 show d7 P w H h a (.dK kvs) from OE ok e
def Ik(ok:qa P w H h)(e:H a=ξ (.dK kvs)):kvs.length<=sizeLine/\(a==cb)=ϑ/\∃vs,KV kvs vs/\h.DictOf (dj P w) a vs:=t9 ok (.inl e)
def qz(ok:qa P w H h)(e:H a=ξ (.tup (ks.map kV))):(ng (dj P w)).is h ks a:=by
 let#[_,its,r,o,h1,h2,n,h3]:=(show d7 P w H h a (.tup (ks.map kV)) from ok a _ e)
 exact#[o,its.toArray,n,h1,h2,h3,~~~(xQ r)]
def vp(ok:qa P w H h)(e:Rd H a (.dT kvs)):kvs.length<=sizeLine/\(a==cb)=ϑ /\
  ∃xs,KT H kvs xs/\h.DictOfH (ng (dj P w)) a xs:=by
 let#[z,y,xs,r,o,es,ep,h1,h2,h3,h4,h5]:=(show d7 P w H h a (.dT kvs) from OE ok e)
 refine#[z,y,xs,r,o,es,ep,h1,h2,h3,h4,λx hx=>?_,h5];have all:∀{l:List (List Key×V)}{m:List (List Key×Addr×Value)},KT H l m->∀x∈m,(ng (dj P w)).is h x.1 x.2.1:=by
  intro l m q;induction q with
  |nil=>intro x hx;erw[nomatch hx]
  |@cons p q ps qs hq t ih=>
   intro x hx;rcases aN.mp hx with e|hx
   .subst e
    erw[qz ok (by rw[<-hq.1];exact hq.2.1)]
   .erw[ih x hx]
 erw[all r x hx]
def Ee(ok:qa P w H h)(e:H a=ξ (.dT kvs)):kvs.length<=sizeLine/\(a==cb)=ϑ /\
  ∃xs,KT H kvs xs/\h.DictOfH (ng (dj P w)) a xs:=vp ok (.inl e)
end
abbrev sS(H:Hp)(a:Addr)(y:V)(r:Option V):Prop:=
 (∃kvs k,Rd H a (.dK kvs)/\y=kV k/\r=jK kvs k)\/∃kvs k b,Rd H a (.dT kvs)/\y=.ref b/\H b=ξ (.tup (k.map kV))/\r=jK kvs k
abbrev U0(H:Hp)(a:Addr)(y v:V)(H':Hp):Prop:=
 (∃kvs k,H a=ξ (.dK kvs)/\y=kV k/\kvs.length<sizeLine/\H'=upd H a (.dK (putK kvs k v))) \/
 ∃kvs k b,H a=ξ (.dT kvs)/\y=.ref b/\H b=ξ (.tup (k.map kV))/\kvs.length<sizeLine/\H'=upd H a (.dT (putK kvs k v))
def sS.k{H:Hp}{a:Addr}{kvs:List (Key×V)}{k:Key}(e:H a=ξ (.dK kvs)):sS H a (kV k) (jK kvs k):=.inl #[kvs,k,.inl e,rfl,rfl]
section
variable{X:Cx}{pZ:List (Addr×Obj)}{σ:St}{H:Hp}{s:aD}{a:Addr}{y v:V}{u r:Value}{o:Option V}{A:d9}{E:Value->aD->Prop}
def Inv.big(I:Inv X pZ σ H s):cb<s.heap.objs.size:=by
 have h:bI<s.heap.objs.size:=(I.mod.glob.keeps I.bk).lt;erw[Cm ⋯ h]
def FN(hu:A.units+1<gv)(I:Inv X pZ σ H s)(g:sS H a y (ξ v))(ry:RelV y u)(h:∀w' s',Inv X pZ σ H s'->RelV v w'->Q w' s'):
  wpAny (bg X.prog X.w) A (oH (.ref a) u) Q E s:=by
 rcases g with⟨kvs,k,e,ey,l⟩|⟨kvs,k,b,e,ey,eb,l⟩
 .subst ey
  let#[z,hd,vs,rel,dd]:=t9 I.dQ e;let#[w',hw,rw']:=ny.some_of (v:=v) (o:=lN vs k) (%[l|rel.val k]);erw[wpAny_getItem_of (rH ry) dd.mapOf hw (h w' _ (I.tok _) rw')]
 .subst ey
  cases (show u=bu b from ry);let#[z,hd,xs,rel,dd]:=vp I.dQ e;let#[w',hw,rw']:=ny.some_of (v:=v) (o:=(qP xs k).map (·.2)) (%[l|rel.val k]);let#[p,hp,hp2]:=au.mp hw;rwa[wpAny_getItem_heap (gU hu) (qz I.dQ eb) dd hp ?_];rw[hp2]
  erw[h w' _ (I.tok _) rw']
def Mj(hu:A.units+1<gv)(I:Inv X pZ σ H s)(g:sS H a y o)(ry:RelV y u)(h:∀s',Inv X pZ σ H s'->Q (.bool (!o.isSome)) s'):
  wpAny (bg X.prog X.w) A (bF .NotIn u (.ref a)) Q E s:=by
 rcases g with⟨kvs,k,e,ey,l⟩|⟨kvs,k,b,e,ey,eb,l⟩
 .subst ey
  let#[z,hd,vs,rel,dd]:=t9 I.dQ e;rwa[wpAny_notIn_of (rH ry) hd dd.mapOf ?_];rw[<-(rel.val k).sR,<-l]
  erw[h _ (I.tok _)]
 .subst ey
  cases (show u=bu b from ry);let#[z,hd,xs,rel,dd]:=vp I.dQ e;rwa[wpAny_notIn_heap (gU hu) (qz I.dQ eb) hd dd ?_];have q:=(rel.val k).sR;rw[Fl] at q;rw[<-q,<-l]
  erw[h _ (I.tok _)]
def pD(I:Inv X pZ σ H s)(mu:TN (H a))(hs:gD a s.heap h')(he:∃q,h'.get? a=ξ q)(new:d7 X.prog X.w (upd H a ob) h' a ob):
  Inv X pZ σ (upd H a ob) {s with heap:=h',toks:=t'}:=
 I.write (x:=a) (e:=a) mu (.inl rfl) (λb q hb z=>(hs.2 b hb).trans z) he new
def zb(z:kvs.length<=sizeLine)(hd:(a==cb)=ϑ)(rel:KV kvs vs)(dd:h'.DictOf (dj P w) a vs):
  d7 P w H' h' a (.dK kvs):=#[z,hd,vs,rel,dd]
def FO(hu:A.units+1<gv)(I:Inv X pZ σ H s)(g:U0 H a y v H')(ry:RelV y u)(rv:RelV v r)(h:∀s',Inv X pZ σ H' s'->Q () s'):
  wpAny (bg X.prog X.w) A (setItem (.ref a) u r) Q E s:=by
 rcases g with⟨kvs,k,e,ey,l,eH⟩|⟨kvs,k,b,e,ey,eb,l,eH⟩
 .subst ey eH
  let#[z,hd,vs,rel,dd]:=Ik I.dQ e;have hz:vs.length<=sizeLine:=by rw[<-rel.length];erw[z]
  have hl:(putK kvs k v).length<=sizeLine:=by have:=oT kvs k v;omega
  rwa[wpAny_setItem_pairs (hsz:=hz) (rH ry) dd λh' dd' hs=>h _ ?_]
  have he:∃q,h'.get? a=ξ q:=let ⟨q,_,_,hq,_⟩:=dd';#[q,hq];erw[pD I (by rw[e];exact eU) hs he (zb hl hd (rel.put k rv) dd')]
 .subst ey eH
  cases (show u=bu b from ry);let#[z,hd,xs,rel,dd]:=Ee I.dQ e;have hz:xs.length<=sizeLine:=by rw[<-Paired.length rel];erw[z]
  have hl:(putK kvs k v).length<=sizeLine:=by have:=oT kvs k v;omega
  rwa[wpAny_setItem_heap (hsz:=hz) (gU hu) (qz I.dQ eb) dd λh' dd' hs=>h _ ?_]
  let#[q,es,ep,hq,h2,h3,h4,_,h5]:=dd';rwa[pD I (%[e|eU]) hs #[q,hq] #[hl,hd,_,(rel.put k eb rv).keeps λc ys ec=>?_,q,es,ep,hq,h2,h3,h4,h5]];rw[cq (Ug ec e (λz=>nomatch z))]
  erw[ec]
end
section
variable{X:Cx}{pZ:List (Addr×Obj)}{σ:St}{H:Hp}{s:aD}{a:Addr}{kvs:List (Key×V)}{k:Key}{u:Value}{A:d9}{E:Value->aD->Prop}
def U1(I:Inv X pZ σ H s)(e:Rd H a (.dK kvs))(h:∀t s',Inv X pZ σ H s'->Q (.int kvs.length t) s'):wpAny (bg X.prog X.w) A (call (.builtin "len") [.ref a]) Q E s:=by
 let#[z,hd,vs,rel,dd]:=t9 I.dQ e;refine call_len_dict hd dd (by rw[<-rel.length];rw[lP] at z;omega) ?_;rw[<-rel.length]
 erw[h _ _ (I.tok _)]
end
abbrev U2(i:Expr):Prop:=∀ov iv,Ah i ϑ ov iv=operate [ov,iv] (oH ov iv)
def Ml{prog:bO}{w:cC}{A:d9}{E:Value->aD->Prop}{s:aD}{env:Env}{value slice:Expr}{pos:Pos}{T id:String}{Q:Value->aD->Prop}
  (hl:typeLookup (.type T) "__getitem__"=pure (ξ (.builtin id))) (hs:U2 slice)
  (h:wpAny (bg prog w) A (eval value env) (λo s₁=>wpAny (bg prog w) A (eval slice env) (λi s₂=>s₂.TypeIs o T/\wpAny (bg prog w) A (oH o i) Q E s₂) E s₁) E s):
  wpAny (bg prog w) A (eval (.Subscript value slice pos) env) Q E s:=by
 rwa[Subscript_ (fV h (λo s₁ h₁=>fV h₁ (λi s₂ h₂=>?_) λ_ _ x=>x) λ_ _ x=>x)];let#[hT,h₂]:=h₂;unfold Fh;rwa[af ?_];rw[getitemInPython_of_ne hT.not_modules]
 refine af (Ay hT hl ?_);have fin:wpAny (bg prog w) A (Ah slice ϑ o i) (λr s₃=>wpAny (bg prog w) A (letTemporaryGo value o r>>=λ_=>pure r) Q E s₃) E s₂:=by
  rw[hs o i]
  erw[wpAny_operating (fV h₂ (λr s₃ h₃=>af (wpAny_letTemporaryGo (aA h₃))) λ_ _ x=>x)]
 first
  |exact aA (af fin)
  |exact af (aA (af fin))
  |exact af fin
def A0(I:Inv X pZ σ H s)(g:sS H a y o):s.TypeIs (.ref a) "dict":=by
 rcases g with⟨kvs,k,e,_,_⟩|⟨kvs,k,b,e,_,_,_⟩
 .let#[_,_,vs,_,dd]:=t9 I.dQ e
  erw[dd.typeIs]
 .let#[_,_,xs,_,dd]:=vp I.dQ e
  erw[dd.typeIs]
abbrev U3(td ty:TE):TE:=λσ H Q=>td σ H λx H1=>ty σ H1 λy H2=>∃a v,x=.ref a/\sS H2 a y (ξ v)/\Q v H2
abbrev U4(td ty tv:TE):TS:=λD σ H=>tv σ H λv H1=>td σ H1 λx H2=>ty σ H2 λy H3=>∃a H4,x=.ref a/\U0 H3 a y v H4/\D.nx σ H4
section
variable{X:Cx}{o i e value:Expr}{pos pos' tpos:Pos}{td ty tv:TE}
def Mm(hu:X.A.units+1<gv)(ho:PE X o td)(hi:PE X i ty)(hs:U2 i):PE X (.Subscript o i pos) (U3 td ty):=by
 k_ne;rwa[Ml PySem.F.slot_dict_getitem.lookup hs (eJ (ho pZ s σ H _ I h) λu s1 h9=>?_)];let#[x,H1,I1,rx,q1]:=h9;rwa[eJ (hi pZ s1 σ H1 _ I1 q1) λiv s2 h9=>?_]
 let#[y,H2,I2,ry,a,v,ex,g,q2]:=h9;subst ex;obtain rfl:u=bu a:=rx;exact#[A0 I2 g,FN hu I2 g ry λw' s3 I3 rw'=>#[v,H2,I3,rw',q2]]
def Mn(hu:X.A.units+1<gv)(ho:PE X o td)(hi:PE X i ty)(hv:PE X value tv)(hs:fP value (ξ (.Subscript o i pos')) pos.line X.env=pure ϑ):
  PS X (.Assign [.Subscript o i pos'] value pos) (U4 td ty tv):=by
 intro pZ s σ H D I h;rwa[Hv (eJ (hv pZ s σ H _ I h) λr s1 h9=>?_) hs];let#[v,H1,I1,rv,q1]:=h9;rwa[eJ (ho pZ s1 σ H1 _ I1 q1) λu s2 h9=>?_]
 let#[x,H2,I2,rx,q2]:=h9;rwa[eJ (hi pZ s2 σ H2 _ I2 q2) λiv s3 h9=>?_]
 let#[y,H3,I3,ry,a,H4,ex,g,q3]:=h9;subst ex;obtain rfl:u=bu a:=rx;erw[FO hu I3 g ry rv λs4 I4=>#[σ,H4,I4,q3]]
end
def A1(h:Heap)(hb:cb<h.objs.size):d7 P w H (h.push {cls:=.type "dict",data:=.dict #[]}) h.objs.size (.dK []):=
 #[bJ _,beq_eq_false_iff_ne.mpr (cJ (ba hb)),[],.nil,B5 h]
def Il(h:Heap)(hb:cb<h.objs.size):d7 P w H (h.push {cls:=.type "dict",data:=.dict #[]}) h.objs.size (.dT []):=
 #[bJ _,beq_eq_false_iff_ne.mpr (cJ (ba hb)),[],.nil,_,#[],0,aZ _ rfl,#[rfl,rfl,rfl],rfl,rfl,xq]
abbrev CV:List (TE×TE)->St->Hp->(List (V×V)->Hp->Prop)->Prop
 |[],_,H,Q=>Q [] H
 | (tk,tv)::r,σ,H,Q=>tk σ H λx H1=>tv σ H1 λy H2=>CV r σ H2 λps H3=>Q ((x,y)::ps) H3
@[reducible]def VV:List (V×V)->List (Value×Value)->Prop:=Paired λp q=>RelV p.1 q.1/\RelV p.2 q.2
abbrev XX(X:Cx)(pos:Pos)(keys:List (Option Expr))(values:List Expr)(trs:List (TE×TE)):Prop:=
 ∀(pZ:List (Addr×Obj))(s:aD)(σ:St)(H:Hp)(Q:List (V×V)->Hp->Prop),Inv X pZ σ H s->CV trs σ H Q ->
  wpAny (bg X.prog X.w) X.A (evalPairs (pairTrees keys values X.env pos)) (λvs s'=>∃ps H',Inv X pZ σ H' s'/\VV ps vs/\Q ps H') X.xe s
def Mo:XX X pos [] [] []:=λpZ s σ H Q I h=>pairTrees_nil_walk #[[],H,I,.nil,h]
def Im(hk:PE X k tk)(hv:PE X v tv)(hr:XX X pos ks vs trs):
  XX X pos (ξ k::ks) (v::vs) ((tk,tv)::trs):=λpZ s σ H Q I h=>
 pairTrees_cons_walk (eJ (hk pZ s σ H _ I h) λu s1 #[x,H1,I1,rx,q1]=>eJ (hv pZ s1 σ H1 _ I1 q1) λw2 s2 #[y,H2,I2,ry,q2]=>
  eJ (hr pZ s2 σ H2 _ I2 q2) λws s3 #[ps,H3,I3,rel,q3]=>#[(x,y)::ps,H3,I3,.cons #[rx,ry] rel,q3])
abbrev vq(kvs more:List (Key×V)):List (Key×V):=more.foldl (λacc kv=>putK acc kv.1 kv.2) kvs
def KV.merge:∀{more:List (Key×V)}{rs:List (Key×Value)}{kvs:List (Key×V)}{vs:List (Key×Value)},KV more rs->KV kvs vs->KV (vq kvs more) (merged vs rs):=by
 intro more rs kvs vs r;unfold KV at r;induction r generalizing kvs vs with
 |nil=>intro q;erw[q]
 |@cons p q ps qs h t ih=>
  intro r0;have e:KV (putK kvs p.1 p.2) (vc vs q.1 q.2):=by
   have:=r0.put p.1 h.2;rw[<-h.1];erw[this]
  erw[ih e]
def qk:∀(more kvs:List (Key×V)),(vq kvs more).length<=kvs.length+more.length
 |[],kvs=>by show kvs.length<=kvs.length+0;omega
 |p::r,kvs=>by
  have h1:=qk r (putK kvs p.1 p.2);have h2:=oT kvs p.1 p.2;show(vq (putK kvs p.1 p.2) r).length<=_;rw[aU];omega
def vt:∀{kvs:List (Key×V)}{ws:List (Value×Value)},VV (kvs.map λkv=>(kV kv.1,kv.2)) ws->∃rs,Carries (dj P w) ws rs/\KV kvs rs
 |[],_,r=>by rw[jM] at r;cases r;exact#[[],eU,.nil]
 |p::kvs,_,r=>by
  rw[az] at r;cases r with
  |@cons a b as bs h t=>
   let#[rs,c,q]:=vt (P:=P) (w:=w) t;let#[b1,b2]:=b;exact#[(p.1,b2)::rs,#[rH h.1,rfl,c],.cons #[rfl,h.2] q]
abbrev U5(trs:List (TE×TE)):TE:=λσ H Q=>∀p,H p=ψ->CV trs σ (upd H p (.dK [])) λps H2=>H2 p=ξ (.dK [])/\∃kvs:List (Key×V),ps=kvs.map (λkv=>(kV kv.1,kv.2))/\kvs.length<=15/\Q (.ref p) (upd H2 p (.dK (vq [] kvs)))
def Mp(h:XX X pos keys values trs)(hall:keys.all (·.isSome)=ζ)(hl:keys.length=values.length)(h0:keys≠[])
  (h15:keys.length<=15):PE X (.Dict keys values pos) (U5 trs):=by
 intro pZ s σ H Q I q;have hn:=I.dQ.fresh (aq s.heap.objs.size);have I1:=I.laid (a:=s.heap.objs.size) (o:=.dK []) (h':=s.heap.push {cls:=.type "dict",data:=.dict #[]}) (t':=s.toks) (λ_ _ q=>aJ _ q) (aq _) (A1 s.heap I.big);refine wpAny_Dict_walk (knd:=dj X.prog X.w) hall hl h0 h15 (eJ (h pZ _ σ _ _ I1 (q _ hn)) λws s2 h9=>?_);let#[ps,H2,I2,rel,e,kvs,ep,lk,q2]:=h9;subst ep;let#[rs,c,rk]:=vt (P:=X.prog) (w:=X.w) rel;let#[z,hd,vs0,r0,dd]:=Ik I2.dQ e;cases r0;refine#[rs,c,dd,λh' dd' hs=>#[.ref s.heap.objs.size,_,?_,rfl,q2]];have hz:(vq [] kvs).length<=sizeLine:=by
  have h1:=qk kvs [];rw[dH] at h1;rw[lP];omega
 have he:∃q,h'.get? s.heap.objs.size=ξ q:=let ⟨q,_,_,hq,_⟩:=dd';#[q,hq];erw[pD I2 (by rw[e];exact eU) hs he (zb hz hd (rk.merge .nil) dd')]
structure M1(X:Cx)(o:Expr)(m:Str)(apos:Pos)(e:Expr)(cpos:Pos):Prop where
 base:iG o m X.env (eval o X.env)=eval o X.env
 Y2:((fN cpos (bB [e] X.env)).all (λx=>!x.1)&&(backToKw cpos (gM [] X.env)).all (λx=>x.1.isSome)
  && decide (([e]:List Expr).length+([]:List oI).length+(if ([]:List oI).isEmpty then 0 else 1)<30))=ζ
 line:(apos.endLine==cpos.line)=ζ
 trees:fN cpos (bB [e] X.env)= [(ϑ,eval e X.env)]
structure M2(X:Cx)(o:Expr)(m:Str)(apos:Pos)(e f:Expr)(cpos:Pos):Prop where
 base:iG o m X.env (eval o X.env)=eval o X.env
 Y2:((fN cpos (bB [e,f] X.env)).all (λx=>!x.1)&&(backToKw cpos (gM [] X.env)).all (λx=>x.1.isSome)
  && decide (([e,f]:List Expr).length+([]:List oI).length+(if ([]:List oI).isEmpty then 0 else 1)<30))=ζ
 line:(apos.endLine==cpos.line)=ζ
 trees:fN cpos (bB [e,f] X.env)= [(ϑ,eval e X.env),(ϑ,eval f X.env)]
abbrev Y3(H:Hp)(a:Addr):Prop:=(∃kvs,Rd H a (.dK kvs))\/∃kvs,Rd H a (.dT kvs)
def Io(I:Inv X pZ σ H s)(d:Y3 H a):
  s.TypeIs (.ref a) "dict"/\(∀b,bu a=.ref b->∃ob,s.heap.get? b=ξ ob/\ob.dict=ψ)/\(a==cb)=ϑ:=by
 rcases d with⟨kvs,e⟩|⟨kvs,e⟩
 .let#[_,hd,vs,_,dd]:=t9 I.dQ e
  refine#[dd.typeIs,λb q=>?_,hd];cases q;let#[ob,_,_,h1,h2,_]:=dd;exact#[ob,h1,h2.2.1]
 .let#[_,hd,xs,_,dd]:=vp I.dQ e
  refine#[dd.typeIs,λb q=>?_,hd];cases q;let#[ob,_,_,h1,h2,_]:=dd;exact#[ob,h1,h2.2.1]
section
variable{X:Cx}{pZ:List (Addr×Obj)}{σ:St}{H:Hp}{s:aD}{a:Addr}{y d:V}{u r:Value}{o:Option V}{A:d9}{E:Value->aD->Prop}
def Qr(hu:A.units+1<gv)(I:Inv X pZ σ H s)(g:sS H a y o)(ry:RelV y u)(h:∀w' s',Inv X pZ σ H s'->RelV (o.getD .b7) w'->Q w' s'):
  wpAny (bg X.prog X.w) A (call (.builtin "dict.get") [.ref a,u]) Q E s:=by
 rcases g with⟨kvs,k,e,ey,l⟩|⟨kvs,k,b,e,ey,eb,l⟩
 .subst ey
  let#[z,hd,vs,rel,dd]:=t9 I.dQ e;rwa[mQ eO dd.typeIs jt (xr _ _) (meets_dict_get (dj X.prog X.w) a (rH ry) hd) #[_,dd.mapOf,h _ _ (I.tok _) ?_]];rw[l]
  exact(rel.val k).getD rfl
 .subst ey
  cases (show u=bu b from ry);let#[z,hd,xs,rel,dd]:=vp I.dQ e;rwa[mQ eO dd.typeIs jt (xr _ _) (meetsH_dict_get (ng (dj X.prog X.w)) a b hd) #[gU hu,k,xs,qz I.dQ eb,dd,h _ _ (I.tok _) ?_]];rw[l]
  exact(rel.val k).getD rfl
def Qs(hu:A.units+1<gv)(I:Inv X pZ σ H s)(g:sS H a y o)(ry:RelV y u)(rd:RelV d r)(h:∀w' s',Inv X pZ σ H s'->RelV (o.getD d) w'->Q w' s'):
  wpAny (bg X.prog X.w) A (call (.builtin "dict.get") [.ref a,u,r]) Q E s:=by
 rcases g with⟨kvs,k,e,ey,l⟩|⟨kvs,k,b,e,ey,eb,l⟩
 .subst ey
  let#[z,hd,vs,rel,dd]:=t9 I.dQ e;rwa[mQ eO dd.typeIs jt (xt _ _ _) (meets_dict_get_default (dj X.prog X.w) a (rH ry) hd r) #[_,dd.mapOf,h _ _ (I.tok _) ?_]];rw[l]
  exact(rel.val k).getD rd
 .subst ey
  cases (show u=bu b from ry);let#[z,hd,xs,rel,dd]:=vp I.dQ e;rwa[mQ eO dd.typeIs jt (xt _ _ _) (meetsH_dict_get_default (ng (dj X.prog X.w)) a b hd r) #[gU hu,k,xs,qz I.dQ eb,dd,h _ _ (I.tok _) ?_]];rw[l]
  exact(rel.val k).getD rd
end
abbrev Qt(td ty:TE):TE:=λσ H Q=>td σ H λx H1=>∃a,x=.ref a/\Y3 H1 a/\ty σ H1 λy H2=>∃o,sS H2 a y o/\Q (o.getD .b7) H2
abbrev Qu(td ty tx:TE):TE:=λσ H Q=>td σ H λx H1=>∃a,x=.ref a/\Y3 H1 a/\ty σ H1 λy H2=>tx σ H2 λz H3=>∃o,sS H3 a y o/\Q (o.getD z) H3
section
variable{X:Cx}{o e f:Expr}{apos cpos:Pos}{td ty tx:TE}
def Ip(hu:X.A.units+1<gv)(ho:PE X o td)(he:PE X e ty)(m:M1 X o "get" apos e cpos):PE X (.Call (.Attribute o "get" apos) [e] [] cpos) (Qt td ty):=by
 k_ne;rwa[wpAny_Call_method m.base m.Y2 m.line ja eO Ak (eJ (ho pZ s σ H _ I h) λu s1 h9=>?_)];let#[x,H1,I1,rx,a,ex,d,q1]:=h9;subst ex;obtain rfl:u=bu a:=rx;let#[t1,t2,_]:=Io I1 d;refine#[t1,t2,?_];rw[m.trees]
 rwa[jG rfl (p8 (jh (eJ (he pZ s1 σ H1 _ I1 q1) λiv s2 h9=>?_)))];let#[y,H2,I2,ry,ov,g,q2]:=h9;rwa[mN ?_];erw[Qr hu I2 g ry λw' s3 I3 rw'=>#[_,H2,I3,rw',q2]]
def Iq(hu:X.A.units+1<gv)(ho:PE X o td)(he:PE X e ty)(hf:PE X f tx)(m:M2 X o "get" apos e f cpos):PE X (.Call (.Attribute o "get" apos) [e,f] [] cpos) (Qu td ty tx):=by
 k_ne;rwa[wpAny_Call_method m.base m.Y2 m.line ja eO Ak (eJ (ho pZ s σ H _ I h) λu s1 h9=>?_)];let#[x,H1,I1,rx,a,ex,d,q1]:=h9;subst ex;obtain rfl:u=bu a:=rx;let#[t1,t2,_]:=Io I1 d;refine#[t1,t2,?_];rw[m.trees]
 refine jG rfl (p8 (jh (eJ (he pZ s1 σ H1 _ I1 q1) λiv s2 #[y,H2,I2,ry,q2]=>
  jh (eJ (hf pZ s2 σ H2 _ I2 q2) λfv s3 #[z,H3,I3,rz,ov,g,q3]=>mN ?_))))
 erw[Qs hu I3 g ry rz λw' s4 I4 rw'=>#[_,H3,I4,rw',q3]]
end
section
variable{X:Cx}
def FP:iI X (.builtin "len") (λxs H Q=>∃a kvs,xs=[V.ref a]/\H a=ξ (.dK kvs)/\Q (.int kvs.length) H):=by
 k_go;let#[a,kvs,rfl,ha,q]:=h;let#[u,rfl,ru]:=vals1 r;cases ru;erw[U1 I (.inl ha) λt s' I'=>#[.int kvs.length,H,I',#[t,rfl],q]]
end
open PySem.W
section
variable{prog:bO}{w:cC}{K:Type}[DecidableEq K]{A:d9}{E:Value->aD->Prop}{s:aD}
def CW{knd:KeyKind prog w K}{d:Addr}{kvs:List (K×Value)}{k:K}{key v:Value}{Q:Value->aD->Prop}(hkey:knd.is k key=ζ)(hm:s.heap.DictOf knd d kvs)(hsz:kvs.length<=sizeLine)
  (h1:∀x t',lN kvs k=ξ x->Q x {s with toks:=t'})
  (h2:∀h' t',lN kvs k=ψ->h'.DictOf knd d (vc kvs k v)->gD d s.heap h'->Q v {s with heap:=h',toks:=t'}):
  wpAny (bg prog w) A (i5 d key v) Q E s:=by
 have mo:s.heap.MapOf knd d (lN kvs):=hm.mapOf;let#[o,es,ep,ho,hc,hd,hk,hp,hn]:=hm;let#[o',es',ep',ho',_,hd',_,hf]:=mo;obtain rfl:o=o':=aH (ho.symm.trans ho');rw[hd] at hd';injection hd' with e1 _
 subst e1;have hes:es.size<=sizeLine:=by
  have e1:=hp.length;have e2:es.toList.length=es.size:=by simp
  omega
 unfold i5;refine fU (af (knd.pyHash hkey ?_));refine af (wpAny_dictFind_of (s:={s with toks:=s.toks+1}) hkey ho hd hk ?_);have hidx:(es.findIdx? λe=>knd.is k e.key)=kvs.findIdx? λkv=>decide (kv.1=k):=by
  rw[<-hp.findIdx k];let#[l]:=es;simp
 have hv:lN kvs k=((es.findIdx? λe=>knd.is k e.key).bind λi=>es[i]?).map (·.val):=by
  rw[<-hf k,findBy_of_findIdx?]
  cases es.findIdx? λe=>knd.is k e.key<;>rfl
 cases hi:es.findIdx? λe=>knd.is k e.key with
 |some i=>
  rw[hi] at hv;refine af (iL (s:={s with toks:=s.toks+1}) ho hd ?_);have hlt:i<es.size:=(Array.findIdx?_eq_some_iff_findIdx_eq.mp hi).1;have hv:lN kvs k=(es[i]?).map (·.val):=hv;rw[iM hlt] at hv ⊢;erw[af (qu (aA (h1 _ _ hv)))]
 |none=>
  rw[hi] at hv;have hnot:k∉kvs.map (·.1):=not_mem_of_findIdx_none (hidx▸hi);have hany:¬(kvs.any λkv=>decide (kv.1=k))=ζ:=by
   rw[kA];rintro⟨kv,hkv,he⟩;erw[hnot (bD.mpr #[kv,hkv,of_decide_eq_true he])]
  refine af (qu (af (LD (hz:=hes) (s:={s with toks:=s.toks+1}) ho hd (aA (h2 _ _ hv #[_,_,ep+1,kn _ ho (G9 (kM hd _)),
   hc.mapDictKeys _,kM hd _,hk.push hkey _,?_,?_] (fh ..))))))
  .rw[vc,if_neg hany]
   have:=hp.append hkey (knd.hash k) v;let#[l]:=es;simpa using this
  .rw[vc,if_neg hany,aG,dZ]
   refine#[hn,#v[],λa ha b hb=>?_];dsimp[az,jM,bp] at hb;subst hb;erw[λe=>hnot (e▸ha)]
def xR{knd:HeapKind prog w K}{d a:Addr}{xs:List (K×Addr×Value)}{k:K}{v:Value}{Q:Value->aD->Prop}(hu:knd.room A)(hkey:knd.is s.heap k a)(hm:s.heap.DictOfH knd d xs)(hsz:xs.length<=sizeLine)
  (h1:∀x t',(qP xs k).map (·.2)=ξ x->Q x {s with toks:=t'})
  (h2:∀h' t',qP xs k=ψ->h'.DictOfH knd d (xs++[(k,a,v)])->gD d s.heap h'->Q v {s with heap:=h',toks:=t'}):
  wpAny (bg prog w) A (i5 d (.ref a) v) Q E s:=by
 let#[o,es,ep,ho,hc,hd,he,his,hn]:=hm;unfold i5;rwa[fU (af (knd.pyHash hu hkey ?_))];refine af (wpAny_dictFind_heap (s:={s with toks:=s.toks+knd.draws k}) hu hkey ho hd he his hn ?_ ?_)
 .intro hno
  have hnot:k∉xs.map (·.1):=not_mem_keys_of_get hno;refine af (qu (af (LD (hz:=by have e:=AD he;omega) (s:={s with toks:=s.toks+knd.draws k}) ho hd (aA (h2 _ _ (atKey_none_of_get hno) #[_,_,ep+1,kn _ ho (G9 (kM hd _)),
   hc.mapDictKeys _,kM hd _,?_,?_,?_] (fh ..))))))
  .simp[he,Ci]
  .intro x hx
   rcases aL.mp hx with hx|hx
   .erw[knd.keeps (his x hx) ho hd (fh ..)]
   .dsimp[bp] at hx
    subst hx;erw[knd.keeps hkey ho hd (fh ..)]
  .rw[aG,dZ]
   refine#[hn,#v[],λx hx y hy=>?_];dsimp[az,jM,bp] at hy;subst hy;erw[λe=>hnot (e▸hx)]
 .intro j p hj
  refine af (iL (s:={s with toks:=s.toks+knd.draws k}) ho hd ?_);rw[entry_at he j,hj]
  erw[af (qu (aA (h1 _ _ (by rw[atKey_of_get hn hj];rfl))))]
def sT(hT:s.TypeIs (.ref a) "dict")(hd:(a==cb)=ϑ)(h:wpAny (bg prog w) A.in1 (i5 a u r) Q E s):
  wpAny (bg prog w) A (call (.builtin "dict.setdefault") [.ref a,u,r]) Q E s:=by
 refine mQ (S:=λA R s=>s.TypeIs (.ref a) "dict"/\wpAny (bg prog w) A.in1 (i5 a u r) (λv s'=>R (.ok (.ret v)) s') (λe s'=>R (.error e) s') s)
  um hT PySem.F.entry_dict_setdefault (PySem.F.args_dict_setdefault_3 _ _ _) (.of_wp λA R s h=>?_) #[hT,h]
 unfold Builtin.«dict.setdefault»;rwa[af ?_];unfold Builtin.Dict.keyAndDefault;rwa[af (rf h.1 (aA ?_))];show wpAny _ _ (if (a==cb)=ζ then _ else(i5 a u r>>=_)) _ _ s;rw[if_neg (%[hd|aX])]
 erw[af (fV h.2 (λv s' q=>aA #[v,rfl,q]) λ_ _ q=>q)]
end
section
variable{X:Cx}
@[reducible]def KP(H:Hp):List (sJ×V)->List (sJ×Addr×Value)->Prop:=Paired λp q=>p.1=q.1/\(∃c,H q.2.1=ξ (.tup [.int p.1.1,.ref c])/\H c=ξ (.tup (p.1.2.map .int)))/\RelV p.2 q.2.2
def A2:∀{ks:List Int}{us:List Value},Vals (ks.map .int) us->ItemsAre (BY P w) ks us
 |[],_,r=>by rw[jM] at r;cases r;erw[.nil]
 |k::ks,_,r=>by
  rw[az] at r;cases r with
  |cons h t=>
   let#[t',e]:=h;erw[.cons (by rw[e];simp[BY,Cf]) (A2 t)]
def Ef(ok:qa P w H h)(e:H a=ξ (.tup [.int k.1,.ref c]))(e2:H c=ξ (.tup (k.2.map .int))):(rh P w).is h k a:=by
 let#[_,its,r,o,h1,h2,n,h3]:=(show d7 P w H h a (.tup [.int k.1,.ref c]) from ok a _ e)
 let#[_,jts,r',o',g1,g2,n',g3]:=(show d7 P w H h c (.tup (k.2.map .int)) from ok c _ e2)
 cases r with
 |cons r1 r2=>
  let#[t,e]:=r1;cases r2 with
  |cons r3 r4=>
   cases r4;cases (show _=bu c from r3);subst e;exact#[t,c,n,o,h1,h2,h3,o',jts.toArray,n',g1,g2,g3,~~~(A2 r')]
def OF(ok:qa P w H h)(e:H a=ξ (.dP kvs)):kvs.length<=sizeLine/\(a==cb)=ϑ /\
  ∃xs,KP H kvs xs/\h.DictOfH (rh P w) a xs:=by
 let#[z,y,xs,r,o,es,ep,h1,h2,h3,h4,h5]:=(show d7 P w H h a (.dP kvs) from ok a _ e)
 refine#[z,y,xs,r,o,es,ep,h1,h2,h3,h4,λx hx=>?_,h5];have all:∀{l:List (sJ×V)}{m:List (sJ×Addr×Value)},KP H l m->∀x∈m,(rh P w).is h x.1 x.2.1:=by
  intro l m q;induction q with
  |nil=>intro x hx;erw[nomatch hx]
  |@cons p q ps qs hq t ih=>
   intro x hx;rcases aN.mp hx with e|hx
   .subst e
    let#[e1,#[c,e2,e3],_]:=hq;rw[<-e1]
    erw[Ef ok e2 e3]
   .erw[ih x hx]
 erw[all r x hx]
def KP.val(r:KP H kvs xs)(k:sJ):ny (jK kvs k) ((qP xs k).map (·.2)):=by
 induction r with
 |nil=>erw[eU]
 |@cons p q ps qs hq t ih=>
  by_cases e:p.1=k
  .have e':q.1=k:=hq.1▸e
   rw[ly e]
   dsimp[qP,d8,e',decide_true];erw[hq.2.2]
  .have e':¬q.1=k:=hq.1▸e
   rw[lz e]
   simpa[qP,d8,e'] using ih
abbrev Y4(H:Hp)(a:Addr)(y d r:V)(H':Hp):Prop:=
 (∃kvs k,H a=ξ (.dK kvs)/\y=kV k/\kvs.length<sizeLine/\((jK kvs k=ξ r/\H'=H)\/(jK kvs k=ψ/\r=d/\H'=upd H a (.dK (kvs++[(k,d)]))))) \/
 (∃kvs k b,H a=ξ (.dT kvs)/\y=.ref b/\H b=ξ (.tup (k.map kV))/\kvs.length<sizeLine/\((jK kvs k=ξ r/\H'=H)\/(jK kvs k=ψ/\r=d/\H'=upd H a (.dT (kvs++[(k,d)]))))) \/
 ∃kvs k b c,H a=ξ (.dP kvs)/\y=.ref b/\H b=ξ (.tup [.int k.1,.ref c])/\H c=ξ (.tup (k.2.map .int))/\kvs.length<sizeLine/\((jK kvs k=ξ r/\H'=H)\/(jK kvs k=ψ/\r=d/\H'=upd H a (.dP (kvs++[(k,d)]))))
def oU{α β:Type}{F:α->β->Prop}:∀{l:List α}{m:List β}{a:α}{b:β},Paired F l m->F a b->Paired F (l++[a]) (m++[b])
 |_,_,_,_,.nil,f=>.cons f .nil
 |_,_,_,_,.cons r t,f=>.cons r (oU t f)
def Mq(hu:X.A.units+2<gv):Cd X "dict.setdefault" (λx xs H Q=>∃a y d r H',x=.ref a/\xs=[y,d]/\Y4 H a y d r H'/\Q r H'):=by
 intro pZ s σ H x xs v us Q I rx rs h;let#[a,y,d,r,H',rfl,rfl,g,q]:=h;let#[u,ud,rfl,ry,rd]:=rs.two;cases (show v=bu a from rx);rcases g with⟨kvs,k,e,rfl,l,g⟩|⟨kvs,k,b,e,rfl,eb,l,g⟩|⟨kvs,k,b,c,e,rfl,eb,ec,l,g⟩
 .let#[z,hd,vs,rel,dd]:=Ik I.dQ e
  have rv:=rel.val k;rwa[sT dd.typeIs hd (CW (rH ry) dd (by rw[<-rel.length];erw[z]) (λx t' hx=>?_) λh' t' hn dd' hs=>?_)]
  .rw[hx] at rv
   rcases g with⟨g1,rfl⟩|⟨g1,_⟩
   .rw[g1] at rv;exact#[r,H',I.tok _,rv,q]
   .rw[g1] at rv;erw[rv.elim]
  .rw[hn] at rv
   rcases g with⟨g1,rfl⟩|⟨g1,rfl,rfl⟩
   .rw[g1] at rv;erw[rv.elim]
   .have e2:putK kvs k r=kvs++[(k,r)]:=AZ r g1
    have he:∃q,h'.get? a=ξ q:=let ⟨q,_,_,hq,_⟩:=dd';#[q,hq];exact#[r,_,pD I (%[e|eU]) hs he (zb ((·)) hd (e2▸rel.put k rd) dd'),rd,q]
 .cases (show u=bu b from ry)
  let#[z,hd,ws,rel,dd]:=Ee I.dQ e;have rv:=rel.val k;rwa[sT dd.typeIs hd (xR (gU ∅) (qz I.dQ eb) dd (by rw[<-Paired.length rel];erw[z]) (λx t' hx=>?_) λh' t' hn dd' hs=>?_)]
  .rw[hx] at rv
   rcases g with⟨g1,rfl⟩|⟨g1,_⟩
   .rw[g1] at rv;exact#[r,H',I.tok _,rv,q]
   .rw[g1] at rv;erw[rv.elim]
  .rw[hn] at rv
   rcases g with⟨g1,rfl⟩|⟨g1,rfl,rfl⟩
   .rw[g1] at rv;erw[rv.elim]
   .let#[o,es,ep,hq,h2,h3,h4,_,h5]:=dd'
    have nt:∀b ys,H b=ξ (.tup ys)->b≠a:=λb ys eq z=>by rw[z,e] at eq;cases eq
    refine#[r,upd H a (.dT (kvs++[(k,r)])),pD (ob:=.dT (kvs++[(k,r)])) I (%[e|eU]) hs #[o,hq] #[(·),hd,ws++[(k,b,ud)],oU (Paired.Fy rel λp q z=>#[z.1,?_,z.2.2]) #[rfl,?_,rd],o,es,ep,hq,h2,h3,h4,h5],rd,q]
    .rw[cq (nt _ _ z.2.1)];erw[z.2.1]
    .rw[cq (nt _ _ eb)];erw[eb]
 .cases (show u=bu b from ry)
  let#[z,hd,ws,rel,dd]:=OF I.dQ e;have rv:=rel.val k;rwa[sT dd.typeIs hd (xR (show X.A.in1.units+1<gv by dsimp[tV];omega) (Ef I.dQ eb ec) dd (by rw[<-Paired.length rel];erw[z]) (λx t' hx=>?_) λh' t' hn dd' hs=>?_)]
  .rw[hx] at rv
   rcases g with⟨g1,rfl⟩|⟨g1,_⟩
   .rw[g1] at rv;exact#[r,H',I.tok _,rv,q]
   .rw[g1] at rv;erw[rv.elim]
  .rw[hn] at rv
   rcases g with⟨g1,rfl⟩|⟨g1,rfl,rfl⟩
   .rw[g1] at rv;erw[rv.elim]
   .let#[o,es,ep,hq,h2,h3,h4,_,h5]:=dd'
    have nt:∀b ys,H b=ξ (.tup ys)->b≠a:=λb ys eq z=>by rw[z,e] at eq;cases eq
    refine#[r,upd H a (.dP (kvs++[(k,r)])),pD (ob:=.dP (kvs++[(k,r)])) I (%[e|eU]) hs #[o,hq] #[(·),hd,ws++[(k,b,ud)],oU (Paired.Fy rel λp q z=>#[z.1,?_,z.2.2]) #[rfl,#[c,?_,?_],rd],o,es,ep,hq,h2,h3,h4,h5],rd,q]
    .let#[c,e1,e2]:=z.2.1
     exact#[c,%[cq (nt _ _ e1)|e1],%[cq (nt _ _ e2)|e2]]
    .rw[cq (nt _ _ eb)];erw[eb]
    .rw[cq (nt _ _ ec)];erw[ec]
end
def Qv(h:(dj P w).is k u=ζ):RelV (kV k) u:=by
 rcases fS h with⟨i,t,rfl,rfl⟩|⟨x,t,rfl,rfl⟩|⟨rfl,rfl⟩
 .exact#[t,rfl]
 .exact#[t,rfl]
 .rfl
abbrev TR(a:Addr)(o:Obj)(kvs:List (Key×V)):It:=
 #[λi H=>H a=ξ (.sC o (.dK kvs))/\i<kvs.length,λi H x H'=>H'=H/\∃k v,kvs[i]?=ξ (k,v)/\x=kV k,λi H=>H a=ξ (.sC o (.dK kvs))/\kvs.length<=i]
def CY(ok:qa P w H h)(e:H a=ξ (.sC o (.dK kvs)))(hd:o.data=.dict es ep):
  (a==cb)=ϑ/\∃vs,KV kvs vs/\h.DictAt (dj P w) a vs ep:=by
 let#[ho,z,y,vs,rel,o',es',ep',h1,h2,h3,h4]:=(show d7 P w H h a (.sC o (.dK kvs)) from ok a _ e)
 rw[ho] at h1;cases h1;rw[hd] at h3;cases h3;exact#[y,vs,rel,o,es,ho,h2,hd,h4]
def FQ{P:bO}{w:cC}{K:aI}{tg:Expr}(a it:Addr){o:Obj}{es:Array p9}{ep:Nat}(hd:o.data=.dict es ep)(kvs:List (Key×V)):
  Turn P w K tg (TR a o kvs) [it] it (λi h=>h.IsKeyIter it a i kvs.length ep) where
 mem:=by simp
 obj:=λi h st b hb=>by
  have e:b=it:=by simpa using hb
  subst e;let#[o,e,c,d]:=st;exact#[o,e,λv z=>by rw[d] at z;cases z]
 keep:=λi h h' st k=>by
  let#[o,e,r]:=st;exact#[o,k it (#v[]) o e,r]
 item:=by
  w_up;subst hP hw hK;let#[hq,hl]:=hg;let#[_,vs,rel,da]:=CY I.dQ hq hd;let#[f0,f1,f2,f3,f4,f5]:=hf it (#v[]);have hlen:=rel.length;have hk:=congrArg (λl=>l[i]?) rel.keys;dsimp[aC] at hk;let#[k,v]:=vs[i]'∅;have e1:vs[i]?=ξ vs[i]:=ab ∅;have e2:kvs[i]?=ξ kvs[i]:=ab hl;rw[e1,e2] at hk;have hk:kvs[i].1=vs[i].1:=aH hk;rw[hlen] at st;rwa[wpAny_pyNext_dict_item st da (k:=vs[i].1) (v:=vs[i].2) e1 λkey h' ik st' sb=>?_]
  have I1:Inv X pZ σ H {s with heap:=h'}:=I.turned (t':=s.toks) (λb o hb e=>(sb.2 b hb).trans e) f0 f1 f3 f4 f5;let#[o',e,c,d]:=id st';exact#[key,rfl,xE (s:={s with heap:=h'}) e c d ⋯ #[kV vs[i].1,H,I1,Qv ik,#[rfl,vs[i].1,kvs[i].2,by rw[e2,<-hk],rfl],%[hlen|st'],λb hb=>(hf b hb).1]]
 done:=by
  w_up;subst hP hw hK;let#[hq,hl]:=hg;let#[_,vs,rel,da]:=CY I.dQ hq hd;let#[f0,f1,f2,f3,f4,f5]:=hf it (#v[]);have hlen:=rel.length;rw[hlen] at st;erw[wpAny_pyNext_dict_end (I.ok.hd hc) st da (dO ∅) λh' eb=>#[rfl,I.turned (t':=s.toks) (λb o hb e=>eb b o hb e) f0 f1 f3 f4 f5]]
 self:=λ_ _ _ _ _ st h=>wpAny_pyIter_keyiter st h
section
variable{X:Cx}
def Inv.freeze(I:Inv X pZ σ H s)(e:H a=ξ u)(mu:TN (ξ u))(ho:s.heap.get? a=ξ o)(k:d7 X.prog X.w (upd H a (.sC o u)) s.heap a u):
  Inv X pZ σ (upd H a (.sC o u)) s:=
 I.write (x:=a) (e:=a) (h':=s.heap) (t':=s.toks) (%[e|mu]) (.inl rfl) (λb u _ q=>q) #[o,ho] #[ho,k]
abbrev U6(tl:TE):TI:=λσ H R=>tl σ H λx H1=>∃a kvs,x=.ref a/\((H1 a=ξ (.dK kvs)/\∀o,R (TR a o kvs) (upd H1 a (.sC o (.dK kvs))))\/∃o,H1 a=ξ (.sC o (.dK kvs))/\R (TR a o kvs) H1)
def Mr{tg l:Expr}{tl:TE}(hl:PE X l tl):PI X tg l (U6 tl):=by
 intro pZ s σ H R I h;rwa[eJ (hl pZ s σ H _ I h) λv s1 h9=>?_]
 let#[x,H1,I1,r1,a,kvs,rfl,q]:=h9;cases (show v=bu a from r1);obtain⟨o,H2,I2,e2,q2⟩:∃o H2,Inv X pZ σ H2 s1/\H2 a=ξ (.sC o (.dK kvs))/\R (TR a o kvs) H2:=by
  rcases q with⟨e,q⟩|⟨o,e,q⟩
  .have k:=(show d7 X.prog X.w H1 s1.heap a (.dK kvs) from I1.dQ a _ e)
   let#[_,_,_,_,o,_,_,ho,_]:=id k;exact#[o,_,I1.freeze e eU ho k,bX,q o]
  .exact#[o,H1,I1,e,q]
 obtain⟨es,ep,hd⟩:∃es ep,o.data=.dict es ep:=by
  let#[ho,_,_,_,_,o',es,ep,h1,_,h3,_]:=(show d7 X.prog X.w H2 s1.heap a (.sC o (.dK kvs)) from I2.dQ a _ e2)
  rw[ho] at h1;cases h1;exact#[es,ep,h3]
 let#[lo,vs,rel,da]:=CY I2.dQ e2 hd;rwa[wpAny_pyIter_dict lo da ?_];refine#[s1.heap.objs.size,[s1.heap.objs.size],_,TR a o kvs,H2,rfl,I2.kept (t':=s1.toks) λb o e=>aJ _ e,FQ a _ hd kvs,#[_,aZ _ rfl,rfl,by rw[rel.length];rfl],λc hc=>?_,q2];have e:c=s1.heap.objs.size:=by simpa using hc
 subst e;erw[I2.AS (aq _) (I2.dQ.fresh (aq _))]
end
abbrev Fre(X:Cx)(pZ:List (Addr×Obj))(H:Hp)(b:Addr):Prop:=H b=ψ/\X.s₀.heap.objs.size<=b/\b≠X.env.locals/\(∀x c,X.env.cells.lookup x=ξ c->c≠b)/\∀p∈X.pn++pZ,p.1≠b
def Inv.XY(I:Inv X pZ σ H s)(hb:s.heap.objs.size<=b):Fre X pZ H b:=by
 have no:∀o,¬s.heap.get? b=ξ o:=λo e=>absurd (aS e) (mE.mpr hb)
 refine#[I.dQ.fresh hb,aF I.sz hb,λe=>?_,λx c e z=>?_,λp hp z=>?_]
 .erw[absurd I.lt (mE.mpr (e▸hb))]
 .let#[v,o,ho,_]:=I.cell x c e
  rw[z] at ho;erw[no o ho]
 .have:=(I.pin p hp).1
  rw[z] at this;erw[no _ this]
open Builtin Builtin.ObjectAttr
abbrev qc(env:Env):List (Str×NameKind)->List (Str×Addr)->List (Str×Addr)
 |[],acc=>acc
 | (n,k)::r,acc=>qc env r (if k=.free then(n,(env.cells.lookup n).getD 0)::acc else acc)
def vv(h:∀n,(n,bR)∈scope.names->∃c,env.cells.lookup n=ξ c):closureFor scope env=pure (qc env scope.names []):=by
 have all:∀(l:List (Str×NameKind))(acc:List (Str×Addr)),(∀n,(n,bR)∈l->∃c,env.cells.lookup n=ξ c) ->
   (forIn (m:=Sem) l acc λ(x:Str×NameKind)(cs:List (Str×Addr))=>if (x.2==.free)=ζ then do let c <-cellOf env x.1;pure (eV ((x.1,c)::cs)) else pure (eV cs))=pure (qc env l acc):=by
  intro l;induction l with
  |nil=>intro acc _;rfl
  |cons p r ih=>
   intro acc hl;let#[n,k]:=p;rw[oJ]
   have hr:∀m,(m,bR)∈r->∃c,env.cells.lookup m=ξ c:=λm hm=>hl m (ay _ hm)
   by_cases hk:k=.free
   .subst hk
    let#[c,hc]:=hl n aQ;have e:cellOf env n=pure c:=by unfold cellOf;rw[hc]
    show(do let x <-(if (bR==bR)=ζ then do let c <-cellOf env n;pure (eV ((n,c)::acc)) else pure (eV acc));_)=_
    rw[if_pos ⋯,e]
    show(forIn (m:=Sem) r ((n,c)::acc) _)=_
    rw[ih _ hr]
    show _=pure (qc env r (if bR=bR then(n,(env.cells.lookup n).getD 0)::acc else acc))
    rw[if_pos rfl,hc]
    rfl
   .have hb:(k==bR)=ϑ:=by simpa using hk
    show(do let x <-(if (k==bR)=ζ then do let c <-cellOf env n;pure (eV ((n,c)::acc)) else pure (eV acc));_)=_
    rw[hb,if_neg ⋯]
    show(forIn (m:=Sem) r acc _)=_
    rw[ih _ hr]
    show _=pure (qc env r (if k=bR then(n,(env.cells.lookup n).getD 0)::acc else acc))
    rw[if_neg hk]
 have:=all scope.names [] h;unfold closureFor;simpa using this
def ua:∀(l:List (Str×NameKind))(acc:List (Str×Addr))(y:Str)(c:Addr),(qc env l acc).lookup y=ξ c->(c=(env.cells.lookup y).getD 0/\(y,bR)∈l)\/acc.lookup y=ξ c
 |[],acc,y,c,h=>.inr h
 | (n,k)::r,acc,y,c,h=>by
  rcases ua r _ y c h with⟨e,m⟩|q
  .erw[.inl #[e,ay _ m]]
  .by_cases hk:k=.free
   .rw[if_pos hk] at q
    by_cases e:y=n
    .subst e
     subst hk;rw[pq] at q;cases q;erw[.inl #[rfl,aQ]]
    .rw[aP,show(y==n)=ϑ by simpa using e] at q
     erw[.inr q]
   .rw[if_neg hk] at q
    erw[.inr q]
def A3:∀(l:List (Str×NameKind))(acc:List (Str×Addr))(y:Str),(∃c,acc.lookup y=ξ c)->∃c,(qc env l acc).lookup y=ξ c
 |[],_,_,h=>h
 | (n,k)::r,acc,y,h=>by
  rwa[A3 r _ y ?_];by_cases hk:k=.free
  .rw[if_pos hk]
   by_cases e:y=n
   .subst e;exact#[_,pq]
   .rw[aP,show(y==n)=ϑ by simpa using e];erw[h]
  .rw[if_neg hk];erw[h]
def vw:∀(l:List (Str×NameKind))(acc:List (Str×Addr))(y:Str),(y,bR)∈l->∃c,(qc env l acc).lookup y=ξ c
 | (n,k)::r,acc,y,h=>by
  rcases aN.mp h with e|m
  .have e1:y=n:=congrArg DZ e
   have e2:bR=k:=congrArg Prod.snd e;subst e1;rwa[A3 r _ y ?_];rw[if_pos e2.symm]
   exact#[_,pq]
  .erw[vw r _ y m]
def qA:∀(l:List (Str×NameKind))(n:Nat)(acc:List (Str×Addr)),ji n l acc=ji n l []++acc
 |[],_,_=>rfl
 | (y,k)::r,n,acc=>by
  unfold ji;split
  .rw[qA r _ ((y,n)::acc),qA r _ [(y,n)]];simp
  .erw[qA r n acc]
def zc:∀(l:List (Str×NameKind))(n:Nat)(y:Str)(c:Addr),(y,c)∈ji n l []->(y,gy)∈l
 | (z,k)::r,n,y,c,h=>by
  unfold ji at h;split at h
  .rename_i hk
   rw[qA] at h;rcases aL.mp h with h|h
   .erw[ay _ (zc r _ y c h)]
   .cases bp.mp h
    rw[beq_iff_eq.mp hk];erw[aQ]
  .erw[ay _ (zc r n y c h)]
def zd:∀(l:List (Str×NameKind))(n:Nat)(y:Str),(y,gy)∈l->∃c,(y,c)∈ji n l []
 | (z,k)::r,n,y,h=>by
  unfold ji;rcases aN.mp h with e|h
  .cases e
   rw[if_pos (show(gy==gy)=ζ from rfl),qA]
   exact#[n,bf _ aQ]
  .split
   .let#[c,q]:=zd r (n+1) y h
    rw[qA];exact#[c,bN _ q]
   .erw[zd r n y h]
def mG{α:Type}:∀{l:List (Str×α)}{y:Str}{c:α},(y,c)∈l->∃c',l.lookup y=ξ c'
 | (z,d)::r,y,c,h=>by
  rw[aP]
  cases e:y==z with
  |true=>exact#[d,rfl]
  |false=>
   rcases aN.mp h with q|q
   .cases q;simp at e
   .erw[mG q]
abbrev sV(scope:kC)(C:Addr):List (Str×Addr):=ji (C+1) scope.names []
abbrev Cx.vx(X:Cx)(scope:kC)(C:Addr)(N:List Str)(s₀:aD)(H₀:Hp)(ex:List Addr):Cx:=
 {X with N:=N,s₀:=s₀,H₀:=H₀,env:=compEnvC scope (sV scope C++qc X.env scope.names []) C X.env,outer:=X.stack,stack:=X.stack,ex:=ex,fn:=λy=>scope.names.lookup y==ξ .cell,pn:=[],xe:=λ_ _=>False}
structure A4(X:Cx)(scope:kC)(x:List Str):Prop where
 kind:scope.kind=.function
 nc:∀y∈scope.names,y.2=.cell->scope.names.lookup y.1=ξ .cell
 lo:∀y∈scope.names,y.2=.local->scope.names.lookup y.1=ξ .local
 fr:∀y∈scope.names,y.2=.free->X.env.scope.names.lookup y.1=ξ .cell
 nm:∀y∈x,scope.names.lookup y=ξ .local\/scope.names.lookup y=ξ .cell
 nd:x.Nodup
 lk:∀y,scope.names.lookup y=ξ .free->(y,bR)∈scope.names
def gY{env : Env} : ∀(names : List (Str×NameKind))(x : Str)(k : NameKind),
    (names.map λ(n, k) => if (k==bR&&env.scope.kind==.function&&env.kindOf n==ξ .cell) then (n, gy) else (n, k)).lookup x=ξ k -> names.lookup x=ξ k \/ (k=.cell /\ names.lookup x=ξ .free)
  |[], _, _, h => by cases h
  | (n, k0)::r, x, k, h => by
    rw [az] at h;dsimp only at h;by_cases hc : (k0==bR&&env.scope.kind==.function&&env.kindOf n==ξ .cell)=ζ
    · rw [if_pos hc] at h
      dsimp[ar, beq_iff_eq] at hc;by_cases e : (x==n)=ζ
      · rw [aP, e] at h
        cases h;rwa[.inr #[rfl, ?_]];rw [aP, e, hc.1.1]
      · have e' : (x==n)=ϑ := by simpa using e
        rw [aP, e'] at h;rw [aP, e'];erw[gY r x k h]
    · rw [if_neg hc] at h
      by_cases e : (x==n)=ζ
      · rw [aP, e] at h
        cases h;rwa[.inl ?_];rw [aP, e]
      · have e' : (x==n)=ϑ := by simpa using e
        rw [aP, e'] at h;rw [aP, e'];erw[gY r x k h]
section
variable{X:Cx}{pZ:List (Addr×Obj)}{σ:St}{H:Hp}{s:aD}{scope:kC}{x:List Str}
def A4.cells(B:A4 X scope x)(ok:X.Ok):∀n,(n,bR)∈scope.names->∃c,X.env.cells.lookup n=ξ c:=λn hn=>ok.has n (.inl (B.fr _ hn rfl))
def A4.cl(B:A4 X scope x)(ok:X.Ok)(h:(qc X.env scope.names []).lookup y=ξ c):X.env.cells.lookup y=ξ c/\X.env.scope.names.lookup y=ξ .cell:=by
 rcases ua _ _ _ _ h with⟨e,m⟩|q
 .let#[c',hc']:=B.cells ok y m
  rw[hc'] at e;rw[e]
  exact#[hc',B.fr _ m rfl]
 .cases q
def qB(B:A4 X scope x)(h:(sV scope C++qc X.env scope.names []).lookup y=ξ c):
  ((y,c)∈sV scope C/\scope.names.lookup y=ξ .cell)\/((sV scope C).lookup y=ψ/\(qc X.env scope.names []).lookup y=ξ c):=by
 rw[Ha] at h;cases q:(sV scope C).lookup y with
 |some d=>rw[q] at h;cases h;have m:=df q;erw[.inl #[m,B.nc _ (zc _ _ _ _ m) rfl]]
 |none=>rw[q] at h;erw[.inr #[rfl,h]]
def A5(B:A4 X scope x)(hf:scope.names.lookup y=ξ .free)(h:(qc X.env scope.names []).lookup y=ξ c):(sV scope C++qc X.env scope.names []).lookup y=ξ c:=by
 rw[Ha]
 cases q:(sV scope C).lookup y with
 |some d=>have z:=B.nc _ (zc _ _ _ _ (df q)) rfl;rw[hf] at z;cases z
 |none=>erw[h]
def A6{α:Type}{l:List (Str×α)}(h:l.Pairwise λx y=>x.2≠y.2):∀{a b:Str×α},a∈l->b∈l->a.2=b.2->a=b:=by
 induction h with
 |nil=>intro a b h;erw[nomatch h]
 |cons q _ ih=>
  intro a b ha hb e;rcases aN.mp ha with ea|ha'<;>rcases aN.mp hb with eb|hb'
  .rw[ea,eb]
  .subst ea;erw[absurd e (q _ hb')]
  .subst eb;erw[absurd e.symm (q _ ha')]
  .erw[ih ha' hb' e]
def Inv.block{C:Addr}{h':Heap}{t':Nat}{ex:List Addr}{N:List Str}{τ:St}(I:Inv X pZ σ H s)(B:A4 X scope x)(hC:C=s.heap.objs.size)(hns:h'.Ns C λ_=>ψ)(oc:CellsOk h' (C+1) (sV scope C))
  (kp:∀b o,s.heap.get? b=ξ o->h'.get? b=ξ o) (hex:∀b∈ex,uA X pZ H b/\b<s.heap.objs.size) (hl:τ.length=N.length)
  (hτ:∀(i:Nat)(y:Str)(v:V),N[i]?=ξ y->τ[i]?=ξ (ξ v)->scope.names.lookup y=ξ .free/\∃j:Nat,X.N[j]?=ξ y/\σ[j]?=ξ (ξ v)):
  Inv (X.vx scope C N s H ex) [] τ H {s with heap:=h',toks:=t'}:=by
 have ok:=I.ok;have cleq:∀y c,(X.vx scope C N s H ex).env.cells.lookup y=ξ c->((y,c)∈sV scope C/\h'.IsCell c ψ/\C<c)\/(X.env.cells.lookup y=ξ c/\X.env.scope.names.lookup y=ξ .cell):=λy c e=>by
  rcases qB B e with q|q
  .erw[.inl #[q.1,oc.empty y c q.1]]
  .erw[.inr (B.cl ok q.2)]
 have old:∀y c,X.env.cells.lookup y=ξ c->c<C:=λy c e=>by
  let#[v,q]:=I.cell y c e;rw[hC];erw[q.lt]
 have hfr:H C=ψ:=%[hC|I.dQ.fresh (aq _)]
 refine#[#[ok.mod,B.kind,ok.glob,ok.blt,uk hC.symm,λy z c h1 h2=>?_,λy hy=>?_,λy c z e=>?_,ok.hd,ok.frames,.inl rfl,λb hb=>?_,λb o e=>I.bs b o e,aF ok.LK I.sz,λb o e hb=>?_,λb hb=>?_,I.stack,I.D3],
  rfl,I.bare,Un.kept kp,#[_,hns,λi y v e1 e2 e3=>?_],λy c e=>?_,hfr,λy c e=>?_,λp hp=>absurd (show p∈([]:List (Addr×Obj)) from hp) (#v[]),I.dQ.kept kp,hl]
 .rcases cleq y c h1 with⟨m1,_,l1⟩|q1<;>rcases cleq z c h2 with⟨m2,_,l2⟩|q2
  .erw[congrArg DZ (A6 oc.apart m1 m2 rfl)]
  .erw[absurd (old z c q2.1) (mE.mpr (cY l1))]
  .erw[absurd (old y c q1.1) (mE.mpr (cY l2))]
  .erw[ok.inj y z c q1.1 q2.1]
 .have own:(y,gy)∈scope.names->∃c,(X.vx scope C N s H ex).env.cells.lookup y=ξ c:=λm=>by
   let#[c,q]:=zd _ (C+1) _ m;erw[mG (bN _ q)]
  have XY:scope.names.lookup y=ξ .free->∃c,(X.vx scope C N s H ex).env.cells.lookup y=ξ c:=λm=>by
   let#[c,q]:=vw (env:=X.env) scope.names [] y (B.lk y m);exact#[c,A5 B m q]
  rcases hy with h|h
  .rcases gY (env:=X.env) scope.names y .cell h with q|q
   .erw[own (df q)]
   .erw[XY q.2]
  .rcases gY (env:=X.env) scope.names y .free h with q|q
   .erw[XY q]
   .erw[absurd q.1 ⋯]
 .rcases cleq y c e with q|q
  .show s.heap.objs.size<=c
   rw[<-hC];erw[cY q.2.2]
  .have z:scope.names.lookup y=ξ .cell:=beq_iff_eq.mp z
   rcases qB B e with w|w
   .erw[absurd (old y c q.1) (mE.mpr (cY (oc.empty y c w.1).2))]
   .let#[d,m]:=zd _ (C+1) _ (df z)
    let#[d',m']:=mG m;rw[show(sV scope C).lookup y=ξ d' from m'] at w;cases w.1
 .refine#[λz=>?_,λy c e z=>?_]
  .have:=(hex b hb).2
   rw[z,show(X.vx scope C N s H ex).env.locals=C from rfl,hC] at this;erw[absurd this (dU _)]
  .rcases cleq y c e with q|q
   .have:=(hex b hb).2
    rw[<-z,<-hC] at this;erw[absurd this (mE.mpr (cY q.2.2))]
   .exact(hex b hb).1.2.2.2.2.1 y c q.1 z
 .let#[f0,f1,f2,f3,f4,f5]:=(hex b hb).1
  rcases f3 with z|z
  .erw[ok.HH b o e z]
  .erw[absurd (av (aS (ok.bs b o e).1) z) (dU _)]
 .let#[f0,f1,f2,_]:=(hex b hb).1
  intro z;rcases aN.mp (I.yU b z) with q|q
  .erw[f1 q]
  .erw[f2 q]
 .let#[hf,j,hj,hv]:=hτ i y v e1 e2
  let#[m,_,hlk]:=I.loc;have hcell:=B.fr _ (B.lk y hf) rfl;let#[u,r,l]:=hlk j y v hj hv (.inr (.inl hcell));refine#[u,r,.inr #[?_,?_]]
  .show(Hw scope X.env).names.lookup y=ξ .cell\/(Hw scope X.env).names.lookup y=ξ .free
   have:=e3;rcases this with q|q|q
   .rcases gY (env:=X.env) scope.names y .local q with z|z
    .rw[hf] at z;cases z
    .erw[absurd z.1 ⋯]
   .erw[.inl q]
   .erw[.inr q]
  .rcases l with⟨k,_⟩|⟨_,c,hc,z⟩
   .have k':X.env.scope.names.lookup y=ξ .local:=k
    rw[hcell] at k';cases k'
   .let#[c',hc']:=vw (env:=X.env) scope.names [] y (B.lk y hf)
    have hc2:=(B.cl ok hc').1;rw[hc] at hc2;cases hc2;let#[o,ho,hd]:=z;exact#[c,A5 B hf hc',#[o,kp _ _ ho,hd]]
 .rcases cleq y c e with q|q
  .exact#[ψ,q.2.1]
  .let#[v,o,ho,hd]:=I.cell y c q.1
   exact#[v,o,kp _ _ ho,hd]
 .rcases cleq y c e with q|q
  .erw[I.dQ.fresh (by rw[<-hC];exact cY q.2.2)]
  .erw[I.qh y c q.1]
def Inv.Ms(I:Inv X pZ σ H s)(J:Inv (X.vx scope C N s H ex) [] τ H' s')(hex:∀b∈ex,uA X pZ H b):Inv X pZ σ H' s':=
 I.Uk (ch:=ex) J.os J.base J.dQ J.bare λb hb=>#[(hex b hb).2.2.2.1,(hex b hb).2.1,(hex b hb).2.2.2.2.1,(hex b hb).2.2.2.2.2]
end
abbrev Mt(X:Cx)(ifs:List Expr)(t:TT):Prop:=
 ∀(pZ:List (Addr×Obj))(s:aD)(σ:St)(H:Hp)(Q:Bool->Hp->Prop),Inv X pZ σ H s->t σ H Q ->
  wpAny (bg X.prog X.w) X.A (forIn ifs ζ λc r=>if r=ζ then do let ok <-isTrue c X.env (eval c X.env);pure (eV ok) else pure (eV r)) (TP X pZ σ Q) X.xe s
abbrev U7:TT:=λ_ H Q=>Q ζ H
def Mu:Mt X [] U7:=λ_ _ _ H _ I q=>wpAny_tests_nil #[H,I,q]
def Mv(h:PT X c t):Mt X [c] t:=λpZ s σ H Q I q=>wpAny_tests_one (h pZ s σ H Q I q)
abbrev gZ(σ:St)(ci:List Nat):St:=ci.map λj=>(σ[j]?).join
abbrev U8(K:Frag)(pr:Bool)(y:V)(H:Hp)(k:St->Prop):Prop:=match pr with
 |false=>k [ξ y]
 |true=>∃p a b,y=.ref p/\lO K H p [a,b]/\k [ξ a,ξ b]
@[reducible]def OG(bd:V->Hp->(St->Prop)->Prop)(J:It)(D:Addr)(tc:TT)(te:TE)(caps:St)(R:Hp->Prop)(H1:Hp):Prop:=
 ∃W:Nat->Nat->List V->Hp->Prop,(∃m,W 0 m [] (upd H1 D (.lst [])))/\∀i m acc H2,W i m acc H2->H2 D=ξ (.lst acc)/\acc.length<sizeLine /\
  ((J.stop i H2/\R H2)\/(J.go i H2/\∀y H3,J.UA i H2 y H3->bd y H3 λτ=>tc (τ++caps) H3 λb H4=>
   if b=ζ then te (τ++caps) H4 λz H5=>H5 D=ξ (.lst acc)/\∃m',m'<m/\W (i+1) m' (acc++[z]) (upd H5 D (.lst (acc++[z]))) else ∃m',m'<m/\W (i+1) m' acc H4))
abbrev Ir(bd:V->Hp->(St->Prop)->Prop)(wi:TI)(ci:List Nat)(tc:TT)(te:TE):TE:=λσ H Q=>wi σ H λJ H1=>∀D,H1 D=ψ->OG bd J D tc te (gZ σ ci) (λH2=>Q (.ref D) H2) H1
structure ze(X:Cx)(scope:kC)(cn:List Str)(ci:List Nat):Prop where
 len:ci.length=cn.length
 at_:∀(k:Nat)(y:Str),cn[k]?=ξ y->∃j:Nat,ci[k]?=ξ j/\X.N[j]?=ξ y
 fr:∀y∈cn,scope.names.lookup y=ξ .free
section
variable{X:Cx}{pZ:List (Addr×Obj)}{σ:St}{H:Hp}{s:aD}{scope:kC}{x:List Str}
def Mw{M:Model}{A:d9}{E:Value->aD->Prop}{s:aD}{scope:kC}{globals:Addr}{cl:List (Str×Addr)}{qual:Str}{env:Env}{Q:Env->aD->Prop}
  (hQ:Q (newEnv scope s.heap.objs.size globals (sV scope s.heap.objs.size++cl) qual ψ .none (ξ env) Cj) {s with heap:=pushCells (s.heap.push {cls:=.type "dict",data:=.dict #[]}) scope.names}):
  wpAny M A (Cn scope globals cl [] qual ψ .none (ξ env)) Q E s:=by
 dsimp[Cn,qO,if_true];refine af (wpAny_alloc ?_);refine af (wpAny_layCells _ (λname kind cells=>by cases hkc:kind==gy<;>simp[hkc]) _ _ _ _ ?_);rw[show({s with heap:=s.heap.push {cls:=.type "dict",data:=.dict #[]} }:aD).heap.objs.size=s.heap.objs.size+1 from iF ..,qA]
 erw[af (aA (aA hQ))]
def sW{cn:List Str}{X:Cx}{scope:kC}{ci:List Nat}(cp:ze X scope cn ci)(B:A4 X scope x)(hn:cn.Nodup):(x++cn).Nodup:=
 dZ.mpr #[B.nd,hn,λy hy z hz e=>(by
  subst e;have q:=cp.fr y hz;rcases B.nm y hy with z|z<;>(rw[z] at q;cases q))]
abbrev TU(X:Cx)(tg:Expr)(scope:kC)(x cn:List Str)(bd:V->Hp->(St->Prop)->Prop):Prop:=
 ∀(C:Addr)(s₀:aD)(H₀:Hp)(ex:List Addr)(pZ:List (Addr×Obj))(s:aD)(τ caps:St)(H:Hp)(v:V)(u:Value)(k:St->Prop),Inv (X.vx scope C (x++cn) s₀ H₀ ex) pZ (τ++caps) H s->τ.length=x.length->RelV v u->bd v H k ->
  wpAny (bg X.prog X.w) X.A (yC tg (X.vx scope C (x++cn) s₀ H₀ ex).env u) (λ_ s'=>∃τ',τ'.length=x.length/\Inv (X.vx scope C (x++cn) s₀ H₀ ex) pZ (τ'++caps) H s'/\k τ') (λ_ _=>False) s
def nE{env : Env}{k : NameKind}(hk : k≠.free) : ∀{names : List (Str×NameKind)}{x : Str}, names.lookup x=ξ k ->
    (names.map λ(n, k) => if (k==bR&&env.scope.kind==.function&&env.kindOf n==ξ .cell) then (n, gy) else (n, k)).lookup x=ξ k
  | (n, k')::r, x, h => by
    rw [az];dsimp only;rw [aP] at h;cases e : x==n with
    |true =>
      rw [e] at h; cases h;rw [if_neg (by simp [hk]), aP, e]
    |false =>
      rw [e] at h;split <;> (rw [aP, e]; exact nE hk h)
def A4.loc(B:A4 X scope x){C:Addr}{N:List Str}{s₀:aD}{H₀:Hp}{ex:List Addr}{y:Str}(hy:y∈x):
  Loc (X.vx scope C N s₀ H₀ ex).env.scope y/\((X.vx scope C N s₀ H₀ ex).fn y=ζ\/(X.vx scope C N s₀ H₀ ex).env.scope.names.lookup y=ξ .local):=by
 rcases B.nm y hy with z|z
 .have q:=nE (env:=X.env) (k:=.local) (by intro e;cases e) z
  exact#[.inl q,.inr q]
 .exact#[.inr (nE (env:=X.env) (k:=.cell) (by intro e;cases e) z),.inl (beq_iff_eq.mpr z)]
def Y5{α:Type}{l:List α}(h:l.length=2):∃a b,l=[a,b]:=by
 cases l with
 |nil=>cases h
 |cons a t=>let#[b,e]:=jN.mp (nh h);exact#[a,b,by rw[e]]
def Iu(B:A4 X scope [y])(cp:ze X scope cn ci)(hnd:cn.Nodup):TU X (.Name y py) scope [y] cn (U8 X.K ϑ):=by
 intro C s₀ H₀ ex pZ s τ caps H v u k I hl r h;have hx:=B.loc (C:=C) (N:=[y]++cn) (s₀:=s₀) (H₀:=H₀) (ex:=ex) (y:=y) (#v[]);let#[o,rfl]:=jN.mp hl;erw[wJ (rm I (sW cp B hnd) (i:=0) rfl hx.1 r (λs8 J8=>#[[ξ v],rfl,J8,h]) hx.2)]
def Iv{y z:Str}{py pz pt:Pos}{n:Nat}{cn:List Str}{ci:List Nat}(B:A4 X scope [y,z])(cp:ze X scope cn ci)(hnd:cn.Nodup)(hc:X.calm=ζ):TU X (.Tuple [.Name y py,.Name z pz] n pt) scope [y,z] cn (U8 X.K ζ):=by
 intro C s₀ H₀ ex pZ s τ caps H v u k I hl r h;have hy:=B.loc (C:=C) (N:=[y,z]++cn) (s₀:=s₀) (H₀:=H₀) (ex:=ex) (y:=y) (#v[]);have hz:=B.loc (C:=C) (N:=[y,z]++cn) (s₀:=s₀) (H₀:=H₀) (ex:=ex) (y:=z) (#v[]);have nd:=sW cp B hnd;let#[p,a,b,e,hq,q]:=h;let#[o,o',rfl]:=Y5 hl;rwa[fV (HL (X:=X.vx scope C ([y,z]++cn) s₀ H₀ ex) (pos:=pt) (k:=n) hc (rB (rA (i:=0) (pos:=py) nd rfl hy.1 hy.2) (rB (rA (i:=1) (pos:=pz) nd rfl hz.1 hz.2) D7)) rfl rfl pZ s _ H v u (λσ' H'=>H'=H/\σ'=[ξ a,ξ b]++caps) I r ?_) (λ_ s' #[σ',H',I',e1,e2]=>?_) λ_ _ z=>z]
 .exact#[p,[a,b],e,hq,rfl,a,[b],rfl,b,[],rfl,rfl,rfl,rfl]
 .subst e1 e2
  exact#[[ξ a,ξ b],rfl,I',q]
def A7{elt iter tg:Expr}{bd:V->Hp->(St->Prop)->Prop}{pos:Pos}{ifs:List Expr}{it:Addr}{fp:List Addr}{tn:Nat->Heap->Prop}{J:It}{tc:TT}{te:TE}{cn:List Str}{ci:List Nat}{RR:Value->Addr->Result->aD->Prop}{Rq:Addr->Hp->Prop}{E:Value->aD->Prop}
  (I:Inv X pZ σ H s) (B:A4 X scope x) (cp:ze X scope cn ci) (hnd:cn.Nodup) (hcalm:X.calm=ζ) (ht:TU X tg scope x cn bd) (T:Turn X.prog X.w X.K tg J fp it tn) (t0:tn 0 s.heap) (hf:∀b∈fp,uA X pZ H b)
  (hc:∀C s₀ H₀ ex,Mt (X.vx scope C (x++cn) s₀ H₀ ex) ifs tc) (he:∀C s₀ H₀ ex,PE (X.vx scope C (x++cn) s₀ H₀ ex) elt te)
  (h:∀D,H D=ψ->OG bd J D tc te (gZ σ ci) (Rq D) H)
  (fin:∀C D H5 s5,Inv X pZ σ H5 s5->Rq D H5->(∃m,s5.heap.Ns C m)->Fre X pZ H5 C->RR (.ref D) C (.ok .next) s5):
  wpAny (bg X.prog X.w) X.A (newList []) (λacc s₃=>wpAny (bg X.prog X.w) X.A (Cn scope X.env.globals (qc X.env scope.names []) [] X.env.qual ψ .none (ξ X.env)) (λcenv s₄=>
   qx (bg X.prog X.w) X.A (.compStart (.ListComp elt [#[tg,iter,ifs,0]] scope pos) 0 (.ref it) acc {cenv with scope:=Hw scope X.env}) (RR acc cenv.locals) s₄) E s₃) E s:=by
 have ok:=I.ok;let#[W,#[m0,w0],turn]:=h s.heap.objs.size (I.dQ.fresh (aq _));generalize hD:s.heap.objs.size=D at turn w0;refine dJ ?_;have I2:Inv X pZ σ (upd H D (.lst [])) {s with heap:=s.heap.push {cls:=.type "list",dict:=ψ,data:=.seq ([]:List Value).toArray} }:=by
  have:=I.UZ (its:=[]) (ys:=[]) (t':=s.toks) .nil (bJ _);rw[hD] at this;erw[this]
 generalize hH2:s.heap.push {cls:=.type "list",dict:=ψ,data:=.seq ([]:List Value).toArray}= h2 at I2 ⊢;have k2:∀b o,s.heap.get? b=ξ o->h2.get? b=ξ o:=λb o e=>by rw[<-hH2];erw[aJ _ e]
 have sz2:h2.objs.size=s.heap.objs.size+1:=by rw[<-hH2,iF]
 have fpl:∀b∈fp,b<s.heap.objs.size:=λb hb=>by
  let#[o,e,_]:=T.obj _ _ t0 b hb;erw[aS e]
 have nD:∀b∈fp,b≠D:=λb hb=>by rw[<-hD];erw[ba (fpl b hb)]
 have hf2:∀b∈fp,uA X pZ (upd H D (.lst [])) b:=λb hb=>#[by rw[cq (nD b hb)];exact(hf b hb).1,(hf b hb).2]
 have t2:tn 0 h2:=T.keep _ _ _ t0 λb _ o e=>k2 b o e
 show wpAny _ _ _ _ _ {s with heap:=h2}
 rwa[Mw ?_];generalize hH3:pushCells (h2.push {cls:=.type "dict",data:=.dict #[]}) scope.names=h3;have kp3:∀b o,h2.get? b=ξ o->h3.get? b=ξ o:=λb o e=>by rw[<-hH3];erw[pushCells_keeps _ _ b o (aJ _ e)]
 have ns3:h3.Ns h2.objs.size λ_=>ψ:=by rw[<-hH3];exact(Heap.Ns.new h2 (.type "dict")).keeps (pushCells_keeps _ _)
 have oc3:CellsOk h3 (h2.objs.size+1) (sV scope h2.objs.size):=by
  have:=cellsFrom_ok scope.names (h2.push {cls:=.type "dict",data:=.dict #[]}) (h2.objs.size+1) [] #[λ_ _ hm=>(nomatch hm),xp] (%[iF|aq _]);rw[iF,hH3] at this;erw[this]
 have hl:((x.map λ_=>ψ)++gZ σ ci:St).length=(x++cn).length:=by
  rw[aj,aj,ae,gZ,ae,cp.len]
 have J3:Inv (X.vx scope h2.objs.size (x++cn) {s with heap:=h2} (upd H D (.lst [])) fp) [] ((x.map λ_=>ψ)++gZ σ ci) (upd H D (.lst [])) {s with heap:=h3,toks:=s.toks+0}:=
  I2.block (s:={s with heap:=h2}) (h':=h3) (t':=s.toks+0) (N:=x++cn) B rfl ns3 oc3 kp3 (λb hb=>#[hf2 b hb,by rw[sz2];exact bc (fpl b hb)]) hl (λi y v e1 e2=>by
   by_cases lt:i<x.length
   .rw[ao (~~~lt),aC,ab lt] at e2
    cases e2
   .have e1':cn[i-x.length]?=ξ y:=by rw[ax ∅] at e1;erw[e1]
    have e2':(gZ σ ci)[i-x.length]?=ξ (ξ v):=by rw[ax (~~~lt),ae] at e2;erw[e2]
    refine#[cp.fr y (ah e1'),?_];let#[j,hj,hy]:=cp.at_ _ y e1';refine#[j,hy,?_];rw[gZ,aC,hj] at e2';have e3:(σ[j]?).join=ξ v:=aH e2';cases q:σ[j]? with
    |none=>rw[q] at e3;cases e3
    |some w=>rw[q] at e3;erw[congrArg ξ e3])
 generalize hY:X.vx scope h2.objs.size (x++cn) {s with heap:=h2} (upd H D (.lst [])) fp=Y at J3;have ePr:Y.prog=X.prog:=by rw[<-hY];rfl
 have eW:Y.w=X.w:=by rw[<-hY];rfl
 have eK:Y.K=X.K:=by rw[<-hY];rfl
 have eC:Y.calm=ζ:=by rw[<-hY];erw[hcalm]
 have eA:Y.A=X.A:=by rw[<-hY];rfl
 have eE:Y.env=compEnvC scope (sV scope h2.objs.size++qc X.env scope.names []) h2.objs.size X.env:=by rw[<-hY];rfl
 have hPc:Mt Y ifs tc:=by rw[<-hY];erw[hc _ _ _ _]
 have hPe:PE Y elt te:=by rw[<-hY];erw[he _ _ _ _]
 have eN:Y.N=x++cn:=by rw[<-hY];rfl
 have eX:Y.xe=λ_ _=>False:=by rw[<-hY];rfl
 have TY:Turn Y.prog Y.w Y.K tg J fp it tn:=%[ePr,eW,eK|T]
 have fpY:∀{H':Hp},(∀b∈fp,H' b=ψ)->∀b∈fp,uA Y [] H' b:=λhn b hb=>by
  let#[f0,f1,f2,f3,f4,f5]:=hf2 b hb;have lt2:b<h2.objs.size:=%[sz2|bc (fpl b hb)]
  refine#[hn b hb,λz=>?_,λz=>?_,.inl (by rw[<-hY];erw[hb]),λy c e=>?_,λp hp=>?_]
  .have z':b=h2.objs.size:=by rw[eE] at z;erw[z]
   erw[absurd lt2 (by rw[z'];exact dU _)]
  .have z':b∈Hf X.stack:=by rw[<-hY] at z;erw[z]
   rcases aN.mp (I.yU b z') with q|q
   .erw[f1 q]
   .erw[f2 q]
  .rw[eE] at e
   rcases qB B e with q|q
   .intro z
    have:=(oc3.empty y c q.1).2;rw[z] at this;erw[absurd lt2 (mE.mpr (cY this))]
   .erw[f4 y c (B.cl ok q.2).1]
  .have:p∈([]:List (Addr×Obj)):=by rw[<-hY] at hp;erw[hp]
   erw[absurd this (#v[])]
 have loop:∀s4:aD,s4={s with heap:=h3,toks:=s.toks+0}->qx (bg X.prog X.w) X.A (.compLoop (.ListComp elt [#[tg,iter,ifs,0]] scope pos) 0 (.ref it) (.ref D) Y.env) (RR (.ref D) h2.objs.size) s4:=by
  rintro s4 rfl;rwa[codeAny_loop rfl (λn s'=>∃i acc τ H',τ.length=x.length/\Inv Y [] (τ++gZ σ ci) H' s'/\tn i s'.heap/\(∀b∈fp,H' b=ψ)/\W i n acc H') ?_ m0 #[0,[],x.map λ_=>ψ,_,#v[],J3,T.keep _ _ _ t2 λb _ o e=>kp3 b o e,λb hb=>(hf2 b hb).1,w0]];rintro n s5 ⟨i,acc,τ,H5,hτ,J5,t5,f5,w5⟩;let#[hD5,hz5,alt]:=turn i n acc H5 w5;show wpAny _ X.A ((compTurn (.ListComp elt [#[tg,iter,ifs,0]] scope pos) 0 (.ref it) (.ref D) Y.env).onRaise (λx=>do noteFrame x Y.env;theTreesLotGoes x)) _ _ s5;rwa[wpAny_noted ?_];rw[compTurn_list,<-eA]
  rcases alt with⟨stop,q5⟩|⟨go,step⟩
  .rwa[af (Fm (af ?_))]
   rw[<-ePr,<-eW]
   rwa[eJ (TY.done Y rfl rfl rfl eC i [] s5 _ H5 _ J5 (fpY f5) t5 stop) λr s6 h9=>?_]
   let#[hr,J6]:=h9;subst hr;rwa[aA ?_];have J6':Inv (X.vx scope h2.objs.size (x++cn) {s with heap:=h2} (upd H D (.lst [])) fp) [] (τ++gZ σ ci) H5 s6:=%[hY|J6]
   have I6:=I2.Ms J6' hf2;let#[m6,ns6,_]:=J6'.loc;have fC:=I2.XY (b:=h2.objs.size) (aq _);erw[fin h2.objs.size D H5 s6 I6 q5 #[m6,ns6] #[J6'.free,fC.2]]
  .rwa[af (Fm (af ?_))]
   rw[<-ePr,<-eW]
   rwa[eJ (TY.item Y rfl rfl rfl eC i [] s5 _ H5 _ J5 (fpY f5) t5 go) λr s6 h9=>?_]
   let#[u,hr,h6]:=h9;subst hr;rwa[af ?_];rw[eA,<-eA]
   rwa[eJ h6 λ_ s7 h9=>?_]
   let#[y,H7,J7,r7,y7,t7,f7]:=h9;have J7':=J7.pinned (fpY f7) (T.obj _ _ t7);have noE:∀{α:Type}{t:Sem α}{Q:α->aD->Prop}{E:Value->aD->Prop}{s:aD},wpAny (bg Y.prog Y.w) Y.A t Q Y.xe s->wpAny (bg Y.prog Y.w) Y.A t Q E s:=λh=>fV h (λ_ _ z=>z) λ_ _ z=>by rw[eX] at z;erw[z.elim]
   have ht':wpAny (bg Y.prog Y.w) Y.A (yC tg Y.env u) (λ_ s8=>∃τ',τ'.length=x.length/\Inv Y ([]++sM fp s7.heap) (τ'++gZ σ ci) H7 s8/\tc (τ'++gZ σ ci) H7 λb H4=>
     if b=ζ then te (τ'++gZ σ ci) H4 λz H5=>H5 D=ξ (.lst acc)/\∃m',m'<n/\W (i+1) m' (acc++[z]) (upd H5 D (.lst (acc++[z]))) else ∃m',m'<n/\W (i+1) m' acc H4) (λ_ _=>False) s7:=by
    have st:=step y H7 y7;subst hY;erw[ht _ _ _ _ _ s7 τ _ H7 y u _ J7' hτ r7 st]
   refine af (fV ht' (λ_ s8 h9=>?_) λ_ _ z=>z.elim);let#[τ',hτ',J8',q8]:=h9;refine af (noE (eJ (hPc _ s8 _ H7 _ J8' q8) λb s9 h9=>?_));let#[H9,J9,q9]:=h9;have again:∀{acc':List V}{H':Hp}{s':aD},Inv Y ([]++sM fp s7.heap) (τ'++gZ σ ci) H' s'->(∃m',m'<n/\W (i+1) m' acc' H')->∃m,m<n/\∃i acc τ H',τ.length=x.length/\Inv Y [] (τ++gZ σ ci) H' s'/\tn i s'.heap/\(∀b∈fp,H' b=ψ)/\W i m acc H':=λ{acc' H' s'}J' ⟨m',lt,w'⟩=>by
    refine#[m',lt,i+1,acc',τ',H',hτ',J'.rC,T.keep _ _ _ t7 λb hb o e=>(J'.pin (b,o) (bf _ (bf _ (nA hb e)))).1,λb hb=>?_,w'];let#[o,e,d]:=T.obj _ _ t7 b hb;exact(J'.pin (b,o) (bf _ (bf _ (nA hb e)))).2.1
   cases b with
   |false=>erw[aA #[rfl,again J9 q9]]
   |true=>
    rwa[af (af (noE (eJ (hPe _ s9 _ H9 _ J9 q9) λv s10 h9=>?_)))];let#[z,H10,J10,r10,hD10,q10]:=h9;rwa[af (noE (eJ (sQ _ s10 _ H10 (.ref D) [z] (.ref D) [v] (λ_ H11=>H11=upd H10 D (.lst (acc++[z]))) J10 rfl (.cons r10 .nil) #[D,acc,z,rfl,rfl,hD10,hz5,rfl]) λv11 s11 h9=>?_))];let#[z11,H11,J11,_,e11]:=h9;subst e11;erw[aA (aA #[rfl,again J11 q10])]
 rw[eE] at loop;subst hD;erw[codeAny_compStart_list (loop _ rfl) (T.self _ 0 _ _ _ (T.keep _ _ _ t2 λb _ o e=>kp3 b o e) (loop _ rfl))]
def Mx{elt iter tg:Expr}{bd:V->Hp->(St->Prop)->Prop}{pos:Pos}{ifs:List Expr}{wi:TI}{tc:TT}{te:TE}{cn:List Str}{ci:List Nat}(B:A4 X scope x)(cp:ze X scope cn ci)(hnd:cn.Nodup)(hcalm:X.calm=ζ)(ht:TU X tg scope x cn bd)(hi:PI X tg iter wi)
  (hc:∀C s₀ H₀ ex,Mt (X.vx scope C (x++cn) s₀ H₀ ex) ifs tc) (he:∀C s₀ H₀ ex,PE (X.vx scope C (x++cn) s₀ H₀ ex) elt te) (hs:∀x,foldedSetIterable iter X.env x=pure x:=by intro _;rfl):
  PE X (.ListComp elt [#[tg,iter,ifs,0]] scope pos) (Ir bd wi ci tc te):=by
 k_ne;rw[eval_ListComp]
 rwa[Fn (use:=ψ) rfl hs (vv (B.cells I.ok)) B.kind B.lo (eJ (hi pZ s σ H _ I h) λv s1 h1=>eJ h1 λitv s2 h2=>?_)];let#[it,fp,tn,J,H2,e,I2,T,t2,f2,q]:=h2;subst e;rwa[A7 (RR:=λacc C=>compPost (bg X.prog X.w) X.A X.xe ψ (EP X pZ σ Q) acc C) (Rq:=λD H2=>Q (.ref D) H2) I2 B cp hnd hcalm ht T t2 f2 hc he q λC D H5 s5 I5 q5 hn fC=>?_]
 let#[m,hm]:=hn;refine#[m,hm,λh' sb=>#[.ref D,H5,?_,rfl,q5]];erw[I5.turned (it:=C) (t':=s5.toks) (λb o hb e=>(sb.2 b hb).trans e) fC.1 fC.2.2.1 (.inr fC.2.1) fC.2.2.2.1 fC.2.2.2.2]
def CZ{elt iter tg:Expr}{bd:V->Hp->(St->Prop)->Prop}{py pos spos:Pos}{ifs:List Expr}{wi:TI}{tc:TT}{te:TE}{cn:List Str}{ci:List Nat}{i:Nat}{y:Str}(B:A4 X scope x)(cp:ze X scope cn ci)(hnd:cn.Nodup)(hcalm:X.calm=ζ)(ht:TU X tg scope x cn bd)(hi:PI X tg iter wi)
  (hc:∀C s₀ H₀ ex,Mt (X.vx scope C (x++cn) s₀ H₀ ex) ifs tc) (he:∀C s₀ H₀ ex,PE (X.vx scope C (x++cn) s₀ H₀ ex) elt te) (hN:X.N.Nodup) (hy:X.N[i]?=ξ y) (hk:X.env.scope.names.lookup y=ξ .local)
  (hsw:fP (.ListComp elt [#[tg,iter,ifs,0]] scope pos) (ξ (.Name y py)) spos.line X.env=pure ζ) (hs:∀x,foldedSetIterable iter X.env x=pure x:=by intro _;rfl):
  PS X (.Assign [.Name y py] (.ListComp elt [#[tg,iter,ifs,0]] scope pos) spos) (Ux (Ir bd wi ci tc te) (xD i)):=by
 intro pZ s σ H D I h;rw[exec_Assign_Name_used _ _ _ _ hsw]
 refine af (Fm (af ?_));show wpAny _ X.A (do let _ <-comprehension (.ListComp elt [#[tg,iter,ifs,0]] scope pos) scope X.env _ (newList []) ϑ (eval iter X.env) (ξ (yC (.Name y py) X.env))) _ _ s;refine af (fV (Fn (use:=ξ (yC (.Name y py) X.env)) (Q:=λ_ s'=>SP X pZ D .next s') rfl hs (vv (B.cells I.ok)) B.kind B.lo (eJ (hi pZ s σ H _ I h) λv s1 h1=>eJ h1 λitv s2 h2=>?_))
  (λ_ s' hq=>aA (aA hq)) λ_ _ e=>e)
 let#[it,fp,tn,J,H2,e,I2,T,t2,f2,q]:=h2;subst e;rwa[A7 (RR:=λacc C=>compPost (bg X.prog X.w) X.A X.xe (ξ (yC (.Name y py) X.env)) (λ_ s'=>SP X pZ D .next s') acc C) (Rq:=λD' H2=>(xD i) (.ref D') σ H2 D.nx) I2 B cp hnd hcalm ht T t2 f2 hc he q λC D' H5 s5 I5 q5 hn fC=>?_]
 let#[m,hm]:=hn;show wpAny _ X.A (yC (.Name y py) X.env (.ref D')) _ _ _;refine wJ (xB (v:=.ref D') I5 hN hy (.inl hk) rfl (λs6 I6 sb6=>?_) (.inr hk));let#[a,sb,ha]:=sb6;have nC:C≠a:=by
  rcases ha with z|z
  .rw[z];erw[fC.2.2.1]
  .intro w;erw[fC.2.2.2.1 y a z w.symm]
 refine#[m,hm.sameBut sb nC,λh' sb'=>#[_,H5,?_,q5]];erw[I6.turned (it:=C) (t':=s6.toks) (λb o hb e=>(sb'.2 b hb).trans e) fC.1 fC.2.2.1 (.inr fC.2.1) fC.2.2.2.1 fC.2.2.2.2]
abbrev U9(z:Str):It:=#[λi _=>i<z.cps.size,λi H x H'=>H'=H/\∃c,z.cps[i]?=ξ c/\x=.str #[(List.toArray [c])],λi _=>z.cps.size<=i]
def Iw{P:bO}{w:cC}{K:Frag}{tg:Expr}(it:Addr)(z:Str)(t:Tok)(b:Bool):Turn P w K tg (U9 z) [it] it (λi h=>h.IsStrIter it (if b then "str_ascii_iterator" else "str_iterator") z t i) where
 mem:=by simp
 obj:=λi h st c hc=>by
  have e:c=it:=by simpa using hc
  subst e;let#[o,e,_,d]:=st;exact#[o,e,λv q=>by rw[d] at q;cases q]
 keep:=λi h h' st k=>by
  let#[o,e,c,d]:=st;exact#[o,k it (#v[]) o e,c,d]
 item:=by
  w_up;subst hP hw hK;let#[f0,f1,f2,f3,f4,f5]:=hf it (#v[]);have hx:z.cps[i]?=ξ (z.cps[i]'hg):=iM hg;have done:∀h',h'.IsStrIter it (if b then "str_ascii_iterator" else "str_iterator") z t (i+1)->gD it s.heap h' ->
    ∃u,(ξ (lM #[(List.toArray [z.cps[i]'hg])] s.toks):Option Value)=ξ u/\wpAny (bg X.prog X.w) X.A (qN tg (.ref it) u) (λ_ s2=>∃x H',Inv X pZ σ H' s2/\RelV x u/\(U9 z).UA i H x H'/\s2.heap.IsStrIter it (if b then "str_ascii_iterator" else "str_iterator") z t (i+1)/\∀b∈[it],H' b=ψ) E {s with heap:=h',toks:=s.toks+1}:=λh' st' sb=>by
   have I1:Inv X pZ σ H {s with heap:=h',toks:=s.toks+1}:=I.turned (t':=s.toks+1) (λb o hb e=>(sb.2 b hb).trans e) f0 f1 f3 f4 f5;let#[o,e,c,d]:=id st';exact#[_,rfl,xE (s:={s with heap:=h',toks:=s.toks+1}) e c d (by cases b<;>decide) #[.str #[(List.toArray [z.cps[i]'hg])],H,I1,#[_,rfl],#[rfl,_,hx,rfl],st',λb hb=>(hf b hb).1]]
  cases b with
  |true=>erw[wpAny_pyNext_ascii_item st hx λh' st' sb=>done h' st' sb]
  |false=>erw[wpAny_pyNext_wide_item st hx λh' st' sb=>done h' st' sb]
 done:=by
  w_up;subst hP hw hK;let#[f0,f1,f2,f3,f4,f5]:=hf it (#v[]);have hx:z.cps[i]?=ψ:=AE hg;cases b with
  |true=>erw[wpAny_pyNext_ascii_end (I.ok.hd hc) st hx λh' eb=>#[rfl,I.turned (t':=s.toks) (λb o hb e=>eb b o hb e) f0 f1 f3 f4 f5]]
  |false=>erw[wpAny_pyNext_wide_end (I.ok.hd hc) st hx λh' eb=>#[rfl,I.turned (t':=s.toks) (λb o hb e=>eb b o hb e) f0 f1 f3 f4 f5]]
 self:=λA i s Q E st h=>by
  cases b with
  |true=>erw[wpAny_pyIter_striter_ascii st h]
  |false=>erw[wpAny_pyIter_striter_wide st h]
end
noncomputable abbrev tx(l:List Nat):Str:=#[l.toArray]
def Va(z:Str):z=tx z.cps.toList:=by
 let#[a]:=z;simp
def zf(a b:List Nat):tx a++tx b=tx (a++b):=by
 show Str.mk (a.toArray++b.toArray)=Str.mk (a++b).toArray
 simp
def dS(a:List Nat):(tx a).length=a.length:=by simp[Str.length]
def qC(h:tx a=tx b):a=b:=by
 have:=congrArg (λz:Str=>z.cps.toList) h;simpa using this
def OH:(tx a=tx b)↔a=b:=#[qC,λh=>by rw[h]]
def Eg:(V.str (tx a)=V.str (tx b))↔a=b:=#[λh=>qC (V.str.inj h),λh=>by rw[h]]
section
variable{X:Cx}
def FR:iq X (cQ .Add) (λx y H Q=>∃a b,x=.str (tx a)/\y=.str (tx b)/\a.length+b.length<=sizeLine/\Q (.str (tx (a++b))) H):=by
 x_go;let#[a,b,rfl,rfl,hz,q]:=h;rwa[CH pZ s σ H _ _ v u Q I rx ry #[tx a,tx b,rfl,rfl,%[dS,dS|hz],?_]];rw[zf]
 erw[q]
def C0:iq X (iE .Add) (λx y H Q=>∃a b,x=.str (tx a)/\y=.str (tx b)/\a.length+b.length<=sizeLine/\Q (.str (tx (a++b))) H):=by
 x_go;let#[a,b,rfl,rfl,hz,q]:=h;rwa[AU pZ s σ H _ _ v u Q I rx ry #[tx a,tx b,rfl,rfl,%[dS,dS|hz],?_]];rw[zf]
 erw[q]
def My(h:c∈l):Txt.find (tx l) (tx [c])=((l.idxOf c:Nat):Int)/\(Builtin.Str.occurrences (tx l) (tx [c]) 0 (tx l).length 1).isEmpty=ϑ:=by
 have h2:(!(Builtin.Str.occurrences (tx l) #[(List.toArray [c])] 0 (tx l).length 1).isEmpty)=ζ:=by rw[StrLaws.found_one];simpa using h
 refine#[?_,~~~h2];have at_iff:∀i,StrLaws.At (tx l) (tx [c]) (tx l).length i↔l[i]?=ξ c:=λi=>by
  have:=StrLaws.subAt_one (tx l) c i;simpa[StrLaws.At] using this
 rcases find_whole (tx l) (tx [c]) with⟨_,no⟩|⟨i,e,hi,lo⟩
 .let#[j,hj,ej]:=qQ h
  erw[absurd ((at_iff j).mpr (by rw[ab hj,ej])) (no j)]
 .rw[e]
  have hi':=(at_iff i).mp hi;let#[hlt,ei]:=ag.mp hi';have e1:l.idxOf c=i:=by
   have hk:=cM h;rcases uo (l.idxOf c) i with q|q|q
   .erw[absurd ((at_iff _).mpr (by rw[ab hk,jq])) (lo _ q)]
   .erw[q]
   .have:=List.not_of_lt_findIdx (p:=(·==c)) (xs:=l) (i:=i) q
    simp[ei] at this
  rw[e1]
abbrev Qw:V->List V->Hp->VK->Prop:=λx xs H Q=>∃l c,x=.str (tx l)/\xs=[.str (tx [c])]/\c∈l/\Q (.int ((l.idxOf c:Nat):Int)) H
def A8(hA:X.A.handled=ψ):Cd X "str.index" Qw:=by
 intro pZ s σ H x xs v us Q I rx rs h;let#[l,c,rfl,rfl,hc,q]:=h;let#[t,rfl]:=rx;let#[u,rfl,t',rfl]:=vals1 rs;let#[e,ne]:=My hc;rwa[index_or hA (λz w=>?_) λ_ _=>#[.int _,H,I.tok _,#[_,rfl],%[e|q]]]
 rw[ne] at w;cases w
end
abbrev vy(sep:List Nat):List (List Nat)->List Nat
 |[]=>[]
 |[x]=>x
 |x::r=>x++sep++vy sep r
def Mz(sep:List Nat):∀ts:List (List Nat),Txt.join (tx sep) (ts.map tx)=tx (vy sep ts):=by
 intro ts;show Builtin.Str.glued (tx sep) (ts.map tx)=_;rw[StrLaws.glued_eq_join]
 induction ts with
 |nil=>rfl
 |cons a r ih=>
  cases r with
  |nil=>rfl
  |cons b r=>
   show tx a++tx sep++Str.join (tx sep) ((b::r).map tx)=tx (a++sep++vy sep (b::r))
   rw[ih,zf,zf]
def vz:∀{ts:List (List Nat)}{us:List Value},Vals (ts.map λt=>V.str (tx t)) us->StrsAre us (ts.map tx)
 |[],_,.nil=>.nil
 |a::ts,_,.cons (b:=u) r h=>by
  let#[t,e]:=(show ∃t,u=lM (tx a) t from r)
  subst e;erw[.cons _ _ (vz h)]
section
variable{X:Cx}
abbrev rJoin(K:Frag):V->List V->Hp->VK->Prop:=λx xs H Q=>∃sep ts p,x=.str (tx sep)/\xs=[.ref p]/\ij K H p (ts.map λt=>V.str (tx t))/\(ts.map cR).sum+ts.length*sep.length<=1000000/\Q (.str (tx (vy sep ts))) H
def Eh:Cd X "str.join" (rJoin X.K):=by
 intro pZ s σ H x xs v us Q I rx rs h;let#[sep,ts,p,rfl,rfl,hl,hz,q]:=h;let#[t,rfl]:=rx;let#[u,rfl,ru]:=vals1 rs;cases ru;let#[its,r,pl,_]:=I.list hl;refine join_list pl.isList (ys:=ts.map tx) (~~~(vz r)) ?_ λt' k=>#[.str (tx (vy sep ts)),H,I.tok k,#[t',by rw[Mz]],q]
 have e:((ts.map tx).map (·.length)).sum=(ts.map cR).sum:=by
  congr 1
  rw[bw]
  erw[qR λa _=>dS a]
 rw[e,ae,dS]
 omega
def vA:∀{l:List Nat},(∀k∈l,f k=g k)->l.filterMap f=l.filterMap g
 |[],_=>rfl
 |a::l,h=>by
  rw[cw,cw,h a aQ,vA λk hk=>h k (ay _ hk)]
def mT(l:List Nat):∀(n i:Nat),i+n<=l.length->(cv n).filterMap (λk=>l[i+k]?)=(l.drop i).take n
 |0,i,_=>by simp
 |n+1,i,h=>by
  rw[B6,cw,sv]
  have hi:i<l.length:=∅
  have e:l[i+0]?=ξ l[i]:=by simp[hi]
  rw[e,dM hi,Fo]
  have:=mT l n (i+1) ∅;rw[<-this]
  show l[i]::_=l[i]::_
  congr 1
  rwa[vA λk _=>?_]
  show l[i+(k+1)]?=l[i+1+k]?
  rw[show i+(k+1)=i+1+k by omega]
abbrev C1(l:List Nat)(i j:Nat):List Nat:=(l.drop i).take (j-i)
def Ei{b:Int}{n:Nat}(h:0<=b):max 0 (min b (n:Int))=((min b.toNat n:Nat):Int):=by
 let#[k,rfl]:=Int.eq_ofNat_of_zero_le h;rw[Int.max_eq_right (Int.le_min.mpr #[h,Int.ofNat_nonneg n])]
 rw[fG];omega
def Iy(l:List Nat)(lo hi:Option Int)(i j:Nat)(hlo:lo=ψ/\i=0\/∃a:Int,lo=ξ a/\0<=a/\i=min a.toNat l.length)(hhi:hi=ψ/\j=l.length\/∃b:Int,hi=ξ b/\0<=b/\j=min b.toNat l.length):
  Txt.slice (tx l) lo hi=tx (C1 l i j):=by
 have hi':i<=l.length:=by rcases hlo with⟨_,e⟩|⟨a,_,_,e⟩<;>omega
 have hj':j<=l.length:=by rcases hhi with⟨_,e⟩|⟨b,_,_,e⟩<;>omega
 have key:Builtin.Str.strSliceIndices lo hi 1 l.length=(cv (j-i)).map λk=>i+k:=by
  have e0:Builtin.Str.strSliceIndices lo hi 1 l.length=sliceRange (i:Int) (j:Int) 1:=by
   unfold Builtin.Str.strSliceIndices;rcases hlo with⟨rfl,rfl⟩|⟨a,rfl,h0,rfl⟩<;>rcases hhi with⟨rfl,rfl⟩|⟨b,rfl,h1,rfl⟩
   .rfl
   .dsimp[yO.mpr h1,if_false,show(1:Int)>0 by decide,if_true,Ei h1]
    rfl
   .dsimp[yO.mpr h0,if_false,show(1:Int)>0 by decide,if_true,Ei h0]
   .dsimp[yO.mpr h0,yO.mpr h1,if_false,show(1:Int)>0 by decide,if_true,Ei h0,Ei h1]
  rw[e0]
  unfold sliceRange;dsimp[show(1:Int)>0 by decide,if_true,Int.ediv_one];have e3:(if (i:Int)<(j:Int) then(j:Int)-i+1-1 else 0).toNat=j-i:=by split<;>omega
  rw[e3]
  rwa[qR λk _=>?_]
  omega
 have len:(tx l).length=l.length:=dS l;unfold Txt.slice;rw[len,key]
 have e4:((cv (j-i)).map λk=>i+k).length=j-i:=by simp
 rw[e4]
 by_cases hw:j-i=l.length
 .rw[if_pos (by simp[hw])]
  have:C1 l i j=l:=by
   unfold C1;have:i=0:=∅
   subst this;rw[hw,jO,bP]
  rw[this]
 .rw[if_neg (by simp[hw])]
  show tx _=tx _
  congr 1
  rw[sv]
  by_cases hij:i<=j
  .have:=mT l (j-i) i ∅
   unfold C1;rw[<-this]
   rwa[vA λk _=>?_]
   simp
  .have:j-i=0:=∅
   unfold C1;rw[this]
   simp
abbrev Y6:V->Option Int->Option Int->Hp->VK->Prop:=λx lo hi H Q=>∃l i j,x=.str (tx l)/\l.length<=sizeLine/\(lo=ψ/\i=0\/∃a:Int,lo=ξ a/\0<=a/\i=min a.toNat l.length)/\(hi=ψ/\j=l.length\/∃b:Int,hi=ξ b/\0<=b/\j=min b.toNat l.length)/\Q (.str (tx (C1 l i j))) H
def Vb:UU X Y6:=by
 intro pZ s σ H x v vl vu lo hi sl Q I rx hs pl pu h;let#[l,i,j,rfl,hz,h1,h2,q]:=h;let#[t,rfl]:=rx;refine#["str",_,F.slot_str_getitem.lookup,typeIs_str _ _ _,?_];have fin:∀(a b:Option (Int×Tok)),vl=partValue a->vu=partValue b->lo=a.map (·.1)->hi=b.map (·.1)->wpAny (bg X.prog X.w) X.A (oH (.str (tx l) t) (.ref sl)) (EP X pZ σ Q) X.xe s:=λa b e1 e2 e3 e4=>by
  refine wpAny_getItem_str_slice (l:=a) (u:=b) (st:=ψ) (by rw[e1,e2] at hs;erw[hs]) rfl ?_;rwa[post_val_or_str #[aF (Txt.slice_le (tx l) _ _) (%[dS|hz]),λt' k=>#[.str (tx (C1 l i j)),H,I.tok k,#[t',?_],q]]];have:=Iy l lo hi i j h1 h2;rw[e3,e4] at this;rw[<-this]
  rfl
 cases pl with
 |none=>
  cases pu with
  |none=>erw[fin ψ ψ rfl rfl rfl rfl]
  |int b u=>erw[fin ψ (ξ (b,u)) rfl rfl rfl rfl]
 |int a u=>
  cases pu with
  |none=>erw[fin (ξ (a,u)) ψ rfl rfl rfl rfl]
  |int b u2=>erw[fin (ξ (a,u)) (ξ (b,u2)) rfl rfl rfl rfl]
end
section
variable{X:Cx}{pZ:List (Addr×Obj)}{σ:St}{H:Hp}{s:aD}{a C d:Addr}{fs:List (Str×V)}{f:Str}{v:V}
structure Qx(K:Frag)(P:Params)(a:Addr)(kvs:List (Str×V)):Prop where
 ex:∃es n,K.lookup a=ξ #[.type "dict",ψ,.dict es n,#[]]/\B7 P es.toList
 at_:∀k v,kvs.lookup k=ξ v->∃u,RelV v u/\nsIn K a k=ξ (ξ u)
 no:∀k,kvs.lookup k=ψ->nsIn K a k=ξ ψ
 ns:(a==cb)=ϑ
abbrev Y7(K:Frag)(P:Params):R2:=λx y H Q=>∃a kvs k v,x=.ref a/\y=.str k/\Qx K P a kvs/\kvs.lookup k=ξ v/\Q v H
def zg:TQ X (Y7 X.K X.w.params):=by
 intro value slice pZ s σ H x y v u Q I rx ry h hs;let#[a,kvs,k,z,rfl,rfl,T,e,q]:=h;cases rx;let#[t,rfl]:=ry;let#[es,n,lk,kl]:=T.ex;let#[w,rw',ew]:=T.at_ k z e;have hm:=mapOf_K (prog:=X.prog) (w:=X.w) I.yT lk kl;erw[tail_any hm.typeIs slot_dict_getitem.lookup (wpAny_getItem_of (strKind_is X.prog X.w k t) hm (find_K lk ew) #[z,H,I.tok _,rw',q]) hs]
end
inductive Dv where
 |b7|bl (b:Bool)|int (i:Int)|str (l:List Nat)|tup (ds:List Dv)|lst (ds:List Dv)
mutual
noncomputable def Dv.depth:Dv->Nat
 |.tup ds=>Dv.lA ds+1
 |.lst ds=>Dv.lA ds+1
 |_=>0
noncomputable def Dv.lA:List Dv->Nat
 |[]=>0
 |d::ds=>max d.depth (Dv.lA ds)
end
mutual
noncomputable def Ce:Dv->Dv->Bool
 |.b7,.b7=>ζ
 |.bl a,.bl b=>a==b
 |.bl a,.int b=>(if a then 1 else 0)== b
 |.int a,.bl b=>a==(if b then 1 else 0)
 |.int a,.int b=>a==b
 |.str a,.str b=>a==b
 |.tup xs,.tup ys=>qd xs ys
 |.lst xs,.lst ys=>qd xs ys
 |_,_=>ϑ
noncomputable def qd:List Dv->List Dv->Bool
 |[],[]=>ζ
 |x::xs,y::ys=>Ce x y&&qd xs ys
 |_,_=>ϑ
end
mutual
noncomputable def oV(K:Frag)(H:Hp):V->Dv->Prop
 |v,.b7=>v=.b7
 |v,.bl b=>v=.bl b
 |v,.int i=>v=.int i
 |v,.str l=>v=.str (tx l)
 |v,.tup ds=>∃a vs,v=.ref a/\lO K H a vs/\iP K H vs ds
 |v,.lst ds=>∃a vs,v=.ref a/\ij K H a vs/\iP K H vs ds
noncomputable def iP(K:Frag)(H:Hp):List V->List Dv->Prop
 |[],[]=>True
 |v::vs,d::ds=>oV K H v d/\iP K H vs ds
 |_,_=>False
end
def iP.len{K:Frag}{H:Hp}:∀{vs:List V}{ds:List Dv},iP K H vs ds->vs.length=ds.length
 |[],[],_=>rfl
 |_::vs,_::ds,h=>by
  unfold iP at h;rw[aU,aU,iP.len h.2]
 |[],_::_,h=>by unfold iP at h;erw[h.elim]
 |_::_,[],h=>by unfold iP at h;erw[h.elim]
def iP.get{K:Frag}{H:Hp}:∀{vs:List V}{ds:List Dv}{i:Nat}{v:V}{d:Dv},iP K H vs ds->vs[i]?=ξ v->ds[i]?=ξ d->oV K H v d
 |v::vs,d::ds,0,_,_,h,e1,e2=>by
  unfold iP at h;simp at e1 e2;subst e1 e2;erw[h.1]
 |v::vs,d::ds,i+1,_,_,h,e1,e2=>by
  unfold iP at h;exact iP.get (i:=i) h.2 (~~~e1) (~~~e2)
 |[],_,_,_,_,_,e1,_=>by simp at e1
 |_,[],_,_,_,_,_,e2=>by simp at e2
mutual
theorem vB:∀d:Dv,Ce d d=ζ
 |.b7=>rfl
 |.bl b=>beq_self_eq_true _
 |.int i=>beq_self_eq_true _
 |.str l=>beq_self_eq_true _
 |.tup ds=>sX ds
 |.lst ds=>sX ds
theorem sX:∀ds:List Dv,qd ds ds=ζ
 |[]=>by unfold qd;rfl
 |d::ds=>by unfold qd;rw[vB d,sX ds];rfl
end
def vC:∀(xs ys:List Dv)(e:Nat->Bool),(∀i x y,xs[i]?=ξ x->ys[i]?=ξ y->e i=Ce x y)->((cv (min xs.length ys.length)).all e&&xs.length==ys.length)=qd xs ys
 |[],[],e,_=>by unfold qd;simp
 |[],y::ys,e,_=>by unfold qd;simp
 |x::xs,[],e,_=>by unfold qd;simp
 |x::xs,y::ys,e,h=>by
  have ih:=vC xs ys (λi=>e (i+1)) λi a b h1 h2=>h (i+1) a b (~~~h1) (~~~h2)
  unfold qd;rw[<-ih,<-h 0 x y rfl rfl]
  rw[aU,aU,Nat.succ_min_succ,B6,bQ,B8]
  have:(xs.length+1==ys.length+1)=(xs.length==ys.length):=by simp
  rw[this,Bool.and_assoc]
  rfl
section
variable{X:Cx}{pZ:List (Addr×Obj)}{σ:St}{H:Hp}{s:aD}
mutual
theorem oV.inj(I:Inv X pZ σ H s):∀{d d':Dv}{v:V},oV X.K H v d->oV X.K H v d'->d=d'
 |.b7,d',v,h,h'=>by
  unfold oV at h;subst h;cases d'<;>unfold oV at h'<;>first|rfl| (cases h';done)| (obtain⟨_,_,z,_⟩:=h';cases z)
 |.bl b,d',v,h,h'=>by
  unfold oV at h;subst h;cases d'<;>unfold oV at h'<;>first| (cases h';rfl)| (cases h';done)| (obtain⟨_,_,z,_⟩:=h';cases z)
 |.int b,d',v,h,h'=>by
  unfold oV at h;subst h;cases d'<;>unfold oV at h'<;>first| (cases h';rfl)| (cases h';done)| (obtain⟨_,_,z,_⟩:=h';cases z)
 |.str l,d',v,h,h'=>by
  unfold oV at h;subst h;cases d'<;>unfold oV at h'<;>first| (rw[Eg.mp h'])| (cases h';done)| (obtain⟨_,_,z,_⟩:=h';cases z)
 |.tup ds,d',v,h,h'=>by
  let#[a,vs,rfl,hq,hd]:=h;cases d' with
  |tup ds'=>
   unfold oV at h';let#[a',vs',e,hq',hd']:=h';cases e;rw[I.xC hq' hq] at hd';rw[iP.inj I hd hd']
  |lst ds'=>
   unfold oV at h';let#[a',vs',e,hq',hd']:=h';cases e;exfalso;let#[its,_,#[o,e1,c1,_],_]:=I.tuple hq;let#[its',_,#[o',n',e2,c2,_,_],_]:=I.list hq';rw[e1] at e2;cases e2;rw[c1] at c2;injection c2 with c2
   erw[absurd c2 ⋯]
  |_=>unfold oV at h';cases h'
 |.lst ds,d',v,h,h'=>by
  let#[a,vs,rfl,hq,hd]:=h;cases d' with
  |lst ds'=>
   unfold oV at h';let#[a',vs',e,hq',hd']:=h';cases e;rw[I.rq hq' hq] at hd';rw[iP.inj I hd hd']
  |tup ds'=>
   unfold oV at h';let#[a',vs',e,hq',hd']:=h';cases e;exfalso;let#[its,_,#[o,e1,c1,_],_]:=I.tuple hq';let#[its',_,#[o',n',e2,c2,_,_],_]:=I.list hq;rw[e1] at e2;cases e2;rw[c1] at c2;injection c2 with c2
   erw[absurd c2 ⋯]
  |_=>unfold oV at h';cases h'
theorem iP.inj(I:Inv X pZ σ H s):∀{ds ds':List Dv}{vs:List V},iP X.K H vs ds->iP X.K H vs ds'->ds=ds'
 |[],[],_,_,_=>rfl
 |[],_::_,[],_,h'=>by unfold iP at h';erw[h'.elim]
 |[],_::_,_::_,h,_=>by unfold iP at h;erw[h.elim]
 |_::_,[],[],h,_=>by unfold iP at h;erw[h.elim]
 |_::_,[],_::_,_,h'=>by unfold iP at h';erw[h'.elim]
 |d::ds,d'::ds',[],h,_=>by unfold iP at h;erw[h.elim]
 |d::ds,d'::ds',v::vs,h,h'=>by
  unfold iP at h h';rw[oV.inj I h.1 h'.1,iP.inj I h.2 h'.2]
end
def sY:∀{ds:List Dv}{i:Nat}{d:Dv},ds[i]?=ξ d->d.depth<=Dv.lA ds
 |d::ds,0,_,h=>by
  simp at h;subst h;unfold Dv.lA;erw[Nat.le_max_left _ _]
 |d::ds,i+1,_,h=>by
  have:=sY (ds:=ds) (i:=i) (~~~h);unfold Dv.lA;erw[aF this (LF _ _)]
 |[],_,_,h=>by simp at h
def Qy(I:Inv X pZ σ H s):∀(n:Nat){A:d9}{d d':Dv}{x y:V}{u v:Value},d.depth<=n->A.units+n<gv->oV X.K H x d->oV X.K H y d'->RelV x u->RelV y v->wL A s u v (Ce d d'):=by
 intro n;induction n with
 |zero=>
  intro A d d' x y u v hn hu hx hy rx ry;cases d with
  |tup ds=>unfold Dv.depth at hn;omega
  |lst ds=>unfold Dv.depth at hn;omega
  |b7=>
   cases (show _=_ from hx);cases rx;cases d'<;>unfold oV at hy
   .subst hy;cases ry;erw[jZ _]
   .subst hy;cases ry;erw[xm _]
   .subst hy;let#[t,rfl]:=ry;erw[oF _ _]
   .subst hy;let#[t,rfl]:=ry;erw[oG _ _]
   .let#[a,vs,rfl,hq,_]:=hy;cases ry;let#[its,_,p,_]:=I.tuple hq;erw[SeqAt.EqAt.none_tuple p ∅]
   .let#[a,vs,rfl,hq,_]:=hy;cases ry;let#[its,_,p,_]:=I.list hq;erw[SeqAt.EqAt.none_list p.isList ∅]
  |bl b=>
   cases (show _=_ from hx);cases rx;cases d'<;>unfold oV at hy
   .subst hy;cases ry;erw[xn _]
   .subst hy;cases ry;erw[xo _ _]
   .subst hy;let#[t,rfl]:=ry;erw[yK _ _ _]
   .subst hy;let#[t,rfl]:=ry;erw[yL _ _ _]
   .let#[a,vs,rfl,hq,_]:=hy;cases ry;let#[its,_,p,_]:=I.tuple hq;erw[SeqAt.EqAt.bool_tuple _ p ∅]
   .let#[a,vs,rfl,hq,_]:=hy;cases ry;let#[its,_,p,_]:=I.list hq;erw[SeqAt.EqAt.bool_list _ p.isList ∅]
  |int i=>
   cases (show _=_ from hx);let#[t0,rfl]:=rx;cases d'<;>unfold oV at hy
   .subst hy;cases ry;erw[oC _ _]
   .subst hy;cases ry;erw[yM _ _ _]
   .subst hy;let#[t,rfl]:=ry;erw[Ai _ _ _ _]
   .subst hy;let#[t,rfl]:=ry;erw[ph _ _ _ _]
   .let#[a,vs,rfl,hq,_]:=hy;cases ry;let#[its,_,p,_]:=I.tuple hq;erw[SeqAt.EqAt.int_tuple _ _ p ∅]
   .let#[a,vs,rfl,hq,_]:=hy;cases ry;let#[its,_,p,_]:=I.list hq;erw[SeqAt.EqAt.int_list _ _ p.isList ∅]
  |str l=>
   cases (show _=_ from hx);let#[t0,rfl]:=rx;cases d' with
   |b7=>cases (show _=_ from hy);cases ry;erw[oE _ _]
   |bl b=>cases (show _=_ from hy);cases ry;erw[yN _ _ _]
   |int i=>cases (show _=_ from hy);let#[t,rfl]:=ry;erw[pj _ _ _ _]
   |str l'=>
    cases (show _=_ from hy);let#[t,rfl]:=ry;have e:(tx l==tx l')=Ce (.str l) (.str l'):=by
     show(tx l==tx l')=(l==l')
     rw[dv,beq_iff_eq,beq_iff_eq]
     erw[OH]
    rw[<-e]
    erw[Aj _ _ _ _]
   |tup ds=>let#[a,vs,rfl,hq,_]:=hy;cases ry;let#[its,_,p,_]:=I.tuple hq;erw[SeqAt.EqAt.str_tuple _ _ p ∅]
   |lst ds=>let#[a,vs,rfl,hq,_]:=hy;cases ry;let#[its,_,p,_]:=I.list hq;erw[SeqAt.EqAt.str_list _ _ p.isList ∅]
 |succ n ih=>
  intro A d d' x y u v hn hu hx hy rx ry;have items:∀{vs vs':List V}{ds ds':List Dv}{its its':List Value},Dv.lA ds<=n->iP X.K H vs ds->iP X.K H vs' ds'->Vals vs its->Vals vs' its' ->
    ∃e:Nat->Bool,(∀j(h1:j<its.toArray.size)(h2:j<its'.toArray.size),wL A.in1 s its.toArray[j] its'.toArray[j] (e j))/\((cv (min its.toArray.size its'.toArray.size)).all e&&its.toArray.size==its'.toArray.size)=qd ds ds':=by
   intro vs vs' ds ds' its its' hd h1 h2 r1 r2;have l1:=h1.len;have l2:=h2.len;have m1:=r1.length;have m2:=r2.length;refine#[λj=>match ds[j]?,ds'[j]? with|some a,ξ b=>Ce a b|_,_=>ζ,λj k1 k2=>?_,?_]
   .rw[aK] at k1 k2
    have j1:j<ds.length:=∅
    have j2:j<ds'.length:=∅
    have i1:j<vs.length:=∅
    have i2:j<vs'.length:=∅
    have e1:ds[j]?=ξ ds[j]:=ab j1;have e2:ds'[j]?=ξ ds'[j]:=ab j2;have f1:vs[j]?=ξ vs[j]:=ab i1;have f2:vs'[j]?=ξ vs'[j]:=ab i2;let#[w1,g1,q1]:=r1.get f1;let#[w2,g2,q2]:=r2.get f2;have a1:its.toArray[j]=w1:=by
     let#[_,z]:=ag.mp g1;simpa using z
    have a2:its'.toArray[j]=w2:=by
     let#[_,z]:=ag.mp g2;simpa using z
    rw[a1,a2]
    dsimp only;rw[e1,e2]
    erw[ih (aF (sY e1) hd) (by show A.units+1+n<gv;omega) (h1.get f1 e1) (h2.get f2 e2) q1 q2]
   .rw[aK,aK,<-m1,<-m2,l1,l2]
    rwa[vC ds ds' _ λi a b h1 h2=>?_]
    rw[h1,h2]
  by_cases hz:d.depth<=n
  .erw[ih hz ∅ hx hy rx ry]
  .cases d with
   |b7=>unfold Dv.depth at hz;omega
   |bl b=>unfold Dv.depth at hz;omega
   |int b=>unfold Dv.depth at hz;omega
   |str b=>unfold Dv.depth at hz;omega
   |tup ds=>
    have hx0:=hx;let#[a,vs,rfl,hq,hd]:=hx;cases rx;let#[its,r1,p,_]:=I.tuple hq;unfold Dv.depth at hn;cases d' with
    |b7=>cases (show _=_ from hy);cases ry;erw[SeqAt.EqAt.tuple_none p ∅]
    |bl b=>cases (show _=_ from hy);cases ry;erw[SeqAt.EqAt.tuple_bool _ p ∅]
    |int i=>cases (show _=_ from hy);let#[t,rfl]:=ry;erw[SeqAt.EqAt.tuple_int _ _ p ∅]
    |str l'=>cases (show _=_ from hy);let#[t,rfl]:=ry;erw[SeqAt.EqAt.tuple_str _ _ p ∅]
    |lst ds'=>let#[a',vs',rfl,hq',_]:=hy;cases ry;let#[its',_,p',_]:=I.list hq';erw[SeqAt.EqAt.tuple_list p p'.isList ∅]
    |tup ds'=>
     have hy0:=hy;let#[a',vs',rfl,hq',hd']:=hy;cases ry;let#[its',r2,p',_]:=I.tuple hq';by_cases e:a=a'
     .subst e
      rw[oV.inj I hx0 hy0,vB]
      erw[jZ _]
     .let#[f,hf,ef]:=items ∅ hd hd' r1 r2
      rw[show Ce (.tup ds) (.tup ds')=qd ds ds' from rfl,<-ef]
      erw[Al e (SeqAt.RcAt.tuples p p' ∅ hf)]
   |lst ds=>
    have hx0:=hx;let#[a,vs,rfl,hq,hd]:=hx;cases rx;let#[its,r1,p,_]:=I.list hq;unfold Dv.depth at hn;cases d' with
    |b7=>cases (show _=_ from hy);cases ry;erw[SeqAt.EqAt.list_none p.isList ∅]
    |bl b=>cases (show _=_ from hy);cases ry;erw[SeqAt.EqAt.list_bool _ p.isList ∅]
    |int i=>cases (show _=_ from hy);let#[t,rfl]:=ry;erw[SeqAt.EqAt.list_int _ _ p.isList ∅]
    |str l'=>cases (show _=_ from hy);let#[t,rfl]:=ry;erw[SeqAt.EqAt.list_str _ _ p.isList ∅]
    |tup ds'=>let#[a',vs',rfl,hq',_]:=hy;cases ry;let#[its',_,p',_]:=I.tuple hq';erw[SeqAt.EqAt.list_tuple p.isList p' ∅]
    |lst ds'=>
     have hy0:=hy;let#[a',vs',rfl,hq',hd']:=hy;cases ry;let#[its',r2,p',_]:=I.list hq';by_cases e:a=a'
     .subst e
      rw[oV.inj I hx0 hy0,vB]
      erw[jZ _]
     .let#[f,hf,ef]:=items ∅ hd hd' r1 r2
      rw[show Ce (.lst ds) (.lst ds')=qd ds ds' from rfl,<-ef]
      rwa[Al e ?_];by_cases el:its.toArray.size=its'.toArray.size
      .have:((cv (min its.toArray.size its'.toArray.size)).all f&&its.toArray.size==its'.toArray.size)=(cv its.toArray.size).all f:=by
        rw[el,Nat.min_self]
        simp
       rw[this]
       erw[SeqAt.RcAt.lists p.isList p'.isList el ∅ hf]
      .have:((cv (min its.toArray.size its'.toArray.size)).all f&&its.toArray.size==its'.toArray.size)=ϑ:=by
        have:(its.toArray.size==its'.toArray.size)=ϑ:=by simpa using el
        rw[this,Bool.and_false]
       rw[this]
       exact SeqAt.RcAt.lists_lengths p.isList p'.isList (~~~el) ∅
end
end L2
namespace PL
def _root_.Lake.L2.ff{P:Prop}(h:ϑ=ζ):P:=by cases h
def _root_.Lake.L2.nn{α:Type}{x:α}{P:Prop}(h:(ψ:Option α)=ξ x):P:=by cases h
set_option genInjectivity true in
inductive U where
 |b7|bl (b:Bool)|int (i:Int)|str (l:List Nat)|tup (us:List U)|loc (n:Nat)
 |sZ (ns:List Int)|tab (kvs:List (List Nat×List Nat))
instance:Inhabited U:=#[.b7]
set_option genInjectivity true in
inductive SO where
 |lst (us:List U)|eh (kvs:List (U×U))|ins (c:String) (fs:List (String×U))
 |qD (kvs:List (U×U))|uJ (kvs:List (List Int×U))|xS (kvs:List ((Int×List Int)×U))
@[reducible]def Env:=List (Option U)
@[reducible]def bG:=List SO
@[reducible]def KU:=U->bG->Prop
@[reducible]def Spec:=List U->bG->KU->Prop
@[reducible]def bY:=String->Spec
inductive FT where|add|sub|mul|fdiv|mod|band|bor|shl|shr
inductive OI where|eq|ne|lt|le|gt|ge|isin|mU|Qz|C2|C3|TV
inductive Vc where|len|tuple|list|sum|all|any|int|dict|vD|max
inductive OJ where|join|index|startswith|append|extend|get|nF|ox|vals|pop
mutual
inductive Ex where
 |var (i:Nat)|lit (u:U)
 |bin (o:FT) (a b:Ex)|neg (a:Ex)|not (a:Ex)|and (a b:Ex)|or (a b:Ex)
 |cmp (o:OI) (a b:Ex)|C4 (c:Tx) (a b:Ex)
 |call (f:String) (as:Aq)|mk (c q:String) (as:Aq)|dg (c m q:String) (o:Ex) (as:Aq)
 |blt (f:Vc) (as:Aq)|jL (m:OJ) (o:Ex) (as:Aq)
 |fld (o:Ex) (f:String)|ix (o i:Ex)|sl (o:Ex) (lo hi:Ox)
 |tup (as:Aq)|lst (as:Aq)|eh (ks vs:Aq)
 |comp (pr:Bool) (e:Ex) (it:It) (c:Tx) (ci:List Nat)
 |Vd (a:Ex)|Hh (o k:Ex)
inductive Aq where|nil|cons (e:Ex) (es:Aq)
inductive It where|val (e:Ex)|range (e:Ex)|enum (e:Ex)|rev (e:Ex)|keys (e:Ex)
inductive Ox where|no|e (a:Ex)
inductive Tx where|cU (e:Ex)|not (t:Tx)|and (a b:Tx)|or (a b:Tx)
end
set_option genCtorIdx false in
inductive Tg where|name (i:Nat)|pair (i j:Nat)
set_option genCtorIdx false in
mutual
inductive Sm where
 |set (i:Nat) (e:Ex)|nG (o:Ex) (f:String) (e:Ex)|Iz (o i e:Ex)|ox (o k e:Ex)
 |aug (i:Nat) (p:FT) (e:Ex)|C5 (o:Ex) (f:String) (p:FT) (e:Ex)|FU (o i:Ex) (p:FT) (e:Ex)
 |ex (e:Ex)|ret (e:Ex)|ifs (c:Tx) (a b:dC)|A9 (c:Tx) (b:dC)|iu (t:Tg) (it:It) (b:dC)
 |TX (b:dC)
inductive dC where|nil|cons (s:Sm) (ss:dC)
end
section
variable{α:Type}
abbrev opt(o:Option α)(Q:α->Prop):Prop:=match o with|some a=>Q a|none=>False
abbrev zh(o:Option (Option U))(Q:U->Prop):Prop:=match o with|some (ξ u)=>Q u|_=>False
abbrev getL(o:Option SO)(Q:List U->Prop):Prop:=match o with|some (.lst us)=>Q us|_=>False
abbrev getD(o:Option SO)(Q:List (U×U)->Prop):Prop:=match o with|some (.eh kvs)=>Q kvs|_=>False
abbrev qE(o:Option SO)(Q:String->List (String×U)->Prop):Prop:=match o with|some (.ins c fs)=>Q c fs|_=>False
abbrev OK(x:U)(Q:Bool->Prop):Prop:=match x with|.bl b=>Q b|_=>False
abbrev lT(x:U)(Q:Int->Prop):Prop:=match x with|.int i=>Q i|_=>False
abbrev sE(x:U)(Q:Nat->Prop):Prop:=match x with|.loc n=>Q n|_=>False
abbrev OL(x:U)(Q:U->U->Prop):Prop:=match x with|.tup [a,b]=>Q a b|_=>False
@[simp] theorem aW{a:α}{Q:α->Prop}:opt (ξ a) Q=Q a:=rfl
@[simp] theorem Ve:opt ψ Q=False:=rfl
@[simp] theorem xT:zh (ξ (ξ u)) Q=Q u:=rfl
@[simp] theorem aB{us:List U}{Q:List U->Prop}:getL (ξ (.lst us)) Q=Q us:=rfl
@[simp] theorem getD_some:getD (ξ (.eh us)) Q=Q us:=rfl
@[simp] theorem bZ:qE (ξ (.ins c fs)) Q=Q c fs:=rfl
@[simp] theorem IA:OK (.bl b) Q=Q b:=rfl
@[simp] theorem MA:lT (.int i) Q=Q i:=rfl
@[simp] theorem XZ:sE (.loc n) Q=Q n:=rfl
@[simp] theorem MB:OL (.tup [a,b]) Q=Q a b:=rfl
def iT:opt o Q↔∃a,o=ξ a/\Q a:=by cases o<;>simp[opt]
def Ba:zh o Q↔∃a,o=ξ (ξ a)/\Q a:=by
 rcases o with _|_|a<;>simp[zh]
def cK:getL o Q↔∃a,o=ξ (.lst a)/\Q a:=
 #[λw=>by rcases o with _|a|a|a|a|a|a<;>first|exact#[_,rfl,w]|exact aV w,by rintro⟨b,rfl,w⟩;exact w]
def Bb:getD o Q↔∃a,o=ξ (.eh a)/\Q a:=
 #[λw=>by rcases o with _|a|a|a|a|a|a<;>first|exact#[_,rfl,w]|exact aV w,by rintro⟨b,rfl,w⟩;exact w]
def mV{o:Option SO}{Q:String->List (String×U)->Prop}:qE o Q↔∃c fs,o=ξ (.ins c fs)/\Q c fs:=
 #[λw=>by rcases o with _|a|a|a|a|a|a<;>first|exact#[_,_,rfl,w]|exact aV w,by rintro⟨b,c,rfl,w⟩;exact w]
def zi:OK x Q↔∃b,x=.bl b/\Q b:=#[λw=>by cases x<;>first|exact#[_,rfl,w]|exact aV w,by rintro⟨b,rfl,w⟩;exact w]
def fZ:lT x Q↔∃b,x=.int b/\Q b:=#[λw=>by cases x<;>first|exact#[_,rfl,w]|exact aV w,by rintro⟨b,rfl,w⟩;exact w]
def iw:sE x Q↔∃b,x=.loc b/\Q b:=#[λw=>by cases x<;>first|exact#[_,rfl,w]|exact aV w,by rintro⟨b,rfl,w⟩;exact w]
def Ej:OL x Q↔∃a b,x=.tup [a,b]/\Q a b:=by
 refine#[λw=>?_,by rintro⟨a,b,rfl,w⟩;exact w];cases x<;>first|exact aV w|skip
 rename_i us;rcases us with _|⟨a,_|⟨b,_|_⟩⟩<;>first|exact aV w|exact#[_,_,rfl,w]
end
abbrev jv(o:Option SO)(Q:List (U×U)->Prop):Prop:=match o with|some (.eh kvs)=>Q kvs|some (.qD kvs)=>Q kvs|_=>False
def lj:jv (ξ (.eh us)) Q=Q us:=rfl
def jc:jv o Q↔∃a,(o=ξ (.eh a)\/o=ξ (.qD a))/\Q a:=
 #[λw=>by rcases o with _|a|a|a|a|a|a<;>first|exact#[_,.inl rfl,w]|exact#[_,.inr rfl,w]|exact aV w,by rintro⟨b,rfl|rfl,w⟩<;>exact w]
abbrev nH:U->Bool
 |.b7=>ζ|.int _=>ζ|.str _=>ζ
 |_=>ϑ
abbrev TZ:U->U->Bool
 |.b7,.b7=>ζ
 |.int a,.int b=>a==b
 |.str a,.str b=>a==b
 |_,_=>ϑ
abbrev uK(k:U):List (U×U)->Option U
 |[]=>ψ
 | (a,v)::r=>if TZ a k=ζ then ξ v else uK k r
mutual
noncomputable def wH:U->Bool
 |.b7=>ζ|.bl _=>ζ|.int _=>ζ|.str _=>ζ
 |.tup us=>jV us
 |_=>ϑ
noncomputable def jV:List U->Bool
 |[]=>ζ
 |u::us=>wH u&&jV us
end
mutual
noncomputable def dep:U->Nat
 |.tup us=>mW us+1
 |_=>0
noncomputable def mW:List U->Nat
 |[]=>0
 |u::us=>max (dep u) (mW us)
end
mutual
noncomputable def pE:U->U->Bool
 |.b7,.b7=>ζ
 |.bl a,.bl b=>a==b
 |.bl a,.int b=>(if a then 1 else 0)== b
 |.int a,.bl b=>a==(if b then 1 else 0)
 |.int a,.int b=>a==b
 |.str a,.str b=>a==b
 |.tup as,.tup bs=>wW as bs
 |_,_=>ϑ
noncomputable def wW:List U->List U->Bool
 |[],[]=>ζ
 |x::xs,y::ys=>pE x y&&wW xs ys
 |_,_=>ϑ
end
abbrev IB:U->U->Bool
 |.b7,.b7=>ζ|.b7,.int _=>ζ|.b7,.bl _=>ζ|.b7,.str _=>ζ
 |.int _,.b7=>ζ|.int _,.int _=>ζ|.int _,.str _=>ζ
 |.bl _,.b7=>ζ|.bl _,.bl _=>ζ|.bl _,.str _=>ζ
 |.str _,.b7=>ζ|.str _,.int _=>ζ|.str _,.bl _=>ζ|.str _,.str _=>ζ
 |_,_=>ϑ
abbrev xU(x y:U)(Q:Bool->Prop):Prop:=(IB x y=ζ/\wH x=ζ/\wH y=ζ/\dep x<=100)/\Q (pE x y)
abbrev C6:U->U->Bool
 |.tup _,.tup _=>ζ
 |.tup _,_=>ϑ
 |_,_=>ζ
abbrev flat:U->Bool
 |.b7=>ζ|.bl _=>ζ|.int _=>ζ|.str _=>ζ
 |_=>ϑ
abbrev rJ(x:U)(us:List U)(Q:Bool->Prop):Prop:=(flat x=ζ/\us.all flat=ζ)/\Q (us.any λy=>pE y x)
abbrev i6:List Nat->List Nat->Bool
 |a,[]=>a.isEmpty
 |a,b::bs=>a.isPrefixOf (b::bs)||i6 a bs
abbrev mH(S:bG):U->Option Nat
 |.str l=>ξ l.length
 |.tup us=>ξ us.length
 |.sZ ns=>ξ ns.length
 |.loc n=>match S[n]? with
  |some (.lst us)=>ξ us.length
  |some (.eh kvs)=>ξ kvs.length
  |some (.xS kvs)=>ξ kvs.length
  |_=>ψ
 |_=>ψ
abbrev tf(S:bG):U->Option Bool
 |.b7=>ξ ϑ
 |.bl b=>ξ b
 |.int i=>ξ (i !=0)
 |.str _=>ψ
 |.loc n=>match S[n]? with
  |some (.xS _)=>ψ
  |_=>(mH S (.loc n)).map λn=>n !=0
 |u=>(mH S u).map λn=>n !=0
abbrev IC(n:Nat)(i:Int):Option Nat:=if 0<=i then(if i<n then ξ i.toNat else ψ) else if -(n:Int)<=i then ξ (i+n).toNat else ψ
abbrev qV{α:Type}(xs:List α)(i:Int):Option α:=(IC xs.length i).bind λj=>xs[j]?
abbrev qF{α:Type}(xs:List α)(lo hi:Option Int):List α:=(xs.drop (min (lo.getD 0).toNat xs.length)).take (min (hi.getD xs.length).toNat xs.length-min (lo.getD 0).toNat xs.length)
abbrev ID(x:U)(Q:List Nat->Prop):Prop:=match x with|.str a=>Q a|_=>False
abbrev X0(x:U)(Q:Prop):Prop:=match x with|.b7=>Q|_=>False
abbrev asU(x:U)(Q:List U->Prop):Prop:=match x with|.tup a=>Q a|_=>False
def nI:ID x Q↔∃b,x=.str b/\Q b:=#[λw=>by cases x<;>first|exact#[_,rfl,w]|exact aV w,by rintro⟨b,rfl,w⟩;exact w]
def MC:asU x Q↔∃b,x=.tup b/\Q b:=#[λw=>by cases x<;>first|exact#[_,rfl,w]|exact aV w,by rintro⟨b,rfl,w⟩;exact w]
def kF{x y:U}{P:Int->Int->Prop}(w:lT x λi=>lT y (P i)):∃i j,x=.int i/\y=.int j/\P i j:=by
 let#[i,e,w]:=fZ.mp w;let#[j,e',w]:=fZ.mp w;exact#[i,j,e,e',w]
abbrev kO(o:FT)(x y:U)(S:bG)(Q:KU):Prop:=
 match o with
 |.add=>match x with
  |.int i=>lT y λj=>Q (.int (i+j)) S
  |.str a=>ID y λb=>a.length+b.length<=1000000/\Q (.str (a++b)) S
  |.tup a=>asU y λb=>a.length+b.length<=1000000/\Q (.tup (a++b)) S
  |.loc m=>sE y λn=>getL S[m]? λa=>getL S[n]? λb=>a.length+b.length<=1000000/\Q (.loc S.length) (S++[.lst (a++b)])
  |_=>False
 |.sub=>lT x λi=>lT y λj=>Q (.int (i-j)) S
 |.mul=>lT x λi=>lT y λj=>((-(2^64)<i/\i<2^64)\/(-(2^64)<j/\j<2^64))/\Q (.int (i*j)) S
 |.fdiv=>lT x λi=>lT y λj=>(0<j/\j<1073741824)/\Q (.int (i/j)) S
 |.mod=>lT x λi=>lT y λj=>0<j/\Q (.int (i%j)) S
 |.band=>lT x λi=>lT y λj=>(0<=i/\0<=j)/\Q (.int ((i.toNat&&&j.toNat:Nat):Int)) S
 |.bor=>lT x λi=>lT y λj=>(0<=i/\0<=j)/\Q (.int ((i.toNat|||j.toNat:Nat):Int)) S
 |.shl=>lT x λi=>lT y λj=>(0<=i/\i<1000/\0<=j/\j<=1000)/\Q (.int (i*2^j.toNat)) S
 |.shr=>lT x λi=>lT y λj=>(0<=i/\0<=j)/\Q (.int (i/2^j.toNat)) S
abbrev zj(o:FT)(x y:U)(S:bG)(Q:KU):Prop:=
 match x with
 |.int i=>kO o (.int i) y S Q
 |.str a=>kO o (.str a) y S Q
 |_=>False
abbrev xV(x:U):Bool:=match x with|.b7=>ζ|_=>ϑ
abbrev X1(x y:U)(Q:Bool->Prop):Prop:=C6 x y=ζ/\xU x y λb=>Q !b
abbrev Y8(x:U)(us:List U)(Q:Bool->Prop):Prop:=match x with
 |.tup xs=>(jV xs=ζ/\jV us=ζ/\mW us<=100)/\Q !(us.any λy=>pE y (.tup xs))
 |x=>rJ x us λb=>Q !b
abbrev hJ(o:OI)(x y:U)(S:bG)(Q:Bool->Prop):Prop:=
 match o with
 |.eq=>xU x y Q
 |.ne=>X1 x y Q
 |.lt=>lT x λi=>lT y λj=>Q (decide (i<j))
 |.le=>lT x λi=>lT y λj=>Q (decide (i<=j))
 |.gt=>lT x λi=>lT y λj=>Q (decide (j<i))
 |.ge=>lT x λi=>lT y λj=>Q (decide (j<=i))
 |.isin=>match y with
  |.str b=>ID x λa=>Q (i6 a b)
  |.tab kvs=>ID x λa=>Q (kvs.lookup a).isSome
  |.tup us=>rJ x us Q
  |.loc n=>getL S[n]? λus=>rJ x us Q
  |_=>False
 |.mU=>match y with
  |.str b=>ID x λa=>Q !(i6 a b)
  |.tup us=>rJ x us λb=>Q !b
  |.loc n=>getL S[n]? λus=>Y8 x us Q
  |_=>False
 |.Qz=>X0 y (Q (xV x))
 |.C2=>X0 y (Q !(xV x))
 |.TV=>∃i a j b,x=.tup [.int i,.str a]/\y=.tup [.int j,.str b]/\Q (decide (j<i\/(j=i/\¬a<b)))
 |.C3=>sE y λn=>jv S[n]? λkvs=>nH x=ζ/\Q (uK x kvs).isNone
abbrev Ek(x y:U)(S:bG)(Q:U->Prop):Prop:=
 match x with
 |.str l=>lT y λi=>l.length<=1000000/\opt (qV l i) λc=>Q (.str [c])
 |.tup us=>lT y λi=>us.length<=1000000/\opt (qV us i) Q
 |.sZ ns=>lT y λi=>ns.length<=1000000/\opt (qV ns i) λn=>Q (.int n)
 |.loc n=>lT y λi=>getL S[n]? λus=>opt (qV us i) Q
 |.tab kvs=>ID y λk=>opt (kvs.lookup k) λv=>Q (.str v)
 |_=>False
abbrev MD(x y:U)(S:bG)(Q:U->Prop):Prop:=sE x λn=>jv S[n]? λkvs=>nH y=ζ/\opt (uK y kvs) Q
abbrev QC(x:U)(lo hi:Option Int)(S:bG)(Q:KU):Prop:=
 ((∀i,lo=ξ i->0<=i)/\∀i,hi=ξ i->0<=i)/\match x with
 |.str l=>l.length<=1000000/\Q (.str (qF l lo hi)) S
 |.tup us=>(us.length<=1000000/\us≠[]/\0<lo.getD 0)/\Q (.tup (qF us lo hi)) S
 |.loc n=>getL S[n]? λus=>Q (.loc S.length) (S++[.lst (qF us lo hi)])
 |_=>False
abbrev l9(sep:List Nat):List (List Nat)->List Nat
 |[]=>[]
 |[x]=>x
 |x::r=>x++sep++l9 sep r
abbrev ub(n:Nat):Nat:=if n=0 then 0 else n.log2+1
abbrev tj(f:Vc)(us:List U)(S:bG)(Q:KU):Prop:=
 match f,us with
 |.len,[x]=>opt (mH S x) λn=>n<=1000000/\Q (.int n) S
 |.tuple,[.loc n]=>getL S[n]? λus=>Q (.tup us) S
 |.list,[.loc n]=>getL S[n]? λus=>Q (.loc S.length) (S++[.lst us])
 |.list,[.tup us]=>us.length<=1000000/\Q (.loc S.length) (S++[.lst us])
 |.all,[.loc n]=>∃bs:List Bool,S[n]?=ξ (.lst (bs.map .bl))/\Q (.bl (bs.all id)) S
 |.any,[.loc n]=>∃bs:List Bool,S[n]?=ξ (.lst (bs.map .bl))/\Q (.bl (bs.any id)) S
 |.sum,[.loc n]=>∃is:List Int,S[n]?=ξ (.lst (is.map .int))/\Q (.int is.sum) S
 |.dict,[.loc n]=>∃ps:List (List Nat×U),S[n]?=ξ (.lst (ps.map λp=>.tup [.str p.1,p.2]))/\(ps.map (·.1)).Nodup/\Q (.loc S.length) (S++[.eh (ps.map λp=>(.str p.1,p.2))])
 |.max,[.loc n]=>∃(i:Int)(is:List Int),S[n]?=ξ (.lst ((i::is).map .int))/\∀m∈i::is,(∀j∈i::is,j<=m)->Q (.int m) S
 |.vD,[.loc n]=>∃t ts,S[n]?=ξ (.lst ((t::ts).map .str))/\(∀u∈t::ts,u.length<=1000000)/\Q (.str (ts.foldl (λb x=>if x.length<b.length then x else b) t)) S
 |_,_=>False
abbrev sdW{κ:Type}[BEq κ](kvs:List (κ×U))(k:κ)(f:List (κ×U)->SO)(S:bG)(n:Nat)(d:U)(Q:KU):Prop:=
 kvs.length<1000000/\match kvs.lookup k with
  |some v=>Q v S
  |none=>Q d (S.set n (f (kvs++[(k,d)])))
abbrev qm(S:bG)(n:Nat)(k d:U)(Q:KU):Prop:=
 match S[n]? with
 |some (.eh kvs)=>(nH k=ζ/\kvs.length<1000000)/\match uK k kvs with
  |some v=>Q v S
  |none=>Q d (S.set n (.eh (kvs++[(k,d)])))
 |some (.uJ kvs)=>∃ks,k=.tup (ks.map .int)/\sdW kvs ks .uJ S n d Q
 |some (.xS kvs)=>∃b ks,k=.tup [.int b,.tup (ks.map .int)]/\sdW kvs (b,ks) .xS S n d Q
 |_=>False
abbrev qG(m:OJ)(x:U)(us:List U)(S:bG)(Q:KU):Prop:=
 match m,x,us with
 |.join,.str sep,[.loc n]=>∃ts:List (List Nat),S[n]?=ξ (.lst (ts.map .str))/\(ts.map cR).sum+ts.length*sep.length<=1000000/\Q (.str (l9 sep ts)) S
 |.index,.str l,[.str k]=>∃c,k=[c]/\c∈l/\Q (.int (l.idxOf c:Nat)) S
 |.startswith,.str l,[.str k]=>Q (.bl (k.isPrefixOf l)) S
 |.nF,.int i,[]=>0<=i/\Q (.int (ub i.toNat:Nat)) S
 |.get,.loc n,[.str k,d]=>getD S[n]? λkvs=>∃ps:List (List Nat×U),kvs=(ps.map λp=>(U.str p.1,p.2))/\Q ((ps.lookup k).getD d) S
 |.get,.loc n,[k]=>jv S[n]? λkvs=>nH k=ζ/\Q ((uK k kvs).getD .b7) S
 |.ox,.loc n,[k,d]=>qm S n k d Q
 |.vals,.loc n,[]=>match S[n]? with
  |some (.uJ kvs)=>Q (.loc S.length) (S++[.lst (kvs.map (·.2))])
  |_=>False
 |.append,.loc n,[u]=>getL S[n]? λus=>us.length<1000000/\Q .b7 (S.set n (.lst (us++[u])))
 |.pop,.loc n,[.int i]=>i=0/\getL S[n]? λus=>∃u r,us=u::r/\Q u (S.set n (.lst r))
 |.extend,.loc n,[.loc m]=>getL S[n]? λus=>getL S[m]? λws=>us.length+ws.length<=1000000/\Q .b7 (S.set n (.lst (us++ws)))
 |_,_,_=>False
abbrev tm(m:OJ)(x:U)(S:bG):Prop:=
 match m,x with
 |.join,.str _=>True|.index,.str _=>True|.startswith,.str _=>True
 |.append,.loc n=>getL S[n]? λ_=>True
 |.pop,.loc n=>getL S[n]? λ_=>True
 |.extend,.loc n=>getL S[n]? λ_=>True
 |.get,.loc n=>jv S[n]? λ_=>True
 |.ox,.loc n=>match S[n]? with|some (.eh _)=>True|some (.uJ _)=>True|some (.xS _)=>True|_=>False
 |.vals,.loc n=>match S[n]? with|some (.uJ _)=>True|_=>False
 |.nF,.int _=>True
 |_,_=>False
abbrev iy(f:String)(v:U):List (String×U)->List (String×U)
 |[]=>[(f,v)]
 | (g,x)::r=>if g=f then(g,v)::r else(g,x)::iy f v r
abbrev oW(x:U)(f:String)(S:bG)(Q:U->Prop):Prop:=
 match x with
 |.loc n=>qE S[n]? λ_ fs=>opt (fs.lookup f) Q
 |_=>False
abbrev vE(g:bG->Prop)(turn:U->Env->bG->(Env->bG->Prop)->Prop)(fin:Env->bG->Prop):List U->Env->bG->Prop
 |[],env,S=>g S/\fin env S
 |u::us,env,S=>g S/\turn u env S (vE g turn fin us)
abbrev mY(g:bG->Prop)(c:U->bG->(Bool->bG->Prop)->Prop)(e:U->bG->KU->Prop)(Q:List U->bG->Prop):List U->List U->bG->Prop
 |[],acc,S=>g S/\acc.length<1000000/\Q acc S
 |u::us,acc,S=>g S/\acc.length<1000000/\c u S λb S1=>if b=ζ then e u S1 λv S2=>mY g c e Q us (acc++[v]) S2 else mY g c e Q us acc S1
abbrev zk(c:Env->bG->(Bool->bG->Prop)->Prop)(b:Env->bG->(Env->bG->Prop)->Prop)(fin:Env->bG->Prop):Nat->Env->bG->Prop
 |0,_,_=>False
 |n+1,env,S=>c env S λt S1=>if t=ζ then b env S1 (zk c b fin n) else fin env S1
abbrev FV(x:U)(S:bG)(R:List U->(bG->Prop)->Prop):Prop:=
 match x with
 |.str l=>R (l.map λc=>.str [c]) (λ_=>True)
 |.tup us=>us.length<=1000000/\R us (λ_=>True)
 |.loc n=>getL S[n]? λus=>R us (λS'=>S'[n]?=ξ (.lst us))
 |_=>False
abbrev mZ(env:Env)(ci:List Nat):Env:=ci.map λj=>(env[j]?).join
abbrev qo(pr:Bool)(u:U)(caps:Env)(k:Env->Prop):Prop:=
 match pr with
 |false=>k (ξ u::caps)
 |true=>OL u λa b=>k (ξ a::ξ b::caps)
mutual
noncomputable def WE(Γ:bY):Ex->Env->bG->KU->Prop
 |.var i,env,S,Q=>zh env[i]? λu=>Q u S
 |.lit u,_,S,Q=>Q u S
 |.bin o a b,env,S,Q=>WE Γ a env S (λx S1=>WE Γ b env S1 (λy S2=>kO o x y S2 Q))
 |.neg a,env,S,Q=>WE Γ a env S (λx S1=>lT x λi=>Q (.int (-i)) S1)
 |.not a,env,S,Q=>WE Γ a env S (λx S1=>OK x λb=>Q (.bl !b) S1)
 |.and a b,env,S,Q=>WE Γ a env S (λx S1=>OK x λc=>if c=ζ then WE Γ b env S1 Q else Q (.bl ϑ) S1)
 |.or a b,env,S,Q=>WE Γ a env S (λx S1=>OK x λc=>if c=ζ then Q (.bl ζ) S1 else WE Γ b env S1 Q)
 |.cmp o a b,env,S,Q=>WE Γ a env S (λx S1=>WE Γ b env S1 (λy S2=>hJ o x y S2 λr=>Q (.bl r) S2))
 |.C4 c a b,env,S,Q=>WT Γ c env S (λt S1=>if t=ζ then WE Γ a env S1 Q else WE Γ b env S1 Q)
 |.call f as,env,S,Q=>wX Γ as env S (λus S1=>Γ f us S1 Q)
 |.mk c q as,env,S,Q=>wX Γ as env S (λus S1=>Γ q (.loc S1.length::us) (S1++[.ins c []]) (λv S2=>v=.b7/\Q (.loc S1.length) S2))
 |.dg c m q o as,env,S,Q=>WE Γ o env S (λx S1=>sE x λn=>qE S1[n]? λc' fs=>(c'=c/\fs.lookup m=ψ)/\wX Γ as env S1 (λus S2=>Γ q (x::us) S2 Q))
 |.blt f as,env,S,Q=>wX Γ as env S (λus S1=>tj f us S1 Q)
 |.jL m o as,env,S,Q=>WE Γ o env S (λx S1=>tm m x S1/\wX Γ as env S1 (λus S2=>qG m x us S2 Q))
 |.fld o f,env,S,Q=>WE Γ o env S (λx S1=>oW x f S1 λv=>Q v S1)
 |.ix o i,env,S,Q=>WE Γ o env S (λx S1=>WE Γ i env S1 (λy S2=>Ek x y S2 λv=>Q v S2))
 |.sl o lo hi,env,S,Q=>WE Γ o env S (λx S1=>WO Γ lo env S1 (λl S2=>WO Γ hi env S2 (λh S3=>QC x l h S3 Q)))
 |.tup as,env,S,Q=>wX Γ as env S (λus S1=>us.length<=1000000/\Q (.tup us) S1)
 |.lst as,env,S,Q=>wX Γ as env S (λus S1=>us.length<=1000000/\Q (.loc S1.length) (S1++[.lst us]))
 |.eh ks vs,env,S,Q=>wX Γ ks env S (λus S1=>wX Γ vs env S1 (λws S2=>us.length<=100/\match us with
   |[]=>Q (.loc S2.length) (S2++[.eh []])\/Q (.loc S2.length) (S2++[.uJ []])\/Q (.loc S2.length) (S2++[.xS []])
   |[k]=>nH k=ζ/\∃v,ws=[v]/\Q (.loc S2.length) (S2++[.eh [(k,v)]])
   |_=>False))
 |.comp pr e it c ci,env,S,Q=>WI Γ it env S (λus g S1=>mY g (λu S2 k=>qo pr u (mZ env ci) λen=>WT Γ c en S2 k)
   (λu S2 k=>qo pr u (mZ env ci) λen=>WE Γ e en S2 k) (λacc S3=>Q (.loc S3.length) (S3++[.lst acc])) us [] S1)
 |.Vd a,env,S,Q=>WE Γ a env S (λx S1=>ID x λ_=>Q (.bl ζ) S1)
 |.Hh o k,env,S,Q=>WE Γ o env S (λx S1=>WE Γ k env S1 (λy S2=>MD x y S2 λv=>Q v S2))
noncomputable def wX(Γ:bY):Aq->Env->bG->(List U->bG->Prop)->Prop
 |.nil,_,S,Q=>Q [] S
 |.cons e es,env,S,Q=>WE Γ e env S (λx S1=>wX Γ es env S1 (λxs S2=>Q (x::xs) S2))
noncomputable def WO(Γ:bY):Ox->Env->bG->(Option Int->bG->Prop)->Prop
 |.no,_,S,Q=>Q ψ S
 |.e a,env,S,Q=>WE Γ a env S (λx S1=>lT x λj=>Q (ξ j) S1)
noncomputable def WI(Γ:bY):It->Env->bG->(List U->(bG->Prop)->bG->Prop)->Prop
 |.val e,env,S,R=>WE Γ e env S (λx S1=>FV x S1 λus g=>R us g S1)
 |.range e,env,S,R=>WE Γ e env S (λx S1=>lT x λn=>n<=1000000/\-(1000000:Int)<=n/\R ((cv n.toNat).map λk=>.int (k:Nat)) (λ_=>True) S1)
 |.enum e,env,S,R=>WE Γ e env S (λx S1=>sE x λn=>getL S1[n]? λus=>R (us.mapIdx λi u=>.tup [.int (i:Nat),u]) (λS'=>S'[n]?=ξ (.lst us)) S1)
 |.keys e,env,S,R=>WE Γ e env S (λx S1=>sE x λn=>jv S1[n]? λkvs=>R (kvs.map (·.1)) (λS'=>S'[n]?=ξ (.qD kvs)) (S1.set n (.qD kvs)))
 |.rev e,env,S,R=>WE Γ e env S (λx S1=>sE x λn=>getL S1[n]? λus=>R us.reverse (λS'=>S'[n]?=ξ (.lst us)) S1)
noncomputable def WT(Γ:bY):Tx->Env->bG->(Bool->bG->Prop)->Prop
 |.cU e,env,S,Q=>WE Γ e env S (λx S1=>opt (tf S1 x) λb=>Q b S1)
 |.not t,env,S,Q=>WT Γ t env S (λb S1=>Q (!b) S1)
 |.and a b,env,S,Q=>WT Γ a env S (λc S1=>if c=ζ then WT Γ b env S1 Q else Q ϑ S1)
 |.or a b,env,S,Q=>WT Γ a env S (λc S1=>if c=ζ then Q ζ S1 else WT Γ b env S1 Q)
end
structure Ends where
 nx:Env->bG->Prop
 rt:KU
mutual
noncomputable def WS(Γ:bY):Sm->Ends->Env->bG->Prop
 |.set i e,D,env,S=>WE Γ e env S (λu S1=>D.nx (env.set i (ξ u)) S1)
 |.nG o f e,D,env,S=>WE Γ e env S (λu S1=>WE Γ o env S1 (λx S2=>sE x λn=>qE S2[n]? λc fs=>fs.length<100/\D.nx env (S2.set n (.ins c (iy f u fs)))))
 |.Iz o i e,D,env,S=>WE Γ e env S (λu S1=>WE Γ o env S1 (λx S2=>WE Γ i env S2 (λy S3=>sE x λn=>lT y λk=>getL S3[n]? λus=>opt (IC us.length k) λj=>D.nx env (S3.set n (.lst (us.set j u))))))
 |.ox o k e,D,env,S=>WE Γ e env S (λu S1=>WE Γ o env S1 (λx S2=>WE Γ k env S2 (λy S3=>sE x λn=>getD S3[n]? λkvs=>(nH y=ζ/\uK y kvs=ψ/\kvs.length<1000000)/\D.nx env (S3.set n (.eh (kvs++[(y,u)]))))))
 |.aug i p e,D,env,S=>zh env[i]? λx=>WE Γ e env S (λy S1=>zj p x y S1 λz S2=>D.nx (env.set i (ξ z)) S2)
 |.C5 o f p e,D,env,S=>WE Γ o env S (λx S1=>sE x λn=>qE S1[n]? λc fs=>opt (fs.lookup f) λv=>
   WE Γ e env S1 (λy S2=>zj p v y S2 λz S3=>qE S3[n]? λc' fs'=>c'=c/\fs'.length<100/\D.nx env (S3.set n (.ins c (iy f z fs')))))
 |.FU o i p e,D,env,S=>WE Γ o env S (λx S1=>WE Γ i env S1 (λy S2=>sE x λn=>lT y λk=>getL S2[n]? λus=>0<=k/\opt (us[k.toNat]?) λv=>
   WE Γ e env S2 (λz S3=>zj p v z S3 λr S4=>getL S4[n]? λus'=>k.toNat<us'.length/\D.nx env (S4.set n (.lst (us'.set k.toNat r))))))
 |.ex e,D,env,S=>WE Γ e env S (λ_ S1=>D.nx env S1)
 |.ret e,D,env,S=>WE Γ e env S D.rt
 |.ifs c a b,D,env,S=>WT Γ c env S (λt S1=>if t=ζ then uC Γ a D env S1 else uC Γ b D env S1)
 |.A9 c b,D,env,S=>∃n,zk (λen S1 k=>WT Γ c en S1 k) (λen S1 k=>uC Γ b {D with nx:=k} en S1) D.nx n env S
 |.iu t it b,D,env,S=>WI Γ it env S (λus g S1=>vE g (λu en S2 k=>match t with
   |.name i=>uC Γ b {D with nx:=k} (en.set i (ξ u)) S2
   |.pair i j=>OL u λx y=>uC Γ b {D with nx:=k} ((en.set i (ξ x)).set j (ξ y)) S2) D.nx us env S1)
 |.TX b,D,env,S=>uC Γ b D env S
noncomputable def uC(Γ:bY):dC->Ends->Env->bG->Prop
 |.nil,D,env,S=>D.nx env S
 |.cons s ss,D,env,S=>WS Γ s {D with nx:=λen S1=>uC Γ ss D en S1} env S
end
end PL
namespace L2
open PySem PySem.Spec PyProof.Rows PySem.W
open Builtin Builtin.Str
def El:∀{b:List Nat},PL.i6 a b=ζ↔∃i,i+a.length<=b.length/\(b.drop i).take a.length=a
 |[]=>by
  unfold PL.i6;rw[List.isEmpty_iff]
  constructor
  .rintro rfl;exact#[0,aq _,rfl]
  .rintro⟨i,h,_⟩
   erw[dW (by have h:i+a.length<=0:=h;omega)]
 |x::b=>by
  unfold PL.i6;rw[bq,El (b:=b),xv]
  constructor
  .rintro(h|⟨i,h1,h2⟩)
   .refine#[0,by have:=h.length_le;omega,?_]
    rw[jO];exact(oh.mp h).symm
   .exact#[i+1,(·),%[Fp|h2]]
  .rintro⟨i,h1,h2⟩
   cases i with
   |zero=>rw[jO] at h2;erw[.inl (oh.mpr h2.symm)]
   |succ i=>rw[Fp] at h2;exact .inr #[i,by simp at h1;omega,h2]
def Bc(a b:List Nat):(!(occurrences (tx b) (tx a) 0 (tx b).length 1).isEmpty)=PL.i6 a b:=by
 rw[dv,StrLaws.found_iff,El]
 rwa[exists_congr λi=>?_]
 rw[dS,dS]
 rwa[and_congr_right λh=>?_]
 rw[StrLaws.subAt_eq,beq_iff_eq]
 simp[dS]
section
variable{X:Cx}
def FW:iq X (bF .In) (λx y H Q=>∃a b,x=.str (tx a)/\y=.str (tx b)/\Q (.bl (PL.i6 a b)) H):=by
 x_go;let#[a,b,rfl,rfl,q]:=h;rwa[FF pZ s σ H _ _ v u Q I rx ry #[tx a,tx b,rfl,rfl,?_]];rw[Bc]
 erw[q]
def zm:iq X (bF .NotIn) (λx y H Q=>∃a b,x=.str (tx a)/\y=.str (tx b)/\Q (.bl (!PL.i6 a b)) H):=by
 x_go;let#[a,b,rfl,rfl,q]:=h;rwa[za pZ s σ H _ _ v u Q I rx ry #[tx a,tx b,rfl,rfl,?_]];rw[Bc]
 erw[q]
def xW:Cd X "str.startswith" (λx xs H Q=>∃a b,x=.str (tx a)/\xs=[.str (tx b)]/\Q (.bl (b.isPrefixOf a)) H):=by
 intro pZ s σ H x xs v us Q I rx rs h;let#[a,b,rfl,rfl,q]:=h;let#[t,rfl]:=rx;let#[u,rfl,t',rfl]:=vals1 rs;rwa[SC.startswith #[.bl _,H,I,?_,q]];show oq (Txt.startswith (tx a) (tx b))=oq (b.isPrefixOf a)
 congr 1
 unfold Txt.startswith;rw[dv,ar,decide_eq_true_eq,StrLaws.subAt_eq,beq_iff_eq,xv,oh,dS,dS]
 dsimp[jO,dS,lR];constructor
 .rintro⟨_,h⟩;erw[h.symm]
 .intro h
  refine#[?_,h.symm];have:=congrArg cR h;simp at this;omega
def vF:∀{bs:List Bool}{us:List Value},Vals (bs.map V.bl) us->us=bs.map oq
 |[],_,.nil=>rfl
 |b::bs,_,.cons r h=>by
  cases r;rw[vF h];rfl
def C7(hc:X.calm=ζ):iI X (.builtin "all") (λxs H Q=>∃p,∃bs:List Bool,xs=[.ref p]/\ij X.K H p (bs.map V.bl)/\Q (.bl (bs.all id)) H):=by
 k_go;let#[p,bs,rfl,hl,q]:=h;let#[u,rfl,ru]:=vals1 r;cases ru;let#[its,r,pl,_]:=I.list hl;have hl:=pl.isList;have hits:=vF r;have hlt:p<s.heap.objs.size:=by let#[_,e,_]:=hl;erw[aS e]
 refine call_all_walk (kD hl ?_);refine#[s.heap.objs.size,[s.heap.objs.size,p],[s.heap.objs.size],its.toArray.size,_,_,λi=>(bs[i]?).getD ζ,rfl,Fq (A:=X.A.in1) (I.ok.hd hc) _ p (ba hlt) its.toArray,
  #[#[_,aZ _ rfl,rfl,rfl],hl.push _],λi v s' Q' E' hP hQ=>?_,λh' tk hk=>?_]
 .have hP:its[i]?=ξ v:=by simpa using hP
  rw[hits,aC] at hP;cases e:bs[i]? with
  |none=>rw[e] at hP;cases hP
  |some b=>
   rw[e] at hP;have hQ:Q' ((bs[i]?).getD ζ) s':=hQ;rw[e] at hQ;cases hP;erw[dq hQ]
 .have e:((cv its.toArray.size).all λi=>(bs[i]?).getD ζ)=bs.all id:=by
   rw[aK,hits,ae];erw[LSm.range_all bs]
  rw[e]
  exact#[.bl _,H,I.kept (AF hk),rfl,q]
def Em:∀{is:List Int}{us:List Value},Vals (is.map V.int) us->∃ps:List (Int×Tok),us=ps.map (λp=>lL p.1 p.2)/\ps.map (·.1)=is
 |[],_,.nil=>#[[],rfl,rfl]
 |i::is,_,.cons (b:=u) r h=>by
  let#[t,e]:=(show ∃t,u=lL i t from r)
  subst e;let#[ps,e1,e2]:=Em h;exact#[(i,t)::ps,by rw[e1];rfl,by rw[az,e2]]
def C8(hc:X.calm=ζ):iI X (.builtin "sum") (λxs H Q=>∃p,∃is:List Int,xs=[.ref p]/\ij X.K H p (is.map V.int)/\Q (.int is.sum) H):=by
 k_go;let#[p,is,rfl,hl,q]:=h;let#[u,rfl,ru]:=vals1 r;cases ru;let#[its,r,pl,_]:=I.list hl;let#[ps,e1,e2]:=Em r;have hl:s.heap.IsList p (intItems ps.toArray):=by
  have:=pl.isList;rw[e1] at this;simpa[intItems] using this
 rwa[sum_intListG (I.ok.hd hc) hl λh' tk t' hk=>#[.int is.sum,H,I.kept hk,#[t',?_],q]]
 rw[preSum_eq,jP (#v[])]
 simp[e2]
def IE:iq X (bF .In) (λx y H Q=>∃a k r,x=.str k/\y=.ref a/\(∃es n,X.K.lookup a=ξ #[.type "dict",ψ,.dict es n,#[]]/\B7 X.w.params es.toList)/\(a==cb)=ϑ/\nsIn X.K a k=ξ r/\Q (.bl r.isSome) H):=by
 x_go;let#[a,k,r,rfl,rfl,#[es,n,lk,kl],lo,e,q]:=h;let#[t,rfl]:=rx;cases ry;erw[wpAny_in_of (strKind_is X.prog X.w k t) lo (mapOf_K (prog:=X.prog) (w:=X.w) I.yT lk kl) (by rw[find_K lk e];exact#[.bl _,H,I.tok _,rfl,q])]
end
section
variable{X:Cx}{pZ:List (Addr×Obj)}{σ:List (Option V)}{H:Hp}{s:aD}{h':Heap}
def Inv.QD(I:Inv X pZ σ H s)(k:∀b o,b≠X.env.locals->s.heap.get? b=ξ o->h'.get? b=ξ o)(h1:s.heap.Ns X.env.locals m)(h2:h'.Ns X.env.locals m):Inv X pZ σ H {s with heap:=h',toks:=t'}:=by
 have nL:∀b u,H b=ξ u->b≠X.env.locals:=λb u e z=>by rw[z,I.free] at e;cases e
 refine I.step (g':=s.gens) (d':=s.drawn) (ch:=[]) (λ_ z=>nomatch z) (λb o hL _ _ e _=>k b o hL e) (λb o hL _ _ e _=>#[o.slots,k b o hL e]) (λ_ _ _ _ n=>n)
  (λb o _ e=>?_) (λ_ _ e=>e) (λ_ _ _ e=>e) (λb ps e=>#[#[],by rw[e];simp]) (λm' hm=>?_) (λb u e=>?_) I.bare
 .by_cases z:b=X.env.locals
  .let#[o',_,_,ho,_]:=h2
   exact#[o',%[z|ho]]
  .exact#[o,k b o z e]
 .rw[hm.eq_nsMap,<-h1.eq_nsMap];erw[h2]
 .refine(I.dQ b u e).wQ (λc v hc q=>k c v ?_ q) (λ_ q=>q) λ_ _ q=>q
  rcases hc with z|z
  .rw[z];erw[nL b u e]
  .erw[nL c _ z]
end
section
variable{X:Cx}
abbrev Bd(t:List Nat)(ts:List (List Nat)):List Nat:=ts.foldl (λb x=>if x.length<b.length then x else b) t
def Eo:∀{ts:List (List Nat)}{us:List Value},Vals (ts.map λt=>V.str (tx t)) us->us.length=ts.length/\∀(i:Nat)v,us[i]?=ξ v->∃t k,ts[i]?=ξ t/\v=lM (tx t) k
 |[],_,.nil=>#[rfl,λi v h=>by simp at h]
 |t::ts,_,.cons (b:=u) r h=>by
  let#[k,e]:=(show ∃k,u=lM (tx t) k from r)
  subst e;let#[e1,e2]:=Eo h;refine#[by simp[e1],λi v q=>?_];cases i with
  |zero=>simp at q;exact#[t,k,rfl,q.symm]
  |succ i=>exact e2 i v (~~~q)
def uL(b:List Nat):∀(ts:List (List Nat))(i:Nat)(t:List Nat),(b::ts)[i]?=ξ t->(∀j u,(b::ts)[j]?=ξ u->t.length<=u.length/\(j<i->t.length<u.length))->Bd b ts=t
 |[],i,t,h,_=>by
  cases i with
  |zero=>simp at h;erw[h]
  |succ i=>simp at h
 |x::ts,i,t,h,m=>by
  show Bd (if x.length<b.length then x else b) ts=t
  have mb:=m 0 b rfl;have mx:=m 1 x rfl;by_cases z:x.length<b.length
  .rw[if_pos z]
   cases i with
   |zero=>simp at h;subst h;omega
   |succ i=>
    refine uL x ts i t (~~~h) λj u hj=>?_
    have:=m (j+1) u (~~~hj);exact#[this.1,λq=>this.2 ∅]
  .rw[if_neg z]
   cases i with
   |zero=>
    simp at h;subst h;rwa[uL b ts 0 b rfl λj u hj=>#[?_,λq=>∅]]
    cases j with
    |zero=>simp at hj;subst hj;erw[aq _]
    |succ j=>exact(m (j+2) u (~~~hj)).1
   |succ i=>
    cases i with
    |zero=>simp at h;subst h;have:=mb.2 ∅;omega
    |succ i=>
     refine uL b ts (i+1) t (~~~h) λj u hj=>?_
     cases j with
     |zero=>simp at hj;subst hj;exact#[mb.1,λ_=>mb.2 ∅]
     |succ j=>
      have:=m (j+2) u (~~~hj);exact#[this.1,λq=>this.2 ∅]
def Be(hc:X.calm=ζ)(I:Inv X pZ σ H s)(hl:ij X.K H p ((t::ts).map λt=>V.str (tx t)))
  (hz:∀u∈t::ts,u.length<=1000000) (q:Q (.str (tx (Bd t ts))) H){E:Value->aD->Prop}:
  wpAny (bg X.prog X.w) X.A (call (.builtin "min") [.ref p] [(cj "key",.builtin "len")]) (EP X pZ σ Q) E s:=by
 let#[its,r,pl,_]:=I.list hl;let#[e1,e2]:=Eo r;let#[m,F]:=I.fr;have kp:∀h,Fr X.base X.env.locals h m->News X.base X.env.locals h (rj X.base s.heap X.env.locals)->∀b o,b≠X.env.locals->s.heap.get? b=ξ o->h.get? b=ξ o:=λh F' N' b o hb e=>by
  cases z:X.base.get? b with
  |some o'=>have:=I.bk b o' z;rw[e] at this;cases this;erw[F'.keep b _ z]
  |none=>exact(N' (b,o) (AQ hb z e)).1
 let#[ol,hol,hc1,n1,hd1]:=pl.isList;have pL:p≠X.env.locals:=λe=>by
  let#[o',es,ep,ho',hd',_]:=F.ns;rw[<-e,hol] at ho';cases ho';rw[hd1] at hd';cases hd'
 rwa[kmb_min (kid:="len") (vs:=its) (news:=rj X.base s.heap X.env.locals) (λi=>(((t::ts)[i]?).getD []).length) (I.ok.hd hc) F HG (λh F' N'=>?_) (by rw[e1];simp) (λi v hv h tk own F' N'=>?_) (λi v h' tk' hv hb F' N'=>?_)]
 .exact#[ol,kp h F' N' p ol pL hol,hc1,n1,hd1]
 .let#[u,k,hu,rfl]:=e2 i v hv
  have hn:=oR;have hu':=hz u (ah hu);rwa[len_str (by rw[dS];omega) ?_];rw[hu,eI,dS]
  erw[KskEnd.intro F' N' λp hp=>hp]
 .let#[u,k,hu,rfl]:=e2 i v hv
  have eb:Bd t ts=u:=uL t ts i u hu λj w hj=>by
   have hj':j<its.length:=by rw[e1];exact(ag.mp hj).1
   have:=hb j hj';rw[hu,hj] at this;dsimp[eI] at this;exact#[∅,λq=>by have:=this.2 q;omega]
  rw[eb] at q;refine#[.str (tx u),H,?_,#[k,rfl],q];rwa[I.QD (λb o hb e=>?_) F.ns F'.ns];erw[kp h' F' N' b o hb e]
def FX(hc:X.calm=ζ)(hg:Gl X "min")(hm:X.mg "min"=ψ)(hg2:Gl X "len")(hm2:X.mg "len"=ψ)(ha:PE X e te)(hs:bB [e] X.env=[(ϑ,eval e X.env)]:=by rfl):
  PE X (.Call (.Name "min" p) [e] [#[ξ "key",.Name "len" pl,kp]] pos) (λσ H Q=>te σ H λv H1=>∃a t ts,v=.ref a/\ij X.K H1 a ((t::ts).map λt=>V.str (tx t))/\(∀u∈t::ts,u.length<=1000000)/\Q (.str (tx (Bd t ts))) H1):=by
 k_ne;rwa[fu (oO I hg hm boot_min ?_)];rwa[callWith_kw (e:=e) (rest:=[]) ?_ (by rw[hs];rfl) (by rw[hs];rfl)];rw[hs]
 rwa[jh (eJ (ha pZ s σ H _ I h) λu s1 h9=>?_)];let#[x,H1,I1,r1,a,t,ts,e2,hl,hz,q]:=h9;rwa[mN ?_];subst e2;cases r1;rwa[kws_cons (oO I1 hg2 hm2 LG (kws_nil ?_))];erw[Be hc I1 hl hz q]
end
section
variable{X:Cx}{pZ:List (Addr×Obj)}{σ:St}{H:Hp}{s:aD}
def Inv.ME{ch:List Addr}{h':Heap}{t':Nat}{a:Addr}{o:HO}(I:Inv X pZ σ H s)(k:∀b u,b∉ch->s.heap.get? b=ξ u->h'.get? b=ξ u)(hf:∀b∈ch,uA X pZ H b)(hp:s.heap.objs.size<=a)
  (new:d7 X.prog X.w (upd H a o) h' a o):Inv X pZ σ (upd H a o) {s with heap:=h',toks:=t'}:=by
 have hn:=I.dQ.fresh hp;have na:∀b u,s.heap.get? b=ξ u->b≠a:=λb u e z=>absurd (av (aS e) hp) (%[z|dU _])
 have nt:∀b u,H b=ξ u->b∉ch:=λb u e z=>by rw[(hf b z).1] at e;cases e
 have tr:∀b u,H b=ξ u->upd H a o b=ξ u:=λb u e=>%[cq (dN e hn)|e]
 refine I.step (g':=s.gens) (d':=s.drawn) (ch:=ch) (λb hb=>?_) (λb u _ _ hc e _=>k b u hc e) (λb u _ _ hc e _=>#[u.slots,k b u hc e]) (λb u _ e n=>by rw[cq (na b u e)];exact n)
  (λb u hc e=>#[u,k b u hc e]) (λb _ e=>tr b _ e) (λb _ _ e=>tr b _ e) (λb ps e=>#[#[],by rw[tr b _ e];simp]) (λm hm=>?_) (λb u e=>?_) I.bare
 .let#[f0,f1,f2,f3,f4,f5]:=hf b hb
  exact#[f3,f1,f4,f5]
 .let#[q,es,ep,ho,r]:=hm
  exact#[q,es,ep,k _ q (λz=>(hf _ z).2.1 rfl) ho,r]
 .by_cases hb:b=a
  .subst hb;rw[bX] at e;cases e;erw[new]
  .rw[cq hb] at e
   refine(I.dQ b u e).wQ (λc v hc q=>k c v ?_ q) (λc q=>tr c _ q) λc xs q=>tr c _ q
   rcases hc with z|z
   .rw[z];erw[nt b u e]
   .erw[nt c _ z]
abbrev X2(K:aI)(a:Addr):It:=
 #[λi H=>∃xs x,ij K H a xs/\xs[i]?=ξ x,λi H y H'=>∃p x,H p=ψ/\y=.ref p/\H'=upd H p (.tup [.int i,x])/\∀xs,ij K H a xs->xs[i]?=ξ x,λi H=>∃xs,ij K H a xs/\xs.length<=i]
def FY{P:bO}{w:cC}{K:aI}{es:List Expr}{k:Nat}{pos:Pos}(a e it:Addr)(hne:e≠it):
  Turn P w K (.Tuple es k pos) (X2 K a) [e,it] e (λi h=>(∃old,IsEnum h e it i old)/\h.IsListIter it a i) where
 mem:=by simp
 obj:=λi h st b hb=>by
  let#[#[old,h1],o,h2,c,d]:=st;rcases aN.mp hb with rfl|hb
  .exact#[_,h1,λv z=>by cases z]
  .have e:b=it:=by simpa using hb
   subst e;exact#[o,h2,λv z=>by rw[d] at z;cases z]
 keep:=λi h h' st k=>by
  let#[#[old,h1],h2]:=st;exact#[#[old,k e (#v[]) _ h1],h2.at λo q=>k it (#v[]) o q]
 item:=by
  w_up;subst hP hw hK;let#[xs,x,hq,hx]:=hg;let#[its,rv,p,hz]:=I.list hq;let#[u,hu,ru]:=rv.get hx;let#[#[old,h1],h2]:=st;refine wpAny_pyNext_enum_item h1 h2 p.isList (x:=u) (~~~hu) hne λh' ho hit' hT hsz hk=>?_
  refine#[_,rfl,wpAny_letOwnedTupleGo_enum ho λh'' he'' sb=>?_];have hel:e<s.heap.objs.size:=aS h1;have nT:s.heap.objs.size≠e:=dw hel;have k2:∀b v,b∉[e,it]->s.heap.get? b=ξ v->h''.get? b=ξ v:=λb v hb q=>by
   dsimp[aN,cG,or_false,not_or] at hb;exact(sb.2 b hb.1).trans (hk b v hb.1 hb.2 q)
  have hfr:=I.fresh;refine#[.ref s.heap.objs.size,upd H s.heap.objs.size (.tup [.int i,x]),I.ME (t':=s.toks+1) (h':=h'') k2 hf (aq _) ?_,rfl,#[_,x,hfr,rfl,rfl,λys hy=>%[I.rq hy hq|hx]],?_,λb hb=>?_]
  .exact#[show 2<=sizeLine by decide,[.int i s.toks,u],.cons #[_,rfl] (.cons ru .nil),_,(sb.2 _ nT).trans hT,rfl,_,rfl]
  .exact#[#[u,~~~he''],hit'.at λo q=>(sb.2 it hne.symm).trans q]
  .rw[cq]
   .exact(hf b hb).1
   .intro z
    let#[f0,_]:=hf b hb;rcases aN.mp hb with q|hb
    .erw[nT (z▸q.symm▸rfl)]
    .have q:b=it:=by simpa using hb
     let#[o,h3,_]:=h2;have:=aS h3;rw[<-q,z] at this;erw[dU _ this]
 done:=by
  w_up;subst hP hw hK;let#[xs,hq,hx]:=hg;let#[its,rv,p,hz]:=I.list hq;let#[#[old,h1],h2]:=st;have hl:=rv.length;let#[f0,f1,f2,f3,f4,f5]:=hf it (#v[]);erw[wpAny_pyNext_enum_end (I.ok.hd hc) h1 h2 p.isList ((·)) λh' eb=>#[rfl,I.turned (t':=s.toks) (λb o hb e=>eb b o hb e) f0 f1 f3 f4 f5]]
 self:=λ_ _ _ _ _ st h=>by
  let#[#[old,h1],h2]:=st;erw[wpAny_pyIter_enum h1 h]
abbrev Vf(K:aI)(ta:TA):TI:=λσ H R=>ta σ H λvs H1=>∃a,vs=[.ref a]/\(∃xs,ij K H1 a xs)/\R (X2 K a) H1
def MF{X:Cx}{a:Expr}{ta:TA}{p pos:Pos}{es:List Expr}{k:Nat}{tp:Pos}(hg:Gl X "enumerate")(hm:X.mg "enumerate"=ψ)(ha:PA X [a] ta)(hs:bB [a] X.env=[(ϑ,eval a X.env)]:=by rfl):
  PI X (.Tuple es k tp) (.Call (.Name "enumerate" p) [a] [] pos) (Vf X.K ta):=by
 intro pZ s σ H R I h;rwa[Call_ (oO I hg hm boot_enumerate (fW (eJ (ha pos pZ s σ H _ I h) λus s1 h9=>?_) hs rfl))];let#[vs,H1,I1,r1,q1]:=h9;let#[l,e,#[xs,hq],q]:=q1;subst e;cases r1 with
 |cons r rr=>
  cases rr;cases r;let#[its,rv,p,hz]:=I1.list hq;rwa[call_enumerate_list p.isList λh' hE hI hsz hk=>wpAny_pyIter_enum hE ?_]
  have I2:Inv X pZ σ H1 {s1 with heap:=h'}:=I1.kept (t':=s1.toks) λb o e=>hk b o e
  refine#[_,[s1.heap.objs.size+1,s1.heap.objs.size],_,X2 X.K l,H1,rfl,I2,FY l _ _ (Nat.succ_ne_self _),#[#[_,hE],hI],λb hb=>?_,q];rcases aN.mp hb with e|hb
  .subst e
   erw[I1.AS (fF _) (I1.dQ.fresh (fF _))]
  .have e:b=s1.heap.objs.size:=by simpa using hb
   subst e;erw[I1.AS (aq _) (I1.dQ.fresh (aq _))]
end
def zo:typeLookup (.type "list") "keys"=pure ψ:=by rw[typeLookup_type,builtinLookup_eq_fast];kernel_rfl
def pF:plainId "dict.update.loop"=ζ:=by decide +kernel
def xX:entryFor table "dict.update.loop"=ξ Builtin.«dict.update.loop»:=entryFor_of_tree (by kernel_rfl)
section
variable{prog:bO}{w:cC}{A:d9}{E:Value->aD->Prop}{s:aD}{a l it D:Addr}{its:Array Value}{n:Nat}{K:Type}[DecidableEq K]{knd:KeyKind prog w K}
def FZ(hx:s.heap.get? a=ξ {cls:=.type "list",data:=.seq its n})(hA:A.handled=ψ)
  (hq:∀h' t',(∀b o,s.heap.get? b=ξ o->h'.get? b=ξ o)->Q ψ {s with heap:=h',toks:=t'}):wpAny (bg prog w) A (getAttr? (.ref a) "keys") Q E s:=by
 let#[h,g,d,t,os]:=s;have hT:(#[h,g,d,t,os]:aD).TypeIs (.ref a) "list":=#[_,hx,rfl]
 have f1:=sub_AttributeError;have f3:=ow.lookup;have f4:=ow.bind (.ref a);have f5:=am_list_getattr_none;unfold getAttr? getAttrBy? getAttrBy
 repeat (any_goals (first|assumption| ((with_reducible show wpAny _ _ (call (Value.builtin "list.__getattribute__") _ _) _ _ _);refine Ck ow (show Shared.TypeIs _ _ "list" from #[_,hx,rfl]) am_entry_list_getattribute (F.args_list_getattribute_2 _ _) (meets_getattribute_miss_list a its n #[] "keys" _ zo (by decide +kernel)) #[hx,hA,λh' tk' e hx'=>?_])|wp_step))
 let#[t',u',he]:=hx'.there;show wpAny _ _ (getattributeRaised _ _ _ _ _ _ _) _ _ _;unfold getattributeRaised
 repeat (any_goals (first|assumption|wp_step))
 erw[hq _ _ hx'.keeps]
def tq{h:Heap}{a b:Addr}{o u:Obj}(ha:h.get? a=ξ o)(hb:h.get? b=ξ u)(n:o.cls≠u.cls):a≠b:=λe=>by
 rw[e,hb] at ha;cases ha;erw[n rfl]
def F3{R:Result->aD->Prop}{more:List (K×Value)}{res:Value}(hh:A.handled=ψ)(hz:its.size=more.length):∀(k i:Nat)(s:aD)(acc:List (K×Value)),more.length-i=k->i<=more.length->s.heap.IsListIter it l i->s.heap.IsList l its ->
  (∀(j:Nat)(kk:K)(v:Value),more[j]?=ξ (kk,v)->∃T key,its[j]?=ξ (.ref T)/\s.heap.IsTuple T (List.toArray [key,v])/\knd.is kk key=ζ)->s.heap.DictOf knd D acc->acc.length+k<=sizeLine ->
  (∀h' t',h'.DictOf knd D (merged acc (more.drop i))->(∀b o,b≠D->b≠it->s.heap.get? b=ξ o->h'.get? b=ξ o)->R (.ok (.ret res)) {s with heap:=h',toks:=t'}) ->
  qx (bg prog w) A (.builtin "dict.update.loop" #[[bu D,bu it,sF i,res],[]]) R s:=by
 intro k;induction k with
 |zero=>
  intro i s acc hk hi hit hl hp hd hs hR;have hin:i=more.length:=∅
  rwa[codeAny_builtin xX ?_];rw[B9 pF _]
  show wpAny _ A.in1 (yD (.ref it)>>=_) _ _ s
  let#[oi,hoi,ci,di]:=id hit;let#[od,es,ep,hod,hcd,r]:=id hd;have nd:D≠it:=tq hod hoi (by rw[hcd.1,ci];decide);rwa[af (Lf hh hit hl (by rw[hin,<-hz];simp) λh' eb=>?_)];rwa[af (aA (aA ?_))];rwa[hR h' s.toks ?_ λb o _ hb e=>eb b o hb e]
  rw[hin,Lg]
  exact#[od,es,ep,eb D od nd hod,hcd,r]
 |succ k ih=>
  intro i s acc hk hi hit hl hp hd hs hR;have lt:i<more.length:=∅
  obtain⟨⟨kk,v⟩,hkv⟩:∃p,more[i]?=ξ p:=#[_,ab lt]
  let#[T,key,hT,ht,hk']:=hp i kk v hkv;rwa[codeAny_builtin xX ?_];rw[B9 pF _]
  show wpAny _ A.in1 (yD (.ref it)>>=_) _ _ s
  let#[oi,hoi,ci,di]:=id hit;let#[od,es,ep,hod,hcd,r]:=id hd;let#[ol,hol,cl,dl]:=id hl;have nd:D≠it:=tq hod hoi (by rw[hcd.1,ci];decide);have nl:l≠it:=tq hol hoi (by rw[cl,ci];decide);have nld:l≠D:=tq hol hod (by rw[cl,hcd.1];decide);have nt:∀{T:Addr}{vs:Array Value},s.heap.IsTuple T vs->T≠it/\T≠D:=λ⟨ot,hot,ct,_⟩=>#[tq hot hoi (by rw[ct,ci];decide),tq hot hod (by rw[ct,hcd.1];decide)]
  rwa[af (Hl hit hl hT λh1 hit1 sb1=>?_)];let#[ot,hot,ct,nn,dt]:=id ht;have hot1:h1.get? T=ξ ot:=(sb1.2 T (nt ht).1).trans hot;rwa[af (fU (af (wpAny_tryCatch ?_)))];unfold Builtin.Dict.pairItems;rwa[af (Ho (T:="tuple") #[ot,hot1,ct] ?_)];rw[if_pos ⋯]
  rwa[af (Cg hot1 dt (aA ?_))];show wpAny _ A.in1 (holding [key,v] (dictSet D key v)) _ _ _;rwa[fU (fU (af (knd.pyHash hk' ?_)))];have hd1:h1.DictOf knd D acc:=#[od,es,ep,(sb1.2 D nd).trans hod,hcd,r]
  rwa[wpAny_dictSetHashed_pairs hk' hd1 (λh2 hd2 sb2=>aA #[plainId_quiet pF _,?_]) ∅];have kp:∀b o,b≠D->b≠it->s.heap.get? b=ξ o->h2.get? b=ξ o:=λb o n1 n2 e=>(sb2.2 b n1).trans ((sb1.2 b n2).trans e)
  have e1:(sF ((i:Int)+1))=sF ((i+1:Nat):Int):=by push_cast;rfl
  rw[e1]
  refine ih (i+1) _ (vc acc kk v) ∅ lt (hit1.at λo e=>(sb2.2 it nd.symm).trans e) #[ol,kp l ol nld nl hol,cl,dl] (λj kk v e=>?_) hd2 ?_ λh' t' hd' kp'=>?_
  .let#[T,key,q1,#[ot,hot,r],q3]:=hp j kk v e
   exact#[T,key,q1,#[ot,kp T ot (nt #[ot,hot,r]).2 (nt #[ot,hot,r]).1 hot,r],q3]
  .have:(vc acc kk v).length<=acc.length+1:=by
    unfold vc;split
    .rw[ae];omega
    .rw[aj];simp
   omega
  .rwa[hR h' t' ?_ λb o n1 n2 e=>kp' b o n1 n2 (kp b o n1 n2 e)]
   rw[dM lt]
   have:more[i]=(kk,v):=by rw[ab lt] at hkv;erw[aH hkv]
   rw[this]
   erw[hd']
def C9{more:List (K×Value)}{Q:Value->aD->Prop}(hh:A.handled=ψ)(hl:s.heap.get? l=ξ {cls:=.type "list",data:=.seq its n})(hz:its.size=more.length)(hm:more.length<=sizeLine)
  (hp:∀(j:Nat)(kk:K)(v:Value),more[j]?=ξ (kk,v)->∃T key,its[j]?=ξ (.ref T)/\s.heap.IsTuple T (List.toArray [key,v])/\knd.is kk key=ζ)
  (h:∀h' t',h'.DictOf knd s.heap.objs.size (merged [] more)->(∀b o,s.heap.get? b=ξ o->h'.get? b=ξ o)->Q (.ref s.heap.objs.size) {s with heap:=h',toks:=t'}):
  wpAny (bg prog w) A (call (.type "dict") [.ref l]) Q E s:=by
 refine callType_codes (Q₁:=λobj s₁=>obj=.ref s.heap.objs.size/\s₁={s with heap:=s.heap.push {cls:=.type "dict",data:=.dict #[]} }) F.kt_called_dict (F.kt_typeCall_dict_1 _) F.entry_dict_init (kt_code_dict_new _ #[rfl,rfl]) ?_;rintro obj s₁ ⟨rfl,rfl⟩;have hnew:(s.heap.push {cls:=.type "dict",data:=.dict #[]}).DictOf knd s.heap.objs.size []:=B5 s.heap;have kp:∀b o,s.heap.get? b=ξ o->(s.heap.push {cls:=.type "dict",data:=.dict #[]}).get? b=ξ o:=λb o e=>aJ _ e
 generalize s.heap.push {cls:=.type "dict",data:=.dict #[]}= h1 at hnew kp;refine#[hnew.typeIs,F.args_dict_init_2 _ _,?_];unfold Builtin.«dict.__init__»;rwa[af ?_];unfold Builtin.Dict.selfAndRest;rwa[af (rf hnew.typeIs ?_)];show wpAny _ _ (pure (s.heap.objs.size,[bu l])) _ _ _;rwa[aA ?_];show wpAny _ _ (Builtin.Dict.updateFrom "dict.__init__" s.heap.objs.size (.ref l) [] .none) _ _ _;unfold Builtin.Dict.updateFrom;rwa[af (Ho (T:="list") #[_,kp l _ hl,rfl] ?_)];rw[if_pos ⋯]
 rwa[af (FZ (kp l _ hl) hh λh2 t2 k2=>?_)];rw[if_pos (by rfl)]
 refine af (qu ?_);have hl2:=k2 l _ (kp l _ hl);refine af (kD #[_,hl2,rfl,_,rfl] (aA #[plainId_quiet pF _,?_]));have nD:s.heap.objs.size<h2.objs.size:=by
  let#[od,_,_,hod,_]:=hnew;erw[aS (k2 _ _ hod)]
 have kp3:∀b o,s.heap.get? b=ξ o->(h2.push {cls:=.type "list_iterator",data:=.fields (List.toArray [.ref l,.int 0 0])}).get? b=ξ o:=λb o e=>aJ _ (k2 b o (kp b o e))
 refine F3 (A:=A.in1) (knd:=knd) (its:=its) (l:=l) hh hz more.length 0 _ [] ∅ (bJ _) ?_ ?_ (λj kk v e=>?_) ?_ (~~~hm) λh' t' hd' kp'=>?_
 .exact#[_,aZ _ rfl,rfl,rfl]
 .exact#[{cls:=.type "list",data:=.seq its n},aJ _ hl2,rfl,n,rfl]
 .let#[T,key,q1,#[ot,hot,r],q3]:=hp j kk v e
  exact#[T,key,q1,#[ot,kp3 T ot hot,r],q3]
 .let#[od,es,ep,hod,r]:=hnew
  exact#[od,es,ep,aJ _ (k2 _ _ hod),r]
 .refine#[rfl,h h' t' hd' λb o e=>kp' b o ?_ ?_ (kp3 b o e)]
  .erw[ba (aS e)]
  .erw[ba (aS (k2 b o (kp b o e)))]
end
section
variable{X:Cx}{pZ:List (Addr×Obj)}{σ:St}{H:Hp}{s:aD}
@[reducible]def QE(H:Hp)(v:V)(kv:Key×V):Prop:=∃T,v=.ref T/\H T=ξ (.tup [kV kv.1,kv.2])
def MG(I:Inv X pZ σ H s):∀{vs:List V}{kvs:List (Key×V)}{its:List Value},Paired (QE H) vs kvs->Vals vs its->∃more,KV kvs more/\its.length=more.length /\
  ∀(j:Nat)(kk:Key)(v:Value),more[j]?=ξ (kk,v)->∃T key,its[j]?=ξ (.ref T)/\s.heap.IsTuple T (List.toArray [key,v])/\(dj X.prog X.w).is kk key=ζ
 := by
 intro vs kvs its hp hv;induction hp generalizing its with
 |nil=>cases hv;exact#[[],.nil,rfl,λj kk v e=>by cases e]
 |cons ha hr ih=>
  rename_i b _ _;let#[k,x]:=b;let#[T,e,hT]:=ha;cases hv with|cons r rr=>?_
  subst e;cases r;let#[more,h1,h2,h3]:=ih rr;let#[z,its',rv,p]:=I.dQ T _ hT;cases rv with
  |cons r1 rr1=>
   rename_i ku us';cases rr1 with
   |cons r2 rr2=>
    rename_i xu _;cases rr2;refine#[(k,xu)::more,.cons #[rfl,r2] h1,by simp[h2],λj kk v e=>?_];cases j with
    |zero=>
     simp at e;let#[rfl,rfl]:=e;exact#[T,ku,rfl,p,rH r1]
    |succ j=>simpa using h3 j kk v (~~~e)
def Dc(hA:X.A.handled=ψ):iI X (.type "dict") (λxs H Q=>∃a vs kvs,xs=[.ref a]/\H a=ξ (.lst vs)/\Paired (QE H) vs kvs/\(kvs.map (·.1)).Nodup/\∀p,H p=ψ->Q (.ref p) (upd H p (.dK kvs))):=by
 intro pZ s σ H xs us Q I rv h;let#[a,vs,kvs,rfl,hH,hp,hn,q]:=h;let#[u,rfl,ru]:=rv.one;cases ru;let#[z,its,n,r,hl,e]:=I.CT hH;let#[more,h1,h2,h3]:=MG I hp r;have hk:=h1.keys;refine C9 (knd:=dj X.prog X.w) (more:=more) hA e (~~~h2) (by rw[<-h2,<-hl];erw[z]) (λj kk v ej=>?_) λh' t' hd kp=>?_
 .let#[T,key,q1,q2,q3]:=h3 j kk v ej
  exact#[T,key,~~~q1,q2,q3]
 .rw[merged_nil_of_nodup more (by rw[<-hk];erw[hn])] at hd
  have hf:=I.fresh;refine#[.ref s.heap.objs.size,_,I.laid (t':=t') kp (aq _) (zb (kvs:=kvs) (by rw[h1.length,<-h2,<-hl];erw[z]) ?_ h1 hd),rfl,q _ hf];have:=I.big;erw[beq_eq_false_iff_ne.mpr (dw this)]
end
section
variable{X:Cx}
def uM(hi:0<=i)(hj:0<=j):Builtin.bitAnd i j=((i.toNat&&&j.toNat:Nat):Int):=by
 unfold Builtin.bitAnd;rw[decide_eq_true hi,decide_eq_true hj]
def Dd(hi:0<=i)(hj:0<=j):Builtin.bitOr i j=((i.toNat|||j.toNat:Nat):Int):=by
 unfold Builtin.bitOr Builtin.bitAnd Builtin.bitNot;rw[decide_eq_false ∅,decide_eq_false ∅,show -(-i-1)-1=i by omega,show -(-j-1)-1=j by omega]
 dsimp only;omega
def F4:Cd X "int.bit_length" (λx xs H Q=>∃i:Nat,x=.int i/\xs=[]/\Q (.int (if i=0 then 0 else i.log2+1:Nat)) H):=by
 intro pZ s σ H x xs v us Q I rx rs h;let#[i,rfl,rfl,q]:=h;let#[t,rfl]:=rx;cases rs;refine call_int_bit_length #[.int _,H,I.tok _,#[_,rfl],?_];have:Builtin.Int.intBits i=if i=0 then 0 else i.log2+1:=by
  unfold Builtin.Int.intBits;by_cases e:i=0
  .subst e;rfl
  .rw[if_neg e,if_neg (~~~e)];rfl
 rw[this]
 erw[q]
def IF:iq X (cQ .Add) (λx y H Q=>∃a b ys,x=.ref a/\y=.ref b/\lO X.K H a []/\lO X.K H b ys/\Q (.ref b) H):=by
 x_go;let#[a,b,ys,rfl,rfl,ha,hb,q]:=h;cases rx;cases ry;let#[its,r1,p1,_]:=I.tuple ha;let#[its2,r2,p2,_]:=I.tuple hb;cases r1;let#[#[cls,dd,data,sl],ho,hc,n,hd]:=id p1;let#[#[cls2,dd2,data2,sl2],ho2,hc2,n2,hd2]:=id p2;simp only at hc hd hc2 hd2;subst hc hd hc2 hd2;exact Hn #[_,ho,rfl] #[_,ho2,rfl] yI Fg nk mP (mD _ _)
  (tuple_addW0 a b _ _ n n2 dd dd2 sl sl2 (#v[])) #[ho,ho2,#[.ref b,H,I,rfl,q]]
def De(hc:X.calm=ζ):iI X (.builtin "any") (λxs H Q=>∃p,∃bs:List Bool,xs=[.ref p]/\ij X.K H p (bs.map V.bl)/\Q (.bl (bs.any id)) H):=by
 k_go;let#[p,bs,rfl,hl,q]:=h;let#[u,rfl,ru]:=vals1 r;cases ru;let#[its,r,pl,_]:=I.list hl;have hl:=pl.isList;have hits:=vF r;have hlt:p<s.heap.objs.size:=by let#[_,e,_]:=hl;erw[aS e]
 refine call_any_walk (kD hl ?_);refine#[s.heap.objs.size,[s.heap.objs.size,p],[s.heap.objs.size],its.toArray.size,_,_,λi=>(bs[i]?).getD ϑ,rfl,Fq (A:=X.A.in1) (I.ok.hd hc) _ p (ba hlt) its.toArray,
  #[#[_,aZ _ rfl,rfl,rfl],hl.push _],λi v s' Q' E' hP hQ=>?_,λh' tk hk=>?_]
 .have hP:its[i]?=ξ v:=by simpa using hP
  rw[hits,aC] at hP;cases e:bs[i]? with
  |none=>rw[e] at hP;cases hP
  |some b=>
   rw[e] at hP;have hQ:Q' ((bs[i]?).getD ϑ) s':=hQ;rw[e] at hQ;cases hP;erw[dq hQ]
 .have e:((cv its.toArray.size).any λi=>(bs[i]?).getD ϑ)=bs.any id:=by
   rw[aK,hits,ae];erw[LSm.range_any bs]
  rw[e]
  exact#[.bl _,H,I.kept (AF hk),rfl,q]
def F5(hu:X.A.units+200<gv):iq X (bF .NotIn) (λx y H Q=>∃p xs ds d,y=.ref p/\ij X.K H p xs/\iP X.K H xs ds/\oV X.K H x d/\Dv.lA ds<=100/\Q (.bl (!ds.any λe=>Ce e d)) H):=by
 x_go;let#[p,xs,ds,d,rfl,hq,hd,hx,hz,q]:=h;cases ry;let#[its,r,pl,_]:=I.list hq
 classical
 have l1:=hd.len;have m1:=r.length
 let e:Value->Bool:=λu=>decide (∃(j:Nat)(d':Dv),its[j]?=ξ u/\ds[j]?=ξ d'/\Ce d' d=ζ)
 have key:∀(j:Nat)(w:Value)(d':Dv),its[j]?=ξ w->ds[j]?=ξ d'->e w=Ce d' d:=λj w d' h1 h2=>by
  have f:∃z,xs[j]?=ξ z:=#[_,ab (by have:=(ag.mp h2).1;omega)]
  let#[z,hz']:=f;let#[w',g1,q1]:=r.get hz';rw[h1] at g1;cases g1;cases q:Ce d' d with
  |true=>erw[decide_eq_true #[j,d',h1,h2,q]]
  |false=>
   rwa[decide_eq_false ?_];rintro⟨j2,d2,k1,k2,k3⟩;have f2:∃z,xs[j2]?=ξ z:=#[_,ab (by have:=(ag.mp k2).1;omega)]
   let#[z2,hz2]:=f2;let#[w2,g2,q2]:=r.get hz2;rw[k1] at g2;cases g2;have ez:=RelV.inj q1 q2;subst ez;have:=oV.inj I (hd.get hz' h2) (hd.get hz2 k2);rw[this,k3] at q;cases q
 rwa[Fi e pl.isList (λw hw=>?_) #[.bl _,H,I,rfl,?_]]
 .let#[j,hj]:=bj (show w∈its by simpa using hw)
  have hjl:=(ag.mp hj).1;have e1:ds[j]?=ξ (ds[j]'∅):=ab _;have e2:xs[j]?=ξ (xs[j]'∅):=ab _;let#[w',g1,q1]:=r.get e2;rw[hj] at g1;cases g1;rw[key j w _ hj e1]
  erw[Qy I 100 (aF (sY e1) hz) (by show X.A.units+1+100<gv;omega) (hd.get e2 e1) hx q1 rx]
 .have:its.toArray.any e=ds.any λe=>Ce e d:=by
   rw[List.any_toArray,dv,kA,kA]
   constructor
   .rintro⟨w,hw,h1⟩
    let#[j,d',_,k2,k3]:=of_decide_eq_true h1;exact#[d',ah k2,k3]
   .rintro⟨d',hd',h1⟩
    let#[j,hj]:=bj hd';have hjl:=(ag.mp hj).1;have e1:its[j]?=ξ (its[j]'∅):=ab _;exact#[_,ah e1,%[key j _ d' e1 hj|h1]]
  rw[this]
  erw[q]
end
section
variable{X:Cx}
def Bf{val:Nat->Int}:∀k,argBest (λi j=>decide (val j<val i)) k<=k/\∀j,j<=k->val j<=val (argBest (λi j=>decide (val j<val i)) k)
 |0=>#[aq _,λj h=>%[Nat.le_zero.mp h|Ft _]]
 |k+1=>by
  let#[h1,h2]:=Bf (val:=val) k;unfold argBest;split
  .rename_i hb
   have hb:=of_decide_eq_true hb;refine#[aq _,λj hj=>?_];rcases ur k j with z|z
   .rw[show j=k+1 by omega];erw[Ft _]
   .erw[Int.le_of_lt (Int.lt_of_le_of_lt (h2 j z) hb)]
  .rename_i hb
   have hb:¬val (argBest _ k)<val (k+1):=λz=>hb (decide_eq_true z)
   refine#[jU h1,λj hj=>?_];rcases ur k j with z|z
   .rw[show j=k+1 by omega];omega
   .erw[h2 j z]
def Ep:∀{is:List Int}{us:List Value},Vals (is.map V.int) us->us.length=is.length/\∀(i:Nat)v,us[i]?=ξ v->∃t,v=lL ((is[i]?).getD 0) t
 |[],_,r=>by rw[jM] at r;cases r;exact#[rfl,λi v e=>by simp at e]
 |k::ks,_,r=>by
  rw[az] at r;cases r with
  |cons h t=>
   let#[h1,h2]:=Ep t;refine#[by simp[h1],λi v e=>?_];cases i with
   |zero=>simp at e;subst e;erw[h]
   |succ i=>simp at e ⊢;erw[h2 i v e]
def Dg(hc:X.calm=ζ):iI X (.builtin "max") (λxs H Q=>∃p,∃(i:Int)(is:List Int),xs=[.ref p]/\ij X.K H p ((i::is).map V.int)/\∀m∈i::is,(∀j∈i::is,j<=m)->Q (.int m) H):=by
 k_go;let#[p,i,is,rfl,hl,q]:=h;let#[u,rfl,ru]:=vals1 r;cases ru;let#[its,r,pl,_]:=I.list hl;have hl:=pl.isList;let#[e1,e2]:=Ep r;have hlt:p<s.heap.objs.size:=by let#[_,e,_]:=hl;erw[aS e]
 refine call_max_walk (kD hl ?_);refine#[s.heap.objs.size,[s.heap.objs.size,p],[s.heap.objs.size],its.toArray.size,_,_,_,rfl,Fq (A:=X.A.in1) (I.ok.hd hc) _ p (ba hlt) its.toArray,
  #[#[_,aZ _ rfl,rfl,rfl],hl.push _],λb hb=>?_,by simp[e1],CmpOf.ints_gt (λk=>((i::is)[k]?).getD 0) (λk v hv=>e2 k v (~~~hv)),λv h' tk hP hk=>?_]
 .show b<(s.heap.push _).objs.size
  rw[iF]
  rcases aN.mp hb with z|z
  .rw[z];erw[b9 _]
  .rw[bp.mp z];erw[bc hlt]
 .have hn:its.toArray.size-1=is.length:=by simp[e1]
  rw[hn] at hP;let#[b1,b2]:=Bf (val:=λk=>((i::is)[k]?).getD 0) is.length;have get:∀k,k<=is.length->∃m,(i::is)[k]?=ξ m/\((i::is)[k]?).getD 0=m:=λk hk=>by
   have e:=ab (l:=i::is) (i:=k) ((·));exact#[_,e,by rw[e];rfl]
  let#[m,g1,g2]:=get _ b1;let#[t,rfl]:=e2 _ v (~~~hP);refine#[.int m,H,I.kept (AF hk),#[t,by rw[<-g2]],q m (ah g1) λj hj=>?_];let#[k,hk2,e]:=qQ hj;have:=b2 k (by simp at hk2;omega);rw[<-g2]
  have e3:((i::is)[k]?).getD 0=j:=by rw[ab hk2,e];rfl
  rw[<-e3];erw[this]
def F6:iI X (.builtin "len") (λxs H Q=>∃a kvs,xs=[V.ref a]/\H a=ξ (.dP kvs)/\Q (.int kvs.length) H):=by
 k_go;let#[a,kvs,rfl,ha,q]:=h;let#[u,rfl,ru]:=vals1 r;cases ru;let#[z,hd,ws,rel,dd]:=OF I.dQ ha;have hT:=dd.typeIs;let#[o,es,ep,ho,hc,hdat,he,_]:=dd;have hsz:es.size=kvs.length:=by rw[AD he,<-Paired.length rel]
 have h63:(kvs.length:Int)<2^63:=by rw[lP] at z;omega
 refine Calls.call_function_entry kind_len plain_len entry_len (args_len1 _) ?_;unfold Builtin.«len»;refine af (m:=oneArg "len" _) (aA ?_);refine af (m:=callSpecial? (.ref a) (cj "__len__")) (j0 (name:=cj "__len__") hT Am
  (jf Am hT PySem.F.entry_dict_len ?_ (PySem.F.args_dict_len_1 _)))
 show wpAny _ _ (dictSize a>>=_) _ _ s
 unfold dictSize;rwa[af (af (iL ho hdat (aA ?_)))];show wpAny _ _ (Builtin.Dict.pendingCount a>>=_) _ _ s;rwa[af (wpAny_pendingCount_other hd ?_)];rwa[wpAny_ret_mkInt ?_];show wpAny _ _ _ _ _ {s with toks:=s.toks+1};rwa[af (fU (aA ?_))];rwa[af (wpAny_letGo ?_)];rw[hsz]
 show wpAny _ _ (if ((kvs.length:Nat):Int)<0 then _ else _) _ _ _
 rw[if_neg ∅]
 show wpAny _ _ (if ((kvs.length:Nat):Int)≥2^63 then _ else _) _ _ _
 rw[if_neg ∅]
 erw[af (Lz (aA #[_,rfl,.int kvs.length,H,I.tok _,#[_,rfl],q]))]
def IG(h:Heap)(hb:cb<h.objs.size):d7 P w H (h.push {cls:=.type "dict",data:=.dict #[]}) h.objs.size (.dP []):=
 #[bJ _,beq_eq_false_iff_ne.mpr (cJ (ba hb)),[],.nil,_,#[],0,aZ _ rfl,#[rfl,rfl,rfl],rfl,rfl,xq]
abbrev Vg:TE:=λ_ H Q=>∃o,(o=HO.dK []\/o=.dT []\/o=.dP [])/\∀p,H p=ψ->Q (.ref p) (upd H p o)
def MH:PE X (.Dict [] [] pos) Vg:=λpZ s σ H Q I h=>by
 let#[o,ho,h]:=h;rwa[wpAny_Dict_empty #[.ref s.heap.objs.size,_,I.laid (a:=s.heap.objs.size) (o:=o) (t':=s.toks) (λ_ _ q=>aJ _ q) (aq _) ?_,rfl,h _ (I.dQ.fresh (aq _))]];rcases ho with rfl|rfl|rfl
 .erw[A1 s.heap I.big]
 .erw[Il s.heap I.big]
 .erw[IG s.heap I.big]
end
section
variable{prog:bO}{w:cC}{A:d9}{E:Value->aD->Prop}{s:aD}
abbrev Bg(h:Heap)(d:Addr)(es:Array p9)(ep:Nat):Prop:=∃o,h.get? d=ξ o/\o.data=.dict es ep
def F7(hv:s.heap.IsValuesView v d)(hm:Bg s.heap d es ep)
  (hQ:Q (.ref s.heap.objs.size) {s with heap:=s.heap.push {cls:=.type "dict_valueiterator",data:=.fields (List.toArray [.ref d,.int 0 0,.int es.size 0,.int ep 0])} }):
  wpAny (bg prog w) A (pyIter (.ref v)) Q E s:=by
 let#[ov,hov,hcv,hdv]:=id hv;let#[o,ho,hdat]:=hm;rwa[wpAny_pyIter_slot hv.typeIs tW (jf tW hv.typeIs PySem.F.entry_dict_values_iter ?_ (PySem.F.args_dict_values_iter_1 _))];unfold Builtin.«dict_values.__iter__»;rwa[af (aA (af ?_))];unfold Builtin.Dict_items.dictOf;rwa[af (Ag hov hdv (x:=.ref d) rfl (aA (af ?_)))];unfold Builtin.Dict_items.newIterator;rwa[af (iL ho hdat (af (AG ho hdat ?_)))];have hown:Builtin.Dict_items.ownsTuple "dict_valueiterator"=ϑ:=⋯
 dsimp[hown,aw,if_false];rwa[dJ (aA #[_,rfl,"dict_valueiterator",_,#[_,aZ _ rfl,rfl],cZ.lookup,?_])];simpa[sF] using hQ
def II(hit:s.heap.IsValIter it d i es.size ep)(hm:Bg s.heap d es ep)(hlt:i<es.size)
  (hQ:∀h',h'.IsValIter it d (i+1) es.size ep->gD it s.heap h'->Q (ξ es[i].val) {s with heap:=h'}):wpAny (bg prog w) A (yD (.ref it)) Q E s:=by
 let#[o,ho,hc,hd]:=id hit;let#[od,hod,hdd]:=id hm;unfold yD;refine af (wpAny_attempt (j0 (name:=cj "__next__") hit.typeIs cZ
  (jf cZ hit.typeIs pv ?_ (oM _))))
 rwa[af (aA (af (af ?_)))];rwa[af (gQ hit.typeIs (aA ?_))];rwa[af (wpAny_fieldsOf ho hd ?_)];have hown:Builtin.Dict_items.ownsTuple "dict_valueiterator"=ϑ:=⋯
 dsimp[hown,aw,if_false];show wpAny _ _ (if (bu d==gw)=ζ then _ else _) _ _ s;rw[if_neg (show ¬((bu d==gw)=ζ) from aX)]
 rwa[af (aA (af (iL hod hdd ?_)))];rw[if_neg (#v[])]
 rwa[af (aA (af (AG hod hdd ?_)))];rw[if_neg (#v[])]
 refine aA ?_;dsimp[show ¬((i:Int)<0) from by omega,if_false,fG,iM hlt];refine af ?_;refine af (gQ hit.typeIs (aA ?_));refine af (rg hit.typeIs ?_);show wpAny _ _ (setField (.ref it) 1 (sF ((i:Int)+1))>>=_) _ _ s;refine af (wpAny_setField ho hd (#v[]) ?_);have hit':(s.heap.update it (AH (·.setIfInBounds 1 (sF ((i:Int)+1))))).IsValIter it d (i+1) es.size ep:=
  #[_,kn _ ho (Obj.isFreed_of_fields (Hx hd _)),(Obj.cls_mapFields ..).trans hc,by rw[Hx hd];simp[sF]]
 rwa[af (fU ?_)];refine af (rg (s:={s with heap:=s.heap.update it (AH (·.setIfInBounds 1 (sF ((i:Int)+1))))}) hit'.typeIs ?_);refine af (rg (s:={s with heap:=s.heap.update it (AH (·.setIfInBounds 1 (sF ((i:Int)+1))))}) hit'.typeIs ?_);show wpAny _ _ (pure es[i].val) _ _ _;erw[aA (aA #[_,rfl,aA (hQ _ hit' (fh ..))])]
def MI(hh:A.handled=ψ)(hit:s.heap.IsValIter it d i es.size ep)(hm:Bg s.heap d es ep)(hge:es.size<=i)
  (hQ:∀h',Heap.ExtBut it s.heap h'->Q ψ {s with heap:=h'}):wpAny (bg prog w) A (yD (.ref it)) Q E s:=by
 let#[o,ho,hc,hd]:=id hit;let#[od,hod,hdd]:=id hm;unfold yD;refine af (wpAny_attempt (j0 (name:=cj "__next__") hit.typeIs cZ
  (jf cZ hit.typeIs pv ?_ (oM _))))
 rwa[af (aA (af (af ?_)))];rwa[af (gQ hit.typeIs (aA ?_))];rwa[af (wpAny_fieldsOf ho hd ?_)];have hown:Builtin.Dict_items.ownsTuple "dict_valueiterator"=ϑ:=⋯
 dsimp[hown,aw,if_false];show wpAny _ _ (if (bu d==gw)=ζ then _ else _) _ _ s;rw[if_neg (show ¬((bu d==gw)=ζ) from aX)]
 rwa[af (aA (af (iL hod hdd ?_)))];rw[if_neg (#v[])]
 rwa[af (aA (af (AG hod hdd ?_)))];rw[if_neg (#v[])]
 refine aA ?_;dsimp[show ¬((i:Int)<0) from by omega,if_false,fG,AE hge];refine af ?_;refine af (gQ hit.typeIs (aA ?_));show wpAny _ _ (setField (.ref it) 0 .none>>=_) _ _ s;refine af (wpAny_setField ho hd (#v[]) ?_);show wpAny _ _ (newExc (.type "StopIteration") []>>=_) _ _ _;dsimp[newExc,newTuple];refine af (af (dJ (af (m:=firstArgMember _ _) (wpAny_of_eq (a:=gw) (by first|rfl| (dsimp[firstArgMember];rfl)) (dJ ?_ (by size_fits)))) (by size_fits)));dsimp[raiseNew];refine af (wpAny_handled ?_);rw[show A.in1.handled=ψ from hh]
 rwa[af (aA (wpAny_throw ?_))];rwa[af (pX (T:="StopIteration") (b:=ζ) #[_,aZ _ rfl,rfl] isSubtype_stop (aA (hQ _ ?_)))];exact((fh ..).extBut.push _).push _
def F8(hh:A.handled=ψ)(I d:Addr)(hne:d≠I)(es:Array p9)(ep:Nat):
  Walks prog w A I [I,d] [I] es.size (λi v=>(es[i]?).map (·.val)=ξ v) (λi h=>h.IsValIter I d i es.size ep/\Bg h d es ep) where
 sub:=λb hb=>by simp at hb;simp[hb]
 frame:=λ_ _ _ st hk=>#[let ⟨o,e,r⟩:=st.1;#[o,hk I (#v[]) o e,r],let ⟨o,e,r⟩:=st.2;#[o,hk d (#v[]) o e,r]]
 item:=λi s Q E hi st hQ=>II st.1 st.2 hi λh' hit' hs'=>
  hQ _ h' s.toks (by rw[iM hi];rfl) #[hit',let ⟨o,e,r⟩:=st.2;#[o,(hs'.2 d hne).trans e,r]] λb o hb e=>hs'.extBut b o (λh=>hb (by simp[h])) e
 done:=λs Q E st hQ=>MI hh st.1 st.2 (aq _) λh' he'=>hQ h' s.toks λb o hb e=>he' b o (λh=>hb (by simp[h])) e
 self:=λ_ _ _ _ st hQ=>wpAny_pyIter_valiter st.1 hQ
def IJ:KdlSrc prog w "dict_values" r d es.size (λi v=>(es[i]?).map (·.val)=ξ v) (λh=>h.IsValuesView r d/\Bg h d es ep) where
 type:=λ_ hm=>hm.1.typeIs
 there:=λ_ hm=>#[let ⟨_,ho,_⟩:=hm.1;aS ho,let ⟨_,ho,_⟩:=hm.2;aS ho]
 keep:=λ_ _ hm hk=>#[let ⟨o,ho,x⟩:=hm.1;#[o,hk r (.inl rfl) o ho,x],let ⟨o,ho,x⟩:=hm.2;#[o,hk d (.inr rfl) o ho,x]]
 notList:=⋯
 notTuple:=⋯
 hint:=λ_ _ _ _ hm hq=>kdl_hint_values hm.1.typeIs hq
 iter:=λ_ s hh hm=>#[_,_,(λ_ _ hq=>F7 hm.1 hm.2 hq),F8 hh _ d (let ⟨_,ho,_⟩:=hm.2;ba (aS ho)) es ep,#[#[_,aZ _ rfl,rfl,rfl],let ⟨o,ho,x⟩:=hm.2;#[o,aJ _ ho,x]]]
end
section
variable{X:Cx}
abbrev Vh(p d:Addr):HO:=.ext λh=>h.IsValuesView p d
def F9:Cd X "dict.values" (λx xs H Q=>∃d kvs,x=.ref d/\xs=[]/\H d=ξ (.dT kvs)/\∀p,H p=ψ->Q (.ref p) (upd H p (Vh p d))):=by
 intro pZ s σ H x xs v us Q I rx rs h;let#[d,kvs,rfl,rfl,hd,q]:=h;cases rs;cases (show v=bu d from rx);let#[z,lo,ws,rel,dd]:=Ee I.dQ hd;refine mQ (S:=λA R s=>s.TypeIs (.ref d) "dict"/\R (.ok (.ret (.ref s.heap.objs.size))) {s with heap:=s.heap.push {cls:=.type "dict_values",data:=.fields (List.toArray [.ref d])} })
  wN dd.typeIs PySem.F.entry_dict_values (PySem.F.args_dict_values_1 _) (.of_wp λA R s h=>?_) #[dd.typeIs,?_]
 .rwa[af ?_]
  unfold Builtin.Dict.noArgs;rwa[af (rf h.1 ?_)];show wpAny _ _ (pure d) _ _ s;rwa[aA ?_];show wpAny _ _ (Builtin.Dict.showsAll d>>=_) _ _ s;unfold Builtin.Dict.showsAll;rw[if_neg (%[lo|aX])]
  erw[af (aA (af (dJ (aA #[_,rfl,h.2]))))]
 .refine#[.ref s.heap.objs.size,_,I.laid (a:=s.heap.objs.size) (o:=Vh s.heap.objs.size d) (t':=s.toks) (λ_ _ q=>aJ _ q) (aq _) ?_,rfl,q _ (I.dQ.fresh (aq _))]
  have e:(s.heap.push {cls:=.type "dict_values",data:=.fields (List.toArray [.ref d])}).get? s.heap.objs.size=ξ {cls:=.type "dict_values",data:=.fields (List.toArray [.ref d])}:=aZ _ rfl;exact#[#[_,e,rfl,rfl],#[_,e],λh1 h2 #[o,ho,r] k=>#[o,k o ho,r]]
def Dh(hc:X.calm=ζ):iI X (.type "list") (λxs H Q=>∃p d kvs,xs=[.ref p]/\H p=ξ (Vh p d)/\H d=ξ (.dT kvs)/\∀l,H l=ψ->Q (.ref l) (upd H l (.lst (kvs.map (·.2))))):=by
 k_go;let#[p,d,kvs,rfl,hp,hd,q]:=h;let#[u,rfl,ru]:=vals1 r;cases ru;let#[hv,_,_]:=(show d7 X.prog X.w H s.heap p (Vh p d) from I.dQ p _ hp)
 let#[z,lo,ws,rel,o,es,ep,ho,hx,hdat,he,_]:=Ee I.dQ hd;have hsz:es.size=kvs.length:=by rw[AD he,<-Paired.length rel]
 rwa[kdl_call IJ (I.ok.hd hc) #[hv,o,ho,hdat] (%[hsz|z]) λh' tk acc' c' hk hl hi=>?_]
 have ea:acc'.toList=ws.map (·.2.2):=by
  rwa[List.ext_getElem? λj=>?_]
  rw[B4,aC]
  have e3:es[j]?=(ws[j]?).map (Ci (ng (dj X.prog X.w))):=entry_at he j;cases e4:acc'[j]? with
  |some v=>
   have this:(es[j]?).map (·.val)=ξ v:=hi.2 j v e4;rw[e3] at this;cases e5:ws[j]? with
   |none=>rw[e5] at this;cases this
   |some q=>rw[e5] at this;erw[this.symm]
  |none=>
   have h1:acc'.size<=j:=Array.getElem?_eq_none_iff.mp e4;rw[dO (by rw[<-Paired.length rel,<-hsz,<-hi.1];erw[h1])];rfl
 have vals:∀{l:List (List Key×V)}{m:List (List Key×Addr×Value)},KT H l m->Vals (l.map (·.2)) (m.map (·.2.2)):=by
  intro l m r;induction r with
  |nil=>erw[.nil]
  |cons h _ ih=>erw[.cons h.2.2 ih]
 refine#[.ref s.heap.objs.size,_,I.laid (a:=s.heap.objs.size) (o:=.lst (kvs.map (·.2))) (t':=tk) hk (aq _) #[%[ae|z],acc'.toList,c',ea▸vals rel,?_],rfl,q _ (I.dQ.fresh (aq _))];rw[Array.toArray_toList];erw[hl]
end
abbrev Y9(K:aI)(a:Addr)(n:Nat):It:=
 #[λi H=>∃xs x,ij K H a xs/\i<n/\xs[n-1-i]?=ξ x,λi H x H'=>H'=H/\∀xs,ij K H a xs->xs[n-1-i]?=ξ x,λi _=>n<=i]
def IK{P:bO}{w:cC}{K:aI}{tg:Expr}(a it:Addr)(n:Nat):Turn P w K tg (Y9 K a n) [it] it (λi h=>i<=n/\h.IsRevIter it a ((n:Int)-1-(i:Int))) where
 mem:=by simp
 obj:=λi h st b hb=>by
  have e:b=it:=by simpa using hb
  subst e;let#[_,o,e,c,d]:=st;exact#[o,e,λv z=>by rw[d] at z;cases z]
 keep:=λi h h' st k=>#[st.1,st.2.at λo e=>k it (#v[]) o e]
 item:=by
  w_up;subst hP hw hK;let#[xs,x,hq,hi,hx]:=hg;let#[its,rv,p,hz]:=I.list hq;let#[u,hu,ru]:=rv.get hx;let#[f0,f1,f2,f3,f4,f5]:=hf it (#v[]);let#[_,st]:=st;rw[show(n:Int)-1-(i:Int)=((n-1-i:Nat):Int) by omega] at st;refine wpAny_pyNext_rev_item st p.isList (x:=u) (~~~hu) λh' st' sb=>?_
  have I1:Inv X pZ σ H {s with heap:=h'}:=I.turned (t':=s.toks) (λb o hb e=>(sb.2 b hb).trans e) f0 f1 f3 f4 f5;rw[show((n-1-i:Nat):Int)-1=(n:Int)-1-((i+1:Nat):Int) by omega] at st';let#[o,e,c,d]:=id st';exact#[u,rfl,xE (s:={s with heap:=h'}) e c d ⋯ #[x,H,I1,ru,#[rfl,λys hy=>%[I.rq hy hq|hx]],#[hi,st'],λb hb=>(hf b hb).1]]
 done:=by
  w_up;subst hP hw hK;have hg:n<=i:=hg;let#[f0,f1,f2,f3,f4,f5]:=hf it (#v[]);let#[hi,st]:=st;rw[show(n:Int)-1-(i:Int)= -1 by omega] at st;erw[wpAny_pyNext_rev_end (I.ok.hd hc) st λh' eb=>#[rfl,I.turned (t':=s.toks) (λb o hb e=>eb b o hb e) f0 f1 f3 f4 f5]]
 self:=λ_ _ _ _ _ st h=>LH st.2 h
abbrev Zc(K:aI)(ta:TA):TI:=λσ H R=>ta σ H λvs H1=>∃a xs,vs=[.ref a]/\ij K H1 a xs/\R (Y9 K a xs.length) H1
def QF{X:Cx}{a tg:Expr}{ta:TA}{p pos:Pos}(hg:Gl X "reversed")(hm:X.mg "reversed"=ψ)(ha:PA X [a] ta)(hs:bB [a] X.env=[(ϑ,eval a X.env)]:=by rfl):
  PI X tg (.Call (.Name "reversed" p) [a] [] pos) (Zc X.K ta):=by
 intro pZ s σ H R I h;rwa[Call_ (oO I hg hm boot_reversed (fW (eJ (ha pos pZ s σ H _ I h) λus s1 h9=>?_) hs rfl))];let#[vs,H1,I1,r1,q1]:=h9;let#[l,xs,e,hq,q]:=q1;subst e;cases r1 with
 |cons r rr=>
  cases rr;cases r;let#[its,rv,p,hz]:=I1.list hq;have el:(its.toArray.size:Int)-1=(xs.length:Int)-1:=by rw[aK,rv.length]
  rwa[call_reversed_list p.isList ?_];rw[el]
  rwa[LH (l:=l) (i:=(xs.length:Int)-1) #[_,aZ _ rfl,rfl,rfl] ?_];refine#[s1.heap.objs.size,[s1.heap.objs.size],_,_,H1,rfl,I1.kept (t':=s1.toks) λb o e=>aJ _ e,IK l _ xs.length,#[bJ _,_,aZ _ rfl,rfl,by simp[revObj]],λb hb=>?_,q]
  .have e:b=s1.heap.objs.size:=by simpa using hb
   subst e;erw[I1.AS (aq _) (I1.dQ.fresh (aq _))]
section
open PySem.SeqAt
open PySem.AutoSeq1 (wpAny_loadPart')
open PySem.MeetsSeq PySem.MeetsSeq2 PySem.MeetsSeq3
def wY(l b:Addr)(n n2:Nat)(dd dd2:Option Addr)(sl sl2:Array (Option Value))(i j:Int)(x y:Str)(t t2 u u2:Tok):
  Meets (Builtin.«tuple.__ge__» #[[.ref l,.ref b],[]])
   (λ_ R s=>s.heap.get? l=ξ {cls:=.type "tuple",dict:=dd,data:=.seq (List.toArray [.int i t,.str x t2]) n,slots:=sl}/\s.heap.get? b=ξ {cls:=.type "tuple",dict:=dd2,data:=.seq (List.toArray [.int j u,.str y u2]) n2,slots:=sl2} /\
    R (.ok (.ret (.bool (decide (j<i\/(j=i/\¬x.cps.toList<y.cps.toList)))))) s):=
 .of_wp λprog w A R s h=>by
  let#[hp,g,d,tk,os]:=s;let#[hl,hb,h]:=h;have f2:=AutoSeq1.sub_tuple_tuple;have e1:∀(Q:Bool->aD->Prop)(E:Value->aD->Prop),Q (i==j) #[hp,g,d,tk,os]->wpAny (bg prog w) A.in1 (eqBool (.int i t) (.int j u)) Q E #[hp,g,d,tk,os]:=λQ E h=>yB h
  have e2:∀(Q:Bool->aD->Prop)(E:Value->aD->Prop),Q (decide (x=y)) #[hp,g,d,tk,os]->wpAny (bg prog w) A.in1 (eqBool (.str x t2) (.str y u2)) Q E #[hp,g,d,tk,os]:=λQ E h=>wpAny_eqBool_str h
  have g1:∀(Q:Value->aD->Prop)(E:Value->aD->Prop),Q (.bool (decide (j<=i))) #[hp,g,d,tk,os]->wpAny (bg prog w) A.in1 (richCompare .GtE (.int i t) (.int j u)) Q E #[hp,g,d,tk,os]:=λQ E h=>(PyProof.Rows.ge_int h:wpAny (bg prog w) A.in1 (bF .GtE (.int i t) (.int j u)) Q E #[hp,g,d,tk,os])
  have g2:∀(Q:Value->aD->Prop)(E:Value->aD->Prop),Q (.bool (!(x.cps.toList<y.cps.toList))) #[hp,g,d,tk,os]->wpAny (bg prog w) A.in1 (richCompare .GtE (.str x t2) (.str y u2)) Q E #[hp,g,d,tk,os]:=λQ E h=>(PySem.P.ge_str h:wpAny (bg prog w) A.in1 (bF .GtE (.str x t2) (.str y u2)) Q E #[hp,g,d,tk,os])
  by_cases q:i=j
  .subst q
   rw[beq_self_eq_true] at e1;by_cases p:x=y
   .subst p
    rw[decide_eq_true rfl] at e2;rw[decide_eq_true (.inr #[rfl,xw _])] at h
    wp_walk using jQ hl,jQ hb,e1,e2
    exact#[_,rfl,by simpa[Builtin.Tuple.tupleCompareSizes] using h]
   .rw[decide_eq_false p] at e2
    rw[show decide (i<i\/(i=i/\¬x.cps.toList<y.cps.toList))= !decide (x.cps.toList<y.cps.toList) from (decide_eq_decide.mpr #[λz=>z.elim (λz=>absurd z (Int.lt_irrefl _)) And.right,λz=>.inr #[rfl,z]]).trans (decide_not ..)] at h
    wp_walk using jQ hl,jQ hb,e1,e2,g2
    exact#[_,rfl,h]
  .rw[beq_eq_false_iff_ne.mpr q] at e1
   rw[show decide (j<i\/(j=i/\¬x.cps.toList<y.cps.toList))=decide (j<=i) from decide_eq_decide.mpr #[λz=>z.elim Int.le_of_lt λz=>absurd z.1.symm q,λz=>.inl ∅]] at h
   wp_walk using jQ hl,jQ hb,e1,g1
   exact#[_,rfl,h]
end
section
variable{X:Cx}
def QG(hu:X.A.units+200<gv):iq X (bF .GtE) (λx y H Q=>∃a b i j k l,x=.ref a/\y=.ref b/\lO X.K H a [.int i,.str k]/\lO X.K H b [.int j,.str l]/\Q (.bl (decide (j<i\/(j=i/\¬k.cps.toList<l.cps.toList)))) H):=by
 x_go;let#[a,b,i,j,k,l,rfl,rfl,ha,hb,q]:=h;cases rx;cases ry;let#[its,r1,p1,_]:=I.tuple ha;let#[its2,r2,p2,_]:=I.tuple hb;let#[v1,v2,rfl,#[t,rfl],#[t2,rfl]]:=vals2 r1;let#[w1,w2,rfl,#[u,rfl],#[u2,rfl]]:=vals2 r2;let#[#[cls,dd,data,sl],ho,hc,n,hd]:=p1;let#[#[cls2,dd2,data2,sl2],ho2,hc2,n2,hd2]:=p2;simp only at hc hd hc2 hd2;subst hc hd hc2 hd2;exact richCompare_meets_room (op:=.GtE) #[_,ho,rfl] #[_,ho2,rfl] PySem.F.slot_tuple_ge PySem.F.entry_tuple_ge (PySem.F.args_tuple_ge_2 _ _) (wY a b n n2 dd dd2 sl sl2 i j k l t t2 u u2)
  #[ho,ho2,(λx=>nomatch x),#[.bl _,H,I,rfl,q]] ∅
end
end L2
namespace PL
section
variable{S:bG}{Q:KU}{q:Bool->Prop}{r:U->Prop}{i j:Int}{a b:List Nat}{x y:U}{us vs:List U}{m n:Nat}
def QH:kO .add (.int i) (.int j) S Q=Q (.int (i+j)) S:=rfl
def IL:kO .add (.str a) (.str b) S Q=(a.length+b.length<=1000000/\Q (.str (a++b)) S):=rfl
def QJ:kO .add (.tup us) (.tup vs) S Q=(us.length+vs.length<=1000000/\Q (.tup (us++vs)) S):=rfl
def Zd:kO .add (.loc m) (.loc n) S Q=getL S[m]? λa=>getL S[n]? λb=>a.length+b.length<=1000000/\Q (.loc S.length) (S++[.lst (a++b)]):=rfl
def QK:kO .sub (.int i) (.int j) S Q=Q (.int (i-j)) S:=rfl
def Ze:kO .mul (.int i) (.int j) S Q=(((-(2^64)<i/\i<2^64)\/(-(2^64)<j/\j<2^64))/\Q (.int (i*j)) S):=rfl
def X3:kO .fdiv (.int i) (.int j) S Q=((0<j/\j<1073741824)/\Q (.int (i/j)) S):=rfl
def Zf:kO .mod (.int i) (.int j) S Q=(0<j/\Q (.int (i%j)) S):=rfl
def MJ:kO .band (.int i) (.int j) S Q=((0<=i/\0<=j)/\Q (.int ((i.toNat&&&j.toNat:Nat):Int)) S):=rfl
def QL:kO .bor (.int i) (.int j) S Q=((0<=i/\0<=j)/\Q (.int ((i.toNat|||j.toNat:Nat):Int)) S):=rfl
def QM:kO .shl (.int i) (.int j) S Q=((0<=i/\i<1000/\0<=j/\j<=1000)/\Q (.int (i*2^j.toNat)) S):=rfl
def QN:kO .shr (.int i) (.int j) S Q=((0<=i/\0<=j)/\Q (.int (i/2^j.toNat)) S):=rfl
def aaQ:zj o (.int i) y S Q=kO o (.int i) y S Q:=rfl
def aaR:zj o (.str a) y S Q=kO o (.str a) y S Q:=rfl
def IM:hJ .eq (.int i) y S q=xU (.int i) y q:=rfl
def OM:hJ .eq (.str a) y S q=xU (.str a) y q:=rfl
def Vi:hJ .eq .b7 y S q=xU .b7 y q:=rfl
def aaS:hJ .eq (.tup us) y S q=xU (.tup us) y q:=rfl
def ON:hJ .ne (.int i) y S q=(C6 (.int i) y=ζ/\xU (.int i) y λb=>q !b):=rfl
def aaT:hJ .ne (.str a) y S q=(C6 (.str a) y=ζ/\xU (.str a) y λb=>q !b):=rfl
def Vj:hJ .ne .b7 y S q=(C6 .b7 y=ζ/\xU .b7 y λb=>q !b):=rfl
def aaU:hJ .ne (.tup us) y S q=X1 (.tup us) y q:=rfl
def Zg:(C6 (.int i) y=ζ)=True:=eq_true rfl
def ab3:(C6 (.str a) y=ζ)=True:=eq_true rfl
def Zh:(C6 .b7 y=ζ)=True:=eq_true rfl
def ab4:hJ .lt (.int i) (.int j) S q=q (decide (i<j)):=rfl
def ab5:hJ .le (.int i) (.int j) S q=q (decide (i<=j)):=rfl
def ab6:hJ .gt (.int i) (.int j) S q=q (decide (j<i)):=rfl
def ab7:hJ .ge (.int i) (.int j) S q=q (decide (j<=i)):=rfl
def QP:∀{b:List Nat},i6 [c] b=b.contains c
 |[]=>rfl
 |x::xs=>by
  rw[i6,QP (b:=xs),List.contains_cons]
  simp[List.isPrefixOf]
def MK:hJ .isin (.str [k]) (.str b) S q=q (b.contains k):=by
 rw[<-QP];rfl
def ML:hJ .mU (.str [k]) (.str b) S q=q !(b.contains k):=by
 rw[<-QP];rfl
def Bh:hJ .isin (.str a) (.tab kvs) S q=q (kvs.lookup a).isSome:=rfl
def QQ:hJ .isin x (.tup us) S q=rJ x us q:=rfl
def QR:hJ .mU x (.tup us) S q=rJ x us λb=>q !b:=rfl
def QS:hJ .isin x (.loc n) S q=getL S[n]? λus=>rJ x us q:=rfl
def Zi:hJ .mU (.str a) (.loc n) S q=getL S[n]? λus=>rJ (.str a) us λb=>q !b:=rfl
def MM:hJ .mU (.tup vs) (.loc n) S q=getL S[n]? λus=>(jV vs=ζ/\jV us=ζ/\mW us<=100)/\q !(us.any λy=>pE y (.tup vs)):=rfl
def Zj:hJ .Qz x .b7 S q=q (xV x):=rfl
def QT:hJ .C2 x .b7 S q=q (!xV x):=rfl
def ew(h1:IB x y=ζ)(h2:wH x=ζ)(h3:wH y=ζ)(h4:dep x<=100)(h:pE x y=v):xU x y q=q v:=by
 rw[<-h];erw[propext #[λz=>z.2,λz=>#[#[h1,h2,h3,h4],z]]]
def MN:xU (.int i) (.int j) q=q (i==j):=ew rfl rfl rfl (bJ _) rfl
def Vk:xU (.str a) (.str b) q=q (a==b):=ew rfl rfl rfl (bJ _) rfl
def Zk:xU .b7 .b7 q=q ζ:=ew rfl rfl rfl (bJ _) rfl
def ab8{a b:Bool}:xU (.bl a) (.bl b) q=q (a==b):=ew rfl rfl rfl (bJ _) rfl
def Zl:xU (.int i) .b7 q=q ϑ:=ew rfl rfl rfl (bJ _) rfl
def Zm:xU .b7 (.int i) q=q ϑ:=ew rfl rfl rfl (bJ _) rfl
def ab9:xU (.int i) (.str a) q=q ϑ:=ew rfl rfl rfl (bJ _) rfl
def aca:xU (.str a) (.int i) q=q ϑ:=ew rfl rfl rfl (bJ _) rfl
def Vl(l:List (List Nat)):(l.map U.str).all flat=ζ:=cy.mpr λu m=>by let#[x,_,rfl]:=bD.mp m;rfl
def anyS{l:List (List Nat)}:rJ (.str a) (l.map .str) q=q (l.any (·==a)):=by
 rwa[propext #[λz=>?_,λz=>#[#[rfl,Vl l],?_]]]
 .have:=z.2;rw[Ca] at this;erw[this]
 .rw[Ca];erw[z]
def Vm:Ek (.str a) (.int i) S r=(a.length<=1000000/\opt (qV a i) λc=>r (.str [c])):=rfl
def Er:Ek (.tup us) (.int i) S r=(us.length<=1000000/\opt (qV us i) r):=rfl
def aaV:Ek (.sZ ns) (.int i) S r=(ns.length<=1000000/\opt (qV ns i) λn=>r (.int n)):=rfl
def IP:Ek (.loc n) (.int i) S r=getL S[n]? λus=>opt (qV us i) r:=rfl
def zg:Ek (.tab kvs) (.str a) S r=opt (kvs.lookup a) λv=>r (.str v):=rfl
def jd{f:String}:oW (.loc n) f S r=qE S[n]? λ_ fs=>opt (fs.lookup f) r:=rfl
def OO:mH S (.str a)=ξ a.length:=rfl
def aaW:mH S (.tup us)=ξ us.length:=rfl
def aaX:mH S (.sZ ns)=ξ ns.length:=rfl
def kr(h:S[n]?=ξ (.lst us)):mH S (.loc n)=ξ us.length:=by delta mH;dsimp only;rw[h]
def aaY:tf S (.bl c)=ξ c:=rfl
def aaZ:tf S .b7=ξ ϑ:=rfl
def aa0:tf S (.int i)=ξ (i !=0):=rfl
def aa1:tf S (.sZ ns)=ξ (ns.length !=0):=rfl
def OP(h:S[n]?=ξ (.lst us)):tf S (.loc n)=ξ (us.length !=0):=by delta tf;dsimp only;rw[h];dsimp only;rw[kr h];rfl
def aa2:tj .len [x] S Q=opt (mH S x) λn=>n<=1000000/\Q (.int n) S:=rfl
def X4:tj .tuple [.loc n] S Q=getL S[n]? λus=>Q (.tup us) S:=rfl
def Zn:tj .list [.loc n] S Q=getL S[n]? λus=>Q (.loc S.length) (S++[.lst us]):=rfl
def X5:tj .list [.tup us] S Q=(us.length<=1000000/\Q (.loc S.length) (S++[.lst us])):=rfl
def aa3:tj .all [.loc n] S Q=(∃bs:List Bool,S[n]?=ξ (.lst (bs.map .bl))/\Q (.bl (bs.all id)) S):=rfl
def aa4:tj .any [.loc n] S Q=(∃bs:List Bool,S[n]?=ξ (.lst (bs.map .bl))/\Q (.bl (bs.any id)) S):=rfl
def Zo:tj .dict [.loc n] S Q=(∃ps:List (List Nat×U),S[n]?=ξ (.lst (ps.map λp=>.tup [.str p.1,p.2]))/\(ps.map (·.1)).Nodup/\Q (.loc S.length) (S++[.eh (ps.map λp=>(.str p.1,p.2))])):=rfl
def Zp:qG .nF (.int i) [] S Q=(0<=i/\Q (.int (ub i.toNat:Nat)) S):=rfl
def aa5:qG .get (.loc n) [.str a,x] S Q=getD S[n]? λkvs=>∃ps:List (List Nat×U),kvs=(ps.map λp=>(U.str p.1,p.2))/\Q ((ps.lookup a).getD x) S:=rfl
def X6:tm .nF (.int i) S=True:=rfl
def Zq:tm .get (.loc n) S=jv S[n]? λ_=>True:=rfl
def Zr:qG .get (.loc n) [.str a] S Q=jv S[n]? λkvs=>nH (.str a)=ζ/\Q ((uK (.str a) kvs).getD .b7) S:=rfl
def Vn:MD (.loc n) y S r=jv S[n]? λkvs=>nH y=ζ/\opt (uK y kvs) r:=rfl
def Zs:hJ .C3 x (.loc n) S q=jv S[n]? λkvs=>nH x=ζ/\q (uK x kvs).isNone:=rfl
def Zt:qG .ox (.loc n) [x,y] S Q=qm S n x y Q:=rfl
def Eh:tm .join (.str a) S=True:=rfl
def A8:tm .index (.str a) S=True:=rfl
def xW:tm .startswith (.str a) S=True:=rfl
def sQ:tm .append (.loc n) S=getL S[n]? λ_=>True:=rfl
def Zu:tm .pop (.loc n) S=getL S[n]? λ_=>True:=rfl
def aa6:qG .pop (.loc n) [.int i] S Q=(i=0/\getL S[n]? λus=>∃u r,us=u::r/\Q u (S.set n (.lst r))):=rfl
def xN:tm .extend (.loc n) S=getL S[n]? λ_=>True:=rfl
def Zv:qG .join (.str a) [.loc n] S Q=(∃ts:List (List Nat),S[n]?=ξ (.lst (ts.map .str))/\(ts.map cR).sum+ts.length*a.length<=1000000/\Q (.str (l9 a ts)) S):=rfl
def X7:qG .index (.str a) [.str b] S Q=(∃c,b=[c]/\c∈a/\Q (.int (a.idxOf c:Nat)) S):=rfl
def Vo:qG .startswith (.str a) [.str b] S Q=Q (.bl (b.isPrefixOf a)) S:=rfl
def Vp:qG .append (.loc n) [x] S Q=getL S[n]? λus=>us.length<1000000/\Q .b7 (S.set n (.lst (us++[x]))):=rfl
def Vq:qG .extend (.loc n) [.loc m] S Q=getL S[n]? λus=>getL S[m]? λws=>us.length+ws.length<=1000000/\Q .b7 (S.set n (.lst (us++ws))):=rfl
def v_s:FV (.str a) S R=R (a.map λc=>.str [c]) (λ_=>True):=rfl
def v_t:FV (.tup us) S R=(us.length<=1000000/\R us (λ_=>True)):=rfl
def v_l:FV (.loc n) S R=getL S[n]? λus=>R us (λS'=>S'[n]?=ξ (.lst us)):=rfl
def bind_f:qo ϑ x caps k=k (ξ x::caps):=rfl
def Zw:qo ζ x caps k=OL x λa b=>k (ξ a::ξ b::caps):=rfl
def iz{α:Type}{xs:List α}{k:Nat}:qV xs (k:Int)=xs[k]?:=by
 unfold qV IC;rw[if_pos ∅]
 split
 .simp
 .rename_i h
  rw[dO ∅]
  rfl
def oX{α:Type}{x:α}{xs:List α}:qV (x::xs) 0=ξ x:=by
 have:=iz (xs:=x::xs) (k:=0);simpa using this
def mI{α:Type}{x y:α}{xs:List α}:qV (x::y::xs) 1=ξ y:=by
 have:=iz (xs:=x::y::xs) (k:=1);simpa using this
end
def vG{α:Type}{o:Option α}{Q Q':α->Prop}(h:∀a,Q a->Q' a)(w:opt o Q):opt o Q':=by
 cases o with
 |none=>erw[w]
 |some a=>erw[h a w]
def tu{o:Option SO}{Q Q':List U->Prop}(h:∀a,Q a->Q' a)(w:getL o Q):getL o Q':=by
 let#[a,e,z]:=cK.mp w;erw[cK.mpr #[a,e,h a z]]
def Bj(h:∀b,Q b->Q' b)(w:xU x y Q):xU x y Q':=#[w.1,h _ w.2]
def pG(h:∀b,Q b->Q' b)(w:rJ x us Q):rJ x us Q':=#[w.1,h _ w.2]
def rK{x:U}{Q Q':Int->Prop}(h:∀b,Q b->Q' b)(w:lT x Q):lT x Q':=by
 cases x<;>first|exact h _ w|exact w
def vH{x:U}{Q Q':List Nat->Prop}(h:∀b,Q b->Q' b)(w:ID x Q):ID x Q':=by
 cases x<;>first|exact h _ w|exact w
def Bk(h:Q->Q')(w:X0 x Q):X0 x Q':=by
 cases x<;>first|exact h w|exact w
def IQ(h:∀b,Q b->Q' b)(w:X1 x y Q):X1 x y Q':=#[w.1,Bj (λb z=>h _ z) w.2]
def IS(h:∀b,Q b->Q' b)(w:Y8 x us Q):Y8 x us Q':=by
 cases x<;>first|exact#[w.1,h _ w.2]|exact pG (λb z=>h _ z) w
def IT(h:∀b,Q b->Q' b)(w:sE x Q):sE x Q':=by
 cases x<;>first|exact h _ w|exact w
def Di(h:∀a,Q a->Q' a)(w:jv o Q):jv o Q':=by
 let#[a,e,z]:=jc.mp w;erw[jc.mpr #[a,e,h a z]]
def xY(h:∀b,Q b->Q' b)(w:hJ o x y S Q):hJ o x y S Q':=by
 cases o with
 |eq=>erw[Bj h w]
 |ne=>erw[IQ h w]
 |TV=>let#[i,a,j,b,e1,e2,w]:=w;exact#[i,a,j,b,e1,e2,h _ w]
 |isin=>cases y<;>first|exact vH (λ_ z=>h _ z) w|exact pG h w|exact tu (λ_ z=>pG h z) w|exact w
 |mU=>cases y<;>first|exact vH (λ_ z=>h _ z) w|exact pG (λb z=>h _ z) w|exact tu (λ_ z=>IS h z) w|exact w
 |Qz=>erw[Bk (h _) w]
 |C2=>erw[Bk (h _) w]
 |C3=>erw[IT (λ_ z=>Di (λ_ z=>#[z.1,h _ z.2]) z) w]
 |_=>erw[rK (λ_ z=>rK (λ_ z=>h _ z) z) w]
def IU{x y:U}{S:bG}{Q Q':U->Prop}(h:∀b,Q b->Q' b)(w:Ek x y S Q):Ek x y S Q':=by
 cases x<;>first|exact rK (λ_ z=>#[z.1,vG (λ_ z=>h _ z) z.2]) w|exact rK (λ_ z=>tu (λ_ z=>vG (λ_ z=>h _ z) z) z) w|exact vH (λ_ z=>vG (λ_ z=>h _ z) z) w|exact w
abbrev Keeps(Γ:bY)(b:dC)(k:Nat)(sp:Spec):Prop:=∀us S Q,sp us S Q->uC Γ b #[λ_ S1=>Q .b7 S1,Q] (us.map ξ++xj k ψ) S
section
variable{Γ:bY}{D:Ends}{env:Env}{S:bG}{i:Nat}{e o:Ex}{c:Tx}{a b ss:dC}{s:Sm}{f:String}
abbrev Rest(Γ:bY)(ss:dC)(D:Ends)(env:Env)(S:bG):Prop:=uC Γ ss D env S
def Rest.go(h:uC Γ ss D env S):Rest Γ ss D env S:=h
def aa9:uC Γ .nil D env S=D.nx env S:=rfl
def Zx:uC Γ (.cons s ss) D env S=WS Γ s #[λen S1=>uC Γ ss D en S1,D.rt] env S:=rfl
def aba:WS Γ (.ifs c a b) D env S=WT Γ c env S (λt S1=>if t=ζ then uC Γ a D env S1 else uC Γ b D env S1):=rfl
def abb:WS Γ (.A9 c b) D env S=∃n,zk (λen S1 k=>WT Γ c en S1 k) (λen S1 k=>uC Γ b #[k,D.rt] en S1) D.nx n env S:=rfl
def abc:WS Γ (.TX a) D env S=uC Γ a D env S:=rfl
variable{Q:KU}{e1 e2:Ex}{es ks:Aq}{P:List U->bG->Prop}{B:Bool->bG->Prop}{q m:String}{t1 t2:Tx}{O:Option Int->bG->Prop}{R:List U->(bG->Prop)->bG->Prop}
def w_var:WE Γ (.var i) env S Q=zh env[i]? λu=>Q u S:=rfl
def w_lit{u:U}:WE Γ (.lit u) env S Q=Q u S:=rfl
def abd{o:FT}:WE Γ (.bin o e1 e2) env S Q=WE Γ e1 env S (λx S1=>WE Γ e2 env S1 (λy S2=>kO o x y S2 Q)):=rfl
def abe:WE Γ (.neg e1) env S Q=WE Γ e1 env S (λx S1=>lT x λi=>Q (.int (-i)) S1):=rfl
def w_not:WE Γ (.not e1) env S Q=WE Γ e1 env S (λx S1=>OK x λb=>Q (.bl !b) S1):=rfl
def w_and:WE Γ (.and e1 e2) env S Q=WE Γ e1 env S (λx S1=>OK x λc=>if c=ζ then WE Γ e2 env S1 Q else Q (.bl ϑ) S1):=rfl
def w_or:WE Γ (.or e1 e2) env S Q=WE Γ e1 env S (λx S1=>OK x λc=>if c=ζ then Q (.bl ζ) S1 else WE Γ e2 env S1 Q):=rfl
def abf{o:OI}:WE Γ (.cmp o e1 e2) env S Q=WE Γ e1 env S (λx S1=>WE Γ e2 env S1 (λy S2=>hJ o x y S2 λr=>Q (.bl r) S2)):=rfl
def abg:WE Γ (.C4 c e1 e2) env S Q=WT Γ c env S (λt S1=>if t=ζ then WE Γ e1 env S1 Q else WE Γ e2 env S1 Q):=rfl
def Zy:WE Γ (.call f es) env S Q=wX Γ es env S (λus S1=>Γ f us S1 Q):=rfl
def w_mk:WE Γ (.mk f q es) env S Q=wX Γ es env S (λus S1=>Γ q (.loc S1.length::us) (S1++[.ins f []]) (λv S2=>v=.b7/\Q (.loc S1.length) S2)):=rfl
def Zz:WE Γ (.dg f m q o es) env S Q=WE Γ o env S (λx S1=>sE x λn=>qE S1[n]? λc' fs=>(c'=f/\fs.lookup m=ψ)/\wX Γ es env S1 (λus S2=>Γ q (x::us) S2 Q)):=rfl
def abh{b:Vc}:WE Γ (.blt b es) env S Q=wX Γ es env S (λus S1=>tj b us S1 Q):=rfl
def abi{b:OJ}:WE Γ (.jL b o es) env S Q=WE Γ o env S (λx S1=>tm b x S1/\wX Γ es env S1 (λus S2=>qG b x us S2 Q)):=rfl
def w_fld:WE Γ (.fld o f) env S Q=WE Γ o env S (λx S1=>oW x f S1 λv=>Q v S1):=rfl
def acd:WE Γ (.ix e1 e2) env S Q=WE Γ e1 env S (λx S1=>WE Γ e2 env S1 (λy S2=>Ek x y S2 λv=>Q v S2)):=rfl
def ace{lo hi:Ox}:WE Γ (.sl o lo hi) env S Q=WE Γ o env S (λx S1=>WO Γ lo env S1 (λl S2=>WO Γ hi env S2 (λh S3=>QC x l h S3 Q))):=rfl
def abj:WE Γ (.tup es) env S Q=wX Γ es env S (λus S1=>us.length<=1000000/\Q (.tup us) S1):=rfl
def abk:WE Γ (.lst es) env S Q=wX Γ es env S (λus S1=>us.length<=1000000/\Q (.loc S1.length) (S1++[.lst us])):=rfl
def ZA{pr:Bool}{it:It}{ci:List Nat}:WE Γ (.comp pr e it c ci) env S Q=WI Γ it env S (λus g S1=>mY g (λu S2 k=>qo pr u (mZ env ci) λen=>WT Γ c en S2 k)
   (λu S2 k=>qo pr u (mZ env ci) λen=>WE Γ e en S2 k) (λacc S3=>Q (.loc S3.length) (S3++[.lst acc])) us [] S1):=rfl
def abl:WE Γ (.Vd e1) env S Q=WE Γ e1 env S (λx S1=>ID x λ_=>Q (.bl ζ) S1):=rfl
def abm:wX Γ .nil env S P=P [] S:=rfl
def ZC:wX Γ (.cons e es) env S P=WE Γ e env S (λx S1=>wX Γ es env S1 (λxs S2=>P (x::xs) S2)):=rfl
def acf:WO Γ .no env S O=O ψ S:=rfl
def acg:WO Γ (.e e1) env S O=WE Γ e1 env S (λx S1=>lT x λj=>O (ξ j) S1):=rfl
def OQ:WI Γ (.val e) env S R=WE Γ e env S (λx S1=>FV x S1 λus g=>R us g S1):=rfl
def abn:WI Γ (.range e) env S R=WE Γ e env S (λx S1=>lT x λn=>n<=1000000/\-(1000000:Int)<=n/\R ((cv n.toNat).map λk=>.int (k:Nat)) (λ_=>True) S1):=rfl
def ZD:WI Γ (.enum e) env S R=WE Γ e env S (λx S1=>sE x λn=>getL S1[n]? λus=>R (us.mapIdx λi u=>.tup [.int (i:Nat),u]) (λS'=>S'[n]?=ξ (.lst us)) S1):=rfl
def abo:WT Γ (.cU e) env S B=WE Γ e env S (λx S1=>opt (tf S1 x) λb=>B b S1):=rfl
def ZE:WT Γ (.not t1) env S B=WT Γ t1 env S (λb S1=>B (!b) S1):=rfl
def ZF:WT Γ (.and t1 t2) env S B=WT Γ t1 env S (λc S1=>if c=ζ then WT Γ t2 env S1 B else B ϑ S1):=rfl
def abp:WT Γ (.or t1 t2) env S B=WT Γ t1 env S (λc S1=>if c=ζ then B ζ S1 else WT Γ t2 env S1 B):=rfl
def vI:uC Γ (.cons s ss) D env S=WS Γ s #[λen S1=>Rest Γ ss D en S1,D.rt] env S:=rfl
def Es:uC Γ .nil D env S=D.nx env S:=rfl
def Vr:WS Γ (.set i e) D env S=WE Γ e env S (λu S1=>D.nx (env.set i (ξ u)) S1):=rfl
def abq{p:FT}:WS Γ (.aug i p e) D env S=zh env[i]? λx=>WE Γ e env S (λy S1=>zj p x y S1 λz S2=>D.nx (env.set i (ξ z)) S2):=rfl
def ach:WS Γ (.ex e) D env S=WE Γ e env S (λ_ S1=>D.nx env S1):=rfl
def abr:WS Γ (.ret e) D env S=WE Γ e env S D.rt:=rfl
def abt:WS Γ (.ifs c a b) D env S=WT Γ c env S (λt S1=>if t=ζ then Rest Γ a D env S1 else Rest Γ b D env S1):=rfl
def OR:WS Γ (.A9 c b) D env S=∃n,zk (λen S1 k=>WT Γ c en S1 k) (λen S1 k=>Rest Γ b #[k,D.rt] en S1) D.nx n env S:=rfl
def OS{it:It}:WS Γ (.iu (.name i) it b) D env S=WI Γ it env S (λus g S1=>vE g (λu en S2 k=>Rest Γ b #[k,D.rt] (en.set i (ξ u)) S2) D.nx us env S1):=rfl
def abu:WS Γ (.TX a) D env S=Rest Γ a D env S:=rfl
def ZG:WS Γ (.nG o f e) D env S=WE Γ e env S (λu S1=>WE Γ o env S1 (λx S2=>sE x λn=>qE S2[n]? λc fs=>fs.length<100/\D.nx env (S2.set n (.ins c (iy f u fs))))):=rfl
def ZH:WS Γ (.C5 o f p e) D env S=WE Γ o env S (λx S1=>sE x λn=>qE S1[n]? λc fs=>opt (fs.lookup f) λv=>
   WE Γ e env S1 (λy S2=>zj p v y S2 λz S3=>qE S3[n]? λc' fs'=>c'=c/\fs'.length<100/\D.nx env (S3.set n (.ins c (iy f z fs'))))):=rfl
def ZI:WS Γ (.FU o j p e) D env S=WE Γ o env S (λx S1=>WE Γ j env S1 (λy S2=>sE x λn=>lT y λk=>getL S2[n]? λus=>0<=k/\opt (us[k.toNat]?) λv=>
   WE Γ e env S2 (λz S3=>zj p v z S3 λr S4=>getL S4[n]? λus'=>k.toNat<us'.length/\D.nx env (S4.set n (.lst (us'.set k.toNat r)))))):=rfl
def abv:WE Γ (.Hh e1 e2) env S Q=WE Γ e1 env S (λx S1=>WE Γ e2 env S1 (λy S2=>MD x y S2 λv=>Q v S2)):=rfl
def vJ:WE Γ (.eh .nil .nil) env S Q=(0<=100/\(Q (.loc S.length) (S++[.eh []])\/Q (.loc S.length) (S++[.uJ []])\/Q (.loc S.length) (S++[.xS []]))):=rfl
def ZJ:WI Γ (.keys e) env S R=WE Γ e env S (λx S1=>sE x λn=>jv S1[n]? λkvs=>R (kvs.map (·.1)) (λS'=>S'[n]?=ξ (.qD kvs)) (S1.set n (.qD kvs))):=rfl
def ZK{j:Ex}:WS Γ (.ox o j e) D env S=WE Γ e env S (λu S1=>WE Γ o env S1 (λx S2=>WE Γ j env S2 (λy S3=>sE x λn=>getD S3[n]? λkvs=>(nH y=ζ/\uK y kvs=ψ/\kvs.length<1000000)/\D.nx env (S3.set n (.eh (kvs++[(y,u)])))))):=rfl
def abw{it:It}{j:Nat}:WS Γ (.iu (.pair i j) it b) D env S=WI Γ it env S (λus g S1=>vE g (λu en S2 k=>OL u λx y=>Rest Γ b #[k,D.rt] ((en.set i (ξ x)).set j (ξ y)) S2) D.nx us env S1):=rfl
def ca{sp:Spec}{us:List U}{Q:KU}(h:Γ f=sp)(k:sp us S Q):Γ f us S Q:=%[h|k]
end
noncomputable abbrev SG:List Nat:=[10,32,33,34,35,36,38,39,40,41,42,43,44,45,46,47,48,49,50,51,52,53,54,55,56,57,58,59,60,61,62,63,64,65,66,67,68,69,70,71,72,73,74,75,76,77,78,79,80,81,82,83,84,85,86,87,88,89,90,91,92,93,94,95,96,97,98,99,100,101,102,103,104,105,106,107,108,109,110,111,112,113,114,115,116,117,118,119,120,121,122,123,124,125,126]
noncomputable abbrev SG1:List Nat:=[32,33,34,35,36,38,39,40,41,42,43,44,45,46,47,48,49,50,51,52,53,54,55,56,57,58,59,60,61,62,63,64,65,66,67,68,69,70,71,72,73,74,75,76,77,78,79,80,81,82,83,84,85,86,87,88,89,90,91,92,93,94,95,96,97,98,99,100,101,102,103,104,105,106,107,108,109,110,111,112,113,114,115,116,117,118,119,120,121,122,123,124,125,126]
abbrev nJ:dC:=#v[.ret (.jL .join (.lit (.str [])) #v[.comp ϑ @0 (.val (.lit (.str SG))) (.cU (.cmp .isin @0 @1)) [0]])]
abbrev pH:dC:=#v[.ret (.jL .join (.lit (.str [])) #v[.comp ϑ @0 (.val (.lit (.str SG))) (.cU (.cmp .mU @0 @1)) [0]])]
abbrev nK:dC:=#v[.ret (.cmp .lt (.jL .index (.lit (.str SG)) #v[@0]) (.jL .index (.lit (.str SG)) #v[@1]))]
abbrev pI:dC:=#v[.ret (.sl (.lit (.str SG)) (.e (.jL .index (.lit (.str SG)) #v[@0])) (.e (.bin .add (.jL .index (.lit (.str SG)) #v[@1]) ↑1)))]
abbrev zq:dC:=#v[.set 1 (.mk "Reader" "Reader.__init__" #v[@0]),.set 2 (.dg "Reader" "choice" "Reader.choice" @1 .nil),.ifs (.cU (.cmp .lt (.fld @1 "at") (.blt .len #v[@0]))) #v[.ex (.ix (.lit .b7) (.lit .b7))] .nil,.ret @2]
abbrev rL:dC:=#v[.ret (.C4 (.cU (.cmp .eq (.blt .len #v[@1]) ↑1)) (.ix @1 ↑0) (.tup #v[@0,.blt .tuple #v[@1]]))]
abbrev j7:dC:=#v[.nG @0 "text" @1,.nG @0 "at" ↑0,.nG @0 "depth" ↑0]
abbrev j8:dC:=#v[.ret (.and (.cmp .lt (.fld @0 "at") (.blt .len #v[.fld @0 "text"])) (.cmp .isin (.ix (.fld @0 "text") (.fld @0 "at")) @1))]
abbrev iU:dC:=#v[.ifs (.not (.cU (.dg "Reader" "sees" "Reader.sees" @0 #v[@1]))) #v[.ex (.ix (.lit .b7) (.lit .b7))] .nil,.C5 @0 "at" .add ↑1,.ret (.ix (.fld @0 "text") (.bin .sub (.fld @0 "at") ↑1))]
abbrev iV:dC:=#v[.set 1 (.lst #v[.dg "Reader" "row" "Reader.row" @0 .nil]),.A9 (.cU (.dg "Reader" "sees" "Reader.sees" @0 #v[↑[124]])) #v[.ex (.dg "Reader" "passes" "Reader.passes" @0 #v[↑[124]]),.ex (.jL .append @1 #v[.dg "Reader" "row" "Reader.row" @0 .nil])],.ret (.call "joined" #v[↑[111,114],@1])]
abbrev kP:dC:=#v[.set 1 (.lst #v[.dg "Reader" "repeat" "Reader.repeat" @0 .nil]),.A9 (.and (.cU (.cmp .lt (.fld @0 "at") (.blt .len #v[.fld @0 "text"]))) (.not (.cU (.dg "Reader" "sees" "Reader.sees" @0 #v[↑[124,41]])))) #v[.ex (.jL .append @1 #v[.dg "Reader" "repeat" "Reader.repeat" @0 .nil])],.ret (.call "joined" #v[↑[114,111,119],@1])]
abbrev iW:dC:=#v[.set 1 (.dg "Reader" "atom" "Reader.atom" @0 .nil),.A9 (.cU (.dg "Reader" "sees" "Reader.sees" @0 #v[↑[42,43,63]])) #v[.set 1 (.tup #v[.ix (.lit (.tab [([42],[115,116,97,114]),([43],[112,108,117,115]),([63],[109,97,121,98,101])])) (.dg "Reader" "passes" "Reader.passes" @0 #v[↑[42,43,63]]),@1])],.ret @1]
abbrev j9:dC:=#v[.ifs (.cU (.dg "Reader" "sees" "Reader.sees" @0 #v[↑[40]])) #v[.ret (.dg "Reader" "bracket" "Reader.bracket" @0 .nil)] .nil,.ifs (.cU (.dg "Reader" "sees" "Reader.sees" @0 #v[↑[91]])) #v[.ret (.tup #v[↑[111,110,101],.dg "Reader" "sign_class" "Reader.sign_class" @0 .nil])] .nil,.ifs (.cU (.dg "Reader" "sees" "Reader.sees" @0 #v[↑[46]])) #v[.ex (.dg "Reader" "passes" "Reader.passes" @0 #v[↑[46]]),.ret (.tup #v[↑[111,110,101],.call "all_but" #v[↑[10]]])] .nil,.ret (.tup #v[↑[111,110,101],.dg "Reader" "written_sign" "Reader.written_sign" @0 #v[↑[46,124,40,41,91,93,42,43,63,92]]])]
abbrev iA:dC:=#v[.ifs (.cU (.cmp .eq (.fld @0 "depth") ↑6)) #v[.ex (.ix (.lit .b7) (.lit .b7))] .nil,.ex (.dg "Reader" "passes" "Reader.passes" @0 #v[↑[40]]),.C5 @0 "depth" .add ↑1,.set 1 (.dg "Reader" "choice" "Reader.choice" @0 .nil),.ex (.dg "Reader" "passes" "Reader.passes" @0 #v[↑[41]]),.C5 @0 "depth" .sub ↑1,.ret @1]
abbrev fI:dC:=#v[.ex (.dg "Reader" "passes" "Reader.passes" @0 #v[↑[91]]),.set 1 (.dg "Reader" "sees" "Reader.sees" @0 #v[↑[94]]),.ifs (.cU @1) #v[.ex (.dg "Reader" "passes" "Reader.passes" @0 #v[↑[94]])] .nil,.set 2 (.dg "Reader" "item" "Reader.item" @0 .nil),.A9 (.not (.cU (.dg "Reader" "sees" "Reader.sees" @0 #v[↑[93]]))) #v[.aug 2 .add (.dg "Reader" "item" "Reader.item" @0 .nil)],.ex (.dg "Reader" "passes" "Reader.passes" @0 #v[↑[93]]),.ret (.C4 (.cU @1) (.call "all_but" #v[@2]) (.call "in_order" #v[@2]))]
abbrev kb:dC:=#v[.set 1 (.dg "Reader" "written_sign" "Reader.written_sign" @0 #v[↑[93,45,92]]),.ifs (.not (.cU (.dg "Reader" "sees" "Reader.sees" @0 #v[↑[45]]))) #v[.ret @1] .nil,.ex (.dg "Reader" "passes" "Reader.passes" @0 #v[↑[45]]),.set 2 (.fld @0 "at"),.set 3 (.dg "Reader" "written_sign" "Reader.written_sign" @0 #v[↑[93,45,92]]),.ifs (.cU (.call "is_ahead" #v[@3,@1])) #v[.ex (.ix (.lit .b7) (.lit .b7))] .nil,.ret (.call "stretch" #v[@1,@3])]
abbrev eQ:dC:=#v[.ifs (.not (.cU (.dg "Reader" "sees" "Reader.sees" @0 #v[↑[92]]))) #v[.ret (.dg "Reader" "passes" "Reader.passes" @0 #v[.call "all_but" #v[@1]])] .nil,.ex (.dg "Reader" "passes" "Reader.passes" @0 #v[↑[92]]),.set 2 (.dg "Reader" "passes" "Reader.passes" @0 #v[↑[46,124,40,41,91,93,42,43,63,92,45,94,110]]),.ret (.C4 (.cU (.cmp .eq @2 ↑[110])) ↑[10] @2)]
abbrev pJ:dC:=#v[.ifs (.cU (.cmp .eq (.ix @0 ↑0) ↑[111,114])) #v[.ret (.jL .join ↑[124] #v[.comp ϑ (.call "row_text" #v[@0]) (.val (.ix @0 ↑1)) (.cU (.lit (.bl ζ))) []])] .nil,.ret (.call "row_text" #v[@0])]
abbrev nM:dC:=#v[.ifs (.cU (.cmp .eq (.ix @0 ↑0) ↑[114,111,119])) #v[.ret (.jL .join (.lit (.str [])) #v[.comp ϑ (.call "repeat_text" #v[@0]) (.val (.ix @0 ↑1)) (.cU (.lit (.bl ζ))) []])] .nil,.ret (.call "repeat_text" #v[@0])]
abbrev kc:dC:=#v[.set 1 (.lit (.str [])),.set 2 @0,.A9 (.cU (.cmp .isin (.ix @2 ↑0) (.lit (.tab [([115,116,97,114],[42]),([112,108,117,115],[43]),([109,97,121,98,101],[63])])))) #v[.set 1 (.bin .add (.ix (.lit (.tab [([115,116,97,114],[42]),([112,108,117,115],[43]),([109,97,121,98,101],[63])])) (.ix @2 ↑0)) @1),.set 2 (.ix @2 ↑1)],.ret (.bin .add (.call "atom_text" #v[@2]) @1)]
abbrev md:dC:=#v[.ifs (.cU (.cmp .eq (.ix @0 ↑0) ↑[111,110,101])) #v[.ret (.call "place_text" #v[.ix @0 ↑1])] .nil,.ret (.bin .add (.bin .add ↑[40] (.call "written" #v[@0])) ↑[41])]
abbrev kQ:dC:=#v[.ifs (.cU (.cmp .eq (.blt .len #v[@0]) ↑1)) #v[.ret (.call "sign_text" #v[@0,↑[46,124,40,41,91,93,42,43,63,92]])] .nil,.ifs (.cU (.cmp .eq @0 (.call "all_but" #v[↑[10]]))) #v[.ret ↑[46]] .nil,.ret (.blt .vD #v[.call "class_texts" #v[@0]])]
abbrev me:dC:=#v[.ret (.C4 (.cU (.cmp .isin @0 @1)) (.bin .add ↑[92] @0) @0)]
abbrev ke:dC:=#v[.set 1 (.lst .nil),.ifs (.cU (.cmp .ne @0 (.lit (.str [])))) #v[.ex (.jL .append @1 #v[.bin .add (.bin .add ↑[91] (.call "guarded" #v[.call "class_items" #v[@0]])) ↑[93]])] .nil,.ifs (.cU (.cmp .ne @0 (.lit (.str SG)))) #v[.ex (.jL .append @1 #v[.bin .add (.bin .add ↑[91,94] (.jL .join (.lit (.str [])) #v[.call "class_items" #v[.call "all_but" #v[@0]]])) ↑[93]])] .nil,.ret @1]
abbrev pK:dC:=#v[.ifs (.not (.cU (.jL .startswith (.ix @0 ↑0) #v[↑[94]]))) #v[.ret (.jL .join (.lit (.str [])) #v[@0])] .nil,.ifs (.cU (.cmp .eq (.blt .len #v[@0]) ↑1)) #v[.ret (.bin .add ↑[92] (.ix @0 ↑0))] .nil,.ret (.bin .add (.jL .join (.lit (.str [])) #v[.sl @0 (.e ↑1) .no]) (.ix @0 ↑0))]
abbrev kf:dC:=#v[.set 1 (.lst .nil),.iu (.name 2) (.val (.call "runs" #v[@0])) #v[.ex (.jL .extend @1 #v[.call "run_items" #v[@2]])],.ret @1]
abbrev zr:dC:=#v[.set 1 (.lst .nil),.set 2 (.lit (.str [])),.iu (.name 3) (.val @0) #v[.ifs (.cU (.cmp .mU (.bin .add @2 @3) (.lit (.str SG)))) #v[.ex (.jL .append @1 #v[@2]),.set 2 (.lit (.str []))] .nil,.aug 2 .add @3],.ex (.jL .append @1 #v[@2]),.ret @1]
abbrev mf:dC:=#v[.set 1 (.comp ϑ (.call "sign_text" #v[@0,↑[93,45,92]]) (.val @0) (.cU (.lit (.bl ζ))) []),.set 2 (.bin .add (.bin .add (.call "sign_text" #v[.ix @0 ↑0,↑[93,45,92]]) ↑[45]) (.call "sign_text" #v[.ix @0 (.neg ↑1),↑[93,45,92]])),.ret (.C4 (.cU (.cmp .le (.blt .len #v[.jL .join (.lit (.str [])) #v[@1]]) (.blt .len #v[@2]))) @1 (.lst #v[@2]))]
end PL
namespace PL.uO
abbrev mh:dC:=#v[.ifs (.cU @0) #v[.ret (.ix @0 (.bin .mod @1 (.blt .len #v[@0])))] .nil,.ret ↑0]
abbrev nN:dC:=#v[.set 2 (.bin .mod (.bin .add (.call "_law_cell" #v[@0,@1]) (.bin .mul ↑104729 (.bin .add @1 ↑1))) ↑4294967291),.set 2 (.bin .mod (.bin .mul @2 ↑48271) ↑4294967279),.ret (.bin .mod (.bin .add (.bin .mul (.bin .fdiv @2 ↑64) ↑69621) @2) ↑4294967231)]
abbrev nO:dC:=#v[.set 0 (.lit (.str SG1)),.ret (.bin .add ↑[10] @0)]
end PL.uO
namespace PL.ni
abbrev mi:dC:=#v[.set 2 (.mk "Layout" "Layout.__init__" .nil),.iu (.pair 3 4) (.enum (.sl @0 .no (.e ↑6))) #v[.set 5 (.dg "Layout" "lay" "Layout.lay" @2 #v[.call "tree_of" #v[@4,@3]]),.ifs (.cU (.fld @5 "empty")) #v[.ex (.ix (.lit .b7) (.lit .b7))] .nil,.ifs (.cU (.cmp .gt (.dg "Layout" "how_many" "Layout.how_many" @2 .nil) @1)) #v[.ex (.ix (.lit .b7) (.lit .b7))] .nil,.ex (.dg "Layout" "close_rule" "Layout.close_rule" @2 #v[@5])],.ifs (.cU (.cmp .gt (.blt .len #v[@0]) ↑6)) #v[.ex (.ix (.lit .b7) (.lit .b7))] .nil,.ret (.mk "Places" "Places.__init__" #v[@2])]
abbrev pM:dC:=#v[.TX #v[.ret (.call "read" #v[@0])]]
abbrev pN:dC:=#v[.ret (.comp ϑ @0 (.range (.jL .nF @0 .nil)) (.cU (.bin .band (.bin .shr @1 @0) ↑1)) [0])]
abbrev mj:dC:=#v[.nG @0 "empty" @1,.nG @0 "firsts" @2,.nG @0 "lasts" @3]
abbrev f9:dC:=#v[.set 2 (.C4 (.cU (.fld @0 "empty")) (.bin .bor (.fld @0 "firsts") (.fld @1 "firsts")) (.fld @0 "firsts")),.set 3 (.C4 (.cU (.fld @1 "empty")) (.bin .bor (.fld @0 "lasts") (.fld @1 "lasts")) (.fld @1 "lasts")),.ret (.mk "Part" "Part.__init__" #v[.and (.fld @0 "empty") (.fld @1 "empty"),@2,@3])]
abbrev jw:dC:=#v[.ret (.mk "Part" "Part.__init__" #v[.or (.fld @0 "empty") (.fld @1 "empty"),.bin .bor (.fld @0 "firsts") (.fld @1 "firsts"),.bin .bor (.fld @0 "lasts") (.fld @1 "lasts")])]
abbrev kg:dC:=#v[.nG @0 "signs" (.lst #v[.lit (.str [])]),.nG @0 "behind" (.lst #v[↑0]),.nG @0 "ends" (.lst .nil)]
abbrev gH:dC:=#v[.ret (.bin .sub (.blt .len #v[.fld @0 "signs"]) ↑1)]
abbrev fJ:dC:=#v[.FU (.fld @0 "behind") ↑0 .bor (.fld @1 "firsts"),.ex (.jL .append (.fld @0 "ends") #v[.fld @1 "lasts"])]
abbrev kh:dC:=#v[.iu (.name 3) (.val (.call "members" #v[@1])) #v[.FU (.fld @0 "behind") @3 .bor @2]]
abbrev kR:dC:=#v[.ifs (.cU (.cmp .eq (.ix @1 ↑0) ↑[111,110,101])) #v[.ret (.dg "Layout" "lay_place" "Layout.lay_place" @0 #v[.ix @1 ↑1])] .nil,.ifs (.cU (.cmp .eq (.ix @1 ↑0) ↑[114,111,119])) #v[.ret (.dg "Layout" "lay_row" "Layout.lay_row" @0 #v[.ix @1 ↑1])] .nil,.ifs (.cU (.cmp .eq (.ix @1 ↑0) ↑[111,114])) #v[.ret (.dg "Layout" "lay_choice" "Layout.lay_choice" @0 #v[.ix @1 ↑1])] .nil,.ret (.dg "Layout" "lay_repeat" "Layout.lay_repeat" @0 #v[@1])]
abbrev gc:dC:=#v[.set 2 (.bin .shl ↑1 (.blt .len #v[.fld @0 "signs"])),.ex (.jL .append (.fld @0 "signs") #v[@1]),.ex (.jL .append (.fld @0 "behind") #v[↑0]),.ret (.mk "Part" "Part.__init__" #v[.lit (.bl ϑ),@2,@2])]
abbrev iB:dC:=#v[.set 2 (.mk "Part" "Part.__init__" #v[.lit (.bl ζ),↑0,↑0]),.iu (.name 3) (.val @1) #v[.set 4 (.dg "Layout" "lay" "Layout.lay" @0 #v[@3]),.ex (.dg "Layout" "link" "Layout.link" @0 #v[.fld @2 "lasts",.fld @4 "firsts"]),.set 2 (.call "one_behind_other" #v[@2,@4])],.ret @2]
abbrev fK:dC:=#v[.set 2 (.mk "Part" "Part.__init__" #v[.lit (.bl ϑ),↑0,↑0]),.iu (.name 3) (.val @1) #v[.set 2 (.call "one_or_other" #v[@2,.dg "Layout" "lay" "Layout.lay" @0 #v[@3]])],.ret @2]
abbrev fL:dC:=#v[.set 2 (.lst .nil),.set 3 @1,.A9 (.cU (.cmp .isin (.ix @3 ↑0) (.tup #v[↑[115,116,97,114],↑[112,108,117,115],↑[109,97,121,98,101]]))) #v[.ex (.jL .append @2 #v[.ix @3 ↑0]),.set 3 (.ix @3 ↑1)],.set 4 (.dg "Layout" "lay" "Layout.lay" @0 #v[@3]),.ifs (.or (.cU (.cmp .isin ↑[115,116,97,114] @2)) (.cU (.cmp .isin ↑[112,108,117,115] @2))) #v[.ex (.dg "Layout" "link" "Layout.link" @0 #v[.fld @4 "lasts",.fld @4 "firsts"])] .nil,.set 5 (.or (.fld @4 "empty") (.or (.cmp .isin ↑[115,116,97,114] @2) (.cmp .isin ↑[109,97,121,98,101] @2))),.ret (.mk "Part" "Part.__init__" #v[@5,.fld @4 "firsts",.fld @4 "lasts"])]
abbrev iX:dC:=#v[.set 1 (.blt .sum #v[.comp ζ (.bin .shl ↑1 @0) (.enum (.fld @0 "signs")) (.cU (.cmp .ne @1 (.lit (.str [])))) []]),.set 2 ↑0,.iu (.name 3) (.val (.fld @0 "ends")) #v[.aug 2 .bor (.bin .band @3 @1)],.set 4 ↑0,.A9 (.cU (.cmp .ne @2 @4)) #v[.set 4 @2,.iu (.name 5) (.val (.call "members" #v[@1])) #v[.ifs (.cU (.bin .band (.ix (.fld @0 "behind") @5) @4)) #v[.aug 2 .bor (.bin .shl ↑1 @5)] .nil]],.ret @4]
abbrev gf:dC:=#v[.ret (.blt .sum #v[.comp ζ (.bin .shl ↑1 @0) (.enum (.fld @0 "signs")) (.cU (.cmp .isin @2 @1)) [1]])]
abbrev ki:dC:=#v[.set 2 (.call "useful_places" #v[@1]),.nG @0 "behind" (.comp ϑ (.bin .band @0 @1) (.val (.fld @1 "behind")) (.cU (.lit (.bl ζ))) [2]),.nG @0 "ends" (.blt .list #v[.fld @1 "ends"]),.nG @0 "takers" (.blt .dict #v[.comp ϑ (.tup #v[@0,.call "places_that_take" #v[@1,@0]]) (.val (.lit (.str SG))) (.cU (.lit (.bl ζ))) [1]])]
abbrev iY:dC:=#v[.set 2 ↑0,.iu (.name 3) (.val (.call "members" #v[@1])) #v[.aug 2 .bor (.ix (.fld @0 "behind") @3)],.ret @2]
abbrev fM:dC:=#v[.iu (.pair 2 3) (.enum (.fld @0 "ends")) #v[.ifs (.cU (.bin .band @1 @3)) #v[.ret @2] .nil],.ret (.lit .b7)]
abbrev jx:dC:=#v[.ifs (.cU (.cmp .eq (.ix @0 ↑0) ↑[111,110,101])) #v[.ret (.lit (.bl ϑ))] .nil,.ifs (.cU (.cmp .eq (.ix @0 ↑0) ↑[114,111,119])) #v[.ret (.blt .all #v[.comp ϑ (.call "_law_nothing" #v[@0]) (.val (.ix @0 ↑1)) (.cU (.lit (.bl ζ))) []])] .nil,.ifs (.cU (.cmp .eq (.ix @0 ↑0) ↑[111,114])) #v[.ret (.blt .any #v[.comp ϑ (.call "_law_nothing" #v[@0]) (.val (.ix @0 ↑1)) (.cU (.lit (.bl ζ))) []])] .nil,.ret (.or (.cmp .isin (.ix @0 ↑0) (.tup #v[↑[115,116,97,114],↑[109,97,121,98,101]])) (.call "_law_nothing" #v[.ix @0 ↑1]))]
abbrev kj:dC:=#v[.ifs (.cU (.cmp .eq (.ix @0 ↑0) ↑[111,110,101])) #v[.ret (.C4 (.cU (.cmp .isin @1 (.ix @0 ↑1))) (.lst #v[.tup .nil]) (.lst .nil))] .nil,.ifs (.cU (.cmp .eq (.ix @0 ↑0) ↑[111,114])) #v[.set 2 (.lst .nil),.iu (.name 3) (.val (.ix @0 ↑1)) #v[.set 2 (.bin .add @2 (.call "_law_behind" #v[@3,@1]))],.ret @2] .nil,.ifs (.cU (.cmp .eq (.ix @0 ↑0) ↑[114,111,119])) #v[.set 2 (.lst .nil),.iu (.name 4) (.range (.blt .len #v[.ix @0 ↑1])) #v[.set 2 (.bin .add @2 (.comp ϑ (.bin .add @0 (.sl (.ix @1 ↑1) (.e (.bin .add @2 ↑1)) .no)) (.val (.call "_law_behind" #v[.ix (.ix @0 ↑1) @4,@1])) (.cU (.lit (.bl ζ))) [0,4])),.ifs (.not (.cU (.call "_law_nothing" #v[.ix (.ix @0 ↑1) @4]))) #v[.ret @2] .nil],.ret @2] .nil,.set 5 (.C4 (.cU (.cmp .eq (.ix @0 ↑0) ↑[109,97,121,98,101])) (.tup .nil) (.tup #v[.tup #v[↑[115,116,97,114],.ix @0 ↑1]])),.ret (.comp ϑ (.bin .add @0 @1) (.val (.call "_law_behind" #v[.ix @0 ↑1,@1])) (.cU (.lit (.bl ζ))) [5])]
abbrev kS:dC:=#v[.set 2 (.lst .nil),.iu (.name 3) (.val @0) #v[.iu (.name 4) (.val (.call "_law_behind" #v[.tup #v[↑[114,111,119],@3],@1])) #v[.ifs (.cU (.cmp .mU @4 @2)) #v[.ex (.jL .append @2 #v[@4])] .nil]],.ret @2]
abbrev oY:dC:=#v[.ret (.blt .any #v[.comp ϑ (.call "_law_nothing" #v[.tup #v[↑[114,111,119],@0]]) (.val @0) (.cU (.lit (.bl ζ))) []])]
abbrev kT:dC:=#v[.set 3 (.call "_law_mix" #v[@0,@1]),.set 4 (.bin .mod @3 ↑9),.ifs (.or (.cU (.cmp .eq @2 ↑0)) (.cU (.cmp .lt @4 ↑4))) #v[.ret (.tup #v[↑[111,110,101],.ix (.lst #v[↑[97],↑[98],↑[99],↑[97,98],↑[98,99],.call "_law_all" .nil,↑[97],↑[98],↑[48],.lit (.str [])]) (.bin .mod (.bin .fdiv @3 ↑9) ↑10)])] .nil,.ifs (.cU (.cmp .lt @4 ↑7)) #v[.set 5 (.comp ϑ (.call "_law_small" #v[@1,.bin .add (.bin .add (.bin .mul ↑2 @2) ↑1) @0,.bin .sub @3 ↑1]) (.range ↑2) (.cU (.lit (.bl ζ))) [0,1,2]),.ret (.tup #v[.ix (.lst #v[↑[114,111,119],↑[111,114],↑[114,111,119]]) (.bin .sub @4 ↑4),.blt .tuple #v[@5]])] .nil,.ret (.tup #v[.ix (.lst #v[↑[115,116,97,114],↑[112,108,117,115],↑[109,97,121,98,101]]) (.bin .mod (.bin .fdiv @3 ↑9) ↑3),.call "_law_small" #v[@0,.bin .add (.bin .mul ↑2 @1) ↑1,.bin .sub @2 ↑1]])]
abbrev kU:dC:=#v[.set 4 (.lst .nil),.iu (.name 5) (.range @2) #v[.set 6 (.call "_law_small" #v[@0,.bin .add @1 (.bin .mul ↑9 @5),@3]),.ifs (.cU (.call "_law_nothing" #v[@6])) #v[.set 6 (.tup #v[↑[114,111,119],.tup #v[.tup #v[↑[111,110,101],.ix ↑[97,98,99] (.bin .mod @5 ↑3)],@6]])] .nil,.ex (.jL .append @4 #v[@6])],.ret @4]
end PL.ni
namespace PL.uD
abbrev nP:dC:=#v[.ret (.call "smallest" #v[.call "spread" #v[.call "places_of" #v[@0,↑10]]])]
abbrev kW:dC:=#v[.nG @0 "takes" (.blt .list #v[@1]),.nG @0 "told" (.blt .tuple #v[@1]),.nG @0 "rows" @2]
abbrev X8:dC:=#v[.ifs (.cU (.cmp .ne @7 ↑0)) #v[.ox @5 @6 (.Hh @2 @7)] .nil]
abbrev ZL:dC:=(.cons (.set 7 (.bin .band @4 (.Hh (.fld @0 "takers") @6))) (.cons (.ifs (.and (.cU (.cmp .ne @7 ↑0)) (.cU (.cmp .C3 @7 @2))) #v[.ox @2 @7 (.blt .len #v[@1]),.ex (.jL .append @1 #v[@7])] .nil) X8))
abbrev ZM:dC:=#v[.set 4 (.dg "Places" "beyond" "Places.beyond" @0 #v[.ix @1 (.blt .len #v[@3])]),.set 5 (.eh .nil .nil),.iu (.name 6) (.val (.lit (.str SG))) ZL,.ex (.jL .append @3 #v[@5])]
abbrev ZN:dC:=#v[.ret (.mk "Table" "Table.__init__" #v[.comp ϑ (.dg "Places" "first_rule" "Places.first_rule" @1 #v[@0]) (.val @1) (.cU (.lit (.bl ζ))) [0],@3])]
abbrev rM:dC:=(.cons (.set 1 (.lst #v[↑1])) (.cons (.set 2 (.eh #v[↑1] #v[↑0])) (.cons (.set 3 (.lst .nil)) (.cons (.A9 (.cU (.cmp .lt (.blt .len #v[@3]) (.blt .len #v[@1]))) ZM) ZN))))
abbrev ZO:Ex:=.blt .dict #v[.comp ϑ (.tup #v[@0,.ix @1 (.Hh @2 @0)]) (.keys @5) (.cU (.lit (.bl ζ))) [1,5]]
abbrev ZP:dC:=#v[.ifs (.cU (.cmp .eq (.ix @1 @4) (.blt .len #v[@3]))) #v[.ex (.jL .append @2 #v[.ix (.fld @0 "told") @4]),.ex (.jL .append @3 #v[ZO])] .nil]
abbrev nQ:dC:=#v[.set 1 (.ix (.call "rounds" #v[.bin .add (.fld @0 "told") (.tup #v[.lit .b7]),.call "with_nowhere" #v[.fld @0 "rows"]]) (.neg ↑1)),.set 2 (.lst .nil),.set 3 (.lst .nil),.iu (.pair 4 5) (.enum (.fld @0 "rows")) ZP,.ret (.mk "Table" "Table.__init__" #v[@2,@3])]
abbrev ZQ:Ex:=.blt .dict #v[.comp ϑ (.tup #v[@0,.jL .get @1 #v[@0,@2]]) (.val (.lit (.str SG))) (.cU (.lit (.bl ζ))) [0,1]]
abbrev jz:dC:=#v[.set 1 (.blt .len #v[@0]),.ret (.comp ϑ ZQ (.val (.bin .add @0 (.lst #v[.eh .nil .nil]))) (.cU (.lit (.bl ζ))) [1])]
abbrev rN:dC:=#v[.set 2 (.call "telling_signs" #v[@1]),.set 3 (.lst #v[.call "numbered" #v[@0]]),.A9 (.cU (.lit (.bl ζ))) #v[.set 4 (.call "parted" #v[.ix @3 (.neg ↑1),@1,@2]),.ifs (.cU (.cmp .eq (.blt .max #v[@4]) (.blt .max #v[.ix @3 (.neg ↑1)]))) #v[.ret @3] .nil,.ex (.jL .append @3 #v[@4])]]
abbrev ZR:Ex:=.comp ϑ (.ix @1 (.Hh @2 @0)) (.val @2) (.cU (.lit (.bl ζ))) [0,5]
abbrev rO:dC:=#v[.set 3 (.lst .nil),.iu (.pair 4 5) (.enum @1) #v[.ex (.jL .append @3 #v[.tup #v[.ix @0 @4,.blt .tuple #v[ZR]]])],.ret (.call "numbered" #v[@3])]
abbrev nU:dC:=#v[.set 1 (.eh .nil .nil),.ret (.comp ϑ (.jL .ox @1 #v[@0,.blt .len #v[@1]]) (.val @0) (.cU (.lit (.bl ζ))) [1])]
abbrev iZ:dC:=#v[.set 1 (.eh .nil .nil),.iu (.name 2) (.val (.lit (.str SG))) #v[.ex (.jL .ox @1 #v[.blt .tuple #v[.comp ϑ (.Hh @0 @1) (.val @0) (.cU (.lit (.bl ζ))) [2]],@2])],.ret (.jL .vals @1 .nil)]
abbrev kX:dC:=#v[.iu (.name 2) (.range (.blt .len #v[@0])) #v[.set 3 (.lst #v[.tup #v[.ix @0 @2]]),.iu (.name 4) (.val @1) #v[.set 3 (.call "_law_rests" #v[@3,@4])],.ifs (.cU (.call "_law_ends" #v[@3])) #v[.ret @2] .nil],.ret (.lit .b7)]
end PL.uD
namespace PL.Lp
abbrev kY:dC:=#v[.set 2 (.call "table_of" #v[@0]),.set 3 (.call "table_of" #v[@1]),.set 4 (.bin .add (.bin .add (.fld @2 "told") (.fld @3 "told")) (.tup #v[.lit .b7])),.set 5 (.call "with_nowhere" #v[.bin .add (.fld @2 "rows") (.call "moved" #v[.fld @3 "rows",.dg "Table" "size" "Table.size" @2 .nil])]),.ret (.call "text_apart" #v[.call "rounds" #v[@4,@5],@5,.tup #v[↑0,.dg "Table" "size" "Table.size" @2 .nil]])]
abbrev kZ:dC:=#v[.ret (.blt .len #v[.fld @0 "told"])]
abbrev ZS:Ex:=.blt .dict #v[.comp ϑ (.tup #v[@0,.bin .add (.Hh @1 @0) @2]) (.keys @0) (.cU (.lit (.bl ζ))) [0,1]]
abbrev uP:dC:=#v[.ret (.comp ϑ ZS (.val @0) (.cU (.lit (.bl ζ))) [1])]
abbrev X9:dC:=#v[.aug 4 .add (.call "sign_apart" #v[@6,@1,@5]),.set 5 (.call "states_behind" #v[@1,@5,.ix @4 (.neg ↑1)])]
abbrev k5:dC:=#v[.set 3 ↑0,.A9 (.and (.cU (.cmp .lt @3 (.blt .len #v[@0]))) (.not (.cU (.call "are_apart" #v[.ix @0 @3,@2])))) #v[.aug 3 .add ↑1],.ifs (.cU (.cmp .eq @3 (.blt .len #v[@0]))) #v[.ret (.lit .b7)] .nil,.set 4 (.lit (.str [])),.set 5 @2,.iu (.name 6) (.rev (.sl @0 .no (.e @3))) X9,.ret @4]
abbrev mm:dC:=#v[.ret (.cmp .ne (.ix @0 (.ix @1 ↑0)) (.ix @0 (.ix @1 ↑1)))]
abbrev i3:dC:=#v[.ret (.tup #v[.Hh (.ix @0 (.ix @1 ↑0)) @2,.Hh (.ix @0 (.ix @1 ↑1)) @2])]
abbrev pSa:Ex:=.comp ϑ @0 (.val (.lit (.str SG))) (.cU (.call "are_apart" #v[@1,.call "states_behind" #v[@2,@3,@0]])) [0,1,2]
abbrev k6:dC:=#v[.ret (.ix pSa ↑0)]
abbrev ZT:Ex:=(.comp ϑ (.bin .add (.bin .add ↑[40] @0) ↑[41]) (.val (.ix @1 ↑0)) (.cU (.lit (.bl ζ))) [])
end PL.Lp
namespace PL.Hi
abbrev k7:dC:=#v[.ret (.blt .tuple #v[.comp ϑ (.blt .tuple #v[.call "_law_rests" #v[@0,@1]]) (.val @0) (.cU (.lit (.bl ζ))) [1]])]
abbrev k8:dC:=#v[.set 1 (.comp ϑ @0 (.range (.blt .len #v[@0])) (.cU (.call "_law_ends" #v[.ix @1 @0])) [0]),.ret (.C4 (.cU @1) (.ix @1 ↑0) (.lit .b7))]
abbrev ZU:Ex:=(.comp ϑ (.tup #v[.tup #v[@0]]) (.val @0) (.cU (.lit (.bl ζ))) [])
abbrev pZd:Ex:=(.comp ϑ (.tup #v[.tup #v[@0]]) (.val @1) (.cU (.lit (.bl ζ))) [])
abbrev ZV:dC:=#v[.set 8 (.tup #v[.call "_law_steps" #v[.ix @6 ↑1,@7],.call "_law_steps" #v[.ix @6 ↑2,@7]]),.ifs (.cU (.cmp .mU @8 @5)) #v[.ex (.jL .append @5 #v[@8]),.ex (.jL .append @4 #v[.bin .add (.tup #v[.bin .add (.ix @6 ↑0) @7]) @8])] .nil]
abbrev ZW:dC:=#v[.ifs (.cU (.cmp .lt (.blt .len #v[.ix @6 ↑0]) @3)) #v[.iu (.name 7) (.val ↑[48,97,98,99]) ZV] .nil]
abbrev pZw:dC:=(.cons (.set 6 (.jL .pop @4 #v[↑0])) (.cons (.ifs (.and (.cU (.cmp .C2 @2 (.lit .b7))) (.cU (.cmp .TV (.tup #v[.blt .len #v[.ix @6 ↑0],.ix @6 ↑0]) (.tup #v[.blt .len #v[@2],@2])))) #v[.ret (.lit (.bl ϑ))] .nil) (.cons (.ifs (.cU (.cmp .ne (.call "_law_tells" #v[.ix @6 ↑1]) (.call "_law_tells" #v[.ix @6 ↑2]))) #v[.ret (.lit (.bl ζ))] .nil) ZW)))
abbrev jA:dC:=#v[.set 4 (.lst #v[.tup #v[.lit (.str []),.blt .tuple #v[ZU],.blt .tuple #v[pZd]]]),.set 5 (.lst #v[.sl (.ix @4 ↑0) (.e ↑1) .no]),.A9 (.cU @4) pZw,.ret (.lit (.bl ϑ))]
abbrev ZX:Ex:=(.comp ϑ (.call "written" #v[@0]) (.val @2) (.cU (.lit (.bl ζ))) [])
abbrev pZb:Ex:=(.comp ϑ (.call "written" #v[@0]) (.val @3) (.cU (.lit (.bl ζ))) [])
abbrev pZt:dC:=#v[.ifs (.or (.not (.cU (.Vd @6))) (.cU (.cmp .eq (.call "_law_first" #v[@2,@6]) (.call "_law_first" #v[@3,@6])))) #v[.ret (.lit (.bl ϑ))] .nil,.ret (.not (.call "_law_earlier" #v[@2,@3,@6,↑4]))]
abbrev ZY:dC:=(.cons (.set 6 (.call "difference" #v[ZX,pZb])) (.cons (.ifs (.cU (.cmp .Qz @6 (.lit .b7))) #v[.ret (.not (.call "_law_earlier" #v[@2,@3,.lit .b7,↑4]))] .nil) pZt))
abbrev ZZ:dC:=#v[.set 3 (.blt .list #v[@2]),.set 4 (.bin .mod (.call "_law_mix" #v[@0,↑53]) (.blt .len #v[@3])),.set 5 (.tup #v[↑[111,114],.tup #v[.ix @3 @4,.tup #v[↑[111,110,101],↑[48,97,98,99]]]]),.Iz @3 @4 (.ix (.lst #v[@5,.tup #v[↑[112,108,117,115],.ix @3 @4],.ix @3 @4]) (.bin .mod (.call "_law_mix" #v[@0,↑54]) ↑3))]
abbrev Et:dC:=(.cons (.set 1 (.bin .add ↑1 (.bin .mod (.call "_law_mix" #v[@0,↑50]) ↑2))) (.cons (.set 2 (.call "_law_trees" #v[@0,↑0,@1,.bin .sub ↑3 @1])) (.cons (.set 3 (.call "_law_trees" #v[@0,↑20,.bin .add ↑1 (.bin .mod (.call "_law_mix" #v[@0,↑51]) ↑2),↑1])) (.cons (.ifs (.cU (.cmp .eq (.bin .mod (.call "_law_mix" #v[@0,↑52]) ↑2) ↑0)) ZZ .nil) ZY))))
end PL.Hi
namespace L2
open PySem
open PL (U SO bG KU Spec bY)
structure Tab where
 const:List (String×U)
 fns:List String
 qH:List String
 qI:List (String×String)
 zt:List String
 i7:List String
structure Inf where
 names:List (Str×NameKind)
 N:List Str
 calm:Bool
abbrev pick(l:List String)(x:Str):Option String:=l.find? λs=>cj s==x
abbrev Bl{α:Type}(l:List (String×α))(x:Str):Option (String×α):=l.find? λs=>cj s.1==x
abbrev eM(x:Str):List Str->Option Nat
 |[]=>ψ
 |y::ys=>if y=x then ξ 0 else(eM x ys).map (·+1)
abbrev QW:Option NameKind->Bool
 |some .local=>ζ
 |some .cell=>ζ
 |some .free=>ζ
 |_=>ϑ
abbrev Inf.gl(I:Inf)(x:Str):Bool:=I.names.lookup x==ξ .globalImplicit
abbrev Vs:nj->Option PL.FT
 |.Add=>ξ .add|.Sub=>ξ .sub|.Mult=>ξ .mul|.FloorDiv=>ξ .fdiv|.Mod=>ξ .mod|.BitAnd=>ξ .band|.BitOr=>ξ .bor|.LShift=>ξ .shl|.RShift=>ξ .shr|_=>ψ
abbrev Z3:CmpOp->Option PL.OI
 |.Eq=>ξ .eq|.NotEq=>ξ .ne|.Lt=>ξ .lt|.LtE=>ξ .le|.Gt=>ξ .gt|.GtE=>ξ .ge|.In=>ξ .isin|.NotIn=>ξ .mU|.Is=>ξ .Qz|.IsNot=>ξ .C2
abbrev Lq:Expr->Option Str
 |.Name x _=>ξ x
 |_=>ψ
def Vt:∀e,(∃x p,e=Lh x p)\/Lq e=ψ:=by
 intro e;cases e<;>first|exact .inr rfl|exact .inl #[_,_,rfl]
def Eu(h:Lq e=ξ x):∃p,e=.Name x p:=by
 rcases Vt e with⟨y,p,rfl⟩|e
 .exact#[p,congrArg (Lh · p) (aH h)]
 .erw[nn (e.symm.trans h)]
abbrev dkE(e:Expr):Bool:=Lq e==ξ ("sign":Str)||Lq e==ξ ("held":Str)
abbrev Z4:CmpOp->Bool
 |.NotIn=>ζ
 |_=>ϑ
abbrev Z5:CmpOp->Bool
 |.GtE=>ζ
 |_=>ϑ
abbrev Z6:Expr->Bool
 |.Tuple ..=>ζ
 |_=>ϑ
abbrev T3(op:CmpOp)(b:Expr):Option PL.OI:=if Z4 op&&Lq b==ξ ("numbers":Str) then ξ .C3 else if Z5 op&&Z6 b then ξ .TV else Z3 op
abbrev QX:Expr->Option Expr
 |.Call (.Attribute o m ap) [] [] cp=>if m==("values":Str)&&ap.endLine==cp.line then ξ o else ψ
 |_=>ψ
abbrev Ya:Expr->Option (Str×Expr)
 |.Call f [a] [] _=>(Lq f).map λx=>(x,a)
 |_=>ψ
def Vu:∀e,(∃f as ks p,e=Expr.Call f as ks p)\/Ya e=ψ:=by
 intro e;cases e<;>first|exact .inr rfl|exact .inl #[_,_,_,_,rfl]
def OT(h:Ya e=ξ (x,a)):∃p q,e=.Call (.Name x p) [a] [] q:=by
 rcases Vu e with⟨f,as,ks,q,rfl⟩|e
 .cases as with
  |nil=>erw[nn h]
  |cons a as=>cases as with
   |cons=>erw[nn h]
   |nil=>cases ks with
    |cons=>erw[nn h]
    |nil=>
     let#[y,h1,h2]:=au.mp h;cases h2;let#[p,rfl]:=Eu h1;exact#[p,q,rfl]
 .erw[nn (e.symm.trans h)]
abbrev Yb(T:Tab)(I:Inf)(e:Expr):Bool:=match Lq e with
 |some x=>I.gl x&&(x==("str":Str)&&T.i7.contains "str")
 |none=>ϑ
abbrev rP(I : Inf)(names : List (Str×NameKind)) : List (Str×NameKind) := names.map λ(n, k) => if k==bR&&I.names.lookup n==ξ .cell then (n, .cell) else (n, k)
abbrev vK(I:Inf)(sc:kC)(xs:List Str):Bool:=
 sc.kind==.function&&sc.names.all (λy=>y.2 !=.cell||sc.names.lookup y.1==ξ .cell)&&sc.names.all (λy=>y.2 !=.local||sc.names.lookup y.1==ξ .local)&&sc.names.all (λy=>y.2 !=.free||I.names.lookup y.1==ξ .cell)
  && xs.all (λx=>sc.names.lookup x==ξ .local||sc.names.lookup x==ξ .cell)&&decide xs.Nodup
abbrev iQ(I:Inf)(sc:kC):List Str:=I.N.filter λy=>sc.names.lookup y==ξ .free
abbrev MP:Expr->Option (List Str)
 |.Name x _=>ξ [x]
 |.Tuple [a,b] _ _=>(Lq a).bind λx=>(Lq b).map λy=>[x,y]
 |_=>ψ
abbrev noStar:Expr->Bool
 |.Starred ..=>ϑ
 |_=>ζ
abbrev zu:Expr->Bool
 |.ListComp ..=>ϑ
 |.SetComp ..=>ϑ
 |.DictComp ..=>ϑ
 |_=>ζ
abbrev k9:Expr->Bool
 |.Slice ..=>ϑ
 |_=>ζ
abbrev gI:Expr->Bool
 |.Call (.Name _ _) [] [] _=>ϑ
 |_=>ζ
abbrev QY:Str->Option PL.Vc:=λx=>
 if x==("len":Str) then ξ .len else if x==("tuple":Str) then ξ .tuple else if x==("list":Str) then ξ .list
 else if x==("all":Str) then ξ .all else if x==("sum":Str) then ξ .sum else if x==("any":Str) then ξ .any else if x==("dict":Str) then ξ .dict else if x==("max":Str) then ξ .max else ψ
abbrev QZ:Str->Option PL.OJ:=λx=>
 if x==("join":Str) then ξ .join else if x==("index":Str) then ξ .index else if x==("append":Str) then ξ .append else if x==("extend":Str) then ξ .extend else if x==("startswith":Str) then ξ .startswith else if x==("setdefault":Str) then ξ .ox else if x==("pop":Str) then ξ .pop else ψ
abbrev Z7:Const->Option U
 |.none=>ξ .b7
 |.bool b=>ξ (.bl b)
 |.int i=>ξ (.int i)
 |.str x=>ξ (.str x.cps.toList)
 |_=>ψ
abbrev IV(I:Inf)(k:oI):Bool:=match k with
 |⟨kw,v,_⟩=>kw==ξ ("key":Str)&&(match v with
  |.Name l _=>l==("len":Str)&&I.gl l
  |_=>ϑ)
structure CF where
 e:Inf->Expr->Option PL.Ex
 es:Inf->List Expr->Option PL.Aq
 bo:Inf->BoolOp->List Expr->Option PL.Ex
 o:Inf->Option Expr->Option PL.Ox
 i:Inf->Expr->Option PL.It
 n:Inf->Expr->Option PL.It
 t:Inf->Expr->Option PL.Tx
 tb:Inf->BoolOp->List Expr->Option PL.Tx
abbrev T4(T:Tab)(F:CF)(I:Inf)(e:Expr):Option PL.Ex:=match e with
  |.Name x _=>match eM x I.N with
   |some i=>if QW (I.names.lookup x)&&x !=("__debug__":Str)&&x !=("__classdict__":Str) then ξ (.var i) else ψ
   |none=>if I.gl x&&x !=("__debug__":Str) then(Bl T.const x).map λp=>.lit p.2 else ψ
  |.Constant c _ _=>(Z7 c).map .lit
  |.BinOp a op b _=>do
   let o <-Vs op
   let x <-F.e I a
   let y <-F.e I b
   ξ (.bin o x y)
  |.UnaryOp op a _=>(match op with
   |.USub=>(F.e I a).map .neg
   |.Not=>(F.e I a).map .not
   |_=>ψ)
  |.BoolOp op vs _=>F.bo I op vs
  |.Compare a ops bs _=>(match ops with
   |[op]=>(match bs with
    |[b]=>do
     let o <-T3 op b
     let x <-F.e I a
     let y <-F.e I b
     ξ (.cmp o x y)
    |_=>ψ)
   |_=>ψ)
  |.IfExp t a b _=>do
   let c <-F.t I t
   let x <-F.e I a
   let y <-F.e I b
   ξ (.C4 c x y)
  |.Call f args kws cp=>(match f with
   |.Name f _=>(match kws with
    |[]=>if I.gl f&&f !=("__debug__":Str) then
      if f==("isinstance":Str)&&T.i7.contains "isinstance" then(match args with
       |[a,t]=>if !noStar a then ψ else if Yb T I t then(F.e I a).map .Vd else ψ
       |_=>ψ)
      else match QY f with
      |some b=>(match (match args with|[a]=>QX a|_=>ψ) with
       |some o=>if f==("list":Str)&&T.i7.contains "list"&&I.calm&&gI o then(F.e I o).map λx=>.jL .vals x .nil else ψ
       |none=>if (pick T.i7 f).isSome && !args.isEmpty&&I.calm then(F.es I args).map (.blt b) else ψ)
      |none=>if !I.calm then ψ else match pick T.fns f with
       |some q=>(F.es I args).map (.call q)
       |none=>match pick T.qH f with
        |some q=>(F.es I args).map (.mk q (q++".__init__"))
        |none=>ψ
     else ψ
    |kw::ks=>(match args with
     |[a]=>if ks.isEmpty&&f==("min":Str)&&IV I kw&&I.gl f&&T.i7.contains "min"&&T.i7.contains "len"&&I.calm&&noStar a then(F.e I a).map λx=>.blt .vD (.cons x .nil) else ψ
     |_=>ψ))
   |.Attribute o m ap=>if !(kws.isEmpty&&gI o&&ap.endLine==cp.line&&decide (args.length<20)&&I.calm) then ψ else
    match Bl T.qI m with
    |some (q,k)=>do
     let x <-F.e I o
     let as <-F.es I args
     ξ (.dg k q (k++"."++q) x as)
    |none=>(match args with
     |[]=>if m==("bit_length":Str) then(F.e I o).map λx=>.jL .nF x .nil else ψ
     |a::as=>if m==("get":Str) then(match as with
       |[d]=>if noStar a&&noStar d then do
         let x <-F.e I o
         let y <-F.e I a
         let z <-F.e I d
         ξ (.jL .get x (.cons y (.cons z .nil)))
        else ψ
       |[]=>if noStar a then do
         let x <-F.e I o
         let y <-F.e I a
         ξ (.jL .get x (.cons y .nil))
        else ψ
       |_=>ψ)
      else match QZ m with
      |some b=>do
       let x <-F.e I o
       let as <-F.es I (a::as)
       ξ (.jL b x as)
      |none=>ψ)
   |_=>ψ)
  |.Attribute o f _=>if !gI o then ψ else do
   let q <-pick T.zt f
   let x <-F.e I o
   ξ (.fld x q)
  |.Subscript o i _=>if k9 i then do
    let x <-F.e I o
    let y <-F.e I i
    ξ (if dkE i then .Hh x y else .ix x y)
   else(match i with
   |.Slice lo hi st _=>(match st with
    |none=>do
     let x <-F.e I o
     let a <-F.o I lo
     let b <-F.o I hi
     ξ (.sl x a b)
    |some _=>ψ)
   |_=>ψ)
  |.Dict ks vs _=>(match ks with
   |[]=>(match vs with
    |[]=>ξ (.eh .nil .nil)
    |_=>ψ)
   |[ξ k]=>(match vs with
    |[v]=>do
     let x <-F.e I k
     let y <-F.e I v
     ξ (.eh (.cons x .nil) (.cons y .nil))
    |_=>ψ)
   |_=>ψ)
  |.List es _=>(F.es I es).map .lst
  |.Tuple es _ _=>(F.es I es).map .tup
  |.ListComp elt gs sc _=>(match gs with
   |[g]=>(match g with
    |⟨tg,iter,ifs,as⟩=>match MP tg with
     |some xs=>if vK I sc xs&&I.calm&&as==0 then do
       let it <-(match xs with
        |[_]=>F.i I iter
        |_=>F.n I iter)
       let cn:=iQ I sc
       let J:Inf:=#[rP I sc.names,xs++cn,ζ]
       let c <-(match ifs with
        |[]=>ξ (PL.Tx.cU (.lit (.bl ζ)))
        |[c]=>F.t J c
        |_=>ψ)
       let e <-F.e J elt
       let ci <-cn.mapM λy=>eM y I.N
       ξ (.comp (xs.length==2) e it c ci)
      else ψ
     |none=>ψ)
   |_=>ψ)
  |_=>ψ
abbrev IW(F:CF)(I:Inf):List Expr->Option PL.Aq
 |[]=>ξ .nil
 |e::es=>if !noStar e then ψ else do
  let x <-F.e I e
  let xs <-F.es I es
  ξ (.cons x xs)
abbrev IX(F:CF)(I:Inf)(op:BoolOp):List Expr->Option PL.Ex
 |[]=>ψ
 |[a]=>F.e I a
 |a::b::r=>do
  let x <-F.e I a
  let y <-F.bo I op (b::r)
  ξ (match op with|.And=>.and x y|.Or=>.or x y)
abbrev Yc(F:CF)(I:Inf):Option Expr->Option PL.Ox
 |none=>ξ .no
 |some e=>(F.e I e).map .e
abbrev stI(T:Tab)(F:CF)(I:Inf)(e:Expr):Option PL.It:=match Ya e with
  |some (f,a)=>if f==("range":Str) then(if I.gl f&&T.i7.contains "range" then(F.e I a).map .range else ψ) else if f==("reversed":Str) then(if I.gl f&&T.i7.contains "reversed" then(F.e I a).map .rev else ψ) else(F.e I e).map .val
  |none=>if Lq e==ξ ("row":Str) then(F.e I e).map .keys else(F.e I e).map .val
abbrev stN(T:Tab)(F:CF)(I:Inf)(e:Expr):Option PL.It:=match Ya e with
  |some (f,a)=>if f==("enumerate":Str)&&I.gl f&&T.i7.contains "enumerate"&&noStar a then(F.e I a).map .enum else ψ
  |none=>ψ
abbrev stT(F:CF)(I:Inf)(e:Expr):Option PL.Tx:=match e with
  |.UnaryOp .Not a _=>(F.t I a).map .not
  |.BoolOp op vs _=>F.tb I op vs
  |.IfExp ..=>ψ
  |.Compare a [op] [b] _=>do
   let o <-T3 op b
   let x <-F.e I a
   let y <-F.e I b
   ξ (.cU (.cmp o x y))
  |.Compare ..=>ψ
  |_=>(F.e I e).map .cU
abbrev IY(F:CF)(I:Inf)(op:BoolOp):List Expr->Option PL.Tx
 |[]=>ψ
 |[a]=>F.t I a
 |a::b::r=>do
  let x <-F.t I a
  let y <-F.tb I op (b::r)
  ξ (match op with|.And=>.and x y|.Or=>.or x y)
abbrev rQ(T:Tab):Nat->CF
 |0=>#[λ_ _=>ψ,λ_ _=>ψ,λ_ _ _=>ψ,λ_ _=>ψ,λ_ _=>ψ,λ_ _=>ψ,λ_ _=>ψ,λ_ _ _=>ψ]
 |n+1=>#[T4 T (rQ T n),IW (rQ T n),IX (rQ T n),Yc (rQ T n),stI T (rQ T n),stN T (rQ T n),stT (rQ T n),IY (rQ T n)]
@[reducible]def cE(T:Tab)(n:Nat):Inf->Expr->Option PL.Ex:=(rQ T n).e
@[reducible]def T5(T:Tab)(n:Nat):Inf->List Expr->Option PL.Aq:=(rQ T n).es
@[reducible]def Yd(T:Tab)(n:Nat):Inf->BoolOp->List Expr->Option PL.Ex:=(rQ T n).bo
@[reducible]def cO(T:Tab)(n:Nat):Inf->Option Expr->Option PL.Ox:=(rQ T n).o
@[reducible]def cI(T:Tab)(n:Nat):Inf->Expr->Option PL.It:=(rQ T n).i
@[reducible]def cN(T:Tab)(n:Nat):Inf->Expr->Option PL.It:=(rQ T n).n
@[reducible]def cT(T:Tab)(n:Nat):Inf->Expr->Option PL.Tx:=(rQ T n).t
@[reducible]def Ye(T:Tab)(n:Nat):Inf->BoolOp->List Expr->Option PL.Tx:=(rQ T n).tb
section
variable{T:Tab}{n:Nat}{I:Inf}{x:Expr}{xs:List Expr}{p:BoolOp}{y:Option Expr}
def Vv:cE T 0 I x=ψ:=rfl
def MQ:cE T (n+1) I x=T4 T (rQ T n) I x:=rfl
def OU:T5 T 0 I xs=ψ:=rfl
def IZ:T5 T (n+1) I xs=IW (rQ T n) I xs:=rfl
def Vw:Yd T 0 I p xs=ψ:=rfl
def I9:Yd T (n+1) I p xs=IX (rQ T n) I p xs:=rfl
def Z8:cO T 0 I y=ψ:=rfl
def Vx:cO T (n+1) I y=Yc (rQ T n) I y:=rfl
def Z9:cI T 0 I x=ψ:=rfl
def aaa:cI T (n+1) I x=stI T (rQ T n) I x:=rfl
def aab:cN T 0 I x=ψ:=rfl
def aac:cN T (n+1) I x=stN T (rQ T n) I x:=rfl
def aad:cT T 0 I x=ψ:=rfl
def aae:cT T (n+1) I x=stT (rQ T n) I x:=rfl
def Vy:Ye T 0 I p xs=ψ:=rfl
def Ja:Ye T (n+1) I p xs=IY (rQ T n) I p xs:=rfl
end
abbrev cIf(T:Tab)(n:Nat)(J:Inf)(ifs:List Expr):Option PL.Tx:=match ifs with
 |[]=>ξ (PL.Tx.cU (.lit (.bl ζ)))
 |[c]=>cT T n J c
 |_=>ψ
def vL(h:cE T (n+1) I (.ListComp elt gs sc pos)=ξ x):
  ∃tg iter ifs xs it c ee ci,gs=[#[tg,iter,ifs,0]]/\MP tg=ξ xs/\(vK I sc xs=ζ/\I.calm=ζ)/\((∃y,xs=[y])/\cI T n I iter=ξ it\/(¬ ∃y,xs=[y])/\cN T n I iter=ξ it)/\cIf T n #[rP I sc.names,xs++iQ I sc,ζ] ifs=ξ c /\
   cE T n #[rP I sc.names,xs++iQ I sc,ζ] elt=ξ ee/\(iQ I sc).mapM (λy=>eM y I.N)=ξ ci/\x=.comp (xs.length==2) ee it c ci:=by
 rw[MQ] at h
 delta T4 at h
 dsimp only at h;split at h
 .rename_i g
  let#[tg,iter,ifs,as]:=g;dsimp only at h;split at h
  .rename_i xs ht
   split at h
   .rename_i hc
    dsimp[ar] at hc;dsimp[aM,aE] at h;let#[it,h1,c,h2,ee,h3,ci,h4,h5]:=h;injection h5 with h5
    have e0:as=0:=eq_of_beq hc.2;subst e0;refine#[tg,iter,ifs,xs,it,c,ee,ci,rfl,ht,hc.1,?_,h2,h3,h4,h5.symm];split at h1
    .erw[.inl #[#[_,rfl],h1]]
    .rename_i hn
     erw[.inr #[λ⟨y,e⟩=>hn y e,h1]]
   .erw[nn h]
  .erw[nn h]
 .erw[nn h]
def Vz:∀e,(∃x p,e=Lh x p)\/(∃es k q,e=Expr.Tuple es k q)\/MP e=ψ:=by
 intro e;cases e<;>first|exact .inr (.inr rfl)|exact .inl #[_,_,rfl]|exact .inr (.inl #[_,_,_,rfl])
def Dj(h:MP tg=ξ xs):(∃x p,tg=.Name x p/\xs=[x])\/∃x y p p' k q,tg=.Tuple [.Name x p,.Name y p'] k q/\xs=[x,y]:=by
 rcases Vz tg with⟨x,p,rfl⟩|⟨es,k,q,rfl⟩|e
 .erw[.inl #[x,p,rfl,(aH h).symm]]
 .cases es with
  |nil=>erw[nn h]
  |cons a es=>cases es with
   |nil=>erw[nn h]
   |cons b es=>cases es with
    |cons=>erw[nn h]
    |nil=>
     let#[x,h1,h]:=aE.mp h;let#[y,h2,h3]:=au.mp h;let#[p,rfl]:=Eu h1;let#[p',rfl]:=Eu h2;erw[.inr #[x,y,p,p',k,q,rfl,h3.symm]]
 .erw[nn (e.symm.trans h)]
open PL (U SO bG KU Spec bY)
abbrev vM:Option NameKind->Bool
 |some .local=>ζ
 |some .cell=>ζ
 |_=>ϑ
abbrev Dk:nj->Option PL.FT
 |.Add=>ξ .add|.Sub=>ξ .sub|.BitOr=>ξ .bor|_=>ψ
structure CG where
 s:Inf->Stmt->Option PL.Sm
 ss:Inf->List Stmt->Option PL.dC
abbrev stS(T:Tab)(F:CF)(G:CG)(I:Inf)(s:Stmt):Option PL.Sm:=match s with
  |.Assign ts e _=>(match ts with
   |[t]=>(match t with
    |.Name x _=>(match eM x I.N with
     |some i=>if vM (I.names.lookup x) then(F.e I e).map (.set i) else ψ
     |none=>ψ)
    |.Attribute o f _=>do
     let q <-pick T.zt f
     let x <-F.e I o
     let y <-F.e I e
     ξ (.nG x q y)
    |.Subscript o i _=>if k9 i&&dkE i then do
      let x <-F.e I o
      let k <-F.e I i
      let y <-F.e I e
      ξ (.ox x k y)
     else if k9 i then do
      let x <-F.e I o
      let k <-F.e I i
      let y <-F.e I e
      ξ (.Iz x k y)
     else ψ
    |_=>ψ)
   |_=>ψ)
  |.AugAssign t op e _=>(match t with
   |.Name x _=>(match eM x I.N with
    |some i=>if vM (I.names.lookup x) then do
      let p <-Dk op
      let y <-F.e I e
      ξ (.aug i p y)
     else ψ
    |none=>ψ)
   |.Attribute o f _=>do
    let q <-pick T.zt f
    let p <-Dk op
    let x <-F.e I o
    let y <-F.e I e
    ξ (.C5 x q p y)
   |.Subscript o i _=>if k9 i then do
     let p <-Dk op
     let x <-F.e I o
     let j <-F.e I i
     let y <-F.e I e
     ξ (.FU x j p y)
    else ψ
   |_=>ψ)
  |.Expr e _=>if zu e then(F.e I e).map .ex else ψ
  |.Return e _=>(match e with
   |some e=>(F.e I e).map .ret
   |none=>ψ)
  |.If c a b _=>do
   let c <-F.t I c
   let a <-G.ss I a
   let b <-G.ss I b
   ξ (.ifs c a b)
  |.While c b el _=>if el.isEmpty then do
    let c <-F.t I c
    let b <-G.ss I b
    ξ (.A9 c b)
   else ψ
  |.For tg it b el _=>if !(I.calm&&el.isEmpty) then ψ else(match MP tg with
   |some xs=>(match xs with
    |[x]=>(match eM x I.N with
     |some i=>if vM (I.names.lookup x) then do
       let it <-F.i I it
       let b <-G.ss I b
       ξ (.iu (.name i) it b)
      else ψ
     |none=>ψ)
    |[x,y]=>(match eM x I.N with
     |some i=>(match eM y I.N with
      |some j=>if vM (I.names.lookup x)&&vM (I.names.lookup y) then do
        let it <-F.n I it
        let b <-G.ss I b
        ξ (.iu (.pair i j) it b)
       else ψ
      |none=>ψ)
     |none=>ψ)
    |_=>ψ)
   |none=>ψ)
  |.Raise _ _ _=>ξ (.ex (.ix (.lit .b7) (.lit .b7)))
  |.Try b hs el fi _=>(match hs with
   |_::_=>if el.isEmpty&&fi.isEmpty then(G.ss I b).map .TX else ψ
   |[]=>ψ)
  |_=>ψ
abbrev MR(G:CG)(I:Inf):List Stmt->Option PL.dC
 |[]=>ξ .nil
 |s::ss=>do
  let x <-G.s I s
  let xs <-G.ss I ss
  ξ (.cons x xs)
abbrev Ga(T:Tab):Nat->CG
 |0=>#[λ_ _=>ψ,λ_ _=>ψ]
 |n+1=>#[stS T (rQ T n) (Ga T n),MR (Ga T n)]
@[reducible]def cS(T:Tab)(n:Nat):Inf->Stmt->Option PL.Sm:=(Ga T n).s
@[reducible]def Lr(T:Tab)(n:Nat):Inf->List Stmt->Option PL.dC:=(Ga T n).ss
def aah:cS T 0 I x=ψ:=rfl
def aai:cS T (n+1) I x=stS T (rQ T n) (Ga T n) I x:=rfl
def VA:Lr T 0 I x=ψ:=rfl
def OV:Lr T (n+1) I x=MR (Ga T n) I x:=rfl
open PySem.Spec PyProof.Rows PySem.W
open PL (U SO bG KU Spec bY)
structure Ctx where
 P:bO
 w:cC
 K:Frag
 mg:Str->Option Value
 base:Heap
 cls:String->Option Addr
noncomputable abbrev nm(s:String):Str:=cj s
abbrev xZ(K:Frag)(H:Hp)(a:Addr)(vs:List V):Prop:=
 (∃o,H a=ξ (.sC o (.lst vs))) \/
  ∃(o:Obj)(its:Array Value)(n:Nat),K.lookup a=ξ o/\o.cls=.type "list"/\o.dict=ψ/\o.data=.seq its n/\its.size<=sizeLine/\Vals vs its.toList
def xZ.sq{K:Frag}{H:Hp}{a:Addr}{vs:List V}(h:xZ K H a vs):ij K H a vs:=by
 rcases h with⟨o,h⟩|h
 .erw[.inl (.inr #[o,h])]
 .erw[.inr h]
section
variable(c:Ctx)(ρ:List Addr)(H:Hp)
mutual
noncomputable def Rep:U->V->Prop
 |.b7,v=>v=.b7
 |.bl b,v=>v=.bl b
 |.int i,v=>v=.int i
 |.str l,v=>v=.str (tx l)
 |.tup us,v=>∃a vs,v=.ref a/\H a=ξ (.tup vs)/\a9 us vs
 |.loc n,v=>∃a,v=.ref a/\ρ[n]?=ξ a
 |.sZ ns,v=>∃a,v=.ref a/\xZ c.K H a (ns.map .int)
 |.tab kvs,v=>∃a,v=.ref a/\Qx c.K c.w.params a (kvs.map λp=>(tx p.1,V.str (tx p.2)))
noncomputable def a9:List U->List V->Prop
 |[],vs=>vs=[]
 |u::us,vs=>∃v r,vs=v::r/\Rep u v/\a9 us r
end
abbrev uE(a:Addr):SO->Prop
 |.lst us=>∃vs,H a=ξ (.lst vs)/\a9 c ρ H us vs
 |.ins x fs=>∃C dx vs,c.cls x=ξ C/\H a=ξ (.ins C dx vs)/\vs.map (·.1)=(fs.map (·.1)).map nm/\a9 c ρ H (fs.map (·.2)) (vs.map (·.2))
 |.eh kvs=>∃vs,H a=ξ (.dK vs)/\vs.length=kvs.length/\a9 c ρ H (kvs.map (·.1)) (vs.map λp=>kV p.1)/\a9 c ρ H (kvs.map (·.2)) (vs.map (·.2))
 |.qD kvs=>∃o vs,H a=ξ (.sC o (.dK vs))/\vs.length=kvs.length/\a9 c ρ H (kvs.map (·.1)) (vs.map λp=>kV p.1)/\a9 c ρ H (kvs.map (·.2)) (vs.map (·.2))
 |.uJ kvs=>∃vs,H a=ξ (.dT vs)/\vs.map (·.1)=kvs.map (λp=>p.1.map xh)/\a9 c ρ H (kvs.map (·.2)) (vs.map (·.2))
 |.xS kvs=>∃vs,H a=ξ (.dP vs)/\vs.map (·.1)=kvs.map (·.1)/\a9 c ρ H (kvs.map (·.2)) (vs.map (·.2))
structure cD(S:bG):Prop where
 len:ρ.length=S.length
 nd:ρ.Nodup
 at_:∀(n:Nat)(a:Addr)(o:SO),ρ[n]?=ξ a->S[n]?=ξ o->uE c ρ H a o
end
structure iJ(ρ:List Addr)(H:Hp)(ρ':List Addr)(H':Hp):Prop where
 pre:∃more,ρ'=ρ++more
 new:∀b∈ρ',b∉ρ->H b=ψ
 fr:∀b o,H b=ξ o->b∉ρ->H' b=ξ o
 fz:∀b o vs,H b=ξ (.sC o (.dK vs))->H' b=ξ (.sC o (.dK vs))
section
variable{c:Ctx}{ρ ρ' ρ'':List Addr}{H H' H'':Hp}{S S':bG}
def iJ.refl:iJ ρ H ρ H:=#[#[[],#v[]],λ_ h n=>absurd h n,λ_ _ h _=>h,λ_ _ _ h=>h]
def iJ.trans(a:iJ ρ H ρ' H')(b:iJ ρ' H' ρ'' H''):iJ ρ H ρ'' H'':=by
 let#[m1,e1]:=a.pre;let#[m2,e2]:=b.pre;refine#[#[m1++m2,by rw[e2,e1,bx]],λx hx nx=>?_,λx o h nx=>?_,λx o vs h=>b.fz x o vs (a.fz x o vs h)]
 .by_cases z:x∈ρ'
  .erw[a.new x z nx]
  .cases q:H x with
   |none=>rfl
   |some o=>erw[absurd (a.fr x o q nx) (by rw[b.new x hx z];simp)]
 .have q:=a.fr x o h nx
  by_cases z:x∈ρ'
  .erw[absurd (a.new x z nx) (by rw[h];simp)]
  .erw[b.fr x o q z]
def iJ.get(a:iJ ρ H ρ' H'){n:Nat}{b:Addr}(h:ρ[n]?=ξ b):ρ'[n]?=ξ b:=by
 let#[m,e]:=a.pre;rw[e,ao (by let#[h,_]:=ag.mp h;erw[h])]
 erw[h]
abbrev zw:HO->Bool
 |.lst _=>ζ
 |.ins _ _ _=>ζ
 |.dK _=>ζ
 |.dT _=>ζ
 |.dP _=>ζ
 |.sC _ (.dK _)=>ζ
 |_=>ϑ
abbrev Q0:HO->Bool
 |.sC _ _=>ζ
 |_=>ϑ
def cD.obj(R:cD c ρ H S)(h:b∈ρ):∃o,H b=ξ o/\zw o=ζ:=by
 let#[n,hn,e]:=qQ h;have hn':n<S.length:=R.len▸hn;have q:=R.at_ n b S[n] (by rw[ab hn,e]) (ab hn');cases o:S[n] with
 |lst us=>rw[o] at q;let#[vs,h,_]:=q;exact#[_,h,rfl]
 |ins x fs=>rw[o] at q;let#[C,dx,vs,_,h,_]:=q;exact#[_,h,rfl]
 |eh kvs=>rw[o] at q;let#[vs,h,_]:=q;exact#[_,h,rfl]
 |qD kvs=>rw[o] at q;let#[o',vs,h,_]:=q;exact#[_,h,rfl]
 |uJ kvs=>rw[o] at q;let#[vs,h,_]:=q;exact#[_,h,rfl]
 |xS kvs=>rw[o] at q;let#[vs,h,_]:=q;exact#[_,h,rfl]
def cD.not(R:cD c ρ H S)(h:H b=ξ o)(q:zw o=ϑ):b∉ρ:=λz=>by
 let#[o',h',q']:=R.obj z;rw[h] at h';injection h' with e;subst e
 rw[q] at q';erw[Li q']
def cD.Jb(R:cD c ρ H S)(h:H b=ψ):b∉ρ:=λz=>by
 let#[o',h',_]:=R.obj z;rw[h] at h';cases h'
mutual
theorem Rep.iK(p:∃more,ρ'=ρ++more)(k:∀b o,H b=ξ o->zw o=ϑ->H' b=ξ o):∀{u:U}{v:V},Rep c ρ H u v->Rep c ρ' H' u v
 |.b7,_,h=>by unfold Rep at h ⊢;erw[h]
 |.bl _,_,h=>by unfold Rep at h ⊢;erw[h]
 |.int _,_,h=>by unfold Rep at h ⊢;erw[h]
 |.str _,_,h=>by unfold Rep at h ⊢;erw[h]
 |.tup us,_,h=>by
  unfold Rep at h ⊢;let#[x,vs,e,hx,hs]:=h;exact#[x,vs,e,k x _ hx rfl,a9.iK p k hs]
 |.loc n,_,h=>by
  unfold Rep at h ⊢;let#[x,e,hx]:=h;let#[m,rfl]:=p;exact#[x,e,by rw[ao (by let#[h,_]:=ag.mp hx;erw[h])];erw[hx]]
 |.sZ ns,_,h=>by
  unfold Rep at h ⊢;let#[x,e,hx]:=h;rcases hx with⟨o,hx⟩|hx
  .exact#[x,e,.inl #[o,k x _ hx rfl]]
  .exact#[x,e,.inr hx]
 |.tab _,_,h=>by unfold Rep at h ⊢;erw[h]
theorem a9.iK(p:∃more,ρ'=ρ++more)(k:∀b o,H b=ξ o->zw o=ϑ->H' b=ξ o):∀{us:List U}{vs:List V},a9 c ρ H us vs->a9 c ρ' H' us vs
 |[],_,h=>by unfold a9 at h ⊢;erw[h]
 |u::us,_,h=>by
  unfold a9 at h ⊢;let#[v,r,e,h1,h2]:=h;exact#[v,r,e,Rep.iK p k h1,a9.iK p k h2]
end
def uE.iK(p:∃more,ρ'=ρ++more)(m:∀b o,H b=ξ o->zw o=ϑ->H' b=ξ o)(h:uE c ρ H b o)(k:H' b=H b):uE c ρ' H' b o:=by
 cases o with
 |lst us=>let#[vs,h1,h2]:=h;exact#[vs,k.trans h1,h2.iK p m]
 |ins x fs=>let#[C,dx,vs,h0,h1,h2,h3]:=h;exact#[C,dx,vs,h0,k.trans h1,h2,h3.iK p m]
 |eh kvs=>let#[vs,h1,h2,h3,h4]:=h;exact#[vs,k.trans h1,h2,h3.iK p m,h4.iK p m]
 |qD kvs=>let#[o,vs,h1,h2,h3,h4]:=h;exact#[o,vs,k.trans h1,h2,h3.iK p m,h4.iK p m]
 |uJ kvs=>let#[vs,h1,h2,h3]:=h;exact#[vs,k.trans h1,h2,h3.iK p m]
 |xS kvs=>let#[vs,h1,h2,h3]:=h;exact#[vs,k.trans h1,h2,h3.iK p m]
def iJ.imm(R:cD c ρ H S)(a:iJ ρ H ρ' H'):∀b o,H b=ξ o->zw o=ϑ->H' b=ξ o:=λb o h q=>a.fr b o h (R.not h q)
def Rep.mono(R:cD c ρ H S)(a:iJ ρ H ρ' H')(h:Rep c ρ H u v):Rep c ρ' H' u v:=h.iK a.pre (a.imm R)
def a9.mono(R:cD c ρ H S)(a:iJ ρ H ρ' H')(h:a9 c ρ H us vs):a9 c ρ' H' us vs:=h.iK a.pre (a.imm R)
def uE.mono(R:cD c ρ H S)(a:iJ ρ H ρ' H')(h:uE c ρ H b o)(k:H' b=H b):uE c ρ' H' b o:=h.iK a.pre (a.imm R) k
def zx(hD:H D=ξ o)(q:zw o=ζ):∀b o,H b=ξ o->zw o=ϑ->upd H D ho b=ξ o:=λb o' h z=>by
 rw[cq]
 .erw[h]
 .intro e;subst e;rw[hD] at h;injection h with h;subst h;rw[q] at z;erw[Li z]
def cD.Bm(R:cD c ρ H S)(ho:HO)(hD:H D=ξ o)(q:zw o=ζ)(n:D∉ρ):cD c ρ (upd H D ho) S:=
 #[R.len,R.nd,λm b o' h1 h2=>(R.at_ m b o' h1 h2).iK #[[],#v[]] (zx hD q) (cq λe=>n (e▸ah h1))]
def cD.join(R:cD c ρ H S)(n:D∉ρ)(h:uE c ρ H D o):cD c (ρ++[D]) H (S++[o]):=by
 have p:∃more,ρ++[D]=ρ++more:=#[[D],rfl]
 refine#[by simp[R.len],?_,λm a o' h1 h2=>?_]
 .rw[dZ]
  exact#[R.nd,#v[],λx hx y hy=>%[bp.mp hy|λe=>n (e▸hx)]]
 .by_cases z:m<ρ.length
  .rw[ao z] at h1
   rw[ao (R.len▸z)] at h2;exact(R.at_ m a o' h1 h2).iK p (λ_ _ h _=>h) rfl
  .have hz:m=ρ.length:=by
    let#[q,_]:=ag.mp h1;simp at q;omega
   subst hz;rw[ax (aq _),bL] at h1;rw[R.len,ax (aq _),bL] at h2;simp at h1 h2;rw[<-h1,<-h2];erw[h.iK p (λ_ _ h _=>h) rfl]
def iJ.alloc(R:cD c ρ H S)(hp:H p=ψ)(o:HO):iJ ρ H (ρ++[p]) (upd H p o):=by
 refine#[#[[p],rfl],λb hb nb=>?_,λb o h nb=>?_,λb o vs h=>%[cq (dN h hp)|h]]
 .rcases aL.mp hb with h|h
  .erw[absurd h nb]
  .rw[bp.mp h];erw[hp]
 .rw[cq (dN h hp)];erw[h]
def cD.alloc(R:cD c ρ H S)(hp:H p=ψ)(h:uE c (ρ++[p]) (upd H p ho) p o):cD c (ρ++[p]) (upd H p ho) (S++[o]):=by
 have st:=iJ.alloc R hp ho;refine#[by simp[R.len],?_,λn a o' h1 h2=>?_]
 .rw[dZ]
  exact#[R.nd,#v[],λx hx y hy=>%[bp.mp hy|λe=>R.Jb hp (e▸hx)]]
 .by_cases z:n<ρ.length
  .rw[ao z] at h1
   rw[ao (R.len▸z)] at h2;refine(R.at_ n a o' h1 h2).mono R st (cq λe=>?_);erw[R.Jb hp (e▸ah h1)]
  .have hz:n=ρ.length:=by
    let#[q,_]:=ag.mp h1;simp at q;omega
   subst hz;rw[ax (aq _),bL] at h1;rw[R.len,ax (aq _),bL] at h2;simp at h1 h2;rw[<-h1,<-h2];erw[h]
def iJ.lay(R:cD c ρ H S)(hp:H p=ψ)(o:HO):iJ ρ H ρ (upd H p o):=
 #[#[[],#v[]],λ_ h n=>absurd h n,λb _ h _=>%[cq (dN h hp)|h],λb o vs h=>%[cq (dN h hp)|h]]
def cD.lay(R:cD c ρ H S)(hp:H p=ψ)(o:HO):cD c ρ (upd H p o) S:=
 #[R.len,R.nd,λn a o' h1 h2=>(R.at_ n a o' h1 h2).mono R (iJ.lay R hp o) (cq λe=>R.Jb hp (e▸ah h1))]
def iJ.put(h:a∈ρ)(hu:H a=ξ u)(nf:Q0 u=ϑ)(o:HO):iJ ρ H ρ (upd H a o):=
 #[#[[],#v[]],λ_ h n=>absurd h n,λb _ q nb=>by rw[cq (show b≠a from λe=>nb (by rw[e];exact h))];exact q,
  λb o' vs q=>by rw[cq λe=>by rw[e,hu] at q;injection q with q;rw[q] at nf;cases nf];erw[q]]
def cD.put(R:cD c ρ H S)(ha:ρ[n]?=ξ a)(hu:H a=ξ u)(nf:Q0 u=ϑ)(h:uE c ρ (upd H a ho) a o):cD c ρ (upd H a ho) (S.set n o):=by
 have hm:=ah ha;refine#[by simp[R.len],R.nd,λm b o' h1 h2=>?_];by_cases z:m=n
 .subst z
  rw[ha] at h1;injection h1 with h1;subst h1
  have hl:m<S.length:=R.len▸(ag.mp ha).1;rw[bA hl] at h2;injection h2 with h2;subst h2;erw[h]
 .rw[ak (cJ z)] at h2
  refine(R.at_ m b o' h1 h2).mono R (iJ.put hm hu nf ho) (cq λe=>z ?_);subst e;let#[l1,e1]:=ag.mp h1;let#[l2,e2]:=ag.mp ha;exact(Le R.nd).mp (e1.trans e2.symm)
def a9.len:∀{us:List U}{vs:List V},a9 c ρ H us vs->us.length=vs.length
 |[],_,h=>by unfold a9 at h;subst h;rfl
 |_::us,_,h=>by
  unfold a9 at h;let#[v,r,e,_,h2]:=h;subst e;rw[aU,aU,a9.len h2]
def a9.nil:a9 c ρ H [] []:=by unfold a9;rfl
def a9.cons(h:Rep c ρ H u v)(t:a9 c ρ H us vs):a9 c ρ H (u::us) (v::vs):=by unfold a9;exact#[v,vs,rfl,h,t]
def a9.app:∀{us ws:List U}{vs xs:List V},a9 c ρ H us vs->a9 c ρ H ws xs->a9 c ρ H (us++ws) (vs++xs)
 |[],_,_,_,h,k=>by unfold a9 at h;subst h;erw[k]
 |u::us,_,_,_,h,k=>by
  unfold a9 at h;let#[v,r,e,h1,h2]:=h;subst e;erw[a9.cons h1 (a9.app h2 k)]
def a9.get:∀{us:List U}{vs:List V}{n:Nat}{u:U},a9 c ρ H us vs->us[n]?=ξ u->∃v,vs[n]?=ξ v/\Rep c ρ H u v
 |[],_,_,_,_,e=>by simp at e
 |u::us,_,n,_,h,e=>by
  unfold a9 at h;let#[v,r,e',h1,h2]:=h;subst e';cases n with
  |zero=>simp at e;subst e;exact#[v,rfl,h1]
  |succ n=>simp at e ⊢;erw[a9.get h2 e]
def a9.take:∀{us:List U}{vs:List V}(n:Nat),a9 c ρ H us vs->a9 c ρ H (us.take n) (vs.take n)
 |_,_,0,_=>by dsimp[List.take_zero];erw[a9.nil]
 |[],_,_+1,h=>by unfold a9 at h;subst h;dsimp[List.take_nil];erw[a9.nil]
 |u::us,_,n+1,h=>by
  unfold a9 at h;let#[v,r,e,h1,h2]:=h;subst e;erw[a9.cons h1 (a9.take n h2)]
def a9.drop:∀{us:List U}{vs:List V}(n:Nat),a9 c ρ H us vs->a9 c ρ H (us.drop n) (vs.drop n)
 |_,_,0,h=>h
 |[],_,_+1,h=>by unfold a9 at h;subst h;dsimp[List.drop_nil];erw[a9.nil]
 |u::us,_,n+1,h=>by
  unfold a9 at h;let#[v,r,e,h1,h2]:=h;subst e;erw[a9.drop n h2]
end
open PL (U SO bG KU Spec bY)
section
variable{X:Cx}{pZ:List (Addr×Obj)}{e:Expr}{es:List Expr}
def PE.imp(h:PE X e t)(q:∀σ H Q,t' σ H Q->t σ H Q):PE X e t':=λpZ s σ H Q I z=>h pZ s σ H Q I (q σ H Q z)
def PT.imp(h:PT X e t)(q:∀σ H Q,t' σ H Q->t σ H Q):PT X e t':=λpZ s σ H Q I z=>h pZ s σ H Q I (q σ H Q z)
end
structure kG(c:Ctx)(ρ:List Addr)(H:Hp)(env:PL.Env)(σ:St):Prop where
 len:env.length=σ.length
 at_:∀(i:Nat)u,env[i]?=ξ (ξ u)->∃v,σ[i]?=ξ (ξ v)/\Rep c ρ H u v
section
variable(c:Ctx)(ρ:List Addr)(H:Hp)
abbrev QV(QU:KU)(Q:VK):Prop:=∀u S' v H' ρ',QU u S'->iJ ρ H ρ' H'->cD c ρ' H' S'->Rep c ρ' H' u v->Q v H'
abbrev QB(QU:Bool->bG->Prop)(Q:Bool->Hp->Prop):Prop:=∀b S' H' ρ',QU b S'->iJ ρ H ρ' H'->cD c ρ' H' S'->Q b H'
abbrev QA(QU:List U->bG->Prop)(Q:List V->Hp->Prop):Prop:=∀us S' vs H' ρ',QU us S'->iJ ρ H ρ' H'->cD c ρ' H' S'->a9 c ρ' H' us vs->Q vs H'
end
section
variable{c:Ctx}{ρ ρ':List Addr}{H H':Hp}{S:bG}
def QV.later(q:QV c ρ H QU Q)(a:iJ ρ H ρ' H'):QV c ρ' H' QU Q:=λu S' v H2 ρ2 h b R r=>q u S' v H2 ρ2 h (a.trans b) R r
def QB.later(q:QB c ρ H QU Q)(a:iJ ρ H ρ' H'):QB c ρ' H' QU Q:=λu S' H2 ρ2 h b R=>q u S' H2 ρ2 h (a.trans b) R
def QV.now(q:QV c ρ H QU Q)(R:cD c ρ H S)(h:QU u S)(r:Rep c ρ H u v):Q v H:=q u S v H ρ h .refl R r
def kG.later(h:kG c ρ H env σ)(R:cD c ρ H S)(a:iJ ρ H ρ' H'):kG c ρ' H' env σ:=
 #[h.len,λi u e=>by let#[v,h1,h2]:=h.at_ i u e;exact#[v,h1,h2.mono R a]]
end
section
variable(c:Ctx)(Γ:bY)
abbrev tE(x:PL.Ex):TE:=λσ H Q=>∃env ρ S QU,kG c ρ H env σ/\cD c ρ H S/\PL.WE Γ x env S QU/\QV c ρ H QU Q
abbrev tT(x:PL.Tx):TT:=λσ H Q=>∃env ρ S QU,kG c ρ H env σ/\cD c ρ H S/\PL.WT Γ x env S QU/\QB c ρ H QU Q
abbrev Hj(x:PL.Aq):TA:=λσ H Q=>∃env ρ S QU,kG c ρ H env σ/\cD c ρ H S/\PL.wX Γ x env S QU/\QA c ρ H QU Q
end
open PL (U SO bG KU Spec bY)
def qp(h:n<=1000000):n<=sizeLine:=aF h ⋯
section
variable{c:Ctx}{ρ:List Addr}{H:Hp}{S:bG}
def fj:Rep c ρ H .b7 v↔v=.b7:=by unfold Rep;erw[qS]
def fc:Rep c ρ H (.bl b) v↔v=.bl b:=by unfold Rep;erw[qS]
def aO:Rep c ρ H (.int b) v↔v=.int b:=by unfold Rep;erw[qS]
def bC:Rep c ρ H (.str b) v↔v=.str (tx b):=by unfold Rep;erw[qS]
def dG:Rep c ρ H (.tup us) v↔∃a vs,v=.ref a/\H a=ξ (.tup vs)/\a9 c ρ H us vs:=by unfold Rep;erw[qS]
def eR:Rep c ρ H (.loc n) v↔∃a,v=.ref a/\ρ[n]?=ξ a:=by unfold Rep;erw[qS]
def rR:Rep c ρ H (.sZ ns) v↔∃a,v=.ref a/\xZ c.K H a (ns.map .int):=by unfold Rep;erw[qS]
def uQ:Rep c ρ H (.tab kvs) v↔∃a,v=.ref a/\Qx c.K c.w.params a (kvs.map λp=>(tx p.1,V.str (tx p.2))):=by unfold Rep;erw[qS]
def cD.lst(R:cD c ρ H S)(h:S[n]?=ξ (.lst us))(r:Rep c ρ H (.loc n) v):∃a vs,v=.ref a/\ρ[n]?=ξ a/\H a=ξ (.lst vs)/\a9 c ρ H us vs:=by
 let#[a,e,ha]:=eR.mp r;let#[vs,h1,h2]:=R.at_ n a _ ha h;exact#[a,vs,e,ha,h1,h2]
def cD.ins(R:cD c ρ H S)(h:S[n]?=ξ (.ins x fs))(r:Rep c ρ H (.loc n) v):∃a C dx vs,v=.ref a/\ρ[n]?=ξ a/\c.cls x=ξ C/\H a=ξ (.ins C dx vs)/\vs.map (·.1)=(fs.map (·.1)).map nm/\a9 c ρ H (fs.map (·.2)) (vs.map (·.2)):=by
 let#[a,e,ha]:=eR.mp r;let#[C,dx,vs,h0,h1,h2,h3]:=R.at_ n a _ ha h;exact#[a,C,dx,vs,e,ha,h0,h1,h2,h3]
def QV.Gb(q:QV c ρ H QU Q)(R:cD c ρ H S)(r:a9 c ρ H us vs)(h:QU (.loc S.length) (S++[.lst us]))(hp:H p=ψ):Q (.ref p) (upd H p (.lst vs)):=by
 have st:=iJ.alloc R hp (.lst vs);have R':cD c (ρ++[p]) (upd H p (.lst vs)) (S++[.lst us]):=R.alloc hp #[vs,bX,r.mono R st];rwa[q _ _ _ _ _ h st R' (eR.mpr #[p,rfl,?_])];rw[<-R.len,ax (aq _),bL];rfl
def QV.MS(q:QV c ρ H QU Q)(R:cD c ρ H S)(r:a9 c ρ H us vs)(h:QU (.tup us) S)(hp:H p=ψ):Q (.ref p) (upd H p (.tup vs)):=by
 have st:=iJ.lay R hp (.tup vs);erw[q _ _ _ _ _ h st (R.lay hp _) (dG.mpr #[p,vs,rfl,bX,r.mono R st])]
end
abbrev wZ(c:Ctx)(o:PL.FT):R2:=λx y H Q=>∃ux uy ρ S QU,Rep c ρ H ux x/\Rep c ρ H uy y/\cD c ρ H S/\PL.kO o ux uy S QU/\QV c ρ H QU Q
abbrev MT:PL.FT->nj
 |.add=>.Add|.sub=>.Sub|.mul=>.Mult|.fdiv=>.FloorDiv|.mod=>.Mod|.band=>.BitAnd|.bor=>.BitOr|.shl=>.LShift|.shr=>.RShift
section
variable{X:Cx}{c:Ctx}
def MU:iq X (cQ .Add) (wZ c .add):=by
 x_go;let#[ux,uy,ρ,S,QU,hx,hy,R,w,q]:=h;cases ux<;>first|exact aV w|skip
 .rename_i i
  let#[j,rfl,w]:=PL.fZ.mp w;erw[PU pZ s σ H x y v u Q I rx ry #[i,j,aO.mp hx,aO.mp hy,q.now R w (aO.mpr rfl)]]
 .rename_i a
  let#[b,rfl,w]:=PL.nI.mp w;erw[FR pZ s σ H x y v u Q I rx ry #[a,b,bC.mp hx,bC.mp hy,qp w.1,q.now R w.2 (bC.mpr rfl)]]
 .rename_i us
  let#[ws,rfl,w]:=PL.MC.mp w;let#[a,vs,e1,h1,r1]:=dG.mp hx;let#[b,zs,e2,h2,r2]:=dG.mp hy;let#[w1,w2]:=w;by_cases w0:us=[]
  .subst w0
   have ev:vs=[]:=dW (by rw[<-r1.len];rfl);subst ev;erw[IF pZ s σ H x y v u Q I rx ry #[a,b,zs,e1,e2,lO.of h1,lO.of h2,by rw[<-e2];exact q.now R w2 hy]]
  rwa[Mc pZ s σ H x y v u Q I rx ry #[a,b,vs,zs,e1,e2,lO.of h1,lO.of h2,λe=>w0 ?_,qp (by rw[<-r1.len,<-r2.len];erw[w1]),λe=>?_,λ_ p hp=>?_]]
  .erw[dW (by rw[r1.len,e];rfl)]
  .have e3:ws=[]:=dW (by rw[r2.len,e];rfl)
   subst e3;rw[bT] at w2;rw[<-e1]
   erw[q.now R w2 hx]
  .erw[q.MS R (r1.app r2) w2 hp]
 .rename_i m
  let#[n,rfl,w]:=PL.iw.mp w;let#[us,h1,w1]:=PL.cK.mp w;let#[ws,h2,w2,w3]:=PL.cK.mp w1;let#[a,vs,e1,_,g1,r1]:=R.lst h1 hx;let#[b,zs,e2,_,g2,r2]:=R.lst h2 hy;erw[Qo pZ s σ H x y v u Q I rx ry #[a,b,vs,zs,e1,e2,g1,g2,qp (by rw[<-r1.len,<-r2.len];exact w2),λp hp=>q.Gb R (r1.app r2) w3 hp]]
def MV:iq X (cQ .Sub) (wZ c .sub):=by
 x_go;let#[ux,uy,ρ,S,QU,hx,hy,R,w,q]:=h;let#[i,j,rfl,rfl,w]:=PL.kF w;erw[PV pZ s σ H x y v u Q I rx ry #[i,j,aO.mp hx,aO.mp hy,q.now R w (aO.mpr rfl)]]
def MX:iq X (cQ .Mult) (wZ c .mul):=by
 x_go;let#[ux,uy,ρ,S,QU,hx,hy,R,w,q]:=h;let#[i,j,rfl,rfl,w]:=PL.kF w;erw[PX pZ s σ H x y v u Q I rx ry #[i,j,aO.mp hx,aO.mp hy,w.1,q.now R w.2 (aO.mpr rfl)]]
def Jc:iq X (cQ .FloorDiv) (wZ c .fdiv):=by
 x_go;let#[ux,uy,ρ,S,QU,hx,hy,R,w,q]:=h;let#[i,j,rfl,rfl,w]:=PL.kF w;erw[LU pZ s σ H x y v u Q I rx ry #[i,j,aO.mp hx,aO.mp hy,w.1,q.now R w.2 (aO.mpr rfl)]]
def MY:iq X (cQ .Mod) (wZ c .mod):=by
 x_go;let#[ux,uy,ρ,S,QU,hx,hy,R,w,q]:=h;let#[i,j,rfl,rfl,w]:=PL.kF w;erw[PY pZ s σ H x y v u Q I rx ry #[i,j,aO.mp hx,aO.mp hy,w.1,q.now R w.2 (aO.mpr rfl)]]
def Jd:iq X (cQ .BitAnd) (wZ c .band):=by
 x_go;let#[ux,uy,ρ,S,QU,hx,hy,R,w,q]:=h;let#[i,j,rfl,rfl,w]:=PL.kF w;erw[P1 pZ s σ H x y v u Q I rx ry #[i,j,aO.mp hx,aO.mp hy,by dsimp only;rw[uM w.1.1 w.1.2];exact q.now R w.2 (aO.mpr rfl)]]
def MZ:iq X (cQ .BitOr) (wZ c .bor):=by
 x_go;let#[ux,uy,ρ,S,QU,hx,hy,R,w,q]:=h;let#[i,j,rfl,rfl,w]:=PL.kF w;erw[UG pZ s σ H x y v u Q I rx ry #[i,j,aO.mp hx,aO.mp hy,by dsimp only;rw[Dd w.1.1 w.1.2];exact q.now R w.2 (aO.mpr rfl)]]
def M0:iq X (cQ .LShift) (wZ c .shl):=by
 x_go;let#[ux,uy,ρ,S,QU,hx,hy,R,w,q]:=h;let#[i,j,rfl,rfl,w]:=PL.kF w;let#[#[w1,w2,w3,w4],w5]:=w;erw[PZ pZ s σ H x y v u Q I rx ry #[i,j,aO.mp hx,aO.mp hy,#[w3,∅,∅],q.now R w5 (aO.mpr rfl)]]
def M3:iq X (cQ .RShift) (wZ c .shr):=by
 x_go;let#[ux,uy,ρ,S,QU,hx,hy,R,w,q]:=h;let#[i,j,rfl,rfl,w]:=PL.kF w;erw[P0 pZ s σ H x y v u Q I rx ry #[i,j,aO.mp hx,aO.mp hy,w.1.2,q.now R w.2 (aO.mpr rfl)]]
abbrev Gd(c:Ctx)(o:PL.FT):R2:=λx y H Q=>∃ux uy ρ S QU,Rep c ρ H ux x/\Rep c ρ H uy y/\cD c ρ H S/\PL.zj o ux uy S QU/\QV c ρ H QU Q
def Je:iq X (iE .Add) (Gd c .add):=by
 x_go;let#[ux,uy,ρ,S,QU,hx,hy,R,w,q]:=h;cases ux<;>first|exact aV w|skip
 .rename_i i
  let#[j,rfl,w]:=PL.fZ.mp w;erw[LV pZ s σ H x y v u Q I rx ry #[i,j,aO.mp hx,aO.mp hy,q.now R w (aO.mpr rfl)]]
 .rename_i a
  let#[b,rfl,w]:=PL.nI.mp w;erw[C0 pZ s σ H x y v u Q I rx ry #[a,b,bC.mp hx,bC.mp hy,qp w.1,q.now R w.2 (bC.mpr rfl)]]
def Jf:iq X (iE .Sub) (Gd c .sub):=by
 x_go;let#[ux,uy,ρ,S,QU,hx,hy,R,w,q]:=h;cases ux<;>first|exact aV w|skip
 rename_i i;let#[j,rfl,w]:=PL.fZ.mp w;erw[LW pZ s σ H x y v u Q I rx ry #[i,j,aO.mp hx,aO.mp hy,q.now R w (aO.mpr rfl)]]
def Jg:iq X (iE .BitOr) (Gd c .bor):=by
 x_go;let#[ux,uy,ρ,S,QU,hx,hy,R,w,q]:=h;cases ux<;>first|exact aV w|skip
 rename_i i;let#[j,rfl,w]:=PL.fZ.mp w;erw[P2 pZ s σ H x y v u Q I rx ry #[i,j,aO.mp hx,aO.mp hy,by dsimp only;rw[Dd w.1.1 w.1.2];exact q.now R w.2 (aO.mpr rfl)]]
def M4:iq X (cQ (MT o)) (wZ c o):=by
 cases o
 .erw[MU]
 .erw[MV]
 .erw[MX]
 .erw[Jc]
 .erw[MY]
 .erw[Jd]
 .erw[MZ]
 .erw[M0]
 .erw[M3]
def zy(h:o=.add\/o=.sub\/o=.bor):iq X (iE (MT o)) (Gd c o):=by
 rcases h with rfl|rfl|rfl
 .erw[Je]
 .erw[Jf]
 .erw[Jg]
abbrev tw(c:Ctx)(o:PL.OI):R2:=λx y H Q=>∃ux uy ρ S,Rep c ρ H ux x/\Rep c ρ H uy y/\cD c ρ H S/\PL.hJ o ux uy S λb=>Q (.bl b) H
end
mutual
noncomputable def nV:U->Dv
 |.b7=>.b7
 |.bl b=>.bl b
 |.int i=>.int i
 |.str l=>.str l
 |.tup us=>.tup (kI us)
 |_=>.b7
noncomputable def kI:List U->List Dv
 |[]=>[]
 |u::us=>nV u::kI us
end
section
variable{c:Ctx}{ρ:List Addr}{H:Hp}{S:bG}
mutual
theorem Ew:∀{u:U}{v:V},PL.wH u=ζ->Rep c ρ H u v->oV c.K H v (nV u)
 |.b7,_,_,h=>by unfold nV oV;erw[fj.mp h]
 |.bl _,_,_,h=>by unfold nV oV;erw[fc.mp h]
 |.int _,_,_,h=>by unfold nV oV;erw[aO.mp h]
 |.str _,_,_,h=>by unfold nV oV;erw[bC.mp h]
 |.tup us,_,d,h=>by
  unfold nV oV;let#[a,vs,e,h1,h2]:=dG.mp h;exact#[a,vs,e,lO.of h1,vN (by unfold PL.wH at d;erw[d]) h2]
 |.loc _,_,d,_=>by cases d
 |.sZ _,_,d,_=>by cases d
 |.tab _,_,d,_=>by cases d
theorem vN:∀{us:List U}{vs:List V},PL.jV us=ζ->a9 c ρ H us vs->iP c.K H vs (kI us)
 |[],_,_,h=>by unfold a9 at h;subst h;unfold kI iP;trivial
 |u::us,_,d,h=>by
  unfold a9 at h;let#[v,r,e,h1,h2]:=h;subst e;unfold PL.jV at d;rw[ar] at d;unfold kI iP;exact#[Ew d.1 h1,vN d.2 h2]
end
end
mutual
theorem Q2:∀u:U,PL.wH u=ζ->(nV u).depth=PL.dep u
 |.b7,_=>by simp[nV,Dv.depth,PL.dep]
 |.bl _,_=>by simp[nV,Dv.depth,PL.dep]
 |.int _,_=>by simp[nV,Dv.depth,PL.dep]
 |.str _,_=>by simp[nV,Dv.depth,PL.dep]
 |.tup us,d=>by
  unfold nV Dv.depth PL.dep;rw[zz us (by unfold PL.wH at d;erw[d])]
 |.loc _,d=>by cases d
 |.sZ _,d=>by cases d
 |.tab _,d=>by cases d
theorem zz:∀us:List U,PL.jV us=ζ->Dv.lA (kI us)=PL.mW us
 |[],_=>by simp[kI,Dv.lA,PL.mW]
 |u::us,d=>by
  unfold PL.jV at d;rw[ar] at d;unfold kI Dv.lA PL.mW;rw[Q2 u d.1,zz us d.2]
end
mutual
theorem OW:∀x y:U,PL.wH x=ζ->PL.wH y=ζ->PL.pE x y=Ce (nV x) (nV y)
 |.tup us,y,d,d'=>by
  cases y with
  |tup ws=>erw[Jh us ws d d']
  |_=>first|rfl|cases d'
 |.loc _,_,d,_|.sZ _,_,d,_|.tab _,_,d,_=>by cases d
 |.b7,y,_,d|.bl _,y,_,d|.int _,y,_,d|.str _,y,_,d=>by cases y<;>first|rfl|cases d
theorem Jh:∀xs ys:List U,PL.jV xs=ζ->PL.jV ys=ζ->PL.wW xs ys=qd (kI xs) (kI ys)
 |[],y,_,_=>by cases y<;>rfl
 |_::_,[],_,_=>rfl
 |x::xs,y::ys,d,d'=>by
  have d:=(ar _ _).mp d;have d':=(ar _ _).mp d'
  change (PL.pE x y&&PL.wW xs ys)=(Ce (nV x) (nV y)&&qd (kI xs) (kI ys))
  rw[OW x y d.1 d'.1,Jh xs ys d.2 d'.2]
end
def Q3:decide (V.str (tx a)=V.str (tx b))=(a==b):=by
 rw[dv]
 simp[Eg]
def Ey{c:Ctx}{ρ:List Addr}{H:Hp}{x y:U}{v w:V}(t:PL.IB x y=ζ)(hx:Rep c ρ H x v)(hy:Rep c ρ H y w):P5 v w=ζ/\decide (v=w)=PL.pE x y:=by
 cases x<;>first|exact ff t| (cases y<;>first|exact ff t| ((first|rw[fj.mp hx]|rw[fc.mp hx]|rw[aO.mp hx]|rw[bC.mp hx]);(first|rw[fj.mp hy]|rw[fc.mp hy]|rw[aO.mp hy]|rw[bC.mp hy]);first|exact#[rfl,rfl]|exact#[rfl,CC]|exact#[rfl,yV]|exact#[rfl,Q3]))
section
variable{X:Cx}{c:Ctx}
def Q4:iq X (bF .Eq) (tw c .eq):=by
 x_go;let#[ux,uy,ρ,S,hx,hy,R,w0]:=h;let#[#[t,_],w]:=w0;let#[e1,e2]:=Ey t hx hy;erw[UH pZ s σ H x y v u Q I rx ry #[e1,by rw[e2];exact w]]
def Q5:iq X (bF .NotEq) (tw c .ne):=by
 x_go;let#[ux,uy,ρ,S,hx,hy,R,w0]:=h;let#[_,#[t,_],w]:=w0;let#[e1,e2]:=Ey t hx hy;erw[UI pZ s σ H x y v u Q I rx ry #[e1,by rw[e2];exact w]]
end
open PL (U SO bG KU Spec bY)
section
variable{X:Cx}{c:Ctx}
def Q6:iq X (bF .Lt) (tw c .lt):=by
 x_go;let#[ux,uy,ρ,S,hx,hy,R,w]:=h;let#[i,j,rfl,rfl,w]:=PL.kF w;erw[UJ pZ s σ H x y v u Q I rx ry #[_,_,aO.mp hx,aO.mp hy,w]]
def Q7:iq X (bF .LtE) (tw c .le):=by
 x_go;let#[ux,uy,ρ,S,hx,hy,R,w]:=h;let#[i,j,rfl,rfl,w]:=PL.kF w;erw[UK pZ s σ H x y v u Q I rx ry #[_,_,aO.mp hx,aO.mp hy,w]]
def Q8:iq X (bF .Gt) (tw c .gt):=by
 x_go;let#[ux,uy,ρ,S,hx,hy,R,w]:=h;let#[i,j,rfl,rfl,w]:=PL.kF w;erw[UL pZ s σ H x y v u Q I rx ry #[_,_,aO.mp hx,aO.mp hy,w]]
def Q9:iq X (bF .GtE) (tw c .ge):=by
 x_go;let#[ux,uy,ρ,S,hx,hy,R,w]:=h;let#[i,j,rfl,rfl,w]:=PL.kF w;erw[UM pZ s σ H x y v u Q I rx ry #[_,_,aO.mp hx,aO.mp hy,w]]
def x8(h:Rep c ρ H u v):decide (v=V.b7)=PL.xV u:=by
 cases u with
 |b7=>rw[fj.mp h];rfl
 |bl b=>rw[fc.mp h];rfl
 |int i=>rw[aO.mp h];rfl
 |str l=>rw[bC.mp h];rfl
 |tup us=>let#[a,vs,e,_]:=dG.mp h;rw[e];rfl
 |loc n=>let#[a,e,_]:=eR.mp h;rw[e];rfl
 |sZ ns=>let#[a,e,_]:=rR.mp h;rw[e];rfl
 |tab kvs=>let#[a,e,_]:=uQ.mp h;rw[e];rfl
def Ra:iq X (bF .Is) (tw c .Qz):=by
 x_go;let#[ux,uy,ρ,S,hx,hy,R,w]:=h;have e:uy=.b7:=by cases uy<;>first|rfl|exact aV w
 subst e;rw[PL.Zj] at w;erw[P6 pZ s σ H x y v u Q I rx ry #[fj.mp hy,by rw[x8 hx];exact w]]
def Ji:iq X (bF .IsNot) (tw c .C2):=by
 x_go;let#[ux,uy,ρ,S,hx,hy,R,w]:=h;have e:uy=.b7:=by cases uy<;>first|rfl|exact aV w
 subst e;rw[PL.QT] at w;erw[LX pZ s σ H x y v u Q I rx ry #[fj.mp hy,by rw[x8 hx];exact w]]
def oZ(f:PL.flat u=ζ)(h:Rep c ρ H u v):qj v=ζ:=by
 cases u<;>first|exact ff f| (rw[fj.mp h];rfl)| (rw[fc.mp h];rfl)| (rw[aO.mp h];rfl)| (rw[bC.mp h];rfl)
def M5(f:PL.flat u=ζ)(f':PL.flat u'=ζ)(h:Rep c ρ H u v)(h':Rep c ρ H u' v'):Me v v'=PL.pE u u':=by
 cases u<;>first|exact ff f| (cases u'<;>first|exact ff f'| ((first|rw[fj.mp h]|rw[fc.mp h]|rw[aO.mp h]|rw[bC.mp h]);(first|rw[fj.mp h']|rw[fc.mp h']|rw[aO.mp h']|rw[bC.mp h']);first|rfl|exact dv.mpr (by rename_i a b;show(tx a==tx b)=ζ↔(a==b)=ζ;simp[OH])))
def rS(f:PL.flat u=ζ)(h:Rep c ρ H u v):∀{us:List U}{vs:List V},us.all PL.flat=ζ->a9 c ρ H us vs->vs.all qj=ζ/\XU v vs=us.any λy=>PL.pE y u
 |[],_,_,r=>by unfold a9 at r;subst r;exact#[rfl,rfl]
 |w::us,_,a,r=>by
  unfold a9 at r;let#[x,t,e,h1,h2]:=r;subst e;rw[bQ,ar] at a;let#[z1,z2]:=rS f h a.2 h2;refine#[by rw[bQ,oZ a.1 h1,z1];rfl,?_];unfold XU at z2 ⊢;rw[dm,dm,z2,M5 a.1 f h1 h]
def lookup_tab{kvs:List (List Nat×List Nat)}{k v:List Nat}(h:kvs.lookup k=ξ v):(kvs.map λp=>(tx p.1,V.str (tx p.2))).lookup (tx k)=ξ (V.str (tx v)):=by
 induction kvs with
 |nil=>cases h
 |cons p r ih=>
  let#[a,b]:=p;rw[az,aP]
  rw[aP] at h;by_cases e:k=a
  .subst e
   simp at h ⊢;erw[h]
  .have e2:(k==a)=ϑ:=by simp[e]
   have e3:(tx k==tx a)=ϑ:=by
    rw[beq_eq_false_iff_ne];erw[λz=>e (qC z)]
   rw[e2] at h;dsimp[e3];erw[ih h]
def Bn{kvs:List (List Nat×List Nat)}{k:List Nat}(h:kvs.lookup k=ψ):(kvs.map λp=>(tx p.1,V.str (tx p.2))).lookup (tx k)=ψ:=by
 induction kvs with
 |nil=>rfl
 |cons p r ih=>
  rw[aP] at h;rw[az,aP]
  cases z:k==p.1 with
  |true=>rw[z] at h;cases h
  |false=>
   rw[z] at h;have:(tx k==tx p.1)=ϑ:=by
    rw[beq_eq_false_iff_ne] at z ⊢;erw[λe=>z (qC e)]
   rw[this]
   erw[ih h]
def Jj(hu:PL.wH u=ζ):∀{us:List U},PL.jV us=ζ->((kI us).any λe=>Ce e (nV u))=us.any λy=>PL.pE y u
 |[],_=>by unfold kI;rfl
 |w::us,d=>by
  unfold PL.jV at d;rw[ar] at d;unfold kI;rw[dm,dm,Jj hu d.2,OW w u d.1 hu]
def Rb(hK:X.K=c.K)(hP:X.w.params=c.w.params):iq X (bF .In) (tw c .isin):=by
 x_go;let#[ux,uy,ρ,S,hx,hy,R,w]:=h;cases uy with
 |str b=>
  let#[a,rfl,w]:=PL.nI.mp w;erw[FW pZ s σ H x y v u Q I rx ry #[a,b,bC.mp hx,bC.mp hy,w]]
 |tab kvs=>
  let#[k,rfl,w]:=PL.nI.mp w;let#[a,e,h1]:=uQ.mp hy;have w:Q (.bl (kvs.lookup k).isSome) H:=w;have ex:=h1.ex;rw[<-hK,<-hP] at ex;cases z:kvs.lookup k with
  |some t=>
   let#[u',_,e2]:=h1.at_ _ _ (lookup_tab z);exact IE pZ s σ H x y v u Q I rx ry #[a,_,ξ u',bC.mp hx,e,ex,h1.ns,hK▸e2,by rw[z] at w;erw[w]]
  |none=>
   have e2:=h1.no _ (Bn z);exact IE pZ s σ H x y v u Q I rx ry #[a,_,ψ,bC.mp hx,e,ex,h1.ns,hK▸e2,by rw[z] at w;erw[w]]
 |tup us=>
  rw[PL.QQ] at w;let#[#[f,a],w]:=w;let#[p,vs,e,h1,h2]:=dG.mp hy;let#[z1,z2]:=rS f hx a h2;erw[xK pZ s σ H x y v u Q I rx ry #[p,vs,e,.inr (lO.of h1),oZ f hx,z1,by rw[z2];exact w]]
 |loc n=>
  rw[PL.QS] at w;let#[us,g,#[f,a],w]:=PL.cK.mp w;let#[p,vs,e,_,h1,h2]:=R.lst g hy;let#[z1,z2]:=rS f hx a h2;erw[xK pZ s σ H x y v u Q I rx ry #[p,vs,e,.inl (ij.of h1),oZ f hx,z1,by rw[z2];exact w]]
 |_=>erw[aV w]
def Ge(hK:X.K=c.K)(hu:X.A.units+200<gv):iq X (bF .NotIn) (tw c .mU):=by
 x_go;let#[ux,uy,ρ,S,hx,hy,R,w]:=h;cases uy with
 |str b=>
  let#[a,rfl,w]:=PL.nI.mp w;erw[zm pZ s σ H x y v u Q I rx ry #[a,b,bC.mp hx,bC.mp hy,w]]
 |tup us=>
  rw[PL.QR] at w;let#[#[f,a],w]:=w;let#[p,vs,e,h1,h2]:=dG.mp hy;let#[z1,z2]:=rS f hx a h2;erw[rF pZ s σ H x y v u Q I rx ry #[p,vs,e,.inr (lO.of h1),oZ f hx,z1,by rw[z2];exact w]]
 |loc n=>
  by_cases ht:∃ts,ux=.tup ts
  .let#[ts,rfl]:=ht
   rw[PL.MM] at w;let#[us,g,#[d1,d2,d3],w]:=PL.cK.mp w;let#[p,vs,e,_,h1,h2]:=R.lst g hy;have dt:PL.wH (.tup ts)=ζ:=by unfold PL.wH;erw[d1]
   rwa[F5 hu pZ s σ H x y v u Q I rx ry #[p,vs,kI us,nV (.tup ts),e,ij.of h1,hK▸vN d2 h2,hK▸Ew dt hx,%[zz us d2|d3],?_]];rw[Jj dt d2]
   erw[w]
  have w:PL.getL S[n]? λus=>PL.rJ ux us λb=>Q (.bl !b) H:=by
   cases ux<;>first|exact w|exact absurd #[_,rfl] ht
  let#[us,g,#[f,a],w]:=PL.cK.mp w;let#[p,vs,e,_,h1,h2]:=R.lst g hy;let#[z1,z2]:=rS f hx a h2;erw[rF pZ s σ H x y v u Q I rx ry #[p,vs,e,.inl (ij.of h1),oZ f hx,z1,by rw[z2];exact w]]
 |_=>erw[aV w]
abbrev vO:U->Key
 |.int i=>.inl i
 |.str l=>.inr (ξ (tx l))
 |_=>.inr ψ
section
variable{ρ:List Addr}{H:Hp}{S:bG}
def km(hk:PL.nH u=ζ)(r:Rep c ρ H u v):v=kV (vO u):=by
 cases u<;>first|exact ff hk|skip
 .erw[fj.mp r]
 .erw[aO.mp r]
 .erw[bC.mp r]
def M6(r:Rep c ρ H a (kV b)):PL.nH a=ζ/\vO a=b:=by
 have nr:∀p,kV b≠V.ref p:=λp=>by rcases b with i|_|x<;>exact λe=>nomatch e
 cases a<;>unfold Rep at r
 .rcases b with i|_|x<;>cases r;exact#[rfl,rfl]
 .rcases b with i|_|x<;>cases r
 .rcases b with i|_|x<;>cases r;exact#[rfl,rfl]
 .rcases b with i|_|x<;>cases r;exact#[rfl,rfl]
 .let#[p,_,e,_]:=r;erw[absurd e (nr p)]
 .let#[p,e,_]:=r;erw[absurd e (nr p)]
 .let#[p,e,_]:=r;erw[absurd e (nr p)]
 .let#[p,e,_]:=r;erw[absurd e (nr p)]
def Ez(ha:PL.nH a=ζ)(hu:PL.nH u=ζ):PL.TZ a u=ζ↔vO a=vO u:=by
 cases a<;>first|exact ff ha| (cases u<;>first|exact ff hu|skip)
 .exact#[λ_=>rfl,λ_=>rfl]
 .exact#[λe=>ff e,λe=>by cases e]
 .exact#[λe=>ff e,λe=>by cases e]
 .exact#[λe=>ff e,λe=>by cases e]
 .exact#[λe=>congrArg xh (eq_of_beq e),λe=>beq_iff_eq.mpr (Aw e)]
 .exact#[λe=>ff e,λe=>by cases e]
 .exact#[λe=>ff e,λe=>by cases e]
 .exact#[λe=>ff e,λe=>by cases e]
 .exact#[λe=>by rw[eq_of_beq e],λe=>beq_iff_eq.mpr (qC (aH (tU e)))]
def rT(hu:PL.nH u=ζ):∀{kvs:List (U×U)}{vs:List (Key×V)},vs.length=kvs.length->a9 c ρ H (kvs.map (·.1)) (vs.map λp=>kV p.1)->a9 c ρ H (kvs.map (·.2)) (vs.map (·.2)) ->
  (PL.uK u kvs=ψ/\jK vs (vO u)=ψ)\/∃u' v',PL.uK u kvs=ξ u'/\jK vs (vO u)=ξ v'/\Rep c ρ H u' v':=by
 intro kvs;induction kvs with
 |nil=>intro vs hl _ _;cases vs with|nil=>erw[.inl #[rfl,rfl]]|cons _ _=>cases hl
 |cons p ps ih=>
  intro vs hl h1 h2;let#[a,w]:=p;cases vs with|nil=>cases hl|cons p vs=>?_
  let#[b,y]:=p;dsimp[az] at h1 h2;unfold a9 at h1 h2;let#[v1,r1,e1,p1,q1]:=h1;let#[v2,r2,e2,p2,q2]:=h2;cases e1;cases e2;let#[ka,rfl]:=M6 p1;unfold PL.uK;by_cases ek:PL.TZ a u=ζ
  .rw[if_pos ek,ly ((Ez ka hu).mp ek)]
   erw[.inr #[w,y,rfl,rfl,p2]]
  .rw[if_neg ek,lz λz=>ek ((Ez ka hu).mpr z)]
   erw[ih (nh hl) q1 q2]
def cD.dd(R:cD c ρ H S)(e:S[n]?=ξ (.eh kvs)\/S[n]?=ξ (.qD kvs))(r:Rep c ρ H (.loc n) v):
  ∃a vs,v=.ref a/\ρ[n]?=ξ a/\Rd H a (.dK vs)/\vs.length=kvs.length/\a9 c ρ H (kvs.map (·.1)) (vs.map λp=>kV p.1)/\a9 c ρ H (kvs.map (·.2)) (vs.map (·.2)):=by
 let#[a,ev,ha]:=eR.mp r;rcases e with e|e
 .let#[vs,h1,h2]:=R.at_ n a _ ha e
  exact#[a,vs,ev,ha,.inl h1,h2]
 .let#[o,vs,h1,h2]:=R.at_ n a _ ha e
  exact#[a,vs,ev,ha,.inr #[o,h1],h2]
end
def Jk(hu:X.A.units+200<gv):iq X (bF .NotIn) (tw c .C3):=by
 x_go;let#[ux,uy,ρ,S,hx,hy,R,w]:=h;let#[n,rfl,w]:=PL.iw.mp (show PL.sE _ _ from w);let#[kvs,e,hk,w]:=PL.jc.mp w;let#[a,vs,rfl,_,g1,g2,g3,g4]:=R.dd e hy;cases (show u=bu a from ry);have g:sS H a x (jK vs (vO ux)):=.inl #[vs,vO ux,g1,km hk hx,rfl];rwa[Mj ∅ I g rx λs' I'=>#[.bl _,H,I',rfl,?_]]
 rcases rT hk g2 g3 g4 with⟨l1,l2⟩|⟨u',v',l1,l2,_⟩<;>rw[l1] at w<;>rw[l2]<;>exact w
section
variable{ρ:List Addr}{H:Hp}
def kJ{u:U}{vs:List V}(h:a9 c ρ H [u] vs):∃v,vs=[v]/\Rep c ρ H u v:=by
 unfold a9 at h;let#[v,r,e,h1,h2]:=h;unfold a9 at h2;subst h2;exact#[v,e,h1]
def x9{u w:U}{vs:List V}(h:a9 c ρ H [u,w] vs):∃v z,vs=[v,z]/\Rep c ρ H u v/\Rep c ρ H w z:=by
 unfold a9 at h;let#[v,r,e,h1,h2]:=h;let#[z,e2,h3]:=kJ h2;subst e2;exact#[v,z,e,h1,h3]
end
def M7(hK:X.K=c.K)(hu:X.A.units+200<gv):iq X (bF .GtE) (tw c .TV):=by
 x_go;let#[ux,uy,ρ,S,hx,hy,R,i,a,j,b,rfl,rfl,w]:=h;let#[p,vs,e1,h1,h2]:=dG.mp hx;let#[p',vs',e2,h3,h4]:=dG.mp hy;let#[v1,v2,e3,r1,r2]:=x9 h2;let#[v3,v4,e4,r3,r4]:=x9 h4;rw[e3,aO.mp r1,bC.mp r2] at h1;rw[e4,aO.mp r3,bC.mp r4] at h3;rwa[QG hu pZ s σ H x y v u Q I rx ry #[p,p',i,j,tx a,tx b,e1,e2,lO.of h1,lO.of h3,?_]];erw[w]
abbrev EA:PL.OI->CmpOp
 |.eq=>.Eq|.ne=>.NotEq|.lt=>.Lt|.le=>.LtE|.gt=>.Gt|.ge=>.GtE|.isin=>.In|.mU=>.NotIn|.Qz=>.Is|.C2=>.IsNot|.C3=>.NotIn|.TV=>.GtE
def EB(hK:X.K=c.K)(hP:X.w.params=c.w.params)(hu:X.A.units+200<gv)(o:PL.OI):iq X (bF (EA o)) (tw c o):=by
 cases o
 .erw[Q4]
 .erw[Q5]
 .erw[Q6]
 .erw[Q7]
 .erw[Q8]
 .erw[Q9]
 .erw[Rb hK hP]
 .erw[Ge hK hu]
 .erw[Ra]
 .erw[Ji]
 .erw[Jk hu]
 .erw[M7 hK hu]
abbrev aak(c:Ctx):R2:=λx y H Q=>∃ux uy ρ S,Rep c ρ H ux x/\Rep c ρ H uy y/\cD c ρ H S/\PL.Ek ux uy S λu=>∀v,Rep c ρ H u v->Q v H
def Dl(r:a9 c ρ H us vs)(h:PL.qV us i=ξ u):∃v,Qh vs i=ξ v/\Rep c ρ H u v:=by
 unfold PL.qV at h;unfold Qh;have e:Qg vs.length i=PL.IC us.length i:=by rw[r.len];rfl
 rw[e]
 cases q:PL.IC us.length i with
 |none=>rw[q] at h;cases h
 |some j=>
  rw[q] at h;erw[r.get h]
def ya:∀{ns:List Int},a9 c ρ H (ns.map .int) (ns.map V.int)
 |[]=>a9.nil
 |n::ns=>a9.cons (aO.mpr rfl) ya
def Rc(hK:X.K=c.K)(hP:X.w.params=c.w.params):TQ X (aak c):=by
 intro value slice pZ s σ H x y v u Q I rx ry h hs;let#[ux,uy,ρ,S,hx,hy,R,w]:=h;cases ux<;>first|exact aV w|skip
 .rename_i l
  let#[i,rfl,w]:=PL.fZ.mp w;let#[w1,w2]:=w;let#[k,g,w3]:=PL.iT.mp w2;erw[Qj value slice pZ s σ H x y v u Q I rx ry #[_,i,k,bC.mp hx,aO.mp hy,qp (by rw[dS];exact w1),g,w3 _ (bC.mpr rfl)] hs]
 .rename_i us
  let#[i,rfl,w]:=PL.fZ.mp w;let#[w1,w2]:=w;let#[k,g,w3]:=PL.iT.mp w2;let#[p,vs,e,h1,h2]:=dG.mp hx;let#[z,e2,r2]:=Dl h2 g;erw[Qi value slice pZ s σ H x y v u Q I rx ry #[p,vs,i,z,e,aO.mp hy,lO.of h1,e2,w3 _ r2] hs]
 .rename_i n
  let#[i,rfl,w]:=PL.fZ.mp w;let#[us,g0,w1]:=PL.cK.mp w;let#[k,g,w3]:=PL.iT.mp w1;let#[p,vs,e,_,h1,h2]:=R.lst g0 hx;let#[z,e2,r2]:=Dl h2 g;erw[Ed value slice pZ s σ H x y v u Q I rx ry #[p,vs,i,z,e,aO.mp hy,ij.of h1,e2,w3 _ r2] hs]
 .rename_i ns
  let#[i,rfl,w]:=PL.fZ.mp w;let#[w1,w2]:=w;let#[k,g,w3]:=PL.iT.mp w2;let#[p,e,h1]:=rR.mp hx;have g':PL.qV (ns.map U.int) i=ξ (.int k):=by
   unfold PL.qV at g ⊢;rw[ae]
   cases q:PL.IC ns.length i with
   |none=>rw[q] at g;erw[nn g]
   |some j=>rw[q] at g;simp at g ⊢;erw[g]
  let#[z,e2,r2]:=Dl (c:=c) (ρ:=ρ) (H:=H) ya g';erw[Ed value slice pZ s σ H x y v u Q I rx ry #[p,_,i,z,e,aO.mp hy,hK▸h1.sq,e2,w3 _ r2] hs]
 .rename_i kvs
  let#[k,rfl,w]:=PL.nI.mp w;let#[z,g,w3]:=PL.iT.mp w;let#[a,e,h1]:=uQ.mp hx;erw[zg value slice pZ s σ H x y v u Q I rx ry #[a,_,_,_,e,bC.mp hy,by rw[hK,hP];exact h1,lookup_tab g,w3 _ (bC.mpr rfl)] hs]
abbrev aal(c:Ctx):V->Option Int->Option Int->Hp->VK->Prop:=λx lo hi H Q=>∃ux ρ S QU,Rep c ρ H ux x/\cD c ρ H S/\PL.QC ux lo hi S QU/\QV c ρ H QU Q
def Jl{lo:Option Int}{n:Nat}(h:∀i,lo=ξ i->0<=i):HT.jJ n 0 lo=min (lo.getD 0).toNat n:=by
 cases lo with
 |none=>simp[HT.jJ]
 |some i=>have:=h i rfl;dsimp[HT.jJ,eI];rw[if_neg ∅]
def Rf(h:∀i,hi=ξ i->0<=i):HT.jJ n n hi=min (hi.getD n).toNat n:=by
 cases hi with
 |none=>simp[HT.jJ]
 |some i=>have:=h i rfl;dsimp[HT.jJ,eI];rw[if_neg ∅]
def EC{ρ:List Addr}{H:Hp}{us:List U}{vs:List V}{lo hi:Option Int}(h1:∀i,lo=ξ i->0<=i)(h2:∀i,hi=ξ i->0<=i)(r:a9 c ρ H us vs):a9 c ρ H (PL.qF us lo hi) (AX vs lo hi):=by
 unfold PL.qF AX;rw[Jl h1,Rf h2,<-r.len]
 exact(r.drop _).take _
def Rg(hK:X.K=c.K):UU X (aal c):=by
 intro pZ s σ H x v vl vu lo hi sl Q I rx hs pl pu h;let#[ux,ρ,S,QU,hx,R,#[#[b1,b2],w],q]:=h;cases ux<;>try exact aV w
 .rename_i l
  let#[w1,w2]:=w;rwa[Vb pZ s σ H x v vl vu lo hi sl Q I rx hs pl pu #[l,min (lo.getD 0).toNat l.length,min (hi.getD l.length).toNat l.length,bC.mp hx,qp w1,?_,?_,q.now R w2 (bC.mpr rfl)]]
  .cases lo with
   |none=>erw[.inl #[rfl,#v[]]]
   |some a=>erw[.inr #[a,rfl,b1 a rfl,rfl]]
  .cases hi with
   |none=>erw[.inl #[rfl,#v[]]]
   |some a=>erw[.inr #[a,rfl,b2 a rfl,rfl]]
 .rename_i us
  let#[#[w1,w0,w3],w2]:=w;let#[a,vs,e,g1,g2]:=dG.mp hx;rwa[Qf pZ s σ H x v vl vu lo hi sl Q I rx hs pl pu #[a,vs,e,lO.of g1,λz=>?_,λp hp=>q.MS R (EC b1 b2 g2) w2 hp]];have z1:=z.1;rw[Jl b1,<-g2.len] at z1;have:0<us.length:=qT.mpr w0;omega
 .rename_i n
  let#[us,g0,w1]:=PL.cK.mp w;let#[a,vs,e,_,g1,g2]:=R.lst g0 hx;erw[Md pZ s σ H x v vl vu lo hi sl Q I rx hs pl pu #[a,vs,e,ij.of g1,λp hp=>q.Gb R (EC b1 b2 g2) w1 hp]]
end
open PL (U SO bG KU Spec bY)
abbrev rV(c:Ctx)(b:PL.Vc):List V->Hp->VK->Prop:=λxs H Q=>∃us ρ S QU,a9 c ρ H us xs/\cD c ρ H S/\PL.tj b us S QU/\QV c ρ H QU Q
abbrev rW(c:Ctx)(m:PL.OJ):V->List V->Hp->VK->Prop:=λx xs H Q=>∃u us ρ S QU,Rep c ρ H u x/\a9 c ρ H us xs/\cD c ρ H S/\PL.qG m u us S QU/\QV c ρ H QU Q
section
variable{X:Cx}{c:Ctx}{ρ:List Addr}{H:Hp}{S:bG}
def Jm(hK:X.K=c.K)(R:cD c ρ H S)(r:Rep c ρ H u v)(h:PL.mH S u=ξ n)(hn:n<=1000000):UO X.K v H n\/(∃a kvs,v=.ref a/\H a=ξ (.dK kvs)/\n=kvs.length)\/∃a kvs,v=.ref a/\H a=ξ (.dP kvs)/\n=kvs.length:=by
 cases u with
 |str l=>rw[bC.mp r];obtain rfl:=aH h;erw[.inl #[qp (by rw[dS];exact hn),(dS l).symm]]
 |tup us=>
  let#[a,vs,e,h1,h2]:=dG.mp r;obtain rfl:=aH h;rw[e]
  erw[.inl (.inr #[vs,lO.of h1,h2.len])]
 |sZ ns=>
  let#[a,e,h1]:=rR.mp r;obtain rfl:=aH h;rw[e]
  erw[.inl (.inl #[_,hK▸h1.sq,#v[]])]
 |loc m=>
  unfold PL.mH at h;cases q:S[m]? with
  |none=>dsimp[q] at h;erw[nn h]
  |some o=>
   dsimp[q] at h;cases o with
   |lst us=>
    let#[a,vs,e,_,h1,h2]:=R.lst q r;simp at h;subst h;rw[e]
    erw[.inl (.inl #[vs,ij.of h1,h2.len])]
   |eh kvs=>
    let#[a,e,ha]:=eR.mp r;let#[vs,h1,h2,_]:=R.at_ m a _ ha q;simp at h;subst h;erw[.inr (.inl #[a,vs,e,h1,h2.symm])]
   |xS kvs=>
    let#[a,e,ha]:=eR.mp r;let#[vs,h1,h2,_]:=R.at_ m a _ ha q;simp at h;subst h;exact .inr (.inr #[a,vs,e,h1,by have:=congrArg cR h2;simpa using this.symm])
   |ins x fs=>erw[nn h]
   |qD x=>erw[nn h]
   |uJ x=>erw[nn h]
 |_=>erw[nn h]
def M8(hK:X.K=c.K):iI X (.builtin "len") (rV c .len):=by
 k_go;let#[ux,ρ,S,QU,hx,R,w,q]:=h
 match ux,w with
 |[u],w=>
  let#[n,e,w1,w2]:=PL.iT.mp (show PL.opt _ _ from w);let#[v,e1,r1]:=kJ hx;rcases Jm hK R r1 e w1 with l|⟨a,kvs,e2,g,e3⟩|⟨a,kvs,e2,g,e3⟩
  .erw[HR pZ s σ H xs us Q I r #[v,n,e1,l,q.now R w2 (aO.mpr rfl)]]
  .erw[FP pZ s σ H xs us Q I r #[a,kvs,by rw[e1,e2],g,by rw[<-e3];exact q.now R w2 (aO.mpr rfl)]]
  .erw[F6 pZ s σ H xs us Q I r #[a,kvs,by rw[e1,e2],g,by rw[<-e3];exact q.now R w2 (aO.mpr rfl)]]
def Gf(hK:X.K=c.K):iI X (.type "tuple") (rV c .tuple):=by
 k_go;let#[ux,ρ,S,QU,hx,R,w,q]:=h
 match ux,w with
 |[.loc n],w=>
  let#[us',e,w1]:=PL.cK.mp (show PL.getL _ _ from w);let#[v,e1,r1]:=kJ hx;let#[a,vs,e2,_,g1,g2]:=R.lst e r1;erw[wV pZ s σ H xs us Q I r #[a,vs,by rw[e1,e2],.inl #[ij.of g1,λl hl=>q.MS R g2 w1 hl]]]
def Jn(hK:X.K=c.K):iI X (.type "list") (rV c .list):=by
 k_go;let#[ux,ρ,S,QU,hx,R,w,q]:=h
 match ux,w with
 |[.loc n],w=>
  let#[us',e,w1]:=PL.cK.mp (show PL.getL _ _ from w);let#[v,e1,r1]:=kJ hx;let#[a,vs,e2,_,g1,g2]:=R.lst e r1;erw[rG pZ s σ H xs us Q I r #[a,vs,by rw[e1,e2],.inl (ij.of g1),λl hl=>q.Gb R g2 w1 hl]]
 |[.tup us'],w=>
  let#[v,e1,r1]:=kJ hx;let#[a,vs,e2,g1,g2]:=dG.mp r1;erw[rG pZ s σ H xs us Q I r #[a,vs,by rw[e1,e2],.inr (lO.of g1),λl hl=>q.Gb R g2 w.2 hl]]
def qJ:∀{bs:List Bool}{vs:List V},a9 c ρ H (bs.map .bl) vs->vs=bs.map V.bl
 |[],_,h=>by unfold a9 at h;erw[h]
 |t::ts,_,h=>by
  rw[az] at h;unfold a9 at h;let#[v,r,e,h1,h2]:=h;rw[e,fc.mp h1,qJ h2];rfl
def lB:∀{bs:List Int}{vs:List V},a9 c ρ H (bs.map .int) vs->vs=bs.map V.int
 |[],_,h=>by unfold a9 at h;erw[h]
 |t::ts,_,h=>by
  rw[az] at h;unfold a9 at h;let#[v,r,e,h1,h2]:=h;rw[e,aO.mp h1,lB h2];rfl
def Jo(hc:X.calm=ζ):iI X (.builtin "all") (rV c .all):=by
 k_go;let#[ux,ρ,S,QU,hx,R,w,q]:=h
 match ux,w with
 |[.loc n],w=>
  let#[bs,e,w1]:=w;let#[v,e1,r1]:=kJ hx;let#[a,vs,e2,_,g1,g2]:=R.lst e r1;rw[qJ g2] at g1;erw[C7 hc pZ s σ H xs us Q I r #[a,bs,by rw[e1,e2],ij.of g1,q.now R w1 (fc.mpr rfl)]]
def M9(hc:X.calm=ζ):iI X (.builtin "sum") (rV c .sum):=by
 k_go;let#[ux,ρ,S,QU,hx,R,w,q]:=h
 match ux,w with
 |[.loc n],w=>
  let#[bs,e,w1]:=w;let#[v,e1,r1]:=kJ hx;let#[a,vs,e2,_,g1,g2]:=R.lst e r1;rw[lB g2] at g1;erw[C8 hc pZ s σ H xs us Q I r #[a,bs,by rw[e1,e2],ij.of g1,q.now R w1 (aO.mpr rfl)]]
def Na(hc:X.calm=ζ):iI X (.builtin "max") (rV c .max):=by
 k_go;let#[ux,ρ,S,QU,hx,R,w,q]:=h
 match ux,w with
 |[.loc n],w=>
  let#[i,is,e,w1]:=w;let#[v,e1,r1]:=kJ hx;let#[a,vs,e2,_,g1,g2]:=R.lst e r1;rw[lB g2] at g1;erw[Dg hc pZ s σ H xs us Q I r #[a,i,is,by rw[e1,e2],ij.of g1,λm h1 h2=>q.now R (w1 m h1 h2) (aO.mpr rfl)]]
def Jp(hc:X.calm=ζ):iI X (.builtin "any") (rV c .any):=by
 k_go;let#[ux,ρ,S,QU,hx,R,w,q]:=h
 match ux,w with
 |[.loc n],w=>
  let#[bs,e,w1]:=w;let#[v,e1,r1]:=kJ hx;let#[a,vs,e2,_,g1,g2]:=R.lst e r1;rw[qJ g2] at g1;erw[De hc pZ s σ H xs us Q I r #[a,bs,by rw[e1,e2],ij.of g1,q.now R w1 (fc.mpr rfl)]]
def vP:∀{ps:List (List Nat×U)}{vs:List V},a9 c ρ H (ps.map λp=>.tup [.str p.1,p.2]) vs->∃kvs:List (Key×V),Paired (QE H) vs kvs/\kvs.map (·.1)=ps.map (λp=>jo (ξ (tx p.1)))/\a9 c ρ H (ps.map (·.2)) (kvs.map (·.2))
 |[],_,h=>by
  unfold a9 at h;subst h;exact#[[],.nil,rfl,a9.nil]
 | (k,u)::ps,_,h=>by
  rw[az] at h;unfold a9 at h;let#[v,r,e,h1,h2]:=h;subst e;let#[kvs,g1,g2,g3]:=vP h2;let#[a,vs,e1,ha,hr]:=dG.mp h1;let#[x,y,e2,r1,r2]:=x9 hr;subst e2;rw[bC.mp r1] at ha;exact#[(jo (ξ (tx k)),y)::kvs,.cons #[a,e1,ha] g1,by rw[az,az,g2],a9.cons r2 g3]
def yb:∀{ks:List (List Nat)},a9 c ρ H (ks.map .str) (ks.map λk=>kV (jo (ξ (tx k))))
 |[]=>a9.nil
 |_::_=>a9.cons (bC.mpr rfl) yb
def Jq(hA:X.A.handled=ψ):iI X (.type "dict") (rV c .dict):=by
 k_go;let#[ux,ρ,S,QU,hx,R,w,q]:=h
 match ux,w with
 |[.loc n],w=>
  let#[ps,e,nd,w1]:=w;let#[v,e1,r1]:=kJ hx;let#[a,vs,e2,_,g1,g2]:=R.lst e r1;let#[kvs,k1,k2,k3]:=vP g2;rwa[Dc hA pZ s σ H xs us Q I r #[a,vs,kvs,by rw[e1,e2],g1,k1,?_,λp hp=>?_]]
  .rw[k2,show ps.map (λp=>(jo (ξ (tx p.1)):Key))=(ps.map (·.1)).map (λk=>jo (ξ (tx k))) by rw[bw];rfl]
   erw[oN _ (λa b h e=>h (qC (aH (tU e)))) nd]
  .have st:=iJ.alloc R hp (.dK kvs)
   have e5:kvs.map (λp=>kV p.1)=(ps.map (·.1)).map λk=>kV (jo (ξ (tx k))):=by
    rw[show kvs.map (λp=>kV p.1)=(kvs.map (·.1)).map kV by rw[bw];rfl,k2,bw,bw];rfl
   have R':cD c (ρ++[p]) (upd H p (.dK kvs)) (S++[.eh (ps.map λp=>(.str p.1,p.2))]):=R.alloc hp #[kvs,bX,by have:=congrArg cR k2;simpa using this,by
     rw[e5,bw,show(DZ∘λp:List Nat×U=>(U.str p.1,p.2))=U.str∘DZ from rfl,<-bw];erw[yb],by
     rw[bw];erw[k3.mono R st]]
   rwa[q _ _ _ _ _ w1 st R' (eR.mpr #[p,rfl,?_])];rw[<-R.len,ax (aq _),bL];rfl
def Dm:Cd X "int.bit_length" (rW c .nF):=by
 intro pZ s σ H x xs v us Q I rx r h;let#[u,ux,ρ,S,QU,hu,hx,R,w,q]:=h
 match u,ux,w with
 |.int i,[],w=>
  let#[w0,w1]:=w;unfold a9 at hx;rwa[F4 pZ s σ H x xs v us Q I rx r #[i.toNat,by rw[aO.mp hu];congr 1;omega,hx,q.now R w1 (aO.mpr rfl)]]
def Nb:∀{ps:List (List Nat×U)}{vs:List (Key×V)}{k:List Nat},vs.length=(ps.map λp=>(U.str p.1,p.2)).length->a9 c ρ H ((ps.map λp=>(U.str p.1,p.2)).map (·.1)) (vs.map λp=>kV p.1)->a9 c ρ H ((ps.map λp=>(U.str p.1,p.2)).map (·.2)) (vs.map (·.2)) ->
  (ps.lookup k=ψ/\jK vs (jo (ξ (tx k)))=ψ)\/∃u v,ps.lookup k=ξ u/\jK vs (jo (ξ (tx k)))=ξ v/\Rep c ρ H u v
 := by
 intro ps;induction ps with
 |nil=>intro vs k hl _ _;cases vs with|nil=>erw[.inl #[rfl,rfl]]|cons _ _=>cases hl
 |cons p ps ih=>
  intro vs k hl h1 h2;let#[a,u]:=p;cases vs with|nil=>cases hl|cons p vs=>?_
  let#[b,y]:=p;dsimp[az] at h1 h2;unfold a9 at h1 h2;let#[v1,r1,e1,p1,q1]:=h1;let#[v2,r2,e2,p2,q2]:=h2;cases e1;cases e2;have eb:b=jo (ξ (tx a)):=by
   have:=bC.mp p1;erw[Qq (b:=jo (ξ (tx a))) this]
  subst eb;by_cases ek:k=a
  .subst ek
   erw[.inr #[u,y,#v[],ly rfl,p2]]
  .have e3:(k==a)=ϑ:=by simp[ek]
   rw[aP,e3,lz (λz=>ek (qC (aH (tU z))).symm)]
   erw[ih (nh hl) q1 q2]
def join_eq(sep:List Nat):∀ts:List (List Nat),vy sep ts=PL.l9 sep ts
 |[]=>rfl
 |[x]=>rfl
 |x::y::r=>by
  unfold vy PL.l9;rw[join_eq sep (y::r)]
def tB:∀{ts:List (List Nat)}{vs:List V},a9 c ρ H (ts.map .str) vs->vs=ts.map λt=>V.str (tx t)
 |[],_,h=>by unfold a9 at h;erw[h]
 |t::ts,_,h=>by
  rw[az] at h;unfold a9 at h;let#[v,r,e,h1,h2]:=h;rw[e,bC.mp h1,tB h2];rfl
def Jr(hK:X.K=c.K):Cd X "str.join" (rW c .join):=by
 intro pZ s σ H x xs v us Q I rx r h;let#[u,ux,ρ,S,QU,hu,hx,R,w,q]:=h
 match u,ux,w with
 |.str sep,[.loc n],w=>
  let#[ts,e,w1,w2]:=w;let#[z,e1,r1]:=kJ hx;let#[a,vs,e2,_,g1,g2]:=R.lst e r1;rw[tB g2] at g1;erw[Eh pZ s σ H x xs v us Q I rx r #[sep,ts,a,bC.mp hu,by rw[e1,e2],ij.of g1,w1,by rw[join_eq];exact q.now R w2 (bC.mpr rfl)]]
def Dn:Cd X "str.startswith" (rW c .startswith):=by
 intro pZ s σ H x xs v us Q I rx r h;let#[u,ux,ρ,S,QU,hu,hx,R,w,q]:=h
 match u,ux,w with
 |.str l,[.str k],w=>
  let#[z,e1,r1]:=kJ hx;erw[xW pZ s σ H x xs v us Q I rx r #[l,k,bC.mp hu,by rw[e1,bC.mp r1],q.now R w (fc.mpr rfl)]]
def Gg(hA:X.A.handled=ψ):Cd X "str.index" (rW c .index):=by
 intro pZ s σ H x xs v us Q I rx r h;let#[u,ux,ρ,S,QU,hu,hx,R,w,q]:=h
 match u,ux,w with
 |.str l,[.str k],w=>
  let#[d,e,w1,w2]:=w;subst e;let#[z,e1,r1]:=kJ hx;erw[A8 hA pZ s σ H x xs v us Q I rx r #[l,d,bC.mp hu,by rw[e1,bC.mp r1],w1,q.now R w2 (aO.mpr rfl)]]
def QV.putL(q:QV c ρ H QU Q)(R:cD c ρ H S)(ha:ρ[n]?=ξ a)(hw:H a=ξ (.lst ws))(r:a9 c ρ H us vs)(h:QU .b7 (S.set n (.lst us))):Q .b7 (upd H a (.lst vs)):=by
 have st:=iJ.put (H:=H) (ah ha) hw rfl (.lst vs);erw[q _ _ _ _ _ h st (R.put ha hw rfl #[vs,bX,r.mono R st]) (fj.mpr rfl)]
def Nc:Cd X "list.pop" (rW c .pop):=by
 intro pZ s σ H x xs v us Q I rx r h;let#[u,ux,ρ,S,QU,hu,hx,R,w,q]:=h
 match u,ux,w with
 |.loc n,[.int i],w=>
  let#[rfl,w]:=w;let#[us',e,u0,r0,rfl,w2]:=PL.cK.mp w;let#[z,e1,r1]:=kJ hx;let#[a,vs,e2,ha,g1,g2]:=R.lst e hu;unfold a9 at g2;let#[v0,vs0,rfl,k1,k2]:=g2;have st:=iJ.put (H:=H) (ah ha) g1 rfl (.lst vs0);erw[Ih pZ s σ H x xs v us Q I rx r #[a,_,0,0,v0,e2,by rw[e1,aO.mp r1],g1,⋯,⋯,by simp[G8],rfl,q _ _ _ _ _ w2 st (R.put ha g1 rfl #[vs0,bX,k2.mono R st]) (k1.mono R st)]]
def Dp:Cd X "list.append" (rW c .append):=by
 intro pZ s σ H x xs v us Q I rx r h;let#[u,ux,ρ,S,QU,hu,hx,R,w,q]:=h
 match u,ux,w with
 |.loc n,[k],w=>
  let#[us',e,w1,w2]:=PL.cK.mp (show PL.getL _ _ from w);let#[z,e1,r1]:=kJ hx;let#[a,vs,e2,ha,g1,g2]:=R.lst e hu;rwa[sQ pZ s σ H x xs v us Q I rx r #[a,vs,z,e2,e1,g1,?_,q.putL R ha g1 (g2.app (a9.cons r1 a9.nil)) w2]];rw[<-g2.len];erw[av w1 ⋯]
def Dq:Cd X "list.extend" (rW c .extend):=by
 intro pZ s σ H x xs v us Q I rx r h;let#[u,ux,ρ,S,QU,hu,hx,R,w,q]:=h
 match u,ux,w with
 |.loc n,[.loc m],w=>
  let#[us',e,w1]:=PL.cK.mp (show PL.getL _ _ from w);let#[ws,e',w2,w3]:=PL.cK.mp w1;let#[z,e1,r1]:=kJ hx;let#[a,vs,e2,ha,g1,g2]:=R.lst e hu;let#[b,zs,e3,hb,g3,g4]:=R.lst e' r1;erw[xN pZ s σ H x xs v us Q I rx r #[a,b,vs,zs,e2,by rw[e1,e3],g1,g3,qp (by rw[<-g2.len,<-g4.len];exact w2),q.putL R ha g1 (g2.app g4) w3]]
def ED{κ κ':Type}[BEq κ][LawfulBEq κ][DecidableEq κ'](f:κ->κ')(hf:∀a b,f a=f b->a=b)(k:κ):∀{kvs:List (κ×U)}{vs:List (κ'×V)},vs.map (·.1)=kvs.map (λp=>f p.1)->a9 c ρ H (kvs.map (·.2)) (vs.map (·.2)) ->
  (kvs.lookup k=ψ/\jK vs (f k)=ψ)\/∃u v,kvs.lookup k=ξ u/\jK vs (f k)=ξ v/\Rep c ρ H u v:=by
 intro kvs;induction kvs with
 |nil=>intro vs hk _;cases vs with|nil=>erw[.inl #[rfl,rfl]]|cons _ _=>cases hk
 |cons p ps ih=>
  intro vs hk h2;let#[a,w]:=p;cases vs with|nil=>cases hk|cons p vs=>?_
  let#[b,y]:=p;dsimp[az,dE] at h2 hk;unfold a9 at h2;let#[v2,r2,e2,p2,q2]:=h2;cases e2;let#[rfl,hk]:=hk;by_cases e:k=a
  .subst e
   erw[.inr #[w,y,#v[],ly rfl,p2]]
  .have e3:(k==a)=ϑ:=by simp[e]
   rw[aP,e3,lz λz=>e (hf _ _ z).symm]
   erw[ih hk q2]
def QV.Rh(q:QV c ρ H QU Q)(R:cD c ρ H S)(ha:ρ[n]?=ξ a)(e:H a=ξ hw)(nf:Q0 hw=ϑ)(r:Rep c ρ H u v)(w:QU u (S.set n o))
  (hr:iJ ρ H ρ (upd H a ho)->uE c ρ (upd H a ho) a o):Q v (upd H a ho):=by
 have st:=iJ.put (H:=H) (ah ha) e nf ho;erw[q _ _ _ _ _ w st (R.put ha e nf (hr st)) (r.mono R st)]
def Js(hu:X.A.units+200<gv):Cd X "dict.setdefault" (rW c .ox):=by
 intro pZ s σ H x xs v us Q I rx r h;let#[u,ux,ρ,S,QU,hu',hx,R,w,q]:=h
 match u,ux,w with
 |.loc n,[k,d],w=>
  have w:PL.qm S n k d QU:=w;let#[a,e0,ha]:=eR.mp hu';let#[y,z,e1,r1,r2]:=x9 hx;rwa[Mq ∅ pZ s σ H x xs v us Q I rx r ?_];unfold PL.qm at w;cases hs:S[n]? with
  |none=>rw[hs] at w;erw[w.elim]
  |some o=>
   rw[hs] at w;cases o with
   |eh kvs=>
    let#[#[hk,hl],w]:=w;let#[vs,g1,g2,g3,g4]:=R.at_ n a _ ha hs;have hl':vs.length<sizeLine:=%[g2|av hl ⋯]
    rcases rT hk g2 g3 g4 with⟨l1,l2⟩|⟨u',v',l1,l2,l3⟩
    .rw[l1] at w
     refine#[a,y,z,z,_,e0,e1,.inl #[vs,vO k,g1,km hk r1,hl',.inr #[l2,rfl,rfl]],q.Rh R ha g1 rfl r2 w λst=>#[_,bX,by simp[g2],?_,?_]]
     .rw[aG,aG]
      exact(g3.mono R st).app (a9.cons (show Rep c ρ _ k (kV (vO k)) by rw[<-km hk r1];erw[r1.mono R st]) a9.nil)
     .rw[aG,aG]
      exact(g4.mono R st).app (a9.cons (r2.mono R st) a9.nil)
    .rw[l1] at w
     exact#[a,y,z,v',H,e0,e1,.inl #[vs,vO k,g1,km hk r1,hl',.inl #[l2,rfl]],q.now R w l3]
   |uJ kvs=>
    let#[ks,rfl,hl,w]:=w;let#[vs,g1,g2,g4]:=R.at_ n a _ ha hs;have hl':vs.length<sizeLine:=by
     have:=congrArg cR g2;simp at this;rw[this];erw[av hl ⋯]
    let#[b,ws,e2,hb,hw]:=dG.mp r1;rw[lB hw,show ks.map V.int=(ks.map xh).map kV by rw[bw];rfl] at hb;rcases ED (λl:List Int=>l.map (xh:Int->Key)) (λa b e=>(sA (λ_ _ e=>Aw e)).mp e) ks g2 g4 with⟨l1,l2⟩|⟨u',v',l1,l2,l3⟩
    .rw[l1] at w
     refine#[a,y,z,z,_,e0,e1,.inr (.inl #[vs,_,b,g1,e2,hb,hl',.inr #[l2,rfl,rfl]]),q.Rh R ha g1 rfl r2 w λst=>#[_,bX,by simp[g2],?_]];rw[aG,aG]
     exact(g4.mono R st).app (a9.cons (r2.mono R st) a9.nil)
    .rw[l1] at w
     exact#[a,y,z,v',H,e0,e1,.inr (.inl #[vs,_,b,g1,e2,hb,hl',.inl #[l2,rfl]]),q.now R w l3]
   |xS kvs=>
    let#[i,ks,rfl,hl,w]:=w;let#[vs,g1,g2,g4]:=R.at_ n a _ ha hs;have hl':vs.length<sizeLine:=by
     have:=congrArg cR g2;simp at this;rw[this];erw[av hl ⋯]
    let#[b,ws,e2,hb,hw]:=dG.mp r1;let#[x1,x2,e3,hi,ht]:=x9 hw;let#[b2,ws2,e4,hb2,hw2]:=dG.mp ht;rw[lB hw2] at hb2;rw[e3,aO.mp hi,e4] at hb;rcases ED (λp:Int×List Int=>p) (λa b e=>e) (i,ks) g2 g4 with⟨l1,l2⟩|⟨u',v',l1,l2,l3⟩
    .rw[l1] at w
     refine#[a,y,z,z,_,e0,e1,.inr (.inr #[vs,(i,ks),b,b2,g1,e2,hb,hb2,hl',.inr #[l2,rfl,rfl]]),q.Rh R ha g1 rfl r2 w λst=>#[_,bX,by simp[g2],?_]];rw[aG,aG]
     exact(g4.mono R st).app (a9.cons (r2.mono R st) a9.nil)
    .rw[l1] at w
     exact#[a,y,z,v',H,e0,e1,.inr (.inr #[vs,(i,ks),b,b2,g1,e2,hb,hb2,hl',.inl #[l2,rfl]]),q.now R w l3]
   |_=>erw[w.elim]
def Nd(hK:X.K=c.K)(R:cD c ρ H S)(r:Rep c ρ H u v)(h:PL.tf S u=ξ b):P7 X.K v H b:=by
 cases u with
 |b7=>rw[fj.mp r];exact(aH h).symm
 |bl k=>rw[fc.mp r];exact(aH h).symm
 |int i=>rw[aO.mp r];exact(aH h).symm
 |str l=>erw[nn h]
 |tup us=>
  let#[a,vs,e,h1,h2]:=dG.mp r;simp[PL.tf,PL.mH] at h;rw[e]
  rwa[.inr (.inl #[vs,lO.of h1,?_])];have:=h2.len;rw[<-h]
  cases us<;>cases vs<;>simp at this ⊢
 |sZ ns=>
  let#[a,e,h1]:=rR.mp r;simp[PL.tf,PL.mH] at h;rw[e]
  rwa[.inl #[_,hK▸h1.sq,?_]];rw[<-h]
  cases ns<;>simp
 |loc m=>
  unfold PL.tf PL.mH at h;cases q:S[m]? with
  |none=>dsimp[q] at h;erw[nn h]
  |some o=>
   dsimp[q] at h;cases o with
   |lst us=>
    let#[a,vs,e,_,h1,h2]:=R.lst q r;simp at h;rw[e]
    rwa[.inl #[vs,ij.of h1,?_]];have:=h2.len;rw[<-h]
    cases us<;>cases vs<;>simp at this ⊢
   |eh kvs=>
    let#[a,e,ha]:=eR.mp r;let#[vs,h1,h2,_]:=R.at_ m a _ ha q;simp at h;rw[e]
    rwa[.inr (.inr #[vs,h1,?_])];rw[<-h]
    cases kvs<;>cases vs<;>simp at h2 ⊢
   |ins x fs=>erw[nn h]
   |qD x=>erw[nn h]
   |uJ x=>erw[nn h]
   |xS x=>erw[nn h]
 |_=>erw[nn h]
end
open PL (U SO bG KU bY)
structure yc where
 cls:String->Option Addr
noncomputable abbrev Cx.cc(X:Cx)(t:yc):Ctx:=#[X.prog,X.w,X.K,X.mg,X.base,t.cls]
abbrev lift(c:Ctx)(sp:PL.Spec):Sp:=λvs H Q _=>∃us ρ S QU,a9 c ρ H us vs/\cD c ρ H S/\sp us S QU/\QV c ρ H QU Q
abbrev FnAt(c:Ctx)(k:Nat)(f:Addr)(sp:PL.Spec):Prop:=∃fd ps,jI c.P c.w c.K c.mg c.base CU k f fd ps (lift c sp)/\Binds c.K fd ps []
structure Jt(c:Ctx)(T:Tab):Prop where
 const:∀p∈T.const,∃v u,c.mg (nm p.1)=ξ u/\RelV v u/\∀ρ H,Rep c ρ H p.2 v
 i7:∀x∈T.i7,c.mg (nm x)=ψ
 cls:∀x C,c.cls x=ξ C->xF c.K C/\∀f∈T.zt,mF c.K C (nm f)
structure gK(c:Ctx)(T:Tab)(Γ:bY)(k:Nat):Prop where
 fns:∀x∈T.fns,∃f,c.mg (nm x)=ξ (.ref f)/\Hy c.K (.ref f)=ζ/\FnAt c k f (Γ x)
 T6:∀p∈T.qI,∃C f,c.cls p.2=ξ C/\Meth c.K C (nm p.1) f/\FnAt c k f (Γ (p.2++"."++p.1))
 cls:∀x∈T.qH,∃C f,c.cls x=ξ C/\c.mg (nm x)=ξ (.ref C)/\Mk c.K C f/\FnAt c k f (Γ (x++".__init__"))
structure Good(t:yc)(T:Tab)(Γ:bY)(k:Nat)(I:Inf)(X:Cx):Prop where
 tab:Jt (X.cc t) T
 Ri:gK (X.cc t) T Γ k
 kind:X.env.scope.kind=.function
 names:X.env.scope.names=I.names
 slots:X.N=I.N
 nd:X.N.Nodup
 calm:I.calm=ζ->X.calm=ζ/\jH (k+1) X.A
 units:X.A.units+200<gv
 xe:X.xe=λ_ _=>False
abbrev Bo(c:Ctx)(ρ:List Addr)(H:Hp)(J:It)(us:List U)(g:bG->Prop):Prop:=
 ∀(i:Nat)(ρ2:List Addr)(H2:Hp)(S2:bG),iJ ρ H ρ2 H2->cD c ρ2 H2 S2->g S2 ->
  (∀u,us[i]?=ξ u->J.go i H2/\∀y H3,J.UA i H2 y H3->iJ ρ2 H2 ρ2 H3/\cD c ρ2 H3 S2/\Rep c ρ2 H3 u y)/\(us.length<=i->J.stop i H2)
abbrev QI(c:Ctx)(ρ:List Addr)(H:Hp)(RU:List U->(bG->Prop)->bG->Prop)(R:It->Hp->Prop):Prop:=
 ∀us g S' H' ρ' J,RU us g S'->iJ ρ H ρ' H'->cD c ρ' H' S'->Bo c ρ' H' J us g->R J H'
abbrev Ar(c:Ctx)(Γ:bY)(x:PL.It):TI:=λσ H R=>∃env ρ S RU,kG c ρ H env σ/\cD c ρ H S/\PL.WI Γ x env S RU/\QI c ρ H RU R
abbrev QO(c:Ctx)(ρ:List Addr)(H:Hp)(QU:Option Int->bG->Prop)(Q:Option Int->Hp->Prop):Prop:=∀o S' H' ρ',QU o S'->iJ ρ H ρ' H'->cD c ρ' H' S'->Q o H'
abbrev Yf(c:Ctx)(Γ:bY)(x:PL.Ox):TO:=λσ H Q=>∃env ρ S QU,kG c ρ H env σ/\cD c ρ H S/\PL.WO Γ x env S QU/\QO c ρ H QU Q
structure Gh(t:yc)(T:Tab)(Γ:bY)(k n:Nat):Prop where
 fe:∀{I X e x},Good t T Γ k I X->cE T n I e=ξ x->PE X e (tE (X.cc t) Γ x)
 VB:∀{I X es xs},Good t T Γ k I X->T5 T n I es=ξ xs->PA X es (Hj (X.cc t) Γ xs)
 fbo:∀{I X op vs x pos},Good t T Γ k I X->Yd T n I op vs=ξ x->PE X (.BoolOp op vs pos) (tE (X.cc t) Γ x)
 fo:∀{I X oe x},Good t T Γ k I X->cO T n I oe=ξ x->PO X oe (Yf (X.cc t) Γ x)
 fi:∀{I X e x tg},Good t T Γ k I X->cI T n I e=ξ x->PI X tg e (Ar (X.cc t) Γ x)
 fn:∀{I X e x es ek tp},Good t T Γ k I X->cN T n I e=ξ x->PI X (.Tuple es ek tp) e (Ar (X.cc t) Γ x)
 ft:∀{I X e x},Good t T Γ k I X->cT T n I e=ξ x->PT X e (tT (X.cc t) Γ x)
 ftb:∀{I X op vs x pos},Good t T Γ k I X->Ye T n I op vs=ξ x->PW X (.BoolOp op vs pos) (tT (X.cc t) Γ x)
section
variable{t:yc}{T:Tab}{Γ:bY}{k n:Nat}{I:Inf}{X:Cx}
def fA:∀{l:List Str}{i:Nat},eM x l=ξ i->l[i]?=ξ x
 |[],_,h=>nn h
 |y::ys,i,h=>by
  unfold eM at h;by_cases e:y=x
  .rw[if_pos e] at h;injection h with h;subst h;subst e;rfl
  .rw[if_neg e] at h
   cases q:eM x ys with
   |none=>rw[q] at h;cases h
   |some j=>rw[q] at h;simp at h;subst h;simpa using fA q
def Rj(h:QW (names.lookup x)=ζ)(e:sc.names=names):Ui sc x:=by
 rw[<-e] at h;unfold Ui;cases q:sc.names.lookup x with
 |none=>rw[q] at h;cases h
 |some kd=>rw[q] at h;cases kd<;>first|exact ff h|simp
def Nf(G:Good t T Γ k I X)(h:eM x I.N=ξ i)(hv:QW (I.names.lookup x)=ζ)(h1:(x==("__debug__":Str))=ϑ)(h2:(x==("__classdict__":Str))=ϑ):PE X (.Name x pos) (tE (X.cc t) Γ (.var i)):=by
 refine(Pq (i:=i) (by show X.N[i]?=ξ x;rw[G.slots];erw[fA h]) (Rj hv G.names) h1 h2).imp ?_;rintro σ H Q ⟨env,ρ,S,QU,he,R,w,q⟩;let#[u,e,w]:=PL.Ba.mp (show PL.zh _ _ from w);let#[v,e1,r]:=he.at_ i u e;exact#[v,e1,q.now R w r]
def rX{e:Expr}{u:U}{v:V}(h:PE X e (tC v))(r:∀ρ H,Rep (X.cc t) ρ H u v):PE X e (tE (X.cc t) Γ (.lit u)):=by
 rwa[h.imp ?_];kd_p;erw[q.now R w (r ρ H)]
def m7(h:pick l x=ξ s):s∈l/\nm s=x:=by
 unfold pick at h;exact#[yP h,~~~(LI h)]
def yd{α:Type}{l:List (String×α)}{x:Str}{s:String×α}(h:Bl l x=ξ s):s∈l/\nm s.1=x:=by
 unfold Bl at h;exact#[yP h,~~~(LI h)]
def iR(G:Good t T Γ k I X){x:Str}(h:I.gl x=ζ):Gl X x:=by
 unfold Inf.gl at h;show X.env.scope.names.lookup x=_;rw[G.names]
 simpa using h
def Ju{x:Str}{pos:Pos}{p:String×U}(G:Good t T Γ k I X)(hg:I.gl x=ζ)(h:Bl T.const x=ξ p)(h1:(x==("__debug__":Str))=ϑ):PE X (.Name x pos) (tE (X.cc t) Γ (.lit p.2)):=by
 let#[hm,e]:=yd h;let#[v,u,e1,rv,r]:=G.tab.const p hm;subst e;erw[rX (LM (iR G hg) e1 rv h1) r]
def Rk(G:Good t T Γ k I X)(ho:Vs op=ξ o)(ha:PE X a (tE (X.cc t) Γ x))(hb:PE X b (tE (X.cc t) Γ y)):PE X (.BinOp a op b pos) (tE (X.cc t) Γ (.bin o x y)):=by
 have e:op=MT o:=by
  cases op<;>first|exact nn ho| (cases ho;rfl)
 rw[e]
 refine(UC (M4 (c:=X.cc t)) ha hb).imp ?_;kd_p;z_go;refine#[env,ρ1,S1,_,he.later R st1,R1,w1,λu2 S2 v2 H2 ρ2 w2 st2 R2 r2=>?_];exact#[u,u2,ρ2,S2,QU,r1.mono R1 st2,r2,R2,w2,q.later (st1.trans st2)]
def Jv(ho:T3 op b=ξ o):op=EA o:=by
 unfold T3 at ho;split at ho
 .rename_i hc
  cases op<;>first|exact ff hc| (cases ho;rfl)
 split at ho
 .rename_i hc
  cases op<;>first|exact ff hc| (cases ho;rfl)
 .cases op<;>first|exact nn ho| (cases ho;rfl)
def Rl(G:Good t T Γ k I X)(ho:T3 op b=ξ o)(hm:behindInMarks op b=ϑ)(ha:PE X a (tE (X.cc t) Γ x))(hb:PE X b (tE (X.cc t) Γ y)):PE X (.Compare a [op] [b] pos) (tE (X.cc t) Γ (.cmp o x y)):=by
 have e:op=EA o:=Jv ho;subst e;refine(LY (EB (c:=X.cc t) rfl rfl G.units o) ha hb hm).imp ?_;kd_p;z_go;refine#[env,ρ1,S1,_,he.later R st1,R1,w1,λu2 S2 v2 H2 ρ2 w2 st2 R2 r2=>?_];refine#[u,u2,ρ2,S2,r1.mono R1 st2,r2,R2,PL.xY (λr h=>?_) w2];exact(q.later (st1.trans st2)).now R2 h (fc.mpr rfl)
def Ng(G:Good t T Γ k I X)(ho:T3 op b=ξ o)(hm:behindInMarks op b=ϑ)(ha:PE X a (tE (X.cc t) Γ x))(hb:PE X b (tE (X.cc t) Γ y)):PT X (.Compare a [op] [b] pos) (tT (X.cc t) Γ (.cU (.cmp o x y))):=by
 have e:op=EA o:=Jv ho;subst e;refine(LZ (EB (c:=X.cc t) rfl rfl G.units o) ha hb hm).imp ?_;kd_p;z_go;refine#[env,ρ1,S1,_,he.later R st1,R1,w1,λu2 S2 v2 H2 ρ2 w2 st2 R2 r2=>?_];refine#[u,u2,ρ2,S2,r1.mono R1 st2,r2,R2,PL.xY (λr h=>#[r,rfl,?_]) w2];exact(q.later (st1.trans st2)) _ _ _ _ h .refl R2
end
open PL (U SO bG KU bY)
def cP(h:noStar e=ζ):bB (e::es) env=(ϑ,eval e env)::bB es env:=by
 cases e<;>first|rfl|cases h
def vQ:∀{es:List Expr},es.all noStar=ζ->bB es env=es.map λe=>(ϑ,eval e env)
 |[],_=>rfl
 |e::es,h=>by
  rw[bQ,ar] at h;rw[cP h.1,vQ h.2];rfl
def fH(h:gI o=ζ):iG o m env (eval o env)=eval o env:=by
 cases o with
 |Call f args kws pos=>
  cases f with
  |Name id p=>
   cases args with
   |nil=>
    cases kws with
    |nil=>cases h
    |cons k ks=>rfl
   |cons a as=>rfl
  |_=>rfl
 |_=>rfl
def Bp(h:zu e=ζ):fP e tg l env=pure ϑ:=by
 cases e<;>first|rfl|cases h
def gB(h:es.all noStar=ζ):(fN pos (bB es env)).any (·.1)=ϑ:=by
 rw[vQ h]
 unfold fN;simp
def ye(h:es.all noStar=ζ)(hn:es.length<20):Co (es.length+([]:List oI).length) (fN pos (bB es env)) (backToKw pos (gM [] env))=ζ:=by
 rw[vQ h]
 have e:gM [] env=[]:=rfl;rw[e]
 unfold Co fN;simp[backToKw]
 omega
def yf(h0:gI o=ζ)(hst:args.all noStar=ζ)(hn:args.length<20)(hl:(apos.endLine==pos.line)=ζ):
  eval (.Call (.Attribute o m apos) args [] pos) env=(do
   let ov <-eval o env
   standAt apos.atName
   let (f,first) <-holding [ov] (yG ov m (do return (<-importBound o env).getD ζ))
   callWith pos f first (fN pos (bB args env)) (backToKw pos (gM [] env))):=by
 change (do
  let ov <-iG o m env (eval o env)
  standAt apos.atName
  methodCall o m apos pos env ov (args.length+[].length) (fN pos (bB args env)) (backToKw pos (gM [] env)))=_
 dsimp[fH h0,methodCall,ye hst hn,calleeOf,methodCallPos,hl]
 rfl
open PL (U SO bG KU bY)
section
variable{X:Cx}{k:Nat}{f C:Addr}{fd:fQ}{ps:List Str}{sp:Sp}{x m:Str}{p pos apos:Pos}{e o:Expr}{es:List Expr}{ta:TA}{to:TE}
def aao(F:jI X.prog X.w X.K X.mg X.base CU k f fd ps sp)(hr:jH k X.A)(hg:Gl X x)(hm:X.mg x=ξ (.ref f))(hk:Hy X.K (.ref f)=ζ)(hb:Binds X.K fd ps [])(ha:PA X (e::es) ta)
  (hdb:(x==("__debug__":Str))=ϑ) (he:noStar e=ζ) (hes:es.all noStar=ζ):PE X (.Call (.Name x p) (e::es) [] pos) (λσ H Q=>ta σ H λvs H1=>sp vs H1 Q E0):=
 (L5 F hr hg hm hk hb .nil xP ha hdb (cP he) (gB hes)).imp λσ H Q h=>by unfold HV;dsimp[bT];erw[h]
def aap(he:PE X o to)(c:xF X.K C)(hm:Meth X.K C m f)(F:jI X.prog X.w X.K X.mg X.base CU k f fd ps sp)(hr:jH k X.A)(hb:Binds X.K fd ps [])(ha:PA X (e::es) ta)
  (h0:gI o=ζ) (hn:(e::es).length<20) (hl:(apos.endLine==pos.line)=ζ) (hse:noStar e=ζ) (hes:es.all noStar=ζ):
  PE X (.Call (.Attribute o m apos) (e::es) [] pos) (λσ H Q=>to σ H λx H1=>∃a dx fs,x=.ref a/\H1 a=ξ (.ins C dx fs)/\fs.lookup m=ψ/\ta σ H1 λvs H2=>sp (x::vs) H2 Q E0):=
 (L6 he c hm F hr hb .nil xP ha (cP hse) (gB hes) (yf h0 (by rw[bQ,hse,hes];rfl) hn hl)).imp λσ H Q h=>by unfold HW;dsimp[bT];erw[h]
def aaq(M:Mk X.K C f)(F:jI X.prog X.w X.K X.mg X.base CU k f fd ps sp)(hr:jH (k+1) X.A)(hg:Gl X x)(hm:X.mg x=ξ (.ref C))(hb:Binds X.K fd ps [])(ha:PA X (e::es) ta)
  (hdb:(x==("__debug__":Str))=ϑ) (he:noStar e=ζ) (hes:es.all noStar=ζ):PE X (.Call (.Name x p) (e::es) [] pos) (λσ H Q=>ta σ H λvs H1=>∀x dx,H1 x=ψ->H1 dx=ψ->dx≠x ->
   sp (.ref x::vs) (upd (upd H1 dx (.own x)) x (.ins C dx [])) (λv H2=>v=.b7/\Q (.ref x) H2) E0):=
 (L7 M F hr hg hm hb .nil xP ha hdb (cP he) (gB hes)).imp λσ H Q h=>by unfold HX;dsimp[bT];erw[h]
end
section
variable{t:yc}{T:Tab}{Γ:bY}{k n:Nat}{I:Inf}{X:Cx}
def nW:∀{n:Nat}{I:Inf}{es:List Expr}{xs:PL.Aq},T5 T n I es=ξ xs->es.all noStar=ζ
 |0,_,_,_,h=>by rw[OU] at h;cases h
 |n+1,I,[],_,_=>rfl
 |n+1,I,e::es,_,h=>by
  rw[IZ,IW] at h;by_cases z:noStar e=ζ
  .dsimp[z,bH,aw,if_false,aM,aE] at h
   let#[x,_,xs,h2,_]:=h;rw[bQ,z,nW h2];rfl
  .simp[z] at h
def Rm(IH:Gh t T Γ k n)(G:Good t T Γ k I X):∀{es:List Expr}{xs:PL.Aq},T5 T (n+1) I es=ξ xs->PA X es (Hj (X.cc t) Γ xs)
 |[],xs,h=>by
  rw[IZ,IW] at h;injection h with h;subst h
  rwa[λpos pins' s σ H Q J z=>sO pos pins' s σ H Q J ?_]
  let#[env,ρ,S,QU,he,R,w,q]:=z;erw[q [] S [] H ρ w .refl R a9.nil]
 |e::es,xs,h=>by
  have st:=nW h;rw[bQ,ar] at st;rw[IZ,IW] at h;dsimp[st.1,bH,aw,if_false,aM,aE] at h;let#[x,h1,ys,h2,h3]:=h;injection h3 with h3;subst h3
  have P:=nB (IH.fe G h1) (IH.VB G h2) (cP st.1);rwa[λpos pins' s σ H Q J z=>P pos pins' s σ H Q J ?_]
  let#[env,ρ,S,QU,he,R,w,q]:=z;z_go;refine#[env,ρ1,S1,_,he.later R st1,R1,w1,λus S2 vs H2 ρ2 w2 st2 R2 r2=>?_];erw[q _ _ _ _ _ w2 (st1.trans st2) R2 (a9.cons (r1.mono R1 st2) r2)]
def Rn(ha:PE X a (tE (X.cc t) Γ x)):PE X (.UnaryOp .USub a pos) (tE (X.cc t) Γ (.neg x)):=by
 refine(UD P4 ha).imp ?_;kd_p;z_go;let#[i,e,w2]:=PL.fZ.mp w1;subst e;exact#[i,aO.mp r1,(q.later st1).now R1 w2 (aO.mpr rfl)]
def Ro(ha:PE X a (tE (X.cc t) Γ x)):PE X (.UnaryOp .Not a pos) (tE (X.cc t) Γ (.not x)):=by
 refine(PC ha).imp ?_;kd_p;z_go;let#[i,e,w2]:=PL.zi.mp w1;subst e;exact#[i,fc.mp r1,(q.later st1).now R1 w2 (fc.mpr rfl)]
def Rr(IH:Gh t T Γ k n)(G:Good t T Γ k I X):∀{vs:List Expr}{x:PL.Ex},Yd T (n+1) I op vs=ξ x->PE X (.BoolOp op vs pos) (tE (X.cc t) Γ x)
 |[],x,h=>by rw[I9,IX] at h;cases h
 |[a],x,h=>by
  rw[I9,IX] at h;rwa[Pz (IH.fe G h)]
 |a::b::r,y,h=>by
  rw[I9,IX] at h;dsimp[aM,aE] at h;let#[x,h1,z,h2,h3]:=h;injection h3 with h3;subst h3
  cases op with
  |And=>
   refine(PB (IH.fe G h1) (IH.fbo G h2)).imp ?_;kd_p;z_go;let#[i,e,w2]:=PL.zi.mp w1;subst e;refine#[i,fc.mp r1,?_];cases i with
   |true=>exact#[env,ρ1,S1,QU,he.later R st1,R1,w2,q.later st1]
   |false=>exact(q.later st1).now R1 w2 (fc.mpr rfl)
  |Or=>
   refine(Uq (IH.fe G h1) (IH.fbo G h2)).imp ?_;kd_p;z_go;let#[i,e,w2]:=PL.zi.mp w1;subst e;refine#[i,fc.mp r1,?_];cases i with
   |true=>exact(q.later st1).now R1 w2 (fc.mpr rfl)
   |false=>exact#[env,ρ1,S1,QU,he.later R st1,R1,w2,q.later st1]
def VC(hc:PT X c (tT (X.cc t) Γ x))(ha:PE X a (tE (X.cc t) Γ y))(hb:PE X b (tE (X.cc t) Γ z)):PE X (.IfExp c a b pos) (tE (X.cc t) Γ (.C4 x y z)):=by
 refine(HI hc ha hb).imp ?_;kd_p;refine#[env,ρ,S,_,he,R,w,λb S1 H1 ρ1 w1 st1 R1=>?_];cases b with
 |true=>exact#[env,ρ1,S1,QU,he.later R st1,R1,w1,q.later st1]
 |false=>exact#[env,ρ1,S1,QU,he.later R st1,R1,w1,q.later st1]
def Rt(ha:PA X es (Hj (X.cc t) Γ xs)):PE X (.Tuple es j pos) (tE (X.cc t) Γ (.tup xs)):=by
 refine(Qb ha).imp ?_;kd_p;refine#[env,ρ,S,_,he,R,w,λus S1 vs H1 ρ1 w1 st1 R1 r1=>?_];exact#[by rw[<-r1.len];erw[qp w1.1],λp hp=>(q.later st1).MS R1 r1 w1.2 hp]
def Ru(ha:PA X es (Hj (X.cc t) Γ xs)):PE X (.List es pos) (tE (X.cc t) Γ (.lst xs)):=by
 refine(Qc ha).imp ?_;kd_p;refine#[env,ρ,S,_,he,R,w,λus S1 vs H1 ρ1 w1 st1 R1 r1=>?_];exact#[by rw[<-r1.len];erw[qp w1.1],λp hp=>(q.later st1).Gb R1 r1 w1.2 hp]
def qK:∀{fs:List (String×U)}{vs:List (Str×V)},vs.map (·.1)=(fs.map (·.1)).map nm->a9 c ρ H (fs.map (·.2)) (vs.map (·.2))->fs.lookup f=ξ u->(∀a b:String,nm a=nm b->a=b)->∃v,vs.lookup (nm f)=ξ v/\Rep c ρ H u v
 |[],vs,_,_,h,_=>nomatch h
 | (g,w)::fs,[],e,_,_,_=>by simp at e
 | (g,w)::fs,(a,v)::vs,e,r,h,inj=>by
  dsimp[az,dE] at e;rw[az,az] at r;unfold a9 at r;let#[v',r',e',h1,h2]:=r;injection e' with e1 e2
  subst e1;subst e2;rw[aP] at h ⊢;by_cases z:f=g
  .subst z
   simp at h;subst h;have:(nm f==a)=ζ:=by rw[e.1];simp
   rw[this]
   exact#[v,rfl,h1]
  .have z1:(f==g)=ϑ:=by simp[z]
   rw[z1] at h;have z2:(nm f==a)=ϑ:=by
    rw[e.1]
    dsimp[beq_eq_false_iff_ne,ne_eq];erw[λq=>z (inj _ _ q)]
   rw[z2]
   erw[qK e.2 h2 h inj]
def vR(a b:String)(h:nm a=nm b):a=b:=by
 unfold nm at h;rw[Str.ofString_eq_byList] at h;unfold Str.ofStringByList at h;injection h with h
 have h2:=congrArg AA h;dsimp[] at h2;have h3:a.toList=b.toList:=by
  refine(sA (f:=Char.toNat) ?_).mp h2;intro x y e;erw[Char.ext (UInt32.toNat_inj.mp e)]
 erw[String.toList_inj.mp h3]
end
open PL (U SO bG KU bY)
section
variable{t:yc}{T:Tab}{Γ:bY}{k n:Nat}{I:Inf}{X:Cx}
def Rv(G:Good t T Γ k I X)(hf:f∈T.zt)(h0:gI o=ζ)(ho:PE X o (tE (X.cc t) Γ x)):PE X (.Attribute o (nm f) pos) (tE (X.cc t) Γ (.fld x f)):=by
 refine(P9 ho (fH h0)).imp ?_;kd_p;z_go;cases u with
 |loc m=>
  let#[c,fs,e,w2]:=PL.mV.mp (show PL.qE _ _ from w1);let#[u,e2,w3]:=PL.iT.mp w2;let#[a,C,dx,vs,ev,_,hc,ha,hn,hr]:=R1.ins e r1;let#[v',l,r2]:=qK hn hr e2 vR;let#[cl,na]:=G.tab.cls c C hc;exact#[a,C,dx,vs,v',ev,ha,cl,na f hf,l,(q.later st1).now R1 w3 r2]
 |_=>erw[aV w1]
def Jw(h:k9 b=ζ):Ec b:=by
 intro o i;cases b<;>first|rfl|cases h
def VD(hs:k9 b=ζ)(ha:PE X a (tE (X.cc t) Γ x))(hb:PE X b (tE (X.cc t) Γ y)):PE X (.Subscript a b pos) (tE (X.cc t) Γ (.ix x y)):=by
 refine(UX (Rc (c:=X.cc t) rfl rfl) ha hb (Jw hs)).imp ?_;kd_p;z_go;refine#[env,ρ1,S1,_,he.later R st1,R1,w1,λu2 S2 v2 H2 ρ2 w2 st2 R2 r2=>?_];refine#[u,u2,ρ2,S2,r1.mono R1 st2,r2,R2,PL.IU (λr h v3 r3=>?_) w2];exact(q.later (st1.trans st2)).now R2 h r3
def VE(IH:Gh t T Γ k n)(G:Good t T Γ k I X):∀{oe:Option Expr}{x:PL.Ox},cO T (n+1) I oe=ξ x->PO X oe (Yf (X.cc t) Γ x)
 |none,x,h=>by
  rw[Vx,Yc] at h;injection h with h;subst h
  rwa[λpins' s σ H Q J z=>Ma pins' s σ H Q J ?_]
  let#[env,ρ,S,QU,he,R,w,q]:=z;erw[q ψ S H ρ w .refl R]
 |some e,x,h=>by
  rw[Vx,Yc] at h;let#[y,h1,h2]:=au.mp h;subst h2;rwa[λpins' s σ H Q J z=>Mb (IH.fe G h1) pins' s σ H Q J ?_]
  let#[env,ρ,S,QU,he,R,w,q]:=z;z_go;let#[i,e,w2]:=PL.fZ.mp w1;subst e;exact#[i,aO.mp r1,q _ _ _ _ w2 st1 R1]
def VF{a:Expr}{lo hi:Option Expr}{x:PL.Ex}{y z:PL.Ox}{pos p2:Pos}(ha:PE X a (tE (X.cc t) Γ x))(hl:PO X lo (Yf (X.cc t) Γ y))(hh:PO X hi (Yf (X.cc t) Γ z)):PE X (.Subscript a (.Slice lo hi ψ p2) pos) (tE (X.cc t) Γ (.sl x y z)):=by
 refine(Ia (Rg (c:=X.cc t) rfl) ha hl hh).imp ?_;kd_p;z_go;refine#[env,ρ1,S1,_,he.later R st1,R1,w1,λl S2 H2 ρ2 w2 st2 R2=>?_];have st12:=st1.trans st2;refine#[env,ρ2,S2,_,he.later R st12,R2,w2,λh S3 H3 ρ3 w3 st3 R3=>?_];exact#[u,ρ3,S3,QU,r1.mono R1 (st2.trans st3),R3,w3,q.later (st12.trans st3)]
end
open PL (U SO bG KU bY)
section
variable{t:yc}{T:Tab}{Γ:bY}{k n:Nat}{I:Inf}{X:Cx}
def Rx(G:Good t T Γ k I X)(hg:I.gl f=ζ)(hb:QY f=ξ b)(hp:pick T.i7 f=ξ s)(hcalm:X.calm=ζ)(hA:X.A.handled=ψ)(h1:noStar e=ζ)(h2:es.all noStar=ζ)
  (ha:PA X (e::es) (Hj (X.cc t) Γ xs)):PE X (.Call (.Name f p) (e::es) [] pos) (tE (X.cc t) Γ (.blt b xs)):=by
 let#[hm,rfl]:=m7 hp;have hn:=G.tab.i7 s hm;have rd:∀(σ:St)(H:Hp)(Q:VK),tE (X.cc t) Γ (.blt b xs) σ H Q->YT (rV (X.cc t) b) (Hj (X.cc t) Γ xs) σ H Q:=by
  kd_p;exact#[env,ρ,S,_,he,R,w,λus S1 vs H1 ρ1 w1 st1 R1 r1=>#[us,ρ1,S1,QU,r1,R1,w1,q.later st1]]
 have sx:bB (e::es) X.env=(ϑ,eval e X.env)::bB es X.env:=cP h1;have sy:(fN pos (bB es X.env)).any (·.1)=ϑ:=gB h2;unfold QY at hb;by_cases c1:(nm s==("len":Str))=ζ
 .rw[if_pos c1] at hb;injection hb with hb;subst hb
  have ef:nm s=("len":Str):=by simpa using c1
  rw[ef] at hg hn ⊢;exact(mS (M8 rfl) (iR G hg) hn LG ha ⋯ ⋯ sx sy).imp rd
 rw[if_neg c1] at hb;by_cases c2:(nm s==("tuple":Str))=ζ
 .rw[if_pos c2] at hb;injection hb with hb;subst hb
  have ef:nm s=("tuple":Str):=by simpa using c2
  rw[ef] at hg hn ⊢;exact(pC (Gf rfl) (iR G hg) hn (by decide +kernel) ha ⋯ ⋯ sx sy).imp rd
 rw[if_neg c2] at hb;by_cases c4:(nm s==("list":Str))=ζ
 .rw[if_pos c4] at hb;injection hb with hb;subst hb
  have ef:nm s=("list":Str):=by simpa using c4
  rw[ef] at hg hn ⊢;exact(pC (Jn rfl) (iR G hg) hn (by decide +kernel) ha ⋯ ⋯ sx sy).imp rd
 rw[if_neg c4] at hb;by_cases c7:(nm s==("all":Str))=ζ
 .rw[if_pos c7] at hb;injection hb with hb;subst hb
  have ef:nm s=("all":Str):=by simpa using c7
  rw[ef] at hg hn ⊢;exact(mS (Jo hcalm) (iR G hg) hn (by decide +kernel) ha ⋯ ⋯ sx sy).imp rd
 rw[if_neg c7] at hb;by_cases c8:(nm s==("sum":Str))=ζ
 .rw[if_pos c8] at hb;injection hb with hb;subst hb
  have ef:nm s=("sum":Str):=by simpa using c8
  rw[ef] at hg hn ⊢;exact(mS (M9 hcalm) (iR G hg) hn boot_sum ha ⋯ ⋯ sx sy).imp rd
 rw[if_neg c8] at hb;by_cases c9:(nm s==("any":Str))=ζ
 .rw[if_pos c9] at hb;injection hb with hb;subst hb
  have ef:nm s=("any":Str):=by simpa using c9
  rw[ef] at hg hn ⊢;exact(mS (Jp hcalm) (iR G hg) hn (by decide +kernel) ha ⋯ ⋯ sx sy).imp rd
 rw[if_neg c9] at hb;by_cases c10:(nm s==("dict":Str))=ζ
 .rw[if_pos c10] at hb;injection hb with hb;subst hb
  have ef:nm s=("dict":Str):=by simpa using c10
  rw[ef] at hg hn ⊢;exact(pC (Jq hA) (iR G hg) hn (by decide +kernel) ha ⋯ ⋯ sx sy).imp rd
 rw[if_neg c10] at hb;by_cases c11:(nm s==("max":Str))=ζ
 .rw[if_pos c11] at hb;injection hb with hb;subst hb
  have ef:nm s=("max":Str):=by simpa using c11
  rw[ef] at hg hn ⊢;exact(mS (Na hcalm) (iR G hg) hn (by decide +kernel) ha ⋯ ⋯ sx sy).imp rd
 rw[if_neg c11] at hb;cases hb
def Gi(G:Good t T Γ k I X)(hg:I.gl ("min":Str)=ζ)(hg2:I.gl ("len":Str)=ζ)(hb:"min"∈T.i7)(hb2:"len"∈T.i7)(hc:X.calm=ζ)(h1:noStar a=ζ)(ha:PE X a (tE (X.cc t) Γ x)):
  PE X (.Call (.Name ("min":Str) p) [a] [#[ξ "key",.Name ("len":Str) pl,kp]] pos) (tE (X.cc t) Γ (.blt .vD (.cons x .nil))):=by
 refine(FX hc (iR G hg) (G.tab.i7 "min" hb) (iR G hg2) (G.tab.i7 "len" hb2) ha (cP h1)).imp ?_;kd_p;z_go;have w1:PL.tj .vD [u] S1 QU:=w1
 match u,w1 with
 |.loc n,w1=>
  let#[t0,ts,e,hz,w2]:=w1;let#[a,vs,e2,_,g1,g2]:=R1.lst e r1;rw[tB g2] at g1;exact#[a,t0,ts,e2,ij.of g1,hz,(q.later st1).now R1 w2 (bC.mpr rfl)]
end
open PL (U SO bG KU bY)
section
variable{t:yc}{T:Tab}{Γ:bY}{k n:Nat}{I:Inf}{X:Cx}
abbrev VG:PL.OJ->String
 |.join=>"str"|.index=>"str"|.startswith=>"str"|.append=>"list"|.pop=>"list"|.extend=>"list"|.nF=>"int"|_=>"dict"
def Jx{c:Ctx}{ρ:List Addr}{H:Hp}{S:bG}{b:PL.OJ}{u:U}{v:V}(hb:b=.join\/b=.index\/b=.append\/b=.extend\/b=.startswith\/b=.ox\/b=.pop)(R:cD c ρ H S)(r:Rep c ρ H u v)(w:PL.tm b u S):XW c.K (VG b) v H:=by
 rcases hb with rfl|rfl|rfl|rfl|rfl|rfl|rfl
 .cases u<;>first|exact aV w| (rw[bC.mp r];rfl)
 .cases u<;>first|exact aV w| (rw[bC.mp r];rfl)
 .cases u<;>first|exact aV w|skip
  let#[us,e,_]:=PL.cK.mp (show PL.getL _ _ from w);let#[a,vs,ev,_,h1,_]:=R.lst e r;rw[ev]
  erw[.inl #[rfl,vs,ij.of h1]]
 .cases u<;>first|exact aV w|skip
  let#[us,e,_]:=PL.cK.mp (show PL.getL _ _ from w);let#[a,vs,ev,_,h1,_]:=R.lst e r;rw[ev]
  erw[.inl #[rfl,vs,ij.of h1]]
 .cases u<;>first|exact aV w| (rw[bC.mp r];rfl)
 .cases u<;>first|exact aV w|skip
  rename_i n;let#[a,ev,ha]:=eR.mp r;have w:(match S[n]? with|some (.eh _)=>True|some (.uJ _)=>True|some (.xS _)=>True|_=>False):=w;rw[ev]
  rwa[.inr (.inr (.inl #[rfl,?_]))];cases hs:S[n]? with
  |none=>rw[hs] at w;erw[w.elim]
  |some o=>
   rw[hs] at w;cases o with
   |eh kvs=>let#[vs,h1,_]:=R.at_ n a _ ha hs;erw[.inl #[vs,h1]]
   |uJ kvs=>let#[vs,h1,_]:=R.at_ n a _ ha hs;erw[.inr (.inl #[vs,h1])]
   |xS kvs=>let#[vs,h1,_]:=R.at_ n a _ ha hs;erw[.inr (.inr #[vs,h1])]
   |_=>erw[w.elim]
 .cases u<;>first|exact aV w|skip
  let#[us,e,_]:=PL.cK.mp (show PL.getL _ _ from w);let#[a,vs,ev,_,h1,_]:=R.lst e r;rw[ev]
  erw[.inl #[rfl,vs,ij.of h1]]
def nY(h:es.all noStar=ζ)(hn:es.length<20):((fN cpos (bB es env)).all (λx=>!x.1)&&(backToKw cpos (gM [] env)).all (λx=>x.1.isSome)
   && decide (es.length+([]:List oI).length+(if ([]:List oI).isEmpty then 0 else 1)<30))=ζ:=by
 have:=ye (pos:=cpos) (env:=env) h hn;unfold Co at this;erw[this]
def Ry(G:Good t T Γ k I X)(hb:QZ m=ξ b)(hA:X.A.handled=ψ)(h0:gI o=ζ)(hl:(apos.endLine==cpos.line)=ζ)(hn:(e::es).length<20)(h1:noStar e=ζ)(h2:es.all noStar=ζ)
  (ho:PE X o (tE (X.cc t) Γ x)) (ha:PA X (e::es) (Hj (X.cc t) Γ xs)):PE X (.Call (.Attribute o m apos) (e::es) [] cpos) (tE (X.cc t) Γ (.jL b x xs)):=by
 have hst:(e::es).all noStar=ζ:=by rw[bQ,h1,h2];rfl
 have rd:∀(hb':b=.join\/b=.index\/b=.append\/b=.extend\/b=.startswith\/b=.ox\/b=.pop)(σ:St)(H:Hp)(Q:VK),tE (X.cc t) Γ (.jL b x xs) σ H Q->tBM X.K (VG b) (rW (X.cc t) b) (tE (X.cc t) Γ x) (Hj (X.cc t) Γ xs) σ H Q:=by
  rintro hb' σ H Q ⟨env,ρ,S,QU,he,R,w,q⟩;refine#[env,ρ,S,_,he,R,w,λu S1 v H1 ρ1 w1 st1 R1 r1=>#[Jx (c:=X.cc t) hb' R1 r1 w1.1,?_]];exact#[env,ρ1,S1,_,he.later R st1,R1,w1.2,λus S2 vs H2 ρ2 w2 st2 R2 r2=>#[u,us,ρ2,S2,QU,r1.mono R1 st2,r2,R2,w2,q.later (st1.trans st2)]]
 unfold QZ at hb;by_cases c1:(m==("join":Str))=ζ
 .rw[if_pos c1] at hb;injection hb with hb;subst hb
  have ef:m=("join":Str):=by simpa using c1
  subst ef;exact(vn nq PySem.F.slot_str_join PySem.F.type_str_join (Jr rfl) ho ha (fH h0) (nY hst hn) hl (cP h1) (gB h2)).imp (rd (#v[]))
 rw[if_neg c1] at hb;by_cases c2:(m==("index":Str))=ζ
 .rw[if_pos c2] at hb;injection hb with hb;subst hb
  have ef:m=("index":Str):=by simpa using c2
  subst ef;exact(vn nq PySem.F.slot_str_index PySem.F.type_str_index (Gg hA) ho ha (fH h0) (nY hst hn) hl (cP h1) (gB h2)).imp (rd (#v[]))
 rw[if_neg c2] at hb;by_cases c3:(m==("append":Str))=ζ
 .rw[if_pos c3] at hb;injection hb with hb;subst hb
  have ef:m=("append":Str):=by simpa using c3
  subst ef;exact(vn mR PySem.F.slot_list_append PySem.F.type_list_append Dp ho ha (fH h0) (nY hst hn) hl (cP h1) (gB h2)).imp (rd (#v[]))
 rw[if_neg c3] at hb;by_cases c4:(m==("extend":Str))=ζ
 .rw[if_pos c4] at hb;injection hb with hb;subst hb
  have ef:m=("extend":Str):=by simpa using c4
  subst ef;exact(vn mR PySem.F.slot_list_extend PySem.F.type_list_extend Dq ho ha (fH h0) (nY hst hn) hl (cP h1) (gB h2)).imp (rd (#v[]))
 rw[if_neg c4] at hb;by_cases c5:(m==("startswith":Str))=ζ
 .rw[if_pos c5] at hb;injection hb with hb;subst hb
  have ef:m=("startswith":Str):=by simpa using c5
  subst ef;exact(vn nq PySem.F.slot_str_startswith PySem.F.type_str_startswith Dn ho ha (fH h0) (nY hst hn) hl (cP h1) (gB h2)).imp (rd (#v[]))
 rw[if_neg c5] at hb;by_cases c6:(m==("setdefault":Str))=ζ
 .rw[if_pos c6] at hb;injection hb with hb;subst hb
  have ef:m=("setdefault":Str):=by simpa using c6
  subst ef;exact(vn ja um PySem.F.type_dict_setdefault (Js G.units) ho ha (fH h0) (nY hst hn) hl (cP h1) (gB h2)).imp (rd (#v[]))
 rw[if_neg c6] at hb;by_cases c7:(m==("pop":Str))=ζ
 .rw[if_pos c7] at hb;injection hb with hb;subst hb
  have ef:m=("pop":Str):=by simpa using c7
  subst ef;exact(vn mR PySem.F.slot_list_pop PySem.F.type_list_pop Nc ho ha (fH h0) (nY hst hn) hl (cP h1) (gB h2)).imp (rd (#v[]))
 rw[if_neg c7] at hb;cases hb
def Nh(G:Good t T Γ k I X)(h0:gI o=ζ)(hl:(apos.endLine==cpos.line)=ζ)(ho:PE X o (tE (X.cc t) Γ x)):
  PE X (.Call (.Attribute o ("bit_length":Str) apos) [] [] cpos) (tE (X.cc t) Γ (.jL .nF x .nil)):=by
 refine(Ie PySem.F.plainAttrs_int PySem.F.slot_int_bit_length PySem.F.type_int_bit_length (Dm (c:=X.cc t)) ho (fH h0) hl).imp ?_;kd_p;refine#[env,ρ,S,_,he,R,w,λu S1 v H1 ρ1 w1 st1 R1 r1=>#[?_,u,[],ρ1,S1,QU,r1,a9.nil,R1,w1.2,q.later st1]];cases u<;>first|exact aV w1.1| (rw[aO.mp r1];rfl)
def Rz(G:Good t T Γ k I X)(h0:gI o=ζ)(hl:(apos.endLine==cpos.line)=ζ)(h1:noStar a=ζ)(h2:noStar d=ζ)(ho:PE X o (tE (X.cc t) Γ x))
  (ha:PE X a (tE (X.cc t) Γ y)) (hd:PE X d (tE (X.cc t) Γ z)):PE X (.Call (.Attribute o ("get":Str) apos) [a,d] [] cpos) (tE (X.cc t) Γ (.jL .get x (.cons y (.cons z .nil)))):=by
 have hst:[a,d].all noStar=ζ:=by rw[bQ,bQ,h1,h2];rfl
 refine(Iq (by have:=G.units;show X.A.units+1<gv;omega) ho ha hd #[fH h0,nY hst (show 2<20 by decide),hl,by
  rw[cP (e:=a) (es:=[d]) h1,cP (e:=d) (es:=[]) h2];rfl]).imp ?_
 kd_p;z_go;let#[w1,w2]:=w1;cases u<;>first|exact aV w1|skip
 rename_i n;let#[kvs,e,_]:=PL.jc.mp (show PL.jv _ _ from w1);let#[a1,vs,e1,ha1,g1,g2,g3,g4]:=R1.dd e r1;refine#[a1,e1,.inl #[vs,g1],env,ρ1,S1,_,he.later R st1,R1,w2,λu2 S2 v2 H2 ρ2 w3 st2 R2 r2=>?_];refine#[env,ρ2,S2,_,(he.later R st1).later R1 st2,R2,w3,λu3 S3 v3 H3 ρ3 w4 st3 R3 r3=>?_];have r2':=r2.mono R2 st3;cases u2<;>first|exact aV w4|skip
 rename_i k;let#[kvs',e',ps,ep,w5]:=PL.Bb.mp (show PL.getD _ _ from w4);let#[vs',f1,f2,f3,f4]:=R3.at_ n a1 _ (st3.get (st2.get ha1)) e';subst ep;have g:=sS.k (k:=jo (ξ (tx k))) f1;rw[bC.mp r2']
 rcases Nb (k:=k) f2 f3 f4 with⟨l1,l2⟩|⟨u',v',l1,l2,l3⟩
 .rw[l2] at g
  rw[l1] at w5;exact#[ψ,g,(q.later ((st1.trans st2).trans st3)).now R3 w5 r3]
 .rw[l2] at g
  rw[l1] at w5;exact#[ξ v',g,(q.later ((st1.trans st2).trans st3)).now R3 w5 l3]
def Ni(G:Good t T Γ k I X)(h0:gI o=ζ)(hl:(apos.endLine==cpos.line)=ζ)(h1:noStar a=ζ)(ho:PE X o (tE (X.cc t) Γ x))
  (ha:PE X a (tE (X.cc t) Γ y)):PE X (.Call (.Attribute o ("get":Str) apos) [a] [] cpos) (tE (X.cc t) Γ (.jL .get x (.cons y .nil))):=by
 have hst:[a].all noStar=ζ:=by rw[bQ,h1];rfl
 refine(Ip (by have:=G.units;show X.A.units+1<gv;omega) ho ha #[fH h0,nY hst (show 1<20 by decide),hl,by
  rw[cP (e:=a) (es:=[]) h1];rfl]).imp ?_
 kd_p;z_go;let#[w1,w2]:=w1;cases u<;>first|exact aV w1|skip
 rename_i n;let#[kvs,e,_]:=PL.jc.mp (show PL.jv _ _ from w1);let#[a1,vs,e1,ha1,g1,g2,g3,g4]:=R1.dd e r1;refine#[a1,e1,.inl #[vs,g1],env,ρ1,S1,_,he.later R st1,R1,w2,λu2 S2 v2 H2 ρ2 w3 st2 R2 r2=>?_];have r1':=r1.mono R1 st2;have w3:PL.qG .get (.loc n) [u2] S2 QU:=w3;have w3:PL.jv S2[n]? λkvs=>PL.nH u2=ζ/\QU ((PL.uK u2 kvs).getD .b7) S2:=by cases u2<;>exact w3
 let#[kvs',e',hk,w5]:=PL.jc.mp w3;let#[a2,vs',e2,_,f1,f2,f3,f4]:=R2.dd e' r1';rw[e1] at e2;cases e2;have g:sS H2 a1 v2 (jK vs' (vO u2)):=.inl #[vs',vO u2,f1,km hk r2,rfl];rcases rT hk f2 f3 f4 with⟨l1,l2⟩|⟨u',v',l1,l2,l3⟩
 .rw[l2] at g
  rw[l1] at w5;exact#[ψ,g,(q.later (st1.trans st2)).now R2 w5 (fj.mpr rfl)]
 .rw[l2] at g
  rw[l1] at w5;exact#[ξ v',g,(q.later (st1.trans st2)).now R2 w5 l3]
def RA(G:Good t T Γ k I X)(hs:k9 b=ζ)(ha:PE X a (tE (X.cc t) Γ x))(hb:PE X b (tE (X.cc t) Γ y)):PE X (.Subscript a b pos) (tE (X.cc t) Γ (.Hh x y)):=by
 refine(Mm (by have:=G.units;show X.A.units+1<gv;omega) ha hb (by cases b<;>first|exact ff hs| (intro _ _;rfl))).imp ?_;rintro σ H Q ⟨env,ρ,S,QU,he,R,w,q⟩;refine#[env,ρ,S,_,he,R,w,λu S1 v H1 ρ1 w1 st1 R1 r1=>?_];refine#[env,ρ1,S1,_,he.later R st1,R1,w1,λu2 S2 v2 H2 ρ2 w2 st2 R2 r2=>?_];obtain⟨n,rfl,w2⟩:=PL.iw.mp (show PL.sE _ _ from w2);obtain⟨kvs,e,hk,w3⟩:=PL.jc.mp w2;obtain⟨u',l1,w4⟩:=PL.iT.mp w3;obtain⟨a1,vs,e1,ha1,g1,g2,g3,g4⟩:=R2.dd e (r1.mono R1 st2);rcases rT hk g2 g3 g4 with⟨z1,_⟩|⟨u3,v',z1,l2,l3⟩
 .rw[l1] at z1;cases z1
 .rw[l1] at z1;cases z1
  exact#[a1,v',e1,.inl #[vs,vO u2,g1,km hk r2,l2.symm],(q.later (st1.trans st2)).now R2 w4 l3]
def Nj:PE X (.Dict [] [] pos) (tE (X.cc t) Γ (.eh .nil .nil)):=by
 refine(MH).imp ?_;kd_p;have w:QU (.loc S.length) (S++[.eh []])\/QU (.loc S.length) (S++[.uJ []])\/QU (.loc S.length) (S++[.xS []]):=w.2;have al:∀{ho:HO}{o:SO},QU (.loc S.length) (S++[o])->(∀p,uE (X.cc t) (ρ++[p]) (upd H p ho) p o)->∀p,H p=ψ->Q (.ref p) (upd H p ho):=λw z p hp=>by
  rwa[q _ _ _ _ _ w (iJ.alloc R hp _) (R.alloc hp (z p)) (eR.mpr #[p,rfl,?_])];rw[<-R.len,ax (aq _),bL];rfl
 rcases w with w|w|w
 .exact#[.dK [],.inl rfl,al w λp=>#[[],bX,rfl,a9.nil,a9.nil]]
 .exact#[.dT [],.inr (.inl rfl),al w λp=>#[[],bX,rfl,a9.nil]]
 .exact#[.dP [],.inr (.inr rfl),al w λp=>#[[],bX,rfl,a9.nil]]
def Nk(G:Good t T Γ k I X)(hg:I.gl ("list":Str)=ζ)(hb:"list"∈T.i7)(hc:X.calm=ζ)(h0:gI o=ζ)(hl:(ap.endLine==cp.line)=ζ)(ho:PE X o (tE (X.cc t) Γ x)):
  PE X (.Call (.Name ("list":Str) p) [.Call (.Attribute o ("values":Str) ap) [] [] cp] [] pos) (tE (X.cc t) Γ (.jL .vals x .nil)):=by
 refine(pC (Dh hc) (iR G hg) (G.tab.i7 "list" hb) (by decide +kernel)
  (nB (Ie ja wN PySem.F.type_dict_values F9 ho (fH h0) hl) sO (cP rfl)) ⋯ ⋯ (cP rfl) rfl).imp ?_
 kd_p;z_go;let#[w1,w2]:=w1;cases u<;>first|exact aV w1|skip
 rename_i n;let#[a,ev,ha]:=eR.mp r1;have w2:PL.qG .vals (.loc n) [] S1 QU:=w2;have w2:(match S1[n]? with|some (.uJ kvs)=>QU (.loc S1.length) (S1++[.lst (kvs.map (·.2))])|_=>False):=w2;cases hs:S1[n]? with
 |none=>rw[hs] at w2;erw[w2.elim]
 |some o=>
  rw[hs] at w2;cases o with
  |uJ kvs=>
   let#[vs,g1,g2,g3]:=R1.at_ n a _ ha hs;refine#[%[ev|.inr (.inr (.inl #[rfl,.inr (.inl #[vs,g1])]))],a,vs,ev,rfl,g1,λp hp=>?_];have st2:=iJ.lay R1 hp (Vh p a);exact#[p,a,vs,rfl,bX,%[cq (dN g1 hp)|g1],λl hl=>(q.later (st1.trans st2)).Gb (R1.lay hp _) (g3.mono R1 st2) w2 hl]
  |_=>erw[w2.elim]
def Nl(G:Good t T Γ k I X)(hg:I.gl (nm q)=ζ)(hc:I.calm=ζ)(hq:q∈T.fns)(hd:(nm q==("__debug__":Str))=ϑ)(h1:noStar e=ζ)(h2:es.all noStar=ζ)
  (ha:PA X (e::es) (Hj (X.cc t) Γ xs)):PE X (.Call (.Name (nm q) p) (e::es) [] pos) (tE (X.cc t) Γ (.call q xs)):=by
 let#[f,hm,hk,fd,ps,F,B]:=G.Ri.fns q hq;refine(aao (k:=k) F ((G.calm hc).2.mono (fF k)) (iR G hg) hm hk B ha hd h1 h2).imp ?_;rintro σ H Q ⟨env,ρ,S,QU,he,R,w,qq⟩;refine#[env,ρ,S,_,he,R,w,λus S1 vs H1 ρ1 w1 st1 R1 r1=>?_];exact#[us,ρ1,S1,QU,r1,R1,w1,qq.later st1]
def Jy(G:Good t T Γ k I X)(hg:I.gl (nm q)=ζ)(hc:I.calm=ζ)(hq:q∈T.fns)(hd:(nm q==("__debug__":Str))=ϑ):PE X (.Call (.Name (nm q) p) [] [] pos) (tE (X.cc t) Γ (.call q .nil)):=by
 let#[f,hm,hk,fd,ps,F,B]:=G.Ri.fns q hq;refine(HY (k:=k) F ((G.calm hc).2.mono (fF k)) (iR G hg) hm hk B .nil xP hd).imp ?_;rintro σ H Q ⟨env,ρ,S,QU,he,R,w,qq⟩;exact#[[],ρ,S,QU,a9.nil,R,w,qq]
def Bq(R:cD c ρ H S)(hc:c.cls cn=ξ C)(hx:H x=ψ)(hd:H dx=ψ)(ne:dx≠x):
  iJ ρ H (ρ++[x]) (upd (upd H dx (.own x)) x (.ins C dx []))/\cD c (ρ++[x]) (upd (upd H dx (.own x)) x (.ins C dx [])) (S++[.ins cn []])/\Rep c (ρ++[x]) (upd (upd H dx (.own x)) x (.ins C dx [])) (.loc S.length) (.ref x):=by
 have R1:=R.lay hd (.own x);have s1:=iJ.lay R hd (.own x);have hx1:upd H dx (.own x) x=ψ:=%[cq (cJ ne)|hx]
 have s2:=iJ.alloc R1 hx1 (.ins C dx []);refine#[s1.trans s2,R1.alloc hx1 #[C,dx,[],hc,bX,rfl,a9.nil],eR.mpr #[x,rfl,?_]];rw[<-R.len,ax (aq _),bL];rfl
def VH(G:Good t T Γ k I X)(hg:I.gl (nm q)=ζ)(hc:I.calm=ζ)(hq:q∈T.qH)(hd:(nm q==("__debug__":Str))=ϑ)(h1:noStar e=ζ)(h2:es.all noStar=ζ)
  (ha:PA X (e::es) (Hj (X.cc t) Γ xs)):PE X (.Call (.Name (nm q) p) (e::es) [] pos) (tE (X.cc t) Γ (.mk q (q++".__init__") xs)):=by
 let#[C,f,hC,hm,M,fd,ps,F,B]:=G.Ri.cls q hq;refine(aaq (k:=k) M F (G.calm hc).2 (iR G hg) hm B ha hd h1 h2).imp ?_;rintro σ H Q ⟨env,ρ,S,QU,he,R,w,qq⟩;refine#[env,ρ,S,_,he,R,w,λus S1 vs H1 ρ1 w1 st1 R1 r1=>?_];intro x dx hx hdx ne;let#[s2,R2,r2]:=Bq R1 hC hx hdx ne;refine#[_,ρ1++[x],_,_,a9.cons r2 (r1.mono R1 s2),R2,w1,λu S3 v H3 ρ3 w3 st3 R3 r3=>?_];let#[rfl,w4]:=w3;exact#[fj.mp r3,qq _ _ _ _ _ w4 ((st1.trans s2).trans st3) R3 (r2.mono R2 st3)]
def RB(G:Good t T Γ k I X)(hg:I.gl (nm q)=ζ)(hc:I.calm=ζ)(hq:q∈T.qH)(hd:(nm q==("__debug__":Str))=ϑ):PE X (.Call (.Name (nm q) p) [] [] pos) (tE (X.cc t) Γ (.mk q (q++".__init__") .nil)):=by
 let#[C,f,hC,hm,M,fd,ps,F,B]:=G.Ri.cls q hq;refine(H0 (k:=k) M F (G.calm hc).2 (iR G hg) hm B .nil xP hd).imp ?_;rintro σ H Q ⟨env,ρ,S,QU,he,R,w,qq⟩;intro x dx hx hdx ne;let#[s2,R2,r2]:=Bq R hC hx hdx ne;refine#[_,ρ++[x],_,_,a9.cons r2 a9.nil,R2,w,λu S3 v H3 ρ3 w3 st3 R3 r3=>?_];let#[rfl,w4]:=w3;exact#[fj.mp r3,qq _ _ _ _ _ w4 (s2.trans st3) R3 (r2.mono R2 st3)]
def lookup_none:∀{fs:List (String×U)}{vs:List (Str×V)}{m:String},vs.map (·.1)=(fs.map (·.1)).map nm->fs.lookup m=ψ->vs.lookup (nm m)=ψ
 |[],[],_,_,_=>rfl
 |[],_::_,_,e,_=>by simp at e
 |_::_,[],_,e,_=>by simp at e
 | (g,w)::fs,(a,v)::vs,m,e,h=>by
  dsimp[az,dE] at e;rw[aP] at h ⊢;by_cases z:m=g
  .subst z;simp at h
  .have z1:(m==g)=ϑ:=by simp[z]
   rw[z1] at h;have z2:(nm m==a)=ϑ:=by
    rw[e.1]
    dsimp[beq_eq_false_iff_ne,ne_eq];erw[λq=>z (vR _ _ q)]
   rw[z2]
   erw[lookup_none e.2 h]
def Nm(G:Good t T Γ k I X)(hc:I.calm=ζ)(hq:(m,q)∈T.qI)(h0:gI o=ζ)(hl:(apos.endLine==pos.line)=ζ)(hn:(e::es).length<20)(h1:noStar e=ζ)(h2:es.all noStar=ζ)
  (ho:PE X o (tE (X.cc t) Γ x)) (ha:PA X (e::es) (Hj (X.cc t) Γ xs)):PE X (.Call (.Attribute o (nm m) apos) (e::es) [] pos) (tE (X.cc t) Γ (.dg q m (q++"."++m) x xs)):=by
 let#[C,f,hC,M,fd,ps,F,B]:=G.Ri.T6 (m,q) hq;refine(aap (k:=k) ho (G.tab.cls q C hC).1 M F ((G.calm hc).2.mono (fF k)) B ha h0 hn hl h1 h2).imp ?_;rintro σ H Q ⟨env,ρ,S,QU,he,R,w,qq⟩;z_go;let#[l,e1,w2]:=PL.iw.mp w1;subst e1;let#[c',fs,e2,#[rfl,e3],w3]:=PL.mV.mp w2;let#[a,C',dx,vs,ev,_,hC',ha',hnn,_]:=R1.ins e2 r1;rw[hC] at hC';injection hC' with hC';subst hC'
 refine#[a,dx,vs,ev,ha',lookup_none hnn e3,?_];refine#[env,ρ1,S1,_,he.later R st1,R1,w3,λus S2 vs2 H2 ρ2 w4 st2 R2 r2=>?_];exact#[_,ρ2,S2,QU,a9.cons (r1.mono R1 st2) r2,R2,w4,qq.later (st1.trans st2)]
def Jz(G:Good t T Γ k I X)(hc:I.calm=ζ)(hq:(m,q)∈T.qI)(h0:gI o=ζ)(hl:(apos.endLine==pos.line)=ζ)
  (ho:PE X o (tE (X.cc t) Γ x)):PE X (.Call (.Attribute o (nm m) apos) [] [] pos) (tE (X.cc t) Γ (.dg q m (q++"."++m) x .nil)):=by
 let#[C,f,hC,M,fd,ps,F,B]:=G.Ri.T6 (m,q) hq;refine(HZ (k:=k) ho (G.tab.cls q C hC).1 M F ((G.calm hc).2.mono (fF k)) B .nil xP (yf h0 rfl ⋯ hl)).imp ?_;rintro σ H Q ⟨env,ρ,S,QU,he,R,w,qq⟩;z_go;let#[l,e1,w2]:=PL.iw.mp w1;subst e1;let#[c',fs,e2,#[rfl,e3],w3]:=PL.mV.mp w2;let#[a,C',dx,vs,ev,_,hC',ha',hnn,_]:=R1.ins e2 r1;rw[hC] at hC';injection hC' with hC';subst hC'
 refine#[a,dx,vs,ev,ha',lookup_none hnn e3,?_];exact#[_,ρ1,S1,QU,a9.cons r1 a9.nil,R1,w3,qq.later st1]
end
open PL (U SO bG KU bY)
section
variable{t:yc}{T:Tab}{Γ:bY}{k n:Nat}{I:Inf}{X:Cx}
def VI{x:Str}{n:String}{pos:Pos}(G:Good t T Γ k I X)(g:I.gl x=ζ)(c:(x==(n:Str)&&T.i7.contains n)=ζ)(hv:kB (n:Str)=ξ (.type n))(hn:(n:Str)≠"__name__")(hd:((n:Str)== ("__debug__":Str))=ϑ):PE X (.Name x pos) (tC (.ty n)):=by
 rw[ar] at c;obtain rfl:x=(n:Str):=eq_of_beq c.1;exact LN (iR G g) (G.tab.i7 n (~~~c.2)) hv rfl hn hd
def RC{e:Expr}(G:Good t T Γ k I X)(h:Yb T I e=ζ):noStar e=ζ/\PE X e (tC (.ty "str")):=by
 unfold Yb at h;split at h
 .rename_i x h0
  let#[pos,rfl]:=Eu h0;rw[ar] at h;exact#[rfl,VI G h.1 h.2 (by decide +kernel) ⋯ ⋯]
 .erw[ff h]
def Gj:iI X (.builtin "isinstance") (λxs H Q=>∃l,xs=[.str l,.ty "str"]/\Q (.bl ζ) H):=by
 k_go;let#[l,rfl,q]:=h;let#[ux,uc,rfl,rx,rc]:=r.two;cases (show uc=Fe "str" from rc);let#[t,rfl]:=rx;erw[kia_one kitx_str I.yT trivial rfl (λz=>nomatch z) λtk=>#[.bl ζ,H,I.tok tk,rfl,q]]
def RD{a c:Expr}{x:PL.Ex}{p pos:Pos}(G:Good t T Γ k I X)(hg:I.gl ("isinstance":Str)=ζ)(hb:"isinstance"∈T.i7)(h1:noStar a=ζ)(hc:Yb T I c=ζ)(ha:PE X a (tE (X.cc t) Γ x)):
  PE X (.Call (.Name ("isinstance":Str) p) [a,c] [] pos) (tE (X.cc t) Γ (.Vd x)):=by
 let#[h2,hp]:=RC G hc;refine(mS Gj (iR G hg) (G.tab.i7 "isinstance" hb) boot_isinstance (nB ha (nB hp sO (cP h2)) (cP h1)) ⋯ ⋯ (cP h1) (gB (by simp[h2]))).imp ?_;rintro σ H Q ⟨env,ρ,S,QU,he,R,w,q⟩;refine#[env,ρ,S,_,he,R,w,λu S1 v H1 ρ1 w1 st1 R1 r1=>?_];let#[l,rfl,w2]:=PL.nI.mp (show PL.ID _ _ from w1);exact#[_,by rw[bC.mp r1],(q.later st1).now R1 w2 (fc.mpr rfl)]
end
open PL (U SO bG KU bY)
def RE(hl:PE X l tl):PI X tg l (λσ H R=>tl σ H λx H1=>(∃a,x=.ref a/\(∃xs,ij X.K H1 a xs)/\R (YG X.K a) H1)\/(∃a,x=.ref a/\(∃xs,lO X.K H1 a xs)/\R (YH X.K a) H1)\/∃z,x=.str z/\R (U9 z) H1):=by
 intro pZ s σ H R I h;rwa[eJ (hl pZ s σ H _ I h) λv s1 h9=>?_]
 let#[x,H1,I1,r1,q1]:=h9;rcases q1 with⟨a,e,⟨xs,hq⟩,q⟩|⟨a,e,⟨xs,hq⟩,q⟩|⟨z,e,q⟩
 .subst e
  cases r1;let#[its,rv,p,hz]:=I1.list hq;rwa[kD p.isList ?_];refine#[s1.heap.objs.size,[s1.heap.objs.size],_,_,H1,rfl,I1.kept (t':=s1.toks) λb o e=>aJ _ e,FA a _,#[_,aZ _ rfl,rfl,rfl],λb hb=>?_,q];have e:b=s1.heap.objs.size:=by simpa using hb
  subst e;erw[I1.AS (aq _) (I1.dQ.fresh (aq _))]
 .subst e
  cases r1;let#[its,rv,p,hz]:=I1.tuple hq;rwa[wpAny_pyIter_tuple (show s1.heap.IsTuple a its.toArray from p) ?_];refine#[s1.heap.objs.size,[s1.heap.objs.size],_,_,H1,rfl,I1.kept (t':=s1.toks) λb o e=>aJ _ e,Cy a _,#[_,aZ _ rfl,rfl,rfl],λb hb=>?_,q];have e:b=s1.heap.objs.size:=by simpa using hb
  subst e;erw[I1.AS (aq _) (I1.dQ.fresh (aq _))]
 .subst e
  let#[t,rfl]:=r1;have fin:∀(b:Bool)(o:Obj),o={cls:=.type (if b then "str_ascii_iterator" else "str_iterator"),data:=.fields (List.toArray [.str z t,.int 0 0])}->YF X pZ σ tg R (.ref s1.heap.objs.size) {s1 with heap:=s1.heap.push o}:=λb o eo=>by
   refine#[s1.heap.objs.size,[s1.heap.objs.size],_,U9 z,H1,rfl,I1.kept (t':=s1.toks) λb o e=>aJ _ e,Iw _ z t b,#[_,aZ _ (by rw[eo];rfl),by rw[eo],by rw[eo];rfl],λc hc=>?_,q];have e:c=s1.heap.objs.size:=by simpa using hc
   subst e;erw[I1.AS (aq _) (I1.dQ.fresh (aq _))]
  cases ha:z.cps.all (·<128)
  .erw[wpAny_pyIter_wide ha (fin ϑ _ rfl)]
  .erw[wpAny_pyIter_ascii ha (fin ζ _ rfl)]
section
variable{c:Ctx}{ρ:List Addr}{H:Hp}{S:bG}
def Nn{n:Nat}{us:List U}{a:Addr}(ha:ρ[n]?=ξ a):Bo c ρ H (YG c.K a) us (λS'=>S'[n]?=ξ (.lst us)):=by
 intro i ρ2 H2 S2 st R g;let#[vs,h1,h2]:=R.at_ n a _ (st.get ha) g;refine#[λu hu=>?_,λhl=>#[vs,ij.of h1,by rw[<-h2.len];erw[hl]]];let#[v,e,r]:=h2.get hu;refine#[#[vs,v,ij.of h1,e],λy H3 h9=>?_];let#[e3,hy]:=h9;subst e3;have:=hy vs (ij.of h1);rw[e] at this;injection this with this;subst this
 exact#[.refl,R,r]
def RF(R0:cD c ρ H S)(h1:H a=ξ (.tup vs))(h2:a9 c ρ H us vs):Bo c ρ H (YH c.K a) us (λ_=>True):=by
 intro i ρ2 H2 S2 st R g;have h1':=st.fr a _ h1 (R0.not h1 rfl);have h2':=h2.mono R0 st;refine#[λu hu=>?_,λhl=>#[vs,lO.of h1',by rw[<-h2'.len];erw[hl]]];let#[v,e,r]:=h2'.get hu;refine#[#[vs,v,lO.of h1',e],λy H3 h9=>?_];let#[e3,hy]:=h9;subst e3;have:=hy vs (lO.of h1');rw[e] at this;injection this with this;subst this
 exact#[.refl,R,r]
def RG:Bo c ρ H (U9 (tx l)) (l.map λd=>.str [d]) (λ_=>True):=by
 intro i ρ2 H2 S2 st R g;refine#[λu hu=>?_,λhl=>?_]
 .rw[aC] at hu
  let#[d,e,e2]:=au.mp hu;subst e2;refine#[?_,λy H3 #[e3,d',e4,e5]=>?_]
  .show i<(tx l).cps.size
   have:=(ag.mp e).1;simpa using this
  .subst e3
   have:l[i]?=ξ d':=by simpa using e4
   rw[e] at this;injection this with this;subst this
   rw[e5]
   exact#[.refl,R,bC.mpr rfl]
 .show(tx l).cps.size<=i
  simpa using hl
def Np{n:Nat}{us:List U}{a:Addr}(ha:ρ[n]?=ξ a):Bo c ρ H (X2 c.K a) (us.mapIdx λi u=>.tup [.int (i:Nat),u]) (λS'=>S'[n]?=ξ (.lst us)):=by
 intro i ρ2 H2 S2 st R g;let#[vs,h1,h2]:=R.at_ n a _ (st.get ha) g;refine#[λu hu=>?_,λhl=>#[vs,ij.of h1,by rw[<-h2.len];simpa using hl]];rw[fD] at hu;let#[u',e0,e1]:=au.mp hu;subst e1;let#[v,e,r]:=h2.get e0;refine#[#[vs,v,ij.of h1,e],λy H3 h9=>?_];let#[p,x,hp,e3,e4,hy]:=h9;have:=hy vs (ij.of h1);rw[e] at this;injection this with this;subst this
 subst e3 e4;have st':=iJ.lay R hp (.tup [.int (i:Nat),v]);exact#[st',R.lay hp _,dG.mpr #[p,_,rfl,bX,a9.cons (aO.mpr rfl) (a9.cons (r.mono R st') a9.nil)]]
def EE{n:Nat}{a:Addr}{o:Obj}{kvs:List (U×U)}{vs:List (Key×V)}(ha:ρ[n]?=ξ a)(h:H a=ξ (.sC o (.dK vs))):Bo c ρ H (TR a o vs) (kvs.map (·.1)) (λS'=>S'[n]?=ξ (.qD kvs)):=by
 intro i ρ2 H2 S2 st R g;have e:=st.fz a o vs h;let#[o',vs',h1,h2,h3,_]:=R.at_ n a _ (st.get ha) g;rw[e] at h1;cases h1;refine#[λu hu=>?_,λhl=>#[e,by rw[h2];simpa using hl]];have hi:i<vs.length:=by rw[h2];have:=(ag.mp hu).1;simpa using this
 refine#[#[e,hi],λy H3 h9=>?_];let#[e3,k,v,e4,e5]:=h9;subst e3 e5;let#[v2,e6,r]:=h3.get hu;rw[aC,e4] at e6;cases e6;exact#[.refl,R,r]
def RH{n:Nat}{us:List U}{a:Addr}(ha:ρ[n]?=ξ a):Bo c ρ H (Y9 c.K a us.length) us.reverse (λS'=>S'[n]?=ξ (.lst us)):=by
 intro i ρ2 H2 S2 st R g;let#[vs,h1,h2]:=R.at_ n a _ (st.get ha) g;refine#[λu hu=>?_,λhl=>by show us.length<=i;simpa using hl];have hi:i<us.length:=by have:=(ag.mp hu).1;simpa using this
 rw[Cp hi] at hu;let#[v,e,r]:=h2.get hu;refine#[#[vs,v,ij.of h1,hi,e],λy H3 h9=>?_];let#[e3,hy]:=h9;have:=hy vs (ij.of h1);rw[e] at this;injection this with this;subst this;subst e3
 exact#[.refl,R,r]
def JA:Bo c ρ H (XS 0 n) ((cv n).map λk=>.int (k:Nat)) (λ_=>True):=by
 intro i ρ2 H2 S2 st R g;refine#[λu hu=>?_,λhl=>?_]
 .rw[aC] at hu
  let#[d,e,e2]:=au.mp hu;subst e2;have hi:=(ag.mp e).1;rw[gV] at hi;rw[iS hi] at e;injection e with e;subst e
  refine#[hi,λy H3 h9=>?_];let#[e3,e4]:=h9;subst e3;subst e4;exact#[.refl,R,aO.mpr (#v[])]
 .show n<=i
  simpa using hl
end
section
variable{t:yc}{T:Tab}{Γ:bY}{k n:Nat}{I:Inf}{X:Cx}
def RI{e tg:Expr}{x:PL.Ex}(h:PE X e (tE (X.cc t) Γ x)):PI X tg e (Ar (X.cc t) Γ (.val x)):=by
 rwa[λpins' s σ H Q J z=>RE h pins' s σ H Q J ?_]
 let#[env,ρ,S,RU,he,R,w,q]:=z;z_go;cases u with
 |str l=>rw[bC.mp r1];erw[.inr (.inr #[_,rfl,q _ _ _ _ _ _ w1 st1 R1 RG])]
 |tup us=>
  let#[a,vs,e1,h1,h2]:=dG.mp r1;erw[.inr (.inl #[a,e1,#[vs,lO.of h1],q _ _ _ _ _ _ w1.2 st1 R1 (RF R1 h1 h2)])]
 |loc m=>
  let#[us,e0,w2]:=PL.cK.mp (show PL.getL _ _ from w1);let#[a,vs,e1,ha,h1,h2]:=R1.lst e0 r1;erw[.inl #[a,e1,#[vs,ij.of h1],q _ _ _ _ _ _ w2 st1 R1 (Nn ha)]]
 |_=>erw[aV w1]
def Nq{e tg:Expr}{x:PL.Ex}(h:PE X e (tE (X.cc t) Γ x)):PI X tg e (Ar (X.cc t) Γ (.keys x)):=by
 rwa[λpins' s σ H Q J z=>Mr h pins' s σ H Q J ?_]
 let#[env,ρ,S,RU,he,R,w,q]:=z;z_go;let#[n,rfl,w1]:=PL.iw.mp (show PL.sE _ _ from w1);let#[kvs,e,w2]:=PL.jc.mp w1;let#[a,ev,ha]:=eR.mp r1;rcases e with e|e
 .let#[vs,g1,g2,g3,g4]:=R1.at_ n a _ ha e
  refine#[a,vs,ev,.inl #[g1,λo=>?_]];have st2:=iJ.put (H:=H1) (ah ha) g1 rfl (.sC o (.dK vs));erw[q _ _ _ _ _ _ w2 (st1.trans st2) (R1.put ha g1 rfl #[o,vs,bX,g2,g3.mono R1 st2,g4.mono R1 st2]) (EE ha bX)]
 .let#[o,vs,g1,g2,g3,g4]:=R1.at_ n a _ ha e
  have es:S1.set n (.qD kvs)=S1:=by
   let#[hl,e2]:=ag.mp e;rw[<-e2];erw[List.set_getElem_self hl]
  rw[es] at w2;exact#[a,vs,ev,.inr #[o,g1,q _ _ _ _ _ _ w2 st1 R1 (EE ha g1)]]
def JB(G:Good t T Γ k I X)(hg:I.gl ("range":Str)=ζ)(hb:"range"∈T.i7)(h1:noStar a=ζ)(h:PE X a (tE (X.cc t) Γ x)):
  PI X tg (.Call (.Name ("range":Str) p) [a] [] pos) (Ar (X.cc t) Γ (.range x)):=by
 rwa[λpins' s σ H Q J z=>FC (iR G hg) (G.tab.i7 "range" hb) (nB h sO (cP h1)) (cP h1) pins' s σ H Q J ?_]
 let#[env,ρ,S,RU,he,R,w,q]:=z;z_go;let#[j,e,w2,w3,w4]:=PL.fZ.mp w1;subst e;exact#[j,by rw[aO.mp r1],∅,∅,q _ _ _ _ _ _ w4 st1 R1 JA]
def RJ{a tg:Expr}{x:PL.Ex}{p pos:Pos}(G:Good t T Γ k I X)(hg:I.gl ("reversed":Str)=ζ)(hb:"reversed"∈T.i7)(h1:noStar a=ζ)(h:PE X a (tE (X.cc t) Γ x)):
  PI X tg (.Call (.Name ("reversed":Str) p) [a] [] pos) (Ar (X.cc t) Γ (.rev x)):=by
 rwa[λpins' s σ H Q J z=>QF (iR G hg) (G.tab.i7 "reversed" hb) (nB h sO (cP h1)) (cP h1) pins' s σ H Q J ?_]
 let#[env,ρ,S,RU,he,R,w,q]:=z;z_go;let#[m,e,w2]:=PL.iw.mp w1;subst e;let#[us,e0,w3]:=PL.cK.mp w2;let#[b,vs,e1,hb,g1,g2]:=R1.lst e0 r1;subst e1;exact#[b,vs,rfl,ij.of g1,by rw[<-g2.len];erw[q _ _ _ _ _ _ w3 st1 R1 (RH hb)]]
def aar{n:Nat}{e:Expr}{x:PL.It}{es:List Expr}{ek:Nat}{tp:Pos}(IH:Gh t T Γ k n)(G:Good t T Γ k I X)(h:cN T (n+1) I e=ξ x):PI X (.Tuple es ek tp) e (Ar (X.cc t) Γ x):=by
 rw[aac] at h;delta stN at h;split at h
 .rename_i f a hr
  let#[p,cp,rfl]:=OT hr;split at h
  .rename_i hc
   dsimp[ar] at hc;let#[#[#[c1,c2],c3],c4]:=hc;have ef:f=("enumerate":Str):=by simpa using c1
   subst ef;let#[y,h1,h2]:=au.mp h;subst h2;refine λpins' s σ H Q J z=>MF (iR G c2) (G.tab.i7 "enumerate" (~~~c3)) (nB (IH.fe G h1) sO (cP c4)) (cP c4) pins' s σ H Q J ?_
   let#[env,ρ,S,RU,he,R,w,q]:=z;z_go;let#[m,e,w2]:=PL.iw.mp w1;subst e;let#[us,e0,w3]:=PL.cK.mp w2;let#[b,vs,e1,hb,g1,g2]:=R1.lst e0 r1;subst e1;exact#[b,rfl,#[vs,ij.of g1],q _ _ _ _ _ _ w3 st1 R1 (Np hb)]
  .erw[nn h]
 .erw[nn h]
def EF:∀{n:Nat}{I:Inf}{e:Expr}{x:PL.Ex},cE T n I e=ξ x->noStar e=ζ:=by
 intro n I e x h;cases n with
 |zero=>erw[nn h]
 |succ n=>
  cases e<;>first|rfl|exact nn h
def VJ(IH:Gh t T Γ k n)(G:Good t T Γ k I X)(h:cI T (n+1) I e=ξ x):PI X tg e (Ar (X.cc t) Γ x):=by
 have gen:∀{x:PL.It},(cE T n I e).map PL.It.val=ξ x->PI X tg e (Ar (X.cc t) Γ x):=λh=>by
  let#[y,h1,h2]:=au.mp h;subst h2;erw[RI (IH.fe G h1)]
 rw[aaa] at h;delta stI at h;split at h
 .rename_i f a hr
  let#[p,cp,rfl]:=OT hr;split at h
  .rename_i hf
   split at h
   .rename_i hc
    rw[ar] at hc;let#[y,h1,h2]:=au.mp h;subst h2;have ef:f=("range":Str):=by simpa using hf
    subst ef;exact JB G hc.1 (~~~hc.2) (EF h1) (IH.fe G h1)
   .erw[nn h]
  .split at h
   .rename_i hf
    split at h
    .rename_i hc
     rw[ar] at hc;let#[y,h1,h2]:=au.mp h;subst h2;have ef:f=("reversed":Str):=by simpa using hf
     subst ef;exact RJ G hc.1 (~~~hc.2) (EF h1) (IH.fe G h1)
    .erw[nn h]
   .erw[gen h]
 .split at h
  .let#[y,h1,h2]:=au.mp h
   subst h2;erw[Nq (IH.fe G h1)]
  .erw[gen h]
end
open PL (U SO bG KU bY)
section
variable{c:Ctx}{ρ ρ2:List Addr}{H H2:Hp}{S:bG}
def iJ.VL(a:iJ ρ H ρ2 H2)(h:H D=ψ):iJ ρ H (ρ2++[D]) H2:=by
 let#[m,e]:=a.pre;refine#[#[m++[D],by rw[e,bx]],λb hb nb=>?_,a.fr,a.fz];rcases aL.mp hb with z|z
 .erw[a.new b z nb]
 .rw[bp.mp z];erw[h]
def iJ.Bm(a:iJ ρ H ρ2 H2)(h:H D=ψ)(o:HO):iJ ρ H ρ2 (upd H2 D o):=
 #[a.pre,a.new,λb o' h1 h2=>%[cq (dN h1 h)|a.fr b o' h1 h2],λb o' vs h1=>%[cq (dN h1 h)|a.fz b o' vs h1]]
def iJ.out(a:iJ ρ H ρ2 H2)(h:H D=ξ o)(n:D∉ρ):D∉ρ2/\H2 D=ξ o:=by
 refine#[λz=>?_,a.fr D o h n];have:=a.new D z n;rw[h] at this;cases this
def JC(he:kG c ρ H env σ)(r:kG c ρ H us ys):kG c ρ H (us++PL.mZ env ci) (ys++gZ σ ci):=by
 have hl:=r.len;refine#[by simp[PL.mZ,gZ,hl],λi w e=>?_];by_cases lt:i<us.length
 .rw[ao lt] at e
  rw[ao ∅]
  erw[r.at_ i w e]
 .rw[ax ∅] at e
  rw[ax ∅,<-hl]
  generalize i-us.length=i at e ⊢;unfold PL.mZ at e;unfold gZ;rw[aC] at e ⊢;cases q:ci[i]? with
  |none=>rw[q] at e;cases e
  |some j=>
   rw[q] at e;dsimp[i4,pY] at e ⊢;cases z:env[j]? with
   |none=>rw[z] at e;cases e
   |some o=>
    rw[z] at e;cases o with
    |none=>cases e
    |some w'=>
     simp at e;subst e;let#[v,e1,r1]:=he.at_ j w' z;exact#[v,by rw[e1];rfl,r1]
def VM(r:Rep c ρ H u y):kG c ρ H [ξ u] [ξ y]:=
 #[rfl,λi w e=>by cases i<;>simp at e;subst e;exact#[y,rfl,r]]
def VN(r:Rep c ρ H u y)(r':Rep c ρ H u' y'):kG c ρ H [ξ u,ξ u'] [ξ y,ξ y']:=
 #[rfl,λi w e=>by
  match i with
  |0=>simp at e;subst e;exact#[y,rfl,r]
  |1=>simp at e;subst e;exact#[y',rfl,r']
  |i+2=>simp at e]
end
section
variable{t:yc}{T:Tab}{Γ:bY}{k n:Nat}{I:Inf}{X:Cx}
def mem_lookup:∀{l:List (Str×NameKind)}{y:Str}{k:NameKind},l.lookup y=ξ k->(y,k)∈l
 |[],_,_,h=>nomatch h
 | (a,b)::l,y,k,h=>by
  rw[aP] at h;by_cases e:y=a
  .subst e;simp at h;subst h;erw[aQ]
  .have e2:(y==a)=ϑ:=by simp[e]
   rw[e2] at h;erw[ay _ (mem_lookup h)]
def vS(G:Good t T Γ k I X)(h:vK I sc x=ζ):A4 X sc x:=by
 unfold vK at h;dsimp[ar,cy] at h;let#[#[#[#[#[h1,h2],h3],h4],h5],h6]:=h;refine#[~~~h1,λy hy e=>?_,λy hy e=>?_,λy hy e=>?_,λy hy=>by simpa using h5 y hy,of_decide_eq_true h6,λy e=>?_]
 .have:=h2 y hy;rw[e] at this;simpa using this
 .have:=h3 y hy;rw[e] at this;simpa using this
 .have:=h4 y hy;rw[e] at this;rw[G.names];simpa using this
 .erw[mem_lookup e]
def EG(G:Good t T Γ k I X)(h:(iQ I sc).mapM (λy=>eM y I.N)=ξ ci):ze X sc (iQ I sc) ci:=by
 have key:∀(l:List Str)(ci:List Nat),l.mapM (λy=>eM y I.N)=ξ ci->ci.length=l.length/\∀(k:Nat)(y:Str),l[k]?=ξ y->∃j:Nat,ci[k]?=ξ j/\I.N[j]?=ξ y:=by
  intro l;induction l with
  |nil=>intro ci h;simp at h;subst h;exact#[rfl,λk y e=>by simp at e]
  |cons a l ih=>
   intro ci h;dsimp[List.mapM_cons,aM,aE] at h;let#[j,h1,r,h2,h3]:=h;simp at h3;subst h3;let#[q1,q2]:=ih r h2;refine#[by simp[q1],λk y e=>?_];cases k with
   |zero=>simp at e;subst e;exact#[j,rfl,fA h1]
   |succ k=>simp at e ⊢;erw[q2 k y e]
 let#[q1,q2]:=key _ _ h;refine#[q1,λk y e=>?_,λy hy=>?_]
 .rw[G.slots];erw[q2 k y e]
 .unfold iQ at hy
  have:=(fq.mp hy).2;simpa using this
def rY(G:Good t T Γ k I X)(hc:I.calm=ζ)(h:vK I sc x=ζ)(cp:ze X sc (iQ I sc) ci)(hn:(iQ I sc).Nodup):
  Good t T Γ k #[rP I sc.names,x++iQ I sc,ζ] (X.vx sc C (x++iQ I sc) s₀ H₀ ex):=by
 have B:=vS G h;refine#[G.tab,G.Ri,B.kind,?_,rfl,sW cp B hn,λ_=>G.calm hc,G.units,rfl];show(Hw sc X.env).names=_;unfold Hw rP;simp only
 congr 1
 funext p
 let#[a,b]:=p;dsimp[G.kind,Env.kindOf,G.names];simp
def yg(z:tE (X.cc t) Γ (.comp pr e it tc ci) σ H Q):
  Ir (U8 X.K pr) (Ar (X.cc t) Γ it) ci (tT (X.cc t) Γ tc) (tE (X.cc t) Γ e) σ H Q:=by
 let#[env,ρ,S,QU,he0,R,w,q]:=z;refine#[env,ρ,S,_,he0,R,w,λus g S1 H1 ρ1 J w1 st1 R1 io=>?_];intro D hD;have he1:=he0.later R st1;have D0:D∉ρ1:=R1.Jb hD
 let F:=PL.mY g (λu S2 k=>PL.qo pr u (PL.mZ env ci) λen=>PL.WT Γ tc en S2 k)
   (λu S2 k=>PL.qo pr u (PL.mZ env ci) λen=>PL.WE Γ e en S2 k) (λacc S3=>QU (.loc S3.length) (S3++[.lst acc]))
 refine#[λi m acc H2=>m+i=us.length/\∃ρ2 S2 accU,iJ ρ1 H1 ρ2 H2/\cD (X.cc t) ρ2 H2 S2/\D∉ρ2/\H2 D=ξ (.lst acc)/\a9 (X.cc t) ρ2 H2 accU acc/\F (us.drop i) accU S2,#[us.length,rfl,ρ1,S1,[],iJ.lay R1 hD _,R1.lay hD _,D0,bX,a9.nil,w1],?_];rintro i m acc H2 ⟨hm,ρ2,S2,accU,st2,R2,D2,hD2,ra,wc⟩;have hlen:acc.length=accU.length:=ra.len.symm;cases hd:us.drop i with
 |nil=>
  rw[hd] at wc;obtain⟨g2,hl,w2⟩:g S2/\accU.length<1000000/\QU (U.loc S2.length) (S2++[SO.lst accU]):=wc;refine#[hD2,%[hlen|av hl ⋯],.inl #[((io i ρ2 H2 S2 st2 R2 g2).2 (D1.mp hd)),?_]];rwa[q _ _ _ _ _ w2 (st1.trans (st2.VL hD)) (R2.join D2 #[acc,hD2,ra]) (eR.mpr #[D,rfl,?_])];rw[<-R2.len,ax (aq _),bL];rfl
 |cons u rest=>
  rw[hd] at wc;obtain⟨g2,hl,w0⟩:g S2/\accU.length<1000000/\PL.qo pr u (PL.mZ env ci) λen=>PL.WT Γ tc en S2 (λb S3=>if b=ζ then PL.qo pr u (PL.mZ env ci) (λen=>PL.WE Γ e en S3 (λv S4=>F rest (accU++[v]) S4)) else F rest accU S3):=wc
  have hu:us[i]?=ξ u:=by
   have:=congrArg (λl=>l[0]?) hd;simpa using this
  have hr:us.drop (i+1)=rest:=by
   have:=congrArg List.tail hd;simpa using this
  have hi:i<us.length:=(ag.mp hu).1;let#[jg,jy]:=(io i ρ2 H2 S2 st2 R2 g2).1 u hu;refine#[hD2,by rw[hlen];exact av hl ⋯,.inr #[jg,λy H3 hy=>?_]];let#[st3,R3,ry]:=jy y H3 hy;let#[_,hD3]:=st3.out hD2 D2;have ra3:=ra.mono R2 st3;obtain⟨us',τ,rτ,w2,kτ⟩:∃(us':PL.Env)(τ:St),kG (X.cc t) ρ2 H3 us' τ/\PL.WT Γ tc (us'++PL.mZ env ci) S2 (λb S3=>if b=ζ then PL.WE Γ e (us'++PL.mZ env ci) S3 (λv S4=>F rest (accU++[v]) S4) else F rest accU S3)/\∀k:St->Prop,k τ->U8 X.K pr y H3 k:=by
   cases pr with
   |false=>exact#[[ξ u],[ξ y],VM ry,w0,λk z=>z]
   |true=>
    let#[u1,u2,eu,w2]:=PL.Ej.mp w0;subst eu;let#[a,vs,e1,ha,hr2]:=dG.mp ry;let#[v1,v2,ev,r1,r2]:=x9 hr2;subst ev;exact#[[ξ u1,ξ u2],[ξ v1,ξ v2],VN r1 r2,w2,λk z=>#[a,v1,v2,e1,lO.of ha,z]]
  have he3:=JC (ci:=ci) (he1.later R1 (st2.trans st3)) rτ;rwa[kτ _ #[_,ρ2,S2,_,he3,R3,w2,λb S4 H4 ρ4 w4 st4 R4=>?_]];let#[D4,hD4]:=st4.out hD3 D2;have ra4:=ra3.mono R3 st4;cases b with
  |false=>exact#[m-1,∅,∅,ρ4,S4,accU,(st2.trans st3).trans st4,R4,D4,hD4,ra4,%[hr|w4]]
  |true=>
   refine#[_,ρ4,S4,_,he3.later R3 st4,R4,w4,λv S5 z H5 ρ5 w5 st5 R5 r5=>?_];let#[D5,hD5]:=st5.out hD4 D4;have ra5:=(ra4.mono R4 st5).app (a9.cons r5 a9.nil);refine#[hD5,m-1,∅,∅,ρ5,S5,accU++[v],(((st2.trans st3).trans st4).trans st5).Bm hD _,R5.Bm _ hD5 rfl D5,D5,bX,ra5.iK #[[],#v[]] (zx hD5 rfl),%[hr|w5]]
def JD(ht:MP tg=ξ x)(B:A4 X sc x)(cp:ze X sc cn ci)(hn:cn.Nodup)(hc:X.calm=ζ):TU X tg sc x cn (U8 X.K (x.length==2)):=by
 rcases Dj ht with⟨_,_,rfl,rfl⟩|⟨_,_,_,_,_,_,rfl,rfl⟩
 .erw[Iu B cp hn]
 .erw[Iv B cp hn hc]
def Nr{elt iter tg:Expr}{ifs:List Expr}{x:List Str}{pos:Pos}{sc:kC}{it:PL.It}{tc:PL.Tx}{e:PL.Ex}{ci:List Nat}(G:Good t T Γ k I X)(hc:I.calm=ζ)(ht:MP tg=ξ x)(hb:vK I sc x=ζ)(hci:(iQ I sc).mapM (λy=>eM y I.N)=ξ ci)
  (hs:∀env v,foldedSetIterable iter env v=pure v) (hi:PI X tg iter (Ar (X.cc t) Γ it))
  (hif:∀(X':Cx),Good t T Γ k #[rP I sc.names,x++iQ I sc,ζ] X'->X'.cc t=X.cc t->Mt X' ifs (tT (X.cc t) Γ tc))
  (he:∀(X':Cx),Good t T Γ k #[rP I sc.names,x++iQ I sc,ζ] X'->X'.cc t=X.cc t->PE X' elt (tE (X.cc t) Γ e)):
  PE X (.ListComp elt [#[tg,iter,ifs,0]] sc pos) (tE (X.cc t) Γ (.comp (x.length==2) e it tc ci)):=by
 have hn:(iQ I sc).Nodup:=by
  unfold iQ;have:=G.nd;rw[G.slots] at this;erw[this.filter _]
 have cp:=EG G hci;refine(Mx (wi:=Ar (X.cc t) Γ it) (tc:=tT (X.cc t) Γ tc) (te:=tE (X.cc t) Γ e)
  (vS G hb) cp hn (G.calm hc).1 (JD ht (vS G hb) cp hn (G.calm hc).1) hi (λC s₀ H₀ ex=>hif _ (rY G hc hb cp hn) rfl) (λC s₀ H₀ ex=>he _ (rY G hc hb cp hn) rfl) (hs _)).imp λσ H Q z=>yg z
def Nt(ha:PE X a (tE (X.cc t) Γ x))(hb:PE X b (tE (X.cc t) Γ y)):PE X (.Dict [ξ a] [b] pos) (tE (X.cc t) Γ (.eh #v[x] #v[y])):=by
 refine(Mp (Im ha hb Mo) rfl rfl (#v[]) (show 1<=15 by decide)).imp ?_;rintro σ H Q ⟨env,ρ,S,QU,he,R,w,q⟩;intro p hp;have st0:=iJ.lay R hp (.dK []);have R0:=R.lay hp (.dK []);refine#[env,ρ,S,_,he.later R st0,R0,w,λu S1 v H1 ρ1 w1 st1 R1 r1=>?_];refine#[env,ρ1,S1,_,(he.later R st0).later R0 st1,R1,w1,λu2 S2 v2 H2 ρ2 w2 st2 R2 r2=>?_];obtain⟨_,hk,w',e,w3⟩:([u]:List U).length<=100/\PL.nH u=ζ/\∃v,[u2]=[v]/\QU (.loc S2.length) (S2++[SO.eh [(u,v)]]):=w2;cases e;let#[p2,hp2]:=(st1.trans st2).out bX (R.Jb hp);have im:=zx (ho:=.dK [(vO u,v2)]) hp2 rfl;have k1:=(r1.mono R1 st2).iK (ρ':=ρ2) #[[],#v[]] im;have k2:=r2.iK (ρ':=ρ2) #[[],#v[]] im;refine#[hp2,[(vO u,v2)],by rw[km hk r1];rfl,show 1<=15 by decide,?_];show Q (.ref p) (upd H2 p (.dK [(vO u,v2)]));rwa[q _ _ _ _ _ w3 ((((st0.trans st1).trans st2).Bm hp _).VL hp) ((R2.Bm _ hp2 rfl p2).join p2 #[_,bX,rfl,a9.cons (show Rep (X.cc t) ρ2 _ u (kV (vO u)) by rw[<-km hk r1];erw[k1]) a9.nil,a9.cons k2 a9.nil]) (eR.mpr #[p,rfl,?_])];rw[<-R2.len,ax (aq _),bL];rfl
end
open PL (U SO bG KU bY)
section
variable{t:yc}{T:Tab}{Γ:bY}{k n:Nat}{I:Inf}{X:Cx}
def RK(h:PE X e (tE (X.cc t) Γ x))(he:∀env whole,isTrue e env whole=(do let v <-whole;standAt e.pos;holding [v] (truthy v))):PT X e (tT (X.cc t) Γ (.cU x)):=by
 refine(HQ h (he _)).imp ?_;kd_p;z_go;let#[b,e1,w2]:=PL.iT.mp w1;exact#[b,Nd (X:=X) rfl R1 r1 e1,q _ _ _ _ w2 st1 R1]
def Nu(h:PT X e (tT (X.cc t) Γ x)):PT X (.UnaryOp .Not e pos) (tT (X.cc t) Γ (.not x)):=by
 refine(Py h).imp ?_;kd_p;exact#[env,ρ,S,_,he,R,w,λb S1 H1 ρ1 w1 st1 R1=>q _ _ _ _ w1 st1 R1]
def PW.imp{e:Expr}{t t':TT}(h:PW X e t)(q:∀σ H Q,t' σ H Q->t σ H Q):PW X e t':=λwhole pZ s σ H Q I z=>h whole pZ s σ H Q I (q σ H Q z)
def RL(IH:Gh t T Γ k n)(G:Good t T Γ k I X):∀{vs:List Expr}{x:PL.Tx},Ye T (n+1) I op vs=ξ x->PW X (.BoolOp op vs pos) (tT (X.cc t) Γ x)
 |[],x,h=>by rw[Ja,IY] at h;cases h
 |[a],x,h=>by
  rw[Ja,IY] at h;cases op with
  |And=>erw[LO (IH.ft G h)]
  |Or=>erw[Pw (IH.ft G h)]
 |a::b::r,y,h=>by
  rw[Ja,IY] at h;dsimp[aM,aE] at h;let#[x,h1,z,h2,h3]:=h;injection h3 with h3;subst h3
  cases op with
  |And=>
   refine(Px (IH.ft G h1) (IH.ftb G h2)).imp ?_;kd_p;refine#[env,ρ,S,_,he,R,w,λb S1 H1 ρ1 w1 st1 R1=>?_];cases b with
   |true=>exact#[env,ρ1,S1,QU,he.later R st1,R1,w1,q.later st1]
   |false=>erw[q _ _ _ _ w1 st1 R1]
  |Or=>
   refine(Um (IH.ft G h1) (IH.ftb G h2)).imp ?_;kd_p;refine#[env,ρ,S,_,he,R,w,λb S1 H1 ρ1 w1 st1 R1=>?_];cases b with
   |true=>erw[q _ _ _ _ w1 st1 R1]
   |false=>exact#[env,ρ1,S1,QU,he.later R st1,R1,w1,q.later st1]
def Br(h:cE T n I b=ξ x):behindInMarks op b=ϑ:=by
 cases b<;>first|rfl|skip
 cases n with
 |zero=>erw[nn h]
 |succ n=>erw[nn h]
def EH(h:cI T n I e=ξ x):∀env v,foldedSetIterable e env v=pure v:=by
 intro env v;cases e<;>first|rfl|skip
 cases n with
 |zero=>erw[nn h]
 |succ n=>
  change ((rQ T n).e I _).map PL.It.val=ξ x at h
  let#[y,h1,_]:=au.mp h
  change cE T n I _=ξ y at h1
  cases n with
  |zero=>erw[nn h1]
  |succ n=>erw[nn h1]
def OX(h:cN T n I e=ξ x):∀env v,foldedSetIterable e env v=pure v:=by
 intro env v;cases e<;>first|rfl|skip
 cases n with
 |zero=>erw[nn h]
 |succ n=>erw[nn h]
def JE(IH:Gh t T Γ k n)(G:Good t T Γ k I X)(h:((rQ T n).e I e).map .cU=ξ x)(he:∀env whole,isTrue e env whole=(do let v <-whole;standAt e.pos;holding [v] (truthy v))):PT X e (tT (X.cc t) Γ x):=by
 let#[y,h1,h2]:=au.mp h;subst h2;erw[RK (IH.fe G h1) he]
def VO(IH:Gh t T Γ k n)(G:Good t T Γ k I X)(h:cT T (n+1) I e=ξ x):PT X e (tT (X.cc t) Γ x):=by
 rw[aae] at h;cases e with
 |UnaryOp op a pos=>
  cases op with
  |Not=>
   let#[y,h1,h2]:=au.mp h;subst h2;erw[Nu (IH.ft G h1)]
  |_=>erw[JE IH G h λ_ _=>rfl]
 |BoolOp op vs pos=>exact(IH.ftb G h).pt
 |IfExp=>erw[nn h]
 |Compare a ops bs pos=>
  cases ops with
  |nil=>erw[nn h]
  |cons op ops=>cases ops with
   |cons=>erw[nn h]
   |nil=>cases bs with
    |nil=>erw[nn h]
    |cons b bs=>cases bs with
     |cons=>erw[nn h]
     |nil=>
      let#[o,h1,hb]:=aE.mp h;let#[a,h2,hc]:=aE.mp hb;let#[b,h3,h4]:=aE.mp hc;injection h4 with h4;subst h4
      erw[Ng G h1 (Br h3) (IH.fe G h2) (IH.fe G h3)]
 |_=>erw[JE IH G h λ_ _=>rfl]
end
open PL (U SO bG KU bY)
section
variable{t:yc}{T:Tab}{Γ:bY}{k n:Nat}{I:Inf}{X:Cx}
def zA:∀{n:Nat},(rQ T n).es I []=ξ y->y=.nil
 |0,h=>by cases h
 |_+1,h=>(aH h).symm
def jW{x y:Str}(h:(x !=y)=ζ):(x==y)=ϑ:=by simpa using h
def Bs(IH:Gh t T Γ k n)(G:Good t T Γ k I X){tg iter:Expr}{xs:List Str}{it:PL.It}(ht:MP tg=ξ xs)(h:(∃y,xs=[y])/\cI T n I iter=ξ it\/(¬ ∃y,xs=[y])/\cN T n I iter=ξ it):
  (∀env v,foldedSetIterable iter env v=pure v)/\PI X tg iter (Ar (X.cc t) Γ it):=by
 rcases Dj ht with⟨x,p,rfl,rfl⟩|⟨x,y,p,p',kd,q,rfl,rfl⟩<;>rcases h with⟨z,h1⟩|⟨z,h1⟩
 .exact#[EH h1,IH.fi G h1]
 .erw[absurd #[_,rfl] z]
 .let#[y,e]:=z;simp at e
 .exact#[OX h1,IH.fn G h1]
def EI(IH:Gh t T Γ k n)(G':Good t T Γ k J X')(ec:X'.cc t=X.cc t)(h:cIf T n J ifs=ξ c):Mt X' ifs (tT (X.cc t) Γ c):=by
 unfold cIf at h;split at h
 .injection h with h;subst h
  intro pZ s σ H Q J z;refine Mu (X:=X') pZ s σ H Q J ?_;let#[env,ρ,S,QU,he,R,w,q]:=z;have w2:QU ζ S:=by
   have:PL.opt (PL.tf S (.bl ζ)) (λb=>QU b S):=w;erw[this]
  erw[q ζ S H ρ w2 .refl R]
 .have:=IH.ft G' h
  rw[ec] at this;erw[Mv this]
 .erw[nn h]
def Nv(h:(match args with|[a]=>QX a|_=>ψ)=ξ o):∃ap cp,(ap.endLine==cp.line)=ζ/\args=[.Call (.Attribute o ("values":Str) ap) [] [] cp]:=by
 split at h
 .rename_i a
  unfold QX at h;split at h
  .split at h
   .rename_i o' m ap cp hc
    rw[ar] at hc;have e:=eq_of_beq hc.1;subst e;injection h with h;subst h
    exact#[ap,cp,hc.2,rfl]
   .erw[nn h]
  .erw[nn h]
 .erw[nn h]
def VP(IH:Gh t T Γ k n)(G:Good t T Γ k I X){e:Expr}{x:PL.Ex}(h:cE T (n+1) I e=ξ x):PE X e (tE (X.cc t) Γ x):=by
 have ge:∀{e:Expr}{y:PL.Ex},cE T n I e=ξ y->PE X e (tE (X.cc t) Γ y):=λh=>IH.fe G h
 have gA:∀{es:List Expr}{y:PL.Aq},T5 T n I es=ξ y->PA X es (Hj (X.cc t) Γ y):=λh=>IH.VB G h
 have h0:=h;rw[MQ] at h;cases e with(delta T4 at h;try dsimp only at h)
 |Name x' pos=>
  split at h
  .rename_i i hi
   split at h
   .rename_i hc
    dsimp[ar] at hc;injection h with h;subst h
    erw[Nf G hi hc.1.1 (jW hc.1.2) (jW hc.2)]
   .erw[nn h]
  .split at h
   .rename_i hc
    rw[ar] at hc;let#[p,h1,h2]:=au.mp h;subst h2;erw[Ju G hc.1 h1 (jW hc.2)]
   .erw[nn h]
 |Constant c kd pos=>
  let#[u,h1,h2]:=au.mp h;subst h2;cases c with
  |none=>cases h1;erw[rX (v:=.b7) (Pt) λ_ _=>fj.mpr rfl]
  |bool b=>cases h1;erw[rX (v:=.bl _) (Ul) λ_ _=>fc.mpr rfl]
  |int i=>cases h1;erw[rX (v:=.int _) (Pr) λ_ _=>aO.mpr rfl]
  |str x=>cases h1;erw[rX (v:=.str _) (Pu) λ_ _=>bC.mpr (by rw[<-Va])]
  |_=>erw[nn h1]
 |BinOp a op b pos=>
  dsimp[aM,aE] at h;let#[o,h1,a,h2,b,h3,h4]:=h;injection h4 with h4;subst h4
  erw[Rk G h1 (ge h2) (ge h3)]
 |UnaryOp op a pos=>
  cases op with
  |Not=>let#[y,h1,h2]:=au.mp h;subst h2;erw[Ro (ge h1)]
  |USub=>let#[y,h1,h2]:=au.mp h;subst h2;erw[Rn (ge h1)]
  |_=>erw[nn h]
 |BoolOp op vs pos=>erw[IH.fbo G h]
 |Compare a ops bs pos=>
  split at h
  .split at h
   .dsimp[aM,aE] at h
    let#[o,h1,a,h2,b,h3,h4]:=h;injection h4 with h4;subst h4
    erw[Rl G h1 (Br h3) (ge h2) (ge h3)]
   .erw[nn h]
  .erw[nn h]
 |IfExp c a b pos=>
  dsimp[aM,aE] at h;let#[o,h1,a,h2,b,h3,h4]:=h;injection h4 with h4;subst h4
  erw[VC (IH.ft G h1) (ge h2) (ge h3)]
 |Call fn args kws cp=>
  cases fn with
  |Name f p=>
   cases kws with
   |nil=>
    dsimp only at h;split at h
    .rename_i hc
     rw[ar] at hc;let#[hg,hd]:=hc;split at h
     .rename_i hf
      rw[ar] at hf;have ef:f=("isinstance":Str):=eq_of_beq hf.1;subst ef;have hb:"isinstance"∈T.i7:=by simpa using hf.2
      split at h
      .split at h
       .erw[nn h]
       .rename_i hs
        split at h
        .rename_i h3
         let#[y,h1,h4]:=au.mp h;subst h4;exact RD G hg hb (~~~hs) h3 (ge h1)
        .erw[nn h]
      .erw[nn h]
     .split at h
      .rename_i b hb
       split at h
       .rename_i o' ho'
        split at h
        .rename_i hc
         dsimp[ar] at hc;let#[#[#[hf,hm],hcm],h0']:=hc;have hf:=eq_of_beq hf;subst hf;let#[y,h1,h2]:=au.mp h;subst h2;let#[ap,c2,hl,rfl]:=Nv ho';exact Nk G hg (~~~hm) (G.calm hcm).1 h0' hl (ge h1)
        .erw[nn h]
       .split at h
        .rename_i hs
         dsimp[ar,xk] at hs;let#[#[#[s,hp],hs],hcm]:=hs;let#[y,h1,h2]:=au.mp h;subst h2;cases args with
         |nil=>simp at hs
         |cons a as=>
          have st:=nW h1;rw[bQ,ar] at st;erw[Rx G hg hb hp (G.calm hcm).1 (G.calm hcm).2.hd st.1 st.2 (gA h1)]
        .erw[nn h]
      .split at h
       .erw[nn h]
       .rename_i hcm
        have hcm:I.calm=ζ:=by simpa using hcm
        split at h
        .rename_i q hq
         let#[hm,rfl]:=m7 hq;let#[y,h1,h2]:=au.mp h;subst h2;cases args with
         |nil=>
          cases zA h1;erw[Jy G hg hcm hm (jW hd)]
         |cons a as=>
          have st:=nW h1;rw[bQ,ar] at st;erw[Nl G hg hcm hm (jW hd) st.1 st.2 (IH.VB G h1)]
        .split at h
         .rename_i q hq
          let#[hm,rfl]:=m7 hq;let#[y,h1,h2]:=au.mp h;subst h2;cases args with
          |nil=>
           cases zA h1;erw[RB G hg hcm hm (jW hd)]
          |cons a as=>
           have st:=nW h1;rw[bQ,ar] at st;erw[VH G hg hcm hm (jW hd) st.1 st.2 (IH.VB G h1)]
         .erw[nn h]
    .erw[nn h]
   |cons kw ks=>
    dsimp only at h;split at h
    .split at h
     .rename_i hc
      dsimp[ar] at hc;let#[#[#[#[#[#[#[q0,q1],q2],q4],q6],q7],q8],q9]:=hc;have q1:=eq_of_beq q1;subst q1;have q0:ks=[]:=by simpa using q0
      subst q0;let#[y,h1,h2]:=au.mp h;subst h2;let#[ka,kv,kp]:=kw;unfold IV at q2;rw[ar] at q2;have e1:=eq_of_beq q2.1;subst e1;have q3:=q2.2;cases kv with
      |Name l lp=>
       have q3:(l==("len":Str)&&I.gl l)=ζ:=q3;rw[ar] at q3;have e2:=eq_of_beq q3.1;subst e2;exact Gi G q4 q3.2 (~~~q6) (~~~q7) (G.calm q8).1 q9 (ge h1)
      |_=>cases q3
     .erw[nn h]
    .erw[nn h]
  |Attribute o m ap=>
   dsimp only at h;split at h
   .erw[nn h]
   .rename_i hc
    dsimp[gW,Hz,ar] at hc;let#[#[#[#[hk,hc0],hl],hn],hcm]:=hc;have hk:kws=[]:=by simpa using hk
    subst hk;have hn:=of_decide_eq_true hn;split at h
    .rename_i q kk hq
     let#[hm,hq2]:=yd hq;dsimp only at hq2;subst hq2;dsimp[aM,aE] at h;let#[y,h1,as,h2,h3]:=h;injection h3 with h3;subst h3
     cases args with
     |nil=>
      cases zA h2;erw[Jz G hcm hm hc0 hl (IH.fe G h1)]
     |cons a as'=>
      have st:=nW h2;rw[bQ,ar] at st;erw[Nm G hcm hm hc0 hl hn st.1 st.2 (IH.fe G h1) (IH.VB G h2)]
    .split at h
     .split at h
      .rename_i em
       let#[y,h1,h2]:=au.mp h;subst h2;have em:=eq_of_beq em;subst em;erw[Nh G hc0 hl (ge h1)]
      .erw[nn h]
     .rename_i a as
      split at h
      .rename_i em
       have em:=eq_of_beq em;subst em;split at h
       .rename_i d
        split at h
        .rename_i st
         rw[ar] at st;dsimp[aM,aE] at h;let#[y,h1,z,h2,w,h3,h4]:=h;injection h4 with h4;subst h4
         erw[Rz G hc0 hl st.1 st.2 (ge h1) (ge h2) (ge h3)]
        .erw[nn h]
       .split at h
        .rename_i st
         dsimp[aM,aE] at h;let#[y,h1,z,h2,h4]:=h;injection h4 with h4;subst h4
         erw[Ni G hc0 hl st (ge h1) (ge h2)]
        .erw[nn h]
       .erw[nn h]
      .split at h
       .rename_i b hb
        dsimp[aM,aE] at h;let#[y,h1,as',h2,h3]:=h;injection h3 with h3;subst h3
        have st:=nW h2;rw[bQ,ar] at st;erw[Ry G hb (G.calm hcm).2.hd hc0 hl hn st.1 st.2 (ge h1) (gA h2)]
       .erw[nn h]
  |_=>erw[nn h]
 |Attribute o f pos=>
  split at h
  .erw[nn h]
  .rename_i hc0
   dsimp[aM,aE] at h;let#[q,h1,y,h2,h3]:=h;injection h3 with h3;subst h3
   let#[hm,rfl]:=m7 h1;exact Rv G hm (~~~hc0) (ge h2)
 |Subscript o i pos=>
  split at h
  .rename_i hs
   dsimp[aM,aE] at h;let#[y,h1,a,h2,h3]:=h;injection h3 with h3;subst h3
   split
   .erw[RA G hs (ge h1) (ge h2)]
   .erw[VD hs (ge h1) (ge h2)]
  .split at h
   .split at h
    .dsimp[aM,aE] at h
     let#[y,h1,a,h2,b,h3,h4]:=h;injection h4 with h4;subst h4
     erw[VF (ge h1) (IH.fo G h2) (IH.fo G h3)]
    .erw[nn h]
   .erw[nn h]
 |Dict ks vs pos=>
  split at h
  .split at h
   .injection h with h;subst h;erw[Nj]
   .erw[nn h]
  .split at h
   .dsimp[aM,aE] at h
    let#[y,h1,z,h2,h4]:=h;injection h4 with h4;subst h4
    erw[Nt (ge h1) (ge h2)]
   .erw[nn h]
  .erw[nn h]
 |List es pos=>
  let#[y,h1,h2]:=au.mp h;subst h2;erw[Ru (gA h1)]
 |Tuple es kd pos=>
  let#[y,h1,h2]:=au.mp h;subst h2;erw[Rt (gA h1)]
 |ListComp elt gs sc pos=>
  let#[tg,iter,ifs,xs,it,c,ee,ci,rfl,ht,hc,h1,h2,h3,h4,h5]:=vL h0;subst h5;have hi:=Bs IH G ht h1;rwa[Nr G hc.2 ht hc.1 h4 hi.1 hi.2 (λX' G' ec=>?_) (λX' G' ec=>?_)]
  .erw[EI IH G' ec h2]
  .have:=IH.fe G' h3
   rw[ec] at this;erw[this]
 |_=>erw[nn h]
def JF:Gh t T Γ k 0:=by
 constructor
 .intro I X e x _ h;rw[Vv] at h;erw[nn h]
 .intro I X e x _ h;rw[OU] at h;erw[nn h]
 .intro I X op vs x pos _ h;rw[Vw] at h;erw[nn h]
 .intro I X e x _ h;rw[Z8] at h;erw[nn h]
 .intro I X e x tg _ h;rw[Z9] at h;erw[nn h]
 .intro I X e x es ek tp _ h;rw[aab] at h;erw[nn h]
 .intro I X e x _ h;rw[aad] at h;erw[nn h]
 .intro I X op vs x pos _ h;rw[Vy] at h;erw[nn h]
def zB:∀n,Gh t T Γ k n
 |0=>JF
 |n+1=>
  have IH:=zB n
  #[λG h=>VP IH G h,λG h=>Rm IH G h,λG h=>Rr IH G h,λG h=>VE IH G h,λG h=>VJ IH G h,λG h=>aar IH G h,λG h=>VO IH G h,λG h=>RL IH G h]
end
open PL (U SO bG KU bY)
def PS.imp{X:Cx}{st:Stmt}{t t':TS}(h:PS X st t)(q:∀D σ H,t' D σ H->t D σ H):PS X st t':=λpZ s σ H D I z=>h pZ s σ H D I (q D σ H z)
def uI.imp{X:Cx}{st:List Stmt}{t t':TS}(h:uI X st t)(q:∀D σ H,t' D σ H->t D σ H):uI X st t':=λpZ s σ H D I z=>h pZ s σ H D I (q D σ H z)
def Good.ps(G:Good t T Γ k I X):PassesOwn (bg X.prog X.w) X.A X.env X.xe:=%[G.xe|PassesOwn.never]
structure DR(c:Ctx)(ρ:List Addr)(H:Hp)(DU:PL.Ends)(D:Ends):Prop where
 nx:∀env' S' σ' H' ρ',DU.nx env' S'->iJ ρ H ρ' H'->cD c ρ' H' S'->kG c ρ' H' env' σ'->D.nx σ' H'
 rt:QV c ρ H DU.rt D.rt
abbrev tS(c:Ctx)(Γ:bY)(x:PL.Sm):TS:=λD σ H=>∃env ρ S DU,kG c ρ H env σ/\cD c ρ H S/\PL.WS Γ x DU env S/\DR c ρ H DU D
abbrev Lu(c:Ctx)(Γ:bY)(x:PL.dC):TS:=λD σ H=>∃env ρ S DU,kG c ρ H env σ/\cD c ρ H S/\PL.uC Γ x DU env S/\DR c ρ H DU D
section
variable{c:Ctx}{ρ ρ':List Addr}{H H':Hp}{S:bG}{DU:PL.Ends}{D:Ends}
def DR.later(q:DR c ρ H DU D)(a:iJ ρ H ρ' H'):DR c ρ' H' DU D:=
 #[λenv' S' σ' H2 ρ2 h b R e=>q.nx env' S' σ' H2 ρ2 h (a.trans b) R e,q.rt.later a]
def kG.set(he:kG c ρ H env σ)(r:Rep c ρ H u v)(i:Nat):kG c ρ H (env.set i (ξ u)) (σ.set i (ξ v)):=by
 refine#[by simp[he.len],λj w e=>?_];by_cases z:j=i
 .subst z
  have hj:j<env.length:=by
   have:=(ag.mp e).1;simpa using this
  rw[bA hj] at e;injection e with e;injection e with e;subst e
  exact#[v,by rw[bA (by rw[<-he.len];erw[hj])],r]
 .rw[ak (cJ z)] at e ⊢
  erw[he.at_ j w e]
end
open PL (U SO bG KU bY)
structure je(t:yc)(T:Tab)(Γ:bY)(k:Nat)(I:Inf)(X:Cx):Prop where
 g:Good t T Γ k I X
 st:∀x,X.fn x=ζ
section
variable{t:yc}{T:Tab}{Γ:bY}{k n:Nat}{I:Inf}{X:Cx}
def tD(h:vM (names.lookup x)=ζ)(e:sc.names=names):Loc sc x:=by
 rw[<-e] at h;unfold Loc;cases q:sc.names.lookup x with
 |none=>rw[q] at h;cases h
 |some kd=>rw[q] at h;cases kd<;>first|exact ff h|simp
def Ds(z:tS (X.cc t) Γ (.set i x) D σ H):tE (X.cc t) Γ x σ H λv H1=>D.nx (σ.set i (ξ v)) H1:=by
 let#[env,ρ,S,DU,he,R,w,q]:=z;z_go;erw[q.nx _ _ _ _ _ w1 st1 R1 ((he.later R st1).set r1 i)]
def RM(G:je t T Γ k I X)(h:eM x I.N=ξ i)(hl:vM (I.names.lookup x)=ζ)(hs:∀env,fP e (ξ (.Name x p)) pos.line env=pure ϑ)
  (hy:PE X e (tE (X.cc t) Γ y)):PS X (.Assign [.Name x p] e pos) (tS (X.cc t) Γ (.set i y)):=by
 refine(HM (X:=X) (i:=i) G.g.nd (by show X.N[i]?=ξ x;rw[G.g.slots];erw[fA h]) (tD hl G.g.names) hy (hs _) (.inl (G.st x))).imp ?_;intro D σ H z;erw[Ds z]
def Nw(G:je t T Γ k I X)(hf:f∈T.zt)(hx:PE X o (tE (X.cc t) Γ x))(hy:PE X e (tE (X.cc t) Γ y)):PS X (.Assign [.Attribute o (nm f) p] e pos) (tS (X.cc t) Γ (.nG x f y)):=by
 have hs:∀env,fP e (ξ (.Attribute o (nm f) p)) pos.line env=pure ϑ:=λenv=>by cases e<;>rfl
 refine(Qa (X:=X) hx hy (hs _)).imp ?_;rintro D σ H ⟨env,ρ,S,DU,he,R,w,q⟩;z_go;refine#[env,ρ1,S1,_,he.later R st1,R1,w1,λu2 S2 v2 H2 ρ2 w2 st2 R2 r2=>?_];let#[l,e1,w3]:=PL.iw.mp w2;subst e1;let#[c',fs,e2,hlen,w4]:=PL.mV.mp w3;let#[a,C,dx,vs,ev,ha,hC,hH,hn,hr]:=R2.ins e2 r2;let#[cl,na]:=G.g.tab.cls c' C hC;have hlv:vs.length=fs.length:=by have:=congrArg cR hn;simpa using this
 refine#[a,C,dx,vs,ev,hH,cl,na f hf,∅,?_];have st3:=iJ.put (H:=H2) (ah ha) hH rfl (.ins C dx (kE (nm f) v vs));have uR:∀{fs:List (String×U)}{vs:List (Str×V)},vs.map (·.1)=(fs.map (·.1)).map nm->a9 (X.cc t) ρ2 H2 (fs.map (·.2)) (vs.map (·.2)) ->
   (kE (nm f) v vs).map (·.1)=((PL.iy f u fs).map (·.1)).map nm/\a9 (X.cc t) ρ2 H2 ((PL.iy f u fs).map (·.2)) ((kE (nm f) v vs).map (·.2)):=by
  intro fs;induction fs with
  |nil=>
   intro vs hn hr;cases vs with
   |nil=>exact#[rfl,a9.cons (r1.mono R1 st2) a9.nil]
   |cons a b=>simp at hn
  |cons p fs ih=>
   intro vs hn hr;let#[g,w']:=p;cases vs with
   |nil=>simp at hn
   |cons b vs=>
    let#[b1,b2]:=b;dsimp[az,dE] at hn;rw[az,az] at hr;unfold a9 at hr;let#[v',r',e',k1,k2]:=hr;injection e' with e1' e2'
    subst e1';subst e2';unfold kE PL.iy;by_cases z:g=f
    .have z2:b1=nm f:=by rw[hn.1,z]
     rw[if_pos z2,if_pos z]
     exact#[by simp[hn.1,hn.2],a9.cons (r1.mono R1 st2) k2]
    .have z2:¬b1=nm f:=λq=>z (vR _ _ (hn.1.symm.trans q))
     rw[if_neg z2,if_neg z]
     let#[m1,m2]:=ih hn.2 k2;exact#[by dsimp[az,dE];exact#[hn.1,m1],a9.cons k1 m2]
 let#[m1,m2]:=uR hn hr;rwa[q.nx _ _ _ _ _ w4 ((st1.trans st2).trans st3) (R2.put ha hH rfl #[C,dx,_,hC,bX,m1,m2.mono R2 st3]) ((he.later R (st1.trans st2)).later R2 st3)]
def Nx(G:je t T Γ k I X)(hx:PE X o (tE (X.cc t) Γ x))(hi:PE X i (tE (X.cc t) Γ z))(hy:PE X e (tE (X.cc t) Γ y)):PS X (.Assign [.Subscript o i p] e pos) (tS (X.cc t) Γ (.ox x z y)):=by
 have hs:∀env,fP e (ξ (.Subscript o i p)) pos.line env=pure ϑ:=λenv=>by cases e<;>rfl
 refine(Mn (X:=X) (by have:=G.g.units;omega) hx hi hy (hs _)).imp ?_;rintro D σ H ⟨env,ρ,S,DU,he,R,w,q⟩;refine#[env,ρ,S,_,he,R,w,λu S1 v H1 ρ1 w1 st1 R1 r1=>?_];refine#[env,ρ1,S1,_,he.later R st1,R1,w1,λu2 S2 v2 H2 ρ2 w2 st2 R2 r2=>?_];refine#[env,ρ2,S2,_,(he.later R st1).later R1 st2,R2,w2,λu3 S3 v3 H3 ρ3 w3 st3 R3 r3=>?_];let#[n,e1,w3]:=PL.iw.mp w3;subst e1;let#[kvs,e2,#[hk,hn,hl],w4]:=PL.Bb.mp w3;let#[a,ev,ha]:=eR.mp (r2.mono R2 st3);let#[vs,g1,g2,g3,g4]:=R3.at_ n a _ ha e2;have l2:jK vs (vO u3)=ψ:=by
  rcases rT hk g2 g3 g4 with⟨_,l2⟩|⟨_,_,l1,_⟩
  .erw[l2]
  .rw[hn] at l1;cases l1
 have r1':=r1.mono R1 (st2.trans st3);have st4:=iJ.put (H:=H3) (ah ha) g1 rfl (.dK (vs++[(vO u3,v)]));refine#[a,upd H3 a (.dK (vs++[(vO u3,v)])),ev,.inl #[vs,vO u3,g1,km hk r3,%[g2|av hl ⋯],by rw[AZ v l2]],?_];rwa[q.nx _ _ _ _ _ w4 (((st1.trans st2).trans st3).trans st4) (R3.put ha g1 rfl #[_,bX,by simp[g2],?_,?_]) ((he.later R ((st1.trans st2).trans st3)).later R3 st4)]
 .rw[aG,aG]
  exact(g3.mono R3 st4).app (a9.cons (show Rep (X.cc t) ρ3 _ u3 (kV (vO u3)) by rw[<-km hk r3];erw[r3.mono R3 st4]) a9.nil)
 .rw[aG,aG]
  exact(g4.mono R3 st4).app (a9.cons (r1'.mono R3 st4) a9.nil)
def VQ(G:je t T Γ k I X)(hc:zu e=ζ)(hy:PE X e (tE (X.cc t) Γ y)):PS X (.Expr e pos) (tS (X.cc t) Γ (.ex y)):=by
 refine(LQ (X:=X) hy (Bp hc)).imp ?_;rintro D σ H ⟨env,ρ,S,DU,he,R,w,q⟩;z_go;erw[q.nx _ _ _ _ _ w1 st1 R1 (he.later R st1)]
def RO(G:je t T Γ k I X)(hy:PE X e (tE (X.cc t) Γ y)):PS X (.Return (ξ e) pos) (tS (X.cc t) Γ (.ret y)):=by
 refine(PD (X:=X) hy).imp ?_;rintro D σ H ⟨env,ρ,S,DU,he,R,w,q⟩;exact#[env,ρ,S,_,he,R,w,q.rt]
def RP(G:je t T Γ k I X)(hx:PT X c (tT (X.cc t) Γ x))(hy:uI X a (Lu (X.cc t) Γ y))(hz:uI X b (Lu (X.cc t) Γ z)):PS X (.If c a b pos) (tS (X.cc t) Γ (.ifs x y z)):=by
 refine(Uu (X:=X) hx (hy) (hz)).imp ?_;rintro D σ H ⟨env,ρ,S,DU,he,R,w,q⟩;refine#[env,ρ,S,_,he,R,w,λb S1 H1 ρ1 w1 st1 R1=>?_];cases b with
 |true=>exact#[env,ρ1,S1,DU,he.later R st1,R1,w1,q.later st1]
 |false=>exact#[env,ρ1,S1,DU,he.later R st1,R1,w1,q.later st1]
def Dt(hp:Dk op=ξ p):op=MT p/\(p=.add\/p=.sub\/p=.bor):=by cases op<;>first|exact nn hp| (cases hp;exact#[rfl,#v[]])
def RQ(G:je t T Γ k I X)(h:eM x I.N=ξ i)(hl:vM (I.names.lookup x)=ζ)(hp:Dk op=ξ p)(hy:PE X e (tE (X.cc t) Γ y)):PS X (.AugAssign (.Name x px) op e pos) (tS (X.cc t) Γ (.aug i p y)):=by
 have eo:=Dt hp;rw[eo.1]
 refine(PJ (X:=X) (i:=i) G.g.nd (by show X.N[i]?=ξ x;rw[G.g.slots];erw[fA h]) (tD hl G.g.names) hy (zy (X:=X) (c:=X.cc t) eo.2) (.inl (G.st x))).imp ?_;rintro D σ H ⟨env,ρ,S,DU,he,R,w,q⟩;let#[u0,e0,w0]:=PL.Ba.mp (show PL.zh _ _ from w);let#[v0,e1,r0]:=he.at_ i u0 e0;refine#[v0,e1,env,ρ,S,_,he,R,w0,λu S1 v H1 ρ1 w1 st1 R1 r1=>?_];refine#[u0,u,ρ1,S1,_,r0.mono R st1,r1,R1,w1,λu2 S2 v2 H2 ρ2 w2 st2 R2 r2=>?_];erw[q.nx _ _ _ _ _ w2 (st1.trans st2) R2 ((he.later R (st1.trans st2)).set r2 i)]
end
open PL (U SO bG KU bY)
section
variable{t:yc}{T:Tab}{Γ:bY}{k n:Nat}{I:Inf}{X:Cx}
def uR(ru:Rep c ρ H u v):∀{fs:List (String×U)}{vs:List (Str×V)},vs.map (·.1)=(fs.map (·.1)).map nm->a9 c ρ H (fs.map (·.2)) (vs.map (·.2)) ->
   (kE (nm f) v vs).map (·.1)=((PL.iy f u fs).map (·.1)).map nm/\a9 c ρ H ((PL.iy f u fs).map (·.2)) ((kE (nm f) v vs).map (·.2))
 |[],[],_,_=>#[rfl,a9.cons ru a9.nil]
 |[],_::_,hn,_=>by simp at hn
 |_::_,[],hn,_=>by simp at hn
 | (g,w')::fs,(b1,b2)::vs,hn,hr=>by
  dsimp[az,dE] at hn;rw[az,az] at hr;unfold a9 at hr;let#[v',r',e',k1,k2]:=hr;injection e' with e1' e2'
  subst e1';subst e2';unfold kE PL.iy;by_cases z:g=f
  .have z2:b1=nm f:=by rw[hn.1,z]
   rw[if_pos z2,if_pos z]
   exact#[by simp[hn.1,hn.2],a9.cons ru k2]
  .have z2:¬b1=nm f:=λq=>z (vR _ _ (hn.1.symm.trans q))
   rw[if_neg z2,if_neg z]
   let#[m1,m2]:=uR ru hn.2 k2;exact#[by dsimp[az,dE];exact#[hn.1,m1],a9.cons k1 m2]
def Ny(G:je t T Γ k I X)(hf:f∈T.zt)(hp:Dk op=ξ p)(hx:PE X o (tE (X.cc t) Γ x))(hy:PE X e (tE (X.cc t) Γ y)):PS X (.AugAssign (.Attribute o (nm f) tp) op e pos) (tS (X.cc t) Γ (.C5 x f p y)):=by
 have eo:=Dt hp;rw[eo.1]
 refine(FI (X:=X) hx hy (rd:=Gd (X.cc t) p) (zy (X:=X) (c:=X.cc t) eo.2)).imp ?_;rintro D σ H ⟨env,ρ,S,DU,he,R,w,q⟩;z_go;let#[l,e1,w2]:=PL.iw.mp w1;subst e1;let#[c',fs,e2,w3]:=PL.mV.mp w2;let#[u0,e3,w4]:=PL.iT.mp w3;let#[a,C,dx,vs,ev,ha,hC,hH,hn,hr]:=R1.ins e2 r1;let#[cl,na]:=G.g.tab.cls c' C hC;let#[v0,l0,r0]:=qK hn hr e3 vR;refine#[a,C,dx,vs,v0,ev,hH,cl,na f hf,l0,?_];refine#[env,ρ1,S1,_,he.later R st1,R1,w4,λu2 S2 v2 H2 ρ2 w5 st2 R2 r2=>?_];refine#[u0,u2,ρ2,S2,_,r0.mono R1 st2,r2,R2,w5,λu3 S3 v3 H3 ρ3 w6 st3 R3 r3=>?_];let#[c'',fs',e4,#[e5,hlen,w7]]:=PL.mV.mp w6;subst e5;have ha3:=(st2.trans st3).get ha;let#[C',dx',vs',hC',hH',hn',hr']:=R3.at_ l a _ ha3 e4;rw[hC] at hC';injection hC' with hC';subst hC'
 have hlv:vs'.length=fs'.length:=by have:=congrArg cR hn';simpa using this
 refine#[dx',vs',hH',∅,?_];have st4:=iJ.put (H:=H3) (ah ha3) hH' rfl (.ins C dx' (kE (nm f) v3 vs'));let#[m1,m2]:=uR r3 hn' hr';rwa[q.nx _ _ _ _ _ w7 (((st1.trans st2).trans st3).trans st4) (R3.put ha3 hH' rfl #[C,dx',_,hC,bX,m1,m2.mono R3 st4]) ((he.later R ((st1.trans st2).trans st3)).later R3 st4)]
abbrev VR(K:Frag):V->V->Hp->VK->Prop:=λo i H Q=>∃p xs k v,o=.ref p/\i=.int k/\H p=ξ (.lst xs)/\0<=k/\xs[k.toNat]?=ξ v/\Q v H
def Gk:Uz X (VR X.K):=by
 intro pZ s σ H o i ov iv Q I ro ri h;let#[p,xs,k,v,rfl,rfl,hp,h0,hk,q]:=h;cases ro;let#[t,rfl]:=ri;let#[its,r,pl,hz]:=I.list (.inl (.inl hp));let#[w,ew,rw']:=r.get hk;have hn:=oR;have hl:=(ag.mp hk).1;erw[getItem_listL pl.isList h0 ∅ ew #[v,H,I,rw',q]]
def VS(r:a9 c ρ H us vs)(ru:Rep c ρ H u v):∀(j:Nat),a9 c ρ H (us.set j u) (vs.set j v):=by
 intro j;induction us generalizing vs j with
 |nil=>cases vs with
  |nil=>erw[r]
  |cons a b=>erw[absurd r.len (#v[])]
 |cons x us ih=>cases vs with
  |nil=>erw[absurd r.len (#v[])]
  |cons a b=>
   unfold a9 at r;let#[v',r',e',k1,k2]:=r;injection e' with e1 e2
   subst e1;subst e2;cases j with
   |zero=>erw[a9.cons ru k2]
   |succ j=>erw[a9.cons k1 (ih k2 j)]
def Nz(G:je t T Γ k I X)(hn:k9 i=ζ)(hp:Dk op=ξ p)(hx:PE X o (tE (X.cc t) Γ x))(hi:PE X i (tE (X.cc t) Γ y))(hy:PE X e (tE (X.cc t) Γ z)):PS X (.AugAssign (.Subscript o i tp) op e pos) (tS (X.cc t) Γ (.FU x y p z)):=by
 have eo:=Dt hp;rw[eo.1]
 refine(LR (X:=X) hx hi Gk hy (tip:=Gd (X.cc t) p) (zy (X:=X) (c:=X.cc t) eo.2) set_list (λov iv new=>by cases i<;>first|rfl|simp[k9] at hn)).imp ?_;rintro D σ H ⟨env,ρ,S,DU,he,R,w,q⟩;refine#[env,ρ,S,_,he,R,w,λu S1 v H1 ρ1 w1 st1 R1 r1=>?_];refine#[env,ρ1,S1,_,he.later R st1,R1,w1,λu2 S2 v2 H2 ρ2 w2 st2 R2 r2=>?_];obtain⟨l,e1,w3⟩:=PL.iw.mp w2;subst e1;obtain⟨j,e2,w4⟩:=PL.fZ.mp w3;subst e2;obtain⟨us,e3,h0,w5⟩:=PL.cK.mp w4;obtain⟨u0,e4,w6⟩:=PL.iT.mp w5;obtain⟨a,vs,ev,ha,hH,hr⟩:=R2.lst e3 (r1.mono R1 st2);subst ev;obtain⟨v0,l0,r0⟩:=hr.get e4;refine#[a,vs,j,v0,rfl,aO.mp r2,hH,h0,l0,?_];refine#[env,ρ2,S2,_,(he.later R st1).later R1 st2,R2,w6,λu3 S3 v3 H3 ρ3 w7 st3 R3 r3=>?_];refine#[u0,u3,ρ3,S3,_,r0.mono R2 st3,r3,R3,w7,λu4 S4 v4 H4 ρ4 w8 st4 R4 r4=>?_];obtain⟨us',e5,hj,w9⟩:=PL.cK.mp w8;have ha4:=(st3.trans st4).get ha;obtain⟨vs',hH',hr'⟩:=R4.at_ l a _ ha4 e5;refine#[a,vs',j,j.toNat,rfl,aO.mp r2,hH',?_,?_]
 .unfold Qg
  rw[if_pos h0,if_pos (by have:=hr'.len;omega)]
 have st5:=iJ.put (H:=H4) (ah ha4) hH' rfl (.lst (vs'.set j.toNat v4));rwa[q.nx _ _ _ _ _ w9 ((((st1.trans st2).trans st3).trans st4).trans st5) (R4.put ha4 hH' rfl #[_,bX,(VS hr' r4 j.toNat).mono R4 st5]) ((he.later R (((st1.trans st2).trans st3).trans st4)).later R4 st5)]
abbrev VT(to ti te:TE)(tset:HK):TS:=λD σ H=>te σ H λv H1=>to σ H1 λo H2=>ti σ H2 λi H3=>tset o i v H3 λH4=>D.nx σ H4
def NA{o i e:Expr}{to ti te:TE}{tset:HK}{p pos:Pos}(ho:PE X o to)(hi:PE X i ti)(he:PE X e te)(hs:PH X tset)(hw:fP e (ξ (.Subscript o i p)) pos.line X.env=pure ϑ):PS X (.Assign [.Subscript o i p] e pos) (VT to ti te tset):=by
 intro pZ s σ H D I h;rwa[Hv (eJ (he pZ s σ H _ I h) λr s1 h9=>?_) hw];let#[v,H1,I1,rv,q1]:=h9;rwa[eJ (ho pZ s1 σ H1 _ I1 q1) λu s2 h9=>?_]
 let#[x,H2,I2,rx,q2]:=h9;rwa[eJ (hi pZ s2 σ H2 _ I2 q2) λiv s3 h9=>?_]
 let#[y,H3,I3,ry,q3]:=h9;rwa[eJ (hs pZ s3 σ H3 _ _ _ _ _ _ _ I3 rx ry rv q3) λ_ s4 h9=>?_]
 let#[H4,I4,q4]:=h9;exact#[σ,H4,I4,q4]
def NB{o i e:Expr}{x y z:PL.Ex}{p pos:Pos}(G:je t T Γ k I X)(hx:PE X o (tE (X.cc t) Γ x))(hi:PE X i (tE (X.cc t) Γ z))(hy:PE X e (tE (X.cc t) Γ y)):PS X (.Assign [.Subscript o i p] e pos) (tS (X.cc t) Γ (.Iz x z y)):=by
 have hs:∀env,fP e (ξ (.Subscript o i p)) pos.line env=pure ϑ:=λenv=>by cases e<;>rfl
 refine(NA (X:=X) hx hi hy set_list (hs _)).imp ?_;rintro D σ H ⟨env,ρ,S,DU,he,R,w,q⟩;z_go;refine#[env,ρ1,S1,_,he.later R st1,R1,w1,λu2 S2 v2 H2 ρ2 w2 st2 R2 r2=>?_];refine#[env,ρ2,S2,_,(he.later R st1).later R1 st2,R2,w2,λu3 S3 v3 H3 ρ3 w3 st3 R3 r3=>?_];let#[l,e1,w3]:=PL.iw.mp w3;subst e1;let#[j,e2,w4]:=PL.fZ.mp w3;subst e2;let#[us,e3,w5]:=PL.cK.mp w4;let#[m,e4,w6]:=PL.iT.mp w5;let#[a,vs,ev,ha,hH,hr]:=R3.lst e3 (r2.mono R2 st3);subst ev;refine#[a,vs,j,m,rfl,aO.mp r3,hH,by rw[hr.len] at e4;erw[e4],?_];have r1':=r1.mono R1 (st2.trans st3);have st5:=iJ.put (H:=H3) (ah ha) hH rfl (.lst (vs.set m v));rwa[q.nx _ _ _ _ _ w6 (((st1.trans st2).trans st3).trans st5) (R3.put ha hH rfl #[_,bX,(VS hr r1' m).mono R3 st5]) ((he.later R ((st1.trans st2).trans st3)).later R3 st5)]
def RS(G:je t T Γ k I X)(hx:PT X c (tT (X.cc t) Γ x))(hy:uI X b (Lu (X.cc t) Γ y)):PS X (.While c b [] pos) (tS (X.cc t) Γ (.A9 x y)):=by
 refine(HN (X:=X) G.g.ps hx hy).imp ?_;rintro D σ H ⟨env,ρ,S,DU,he,R,w,q⟩;let#[n0,w0]:=w
 let F:=PL.zk (λen S1 k=>PL.WT Γ x en S1 k) (λen S1 k=>PL.uC Γ y {DU with nx:=k} en S1) DU.nx
 refine#[λm σ1 H1=>∃env1 ρ1 S1,iJ ρ H ρ1 H1/\cD (X.cc t) ρ1 H1 S1/\kG (X.cc t) ρ1 H1 env1 σ1/\F m env1 S1,#[n0,env,ρ,S,.refl,R,he,w0],?_];rintro m σ1 H1 ⟨env1,ρ1,S1,st1,R1,he1,w1⟩;cases m with
 |zero=>erw[aV w1]
 |succ m=>
  have w1':PL.WT Γ x env1 S1 (λt S1=>if t=ζ then PL.uC Γ y {DU with nx:=F m} env1 S1 else DU.nx env1 S1):=w1;have q1:=q.later st1;refine#[env1,ρ1,S1,_,he1,R1,w1',λb S2 H2 ρ2 w2 st2 R2=>?_];cases b with
  |false=>erw[q1.nx _ _ _ _ _ w2 st2 R2 (he1.later R1 st2)]
  |true=>
   refine#[λσ3 H3=>∃env3 ρ3 S3,iJ ρ H ρ3 H3/\cD (X.cc t) ρ3 H3 S3/\kG (X.cc t) ρ3 H3 env3 σ3/\F m env3 S3,λσ3 H3 h3=>#[m,b9 m,h3],?_];have q2:=q1.later st2;refine#[env1,ρ2,S2,_,he1.later R1 st2,R2,w2,#[λenv' S' σ' H' ρ' h b R' e=>#[env',ρ',S',(st1.trans st2).trans b,R',e,h],q2.rt]]
abbrev JG(Γ:bY)(tt:PL.Tg)(z:PL.dC)(DU:PL.Ends)(u:U)(en:PL.Env)(S:bG)(k:PL.Env->bG->Prop):Prop:=match tt with
 |.name i=>PL.uC Γ z {DU with nx:=k} (en.set i (ξ u)) S
 |.pair i j=>PL.OL u λx y=>PL.uC Γ z {DU with nx:=k} ((en.set i (ξ x)).set j (ξ y)) S
def JH:PL.WS Γ (.iu tt y z) DU env S=PL.WI Γ y env S (λus g S1=>PL.vE g (JG Γ tt z DU) DU.nx us env S1):=by
 cases tt<;>rfl
def JI(G:je t T Γ k I X)(hc:I.calm=ζ)(hs:∀env v,foldedSetIterable it env v=pure v)
  (hi:PI X tg it (Ar (X.cc t) Γ y)) (hg:PG X tg g0) (hb:uI X b (Lu (X.cc t) Γ z))
  (hr0:∀{ρ H S env σ u v DU D Q k},kG (X.cc t) ρ H env σ->cD (X.cc t) ρ H S->Rep (X.cc t) ρ H u v->JG Γ tt z DU u env S k->DR (X.cc t) ρ H {DU with nx:=k} D->(∀σ' H',Lu (X.cc t) Γ z D σ' H'->Q σ' H')->g0 v σ H Q):
  PS X (.For tg it b [] pos) (tS (X.cc t) Γ (.iu tt y z)):=by
 refine(PM (X:=X) G.g.ps (G.g.calm hc).1 hi hg hb (hs _)).imp ?_;rintro D σ H ⟨env,ρ,S,DU,he,R,w,q⟩;rw[JH] at w;refine#[env,ρ,S,_,he,R,w,λus g S1 H1 ρ1 J w1 st1 R1 io=>?_]
 let F:=PL.vE g (JG Γ tt z DU) DU.nx
 refine#[λj m σ2 H2=>m+j=us.length/\∃env2 ρ2 S2,iJ ρ1 H1 ρ2 H2/\cD (X.cc t) ρ2 H2 S2/\kG (X.cc t) ρ2 H2 env2 σ2/\F (us.drop j) env2 S2,#[us.length,rfl,env,ρ1,S1,.refl,R1,he.later R st1,w1],?_];rintro j m σ2 H2 ⟨hm,env2,ρ2,S2,st2,R2,he2,wf⟩;have q2:=q.later (st1.trans st2);cases hd:us.drop j with
 |nil=>
  rw[hd] at wf;obtain⟨g2,w2⟩:g S2/\DU.nx env2 S2:=wf;erw[.inl #[(io j ρ2 H2 S2 st2 R2 g2).2 (D1.mp hd),q2.nx _ _ _ _ _ w2 .refl R2 he2]]
 |cons u rest=>
  rw[hd] at wf;let#[g2,w2]:=wf;have hu:us[j]?=ξ u:=by
   have:=congrArg (λl=>l[0]?) hd;simpa using this
  have hr:us.drop (j+1)=rest:=by
   have:=congrArg List.tail hd;simpa using this
  have hj:j<us.length:=(ag.mp hu).1;let#[jg,jy]:=(io j ρ2 H2 S2 st2 R2 g2).1 u hu;rwa[.inr #[jg,λσ3 H3=>∃env3 ρ3 S3,iJ ρ1 H1 ρ3 H3/\cD (X.cc t) ρ3 H3 S3/\kG (X.cc t) ρ3 H3 env3 σ3/\F rest env3 S3,λσ3 H3 h3=>#[m-1,∅,∅,%[hr|h3]],λyv H3 hy=>?_]];let#[st3,R3,ry]:=jy yv H3 hy;have q3:=q2.later st3;rwa[hr0 (DU:=DU) (k:=F rest) (D:=#[_,_,_,_]) (he2.later R2 st3) R3 ry w2 ?_ λσ' H' h=>h]
  exact#[λenv' S' σ' H' ρ' h b R' e=>#[env',ρ',S',(st2.trans st3).trans b,R',e,h],q3.rt]
def NC(G:je t T Γ k I X)(hc:I.calm=ζ)(h:eM x I.N=ξ i)(hl:vM (I.names.lookup x)=ζ)(hs:∀env v,foldedSetIterable it env v=pure v)
  (hi:PI X (.Name x px) it (Ar (X.cc t) Γ y)) (hb:uI X b (Lu (X.cc t) Γ z)):PS X (.For (.Name x px) it b [] pos) (tS (X.cc t) Γ (.iu (.name i) y z)):=
 JI (tt:=.name i) G hc hs hi (rA (i:=i) G.g.nd (by rw[G.g.slots];exact fA h) (tD hl G.g.names) (.inl (G.st x))) hb
  λhe R ru w q hq=>hq _ _ #[_,_,_,_,he.set ru i,R,w,q]
def ND(G:je t T Γ k I X)(hc:I.calm=ζ)(h:eM x I.N=ξ i)(hl:vM (I.names.lookup x)=ζ)(h2:eM x2 I.N=ξ j)(hl2:vM (I.names.lookup x2)=ζ)(hs:∀env v,foldedSetIterable it env v=pure v)
  (hi:PI X (.Tuple [.Name x px,.Name x2 px2] kk pt) it (Ar (X.cc t) Γ y)) (hb:uI X b (Lu (X.cc t) Γ z)):PS X (.For (.Tuple [.Name x px,.Name x2 px2] kk pt) it b [] pos) (tS (X.cc t) Γ (.iu (.pair i j) y z)):=by
 have p1:PG X (.Name x px) (xD i):=rA (i:=i) G.g.nd (%[G.g.slots|fA h]) (tD hl G.g.names) (.inl (G.st x));have p2:PG X (.Name x2 px2) (xD j):=rA (i:=j) G.g.nd (%[G.g.slots|fA h2]) (tD hl2 G.g.names) (.inl (G.st x2));rwa[JI (tt:=.pair i j) G hc hs hi (HL (n:=2) (G.g.calm hc).1 (rB p1 (rB p2 D7 rfl) rfl) rfl rfl) hb ?_];intro ρ H S env σ u v DU D Q kk he R ru w q hq;let#[a,b',e1,w]:=PL.Ej.mp (show PL.OL _ _ from w);subst e1;let#[ad,vs,ev,hs',rs]:=dG.mp ru;subst ev;unfold a9 at rs;let#[v1,r1,rfl,k1,k2]:=rs;unfold a9 at k2;let#[v2,r2,rfl,k3,k4]:=k2;unfold a9 at k4;subst k4;exact#[ad,[v1,v2],rfl,.inl (.inl hs'),rfl,v1,[v2],rfl,v2,[],rfl,rfl,hq _ _ #[_,_,_,_,(he.set k1 i).set k3 j,R,w,q]]
end
open PL (U SO bG KU bY)
section
variable{t:yc}{T:Tab}{Γ:bY}{k n:Nat}{I:Inf}{X:Cx}
def Du{elt iter tg:Expr}{ifs:List Expr}{x:List Str}{y:Str}{i:Nat}{py pos spos:Pos}{sc:kC}{it:PL.It}{tc:PL.Tx}{e:PL.Ex}{ci:List Nat}(G:je t T Γ k I X)(hc:I.calm=ζ)(ht:MP tg=ξ x)(hb:vK I sc x=ζ)(hci:(iQ I sc).mapM (λy=>eM y I.N)=ξ ci)
  (hs:∀env v,foldedSetIterable iter env v=pure v) (hi:PI X tg iter (Ar (X.cc t) Γ it))
  (hif:∀(X':Cx),Good t T Γ k #[rP I sc.names,x++iQ I sc,ζ] X'->X'.cc t=X.cc t->Mt X' ifs (tT (X.cc t) Γ tc))
  (he:∀(X':Cx),Good t T Γ k #[rP I sc.names,x++iQ I sc,ζ] X'->X'.cc t=X.cc t->PE X' elt (tE (X.cc t) Γ e))
  (hy:eM y I.N=ξ i) (hk:I.names.lookup y=ξ .local) (hsw:fP (.ListComp elt [#[tg,iter,ifs,0]] sc pos) (ξ (.Name y py)) spos.line X.env=pure ζ):
  PS X (.Assign [.Name y py] (.ListComp elt [#[tg,iter,ifs,0]] sc pos) spos) (tS (X.cc t) Γ (.set i (.comp (x.length==2) e it tc ci))):=by
 have hn:(iQ I sc).Nodup:=by
  unfold iQ;have:=G.g.nd;rw[G.g.slots] at this;erw[this.filter _]
 have cp:=EG G.g hci;refine(CZ (X:=X) (i:=i) (wi:=Ar (X.cc t) Γ it) (tc:=tT (X.cc t) Γ tc) (te:=tE (X.cc t) Γ e)
  (vS G.g hb) cp hn (G.g.calm hc).1 (JD ht (vS G.g hb) cp hn (G.g.calm hc).1) hi (λC s₀ H₀ ex=>hif _ (rY G.g hc hb cp hn) rfl) (λC s₀ H₀ ex=>he _ (rY G.g hc hb cp hn) rfl) G.g.nd (%[G.g.slots|fA hy]) (%[G.g.names|hk]) hsw (hs _)).imp ?_
 intro D σ H z;erw[yg (Ds z)]
def RT(G:je t T Γ k I X)(hb:uI X b (Lu (X.cc t) Γ xb)):PS X (.Try b (h::hs) [] [] pos) (tS (X.cc t) Γ (.TX xb)):=by
 intro pZ s σ H D J z;rwa[wpAny_Try_except (fV (hb pZ s σ H D J z) (λf s1 q=>?_) λex s1 q=>?_)]
 .cases f with
  |next=>erw[qM q]
  |ret v=>erw[q]
  |brk=>erw[q]
  |cont=>erw[q]
 .rw[G.g.xe] at q;erw[q.elim]
end
open PL (U SO bG KU bY)
structure NF(t:yc)(T:Tab)(Γ:bY)(k n:Nat):Prop where
 fs:∀{I X st x},je t T Γ k I X->cS T n I st=ξ x->PS X st (tS (X.cc t) Γ x)
 OY:∀{I X st x},je t T Γ k I X->Lr T n I st=ξ x->uI X st (Lu (X.cc t) Γ x)
section
variable{t:yc}{T:Tab}{Γ:bY}{k n:Nat}{I:Inf}{X:Cx}
def RV(IH:NF t T Γ k n)(G:je t T Γ k I X):∀{st:List Stmt}{x:PL.dC},Lr T (n+1) I st=ξ x->uI X st (Lu (X.cc t) Γ x)
 |[],x,h=>by
  rw[OV,MR] at h;injection h with h;subst h
  refine(LP (X:=X)).imp ?_;rintro D σ H ⟨env,ρ,S,DU,he,R,w,q⟩;erw[q.nx _ _ _ _ _ w .refl R he]
 |s::ss,x,h=>by
  rw[OV,MR] at h;dsimp[aM,aE] at h;let#[y,h1,ys,h2,h3]:=h;injection h3 with h3;subst h3
  refine(HJ (X:=X) (IH.fs G h1) (IH.OY G h2)).imp ?_;rintro D σ H ⟨env,ρ,S,DU,he,R,w,q⟩;refine#[env,ρ,S,_,he,R,w,#[λenv' S' σ' H' ρ' h st R' e=>?_,q.rt]];exact#[env',ρ',S',DU,e,R',h,q.later st]
def VU(IH:NF t T Γ k n)(G:je t T Γ k I X){st:Stmt}{x:PL.Sm}(h:cS T (n+1) I st=ξ x):PS X st (tS (X.cc t) Γ x):=by
 have A:=zB (t:=t) (T:=T) (Γ:=Γ) (k:=k) n;rw[aai] at h;cases st with(delta stS at h;dsimp only at h)
 |Assign ts e pos=>
  split at h
  .rename_i tg
   cases tg with
   |Name x' px=>
    dsimp only at h;split at h
    .rename_i i hi
     split at h
     .rename_i hl
      let#[y,h1,h2]:=au.mp h;subst h2;by_cases nc:zu e=ζ
      .erw[RM G hi hl (λenv=>Bp nc) (A.fe G.g h1)]
      .change cE T n I _=_ at h1
       cases n with
       |zero=>rw[Vv] at h1;erw[nn h1]
       |succ n=>
        have A':=zB (t:=t) (T:=T) (Γ:=Γ) (k:=k) n;cases e with
        |ListComp elt gs sc cpos=>
         let#[tg,iter,ifs,xs,it,c,ee,ci,rfl,ht,hc,g1,g2,g3,g4,g5]:=vL h1;subst g5;have hi':=Bs A' G.g ht g1;cases sw:(X.env.blockKind==.function&&X.env.kindOf x'==ξ .local&&px.line==cpos.line && !(sc.names.any λ(n,k)=>n==x'&&(k==.local||k==.cell))) with
         |true=>
          have hsw:fP (.ListComp elt [#[tg,iter,ifs,0]] sc cpos) (ξ (.Name x' px)) pos.line X.env=pure ζ:=by
           show(pure _:Sem Bool)=pure ζ
           erw[congrArg pure sw]
          have hkl:I.names.lookup x'=ξ .local:=by
           dsimp[ar] at sw;have:=sw.1.1.2;unfold Env.kindOf at this;rw[G.g.names] at this;simpa using this
          rwa[Du G hc.2 ht hc.1 g4 hi'.1 hi'.2 (λX' G' ec=>EI A' G' ec g2) (λX' G' ec=>?_) hi hkl hsw];have:=A'.fe G' g3;rw[ec] at this;erw[this]
         |false=>
          have hsw:fP (.ListComp elt [#[tg,iter,ifs,0]] sc cpos) (ξ (.Name x' px)) pos.line X.env=pure ϑ:=by
           show(pure _:Sem Bool)=pure ϑ
           erw[congrArg pure sw]
          refine(HM (X:=X) (i:=i) G.g.nd (%[G.g.slots|fA hi]) (tD hl G.g.names) (A.fe G.g h1) hsw (.inl (G.st x'))).imp ?_;intro D σ H z;erw[Ds z]
        |SetComp=>rw[MQ] at h1;unfold T4 at h1;erw[nn h1]
        |DictComp=>rw[MQ] at h1;unfold T4 at h1;erw[nn h1]
        |_=>erw[absurd rfl nc]
     .erw[nn h]
    .erw[nn h]
   |Attribute o f px=>
    dsimp[aM,aE] at h;let#[q,h1,a,h2,b,h3,h4]:=h;injection h4 with h4;subst h4
    let#[hm,rfl]:=m7 h1;erw[Nw G hm (A.fe G.g h2) (A.fe G.g h3)]
   |Subscript o i px=>
    dsimp only at h;split at h
    .dsimp[aM,aE] at h
     let#[a,h1,b,h2,c,h3,h4]:=h;injection h4 with h4;subst h4
     erw[Nx G (A.fe G.g h1) (A.fe G.g h2) (A.fe G.g h3)]
    .split at h
     .dsimp[aM,aE] at h
      let#[a,h1,b,h2,c,h3,h4]:=h;injection h4 with h4;subst h4
      erw[NB G (A.fe G.g h1) (A.fe G.g h2) (A.fe G.g h3)]
     .erw[nn h]
   |_=>erw[nn h]
  .erw[nn h]
 |AugAssign tg op e pos=>
  cases tg with
  |Name x' px=>
   dsimp only at h;split at h
   .rename_i i hi
    split at h
    .rename_i hl
     dsimp[aM,aE] at h;let#[p,h1,y,h2,h3]:=h;injection h3 with h3;subst h3
     erw[RQ G hi hl h1 (A.fe G.g h2)]
    .erw[nn h]
   .erw[nn h]
  |Attribute o f px=>
   dsimp[aM,aE] at h;let#[q,h1,p,h2,a,h3,b,h4,h5]:=h;injection h5 with h5;subst h5
   let#[hm,rfl]:=m7 h1;erw[Ny G hm h2 (A.fe G.g h3) (A.fe G.g h4)]
  |Subscript o i px=>
   dsimp only at h;split at h
   .rename_i hn
    dsimp[aM,aE] at h;let#[p,h1,a,h2,b,h3,c,h4,h5]:=h;injection h5 with h5;subst h5
    erw[Nz G hn h1 (A.fe G.g h2) (A.fe G.g h3) (A.fe G.g h4)]
   .erw[nn h]
  |_=>erw[nn h]
 |Expr e pos=>
  split at h
  .rename_i hc
   let#[y,h1,h2]:=au.mp h;subst h2;erw[VQ G hc (A.fe G.g h1)]
  .erw[nn h]
 |Return e pos=>
  cases e with
  |none=>erw[nn h]
  |some e=>
   let#[y,h1,h2]:=au.mp h;subst h2;erw[RO G (A.fe G.g h1)]
 |If c a b pos=>
  dsimp[aM,aE] at h;let#[c,h1,a,h2,b,h3,h4]:=h;injection h4 with h4;subst h4
  erw[RP G (A.ft G.g h1) (IH.OY G h2) (IH.OY G h3)]
 |While c b el pos=>
  split at h
  .rename_i he
   have he:el=[]:=by simpa using he
   subst he;dsimp[aM,aE] at h;let#[c,h1,a,h2,h3]:=h;injection h3 with h3;subst h3
   erw[RS G (A.ft G.g h1) (IH.OY G h2)]
  .erw[nn h]
 |For tg it b el pos=>
  split at h
  .erw[nn h]
  .rename_i hc
   dsimp[gW,Hz,ar] at hc;have he:el=[]:=by simpa using hc.2
   subst he;split at h
   .rename_i xs ht
    rcases Dj ht with⟨x,p,rfl,rfl⟩|⟨x,y,p,p',kd,q,rfl,rfl⟩
    .dsimp only at h
     split at h
     .rename_i i hi
      split at h
      .rename_i hl
       dsimp[aM,aE] at h;let#[it,h1,a,h2,h3]:=h;injection h3 with h3;subst h3
       erw[NC G hc.1 hi hl (EH h1) (A.fi G.g h1) (IH.OY G h2)]
      .erw[nn h]
     .erw[nn h]
    .dsimp only at h
     split at h
     .rename_i i hi
      split at h
      .rename_i j hj
       split at h
       .rename_i hl
        rw[ar] at hl;dsimp[aM,aE] at h;let#[it,h1,a,h2,h3]:=h;injection h3 with h3;subst h3
        erw[ND G hc.1 hi hl.1 hj hl.2 (OX h1) (A.fn G.g h1) (IH.OY G h2)]
       .erw[nn h]
      .erw[nn h]
     .erw[nn h]
   .erw[nn h]
 |Raise ex ca pos=>
  injection h with h;subst h
  rintro pZ s σ H D J ⟨env,ρ,S,DU,he,R,w,q⟩;erw[aV w]
 |Try b hs el fi pos=>
  cases hs with
  |nil=>erw[nn h]
  |cons h0 hs=>
   dsimp only at h;split at h
   .rename_i hc
    rw[ar] at hc;let#[he,hf]:=hc;have he:el=[]:=by simpa using he
    have hf:fi=[]:=by simpa using hf
    subst he;subst hf;let#[b,h2,h4]:=au.mp h;subst h4;erw[RT G (IH.OY G h2)]
   .erw[nn h]
 |_=>erw[nn h]
def Gm:NF t T Γ k 0:=by
 constructor
 .intro I X st x _ h;rw[aah] at h;erw[nn h]
 .intro I X st x _ h;rw[VA] at h;erw[nn h]
def Bt:∀n,NF t T Γ k n
 |0=>Gm
 |n+1=>
  have IH:=Bt n
  #[λG h=>VU IH G h,λG h=>RV IH G h]
end
open PL (U SO bG KU bY)
structure Base(c:Ctx)(T:Tab)(kx:Nat):Prop where
 tab:Jt c T
def OZ{c:Ctx}{T:Tab}{Γ:bY}{k kx n m:Nat}{x qual:Str}{st:Stmt}{f:Addr}{fd:fQ}{N ps:List Str}{sp:PL.Spec}{b:PL.dC}(F:Lo c.K x qual st f fd)(S:l6 N ps (bU st))
  (B:Base c T kx) (hkx:kx<=k) (G:gK c T Γ k) (hc:Lr T n #[(bU st).names,N,ζ] (fY st)=ξ b) (hk:PL.Keeps Γ b m sp) (hm:N.length=ps.length+m) (hl:∀us S Q,sp us S Q->us.length=ps.length):
  jI c.P c.w c.K c.mg c.base CU (k+2) f fd ps (lift c sp):=by
 rwa[Lo.ok (k:=k+1) F S (λvs H Q E h=>?_) (λcdv A outer s H vs Q E hr h=>?_)]
 .let#[us,ρ,S0,QU,r,R,w,q]:=h
  rw[<-r.len];erw[hl _ _ _ w]
 let#[us,ρ,S0,QU,r,R,w,q]:=h
 let t:yc:=#[c.cls]
 let X:=(CN CU c.P c.w c.K c.mg c.base N qual (bU st) f cdv A outer s H E).Ur
 have G0:Good t T Γ k #[(bU st).names,N,ζ] X:=#[B.tab,G,S.kind,rfl,rfl,S.nd,λ_=>#[rfl,hr],by have:=hr.un;show(A.deeper (sG qual (bU st) s.heap.objs.size f cdv)).units+200<gv;omega,rfl]
 refine#[_,(Bt n).OY #[G0,λ_=>rfl] hc,?_];have hlen:us.length=ps.length:=hl _ _ _ w;have hvl:vs.length=us.length:=r.len.symm;refine#[us.map ξ++xj m ψ,ρ,S0,#[λ_ S1=>QU .b7 S1,QU],#[?_,λi u e=>?_],R,hk us S0 QU w,#[λenv' S' σ' H' ρ' h st R' e=>q _ _ _ _ _ h st R' (fj.mpr rfl),q]]
 .unfold start
  simp
  omega
 .unfold start
  by_cases z:i<us.length
  .rw[ao (~~~z),aC] at e
   let#[u',e1,e2]:=au.mp e;injection e2 with e2;subst e2
   let#[v,e3,r3]:=r.get e1;exact#[v,by rw[ao (%[ae,hvl|z]),aC,e3];rfl,r3]
  .rw[ax (~~~(ou z)),AB] at e
   split at e
   .cases e
   .cases e
abbrev Dx:PL.Spec:=λus _ Q=>∃ns:List Int,us=[.sZ ns]/\ns.length<=63/\∀S',Q (.bl ζ) S'
abbrev zC(K:Frag):Sp:=λvs H Q _=>∃(a:Addr)(ns:List Int),vs=[.ref a]/\ns.length<=63/\xZ K H a (ns.map .int)/\∀H',Q (.bl ζ) H'
def NG(F:jI c.P c.w c.K c.mg c.base CU k f fd ps (lift c Dx)):jI c.P c.w c.K c.mg c.base CU k f fd ps (zC c.K):=by
 rwa[F.imp λvs H Q E h=>?_]
 let#[a,ns,rfl,hl,hf,q]:=h;refine#[[.sZ ns],[],[],λu _=>u=.bl ζ,a9.cons (rR.mpr #[a,rfl,hf]) a9.nil,#[rfl,xq,λn a o h=>by simp at h],#[ns,rfl,hl,λ_=>rfl],λu S' v H' ρ' e _ _ r=>?_];subst e;rw[fc.mp r]
 erw[q H']
def JJ{K:Frag}{H:Hp}{a:Addr}{xs:List V}(o:Mh H)(h:ij K H a xs):xZ K H a xs:=by
 rcases h with(h|⟨ob,h⟩)|h
 .rcases o a with z|⟨ob,ys,z⟩
  .rw[h] at z;cases z
  .rw[h] at z;cases z
 .erw[.inl #[ob,h]]
 .erw[.inr h]
end L2
section
namespace PL
def Yg:gx "text" [("text",a),("at",b),("depth",c)]=ξ a:=rfl
def abE:gx "at" [("text",a),("at",b),("depth",c)]=ξ b:=rfl
def VW:gx "depth" [("text",a),("at",b),("depth",c)]=ξ c:=rfl
end PL
open PL
namespace PL
abbrev mJ(x rest:List Nat)(d:Nat):SO:=.ins "Reader" [("text",.str x),("at",.int (x.length-rest.length:Nat)),("depth",.int d)]
abbrev lU(r:Nat)(o:SO)(S S':bG):Prop:=S.length<=S'.length/\S'[r]?=ξ o/\∀n,n<S.length->n≠r->S'[n]?=S[n]?
abbrev Old(r:Nat)(S S':bG):Prop:=S.length<=S'.length/\∀n,n<S.length->n≠r->S'[n]?=S[n]?
abbrev Ext(S S':bG):Prop:=S.length<=S'.length/\∀n,n<S.length->S'[n]?=S[n]?
abbrev cF(l rest:List Nat):Bool:=match rest with|[]=>ϑ|c::_=>l.contains c
abbrev Dy:Spec:=λus S Q=>∃r x rest d l,us=[.loc r,.str l]/\S[r]?=ξ (mJ x rest d)/\rest<:+x/\x.length<=1000/\Q (.bl (cF l rest)) S
section
variable{x rest:List Nat}
def JK(h:rest<:+x)(k:Nat):x[x.length-rest.length+k]?=rest[k]?:=by
 let#[p,rfl]:=h;rw[aj,sI,ax ∅]
 congr 1
 omega
def O0(h:rest<:+x):((x.length-rest.length:Nat):Int)<x.length↔rest≠[]:=by
 let#[p,rfl]:=h;cases rest with
 |nil=>simp
 |cons c r=>simp;omega
end
section
variable{S:bG}{r:Nat}{x rest:List Nat}{d:Nat}{q:U->Prop}
def zD(h:S[r]?=ξ (mJ x rest d)):oW (.loc r) "text" S q=q (.str x):=by rw[jd,h];rfl
def Bu(h:S[r]?=ξ (mJ x rest d)):oW (.loc r) "at" S q=q (.int (x.length-rest.length:Nat)):=by rw[jd,h];rfl
def JL(h:S[r]?=ξ (mJ x rest d)):oW (.loc r) "depth" S q=q (.int d):=by rw[jd,h];rfl
def cu{Q:String->List (String×U)->Prop}(h:S[r]?=ξ (mJ x rest d)):qE S[r]? Q=Q "Reader" [("text",.str x),("at",.int (x.length-rest.length:Nat)),("depth",.int d)]:=by rw[h];rfl
end
def NH(Γ:bY):Keeps Γ j8 0 Dy:=by
 rintro us S Q ⟨r,x,rest,d,l,rfl,hS,hx,hl,q⟩;unfold j8;walk_at "pl";dsimp[<-jd,zD hS,Bu hS];walk_at "pl";refine#[∅,?_];rw[iz]
 have h0:=JK hx 0;rw[Nat.add_zero] at h0;rw[h0]
 dsimp[decide_eq_true_eq,O0 hx];cases rest with
 |nil=>simpa[cF] using q
 |cons c t=>simp[cF] at q ⊢;exact#[∅,q]
@[reducible]def PR(α:Type):=Except (List Nat) (α×List Nat)
abbrev eF(l rest:List Nat):PR Nat:=match rest with|[]=>.error []|c::r=>if l.contains c then .ok (c,r) else .error (c::r)
abbrev mapR{α β:Type}(f:α->β):PR α->PR β|.ok (a,r)=>.ok (f a,r)|.error r=>.error r
abbrev bindR{α β:Type}(p:PR α)(f:α->List Nat->PR β):PR β:=match p with|.ok (a,r)=>f a r|.error r=>.error r
abbrev lg(c:Nat):U:=.str [c]
abbrev eG(r:Nat)(x:List Nat)(d:Nat)(S:bG)(Q:KU):PR U->Prop
 |.ok (u,r')=>∀S',lU r (mJ x r' d) S S'->Q u S'
 |.error r'=>False
abbrev As(args:List U)(p:List Nat->PR U)(d:Nat):Spec:=λus S Q=>∃r x rest,us=.loc r::args/\S[r]?=ξ (mJ x rest d)/\rest<:+x/\x.length<=1000/\eG r x d S Q (p rest)
abbrev JM:Spec:=λus S Q=>∃l d,As [.str l] (λrest=>mapR lg (eF l rest)) d us S Q
section
variable{S S1 S2:bG}{r:Nat}{o o':SO}
def aT{α:Type}{l:List α}{n:Nat}{a:α}(h:l[n]?=ξ a):n<l.length:=(ag.mp h).1
def lU.set(h:S[r]?=ξ o):lU r o' S (S.set r o'):=by
 refine#[#v[],by simp[jR,aT h],λn hn ne=>?_];rw[ak (cJ ne)]
def lU.refl(h:S[r]?=ξ o):lU r o S S:=#[aq _,h,λ_ _ _=>rfl]
def Old.trans(a:Old r S S1)(b:Old r S1 S2):Old r S S2:=#[aF a.1 b.1,λn h ne=>(b.2 n (av h a.1) ne).trans (a.2 n h ne)]
def lU.old(a:lU r o S S1):Old r S S1:=#[a.1,a.2.2]
def lU.trans(a:lU r o S S1)(b:lU r o' S1 S2):lU r o' S S2:=#[aF a.1 b.1,b.2.1,(a.old.trans b.old).2]
def Ext.old(a:Ext S S1):Old r S S1:=#[a.1,λn h _=>a.2 n h]
def Ext.refl:Ext S S:=#[aq _,λ_ _=>rfl]
def Ext.trans(a:Ext S S1)(b:Ext S1 S2):Ext S S2:=#[aF a.1 b.1,λn h=>(b.2 n (av h a.1)).trans (a.2 n h)]
def Ext.get(a:Ext S S1)(h:S[r]?=ξ o):S1[r]?=ξ o:=(a.2 r (aT h)).trans h
def Ext.chg(a:Ext S S1)(h:S[r]?=ξ o):lU r o S S1:=#[a.1,a.get h,λn h _=>a.2 n h]
def Ext.app(l:List SO):Ext S (S++l):=#[#v[],λn h=>ao h]
def gs(h:S[r]?=ξ o):(S.set r o')[r]?=ξ o':=(lU.set h).2.1
end
def sub_len(h:(c::t)<:+x):((x.length-(c::t).length:Nat):Int)+1=(x.length-t.length:Nat):=by
 let#[p,rfl]:=h;simp
 omega
def RW{x t:List Nat}{z v:U}{d:Nat}(h:z=.int (x.length-t.length:Nat)):SO.ins "Reader" (iy "at" z [("text",.str x),("at",v),("depth",.int d)])=mJ x t d:=by subst h;rfl
def zE{x t:List Nat}{c:Nat}(h:(c::t)<:+x):t<:+x:=nv (dA c t) h
def NI(Γ:bY)(h1:Γ "Reader.sees"=Dy):Keeps Γ iU 0 JM:=by
 rintro us S Q ⟨l,d,r,x,rest,rfl,hS,hx,hl,q⟩;unfold iU;walk_at "pl";dsimp[cu hS,h1];walk_at "pl";refine#[rfl,r,x,rest,d,l,rfl,hS,hx,hl,?_];walk_at "pl";dsimp[cu hS];walk_at "pl";cases rest with
 |nil=>erw[q.elim]
 |cons c t=>
  by_cases e:l.contains c=ζ
  .dsimp[eF,e,if_true,mapR,eG] at q
   dsimp[cF,e];have p:=RW (v:=.int ((x.length-(c::t).length:Nat):Int)) (d:=d) (congrArg U.int (sub_len hx));have g:=gs (o':=mJ x t d) hS;dsimp[bH,aw,if_false,QH];dsimp[cu hS,p];dsimp[<-jd,zD g,Bu g,QK,Vm];refine#[trivial,#v[],∅,?_];have e2:((x.length-t.length:Nat):Int)-1=(x.length-(c::t).length:Nat):=by have:=sub_len hx;omega
   have h0:=JK hx 0;rw[Nat.add_zero] at h0;rw[e2,iz,h0]
   erw[q _ (lU.set hS)]
  .dsimp[eF,e,mapR,eG] at q
   dsimp[cF,e];erw[q.elim]
abbrev Suf{α:Type}(rest:List Nat):PR α->Prop
 |.ok (_,r)=>r<:+rest
 |.error r=>r<:+rest
abbrev mK{α:Type}(rest:List Nat):PR α->Prop
 |.ok (_,r)=>r<:+rest/\r.length<rest.length
 |.error r=>r<:+rest
def mK.RX{α:Type}{rest:List Nat}{p:PR α}(h:mK rest p):Suf rest p:=by
 cases p with
 |ok v=>erw[h.1]
 |error r=>erw[h]
def mK.bind{α β:Type}{rest:List Nat}{p:PR α}{f:α->List Nat->PR β}(h:mK rest p)(k:∀a r,p=.ok (a,r)->Suf r (f a r)):mK rest (bindR p f):=by
 cases p with
 |error r=>erw[h]
 |ok v=>
  let#[a,r]:=v;have:=k a r rfl;unfold bindR;dsimp only;cases q:f a r with
  |error r'=>rw[q] at this;erw[this.trans h.1]
  |ok w=>
   let#[b,r']:=w;rw[q] at this;exact#[this.trans h.1,ju this.length_le h.2]
def Suf.bind{α β:Type}{rest:List Nat}{p:PR α}{f:α->List Nat->PR β}(h:Suf rest p)(k:∀a r,p=.ok (a,r)->Suf r (f a r)):Suf rest (bindR p f):=by
 cases p with
 |error r=>erw[h]
 |ok v=>
  let#[a,r]:=v;have:=k a r rfl;unfold bindR;dsimp only;cases q:f a r with
  |error r'=>rw[q] at this;erw[this.trans h]
  |ok w=>
   let#[b,r']:=w;rw[q] at this;erw[this.trans h]
def hU(l rest:List Nat):mK rest (eF l rest):=by
 cases rest with
 |nil=>erw[bK _]
 |cons c t=>
  unfold eF;dsimp only;split
  .exact#[dA c t,#v[]]
  .erw[bK _]
def eG.bind{α:Type}{toU:α->U}{p:PR α}{f:α->List Nat->PR U}{r d:Nat}{x rest:List Nat}{S S1:bG}{Q Q1:KU}(h:eG r x d S Q (bindR p f))(st:lU r (mJ x rest d) S S1)
  (k:∀a r1 S2,p=.ok (a,r1)->lU r (mJ x r1 d) S S2->eG r x d S Q (f a r1)->Q1 (toU a) S2):eG r x d S1 Q1 (mapR toU p):=by
 cases p with
 |error r'=>erw[h]
 |ok v=>
  let#[a,r1]:=v;erw[λS' c=>k a r1 S' rfl (st.trans c) h]
def NJ:mapR id p=p:=by
 cases p with
 |ok v=>rfl
 |error r=>rfl
def yh{α β:Type}{f:α->β}{p:PR α}:mapR f p=bindR p (λa r=>.ok (f a,r)):=by
 cases p with
 |ok v=>rfl
 |error r=>rfl
def mq(p:Nat->Bool)(hg:g S)(hc:∀n k,k (p n) S->c (.str [n]) S k)(he:∀n k,k (.str [n]) S->e (.str [n]) S k):
  ∀(l:List Nat)(acc:List U),acc.length+l.length<1000000->Q (acc++(l.filter p).map lg) S->mY g c e Q (l.map λn=>.str [n]) acc S
 |[],acc,hl,q=>#[hg,~~~hl,~~~q]
 |n::l,acc,hl,q=>by
  dsimp[aU] at hl;refine#[hg,∅,hc n _ ?_];by_cases h:p n=ζ
  .rw[if_pos h]
   rwa[he n _ (mq p hg hc he l (acc++[.str [n]]) ((·)) ?_)];rw[iN,if_pos h] at q;simpa[lg] using q
  .rw[if_neg h]
   rwa[mq p hg hc he l acc ∅ ?_];rw[iN,if_neg h] at q;erw[q]
def join_ones:∀l:List Nat,l9 [] (l.map λn=>[n])=l
 |[]=>rfl
 |[n]=>rfl
 |n::m::l=>by
  have:=join_ones (m::l);dsimp[az] at this ⊢;dsimp[l9,bT];rw[this];rfl
abbrev eD(l:List Nat):List Nat:=SG.filter λc=>!l.contains c
abbrev inOrder(l:List Nat):List Nat:=SG.filter λc=>l.contains c
abbrev spT(f:List Nat->List Nat):Spec:=λus S Q=>∃l,us=[.str l]/\∀S',Ext S S'->Q (.str (f l)) S'
def vT:∀l:List Nat,((l.map λn=>[n]).map cR).sum=l.length
 |[]=>rfl
 |n::l=>by rw[az,az,jb,vT l];simp;omega
def EJ(l:List Nat):l.map lg=(l.map λn=>[n]).map U.str:=by
 rw[bw];rfl
def EK(p:Nat->Bool):(SG.filter p).length<=95:=aF (Cq _ _) ⋯
def Bv(Γ:bY):Keeps Γ nJ 0 (spT inOrder):=by
 rintro us S Q ⟨l,rfl,q⟩;unfold nJ;walk_at "pl";refine mq (λc=>l.contains c) trivial (λn k h=>by rw[MK];exact h) (λn k h=>h) SG [] ⋯ ?_;dsimp[jj];try walk_at "pl"
 refine#[(inOrder l).map λn=>[n],?_,?_,?_]
 .rw[<-EJ];simp[inOrder]
 .have:=EK λc=>l.contains c
  rw[vT];simp[inOrder] at this ⊢;omega
 .rw[join_ones];erw[q _ (Ext.app _)]
def vU(Γ:bY):Keeps Γ pH 0 (spT eD):=by
 rintro us S Q ⟨l,rfl,q⟩;unfold pH;walk_at "pl";refine mq (λc=>!l.contains c) trivial (λn k h=>by rw[ML];exact h) (λn k h=>h) SG [] ⋯ ?_;dsimp[jj];try walk_at "pl"
 refine#[(eD l).map λn=>[n],?_,?_,?_]
 .rw[<-EJ];simp[eD]
 .have:=EK λc=>!l.contains c
  rw[vT];simp[eD] at this ⊢;omega
 .rw[join_ones];erw[q _ (Ext.app _)]
abbrev EL:Spec:=λus S Q=>∃a b,us=[.str [a],.str [b]]/\a∈SG/\b∈SG/\Q (.bl (decide (SG.idxOf a<SG.idxOf b))) S
def Bw(Γ:bY):Keeps Γ nK 0 EL:=by
 rintro us S Q ⟨a,b,rfl,ha,hb,q⟩;unfold nK;walk_at "pl";refine#[a,rfl,ha,b,rfl,hb,?_];simpa using q
abbrev lC(a b:Nat):List Nat:=(SG.drop (SG.idxOf a)).take (SG.idxOf b+1-SG.idxOf a)
abbrev yi:Spec:=λus S Q=>∃a b,us=[.str [a],.str [b]]/\a∈SG/\b∈SG/\Q (.str (lC a b)) S
def Dz(h:a∈SG):SG.idxOf a<95:=by
 have:=List.idxOf_lt_length_iff.mpr h;simpa using this
def DA(Γ:bY):Keeps Γ pI 0 yi:=by
 rintro us S Q ⟨a,b,rfl,ha,hb,q⟩;unfold pI;walk_at "pl";refine#[a,rfl,ha,?_];refine#[b,rfl,hb,?_];try walk_at "pl"
 have h1:=Dz ha;have h2:=Dz hb;refine#[#[λi e=>?_,λi e=>?_],⋯,?_]
 .injection e with e;omega
 .injection e with e;omega
 .have e:qF SG (ξ (SG.idxOf a:Int)) (ξ ((SG.idxOf b:Int)+1))=lC a b:=by
   unfold qF lC;have l:SG.length=95:=⋯
   dsimp[eI,l];have e1:min (((SG.idxOf a:Nat):Int).toNat) 95=SG.idxOf a:=∅
   have e2:min ((((SG.idxOf b:Nat):Int)+1).toNat) 95=SG.idxOf b+1:=∅
   rw[e1,e2]
  show Q (.str (qF SG (ξ (SG.idxOf a:Int)) (ξ ((SG.idxOf b:Int)+1)))) S
  rw[e];erw[q]
noncomputable abbrev BB:List Nat:=[46,124,40,41,91,93,42,43,63,92,45,94,110]
noncomputable abbrev MO:List Nat:=[46,124,40,41,91,93,42,43,63,92]
noncomputable abbrev MW:List Nat:=[93,45,92]
abbrev kK(m rest:List Nat):PR Nat:=
 match rest with
 |92::r=>bindR (eF BB r) λs r'=>.ok (if s=110 then 10 else s,r')
 |_=>eF (eD m) rest
def JN(m r:List Nat):kK m (92::r)=bindR (eF BB r) λs r'=>.ok (if s=110 then 10 else s,r'):=rfl
def Bx{m rest:List Nat}(h:cF [92] rest=ϑ):kK m rest=eF (eD m) rest:=by
 unfold kK;split
 .simp[cF] at h
 .rfl
def JO{c:Nat}{rest:List Nat}(h:cF [c] rest=ζ):∃t,rest=c::t:=by
 cases rest with
 |nil=>simp[cF] at h
 |cons a t=>simp[cF] at h;subst h;exact#[t,rfl]
def lu(m rest:List Nat):mK rest (kK m rest):=by
 unfold kK;split
 .rename_i r
  have h:=(hU BB r).bind (f:=λs r'=>(.ok (if s=110 then 10 else s,r'):PR Nat)) λa r' _=>bK _
  cases q:bindR (eF BB r) λs r'=>(.ok (if s=110 then 10 else s,r'):PR Nat) with
  |error r'=>rw[q] at h;erw[h.trans (dA _ _)]
  |ok v=>rw[q] at h;exact#[h.1.trans (dA _ _),bc h.2]
 .erw[hU _ _]
def EM(h:eF l rest=.ok (c,r)):c∈l/\rest=c::r:=by
 cases rest with
 |nil=>simp[eF] at h
 |cons a t=>
  unfold eF at h;dsimp only at h;split at h
  .rename_i z
   injection h with h;injection h with h1 h2;subst h1;subst h2
   exact#[~~~z,rfl]
  .cases h
def vV{m rest:List Nat}{c:Nat}{r:List Nat}(h:kK m rest=.ok (c,r)):c∈SG:=by
 unfold kK at h;split at h
 .rename_i t
  cases q:eF BB t with
  |error r'=>rw[q] at h;cases h
  |ok v=>
   let#[s,r']:=v;rw[q] at h;dsimp[bindR] at h;injection h with h;injection h with h1 h2
   have hs:=(EM q).1;subst h1;split
   .decide
   .have:∀s∈BB,s∈SG:=⋯
    erw[this s hs]
 .have:=(EM h).1
  unfold eD at this;exact(fq.mp this).1
abbrev EN(d:Nat):Spec:=λus S Q=>∃m,As [.str m] (λrest=>mapR lg (kK m rest)) d us S Q
structure GR(Γ:bY):Prop where
 sees:Γ "Reader.sees"=Dy
 pass:Γ "Reader.passes"=JM
 DB:Γ "all_but"=spT eD
 RY:Γ "in_order"=spT inOrder
 ahead:Γ "is_ahead"=EL
 JP:Γ "stretch"=yi
def JQ(Γ:bY)(G:GR Γ)(d:Nat):Keeps Γ eQ 1 (EN d):=by
 rintro us S Q ⟨m,r,x,rest,rfl,hS,hx,hl,q⟩;have q:eG r x d S Q (mapR lg (kK m rest)):=q;unfold eQ;walk_at "pl";dsimp[cu hS,G.sees,G.pass];walk_at "pl";refine#[rfl,r,x,rest,d,_,rfl,hS,hx,hl,?_];walk_at "pl";by_cases e:cF [92] rest=ζ
 .let#[t,rfl]:=JO e
  dsimp[e,bH,aw,if_false];dsimp[cu hS];refine#[#[by first|trivial|rfl,rfl],[92],d,r,x,_,rfl,hS,hx,hl,?_];have ht:=zE hx;show eG r x d S _ (mapR lg (.ok (92,t)));intro S1 c1;try walk_at "pl"
  dsimp[cu c1.2.1];refine#[#[by first|trivial|rfl,rfl],BB,d,r,x,t,rfl,c1.2.1,ht,hl,?_];rw[JN] at q;have q':eG r x d S Q (bindR (eF BB t) λs r'=>.ok (lg (if s=110 then 10 else s),r')):=by
   cases z:eF BB t with
   |error r'=>rw[z] at q;erw[q]
   |ok v=>rw[z] at q;erw[q]
  rwa[q'.bind c1 λa r1 S2 e1 c2 q2=>?_]
  unfold lg;try walk_at "pl"
  dsimp[beq_iff_eq,dE,and_true];have:=q2 S2 c2;unfold lg at this;by_cases z:a=110
  .subst z;simpa using this
  .dsimp[z,if_false] at this ⊢;erw[this]
 .have e:cF [92] rest=ϑ:=by simpa using e
  dsimp[e,bV,if_true];dsimp[cu hS,G.DB,true_and];refine#[rfl,m,rfl,λS1 x1=>?_];refine#[eD m,d,r,x,rest,rfl,x1.get hS,hx,hl,?_];show eG r x d S1 Q (mapR lg (eF (eD m) rest));rw[Bx e] at q;cases z:eF (eD m) rest with
  |error r'=>rw[z] at q;erw[q]
  |ok v=>rw[z] at q;erw[λS' c=>q S' ((x1.chg hS).trans c)]
end PL
namespace PL
abbrev lD(first:Nat)(r:List Nat):PR (List Nat):=
 match r with
 |45::r2=>bindR (kK MW r2) λsecond r3=>if SG.idxOf second<SG.idxOf first then .error r2 else .ok (lC first second,r3)
 |_=>.ok ([first],r)
abbrev item(rest:List Nat):PR (List Nat):=bindR (kK MW rest) lD
def By(f:Nat)(r:List Nat):lD f (45::r)=bindR (kK MW r) λsecond r3=>if SG.idxOf second<SG.idxOf f then .error r else .ok (lC f second,r3):=rfl
def Bz{f:Nat}{r:List Nat}(h:cF [45] r=ϑ):lD f r=.ok ([f],r):=by
 unfold lD;split
 .simp[cF] at h
 .rfl
def zF(f:Nat)(r:List Nat):Suf r (lD f r):=by
 unfold lD;split
 .rename_i r2
  have h:=(lu MW r2).bind (f:=λsecond r3=>(if SG.idxOf second<SG.idxOf f then .error r2 else .ok (lC f second,r3):PR (List Nat)));cases q:kK MW r2 with
  |error r'=>have:=lu MW r2;rw[q] at this;erw[this.trans (dA _ _)]
  |ok v=>
   have:=lu MW r2;rw[q] at this;dsimp[bindR];split
   .erw[dA _ _]
   .erw[this.1.trans (dA _ _)]
 .erw[bK _]
def rZ(rest:List Nat):mK rest (item rest):=(lu MW rest).bind λa r _=>zF a r
def jX{α β γ:Type}{g:β->γ}{p:PR α}{f:α->List Nat->PR β}:mapR g (bindR p f)=bindR p λa r=>mapR g (f a r):=by
 cases p with
 |ok v=>rfl
 |error r=>rfl
abbrev JR(d:Nat):Spec:=As [] (λrest=>mapR U.str (item rest)) d
structure GR2(Γ:bY)(d:Nat):Prop extends GR Γ where
 ws:Γ "Reader.written_sign"=EN d
def NK(Γ:bY)(d:Nat)(G:GR2 Γ d):Keeps Γ kb 3 (JR d):=by
 rintro us S Q ⟨r,x,rest,rfl,hS,hx,hl,q⟩;have q:eG r x d S Q (mapR U.str (item rest)):=q;unfold item at q;rw[jX] at q;unfold kb;walk_at "pf";dsimp[cu hS];refine#[#[by first|trivial|rfl,rfl],ca G.ws #[MW,r,x,rest,rfl,hS,hx,hl,?_]];refine q.bind (lU.refl hS) λa r1 S1 e1 c1 q1=>?_
 have hs:=lu MW rest;rw[e1] at hs;have hx1:=hs.1.trans hx;have g1:=c1.2.1;unfold lg;try walk_at "pf"
 dsimp[cu g1,true_and];refine#[rfl,ca G.sees #[r,x,r1,d,_,rfl,g1,hx1,hl,?_]];try walk_at "pf"
 by_cases e:cF [45] r1=ζ
 .let#[t,rfl]:=JO e
  dsimp[e,bH,aw,if_false];walk_at "pf";dsimp[cu g1,true_and];refine#[rfl,ca G.pass #[[45],d,r,x,_,rfl,g1,hx1,hl,?_]];have ht:=zE hx1;show eG r x d S1 _ (mapR lg (.ok (45,t)));intro S2 c2;have g2:=c2.2.1;try walk_at "pf"
  dsimp[<-jd,Bu g2];walk_at "pf";dsimp[cu g2,true_and];refine#[rfl,ca G.ws #[MW,r,x,t,rfl,g2,ht,hl,?_]];rw[By,jX] at q1;rwa[q1.bind (c1.trans c2) λb r3 S3 e3 c3 q3=>?_]
  unfold lg;try walk_at "pf"
  have ha:=vV e1;have hb:=vV e3;refine ca G.ahead #[b,a,rfl,hb,ha,?_];try walk_at "pf"
  by_cases z:SG.idxOf b<SG.idxOf a
  .dsimp[z,decide_true,if_true]
   dsimp[z,if_true] at q3;walk_at "pf";erw[q3.elim]
  .dsimp[z,decide_false,aw,if_false]
   dsimp[z,if_false] at q3;walk_at "pf";erw[ca G.JP #[a,b,rfl,ha,hb,q3 S3 c3]]
 .have e:cF [45] r1=ϑ:=by simpa using e
  dsimp[e,bV,if_true];rw[Bz e] at q1;walk_at "pf";erw[q1 S1 c1]
abbrev lE:Nat->List Nat->List Nat->PR (List Nat)
 |0,_,rest=>.error rest
 |n+1,taken,rest=>if cF [93] rest then .ok (taken,rest) else bindR (item rest) λt r=>lE n (taken++t) r
abbrev nZ(turned:Bool)(r1:List Nat):PR (List Nat):=
 bindR (item r1) λt r2=>bindR (lE (r2.length+1) t r2) λtaken r3=>bindR (eF [93] r3) λ_ r4=>.ok (if turned then eD taken else inOrder taken,r4)
abbrev clsIn(r0:List Nat):PR (List Nat):=
 match r0 with
 |94::r=>nZ ζ r
 |_=>nZ ϑ r0
abbrev cls(rest:List Nat):PR (List Nat):=bindR (eF [91] rest) λ_ r0=>clsIn r0
def JS(h:cF [94] r=ϑ):clsIn r=nZ ϑ r:=by
 unfold clsIn;split
 .simp[cF] at h
 .rfl
def vW:∀(n:Nat)(taken rest:List Nat),Suf rest (lE n taken rest)
 |0,_,rest=>bK _
 |n+1,taken,rest=>by
  unfold lE;split
  .erw[bK _]
  .exact(rZ rest).RX.bind λa r _=>vW n _ r
def ue(b:Bool)(r:List Nat):Suf r (nZ b r):=
 (rZ r).RX.bind λa r2 _=>(vW _ _ _).bind λt r3 _=>(hU _ _).RX.bind λ_ r4 _=>bK _
def NL(rest:List Nat):mK rest (cls rest):=by
 refine(hU _ _).bind λa r _=>?_
 unfold clsIn;split
 .rename_i r' hq
  have:=ue ζ r';cases q:nZ ζ r' with
  |ok v=>rw[q] at this;erw[nv this (dA _ _)]
  |error v=>rw[q] at this;erw[nv this (dA _ _)]
 .erw[ue ϑ r]
abbrev O1(d:Nat):Spec:=As [] (λrest=>mapR U.str (cls rest)) d
structure GR3(Γ:bY)(d:Nat):Prop extends GR2 Γ d where
 it:Γ "Reader.item"=JR d
def vX(h:item rest=.ok (t,r)):t.length<=95:=by
 unfold item at h;cases q:kK MW rest with
 |error r'=>rw[q] at h;cases h
 |ok v=>
  let#[a,r1]:=v;rw[q] at h;dsimp[bindR] at h;unfold lD at h;split at h
  .rename_i r2
   cases q2:kK MW r2 with
   |error r'=>rw[q2] at h;cases h
   |ok v2=>
    rw[q2] at h;dsimp[bindR] at h;split at h
    .cases h
    .injection h with h;injection h with h1 h2;subst h1
     unfold lC;rwa[aF (List.length_take_le _ _) ?_];have:=Dz (vV q2);omega
  .injection h with h;injection h with h1 h2;subst h1;simp
def vY{Γ:bY}{d:Nat}(G:GR3 Γ d){r:Nat}{x:List Nat}{S:bG}{fin:Env->bG->Prop}{env:Env}(hl:x.length<=1000)(k1:env[0]?=ξ (ξ (.loc r)))
  (cW:Env->bG->(Bool->bG->Prop)->Prop) (bW:Env->bG->(Env->bG->Prop)->Prop)
  (hc:∀taken S1 rest k,S1[r]?=ξ (mJ x rest d)->rest<:+x->k (!cF [93] rest) S1->cW (env.set 2 (ξ (.str taken))) S1 k)
  (hb:∀taken S1 rest k,taken.length<=900000->S1[r]?=ξ (mJ x rest d)->rest<:+x->eG r x d S1 (λu S2=>∃t,u=.str t/\t.length<=95/\k (env.set 2 (ξ (.str (taken++t)))) S2) (mapR U.str (item rest))->bW (env.set 2 (ξ (.str taken))) S1 k):
  ∀(n:Nat)(taken rest:List Nat)(S1:bG)(R:List Nat->List Nat->PR U),rest.length<n->taken.length+95*rest.length<=900000->rest<:+x->lU r (mJ x rest d) S S1 ->
   (∀t2 r2 S2,lU r (mJ x r2 d) S S2->r2<:+x->t2.length<=900000->lE n taken rest=.ok (t2,r2)->fin (env.set 2 (ξ (.str t2))) S2)->(∀r',lE n taken rest=.error r'->False) ->
   zk cW bW fin n (env.set 2 (ξ (.str taken))) S1
 |0,_,_,_,_,h,_,_,_,_,_=>∅
 |n+1,taken,rest,S1,R,h,ht,hx,c1,hf,he=>by
  rwa[hc taken S1 rest _ c1.2.1 hx ?_];by_cases e:cF [93] rest=ζ
  .dsimp[e,bH,aw,if_false]
   erw[hf taken rest S1 c1 hx ∅ (by unfold lE;rw[if_pos e])]
  .have e':cF [93] rest=ϑ:=by simpa using e
   dsimp[e',bV,if_true];rwa[hb taken S1 rest _ ∅ c1.2.1 hx ?_];have hs:=rZ rest;cases q:item rest with
   |error r'=>
    erw[he r' (by unfold lE;rw[if_neg e,q];rfl)]
   |ok v=>
    let#[t,r1]:=v;rw[q] at hs;intro S2 c2;refine#[t,rfl,vX q,?_];have hlt:t.length<=95:=vX q;have hE:lE (n+1) taken rest=lE n (taken++t) r1:=by
     conv=>lhs;unfold lE
     rw[if_neg e,q];rfl
    rwa[vY G hl k1 cW bW hc hb n (taken++t) r1 S2 R (by have:=hs.2;omega) (by simp;have:=hs.2;omega) (hs.1.trans hx) (c1.trans c2) (λt2 r2 S3 c3 h3 h4 e3=>hf t2 r2 S3 c3 h3 h4 (%[hE|e3])) (λr' e3=>he r' (%[hE|e3]))]
def RZ(Γ:bY)(d:Nat)(G:GR3 Γ d):Keeps Γ fI 2 (O1 d):=by
  rintro us S Q ⟨r,x,rest,rfl,hS,hx,hl,q⟩;have q:eG r x d S Q (mapR U.str (cls rest)):=q;unfold cls at q;rw[jX] at q;unfold fI;walk_at "pf";dsimp[cu hS];refine#[#[by first|trivial|rfl,rfl],ca G.pass #[[91],d,r,x,rest,rfl,hS,hx,hl,?_]];refine q.bind (lU.refl hS) λa r0 S0 e0 c0 q0=>?_
  have hs0:=hU [91] rest;rw[e0] at hs0;have hx0:=hs0.1.trans hx;have g0:=c0.2.1;walk_at "pf";dsimp[cu g0,true_and];refine#[rfl,ca G.sees #[r,x,r0,d,_,rfl,g0,hx0,hl,?_]];try walk_at "pf"
  have tail:∀(tb:Bool)(r1:List Nat)(S1:bG),lU r (mJ x r1 d) S S1->r1<:+x->eG r x d S Q (mapR U.str (nZ tb r1)) ->
      uC Γ (.cons (.set 2 (.dg "Reader" "item" "Reader.item" @0 .nil))
   (.cons (.A9 (.not (.cU (.dg "Reader" "sees" "Reader.sees" @0 (.cons ↑[93] .nil)))) (.cons (.aug 2 .add (.dg "Reader" "item" "Reader.item" @0 .nil)) .nil))
   (.cons (.ex (.dg "Reader" "passes" "Reader.passes" @0 (.cons ↑[93] .nil)))
   (.cons (.ret (.C4 (.cU @1) (.call "all_but" (.cons @2 .nil)) (.call "in_order" (.cons @2 .nil)))) .nil)))) #[λ_ S1=>Q .b7 S1,Q] [ξ (.loc r),ξ (.bl tb),ψ] S1:=by
    intro tb r1 S1 c1 hx1 q1;unfold nZ at q1;rw[jX] at q1;have g1:=c1.2.1;walk_at "pf";dsimp[cu g1];refine#[#[by first|trivial|rfl,rfl],ca G.it #[r,x,r1,rfl,g1,hx1,hl,?_]];refine q1.bind c1 λt r2 S2 e2 c2 q2=>?_
    have hs2:=rZ r1;rw[e2] at hs2;have hx2:=hs2.1.trans hx1;have hlt:=vX e2;have hr2:r2.length<=1000:=aF hx2.length_le hl;rw[jX] at q2;walk_at "pf";refine#[r2.length+1,vY (S:=S) (env:=[ξ (.loc r),ξ (.bl tb),ψ]) G hl rfl _ _ ?_ ?_ (r2.length+1) t r2 S2 (λ_ _=>.error []) ∅ ∅ hx2 c2 ?_ ?_]
    · intro taken S3 rest3 k g3 hx3 hk
      dsimp[lX,lY];try walk_at "pf"
      dsimp[cu g3,true_and];refine#[rfl,ca G.sees #[r,x,rest3,d,_,rfl,g3,hx3,hl,?_]];try walk_at "pf"
      erw[hk]
    · intro taken S3 rest3 k htk g3 hx3 hk
      dsimp[lX,lY] at hk ⊢;try walk_at "pf"
      dsimp[cu g3,true_and];refine#[rfl,ca G.it #[r,x,rest3,rfl,g3,hx3,hl,?_]];show eG r x d S3 _ (mapR U.str (item rest3));cases z:item rest3 with
      |error r'=>rw[z] at hk;erw[hk]
      |ok v=>
        let#[t3,r3]:=v;rw[z] at hk;intro S4 c4;let#[t',e',hl',hk']:=hk S4 c4;injection e' with e';subst e'
        rw[IL]
        exact#[∅,Rest.go hk']
    · intro t3 r3 S3 c3 hx3 hl3 e3
      rw[e3] at q2;dsimp[bindR] at q2;have q2:eG r x d S Q (mapR U.str (bindR (eF [93] r3) λ_ r4=>.ok (if tb then eD t3 else inOrder t3,r4))):=q2;rw[jX] at q2;have g3:=c3.2.1;dsimp[lX,lY];try walk_at "pf"
      dsimp[cu g3,true_and];refine#[rfl,ca G.pass #[[93],d,r,x,r3,rfl,g3,hx3,hl,?_]];rwa[q2.bind c3 λb r4 S4 e4 c4 q4=>?_]
      try walk_at "pf"
      cases tb with
      |true=>erw[ca G.DB #[t3,rfl,λS5 x5=>q4 S5 (c4.trans (x5.chg c4.2.1))]]
      |false=>erw[ca G.RY #[t3,rfl,λS5 x5=>q4 S5 (c4.trans (x5.chg c4.2.1))]]
    · intro r' e3
      rw[e3] at q2;erw[q2]
  by_cases e:cF [94] r0=ζ
  · let#[t,rfl]:=JO e
    dsimp[e,if_true];walk_at "pf";dsimp[cu g0,true_and];refine#[rfl,ca G.pass #[[94],d,r,x,_,rfl,g0,hx0,hl,?_]];show eG r x d S0 _ (mapR lg (.ok (94,t)));intro S1 c1;erw[tail ζ t S1 (c0.trans c1) (zE hx0) q0]
  · have e:cF [94] r0=ϑ:=by simpa using e
    dsimp[e,aw,if_false];rw[JS e] at q0;erw[tail ϑ r0 S0 c0 hx0 q0]
abbrev pO(k:List Nat)(ts:List U):U:=match ts with|[t]=>t|_=>.tup [.str k,.tup ts]
abbrev lF:Spec:=λus S Q=>∃k n ts,us=[.str k,.loc n]/\S[n]?=ξ (.lst ts)/\ts≠[]/\ts.length<=100000/\Q (pO k ts) S
def Gn(Γ:bY):Keeps Γ rL 0 lF:=by
 rintro us S Q ⟨k,n,ts,rfl,hn,ne,hl,q⟩;unfold rL;walk_at "pl";dsimp[kr hn,hn];walk_at "pl";refine#[∅,?_];cases ts with
 |nil=>erw[absurd rfl ne]
 |cons t ts=>
  cases ts with
  |nil=>
   dsimp[gO];simp[oX,pO] at q ⊢;erw[q]
  |cons t2 ts=>
   have h1:((((t::t2::ts).length:Nat):Int)== 1)=ϑ:=by
    dsimp[aU,beq_eq_false_iff_ne];omega
   dsimp[h1,aw,if_false];refine#[#v[],?_];erw[q]
noncomputable abbrev NM:List Nat:=[111,110,101]
noncomputable abbrev lG:List Nat:=[115,116,97,114]
noncomputable abbrev o7:List Nat:=[112,108,117,115]
noncomputable abbrev kH:List Nat:=[109,97,121,98,101]
noncomputable abbrev DD:List Nat:=[114,111,119]
noncomputable abbrev T7:List Nat:=[111,114]
abbrev NN(l:List Nat):U:=.tup [.str NM,.str l]
abbrev JT(c:Nat)(t:U):U:=.tup [.str (if c=42 then lG else if c=43 then o7 else kH),t]
abbrev mr:U->List Nat->U×List Nat
 |t,[]=>(t,[])
 |t,c::r=>if [42,43,63].contains c then mr (JT c t) r else(t,c::r)
abbrev T8(br:Option (List Nat->PR U))(rest:List Nat):PR U:=
 match br with
 |none=>.error rest
 |some p=>bindR (eF [40] rest) λ_ r=>bindR (p r) λt r2=>bindR (eF [41] r2) λ_ r3=>.ok (t,r3)
abbrev r6(br:Option (List Nat->PR U))(rest:List Nat):PR U:=
 if cF [40] rest then T8 br rest else if cF [91] rest then mapR NN (cls rest) else if cF [46] rest then bindR (eF [46] rest) (λ_ r=>.ok (NN (eD [10]),r)) else mapR (λc=>NN [c]) (kK MO rest)
abbrev jB(br:Option (List Nat->PR U))(rest:List Nat):PR U:=bindR (r6 br rest) λt r=>.ok (mr t r)
abbrev dI(stop:List Nat->Bool)(p:List Nat->PR U):Nat->List U->List Nat->PR (List U)
 |0,_,rest=>.error rest
 |n+1,acc,rest=>if stop rest then .ok (acc,rest) else bindR (p rest) λt r=>dI stop p n (acc++[t]) r
abbrev jC(rest:List Nat):Bool:=rest.isEmpty||cF [124,41] rest
abbrev stopOr(rest:List Nat):Bool:=!cF [124] rest
abbrev xc(br:Option (List Nat->PR U))(rest:List Nat):PR U:=bindR (jB br rest) λt r=>bindR (dI jC (jB br) (r.length+1) [t] r) λts r2=>.ok (pO DD ts,r2)
abbrev R6(br:Option (List Nat->PR U))(rest:List Nat):PR U:=bindR (eF [124] rest) λ_ r=>xc br r
abbrev iC(br:Option (List Nat->PR U))(rest:List Nat):PR U:=bindR (xc br rest) λt r=>bindR (dI stopOr (R6 br) (r.length+1) [t] r) λts r2=>.ok (pO T7 ts,r2)
abbrev uf:Nat->Option (List Nat->PR U)
 |0=>ψ
 |k+1=>ξ (iC (uf k))
abbrev vZ(x:List Nat):PR U:=bindR (iC (uf 6) x) λt r=>if r=[] then .ok (t,[]) else .error r
def BA:∀(t:U)(rest:List Nat),(mr t rest).2<:+rest
 |t,[]=>bK _
 |t,c::r=>by
  unfold mr;split
  .exact(BA _ r).trans (dA _ _)
  .erw[bK _]
abbrev oy(br:Option (List Nat->PR U)):Prop:=∀p,br=ξ p->∀rest,mK rest (p rest)
def R7{br:Option (List Nat->PR U)}(h:oy br)(rest:List Nat):mK rest (T8 br rest):=by
 unfold T8;cases br with
 |none=>erw[bK _]
 |some p=>exact(hU _ _).bind λa r _=>(h p rfl r).RX.bind λt r2 _=>(hU _ _).RX.bind λ_ r3 _=>bK _
def mK.map{α β:Type}{rest:List Nat}{p:PR α}{f:α->β}(h:mK rest p):mK rest (mapR f p):=by
 cases p with
 |ok v=>erw[h]
 |error r=>erw[h]
def v5{br:Option (List Nat->PR U)}(h:oy br)(rest:List Nat):mK rest (r6 br rest):=by
 unfold r6;split
 .erw[R7 h rest]
 .split
  .exact(NL rest).map
  .split
   .exact(hU _ _).bind λ_ r _=>bK _
   .exact(lu _ _).map
def n8(h:oy br)(rest:List Nat):mK rest (jB br rest):=(v5 h rest).bind λt r _=>BA t r
def n9(h:∀rest,mK rest (p rest)):∀(n:Nat)(acc:List U)(rest:List Nat),Suf rest (dI stop p n acc rest)
 |0,_,rest=>bK _
 |n+1,acc,rest=>by
  unfold dI;split
  .erw[bK _]
  .exact(h rest).RX.bind λa r _=>n9 h n _ r
def zG(h:oy br)(rest:List Nat):mK rest (xc br rest):=(n8 h rest).bind λt r _=>(n9 (n8 h) _ _ _).bind λts r2 _=>bK _
def JU(h:oy br)(rest:List Nat):mK rest (R6 br rest):=(hU _ _).bind λ_ r _=>(zG h r).RX
def v7(h:oy br)(rest:List Nat):mK rest (iC br rest):=(zG h rest).bind λt r _=>(n9 (JU h) _ _ _).bind λts r2 _=>bK _
def tF:∀k,oy (uf k)
 |0=>λp e=>nomatch e
 |k+1=>λp e rest=>by injection e with e;subst e;erw[v7 (tF k) rest]
def eG.O2{α:Type}{toU:α->U}{p:PR α}{f:α->List Nat->PR U}{r d d':Nat}{x rest:List Nat}{S S1:bG}{Q Q1:KU}(h:eG r x d S Q (bindR p f))(st:lU r (mJ x rest d') S S1)
  (k:∀a r1 S2,p=.ok (a,r1)->lU r (mJ x r1 d') S S2->eG r x d S Q (f a r1)->Q1 (toU a) S2):eG r x d' S1 Q1 (mapR toU p):=by
 cases p with
 |error r'=>erw[h]
 |ok v=>
  let#[a,r1]:=v;erw[λS' c=>k a r1 S' rfl (st.trans c) h]
def eG.EO{p:PR U}{f:U->List Nat->PR U}{r d d':Nat}{x rest:List Nat}{S S1:bG}{Q Q1:KU}(h:eG r x d S Q (bindR p f))(st:lU r (mJ x rest d') S S1)
  (k:∀a r1 S2,p=.ok (a,r1)->lU r (mJ x r1 d') S S2->eG r x d S Q (f a r1)->Q1 a S2):eG r x d' S1 Q1 p:=by
 have:=eG.O2 (toU:=id) (Q1:=Q1) h st k;rw[NJ] at this;erw[this]
def ER{x t:List Nat}{z:U}{v:Nat}{d':Nat}(h:z=.int (d':Nat)):SO.ins "Reader" (iy "depth" z [("text",.str x),("at",.int (x.length-t.length:Nat)),("depth",.int v)])=mJ x t d':=by subst h;rfl
abbrev VX(br:Option (List Nat->PR U))(d:Nat):Spec:=λus S Q=>∃r x rest,us=[.loc r]/\S[r]?=ξ (mJ x rest d)/\rest<:+x/\x.length<=1000/\cF [40] rest=ζ/\eG r x d S Q (T8 br rest)
abbrev VY(Γ:bY)(br:Option (List Nat->PR U))(d:Nat):Prop:=
 (br=ψ/\d=6)\/∃p,br=ξ p/\d<6/\oy br/\Γ "Reader.choice"=As [] p (d+1)
def VZ(Γ:bY)(G:GR Γ)(br:Option (List Nat->PR U))(d:Nat)(hb:VY Γ br d):Keeps Γ iA 1 (VX br d):=by
 rintro us S Q ⟨r,x,rest,rfl,hS,hx,hl,hs,q⟩;unfold iA;walk_at "pf";dsimp[<-jd,JL hS];walk_at "pf";rcases hb with⟨rfl,rfl⟩|⟨p,rfl,hd,hbo,hch⟩
 .have e:((((6:Nat):Int))== 6)=ζ:=⋯
  dsimp[e,if_true];erw[q.elim]
 .have e:(((d:Nat):Int)== 6)=ϑ:=by dsimp[beq_eq_false_iff_ne];omega
  dsimp[e,aw,if_false];walk_at "pf";dsimp[cu hS,true_and];refine#[rfl,ca G.pass #[[40],d,r,x,rest,rfl,hS,hx,hl,?_]];unfold T8 at q;rwa[q.bind (lU.refl hS) λa r1 S1 e1 c1 q1=>?_]
  have hs1:=hU [40] rest;rw[e1] at hs1;have hx1:=hs1.1.trans hx;have g1:=c1.2.1;walk_at "pf";dsimp[cu g1];try walk_at "pf"
  dsimp[cu g1,ER (v:=d) (d':=d+1) (t:=r1) (x:=x) (z:=.int ((d:Nat)+1)) rfl];refine#[by first|trivial|rfl,#v[],?_];have c2:lU r (mJ x r1 (d+1)) S (S1.set r (mJ x r1 (d+1))):=c1.trans (lU.set g1);have g2:=c2.2.1;generalize S1.set r (mJ x r1 (d+1))=S2 at c2 g2;walk_at "pf";dsimp[cu g2,true_and];refine#[rfl,ca hch #[r,x,r1,rfl,g2,hx1,hl,?_]];refine q1.EO c2 λt r2 S3 e3 c3 q3=>?_
  have hs3:=hbo p rfl r1;rw[e3] at hs3;have hx3:=hs3.1.trans hx1;have g3:=c3.2.1;try walk_at "pf"
  dsimp[cu g3,true_and];refine#[rfl,ca G.pass #[[41],d+1,r,x,r2,rfl,g3,hx3,hl,?_]];rwa[q3.O2 c3 λa r3 S4 e4 c4 q4=>?_]
  have g4:=c4.2.1;walk_at "pf";dsimp[cu g4];try walk_at "pf"
  dsimp[cu g4,ER (v:=d+1) (d':=d) (t:=r3) (x:=x) (z:=.int (((d+1:Nat):Int)-1)) (by congr 1;omega)];refine#[by first|trivial|rfl,#v[],?_];walk_at "pf";exact q4 _ (c4.trans (lU.set g4))
structure GA(Γ:bY)(br:Option (List Nat->PR U))(d:Nat):Prop extends GR3 Γ d where
 cl:Γ "Reader.sign_class"=O1 d
 bk:Γ "Reader.bracket"=VX br d
def NO(Γ:bY)(br:Option (List Nat->PR U))(d:Nat)(G:GA Γ br d):Keeps Γ j9 0 (As [] (r6 br) d):=by
 rintro us S Q ⟨r,x,rest,rfl,hS,hx,hl,q⟩;unfold j9;walk_at "pf";dsimp[cu hS];refine#[#[by first|trivial|rfl,rfl],ca G.sees #[r,x,rest,d,_,rfl,hS,hx,hl,?_]];try walk_at "pf"
 unfold r6 at q;by_cases e1:cF [40] rest=ζ
 .dsimp[e1,if_true] at q ⊢
  walk_at "pf";dsimp[cu hS,true_and];exact#[rfl,ca G.bk #[r,x,rest,rfl,hS,hx,hl,e1,q]]
 .have e1':cF [40] rest=ϑ:=by simpa using e1
  dsimp[e1',aw,if_false] at q ⊢;walk_at "pf";dsimp[cu hS,true_and];refine#[rfl,ca G.sees #[r,x,rest,d,_,rfl,hS,hx,hl,?_]];try walk_at "pf"
  by_cases e2:cF [91] rest=ζ
  .dsimp[e2,if_true] at q ⊢
   walk_at "pf";dsimp[cu hS,true_and];refine#[rfl,ca G.cl #[r,x,rest,rfl,hS,hx,hl,?_]];rw[yh] at q;rwa[q.bind (toU:=U.str) (lU.refl hS) λa r1 S1 _ c1 q1=>?_]
   exact#[#v[],q1 S1 c1]
  .have e2':cF [91] rest=ϑ:=by simpa using e2
   dsimp[e2',aw,if_false] at q ⊢;walk_at "pf";dsimp[cu hS,true_and];refine#[rfl,ca G.sees #[r,x,rest,d,_,rfl,hS,hx,hl,?_]];try walk_at "pf"
   by_cases e3:cF [46] rest=ζ
   .dsimp[e3,if_true] at q ⊢
    walk_at "pf";dsimp[cu hS,true_and];refine#[rfl,ca G.pass #[[46],d,r,x,rest,rfl,hS,hx,hl,?_]];rwa[q.bind (lU.refl hS) λa r1 S1 _ c1 q1=>?_]
    walk_at "pf";refine ca G.DB #[[10],rfl,λS2 x2=>?_];try walk_at "pf"
    exact#[#v[],q1 S2 (c1.trans (x2.chg c1.2.1))]
   .have e3':cF [46] rest=ϑ:=by simpa using e3
    dsimp[e3',aw,if_false] at q ⊢;walk_at "pf";dsimp[cu hS,true_and];refine#[rfl,ca G.ws #[MO,r,x,rest,rfl,hS,hx,hl,?_]];rw[yh] at q;rwa[q.bind (lU.refl hS) λa r1 S1 _ c1 q1=>?_]
    unfold lg;exact#[#v[],q1 S1 c1]
abbrev REP:List (List Nat×List Nat):=[([42],lG),([43],o7),([63],kH)]
def JV(h:[42,43,63].contains c=ζ):REP.lookup [c]=ξ (if c=42 then lG else if c=43 then o7 else kH):=by
 have:c=42\/c=43\/c=63:=by simpa using h
 rcases this with rfl|rfl|rfl<;>rfl
structure GP(Γ:bY)(br:Option (List Nat->PR U))(d:Nat):Prop extends GA Γ br d where
 at_:Γ "Reader.atom"=As [] (r6 br) d
def yj{Γ:bY}{r d:Nat}{x:List Nat}{S:bG}{fin:Env->bG->Prop}{e0:Option U}(hl:x.length<=1000)
  (cW:Env->bG->(Bool->bG->Prop)->Prop) (bW:Env->bG->(Env->bG->Prop)->Prop)
  (hc:∀t S1 rest k,S1[r]?=ξ (mJ x rest d)->rest<:+x->k (cF [42,43,63] rest) S1->cW [e0,ξ t] S1 k)
  (hb:∀t S1 c rest k,S1[r]?=ξ (mJ x (c::rest) d)->(c::rest)<:+x->[42,43,63].contains c=ζ->(∀S2,lU r (mJ x rest d) S1 S2->k [e0,ξ (JT c t)] S2)->bW [e0,ξ t] S1 k):
  ∀(rest:List Nat)(t:U)(S1:bG),rest<:+x->lU r (mJ x rest d) S S1->(∀S2,lU r (mJ x (mr t rest).2 d) S S2->fin [e0,ξ (mr t rest).1] S2)->zk cW bW fin (rest.length+1) [e0,ξ t] S1
 |[],t,S1,hx,c1,hf=>by
  rwa[hc t S1 [] _ c1.2.1 hx ?_];dsimp[cF,aw,if_false];erw[hf S1 c1]
 |c::rest,t,S1,hx,c1,hf=>by
  rwa[hc t S1 _ _ c1.2.1 hx ?_];by_cases e:[42,43,63].contains c=ζ
  .dsimp[cF,e,if_true]
   rwa[hb t S1 c rest _ c1.2.1 hx e λS2 c2=>?_]
   refine yj (Γ:=Γ) hl cW bW hc hb rest _ S2 (zE hx) (c1.trans c2) ?_;have:mr t (c::rest)=mr (JT c t) rest:=by
    conv=>lhs;unfold mr
    rw[if_pos e]
   rw[this] at hf;erw[hf]
  .have e':[42,43,63].contains c=ϑ:=by simpa using e
   dsimp[cF,e',aw,if_false];have:mr t (c::rest)=(t,c::rest):=by
    unfold mr;rw[if_neg e]
   rw[this] at hf;erw[hf S1 c1]
def Gs(Γ:bY)(br:Option (List Nat->PR U))(d:Nat)(hbo:oy br)(G:GP Γ br d):Keeps Γ iW 1 (As [] (jB br) d):=by
 rintro us S Q ⟨r,x,rest,rfl,hS,hx,hl,q⟩;unfold iW;walk_at "pl";dsimp[cu hS,G.at_];refine#[#[by first|trivial|rfl,rfl],r,x,rest,rfl,hS,hx,hl,?_];unfold jB at q;refine q.EO (lU.refl hS) λt r1 S1 e1 c1 q1=>?_
 have hs1:=v5 hbo rest;rw[e1] at hs1;have hx1:=hs1.1.trans hx;refine#[r1.length+1,yj (Γ:=Γ) (S:=S) hl _ _ ?_ ?_ r1 t S1 hx1 c1 ?_]
 .intro t2 S2 rest2 k g2 hx2 hk
  try walk_at "pl"
  dsimp[cu g2,G.sees,true_and];refine#[rfl,r,x,rest2,d,_,rfl,g2,hx2,hl,?_];try walk_at "pl"
  erw[hk]
 .intro t2 S2 c rest2 k g2 hx2 hc hk
  try walk_at "pl"
  dsimp[cu g2,G.pass,true_and];refine#[rfl,[42,43,63],d,r,x,_,rfl,g2,hx2,hl,?_];have e2:eF [42,43,63] (c::rest2)= .ok (c,rest2):=by unfold eF;dsimp only;rw[if_pos hc]
  show eG r x d S2 _ (mapR lg (eF [42,43,63] (c::rest2)))
  rw[e2]
  intro S3 c3;unfold lg;rw[zg]
  have:=JV hc;unfold REP at this;rw[this,aW]
  exact#[#v[],hk S3 c3]
 .intro S2 c2
  try walk_at "pl"
  erw[q1 S2 c2]
def tG(hp:∀rest,mK rest (p rest))
  (cW:Env->bG->(Bool->bG->Prop)->Prop) (bW:Env->bG->(Env->bG->Prop)->Prop) (h0:S.length<=n0) (h1:n0≠r)
  (hc:∀S1 rest k,S1[r]?=ξ (mJ x rest d)->rest<:+x->k (!stop rest) S1->cW env S1 k)
  (hb:∀S1 rest acc k,S1[r]?=ξ (mJ x rest d)->S1[n0]?=ξ (.lst acc)->acc.length<=2000->rest<:+x->stop rest=ϑ->eG r x d S1 (λt S2=>k env (S2.set n0 (.lst (acc++[t])))) (p rest)->bW env S1 k):
  ∀(m:Nat)(acc:List U)(rest:List Nat)(S1:bG),rest.length<m->acc.length+rest.length<=2000->rest<:+x->lU r (mJ x rest d) S S1->S1[n0]?=ξ (.lst acc) ->
   (∀ts r2 S2,dI stop p m acc rest=.ok (ts,r2)->lU r (mJ x r2 d) S S2->r2<:+x->S2[n0]?=ξ (.lst ts)->ts.length<=2000->acc.length<=ts.length->fin env S2)->(∀r',dI stop p m acc rest=.error r'->False) ->
   zk cW bW fin m env S1
 |0,_,_,_,h,_,_,_,_,_,_=>∅
 |m+1,acc,rest,S1,h,ht,hx,c1,hn,hf,he=>by
  rwa[hc S1 rest _ c1.2.1 hx ?_];by_cases e:stop rest=ζ
  .dsimp[e,bH,aw,if_false]
   erw[hf acc rest S1 (by unfold dI;rw[if_pos e]) c1 hx hn ∅ (aq _)]
  .have e':stop rest=ϑ:=by simpa using e
   dsimp[e',bV,if_true];rwa[hb S1 rest acc _ c1.2.1 hn ∅ hx e' ?_];have hs:=hp rest;cases q:p rest with
   |error r'=>
    erw[he r' (by unfold dI;rw[if_neg e,q];rfl)]
   |ok v=>
    let#[t,r1]:=v;rw[q] at hs;intro S2 c2;have hE:dI stop p (m+1) acc rest=dI stop p m (acc++[t]) r1:=by
     conv=>lhs;unfold dI
     rw[if_neg e,q];rfl
    have hn2:S2[n0]?=ξ (.lst acc):=(c2.2.2 n0 (aT hn) h1).trans hn;have c3:lU r (mJ x r1 d) S (S2.set n0 (.lst (acc++[t]))):=by
     have c12:=c1.trans c2;refine#[~~~c12.1,%[ak h1|c12.2.1],λm hm ne=>?_];rw[ak ∅]
     erw[c12.2.2 m hm ne]
    refine tG hp cW bW h0 h1 hc hb m (acc++[t]) r1 _ (by have:=hs.2;omega) (by simp;have:=hs.2;omega) (hs.1.trans hx) c3 (gs hn2) (λts r2 S3 e3 c4 h3 h4 h5 h6=>hf ts r2 S3 (%[hE|e3]) c4 h3 h4 h5 (by simp at h6;omega)) (λr' e3=>he r' (%[hE|e3]))
structure GW(Γ:bY)(br:Option (List Nat->PR U))(d:Nat):Prop extends GP Γ br d where
 rp:Γ "Reader.repeat"=As [] (jB br) d
 jn:Γ "joined"=lF
def JW{x rest:List Nat}(h:rest<:+x):decide (((x.length-rest.length:Nat):Int)<x.length)= !rest.isEmpty:=by
 have:=O0 h;cases rest with
 |nil=>simp at this ⊢
 |cons a b=>dsimp[ne_eq,reduceCtorEq,not_false_eq_true,iff_true] at this;rw[decide_eq_true this];rfl
def R8(Γ:bY)(br:Option (List Nat->PR U))(d:Nat)(hbo:oy br)(G:GW Γ br d):Keeps Γ kP 1 (As [] (xc br) d):=by
 rintro us S Q ⟨r,x,rest,rfl,hS,hx,hl,q⟩;unfold kP;walk_at "pl";dsimp[cu hS,G.rp];refine#[#[by first|trivial|rfl,rfl],r,x,rest,rfl,hS,hx,hl,?_];unfold xc at q;refine q.EO (lU.refl hS) λt r1 S1 e1 c1 q1=>?_
 have hs1:=n8 hbo rest;rw[e1] at hs1;have hx1:=hs1.1.trans hx;have hr1:r1.length<=1000:=aF hx1.length_le hl;refine#[#v[],?_];have hrl:=aT hS;have c2:lU r (mJ x r1 d) S (S1++[.lst [t]]):=c1.trans ((Ext.app _).chg c1.2.1);have hn:(S1++[SO.lst [t]])[S1.length]?=ξ (.lst [t]):=by simp
 have hne:S1.length≠r:=by have:=c1.1;omega
 refine#[r1.length+1,tG (S:=S) (n0:=S1.length) (stop:=jC) (p:=jB br) (n8 hbo) _ _ c1.1 hne ?_ ?_ (r1.length+1) [t] r1 _ ∅ ((·)) hx1 c2 hn ?_ ?_]
 .intro S2 rest2 k g2 hx2 hk
  try walk_at "pl"
  dsimp[<-jd,zD g2,Bu g2];try walk_at "pl"
  refine#[∅,?_];dsimp[JW hx2];unfold jC at hk;cases rest2 with
  |nil=>simpa using hk
  |cons c t2=>
   dsimp[HA,bV,if_true];dsimp[cu g2,G.sees,true_and];refine#[rfl,r,x,_,d,_,rfl,g2,hx2,hl,?_];try walk_at "pl"
   simpa using hk
 .intro S2 rest2 acc k g2 hn2 ha hx2 hst hk
  try walk_at "pl"
  dsimp[hn2,cu g2,G.rp,true_and];try walk_at "pl"
  refine#[rfl,r,x,rest2,rfl,g2,hx2,hl,?_];cases z:jB br rest2 with
  |error r'=>rw[z] at hk;erw[hk]
  |ok v=>
   rw[z] at hk;intro S3 c3;have hn3:S3[S1.length]?=ξ (.lst acc):=(c3.2.2 _ (aT hn2) hne).trans hn2;dsimp[hn3];try walk_at "pl"
   exact#[∅,hk S3 c3]
 .intro ts r2 S2 e2 c3 hx2 hn2 hts ht1
  rw[e2] at q1;try walk_at "pl"
  dsimp[G.jn];refine#[DD,S1.length,ts,rfl,hn2,?_,∅,q1 S2 c3];intro z;rw[z] at ht1;simp at ht1
 .intro r' e2
  rw[e2] at q1;erw[q1]
structure GC(Γ:bY)(br:Option (List Nat->PR U))(d:Nat):Prop extends GW Γ br d where
 rw_:Γ "Reader.row"=As [] (xc br) d
def Gu(Γ:bY)(br:Option (List Nat->PR U))(d:Nat)(hbo:oy br)(G:GC Γ br d):Keeps Γ iV 1 (As [] (iC br) d):=by
 rintro us S Q ⟨r,x,rest,rfl,hS,hx,hl,q⟩;unfold iV;walk_at "pl";dsimp[cu hS,G.rw_];refine#[#[by first|trivial|rfl,rfl],r,x,rest,rfl,hS,hx,hl,?_];unfold iC at q;refine q.EO (lU.refl hS) λt r1 S1 e1 c1 q1=>?_
 have hs1:=zG hbo rest;rw[e1] at hs1;have hx1:=hs1.1.trans hx;have hr1:r1.length<=1000:=aF hx1.length_le hl;refine#[#v[],?_];have hrl:=aT hS;have c2:lU r (mJ x r1 d) S (S1++[.lst [t]]):=c1.trans ((Ext.app _).chg c1.2.1);have hn:(S1++[SO.lst [t]])[S1.length]?=ξ (.lst [t]):=by simp
 have hne:S1.length≠r:=by have:=c1.1;omega
 refine#[r1.length+1,tG (S:=S) (n0:=S1.length) (stop:=stopOr) (p:=R6 br) (JU hbo) _ _ c1.1 hne ?_ ?_ (r1.length+1) [t] r1 _ ∅ ((·)) hx1 c2 hn ?_ ?_]
 .intro S2 rest2 k g2 hx2 hk
  try walk_at "pl"
  dsimp[cu g2,G.sees,true_and];refine#[rfl,r,x,_,d,_,rfl,g2,hx2,hl,?_];try walk_at "pl"
  simpa[stopOr] using hk
 .intro S2 rest2 acc k g2 hn2 ha hx2 hst hk
  try walk_at "pl"
  dsimp[cu g2,G.pass,true_and];refine#[rfl,[124],d,r,x,rest2,rfl,g2,hx2,hl,?_];unfold R6 at hk;rwa[eG.bind (f:=λ_ r=>xc br r) hk (lU.refl g2) λa r3 S3 e3 c3 q3=>?_]
  have hs3:=hU [124] rest2;rw[e3] at hs3;have hx3:=hs3.1.trans hx2;have g3:=c3.2.1;have hn3:S3[S1.length]?=ξ (.lst acc):=(c3.2.2 _ (aT hn2) hne).trans hn2;dsimp[hn3,cu g3,G.rw_,true_and];try walk_at "pl"
  refine#[rfl,r,x,r3,rfl,g3,hx3,hl,?_];cases z:xc br r3 with
  |error r'=>rw[z] at q3;erw[q3]
  |ok v=>
   rw[z] at q3;intro S4 c4;have hn4:S4[S1.length]?=ξ (.lst acc):=(c4.2.2 _ (aT hn3) hne).trans hn3;dsimp[hn4];try walk_at "pl"
   exact#[∅,q3 S4 (c3.trans c4)]
 .intro ts r2 S2 e2 c3 hx2 hn2 hts ht1
  rw[e2] at q1;try walk_at "pl"
  dsimp[G.jn];refine#[T7,S1.length,ts,rfl,hn2,?_,∅,q1 S2 c3];intro z;rw[z] at ht1;simp at ht1
 .intro r' e2
  rw[e2] at q1;erw[q1]
abbrev oa:Spec:=λus S Q=>∃r x,us=[.loc r,.str x]/\S[r]?=ξ (.ins "Reader" [])/\Q .b7 (S.set r (mJ x x 0))
def JX(Γ:bY):Keeps Γ j7 0 oa:=by
 rintro us S Q ⟨r,x,rfl,hS,q⟩;unfold j7;walk_at "pl";have hr:=aT hS;dsimp[hS,bZ,iy];refine#[#v[],?_];have g1:=gs (o':=SO.ins "Reader" [("text",U.str x)]) hS;generalize hS1:S.set r (SO.ins "Reader" [("text",U.str x)])=S1 at g1;dsimp[g1,bZ];refine#[#v[],?_];have g2:=gs (o':=SO.ins "Reader" (iy "at" (U.int 0) [("text",U.str x)])) g1;generalize hS2:S1.set r (SO.ins "Reader" (iy "at" (U.int 0) [("text",U.str x)]))=S2 at g2;dsimp[g2,bZ];refine#[by simp[iy],?_];subst hS2;subst hS1;rw[tX,tX]
 have e:SO.ins "Reader" (iy "depth" (.int 0) (iy "at" (.int 0) [("text",.str x)]))=mJ x x 0:=by
  unfold mJ;rw[bL]
  rfl
 simpa[<-e] using q
abbrev DE:Spec:=λus S Q=>∃x,us=[.str x]/\x.length<=1000/\match vZ x with
 |.ok (t,_)=>∀S',Ext S S'->Q t S'
 |.error r=>False
def NP(Γ:bY)(h1:Γ "Reader.__init__"=oa)(h2:Γ "Reader.choice"=As [] (iC (uf 6)) 0):Keeps Γ zq 2 DE:=by
 rintro us S Q ⟨x,rfl,hl,q⟩;unfold zq;walk_at "pl";dsimp[h1,h2];have hn:(S++[SO.ins "Reader" []])[S.length]?=ξ (.ins "Reader" []):=by simp
 refine#[S.length,x,rfl,hn,rfl,?_];try walk_at "pl"
 have g1:=gs (o':=mJ x x 0) hn;have x1:Old S.length S ((S++[SO.ins "Reader" []]).set S.length (mJ x x 0)):=by
  refine#[#v[],λn h ne=>?_];rw[ak (cJ ne),ao h]
 generalize (S++[SO.ins "Reader" []]).set S.length (mJ x x 0)=S1 at g1 x1;dsimp[cu g1,true_and];have toE:∀{S'},Old S.length S S'->Ext S S':=λo=>#[o.1,λn h=>o.2 n h ∅]
 refine#[rfl,S.length,x,x,rfl,g1,bK _,hl,?_];unfold vZ at q;cases z:iC (uf 6) x with
 |error r'=>
  rw[z] at q;erw[q]
 |ok v=>
  let#[t,r1]:=v;have hs:=v7 (tF 6) x;rw[z] at q hs;intro S2 c2;have g2:=c2.2.1;dsimp[<-jd,Bu g2];try walk_at "pl"
  refine#[∅,?_];dsimp[JW hs.1];dsimp[bindR] at q;cases r1 with
  |nil=>
   dsimp[List.isEmpty_nil,bH,aw,if_false];try walk_at "pl"
   simp at q;erw[q S2 (toE (x1.trans c2.old))]
  |cons c t2=>
   dsimp[HA,bV,if_true];dsimp[reduceCtorEq,if_false] at q
section
variable{d f c:Nat}{r rest:List Nat}
abbrev hd(rest:List Nat)(l:List Nat):Prop:=cF l rest=ζ
end
section
variable{α:Type}
def NQ(h0:0<=i)(h1:i<l.length):∃a,qV l i=ξ a/\a∈l:=by
 obtain⟨n,rfl⟩:∃n:Nat,i=n:=#[i.toNat,∅]
 have h2:n<l.length:=∅
 exact#[l[n],by rw[iz,ab h2],cz h2]
def tH(h0:0<=i)(h1:i<l.length)(h:∀a∈l,r a):opt (qV l i) r:=by
 let#[a,e,m]:=NQ h0 h1;rw[e];erw[h a m]
end
namespace uO
abbrev DG:Spec:=λus S Q=>∃ns k,us=[.sZ ns,.int k]/\ns.length<=1000/\∀m,Q (.int m) S
def NR(Γ:bY):Keeps Γ mh 0 DG:=by
 rintro us S Q ⟨ns,k,rfl,hl,q⟩;unfold mh;walk_at "pl";by_cases h:ns.length=0
 .dsimp[h,bne_self_eq_false,aw,if_false]
  try walk_at "pl"
  erw[q 0]
 .have h':(ns.length !=0)=ζ:=by simpa using h
  dsimp[h',if_true];try walk_at "pl"
  refine#[∅,∅,∅,?_];erw[tH (jr _ ∅) (gE _ ∅) (λa _=>q a)]
abbrev yk:Spec:=λus S Q=>∃ns k,us=[.sZ ns,.int k]/\ns.length<=1000/\∀m:Int,0<=m->m<4294967231->Q (.int m) S
def R9(Γ:bY)(h1:Γ "_law_cell"=DG):Keeps Γ nN 1 yk:=by
 rintro us S Q ⟨ns,k,rfl,hl,q⟩;unfold nN;walk_at "pl";dsimp[h1];refine#[ns,k,rfl,hl,λc=>?_];walk_at "pl";refine#[∅,∅,∅,∅,∅,∅,∅,?_];erw[q _ ∅ ∅]
abbrev JY:Spec:=λus S Q=>us=[]/\∀G,G=SG->Q (.str G) S
def Sa(Γ:bY):Keeps Γ nO 1 JY:=by
 rintro us S Q ⟨rfl,q⟩;unfold nO;walk_at "pl";exact#[⋯,q _ rfl]
end uO
namespace uO
end uO
def mw{cW:Env->bG->(Bool->bG->Prop)->Prop}{bW:Env->bG->(Env->bG->Prop)->Prop}{fin:Env->bG->Prop}(I:Nat->Env->bG->Prop)
  (h:∀n env S k,I n env S->(∀m env' S',m<n->I m env' S'->k env' S')->cW env S (λt S1=>if t=ζ then bW env S1 k else fin env S1)):
  ∀N n env S,n<N->I n env S->zk cW bW fin N env S
 |0,_,_,_,hn,_=>∅
 |N+1,n,env,S,hn,hi=>h n env S _ hi λm env' S' hm hi'=>mw I h N m env' S' ∅ hi'
def ES(I:Nat->Env->bG->Prop)(hg:∀i env S,I i env S->g S)(l:List U)
  (h:∀i u env S k,l[i]?=ξ u->I i env S->(∀env' S',I (i+1) env' S'->k env' S')->turn u env S k) (hf:∀env S,I l.length env S->fin env S):
  ∀n i env S,i+n=l.length->I i env S->vE g turn fin (l.drop i) env S
 |0,i,env,S,e,hi=>by
  rw[jS ∅]
  have:i=l.length:=∅
  subst this;exact#[hg _ _ _ hi,hf _ _ hi]
 |n+1,i,env,S,e,hi=>by
  have hlt:i<l.length:=∅
  rw[dM hlt]
  exact#[hg _ _ _ hi,h i _ env S _ (ab hlt) hi λenv' S' hi'=>ES I hg l h hf n (i+1) env' S' ∅ hi']
def dy{g:bG->Prop}{turn:U->Env->bG->(Env->bG->Prop)->Prop}{fin:Env->bG->Prop}(I:Nat->Env->bG->Prop)(hg:∀i env S,I i env S->g S)(l:List U)
  (h:∀i u env S k,l[i]?=ξ u->I i env S->(∀env' S',I (i+1) env' S'->k env' S')->turn u env S k) (hf:∀env S,I l.length env S->fin env S)
  {env:Env}{S:bG} (hi:I 0 env S):vE g turn fin l env S:=ES I hg l h hf l.length 0 env S ∅ hi
def o9{n i:Nat}{u:U}(h:((cv n).map λk=>U.int (k:Nat))[i]?=ξ u):u=.int i/\i<n:=by
 rw[aC] at h;have hl:i<n:=by
  rcases ur i n with z|z
  .erw[z]
  .rw[dO (~~~z)] at h;simp at h
 rw[iS hl] at h;simp at h;exact#[h.symm,hl]
namespace uO
end uO
abbrev v8(br:Option (List Nat->PR U))(x:List Nat)(t:U):Prop:=∀rest,r6 br (x++rest)= .ok (t,rest)
abbrev NS(t:U)(ms:List Nat):U:=ms.foldl (λt c=>JT c t) t
abbrev v9(br:Option (List Nat->PR U))(x:List Nat)(t:U):Prop:=∃a ta ms,x=a++ms/\v8 br a ta/\(∀c∈ms,c∈[42,43,63])/\t=NS ta ms
def ET:∀(ms:List Nat)(t:U)(rest:List Nat),(∀c∈ms,c∈[42,43,63])->cF [42,43,63] rest=ϑ->mr t (ms++rest)=(NS t ms,rest)
 |[],t,rest,_,h=>by
  cases rest with
  |nil=>rfl
  |cons c r=>
   have h:[42,43,63].contains c=ϑ:=h;rw[jj,mr,h]
   rfl
 |m::ms,t,rest,hm,h=>by
  have e:[42,43,63].contains m=ζ:=gS.mpr (hm m (aQ ..));rw[iO,mr,if_pos e,ET ms _ rest (λc hc=>hm c (ay _ hc)) h]
  rfl
def JZ(h:v9 br x t)(hr:cF [42,43,63] rest=ϑ):jB br (x++rest)= .ok (t,rest):=by
 let#[a,ta,ms,rfl,ha,hm,rfl]:=h;unfold jB;rw[bx,ha (ms++rest)]
 dsimp[bindR];rw[ET ms ta rest hm hr]
def Gv(hb:oy br)(h:v8 br x t):∃c r,x=c::r/\c∉[42,43,63,124,41]:=by
 have h0:=h [];have hs:=v5 hb (x++[]);rw[h0] at hs;cases x with
 |nil=>have:=hs.2;simp at this
 |cons c r=>
  refine#[c,r,rfl,λhc=>?_];have e1:cF [40] (c::r++[])=ϑ:=(by decide:∀c∈[42,43,63,124,41],[40].contains c=ϑ) c hc;have e2:cF [91] (c::r++[])=ϑ:=(by decide:∀c∈[42,43,63,124,41],[91].contains c=ϑ) c hc;have e3:cF [46] (c::r++[])=ϑ:=(by decide:∀c∈[42,43,63,124,41],[46].contains c=ϑ) c hc;have e4:cF [92] (c::r++[])=ϑ:=(by decide:∀c∈[42,43,63,124,41],[92].contains c=ϑ) c hc;unfold r6 at h0;rw[e1,e2,e3] at h0;dsimp[aw,if_false] at h0;rw[Bx e4] at h0;have e5:eF (eD MO) (c::r++[])= .error (c::r++[]):=by
   have hn:(eD MO).contains c=ϑ:=by
    have:c∈MO:=(by decide:∀c∈[42,43,63,124,41],c∈MO) c hc;unfold eD;dsimp[List.contains_eq_mem,decide_eq_false_iff_not];intro q;have:=(fq.mp q).2
    simp_all
   show(if (eD MO).contains c=ζ then _ else _)=_
   rw[if_neg (by rw[hn];simp)]
   rfl
  rw[e5] at h0;cases h0
def BC(hb:oy br)(h:v9 br x t):∃c r,x=c::r/\c∉[42,43,63,124,41]:=by
 let#[a,ta,ms,rfl,ha,hm,rfl]:=h;let#[c,r,rfl,hc]:=Gv hb ha;exact#[c,r++ms,rfl,hc]
inductive r8(br:Option (List Nat->PR U)):List Nat->List U->Prop
 |nil:r8 br [] []
 |cons{x y:List Nat}{t:U}{ts:List U}:v9 br x t->r8 br y ts->r8 br (x++y) (t::ts)
def ug(hb:oy br)(h:r8 br y ts)(hr:jC rest=ζ):cF [42,43,63] (y++rest)=ϑ:=by
 cases h with
 |nil=>
  cases rest with
  |nil=>rfl
  |cons c r=>
   have:[124,41].contains c=ζ:=by simpa[jC,cF] using hr
   show [42,43,63].contains c=ϑ
   simp at this ⊢;omega
 |cons a b=>
  let#[c,r,rfl,hc]:=BC hb a;show [42,43,63].contains c=ϑ;simp at hc ⊢;omega
def ym(hb:oy br)(hr:jC rest=ζ):∀{y:List Nat}{ts:List U},r8 br y ts->∀(n:Nat)(acc:List U),y.length<n->dI jC (jB br) n acc (y++rest)= .ok (acc++ts,rest)
 |_,_,.nil,n,acc,hn=>by
  cases n with
  |zero=>omega
  |succ n=>rw[dI,jj,if_pos hr,bT]
 |_,_,.cons (x:=x) (y:=y) (t:=t) (ts:=ts) a b,n,acc,hn=>by
  let#[c,r,rfl,hc]:=BC hb a;cases n with
  |zero=>omega
  |succ n=>
   have hs:jC (c::r++y++rest)=ϑ:=by
    unfold jC;have:[124,41].contains c=ϑ:=by simp at hc ⊢;omega
    show(ϑ||[124,41].contains c)=ϑ
    rw[this];rfl
   rw[dI,if_neg (by rw[hs];simp),bx,JZ a (ug hb b hr)]
   dsimp[bindR];rw[ym hb hr b n (acc++[t]) (by simp at hn;omega),bx]
   rfl
abbrev wa(br:Option (List Nat->PR U))(x:List Nat)(t:U):Prop:=∃ts,ts≠[]/\r8 br x ts/\t=pO DD ts
def J0(hb:oy br)(h:wa br x t)(hr:jC rest=ζ):xc br (x++rest)= .ok (t,rest):=by
 let#[ts,hn,h,rfl]:=h;cases h with
 |nil=>erw[absurd rfl hn]
 |@cons x y t ts a b=>
  unfold xc;rw[bx,JZ a (ug hb b hr)]
  dsimp[bindR];rw[ym hb hr b _ [t] ((·))]
  rfl
inductive wb(br:Option (List Nat->PR U)):List Nat->List U->Prop
 |nil:wb br [] []
 |cons{x y:List Nat}{t:U}{ts:List U}:wa br x t->wb br y ts->wb br (124::x++y) (t::ts)
abbrev Gx(br:Option (List Nat->PR U))(x:List Nat)(t:U):Prop:=∃a b t0 ts,x=a++b/\wa br a t0/\wb br b ts/\t=pO T7 (t0::ts)
abbrev J1(rest:List Nat):Prop:=rest=[]\/∃r,rest=41::r
def yn(h:wb br y ts)(hr:J1 rest):jC (y++rest)=ζ:=by
 cases h with
 |nil=>rcases hr with rfl|⟨r,rfl⟩<;>rfl
 |cons a b=>rfl
def yo(hb:oy br)(hr:J1 rest):∀{y:List Nat}{ts:List U},wb br y ts->∀(n:Nat)(acc:List U),y.length<n->dI stopOr (R6 br) n acc (y++rest)= .ok (acc++ts,rest)
 |_,_,.nil,n,acc,hn=>by
  have e:stopOr rest=ζ:=by rcases hr with rfl|⟨r,rfl⟩<;>rfl
  cases n with
  |zero=>omega
  |succ n=>rw[dI,jj,if_pos e,bT]
 |_,_,.cons (x:=x) (y:=y) (t:=t) (ts:=ts) a b,n,acc,hn=>by
  cases n with
  |zero=>omega
  |succ n=>
   have e:R6 br (124::x++y++rest)= .ok (t,y++rest):=by
    unfold R6;have:eF [124] (124::x++y++rest)= .ok (124,x++(y++rest)):=by
     rw[bx];rfl
    rw[this]
    dsimp[bindR];erw[J0 hb a (yn b hr)]
   rw[dI,if_neg (by simp[stopOr,cF]),e]
   dsimp[bindR];rw[yo hb hr b n (acc++[t]) (by simp at hn;omega),bx]
   rfl
def yp(hb:oy br)(h:Gx br x t)(hr:J1 rest):iC br (x++rest)= .ok (t,rest):=by
 let#[a,b,t0,ts,rfl,ha,hb',rfl]:=h;unfold iC;rw[bx,J0 hb ha (yn hb' hr)]
 dsimp[bindR];rw[yo hb hr hb' _ [t0] ((·))]
 rfl
def EU(h:Gx (uf k) x t):v8 (uf (k+1)) (40::(x++[41])) t:=by
 intro rest;unfold r6;rw[if_pos (by rfl)]
 unfold T8 uf;show bindR (eF [40] (40::(x++[41]++rest))) _=_;have e1:eF [40] (40::(x++[41]++rest))= .ok (40,x++(41::rest)):=by
  rw[bx];rfl
 rw[e1]
 dsimp[bindR];rw[yp (tF k) h (.inr #[rest,rfl])]
 rfl
def NT(h:Gx (uf 6) x t):vZ x=.ok (t,[]):=by
 unfold vZ;have:=yp (tF 6) h (rest:=[]) (.inl rfl);rw[bT] at this;rw[this]
 rfl
end PL
namespace PL.ni
inductive Mk where|star|plus|may
inductive Tr where|one (n:Nat) (l:List Nat)|row (a b:Tr)|or (a b:Tr)|rep (m:Mk) (a:Tr)
noncomputable section
abbrev null:Tr->Bool
 |.one _ _=>ϑ
 |.row a b=>null a&&null b
 |.or a b=>null a||null b
 |.rep .plus a=>null a
 |.rep _ _=>ζ
abbrev eY(K:List Tr):Bool:=K.all null
abbrev FS:Tr->Nat->Bool
 |.one n _,p=>p==n
 |.row a b,p=>FS a p||(null a&&FS b p)
 |.or a b,p=>FS a p||FS b p
 |.rep _ a,p=>FS a p
abbrev om:List Tr->Nat->Bool
 |[],_=>ϑ
 |t::K,p=>FS t p||(null t&&om K p)
abbrev IN:Tr->Nat->Bool
 |.one n _,p=>p==n
 |.row a b,p=>IN a p||IN b p
 |.or a b,p=>IN a p||IN b p
 |.rep _ a,p=>IN a p
abbrev sgn:Tr->Nat->List Nat
 |.one _ l,_=>l
 |.row a b,p=>if IN a p then sgn a p else sgn b p
 |.or a b,p=>if IN a p then sgn a p else sgn b p
 |.rep _ a,p=>sgn a p
abbrev more:Mk->Tr->List Tr
 |.may,_=>[]
 |_,a=>[.rep .star a]
abbrev cont:Tr->Nat->List Tr
 |.one _ _,_=>[]
 |.row a b,p=>if IN a p then cont a p++[b] else cont b p
 |.or a b,p=>if IN a p then cont a p else cont b p
 |.rep m a,p=>cont a p++more m a
abbrev ct(t:Tr)(p:Nat):List Tr:=if p=0 then [t] else cont t p
abbrev dF:Tr->Nat->List (List Tr)
 |.one _ l,c=>if l.contains c then [[]] else []
 |.or a b,c=>dF a c++dF b c
 |.row a b,c=>(dF a c).map (·++[b])++if null a then dF b c else []
 |.rep m a,c=>(dF a c).map (·++more m a)
abbrev dR:List Tr->Nat->List (List Tr)
 |[],_=>[]
 |t::K,c=>(dF t c).map (·++K)++if null t then dR K c else []
abbrev size:Tr->Nat
 |.one _ _=>1
 |.row a b=>size a+size b
 |.or a b=>size a+size b
 |.rep _ a=>size a
abbrev bM:Tr->Nat
 |.one _ _=>0
 |.row a b=>max (bM a) (bM b)+1
 |.or a b=>max (bM a) (bM b)+1
 |.rep _ a=>bM a+1
abbrev oo:Nat->Tr->Prop
 |n,.one k _=>k=n
 |n,.row a b=>oo n a/\oo (n+size a) b
 |n,.or a b=>oo n a/\oo (n+size a) b
 |n,.rep _ a=>oo n a
abbrev pb:Tr->List (List Nat)
 |.one _ l=>[l]
 |.row a b=>pb a++pb b
 |.or a b=>pb a++pb b
 |.rep _ a=>pb a
end
def gh:∀t,(pb t).length=size t
 |.one _ _=>rfl
 |.row a b=>by simp[pb,size,gh a,gh b]
 |.or a b=>by simp[pb,size,gh a,gh b]
 |.rep _ a=>by simp[pb,size,gh a]
def fB:∀{t n p},oo n t->(IN t p=ζ↔n<=p/\p<n+size t)
 |.one k l,n,p,h=>by
  have h:k=n:=h;subst h;dsimp[IN,size,beq_iff_eq];omega
 |.row a b,n,p,h=>by
  dsimp[IN,size,bq,fB h.1,fB h.2];omega
 |.or a b,n,p,h=>by
  dsimp[IN,size,bq,fB h.1,fB h.2];omega
 |.rep m a,n,p,h=>fB (t:=a) h
def tI:∀{t n p},oo n t->IN t p=ζ->(pb t)[p-n]?=ξ (sgn t p)
 |.one k l,n,p,h,i=>by
  have h:k=n:=h;subst h;have:p=k:=by simpa[IN] using i
  simp[this,pb,sgn]
 |.row a b,n,p,h,i=>by
  have e1:=fB (p:=p) h.1;have e2:=fB (p:=p) h.2;have l1:=gh a;dsimp[pb,sgn];by_cases z:IN a p=ζ
  .rw[if_pos z,ao (by have:=e1.mp z;omega)];erw[tI h.1 z]
  .have z2:IN b p=ζ:=by simpa[IN,z] using i
   have:=e2.mp z2;rw[if_neg z,ax ∅,<-tI h.2 z2]
   congr 1;omega
 |.or a b,n,p,h,i=>by
  have e1:=fB (p:=p) h.1;have e2:=fB (p:=p) h.2;have l1:=gh a;dsimp[pb,sgn];by_cases z:IN a p=ζ
  .rw[if_pos z,ao (by have:=e1.mp z;omega)];erw[tI h.1 z]
  .have z2:IN b p=ζ:=by simpa[IN,z] using i
   have:=e2.mp z2;rw[if_neg z,ax ∅,<-tI h.2 z2]
   congr 1;omega
 |.rep m a,n,p,h,i=>tI (t:=a) h i
def gC(h:oo n a/\oo (n+size a) b)(i:IN b p=ζ):¬IN a p=ζ:=λz=>by
 have:=(fB h.1).mp z;have:=(fB h.2).mp i;omega
def jD:∀{t p},FS t p=ζ->IN t p=ζ
 |.one k l,p,h=>h
 |.row a b,p,h=>by
  dsimp[FS,bq,ar] at h;dsimp[IN,bq];erw[h.imp jD λz=>jD z.2]
 |.or a b,p,h=>by
  dsimp[FS,bq] at h;dsimp[IN,bq];erw[h.imp jD jD]
 |.rep m a,p,h=>jD (t:=a) h
def mz:∀{K L:List Tr}{p:Nat},om (K++L) p=(om K p||(eY K&&om L p))
 |[],L,p=>by simp[om,eY]
 |t::K,L,p=>by
  dsimp[iO,om,mz,eY,bQ];cases null t<;>cases FS t p<;>simp
def DH:∀{K L:List Tr}{c:Nat},dR (K++L) c=(dR K c).map (·++L)++if eY K then dR L c else []
 |[],L,c=>by simp[dR,eY]
 |t::K,L,c=>by
  dsimp[iO,dR,DH,eY,bQ];by_cases z:null t=ζ<;>simp[z,eY,aG,cH]
def wd:eY (K++L)=(eY K&&eY L):=by simp[eY]
def J4:om (more m a) p=ζ->FS a p=ζ:=by
 cases m<;>simp[more,om,FS]
def gu:∀{t q p},om (cont t q) p=ζ->IN t p=ζ
 |.one k l,q,p,h=>by simp[cont,om] at h
 |.row a b,q,p,h=>by
  dsimp[cont] at h;dsimp[IN,bq];split at h
  .rw[mz] at h
   dsimp[bq,ar] at h;rcases h with h|⟨_,h⟩
   .erw[.inl (gu h)]
   .exact .inr (jD (by simpa[om] using h))
  .erw[.inr (gu h)]
 |.or a b,q,p,h=>by
  dsimp[cont] at h;dsimp[IN,bq];split at h
  .erw[.inl (gu h)]
  .erw[.inr (gu h)]
 |.rep m a,q,p,h=>by
  dsimp[cont] at h;rw[mz] at h;dsimp[bq,ar] at h;rcases h with h|⟨_,h⟩
  .erw[gu (t:=a) h]
  .erw[jD (t:=a) (J4 h)]
def i8:∀{t n c x},oo n t->(x∈dF t c↔∃p,FS t p=ζ/\c∈sgn t p/\x=cont t p)
 |.one k l,n,c,x,h=>by
  dsimp[dF,FS,sgn,cont,beq_iff_eq];by_cases z:c∈l
  .simp[z]
  .simp[z]
 |.row a b,n,c,x,h=>by
  dsimp[dF,aL,bD,FS,bq,ar];constructor
  .rintro(⟨y,hy,rfl⟩|hy)
   .let#[p,h1,h2,rfl]:=(i8 h.1).mp hy
    have i:=jD h1;exact#[p,.inl h1,by dsimp[sgn,if_pos i];erw[h2],by dsimp[cont,if_pos i]]
   .split at hy
    .rename_i z
     let#[p,h1,h2,rfl]:=(i8 h.2).mp hy;have i:=gC h (jD h1);exact#[p,.inr #[z,h1],by dsimp[sgn,if_neg i];erw[h2],by dsimp[cont,if_neg i]]
    .simp at hy
  .rintro⟨p,h1|⟨z,h1⟩,h2,rfl⟩
   .have i:=jD h1
    dsimp[sgn,if_pos i] at h2;erw[.inl #[_,(i8 h.1).mpr #[p,h1,h2,rfl],by dsimp[cont,if_pos i]]]
   .have i:=gC h (jD h1)
    dsimp[sgn,if_neg i] at h2;rw[if_pos z]
    erw[.inr ((i8 h.2).mpr #[p,h1,h2,by dsimp[cont,if_neg i]])]
 |.or a b,n,c,x,h=>by
  dsimp[dF,aL,FS,bq];constructor
  .rintro(hy|hy)
   .let#[p,h1,h2,rfl]:=(i8 h.1).mp hy
    have i:=jD h1;exact#[p,.inl h1,by dsimp[sgn,if_pos i];erw[h2],by dsimp[cont,if_pos i]]
   .let#[p,h1,h2,rfl]:=(i8 h.2).mp hy
    have i:=gC h (jD h1);exact#[p,.inr h1,by dsimp[sgn,if_neg i];erw[h2],by dsimp[cont,if_neg i]]
  .rintro⟨p,h1|h1,h2,rfl⟩
   .have i:=jD h1
    dsimp[sgn,if_pos i] at h2;erw[.inl ((i8 h.1).mpr #[p,h1,h2,by dsimp[cont,if_pos i]])]
   .have i:=gC h (jD h1)
    dsimp[sgn,if_neg i] at h2;erw[.inr ((i8 h.2).mpr #[p,h1,h2,by dsimp[cont,if_neg i]])]
 |.rep m a,n,c,x,h=>by
  dsimp[dF,bD,FS,sgn,cont];constructor
  .rintro⟨y,hy,rfl⟩
   let#[p,h1,h2,rfl]:=(i8 (t:=a) h).mp hy;exact#[p,h1,h2,rfl]
  .rintro⟨p,h1,h2,rfl⟩
   exact#[_,(i8 (t:=a) h).mpr #[p,h1,h2,rfl],rfl]
def zH:dR [t] c=dF t c:=by simp[dR]
def pd:∀{t n c x q},oo n t->(x∈dR (cont t q) c↔∃p,om (cont t q) p=ζ/\c∈sgn t p/\x=cont t p)
 |.one k l,n,c,x,q,h=>by simp[cont,dR,om]
 |.row a b,n,c,x,q,h=>by
  by_cases z:IN a q=ζ
  .have e:cont (.row a b) q=cont a q++[b]:=by dsimp[cont,if_pos z]
   rw[e,DH,zH]
   dsimp[mz,aL,bD,bq,ar];constructor
   .rintro(⟨y,hy,rfl⟩|hy)
    .let#[p,h1,h2,rfl]:=(pd h.1).mp hy
     have i:=gu h1;exact#[p,.inl h1,by dsimp[sgn,if_pos i];erw[h2],by dsimp[cont,if_pos i]]
    .split at hy
     .rename_i z
      let#[p,h1,h2,rfl]:=(i8 h.2).mp hy;have i:=gC h (jD h1);exact#[p,.inr #[z,by simp[om,h1]],by dsimp[sgn,if_neg i];erw[h2],by dsimp[cont,if_neg i]]
     .simp at hy
   .rintro⟨p,h1|⟨z,h1⟩,h2,rfl⟩
    .have i:=gu h1
     dsimp[sgn,if_pos i] at h2;erw[.inl #[_,(pd h.1).mpr #[p,h1,h2,rfl],by dsimp[cont,if_pos i]]]
    .have h1:FS b p=ζ:=by simpa[om] using h1
     have i:=gC h (jD h1);dsimp[sgn,if_neg i] at h2;rw[if_pos z]
     erw[.inr ((i8 h.2).mpr #[p,h1,h2,by dsimp[cont,if_neg i]])]
  .have e:cont (.row a b) q=cont b q:=by dsimp[cont,if_neg z]
   rw[e,pd h.2]
   constructor
   .rintro⟨p,h1,h2,rfl⟩
    have i:=gC h (gu h1);exact#[p,h1,by dsimp[sgn,if_neg i];erw[h2],by dsimp[cont,if_neg i]]
   .rintro⟨p,h1,h2,rfl⟩
    have i:=gC h (gu h1);dsimp[sgn,if_neg i] at h2;exact#[p,h1,h2,by dsimp[cont,if_neg i]]
 |.or a b,n,c,x,q,h=>by
  by_cases z:IN a q=ζ
  .have e:cont (.or a b) q=cont a q:=by dsimp[cont,if_pos z]
   rw[e,pd h.1]
   constructor
   .rintro⟨p,h1,h2,rfl⟩
    have i:=gu h1;exact#[p,h1,by dsimp[sgn,if_pos i];erw[h2],by dsimp[cont,if_pos i]]
   .rintro⟨p,h1,h2,rfl⟩
    have i:=gu h1;dsimp[sgn,if_pos i] at h2;exact#[p,h1,h2,by dsimp[cont,if_pos i]]
  .have e:cont (.or a b) q=cont b q:=by dsimp[cont,if_neg z]
   rw[e,pd h.2]
   constructor
   .rintro⟨p,h1,h2,rfl⟩
    have i:=gC h (gu h1);exact#[p,h1,by dsimp[sgn,if_neg i];erw[h2],by dsimp[cont,if_neg i]]
   .rintro⟨p,h1,h2,rfl⟩
    have i:=gC h (gu h1);dsimp[sgn,if_neg i] at h2;exact#[p,h1,h2,by dsimp[cont,if_neg i]]
 |.rep m a,n,c,x,q,h=>by
  have hm:x∈dR (more m a) c↔∃p,om (more m a) p=ζ/\c∈sgn a p/\x=cont (.rep m a) p:=by
   cases m with
   |may=>simp[more,dR,om]
   |star=>
    show x∈dR [.rep .star a] c↔_
    rw[zH,i8 (t:=.rep .star a) h]
    simp[more,om,FS,sgn]
   |plus=>
    show x∈dR [.rep .star a] c↔_
    rw[zH,i8 (t:=.rep .star a) h]
    simp[more,om,FS,sgn,cont]
  dsimp[cont,DH,mz,aL,bD,bq,ar,sgn];constructor
  .rintro(⟨y,hy,rfl⟩|hy)
   .let#[p,h1,h2,rfl]:=(pd (t:=a) h).mp hy
    exact#[p,.inl h1,h2,rfl]
   .split at hy
    .rename_i z
     let#[p,h1,h2,rfl]:=hm.mp hy;exact#[p,.inr #[z,h1],h2,rfl]
    .simp at hy
  .rintro⟨p,h1|⟨z,h1⟩,h2,rfl⟩
   .erw[.inl #[_,(pd (t:=a) h).mpr #[p,h1,h2,rfl],rfl]]
   .rw[if_pos z]
    erw[.inr (hm.mpr #[p,h1,h2,rfl])]
abbrev og:Mk->List Nat
 |.star=>lG
 |.plus=>o7
 |.may=>kH
abbrev enc:Tr->U
 |.one _ l=>.tup [.str NM,.str l]
 |.row a b=>.tup [.str DD,.tup [enc a,enc b]]
 |.or a b=>.tup [.str T7,.tup [enc a,enc b]]
 |.rep m a=>.tup [.str (og m),enc a]
abbrev cL(K:List Tr):U:=.tup (K.map enc)
abbrev NU(K:List Tr):U:=.tup [.str DD,cL K]
def yq(h:om (ct t q) p=ζ):IN t p=ζ:=by
 unfold ct at h;split at h
 .dsimp[om,bq,ar,aw,and_false,or_false] at h
  erw[jD h]
 .erw[gu h]
def zI(h:oo n t)(n0:0<n)(i:IN t p=ζ):p≠0:=by
 have:=(fB h).mp i;omega
def Ka(h:oo n t)(n0:0<n):x∈dR (ct t q) c↔∃p,om (ct t q) p=ζ/\c∈sgn t p/\x=ct t p:=by
 have key:∀p,om (ct t q) p=ζ->ct t p=cont t p:=λp hp=>by
  unfold ct;rw[if_neg (zI h n0 (yq hp))]
 have e:x∈dR (ct t q) c↔∃p,om (ct t q) p=ζ/\c∈sgn t p/\x=cont t p:=by
  unfold ct;split
  .rw[zH,i8 h]
   simp[om]
  .erw[pd h]
 rw[e]
 constructor
 .rintro⟨p,h1,h2,h3⟩;exact#[p,h1,h2,h3.trans (key p h1).symm]
 .rintro⟨p,h1,h2,h3⟩;exact#[p,h1,h2,h3.trans (key p h1)]
abbrev V0(t:Tr)(c:Nat)(H:Nat->Prop):Nat->Prop:=λp=>∃q,H q/\om (ct t q) p=ζ/\c∈sgn t p
abbrev hs(t:Tr)(w:List Nat):Nat->Prop:=w.foldl (λH c=>V0 t c H) (λp=>p=0)
abbrev En(t:Tr)(H:Nat->Prop):Prop:=∃p,H p/\eY (ct t p)=ζ
def pP:hs t (w++[c])=V0 t c (hs t w):=by unfold hs;rw[d6];rfl
def V1(h:hs t w p):p=0\/IN t p=ζ:=by
 by_cases z:w=[]
 .subst z;erw[.inl h]
 .rw[<-List.dropLast_concat_getLast z,pP] at h
  let#[q,_,h,_]:=h;erw[.inr (yq h)]
def take_snoc{w:List Nat}{k c:Nat}(h:w[k]?=ξ c):w.take (k+1)=w.take k++[c]:=by
 rw[fE,h];rfl
abbrev Lv(t:Tr)(H:Nat->Prop)(X:List U):Prop:=(∀x,x∈X↔∃p,H p/\x=cL (ct t p))/\X.Nodup
def yr(t:Tr):Lv t (hs t []) [cL [t]]:=by
 refine#[λx=>?_,#v[]];dsimp[hs,xy,bp,exists_eq_left]
 rfl
section
variable{S:bG}{Q:KU}{a b p:Nat}
def Dd:kO .bor (.int (a:Nat)) (.int (b:Nat)) S Q=Q (.int ((a|||b:Nat):Int)) S:=by
 rw[QL,eq_true (show(0:Int)<=a/\(0:Int)<=b from #[∅,∅]),true_and];rfl
def uM:kO .band (.int (a:Nat)) (.int (b:Nat)) S Q=Q (.int ((a&&&b:Nat):Int)) S:=by
 rw[MJ,eq_true (show(0:Int)<=a/\(0:Int)<=b from #[∅,∅]),true_and];rfl
def Yh:kO .band (.int (a:Nat)) (.int 1) S Q=Q (.int ((a&&&1:Nat):Int)) S:=uM (b:=1)
def Sb:kO .shl (.int 1) (.int (p:Nat)) S Q=(p<=1000/\Q (.int ((1<<<p:Nat):Int)) S):=by
 rw[QM]
 have e:(1:Int)*(2:Int)^((p:Int).toNat)=((1<<<p:Nat):Int):=by
  rw[uu];simp
 rw[e]
 erw[propext #[λh=>#[∅,h.2],λh=>#[∅,h.2]]]
def aas:kO .shr (.int (a:Nat)) (.int (p:Nat)) S Q=Q (.int ((a>>>p:Nat):Int)) S:=by
 rw[QN,eq_true (show(0:Int)<=a/\(0:Int)<=p from #[∅,∅]),true_and]
 have e:(a:Int)/(2:Int)^((p:Int).toNat)=((a>>>p:Nat):Int):=by
  rw[Nat.shiftRight_eq_div_pow];simp
 rw[e]
def abH:tj .sum [.loc n] S Q=(∃is:List Int,S[n]?=ξ (.lst (is.map .int))/\Q (.int is.sum) S):=rfl
end
def V2:(((a>>>p&&&1:Nat):Int) !=0)=a.testBit p:=by
 unfold Nat.testBit;rw[Nat.and_comm]
 by_cases h:1&&&a>>>p=0
 .simp[h]
 .have:¬(((1&&&a>>>p:Nat):Int)=0):=∅
  rw[bne_iff_ne.mpr this,bne_iff_ne.mpr h]
def zJ{a:Nat}:((a:Int) !=0)=ζ↔∃p,a.testBit p=ζ:=by
 constructor
 .intro h
  have:a≠0:=by
   have:=bne_iff_ne.mp h;omega
  erw[Nat.exists_testBit_of_ne_zero this]
 .rintro⟨p,h⟩
  rwa[bne_iff_ne.mpr λz=>?_]
  have:a=0:=∅
  subst this;simp at h
def Sd(h:b.testBit p=ζ):p<ub b:=by
 have g:=Nat.ge_two_pow_of_testBit h;have b0:b≠0:=by
  have:0<2^p:=Nat.two_pow_pos p;omega
 unfold ub;rw[if_neg b0]
 have:=(Nat.le_log2 b0).mpr g;omega
def bits_le(h:b<2^n):ub b<=n:=by
 unfold ub;split
 .omega
 .rename_i z
  have:=(Nat.log2_lt z).mpr h;omega
def jY(h:∀p,b.testBit p=ζ->p<n):b<2^n:=Nat.lt_of_not_le λz=>by
 let#[i,hi,ti]:=Nat.exists_ge_and_testBit_of_ge_two_pow z;have:=h i ti;omega
abbrev DI(b:Nat):List Nat:=(cv (ub b)).filter b.testBit
def lH:p∈DI b↔b.testBit p=ζ:=by
 unfold DI;rw[fq,qg]
 exact#[λh=>h.2,λh=>#[Sd h,h]]
noncomputable abbrev aR(n:Nat):U:=.int (n:Nat)
def fO(l:List U)(I:Nat->List U->bG->Prop)(hg:∀i acc S,i<=l.length->I i acc S->g S/\acc.length<1000000)
  (h:∀i u acc S(k:List U->bG->Prop),l[i]?=ξ u->I i acc S->(∀acc' S',I (i+1) acc' S'->k acc' S')->c u S λb S1=>if b=ζ then e u S1 λv S2=>k (acc++[v]) S2 else k acc S1) (hf:∀acc S,I l.length acc S->Q acc S){S:bG} (h0:I 0 [] S):mY g c e Q l [] S:=by
 have key:∀n i acc S,i+n=l.length->I i acc S->mY g c e Q (l.drop i) acc S:=by
  intro n;induction n with
  |zero=>
   intro i acc S e hi;rw[jS ∅]
   have ei:i=l.length:=∅
   subst ei;exact#[(hg _ _ _ (aq _) hi).1,(hg _ _ _ (aq _) hi).2,hf _ _ hi]
  |succ n ih=>
   intro i acc S e hi;have hl:i<l.length:=∅
   rw[dM hl]
   exact#[(hg _ _ _ ∅ hi).1,(hg _ _ _ ∅ hi).2,h i _ acc S _ (ab hl) hi λacc' S' h'=>ih (i+1) acc' S' ∅ h']
 erw[key l.length 0 [] S ∅ h0]
def yt(l:List U)(p:U->Bool)(f:U->U)(hg:g S)(hl:l.length<1000000)
  (h:∀u k,u∈l->((p u=ζ->k ζ S)/\(p u=ϑ->k ϑ S)->c u S k)) (he:∀u k,u∈l->p u=ζ->k (f u) S->e u S k) (q:Q ((l.filter p).map f) S):mY g c e Q l [] S:=by
 rwa[fO l (λi acc S'=>S'=S/\acc=((l.take i).filter p).map f) (λi acc S' hi h=>#[h.1▸hg,?_]) (λi u acc S' k hu hi hk=>?_) (λacc S' h=>?_) #[rfl,rfl]]
 .rw[h.2,ae]
  have:=Cq p (l.take i);rw[cx] at this;omega
 .let#[rfl,rfl]:=hi
  have hm:=ah hu;have et:l.take (i+1)=l.take i++[u]:=by rw[fE,hu];rfl
  rwa[h u _ hm #[λz=>?_,λz=>?_]]
  .rw[if_pos rfl]
   erw[he u _ hm z (hk _ _ #[rfl,by rw[et,Hb,aG,List.filter_cons_of_pos z];rfl])]
  .rw[if_neg (#v[])]
   erw[hk _ _ #[rfl,by rw[et,Hb,List.filter_cons_of_neg (by simp[z])];simp]]
 .let#[rfl,rfl]:=h
  rw[bP];erw[q]
def dY{α β:Type}{l:List α}{f:α->β}{i:Nat}{u:β}(h:(l.map f)[i]?=ξ u):∃a,l[i]?=ξ a/\f a=u:=by
 rw[aC] at h;erw[au.mp h]
def Kb{α:Type}{l:List α}{i:Nat}{a:α}(h:l[i]?=ξ a):l.take (i+1)=l.take i++[a]:=by rw[fE,h];rfl
def _root_.Lake.PL.Ext.st{S S':bG}{n:Nat}{o:SO}(x:Ext S S')(h:S.length<=n):Ext S (S'.set n o):=
 #[%[b8|x.1],λk hk=>%[ak (dw (av hk h))|x.2 k hk]]
end PL.ni
open PL.ni
namespace PL.ni
abbrev BD:Spec:=λus S Q=>∃b:Nat,us=[aR b]/\b<2^100/\∀n S',Ext S S'->S.length<=n->S'[n]?=ξ (.lst ((DI b).map aR))->Q (.loc n) S'
def Se(Γ:bY):Keeps Γ pN 0 BD:=by
 rintro us S Q ⟨b,rfl,hb,q⟩;unfold pN;room;have hl:=bits_le hb;refine#[∅,∅,∅,?_];refine yt (S:=S) _ (λu=>match u with|.int i=>b.testBit i.toNat|_=>ϑ) id trivial ((·)) (λu k hu h=>?_) (λu k _ _ h=>h) ?_
 .let#[p,_,rfl]:=bD.mp hu
  room;rw[V2]
  cases z:b.testBit p with
  |true=>erw[h.1 z]
  |false=>erw[h.2 z]
 .rwa[q _ _ (Ext.app _) (aq _) ?_]
  have:((cv (ub b)).map λk=>U.int (k:Nat)).filter (λu=>match u with|.int i=>b.testBit i.toNat|_=>ϑ)=(DI b).map aR:=by
   rw[List.filter_map];rfl
  rw[List.map_id,this];simp
abbrev Lw(e:Bool)(F Z:Nat):SO:=.ins "Part" [("empty",.bl e),("firsts",aR F),("lasts",aR Z)]
section
variable{S:bG}{p F Z:Nat}{e:Bool}{r:U->Prop}(h:S[p]?=ξ (Lw e F Z))
include h
def Gy:oW (.loc p) "empty" S r=r (.bl e):=by rw[jd,h];rfl
def BE:oW (.loc p) "firsts" S r=r (aR F):=by rw[jd,h];rfl
def BF:oW (.loc p) "lasts" S r=r (aR Z):=by rw[jd,h];rfl
end
abbrev zK:Spec:=λus S Q=>∃p e F Z,us=[.loc p,.bl e,aR F,aR Z]/\S[p]?=ξ (.ins "Part" [])/\Q .b7 (S.set p (Lw e F Z))
def V3(Γ:bY):Keeps Γ mj 0 zK:=by
 rintro us S Q ⟨p,e,F,Z,rfl,h,q⟩;unfold mj;room;rw[h]
 dsimp[bZ];refine#[#v[],?_];have g1:=gs (o':=SO.ins "Part" (iy "empty" (U.bl e) [])) h;room;rw[g1]
 dsimp[bZ];refine#[by simp[iy],?_];have g2:=gs (o':=SO.ins "Part" (iy "firsts" (aR F) (iy "empty" (U.bl e) []))) g1;room;rw[g2]
 dsimp[bZ];refine#[by simp[iy],?_];room;rw[tX,tX]
 erw[q]
def qr{Γ:bY}(h1:Γ "Part.__init__"=zK){e:Bool}{F Z:Nat}{S:bG}{R:KU}(q:∀S',Ext S S'->S'[S.length]?=ξ (Lw e F Z)->R .b7 S'):
  Γ "Part.__init__" [.loc S.length,.bl e,aR F,aR Z] (S++[.ins "Part" []]) R:=by
 have g:(S++[SO.ins "Part" []])[S.length]?=ξ (.ins "Part" []):=by simp
 rwa[ca h1 #[S.length,e,F,Z,rfl,g,q _ #[#v[],λn hn=>?_] (gs g)]];rw[ak ∅,ao hn]
abbrev qL(f:Bool->Nat->Nat->Bool->Nat->Nat->Bool×Nat×Nat):Spec:=λus S Q=>∃p1 e1 F1 Z1 p2 e2 F2 Z2,us=[.loc p1,.loc p2]/\S[p1]?=ξ (Lw e1 F1 Z1)/\S[p2]?=ξ (Lw e2 F2 Z2) /\
 ∀S',Ext S S'->S'[S.length]?=ξ (Lw (f e1 F1 Z1 e2 F2 Z2).1 (f e1 F1 Z1 e2 F2 Z2).2.1 (f e1 F1 Z1 e2 F2 Z2).2.2)->Q (.loc S.length) S'
abbrev tJ(e1:Bool)(F1 Z1:Nat)(e2:Bool)(F2 Z2:Nat):Bool×Nat×Nat:=(e1&&e2,if e1 then F1|||F2 else F1,if e2 then Z1|||Z2 else Z2)
abbrev V4(e1:Bool)(F1 Z1:Nat)(e2:Bool)(F2 Z2:Nat):Bool×Nat×Nat:=(e1||e2,F1|||F2,Z1|||Z2)
def Sf(Γ:bY)(h1:Γ "Part.__init__"=zK):Keeps Γ f9 2 (qL tJ):=by
 rintro us S Q ⟨p1,e1,F1,Z1,p2,e2,F2,Z2,rfl,g1,g2,q⟩;unfold f9;room;cases e1<;>cases e2<;>(repeat first|room|dsimp[Gy g1,Gy g2,BE g1,BE g2,BF g1,BF g2])
 .erw[qr h1 λS' x g=>#[rfl,q S' x g]]
 .erw[qr h1 λS' x g=>#[rfl,q S' x g]]
 .erw[qr h1 λS' x g=>#[rfl,q S' x g]]
 .erw[qr h1 λS' x g=>#[rfl,q S' x g]]
def V5(Γ:bY)(h1:Γ "Part.__init__"=zK):Keeps Γ jw 0 (qL V4):=by
 rintro us S Q ⟨p1,e1,F1,Z1,p2,e2,F2,Z2,rfl,g1,g2,q⟩;unfold jw;cases e1<;>(repeat first|room|dsimp[Gy g1,Gy g2,BE g1,BE g2,BF g1,BF g2])
 .erw[qr h1 λS' x g=>#[rfl,q S' x g]]
 .erw[qr h1 λS' x g=>#[rfl,q S' x g]]
structure r9(S:bG)(L:Nat)(sg:List (List Nat))(bh en:List Nat):Prop where
 o:S[L]?=ξ (.ins "Layout" [("signs",.loc (L+1)),("behind",.loc (L+2)),("ends",.loc (L+3))])
 s:S[L+1]?=ξ (.lst (sg.map .str))
 b:S[L+2]?=ξ (.lst (bh.map aR))
 e:S[L+3]?=ξ (.lst (en.map aR))
abbrev Fr(L:Nat)(S S':bG):Prop:=S.length<=S'.length/\∀n,n<S.length->n<=L\/L+4<=n->S'[n]?=S[n]?
section
variable{S S1 S2:bG}{L:Nat}{sg:List (List Nat)}{bh en:List Nat}{r:U->Prop}{q:KU}
def Fr.refl:Fr L S S:=#[aq _,λ_ _ _=>rfl]
def Fr.trans(a:Fr L S S1)(b:Fr L S1 S2):Fr L S S2:=#[aF a.1 b.1,λn h z=>(b.2 n (av h a.1) z).trans (a.2 n h z)]
def Ext.fr(a:Ext S S1):Fr L S S1:=#[a.1,λn h _=>a.2 n h]
def Fr.get(a:Fr L S S1){n:Nat}{o:SO}(h:S[n]?=ξ o)(z:L+4<=n):S1[n]?=ξ o:=(a.2 n (aT h) (.inr z)).trans h
def Fr.set(a:Fr L S S1){n:Nat}{o:SO}(h1:L<n)(h2:n<L+4):Fr L S (S1.set n o):=#[%[b8|a.1],λm h z=>%[ak ∅|a.2 m h z]]
variable(h:r9 S L sg bh en)
include h
def r9.ext(x:Ext S S1):r9 S1 L sg bh en:=#[x.get h.o,x.get h.s,x.get h.b,x.get h.e]
def r9.len:L+4<=S.length:=aT h.e
def Kc:oW (.loc L) "signs" S r=r (.loc (L+1)):=by rw[jd,h.o];rfl
def Kd:oW (.loc L) "behind" S r=r (.loc (L+2)):=by rw[jd,h.o];rfl
def Sg:oW (.loc L) "ends" S r=r (.loc (L+3)):=by rw[jd,h.o];rfl
def r9.aat:r9 (S.set (L+1) (.lst (sg'.map .str))) L sg' bh en:=
 #[%[ak ∅|h.o],gs h.s,%[ak ∅|h.b],%[ak ∅|h.e]]
def r9.setB:r9 (S.set (L+2) (.lst (bh'.map aR))) L sg bh' en:=
 #[%[ak ∅|h.o],%[ak ∅|h.s],gs h.b,%[ak ∅|h.e]]
def r9.aau:r9 (S.set (L+3) (.lst (en'.map aR))) L sg bh en':=
 #[%[ak ∅|h.o],%[ak ∅|h.s],%[ak ∅|h.b],gs h.e]
end
abbrev Sh:Spec:=λus S Q=>∃L,us=[.loc L]/\S[L]?=ξ (.ins "Layout" [])/\S.length=L+1/\∀S',(∀n,n<L->S'[n]?=S[n]?)->r9 S' L [[]] [0] []->Q .b7 S'
def V6(Γ:bY):Keeps Γ kg 0 Sh:=by
 rintro us S Q ⟨L,rfl,h,hl,q⟩;unfold kg;room;refine#[#v[],?_];have g0:(S++[SO.lst [U.str []]])[L]?=ξ (.ins "Layout" []):=%[ao ∅|h]
 rw[g0]
 dsimp[bZ];refine#[#v[],?_];have g1:=gs (o':=SO.ins "Layout" (iy "signs" (U.loc S.length) [])) g0;room;refine#[#v[],?_];rw[ao ((·)),g1]
 dsimp[bZ];refine#[by simp[iy],?_];room;refine#[#v[],?_];rw[ao ((·)),gs (%[ao ((·))|g1])]
 dsimp[bZ];refine#[by simp[iy],?_];room;rwa[q _ (λn hn=>?_) #[?_,?_,?_,?_]]
 .simp[iH,jR,hl,dw hn,bc hn,bc (bc hn),bc (bc (bc hn))]
 .rw[bA ((·))]
  simp[iy,hl]
 .rw[ak ∅]
  simp[iH,jR,hl]
 .rw[ak ∅]
  simp[iH,jR,hl]
 .rw[ak ∅]
  simp[iH,jR,hl]
abbrev Si:Spec:=λus S Q=>∃L sg bh en,us=[.loc L]/\r9 S L sg bh en/\sg.length<=1000/\Q (.int (sg.length-1:Int)) S
def V7(Γ:bY):Keeps Γ gH 0 Si:=by
 rintro us S Q ⟨L,sg,bh,en,rfl,h,hl,q⟩;unfold gH;room;rw[Kc h,kr h.s]
 dsimp[aW,ae];exact#[∅,q]
def uT{l:List Nat}{k B:Nat}{r:U->Prop}(h:l[k]?=ξ B)(z:r (aR B)):opt ((l.map aR)[k]?) r:=by
 rw[aC,h];erw[z]
abbrev Sj:Spec:=λus S Q=>∃L sg bh en p e F Z B bt,us=[.loc L,.loc p]/\r9 S L sg bh en/\bh=B::bt/\S[p]?=ξ (Lw e F Z)/\L+4<=p/\en.length<=1000/\∀S',Fr L S S'->r9 S' L sg ((B|||F)::bt) (en++[Z])->Q .b7 S'
def V8(Γ:bY):Keeps Γ fJ 0 Sj:=by
 rintro us S Q ⟨L,sg,bh,en,p,e,F,Z,B,bt,rfl,h,rfl,hp,pl,hn,q⟩;unfold fJ;room;rw[Kd h]
 room;rw[h.b]
 dsimp[aB];refine#[Ft _,?_];dsimp[Int.toNat_zero];rwa[uT (B:=B) rfl ?_];rw[BE hp]
 room;rw[h.b]
 dsimp[aB];refine#[#v[],?_];have h1:=h.setB (bh':=(B|||F)::bt);have e1:(dB aR (B::bt)).set 0 (U.int ((B|||F:Nat):Int))=dB aR ((B|||F)::bt):=by simp
 rw[e1]
 have f1:=(Fr.refl (L:=L) (S:=S)).set (n:=L+2) (o:=.lst (dB aR ((B|||F)::bt))) ∅ ∅;have hp1:=f1.get hp pl;generalize S.set (L+2) (.lst (dB aR ((B|||F)::bt)))=S1 at h1 f1 hp1;room;rw[Sg h1]
 room;rw[h1.e]
 dsimp[aB];room;rw[BF hp1]
 refine#[(·),?_];room;have e2:dB aR en++[aR Z]=dB aR (en++[Z]):=by simp
 rw[e2]
 erw[q _ (f1.set ∅ ∅) h1.aau]
abbrev V9(Z F:Nat)(bh bh':List Nat):Prop:=bh'.length=bh.length/\∀(q B:Nat),bh[q]?=ξ B->∃B',bh'[q]?=ξ B'/\∀r,B'.testBit r=(B.testBit r||(Z.testBit q&&F.testBit r))
abbrev Ke:Spec:=λus S Q=>∃L sg bh en Z F,us=[.loc L,aR Z,aR F]/\r9 S L sg bh en/\bh.length<=100/\(∀p,Z.testBit p=ζ->p<bh.length)/\∀S' bh',Fr L S S'->r9 S' L sg bh' en->V9 Z F bh bh'->Q .b7 S'
def Wa(Γ:bY)(h1:Γ "members"=BD):Keeps Γ kh 1 Ke:=by
 rintro us S Q ⟨L,sg,bh,en,Z,F,rfl,h,hl,hz,q⟩;unfold kh;room;rwa[ca h1 #[Z,rfl,av (jY hz) (bz ∅ hl),λn S1 x1 hn g1=>?_]];room;rw[g1]
 dsimp[aB];have hln:=h.len;refine dy (λi env S2=>∃bh2 x3,env=[ξ (.loc L),ξ (aR Z),ξ (aR F),x3]/\Fr L S1 S2/\r9 S2 L sg bh2 en/\bh2.length=bh.length/\∀(q B:Nat),bh[q]?=ξ B->∃B',bh2[q]?=ξ B'/\∀r,B'.testBit r=(B.testBit r||(decide (q∈(DI Z).take i)&&F.testBit r)))
  (λi env S2 h9=>by let#[_,_,_,f,_]:=h9;erw[f.get g1 ∅]) _ ?_ ?_ #[bh,ψ,rfl,.refl,h.ext x1,rfl,λq B e=>#[B,e,λr=>#v[]]]
 .rintro i u env S2 K hu ⟨bh2,x3,rfl,f2,h2,l2,inv⟩ hK
  let#[p,hp,rfl]:=dY hu;have pz:=lH.mp (ah hp);have pl:=hz p pz;let#[B',e',b']:=inv p _ (ab pl);room;rw[Kd h2]
  room;rw[h2.b]
  dsimp[aB];refine#[∅,uT e' ?_];room;rw[h2.b]
  dsimp[aB];refine#[(·),?_];have ee:(dB aR bh2).set p (U.int ((B'|||F:Nat):Int))=dB aR (bh2.set p (B'|||F)):=by rw[List.map_set]
  rw[ee]
  room;rwa[hK _ _ #[_,_,rfl,f2.set ∅ ∅,h2.setB,by simp[l2],λq B e=>?_]];have et:=Kb hp;rw[et]
  by_cases z:q=p
  .subst z
   rw[ab pl] at e;injection e with e;subst e
   refine#[B'|||F,by rw[bA ∅],λr=>?_];rw[cV,b']
   dsimp[aL,bp,or_true,decide_true,An];cases bh[q].testBit r<;>cases F.testBit r<;>simp
  .let#[B2,e2,b2]:=inv q B e
   refine#[B2,%[ak (cJ z)|e2],λr=>?_];rw[b2]
   simp[z]
 .rintro env S2 ⟨bh2,x3,rfl,f2,h2,l2,inv⟩
  room;rwa[q _ _ (Ext.fr x1 |>.trans f2) h2 #[l2,λq B e=>?_]];let#[B',e',b']:=inv q B e;refine#[B',e',λr=>?_];rw[b',ae,bP]
  congr 2
  by_cases z:Z.testBit q=ζ
  .rw[z];erw[decide_eq_true (lH.mpr z)]
  .rw[eP _ |>.mp z];erw[decide_eq_false λm=>z (lH.mp m)]
structure uF(t:Tr)(bh:List Nat)(F Z:Nat)(bh':List Nat):Prop where
 f:∀p,F.testBit p=FS t p
 z:∀p,Z.testBit p=(IN t p&&eY (cont t p))
 len:bh'.length=bh.length+size t
 old:∀q,q<bh.length->bh'[q]?=bh[q]?
 new:∀q,IN t q=ζ->∃B:Nat,bh'[q]?=ξ B/\∀p,B.testBit p=om (cont t q) p
abbrev ie(D:Tr->U->Prop):Spec:=λus S Q=>∃L sg bh en t u,us=[.loc L,u]/\D t u/\r9 S L sg bh en/\oo sg.length t/\bh.length=sg.length/\sg.length+size t<=100 /\
 ∀S' p F Z bh',Fr L S S'->L+4<=p->S'[p]?=ξ (Lw (null t) F Z)->r9 S' L (sg++pb t) bh' en->uF t bh F Z bh'->Q (.loc p) S'
def sd:(1<<<n).testBit p=(p==n):=by
 rw[uu,Nat.testBit_two_pow]
 by_cases z:n=p
 .subst z;simp
 .rw[decide_eq_false z]
  have:¬p=n:=λe=>z e.symm
  simp[this]
def Wb(Γ:bY)(h1:Γ "Part.__init__"=zK):Keeps Γ gc 1 (ie λt u=>∃n l,t=.one n l/\u=.str l):=by
 rintro us S Q ⟨L,sg,bh,en,t,u,rfl,⟨n,l,rfl,rfl⟩,h,hp,hb,hl,q⟩;have hp:n=sg.length:=hp;subst hp;have hl:sg.length+1<=100:=hl;unfold gc;room;rw[Kc h,kr h.s]
 dsimp[aW,ae,Sb];refine#[∅,∅,?_];room;rw[Kc h]
 room;rw[h.s]
 dsimp[aB,true_and];refine#[(·),?_];have e1:dB U.str sg++[U.str l]=dB U.str (sg++[l]):=by simp
 rw[e1]
 have h2:=h.aat (sg':=sg++[l]);have f2:=(Fr.refl (L:=L) (S:=S)).set (n:=L+1) (o:=.lst (dB U.str (sg++[l]))) ∅ ∅;generalize S.set (L+1) (.lst (dB U.str (sg++[l])))=S2 at h2 f2;room;rw[Kd h2]
 room;rw[h2.b]
 dsimp[aB,true_and];refine#[(·),?_];have e2:dB aR bh++[U.int 0]=dB aR (bh++[0]):=by simp
 rw[e2]
 have h3:=h2.setB (bh':=bh++[0]);have f3:=f2.set (n:=L+2) (o:=.lst (dB aR (bh++[0]))) ∅ ∅;generalize S2.set (L+2) (.lst (dB aR (bh++[0])))=S3 at h3 f3;room;rwa[qr h1 λS4 x4 g4=>#[rfl,?_]]
 have:=h3.len;rwa[q S4 _ _ _ _ (f3.trans (Ext.fr x4)) ∅ g4 (h3.ext x4) #[λp=>sd,λp=>?_,by simp[size],λq hq=>ao hq,λq hq=>?_]]
 .rw[sd];simp[IN,cont,eY]
 .have:q=sg.length:=by simpa[IN] using hq
  subst this;refine#[0,by rw[ax ∅,hb];simp,λp=>by simp[cont,om]]
abbrev Tu(d:Nat)(t:Tr)(u:U):Prop:=bM t<d/\u=enc t
abbrev Wc:dC:=#v[.set 4 (.dg "Layout" "lay" "Layout.lay" @0 #v[@3]),.ex (.dg "Layout" "link" "Layout.link" @0 #v[.fld @2 "lasts",.fld @4 "firsts"]),.set 2 (.call "one_behind_other" #v[@2,@4])]
def BG(Γ:bY)(h2:Γ "Layout.lay"=ie (Tu d))(h3:Γ "Layout.link"=Ke)(h4:Γ "one_behind_other"=qL tJ)
  (da:bM a<d) (h:r9 S L sg bh en) (hp:oo sg.length a) (hb:bh.length=sg.length) (hl:sg.length+size a<=100) (g:S[pw]?=ξ (Lw e0 F0 Z0)) (pl:L+4<=pw) (hz:∀p,Z0.testBit p=ζ->p<bh.length)
  (q:∀S' p F Z bh1 bh2 x,Fr L S S'->L+4<=p->S'[p]?=ξ (Lw (tJ e0 F0 Z0 (null a) F Z).1 (tJ e0 F0 Z0 (null a) F Z).2.1 (tJ e0 F0 Z0 (null a) F Z).2.2)->r9 S' L (sg++pb a) bh2 en->uF a bh F Z bh1->V9 Z0 F bh1 bh2 ->
   D.nx [ξ (.loc L),ξ v1,ξ (.loc p),ξ (enc a),x] S'):Rest Γ Wc D [ξ (.loc L),ξ v1,ξ (.loc pw),ξ (enc a),x4] S:=by
 unfold Wc;room;rw[h.o,bZ]
 refine#[#[rfl,rfl],?_];rwa[ca h2 #[L,sg,bh,en,a,_,rfl,#[da,rfl],h,hp,hb,hl,λS1 p F Z bh1 f1 pl1 g1 la1 r1=>?_]];have g0:=f1.get g pl;room;rw[la1.o,bZ]
 refine#[#[rfl,rfl],?_];rw[BF g0,BE g1]
 rwa[ca h3 #[L,_,bh1,en,Z0,F,rfl,la1,by rw[r1.len];omega,λp hp=>by rw[r1.len];have:=hz p hp;omega,λS2 bh2 f2 la2 lk=>?_]];room;rwa[ca h4 #[pw,e0,F0,Z0,p,null a,F,Z,rfl,f2.get g0 pl,f2.get g1 pl1,λS3 x3 g3=>?_]];room;have:=la2.len;erw[q _ _ F Z bh1 bh2 _ ((f1.trans f2).trans (Ext.fr x3)) ∅ g3 (la2.ext x3) r1 lk]
def Wd:tJ ζ 0 0 e F Z=(e,F,Z):=by
 unfold tJ;rw[wF,wF]
 cases e<;>rfl
def aav:V4 ϑ 0 0 e F Z=(e,F,Z):=by
 unfold V4;rw[wF,wF];rfl
def NV(hp:oo n a/\oo (n+size a) b)(hb:bh.length=n)(ra:uF a bh Fa Za bh1)(lk2:V9 0 Fa bh1 bh2)(rb:uF b bh2 Fb Zb bh3)(lk4:V9 Za Fb bh3 bh4):
  uF (.row a b) bh (tJ (null a) Fa Za (null b) Fb Zb).2.1 (tJ (null a) Fa Za (null b) Fb Zb).2.2 bh4:=by
 have l1:=ra.len;have l2:=rb.len;have l3:=lk2.1;have l4:=lk4.1;have e12:∀q,q<bh1.length->bh2[q]?=bh1[q]?:=λq hq=>by
  let#[B',e1,e2]:=lk2.2 q _ (ab hq);rw[e1,ab hq]
  congr 1
  erw[kN λr=>by simp[e2]]
 have e14:∀q B,q<bh1.length->bh1[q]?=ξ B->∃B',bh4[q]?=ξ B'/\∀r,B'.testBit r=(B.testBit r||(Za.testBit q&&Fb.testBit r)):=λq B hq e=>lk4.2 q B (%[rb.old q ∅,e12 q hq|e])
 refine#[λp=>?_,λp=>?_,by dsimp[size];omega,λq hq=>?_,λq hq=>?_]
 .dsimp[tJ,FS]
  cases null a<;>simp[cV,ra.f,rb.f]
 .dsimp[tJ,IN,cont]
  by_cases z:IN a p=ζ
  .have z2:IN b p=ϑ:=by
    cases e:IN b p with
    |false=>rfl
    |true=>erw[absurd z (gC hp e)]
   have nb:eY [b]=null b:=by simp[eY]
   dsimp[wd,nb,if_pos z];cases null b<;>simp[cV,ra.z,rb.z,z,z2]
  .have z:IN a p=ϑ:=by simpa using z
   cases null b<;>simp[cV,ra.z,rb.z,z]
 .let#[B',h1,h2]:=e14 q _ ∅ ((ra.old q hq).trans (ab hq))
  rw[h1,ab hq]
  congr 1
  rwa[kN λr=>?_]
  have:IN a q=ϑ:=by
   cases e:IN a q with
   |false=>rfl
   |true=>have:=(fB hp.1).mp e;omega
  rw[h2,ra.z,this];simp
 .by_cases z:IN a q=ζ
  .let#[B,h1,h2]:=ra.new q z
   have:=(fB hp.1).mp z;let#[B',h3,h4]:=e14 q B ∅ h1;refine#[B',h3,λp=>?_];have ec:cont (.row a b) q=cont a q++[b]:=by dsimp[cont,if_pos z]
   rw[ec,mz,h4,h2,ra.z,rb.f,z]
   simp[om]
  .have z2:IN b q=ζ:=by simpa[IN,z] using hq
   let#[B,h1,h2]:=rb.new q z2;let#[B',h3,h4]:=lk4.2 q B h1;refine#[B',h3,λp=>?_];have z:IN a q=ϑ:=by simpa using z
   rw[h4,ra.z,z,h2]
   simp[cont,z]
def We(Γ:bY)(d:Nat)(h1:Γ "Part.__init__"=zK)(h2:Γ "Layout.lay"=ie (Tu d))(h3:Γ "Layout.link"=Ke)(h4:Γ "one_behind_other"=qL tJ):
  Keeps Γ iB 3 (ie λt u=>∃a b,t=.row a b/\bM a<d/\bM b<d/\u=.tup [enc a,enc b]):=by
 rintro us S Q ⟨L,sg,bh,en,t,u,rfl,⟨a,b,rfl,da,db,rfl⟩,h,hp,hb,hl,q⟩;have hl:sg.length+(size a+size b)<=100:=hl;have hp:oo sg.length a/\oo (sg.length+size a) b:=hp;have ll:=gh a;unfold iB;room;rwa[qr h1 (F:=0) (Z:=0) λS1 x1 g1=>#[rfl,?_]]
 have p1:L+4<=S.length:=h.len;have h':=h.ext x1;generalize S.length=pw at g1 p1;room;refine#[#v[],?_];dsimp[vE];refine#[trivial,BG Γ h2 h3 h4 da h' hp.1 hb ∅ g1 p1 (#v[]) λS2 p2 Fa Za bh1 bh2 x f2 pl2 g2 la2 ra lk2=>?_];rw[Wd] at g2;refine#[trivial,BG Γ h2 h3 h4 db la2 (%[aj,ll|hp.2]) (by rw[lk2.1,ra.len,hb];simp[ll]) ((·)) g2 pl2 (λp hp'=>?_) λS3 p3 Fb Zb bh3 bh4 x' f3 pl3 g3 la3 rb lk4=>#[trivial,?_]]
 .rw[ra.z,ar] at hp'
  have:=(fB hp.1).mp hp'.1;rw[lk2.1,ra.len];omega
 .room
  exact q _ _ _ _ _ ((Ext.fr x1 |>.trans f2).trans f3) pl3 g3 (by rw[bx] at la3;erw[la3]) (NV hp hb ra lk2 rb lk4)
def Sk(hp:oo n a/\oo (n+size a) b)(hb:bh.length=n)(ra:uF a bh Fa Za bh1)(rb:uF b bh1 Fb Zb bh2):uF (.or a b) bh (Fa|||Fb) (Za|||Zb) bh2:=by
 have l1:=ra.len;have l2:=rb.len;refine#[λp=>by rw[cV,ra.f,rb.f];rfl,λp=>?_,by dsimp[size];omega,λq hq=>(rb.old q ∅).trans (ra.old q hq),λq hq=>?_]
 .rw[cV,ra.z,rb.z]
  dsimp[IN,cont];by_cases z:IN a p=ζ
  .have z2:IN b p=ϑ:=by
    cases e:IN b p with
    |false=>rfl
    |true=>erw[absurd z (gC hp e)]
   simp[z,z2]
  .have z:IN a p=ϑ:=by simpa using z
   simp[z]
 .by_cases z:IN a q=ζ
  .let#[B,h1,h2]:=ra.new q z
   have:=(fB hp.1).mp z;exact#[B,(rb.old q ∅).trans h1,λp=>by rw[h2];simp[cont,z]]
  .have z2:IN b q=ζ:=by simpa[IN,z] using hq
   let#[B,h1,h2]:=rb.new q z2;exact#[B,h1,λp=>by rw[h2];simp[cont,z]]
def Wf(Γ:bY)(d:Nat)(h1:Γ "Part.__init__"=zK)(h2:Γ "Layout.lay"=ie (Tu d))(h4:Γ "one_or_other"=qL V4):
  Keeps Γ fK 2 (ie λt u=>∃a b,t=.or a b/\bM a<d/\bM b<d/\u=.tup [enc a,enc b]):=by
 rintro us S Q ⟨L,sg,bh,en,t,u,rfl,⟨a,b,rfl,da,db,rfl⟩,h,hp,hb,hl,q⟩;have hl:sg.length+(size a+size b)<=100:=hl;have hp:oo sg.length a/\oo (sg.length+size a) b:=hp;have ll:=gh a;unfold fK;room;rwa[qr h1 (F:=0) (Z:=0) λS1 x1 g1=>#[rfl,?_]]
 have p1:L+4<=S.length:=h.len;have h':=h.ext x1;generalize S.length=pw at g1 p1;room;refine#[#v[],?_];dsimp[vE];refine#[trivial,?_];room;rw[h'.o,bZ]
 refine#[#[rfl,rfl],?_];rwa[ca h2 #[L,sg,bh,en,a,_,rfl,#[da,rfl],h',hp.1,hb,∅,λS2 p2 Fa Za bh1 f2 pl2 g2 la2 ra=>?_]];rwa[ca h4 #[pw,_,_,_,p2,_,_,_,rfl,f2.get g1 p1,g2,λS3 x3 g3=>?_]];rw[aav] at g3;have la3:=la2.ext x3;have p3:=la2.len;generalize S2.length=p3' at g3 p3;room;rw[la3.o,bZ]
 refine#[#[rfl,rfl],?_];rwa[ca h2 #[L,_,bh1,en,b,_,rfl,#[db,rfl],la3,%[aj,ll|hp.2],by rw[ra.len,hb];simp[ll],(·),λS4 p4 Fb Zb bh2 f4 pl4 g4 la4 rb=>?_]];rwa[ca h4 #[p3',_,_,_,p4,_,_,_,rfl,f4.get g3 p3,g4,λS5 x5 g5=>?_]];have p5:=la4.len;room;exact q _ _ _ _ _ (((((Ext.fr x1).trans f2).trans (Ext.fr x3)).trans f4).trans (Ext.fr x5)) p5 g5 (by have:=la4.ext x5;rw[bx] at this;erw[this]) (Sk hp hb ra rb)
abbrev Gz:Mk->Bool
 |.may=>ϑ
 |_=>ζ
abbrev GB:Mk->Bool
 |.plus=>ϑ
 |_=>ζ
structure O3(t:Tr)(ms:List Mk)(a:Tr):Prop where
 fs:∀p,FS t p=FS a p
 nl:null t=(null a||ms.any GB)
 inn:∀p,IN t p=IN a p
 ct:∀p,∃R,cont t p=cont a p++R/\eY R=ζ/\∀r,om R r=(ms.any Gz&&FS a r)
 sz:size t=size a
 lv:pb t=pb a
 pl:∀n,oo n t->oo n a
def O3.zero(t:Tr):O3 t [] t:=#[λ_=>rfl,#v[],λ_=>rfl,λp=>#[[],#v[],rfl,λr=>by simp[om]],rfl,rfl,λ_ h=>h]
def O3.next(h:O3 t ms (.rep m a)):O3 t (ms++[m]) a:=by
 refine#[h.fs,?_,h.inn,λp=>?_,h.sz,h.lv,h.pl]
 .rw[h.nl]
  cases m<;>simp[null,GB]
 .let#[R,h1,h2,h3]:=h.ct p
  refine#[more m a++R,by rw[h1];simp[cont],?_,λr=>?_]
  .rw[wd,h2];cases m<;>simp[more,eY,null]
  .rw[mz,h3]
   cases m<;>simp[more,om,FS,eY,null,Gz]
def EV(k:O3 t ms a)(hp:oo n a)(hb:bh.length=n)(ra:uF a bh F Z bh1)
  (lk:if ms.any Gz=ζ then V9 Z F bh1 bh2 else bh2=bh1):uF t bh F Z bh2:=by
 have eZ:∀p,eY (cont t p)=eY (cont a p):=λp=>by
  let#[R,h1,h2,_]:=k.ct p;rw[h1,wd,h2,Ao]
 have l1:=ra.len;have key:∀(q B:Nat),bh1[q]?=ξ B->∃B',bh2[q]?=ξ B'/\∀r,B'.testBit r=(B.testBit r||(ms.any Gz&&(Z.testBit q&&F.testBit r))):=λq B e=>by
  split at lk
  .rename_i z
   let#[B',e1,e2]:=lk.2 q B e;exact#[B',e1,λr=>by rw[e2,z,An]]
  .rename_i z
   subst lk;exact#[B,e,λr=>by simp[eP _ |>.mp z]]
 have l2:bh2.length=bh1.length:=by
  split at lk
  .erw[lk.1]
  .rw[lk]
 refine#[λp=>by rw[ra.f,k.fs],λp=>by rw[ra.z,k.inn,eZ],by rw[l2,l1,k.sz],λq hq=>?_,λq hq=>?_]
 .let#[B',h1,h2]:=key q _ ((ra.old q hq).trans (ab hq))
  rw[h1,ab hq]
  congr 1
  rwa[kN λr=>?_]
  have:IN a q=ϑ:=by
   cases e:IN a q with
   |false=>rfl
   |true=>have:=(fB hp).mp e;omega
  rw[h2,ra.z,this];simp
 .rw[k.inn] at hq
  let#[B,h1,h2]:=ra.new q hq;let#[B',h3,h4]:=key q B h1;refine#[B',h3,λp=>?_];let#[R,e1,e2,e3]:=k.ct q;rw[h4,h2,e1,mz,e3,ra.z,ra.f,hq,An]
  cases om (cont a q) p<;>cases eY (cont a q)<;>cases FS a p<;>simp
def in3:rJ (.str k) [.str lG,.str o7,.str kH] q=q (lG==k||(o7==k||kH==k)):=by
 have:=anyS (a:=k) (l:=[lG,o7,kH]) (q:=q);simpa using this
def Kf(ms:List Mk)(a b:List Nat):(ms.any λm=>og m==a||og m==b)=(((ms.map og).any (·==a))||((ms.map og).any (·==b))):=by
 induction ms with
 |nil=>rfl
 |cons m ms ih=>
  rw[dm,az,dm,dm,ih]
  cases (og m==a)<;>cases (og m==b)<;>simp
def Sl(ms:List Mk):ms.any Gz=(((ms.map og).any (·==lG))||((ms.map og).any (·==o7))):=by
 rw[<-Kf]
 congr 1;funext m
 cases m<;>rfl
def Sn(ms:List Mk):ms.any GB=(((ms.map og).any (·==lG))||((ms.map og).any (·==kH))):=by
 rw[<-Kf]
 congr 1;funext m
 cases m<;>rfl
def NW(m:Mk):(lG==og m||(o7==og m||kH==og m))=ζ:=by cases m<;>rfl
abbrev Yi:dC:=#v[.set 5 (.or (.fld @4 "empty") (.or (.cmp .isin ↑[115,116,97,114] @2) (.cmp .isin ↑[109,97,121,98,101] @2))),.ret (.mk "Part" "Part.__init__" #v[@5,.fld @4 "firsts",.fld @4 "lasts"])]
abbrev pLk:dC:=#v[.ex (.dg "Layout" "link" "Layout.link" @0 #v[.fld @4 "lasts",.fld @4 "firsts"])]
abbrev pR2:dC:=(.cons (.set 4 (.dg "Layout" "lay" "Layout.lay" @0 #v[@3])) (.cons (.ifs (.or (.cU (.cmp .isin ↑[115,116,97,114] @2)) (.cU (.cmp .isin ↑[112,108,117,115] @2))) pLk .nil) Yi))
def Wg(Γ:bY)(d:Nat)(hd:d<=100)(h1:Γ "Part.__init__"=zK)(h2:Γ "Layout.lay"=ie (Tu d))(h3:Γ "Layout.link"=Ke):
  Keeps Γ fL 4 (ie λt u=>∃m a,t=.rep m a/\bM a<d/\u=enc t):=by
 rintro us S Q ⟨L,sg,bh,en,t,u,rfl,⟨m0,a0,et,da,rfl⟩,h,hp,hb,hl,q⟩;have sl:=h.len;have fin:∀(ms:List Mk)(a:Tr)(S2:bG),O3 t ms a->bM a<d->(∀n,n<S.length->S2[n]?=S[n]?)->S2[S.length]?=ξ (.lst (ms.map λm=>U.str (og m)))->Rest Γ pR2 #[λ_ S1=>Q .b7 S1,Q] [ξ (.loc L),ξ (enc t),ξ (.loc S.length),ξ (enc a),ψ,ψ] S2:=by
  intro ms a S2 mk da e2 g2;have x2:Ext S S2:=#[cY (aT g2),e2]
  have la:=h.ext x2;have sz:=mk.sz;have hpa:=mk.pl _ hp;unfold pR2;room;rw[la.o,bZ]
  refine#[#[rfl,rfl],?_];rwa[ca h2 #[L,sg,bh,en,a,_,rfl,#[da,rfl],la,hpa,hb,∅,λS3 p F Z bh1 f3 pl3 g3 la3 ra=>?_]];have gm:∀S4,Fr L S3 S4->S4[S.length]?=ξ (.lst ((ms.map og).map .str)):=λS4 f4=>%[bw|f4.get (f3.get g2 sl) sl]
  have fin2:∀S4 bh2,Fr L S3 S4->r9 S4 L (sg++pb a) bh2 en->uF t bh F Z bh2->Rest Γ Yi #[λ_ S1=>Q .b7 S1,Q] [ξ (.loc L),ξ (enc t),ξ (.loc S.length),ξ (enc a),ξ (.loc p),ψ] S4:=by
   intro S4 bh2 f4 la4 r4;have g4:=f4.get g3 pl3;have en4:∀e,e=null t->Rest Γ (.cons (.ret (.mk "Part" "Part.__init__" (.cons @5 (.cons (.fld @4 "firsts") (.cons (.fld @4 "lasts") .nil))))) .nil) #[λ_ S1=>Q .b7 S1,Q] [ξ (.loc L),ξ (enc t),ξ (.loc S.length),ξ (enc a),ξ (.loc p),ξ (.bl e)] S4:=by
    rintro e rfl;room;rw[BE g4,BF g4]
    rwa[qr h1 λS5 x5 g5=>#[rfl,?_]]
    erw[q _ _ _ _ _ (((Ext.fr x2).trans f3).trans (f4.trans (Ext.fr x5))) la4.len g5 (by rw[mk.lv];exact la4.ext x5) r4]
   have nl:=mk.nl;rw[Sn] at nl;unfold Yi;room;rw[Gy g4]
   room;rw[gm S4 f4]
   dsimp[aB,anyS,IA];cases e1:null a<;>cases e2:(ms.map og).any (·==lG)<;>dsimp[e1,e2,aw,if_false,if_true,aB,anyS]<;>refine en4 _ ?_<;>rw[nl,e1,e2]<;>simp
  have hs:=Sl ms;have lnk:ms.any Gz=ζ->Rest Γ pLk #[λen S4=>Rest Γ Yi #[λ_ S1=>Q .b7 S1,Q] en S4,Q] [ξ (.loc L),ξ (enc t),ξ (.loc S.length),ξ (enc a),ξ (.loc p),ψ] S3:=by
   intro z;unfold pLk;room;rw[la3.o,bZ]
   refine#[#[rfl,rfl],?_];rw[BF g3,BE g3]
   rwa[ca h3 #[L,_,bh1,en,Z,F,rfl,la3,by rw[ra.len];omega,λp hp'=>?_,λS4 bh2 f4 la4 lk=>?_]]
   .rw[ra.z,ar] at hp'
    have:=(fB hpa).mp hp'.1;rw[ra.len];omega
   .erw[Rest.go (fin2 S4 bh2 f4 la4 (EV mk hpa hb ra (by rw[if_pos z];exact lk)))]
  room;rw[gm S3 .refl]
  dsimp[aB,anyS];cases e1:(ms.map og).any (·==lG)<;>cases e2:(ms.map og).any (·==o7)<;>rw[e1,e2] at hs<;>dsimp[e1,e2,aw,if_false,if_true,aB,anyS]
  .erw[Rest.go (fin2 S3 bh1 .refl la3 (EV mk hpa hb ra (by rw[if_neg (by simp[hs])])))]
  .erw[lnk hs]
  .erw[lnk hs]
  .erw[lnk hs]
 unfold fL;room;refine#[#v[],?_];room;have x0:Ext S (S++[SO.lst []]):=Ext.app _;have g0:(S++[SO.lst []])[S.length]?=ξ (.lst (([]:List Mk).map λm=>U.str (og m))):=by simp
 have dt:bM t<=d:=%[et|da]
 refine#[bM t+1,mw (λn env S2=>∃ms a,n=bM a/\O3 t ms a/\(a=t\/bM a<d)/\ms.length+bM a<=200/\env=[ξ (.loc L),ξ (enc t),ξ (.loc S.length),ξ (enc a),ψ,ψ]/\(∀n,n<S.length->S2[n]?=S[n]?)/\S2[S.length]?=ξ (.lst (ms.map λm=>U.str (og m)))) ?_ _ (bM t) _ _ ∅ #[[],t,rfl,.zero t,.inl rfl,(·),rfl,x0.2,g0]];rintro n env S2 K ⟨ms,a,rfl,mk,hda,hms,rfl,e2,g2⟩ hK;have out:(∀m a',a≠.rep m a')->bM a<d:=λz=>by
  rcases hda with rfl|z2
  .erw[absurd et (z m0 a0)]
  .erw[z2]
 have stop:∀k x,enc a=.tup [.str k,x]->(lG==k||(o7==k||kH==k))=ϑ->bM a<d->WT Γ (.cU (.cmp .isin (.ix @3 ↑0) (.tup (.cons ↑[115,116,97,114] (.cons ↑[112,108,117,115] (.cons ↑[109,97,121,98,101] .nil)))))) [ξ (.loc L),ξ (enc t),ξ (.loc S.length),ξ (enc a),ψ,ψ] S2
   (λt1 S1=>if t1=ζ then Rest Γ (.cons (.ex (.jL .append @2 (.cons (.ix @3 ↑0) .nil))) (.cons (.set 3 (.ix @3 ↑1)) .nil)) #[K,Q] [ξ (.loc L),ξ (enc t),ξ (.loc S.length),ξ (enc a),ψ,ψ] S1 else Rest Γ pR2 #[λ_ S1=>Q .b7 S1,Q] [ξ (.loc L),ξ (enc t),ξ (.loc S.length),ξ (enc a),ψ,ψ] S1):=by
  intro k x ek ek2 da;have:=fin ms a S2 mk da e2 g2;rw[ek] at this ⊢;room;rw[oX,aW]
  refine#[#v[],#v[],?_];rw[in3,ek2]
  erw[this]
 cases a with
 |one k l=>erw[stop _ _ rfl rfl (out λ_ _ z=>nomatch z)]
 |row a b=>erw[stop _ _ rfl rfl (out λ_ _ z=>nomatch z)]
 |or a b=>erw[stop _ _ rfl rfl (out λ_ _ z=>nomatch z)]
 |rep m a=>
  have ek:enc (.rep m a)= .tup [.str (og m),enc a]:=rfl;have dr:bM (.rep m a)=bM a+1:=rfl;rw[ek]
  room;rw[oX,aW]
  refine#[#v[],#v[],?_];rw[in3,NW]
  room;rw[g2]
  dsimp[aB,oX,mI,aW];refine#[trivial,#v[],(·),?_];room;dsimp[mI,aW];refine#[#v[],?_];try room
  refine hK (bM a) _ _ ∅ #[ms++[m],a,rfl,mk.next,.inr (by rcases hda with rfl|z<;>omega),(·),rfl,λn hn=>?_,by rw[gs g2];simp];rw[ak ∅];exact e2 n hn
section
variable{Γ:bY}{D:Ends}{env:Env}{S:bG}{i:Nat}{k k':List Nat}{x:U}{a b ss:dC}
def se(h:env[i]?=ξ (ξ (.tup [.str k,x])))(e:(k==k')=ζ)(q:Rest Γ a #[λen S1=>Rest Γ ss D en S1,D.rt] env S):Rest Γ (.cons (.ifs (.cU (.cmp .eq (.ix (.var i) ↑0) (.lit (.str k')))) a b) ss) D env S:=by
 room;rw[h]
 dsimp[xT,Er,oX,aW,OM,Vk,e,if_true];exact#[#v[],q]
def jE(h:env[i]?=ξ (ξ (.tup [.str k,x])))(e:(k==k')=ϑ)(q:Rest Γ ss D env S):Rest Γ (.cons (.ifs (.cU (.cmp .eq (.ix (.var i) ↑0) (.lit (.str k')))) a .nil) ss) D env S:=by
 room;rw[h]
 dsimp[xT,Er,oX,aW,OM,Vk,e,aw,if_false];exact#[#v[],q]
end
def So(Γ:bY)(d:Nat)(h1:Γ "Layout.lay_place"=ie λt u=>∃n l,t=.one n l/\u=.str l)(h2:Γ "Layout.lay_row"=ie λt u=>∃a b,t=.row a b/\bM a<d/\bM b<d/\u=.tup [enc a,enc b])
  (h3:Γ "Layout.lay_choice"=ie λt u=>∃a b,t=.or a b/\bM a<d/\bM b<d/\u=.tup [enc a,enc b]) (h4:Γ "Layout.lay_repeat"=ie λt u=>∃m a,t=.rep m a/\bM a<d/\u=enc t):Keeps Γ kR 0 (ie (Tu (d+1))):=by
 rintro us S Q ⟨L,sg,bh,en,t,u,rfl,⟨dt,rfl⟩,h,hp,hb,hl,q⟩;unfold kR;cases t with
 |one n l=>
  rwa[se rfl rfl ?_];dsimp[enc];room;rw[h.o,bZ,mI]
  exact#[#[rfl,rfl],#v[],ca h1 #[L,sg,bh,en,_,_,rfl,#[n,l,rfl,rfl],h,hp,hb,hl,q]]
 |row a b=>
  have dt:max (bM a) (bM b)+1<d+1:=dt;rwa[jE rfl rfl (se rfl rfl ?_)];dsimp[enc];room;rw[h.o,bZ,mI]
  exact#[#[rfl,rfl],#v[],ca h2 #[L,sg,bh,en,_,_,rfl,#[a,b,rfl,∅,∅,rfl],h,hp,hb,hl,q]]
 |or a b=>
  have dt:max (bM a) (bM b)+1<d+1:=dt;rwa[jE rfl rfl (jE rfl rfl (se rfl rfl ?_))];dsimp[enc];room;rw[h.o,bZ,mI]
  exact#[#[rfl,rfl],#v[],ca h3 #[L,sg,bh,en,_,_,rfl,#[a,b,rfl,∅,∅,rfl],h,hp,hb,hl,q]]
 |rep m a=>
  have dt:bM a+1<d+1:=dt;have k1:(og m==NM)=ϑ/\(og m==DD)=ϑ/\(og m==T7)=ϑ:=by cases m<;>exact#[rfl,rfl,rfl]
  rwa[jE rfl k1.1 (jE rfl k1.2.1 (jE rfl k1.2.2 ?_))];room;rw[h.o,bZ]
  exact#[#[rfl,rfl],ca h4 #[L,sg,bh,en,_,_,rfl,#[m,a,rfl,∅,rfl],h,hp,hb,hl,q]]
abbrev oz(f:List Nat->Bool)(sg:List (List Nat))(p:Nat):Bool:=((sg[p]?).map f).getD ϑ
def yu(f:List Nat->Bool)(sg:List (List Nat))(hg:g S)(hl:sg.length<=100)
  (hc:∀(i:Nat)l k,k (f l) S->c (.tup [aR i,.str l]) S k) (he:∀(i:Nat)l k,i<=100->k (aR (1<<<i)) S->e (.tup [aR i,.str l]) S k)
  (q:∀(is:List Int)(b:Nat),is.sum=b->(∀p,b.testBit p=oz f sg p)->Q (is.map .int) S):mY g c e Q ((sg.map U.str).mapIdx λi u=>.tup [.int (i:Nat),u]) [] S:=by
 rwa[fO _ (λi acc S'=>S'=S/\∃(is:List Int)(b:Nat),acc=is.map .int/\is.sum=b/\b<2^i/\is.length<=i/\∀p,b.testBit p=(decide (p<i)&&oz f sg p)) (λi acc S' hi h=>?_) (λi u acc S' k hu hi hk=>?_) (λacc S' h=>?_) #[rfl,[],0,rfl,rfl,#v[],#v[],#v[]]]
 .let#[rfl,is,b,rfl,_,_,hl',_]:=h
  simp at hi;exact#[hg,(·)]
 .let#[rfl,is,b,rfl,h1,h2,h3,h4]:=hi
  dsimp[fD,aC] at hu;cases es:sg[i]? with
  |none=>rw[es] at hu;simp at hu
  |some l=>
   rw[es] at hu;dsimp[i4,pY] at hu;subst hu;have il:=(ag.mp es).1;have hi:oz f sg i=f l:=by unfold oz;rw[es];rfl
   rwa[hc i l _ ?_];cases z:f l with
   |false=>
    rw[if_neg (#v[])]
    rwa[hk _ _ #[rfl,is,b,rfl,h1,by rw[gG];omega,∅,λp=>?_]];rw[h4]
    by_cases zp:p=i
    .subst zp;simp[hi,z]
    .have:(p<i)↔(p<i+1):=∅
     dsimp[this]
   |true=>
    rw[if_pos rfl]
    rwa[he i l _ ∅ (hk _ _ #[rfl,is++[((1<<<i:Nat):Int)],2^i+b,#v[],?_,by rw[gG];omega,(·),λp=>?_])]
    .rw[wG,h1,uu];simp;omega
    .by_cases zp:p=i
     .subst zp
      rw[Nat.testBit_two_pow_add_eq,Cr h2];simp[hi,z]
     .by_cases zl:p<i
      .rw[Nat.testBit_two_pow_add_gt zl,h4]
       simp[zl,bc zl]
      .rw[Cr (av (show 2^i+b<2^(i+1) by rw[gG];omega) (bz ∅ ∅))]
       have:¬p<i+1:=∅
       simp[this]
 .let#[rfl,is,b,rfl,h1,_,_,h4]:=h
  rwa[q is b h1 λp=>?_]
  rw[h4]
  dsimp[lZ,ae];by_cases z:p<sg.length
  .simp[z]
  .unfold oz
   rw[dO ∅];simp
def BH(h:oz f sg p=ζ):∃l,sg[p]?=ξ l/\f l=ζ:=by
 unfold oz at h;cases e:sg[p]? with
 |none=>rw[e] at h;simp at h
 |some l=>rw[e] at h;exact#[l,rfl,h]
abbrev O4:Spec:=λus S Q=>∃L sg bh en c,us=[.loc L,.str [c]]/\r9 S L sg bh en/\sg.length<=100/\∀(b:Nat)S',Ext S S'->(∀p,b.testBit p=oz (·.contains c) sg p)->Q (aR b) S'
def Sr(Γ:bY):Keeps Γ gf 0 O4:=by
 rintro us S Q ⟨L,sg,bh,en,c,rfl,h,hl,q⟩;unfold gf;room;rw[Kc h]
 room;rw[h.s,aB]
 rwa[yu (·.contains c) sg h.s hl (λi l k z=>?_) (λi l k hi z=>?_) λis b e hb=>?_]
 .room
  erw[z]
 .room
  exact#[∅,z]
 .exact#[is,#v[],%[e|q b _ (Ext.app _) hb]]
abbrev BI(l:List Nat):Bool:=!(l==[])
abbrev xF(sg:List (List Nat))(bh en:List Nat)(P:Nat->Prop):Prop:=(∀(Z p:Nat),Z∈en->Z.testBit p=ζ->oz BI sg p=ζ->P p)/\∀(q B p:Nat),oz BI sg q=ζ->bh[q]?=ξ B->B.testBit p=ζ->P p->P q
structure Lx(sg:List (List Nat))(bh en:List Nat)(u:Nat):Prop where
 e:∀(Z p:Nat),Z∈en->Z.testBit p=ζ->oz BI sg p=ζ->u.testBit p=ζ
 b:∀(q B p:Nat),oz BI sg q=ζ->bh[q]?=ξ B->B.testBit p=ζ->u.testBit p=ζ->u.testBit q=ζ
 m:∀P,xF sg bh en P->∀p,u.testBit p=ζ->P p
abbrev Wh:Spec:=λus S Q=>∃L sg bh en,us=[.loc L]/\r9 S L sg bh en/\sg.length<=100/\bh.length=sg.length/\∀(u:Nat)S',Ext S S'->Lx sg bh en u->Q (aR u) S'
def Wi(Γ:bY)(h1:Γ "members"=BD):Keeps Γ iX 5 Wh:=by
 rintro us S Q ⟨L,sg,bh,en,rfl,h,hl,hb,q⟩;unfold iX;room;rw[Kc h]
 room;rw[h.s,aB]
 rwa[yu BI sg h.s hl (λi l k z=>?_) (λi l k hi z=>?_) λis T e hT=>#[is,#v[],?_]]
 .room
  erw[z]
 .room
  exact#[∅,z]
 rw[e]
 have x0:Ext S (S++[SO.lst (is.map U.int)]):=Ext.app _;have h':=h.ext x0;generalize S++[SO.lst (is.map U.int)]=S0 at x0 h';have Tlt:∀p,T.testBit p=ζ->p<sg.length:=λp hp=>by
  rw[hT] at hp;let#[l,e,_]:=BH hp;exact(ag.mp e).1
 have Tl:T<2^sg.length:=jY Tlt;room;rw[Sg h']
 room;rw[h'.e,aB]
 refine dy (λi env S2=>S2=S0/\∃(gr:Nat)(x3:Option U),env=[ξ (.loc L),ξ (aR T),ξ (aR gr),x3,ψ,ψ]/\gr<2^sg.length/\(∀(Z p:Nat),Z∈en.take i->Z.testBit p=ζ->T.testBit p=ζ->gr.testBit p=ζ)/\∀P,xF sg bh en P->∀p,gr.testBit p=ζ->P p) (λi env S2 z=>z.1▸h'.e) _ ?_ ?_ #[rfl,0,ψ,rfl,Nat.two_pow_pos _,#v[],λP _ p z=>by simp at z]
 .rintro i u env S2 K hu ⟨rfl,gr,x3,rfl,hgr,inv,only⟩ hK
  let#[Z,hZ,rfl]:=dY hu;room;have et:=Kb hZ;rwa[hK _ _ #[rfl,gr|||(Z&&&T),_,rfl,Lj hgr (jY λp hp=>?_),λZ' p m h1 h2=>?_,λP cl p hp=>?_]]
  .rw[cA,ar] at hp;erw[Tlt p hp.2]
  .rw[et] at m
   rw[cV,cA]
   rcases aL.mp m with m|m
   .rw[inv Z' p m h1 h2];rfl
   .simp at m;subst m;rw[h1,h2];simp
  .rw[cV,cA,bq,ar] at hp
   rcases hp with hp|⟨z1,z2⟩
   .erw[only P cl p hp]
   .erw[cl.1 Z p (ah hZ) z1 (by rw[<-hT];exact z2)]
 .rintro env S2 ⟨rfl,gr,x3,rfl,hgr,inv,only⟩
  room;rw[ae,bP] at inv;have out:∀{S3:bG}{u:Nat},Ext S S3->(∀p,gr.testBit p=ζ->u.testBit p=ζ)->(∀(q B p:Nat),T.testBit q=ζ->bh[q]?=ξ B->B.testBit p=ζ->u.testBit p=ζ->u.testBit q=ζ)->(∀P,xF sg bh en P->∀p,u.testBit p=ζ->P p)->Q (aR u) S3:=λx3 a b c=>
   q _ _ x3 #[λZ p m z1 z2=>a p (inv Z p m z1 (%[hT|z2])),λq B p z1=>b q B p (%[hT|z1]),c]
  refine#[2^sg.length+1,mw (λn env S3=>∃(g2 u:Nat)(x3 x5:Option U),n=2^sg.length-u/\env=[ξ (.loc L),ξ (aR T),ξ (aR g2),x3,ξ (aR u),x5]/\Ext S S3/\r9 S3 L sg bh en/\u<=g2/\g2<2^sg.length/\(∀p,gr.testBit p=ζ->g2.testBit p=ζ) /\
   (∀(q B p:Nat),T.testBit q=ζ->bh[q]?=ξ B->B.testBit p=ζ->u.testBit p=ζ->g2.testBit q=ζ)/\∀P,xF sg bh en P->∀p,g2.testBit p=ζ->P p) ?_ _ (2^sg.length) _ _ ∅ #[gr,0,x3,ψ,∅,rfl,x0,h',∅,hgr,λ_ z=>z,λq B p _ _ _ z=>by simp at z,only]]
  rintro n env S3 K ⟨g2,u,x3,x5,rfl,rfl,x3',h3,hu,hg,ia,ib,ic⟩ hK;room;by_cases z:g2=u
  .subst z
   dsimp[beq_self_eq_true,bH,aw,if_false];room;erw[out x3' ia ib ic]
  .have:((g2:Int)== (u:Int))=ϑ:=by
    rw[beq_eq_false_iff_ne];omega
   dsimp[this,bV,if_true];room;rwa[ca h1 #[T,rfl,av Tl (bz ∅ hl),λm S4 x4 hm g4=>?_]];room;rw[g4,aB]
   have h4:=h3.ext x4;refine dy (λi env S5=>S5=S4/\∃(g3:Nat)(x5:Option U),env=[ξ (.loc L),ξ (aR T),ξ (aR g3),x3,ξ (aR g2),x5]/\g2<=g3/\g3<2^sg.length/\(∀p,g2.testBit p=ζ->g3.testBit p=ζ) /\
    (∀(q B p:Nat),q∈(DI T).take i->bh[q]?=ξ B->B.testBit p=ζ->g2.testBit p=ζ->g3.testBit q=ζ)/\∀P,xF sg bh en P->∀p,g3.testBit p=ζ->P p) (λi env S5 z=>z.1▸g4) _ ?_ ?_ #[rfl,g2,x5,rfl,aq _,hg,λ_ z=>z,#v[],ic]
   .rintro i v env S5 K' hv ⟨rfl,g3,x5,rfl,j1,j2,j3,j4,j5⟩ hK'
    let#[p,hp,rfl]:=dY hv;have pT:=lH.mp (ah hp);have pl:=Tlt p pT;have et:=Kb hp;room;rw[Kd h4]
    room;rw[h4.b,aB,iz]
    rwa[uT (ab ∅) ?_];room;by_cases w:(((bh[p]'∅&&&g2:Nat):Int) !=0)=ζ
    .rw[if_pos w]
     room;refine#[∅,?_];try room
     rwa[hK' _ _ #[rfl,g3|||1<<<p,_,rfl,aF j1 Nat.left_le_or,Lj j2 (jY λr hr=>?_),λr hr=>by rw[cV,j3 r hr];rfl,λq B r m e1 e2 e3=>?_,λP cl r hr=>?_]]
     .rw[sd] at hr;have:=eq_of_beq hr;omega
     .rw[et] at m
      rw[cV,sd]
      rcases aL.mp m with m|m
      .rw[j4 q B r m e1 e2 e3];rfl
      .simp at m;subst m;simp
     .rw[cV,sd,bq] at hr
      rcases hr with hr|hr
      .erw[j5 P cl r hr]
      .have:=eq_of_beq hr
       subst this;let#[s,hs]:=zJ.mp w;rw[cA,ar] at hs;erw[cl.2 _ _ s (by rw[<-hT];exact pT) (ab ∅) hs.1 (ic P cl s hs.2)]
    .rw[if_neg w]
     room;rwa[hK' _ _ #[rfl,g3,_,rfl,j1,j2,j3,λq B r m e1 e2 e3=>?_,j5]];rw[et] at m;rcases aL.mp m with m|m
     .erw[j4 q B r m e1 e2 e3]
     .simp at m;subst m
      rwa[absurd (zJ.mpr #[r,?_]) w];rw[ab ∅] at e1;injection e1 with e1
      rw[e1,cA,e2,e3];rfl
   .rintro env S5 ⟨rfl,g3,x5,rfl,j1,j2,j3,j4,j5⟩
    rw[ae,bP] at j4;room;erw[hK (2^sg.length-g2) _ _ ∅ #[g3,g2,_,_,rfl,rfl,x3'.trans x4,h4,j1,j2,λp hp=>j3 p (ia p hp),λq B p z1=>j4 q B p (lH.mpr z1),j5]]
abbrev kz(f:List Nat->Bool):List (List Nat)->Nat
 |[]=>0
 |l::r=>(if f l=ζ then 1 else 0)+2*kz f r
def we:∀{sg:List (List Nat)}{p:Nat},(kz f sg).testBit p=oz f sg p
 |[],p=>by simp[kz,oz]
 |l::r,0=>by
  unfold kz oz;rw[Nat.testBit_zero]
  cases z:f l<;>simp[z]<;>omega
 |l::r,p+1=>by
  unfold kz;have e:((if f l=ζ then 1 else 0)+2*kz f r)/2=kz f r:=by split<;>omega
  rw[Nat.testBit_succ,e,we]
  rfl
section
variable{S S1 S2:bG}{r n:Nat}{o:SO}
def oA(a:Old r S S1)(h:S[n]?=ξ o)(ne:n≠r):S1[n]?=ξ o:=(a.2 n (aT h) ne).trans h
def Wj(a:Old r S S1)(b:Ext S1 S2):Old r S S2:=a.trans (Ext.old b)
def GD{c f:String}{fs:List (String×U)}{v:U}{K:bG->Prop}(h:S[r]?=ξ (.ins c fs))(hl:fs.length<100)(q:∀S',Old r S S'->S'.length=S.length->S'[r]?=ξ (.ins c (iy f v fs))->K S'):
  qE S[r]? λc fs=>fs.length<100/\K (S.set r (.ins c (iy f v fs))):=by
 rw[h,bZ]
 exact#[hl,q _ (lU.set h).old (#v[]) (gs h)]
end
structure Kg(S:bG)(P:Nat)(bh en:List Nat)(tk:Nat->Nat):Prop where
 o:∃b e k,S[P]?=ξ (.ins "Places" [("behind",.loc b),("ends",.loc e),("takers",.loc k)])/\S[b]?=ξ (.lst (bh.map aR))/\S[e]?=ξ (.lst (en.map aR))/\S[k]?=ξ (.eh (SG.map λc=>(.str [c],aR (tk c))))
def Kg.ext{S S':bG}{P:Nat}{bh en:List Nat}{tk:Nat->Nat}(h:Kg S P bh en tk)(x:Ext S S'):Kg S' P bh en tk:=by
 let#[b,e,k,h1,h2,h3,h4]:=h.o;exact#[b,e,k,x.get h1,x.get h2,x.get h3,x.get h4]
abbrev Kh:Spec:=λus S Q=>∃P L sg bh en,us=[.loc P,.loc L]/\S[P]?=ξ (.ins "Places" [])/\S.length=P+1/\r9 S L sg bh en/\sg.length<=100/\bh.length=sg.length/\en.length<=100 /\
 ∀u S',Lx sg bh en u->(∀n,n<P->S'[n]?=S[n]?)->Kg S' P (bh.map (·&&&u)) en (λc=>kz (·.contains c) sg)->Q .b7 S'
def O5:(SG.map λc=>[c]).Nodup:=⋯
def Wk(Γ:bY)(h1:Γ "useful_places"=Wh)(h2:Γ "places_that_take"=O4):Keeps Γ ki 1 Kh:=by
 rintro us S Q ⟨P,L,sg,bh,en,rfl,hP,hs,h,hl,hb,he,q⟩;unfold ki;have nd:=O5;generalize hG:SG=G at nd;have gl:G.length=95:=by rw[<-hG];rfl
 room;refine ca h1 #[L,sg,bh,en,rfl,h,hl,hb,λu S1 x1 hu=>?_];have la:=h.ext x1;have hP1:=x1.get hP;have ne:L+4<=P:=by
  have:=h.len;have n0:¬L=P:=λz=>by rw[z] at h;rw[h.o] at hP;simp at hP
  have n1:¬L+1=P:=λz=>by rw[<-z,h.s] at hP;simp at hP
  have n2:¬L+2=P:=λz=>by rw[<-z,h.b] at hP;simp at hP
  have n3:¬L+3=P:=λz=>by rw[<-z,h.e] at hP;simp at hP
  omega
 room;rw[Kd la]
 room;rw[la.b,aB]
 refine yt (S:=S1) _ (λ_=>ζ) (λv=>match v with|.int i=>aR (i.toNat&&&u)|v=>v) la.b ((·)) (λv k _ z=>z.1 rfl) (λv k hv _ z=>?_) ?_
 .let#[B,_,rfl]:=bD.mp hv
  room;erw[z]
 have e1:(List.filter (λ_=>ζ) (bh.map aR)).map (λv=>match v with|.int i=>aR (i.toNat&&&u)|v=>v)=(bh.map (·&&&u)).map aR:=by
  rw[List.filter_eq_self.mpr (λ_ _=>rfl),bw,bw];rfl
 rw[e1]
 have x2:Ext S1 (S1++[SO.lst ((bh.map (·&&&u)).map aR)]):=Ext.app _;have g2:(S1++[SO.lst ((bh.map (·&&&u)).map aR)])[S1.length]?=ξ (.lst ((bh.map (·&&&u)).map aR)):=by simp
 have n2:S1.length≠P:=by have:=x1.1;omega
 generalize S1.length=b at g2 n2;generalize S1++[SO.lst ((bh.map (·&&&u)).map aR)]=S2 at g2 x2;rwa[GD (x2.get hP1) (#v[]) λS3 o3 l3 hP3=>?_]
 have la3:r9 S3 L sg bh en:=by
  have:=la.ext x2;exact#[oA o3 this.o ∅,oA o3 this.s ∅,oA o3 this.b ∅,oA o3 this.e ∅]
 have g3:=oA o3 g2 n2;have o13:=(Ext.old (r:=P) (x1.trans x2)).trans o3;room;rw[Sg la3]
 room;rw[la3.e,aB]
 have x4:Ext S3 (S3++[SO.lst (en.map aR)]):=Ext.app _;have g4:(S3++[SO.lst (en.map aR)])[S3.length]?=ξ (.lst (en.map aR)):=by simp
 have n4:S3.length≠P:=by have:=o13.1;omega
 generalize S3.length=e at g4 n4;generalize S3++[SO.lst (en.map aR)]=S4 at g4 x4;rwa[GD (x4.get hP3) (by simp[iy]) λS5 o5 l5 hP5=>?_]
 have la5:r9 S5 L sg bh en:=by
  have:=la3.ext x4;exact#[oA o5 this.o ∅,oA o5 this.s ∅,oA o5 this.b ∅,oA o5 this.e ∅]
 have o15:=(Wj o13 x4).trans o5;have g35:=oA o5 (x4.get g3) n2;have g45:=oA o5 g4 n4;room;rwa[fO _ (λi acc S6=>i<=G.length/\Ext S5 S6/\acc=(G.take i).map λc=>.tup [.str [c],aR (kz (·.contains c) sg)]) (λi acc S6 hi z=>#[trivial,?_]) (λi v acc S6 k hv hi hk=>?_) (λacc S6 z=>?_) #[∅,.refl,rfl]]
 .rw[z.2.2];simp;omega
 .let#[_,x6,rfl]:=hi
  let#[c,hc,rfl]:=dY hv;have et:=Kb hc;room;rwa[ca h2 #[L,sg,bh,en,c,rfl,la5.ext x6,hl,λb S7 x7 hb=>#[#v[],?_]]];have eb:b=kz (·.contains c) sg:=kN λp=>by rw[hb,we]
  subst eb;erw[hk _ _ #[(ag.mp hc).1,x6.trans x7,by rw[et,aG];rfl]]
 let#[_,x6,rfl]:=z;rw[ae,bP]
 refine#[G.map λc=>([c],aR (kz (·.contains c) sg)),by simp[cH],%[bw|nd],?_];rw[bw]
 have x7:Ext S6 (S6++[SO.lst (G.map λc=>.tup [.str [c],aR (kz (·.contains c) sg)])]++[SO.eh (G.map ((λp=>(U.str p.1,p.2))∘λc=>([c],aR (kz (·.contains c) sg))))]):=(Ext.app _).trans (Ext.app _);have g7:(S6++[SO.lst (G.map λc=>.tup [.str [c],aR (kz (·.contains c) sg)])]++[SO.eh (G.map ((λp=>(U.str p.1,p.2))∘λc=>([c],aR (kz (·.contains c) sg))))])[(S6++[SO.lst (G.map λc=>.tup [.str [c],aR (kz (·.contains c) sg)])]).length]?=ξ (.eh (G.map λc=>(.str [c],aR (kz (·.contains c) sg)))):=by
  rw[ax (aq _),bL];rfl
 have n7:(S6++[SO.lst (G.map λc=>.tup [.str [c],aR (kz (·.contains c) sg)])]).length≠P:=by
  have:=o15.1;have:=x6.1;rw[aj];omega
 generalize (S6++[SO.lst (G.map λc=>.tup [.str [c],aR (kz (·.contains c) sg)])]).length=k at g7 n7;generalize S6++[SO.lst (G.map λc=>.tup [.str [c],aR (kz (·.contains c) sg)])]++[SO.eh (G.map ((λp=>(U.str p.1,p.2))∘λc=>([c],aR (kz (·.contains c) sg))))]=S7 at g7 x7;rwa[GD ((x6.trans x7).get hP5) (by simp[iy]) λS8 o8 l8 hP8=>?_]
 room;subst hG;erw[q u S8 hu (λn hn=>((Wj o15 (x6.trans x7)).trans o8).2 n ∅ ∅) #[b,e,k,hP8,oA o8 ((x6.trans x7).get g35) n2,oA o8 ((x6.trans x7).get g45) n4,oA o8 g7 n7]]
abbrev Ss(bh:List Nat)(h r:Nat):Prop:=∀p,r.testBit p=ζ↔∃q B,h.testBit q=ζ/\bh[q]?=ξ B/\B.testBit p=ζ
abbrev Ki:Spec:=λus S Q=>∃P bh en tk h,us=[.loc P,aR h]/\Kg S P bh en tk/\bh.length<=100/\(∀p,h.testBit p=ζ->p<bh.length)/\∀r S',Ss bh h r->Ext S S'->Q (aR r) S'
def Wl(Γ:bY)(h1:Γ "members"=BD):Keeps Γ iY 2 Ki:=by
 rintro us S Q ⟨P,bh,en,tk,h,rfl,pa,hl,hh,q⟩;unfold iY;room;rwa[ca h1 #[h,rfl,av (jY hh) (bz ∅ hl),λn S1 x1 hn g1=>?_]];let#[b,e,k,o,gb,_,_]:=(pa.ext x1).o;have fb:∀{r},oW (.loc P) "behind" S1 r=r (.loc b):=by intro r;rw[jd,o];rfl
 room;rw[g1,aB]
 rwa[dy (λi env S2=>S2=S1/\∃(r:Nat)(x3:Option U),env=[ξ (.loc P),ξ (aR h),ξ (aR r),x3]/\∀p,r.testBit p=ζ↔∃q B,q∈(DI h).take i/\bh[q]?=ξ B/\B.testBit p=ζ) (λi env S2 z=>z.1▸g1) _ ?_ ?_ #[rfl,0,ψ,rfl,#v[]]]
 .rintro i u env S2 K hu ⟨rfl,r,x3,rfl,inv⟩ hK
  let#[p,hp,rfl]:=dY hu;have pl:=hh p (lH.mp (ah hp));have et:=Kb hp;room;rw[fb]
  room;rw[gb,aB,iz]
  rwa[uT (ab pl) ?_];room;rwa[hK _ _ #[rfl,_,_,rfl,λp'=>?_]];rw[cV,bq,inv,et]
  constructor
  .rintro(⟨q,B,m,e1,e2⟩|e2)
   .exact#[q,B,bN _ m,e1,e2]
   .exact#[p,_,bf _ (#v[]),ab pl,e2]
  .rintro⟨q,B,m,e1,e2⟩
   rcases aL.mp m with m|m
   .erw[.inl #[q,B,m,e1,e2]]
   .simp at m;subst m
    rw[ab pl] at e1;injection e1 with e1
    erw[.inr (by rw[e1];exact e2)]
 .rintro env S2 ⟨rfl,r,x3,rfl,inv⟩
  room;rwa[q r _ (λp=>?_) x1];rw[inv,ae,bP]
  dsimp[lH]
abbrev Ov(h:Nat)(en:List Nat)(i:Nat):Prop:=∃Z,en[i]?=ξ Z/\∃p,h.testBit p=ζ/\Nat.testBit Z p=ζ
abbrev uN:Option Nat->U
 |none=>.b7
 |some i=>aR i
abbrev Yj(h:Nat)(en:List Nat):Option Nat->Prop
 |none=>∀i,¬Ov h en i
 |some i=>Ov h en i/\∀i',i'<i->¬Ov h en i'
abbrev Kj:Spec:=λus S Q=>∃P bh en tk h,us=[.loc P,aR h]/\Kg S P bh en tk/\∀r,Yj h en r->Q (uN r) S
def Wm(Γ:bY):Keeps Γ fM 2 Kj:=by
 rintro us S Q ⟨P,bh,en,tk,h,rfl,pa,q⟩;unfold fM;let#[b,e,k,o,_,ge,_]:=pa.o;have fe:∀{r},oW (.loc P) "ends" S r=r (.loc e):=by intro r;rw[jd,o];rfl
 room;rw[fe]
 room;rw[ge,aB]
 rwa[dy (λi env S2=>S2=S/\∃(x2 x3:Option U),env=[ξ (.loc P),ξ (aR h),x2,x3]/\∀i',i'<i->¬Ov h en i') (λi env S2 z=>z.1▸ge) _ ?_ ?_ #[rfl,ψ,ψ,rfl,#v[]]]
 .rintro i u env S2 K hu ⟨rfl,x2,x3,rfl,inv⟩ hK
  dsimp[fD,aC,pA] at hu;let#[Z,hZ,rfl]:=au.mp hu;dsimp[cH];room;by_cases w:(((h&&&Z:Nat):Int) !=0)=ζ
  .rw[if_pos w]
   room;let#[p,hp]:=zJ.mp w;rw[cA,ar] at hp;erw[q (ξ i) #[#[Z,hZ,p,hp.1,hp.2],inv]]
  .rw[if_neg w]
   room;rwa[hK _ _ #[rfl,_,_,rfl,λi' hi=>?_]];by_cases z:i'=i
   .subst z
    rintro⟨Z',e1,p,e2,e3⟩;rw[hZ] at e1;injection e1 with e1;subst e1
    erw[w (zJ.mpr #[p,by rw[cA,e2,e3];rfl])]
   .erw[inv i' ∅]
 .rintro env S2 ⟨rfl,x2,x3,rfl,inv⟩
  room;rwa[q ψ λi ov=>?_]
  let#[Z,e1,_]:=ov;exact inv i (by have:=(ag.mp e1).1;simpa using this) #[Z,e1,‹_›]
structure DJ(ts:List Tr)(sg:List (List Nat))(bh en:List Nat):Prop where
 len:bh.length=sg.length
 GF:en.length=ts.length
 dis:∀(i j:Nat)t t' p,ts[i]?=ξ t->ts[j]?=ξ t'->IN t p=ζ->IN t' p=ζ->i=j
 pos:∀t∈ts,∃n,0<n/\oo n t
 sgn:∀t∈ts,∀p,IN t p=ζ->sg[p]?=ξ (sgn t p)
 b0:∃B,bh[0]?=ξ B/\∀p,B.testBit p=ζ↔∃t∈ts,FS t p=ζ
 b:∀t∈ts,∀q,IN t q=ζ->∃B,bh[q]?=ξ B/\∀p,B.testBit p=om (cont t q) p
 e:∀(i:Nat)t,ts[i]?=ξ t->∃Z,en[i]?=ξ Z/\∀p,Z.testBit p=(IN t p&&eY (cont t p))
 nl:∀t∈ts,null t=ϑ
section
variable{ts:List Tr}{sg:List (List Nat)}{bh en:List Nat}{u r r' c:Nat}{w:List Nat}
abbrev O6(ts:List Tr)(u:Nat)(w:List Nat)(r:Nat):Prop:=∀p,r.testBit p=ζ↔(∃t∈ts,∃q,hs t w q/\om (ct t q) p=ζ)/\u.testBit p=ζ
def zL{q B:Nat}(h:(bh.map (·&&&u))[q]?=ξ B):∃B',bh[q]?=ξ B'/\B=B'&&&u:=by
 rw[aC] at h;let#[B',h1,h2]:=au.mp h;exact#[B',h1,h2.symm]
def ct0:ct t 0=[t]:=rfl
def T9(h:p≠0):ct t p=cont t p:=by unfold ct;rw[if_neg h]
def Wn:om [t] p=FS t p:=by simp[om]
def GG(A:DJ ts sg bh en)(h:Ss (bh.map (·&&&u)) 1 r):O6 ts u [] r:=by
 intro p;let#[B,e0,b0]:=A.b0;rw[h p]
 constructor
 .rintro⟨q,B',h1,h2,h3⟩
  have q0:=gX.mp h1;subst q0;let#[B2,e2,rfl]:=zL h2;rw[e0] at e2;injection e2 with e2;subst e2
  rw[cA,ar,b0] at h3;let#[#[t,m,f],z]:=h3;exact#[#[t,m,0,rfl,%[ct0,Wn|f]],z]
 .rintro⟨⟨t,m,q,hq,f⟩,z⟩
  have hq:q=0:=hq;subst hq;rw[ct0,Wn] at f;exact#[0,B&&&u,rfl,by rw[aC,e0];rfl,by rw[cA,(b0 p).mpr #[t,m,f],z];rfl]
def sf(A:DJ ts sg bh en)(h:O6 ts u w r)(p:Nat):(r&&&kz (·.contains c) sg).testBit p=ζ↔(∃t∈ts,hs t (w++[c]) p)/\u.testBit p=ζ:=by
 rw[cA,ar,h p,we]
 constructor
 .rintro⟨⟨⟨t,m,q,hq,f⟩,z⟩,k⟩
  let#[l,e1,e2]:=BH k;rw[A.sgn t m p (yq f)] at e1;injection e1 with e1;subst e1
  exact#[#[t,m,by rw[pP];exact#[q,hq,f,gS.mp e2]],z]
 .rintro⟨⟨t,m,hq⟩,z⟩
  rw[pP] at hq;let#[q,hq,f,k]:=hq;refine#[#[#[t,m,q,hq,f],z],?_];unfold oz;rw[A.sgn t m p (yq f)]
  erw[gS.mpr k]
def pQ(A:DJ ts sg bh en)(m:t∈ts)(h:hs t (w++[c]) p):IN t p=ζ/\p≠0/\oz BI sg p=ζ:=by
 rw[pP] at h;let#[q,_,f,k]:=h;have i:=yq f;let#[n,n0,pl]:=A.pos t m;refine#[i,zI pl n0 i,?_];unfold oz;rw[A.sgn t m p i]
 show BI (sgn t p)=ζ
 unfold BI;cases e:ni.sgn t p with
 |nil=>rw[e] at k;simp at k
 |cons a l=>rfl
def Kk(A:DJ ts sg bh en)(U:Lx sg bh en u)(m:t∈ts)(h:hs t (w++[c]) q)(f:om (ct t q) p=ζ)(z:u.testBit p=ζ):u.testBit q=ζ:=by
 let#[i,q0,k]:=pQ A m h;let#[B,e1,e2]:=A.b t m q i;rw[T9 q0] at f;erw[U.b q B p k e1 (by rw[e2];exact f) z]
def wg(A:DJ ts sg bh en)(U:Lx sg bh en u)(h:O6 ts u w r)(hr:Ss (bh.map (·&&&u)) (r&&&kz (·.contains c) sg) r'):O6 ts u (w++[c]) r':=by
 intro p;rw[hr p]
 constructor
 .rintro⟨q,B',h1,h2,h3⟩
  let#[#[t,m,hq],_]:=(sf A h q).mp h1;let#[i,q0,_]:=pQ A m hq;let#[B2,e2,rfl]:=zL h2;let#[B,e1,b1]:=A.b t m q i;rw[e1] at e2;injection e2 with e2;subst e2
  rw[cA,ar,b1] at h3;exact#[#[t,m,q,hq,%[T9 q0|h3.1]],h3.2]
 .rintro⟨⟨t,m,q,hq,f⟩,z⟩
  have uq:=Kk A U m hq f z;let#[i,q0,_]:=pQ A m hq;let#[B,e1,b1]:=A.b t m q i;rw[T9 q0] at f;exact#[q,B&&&u,(sf A h q).mpr #[#[t,m,hq],uq],by rw[aC,e1];rfl,by rw[cA,b1,f,z];rfl]
def NX(A:DJ ts sg bh en)(U:Lx sg bh en u)(m:t∈ts)(h:hs t (w++[c]) p)(n:eY (ct t p)=ζ):u.testBit p=ζ:=by
 let#[i,p0,k]:=pQ A m h;rw[T9 p0] at n;let#[j,ej]:=bj m;let#[Z,e1,e2]:=A.e j t ej;erw[U.e Z p (ah e1) (by rw[e2,i,n];rfl) k]
def Kl(A:DJ ts sg bh en)(U:Lx sg bh en u)(h:O6 ts u w r)(i:Nat):Ov (r&&&kz (·.contains c) sg) en i↔∃t,ts[i]?=ξ t/\En t (hs t (w++[c])):=by
 constructor
 .rintro⟨Z,e1,p,h1,h2⟩
  have hi:i<ts.length:=by rw[<-A.GF];exact(ag.mp e1).1
  let#[Z',e2,b2]:=A.e i _ (ab hi);rw[e1] at e2;injection e2 with e2;subst e2
  rw[b2,ar] at h2;let#[#[t,m,hq],_]:=(sf A h p).mp h1;let#[ip,p0,_]:=pQ A m hq;let#[j,ej]:=bj m;have:=A.dis i j _ t p (ab hi) ej h2.1 ip;subst this;rw[ab hi] at ej;injection ej with ej;subst ej
  exact#[_,ab hi,p,hq,%[T9 p0|h2.2]]
 .rintro⟨t,ei,p,hq,n⟩
  have m:=ah ei;let#[Z,e1,e2]:=A.e i t ei;let#[ip,p0,_]:=pQ A m hq;have up:=NX A U m hq n;rw[T9 p0] at n;exact#[Z,e1,p,(sf A h p).mpr #[#[t,m,hq],up],by rw[e2,ip,n];rfl]
end
abbrev dX(ts:List Tr):Nat:=(ts.map size).sum
abbrev NY:Nat->List Tr->Prop
 |_,[]=>True
 |n,t::ts=>oo n t/\NY (n+size t) ts
def zM:∀{ts:List Tr}{n i:Nat}{t:Tr},NY n ts->ts[i]?=ξ t->oo (n+dX (ts.take i)) t
 |[],n,i,t,h,e=>by simp at e
 |a::ts,n,0,t,h,e=>by
  have:a=t:=by simpa using e
  subst this;erw[h.1]
 |a::ts,n,i+1,t,h,e=>by
  have:=zM (i:=i) h.2 (~~~e);simpa[dX,Nat.add_assoc] using this
def NZ:DJ [] [[]] [0] []:=
 #[rfl,rfl,λi j t t' p h=>by simp at h,λt h=>by simp at h,λt h=>by simp at h,#[0,rfl,λp=>#v[]],λt h=>by simp at h,λi t h=>by simp at h,λt h=>by simp at h]
def Km(A:DJ ts sg bh en)(s0:0<sg.length)(hp:oo sg.length t)(nt:null t=ϑ)(l:uF t bh F Z (B::bt)):DJ (ts++[t]) (sg++pb t) ((B|||F)::bt) (en++[Z]):=by
 have lt:∀t'∈ts,∀p,IN t' p=ζ->p<sg.length:=λt' m p i=>(ag.mp (A.sgn t' m p i)).1
 have ge:∀p,IN t p=ζ->sg.length<=p/\p<sg.length+size t:=λp i=>(fB hp).mp i
 have ll:=gh t;have l1:=l.len;have l2:=A.len;have bs:∀(q C:Nat),0<q->(B::bt)[q]?=ξ C->((B|||F)::bt)[q]?=ξ C:=λq C h e=>by
  cases q with
  |zero=>omega
  |succ q=>erw[e]
 have mem:∀{t'},t'∈ts++[t]->t'∈ts\/t'=t:=λh=>by simpa using h
 have at_:∀{i:Nat}{t'},(ts++[t])[i]?=ξ t'->ts[i]?=ξ t'\/(i=ts.length/\t'=t):=λ{i t'}h=>by
  rw[iH] at h;split at h
  .erw[.inl h]
  .rename_i z
   have il:i=ts.length:=by
    have:=(ag.mp h).1;simp at this;omega
   subst il;simp at h;erw[.inr #[rfl,h.symm]]
 refine#[?_,?_,?_,?_,?_,?_,?_,?_,?_]
 .rw[aj,ll]
  dsimp[aU] at l1 ⊢;omega
 .simp[A.GF]
 .intro i j t1 t2 p e1 e2 i1 i2
  rcases at_ e1 with f1|⟨f1,g1⟩<;>rcases at_ e2 with f2|⟨f2,g2⟩
  .erw[A.dis i j _ _ p f1 f2 i1 i2]
  .have:=lt _ (ah f1) p i1;rw[g2] at i2;have:=ge p i2;omega
  .have:=lt _ (ah f2) p i2;rw[g1] at i1;have:=ge p i1;omega
  .omega
 .intro t' m
  rcases mem m with m|rfl
  .erw[A.pos t' m]
  .exact#[_,s0,hp]
 .intro t' m p i
  rcases mem m with m|rfl
  .rw[ao (lt t' m p i)];erw[A.sgn t' m p i]
  .rw[ax (ge p i).1];erw[tI hp i]
 .let#[B',e,b]:=A.b0
  have:=l.old 0 ∅;rw[e] at this;have eB:B=B':=by simpa using this
  subst eB;refine#[B|||F,rfl,λp=>?_];rw[cV,bq,b,l.f]
  constructor
  .rintro(⟨t',m,f⟩|f)
   .exact#[t',by simp[m],f]
   .exact#[t,#v[],f]
  .rintro⟨t',m,f⟩
   rcases mem m with m|rfl
   .erw[.inl #[t',m,f]]
   .erw[.inr f]
 .intro t' m q i
  rcases mem m with m|rfl
  .let#[C,e,b]:=A.b t' m q i
   have ql:=lt t' m q i;let#[n,n0,pl]:=A.pos t' m;have q0:=zI pl n0 i;exact#[C,bs q C ∅ ((l.old q ∅).trans e),b]
  .let#[C,e,b]:=l.new q i
   have:=ge q i;exact#[C,bs q C ∅ e,b]
 .intro i t' e
  rcases at_ e with e|⟨rfl,rfl⟩
  .let#[Z',e1,b]:=A.e i t' e
   exact#[Z',%[ao (ag.mp e1).1|e1],b]
  .exact#[Z,by rw[<-A.GF];simp,l.z]
 .intro t' m
  rcases mem m with m|rfl
  .erw[A.nl t' m]
  .erw[nt]
abbrev Wo:Spec:=λus S Q=>∃x v t r,us=[.str x,v]/\x.length<=1000/\vZ x=.ok (t,r)/\∀S',Ext S S'->Q t S'
def Wq(Γ:bY)(h1:Γ "read"=DE):Keeps Γ pM 1 Wo:=by
 rintro us S Q ⟨x,v,t,r,rfl,hl,hr,q⟩;unfold pM;room;rwa[ca h1 #[x,rfl,hl,?_]];rw[hr]
 erw[q]
abbrev Wr(ts:List Tr)(xs:List (List Nat)):Prop:=xs.length=ts.length/\∀(i:Nat)t x,ts[i]?=ξ t->xs[i]?=ξ x->x.length<=1000/\∃r,vZ x=.ok (enc t,r)
structure lI(ts:List Tr):Prop where
 len:ts.length<=4
 pl:NY 1 ts
 nl:∀t∈ts,null t=ϑ
 dp:∀t∈ts,bM t<5
 sz:dX ts<=24
def size_take(e:ts[i]?=ξ t):dX (ts.take (i+1))=dX (ts.take i)+size t/\dX (ts.take (i+1))<=dX ts:=by
 have h1:=Kb e;refine#[by rw[h1];simp[dX],?_];have:dX ts=dX (ts.take (i+1))+dX (ts.drop (i+1)):=by
  unfold dX;rw[<-wG,<-aG,Cs]
 omega
abbrev Ws:Spec:=λus S Q=>∃n xs ts M,us=[.loc n,aR M]/\S[n]?=ξ (.lst (xs.map .str))/\Wr ts xs/\lI ts/\dX ts<=M/\∀P u sg bh en S',Kg S' P (bh.map (·&&&u)) en (λc=>kz (·.contains c) sg)->DJ ts sg bh en->Lx sg bh en u->sg.length=1+dX ts->Ext S S'->Q (.loc P) S'
def Wt(Γ:bY)(h1:Γ "Layout.__init__"=Sh)(h2:Γ "Layout.lay"=ie (Tu 5))(h3:Γ "tree_of"=Wo)(h4:Γ "Layout.how_many"=Si)(h5:Γ "Layout.close_rule"=Sj)(h6:Γ "Places.__init__"=Kh):Keeps Γ mi 4 Ws:=by
 rintro us S Q ⟨n,xs,ts,M,rfl,gn,hR,hT,hM,q⟩;unfold mi;have gL:(S++[SO.ins "Layout" []])[S.length]?=ξ (.ins "Layout" []):=by simp
 have nS:=aT gn;room;rwa[ca h1 #[S.length,rfl,gL,#v[],λS1 e1 la1=>#[rfl,?_]]];have x1:∀n,n<S.length->S1[n]?=S[n]?:=λn hn=>by rw[e1 n hn,ao hn]
 have gn1:S1[n]?=ξ (.lst (xs.map .str)):=%[x1 n nS|gn]
 have xl:xs.length<=4:=%[hR.1|hT.len]
 room;dsimp[QC];rw[gn1,aB]
 have ec:qF (xs.map U.str) ψ (ξ 6)=xs.map U.str:=by
  unfold qF;dsimp[j6,eI,Int.toNat_zero,Nat.zero_min,jO,Ct,ae];rw[vd (by show xs.length<=6;omega)]
  erw[jP (#v[])]
 rw[ec]
 refine#[#[λi e=>(by cases e),λi e=>(by injection e with e;omega)],?_];have x2:Ext S1 (S1++[SO.lst (xs.map U.str)]):=Ext.app _;have g2:(S1++[SO.lst (xs.map U.str)])[S1.length]?=ξ (.lst (xs.map .str)):=by simp
 have l1:=la1.len;generalize S1.length=m at g2 l1;generalize S1++[SO.lst (xs.map U.str)]=S2 at g2 x2;room;rw[g2,aB]
 refine dy (λi env S3=>∃(sg:List (List Nat))(bh en:List Nat)(x3 x4 x5:Option U),env=[ξ (.loc n),ξ (aR M),ξ (.loc S.length),x3,x4,x5]/\Fr S.length S2 S3/\r9 S3 S.length sg bh en/\DJ (ts.take i) sg bh en/\sg.length=1+dX (ts.take i)/\i<=ts.length) (λi env S3 h9=>by let#[_,_,_,_,_,_,_,f,_]:=h9;exact f.get g2 l1) _ ?_ ?_
  #[[[]],[0],[],ψ,ψ,ψ,rfl,.refl,la1.ext x2,NZ,rfl,∅]
 .rintro i u env S3 K hu ⟨sg,bh,en,x3,x4,x5,rfl,f3,la3,A,hsg,hi⟩ hK
  dsimp[fD,aC,pA] at hu;let#[x,hx,rfl]:=au.mp hu;have il:i<ts.length:=by rw[<-hR.1];exact(ag.mp hx).1
  have ht:ts[i]?=ξ ts[i]:=ab il;have hm:ts[i]∈ts:=cz il;generalize ts[i]=t at ht hm;let#[xle,r,hr]:=hR.2 i t x ht hx;have pt:=zM hT.pl ht;rw[<-hsg] at pt;let#[s1,s2]:=size_take ht;have sz:=hT.sz;have nt:=hT.nl t hm;dsimp[cH];room;rw[la3.o,bZ]
  refine#[#[rfl,rfl],ca h3 #[x,_,enc t,r,rfl,xle,hr,λS4 x4=>?_]];have la4:=la3.ext x4;rwa[ca h2 #[S.length,sg,bh,en,t,_,rfl,#[hT.dp t hm,rfl],la4,pt,A.len,∅,λS5 p F Z bh' f5 pl5 g5 la5 lr=>?_]];rw[nt] at g5;room;rw[Gy g5]
  room;rw[la5.o,bZ]
  refine#[#[rfl,rfl],ca h4 #[S.length,_,bh',en,rfl,la5,by rw[aj,gh];omega,?_]];have:¬((M:Int)<(((sg++pb t).length:Nat):Int)-1):=by rw[aj,gh];omega
  room;dsimp[this,decide_false,aw,if_false];room;rw[la5.o,bZ]
  have bl:=lr.len;cases bh' with
  |nil=>have:=A.len;simp at bl;omega
  |cons B bt=>
   refine#[#[rfl,rfl],ca h5 #[S.length,_,_,en,p,ϑ,F,Z,B,bt,rfl,la5,rfl,g5,pl5,by rw[A.GF];simp;have:=hT.len;omega,λS6 f6 la6=>?_]];room;have et:=Kb ht;rwa[hK _ _ #[_,_,_,_,_,_,rfl,((f3.trans (Ext.fr x4)).trans f5).trans f6,la6,%[et|Km A ∅ pt nt lr],by rw[aj,gh,s1];omega,il]]
 .rintro env S3 ⟨sg,bh,en,x3,x4,x5,rfl,f3,la3,A,hsg,hi⟩
  rw[lZ,ae,hR.1,bP] at A hsg;have gn3:S3[n]?=ξ (.lst (xs.map .str)):=by
   rw[f3.2 n (by have:=x2.1;have:=aT gn1;omega) (.inl ∅),x2.2 n (aT gn1)];erw[gn1]
  room;rw[kr gn3]
  dsimp[aW,ae];have:¬((6:Int)<(xs.length:Int)):=∅
  refine#[∅,?_];dsimp[this,decide_false,aw,if_false];room;have gP:(S3++[SO.ins "Places" []])[S3.length]?=ξ (.ins "Places" []):=by simp
  have sz:=hT.sz;have sl3:=la3.len;rwa[ca h6 #[S3.length,S.length,sg,bh,en,rfl,gP,#v[],la3.ext (Ext.app _),∅,A.len,by rw[A.GF];have:=hT.len;omega,λu S4 hu e4 pa=>#[rfl,?_]]];let#[_,_,_,oP,_]:=pa.o;rwa[q _ u sg bh en S4 pa A hu hsg #[?_,λn hn=>?_]]
  .have:=aT oP;omega
  .have:=x2.1
   have:=la1.len;rw[e4 n ∅,ao ∅,f3.2 n ∅ (.inl ∅),x2.2 n ∅];erw[x1 n hn]
abbrev er:Tr->Tr
 |.one _ l=>.one 0 l
 |.row a b=>.row (er a) (er b)
 |.or a b=>.or (er a) (er b)
 |.rep m a=>.rep m (er a)
def tK:∀t,enc (er t)=enc t
 |.one _ l=>rfl
 |.row a b=>by dsimp[er,enc,tK a,tK b]
 |.or a b=>by dsimp[er,enc,tK a,tK b]
 |.rep m a=>by dsimp[er,enc,tK a]
def mB:∀t,null (er t)=null t
 |.one _ l=>rfl
 |.row a b=>by dsimp[er,null,mB a,mB b]
 |.or a b=>by dsimp[er,null,mB a,mB b]
 |.rep m a=>by cases m<;>dsimp[er,null,mB a]
def N0:more m (er a)=(more m a).map er:=by cases m<;>rfl
def yw:∀t c,dF (er t) c=(dF t c).map (dB er)
 |.one _ l,c=>by dsimp[er,dF];split<;>rfl
 |.row a b,c=>by
  dsimp[er,dF,yw a,yw b,mB,aG,bw]
  congr 1
  .congr 1;funext x;simp
  .split<;>rfl
 |.or a b,c=>by dsimp[er,dF,yw a,yw b,aG]
 |.rep m a,c=>by
  dsimp[er,dF,yw a,N0,bw]
  congr 1;funext x;simp
def O7:∀(K:List Tr)c,dR (K.map er) c=(dR K c).map (dB er)
 |[],c=>rfl
 |t::K,c=>by
  dsimp[az,dR,yw,O7 K,mB,aG,bw]
  congr 1
  .congr 1;funext x;simp
  .split<;>rfl
def zN(K:List Tr):cL (K.map er)=cL K:=by
 unfold cL;rw[bw]
 congr 2;funext t
 erw[tK t]
def eqT(h:pE (.tup [.str k,x]) (.tup [.str k',y])=ζ):k=k'/\pE x y=ζ:=by
 have h:((k==k')&&(pE x y&&ζ))=ζ:=h;rw[Ao,ar] at h;exact#[eq_of_beq h.1,h.2]
def eqQ(h:pE (.tup [x,x']) (.tup [y,y'])=ζ):pE x y=ζ/\pE x' y'=ζ:=by
 have h:(pE x y&&(pE x' y'&&ζ))=ζ:=h;rw[Ao,ar] at h;erw[h]
def N1(h:pE x y=ζ):pE (.tup [.str k,x]) (.tup [.str k,y])=ζ:=by
 show((k==k)&&(pE x y&&ζ))=ζ
 rw[h];simp
def Wu(h:pE x y=ζ)(h':pE x' y'=ζ):pE (.tup [x,x']) (.tup [y,y'])=ζ:=by
 show(pE x y&&(pE x' y'&&ζ))=ζ
 rw[h,h'];rfl
def qt(m:Mk):og m≠NM/\og m≠DD/\og m≠T7:=by cases m<;>decide
def mk_inj(h:og m=og m'):m=m':=by
 revert h
 cases m<;>cases m'<;>first|exact λ_=>rfl|exact λh=>absurd h ⋯
def tL:∀a b,pE (enc a) (enc b)=ζ->er a=er b
 |.one _ l,.one _ l',h=>by
  have:l=l':=eq_of_beq (show(l==l')=ζ from (eqT h).2);rw[this];rfl
 |.one _ _,.row _ _,h=>absurd (eqT h).1 ⋯
 |.one _ _,.or _ _,h=>absurd (eqT h).1 ⋯
 |.one _ _,.rep m _,h=>absurd (eqT h).1.symm (qt m).1
 |.row _ _,.one _ _,h=>absurd (eqT h).1 ⋯
 |.row a1 a2,.row b1 b2,h=>by
  have h:=eqQ (eqT h).2;dsimp[er,tL a1 b1 h.1,tL a2 b2 h.2]
 |.row _ _,.or _ _,h=>absurd (eqT h).1 ⋯
 |.row _ _,.rep m _,h=>absurd (eqT h).1.symm (qt m).2.1
 |.or _ _,.one _ _,h=>absurd (eqT h).1 ⋯
 |.or _ _,.row _ _,h=>absurd (eqT h).1 ⋯
 |.or a1 a2,.or b1 b2,h=>by
  have h:=eqQ (eqT h).2;dsimp[er,tL a1 b1 h.1,tL a2 b2 h.2]
 |.or _ _,.rep m _,h=>absurd (eqT h).1.symm (qt m).2.2
 |.rep m _,.one _ _,h=>absurd (eqT h).1 (qt m).1
 |.rep m _,.row _ _,h=>absurd (eqT h).1 (qt m).2.1
 |.rep m _,.or _ _,h=>absurd (eqT h).1 (qt m).2.2
 |.rep m a,.rep m' b,h=>by
  have e:=mk_inj (eqT h).1;subst e;dsimp[er,tL a b (eqT h).2]
def m8:∀a,pE (enc a) (enc a)=ζ
 |.one _ l=>N1 (show(l==l)=ζ by simp)
 |.row a b=>N1 (Wu (m8 a) (m8 b))
 |.or a b=>N1 (Wu (m8 a) (m8 b))
 |.rep m a=>N1 (m8 a)
def zO:∀K L:List Tr,wW (K.map enc) (L.map enc)=ζ->K.map er=L.map er
 |[],[],_=>rfl
 |[],_::_,h=>by simp[wW] at h
 |_::_,[],h=>by simp[wW] at h
 |a::K,b::L,h=>by
  dsimp[az,wW,ar] at h ⊢;rw[tL a b h.1,zO K L h.2]
def yx:∀K:List Tr,wW (K.map enc) (K.map enc)=ζ
 |[]=>rfl
 |a::K=>by simp[wW,m8 a,yx K]
def zP:pE (cL K) (cL L)=ζ↔cL K=cL L:=by
 constructor
 .intro h
  rw[<-zN K,<-zN L,zO K L h]
 .intro h
  rw[<-h];erw[yx K]
def O8(h:cL K=cL L):K.map er=L.map er:=zO K L (zP.mpr h)
def Kn(M:List Tr):eY (M.map er)=eY M:=by unfold eY;rw[B8];congr 1;funext t;erw[mB t]
def Su(h:cL K=cL L):(dR K c).map cL=(dR L c).map cL:=by
 have key:∀M:List Tr,(dR (M.map er) c).map cL=(dR M c).map cL:=λM=>by
  rw[O7,bw];congr 1;funext x;erw[zN x]
 rw[<-key K,<-key L,O8 h]
def yy:∀t,wH (enc t)=ζ
 |.one _ l=>rfl
 |.row a b=>by simp[enc,wH,jV,yy a,yy b]
 |.or a b=>by simp[enc,wH,jV,yy a,yy b]
 |.rep m a=>by simp[enc,wH,jV,yy a]
def edh{x y a b:Nat}(h1:x<=2*a+1)(h2:y<=2*b+1):max 0 (max (max x (max y 0)+1) 0)+1<=2*(max a b+1)+1:=∅
def pR:∀t,dep (enc t)<=2*bM t+1
 |.one _ l=>by simp[enc,dep,mW]
 |.row a b=>by
  dsimp[enc,dep,mW,bM];erw[edh (pR a) (pR b)]
 |.or a b=>by
  dsimp[enc,dep,mW,bM];erw[edh (pR a) (pR b)]
 |.rep m a=>by
  have:=pR a;dsimp[enc,dep,mW,bM];omega
def zQ:∀K:List Tr,jV (K.map enc)=ζ
 |[]=>rfl
 |t::K=>by simp[jV,yy t,zQ K]
def wj:∀K:List Tr,(∀t∈K,bM t<=d)->mW (K.map enc)<=2*d+1
 |[],_=>by simp[mW]
 |t::K,h=>by
  have h1:=pR t;have h2:=h t (aQ ..);have h3:=wj K λt m=>h t (ay _ m)
  dsimp[az,mW];omega
abbrev jF(K:List Tr):Nat:=(K.map size).sum
def wk:jF (K++L)=jF K+jF L:=by simp[jF]
def clm{A B X Y:Nat}:A*X<=A*max X Y/\B*Y<=B*max X Y/\(A+B)*(max X Y+1)=A*max X Y+B*max X Y+A+B:=#[Hc _ (Nat.le_max_left ..),Hc _ (LF ..),by rw[Nat.mul_add,Nat.add_mul];omega]
def m9:∀t p,(cont t p).length<=bM t/\(∀x∈cont t p,bM x<=bM t)/\jF (cont t p)<=size t*bM t
 |.one _ _,p=>by simp[cont,bM,jF]
 |.row a b,p=>by
  have ha:=m9 a p;have hb:=m9 b p;let#[m1,m2,m3]:=@clm (size a) (size b) (bM a) (bM b);dsimp[cont,bM,size];split
  .refine#[(·),λx hx=>?_,?_]
   .rcases aL.mp hx with h|h
    .have:=ha.2.1 x h;omega
    .simp at h;subst h;omega
   .rw[wk,m3]
    have:jF [b]=size b:=by simp[jF]
    omega
  .exact#[∅,λx hx=>by have:=hb.2.1 x hx;omega,by rw[m3];omega]
 |.or a b,p=>by
  have ha:=m9 a p;have hb:=m9 b p;let#[m1,m2,m3]:=@clm (size a) (size b) (bM a) (bM b);dsimp[cont,bM,size];split
  .exact#[∅,λx hx=>by have:=ha.2.1 x hx;omega,by rw[m3];omega]
  .exact#[∅,λx hx=>by have:=hb.2.1 x hx;omega,by rw[m3];omega]
 |.rep m a,p=>by
  have ha:=m9 a p;have m3:size a*(bM a+1)=size a*bM a+size a:=by rw[Nat.mul_add];omega
  dsimp[cont,bM,size];refine#[?_,λx hx=>?_,?_]
  .cases m<;>simp[more]<;>omega
  .rcases aL.mp hx with h|h
   .have:=ha.2.1 x h;omega
   .cases m<;>simp[more] at h<;>subst h<;>simp[bM]
  .rw[wk,m3]
   have:jF (more m a)<=size a:=by cases m<;>simp[more,jF,size]
   omega
def zR{t:Tr}{p:Nat}(h:bM t<5)(hs:size t<=100):(ct t p).length<=5/\(∀x∈ct t p,bM x<5)/\jF (ct t p)<=500:=by
 unfold ct;split
 .exact#[#v[],~~~h,by simp[jF];omega]
 .have:=m9 t p
  have m:size t*bM t<=100*5:=Nat.mul_le_mul hs ∅;exact#[∅,λx hx=>by have:=this.2.1 x hx;omega,∅]
def mM:∀t c,(dF t c).length<=size t/\∀x∈dF t c,x.length<=bM t
 |.one _ l,c=>by dsimp[dF];split<;>simp[size]
 |.row a b,c=>by
  have ha:=mM a c;have hb:=mM b c;dsimp[dF,size,bM];refine#[by rw[aj,ae];split<;>(try simp)<;>omega,λx hx=>?_];rcases aL.mp hx with h|h
  .let#[y,hy,rfl]:=bD.mp h
   have:=ha.2 y hy;simp;omega
  .split at h
   .have:=hb.2 x h;omega
   .simp at h
 |.or a b,c=>by
  have ha:=mM a c;have hb:=mM b c;dsimp[dF,size,bM];refine#[(·),λx hx=>?_];rcases aL.mp hx with h|h
  .have:=ha.2 x h;omega
  .have:=hb.2 x h;omega
 |.rep m a,c=>by
  have ha:=mM a c;dsimp[dF,size,bM];refine#[(·),λx hx=>?_];let#[y,hy,rfl]:=bD.mp hx;have:=ha.2 y hy;cases m<;>simp[more]<;>omega
def Ko:∀(K:List Tr)c,(dR K c).length<=jF K
 |[],c=>by simp[dR]
 |t::K,c=>by
  have h1:=(mM t c).1;have h2:=Ko K c;dsimp[dR,jF,az,jb,aj,ae] at h2 ⊢;split<;>(try simp)<;>omega
def iD{g:bG->Prop}{c:U->bG->(Bool->bG->Prop)->Prop}{e:U->bG->KU->Prop}{Q:List U->bG->Prop}{S:bG}(l vs:List U)(hv:vs.length=l.length)(hl:l.length<1000000)(hg:∀S',Ext S S'->g S')(hc:∀u S' k,k ζ S'->c u S' k)
  (he:∀(i:Nat)u v,l[i]?=ξ u->vs[i]?=ξ v->∀S' k,Ext S S'->(∀S2,Ext S' S2->k v S2)->e u S' k) (q:∀S',Ext S S'->Q vs S'):mY g c e Q l [] S:=by
 rwa[fO l (λi acc S'=>Ext S S'/\acc=vs.take i) (λi acc S' hi h=>#[hg _ h.1,?_]) (λi u acc S' k hu hi hk=>?_) (λacc S' h=>?_) #[.refl,rfl]]
 .rw[h.2,cx];omega
 .let#[x,rfl]:=hi
  have il:i<vs.length:=by rw[hv];exact(ag.mp hu).1
  rwa[hc _ _ _ ?_];rw[if_pos rfl]
  rwa[he i u _ hu (ab il) S' _ x λS2 x2=>hk _ _ #[x.trans x2,?_]]
  rw[fE,ab il];rfl
 .let#[x,rfl]:=h
  rw[<-hv,bP];erw[q S' x]
abbrev Yk(f:Tr->Bool)(fR:List Tr->Bool)(d:Nat):Spec:=λus S Q=>∃u,us=[u]/\((∃t,u=enc t/\bM t<d/\∀S',Ext S S'->Q (.bl (f t)) S')\/∃K,u=NU K/\0<d/\(∀t∈K,bM t+1<d)/\K.length<=1000/\∀S',Ext S S'->Q (.bl (fR K)) S')
abbrev zS:Nat->Spec:=Yk null eY
def zT{K:List Tr}{f:Tr->U}{i:Nat}{u v:U}(hu:(K.map enc)[i]?=ξ u)(hv:(K.map f)[i]?=ξ v):∃t,t∈K/\u=enc t/\v=f t:=by
 rw[aC] at hu hv;let#[t,e,rfl]:=au.mp hu;rw[e] at hv;exact#[t,ah e,rfl,(aH hv).symm]
section
variable{Γ:bY}{N:String}{d:Nat}{f:Tr->Bool}{fR:List Tr->Bool}{S:bG}{Q:KU}{k:U}{K:List Tr}
def EW(h1:Γ N=Yk f fR d)(hK:∀t∈K,bM t<d)(hl:K.length<=1000)(q:∀S',Ext S S'->Q (.bl (K.all f)) S'):
  WE Γ (.blt .all (.cons (.comp ϑ (.call N (.cons @0 .nil)) (.val (.ix @0 ↑1)) (.cU (.lit (.bl ζ))) []) .nil)) [ξ (.tup [k,.tup (K.map enc)])] S Q:=by
 room;dsimp[mI,aW];refine#[#v[],(·),?_];rwa[iD _ (K.map λt=>.bl (f t)) (#v[]) ((·)) (λ_ _=>trivial) (λu S' k h=>h) (λi u v hu hv S' k x hk=>?_) λS' x=>?_]
 .let#[t,m,rfl,rfl]:=zT hu hv
  erw[ca h1 #[_,rfl,.inl #[t,rfl,hK t m,hk]]]
 .exact#[K.map f,#v[],by rw[show(K.map f).all id=K.all f by rw[B8];rfl];erw[q _ (x.trans (Ext.app _))]]
def N2(h1:Γ N=Yk f fR d)(hK:∀t∈K,bM t<d)(hl:K.length<=1000)(q:∀S',Ext S S'->Q (.bl (K.any f)) S'):
  WE Γ (.blt .any (.cons (.comp ϑ (.call N (.cons @0 .nil)) (.val (.ix @0 ↑1)) (.cU (.lit (.bl ζ))) []) .nil)) [ξ (.tup [k,.tup (K.map enc)])] S Q:=by
 room;dsimp[mI,aW];refine#[#v[],(·),?_];rwa[iD _ (K.map λt=>.bl (f t)) (#v[]) ((·)) (λ_ _=>trivial) (λu S' k h=>h) (λi u v hu hv S' k x hk=>?_) λS' x=>?_]
 .let#[t,m,rfl,rfl]:=zT hu hv
  erw[ca h1 #[_,rfl,.inl #[t,rfl,hK t m,hk]]]
 .exact#[K.map f,#v[],by rw[show(K.map f).any id=K.any f by rw[Ca];rfl];erw[q _ (x.trans (Ext.app _))]]
end
def dp2(h:max (bM a) (bM b)+1<d+1)(m:t∈[a,b]):bM t<d:=by
 rcases aN.mp m with rfl|m
 .omega
 .simp at m;subst m;omega
def rr(h:WE Γ e env S (λv S1=>D.rt v S1)):Rest Γ #v[.ret e] D env S:=h
def Wv(Γ:bY)(d:Nat)(h1:Γ "_law_nothing"=zS d):Keeps Γ jx 0 (zS (d+1)):=by
 rintro us S Q ⟨u,rfl,h⟩;unfold jx;rcases h with⟨t,rfl,dt,q⟩|⟨K,rfl,-,dK,hl,q⟩
 .cases t with
  |one n l=>erw[se rfl rfl (q S .refl)]
  |row a b=>exact jE rfl rfl (se rfl rfl (rr (EW (K:=[a,b]) h1 (λt m=>dp2 dt m) (#v[]) λS' x=>by have:=q S' x;simpa[null] using this)))
  |or a b=>exact jE rfl rfl (jE rfl rfl (se rfl rfl (rr (N2 (K:=[a,b]) h1 (λt m=>dp2 dt m) (#v[]) λS' x=>by have:=q S' x;simpa[null] using this))))
  |rep m a=>
   have dt:bM a+1<d+1:=dt;have k1:=qt m;refine jE rfl (beq_eq_false_iff_ne.mpr k1.1) (jE rfl (beq_eq_false_iff_ne.mpr k1.2.1) (jE rfl (beq_eq_false_iff_ne.mpr k1.2.2) ?_));unfold enc;room;dsimp[oX,mI,aW];refine#[#v[],#v[],?_];have e2:∀q:Bool->Prop,rJ (.str (og m)) [.str lG,.str kH] q=q (GB m):=λq=>by
    have:=anyS (a:=og m) (l:=[lG,kH]) (q:=q);cases m<;>simpa[GB,og] using this
   rw[e2]
   cases m<;>dsimp[GB,IA,aw,if_false,if_true]
   .erw[q S .refl]
   .exact#[#v[],ca h1 #[_,rfl,.inl #[a,rfl,∅,q]]]
   .erw[q S .refl]
 .erw[jE rfl rfl (se rfl rfl (rr (EW h1 (λt m=>by have:=dK t m;omega) hl q)))]
def yz{α:Type}{x:List α}{a:Nat}:qF x (ξ (a:Nat)) ψ=x.drop a:=by
 unfold qF;dsimp[eI,j6,fG,Nat.min_self];by_cases h:a<=x.length
 .rw[wO h,jP (#v[])]
 .rw[vd ∅,Lg,jS ∅];simp
abbrev DK(d:Nat):Spec:=λus S Q=>∃u c,us=[u,.str [c]]/\((∃t,u=enc t/\bM t<d/\size t<=1000/\∀n S',Ext S S'->S.length<=n->S'[n]?=ξ (.lst ((dF t c).map cL))->Q (.loc n) S') \/
 ∃K,u=NU K/\0<d/\(∀t∈K,bM t+1<d)/\K.length<=1000/\jF K<=1000/\∀n S',Ext S S'->S.length<=n->S'[n]?=ξ (.lst ((dR K c).map cL))->Q (.loc n) S')
abbrev ZT:dC:=#v[.set 2 (.lst .nil),.iu (.name 4) (.range (.blt .len #v[.ix @0 ↑1])) #v[.set 2 (.bin .add @2 (.comp ϑ (.bin .add @0 (.sl (.ix @1 ↑1) (.e (.bin .add @2 ↑1)) .no)) (.val (.call "_law_behind" #v[.ix (.ix @0 ↑1) @4,@1])) (.cU (.lit (.bl ζ))) [0,4])),.ifs (.not (.cU (.call "_law_nothing" #v[.ix (.ix @0 ↑1) @4]))) #v[.ret @2] .nil],.ret @2]
def Kq{K:List Tr}{t:Tr}(m:t∈K):size t<=jF K:=by
 let#[a,b,rfl]:=Hd m;rw[wk]
 simp[jF];omega
def Kr{Γ:bY}{d:Nat}(hd:d<=100)(h1:Γ "_law_behind"=DK d)(h2:Γ "_law_nothing"=zS d){S:bG}{Q:KU}{D:Ends}(hD:D.rt=Q){K:List Tr}{c:Nat}(hK:∀t∈K,bM t<d)(hl:K.length<=1000)(hs:jF K<=1000)
  (q:∀n S',Ext S S'->S.length<=n->S'[n]?=ξ (.lst ((dR K c).map cL))->Q (.loc n) S'):Rest Γ ZT D [ξ (NU K),ξ (.str [c]),ψ,ψ,ψ,ψ] S:=by
 subst hD;unfold ZT NU;room;refine#[#v[],?_];have x0:Ext S (S++[SO.lst []]):=Ext.app _;have g0:(S++[SO.lst []])[S.length]?=ξ (.lst ((([]:List (List Tr))).map cL)):=by simp
 generalize S++[SO.lst []]=S0 at x0 g0;room;dsimp[mI,aW];have el:∀S,mH S (cL K)=ξ K.length:=λS=>by simp[cL,mH]
 rw[el,aW]
 refine#[#v[],∅,∅,∅,?_];rwa[dy (λi env S1=>∃(acc:List (List Tr))(m:Nat)(x4:Option U),env=[ξ (.tup [.str [114,111,119],cL K]),ξ (.str [c]),ξ (.loc m),ψ,x4,ψ]/\Ext S S1/\S.length<=m/\S1[m]?=ξ (.lst (acc.map cL))/\acc++dR (K.drop i) c=dR K c) (λ_ _ _ _=>trivial) _ ?_ ?_ #[[],S.length,ψ,rfl,x0,aq _,g0,rfl]]
 .rintro i u env S1 K' hu ⟨acc,m,x4,rfl,x1,ml,g1,inv⟩ hK'
  let#[rfl,hi]:=o9 hu;have hi:i<K.length:=by simpa using hi
  have ht:K[i]?=ξ K[i]:=ab hi;have hd':K.drop i=K[i]::K.drop (i+1):=dM hi;have hm:K[i]∈K:=cz hi;generalize K[i]=t at ht hd' hm;have tl:=hK t hm;have ts:=Kq hm;have ai:∀{r:U->Prop},opt (qV (K.map enc) ((i:Nat):Int)) r=r (enc t):=λ{r}=>by rw[iz,aC,ht];rfl
  have bl:=Ko K c;rw[<-inv,aj] at bl;rw[hd',dR] at inv;have fl:=mM t c;room;dsimp[mI,aW];unfold cL;dsimp[Er,ai,ae];refine#[#v[],∅,ca h1 #[_,c,rfl,.inl #[t,rfl,tl,∅,λn S2 x2 nl g2=>?_]]];room;rw[g2,aB]
  rwa[iD (S:=S2) _ (((dF t c).map (·++K.drop (i+1))).map cL) (#v[]) ((·)) (λS' x=>x.get g2) (λu S' k h=>h) (λj u v hu hv S' k x hk=>?_) λS3 x3=>?_]
  .let#[y,e,rfl]:=dY hu
   rw[aC,aC,e] at hv;have hv:=aH hv;subst hv;have yl:=fl.2 y (ah e);refine#[#v[],?_];have e1:((i:Int)+1)=((i+1:Nat):Int):=∅
   dsimp[QC,e1,yz];refine#[#[λi e=>(by injection e with e;omega),λi e=>(by cases e)],#[(·),?_,#v[]],?_]
   .intro z
    have:=congrArg cR z;simp at this;rw[this] at hi;simp at hi
   .unfold cL
    rw[QJ]
    refine#[(·),?_];have:dB enc y++List.drop (i+1) (dB enc K)=dB enc (y++List.drop (i+1) K):=by simp[List.map_drop]
    rw[this]
    erw[hk S' .refl]
  .have x13:Ext S1 S3:=x2.trans x3
   generalize hW:((dF t c).map (·++K.drop (i+1)))=W at inv;have wl:W.length<=1000:=by rw[<-hW];simp;omega
   rw[ao (aT (x13.get g1)),x13.get g1,aB]
   rw[ax (aq _),bL]
   dsimp[AI,aB];refine#[(·),?_];have x4:Ext S3 (S3++[SO.lst (W.map cL)]++[SO.lst (acc.map cL++W.map cL)]):=(Ext.app _).trans (Ext.app _);have g4:(S3++[SO.lst (W.map cL)]++[SO.lst (acc.map cL++W.map cL)])[(S3++[SO.lst (W.map cL)]).length]?=ξ (.lst ((acc++W).map cL)):=by
    rw[ax (aq _),bL,aG];rfl
   have l4:S.length<=(S3++[SO.lst (W.map cL)]).length:=by have:=(x1.trans x13).1;rw[aj];omega
   generalize (S3++[SO.lst (W.map cL)]).length=m4 at g4 l4;generalize S3++[SO.lst (W.map cL)]++[SO.lst (acc.map cL++W.map cL)]=S4 at x4 g4;room;dsimp[mI,aW,Er,ai,ae];refine#[#v[],∅,ca h2 #[_,rfl,.inl #[t,rfl,tl,λS5 x5=>?_]]];room;have xx:Ext S S5:=(x1.trans x13).trans (x4.trans x5);cases nt:null t with
   |false=>
    rw[nt] at inv;dsimp[bV,if_true];room;refine q m4 S5 xx l4 (by rw[<-inv];simp;have:=x5.get g4;simpa using this)
   |true=>
    rw[nt] at inv;dsimp[bH,aw,if_false];room;erw[hK' _ _ #[acc++W,m4,_,rfl,xx,l4,x5.get g4,by rw[<-inv];simp]]
 .rintro env S1 ⟨acc,m,x4,rfl,x1,ml,g1,inv⟩
  room;have:K.drop (dB (λk=>U.int ((k:Nat):Int)) (cv K.length)).length=[]:=jS (#v[]);rw[this,dR,bT] at inv;erw[q m S1 x1 ml (by rw[<-inv];exact g1)]
def Ww(Γ:bY)(d:Nat)(hd:d<=100)(h1:Γ "_law_behind"=DK d)(h2:Γ "_law_nothing"=zS d):Keeps Γ kj 4 (DK (d+1)):=by
 rintro us S Q ⟨u,c,rfl,h⟩;unfold kj;rcases h with⟨t,rfl,dt,sz,q⟩|⟨K,rfl,-,dK,hl,hs,q⟩
 .cases t with
  |one n l=>
   rwa[se rfl rfl ?_];unfold enc;room;dsimp[mI,aW];refine#[#v[],?_];room;by_cases z:l.contains c=ζ
   .rw[if_pos z]
    refine#[#v[],#v[],q _ _ (Ext.app _) (aq _) ?_];have e:dF (.one n l) c=[[]]:=by dsimp[dF,if_pos z]
    rw[e];simp[cL]
   .rw[if_neg z]
    refine#[#v[],q _ _ (Ext.app _) (aq _) ?_];have e:dF (.one n l) c=[]:=by dsimp[dF,if_neg z]
    rw[e];simp
  |row a b=>
   have dt:max (bM a) (bM b)+1<d+1:=dt;have sz:size a+size b<=1000:=sz;rwa[jE rfl rfl (jE rfl rfl (se rfl rfl ?_))];rwa[Kr (K:=[a,b]) hd h1 h2 rfl (λt m=>?_) (#v[]) (by simp[jF];omega) λn S' x nl g=>q n S' x nl ?_]
   .rcases aN.mp m with rfl|m
    .omega
    .simp at m;subst m;omega
   .rw[g];simp[dR,dF]
  |or a b=>
   have dt:max (bM a) (bM b)+1<d+1:=dt;have sz:size a+size b<=1000:=sz;have la:=mM a c;have lb:=mM b c;rwa[jE rfl rfl (se rfl rfl ?_)];unfold enc;room;refine#[#v[],?_];have g0:(S++[SO.lst []])[S.length]?=ξ (.lst []):=by simp
   have x0:Ext S (S++[SO.lst []]):=Ext.app _;generalize S.length=m0 at g0;generalize S++[SO.lst []]=S0 at g0 x0;room;dsimp[mI,aW,v_t,vE];refine#[#v[],#v[],trivial,?_];room;rwa[ca h1 #[_,c,rfl,.inl #[a,rfl,∅,∅,λn S1 x1 nl g1=>?_]]];room;rw[x1.get g0,g1]
   dsimp[aB,jj];refine#[(·),?_];have g2:(S1++[SO.lst ((dF a c).map cL)])[S1.length]?=ξ (.lst ((dF a c).map cL)):=by simp
   have x2:Ext S1 (S1++[SO.lst ((dF a c).map cL)]):=Ext.app _;generalize S1.length=m2 at g2;generalize S1++[SO.lst ((dF a c).map cL)]=S2 at g2 x2;room;rwa[ca h1 #[_,c,rfl,.inl #[b,rfl,∅,∅,λn3 S3 x3 nl3 g3=>?_]]];room;rw[x3.get g2,g3]
   dsimp[aB];refine#[(·),?_];room;have xx:=((x0.trans x1).trans x2).trans x3;erw[q _ _ (xx.trans (Ext.app _)) xx.1 (by simp[dF])]
  |rep m a=>
   have dt:bM a+1<d+1:=dt;have sz:size a<=1000:=sz;have k1:=qt m;have la:=mM a c;refine jE rfl (beq_eq_false_iff_ne.mpr k1.1) (jE rfl (beq_eq_false_iff_ne.mpr k1.2.2) (jE rfl (beq_eq_false_iff_ne.mpr k1.2.1) ?_));have go:Rest Γ (.cons (.ret (.comp ϑ (.bin .add @0 @1) (.val (.call "_law_behind" (.cons (.ix @0 ↑1) (.cons @1 .nil)))) (.cU (.lit (.bl ζ))) [5])) .nil) #[λ_ S1=>Q .b7 S1,Q] [ξ (enc (.rep m a)),ξ (.str [c]),ψ,ψ,ψ,ξ (cL (more m a))] S:=by
    unfold enc;room;dsimp[mI,aW];refine#[#v[],ca h1 #[_,c,rfl,.inl #[a,rfl,∅,∅,λn S1 x1 nl g1=>?_]]];room;rw[g1,aB]
    rwa[iD (S:=S1) _ (((dF a c).map (·++more m a)).map cL) (#v[]) ((·)) (λS' x=>x.get g1) (λu S' k h=>h) (λj u v hu hv S' k x hk=>?_) λS3 x3=>?_]
    .let#[y,e,rfl]:=dY hu
     rw[aC,aC,e] at hv;have hv:=aH hv;subst hv;have yl:=la.2 y (ah e);unfold cL;room;have ml:(more m a).length<=1:=by cases m<;>simp[more]
     refine#[(·),?_];have:=hk S' .refl;unfold cL at this;simpa using this
    .have x13:=x1.trans x3
     erw[q _ _ (x13.trans (Ext.app _)) x13.1 (by simp[dF])]
   have ek:enc (.rep m a)= .tup [.str (og m),enc a]:=rfl;rw[ek] at go ⊢;room;dsimp[oX,mI,aW];refine#[#v[],?_];room;cases m with
   |may=>
    rw[if_pos (by simp[og])]
    exact#[#v[],go]
   |star=>
    rw[if_neg (by simp[og])]
    exact#[#v[],#v[],#v[],go]
   |plus=>
    rw[if_neg (by simp[og])]
    exact#[#v[],#v[],#v[],go]
 .erw[jE rfl rfl (jE rfl rfl (se rfl rfl (Kr hd h1 h2 rfl (λt m=>by have:=dK t m;omega) hl hs q)))]
abbrev Sq(S:bG)(u:U)(X:List U):Prop:=(∃n,u=.loc n/\S[n]?=ξ (.lst X))\/u=.tup X
def Ks{S S0:bG}{u:U}{X:List U}{R:List U->(bG->Prop)->Prop}(h:Sq S u X)(x:Ext S S0)(hl:X.length<=1000)(q:∀g:bG->Prop,(∀S',Ext S S'->g S')->R X g):FV u S0 R:=by
 rcases h with⟨n,rfl,g⟩|rfl
 .rw[v_l,x.get g,aB];erw[q _ λS' x=>x.get g]
 .rw[v_t];exact#[∅,q _ λ_ _=>trivial]
abbrev Sv:Spec:=λus S Q=>∃v c X t H n0,us=[v,.str [c]]/\Sq S v X/\Lv t H X/\oo n0 t/\0<n0/\bM t<5/\size t<=100/\X.length<=1000/\∀m Y S',Ext S S'->S'[m]?=ξ (.lst Y)->Lv t (V0 t c H) Y->Q (.loc m) S'
def zU{α:Type}:∀{l l':List α},l.Nodup->(∀x∈l,x∈l')->l.length<=l'.length
 |[],_,_,_=>by simp
 |a::l,l',nd,h=>by
  let#[s,t,rfl]:=Hd (h a (aQ ..));rw[fw] at nd;have:=zU (l':=s++t) nd.2 λx m=>by
   have hx:=h x (ay _ m);dsimp[aL,aN] at hx ⊢;rcases hx with z|z|z
   .erw[.inl z]
   .subst z;erw[absurd m nd.1]
   .erw[.inr z]
  dsimp[aj,aU] at this ⊢;omega
abbrev Yl(t:Tr)(c:Nat)(H:Nat->Prop)(y:U):Prop:=∃p,V0 t c H p/\y=cL (ct t p)
def O9{t:Tr}{c:Nat}{H:Nat->Prop}(dt:bM t<5)(sz:size t<=100):∀{Y:List U},(∀y∈Y,Yl t c H y)->jV Y=ζ/\mW Y<=100
 |[],_=>#[rfl,by simp[mW]]
 |y::Y,h=>by
  let#[p,_,rfl]:=h y (aQ ..);let#[i1,i2]:=O9 dt sz λz m=>h z (ay _ m)
  have e2:=wj (d:=4) (ct t p) λx m=>uv ((zR (p:=p) dt sz).2.1 x m)
  constructor
  .show(jV _&&jV Y)=ζ
   rw[zQ (ct t p),i1];rfl
  .erw[Nat.max_le.mpr #[aF (cB e2) ⋯,i2]]
def Wx{t:Tr}{c n0:Nat}{H:Nat->Prop}(pl:oo n0 t)(sz:size t<=100){Y:List U}(nd:Y.Nodup)(h:∀y∈Y,Yl t c H y):Y.length<=100:=by
 have:=zU (l':=(List.range' n0 (size t)).map λp=>cL (ct t p)) nd λy m=>by
  let#[p,#[q,_,f,_],rfl]:=h y m;erw[bD.mpr #[p,HB.mpr ((fB pl).mp (yq f)),rfl]]
 rw[ae,List.length_range'] at this;erw[aF this sz]
def Wy(Γ:bY)(h1:Γ "_law_behind"=DK 6):Keeps Γ kS 3 Sv:=by
 rintro us S Q ⟨v,c,X,t,H,n0,rfl,g,rp,pl,n1,dt,sz,hX,q⟩;unfold kS;room;refine#[#v[],?_];have x0:Ext S (S++[SO.lst []]):=Ext.app _;have g0:(S++[SO.lst []])[S.length]?=ξ (.lst []):=by simp
 room;rwa[Ks g x0 hX λgg hg=>?_]
 rwa[dy (λi env S1=>∃(Y:List U)(x3 x4:Option U),env=[ξ v,ξ (.str [c]),ξ (.loc S.length),x3,x4]/\Ext S S1/\S1[S.length]?=ξ (.lst Y)/\Y.Nodup/\(∀y∈Y,Yl t c H y)/\∀(j:Nat)p,j<i->X[j]?=ξ (cL (ct t p))->∀y∈dR (ct t p) c,cL y∈Y) (λi env S1 h9=>by let#[_,_,_,_,x,_]:=h9;erw[hg _ x]) _ ?_ ?_ #[[],ψ,ψ,rfl,x0,g0,#v[],#v[],∅]]
 .rintro i u env S1 K hu ⟨Y,x3,x4,rfl,x1,g1,nd,hP,inv⟩ hK
  let#[p,hp,rfl]:=(rp.1 u).mp (ah hu);let#[l1,l2,l3]:=zR (p:=p) dt sz;room;refine#[#v[],ca h1 #[_,c,rfl,.inr #[ct t p,rfl,∅,λx m=>by have:=l2 x m;omega,∅,∅,λm S2 x2 ml g2=>?_]]];have ml:S.length<m:=av (aT g1) ml;room;rw[g2,aB]
  rwa[dy (λj env S3=>∃(Z:List U)(x4:Option U),env=[ξ v,ξ (.str [c]),ξ (.loc S.length),ξ (cL (ct t p)),x4]/\Ext S S3/\S3[m]?=ξ (.lst ((dR (ct t p) c).map cL))/\S3[S.length]?=ξ (.lst Z)/\Z.Nodup/\(∀y∈Z,Yl t c H y)/\(∀y∈Y,y∈Z)/\∀k y,k<j->(dR (ct t p) c)[k]?=ξ y->cL y∈Z) (λj env S3 h9=>by let#[_,_,_,_,g,_]:=h9;erw[g]) _ ?_ ?_ #[Y,x4,rfl,x1.trans x2,g2,x2.get g1,nd,hP,λ_ h=>h,∅]]
  .rintro j u env S3 K' hu ⟨Z,x4,rfl,x3,g3,gz,nd,hP,hY,inv'⟩ hK'
   let#[y,hy,rfl]:=dY hu;let#[p',f1,f2,rfl]:=(Ka pl n1).mp (ah hy);have st:V0 t c H p':=#[p,hp,f1,f2]
   have zl:=Wx pl sz nd hP;have fz:=O9 dt sz hP;have eb:(Z.any λw=>pE w (cL (ct t p')))=ζ↔cL (ct t p')∈Z:=by
    rw[kA]
    constructor
    .rintro⟨w,m,e⟩
     let#[p2,_,rfl]:=hP w m;rw[zP.mp e] at m;erw[m]
    .intro m;exact#[_,m,zP.mpr rfl]
   have ev:cL (ct t p')= .tup ((ct t p').map enc):=rfl;rw[ev] at eb ⊢;room;rw[gz,aB]
   refine#[#[zQ _,fz.1,fz.2],?_];by_cases z:(Z.any λw=>pE w (.tup ((ct t p').map enc)))=ζ
   .rw[z]
    dsimp[bH,aw,if_false];room;rwa[hK' _ _ #[Z,_,rfl,x3,g3,gz,nd,hP,hY,λk y hk ey=>?_]];by_cases e:k=j
    .subst e;rw[hy] at ey;cases ey;erw[eb.mp z]
    .erw[inv' k y ∅ ey]
   .rw[eP _ |>.mp z]
    dsimp[bV,if_true];room;rw[gz,aB]
    refine#[trivial,ju zl ⋯,?_];room;have nz:¬U.tup ((ct t p').map enc)∈Z:=λm=>z (eb.mpr m)
    rwa[hK' _ _ #[Z++[.tup ((ct t p').map enc)],_,rfl,x3.st (aq _),%[ak (ba ml)|g3],gs gz,?_,λy m=>?_,λy m=>bN _ (hY y m),λk y hk ey=>?_]]
    .rw[dZ]
     exact#[nd,#v[],λa ma b mb e=>by simp at mb;subst mb;subst e;erw[nz ma]]
    .rcases aL.mp m with m|m
     .erw[hP y m]
     .simp at m;exact#[p',st,m]
    .by_cases e:k=j
     .subst e;rw[hy] at ey;cases ey;erw[bf _ (by simp[cL])]
     .erw[bN _ (inv' k y ∅ ey)]
  .rintro env S3 ⟨Z,x4,rfl,x3,g3,gz,nd,hP,hY,inv'⟩
   room;rwa[hK _ _ #[Z,_,_,rfl,x3,gz,nd,hP,λj p2 hj ej y my=>?_]];by_cases e:j=i
   .subst e
    rw[hu] at ej;have e2:=Su (c:=c) (aH ej);have:cL y∈(dR (ct t p2) c).map cL:=bD.mpr #[y,my,rfl];rw[<-e2] at this;let#[y2,m2,e3]:=bD.mp this;let#[k,hk]:=bj m2;rw[<-e3]
    exact inv' k y2 (by have:=(ag.mp hk).1;simpa using this) hk
   .erw[hY _ (inv j p2 ∅ ej y my)]
 .rintro env S1 ⟨Y,x3,x4,rfl,x1,g1,nd,hP,inv⟩
  room;rwa[q _ Y S1 x1 g1 #[λy=>#[λm=>hP y m,?_],nd]];rintro⟨p,⟨q',hq,f1,f2⟩,rfl⟩;let#[j,hj]:=bj ((rp.1 _).mpr #[q',hq,rfl]);erw[inv j q' (ag.mp hj).1 hj _ ((Ka pl n1).mpr #[p,f1,f2,rfl])]
abbrev Sw:Spec:=λus S Q=>∃v X t H,us=[v]/\Sq S v X/\Lv t H X/\bM t<5/\size t<=100/\X.length<=1000/\∀b S',(b=ζ↔En t H)->Ext S S'->Q (.bl b) S'
def any_rows{Γ:bY}{N:String}{f:Tr->Bool}{fR:List Tr->Bool}(h1:Γ N=Yk f fR 6)(key:∀M:List Tr,fR (M.map er)=fR M){v:U}{X:List U}{t:Tr}{H:Nat->Prop}{S:bG}{Q:KU}(g:Sq S v X)(rp:Lv t H X)(dt:bM t<5)(sz:size t<=100)(hl:X.length<=1000)(q:∀b S',(b=ζ↔∃p,H p/\fR (ct t p)=ζ)->Ext S S'->Q (.bl b) S'):
  WE Γ (.blt .any (.cons (.comp ϑ (.call N (.cons (.tup (.cons ↑[114,111,119] (.cons @0 .nil))) .nil)) (.val @0) (.cU (.lit (.bl ζ))) []) .nil)) [ξ v] S Q:=by
 room;rwa[Ks g .refl hl λgg hg=>?_]
 rwa[fO X (λi acc S1=>Ext S S1/\∃bs:List Bool,acc=bs.map .bl/\bs.length=i/\∀(j:Nat)p,j<i->X[j]?=ξ (cL (ct t p))->bs[j]?=ξ (fR (ct t p))) (λi acc S1 hi h9=>by let#[x,bs,e1,e2,_]:=h9;exact#[hg _ x,by rw[e1,ae];omega]) (λi u acc S1 k hu hi hk=>?_) (λacc S1 h=>?_) #[.refl,[],rfl,rfl,∅]]
 .let#[x,bs,rfl,e2,inv]:=hi
  let#[p,hp,rfl]:=(rp.1 u).mp (ah hu);let#[l1,l2,l3]:=zR (p:=p) dt sz;room;refine#[#v[],ca h1 #[_,rfl,.inr #[ct t p,rfl,∅,λy m=>by have:=l2 y m;omega,∅,λS2 x2=>?_]]];rwa[hk _ _ #[x.trans x2,bs++[fR (ct t p)],#v[],by simp[e2],λj p2 hj ej=>?_]];by_cases z:j=i
  .subst z
   rw[hu] at ej;rw[ax ∅,e2,bL,<-key,O8 (aH ej),key];rfl
  .rw[ao ∅];erw[inv j p2 ∅ ej]
 .let#[x,bs,rfl,e2,inv]:=h
  refine#[bs,#v[],q _ _ ?_ (x.trans (Ext.app _))];rw[kA]
  constructor
  .rintro⟨b,m,hb⟩
   let#[j,hj]:=bj m;have jl:j<X.length:=by rw[<-e2];exact(ag.mp hj).1
   let#[p,hp,e]:=(rp.1 _).mp (cz jl);have:=inv j p jl (by rw[ab jl,e]);rw[hj] at this;have:=aH this;exact#[p,hp,by rw[<-this];erw[hb]]
  .rintro⟨p,hp,hn⟩
   let#[j,hj]:=bj ((rp.1 _).mpr #[p,hp,rfl]);have:=inv j p (ag.mp hj).1 hj;exact#[_,ah this,by rw[hn];rfl]
def Wz(Γ:bY)(h1:Γ "_law_nothing"=zS 6):Keeps Γ oY 0 Sw:=by
 rintro us S Q ⟨v,X,t,H,rfl,g,rp,dt,sz,hl,q⟩;erw[rr (any_rows h1 Kn g rp dt sz hl q)]
def uU(pl:oo n0 t)(h:Lv t (hs t w) X):X.length<=size t+1:=by
 have:=zU (l':=(0::List.range' n0 (size t)).map λp=>cL (ct t p)) h.2 λy m=>by
  let#[p,hp,rfl]:=(h.1 y).mp m;rwa[bD.mpr #[p,?_,rfl]];rcases V1 hp with z|z
  .subst z;simp
  .erw[ay _ (HB.mpr ((fB pl).mp z))]
 simpa using this
def zV{ts:List Tr}(h:lI ts){t:Tr}(m:t∈ts):∃n,oo n t/\0<n/\size t<=100/\bM t<5:=by
 let#[i,e]:=bj m;have:=size_take e;have:=h.sz;exact#[_,zM h.pl e,∅,∅,h.dp t m]
abbrev Au(m:List Nat)(c:Nat):List Nat:=if m.contains c=ζ then [92,c] else [c]
def DL(m:List Nat)(c:Nat):(Au m c).length<=2:=by unfold Au;split<;>simp
abbrev Ua(R:List Nat):List Nat:=Au MW (R.headD 0)++[45]++Au MW (R.getLastD 0)
abbrev Pa(R:List Nat):List (List Nat):=if (R.map (Au MW)).flatten.length<=(Ua R).length then R.map (Au MW) else [Ua R]
abbrev rnS(st:List (List Nat)×List Nat)(c:Nat):List (List Nat)×List Nat:=if i6 (st.2++[c]) SG=ζ then(st.1,st.2++[c]) else(st.1++[st.2],[c])
abbrev Ub(l:List Nat):List (List Nat):=(l.foldl rnS ([],[])).1++[(l.foldl rnS ([],[])).2]
abbrev GH(l:List Nat):List (List Nat):=(Ub l).flatMap Pa
abbrev Sx:List (List Nat)->List Nat
 |[]=>[]
 |x::r=>if [94].isPrefixOf x=ζ then(if r.isEmpty=ζ then 92::x else r.flatten++x) else(x::r).flatten
abbrev Uc(l:List Nat):List (List Nat):=(if l==[] then [] else [[91]++Sx (GH l)++[93]])++if l==SG then [] else [[91,94]++(GH (eD l)).flatten++[93]]
abbrev aaA:List (List Nat)->List Nat
 |[]=>[]
 |t::ts=>ts.foldl (λb x=>if x.length<b.length then x else b) t
abbrev Kt(l:List Nat):List Nat:=if l.length=1 then Au MO (l.headD 0) else aaA (Uc l)
abbrev GI(l:List Nat):Bool:=decide (l.length<=95)&&((Ub l).all λR=>!(R==[])&&decide (R.length<=95))&&decide ((Ub l).length<=100)&&decide ((GH l).length<=200)&&decide ((GH l).flatten.length<=400) && !(GH l==[])
abbrev Sy:Spec:=λus S Q=>∃c m,us=[.str [c],.str m]/\Q (.str (Au m c)) S
def WA(Γ:bY):Keeps Γ me 0 Sy:=by
 rintro us S Q ⟨c,m,rfl,q⟩;unfold me;room;unfold Au at q;by_cases z:m.contains c=ζ
 .rw[if_pos z] at q ⊢
  exact#[#v[],q]
 .rw[if_neg z] at q ⊢
  erw[q]
def wm:∀ts:List (List Nat),l9 [] ts=ts.flatten
 |[]=>rfl
 |[x]=>by simp[l9]
 |x::y::r=>by
  rw[l9,wm (y::r)]
  .simp
  .simp
def zW(ts:List (List Nat)):(ts.map cR).sum+ts.length*([]:List Nat).length=ts.flatten.length:=by rw[List.length_flatten];simp
abbrev WB:Spec:=λus S Q=>∃R,us=[.str R]/\R≠[]/\R.length<=95/\∀n S',Ext S S'->S'[n]?=ξ (.lst ((Pa R).map .str))->Q (.loc n) S'
def Ku(m:List Nat):∀R:List Nat,(R.map (Au m)).flatten.length<=2*R.length
 |[]=>by simp
 |c::r=>by
  have:=Ku m r;have:=DL m c;rw[az,tY,aj,aU];omega
def WC(Γ:bY)(h1:Γ "sign_text"=Sy):Keeps Γ mf 2 WB:=by
 rintro us S Q ⟨R,rfl,ne,hl,q⟩;unfold mf;have f2:=Ku MW R;room;rwa[iD (S:=S) _ ((R.map (Au MW)).map .str) (#v[]) ((·)) (λ_ _=>trivial) (λu S' k h=>h) (λi u v hu hv S' k x hk=>?_) λS1 x1=>?_]
 .let#[c,e,rfl]:=dY hu
  rw[aC,aC,e] at hv;cases hv;erw[ca h1 #[c,MW,rfl,hk S' .refl]]
 have g2:(S1++[SO.lst ((R.map (Au MW)).map U.str)])[S1.length]?=ξ (.lst ((R.map (Au MW)).map U.str)):=by simp
 have x2:Ext S (S1++[SO.lst ((R.map (Au MW)).map U.str)]):=x1.trans (Ext.app _);generalize S1.length=m at g2;generalize S1++[SO.lst ((R.map (Au MW)).map U.str)]=S2 at g2 x2;have t1:=DL MW (R.headD 0);have t2:=DL MW (R.getLastD 0);have wl:(Ua R).length<=5:=by unfold Ua;rw[aj,aj];dsimp[aU,dH];omega
 have e0:qV R 0=ξ (R.headD 0):=by
  cases R with
  |nil=>erw[absurd rfl ne]
  |cons a r=>erw[oX]
 have el:qV R (-1)=ξ (R.getLastD 0):=by
  have:0<R.length:=qT.mpr ne;unfold qV IC;rw[if_neg ∅,if_pos ∅]
  dsimp[Option.bind_some];rw[List.getLastD_eq_getLast?,List.getLast?_eq_getElem?]
  have e:((-1:Int)+(R.length:Int)).toNat=R.length-1:=∅
  rw[e,ab ∅]
  rfl
 room;rw[e0,el]
 dsimp[aW];refine#[∅,ca h1 #[_,MW,rfl,#[by rw[gO];omega,∅,ca h1 #[_,MW,rfl,#[by rw[aj,gO];omega,?_]]]]];have ew:Au MW (R.headD 0)++[45]++Au MW (R.getLastD 0)=Ua R:=rfl;rw[ew]
 room;refine#[_,g2,by rw[zW];omega,?_];rw[wm]
 refine#[∅,∅,?_];unfold Pa at q;by_cases z:(R.map (Au MW)).flatten.length<=(Ua R).length
 .rw[if_pos z] at q
  rw[if_pos (~~~z)]
  erw[q _ _ x2 g2]
 .rw[if_neg z] at q
  rw[if_neg (~~~z)]
  exact#[#v[],q _ _ (x2.trans (Ext.app _)) (#v[])]
abbrev WD:Spec:=λus S Q=>∃l,us=[.str l]/\l.length<=95/\∀n S',Ext S S'->S.length<=n->S'[n]?=ξ (.lst ((Ub l).map .str))->Q (.loc n) S'
def WG(Γ:bY):Keeps Γ zr 3 WD:=by
 rintro us S Q ⟨l,rfl,hl,q⟩;unfold Ub rnS at q;unfold zr;generalize hG:SG=G at q ⊢;room;refine#[#v[],?_];have x0:Ext S (S++[SO.lst []]):=Ext.app _;have g0:(S++[SO.lst []])[S.length]?=ξ (.lst []):=by simp
 room;have keep:∀{S1:bG}{o:SO},Ext S S1->Ext S (S1.set S.length o):=λx=>(x.st ∅)
 rwa[dy (λi env S1=>∃(st:List (List Nat)×List Nat)(x3:Option U),env=[ξ (.str l),ξ (.loc S.length),ξ (.str st.2),x3]/\S1[S.length]?=ξ (.lst (st.1.map .str))/\Ext S S1/\st.1.length<=i/\st.2.length<=i/\i<=l.length/\st=(l.take i).foldl (λst c=>if i6 (st.2++[c]) G=ζ then(st.1,st.2++[c]) else(st.1++[st.2],[c])) ([],[])) (λ_ _ _ _=>trivial) _ ?_ ?_ #[([],[]),ψ,rfl,g0,x0,#v[],#v[],∅,rfl]]
 .rintro i u env S1 K hu ⟨st,x3,rfl,g1,x1,l1,l2,hi,e⟩ hK
  let#[c,hc,rfl]:=dY hu;have il:=(ag.mp hc).1;have et:=Kb hc;room;refine#[(·),?_];show(if (!i6 (st.2++[c]) G)=ζ then _ else _)
  by_cases z:i6 (st.2++[c]) G=ζ
  .rw[z]
   dsimp[bH,aw,if_false];room;refine#[(·),?_];room;rwa[hK _ _ #[(st.1,st.2++[c]),_,rfl,g1,x1,(·),(·),il,?_]];rw[et,d6,<-e]
   dsimp[lh,xy,if_pos z]
  .rw[eP _ |>.mp z]
   dsimp[bV,if_true];room;rw[g1,aB]
   refine#[trivial,(·),?_];room;refine#[#v[],?_];room;rwa[hK _ _ #[(st.1++[st.2],[c]),_,rfl,by rw[gs g1];simp,keep x1,(·),#v[],il,?_]];rw[et,d6,<-e]
   dsimp[lh,xy,if_neg z]
 .rintro env S1 ⟨st,x3,rfl,g1,x1,l1,l2,hi,e⟩
  room;rw[g1,aB]
  rw[ae] at l1 e;rw[bP] at e;refine#[trivial,(·),?_];room;erw[q _ _ (keep x1) (aq _) (by rw[gs g1,<-e];simp)]
abbrev WH:Spec:=λus S Q=>∃l,us=[.str l]/\GI l=ζ/\∀n S',Ext S S'->S'[n]?=ξ (.lst ((GH l).map .str))->Q (.loc n) S'
def EX{α β:Type}(f:α->List β):∀(l:List α)(i:Nat),((l.take i).flatMap f).length<=(l.flatMap f).length
 |[],i=>by simp
 |a::l,0=>by simp
 |a::l,i+1=>by
  have:=EX f l i;rw[Fo,HC,HC,aj,aj];omega
def WJ(Γ:bY)(h1:Γ "runs"=WD)(h2:Γ "run_items"=WB):Keeps Γ kf 2 WH:=by
 rintro us S Q ⟨l,rfl,ok,q⟩;unfold GI at ok;dsimp[ar,decide_eq_true_eq] at ok;let#[#[#[#[#[o1,o2],o3],o4],o5],o6]:=ok;rw[cy] at o2;unfold GH at q o4;unfold kf;room;refine#[#v[],?_];have x0:Ext S (S++[SO.lst []]):=Ext.app _;have g0:(S++[SO.lst []])[S.length]?=ξ (.lst []):=by simp
 have l0:(S++[SO.lst []]).length=S.length+1:=by simp
 generalize S++[SO.lst []]=S1 at x0 g0 l0;room;rwa[ca h1 #[l,rfl,o1,λn S2 x2 nl g2=>?_]];generalize Ub l=Rs at o2 o3 o4 q g2;room;rw[g2,aB]
 refine dy (λi env S3=>∃x,env=[ξ (.str l),ξ (.loc S.length),x]/\S3[S.length]?=ξ (.lst (((Rs.take i).flatMap Pa).map .str))/\S3[n]?=ξ (.lst (Rs.map .str))/\Ext S S3) (λi env S3 h9=>by let#[_,_,_,h,_]:=h9;erw[h]) _ ?_ ?_ #[ψ,rfl,~~~(x2.get g0),g2,x0.trans x2]
 .rintro i u env S3 K hu ⟨x,rfl,g3,g4,x3⟩ hK
  let#[R,hc,rfl]:=dY hu;have hR:=o2 R (ah hc);dsimp[ar,decide_eq_true_eq,gW,beq_eq_false_iff_ne] at hR;have tk:(Rs.take (i+1)).flatMap Pa=(Rs.take i).flatMap Pa++Pa R:=by rw[fE,hc];simp
  have tl:=EX Pa Rs (i+1);rw[tk,aj] at tl;room;rw[g3,aB]
  refine#[trivial,ca h2 #[R,rfl,hR.1,hR.2,λm S4 x4 g5=>?_]];room;rw[x4.get g3,g5,aB,aB]
  refine#[by rw[ae,ae];omega,?_];room;rwa[hK _ _ #[_,rfl,by rw[gs (x4.get g3),tk];simp,?_,?_]]
  .rw[ak ∅];erw[x4.get g4]
  .have:=x3.trans x4
   exact(this.st ∅)
 .rintro env S3 ⟨x,rfl,g3,g4,x3⟩
  rw[ae,bP] at g3;room;erw[q _ _ x3 g3]
def Pb(x:List Nat)(r:List (List Nat)):Sx (x::r)=if [94].isPrefixOf x=ζ then(if r.isEmpty=ζ then 92::x else r.flatten++x) else(x::r).flatten:=rfl
abbrev WK:Spec:=λus S Q=>∃n its,us=[.loc n]/\S[n]?=ξ (.lst (its.map .str))/\its≠[]/\its.length<=200/\its.flatten.length<=400/\∀S',Ext S S'->Q (.str (Sx its)) S'
def WL(Γ:bY):Keeps Γ pK 0 WK:=by
 rintro us S Q ⟨n,its,rfl,g,ne,hl,hf,q⟩;unfold pK;cases its with
 |nil=>erw[absurd rfl ne]
 |cons x r=>
  rw[tY,aj] at hf;dsimp[aU] at hl;have a0:∀{R:U->Prop},opt (qV ((x::r).map U.str) 0) R=R (.str x):=by intro R;rw[az,oX];rfl
  room;rw[g,aB]
  rw[a0]
  room;rw[Pb] at q;by_cases z:[94].isPrefixOf x=ζ
  .rw[if_pos z] at q
   rw[z]
   dsimp[bH,aw,if_false];room;rw[kr g]
   dsimp[aW,ae,aU];refine#[∅,?_];cases r with
   |nil=>
    have q:∀S',Ext S S'->Q (.str (92::x)) S':=q;rw[if_pos (#v[])]
    room;rw[g,aB]
    rw[a0]
    room;exact#[by simp at hf ⊢;omega,q S .refl]
   |cons y r=>
    rw[if_neg (#v[])] at q;rw[if_neg ((·))]
    room;dsimp[QC];rw[g,aB]
    have ec:qF ((x::y::r).map U.str) (ξ 1) ψ=(y::r).map U.str:=yz (a:=1);rw[ec]
    refine#[#[λi e=>(by injection e with e;omega),λi e=>(by cases e)],y::r,#v[],by rw[zW];omega,?_];rw[wm]
    show getL (S++_)[n]? _
    rw[(Ext.app _:Ext S _).get g,aB,a0]
    room;exact#[∅,q _ (Ext.app _)]
  .rw[if_neg z] at q
   rw[eP _ |>.mp z]
   dsimp[bV,if_true];room;refine#[x::r,g,by rw[zW,tY,aj];omega,?_];rw[wm]
   erw[q S .refl]
def Sz(its:List (List Nat)):(Sx its).length<=its.flatten.length+1:=by
 cases its with
 |nil=>simp[Sx]
 |cons x r=>
  rw[Pb]
  split
  .split
   .rename_i z;have:r=[]:=by simpa using z
    subst this;simp
   .simp;omega
  .simp
abbrev SA(l:List Nat):Bool:=(l==[]||GI l)&&(l==SG||GI (eD l))
abbrev WM:Spec:=λus S Q=>∃l,us=[.str l]/\SA l=ζ/\∀n S',Ext S S'->S'[n]?=ξ (.lst ((Uc l).map .str))->Q (.loc n) S'
def BJ(h:GI l=ζ):(GH l).length<=200/\(GH l).flatten.length<=400/\GH l≠[]:=by
 unfold GI at h;dsimp[ar,decide_eq_true_eq,gW,beq_eq_false_iff_ne] at h;exact#[h.1.1.2,h.1.2,h.2]
abbrev pCt:dC:=#v[.ifs (.cU (.cmp .ne @0 (.lit (.str SG)))) #v[.ex (.jL .append @1 #v[.bin .add (.bin .add ↑[91,94] (.jL .join (.lit (.str [])) #v[.call "class_items" #v[.call "all_but" #v[@0]]])) ↑[93]])] .nil,.ret @1]
def WN(Γ:bY)(h1:Γ "class_items"=WH)(h2:Γ "guarded"=WK)(h3:Γ "all_but"=spT eD):Keeps Γ ke 1 WM:=by
 rintro us S Q ⟨l,rfl,ok,q⟩;unfold SA at ok;rw[ar,bq,bq] at ok;have keep:∀{S1:bG}{o:SO},Ext S S1->Ext S (S1.set S.length o):=λx=>(x.st ∅)
 have fin:∀S1 acc,Ext S S1->S1[S.length]?=ξ (.lst (acc.map .str))->acc.length<=10->acc=(if l==[] then [] else [[91]++Sx (GH l)++[93]])->Rest Γ pCt #[λ_ S1=>Q .b7 S1,Q] [ξ (.str l),ξ (.loc S.length)] S1:=by
  intro S1 acc x1 g1 al ea;unfold Uc at q;rw[<-ea] at q;unfold pCt;have ok2:=ok.2;generalize SG=G at q ok2;room;by_cases z:(l==G)=ζ
  .rw[z]
   rw[if_pos z,bT] at q;dsimp[bH,aw,if_false];room;erw[q _ _ x1 g1]
  .rw[eP _ |>.mp z]
   rw[if_neg z] at q;dsimp[bV,if_true];have ck:=ok2.resolve_left z;let#[f1,f2,f3]:=BJ ck;room;rw[g1,aB]
   refine#[trivial,ca h3 #[l,rfl,λS2 x2=>ca h1 #[_,rfl,ck,λn S3 x3 g3=>#[_,g3,by rw[zW];omega,?_]]]];rw[wm]
   refine#[by dsimp[aU,dH];omega,by rw[aj];dsimp[aU,dH];omega,?_];show getL S3[S.length]? _;rw[(x2.trans x3).get g1,aB]
   refine#[by rw[ae];omega,?_];room;erw[q _ _ (keep (x1.trans (x2.trans x3))) (by rw[gs ((x2.trans x3).get g1)];simp)]
 unfold ke;room;refine#[#v[],?_];have x0:Ext S (S++[SO.lst []]):=Ext.app _;have g0:(S++[SO.lst []])[S.length]?=ξ (.lst []):=by simp
 generalize S++[SO.lst []]=S0 at x0 g0;room;by_cases z:(l==[])=ζ
 .rw[z]
  dsimp[bH,aw,if_false];erw[Rest.go (fin S0 [] x0 g0 (#v[]) (by rw[if_pos z]))]
 .rw[eP _ |>.mp z]
  dsimp[bV,if_true];have ck:=ok.1.resolve_left z;let#[f1,f2,f3]:=BJ ck;have gl:=Sz (GH l);room;rw[g0,aB]
  refine#[trivial,ca h1 #[l,rfl,ck,λn S2 x2 g2=>ca h2 #[n,_,rfl,g2,f3,f1,f2,λS3 x3=>?_]]];room;refine#[by dsimp[aU,dH];omega,by dsimp[aU,dH];omega,?_];rw[(x2.trans x3).get g0,aB]
  refine#[#v[],?_];erw[Rest.go (fin _ [[91]++Sx (GH l)++[93]] (keep (x0.trans (x2.trans x3))) (by rw[gs ((x2.trans x3).get g0)];simp) (#v[]) (by rw[if_neg z]))]
@[reducible]def CL:List (List Nat):=[[97],[98],[99],[97,98],[98,99],SG,[48],[],[48,97,98,99]]
def Kv:∀l∈CL,l.length=1\/(SA l=ζ/\(l==eD [10])=ϑ/\Uc l≠[]/\(Uc l).all (λx=>decide (x.length<=1000))=ζ):=by
 decide +kernel
abbrev N3:Spec:=λus S Q=>∃l,us=[.str l]/\l∈CL/\∀S',Ext S S'->Q (.str (Kt l)) S'
def WQ(Γ:bY)(h1:Γ "sign_text"=Sy)(h2:Γ "all_but"=spT eD)(h3:Γ "class_texts"=WM):Keeps Γ kQ 0 N3:=by
 rintro us S Q ⟨l,rfl,hl,q⟩;have fa:=Kv l hl;have ll:l.length<=95:=by
  have:∀l∈CL,l.length<=95:=⋯
  erw[this l hl]
 unfold kQ;unfold Kt at q;room;refine#[∅,?_];by_cases z:l.length=1
 .rw[if_pos z] at q
  rw[if_pos (by rw[z];rfl)]
  obtain⟨c,rfl⟩:∃c,l=[c]:=jN.mp z;room;erw[ca h1 #[c,MO,rfl,q S .refl]]
 .rw[if_neg z] at q
  rw[if_neg ((·))]
  let#[f1,f2,f3,f4]:=fa.resolve_left z;room;rwa[ca h2 #[_,rfl,λS1 x1=>?_]];room;rw[f2]
  dsimp[aw,if_false];room;rwa[ca h3 #[l,rfl,f1,λn S2 x2 g2=>?_]];cases e:Uc l with
  |nil=>erw[absurd e f3]
  |cons t ts=>
   rw[e] at g2 q f4;refine#[t,ts,g2,λu hu=>?_,q S2 (x1.trans x2)];have:=cy.mp f4 u hu;simp at this;omega
def SD:∀l∈CL,(Kt l).length<=10:=by decide +kernel
def sh:Kt [97,98]=[91,97,98,93]/\Kt [98,99]=[91,98,99,93]/\Kt SG=[91,10,45,126,93]/\Kt []=[91,94,10,45,126,93]/\Kt [48,97,98,99]=[91,48,97,98,99,93]:=by decide +kernel
set_option maxRecDepth 100000 in
def N4(h:l∈CL)(br:Option (List Nat->PR U)):v8 br (Kt l) (NN l):=by
 intro rest;dsimp[aN,cG,or_false] at h;rcases h with rfl|rfl|rfl|rfl|rfl|rfl|rfl|rfl|rfl
 .rfl
 .rfl
 .rfl
 .rw[sh.1];rfl
 .rw[sh.2.1];rfl
 .rw[sh.2.2.1];rfl
 .rfl
 .rw[sh.2.2.2.1];rfl
 .rw[sh.2.2.2.2];rfl
abbrev num:Nat->Tr->Tr
 |n,.one _ l=>.one n l
 |n,.row a b=>.row (num n a) (num (n+size a) b)
 |n,.or a b=>.or (num n a) (num (n+size a) b)
 |n,.rep m a=>.rep m (num n a)
def tM:∀t n,enc (num n t)=enc t/\size (num n t)=size t/\bM (num n t)=bM t/\null (num n t)=null t/\pb (num n t)=pb t/\oo n (num n t)
 |.one _ l,n=>#[rfl,rfl,rfl,rfl,rfl,rfl]
 |.row a b,n=>by
  let#[a1,a2,a3,a4,a5,a6]:=tM a n;let#[b1,b2,b3,b4,b5,b6]:=tM b (n+size a);dsimp[num,enc,size,bM,null,pb,oo,a1,a2,a3,a4,a5,b1,b2,b3,b4,b5];exact#[trivial,trivial,trivial,trivial,trivial,a6,b6]
 |.or a b,n=>by
  let#[a1,a2,a3,a4,a5,a6]:=tM a n;let#[b1,b2,b3,b4,b5,b6]:=tM b (n+size a);dsimp[num,enc,size,bM,null,pb,oo,a1,a2,a3,a4,a5,b1,b2,b3,b4,b5];exact#[trivial,trivial,trivial,trivial,trivial,a6,b6]
 |.rep m a,n=>by
  let#[a1,a2,a3,a4,a5,a6]:=tM a n;cases m<;>dsimp[num,enc,size,bM,null,pb,oo,a1,a2,a3,a4,a5]<;>exact#[trivial,trivial,trivial,trivial,trivial,a6]
abbrev tN:Nat->List Tr->List Tr
 |_,[]=>[]
 |n,t::ts=>num n t::tN (n+size t) ts
def si:∀ts n,(tN n ts).map enc=ts.map enc/\NY n (tN n ts)/\dX (tN n ts)=dX ts/\∀t∈tN n ts,∃t'∈ts,bM t=bM t'/\null t=null t'/\pb t=pb t'
 |[],n=>#[rfl,trivial,rfl,by simp[tN]]
 |t::ts,n=>by
  let#[a1,a2,a3,a4,a5,a6]:=tM t n;let#[b1,b2,b3,b4]:=si ts (n+size t);refine#[by dsimp[tN,az,a1,b1],#[a6,%[a2|b2]],by dsimp[dX] at b3 ⊢;dsimp[tN,az,jb,a2,b3],λt' m=>?_];rcases aN.mp m with rfl|m
  .exact#[t,aQ ..,a3,a4,a5]
  .let#[t2,m2,h]:=b4 t' m
   exact#[t2,ay _ m2,h]
abbrev oB(t:Tr):Prop:=∀l∈pb t,l∈CL
def lJ:∀t,size t<=2^bM t
 |.one _ _=>by simp[size,bM]
 |.row a b=>by
  have h1:=lJ a;have h2:=lJ b;have p1:2^bM a<=2^max (bM a) (bM b):=bz ∅ ∅;have p2:2^bM b<=2^max (bM a) (bM b):=bz ∅ ∅;dsimp[size,bM,gG];omega
 |.or a b=>by
  have h1:=lJ a;have h2:=lJ b;have p1:2^bM a<=2^max (bM a) (bM b):=bz ∅ ∅;have p2:2^bM b<=2^max (bM a) (bM b):=bz ∅ ∅;dsimp[size,bM,gG];omega
 |.rep m a=>by
  have h1:=lJ a;dsimp[size,bM,gG];omega
abbrev N5(D:Nat):Spec:=λus S Q=>∃(ns:List Int)(b:Int)(d:Nat),us=[.sZ ns,.int b,aR d]/\ns.length<=1000/\d<D/\∀t S',bM t<=d->oB t->Ext S S'->Q (enc t) S'
def Kw(Γ:bY)(D:Nat)(h1:Γ "_law_mix"=uO.yk)(h2:Γ "_law_all"=uO.JY)(h3:Γ "_law_small"=N5 D):Keeps Γ kT 3 (N5 (D+1)):=by
 rintro us S Q ⟨ns,b,d,rfl,hl,hd,q⟩;unfold kT;room;refine ca h1 #[ns,b,rfl,hl,λm m0 m1=>?_];room;refine#[∅,?_];room;have leaf:Rest Γ (.cons (.ret (.tup (.cons ↑[111,110,101] (.cons (.ix (.lst (.cons ↑[97] (.cons ↑[98] (.cons ↑[99] (.cons ↑[97,98] (.cons ↑[98,99] (.cons (.call "_law_all" .nil) (.cons ↑[97] (.cons ↑[98] (.cons ↑[48] (.cons (.lit (.str [])) .nil))))))))))) (.bin .mod (.bin .fdiv @3 ↑9) ↑10)) .nil)))) .nil) #[λ_ S1=>Q .b7 S1,Q] [ξ (.sZ ns),ξ (.int b),ξ (aR d),ξ (.int m),ξ (.int (m%9)),ψ] S:=by
  room;rwa[ca h2 #[rfl,λG hG=>?_]];refine#[#v[],∅,∅,?_];have gl:(S++[SO.lst [U.str [97],U.str [98],U.str [99],U.str [97,98],U.str [98,99],U.str G,U.str [97],U.str [98],U.str [48],U.str []]])[S.length]?=ξ (.lst ([[97],[98],[99],[97,98],[98,99],G,[97],[98],[48],[]].map U.str)):=by simp
  rw[gl,aB]
  rwa[tH (jr _ ∅) (by simp;erw[gE _ ∅]) λu hu=>?_]
  let#[l,ml,rfl]:=bD.mp hu;refine#[#v[],q (.one 0 l) _ (bJ _) (λl' m'=>?_) (Ext.app _)];have:l'=l:=by simpa[pb] using m'
  subst this;rw[hG] at ml
  revert ml
  dsimp[aN];rintro(h|h|h|h|h|h|h|h|h|h|h)<;>simp_all
 by_cases z:d=0\/m%9<4
 .have z1:((d:Int)== 0)=ζ\/(((d:Int)== 0)=ϑ/\decide (m%9<4)=ζ):=by
   by_cases y:d=0
   .subst y;erw[.inl rfl]
   .rwa[.inr #[by rw[beq_eq_false_iff_ne];omega,decide_eq_true ∅]]
  rcases z1 with z1|⟨z1,z2⟩
  .dsimp[z1,if_true];erw[leaf]
  .dsimp[z1,z2,aw,if_false,if_true];erw[leaf]
 .have z1:((d:Int)== 0)=ϑ:=by rw[beq_eq_false_iff_ne];omega
  have z2:decide (m%9<4)=ϑ:=decide_eq_false ∅;obtain⟨d,rfl⟩:∃d',d=d'+1:=#[d-1,∅]
  have ed:(((d+1:Nat):Int)-1)=(d:Int):=∅
  dsimp[z1,z2,aw,if_false];room;by_cases y:m%9<7
  .dsimp[y,decide_true,if_true]
   room;refine#[∅,∅,?_];refine fO _ (λi acc S1=>Ext S S1/\∃l:List Tr,acc=l.map enc/\l.length=i/\∀t∈l,bM t<=d/\oB t) (λi acc S1 hi h9=>by let#[x,l,e1,e2,_]:=h9;exact#[trivial,by rw[e1,ae];simp at hi;omega]) (λi u acc S1 k hu hi hk=>?_) (λacc S1 h=>?_) #[.refl,[],rfl,rfl,#v[]]
   .let#[x1,l,rfl,e2,inv]:=hi
    let#[rfl,_]:=o9 (n:=2) hu;room;rw[ed]
    refine#[.inl ∅,ca h3 #[ns,_,d,rfl,hl,∅,λt S2 dt lt x2=>hk _ _ #[x1.trans x2,l++[t],#v[],by simp[e2],λt' m'=>?_]]];rcases aL.mp m' with m'|m'
    .erw[inv t' m']
    .simp at m';subst m';exact#[dt,lt]
   .let#[x1,l,rfl,e2,inv]:=h
    have e2:l.length=2:=e2;obtain⟨a,b,rfl⟩:∃a b,l=[a,b]:=by
     match l,e2 with
     |[a,b],_=>exact#[a,b,rfl]
    have ia:=inv a (#v[]);have ib:=inv b (#v[]);have g2:(S1++[SO.lst ([a,b].map enc)])[S1.length]?=ξ (.lst [enc a,enc b]):=by simp
    have x2:Ext S (S1++[SO.lst ([a,b].map enc)]):=x1.trans (Ext.app _);generalize S1.length=m2 at g2;generalize S1++[SO.lst ([a,b].map enc)]=S2 at g2 x2;room;refine#[#v[],?_];have gl:(S2++[SO.lst [U.str [114,111,119],U.str [111,114],U.str [114,111,119]]])[S2.length]?=ξ (.lst [U.str [114,111,119],U.str [111,114],U.str [114,111,119]]):=by simp
    rw[gl,aB,(Ext.app _:Ext S2 _).get g2]
    rwa[tH ∅ ((·)) λu hu=>#[#v[],?_]]
    have lv:∀l∈pb a++pb b,l∈CL:=λl hl=>(aL.mp hl).elim (ia.2 l) (ib.2 l)
    dsimp[aN,cG,or_false] at hu;have dd:max (bM a) (bM b)+1<=d+1:=∅
    rcases hu with rfl|rfl|rfl
    .erw[q (.row a b) _ dd lv (x2.trans (Ext.app _))]
    .erw[q (.or a b) _ dd lv (x2.trans (Ext.app _))]
    .erw[q (.row a b) _ dd lv (x2.trans (Ext.app _))]
  .dsimp[y,decide_false,aw,if_false]
   room;refine#[#v[],∅,∅,?_];have gl:(S++[SO.lst [U.str [115,116,97,114],U.str [112,108,117,115],U.str [109,97,121,98,101]]])[S.length]?=ξ (.lst [U.str [115,116,97,114],U.str [112,108,117,115],U.str [109,97,121,98,101]]):=by simp
   rw[gl,aB]
   rwa[tH (jr _ ∅) (by simp;erw[gE _ ∅]) λu hu=>?_]
   rw[ed]
   refine#[.inl ∅,ca h3 #[ns,_,d,rfl,hl,∅,λt S2 dt lt x2=>#[#v[],?_]]];have xx:Ext S S2:=(Ext.app _).trans x2;have dd:bM t+1<=d+1:=∅
   dsimp[aN,cG,or_false] at hu;rcases hu with rfl|rfl|rfl
   .erw[q (.rep .star t) _ dd lt xx]
   .erw[q (.rep .plus t) _ dd lt xx]
   .erw[q (.rep .may t) _ dd lt xx]
abbrev SE:Spec:=λus S Q=>∃(ns:List Int)(bs k:Int)(dp:Nat),us=[.sZ ns,.int bs,.int k,.int dp]/\dp<=2/\ns.length<=1000/\0<=k/\k<=4/\∀ts n S',lI ts->(∀t∈ts,oB t)->(dX ts:Int)<=5*k->(ts.length:Int)=k/\((∀t∈ts,bM t<4)/\(dp<=1->∀t∈ts,size t<=2/\bM t<=2))->Ext S S'->S'[n]?=ξ (.lst (ts.map enc))->Q (.loc n) S'
def SF:∀{t:Tr},bM t<=1->null t=ζ->size t=1
 |.one _ _,_,h=>by cases h
 |.row a b,d,h=>by
  have:bM a=0:=by dsimp[bM] at d;omega
  cases a<;>first| (simp[null] at h;done)| (simp[bM] at this;done)
 |.or a b,d,h=>by
  have h1:bM a=0:=by dsimp[bM] at d;omega
  have h2:bM b=0:=by dsimp[bM] at d;omega
  cases a<;>first| (simp[bM] at h1;done)| (cases b<;>first| (simp[bM] at h2;done)| (simp[null] at h;done))
 |.rep m a,d,h=>by
  have h1:bM a=0:=by dsimp[bM] at d;omega
  cases a<;>first|rfl| (simp[bM] at h1;done)
def WR(Γ:bY)(h1:Γ "_law_small"=N5 3)(h2:Γ "_law_nothing"=zS 6):Keeps Γ kU 3 SE:=by
 rintro us S Q ⟨ns,bs,k,dp,rfl,hdp,hl,k0,k4,q⟩;unfold kU;room;refine#[#v[],?_];have x0:Ext S (S++[SO.lst []]):=Ext.app _;have g0:(S++[SO.lst []])[S.length]?=ξ (.lst []):=by simp
 room;refine#[∅,∅,?_];rwa[dy (λi env S1=>∃(l:List Tr)(x5 x6:Option U),env=[ξ (.sZ ns),ξ (.int bs),ξ (.int k),ξ (.int dp),ξ (.loc S.length),x5,x6]/\Ext S S1/\S1[S.length]?=ξ (.lst (l.map enc))/\l.length=i/\dX l<=5*i/\∀t∈l,bM t<4/\null t=ϑ/\oB t/\(dp<=1->size t<=2/\bM t<=2)) (λ_ _ _ _=>trivial) _ ?_ ?_ #[[],ψ,ψ,rfl,x0,g0,rfl,by simp[dX],#v[]]]
 .rintro i u env S1 K hu ⟨l,x5,x6,rfl,x1,g1,ll,sl,inv⟩ hK
  let#[rfl,hi]:=o9 hu;room;refine#[.inl ∅,ca h1 #[ns,_,dp,rfl,hl,∅,λt S2 dt lt x2=>?_]];have st:size t<=4:=aF (lJ t) (bz (n:=2) (j:=2) ∅ (aF dt hdp));have g2:=x2.get g1;room;refine ca h2 #[_,rfl,.inl #[t,rfl,∅,λS3 x3=>?_]];have g3:=x3.get g2;have fin:∀(t':Tr)(x5 x6:Option U),bM t'<4->null t'=ϑ->oB t'->size t'<=5->(dp<=1->size t'<=2/\bM t'<=2)->x6=ξ (enc t')->Rest Γ (.cons (.ex (.jL .append @4 (.cons @6 .nil))) .nil) #[K,Q] [ξ (.sZ ns),ξ (.int bs),ξ (.int k),ξ (.int dp),ξ (.loc S.length),x5,x6] S3:=by
   rintro t' x5 x6 d1 d2 d3 d4 d5 rfl;room;rw[g3,aB]
   refine#[trivial,(·),?_];room;have x13:=(x1.trans x2).trans x3;refine hK _ _ #[l++[t'],_,_,rfl,(x13.st ∅),by rw[gs g3];simp,by simp[ll],by simp[dX] at sl ⊢;omega,λt2 m2=>?_];rcases aL.mp m2 with m2|m2
   .erw[inv t2 m2]
   .simp at m2;subst m2;exact#[d1,d2,d3,d5]
  room;cases nt:null t with
  |false=>
   dsimp[aw,if_false];erw[fin t _ _ ∅ nt lt ∅ (λh=>#[aF (lJ t) (bz (n:=2) (j:=1) ∅ (aF dt h)),∅]) rfl]
  |true=>
   dsimp[if_true];room;refine#[∅,#v[],?_];rwa[tH (jr _ ∅) (by simp;erw[gE _ ∅]) λc hc=>#[#v[],#v[],#v[],?_]]
   rwa[fin (.row (.one 0 [c]) t) _ _ ?_ (by simp[null]) (λl hl=>?_) (by dsimp[size];omega) (λh=>#[by dsimp[size];rw[SF (aF dt h) nt];decide,by show max 0 (bM t)+1<=2;omega]) rfl]
   .show max 0 (bM t)+1<4;omega
   .rcases aL.mp hl with h|h
    .have:l=[c]:=by simpa[pb] using h
     subst this;dsimp[aN,cG,or_false] at hc;rcases hc with rfl|rfl|rfl<;>simp
    .erw[lt l h]
 .rintro env S1 ⟨l,x5,x6,rfl,x1,g1,ll,sl,inv⟩
  room;have ll2:=ll;have ll:l.length<=4:=by rw[ll];simp;omega
  let#[e1,e2,e3,e4]:=si l 1;have el:(tN 1 l).length=l.length:=by have:=congrArg cR e1;simpa using this
  have ll':(l.length:Int)=k:=by rw[ll2];dsimp[ae,gV];omega
  refine q (tN 1 l) _ S1 #[∅,e2,λt m=>?_,λt m=>?_,by rw[e3];dsimp[ae,gV] at sl;omega] (λt m=>?_) (by rw[e3];dsimp[ae,gV] at sl;omega) #[%[el|ll'],λt m=>?_,λh t m=>?_] x1 (%[e1|g1])
  .let#[t',m',h]:=e4 t m;rw[h.2.1];exact(inv t' m').2.1
  .let#[t',m',h]:=e4 t m;rw[h.1];erw[bc (inv t' m').1]
  .let#[t',m',h]:=e4 t m
   intro l hl;rw[h.2.2] at hl;exact(inv t' m').2.2.1 l hl
  .let#[t',m',h]:=e4 t m;rw[h.1];exact(inv t' m').1
  .let#[t',m',z]:=e4 t m
   have:=(inv t' m').2.2.2 h;rw[<-gh,z.2.2,gh,z.1];erw[this]
abbrev SH:Mk->Nat
 |.star=>42
 |.plus=>43
 |.may=>63
abbrev tx:Tr->List Nat×List Nat
 |.one _ l=>(Kt l,Kt l)
 |.rep m a=>((tx a).1++[SH m],(tx a).1++[SH m])
 |.row a b=>(40::((tx a).1++(tx b).1++[41]),(tx a).1++(tx b).1)
 |.or a b=>(40::((tx a).2++124::(tx b).2++[41]),40::((tx a).2++124::(tx b).2++[41]))
abbrev wr:Tr->List Nat
 |.or a b=>(tx a).2++124::(tx b).2
 |t=>(tx t).2
def dS:∀t,oB t->(tx t).1.length+3<=13*2^bM t/\(tx t).2.length<=(tx t).1.length/\(wr t).length<=(tx t).1.length
 |.one _ l,h=>by
  have:=SD l (h l (by simp[pb]));dsimp[tx,wr,bM];omega
 |.rep m a,h=>by
  have:=dS a h;dsimp[tx,wr,bM,gG,aj,gO];omega
 |.row a b,h=>by
  have h1:=dS a λl m=>h l (bN _ m)
  have h2:=dS b λl m=>h l (bf _ m)
  have p1:2^bM a<=2^max (bM a) (bM b):=bz ∅ ∅;have p2:2^bM b<=2^max (bM a) (bM b):=bz ∅ ∅;dsimp[tx,wr,bM,gG,aj,aU,dH];omega
 |.or a b,h=>by
  have h1:=dS a λl m=>h l (bN _ m)
  have h2:=dS b λl m=>h l (bf _ m)
  have p1:2^bM a<=2^max (bM a) (bM b):=bz ∅ ∅;have p2:2^bM b<=2^max (bM a) (bM b):=bz ∅ ∅;dsimp[tx,wr,bM,gG,aj,aU,dH];omega
def lK{t:Tr}(h:oB t)(d:bM t<5):(tx t).1.length<=300/\(tx t).2.length<=300/\(wr t).length<=300:=by
 have:=dS t h;have p:2^bM t<=2^4:=bz ∅ ∅;omega
section
variable{br:Option (List Nat->PR U)}{x:List Nat}{t:U}
def sj(h:v9 br x t):wa br x t:=#[[t],#v[],by have:=r8.cons h .nil;rwa [bT] at this,rfl]
def zX(h:wa br x t):Gx br x t:=#[x,[],t,[],#v[],h,.nil,rfl]
def wo(h:v8 br x t):v9 br x t:=#[x,t,[],#v[],h,#v[],rfl]
end
def pS:∀t k,oB t->bM t<=k->v9 (uf k) (tx t).1 (enc t)/\wa (uf k) (tx t).2 (enc t)/\Gx (uf k) (wr t) (enc t)
 |.one _ l,k,h,d=>by
  have a:=wo (N4 (h l (by simp[pb])) (uf k));exact#[a,sj a,zX (sj a)]
 |.rep m a,k,h,d=>by
  have d:bM a+1<=k:=d;let#[x,ta,ms,e,ia,hm,et]:=(pS a k h ∅).1;have r:v9 (uf k) ((tx a).1++[SH m]) (enc (.rep m a)):=by
   refine#[x,ta,ms++[SH m],by rw[e,bx],ia,λc hc=>?_,?_]
   .rcases aL.mp hc with h|h
    .erw[hm c h]
    .simp at h;subst h;cases m<;>decide
   .unfold NS
    rw[d6]
    show enc (.rep m a)=JT (SH m) (NS ta ms)
    rw[<-et]
    cases m<;>rfl
  exact#[r,sj r,zX (sj r)]
 |.row a b,k,h,d=>by
  have d:max (bM a) (bM b)+1<=k:=d;have key:∀k,max (bM a) (bM b)<=k->wa (uf k) ((tx a).1++(tx b).1) (enc (.row a b)):=λk hk=>by
   have h1:=(pS a k (λl m=>h l (bN _ m)) ∅).1;have h2:=(pS b k (λl m=>h l (bf _ m)) ∅).1;exact#[[enc a,enc b],#v[],by have:=r8.cons h1 (r8.cons h2 .nil);rwa [bT] at this,rfl]
  obtain⟨k,rfl⟩:∃k',k=k'+1:=#[k-1,∅]
  have r:=wo (EU (zX (key k ∅)));exact#[r,key _ ∅,zX (key _ ∅)]
 |.or a b,k,h,d=>by
  have d:max (bM a) (bM b)+1<=k:=d;have key:∀k,max (bM a) (bM b)<=k->Gx (uf k) ((tx a).2++124::(tx b).2) (enc (.or a b)):=λk hk=>by
   have h1:=(pS a k (λl m=>h l (bN _ m)) ∅).2.1;have h2:=(pS b k (λl m=>h l (bf _ m)) ∅).2.1;exact#[(tx a).2,124::(tx b).2,enc a,[enc b],rfl,h1,by have:=wb.cons h2 .nil;rwa [bT] at this,rfl]
  obtain⟨k,rfl⟩:∃k',k=k'+1:=#[k-1,∅]
  have r:=wo (EU (key k ∅));exact#[r,sj r,key _ ∅]
def N6{t:Tr}(h:oB t)(d:bM t<5):vZ (wr t)= .ok (enc t,[]):=NT (pS t 6 h ∅).2.2
abbrev BK(D:Tr->Prop)(f:Tr->List Nat):Spec:=λus S Q=>∃t,us=[enc t]/\D t/\oB t/\bM t<5/\∀S',Ext S S'->Q (.str (f t)) S'
abbrev wq:Tr->Prop
 |.row _ _=>True
 |.or _ _=>True
 |_=>False
abbrev Kx:Tr->Prop
 |.rep _ _=>False
 |_=>True
def SI(Γ:bY)(k:Nat)(D:Tr->Prop)(hD:∀t,bM t<=k->wq t->D t)(h1:Γ "place_text"=N3)(h2:Γ "written"=BK D wr):Keeps Γ md 0 (BK (λt=>bM t<=k/\Kx t) λt=>(tx t).1):=by
 rintro us S Q ⟨t,rfl,⟨dt,nr⟩,lt,d4,q⟩;have q:∀S',Ext S S'->Q (.str (tx t).1) S':=q;unfold md;have sm:=lK lt d4;have go:wq t->(tx t).1=40::(wr t++[41])->Rest Γ (.cons (.ret (.bin .add (.bin .add ↑[40] (.call "written" (.cons @0 .nil))) ↑[41])) .nil) #[λ_ S1=>Q .b7 S1,Q] [ξ (enc t)] S:=by
  intro ro e;room;rwa[ca h2 #[t,rfl,hD t dt ro,lt,d4,λS1 x1=>?_]];room;refine#[(·),(·),?_];rw[<-e]
  erw[q S1 x1]
 cases t with
 |one n l=>
  rwa[se rfl rfl ?_];unfold enc;room;dsimp[mI,aW];exact#[#v[],ca h1 #[l,rfl,lt l (by simp[pb]),q]]
 |row a b=>erw[jE rfl rfl (go trivial (by simp[tx,wr]))]
 |or a b=>erw[jE rfl rfl (go trivial (by simp[tx,wr]))]
 |rep m a=>erw[nr.elim]
noncomputable abbrev Ym:List (List Nat×List Nat):=[([115,116,97,114],[42]),([112,108,117,115],[43]),([109,97,121,98,101],[63])]
def SJ(Γ:bY)(k:Nat)(hk:k<=10)(h1:Γ "atom_text"=BK (λt=>bM t<=k/\Kx t) λt=>(tx t).1):Keeps Γ kc 2 (BK (λt=>bM t<=k) λt=>(tx t).1):=by
 rintro us S Q ⟨t,rfl,dt,lt,d4,q⟩;have q:∀S',Ext S S'->Q (.str (tx t).1) S':=q;unfold kc;have sm:=lK lt d4;room;refine#[bM t+1,mw (λn env S1=>S1=S/\∃a ms,n=bM a/\bM a<=bM t/\oB a/\ms.length+bM a<=bM t/\(tx t).1=(tx a).1++ms/\env=[ξ (enc t),ξ (.str ms),ξ (enc a)]) ?_ _ (bM t) _ _ ∅ #[rfl,t,[],rfl,aq _,lt,#v[],#v[],rfl]];rintro n env S1 K ⟨rfl,a,ms,rfl,da,la,ml,e,rfl⟩ hK;have stop:∀kk x,enc a=.tup [.str kk,x]->(Ym.lookup kk).isSome=ϑ->Kx a->WT Γ (.cU (.cmp .isin (.ix @2 ↑0) (.lit (.tab Ym)))) [ξ (enc t),ξ (.str ms),ξ (enc a)] S1
   (λt1 S2=>if t1=ζ then Rest Γ (.cons (.set 1 (.bin .add (.ix (.lit (.tab Ym)) (.ix @2 ↑0)) @1)) (.cons (.set 2 (.ix @2 ↑1)) .nil)) #[K,Q] [ξ (enc t),ξ (.str ms),ξ (enc a)] S2 else Rest Γ (.cons (.ret (.bin .add (.call "atom_text" (.cons @2 .nil)) @1)) .nil) #[λ_ S1=>Q .b7 S1,Q] [ξ (enc t),ξ (.str ms),ξ (enc a)] S2):=by
  intro kk x ek el nr;have fin:Rest Γ (.cons (.ret (.bin .add (.call "atom_text" (.cons @2 .nil)) @1)) .nil) #[λ_ S1=>Q .b7 S1,Q] [ξ (enc t),ξ (.str ms),ξ (enc a)] S1:=by
   room;rwa[ca h1 #[a,rfl,#[∅,nr],la,∅,λS2 x2=>?_]];room;rw[<-e]
   refine#[?_,q S2 x2];rw[e,aj] at sm;omega
  rw[ek] at fin ⊢;room;rw[oX,aW,Bh,el]
  exact#[#v[],fin]
 cases a with
 |one n l=>erw[stop _ _ rfl rfl trivial]
 |row a b=>erw[stop _ _ rfl rfl trivial]
 |or a b=>erw[stop _ _ rfl rfl trivial]
 |rep m a=>
  have dr:bM (.rep m a)=bM a+1:=rfl;have ek:enc (.rep m a)= .tup [.str (og m),enc a]:=rfl;rw[ek]
  have el:Ym.lookup (og m)=ξ [SH m]:=by cases m<;>rfl
  room;rw[oX,aW,Bh,el]
  refine#[#v[],?_];dsimp[qO,if_true];room;dsimp[oX,aW,zg,el];room;refine#[#v[],(·),?_];room;dsimp[mI,aW];refine#[#v[],?_];try room
  erw[hK (bM a) _ _ ∅ #[rfl,a,SH m::ms,rfl,∅,la,(·),by rw[e];simp[tx],rfl]]
abbrev N7:Tr->Prop
 |.row _ _=>True
 |_=>False
def two_get{a b:Tr}{f:Tr->List Nat}{i:Nat}{u v:U}(hu:[enc a,enc b][i]?=ξ u)(hv:[U.str (f a),U.str (f b)][i]?=ξ v):∃t,(t=a\/t=b)/\u=enc t/\v=.str (f t):=by
 let#[t,m,h1,h2]:=zT (K:=[a,b]) (f:=λt=>.str (f t)) hu hv;exact#[t,~~~m,h1,h2]
def SK(Γ:bY)(k:Nat)(h1:Γ "repeat_text"=BK (λt=>bM t<=k) λt=>(tx t).1):Keeps Γ nM 0 (BK (λt=>bM t<=k\/(N7 t/\bM t<=k+1)) λt=>(tx t).2):=by
 rintro us S Q ⟨t,rfl,dt,lt,d4,q⟩;have q:∀S',Ext S S'->Q (.str (tx t).2) S':=q;unfold nM;have go:¬N7 t->(tx t).2=(tx t).1->Rest Γ (.cons (.ret (.call "repeat_text" (.cons @0 .nil))) .nil) #[λ_ S1=>Q .b7 S1,Q] [ξ (enc t)] S:=by
  intro nr e;room;rw[e] at q;erw[ca h1 #[t,rfl,dt.resolve_right λz=>nr z.1,lt,d4,q]]
 cases t with
 |one n l=>erw[jE rfl rfl (go (λz=>z) rfl)]
 |rep m a=>erw[jE rfl (beq_eq_false_iff_ne.mpr (qt m).2.1) (go (λz=>z) rfl)]
 |or a b=>erw[jE rfl rfl (go (λz=>z) rfl)]
 |row a b=>
  have dt:max (bM a) (bM b)+1<=k+1:=by rcases dt with z|z;erw[jU z];erw[z.2]
  have d4:max (bM a) (bM b)+1<5:=d4;have lo:∀t,t=a\/t=b->oB t/\bM t<=k/\bM t<5:=by
   rintro t (rfl|rfl)
   .exact#[λl m=>lt l (bN _ m),∅,∅]
   .exact#[λl m=>lt l (bf _ m),∅,∅]
  have sa:=(lK (lo a (.inl rfl)).1 (lo a (.inl rfl)).2.2).1;have sb:=(lK (lo b (.inr rfl)).1 (lo b (.inr rfl)).2.2).1;rwa[se rfl rfl ?_];unfold enc;room;dsimp[mI,aW];refine#[#v[],#v[],?_];rwa[iD (S:=S) _ [.str (tx a).1,.str (tx b).1] (#v[]) (#v[]) (λ_ _=>trivial) (λu S' k h=>h) (λi u v hu hv S' k x hk=>?_) λS1 x1=>?_]
  .let#[t,m,rfl,rfl]:=two_get (f:=λt=>(tx t).1) hu hv
   let#[l1,l2,l3]:=lo t m;erw[ca h1 #[t,rfl,l2,l1,l3,hk]]
  .refine#[[(tx a).1,(tx b).1],#v[],(·),?_]
   have e:l9 [] [(tx a).1,(tx b).1]=(tx (.row a b)).2:=by simp[l9,tx]
   rw[e]
   erw[q _ (x1.trans (Ext.app _))]
def SM(Γ:bY)(k:Nat)(h1:Γ "row_text"=BK (λt=>bM t<=k\/(N7 t/\bM t<=k+1)) λt=>(tx t).2):Keeps Γ pJ 0 (BK (λt=>bM t<=k\/(wq t/\bM t<=k+1)) wr):=by
 rintro us S Q ⟨t,rfl,dt,lt,d4,q⟩;unfold pJ;have go:(wq t->N7 t)->wr t=(tx t).2->Rest Γ (.cons (.ret (.call "row_text" (.cons @0 .nil))) .nil) #[λ_ S1=>Q .b7 S1,Q] [ξ (enc t)] S:=by
  intro nr e;room;rw[e] at q;erw[ca h1 #[t,rfl,dt.imp_right λz=>#[nr z.1,z.2],lt,d4,q]]
 cases t with
 |one n l=>erw[jE rfl rfl (go (λz=>z) rfl)]
 |rep m a=>erw[jE rfl (beq_eq_false_iff_ne.mpr (qt m).2.2) (go (λz=>z) rfl)]
 |row a b=>erw[jE rfl rfl (go (λz=>z) rfl)]
 |or a b=>
  have dt:max (bM a) (bM b)+1<=k+1:=by rcases dt with z|z;erw[jU z];erw[z.2]
  have d4:max (bM a) (bM b)+1<5:=d4;have lo:∀t,t=a\/t=b->oB t/\bM t<=k/\bM t<5:=by
   rintro t (rfl|rfl)
   .exact#[λl m=>lt l (bN _ m),∅,∅]
   .exact#[λl m=>lt l (bf _ m),∅,∅]
  have sa:=(lK (lo a (.inl rfl)).1 (lo a (.inl rfl)).2.2).2.1;have sb:=(lK (lo b (.inr rfl)).1 (lo b (.inr rfl)).2.2).2.1;rwa[se rfl rfl ?_];unfold enc;room;dsimp[mI,aW];refine#[#v[],#v[],?_];rwa[iD (S:=S) _ [.str (tx a).2,.str (tx b).2] (#v[]) (#v[]) (λ_ _=>trivial) (λu S' k h=>h) (λi u v hu hv S' k x hk=>?_) λS1 x1=>?_]
  .let#[t,m,rfl,rfl]:=two_get (f:=λt=>(tx t).2) hu hv
   let#[l1,l2,l3]:=lo t m;erw[ca h1 #[t,rfl,.inl l2,l1,l3,hk]]
  .refine#[[(tx a).2,(tx b).2],#v[],(·),?_]
   have e:l9 [124] [(tx a).2,(tx b).2]=wr (.or a b):=by simp[l9,wr]
   rw[e]
   erw[q _ (x1.trans (Ext.app _))]
end PL.ni
namespace PL.uD
section
variable{κ:Type}[BEq κ][LawfulBEq κ]
abbrev lV(seen:List κ):List κ->List Nat
 |[]=>[]
 |k::r=>if k∈seen then seen.idxOf k::lV seen r else seen.length::lV (seen++[k]) r
abbrev sn(seen:List κ):List κ->List κ
 |[]=>seen
 |k::r=>sn (if k∈seen then seen else seen++[k]) r
def mC:∀(ks:List κ)(seen:List κ),(lV seen ks).length=ks.length
 |[],_=>rfl
 |k::r,seen=>by unfold lV;split<;>simp[mC r]
def wu:∀(ks:List κ)(seen:List κ),(sn seen ks).length<=seen.length+ks.length
 |[],_=>by simp[sn]
 |k::r,seen=>by
  unfold sn;split
  .have:=wu r seen;simp;omega
  .have:=wu r (seen++[k]);simp at this ⊢;omega
def Ky{κ':Type}[BEq κ'][LawfulBEq κ'](f:κ->κ')(hf:∀a b,f a=f b->a=b)(k:κ):∀l:List (κ×U),(l.map λp=>(f p.1,p.2)).lookup (f k)=l.lookup k
 |[]=>rfl
 | (a,v)::r=>by
  rw[az,aP,aP,Ky f hf k r]
  by_cases h:k=a
  .subst h;simp
  .rw[show(k==a)=ϑ by simp[h],show(f k==f a)=ϑ from beq_eq_false_iff_ne.mpr λe=>h (hf _ _ e)]
def zY:∀(ks:List κ)(seen:List κ),∃m,sn seen ks=seen++m
 |[],seen=>#[[],by simp[sn]]
 |k::r,seen=>by
  unfold sn;split
  .erw[zY r seen]
  .let#[m,e]:=zY r (seen++[k])
   exact#[k::m,by rw[e];simp]
def Kz:∀(ks:List κ)(seen:List κ),seen.Nodup->(sn seen ks).Nodup
 |[],_,h=>h
 |k::r,seen,h=>by
  unfold sn;split
  .erw[Kz r seen h]
  .rename_i hk
   rwa[Kz r _ ?_];rw[dZ]
   exact#[h,#v[],λx hx y hy=>%[bp.mp hy|λe=>hk (e▸hx)]]
def pV{k:κ}{a b:List κ}(h:k∈a):(a++b).idxOf k=a.idxOf k:=by
 rw[jT,if_pos h]
def tO:∀(ks:List κ)(seen:List κ),lV seen ks=ks.map λk=>(sn seen ks).idxOf k
 |[],_=>rfl
 |k::r,seen=>by
  unfold lV sn;split
  .rename_i hk
   let#[m,e]:=zY r seen;rw[az,tO r seen,e,pV hk]
  .rename_i hk
   let#[m,e]:=zY r (seen++[k]);rw[az,tO r (seen++[k]),e]
   congr 1
   rw[pV (#v[]),jT,if_neg hk]
   simp
def wx:∀(ks:List κ)(seen:List κ)(k:κ),k∈sn seen ks↔k∈seen\/k∈ks
 |[],_,_=>by simp[sn]
 |x::r,seen,k=>by
  unfold sn;rw[wx r]
  split
  .rename_i hk
   constructor
   .rintro(h|h)
    .erw[.inl h]
    .erw[.inr (ay _ h)]
   .rintro(h|h)
    .erw[.inl h]
    .rcases aN.mp h with rfl|h
     .erw[.inl hk]
     .erw[.inr h]
  .simp[or_assoc]
abbrev dz(seen:List κ)(n:Nat):List (κ×U):=(seen.zipIdx n).map λp=>(p.1,aR p.2)
def KA(a:List κ)(k:κ)(n:Nat):dz (a++[k]) n=dz a n++[(k,aR (n+a.length))]:=by
 unfold dz;rw[List.zipIdx_append,aG];simp
def zZ(a:List κ)(n:Nat):(dz a n).length=a.length:=by simp[dz]
def z4:∀(a:List κ)(k:κ)(n:Nat),(dz a n).lookup k=if k∈a then ξ (aR (n+a.idxOf k)) else ψ
 |[],k,n=>rfl
 |x::a,k,n=>by
  have e:dz (x::a) n=(x,aR n)::dz a (n+1):=rfl;rw[e,aP]
  by_cases h:k=x
  .subst h;simp
  .have h1:(k==x)=ϑ:=by simp[h]
   rw[h1,z4 a k (n+1)]
   by_cases hk:k∈a
   .rw[if_pos hk,if_pos (ay _ hk),List.idxOf_cons,show(x==k)=ϑ by simp[cJ h]]
    dsimp[cond_false]
    congr 2
    omega
   .rw[if_neg hk,if_neg (by simp[h,hk])]
end
def SN(o:Option Nat):nH (uN o)=ζ:=by cases o<;>rfl
def WU(a b:Option Nat):TZ (uN a) (uN b)=(a==b):=by
 cases a<;>cases b<;>first|rfl|skip
 rename_i x y;show((x:Int)== (y:Int))=(ξ x==ξ y);by_cases h:x=y
 .subst h;simp
 .rw[show((x:Int)== (y:Int))=ϑ from beq_eq_false_iff_ne.mpr λe=>h (lS e),show(ξ x==ξ y)=ϑ from beq_eq_false_iff_ne.mpr λe=>h (aH e)]
def KC(k:Option Nat):∀(l:List (Option Nat×U)),uK (uN k) (l.map λp=>(uN p.1,p.2))=l.lookup k
 |[]=>rfl
 | (a,v)::r=>by
  rw[az,aP]
  unfold uK;rw[WU,KC k r]
  by_cases h:a=k
  .subst h;simp
  .have h1:(a==k)=ϑ:=by simp[h]
   have h2:(k==a)=ϑ:=by simp[cJ h]
   rw[h1,h2];rfl
section
variable{κ β:Type}[BEq κ][LawfulBEq κ][BEq β][LawfulBEq β]{ks:List κ}
def N8{l:List κ}{a b:κ}(ha:a∈l)(h:l.idxOf a=l.idxOf b):a=b:=by
 have la:=cM ha;have e:=jq la;have lb:l.idxOf b<l.length:=∅
 rw[<-e,<-jq lb]
 congr 1
def uV{i j:Nat}{a b:κ}(hi:ks[i]?=ξ a)(hj:ks[j]?=ξ b):(lV [] ks)[i]?=(lV [] ks)[j]?↔a=b:=by
 rw[tO,aC,aC,hi,hj]
 constructor
 .intro h
  erw[N8 ((wx ks [] a).mpr (.inr (ah hi))) (aH h)]
 .intro h;rw[h]
def uW:∀(ks:List κ)(seen:List κ)(i v:Nat),(lV seen ks)[i]?=ξ (v+1)->v<seen.length\/∃p,p<i/\(lV seen ks)[p]?=ξ v
 |[],_,i,v,h=>by simp[lV] at h
 |k::r,seen,0,v,h=>by
  unfold lV at h;split at h
  .rename_i hk
   have:=cM hk;have:seen.idxOf k=v+1:=by simpa using h
   omega
  .have:seen.length=v+1:=by simpa using h
   omega
 |k::r,seen,i+1,v,h=>by
  unfold lV at h ⊢;split at h
  .rename_i hk
   rw[if_pos hk]
   rcases uW r seen i v (~~~h) with z|⟨p,hp,e⟩
   .erw[.inl z]
   .exact .inr #[p+1,∅,~~~e]
  .rename_i hk
   rw[if_neg hk]
   rcases uW r (seen++[k]) i v (~~~h) with z|⟨p,hp,e⟩
   .rw[aj] at z
    by_cases y:v<seen.length
    .erw[.inl y]
    .have:seen.length=v:=by simp at z;omega
     erw[.inr #[0,∅,by simp[this]]]
   .exact .inr #[p+1,∅,~~~e]
def N9(hm:m∈lV [] ks)(h:∀j∈lV [] ks,j<=m):m+1=(sn [] ks).length:=by
 rw[tO] at hm h;let#[k,hk,rfl]:=bD.mp hm;have l1:=cM ((wx ks [] k).mpr (.inr hk));have ll:(sn [] ks).length-1<(sn [] ks).length:=∅
 have e:=(Kz ks [] (#v[])).idxOf_getElem _ ll;have m2:=(wx ks [] _).mp (cz ll);have:=h _ (bD.mpr #[_,m2.resolve_left (#v[]),rfl]);rw[e] at this;omega
abbrev WV(ps:List (κ×β)):Prop:=∀x∈ps,∀y∈ps,x.1=y.1->x.2=y.2
def BL:∀(ps:List (κ×β))(A:List κ)(B:List β),WV ps->(∀x∈ps,x.1∈A->x.2∈B)->(sn B (ps.map (·.2))).length+A.length<=(sn A (ps.map (·.1))).length+B.length
 |[],A,B,_,_=>by simp[sn];omega
 |x::ps,A,B,hc,hA=>by
  have c':WV ps:=λy hy z hz=>hc y (ay _ hy) z (ay _ hz)
  rw[az,az]
  unfold sn;by_cases h1:x.1∈A
  .have h2:=hA x (aQ ..) h1
   rw[if_pos h1,if_pos h2]
   erw[BL ps A B c' λy hy=>hA y (ay _ hy)]
  .have nx:∀y∈ps,y.1∈A++[x.1]->y.2∈B\/y.2=x.2:=λy hy m=>by
    rcases aL.mp m with m|m
    .erw[.inl (hA y (ay _ hy) m)]
    .exact .inr (hc y (ay _ hy) x (aQ ..) (~~~m))
   rw[if_neg h1]
   by_cases h2:x.2∈B
   .rw[if_pos h2]
    have:=BL ps (A++[x.1]) B c' λy hy m=>(nx y hy m).elim id λe=>e▸h2
    simp at this ⊢;omega
   .rw[if_neg h2]
    have:=BL ps (A++[x.1]) (B++[x.2]) c' λy hy m=>by
     rcases nx y hy m with z|z
     .simp[z]
     .simp[z]
    simp at this ⊢;omega
def DM:∀(ps:List (κ×β))(A:List κ)(B:List β),WV ps->A.length=B.length->(∀x∈ps,x.1∈A->x.2∈B/\A.idxOf x.1=B.idxOf x.2)->(sn B (ps.map (·.2))).length=(sn A (ps.map (·.1))).length->lV A (ps.map (·.1))=lV B (ps.map (·.2))
 |[],A,B,_,_,_,_=>rfl
 |x::ps,A,B,hc,hl,hA,he=>by
  have c':WV ps:=λy hy z hz=>hc y (ay _ hy) z (ay _ hz)
  rw[az,az] at he ⊢;unfold sn at he;unfold lV;by_cases h1:x.1∈A
  .let#[h2,h3]:=hA x (aQ ..) h1
   rw[if_pos h1,if_pos h2] at he ⊢;rw[h3,DM ps A B c' hl (λy hy=>hA y (ay _ hy)) he]
  .have nx:∀y∈ps,y.1∈A++[x.1]->y.1∈A\/(y.1=x.1/\y.2=x.2):=λy hy m=>by
    rcases aL.mp m with m|m
    .erw[.inl m]
    .have e:y.1=x.1:=by simpa using m
     erw[.inr #[e,hc y (ay _ hy) x (aQ ..) e]]
   rw[if_neg h1] at he ⊢;by_cases h2:x.2∈B
   .rw[if_pos h2] at he
    have:=BL ps (A++[x.1]) B c' λy hy m=>by
     rcases nx y hy m with z|z
     .exact(hA y (ay _ hy) z).1
     .rw[z.2];erw[h2]
    simp at this;omega
   .rw[if_neg h2] at he ⊢
    rw[hl,DM ps (A++[x.1]) (B++[x.2]) c' (by simp[hl]) (λy hy m=>?_) he]
    rcases nx y hy m with z|z
    .let#[z1,z2]:=hA y (ay _ hy) z
     exact#[by simp[z1],by rw[pV z,pV z1,z2]]
    .rw[z.1,z.2]
     exact#[#v[],by rw[jT,if_neg h1,jT,if_neg h2];simp[hl]]
def KD{a:List κ}{b:List β}(h:∀(i j:Nat) (x y:κ) (u v:β),a[i]?=ξ x->a[j]?=ξ y->b[i]?=ξ u->b[j]?=ξ v->x=y->u=v):WV (a.zip b):=by
 intro x hx y hy e;let#[i,hi]:=bj hx;let#[j,hj]:=bj hy;rw[List.getElem?_zip_eq_some] at hi hj;erw[h i j _ _ _ _ hi.1 hj.1 hi.2 hj.2 e]
def DN{a:List κ}{b:List β}(hl:a.length=b.length)(h:∀(i j:Nat) (x y:κ) (u v:β),a[i]?=ξ x->a[j]?=ξ y->b[i]?=ξ u->b[j]?=ξ v->x=y->u=v):(sn [] b).length<=(sn [] a).length:=by
 have:=BL (a.zip b) [] [] (KD h) (#v[]);rw[Lk ∅,Lm ∅] at this;simpa using this
def EY{a:List κ}{b:List β}(hl:a.length=b.length)(h:∀(i j:Nat) (x y:κ) (u v:β),a[i]?=ξ x->a[j]?=ξ y->b[i]?=ξ u->b[j]?=ξ v->x=y->u=v)(he:(sn [] b).length=(sn [] a).length):lV [] a=lV [] b:=by
 have:=DM (a.zip b) [] [] (KD h) rfl (#v[]);rw[Lk ∅,Lm ∅] at this;erw[this he]
def EZ(ks:List κ):lV [] (lV [] ks)=lV [] ks:=by
 have l:=mC ks [];have h1:∀(i j:Nat)(x y:κ)(u v:Nat),ks[i]?=ξ x->ks[j]?=ξ y->(lV [] ks)[i]?=ξ u->(lV [] ks)[j]?=ξ v->x=y->u=v:=λi j x y u v hi hj hu hv e=>by
  have:=(uV hi hj).mpr e;rw[hu,hv] at this;erw[aH this]
 have h2:∀(i j:Nat)(x y:Nat)(u v:κ),(lV [] ks)[i]?=ξ x->(lV [] ks)[j]?=ξ y->ks[i]?=ξ u->ks[j]?=ξ v->x=y->u=v:=λi j x y u v hi hj hu hv e=>by
  refine(uV hu hv).mp ?_;rw[hi,hj,e]
 exact(EY l.symm h1 (Nat.le_antisymm (DN l.symm h1) (DN l h2))).symm
end
abbrev KG(p:Nat×List Nat):U:=.tup [aR p.1,.tup (p.2.map aR)]
def uY{κ:Type}[BEq κ][LawfulBEq κ]:∀(ks:List κ)(k:κ)(seen:List κ),sn seen (ks++[k])=if k∈sn seen ks then sn seen ks else sn seen ks++[k]
 |[],k,seen=>rfl
 |x::r,k,seen=>by
  rw[iO]
  unfold sn;erw[uY r k _]
def KH{κ:Type}[BEq κ][LawfulBEq κ](ks:List κ)(k:κ):lV [] (ks++[k])=lV [] ks++[(sn [] (ks++[k])).idxOf k]:=by
 rw[tO,tO,aG,uY]
 congr 1
 rwa[qR λx hx=>?_]
 split
 .rfl
 .erw[pV ((wx ks [] x).mpr (.inr hx))]
abbrev xf(p:Nat×List Nat):Int×List Int:=((p.1:Int),p.2.map λ(n:Nat)=>(n:Int))
def KI(a b:Nat×List Nat)(h:xf a=xf b):a=b:=by
 let#[h1,h2]:=Ax h;erw[Prod.ext (lS h1) ((sA λ_ _ e=>lS e).mp h2)]
def KJ(p:Nat×List Nat):KG p=.tup [.int (xf p).1,.tup ((xf p).2.map .int)]:=by
 unfold KG xf;rw[bw];rfl
abbrev KL:Spec:=λus S Q=>∃u,us=[u]/\((∃ks:List (Option Nat),u=.tup (ks.map uN)/\ks.length<=9000/\∀m S',Ext S S'->S.length<=m->S'[m]?=ξ (.lst ((lV [] ks).map aR))->Q (.loc m) S') \/
 ∃n,∃ks:List (Nat×List Nat),u=.loc n/\S[n]?=ξ (.lst (ks.map KG))/\ks.length<=9000/\∀m S',Ext S S'->S.length<=m->S'[m]?=ξ (.lst ((lV [] ks).map aR))->Q (.loc m) S')
def KN{κ:Type}[BEq κ][LawfulBEq κ](f:κ->U)(D:List (κ×U)->SO)(hD:∀(S:bG) (n:Nat) kvs k (d:U) (Q:KU),S[n]?=ξ (D kvs)->kvs.length<=9000->(match kvs.lookup k with|some v=>Q v S|none=>Q d (S.set n (D (kvs++[(k,d)]))))->qm S n (f k) d Q)(hL:∀(S:bG) (n:Nat) kvs,S[n]?=ξ (D kvs)->tm .ox (.loc n) S/\mH S (.loc n)=ξ kvs.length)
  {g:bG->Prop}{S:bG}{Q:List U->bG->Prop}{ks:List κ} (hl:ks.length<=9000) (hg:∀S',Ext S S'->g S') (q:∀S',Ext S S'->Q ((lV [] ks).map aR) S'):mY g (λ_ S2 k=>k ζ S2) (λu S2 k=>tm .ox (.loc S.length) S2/\opt (mH S2 (.loc S.length)) λn=>n<=1000000/\qm S2 S.length u (.int n) k) Q (ks.map f) [] (S++[D []]):=by
 rwa[fO _ (λi acc S'=>Ext S S'/\S'[S.length]?=ξ (D (dz (sn [] (ks.take i)) 0))/\acc=(lV [] (ks.take i)).map aR) (λi acc S' hi h=>#[hg _ h.1,?_]) (λi u acc S' k hu hI hk=>?_) (λacc S' hI=>?_) #[Ext.app _,by simp[sn,dz],rfl]]
 .rw[h.2.2,ae,mC,cx];omega
 .let#[x,e,rfl]:=hI
  let#[k0,hk0,rfl]:=dY hu;have tk:=Kb hk0;have ln:(sn [] (ks.take i)).length<=9000:=by have:=wu (ks.take i) [];simp at this;omega
  have nt:(lV [] (ks.take (i+1))).map aR=(lV [] (ks.take i)).map aR++[aR ((sn [] (ks.take (i+1))).idxOf k0)]:=by rw[tk,KH,aG];rfl
  rw[if_pos rfl,(hL _ _ _ e).2]
  refine#[(hL _ _ _ e).1,by rw[zZ];omega,hD _ _ _ _ _ _ e (%[zZ|ln]) ?_];rw[z4,zZ]
  by_cases hm:k0∈sn [] (ks.take i)
  .have es:sn [] (ks.take (i+1))=sn [] (ks.take i):=by rw[tk,uY,if_pos hm]
   rw[if_pos hm,lR]
   erw[hk _ _ #[x,by rw[es];exact e,by rw[nt,es]]]
  .have es:sn [] (ks.take (i+1))=sn [] (ks.take i)++[k0]:=by rw[tk,uY,if_neg hm]
   rw[if_neg hm]
   refine hk _ _ #[#[~~~x.1,λn hn=>?_],?_,?_]
   .rw[ak ∅];erw[x.2 n hn]
   .rw[bA (ag.mp e).1,es,KA,lR]
   .rw[nt,es,jT,if_neg hm];simp
 .let#[x,e,rfl]:=hI
  rw[show ks.take (ks.map f).length=ks by simp]
  erw[q _ x]
def SQ(Γ:bY):Keeps Γ nU 1 KL:=by
 rintro us S Q ⟨u,rfl,h⟩;unfold nU;rcases h with⟨ks,rfl,hl,q⟩|⟨n,ks,rfl,g,hl,q⟩
 .room
  rw[vJ]
  refine#[⋯,.inl ?_];room;refine#[(·),KN uN (λl=>.eh (l.map λp=>(uN p.1,p.2))) (λS n kvs k d Q e l h=>?_) (λS n kvs e=>#[?_,by dsimp[mH,e,ae]]) hl (λ_ _=>trivial) λS' x=>q _ _ (x.trans (Ext.app _)) x.1 (#v[])]
  .unfold qm
   rw[e]
   refine#[#[SN _,by rw[ae];omega],?_];rw[aG] at h;rw[KC]
   erw[h]
  .show(match S[n]? with|some (.eh _)=>True|some (.uJ _)=>True|some (.xS _)=>True|_=>False)
   rw[e];trivial
 .room
  rw[vJ]
  refine#[⋯,.inr (.inr ?_)];room;rw[ao (aT g),g]
  dsimp[aB];rwa[KN KG (λl=>.xS (l.map λp=>(xf p.1,p.2))) (λS n kvs k d Q e l h=>?_) (λS n kvs e=>#[?_,by dsimp[mH,e,ae]]) hl (λS' x=>x.get g) λS' x=>q _ _ (x.trans (Ext.app _)) x.1 (#v[])]
  .unfold qm
   rw[e]
   refine#[_,_,KJ k,by rw[ae];omega,?_];rw[show((xf k).1,(xf k).2)=xf k from rfl,Ky xf KI]
   rw[aG] at h;erw[h]
  .show(match S[n]? with|some (.eh _)=>True|some (.uJ _)=>True|some (.xS _)=>True|_=>False)
   rw[e];trivial
structure Rw(S:bG)(n:Nat)(ls:List Nat)(g:Nat->Nat->Nat):Prop where
 l:S[n]?=ξ (.lst (ls.map .loc))
 d:∀(j m:Nat),ls[j]?=ξ m->S[m]?=ξ (SO.eh (SG.map λc=>(.str [c],aR (g j c))))
def Rw.ext{S S':bG}{n:Nat}{ls:List Nat}{g:Nat->Nat->Nat}(h:Rw S n ls g)(x:Ext S S'):Rw S' n ls g:=#[x.get h.l,λj m e=>x.get (h.d j m e)]
def wy{f:Nat->U}{c:Nat}:∀{l:List Nat},c∈l->uK (.str [c]) (l.map λc=>(U.str [c],f c))=ξ (f c)
 |x::l,h=>by
  rw[az]
  unfold uK;by_cases e:x=c
  .subst e;rw[if_pos (show TZ (.str [x]) (.str [x])=ζ from beq_self_eq_true [x])]
  .rw[if_neg (show ¬TZ (.str [x]) (.str [c])=ζ from (by simp[e]:¬([x]==[c])=ζ))]
   rcases aN.mp h with z|z
   .erw[absurd z.symm e]
   .erw[wy z]
def BM{κ:Type}[BEq κ][LawfulBEq κ]{f:Nat->κ}{h:Nat->U}{k:κ}:∀l:List Nat,(∃c∈l,f c=k/\(l.map λc=>(f c,h c)).lookup k=ξ (h c))\/(l.map λc=>(f c,h c)).lookup k=ψ
 |[]=>.inr rfl
 |x::l=>by
  rw[az,aP]
  by_cases e:k=f x
  .erw[.inl #[x,aQ ..,e.symm,by simp[e]]]
  .rw[show(k==f x)=ϑ by simp[e]]
   rcases BM (f:=f) (h:=h) (k:=k) l with⟨c,m,z⟩|z
   .erw[.inl #[c,ay _ m,z]]
   .erw[.inr z]
abbrev Pc:Spec:=λus S Q=>∃n ls g,us=[.loc n]/\Rw S n ls g/\ls.length<=9000/\∀(m:Nat)(S':bG)(sg:List Nat),Ext S S'->S.length<=m->S'[m]?=ξ (.lst (sg.map λc=>.str [c]))->sg.length<=95->(∀c∈sg,c∈SG)->(∀c∈SG,∃c'∈sg,∀j,j<ls.length->g j c'=g j c)->Q (.loc m) S'
def SR(Γ:bY):Keeps Γ iZ 2 Pc:=by
 rintro us S Q ⟨n,ls,g,rfl,rw0,hl,q⟩;let#[r1,r2]:=rw0;unfold iZ;have gl:SG.length=95:=rfl;generalize SG=G at *;room;rw[vJ]
 refine#[⋯,.inr (.inl ?_)];room
 let ky:Nat->List Int:=λc=>(cv ls.length).map λj=>((g j c:Nat):Int)
 rwa[dy (λi env S1=>∃(sg:List Nat)(x2:Option U),env=[ξ (.loc n),ξ (.loc S.length),x2]/\Ext S S1/\S1[S.length]?=ξ (.uJ (sg.map λc=>(ky c,.str [c])))/\sg.length<=i/\(∀c∈sg,c∈G)/\∀c∈G.take i,∃c'∈sg,ky c'=ky c) (λ_ _ _ _=>trivial) _ ?_ ?_ #[[],ψ,rfl,Ext.app _,#v[],#v[],#v[],#v[]]]
 .rintro i u env S1 K hu ⟨sg,x2,rfl,x1,g1,sl,hs,inv⟩ hK
  let#[c,hc,rfl]:=dY hu;have cm:=ah hc;have il:i<95:=by have:=(ag.mp hc).1;omega
  have et:=Kb hc;room;refine#[by show(match S1[S.length]? with|some (.eh _)=>True|some (.uJ _)=>True|some (.xS _)=>True|_=>False);rw[g1];trivial,?_];rw[x1.get r1,aB]
  rwa[iD (S:=S1) _ ((ky c).map .int) (by simp[ky]) ((·)) (λS' x=>x.get (x1.get r1)) (λu S' k h=>h) (λj u v hu hv S2 k x hk=>?_) λS2 x=>?_]
  .let#[m,hm,rfl]:=dY hu
   have jl:=(ag.mp hm).1;rw[aC,aC,iS jl] at hv;have hv:aR (g j c)=v:=by simpa using hv
   subst hv;room;rw[(x1.trans x).get (r2 j m hm)]
   rw[lj]
   refine#[rfl,?_];rw[wy cm]
   erw[hk S2 .refl]
  .rw[ax (aq _),bL]
   dsimp[AI,aB];have x2:=x.trans (Ext.app [SO.lst ((ky c).map U.int)]);have g2:=x2.get g1;generalize S2++[SO.lst ((ky c).map U.int)]=S3 at x2 g2;show qm S3 S.length _ _ _;unfold qm;rw[g2]
   refine#[ky c,rfl,(·),?_];rcases BM (f:=ky) (h:=λc=>U.str [c]) (k:=ky c) sg with⟨c',m',e',z⟩|z
   .rw[z]
    room;rwa[hK _ _ #[sg,_,rfl,x1.trans x2,g2,∅,hs,λd hd=>?_]];rw[et] at hd;rcases aL.mp hd with hd|hd
    .erw[inv d hd]
    .have:d=c:=by simpa using hd
     subst this;exact#[c',m',e']
   .rw[z]
    room;have x13:=x1.trans x2;rwa[hK _ _ #[sg++[c],_,rfl,(x13.st ∅),by rw[gs g2];simp,(·),λd hd=>?_,λd hd=>?_]]
    .rcases aL.mp hd with hd|hd
     .erw[hs d hd]
     .have:d=c:=by simpa using hd
      subst this;erw[cm]
    .rw[et] at hd
     rcases aL.mp hd with hd|hd
     .let#[c',m',e']:=inv d hd
      exact#[c',by simp[m'],e']
     .have:d=c:=by simpa using hd
      subst this;exact#[d,#v[],rfl]
 .rintro env S1 ⟨sg,x2,rfl,x1,g1,sl,hs,inv⟩
  rw[ae,gl] at sl;rw[ae,bP] at inv;room;refine#[by show(match S1[S.length]? with|some (.uJ _)=>True|_=>False);rw[g1];trivial,?_];show(match S1[S.length]? with|some (.uJ kvs)=>Q (.loc S1.length) (S1++[.lst (kvs.map (·.2))])|_=>False)
  rw[g1]
  rwa[q _ _ sg (x1.trans (Ext.app _)) x1.1 (#v[]) sl hs λc hc=>?_]
  let#[c',m',e']:=inv c hc;refine#[c',m',λj hj=>?_];have:=congrArg (·[j]?) e';dsimp[ky,aC,iS hj] at this;have:((g j c':Nat):Int)=(g j c:Nat):=by simpa using this
  omega
abbrev dh(G:List Nat)(f:Nat->Option Nat):List (List Nat×U):=G.filterMap λc=>(f c).map λk=>([c],aR k)
abbrev sD(ps:List (List Nat×U)):List (U×U):=ps.map λp=>(U.str p.1,p.2)
def E1(a:List Nat):∀ps,uK (.str a) (sD ps)=ps.lookup a
 |[]=>rfl
 | (b,v)::r=>by
  have ih:=E1 a r;show(if (b==a)=ζ then ξ v else uK (.str a) (sD r))=_;rw[aP,ih]
  by_cases h:b=a
  .subst h;simp
  .rw[if_neg (by simp[h]),show(a==b)=ϑ by simp[cJ h]]
def wz(f:Nat->Option Nat)(c:Nat):∀G:List Nat,(dh G f).lookup [c]=if c∈G then(f c).map aR else ψ
 |[]=>rfl
 |x::G=>by
  have ih:=wz f c G;unfold dh at ih ⊢;rw[cw]
  by_cases e:c=x
  .subst e
   cases h:f c with
   |none=>rw[h] at ih;dsimp[uH,ih];simp
   |some k=>simp
  .have e1:(([c]:List Nat)== [x])=ϑ:=by simp[e]
   cases h:f x with
   |none=>dsimp[uH,ih,aN,e,false_or]
   |some k=>dsimp[i4,aP,e1,ih,aN,e,false_or]
structure Rp(S:bG)(n:Nat)(ls:List Nat)(go:Nat->Nat->Option Nat):Prop where
 l:S[n]?=ξ (.lst (ls.map .loc))
 d:∀(j m:Nat),ls[j]?=ξ m->S[m]?=ξ (SO.eh (sD (dh SG (go j))))
 z:∀(j c:Nat),ls.length<=j->go j c=ψ
def Rp.ext{S S':bG}{n:Nat}{ls:List Nat}{go:Nat->Nat->Option Nat}(h:Rp S n ls go)(x:Ext S S'):Rp S' n ls go:=#[x.get h.l,λj m e=>x.get (h.d j m e),h.z]
abbrev gN(N:Nat)(go:Nat->Nat->Option Nat)(j c:Nat):Nat:=(go j c).getD N
abbrev KO:Spec:=λus S Q=>∃n ls go,us=[.loc n]/\Rp S n ls go/\ls.length<=9000/\∀(m:Nat)(S':bG)(ms:List Nat),Ext S S'->ms.length=ls.length+1->Rw S' m ms (gN ls.length go)->Q (.loc m) S'
def SS{Γ:bY}{S:bG}{d N:Nat}{f:Nat->Option Nat}{k:KU}(hd:S[d]?=ξ (.eh (sD (dh SG f))))(q:∀m S',Ext S S'->S'[m]?=ξ (.eh (SG.map λc=>(.str [c],aR ((f c).getD N))))->k (.loc m) S'):WE Γ ZQ [ξ (.loc d),ξ (aR N)] S k:=by
 unfold ZQ;have nd:=O5;have gl:SG.length=95:=rfl;generalize SG=G at *;room;rwa[iD (S:=S) _ (G.map λc=>.tup [.str [c],aR ((f c).getD N)]) (#v[]) ((·)) (λS' x=>trivial) (λu S' k h=>h) (λj u v hu hv S2 k x' hk=>?_) λS2 x'=>?_]
 .rw[aC] at hu hv
  let#[c,hc,rfl]:=au.mp hu;rw[hc] at hv;have hv:U.tup [.str [c],aR ((f c).getD N)]=v:=by simpa using hv
  subst hv;room;rw[x'.get hd]
  dsimp[getD_some,lj,true_and];refine#[dh G f,rfl,#v[],?_];rw[wz,if_pos (ah hc)]
  have:((f c).map aR).getD (aR N)=aR ((f c).getD N):=by cases f c<;>rfl
  rw[this]
  erw[hk S2 .refl]
 .refine#[G.map λc=>([c],aR ((f c).getD N)),by simp[cH],%[bw|nd],?_]
  rw[bw]
  erw[q _ _ (x'.trans ((Ext.app _).trans (Ext.app _))) (by rw[ax (aq _),bL];rfl)]
def WW(Γ:bY):Keeps Γ jz 1 KO:=by
 rintro us S Q ⟨n,ls,go,rfl,⟨r1,r2,r3⟩,hl,q⟩;unfold jz;room;rw[kr r1]
 dsimp[aW,ae];refine#[∅,?_];room;rw[vJ]
 refine#[⋯,.inl #[#v[],?_]];have x0:Ext S (S++[SO.eh []]++[SO.lst [U.loc S.length]]):=(Ext.app _).trans (Ext.app _);have g0:(S++[SO.eh []]++[SO.lst [U.loc S.length]])[(S++[SO.eh []]).length]?=ξ (.lst [U.loc S.length]):=by
  rw[ax (aq _),bL];rfl
 have d0:(S++[SO.eh []]++[SO.lst [U.loc S.length]])[S.length]?=ξ (.eh []):=(Ext.app _).get (#v[]);generalize (S++[SO.eh []]).length=n0 at g0;generalize S++[SO.eh []]++[SO.lst [U.loc S.length]]=S0 at x0 g0 d0;rw[x0.get r1,g0]
 dsimp[aB];refine#[(·),?_];have x1:Ext S (S0++[SO.lst (ls.map U.loc++[U.loc S.length])]):=x0.trans (Ext.app _);have g1:(S0++[SO.lst (ls.map U.loc++[U.loc S.length])])[S0.length]?=ξ (.lst ((ls++[S.length]).map U.loc)):=by simp
 have d1:=(Ext.app [SO.lst (ls.map U.loc++[U.loc S.length])]).get d0;generalize S0.length=n1 at g1;generalize S0++[SO.lst (ls.map U.loc++[U.loc S.length])]=S1 at x1 g1 d1;rw[g1,aB]
 have rd:∀(j d:Nat),(ls++[S.length])[j]?=ξ d->S1[d]?=ξ (.eh (sD (dh SG (go j)))):=λj d h=>by
  by_cases hj:j<ls.length
  .rw[ao hj] at h
   erw[x1.get (r2 j d h)]
  .have:=(ag.mp h).1
   have ej:j=ls.length:=by simp at this;omega
   subst ej;have:S.length=d:=by simpa using h
   subst this;have:dh SG (go ls.length)= []:=by
    unfold dh;rw[List.filterMap_eq_nil_iff]
    intro c _;rw[r3 _ c (aq _)];rfl
   rw[this];erw[d1]
 refine fO _ (λi acc S'=>Ext S1 S'/\∃ms:List Nat,acc=ms.map .loc/\ms.length=i/\∀(j d:Nat),ms[j]?=ξ d->S'[d]?=ξ (SO.eh (SG.map λc=>(.str [c],aR (gN ls.length go j c))))) (λi acc S' hi h9=>by let#[x,ms,e1,e2,_]:=h9;exact#[x.get g1,by rw[e1];simp at hi ⊢;omega]) (λi u acc S' k hu hi hk=>?_) (λacc S' hI=>?_) #[.refl,[],rfl,rfl,#v[]]
 .let#[x,ms,rfl,e2,inv]:=hi
  let#[d,hd,rfl]:=dY hu;rw[if_pos rfl]
  rwa[SS (x.get (rd i d hd)) λm S2 x2 g2=>hk _ _ #[x.trans x2,ms++[m],by rw[aG];rfl,by simp[e2],λj d hj=>?_]]
  by_cases hlt:j<ms.length
  .rw[ao hlt] at hj
   erw[x2.get (inv j d hj)]
  .have:=(ag.mp hj).1
   have ej:j=ms.length:=by simp at this;omega
   subst ej;have:m=d:=by simpa using hj
   rw[<-this,e2]
   erw[g2]
 .let#[x,ms,rfl,e2,inv]:=hI
  have e2:ms.length=ls.length+1:=by simpa using e2
  erw[q _ _ ms ((x1.trans x).trans (Ext.app _)) e2 #[#v[],λj d h=>(Ext.app _).get (inv j d h)]]
abbrev pk(b:List Nat)(g:Nat->Nat->Nat)(sg:List Nat)(N:Nat):List (Nat×List Nat):=(cv N).map λj=>(b.getD j 0,sg.map λc=>b.getD (g j c) 0)
def tP{b:List Nat}{j:Nat}{r:U->Prop}(h:j<b.length)(z:r (aR (b.getD j 0))):opt (qV (b.map aR) ((j:Nat):Int)) r:=by
 rw[iz,aC,ab h]
 rw[bb,ab h] at z;erw[z]
def SU{Γ:bY}{S:bG}{nb nr ns m d:Nat}{b sg:List Nat}{f:Nat->Nat}{x4:U}{k:KU}(hb:S[nb]?=ξ (.lst (b.map aR)))(hs:S[ns]?=ξ (.lst (sg.map λc=>.str [c])))(hd:S[d]?=ξ (.eh (SG.map λc=>(.str [c],aR (f c)))))(sl:sg.length<=95)(hg:∀c∈sg,c∈SG/\f c<b.length)
  (q:∀m S',Ext S S'->S'[m]?=ξ (.lst ((sg.map λc=>b.getD (f c) 0).map aR))->k (.loc m) S'):WE Γ ZR [ξ (.loc nb),ξ (.loc nr),ξ (.loc ns),ξ (.loc m),ξ x4,ξ (.loc d)] S k:=by
 unfold ZR;room;rw[hs,aB]
 rwa[iD (S:=S) _ ((sg.map λc=>b.getD (f c) 0).map aR) (#v[]) ((·)) (λS' x=>x.get hs) (λu S' k h=>h) (λj u v hu hv S2 k x' hk=>?_) λS2 x'=>?_]
 .let#[c,hc,rfl]:=dY hu
  rw[aC,aC,hc] at hv;have hv:aR (b.getD (f c) 0)=v:=by simpa using hv
  subst hv;let#[h1,h2]:=hg c (ah hc);rw[x'.get hd,lj,wy h1,aW]
  refine#[rfl,?_];show getL S2[nb]? _;rw[x'.get hb,aB]
  erw[tP h2 (hk S2 .refl)]
 .erw[q _ _ (x'.trans (Ext.app _)) (#v[])]
abbrev Pd:Spec:=λus S Q=>∃nb nr ns ls b sg g,us=[.loc nb,.loc nr,.loc ns]/\S[nb]?=ξ (.lst (b.map aR))/\Rw S nr ls g/\S[ns]?=ξ (.lst (sg.map λc=>.str [c]))/\ls.length<=9000/\b.length=ls.length/\sg.length<=95/\(∀c∈sg,c∈SG/\∀j,j<ls.length->g j c<ls.length) /\
 ∀m S',Ext S S'->S.length<=m->S'[m]?=ξ (.lst ((lV [] (pk b g sg ls.length)).map aR))->Q (.loc m) S'
def SV(Γ:bY)(h1:Γ "numbered"=KL):Keeps Γ rO 3 Pd:=by
 rintro us S Q ⟨nb,nr,ns,ls,b,sg,g,rfl,hb,R,hs,hl,bl,sl,hg,q⟩;unfold rO;room;refine#[#v[],?_];room;have x0:Ext S (S++[SO.lst []]):=Ext.app _;rw[x0.get R.l,aB]
 rwa[dy (λi env S1=>∃(x4 x5:Option U),env=[ξ (.loc nb),ξ (.loc nr),ξ (.loc ns),ξ (.loc S.length),x4,x5]/\Ext S S1/\S1[S.length]?=ξ (.lst ((pk b g sg i).map KG))/\i<=ls.length) (λi env S1 h9=>by let#[_,_,_,x,_]:=h9;erw[x.get R.l]) _ ?_ ?_ #[ψ,ψ,rfl,x0,by simp[pk],∅]]
 .rintro i u env S1 K hu ⟨x4,x5,rfl,x1,g1,il⟩ hK
  dsimp[fD,aC,pA] at hu;let#[d,hd,rfl]:=au.mp hu;have hi:=(ag.mp hd).1;dsimp[cH];room;rw[g1,x1.get hb]
  dsimp[aB];refine#[trivial,tP ∅ ?_];rwa[SU (x1.get hb) (x1.get hs) (x1.get (R.d i d hd)) sl (λc hc=>#[(hg c hc).1,by rw[bl];exact(hg c hc).2 i hi]) λm S2 x2 g2=>?_]
  room;rw[g2,aB]
  refine#[#v[],?_];rw[x2.get g1,aB]
  refine#[by simp[pk];omega,?_];room;have x12:=x1.trans x2;rwa[hK _ _ #[_,_,rfl,(x12.st ∅),?_,hi]];rw[gs (x2.get g1)]
  unfold pk;rw[List.range_succ,aG,aG]
  rfl
 .rintro env S1 ⟨x4,x5,rfl,x1,g1,il⟩
  rw[lZ,ae] at g1;room;erw[ca h1 #[_,rfl,.inr #[_,_,rfl,g1,by simp[pk];omega,λm S2 x2 ml g2=>q m S2 (x1.trans x2) (aF x1.1 ml) g2]]]
abbrev Eqv(told:List (Option Nat))(g:Nat->Nat->Nat):Nat->Nat->Nat->Prop
 |0,i,j=>told[i]?=told[j]?
 |k+1,i,j=>Eqv told g k i j/\∀c∈SG,Eqv told g k (g i c) (g j c)
structure Hk(told:List (Option Nat))(g:Nat->Nat->Nat)(k:Nat)(b:List Nat):Prop where
 len:b.length=told.length
 fx:lV [] b=b
 iff:∀i j,i<told.length->j<told.length->(b.getD i 0=b.getD j 0↔Eqv told g k i j)
def gd{b:List Nat}{i:Nat}(h:i<b.length):b[i]?=ξ (b.getD i 0):=by
 rw[bb,ab h];rfl
def KQ{a b:List Nat}{i j:Nat}(hi:i<b.length)(hj:j<b.length):b.getD i 0=b.getD j 0↔b[i]?=b[j]?:=by
 rw[gd hi,gd hj];simp
def WX{told:List (Option Nat)}{g:Nat->Nat->Nat}:Hk told g 0 (lV [] told):=by
 refine#[mC told [],EZ told,λi j hi hj=>?_];rw[KQ (a:=[]) (%[mC|hi]) (%[mC|hj]),uV (ab hi) (ab hj)]
 unfold Eqv;rw[ab hi,ab hj]
 simp
def Pe(h:i<N):(pk b g sg N)[i]?=ξ (b.getD i 0,sg.map λc=>b.getD (g i c) 0):=by
 unfold pk;rw[aC,iS h];rfl
def WY{told:List (Option Nat)}{g:Nat->Nat->Nat}{k:Nat}{b sg:List Nat}(h:Hk told g k b)(hc:∀j c,j<told.length->c∈SG->g j c<told.length)(h1:∀c∈sg,c∈SG)(h2:∀c∈SG,∃c'∈sg,∀j,j<told.length->g j c'=g j c):Hk told g (k+1) (lV [] (pk b g sg told.length)):=by
 have l1:(lV [] (pk b g sg told.length)).length=told.length:=by rw[mC];simp[pk]
 refine#[l1,EZ _,λi j hi hj=>?_];rw[KQ (a:=[]) ∅ ∅,uV (Pe hi) (Pe hj),Prod.mk.injEq,h.iff i j hi hj]
 show _↔Eqv told g k i j/\∀c∈SG,Eqv told g k (g i c) (g j c)
 rwa[and_congr_right λ_=>?_]
 rw[tZ]
 constructor
 .intro z c hcm
  let#[c',m',e']:=h2 c hcm;rw[<-e' i hi,<-e' j hj]
  exact(h.iff _ _ (hc i c' hi (h1 c' m')) (hc j c' hj (h1 c' m'))).mp (z c' m')
 .intro z c hcm
  exact(h.iff _ _ (hc i c hi (h1 c hcm)) (hc j c hj (h1 c hcm))).mpr (z c (h1 c hcm))
def E2{told:List (Option Nat)}{g:Nat->Nat->Nat}{k m:Nat}{b:List Nat}(h:Hk told g k b)(h1:m∈b)(h2:∀j∈b,j<=m):m+1=(sn [] b).length:=by
 have:=h.fx;rw[<-this] at h1 h2;erw[N9 h1 h2]
def SW{told:List (Option Nat)}{g:Nat->Nat->Nat}{k:Nat}{a b:List Nat}(ha:Hk told g (k+1) a)(hb:Hk told g k b):(sn [] b).length<=(sn [] a).length/\((sn [] b).length=(sn [] a).length->a=b):=by
 have h:∀(i j:Nat)(x y u v:Nat),a[i]?=ξ x->a[j]?=ξ y->b[i]?=ξ u->b[j]?=ξ v->x=y->u=v:=by
  intro i j x y u v e1 e2 e3 e4 e;have l1:=(ag.mp e1).1;have l2:=(ag.mp e2).1;have la:=ha.len;have lb:=hb.len;have z:=(ha.iff i j ∅ ∅).mp (by rw[bb,bb,e1,e2,e]);have:=(hb.iff i j ∅ ∅).mpr z.1;rw[bb,bb,e3,e4] at this;erw[this]
 have l:a.length=b.length:=by rw[ha.len,hb.len]
 refine#[DN l h,λe=>?_];have:=EY l h e;rw[ha.fx,hb.fx] at this;erw[this]
def E3{S:bG}{n:Nat}{b:List Nat}{Q:KU}(h:S[n]?=ξ (.lst (b.map aR)))(b0:0<b.length)(q:∀m∈b,(∀j∈b,j<=m)->Q (aR m) S):tj .max [.loc n] S Q:=by
 cases b with
 |nil=>simp at b0
 |cons x b=>
  refine#[(x:Int),b.map λ(n:Nat)=>(n:Int),by rw[h];simp,λm hm hj=>?_];have e:((x:Int)::b.map λ(n:Nat)=>(n:Int))=(x::b).map λ(n:Nat)=>(n:Int):=rfl
  rw[e] at hm hj;let#[y,hy,rfl]:=bD.mp hm;rwa[q y hy λj m=>?_]
  have:=hj _ (bD.mpr #[j,m,rfl]);omega
def uZ{α:Type}{l:List α}{x:α}:qV (l++[x]) (-1)=ξ x:=by
 unfold qV IC;rw[if_neg ∅,if_pos ((·))]
 have:((-1:Int)+((l++[x]).length:Nat)).toNat=l.length:=by rw[aj];simp;omega
 rw[this];simp
structure KR(told:List (Option Nat))(g:Nat->Nat->Nat)(S:bG)(fs:List Nat):Prop where
 r:∀(k n:Nat),fs[k]?=ξ n->∃b,S[n]?=ξ (.lst (b.map aR))/\Hk told g k b
 ne:fs≠[]
 st:∀i j,i<told.length->j<told.length->Eqv told g (fs.length-1) i j->Eqv told g fs.length i j
 le:fs.length<=told.length+1
abbrev KS:Spec:=λus S Q=>∃nr ls g told,us=[.tup (told.map uN),.loc nr]/\Rw S nr ls g/\told.length=ls.length/\0<ls.length/\ls.length<=9000/\(∀j c,j<told.length->c∈SG->g j c<told.length)/\∀F fs S',Ext S S'->S'[F]?=ξ (.lst (fs.map .loc))->KR told g S' fs->Q (.loc F) S'
structure WZ(told:List (Option Nat))(g:Nat->Nat->Nat)(L:Nat)(S3:bG)(fs:List Nat)(m:Nat)(b:List Nat):Prop where
 f:S3[L]?=ξ (.lst ((fs++[m]).map .loc))
 v:S3[m]?=ξ (.lst (b.map aR))
 r:Hk told g fs.length b
 a:∀(k n:Nat),(fs++[m])[k]?=ξ n->n≠L/\∃b,S3[n]?=ξ (.lst (b.map aR))/\Hk told g k b
 l:fs.length<=(sn [] b).length/\(sn [] b).length<=told.length
def WZ.push{told:List (Option Nat)}{g:Nat->Nat->Nat}{L m m':Nat}{S3 S4:bG}{fs b a':List Nat}(a:WZ told g L S3 fs m b)(x:Ext S3 S4)(ml:S3.length<=m')(g4:S4[m']?=ξ (.lst (a'.map aR)))(ra:Hk told g (fs.length+1) a')(lt:(sn [] b).length<(sn [] a').length):WZ told g L (S4.set L (.lst ((fs++[m]).map .loc++[.loc m']))) (fs++[m]) m' a':=by
 have ne:m'≠L:=dw (av (aT a.f) ml);have gs':∀n o,n≠L->S4[n]?=ξ o->(S4.set L (.lst ((fs++[m]).map .loc++[.loc m'])))[n]?=ξ o:=λn o ne e=>%[ak (cJ ne)|e]
 have le:(fs++[m]).length=fs.length+1:=by simp
 have sl:=wu a' [];refine#[by rw[gs (x.get a.f)];simp,gs' _ _ ne g4,%[le|ra],λk n e=>?_,%[le|ju a.l.1 lt],?_]
 .by_cases hk:k<(fs++[m]).length
  .rw[ao hk] at e
   let#[ne,b',e1,e2]:=a.a k n e;exact#[ne,b',gs' _ _ ne (x.get e1),e2]
  .have:=aT e
   rw[aj] at this;have ek:k=(fs++[m]).length:=Nat.le_antisymm (uv this) (ou hk);subst ek;have:m'=n:=by simpa using e
   subst this;exact#[ne,a',gs' _ _ ne g4,%[le|ra]]
 .rw[ra.len] at sl;simpa using sl
def W0(Γ:bY)(h1:Γ "telling_signs"=Pc)(h2:Γ "numbered"=KL)(h3:Γ "parted"=Pd):Keeps Γ rN 3 KS:=by
 rintro us S Q ⟨nr,ls,g,told,rfl,R,tl,l0,hl,hg,q⟩;unfold rN;room;rwa[ca h1 #[nr,ls,g,rfl,R,hl,λns S1 sg x1 nsl g1 sl s1 s2=>?_]];rw[<-tl] at s2 hl l0;room;rwa[ca h2 #[_,rfl,.inl #[told,rfl,hl,λn0 S2 x2 nl2 g2=>#[#v[],?_]]]];have x12:=x1.trans x2;have gs2:=x2.get g1;room;have r0:Hk told g 0 (lV [] told):=WX;have sn0:=wu (lV [] told) [];rw[mC] at sn0;have I0:WZ told g S2.length (S2++[SO.lst [U.loc n0]]) [] n0 (lV [] told):=#[#v[],(Ext.app _).get g2,r0,λk n e=>?_,bJ _,~~~sn0]
 .refine#[told.length+1,mw (λN env S3=>∃(fs:List Nat)(m:Nat)(b:List Nat)(x4:Option U),N=told.length-(sn [] b).length/\env=[ξ (.tup (told.map uN)),ξ (.loc nr),ξ (.loc ns),ξ (.loc S2.length),x4]/\Ext S2 S3/\WZ told g S2.length S3 fs m b) ?_ _ (told.length-(sn [] (lV [] told)).length) _ _ (Ln (yQ _ _)) #[[],n0,_,ψ,rfl,rfl,Ext.app _,I0]]
  rintro N env S3 K ⟨fs,m,b,x4,rfl,rfl,x3,I⟩ hK;let#[g3,gm,rb,inv,fl,snl]:=id I;room;rw[g3,aB,aG]
  rw[show [m].map U.loc=[.loc m] from rfl,uZ,aW]
  refine ca h3 #[m,nr,ns,ls,b,sg,g,rfl,gm,R.ext (x12.trans x3),x3.get gs2,tl▸hl,by rw[rb.len,tl],sl,λc hc=>#[s1 c hc,λj hj=>by rw[<-tl] at hj ⊢;erw[hg j c hj (s1 c hc)]],λm' S4 x4 ml' g4=>?_];rw[<-tl] at g4;have ra:=WY rb hg s1 s2;generalize lV [] (pk b g sg told.length)=a at g4 ra;let#[le,eqn]:=SW ra rb;room;rwa[E3 g4 (ra.len▸l0) λma h1a h2a=>?_]
  have ea:=E2 ra h1a h2a;rw[x4.get g3,aB,aG,show [m].map U.loc=[.loc m] from rfl,uZ,aW]
  rwa[E3 (x4.get gm) (rb.len▸l0) λmb h1b h2b=>?_]
  have eb:=E2 rb h1b h2b;room;by_cases z:ma=mb
  .have:((ma:Int)== (mb:Int))=ζ:=by rw[beq_iff_eq,z]
   dsimp[this,if_true];have e:=eqn (by rw[<-ea,<-eb,z]);subst e;room;rwa[q _ (fs++[m]) S4 ((x12.trans x3).trans x4) (x4.get g3) #[λk n e=>?_,#v[],λi j hi hj h=>?_,%[aj|cB (aF fl snl)]]]
   .let#[_,b,e1,e2]:=inv k n e
    exact#[b,x4.get e1,e2]
   .rw[aj] at h ⊢
    exact(ra.iff i j hi hj).mp ((rb.iff i j hi hj).mpr h)
  .have:((ma:Int)== (mb:Int))=ϑ:=%[beq_eq_false_iff_ne|λy=>z (lS y)]
   dsimp[this,aw,if_false];room;rw[x4.get g3,aB]
   have lt:(sn [] b).length<(sn [] a).length:=HD le λy=>z (by rw[<-ea,<-eb] at y;exact(nh y).symm)
   have I4:=I.push x4 ml' g4 ra lt;refine#[trivial,by rw[ae,aj];exact ju (cB (aF fl (aF snl hl))) ⋯,?_];try room
   have x34:=x3.trans x4;erw[hK (told.length-(sn [] a).length) _ _ (Nat.sub_lt_sub_left (av lt I4.l.2) lt) #[fs++[m],m',a,_,rfl,rfl,#[by rw[b8];exact x34.1,λn hn=>by rw[ak (dw hn)];exact x34.2 n hn],I4]]
 .have:=aT e
  have ek:k=0:=by simp at this;erw[this]
  subst ek;have:n0=n:=by simpa using e
  subst this;exact#[ba (aT g2),_,(Ext.app _).get g2,r0]
abbrev Oa(k:Nat)(told:List (Option Nat))(R:Nat):SO:=.ins "Table" [("takes",.loc k),("told",.tup (told.map uN)),("rows",.loc R)]
structure Pf(S:bG)(T:Nat)(told:List (Option Nat))(ls:List Nat)(go:Nat->Nat->Option Nat):Prop where
 o:∃k R,S[T]?=ξ (Oa k told R)/\S[k]?=ξ (.lst (told.map uN))/\Rp S R ls go
 ll:ls.length=told.length
 sz:told.length<=4000
 cl:∀j c k,c∈SG->go j c=ξ k->k<told.length
def Pf.ext(h:Pf S T told ls go)(x:Ext S S'):Pf S' T told ls go:=by
 let#[k,R,h1,h2,h3]:=h.o;exact#[#[k,R,x.get h1,x.get h2,h3.ext x],h.ll,h.sz,h.cl]
abbrev Ob:Spec:=λus S Q=>∃T a R told,us=[.loc T,.loc a,.loc R]/\S[T]?=ξ (.ins "Table" [])/\S[a]?=ξ (.lst (told.map uN))/\∀k S',Old T S S'->S'[T]?=ξ (Oa k told R)->S'[k]?=ξ (.lst (told.map uN))->Q .b7 S'
def W2(Γ:bY):Keeps Γ kW 0 Ob:=by
 rintro us S Q ⟨T,a,R,told,rfl,hT,ha,q⟩;unfold kW;have ne:a≠T:=λz=>by rw[z,hT] at ha;cases ha
 room;rw[ha,aB]
 have x1:Ext S (S++[SO.lst (told.map uN)]):=Ext.app _;have g1:(S++[SO.lst (told.map uN)])[S.length]?=ξ (.lst (told.map uN)):=by simp
 have n1:S.length≠T:=dw (aT hT);generalize S.length=k at g1 n1;generalize S++[SO.lst (told.map uN)]=S1 at x1 g1;rwa[GD (x1.get hT) (#v[]) λS2 o2 l2 g2=>?_]
 room;rw[oA o2 (x1.get ha) ne,aB]
 rwa[GD g2 (by simp[iy]) λS3 o3 l3 g3=>?_]
 room;rwa[GD g3 (by simp[iy]) λS4 o4 l4 g4=>?_]
 room;erw[q k S4 (((Ext.old x1).trans o2).trans (o3.trans o4)) g4 (oA o4 (oA o3 (oA o2 g1 n1) n1) n1)]
def Oc(h:S[T]?=ξ (Oa k told R)):oW (.loc T) "rows" S r=r (.loc R):=by rw[jd,h];rfl
def KW(h:S[T]?=ξ (Oa k told R)):oW (.loc T) "told" S r=r (.tup (told.map uN)):=by rw[jd,h];rfl
def at_of{α:Type}{f:α->U}{l:List α}{j:Nat}{a:α}{r:U->Prop}(h:l[j]?=ξ a)(z:r (f a)):opt (qV (l.map f) ((j:Nat):Int)) r:=by
 rw[iz,aC,h];erw[z]
abbrev Cc(go:Nat->Nat->Option Nat)(x:List Nat):Option Nat:=x.foldl (λs c=>s.bind λj=>go j c) (ξ 0)
def KY:Cc go (x++[c])=(Cc go x).bind λj=>go j c:=by unfold Cc;rw[d6];rfl
abbrev fst(told:List (Option Nat))(go:Nat->Nat->Option Nat)(x:List Nat):Option Nat:=(Cc go x).bind λj=>told.getD j ψ
def E4{S S':bG}{o:SO}(h:Old S.length (S++[o]) S'):Ext S S':=by
 have l:=h.1;rw[aj] at l;exact#[aF (fX _ _) l,λn hn=>by rw[h.2 n (%[aj|av hn (fX _ _)]) (ba hn),ao hn]]
section
variable{tk:Nat->Nat}{Ls G:List Nat}{r h c:Nat}
abbrev gz(tk:Nat->Nat)(Ls:List Nat)(r c:Nat):Option Nat:=if r&&&tk c=0 then ψ else ξ (Ls.idxOf (r&&&tk c))
def SX(z:r&&&tk c=0\/r&&&tk c∈Ls):gz tk (Ls++[h]) r c=gz tk Ls r c:=by
 unfold gz;rcases z with z|z
 .rw[if_pos z,if_pos z]
 .rw[pV z]
def BN(z:∀c∈G,r&&&tk c=0\/r&&&tk c∈Ls):dh G (gz tk (Ls++[h]) r)=dh G (gz tk Ls r):=by
 unfold dh;induction G with
 |nil=>rfl
 |cons x G ih=>rw[cw,cw,SX (z x (aQ ..)),ih λc m=>z c (ay _ m)]
def Od(e:f c=ψ):dh (G++[c]) f=dh G f:=by
 unfold dh;rw[Cu];simp[e]
def Oe(e:f c=ξ k):sD (dh (G++[c]) f)=sD (dh G f)++[(.str [c],aR k)]:=by
 unfold dh sD;rw[Cu,aG];simp[e]
abbrev nz(Ls:List Nat):List (U×U):=(dz Ls 0).map λp=>(aR p.1,p.2)
def SY:(nz Ls).length=Ls.length:=by unfold nz;rw[ae,zZ]
def S9:nz (Ls++[h])=nz Ls++[(aR h,aR Ls.length)]:=by unfold nz;rw[KA,aG,lR];rfl
def z5:uK (aR h) (nz Ls)=if h∈Ls then ξ (aR (Ls.idxOf h)) else ψ:=by
 have e:nz Ls=((dz Ls 0).map λp=>(ξ p.1,p.2)).map λp=>(uN p.1,p.2):=by unfold nz;rw[bw];rfl
 have:=KC (ξ h) ((dz Ls 0).map λp=>(ξ p.1,p.2));rw[e,show aR h=uN (ξ h) from rfl,this,Ky ξ (λ_ _=>aH),z4,lR]
end
structure BO(S S1:bG)(tk:Nat->Nat)(Ls rs ds:List Nat):Prop where
 x:Ext S S1
 l:S1[S.length]?=ξ (.lst (Ls.map aR))
 n:S1[S.length+1]?=ξ (.eh (nz Ls))
 r:S1[S.length+2]?=ξ (.lst (ds.map .loc))
 d:∀(j d r:Nat),ds[j]?=ξ d->rs[j]?=ξ r->S.length+3<=d/\S1[d]?=ξ (.eh (sD (dh SG (gz tk Ls r))))
 m:∀r∈rs,∀c∈SG,r&&&tk c=0\/r&&&tk c∈Ls
 nd:Ls.Nodup
def BO.set(h:BO S S1 tk Ls rs ds)(hd:S.length+3<=d0)(hn:∀(j r:Nat),rs[j]?=ξ r->ds[j]?≠ξ d0):BO S (S1.set d0 o) tk Ls rs ds:=by
 have e:∀(n:Nat)(o':SO),n≠d0->S1[n]?=ξ o'->(S1.set d0 o)[n]?=ξ o':=λn o' ne g=>%[ak (cJ ne)|g]
 exact#[#[%[b8|h.x.1],λn hn=>%[ak ∅|h.x.2 n hn]],e _ _ ∅ h.l,e _ _ ∅ h.n,e _ _ ∅ h.r,λj d r h1 h2=>#[(h.d j d r h1 h2).1,e _ _ (λz=>hn j r h2 (z▸h1)) (h.d j d r h1 h2).2],h.m,h.nd]
def BO.ext(h:BO S S1 tk Ls rs ds)(x:Ext S1 S2):BO S S2 tk Ls rs ds:=
 #[h.x.trans x,x.get h.l,x.get h.n,x.get h.r,λj d r h1 h2=>#[(h.d j d r h1 h2).1,x.get (h.d j d r h1 h2).2],h.m,h.nd]
def BO.more(a:BO S S1 tk Ls rs ds)(hn:h∉Ls):BO S ((S1.set (S.length+1) (.eh (nz Ls++[(aR h,aR Ls.length)]))).set S.length (.lst (Ls.map aR++[aR h]))) tk (Ls++[h]) rs ds:=by
 have e:∀(n:Nat)(o o1 o2:SO),n≠S.length->n≠S.length+1->S1[n]?=ξ o->((S1.set (S.length+1) o1).set S.length o2)[n]?=ξ o:=λn o o1 o2 n1 n2 g=>%[ak (cJ n1),ak (cJ n2)|g]
 have l1:=aT a.n;refine#[#[%[b8,b8|a.x.1],λn hn=>%[ak ∅,ak ∅|a.x.2 n hn]],?_,?_,e _ _ _ _ ∅ ∅ a.r,λj d r h1 h2=>?_,λr m c hc=>?_,?_]
 .rw[bA (by rw[b8];omega)];simp
 .rw[ak ∅,bA l1,S9]
 .let#[z1,z2]:=a.d j d r h1 h2
  exact#[z1,%[BN (a.m r (ah h2))|e _ _ _ _ ∅ ∅ z2]]
 .rcases a.m r m c hc with z|z
  .erw[.inl z]
  .erw[.inr (by simp[z])]
 .rw[dZ]
  exact#[a.nd,#v[],λx hx y hy=>%[bp.mp hy|λz=>hn (z▸hx)]]
def DO:SG.Nodup:=⋯
def W3(Γ:bY)(pa:Kg S P bh en tk)(I:BO S S1 tk Ls rs ds)(g0:S1[d0]?=ξ (.eh (sD (dh (SG.take m) (gz tk Ls r)))))(hd0:S.length+3<=d0)(hds:∀(j r:Nat),rs[j]?=ξ r->ds[j]?≠ξ d0)(hc:SG[m]?=ξ c)(hm:∀c∈SG.take m,r&&&tk c=0\/r&&&tk c∈Ls)(lt:Ls.length<=4000)
  (q:∀Ls' S2,BO S S2 tk Ls' rs ds->S2[d0]?=ξ (.eh (sD (dh (SG.take (m+1)) (gz tk Ls' r))))->(∀c∈SG.take (m+1),r&&&tk c=0\/r&&&tk c∈Ls')->(Ls'=Ls\/Ls'=Ls++[r&&&tk c])->K [ξ (.loc P),ξ (.loc S.length),ξ (.loc (S.length+1)),ξ (.loc (S.length+2)),ξ (aR r),ξ (.loc d0),ξ (.str [c]),ξ (aR (r&&&tk c))] S2):
  Rest Γ ZL #[K,Q] [ξ (.loc P),ξ (.loc S.length),ξ (.loc (S.length+1)),ξ (.loc (S.length+2)),ξ (aR r),ξ (.loc d0),ξ (.str [c]),x7] S1:=by
 let#[b,e,k,oP,_,_,gk]:=(pa.ext I.x).o;have fk:∀{R},oW (.loc P) "takers" S1 R=R (.loc k):=by intro R;rw[jd,oP];rfl
 have cm:=ah hc;have et:=Kb hc;have nm:c∉SG.take m:=λz=>by
  let#[i,hi]:=bj z;have il:=(ag.mp hi).1;rw[cx] at il;rw[Af ∅] at hi;have:=(List.getElem?_inj ∅ DO).mp (hi.trans hc.symm);omega
 rw[et] at q;have rl:(sD (dh (SG.take m) (gz tk Ls r))).length<1000000:=by
  have:(dh (SG.take m) (gz tk Ls r)).length<=(SG.take m).length:=List.length_filterMap_le ..;rw[cx] at this;have gl:SG.length=95:=rfl;unfold sD;rw[ae];omega
 have dn:∀f:Nat->Option Nat,uK (.str [c]) (sD (dh (SG.take m) f))=ψ:=λf=>by rw[E1,wz,if_neg nm]
 unfold ZL;room;rw[fk]
 room;rw[gk,lj,wy cm,aW]
 refine#[rfl,?_];rw[uM]
 generalize hh:r&&&tk c=h at *;have go2:∀(Ls':List Nat)(S2:bG),BO S S2 tk Ls' rs ds->S2[d0]?=ξ (.eh (sD (dh (SG.take m) (gz tk Ls' r))))->sD (dh (SG.take m) (gz tk Ls' r))=sD (dh (SG.take m) (gz tk Ls r))->(∀c∈SG.take m,r&&&tk c=0\/r&&&tk c∈Ls')->(Ls'=Ls\/Ls'=Ls++[h])->h≠0->h∈Ls'->Rest Γ X8 #[K,Q] [ξ (.loc P),ξ (.loc S.length),ξ (.loc (S.length+1)),ξ (.loc (S.length+2)),ξ (aR r),ξ (.loc d0),ξ (.str [c]),ξ (aR h)] S2:=by
  intro Ls' S2 I2 g2 e2 m2 l2 h0 hl;have:((h:Int)== 0)=ϑ:=by rw[beq_eq_false_iff_ne];omega
  unfold X8;room;dsimp[this,bV,if_true];room;rw[I2.n,lj,z5,if_pos hl,aW]
  refine#[rfl,?_];rw[g2,getD_some]
  refine#[#[rfl,dn _,%[e2|rl]],?_];room;rwa[q Ls' _ (I2.set hd0 hds) ?_ (λc' hc'=>?_) l2]
  .rw[gs g2,Oe (k:=Ls'.idxOf h) (by unfold gz;rw[hh,if_neg h0])]
  .rcases aL.mp hc' with z|z
   .erw[m2 c' z]
   .have:c'=c:=by simpa using z
    subst this;erw[.inr (by rw[hh];exact hl)]
 room;by_cases z:h=0
 .subst z
  have z0:(((0:Nat):Int)== 0)=ζ:=rfl;dsimp[z0,bH,aw,if_false];unfold X8;room;rwa[q Ls _ I (by rw[Od (by unfold gz;rw[hh,if_pos rfl])];erw[g0]) (λc' hc'=>?_) (.inl rfl)];rcases aL.mp hc' with z|z
  .erw[hm c' z]
  .have:c'=c:=by simpa using z
   subst this;erw[.inl hh]
 .have z':((h:Int)== 0)=ϑ:=by rw[beq_eq_false_iff_ne];omega
  dsimp[z',bV,if_true];rw[I.n,lj,z5]
  refine#[rfl,?_];by_cases y:h∈Ls
  .rw[if_pos y]
   dsimp[Option.isNone_some,aw,if_false];erw[Rest.go (go2 Ls S1 I g0 rfl hm (.inl rfl) z y)]
  .rw[if_neg y]
   dsimp[Option.isNone_none,if_true];room;rw[kr I.l,aW,ae]
   refine#[∅,?_];rw[I.n,getD_some]
   refine#[#[rfl,by rw[z5,if_neg y],by rw[SY];omega],?_];have l1:(S1.set (S.length+1) (.eh (nz Ls++[(aR h,aR Ls.length)])))[S.length]?=ξ (.lst (Ls.map aR)):=%[ak ∅|I.l]
   room;rw[l1,aB]
   refine#[trivial,(·),?_];have eq:=BN (h:=h) hm;rwa[Rest.go (go2 (Ls++[h]) _ (I.more y) ?_ (by rw[eq]) (λc' m'=>(hm c' m').imp id λz=>by simp[z]) (.inr rfl) z (#v[]))];rw[eq,ak ∅,ak ∅]
   erw[g0]
def BO.push{S S1:bG}{tk:Nat->Nat}{Ls rs ds:List Nat}{d0 r:Nat}(a:BO S S1 tk Ls rs ds)(g0:S1[d0]?=ξ (.eh (sD (dh SG (gz tk Ls r)))))(hd:S.length+3<=d0)(hm:∀c∈SG,r&&&tk c=0\/r&&&tk c∈Ls)(hl:ds.length=rs.length):BO S (S1.set (S.length+2) (.lst (ds.map .loc++[.loc d0]))) tk Ls (rs++[r]) (ds++[d0]):=by
 have e:∀(n:Nat)(o o':SO),n≠S.length+2->S1[n]?=ξ o'->(S1.set (S.length+2) o)[n]?=ξ o':=λn o o' ne g=>%[ak (cJ ne)|g]
 refine#[#[%[b8|a.x.1],λn hn=>%[ak ∅|a.x.2 n hn]],e _ _ _ ∅ a.l,e _ _ _ ∅ a.n,by rw[gs a.r];simp,λj d r' h1 h2=>?_,λr' m=>?_,a.nd]
 .by_cases hj:j<ds.length
  .rw[ao hj] at h1
   rw[ao ∅] at h2;let#[z1,z2]:=a.d j d r' h1 h2;exact#[z1,e _ _ _ ∅ z2]
  .have:=(ag.mp h1).1
   have ej:j=ds.length:=by simp at this;omega
   subst ej;have e1:d0=d:=by simpa using h1
   have e2:r=r':=by rw[hl] at h2;simpa using h2
   subst e1;subst e2;exact#[hd,e _ _ _ ∅ g0]
 .rcases aL.mp m with m|m
  .erw[a.m r' m]
  .have:r'=r:=by simpa using m
   subst this;erw[hm]
abbrev GJ(tk:Nat->Nat)(Ls rs:List Nat)(j c:Nat):Option Nat:=(rs[j]?).bind λr=>gz tk Ls r c
def DP(h:rs[j]?=ξ r):GJ tk Ls rs j=gz tk Ls r:=by
 funext c;unfold GJ;rw[h];rfl
structure Yn(bh en:List Nat)(tk:Nat->Nat)(lots rs:List Nat)(told:List (Option Nat)):Prop where
 z:lots[0]?=ξ 1
 t:∀(j h:Nat),lots[j]?=ξ h->∃o,told[j]?=ξ o/\Yj h en o
 len:told.length=lots.length
 b:∀(j h:Nat),lots[j]?=ξ h->∃r,rs[j]?=ξ r/\Ss bh h r
 m:∀r∈rs,∀c∈SG,r&&&tk c=0\/r&&&tk c∈lots
structure DC(bh:List Nat)(D:Nat->Prop):Prop where
 l:bh.length<=11
 c:∀(q B p:Nat),D q->bh[q]?=ξ B->B.testBit p=ζ->D p
 b:∀p,D p->p<bh.length
abbrev Ta:Spec:=λus S Q=>∃P bh en tk,∃D:Nat->Prop,us=[.loc P]/\Kg S P bh en tk/\DC bh D/\D 0 /\
 ∀T told ls lots rs S',Pf S' T told ls (GJ tk lots rs)->(∀d∈ls,S.length<=d)->Ext S S'->Yn bh en tk lots rs told->Q (.loc T) S'
def sk{α:Type}{l:List α}{x y:α}{k:Nat}(h:(l++[x])[k]?=ξ y):l[k]?=ξ y\/(k=l.length/\x=y):=by
 by_cases z:k<l.length
 .rw[ao z] at h;erw[.inl h]
 .have:=aT h
  have e:k=l.length:=by simp at this;omega
  subst e;exact .inr #[rfl,~~~h]
structure W4(S S1:bG)(tk:Nat->Nat)(bh:List Nat)(D:Nat->Prop)(Ls rs ds:List Nat):Prop where
 s:BO S S1 tk Ls rs ds
 dl:ds.length=rs.length
 le:ds.length<=Ls.length
 z:Ls[0]?=ξ 1
 d:∀h∈Ls,∀p,h.testBit p=ζ->D p
 b:∀(j r:Nat),rs[j]?=ξ r->∃h,Ls[j]?=ξ h/\Ss bh h r
def so{bh L:List Nat}{D:Nat->Prop}(C:DC bh D)(nd:L.Nodup)(hL:∀h∈L,∀p,h.testBit p=ζ->D p):L.length<=2048:=by
 have:=zU (l':=cv 2048) nd λx hx=>qg.mpr (av (jY λp hp=>C.b p (hL x hx p hp)) (show 2^bh.length<=2048 from bz (n:=2) (j:=11) ⋯ C.l))
 simpa using this
def Tc(Γ:bY)(h1:Γ "Places.beyond"=Ki){S S1:bG}{P:Nat}{bh en Ls rs ds:List Nat}{tk:Nat->Nat}{D:Nat->Prop}{x4 x5 x6 x7:Option U}{K:Env->bG->Prop}{Q:KU}(pa:Kg S P bh en tk)(C:DC bh D)(J:W4 S S1 tk bh D Ls rs ds)(dl:ds.length<Ls.length)
  (q:∀Ls rs ds' S2 x4 x5 x6 x7,W4 S S2 tk bh D Ls rs ds'->ds'.length=ds.length+1->K [ξ (.loc P),ξ (.loc S.length),ξ (.loc (S.length+1)),ξ (.loc (S.length+2)),x4,x5,x6,x7] S2):
  Rest Γ ZM #[K,Q] [ξ (.loc P),ξ (.loc S.length),ξ (.loc (S.length+1)),ξ (.loc (S.length+2)),x4,x5,x6,x7] S1:=by
 let#[I,hl,hle,hz,hD,hb]:=J;have hh:=ab dl;generalize Ls[ds.length]=h at hh;have lb:=so C I.nd hD;let#[b,e,k,oP,_]:=(pa.ext I.x).o;unfold ZM;room;rw[oP,bZ,I.l,kr I.r]
 dsimp[aW,aB,ae];refine#[#[trivial,rfl],∅,at_of hh ?_];refine ca h1 #[P,bh,en,tk,h,rfl,pa.ext I.x,aF C.l ⋯,λp hp=>C.b p (hD h (ah hh) p hp),λr S2 hr x2=>?_];have Dr:∀p,r.testBit p=ζ->D p:=λp hp=>by
  let#[q,B,z1,z2,z3]:=(hr p).mp hp;erw[C.c q B p (hD h (ah hh) q z1) z2 z3]
 room;rw[vJ]
 refine#[⋯,.inl ?_];have I3:=I.ext (x2.trans (Ext.app [SO.eh []]));have g3:(S2++[SO.eh []])[S2.length]?=ξ (.eh (sD (dh (SG.take 0) (gz tk Ls r)))):=by simp;rfl
 have d3:S.length+3<=S2.length:=by have:=aT I.r;have:=x2.1;omega
 have n3:∀(j r:Nat),rs[j]?=ξ r->ds[j]?≠ξ S2.length:=λj r hj z=>by
  have:=aT (I.d j _ r z hj).2;have:=x2.1;omega
 generalize S2.length=d0 at g3 d3 n3;generalize S2++[SO.eh []]=S3 at I3 g3;have sgl:SG.length=95:=rfl;have sit:∀(i:Nat)(u:U),(SG.map λc=>U.str [c])[i]?=ξ u->∃c,SG[i]?=ξ c/\u=.str [c]:=λi u hu=>by
  let#[c,hc,rfl]:=dY hu;exact#[c,hc,rfl]
 have sl:(SG.map λc=>U.str [c]).length=95:=rfl;rwa[Rest.go ?_];rw[vI,OS,OQ,w_lit,v_s]
 generalize hM:(SG.map λc=>U.str [c])=M at sit sl;rwa[dy (λm env S4=>∃(Ls':List Nat)(x6 x7:Option U),env=[ξ (.loc P),ξ (.loc S.length),ξ (.loc (S.length+1)),ξ (.loc (S.length+2)),ξ (aR r),ξ (.loc d0),x6,x7]/\BO S S4 tk Ls' rs ds/\S4[d0]?=ξ (.eh (sD (dh (SG.take m) (gz tk Ls' r))))/\(∀c∈SG.take m,r&&&tk c=0\/r&&&tk c∈Ls')/\(∃s,Ls'=Ls++s)/\∀h∈Ls',∀p,h.testBit p=ζ->D p) (λ_ _ _ _=>trivial) M ?_ ?_ #[Ls,x6,x7,rfl,I3,g3,#v[],#[[],#v[]],hD]]
 .rintro m u env S4 K' hu ⟨Ls',x6,x7,rfl,I4,g4,m4,⟨s,es⟩,D4⟩ hK
  let#[c,hc,rfl]:=sit m u hu;rwa[W3 Γ pa I4 g4 d3 n3 hc m4 (aF (so C I4.nd D4) ⋯) λLs2 S5 I5 g5 m5 l5=>hK _ _ #[Ls2,_,_,rfl,I5,g5,m5,?_,?_]]
  .rcases l5 with rfl|rfl
   .exact#[s,es]
   .exact#[s++[_],by rw[es,bx]]
  .rcases l5 with rfl|rfl
   .erw[D4]
   .intro h' m' p hp
    rcases aL.mp m' with m'|m'
    .erw[D4 h' m' p hp]
    .have:h'=r&&&tk c:=by simpa using m'
     subst this;rw[cA,ar] at hp;erw[Dr p hp.1]
 .rintro env S4 ⟨Ls',x6,x7,rfl,I4,g4,m4,hs,D4⟩
  have et:SG.take M.length=SG:=by rw[sl];rfl
  rw[et] at g4 m4;room;rw[I4.r,aB]
  dsimp[true_and];refine#[(·),?_];try room
  let#[s,es]:=hs;rwa[q Ls' _ _ _ _ _ _ _ #[I4.push g4 d3 m4 hl,by simp[hl],%[es,aj,aj|aF dl (fX _ _)],%[es,ao (ju (bJ _) dl)|hz],D4,λj r' hj=>?_] (#v[])];rcases sk hj with hj|⟨rfl,rfl⟩
  .let#[h,e1,e2]:=hb j r' hj
   exact#[h,%[es,ao (aT e1)|e1],e2]
  .exact#[h,by rw[es,<-hl,ao dl];erw[hh],hr]
def Td(Γ:bY)(h2:Γ "Places.first_rule"=Kj)(h3:Γ "Table.__init__"=Ob)(pa:Kg S P bh en tk)(C:DC bh D)(J:W4 S S1 tk bh D Ls rs ds)(el:Ls.length<=ds.length)
  (q:∀T told ls lots rs S',Pf S' T told ls (GJ tk lots rs)->(∀d∈ls,S.length<=d)->Ext S S'->Yn bh en tk lots rs told->F.rt (.loc T) S'):
  Rest Γ ZN F [ξ (.loc P),ξ (.loc S.length),ξ (.loc (S.length+1)),ξ (.loc (S.length+2)),x4,x5,x6,x7] S1:=by
 let#[I,hl,hle,hz,hD,inv]:=J;have lb:=so C I.nd hD;have pa1:=pa.ext I.x;let#[b,e,k,oP,_]:=pa1.o;have rat:∀{j:Nat},j<Ls.length->rs[j]?=ξ (rs.getD j 0):=λ{j}h=>by rw[bb,ab (hl▸av h el)];rfl
 unfold ZN;room;rw[I.l,aB]
 rwa[fO (Ls.map aR) (λi acc S2=>S2=S1/\∃told:List (Option Nat),acc=told.map uN/\told.length=i/\∀(j h:Nat),j<i->Ls[j]?=ξ h->∃o,told[j]?=ξ o/\Yj h en o) (λi acc S2 hi h9=>?_) (λi u acc S2 k hu hi hk=>?_) (λacc S2 hI=>?_) #[rfl,[],rfl,rfl,λj h hj=>absurd hj (cX j)]]
 .let#[x,told,e1,e2,_]:=h9
  rw[ae] at hi;exact#[x▸I.l,by rw[e1,ae];omega]
 .let#[rfl,told,rfl,e2,inv2]:=hi
  let#[h,hh,rfl]:=dY hu;rw[if_pos rfl,oP,bZ]
  refine#[#[rfl,rfl],ca h2 #[P,bh,en,tk,h,rfl,pa1,λo ho=>hk _ _ #[rfl,told++[o],#v[],by simp[e2],λj h' hj hh'=>?_]]];rcases jk.mp hj with y|y
  .let#[o',z1,z2]:=inv2 j h' y hh'
   exact#[o',%[ao (e2▸y)|z1],z2]
  .subst y
   rw[hh] at hh';cases hh';exact#[o,by rw[<-e2];simp,ho]
 .let#[rfl,told,rfl,e2,inv2]:=hI
  rw[ae] at e2 inv2;have x3:Ext S2 (S2++[SO.lst (told.map uN)]):=Ext.app _;have g3:(S2++[SO.lst (told.map uN)])[S2.length]?=ξ (.lst (told.map uN)):=by simp
  have I3:=I.ext x3;generalize S2.length=a at g3;generalize S2++[SO.lst (told.map uN)]=S3 at I3 g3;rwa[ca h3 #[S3.length,a,_,told,rfl,bS,(Ext.app _).get g3,λk' S4 o4 gT gk=>#[rfl,?_]]];have y4:Ext S3 S4:=E4 o4;rwa[q _ told ds Ls rs S4 #[#[k',_,gT,gk,y4.get I3.r,λj d hj=>?_,λj c hj=>?_],∅,∅,λj c k hc e=>?_] (λd m=>?_) (I3.x.trans y4) #[hz,λj h hj=>inv2 j h (aT hj) hj,e2,λj h hj=>?_,I.m]]
  .have hr:=rat (av (aT hj) hle)
   rw[DP hr]
   erw[y4.get (I3.d j d _ hj hr).2]
  .unfold GJ;rw[dO (hl▸hj)];rfl
  .unfold GJ at e
   let#[r,hr,e]:=aE.mp e;unfold gz at e;split at e
   .cases e
   .rename_i z
    cases e;rw[e2]
    erw[cM ((I.m r (ah hr) c hc).resolve_left z)]
  .let#[j,hj]:=bj m
   erw[aF (fX _ 3) (I.d j d _ hj (rat (av (aT hj) hle))).1]
  .have hr:=rat (aT hj)
   let#[h',e1,e2]:=inv j _ hr;rw[hj] at e1;cases e1;exact#[_,hr,e2]
def W5(Γ:bY)(h1:Γ "Places.beyond"=Ki)(h2:Γ "Places.first_rule"=Kj)(h3:Γ "Table.__init__"=Ob):Keeps Γ rM 7 Ta:=by
 rintro us S Q ⟨P,bh,en,tk,D,rfl,pa,C,D0,q⟩;unfold rM;room;refine#[#v[],?_];room;rw[show ∀env S' Q',WE Γ (.eh (.cons ↑1 .nil) (.cons ↑0 .nil)) env S' Q'=([U.int 1].length<=100/\nH (.int 1)=ζ/\∃v,[U.int 0]=[v]/\Q' (.loc S'.length) (S'++[.eh [(.int 1,v)]])) from λ_ _ _=>rfl]
 refine#[#v[],rfl,_,rfl,?_];room;refine#[#v[],?_];have ls0:(S++[SO.lst [U.int 1]]).length=S.length+1:=by simp
 have ls1:(S++[SO.lst [U.int 1]]++[SO.eh [(U.int 1,U.int 0)]]).length=S.length+2:=by simp
 have I0:W4 S (S++[SO.lst [U.int 1]]++[SO.eh [(U.int 1,U.int 0)]]++[SO.lst []]) tk bh D [1] [] []:=by
  refine#[#[((Ext.app _).trans (Ext.app _)).trans (Ext.app _),?_,?_,?_,#v[],#v[],#v[]],rfl,#v[],rfl,λh m p hp=>?_,#v[]]
  .exact((Ext.app _).trans (Ext.app _)).get (show(S++[SO.lst [U.int 1]])[S.length]?=_ by simp)
  .exact(Ext.app _).get (show(S++[SO.lst [U.int 1]]++[SO.eh [(U.int 1,U.int 0)]])[S.length+1]?=_ by rw[<-ls0,ax (aq _),bL];rfl)
  .rw[<-ls1,ax (aq _),bL];rfl
  .have:h=1:=by simpa using m
   subst this;rw[gX.mp hp]
   erw[D0]
 rw[ls0,ls1]
 generalize S++[SO.lst [U.int 1]]++[SO.eh [(U.int 1,U.int 0)]]++[SO.lst []]=S0 at I0;rwa[Rest.go ?_];rw[vI,OR]
 refine#[2050,mw (λN env S1=>∃(Ls rs ds:List Nat)(x4 x5 x6 x7:Option U),N=2048-ds.length/\env=[ξ (.loc P),ξ (.loc S.length),ξ (.loc (S.length+1)),ξ (.loc (S.length+2)),x4,x5,x6,x7]/\W4 S S1 tk bh D Ls rs ds) ?_ _ 2048 _ _ ⋯ #[[1],[],[],ψ,ψ,ψ,ψ,rfl,rfl,I0]];rintro N env S1 K ⟨Ls,rs,ds,x4,x5,x6,x7,rfl,rfl,J⟩ hK;have lb:=so C J.s.nd J.d;have dl:=J.le;room;rw[kr J.s.r,kr J.s.l]
 dsimp[aW,ae];refine#[∅,∅,?_];by_cases z:ds.length<Ls.length
 .have:((ds.length:Int)<(Ls.length:Int)):=uw.mpr z
  dsimp[this,decide_true,if_true];erw[Tc Γ h1 pa C J z λLs' rs' ds' S2 x4 x5 x6 x7 J2 e=>hK (2048-ds'.length) _ _ ∅ #[Ls',rs',ds',x4,x5,x6,x7,rfl,rfl,J2]]
 .have:¬((ds.length:Int)<(Ls.length:Int)):=λy=>z (uw.mp y)
  dsimp[this,decide_false,aw,if_false];erw[Td Γ h2 h3 pa C J (ou z) q]
section
variable{S S1 S2:bG}{X:List Nat}
abbrev Kp(X:List Nat)(S S1:bG):Prop:=S.length<=S1.length/\∀n,n<S.length->n∉X->S1[n]?=S[n]?
def Kp.refl:Kp X S S:=#[aq _,λ_ _ _=>rfl]
def Kp.trans(a:Kp X S S1)(b:Kp X S1 S2):Kp X S S2:=#[aF a.1 b.1,λn h ne=>(b.2 n (av h a.1) ne).trans (a.2 n h ne)]
def Ext.kp(a:Ext S S1):Kp X S S1:=#[a.1,λn h _=>a.2 n h]
def Kp.set(m:n∈X):Kp X S (S.set n o):=#[%[b8|aq _],λk _ ne=>by rw[ak λ(z:n=k)=>ne (by rw[<-z];erw[m])]]
def Kp.get(a:Kp X S S1)(h:S[n]?=ξ o)(m:n∉X):S1[n]?=ξ o:=(a.2 n (aT h) m).trans h
end
def z6(f:Nat->Option Nat)(h:Nat->Nat):∀G:List Nat,∃ps:List (Nat×Nat),dh G f=ps.map (λp=>([p.1],aR p.2))/\dh G (λc=>(f c).map h)=ps.map (λp=>([p.1],aR (h p.2)))/\(∀p∈ps,p.1∈G/\f p.1=ξ p.2)/\(G.Nodup->(ps.map (·.1)).Nodup)/\ps.length<=G.length
 |[]=>#[[],rfl,rfl,#v[],#v[],#v[]]
 |x::G=>by
  let#[ps,h1,h2,h3,h4,h5]:=z6 f h G;unfold dh at h1 h2 ⊢;cases e:f x with
  |none=>exact#[ps,by simp[e,h1],by rw[cw];dsimp[e,uH];erw[h2],λp m=>#[ay _ (h3 p m).1,(h3 p m).2],λnd=>h4 (fw.mp nd).2,(·)]
  |some k=>
   refine#[(x,k)::ps,by simp[e,h1],by rw[cw];dsimp[e,i4,az];rw[h2],λp m=>?_,λnd=>?_,(·)]
   .rcases aN.mp m with rfl|m
    .exact#[aQ ..,e]
    .exact#[ay _ (h3 p m).1,(h3 p m).2]
   .let#[n1,n2]:=fw.mp nd
    rw[az,fw]
    refine#[λz=>?_,h4 n2];let#[p,m,e']:=bD.mp z;have:=(h3 p m).1;rw[show p.1=x from e'] at this;erw[n1 this]
def Te{Γ:bY}{S:bG}{T nb A R d:Nat}{b:List Nat}{f:Nat->Option Nat}{x4:U}{k:KU}(hb:S[nb]?=ξ (.lst (b.map aR)))(hd:S[d]?=ξ (.eh (sD (dh SG f)))\/S[d]?=ξ (.qD (sD (dh SG f))))(hf:∀c k,c∈SG->f c=ξ k->k<b.length)
  (q:∀m S',Ext (S.set d (.qD (sD (dh SG f)))) S'->S.length<=m->S'[m]?=ξ (.eh (sD (dh SG λc=>(f c).map λk=>b.getD k 0)))->k (.loc m) S'):WE Γ ZO [ξ (.loc T),ξ (.loc nb),ξ (.loc A),ξ (.loc R),ξ x4,ξ (.loc d)] S k:=by
 unfold ZO;have gl:SG.length=95:=rfl;have nd:=DO;let#[ps,e1,e2,e3,e4,e5]:=z6 f (λk=>b.getD k 0) SG;have lk:∀p∈ps,uK (.str [p.1]) (sD (dh SG f))=ξ (aR p.2):=λp m=>by rw[E1,wz,if_pos (e3 p m).1,(e3 p m).2];rfl
 have kp:∀p∈ps,p.2<b.length:=λp m=>hf p.1 p.2 (e3 p m).1 (e3 p m).2
 rw[e2] at q;have ey:(sD (dh SG f)).map (·.1)=ps.map λp=>U.str [p.1]:=by rw[e1];unfold sD;simp[cH]
 have nd':=e4 nd;generalize dh SG f=rw0 at *;room;have e0:∀R,jv S[d]? R=R (sD rw0):=λR=>by rcases hd with h|h<;>rw[h]<;>rfl
 rw[e0,ey]
 have dl:d<S.length:=by rcases hd with h|h<;>exact aT h
 have nbd:nb≠d:=λz=>by rcases hd with h|h<;>rw[<-z,hb] at h<;>cases h
 have g1:(S.set d (.qD (sD rw0)))[d]?=ξ (.qD (sD rw0)):=bA dl;have b1:(S.set d (.qD (sD rw0)))[nb]?=ξ (.lst (b.map aR)):=%[ak (cJ nbd)|hb]
 have l1:(S.set d (.qD (sD rw0))).length=S.length:=b8;generalize S.set d (.qD (sD rw0))=S1 at g1 b1 q l1;rwa[iD (S:=S1) _ (ps.map λp=>.tup [.str [p.1],aR (b.getD p.2 0)]) (#v[]) ((·)) (λS' x=>x.get g1) (λu S' k h=>h) (λj u v hu hv S2 k x' hk=>?_) λS2 x'=>?_]
 .rw[aC] at hu hv
  let#[p,hp,rfl]:=au.mp hu;rw[hp] at hv;have hv:U.tup [.str [p.1],aR (b.getD p.2 0)]=v:=by simpa using hv
  subst hv;have m:=ah hp;rw[x'.get g1]
  refine#[rfl,?_];rw[lk p m]
  show getL S2[nb]? _
  rw[x'.get b1,aB]
  erw[tP (kp p m) #[#v[],hk S2 .refl]]
 .refine#[ps.map λp=>([p.1],aR (b.getD p.2 0)),by simp[cH],?_,?_]
  .have:=nd'
   rw[bw]
   show(ps.map λp=>[p.1]).Nodup
   have e:(ps.map λp=>[p.1])=(ps.map (·.1)).map λc=>[c]:=by rw[bw];rfl
   rw[e]
   erw[oN _ (λa b h z=>h (He z).1) nd']
  .erw[q _ _ (x'.trans ((Ext.app _).trans (Ext.app _))) (by have:=x'.1;rw[aj];omega) (by rw[ax (aq _),bL];rfl)]
structure Yo(told:List (Option Nat))(go:Nat->Nat->Option Nat)(told':List (Option Nat))(go':Nat->Nat->Option Nat)(b reps:List Nat):Prop where
 k:∃m,Hk (told++[ψ]) (gN told.length go) m b/\∀i j,i<(told++[ψ]).length->j<(told++[ψ]).length->Eqv (told++[ψ]) (gN told.length go) m i j->Eqv (told++[ψ]) (gN told.length go) (m+1) i j
 a:∀p,p<told.length->b.getD p 0<reps.length
 len:told'.length=reps.length
 r:∀(r p:Nat),reps[r]?=ξ p->p<told.length/\b.getD p 0=r/\∀p',p'<p->b.getD p' 0<r
 t:∀(r p:Nat),reps[r]?=ξ p->told'.getD r ψ=told.getD p ψ/\∀c,go' r c=(go p c).map λk=>b.getD k 0
abbrev Ud(go:Nat->Nat->Option Nat)(b reps:List Nat)(r c:Nat):Option Nat:=(reps[r]?).bind λp=>(go p c).map λk=>b.getD k 0
def KZ(h:reps[r]?=ξ p):Ud go b reps r=λc=>(go p c).map λk=>b.getD k 0:=by
 funext c;unfold Ud;rw[h];rfl
abbrev Tf:Spec:=λus S Q=>∃T told ls go B,us=[.loc T]/\Pf S T told ls go/\0<told.length/\(∀d∈ls,B<=d)/\B<=S.length/\∀T' told' ls' go' b reps S',Pf S' T' told' ls' go'->(∀n,n<B->S'[n]?=S[n]?)->S.length<=S'.length/\(∀d∈ls',S.length<=d)->Yo told go told' go' b reps->Q (.loc T') S'
structure Of(S3 S4:bG)(L:Nat)(told:List (Option Nat))(ls:List Nat)(go:Nat->Nat->Option Nat)(b reps ds:List Nat)(i:Nat):Prop where
 k:Kp (L::(L+1)::ls) S3 S4
 a:S4[L]?=ξ (.lst ((reps.map λp=>told.getD p ψ).map uN))
 r:S4[L+1]?=ξ (.lst (ds.map .loc))
 dl:ds.length=reps.length
 od:∀(j d:Nat),ls[j]?=ξ d->S4[d]?=ξ (.eh (sD (dh SG (go j))))\/S4[d]?=ξ (.qD (sD (dh SG (go j))))
 nw:∀(r d p:Nat),ds[r]?=ξ d->reps[r]?=ξ p->S3.length<=d/\S4[d]?=ξ (.eh (sD (dh SG λc=>(go p c).map λk=>b.getD k 0)))
 ib:∀p,p<i->b.getD p 0<reps.length
 ir:∀(r p:Nat),reps[r]?=ξ p->p<i/\b.getD p 0=r/\∀p',p'<p->b.getD p' 0<r
 rl:reps.length<=i
section
variable{S3 S4 S6:bG}{L i d m:Nat}{told:List (Option Nat)}{ls b reps ds:List Nat}{go:Nat->Nat->Option Nat}
def Of.old(a:Of S3 S4 L told ls go b reps ds i)(h:b.getD i 0<reps.length):Of S3 S4 L told ls go b reps ds (i+1):=
 #[a.k,a.a,a.r,a.dl,a.od,a.nw,λp hp=>(jk.mp hp).elim (a.ib p) λe=>e▸h,λr p e=>#[bc (a.ir r p e).1,(a.ir r p e).2],jU a.rl]
def Of.push(a:Of S3 S4 L told ls go b reps ds i)(hz:b.getD i 0=reps.length)(hd:ls[i]?=ξ d)(lo:∀(j d:Nat),ls[j]?=ξ d->d<L/\S3[d]?=ξ (.eh (sD (dh SG (go j)))))(l3:S3.length=L+2)
  (x6:Ext ((S4.set L (.lst (((reps++[i]).map λp=>told.getD p ψ).map uN))).set d (.qD (sD (dh SG (go i))))) S6) (ml:S4.length<=m) (g6:S6[m]?=ξ (.eh (sD (dh SG λc=>(go i c).map λk=>b.getD k 0)))):
  Of S3 (S6.set (L+1) (.lst (ds.map .loc++[.loc m]))) L told ls go b (reps++[i]) (ds++[m]) (i+1):=by
 have dL:=(lo i d hd).1;have lr:=aT a.r;have lk:=a.k.1;have get:∀(n:Nat)(o:SO),n≠L->n≠L+1->n≠d->S4[n]?=ξ o->(S6.set (L+1) (.lst (ds.map .loc++[.loc m])))[n]?=ξ o:=λn o h1 h2 h3 e=>by
  rw[ak (cJ h2)]
  erw[x6.get (by rw[ak (cJ h3),ak (cJ h1)];exact e)]
 have g1:S6[L+1]?=ξ (.lst (ds.map .loc)):=x6.get (%[ak (ba (bc dL)),ak (ba (b9 L))|a.r]);have mX:d∈L::(L+1)::ls:=by simp[ah hd]
 refine#[(a.k.trans ((Kp.set (#v[])).trans (Kp.set mX))).trans ((Ext.kp x6).trans (Kp.set (#v[]))),?_,by rw[gs g1];simp,by simp[a.dl],λj d' hj=>?_,λr d' p e1 e2=>?_,λp hp=>?_,λr p e=>?_,%[aj|cB a.rl]]
 .rw[ak (dw (b9 L))]
  erw[x6.get (by rw[ak (ba dL)];exact gs a.a)]
 .by_cases y:d'=d
  .subst y
   have e:sD (dh SG (go j))=sD (dh SG (go i)):=by
    have:=(lo j d' hj).2;rw[(lo i d' hd).2] at this;injection this with this;injection this with this
    erw[this.symm]
   rw[e,ak (dw (bc dL))]
   erw[.inr (x6.get (bA (by rw[b8];exact Cm dL (Nat.lt_of_succ_lt lr))))]
  .have dl:=(lo j d' hj).1
   have ne:=ba dl;exact(a.od j d' hj).imp (get _ _ ne (ba (bc dl)) y) (get _ _ ne (ba (bc dl)) y)
 .rcases sk e1 with e1|⟨rfl,rfl⟩
  .have hr:=aT e1
   rw[ao (a.dl▸hr)] at e2;let#[z1,z2]:=a.nw r d' p e1 e2;rw[l3] at z1;exact#[l3▸z1,get _ _ (dw (av (bc (b9 L)) z1)) (dw z1) (dw (av (bc (bc dL)) z1)) z2]
  .have f2:i=p:=by rw[a.dl] at e2;simpa using e2
   subst f2;exact#[aF lk ml,%[ak (ba (av lr ml))|g6]]
 .rw[aj]
  rcases jk.mp hp with y|y
  .erw[bc (a.ib p y)]
  .rw[y,hz];erw[b9 _]
 .rcases sk e with e|⟨rfl,rfl⟩
  .let#[z1,z2]:=a.ir r p e
   exact#[bc z1,z2]
  .exact#[b9 _,hz,a.ib]
end
def Og(Γ:bY)(a:Of S3 S4 L told ls go b reps ds i)(gT:S4[T]?=ξ (Oa kk told R))(gm:S4[m]?=ξ (.lst (b.map aR)))(mL:m≠L)(hd:ls[i]?=ξ d)(lo:∀(j d:Nat),ls[j]?=ξ d->d<L/\S3[d]?=ξ (.eh (sD (dh SG (go j)))))(l3:S3.length=L+2)(hb:i<b.length)(le:b.getD i 0<=reps.length)(r4:i<=4000)(tl:told.length<=4000)(cl:∀c k,c∈SG->go i c=ξ k->k<b.length)(ht:told[i]?=ξ (told.getD i ψ))
  (q:∀reps ds S',Of S3 S' L told ls go b reps ds (i+1)->K [ξ (.loc T),ξ (.loc m),ξ (.loc L),ξ (.loc (L+1)),ξ (aR i),ξ (.loc d)] S'):
  Rest Γ ZP #[K,Q] [ξ (.loc T),ξ (.loc m),ξ (.loc L),ξ (.loc (L+1)),ξ (aR i),ξ (.loc d)] S4:=by
 unfold ZP;have rl:=a.rl;have dl:=a.dl;room;rw[gm,aB]
 rwa[tP hb ?_];rw[kr a.r]
 dsimp[aW,ae];refine#[∅,?_];try room
 by_cases z:b.getD i 0=reps.length
 .have z':(((b.getD i 0:Nat):Int)== (ds.length:Int))=ζ:=by rw[beq_iff_eq,z,dl]
  dsimp[z',if_true];room;rw[a.a,aB,KW gT]
  room;refine#[by rw[ae];omega,at_of ht #[by rw[ae,ae];omega,?_]];have dL:=lo i d hd;have eA:(reps.map λp=>told.getD p ψ).map uN++[uN (told.getD i ψ)]=((reps++[i]).map λp=>told.getD p ψ).map uN:=by rw[aG,aG];rfl
  rw[eA]
  have g1:(S4.set L (.lst (((reps++[i]).map λp=>told.getD p ψ).map uN)))[L+1]?=ξ (.lst (ds.map .loc)):=%[ak (ba (b9 L))|a.r]
  have g2:∀{n:Nat}{o:SO},n≠L->S4[n]?=ξ o->(S4.set L (.lst (((reps++[i]).map λp=>told.getD p ψ).map uN)))[n]?=ξ o:=λ{n o}h e=>%[ak (cJ h)|e]
  room;rw[g1,aB]
  refine#[trivial,Te (g2 mL gm) ((a.od i d hd).imp (g2 (ba dL.1)) (g2 (ba dL.1))) cl λm6 S6 x6 m6l g6=>?_];rw[b8] at m6l;have g6':S6[L+1]?=ξ (.lst (ds.map .loc)):=x6.get (%[ak (ba (bc dL.1))|g1]);rw[g6',aB]
  refine#[by rw[ae];omega,?_];try room
  erw[q _ _ _ (a.push z hd lo l3 x6 m6l g6)]
 .have z':(((b.getD i 0:Nat):Int)== (ds.length:Int))=ϑ:=by rw[beq_eq_false_iff_ne];omega
  dsimp[z',aw,if_false];room;erw[q _ _ _ (a.old (HD le z))]
def W6(Γ:bY)(h1:Γ "rounds"=KS)(h2:Γ "with_nowhere"=KO)(h3:Γ "Table.__init__"=Ob):Keeps Γ nQ 5 Tf:=by
 rintro us S Q ⟨T,told,ls,go,B,rfl,h,h0,hB,hBl,q⟩;unfold nQ;let#[kk,R,hT,hk,hR]:=h.o;have hl:=h.ll;have sz:=h.sz;room;rw[KW hT]
 room;refine#[#v[],(·),?_];rw[Oc hT]
 rwa[ca h2 #[R,ls,go,rfl,hR,∅,λnr S1 ms x1 ml Rw1=>?_]];have eN:(told++[ψ]).length=told.length+1:=by simp
 rwa[ca h1 #[nr,ms,gN ls.length go,told++[ψ],by rw[aG];rfl,Rw1,∅,∅,∅,λj c hj hc=>?_,λF fs S2 x2 gF Rs=>?_]]
 .unfold gN
  cases e:go j c with
  |none=>show ls.length<_;omega
  |some k=>have:=h.cl j c k hc e;show k<_;omega
 have x12:=x1.trans x2;obtain⟨fs0,m,rfl⟩:∃fs0 m,fs=fs0++[m]:=by
  rcases ko fs with z|⟨a,b,z⟩
  .erw[absurd z Rs.ne]
  .exact#[a,b,by rw[z,kq]]
 let#[b,gm,rb]:=Rs.r fs0.length m (#v[]);have st:=Rs.st;rw[hl,show(fs0++[m]).length=fs0.length+1 by simp] at st;rw[hl] at rb;room;rw[gF,aB,aG,show [m].map U.loc=[.loc m] from rfl,uZ,aW]
 room;refine#[#v[],?_];room;refine#[#v[],?_];have bl:=rb.len;rw[eN] at bl;have nX:∀(n:Nat)(o:SO),S2[n]?=ξ o->(∀j,o≠.eh (sD (dh SG (go j))))->n∉S2.length::(S2.length+1)::ls:=λn o hn ho z=>by
  have:=aT hn;rcases aN.mp z with z|z
  .omega
  .rcases aN.mp z with z|z
   .omega
   .let#[j,hj]:=bj z
    have:=x12.get (hR.d j n hj);rw[hn] at this;erw[ho j (aH this)]
 have nT:=nX T _ (x12.get hT) (by intro j;unfold Oa;intro z;cases z);have nR:=nX R _ (x12.get hR.l) (by intro j z;cases z);have nm:=nX m _ gm (by intro j z;cases z);have ls0:(S2++[SO.lst []]).length=S2.length+1:=by simp
 have y3:Ext S2 (S2++[SO.lst []]++[SO.lst []]):=(Ext.app _).trans (Ext.app _);have gA:(S2++[SO.lst []]++[SO.lst []])[S2.length]?=ξ (.lst []):=(Ext.app _).get (#v[]);have gR:(S2++[SO.lst []]++[SO.lst []])[S2.length+1]?=ξ (.lst []):=by rw[<-ls0,ax (aq _),bL];rfl
 rw[ls0]
 have l3:(S2++[SO.lst []]++[SO.lst []]).length=S2.length+2:=by simp
 generalize S2++[SO.lst []]++[SO.lst []]=S3 at y3 gA gR l3;have x3:=x12.trans y3;room;rw[Oc (x3.get hT)]
 room;rw[x3.get hR.l,aB]
 have fst':=uW b [];rw[rb.fx] at fst';have lo:∀(j d:Nat),ls[j]?=ξ d->d<S2.length/\S3[d]?=ξ (.eh (sD (dh SG (go j)))):=λj d e=>#[aT (x12.get (hR.d j d e)),x3.get (hR.d j d e)]
 rwa[dy (λi env S4=>∃(reps ds:List Nat)(x4 x5:Option U),env=[ξ (.loc T),ξ (.loc m),ξ (.loc S2.length),ξ (.loc (S2.length+1)),x4,x5]/\Of S3 S4 S2.length told ls go b reps ds i) (λi env S4 h9=>?_) _ ?_ ?_ #[[],[],ψ,ψ,rfl,.refl,gA,gR,rfl,λj d e=>.inl (lo j d e).2,#v[],λp hp=>absurd hp (cX p),#v[],aq _]]
 .let#[_,_,_,_,_,a]:=h9
  erw[a.k.get (x3.get hR.l) nR]
 .rintro i u env S4 K hu ⟨reps,ds,x4,x5,rfl,a⟩ hK
  dsimp[fD,aC,pA] at hu;let#[d,hd,rfl]:=au.mp hu;have hi:=aT hd;have ht:told[i]?=ξ (told.getD i ψ):=by rw[bb,ab (hl▸hi)];rfl
  dsimp[cH,MB];rwa[Og Γ a (a.k.get (x3.get hT) nT) (a.k.get (y3.get gm) nm) (ba (aT gm)) hd lo l3 ∅ ?_ ∅ sz (λc k hc e=>Cm (h.cl i c k hc e) ∅) ht λreps ds S' a'=>hK _ _ #[reps,ds,_,_,rfl,a']]
  have gi:=gd (b:=b) (i:=i) ∅;have ib:=a.ib
  clear a hK lo
  cases e:b.getD i 0 with
  |zero=>erw[bJ _]
  |succ v=>
   rw[e] at gi;rcases fst' i v gi with z|⟨p,hp,e'⟩
   .erw[absurd z (cX v)]
   .have:=ib p hp
    rw[bb,e'] at this;erw[this]
 .rintro env S4 ⟨reps,ds,x4,x5,rfl,a⟩
  obtain⟨k4,gA4,gR4,dl,-,nw,ib,ir,rl⟩:=a;rw[lZ,ae,hl] at ib ir rl;room;refine ca h3 #[S4.length,_,_,_,rfl,bS,(Ext.app _).get gA4,λk' S5 o5 gT gk=>#[rfl,?_]];have y5:Ext S4 S5:=E4 o5;have t':∀(r p:Nat),reps[r]?=ξ p->(reps.map λp=>told.getD p ψ).getD r ψ=told.getD p ψ/\∀c,Ud go b reps r c=(go p c).map λk=>b.getD k 0:=λr p e=>by
   refine#[by rw[bb,aC,e];rfl,λc=>by rw[KZ e]]
  rwa[q _ (reps.map λp=>told.getD p ψ) ds (Ud go b reps) b reps S5 #[#[k',_,gT,gk,y5.get gR4,λj d hj=>?_,λj c hj=>?_],%[ae|dl],by rw[ae];omega,λj c k hc e=>?_] (λn hn=>?_) #[aF x3.1 (aF k4.1 y5.1),λd m=>let ⟨j,hj⟩:=bj m;aF x3.1 (nw j d _ hj (ab (show j<reps.length from dl▸aT hj))).1] #[#[fs0.length,rb,st],ib,#v[],ir,t']]
  .have hr:=ab (show j<reps.length from dl▸aT hj)
   rw[KZ hr]
   erw[y5.get (nw j d _ hj hr).2]
  .unfold Ud;rw[dO (dl▸hj)];rfl
  .unfold Ud at e
   let#[p,hp,e]:=aE.mp e;let#[v,hv,e]:=au.mp e;subst e;rw[ae]
   erw[ib v (h.cl p c v hc hv)]
  .have nS:n<S.length:=av hn hBl
   have n2:=av nS x12.1;have n3:=av nS x3.1;rw[y5.2 n (av n3 k4.1),k4.2 n n3 (λz=>?_),x3.2 n nS]
   rcases aN.mp z with z|z
   .erw[ba n2 z]
   .rcases aN.mp z with z|z
    .erw[ba (bc n2) z]
    .erw[ve hn (hB n z)]
abbrev z7(ts:List Tr)(w:List Nat):Option Nat->Prop
 |none=>∀(i:Nat)t,ts[i]?=ξ t->¬En t (hs t w)
 |some i=>(∃t,ts[i]?=ξ t/\En t (hs t w))/\∀(i':Nat)t,i'<i->ts[i']?=ξ t->¬En t (hs t w)
def u5(h:z7 ts w o)(h':z7 ts w o'):o=o':=by
 cases o with
 |none=>
  cases o' with
  |none=>rfl
  |some i=>let#[#[t,e,z],_]:=h';erw[absurd z (h i t e)]
 |some i=>
  let#[#[t,e,z],n]:=h;cases o' with
  |none=>erw[absurd z (h' i t e)]
  |some j=>
   let#[#[t',e',z'],n']:=h';rcases uo i j with y|y|y
   .erw[absurd z (n' i t y e)]
   .rw[y]
   .erw[absurd z' (n j t' y e')]
abbrev tot(N:Nat)(go:Nat->Nat->Option Nat)(w:List Nat):Nat:=w.foldl (gN N go) 0
def wA:tot N go (w++[c])=gN N go (tot N go w) c:=by unfold tot;rw[d6];rfl
def Pg:Ss bh 0 0:=λp=>by simp
section
variable{ts:List Tr}{sg:List (List Nat)}{bh en lots rs:List Nat}{u:Nat}{told:List (Option Nat)}
@[reducible]def Av(sg:List (List Nat)):Nat->Nat:=λc=>kz (·.contains c) sg
def BP(A:DJ ts sg bh en)(U:Lx sg bh en u)(P:Yn (bh.map (·&&&u)) en (Av sg) lots rs told)(gz0:∀j c,told.length<=j->GJ (Av sg) lots rs j c=ψ):∀(n:Nat)(w:List Nat),w.length=n->(∀c∈w,c∈SG)->(∃r,rs[tot told.length (GJ (Av sg) lots rs) w]?=ξ r/\O6 ts u w r)\/(tot told.length (GJ (Av sg) lots rs) w=told.length/\O6 ts u w 0)
 |0,w,hn,_=>by
  rw[oj.mp hn]
  let#[r,h1,h2]:=P.b 0 1 P.z;erw[.inl #[r,h1,GG A h2]]
 |n+1,w,hn,hw=>by
  rcases ko w with rfl|⟨w,c,rfl⟩
  .simp at hn
  rw[kq] at hn hw ⊢;have cm:c∈SG:=hw c (#v[]);rw[wA]
  rcases BP A U P gz0 n w (~~~hn) (λc m=>hw c (by simp[m])) with⟨r,h1,h2⟩|⟨h1,h2⟩
  .unfold gN
   rw[DP h1]
   unfold gz;by_cases z:r&&&Av sg c=0
   .rw[if_pos z]
    erw[.inr #[rfl,wg A U h2 (show Ss _ (r&&&Av sg c) 0 by rw[z];exact Pg)]]
   .rw[if_neg z]
    have hm:=(P.m r (ah h1) c cm).resolve_left z;have hk:=cM hm;have e:lots[lots.idxOf (r&&&Av sg c)]?=ξ (r&&&Av sg c):=by rw[ab hk,jq hk]
    let#[r',e1,e2]:=P.b _ _ e;erw[.inl #[r',e1,wg A U h2 e2]]
  .rwa[.inr #[?_,wg A U h2 (%[Nat.zero_and|Pg])]]
   unfold gN;rw[h1,gz0 _ c (aq _)];rfl
def W7:¬Ov 0 en i:=λ⟨_,_,p,h,_⟩=>by simp at h
def DQ(A:DJ ts sg bh en)(U:Lx sg bh en u)(h:O6 ts u w r)(f:Yj (r&&&Av sg c) en o):z7 ts (w++[c]) o:=by
 have k:=Kl (c:=c) A U h;cases o with
 |none=>erw[λi t e z=>f i ((k i).mpr #[t,e,z])]
 |some i=>exact#[(k i).mp f.1,λi' t hi e z=>f.2 i' hi ((k i').mpr #[t,e,z])]
def GK(A:DJ ts sg bh en)(U:Lx sg bh en u)(P:Yn (bh.map (·&&&u)) en (Av sg) lots rs told)(gz0:∀j c,told.length<=j->GJ (Av sg) lots rs j c=ψ)(w:List Nat)(hw:∀c∈w,c∈SG):z7 ts w ((told++[ψ]).getD (tot told.length (GJ (Av sg) lots rs) w) ψ):=by
 have nn:(told++[ψ]).getD told.length ψ=ψ:=by rw[bb];simp
 have tt:∀{k:Nat}{o:Option Nat},told[k]?=ξ o->(told++[ψ]).getD k ψ=o:=λ{k o}e=>by rw[bb,ao (aT e),e];rfl
 rcases ko w with rfl|⟨w,c,rfl⟩
 .let#[o,e1,e2]:=P.t 0 1 P.z
  rw[show tot told.length (GJ (Av sg) lots rs) []=0 from rfl,tt e1]
  cases o with
  |none=>
   rintro i t e ⟨p,hp,z⟩;have hp:p=0:=hp;subst hp;have:=A.nl t (ah e);have z:eY [t]=ζ:=z;simp[eY,this] at z
  |some i=>
   let#[Z,f1,p,f2,f3]:=e2.1;have p0:=gX.mp f2;subst p0;have il:i<ts.length:=by rw[<-A.GF];erw[aT f1]
   let#[Z',g1,g2]:=A.e i _ (ab il);rw[f1] at g1;cases g1;rw[g2,ar] at f3;let#[n,n0,pl]:=A.pos _ (cz il);erw[absurd rfl (zI pl n0 f3.1)]
 .rw[kq] at hw ⊢
  have cm:c∈SG:=hw c (#v[]);rw[wA]
  rcases BP A U P gz0 _ w rfl (λc m=>hw c (by simp[m])) with⟨r,h1,h2⟩|⟨h1,h2⟩
  .unfold gN
   rw[DP h1]
   unfold gz;by_cases z:r&&&Av sg c=0
   .rw[if_pos z]
    show z7 ts _ ((told++[ψ]).getD told.length ψ)
    rw[nn]
    erw[DQ (r:=r) A U h2 (o:=ψ) (by rw[z];exact λi=>W7)]
   .rw[if_neg z]
    have hm:=(P.m r (ah h1) c cm).resolve_left z;have hk:=cM hm;have e:lots[lots.idxOf (r&&&Av sg c)]?=ξ (r&&&Av sg c):=by rw[ab hk,jq hk]
    let#[o,e1,e2]:=P.t _ _ e;show z7 ts _ ((told++[ψ]).getD (lots.idxOf (r&&&Av sg c)) ψ);rw[tt e1]
    erw[DQ A U h2 e2]
  .unfold gN
   rw[h1,gz0 _ c (aq _)]
   show z7 ts _ ((told++[ψ]).getD told.length ψ)
   rw[nn]
   erw[DQ (r:=0) A U h2 (o:=ψ) (by rw[Nat.zero_and];exact λi=>W7)]
end
section
variable{told told':List (Option Nat)}{go go':Nat->Nat->Option Nat}{b reps:List Nat}
def Ph:∀{m i j:Nat},Eqv told g m i j->told[i]?=told[j]?
 |0,_,_,h=>h
 |m+1,_,_,h=>Ph h.1
def E5(M:Yo told go told' go' b reps)(cl:∀j c k,c∈SG->go j c=ξ k->k<told.length)(hi:i<=told.length)(hj:j<=told.length)(e:b.getD i 0=b.getD j 0):(told++[ψ])[i]?=(told++[ψ])[j]?/\∀c∈SG,b.getD (gN told.length go i c) 0=b.getD (gN told.length go j c) 0:=by
 let#[m,R,st]:=M.k;have hN:(told++[ψ]).length=told.length+1:=by simp
 have hq:=(R.iff i j ∅ ∅).mp e;refine#[Ph hq,λc hc=>?_];have le:∀i,gN told.length go i c<(told++[ψ]).length:=λi=>by
  unfold gN;cases z:go i c with
  |none=>show told.length<_;omega
  |some k=>have:=cl i c k hc z;show k<_;omega
 exact(R.iff _ _ (le i) (le j)).mpr ((st i j ∅ ∅ hq).2 c hc)
def E6(M:Yo told go told' go' b reps)(cl:∀j c k,c∈SG->go j c=ξ k->k<told.length)(z0:∀j c,told.length<=j->go j c=ψ)(h0:0<told.length):∀(n:Nat)(w:List Nat),w.length=n->(∀c∈w,c∈SG)->tot told.length go w<=told.length/\match Cc go' w with
  |some r=>r<reps.length/\b.getD (tot told.length go w) 0=r
  |none=>b.getD (tot told.length go w) 0=b.getD told.length 0
 |0,w,hn,_=>by
  rw[oj.mp hn]
  have h1:=M.a 0 h0;let#[m,R,_]:=M.k;refine#[bJ _,?_];show 0<reps.length/\b.getD 0 0=0;have bl:=R.len;have hN:(told++[ψ]).length=told.length+1:=by simp
  have gi:=gd (b:=b) (i:=0) ∅;refine#[∅,?_];cases e:b.getD 0 0 with
  |zero=>rfl
  |succ v=>
   rw[e] at gi;have:=uW b [] 0 v (%[R.fx|gi]);rcases this with z|⟨p,hp,_⟩
   .simp at z
   .omega
 |n+1,w,hn,hw=>by
  rcases ko w with rfl|⟨w,c,rfl⟩
  .simp at hn
  rw[kq] at hn hw ⊢;have cm:c∈SG:=hw c (#v[]);let#[il,ih]:=E6 M cl z0 h0 n w (~~~hn) (λc m=>hw c (by simp[m]));rw[wA,KY]
  refine#[?_,?_]
  .unfold gN
   cases z:go (tot told.length go w) c with
   |none=>erw[aq _]
   |some k=>erw[cY (cl _ c k cm z)]
  cases e:Cc go' w with
  |none=>
   rw[e] at ih;have:=(E5 M cl il (aq _) ih).2 c cm;show b.getD _ 0=_;rw[this]
   unfold gN;rw[z0 _ c (aq _)];rfl
  |some r=>
   rw[e] at ih;let#[rl,er]:=ih;have hp:=ab rl;let#[p1,p2,_]:=M.r r _ hp;have tg:=(M.t r _ hp).2 c;generalize reps[r]=p at hp p1 p2 tg;have:=(E5 M cl il (cY p1) (by rw[er,p2])).2 c cm;show match go' r c with|some r=>r<reps.length/\_=r|none=>_
   rw[tg,this]
   unfold gN;cases z:go p c with
   |none=>rfl
   |some k=>exact#[M.a k (cl p c k cm z),rfl]
def GL(M:Yo told go told' go' b reps)(cl:∀j c k,c∈SG->go j c=ξ k->k<told.length)(z0:∀j c,told.length<=j->go j c=ψ)(h0:0<told.length)(w:List Nat)(hw:∀c∈w,c∈SG):fst told' go' w=(told++[ψ]).getD (tot told.length go w) ψ:=by
 let#[il,h]:=E6 M cl z0 h0 _ w rfl hw;unfold fst;cases e:Cc go' w with
 |none=>
  rw[e] at h;have:=(E5 M cl il (aq _) h).1;rw[bb,this];simp
 |some r=>
  rw[e] at h;let#[rl,er]:=h;have hp:=ab rl;let#[p1,p2,_]:=M.r r _ hp;have:=(E5 M cl il (cY p1) (by rw[er,p2])).1;rw[bb,this,ao p1,<-bb]
  exact(M.t r _ hp).1
end
abbrev Th:Spec:=λus S Q=>∃n xs ts,us=[.loc n]/\S[n]?=ξ (.lst (xs.map .str))/\Wr ts xs/\lI ts/\dX ts<=10/\∀T told ls go S',Pf S' T told ls go->0<told.length->(∀w,(∀c∈w,c∈SG)->z7 ts w (fst told go w))->Ext S S'->(∀d∈ls,S.length<=d)->Q (.loc T) S'
def W8(Γ:bY)(h1:Γ "places_of"=Ws)(h2:Γ "spread"=Ta)(h3:Γ "smallest"=Tf):Keeps Γ nP 0 Th:=by
 rintro us S Q ⟨n,xs,ts,rfl,gn,hR,hT,hs,q⟩;unfold nP;room;rwa[ca h1 #[n,xs,ts,10,rfl,gn,hR,hT,hs,λP u sg bh en S1 pp A U l x1=>?_]];have al:=A.len;have b0:0<bh.length:=∅
 rwa[ca h2 #[P,_,en,_,λp=>p=0\/∃t∈ts,IN t p=ζ,rfl,pp,#[by rw[ae];omega,λq B p hq hB hp=>.inr ?_,λp hp=>?_],.inl rfl,λT told ls lots rs S2 tb dl x2 sp=>?_]]
 .let#[B',e,rfl]:=zL hB
  rw[cA,ar] at hp;rcases hq with rfl|⟨t,m,i⟩
  .let#[B0,e0,f0]:=A.b0
   rw[e] at e0;cases e0;let#[t,m,f]:=(f0 p).mp hp.1;exact#[t,m,jD f]
  .let#[B0,e0,f0]:=A.b t m q i
   rw[e] at e0;cases e0;rw[f0] at hp;exact#[t,m,gu hp.1]
 .rw[ae]
  rcases hp with rfl|⟨t,m,i⟩
  .erw[b0]
  .rw[al];erw[aT (A.sgn t m p i)]
 have t0:0<told.length:=%[sp.len|aT sp.z]
 let#[_,_,_,_,rp]:=tb.o;have ll:=tb.ll;rwa[ca h3 #[T,told,ls,_,S1.length,rfl,tb,t0,dl,x2.1,λT' told' ls' go' b reps S3 tb' k3 #[l3,l4] M=>?_]];have z0:∀j c,told.length<=j->GJ (Av sg) lots rs j c=ψ:=λj c hj=>rp.z j c ∅
 rwa[q T' told' ls' go' S3 tb' ?_ (λw hw=>?_) #[by have:=x1.1;have:=x2.1;omega,λn hn=>?_] λd m=>aF (aF x1.1 x2.1) (l4 d m)]
 .rw[M.len]
  have:=M.a 0 t0;omega
 .rw[GL M tb.cl z0 t0 w hw]
  erw[GK A U sp z0 w hw]
 .have:=x1.1
  rw[k3 n ∅,x2.2 n ∅,x1.2 n hn]
abbrev Oh:Spec:=λus S Q=>∃n x ts,us=[.loc n,.str x]/\S[n]?=ξ (.lst (ts.map enc))/\lI ts/\x.length<=9000/\∀o S',z7 ts x o->Ext S S'->Q (uN o) S'
def W9(Γ:bY)(h1:Γ "_law_rests"=Sv)(h2:Γ "_law_ends"=Sw):Keeps Γ kX 3 Oh:=by
 rintro us S Q ⟨n,x,ts,rfl,gn,hT,hx,q⟩;unfold kX;have tl:=hT.len;room;rw[kr gn]
 dsimp[aW,ae,MA,fG];refine#[∅,∅,∅,?_];rwa[dy (λi env S1=>∃(x2 x3 x4:Option U),env=[ξ (.loc n),ξ (.str x),x2,x3,x4]/\Ext S S1/\∀(j:Nat)t,j<i->ts[j]?=ξ t->¬En t (hs t x)) (λ_ _ _ _=>trivial) _ ?_ ?_ #[ψ,ψ,ψ,rfl,.refl,∅]]
 .rintro i u env S1 K hu ⟨x2,x3,x4,rfl,x1,inv⟩ hK
  let#[rfl,hi]:=o9 hu;have et:=ab hi;have hm:=cz hi;generalize ts[i]=t at et hm;let#[n0,pl,n1,sz,dt]:=zV hT hm;room;rw[x1.get gn,aB]
  rwa[at_of et #[#v[],#v[],?_]];have xa:Ext S (S1++[SO.lst [U.tup [enc t]]]):=x1.trans (Ext.app _);have ga:(S1++[SO.lst [U.tup [enc t]]])[S1.length]?=ξ (.lst [cL [t]]):=by simp;rfl
  generalize S1.length=m0 at ga;generalize S1++[SO.lst [U.tup [enc t]]]=S2 at xa ga;room;rwa[dy (λk env S3=>∃(m:Nat)(X:List U)(x4:Option U),env=[ξ (.loc n),ξ (.str x),ξ (aR i),ξ (.loc m),x4]/\Ext S S3/\S3[m]?=ξ (.lst X)/\Lv t (hs t (x.take k)) X) (λ_ _ _ _=>trivial) _ ?_ ?_ #[m0,_,x4,rfl,xa,ga,yr t]]
  .rintro k u env S3 K' hu ⟨m,X,x4,rfl,x3,g3,r3⟩ hK'
   let#[c,hc,rfl]:=dY hu;have Xl:=uU pl r3;room;rwa[ca h1 #[.loc m,c,X,t,_,n0,rfl,.inl #[m,rfl,g3],r3,pl,n1,dt,sz,∅,λm' Y S4 x4 g4 r4=>?_]];room;erw[hK' _ _ #[m',Y,_,rfl,x3.trans x4,g4,by rw[take_snoc hc,pP];exact r4]]
  .rintro env S3 ⟨m,X,x4,rfl,x3,g3,r3⟩
   rw[ae,bP] at r3;have Xl:=uU pl r3;room;rwa[ca h2 #[.loc m,X,t,_,rfl,.inl #[m,rfl,g3],r3,dt,sz,∅,λb S4 hb x4=>?_]];room;cases b with
   |true=>
    rw[if_pos rfl]
    room;erw[q (ξ i) S4 #[#[t,et,hb.mp rfl],inv] (x3.trans x4)]
   |false=>
    rw[if_neg (#v[])]
    room;rwa[hK _ _ #[_,_,_,rfl,x3.trans x4,λj t' hj e z=>?_]];by_cases y:j=i
    .subst y
     rw[et] at e;cases e;have:=hb.mpr z;simp at this
    .erw[inv j t' ∅ e z]
 .rintro env S1 ⟨x2,x3,x4,rfl,x1,inv⟩
  room;exact q ψ S1 (λi t e=>inv i t (by have:=aT e;simpa using this) e) x1
def Xa:hJ .ne (uN o) (uN o) S q=q ϑ:=by
 cases o with
 |none=>unfold uN;dsimp[Vj,Zh,Zk,true_and];rfl
 |some i=>unfold uN;dsimp[ON,Zg,MN,true_and,beq_self_eq_true,bH]
abbrev Ap(D:List Nat->Prop)(r:Nat)(y:List Nat):Prop:=∃w:List Nat,w.length<=r/\D (y++w)
abbrev Fs(P:Nat->Prop)(c:Nat):Prop:=∃i:Nat,SG[i]?=ξ c/\P c/\∀j c',j<i->SG[j]?=ξ c'->¬P c'
inductive Dw(D:List Nat->Prop)(r:Nat):List Nat->Prop
 |nil:Dw D r []
 |snoc{x:List Nat}{c:Nat}:Dw D r x->Fs (λc=>Ap D (r-1-x.length) (x++[c])) c->Dw D r (x++[c])
abbrev K0(D:List Nat->Prop):Option (List Nat)->Prop
 |none=>∀w,¬D w
 |some x=>Ap D x.length []/\(∀k,k<x.length->¬Ap D k [])/\Dw D x.length x
def Ti(h:Ap D 0 y):D y:=by
 let#[w,l,d]:=h;have:=dW (Nat.le_zero.mp l);subst this;rw[bT] at d;erw[d]
def Xb(h:K0 D (ξ x)):D x:=by
 let#[h1,_,h3]:=h;have aux:∀r x,Dw D r x->x.length=r->Ap D r []->D x:=by
  intro r x h;cases h with
  |nil=>intro e a;cases e;erw[Ti a]
  |snoc k1 k2=>
   rename_i x c;intro e _;let#[i,_,p,_]:=k2;have z:r-1-x.length=0:=by simp at e;omega
   have p':Ap D (r-1-x.length) (x++[c]):=p;rw[z] at p';erw[Ti p']
 erw[aux _ _ h3 rfl h1]
def Xc(hD:∀w,D w->∀c∈w,c∈SG):Ap D (k+1) y↔Ap D k y\/∃c,c∈SG/\Ap D k (y++[c]):=by
 constructor
 .rintro⟨w,l,d⟩
  cases w with
  |nil=>erw[.inl #[[],bJ _,d]]
  |cons c w=>
   rwa[.inr #[c,hD _ d c (#v[]),w,Nat.le_of_succ_le_succ l,?_]];rw[bx];erw[d]
 .rintro(⟨w,l,d⟩|⟨c,_,w,l,d⟩)
  .exact#[w,jU l,d]
  .refine#[c::w,cB l,?_]
   rw[bx] at d;erw[d]
section
variable{told:List (Option Nat)}{g:Nat->Nat->Nat}{p q:Nat}{D:List Nat->Prop}
def tQ(hD:∀w,D w↔(∀c∈w,c∈SG)/\told[w.foldl g p]?≠told[w.foldl g q]?):∀(k:Nat)(y:List Nat),(∀c∈y,c∈SG)->(Eqv told g k (y.foldl g p) (y.foldl g q)↔¬Ap D k y)
 |0,y,hy=>by
  constructor
  .intro e a
   exact((hD y).mp (Ti a)).2 e
  .intro n
   rwa[eT λz=>n #[[],aq _,?_]]
   rw[bT]
   exact(hD y).mpr #[hy,z]
 |k+1,y,hy=>by
  have sg:∀c,c∈SG->∀c'∈y++[c],c'∈SG:=λc hc c' m=>by
   rcases aL.mp m with m|m
   .erw[hy _ m]
   .have:c'=c:=by simpa using m
    rw[this];erw[hc]
  have st:∀c r,(y++[c]).foldl g r=g (y.foldl g r) c:=λc r=>by rw[d6];rfl
  rw[Xc λw h=>((hD w).mp h).1]
  constructor
  .rintro⟨e1,e2⟩ (a|⟨c,hc,a⟩)
   .exact(tQ hD k y hy).mp e1 a
   .refine(tQ hD k (y++[c]) (sg c hc)).mp ?_ a
    rw[st,st];erw[e2 c hc]
  .intro n
   refine#[(tQ hD k y hy).mpr λa=>n (.inl a),λc hc=>?_];have:=(tQ hD k (y++[c]) (sg c hc)).mpr λa=>n (.inr #[c,hc,a])
   rw[st,st] at this;erw[this]
def wB(hc:∀j c,j<N->c∈SG->g j c<N)(h:∀i j,i<N->j<N->Eqv told g m i j->Eqv told g (m+1) i j):∀k i j,i<N->j<N->Eqv told g m i j->Eqv told g (m+k) i j
 |0,_,_,_,_,e=>e
 |k+1,i,j,hi,hj,e=>#[wB hc h k i j hi hj e,λc m'=>wB hc h k _ _ (hc i c hi m') (hc j c hj m') ((h i j hi hj e).2 c m')]
end
abbrev gJ(n:Nat)(g1 g2:Nat->Nat->Option Nat)(j c:Nat):Option Nat:=if j<n then g1 j c else(g2 (j-n) c).map (·+n)
def BQ{go:Nat->Nat->Option Nat}:∀w:List Nat,w.foldl (λs c=>s.bind λj=>go j c) ψ=ψ
 |[]=>rfl
 |_::w=>BQ w
def wQ(h:∀c,f N c=N):∀w:List Nat,w.foldl f N=N
 |[]=>rfl
 |c::w=>%[lh,h|wQ h w]
def z8{f:Nat->Nat->Nat}{N n:Nat}{e:Nat->Nat}{go:Nat->Nat->Option Nat}(hN:∀c,f N c=N)(cl:∀j c k,c∈SG->go j c=ξ k->k<n)(hf:∀j c,j<n->f (e j) c=((go j c).map e).getD N):∀(w:List Nat)(j:Nat),j<n->(∀c∈w,c∈SG)->(w.foldl (λs c=>s.bind λj=>go j c) (ξ j)=ψ/\w.foldl f (e j)=N)\/∃k,k<n/\w.foldl (λs c=>s.bind λj=>go j c) (ξ j)=ξ k/\w.foldl f (e j)=e k
 |[],j,hj,_=>.inr #[j,hj,rfl,rfl]
 |c::w,j,hj,hw=>by
  rw[lh,lh,hf j c hj]
  show(w.foldl _ (go j c)=ψ/\_)\/∃k,k<n/\w.foldl _ (go j c)=ξ k/\_
  cases h:go j c with
  |none=>erw[.inl #[BQ w,wQ hN w]]
  |some k=>erw[z8 hN cl hf w k (cl j c k (hw c (#v[])) h) λc' m=>hw c' (ay _ m)]
section
variable{t1 t2:List (Option Nat)}{g1 g2:Nat->Nat->Option Nat}
def gd'{t:List (Option Nat)}{j:Nat}(h:j<t.length):t[j]?=ξ (t.getD j ψ):=by rw[bb,ab h];rfl
def Xd(z2:∀j c,t2.length<=j->g2 j c=ψ)(c:Nat):gN (t1.length+t2.length) (gJ t1.length g1 g2) (t1.length+t2.length) c=t1.length+t2.length:=by
 unfold gN gJ;rw[if_neg ∅,z2 _ _ ∅];rfl
def Xe(c1:∀j c k,c∈SG->g1 j c=ξ k->k<t1.length)(z2:∀j c,t2.length<=j->g2 j c=ψ)(h1:0<t1.length){w:List Nat}(hw:∀c∈w,c∈SG):(t1++t2++[ψ])[w.foldl (gN (t1.length+t2.length) (gJ t1.length g1 g2)) 0]?=ξ (fst t1 g1 w):=by
 rcases z8 (e:=id) (Xd (g1:=g1) z2) c1 (λj c hj=>by show gN _ _ j c=_;unfold gN gJ;rw[if_pos hj];cases g1 j c<;>rfl) w 0 h1 hw with⟨a,b⟩|⟨k,hk,a,b⟩
 .have b':w.foldl (gN (t1.length+t2.length) (gJ t1.length g1 g2)) 0=t1.length+t2.length:=b
  rw[b'];unfold fst Cc;rw[a,<-aj];simp
 .have b':w.foldl (gN (t1.length+t2.length) (gJ t1.length g1 g2)) 0=k:=b
  rw[b'];unfold fst Cc;rw[a,bx,ao hk];erw[gd' hk]
def Xf(c2:∀j c k,c∈SG->g2 j c=ξ k->k<t2.length)(z2:∀j c,t2.length<=j->g2 j c=ψ)(h2:0<t2.length){w:List Nat}(hw:∀c∈w,c∈SG):(t1++t2++[ψ])[w.foldl (gN (t1.length+t2.length) (gJ t1.length g1 g2)) t1.length]?=ξ (fst t2 g2 w):=by
 have r:=z8 (e:=(·+t1.length)) (Xd (t1:=t1) (g1:=g1) z2) c2 (λj c hj=>by show gN _ _ (j+t1.length) c=_;unfold gN gJ;rw[if_neg ∅,sI]) w 0 h2 hw;rw[lR] at r;rcases r with⟨a,b⟩|⟨k,hk,a,b⟩
 .rw[b];unfold fst Cc;rw[a,<-aj];simp
 .rw[b];unfold fst Cc;rw[a,bx,ax ∅,sI,ao hk];erw[gd' hk]
def Pj(c1:∀j c k,c∈SG->g1 j c=ξ k->k<t1.length)(c2:∀j c k,c∈SG->g2 j c=ξ k->k<t2.length)(j c:Nat)(hc:c∈SG):gN (t1.length+t2.length) (gJ t1.length g1 g2) j c<(t1++t2++[ψ]).length:=by
 have l:(t1++t2++[ψ]).length=t1.length+t2.length+1:=by rw[aj,aj];rfl
 rw[l]
 unfold gN gJ;split
 .cases e:g1 j c with
  |none=>erw[b9 _]
  |some k=>have:=c1 j c k hc e;erw[av this ∅]
 .cases e:g2 (j-t1.length) c with
  |none=>erw[b9 _]
  |some k=>have:=c2 _ c k hc e;show k+t1.length<_;omega
end
abbrev DF(ts ts':List Tr)(w:List Nat):Prop:=(∀c∈w,c∈SG)/\∃o o',z7 ts w o/\z7 ts' w o'/\o≠o'
def Xg{ts ts':List Tr}{f f':List Nat->Option Nat}(h:∀w,(∀c∈w,c∈SG)->z7 ts w (f w))(h':∀w,(∀c∈w,c∈SG)->z7 ts' w (f' w))(w:List Nat):DF ts ts' w↔(∀c∈w,c∈SG)/\f w≠f' w:=
 #[λ⟨k,o,o',a,b,c⟩=>#[k,%[u5 (h w k) a,u5 (h' w k) b|c]],λ⟨k,c⟩=>#[k,_,_,h w k,h' w k,c]]
open PL.Lp
def K1:∀l:List Nat,(∃c∈l,p c=ζ)->∃(c:Nat)(r:List Nat)(i:Nat),l.filter p=c::r/\l[i]?=ξ c/\p c=ζ/\∀j c',j<i->l[j]?=ξ c'->¬p c'=ζ
 |[],h=>by let#[c,m,_]:=h;cases m
 |a::l,h=>by
  by_cases z:p a=ζ
  .exact#[a,l.filter p,0,by rw[iN,if_pos z],rfl,z,λj c' hj=>absurd hj (cX _)]
  .let#[c,m,hc]:=h
   have m':c∈l:=by
    rcases aN.mp m with e|e
    .rw[e] at hc;erw[absurd hc z]
    .erw[e]
   let#[c',r,i,e1,e2,e3,e4]:=K1 l #[c,m',hc];refine#[c',r,i+1,%[iN,if_neg z|e1],e2,e3,λj d hj e=>?_];cases j with
   |zero=>
    have:a=d:=by simpa using e
    rw[<-this];erw[z]
   |succ j=>erw[e4 j d (Nat.lt_of_succ_lt_succ hj) e]
def tR(p:Nat->Bool)(hg:g S)(he:∀n k,k (.str [n]) S->e (.str [n]) S k):
  ∀(l:List Nat)(acc:List U),(∀n∈l,∀k,k (p n) S->c (.str [n]) S k)->acc.length+l.length<1000000->Q (acc++(l.filter p).map lg) S->mY g c e Q (l.map λn=>.str [n]) acc S
 |[],acc,_,hl,q=>#[hg,~~~hl,~~~q]
 |n::l,acc,hc,hl,q=>by
  dsimp[aU] at hl;refine#[hg,∅,hc n (#v[]) _ ?_];have hc':∀m∈l,∀k,k (p m) S->c (.str [m]) S k:=λm h=>hc m (ay _ h)
  by_cases h:p n=ζ
  .rw[h]
   rwa[he n _ ?_];rwa[tR p hg he l _ hc' ((·)) ?_];rw[iN,if_pos h] at q;simpa[lg] using q
  .rw[eP] at h
   rw[h]
   rwa[tR p hg he l _ hc' ∅ ?_];rw[iN,if_neg (by rw[h];decide)] at q;erw[q]
def two_le:[a,b].length<=1000000:=by show 2<=1000000;decide
abbrev Tj:Spec:=λus S Q=>∃(n i j:Nat)(b:List Nat),us=[.loc n,.tup [aR i,aR j]]/\S[n]?=ξ (.lst (b.map aR))/\i<b.length/\j<b.length/\Q (.bl (!(b.getD i 0==b.getD j 0))) S
def Tn(h:q (!(a==b))):hJ .ne (aR a) (aR b) S q:=by
 show hJ .ne (.int _) (.int _) S q
 rw[ON]
 refine#[rfl,?_];rw[MN]
 have:(((a:Nat):Int)== ((b:Nat):Int))=(a==b):=by
  rw[dv,beq_iff_eq,beq_iff_eq];omega
 rw[this];erw[h]
def Xh(Γ:bY):Keeps Γ mm 0 Tj:=by
 rintro us S Q ⟨n,i,j,b,rfl,h,hi,hj,q⟩;unfold mm;room;refine#[two_le,?_];show Ek (.loc n) (.int ((i:Nat):Int)) S _;rw[IP,h,aB]
 rwa[tP hi #[two_le,?_]];show Ek (.loc n) (.int ((j:Nat):Int)) S _;rw[IP,h,aB]
 erw[tP hj (Tn q)]
abbrev K2:Spec:=λus S Q=>∃(n i j c:Nat)(ls:List Nat)(g:Nat->Nat->Nat),us=[.loc n,.tup [aR i,aR j],.str [c]]/\Rw S n ls g/\i<ls.length/\j<ls.length/\c∈SG/\Q (.tup [aR (g i c),aR (g j c)]) S
def Pk(R:Rw S n ls g)(hi:i<ls.length)(hc:c∈SG)(q:r (aR (g i c))):Ek (.loc n) (aR i) S λv=>MD v (.str [c]) S r:=by
 show Ek (.loc n) (.int ((i:Nat):Int)) S _
 rw[IP,R.l,aB]
 have e:ls[i]?=ξ ls[i]:=ab hi;rwa[at_of e ?_];rw[Vn,R.d _ _ e]
 refine#[rfl,?_];rw[wy hc]
 erw[q]
def Xi(Γ:bY):Keeps Γ i3 0 K2:=by
 rintro us S Q ⟨n,i,j,c,ls,g,rfl,R,hi,hj,hc,q⟩;unfold i3;room;exact#[two_le,Pk R hi hc #[two_le,Pk R hj hc #[two_le,q]]]
abbrev Oi:Spec:=λus S Q=>∃(nb nr i j:Nat)(b ls:List Nat)(g:Nat->Nat->Nat),us=[.loc nb,.loc nr,.tup [aR i,aR j]]/\S[nb]?=ξ (.lst (b.map aR))/\Rw S nr ls g/\i<ls.length/\j<ls.length/\(∀c∈SG,g i c<b.length/\g j c<b.length)/\(∃c∈SG,b.getD (g i c) 0≠b.getD (g j c) 0) /\
 ∀c S',Fs (λc=>b.getD (g i c) 0≠b.getD (g j c) 0) c->Ext S S'->Q (.str [c]) S'
def Xj(Γ:bY)(h1:Γ "are_apart"=Tj)(h2:Γ "states_behind"=K2):Keeps Γ k6 0 Oi:=by
 rintro us S Q ⟨nb,nr,i,j,b,ls,g,rfl,hb,R,hi,hj,hg,⟨c0,m0,n0⟩,q⟩;unfold k6 pSa;let#[c,r,i0,e1,e2,e3,e4]:=K1 (p:=λc=>!(b.getD (g i c) 0==b.getD (g j c) 0)) SG #[c0,m0,~~~n0];have gl:SG.length=95:=rfl;have hF:Fs (λc=>b.getD (g i c) 0≠b.getD (g j c) 0) c:=#[i0,e2,~~~e3,λj' c' a d=>by have:=e4 j' c' a d;simpa using this]
 have hR:∀c∈SG,∀(k:KU),k (.bl (!(b.getD (g i c) 0==b.getD (g j c) 0))) S->Γ "states_behind" [.loc nr,.tup [aR i,aR j],.str [c]] S (λu S1=>Γ "are_apart" [.loc nb,u] S1 k):=λc hc k z=>by
  rw[h2]
  refine#[nr,i,j,c,ls,g,rfl,R,hi,hj,hc,?_];rw[h1]
  exact#[nb,_,_,b,rfl,hb,(hg c hc).1,(hg c hc).2,z]
 generalize SG=G at *;room;rwa[tR (λc=>!(b.getD (g i c) 0==b.getD (g j c) 0)) trivial (λ_ _ z=>z) G [] (λn hn k z=>hR n hn _ z) (by rw[gl];decide) ?_];rw[e1]
 have x:Ext S (S++[SO.lst ([]++(c::r).map lg)]):=Ext.app _;rw[show(S++[SO.lst ([]++(c::r).map lg)])[S.length]?=ξ (SO.lst ((c::r).map lg)) by simp,aB]
 erw[at_of (f:=lg) (l:=c::r) (j:=0) rfl (q c _ hF x)]
abbrev uS:Option (List Nat)->U
 |none=>.b7
 |some x=>.str x
def To(h:∀c∈SG,P c↔P' c)(f:Fs P c):Fs P' c:=by
 let#[i,e,a,n]:=f;exact#[i,e,(h c (ah e)).mp a,λj c' hj e' z=>n j c' hj e' ((h c' (ah e')).mpr z)]
def fold_lt(hc:∀j c,j<N->c∈SG->g j c<N):∀(w:List Nat)(p:Nat),p<N->(∀c∈w,c∈SG)->w.foldl g p<N
 |[],_,hp,_=>hp
 |c::w,p,hp,hw=>fold_lt hc w _ (hc p c hp (hw c (#v[]))) λc' m=>hw c' (ay _ m)
def E7(h:∀c∈x,c∈SG)(hc:c∈SG):∀c'∈x++[c],c'∈SG:=λc' m=>by
 rcases aL.mp m with m|m
 .erw[h _ m]
 .have:c'=c:=by simpa using m
  rw[this];erw[hc]
abbrev Xk:Spec:=λus S Q=>∃(F nr p q:Nat)(fs ls:List Nat)(g:Nat->Nat->Nat)(told:List (Option Nat))(D:List Nat->Prop),us=[.loc F,.loc nr,.tup [aR p,aR q]]/\S[F]?=ξ (.lst (fs.map .loc))/\KR told g S fs/\Rw S nr ls g/\told.length=ls.length/\ls.length<=9000/\(∀j c,j<told.length->c∈SG->g j c<told.length)/\p<told.length/\q<told.length/\(∀w,D w↔(∀c∈w,c∈SG)/\told[w.foldl g p]?≠told[w.foldl g q]?) /\
 ∀res S',K0 D res->(∀x,res=ξ x->x.length<=9000)->Ext S S'->Q (uS res) S'
structure TaI(D:List Nat->Prop)(k i:Nat)(x:List Nat):Prop where
 l:x.length=i
 w:Dw D k x
 s:∀c∈x,c∈SG
 a:Ap D (k-i) x
def Oj(Γ:bY)(h2:Γ "states_behind"=K2)(h3:Γ "sign_apart"=Oi){S:bG}{nr p q k i n:Nat}{fs ls x:List Nat}{g:Nat->Nat->Nat}{told:List (Option Nat)}{D:List Nat->Prop}{y0 y2 y3:Option U}{K:Env->bG->Prop}{Q:KU}(kl:k<=9001)(Rs:KR told g S fs)(R:Rw S nr ls g)(tl:told.length=ls.length)(hc:∀j c,j<told.length->c∈SG->g j c<told.length)(hp:p<told.length)(hq:q<told.length)(hD:∀w,D w↔(∀c∈w,c∈SG)/\told[w.foldl g p]?≠told[w.foldl g q]?)(mn:∀j,j<k->¬Ap D j [])(hi:i<k)(hn:fs[k-1-i]?=ξ n)(I:TaI D k i x)
  (z:∀S' x',Ext S S'->TaI D k (i+1) x'->K [y0,ξ (.loc nr),y2,y3,ξ (.str x'),ξ (.tup [aR (x'.foldl g p),aR (x'.foldl g q)]),ξ (.loc n)] S'):
  Rest Γ X9 #[K,Q] [y0,ξ (.loc nr),y2,y3,ξ (.str x),ξ (.tup [aR (x.foldl g p),aR (x.foldl g q)]),ξ (.loc n)] S:=by
 let#[b,e1,e2]:=Rs.r _ _ hn;have ek:k-i=(k-1-i)+1:=∅
 have P:=fold_lt hc x p hp I.s;have P':=fold_lt hc x q hq I.s;have st:∀c r,(x++[c]).foldl g r=g (x.foldl g r) c:=λc r=>by rw[d6];rfl
 have key:∀c∈SG,(b.getD (g (x.foldl g p) c) 0≠b.getD (g (x.foldl g q) c) 0)↔Ap D (k-1-i) (x++[c]):=λc m=>by
  have a1:=e2.iff _ _ (hc _ c P m) (hc _ c P' m);have a2:=tQ hD (k-1-i) (x++[c]) (E7 I.s m);rw[st,st] at a2;rw[Ne,a1,a2]
  exact#[λh=>eT h,λh h'=>h' h]
 have ex:∃c∈SG,b.getD (g (x.foldl g p) c) 0≠b.getD (g (x.foldl g q) c) 0:=by
  have a:=I.a;rw[ek,Xc λw h=>((hD w).mp h).1] at a;rcases a with⟨w,wl,d⟩|⟨c,m,a⟩
  .erw[absurd #[x++w,by rw[aj,I.l];omega,d] (mn (k-1) ∅)]
  .exact#[c,m,(key c m).mpr a]
 unfold X9;room;rwa[ca h3 #[n,nr,_,_,b,ls,g,rfl,e1,R,by rw[<-tl];erw[P],by rw[<-tl];erw[P'],λc m=>by rw[e2.len];exact#[hc _ c P m,hc _ c P' m],ex,λc S1 f x1=>?_]];have m:c∈SG:=let ⟨_,e,_⟩:=f;ah e;have f':=To key f;room;have xl:=I.l;refine#[by rw[xl];show i+1<=1000000;omega,?_];room;refine#[by rw[aj,xl];show i+1<=1000000;omega,?_];rw[show(-1:Int)= -1 from rfl,uZ]
 rwa[ca h2 #[nr,_,_,c,ls,g,rfl,R.ext x1,by rw[<-tl];erw[P],by rw[<-tl];erw[P'],m,?_]];room;rw[<-st,<-st]
 rwa[z S1 (x++[c]) x1 #[by rw[aj,xl];rfl,.snoc I.w (%[xl|f']),E7 I.s m,?_]];rw[show k-(i+1)=k-1-i by omega]
 exact(key c m).mp (let ⟨_,_,a,_⟩:=f;a)
def w_rev{Γ:bY}{e:Ex}{env:Env}{S:bG}{R:List U->(bG->Prop)->bG->Prop}:WI Γ (.rev e) env S R=WE Γ e env S (λx S1=>sE x λn=>getL S1[n]? λus=>R us.reverse (λS'=>S'[n]?=ξ (.lst us)) S1):=rfl
def Ol{l:List U}{k:Nat}:qF l ψ (ξ (k:Int))=l.take k:=by
 unfold qF;dsimp[j6,eI,fG,show(0:Int).toNat=0 from rfl,Nat.zero_min,jO,Ct];rcases Nat.le_total k l.length with h|h
 .rw[wO h]
 .rw[vd h,jP h,bP]
def aaC{n k:Nat}{us:List U}{S:bG}{Q:KU}(h:S[n]?=ξ (.lst us))(q:Q (.loc S.length) (S++[.lst (us.take k)])):QC (.loc n) ψ (ξ (k:Int)) S Q:=by
 refine#[#[λi h=>(by cases h),λi h=>?_],?_]
 .injection h with h;rw[<-h];erw[Hm _]
 .show getL S[n]? _
  rw[h,aB,Ol];erw[q]
def Om(Γ:bY)(h2:Γ "states_behind"=K2)(h3:Γ "sign_apart"=Oi){S:bG}{F nr p q k:Nat}{fs ls:List Nat}{g:Nat->Nat->Nat}{told:List (Option Nat)}{D:List Nat->Prop}{Q:KU}(fl:fs.length<=9001)(kl:k<fs.length)(hF:S[F]?=ξ (.lst (fs.map .loc)))(Rs:KR told g S fs)(R:Rw S nr ls g)(tl:told.length=ls.length)(hc:∀j c,j<told.length->c∈SG->g j c<told.length)(hp:p<told.length)(hq:q<told.length)(hD:∀w,D w↔(∀c∈w,c∈SG)/\told[w.foldl g p]?≠told[w.foldl g q]?)(mn:∀j,j<k->¬Ap D j [])(ap:Ap D k [])
  (z:∀x S',K0 D (ξ x)->x.length<=9000->Ext S S'->Q (.str x) S'):
  Rest Γ (.cons (.set 4 (.lit (.str []))) (.cons (.set 5 @2) (.cons (.iu (.name 6) (.rev (.sl @0 .no (.e @3))) X9) (.cons (.ret @4) .nil)))) #[λ_ S1=>Q .b7 S1,Q] [ξ (.loc F),ξ (.loc nr),ξ (.tup [aR p,aR q]),ξ (aR k),ψ,ψ,ψ] S:=by
 room;rw[w_rev]
 room;rwa[aaC hF ?_];rw[<-List.map_take]
 have x1:Ext S (S++[SO.lst ((fs.take k).map U.loc)]):=Ext.app _;have g1:(S++[SO.lst ((fs.take k).map U.loc)])[S.length]?=ξ (.lst ((fs.take k).map U.loc)):=by simp
 generalize S.length=n1 at g1;generalize S++[SO.lst ((fs.take k).map U.loc)]=S1 at x1 g1;show getL S1[n1]? _;rw[g1,aB,<-List.map_reverse]
 have rs:∀S2,Ext S S2->KR told g S2 fs:=λS2 x=>#[λk n e=>let ⟨b,a,c⟩:=Rs.r k n e;#[b,x.get a,c],Rs.ne,Rs.st,Rs.le]
 rwa[dy (λi env S2=>Ext S1 S2/\∃(x:List Nat)(y:Option U),TaI D k i x/\env=[ξ (.loc F),ξ (.loc nr),ξ (.tup [aR p,aR q]),ξ (aR k),ξ (.str x),ξ (.tup [aR (x.foldl g p),aR (x.foldl g q)]),y]) (λi env S2 h=>h.1.get g1) _ ?_ ?_ #[.refl,[],ψ,#[rfl,.nil,λc m=>(by cases m),%[Ct|ap]],rfl]]
 .rintro i u env S2 K hu ⟨x2,x,y,I,rfl⟩ hK
  let#[n,en,rfl]:=dY hu;have hi:i<k:=by
   have:=(ag.mp en).1;rw[Fu,cx] at this;erw[av this (Nat.min_le_left _ _)]
  have tk:(fs.take k).length=k:=by rw[cx];omega
  rw[Cp (%[tk|hi]),tk,List.getElem?_take,if_pos ∅] at en;erw[Oj Γ h2 h3 (k:=k) ∅ (rs S2 (x1.trans x2)) (R.ext (x1.trans x2)) tl hc hp hq hD mn hi en I λS3 x' x3 I'=>hK _ _ #[x2.trans x3,x',_,I',rfl]]
 .rintro env S2 ⟨x2,x,y,I,rfl⟩
  have tk:((fs.take k).reverse.map U.loc).length=k:=by rw[ae,Fu,cx];omega
  rw[tk] at I;room;have xl:=I.l;erw[z x S2 #[by rw[xl];exact ap,λj hj=>mn j ∅,by rw[xl];exact I.w] ∅ (x1.trans x2)]
def Xm(Γ:bY)(h1:Γ "are_apart"=Tj)(h2:Γ "states_behind"=K2)(h3:Γ "sign_apart"=Oi):Keeps Γ k5 4 Xk:=by
 rintro us S Q ⟨F,nr,p,q,fs,ls,g,told,D,rfl,hF,Rs,R,tl,ll,hc,hp,hq,hD,z⟩;have fl:fs.length<=9001:=aF Rs.le ∅;have ap:∀k,Eqv told g k p q↔¬Ap D k []:=λk=>tQ hD k [] (λc m=>by cases m)
 unfold k5;room;refine#[fs.length+1,mw (λN env S1=>∃k,N=fs.length-k/\k<=fs.length/\(∀i,i<k->¬Ap D i [])/\S1=S/\env=[ξ (.loc F),ξ (.loc nr),ξ (.tup [aR p,aR q]),ξ (aR k),ψ,ψ,ψ]) ?_ _ fs.length _ _ (b9 _) #[0,rfl,bJ _,λi hi=>absurd hi (cX _),rfl,rfl]];rintro N env S1 K ⟨k,rfl,kl,inv,rfl,rfl⟩ hK;room;rw[kr hF,aW,ae]
 refine#[∅,?_];by_cases hk:k<fs.length
 .have e1:decide ((k:Int)<(fs.length:Int))=ζ:=by rw[decide_eq_true_iff];omega
  rw[if_pos e1,hF,aB]
  have en:fs[k]?=ξ fs[k]:=ab hk;rwa[at_of en ?_];let#[b,eb,rb]:=Rs.r _ _ en;rwa[ca h1 #[_,p,q,b,rfl,eb,%[rb.len|hp],%[rb.len|hq],?_]];have key:=(rb.iff p q hp hq).trans (ap k);by_cases e2:b.getD p 0=b.getD q 0
  .have e3:(b.getD p 0==b.getD q 0)=ζ:=%[beq_iff_eq|e2]
   rw[e3]
   room;have e4:U.int ((k:Int)+1)=aR (k+1):=rfl;rw[e4]
   exact hK (fs.length-(k+1)) _ _ ∅ #[k+1,rfl,hk,λi hi=>by
    rcases jk.mp hi with h|h
    .erw[inv i h]
    .rw[h];erw[key.mp e2],rfl,rfl]
  .have e3:(b.getD p 0==b.getD q 0)=ϑ:=%[beq_eq_false_iff_ne|e2]
   rw[e3]
   room;rw[kr hF,aW,ae]
   refine#[∅,?_];have e5:¬((k:Int)== (fs.length:Int))=ζ:=by rw[beq_iff_eq];omega
   rw[if_neg e5]
   rwa[Rest.go ?_];dsimp[Es];erw[Om Γ h2 h3 fl hk hF Rs R tl hc hp hq hD inv (eT λh=>e2 (key.mpr h)) λx S' d l x'=>z (ξ x) S' d (λy e=>by cases e;exact l) x']
 .have e1:¬decide ((k:Int)<(fs.length:Int))=ζ:=by rw[decide_eq_true_iff];omega
  rw[if_neg e1]
  room;rw[kr hF,aW,ae]
  refine#[∅,?_];have ek:k=fs.length:=∅
  have e5:((k:Int)== (fs.length:Int))=ζ:=by rw[beq_iff_eq];omega
  rw[if_pos e5]
  room;rwa[z ψ S1 (λw d=>?_) (λy e=>by cases e) .refl];have f0:0<fs.length:=qT.mpr Rs.ne;have e6:fs.length-1+1=fs.length:=∅
  have e7:=(ap (fs.length-1)).mpr (inv _ ∅);have e8:=wB (m:=fs.length-1) hc (%[e6|Rs.st]) w.length p q hp hq e7;exact(ap _).mp e8 #[w,Nat.le_add_left _ _,d]
def Tp{Γ:bY}{S:bG}{d N:Nat}{f:Nat->Option Nat}{k:KU}(hd:S[d]?=ξ (.eh (sD (dh SG f)))\/S[d]?=ξ (.qD (sD (dh SG f))))
  (q:∀m S',Ext (S.set d (.qD (sD (dh SG f)))) S'->S.length<=m->S'[m]?=ξ (.eh (sD (dh SG λc=>(f c).map λk=>k+N)))->k (.loc m) S'):WE Γ ZS [ξ (.loc d),ξ (aR N)] S k:=by
 unfold ZS;have gl:SG.length=95:=rfl;have nd:=DO;let#[ps,e1,e2,e3,e4,e5]:=z6 f (λk=>k+N) SG;have lk:∀p∈ps,uK (.str [p.1]) (sD (dh SG f))=ξ (aR p.2):=λp m=>by rw[E1,wz,if_pos (e3 p m).1,(e3 p m).2];rfl
 rw[e2] at q;have ey:(sD (dh SG f)).map (·.1)=ps.map λp=>U.str [p.1]:=by rw[e1];unfold sD;simp[cH]
 have nd':=e4 nd;generalize dh SG f=rw0 at *;room;have e0:∀R,jv S[d]? R=R (sD rw0):=λR=>by rcases hd with h|h<;>rw[h]<;>rfl
 rw[e0,ey]
 have dl:d<S.length:=by rcases hd with h|h<;>exact aT h
 have g1:(S.set d (.qD (sD rw0)))[d]?=ξ (.qD (sD rw0)):=bA dl;have l1:(S.set d (.qD (sD rw0))).length=S.length:=b8;generalize S.set d (.qD (sD rw0))=S1 at g1 q l1;rwa[iD (S:=S1) _ (ps.map λp=>.tup [.str [p.1],aR (p.2+N)]) (#v[]) ((·)) (λS' x=>x.get g1) (λu S' k h=>h) (λj u v hu hv S2 k x' hk=>?_) λS2 x'=>?_]
 .rw[aC] at hu hv
  let#[p,hp,rfl]:=au.mp hu;rw[hp] at hv;have hv:U.tup [.str [p.1],aR (p.2+N)]=v:=by simpa using hv
  subst hv;have m:=ah hp;rw[x'.get g1]
  refine#[rfl,?_];rw[lk p m]
  exact#[two_le,hk S2 .refl]
 .refine#[ps.map λp=>([p.1],aR (p.2+N)),by simp[cH],?_,?_]
  .rw[bw]
   show(ps.map λp=>[p.1]).Nodup
   have e:(ps.map λp=>[p.1])=(ps.map (·.1)).map λc=>[c]:=by rw[bw];rfl
   rw[e]
   erw[oN _ (λa b h z=>h (He z).1) nd']
  .erw[q _ _ (x'.trans ((Ext.app _).trans (Ext.app _))) (by have:=x'.1;rw[aj];omega) (by rw[ax (aq _),bL];rfl)]
abbrev Xn:Spec:=λus S Q=>∃(n N:Nat)(ls:List Nat)(go:Nat->Nat->Option Nat),us=[.loc n,aR N]/\Rp S n ls go/\ls.length<=5000/\∀(m:Nat)(S':bG)(ms:List Nat),Kp ls S S'->ms.length=ls.length->S'[m]?=ξ (.lst (ms.map .loc))->(∀(j d:Nat),ms[j]?=ξ d->S'[d]?=ξ (.eh (sD (dh SG λc=>(go j c).map λk=>k+N))))->Q (.loc m) S'
structure MvI(S:bG)(n N:Nat)(ls:List Nat)(go:Nat->Nat->Option Nat)(i:Nat)(ms:List Nat)(S1:bG):Prop where
 k:Kp ls S S1
 l:ms.length=i
 o:∀(j d:Nat),ls[j]?=ξ d->S1[d]?=ξ (.eh (sD (dh SG (go j))))\/S1[d]?=ξ (.qD (sD (dh SG (go j))))
 d:∀(j d:Nat),ms[j]?=ξ d->S.length<=d/\S1[d]?=ξ (.eh (sD (dh SG λc=>(go j c).map λk=>k+N)))
def Xo(Γ:bY):Keeps Γ uP 0 Xn:=by
 rintro us S Q ⟨n,N,ls,go,rfl,R,hl,q⟩;unfold uP;have lo:∀(j d:Nat),ls[j]?=ξ d->d<S.length:=λj d e=>aT (R.d j d e)
 have nn:n∉ls:=λh=>by
  let#[j,e]:=bj h;have:=R.d j n e;rw[R.l] at this;cases this
 room;rw[R.l,aB]
 refine fO (ls.map U.loc) (λi acc S1=>∃ms:List Nat,acc=ms.map .loc/\MvI S n N ls go i ms S1) (λi acc S1 hi h=>?_) (λi u acc S1 k hu hi hk=>?_) (λacc S1 h=>?_) #[[],rfl,.refl,rfl,λj d e=>.inl (R.d j d e),λj d e=>by simp at e]
 .let#[ms,rfl,I]:=h
  rw[ae] at hi;exact#[I.k.get R.l nn,by rw[ae,I.l];omega]
 .let#[ms,rfl,I]:=hi
  let#[d,ed,rfl]:=dY hu;rwa[Tp (I.o i d ed) λm S2 x2 ml g2=>?_]
  have mX:=ah ed;have dl:=lo i d ed;have kl:S.length<=S1.length:=I.k.1;have ne:∀{a:Nat}{o:SO},a≠d->S1[a]?=ξ o->S2[a]?=ξ o:=λ{a o}h e=>x2.get (%[ak (cJ h)|e])
  have g3:S2[d]?=ξ (.qD (sD (dh SG (go i)))):=x2.get (bA (av dl kl));rwa[hk _ _ #[ms++[m],by rw[aG];rfl,I.k.trans ((Kp.set mX).trans (Ext.kp x2)),by rw[aj,I.l];rfl,λj d' e=>?_,λj d' e=>?_]]
  .by_cases h:d'=d
   .subst h
    have a:=I.o i d' ed;have b:=I.o j d' e;have:sD (dh SG (go i))=sD (dh SG (go j)):=by
     rcases a with a|a<;>rcases b with b|b<;>rw[a] at b<;>injection b with b<;>first| (injection b with b)|cases b
    erw[.inr (by rw[<-this];exact g3)]
   .exact(I.o j d' e).imp (ne h) (ne h)
  .rcases sk e with e|⟨rfl,rfl⟩
   .have z:=I.d j d' e
    exact#[z.1,ne (dw (av dl z.1)) z.2]
   .rw[I.l]
    exact#[aF kl ml,g2]
 .let#[ms,rfl,I]:=h
  have x:=Ext.app (S:=S1) [SO.lst (ms.map U.loc)];exact q _ _ ms (I.k.trans (Ext.kp x)) (by have:=I.l;rw[ae] at this;erw[this]) (#v[]) λj d e=>x.get (I.d j d e).2
abbrev Xp:Spec:=λus S Q=>∃(T k R:Nat)(told:List (Option Nat)),us=[.loc T]/\S[T]?=ξ (Oa k told R)/\told.length<=1000000/\Q (aR told.length) S
def Xq(Γ:bY):Keeps Γ kZ 0 Xp:=by
 rintro us S Q ⟨T,k,R,told,rfl,h,hl,q⟩;unfold kZ;room;rw[KW h]
 room;try rw[ae]
 exact#[hl,q]
abbrev Oo:Spec:=λus S Q=>∃(n n':Nat)(xs xs':List (List Nat))(ts ts':List Tr),us=[.loc n,.loc n']/\S[n]?=ξ (.lst (xs.map .str))/\S[n']?=ξ (.lst (xs'.map .str))/\Wr ts xs/\lI ts/\dX ts<=10/\Wr ts' xs'/\lI ts'/\dX ts'<=10/\∀res S',K0 (DF ts ts') res->(∀x,res=ξ x->x.length<=9000)->Ext S S'->Q (uS res) S'
def Xr(Γ:bY)(h1:Γ "table_of"=Th)(h2:Γ "Table.size"=Xp)(h3:Γ "moved"=Xn)(h4:Γ "with_nowhere"=KO)(h5:Γ "rounds"=KS)(h6:Γ "text_apart"=Xk):Keeps Γ kY 4 Oo:=by
 rintro us S Q ⟨n,n',xs,xs',ts,ts',rfl,gn,gn',r1,t1,s1,r2,t2,s2,q⟩;unfold kY;room;rwa[ca h1 #[n,xs,ts,rfl,gn,r1,t1,s1,λT told ls go S1 tb p0 hf x1 nw=>?_]];room;rwa[ca h1 #[n',xs',ts',rfl,x1.get gn',r2,t2,s2,λT' told' ls' go' S2 tb' p0' hf' x2 nw'=>?_]];let#[k,R,g1,g2,g3]:=(tb.ext x2).o;let#[k',R',g1',g2',g3']:=tb'.o;have l1:=tb.sz;have l2:=tb'.sz;have l3:=tb.ll;have l4:=tb'.ll;room;rw[KW g1,KW g1']
 room;refine#[by rw[ae,ae];omega,⋯,by rw[aj,ae,ae];show _+1<=_;omega,?_];have e1:told.map uN++told'.map uN++[U.b7]=(told++told'++[ψ]).map uN:=by rw[aG,aG];rfl
 rw[e1]
 room;rw[Oc g1,Oc g1',g1]
 refine#[#[rfl,rfl],ca h2 #[T,k,R,told,rfl,g1,∅,?_]];refine ca h3 #[R',told.length,ls',go',rfl,g3',∅,λm S3 ms kp ml gm gd=>?_];have nd:∀{a:Nat}{o:SO},S2[a]?=ξ o->(∀j,o≠.eh (sD (dh SG (go' j))))->a∉ls':=λ{a o}h ho z=>by
  let#[j,hj]:=bj z;have:=g3'.d j a hj;rw[h] at this;erw[ho j (aH this)]
 have gT:S3[T]?=ξ (Oa k told R):=kp.get g1 (nd g1 (by intro j;unfold Oa;intro z;cases z));have gR:S3[R]?=ξ (.lst (ls.map .loc)):=kp.get g3.l (nd g3.l (by intro j z;cases z));have gl:∀(j d:Nat),ls[j]?=ξ d->S3[d]?=ξ (.eh (sD (dh SG (go j)))):=λj d e=>by
  rwa[kp.get (g3.d j d e) λz=>?_]
  let#[_,_,_,_,r]:=tb.o;erw[ve (aT (r.d j d e)) (nw' d z)]
 have x3:Ext S S3:=#[aF (aF x1.1 x2.1) kp.1,λa h=>by
  have h1:=av h x1.1;rw[kp.2 a (av h1 x2.1) λz=>ve h1 (nw' a z),x2.2 a h1,x1.2 a h]]
 have z2:=g3'.z;rw[l4] at z2;have c1:=tb.cl;have c2:=tb'.cl
 clear g1 g2 g3 g1' g2' g3' x1 x2 gn gn' nw nw' kp nd
 room;rw[gR,aB,gm,aB]
 refine#[by rw[ae,ae];omega,?_];rw[<-aG]
 have x4:Ext S3 (S3++[SO.lst ((ls++ms).map U.loc)]):=Ext.app _;have g4:(S3++[SO.lst ((ls++ms).map U.loc)])[S3.length]?=ξ (.lst ((ls++ms).map U.loc)):=by simp
 generalize S3.length=n4 at g4;generalize S3++[SO.lst ((ls++ms).map U.loc)]=S4 at x4 g4;have ll:(ls++ms).length=told.length+told'.length:=by rw[aj];omega
 have rp:Rp S4 n4 (ls++ms) (gJ told.length go go'):=by
  refine#[g4,λj d e=>?_,λj c hj=>?_]
  .by_cases h:j<ls.length
   .rw[ao h] at e
    have:gJ told.length go go' j=go j:=funext λc=>by unfold gJ;rw[if_pos ∅]
    rw[this]
    erw[x4.get (gl j d e)]
   .rw[ax ∅] at e
    have:gJ told.length go go' j=λc=>(go' (j-ls.length) c).map λk=>k+told.length:=funext λc=>by unfold gJ;rw[if_neg ∅,l3]
    rw[this]
    erw[x4.get (gd _ d e)]
  .rw[ll] at hj
   unfold gJ;rw[if_neg ∅,z2 _ _ ∅];rfl
 rwa[ca h4 #[n4,ls++ms,_,rfl,rp,∅,λnr S5 m5 x5 ml5 R5=>?_]];rw[ll] at R5 ml5;have tl:(told++told'++[ψ]).length=told.length+told'.length+1:=by rw[aj,aj];rfl
 room;rwa[ca h5 #[nr,m5,_,told++told'++[ψ],rfl,R5,∅,∅,∅,λj c _ hc=>Pj c1 c2 j c hc,λF fs S6 x6 gF Rs=>?_]];have x46:=x4.trans (x5.trans x6);room;have gT6:=x46.get gT;rw[gT6]
 refine#[#[rfl,rfl],ca h2 #[T,k,R,told,rfl,gT6,∅,two_le,?_]];rwa[ca h6 #[F,nr,0,told.length,fs,m5,_,told++told'++[ψ],DF ts ts',rfl,gF,Rs,R5.ext x6,∅,∅,λj c _ hc=>Pj c1 c2 j c hc,∅,∅,λw=>?_,λres S7 d l x7=>q res S7 d l ((x3.trans x46).trans x7)]];rw[Xg hf hf' w]
 refine#[λ⟨a,b⟩=>#[a,?_],λ⟨a,b⟩=>#[a,?_]]
 .rw[Xe c1 z2 p0 a,Xf c2 z2 p0' a]
  erw[λh=>b (aH h)]
 .rw[Xe c1 z2 p0 a,Xf c2 z2 p0' a] at b
  erw[λh=>b (by rw[h])]
open PL.Hi
abbrev Ll(a b:List Nat):Prop:=a.length<b.length\/(a.length=b.length/\a<b)
def K3:∀{a b:List Nat},a.length=b.length->(a++x<b++y↔a<b\/(a=b/\x<y))
 |[],[],_=>by simp
 |c::a,d::b,h=>by
  have:=K3 (x:=x) (y:=y) (a:=a) (b:=b) (~~~h);rw[iO,iO,pB,pB,this,dE]
  constructor
  .rintro(h|⟨h1,h2|h2⟩)
   .erw[.inl (.inl h)]
   .erw[.inl (.inr #[h1,h2])]
   .erw[.inr #[#[h1,h2.1],h2.2]]
  .rintro((h|⟨h1,h2⟩)|⟨⟨h1,h2⟩,h3⟩)
   .erw[.inl h]
   .erw[.inr #[h1,.inl h2]]
   .erw[.inr #[h1,.inr #[h2,h3]]]
def Xt:SG.Pairwise (· < ·):=⋯
def Tq(h:Dw D r x):∀w:List Nat,D w->(∀c∈w,c∈SG)->w.length=r->x.length<=r->¬w.take x.length<x:=by
 induction h with
 |nil=>intro w _ _ _ _ z;erw[xw _ z]
 |snoc h1 h2 ih=>
  rename_i x c;intro w d hs e l z;rw[aj] at l z;have l:x.length<w.length:=%[e|l]
  have ea:=ab l;have ma:=hs _ (cz l);rw[show [c].length=1 from rfl,fE,ea] at z;rcases(K3 (%[cx|wO (cY l)])).mp z with z|⟨z0,z⟩
  .erw[ih w d hs e ∅ z]
  .have z:w[x.length]<c:=by
    have z:=pB.mp z;erw[z.elim id λz=>absurd z.2 (xw _)]
   let#[i,ec,_,no]:=h2;let#[j,ej]:=bj ma;refine(ur j i).elim (λy=>no j _ y ej #[w.drop (x.length+1),by rw[uG];omega,?_]) λy=>?_
   .have:x++[w[x.length]]++w.drop (x.length+1)=w:=by
     rw[bx]
     show x++(w[x.length]::w.drop (x.length+1))=w
     rw[<-dM l]
     exact(congrArg (·++w.drop x.length) z0).symm.trans (Cs _ _)
    rw[this];erw[d]
   .rcases Nat.lt_or_eq_of_le y with y|y
    .have:=List.pairwise_iff_getElem.mp Xt _ _ (aT ec) (aT ej) y
     rw[(ag.mp ec).2,(ag.mp ej).2] at this;erw[Nat.lt_asymm this z]
    .subst y;rw[ec] at ej;injection ej with ej;erw[dU _ (ej▸z)]
def Oq(h:K0 D (ξ x))(d:D w)(hs:∀c∈w,c∈SG):¬Ll w x:=by
 rintro(z|⟨e,z⟩)
 .erw[h.2.1 _ z #[w,aq _,d]]
 .rwa[Tq h.2.2 w d hs e (aq _) ?_]
  rw[<-e,bP];erw[z]
structure Ly(ts:List Tr)(w:List Nat)(Xs:List (List U)):Prop where
 l:Xs.length=ts.length
 r:∀(i:Nat)t X,ts[i]?=ξ t->Xs[i]?=ξ X->Lv t (hs t w) X
abbrev uX(Xs:List (List U)):U:=.tup (Xs.map .tup)
abbrev Ts:Spec:=λus S Q=>∃ts w c Xs,us=[uX Xs,.str [c]]/\lI ts/\Ly ts w Xs/\∀Ys S',Ly ts (w++[c]) Ys->Ext S S'->Q (uX Ys) S'
def Ly.at_{ts:List Tr}{w:List Nat}{Xs:List (List U)}(h:Ly ts w Xs){i:Nat}{X:List U}(e:Xs[i]?=ξ X):∃t,ts[i]?=ξ t/\Lv t (hs t w) X:=by
 have:=aT e;rw[h.l] at this;exact#[_,ab this,h.r i _ X (ab this) e]
def Xu(Γ:bY)(h1:Γ "_law_rests"=Sv):Keeps Γ k7 0 Ts:=by
 rintro us S Q ⟨ts,w,c,Xs,rfl,hT,hX,q⟩;have tl:=hT.len;have xl:=hX.l;unfold k7 uX;room;refine#[by rw[ae];omega,?_];refine fO _ (λi acc S1=>Ext S S1/\∃Ys:List (List U),acc=Ys.map .tup/\Ys.length=i/\∀(j:Nat)t Y,ts[j]?=ξ t->Ys[j]?=ξ Y->Lv t (hs t (w++[c])) Y) (λi acc S3 hi h9=>by let#[_,Ys,e,l,_]:=h9;exact#[trivial,by rw[e,ae,l];rw[ae] at hi;omega]) (λi u acc S1 k hu hi hk=>?_) (λacc S1 h=>?_) #[.refl,[],rfl,rfl,λj t Y _ e=>by cases e]
 .let#[x1,Ys,rfl,yl,a1]:=hi
  let#[X,eX,rfl]:=dY hu;let#[t,et,rp]:=hX.at_ eX;let#[n0,pl,n1,sz,dt]:=zV hT (ah et);have Xl:=uU pl rp;rw[if_pos rfl]
  rwa[ca h1 #[.tup X,c,X,t,_,n0,rfl,.inr rfl,rp,pl,n1,dt,sz,∅,λm Y S2 x2 g2 r2=>?_]];room;rw[g2,aB]
  rwa[hk _ _ #[x1.trans x2,Ys++[Y],by rw[aG];rfl,by rw[aj,yl];rfl,λj t' Y' e1 e2=>(sk e2).elim (a1 j t' Y' e1) λz=>?_]];let#[rfl,rfl]:=z;rw[yl,et] at e1;cases e1;rw[pP];erw[r2]
 .let#[x1,Ys,rfl,yl,a1]:=h
  rw[bS,aB]
  erw[q Ys _ #[by rw[yl,ae,xl],a1] (x1.trans (Ext.app _))]
abbrev FsL(ts:List Tr)(w:List Nat)(i:Nat):List Nat->Prop
 |[]=>∀(j:Nat)t,j<i->ts[j]?=ξ t->¬En t (hs t w)
 |k::_=>z7 ts w (ξ k)
abbrev Xv:Spec:=λus S Q=>∃ts w Xs,us=[uX Xs]/\lI ts/\Ly ts w Xs/\∀o S',z7 ts w o->Ext S S'->Q (uN o) S'
def Xw(Γ:bY)(h1:Γ "_law_ends"=Sw):Keeps Γ k8 1 Xv:=by
 rintro us S Q ⟨ts,w,Xs,rfl,hT,hX,q⟩;have tl:=hT.len;have xl:=hX.l;unfold k8 uX;room;rw[ae]
 refine#[∅,∅,∅,?_];refine fO _ (λi acc S1=>Ext S S1/\∃G:List Nat,acc=G.map aR/\G.length<=i/\FsL ts w i G) (λi acc S3 hi h9=>by let#[_,G,e,l,_]:=h9;rw[ae,gV] at hi;exact#[trivial,by rw[e,ae];omega]) (λi u acc S1 k hu hi hk=>?_) (λacc S1 h=>?_) #[.refl,[],rfl,aq _,λj t z=>absurd z (cX _)]
 .let#[x1,G,rfl,gl,a1]:=hi
  let#[rfl,il]:=o9 hu;have eX:=ab il;generalize Xs[i]=X at eX;let#[t,et,rp]:=hX.at_ eX;let#[n0,pl,n1,sz,dt]:=zV hT (ah et);have Xl:=uU pl rp;room;refine#[by rw[ae];omega,?_];rw[iz,aC,eX,i4,aW]
  rwa[ca h1 #[.tup X,X,t,_,rfl,.inr rfl,rp,dt,sz,∅,λb S2 hb x2=>?_]];room;cases b with
  |true=>
   rw[if_pos rfl]
   rwa[hk _ _ #[x1.trans x2,G++[i],by rw[aG];rfl,%[aj|cB gl],?_]];cases G with
   |nil=>exact#[#[t,et,hb.mp rfl],a1]
   |cons k r=>erw[a1]
  |false=>
   rw[if_neg ⋯]
   rwa[hk _ _ #[x1.trans x2,G,rfl,∅,?_]];cases G with
   |nil=>
    intro j t' hj e z;by_cases y:j=i
    .subst y
     rw[et] at e;cases e;erw[absurd (hb.mpr z) ⋯]
    .erw[a1 j t' ∅ e z]
   |cons k r=>erw[a1]
 .let#[x1,G,rfl,gl,a1]:=h
  have x2:Ext S (S1++[SO.lst (G.map aR)]):=x1.trans (Ext.app _);rw[ae,gV] at a1;have g2:(S1++[SO.lst (G.map aR)])[S1.length]?=ξ (.lst (G.map aR)):=bS;room;rw[OP g2,aW]
  cases G with
  |nil=>
   rw[if_neg ⋯]
   erw[q ψ _ (λi t e=>a1 i t (by have:=aT e;omega) e) x2]
  |cons k r=>
   rw[if_pos (by rfl)]
   rw[g2,aB]
   rw[show(0:Int)=((0:Nat):Int) from rfl,iz]
   erw[q (ξ k) _ a1 x2]
abbrev wt(l:Nat):Nat:=(4^(5-l)-1)/3
def aaD(h:l<4):wt l=1+4*wt (l+1):=(by decide:∀l,l<4->wt l=1+4*wt (l+1)) l h
def Xx(h:l<=4):1<=wt l:=(by decide:∀l,l<5->1<=wt l) l (Ln h)
@[reducible]def PT:=List Nat×List (List U)×List (List U)
abbrev Ue(ls:List PT):Nat:=(ls.map λp=>wt p.1.length).sum
abbrev sU(p:PT):U:=.tup [uX p.2.1,uX p.2.2]
abbrev pU(p:PT):U:=.tup [.str p.1,uX p.2.1,uX p.2.2]
structure Pl(ts ts':List Tr)(p:PT):Prop where
 a:Ly ts p.1 p.2.1
 b:Ly ts' p.1 p.2.2
 l:p.1.length<=4
 s:∀c∈p.1,c∈SG
def E8:∀{ls:List PT},(∀p∈ls,Pl ts ts' p)->ls.length<=Ue ls
 |[],_=>aq _
 |p::r,h=>by
  have a:=E8 λq m=>h q (ay _ m)
  have b:=Xx (h p (aQ ..)).l;show r.length+1<=wt p.1.length+Ue r;omega
def BR:∀{Y:List U},(∀y∈Y,wH y=ζ/\dep y<=d)->jV Y=ζ/\mW Y<=d
 |[],_=>#[rfl,bJ _]
 |y::Y,h=>by
  have a:=h y (aQ ..);have b:=BR λz m=>h z (ay _ m)
  exact#[by show(wH y&&jV Y)=ζ;rw[a.1,b.1];rfl,Nat.max_le.mpr #[a.2,b.2]]
def Ly.d(hT:lI ts)(h:Ly ts w Xs):wH (uX Xs)=ζ/\dep (uX Xs)<=12:=by
 have:jV (Xs.map U.tup)=ζ/\mW (Xs.map U.tup)<=11:=BR λu m=>by
  let#[X,mX,rfl]:=bD.mp m;let#[i,e]:=bj mX;let#[t,et,rp]:=h.at_ e;let#[n0,pl,n1,sz,dt]:=zV hT (ah et);have:jV X=ζ/\mW X<=10:=BR λy my=>by
   let#[p,_,rfl]:=(rp.1 y).mp my;exact#[zQ (ct t p),cB (wj (d:=4) (ct t p) λx m=>uv ((zR (p:=p) dt sz).2.1 x m))]
  exact#[this.1,cB this.2]
 exact#[this.1,cB this.2]
def Pl.d(hT:lI ts)(hT':lI ts')(h:Pl ts ts' p):jV [uX p.2.1,uX p.2.2]=ζ/\mW [uX p.2.1,uX p.2.2]<=12:=BR λy m=>by
 rcases aN.mp m with rfl|m
 .erw[h.a.d hT]
 .rw[bp.mp m];erw[h.b.d hT']
structure DS(ts ts':List Tr)(S0 S:bG)(A B M z:Nat)(ls:List PT)(Z:List U):Prop where
 x:Ext S0 S
 a:S[A]?=ξ (.lst (ls.map pU))
 b:S[B]?=ξ (.lst Z)
 p:∀p∈ls,Pl ts ts' p
 d:∀u∈Z,wH u=ζ/\dep u<=100
 m:Ue ls<=M
 z:Z.length<=z
section
variable{ts ts':List Tr}{S0 S:bG}{A B M z:Nat}{ls:List PT}{Z:List U}
def DS.ext(h:DS ts ts' S0 S A B M z ls Z)(x:Ext S S'):DS ts ts' S0 S' A B M z ls Z:=#[h.x.trans x,x.get h.a,x.get h.b,h.p,h.d,h.m,h.z]
def DS.le(h:DS ts ts' S0 S A B M z ls Z)(m:M<=M')(n:z<=z'):DS ts ts' S0 S A B M' z' ls Z:=#[h.x,h.a,h.b,h.p,h.d,aF h.m m,aF h.z n]
def DS.put(h:DS ts ts' S0 S A B M z ls Z)(hA:S0.length<=A)(hB:S0.length<=B)(ne:A≠B)(hT:lI ts)(hT':lI ts'){p:PT}(k:Pl ts ts' p):
  DS ts ts' S0 ((S.set B (.lst (Z++[sU p]))).set A (.lst (ls.map pU++[pU p]))) A B (M+wt p.1.length) (z+1) (ls++[p]) (Z++[sU p]):=by
 have ga:(S.set B (.lst (Z++[sU p])))[A]?=ξ (.lst (ls.map pU)):=%[ak (cJ ne)|h.a]
 refine#[(h.x.st hB).st hA,by rw[gs ga,aG];rfl,%[ak ne|gs h.b],λp m=>?_,λu m=>?_,?_,?_]
 .rcases aL.mp m with m|m
  .erw[h.p p m]
  .rw[bp.mp m];erw[k]
 .rcases aL.mp m with m|m
  .erw[h.d u m]
  .rw[bp.mp m]
   have:=k.d hT hT';exact#[this.1,aF (cB this.2) ⋯]
 .have:=h.m
  unfold Ue at this ⊢;rw[aG,wG]
  show _+(wt p.1.length+0)<=_
  omega
 .rw[aj];erw[cB h.z]
def Xy(Γ:bY)(h1:Γ "_law_steps"=Ts)(hT:lI ts)(hT':lI ts')(hA:S0.length<=A)(hB:S0.length<=B)(ne:A≠B){p:PT}{c:Nat}{y0 y1 y2 y3 y8:Option U}{K:Env->bG->Prop}{Q:KU}(h:DS ts ts' S0 S A B M z ls Z)(hM:M<=1365)(hz:z<=1369)(hp:Pl ts ts' p)(pl:p.1.length<4)(hc:c∈SG)
  (q:∀S' ls' Z' y8,DS ts ts' S0 S' A B (M+wt (p.1.length+1)) (z+1) ls' Z'->K [y0,y1,y2,y3,ξ (.loc A),ξ (.loc B),ξ (pU p),ξ (.str [c]),y8] S'):
  Rest Γ ZV #[K,Q] [y0,y1,y2,y3,ξ (.loc A),ξ (.loc B),ξ (pU p),ξ (.str [c]),y8] S:=by
 unfold ZV;rw[show pU p=.tup [.str p.1,uX p.2.1,uX p.2.2] from rfl] at q ⊢;room;rw[mI,aW]
 refine#[#v[],ca h1 #[ts,p.1,c,p.2.1,rfl,hT,hp.a,λYs S1 hY x1=>?_]];room;rw[show qV [U.str p.1,uX p.2.1,uX p.2.2] 2=ξ (uX p.2.2) from rfl,aW]
 refine#[#v[],ca h1 #[ts',p.1,c,p.2.2,rfl,hT',hp.b,λYs' S1' hY' x1'=>#[#v[],?_]]];have h':=(h.ext x1).ext x1';have kk:Pl ts ts' (p.1++[c],Ys,Ys'):=#[hY,hY',by show(p.1++[c]).length<=4;rw[aj];erw[pl],λd m=>(aL.mp m).elim (hp.s d) λm=>%[bp.mp m|hc]]
 have dz:=BR h'.d;have du:=kk.d hT hT';have zl:=h.z;have ll:=E8 h.p;have ml:=h.m;have put:=h'.put hA hB ne hT hT' kk;have ga:(S1'.set B (.lst (Z++[sU (p.1++[c],Ys,Ys')])))[A]?=ξ (.lst (ls.map pU)):=%[ak (cJ ne)|h'.a]
 have hb:=h'.b;have e1:sU (p.1++[c],Ys,Ys')= .tup [uX Ys,uX Ys']:=rfl;have e2:pU (p.1++[c],Ys,Ys')= .tup [.str (p.1++[c]),uX Ys,uX Ys']:=rfl;rw[e1] at ga;rw[e1,e2] at put;room;rw[hb,aB]
 refine#[#[du.1,dz],?_];generalize (!(Z.any λy=>pE y (.tup [uX Ys,uX Ys'])))=b;cases b with
 |false=>
  rw[if_neg ⋯]
  room;erw[q S1' ls Z _ (h'.le (fX _ _) (fF _))]
 |true=>
  rw[if_pos rfl]
  room;rw[hb,aB]
  refine#[trivial,∅,?_];room;rw[ga,aB]
  refine#[trivial,?_];rw[oX,aW,IL]
  refine#[#v[],by rw[aU,dH];omega,#v[],#v[],?_];rw[ga,aB]
  refine#[by rw[ae];omega,?_];room;rwa[q _ _ _ _ (put.le ?_ (aq _))];show M+wt (p.1++[c]).length<=_;rw[aj];erw[aq _]
end
section
variable{n a b m j x:Nat}
def ar1(h:a+m<=n)(n1:n<=341)(ws:a=1+4*b)(jm:x<=4*b):n-a+x<=1365:=∅
def ar2(w:1<=a)(h:a+m<=n):n-1<n:=∅
def ar3(h:a+m<=n)(ws:a=1+4*b):n-a+4*b<=n-1:=∅
def ar4(w:1<=a)(h:a+m<=n)(n1:n<=341):1365-4*n+4<=1365-4*(n-1):=∅
end
def K4(g:S[L]?=ξ (.lst (ts.map enc)))(hT:lI ts)(q:∀n S',Ext S S'->S'[n]?=ξ (.lst ((ts.map λt=>[cL [t]]).map .tup))->k (.loc n) S'):WE Γ ZU (ξ (.loc L)::ys) S k:=by
 have tl:=hT.len;unfold ZU;room;rw[g,aB]
 rwa[iD (S:=S) _ ((ts.map λt=>[cL [t]]).map .tup) (#v[]) (by rw[ae];omega) (λS' x=>x.get g) (λu S' k h=>h) (λj u v hu hv S' k x hk=>?_) λS3 x3=>q _ _ (x3.trans (Ext.app _)) bS]
 let#[t,e,rfl]:=dY hu;rw[aC,aC,e] at hv;have hv:=aH hv;subst hv;exact#[#v[],#v[],hk S' .refl]
def Tt(g:S[L]?=ξ (.lst (ts.map enc)))(hT:lI ts)(q:∀n S',Ext S S'->S'[n]?=ξ (.lst ((ts.map λt=>[cL [t]]).map .tup))->k (.loc n) S'):WE Γ pZd (y0::ξ (.loc L)::ys) S k:=K4 (ys:=ys) g hT q
abbrev NoE(ts ts':List Tr)(x:Option (List Nat)):Prop:=∀w:List Nat,(∀c∈w,c∈SG)->(∀y,x=ξ y->Ll w y)->∀o o',z7 ts w o->z7 ts' w o'->o=o'
abbrev Ot:Spec:=λus S Q=>∃L L' x ts ts',us=[.loc L,.loc L',uS x,.int 4]/\S[L]?=ξ (.lst (ts.map enc))/\S[L']?=ξ (.lst (ts'.map enc))/\lI ts/\lI ts'/\(∀y,x=ξ y->y.length<=9000)/\NoE ts ts' x/\∀S',Ext S S'->Q (.bl ϑ) S'
def E9:Ly ts [] (ts.map λt=>[cL [t]]):=#[ae _,λi t X e1 e2=>by rw[aC,e1] at e2;cases e2;erw[yr t]]
def Xz(Γ:bY)(h1:Γ "_law_steps"=Ts)(h2:Γ "_law_tells"=Xv):Keeps Γ jA 5 Ot:=by
 rintro us S Q ⟨L,L',x,ts,ts',rfl,g,g',hT,hT',xl,hx,q⟩;unfold jA;rwa[Rest.go ?_];rw[vI,Vr]
 room;rwa[K4 g hT λn S1 x1 g1=>?_]
 room;rw[g1,aB]
 rwa[Tt (x1.get g') hT' λn' S1' x1' g1'=>?_]
 room;rw[g1',aB]
 have r0:=E9 (ts:=ts);have r0':=E9 (ts:=ts');generalize (ts.map λt=>[cL [t]])=Xs at g1 r0;generalize (ts'.map λt=>[cL [t]])=Xs' at g1' r0';refine#[#v[],#v[],?_];have x2:=x1.trans x1';have y2:Ext S1' (S1'++[SO.lst [pU ([],Xs,Xs')]]):=Ext.app _;have a2:(S1'++[SO.lst [pU ([],Xs,Xs')]])[S1'.length]?=ξ (.lst ([([],Xs,Xs')].map pU)):=bS;have hA:=x2.1;have eS:S1'++[SO.lst [U.tup [U.str [],U.tup (Xs.map U.tup),U.tup (Xs'.map U.tup)]]]=S1'++[SO.lst [pU ([],Xs,Xs')]]:=rfl;rw[eS]
 generalize hS2:S1'++[SO.lst [pU ([],Xs,Xs')]]=S2 at a2 y2;have l2:S2.length=S1'.length+1:=by rw[<-hS2,aj];rfl
 have k0:Pl ts ts' ([],Xs,Xs'):=#[r0,r0',bJ _,λc m=>by cases m]
 room;rw[a2,aB,az,oX,aW]
 unfold pU;refine#[#[λi e=>by cases e;decide,λi e=>by cases e],#[#v[],#v[],⋯],#v[],?_];have I0:DS ts ts' S (S2++[SO.lst [sU ([],Xs,Xs')]]) S1'.length S2.length 341 1 [([],Xs,Xs')] [sU ([],Xs,Xs')]:=#[(x2.trans y2).trans (Ext.app _),(Ext.app _).get a2,bS,λp m=>%[bp.mp m|k0],λu m=>by rw[bp.mp m];have:=k0.d hT hT';exact#[this.1,aF (cB this.2) ⋯],by unfold Ue;rw[az,jb];exact(by decide:wt 0+0<=341),aq _]
 show Rest Γ _ _ [ξ (.loc L),ξ (.loc L'),ξ (uS x),ξ (.int 4),ξ (.loc S1'.length),ξ (.loc S2.length),ψ,ψ,ψ] (S2++[SO.lst [sU ([],Xs,Xs')]])
 generalize hB:S2.length=B at I0 l2;generalize S1'.length=A at I0 l2 hA;generalize S2++[SO.lst [sU ([],Xs,Xs')]]=S3 at I0;rwa[Rest.go ?_];rw[vI,OR]
 refine#[342,mw (λn env S4=>∃ls Z y5 y6 y7,env=[ξ (.loc L),ξ (.loc L'),ξ (uS x),ξ (.int 4),ξ (.loc A),ξ (.loc B),y5,y6,y7]/\DS ts ts' S S4 A B n (1365-4*n) ls Z/\n<=341) ?_ _ 341 _ _ (b9 _) #[_,_,ψ,ψ,ψ,rfl,I0.le (aq _) ∅,aq _]];rintro n env S4 K ⟨ls,Z,y5,y6,y7,rfl,I,n1⟩ hK;have hB':S.length<=B:=∅
 have ne:A≠B:=∅
 room;rw[OP I.a,aW]
 cases ls with
 |nil=>
  rw[if_neg ⋯]
  room;erw[q _ I.x]
 |cons p r=>
  rw[if_pos (by rfl)]
  have hp:=I.p p (aQ ..);have hm:wt p.1.length+Ue r<=n:=I.m;have ga:=I.a;have J:DS ts ts' S (S4.set A (.lst (r.map pU))) A B (n-wt p.1.length) (1365-4*n) r Z:=#[I.x.st hA,gs ga,%[ak ne|I.b],λp m=>I.p p (ay _ m),I.d,Nat.le_sub_of_add_le' hm,I.z]
  have l5:=hp.l;rw[az] at ga;unfold pZw;room;rw[ga,aB,aB]
  refine#[trivial,_,_,rfl,?_];generalize S4.set A (.lst (r.map pU))=S5 at J;have ep:pU p=.tup [.str p.1,uX p.2.1,uX p.2.2]:=rfl;rw[ep]
  have go:(∀y,x=ξ y->Ll p.1 y)->Rest Γ (.cons (.ifs (.cU (.cmp .ne (.call "_law_tells" (.cons (.ix @6 ↑1) .nil)) (.call "_law_tells" (.cons (.ix @6 ↑2) .nil)))) (.cons (.ret (.lit (.bl ζ))) .nil) .nil) ZW) #[K,Q] [ξ (.loc L),ξ (.loc L'),ξ (uS x),ξ (.int 4),ξ (.loc A),ξ (.loc B),ξ (.tup [.str p.1,uX p.2.1,uX p.2.2]),y6,y7] S5:=λhy=>by
   room;rw[mI,aW]
   refine#[#v[],ca h2 #[ts,p.1,p.2.1,rfl,hT,hp.a,λo S6 ho x6=>?_]];refine#[#v[],?_];rw[show qV [U.str p.1,uX p.2.1,uX p.2.2] 2=ξ (uX p.2.2) from rfl,aW]
   rwa[ca h2 #[ts',p.1,p.2.2,rfl,hT',hp.b,λo' S7 ho' x7=>?_]];have:=hx p.1 hp.s hy o o' ho ho';subst this;have J7:=(J.ext x6).ext x7;show hJ .ne (uN o) (uN o) S7 _;rw[Xa,if_neg ⋯]
   rwa[Rest.go ?_];rw[Es]
   unfold ZW;room;rw[oX,aW,OO,aW]
   refine#[#v[],aF l5 ⋯,?_];have w1:=Xx l5;by_cases l4:p.1.length<4
   .rw[if_pos (decide_eq_true (show(p.1.length:Int)<4 from uw.mpr l4))]
    have ws:=aaD l4;rwa[Rest.go ?_];rw[vI,OS,OQ,w_lit,v_s]
    rwa[dy (λj env S7=>∃ls Z y6 y7,env=[ξ (.loc L),ξ (.loc L'),ξ (uS x),ξ (.int 4),ξ (.loc A),ξ (.loc B),ξ (pU p),y6,y7]/\DS ts ts' S S7 A B (n-wt p.1.length+j*wt (p.1.length+1)) (1365-4*n+j) ls Z/\j<=4) (λ_ _ _ _=>trivial) _ ?_ ?_ #[r,Z,y6,y7,rfl,J7.le (fX _ _) (aq _),bJ _]]
    .rintro j u env S8 K' hu ⟨ls,Z,y6,y7,rfl,I7,j4⟩ hK'
     let#[c,hc,rfl]:=dY hu;have jl:j<4:=aT hc;have cm:c∈SG:=(by decide:∀c∈[48,97,98,99],c∈SG) c (ah hc);have jm:j*wt (p.1.length+1)<=4*wt (p.1.length+1):=Nat.mul_le_mul_right _ j4;rwa[Xy Γ h1 hT hT' hA hB' ne I7 (ar1 hm n1 ws jm) (Nat.add_le_add (yQ _ _) j4) hp l4 cm λS8 ls' Z' y7 I8=>hK' _ _ #[ls',Z',_,_,rfl,I8.le ?_ (aq _),jl]]
     rw[Nat.succ_mul,Nat.add_assoc];erw[aq _]
    .rintro env S8 ⟨ls,Z,y6,y7,rfl,I7,_⟩
     room;erw[hK (n-1) _ _ (ar2 w1 hm) #[ls,Z,_,_,_,rfl,I7.le (ar3 hm ws) (ar4 w1 hm n1),aF (yQ _ _) n1]]
   .rw[if_neg (show ¬decide ((p.1.length:Int)<4)=ζ from λz=>l4 (uw.mp (of_decide_eq_true z)))]
    room;erw[hK (n-1) _ _ (ar2 w1 hm) #[r,Z,_,_,_,rfl,J7.le (Nat.sub_le_sub_left w1 n) (aF (fX _ 4) (ar4 w1 hm n1)),aF (yQ _ _) n1]]
  cases x with
  |none=>
   room;erw[go λy e=>by cases e]
  |some y=>
   have yl:=xl y rfl;have ey:uS (ξ y)= .str y:=rfl;rw[ey] at go ⊢;room;rw[if_pos (show(!xV (U.str y))=ζ from rfl),oX,aW,OO,aW,aW]
   refine#[#v[],∅,#v[],#v[],∅,#v[],_,_,_,_,rfl,rfl,?_];by_cases z:(y.length:Int)<p.1.length\/((y.length:Int)=p.1.length/\¬p.1<y)
   .rw[decide_eq_true z]
    erw[q _ J.x]
   .rw[decide_eq_false z]
    rwa[Rest.go (go λy' e=>?_)];cases e;rcases uo p.1.length y.length with a|a|a
    .erw[.inl a]
    .erw[.inr #[a,eT λb=>z (.inr #[∅,b])]]
    .erw[absurd (.inl ∅) z]
structure Pm(S:bG)(L:Nat)(us:List Tr):Prop where
 g:S[L]?=ξ (.lst (us.map enc))
 t:lI us
 v:∀t∈us,oB t
 z:dX us<=10
def Pm.ext(h:Pm S L us)(x:Ext S S'):Pm S' L us:=#[x.get h.g,h.t,h.v,h.z]
def K5:∀(l:List Tr)(b:Nat),(∀t∈l,size t<=b)->dX l<=b*l.length
 |[],b,_=>bJ _
 |t::l,b,h=>by
  have h1:=h t (#v[]);have h2:=K5 l b λx m=>h x (ay _ m)
  unfold dX at h2 ⊢;rw[az,jb,aU,Nat.mul_succ]
  omega
def Tv(len:l.length<=4)(nl:∀t∈l,null t=ϑ)(dp:∀t∈l,bM t<5)(sz:dX l<=24)(v:∀t∈l,oB t):lI (tN 1 l)/\(∀t∈tN 1 l,oB t):=by
 let#[e1,e2,e3,e4]:=si l 1;have el:(tN 1 l).length=l.length:=by have:=congrArg cR e1;simpa using this
 refine#[#[∅,e2,λt m=>?_,λt m=>?_,∅],λt m=>?_]
 .let#[t',m',h]:=e4 t m;rw[h.2.1];erw[nl t' m']
 .let#[t',m',h]:=e4 t m;rw[h.1];erw[dp t' m']
 .let#[t',m',h]:=e4 t m
  intro l hl;rw[h.2.2] at hl;erw[v t' m' l hl]
def K6(hT:lI ts)(hV:∀t∈ts,oB t):Wr ts (ts.map wr):=by
 refine#[by rw[ae],λj t y e e'=>?_];rw[aC,e] at e';cases e';have m:=ah e;exact#[by have:=(lK (hV t m) (hT.dp t m)).2.2;omega,[],N6 (hV t m) (hT.dp t m)]
def K7(h4:Γ "written"=BK (λt=>bM t<=4\/(wq t/\bM t<=4+1)) wr)(R:Pm S L us)(q:∀n S',Ext S S'->S'[n]?=ξ (.lst ((us.map wr).map .str))->k (.loc n) S'):WE Γ ZX (y0::y1::ξ (.loc L)::ys) S k:=by
 have tl:=R.t.len;unfold ZX;room;rw[R.g,aB]
 rwa[fO (us.map enc) (λi acc S3=>Ext S S3/\acc=((us.take i).map wr).map .str) (λi acc S3 hi h9=>#[h9.1.get R.g,by rw[h9.2,ae,ae,cx];omega]) (λi u acc S3 k hu hi hk=>?_) (λacc S3 h=>?_) #[.refl,rfl]]
 .let#[x3,rfl]:=hi
  let#[t,et,rfl]:=dY hu;have mt:=ah et;have d4:=R.t.dp t mt;rwa[ca h4 #[t,rfl,.inl ∅,R.v t mt,d4,λS4 x4=>hk _ _ #[x3.trans x4,?_]]];rw[fE,et,aG,aG];rfl
 .let#[x3,rfl]:=h
  rw[ae,bP]
  erw[q _ _ (x3.trans (Ext.app _)) (#v[])]
def Tw(h4:Γ "written"=BK (λt=>bM t<=4\/(wq t/\bM t<=4+1)) wr)(R:Pm S L us)(q:∀n S',Ext S S'->S'[n]?=ξ (.lst ((us.map wr).map .str))->k (.loc n) S'):WE Γ pZb (y0::y1::y2::ξ (.loc L)::ys) S k:=K7 (y0:=y0) (y1:=y1) (ys:=ys) h4 R q
def Tz(h:o≠o')(z:q ϑ):hJ .eq (uN o) (uN o') S q:=by
 cases o with
 |none=>cases o' with
  |none=>erw[absurd rfl h]
  |some j=>unfold uN;rw[Vi,Zm];erw[z]
 |some i=>cases o' with
  |none=>unfold uN;rw[IM,Zl];erw[z]
  |some j=>
   unfold uN;rw[IM,MN,beq_eq_false_iff_ne.mpr (show(i:Int)≠(j:Int) from λe=>h (by rw[lS e]))]
   erw[z]
def Fc(Γ:bY)(h4:Γ "written"=BK (λt=>bM t<=4\/(wq t/\bM t<=4+1)) wr)(h5:Γ "difference"=Oo)(h6:Γ "_law_first"=Oh)(h7:Γ "_law_earlier"=Ot)(R:Pm S L us)(R':Pm S L' us')(q:∀S',D.rt (.bl ζ) S'):
  Rest Γ ZY D [y0,y1,ξ (.loc L),ξ (.loc L'),y4,y5,y6] S:=by
 unfold ZY;room;rwa[K7 h4 R λn S1 x1 g1=>?_]
 rwa[Tw h4 (R'.ext x1) λn' S2 x2 g2=>?_]
 refine ca h5 #[n,n',_,_,us,us',rfl,x2.get g1,g2,K6 R.t R.v,R.t,R.z,K6 R'.t R'.v,R'.t,R'.z,λres S3 hd hl x3=>?_];have xx:=(x1.trans x2).trans x3;have no:∀w:List Nat,(∀c∈w,c∈SG)->(∀y,res=ξ y->Ll w y)->∀o o',z7 us w o->z7 us' w o'->o=o':=λw hs hy o o' a b=>eT λz=>by
  have d:DF us us' w:=#[hs,o,o',a,b,z]
  cases res with
  |none=>erw[hd w d]
  |some y=>erw[Oq hd d hs (hy y rfl)]
 cases res with
 |none=>
  room;erw[ca h7 #[L,L',ψ,us,us',rfl,xx.get R.g,xx.get R'.g,R.t,R'.t,(λy e=>by cases e),no,λS4 x4=>q S4]]
 |some x=>
  have es:uS (ξ x)= .str x:=rfl;rw[es]
  room;unfold pZt;room;let#[sx,o,o',f1,f2,ne]:=Xb hd;rwa[ca h6 #[L,x,us,rfl,xx.get R.g,R.t,hl x rfl,λo1 S4 a1 x4=>?_]];rwa[ca h6 #[L',x,us',rfl,(xx.trans x4).get R'.g,R'.t,hl x rfl,λo2 S5 a2 x5=>?_]];have x35:=(xx.trans x4).trans x5;have:=u5 a1 f1;subst this;have:=u5 a2 f2;subst this;show hJ .eq (uN o1) (uN o2) S5 _;rwa[Tz ne ?_];rw[if_neg ⋯]
  room;erw[ca h7 #[L,L',ξ x,us,us',rfl,x35.get R.g,x35.get R'.g,R.t,R'.t,hl,no,λS6 x6=>q S6]]
def K8:∀{ts:List Tr}{i:Nat}{t x:Tr},ts[i]?=ξ t->size x<=size t+1->dX (ts.set i x)<=dX ts+1
 |a::ts,0,t,x,e,h=>by
  cases e;dsimp[lY,dX,az,jb];omega
 |a::ts,i+1,t,x,e,h=>by
  have:=K8 (ts:=ts) (i:=i) e h;dsimp[lX,dX,az,jb] at this ⊢;omega
def TB:WS Γ (.Iz o i e) D env S=WE Γ e env S (λu S1=>WE Γ o env S1 (λx S2=>WE Γ i env S2 (λy S3=>sE x λn=>lT y λk=>getL S3[n]? λus=>opt (IC us.length k) λj=>D.nx env (S3.set n (.lst (us.set j u)))))):=rfl
def Ou(Γ:bY)(h1:Γ "_law_mix"=uO.yk){S:bG}{L:Nat}{ns:List Int}{ts:List Tr}{y1 y3:Option U}{D:Ends}(hl:ns.length<=63)(g:S[L]?=ξ (.lst (ts.map enc)))(l0:0<ts.length)(l2:ts.length<=2)
  (q:∀(i:Nat)t x L' S' y4 y5,ts[i]?=ξ t->(x=.or t (.one 0 [48,97,98,99])\/x=.rep .plus t\/x=t)->Ext S S'->S'[L']?=ξ (.lst ((ts.set i x).map enc))->D.nx [ξ (.sZ ns),y1,ξ (.loc L),ξ (.loc L'),y4,y5,ψ] S'):
  Rest Γ ZZ D [ξ (.sZ ns),y1,ξ (.loc L),y3,ψ,ψ,ψ] S:=by
 unfold ZZ;room;rw[g,aB]
 have x1:Ext S (S++[SO.lst (ts.map enc)]):=Ext.app _;have g1:(S++[SO.lst (ts.map enc)])[S.length]?=ξ (.lst (ts.map enc)):=bS;generalize hL:S.length=L' at g1;generalize S++[SO.lst (ts.map enc)]=S1 at g1 x1;room;rwa[ca h1 #[ns,_,rfl,∅,λm m0 m1=>?_]];show opt (mH S1 (.loc L')) _;rw[kr g1,aW,ae]
 refine#[∅,?_];have b0:(0:Int)<=m%(ts.length:Int):=jr _ ∅;have b1:m%(ts.length:Int)<(ts.length:Int):=gE _ ∅;obtain⟨i,ei⟩:∃i:Nat,m%(ts.length:Int)=i:=#[(m%(ts.length:Int)).toNat,∅]
 room;refine#[∅,?_];rw[ei] at b1 ⊢;have il:i<ts.length:=∅
 have et:=ab il;generalize ts[i]=t at et;have at_:qV (ts.map enc) (i:Int)=ξ (enc t):=by rw[iz,aC,et];rfl
 room;rw[g1,aB,at_,aW]
 refine#[#v[],#v[],#v[],?_];room;rw[TB]
 room;rw[g1,aB,at_,aW,aB,at_,aW]
 refine#[#v[],#v[],ca h1 #[ns,_,rfl,∅,λm' m0 m1=>?_]];refine#[∅,?_];show getL (S1++[SO.lst [enc (.or t (.one 0 [48,97,98,99])),enc (.rep .plus t),enc t]])[S1.length]? _;rw[bS,aB]
 have x2:Ext S1 (S1++[SO.lst [enc (.or t (.one 0 [48,97,98,99])),enc (.rep .plus t),enc t]]):=Ext.app _;have g2:=x2.get g1;rwa[tH (jr _ ∅) (by simp;erw[gE _ ∅]) λu hu=>?_]
 obtain⟨x,hx,rfl⟩:∃x,(x=.or t (.one 0 [48,97,98,99])\/x=.rep .plus t\/x=t)/\u=enc x:=by
  rcases aN.mp hu with rfl|hu
  .exact#[_,.inl rfl,rfl]
  .rcases aN.mp hu with rfl|hu
   .exact#[_,.inr (.inl rfl),rfl]
   .rw[bp.mp hu];exact#[t,.inr (.inr rfl),rfl]
 show getL (S1++[SO.lst [enc (.or t (.one 0 [48,97,98,99])),enc (.rep .plus t),enc t]])[L']? _
 rw[g2,aB,ae]
 have ez:IC ts.length (i:Int)=ξ i:=by unfold IC;rw[if_pos ∅,if_pos ∅,fG]
 rw[ez,aW]
 rwa[Rest.go ?_];rw[Es]
 rwa[q i t x L' _ _ _ et hx ((x1.trans x2).st (uk hL)) ?_];exact(gs g2).trans (by rw[List.map_set])
def z9{p:Tr->Prop}{ts:List Tr}{i:Nat}{x:Tr}(h:∀t∈ts,p t)(hx:p x):∀t∈ts.set i x,p t:=λt m=>(List.mem_or_eq_of_mem_set m).elim (h t) λe=>%[e|hx]
def K9(Γ:bY)(h1:Γ "_law_mix"=uO.yk)(h2:Γ "_law_trees"=SE)(h4:Γ "written"=BK (λt=>bM t<=4\/(wq t/\bM t<=4+1)) wr)(h5:Γ "difference"=Oo)(h6:Γ "_law_first"=Oh)(h7:Γ "_law_earlier"=Ot):Keeps Γ Hi.Et 6 (λus _ Q=>∃ns:List Int,us=[.sZ ns]/\ns.length<=63/\∀S',Q (.bl ζ) S'):=by
 rintro us S Q ⟨ns,rfl,hl,q⟩;unfold Hi.Et;room;rwa[ca h1 #[ns,_,rfl,∅,λm m0 m1=>#[∅,?_]]];obtain⟨d,k1,d1,dk⟩:∃d:Nat,(3:Int)-(1+m%2)=d/\d<=2/\(d<=1\/1+m%2=1):=#[(2-m%2).toNat,∅,∅,∅]
 have k2:0<=1+m%2/\1+m%2<=2/\1<=1+m%2:=∅
 show Rest Γ _ _ [ξ (.sZ ns),ξ (.int (1+m%2)),ψ,ψ,ψ,ψ,ψ] S
 generalize 1+m%2=k at k1 k2 dk;room;rw[k1]
 refine ca h2 #[ns,0,k,d,rfl,d1,∅,∅,∅,λts n S2 hT hV hz hs x2 g2=>?_];let#[ln,d4,sm]:=hs;room;refine ca h1 #[ns,_,rfl,∅,λm' m0 m1=>#[∅,?_]];refine ca h2 #[ns,20,1+m'%2,1,rfl,⋯,∅,∅,∅,λts' n' S3 hT' hV' hz' _ x3 g3=>?_];have x03:=x2.trans x3;have g2:=x3.get g2;have z1:dX ts<=5:=by
  rcases dk with dk|dk
  .have:=K5 ts 2 λt m=>(sm dk t m).1
   omega
  .omega
 have R:Pm S3 n ts:=#[g2,hT,hV,∅]
 room;rwa[ca h1 #[ns,_,rfl,∅,λm' m0 m1=>#[∅,?_]]];show hJ .eq (.int (m'%2)) (.int 0) S3 _;rw[IM,MN]
 generalize (m'%2==0)=b;cases b with
 |false=>
  rw[if_neg ⋯]
  rwa[Rest.go ?_];rw[Es]
  erw[Fc Γ h4 h5 h6 h7 R #[g3,hT',hV',∅] q]
 |true=>
  rw[if_pos rfl]
  rwa[Ou Γ h1 hl g2 ∅ ∅ λi t x L' S4 y4 y5 et hx x4 g4=>?_]
  have mt:=ah et;have px:size x<=size t+1/\bM x<5/\null x=ϑ/\oB x:=by
   have a1:=d4 t mt;have a2:=hT.nl t mt;have a3:=hV t mt;rcases hx with rfl|rfl|rfl
   .refine#[aq _,by show max (bM t) 0+1<5;omega,by show(null t||false)=ϑ;rw[a2];rfl,λl hl=>?_]
    rcases aL.mp hl with h|h
    .erw[a3 l h]
    .rw[bp.mp h];decide
   .exact#[fF _,by show bM t+1<5;omega,a2,a3]
   .exact#[fF _,∅,a2,a3]
  have sx:=K8 et px.1;have lx:(ts.set i x).length=ts.length:=b8;let#[T1,T2]:=Tv (l:=ts.set i x) ∅ (z9 hT.nl px.2.2.1) (z9 hT.dp px.2.1) ∅ (z9 hV px.2.2.2);erw[Fc Γ h4 h5 h6 h7 (R.ext x4) #[by rw[(si _ 1).1];exact g4,T1,T2,by rw[(si _ 1).2.2.1];omega] q]
end PL.uD
end
namespace L2
open PySem PySem.Spec PyProof.Rows PySem.W
open PL (U SO bG KU bY)
abbrev xg:PL.Spec:=λ_ _ _=>False
abbrev GN(Γ:bY)(x:String)(sp:PL.Spec):bY:=λy=>if y=x then sp else Γ y
abbrev Role(c:Ctx)(T:Tab)(x:String)(f:Addr):Prop:=
 (x∈T.fns/\c.mg (nm x)=ξ (.ref f))\/(∃p∈T.qI,x=p.2++"."++p.1/\∃C,c.cls p.2=ξ C/\Meth c.K C (nm p.1) f)\/(∃y∈T.qH,x=y++".__init__"/\∃C,c.cls y=ξ C/\Mk c.K C f)
def FnAt.mono(F:FnAt c j f sp)(h:j<=k):FnAt c k f sp:=by
 let#[fd,ps,F,B]:=F;exact#[fd,ps,F.mono h,B]
def bE:GN Γ x sp x=sp:=if_pos rfl
def u6(h:y≠x):GN Γ x sp y=Γ y:=if_neg h
def gK.add(G:gK c T Γ k)(h:k<=k')(F:∀f,Role c T x f->FnAt c k' f sp):gK c T (GN Γ x sp) k':=by
 refine#[λy hy=>?_,λp hp=>?_,λy hy=>?_]
 .let#[f,hm,kp,A]:=G.fns y hy
  refine#[f,hm,kp,?_];by_cases e:y=x
  .subst e;rw[bE];erw[F f (.inl #[hy,hm])]
  .rw[u6 e];erw[A.mono h]
 .let#[C,f,hc,hm,A]:=G.T6 p hp
  refine#[C,f,hc,hm,?_];by_cases e:p.2++"."++p.1=x
  .rw[e,bE];erw[F f (.inr (.inl #[p,hp,e.symm,C,hc,hm]))]
  .rw[u6 e];erw[A.mono h]
 .let#[C,f,hc,hg,hm,A]:=G.cls y hy
  refine#[C,f,hc,hg,hm,?_];by_cases e:y++".__init__"=x
  .rw[e,bE];erw[F f (.inr (.inr #[y,hy,e.symm,C,hc,hm]))]
  .rw[u6 e];erw[A.mono h]
def Ow(hm:c.mg (nm x)=ξ (.ref f0))(h2:(T.qI.all λp=>p.2++"."++p.1 !=x)=ζ)(h3:(T.qH.all λy=>y++".__init__" !=x)=ζ)(R:Role c T x f):f=f0:=by
 rcases R with⟨_,e⟩|⟨p,hp,e,_⟩|⟨y,hy,e,_⟩
 .rw[hm] at e;cases e;rfl
 .have:=cy.mp h2 p hp
  rw[e] at this;simp at this
 .have:=cy.mp h3 y hy
  rw[e] at this;simp at this
def Oy(hc:c.cls cl=ξ C)(hm:Meth c.K C (nm m) f0)(h1:T.fns.contains (cl++"."++m)=ϑ)(h2:(T.qI.all λp=>p.2++"."++p.1 !=cl++"."++m||(p.1==m&&p.2==cl))=ζ)(h3:(T.qH.all λy=>y++".__init__" !=cl++"."++m)=ζ)(R:Role c T (cl++"."++m) f):f=f0:=by
 rcases R with⟨h,_⟩|⟨p,hp,e,C',hc',hm'⟩|⟨y,hy,e,_⟩
 .erw[absurd (gS.mpr h) (by rw[h1];simp)]
 .have:=cy.mp h2 p hp
  rw[e] at this;simp at this;let#[e1,e2]:=this;rw[e2,hc] at hc';cases hc';rw[e1] at hm';have:=hm.at_.symm.trans hm'.at_;cases this;rfl
 .have:=cy.mp h3 y hy
  rw[e] at this;simp at this
def Oz(hc:c.cls cl=ξ C)(hm:Mk c.K C f0)(h1:T.fns.contains (cl++".__init__")=ϑ)(h2:(T.qI.all λp=>p.2++"."++p.1 !=cl++".__init__")=ζ)(h3:(T.qH.all λy=>y++".__init__" !=cl++".__init__"||y==cl)=ζ)(R:Role c T (cl++".__init__") f):f=f0:=by
 rcases R with⟨h,_⟩|⟨p,hp,e,C',hc',hm'⟩|⟨y,hy,e,C',hc',hm'⟩
 .erw[absurd (gS.mpr h) (by rw[h1];simp)]
 .have:=cy.mp h2 p hp
  rw[e] at this;simp at this
 .have:=cy.mp h3 y hy
  rw[e] at this;simp at this;rw[this,hc] at hc';cases hc';have:=hm.init.symm.trans hm'.init;cases this;rfl
def XA(B:Binds c.K fd ps []):FnAt c k f xg:=
 #[fd,ps,#[λvs H Q E h=>by let#[us,ρ,S0,QU,r,R,w,q]:=h;erw[w.elim],λA outer s H args us vs Q E hr he hb hv hs=>by let#[us,ρ,S0,QU,r,R,w,q]:=hs;erw[w.elim]],B]
structure Df(c:Ctx)(T:Tab)(st:Stmt)(f:Addr)(N ps:List Str)(b:PL.dC)(m:Nat):Prop where
 fn:∃x qual fd,Lo c.K x qual st f fd/\Binds c.K fd ps []
 sc:l6 N ps (bU st)
 tx:∃n,Lr T n #[(bU st).names,N,ζ] (fY st)=ξ b
 hm:N.length=ps.length+m
def Df.ok{c:Ctx}{T:Tab}{Γ:bY}{st:Stmt}{f:Addr}{N ps:List Str}{b:PL.dC}{m k kx:Nat}{sp:PL.Spec}(D:Df c T st f N ps b m)(B:Base c T kx)(hkx:kx<=k)(G:gK c T Γ k)(hk:PL.Keeps Γ b m sp)(hl:∀us S Q,sp us S Q->us.length=ps.length):FnAt c (k+2) f sp:=by
 let#[x,qual,fd,F,Bi]:=D.fn;let#[n,hc]:=D.tx;exact#[fd,ps,OZ F D.sc B hkx G hc hk D.hm hl,Bi]
def Df.up{c:Ctx}{T:Tab}{Γ:bY}{st:Stmt}{f:Addr}{N ps:List Str}{b:PL.dC}{m k kx:Nat}{x:String}{sp:PL.Spec}(D:Df c T st f N ps b m)(R:∀g,Role c T x g->g=f)(B:Base c T kx)(hkx:kx<=k)(G:gK c T Γ k)(hk:PL.Keeps Γ b m sp)(hl:∀us S Q,sp us S Q->us.length=ps.length):gK c T (GN Γ x sp) (k+2):=
 G.add ∅ λg r=>%[R g r|D.ok B hkx G hk hl]
abbrev fm(Γ Γ':bY)(l:List String):Prop:=∀x,x∉l->Γ' x=Γ x
def fm.refl(Γ:bY)(l:List String):fm Γ Γ l:=λ_ _=>rfl
def fm.up(h:fm Γ Γ' l)(m:x∈l):fm Γ (GN Γ' x sp) l:=λy hy=>(u6 (λe=>hy (%[e|m]))).trans (h y hy)
def gK.none(h1:∀x∈T.fns,∃f,c.mg (nm x)=ξ (.ref f)/\Hy c.K (.ref f)=ζ/\FnAt c k f xg)(h2:∀p∈T.qI,∃C f,c.cls p.2=ξ C/\Meth c.K C (nm p.1) f/\FnAt c k f xg)
  (h3:∀x∈T.qH,∃C f,c.cls x=ξ C/\c.mg (nm x)=ξ (.ref C)/\Mk c.K C f/\FnAt c k f xg):gK c T (λ_=>xg) k:=#[h1,h2,h3]
open PL (U SO bG KU bY)
abbrev RN:List String:=["in_order","all_but","is_ahead","stretch","read","joined","Reader.__init__","Reader.sees","Reader.passes","Reader.choice","Reader.row","Reader.repeat","Reader.atom","Reader.bracket","Reader.sign_class","Reader.item","Reader.written_sign"]
structure fT(c:Ctx)(T:Tab)(x:String)(n m:Nat)(b:PL.dC):Prop where
 ex:∃st f N ps,Df c T st f N ps b m/\ps.length=n/\∀g,Role c T x g->g=f
structure GS(c:Ctx)(T:Tab)(kx:Nat)(Γ:bY)(k:Nat):Prop where
 le:kx<=k
 ok:gK c T Γ k
def fT.up(D:fT c T x n m b)(B:Base c T kx)(G:GS c T kx Γ k)(hk:PL.Keeps Γ b m sp)(hl:∀us S Q,sp us S Q->us.length=n):GS c T kx (GN Γ x sp) (k+2):=by
 let#[st,f,N,ps,D0,e,R]:=D.ex;exact#[Nat.le_add_right_of_le G.le,L2.Df.up D0 R B G.le G.ok hk (λus S Q h=>(hl us S Q h).trans e.symm)]
structure GO(c:Ctx)(T:Tab):Prop where
 RY:fT c T "in_order" 1 0 PL.nJ
 DB:fT c T "all_but" 1 0 PL.pH
 ahead:fT c T "is_ahead" 2 0 PL.nK
 JP:fT c T "stretch" 2 0 PL.pI
 read:fT c T "read" 1 2 PL.zq
 joined:fT c T "joined" 2 0 PL.rL
 init:fT c T "Reader.__init__" 2 0 PL.j7
 sees:fT c T "Reader.sees" 2 0 PL.j8
 passes:fT c T "Reader.passes" 2 0 PL.iU
 choice:fT c T "Reader.choice" 1 1 PL.iV
 row:fT c T "Reader.row" 1 1 PL.kP
 repeat_:fT c T "Reader.repeat" 1 1 PL.iW
 atom:fT c T "Reader.atom" 1 0 PL.j9
 bracket:fT c T "Reader.bracket" 1 1 PL.iA
 cls:fT c T "Reader.sign_class" 1 2 PL.fI
 item:fT c T "Reader.item" 1 3 PL.kb
 ws:fT c T "Reader.written_sign" 2 1 PL.eQ
def uh(us:List U)(S:bG)(Q:KU)(h:PL.As args p d us S Q):us.length=args.length+1:=by
 let#[r,x,rest,rfl,_]:=h;rfl
def len_T(us:List U)(S:bG)(Q:KU)(h:PL.spT f us S Q):us.length=1:=by
 let#[l,rfl,_]:=h;rfl
def BS(R:GO c T)(B:Base c T kx)(G:GS c T kx Γ k):∃Γ',GS c T kx Γ' (k+16)/\fm Γ Γ' RN/\PL.GR Γ'/\Γ' "joined"=PL.lF/\Γ' "Reader.__init__"=PL.oa:=by
 have g1:=R.RY.up B G (PL.Bv _) len_T;have g2:=R.DB.up B g1 (PL.vU _) len_T;have g3:=R.ahead.up B g2 (PL.Bw _) (λus S Q h=>by let#[a,b,rfl,_]:=h;rfl);have g4:=R.JP.up B g3 (PL.DA _) (λus S Q h=>by let#[a,b,rfl,_]:=h;rfl);have g5:=R.joined.up B g4 (PL.Gn _) (λus S Q h=>by let#[a,b,t,rfl,_]:=h;rfl);have g6:=R.init.up B g5 (PL.JX _) (λus S Q h=>by let#[a,b,rfl,_]:=h;rfl);have g7:=R.sees.up B g6 (PL.NH _) (λus S Q h=>by let#[a,b,_,_,_,rfl,_]:=h;rfl);have g8:=R.passes.up B g7 (PL.NI _ bE) (λus S Q h=>by let#[l,d,h]:=h;exact uh _ _ _ h);refine#[_,g8,?_,#[rfl,rfl,rfl,rfl,rfl,rfl],rfl,rfl];refine fm.up (fm.up (fm.up (fm.up (fm.up (fm.up (fm.up (fm.up (fm.refl _ _) ?_) ?_) ?_) ?_) ?_) ?_) ?_) ?_<;>decide
def XB(k d:Nat)(h:d+k=6)(hc:∀j,k=j+1->Γ "Reader.choice"=PL.As [] (PL.iC (PL.uf j)) (d+1)):PL.VY Γ (PL.uf k) d:=by
 cases k with
 |zero=>erw[.inl #[rfl,∅]]
 |succ j=>erw[.inr #[_,rfl,∅,PL.tF (j+1),hc j rfl]]
def ui(R:GO c T)(B:Base c T kx)(G:GS c T kx Γ k)(Sm:fm Γ0 Γ RN)(gr:PL.GR Γ)(gj:Γ "joined"=PL.lF)(gi:Γ "Reader.__init__"=PL.oa)(n d:Nat)(hd:d+n=6)
  (hc:∀j,n=j+1->Γ "Reader.choice"=PL.As [] (PL.iC (PL.uf j)) (d+1)):
  ∃Γ',GS c T kx Γ' (k+16)/\fm Γ0 Γ' RN/\PL.GR Γ'/\Γ' "joined"=PL.lF/\Γ' "Reader.__init__"=PL.oa/\Γ' "Reader.choice"=PL.As [] (PL.iC (PL.uf n)) d:=by
 let#[e1,e2,e3,e4,e5,e6]:=gr;have hbo:=PL.tF n;have g1:=R.bracket.up B G (PL.VZ _ #[e1,e2,e3,e4,e5,e6] (PL.uf n) d (XB n d hd hc)) (λus S Q h=>by let#[a,b,_,rfl,_]:=h;rfl);have g2:=R.ws.up B g1 (PL.JQ _ #[e1,e2,e3,e4,e5,e6] d) (λus S Q h=>by let#[m,h]:=h;exact uh _ _ _ h);have g3:=R.item.up B g2 (PL.NK _ d #[#[e1,e2,e3,e4,e5,e6],rfl]) uh;have g4:=R.cls.up B g3 (PL.RZ _ d #[#[#[e1,e2,e3,e4,e5,e6],rfl],rfl]) uh;have g5:=R.atom.up B g4 (PL.NO _ (PL.uf n) d #[#[#[#[e1,e2,e3,e4,e5,e6],rfl],rfl],rfl,rfl]) uh;have g6:=R.repeat_.up B g5 (PL.Gs _ (PL.uf n) d hbo #[#[#[#[#[e1,e2,e3,e4,e5,e6],rfl],rfl],rfl,rfl],rfl]) uh;have g7:=R.row.up B g6 (PL.R8 _ (PL.uf n) d hbo #[#[#[#[#[#[e1,e2,e3,e4,e5,e6],rfl],rfl],rfl,rfl],rfl],rfl,gj]) uh;have g8:=R.choice.up B g7 (PL.Gu _ (PL.uf n) d hbo #[#[#[#[#[#[#[e1,e2,e3,e4,e5,e6],rfl],rfl],rfl,rfl],rfl],rfl,gj],rfl]) uh;refine#[_,g8,?_,#[e1,e2,e3,e4,e5,e6],gj,gi,rfl];refine fm.up (fm.up (fm.up (fm.up (fm.up (fm.up (fm.up (fm.up Sm ?_) ?_) ?_) ?_) ?_) ?_) ?_) ?_<;>decide
def wC(R:GO c T)(B:Base c T kx)(G:GS c T kx Γ k)(Sm:fm Γ0 Γ RN)(gr:PL.GR Γ)(gj:Γ "joined"=PL.lF)(gi:Γ "Reader.__init__"=PL.oa):
  ∀(n d:Nat),d+n=6->∃Γ',GS c T kx Γ' (k+16*(n+1))/\fm Γ0 Γ' RN/\PL.GR Γ'/\Γ' "joined"=PL.lF/\Γ' "Reader.__init__"=PL.oa/\Γ' "Reader.choice"=PL.As [] (PL.iC (PL.uf n)) d
 |0,d,h=>ui R B G Sm gr gj gi 0 d h (λj e=>∅)
 |n+1,d,h=>by
  let#[Γ1,G1,S1,r1,j1,i1,c1]:=wC R B G Sm gr gj gi n (d+1) ∅;let#[Γ2,G2,z]:=ui R B G1 S1 r1 j1 i1 (n+1) d h (λj e=>by cases e;erw[c1]);exact#[Γ2,G2,z]
def DT(R:GO c T)(B:Base c T kx)(G:GS c T kx Γ k):∃Γ',GS c T kx Γ' (k+130)/\fm Γ Γ' RN/\Γ' "read"=PL.DE/\Γ' "all_but"=PL.spT PL.eD:=by
 let#[Γ1,G1,S1,r1,j1,i1]:=BS R B G;let#[Γ2,G2,S2,r2,j2,i2,c2]:=wC R B G1 S1 r1 j1 i1 6 0 rfl;have g:=R.read.up B G2 (PL.NP _ i2 c2) (λus S Q h=>by let#[x,rfl,_]:=h;rfl);exact#[_,g,fm.up S2 ⋯,bE,r2.DB]
open PL (U SO bG KU bY)
structure pe where
 x:String
 q:String
 cl:String
 st:Stmt
 N:List Str
 ps:List Str
 b:PL.dC
abbrev GQ(K:Frag)(x qual:Str)(st:Stmt)(f:Addr):Prop:=∃(oc:Value)(od:Option Addr)(kV dc pm:Value)(an:Option Addr)(cd ct:Value)(sl:Array (Option Value)),
 K.lookup f=ξ #[oc,od,.func (fnOf x qual (l7 st) (fY st) (bU st) .none kV dc pm an cd ct),sl]/\codeIn K cd qual=ζ/\Hy K (.ref f)=ζ
def GQ.fn{K:Frag}{x qual:Str}{st:Stmt}{f:Addr}(h:GQ K x qual st f):∃fd,Lo K x qual st f fd/\Hy K (.ref f)=ζ:=by
 let#[oc,od,kV,dc,pm,an,cd,ct,sl,h1,h2,h3]:=h;exact#[_,Ij h1 h2 h3,h3]
inductive BU(K:Frag)(CA:List (String×Addr)):pe->Prop
 |fn{q:String}{st:Stmt}{N ps:List Str}{b:PL.dC}{f:Addr}:nsIn K bI (cj q)=ξ (ξ (.ref f))->GQ K (cj q) (cj q) st f->BU K CA #[q,q,"",st,N,ps,b]
 |mt{x q cl:String}{st:Stmt}{N ps:List Str}{b:PL.dC}{f C:Addr}:(cl=="")=ϑ->CA.lookup cl=ξ C->findIn K (.ref C) (cj q)=ξ (ξ (.ref f))->isFn K (.ref f)=ζ->GQ K (cj q) (cj x) st f->BU K CA #[x,q,cl,st,N,ps,b]
abbrev Aa(r:pe):Prop:=∀(x qual:Str)(kV dc pm:Value)(an:Option Addr)(cd ct:Value)(us:List Value),us.length=r.ps.length->LB (fnOf x qual (l7 r.st) (fY r.st) (bU r.st) .none kV dc pm an cd ct) #[us,[]]=pure (r.ps.zip us)
@[reducible]def La(r:pe)(us:List Value):Prop:=∀(x qual:Str)(kV dc pm:Value)(an:Option Addr)(cd ct:Value),LB (fnOf x qual (l7 r.st) (fY r.st) (bU r.st) .none kV dc pm an cd ct) #[us,[]]=pure (r.ps.zip us)
def TC{α:Type}{l:List α}{n:Nat}(h:l.length=n+1):∃a r,l=a::r/\r.length=n:=by
 cases l with
 |nil=>erw[absurd h (Nat.succ_ne_zero n).symm]
 |cons a r=>exact#[a,r,rfl,nh h]
def ln1{α:Type}{l:List α}(h:l.length=1):∃a,l=[a]:=jN.mp h
def ln2{α:Type}{l:List α}(h:l.length=2):∃a b,l=[a,b]:=by
 let#[a,r,rfl,k]:=TC h;let#[b,rfl]:=ln1 k;exact#[a,b,rfl]
def ln3{α:Type}{l:List α}(h:l.length=3):∃a b c,l=[a,b,c]:=by
 let#[a,r,rfl,k]:=TC h;let#[b,c,rfl]:=ln2 k;exact#[a,b,c,rfl]
def bd0{r:pe}(e:r.ps.length=0)(h:La r []):Aa r:=λx q a b c d f g us hl=>by
 rw[e] at hl;obtain rfl:=oj.mp hl;erw[h x q a b c d f g]
def bd1{r:pe}(e:r.ps.length=1)(h:∀a,La r [a]):Aa r:=λx q a b c d f g us hl=>by
 let#[u,rfl]:=ln1 (hl.trans e);erw[h u x q a b c d f g]
def bd2{r:pe}(e:r.ps.length=2)(h:∀a b,La r [a,b]):Aa r:=λx q a b c d f g us hl=>by
 let#[u,v,rfl]:=ln2 (hl.trans e);erw[h u v x q a b c d f g]
def bd3{r:pe}(e:r.ps.length=3)(h:∀a b c,La r [a,b,c]):Aa r:=λx q a b c d f g us hl=>by
 let#[u,v,w,rfl]:=ln3 (hl.trans e);erw[h u v w x q a b c d f g]
def bd4{r:pe}(e:r.ps.length=4)(h:∀a b c d,La r [a,b,c,d]):Aa r:=λx q a b c d f g us hl=>by
 let#[u,s,rfl,k]:=TC (hl.trans e);let#[v,w,z,rfl]:=ln3 k;erw[h u v w z x q a b c d f g]
abbrev GU(r:pe):Bool:=(bU r.st).kind==.function && !(bU r.st).isCoroutine && !(bU r.st).isGenerator&&decide r.N.Nodup&&r.N.take r.ps.length==r.ps&&(r.ps.all λx=>(bU r.st).names.lookup x==ξ .local||(bU r.st).names.lookup x==ξ .cell)&&((bU r.st).names.all λy=>y.2 !=.free)&&decide (r.ps.length<=r.N.length)
def GU.sc{r:pe}(h:GU r=ζ):l6 r.N r.ps (bU r.st)/\r.ps.length<=r.N.length:=by
 unfold GU at h;dsimp[ar,cy,decide_eq_true_eq,bq,beq_iff_eq,gW,bne_iff_ne] at h;let#[#[#[#[#[#[#[h1,h2],h3],h4],h5],h6],h7],h8]:=h;exact#[#[h1,h2,h3,h4,h5,h6,h7],h8]
abbrev TF(T:Tab)(r:pe):Bool:=
 if r.cl=="" then(T.qI.all λp=>p.2++"."++p.1 !=r.x)&&(T.qH.all λy=>y++".__init__" !=r.x)
 else !(T.fns.contains r.x)&&r.x==r.cl++"."++r.q&&if r.q=="__init__" then(T.qI.all λp=>p.2++"."++p.1 !=r.x)&&(T.qH.all λy=>y++".__init__" !=r.x||y==r.cl)
  else(T.qI.all λp=>p.2++"."++p.1 !=r.x||(p.1==r.q&&p.2==r.cl))&&(T.qH.all λy=>y++".__init__" !=r.x)
abbrev Lb(rows:List pe):List String:=(rows.filter λr=>r.cl=="").map (·.x)
abbrev Lc(rows:List pe):List (String×String):=(rows.filter λr=>r.cl !=""&&r.q !="__init__").map λr=>(r.q,r.cl)
structure OA(K:Frag)(p:String×Addr)(fl:List String):Prop where
 ns:nsIn K bI (cj p.1)=ξ (ξ (.ref p.2))
 cl:xF K p.2
 ms:makesIn K p.2=ζ
 kp:Hy K (.ref p.2)=ζ
 na:fl.map (λf=>findIn K (.ref p.2) (cj f))=fl.map λ_=>ξ ψ
def sr{α:Type}{x:String}{a:α}:∀{l:List (String×α)},l.lookup x=ξ a->(x,a)∈l
 | (k,v)::l,h=>by
  rw[aP] at h;split at h
  .rename_i e
   have e:x=k:=eq_of_beq e;cases h;subst e;erw[aQ ..]
  .erw[ay _ (sr h)]
def XC{K:Frag}{C:Addr}{fl:List String}(h:fl.map (λf=>findIn K (.ref C) (cj f))=fl.map λ_=>ξ ψ):∀f∈fl,mF K C (nm f):=λf m=>tZ.mp h f m
section
variable{c:Ctx}{T:Tab}{rows:List pe}{CA:List (String×Addr)}{h:Heap}{fl:List String}
def OB(X:c.K.In h)(G:h.Ns bI c.mg)(hc:c.cls=λx=>CA.lookup x)(hC:∀p∈CA,OA c.K p fl)(R:∀r∈rows,BU c.K CA r)(bd:∀r∈rows,Aa r)(sc:rows.all GU=ζ)(rl:rows.all (TF T)=ζ)
  (tx:rows.map (λr=>Lr T 60 #[(bU r.st).names,r.N,ζ] (fY r.st))=rows.map λr=>ξ r.b) (i:Nat) (r:pe) (e:rows[i]?=ξ r):fT c T r.x r.ps.length (r.N.length-r.ps.length) r.b:=by
 have m:=ah e;let#[s1,s2]:=(cy.mp sc r m |> GU.sc)
 have t:=tZ.mp tx r m;have b:=bd r m;have rr:=cy.mp rl r m;have ln:r.N.length=r.ps.length+(r.N.length-r.ps.length):=∅
 cases R r m with
 |fn h1 h2=>
  let#[fd,F,kp]:=h2.fn;refine#[#[_,_,_,_,#[#[_,_,fd,F,F.binds λkV dc pm an cd ct us hl=>b _ _ kV dc pm an cd ct us hl],s1,#[60,t],ln],rfl,λg ro=>?_]];have rr:((T.qI.all λp=>p.2++"."++p.1 !=_)&&(T.qH.all λy=>y++".__init__" !=_))=ζ:=rr;rw[ar] at rr;erw[Ow (qU X G h1) rr.1 rr.2 ro]
 |@mt x q cl st N ps b' f C hn h0 h1 h2 h3=>
  let#[fd,F,kp]:=h3.fn;refine#[#[_,_,_,_,#[#[_,_,fd,F,F.binds λkV dc pm an cd ct us hl=>b _ _ kV dc pm an cd ct us hl],s1,#[60,t],ln],rfl,λg ro=>?_]];unfold TF at rr;dsimp[hn,aw,if_false,ar,gW,beq_iff_eq] at rr;let#[#[r1,r2],r3]:=rr;have hcl:c.cls cl=ξ C:=%[hc|h0]
  have cm:=hC _ (sr h0);subst r2;by_cases z:q="__init__"
  .subst z
   dsimp[if_true,ar] at r3;have e:cl++"."++"__init__"=cl++".__init__":=by rw[String.append_assoc];rfl
   have ro:Role c T (cl++"."++"__init__") g:=ro;rw[e] at r1 r3 ro;erw[Oz (cl:=cl) hcl #[cm.ms,h1,h2,cm.kp] r1 r3.1 r3.2 ro]
  .rw[if_neg z,ar] at r3
   erw[Oy (m:=q) (cl:=cl) hcl #[h1,h2,kp] r1 r3.1 r3.2 ro]
def DV{r:pe}{f:Addr}{x qual:Str}{k:Nat}(b:Aa r)(h:GQ c.K x qual r.st f):FnAt c k f xg:=by
 let#[fd,F,kp]:=h.fn;erw[XA (F.binds λkV dc pm an cd ct us hl=>b _ _ kV dc pm an cd ct us hl)]
def TH{k:Nat}(X:c.K.In h)(G:h.Ns bI c.mg)(hc:c.cls=λx=>CA.lookup x)(hC:∀p∈CA,OA c.K p fl)(R:∀r∈rows,BU c.K CA r)(bd:∀r∈rows,Aa r)
  (t1:T.fns=Lb rows) (t2:T.qI=Lc rows) (t3:∀x∈T.qH,∃r∈rows,r.cl=x/\r.q="__init__"/\(x=="")=ϑ):gK c T (λ_=>xg) k:=by
 rwa[gK.none (λx hx=>?_) (λp hp=>?_) (λx hx=>?_)]
 .rw[t1] at hx
  let#[r,hr,rfl]:=bD.mp hx;let#[m,e]:=fq.mp hr;have b:=bd r m;cases R r m with
  |@fn q st N ps b' f h1 h2=>
   let#[fd,F,kp]:=h2.fn;exact#[f,qU X G h1,kp,DV b h2]
  |mt hn=>erw[absurd e (by show ¬(_=="")=ζ;rw[hn];simp)]
 .rw[t2] at hp
  let#[r,hr,rfl]:=bD.mp hp;let#[m,e]:=fq.mp hr;have b:=bd r m;cases R r m with
  |fn h1 h2=>simp at e
  |@mt x q cl st N ps b' f C hn h0 h1 h2 h3=>
   let#[fd,F,kp]:=h3.fn;exact#[C,f,%[hc|h0],#[h1,h2,kp],DV b h3]
 .let#[r,m,rfl,eq,ne]:=t3 x hx
  have b:=bd r m;cases R r m with
  |fn h1 h2=>simp at ne
  |@mt x q cl st N ps b' f C hn h0 h1 h2 h3=>
   have eq:q="__init__":=eq;subst eq;have cm:=hC _ (sr h0);exact#[C,f,%[hc|h0],qU X G cm.ns,#[cm.ms,h1,h2,cm.kp],DV b h3]
def TJ(hc:c.cls=λx=>CA.lookup x)(hC:∀p∈CA,OA c.K p fl)(x:String)(C:Addr)(h:c.cls x=ξ C):xF c.K C/\∀f∈fl,mF c.K C (nm f):=by
 rw[hc] at h;have:=hC _ (sr h);exact#[this.cl,XC this.na]
end
def u7{c:Ctx}{x:String}{s:Str}{t:Tok}{l:List Nat}(h:c.mg (nm x)=ξ (.str s t))(e:s=tx l):∃v u,c.mg (nm x)=ξ u/\RelV v u/\∀ρ H,Rep c ρ H (.str l) v:=
 #[.str (tx l),_,h,#[t,by rw[e]],λ_ _=>bC.mpr rfl]
def BV{K:Frag}{a:Addr}:∀(kvs:List (Str×Str)),(∀p∈kvs,∃t,nsIn K a p.1=ξ (ξ (.str p.2 t)))->∀k v,(kvs.map λp=>(p.1,V.str p.2)).lookup k=ξ v->∃u,RelV v u/\nsIn K a k=ξ (ξ u)
 |[],_,k,v,h=>by simp at h
 |p::r,hp,k,v,h=>by
  rw[az,aP] at h;split at h
  .rename_i e
   have e:k=p.1:=eq_of_beq e;cases h;let#[t,z]:=hp p (aQ ..);exact#[_,#[t,rfl],%[e|z]]
  .erw[BV r (λq hq=>hp q (ay _ hq)) k v h]
abbrev GV:Value->Option Str
 |.str s _=>ξ s
 |_=>ψ
def Fd(k:Str):∀(es:List p9)(ks:List Str),es.map (λe=>GV e.key)=ks.map ξ->k∉ks->es.find? (·.key.isStr k)=ψ/\es.any (·.refKey)=ϑ
 |[],_,_,_=>#[rfl,rfl]
 |e::r,[],h,_=>by cases h
 |⟨hs,ky,vl⟩::r,q::ks,h,n=>by
  rw[az,az,dE] at h;let#[i,j]:=Fd k r ks h.2 λz=>n (ay _ z)
  have h1:GV ky=ξ q:=h.1;cases ky with
  |str s t=>
   have e:s=q:=aH h1;subst e;have ne:(s==k)=ϑ:=by
    rw[beq_eq_false_iff_ne];erw[λz=>n (z▸aQ ..)]
   exact#[by rw[d8];show(match (s==k) with|true=>_|false=>_)=_;rw[ne];erw[i],by rw[dm,j];rfl]
  |_=>cases h1
def OC{c:Ctx}{x:String}{a:Addr}{es:Array p9}{n:Nat}{kvs:List (List Nat×List Nat)}(h:c.mg (nm x)=ξ (.ref a))(l:c.K.lookup a=ξ #[.type "dict",ψ,.dict es n,#[]])(kl:B7 c.w.params es.toList)
  (ky:es.toList.map (λe=>GV e.key)=(kvs.map λp=>tx p.1).map ξ) (ns:(a==cb)=ϑ)
  (hk:∀p∈kvs,∃t,nsIn c.K a (tx p.1)=ξ (ξ (.str (tx p.2) t))):∃v u,c.mg (nm x)=ξ u/\RelV v u/\∀ρ H,Rep c ρ H (.tab kvs) v:=by
 refine#[.ref a,_,h,rfl,λρ H=>uQ.mpr #[a,rfl,#[es,n,l,kl],λk v e=>?_,λk e=>?_,ns]]
 .rwa[BV (kvs.map λp=>(tx p.1,tx p.2)) ?_ k v (%[bw|e])]
  intro p hp;let#[q,hq,rfl]:=bD.mp hp;erw[hk q hq]
 .have nm:k∉kvs.map λp=>tx p.1:=λz=>by
   let#[q,hq,rfl]:=bD.mp z;have:=List.lookup_eq_none_iff.mp e (tx q.1,V.str (tx q.2)) (bD.mpr #[q,hq,rfl]);simp at this
  let#[i,j]:=Fd k _ _ ky nm;unfold nsIn;rw[l]
  show(match es.toList.find? (·.key.isStr k) with|some e=>ξ (ξ e.val)|none=>if es.toList.any (·.refKey) then ψ else ξ ψ)=ξ ψ
  rw[i,j]
  rfl
def XD{c:Ctx}{x:String}{a:Addr}{es:Array p9}{n:Nat}{z0 z1 z2 k0 k1 k2:Str}{t0 t1 t2:Tok}{l0 l1 l2 m0 m1 m2:List Nat}(h:c.mg (nm x)=ξ (.ref a))(l:c.K.lookup a=ξ #[.type "dict",ψ,.dict es n,#[]])(kl:B7 c.w.params es.toList)
  (ky:es.toList.map (λe=>GV e.key)= [ξ k0,ξ k1,ξ k2]) (ns:(a==cb)=ϑ) (c0:k0=tx l0) (c1:k1=tx l1) (c2:k2=tx l2)
  (r0:nsIn c.K a k0=ξ (ξ (.str z0 t0))) (e0:z0=tx m0) (r1:nsIn c.K a k1=ξ (ξ (.str z1 t1))) (e1:z1=tx m1) (r2:nsIn c.K a k2=ξ (ξ (.str z2 t2))) (e2:z2=tx m2):
  ∃v u,c.mg (nm x)=ξ u/\RelV v u/\∀ρ H,Rep c ρ H (.tab [(l0,m0),(l1,m1),(l2,m2)]) v:=by
 subst c0 c1 c2 e0 e1 e2;rwa[OC h l kl ky ns ?_];erw[aY.mpr #[#[t0,r0],aY.mpr #[#[t1,r1],aY.mpr #[#[t2,r2],λ_ h=>(cG h).elim]]]]
open PL (U SO bG KU bY)
def gK.mono(G:gK c T Γ j)(h:j<=k):gK c T Γ k:=
 #[λx hx=>let ⟨f,a,b,d⟩:=G.fns x hx;#[f,a,b,d.mono h],λp hp=>let ⟨C,f,a,b,d⟩:=G.T6 p hp;#[C,f,a,b,d.mono h],λx hx=>let ⟨C,f,a,b,e,d⟩:=G.cls x hx;#[C,f,a,b,e,d.mono h]]
def gK.mix(G1:gK c T Γ1 k)(G2:gK c T Γ2 k)(h:∀x,Γ x=Γ1 x\/Γ x=Γ2 x):gK c T Γ k:=by
 refine#[λx hx=>?_,λp hp=>?_,λx hx=>?_]
 .rcases h x with e|e<;>rw[e]
  .erw[G1.fns x hx]
  .erw[G2.fns x hx]
 .rcases h (p.2++"."++p.1) with e|e<;>rw[e]
  .erw[G1.T6 p hp]
  .erw[G2.T6 p hp]
 .rcases h (x++".__init__") with e|e<;>rw[e]
  .erw[G1.cls x hx]
  .erw[G2.cls x hx]
def GS.mono(G:GS c T kx Γ j)(h:j<=k):GS c T kx Γ k:=#[aF G.le h,gK.mono G.ok h]
structure TK(c:Ctx)(T:Tab):Prop where
 written:fT c T "written" 1 0 PL.pJ
 row:fT c T "row_text" 1 0 PL.nM
 rep:fT c T "repeat_text" 1 2 PL.kc
 atom:fT c T "atom_text" 1 0 PL.md
 place:fT c T "place_text" 1 0 PL.kQ
 sign:fT c T "sign_text" 2 0 PL.me
 texts:fT c T "class_texts" 1 1 PL.ke
 guarded:fT c T "guarded" 1 0 PL.pK
 items:fT c T "class_items" 1 2 PL.kf
 runs:fT c T "runs" 1 3 PL.zr
 aaE:fT c T "run_items" 1 2 PL.mf
open PL.ni in
structure Ab(c:Ctx)(T:Tab):Prop where
 po:fT c T "places_of" 2 4 mi
 to:fT c T "tree_of" 2 1 pM
 mem:fT c T "members" 1 0 pN
 pt:fT c T "Part.__init__" 4 0 mj
 beh:fT c T "one_behind_other" 2 2 f9
 or_:fT c T "one_or_other" 2 0 jw
 li:fT c T "Layout.__init__" 1 0 kg
 hm:fT c T "Layout.how_many" 1 0 gH
 cr:fT c T "Layout.close_rule" 2 0 fJ
 lk:fT c T "Layout.link" 3 1 kh
 lay:fT c T "Layout.lay" 2 0 kR
 lp:fT c T "Layout.lay_place" 2 1 gc
 lr:fT c T "Layout.lay_row" 2 3 iB
 lc:fT c T "Layout.lay_choice" 2 2 fK
 lq:fT c T "Layout.lay_repeat" 2 4 fL
 us:fT c T "useful_places" 1 5 iX
 ptt:fT c T "places_that_take" 2 0 gf
 pi:fT c T "Places.__init__" 2 1 ki
 by_:fT c T "Places.beyond" 2 2 iY
 fr:fT c T "Places.first_rule" 2 2 fM
open PL.ni in
structure DW(c:Ctx)(T:Tab):Prop where
 cell:fT c T "_law_cell" 2 0 PL.uO.mh
 mix:fT c T "_law_mix" 2 1 PL.uO.nN
 all:fT c T "_law_all" 0 1 PL.uO.nO
 no:fT c T "_law_nothing" 1 0 jx
 be:fT c T "_law_behind" 2 4 kj
 re:fT c T "_law_rests" 2 3 kS
 ed:fT c T "_law_ends" 1 0 oY
 f1:fT c T "_law_first" 2 3 PL.uD.kX
 sm:fT c T "_law_small" 3 3 kT
 tr:fT c T "_law_trees" 4 3 kU
 ls:fT c T "_law_steps" 2 0 PL.Hi.k7
 lt:fT c T "_law_tells" 1 1 PL.Hi.k8
 er:fT c T "_law_earlier" 4 5 PL.Hi.jA
open PL.uD in
structure XE(c:Ctx)(T:Tab):Prop where
 tb:fT c T "table_of" 1 0 nP
 ti:fT c T "Table.__init__" 3 0 kW
 sp:fT c T "spread" 1 7 rM
 st:fT c T "smallest" 1 5 nQ
 wn:fT c T "with_nowhere" 1 1 jz
 ro:fT c T "rounds" 2 3 rN
 pa:fT c T "parted" 3 3 rO
 nu:fT c T "numbered" 1 1 nU
 te:fT c T "telling_signs" 1 2 iZ
open PL.Lp in
structure XF(c:Ctx)(T:Tab):Prop where
 di:fT c T "difference" 2 4 kY
 mv:fT c T "moved" 2 0 uP
 ta:fT c T "text_apart" 3 4 k5
 aa:fT c T "are_apart" 2 0 mm
 sb:fT c T "states_behind" 3 0 i3
 sa:fT c T "sign_apart" 3 0 k6
 sz:fT c T "Table.size" 1 0 kZ
open PL PL.ni in
def BW(us:List U)(S:bG)(Q:KU)(h:BK D f us S Q):us.length=1:=by
 let#[_,rfl,_]:=h;rfl
open PL PL.ni in
def yA(us:List U)(S:bG)(Q:KU)(h:ie D us S Q):us.length=2:=by
 let#[_,_,_,_,_,_,rfl,_]:=h;rfl
open PL PL.ni in
def su(W:TK c T)(B:Base c T kx)(G:GS c T kx Γ j)(k:Nat)(hk:k<=10)(D:Tr->Prop)(hD:∀t,bM t<=k->wq t->D t)(hp:Γ "place_text"=N3)(hw:Γ "written"=BK D wr):
  ∃Γ',GS c T kx Γ' (j+8)/\Γ' "place_text"=N3/\Γ' "written"=BK (λt=>bM t<=k\/(wq t/\bM t<=k+1)) wr:=by
 have g1:=W.atom.up B G (SI _ k D hD hp hw) BW;have g2:=W.rep.up B g1 (SJ _ k hk bE) BW;have g3:=W.row.up B g2 (SK _ k bE) BW;have g4:=W.written.up B g3 (SM _ k bE) BW;exact#[_,g4,hp,bE]
open PL PL.ni in
def XG(R:GO c T)(W:TK c T)(B:Base c T kx)(G:GS c T kx Γ j):∃Γ',GS c T kx Γ' (j+58)/\Γ' "written"=BK (λt=>bM t<=4\/(wq t/\bM t<=4+1)) wr:=by
 have a0:=R.DB.up B G (vU _) len_T;have a1:=W.sign.up B a0 (WA _) (λus S Q h=>by let#[_,_,rfl,_]:=h;rfl);have a2:=W.aaE.up B a1 (WC _ bE) (λus S Q h=>by let#[_,rfl,_]:=h;rfl);have a3:=W.runs.up B a2 (WG _) (λus S Q h=>by let#[_,rfl,_]:=h;rfl);have a4:=W.items.up B a3 (WJ _ rfl rfl) (λus S Q h=>by let#[_,rfl,_]:=h;rfl);have a5:=W.guarded.up B a4 (WL _) (λus S Q h=>by let#[_,_,rfl,_]:=h;rfl);have a6:=W.texts.up B a5 (WN _ rfl rfl rfl) (λus S Q h=>by let#[_,rfl,_]:=h;rfl);have a7:=W.place.up B a6 (WQ _ rfl rfl rfl) (λus S Q h=>by let#[_,rfl,_]:=h;rfl);have a8:=W.written.up B a7 (sp:=BK (λ_=>False) wr) (λus S Q h=>by let#[_,_,h,_]:=h;exact h.elim) BW;let#[Γ1,G1,p1,w1]:=su W B a8 0 ∅ _ (λt d r=>by cases t<;>first|exact r.elim|exact absurd d (Nat.not_succ_le_zero _)) rfl bE;obtain⟨Γ2,G2,p2,w2⟩:=su W B G1 1 ∅ _ (λt d r=>.inr #[r,d]) p1 w1;obtain⟨Γ3,G3,p3,w3⟩:=su W B G2 2 ∅ _ (λt d r=>.inr #[r,d]) p2 w2;obtain⟨Γ4,G4,p4,w4⟩:=su W B G3 3 ∅ _ (λt d r=>.inr #[r,d]) p3 w3;obtain⟨Γ5,G5,p5,w5⟩:=su W B G4 4 ∅ _ (λt d r=>.inr #[r,d]) p4 w4;exact#[Γ5,G5,w5]
section
open PL PL.ni
structure GP(Γ:bY):Prop where
 mem:Γ "members"=BD
 pt:Γ "Part.__init__"=zK
 beh:Γ "one_behind_other"=qL tJ
 or_:Γ "one_or_other"=qL V4
 li:Γ "Layout.__init__"=Sh
 hm:Γ "Layout.how_many"=Si
 cr:Γ "Layout.close_rule"=Sj
 lk:Γ "Layout.link"=Ke
 lp:Γ "Layout.lay_place"=ie λt u=>∃n l,t=.one n l/\u=.str l
variable{c:Ctx}{T:Tab}{Γ:bY}{j kx:Nat}
def OD(P:Ab c T)(B:Base c T kx)(G:GS c T kx Γ j):∃Γ',GS c T kx Γ' (j+20)/\GP Γ'/\Γ' "Layout.lay"=ie (Tu 0):=by
 have g1:=P.mem.up B G (Se _) (λus S Q h=>by let#[_,rfl,_]:=h;rfl);have g2:=P.pt.up B g1 (V3 _) (λus S Q h=>by let#[_,_,_,_,rfl,_]:=h;rfl);have g3:=P.beh.up B g2 (Sf _ bE) (λus S Q h=>by let#[_,_,_,_,_,_,_,_,rfl,_]:=h;rfl);have g4:=P.or_.up B g3 (V5 _ rfl) (λus S Q h=>by let#[_,_,_,_,_,_,_,_,rfl,_]:=h;rfl);have g5:=P.li.up B g4 (V6 _) (λus S Q h=>by let#[_,rfl,_]:=h;rfl);have g6:=P.hm.up B g5 (V7 _) (λus S Q h=>by let#[_,_,_,_,rfl,_]:=h;rfl);have g7:=P.cr.up B g6 (V8 _) (λus S Q h=>by let#[_,_,_,_,_,_,_,_,_,_,rfl,_]:=h;rfl);have g8:=P.lk.up B g7 (Wa _ rfl) (λus S Q h=>by let#[_,_,_,_,_,_,rfl,_]:=h;rfl);have g9:=P.lp.up B g8 (Wb _ rfl) yA;have ga:=P.lay.up B g9 (sp:=ie (Tu 0)) (λus S Q h=>by let#[_,_,_,_,_,_,_,h,_]:=h;erw[absurd h.1 (cX _)]) yA;exact#[_,ga,#[rfl,rfl,rfl,rfl,rfl,rfl,rfl,rfl,rfl],bE]
def pf(P:Ab c T)(B:Base c T kx)(G:GS c T kx Γ j)(g:GP Γ)(d:Nat)(hd:d<=100)(hl:Γ "Layout.lay"=ie (Tu d)):∃Γ',GS c T kx Γ' (j+8)/\GP Γ'/\Γ' "Layout.lay"=ie (Tu (d+1)):=by
 let#[e1,e2,e3,e4,e5,e6,e7,e8,e9]:=g;have g1:=P.lr.up B G (We _ d e2 hl e8 e3) yA;have g2:=P.lc.up B g1 (Wf _ d e2 hl e4) yA;have g3:=P.lq.up B g2 (Wg _ d hd e2 hl e8) yA;have g4:=P.lay.up B g3 (So _ d e9 rfl rfl rfl) yA;exact#[_,g4,#[e1,e2,e3,e4,e5,e6,e7,e8,e9],bE]
def XH(P:Ab c T)(B:Base c T kx)(G:GS c T kx Γ j):∃Γ',GS c T kx Γ' (j+75)/\GP Γ'/\Γ' "Layout.lay"=ie (Tu 5)/\Γ' "Places.__init__"=Kh/\Γ' "Places.beyond"=Ki/\Γ' "Places.first_rule"=Kj:=by
 let#[Γ0,G0,p0,l0]:=OD P B G;let#[Γ1,G1,p1,l1]:=pf P B G0 p0 0 ∅ l0;let#[Γ2,G2,p2,l2]:=pf P B G1 p1 1 ∅ l1;let#[Γ3,G3,p3,l3]:=pf P B G2 p2 2 ∅ l2;let#[Γ4,G4,p4,l4]:=pf P B G3 p3 3 ∅ l3;let#[Γ5,G5,p5,l5]:=pf P B G4 p4 4 ∅ l4;let#[e1,e2,e3,e4,e5,e6,e7,e8,e9]:=p5;have g1:=P.us.up B G5 (Wi _ e1) (λus S Q h=>by let#[_,_,_,_,rfl,_]:=h;rfl);have g2:=P.ptt.up B g1 (Sr _) (λus S Q h=>by let#[_,_,_,_,_,rfl,_]:=h;rfl);have g3:=P.pi.up B g2 (Wk _ rfl bE) (λus S Q h=>by let#[_,_,_,_,_,rfl,_]:=h;rfl);have g4:=P.by_.up B g3 (Wl _ e1) (λus S Q h=>by let#[_,_,_,_,_,rfl,_]:=h;rfl);have g5:=P.fr.up B g4 (Wm _) (λus S Q h=>by let#[_,_,_,_,_,rfl,_]:=h;rfl);exact#[_,g5.mono ∅,#[e1,e2,e3,e4,e5,e6,e7,e8,e9],l5,rfl,rfl,bE]
open PL.uD in
def XI(W:XE c T)(B:Base c T kx)(G:GS c T kx Γ j)(h1:Γ "Places.beyond"=Ki)(h2:Γ "Places.first_rule"=Kj)(g:GP Γ)(h3:Γ "Layout.lay"=ie (Tu 5))(h4:Γ "Places.__init__"=Kh):∃Γ',GS c T kx Γ' (j+25)/\GP Γ'/\Γ' "Layout.lay"=ie (Tu 5)/\Γ' "Places.__init__"=Kh/\Γ' "spread"=Ta/\Γ' "smallest"=Tf/\Γ' "with_nowhere"=KO/\Γ' "rounds"=KS:=by
 let#[e1,e2,e3,e4,e5,e6,e7,e8,e9]:=g;have g1:=W.nu.up B G (SQ _) (λus S Q h=>by let#[_,rfl,_]:=h;rfl);have g2:=W.te.up B g1 (SR _) (λus S Q h=>by let#[_,_,_,rfl,_]:=h;rfl);have g3:=W.wn.up B g2 (WW _) (λus S Q h=>by let#[_,_,_,rfl,_]:=h;rfl);have g4:=W.pa.up B g3 (SV _ rfl) (λus S Q h=>by let#[_,_,_,_,_,_,_,rfl,_]:=h;rfl);have g5:=W.ro.up B g4 (W0 _ rfl rfl bE) (λus S Q h=>by let#[_,_,_,_,rfl,_]:=h;rfl);have g6:=W.ti.up B g5 (W2 _) (λus S Q h=>by let#[_,_,_,_,rfl,_]:=h;rfl);have g9:=W.sp.up B g6 (W5 _ h1 h2 bE) (λus S Q h=>by let#[_,_,_,_,_,rfl,_]:=h;rfl);have ga:=W.st.up B g9 (W6 _ rfl rfl rfl) (λus S Q h=>by let#[_,_,_,_,_,rfl,_]:=h;rfl);exact#[_,ga.mono ∅,#[e1,e2,e3,e4,e5,e6,e7,e8,e9],h3,h4,rfl,bE,rfl,rfl]
open PL.uD in
def XJ(D:XF c T)(B:Base c T kx)(G:GS c T kx Γ j)(h1:Γ "table_of"=Th)(h2:Γ "with_nowhere"=KO)(h3:Γ "rounds"=KS):∃Γ',GS c T kx Γ' (j+14)/\Γ' "difference"=Oo:=by
 have g1:=D.aa.up B G (Xh _) (λus S Q h=>by let#[_,_,_,_,rfl,_]:=h;rfl);have g2:=D.sb.up B g1 (Xi _) (λus S Q h=>by let#[_,_,_,_,_,_,rfl,_]:=h;rfl);have g3:=D.sa.up B g2 (Xj _ rfl rfl) (λus S Q h=>by let#[_,_,_,_,_,_,_,rfl,_]:=h;rfl);have g4:=D.ta.up B g3 (Xm _ rfl rfl rfl) (λus S Q h=>by let#[_,_,_,_,_,_,_,_,_,rfl,_]:=h;rfl);have g5:=D.mv.up B g4 (Xo _) (λus S Q h=>by let#[_,_,_,_,rfl,_]:=h;rfl);have g6:=D.sz.up B g5 (Xq _) (λus S Q h=>by let#[_,_,_,_,rfl,_]:=h;rfl);have g7:=D.di.up B g6 (Xr _ h1 bE rfl h2 h3 rfl) (λus S Q h=>by let#[_,_,_,_,_,_,rfl,_]:=h;rfl);exact#[_,g7.mono ∅,bE]
def pW(L:DW c T)(B:Base c T kx)(G:GS c T kx Γ j)(d:Nat)(hd:d<=100)(h1:Γ "_law_nothing"=zS d)(h2:Γ "_law_behind"=DK d):∃Γ',GS c T kx Γ' (j+4)/\Γ' "_law_nothing"=zS (d+1)/\Γ' "_law_behind"=DK (d+1):=by
 have g1:=L.be.up B G (Ww _ d hd h2 h1) (λus S Q h=>by let#[_,_,rfl,_]:=h;rfl);have g2:=L.no.up B g1 (Wv _ d h1) (λus S Q h=>by let#[_,rfl,_]:=h;rfl);exact#[_,g2,bE,rfl]
def XM(L:DW c T)(B:Base c T kx)(G:GS c T kx Γ j):∃Γ',GS c T kx Γ' (j+70)/\Γ' "_law_mix"=uO.yk/\Γ' "_law_trees"=SE/\Γ' "_law_first"=PL.uD.Oh/\Γ' "_law_earlier"=PL.uD.Ot:=by
 have a1:=L.no.up B G (sp:=zS 0) (λus S Q h=>by
  obtain⟨_,_,⟨_,_,h,_⟩|⟨_,_,h,_⟩⟩:=h
  .erw[absurd h (cX _)]
  .erw[absurd h (cX _)]) (λus S Q h=>by let#[_,rfl,_]:=h;rfl)
 have a2:=L.be.up B a1 (sp:=DK 0) (λus S Q h=>by
  obtain⟨_,_,_,⟨_,_,h,_⟩|⟨_,_,h,_⟩⟩:=h
  .erw[absurd h (cX _)]
  .erw[absurd h (cX _)]) (λus S Q h=>by let#[_,_,rfl,_]:=h;rfl)
 let#[Γ1,G1,n1,b1]:=pW L B a2 0 ∅ rfl bE;let#[Γ2,G2,n2,b2]:=pW L B G1 1 ∅ n1 b1;let#[Γ3,G3,n3,b3]:=pW L B G2 2 ∅ n2 b2;let#[Γ4,G4,n4,b4]:=pW L B G3 3 ∅ n3 b3;let#[Γ5,G5,n5,b5]:=pW L B G4 4 ∅ n4 b4;let#[Γ6,G6,n6,b6]:=pW L B G5 5 ∅ n5 b5;have c1:=L.cell.up B G6 (sp:=uO.DG) (uO.NR _) (λus S Q h=>by let#[_,_,rfl,_]:=h;rfl);have c2:=L.mix.up B c1 (sp:=uO.yk) (uO.R9 _ bE) (λus S Q h=>by let#[_,_,rfl,_]:=h;rfl);have c3:=L.all.up B c2 (sp:=uO.JY) (uO.Sa _) (λus S Q h=>by let#[rfl,_]:=h;rfl);have c4:=L.sm.up B c3 (sp:=N5 0) (λus S Q h=>by let#[_,_,_,_,_,h,_]:=h;erw[absurd h (cX _)]) (λus S Q h=>by let#[_,_,_,rfl,_]:=h;rfl);have c5:=L.sm.up B c4 (Kw _ 0 rfl rfl bE) (λus S Q h=>by let#[_,_,_,rfl,_]:=h;rfl);have c6:=L.sm.up B c5 (Kw _ 1 rfl rfl bE) (λus S Q h=>by let#[_,_,_,rfl,_]:=h;rfl);have c7:=L.sm.up B c6 (Kw _ 2 rfl rfl bE) (λus S Q h=>by let#[_,_,_,rfl,_]:=h;rfl);have c8:=L.tr.up B c7 (WR _ bE n6) (λus S Q h=>by let#[_,_,_,_,rfl,_]:=h;rfl);have cc:=L.re.up B c8 (Wy _ b6) (λus S Q h=>by let#[_,_,_,_,_,_,rfl,_]:=h;rfl);have cd:=L.ed.up B cc (Wz _ n6) (λus S Q h=>by let#[_,_,_,_,rfl,_]:=h;rfl);have ce:=L.f1.up B cd (PL.uD.W9 _ rfl bE) (λus S Q h=>by let#[_,_,_,rfl,_]:=h;rfl);have cf:=L.ls.up B ce (PL.uD.Xu _ rfl) (λus S Q h=>by let#[_,_,_,_,rfl,_]:=h;rfl);have cg:=L.lt.up B cf (PL.uD.Xw _ rfl) (λus S Q h=>by let#[_,_,_,rfl,_]:=h;rfl);have ch:=L.er.up B cg (PL.uD.Xz _ rfl bE) (λus S Q h=>by let#[_,_,_,_,_,rfl,_]:=h;rfl);exact#[_,ch.mono ∅,rfl,rfl,rfl,bE]
def Ac(l:List String)(G1:GS c T kx Γ1 j)(G2:GS c T kx Γ2 j):GS c T kx (λx=>if x∈l then Γ1 x else Γ2 x) j:=#[G1.le,gK.mix G1.ok G2.ok λx=>by
 by_cases h:x∈l
 .erw[.inl (if_pos h)]
 .erw[.inr (if_neg h)]]
def Ld{xs qual:Str}{st:Stmt}{f:Addr}{fd:fQ}{N ps:List Str}(R:GO c T)(W:TK c T)(P:Ab c T)(Tb:XE c T)(D:XF c T)(L:DW c T)(F:Lo c.K xs qual st f fd)(S:l6 N ps (bU st))(tx:Lr T 60 #[(bU st).names,N,ζ] (fY st)=ξ PL.Hi.Et)(hm:N.length=ps.length+6)(hp:ps.length=1)(B:Base c T 1)(G:gK c T (λ_=>xg) 1):jI c.P c.w c.K c.mg c.base CU 200 f fd ps (lift c Dx):=by
 have G:GS c T 1 (λ_=>xg) 1:=#[aq _,G]
 obtain⟨Γr,Gr,-,hr,-⟩:=DT R B G;let#[Γw,Gw,hw]:=XG R W B G;let#[Γq,Gq,gq,ql,qi,qb,qf]:=XH P B G;let#[Γp,Gp,gp,pl,pi,ps1,pt,pw,pr]:=XI Tb B Gq qb qf gq ql qi;let#[Γl,Gl,l1,l2,l3,l4]:=XM L B G;let#[e1,e2,e3,e4,e5,e6,e7,e8,e9]:=gp;have m1:=Ac ["read"] Gr (Gp.mono (k:=1+130) ∅);have g1:=P.to.up B m1 (Wq _ hr) (λus S Q h=>by let#[_,_,_,_,rfl,_]:=h;rfl);have g2:=P.po.up B g1 (Wt _ e5 pl bE e6 e7 pi) (λus S Q h=>by let#[_,_,_,_,rfl,_]:=h;rfl);have g4:=Tb.tb.up B g2 (PL.uD.W8 _ bE ps1 pt) (λus S Q h=>by let#[_,_,_,rfl,_]:=h;rfl);let#[Γd,g5,d1]:=XJ D B g4 bE pw pr;have m2:=Ac ["written"] (Gw.mono (k:=160) ∅) (g5.mono ∅);have m3:=Ac ["_law_mix","_law_trees","_law_first","_law_earlier"] (Gl.mono (k:=160) ∅) m2;have h:=OZ F S B m3.le m3.ok tx (sp:=Dx) (PL.uD.K9 _ l1 l2 hw d1 l3 l4) hm (λus S Q h=>by let#[_,rfl,_]:=h;erw[hp.symm]);erw[h.mono ∅]
end
end L2
section
set_option autoImplicit false
namespace DX
open PySem PySem.Spec PyProof.Rows PySem.W L2
abbrev top(i:Nat):Stmt:=PySem.Challenge.pw_tokenwright_k30_whole_differences.main.body.getD i (.Pass #[0,0,0,0])
abbrev rows:List pe:=
 #["in_order","in_order","",top 4,["signs"],["signs"],PL.nJ]::
 #["all_but","all_but","",top 5,["signs"],["signs"],PL.pH]::
 #["is_ahead","is_ahead","",top 6,["one","other"],["one","other"],PL.nK]::
 #["stretch","stretch","",top 7,["first","last"],["first","last"],PL.pI]::
 #["read","read","",top 17,["text","reader","tree"],["text"],PL.zq]::
 #["joined","joined","",top 18,["kind","trees"],["kind","trees"],PL.rL]::
 #["Reader.__init__","__init__","Reader",inClass (top 19) 0,["self","text"],["self","text"],PL.j7]::
 #["Reader.sees","sees","Reader",inClass (top 19) 1,["self","signs"],["self","signs"],PL.j8]::
 #["Reader.passes","passes","Reader",inClass (top 19) 2,["self","signs"],["self","signs"],PL.iU]::
 #["Reader.choice","choice","Reader",inClass (top 19) 3,["self","trees"],["self"],PL.iV]::
 #["Reader.row","row","Reader",inClass (top 19) 4,["self","trees"],["self"],PL.kP]::
 #["Reader.repeat","repeat","Reader",inClass (top 19) 5,["self","tree"],["self"],PL.iW]::
 #["Reader.atom","atom","Reader",inClass (top 19) 6,["self"],["self"],PL.j9]::
 #["Reader.bracket","bracket","Reader",inClass (top 19) 7,["self","tree"],["self"],PL.iA]::
 #["Reader.sign_class","sign_class","Reader",inClass (top 19) 8,["self","turned","taken"],["self"],PL.fI]::
 #["Reader.item","item","Reader",inClass (top 19) 9,["self","first","second_at","second"],["self"],PL.kb]::
 #["Reader.written_sign","written_sign","Reader",inClass (top 19) 10,["self","marked","sign"],["self","marked"],PL.eQ]::
 #["written","written","",top 53,["tree"],["tree"],PL.pJ]::
 #["row_text","row_text","",top 54,["tree"],["tree"],PL.nM]::
 #["repeat_text","repeat_text","",top 55,["tree","marks","inner"],["tree"],PL.kc]::
 #["atom_text","atom_text","",top 56,["tree"],["tree"],PL.md]::
 #["place_text","place_text","",top 57,["signs"],["signs"],PL.kQ]::
 #["sign_text","sign_text","",top 58,["sign","marked"],["sign","marked"],PL.me]::
 #["class_texts","class_texts","",top 59,["signs","texts"],["signs"],PL.ke]::
 #["guarded","guarded","",top 60,["items"],["items"],PL.pK]::
 #["class_items","class_items","",top 61,["signs","items","run"],["signs"],PL.kf]::
 #["runs","runs","",top 62,["signs","found","run","sign"],["signs"],PL.zr]::
 #["run_items","run_items","",top 63,["run","singles","whole"],["run"],PL.mf]::
 #["places_of","places_of","",top 23,["rules","most","layout","number","rule","part"],["rules","most"],PL.ni.mi]::
 #["tree_of","tree_of","",top 24,["rule","number","fault"],["rule","number"],PL.ni.pM]::
 #["members","members","",top 25,["bits"],["bits"],PL.ni.pN]::
 #["Part.__init__","__init__","Part",inClass (top 26) 0,["self","empty","firsts","lasts"],["self","empty","firsts","lasts"],PL.ni.mj]::
 #["one_behind_other","one_behind_other","",top 27,["one","other","firsts","lasts"],["one","other"],PL.ni.f9]::
 #["one_or_other","one_or_other","",top 28,["one","other"],["one","other"],PL.ni.jw]::
 #["Layout.__init__","__init__","Layout",inClass (top 29) 0,["self"],["self"],PL.ni.kg]::
 #["Layout.how_many","how_many","Layout",inClass (top 29) 1,["self"],["self"],PL.ni.gH]::
 #["Layout.close_rule","close_rule","Layout",inClass (top 29) 2,["self","part"],["self","part"],PL.ni.fJ]::
 #["Layout.link","link","Layout",inClass (top 29) 3,["self","lasts","firsts","place"],["self","lasts","firsts"],PL.ni.kh]::
 #["Layout.lay","lay","Layout",inClass (top 29) 4,["self","tree"],["self","tree"],PL.ni.kR]::
 #["Layout.lay_place","lay_place","Layout",inClass (top 29) 5,["self","signs","place"],["self","signs"],PL.ni.gc]::
 #["Layout.lay_row","lay_row","Layout",inClass (top 29) 6,["self","trees","whole","tree","part"],["self","trees"],PL.ni.iB]::
 #["Layout.lay_choice","lay_choice","Layout",inClass (top 29) 7,["self","trees","whole","tree"],["self","trees"],PL.ni.fK]::
 #["Layout.lay_repeat","lay_repeat","Layout",inClass (top 29) 8,["self","tree","marks","inner","part","empty"],["self","tree"],PL.ni.fL]::
 #["useful_places","useful_places","",top 30,["layout","takes_some","grown","lasts","useful","place"],["layout"],PL.ni.iX]::
 #["places_that_take","places_that_take","",top 31,["layout","sign"],["layout","sign"],PL.ni.gf]::
 #["Places.__init__","__init__","Places",inClass (top 32) 0,["self","layout","useful"],["self","layout"],PL.ni.ki]::
 #["Places.beyond","beyond","Places",inClass (top 32) 1,["self","held","reached","place"],["self","held"],PL.ni.iY]::
 #["Places.first_rule","first_rule","Places",inClass (top 32) 2,["self","held","number","lasts"],["self","held"],PL.ni.fM]::
 #["table_of","table_of","",top 35,["rules"],["rules"],PL.uD.nP]::
 #["Table.__init__","__init__","Table",inClass (top 36) 0,["self","told","rows"],["self","told","rows"],PL.uD.kW]::
 #["spread","spread","",top 37,["places","lots","numbers","rows","reach","row","sign","held"],["places"],PL.uD.rM]::
 #["smallest","smallest","",top 38,["table","blocks","told","rows","state","row"],["table"],PL.uD.nQ]::
 #["with_nowhere","with_nowhere","",top 39,["rows","nowhere"],["rows"],PL.uD.jz]::
 #["rounds","rounds","",top 40,["told","rows","signs","found","finer"],["told","rows"],PL.uD.rN]::
 #["parted","parted","",top 41,["blocks","rows","signs","keys","state","row"],["blocks","rows","signs"],PL.uD.rO]::
 #["numbered","numbered","",top 42,["keys","numbers"],["keys"],PL.uD.nU]::
 #["telling_signs","telling_signs","",top 43,["rows","firsts","sign"],["rows"],PL.uD.iZ]::
 #["difference","difference","",top 45,["rules","other_rules","one","other","told","rows"],["rules","other_rules"],PL.Lp.kY]::
 #["moved","moved","",top 46,["rows","by"],["rows","by"],PL.Lp.uP]::
 #["text_apart","text_apart","",top 47,["found","rows","states","size","text","pair","blocks"],["found","rows","states"],PL.Lp.k5]::
 #["are_apart","are_apart","",top 48,["blocks","pair"],["blocks","pair"],PL.Lp.mm]::
 #["states_behind","states_behind","",top 49,["rows","pair","sign"],["rows","pair","sign"],PL.Lp.i3]::
 #["sign_apart","sign_apart","",top 50,["blocks","rows","pair"],["blocks","rows","pair"],PL.Lp.k6]::
 #["Table.size","size","Table",inClass (top 36) 1,["self"],["self"],PL.Lp.kZ]::
 #["_law_cell","_law_cell","",top 65,["_law_script","_law_k"],["_law_script","_law_k"],PL.uO.mh]::
 #["_law_mix","_law_mix","",top 66,["_law_script","_law_k","_law_number"],["_law_script","_law_k"],PL.uO.nN]::
 #["_law_all","_law_all","",top 69,["_law_low"],[],PL.uO.nO]::
 #["_law_nothing","_law_nothing","",top 70,["_law_tree"],["_law_tree"],PL.ni.jx]::
 #["_law_behind","_law_behind","",top 71,["_law_tree","_law_sign","_law_found","_law_part","_law_k","_law_more_here"],["_law_tree","_law_sign"],PL.ni.kj]::
 #["_law_rests","_law_rests","",top 72,["_law_rows","_law_sign","_law_found","_law_row","_law_rest"],["_law_rows","_law_sign"],PL.ni.kS]::
 #["_law_ends","_law_ends","",top 73,["_law_rows"],["_law_rows"],PL.ni.oY]::
 #["_law_first","_law_first","",top 76,["_law_trees_here","_law_text_here","_law_k","_law_rows","_law_sign"],["_law_trees_here","_law_text_here"],PL.uD.kX]::
 #["_law_small","_law_small","",top 79,["_law_script","_law_base","_law_deep","_law_number","_law_way","_law_parts"],["_law_script","_law_base","_law_deep"],PL.ni.kT]::
 #["_law_trees","_law_trees","",top 80,["_law_script","_law_base","_law_many","_law_deep","_law_found","_law_k","_law_tree"],["_law_script","_law_base","_law_many","_law_deep"],PL.ni.kU]::
 #["_law_steps","_law_steps","",top 82,["_law_rows","_law_sign"],["_law_rows","_law_sign"],PL.Hi.k7]::
 #["_law_tells","_law_tells","",top 83,["_law_rows","_law_good"],["_law_rows"],PL.Hi.k8]::
 #["_law_earlier","_law_earlier","",top 84,["_law_trees_here","_law_others_here","_law_text_here","_law_longest","_law_left","_law_seen","_law_one_here","_law_sign","_law_pair"],["_law_trees_here","_law_others_here","_law_text_here","_law_longest"],PL.Hi.jA]::[]
abbrev T:Tab where
 const:=[("SIGNS",.str PL.SG),("MARKED_OUTSIDE",.str [46,124,40,41,91,93,42,43,63,92]),("MARKED_WITHIN",.str [93,45,92]),("DEEPEST",.int 6),("REPEATS",.tab [([42],[115,116,97,114]),([43],[112,108,117,115]),([63],[109,97,121,98,101])]),("BEHIND_BACKSLASH",.str [46,124,40,41,91,93,42,43,63,92,45,94,110]),("MOST_RULES",.int 6),("AHEAD",.int 1),("MOST_PLACES",.int 10),("MARKS",.tab [([115,116,97,114],[42]),([112,108,117,115],[43]),([109,97,121,98,101],[63])])]
 fns:=Lb rows
 qH:=["Reader","Part","Layout","Places","Table"]
 qI:=Lc rows
 zt:=["text","at","depth","rule","empty","firsts","lasts","signs","behind","ends","takers","takes","told","rows"]
 i7:=["len","tuple","list","str","dict","sum","min","max","all","any","isinstance","range","enumerate","reversed"]
def aaF:rows.all GU=ζ:=by decide +kernel
def aaG:rows.all (TF T)=ζ:=by decide +kernel
def aaH:rows.map (λr=>Lr T 60 #[(bU r.st).names,r.N,ζ] (fY r.st))=rows.map λr=>ξ r.b:=by kernel_rfl
def XN:∀r∈rows,Aa r:=by
 unfold rows
 repeat' refine aY.mpr #[?_,?_]
 all_goals first|exact λ_ h=>(cG h).elim|exact bd1 rfl λ_ _ _ _ _ _ _ _ _=>rfl|exact bd2 rfl λ_ _ _ _ _ _ _ _ _ _=>rfl|exact bd3 rfl λ_ _ _ _ _ _ _ _ _ _ _=>rfl|exact bd0 rfl λ_ _ _ _ _ _ _ _=>rfl|exact bd4 rfl λ_ _ _ _ _ _ _ _ _ _ _ _=>rfl
@[reducible]def sL:Stmt:=top 85
def TL:l6 ["_law_script","_law_many","_law_trees_here","_law_others_here","_law_at","_law_wider","_law_found"] ["_law_script"] (bU sL):=#[rfl,rfl,rfl,by decide +kernel,rfl,by decide +kernel,by decide +kernel]
def TM:Lr T 60 #[(bU sL).names,["_law_script","_law_many","_law_trees_here","_law_others_here","_law_at","_law_wider","_law_found"],ζ] (fY sL)=ξ PL.Hi.Et:=by kernel_rfl
end DX
end
section
set_option autoImplicit true
namespace DX
open PySem PySem.Spec PyProof.Rows PySem.W L2
def all_mk{l:Hu}{w:cC}{K:Frag}{h:Heap}{mg:Str->Option Value}{fa:Addr}(X:K.In h)(G:h.Ns bI mg)(hfa:mg "law"=ξ (.ref fa))
  (a_law:nsIn K bI "law"=ξ (ξ (.ref fl)))
  (f_law:GQ K "law" "law" sL fl)
  (hC:∀p∈([("Reader",C_Reader),("Part",C_Part),("Layout",C_Layout),("Places",C_Places),("Table",C_Table)]:List (String×Addr)),OA K p T.zt)
  (hR:∀r∈rows,BU K [("Reader",C_Reader),("Part",C_Part),("Layout",C_Layout),("Places",C_Places),("Table",C_Table)] r)
  (a_SIGNS:nsIn K bI "SIGNS"=ξ (ξ (.str z_SIGNS t_SIGNS)))
  (e_SIGNS:z_SIGNS=tx PL.SG)
  (a_MARKED_OUTSIDE:nsIn K bI "MARKED_OUTSIDE"=ξ (ξ (.str z_MARKED_OUTSIDE t_MARKED_OUTSIDE)))
  (e_MARKED_OUTSIDE:z_MARKED_OUTSIDE=tx [46,124,40,41,91,93,42,43,63,92])
  (a_MARKED_WITHIN:nsIn K bI "MARKED_WITHIN"=ξ (ξ (.str z_MARKED_WITHIN t_MARKED_WITHIN)))
  (e_MARKED_WITHIN:z_MARKED_WITHIN=tx [93,45,92])
  (a_DEEPEST:nsIn K bI "DEEPEST"=ξ (ξ (.int 6 t_DEEPEST)))
  (a_REPEATS:nsIn K bI "REPEATS"=ξ (ξ (.ref r_REPEATS)))
  (l_REPEATS:K.lookup r_REPEATS=ξ #[.type "dict",ψ,.dict es_REPEATS ec_REPEATS,#[]])
  (kl_REPEATS:B7 w.params es_REPEATS.toList)
  (ky_REPEATS:es_REPEATS.toList.map (λe=>GV e.key)= [ξ ("*":Str),ξ ("+":Str),ξ ("?":Str)])
  (sm_REPEATS:(r_REPEATS==cb)=ϑ)
  (r_REPEATS0:nsIn K r_REPEATS "*"=ξ (ξ (.str z_REPEATS0 t_REPEATS0)))
  (re_REPEATS0:z_REPEATS0=tx [115,116,97,114])
  (r_REPEATS1:nsIn K r_REPEATS "+"=ξ (ξ (.str z_REPEATS1 t_REPEATS1)))
  (re_REPEATS1:z_REPEATS1=tx [112,108,117,115])
  (r_REPEATS2:nsIn K r_REPEATS "?"=ξ (ξ (.str z_REPEATS2 t_REPEATS2)))
  (re_REPEATS2:z_REPEATS2=tx [109,97,121,98,101])
  (a_BEHIND_BACKSLASH:nsIn K bI "BEHIND_BACKSLASH"=ξ (ξ (.str z_BEHIND_BACKSLASH t_BEHIND_BACKSLASH)))
  (e_BEHIND_BACKSLASH:z_BEHIND_BACKSLASH=tx [46,124,40,41,91,93,42,43,63,92,45,94,110])
  (a_MOST_RULES:nsIn K bI "MOST_RULES"=ξ (ξ (.int 6 t_MOST_RULES)))
  (a_AHEAD:nsIn K bI "AHEAD"=ξ (ξ (.int 1 t_AHEAD)))
  (a_MOST_PLACES:nsIn K bI "MOST_PLACES"=ξ (ξ (.int 10 t_MOST_PLACES)))
  (a_MARKS:nsIn K bI "MARKS"=ξ (ξ (.ref r_MARKS)))
  (l_MARKS:K.lookup r_MARKS=ξ #[.type "dict",ψ,.dict es_MARKS ec_MARKS,#[]])
  (kl_MARKS:B7 w.params es_MARKS.toList)
  (ky_MARKS:es_MARKS.toList.map (λe=>GV e.key)= [ξ ("star":Str),ξ ("plus":Str),ξ ("maybe":Str)])
  (sm_MARKS:(r_MARKS==cb)=ϑ)
  (r_MARKS0:nsIn K r_MARKS "star"=ξ (ξ (.str z_MARKS0 t_MARKS0)))
  (re_MARKS0:z_MARKS0=tx [42])
  (r_MARKS1:nsIn K r_MARKS "plus"=ξ (ξ (.str z_MARKS1 t_MARKS1)))
  (re_MARKS1:z_MARKS1=tx [43])
  (r_MARKS2:nsIn K r_MARKS "maybe"=ξ (ξ (.str z_MARKS2 t_MARKS2)))
  (re_MARKS2:z_MARKS2=tx [63])
  (hz:∀b∈T.i7,nsIn K bI (cj b)=ξ ψ)
  : ∃fd:fQ,(∀(s:aD)(v:Value),B1 s fd #[[v],[]] [("_law_script",v)])/\∀base:Heap,K.In base->base.Ns bI mg->jI l.prog w K mg base CU 200 fa fd ["_law_script"] (zC K):=by
 have e:=hfa.symm.trans (qU X G a_law);cases e;let#[oc,od,kV,dc,pm,an,cd,ct,sl,h1,h2,h3]:=f_law;refine#[fnOf "law" "law" (l7 sL) (fY sL) (bU sL) .none kV dc pm an cd ct,λs v=>.of_eq rfl,λbase _ _=>?_]
 let c:L2.Ctx:=#[l.prog,w,K,mg,base,λx=>([("Reader",C_Reader),("Part",C_Part),("Layout",C_Layout),("Places",C_Places),("Table",C_Table)]:List (String×Addr)).lookup x]
 have hT:Jt c T:=by
  refine#[?_,λx hx=>mg_none_of X G (hz x hx),TJ rfl hC]
  .exact(aY.mpr #[u7 (qU X G a_SIGNS) e_SIGNS,(aY.mpr #[u7 (qU X G a_MARKED_OUTSIDE) e_MARKED_OUTSIDE,(aY.mpr #[u7 (qU X G a_MARKED_WITHIN) e_MARKED_WITHIN,(aY.mpr #[#[.int 6,_,qU X G a_DEEPEST,#[t_DEEPEST,rfl],λ_ _=>aO.mpr rfl],(aY.mpr #[XD (qU X G a_REPEATS) l_REPEATS kl_REPEATS ky_REPEATS sm_REPEATS (by kernel_rfl:("*":Str)=tx [42]) (by kernel_rfl:("+":Str)=tx [43]) (by kernel_rfl:("?":Str)=tx [63]) r_REPEATS0 re_REPEATS0 r_REPEATS1 re_REPEATS1 r_REPEATS2 re_REPEATS2,(aY.mpr #[u7 (qU X G a_BEHIND_BACKSLASH) e_BEHIND_BACKSLASH,(aY.mpr #[#[.int 6,_,qU X G a_MOST_RULES,#[t_MOST_RULES,rfl],λ_ _=>aO.mpr rfl],(aY.mpr #[#[.int 1,_,qU X G a_AHEAD,#[t_AHEAD,rfl],λ_ _=>aO.mpr rfl],(aY.mpr #[#[.int 10,_,qU X G a_MOST_PLACES,#[t_MOST_PLACES,rfl],λ_ _=>aO.mpr rfl],(aY.mpr #[XD (qU X G a_MARKS) l_MARKS kl_MARKS ky_MARKS sm_MARKS (by kernel_rfl:("star":Str)=tx [115,116,97,114]) (by kernel_rfl:("plus":Str)=tx [112,108,117,115]) (by kernel_rfl:("maybe":Str)=tx [109,97,121,98,101]) r_MARKS0 re_MARKS0 r_MARKS1 re_MARKS1 r_MARKS2 re_MARKS2,(λ_ h=>(cG h).elim)])])])])])])])])])])
 have hB:Base c T 1:=#[hT]
 have G0:gK c T (λ_=>xg) 1:=TH X G rfl hC hR XN rfl rfl (aY.mpr #[#[rows[6],cz _,rfl,rfl,rfl],(aY.mpr #[#[rows[31],cz _,rfl,rfl,rfl],(aY.mpr #[#[rows[34],cz _,rfl,rfl,rfl],(aY.mpr #[#[rows[45],cz _,rfl,rfl,rfl],(aY.mpr #[#[rows[49],cz _,rfl,rfl,rfl],(λ_ h=>(cG h).elim)])])])])]);have R:=OB (c:=c) X G rfl hC hR XN aaF aaG aaH;erw[NG (Ld #[R 0 _ rfl,R 1 _ rfl,R 2 _ rfl,R 3 _ rfl,R 4 _ rfl,R 5 _ rfl,R 6 _ rfl,R 7 _ rfl,R 8 _ rfl,R 9 _ rfl,R 10 _ rfl,R 11 _ rfl,R 12 _ rfl,R 13 _ rfl,R 14 _ rfl,R 15 _ rfl,R 16 _ rfl] #[R 17 _ rfl,R 18 _ rfl,R 19 _ rfl,R 20 _ rfl,R 21 _ rfl,R 22 _ rfl,R 23 _ rfl,R 24 _ rfl,R 25 _ rfl,R 26 _ rfl,R 27 _ rfl] #[R 28 _ rfl,R 29 _ rfl,R 30 _ rfl,R 31 _ rfl,R 32 _ rfl,R 33 _ rfl,R 34 _ rfl,R 35 _ rfl,R 36 _ rfl,R 37 _ rfl,R 38 _ rfl,R 39 _ rfl,R 40 _ rfl,R 41 _ rfl,R 42 _ rfl,R 43 _ rfl,R 44 _ rfl,R 45 _ rfl,R 46 _ rfl,R 47 _ rfl] #[R 48 _ rfl,R 49 _ rfl,R 50 _ rfl,R 51 _ rfl,R 52 _ rfl,R 53 _ rfl,R 54 _ rfl,R 55 _ rfl,R 56 _ rfl] #[R 57 _ rfl,R 58 _ rfl,R 59 _ rfl,R 60 _ rfl,R 61 _ rfl,R 62 _ rfl,R 63 _ rfl] #[R 64 _ rfl,R 65 _ rfl,R 66 _ rfl,R 67 _ rfl,R 68 _ rfl,R 69 _ rfl,R 70 _ rfl,R 71 _ rfl,R 72 _ rfl,R 73 _ rfl,R 74 _ rfl,R 75 _ rfl,R 76 _ rfl] (Ij h1 h2 h3) TL TM rfl rfl hB G0)]
def walk{l:Hu}{q:bO}{loose:List Str}{XP:(Str->Option Value)->Heap->Prop}{YP:cC->Heap->Prop}{d:DefRec}{K:Params->Frag}(hn:l.most=ξ 63)(hdf:d.params.defaults=[])
  (hY:∀(w:cC)(h:Heap),YP w h->(K w.params).In h)
  (F:∀(w:cC)(mg:Str->Option Value)(fa:Addr)(h:Heap),(K w.params).In h->h.Ns bI mg->mg d.name=ξ (.ref fa) ->
   ∃fd:fQ,(∀(s:aD)(u:Value),B1 s fd #[[u],[]] [("_law_script",u)])/\∀base:Heap,(K w.params).In base->base.Ns bI mg->jI l.prog w (K w.params) mg base CU 200 fa fd ["_law_script"] (zC (K w.params))):
  WalkO q loose XP YP l.row.toRowW d [] (λf vs=>Fj f vs):=
 L2.Mi (n:=63) (k:=200) (x:="_law_script") (CX:=λ_=>CU) (sp:=λw=>zC (K w.params)) hn ⋯ hdf #[rfl,⋯,⋯] hY F (λ_ _ a ns hl o hS=>#[a,ns,rfl,hl,JJ o hS,λ_=>rfl]) λ_ _ _ _ _ z=>z
end DX
end
end Lake
end
section
open Lake
local macro_rules(kind:=Lean.Parser.Command.print)|x=>match x[1].isStrLit? with
 |some s=>let r:=s.foldl (fun(a:Array Lean.Syntax×Nat×Nat) c=>let d:=if c=='~' then 64 else c.toNat;let n:=a.2.2*90+(if d>92 then d-36 else d-35);if a.2.1==9 then (a.1.push (zR .missing ("0N 0N 0N 0N 0N 0N 0N 7declModifiers . 'PySem.W.Fast.tw"++toString n++" 0N 2declId 0N . 'True 2EtypeSpec 2declSig . 'trivial 0N 0N 2PTermination.suffix 0N 4declValSimple 4theorem 2declaration")),0,0) else (a.1,a.2.1+1,n)) (#[],0,0);pure (Lean.mkNullNode r.1)
 |_=>Lean.Macro.throwUnsupported
#print "$K&>.?fkdI3V<&Xv#4<SC/O{0Z?4~oRAuaZ+97S6OG>=N&]?QJANs8P^DhfuN;bLX3?p1L8svlwcjQbMMr6&wzxf2+FJ(qe&g-a.6G_ZA$s3oCRR#09HIg;M'y<T%/*?(Y$Xxo>:^2q_F(Nw^-vkM1C)x,&ji4uLROqxcI1mo=(=nd%I7><w-~GO{DNKx'Gac1T(F|w2~}9YnGOB?m'$AqgGr?bF.%_ao{]W8T<[Qn6Kz<CEN>]$F[.|928T*6VdWpN?'jLOa%_?E^)=B72oOk&S.rv#N6t*7(2s&X`wpH]V;$;ALd|M:&NWSKXxs%0+5'7l|K0Uk,Pu49+GO?gUEOigV/XTYS3B>;`kbt=X~[5E8J-ed8$XQbjGCkln'4J.G~CUx#5W7?yP8srW/m-Kj?0TB7(ag_%OSd(u?t(%N].mrC*^shO>A<%KK^'H+;XANiE2FKDl?dHT$*GF:xNNXsG/31&i#''_4U{:jbr<%=0-=-b%DdmE9WG'M91XK96ibsL:uI`<8'%o1lj*cJ9}[ir:g[X$(#p?xX4zTBHj8?P+_,+}NY<fp<oTq1<>b+%HK{yTHD?EjVTlEP)tSJlsk8WR-]_kJCW0jl6lm,QuqhA&3$yfRWA|`4:o>hihA*=tKZ>AZ25iC^+<587?tB(K+58wa&r2;*OOH~pE*z9UFxr7s|Xsc}B>Xg3DI7Bd1$G,zeA^oN21rejLc*{833?A*<^T|*~20&%,*i84Oe.Q6c0LHGK*QFC5%8}jAf8h,hFgchN.)eY([QMX6t#Z|f-M;G4Z{p1Kk~Me8+T?pMjM530:x98%>Q*>LpEI*y{CpM.6l'HV*bm~2eyt<+s2uwDSH=H(78`S53p]CDU|fq~37IFV9mowF`JZL;&>g3Mn21A*(Y#/.QaS`0LP;i(T.E<l.v.]RA~KQPflcKP:[^/e_'8u5Z<2kTyxby$Ock0ZlgCQ1N?i(c,Iu|LtvML2H+$_:XHLB>RD=S,'O:M]x)Wz1O<.88'<PP=h^eS^eoE?~'z>J8jj%'-VbQLe#h}W?T63~e>Yms27x|qWlXm)Bt}HYq^G_;EEWDRag(mo'T|pM}YE9U2fC^iH<%%4P(Cd4~L2)~E/KT1;'q[;'p%0E,xs?iCTdRV*LH80,Ri^^T2J%;HnO^G./2ts0q7BAgn{HPHa1O7_={MpLex{b]dX$$~&,-v7_nh[7^n-yyUW~Q(%#V}okAL|'W/Y_0[D71C{NjN59/Zc>H/XP&-WcT(nk=tbEfyX>JTi8A,~az/OT.B?>ApV3yeu'C5nO0)uD-inYKuq0E&UBU%704>3k3H,[ist4&jE#|d;&p3vdhbr#q*1Bn4RAr3=c$.TMX%4&m/mO7<E+s07y703pzF(gPlj7)jv3;MlF4%rE[R:g)mRNY1BD_Q3Fp?r#'=JyWV66VJJ8HR3`]6o|gEA:3%0>JnmM%^xc?:n]d<4(9)AD*0#aa4,GE-&wbWmYp?1)3hbhDLus::1[w+87zv2<c3?t'c]=#5CeZcB[f2Q.Db/kWDx%/Lhw;lg<Wg,10Zo?+Os(APM}&>}Is?`K6YOPqO.:rQsB;[R:[04R;mO|m;Gr=ND*.Y`HXkFF)NHNE~5<^(T]OwH`I%;K$h9eH$$VSQ:r0h%|z.;B$29<KE^-R#4;Cq#4DDpN9Uo>4{I6T.Fj%fE_+>K/W~:~ufdMW$Yf{3s8XH>8eXG?.,;:{=[kY:Uz,(J&%3UT^^wFY=d7nZw`u*AAoWXmrscHn*j*Cl:V^rO#%ns<-(ZE0Q;%f`H,irJ4I_-o=**}#~K3J)1(Sq%<jc=boqgw?%R)uip*m^Z~dJyVB'2I4.AqFE9`*8CDV]U9>GqC2AQcz24vb:E;p'B`^m]H4?gHn=zazA*OJG_C._9UzN-Q3#1cuK}</;H/q(CoO4&>aPA]DW-1r#`,'j^L*#v~qA)fVg;C>V~Z216>73pg|Q>HuJC0l'g7?FQ?MO?aF5y+~S5-T|`*W%;9Z8W{va~J]KHPI,hGs<A1X2w9/<e6Qn&:xfS/}#Qg%GU4Vb[f]x0.K#8>UXNQ1,Wj324VbnW,)1;eK$cpy2h$JDJ`IwRNI#R48|ClB~4`+VzB_EvN}Lb}DQm]s98R5U`J;}KIjcaq%R)[$*-CRbyBawpOJIu0*SlE-)[qRxhoEel9e>Qk)70A'O1ed53w89W5{1JzvIg.qLH&XarDA2)~SDm]5.]j[11c,|34w1:$xEt(%)-Q8+dRV>g7{3A.,~qVB2LB8FZ}?VvzmRa&C1(gt(u+NIYvS9o=-M)-_[7orhK%O3-_{*M%Q;|)fA8/uHv&J,~[5XIU>Cf;ya8k._mUr26=+ok1Z0m#>kEYqVT;s9decgIh`jr,2m-m4r{t}C&REQe8pyk4V&u+FxYc4RLJ%wuXz#e$gNp*q?3D}35#w$]*MPg$FD2tY>i[m#{6YDS}JL.C(&:=S$tNNF%m2$2K732QbBnvE37?0HVP(s2&=+FCm0to2rn=29:S%H#7rG-+2=ghov)<:A[Ul^P%&G.I`Y4+sO)FsMM;US+9B+d*+MQy^e8v)8i]Lp~PX]uDmO5pbFT]B/w].4rbxso'B=}^:T,{m*)hO5=QMzUKOyd{fMgHMLX]^&RFsCyF8Ze|WkDEQ5|,x2W?/'y5?ow6yU0U;(aW3avmWqO+prCLV}HT7O?vmHKvz;dA==LNF#^v&%_]30%|S:lKO$-&e19f5;M6dD`oa-/8%s?NG$BRW-$1sIy%EP~Cl+_<bz^m`1}LhcRaQp,O}%=0Z[NdkEIYhm_a5Y>GdY3J{U8*E''Bm/H*eu|7o'%G4H,'d6$a|Roan#O7z_Q%y'5Ic6<O+5DT52-ENmB;R6X%0=gC/=XZvn<~iMK_ZB?f28yVrpAh^fO&>h$[t()w`.vd%9*G-1%-F'~XbX1:D3J,MERy0COB>UX:m?i~U?})rj022J]O5EaK&},hm-=hKzBy3y}7:6j~g5Si4DG9[PVXViy6&_MjZUmpC7;p-0DMPTV=K=;`{GklR>Zs48p|1hB5N7=alE*CTRK92l|K0d^QCRURG~)JZ/rY6F_W^&,+8a%?ffXk{?xe)q2/F<2RH%R<C-h]KQetbHD$S8a>:i/deCS9o%>KC%(9F`Q9mU'/'{-_S9>=V#$a4:k96ZiXI<$*L1d*Mn}h098)bGr'7OgpJ)#:^M(L|o*OIo]a]2'p7O'Z|t#YFByNPsta+;KwAMb|`|;^*O''40c0rV]i+IUm8xu%};=C1pSd/tE_u?w5(8G;vU/##9/~2}Itr6b2e_pTRW&H`d*/9PTKQ>i*nu*cg}C9&9C3/(oVG$_&D?0$|Nb(S9u6%N5iL)$)Xq7,h*Z-|o5i&X:+sP8&=oS:h~'K>f(Q>ef1)38Z>q)s37wE[tvnRB%7*#a`A+S5?;KQq];^v%RF}K-J3BPFQBXA{_]LOTu(w~.;/AXHG$t5KctiBWt]/-q3vOJe?1w)NG[Iz6_s_I*QR#-xmeRG^H;S5z8acF7xRPM<DKCAgr+Tt*C/X?N0V4)7rOP=%~xfGcH8?/[x`axf`)NE8X$)Odn}AJB%z^)L[1|+)So`AZ9D<5G(/z?#,3a>c2}M+TIQYNmbvOU)?bmBtUR:i)9nZOfK2j&F5T:AQF`[Xh51Q0i}p{z:&}-$'<8HF&9VM+hl-5D<%aY+fvTbW62t=+Tn?:BImd>&GDFRRTZddCP7;v=G&Kw>8sbhYtLVDH+G;rvl1=z<~&TyTeE=-9tGvS3U&rq7ucJvo7m7^6_+M#7dVmP6]eWXicT{+61XH*+DqWP4wHt{>'mN?$[Omn.)|Y}28mWD3o:4I/ZF2CZ:*<;-d?ey+~:L0-'z3v*x(Bz,LTu/i&xym+.$_Cwh:$N+$k6SO$tGY*e.G(DZxUG)K:;'MCXYY#Zz*OY'g,>(.H-uO,x'>RNv/-$y}-7'eXKpfbaJHN|4<*n64paNL]#Pg;]IeMURn7y6lmsI{6([K,[[7DG{UiX~W;,B%J[71uWJ9%fD(]i'yHn1E&PZ&)K2*FWQjF(y7oO1|:dJD;[YL"
open PySem PySem.W PyProof.Rows
set_option maxRecDepth 100000 in
set_option maxHeartbeats 0 in
theorem PySem.Challenge.cw_tokenwright_k30_whole_differences_holds : PySem.Challenge.rw_tokenwright_k30_whole_differences.Holds := by
 w_on;o_law;k_head;(case hw=>w_witness2)
 k_fill
 refine DX.walk (l:=PySem.Challenge.rw_tokenwright_k30_whole_differences) rfl rfl (fun w h Y=>PySem.W.kIn_of Y) ?F
 case F=>
  intro w mg fa h KX G hmg;refine' DX.all_mk KX G hmg ?A0 ?A1 ?A2 ?A3 ?A4 ?A5 ?A6 ?A7 ?A8 ?A9 ?B0 ?B1 ?B2 ?B3 ?B4 ?B5 ?B6 ?B7 ?B8 ?B9 ?C0 ?C1 ?C2 ?C3 ?C4 ?C5 ?C6 ?C7 ?C8 ?C9 ?D0 ?D1 ?D2 ?D3 ?D4 ?D5 ?D6 ?D7 ?D8
  (case A0=>k_is)
  (case A1=>exact⟨_,_,_,_,_,_,_,_,_,by k_is,by k_is,by k_is⟩)
  (case A2=>(repeat' refine aY.mpr ⟨?_,?_⟩);all_goals first | exact fun _ h=>(cG h).elim | exact⟨(by(try dsimp only);k_is),⟨(by(try dsimp only);k_is),(by(try dsimp only);k_is),(by(try dsimp only);k_is),(by(try dsimp only);k_is)⟩,(by(try dsimp only);k_is),(by(try dsimp only);k_is),(by kernel_rfl)⟩)
  (case A3=>unfold DX.rows;(repeat' refine aY.mpr ⟨?_,?_⟩);all_goals first | exact fun _ h=>(cG h).elim | exact .fn (by k_is) ⟨_,_,_,_,_,_,_,_,_,by k_is,by k_is,by k_is⟩ | exact .mt rfl rfl (by k_is) (by k_is) ⟨_,_,_,_,_,_,_,_,_,by k_is,by k_is,by k_is⟩)
  (case A4=>k_is)
  (case A5=>kernel_rfl)
  (case A6=>k_is)
  (case A7=>kernel_rfl)
  (case A8=>k_is)
  (case A9=>kernel_rfl)
  (case B0=>k_is)
  (case B1=>k_is)
  (case B2=>k_is)
  (case B3=>exact⟨⟨_,_,rfl,rfl⟩,⟨⟨_,_,rfl,rfl⟩,⟨⟨_,_,rfl,rfl⟩,trivial⟩⟩⟩)
  (case B4=>kernel_rfl)
  (case B5=>kernel_rfl)
  (case B6=>k_is)
  (case B7=>kernel_rfl)
  (case B8=>k_is)
  (case B9=>kernel_rfl)
  (case C0=>k_is)
  (case C1=>kernel_rfl)
  (case C2=>k_is)
  (case C3=>kernel_rfl)
  (case C4=>k_is)
  (case C5=>k_is)
  (case C6=>k_is)
  (case C7=>k_is)
  (case C8=>k_is)
  (case C9=>exact⟨⟨_,_,rfl,rfl⟩,⟨⟨_,_,rfl,rfl⟩,⟨⟨_,_,rfl,rfl⟩,trivial⟩⟩⟩)
  (case D0=>kernel_rfl)
  (case D1=>kernel_rfl)
  (case D2=>k_is)
  (case D3=>kernel_rfl)
  (case D4=>k_is)
  (case D5=>kernel_rfl)
  (case D6=>k_is)
  (case D7=>kernel_rfl)
  (case D8=>unfold DX.T;(repeat' refine aY.mpr ⟨?_,?_⟩);all_goals first | exact fun _ h=>(cG h).elim | k_is)
end
