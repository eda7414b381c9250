import PyProof.Rows.All
import Wide.All
import OpenK.AllK
import Wide.FinOn
import PyProof.EqAt
import PyProof.EqKinds
import PyProof.TupleCall
import PyProof.NeKinds
import KE.KMinBuiltin
import Lean
import PySem.Challenge.RW_tokenwright_k32_differences_turned
open Array renaming getElem?_eq_some_iff->gM,getElem?_eq_getElem->ig,length_toList->pH,forIn_toList->qh,toList->zo,getElem?_eq_none->zt
open Bool renaming and_eq_true->ao,false_eq_true->av,false_ne_true->aV,or_eq_true->bF,not_true->bJ,not_false->cj,eq_iff_iff->cY,not_eq_true->fD,not_eq_true'->gv,true_and->zb,not_eq_false->Gf,noConfusion->JX
open Classical renaming byContradiction->gG
open False renaming elim->aL
open ForInStep renaming yield->eG
open Function renaming comp_def->cK
open Iff renaming rfl->j8
open Int renaming toNat_natCast->jr,emod_lt_of_pos->lJ,emod_nonneg->oz,fdiv_eq_ediv_of_nonneg->xH,not_lt->xT,eq_ofNat_of_zero_le->AX,le_refl->Ee,natCast_nonneg->F3
open Int.ofNat renaming inj->oB
open List renaming getElem?_eq_getElem->ab,getElem?_eq_some_iff->af,length_map->ag,getElem?_set_ne->ah,getElem?_append_left->ai,length_append->aj,mem_of_getElem?->ak,getElem?_append_right->ax,map_cons->az,mem_cons_of_mem->aB,getElem?_map->aD,size_toArray->aF,map_append->aH,lookup_cons->aN,mem_cons->aP,mem_append->aR,mem_cons_self->aS,length_cons->aT,getD_eq_getElem?_getD->aW,forall_mem_cons->aY,mem_append_right->bc,getElem?_set_self->bg,append_assoc->bj,map_map->bx,suffix_refl->bC,take_length->bE,all_cons->bK,getElem?_of_mem->bL,append_nil->bM,mem_append_left->bS,mem_singleton->b7,filterMap_cons->b9,length_set->cg,range->cq,length_take->cu,not_mem_nil->cA,all_eq_true->cB,idxOf_lt_length_of_mem->cD,eq_nil_of_length_eq_zero->cR,any_cons->cV,mem_map->de,length->dh,suffix_cons->dj,foldl_append->dm,getElem?_eq_none->dD,getElem_mem->dE,replicate->dH,find?_cons->dQ,length_nil->dR,mem_filter->eP,nodup_cons->eR,nodup_append->eV,getElem?_mapIdx->eY,take_add_one->fc,map->fg,lookup->fP,length_singleton->f9,contains_iff_mem->gf,eq_nil_or_concat->gg,concat_eq_append->gh,getElem?_append->hJ,filter_cons->ij,drop_eq_getElem_cons->iq,getElem?_range->iB,foldl_cons->iU,getElem_idxOf->iX,map_nil->jh,length_eq_one_iff->ji,drop_zero->jj,take_of_length_le->jk,getElem?_set->jm,idxOf_append->jo,nil_append->kF,mem_filterMap->k7,length_mapIdx->k8,prefix_iff_eq_take->mW,length_eq_zero_iff->mY,drop_of_length_le->nK,forIn_cons->nN,lookup_cons_self->ox,mem_range->pq,getElem_of_mem->qc,map_congr_left->qd,length_pos_iff->qe,filterMap_map->rE,map_inj_right->rF,set_cons_succ->rG,set_cons_zero->rH,length_range->sH,set_set->sI,flatten_cons->sJ,map_inj_left->sM,any_eq_true->tN,cons_append->tO,of_mem_zip->vK,getElem?_concat_length->vS,forIn_nil->wk,nodup_nil->wx,isPrefixOf_iff_prefix->wA,mem_of_find?_eq_some->xU,getElem?_take_of_lt->yX,getElem?_replicate->zq,range_succ_eq_map->AW,any_map->A0,getElem?_reverse->Bg,length_filter_le->Bh,take_append_drop->Bk,filterMap_append->Bm,drop_eq_nil_iff->CN,take_succ_cons->Ea,replicate_succ->Eb,drop_succ_cons->Ec,length_reverse->Ef,lookup_append->FN,filter_append->FO,isEmpty_cons->Gg,flatMap_cons->Gh,getElem_inj->JS,length_drop->JU,drop_length->JV,map_fst_zip->JZ,map_snd_zip->J0,find?_some->Km,sum_append->Ko
open List.IsSuffix renaming trans->mm
open List.Pairwise renaming map->nU,nil->wu
open List.cons renaming injEq->dG,inj->FQ
open Nat renaming lt_of_lt_of_le->aq,le_refl->au,le_trans->aI,ne_of_lt->a9,lt_succ_of_lt->bb,pow_le_pow_right->bp,sub_self->bO,zero_le->bP,lt_succ_self->cv,ne_of_gt->cx,testBit_and->cG,le_of_lt->df,lt_irrefl->dk,testBit_or->du,not_lt_zero->dS,pow_succ->fU,testBit_one_eq_true_iff_self_eq_zero->gw,lt_succ_iff_lt_or_eq->iV,not_lt->i3,le_succ_of_le->js,le_succ->ke,eq_of_testBit_eq->kf,zero_add->kZ,lt_of_le_of_lt->lI,lt_trichotomy->md,le_of_not_lt->m7,succ_le_succ->m9,le_add_right->ng,add_sub_cancel->rL,one_shiftLeft->tB,min_eq_right->uo,not_le_of_lt->ur,zero_or->vL,le_of_eq->Ba,lt_trans->Bb,lt_or_ge->Bd,testBit_lt_two_pow->Bj,sub_zero->Bl,lt_of_le_of_ne->Gi,or_lt_two_pow->JY
open Nat.succ renaming inj->l9
open Ne renaming symm->bZ
open Option renaming map_eq_some_iff->ar,bind_eq_some_iff->ay,bind_eq_bind->aK,getD_some->dZ,getD_none->jF,map_some->j7,map_map->oA,isSome_some->p9,map_none->tP,isSome_iff_exists->wm,isSome_map->D7,bind_some->FP
open Option.some renaming inj->aJ,injEq->oZ
open Prod renaming fst->CM
open Prod.mk renaming inj->zj
open PyProof.Rows renaming callWith_type1->fH,slot_tuple_getitem->iN,AllBare->nG,envOfC->pJ,subscriptTail->D1,subscriptTail_builtinR->F8,IntsAre->Ga
open PyProof.Rows.IsTup renaming new->F6
open PyProof.Rows.LSm renaming kept_iter->zw
open PySem renaming wpAny_bind->ae,wpAny_pure->aw,Shared->aA,model->ba,Program->bw,mainGlobals->bz,compareOp->bA,starEach->bI,sysModules->bT,wpAny_mono->bU,World->cf,binaryOp->cC,mem_of_lookup->cP,wpAny_truthy_bool->cX,wpAny_newObj_type->cZ,Around->dF,cLine->eI,FuncData->eQ,wpAny_Call_Name_kw->eS,swapsWith->fB,wpAny_holding->fG,wpAny_typeNameOfWhole_valiter->gc,tupleKind_room_in1->gu,wpAny_passesOwn->gK,inplaceOp->gX,attributeBase->gZ,backTo->ic,wpAny_dictEntries->ie,dictSetDefault->iK,wpAny_call_entry->iR,cellsFrom->iT,rawInt->jq,Scope->jB,sizeLine_eq->jC,wpAny_field->jD,wpAny_callSpecial?_slot->jE,keywordEach->jG,wpAny_pyIter_list->jX,valueAt->kX,sliceBounds->kY,call_meetsIn->lT,tupleKind->l7,Operator->me,wpAny_setField->mh,getItem->nH,Keyword->nJ,wpAny_isInstance->oY,wpAny_rule->pF,bootBuiltins->pG,codeAny->pI,wpAny_execs_nil->p7,letOwnedTupleGo->p8,atKey->qa,isSubtype_tuple_tuple->qj,wpAny_notOrdered_dict->qo,wpAny_isOneOf_valiter->qp,wpAny_tupleItemsOf->ui,assignEach->uj,stored->um,wpAny_assign_Name->vN,callerA->vP,codeAny_mono->vQ,assign->xF,pyNext->xG,noFill_tuple_add->xK,IsPart->xM,DictEntry->xR,subscripted->yY,wpAny_specialOf->zk,Within->zm,size_of_entries->zr,wpAny_dictEpoch->zx,intKind->AR,BindsTo->AU,wpAny_seqItems->A7,entryOfKey->A8,builtinsNs->A9,newFunctionEnv->Bc,methodCallForm->Bf,seq_tuple_add->DZ,call->D6,wpAny_standAt->D8,wpAny_comprehension_free->D9,eqIsQuiet->FF,PassesOwn->FG,bindL->FI,bindC->FJ,noteFrame->FL,wpAny_pyNext_list_item->FZ,concat_meets->F4,wpAny_typeOf->F5,seqIndex_neg->F7,wpAny_Assign_Subscript->Gd,relabel->Ge,wpAny_pyNext_list_end->JT,wpAny_mkInt->Kf,wpAny_loadName_local->Kg,bindArgs->Kh,seqIndex_of->Ki,wpAny_updateDictKeys->Kj,boot_len->Kk,wpAny_pyIter_revIter->Kl
open PySem.Around renaming in1_units->sF,under->yW,under_plainId->AZ
open PySem.Calls renaming spliced_cons->iS,callWith_builtin->jb,spliced_nil->lP,evalArgs_plain->o9,Name_function_global->vM
open PySem.Code renaming isFrame->AS
open PySem.EntryCells renaming newEntry->xS
open PySem.Expr renaming Name->JW
open PySem.F renaming slot_dict_valueiterator_next->cJ,slot_dict_get->d9,plainAttrs_dict->iO,entry_dict_get->iY,args_tuple_add_2->lH,entry_tuple_add->lS,slot_tuple_add->mf,plainAttrs_str->mj,slot_list_getattribute->m8,args_dict_valueiterator_next_1->nQ,entry_dict_valueiterator_next->oy,slot_tuple_eq->pj,slot_dict_values_iter->sG,slot_dict_setdefault->tw,slot_dict_values->vR,args_dict_get_2->wy,args_dict_get_3->wz,plainAttrs_list->wB,type_dict_get->y8,slot_dict_len->za
open PySem.Heap renaming get?_push_of_some->aE,lt_size->aM,get?_push_size->aU,get?_update_self->dC,SameBut->fS,size_push->gY,get?_update_other->nI
open PySem.Heap.DictOf renaming new->AV
open PySem.Heap.SameBut renaming update->eJ
open PySem.NameKind renaming free->bG,cell->fQ
open PySem.Obj renaming data_mapFields->iZ,data_mapDictKeys->kc,mapFields->mi,isFreed_of_fields->pb,mapSeq->rK,isFreed_of_dict->FK
open PySem.SeqAt renaming EqAt->vO,notIn_listAt->D3
open PySem.SeqAt.EqAt renaming same->jA,int_none->nA,str_none->nB,none_int->nE,none_str->nF,int_str->ou,str_int->ow,none_bool->wo,bool_none->wq,bool_bool->wt,bool_int->xN,bool_str->xO,int_bool->xP,str_bool->xQ,int_int->yZ,str_str->y6,of_refs->y9
open PySem.SeqAt.RcAt renaming tuples->zu
open PySem.Str renaming ofString->bV,length->F9
open PySem.Value renaming ref->bf,none->cb,bool->jU,int->kU,str->kW,isInt->A6
open PySem.W renaming Frag->aG,emptyDict->cM,instObj->dM,findIn->d7,fnOf->kb,plainGet->lR,lookIn->nO,keepIn->nP,plainGet_of->o7,mg_of->qg,methodObj->qk,hasDictIn->qm,takerIn->tq,codeIn->uk,isFn->xI,cellsFrom_some->xJ,pyHash_slot->AQ,KeysLit->AY,keepIn->Be,plainOver->CK,handedIn->DY,makesIn->FH,OpenLaw->Gb,callWith_K0->Kn
open PySem.Walks renaming list->Ed
open Sum renaming inr->iW,inl->wj
open Sum.inl renaming inj->zi
open Sum.inr renaming inj->sE
open True renaming intro->eF
set_option linter.all false
set_option Elab.async false
set_option maxRecDepth 100000
set_option maxHeartbeats 4000000
set_option genSizeOf false
set_option bootstrap.genMatcherCode false
set_option compiler.extract_closed false
noncomputable section
section
local macro_rules | `(#[$x,$xs,*]) => `(⟨$x,$xs,*⟩) | `(#[$x]) => `(⟨$x⟩)
local macro_rules | `(∅) => `(by omega)
local macro_rules | `(⋯) => `(by decide)
local macro_rules | `(tactic| room) => `(tactic| walk_at "pk")
local macro_rules | `(#v[$x]) => `(.cons $x .nil) | `(#v[$x,$xs,*]) => `(.cons $x #v[$xs,*])
local macro_rules | `(@$n:num) => `(.var $n)
local macro_rules | `(↑$n:num) => `(.lit (.int $n))
local macro_rules | `(↑[$n,*]) => `(.lit (.str [$n,*]))
local macro_rules|`(tactic|let $p:term:=$e)=>do
 let rec g(n:Nat)(s:Lean.Term):Lean.MacroM (Lean.TSyntax `rcasesPat):=match n with
  |0=>Lean.Macro.throwUnsupported
  |n+1=>match s with
   |`(#[$xs,*])=>do let ps<-xs.getElems.mapM (g n);`(rcasesPat|⟨$[$ps:rcasesPat],*⟩)
   |`(_)=>`(rcasesPat|_)
   |`($x:ident)=>`(rcasesPat|$x:ident)
   |_=>Lean.Macro.throwUnsupported
 let q<-g 9 p;`(tactic|obtain $q:rcasesPat:=$e)
local macro_rules|`(tactic|erw[$t:term])=>`(tactic|exact $t)
local macro_rules|`(tactic|rwa[$t:term])=>`(tactic|refine $t)
local macro_rules|`(tactic|dsimp [$xs,*] $[$l:location]?)=>`(tactic|simp only [$xs,*] $[$l]?)
set_option hygiene false in
local macro_rules|`(tactic|z_go)=>`(tactic|refine#[env,ρ,S,_,EU,he,R,w,λu S1 v H1 ρ1 w1 st1 R1 r1=>?_,qx])
set_option hygiene false in
local macro_rules|`(tactic|x_go)=>`(tactic|intro pZ s σ H x y v u Q I rx ry h)
set_option hygiene false in
local macro_rules|`(tactic|kd_p)=>`(tactic|rintro σ H Q ⟨env,ρ,S,QU,EU,he,R,w,q,qx⟩)
set_option hygiene false in
local macro_rules|`(tactic|w_up)=>`(tactic|intro X hP hw hK hc i pZ s σ H E I hf st hg)
set_option hygiene false in
local macro_rules|`(tactic|k_ne)=>`(tactic|intro pZ s σ H xs us Q I r h)
set_option hygiene false in
local macro_rules|`(tactic|k_go)=>`(tactic|intro pZ s σ H Q I h)
namespace Lake
namespace L2
open PySem PySem.Spec PyProof.Rows
abbrev Key:=Sum Int (Option Str)
noncomputable def wC:Key->Value->Bool
 |.inl k,v=>A6 k v
 |.inr (some x),v=>Value.isStrOf x v
 |.inr none,v=>v==cb
noncomputable def WH(w:cf):Key->Int
 |.inl k=>hashInt k
 |.inr (some x)=>hashStr w x
 |.inr none=>reduceHash 0xFCA86420
theorem fE:∀{k:Key}{v:Value},wC k v=true->(∃i t,k=wj i/\v=kU i t)\/(∃x t,k=iW (some x)/\v=kW x t)\/(k=iW none/\v=cb)
 |.inl i,v,h=>by
  let#[t,e]:=Value.isInt_shape (k:=i) (v:=v) h;erw[.inl #[i,t,rfl,e]]
 |.inr (some x),v,h=>by
  let#[t,e]:=Value.isStrOf_shape (x:=x) (v:=v) h;erw[.inr (.inl #[x,t,rfl,e])]
 |.inr none,v,h=>.inr (.inr #[rfl,eq_of_beq h])
theorem Eg(i:Int)(t:Tok):wC (.inl i) (.int i t)=true:=by simp[wC,A6]
theorem Eh(x:Str)(t:Tok):wC (.inr (some x)) (.str x t)=true:=by simp[wC,Value.isStrOf]
theorem Gj{α:Type}[DecidableEq α]{β:Type}[DecidableEq β](f:α->β)(hf:∀a b,f a=f b->a=b)(a b:α):decide (f a=f b)=decide (a=b):=decide_eq_decide.mpr #[hf a b,λe=>e▸rfl]
theorem Ei(h:Q (reduceHash 0xFCA86420) {s with toks:=s.toks+1}):wpAny (ba prog w) A (pyHash .none) Q E s:=by
 unfold pyHash;erw[AQ (T:="NoneType") rfl F.slot_NoneType_hash F.entry_NoneType_hash (F.args_NoneType_hash_1 _) (beq_builtin_none _) (.inl rfl) (ae (aw (ae (Kf (aw #[_,_,rfl,h])))))]
noncomputable def cU(prog:bw)(w:cf):PySem.KeyKind prog w Key where
 is:=wC
 hash:=WH w
 inj:=λv a b ha hb=>by
  rcases fE ha with⟨i,t,rfl,rfl⟩|⟨x,t,rfl,rfl⟩|⟨rfl,rfl⟩<;>rcases fE hb with⟨j,u,rfl,e⟩|⟨y,u,rfl,e⟩|⟨rfl,e⟩<;>cases e<;>rfl
 byValue:=λk v h=>by
  rcases fE h with⟨i,t,rfl,rfl⟩|⟨x,t,rfl,rfl⟩|⟨rfl,rfl⟩<;>rfl
 pyHash:=λhv h=>by
  rcases fE hv with⟨i,t,rfl,rfl⟩|⟨x,t,rfl,rfl⟩|⟨rfl,rfl⟩
  .erw[wpAny_pyHash_int h]
  .erw[wpAny_pyHash_str h]
  .erw[Ei h]
 eqBool:=λhu hv h=>by
  rcases fE hu with⟨i,t,rfl,rfl⟩|⟨x,t,rfl,rfl⟩|⟨rfl,rfl⟩<;>rcases fE hv with⟨j,u,rfl,rfl⟩|⟨y,u,rfl,rfl⟩|⟨rfl,rfl⟩
  .rw[Gj wj (λ_ _ e=>zi e)] at h;erw[wpAny_eqBool_int (by rw[show(i==j)=decide (i=j) from rfl];exact h)]
  .erw[ou i t y u _ _ _ _ h]
  .erw[nA i t _ _ _ _ h]
  .erw[ow x t j u _ _ _ _ h]
  .rw[Gj (λz=>iW (some z)) (λ_ _ e=>aJ (sE e))] at h;erw[wpAny_eqBool_str h]
  .erw[nB x t _ _ _ _ h]
  .erw[nE j u _ _ _ _ h]
  .erw[nF y u _ _ _ _ h]
  .erw[jA _ _ _ _ _ h]
 «strs»:=λk x t v h=>by
  rcases fE h with⟨i,u,rfl,e⟩|⟨y,u,rfl,e⟩|⟨rfl,e⟩
  .erw[nomatch e]
  .cases e
   cases v<;>rfl
  .erw[nomatch e]
section
variable{prog:bw}{w:cf}
abbrev rM:=Int×List Int
def IsPair(prog:bw)(w:cf)(h:Heap)(k:rM)(a:Addr):Prop:=∃t c n o,h.get? a=some o/\o.cls=.type "tuple"/\o.data=.seq (List.toArray [.int k.1 t,.ref c]) n/\IsTupleKey (AR prog w) h k.2 c
noncomputable def uu(prog:bw)(w:cf)(k:rM):Int:=reduceHash (Builtin.Tuple.tupleHashOf [hashInt k.1,tupleKeyHash (AR prog w) k.2])
variable{A:dF}{E:Value->aA->Prop}{s:aA}
theorem zy(hu:A.units+1<eI)(hk:IsPair prog w s.heap k a)(h:Q (uu prog w k) {s with toks:=s.toks+(k.2.length+3)}):
  wpAny (ba prog w) A (pyHash (.ref a)) Q E s:=by
 let#[t,c,n,o,ho,hc,hd,hi]:=hk;have hT:s.TypeIs (.ref a) "tuple":=#[o,ho,hc]
 unfold pyHash;rwa[AQ (T:="tuple") hT F.slot_tuple_hash F.entry_tuple_hash (F.args_tuple_hash_1 _) (beq_builtin_none _) (.inr ∅) ?_];show wpAny _ _ (Builtin.Tuple.tupleItemsOf (.ref a)>>=_) _ _ s;rwa[ae (ui ho hd ?_)];rwa[ae ?_];rw[<-qh]
 dsimp[nN,wk];rwa[ae (ae (wpAny_pyHash_int ?_))];refine aw (ae (ae (wpAny_pyHash_tuple (s:={s with toks:=s.toks+1}) (by dsimp[sF];omega) hi (aw (aw ?_)))));rwa[ae (Kf (aw #[_,_,rfl,?_]))];have e:s.toks+1+(k.2.length+1)+1=s.toks+(k.2.length+3):=∅
 have h:Q _ _:=h;rw[<-e] at h;simpa[uu] using h
theorem IsPair.inj{h:Heap}{a:Addr}{x y:rM}(hx:IsPair prog w h x a)(hy:IsPair prog w h y a):x=y:=by
 let#[t,c,n,o,ho,hc,hd,hi]:=hx;let#[t',c',n',o',ho',hc',hd',hi']:=hy;obtain rfl:o=o':=aJ (ho.symm.trans ho');rw[hd] at hd';injection hd' with h1 _
 injection h1 with h1
 injection h1 with h1 h2
 injection h1 with h1 _
 injection h2 with h2 _
 injection h2 with h2
 subst h2;erw[Prod.ext h1 (hi.inj hi')]
theorem zz(hu:A.units+1<eI)(hx:IsPair prog w s.heap x a)(hy:IsPair prog w s.heap y b)(h:Q (decide (x=y)) s):
  wpAny (ba prog w) A (eqBool (.ref a) (.ref b)) Q E s:=by
 unfold eqBool;rwa[fG ?_];show wpAny _ _ (if (bf a==bf b)=true then _ else _) Q E s;by_cases hab:(bf a==bf b)=true
 .rw[if_pos hab]
  have e:a=b:=by have:=eq_of_beq hab;injection this
  subst e;obtain rfl:=hx.inj hy;exact ae (pF (aw (by simpa using h)))
 .rw[if_neg hab]
  let#[t,c,n,o,ho,hc,hd,hi]:=hx;let#[t',c',n',o',ho',hc',hd',hi']:=hy;have hT:s.TypeIs (.ref a) "tuple":=#[o,ho,hc]
  have hT':s.TypeIs (.ref b) "tuple":=#[o',ho',hc']
  refine ae (wpAny_richCompare_same_room (op:=.Eq) hT hT' pj
   (iR pj hT F.entry_tuple_eq ?_ (F.args_tuple_eq_2 _ _)) ∅)
  show wpAny _ _ (isInstance (.ref b) (.type "tuple")>>=_) _ _ s
  rwa[ae (oY hT' qj ?_)];dsimp[bJ,av,if_false];rwa[ae (ui ho hd ?_)];rwa[ae (ui ho' hd' ?_)];rwa[ae ?_];dsimp[List.zip_cons_cons,List.zip_nil_right,nN,wk];rwa[ae (ae (wpAny_eqBool_int ?_))];let#[x1,x2]:=x;let#[y1,y2]:=y;by_cases e1:x1=y1
  .subst e1
   dsimp[BEq.rfl,bJ,av,if_false];rwa[aw (ae (ae (wpAny_eqBool_tuple (by dsimp[sF];omega) hi hi' ?_)))];by_cases e2:x2=y2
   .subst e2
    dsimp[decide_true,bJ,av,if_false] at h ⊢;erw[aw (aw (aw #[_,rfl,(λz=>nomatch z),cX h]))]
   .have e3:decide ((x1,x2)=(x1,y2))=false:=decide_eq_false λz=>e2 (zj z).2
    rw[e3] at h;dsimp[decide_eq_false e2,cj,if_true];erw[ae (aw (aw (aw (aw #[_,rfl,(λz=>nomatch z),cX h]))))]
  .have e3:decide ((x1,x2)=(y1,y2))=false:=decide_eq_false λz=>e1 (zj z).1
   rw[e3] at h;have e4:(x1==y1)=false:=beq_eq_false_iff_ne.mpr e1;dsimp[e4,cj,if_true];erw[ae (aw (aw (aw (aw #[_,rfl,(λz=>nomatch z),cX h]))))]
theorem Bn(hk:IsTupleKey (AR prog w) s.heap ks a)(h:Q true s):wpAny (ba prog w) A (FF (n+1) (.ref a)) Q E s:=by
 have hT:=hk.typeIs;let#[o,items,m,ho,_,hd,hi]:=hk;unfold FF;rwa[ae (zk hT pj.lookup (ae (oY hT qj ?_)))];dsimp[bJ,av,if_false];rwa[ae (A7 ho hd (ae ?_))];rw[<-qh]
 rwa[wpAny_forIn_list _ (λl r s'=>r.1=none/\s'=s/\∀v∈l,carriedByValue v=true) _ ?_ ?_ _ _ #[rfl,rfl,hi.byValue]]
 .rintro v l r s' ⟨hr,rfl,z⟩
  rw[eqIsQuiet_byValue _ (z v aS)]
  erw[ae (aw (aw #[rfl,rfl,λu hu=>z u (aB _ hu)]))]
 .rintro⟨r1,r2⟩ s' ⟨hr,rfl,_⟩
  cases hr;erw[aw h]
theorem Bo(hk:IsPair prog w s.heap k a)(h:Q true s):wpAny (ba prog w) A (FF 8 (.ref a)) Q E s:=by
 let#[t,c,n,o,ho,hc,hd,hi]:=hk;have hT:s.TypeIs (.ref a) "tuple":=#[o,ho,hc]
 unfold FF;rwa[ae (zk hT pj.lookup ?_)];show wpAny _ _ (isInstance (.ref a) (.type "tuple")>>=_) _ _ s;rwa[ae (oY hT qj ?_)];dsimp[bJ,av,if_false];rwa[ae (A7 ho hd ?_)];rwa[ae ?_];show wpAny _ _ (forIn (List.toArray [kU k.1 t,.ref c]) _ _) _ _ s;rw[<-qh]
 dsimp[nN,wk];rw[eqIsQuiet_byValue 7 (v:=.int k.1 t) rfl]
 erw[ae (ae (aw (aw (ae (ae (Bn hi (aw (aw (aw h)))))))))]
theorem IsPair.keeps{es ep}(x:IsPair prog w h k a)(ho:h.get? d=some o)(hd:o.data=.dict es ep)(hs:fS d h h'):IsPair prog w h' k a:=by
 let#[t,c,n,o',ho',hc,hd',hi]:=x;refine#[t,c,n,o',(hs.2 a ?_).trans ho',hc,hd',hi.keeps ho hd hs];rintro rfl;obtain rfl:o'=o:=aJ (ho'.symm.trans ho);rw[hd] at hd';erw[nomatch hd']
noncomputable def qr(prog:bw)(w:cf):HeapKind prog w rM where
 is:=IsPair prog w
 hash:=uu prog w
 draws:=λk=>k.2.length+3
 room:=λA=>A.units+1<eI
 inj:=λhx hy=>hx.inj hy
 keeps:=λx ho hd hs=>x.keeps ho hd hs
 pyHash:=λhu hk h=>zy hu hk h
 eqBool:=λhu hx hy h=>zz hu hx hy h
 quiet:=λhk h=>Bo hk h
end
theorem zA(prog:bw)(w:cf)(i:Int)(t:Tok):(cU prog w).is (.inl i) (.int i t)=true:=Eg i t
theorem zB(prog:bw)(w:cf)(x:Str)(t:Tok):(cU prog w).is (.inr (some x)) (.str x t)=true:=Eh x t
inductive V where
 |bQ|bl (b:Bool)|int (i:Int)|str (x:Str)|A1 (b:Array UInt8)|V6 (b:UInt64)|ref (a:Addr)|ty (n:String)
 deriving DecidableEq
def RelV:V->Value->Prop
 |.bQ,u=>u=cb
 |.bl b,u=>u=jU b
 |.int i,u=>∃t,u=kU i t
 |.str x,u=>∃t,u=kW x t
 |.A1 b,u=>∃t,u=Value.bytes b t
 |.V6 b,u=>∃t,u=Value.float b t
 |.ref a,u=>u=bf a
 |.ty n,u=>u=Value.type n
abbrev Vals:List V->List Value->Prop:=Paired RelV
theorem Vals.length{xs:List V}{us:List Value}(r:Vals xs us):xs.length=us.length:=Paired.length r
theorem Vals.get:∀{xs:List V}{us:List Value}{i:Nat}{x:V},Vals xs us->xs[i]?=some x->∃u,us[i]?=some u/\RelV x u
 |_,_,_,_,.nil,e=>by simp at e
 |_,_,0,_,.cons r _,e=>by simp at e;subst e;exact#[_,rfl,r]
 |_,_,i+1,x,.cons _ t,e=>by
  let#[u,h1,h2]:=Vals.get (i:=i) (x:=x) t (by simpa using e);exact#[u,by simpa using h1,h2]
theorem Vals.set(r:RelV x u):∀{xs:List V}{us:List Value}(i:Nat),Vals xs us->Vals (xs.set i x) (us.set i u)
 |_,_,_,.nil=>.nil
 |_,_,0,.cons _ t=>.cons r t
 |_,_,i+1,.cons q t=>.cons q (Vals.set r i t)
theorem Vals.append:∀{xs ys:List V}{us ws:List Value},Vals xs us->Vals ys ws->Vals (xs++ys) (us++ws)
 |_,_,_,_,.nil,s=>s
 |_,_,_,_,.cons r t,s=>.cons r (Vals.append t s)
theorem Vals.take:∀{xs:List V}{us:List Value}(n:Nat),Vals xs us->Vals (xs.take n) (us.take n)
 |_,_,0,_=>.nil
 |_,_,_+1,.nil=>.nil
 |_,_,n+1,.cons r t=>.cons r (Vals.take n t)
theorem Vals.drop:∀{xs:List V}{us:List Value}(n:Nat),Vals xs us->Vals (xs.drop n) (us.drop n)
 |_,_,0,r=>r
 |_,_,_+1,.nil=>.nil
 |_,_,n+1,.cons _ t=>Vals.drop n t
def mq:Option V->Option Value->Prop
 |some v,some u=>RelV v u
 |none,none=>True
 |_,_=>False
def KV{κ:Type}:List (κ×V)->List (κ×Value)->Prop:=Paired λ(p:κ×V)(q:κ×Value)=>p.1=q.1/\RelV p.2 q.2
noncomputable def kV:Key->V
 |.inl i=>.int i
 |.inr (some x)=>.str x
 |.inr none=>.bQ
inductive HO where
 |lst (xs:List V)
 |tup (xs:List V)
 |dK (kvs:List (Key×V))|dT (kvs:List (List Key×V))|dP (kvs:List (rM×V))
 |set (S:Int->Bool) (n:Nat)
 |ins (C dx:Addr) (fs:List (Str×V))
 |own (x:Addr)
 |xd (fs:List (Str×V))
 |met (f x:Addr)
 |WJ (lo hi:Int)
 |rJ (o:Obj) (u:HO)
 |NT (ps:Array Value)
 |ext (φ:Heap->Prop)
abbrev Hp:=Addr->Option HO
noncomputable def upd(H:Hp)(a:Addr)(o:HO):Hp:=λb=>if b=a then some o else H b
theorem bR:upd H a o a=some o:=by unfold upd;rw[if_pos rfl]
theorem bX(h:b≠a):upd H a o b=H b:=by unfold upd;rw[if_neg h]
theorem R8{H:Hp}{a b:Addr}{o u:HO}(h:H a=some o)(h':H b=some u)(d:o≠u):a≠b:=by
 intro e;subst e;rw[h] at h';erw[d (aJ h')]
theorem dA{H:Hp}{a b:Addr}{o:HO}(h:H a=some o)(h':H b=none):a≠b:=by
 intro e;subst e;rw[h] at h';cases h'
section
variable(P:bw)(w:cf)
def dN(H:Hp)(h:Heap)(a:Addr):HO->Prop
 |.lst xs=>xs.length<=sizeLine/\∃(its:List Value)(n:Nat),Vals xs its/\h.get? a=some {cls:=.type "list",data:=.seq its.toArray n}
 |.tup xs=>xs.length<=sizeLine/\∃its:List Value,Vals xs its/\IsTup h a its.toArray
 |.dK kvs=>kvs.length<=sizeLine/\(a==bT)=false/\∃vs,KV kvs vs/\h.DictOf (cU P w) a vs
 |.dT kvs=>kvs.length<=sizeLine/\(a==bT)=false/\∃xs:List (List Key×Addr×Value),
   Paired (λ(p:List Key×V)(q:List Key×Addr×Value)=>p.1=q.1/\H q.2.1=some (.tup (p.1.map kV))/\RelV p.2 q.2.2) kvs xs /\
   ∃o es ep,h.get? a=some o/\o.ExactDict/\o.data=.dict es ep/\es.toList=xs.map (A8 (l7 (cU P w)))/\(xs.map (·.1)).Nodup
 |.dP kvs=>kvs.length<=sizeLine/\(a==bT)=false/\∃xs:List (rM×Addr×Value),
   Paired (λ(p:rM×V)(q:rM×Addr×Value)=>p.1=q.1/\(∃c,H q.2.1=some (.tup [.int p.1.1,.ref c])/\H c=some (.tup (p.1.2.map .int)))/\RelV p.2 q.2.2) kvs xs /\
   ∃o es ep,h.get? a=some o/\o.ExactDict/\o.data=.dict es ep/\es.toList=xs.map (A8 (qr P w))/\(xs.map (·.1)).Nodup
 |.set S n=>h.SetOf (AR P w) a S n
 |.ins C dx fs=>H dx=some (.own a)/\fs.length<=1000/\dx≠a/\h.get? a=some (dM C dx) /\
   ∃mA,h.Ns1 dx mA/\(∀f,mq (fs.lookup f) (mA f))/\zm mA (fs.map (·.1))
 |.own _=>∃o,h.get? a=some o
 |.xd fs=>∃mA,h.Ns1 a mA/\∀f,mq (fs.lookup f) (mA f)
 |.WJ lo hi=>∃t u v,h.get? a=some {cls:=.type "range",data:=.fields (List.toArray [.int lo t,.int hi u,.int 1 v])}
 |.rJ o u=>h.get? a=some o/\dN H h a u
 |.NT ps=>h.get? a=some {cls:=.none,data:=.fields ps}
 |.met f x=>h.get? a=some (qk (.ref f) (.ref x))
 |.ext φ=>φ h/\(∃o,h.get? a=some o)/\∀h1 h2:Heap,φ h1->(∀o,h1.get? a=some o->h2.get? a=some o)->φ h2
def nh(H:Hp)(h:Heap):Prop:=∀a o,H a=some o->dN P w H h a o
end
section
variable{P:bw}{w:cf}{H H':Hp}{h h':Heap}{a:Addr}{o:HO}
theorem dN.lt(x:dN P w H h a o):a<h.objs.size:=by
 cases o with
 |lst xs=>let#[_,_,_,_,e]:=x;erw[aM e]
 |tup xs=>let#[_,_,_,p]:=x;erw[p.lt]
 |dK kvs=>let#[_,_,_,_,o,_,_,e,_]:=x;erw[aM e]
 |dT kvs=>let#[_,_,_,_,o,_,_,e,_]:=x;erw[aM e]
 |dP kvs=>let#[_,_,_,_,o,_,_,e,_]:=x;erw[aM e]
 |set S n=>let#[o,_,_,_,e,_]:=x;erw[aM e]
 |ins C dx fs=>let#[_,_,_,e,_]:=x;erw[aM e]
 |own y=>let#[_,e]:=x;erw[aM e]
 |xd fs=>let#[_,#[_,_,_,e,_],_]:=x;erw[aM e]
 |WJ lo hi=>let#[_,_,_,e]:=x;erw[aM e]
 |rJ ob u=>let#[e,_]:=x;erw[aM e]
 |NT ps=>erw[aM (show h.get? a=some _ from x)]
 |met f y=>erw[aM (show h.get? a=some _ from x)]
 |ext φ=>let#[_,#[_,e],_]:=x;erw[aM e]
theorem Paired.Ej{α β:Type}{F G:α->β->Prop}:∀{l₁:List α}{l₂:List β},Paired F l₁ l₂->(∀a b,F a b->G a b)->Paired G l₁ l₂
 |_,_,.nil,_=>.nil
 |_,_,.cons r t,f=>.cons (f _ _ r) (Paired.Ej t f)
theorem dN.uv(x:dN P w H h a o)(k:∀b u,(b=a\/H b=some (.own a))->h.get? b=some u->h'.get? b=some u)
  (ho:∀b,H b=some (.own a)->H' b=some (.own a)) (ht:∀b xs,H b=some (.tup xs)->H' b=some (.tup xs)):dN P w H' h' a o:=by
 induction o with
 |lst xs=>let#[z,its,n,r,e]:=x;exact#[z,its,n,r,k _ _ (.inl rfl) e]
 |tup xs=>let#[z,its,r,ob,e,c]:=x;exact#[z,its,r,ob,k _ _ (.inl rfl) e,c]
 |dK kvs=>let#[z,y,vs,r,ob,es,ep,e,c]:=x;exact#[z,y,vs,r,ob,es,ep,k _ _ (.inl rfl) e,c]
 |dT kvs=>
  let#[z,y,xs,r,ob,es,ep,e,c]:=x;exact#[z,y,xs,Paired.Ej r λp q z=>#[z.1,ht _ _ z.2.1,z.2.2],ob,es,ep,k _ _ (.inl rfl) e,c]
 |dP kvs=>
  let#[z,y,xs,r,ob,es,ep,e,c]:=x;exact#[z,y,xs,Paired.Ej r λp q z=>#[z.1,let ⟨c,e1,e2⟩:=z.2.1;#[c,ht _ _ e1,ht _ _ e2],z.2.2],ob,es,ep,k _ _ (.inl rfl) e,c]
 |set S n=>let#[ob,es,ep,t,e,c]:=x;exact#[ob,es,ep,t,k _ _ (.inl rfl) e,c]
 |ins C dx fs=>
  let#[d,z,ne,e,mA,#[od,es,ep,e2,c],r]:=x;exact#[ho _ d,z,ne,k _ _ (.inl rfl) e,mA,#[od,es,ep,k _ _ (.inr d) e2,c],r]
 |own y=>let#[ob,e]:=x;exact#[ob,k _ _ (.inl rfl) e]
 |xd fs=>let#[mA,#[od,es,ep,e,c],r]:=x;exact#[mA,#[od,es,ep,k _ _ (.inl rfl) e,c],r]
 |WJ lo hi=>let#[t,u,v,e]:=x;exact#[t,u,v,k _ _ (.inl rfl) e]
 |rJ ob u ih=>let#[e,q]:=x;exact#[k _ _ (.inl rfl) e,ih q]
 |NT ps=>
  have e:h.get? a=some {cls:=.none,data:=.fields ps}:=x;show h'.get? a=some {cls:=.none,data:=.fields ps};erw[k a _ (.inl rfl) e]
 |met f y=>
  have e:h.get? a=some (qk (.ref f) (.ref y)):=x;show h'.get? a=some (qk (.ref f) (.ref y));erw[k a _ (.inl rfl) e]
 |ext φ=>let#[p,#[o,e],st]:=x;exact#[st _ _ p λo q=>k _ _ (.inl rfl) q,#[o,k _ _ (.inl rfl) e],st]
theorem nh.lt(x:nh P w H h)(e:H a=some o):a<h.objs.size:=(x a o e).lt
theorem nh.fresh(x:nh P w H h)(e:h.objs.size<=a):H a=none:=by
 cases q:H a with
 |none=>rfl
 |some u=>erw[absurd (aq (x.lt q) e) (dk _)]
theorem nh.kept(x:nh P w H h)(k:∀b u,h.get? b=some u->h'.get? b=some u):nh P w H h':=λa o e=>
 (x a o e).uv (λb u _ q=>k b u q) (λ_ q=>q) λ_ _ q=>q
theorem nh.laid(x:nh P w H h)(k:∀b u,h.get? b=some u->h'.get? b=some u)(hp:h.objs.size<=a)(new:dN P w (upd H a o) h' a o):nh P w (upd H a o) h':=λb u e=>by
 have hn:=x.fresh hp;by_cases hb:b=a
 .subst hb;rw[bR] at e;cases e;erw[new]
 .rw[bX hb] at e
  exact(x b u e).uv (λc v _ q=>k c v q) (λc q=>by rw[bX (dA q hn)];erw[q]) λc xs q=>by rw[bX (dA q hn)];erw[q]
end
def Rd(H:Hp)(a:Addr)(u:HO):Prop:=H a=some u\/∃o,H a=some (.rJ o u)
theorem Rd.ok{P:bw}{w:cf}{H:Hp}{h:Heap}{a:Addr}{u:HO}(r:Rd H a u)(x:nh P w H h):dN P w H h a u:=by
 rcases r with r|⟨o,r⟩
 .erw[x a u r]
 .let#[_,q]:=x a _ r
  erw[q]
def RG:Option HO->Prop
 |some (.lst _)=>True
 |some (.dK _)=>True
 |some (.dT _)=>True
 |some (.dP _)=>True
 |some (.set _ _)=>True
 |some (.ins _ _ _)=>True
 |some (.ext _)=>True
 |_=>False
section
variable{P:bw}{w:cf}{H:Hp}{h h':Heap}{x e:Addr}{o':HO}
theorem nh.write(ok:nh P w H h)(mu:RG (H x))(he:e=x\/H e=some (.own x))(k:∀b u,b≠e->h.get? b=some u->h'.get? b=some u)(heo:∃u,h'.get? e=some u)
  (new:dN P w (upd H x o') h' x o'):nh P w (upd H x o') h':=λb u q=>by
 have nown:∀c y,H c=some (.own y)->c≠x:=λc y r z=>by subst z;rw[r] at mu;erw[mu]
 have ntup:∀c xs,H c=some (.tup xs)->c≠x:=λc xs r z=>by subst z;rw[r] at mu;erw[mu]
 by_cases hb:b=x
 .subst hb;rw[bR] at q;cases q;erw[new]
 .rw[bX hb] at q
  by_cases hbe:b=e
  .have q':H b=some (.own x):=by
    rcases he with z|z
    .erw[absurd (hbe.trans z) hb]
    .rw[hbe];erw[z]
   rw[q] at q';cases q';let#[v,hv]:=heo;exact#[v,by rw[hbe];erw[hv]]
  .refine(ok b u q).uv (λc v hc r=>k c v ?_ r) (λc r=>by rw[bX (nown c b r)];erw[r]) λc xs r=>by rw[bX (ntup c xs r)];erw[r]
   rcases hc with rfl|hc
   .erw[hbe]
   .rintro rfl
    rcases he with z|z
    .erw[nown c b hc z]
    .rw[hc] at z;cases z;erw[hb rfl]
end
structure Un(fs ex:List Addr)(H H':Hp)(h h':Heap):Prop where
 keep:∀b o,h.get? b=some o->H b=none->b∉fs->b∉ex->h'.get? b=some o
 slot:∀b o,h.get? b=some o->H b=none->b∈fs->b∉ex->∃sl,h'.get? b=some {o with slots:=sl}
 free:∀b o,h.get? b=some o->H b=none->b∉ex->H' b=none
 there:∀b o,h.get? b=some o->b∉ex->∃o',h'.get? b=some o'
 zC:∀b xs,H b=some (.tup xs)->H' b=some (.tup xs)
 xV:∀b o u,H b=some (.rJ o u)->H' b=some (.rJ o u)
 zD:∀b ps,H b=some (.NT ps)->∃more,H' b=some (.NT (ps++more))
section
variable{fs fs' ex ex':List Addr}{H H1 H2:Hp}{h h1 h2 h':Heap}{a x e:Addr}{o:HO}
theorem Un.any(u:Un fs ex H H1 h h1){b:Addr}{ob:Obj}(q:h.get? b=some ob)(n:H b=none)(hx:b∉ex):∃sl,h1.get? b=some {ob with slots:=sl}:=by
 by_cases hb:b∈fs
 .erw[u.slot b ob q n hb hx]
 .exact#[ob.slots,u.keep b ob q n hb hx]
theorem Un.kept(k:∀b u,h.get? b=some u->h'.get? b=some u):Un fs ex H H h h':=
 #[λb ob q _ _ _=>k b ob q,λb ob q _ _ _=>#[ob.slots,k b ob q],λ_ _ _ n _=>n,λb ob q _=>#[ob,k b ob q],λ_ _ q=>q,λ_ _ _ q=>q,λ_ ps q=>#[#[],by rw[q];simp]]
theorem Un.refl:Un fs ex H H h h:=Un.kept λ_ _ q=>q
theorem Un.laid(k:∀b u,h.get? b=some u->h'.get? b=some u)(hp:h.objs.size<=a)(hn:H a=none):Un fs ex H (upd H a o) h h' where
 keep:=λb u q _ _ _=>k b u q
 slot:=λb u q _ _ _=>#[u.slots,k b u q]
 free:=λb u q n _=>by rw[bX (a9 (aq (aM q) hp))];erw[n]
 there:=λb u q _=>#[u,k b u q]
 zC:=λb xs q=>by rw[bX (dA q hn)];erw[q]
 xV:=λb u xs q=>by rw[bX (dA q hn)];erw[q]
 zD:=λb ps q=>#[#[],by rw[bX (dA q hn),q];simp]
theorem Un.write(mu:RG (H x))(he:e=x\/H e=some (.own x))(k:∀b u,b≠e->h.get? b=some u->h'.get? b=some u)(heo:∃u,h'.get? e=some u):Un fs ex H (upd H x o) h h':=by
 have hx:∀b,H b=none->b≠x:=λb n z=>by subst z;rw[n] at mu;erw[mu]
 have hb:∀b,H b=none->b≠e:=λb n z=>by
  subst z;rcases he with r|r
  .erw[hx b n r]
  .rw[n] at r;cases r
 have hm:∀b u,H b=some u->¬RG (some u)->b≠x:=λb u q nm z=>by subst z;rw[q] at mu;erw[nm mu]
 refine#[λb u q n _ _=>k b u (hb b n) q,λb u q n _ _=>#[u.slots,k b u (hb b n) q],λb u q n _=>by rw[bX (hx b n)];exact n,λb u q _=>?_,
  λb xs q=>by rw[bX (hm b _ q λz=>z)];erw[q],λb u xs q=>by rw[bX (hm b _ q λz=>z)];erw[q],λb ps q=>#[#[],by rw[bX (hm b _ q λz=>z),q];simp]]
 by_cases hbe:b=e
 .subst hbe;erw[heo]
 .exact#[u,k b u hbe q]
end
noncomputable def uw(h:Heap)(H:Hp):List Addr:=(cq h.objs.size).filter λa=>(H a).isSome
noncomputable def xW(h:Heap)(H:Hp):Heap:=PySem.W.hideAll h (uw h H)
theorem Ek(h:Heap)(H:Hp):(xW h H).objs.size=h.objs.size:=PySem.W.hideAll_size _ _
theorem Gk(e:h.get? b=some o)(n:H b=none):(xW h H).get? b=some o:=
 PySem.W.hideAll_get _ e λhm=>by
  have q:(H b).isSome=true:=(eP.mp hm).2;rw[n] at q;simp at q
theorem Kq(e:(xW h H).get? b=some o):h.get? b=some o/\H b=none:=by
 have e':h.get? b=some o:=PySem.W.of_hideAll (uw h H) e;refine#[e',?_];cases q:H b with
 |none=>rfl
 |some x=>
  have hm:b∈uw h H:=eP.mpr #[pq.mpr (aM e'),by simp[q]];have z:(xW h H).get? b=none:=PySem.W.hideAll_none (uw h H) hm;rw[z] at e;cases e
noncomputable def oC(g h:Heap)(L:Addr):List (Addr×Obj):=(cq h.objs.size).filterMap λa=>if a=L\/(g.get? a).isSome=true then none else(h.get? a).map λo=>(a,o)
theorem zE(h1:a≠L)(h2:g.get? a=none)(h3:h.get? a=some o):(a,o)∈oC g h L:=
 k7.mpr #[a,pq.mpr (aM h3),by simp[h1,h2,h3]]
theorem uz(hp:p∈oC g h L):p.1≠L/\g.get? p.1=none/\h.get? p.1=some p.2:=by
 let#[b,_,e]:=k7.mp hp;split at e
 .cases e
 .rename_i hn
  cases q:h.get? b with
  |none=>rw[q] at e;simp at e
  |some u=>
   rw[q] at e;dsimp[j7,oZ] at e;subst e;refine#[λz=>hn (.inl z),?_,q];show g.get? b=none;cases r:g.get? b with
   |none=>rfl
   |some v=>exact(hn (.inr (by simp[r]))).elim
noncomputable def rest(g h:Heap)(L d:Addr):List (Addr×Obj):=(oC g h L).filter λp=>decide (p.1≠d)
theorem Gm:News g L h (oC g h L):=λp hp=>let ⟨a,b,c⟩:=uz hp;#[c,a,b]
structure Mod(K:aG)(mg:Str->Option Value)(base:Heap):Prop where
 R9:K.In base
 glob:base.Ns bz mg
 blt:∃mb,base.Ns A9 mb/\∀x:Str,x≠"__name__"->mb x=pG x
 nolimit:base.NoLimit
structure Cx where
 prog:bw
 w:cf
 K:aG
 mg:Str->Option Value
 base:Heap
 A:dF
 N:List Str
 s₀:aA
 H₀:Hp
 env:Env
 outer:List Env
 stack:List Env
 ex:List Addr
 fn:Str->Bool
 calm:Bool
 pn:List (Addr×Obj)
 xe:Value->aA->Prop
noncomputable def vT(l:List Env):List Addr:=l.filterMap (·.frame)
noncomputable abbrev Cx.fs(X:Cx):List Addr:=vT X.outer
def Sa(sc:jB)(x:Str):Prop:=sc.names.lookup x=some .local\/sc.names.lookup x=some .cell\/sc.names.lookup x=some .free
def Loc(sc:jB)(x:Str):Prop:=sc.names.lookup x=some .local\/sc.names.lookup x=some .cell
def Look(env:Env)(h:Heap)(m:Str->Option Value)(x:Str)(u:Value):Prop:=
 (env.kindOf x=some .local/\m x=some u)\/((env.kindOf x=some .cell\/env.kindOf x=some .free)/\∃c,env.cells.lookup x=some c/\h.IsCell c (some u))
structure Cx.Ok(X:Cx):Prop where
 mod:Mod X.K X.mg X.base
 kind:X.env.scope.kind=.function
 glob:X.env.globals=bz
 blt:X.env.builtins=A9
 above:X.s₀.heap.objs.size<=X.env.locals
 inj:∀x y c,X.env.cells.lookup x=some c->X.env.cells.lookup y=some c->x=y
 has:∀x,(X.env.kindOf x=some .cell\/X.env.kindOf x=some .free)->∃c,X.env.cells.lookup x=some c
 NU:∀x c,X.fn x=true->X.env.cells.lookup x=some c->X.s₀.heap.objs.size<=c
 hd:X.calm=true->X.A.handled=none
 frames:X.A.frames=some X.stack
 Gn:X.stack=X.outer\/(X.stack=X.env::X.outer/\X.env.frame=some X.env.locals)
 V7:∀b∈X.ex,b≠X.env.locals/\∀x c,X.env.cells.lookup x=some c->c≠b
 bs:∀b o,X.base.get? b=some o->X.s₀.heap.get? b=some o/\X.H₀ b=none
 Gs:X.base.objs.size<=X.s₀.heap.objs.size
 Bp:∀b o,X.base.get? b=some o->b∉X.ex
 El:∀b∈X.ex,b∉X.fs
 qt:X.s₀.heap.FunFrames X.base X.outer
 Kr:∀b∈X.fs,X.H₀ b=none
structure Inv(X:Cx)(pZ:List (Addr×Obj))(σ:List (Option V))(H:Hp)(s:aA):Prop where
 ok:X.Ok
 os:s.os=X.s₀.os
 bare:nG s.gens
 base:Un X.fs X.ex X.H₀ H X.s₀.heap s.heap
 loc:∃m,s.heap.Ns X.env.locals m/\∀(i:Nat)(x:Str)(v:V),X.N[i]?=some x->σ[i]?=some (some v)->Sa X.env.scope x->∃u,RelV v u/\Look X.env s.heap m x u
 cell:∀x c,X.env.cells.lookup x=some c->∃v,s.heap.IsCell c v
 free:H X.env.locals=none
 mZ:∀x c,X.env.cells.lookup x=some c->H c=none
 pin:∀p∈X.pn++pZ,s.heap.get? p.1=some p.2/\H p.1=none/\p.1≠X.env.locals/\p.1∉X.fs/\∀v,p.2.data≠.cell v
 dq:nh X.prog X.w H s.heap
 len:σ.length=X.N.length
section
variable{X:Cx}{pZ:List (Addr×Obj)}{σ:List (Option V)}{H H':Hp}{s:aA}{h':Heap}
theorem Cx.Ok.WK(ok:X.Ok)(e:X.base.get? b=some o):b∉X.fs:=λhb=>by
 have:=(ok.qt.mem hb).1;rw[e] at this;cases this
theorem Inv.bs(I:Inv X pZ σ H s):∀b o,X.base.get? b=some o->s.heap.get? b=some o/\H b=none:=λb o e=>
 #[I.base.keep b o (I.ok.bs b o e).1 (I.ok.bs b o e).2 (I.ok.WK e) (I.ok.Bp b o e),I.base.free b o (I.ok.bs b o e).1 (I.ok.bs b o e).2 (I.ok.Bp b o e)]
theorem Inv.bk(I:Inv X pZ σ H s):∀b o,X.base.get? b=some o->s.heap.get? b=some o:=λb o e=>(I.bs b o e).1
theorem Inv.mod(I:Inv X pZ σ H s):Mod X.K X.mg X.base:=I.ok.mod
theorem Inv.zc(I:Inv X pZ σ H s):X.K.In s.heap:=I.ok.mod.R9.keeps I.bk
theorem Inv.fr(I:Inv X pZ σ H s):∃m,Fr X.base X.env.locals s.heap m:=
 let ⟨m,hn,_⟩:=I.loc
 #[m,hn,I.bk,aI I.ok.Gs I.ok.above]
theorem Inv.lt(I:Inv X pZ σ H s):X.env.locals<s.heap.objs.size:=let ⟨_,hn,_⟩:=I.loc;hn.lt
theorem Inv.sz(I:Inv X pZ σ H s):X.s₀.heap.objs.size<=s.heap.objs.size:=aI I.ok.above (df I.lt)
theorem Inv.WL(I:Inv X pZ σ H s)(h:s.heap.objs.size<=a):a∉X.fs:=λhb=>by
 let#[_,o,ho,_]:=I.ok.qt.mem hb;erw[absurd (aq (aM ho) (aI I.sz h)) (dk _)]
theorem Inv.NV(I:Inv X pZ σ H s):∀x c,X.env.cells.lookup x=some c->c≠X.env.locals:=λx c e z=>by
 let#[v,o,ho,hd]:=I.cell x c e;let#[m,#[o',es,ep,ho',hd',_],_]:=I.loc;rw[z,ho'] at ho;cases ho;rw[hd'] at hd;cases hd
theorem Inv.qt(I:Inv X pZ σ H s):s.heap.FunFrames X.base X.outer:=by
 have all:∀(l:List Env),(∀b∈vT l,b∈X.fs)->X.s₀.heap.FunFrames X.base l->s.heap.FunFrames X.base l:=by
  intro l;induction l with
  |nil=>intro _ _;trivial
  |cons env r ih=>
   intro hs hl;let#[hk,#[L,o,hf,hn,ho,hd],hr]:=hl;have hL:L∈X.fs:=hs L (by unfold vT;rw[b9,hf];erw[aS]);let#[sl,e]:=I.base.slot L o ho (I.ok.Kr L hL) hL λz=>I.ok.El L z hL
   exact#[hk,#[L,_,hf,hn,e,hd],ih (λb hb=>hs b (by unfold vT;rw[b9,hf];erw[aB _ hb])) hr]
 erw[all X.outer (λ_ hb=>hb) I.ok.qt]
theorem Inv.stack(I:Inv X pZ σ H s):s.heap.FunFrames X.base X.stack:=by
 rcases I.ok.Gn with e|⟨e,hf⟩
 .rw[e];erw[I.qt]
 .rw[e]
  let#[m,hn,_]:=I.loc;rwa[.cons (by rw[I.ok.kind];decide) hf hn ?_ I.qt];erw[Heap.get?_none_of_le (aI I.ok.Gs I.ok.above)]
theorem Inv.uA(I:Inv X pZ σ H s):∀b∈vT X.stack,b∈X.env.locals::X.fs:=λb hb=>by
 rcases I.ok.Gn with e|⟨e,hf⟩
 .rw[e] at hb;erw[aB _ hb]
 .rw[e] at hb
  unfold vT at hb;rw[b9,hf] at hb;erw[hb]
theorem Inv.xX(I:Inv X pZ σ H s):∀b∈vT X.stack,H b=none:=λb hb=>by
 rcases aP.mp (I.uA b hb) with e|hb
 .rw[e];erw[I.free]
 .let#[_,o,ho,_]:=I.ok.qt.mem hb
  erw[I.base.free b o ho (I.ok.Kr b hb) λz=>I.ok.El b z hb]
theorem Inv.step{g':Array GenState}{t':Nat}{d':Drawn}{ch:List Addr}(I:Inv X pZ σ H s)
  (hch:∀b∈ch,(b∈X.ex\/X.s₀.heap.objs.size<=b)/\b≠X.env.locals/\(∀x c,X.env.cells.lookup x=some c->c≠b)/\∀p∈X.pn++pZ,p.1≠b)
  (keep:∀b o,b≠X.env.locals->b∉X.fs->b∉ch->s.heap.get? b=some o->H b=none->h'.get? b=some o)
  (slot:∀b o,b≠X.env.locals->b∈X.fs->b∉ch->s.heap.get? b=some o->H b=none->∃sl,h'.get? b=some {o with slots:=sl}) (free:∀b o,b∉ch->s.heap.get? b=some o->H b=none->H' b=none)
  (there:∀b o,b∉ch->s.heap.get? b=some o->∃o',h'.get? b=some o')
  (zC:∀b xs,H b=some (.tup xs)->H' b=some (.tup xs)) (xV:∀b o u,H b=some (.rJ o u)->H' b=some (.rJ o u)) (zD:∀b ps,H b=some (.NT ps)->∃more,H' b=some (.NT (ps++more)))
  (ns:∀m,s.heap.Ns X.env.locals m->h'.Ns X.env.locals m) (dq:nh X.prog X.w H' h') (hg:nG g'):
  Inv X pZ σ H' {s with heap:=h',gens:=g',drawn:=d',toks:=t'}:=by
 have neL:∀b o,X.s₀.heap.get? b=some o->b≠X.env.locals:=λb o e=>a9 (aq (aM e) I.ok.above)
 have neC:∀b o,X.s₀.heap.get? b=some o->b∉X.ex->b∉ch:=λb o e hx hb=>by
  rcases(hch b hb).1 with z|z
  .erw[hx z]
  .erw[absurd (aq (aM e) z) (dk _)]
 have cellK:∀x c,X.env.cells.lookup x=some c->∀v,s.heap.IsCell c v->h'.IsCell c v:=λx c e v #[o,ho,hd]=>by
  have nch:c∉ch:=λz=>(hch c z).2.2.1 x c e rfl
  by_cases hc:c∈X.fs
  .let#[sl,q]:=slot c o (I.NV x c e) hc nch ho (I.mZ x c e)
   exact#[_,q,hd]
  .exact#[o,keep c o (I.NV x c e) hc nch ho (I.mZ x c e),hd]
 refine#[I.ok,I.os,hg,#[λb o e n hb hx=>?_,λb o e n hb hx=>?_,λb o e n hx=>?_,λb o e hx=>?_,λb xs e=>zC b xs (I.base.zC b xs e),λb o xs e=>xV b o xs (I.base.xV b o xs e),λb ps e=>?_],?_,λx c e=>?_,?_,λx c e=>?_,λp hp=>?_,dq,I.len]
 .erw[keep b o (neL b o e) hb (neC b o e hx) (I.base.keep b o e n hb hx) (I.base.free b o e n hx)]
 .let#[sl,e1]:=I.base.slot b o e n hb hx
  let#[sl',e2]:=slot b _ (neL b o e) hb (neC b o e hx) e1 (I.base.free b o e n hx);exact#[sl',e2]
 .let#[o',e1]:=I.base.there b o e hx
  erw[free b o' (neC b o e hx) e1 (I.base.free b o e n hx)]
 .let#[o',e1]:=I.base.there b o e hx
  erw[there b o' (neC b o e hx) e1]
 .let#[m1,e1]:=I.base.zD b ps e
  let#[m2,e2]:=zD b _ e1;exact#[m1++m2,by rw[e2,Array.append_assoc]]
 .let#[m,hn,hl]:=I.loc
  refine#[m,ns m hn,λi x v e1 e2 e3=>?_];let#[u,r,l]:=hl i x v e1 e2 e3;refine#[u,r,?_];rcases l with l|⟨k,c,e,z⟩
  .erw[.inl l]
  .erw[.inr #[k,c,e,cellK x c e _ z]]
 .let#[v,z]:=I.cell x c e
  exact#[v,cellK x c e v z]
 .let#[m,#[o,_,_,ho,_],_]:=I.loc
  erw[free _ o (λz=>(hch _ z).2.1 rfl) ho I.free]
 .let#[v,o,ho,hd]:=I.cell x c e
  erw[free c o (λz=>(hch c z).2.2.1 x c e rfl) ho (I.mZ x c e)]
 .let#[e,n,ne,nf,d]:=I.pin p hp
  have nch:p.1∉ch:=λz=>(hch p.1 z).2.2.2 p hp rfl
  exact#[keep p.1 p.2 ne nf nch e n,free p.1 p.2 nch e n,ne,nf,d]
theorem Inv.un{t':Nat}(I:Inv X pZ σ H s)(u:Un X.fs [] H H' s.heap h')(dq:nh X.prog X.w H' h'):Inv X pZ σ H' {s with heap:=h',toks:=t'}:=by
 let#[m,#[o,es,ep,ho,r],_]:=id I.loc;let#[sl,hL]:=u.any ho I.free (by simp);exact I.step (g':=s.gens) (d':=s.drawn) (ch:=[]) (λ_ z=>nomatch z) (λb o _ hb _ e n=>u.keep b o e n hb (by simp)) (λb o _ hb _ e n=>u.slot b o e n hb (by simp)) (λb o _ e n=>u.free b o e n (by simp)) (λb o _ e=>u.there b o e (by simp)) u.zC u.xV u.zD (λm' hm=>by
  let#[o',es',ep',ho',r']:=hm;rw[ho] at ho';cases ho';exact#[_,es',ep',hL,r']) dq I.bare
theorem Inv.call{g':Array GenState}{t':Nat}{d':Drawn}{ch:List Addr}(I:Inv X pZ σ H s)(u:Un (vT X.stack) ch H H' s.heap h')(dq:nh X.prog X.w H' h')(hg:nG g')
  (hch:∀b∈ch,(b∈X.ex\/X.s₀.heap.objs.size<=b)/\b≠X.env.locals/\(∀x c,X.env.cells.lookup x=some c->c≠b)/\∀p∈X.pn++pZ,p.1≠b):
  Inv X pZ σ H' {s with heap:=h',gens:=g',drawn:=d',toks:=t'}:=by
 let#[m,#[o,es,ep,ho,r],_]:=id I.loc;let#[sl,hL]:=u.any ho I.free λz=>(hch _ z).2.1 rfl
 exact I.step (ch:=ch) hch (λb o hL hb hc e n=>u.keep b o e n (λz=>(aP.mp (I.uA b z)).elim hL hb) hc) (λb o _ _ hc e n=>u.any e n hc) (λb o hc e n=>u.free b o e n hc) (λb o hc e=>u.there b o e hc) u.zC u.xV u.zD (λm' hm=>by
  let#[o',es',ep',ho',r']:=hm;rw[ho] at ho';cases ho';exact#[_,es',ep',hL,r']) dq hg
theorem Inv.turned{t':Nat}{it:Addr}(I:Inv X pZ σ H s)(k:∀b o,b≠it->s.heap.get? b=some o->h'.get? b=some o)(hn:H it=none)(hL:it≠X.env.locals)
  (h1:it∈X.ex\/X.s₀.heap.objs.size<=it) (h2:∀x c,X.env.cells.lookup x=some c->c≠it) (h3:∀p∈X.pn++pZ,p.1≠it):Inv X pZ σ H {s with heap:=h',toks:=t'}:=by
 have nit:∀b u,H b=some u->b≠it:=λb u e z=>by rw[z,hn] at e;cases e
 refine I.step (g':=s.gens) (d':=s.drawn) (ch:=[it]) (λb hb=>?_) (λb o _ _ hc e _=>k b o (λz=>hc (by simp[z])) e) (λb o _ _ hc e _=>#[o.slots,k b o (λz=>hc (by simp[z])) e]) (λ_ _ _ _ n=>n)
  (λb o hc e=>#[o,k b o (λz=>hc (by simp[z])) e]) (λ_ _ e=>e) (λ_ _ _ e=>e) (λb ps e=>#[#[],by rw[e];simp]) (λm hm=>?_) (λb u e=>?_) I.bare
 .have e:b=it:=by simpa using hb
  subst e;exact#[h1,hL,h2,h3]
 .let#[o,es,ep,ho,r]:=hm
  exact#[o,es,ep,k _ o (bZ hL) ho,r]
 .refine(I.dq b u e).uv (λc v hc q=>k c v ?_ q) (λ_ q=>q) λ_ _ q=>q
  rcases hc with z|z
  .rw[z];erw[nit b u e]
  .erw[nit c _ z]
theorem Inv.tok(I:Inv X pZ σ H s)(t:Nat):Inv X pZ σ H {s with toks:=t}:=I.un (h':=s.heap) (t':=t) Un.refl I.dq
theorem Inv.kept{t':Nat}(I:Inv X pZ σ H s)(k:∀b u,s.heap.get? b=some u->h'.get? b=some u):Inv X pZ σ H {s with heap:=h',toks:=t'}:=I.un (Un.kept k) (I.dq.kept k)
theorem Inv.laid{a:Addr}{o:HO}{t':Nat}(I:Inv X pZ σ H s)(k:∀b u,s.heap.get? b=some u->h'.get? b=some u)(hp:s.heap.objs.size<=a)(new:dN X.prog X.w (upd H a o) h' a o):
  Inv X pZ σ (upd H a o) {s with heap:=h',toks:=t'}:=I.un (Un.laid k hp (I.dq.fresh hp)) (I.dq.laid k hp new)
theorem Inv.write(I:Inv X pZ σ H s)(mu:RG (H x))(he:e=x\/H e=some (.own x))(k:∀b u,b≠e->s.heap.get? b=some u->h'.get? b=some u)(heo:∃u,h'.get? e=some u)
  (new:dN X.prog X.w (upd H x o) h' x o):Inv X pZ σ (upd H x o) {s with heap:=h',toks:=t'}:=I.un (Un.write mu he k heo) (I.dq.write mu he k heo new)
theorem Inv.CO(I:Inv X pZ σ H s)(h:∀p∈pins',s.heap.get? p.1=some p.2/\H p.1=none/\p.1≠X.env.locals/\p.1∉X.fs/\∀v,p.2.data≠.cell v):Inv X pins' σ H s:=
 #[I.ok,I.os,I.bare,I.base,I.loc,I.cell,I.free,I.mZ,λp hp=>(aR.mp hp).elim (λz=>I.pin p (bS _ z)) (h p),I.dq,I.len]
theorem zF{N:List Str}(hN:N.Nodup){i j:Nat}{x:Str}(a:N[i]?=some x)(b:N[j]?=some x):i=j:=by
 let#[h1,e1]:=af.mp a;let#[h2,e2]:=af.mp b;exact(JS hN).mp (e1.trans e2.symm)
theorem wD{M:Model}{A:dF}{E:Value->aA->Prop}{i:Nat}{x:Str}{v:V}{u:Value}{Q:Unit->aA->Prop}(I:Inv X pZ σ H s)(hN:X.N.Nodup)(hi:X.N[i]?=some x)(hx:Loc X.env.scope x)(r:RelV v u)
  (h:∀s',Inv X pZ (σ.set i (some v)) H s'->(∃a,fS a s.heap s'.heap/\(a=X.env.locals\/X.env.cells.lookup x=some a))->Q () s') (hf:X.fn x=true\/X.env.scope.names.lookup x=some .local:=by first|exact .inl rfl|exact .inr rfl|assumption):wpAny M A (storeName X.env x u) Q E s:=by
 let#[m,hn,hl]:=id I.loc;have hcls:(X.env.scope.kind==.class||(X.env.scope.kind==.module&&X.env.locals !=X.env.globals))=false:=by rw[I.ok.kind];rfl
 have hiσ:i<σ.length:=by rw[I.len];exact(af.mp hi).1
 have NV:=I.NV;have tracked:∀{a:Addr}{h':Heap},(∃o,s.heap.get? a=some o/\H a=none)->fS a s.heap h'->nh X.prog X.w H h':=λ{a h'}ha hs b ob e=>by
  let#[_,_,hfree]:=ha;refine(I.dq b ob e).uv (λc w' hc q=>(hs.2 c ?_).trans q) (λ_ q=>q) λ_ _ q=>q
  rintro rfl;rcases hc with rfl|hc
  .rw[hfree] at e;cases e
  .rw[hfree] at hc;cases hc
 rcases hx with hk|hk
 .rwa[wpAny_storeName_local hk hn (λh' hn' hs=>?_) hcls]
  let#[oL,_,_,hoL,_]:=id hn;refine h _ #[I.ok,I.os,I.bare,#[λb o e n hb hx=>?_,λb o e n hb hx=>?_,I.base.free,λb o e hx=>?_,I.base.zC,I.base.xV,I.base.zD],#[_,hn',λj y v' e1 e2 e3=>?_],λy c e=>?_,I.free,I.mZ,λp hp=>?_,tracked #[oL,hoL,I.free] hs,by simpa using I.len] #[_,hs,.inl rfl]
  .exact(hs.2 b (a9 (aq (aM e) I.ok.above))).trans (I.base.keep b o e n hb hx)
  .let#[sl,e1]:=I.base.slot b o e n hb hx
   exact#[sl,(hs.2 b (a9 (aq (aM e) I.ok.above))).trans e1]
  .let#[o',e1]:=I.base.there b o e hx
   exact#[o',(hs.2 b (a9 (aq (aM e) I.ok.above))).trans e1]
  .by_cases hj:j=i
   .subst hj
    rw[hi] at e1;cases e1;rw[bg hiσ] at e2;cases e2;exact#[u,r,.inl #[hk,by simp]]
   .rw[ah (bZ hj)] at e2
    let#[u',r',q]:=hl j y v' e1 e2 e3;refine#[u',r',?_];rcases q with⟨k,e⟩|⟨k,c,e,z⟩
    .rwa[.inl #[k,?_]]
     have:y≠x:=λe=>hj (zF hN e1 (e▸hi))
     simp[this,e]
    .erw[.inr #[k,c,e,z.sameBut hs (NV y c e)]]
  .let#[w',z]:=I.cell y c e
   exact#[w',z.sameBut hs (NV y c e)]
  .let#[e,n,ne,nf,d]:=I.pin p hp
   exact#[(hs.2 p.1 ne).trans e,n,ne,nf,d]
 .have hfn:X.fn x=true:=by
   rcases hf with z|z
   .erw[z]
   .rw[z] at hk;cases hk
  let#[c,hc]:=I.ok.has x (.inl hk);let#[w',z]:=I.cell x c hc;rwa[wpAny_storeName_cell I.ok.kind hk hc z (λh' hc' hs=>?_)];let#[oc,hoc,hocd]:=id z;refine h {s with heap:=h'} #[I.ok,I.os,I.bare,#[λb o e n hb hx=>?_,λb o e n hb hx=>?_,I.base.free,λb o e hx=>?_,I.base.zC,I.base.xV,I.base.zD],#[m,hn.sameBut hs (bZ (NV x c hc)),λj y v' e1 e2 e3=>?_],λy c' e=>?_,I.free,I.mZ,λp hp=>?_,tracked #[oc,hoc,I.mZ x c hc] hs,by simpa using I.len] #[c,hs,.inr hc]
  .exact(hs.2 b (a9 (aq (aM e) (I.ok.NU x c hfn hc)))).trans (I.base.keep b o e n hb hx)
  .let#[sl,e1]:=I.base.slot b o e n hb hx
   exact#[sl,(hs.2 b (a9 (aq (aM e) (I.ok.NU x c hfn hc)))).trans e1]
  .let#[o',e1]:=I.base.there b o e hx
   exact#[o',(hs.2 b (a9 (aq (aM e) (I.ok.NU x c hfn hc)))).trans e1]
  .by_cases hj:j=i
   .subst hj
    rw[hi] at e1;cases e1;rw[bg hiσ] at e2;cases e2;exact#[u,r,.inr #[.inl hk,c,hc,hc']]
   .rw[ah (bZ hj)] at e2
    let#[u',r',q]:=hl j y v' e1 e2 e3;refine#[u',r',?_];rcases q with q|⟨k,c',e,z'⟩
    .erw[.inl q]
    .rwa[.inr #[k,c',e,z'.sameBut hs ?_]]
     rintro rfl;erw[hj (zF hN e1 (I.ok.inj _ _ _ e hc▸hi))]
  .by_cases hcc:c'=c
   .subst hcc;exact#[_,hc']
   .let#[w2,z2]:=I.cell y c' e
    exact#[w2,z2.sameBut hs hcc]
  .let#[e,n,ne,nf,d]:=I.pin p hp
   refine#[(hs.2 p.1 ?_).trans e,n,ne,nf,d];intro q;rw[q,hoc] at e;have q':oc=p.2:=aJ e;erw[d w' (by rw[<-q'];exact hocd)]
theorem qu{M:Model}{A:dF}{E:Value->aA->Prop}{i:Nat}{x:Str}{v:V}{u:Value}{Q:Unit->aA->Prop}(I:Inv X pZ σ H s)(hN:X.N.Nodup)(hi:X.N[i]?=some x)(hx:Loc X.env.scope x)(r:RelV v u)
  (h:∀s',Inv X pZ (σ.set i (some v)) H s'->Q () s') (hf:X.fn x=true\/X.env.scope.names.lookup x=some .local:=by first|exact .inl rfl|exact .inr rfl|assumption):wpAny M A (storeName X.env x u) Q E s:=
 wD I hN hi hx r (λs' I' _=>h s' I') hf
theorem Inv.Nd(I:Inv X pZ σ H s)(ho:s'.os=s.os)(u:Un (vT X.stack) ch H H' s.heap s'.heap)(dq:nh X.prog X.w H' s'.heap)(hg:nG s'.gens)
  (hch:∀b∈ch,(b∈X.ex\/X.s₀.heap.objs.size<=b)/\b≠X.env.locals/\(∀x c,X.env.cells.lookup x=some c->c≠b)/\∀p∈X.pn++pZ,p.1≠b):Inv X pZ σ H' s':=by
 let#[h',g',d',t',o']:=s';have e:o'=s.os:=ho;subst e;erw[I.call (g':=g') (t':=t') (d':=d') u dq hg hch]
end
abbrev XK:=Value->Option Addr->Hp->Prop
abbrev St:=List (Option V)
abbrev VK:=V->Hp->Prop
abbrev TE:=St->Hp->VK->Prop
abbrev TT:=St->Hp->(Bool->Hp->Prop)->Prop
abbrev TA:=St->Hp->(List V->Hp->Prop)->Prop
structure Ends where
 nx:St->Hp->Prop
 rt:VK
 bk:St->Hp->Prop:=λ_ _=>False
 ct:St->Hp->Prop:=λ_ _=>False
abbrev TS:=Ends->St->Hp->Prop
def EP(X:Cx)(pZ:List (Addr×Obj))(σ:St)(Q:VK)(u:Value)(s':aA):Prop:=∃v H',Inv X pZ σ H' s'/\RelV v u/\Q v H'
def TP(X:Cx)(pZ:List (Addr×Obj))(σ:St)(Q:Bool->Hp->Prop)(b:Bool)(s':aA):Prop:=∃H',Inv X pZ σ H' s'/\Q b H'
def AP(X:Cx)(pZ:List (Addr×Obj))(σ:St)(Q:List V->Hp->Prop)(us:List Value)(s':aA):Prop:=∃vs H',Inv X pZ σ H' s'/\Vals vs us/\Q vs H'
def SP(X:Cx)(pZ:List (Addr×Obj))(D:Ends)(f:Flow)(s':aA):Prop:=
 match f with
 |.next=>∃σ' H',Inv X pZ σ' H' s'/\D.nx σ' H'
 |.brk=>∃σ' H',Inv X pZ σ' H' s'/\D.bk σ' H'
 |.cont=>∃σ' H',Inv X pZ σ' H' s'/\D.ct σ' H'
 |.ret u=>∃v σ' H',Inv X pZ σ' H' s'/\RelV v u/\D.rt v H'
def PE(X:Cx)(e:Expr)(t:TE):Prop:=
 ∀(pZ:List (Addr×Obj))(s:aA)(σ:St)(H:Hp)(Q:VK),Inv X pZ σ H s->t σ H Q->wpAny (ba X.prog X.w) X.A (eval e X.env) (EP X pZ σ Q) X.xe s
def PT(X:Cx)(e:Expr)(t:TT):Prop:=
 ∀(pZ:List (Addr×Obj))(s:aA)(σ:St)(H:Hp)(Q:Bool->Hp->Prop),Inv X pZ σ H s->t σ H Q->wpAny (ba X.prog X.w) X.A (isTrue e X.env (eval e X.env)) (TP X pZ σ Q) X.xe s
def PW(X:Cx)(e:Expr)(t:TT):Prop:=
 ∀(whole:Sem Value)(pZ:List (Addr×Obj))(s:aA)(σ:St)(H:Hp)(Q:Bool->Hp->Prop),Inv X pZ σ H s->t σ H Q->wpAny (ba X.prog X.w) X.A (isTrue e X.env whole) (TP X pZ σ Q) X.xe s
theorem PW.pt{X:Cx}{e:Expr}{t:TT}(h:PW X e t):PT X e t:=h _
def PA(X:Cx)(es:List Expr)(t:TA):Prop:=
 ∀(pos:Pos)(pZ:List (Addr×Obj))(s:aA)(σ:St)(H:Hp)(Q:List V->Hp->Prop),Inv X pZ σ H s->t σ H Q->wpAny (ba X.prog X.w) X.A (spliced (ic pos (bI es X.env))) (AP X pZ σ Q) X.xe s
def PS(X:Cx)(st:Stmt)(t:TS):Prop:=
 ∀(pZ:List (Addr×Obj))(s:aA)(σ:St)(H:Hp)(D:Ends),Inv X pZ σ H s->t D σ H->wpAny (ba X.prog X.w) X.A (exec st X.env) (SP X pZ D) X.xe s
def vU(X:Cx)(st:List Stmt)(t:TS):Prop:=
 ∀(pZ:List (Addr×Obj))(s:aA)(σ:St)(H:Hp)(D:Ends),Inv X pZ σ H s->t D σ H->wpAny (ba X.prog X.w) X.A (execs st X.env) (SP X pZ D) X.xe s
theorem d6{α:Type}{t:Sem α}{Q Q':α->aA->Prop}{M:Model}{A:dF}{E:Value->aA->Prop}{s:aA}(h:wpAny M A t Q E s)(hQ:∀a s,Q a s->Q' a s):wpAny M A t Q' E s:=bU h hQ λ_ _ x=>x
section
variable{X:Cx}
def WM(i:Nat):TE:=λσ H Q=>∃v,σ[i]?=some (some v)/\Q v H
def tC(v:V):TE:=λ_ H Q=>Q v H
theorem NW(hN:X.N[i]?=some x)(hv:Sa X.env.scope x)(hd:(x==("__debug__":Str))=false:=by decide)(hcd:(x==("__classdict__":Str))=false:=by decide):PE X (.Name x pos) (WM i):=by
 k_go;let#[v,e,h]:=h;let#[m,hn,hl]:=I.loc;let#[u,r,l]:=hl i x v hN e hv;have fin:EP X pZ σ Q u s:=#[v,H,I,r,h]
 rcases l with⟨hk,hm⟩|⟨hk,c,hc,hcell⟩
 .erw[wpAny_Name (Kg I.ok.kind hk hn hm fin) hd]
 .rcases hk with hk|hk
  .erw[wpAny_Name (wpAny_loadName_cell I.ok.kind hk hc hcell fin) hd]
  .erw[wpAny_Name (wpAny_loadName_free I.ok.kind hk hc hcell fin hcd) hd]
theorem NX{i j pos}:PE X (.Constant (.int i) j pos) (tC (.int i)):=λ_ _ _ H _ I h=>wpAny_Constant_int #[.int i,H,I.tok _,#[_,rfl],h]
theorem Sb{b j pos}:PE X (.Constant (.bool b) j pos) (tC (.bl b)):=λ_ _ _ H _ I h=>Constant_bool #[.bl b,H,I,rfl,h]
theorem NY{j pos}:PE X (.Constant .none j pos) (tC .bQ):=λ_ _ _ H _ I h=>Constant_none #[.bQ,H,I,rfl,h]
theorem NZ{x j pos}:PE X (.Constant (.str x) j pos) (tC (.str x)):=λ_ _ _ H _ I h=>Calls.Constant_str #[.str x,H,I.tok _,#[_,rfl],h]
def Gl(X:Cx)(x:Str):Prop:=X.env.kindOf x=some .globalImplicit
theorem qv{E:Value->aA->Prop}{pZ:List (Addr×Obj)}{s:aA}{σ:St}{H:Hp}{x:Str}{u:Value}{pos:Pos}{Q:Value->aA->Prop}(I:Inv X pZ σ H s)(hg:Gl X x)(hm:X.mg x=some u)(h:Q u s)
  (hd:(x==("__debug__":Str))=false:=by decide):wpAny (ba X.prog X.w) X.A (eval (.Name x pos) X.env) Q E s:=
 vM I.ok.kind hg (Calls.loadGlobal_global (by rw[I.ok.glob];erw[I.mod.glob.keeps I.bk]) hm h) hd
theorem pK{E:Value->aA->Prop}{pZ:List (Addr×Obj)}{s:aA}{σ:St}{H:Hp}{x:Str}{u:Value}{pos:Pos}{Q:Value->aA->Prop}(I:Inv X pZ σ H s)(hg:Gl X x)(hm:X.mg x=none)(hv:pG x=some u)(h:Q u s)
  (hn:x≠"__name__":=by decide) (hd:(x==("__debug__":Str))=false:=by decide):wpAny (ba X.prog X.w) X.A (eval (.Name x pos) X.env) Q E s:=by
 let#[mb,h1,h2]:=I.mod.blt;erw[vM I.ok.kind hg (Calls.loadGlobal_builtin (by rw[I.ok.glob];exact I.mod.glob.keeps I.bk) hm (by rw[I.ok.blt];exact h1.keeps I.bk) ((h2 x hn).trans hv) h) hd]
theorem Ks{x:Str}{v:V}{u:Value}{pos:Pos}(hg:Gl X x)(hm:X.mg x=some u)(r:RelV v u)(hd:(x==("__debug__":Str))=false:=by decide):PE X (.Name x pos) (tC v):=
 λ_ _ _ H _ I h=>qv I hg hm #[v,H,I,r,h] hd
variable{a b:Expr}{ta tb:TE}{pos:Pos}
variable{tA tB':TT}{rest:List Expr}
def WN(t u:TT):TT:=λσ H Q=>t σ H λc H1=>if c=true then u σ H1 Q else Q false H1
def tOr(t u:TT):TT:=λσ H Q=>t σ H λc H1=>if c=true then Q true H1 else u σ H1 Q
def WQ(t:TT):TT:=λσ H Q=>t σ H λc H1=>Q (!c) H1
theorem Kt(ha:PT X a tA):PW X (.BoolOp .And [a] pos) tA:=by
 intro wh pZ s σ H Q I h;rwa[isTrue_and (d6 (ha pZ s σ H Q I h) λc s1 e=>?_)];cases c with
 |true=>erw[isTrue_and_nil e]
 |false=>erw[e]
theorem N0(ha:PT X a tA):PW X (.BoolOp .Or [a] pos) tA:=by
 intro wh pZ s σ H Q I h;rwa[isTrue_or (d6 (ha pZ s σ H Q I h) λc s1 e=>?_)];cases c with
 |false=>erw[isTrue_or_nil e]
 |true=>erw[e]
theorem N1(ha:PT X a tA)(hb:PW X (.BoolOp .And (b::rest) pos) tB'):PW X (.BoolOp .And (a::b::rest) pos) (WN tA tB'):=by
 intro wh pZ s σ H Q I h;rwa[isTrue_and (d6 (ha pZ s σ H _ I h) λc s1 h9=>?_)];let#[H1,I1,q1]:=h9;cases c with
 |true=>erw[hb wh pZ s1 σ H1 Q I1 q1]
 |false=>exact#[H1,I1,q1]
theorem Sd(ha:PT X a tA)(hb:PW X (.BoolOp .Or (b::rest) pos) tB'):PW X (.BoolOp .Or (a::b::rest) pos) (tOr tA tB'):=by
 intro wh pZ s σ H Q I h;rwa[isTrue_or (d6 (ha pZ s σ H _ I h) λc s1 h9=>?_)];let#[H1,I1,q1]:=h9;cases c with
 |true=>exact#[H1,I1,q1]
 |false=>erw[hb wh pZ s1 σ H1 Q I1 q1]
theorem N2(ha:PT X a tA):PT X (.UnaryOp .Not a pos) (WQ tA):=by
 k_go;erw[isTrue_not (ha pZ s σ H (λc H1=>Q (!c) H1) I h)]
def Se(ta tb:TE):TE:=λσ H Q=>ta σ H λx H1=>∃c,x=.bl c/\if c=true then tb σ H1 Q else Q (.bl false) H1
def WR(ta tb:TE):TE:=λσ H Q=>ta σ H λx H1=>∃c,x=.bl c/\if c=true then Q (.bl true) H1 else tb σ H1 Q
def Sf(ta:TE):TE:=λσ H Q=>ta σ H λx H1=>∃c,x=.bl c/\Q (.bl (!c)) H1
theorem N3{op}(h:PE X a t):PE X (.BoolOp op [a] pos) t:=λpZ s σ H Q I hw=>BoolOp_one (h pZ s σ H Q I hw)
theorem N4(ha:PE X a ta)(hb:PE X (.BoolOp .And (b::rest) pos) tb):PE X (.BoolOp .And (a::b::rest) pos) (Se ta tb):=by
 k_go;rwa[BoolOp_and (d6 (ha pZ s σ H _ I h) λv s1 h9=>?_)];let#[x,H1,I1,r1,q1]:=h9;let#[c,rfl,q1]:=q1;cases r1;rwa[cX ?_];cases c with
 |true=>erw[hb pZ s1 σ H1 Q I1 q1]
 |false=>exact#[.bl false,H1,I1,rfl,q1]
theorem Sg(ha:PE X a ta)(hb:PE X (.BoolOp .Or (b::rest) pos) tb):PE X (.BoolOp .Or (a::b::rest) pos) (WR ta tb):=by
 k_go;rwa[BoolOp_or (d6 (ha pZ s σ H _ I h) λv s1 h9=>?_)];let#[x,H1,I1,r1,q1]:=h9;let#[c,rfl,q1]:=q1;cases r1;rwa[cX ?_];cases c with
 |false=>erw[hb pZ s1 σ H1 Q I1 q1]
 |true=>exact#[.bl true,H1,I1,rfl,q1]
theorem N5(ha:PE X a ta):PE X (.UnaryOp .Not a pos) (Sf ta):=by
 k_go;rwa[UnaryOp_ (d6 (ha pZ s σ H _ I h) λv s1 h9=>?_)];let#[x,H1,I1,r1,q1]:=h9;let#[c,rfl,q1]:=q1;cases r1;erw[not_of (cX #[.bl (!c),H1,I1,rfl,q1])]
def tIf(t:TT)(ta tb:TE):TE:=λσ H Q=>t σ H λc H1=>if c=true then ta σ H1 Q else tb σ H1 Q
theorem Gu{c:Expr}(hc:PT X c tA)(ha:PE X a ta)(hb:PE X b tb):PE X (.IfExp c a b pos) (tIf tA ta tb):=by
 k_go;rwa[wpAny_IfExp (d6 (hc pZ s σ H _ I h) λd s1 h9=>?_)];let#[H1,I1,q1]:=h9;cases d with
 |true=>erw[ha pZ s1 σ H1 Q I1 q1]
 |false=>erw[hb pZ s1 σ H1 Q I1 q1]
end
def hU(K:aG)(H:Hp)(a:Addr)(xs:List V):Prop:=
 Rd H a (.lst xs) \/
  ∃(o:Obj)(its:Array Value)(n:Nat),K.lookup a=some o/\o.cls=.type "list"/\o.dict=none/\o.data=.seq its n/\its.size<=sizeLine/\Vals xs its.toList
def lQ(K:aG)(H:Hp)(a:Addr)(xs:List V):Prop:=
 Rd H a (.tup xs) \/
  ∃(o:Obj)(its:Array Value)(n:Nat),K.lookup a=some o/\o.cls=.type "tuple"/\o.data=.seq its n/\its.size<=sizeLine/\Vals xs its.toList
noncomputable def WU:Value->Option V
 |.none=>some .bQ
 |.bool b=>some (.bl b)
 |.int i _=>some (.int i)
 |.str x _=>some (.str x)
 |.bytes b _=>some (.A1 b)
 |.float b _=>some (.V6 b)
 |.ref a=>some (.ref a)
 |.type n=>some (.ty n)
 |_=>none
theorem RelV.abs(r:RelV x u):WU u=some x:=by
 cases x with
 |bQ=>cases r;rfl
 |bl _=>cases r;rfl
 |int _=>let#[t,rfl]:=r;rfl
 |str _=>let#[t,rfl]:=r;rfl
 |A1 _=>let#[t,rfl]:=r;rfl
 |V6 _=>let#[t,rfl]:=r;rfl
 |ref _=>cases r;rfl
 |ty _=>cases r;rfl
theorem RelV.inj{x y:V}{u:Value}(r:RelV x u)(q:RelV y u):x=y:=aJ (r.abs.symm.trans q.abs)
theorem Vals.inj:∀{xs ys:List V}{us:List Value},Vals xs us->Vals ys us->xs=ys
 |_,_,_,.nil,.nil=>rfl
 |_,_,_,.cons r t,.cons r' t'=>by rw[r.inj r',Vals.inj t t']
section
variable{X:Cx}{pZ:List (Addr×Obj)}{σ:St}{H:Hp}{s:aA}{a:Addr}{xs ys:List V}
theorem hU.of{K:aG}(h:H a=some (.lst xs)):hU K H a xs:=.inl (.inl h)
theorem lQ.of{K:aG}(h:H a=some (.tup xs)):lQ K H a xs:=.inl (.inl h)
theorem Inv.list(I:Inv X pZ σ H s)(h:hU X.K H a xs):∃its:List Value,Vals xs its/\PlainL s.heap a its.toArray/\xs.length<=sizeLine:=by
 rcases h with h|⟨o,its,n,hk,hc,hd,hs,hz,r⟩
 .let#[z,its,n,r,e]:=h.ok I.dq
  exact#[its,r,#[_,n,e,rfl,rfl,rfl],z]
 .refine#[its.toList,r,#[o,n,I.zc a o hk,hc,hd,by simpa using hs],?_]
  have e:=r.length;dsimp[pH] at e;omega
theorem Inv.tuple(I:Inv X pZ σ H s)(h:lQ X.K H a xs):∃its:List Value,Vals xs its/\IsTup s.heap a its.toArray/\xs.length<=sizeLine:=by
 rcases h with h|⟨o,its,n,hk,hc,hs,hz,r⟩
 .let#[z,its,r,p]:=h.ok I.dq
  exact#[its,r,p,z]
 .refine#[its.toList,r,#[o,I.zc a o hk,hc,n,by simpa using hs],?_]
  have e:=r.length;dsimp[pH] at e;omega
theorem Inv.qw(I:Inv X pZ σ H s)(h:hU X.K H a xs)(h':hU X.K H a ys):xs=ys:=by
 let#[its,r,#[o,n,e,_,_,d],_]:=I.list h;let#[its',r',#[o',n',e',_,_,d'],_]:=I.list h';rw[e] at e';cases e';rw[d] at d';injection d' with d1 _
 have:its=its':=by simpa using congrArg zo d1
 subst this;erw[r.inj r']
theorem Inv.wF(I:Inv X pZ σ H s)(h:lQ X.K H a xs)(h':lQ X.K H a ys):xs=ys:=by
 let#[its,r,#[o,e,_,n,d],_]:=I.tuple h;let#[its',r',#[o',e',_,n',d'],_]:=I.tuple h';rw[e] at e';cases e';rw[d] at d';injection d' with d1 _
 have:its=its':=by simpa using congrArg zo d1
 subst this;erw[r.inj r']
end
section
variable{X:Cx}{st:Stmt}{rest:List Stmt}{t u:TS}{e:Expr}{te:TE}{pos:Pos}
def Sh:TS:=λD σ H=>D.nx σ H
def WV(t u:TS):TS:=λD σ H=>t {D with nx:=u D} σ H
theorem Ku:vU X [] Sh:=λ_ _ σ H _ I h=>p7 #[σ,H,I,h]
theorem Gv(h1:PS X st t)(h2:vU X rest u):vU X (st::rest) (WV t u):=by
 intro pZ s σ H D I h;refine wpAny_execs_cons (d6 (h1 pZ s σ H {D with nx:=u D} I h) λf s1 q=>?_);cases f with
 |next=>
  let#[σ',H',I',q]:=q;erw[h2 pZ s1 σ' H' D I' q]
 |ret v=>erw[q]
 |brk=>erw[q]
 |cont=>erw[q]
theorem Inv.quiet{pZ:List (Addr×Obj)}{σ:St}{H:Hp}{s:aA}(I:Inv X pZ σ H s):interactive X.env=false:=by simp[interactive,I.ok.kind]
def Si(te:TE):TS:=λD σ H=>te σ H λ_ H1=>D.nx σ H1
theorem Kv(he:PE X e te)(hs:fB e none pos.line X.env=pure false:=by rfl):PS X (.Expr e pos) (Si te):=by
 intro pZ s σ H D I h;rwa[wpAny_Expr_any (d6 (he pZ s σ H _ I h) λv s1 h9=>?_) I.quiet hs];let#[x,H1,I1,r1,q1]:=h9;exact#[σ,H1,I1,q1]
def WW(te:TE):TS:=λD σ H=>te σ H D.rt
theorem N6(he:PE X e te):PS X (.Return (some e) pos) (WW te):=by
 intro pZ s σ H D I h;rwa[wpAny_Return_some (d6 (he pZ s σ H _ I h) λv s1 h9=>?_)];let#[x,H1,I1,r1,q1]:=h9;exact#[x,σ,H1,I1,r1,q1]
def WX(c:TT)(t u:TS):TS:=λD σ H=>c σ H λb H1=>if b=true then t D σ H1 else u D σ H1
theorem Sj{c:Expr}{a b:List Stmt}{tc:TT}(hc:PT X c tc)(ha:vU X a t)(hb:vU X b u):PS X (.If c a b pos) (WX tc t u):=by
 intro pZ s σ H D I h;rwa[wpAny_If (d6 (hc pZ s σ H _ I h) λd s1 h9=>?_)];let#[H1,I1,q1]:=h9;cases d with
 |true=>erw[ha pZ s1 σ H1 D I1 q1]
 |false=>erw[hb pZ s1 σ H1 D I1 q1]
end
abbrev TG:=V->St->Hp->(St->Hp->Prop)->Prop
abbrev N7:=List V->St->Hp->(St->Hp->Prop)->Prop
def PG(X:Cx)(target:Expr)(t:TG):Prop:=
 ∀(pZ:List (Addr×Obj))(s:aA)(σ:St)(H:Hp)(v:V)(u:Value)(Q:St->Hp->Prop),Inv X pZ σ H s->RelV v u->t v σ H Q ->
  wpAny (ba X.prog X.w) X.A (xF target X.env u) (λ_ s'=>∃σ' H',Inv X pZ σ' H' s'/\Q σ' H') X.xe s
def V8(X:Cx)(ts:List Expr)(t:N7):Prop:=
 ∀(pZ:List (Addr×Obj))(s:aA)(σ:St)(H:Hp)(vs:List V)(us:List Value)(Q:St->Hp->Prop),Inv X pZ σ H s->Vals vs us->t vs σ H Q ->
  wpAny (ba X.prog X.w) X.A (assignInOrder ((uj ts X.env).map (·.2)) us) (λ_ s'=>∃σ' H',Inv X pZ σ' H' s'/\Q σ' H') X.xe s
abbrev Gx:=V->V->V->Hp->(Hp->Prop)->Prop
def N8(X:Cx)(t:Gx):Prop:=
 ∀(pZ:List (Addr×Obj))(s:aA)(σ:St)(H:Hp)(o i v:V)(ov iv u:Value)(Q:Hp->Prop),Inv X pZ σ H s->RelV o ov->RelV i iv->RelV v u->t o i v H Q ->
  wpAny (ba X.prog X.w) X.A (setItem ov iv u) (λ_ s'=>∃H',Inv X pZ σ H' s'/\Q H') X.xe s
abbrev Sk:=V->V->Hp->VK->Prop
def Y4(X:Cx)(op:me)(t:Sk):Prop:=
 ∀(pZ:List (Addr×Obj))(s:aA)(σ:St)(H:Hp)(x y:V)(v u:Value)(Q:VK),Inv X pZ σ H s->RelV x v->RelV y u->t x y H Q ->
  wpAny (ba X.prog X.w) X.A (gX op v u) (EP X pZ σ Q) X.xe s
section
variable{X:Cx}{pos:Pos}
def wG(i:Nat):TG:=λv σ H Q=>Q (σ.set i (some v)) H
theorem qy{i:Nat}{x:Str}(hN:X.N.Nodup)(hi:X.N[i]?=some x)(hx:Loc X.env.scope x)(hf:X.fn x=true\/X.env.scope.names.lookup x=some .local:=by first|exact .inl rfl|exact .inr rfl|assumption):PG X (.Name x pos) (wG i):=by
 intro pZ s σ H v u Q I r h;erw[vN (qu I hN hi hx r (λs' I'=>#[_,H,I',h]) hf)]
noncomputable def WY:N7:=λvs σ H Q=>vs=[]/\Q σ H
noncomputable def Sl(t:TG)(u:N7):N7:=λvs σ H Q=>∃v r,vs=v::r/\t v σ H λσ' H'=>u r σ' H' Q
theorem CP:V8 X [] WY:=by
 intro pZ s σ H vs us Q I r h;let#[e,h]:=h;subst e;cases r;erw[assignInOrder_nil #[σ,H,I,h]]
theorem qz{e:Expr}{es:List Expr}{t:TG}{u:N7}(h1:PG X e t)(h2:V8 X es u)
  (hs:(uj (e::es) X.env).map (·.2)=xF e X.env::(uj es X.env).map (·.2):=by rfl):V8 X (e::es) (Sl t u):=by
 intro pZ s σ H vs us Q I r h;let#[v,vr,e1,h]:=h;subst e1;cases r with
 |cons r rr=>
  rw[hs]
  rwa[assignInOrder_cons (d6 (h1 pZ s σ H _ _ _ I r h) λ_ s1 h9=>?_)];let#[σ1,H1,I1,q1]:=h9;erw[h2 pZ s1 σ1 H1 _ _ Q I1 rr q1]
def WZ(K:aG)(n:Nat)(t:N7):TG:=λv σ H Q=>∃a xs,v=.ref a/\lQ K H a xs/\xs.length=n/\t xs σ H Q
theorem Gy{es:List Expr}{k:Nat}{t:N7}{n:Nat}(hc:X.calm=true)(h:V8 X es t)
  (hn:(uj es X.env).length=n:=by rfl) (hst:(uj es X.env).findIdx? (·.1)=none:=by rfl):PG X (.Tuple es k pos) (WZ X.K n t):=by
 intro pZ s σ H v u Q I r hw;let#[a,xs,e1,hq,hl,hw]:=hw;subst e1;cases r;let#[its,rv,ht,hz]:=I.tuple hq;rwa[assign_Tuple_tuple (I.ok.hd hc) ht (by simp[hn,<-hl,rv.length]) hst λh' hx=>?_]
 have I1:Inv X pZ σ H {s with heap:=h'}:=I.kept (t':=s.toks) λb o e=>hx b o (a9 (aM e)) e
 exact h pZ _ σ H xs _ Q I1 (by simpa using rv) hw
def Sn(te:TE)(g:TG):TS:=λD σ H=>te σ H λx H1=>g x σ H1 D.nx
theorem Gz{i:Nat}{x:Str}{e:Expr}{te:TE}{pos':Pos}(hN:X.N.Nodup)(hi:X.N[i]?=some x)(hx:Loc X.env.scope x)(he:PE X e te)(hs:fB e (some (.Name x pos')) pos.line X.env=pure false:=by rfl)(hf:X.fn x=true\/X.env.scope.names.lookup x=some .local:=by first|exact .inl rfl|exact .inr rfl|assumption):
  PS X (.Assign [.Name x pos'] e pos) (Sn te (wG i)):=by
 intro pZ s σ H D I h;rwa[wpAny_Assign_Name (d6 (he pZ s σ H _ I h) λv s1 h9=>?_) hs];let#[y,H1,I1,r1,q1]:=h9;erw[qu I1 hN hi hx r1 (λs2 I2=>#[_,H1,I2,q1]) hf]
def W0(i:Nat)(te:TE)(ti:Sk):TS:=λD σ H=>∃x,σ[i]?=some (some x)/\te σ H λy H1=>ti x y H1 λz H2=>D.nx (σ.set i (some z)) H2
theorem N9{i:Nat}{x:Str}{e:Expr}{te:TE}{op:me}{ti:Sk}{pos':Pos}(hN:X.N.Nodup)(hi:X.N[i]?=some x)(hx:Loc X.env.scope x)(he:PE X e te)(ho:Y4 X op ti)(hf:X.fn x=true\/X.env.scope.names.lookup x=some .local:=by first|exact .inl rfl|exact .inr rfl|assumption):
  PS X (.AugAssign (.Name x pos') op e pos) (W0 i te ti):=by
 intro pZ s σ H D I h;let#[v,e1,h]:=h;let#[m,hn,hl]:=I.loc;have vis:Sa X.env.scope x:=by rcases hx with k|k;erw[.inl k];erw[.inr (.inl k)]
 let#[u,r,l]:=hl i x v hi e1 vis;refine wpAny_AugAssign_Name ?_;have go:wpAny (ba X.prog X.w) X.A (eval e X.env) (λw s₂=>wpAny (ba X.prog X.w) X.A (gX op u w) (λr s₃=>wpAny (ba X.prog X.w) X.A (storeName X.env x r) (λ_=>SP X pZ D .next) X.xe s₃) X.xe s₂) X.xe s:=by
  rwa[d6 (he pZ s σ H _ I h) λw s1 h9=>?_]
  let#[y,H1,I1,r1,q1]:=h9;rwa[d6 (ho pZ s1 σ H1 v y u w _ I1 r r1 q1) λz s2 h9=>?_]
  let#[zv,H2,I2,r2,q2]:=h9;erw[qu I2 hN hi hx r2 (λs3 I3=>#[_,H2,I3,q2]) hf]
 rcases l with⟨hk,hm⟩|⟨hk,c,hc,hcell⟩
 .erw[Kg I.ok.kind hk hn hm go]
 .rcases hk with hk|hk
  .erw[wpAny_loadName_cell I.ok.kind hk hc hcell go]
  .rcases hx with k|k
   .have:X.env.scope.names.lookup x=some .free:=hk
    rw[k] at this;cases this
   .have:X.env.scope.names.lookup x=some .free:=hk
    rw[k] at this;cases this
def So(to ti te:TE)(tget:V->V->Hp->VK->Prop)(tip:Sk)(tset:Gx):TS:=λD σ H=>to σ H λo H1=>ti σ H1 λi H2=>tget o i H2 λx H3=>te σ H3 λy H4=>tip x y H4 λz H5=>tset o i z H5 λH6=>D.nx σ H6
def Sq(X:Cx)(t:V->V->Hp->VK->Prop):Prop:=
 ∀(pZ:List (Addr×Obj))(s:aA)(σ:St)(H:Hp)(o i:V)(ov iv:Value)(Q:VK),Inv X pZ σ H s->RelV o ov->RelV i iv->t o i H Q ->
  wpAny (ba X.prog X.w) X.A (nH ov iv) (EP X pZ σ Q) X.xe s
theorem Kw{o i e:Expr}{to ti te:TE}{tget:V->V->Hp->VK->Prop}{tip:Sk}{tset:Gx}{op:me}{tpos:Pos}(ho:PE X o to)(hi:PE X i ti)(hg:Sq X tget)(he:PE X e te)(hp:Y4 X op tip)(hs:N8 X tset)
  (ha:∀ov iv new,augStore i ov iv new=(do holding [new,ov,iv] (setItem ov iv new);release [new,ov,iv] [];pure .next):=by intros;rfl):PS X (.AugAssign (.Subscript o i tpos) op e pos) (So to ti te tget tip tset):=by
 intro pZ s σ H D I h;rwa[wpAny_AugAssign_SubscriptAny (d6 (ho pZ s σ H _ I h) λov s1 h9=>?_) ha];let#[x1,H1,I1,r1,q1]:=h9;rwa[d6 (hi pZ s1 σ H1 _ I1 q1) λiv s2 h9=>?_]
 let#[x2,H2,I2,r2,q2]:=h9;rwa[d6 (hg pZ s2 σ H2 x1 x2 ov iv _ I2 r1 r2 q2) λold s3 h9=>?_]
 let#[x3,H3,I3,r3,q3]:=h9;rwa[d6 (he pZ s3 σ H3 _ I3 q3) λv s4 h9=>?_]
 let#[x4,H4,I4,r4,q4]:=h9;rwa[d6 (hp pZ s4 σ H4 x3 x4 old v _ I4 r3 r4 q4) λnew s5 h9=>?_]
 let#[x5,H5,I5,r5,q5]:=h9;rwa[d6 (hs pZ s5 σ H5 x1 x2 x5 ov iv new _ I5 r1 r2 r5 q5) λ_ s6 h9=>?_]
 let#[H6,I6,q6]:=h9;exact#[σ,H6,I6,q6]
end
section
variable{X:Cx}{pos:Pos}
def Oa(c:TT)(tb:TS):TS:=λD σ H=>∃W:Nat->St->Hp->Prop,(∃m,W m σ H)/\∀m σ H,W m σ H ->
 c σ H λb H1=>if b=true then ∃N:St->Hp->Prop,(∀σ' H',N σ' H'->∃m',m'<m/\W m' σ' H')/\tb {D with nx:=N,ct:=N,bk:=D.nx} σ H1 else D.nx σ H1
theorem GB{c:Expr}{body:List Stmt}{tc:TT}{tb:TS}(hp:FG (ba X.prog X.w) X.A X.env X.xe)(hc:PT X c tc)(hb:vU X body tb):PS X (.While c body [] pos) (Oa tc tb):=by
 intro pZ s σ H D I h;let#[W,#[m0,w0],turn]:=h;rwa[wpAny_While (codeAny_whileLoop (λn s'=>∃σ' H',Inv X pZ σ' H' s'/\W n σ' H') ?_ m0 #[σ,H,I,w0])];rintro n s1 ⟨σ1,H1,I1,w1⟩;rwa[gK hp (d6 (hc pZ s1 σ1 H1 _ I1 (turn n σ1 H1 w1)) λb s2 h9=>?_)];let#[H2,I2,q2]:=h9;cases b with
 |true=>
  let#[N,hN,q2]:=q2;rw[if_pos rfl]
  rwa[gK hp (d6 (hb pZ s2 σ1 H2 _ I2 q2) λf s3 q3=>?_)];cases f with
  |next=>
   let#[σ3,H3,I3,n3]:=q3;let#[m',hm,w3]:=hN σ3 H3 n3;exact#[m',hm,σ3,H3,I3,w3]
  |cont=>
   let#[σ3,H3,I3,n3]:=q3;let#[m',hm,w3]:=hN σ3 H3 n3;exact#[m',hm,σ3,H3,I3,w3]
  |brk=>erw[q3]
  |ret v=>erw[q3]
 |false=>
  rw[if_neg aV]
  erw[p7 #[σ1,H2,I2,q2]]
end
structure It where
 go:Nat->Hp->Prop
 Sr:Nat->Hp->V->Hp->Prop
 stop:Nat->Hp->Prop
def pM(X:Cx)(pZ:List (Addr×Obj))(H:Hp)(b:Addr):Prop:=
 H b=none/\b≠X.env.locals/\b∉X.fs/\(b∈X.ex\/X.s₀.heap.objs.size<=b)/\(∀x c,X.env.cells.lookup x=some c->c≠b)/\∀p∈X.pn++pZ,p.1≠b
theorem Inv.zG{X:Cx}{pZ:List (Addr×Obj)}{σ:St}{H H':Hp}{s:aA}{b:Addr}(I:Inv X pZ σ H s)(hb:s.heap.objs.size<=b)(hn:H' b=none):pM X pZ H' b:=by
 refine#[hn,cx (aq I.lt hb),I.WL hb,.inr (aI I.sz hb),λx c e z=>?_,λp hp z=>?_]
 .let#[v,q]:=I.cell x c e
  erw[absurd (aq q.lt (by rw[z];exact hb)) (dk _)]
 .erw[absurd (aq (aM (I.pin p hp).1) (by rw[z];exact hb)) (dk _)]
structure Turn(P:bw)(w:cf)(K:aG)(tg:Expr)(J:It)(fp:List Addr)(it:Addr)(tn:Nat->Heap->Prop):Prop where
 mem:it∈fp
 obj:∀i h,tn i h->∀b∈fp,∃o,h.get? b=some o/\∀v,o.data≠.cell v
 keep:∀i h h',tn i h->(∀b∈fp,∀o,h.get? b=some o->h'.get? b=some o)->tn i h'
 item:∀(X:Cx),X.prog=P->X.w=w->X.K=K->X.calm=true->∀(i:Nat)(pZ:List (Addr×Obj))(s:aA)(σ:St)(H:Hp)(E:Value->aA->Prop),Inv X pZ σ H s->(∀b∈fp,pM X pZ H b)->tn i s.heap->J.go i H ->
  wpAny (ba P w) X.A (xG (.ref it)) (λr s1=>∃u,r=some u /\
   wpAny (ba P w) X.A (p8 tg (.ref it) u) (λ_ s2=>∃x H',Inv X pZ σ H' s2/\RelV x u/\J.Sr i H x H'/\tn (i+1) s2.heap/\∀b∈fp,H' b=none) E s1) E s
 done:∀(X:Cx),X.prog=P->X.w=w->X.K=K->X.calm=true->∀(i:Nat)(pZ:List (Addr×Obj))(s:aA)(σ:St)(H:Hp)(E:Value->aA->Prop),Inv X pZ σ H s->(∀b∈fp,pM X pZ H b)->tn i s.heap->J.stop i H ->
  wpAny (ba P w) X.A (xG (.ref it)) (λr s1=>r=none/\Inv X pZ σ H s1) E s
 self:∀(A:dF)(i:Nat)(s:aA)(Q:Value->aA->Prop)(E:Value->aA->Prop),tn i s.heap->Q (.ref it) s->wpAny (ba P w) A (pyIter (.ref it)) Q E s
abbrev TI:=St->Hp->(It->Hp->Prop)->Prop
def W2(X:Cx)(pZ:List (Addr×Obj))(σ:St)(tg:Expr)(R:It->Hp->Prop)(itv:Value)(s2:aA):Prop:=
 ∃(it:Addr)(fp:List Addr)(tn:Nat->Heap->Prop)(J:It)(H':Hp),itv=.ref it/\Inv X pZ σ H' s2/\Turn X.prog X.w X.K tg J fp it tn/\tn 0 s2.heap/\(∀b∈fp,pM X pZ H' b)/\R J H'
def PI(X:Cx)(tg iter:Expr)(wi:TI):Prop:=
 ∀(pZ:List (Addr×Obj))(s:aA)(σ:St)(H:Hp)(R:It->Hp->Prop),Inv X pZ σ H s->wi σ H R ->
  wpAny (ba X.prog X.w) X.A (eval iter X.env) (λv s1=>wpAny (ba X.prog X.w) X.A (pyIter v) (W2 X pZ σ tg R) X.xe s1) X.xe s
theorem wH(ho:s.heap.get? it=some o)(hc:o.cls=.type n)(hd:o.data=.fields vs)
    (hn:["enumerate","zip","dict_itemiterator","dict_reverseitemiterator","odict_iterator","itertools.zip_longest","itertools.pairwise"].contains n=false) (hQ:Q () s):wpAny M A (p8 tg (.ref it) u) Q E s:=by
  unfold p8;cases tg<;>first
    |exact aw hQ
    | (cases u<;>first
        |exact aw hQ
        | (refine ae (wpAny_load ho ?_)
           rw[hc,hd]
           show wpAny M A (if (["enumerate","zip","dict_itemiterator","dict_reverseitemiterator","odict_iterator","itertools.zip_longest","itertools.pairwise"].contains n&&vs[0]?==some (jq _))=true then _ else _) Q E s
           rw[if_neg (by intro h;rw[hn,Bool.false_and] at h;cases h)]
           erw[aw hQ]))
def W3(K:aG)(a:Addr):It:=
 #[λi H=>∃xs x,hU K H a xs/\xs[i]?=some x,λi H x H'=>H'=H/\∀xs,hU K H a xs->xs[i]?=some x,λi H=>∃xs,hU K H a xs/\xs.length<=i]
def W4(K:aG)(a:Addr):It:=
 #[λi H=>∃xs x,lQ K H a xs/\xs[i]?=some x,λi H x H'=>H'=H/\∀xs,lQ K H a xs->xs[i]?=some x,λi H=>∃xs,lQ K H a xs/\xs.length<=i]
def V9(lo:Int)(n:Nat):It:=#[λi _=>i<n,λi H x H'=>H'=H/\x=.int (lo+i),λi _=>n<=i]
theorem Em{P:bw}{w:cf}{K:aG}{tg:Expr}(a it:Addr):Turn P w K tg (W3 K a) [it] it (λi h=>h.IsListIter it a i) where
 mem:=by simp
 obj:=λi h st b hb=>by
  have e:b=it:=by simpa using hb
  subst e;let#[o,e,c,d]:=st;exact#[o,e,λv z=>by rw[d] at z;cases z]
 keep:=λi h h' st k=>st.at λo e=>k it (by simp) o e
 item:=by
  w_up;subst hP hw hK;let#[xs,x,hq,hx]:=hg;let#[its,rv,p,hz]:=I.list hq;let#[u,hu,ru]:=rv.get hx;let#[f0,f1,f2,f3,f4,f5]:=hf it (by simp);refine FZ st p.isList (x:=u) (by simpa using hu) λh' st' sb=>?_
  have I1:Inv X pZ σ H {s with heap:=h'}:=I.turned (t':=s.toks) (λb o hb e=>(sb.2 b hb).trans e) f0 f1 f3 f4 f5;let#[o,e,c,d]:=id st';exact#[u,rfl,wH (s:={s with heap:=h'}) e c d ⋯ #[x,H,I1,ru,#[rfl,λys hy=>by rw[I.qw hy hq];erw[hx]],st',λb hb=>(hf b hb).1]]
 done:=by
  w_up;subst hP hw hK;let#[xs,hq,hx]:=hg;let#[its,rv,p,hz]:=I.list hq;let#[f0,f1,f2,f3,f4,f5]:=hf it (by simp);have hl:=rv.length;erw[JT (I.ok.hd hc) st p.isList (by simp;omega) λh' eb=>#[rfl,I.turned (t':=s.toks) (λb o hb e=>eb b o hb e) f0 f1 f3 f4 f5]]
 self:=λ_ _ _ _ _ st h=>wpAny_pyIter_listiter st h
theorem Bq{P:bw}{w:cf}{K:aG}{tg:Expr}(a it:Addr):Turn P w K tg (W4 K a) [it] it (λi h=>h.IsTupleIter it a i) where
 mem:=by simp
 obj:=λi h st b hb=>by
  have e:b=it:=by simpa using hb
  subst e;let#[o,e,c,d]:=st;exact#[o,e,λv z=>by rw[d] at z;cases z]
 keep:=λi h h' st k=>st.at λo e=>k it (by simp) o e
 item:=by
  w_up;subst hP hw hK;let#[xs,x,hq,hx]:=hg;let#[its,rv,p,hz]:=I.tuple hq;let#[u,hu,ru]:=rv.get hx;let#[f0,f1,f2,f3,f4,f5]:=hf it (by simp);refine wpAny_pyNext_tuple_item st (show s.heap.IsTuple a its.toArray from p) (x:=u) (by simpa using hu) λh' st' sb=>?_
  have I1:Inv X pZ σ H {s with heap:=h'}:=I.turned (t':=s.toks) (λb o hb e=>(sb.2 b hb).trans e) f0 f1 f3 f4 f5;let#[o,e,c,d]:=id st';exact#[u,rfl,wH (s:={s with heap:=h'}) e c d ⋯ #[x,H,I1,ru,#[rfl,λys hy=>by rw[I.wF hy hq];erw[hx]],st',λb hb=>(hf b hb).1]]
 done:=by
  w_up;subst hP hw hK;let#[xs,hq,hx]:=hg;let#[its,rv,p,hz]:=I.tuple hq;let#[f0,f1,f2,f3,f4,f5]:=hf it (by simp);have hl:=rv.length;erw[wpAny_pyNext_tuple_end (I.ok.hd hc) st (show s.heap.IsTuple a its.toArray from p) (by simp;omega) λh' eb=>#[rfl,I.turned (t':=s.toks) (λb o hb e=>eb b o hb e) f0 f1 f3 f4 f5]]
 self:=λ_ _ _ _ _ st h=>wpAny_pyIter_tupleiter st h
theorem Br{P:bw}{w:cf}{K:aG}{tg:Expr}(it:Addr)(lo:Int)(n:Nat):Turn P w K tg (V9 lo n) [it] it (λi h=>IsRangeIter h it (lo+(i:Nat)*1) ((n:Int)-(i:Nat)) 1) where
 mem:=by simp
 obj:=λi h st b hb=>by
  have e:b=it:=by simpa using hb
  subst e;exact#[_,st,λv z=>by
   have z':Data.fields _=Data.cell v:=z;cases z']
 keep:=λi h h' st k=>k it (by simp) _ st
 item:=by
  w_up;subst hP hw hK;let#[f0,f1,f2,f3,f4,f5]:=hf it (by simp);have W:=Walks.range (prog:=X.prog) (w:=X.w) (I.ok.hd hc) it lo 1 n;rwa[W.item i s _ _ hg st λv h' tk hv st' kk=>?_]
  let#[t,rfl]:=hv;have I1:Inv X pZ σ H {s with heap:=h',toks:=tk}:=I.turned (λb o hb e=>kk b o (by simpa using hb) e) f0 f1 f3 f4 f5;refine#[_,rfl,wH (s:={s with heap:=h',toks:=tk}) (n:="range_iterator") st' rfl rfl ⋯ #[.int (lo+i),H,I1,#[t,?_],#[rfl,rfl],st',λb hb=>(hf b hb).1]];rw[Int.mul_one]
 done:=by
  w_up;subst hP hw hK;let#[f0,f1,f2,f3,f4,f5]:=hf it (by simp);erw[wpAny_pyNext_range_end (I.ok.hd hc) st (by have:n<=i:=hg;omega) λh' eb=>#[rfl,I.turned (t':=s.toks) (λb o hb e=>eb b o hb e) f0 f1 f3 f4 f5]]
 self:=λ_ _ _ _ _ st h=>wpAny_pyIter_rangeiter st h
section
variable{X:Cx}{tg:Expr}
theorem GD{pZ:List (Addr×Obj)}{σ:St}{H:Hp}{s:aA}{R:It->Hp->Prop}{E:Value->aA->Prop}{lo hi:Int}{t u v:Tok}{tk:Nat}(I:Inv X pZ σ H s)(h1:-(2^62)<=lo)(h2:lo<2^62)(h3:-(2^62)<=hi)(h4:hi<2^62)
  (q:R (V9 lo (hi-lo).toNat) H):wpAny (ba X.prog X.w) X.A (pyIter (.ref s.heap.objs.size)) (W2 X pZ σ tg R) E {s with heap:=s.heap.push {cls:=.type "range",data:=.fields (List.toArray [.int lo t,.int hi u,.int 1 v])},toks:=tk}:=by
 rwa[wpAny_pyIter_range (IsRange.new ..) (small_one h1 h2 h3 h4) ?_];have I1:Inv X pZ σ H {s with heap:=s.heap.push {cls:=.type "range",data:=.fields (List.toArray [.int lo t,.int hi u,.int 1 v])},toks:=tk}:=I.kept λb o e=>aE _ e
 refine#[(s.heap.push {cls:=.type "range",data:=.fields (List.toArray [.int lo t,.int hi u,.int 1 v])}).objs.size,[(s.heap.push {cls:=.type "range",data:=.fields (List.toArray [.int lo t,.int hi u,.int 1 v])}).objs.size],_,_,H,rfl,
  I1.kept (t':=tk) λb o e=>aE _ e,Br _ lo (hi-lo).toNat,?_,λb hb=>?_,q]
 .have e1:lo+((0:Nat):Int)*1=lo:=by simp
  have e2:(((hi-lo).toNat:Nat):Int)-((0:Nat):Int)=Builtin.Range.rangeSize lo hi 1:=by rw[rangeSize_one];split<;>omega
  show IsRangeIter _ _ (lo+((0:Nat):Int)*1) ((((hi-lo).toNat:Nat):Int)-((0:Nat):Int)) 1
  rw[e1,e2]
  erw[aU _ rfl]
 .have e:b=(s.heap.push {cls:=.type "range",data:=.fields (List.toArray [.int lo t,.int hi u,.int 1 v])}).objs.size:=by simpa using hb
  subst e;erw[I1.zG (au _) (I1.dq.fresh (au _))]
noncomputable def Ss(ta:TA):TI:=λσ H R=>ta σ H λvs H1=>∃j:Int,vs=[.int j]/\-(2^62)<=j/\j<2^62/\R (V9 0 j.toNat) H1
theorem Eo{a:Expr}{ta:TA}{p pos:Pos}(hg:Gl X "range")(hm:X.mg "range"=none)(ha:PA X [a] ta)(hs:bI [a] X.env=[(false,eval a X.env)]:=by rfl):PI X tg (.Call (.Name "range" p) [a] [] pos) (Ss ta):=by
 intro pZ s σ H R I h;rwa[Call_ (pK I hg hm boot_range (fH (d6 (ha pos pZ s σ H _ I h) λus s1 h9=>?_) hs rfl))];let#[vs,H1,I1,r1,q1]:=h9;let#[j,e,q1,q2,q]:=q1;subst e;cases r1 with
 |cons r rr=>
  cases rr;let#[t,rfl]:=r;exact call_range_1 (GD I1 ∅ ∅ q1 q2 (by simpa using q))
def W5(wi:TI)(g:TG)(tb:TS):TS:=λD σ H=>wi σ H λJ H1=>∃W:Nat->Nat->St->Hp->Prop,(∃m,W 0 m σ H1)/\∀i m σ H,W i m σ H ->
 (J.stop i H/\D.nx σ H)\/(J.go i H/\∃N:St->Hp->Prop,(∀σ' H',N σ' H'->∃m',m'<m/\W (i+1) m' σ' H')/\∀x H',J.Sr i H x H'->g x σ H' λσ2 H2=>tb {D with nx:=N,ct:=N,bk:=D.nx} σ2 H2)
noncomputable def rN(fp:List Addr)(h:Heap):List (Addr×Obj):=fp.filterMap λb=>(h.get? b).map λo=>(b,o)
theorem mr{fp:List Addr}{h:Heap}{b:Addr}{o:Obj}(hb:b∈fp)(e:h.get? b=some o):(b,o)∈rN fp h:=k7.mpr #[b,hb,by rw[e];rfl]
theorem Ep(hp:p∈rN fp h):p.1∈fp/\h.get? p.1=some p.2:=by
 let#[b,hb,e]:=k7.mp hp;cases q:h.get? b with
 |none=>rw[q] at e;cases e
 |some o=>
  rw[q] at e;have e':(b,o)=p:=aJ e;subst e';exact#[hb,q]
theorem Inv.pinned{pZ:List (Addr×Obj)}{σ:St}{H:Hp}{s:aA}{fp:List Addr}(I:Inv X pZ σ H s)(hf:∀b∈fp,pM X pZ H b)(ho:∀b∈fp,∃o,s.heap.get? b=some o/\∀v,o.data≠.cell v):Inv X (pZ++rN fp s.heap) σ H s:=
 I.CO λp hp=>(aR.mp hp).elim (λz=>I.pin p (bc _ z)) λz=>by
  let#[hb,e]:=Ep z;let#[f0,f1,f2,_]:=hf p.1 hb;let#[o,e',d]:=ho p.1 hb;rw[e] at e';cases e';exact#[e,f0,f1,f2,d]
theorem Inv.qA{pZ pl:List (Addr×Obj)}{σ:St}{H:Hp}{s:aA}(I:Inv X (pZ++pl) σ H s):Inv X pZ σ H s:=I.CO λp hp=>I.pin p (bc _ (bS _ hp))
theorem Ob{iter:Expr}{body:List Stmt}{wi:TI}{g:TG}{tb:TS}{pos:Pos}(hp:FG (ba X.prog X.w) X.A X.env X.xe)(hc:X.calm=true)(hi:PI X tg iter wi)(hg:PG X tg g)(hb:vU X body tb)
  (hs:∀x,foldedSetIterable iter X.env x=pure x:=by intro _;rfl):PS X (.For tg iter body [] pos) (W5 wi g tb):=by
 intro pZ s σ H D I h;rwa[wpAny_For (d6 (hi pZ s σ H _ I h) λv s1 h1=>d6 h1 λitv s2 h2=>?_) hs];let#[it,fp,tn,J,H2,e,I2,T,st2,f2,W,#[m0,w0],turn]:=h2;subst e;have stat:∀{H':Hp},(∀b∈fp,H' b=none)->∀b∈fp,pM X pZ H' b:=λhn b hb=>#[hn b hb,(f2 b hb).2]
 rwa[codeAny_forLoop_any (λn s'=>∃i σ' H',Inv X pZ σ' H' s'/\tn i s'.heap/\(∀b∈fp,H' b=none)/\W i n σ' H') ?_ m0 #[0,σ,H2,I2,st2,λb hb=>(f2 b hb).1,w0]];rintro n s3 ⟨i,σ3,H3,I3,st3,fr3,w3⟩;rcases turn i n σ3 H3 w3 with⟨stop,qn⟩|⟨go,N,hN,step⟩
 .rwa[gK hp (d6 (T.done X rfl rfl rfl hc i pZ s3 σ3 H3 X.xe I3 (stat fr3) st3 stop) λr s4 h9=>?_)]
  let#[hr,I4]:=h9;subst hr;erw[p7 #[σ3,H3,I4,qn]]
 .rwa[gK hp (d6 (T.item X rfl rfl rfl hc i pZ s3 σ3 H3 X.xe I3 (stat fr3) st3 go) λr s4 h9=>?_)]
  let#[u,hr,h4]:=h9;subst hr;refine gK hp (d6 h4 λ_ s5 h9=>?_);let#[x,H5,I5,r5,y5,st5,fr5]:=h9;have I5':=I5.pinned (stat fr5) (T.obj _ _ st5);refine gK hp (d6 (hg _ s5 σ3 H5 x u _ I5' r5 (step x H5 y5)) λ_ s6 h9=>?_);let#[σ6,H6,I6,q6]:=h9;refine gK hp (d6 (hb _ s6 σ6 H6 _ I6 q6) λf s7 q7=>?_);have again:∀{σ7:St}{H7:Hp},Inv X (pZ++rN fp s5.heap) σ7 H7 s7->N σ7 H7->∃m,m<n/\∃i σ' H',Inv X pZ σ' H' s7/\tn i s7.heap/\(∀b∈fp,H' b=none)/\W i m σ' H':=λ{σ7 H7}I7 n7=>by
   let#[m',hm,w7]:=hN σ7 H7 n7;refine#[m',hm,i+1,σ7,H7,I7.qA,T.keep _ _ _ st5 λb hb o e=>(I7.pin (b,o) (bc _ (bc _ (mr hb e)))).1,λb hb=>?_,w7];let#[o,e,d]:=T.obj _ _ st5 b hb;exact(I7.pin (b,o) (bc _ (bc _ (mr hb e)))).2.1
  cases f with
  |next=>let#[σ7,H7,I7,n7]:=q7;erw[again I7 n7]
  |cont=>let#[σ7,H7,I7,n7]:=q7;erw[again I7 n7]
  |brk=>let#[σ7,H7,I7,q7]:=q7;exact#[σ7,H7,I7.qA,q7]
  |ret v=>let#[x7,σ7,H7,I7,r7,q7]:=q7;exact#[x7,σ7,H7,I7.qA,r7,q7]
end
abbrev R2:=V->V->Hp->VK->Prop
def gH(X:Cx)(f:Value->Value->Sem Value)(r:R2):Prop:=
 ∀(pZ:List (Addr×Obj))(s:aA)(σ:St)(H:Hp)(x y:V)(v u:Value)(Q:VK),Inv X pZ σ H s->RelV x v->RelV y u->r x y H Q ->
  wpAny (ba X.prog X.w) X.A (f v u) (EP X pZ σ Q) X.xe s
def W6(X:Cx)(f:Value->Sem Value)(r:V->Hp->VK->Prop):Prop:=
 ∀(pZ:List (Addr×Obj))(s:aA)(σ:St)(H:Hp)(x:V)(v:Value)(Q:VK),Inv X pZ σ H s->RelV x v->r x H Q ->
  wpAny (ba X.prog X.w) X.A (f v) (EP X pZ σ Q) X.xe s
def iu(X:Cx)(f:Value)(r:List V->Hp->VK->Prop):Prop:=
 ∀(pZ:List (Addr×Obj))(s:aA)(σ:St)(H:Hp)(xs:List V)(us:List Value)(Q:VK),Inv X pZ σ H s->Vals xs us->r xs H Q ->
  wpAny (ba X.prog X.w) X.A (call f us) (EP X pZ σ Q) X.xe s
def W7(X:Cx)(r:V->Hp->(Bool->Hp->Prop)->Prop):Prop:=
 ∀(pZ:List (Addr×Obj))(s:aA)(σ:St)(H:Hp)(x:V)(v:Value)(Q:Bool->Hp->Prop),Inv X pZ σ H s->RelV x v->r x H Q ->
  wpAny (ba X.prog X.w) X.A (truthy v) (TP X pZ σ Q) X.xe s
def Wa(r:R2)(ta tb:TE):TE:=λσ H Q=>ta σ H λx H1=>tb σ H1 λy H2=>r x y H2 Q
def tUn(r:V->Hp->VK->Prop)(ta:TE):TE:=λσ H Q=>ta σ H λx H1=>r x H1 Q
noncomputable def rI(C:Int->Int->Prop)(g:Int->Int->V):R2:=λx y H Q=>∃i j,x=.int i/\y=.int j/\C i j/\Q (g i j) H
noncomputable def Er(g:Int->Int->V):R2:=λx y H Q=>∃i j,x=.int i/\y=.int j/\Q (g i j) H
def rU(g:Int->V):V->Hp->VK->Prop:=λx H Q=>∃i,x=.int i/\Q (g i) H
section
variable{X:Cx}{a b c:Expr}{ta tb tc:TE}{pos:Pos}
theorem Oc(ha:PE X a ta)(hb:PE X b tb){pZ:List (Addr×Obj)}{s:aA}{σ:St}{H:Hp}{R:V->V->Hp->Prop}(I:Inv X pZ σ H s)
  (h:ta σ H λx H1=>tb σ H1 λy H2=>R x y H2){Q:Value->aA->Prop}{f:Value->Value->Sem Value}
  (hf:∀v u s2 x y H2,Inv X pZ σ H2 s2->RelV x v->RelV y u->R x y H2->wpAny (ba X.prog X.w) X.A (f v u) Q X.xe s2):
  wpAny (ba X.prog X.w) X.A (eval a X.env) (λv s₁=>wpAny (ba X.prog X.w) X.A (eval b X.env) (λu s₂=>wpAny (ba X.prog X.w) X.A (f v u) Q X.xe s₂) X.xe s₁) X.xe s:=by
 rwa[d6 (ha pZ s σ H _ I h) λv s1 h9=>?_]
 let#[x,H1,I1,r1,q1]:=h9;rwa[d6 (hb pZ s1 σ H1 _ I1 q1) λu s2 h9=>?_]
 let#[y,H2,I2,r2,q2]:=h9;erw[hf v u s2 x y H2 I2 r1 r2 q2]
theorem Su{op:me}{r:R2}(ho:gH X (cC op) r)(ha:PE X a ta)(hb:PE X b tb):PE X (.BinOp a op b pos) (Wa r ta tb):=by
 k_go;erw[wpAny_BinOp (Oc ha hb I h λv u s2 x y H2 I2 rx ry q=>ho pZ s2 σ H2 x y v u Q I2 rx ry q)]
theorem Sv{op:UnaryOp}{r:V->Hp->VK->Prop}(ho:W6 X (unaryOp op) r)(ha:PE X a ta):PE X (.UnaryOp op a pos) (tUn r ta):=by
 k_go;rwa[UnaryOp_ (d6 (ha pZ s σ H _ I h) λv s1 h9=>?_)];let#[x,H1,I1,r1,q1]:=h9;erw[ho pZ s1 σ H1 x v Q I1 r1 q1]
theorem Sw{f:Value->Value->Sem Value}{C:Int->Int->Prop}{g:Int->Int->Int}
  (rule:∀(i j:Int)(t u:Tok)(s:aA)(Q:Value->aA->Prop)(E:Value->aA->Prop),C i j->Q (.int (g i j) s.toks) {s with toks:=s.toks+1}->wpAny (ba X.prog X.w) X.A (f (.int i t) (.int j u)) Q E s):
  gH X f (rI C λi j=>.int (g i j)):=by
 x_go;let#[i,j,rfl,rfl,hc,q]:=h;let#[t,rfl]:=rx;let#[t',rfl]:=ry;erw[rule i j t t' s _ _ hc #[.int (g i j),H,I.tok _,#[_,rfl],q]]
theorem Bs{f:Value->Value->Sem Value}{g:Int->Int->Int}
  (rule:∀(i j:Int)(t u:Tok)(s:aA)(Q:Value->aA->Prop)(E:Value->aA->Prop),Q (.int (g i j) s.toks) {s with toks:=s.toks+1}->wpAny (ba X.prog X.w) X.A (f (.int i t) (.int j u)) Q E s):
  gH X f (Er λi j=>.int (g i j)):=by
 x_go;let#[i,j,rfl,rfl,q]:=h;let#[t,rfl]:=rx;let#[t',rfl]:=ry;erw[rule i j t t' s _ _ #[.int (g i j),H,I.tok _,#[_,rfl],q]]
theorem Kx{f:Value->Value->Sem Value}{g:Int->Int->Bool}
  (rule:∀(i j:Int)(t u:Tok)(s:aA)(Q:Value->aA->Prop)(E:Value->aA->Prop),Q (.bool (g i j)) s->wpAny (ba X.prog X.w) X.A (f (.int i t) (.int j u)) Q E s):
  gH X f (Er λi j=>.bl (g i j)):=by
 x_go;let#[i,j,rfl,rfl,q]:=h;let#[t,rfl]:=rx;let#[t',rfl]:=ry;erw[rule i j t t' s _ _ #[.bl (g i j),H,I,rfl,q]]
def W8(i j:Int):Prop:=0<j/\j<1073741824
def W9(i j:Int):Prop:=0<=j/\j<=1000000/\i.natAbs<2^64
def Od(i j:Int):Prop:=(-(2^64)<i/\i<2^64)\/(-(2^64)<j/\j<2^64)
theorem Od.ok{i j:Int}(h:Od i j):IntMulOk i j:=by
 rcases h with⟨h1,h2⟩|⟨h1,h2⟩
 .erw[.of_left (intBits_le_64 h1 h2)]
 .erw[.of_right (intBits_le_64 h1 h2)]
theorem two_pow_nn(k:Nat):(0:Int)<=2^k:=by
 rw[two_pow_cast]
 erw[F3 _]
theorem Oe:gH X (cC .Add) (Er λi j=>.int (i+j)):=Bs λ_ _ _ _ _ _ _ q=>add_int q
theorem Of:gH X (cC .Sub) (Er λi j=>.int (i-j)):=Bs λ_ _ _ _ _ _ _ q=>sub_int q
theorem Og:gH X (cC .Mult) (rI Od λi j=>.int (i*j)):=Sw λ_ _ _ _ _ _ _ hc q=>mul_int q hc.ok
theorem Ky:gH X (cC .FloorDiv) (rI W8 λi j=>.int (i/j)):=Sw λi j _ _ _ _ _ hc q=>by
 have h1:(0:Int)<j:=hc.1;have h2:j<1073741824:=hc.2;erw[floordiv_int ∅ (by rw[xH i ∅];exact q) (.inl (PyProof.noPylong_small ∅))]
theorem Oh:gH X (cC .Mod) (rI (λ_ j=>0<j) λi j=>.int (i%j)):=Sw λi j _ _ _ _ _ hc q=>by
 have h1:(0:Int)<j:=hc;erw[mod_int' ∅ (by rw[Int.fmod_eq_emod_of_nonneg i ∅];exact q)]
theorem Oi:gH X (cC .LShift) (rI W9 λi j=>.int (i*2^j.toNat)):=Sw λ_ _ _ _ _ _ _ hc q=>lshift_int_small hc.1 hc.2.1 hc.2.2 q
theorem Oj:gH X (cC .RShift) (rI (λ_ j=>0<=j) λi j=>.int (i/2^j.toNat)):=Sw λi j _ _ _ _ _ hc q=>
 rshift_int hc (by rw[xH i (two_pow_nn _)];erw[q])
theorem Ol:gH X (cC .BitAnd) (Er λi j=>.int (Builtin.bitAnd i j)):=Bs λ_ _ _ _ _ _ _ q=>and_int q
theorem Sx:gH X (cC .BitOr) (Er λi j=>.int (Builtin.bitOr i j)):=Bs λ_ _ _ _ _ _ _ q=>or_int q
theorem Kz:gH X (gX .Add) (Er λi j=>.int (i+j)):=Bs λ_ _ _ _ _ _ _ q=>iadd_int q
theorem KA:gH X (gX .Sub) (Er λi j=>.int (i-j)):=Bs λ_ _ _ _ _ _ _ q=>isub_int q
theorem Om:gH X (gX .BitOr) (Er λi j=>.int (Builtin.bitOr i j)):=Bs λ_ _ _ _ _ _ _ q=>ior_int q
theorem unI{f:Value->Sem Value}{g:Int->Int}
  (rule:∀(i:Int)(t:Tok)(s:aA)(Q:Value->aA->Prop)(E:Value->aA->Prop),Q (.int (g i) s.toks) {s with toks:=s.toks+1}->wpAny (ba X.prog X.w) X.A (f (.int i t)) Q E s):
  W6 X f (rU λi=>.int (g i)):=by
 intro pZ s σ H x v Q I rx h;let#[i,rfl,q]:=h;let#[t,rfl]:=rx;erw[rule i t s _ _ #[.int (g i),H,I.tok _,#[_,rfl],q]]
theorem Oo:W6 X (unaryOp .USub) (rU λi=>.int (-i)):=unI λ_ _ _ _ _ q=>neg_int q
end
noncomputable def Oq:V->V->Bool
 |.bQ,.bQ=>true|.bQ,.int _=>true|.int _,.bQ=>true|.bQ,.bl _=>true|.bl _,.bQ=>true|.bQ,.str _=>true|.str _,.bQ=>true
 |.int _,.int _=>true|.bl _,.bl _=>true|.str _,.str _=>true|.A1 _,.A1 _=>true
 |.int _,.str _=>true|.str _,.int _=>true|.bl _,.str _=>true|.str _,.bl _=>true
 |_,_=>false
noncomputable def rEq:R2:=λx y H Q=>Oq x y=true/\Q (.bl (decide (x=y))) H
noncomputable def rNe:R2:=λx y H Q=>Oq x y=true/\Q (.bl (!decide (x=y))) H
theorem xY:decide (V.int i=V.int j)=(i==j):=by
 rw[cY]
 simp
theorem Bt:decide (V.bl i=V.bl j)=(i==j):=by
 rw[cY]
 simp
theorem CQ:decide (V.str i=V.str j)=(i==j):=by
 rw[cY]
 simp
theorem CS:decide (V.A1 i=V.A1 j)=(i.toList==j.toList):=by
 rw[cY]
 cases i;cases j;simp
section
variable{X:Cx}{a b c:Expr}{ta tb tc:TE}{pos:Pos}
theorem cL(I:Inv X pZ σ H s)(q:Q (.bl k) H)(e:k=k'):EP X pZ σ Q (.bool k') s:=by
 subst e;exact#[.bl k,H,I,rfl,q]
theorem Sy:gH X (bA .Eq) rEq:=by
 x_go;let#[hs,q]:=h;cases x with
 |bQ=>
  cases rx;cases y with
  |bQ=>cases ry;erw[PySem.EqNone.eq_none_none (cL I q (by simp))]
  |bl j=>cases ry;erw[PySem.EqNone.eq_none_bool (cL I q (by simp))]
  |int j=>let#[t',rfl]:=ry;erw[PySem.EqNone.eq_none_int (cL I q (by simp))]
  |str j=>let#[t',rfl]:=ry;erw[PySem.EqNone.eq_none_str (cL I q (by simp))]
  |_=>erw[absurd (show false=true from hs) aV]
 |bl i=>
  cases rx;cases y with
  |bQ=>cases ry;erw[PySem.EqNone.eq_bool_none (cL I q (by simp))]
  |bl j=>cases ry;erw[eq_bool (cL I q Bt)]
  |str j=>let#[t',rfl]:=ry;erw[PySem.EqMixed.eq_bool_str (cL I q (by simp))]
  |_=>erw[absurd (show false=true from hs) aV]
 |int i=>
  let#[t,rfl]:=rx;cases y with
  |bQ=>cases ry;erw[PySem.EqNone.eq_int_none (cL I q (by simp))]
  |int j=>let#[t',rfl]:=ry;erw[eq_int (cL I q xY)]
  |str j=>let#[t',rfl]:=ry;erw[PySem.EqMixed.eq_int_str (cL I q (by simp))]
  |_=>erw[absurd (show false=true from hs) aV]
 |str i=>
  let#[t,rfl]:=rx;cases y with
  |bQ=>cases ry;erw[PySem.EqNone.eq_str_none (cL I q (by simp))]
  |bl j=>cases ry;erw[PySem.EqMixed.eq_str_bool (cL I q (by simp))]
  |int j=>let#[t',rfl]:=ry;erw[PySem.EqMixed.eq_str_int (cL I q (by simp))]
  |str j=>let#[t',rfl]:=ry;erw[eq_str (cL I q CQ)]
  |_=>erw[absurd (show false=true from hs) aV]
 |A1 i=>
  let#[t,rfl]:=rx;cases y with
  |A1 j=>let#[t',rfl]:=ry;erw[PySem.W.eq_bytes (cL I q CS)]
  |_=>erw[absurd (show false=true from hs) aV]
 |_=>cases y<;>exact absurd (show false=true from hs) aV
theorem Sz:gH X (bA .NotEq) rNe:=by
 x_go;let#[hs,q]:=h;cases x with
 |bQ=>
  cases rx;cases y with
  |bQ=>cases ry;erw[PySem.EqNone.ne_none_none (cL I q (by simp))]
  |bl j=>cases ry;erw[PySem.EqNone.ne_none_bool (cL I q (by simp))]
  |int j=>let#[t',rfl]:=ry;erw[PySem.EqNone.ne_none_int (cL I q (by simp))]
  |str j=>let#[t',rfl]:=ry;erw[PySem.EqNone.ne_none_str (cL I q (by simp))]
  |_=>erw[absurd (show false=true from hs) aV]
 |bl i=>
  cases rx;cases y with
  |bQ=>cases ry;erw[PySem.EqNone.ne_bool_none (cL I q (by simp))]
  |bl j=>cases ry;erw[ne_bool (cL I q (congrArg not Bt))]
  |str j=>let#[t',rfl]:=ry;erw[PySem.EqMixed.ne_bool_str (cL I q (by simp))]
  |_=>erw[absurd (show false=true from hs) aV]
 |int i=>
  let#[t,rfl]:=rx;cases y with
  |bQ=>cases ry;erw[PySem.EqNone.ne_int_none (cL I q (by simp))]
  |int j=>let#[t',rfl]:=ry;erw[ne_int (cL I q (congrArg not xY))]
  |str j=>let#[t',rfl]:=ry;erw[PySem.EqMixed.ne_int_str (cL I q (by simp))]
  |_=>erw[absurd (show false=true from hs) aV]
 |str i=>
  let#[t,rfl]:=rx;cases y with
  |bQ=>cases ry;erw[PySem.EqNone.ne_str_none (cL I q (by simp))]
  |bl j=>cases ry;erw[PySem.EqMixed.ne_str_bool (cL I q (by simp))]
  |int j=>let#[t',rfl]:=ry;erw[PySem.EqMixed.ne_str_int (cL I q (by simp))]
  |str j=>let#[t',rfl]:=ry;erw[ne_str (cL I q (congrArg not CQ))]
  |_=>erw[absurd (show false=true from hs) aV]
 |A1 i=>
  let#[t,rfl]:=rx;cases y with
  |A1 j=>let#[t',rfl]:=ry;erw[PySem.W.ne_bytes (cL I q (congrArg not CS))]
  |_=>erw[absurd (show false=true from hs) aV]
 |_=>cases y<;>exact absurd (show false=true from hs) aV
theorem SA:gH X (bA .Lt) (Er λi j=>.bl (decide (i<j))):=Kx λ_ _ _ _ _ _ _ q=>lt_int q
theorem SD:gH X (bA .LtE) (Er λi j=>.bl (decide (i<=j))):=Kx λ_ _ _ _ _ _ _ q=>le_int q
theorem SE:gH X (bA .Gt) (Er λi j=>.bl (decide (j<i))):=Kx λ_ _ _ _ _ _ _ q=>gt_int q
theorem SF:gH X (bA .GtE) (Er λi j=>.bl (decide (j<=i))):=Kx λ_ _ _ _ _ _ _ q=>ge_int q
theorem Es:gH X (bA .In) (λx y H Q=>∃i j,x=.str i/\y=.str j/\Q (.bl (!(Builtin.Str.occurrences j i 0 j.length 1).isEmpty)) H):=by
 x_go;let#[i,j,rfl,rfl,q]:=h;let#[t,rfl]:=rx;let#[t',rfl]:=ry;erw[in_str (cL I q rfl)]
theorem Ot:gH X (bA .Is) (λx y H Q=>y=.bQ/\Q (.bl (decide (x=.bQ))) H):=by
 x_go;let#[rfl,q]:=h;cases ry;refine is_none_gen (cL I q ?_);cases x<;>first
  | (cases rx;rfl)
  | (let#[t,rfl]:=rx;rfl)
theorem KC:gH X (bA .IsNot) (λx y H Q=>y=.bQ/\Q (.bl (!decide (x=.bQ))) H):=by
 x_go;let#[rfl,q]:=h;cases ry;refine isnot_none_gen (cL I q ?_);cases x<;>first
  | (cases rx;rfl)
  | (let#[t,rfl]:=rx;rfl)
theorem KD(ho:gH X (bA op) r)(ha:PE X a ta)(hb:PE X b tb)(hm:behindInMarks op b=false):PE X (.Compare a [op] [b] pos) (Wa r ta tb):=by
 k_go;erw[wpAny_Compare1 (Oc ha hb I h λv u s2 x y H2 I2 rx ry q=>ho pZ s2 σ H2 x y v u Q I2 rx ry q) hm]
def SH(t:TE):TT:=λσ H Q=>t σ H λx H'=>∃k,x=.bl k/\Q k H'
theorem KG{op:CmpOp}{r:R2}(ho:gH X (bA op) r)(ha:PE X a ta)(hb:PE X b tb)(hm:behindInMarks op b=false):PT X (.Compare a [op] [b] pos) (SH (Wa r ta tb)):=by
 intro pZ s σ H Q I h;refine wpAny_isTrue_Compare1 (d6 (ha pZ s σ H _ I h) λv s1 #[x,H1,I1,r1,q1]=>d6 (hb pZ s1 σ H1 _ I1 q1) λu s2 #[y,H2,I2,r2,q2]=>
  d6 (ho pZ s2 σ H2 x y v u _ I2 r1 r2 q2) λc s3 #[z,H3,I3,r3,k,e,q3]=>?_) hm
 subst e;cases r3;erw[cX #[H3,I3,q3]]
def Ou(K:aG)(x:V)(H:Hp)(k:Bool):Prop:=
 match x with
 |.bQ=>k=false
 |.bl b=>k=b
 |.int i=>k=(i !=0)
 |.str y=>y.length<=sizeLine/\k=((y.length:Int) !=0)
 |.A1 y=>y.size<=sizeLine/\k=((y.size:Int) !=0)
 |.ref p=>(∃xs,hU K H p xs/\k = !xs.isEmpty)\/(∃xs,lQ K H p xs/\k = !xs.isEmpty)\/∃kvs,H p=some (.dK kvs)/\k = !kvs.isEmpty
 |_=>False
theorem Bu{κ:Type}{kvs:List (κ×V)}{vs:List (κ×Value)}(r:KV kvs vs):(!vs.isEmpty)= !kvs.isEmpty:=by
 cases r<;>rfl
theorem uB{xs:List V}{its:List Value}(r:Vals xs its):(!its.toArray.isEmpty)= !xs.isEmpty:=by
 cases r<;>simp
theorem nV:(sizeLine:Nat)<2^63:=by rw[jC];decide
theorem Ow:W7 X (λx H Q=>∃k,Ou X.K x H k/\Q k H):=by
 intro pZ s σ H x v Q I rx h;let#[k,e,q]:=h;have hl:=nV;have hs:sizeLine=16777216:=jC;cases x with
 |bQ=>
  cases rx;have e':k=false:=e;subst e';erw[truthy_none #[H,I,q]]
 |bl b=>
  cases rx;have e':k=b:=e;subst e';erw[cX #[H,I,q]]
 |int i=>
  let#[t,rfl]:=rx;have e':k=(i !=0):=e;subst e';erw[PySem.P.truthy_int #[H,I,q]]
 |str y=>
  let#[t,rfl]:=rx;obtain⟨hy,e'⟩:y.length<=sizeLine/\k=((y.length:Int) !=0):=e;subst e';erw[PySem.P.truthy_str ∅ #[H,I.tok _,q]]
 |A1 y=>
  let#[t,rfl]:=rx;obtain⟨hy,e'⟩:y.size<=sizeLine/\k=((y.size:Int) !=0):=e;subst e';erw[PySem.W.truthy_bytes ∅ #[H,I.tok _,q]]
 |ref p=>
  cases rx;have e':(∃xs,hU X.K H p xs/\k = !xs.isEmpty)\/(∃xs,lQ X.K H p xs/\k = !xs.isEmpty)\/∃kvs,H p=some (.dK kvs)/\k = !kvs.isEmpty:=e;rcases e' with⟨xs,hx,e'⟩|⟨xs,hx,e'⟩|⟨kvs,hx,e'⟩
  .subst e'
   let#[its,r,pl,hz]:=I.list hx;have hlen:=r.length;erw[wpAny_truthy_list pl.isList (by dsimp[aF];omega) #[H,I.tok _,by rw[uB r];exact q]]
  .subst e'
   let#[its,r,pl,hz]:=I.tuple hx;have hlen:=r.length;erw[truthy_tuple pl (by dsimp[aF];omega) #[H,I.tok _,by rw[uB r];exact q]]
  .subst e'
   obtain⟨hz,hS,vs,r,m⟩:kvs.length<=sizeLine/\(p==bT)=false/\∃vs,KV kvs vs/\s.heap.DictOf (cU X.prog X.w) p vs:=I.dq p _ hx;have hlen:kvs.length=vs.length:=Paired.length r;erw[wpAny_truthy_dict hS m ∅ #[H,I.tok _,by rw[Bu r];exact q]]
 |_=>exact(show False from e).elim
theorem GF(ha:PE X a ta)(he:∀whole,isTrue a X.env whole=(do let v <-whole;standAt a.pos;holding [v] (truthy v))):
  PT X a (λσ H Q=>ta σ H λx H'=>∃k,Ou X.K x H' k/\Q k H'):=by
 k_go;rwa[isTrue_plain (d6 (ha pZ s σ H _ I h) λv s1 h9=>?_) (he _)];let#[x,H1,I1,r1,q1]:=h9;erw[Ow pZ s1 σ H1 x v Q I1 r1 q1]
theorem Bv:gH X (cC .Add) (λx y H Q=>∃i j,x=.str i/\y=.str j/\i.length+j.length<=sizeLine/\Q (.str (i++j)) H):=by
 x_go;let#[i,j,rfl,rfl,hz,q]:=h;let#[t,rfl]:=rx;let#[t',rfl]:=ry;erw[add_str (λt' tk=>#[.str (i++j),H,I.tok _,#[_,rfl],q]) hz]
theorem zH:gH X (gX .Add) (λx y H Q=>∃i j,x=.str i/\y=.str j/\i.length+j.length<=sizeLine/\Q (.str (i++j)) H):=by
 x_go;let#[i,j,rfl,rfl,hz,q]:=h;let#[t,rfl]:=rx;let#[t',rfl]:=ry;erw[iadd_str (λt' tk=>#[.str (i++j),H,I.tok _,#[_,rfl],q]) hz]
theorem vals1(r:Vals [x] us):∃u,us=[u]/\RelV x u:=by
 cases r with
 |cons r1 r2=>cases r2;exact#[_,rfl,r1]
def SI(K:aG)(x:V)(H:Hp)(n:Nat):Prop:=
 match x with
 |.str y=>y.length<=sizeLine/\n=y.length
 |.A1 y=>y.size<=sizeLine/\n=y.size
 |.ref p=>(∃xs,hU K H p xs/\n=xs.length)\/∃xs,lQ K H p xs/\n=xs.length
 |_=>False
theorem GG:iu X (.builtin "len") (λxs H Q=>∃x n,xs=[x]/\SI X.K x H n/\Q (.int n) H):=by
 k_ne;let#[x,n,rfl,e,q]:=h;let#[u,rfl,rx]:=vals1 r;have hl:=nV;have hs:sizeLine=16777216:=jC;cases x with
 |str y=>
  let#[t,rfl]:=rx;obtain⟨hy,e'⟩:y.length<=sizeLine/\n=y.length:=e;subst e';erw[len_str ∅ #[.int _,H,I.tok _,#[_,rfl],q]]
 |A1 y=>
  let#[t,rfl]:=rx;obtain⟨hy,e'⟩:y.size<=sizeLine/\n=y.size:=e;subst e';erw[PySem.W.len_bytes ∅ #[.int _,H,I.tok _,#[_,rfl],q]]
 |ref p=>
  cases rx;have e':(∃xs,hU X.K H p xs/\n=xs.length)\/∃xs,lQ X.K H p xs/\n=xs.length:=e;rcases e' with⟨xs,hx,e'⟩|⟨xs,hx,e'⟩
  .subst e'
   let#[its,r',pl,hz]:=I.list hx;have hlen:=r'.length;erw[Calls.call_len_list pl.isList (by dsimp[aF];omega) #[.int xs.length,H,I.tok _,#[_,by dsimp[aF];rw[hlen]],q]]
  .subst e'
   let#[its,r',pl,hz]:=I.tuple hx;have hlen:=r'.length;erw[len_tuple pl (by dsimp[aF];omega) #[.int xs.length,H,I.tok _,#[_,by dsimp[aF];rw[hlen]],q]]
 |_=>exact(show False from e).elim
end
structure Bw(h:Heap)(x dx C:Addr)(mA:Str->Option Value):Prop where
 obj:h.get? x=some (dM C dx)
 ns:h.Ns1 dx mA
 ne:dx≠x
theorem Et{h:Heap}{dx:Addr}{mA:Str->Option Value}(n:h.Ns1 dx mA):∃od,h.get? dx=some od/\∀name,nO name od=some (mA name):=by
 let#[o,es,ep,ho,hd,hk,_,hm]:=n;refine#[o,ho,λname=>?_];have e:=hm name;unfold nsFind findBy at e;rw[<-Array.find?_toList] at e;unfold nO;rw[hd]
 dsimp only;split
 .rename_i y q
  rw[q] at e;erw[congrArg some e]
 .rename_i q
  rw[q] at e;have a:es.toList.any (·.refKey)=false:=by
   rw[List.any_eq_false]
   intro y hy;let#[z,t,hkey]:=hk y (Array.mem_toList_iff.mp hy);simp[DictEntry.refKey,hkey]
  have a':¬es.toList.any (·.refKey)=true:=by rw[a];erw[aV]
  rw[if_neg a']
  erw[congrArg some e]
theorem Bw.look(I:Bw h x dx C mA):∃od,PySem.W.InstAt h x (dM C dx) C (some od)/\∀name,nO name od=some (mA name):=
 let ⟨od,ho,hl⟩:=Et I.ns
 #[od,#[I.obj,rfl,rfl,ho],hl]
section
variable{prog:bw}{w:cf}{A:dF}{E:Value->aA->Prop}{s:aA}{K:aG}{x dx C f:Addr}{mA:Str->Option Value}{name:Str}{v:Value}
theorem get_map(X:K.In s.heap)(I:Bw s.heap x dx C mA)(hg:lR K C name=true)(hh:qm K C=true)
  (ha:d7 K (.ref C) name=some none) (hv:mA name=some v) (hv':DY v=true) (h:Q v {s with toks:=s.toks+1}):
  wpAny (ba prog w) A (getAttr (.ref x) name expr) Q E s:=by
 let#[od,J,hl]:=I.look;erw[PySem.W.get_value X J (o7 hg).1 (PySem.W.findObj_own hh ha rfl (by rw[hl,hv])) hv' h]
theorem GH(X:K.In s.heap)(I:Bw s.heap x dx C mA)(hg:lR K C name=true)
  (hf:d7 K (.ref C) name=some (some (.ref f))) (ht:xI K (.ref f)=true) (hv:mA name=none) (h:Q (.ref f,[.ref x]) s):
  wpAny (ba prog w) A (getMethod (.ref x) name pl) Q E s:=by
 let#[od,J,hl]:=I.look;erw[PySem.W.method_fn X J (o7 hg).1 (o7 hg).2 hf (beq_iff_eq.mp ht) (by show(nO name od).map (·.isSome)=some false;rw[hl,hv];rfl) h]
theorem KH(X:K.In s.heap)(I:Bw s.heap x dx C mA)
  (hs:d7 K (.ref C) "__setattr__"=some (some (.builtin "object.__setattr__"))) (hp:CK K C=true) (ht:tq K C name=some none) (hh:qm K C=true)
  (hw:zm mA ns) (hsz:ns.length<=sizeLine)
  (h:∀h',Bw h' x dx C (λy=>if y=name then some v else mA y)->fS dx s.heap h'->Q () {s with heap:=h',toks:=s.toks+2}):
  wpAny (ba prog w) A (setAttr (.ref x) name v) Q E s:=by
 let#[od,J,hl]:=I.look;refine PySem.W.set_plain X J hs (PySem.W.osa_open (s:={s with toks:=s.toks+1}) (r:=none) X J hp ht λb=>?_);let#[cd,hc,hd']:=PySem.W.any_some hh;have hx:s.heap.get? x=some #[.ref C,some dx,.plain,#[]]:=I.obj;refine ae (aw (ae (ae (wpAny_loadPart hx (ae (PySem.W.Looks.here (s:={s with toks:=s.toks+1}) (PySem.W.looks_clsIn X hc) ?_))))));rw[hd']
 rwa[aw (a:=some dx) (ae (aw (ae ?_)))];refine wpAny_nsSet1 (s:={s with toks:=s.toks+1}) I.ns λh' hn2 hs2=>?_
 let#[oD,esD,epD,hoD,hdD,hcD]:=hn2.count (PySem.Within.cons name v hw);rwa[ae (wpAny_lookBehind hoD (by rw[hdD];erw[pastItsLine_dict (aI hcD (by rw[aT];omega))]) ?_)];erw[aw (h _ #[(hs2.2 _ (bZ I.ne)).trans I.obj,hn2,I.ne] hs2)]
theorem GI(X:K.In s.heap)(hm:FH K C=true)
  (hi:d7 K (.ref C) "__init__"=some (some (.ref f))) (hf:PySem.W.typeIn K (.ref f)=some (.type "function"))
  (h:pI (ba prog w) (A.under (.builtin "type.__call__" #[.ref C::vs,kw])) (.call (.ref f) #[.ref (s.heap.objs.size+1)::vs,kw]) (PySem.W.InitBack (s.heap.objs.size+1) R)
   {s with heap:=(s.heap.push cM).push (dM C s.heap.objs.size)}):
  pI (ba prog w) A (.call (.ref C) #[vs,kw]) R s:=by
 let#[hh,g,d,t,os]:=s;erw[PySem.W.make_core (PySem.W.makes_of X hm) (PySem.W.looks_findIn X hi) (λself=>PySem.W.bind_fn X self hf) (.inl rfl) h]
end
noncomputable def jY(f:Str)(v:V):List (Str×V)->List (Str×V)
 |[]=>[(f,v)]
 | (g,x)::r=>if g=f then(g,v)::r else(g,x)::jY f v r
theorem sN(f g:Str)(v:V):∀fs:List (Str×V),(jY f v fs).lookup g=if g=f then some v else fs.lookup g
 |[]=>by
  show fP g [(f,v)]=_
  by_cases h:g=f
  .have hb:(g==f)=true:=beq_iff_eq.mpr h
   dsimp[fP,hb,if_pos h]
  .have hb:(g==f)=false:=beq_eq_false_iff_ne.mpr h
   dsimp[fP,hb,if_neg h]
 | (k,x)::r=>by
  have ih:=sN f g v r;rw[show jY f v ((k,x)::r)=(if k=f then(k,v)::r else(k,x)::jY f v r) from rfl]
  by_cases hk:k=f
  .rw[if_pos hk]
   by_cases h:g=k
   .have hb:(g==k)=true:=beq_iff_eq.mpr h
    dsimp[fP,hb,if_pos (h.trans hk)]
   .have hb:(g==k)=false:=beq_eq_false_iff_ne.mpr h
    dsimp[fP,hb,if_neg (λe:g=f=>h (e.trans hk.symm))]
  .rw[if_neg hk]
   by_cases h:g=k
   .have hb:(g==k)=true:=beq_iff_eq.mpr h
    dsimp[fP,hb,if_neg (λe:g=f=>hk (h.symm.trans e))]
   .have hb:(g==k)=false:=beq_eq_false_iff_ne.mpr h
    dsimp[fP,hb];erw[ih]
theorem rO(f:Str)(v:V):∀fs:List (Str×V),f∈(jY f v fs).map (·.1)/\∀g,g∈fs.map (·.1)->g∈(jY f v fs).map (·.1)
 |[]=>#[by simp[jY],λg h=>by simp at h]
 | (k,x)::r=>by
  let#[i1,i2]:=rO f v r;rw[show jY f v ((k,x)::r)=(if k=f then(k,v)::r else(k,x)::jY f v r) from rfl]
  by_cases hk:k=f
  .rw[if_pos hk]
   subst hk;exact#[by simp,λg h=>by simpa using h]
  .rw[if_neg hk]
   refine#[?_,λg h=>?_]
   .rw[az]
    erw[aB _ i1]
   .rw[az] at h ⊢
    rcases aP.mp h with e|e
    .erw[aP.mpr (.inl e)]
    .erw[aB _ (i2 g e)]
theorem sO(f:Str)(v:V):∀fs:List (Str×V),(jY f v fs).length<=fs.length+1
 |[]=>by simp[jY]
 | (k,x)::r=>by
  have ih:=sO f v r;rw[show jY f v ((k,x)::r)=(if k=f then(k,v)::r else(k,x)::jY f v r) from rfl]
  by_cases hk:k=f
  .rw[if_pos hk,aT,aT];omega
  .rw[if_neg hk,aT,aT];omega
theorem mq.some_of(r:mq (some v) o):∃u,o=some u/\RelV v u:=by
 cases o with
 |none=>exact(show False from r).elim
 |some u=>exact#[u,rfl,r]
theorem mq.none_of(r:mq none o):o=none:=by
 cases o with
 |none=>rfl
 |some u=>exact(show False from r).elim
theorem Eu(r:RelV v u):DY u=true:=by
 cases v with
 |bQ=>cases (show u=cb from r);rfl
 |bl b=>cases (show u=jU b from r);rfl
 |int i=>let#[t,e]:=(show ∃t,u=kU i t from r);cases e;rfl
 |str x=>let#[t,e]:=(show ∃t,u=kW x t from r);cases e;rfl
 |A1 b=>let#[t,e]:=(show ∃t,u=Value.bytes b t from r);cases e;rfl
 |V6 b=>let#[t,e]:=(show ∃t,u=Value.float b t from r);cases e;rfl
 |ref a=>cases (show u=bf a from r);rfl
 |ty n=>cases (show u=Value.type n from r);rfl
section
variable{P:bw}{w:cf}{H H':Hp}{h h':Heap}{a C dx:Addr}{fs fs':List (Str×V)}
theorem xZ(dq:nh P w H h)(e:H a=some (.ins C dx fs)):∃mA,Bw h a dx C mA/\(∀f,mq (fs.lookup f) (mA f))/\zm mA (fs.map (·.1))/\fs.length<=1000/\H dx=some (.own a):=by
 let#[d,z,ne,ob,mA,n,r,q]:=(show dN P w H h a (.ins C dx fs) from dq a _ e)
 exact#[mA,#[ob,n,ne],r,q,z,d]
end
structure Ew(K:aG)(C:Addr):Prop where
 pg:lR K C Str.empty=true
 hd:qm K C=true
 po:CK K C=true
 sa:d7 K (.ref C) "__setattr__"=some (some (.builtin "object.__setattr__"))
theorem Ew.get{K:aG}{C:Addr}(c:Ew K C)(f:Str):lR K C f=true:=c.pg
def lK(K:aG)(C:Addr)(f:Str):Prop:=d7 K (.ref C) f=some none
theorem lK.SJ{K:aG}{C:Addr}{f:Str}(n:lK K C f):tq K C f=some none:=by
 unfold tq;rw[show d7 K (.ref C) f=some none from n]
 rfl
structure Meth(K:aG)(C:Addr)(m:Str)(f:Addr):Prop where
 at_:d7 K (.ref C) m=some (some (.ref f))
 fn:xI K (.ref f)=true
 kp:nP K (.ref f)=true
section
variable{X:Cx}{pZ:List (Addr×Obj)}{σ:St}{H:Hp}{s:aA}{a C dx:Addr}{fs:List (Str×V)}{f:Str}{v:V}{A:dF}{E:Value->aA->Prop}
theorem uC{b:Bool}{Q:Value->aA->Prop}(I:Inv X pZ σ H s)(e:H a=some (.ins C dx fs))(c:Ew X.K C)(n:lK X.K C f)(l:fs.lookup f=some v)
  (h:∀u s',Inv X pZ σ H s'->RelV v u->Q u s'):wpAny (ba X.prog X.w) A (getAttr (.ref a) f b) Q E s:=by
 let#[mA,O,r,_,_,_]:=xZ I.dq e;let#[u,hu,ru]:=mq.some_of (v:=v) (o:=mA f) (by rw[<-l];erw[r f]);erw[get_map I.zc O (c.get f) c.hd n hu (Eu ru) (h u _ (I.tok _) ru)]
theorem uD{m:Str}{g:Addr}{pl:Sem Bool}{Q:Value×List Value->aA->Prop}(I:Inv X pZ σ H s)(e:H a=some (.ins C dx fs))(c:Ew X.K C)(k:Meth X.K C m g)(l:fs.lookup m=none)
  (h:Q (.ref g,[.ref a]) s):wpAny (ba X.prog X.w) A (getMethod (.ref a) m pl) Q E s:=by
 let#[mA,O,r,_,_,_]:=xZ I.dq e;have hn:mA m=none:=mq.none_of (by rw[<-l];erw[r m]);erw[GH I.zc O (c.get m) k.at_ k.fn hn h]
theorem uE{y:V}{u:Value}{Q:Unit->aA->Prop}(I:Inv X pZ σ H s)(e:H a=some (.ins C dx fs))(c:Ew X.K C)(n:lK X.K C f)(hl:fs.length<1000)(ry:RelV y u)
  (h:∀s',Inv X pZ σ (upd H a (.ins C dx (jY f y fs))) s'->Q () s'):wpAny (ba X.prog X.w) A (setAttr (.ref a) f u) Q E s:=by
 let#[mA,O,r,wi,_,ho]:=xZ I.dq e;have hz:(fs.map (·.1)).length<=sizeLine:=by rw[ag,jC];omega
 rwa[KH I.zc O c.sa c.po n.SJ c.hd wi hz λh' O' sb=>h _ ?_]
 have hd:∃o,h'.get? dx=some o:=let ⟨o,_,_,e',_⟩:=O'.ns;#[o,e'];rwa[I.write (x:=a) (e:=dx) (by rw[e];erw[eF]) (.inr ho) (λb q hb z=>(sb.2 b hb).trans z) hd ?_];refine#[by rw[bX O.ne];erw[ho],?_,O.ne,O'.obj,_,O'.ns,λg=>?_,λg hg=>?_]
 .have:=sO f y fs;omega
 .show mq ((jY f y fs).lookup g) (if g=f then some u else mA g)
  rw[sN]
  by_cases q:g=f
  .rw[if_pos q,if_pos q];erw[ry]
  .rw[if_neg q,if_neg q];erw[r g]
 .by_cases q:g=f
  .rw[q];exact(rO f y fs).1
  .refine(rO f y fs).2 g (wi g λz=>hg ?_)
   show(if g=f then some u else mA g)=none
   rw[if_neg q];erw[z]
theorem Inv.made(I:Inv X pZ σ H s):Inv X pZ σ (upd (upd H s.heap.objs.size (.own (s.heap.objs.size+1))) (s.heap.objs.size+1) (.ins C s.heap.objs.size []))
  {s with heap:=(s.heap.push cM).push (dM C s.heap.objs.size)}:=by
 have e1:(s.heap.push cM).get? s.heap.objs.size=some cM:=aU s.heap rfl;have e2:((s.heap.push cM).push (dM C s.heap.objs.size)).get? (s.heap.objs.size+1)=some (dM C s.heap.objs.size):=by
  have:=aU (s.heap.push cM) (o:=dM C s.heap.objs.size) rfl
  rwa [gY] at this
 have e3:(s.heap.push cM).Ns s.heap.objs.size (λ_=>none):=#[cM,#[],_,e1,rfl,(λe he=>absurd he (by simp)),λ_=>rfl]
 have I1:=I.laid (a:=s.heap.objs.size) (o:=.own (s.heap.objs.size+1)) (h':=s.heap.push cM) (t':=s.toks) (λb u q=>aE _ q) (au _) #[_,e1];rwa[I1.laid (a:=s.heap.objs.size+1) (o:=.ins C s.heap.objs.size []) (t':=s.toks) (λb u q=>aE _ q) (Ba (gY _ _)) ?_];have ne:s.heap.objs.size≠s.heap.objs.size+1:=a9 (cv _);refine#[by rw[bX ne,bR],bP _,ne,e2,λ_=>none,(Heap.Ns1.of_empty e3).at λo q=>aE _ q,λ_=>eF,λy hy=>absurd rfl hy]
theorem KI{prog:bw}{w:cf}{env:Env}{e:Expr}{f:Str}{pos:Pos}{s:aA}{Q:Value->aA->Prop}(hb:gZ e f env (eval e env)=eval e env)
  (h:wpAny (ba prog w) A (eval e env) (λo s₁=>wpAny (ba prog w) A (getAttr o f true) Q E s₁) E s):wpAny (ba prog w) A (eval (.Attribute e f pos) env) Q E s:=
 Attribute_any_ h (by rw[arm_eval_Attribute,hb])
end
def Xa(K:aG)(ta:TE)(f:Str):TE:=λσ H Q=>ta σ H λx H1=>∃a C dx fs v,x=.ref a/\H1 a=some (.ins C dx fs)/\Ew K C/\lK K C f/\fs.lookup f=some v/\Q v H1
def Xb(K:aG)(ta tv:TE)(f:Str):TS:=λD σ H=>tv σ H λy H1=>ta σ H1 λx H2=>∃a C dx fs,x=.ref a/\H2 a=some (.ins C dx fs)/\Ew K C/\lK K C f/\fs.length<1000 /\
 D.nx σ (upd H2 a (.ins C dx (jY f y fs)))
def Xc(X:Cx)(op:me)(rd:V->V->Hp->VK->Prop):Prop:=
 ∀(pZ:List (Addr×Obj))(s:aA)(σ:St)(H:Hp)(x y:V)(u v:Value)(Q:VK),Inv X pZ σ H s->RelV x u->RelV y v->rd x y H Q->wpAny (ba X.prog X.w) X.A (gX op u v) (EP X pZ σ Q) X.xe s
def KJ(K:aG)(ta tv:TE)(rd:V->V->Hp->VK->Prop)(f:Str):TS:=λD σ H=>ta σ H λx H1=>∃a C dx fs v,x=.ref a/\H1 a=some (.ins C dx fs)/\Ew K C/\lK K C f/\fs.lookup f=some v /\
 tv σ H1 λy H2=>rd v y H2 λz H3=>∃dx' fs',H3 a=some (.ins C dx' fs')/\fs'.length<1000/\D.nx σ (upd H3 a (.ins C dx' (jY f z fs')))
section
variable{X:Cx}{o e value:Expr}{f:Str}{pos pos' tpos:Pos}{ta tv:TE}
theorem Oy(he:PE X e ta)(hb:gZ e f X.env (eval e X.env)=eval e X.env):PE X (.Attribute e f pos) (Xa X.K ta f):=by
 k_go;rwa[KI hb (d6 (he pZ s σ H _ I h) λu s1 h9=>?_)];let#[x,H1,I1,rx,a,C,dx,fs,v,ex,ea,c,n,l,q]:=h9;subst ex;obtain rfl:u=bf a:=rx;erw[uC I1 ea c n l λu' s2 I2 ru=>#[v,H1,I2,ru,q]]
theorem Oz(ha:PE X o ta)(hv:PE X value tv)(hs:fB value (some (.Attribute o f pos')) pos.line X.env=pure false):PS X (.Assign [.Attribute o f pos'] value pos) (Xb X.K ta tv f):=by
 intro pZ s σ H D I h;rwa[plainObj_wpAny_Assign_Attribute (d6 (hv pZ s σ H _ I h) λu s1 h9=>?_) hs];let#[y,H1,I1,ry,q]:=h9;rwa[d6 (ha pZ s1 σ H1 _ I1 q) λov s2 h9=>?_]
 let#[x,H2,I2,rx,a,C,dx,fs,ex,ea,c,n,l,q2]:=h9;subst ex;obtain rfl:ov=bf a:=rx;erw[uE I2 ea c n l ry λs3 I3=>#[σ,_,I3,q2]]
theorem Ey{op:me}{rd:V->V->Hp->VK->Prop}(ha:PE X o ta)(hv:PE X value tv)(hop:Xc X op rd):PS X (.AugAssign (.Attribute o f tpos) op value pos) (KJ X.K ta tv rd f):=by
 intro pZ s σ H D I h;rwa[wpAny_AugAssign_AttributeAny (d6 (ha pZ s σ H _ I h) λov s1 h9=>?_)];let#[x,H1,I1,rx,a,C,dx,fs,v,ex,ea,c,n,l,q]:=h9;subst ex;obtain rfl:ov=bf a:=rx;rwa[uC I1 ea c n l λu s2 I2 ru=>d6 (hv pZ s2 σ H1 _ I2 q) λw3 s3 h9=>?_]
 let#[y,H2,I3,ry,q3]:=h9;rwa[d6 (hop pZ s3 σ H2 v y u w3 _ I3 ru ry q3) λw4 s4 h9=>?_]
 let#[z,H3,I4,rz,dx',fs',ea',l',q4]:=h9;erw[uE I4 ea' c n l' rz λs5 I5=>#[σ,_,I5,q4]]
end
structure jZ(k:Nat)(A:dF):Prop where
 hd:A.handled=none
 dp:A.depth+3*k+5<recursionLimit
 un:A.units+16*k+200<eI
theorem jZ.mono(r:jZ k A)(h:j<=k):jZ j A:=#[r.hd,by have:=r.dp;omega,by have:=r.un;omega]
theorem jZ.deeper(r:jZ (k+1) A)(env:Env):jZ k (A.deeper env):=
 #[r.hd,by have:=r.dp;show A.depth+1+3*k+5<_;omega,by have:=r.un;show A.units+3+16*k+200<_;omega]
theorem Bx{A:dF}{C:Addr}{us:List Value}{kw:List (Str×Value)}:(A.under (.builtin "type.__call__" #[.ref C::us,kw])).depth=A.depth+1:=by
 first|rfl|simp[yW,Code.weight,Code.isCreation,Code.isGuard,Code.isCaller,Code.frames,AS,guardIds]
theorem By{A:dF}{C:Addr}{us:List Value}{kw:List (Str×Value)}:(A.under (.builtin "type.__call__" #[.ref C::us,kw])).units=A.units+1:=by
 first|rfl|simp[yW,Code.cUnits,Code.frames,AS]
theorem jZ.make(r:jZ (k+1) A)(C:Addr)(us:List Value)(kw:List (Str×Value)):jZ k (A.under (.builtin "type.__call__" #[.ref C::us,kw])):=
 #[r.hd,by have:=r.dp;rw[Bx];omega,by have:=r.un;rw[By];omega]
theorem jZ.depth(r:jZ k A):A.depth<recursionLimit:=by have:=r.dp;omega
def Xd:TA:=λ_ H Q=>Q [] H
def SK(ta:TE)(tr:TA):TA:=λσ H Q=>ta σ H λx H1=>tr σ H1 λxs H2=>Q (x::xs) H2
section
variable{X:Cx}{e:Expr}{es:List Expr}{te:TE}{t:TA}{pos:Pos}
theorem uF:PA X [] Xd:=λ_ _ _ _ H Q I h=>lP #[[],H,I,.nil,h]
theorem qB(ha:PE X e te)(hr:PA X es t)(hs:bI (e::es) X.env=(false,eval e X.env)::bI es X.env:=by rfl):PA X (e::es) (SK te t):=by
 intro pos pZ s σ H Q I h;rw[hs]
 show wpAny _ _ (spliced ((false,eval e X.env)::ic pos (bI es X.env))) _ _ s
 rwa[iS (d6 (ha pZ s σ H _ I h) λu s1 h9=>?_)];let#[x,H1,I1,r1,q1]:=h9;rwa[d6 (hr pos pZ s1 σ H1 _ I1 q1) λus s2 h9=>?_]
 let#[xs,H2,I2,r2,q2]:=h9;exact#[x::xs,H2,I2,.cons r1 r2,q2]
def Xe(t:TA):TE:=λσ H Q=>t σ H λxs H1=>xs.length<=sizeLine/\∀p,H1 p=none->Q (.ref p) (upd H1 p (.tup xs))
def Xf(t:TA):TE:=λσ H Q=>t σ H λxs H1=>xs.length<=sizeLine/\∀p,H1 p=none->Q (.ref p) (upd H1 p (.lst xs))
theorem OA{x1}(h:PA X es t):PE X (.Tuple es x1 pos) (Xe t):=by
 intro pZ s σ H Q I hq;rwa[wpAny_Tuple_spliced (d6 (h pos pZ s σ H _ I hq) λus s1 h9=>?_)];let#[xs,H1,I1,r,z,q]:=h9;refine#[by rw[<-r.length];erw[z],?_];have hf:H1 s1.heap.objs.size=none:=I1.dq.fresh (au _);refine#[.ref s1.heap.objs.size,upd H1 s1.heap.objs.size (.tup xs),I1.laid (t':=s1.toks) (λb u e=>aE _ e) (au _) ?_,rfl,q _ hf];exact#[z,us,r,#[_,aU _ rfl,rfl,_,rfl]]
theorem OB(h:PA X es t):PE X (.List es pos) (Xf t):=by
 intro pZ s σ H Q I hq;rwa[wpAny_List_spliced (d6 (h pos pZ s σ H _ I hq) λus s1 h9=>?_)];let#[xs,H1,I1,r,z,q]:=h9;refine#[by rw[<-r.length];erw[z],?_];have hf:H1 s1.heap.objs.size=none:=I1.dq.fresh (au _);refine#[.ref s1.heap.objs.size,upd H1 s1.heap.objs.size (.lst xs),I1.laid (t':=s1.toks) (λb u e=>aE _ e) (au _) ?_,rfl,q _ hf];exact#[z,us,0,r,aU _ rfl]
end
abbrev Sp:=List V->Hp->VK->XK->Prop
abbrev GJ:=List Env->Hp->aA->XK->Value->aA->Prop
structure Bz(P:bw)(w:cf)(K:aG)(mg:Str->Option Value)(base:Heap)(A:dF)(outer:List Env)(s:aA)(H:Hp):Prop where
 frames:A.frames=some outer
 mod:Mod K mg base
 bs:∀b o,base.get? b=some o->s.heap.get? b=some o/\H b=none
 Gs:base.objs.size<=s.heap.objs.size
 qt:s.heap.FunFrames base outer
 Kr:∀b∈vT outer,H b=none
 dq:nh P w H s.heap
 bare:nG s.gens
def CE(outer:List Env)(P:bw)(w:cf)(H:Hp)(s:aA)(Q:VK)(u:Value)(s':aA):Prop:=
 ∃v H',s'.os=s.os/\nG s'.gens/\Un (vT outer) [] H H' s.heap s'.heap/\nh P w H' s'.heap/\RelV v u/\Q v H'
def CR(CX:GJ)(outer:List Env)(P:bw)(w:cf)(H:Hp)(s:aA)(Q:VK)(E:XK)(r:Result)(s':aA):Prop:=
 match r with
 |.ok (.ret u)=>CE outer P w H s Q u s'
 |.ok _=>False
 |.error e=>CX outer H s E e s'
structure j0(P:bw)(w:cf)(K:aG)(mg:Str->Option Value)(base:Heap)(CX:GJ)(k:Nat)(f:Addr)(fd:eQ)(ps:List Str)(sp:Sp):Prop where
 len:∀vs H Q E,sp vs H Q E->vs.length=ps.length
 run:∀(A:dF)(outer:List Env)(s:aA)(H:Hp)(args:Args)(us:List Value)(vs:List V)(Q:VK)(E:XK),jZ k A->Bz P w K mg base A outer s H->AU s fd args (ps.zip us)->Vals vs us->sp vs H Q E ->
  pI (ba P w) A (.call (.ref f) args) (CR CX outer P w H s Q E) s
theorem j0.mono{P:bw}{w:cf}{K:aG}{mg:Str->Option Value}{base:Heap}{CX:GJ}{j k:Nat}{f:Addr}{fd:eQ}{ps:List Str}{sp:Sp}(F:j0 P w K mg base CX j f fd ps sp)(h:j<=k):
  j0 P w K mg base CX k f fd ps sp:=#[F.len,λA outer s H args us vs Q E hr=>F.run A outer s H args us vs Q E (hr.mono h)]
theorem j0.imp{P:bw}{w:cf}{K:aG}{mg:Str->Option Value}{base:Heap}{CX:GJ}{k:Nat}{f:Addr}{fd:eQ}{ps:List Str}{sp sp':Sp}(F:j0 P w K mg base CX k f fd ps sp)
  (h:∀vs H Q E,sp' vs H Q E->sp vs H Q E):j0 P w K mg base CX k f fd ps sp':=
 #[λvs H Q E q=>F.len vs H Q E (h _ _ _ _ q),λA outer s H args us vs Q E hr he hb hv hs=>F.run A outer s H args us vs Q E hr he hb hv (h _ _ _ _ hs)]
theorem Bz.make{P:bw}{w:cf}{K:aG}{mg:Str->Option Value}{base:Heap}{A:dF}{outer:List Env}{s:aA}{H:Hp}(e:Bz P w K mg base A outer s H)(C:Addr)(us:List Value)(kw:List (Str×Value)):
  Bz P w K mg base (A.under (.builtin "type.__call__" #[.ref C::us,kw])) outer s H:=#[by first|exact e.frames| (simpa[yW,Code.envs,AS,pushEnvs] using e.frames),e.mod,e.bs,e.Gs,e.qt,e.Kr,e.dq,e.bare]
section
variable{X:Cx}{pZ:List (Addr×Obj)}{σ:St}{H:Hp}{s s':aA}
theorem Inv.SM(I:Inv X pZ σ H s):Bz X.prog X.w X.K X.mg X.base X.A X.stack s H:=
 #[I.ok.frames,I.ok.mod,I.bs,aI I.ok.Gs I.sz,I.stack,I.xX,I.dq,I.bare]
theorem Inv.after(I:Inv X pZ σ H s)(h:CE X.stack X.prog X.w H s Q u s'):EP X pZ σ Q u s':=by
 let#[v,H',os,bare,un,dq,r,q]:=h;let#[hh,g,d,t,os']:=s';obtain rfl:os'=s.os:=os;exact#[v,H',I.call (h':=hh) (g':=g) (d':=d) (t':=t) (ch:=[]) un dq bare (λb z=>absurd z (by simp)),r,q]
end
def Binds(K:aG)(fd:eQ)(ps:List Str)(ds:List Value):Prop:=
 ∀(s:aA)(us:List Value),K.In s.heap->(us++ds).length=ps.length->AU s fd #[us,[]] (ps.zip (us++ds))
theorem Binds.all{K:aG}{fd:eQ}{ps:List Str}(h:∀us:List Value,us.length=ps.length->Kh fd #[us,[]]=pure (ps.zip us)):Binds K fd ps []:=λs us _ hl=>by
 rw[bM] at hl ⊢;erw[.of_eq (h us hl)]
section
variable{X:Cx}{CX:GJ}{k:Nat}{f C:Addr}{fd:eQ}{ps:List Str}{sp:Sp}{dvs:List V}{ds:List Value}{E:XK}{x m:Str}{p pos apos:Pos}{e o:Expr}{es:List Expr}{ta:TE}{t:TA}
structure Mk(K:aG)(C f:Addr):Prop where
 makes:FH K C=true
 init:d7 K (.ref C) "__init__"=some (some (.ref f))
 fn:xI K (.ref f)=true
 kp:nP K (.ref C)=true
end
structure k9(N P:List Str)(sc:jB):Prop where
 kind:sc.kind=.function
 co:sc.isCoroutine=false
 gen:sc.isGenerator=false
 nd:N.Nodup
 pre:N.take P.length=P
 par:∀x∈P,sc.names.lookup x=some .local\/sc.names.lookup x=some .cell
 OC:∀y∈sc.names,y.2≠.free
theorem wI{kindOf:Str->Option NameKind}{x:Str}:∀{binds:List (Str×Value)}{m:Str->Option Value},(∀v,(x,v)∉binds)->FI kindOf binds m x=m x
 |[],_,_=>rfl
 | (n,v)::r,m,h=>by
  unfold FI;rw[wI λw hw=>h w (aB _ hw)]
  split
  .have:x≠n:=by rintro rfl;erw[h v aS]
   simp[this]
  .rfl
theorem wJ{kindOf:Str->Option NameKind}{x:Str}:∀{binds:List (Str×Value)}{m:Str->Option Value},(∀v,(x,v)∉binds)->FJ kindOf binds m x=m x
 |[],_,_=>rfl
 | (n,v)::r,m,h=>by
  unfold FJ;rw[wJ λw hw=>h w (aB _ hw)]
  split
  .rfl
  .have:x≠n:=by rintro rfl;erw[h v aS]
   simp[this]
theorem wK{kindOf:Str->Option NameKind}{x:Str}{v:Value}:∀{P:List Str}{vs:List Value}{i:Nat}{m:Str->Option Value},P.Nodup->P[i]?=some x->vs[i]?=some v->kindOf x=some .local ->
  FI kindOf (P.zip vs) m x=some v
 |[],_,_,_,_,h,_,_=>by simp at h
 |_::_,[],_,_,_,_,h,_=>by simp at h
 |p::P,w::vs,0,m,nd,h1,h2,hk=>by
  simp at h1 h2;subst h1;subst h2;show FI kindOf ((p,w)::P.zip vs) m p=_;unfold FI;rw[wI λv hv=>(eR.mp nd).1 (vK hv).1,if_pos hk]
  simp
 |p::P,w::vs,i+1,m,nd,h1,h2,hk=>by
  show FI kindOf ((p,w)::P.zip vs) m x=_
  unfold FI;exact wK (i:=i) (eR.mp nd).2 (by simpa using h1) (by simpa using h2) hk
theorem wL{kindOf:Str->Option NameKind}{x:Str}{v:Value}:∀{P:List Str}{vs:List Value}{i:Nat}{m:Str->Option Value},P.Nodup->P[i]?=some x->vs[i]?=some v->kindOf x≠some .local ->
  FJ kindOf (P.zip vs) m x=some v
 |[],_,_,_,_,h,_,_=>by simp at h
 |_::_,[],_,_,_,_,h,_=>by simp at h
 |p::P,w::vs,0,m,nd,h1,h2,hk=>by
  simp at h1 h2;subst h1;subst h2;show FJ kindOf ((p,w)::P.zip vs) m p=_;unfold FJ;rw[wJ λv hv=>(eR.mp nd).1 (vK hv).1,if_neg hk]
  simp
 |p::P,w::vs,i+1,m,nd,h1,h2,hk=>by
  show FJ kindOf ((p,w)::P.zip vs) m x=_
  unfold FJ;exact wL (i:=i) (eR.mp nd).2 (by simpa using h1) (by simpa using h2) hk
noncomputable def start(N:List Str)(vs:List V):St:=vs.map some++dH (N.length-vs.length) none
noncomputable def zI(CX:GJ)(P:bw)(w:cf)(K:aG)(mg:Str->Option Value)(base:Heap)(N:List Str)(qual:Str)(scope:jB)(f:Addr)(cd:Value)(A:dF)(outer:List Env)(s:aA)(H:Hp)(E:XK):Cx where
 prog:=P
 w:=w
 K:=K
 mg:=mg
 base:=base
 A:=A.deeper (pJ qual scope s.heap.objs.size f cd)
 N:=N
 s₀:=s
 H₀:=H
 env:=pJ qual scope s.heap.objs.size f cd
 outer:=outer
 stack:=pJ qual scope s.heap.objs.size f cd::outer
 ex:=[]
 calm:=true
 fn:=λ_=>true
 pn:=[]
 xe:=λe s'=>wpAny (ba P w) (A.deeper (pJ qual scope s.heap.objs.size f cd)) (leaving (pJ qual scope s.heap.objs.size f cd) e) (λ_ s''=>CX outer H s E e s'') (λe' s''=>CX outer H s E e' s'') s'
theorem zJ{sc:jB}{n:Nat}{x:Str}(h:sc.names.lookup x=some .cell):∃c,(iT n sc.names []).lookup x=some c:=by
 have q:=xJ sc.names n [] (.inl h);erw[wm.mp q]
theorem Ez{CX:GJ}{P:bw}{w:cf}{K:aG}{mg:Str->Option Value}{base:Heap}{N ps:List Str}{qual:Str}{scope:jB}{f:Addr}{cd:Value}{A:dF}{outer:List Env}{s s1:aA}{H:Hp}{E:XK}{us:List Value}{vs:List V}
  (S:k9 N ps scope) (hd:A.handled=none) (e0:Bz P w K mg base A outer s H) (hl:vs.length=ps.length) (r:Vals vs us)
  (x:InCallC s s.heap.objs.size (FI (pJ qual scope s.heap.objs.size f cd).kindOf (ps.zip us) λ_=>none) (iT (s.heap.objs.size+1) scope.names []) (FJ (pJ qual scope s.heap.objs.size f cd).kindOf (ps.zip us) λ_=>none) s1):
  Inv (zI CX P w K mg base N qual scope f cd A outer s H E) [] (start N vs) H s1:=by
 have hpl:ps.length<=N.length:=by have:=congrArg dh S.pre;rw[cu] at this;omega
 let#[h1,tk,rfl,hk]:=x.done;have noA:∀b:Addr,b∉(zI CX P w K mg base N qual scope f cd A outer s H E).ex:=λb z=>absurd (show b∈([]:List Addr) from z) (by simp)
 refine#[#[e0.mod,S.kind,rfl,rfl,au _,λy z c h1 h2=>?_,λy hy=>?_,λy c _ h=>?_,λ_=>hd,Around.frames_deeper e0.frames,.inr #[rfl,rfl],λb z=>absurd z (noA b),e0.bs,e0.Gs,λb _ _=>noA b,λb z=>absurd z (noA b),e0.qt,e0.Kr],
  rfl,e0.bare,Un.kept hk,#[_,x.toInCall.ns,λi y v h1 h2 h3=>?_],λy c h=>#[_,x.cell y c h],e0.dq.fresh (au _),λy c h=>?_,λp hp=>absurd (show p∈([]:List (Addr×Obj)) from hp) (by simp),e0.dq.kept hk,?_]
 .erw[name_of_addr x.apart (cP h1) (cP h2)]
 .have hy:scope.names.lookup y=some .cell\/scope.names.lookup y=some .free:=hy
  rcases hy with hy|hy
  .erw[zJ hy]
  .erw[absurd rfl (S.OC _ (cP hy))]
 .erw[df (x.above y c (cP h))]
 .have hi:i<vs.length:=by
   unfold start at h2;by_cases hi:i<vs.length
   .erw[hi]
   .rw[ax (by simpa using hi)] at h2
    rw[zq] at h2;split at h2<;>cases h2
  have ha:vs[i]?=some v:=by
   unfold start at h2;rw[ai (by simpa using hi),aD] at h2;cases e:vs[i]? with
   |none=>rw[e] at h2;cases h2
   |some a=>rw[e] at h2;cases h2;rfl
  let#[u,hu,rv]:=r.get ha;have hp:ps[i]?=some y:=by
   rw[<-S.pre,yX ∅];erw[h1]
  have ndP:ps.Nodup:=by rw[<-S.pre];erw[S.nd.sublist (List.take_sublist _ _)]
  refine#[u,rv,?_];rcases S.par y (ak hp) with k|k
  .erw[.inl #[k,wK ndP hp hu k]]
  .let#[c,e]:=zJ (n:=s.heap.objs.size+1) k
   rwa[.inr #[.inl k,c,e,?_]];have q:=x.cell y c e;rw[wL ndP hp hu (by show scope.names.lookup y≠_;rw[k];decide)] at q;erw[q]
 .erw[e0.dq.fresh (df (x.above y c (cP h)))]
 .unfold start
  show _=N.length
  rw[aj,ag,List.length_replicate]
  omega
theorem SN{CX:GJ}{P:bw}{w:cf}{K:aG}{mg:Str->Option Value}{base:Heap}{k:Nat}{f:Addr}{name qual:Str}{params:Arguments}{body:List Stmt}{scope:jB}{dV kV doc pm cdv ct oc:Value}{an od:Option Addr}
  {osl:Array (Option Value)}{N ps:List Str}{sp:Sp} (lk:K.lookup f=some #[oc,od,.func (kb name qual params body scope dV kV doc pm an cdv ct),osl]) (hcd:uk K cdv qual=true) (S:k9 N ps scope)
  (len:∀vs H Q E,sp vs H Q E->vs.length=ps.length)
  (hbody:∀(A:dF)(outer:List Env)(s:aA)(H:Hp)(vs:List V)(Q:VK)(E:XK),jZ k (A.deeper (pJ qual scope s.heap.objs.size f cdv))->sp vs H Q E ->
   ∃t,vU (zI CX P w K mg base N qual scope f cdv A outer s H E) body t/\t {nx:=λ_ H'=>Q .bQ H',rt:=Q} (start N vs) H):
  j0 P w K mg base CX (k+1) f (kb name qual params body scope dV kV doc pm an cdv ct) ps sp:=by
 refine#[len,λA outer s H args us vs Q E hr e0 hb r hsp=>?_];have hl:=len _ _ _ _ hsp;have KX:K.In s.heap:=e0.mod.R9.keeps λb o e=>(e0.bs b o e).1
 have lim:s.heap.NoLimit:=e0.mod.nolimit.keeps λb o e=>(e0.bs b o e).1
 have hkind:∀y∈ps.zip us,scope.names.lookup y.1=some .local\/(scope.names.lookup y.1=some .cell/\((iT (s.heap.objs.size+1) scope.names []).lookup y.1).isSome=true):=λ⟨n,v⟩ hy=>by
  rcases S.par n (vK hy).1 with q|q
  .erw[.inl q]
  .erw[.inr #[q,xJ _ _ _ (.inl q)]]
 rwa[codeAny_call_function hr.depth (KX _ _ lk) rfl S.co S.gen rfl (PySem.W.codeRec_of KX hcd) (hb _ _ _ _ ?_)];rwa[wpAny_newFunctionEnv_cells S.kind hkind λenv he s1 x=>?_]
 subst he;refine#[lim.keeps x.toInCall.keep,codeAny_func ?_];let#[t,ht,hq]:=hbody A outer s H vs Q E (hr.deeper _) hsp;have I:Inv (zI CX P w K mg base N qual scope f cdv A outer s H E) [] (start N vs) H s1:=Ez S hr.hd e0 hl r x;rwa[bU (ht [] s1 (start N vs) H _ I hq) (λfl s' hs=>?_) λe s' hs=>hs]
 have fin:∀{σ':St}{H':Hp}{v:V}{u:Value},Inv (zI CX P w K mg base N qual scope f cdv A outer s H E) [] σ' H' s'->RelV v u->Q v H'->CE outer P w H s Q u s':=
  λ{σ' H' v u}J rv q=>#[v,H',J.os,J.bare,J.base,J.dq,rv,q]
 cases fl with
 |ret u=>
  let#[v,σ',H',J,rv,q]:=hs;erw[fin J rv q]
 |next=>
  let#[σ',H',J,q]:=hs;erw[fin (v:=V.bQ) (u:=cb) J rfl q]
 |brk=>
  let#[_,_,_,q]:=hs;erw[aL q]
 |cont=>
  let#[_,_,_,q]:=hs;erw[aL q]
section
variable{X:Cx}{x:Str}{p pos:Pos}{e:Expr}{es:List Expr}{t:TA}{id T:String}{r:List V->Hp->VK->Prop}
def Xg(r:List V->Hp->VK->Prop)(t:TA):TE:=λσ H Q=>t σ H λvs H1=>r vs H1 Q
theorem nW(hc:iu X (.builtin id) r)(hg:Gl X x)(hm:X.mg x=none)(hv:pG x=some (.builtin id))(ha:PA X (e::es) t)(hn:x≠"__name__":=by decide)(hdb:(x==("__debug__":Str))=false:=by decide)
  (he:bI (e::es) X.env=(false,eval e X.env)::bI es X.env:=by rfl) (hpl:(ic pos (bI es X.env)).any (·.1)=false:=by rfl):PE X (.Call (.Name x p) (e::es) [] pos) (Xg r t):=by
 k_go;rwa[eS (pK I hg hm hv ?_ hn hdb)];rwa[PyProof.Rows.callWith_builtin1 (d6 (ha pos pZ s σ H _ I h) λus s1 h9=>?_) he hpl];let#[vs,H1,I1,r1,q1]:=h9;erw[hc pZ s1 σ H1 vs us Q I1 r1 q1]
theorem oE(hc:iu X (.type T) r)(hg:Gl X x)(hm:X.mg x=none)(hv:pG x=some (.type T))(ha:PA X (e::es) t)(hn:x≠"__name__":=by decide)(hdb:(x==("__debug__":Str))=false:=by decide)
  (he:bI (e::es) X.env=(false,eval e X.env)::bI es X.env:=by rfl) (hpl:(ic pos (bI es X.env)).any (·.1)=false:=by rfl):PE X (.Call (.Name x p) (e::es) [] pos) (Xg r t):=by
 k_go;rwa[eS (pK I hg hm hv ?_ hn hdb)];rwa[fH (d6 (ha pos pZ s σ H _ I h) λus s1 h9=>?_) he hpl];let#[vs,H1,I1,r1,q1]:=h9;erw[hc pZ s1 σ H1 vs us Q I1 r1 q1]
end
end L2
namespace HT
open PySem PyProof.Rows
section
variable{prog:bw}{w:cf}{A:dF}{E:Value->aA->Prop}{s:aA}
theorem KL(ht:IsTup s.heap t vs.toArray)(hb:IsTup s.heap b ws.toArray)(hv:vs≠[])
  (h1:ws=[]->Q (.ref t) s) (h2:ws≠[]->Q (.ref s.heap.objs.size) {s with heap:=s.heap.push {cls:=.type "tuple",data:=.seq (vs++ws).toArray} })
  (hsz:vs.length+ws.length<=sizeLine):wpAny (ba prog w) A (cC .Add (.ref t) (.ref b)) Q E s:=by
 let#[#[cls,dd,data,sl],ho,hc,n,hd]:=id ht;let#[#[cls2,dd2,data2,sl2],ho2,hc2,n2,hd2]:=id hb;simp only at hc hd hc2 hd2;subst hc hd hc2 hd2;have e:vs.toArray++ws.toArray=(vs++ws).toArray:=by simp
 by_cases hw:ws=[]
 .exact F4 #[_,ho,rfl] #[_,ho2,rfl] xK DZ mf lS (lH _ _)
   (tuple_addW1 t b vs.toArray ws.toArray n n2 dd dd2 sl sl2 (by simpa using hv) (by simp[hw])) #[ho,ho2,h1 hw]
 .refine F4 #[_,ho,rfl] #[_,ho2,rfl] xK DZ mf lS (lH _ _)
   (tuple_addW2 t b vs.toArray ws.toArray n n2 dd dd2 sl sl2 (by simpa using hv) (by simpa using hw) (by rw[aF,aF];erw[hsz])) #[ho,ho2,?_]
  rw[e]
  erw[h2 hw]
noncomputable def jc(n d:Nat):Option Int->Nat
 |none=>d
 |some v=>if v<0 then(v+(n:Int)).toNat else min v.toNat n
theorem OD(n d:Nat)(hd:d<=n)(o:Option Int):jc n d o<=n:=by
 cases o with
 |none=>erw[hd]
 |some v=>
  show(if v<0 then(v+(n:Int)).toNat else min v.toNat n)<=n
  by_cases hv:v<0
  .rw[if_pos hv];omega
  .rw[if_neg hv];erw[Nat.min_le_right _ _]
theorem CT(v:Int)(n d:Nat):(if v<0 then max (v+(n:Int)) 0 else min v (n:Int))=((jc n d (some v):Nat):Int):=by
 show(if v<0 then max (v+(n:Int)) 0 else min v (n:Int))=(((if v<0 then(v+(n:Int)).toNat else min v.toNat n):Nat):Int)
 by_cases hv:v<0
 .dsimp[if_pos hv];omega
 .dsimp[if_neg hv];omega
theorem BA(lo hi:Option Int)(n:Nat):Builtin.Slice.sliceAdjust lo hi 1 (n:Int)=(((jc n 0 lo:Nat):Int),((jc n n hi:Nat):Int)):=by
 have h1:¬((1:Int)<0):=∅
 unfold Builtin.Slice.sliceAdjust;dsimp[h1,if_false];rwa[Prod.ext ?_ ?_]
 .cases lo with
  |none=>rfl
  |some v=>erw[CT v n 0]
 .cases hi with
  |none=>rfl
  |some v=>erw[CT v n n]
theorem BC(i j:Nat):Builtin.Slice.slicePlaces (i:Int) (j:Int) 1=j-i:=by
 unfold Builtin.Slice.slicePlaces;have h1:(1:Int)>0:=∅
 dsimp[h1,if_true,Int.ediv_one];split<;>omega
theorem uG(p:xM v o)(h:Q o s):wpAny (ba prog w) A (Builtin.Slice.slicePartIndex v) Q E s:=by
 cases p with
 |none=>erw[slicePart_none h]
 |int i t=>erw[slicePart_int h]
theorem rP{sl:Addr}{vl vu:Value}{lo hi:Option Int}{n:Nat}{Q:Int×Int×Nat->aA->Prop}(hs:s.heap.IsSliceOf sl vl vu .none)(pl:xM vl lo)(pu:xM vu hi)
  (h:Q (((jc n 0 lo:Nat):Int),1,jc n n hi-jc n 0 lo) s):wpAny (ba prog w) A (Builtin.Slice.sliceApplied (.ref sl) (pure (n:Int))) Q E s:=by
 let#[os,hos,hcs,hds]:=id hs;unfold Builtin.Slice.sliceApplied Builtin.Slice.sliceFields;rwa[ae (ae (jD hos hds (x:=vl) rfl (ae (jD hos hds (x:=vu) rfl (ae (jD hos hds (x:=.none) rfl (aw ?_)))))))];rwa[ae (slicePart_none ?_)];show wpAny _ _ (if ((1:Int)== 0)=true then _ else _) _ _ s;rw[if_neg ⋯]
 rwa[ae (uG pl (ae (uG pu (ae (aw ?_)))))];show wpAny _ _ (match Builtin.Slice.sliceAdjust lo hi 1 (n:Int) with| (lo,hi)=>pure (lo,(1:Int),Builtin.Slice.slicePlaces lo hi 1)) _ _ s;rw[BA lo hi n]
 show wpAny _ _ (pure (((jc n 0 lo:Nat):Int),(1:Int),Builtin.Slice.slicePlaces ((jc n 0 lo:Nat):Int) ((jc n n hi:Nat):Int) 1)) _ _ s
 rw[BC]
 erw[aw h]
theorem GK(xs:Array Value)(i k:Nat):((cq k).filterMap λ(m:Nat)=>xs[((i:Int)+(m:Int)*1).toNat]?).toArray=((xs.toList.drop i).take k).toArray:=by
 have e:(λ(m:Nat)=>xs[((i:Int)+(m:Int)*1).toNat]?)=λm=>xs[i+m]?:=by
  funext m
  have:((i:Int)+(m:Int)*1).toNat=i+m:=∅
  rw[this]
 rw[e]
 have:=pick_run xs i k;rw[rE] at this;have e2:((λx=>xs[x]?)∘λx=>i+x)=λm=>xs[i+m]?:=rfl
 rw[e2] at this;rw[this]
theorem qC{t sl:Addr}{items:Array Value}{vl vu:Value}{lo hi:Option Int}{Q:Value->aA->Prop}(ht:IsTup s.heap t items)(hs:s.heap.IsSliceOf sl vl vu .none)(pl:xM vl lo)(pu:xM vu hi)
  (hw:¬(jc items.size 0 lo=0/\jc items.size items.size hi=items.size))
  (h:Q (.ref s.heap.objs.size) {s with heap:=s.heap.push {cls:=.type "tuple",data:=.seq ((items.toList.drop (jc items.size 0 lo)).take (jc items.size items.size hi-jc items.size 0 lo)).toArray} })
  (hsz:items.size<=sizeLine):wpAny (ba prog w) A (nH (.ref t) (.ref sl)) Q E s:=by
 have htake:sizeOk (.seq ((items.toList.drop (jc items.size 0 lo)).take (jc items.size items.size hi-jc items.size 0 lo)).toArray):=by
  show((items.toList.drop (jc items.size 0 lo)).take (jc items.size items.size hi-jc items.size 0 lo)).toArray.size<=sizeLine
  rw[aF,cu,JU,pH]
  omega
 have hj:jc items.size items.size hi<=items.size:=OD _ _ (au _) hi;let#[os,hos,hcs,hds]:=id hs;have hTs:s.TypeIs (.ref sl) "slice":=#[os,hos,hcs]
 unfold nH;try with_reducible refine fG ?_
 first|refine ae (aw ?_)|skip
 refine ae (wpAny_sequenceKey ht.typeIs ⋯ ?_);refine ae (jE (name:=bV "__getitem__") ht.typeIs iN
  (iR iN ht.typeIs entry_tuple_getitem ?_ (args_tuple_getitem _ _)))
 show wpAny _ _ (Builtin.Tuple.tupleItemsOf (.ref t)>>=_) _ _ s
 rwa[ae (tupleItemsOf_ ht ?_)];rwa[ae (F5 hTs ?_)];rw[if_pos ⋯]
 refine ae (rP hs pl pu ?_);have hno:¬((((jc items.size 0 lo:Nat):Int)== 0&&(1:Int)== 1&&(jc items.size items.size hi-jc items.size 0 lo)== items.size)=true):=by
  intro q;rw[ao,ao] at q;have q1:((jc items.size 0 lo:Nat):Int)=0:=eq_of_beq q.1.1;have q2:jc items.size items.size hi-jc items.size 0 lo=items.size:=eq_of_beq q.2;erw[hw #[∅,∅]]
 show wpAny _ _ (if (((jc items.size 0 lo:Nat):Int)== 0&&(1:Int)== 1&&(jc items.size items.size hi-jc items.size 0 lo)== items.size)=true then _ else _) _ _ s
 rw[if_neg hno,GK]
 first
  |exact ae (m:=Builtin.Tuple.tupleExact _) (cZ (aw #[_,rfl,aw h]) htake)
  |exact ae (m:=Builtin.Tuple.tupleExact _) (cZ (ae (aw (aw #[_,rfl,aw h]))) htake)
  |exact ae (ae (m:=Builtin.Tuple.tupleExact _) (cZ (aw (aw #[_,rfl,aw h])) htake))
  |exact ae (ae (m:=Builtin.Tuple.tupleExact _) (cZ (aw #[_,rfl,aw h]) htake))
end
end HT
namespace L2
open PySem PySem.Spec PyProof.Rows
abbrev TO:=St->Hp->(Option Int->Hp->Prop)->Prop
def PO(X:Cx)(e:Option Expr)(t:TO):Prop:=
 ∀(pZ:List (Addr×Obj))(s:aA)(σ:St)(H:Hp)(Q:Option Int->Hp->Prop),Inv X pZ σ H s->t σ H Q ->
  wpAny (ba X.prog X.w) X.A (evalPart e X.env) (λu s'=>∃o H',Inv X pZ σ H' s'/\xM u o/\Q o H') X.xe s
noncomputable def KN:TO:=λ_ H Q=>Q none H
noncomputable def SQ(t:TE):TO:=λσ H Q=>t σ H λx H1=>∃i,x=.int i/\Q (some i) H1
section
variable{X:Cx}{e:Expr}{te:TE}{lo hi:Option Expr}{tl th:TO}{pos p2:Pos}
theorem KO:PO X none KN:=by
 k_go;rw[evalPart_none]
 erw[aw #[none,H,I,.none,h]]
theorem KQ(h:PE X e te):PO X (some e) (SQ te):=by
 intro pZ s σ H Q I hw;rw[evalPart_some]
 rwa[d6 (h pZ s σ H _ I hw) λu s1 h9=>?_]
 let#[x,H1,I1,r1,q1]:=h9;let#[i,rfl,q]:=q1;let#[t,rfl]:=r1;exact#[some i,H1,I1,.int i t,q]
def SR(X:Cx)(r:V->Option Int->Option Int->Hp->VK->Prop):Prop:=
 ∀(pZ:List (Addr×Obj))(s:aA)(σ:St)(H:Hp)(x:V)(v vl vu:Value)(lo hi:Option Int)(sl:Addr)(Q:VK),Inv X pZ σ H s->RelV x v->s.heap.IsSliceOf sl vl vu .none->xM vl lo->xM vu hi->r x lo hi H Q ->
  ∃T id,typeLookup (.type T) "__getitem__"=pure (some (.builtin id))/\s.TypeIs v T/\wpAny (ba X.prog X.w) X.A (nH v (.ref sl)) (EP X pZ σ Q) X.xe s
def tSl(r:V->Option Int->Option Int->Hp->VK->Prop)(te:TE)(tl th:TO):TE:=λσ H Q=>te σ H λx H1=>tl σ H1 λl H2=>th σ H2 λu H3=>r x l u H3 Q
theorem GL(hr:SR X r)(he:PE X e te)(hl:PO X lo tl)(hu:PO X hi th):PE X (.Subscript e (.Slice lo hi none p2) pos) (tSl r te tl th):=by
 k_go;rwa[Subscript_ (d6 (he pZ s σ H _ I h) λv s1 h9=>?_)];let#[x,H1,I1,r1,q1]:=h9;rwa[wpAny_Slice (d6 (hl pZ s1 σ H1 _ I1 q1) λvl s2 h9=>?_)];let#[l,H2,I2,pl,q2]:=h9;rwa[d6 (hu pZ s2 σ H2 _ I2 q2) λvu s3 h9=>?_]
 let#[u,H3,I3,pu,q3]:=h9;rw[evalPart_none]
 rwa[aw ?_];have I4:Inv X pZ σ H3 {s3 with heap:=s3.heap.push {cls:=.type "slice",data:=.fields (List.toArray [vl,vu,.none])} }:=I3.kept (t':=s3.toks) λb ob q=>aE _ q
 let#[T,id,hT,ht,hg]:=hr pZ {s3 with heap:=s3.heap.push {cls:=.type "slice",data:=.fields (List.toArray [vl,vu,.none])} } σ H3 x v vl vu l u s3.heap.objs.size Q I4 r1 (Heap.IsSliceOf.new ..) pl pu q3;show wpAny (ba X.prog X.w) X.A (D1 e (.Slice lo hi none p2) v (.ref s3.heap.objs.size)) (EP X pZ σ Q) X.xe {s3 with heap:=s3.heap.push {cls:=.type "slice",data:=.fields (List.toArray [vl,vu,.none])} };erw[tail_any (ops:=[.ref s3.heap.objs.size,v]) ht hT hg (by with_unfolding_all rfl)]
noncomputable def zK(xs:List V)(lo hi:Option Int):List V:=(xs.drop (HT.jc xs.length 0 lo)).take (HT.jc xs.length xs.length hi-HT.jc xs.length 0 lo)
theorem sP(xs:List V)(lo hi:Option Int):(zK xs lo hi).length<=xs.length:=by
 unfold zK;rw[cu,JU]
 omega
def Xh(K:aG):V->Option Int->Option Int->Hp->VK->Prop:=λx lo hi H Q=>∃a xs,x=.ref a/\lQ K H a xs /\
 ¬(HT.jc xs.length 0 lo=0/\HT.jc xs.length xs.length hi=xs.length)/\∀p,H p=none->Q (.ref p) (upd H p (.tup (zK xs lo hi)))
theorem OE:SR X (Xh X.K):=by
 intro pZ s σ H x v vl vu lo hi sl Q I rx hs pl pu h;let#[a,xs,rfl,hx,hw,q]:=h;cases rx;let#[its,r,ht,hz]:=I.tuple hx;have hlen:its.toArray.size=xs.length:=by rw[aF];erw[r.length.symm]
 refine#["tuple",_,iN.lookup,ht.typeIs,?_];rwa[HT.qC ht hs pl pu (by rw[hlen];erw[hw]) ?_ (by rw[hlen];erw[hz])];rw[hlen]
 refine#[.ref s.heap.objs.size,_,I.laid (t':=s.toks) (o:=.tup (zK xs lo hi)) (λb ob q=>aE _ q) (au _) ?_,rfl,q _ (I.dq.fresh (au _))];exact#[aI (sP xs lo hi) hz,_,(r.drop (HT.jc xs.length 0 lo)).take (HT.jc xs.length xs.length hi-HT.jc xs.length 0 lo),F6 _ _]
noncomputable def SS(K:aG):R2:=λx y H Q=>∃a b xs ys,x=.ref a/\y=.ref b/\lQ K H a xs/\lQ K H b ys/\xs≠[]/\xs.length+ys.length<=sizeLine /\
 (ys=[]->Q (.ref a) H)/\(ys≠[]->∀p,H p=none->Q (.ref p) (upd H p (.tup (xs++ys))))
theorem Vals.x8(r:Vals xs us):us=[]↔xs=[]:=by
 cases r with
 |nil=>simp
 |cons _ _=>simp
theorem KR:gH X (cC .Add) (SS X.K):=by
 x_go;let#[a,b,xs,ys,rfl,rfl,ha,hb,hx,hz,q1,q2]:=h;cases rx;cases ry;let#[its,r1,p1,_]:=I.tuple ha;let#[its2,r2,p2,_]:=I.tuple hb;rwa[HT.KL p1 p2 (λz=>hx (r1.x8.mp z)) (λz=>#[.ref a,H,I,rfl,q1 (r2.x8.mp z)]) (λz=>?_) (by rw[<-r1.length,<-r2.length];erw[hz])];refine#[.ref s.heap.objs.size,_,I.laid (t':=s.toks) (o:=.tup (xs++ys)) (λb ob q=>aE _ q) (au _) ?_,rfl,q2 (λw=>z (r2.x8.mpr w)) _ (I.dq.fresh (au _))];exact#[by rw[aj];erw[hz],_,r1.append r2,F6 _ _]
end
noncomputable def OF(n:Nat)(i:Int):Option Nat:=if 0<=i then(if i<n then some i.toNat else none) else if -(n:Int)<=i then some (i+n).toNat else none
noncomputable def OG{α:Type}(xs:List α)(i:Int):Option α:=(OF xs.length i).bind λj=>xs[j]?
theorem CU(h:OF n i=some j):seqIndex? i n=some j/\j<n/\-(n:Int)<=i/\i<n:=by
 unfold OF at h;by_cases h0:0<=i
 .rw[if_pos h0] at h
  by_cases h1:i<n
  .rw[if_pos h1] at h
   have e:i.toNat=j:=aJ h;exact#[by rw[Ki h0 h1,e],∅,∅,h1]
  .rw[if_neg h1] at h;cases h
 .rw[if_neg h0] at h
  by_cases h1:-(n:Int)<=i
  .rw[if_pos h1] at h
   have e:(i+n).toNat=j:=aJ h;exact#[by rw[F7 ∅ h1,e],∅,h1,∅]
  .rw[if_neg h1] at h;cases h
theorem x9{α:Type}{xs:List α}{i:Int}{v:α}(h:OG xs i=some v):∃j,seqIndex? i xs.length=some j/\xs[j]?=some v/\j<xs.length/\-(xs.length:Int)<=i/\i<xs.length:=by
 unfold OG at h;cases e:OF xs.length i with
 |none=>rw[e] at h;cases h
 |some j=>
  rw[e] at h;let#[h1,h2,h3,h4]:=CU e;exact#[j,h1,h,h2,h3,h4]
def CV(b:Expr):Prop:=∀o i,yY b false o i=operate [o,i] (nH o i)
def RH(X:Cx)(r:R2):Prop:=
 ∀(value slice:Expr)(pZ:List (Addr×Obj))(s:aA)(σ:St)(H:Hp)(x y:V)(v u:Value)(Q:VK),Inv X pZ σ H s->RelV x v->RelV y u->r x y H Q ->
  yY slice false v u=operate [v,u] (nH v u)->wpAny (ba X.prog X.w) X.A (D1 value slice v u) (EP X pZ σ Q) X.xe s
def BD(X:Cx)(id:String)(r:V->List V->Hp->VK->Prop):Prop:=
 ∀(pZ:List (Addr×Obj))(s:aA)(σ:St)(H:Hp)(x:V)(xs:List V)(v:Value)(us:List Value)(Q:VK),Inv X pZ σ H s->RelV x v->Vals xs us->r x xs H Q ->
  wpAny (ba X.prog X.w) X.A (call (.builtin id) (v::us)) (EP X pZ σ Q) X.xe s
section
variable{X:Cx}{a b:Expr}{ta tb:TE}{pos:Pos}
theorem SU(hr:RH X r)(ha:PE X a ta)(hb:PE X b tb)(hs:CV b):PE X (.Subscript a b pos) (Wa r ta tb):=by
 k_go;erw[Subscript_ (Oc ha hb I h λv u s2 x y H2 I2 rx ry q=>hr a b pZ s2 σ H2 x y v u Q I2 rx ry q (hs _ _))]
noncomputable def Xi(K:aG):R2:=λx y H Q=>∃p xs i v,x=.ref p/\y=.int i/\hU K H p xs/\OG xs i=some v/\Q v H
noncomputable def Xj(K:aG):R2:=λx y H Q=>∃p xs i v,x=.ref p/\y=.int i/\lQ K H p xs/\OG xs i=some v/\Q v H
noncomputable def Xk:R2:=λx y H Q=>∃z i c,x=.str z/\y=.int i/\z.length<=sizeLine/\OG z.cps.toList i=some c/\Q (.str #[(List.toArray [c])]) H
theorem CW:RH X (Xi X.K):=by
 intro value slice pZ s σ H x y v u Q I rx ry h hs;let#[p,xs,i,z,rfl,rfl,hq,he,q]:=h;cases rx;let#[t,rfl]:=ry;let#[its,r,pl,hz]:=I.list hq;let#[j,h1,h2,h3,h4,h5]:=x9 he;let#[w,ew,rw']:=r.get h2;have hl:=r.length;have hn:=nV;have fin:EP X pZ σ Q w s:=#[z,H,I,rw',q]
 by_cases h0:0<=i
 .have hj:i.toNat=j:=by
   rw[Ki h0 h5] at h1;erw[aJ h1]
  exact item_listR pl.isList h0 ∅ (by rw[hj];simpa using ew) fin hs
 .have hj:(i+(its.toArray.size:Int)).toNat=j:=by
   rw[F7 ∅ h4] at h1;rw[aF,<-hl]
   erw[aJ h1]
  exact F8 (x:=w) pl.isList.typeIs slot_list_getitem.lookup
   (wpAny_getItem_list_neg (Q:=λr s'=>r=w/\EP X pZ σ Q r s') pl.isList ∅ (by rw[aF]<;>omega) ∅ (by rw[hj];simpa using ew) #[rfl,fin]) hs
theorem OH:RH X (Xj X.K):=by
 intro value slice pZ s σ H x y v u Q I rx ry h hs;let#[p,xs,i,z,rfl,rfl,hq,he,q]:=h;cases rx;let#[t,rfl]:=ry;let#[its,r,pl,hz]:=I.tuple hq;let#[j,h1,h2,h3,h4,h5]:=x9 he;let#[w,ew,rw']:=r.get h2;have hl:=r.length;have hn:=nV;have fin:EP X pZ σ Q w s:=#[z,H,I,rw',q]
 exact F8 (x:=w) pl.typeIs slot_tuple_getitem.lookup
  (getItem_tuple (j:=j) (Q:=λr s'=>r=w/\EP X pZ σ Q r s') pl ∅ ∅ (by rw[aF,<-hl];erw[h1]) (by simpa using ew) #[rfl,fin]) hs
theorem OI:RH X Xk:=by
 intro value slice pZ s σ H x y v u Q I rx ry h hs;let#[z,i,c,rfl,rfl,hz,he,q]:=h;let#[t,rfl]:=rx;let#[t',rfl]:=ry;let#[j,h1,h2,h3,h4,h5]:=x9 he;have hl:z.cps.toList.length=z.length:=by simp[F9]
 rw[hl] at h1 h4 h5;have hn:=nV;exact tail_any (typeIs_str s z t) slot_str_getitem.lookup (getItem_str (c:=c) (by
  have e1:decide (i < -(2^63:Int))=false:=decide_eq_false ∅;have e2:decide (i≥2^63)=false:=decide_eq_false ∅;rw[e1,e2,Bool.or_false]) (by rw[h1];simpa using h2) #[.str #[(List.toArray [c])],H,I.tok _,#[_,rfl],q]) hs
theorem BE(its:List Value)(n j:Nat)(u:Value):rK (·.setIfInBounds j u) {cls:=.type "list",data:=.seq its.toArray n}= {cls:=.type "list",data:=.seq (its.set j u).toArray n}:=by
 simp[rK]
theorem Inv.lst{pZ:List (Addr×Obj)}{σ:St}{H:Hp}{s:aA}{p:Addr}{xs:List V}(I:Inv X pZ σ H s)(h:H p=some (.lst xs)):
  ∃(its:List Value)(n:Nat),Vals xs its/\s.heap.get? p=some {cls:=.type "list",data:=.seq its.toArray n}/\xs.length<=sizeLine:=by
 let#[z,its,n,r,e]:=I.dq p _ h;exact#[its,n,r,e,z]
theorem Inv.OJ{pZ:List (Addr×Obj)}{σ:St}{H:Hp}{s:aA}{p:Addr}{xs ys:List V}{its its':List Value}{n n':Nat}{f:Obj->Obj}(I:Inv X pZ σ H s)(h:H p=some (.lst xs))
  (ho:s.heap.get? p=some {cls:=.type "list",data:=.seq its.toArray n}) (hf:f {cls:=.type "list",data:=.seq its.toArray n}= {cls:=.type "list",data:=.seq its'.toArray n'}) (r:Vals ys its') (hz:ys.length<=sizeLine) (t:Nat):
  Inv X pZ σ (upd H p (.lst ys)) {s with heap:=s.heap.update p f,toks:=t}:=by
 have e:(s.heap.update p f).get? p=some {cls:=.type "list",data:=.seq its'.toArray n'}:=by
  rw[dC f ho (by rw[hf]<;>rfl),hf]
 rwa[I.write (x:=p) (e:=p) (by rw[h];trivial) (.inl rfl) (λb u hb q=>(nI _ _ (bZ hb)).trans q) #[_,e] ?_];exact#[hz,its',n',r,e]
def SV:V->V->V->Hp->(Hp->Prop)->Prop:=λo i v H Q=>∃p xs k j,o=.ref p/\i=.int k/\H p=some (.lst xs)/\OF xs.length k=some j/\Q (upd H p (.lst (xs.set j v)))
theorem set_list:N8 X SV:=by
 intro pZ s σ H o i v ov iv u Q I ro ri rv h;let#[p,xs,k,j,rfl,rfl,hp,hj,q]:=h;cases ro;let#[t,rfl]:=ri;let#[its,n,r,ho,hz]:=I.lst hp;let#[h1,h2,h3,h4]:=CU hj;have hl:=r.length;have hn:=nV;have I':Inv X pZ σ (upd H p (.lst (xs.set j v))) {s with heap:=s.heap.update p (rK (·.setIfInBounds j u))}:=
  I.OJ hp ho (BE its n j u) (r.set rv j) (by rw[cg];erw[hz]) s.toks
 by_cases h0:0<=k
 .have hk:k.toNat=j:=by
   rw[Ki h0 h4] at h1;erw[aJ h1]
  erw[PySem.W.ki_setAt ho h0 ∅ (by rw[aF,<-hl];exact h4) (by rw[hk];exact#[_,I',q])]
 .have hk:(k+(its.toArray.size:Int)).toNat=j:=by
   rw[F7 ∅ h3] at h1;rw[aF,<-hl]
   erw[aJ h1]
  erw[PySem.W.ki_setBack ho ∅ (by rw[aF,<-hl];exact h3) ∅ (by rw[hk];exact#[_,I',q])]
theorem ya(lo hi:Option Int)(n:Nat):(kY lo hi none n).1=((HT.jc n 0 lo:Nat):Int)/\(kY lo hi none n).2.1=((HT.jc n n hi:Nat):Int)/\(kY lo hi none n).2.2=1:=by
 refine#[?_,?_,rfl]
 .cases lo with
  |none=>simp[kY,HT.jc]
  |some i=>
   dsimp[kY,HT.jc,jF,show(1:Int)>0 by decide,if_true];by_cases h:i<0
   .dsimp[h,if_true]<;>omega
   .dsimp[h,if_false]<;>omega
 .cases hi with
  |none=>simp[kY,HT.jc]
  |some i=>
   dsimp[kY,HT.jc,jF,show(1:Int)>0 by decide,if_true];by_cases h:i<0
   .dsimp[h,if_true]<;>omega
   .dsimp[h,if_false]<;>omega
theorem vV(its:List Value)(lo hi:Option Int):slicePick its.toArray lo hi none=((its.drop (HT.jc its.length 0 lo)).take (HT.jc its.length its.length hi-HT.jc its.length 0 lo)).toArray:=by
 let#[h1,h2,h3]:=ya lo hi its.toArray.size;unfold slicePick;rw[h1,h2,h3]
 dsimp[sliceRange_one,pick_run,aF]<;>rfl
def Xl(K:aG):V->Option Int->Option Int->Hp->VK->Prop:=λx lo hi H Q=>∃a xs,x=.ref a/\hU K H a xs/\∀p,H p=none->Q (.ref p) (upd H p (.lst (zK xs lo hi)))
theorem KS:SR X (Xl X.K):=by
 intro pZ s σ H x v vl vu lo hi sl Q I rx hs pl pu h;let#[a,xs,rfl,hx,q]:=h;cases rx;let#[its,r,ht,hz]:=I.list hx;have hlen:=r.length;refine#["list",_,slot_list_getitem.lookup,ht.isList.typeIs,?_];refine wpAny_getItem_list_slice ht.isList hs pl pu .none (by simp) ?_ (by rw[aF]<;>omega);rw[vV,<-hlen]
 refine#[.ref s.heap.objs.size,_,I.laid (t':=s.toks) (o:=.lst (zK xs lo hi)) (λb ob q=>aE _ q) (au _) ?_,rfl,q _ (I.dq.fresh (au _))];exact#[aI (sP xs lo hi) hz,_,0,(r.drop (HT.jc xs.length 0 lo)).take (HT.jc xs.length xs.length hi-HT.jc xs.length 0 lo),aU _ rfl]
noncomputable def pv:V->Bool
 |.bQ=>true
 |.bl _=>true
 |.int _=>true
 |.str _=>true
 |_=>false
noncomputable def KW:V->V->Bool
 |.bQ,.bQ=>true
 |.bl a,.bl b=>a==b
 |.bl a,.int b=>(if a then 1 else 0)== b
 |.int a,.bl b=>a==(if b then 1 else 0)
 |.int a,.int b=>a==b
 |.str a,.str b=>a==b
 |_,_=>false
theorem OK(ry:RelV y u)(rx:RelV x v)(fy:pv y=true)(fx:pv x=true):vO A s u v (KW y x):=by
 cases y with
 |bQ=>
  cases ry;cases x with
  |bQ=>cases rx;erw[jA _]
  |bl b=>cases rx;erw[wo b]
  |int b=>let#[t,rfl]:=rx;erw[nE b t]
  |str b=>let#[t,rfl]:=rx;erw[nF b t]
  |_=>erw[absurd (show false=true from fx) aV]
 |bl a=>
  cases ry;cases x with
  |bQ=>cases rx;erw[wq a]
  |bl b=>cases rx;erw[wt a b]
  |int b=>let#[t,rfl]:=rx;erw[xN a b t]
  |str b=>let#[t,rfl]:=rx;erw[xO a b t]
  |_=>erw[absurd (show false=true from fx) aV]
 |int a=>
  let#[t',rfl]:=ry;cases x with
  |bQ=>cases rx;erw[nA a t']
  |bl b=>cases rx;erw[xP a t' b]
  |int b=>let#[t,rfl]:=rx;erw[yZ a t' b t]
  |str b=>let#[t,rfl]:=rx;erw[ou a t' b t]
  |_=>erw[absurd (show false=true from fx) aV]
 |str a=>
  let#[t',rfl]:=ry;cases x with
  |bQ=>cases rx;erw[nB a t']
  |bl b=>cases rx;erw[xQ a t' b]
  |int b=>let#[t,rfl]:=rx;erw[ow a t' b t]
  |str b=>let#[t,rfl]:=rx;erw[y6 a t' b t]
  |_=>erw[absurd (show false=true from fx) aV]
 |_=>erw[absurd (show false=true from fy) aV]
noncomputable def BF(x:V)(u:Value):Bool:=match u with
 |.none=>KW .bQ x
 |.bool b=>KW (.bl b) x
 |.int i _=>KW (.int i) x
 |.str z _=>KW (.str z) x
 |_=>false
theorem GN(r:RelV y u)(f:pv y=true):BF x u=KW y x:=by
 cases y with
 |bQ=>cases r;rfl
 |bl b=>cases r;rfl
 |int i=>let#[t,rfl]:=r;rfl
 |str z=>let#[t,rfl]:=r;rfl
 |_=>erw[absurd (show false=true from f) aV]
theorem qD:∀{xs:List V}{us:List Value},Vals xs us->xs.all pv=true->us.any (BF x)=xs.any λy=>KW y x
 |_,_,.nil,_=>rfl
 |y::xs,u::us,.cons r t,f=>by
  rw[bK,ao] at f;rw[cV,cV,GN r f.1,qD t f.2]
theorem nY(rx:RelV x v)(fx:pv x=true):∀{xs:List V}{us:List Value},Vals xs us->xs.all pv=true->∀u∈us,vO A s u v (BF x u)
 |_,_,.nil,_=>λu hu=>by cases hu
 |y::xs,u::us,.cons r t,f=>λu' hu=>by
  rw[bK,ao] at f;rcases aP.mp hu with rfl|hu
  .rw[GN r f.1];erw[OK r rx f.1 fx]
  .erw[nY rx fx t f.2 u' hu]
noncomputable def Wb(x:V)(xs:List V):Bool:=xs.any λy=>KW y x
noncomputable def Y5(K:aG)(neg:Bool):R2:=λx y H Q=>∃p xs,y=.ref p/\(hU K H p xs\/lQ K H p xs)/\pv x=true/\xs.all pv=true/\Q (.bl (if neg then !Wb x xs else Wb x xs)) H
theorem wM:gH X (bA .In) (Y5 X.K false):=by
 x_go;let#[p,xs,rfl,hq,fx,fs,q]:=h;cases ry;rcases hq with hq|hq
 .let#[its,r,pl,hz]:=I.list hq
  refine SeqAt.in_listAt (BF x) pl.isList (λw hw=>nY rx fx r fs w (by simpa using hw)) #[.bl _,H,I,rfl,?_];rw[show its.toArray.any (BF x)=its.any (BF x) by simp,qD r fs]
  erw[q]
 .let#[its,r,pl,hz]:=I.tuple hq
  refine SeqAt.in_tupleAt (BF x) pl (λw hw=>nY rx fx r fs w (by simpa using hw)) #[.bl _,H,I,rfl,?_];rw[show its.toArray.any (BF x)=its.any (BF x) by simp,qD r fs]
  erw[q]
theorem qE:gH X (bA .NotIn) (Y5 X.K true):=by
 x_go;let#[p,xs,rfl,hq,fx,fs,q]:=h;cases ry;rcases hq with hq|hq
 .let#[its,r,pl,hz]:=I.list hq
  refine D3 (BF x) pl.isList (λw hw=>nY rx fx r fs w (by simpa using hw)) #[.bl _,H,I,rfl,?_];rw[show its.toArray.any (BF x)=its.any (BF x) by simp,qD r fs]
  erw[q]
 .let#[its,r,pl,hz]:=I.tuple hq
  refine SeqAt.notIn_tupleAt (BF x) pl (λw hw=>nY rx fx r fs w (by simpa using hw)) #[.bl _,H,I,rfl,?_];rw[show its.toArray.any (BF x)=its.any (BF x) by simp,qD r fs]
  erw[q]
theorem yb:gH X (bA .NotIn) (λx y H Q=>∃i j,x=.str i/\y=.str j/\Q (.bl (!(!(Builtin.Str.occurrences j i 0 j.length 1).isEmpty))) H):=by
 x_go;let#[i,j,rfl,rfl,q]:=h;let#[t,rfl]:=rx;let#[t',rfl]:=ry;erw[notIn_str #[.bl _,H,I,rfl,q]]
theorem qF:iu X (.type "list") (λxs H Q=>∃p ys,xs=[.ref p]/\(hU X.K H p ys\/lQ X.K H p ys)/\∀l,H l=none->Q (.ref l) (upd H l (.lst ys))):=by
 k_ne;let#[p,ys,rfl,hq,q]:=h;let#[u,rfl,rx]:=vals1 r;cases rx;have fin:∀(its:List Value),Vals ys its->ys.length<=sizeLine->∀(h':Heap)(c':Nat),(∀b o',s.heap.get? b=some o'->h'.get? b=some o') ->
   h'.get? s.heap.objs.size=some {cls:=.type "list",dict:=none,data:=.seq its.toArray c',slots:=#[]}->EP X pZ σ Q (.ref s.heap.objs.size) {s with heap:=h'}:=λits r' hz h' c' kp e=>
  #[.ref s.heap.objs.size,_,I.laid (t':=s.toks) kp (au _) (show dN X.prog X.w _ h' _ (.lst ys) from #[hz,its,c',r',e]),rfl,q _ (I.dq.fresh (au _))]
 rcases hq with hq|hq
 .let#[its,r',pl,hz]:=I.list hq
  have hlen:=r'.length;let#[o,ho,hc,n,hd]:=pl.isList;exact call_list_seq p (.inl rfl) ho hc hd (λh' c' kp e=>fin its r' hz h' c' kp e) (by dsimp[aF]<;>omega)
 .let#[its,r',pl,hz]:=I.tuple hq
  have hlen:=r'.length;let#[o,ho,hc,n,hd]:=pl;exact call_list_seq p (.inr rfl) ho hc hd (λh' c' kp e=>fin its r' hz h' c' kp e) (by dsimp[aF]<;>omega)
theorem vW:iu X (.type "tuple") (λxs H Q=>∃p ys,xs=[.ref p]/\((hU X.K H p ys/\∀l,H l=none->Q (.ref l) (upd H l (.tup ys)))\/(lQ X.K H p ys/\Q (.ref p) H))):=by
 k_ne;let#[p,ys,rfl,h]:=h;let#[u,rfl,rx]:=vals1 r;cases rx;rcases h with⟨hq,q⟩|⟨hq,q⟩
 .let#[its,r',pl,hz]:=I.list hq
  have hlen:=r'.length;refine call_tuple_list pl.isList (λh' kp=>?_) (by dsimp[aF]<;>omega);have I1:Inv X pZ σ H {s with heap:=h'}:=I.kept (t':=s.toks) kp;have I2:Inv X pZ σ (upd H h'.objs.size (.tup ys)) {s with heap:=h'.push {cls:=.type "tuple",data:=.seq its.toArray} }:=
   I1.laid (t':=s.toks) (λb o e=>aE _ e) (au _) (show dN X.prog X.w _ _ _ (.tup ys) from #[hz,its,r',F6 _ _])
  exact#[.ref h'.objs.size,_,I2,rfl,q _ (I1.dq.fresh (au _))]
 .let#[its,r',pl,hz]:=I.tuple hq
  erw[call_tuple_same pl #[.ref p,H,I,rfl,q]]
def Wc(K:aG)(T:String)(x:V)(H:Hp):Prop:=match x with
 |.str _=>T="str"
 |.int _=>T="int"
 |.ref p=>(T="list"/\∃xs,hU K H p xs)\/(T="tuple"/\∃o,K.lookup p=some o/\o.cls=.type "tuple"/\o.dict=none) \/
   (T="dict"/\((∃kvs,H p=some (.dK kvs))\/(∃kvs,H p=some (.dT kvs))\/∃kvs,H p=some (.dP kvs)))\/(T="set"/\∃S n,H p=some (.set S n))
 |_=>False
theorem GO(I:Inv X pZ σ H s)(r:RelV x v)(ty:Wc X.K T x H):
  s.TypeIs v T/\∀a,v=.ref a->∃ob,s.heap.get? a=some ob/\ob.dict=none:=by
 cases x with
 |str z=>
  let#[t,rfl]:=r;cases (show T="str" from ty);exact#[typeIs_str s z t,λ_ e=>nomatch e]
 |int i=>
  let#[t,rfl]:=r;cases (show T="int" from ty);exact#[typeIs_int s i t,λ_ e=>nomatch e]
 |ref p=>
  cases r;rcases ty with⟨rfl,xs,hq⟩|⟨rfl,o,hk,hc,hd⟩|⟨rfl,hk⟩|⟨rfl,S,n,hk⟩
  .let#[its,_,pl,_]:=I.list hq
   refine#[pl.isList.typeIs,λa e=>?_];cases e;let#[o,n,e,c,hd,_]:=pl;exact#[o,e,hd]
  .refine#[#[o,I.zc p o hk,hc],λa e=>?_]
   cases e;exact#[o,I.zc _ o hk,hd]
  .have z:∃o,s.heap.get? p=some o/\o.ExactDict:=by
    rcases hk with⟨kvs,hk⟩|⟨kvs,hk⟩|⟨kvs,hk⟩<;>(obtain⟨_,_,_,_,o,_,_,e,ex,_⟩:=I.dq p _ hk;exact#[o,e,ex])
   let#[o,e,ex]:=z;refine#[#[o,e,ex.1],λa e2=>?_];cases e2;exact#[o,e,ex.2.1]
  .let#[o,_,_,_,e,ex,_]:=I.dq p _ hk
   refine#[#[o,e,ex.1],λa e2=>?_];cases e2;exact#[o,e,ex.2.1]
 |_=>erw[aL ty]
def Xm(K:aG)(T:String)(r:V->List V->Hp->VK->Prop)(to:TE):TE:=λσ H Q=>to σ H λx H1=>Wc K T x H1/\r x [] H1 Q
def Y6(K:aG)(T:String)(r:V->List V->Hp->VK->Prop)(to:TE)(t:TA):TE:=λσ H Q=>to σ H λx H1=>Wc K T x H1/\t σ H1 λxs H2=>r x xs H2 Q
variable{o e:Expr}{es:List Expr}{to:TE}{t:TA}{name:Str}{apos cpos:Pos}{T id:String}{r:V->List V->Hp->VK->Prop}
theorem GQ(pa:PlainAttrs T)(slot:Slot T name id)(hty:typeOf (.builtin id)=pure (.type "method_descriptor"))(hm:BD X id r)(ho:PE X o to)
  (hbase:gZ o name X.env (eval o X.env)=eval o X.env:=by rfl) (hline:(apos.endLine==cpos.line)=true:=by rfl):PE X (.Call (.Attribute o name apos) [] [] cpos) (Xm X.K T r to):=by
 k_go;rwa[wpAny_Call_method0_late hbase hline (d6 (ho pZ s σ H _ I h) λv s1 h9=>?_)];let#[x,H1,I1,r1,ty,q1]:=h9;let#[h1,h2]:=GO I1 r1 ty;exact#[T,id,pa,slot,hty,h1,h2,jb rfl (PySem.evalArgs_none (hm pZ s1 σ H1 x [] v [] Q I1 r1 .nil q1))]
theorem wN(pa:PlainAttrs T)(slot:Slot T name id)(hty:typeOf (.builtin id)=pure (.type "method_descriptor"))(hm:BD X id r)(ho:PE X o to)(ha:PA X (e::es) t)
  (hbase:gZ o name X.env (eval o X.env)=eval o X.env:=by rfl)
  (hfew:((ic cpos (bI (e::es) X.env)).all (λx=>!x.1)&&(backToKw cpos (jG [] X.env)).all (λx=>x.1.isSome)
   && decide ((e::es).length+([]:List nJ).length+(if ([]:List nJ).isEmpty then 0 else 1)<30))=true:=by rfl)
  (hline:(apos.endLine==cpos.line)=true:=by rfl) (hs:bI (e::es) X.env=(false,eval e X.env)::bI es X.env:=by rfl) (hplain:(ic cpos (bI es X.env)).any (·.1)=false:=by rfl):
  PE X (.Call (.Attribute o name apos) (e::es) [] cpos) (Y6 X.K T r to t):=by
 k_go;refine wpAny_Call_method_late hbase hfew hline rfl (d6 (ho pZ s σ H _ I h) λv s1 h9=>?_);let#[x,H1,I1,r1,ty,q1]:=h9;let#[h1,h2]:=GO I1 r1 ty;refine#[T,id,pa,slot,hty,h1,h2,?_];have hA:=ha cpos pZ s1 σ H1 _ I1 q1;rw[hs] at hA ⊢;refine jb (by show(false||(ic cpos (bI es X.env)).any (·.1))=false;rw[hplain]<;>rfl) (o9 ?_);refine d6 hA λus s2 h9=>?_
 let#[vs,H2,I2,r2,q2]:=h9;erw[hm pZ s2 σ H2 x vs v us Q I2 r1 r2 q2]
end
def Y7(X:Cx)(id:String)(r:V->List V->Hp->VK->Prop):Prop:=
 ∀(pZ:List (Addr×Obj))(s:aA)(σ:St)(H:Hp)(x:V)(xs:List V)(v:Value)(us:List Value)(Q:VK),Inv X pZ σ H s->RelV x v->Vals xs us->r x xs H Q ->
  wpAny (ba X.prog X.w) X.A (call (.builtin id) (v::us)) (EP X pZ σ Q) X.xe s
theorem Vals.one:∀{x:V}{us:List Value},Vals [x] us->∃u,us=[u]/\RelV x u
 := by
 intro _ _ h;cases h with|cons r q=>cases q;exact#[_,rfl,r]
theorem Vals.two:∀{x y:V}{us:List Value},Vals [x,y] us->∃u v,us=[u,v]/\RelV x u/\RelV y v
 := by
 intro _ _ _ h;cases h with|cons r q=>cases q with|cons q q'=>cases q';exact#[_,_,rfl,r,q]
section
variable{X:Cx}{pZ:List (Addr×Obj)}{σ:St}{H:Hp}{s:aA}{l b:Addr}{xs ys zs:List V}
theorem Inv.SW{its its':List Value}{n:Nat}{f:Array Value->Array Value}{t':Nat}(I:Inv X pZ σ H s)(hH:H l=some (.lst xs))
  (e:s.heap.get? l=some {cls:=.type "list",data:=.seq its.toArray n}) (hf:f its.toArray=its'.toArray) (hv:Vals ys its') (hz:ys.length<=sizeLine):
  Inv X pZ σ (upd H l (.lst ys)) {s with heap:=s.heap.update l (rK f),toks:=t'}:=by
 have q:=PySem.IsL.update e f;rw[hf] at q;rwa[I.write (x:=l) (e:=l) (by rw[hH];erw[trivial]) (.inl rfl) (λb' u hb hu=>(nI s.heap (rK f) (bZ hb)).trans hu) #[_,q] ?_];exact#[hz,its',_,hv,q]
theorem Inv.SX(I:Inv X pZ σ H s)(hv:Vals ys its)(hz:ys.length<=sizeLine):
  Inv X pZ σ (upd H s.heap.objs.size (.lst ys)) {s with heap:=s.heap.push {cls:=.type "list",data:=.seq its.toArray},toks:=t'}:=
 I.laid (λ_ _ q=>aE _ q) (au _) #[hz,its,0,hv,aU _ rfl]
theorem Inv.fresh(I:Inv X pZ σ H s):H s.heap.objs.size=none:=I.dq.fresh (au _)
theorem Inv.EA(I:Inv X pZ σ H s)(hH:H l=some (.lst xs)):xs.length<=sizeLine/\∃(its:List Value)(n:Nat),Vals xs its/\xs.length=its.length/\s.heap.get? l=some {cls:=.type "list",data:=.seq its.toArray n}:=by
 let#[z,its,n,r,e]:=I.dq l _ hH;exact#[z,its,n,r,r.length,e]
theorem GU(h:n<=sizeLine):Builtin.List.listTooLong n=false:=by
 unfold Builtin.List.listTooLong;erw[decide_eq_false ∅]
end
section
variable{X:Cx}
def KY:V->List V->Hp->VK->Prop:=λx vs H Q=>∃l xs y,x=.ref l/\vs=[y]/\H l=some (.lst xs)/\xs.length<sizeLine/\Q .bQ (upd H l (.lst (xs++[y])))
theorem rQ:Y7 X "list.append" KY:=by
 intro pZ s σ H x vs v us Q I rx rv h;let#[l,xs,y,rfl,rfl,hH,hz,q]:=h;cases rx;let#[u,rfl,ru]:=rv.one;let#[z,its,n,r,hl,e]:=I.EA hH;rwa[call_meets F.slot_list_append #[_,e,rfl] F.entry_list_append (F.args_list_append_2 _ _) (PySem.list_append l its.toArray n u (by rw[aF];omega)) #[e,?_]];refine#[.bQ,_,I.SW (its':=its++[u]) hH e (by simp) (r.append (.cons ru .nil)) ?_,rfl,q];rw[aj,f9]
 omega
def KZ:V->List V->Hp->VK->Prop:=λx vs H Q=>∃l b xs zs,x=.ref l/\vs=[.ref b]/\H l=some (.lst xs)/\H b=some (.lst zs)/\xs.length+zs.length<=sizeLine/\Q .bQ (upd H l (.lst (xs++zs)))
theorem wO:Y7 X "list.extend" KZ:=by
 intro pZ s σ H x vs v us Q I rx rv h;let#[l,b,xs,zs,rfl,rfl,hH,hB,hz,q]:=h;cases rx;let#[u,rfl,ru]:=rv.one;cases ru;let#[z,its,n,r,hl,e]:=I.EA hH;let#[z2,its2,n2,r2,hl2,e2]:=I.EA hB;have hsz:its.toArray.size+its2.toArray.size<=sizeLine:=by rw[aF,aF];omega
 have hlong:¬(!its.toArray.isEmpty&&Builtin.List.listTooLong (its.toArray.size+its2.toArray.size))=true:=by
  rw[GU hsz,Bool.and_false]
  erw[aV]
 refine call_meets F.slot_list_extend #[_,e,rfl] F.entry_list_extend (F.args_list_extend_2 _ _)
  (AutoSeq1.list_extend_list_list_0 l its.toArray n b its2.toArray n2 hlong (by rw[aF];omega) ∅) #[e,e2,?_]
 refine#[.bQ,_,I.SW (its':=its++its2) hH e (by simp) (r.append r2) ?_,rfl,q];rw[aj]
 omega
noncomputable def Xo:R2:=λx y H Q=>∃l b xs zs,x=.ref l/\y=.ref b/\H l=some (.lst xs)/\H b=some (.lst zs)/\xs.length+zs.length<=sizeLine/\∀p,H p=none->Q (.ref p) (upd H p (.lst (xs++zs)))
theorem OL:gH X (cC .Add) Xo:=by
 x_go;let#[l,b,xs,zs,rfl,rfl,hH,hB,hz,q]:=h;cases rx;cases ry;let#[z,its,n,r,hl,e]:=I.EA hH;let#[z2,its2,n2,r2,hl2,e2]:=I.EA hB;rwa[PySem.P.add_list e e2 ?_ (by rw[aF,aF];omega)];have ea:its.toArray++its2.toArray=(its++its2).toArray:=by simp
 rw[ea]
 exact#[.ref _,_,I.SX (t':=s.toks) (r.append r2) (by rw[aj];omega),rfl,q _ I.fresh]
end
end L2
namespace Y8
open PySem PySem.W PySem.Calls PyProof.Rows
theorem tD:∀(ns:List Int)(vs:List Value),WellAll P h vs (ns.map WData.int)->Ga vs ns:=by
 intro ns;induction ns with
 |nil=>
  intro vs w;rw[jh] at w;cases w;erw[.nil]
 |cons n ns ih=>
  intro vs w;rw[az] at w;cases w with
  |cons a b=>
   cases a;erw[.cons _ _ (ih _ b)]
theorem EB{l:Gb}{n:Nat}(hn:l.most=some n){P:Params}{h:Heap}{args:List WData}{vals:List Value}
  (hpre:l.row.toRowW.claim.pre args=true) (hwl:WellAll P h vals args):
  ∃a vs ns,vals=[bf a]/\args=[WData.list (ns.map WData.int)]/\h.get? a=some {cls:=.type "list",data:=.seq vs.toArray}/\Ga vs ns/\ns.length<=n:=by
 have hsh:WShape.hasAll [] args [.list .int]=true:=(pre_splitW hpre).1;have hc:l.pre.holds [] {args:=args}= true:=(pre_splitW hpre).2;let#[d,r,rfl,h1,h2]:=hasAllW_cons hsh;obtain rfl:=hasAllW_nil h2;let#[xs,rfl,h3]:=hasW_list h1;let#[ns,rfl]:=items_int h3;have hlen:ns.length<=n:=by
  unfold OpenLaw.pre at hc;have h4:(WTm.not (.lt (.lit (.int (n:Int))) (.len (.arg 0)))).holds [] {args:=[.list (ns.map .int)]}= true:=by
   have h4:=(holds_andW hc).1;rw[hn] at h4;erw[h4]
  have h5:=condW_of h4 (w_not (w_lt w_lit (w_len_list (w_arg rfl))));rw[ag] at h5;rwa[m7 λq=>?_]
  have q':(n:Int)<((ns.length:Nat):Int):=∅
  first
   | (rw[decide_eq_true q'] at h5;erw[absurd h5 ⋯])
   | (simp at h5;omega)
 cases hwl with
 |cons w1 w2=>
  cases w2;cases w1 with
  |list ho hall=>exact#[_,_,ns,rfl,rfl,ho,tD ns _ hall,hlen]
theorem EC(l:Gb)(args:List WData):l.row.toRowW.claim.post args (.bool true) args=true:=
 postW_of (r:=l.row.toRowW) (X:=(true==true))
  (show WShape.has [] (.bool true) .bool=true by first|rfl|decide|simp[WShape.has,WShape.arms,WShape.armsAll])
  (show(WTm.eq .res (.lit (.bool true))).value [] {args:=args,res:=some (.bool true),after:=args}= some (.bool (true==true)) from w_eq_bool (w_res rfl) w_lit) rfl
theorem zL{l:Gb}{n:Nat}{q:bw}{loose:List Str}{XP:(Str->Option Value)->Heap->Prop}{YP:cf->Heap->Prop}{d:DefRec}
  (hn:l.most=some n) (hdf:d.params.defaults=[])
  (call:∀(w:cf)(s₀ s₁:aA)(mg mb:Str->Option Value)(fa:Addr)(o:Obj)(pm cd doc:Value)(a:Addr)(vs:List Value)(ns:List Int),
   Ground q loose [] XP w s₀ mg mb s₁.heap->YP w s₁.heap ->
   s₁.heap.get? fa=some o->o.data=.func (docDef d.name d.params d.body d.scope pm cd doc)->s₁.heap.CodeRec cd d.name->mg d.name=some (.ref fa) ->
   s₁.heap.get? a=some {cls:=.type "list",data:=.seq vs.toArray}->Ga vs ns->ns.length<=n->s₁.gens = #[] ->
   pI (ba l.prog w) vP (.call (.ref fa) #[[.ref a],[]]) (λr s'=>r=.ok (.ret (.bool true))/\OldK s₁.heap s'.heap/\s'.os=s₁.os/\nG s'.gens) s₁):
  WalkO q loose XP YP l.row.toRowW d [] (λf vs=>D6 f vs):=by
 intro w s₀ s₁ mg mb G Y fa o pm cd doc dV kV ho hd hcd hD hmg hg args vals as hpre hlay hrd hwl hlo;obtain rfl:dV=.none:=Dflts.none hD hdf;obtain rfl:kV=.none:=Dflts.noKw hD;let#[a,vs,ns,rfl,rfl,hobj,hints,hlen]:=EB hn hpre hwl;rwa[enter_call (vQ (call w s₀ s₁ mg mb fa o pm cd doc a vs ns G Y ho (fd_plain hd) hcd hmg hobj hints hlen hg) λr s' hq=>?_)];let#[rfl,h2,h3,h4]:=hq;exact#[.inl #[.bool true,.bool true,[],rfl,λ_=>rfl,.bool true,EC l _,λ_=>#[wu,λ_ hm=>(nomatch hm)]],h2,h3,h4]
end Y8
namespace L2
open PySem PySem.Spec PyProof.Rows
theorem wQ:∀{vs:List Value}{ns:List Int},Ga vs ns->Vals (ns.map V.int) vs
 |_,_,.nil=>.nil
 |_,_,.cons n t h=>.cons #[t,rfl] (wQ h)
def K0(H:Hp):Prop:=∀b,H b=none\/∃o xs,H b=some (.rJ o (.lst xs))
theorem GV{P:bw}{w:cf}{K:aG}{mg mb:Str->Option Value}{CX:GJ}{k:Nat}{fa a:Addr}{fd:eQ}{x:Str}{sp:Sp}{s₁:aA}{vs:List Value}{ns:List Int}
  (KX:K.In s₁.heap) (hns:s₁.heap.Ns bz mg) (hb:s₁.heap.Ns A9 mb) (hbb:∀x:Str,x≠"__name__"->mb x=pG x) (hlim:s₁.heap.NoLimit) (hg:s₁.gens = #[])
  (ha:s₁.heap.get? a=some {cls:=.type "list",data:=.seq vs.toArray}) (hi:Ga vs ns) (hl:ns.length<=sizeLine) (hr:jZ k vP)
  (F:∀base:Heap,K.In base->base.Ns bz mg->j0 P w K mg base CX k fa fd [x] sp) (hbind:∀(s:aA)(u:Value),AU s fd #[[u],[]] [(x,u)])
  (hsp:∀H:Hp,K0 H->hU K H a (ns.map V.int)->sp [.ref a] H (λv _=>v=.bl true) λ_ _ _=>False)
  (hCX:∀H e s',CX [] H s₁ (λ_ _ _=>False) e s'->False):
  pI (ba P w) vP (.call (.ref fa) #[[.ref a],[]]) (λr s'=>r=.ok (.ret (.bool true))/\OldK s₁.heap s'.heap/\s'.os=s₁.os/\nG s'.gens) s₁:=by
 have rv:=wQ hi;have lenV:=hi.length;have core:∀H:Hp,K0 H->hU K H a (ns.map V.int)->nh P w H s₁.heap->(∀b,H b≠none->b=a)->(H a≠none->K.lookup a=none) ->
   pI (ba P w) vP (.call (.ref fa) #[[.ref a],[]]) (λr s'=>r=.ok (.ret (.bool true))/\OldK s₁.heap s'.heap/\s'.os=s₁.os/\nG s'.gens) s₁:=by
  intro H hO hS dq hA hK;have fI:∀{b:Addr}{o:Obj},s₁.heap.get? b=some o->H b=none->(xW s₁.heap H).get? b=some o:=λe n=>Gk e n
  have noA:∀{b:Addr}{o:Obj}{es:Array xR}{ep:Nat},s₁.heap.get? b=some o->o.data=.dict es ep->H b=none:=λ{b o es ep}e d=>by
   cases q:H b with
   |none=>rfl
   |some u=>
    have e':b=a:=hA b (by rw[q];simp);subst e';rw[ha] at e;cases e;have d':Data.seq vs.toArray _=Data.dict es ep:=d;cases d'
  have nsK:∀{b:Addr}{m:Str->Option Value},s₁.heap.Ns b m->(xW s₁.heap H).Ns b m:=λ{b m} ⟨o,es,ep,e,d,r⟩=>#[o,es,ep,fI e (noA e d),d,r]
  have hKb:K.In (xW s₁.heap H):=λb o e=>fI (KX b o e) (by
   cases q:H b with
   |none=>rfl
   |some u=>
    have e':b=a:=hA b (by rw[q];simp);subst e';rw[hK (by rw[q];simp)] at e;cases e)
  have hM:Mod K mg (xW s₁.heap H):=#[hKb,nsK hns,#[mb,nsK hb,hbb],let ⟨mc,h1,h2⟩:=hlim;#[mc,nsK h1,h2]]
  have e0:Bz P w K mg (xW s₁.heap H) vP [] s₁ H:=#[rfl,hM,λb o e=>Kq e,Ba (Ek _ _),trivial,λb hb=>absurd (show b∈([]:List Addr) from hb) (by simp),dq,.of_eq hg]
  rwa[vQ ((F _ hKb (nsK hns)).run vP [] s₁ H #[[.ref a],[]] [.ref a] [.ref a] _ _ hr e0 (hbind s₁ (.ref a)) (.cons rfl .nil) (hsp H hO hS)) λr s' h=>?_]
  cases r with
  |error e=>exact(hCX H e s' h).elim
  |ok fl=>
   cases fl with
   |next=>erw[aL h]
   |brk=>erw[aL h]
   |cont=>erw[aL h]
   |ret u=>
    let#[v,H',os,bare,un,hok',r',q]:=h;have q':v=.bl true:=q;subst q';obtain rfl:u=jU true:=r';refine#[rfl,OldK.of_keep λb o e=>?_,os,bare];cases q:H b with
    |none=>erw[un.keep b o e q (by intro z;exact absurd (show b∈([]:List Addr) from z) (by simp)) (by simp)]
    |some u=>
     rcases hO b with z|⟨ob,xs,z⟩
     .rw[q] at z;cases z
     .have z2:=un.xV b ob _ z
      let#[e1,_]:=dq b _ z;let#[e2,_]:=hok' b _ z2;rw[e] at e1;cases e1;erw[e2]
 cases hk:K.lookup a with
 |some o=>
  have e:=KX a o hk;rw[ha] at e;cases e;refine core (λ_=>none) (λ_=>.inl rfl) (.inr #[_,vs.toArray,_,hk,rfl,rfl,rfl,by rw[aF,lenV];erw[hl],by simpa using rv]) (λb u z=>by have z':(none:Option HO)=some u:=z;cases z') (λb z=>absurd rfl z) λz=>absurd rfl z
 |none=>
  rwa[core (λb=>if b=a then some (.rJ {cls:=.type "list",data:=.seq vs.toArray} (.lst (ns.map V.int))) else none) (λb=>?_) (.inl (.inr #[{cls:=.type "list",data:=.seq vs.toArray},if_pos rfl])) (λb u z=>?_) (λb z=>?_) λ_=>hk]
  .by_cases hb:b=a
   .erw[.inr #[_,_,if_pos hb]]
   .erw[.inl (if_neg hb)]
  .by_cases hb:b=a
   .have z':=(if_pos hb).symm.trans z
    cases z';subst hb;exact#[ha,by rw[ag];erw[hl],vs,_,rv,ha]
   .have z':=(if_neg hb).symm.trans z
    cases z'
  .by_cases hb:b=a
   .erw[hb]
   .erw[absurd (if_neg hb) z]
theorem K1{l:PySem.W.OpenLaw}{n k:Nat}{q:bw}{loose:List Str}{XP:(Str->Option Value)->Heap->Prop}{YP:cf->Heap->Prop}{d:DefRec}{K:Params->aG}{CX:cf->GJ}{sp:cf->Sp}{x:Str}
  (hn:l.most=some n) (hn2:n<=sizeLine) (hdf:d.params.defaults=[]) (hr:jZ k vP)
  (hY:∀(w:cf)(h:Heap),YP w h->(K w.params).In h)
  (F:∀(w:cf)(mg:Str->Option Value)(fa:Addr)(h:Heap),(K w.params).In h->h.Ns bz mg->mg d.name=some (.ref fa) ->
   ∃fd:eQ,(∀(s:aA)(u:Value),AU s fd #[[u],[]] [(x,u)]) /\
    ∀base:Heap,(K w.params).In base->base.Ns bz mg->j0 l.prog w (K w.params) mg base (CX w) k fa fd [x] (sp w))
  (hsp:∀(w:cf)(H:Hp)(a:Addr)(ns:List Int),ns.length<=n->K0 H->hU (K w.params) H a (ns.map V.int)->sp w [.ref a] H (λv _=>v=.bl true) λ_ _ _=>False)
  (hCX:∀(w:cf)(H:Hp)(s:aA)(e:Value)(s':aA),CX w [] H s (λ_ _ _=>False) e s'->False):
  PySem.W.WalkO q loose XP YP l.row.toRowW d [] (λf vs=>D6 f vs):=by
 rwa[Y8.zL hn hdf λw s₀ s₁ mg mb fa o pm cd doc a vs ns G Y ho hd hcd hmg hobj hints hlen hg=>?_]
 have KX:=hY w _ Y;let#[fd,hb,hF]:=F w mg fa _ KX G.T.g hmg;erw[GV KX G.T.g G.T.b G.T.builtins G.T.nolimit hg hobj hints (aI hlen hn2) hr hF hb (λH hO hS=>hsp w H a ns hlen hO hS) λH e s'=>hCX w H s₁ e s']
noncomputable def inClass(s:Stmt)(j:Nat):Stmt:=match s with
 |.ClassDef _ _ _ body _ _ _ _ _ _ _=>body.getD j (.Pass #[0,0,0,0])
 |_=>.Pass #[0,0,0,0]
noncomputable def lg(s:Stmt):Arguments:=match s with
 |.FunctionDef _ a _ _ _ _ _ _ _ _=>a
 |_=>{posonlyargs:=[],args:=[],vararg:=none,kwonlyargs:=[],kw_defaults:=[],kwarg:=none,defaults:=[]}
noncomputable def fJ(s:Stmt):List Stmt:=match s with
 |.FunctionDef _ _ b _ _ _ _ _ _ _=>b
 |_=>[]
noncomputable def bH(s:Stmt):jB:=match s with
 |.FunctionDef _ _ _ _ _ _ sc _ _ _=>sc
 |_=>{kind:=.function,names:=[],isGenerator:=false,isCoroutine:=false}
structure J1(K:aG)(x qual:Str)(st:Stmt)(f:Addr)(fd:eQ):Prop where
 ex:∃(oc:Value)(od:Option Addr)(kV doc pm:Value)(an:Option Addr)(cdv ct:Value)(osl:Array (Option Value)),
  fd=kb x qual (lg st) (fJ st) (bH st) .none kV doc pm an cdv ct/\K.lookup f=some #[oc,od,.func fd,osl]/\uk K cdv qual=true
 kp:nP K (.ref f)=true
section
variable{P:bw}{w:cf}{K:aG}{mg:Str->Option Value}{base:Heap}
theorem J1.binds{x qual:Str}{st:Stmt}{f:Addr}{fd:eQ}{ps:List Str}(F:J1 K x qual st f fd)
  (h:∀(kV doc pm:Value)(an:Option Addr)(cdv ct:Value)(us:List Value),us.length=ps.length->Kh (kb x qual (lg st) (fJ st) (bH st) .none kV doc pm an cdv ct) #[us,[]]=pure (ps.zip us)):Binds K fd ps []:=by
 let#[oc,od,kV,doc,pm,an,cdv,ct,osl,rfl,lk,hcd]:=F.ex;erw[.all (h kV doc pm an cdv ct)]
theorem GX{x qual:Str}{st:Stmt}{f:Addr}{oc:Value}{od an:Option Addr}{osl:Array (Option Value)}{kV doc pm cdv ct:Value}(l:K.lookup f=some #[oc,od,.func (kb x qual (lg st) (fJ st) (bH st) .none kV doc pm an cdv ct),osl])
  (c:uk K cdv qual=true) (k:nP K (.ref f)=true):J1 K x qual st f (kb x qual (lg st) (fJ st) (bH st) .none kV doc pm an cdv ct):=#[#[oc,od,kV,doc,pm,an,cdv,ct,osl,rfl,l,c],k]
end
section
variable{κ:Type}[DecidableEq κ]
noncomputable def jd(kvs:List (κ×V))(k:κ):Option V:=(kvs.find? λkv=>decide (kv.1=k)).map (·.2)
noncomputable def putK(kvs:List (κ×V))(k:κ)(v:V):List (κ×V):=
 if (kvs.any λkv=>decide (kv.1=k))=true then kvs.map (λkv=>if kv.1=k then(kv.1,v) else kv) else kvs++[(k,v)]
theorem kI{p:κ×V}{r:List (κ×V)}{k:κ}(e:p.1=k):jd (p::r) k=some p.2:=by simp[jd,dQ,e]
theorem kJ{p:κ×V}{r:List (κ×V)}{k:κ}(e:¬p.1=k):jd (p::r) k=jd r k:=by simp[jd,dQ,e]
theorem uH(k:κ):∀kvs:List (κ×V),(kvs.any λkv=>decide (kv.1=k))=(jd kvs k).isSome
 |[]=>rfl
 |p::r=>by
  rw[cV]
  by_cases e:p.1=k
  .dsimp[kI e,decide_eq_true e,Bool.true_or,p9]
  .rw[kJ e,decide_eq_false e,Bool.false_or];erw[uH k r]
theorem nZ(kvs:List (κ×V))(k:κ)(v:V):(putK kvs k v).length<=kvs.length+1:=by
 unfold putK;split
 .rw[ag];omega
 .rw[aj,aT,dR];omega
theorem zM{kvs:List (κ×V)}{k:κ}(v:V)(h:jd kvs k=none):putK kvs k v=kvs++[(k,v)]:=by
 unfold putK;rw[uH,h]
 erw[if_neg ⋯]
theorem mq.rR(r:mq o u):o.isSome=u.isSome:=by
 cases o with
 |none=>cases u with
  |none=>rfl
  |some _=>exact(show False from r).elim
 |some _=>cases u with
  |none=>exact(show False from r).elim
  |some _=>rfl
theorem mq.getD(r:mq o u)(rd:RelV d d'):RelV (o.getD d) (u.getD d'):=by
 cases o with
 |none=>cases u with
  |none=>erw[rd]
  |some _=>exact(show False from r).elim
 |some _=>cases u with
  |none=>exact(show False from r).elim
  |some _=>erw[r]
theorem KV.val{kvs:List (κ×V)}{vs:List (κ×Value)}(r:KV kvs vs)(k:κ):mq (jd kvs k) (kX vs k):=by
 unfold KV at r;induction r with
 |nil=>erw[eF]
 |@cons p q ps qs h t ih=>
  let#[h1,h2]:=h;by_cases e:p.1=k
  .have e':q.1=k:=h1.symm.trans e
   have b:kX (q::qs) k=some q.2:=by simp[kX,dQ,e']
   rw[kI e,b];erw[h2]
  .have e':¬q.1=k:=λz=>e (h1.trans z)
   have b:kX (q::qs) k=kX qs k:=by simp[kX,dQ,e']
   rw[kJ e,b];erw[ih]
theorem KV.any(r:KV kvs vs)(k:κ):(kvs.any λkv=>decide (kv.1=k))=vs.any λkv=>decide (kv.1=k):=by
 unfold KV at r;induction r with
 |nil=>rfl
 |cons h t ih=>rw[cV,cV,ih,h.1]
theorem KV.OM(r:KV kvs vs)(k:κ)(ry:RelV y u):
  KV (kvs.map λkv=>if kv.1=k then(kv.1,y) else kv) (vs.map λkv=>if kv.1=k then(kv.1,u) else kv):=by
 unfold KV at r ⊢;induction r with
 |nil=>erw[.nil]
 |@cons p q ps qs h t ih=>
  rw[az,az]
  rwa[.cons ?_ ih];let#[h1,h2]:=h;by_cases e:p.1=k
  .rw[if_pos e,if_pos (h1.symm.trans e)];exact#[h1,ry]
  .rw[if_neg e,if_neg (λz=>e (h1.trans z))];exact#[h1,h2]
theorem KV.put(r:KV kvs vs)(k:κ)(ry:RelV y u):KV (putK kvs k y) (um vs k u):=by
 unfold putK um;rw[r.any k]
 by_cases e:(vs.any λkv=>decide (kv.1=k))=true
 .rw[if_pos e,if_pos e];erw[r.OM k ry]
 .rw[if_neg e,if_neg e];erw[Paired.snoc r #[rfl,ry]]
theorem KV.keys{kvs:List (κ×V)}{vs:List (κ×Value)}(r:KV kvs vs):kvs.map (·.1)=vs.map (·.1):=by
 unfold KV at r;induction r with
 |nil=>rfl
 |cons h t ih=>rw[az,az,ih,h.1]
theorem KV.length(r:KV kvs vs):kvs.length=vs.length:=Paired.length r
end
theorem qG(r:RelV (kV k) u):(cU P w).is k u=true:=by
 rcases k with i|_|x
 .let#[t,e]:=(show ∃t,u=kU i t from r);subst e;erw[zA P w i t]
 .cases (show u=cb from r);rfl
 .let#[t,e]:=(show ∃t,u=kW x t from r);subst e;erw[zB P w x t]
theorem ON(e:kV a=kV b):a=b:=by
 rcases a with i|_|x<;>rcases b with j|_|y<;>cases e<;>rfl
theorem wR:∀{ks:List Key}{us:List Value},Vals (ks.map kV) us->ItemsAre (cU P w) ks us
 |[],_,r=>by rw[jh] at r;cases r;erw[.nil]
 |k::ks,_,r=>by
  rw[az] at r;cases r with
  |cons h t=>erw[.cons (qG h) (wR t)]
abbrev KT(H:Hp):List (List Key×V)->List (List Key×Addr×Value)->Prop:=Paired λp q=>p.1=q.1/\H q.2.1=some (.tup (p.1.map kV))/\RelV p.2 q.2.2
theorem KT.val{H:Hp}{kvs:List (List Key×V)}{xs:List (List Key×Addr×Value)}(r:KT H kvs xs)(k:List Key):mq (jd kvs k) ((qa xs k).map (·.2)):=by
 induction r with
 |nil=>erw[eF]
 |@cons p q ps qs h t ih=>
  let#[h1,_,h2]:=h;by_cases e:p.1=k
  .have e':q.1=k:=h1.symm.trans e
   have b:qa (q::qs) k=some q.2:=by simp[qa,dQ,e']
   rw[kI e,b];erw[h2]
  .have e':¬q.1=k:=λz=>e (h1.trans z)
   have b:qa (q::qs) k=qa qs k:=by simp[qa,dQ,e']
   rw[kJ e,b];erw[ih]
theorem KT.OM(r:KT H kvs xs)(k:List Key)(ry:RelV y u):
  KT H (kvs.map λkv=>if kv.1=k then(kv.1,y) else kv) (xs.map (putAt k u)):=by
 induction r with
 |nil=>erw[.nil]
 |@cons p q ps qs h t ih=>
  rw[az,az]
  rwa[.cons ?_ ih];let#[h1,h2,h3]:=h;unfold putAt;by_cases e:p.1=k
  .rw[if_pos e,if_pos (h1.symm.trans e)];exact#[h1,h2,ry]
  .rw[if_neg e,if_neg (λz=>e (h1.trans z))];exact#[h1,h2,h3]
theorem KT.put(r:KT H kvs xs)(k:List Key)(hb:H b=some (.tup (k.map kV)))(ry:RelV y u):
  KT H (putK kvs k y) (storedH xs k b u):=by
 have e:(kvs.any λkv=>decide (kv.1=k))=(qa xs k).isSome:=by
  rw[uH,(r.val k).rR,D7]
 unfold putK storedH;rw[e]
 by_cases q:(qa xs k).isSome=true
 .rw[if_pos q,if_pos q];erw[r.OM k ry]
 .rw[if_neg q,if_neg q];erw[Paired.snoc r #[rfl,hb,ry]]
theorem KT.keeps(r:KT H kvs xs)(ht:∀b ys,H b=some (.tup ys)->H' b=some (.tup ys)):KT H' kvs xs:=
 Paired.Ej r λ_ _ z=>#[z.1,ht _ _ z.2.1,z.2.2]
section
variable{P:bw}{w:cf}{H:Hp}{h:Heap}{a:Addr}
theorem Nf(ok:nh P w H h)(e:Rd H a u):dN P w H h a u:=e.ok ok
theorem sQ(ok:nh P w H h)(e:Rd H a (.dK kvs)):kvs.length<=sizeLine/\(a==bT)=false/\∃vs,KV kvs vs/\h.DictOf (cU P w) a vs:=
 show dN P w H h a (.dK kvs) from Nf ok e
theorem GY(ok:nh P w H h)(e:H a=some (.dK kvs)):kvs.length<=sizeLine/\(a==bT)=false/\∃vs,KV kvs vs/\h.DictOf (cU P w) a vs:=sQ ok (.inl e)
theorem pN(ok:nh P w H h)(e:H a=some (.tup (ks.map kV))):(l7 (cU P w)).is h ks a:=by
 let#[_,its,r,o,h1,h2,n,h3]:=(show dN P w H h a (.tup (ks.map kV)) from ok a _ e)
 exact#[o,its.toArray,n,h1,h2,h3,by simpa using wR r]
theorem uI(ok:nh P w H h)(e:Rd H a (.dT kvs)):kvs.length<=sizeLine/\(a==bT)=false /\
  ∃xs,KT H kvs xs/\h.DictOfH (l7 (cU P w)) a xs:=by
 let#[z,y,xs,r,o,es,ep,h1,h2,h3,h4,h5]:=(show dN P w H h a (.dT kvs) from Nf ok e)
 refine#[z,y,xs,r,o,es,ep,h1,h2,h3,h4,λx hx=>?_,h5];have all:∀{l:List (List Key×V)}{m:List (List Key×Addr×Value)},KT H l m->∀x∈m,(l7 (cU P w)).is h x.1 x.2.1:=by
  intro l m q;induction q with
  |nil=>intro x hx;erw[nomatch hx]
  |@cons p q ps qs hq t ih=>
   intro x hx;rcases aP.mp hx with e|hx
   .subst e
    erw[pN ok (by rw[<-hq.1];exact hq.2.1)]
   .erw[ih x hx]
 erw[all r x hx]
theorem CY(ok:nh P w H h)(e:H a=some (.dT kvs)):kvs.length<=sizeLine/\(a==bT)=false /\
  ∃xs,KT H kvs xs/\h.DictOfH (l7 (cU P w)) a xs:=uI ok (.inl e)
end
def rS(H:Hp)(a:Addr)(y:V)(r:Option V):Prop:=
 (∃kvs k,Rd H a (.dK kvs)/\y=kV k/\r=jd kvs k)\/∃kvs k b,Rd H a (.dT kvs)/\y=.ref b/\H b=some (.tup (k.map kV))/\r=jd kvs k
def SY(H:Hp)(a:Addr)(y v:V)(H':Hp):Prop:=
 (∃kvs k,H a=some (.dK kvs)/\y=kV k/\kvs.length<sizeLine/\H'=upd H a (.dK (putK kvs k v))) \/
 ∃kvs k b,H a=some (.dT kvs)/\y=.ref b/\H b=some (.tup (k.map kV))/\kvs.length<sizeLine/\H'=upd H a (.dT (putK kvs k v))
theorem rS.k{H:Hp}{a:Addr}{kvs:List (Key×V)}{k:Key}(e:H a=some (.dK kvs)):rS H a (kV k) (jd kvs k):=.inl #[kvs,k,.inl e,rfl,rfl]
section
variable{X:Cx}{pZ:List (Addr×Obj)}{σ:St}{H:Hp}{s:aA}{a:Addr}{y v:V}{u r:Value}{o:Option V}{A:dF}{E:Value->aA->Prop}
theorem Inv.big(I:Inv X pZ σ H s):bT<s.heap.objs.size:=by
 have h:bz<s.heap.objs.size:=(I.mod.glob.keeps I.bk).lt;erw[Bb ⋯ h]
theorem ED(hu:A.units+1<eI)(I:Inv X pZ σ H s)(g:rS H a y (some v))(ry:RelV y u)(h:∀w' s',Inv X pZ σ H s'->RelV v w'->Q w' s'):
  wpAny (ba X.prog X.w) A (nH (.ref a) u) Q E s:=by
 rcases g with⟨kvs,k,e,ey,l⟩|⟨kvs,k,b,e,ey,eb,l⟩
 .subst ey
  let#[z,hd,vs,rel,dd]:=sQ I.dq e;let#[w',hw,rw']:=mq.some_of (v:=v) (o:=kX vs k) (by rw[l];erw[rel.val k]);erw[wpAny_getItem_of (qG ry) dd.mapOf hw (h w' _ (I.tok _) rw')]
 .subst ey
  cases (show u=bf b from ry);let#[z,hd,xs,rel,dd]:=uI I.dq e;let#[w',hw,rw']:=mq.some_of (v:=v) (o:=(qa xs k).map (·.2)) (by rw[l];erw[rel.val k]);let#[p,hp,hp2]:=ar.mp hw;rwa[wpAny_getItem_heap (gu hu) (pN I.dq eb) dd hp ?_];rw[hp2]
  erw[h w' _ (I.tok _) rw']
theorem K2(hu:A.units+1<eI)(I:Inv X pZ σ H s)(g:rS H a y o)(ry:RelV y u)(h:∀s',Inv X pZ σ H s'->Q (.bool (!o.isSome)) s'):
  wpAny (ba X.prog X.w) A (bA .NotIn u (.ref a)) Q E s:=by
 rcases g with⟨kvs,k,e,ey,l⟩|⟨kvs,k,b,e,ey,eb,l⟩
 .subst ey
  let#[z,hd,vs,rel,dd]:=sQ I.dq e;rwa[wpAny_notIn_of (qG ry) hd dd.mapOf ?_];rw[<-(rel.val k).rR,<-l]
  erw[h _ (I.tok _)]
 .subst ey
  cases (show u=bf b from ry);let#[z,hd,xs,rel,dd]:=uI I.dq e;rwa[wpAny_notIn_heap (gu hu) (pN I.dq eb) hd dd ?_];have q:=(rel.val k).rR;rw[D7] at q;rw[<-q,<-l]
  erw[h _ (I.tok _)]
theorem oF(I:Inv X pZ σ H s)(mu:RG (H a))(hs:fS a s.heap h')(he:∃q,h'.get? a=some q)(new:dN X.prog X.w (upd H a ob) h' a ob):
  Inv X pZ σ (upd H a ob) {s with heap:=h',toks:=t'}:=
 I.write (x:=a) (e:=a) mu (.inl rfl) (λb q hb z=>(hs.2 b hb).trans z) he new
theorem yc(z:kvs.length<=sizeLine)(hd:(a==bT)=false)(rel:KV kvs vs)(dd:h'.DictOf (cU P w) a vs):
  dN P w H' h' a (.dK kvs):=#[z,hd,vs,rel,dd]
theorem EE(hu:A.units+1<eI)(I:Inv X pZ σ H s)(g:SY H a y v H')(ry:RelV y u)(rv:RelV v r)(h:∀s',Inv X pZ σ H' s'->Q () s'):
  wpAny (ba X.prog X.w) A (setItem (.ref a) u r) Q E s:=by
 rcases g with⟨kvs,k,e,ey,l,eH⟩|⟨kvs,k,b,e,ey,eb,l,eH⟩
 .subst ey eH
  let#[z,hd,vs,rel,dd]:=GY I.dq e;have hz:vs.length<=sizeLine:=by rw[<-rel.length];erw[z]
  have hl:(putK kvs k v).length<=sizeLine:=by have:=nZ kvs k v;omega
  rwa[wpAny_setItem_pairs (hsz:=hz) (qG ry) dd λh' dd' hs=>h _ ?_]
  have he:∃q,h'.get? a=some q:=let ⟨q,_,_,hq,_⟩:=dd';#[q,hq];erw[oF I (by rw[e];exact eF) hs he (yc hl hd (rel.put k rv) dd')]
 .subst ey eH
  cases (show u=bf b from ry);let#[z,hd,xs,rel,dd]:=CY I.dq e;have hz:xs.length<=sizeLine:=by rw[<-Paired.length rel];erw[z]
  have hl:(putK kvs k v).length<=sizeLine:=by have:=nZ kvs k v;omega
  rwa[wpAny_setItem_heap (hsz:=hz) (gu hu) (pN I.dq eb) dd λh' dd' hs=>h _ ?_]
  let#[q,es,ep,hq,h2,h3,h4,_,h5]:=dd';rwa[oF I (by rw[e];erw[eF]) hs #[q,hq] #[hl,hd,_,(rel.put k eb rv).keeps λc ys ec=>?_,q,es,ep,hq,h2,h3,h4,h5]];rw[bX (R8 ec e (λz=>nomatch z))]
  erw[ec]
end
section
variable{X:Cx}{pZ:List (Addr×Obj)}{σ:St}{H:Hp}{s:aA}{a:Addr}{kvs:List (Key×V)}{k:Key}{u:Value}{A:dF}{E:Value->aA->Prop}
theorem S9(I:Inv X pZ σ H s)(e:Rd H a (.dK kvs))(h:∀t s',Inv X pZ σ H s'->Q (.int kvs.length t) s'):wpAny (ba X.prog X.w) A (call (.builtin "len") [.ref a]) Q E s:=by
 let#[z,hd,vs,rel,dd]:=sQ I.dq e;refine call_len_dict hd dd (by rw[<-rel.length];rw[jC] at z;omega) ?_;rw[<-rel.length]
 erw[h _ _ (I.tok _)]
end
def Ta(i:Expr):Prop:=∀ov iv,yY i false ov iv=operate [ov,iv] (nH ov iv)
theorem K3{prog:bw}{w:cf}{A:dF}{E:Value->aA->Prop}{s:aA}{env:Env}{value slice:Expr}{pos:Pos}{T id:String}{Q:Value->aA->Prop}
  (hl:typeLookup (.type T) "__getitem__"=pure (some (.builtin id))) (hs:Ta slice)
  (h:wpAny (ba prog w) A (eval value env) (λo s₁=>wpAny (ba prog w) A (eval slice env) (λi s₂=>s₂.TypeIs o T/\wpAny (ba prog w) A (nH o i) Q E s₂) E s₁) E s):
  wpAny (ba prog w) A (eval (.Subscript value slice pos) env) Q E s:=by
 rwa[Subscript_ (bU h (λo s₁ h₁=>bU h₁ (λi s₂ h₂=>?_) λ_ _ x=>x) λ_ _ x=>x)];let#[hT,h₂]:=h₂;unfold D1;rwa[ae ?_];rw[getitemInPython_of_ne hT.not_modules]
 refine ae (zk hT hl ?_);have fin:wpAny (ba prog w) A (yY slice false o i) (λr s₃=>wpAny (ba prog w) A (letTemporaryGo value o r>>=λ_=>pure r) Q E s₃) E s₂:=by
  rw[hs o i]
  erw[wpAny_operating (bU h₂ (λr s₃ h₃=>ae (wpAny_letTemporaryGo (aw h₃))) λ_ _ x=>x)]
 first
  |exact aw (ae fin)
  |exact ae (aw (ae fin))
  |exact ae fin
theorem zN(I:Inv X pZ σ H s)(g:rS H a y o):s.TypeIs (.ref a) "dict":=by
 rcases g with⟨kvs,k,e,_,_⟩|⟨kvs,k,b,e,_,_,_⟩
 .let#[_,_,vs,_,dd]:=sQ I.dq e
  erw[dd.typeIs]
 .let#[_,_,xs,_,dd]:=uI I.dq e
  erw[dd.typeIs]
def Tc(td ty:TE):TE:=λσ H Q=>td σ H λx H1=>ty σ H1 λy H2=>∃a v,x=.ref a/\rS H2 a y (some v)/\Q v H2
def Td(td ty tv:TE):TS:=λD σ H=>tv σ H λv H1=>td σ H1 λx H2=>ty σ H2 λy H3=>∃a H4,x=.ref a/\SY H3 a y v H4/\D.nx σ H4
section
variable{X:Cx}{o i e value:Expr}{pos pos' tpos:Pos}{td ty tv:TE}
theorem K4(hu:X.A.units+1<eI)(ho:PE X o td)(hi:PE X i ty)(hs:Ta i):PE X (.Subscript o i pos) (Tc td ty):=by
 k_go;rwa[K3 PySem.F.slot_dict_getitem.lookup hs (d6 (ho pZ s σ H _ I h) λu s1 h9=>?_)];let#[x,H1,I1,rx,q1]:=h9;rwa[d6 (hi pZ s1 σ H1 _ I1 q1) λiv s2 h9=>?_]
 let#[y,H2,I2,ry,a,v,ex,g,q2]:=h9;subst ex;obtain rfl:u=bf a:=rx;exact#[zN I2 g,ED hu I2 g ry λw' s3 I3 rw'=>#[v,H2,I3,rw',q2]]
theorem K5(hu:X.A.units+1<eI)(ho:PE X o td)(hi:PE X i ty)(hv:PE X value tv)(hs:fB value (some (.Subscript o i pos')) pos.line X.env=pure false):
  PS X (.Assign [.Subscript o i pos'] value pos) (Td td ty tv):=by
 intro pZ s σ H D I h;rwa[Gd (d6 (hv pZ s σ H _ I h) λr s1 h9=>?_) hs];let#[v,H1,I1,rv,q1]:=h9;rwa[d6 (ho pZ s1 σ H1 _ I1 q1) λu s2 h9=>?_]
 let#[x,H2,I2,rx,q2]:=h9;rwa[d6 (hi pZ s2 σ H2 _ I2 q2) λiv s3 h9=>?_]
 let#[y,H3,I3,ry,a,H4,ex,g,q3]:=h9;subst ex;obtain rfl:u=bf a:=rx;erw[EE hu I3 g ry rv λs4 I4=>#[σ,H4,I4,q3]]
end
theorem zO(h:Heap)(hb:bT<h.objs.size):dN P w H (h.push {cls:=.type "dict",data:=.dict #[]}) h.objs.size (.dK []):=
 #[bP _,beq_eq_false_iff_ne.mpr (bZ (a9 hb)),[],.nil,AV h]
theorem GZ(h:Heap)(hb:bT<h.objs.size):dN P w H (h.push {cls:=.type "dict",data:=.dict #[]}) h.objs.size (.dT []):=
 #[bP _,beq_eq_false_iff_ne.mpr (bZ (a9 hb)),[],.nil,_,#[],0,aU _ rfl,#[rfl,rfl,rfl],rfl,rfl,wx]
def BG:List (TE×TE)->St->Hp->(List (V×V)->Hp->Prop)->Prop
 |[],_,H,Q=>Q [] H
 | (tk,tv)::r,σ,H,Q=>tk σ H λx H1=>tv σ H1 λy H2=>BG r σ H2 λps H3=>Q ((x,y)::ps) H3
abbrev VV:List (V×V)->List (Value×Value)->Prop:=Paired λp q=>RelV p.1 q.1/\RelV p.2 q.2
def Wd(X:Cx)(pos:Pos)(keys:List (Option Expr))(values:List Expr)(trs:List (TE×TE)):Prop:=
 ∀(pZ:List (Addr×Obj))(s:aA)(σ:St)(H:Hp)(Q:List (V×V)->Hp->Prop),Inv X pZ σ H s->BG trs σ H Q ->
  wpAny (ba X.prog X.w) X.A (evalPairs (pairTrees keys values X.env pos)) (λvs s'=>∃ps H',Inv X pZ σ H' s'/\VV ps vs/\Q ps H') X.xe s
theorem K6:Wd X pos [] [] []:=λpZ s σ H Q I h=>pairTrees_nil_walk #[[],H,I,.nil,h]
theorem G6(hk:PE X k tk)(hv:PE X v tv)(hr:Wd X pos ks vs trs):
  Wd X pos (some k::ks) (v::vs) ((tk,tv)::trs):=λpZ s σ H Q I h=>
 pairTrees_cons_walk (d6 (hk pZ s σ H _ I h) λu s1 #[x,H1,I1,rx,q1]=>d6 (hv pZ s1 σ H1 _ I1 q1) λw2 s2 #[y,H2,I2,ry,q2]=>
  d6 (hr pZ s2 σ H2 _ I2 q2) λws s3 #[ps,H3,I3,rel,q3]=>#[(x,y)::ps,H3,I3,.cons #[rx,ry] rel,q3])
noncomputable def uJ(kvs more:List (Key×V)):List (Key×V):=more.foldl (λacc kv=>putK acc kv.1 kv.2) kvs
theorem KV.merge:∀{more:List (Key×V)}{rs:List (Key×Value)}{kvs:List (Key×V)}{vs:List (Key×Value)},KV more rs->KV kvs vs->KV (uJ kvs more) (merged vs rs):=by
 intro more rs kvs vs r;unfold KV at r;induction r generalizing kvs vs with
 |nil=>intro q;erw[q]
 |@cons p q ps qs h t ih=>
  intro r0;have e:KV (putK kvs p.1 p.2) (um vs q.1 q.2):=by
   have:=r0.put p.1 h.2;rw[<-h.1];erw[this]
  erw[ih e]
theorem pA:∀(more kvs:List (Key×V)),(uJ kvs more).length<=kvs.length+more.length
 |[],kvs=>by show kvs.length<=kvs.length+0;omega
 |p::r,kvs=>by
  have h1:=pA r (putK kvs p.1 p.2);have h2:=nZ kvs p.1 p.2;show(uJ (putK kvs p.1 p.2) r).length<=_;rw[aT];omega
theorem uK:∀{kvs:List (Key×V)}{ws:List (Value×Value)},VV (kvs.map λkv=>(kV kv.1,kv.2)) ws->∃rs,Carries (cU P w) ws rs/\KV kvs rs
 |[],_,r=>by rw[jh] at r;cases r;exact#[[],eF,.nil]
 |p::kvs,_,r=>by
  rw[az] at r;cases r with
  |@cons a b as bs h t=>
   let#[rs,c,q]:=uK (P:=P) (w:=w) t;let#[b1,b2]:=b;exact#[(p.1,b2)::rs,#[qG h.1,rfl,c],.cons #[rfl,h.2] q]
def Te(trs:List (TE×TE)):TE:=λσ H Q=>∀p,H p=none->BG trs σ (upd H p (.dK [])) λps H2=>H2 p=some (.dK [])/\∃kvs:List (Key×V),ps=kvs.map (λkv=>(kV kv.1,kv.2))/\kvs.length<=15/\Q (.ref p) (upd H2 p (.dK (uJ [] kvs)))
theorem K7(h:Wd X pos keys values trs)(hall:keys.all (·.isSome)=true)(hl:keys.length=values.length)(h0:keys≠[])
  (h15:keys.length<=15):PE X (.Dict keys values pos) (Te trs):=by
 intro pZ s σ H Q I q;have hn:=I.dq.fresh (au s.heap.objs.size);have I1:=I.laid (a:=s.heap.objs.size) (o:=.dK []) (h':=s.heap.push {cls:=.type "dict",data:=.dict #[]}) (t':=s.toks) (λ_ _ q=>aE _ q) (au _) (zO s.heap I.big);refine wpAny_Dict_walk (knd:=cU X.prog X.w) hall hl h0 h15 (d6 (h pZ _ σ _ _ I1 (q _ hn)) λws s2 h9=>?_);let#[ps,H2,I2,rel,e,kvs,ep,lk,q2]:=h9;subst ep;let#[rs,c,rk]:=uK (P:=X.prog) (w:=X.w) rel;let#[z,hd,vs0,r0,dd]:=GY I2.dq e;cases r0;refine#[rs,c,dd,λh' dd' hs=>#[.ref s.heap.objs.size,_,?_,rfl,q2]];have hz:(uJ [] kvs).length<=sizeLine:=by
  have h1:=pA kvs [];rw[dR] at h1;rw[jC];omega
 have he:∃q,h'.get? s.heap.objs.size=some q:=let ⟨q,_,_,hq,_⟩:=dd';#[q,hq];erw[oF I2 (by rw[e];exact eF) hs he (yc hz hd (rk.merge .nil) dd')]
structure M1(X:Cx)(o:Expr)(m:Str)(apos:Pos)(e:Expr)(cpos:Pos):Prop where
 base:gZ o m X.env (eval o X.env)=eval o X.env
 Xp:((ic cpos (bI [e] X.env)).all (λx=>!x.1)&&(backToKw cpos (jG [] X.env)).all (λx=>x.1.isSome)
  && decide (([e]:List Expr).length+([]:List nJ).length+(if ([]:List nJ).isEmpty then 0 else 1)<30))=true
 line:(apos.endLine==cpos.line)=true
 trees:ic cpos (bI [e] X.env)= [(false,eval e X.env)]
structure M2(X:Cx)(o:Expr)(m:Str)(apos:Pos)(e f:Expr)(cpos:Pos):Prop where
 base:gZ o m X.env (eval o X.env)=eval o X.env
 Xp:((ic cpos (bI [e,f] X.env)).all (λx=>!x.1)&&(backToKw cpos (jG [] X.env)).all (λx=>x.1.isSome)
  && decide (([e,f]:List Expr).length+([]:List nJ).length+(if ([]:List nJ).isEmpty then 0 else 1)<30))=true
 line:(apos.endLine==cpos.line)=true
 trees:ic cpos (bI [e,f] X.env)= [(false,eval e X.env),(false,eval f X.env)]
def Xq(H:Hp)(a:Addr):Prop:=(∃kvs,Rd H a (.dK kvs))\/∃kvs,Rd H a (.dT kvs)
theorem G7(I:Inv X pZ σ H s)(d:Xq H a):
  s.TypeIs (.ref a) "dict"/\(∀b,bf a=.ref b->∃ob,s.heap.get? b=some ob/\ob.dict=none)/\(a==bT)=false:=by
 rcases d with⟨kvs,e⟩|⟨kvs,e⟩
 .let#[_,hd,vs,_,dd]:=sQ I.dq e
  refine#[dd.typeIs,λb q=>?_,hd];cases q;let#[ob,_,_,h1,h2,_]:=dd;exact#[ob,h1,h2.2.1]
 .let#[_,hd,xs,_,dd]:=uI I.dq e
  refine#[dd.typeIs,λb q=>?_,hd];cases q;let#[ob,_,_,h1,h2,_]:=dd;exact#[ob,h1,h2.2.1]
section
variable{X:Cx}{pZ:List (Addr×Obj)}{σ:St}{H:Hp}{s:aA}{a:Addr}{y d:V}{u r:Value}{o:Option V}{A:dF}{E:Value->aA->Prop}
theorem OO(hu:A.units+1<eI)(I:Inv X pZ σ H s)(g:rS H a y o)(ry:RelV y u)(h:∀w' s',Inv X pZ σ H s'->RelV (o.getD .bQ) w'->Q w' s'):
  wpAny (ba X.prog X.w) A (call (.builtin "dict.get") [.ref a,u]) Q E s:=by
 rcases g with⟨kvs,k,e,ey,l⟩|⟨kvs,k,b,e,ey,eb,l⟩
 .subst ey
  let#[z,hd,vs,rel,dd]:=sQ I.dq e;rwa[lT d9 dd.typeIs iY (wy _ _) (meets_dict_get (cU X.prog X.w) a (qG ry) hd) #[_,dd.mapOf,h _ _ (I.tok _) ?_]];rw[l]
  exact(rel.val k).getD rfl
 .subst ey
  cases (show u=bf b from ry);let#[z,hd,xs,rel,dd]:=uI I.dq e;rwa[lT d9 dd.typeIs iY (wy _ _) (meetsH_dict_get (l7 (cU X.prog X.w)) a b hd) #[gu hu,k,xs,pN I.dq eb,dd,h _ _ (I.tok _) ?_]];rw[l]
  exact(rel.val k).getD rfl
theorem OP(hu:A.units+1<eI)(I:Inv X pZ σ H s)(g:rS H a y o)(ry:RelV y u)(rd:RelV d r)(h:∀w' s',Inv X pZ σ H s'->RelV (o.getD d) w'->Q w' s'):
  wpAny (ba X.prog X.w) A (call (.builtin "dict.get") [.ref a,u,r]) Q E s:=by
 rcases g with⟨kvs,k,e,ey,l⟩|⟨kvs,k,b,e,ey,eb,l⟩
 .subst ey
  let#[z,hd,vs,rel,dd]:=sQ I.dq e;rwa[lT d9 dd.typeIs iY (wz _ _ _) (meets_dict_get_default (cU X.prog X.w) a (qG ry) hd r) #[_,dd.mapOf,h _ _ (I.tok _) ?_]];rw[l]
  exact(rel.val k).getD rd
 .subst ey
  cases (show u=bf b from ry);let#[z,hd,xs,rel,dd]:=uI I.dq e;rwa[lT d9 dd.typeIs iY (wz _ _ _) (meetsH_dict_get_default (l7 (cU X.prog X.w)) a b hd r) #[gu hu,k,xs,pN I.dq eb,dd,h _ _ (I.tok _) ?_]];rw[l]
  exact(rel.val k).getD rd
end
def OQ(td ty:TE):TE:=λσ H Q=>td σ H λx H1=>∃a,x=.ref a/\Xq H1 a/\ty σ H1 λy H2=>∃o,rS H2 a y o/\Q (o.getD .bQ) H2
def OR(td ty tx:TE):TE:=λσ H Q=>td σ H λx H1=>∃a,x=.ref a/\Xq H1 a/\ty σ H1 λy H2=>tx σ H2 λz H3=>∃o,rS H3 a y o/\Q (o.getD z) H3
section
variable{X:Cx}{o e f:Expr}{apos cpos:Pos}{td ty tx:TE}
theorem G8(hu:X.A.units+1<eI)(ho:PE X o td)(he:PE X e ty)(m:M1 X o "get" apos e cpos):PE X (.Call (.Attribute o "get" apos) [e] [] cpos) (OQ td ty):=by
 k_go;rwa[wpAny_Call_method m.base m.Xp m.line iO d9 y8 (d6 (ho pZ s σ H _ I h) λu s1 h9=>?_)];let#[x,H1,I1,rx,a,ex,d,q1]:=h9;subst ex;obtain rfl:u=bf a:=rx;let#[t1,t2,_]:=G7 I1 d;refine#[t1,t2,?_];rw[m.trees]
 rwa[jb rfl (o9 (iS (d6 (he pZ s1 σ H1 _ I1 q1) λiv s2 h9=>?_)))];let#[y,H2,I2,ry,ov,g,q2]:=h9;rwa[lP ?_];erw[OO hu I2 g ry λw' s3 I3 rw'=>#[_,H2,I3,rw',q2]]
theorem G9(hu:X.A.units+1<eI)(ho:PE X o td)(he:PE X e ty)(hf:PE X f tx)(m:M2 X o "get" apos e f cpos):PE X (.Call (.Attribute o "get" apos) [e,f] [] cpos) (OR td ty tx):=by
 k_go;rwa[wpAny_Call_method m.base m.Xp m.line iO d9 y8 (d6 (ho pZ s σ H _ I h) λu s1 h9=>?_)];let#[x,H1,I1,rx,a,ex,d,q1]:=h9;subst ex;obtain rfl:u=bf a:=rx;let#[t1,t2,_]:=G7 I1 d;refine#[t1,t2,?_];rw[m.trees]
 refine jb rfl (o9 (iS (d6 (he pZ s1 σ H1 _ I1 q1) λiv s2 #[y,H2,I2,ry,q2]=>
  iS (d6 (hf pZ s2 σ H2 _ I2 q2) λfv s3 #[z,H3,I3,rz,ov,g,q3]=>lP ?_))))
 erw[OP hu I3 g ry rz λw' s4 I4 rw'=>#[_,H3,I4,rw',q3]]
end
section
variable{X:Cx}
theorem EF:iu X (.builtin "len") (λxs H Q=>∃a kvs,xs=[V.ref a]/\H a=some (.dK kvs)/\Q (.int kvs.length) H):=by
 k_ne;let#[a,kvs,rfl,ha,q]:=h;let#[u,rfl,ru]:=vals1 r;cases ru;erw[S9 I (.inl ha) λt s' I'=>#[.int kvs.length,H,I',#[t,rfl],q]]
end
open PySem.W
section
variable{prog:bw}{w:cf}{K:Type}[DecidableEq K]{A:dF}{E:Value->aA->Prop}{s:aA}
theorem BH{knd:KeyKind prog w K}{d:Addr}{kvs:List (K×Value)}{k:K}{key v:Value}{Q:Value->aA->Prop}(hkey:knd.is k key=true)(hm:s.heap.DictOf knd d kvs)(hsz:kvs.length<=sizeLine)
  (h1:∀x t',kX kvs k=some x->Q x {s with toks:=t'})
  (h2:∀h' t',kX kvs k=none->h'.DictOf knd d (um kvs k v)->fS d s.heap h'->Q v {s with heap:=h',toks:=t'}):
  wpAny (ba prog w) A (iK d key v) Q E s:=by
 have mo:s.heap.MapOf knd d (kX kvs):=hm.mapOf;let#[o,es,ep,ho,hc,hd,hk,hp,hn]:=hm;let#[o',es',ep',ho',_,hd',_,hf]:=mo;obtain rfl:o=o':=aJ (ho.symm.trans ho');rw[hd] at hd';injection hd' with e1 _
 subst e1;have hes:es.size<=sizeLine:=by
  have e1:=hp.length;have e2:es.toList.length=es.size:=by simp
  omega
 unfold iK;refine fG (ae (knd.pyHash hkey ?_));refine ae (wpAny_dictFind_of (s:={s with toks:=s.toks+1}) hkey ho hd hk ?_);have hidx:(es.findIdx? λe=>knd.is k e.key)=kvs.findIdx? λkv=>decide (kv.1=k):=by
  rw[<-hp.findIdx k];let#[l]:=es;simp
 have hv:kX kvs k=((es.findIdx? λe=>knd.is k e.key).bind λi=>es[i]?).map (·.val):=by
  rw[<-hf k,findBy_of_findIdx?]
  cases es.findIdx? λe=>knd.is k e.key<;>rfl
 cases hi:es.findIdx? λe=>knd.is k e.key with
 |some i=>
  rw[hi] at hv;refine ae (ie (s:={s with toks:=s.toks+1}) ho hd ?_);have hlt:i<es.size:=(Array.findIdx?_eq_some_iff_findIdx_eq.mp hi).1;have hv:kX kvs k=(es[i]?).map (·.val):=hv;rw[ig hlt] at hv ⊢;erw[ae (pF (aw (h1 _ _ hv)))]
 |none=>
  rw[hi] at hv;have hnot:k∉kvs.map (·.1):=not_mem_of_findIdx_none (hidx▸hi);have hany:¬(kvs.any λkv=>decide (kv.1=k))=true:=by
   rw[tN];rintro⟨kv,hkv,he⟩;erw[hnot (de.mpr #[kv,hkv,of_decide_eq_true he])]
  refine ae (pF (ae (Kj (hz:=hes) (s:={s with toks:=s.toks+1}) ho hd (aw (h2 _ _ hv #[_,_,ep+1,dC _ ho (FK (kc hd _)),
   hc.mapDictKeys _,kc hd _,hk.push hkey _,?_,?_] (eJ ..))))))
  .rw[um,if_neg hany]
   have:=hp.append hkey (knd.hash k) v;let#[l]:=es;simpa using this
  .rw[um,if_neg hany,aH,eV]
   refine#[hn,by simp,λa ha b hb=>?_];dsimp[az,jh,b7] at hb;subst hb;erw[λe=>hnot (e▸ha)]
theorem wU{knd:HeapKind prog w K}{d a:Addr}{xs:List (K×Addr×Value)}{k:K}{v:Value}{Q:Value->aA->Prop}(hu:knd.room A)(hkey:knd.is s.heap k a)(hm:s.heap.DictOfH knd d xs)(hsz:xs.length<=sizeLine)
  (h1:∀x t',(qa xs k).map (·.2)=some x->Q x {s with toks:=t'})
  (h2:∀h' t',qa xs k=none->h'.DictOfH knd d (xs++[(k,a,v)])->fS d s.heap h'->Q v {s with heap:=h',toks:=t'}):
  wpAny (ba prog w) A (iK d (.ref a) v) Q E s:=by
 let#[o,es,ep,ho,hc,hd,he,his,hn]:=hm;unfold iK;rwa[fG (ae (knd.pyHash hu hkey ?_))];refine ae (wpAny_dictFind_heap (s:={s with toks:=s.toks+knd.draws k}) hu hkey ho hd he his hn ?_ ?_)
 .intro hno
  have hnot:k∉xs.map (·.1):=not_mem_keys_of_get hno;refine ae (pF (ae (Kj (hz:=by have e:=zr he;omega) (s:={s with toks:=s.toks+knd.draws k}) ho hd (aw (h2 _ _ (atKey_none_of_get hno) #[_,_,ep+1,dC _ ho (FK (kc hd _)),
   hc.mapDictKeys _,kc hd _,?_,?_,?_] (eJ ..))))))
  .simp[he,A8]
  .intro x hx
   rcases aR.mp hx with hx|hx
   .erw[knd.keeps (his x hx) ho hd (eJ ..)]
   .dsimp[b7] at hx
    subst hx;erw[knd.keeps hkey ho hd (eJ ..)]
  .rw[aH,eV]
   refine#[hn,by simp,λx hx y hy=>?_];dsimp[az,jh,b7] at hy;subst hy;erw[λe=>hnot (e▸hx)]
 .intro j p hj
  refine ae (ie (s:={s with toks:=s.toks+knd.draws k}) ho hd ?_);rw[entry_at he j,hj]
  erw[ae (pF (aw (h1 _ _ (by rw[atKey_of_get hn hj];rfl))))]
theorem rT(hT:s.TypeIs (.ref a) "dict")(hd:(a==bT)=false)(h:wpAny (ba prog w) A.in1 (iK a u r) Q E s):
  wpAny (ba prog w) A (call (.builtin "dict.setdefault") [.ref a,u,r]) Q E s:=by
 refine lT (S:=λA R s=>s.TypeIs (.ref a) "dict"/\wpAny (ba prog w) A.in1 (iK a u r) (λv s'=>R (.ok (.ret v)) s') (λe s'=>R (.error e) s') s)
  tw hT PySem.F.entry_dict_setdefault (PySem.F.args_dict_setdefault_3 _ _ _) (.of_wp λA R s h=>?_) #[hT,h]
 unfold Builtin.«dict.setdefault»;rwa[ae ?_];unfold Builtin.Dict.keyAndDefault;rwa[ae (qo h.1 (aw ?_))];show wpAny _ _ (if (a==bT)=true then _ else(iK a u r>>=_)) _ _ s;rw[if_neg (by rw[hd];erw[aV])]
 erw[ae (bU h.2 (λv s' q=>aw #[v,rfl,q]) λ_ _ q=>q)]
end
section
variable{X:Cx}
abbrev KP(H:Hp):List (rM×V)->List (rM×Addr×Value)->Prop:=Paired λp q=>p.1=q.1/\(∃c,H q.2.1=some (.tup [.int p.1.1,.ref c])/\H c=some (.tup (p.1.2.map .int)))/\RelV p.2 q.2.2
theorem zP:∀{ks:List Int}{us:List Value},Vals (ks.map .int) us->ItemsAre (AR P w) ks us
 |[],_,r=>by rw[jh] at r;cases r;erw[.nil]
 |k::ks,_,r=>by
  rw[az] at r;cases r with
  |cons h t=>
   let#[t',e]:=h;erw[.cons (by rw[e];simp[AR,A6]) (zP t)]
theorem CZ(ok:nh P w H h)(e:H a=some (.tup [.int k.1,.ref c]))(e2:H c=some (.tup (k.2.map .int))):(qr P w).is h k a:=by
 let#[_,its,r,o,h1,h2,n,h3]:=(show dN P w H h a (.tup [.int k.1,.ref c]) from ok a _ e)
 let#[_,jts,r',o',g1,g2,n',g3]:=(show dN P w H h c (.tup (k.2.map .int)) from ok c _ e2)
 cases r with
 |cons r1 r2=>
  let#[t,e]:=r1;cases r2 with
  |cons r3 r4=>
   cases r4;cases (show _=bf c from r3);subst e;exact#[t,c,n,o,h1,h2,h3,o',jts.toArray,n',g1,g2,g3,by simpa using zP r']
theorem Ng(ok:nh P w H h)(e:H a=some (.dP kvs)):kvs.length<=sizeLine/\(a==bT)=false /\
  ∃xs,KP H kvs xs/\h.DictOfH (qr P w) a xs:=by
 let#[z,y,xs,r,o,es,ep,h1,h2,h3,h4,h5]:=(show dN P w H h a (.dP kvs) from ok a _ e)
 refine#[z,y,xs,r,o,es,ep,h1,h2,h3,h4,λx hx=>?_,h5];have all:∀{l:List (rM×V)}{m:List (rM×Addr×Value)},KP H l m->∀x∈m,(qr P w).is h x.1 x.2.1:=by
  intro l m q;induction q with
  |nil=>intro x hx;erw[nomatch hx]
  |@cons p q ps qs hq t ih=>
   intro x hx;rcases aP.mp hx with e|hx
   .subst e
    let#[e1,#[c,e2,e3],_]:=hq;rw[<-e1]
    erw[CZ ok e2 e3]
   .erw[ih x hx]
 erw[all r x hx]
theorem KP.val(r:KP H kvs xs)(k:rM):mq (jd kvs k) ((qa xs k).map (·.2)):=by
 induction r with
 |nil=>erw[eF]
 |@cons p q ps qs hq t ih=>
  by_cases e:p.1=k
  .have e':q.1=k:=hq.1▸e
   rw[kI e]
   dsimp[qa,dQ,e',decide_true];erw[hq.2.2]
  .have e':¬q.1=k:=hq.1▸e
   rw[kJ e]
   simpa[qa,dQ,e'] using ih
def Xr(H:Hp)(a:Addr)(y d r:V)(H':Hp):Prop:=
 (∃kvs k,H a=some (.dK kvs)/\y=kV k/\kvs.length<sizeLine/\((jd kvs k=some r/\H'=H)\/(jd kvs k=none/\r=d/\H'=upd H a (.dK (kvs++[(k,d)]))))) \/
 (∃kvs k b,H a=some (.dT kvs)/\y=.ref b/\H b=some (.tup (k.map kV))/\kvs.length<sizeLine/\((jd kvs k=some r/\H'=H)\/(jd kvs k=none/\r=d/\H'=upd H a (.dT (kvs++[(k,d)]))))) \/
 ∃kvs k b c,H a=some (.dP kvs)/\y=.ref b/\H b=some (.tup [.int k.1,.ref c])/\H c=some (.tup (k.2.map .int))/\kvs.length<sizeLine/\((jd kvs k=some r/\H'=H)\/(jd kvs k=none/\r=d/\H'=upd H a (.dP (kvs++[(k,d)]))))
theorem n6{α β:Type}{F:α->β->Prop}:∀{l:List α}{m:List β}{a:α}{b:β},Paired F l m->F a b->Paired F (l++[a]) (m++[b])
 |_,_,_,_,.nil,f=>.cons f .nil
 |_,_,_,_,.cons r t,f=>.cons r (n6 t f)
theorem K8(hu:X.A.units+2<eI):BD X "dict.setdefault" (λx xs H Q=>∃a y d r H',x=.ref a/\xs=[y,d]/\Xr H a y d r H'/\Q r H'):=by
 intro pZ s σ H x xs v us Q I rx rs h;let#[a,y,d,r,H',rfl,rfl,g,q]:=h;let#[u,ud,rfl,ry,rd]:=rs.two;cases (show v=bf a from rx);rcases g with⟨kvs,k,e,rfl,l,g⟩|⟨kvs,k,b,e,rfl,eb,l,g⟩|⟨kvs,k,b,c,e,rfl,eb,ec,l,g⟩
 .let#[z,hd,vs,rel,dd]:=GY I.dq e
  have rv:=rel.val k;rwa[rT dd.typeIs hd (BH (qG ry) dd (by rw[<-rel.length];erw[z]) (λx t' hx=>?_) λh' t' hn dd' hs=>?_)]
  .rw[hx] at rv
   rcases g with⟨g1,rfl⟩|⟨g1,_⟩
   .rw[g1] at rv;exact#[r,H',I.tok _,rv,q]
   .rw[g1] at rv;erw[rv.elim]
  .rw[hn] at rv
   rcases g with⟨g1,rfl⟩|⟨g1,rfl,rfl⟩
   .rw[g1] at rv;erw[rv.elim]
   .have e2:putK kvs k r=kvs++[(k,r)]:=zM r g1
    have he:∃q,h'.get? a=some q:=let ⟨q,_,_,hq,_⟩:=dd';#[q,hq];exact#[r,_,oF I (by rw[e];erw[eF]) hs he (yc (by simp;omega) hd (e2▸rel.put k rd) dd'),rd,q]
 .cases (show u=bf b from ry)
  let#[z,hd,ws,rel,dd]:=CY I.dq e;have rv:=rel.val k;rwa[rT dd.typeIs hd (wU (gu ∅) (pN I.dq eb) dd (by rw[<-Paired.length rel];erw[z]) (λx t' hx=>?_) λh' t' hn dd' hs=>?_)]
  .rw[hx] at rv
   rcases g with⟨g1,rfl⟩|⟨g1,_⟩
   .rw[g1] at rv;exact#[r,H',I.tok _,rv,q]
   .rw[g1] at rv;erw[rv.elim]
  .rw[hn] at rv
   rcases g with⟨g1,rfl⟩|⟨g1,rfl,rfl⟩
   .rw[g1] at rv;erw[rv.elim]
   .let#[o,es,ep,hq,h2,h3,h4,_,h5]:=dd'
    have nt:∀b ys,H b=some (.tup ys)->b≠a:=λb ys eq z=>by rw[z,e] at eq;cases eq
    refine#[r,upd H a (.dT (kvs++[(k,r)])),oF (ob:=.dT (kvs++[(k,r)])) I (by rw[e];erw[eF]) hs #[o,hq] #[by simp;omega,hd,ws++[(k,b,ud)],n6 (Paired.Ej rel λp q z=>#[z.1,?_,z.2.2]) #[rfl,?_,rd],o,es,ep,hq,h2,h3,h4,h5],rd,q]
    .rw[bX (nt _ _ z.2.1)];erw[z.2.1]
    .rw[bX (nt _ _ eb)];erw[eb]
 .cases (show u=bf b from ry)
  let#[z,hd,ws,rel,dd]:=Ng I.dq e;have rv:=rel.val k;rwa[rT dd.typeIs hd (wU (show X.A.in1.units+1<eI by dsimp[sF];omega) (CZ I.dq eb ec) dd (by rw[<-Paired.length rel];erw[z]) (λx t' hx=>?_) λh' t' hn dd' hs=>?_)]
  .rw[hx] at rv
   rcases g with⟨g1,rfl⟩|⟨g1,_⟩
   .rw[g1] at rv;exact#[r,H',I.tok _,rv,q]
   .rw[g1] at rv;erw[rv.elim]
  .rw[hn] at rv
   rcases g with⟨g1,rfl⟩|⟨g1,rfl,rfl⟩
   .rw[g1] at rv;erw[rv.elim]
   .let#[o,es,ep,hq,h2,h3,h4,_,h5]:=dd'
    have nt:∀b ys,H b=some (.tup ys)->b≠a:=λb ys eq z=>by rw[z,e] at eq;cases eq
    refine#[r,upd H a (.dP (kvs++[(k,r)])),oF (ob:=.dP (kvs++[(k,r)])) I (by rw[e];erw[eF]) hs #[o,hq] #[by simp;omega,hd,ws++[(k,b,ud)],n6 (Paired.Ej rel λp q z=>#[z.1,?_,z.2.2]) #[rfl,#[c,?_,?_],rd],o,es,ep,hq,h2,h3,h4,h5],rd,q]
    .let#[c,e1,e2]:=z.2.1
     exact#[c,by rw[bX (nt _ _ e1)];erw[e1],by rw[bX (nt _ _ e2)];erw[e2]]
    .rw[bX (nt _ _ eb)];erw[eb]
    .rw[bX (nt _ _ ec)];erw[ec]
end
theorem OS(h:(cU P w).is k u=true):RelV (kV k) u:=by
 rcases fE h with⟨i,t,rfl,rfl⟩|⟨x,t,rfl,rfl⟩|⟨rfl,rfl⟩
 .exact#[t,rfl]
 .exact#[t,rfl]
 .rfl
def RI(a:Addr)(o:Obj)(kvs:List (Key×V)):It:=
 #[λi H=>H a=some (.rJ o (.dK kvs))/\i<kvs.length,λi H x H'=>H'=H/\∃k v,kvs[i]?=some (k,v)/\x=kV k,λi H=>H a=some (.rJ o (.dK kvs))/\kvs.length<=i]
theorem BI(ok:nh P w H h)(e:H a=some (.rJ o (.dK kvs)))(hd:o.data=.dict es ep):
  (a==bT)=false/\∃vs,KV kvs vs/\h.DictAt (cU P w) a vs ep:=by
 let#[ho,z,y,vs,rel,o',es',ep',h1,h2,h3,h4]:=(show dN P w H h a (.rJ o (.dK kvs)) from ok a _ e)
 rw[ho] at h1;cases h1;rw[hd] at h3;cases h3;exact#[y,vs,rel,o,es,ho,h2,hd,h4]
theorem EG{P:bw}{w:cf}{K:aG}{tg:Expr}(a it:Addr){o:Obj}{es:Array xR}{ep:Nat}(hd:o.data=.dict es ep)(kvs:List (Key×V)):
  Turn P w K tg (RI a o kvs) [it] it (λi h=>h.IsKeyIter it a i kvs.length ep) where
 mem:=by simp
 obj:=λi h st b hb=>by
  have e:b=it:=by simpa using hb
  subst e;let#[o,e,c,d]:=st;exact#[o,e,λv z=>by rw[d] at z;cases z]
 keep:=λi h h' st k=>by
  let#[o,e,r]:=st;exact#[o,k it (by simp) o e,r]
 item:=by
  w_up;subst hP hw hK;let#[hq,hl]:=hg;let#[_,vs,rel,da]:=BI I.dq hq hd;let#[f0,f1,f2,f3,f4,f5]:=hf it (by simp);have hlen:=rel.length;have hk:=congrArg (λl=>l[i]?) rel.keys;dsimp[aD] at hk;let#[k,v]:=vs[i]'∅;have e1:vs[i]?=some vs[i]:=ab ∅;have e2:kvs[i]?=some kvs[i]:=ab hl;rw[e1,e2] at hk;have hk:kvs[i].1=vs[i].1:=aJ hk;rw[hlen] at st;rwa[wpAny_pyNext_dict_item st da (k:=vs[i].1) (v:=vs[i].2) e1 λkey h' ik st' sb=>?_]
  have I1:Inv X pZ σ H {s with heap:=h'}:=I.turned (t':=s.toks) (λb o hb e=>(sb.2 b hb).trans e) f0 f1 f3 f4 f5;let#[o',e,c,d]:=id st';exact#[key,rfl,wH (s:={s with heap:=h'}) e c d ⋯ #[kV vs[i].1,H,I1,OS ik,#[rfl,vs[i].1,kvs[i].2,by rw[e2,<-hk],rfl],by rw[hlen];erw[st'],λb hb=>(hf b hb).1]]
 done:=by
  w_up;subst hP hw hK;let#[hq,hl]:=hg;let#[_,vs,rel,da]:=BI I.dq hq hd;let#[f0,f1,f2,f3,f4,f5]:=hf it (by simp);have hlen:=rel.length;rw[hlen] at st;erw[wpAny_pyNext_dict_end (I.ok.hd hc) st da (dD ∅) λh' eb=>#[rfl,I.turned (t':=s.toks) (λb o hb e=>eb b o hb e) f0 f1 f3 f4 f5]]
 self:=λ_ _ _ _ _ st h=>wpAny_pyIter_keyiter st h
section
variable{X:Cx}
theorem Inv.freeze(I:Inv X pZ σ H s)(e:H a=some u)(mu:RG (some u))(ho:s.heap.get? a=some o)(k:dN X.prog X.w (upd H a (.rJ o u)) s.heap a u):
  Inv X pZ σ (upd H a (.rJ o u)) s:=
 I.write (x:=a) (e:=a) (h':=s.heap) (t':=s.toks) (by rw[e];erw[mu]) (.inl rfl) (λb u _ q=>q) #[o,ho] #[ho,k]
noncomputable def Tf(tl:TE):TI:=λσ H R=>tl σ H λx H1=>∃a kvs,x=.ref a/\((H1 a=some (.dK kvs)/\∀o,R (RI a o kvs) (upd H1 a (.rJ o (.dK kvs))))\/∃o,H1 a=some (.rJ o (.dK kvs))/\R (RI a o kvs) H1)
theorem K9{tg l:Expr}{tl:TE}(hl:PE X l tl):PI X tg l (Tf tl):=by
 intro pZ s σ H R I h;rwa[d6 (hl pZ s σ H _ I h) λv s1 h9=>?_]
 let#[x,H1,I1,r1,a,kvs,rfl,q]:=h9;cases (show v=bf a from r1);obtain⟨o,H2,I2,e2,q2⟩:∃o H2,Inv X pZ σ H2 s1/\H2 a=some (.rJ o (.dK kvs))/\R (RI a o kvs) H2:=by
  rcases q with⟨e,q⟩|⟨o,e,q⟩
  .have k:=(show dN X.prog X.w H1 s1.heap a (.dK kvs) from I1.dq a _ e)
   let#[_,_,_,_,o,_,_,ho,_]:=id k;exact#[o,_,I1.freeze e eF ho k,bR,q o]
  .exact#[o,H1,I1,e,q]
 obtain⟨es,ep,hd⟩:∃es ep,o.data=.dict es ep:=by
  let#[ho,_,_,_,_,o',es,ep,h1,_,h3,_]:=(show dN X.prog X.w H2 s1.heap a (.rJ o (.dK kvs)) from I2.dq a _ e2)
  rw[ho] at h1;cases h1;exact#[es,ep,h3]
 let#[lo,vs,rel,da]:=BI I2.dq e2 hd;rwa[wpAny_pyIter_dict lo da ?_];refine#[s1.heap.objs.size,[s1.heap.objs.size],_,RI a o kvs,H2,rfl,I2.kept (t':=s1.toks) λb o e=>aE _ e,EG a _ hd kvs,#[_,aU _ rfl,rfl,by rw[rel.length];rfl],λc hc=>?_,q2];have e:c=s1.heap.objs.size:=by simpa using hc
 subst e;erw[I2.zG (au _) (I2.dq.fresh (au _))]
end
def FR(h:Heap)(e:Addr)(c:Value)(dx:Option Addr):Option (Addr×Value)->Prop
 |none=>∃vs sl,h.get? e=some #[c,dx,.fields vs,sl]/\vs[1]?=some .none
 |some (T,fl)=>∃vs sl,h.get? e=some #[c,dx,.fields vs,sl]/\vs[1]?=some (.ref T)/\T≠e/\∃oT ts,h.get? T=some oT/\oT.data=.fields ts/\ts[3]?=some fl
structure jV(fs ch:List Addr)(h h':Heap):Prop where
 keep:∀b o,h.get? b=some o->b∉fs->b∉ch->h'.get? b=some o
 slot:∀b o,h.get? b=some o->b∈fs->b∉ch->∃sl,h'.get? b=some {o with slots:=sl}
 there:∀b o,h.get? b=some o->∃o',h'.get? b=some o'
theorem jV.trans(x:jV fs ch h1 h2)(y:jV fs ch h2 h3):jV fs ch h1 h3:=
 #[λb o e n m=>y.keep b o (x.keep b o e n m) n m,λb o e n m=>by
  let#[s1,q1]:=x.slot b o e n m;let#[s2,q2]:=y.slot b _ q1 n m;exact#[s2,q2],λb o e=>by
  let#[o1,q1]:=x.there b o e;erw[y.there b o1 q1]]
theorem jV.mono(x:jV fs ch h h')(a:∀b∈fs,b∈fs')(c:∀b∈ch,b∈ch'):jV fs' ch' h h':=
 #[λb o e n m=>x.keep b o e (λz=>n (a b z)) λz=>m (c b z),λb o e n m=>by
  by_cases z:b∈fs
  .erw[x.slot b o e z λy=>m (c b y)]
  .exact#[o.slots,x.keep b o e z λy=>m (c b y)],x.there]
theorem iL{h:Heap}{a b:Addr}{f:Obj->Obj}{o:Obj}(e:h.get? b=some o)(n:b≠a):(h.update a f).get? b=some o:=by
 rw[nI h f (bZ n)]
 erw[e]
theorem mw{fs:List Addr}{h:Heap}{a:Addr}{o:Obj}{f:Obj->Obj}(e:h.get? a=some o)(hf:(f o).isFreed=false):jV fs [a] h (h.update a f):=
 #[λb o' q _ m=>iL q λz=>m (by simp[z]),λb o' q _ m=>#[o'.slots,iL q λz=>m (by simp[z])],λb o' q=>by
  by_cases z:b=a
  .subst z;exact#[_,dC f e hf]
  .exact#[o',iL q z]]
theorem BJ(o:Obj):jV fs ch h (h.push o):=
 #[λb _ q _ _=>aE o q,λb o' q _ _=>#[o'.slots,aE o q],λb o' q=>#[o',aE o q]]
section
variable{M:Model}{A:dF}{E:Value->aA->Prop}{s:aA}{base:Heap}{env:Env}{outer:List Env}{L e:Addr}{c:Value}{dx:Option Addr}{Q:Unit->aA->Prop}
theorem Ha{vs:Array Value}{sl:Array (Option Value)}{head:Value}{b:Bool}(hfr:A.frames=some (env::outer))(hl:s.heap.FunFrames base (env::outer))(hf:env.frame=some L)
  (he:s.heap.get? e=some #[c,dx,.fields vs,sl]) (hsz:1<vs.size)
  (q:∀h' T,jV (vT (env::outer)) [e] s.heap h'->s.heap.objs.size<=T->FR h' e c dx (some (T,jq L))->Q () {s with heap:=h'}):
  wpAny M A (do let a <-frameOf env;let pl <-entryPlaceOf L b;let t <-xS head a .none (jq L) .none pl;setField (.ref e) 1 t) Q E s:=by
 have ne:e∉vT (env::outer):=λhm=>by
  let#[_,o,ho,hnf]:=hl.mem hm;rw[he] at ho;cases ho;erw[hnf vs rfl]
 rwa[ae (wpAny_frameOf_fun hfr hl hf λh1 k1=>ae (wpAny_entryPlaceOf λpl hpl=>?_))];unfold xS newFields;rwa[ae (cZ ?_ (hpl.sizeOk5 _ _ _ _ _))];have e1:h1.get? e=some #[c,dx,.fields vs,sl]:=(k1.2.1 e ne).trans he;have kk:jV (vT (env::outer)) [e] s.heap h1:=#[λb o z n _=>(k1.2.1 b n).trans z,λb o z _ _=>k1.2.2 b o z,λb o z=>let ⟨_,z'⟩:=k1.2.2 b o z;#[_,z']]
 generalize htb:({cls:=.type "traceback",dict:=none,data:=.fields ([head,.ref L,.none,jq L,.none]++(if pl.isEmpty then dH 6 cb else pl)).toArray}:Obj)=tb;have e2:(h1.push tb).get? e=some #[c,dx,.fields vs,sl]:=aE tb e1;rwa[mh e2 rfl hsz (q _ h1.objs.size ((kk.trans (BJ tb)).trans (mw e2 rfl)) ?_ ?_)]
 .rw[k1.1]
  erw[au _]
 .have nT:h1.objs.size≠e:=cx (aM e1)
  refine#[_,_,dC _ e2 rfl,by simp[hsz],nT,tb,_,iL (aU h1 (by rw[<-htb];rfl)) nT,by rw[<-htb],?_]
  first| (simp;done)| (rcases hpl with rfl|⟨_,_,_,_,_,_,_,rfl⟩<;>simp)
theorem Nh{tb:Option Addr}(hfr:A.frames=some (env::outer))(hl:s.heap.FunFrames base (env::outer))(hf:env.frame=some L)(x:FR s.heap e c dx (tb.map λT=>(T,cb)))
  (q:∀h' T,jV (vT (env::outer)) (e::tb.toList) s.heap h'->s.heap.objs.size<=T->FR h' e c dx (some (T,jq L))->Q () {s with heap:=h'}):
  wpAny M A (FL (.ref e) env) Q E s:=by
 unfold FL;dsimp[hf];cases tb with
 |none=>
  let#[vs,sl,he,h1]:=x;rwa[ae (jD he rfl h1 ?_)];rw[if_neg ⋯]
  erw[Ha hfr hl hf he (gM.mp h1).1 q]
 |some T=>
  let#[vs,sl,he,h1,nT,oT,ts,hT,hd,h3]:=x;rwa[ae (jD he rfl h1 ?_)];rw[if_pos (show(bf T !=cb)=true by simp)]
  rwa[ae (jD hT hd h3 ?_)];rw[if_neg (show ¬((cb==jq L)=true) by simp[jq])]
  rwa[ae (mh hT hd (gM.mp h3).1 ?_)];have kT:jV (vT (env::outer)) [T] s.heap (s.heap.update T (mi (·.setIfInBounds 3 cb))):=mw hT (pb (iZ hd _));have e2:=iL (f:=mi (·.setIfInBounds 3 cb)) he (bZ nT);rwa[Ha hfr (hl.of_keeps λb o hb hnf=>?_) hf e2 (gM.mp h1).1 λh' T' k n z=>?_]
  .have nb:b≠T:=λz=>by rw[z,hT] at hb;cases hb;erw[hnf ts hd]
   exact#[o,iL hb nb,rfl]
  .rwa[q h' T' ((kT.mono (λ_ y=>y) (by simp)).trans (k.mono (λ_ y=>y) (by simp))) ?_ z]
   rw[Heap.size_after_update] at n;erw[n]
theorem Th(x:FR s.heap e c dx (some (T,fl)))(q:∀h',jV [] [T] s.heap h'->FR h' e c dx (some (T,.none))->Q () {s with heap:=h'}):wpAny M A (setFlight (.ref e) none) Q E s:=by
 let#[vs,sl,he,h1,nT,oT,ts,hT,hd,h3]:=x;have sz:=(gM.mp h3).1;unfold setFlight;rwa[ae (jD he rfl h1 ?_)];rw[if_pos (show(bf T !=cb)=true by simp)]
 have fr:=pb (iZ hd (·.setIfInBounds 3 cb));rwa[mh hT hd sz (q _ (mw hT fr) #[vs,sl,iL he (bZ nT),h1,nT,_,_,dC _ hT fr,iZ hd _,by simp[sz]])]
theorem OT{tb:Option Addr}(hfr:A.frames=some (env::outer))(hl:s.heap.FunFrames base (env::outer))(hf:env.frame=some L)(x:FR s.heap e c dx (tb.map λT=>(T,cb)))
  (q:∀h' T,jV (vT (env::outer)) (e::tb.toList) s.heap h'->s.heap.objs.size<=T->FR h' e c dx (some (T,.none))->Q () {s with heap:=h'}):
  wpAny M A (leaving env (.ref e)) Q E s:=by
 unfold leaving;rwa[ae (Nh hfr hl hf x λh1 T k1 n1 x1=>?_)];refine Th (s:={s with heap:=h1}) x1 λh2 k2 x2=>q h2 T ?_ n1 x2
 refine#[λb o z n m=>?_,λb o z n m=>?_,λb o z=>?_]
 .exact k2.keep b o (k1.keep b o z n m) (by simp) λy=>by
   have y':b=T:=by simpa using y
   rw[y'] at z;erw[absurd (aM z) (i3.mpr n1)]
 .let#[sl,z1]:=k1.slot b o z n m
  refine#[sl,k2.keep b _ z1 (by simp) λy=>?_];have y':b=T:=by simpa using y
  rw[y'] at z;erw[absurd (aM z) (i3.mpr n1)]
 .let#[o1,z1]:=k1.there b o z
  erw[k2.there b o1 z1]
end
noncomputable def tF(P:bw)(w:cf):GJ:=λouter H s E e s'=>∃(a T:Addr)(c:Value)(dx:Option Addr)(H':Hp),e=.ref a/\s'.os=s.os/\nG s'.gens/\Un (vT outer) [] H H' s.heap s'.heap/\nh P w H' s'.heap /\
 FR s'.heap a c dx (some (T,.none))/\(H' a=none/\H' T=none)/\(s.heap.objs.size<=a/\s.heap.objs.size<=T)/\E c dx H'
theorem nh.yd(x:nh P w H h)(k:jV fs ch h h')(hf:∀b∈fs,H b=none)(hc:∀b∈ch,H b=none):nh P w H h':=λa o e=>by
 have nf:∀b u,H b=some u->b∉fs/\b∉ch:=λb u q=>#[λz=>(by rw[hf b z] at q;cases q),λz=>(by rw[hc b z] at q;cases q)]
 refine(x a o e).uv (λb u hb q=>?_) (λ_ q=>q) λ_ _ q=>q
 rcases hb with rfl|hb
 .erw[k.keep b u q (nf b _ e).1 (nf b _ e).2]
 .erw[k.keep b u q (nf b _ hb).1 (nf b _ hb).2]
def C0(X:Cx)(pZ:List (Addr×Obj))(H:Hp)(b:Addr):Prop:=H b=none/\X.s₀.heap.objs.size<=b/\b≠X.env.locals/\(∀x c,X.env.cells.lookup x=some c->c≠b)/\∀p∈X.pn++pZ,p.1≠b
theorem Inv.OU(I:Inv X pZ σ H s)(hb:s.heap.objs.size<=b):C0 X pZ H b:=by
 have no:∀o,¬s.heap.get? b=some o:=λo e=>absurd (aM e) (i3.mpr hb)
 refine#[I.dq.fresh hb,aI I.sz hb,λe=>?_,λx c e z=>?_,λp hp z=>?_]
 .erw[absurd I.lt (i3.mpr (e▸hb))]
 .let#[v,o,ho,_]:=I.cell x c e
  rw[z] at ho;erw[no o ho]
 .have:=(I.pin p hp).1
  rw[z] at this;erw[no _ this]
theorem Inv.yd(I:Inv X pZ σ H s)(k:jV (vT X.stack) ch s.heap h')(hc:∀b∈ch,C0 X pZ H b):Inv X pZ σ H {s with heap:=h'}:=by
 have any:∀b o,b∉ch->s.heap.get? b=some o->∃sl,h'.get? b=some {o with slots:=sl}:=λb o n e=>by
  by_cases z:b∈vT X.stack
  .erw[k.slot b o e z n]
  .exact#[o.slots,k.keep b o e z n]
 refine I.step (g':=s.gens) (t':=s.toks) (d':=s.drawn) (ch:=ch) (λb m=>#[.inr (hc b m).2.1,(hc b m).2.2.1,(hc b m).2.2.2.1,(hc b m).2.2.2.2]) (λb o nl nf nc e _=>k.keep b o e (λz=>?_) nc) (λb o _ _ nc e _=>any b o nc e) (λ_ _ _ _ n=>n)
  (λb o nc e=>let ⟨_,q⟩:=any b o nc e;#[_,q]) (λ_ _ e=>e) (λ_ _ _ e=>e) (λb ps e=>#[#[],by rw[e];simp]) (λm hm=>?_) (I.dq.yd k I.xX λb m=>(hc b m).1) I.bare
 .rcases aP.mp (I.uA b z) with q|q
  .erw[nl q]
  .erw[nf q]
 .let#[o,es,ep,ho,r]:=hm
  let#[sl,q]:=any _ o (λz=>(hc _ z).2.2.1 rfl) ho;exact#[_,es,ep,q,r]
def Ti(X:Cx)(E:XK):Prop:=∀(pZ:List (Addr×Obj))(σ:St)(H:Hp)(s:aA)(a:Addr)(tb:Option Addr)(c:Value)(dx:Option Addr),Inv X pZ σ H s->FR s.heap a c dx (tb.map λT=>(T,cb)) ->
 (∀b∈a::tb.toList,C0 X pZ H b)->E c dx H->X.xe (.ref a) s
theorem tF.inv(I:Inv X pZ σ H s)(h:tF X.prog X.w X.stack H s E e s'):
  ∃a T c dx H',e=.ref a/\Inv X pZ σ H' s'/\FR s'.heap a c dx (some (T,.none))/\(∀b∈[a,T],C0 X pZ H' b)/\E c dx H':=by
 let#[a,T,c,dx,H',rfl,os,bare,un,dq,x,#[ha,hT],#[fa,fT],q]:=h;have I':Inv X pZ σ H' s':=I.Nd (ch:=[]) os un dq bare (λb z=>absurd z (by simp));refine#[a,T,c,dx,H',rfl,I',x,λb m=>?_,q];rcases aP.mp m with e|m
 .subst e;exact#[ha,(I.OU fa).2]
 .have e:b=T:=by simpa using m
  subst e;exact#[hT,(I.OU fT).2]
theorem Hb{P:bw}{w:cf}{K:aG}{mg:Str->Option Value}{base:Heap}{N:List Str}{qual:Str}{scope:jB}{f:Addr}{cd:Value}{A:dF}{outer:List Env}{s:aA}{H:Hp}{E:XK}:
  Ti (zI (tF P w) P w K mg base N qual scope f cd A outer s H E) E:=by
 intro pZ σ H1 s1 a tb c dx I x fr q;show wpAny _ _ (leaving _ (.ref a)) _ _ s1;have hL:(pJ qual scope s.heap.objs.size f cd).frame=some s.heap.objs.size:=rfl;rwa[OT (base:=base) (L:=s.heap.objs.size) I.ok.frames I.stack hL x λh' T' k n x'=>?_]
 have I':=I.yd k fr;have fa:s.heap.objs.size<=a:=(fr a aS).2.1;have sz:s.heap.objs.size<=s1.heap.objs.size:=I.sz;refine#[a,T',c,dx,H1,rfl,I.os,I.bare,?_,I'.dq,x',#[(fr a aS).1,I.dq.fresh n],#[fa,aI sz n],q];erw[I'.base]
theorem J1.okX{P:bw}{w:cf}{K:aG}{mg:Str->Option Value}{base:Heap}{x qual:Str}{st:Stmt}{f:Addr}{fd:eQ}{N ps:List Str}{k:Nat}{sp:Sp}(F:J1 K x qual st f fd)(S:k9 N ps (bH st))(len:∀vs H Q E,sp vs H Q E->vs.length=ps.length)
  (hbody:∀(cdv:Value)(A:dF)(outer:List Env)(s:aA)(H:Hp)(vs:List V)(Q:VK)(E:XK),jZ k (A.deeper (pJ qual (bH st) s.heap.objs.size f cdv))->sp vs H Q E ->
   ∃t,vU (zI (tF P w) P w K mg base N qual (bH st) f cdv A outer s H E) (fJ st) t/\t {nx:=λ_ H'=>Q .bQ H',rt:=Q} (start N vs) H):j0 P w K mg base (tF P w) (k+1) f fd ps sp:=by
 let#[oc,od,kV,doc,pm,an,cdv,ct,osl,rfl,lk,hcd]:=F.ex;erw[SN lk hcd S len λA outer s H vs Q E hr hsp=>hbody cdv A outer s H vs Q E hr hsp]
open Builtin Builtin.ObjectAttr
def XE(X:Cx)(pZ:List (Addr×Obj))(σ:St)(E:XK)(ex:Value)(s':aA):Prop:=
 ∃(a:Addr)(tb:Option Addr)(c:Value)(dx:Option Addr)(H':Hp),ex=.ref a/\Inv X pZ σ H' s'/\FR s'.heap a c dx (tb.map λT=>(T,cb))/\(∀b∈a::tb.toList,C0 X pZ H' b)/\E c dx H'
def Tj(X:Cx)(pZ:List (Addr×Obj))(E:St->XK)(ex:Value)(s':aA):Prop:=∃σ',XE X pZ σ' (E σ') ex s'
def dI(X:Cx)(e:Expr)(t:XK->TE):Prop:=
 ∀(pZ:List (Addr×Obj))(s:aA)(σ:St)(H:Hp)(Q:VK)(E:XK),Inv X pZ σ H s->t E σ H Q->wpAny (ba X.prog X.w) X.A (eval e X.env) (EP X pZ σ Q) (XE X pZ σ E) s
section
variable{X:Cx}{st:Stmt}{rest:List Stmt}{e:Expr}{es:List Expr}{pos p apos:Pos}
section
variable{k:Nat}{f C:Addr}{fd:eQ}{ps:List Str}{sp:Sp}{dvs:List V}{ds:List Value}{x m:Str}{o:Expr}{ta:TE}{t:TA}
theorem tQ(F:j0 X.prog X.w X.K X.mg X.base (tF X.prog X.w) k f fd ps sp)(hr:jZ k X.A)(hb:Binds X.K fd ps ds)(hd:Vals dvs ds)
  (I:Inv X pZ σ H s) (r:Vals vs us) (h:sp (vs++dvs) H Q E):wpAny (ba X.prog X.w) X.A (call (.ref f) us) (EP X pZ σ Q) (XE X pZ σ E) s:=by
 have r2:Vals (vs++dvs) (us++ds):=r.append hd;have hl:(us++ds).length=ps.length:=by rw[<-r2.length];erw[F.len _ _ _ _ h]
 rwa[wpAny_call (vQ (F.run X.A X.stack s H #[us,[]] (us++ds) (vs++dvs) Q E hr I.SM (hb s us I.zc hl) r2 h) λr s' hq=>?_)];cases r with
 |error e=>
  let#[a,T,c,dx,H',e1,I',x,fr,q]:=tF.inv I hq;exact#[a,some T,c,dx,H',e1,I',x,fr,q]
 |ok fl=>
  cases fl with
  |ret u=>erw[I.after hq]
  |next=>erw[aL hq]
  |brk=>erw[aL hq]
  |cont=>erw[aL hq]
end
end
noncomputable def pd(env:Env):List (Str×NameKind)->List (Str×Addr)->List (Str×Addr)
 |[],acc=>acc
 | (n,k)::r,acc=>pd env r (if k=.free then(n,(env.cells.lookup n).getD 0)::acc else acc)
theorem uL(h:∀n,(n,bG)∈scope.names->∃c,env.cells.lookup n=some c):closureFor scope env=pure (pd env scope.names []):=by
 have all:∀(l:List (Str×NameKind))(acc:List (Str×Addr)),(∀n,(n,bG)∈l->∃c,env.cells.lookup n=some c) ->
   (forIn (m:=Sem) l acc λ(x:Str×NameKind)(cs:List (Str×Addr))=>if (x.2==.free)=true then do let c <-cellOf env x.1;pure (eG ((x.1,c)::cs)) else pure (eG cs))=pure (pd env l acc):=by
  intro l;induction l with
  |nil=>intro acc _;rfl
  |cons p r ih=>
   intro acc hl;let#[n,k]:=p;rw[nN]
   have hr:∀m,(m,bG)∈r->∃c,env.cells.lookup m=some c:=λm hm=>hl m (aB _ hm)
   by_cases hk:k=.free
   .subst hk
    let#[c,hc]:=hl n aS;have e:cellOf env n=pure c:=by unfold cellOf;rw[hc]
    show(do let x <-(if (bG==bG)=true then do let c <-cellOf env n;pure (eG ((n,c)::acc)) else pure (eG acc));_)=_
    rw[if_pos ⋯,e]
    show(forIn (m:=Sem) r ((n,c)::acc) _)=_
    rw[ih _ hr]
    show _=pure (pd env r (if bG=bG then(n,(env.cells.lookup n).getD 0)::acc else acc))
    rw[if_pos rfl,hc]
    rfl
   .have hb:(k==bG)=false:=by simpa using hk
    show(do let x <-(if (k==bG)=true then do let c <-cellOf env n;pure (eG ((n,c)::acc)) else pure (eG acc));_)=_
    rw[hb,if_neg ⋯]
    show(forIn (m:=Sem) r acc _)=_
    rw[ih _ hr]
    show _=pure (pd env r (if k=bG then(n,(env.cells.lookup n).getD 0)::acc else acc))
    rw[if_neg hk]
 have:=all scope.names [] h;unfold closureFor;simpa using this
theorem sR:∀(l:List (Str×NameKind))(acc:List (Str×Addr))(y:Str)(c:Addr),(pd env l acc).lookup y=some c->(c=(env.cells.lookup y).getD 0/\(y,bG)∈l)\/acc.lookup y=some c
 |[],acc,y,c,h=>.inr h
 | (n,k)::r,acc,y,c,h=>by
  rcases sR r _ y c h with⟨e,m⟩|q
  .erw[.inl #[e,aB _ m]]
  .by_cases hk:k=.free
   .rw[if_pos hk] at q
    by_cases e:y=n
    .subst e
     subst hk;rw[ox] at q;cases q;erw[.inl #[rfl,aS]]
    .rw[aN,show(y==n)=false by simpa using e] at q
     erw[.inr q]
   .rw[if_neg hk] at q
    erw[.inr q]
theorem zQ:∀(l:List (Str×NameKind))(acc:List (Str×Addr))(y:Str),(∃c,acc.lookup y=some c)->∃c,(pd env l acc).lookup y=some c
 |[],_,_,h=>h
 | (n,k)::r,acc,y,h=>by
  rwa[zQ r _ y ?_];by_cases hk:k=.free
  .rw[if_pos hk]
   by_cases e:y=n
   .subst e;exact#[_,ox]
   .rw[aN,show(y==n)=false by simpa using e];erw[h]
  .rw[if_neg hk];erw[h]
theorem uM:∀(l:List (Str×NameKind))(acc:List (Str×Addr))(y:Str),(y,bG)∈l->∃c,(pd env l acc).lookup y=some c
 | (n,k)::r,acc,y,h=>by
  rcases aP.mp h with e|m
  .have e1:y=n:=congrArg CM e
   have e2:bG=k:=congrArg Prod.snd e;subst e1;rwa[zQ r _ y ?_];rw[if_pos e2.symm]
   exact#[_,ox]
  .erw[uM r _ y m]
theorem pO:∀(l:List (Str×NameKind))(n:Nat)(acc:List (Str×Addr)),iT n l acc=iT n l []++acc
 |[],_,_=>rfl
 | (y,k)::r,n,acc=>by
  unfold iT;split
  .rw[pO r _ ((y,n)::acc),pO r _ [(y,n)]];simp
  .erw[pO r n acc]
theorem ye:∀(l:List (Str×NameKind))(n:Nat)(y:Str)(c:Addr),(y,c)∈iT n l []->(y,fQ)∈l
 | (z,k)::r,n,y,c,h=>by
  unfold iT at h;split at h
  .rename_i hk
   rw[pO] at h;rcases aR.mp h with h|h
   .erw[aB _ (ye r _ y c h)]
   .cases b7.mp h
    rw[beq_iff_eq.mp hk];erw[aS]
  .erw[aB _ (ye r n y c h)]
theorem yf:∀(l:List (Str×NameKind))(n:Nat)(y:Str),(y,fQ)∈l->∃c,(y,c)∈iT n l []
 | (z,k)::r,n,y,h=>by
  unfold iT;rcases aP.mp h with e|h
  .cases e
   rw[if_pos (show(fQ==fQ)=true from rfl),pO]
   exact#[n,bc _ aS]
  .split
   .let#[c,q]:=yf r (n+1) y h
    rw[pO];exact#[c,bS _ q]
   .erw[yf r n y h]
theorem lL{α:Type}:∀{l:List (Str×α)}{y:Str}{c:α},(y,c)∈l->∃c',l.lookup y=some c'
 | (z,d)::r,y,c,h=>by
  rw[aN]
  cases e:y==z with
  |true=>exact#[d,rfl]
  |false=>
   rcases aP.mp h with q|q
   .cases q;simp at e
   .erw[lL q]
noncomputable def rV(scope:jB)(C:Addr):List (Str×Addr):=iT (C+1) scope.names []
noncomputable def Cx.uO(X:Cx)(scope:jB)(C:Addr)(N:List Str)(s₀:aA)(H₀:Hp)(ex:List Addr):Cx:=
 {X with N:=N,s₀:=s₀,H₀:=H₀,env:=compEnvC scope (rV scope C++pd X.env scope.names []) C X.env,outer:=X.stack,stack:=X.stack,ex:=ex,fn:=λy=>scope.names.lookup y==some .cell,pn:=[],xe:=λ_ _=>False}
structure zR(X:Cx)(scope:jB)(x:List Str):Prop where
 kind:scope.kind=.function
 nc:∀y∈scope.names,y.2=.cell->scope.names.lookup y.1=some .cell
 lo:∀y∈scope.names,y.2=.local->scope.names.lookup y.1=some .local
 fr:∀y∈scope.names,y.2=.free->X.env.scope.names.lookup y.1=some .cell
 nm:∀y∈x,scope.names.lookup y=some .local\/scope.names.lookup y=some .cell
 nd:x.Nodup
 lk:∀y,scope.names.lookup y=some .free->(y,bG)∈scope.names
theorem gx{env : Env} : ∀(names : List (Str×NameKind))(x : Str)(k : NameKind),
    (names.map λ(n, k) => if (k==bG&&env.scope.kind==.function&&env.kindOf n==some .cell) then (n, fQ) else (n, k)).lookup x=some k -> names.lookup x=some k \/ (k=.cell /\ names.lookup x=some .free)
  |[], _, _, h => by cases h
  | (n, k0)::r, x, k, h => by
    rw [az] at h;dsimp only at h;by_cases hc : (k0==bG&&env.scope.kind==.function&&env.kindOf n==some .cell)=true
    · rw [if_pos hc] at h
      dsimp[ao, beq_iff_eq] at hc;by_cases e : (x==n)=true
      · rw [aN, e] at h
        cases h;rwa[.inr #[rfl, ?_]];rw [aN, e, hc.1.1]
      · have e' : (x==n)=false := by simpa using e
        rw [aN, e'] at h;rw [aN, e'];erw[gx r x k h]
    · rw [if_neg hc] at h
      by_cases e : (x==n)=true
      · rw [aN, e] at h
        cases h;rwa[.inl ?_];rw [aN, e]
      · have e' : (x==n)=false := by simpa using e
        rw [aN, e'] at h;rw [aN, e'];erw[gx r x k h]
section
variable{X:Cx}{pZ:List (Addr×Obj)}{σ:St}{H:Hp}{s:aA}{scope:jB}{x:List Str}
theorem zR.cells(B:zR X scope x)(ok:X.Ok):∀n,(n,bG)∈scope.names->∃c,X.env.cells.lookup n=some c:=λn hn=>ok.has n (.inl (B.fr _ hn rfl))
theorem zR.cl(B:zR X scope x)(ok:X.Ok)(h:(pd X.env scope.names []).lookup y=some c):X.env.cells.lookup y=some c/\X.env.scope.names.lookup y=some .cell:=by
 rcases sR _ _ _ _ h with⟨e,m⟩|q
 .let#[c',hc']:=B.cells ok y m
  rw[hc'] at e;rw[e]
  exact#[hc',B.fr _ m rfl]
 .cases q
theorem pP(B:zR X scope x)(h:(rV scope C++pd X.env scope.names []).lookup y=some c):
  ((y,c)∈rV scope C/\scope.names.lookup y=some .cell)\/((rV scope C).lookup y=none/\(pd X.env scope.names []).lookup y=some c):=by
 rw[FN] at h;cases q:(rV scope C).lookup y with
 |some d=>rw[q] at h;cases h;have m:=cP q;erw[.inl #[m,B.nc _ (ye _ _ _ _ m) rfl]]
 |none=>rw[q] at h;erw[.inr #[rfl,h]]
theorem zS(B:zR X scope x)(hf:scope.names.lookup y=some .free)(h:(pd X.env scope.names []).lookup y=some c):(rV scope C++pd X.env scope.names []).lookup y=some c:=by
 rw[FN]
 cases q:(rV scope C).lookup y with
 |some d=>have z:=B.nc _ (ye _ _ _ _ (cP q)) rfl;rw[hf] at z;cases z
 |none=>erw[h]
theorem zT{α:Type}{l:List (Str×α)}(h:l.Pairwise λx y=>x.2≠y.2):∀{a b:Str×α},a∈l->b∈l->a.2=b.2->a=b:=by
 induction h with
 |nil=>intro a b h;erw[nomatch h]
 |cons q _ ih=>
  intro a b ha hb e;rcases aP.mp ha with ea|ha'<;>rcases aP.mp hb with eb|hb'
  .rw[ea,eb]
  .subst ea;erw[absurd e (q _ hb')]
  .subst eb;erw[absurd e.symm (q _ ha')]
  .erw[ih ha' hb' e]
theorem Inv.block{C:Addr}{h':Heap}{t':Nat}{ex:List Addr}{N:List Str}{τ:St}(I:Inv X pZ σ H s)(B:zR X scope x)(hC:C=s.heap.objs.size)(hns:h'.Ns C λ_=>none)(oc:CellsOk h' (C+1) (rV scope C))
  (kp:∀b o,s.heap.get? b=some o->h'.get? b=some o) (hex:∀b∈ex,pM X pZ H b/\b<s.heap.objs.size) (hl:τ.length=N.length)
  (hτ:∀(i:Nat)(y:Str)(v:V),N[i]?=some y->τ[i]?=some (some v)->scope.names.lookup y=some .free/\∃j:Nat,X.N[j]?=some y/\σ[j]?=some (some v)):
  Inv (X.uO scope C N s H ex) [] τ H {s with heap:=h',toks:=t'}:=by
 have ok:=I.ok;have cleq:∀y c,(X.uO scope C N s H ex).env.cells.lookup y=some c->((y,c)∈rV scope C/\h'.IsCell c none/\C<c)\/(X.env.cells.lookup y=some c/\X.env.scope.names.lookup y=some .cell):=λy c e=>by
  rcases pP B e with q|q
  .erw[.inl #[q.1,oc.empty y c q.1]]
  .erw[.inr (B.cl ok q.2)]
 have old:∀y c,X.env.cells.lookup y=some c->c<C:=λy c e=>by
  let#[v,q]:=I.cell y c e;rw[hC];erw[q.lt]
 have hfr:H C=none:=by rw[hC];erw[I.dq.fresh (au _)]
 refine#[#[ok.mod,B.kind,ok.glob,ok.blt,Ba hC.symm,λy z c h1 h2=>?_,λy hy=>?_,λy c z e=>?_,ok.hd,ok.frames,.inl rfl,λb hb=>?_,λb o e=>I.bs b o e,aI ok.Gs I.sz,λb o e hb=>?_,λb hb=>?_,I.stack,I.xX],
  rfl,I.bare,Un.kept kp,#[_,hns,λi y v e1 e2 e3=>?_],λy c e=>?_,hfr,λy c e=>?_,λp hp=>absurd (show p∈([]:List (Addr×Obj)) from hp) (by simp),I.dq.kept kp,hl]
 .rcases cleq y c h1 with⟨m1,_,l1⟩|q1<;>rcases cleq z c h2 with⟨m2,_,l2⟩|q2
  .erw[congrArg CM (zT oc.apart m1 m2 rfl)]
  .erw[absurd (old z c q2.1) (i3.mpr (df l1))]
  .erw[absurd (old y c q1.1) (i3.mpr (df l2))]
  .erw[ok.inj y z c q1.1 q2.1]
 .have own:(y,fQ)∈scope.names->∃c,(X.uO scope C N s H ex).env.cells.lookup y=some c:=λm=>by
   let#[c,q]:=yf _ (C+1) _ m;erw[lL (bS _ q)]
  have OU:scope.names.lookup y=some .free->∃c,(X.uO scope C N s H ex).env.cells.lookup y=some c:=λm=>by
   let#[c,q]:=uM (env:=X.env) scope.names [] y (B.lk y m);exact#[c,zS B m q]
  rcases hy with h|h
  .rcases gx (env:=X.env) scope.names y .cell h with q|q
   .erw[own (cP q)]
   .erw[OU q.2]
  .rcases gx (env:=X.env) scope.names y .free h with q|q
   .erw[OU q]
   .erw[absurd q.1 ⋯]
 .rcases cleq y c e with q|q
  .show s.heap.objs.size<=c
   rw[<-hC];erw[df q.2.2]
  .have z:scope.names.lookup y=some .cell:=beq_iff_eq.mp z
   rcases pP B e with w|w
   .erw[absurd (old y c q.1) (i3.mpr (df (oc.empty y c w.1).2))]
   .let#[d,m]:=yf _ (C+1) _ (cP z)
    let#[d',m']:=lL m;rw[show(rV scope C).lookup y=some d' from m'] at w;cases w.1
 .refine#[λz=>?_,λy c e z=>?_]
  .have:=(hex b hb).2
   rw[z,show(X.uO scope C N s H ex).env.locals=C from rfl,hC] at this;erw[absurd this (dk _)]
  .rcases cleq y c e with q|q
   .have:=(hex b hb).2
    rw[<-z,<-hC] at this;erw[absurd this (i3.mpr (df q.2.2))]
   .exact(hex b hb).1.2.2.2.2.1 y c q.1 z
 .let#[f0,f1,f2,f3,f4,f5]:=(hex b hb).1
  rcases f3 with z|z
  .erw[ok.Bp b o e z]
  .erw[absurd (aq (aM (ok.bs b o e).1) z) (dk _)]
 .let#[f0,f1,f2,_]:=(hex b hb).1
  intro z;rcases aP.mp (I.uA b z) with q|q
  .erw[f1 q]
  .erw[f2 q]
 .let#[hf,j,hj,hv]:=hτ i y v e1 e2
  let#[m,_,hlk]:=I.loc;have hcell:=B.fr _ (B.lk y hf) rfl;let#[u,r,l]:=hlk j y v hj hv (.inr (.inl hcell));refine#[u,r,.inr #[?_,?_]]
  .show(Ge scope X.env).names.lookup y=some .cell\/(Ge scope X.env).names.lookup y=some .free
   have:=e3;rcases this with q|q|q
   .rcases gx (env:=X.env) scope.names y .local q with z|z
    .rw[hf] at z;cases z
    .erw[absurd z.1 ⋯]
   .erw[.inl q]
   .erw[.inr q]
  .rcases l with⟨k,_⟩|⟨_,c,hc,z⟩
   .have k':X.env.scope.names.lookup y=some .local:=k
    rw[hcell] at k';cases k'
   .let#[c',hc']:=uM (env:=X.env) scope.names [] y (B.lk y hf)
    have hc2:=(B.cl ok hc').1;rw[hc] at hc2;cases hc2;let#[o,ho,hd]:=z;exact#[c,zS B hf hc',#[o,kp _ _ ho,hd]]
 .rcases cleq y c e with q|q
  .exact#[none,q.2.1]
  .let#[v,o,ho,hd]:=I.cell y c q.1
   exact#[v,o,kp _ _ ho,hd]
 .rcases cleq y c e with q|q
  .erw[I.dq.fresh (by rw[<-hC];exact df q.2.2)]
  .erw[I.mZ y c q.1]
theorem Inv.La(I:Inv X pZ σ H s)(J:Inv (X.uO scope C N s H ex) [] τ H' s')(hex:∀b∈ex,pM X pZ H b):Inv X pZ σ H' s':=
 I.Nd (ch:=ex) J.os J.base J.dq J.bare λb hb=>#[(hex b hb).2.2.2.1,(hex b hb).2.1,(hex b hb).2.2.2.2.1,(hex b hb).2.2.2.2.2]
end
def Lb(X:Cx)(ifs:List Expr)(t:TT):Prop:=
 ∀(pZ:List (Addr×Obj))(s:aA)(σ:St)(H:Hp)(Q:Bool->Hp->Prop),Inv X pZ σ H s->t σ H Q ->
  wpAny (ba X.prog X.w) X.A (forIn ifs true λc r=>if r=true then do let ok <-isTrue c X.env (eval c X.env);pure (eG ok) else pure (eG r)) (TP X pZ σ Q) X.xe s
def Tn:TT:=λ_ H Q=>Q true H
theorem Lc:Lb X [] Tn:=λ_ _ _ H _ I q=>wpAny_tests_nil #[H,I,q]
theorem Ld(h:PT X c t):Lb X [c] t:=λpZ s σ H Q I q=>wpAny_tests_one (h pZ s σ H Q I q)
noncomputable def gy(σ:St)(ci:List Nat):St:=ci.map λj=>(σ[j]?).join
def To(K:Frag)(pr:Bool)(y:V)(H:Hp)(k:St->Prop):Prop:=match pr with
 |false=>k [some y]
 |true=>∃p a b,y=.ref p/\lQ K H p [a,b]/\k [some a,some b]
abbrev Ni(bd:V->Hp->(St->Prop)->Prop)(J:It)(D:Addr)(tc:TT)(te:TE)(caps:St)(R:Hp->Prop)(H1:Hp):Prop:=
 ∃W:Nat->Nat->List V->Hp->Prop,(∃m,W 0 m [] (upd H1 D (.lst [])))/\∀i m acc H2,W i m acc H2->H2 D=some (.lst acc)/\acc.length<sizeLine /\
  ((J.stop i H2/\R H2)\/(J.go i H2/\∀y H3,J.Sr i H2 y H3->bd y H3 λτ=>tc (τ++caps) H3 λb H4=>
   if b=true then te (τ++caps) H4 λz H5=>H5 D=some (.lst acc)/\∃m',m'<m/\W (i+1) m' (acc++[z]) (upd H5 D (.lst (acc++[z]))) else ∃m',m'<m/\W (i+1) m' acc H4))
def Hc(bd:V->Hp->(St->Prop)->Prop)(wi:TI)(ci:List Nat)(tc:TT)(te:TE):TE:=λσ H Q=>wi σ H λJ H1=>∀D,H1 D=none->Ni bd J D tc te (gy σ ci) (λH2=>Q (.ref D) H2) H1
structure yg(X:Cx)(scope:jB)(cn:List Str)(ci:List Nat):Prop where
 len:ci.length=cn.length
 at_:∀(k:Nat)(y:Str),cn[k]?=some y->∃j:Nat,ci[k]?=some j/\X.N[j]?=some y
 fr:∀y∈cn,scope.names.lookup y=some .free
section
variable{X:Cx}{pZ:List (Addr×Obj)}{σ:St}{H:Hp}{s:aA}{scope:jB}{x:List Str}
theorem Le{M:Model}{A:dF}{E:Value->aA->Prop}{s:aA}{scope:jB}{globals:Addr}{cl:List (Str×Addr)}{qual:Str}{env:Env}{Q:Env->aA->Prop}
  (hQ:Q (newEnv scope s.heap.objs.size globals (rV scope s.heap.objs.size++cl) qual none .none (some env) A9) {s with heap:=pushCells (s.heap.push {cls:=.type "dict",data:=.dict #[]}) scope.names}):
  wpAny M A (Bc scope globals cl [] qual none .none (some env)) Q E s:=by
 dsimp[Bc,p9,if_true];refine ae (wpAny_alloc ?_);refine ae (wpAny_layCells _ (λname kind cells=>by cases hkc:kind==fQ<;>simp[hkc]) _ _ _ _ ?_);rw[show({s with heap:=s.heap.push {cls:=.type "dict",data:=.dict #[]} }:aA).heap.objs.size=s.heap.objs.size+1 from gY ..,pO]
 erw[ae (aw (aw hQ))]
theorem rW{cn:List Str}{X:Cx}{scope:jB}{ci:List Nat}(cp:yg X scope cn ci)(B:zR X scope x)(hn:cn.Nodup):(x++cn).Nodup:=
 eV.mpr #[B.nd,hn,λy hy z hz e=>(by
  subst e;have q:=cp.fr y hz;rcases B.nm y hy with z|z<;>(rw[z] at q;cases q))]
def RJ(X:Cx)(tg:Expr)(scope:jB)(x cn:List Str)(bd:V->Hp->(St->Prop)->Prop):Prop:=
 ∀(C:Addr)(s₀:aA)(H₀:Hp)(ex:List Addr)(pZ:List (Addr×Obj))(s:aA)(τ caps:St)(H:Hp)(v:V)(u:Value)(k:St->Prop),Inv (X.uO scope C (x++cn) s₀ H₀ ex) pZ (τ++caps) H s->τ.length=x.length->RelV v u->bd v H k ->
  wpAny (ba X.prog X.w) X.A (xF tg (X.uO scope C (x++cn) s₀ H₀ ex).env u) (λ_ s'=>∃τ',τ'.length=x.length/\Inv (X.uO scope C (x++cn) s₀ H₀ ex) pZ (τ'++caps) H s'/\k τ') (λ_ _=>False) s
theorem my{env : Env}{k : NameKind}(hk : k≠.free) : ∀{names : List (Str×NameKind)}{x : Str}, names.lookup x=some k ->
    (names.map λ(n, k) => if (k==bG&&env.scope.kind==.function&&env.kindOf n==some .cell) then (n, fQ) else (n, k)).lookup x=some k
  | (n, k')::r, x, h => by
    rw [az];dsimp only;rw [aN] at h;cases e : x==n with
    |true =>
      rw [e] at h; cases h;rw [if_neg (by simp [hk]), aN, e]
    |false =>
      rw [e] at h;split <;> (rw [aN, e]; exact my hk h)
theorem zR.loc(B:zR X scope x){C:Addr}{N:List Str}{s₀:aA}{H₀:Hp}{ex:List Addr}{y:Str}(hy:y∈x):
  Loc (X.uO scope C N s₀ H₀ ex).env.scope y/\((X.uO scope C N s₀ H₀ ex).fn y=true\/(X.uO scope C N s₀ H₀ ex).env.scope.names.lookup y=some .local):=by
 rcases B.nm y hy with z|z
 .have q:=my (env:=X.env) (k:=.local) (by intro e;cases e) z
  exact#[.inl q,.inr q]
 .exact#[.inr (my (env:=X.env) (k:=.cell) (by intro e;cases e) z),.inl (beq_iff_eq.mpr z)]
theorem Xs{α:Type}{l:List α}(h:l.length=2):∃a b,l=[a,b]:=by
 cases l with
 |nil=>cases h
 |cons a t=>let#[b,e]:=ji.mp (l9 h);exact#[a,b,by rw[e]]
theorem Hd(B:zR X scope [y])(cp:yg X scope cn ci)(hnd:cn.Nodup):RJ X (.Name y py) scope [y] cn (To X.K false):=by
 intro C s₀ H₀ ex pZ s τ caps H v u k I hl r h;have hx:=B.loc (C:=C) (N:=[y]++cn) (s₀:=s₀) (H₀:=H₀) (ex:=ex) (y:=y) (by simp);let#[o,rfl]:=ji.mp hl;erw[vN (qu I (rW cp B hnd) (i:=0) rfl hx.1 r (λs8 J8=>#[[some v],rfl,J8,h]) hx.2)]
theorem He{y z:Str}{py pz pt:Pos}{n:Nat}{cn:List Str}{ci:List Nat}(B:zR X scope [y,z])(cp:yg X scope cn ci)(hnd:cn.Nodup)(hc:X.calm=true):RJ X (.Tuple [.Name y py,.Name z pz] n pt) scope [y,z] cn (To X.K true):=by
 intro C s₀ H₀ ex pZ s τ caps H v u k I hl r h;have hy:=B.loc (C:=C) (N:=[y,z]++cn) (s₀:=s₀) (H₀:=H₀) (ex:=ex) (y:=y) (by simp);have hz:=B.loc (C:=C) (N:=[y,z]++cn) (s₀:=s₀) (H₀:=H₀) (ex:=ex) (y:=z) (by simp);have nd:=rW cp B hnd;let#[p,a,b,e,hq,q]:=h;let#[o,o',rfl]:=Xs hl;rwa[bU (Gy (X:=X.uO scope C ([y,z]++cn) s₀ H₀ ex) (pos:=pt) (k:=n) hc (qz (qy (i:=0) (pos:=py) nd rfl hy.1 hy.2) (qz (qy (i:=1) (pos:=pz) nd rfl hz.1 hz.2) CP)) rfl rfl pZ s _ H v u (λσ' H'=>H'=H/\σ'=[some a,some b]++caps) I r ?_) (λ_ s' #[σ',H',I',e1,e2]=>?_) λ_ _ z=>z]
 .exact#[p,[a,b],e,hq,rfl,a,[b],rfl,b,[],rfl,rfl,rfl,rfl]
 .subst e1 e2
  exact#[[some a,some b],rfl,I',q]
theorem zU{elt iter tg:Expr}{bd:V->Hp->(St->Prop)->Prop}{pos:Pos}{ifs:List Expr}{it:Addr}{fp:List Addr}{tn:Nat->Heap->Prop}{J:It}{tc:TT}{te:TE}{cn:List Str}{ci:List Nat}{RR:Value->Addr->Result->aA->Prop}{Rq:Addr->Hp->Prop}{E:Value->aA->Prop}
  (I:Inv X pZ σ H s) (B:zR X scope x) (cp:yg X scope cn ci) (hnd:cn.Nodup) (hcalm:X.calm=true) (ht:RJ X tg scope x cn bd) (T:Turn X.prog X.w X.K tg J fp it tn) (t0:tn 0 s.heap) (hf:∀b∈fp,pM X pZ H b)
  (hc:∀C s₀ H₀ ex,Lb (X.uO scope C (x++cn) s₀ H₀ ex) ifs tc) (he:∀C s₀ H₀ ex,PE (X.uO scope C (x++cn) s₀ H₀ ex) elt te)
  (h:∀D,H D=none->Ni bd J D tc te (gy σ ci) (Rq D) H)
  (fin:∀C D H5 s5,Inv X pZ σ H5 s5->Rq D H5->(∃m,s5.heap.Ns C m)->C0 X pZ H5 C->RR (.ref D) C (.ok .next) s5):
  wpAny (ba X.prog X.w) X.A (newList []) (λacc s₃=>wpAny (ba X.prog X.w) X.A (Bc scope X.env.globals (pd X.env scope.names []) [] X.env.qual none .none (some X.env)) (λcenv s₄=>
   pI (ba X.prog X.w) X.A (.compStart (.ListComp elt [#[tg,iter,ifs,0]] scope pos) 0 (.ref it) acc {cenv with scope:=Ge scope X.env}) (RR acc cenv.locals) s₄) E s₃) E s:=by
 have ok:=I.ok;let#[W,#[m0,w0],turn]:=h s.heap.objs.size (I.dq.fresh (au _));generalize hD:s.heap.objs.size=D at turn w0;refine cZ ?_;have I2:Inv X pZ σ (upd H D (.lst [])) {s with heap:=s.heap.push {cls:=.type "list",dict:=none,data:=.seq ([]:List Value).toArray} }:=by
  have:=I.SX (its:=[]) (ys:=[]) (t':=s.toks) .nil (bP _);rw[hD] at this;erw[this]
 generalize hH2:s.heap.push {cls:=.type "list",dict:=none,data:=.seq ([]:List Value).toArray}= h2 at I2 ⊢;have k2:∀b o,s.heap.get? b=some o->h2.get? b=some o:=λb o e=>by rw[<-hH2];erw[aE _ e]
 have sz2:h2.objs.size=s.heap.objs.size+1:=by rw[<-hH2,gY]
 have fpl:∀b∈fp,b<s.heap.objs.size:=λb hb=>by
  let#[o,e,_]:=T.obj _ _ t0 b hb;erw[aM e]
 have nD:∀b∈fp,b≠D:=λb hb=>by rw[<-hD];erw[a9 (fpl b hb)]
 have hf2:∀b∈fp,pM X pZ (upd H D (.lst [])) b:=λb hb=>#[by rw[bX (nD b hb)];exact(hf b hb).1,(hf b hb).2]
 have t2:tn 0 h2:=T.keep _ _ _ t0 λb _ o e=>k2 b o e
 show wpAny _ _ _ _ _ {s with heap:=h2}
 rwa[Le ?_];generalize hH3:pushCells (h2.push {cls:=.type "dict",data:=.dict #[]}) scope.names=h3;have kp3:∀b o,h2.get? b=some o->h3.get? b=some o:=λb o e=>by rw[<-hH3];erw[pushCells_keeps _ _ b o (aE _ e)]
 have ns3:h3.Ns h2.objs.size λ_=>none:=by rw[<-hH3];exact(Heap.Ns.new h2 (.type "dict")).keeps (pushCells_keeps _ _)
 have oc3:CellsOk h3 (h2.objs.size+1) (rV scope h2.objs.size):=by
  have:=cellsFrom_ok scope.names (h2.push {cls:=.type "dict",data:=.dict #[]}) (h2.objs.size+1) [] #[λ_ _ hm=>(nomatch hm),wu] (by rw[gY];erw[au _]);rw[gY,hH3] at this;erw[this]
 have hl:((x.map λ_=>none)++gy σ ci:St).length=(x++cn).length:=by
  rw[aj,aj,ag,gy,ag,cp.len]
 have J3:Inv (X.uO scope h2.objs.size (x++cn) {s with heap:=h2} (upd H D (.lst [])) fp) [] ((x.map λ_=>none)++gy σ ci) (upd H D (.lst [])) {s with heap:=h3,toks:=s.toks+0}:=
  I2.block (s:={s with heap:=h2}) (h':=h3) (t':=s.toks+0) (N:=x++cn) B rfl ns3 oc3 kp3 (λb hb=>#[hf2 b hb,by rw[sz2];exact bb (fpl b hb)]) hl (λi y v e1 e2=>by
   by_cases lt:i<x.length
   .rw[ai (by simpa using lt),aD,ab lt] at e2
    cases e2
   .have e1':cn[i-x.length]?=some y:=by rw[ax ∅] at e1;erw[e1]
    have e2':(gy σ ci)[i-x.length]?=some (some v):=by rw[ax (by simpa using lt),ag] at e2;erw[e2]
    refine#[cp.fr y (ak e1'),?_];let#[j,hj,hy]:=cp.at_ _ y e1';refine#[j,hy,?_];rw[gy,aD,hj] at e2';have e3:(σ[j]?).join=some v:=aJ e2';cases q:σ[j]? with
    |none=>rw[q] at e3;cases e3
    |some w=>rw[q] at e3;erw[congrArg some e3])
 generalize hY:X.uO scope h2.objs.size (x++cn) {s with heap:=h2} (upd H D (.lst [])) fp=Y at J3;have ePr:Y.prog=X.prog:=by rw[<-hY];rfl
 have eW:Y.w=X.w:=by rw[<-hY];rfl
 have eK:Y.K=X.K:=by rw[<-hY];rfl
 have eC:Y.calm=true:=by rw[<-hY];erw[hcalm]
 have eA:Y.A=X.A:=by rw[<-hY];rfl
 have eE:Y.env=compEnvC scope (rV scope h2.objs.size++pd X.env scope.names []) h2.objs.size X.env:=by rw[<-hY];rfl
 have hPc:Lb Y ifs tc:=by rw[<-hY];erw[hc _ _ _ _]
 have hPe:PE Y elt te:=by rw[<-hY];erw[he _ _ _ _]
 have eN:Y.N=x++cn:=by rw[<-hY];rfl
 have eX:Y.xe=λ_ _=>False:=by rw[<-hY];rfl
 have TY:Turn Y.prog Y.w Y.K tg J fp it tn:=by rw[ePr,eW,eK];erw[T]
 have fpY:∀{H':Hp},(∀b∈fp,H' b=none)->∀b∈fp,pM Y [] H' b:=λhn b hb=>by
  let#[f0,f1,f2,f3,f4,f5]:=hf2 b hb;have lt2:b<h2.objs.size:=by rw[sz2];erw[bb (fpl b hb)]
  refine#[hn b hb,λz=>?_,λz=>?_,.inl (by rw[<-hY];erw[hb]),λy c e=>?_,λp hp=>?_]
  .have z':b=h2.objs.size:=by rw[eE] at z;erw[z]
   erw[absurd lt2 (by rw[z'];exact dk _)]
  .have z':b∈vT X.stack:=by rw[<-hY] at z;erw[z]
   rcases aP.mp (I.uA b z') with q|q
   .erw[f1 q]
   .erw[f2 q]
  .rw[eE] at e
   rcases pP B e with q|q
   .intro z
    have:=(oc3.empty y c q.1).2;rw[z] at this;erw[absurd lt2 (i3.mpr (df this))]
   .erw[f4 y c (B.cl ok q.2).1]
  .have:p∈([]:List (Addr×Obj)):=by rw[<-hY] at hp;erw[hp]
   erw[absurd this (by simp)]
 have loop:∀s4:aA,s4={s with heap:=h3,toks:=s.toks+0}->pI (ba X.prog X.w) X.A (.compLoop (.ListComp elt [#[tg,iter,ifs,0]] scope pos) 0 (.ref it) (.ref D) Y.env) (RR (.ref D) h2.objs.size) s4:=by
  rintro s4 rfl;rwa[codeAny_loop rfl (λn s'=>∃i acc τ H',τ.length=x.length/\Inv Y [] (τ++gy σ ci) H' s'/\tn i s'.heap/\(∀b∈fp,H' b=none)/\W i n acc H') ?_ m0 #[0,[],x.map λ_=>none,_,by simp,J3,T.keep _ _ _ t2 λb _ o e=>kp3 b o e,λb hb=>(hf2 b hb).1,w0]];rintro n s5 ⟨i,acc,τ,H5,hτ,J5,t5,f5,w5⟩;let#[hD5,hz5,alt]:=turn i n acc H5 w5;show wpAny _ X.A ((compTurn (.ListComp elt [#[tg,iter,ifs,0]] scope pos) 0 (.ref it) (.ref D) Y.env).onRaise (λx=>do FL x Y.env;theTreesLotGoes x)) _ _ s5;rwa[wpAny_noted ?_];rw[compTurn_list,<-eA]
  rcases alt with⟨stop,q5⟩|⟨go,step⟩
  .rwa[ae (D8 (ae ?_))]
   rw[<-ePr,<-eW]
   rwa[d6 (TY.done Y rfl rfl rfl eC i [] s5 _ H5 _ J5 (fpY f5) t5 stop) λr s6 h9=>?_]
   let#[hr,J6]:=h9;subst hr;rwa[aw ?_];have J6':Inv (X.uO scope h2.objs.size (x++cn) {s with heap:=h2} (upd H D (.lst [])) fp) [] (τ++gy σ ci) H5 s6:=by rw[hY];erw[J6]
   have I6:=I2.La J6' hf2;let#[m6,ns6,_]:=J6'.loc;have fC:=I2.OU (b:=h2.objs.size) (au _);erw[fin h2.objs.size D H5 s6 I6 q5 #[m6,ns6] #[J6'.free,fC.2]]
  .rwa[ae (D8 (ae ?_))]
   rw[<-ePr,<-eW]
   rwa[d6 (TY.item Y rfl rfl rfl eC i [] s5 _ H5 _ J5 (fpY f5) t5 go) λr s6 h9=>?_]
   let#[u,hr,h6]:=h9;subst hr;rwa[ae ?_];rw[eA,<-eA]
   rwa[d6 h6 λ_ s7 h9=>?_]
   let#[y,H7,J7,r7,y7,t7,f7]:=h9;have J7':=J7.pinned (fpY f7) (T.obj _ _ t7);have noE:∀{α:Type}{t:Sem α}{Q:α->aA->Prop}{E:Value->aA->Prop}{s:aA},wpAny (ba Y.prog Y.w) Y.A t Q Y.xe s->wpAny (ba Y.prog Y.w) Y.A t Q E s:=λh=>bU h (λ_ _ z=>z) λ_ _ z=>by rw[eX] at z;erw[z.elim]
   have ht':wpAny (ba Y.prog Y.w) Y.A (xF tg Y.env u) (λ_ s8=>∃τ',τ'.length=x.length/\Inv Y ([]++rN fp s7.heap) (τ'++gy σ ci) H7 s8/\tc (τ'++gy σ ci) H7 λb H4=>
     if b=true then te (τ'++gy σ ci) H4 λz H5=>H5 D=some (.lst acc)/\∃m',m'<n/\W (i+1) m' (acc++[z]) (upd H5 D (.lst (acc++[z]))) else ∃m',m'<n/\W (i+1) m' acc H4) (λ_ _=>False) s7:=by
    have st:=step y H7 y7;subst hY;erw[ht _ _ _ _ _ s7 τ _ H7 y u _ J7' hτ r7 st]
   refine ae (bU ht' (λ_ s8 h9=>?_) λ_ _ z=>z.elim);let#[τ',hτ',J8',q8]:=h9;refine ae (noE (d6 (hPc _ s8 _ H7 _ J8' q8) λb s9 h9=>?_));let#[H9,J9,q9]:=h9;have again:∀{acc':List V}{H':Hp}{s':aA},Inv Y ([]++rN fp s7.heap) (τ'++gy σ ci) H' s'->(∃m',m'<n/\W (i+1) m' acc' H')->∃m,m<n/\∃i acc τ H',τ.length=x.length/\Inv Y [] (τ++gy σ ci) H' s'/\tn i s'.heap/\(∀b∈fp,H' b=none)/\W i m acc H':=λ{acc' H' s'}J' ⟨m',lt,w'⟩=>by
    refine#[m',lt,i+1,acc',τ',H',hτ',J'.qA,T.keep _ _ _ t7 λb hb o e=>(J'.pin (b,o) (bc _ (bc _ (mr hb e)))).1,λb hb=>?_,w'];let#[o,e,d]:=T.obj _ _ t7 b hb;exact(J'.pin (b,o) (bc _ (bc _ (mr hb e)))).2.1
   cases b with
   |false=>erw[aw #[rfl,again J9 q9]]
   |true=>
    rwa[ae (ae (noE (d6 (hPe _ s9 _ H9 _ J9 q9) λv s10 h9=>?_)))];let#[z,H10,J10,r10,hD10,q10]:=h9;rwa[ae (noE (d6 (rQ _ s10 _ H10 (.ref D) [z] (.ref D) [v] (λ_ H11=>H11=upd H10 D (.lst (acc++[z]))) J10 rfl (.cons r10 .nil) #[D,acc,z,rfl,rfl,hD10,hz5,rfl]) λv11 s11 h9=>?_))];let#[z11,H11,J11,_,e11]:=h9;subst e11;erw[aw (aw #[rfl,again J11 q10])]
 rw[eE] at loop;subst hD;erw[codeAny_compStart_list (loop _ rfl) (T.self _ 0 _ _ _ (T.keep _ _ _ t2 λb _ o e=>kp3 b o e) (loop _ rfl))]
theorem Lf{elt iter tg:Expr}{bd:V->Hp->(St->Prop)->Prop}{pos:Pos}{ifs:List Expr}{wi:TI}{tc:TT}{te:TE}{cn:List Str}{ci:List Nat}(B:zR X scope x)(cp:yg X scope cn ci)(hnd:cn.Nodup)(hcalm:X.calm=true)(ht:RJ X tg scope x cn bd)(hi:PI X tg iter wi)
  (hc:∀C s₀ H₀ ex,Lb (X.uO scope C (x++cn) s₀ H₀ ex) ifs tc) (he:∀C s₀ H₀ ex,PE (X.uO scope C (x++cn) s₀ H₀ ex) elt te) (hs:∀x,foldedSetIterable iter X.env x=pure x:=by intro _;rfl):
  PE X (.ListComp elt [#[tg,iter,ifs,0]] scope pos) (Hc bd wi ci tc te):=by
 k_go;rw[eval_ListComp]
 rwa[D9 (use:=none) rfl hs (uL (B.cells I.ok)) B.kind B.lo (d6 (hi pZ s σ H _ I h) λv s1 h1=>d6 h1 λitv s2 h2=>?_)];let#[it,fp,tn,J,H2,e,I2,T,t2,f2,q]:=h2;subst e;rwa[zU (RR:=λacc C=>compPost (ba X.prog X.w) X.A X.xe none (EP X pZ σ Q) acc C) (Rq:=λD H2=>Q (.ref D) H2) I2 B cp hnd hcalm ht T t2 f2 hc he q λC D H5 s5 I5 q5 hn fC=>?_]
 let#[m,hm]:=hn;refine#[m,hm,λh' sb=>#[.ref D,H5,?_,rfl,q5]];erw[I5.turned (it:=C) (t':=s5.toks) (λb o hb e=>(sb.2 b hb).trans e) fC.1 fC.2.2.1 (.inr fC.2.1) fC.2.2.2.1 fC.2.2.2.2]
theorem BK{elt iter tg:Expr}{bd:V->Hp->(St->Prop)->Prop}{py pos spos:Pos}{ifs:List Expr}{wi:TI}{tc:TT}{te:TE}{cn:List Str}{ci:List Nat}{i:Nat}{y:Str}(B:zR X scope x)(cp:yg X scope cn ci)(hnd:cn.Nodup)(hcalm:X.calm=true)(ht:RJ X tg scope x cn bd)(hi:PI X tg iter wi)
  (hc:∀C s₀ H₀ ex,Lb (X.uO scope C (x++cn) s₀ H₀ ex) ifs tc) (he:∀C s₀ H₀ ex,PE (X.uO scope C (x++cn) s₀ H₀ ex) elt te) (hN:X.N.Nodup) (hy:X.N[i]?=some y) (hk:X.env.scope.names.lookup y=some .local)
  (hsw:fB (.ListComp elt [#[tg,iter,ifs,0]] scope pos) (some (.Name y py)) spos.line X.env=pure true) (hs:∀x,foldedSetIterable iter X.env x=pure x:=by intro _;rfl):
  PS X (.Assign [.Name y py] (.ListComp elt [#[tg,iter,ifs,0]] scope pos) spos) (Sn (Hc bd wi ci tc te) (wG i)):=by
 intro pZ s σ H D I h;rw[exec_Assign_Name_used _ _ _ _ hsw]
 refine ae (D8 (ae ?_));show wpAny _ X.A (do let _ <-comprehension (.ListComp elt [#[tg,iter,ifs,0]] scope pos) scope X.env _ (newList []) false (eval iter X.env) (some (xF (.Name y py) X.env))) _ _ s;refine ae (bU (D9 (use:=some (xF (.Name y py) X.env)) (Q:=λ_ s'=>SP X pZ D .next s') rfl hs (uL (B.cells I.ok)) B.kind B.lo (d6 (hi pZ s σ H _ I h) λv s1 h1=>d6 h1 λitv s2 h2=>?_))
  (λ_ s' hq=>aw (aw hq)) λ_ _ e=>e)
 let#[it,fp,tn,J,H2,e,I2,T,t2,f2,q]:=h2;subst e;rwa[zU (RR:=λacc C=>compPost (ba X.prog X.w) X.A X.xe (some (xF (.Name y py) X.env)) (λ_ s'=>SP X pZ D .next s') acc C) (Rq:=λD' H2=>(wG i) (.ref D') σ H2 D.nx) I2 B cp hnd hcalm ht T t2 f2 hc he q λC D' H5 s5 I5 q5 hn fC=>?_]
 let#[m,hm]:=hn;show wpAny _ X.A (xF (.Name y py) X.env (.ref D')) _ _ _;refine vN (wD (v:=.ref D') I5 hN hy (.inl hk) rfl (λs6 I6 sb6=>?_) (.inr hk));let#[a,sb,ha]:=sb6;have nC:C≠a:=by
  rcases ha with z|z
  .rw[z];erw[fC.2.2.1]
  .intro w;erw[fC.2.2.2.1 y a z w.symm]
 refine#[m,hm.sameBut sb nC,λh' sb'=>#[_,H5,?_,q5]];erw[I6.turned (it:=C) (t':=s6.toks) (λb o hb e=>(sb'.2 b hb).trans e) fC.1 fC.2.2.1 (.inr fC.2.1) fC.2.2.2.1 fC.2.2.2.2]
def Tp(z:Str):It:=#[λi _=>i<z.cps.size,λi H x H'=>H'=H/\∃c,z.cps[i]?=some c/\x=.str #[(List.toArray [c])],λi _=>z.cps.size<=i]
theorem Hf{P:bw}{w:cf}{K:Frag}{tg:Expr}(it:Addr)(z:Str)(t:Tok)(b:Bool):Turn P w K tg (Tp z) [it] it (λi h=>h.IsStrIter it (if b then "str_ascii_iterator" else "str_iterator") z t i) where
 mem:=by simp
 obj:=λi h st c hc=>by
  have e:c=it:=by simpa using hc
  subst e;let#[o,e,_,d]:=st;exact#[o,e,λv q=>by rw[d] at q;cases q]
 keep:=λi h h' st k=>by
  let#[o,e,c,d]:=st;exact#[o,k it (by simp) o e,c,d]
 item:=by
  w_up;subst hP hw hK;let#[f0,f1,f2,f3,f4,f5]:=hf it (by simp);have hx:z.cps[i]?=some (z.cps[i]'hg):=ig hg;have done:∀h',h'.IsStrIter it (if b then "str_ascii_iterator" else "str_iterator") z t (i+1)->fS it s.heap h' ->
    ∃u,(some (kW #[(List.toArray [z.cps[i]'hg])] s.toks):Option Value)=some u/\wpAny (ba X.prog X.w) X.A (p8 tg (.ref it) u) (λ_ s2=>∃x H',Inv X pZ σ H' s2/\RelV x u/\(Tp z).Sr i H x H'/\s2.heap.IsStrIter it (if b then "str_ascii_iterator" else "str_iterator") z t (i+1)/\∀b∈[it],H' b=none) E {s with heap:=h',toks:=s.toks+1}:=λh' st' sb=>by
   have I1:Inv X pZ σ H {s with heap:=h',toks:=s.toks+1}:=I.turned (t':=s.toks+1) (λb o hb e=>(sb.2 b hb).trans e) f0 f1 f3 f4 f5;let#[o,e,c,d]:=id st';exact#[_,rfl,wH (s:={s with heap:=h',toks:=s.toks+1}) e c d (by cases b<;>decide) #[.str #[(List.toArray [z.cps[i]'hg])],H,I1,#[_,rfl],#[rfl,_,hx,rfl],st',λb hb=>(hf b hb).1]]
  cases b with
  |true=>erw[wpAny_pyNext_ascii_item st hx λh' st' sb=>done h' st' sb]
  |false=>erw[wpAny_pyNext_wide_item st hx λh' st' sb=>done h' st' sb]
 done:=by
  w_up;subst hP hw hK;let#[f0,f1,f2,f3,f4,f5]:=hf it (by simp);have hx:z.cps[i]?=none:=zt hg;cases b with
  |true=>erw[wpAny_pyNext_ascii_end (I.ok.hd hc) st hx λh' eb=>#[rfl,I.turned (t':=s.toks) (λb o hb e=>eb b o hb e) f0 f1 f3 f4 f5]]
  |false=>erw[wpAny_pyNext_wide_end (I.ok.hd hc) st hx λh' eb=>#[rfl,I.turned (t':=s.toks) (λb o hb e=>eb b o hb e) f0 f1 f3 f4 f5]]
 self:=λA i s Q E st h=>by
  cases b with
  |true=>erw[wpAny_pyIter_striter_ascii st h]
  |false=>erw[wpAny_pyIter_striter_wide st h]
end
noncomputable abbrev tx(l:List Nat):Str:=#[l.toArray]
theorem Tq(z:Str):z=tx z.cps.toList:=by
 let#[a]:=z;simp
theorem yh(a b:List Nat):tx a++tx b=tx (a++b):=by
 show Str.mk (a.toArray++b.toArray)=Str.mk (a++b).toArray
 simp
theorem dv(a:List Nat):(tx a).length=a.length:=by simp[F9]
theorem pQ(h:tx a=tx b):a=b:=by
 have:=congrArg (λz:Str=>z.cps.toList) h;simpa using this
theorem Nj:(tx a=tx b)↔a=b:=#[pQ,λh=>by rw[h]]
theorem C1:(V.str (tx a)=V.str (tx b))↔a=b:=#[λh=>pQ (V.str.inj h),λh=>by rw[h]]
section
variable{X:Cx}
theorem EH:gH X (cC .Add) (λx y H Q=>∃a b,x=.str (tx a)/\y=.str (tx b)/\a.length+b.length<=sizeLine/\Q (.str (tx (a++b))) H):=by
 x_go;let#[a,b,rfl,rfl,hz,q]:=h;rwa[Bv pZ s σ H _ _ v u Q I rx ry #[tx a,tx b,rfl,rfl,by rw[dv,dv];erw[hz],?_]];rw[yh]
 erw[q]
theorem BL:gH X (gX .Add) (λx y H Q=>∃a b,x=.str (tx a)/\y=.str (tx b)/\a.length+b.length<=sizeLine/\Q (.str (tx (a++b))) H):=by
 x_go;let#[a,b,rfl,rfl,hz,q]:=h;rwa[zH pZ s σ H _ _ v u Q I rx ry #[tx a,tx b,rfl,rfl,by rw[dv,dv];erw[hz],?_]];rw[yh]
 erw[q]
theorem Lg(h:c∈l):Txt.find (tx l) (tx [c])=((l.idxOf c:Nat):Int)/\(Builtin.Str.occurrences (tx l) (tx [c]) 0 (tx l).length 1).isEmpty=false:=by
 have h2:(!(Builtin.Str.occurrences (tx l) #[(List.toArray [c])] 0 (tx l).length 1).isEmpty)=true:=by rw[StrLaws.found_one];simpa using h
 refine#[?_,by simpa using h2];have at_iff:∀i,StrLaws.At (tx l) (tx [c]) (tx l).length i↔l[i]?=some c:=λi=>by
  have:=StrLaws.subAt_one (tx l) c i;simpa[StrLaws.At] using this
 rcases find_whole (tx l) (tx [c]) with⟨_,no⟩|⟨i,e,hi,lo⟩
 .let#[j,hj,ej]:=qc h
  erw[absurd ((at_iff j).mpr (by rw[ab hj,ej])) (no j)]
 .rw[e]
  have hi':=(at_iff i).mp hi;let#[hlt,ei]:=af.mp hi';have e1:l.idxOf c=i:=by
   have hk:=cD h;rcases md (l.idxOf c) i with q|q|q
   .erw[absurd ((at_iff _).mpr (by rw[ab hk,iX])) (lo _ q)]
   .erw[q]
   .have:=List.not_of_lt_findIdx (p:=(·==c)) (xs:=l) (i:=i) q
    simp[ei] at this
  rw[e1]
def OV:V->List V->Hp->VK->Prop:=λx xs H Q=>∃l c,x=.str (tx l)/\xs=[.str (tx [c])]/\c∈l/\Q (.int ((l.idxOf c:Nat):Int)) H
theorem zV(hA:X.A.handled=none):BD X "str.index" OV:=by
 intro pZ s σ H x xs v us Q I rx rs h;let#[l,c,rfl,rfl,hc,q]:=h;let#[t,rfl]:=rx;let#[u,rfl,t',rfl]:=vals1 rs;let#[e,ne]:=Lg hc;rwa[index_or hA (λz w=>?_) λ_ _=>#[.int _,H,I.tok _,#[_,rfl],by rw[e];erw[q]]]
 rw[ne] at w;cases w
end
noncomputable def uP(sep:List Nat):List (List Nat)->List Nat
 |[]=>[]
 |[x]=>x
 |x::r=>x++sep++uP sep r
theorem Lh(sep:List Nat):∀ts:List (List Nat),Txt.join (tx sep) (ts.map tx)=tx (uP sep ts):=by
 intro ts;show Builtin.Str.glued (tx sep) (ts.map tx)=_;rw[StrLaws.glued_eq_join]
 induction ts with
 |nil=>rfl
 |cons a r ih=>
  cases r with
  |nil=>rfl
  |cons b r=>
   show tx a++tx sep++Str.join (tx sep) ((b::r).map tx)=tx (a++sep++uP sep (b::r))
   rw[ih,yh,yh]
theorem uQ:∀{ts:List (List Nat)}{us:List Value},Vals (ts.map λt=>V.str (tx t)) us->StrsAre us (ts.map tx)
 |[],_,.nil=>.nil
 |a::ts,_,.cons (b:=u) r h=>by
  let#[t,e]:=(show ∃t,u=kW (tx a) t from r)
  subst e;erw[.cons _ _ (uQ h)]
section
variable{X:Cx}
def rJoin(K:Frag):V->List V->Hp->VK->Prop:=λx xs H Q=>∃sep ts p,x=.str (tx sep)/\xs=[.ref p]/\hU K H p (ts.map λt=>V.str (tx t))/\(ts.map dh).sum+ts.length*sep.length<=1000000/\Q (.str (tx (uP sep ts))) H
theorem C2:BD X "str.join" (rJoin X.K):=by
 intro pZ s σ H x xs v us Q I rx rs h;let#[sep,ts,p,rfl,rfl,hl,hz,q]:=h;let#[t,rfl]:=rx;let#[u,rfl,ru]:=vals1 rs;cases ru;let#[its,r,pl,_]:=I.list hl;refine join_list pl.isList (ys:=ts.map tx) (by simpa using uQ r) ?_ λt' k=>#[.str (tx (uP sep ts)),H,I.tok k,#[t',by rw[Lh]],q]
 have e:((ts.map tx).map (·.length)).sum=(ts.map dh).sum:=by
  congr 1
  rw[bx]
  erw[qd λa _=>dv a]
 rw[e,ag,dv]
 omega
theorem uR:∀{l:List Nat},(∀k∈l,f k=g k)->l.filterMap f=l.filterMap g
 |[],_=>rfl
 |a::l,h=>by
  rw[b9,b9,h a aS,uR λk hk=>h k (aB _ hk)]
theorem lU(l:List Nat):∀(n i:Nat),i+n<=l.length->(cq n).filterMap (λk=>l[i+k]?)=(l.drop i).take n
 |0,i,_=>by simp
 |n+1,i,h=>by
  rw[AW,b9,rE]
  have hi:i<l.length:=∅
  have e:l[i+0]?=some l[i]:=by simp[hi]
  rw[e,iq hi,Ea]
  have:=lU l n (i+1) ∅;rw[<-this]
  show l[i]::_=l[i]::_
  congr 1
  rwa[uR λk _=>?_]
  show l[i+(k+1)]?=l[i+1+k]?
  rw[show i+(k+1)=i+1+k by omega]
noncomputable def BM(l:List Nat)(i j:Nat):List Nat:=(l.drop i).take (j-i)
theorem C3{b:Int}{n:Nat}(h:0<=b):max 0 (min b (n:Int))=((min b.toNat n:Nat):Int):=by
 let#[k,rfl]:=AX h;rw[Int.max_eq_right (Int.le_min.mpr #[h,Int.ofNat_nonneg n])]
 rw[jr];omega
theorem Hg(l:List Nat)(lo hi:Option Int)(i j:Nat)(hlo:lo=none/\i=0\/∃a:Int,lo=some a/\0<=a/\i=min a.toNat l.length)(hhi:hi=none/\j=l.length\/∃b:Int,hi=some b/\0<=b/\j=min b.toNat l.length):
  Txt.slice (tx l) lo hi=tx (BM l i j):=by
 have hi':i<=l.length:=by rcases hlo with⟨_,e⟩|⟨a,_,_,e⟩<;>omega
 have hj':j<=l.length:=by rcases hhi with⟨_,e⟩|⟨b,_,_,e⟩<;>omega
 have key:Builtin.Str.strSliceIndices lo hi 1 l.length=(cq (j-i)).map λk=>i+k:=by
  have e0:Builtin.Str.strSliceIndices lo hi 1 l.length=sliceRange (i:Int) (j:Int) 1:=by
   unfold Builtin.Str.strSliceIndices;rcases hlo with⟨rfl,rfl⟩|⟨a,rfl,h0,rfl⟩<;>rcases hhi with⟨rfl,rfl⟩|⟨b,rfl,h1,rfl⟩
   .rfl
   .dsimp[xT.mpr h1,if_false,show(1:Int)>0 by decide,if_true,C3 h1]
    rfl
   .dsimp[xT.mpr h0,if_false,show(1:Int)>0 by decide,if_true,C3 h0]
   .dsimp[xT.mpr h0,xT.mpr h1,if_false,show(1:Int)>0 by decide,if_true,C3 h0,C3 h1]
  rw[e0]
  unfold sliceRange;dsimp[show(1:Int)>0 by decide,if_true,Int.ediv_one];have e3:(if (i:Int)<(j:Int) then(j:Int)-i+1-1 else 0).toNat=j-i:=by split<;>omega
  rw[e3]
  rwa[qd λk _=>?_]
  omega
 have len:(tx l).length=l.length:=dv l;unfold Txt.slice;rw[len,key]
 have e4:((cq (j-i)).map λk=>i+k).length=j-i:=by simp
 rw[e4]
 by_cases hw:j-i=l.length
 .rw[if_pos (by simp[hw])]
  have:BM l i j=l:=by
   unfold BM;have:i=0:=∅
   subst this;rw[hw,jj,bE]
  rw[this]
 .rw[if_neg (by simp[hw])]
  show tx _=tx _
  congr 1
  rw[rE]
  by_cases hij:i<=j
  .have:=lU l (j-i) i ∅
   unfold BM;rw[<-this]
   rwa[uR λk _=>?_]
   simp
  .have:j-i=0:=∅
   unfold BM;rw[this]
   simp
def Xt:V->Option Int->Option Int->Hp->VK->Prop:=λx lo hi H Q=>∃l i j,x=.str (tx l)/\l.length<=sizeLine/\(lo=none/\i=0\/∃a:Int,lo=some a/\0<=a/\i=min a.toNat l.length)/\(hi=none/\j=l.length\/∃b:Int,hi=some b/\0<=b/\j=min b.toNat l.length)/\Q (.str (tx (BM l i j))) H
theorem Ts:SR X Xt:=by
 intro pZ s σ H x v vl vu lo hi sl Q I rx hs pl pu h;let#[l,i,j,rfl,hz,h1,h2,q]:=h;let#[t,rfl]:=rx;refine#["str",_,F.slot_str_getitem.lookup,typeIs_str _ _ _,?_];have fin:∀(a b:Option (Int×Tok)),vl=partValue a->vu=partValue b->lo=a.map (·.1)->hi=b.map (·.1)->wpAny (ba X.prog X.w) X.A (nH (.str (tx l) t) (.ref sl)) (EP X pZ σ Q) X.xe s:=λa b e1 e2 e3 e4=>by
  refine wpAny_getItem_str_slice (l:=a) (u:=b) (st:=none) (by rw[e1,e2] at hs;erw[hs]) rfl ?_;rwa[post_val_or_str #[aI (Txt.slice_le (tx l) _ _) (by rw[dv];erw[hz]),λt' k=>#[.str (tx (BM l i j)),H,I.tok k,#[t',?_],q]]];have:=Hg l lo hi i j h1 h2;rw[e3,e4] at this;rw[<-this]
  rfl
 cases pl with
 |none=>
  cases pu with
  |none=>erw[fin none none rfl rfl rfl rfl]
  |int b u=>erw[fin none (some (b,u)) rfl rfl rfl rfl]
 |int a u=>
  cases pu with
  |none=>erw[fin (some (a,u)) none rfl rfl rfl rfl]
  |int b u2=>erw[fin (some (a,u)) (some (b,u2)) rfl rfl rfl rfl]
theorem OW(c:Nat)(n:Nat):Txt.mul (tx [c]) (n:Int)=tx (dH n c):=by
 unfold Txt.mul;by_cases h:(n:Int)<1
 .rw[if_pos h]
  have:n=0:=∅
  subst this
  rfl
 .rw[if_neg h]
  by_cases h1:n=1
  .subst h1
   rfl
  .rw[if_neg (by simp[F9];omega)]
   show Str.mk _=Str.mk _
   congr 1
   have all:∀(m:Nat)(acc:List Nat),List.foldl (λx1 x2=>x1++x2) acc.toArray (dH m ((List.toArray [c]):Array Nat))=(acc++dH m c).toArray:=by
    intro m;induction m with
    |zero=>intro acc;simp
    |succ m ih=>
     intro acc;rw[Eb,iU]
     have:acc.toArray ++ (List.toArray [c])=(acc++[c]).toArray:=by simp
     rw[this,ih,Eb]
     simp
   have:=all n [];simpa using this
noncomputable def Tt:R2:=λx y H Q=>∃c n:Nat,x=.str (tx [c])/\y=.int (n:Int)/\n<=1000/\Q (.str (tx (dH n c))) H
theorem EI:gH X (cC .Mult) Tt:=by
 x_go;let#[c,n,rfl,rfl,hn,q]:=h;let#[t,rfl]:=rx;let#[t',rfl]:=ry;rwa[SB.mul #[by simp;omega,λh1 h2=>?_,λh1 h2=>?_] λt' k=>#[.str _,H,I.tok k,#[t',by rw[OW]],q]]
 .rw[dv]
  have:(n:Int)<=1000:=∅
  have h3:(1:Int)<=(2^63-1)/(n:Int):=by
   rw[Int.le_ediv_iff_mul_le ∅]
   omega
  show ¬(1:Int)>_
  omega
 .rw[dv]
  show Builtin.Str.tooLong (1*n)=false
  unfold Builtin.Str.tooLong;simp
  rw[jC]
  omega
end
section
variable{X:Cx}{pZ:List (Addr×Obj)}{σ:St}{H:Hp}{s:aA}{a C d:Addr}{fs:List (Str×V)}{f:Str}{v:V}
structure OX(K:Frag)(P:Params)(a:Addr)(kvs:List (Str×V)):Prop where
 ex:∃es n,K.lookup a=some #[.type "dict",none,.dict es n,#[]]/\AY P es.toList
 at_:∀k v,kvs.lookup k=some v->∃u,RelV v u/\nsIn K a k=some (some u)
 no:∀k,kvs.lookup k=none->nsIn K a k=some none
 ns:(a==bT)=false
noncomputable def Xu(K:Frag)(P:Params):R2:=λx y H Q=>∃a kvs k v,x=.ref a/\y=.str k/\OX K P a kvs/\kvs.lookup k=some v/\Q v H
theorem yi:RH X (Xu X.K X.w.params):=by
 intro value slice pZ s σ H x y v u Q I rx ry h hs;let#[a,kvs,k,z,rfl,rfl,T,e,q]:=h;cases rx;let#[t,rfl]:=ry;let#[es,n,lk,kl]:=T.ex;let#[w,rw',ew]:=T.at_ k z e;have hm:=mapOf_K (prog:=X.prog) (w:=X.w) I.zc lk kl;erw[tail_any hm.typeIs slot_dict_getitem.lookup (wpAny_getItem_of (strKind_is X.prog X.w k t) hm (find_K lk ew) #[z,H,I.tok _,rw',q]) hs]
end
inductive Dv where
 |bQ|bl (b:Bool)|int (i:Int)|str (l:List Nat)|tup (ds:List Dv)|lst (ds:List Dv)
mutual
noncomputable def Dv.depth:Dv->Nat
 |.tup ds=>Dv.jt ds+1
 |.lst ds=>Dv.jt ds+1
 |_=>0
noncomputable def Dv.jt:List Dv->Nat
 |[]=>0
 |d::ds=>max d.depth (Dv.jt ds)
end
mutual
noncomputable def nM:Dv->Dv->Bool
 |.bQ,.bQ=>true
 |.bl a,.bl b=>a==b
 |.bl a,.int b=>(if a then 1 else 0)== b
 |.int a,.bl b=>a==(if b then 1 else 0)
 |.int a,.int b=>a==b
 |.str a,.str b=>a==b
 |.tup xs,.tup ys=>n8 xs ys
 |.lst xs,.lst ys=>n8 xs ys
 |_,_=>false
noncomputable def n8:List Dv->List Dv->Bool
 |[],[]=>true
 |x::xs,y::ys=>nM x y&&n8 xs ys
 |_,_=>false
end
mutual
noncomputable def fZ(K:Frag)(H:Hp):V->Dv->Prop
 |v,.bQ=>v=.bQ
 |v,.bl b=>v=.bl b
 |v,.int i=>v=.int i
 |v,.str l=>v=.str (tx l)
 |v,.tup ds=>∃a vs,v=.ref a/\lQ K H a vs/\iw K H vs ds
 |v,.lst ds=>∃a vs,v=.ref a/\hU K H a vs/\iw K H vs ds
noncomputable def iw(K:Frag)(H:Hp):List V->List Dv->Prop
 |[],[]=>True
 |v::vs,d::ds=>fZ K H v d/\iw K H vs ds
 |_,_=>False
end
theorem iw.len{K:Frag}{H:Hp}:∀{vs:List V}{ds:List Dv},iw K H vs ds->vs.length=ds.length
 |[],[],_=>rfl
 |_::vs,_::ds,h=>by
  unfold iw at h;rw[aT,aT,iw.len h.2]
 |[],_::_,h=>by unfold iw at h;erw[h.elim]
 |_::_,[],h=>by unfold iw at h;erw[h.elim]
theorem iw.get{K:Frag}{H:Hp}:∀{vs:List V}{ds:List Dv}{i:Nat}{v:V}{d:Dv},iw K H vs ds->vs[i]?=some v->ds[i]?=some d->fZ K H v d
 |v::vs,d::ds,0,_,_,h,e1,e2=>by
  unfold iw at h;simp at e1 e2;subst e1 e2;erw[h.1]
 |v::vs,d::ds,i+1,_,_,h,e1,e2=>by
  unfold iw at h;exact iw.get (i:=i) h.2 (by simpa using e1) (by simpa using e2)
 |[],_,_,_,_,_,e1,_=>by simp at e1
 |_,[],_,_,_,_,_,e2=>by simp at e2
mutual
theorem uT:∀d:Dv,nM d d=true
 |.bQ=>by unfold nM;rfl
 |.bl b=>by unfold nM;simp
 |.int i=>by unfold nM;simp
 |.str l=>by unfold nM;simp
 |.tup ds=>by unfold nM;erw[rX ds]
 |.lst ds=>by unfold nM;erw[rX ds]
theorem rX:∀ds:List Dv,n8 ds ds=true
 |[]=>by unfold n8;rfl
 |d::ds=>by unfold n8;rw[uT d,rX ds];rfl
end
theorem mz:∀(xs ys:List Dv)(e:Nat->Bool),(∀i x y,xs[i]?=some x->ys[i]?=some y->e i=nM x y)->((cq (min xs.length ys.length)).all e&&xs.length==ys.length)=n8 xs ys
 |[],[],e,_=>by unfold n8;simp
 |[],y::ys,e,_=>by unfold n8;simp
 |x::xs,[],e,_=>by unfold n8;simp
 |x::xs,y::ys,e,h=>by
  have ih:=mz xs ys (λi=>e (i+1)) λi a b h1 h2=>h (i+1) a b (by simpa using h1) (by simpa using h2)
  unfold n8;rw[<-ih,<-h 0 x y rfl rfl]
  rw[aT,aT,Nat.succ_min_succ,AW,bK,List.all_map]
  have:(xs.length+1==ys.length+1)=(xs.length==ys.length):=by simp
  rw[this,Bool.and_assoc]
  rfl
section
variable{X:Cx}{pZ:List (Addr×Obj)}{σ:St}{H:Hp}{s:aA}
mutual
theorem fZ.inj(I:Inv X pZ σ H s):∀{d d':Dv}{v:V},fZ X.K H v d->fZ X.K H v d'->d=d'
 |.bQ,d',v,h,h'=>by
  unfold fZ at h;subst h;cases d'<;>unfold fZ at h'<;>first|rfl| (cases h';done)| (obtain⟨_,_,z,_⟩:=h';cases z)
 |.bl b,d',v,h,h'=>by
  unfold fZ at h;subst h;cases d'<;>unfold fZ at h'<;>first| (cases h';rfl)| (cases h';done)| (obtain⟨_,_,z,_⟩:=h';cases z)
 |.int b,d',v,h,h'=>by
  unfold fZ at h;subst h;cases d'<;>unfold fZ at h'<;>first| (cases h';rfl)| (cases h';done)| (obtain⟨_,_,z,_⟩:=h';cases z)
 |.str l,d',v,h,h'=>by
  unfold fZ at h;subst h;cases d'<;>unfold fZ at h'<;>first| (rw[C1.mp h'])| (cases h';done)| (obtain⟨_,_,z,_⟩:=h';cases z)
 |.tup ds,d',v,h,h'=>by
  unfold fZ at h;let#[a,vs,rfl,hq,hd]:=h;cases d' with
  |tup ds'=>
   unfold fZ at h';let#[a',vs',e,hq',hd']:=h';cases e;rw[I.wF hq' hq] at hd';rw[iw.inj I hd hd']
  |lst ds'=>
   unfold fZ at h';let#[a',vs',e,hq',hd']:=h';cases e;exfalso;let#[its,_,#[o,e1,c1,_],_]:=I.tuple hq;let#[its',_,#[o',n',e2,c2,_,_],_]:=I.list hq';rw[e1] at e2;cases e2;rw[c1] at c2;injection c2 with c2
   erw[absurd c2 ⋯]
  |_=>unfold fZ at h';cases h'
 |.lst ds,d',v,h,h'=>by
  unfold fZ at h;let#[a,vs,rfl,hq,hd]:=h;cases d' with
  |lst ds'=>
   unfold fZ at h';let#[a',vs',e,hq',hd']:=h';cases e;rw[I.qw hq' hq] at hd';rw[iw.inj I hd hd']
  |tup ds'=>
   unfold fZ at h';let#[a',vs',e,hq',hd']:=h';cases e;exfalso;let#[its,_,#[o,e1,c1,_],_]:=I.tuple hq';let#[its',_,#[o',n',e2,c2,_,_],_]:=I.list hq;rw[e1] at e2;cases e2;rw[c1] at c2;injection c2 with c2
   erw[absurd c2 ⋯]
  |_=>unfold fZ at h';cases h'
theorem iw.inj(I:Inv X pZ σ H s):∀{ds ds':List Dv}{vs:List V},iw X.K H vs ds->iw X.K H vs ds'->ds=ds'
 |[],[],_,_,_=>rfl
 |[],_::_,[],_,h'=>by unfold iw at h';erw[h'.elim]
 |[],_::_,_::_,h,_=>by unfold iw at h;erw[h.elim]
 |_::_,[],[],h,_=>by unfold iw at h;erw[h.elim]
 |_::_,[],_::_,_,h'=>by unfold iw at h';erw[h'.elim]
 |d::ds,d'::ds',[],h,_=>by unfold iw at h;erw[h.elim]
 |d::ds,d'::ds',v::vs,h,h'=>by
  unfold iw at h h';rw[fZ.inj I h.1 h'.1,iw.inj I h.2 h'.2]
end
theorem lV:∀{ds:List Dv}{i:Nat}{d:Dv},ds[i]?=some d->d.depth<=Dv.jt ds
 |d::ds,0,_,h=>by
  simp at h;subst h;unfold Dv.jt;erw[Nat.le_max_left _ _]
 |d::ds,i+1,_,h=>by
  have:=lV (ds:=ds) (i:=i) (by simpa using h);unfold Dv.jt;erw[aI this (Nat.le_max_right _ _)]
 |[],_,_,h=>by simp at h
theorem BN(I:Inv X pZ σ H s):∀(n:Nat){A:dF}{d d':Dv}{x y:V}{u v:Value},d.depth<=n->A.units+n<eI->fZ X.K H x d->fZ X.K H y d'->RelV x u->RelV y v->vO A s u v (nM d d'):=by
 intro n;induction n with
 |zero=>
  intro A d d' x y u v hn hu hx hy rx ry;cases d with
  |tup ds=>unfold Dv.depth at hn;omega
  |lst ds=>unfold Dv.depth at hn;omega
  |bQ=>
   unfold fZ at hx;subst hx;cases rx;cases d'<;>unfold fZ at hy
   .subst hy;cases ry;erw[jA _]
   .subst hy;cases ry;erw[wo _]
   .subst hy;let#[t,rfl]:=ry;erw[nE _ _]
   .subst hy;let#[t,rfl]:=ry;erw[nF _ _]
   .let#[a,vs,rfl,hq,_]:=hy;cases ry;let#[its,_,p,_]:=I.tuple hq;erw[SeqAt.EqAt.none_tuple p ∅]
   .let#[a,vs,rfl,hq,_]:=hy;cases ry;let#[its,_,p,_]:=I.list hq;erw[SeqAt.EqAt.none_list p.isList ∅]
  |bl b=>
   unfold fZ at hx;subst hx;cases rx;cases d'<;>unfold fZ at hy
   .subst hy;cases ry;erw[wq _]
   .subst hy;cases ry;erw[wt _ _]
   .subst hy;let#[t,rfl]:=ry;erw[xN _ _ _]
   .subst hy;let#[t,rfl]:=ry;erw[xO _ _ _]
   .let#[a,vs,rfl,hq,_]:=hy;cases ry;let#[its,_,p,_]:=I.tuple hq;erw[SeqAt.EqAt.bool_tuple _ p ∅]
   .let#[a,vs,rfl,hq,_]:=hy;cases ry;let#[its,_,p,_]:=I.list hq;erw[SeqAt.EqAt.bool_list _ p.isList ∅]
  |int i=>
   unfold fZ at hx;subst hx;let#[t0,rfl]:=rx;cases d'<;>unfold fZ at hy
   .subst hy;cases ry;erw[nA _ _]
   .subst hy;cases ry;erw[xP _ _ _]
   .subst hy;let#[t,rfl]:=ry;erw[yZ _ _ _ _]
   .subst hy;let#[t,rfl]:=ry;erw[ou _ _ _ _]
   .let#[a,vs,rfl,hq,_]:=hy;cases ry;let#[its,_,p,_]:=I.tuple hq;erw[SeqAt.EqAt.int_tuple _ _ p ∅]
   .let#[a,vs,rfl,hq,_]:=hy;cases ry;let#[its,_,p,_]:=I.list hq;erw[SeqAt.EqAt.int_list _ _ p.isList ∅]
  |str l=>
   unfold fZ at hx;subst hx;let#[t0,rfl]:=rx;cases d' with
   |bQ=>unfold fZ at hy;subst hy;cases ry;erw[nB _ _]
   |bl b=>unfold fZ at hy;subst hy;cases ry;erw[xQ _ _ _]
   |int i=>unfold fZ at hy;subst hy;let#[t,rfl]:=ry;erw[ow _ _ _ _]
   |str l'=>
    unfold fZ at hy;subst hy;let#[t,rfl]:=ry;have e:(tx l==tx l')=nM (.str l) (.str l'):=by
     unfold nM;rw[cY,beq_iff_eq,beq_iff_eq]
     erw[Nj]
    rw[<-e]
    erw[y6 _ _ _ _]
   |tup ds=>unfold fZ at hy;let#[a,vs,rfl,hq,_]:=hy;cases ry;let#[its,_,p,_]:=I.tuple hq;erw[SeqAt.EqAt.str_tuple _ _ p ∅]
   |lst ds=>unfold fZ at hy;let#[a,vs,rfl,hq,_]:=hy;cases ry;let#[its,_,p,_]:=I.list hq;erw[SeqAt.EqAt.str_list _ _ p.isList ∅]
 |succ n ih=>
  intro A d d' x y u v hn hu hx hy rx ry;have items:∀{vs vs':List V}{ds ds':List Dv}{its its':List Value},Dv.jt ds<=n->iw X.K H vs ds->iw X.K H vs' ds'->Vals vs its->Vals vs' its' ->
    ∃e:Nat->Bool,(∀j(h1:j<its.toArray.size)(h2:j<its'.toArray.size),vO A.in1 s its.toArray[j] its'.toArray[j] (e j))/\((cq (min its.toArray.size its'.toArray.size)).all e&&its.toArray.size==its'.toArray.size)=n8 ds ds':=by
   intro vs vs' ds ds' its its' hd h1 h2 r1 r2;have l1:=h1.len;have l2:=h2.len;have m1:=r1.length;have m2:=r2.length;refine#[λj=>match ds[j]?,ds'[j]? with|some a,some b=>nM a b|_,_=>true,λj k1 k2=>?_,?_]
   .rw[aF] at k1 k2
    have j1:j<ds.length:=∅
    have j2:j<ds'.length:=∅
    have i1:j<vs.length:=∅
    have i2:j<vs'.length:=∅
    have e1:ds[j]?=some ds[j]:=ab j1;have e2:ds'[j]?=some ds'[j]:=ab j2;have f1:vs[j]?=some vs[j]:=ab i1;have f2:vs'[j]?=some vs'[j]:=ab i2;let#[w1,g1,q1]:=r1.get f1;let#[w2,g2,q2]:=r2.get f2;have a1:its.toArray[j]=w1:=by
     let#[_,z]:=af.mp g1;simpa using z
    have a2:its'.toArray[j]=w2:=by
     let#[_,z]:=af.mp g2;simpa using z
    rw[a1,a2]
    dsimp only;rw[e1,e2]
    erw[ih (aI (lV e1) hd) (by show A.units+1+n<eI;omega) (h1.get f1 e1) (h2.get f2 e2) q1 q2]
   .rw[aF,aF,<-m1,<-m2,l1,l2]
    rwa[mz ds ds' _ λi a b h1 h2=>?_]
    rw[h1,h2]
  by_cases hz:d.depth<=n
  .erw[ih hz ∅ hx hy rx ry]
  .cases d with
   |bQ=>unfold Dv.depth at hz;omega
   |bl b=>unfold Dv.depth at hz;omega
   |int b=>unfold Dv.depth at hz;omega
   |str b=>unfold Dv.depth at hz;omega
   |tup ds=>
    have hx0:=hx;unfold fZ at hx;let#[a,vs,rfl,hq,hd]:=hx;cases rx;let#[its,r1,p,_]:=I.tuple hq;unfold Dv.depth at hn;cases d' with
    |bQ=>unfold fZ at hy;subst hy;cases ry;erw[SeqAt.EqAt.tuple_none p ∅]
    |bl b=>unfold fZ at hy;subst hy;cases ry;erw[SeqAt.EqAt.tuple_bool _ p ∅]
    |int i=>unfold fZ at hy;subst hy;let#[t,rfl]:=ry;erw[SeqAt.EqAt.tuple_int _ _ p ∅]
    |str l'=>unfold fZ at hy;subst hy;let#[t,rfl]:=ry;erw[SeqAt.EqAt.tuple_str _ _ p ∅]
    |lst ds'=>unfold fZ at hy;let#[a',vs',rfl,hq',_]:=hy;cases ry;let#[its',_,p',_]:=I.list hq';erw[SeqAt.EqAt.tuple_list p p'.isList ∅]
    |tup ds'=>
     have hy0:=hy;unfold fZ at hy;let#[a',vs',rfl,hq',hd']:=hy;cases ry;let#[its',r2,p',_]:=I.tuple hq';by_cases e:a=a'
     .subst e
      rw[fZ.inj I hx0 hy0,uT]
      erw[jA _]
     .let#[f,hf,ef]:=items ∅ hd hd' r1 r2
      unfold nM;rw[<-ef]
      erw[y9 e (zu p p' ∅ hf)]
   |lst ds=>
    have hx0:=hx;unfold fZ at hx;let#[a,vs,rfl,hq,hd]:=hx;cases rx;let#[its,r1,p,_]:=I.list hq;unfold Dv.depth at hn;cases d' with
    |bQ=>unfold fZ at hy;subst hy;cases ry;erw[SeqAt.EqAt.list_none p.isList ∅]
    |bl b=>unfold fZ at hy;subst hy;cases ry;erw[SeqAt.EqAt.list_bool _ p.isList ∅]
    |int i=>unfold fZ at hy;subst hy;let#[t,rfl]:=ry;erw[SeqAt.EqAt.list_int _ _ p.isList ∅]
    |str l'=>unfold fZ at hy;subst hy;let#[t,rfl]:=ry;erw[SeqAt.EqAt.list_str _ _ p.isList ∅]
    |tup ds'=>unfold fZ at hy;let#[a',vs',rfl,hq',_]:=hy;cases ry;let#[its',_,p',_]:=I.tuple hq';erw[SeqAt.EqAt.list_tuple p.isList p' ∅]
    |lst ds'=>
     have hy0:=hy;unfold fZ at hy;let#[a',vs',rfl,hq',hd']:=hy;cases ry;let#[its',r2,p',_]:=I.list hq';by_cases e:a=a'
     .subst e
      rw[fZ.inj I hx0 hy0,uT]
      erw[jA _]
     .let#[f,hf,ef]:=items ∅ hd hd' r1 r2
      unfold nM;rw[<-ef]
      rwa[y9 e ?_];by_cases el:its.toArray.size=its'.toArray.size
      .have:((cq (min its.toArray.size its'.toArray.size)).all f&&its.toArray.size==its'.toArray.size)=(cq its.toArray.size).all f:=by
        rw[el,Nat.min_self]
        simp
       rw[this]
       erw[SeqAt.RcAt.lists p.isList p'.isList el ∅ hf]
      .have:((cq (min its.toArray.size its'.toArray.size)).all f&&its.toArray.size==its'.toArray.size)=false:=by
        have:(its.toArray.size==its'.toArray.size)=false:=by simpa using el
        rw[this,Bool.and_false]
       rw[this]
       exact SeqAt.RcAt.lists_lengths p.isList p'.isList (by simpa using el) ∅
noncomputable def Xv(K:Frag):R2:=λx y H Q=>∃ds d',fZ K H x (.tup ds)/\fZ K H y d'/\Dv.jt ds<=100/\Q (.bl (nM (.tup ds) d')) H
theorem OY(hu:X.A.units+200<eI):gH X (bA .Eq) (Xv X.K):=by
 intro pZ s σ H x y u v Q I rx ry h;let#[ds,d',hx,hy,hz,q]:=h;have fin:∀b,b=nM (.tup ds) d'->EP X pZ σ Q (.bool b) s:=λb e=>by rw[e];exact#[.bl _,H,I,rfl,q]
 have hx0:=hx;unfold fZ at hx;let#[a,vs,rfl,hq,hd]:=hx;cases rx;let#[its,r1,p,_]:=I.tuple hq;cases d' with
 |bQ=>unfold fZ at hy;subst hy;cases ry;erw[SeqAt.RcAt.tuple_none p ∅ _ _ _ _ (fin _ (by unfold nM;rfl))]
 |bl b=>unfold fZ at hy;subst hy;cases ry;erw[SeqAt.RcAt.tuple_bool _ p ∅ _ _ _ _ (fin _ (by unfold nM;rfl))]
 |int i=>unfold fZ at hy;subst hy;let#[t,rfl]:=ry;erw[SeqAt.RcAt.tuple_int _ _ p ∅ _ _ _ _ (fin _ (by unfold nM;rfl))]
 |str l'=>unfold fZ at hy;subst hy;let#[t,rfl]:=ry;erw[SeqAt.RcAt.tuple_str _ _ p ∅ _ _ _ _ (fin _ (by unfold nM;rfl))]
 |lst ds'=>unfold fZ at hy;let#[a',vs',rfl,hq',_]:=hy;cases ry;let#[its',_,p',_]:=I.list hq';erw[SeqAt.RcAt.tuple_list p p'.isList ∅ _ _ _ _ (fin _ (by unfold nM;rfl))]
 |tup ds'=>
  unfold fZ at hy;let#[a',vs',rfl,hq',hd']:=hy;cases ry;let#[its',r2,p',_]:=I.tuple hq';have l1:=hd.len;have l2:=hd'.len;have m1:=r1.length;have m2:=r2.length;refine zu (e:=λj=>match ds[j]?,ds'[j]? with|some a,some b=>nM a b|_,_=>true) p p' ∅ (λj k1 k2=>?_) _ _ _ _ (fin _ ?_)
  .rw[aF] at k1 k2
   have e1:ds[j]?=some (ds[j]'∅):=ab _;have e2:ds'[j]?=some (ds'[j]'∅):=ab _;have f1:vs[j]?=some (vs[j]'∅):=ab _;have f2:vs'[j]?=some (vs'[j]'∅):=ab _;let#[w1,g1,q1]:=r1.get f1;let#[w2,g2,q2]:=r2.get f2;have a1:its.toArray[j]=w1:=by
    let#[_,z]:=af.mp g1;simpa using z
   have a2:its'.toArray[j]=w2:=by
    let#[_,z]:=af.mp g2;simpa using z
   rw[a1,a2,e1,e2]
   erw[BN I 100 (aI (lV e1) hz) (by show X.A.units+1+100<eI;omega) (hd.get f1 e1) (hd'.get f2 e2) q1 q2]
  .rw[aF,aF,<-m1,<-m2,l1,l2]
   rw[show nM (.tup ds) (.tup ds')=n8 ds ds' from by unfold nM;rfl]
   rwa[mz ds ds' _ λi a b h1 h2=>?_]
   rw[h1,h2]
end
end L2
namespace PL
theorem _root_.Lake.L2.ff{P:Prop}(h:false=true):P:=by cases h
theorem _root_.Lake.L2.nn{α:Type}{x:α}{P:Prop}(h:(none:Option α)=some x):P:=by cases h
inductive U where
 |bQ|bl (b:Bool)|int (i:Int)|str (l:List Nat)|tup (us:List U)|loc (n:Nat)
 |rY (ns:List Int)|tab (kvs:List (List Nat×List Nat))
instance:Inhabited U:=#[.bQ]
inductive SO where
 |lst (us:List U)|dU (kvs:List (U×U))|ins (c:String) (fs:List (String×U))
 |pR (kvs:List (U×U))|tR (kvs:List (List Int×U))|wV (kvs:List ((Int×List Int)×U))
structure Xn where
 c:String
 us:List U
abbrev Env:=List (Option U)
abbrev bD:=List SO
abbrev KU:=U->bD->Prop
abbrev KX:=Xn->bD->Prop
abbrev Spec:=List U->bD->KU->KX->Prop
abbrev b8:=String->Spec
inductive FT where|add|sub|mul|fdiv|mod|band|bor|shl|shr
inductive Nk where|eq|ne|lt|le|gt|ge|isin|n9|OZ|zW|BO
inductive Tv where|len|tuple|list|sum|all|any|int|dict|uU|max
inductive O0 where|join|index|startswith|append|extend|get|mB|ni|vals
mutual
inductive Ex where
 |var (i:Nat)|lit (u:U)
 |bin (o:FT) (a b:Ex)|neg (a:Ex)|not (a:Ex)|and (a b:Ex)|or (a b:Ex)
 |cmp (o:Nk) (a b:Ex)|FU (c:Tx) (a b:Ex)
 |call (f:String) (as:zd)|mk (c q:String) (as:zd)|cF (c m q:String) (o:Ex) (as:zd)
 |blt (f:Tv) (as:zd)|ju (m:O0) (o:Ex) (as:zd)
 |fld (o:Ex) (f:String)|ix (o i:Ex)|sl (o:Ex) (lo hi:Ox)
 |tup (as:zd)|lst (as:zd)|dU (ks vs:zd)
 |comp (pr:Bool) (e:Ex) (it:It) (c:Tx) (ci:List Nat)
 |FV (o k:Ex)
inductive zd where|nil|cons (e:Ex) (es:zd)
inductive It where|val (e:Ex)|range (e:Ex)|enum (e:Ex)|rev (e:Ex)|keys (e:Ex)
inductive Ox where|no|e (a:Ex)
inductive Tx where|dw (e:Ex)|not (t:Tx)|and (a b:Tx)|or (a b:Tx)
end
inductive Tg where|name (i:Nat)|pair (i j:Nat)
set_option genInjectivity false in
mutual
inductive Sm where
 |set (i:Nat) (e:Ex)|mC (o:Ex) (f:String) (e:Ex)|Li (o i e:Ex)|ni (o k e:Ex)
 |aug (i:Nat) (p:FT) (e:Ex)|BP (o:Ex) (f:String) (p:FT) (e:Ex)|EJ (o i:Ex) (p:FT) (e:Ex)
 |ex (e:Ex)|ret (e:Ex)|ifs (c:Tx) (a b:dB)|A2 (c:Tx) (b:dB)|je (t:Tg) (it:It) (b:dB)
 |RK (b:dB)
inductive dB where|nil|cons (s:Sm) (ss:dB)
end
section
variable{α:Type}
def opt(o:Option α)(Q:α->Prop):Prop:=match o with|some a=>Q a|none=>False
def yj(o:Option (Option U))(Q:U->Prop):Prop:=match o with|some (some u)=>Q u|_=>False
def getL(o:Option SO)(Q:List U->Prop):Prop:=match o with|some (.lst us)=>Q us|_=>False
def getD(o:Option SO)(Q:List (U×U)->Prop):Prop:=match o with|some (.dU kvs)=>Q kvs|_=>False
def oa(o:Option SO)(Q:String->List (String×U)->Prop):Prop:=match o with|some (.ins c fs)=>Q c fs|_=>False
def Nl(x:U)(Q:Bool->Prop):Prop:=match x with|.bl b=>Q b|_=>False
def lh(x:U)(Q:Int->Prop):Prop:=match x with|.int i=>Q i|_=>False
def rZ(x:U)(Q:Nat->Prop):Prop:=match x with|.loc n=>Q n|_=>False
def Nm(x:U)(Q:U->U->Prop):Prop:=match x with|.tup [a,b]=>Q a b|_=>False
@[simp] theorem bB{a:α}{Q:α->Prop}:opt (some a) Q=Q a:=rfl
@[simp] theorem Tw:opt none Q=False:=rfl
@[simp] theorem wW:yj (some (some u)) Q=Q u:=rfl
@[simp] theorem aC{us:List U}{Q:List U->Prop}:getL (some (.lst us)) Q=Q us:=rfl
@[simp] theorem getD_some:getD (some (.dU us)) Q=Q us:=rfl
@[simp] theorem bN:oa (some (.ins c fs)) Q=Q c fs:=rfl
@[simp] theorem Hh:Nl (.bl b) Q=Q b:=rfl
@[simp] theorem We:lh (.int i) Q=Q i:=rfl
@[simp] theorem Wf:rZ (.loc n) Q=Q n:=rfl
@[simp] theorem Lj:Nm (.tup [a,b]) Q=Q a b:=rfl
theorem iC:opt o Q↔∃a,o=some a/\Q a:=by cases o<;>simp[opt]
theorem zX:yj o Q↔∃a,o=some (some a)/\Q a:=by
 rcases o with _|_|a<;>simp[yj]
theorem cH:getL o Q↔∃a,o=some (.lst a)/\Q a:=
 #[λw=>by rcases o with _|a|a|a|a|a|a<;>first|exact#[_,rfl,w]|exact aL w,by rintro⟨b,rfl,w⟩;exact w]
theorem zY:getD o Q↔∃a,o=some (.dU a)/\Q a:=
 #[λw=>by rcases o with _|a|a|a|a|a|a<;>first|exact#[_,rfl,w]|exact aL w,by rintro⟨b,rfl,w⟩;exact w]
theorem lW{o:Option SO}{Q:String->List (String×U)->Prop}:oa o Q↔∃c fs,o=some (.ins c fs)/\Q c fs:=
 #[λw=>by rcases o with _|a|a|a|a|a|a<;>first|exact#[_,_,rfl,w]|exact aL w,by rintro⟨b,c,rfl,w⟩;exact w]
theorem yk:Nl x Q↔∃b,x=.bl b/\Q b:=#[λw=>by cases x<;>first|exact#[_,rfl,w]|exact aL w,by rintro⟨b,rfl,w⟩;exact w]
theorem eL:lh x Q↔∃b,x=.int b/\Q b:=#[λw=>by cases x<;>first|exact#[_,rfl,w]|exact aL w,by rintro⟨b,rfl,w⟩;exact w]
theorem gO:rZ x Q↔∃b,x=.loc b/\Q b:=#[λw=>by cases x<;>first|exact#[_,rfl,w]|exact aL w,by rintro⟨b,rfl,w⟩;exact w]
theorem C4:Nm x Q↔∃a b,x=.tup [a,b]/\Q a b:=by
 refine#[λw=>?_,by rintro⟨a,b,rfl,w⟩;exact w];cases x<;>first|exact aL w|skip
 rename_i us;rcases us with _|⟨a,_|⟨b,_|_⟩⟩<;>first|exact aL w|exact#[_,_,rfl,w]
end
def iy(o:Option SO)(Q:List (U×U)->Prop):Prop:=match o with|some (.dU kvs)=>Q kvs|some (.pR kvs)=>Q kvs|_=>False
theorem kG:iy (some (.dU us)) Q=Q us:=rfl
theorem iP:iy o Q↔∃a,(o=some (.dU a)\/o=some (.pR a))/\Q a:=
 #[λw=>by rcases o with _|a|a|a|a|a|a<;>first|exact#[_,.inl rfl,w]|exact#[_,.inr rfl,w]|exact aL w,by rintro⟨b,rfl|rfl,w⟩<;>exact w]
noncomputable def mD:U->Bool
 |.bQ=>true|.int _=>true|.str _=>true
 |_=>false
noncomputable def RL:U->U->Bool
 |.bQ,.bQ=>true
 |.int a,.int b=>a==b
 |.str a,.str b=>a==b
 |_,_=>false
noncomputable def tU(k:U):List (U×U)->Option U
 |[]=>none
 | (a,v)::r=>if RL a k=true then some v else tU k r
mutual
noncomputable def A3:U->Bool
 |.bQ=>true|.bl _=>true|.int _=>true|.str _=>true
 |.tup us=>qH us
 |_=>false
noncomputable def qH:List U->Bool
 |[]=>true
 |u::us=>A3 u&&qH us
end
mutual
noncomputable def dep:U->Nat
 |.tup us=>BQ us+1
 |_=>0
noncomputable def BQ:List U->Nat
 |[]=>0
 |u::us=>max (dep u) (BQ us)
end
mutual
noncomputable def FW:U->U->Bool
 |.bQ,.bQ=>true
 |.bl a,.bl b=>a==b
 |.bl a,.int b=>(if a then 1 else 0)== b
 |.int a,.bl b=>a==(if b then 1 else 0)
 |.int a,.int b=>a==b
 |.str a,.str b=>a==b
 |.tup as,.tup bs=>Lk as bs
 |_,_=>false
noncomputable def Lk:List U->List U->Bool
 |[],[]=>true
 |x::xs,y::ys=>FW x y&&Lk xs ys
 |_,_=>false
end
noncomputable def Hi:U->U->Bool
 |.tup _,_=>true
 |.bQ,.bQ=>true|.bQ,.int _=>true|.bQ,.bl _=>true|.bQ,.str _=>true
 |.int _,.bQ=>true|.int _,.int _=>true|.int _,.str _=>true
 |.bl _,.bQ=>true|.bl _,.bl _=>true|.bl _,.str _=>true
 |.str _,.bQ=>true|.str _,.int _=>true|.str _,.bl _=>true|.str _,.str _=>true
 |_,_=>false
def vX(x y:U)(Q:Bool->Prop):Prop:=(Hi x y=true/\A3 x=true/\A3 y=true/\dep x<=100)/\Q (FW x y)
noncomputable def Hj:U->Bool
 |.tup _=>false
 |_=>true
noncomputable def BR:U->U->Bool
 |.tup _,.tup _=>true
 |.tup _,_=>false
 |_,_=>true
noncomputable def flat:U->Bool
 |.bQ=>true|.bl _=>true|.int _=>true|.str _=>true
 |_=>false
def qI(x:U)(us:List U)(Q:Bool->Prop):Prop:=(flat x=true/\us.all flat=true)/\Q (us.any λy=>FW y x)
noncomputable def iM:List Nat->List Nat->Bool
 |a,[]=>a.isEmpty
 |a,b::bs=>a.isPrefixOf (b::bs)||iM a bs
noncomputable def nj(S:bD):U->Option Nat
 |.str l=>some l.length
 |.tup us=>some us.length
 |.rY ns=>some ns.length
 |.loc n=>match S[n]? with
  |some (.lst us)=>some us.length
  |some (.dU kvs)=>some kvs.length
  |some (.wV kvs)=>some kvs.length
  |_=>none
 |_=>none
noncomputable def uV(S:bD):U->Option Bool
 |.bQ=>some false
 |.bl b=>some b
 |.int i=>some (i !=0)
 |.str _=>none
 |.loc n=>match S[n]? with
  |some (.wV _)=>none
  |_=>(nj S (.loc n)).map λn=>n !=0
 |u=>(nj S u).map λn=>n !=0
noncomputable def Nn(n:Nat)(i:Int):Option Nat:=if 0<=i then(if i<n then some i.toNat else none) else if -(n:Int)<=i then some (i+n).toNat else none
noncomputable def sS{α:Type}(xs:List α)(i:Int):Option α:=(Nn xs.length i).bind λj=>xs[j]?
noncomputable def pS{α:Type}(xs:List α)(lo hi:Option Int):List α:=(xs.drop (min (lo.getD 0).toNat xs.length)).take (min (hi.getD xs.length).toNat xs.length-min (lo.getD 0).toNat xs.length)
def Np(x:U)(Q:List Nat->Prop):Prop:=match x with|.str a=>Q a|_=>False
def Wg(x:U)(Q:Prop):Prop:=match x with|.bQ=>Q|_=>False
def Y9(x:U)(Q:List U->Prop):Prop:=match x with|.tup a=>Q a|_=>False
theorem oG:Np x Q↔∃b,x=.str b/\Q b:=#[λw=>by cases x<;>first|exact#[_,rfl,w]|exact aL w,by rintro⟨b,rfl,w⟩;exact w]
theorem Lm:Y9 x Q↔∃b,x=.tup b/\Q b:=#[λw=>by cases x<;>first|exact#[_,rfl,w]|exact aL w,by rintro⟨b,rfl,w⟩;exact w]
theorem kK{x y:U}{P:Int->Int->Prop}(w:lh x λi=>lh y (P i)):∃i j,x=.int i/\y=.int j/\P i j:=by
 let#[i,e,w]:=eL.mp w;let#[j,e',w]:=eL.mp w;exact#[i,j,e,e',w]
def j5(o:FT)(x y:U)(S:bD)(Q:KU):Prop:=
 match o with
 |.add=>match x with
  |.int i=>lh y λj=>Q (.int (i+j)) S
  |.str a=>Np y λb=>a.length+b.length<=1000000/\Q (.str (a++b)) S
  |.tup a=>Y9 y λb=>a.length+b.length<=1000000/\Q (.tup (a++b)) S
  |.loc m=>rZ y λn=>getL S[m]? λa=>getL S[n]? λb=>a.length+b.length<=1000000/\Q (.loc S.length) (S++[.lst (a++b)])
  |_=>False
 |.sub=>lh x λi=>lh y λj=>Q (.int (i-j)) S
 |.mul=>match x with
  |.int i=>lh y λj=>((-(2^64)<i/\i<2^64)\/(-(2^64)<j/\j<2^64))/\Q (.int (i*j)) S
  |.str a=>lh y λj=>∃c,a=[c]/\0<=j/\j<=1000/\Q (.str (dH j.toNat c)) S
  |_=>False
 |.fdiv=>lh x λi=>lh y λj=>(0<j/\j<1073741824)/\Q (.int (i/j)) S
 |.mod=>lh x λi=>lh y λj=>0<j/\Q (.int (i%j)) S
 |.band=>lh x λi=>lh y λj=>(0<=i/\0<=j)/\Q (.int ((i.toNat&&&j.toNat:Nat):Int)) S
 |.bor=>lh x λi=>lh y λj=>(0<=i/\0<=j)/\Q (.int ((i.toNat|||j.toNat:Nat):Int)) S
 |.shl=>lh x λi=>lh y λj=>(0<=i/\i<1000/\0<=j/\j<=1000)/\Q (.int (i*2^j.toNat)) S
 |.shr=>lh x λi=>lh y λj=>(0<=i/\0<=j)/\Q (.int (i/2^j.toNat)) S
def yl(o:FT)(x y:U)(S:bD)(Q:KU):Prop:=
 match x with
 |.int i=>j5 o (.int i) y S Q
 |.str a=>j5 o (.str a) y S Q
 |_=>False
noncomputable def uW(x:U):Bool:=match x with|.bQ=>true|_=>false
def Wh(x y:U)(Q:Bool->Prop):Prop:=BR x y=true/\vX x y λb=>Q !b
def Xw(x:U)(us:List U)(Q:Bool->Prop):Prop:=match x with
 |.tup xs=>(qH xs=true/\qH us=true/\BQ us<=100)/\Q !(us.any λy=>FW y (.tup xs))
 |x=>qI x us λb=>Q !b
def fV(o:Nk)(x y:U)(S:bD)(Q:Bool->Prop):Prop:=
 match o with
 |.eq=>vX x y Q
 |.ne=>Wh x y Q
 |.lt=>lh x λi=>lh y λj=>Q (decide (i<j))
 |.le=>lh x λi=>lh y λj=>Q (decide (i<=j))
 |.gt=>lh x λi=>lh y λj=>Q (decide (j<i))
 |.ge=>lh x λi=>lh y λj=>Q (decide (j<=i))
 |.isin=>match y with
  |.str b=>Np x λa=>Q (iM a b)
  |.tab kvs=>Np x λa=>Q (kvs.lookup a).isSome
  |.tup us=>qI x us Q
  |.loc n=>getL S[n]? λus=>qI x us Q
  |_=>False
 |.n9=>match y with
  |.str b=>Np x λa=>Q !(iM a b)
  |.tup us=>qI x us λb=>Q !b
  |.loc n=>getL S[n]? λus=>Xw x us Q
  |_=>False
 |.OZ=>Wg y (Q (uW x))
 |.zW=>Wg y (Q !(uW x))
 |.BO=>rZ y λn=>iy S[n]? λkvs=>mD x=true/\Q (tU x kvs).isNone
def C5(x y:U)(S:bD)(Q:U->Prop):Prop:=
 match x with
 |.str l=>lh y λi=>l.length<=1000000/\opt (sS l i) λc=>Q (.str [c])
 |.tup us=>lh y λi=>us.length<=1000000/\opt (sS us i) Q
 |.rY ns=>lh y λi=>ns.length<=1000000/\opt (sS ns i) λn=>Q (.int n)
 |.loc n=>lh y λi=>getL S[n]? λus=>opt (sS us i) Q
 |.tab kvs=>Np y λk=>opt (kvs.lookup k) λv=>Q (.str v)
 |_=>False
def Ln(x y:U)(S:bD)(Q:U->Prop):Prop:=rZ x λn=>iy S[n]? λkvs=>mD y=true/\opt (tU y kvs) Q
def RM(x:U)(lo hi:Option Int)(S:bD)(Q:KU):Prop:=
 ((∀i,lo=some i->0<=i)/\∀i,hi=some i->0<=i)/\match x with
 |.str l=>l.length<=1000000/\Q (.str (pS l lo hi)) S
 |.tup us=>(us.length<=1000000/\us≠[]/\0<lo.getD 0)/\Q (.tup (pS us lo hi)) S
 |.loc n=>getL S[n]? λus=>Q (.loc S.length) (S++[.lst (pS us lo hi)])
 |_=>False
noncomputable def lj(sep:List Nat):List (List Nat)->List Nat
 |[]=>[]
 |[x]=>x
 |x::r=>x++sep++lj sep r
noncomputable def sT(n:Nat):Nat:=if n=0 then 0 else n.log2+1
def r6(f:Tv)(us:List U)(S:bD)(Q:KU):Prop:=
 match f,us with
 |.len,[x]=>opt (nj S x) λn=>n<=1000000/\Q (.int n) S
 |.tuple,[.loc n]=>getL S[n]? λus=>Q (.tup us) S
 |.list,[.loc n]=>getL S[n]? λus=>Q (.loc S.length) (S++[.lst us])
 |.list,[.tup us]=>us.length<=1000000/\Q (.loc S.length) (S++[.lst us])
 |.all,[.loc n]=>∃bs:List Bool,S[n]?=some (.lst (bs.map .bl))/\Q (.bl (bs.all id)) S
 |.any,[.loc n]=>∃bs:List Bool,S[n]?=some (.lst (bs.map .bl))/\Q (.bl (bs.any id)) S
 |.sum,[.loc n]=>∃is:List Int,S[n]?=some (.lst (is.map .int))/\Q (.int is.sum) S
 |.dict,[.loc n]=>∃ps:List (List Nat×U),S[n]?=some (.lst (ps.map λp=>.tup [.str p.1,p.2]))/\(ps.map (·.1)).Nodup/\Q (.loc S.length) (S++[.dU (ps.map λp=>(.str p.1,p.2))])
 |.max,[.loc n]=>∃(i:Int)(is:List Int),S[n]?=some (.lst ((i::is).map .int))/\∀m∈i::is,(∀j∈i::is,j<=m)->Q (.int m) S
 |.uU,[.loc n]=>∃t ts,S[n]?=some (.lst ((t::ts).map .str))/\(∀u∈t::ts,u.length<=1000000)/\Q (.str (ts.foldl (λb x=>if x.length<b.length then x else b) t)) S
 |_,_=>False
def Zc{κ:Type}[BEq κ](kvs:List (κ×U))(k:κ)(f:List (κ×U)->SO)(S:bD)(n:Nat)(d:U)(Q:KU):Prop:=
 kvs.length<1000000/\match kvs.lookup k with
  |some v=>Q v S
  |none=>Q d (S.set n (f (kvs++[(k,d)])))
def pB(S:bD)(n:Nat)(k d:U)(Q:KU):Prop:=
 match S[n]? with
 |some (.dU kvs)=>(mD k=true/\kvs.length<1000000)/\match tU k kvs with
  |some v=>Q v S
  |none=>Q d (S.set n (.dU (kvs++[(k,d)])))
 |some (.tR kvs)=>∃ks,k=.tup (ks.map .int)/\Zc kvs ks .tR S n d Q
 |some (.wV kvs)=>∃b ks,k=.tup [.int b,.tup (ks.map .int)]/\Zc kvs (b,ks) .wV S n d Q
 |_=>False
def qJ(m:O0)(x:U)(us:List U)(S:bD)(Q:KU):Prop:=
 match m,x,us with
 |.join,.str sep,[.loc n]=>∃ts:List (List Nat),S[n]?=some (.lst (ts.map .str))/\(ts.map dh).sum+ts.length*sep.length<=1000000/\Q (.str (lj sep ts)) S
 |.index,.str l,[.str k]=>∃c,k=[c]/\c∈l/\Q (.int (l.idxOf c:Nat)) S
 |.startswith,.str l,[.str k]=>Q (.bl (k.isPrefixOf l)) S
 |.mB,.int i,[]=>0<=i/\Q (.int (sT i.toNat:Nat)) S
 |.get,.loc n,[.str k,d]=>getD S[n]? λkvs=>∃ps:List (List Nat×U),kvs=(ps.map λp=>(U.str p.1,p.2))/\Q ((ps.lookup k).getD d) S
 |.get,.loc n,[k]=>iy S[n]? λkvs=>mD k=true/\Q ((tU k kvs).getD .bQ) S
 |.ni,.loc n,[k,d]=>pB S n k d Q
 |.vals,.loc n,[]=>match S[n]? with
  |some (.tR kvs)=>Q (.loc S.length) (S++[.lst (kvs.map (·.2))])
  |_=>False
 |.append,.loc n,[u]=>getL S[n]? λus=>us.length<1000000/\Q .bQ (S.set n (.lst (us++[u])))
 |.extend,.loc n,[.loc m]=>getL S[n]? λus=>getL S[m]? λws=>us.length+ws.length<=1000000/\Q .bQ (S.set n (.lst (us++ws)))
 |_,_,_=>False
def tG(m:O0)(x:U)(S:bD):Prop:=
 match m,x with
 |.join,.str _=>True|.index,.str _=>True|.startswith,.str _=>True
 |.append,.loc n=>getL S[n]? λ_=>True
 |.extend,.loc n=>getL S[n]? λ_=>True
 |.get,.loc n=>iy S[n]? λ_=>True
 |.ni,.loc n=>match S[n]? with|some (.dU _)=>True|some (.tR _)=>True|some (.wV _)=>True|_=>False
 |.vals,.loc n=>match S[n]? with|some (.tR _)=>True|_=>False
 |.mB,.int _=>True
 |_,_=>False
noncomputable def gQ(f:String)(v:U):List (String×U)->List (String×U)
 |[]=>[(f,v)]
 | (g,x)::r=>if g=f then(g,v)::r else(g,x)::gQ f v r
def og(x:U)(f:String)(S:bD)(Q:U->Prop):Prop:=
 match x with
 |.loc n=>oa S[n]? λ_ fs=>opt (fs.lookup f) Q
 |_=>False
def vY(g:bD->Prop)(turn:U->Env->bD->(Env->bD->Prop)->Prop)(fin:Env->bD->Prop):List U->Env->bD->Prop
 |[],env,S=>g S/\fin env S
 |u::us,env,S=>g S/\turn u env S (vY g turn fin us)
def lX(g:bD->Prop)(c:U->bD->(Bool->bD->Prop)->Prop)(e:U->bD->KU->Prop)(Q:List U->bD->Prop):List U->List U->bD->Prop
 |[],acc,S=>g S/\acc.length<1000000/\Q acc S
 |u::us,acc,S=>g S/\acc.length<1000000/\c u S λb S1=>if b=true then e u S1 λv S2=>lX g c e Q us (acc++[v]) S2 else lX g c e Q us acc S1
def ym(c:Env->bD->(Bool->bD->Prop)->Prop)(b:Env->bD->(Env->bD->Prop)->Prop)(fin:Env->bD->Prop):Nat->Env->bD->Prop
 |0,_,_=>False
 |n+1,env,S=>c env S λt S1=>if t=true then b env S1 (ym c b fin n) else fin env S1
def Hk(x:U)(S:bD)(R:List U->(bD->Prop)->Prop):Prop:=
 match x with
 |.str l=>R (l.map λc=>.str [c]) (λ_=>True)
 |.tup us=>us.length<=1000000/\R us (λ_=>True)
 |.loc n=>getL S[n]? λus=>R us (λS'=>S'[n]?=some (.lst us))
 |_=>False
noncomputable def lY(env:Env)(ci:List Nat):Env:=ci.map λj=>(env[j]?).join
def pC(pr:Bool)(u:U)(caps:Env)(k:Env->Prop):Prop:=
 match pr with
 |false=>k (some u::caps)
 |true=>Nm u λa b=>k (some a::some b::caps)
mutual
noncomputable def WE(Γ:b8):Ex->Env->bD->KU->KX->Prop
 |.var i,env,S,Q,_=>yj env[i]? λu=>Q u S
 |.lit u,_,S,Q,_=>Q u S
 |.bin o a b,env,S,Q,E=>WE Γ a env S (λx S1=>WE Γ b env S1 (λy S2=>j5 o x y S2 Q) E) E
 |.neg a,env,S,Q,E=>WE Γ a env S (λx S1=>lh x λi=>Q (.int (-i)) S1) E
 |.not a,env,S,Q,E=>WE Γ a env S (λx S1=>Nl x λb=>Q (.bl !b) S1) E
 |.and a b,env,S,Q,E=>WE Γ a env S (λx S1=>Nl x λc=>if c=true then WE Γ b env S1 Q E else Q (.bl false) S1) E
 |.or a b,env,S,Q,E=>WE Γ a env S (λx S1=>Nl x λc=>if c=true then Q (.bl true) S1 else WE Γ b env S1 Q E) E
 |.cmp o a b,env,S,Q,E=>WE Γ a env S (λx S1=>WE Γ b env S1 (λy S2=>fV o x y S2 λr=>Q (.bl r) S2) E) E
 |.FU c a b,env,S,Q,E=>WT Γ c env S (λt S1=>if t=true then WE Γ a env S1 Q E else WE Γ b env S1 Q E) E
 |.call f as,env,S,Q,E=>vZ Γ as env S (λus S1=>Γ f us S1 Q E) E
 |.mk c q as,env,S,Q,E=>vZ Γ as env S (λus S1=>Γ q (.loc S1.length::us) (S1++[.ins c []]) (λv S2=>v=.bQ/\Q (.loc S1.length) S2) E) E
 |.cF c m q o as,env,S,Q,E=>WE Γ o env S (λx S1=>rZ x λn=>oa S1[n]? λc' fs=>(c'=c/\fs.lookup m=none)/\vZ Γ as env S1 (λus S2=>Γ q (x::us) S2 Q E) E) E
 |.blt f as,env,S,Q,E=>vZ Γ as env S (λus S1=>r6 f us S1 Q) E
 |.ju m o as,env,S,Q,E=>WE Γ o env S (λx S1=>tG m x S1/\vZ Γ as env S1 (λus S2=>qJ m x us S2 Q) E) E
 |.fld o f,env,S,Q,E=>WE Γ o env S (λx S1=>og x f S1 λv=>Q v S1) E
 |.ix o i,env,S,Q,E=>WE Γ o env S (λx S1=>WE Γ i env S1 (λy S2=>C5 x y S2 λv=>Q v S2) E) E
 |.sl o lo hi,env,S,Q,E=>WE Γ o env S (λx S1=>WO Γ lo env S1 (λl S2=>WO Γ hi env S2 (λh S3=>RM x l h S3 Q) E) E) E
 |.tup as,env,S,Q,E=>vZ Γ as env S (λus S1=>us.length<=1000000/\Q (.tup us) S1) E
 |.lst as,env,S,Q,E=>vZ Γ as env S (λus S1=>us.length<=1000000/\Q (.loc S1.length) (S1++[.lst us])) E
 |.dU ks vs,env,S,Q,E=>vZ Γ ks env S (λus S1=>vZ Γ vs env S1 (λws S2=>us.length<=100/\match us with
   |[]=>Q (.loc S2.length) (S2++[.dU []])\/Q (.loc S2.length) (S2++[.tR []])\/Q (.loc S2.length) (S2++[.wV []])
   |[k]=>mD k=true/\∃v,ws=[v]/\Q (.loc S2.length) (S2++[.dU [(k,v)]])
   |_=>False) E) E
 |.comp pr e it c ci,env,S,Q,E=>WI Γ it env S (λus g S1=>lX g (λu S2 k=>pC pr u (lY env ci) λen=>WT Γ c en S2 k λ_ _=>False)
   (λu S2 k=>pC pr u (lY env ci) λen=>WE Γ e en S2 k λ_ _=>False) (λacc S3=>Q (.loc S3.length) (S3++[.lst acc])) us [] S1) E
 |.FV o k,env,S,Q,E=>WE Γ o env S (λx S1=>WE Γ k env S1 (λy S2=>Ln x y S2 λv=>Q v S2) E) E
noncomputable def vZ(Γ:b8):zd->Env->bD->(List U->bD->Prop)->KX->Prop
 |.nil,_,S,Q,_=>Q [] S
 |.cons e es,env,S,Q,E=>WE Γ e env S (λx S1=>vZ Γ es env S1 (λxs S2=>Q (x::xs) S2) E) E
noncomputable def WO(Γ:b8):Ox->Env->bD->(Option Int->bD->Prop)->KX->Prop
 |.no,_,S,Q,_=>Q none S
 |.e a,env,S,Q,E=>WE Γ a env S (λx S1=>lh x λj=>Q (some j) S1) E
noncomputable def WI(Γ:b8):It->Env->bD->(List U->(bD->Prop)->bD->Prop)->KX->Prop
 |.val e,env,S,R,E=>WE Γ e env S (λx S1=>Hk x S1 λus g=>R us g S1) E
 |.range e,env,S,R,E=>WE Γ e env S (λx S1=>lh x λn=>n<=1000000/\-(1000000:Int)<=n/\R ((cq n.toNat).map λk=>.int (k:Nat)) (λ_=>True) S1) E
 |.enum e,env,S,R,E=>WE Γ e env S (λx S1=>rZ x λn=>getL S1[n]? λus=>R (us.mapIdx λi u=>.tup [.int (i:Nat),u]) (λS'=>S'[n]?=some (.lst us)) S1) E
 |.keys e,env,S,R,E=>WE Γ e env S (λx S1=>rZ x λn=>iy S1[n]? λkvs=>R (kvs.map (·.1)) (λS'=>S'[n]?=some (.pR kvs)) (S1.set n (.pR kvs))) E
 |.rev e,env,S,R,E=>WE Γ e env S (λx S1=>rZ x λn=>getL S1[n]? λus=>R us.reverse (λS'=>S'[n]?=some (.lst us)) S1) E
noncomputable def WT(Γ:b8):Tx->Env->bD->(Bool->bD->Prop)->KX->Prop
 |.dw e,env,S,Q,E=>WE Γ e env S (λx S1=>opt (uV S1 x) λb=>Q b S1) E
 |.not t,env,S,Q,E=>WT Γ t env S (λb S1=>Q (!b) S1) E
 |.and a b,env,S,Q,E=>WT Γ a env S (λc S1=>if c=true then WT Γ b env S1 Q E else Q false S1) E
 |.or a b,env,S,Q,E=>WT Γ a env S (λc S1=>if c=true then Q true S1 else WT Γ b env S1 Q E) E
end
structure Ends where
 nx:Env->bD->Prop
 rt:KU
 ex:Env->KX
mutual
noncomputable def WS(Γ:b8):Sm->Ends->Env->bD->Prop
 |.set i e,D,env,S=>WE Γ e env S (λu S1=>D.nx (env.set i (some u)) S1) (D.ex env)
 |.mC o f e,D,env,S=>WE Γ e env S (λu S1=>WE Γ o env S1 (λx S2=>rZ x λn=>oa S2[n]? λc fs=>fs.length<100/\D.nx env (S2.set n (.ins c (gQ f u fs)))) (D.ex env)) (D.ex env)
 |.Li o i e,D,env,S=>WE Γ e env S (λu S1=>WE Γ o env S1 (λx S2=>WE Γ i env S2 (λy S3=>rZ x λn=>lh y λk=>getL S3[n]? λus=>opt (Nn us.length k) λj=>D.nx env (S3.set n (.lst (us.set j u)))) (D.ex env)) (D.ex env)) (D.ex env)
 |.ni o k e,D,env,S=>WE Γ e env S (λu S1=>WE Γ o env S1 (λx S2=>WE Γ k env S2 (λy S3=>rZ x λn=>getD S3[n]? λkvs=>(mD y=true/\tU y kvs=none/\kvs.length<1000000)/\D.nx env (S3.set n (.dU (kvs++[(y,u)])))) (D.ex env)) (D.ex env)) (D.ex env)
 |.aug i p e,D,env,S=>yj env[i]? λx=>WE Γ e env S (λy S1=>yl p x y S1 λz S2=>D.nx (env.set i (some z)) S2) (D.ex env)
 |.BP o f p e,D,env,S=>WE Γ o env S (λx S1=>rZ x λn=>oa S1[n]? λc fs=>opt (fs.lookup f) λv=>
   WE Γ e env S1 (λy S2=>yl p v y S2 λz S3=>oa S3[n]? λc' fs'=>c'=c/\fs'.length<100/\D.nx env (S3.set n (.ins c (gQ f z fs')))) (D.ex env)) (D.ex env)
 |.EJ o i p e,D,env,S=>WE Γ o env S (λx S1=>WE Γ i env S1 (λy S2=>rZ x λn=>lh y λk=>getL S2[n]? λus=>0<=k/\opt (us[k.toNat]?) λv=>
   WE Γ e env S2 (λz S3=>yl p v z S3 λr S4=>getL S4[n]? λus'=>k.toNat<us'.length/\D.nx env (S4.set n (.lst (us'.set k.toNat r)))) (D.ex env)) (D.ex env)) (D.ex env)
 |.ex e,D,env,S=>WE Γ e env S (λ_ S1=>D.nx env S1) (D.ex env)
 |.ret e,D,env,S=>WE Γ e env S D.rt (D.ex env)
 |.ifs c a b,D,env,S=>WT Γ c env S (λt S1=>if t=true then sU Γ a D env S1 else sU Γ b D env S1) (D.ex env)
 |.A2 c b,D,env,S=>∃n,ym (λen S1 k=>WT Γ c en S1 k (D.ex en)) (λen S1 k=>sU Γ b {D with nx:=k} en S1) D.nx n env S
 |.je t it b,D,env,S=>WI Γ it env S (λus g S1=>vY g (λu en S2 k=>match t with
   |.name i=>sU Γ b {D with nx:=k} (en.set i (some u)) S2
   |.pair i j=>Nm u λx y=>sU Γ b {D with nx:=k} ((en.set i (some x)).set j (some y)) S2) D.nx us env S1) (D.ex env)
 |.RK b,D,env,S=>sU Γ b {D with ex:=λ_ _ _=>False} env S
noncomputable def sU(Γ:b8):dB->Ends->Env->bD->Prop
 |.nil,D,env,S=>D.nx env S
 |.cons s ss,D,env,S=>WS Γ s {D with nx:=λen S1=>sU Γ ss D en S1} env S
end
end PL
namespace L2
open PySem PySem.Spec PyProof.Rows PySem.W
open Builtin Builtin.Str
theorem C6:∀{b:List Nat},PL.iM a b=true↔∃i,i+a.length<=b.length/\(b.drop i).take a.length=a
 |[]=>by
  unfold PL.iM;rw[List.isEmpty_iff]
  constructor
  .rintro rfl;exact#[0,au _,rfl]
  .rintro⟨i,h,_⟩
   erw[cR (by have h:i+a.length<=0:=h;omega)]
 |x::b=>by
  unfold PL.iM;rw[bF,C6 (b:=b),wA]
  constructor
  .rintro(h|⟨i,h1,h2⟩)
   .refine#[0,by have:=h.length_le;omega,?_]
    rw[jj];exact(mW.mp h).symm
   .exact#[i+1,by simp;omega,by rw[Ec];erw[h2]]
  .rintro⟨i,h1,h2⟩
   cases i with
   |zero=>rw[jj] at h2;erw[.inl (mW.mpr h2.symm)]
   |succ i=>rw[Ec] at h2;exact .inr #[i,by simp at h1;omega,h2]
theorem zZ(a b:List Nat):(!(occurrences (tx b) (tx a) 0 (tx b).length 1).isEmpty)=PL.iM a b:=by
 rw[cY,StrLaws.found_iff,C6]
 rwa[exists_congr λi=>?_]
 rw[dv,dv]
 rwa[and_congr_right λh=>?_]
 rw[StrLaws.subAt_eq,beq_iff_eq]
 simp[dv]
section
variable{X:Cx}
theorem EK:gH X (bA .In) (λx y H Q=>∃a b,x=.str (tx a)/\y=.str (tx b)/\Q (.bl (PL.iM a b)) H):=by
 x_go;let#[a,b,rfl,rfl,q]:=h;rwa[Es pZ s σ H _ _ v u Q I rx ry #[tx a,tx b,rfl,rfl,?_]];rw[zZ]
 erw[q]
theorem yn:gH X (bA .NotIn) (λx y H Q=>∃a b,x=.str (tx a)/\y=.str (tx b)/\Q (.bl (!PL.iM a b)) H):=by
 x_go;let#[a,b,rfl,rfl,q]:=h;rwa[yb pZ s σ H _ _ v u Q I rx ry #[tx a,tx b,rfl,rfl,?_]];rw[zZ]
 erw[q]
theorem wX:BD X "str.startswith" (λx xs H Q=>∃a b,x=.str (tx a)/\xs=[.str (tx b)]/\Q (.bl (b.isPrefixOf a)) H):=by
 intro pZ s σ H x xs v us Q I rx rs h;let#[a,b,rfl,rfl,q]:=h;let#[t,rfl]:=rx;let#[u,rfl,t',rfl]:=vals1 rs;rwa[SC.startswith #[.bl _,H,I,?_,q]];show jU (Txt.startswith (tx a) (tx b))=jU (b.isPrefixOf a)
 congr 1
 unfold Txt.startswith;rw[cY,ao,decide_eq_true_eq,StrLaws.subAt_eq,beq_iff_eq,wA,mW,dv,dv]
 dsimp[jj,dv,kZ];constructor
 .rintro⟨_,h⟩;erw[h.symm]
 .intro h
  refine#[?_,h.symm];have:=congrArg dh h;simp at this;omega
theorem uX:∀{bs:List Bool}{us:List Value},Vals (bs.map V.bl) us->us=bs.map jU
 |[],_,.nil=>rfl
 |b::bs,_,.cons r h=>by
  cases r;rw[uX h];rfl
theorem BS(hc:X.calm=true):iu X (.builtin "all") (λxs H Q=>∃p,∃bs:List Bool,xs=[.ref p]/\hU X.K H p (bs.map V.bl)/\Q (.bl (bs.all id)) H):=by
 k_ne;let#[p,bs,rfl,hl,q]:=h;let#[u,rfl,ru]:=vals1 r;cases ru;let#[its,r,pl,_]:=I.list hl;have hl:=pl.isList;have hits:=uX r;have hlt:p<s.heap.objs.size:=by let#[_,e,_]:=hl;erw[aM e]
 refine call_all_walk (jX hl ?_);refine#[s.heap.objs.size,[s.heap.objs.size,p],[s.heap.objs.size],its.toArray.size,_,_,λi=>(bs[i]?).getD true,rfl,Ed (A:=X.A.in1) (I.ok.hd hc) _ p (a9 hlt) its.toArray,
  #[#[_,aU _ rfl,rfl,rfl],hl.push _],λi v s' Q' E' hP hQ=>?_,λh' tk hk=>?_]
 .have hP:its[i]?=some v:=by simpa using hP
  rw[hits,aD] at hP;cases e:bs[i]? with
  |none=>rw[e] at hP;cases hP
  |some b=>
   rw[e] at hP;have hQ:Q' ((bs[i]?).getD true) s':=hQ;rw[e] at hQ;cases hP;erw[cX hQ]
 .have e:((cq its.toArray.size).all λi=>(bs[i]?).getD true)=bs.all id:=by
   rw[aF,hits,ag];erw[LSm.range_all bs]
  rw[e]
  exact#[.bl _,H,I.kept (zw hk),rfl,q]
theorem C7:∀{is:List Int}{us:List Value},Vals (is.map V.int) us->∃ps:List (Int×Tok),us=ps.map (λp=>kU p.1 p.2)/\ps.map (·.1)=is
 |[],_,.nil=>#[[],rfl,rfl]
 |i::is,_,.cons (b:=u) r h=>by
  let#[t,e]:=(show ∃t,u=kU i t from r)
  subst e;let#[ps,e1,e2]:=C7 h;exact#[(i,t)::ps,by rw[e1];rfl,by rw[az,e2]]
theorem BU(hc:X.calm=true):iu X (.builtin "sum") (λxs H Q=>∃p,∃is:List Int,xs=[.ref p]/\hU X.K H p (is.map V.int)/\Q (.int is.sum) H):=by
 k_ne;let#[p,is,rfl,hl,q]:=h;let#[u,rfl,ru]:=vals1 r;cases ru;let#[its,r,pl,_]:=I.list hl;let#[ps,e1,e2]:=C7 r;have hl:s.heap.IsList p (intItems ps.toArray):=by
  have:=pl.isList;rw[e1] at this;simpa[intItems] using this
 rwa[sum_intListG (I.ok.hd hc) hl λh' tk t' hk=>#[.int is.sum,H,I.kept hk,#[t',?_],q]]
 rw[preSum_eq,jk (by simp)]
 simp[e2]
theorem O1(hu:X.A.units+200<eI):gH X (bA .NotEq) (λx y H Q=>∃ds ds',fZ X.K H x (.tup ds)/\fZ X.K H y (.tup ds')/\Dv.jt ds<=100/\Q (.bl (!n8 ds ds')) H):=by
 intro pZ s σ H x y u v Q I rx ry h;let#[ds,ds',hx,hy,hz,q]:=h;unfold fZ at hx hy;let#[a,vs,rfl,hq,hd]:=hx;let#[a',vs',rfl,hq',hd']:=hy;cases rx;cases ry;let#[its,r1,p,_]:=I.tuple hq;let#[its',r2,p',_]:=I.tuple hq';have l1:=hd.len;have l2:=hd'.len;have m1:=r1.length;have m2:=r2.length;refine SeqAt.RcNeAt.tuples (e:=λj=>match ds[j]?,ds'[j]? with|some a,some b=>nM a b|_,_=>true) p p' ∅ (λj k1 k2=>?_) _ _ _ _ #[.bl _,H,I,?_,q]
 .rw[aF] at k1 k2
  have e1:ds[j]?=some (ds[j]'∅):=ab _;have e2:ds'[j]?=some (ds'[j]'∅):=ab _;have f1:vs[j]?=some (vs[j]'∅):=ab _;have f2:vs'[j]?=some (vs'[j]'∅):=ab _;let#[w1,g1,q1]:=r1.get f1;let#[w2,g2,q2]:=r2.get f2;have a1:its.toArray[j]=w1:=by
   let#[_,z]:=af.mp g1;simpa using z
  have a2:its'.toArray[j]=w2:=by
   let#[_,z]:=af.mp g2;simpa using z
  rw[a1,a2,e1,e2]
  erw[BN I 100 (aI (lV e1) hz) (by show X.A.units+1+100<eI;omega) (hd.get f1 e1) (hd'.get f2 e2) q1 q2]
 .show jU _=jU _
  congr 2
  rw[aF,aF,<-m1,<-m2,l1,l2]
  rwa[mz ds ds' _ λi a b h1 h2=>?_]
  rw[h1,h2]
theorem Hl:gH X (bA .In) (λx y H Q=>∃a k r,x=.str k/\y=.ref a/\(∃es n,X.K.lookup a=some #[.type "dict",none,.dict es n,#[]]/\AY X.w.params es.toList)/\(a==bT)=false/\nsIn X.K a k=some r/\Q (.bl r.isSome) H):=by
 x_go;let#[a,k,r,rfl,rfl,#[es,n,lk,kl],lo,e,q]:=h;let#[t,rfl]:=rx;cases ry;erw[wpAny_in_of (strKind_is X.prog X.w k t) lo (mapOf_K (prog:=X.prog) (w:=X.w) I.zc lk kl) (by rw[find_K lk e];exact#[.bl _,H,I.tok _,rfl,q])]
end
section
variable{X:Cx}{pZ:List (Addr×Obj)}{σ:List (Option V)}{H:Hp}{s:aA}{h':Heap}
theorem Inv.O2(I:Inv X pZ σ H s)(k:∀b o,b≠X.env.locals->s.heap.get? b=some o->h'.get? b=some o)(h1:s.heap.Ns X.env.locals m)(h2:h'.Ns X.env.locals m):Inv X pZ σ H {s with heap:=h',toks:=t'}:=by
 have nL:∀b u,H b=some u->b≠X.env.locals:=λb u e z=>by rw[z,I.free] at e;cases e
 refine I.step (g':=s.gens) (d':=s.drawn) (ch:=[]) (λ_ z=>nomatch z) (λb o hL _ _ e _=>k b o hL e) (λb o hL _ _ e _=>#[o.slots,k b o hL e]) (λ_ _ _ _ n=>n)
  (λb o _ e=>?_) (λ_ _ e=>e) (λ_ _ _ e=>e) (λb ps e=>#[#[],by rw[e];simp]) (λm' hm=>?_) (λb u e=>?_) I.bare
 .by_cases z:b=X.env.locals
  .let#[o',_,_,ho,_]:=h2
   exact#[o',by rw[z];erw[ho]]
  .exact#[o,k b o z e]
 .rw[hm.eq_nsMap,<-h1.eq_nsMap];erw[h2]
 .refine(I.dq b u e).uv (λc v hc q=>k c v ?_ q) (λ_ q=>q) λ_ _ q=>q
  rcases hc with z|z
  .rw[z];erw[nL b u e]
  .erw[nL c _ z]
end
section
variable{X:Cx}
noncomputable def z4(t:List Nat)(ts:List (List Nat)):List Nat:=ts.foldl (λb x=>if x.length<b.length then x else b) t
theorem C8:∀{ts:List (List Nat)}{us:List Value},Vals (ts.map λt=>V.str (tx t)) us->us.length=ts.length/\∀(i:Nat)v,us[i]?=some v->∃t k,ts[i]?=some t/\v=kW (tx t) k
 |[],_,.nil=>#[rfl,λi v h=>by simp at h]
 |t::ts,_,.cons (b:=u) r h=>by
  let#[k,e]:=(show ∃k,u=kW (tx t) k from r)
  subst e;let#[e1,e2]:=C8 h;refine#[by simp[e1],λi v q=>?_];cases i with
  |zero=>simp at q;exact#[t,k,rfl,q.symm]
  |succ i=>exact e2 i v (by simpa using q)
theorem tV(b:List Nat):∀(ts:List (List Nat))(i:Nat)(t:List Nat),(b::ts)[i]?=some t->(∀j u,(b::ts)[j]?=some u->t.length<=u.length/\(j<i->t.length<u.length))->z4 b ts=t
 |[],i,t,h,_=>by
  cases i with
  |zero=>simp at h;erw[h]
  |succ i=>simp at h
 |x::ts,i,t,h,m=>by
  show z4 (if x.length<b.length then x else b) ts=t
  have mb:=m 0 b rfl;have mx:=m 1 x rfl;by_cases z:x.length<b.length
  .rw[if_pos z]
   cases i with
   |zero=>simp at h;subst h;omega
   |succ i=>
    refine tV x ts i t (by simpa using h) λj u hj=>?_
    have:=m (j+1) u (by simpa using hj);exact#[this.1,λq=>this.2 ∅]
  .rw[if_neg z]
   cases i with
   |zero=>
    simp at h;subst h;rwa[tV b ts 0 b rfl λj u hj=>#[?_,λq=>∅]]
    cases j with
    |zero=>simp at hj;subst hj;erw[au _]
    |succ j=>exact(m (j+2) u (by simpa using hj)).1
   |succ i=>
    cases i with
    |zero=>simp at h;subst h;have:=mb.2 ∅;omega
    |succ i=>
     refine tV b ts (i+1) t (by simpa using h) λj u hj=>?_
     cases j with
     |zero=>simp at hj;subst hj;exact#[mb.1,λ_=>mb.2 ∅]
     |succ j=>
      have:=m (j+2) u (by simpa using hj);exact#[this.1,λq=>this.2 ∅]
theorem z5(hc:X.calm=true)(I:Inv X pZ σ H s)(hl:hU X.K H p ((t::ts).map λt=>V.str (tx t)))
  (hz:∀u∈t::ts,u.length<=1000000) (q:Q (.str (tx (z4 t ts))) H){E:Value->aA->Prop}:
  wpAny (ba X.prog X.w) X.A (call (.builtin "min") [.ref p] [(bV "key",.builtin "len")]) (EP X pZ σ Q) E s:=by
 let#[its,r,pl,_]:=I.list hl;let#[e1,e2]:=C8 r;let#[m,F]:=I.fr;have kp:∀h,Fr X.base X.env.locals h m->News X.base X.env.locals h (oC X.base s.heap X.env.locals)->∀b o,b≠X.env.locals->s.heap.get? b=some o->h.get? b=some o:=λh F' N' b o hb e=>by
  cases z:X.base.get? b with
  |some o'=>have:=I.bk b o' z;rw[e] at this;cases this;erw[F'.keep b _ z]
  |none=>exact(N' (b,o) (zE hb z e)).1
 let#[ol,hol,hc1,n1,hd1]:=pl.isList;have pL:p≠X.env.locals:=λe=>by
  let#[o',es,ep,ho',hd',_]:=F.ns;rw[<-e,hol] at ho';cases ho';rw[hd1] at hd';cases hd'
 rwa[kmb_min (kid:="len") (vs:=its) (news:=oC X.base s.heap X.env.locals) (λi=>(((t::ts)[i]?).getD []).length) (I.ok.hd hc) F Gm (λh F' N'=>?_) (by rw[e1];simp) (λi v hv h tk own F' N'=>?_) (λi v h' tk' hv hb F' N'=>?_)]
 .exact#[ol,kp h F' N' p ol pL hol,hc1,n1,hd1]
 .let#[u,k,hu,rfl]:=e2 i v hv
  have hn:=nV;have hu':=hz u (ak hu);rwa[len_str (by rw[dv];omega) ?_];rw[hu,dZ,dv]
  erw[KskEnd.intro F' N' λp hp=>hp]
 .let#[u,k,hu,rfl]:=e2 i v hv
  have eb:z4 t ts=u:=tV t ts i u hu λj w hj=>by
   have hj':j<its.length:=by rw[e1];exact(af.mp hj).1
   have:=hb j hj';rw[hu,hj] at this;dsimp[dZ] at this;exact#[∅,λq=>by have:=this.2 q;omega]
  rw[eb] at q;refine#[.str (tx u),H,?_,#[k,rfl],q];rwa[I.O2 (λb o hb e=>?_) F.ns F'.ns];erw[kp h' F' N' b o hb e]
theorem EL(hc:X.calm=true)(hg:Gl X "min")(hm:X.mg "min"=none)(hg2:Gl X "len")(hm2:X.mg "len"=none)(ha:PE X e te)(hs:bI [e] X.env=[(false,eval e X.env)]:=by rfl):
  PE X (.Call (.Name "min" p) [e] [#[some "key",.Name "len" pl,kp]] pos) (λσ H Q=>te σ H λv H1=>∃a t ts,v=.ref a/\hU X.K H1 a ((t::ts).map λt=>V.str (tx t))/\(∀u∈t::ts,u.length<=1000000)/\Q (.str (tx (z4 t ts))) H1):=by
 k_go;rwa[eS (pK I hg hm boot_min ?_)];rwa[callWith_kw (e:=e) (rest:=[]) ?_ (by rw[hs];rfl) (by rw[hs];rfl)];rw[hs]
 rwa[iS (d6 (ha pZ s σ H _ I h) λu s1 h9=>?_)];let#[x,H1,I1,r1,a,t,ts,e2,hl,hz,q]:=h9;rwa[lP ?_];subst e2;cases r1;rwa[kws_cons (pK I1 hg2 hm2 Kk (kws_nil ?_))];erw[z5 hc I1 hl hz q]
end
section
variable{X:Cx}{pZ:List (Addr×Obj)}{σ:St}{H:Hp}{s:aA}
theorem Inv.Lo{ch:List Addr}{h':Heap}{t':Nat}{a:Addr}{o:HO}(I:Inv X pZ σ H s)(k:∀b u,b∉ch->s.heap.get? b=some u->h'.get? b=some u)(hf:∀b∈ch,pM X pZ H b)(hp:s.heap.objs.size<=a)
  (new:dN X.prog X.w (upd H a o) h' a o):Inv X pZ σ (upd H a o) {s with heap:=h',toks:=t'}:=by
 have hn:=I.dq.fresh hp;have na:∀b u,s.heap.get? b=some u->b≠a:=λb u e z=>absurd (aq (aM e) hp) (by rw[z];erw[dk _])
 have nt:∀b u,H b=some u->b∉ch:=λb u e z=>by rw[(hf b z).1] at e;cases e
 have tr:∀b u,H b=some u->upd H a o b=some u:=λb u e=>by rw[bX (dA e hn)];erw[e]
 refine I.step (g':=s.gens) (d':=s.drawn) (ch:=ch) (λb hb=>?_) (λb u _ _ hc e _=>k b u hc e) (λb u _ _ hc e _=>#[u.slots,k b u hc e]) (λb u _ e n=>by rw[bX (na b u e)];exact n)
  (λb u hc e=>#[u,k b u hc e]) (λb _ e=>tr b _ e) (λb _ _ e=>tr b _ e) (λb ps e=>#[#[],by rw[tr b _ e];simp]) (λm hm=>?_) (λb u e=>?_) I.bare
 .let#[f0,f1,f2,f3,f4,f5]:=hf b hb
  exact#[f3,f1,f4,f5]
 .let#[q,es,ep,ho,r]:=hm
  exact#[q,es,ep,k _ q (λz=>(hf _ z).2.1 rfl) ho,r]
 .by_cases hb:b=a
  .subst hb;rw[bR] at e;cases e;erw[new]
  .rw[bX hb] at e
   refine(I.dq b u e).uv (λc v hc q=>k c v ?_ q) (λc q=>tr c _ q) λc xs q=>tr c _ q
   rcases hc with z|z
   .rw[z];erw[nt b u e]
   .erw[nt c _ z]
def Wi(K:aG)(a:Addr):It:=
 #[λi H=>∃xs x,hU K H a xs/\xs[i]?=some x,λi H y H'=>∃p x,H p=none/\y=.ref p/\H'=upd H p (.tup [.int i,x])/\∀xs,hU K H a xs->xs[i]?=some x,λi H=>∃xs,hU K H a xs/\xs.length<=i]
theorem EM{P:bw}{w:cf}{K:aG}{es:List Expr}{k:Nat}{pos:Pos}(a e it:Addr)(hne:e≠it):
  Turn P w K (.Tuple es k pos) (Wi K a) [e,it] e (λi h=>(∃old,IsEnum h e it i old)/\h.IsListIter it a i) where
 mem:=by simp
 obj:=λi h st b hb=>by
  let#[#[old,h1],o,h2,c,d]:=st;rcases aP.mp hb with rfl|hb
  .exact#[_,h1,λv z=>by cases z]
  .have e:b=it:=by simpa using hb
   subst e;exact#[o,h2,λv z=>by rw[d] at z;cases z]
 keep:=λi h h' st k=>by
  let#[#[old,h1],h2]:=st;exact#[#[old,k e (by simp) _ h1],h2.at λo q=>k it (by simp) o q]
 item:=by
  w_up;subst hP hw hK;let#[xs,x,hq,hx]:=hg;let#[its,rv,p,hz]:=I.list hq;let#[u,hu,ru]:=rv.get hx;let#[#[old,h1],h2]:=st;refine wpAny_pyNext_enum_item h1 h2 p.isList (x:=u) (by simpa using hu) hne λh' ho hit' hT hsz hk=>?_
  refine#[_,rfl,wpAny_letOwnedTupleGo_enum ho λh'' he'' sb=>?_];have hel:e<s.heap.objs.size:=aM h1;have nT:s.heap.objs.size≠e:=cx hel;have k2:∀b v,b∉[e,it]->s.heap.get? b=some v->h''.get? b=some v:=λb v hb q=>by
   dsimp[aP,cA,or_false,not_or] at hb;exact(sb.2 b hb.1).trans (hk b v hb.1 hb.2 q)
  have hfr:=I.fresh;refine#[.ref s.heap.objs.size,upd H s.heap.objs.size (.tup [.int i,x]),I.Lo (t':=s.toks+1) (h':=h'') k2 hf (au _) ?_,rfl,#[_,x,hfr,rfl,rfl,λys hy=>by rw[I.qw hy hq];erw[hx]],?_,λb hb=>?_]
  .exact#[show 2<=sizeLine by decide,[.int i s.toks,u],.cons #[_,rfl] (.cons ru .nil),_,(sb.2 _ nT).trans hT,rfl,_,rfl]
  .exact#[#[u,by simpa using he''],hit'.at λo q=>(sb.2 it hne.symm).trans q]
  .rw[bX]
   .exact(hf b hb).1
   .intro z
    let#[f0,_]:=hf b hb;rcases aP.mp hb with q|hb
    .erw[nT (z▸q.symm▸rfl)]
    .have q:b=it:=by simpa using hb
     let#[o,h3,_]:=h2;have:=aM h3;rw[<-q,z] at this;erw[dk _ this]
 done:=by
  w_up;subst hP hw hK;let#[xs,hq,hx]:=hg;let#[its,rv,p,hz]:=I.list hq;let#[#[old,h1],h2]:=st;have hl:=rv.length;let#[f0,f1,f2,f3,f4,f5]:=hf it (by simp);erw[wpAny_pyNext_enum_end (I.ok.hd hc) h1 h2 p.isList (by simp;omega) λh' eb=>#[rfl,I.turned (t':=s.toks) (λb o hb e=>eb b o hb e) f0 f1 f3 f4 f5]]
 self:=λ_ _ _ _ _ st h=>by
  let#[#[old,h1],h2]:=st;erw[wpAny_pyIter_enum h1 h]
noncomputable def Tz(K:aG)(ta:TA):TI:=λσ H R=>ta σ H λvs H1=>∃a,vs=[.ref a]/\(∃xs,hU K H1 a xs)/\R (Wi K a) H1
theorem Lp{X:Cx}{a:Expr}{ta:TA}{p pos:Pos}{es:List Expr}{k:Nat}{tp:Pos}(hg:Gl X "enumerate")(hm:X.mg "enumerate"=none)(ha:PA X [a] ta)(hs:bI [a] X.env=[(false,eval a X.env)]:=by rfl):
  PI X (.Tuple es k tp) (.Call (.Name "enumerate" p) [a] [] pos) (Tz X.K ta):=by
 intro pZ s σ H R I h;rwa[Call_ (pK I hg hm boot_enumerate (fH (d6 (ha pos pZ s σ H _ I h) λus s1 h9=>?_) hs rfl))];let#[vs,H1,I1,r1,q1]:=h9;let#[l,e,#[xs,hq],q]:=q1;subst e;cases r1 with
 |cons r rr=>
  cases rr;cases r;let#[its,rv,p,hz]:=I1.list hq;rwa[call_enumerate_list p.isList λh' hE hI hsz hk=>wpAny_pyIter_enum hE ?_]
  have I2:Inv X pZ σ H1 {s1 with heap:=h'}:=I1.kept (t':=s1.toks) λb o e=>hk b o e
  refine#[_,[s1.heap.objs.size+1,s1.heap.objs.size],_,Wi X.K l,H1,rfl,I2,EM l _ _ (Nat.succ_ne_self _),#[#[_,hE],hI],λb hb=>?_,q];rcases aP.mp hb with e|hb
  .subst e
   erw[I1.zG (ke _) (I1.dq.fresh (ke _))]
  .have e:b=s1.heap.objs.size:=by simpa using hb
   subst e;erw[I1.zG (au _) (I1.dq.fresh (au _))]
end
theorem yo:typeLookup (.type "list") "keys"=pure none:=by rw[typeLookup_type,builtinLookup_eq_fast];kernel_rfl
theorem oH:plainId "dict.update.loop"=true:=by decide +kernel
theorem wY:entryFor table "dict.update.loop"=some Builtin.«dict.update.loop»:=entryFor_of_tree (by kernel_rfl)
section
variable{prog:bw}{w:cf}{A:dF}{E:Value->aA->Prop}{s:aA}{a l it D:Addr}{its:Array Value}{n:Nat}{K:Type}[DecidableEq K]{knd:KeyKind prog w K}
theorem EN(hx:s.heap.get? a=some {cls:=.type "list",data:=.seq its n})(hA:A.handled=none)
  (hq:∀h' t',(∀b o,s.heap.get? b=some o->h'.get? b=some o)->Q none {s with heap:=h',toks:=t'}):wpAny (ba prog w) A (getAttr? (.ref a) "keys") Q E s:=by
 let#[h,g,d,t,os]:=s;have hT:(#[h,g,d,t,os]:aA).TypeIs (.ref a) "list":=#[_,hx,rfl]
 have f1:=sub_AttributeError;have f3:=m8.lookup;have f4:=m8.bind (.ref a);have f5:=am_list_getattr_none;unfold getAttr? getAttrBy? getAttrBy
 repeat (any_goals (first|assumption| ((with_reducible show wpAny _ _ (call (Value.builtin "list.__getattribute__") _ _) _ _ _);refine call_meets m8 (show Shared.TypeIs _ _ "list" from #[_,hx,rfl]) am_entry_list_getattribute (F.args_list_getattribute_2 _ _) (meets_getattribute_miss_list a its n #[] "keys" _ yo (by decide +kernel)) #[hx,hA,λh' tk' e hx'=>?_])|wp_step))
 let#[t',u',he]:=hx'.there;show wpAny _ _ (getattributeRaised _ _ _ _ _ _ _) _ _ _;unfold getattributeRaised
 repeat (any_goals (first|assumption|wp_step))
 erw[hq _ _ hx'.keeps]
theorem r8{h:Heap}{a b:Addr}{o u:Obj}(ha:h.get? a=some o)(hb:h.get? b=some u)(n:o.cls≠u.cls):a≠b:=λe=>by
 rw[e,hb] at ha;cases ha;erw[n rfl]
theorem EO{R:Result->aA->Prop}{more:List (K×Value)}{res:Value}(hh:A.handled=none)(hz:its.size=more.length):∀(k i:Nat)(s:aA)(acc:List (K×Value)),more.length-i=k->i<=more.length->s.heap.IsListIter it l i->s.heap.IsList l its ->
  (∀(j:Nat)(kk:K)(v:Value),more[j]?=some (kk,v)->∃T key,its[j]?=some (.ref T)/\s.heap.IsTuple T (List.toArray [key,v])/\knd.is kk key=true)->s.heap.DictOf knd D acc->acc.length+k<=sizeLine ->
  (∀h' t',h'.DictOf knd D (merged acc (more.drop i))->(∀b o,b≠D->b≠it->s.heap.get? b=some o->h'.get? b=some o)->R (.ok (.ret res)) {s with heap:=h',toks:=t'}) ->
  pI (ba prog w) A (.builtin "dict.update.loop" #[[bf D,bf it,jq i,res],[]]) R s:=by
 intro k;induction k with
 |zero=>
  intro i s acc hk hi hit hl hp hd hs hR;have hin:i=more.length:=∅
  rwa[codeAny_builtin wY ?_];rw[AZ oH _]
  show wpAny _ A.in1 (xG (.ref it)>>=_) _ _ s
  let#[oi,hoi,ci,di]:=id hit;let#[od,es,ep,hod,hcd,r]:=id hd;have nd:D≠it:=r8 hod hoi (by rw[hcd.1,ci];decide);rwa[ae (JT hh hit hl (by rw[hin,<-hz];simp) λh' eb=>?_)];rwa[ae (aw (aw ?_))];rwa[hR h' s.toks ?_ λb o _ hb e=>eb b o hb e]
  rw[hin,JV]
  exact#[od,es,ep,eb D od nd hod,hcd,r]
 |succ k ih=>
  intro i s acc hk hi hit hl hp hd hs hR;have lt:i<more.length:=∅
  obtain⟨⟨kk,v⟩,hkv⟩:∃p,more[i]?=some p:=#[_,ab lt]
  let#[T,key,hT,ht,hk']:=hp i kk v hkv;rwa[codeAny_builtin wY ?_];rw[AZ oH _]
  show wpAny _ A.in1 (xG (.ref it)>>=_) _ _ s
  let#[oi,hoi,ci,di]:=id hit;let#[od,es,ep,hod,hcd,r]:=id hd;let#[ol,hol,cl,dl]:=id hl;have nd:D≠it:=r8 hod hoi (by rw[hcd.1,ci];decide);have nl:l≠it:=r8 hol hoi (by rw[cl,ci];decide);have nld:l≠D:=r8 hol hod (by rw[cl,hcd.1];decide);have nt:∀{T:Addr}{vs:Array Value},s.heap.IsTuple T vs->T≠it/\T≠D:=λ⟨ot,hot,ct,_⟩=>#[r8 hot hoi (by rw[ct,ci];decide),r8 hot hod (by rw[ct,hcd.1];decide)]
  rwa[ae (FZ hit hl hT λh1 hit1 sb1=>?_)];let#[ot,hot,ct,nn,dt]:=id ht;have hot1:h1.get? T=some ot:=(sb1.2 T (nt ht).1).trans hot;rwa[ae (fG (ae (wpAny_tryCatch ?_)))];unfold Builtin.Dict.pairItems;rwa[ae (F5 (T:="tuple") #[ot,hot1,ct] ?_)];rw[if_pos ⋯]
  rwa[ae (A7 hot1 dt (aw ?_))];show wpAny _ A.in1 (holding [key,v] (dictSet D key v)) _ _ _;rwa[fG (fG (ae (knd.pyHash hk' ?_)))];have hd1:h1.DictOf knd D acc:=#[od,es,ep,(sb1.2 D nd).trans hod,hcd,r]
  rwa[wpAny_dictSetHashed_pairs hk' hd1 (λh2 hd2 sb2=>aw #[plainId_quiet oH _,?_]) ∅];have kp:∀b o,b≠D->b≠it->s.heap.get? b=some o->h2.get? b=some o:=λb o n1 n2 e=>(sb2.2 b n1).trans ((sb1.2 b n2).trans e)
  have e1:(jq ((i:Int)+1))=jq ((i+1:Nat):Int):=by push_cast;rfl
  rw[e1]
  refine ih (i+1) _ (um acc kk v) ∅ lt (hit1.at λo e=>(sb2.2 it nd.symm).trans e) #[ol,kp l ol nld nl hol,cl,dl] (λj kk v e=>?_) hd2 ?_ λh' t' hd' kp'=>?_
  .let#[T,key,q1,#[ot,hot,r],q3]:=hp j kk v e
   exact#[T,key,q1,#[ot,kp T ot (nt #[ot,hot,r]).2 (nt #[ot,hot,r]).1 hot,r],q3]
  .have:(um acc kk v).length<=acc.length+1:=by
    unfold um;split
    .rw[ag];omega
    .rw[aj];simp
   omega
  .rwa[hR h' t' ?_ λb o n1 n2 e=>kp' b o n1 n2 (kp b o n1 n2 e)]
   rw[iq lt]
   have:more[i]=(kk,v):=by rw[ab lt] at hkv;erw[aJ hkv]
   rw[this]
   erw[hd']
theorem BV{more:List (K×Value)}{Q:Value->aA->Prop}(hh:A.handled=none)(hl:s.heap.get? l=some {cls:=.type "list",data:=.seq its n})(hz:its.size=more.length)(hm:more.length<=sizeLine)
  (hp:∀(j:Nat)(kk:K)(v:Value),more[j]?=some (kk,v)->∃T key,its[j]?=some (.ref T)/\s.heap.IsTuple T (List.toArray [key,v])/\knd.is kk key=true)
  (h:∀h' t',h'.DictOf knd s.heap.objs.size (merged [] more)->(∀b o,s.heap.get? b=some o->h'.get? b=some o)->Q (.ref s.heap.objs.size) {s with heap:=h',toks:=t'}):
  wpAny (ba prog w) A (call (.type "dict") [.ref l]) Q E s:=by
 refine callType_codes (Q₁:=λobj s₁=>obj=.ref s.heap.objs.size/\s₁={s with heap:=s.heap.push {cls:=.type "dict",data:=.dict #[]} }) F.kt_called_dict (F.kt_typeCall_dict_1 _) F.entry_dict_init (kt_code_dict_new _ #[rfl,rfl]) ?_;rintro obj s₁ ⟨rfl,rfl⟩;have hnew:(s.heap.push {cls:=.type "dict",data:=.dict #[]}).DictOf knd s.heap.objs.size []:=AV s.heap;have kp:∀b o,s.heap.get? b=some o->(s.heap.push {cls:=.type "dict",data:=.dict #[]}).get? b=some o:=λb o e=>aE _ e
 generalize s.heap.push {cls:=.type "dict",data:=.dict #[]}= h1 at hnew kp;refine#[hnew.typeIs,F.args_dict_init_2 _ _,?_];unfold Builtin.«dict.__init__»;rwa[ae ?_];unfold Builtin.Dict.selfAndRest;rwa[ae (qo hnew.typeIs ?_)];show wpAny _ _ (pure (s.heap.objs.size,[bf l])) _ _ _;rwa[aw ?_];show wpAny _ _ (Builtin.Dict.updateFrom "dict.__init__" s.heap.objs.size (.ref l) [] .none) _ _ _;unfold Builtin.Dict.updateFrom;rwa[ae (F5 (T:="list") #[_,kp l _ hl,rfl] ?_)];rw[if_pos ⋯]
 rwa[ae (EN (kp l _ hl) hh λh2 t2 k2=>?_)];rw[if_pos (by rfl)]
 refine ae (pF ?_);have hl2:=k2 l _ (kp l _ hl);refine ae (jX #[_,hl2,rfl,_,rfl] (aw #[plainId_quiet oH _,?_]));have nD:s.heap.objs.size<h2.objs.size:=by
  let#[od,_,_,hod,_]:=hnew;erw[aM (k2 _ _ hod)]
 have kp3:∀b o,s.heap.get? b=some o->(h2.push {cls:=.type "list_iterator",data:=.fields (List.toArray [.ref l,.int 0 0])}).get? b=some o:=λb o e=>aE _ (k2 b o (kp b o e))
 refine EO (A:=A.in1) (knd:=knd) (its:=its) (l:=l) hh hz more.length 0 _ [] ∅ (bP _) ?_ ?_ (λj kk v e=>?_) ?_ (by simpa using hm) λh' t' hd' kp'=>?_
 .exact#[_,aU _ rfl,rfl,rfl]
 .exact#[{cls:=.type "list",data:=.seq its n},aE _ hl2,rfl,n,rfl]
 .let#[T,key,q1,#[ot,hot,r],q3]:=hp j kk v e
  exact#[T,key,q1,#[ot,kp3 T ot hot,r],q3]
 .let#[od,es,ep,hod,r]:=hnew
  exact#[od,es,ep,aE _ (k2 _ _ hod),r]
 .refine#[rfl,h h' t' hd' λb o e=>kp' b o ?_ ?_ (kp3 b o e)]
  .erw[a9 (aM e)]
  .erw[a9 (aM (k2 b o (kp b o e)))]
end
section
variable{X:Cx}{pZ:List (Addr×Obj)}{σ:St}{H:Hp}{s:aA}
abbrev O3(H:Hp)(v:V)(kv:Key×V):Prop:=∃T,v=.ref T/\H T=some (.tup [kV kv.1,kv.2])
theorem Lq(I:Inv X pZ σ H s):∀{vs:List V}{kvs:List (Key×V)}{its:List Value},Paired (O3 H) vs kvs->Vals vs its->∃more,KV kvs more/\its.length=more.length /\
  ∀(j:Nat)(kk:Key)(v:Value),more[j]?=some (kk,v)->∃T key,its[j]?=some (.ref T)/\s.heap.IsTuple T (List.toArray [key,v])/\(cU X.prog X.w).is kk key=true
 := by
 intro vs kvs its hp hv;induction hp generalizing its with
 |nil=>cases hv;exact#[[],.nil,rfl,λj kk v e=>by cases e]
 |cons ha hr ih=>
  rename_i b _ _;let#[k,x]:=b;let#[T,e,hT]:=ha;cases hv with|cons r rr=>?_
  subst e;cases r;let#[more,h1,h2,h3]:=ih rr;let#[z,its',rv,p]:=I.dq T _ hT;cases rv with
  |cons r1 rr1=>
   rename_i ku us';cases rr1 with
   |cons r2 rr2=>
    rename_i xu _;cases rr2;refine#[(k,xu)::more,.cons #[rfl,r2] h1,by simp[h2],λj kk v e=>?_];cases j with
    |zero=>
     simp at e;let#[rfl,rfl]:=e;exact#[T,ku,rfl,p,qG r1]
    |succ j=>simpa using h3 j kk v (by simpa using e)
theorem BW(hA:X.A.handled=none):iu X (.type "dict") (λxs H Q=>∃a vs kvs,xs=[.ref a]/\H a=some (.lst vs)/\Paired (O3 H) vs kvs/\(kvs.map (·.1)).Nodup/\∀p,H p=none->Q (.ref p) (upd H p (.dK kvs))):=by
 intro pZ s σ H xs us Q I rv h;let#[a,vs,kvs,rfl,hH,hp,hn,q]:=h;let#[u,rfl,ru]:=rv.one;cases ru;let#[z,its,n,r,hl,e]:=I.EA hH;let#[more,h1,h2,h3]:=Lq I hp r;have hk:=h1.keys;refine BV (knd:=cU X.prog X.w) (more:=more) hA e (by simpa using h2) (by rw[<-h2,<-hl];erw[z]) (λj kk v ej=>?_) λh' t' hd kp=>?_
 .let#[T,key,q1,q2,q3]:=h3 j kk v ej
  exact#[T,key,by simpa using q1,q2,q3]
 .rw[merged_nil_of_nodup more (by rw[<-hk];erw[hn])] at hd
  have hf:=I.fresh;refine#[.ref s.heap.objs.size,_,I.laid (t':=t') kp (au _) (yc (kvs:=kvs) (by rw[h1.length,<-h2,<-hl];erw[z]) ?_ h1 hd),rfl,q _ hf];have:=I.big;erw[beq_eq_false_iff_ne.mpr (cx this)]
end
section
variable{X:Cx}
theorem tW(hi:0<=i)(hj:0<=j):Builtin.bitAnd i j=((i.toNat&&&j.toNat:Nat):Int):=by
 unfold Builtin.bitAnd;rw[decide_eq_true hi,decide_eq_true hj]
theorem BX(hi:0<=i)(hj:0<=j):Builtin.bitOr i j=((i.toNat|||j.toNat:Nat):Int):=by
 unfold Builtin.bitOr Builtin.bitAnd Builtin.bitNot;rw[decide_eq_false ∅,decide_eq_false ∅,show -(-i-1)-1=i by omega,show -(-j-1)-1=j by omega]
 dsimp only;omega
theorem ER:BD X "int.bit_length" (λx xs H Q=>∃i:Nat,x=.int i/\xs=[]/\Q (.int (if i=0 then 0 else i.log2+1:Nat)) H):=by
 intro pZ s σ H x xs v us Q I rx rs h;let#[i,rfl,rfl,q]:=h;let#[t,rfl]:=rx;cases rs;refine call_int_bit_length #[.int _,H,I.tok _,#[_,rfl],?_];have:Builtin.Int.intBits i=if i=0 then 0 else i.log2+1:=by
  unfold Builtin.Int.intBits;by_cases e:i=0
  .subst e;rfl
  .rw[if_neg e,if_neg (by simpa using e)];rfl
 rw[this]
 erw[q]
theorem Hm:gH X (cC .Add) (λx y H Q=>∃a b ys,x=.ref a/\y=.ref b/\lQ X.K H a []/\lQ X.K H b ys/\Q (.ref b) H):=by
 x_go;let#[a,b,ys,rfl,rfl,ha,hb,q]:=h;cases rx;cases ry;let#[its,r1,p1,_]:=I.tuple ha;let#[its2,r2,p2,_]:=I.tuple hb;cases r1;let#[#[cls,dd,data,sl],ho,hc,n,hd]:=id p1;let#[#[cls2,dd2,data2,sl2],ho2,hc2,n2,hd2]:=id p2;simp only at hc hd hc2 hd2;subst hc hd hc2 hd2;exact F4 #[_,ho,rfl] #[_,ho2,rfl] xK DZ mf lS (lH _ _)
  (tuple_addW0 a b _ _ n n2 dd dd2 sl sl2 (by simp)) #[ho,ho2,#[.ref b,H,I,rfl,q]]
theorem BY(hc:X.calm=true):iu X (.builtin "any") (λxs H Q=>∃p,∃bs:List Bool,xs=[.ref p]/\hU X.K H p (bs.map V.bl)/\Q (.bl (bs.any id)) H):=by
 k_ne;let#[p,bs,rfl,hl,q]:=h;let#[u,rfl,ru]:=vals1 r;cases ru;let#[its,r,pl,_]:=I.list hl;have hl:=pl.isList;have hits:=uX r;have hlt:p<s.heap.objs.size:=by let#[_,e,_]:=hl;erw[aM e]
 refine call_any_walk (jX hl ?_);refine#[s.heap.objs.size,[s.heap.objs.size,p],[s.heap.objs.size],its.toArray.size,_,_,λi=>(bs[i]?).getD false,rfl,Ed (A:=X.A.in1) (I.ok.hd hc) _ p (a9 hlt) its.toArray,
  #[#[_,aU _ rfl,rfl,rfl],hl.push _],λi v s' Q' E' hP hQ=>?_,λh' tk hk=>?_]
 .have hP:its[i]?=some v:=by simpa using hP
  rw[hits,aD] at hP;cases e:bs[i]? with
  |none=>rw[e] at hP;cases hP
  |some b=>
   rw[e] at hP;have hQ:Q' ((bs[i]?).getD false) s':=hQ;rw[e] at hQ;cases hP;erw[cX hQ]
 .have e:((cq its.toArray.size).any λi=>(bs[i]?).getD false)=bs.any id:=by
   rw[aF,hits,ag];erw[LSm.range_any bs]
  rw[e]
  exact#[.bl _,H,I.kept (zw hk),rfl,q]
theorem ES(hu:X.A.units+200<eI):gH X (bA .NotIn) (λx y H Q=>∃p xs ds d,y=.ref p/\hU X.K H p xs/\iw X.K H xs ds/\fZ X.K H x d/\Dv.jt ds<=100/\Q (.bl (!ds.any λe=>nM e d)) H):=by
 x_go;let#[p,xs,ds,d,rfl,hq,hd,hx,hz,q]:=h;cases ry;let#[its,r,pl,_]:=I.list hq
 classical
 have l1:=hd.len;have m1:=r.length
 let e:Value->Bool:=λu=>decide (∃(j:Nat)(d':Dv),its[j]?=some u/\ds[j]?=some d'/\nM d' d=true)
 have key:∀(j:Nat)(w:Value)(d':Dv),its[j]?=some w->ds[j]?=some d'->e w=nM d' d:=λj w d' h1 h2=>by
  have f:∃z,xs[j]?=some z:=#[_,ab (by have:=(af.mp h2).1;omega)]
  let#[z,hz']:=f;let#[w',g1,q1]:=r.get hz';rw[h1] at g1;cases g1;cases q:nM d' d with
  |true=>erw[decide_eq_true #[j,d',h1,h2,q]]
  |false=>
   rwa[decide_eq_false ?_];rintro⟨j2,d2,k1,k2,k3⟩;have f2:∃z,xs[j2]?=some z:=#[_,ab (by have:=(af.mp k2).1;omega)]
   let#[z2,hz2]:=f2;let#[w2,g2,q2]:=r.get hz2;rw[k1] at g2;cases g2;have ez:=RelV.inj q1 q2;subst ez;have:=fZ.inj I (hd.get hz' h2) (hd.get hz2 k2);rw[this,k3] at q;cases q
 rwa[D3 e pl.isList (λw hw=>?_) #[.bl _,H,I,rfl,?_]]
 .let#[j,hj]:=bL (show w∈its by simpa using hw)
  have hjl:=(af.mp hj).1;have e1:ds[j]?=some (ds[j]'∅):=ab _;have e2:xs[j]?=some (xs[j]'∅):=ab _;let#[w',g1,q1]:=r.get e2;rw[hj] at g1;cases g1;rw[key j w _ hj e1]
  erw[BN I 100 (aI (lV e1) hz) (by show X.A.units+1+100<eI;omega) (hd.get e2 e1) hx q1 rx]
 .have:its.toArray.any e=ds.any λe=>nM e d:=by
   rw[List.any_toArray,cY,tN,tN]
   constructor
   .rintro⟨w,hw,h1⟩
    let#[j,d',_,k2,k3]:=of_decide_eq_true h1;exact#[d',ak k2,k3]
   .rintro⟨d',hd',h1⟩
    let#[j,hj]:=bL hd';have hjl:=(af.mp hj).1;have e1:its[j]?=some (its[j]'∅):=ab _;exact#[_,ak e1,by rw[key j _ d' e1 hj];erw[h1]]
  rw[this]
  erw[q]
end
section
variable{X:Cx}
theorem z6{val:Nat->Int}:∀k,argBest (λi j=>decide (val j<val i)) k<=k/\∀j,j<=k->val j<=val (argBest (λi j=>decide (val j<val i)) k)
 |0=>#[au _,λj h=>by rw[Nat.le_zero.mp h];erw[Ee _]]
 |k+1=>by
  let#[h1,h2]:=z6 (val:=val) k;unfold argBest;split
  .rename_i hb
   have hb:=of_decide_eq_true hb;refine#[au _,λj hj=>?_];rcases Bd k j with z|z
   .rw[show j=k+1 by omega];erw[Ee _]
   .erw[Int.le_of_lt (Int.lt_of_le_of_lt (h2 j z) hb)]
  .rename_i hb
   have hb:¬val (argBest _ k)<val (k+1):=λz=>hb (decide_eq_true z)
   refine#[js h1,λj hj=>?_];rcases Bd k j with z|z
   .rw[show j=k+1 by omega];omega
   .erw[h2 j z]
theorem C9:∀{is:List Int}{us:List Value},Vals (is.map V.int) us->us.length=is.length/\∀(i:Nat)v,us[i]?=some v->∃t,v=kU ((is[i]?).getD 0) t
 |[],_,r=>by rw[jh] at r;cases r;exact#[rfl,λi v e=>by simp at e]
 |k::ks,_,r=>by
  rw[az] at r;cases r with
  |cons h t=>
   let#[h1,h2]:=C9 t;refine#[by simp[h1],λi v e=>?_];cases i with
   |zero=>simp at e;subst e;erw[h]
   |succ i=>simp at e ⊢;erw[h2 i v e]
theorem BZ(hc:X.calm=true):iu X (.builtin "max") (λxs H Q=>∃p,∃(i:Int)(is:List Int),xs=[.ref p]/\hU X.K H p ((i::is).map V.int)/\∀m∈i::is,(∀j∈i::is,j<=m)->Q (.int m) H):=by
 k_ne;let#[p,i,is,rfl,hl,q]:=h;let#[u,rfl,ru]:=vals1 r;cases ru;let#[its,r,pl,_]:=I.list hl;have hl:=pl.isList;let#[e1,e2]:=C9 r;have hlt:p<s.heap.objs.size:=by let#[_,e,_]:=hl;erw[aM e]
 refine call_max_walk (jX hl ?_);refine#[s.heap.objs.size,[s.heap.objs.size,p],[s.heap.objs.size],its.toArray.size,_,_,_,rfl,Ed (A:=X.A.in1) (I.ok.hd hc) _ p (a9 hlt) its.toArray,
  #[#[_,aU _ rfl,rfl,rfl],hl.push _],λb hb=>?_,by simp[e1],CmpOf.ints_gt (λk=>((i::is)[k]?).getD 0) (λk v hv=>e2 k v (by simpa using hv)),λv h' tk hP hk=>?_]
 .show b<(s.heap.push _).objs.size
  rw[gY]
  rcases aP.mp hb with z|z
  .rw[z];erw[cv _]
  .rw[b7.mp z];erw[bb hlt]
 .have hn:its.toArray.size-1=is.length:=by simp[e1]
  rw[hn] at hP;let#[b1,b2]:=z6 (val:=λk=>((i::is)[k]?).getD 0) is.length;have get:∀k,k<=is.length->∃m,(i::is)[k]?=some m/\((i::is)[k]?).getD 0=m:=λk hk=>by
   have e:=ab (l:=i::is) (i:=k) (by simp;omega);exact#[_,e,by rw[e];rfl]
  let#[m,g1,g2]:=get _ b1;let#[t,rfl]:=e2 _ v (by simpa using hP);refine#[.int m,H,I.kept (zw hk),#[t,by rw[<-g2]],q m (ak g1) λj hj=>?_];let#[k,hk2,e]:=qc hj;have:=b2 k (by simp at hk2;omega);rw[<-g2]
  have e3:((i::is)[k]?).getD 0=j:=by rw[ab hk2,e];rfl
  rw[<-e3];erw[this]
theorem ET:iu X (.builtin "len") (λxs H Q=>∃a kvs,xs=[V.ref a]/\H a=some (.dP kvs)/\Q (.int kvs.length) H):=by
 k_ne;let#[a,kvs,rfl,ha,q]:=h;let#[u,rfl,ru]:=vals1 r;cases ru;let#[z,hd,ws,rel,dd]:=Ng I.dq ha;have hT:=dd.typeIs;let#[o,es,ep,ho,hc,hdat,he,_]:=dd;have hsz:es.size=kvs.length:=by rw[zr he,<-Paired.length rel]
 have h63:(kvs.length:Int)<2^63:=by rw[jC] at z;omega
 refine Calls.call_function_entry kind_len plain_len entry_len (args_len1 _) ?_;unfold Builtin.«len»;refine ae (m:=oneArg "len" _) (aw ?_);refine ae (m:=callSpecial? (.ref a) (bV "__len__")) (jE (name:=bV "__len__") hT za
  (iR za hT PySem.F.entry_dict_len ?_ (PySem.F.args_dict_len_1 _)))
 show wpAny _ _ (dictSize a>>=_) _ _ s
 unfold dictSize;rwa[ae (ae (ie ho hdat (aw ?_)))];show wpAny _ _ (Builtin.Dict.pendingCount a>>=_) _ _ s;rwa[ae (wpAny_pendingCount_other hd ?_)];rwa[wpAny_ret_mkInt ?_];show wpAny _ _ _ _ _ {s with toks:=s.toks+1};rwa[ae (fG (aw ?_))];rwa[ae (wpAny_letGo ?_)];rw[hsz]
 show wpAny _ _ (if ((kvs.length:Nat):Int)<0 then _ else _) _ _ _
 rw[if_neg ∅]
 show wpAny _ _ (if ((kvs.length:Nat):Int)≥2^63 then _ else _) _ _ _
 rw[if_neg ∅]
 erw[ae (Kf (aw #[_,rfl,.int kvs.length,H,I.tok _,#[_,rfl],q]))]
theorem Hn(h:Heap)(hb:bT<h.objs.size):dN P w H (h.push {cls:=.type "dict",data:=.dict #[]}) h.objs.size (.dP []):=
 #[bP _,beq_eq_false_iff_ne.mpr (bZ (a9 hb)),[],.nil,_,#[],0,aU _ rfl,#[rfl,rfl,rfl],rfl,rfl,wx]
def TB:TE:=λ_ H Q=>∃o,(o=HO.dK []\/o=.dT []\/o=.dP [])/\∀p,H p=none->Q (.ref p) (upd H p o)
theorem Lr:PE X (.Dict [] [] pos) TB:=λpZ s σ H Q I h=>by
 let#[o,ho,h]:=h;rwa[wpAny_Dict_empty #[.ref s.heap.objs.size,_,I.laid (a:=s.heap.objs.size) (o:=o) (t':=s.toks) (λ_ _ q=>aE _ q) (au _) ?_,rfl,h _ (I.dq.fresh (au _))]];rcases ho with rfl|rfl|rfl
 .erw[zO s.heap I.big]
 .erw[GZ s.heap I.big]
 .erw[Hn s.heap I.big]
end
section
variable{prog:bw}{w:cf}{A:dF}{E:Value->aA->Prop}{s:aA}
def z7(h:Heap)(d:Addr)(es:Array xR)(ep:Nat):Prop:=∃o,h.get? d=some o/\o.data=.dict es ep
theorem EV(hv:s.heap.IsValuesView v d)(hm:z7 s.heap d es ep)
  (hQ:Q (.ref s.heap.objs.size) {s with heap:=s.heap.push {cls:=.type "dict_valueiterator",data:=.fields (List.toArray [.ref d,.int 0 0,.int es.size 0,.int ep 0])} }):
  wpAny (ba prog w) A (pyIter (.ref v)) Q E s:=by
 let#[ov,hov,hcv,hdv]:=id hv;let#[o,ho,hdat]:=hm;rwa[wpAny_pyIter_slot hv.typeIs sG (iR sG hv.typeIs PySem.F.entry_dict_values_iter ?_ (PySem.F.args_dict_values_iter_1 _))];unfold Builtin.«dict_values.__iter__»;rwa[ae (aw (ae ?_))];unfold Builtin.Dict_items.dictOf;rwa[ae (jD hov hdv (x:=.ref d) rfl (aw (ae ?_)))];unfold Builtin.Dict_items.newIterator;rwa[ae (ie ho hdat (ae (zx ho hdat ?_)))];have hown:Builtin.Dict_items.ownsTuple "dict_valueiterator"=false:=⋯
 dsimp[hown,av,if_false];rwa[cZ (aw #[_,rfl,"dict_valueiterator",_,#[_,aU _ rfl,rfl],cJ.lookup,?_])];simpa[jq] using hQ
theorem Ho(hit:s.heap.IsValIter it d i es.size ep)(hm:z7 s.heap d es ep)(hlt:i<es.size)
  (hQ:∀h',h'.IsValIter it d (i+1) es.size ep->fS it s.heap h'->Q (some es[i].val) {s with heap:=h'}):wpAny (ba prog w) A (xG (.ref it)) Q E s:=by
 let#[o,ho,hc,hd]:=id hit;let#[od,hod,hdd]:=id hm;unfold xG;refine ae (wpAny_attempt (jE (name:=bV "__next__") hit.typeIs cJ
  (iR cJ hit.typeIs oy ?_ (nQ _))))
 rwa[ae (aw (ae (ae ?_)))];rwa[ae (gc hit.typeIs (aw ?_))];rwa[ae (wpAny_fieldsOf ho hd ?_)];have hown:Builtin.Dict_items.ownsTuple "dict_valueiterator"=false:=⋯
 dsimp[hown,av,if_false];show wpAny _ _ (if (bf d==cb)=true then _ else _) _ _ s;rw[if_neg (show ¬((bf d==cb)=true) from aV)]
 rwa[ae (aw (ae (ie hod hdd ?_)))];rw[if_neg (by simp)]
 rwa[ae (aw (ae (zx hod hdd ?_)))];rw[if_neg (by simp)]
 refine aw ?_;dsimp[show ¬((i:Int)<0) from by omega,if_false,jr,ig hlt];refine ae ?_;refine ae (gc hit.typeIs (aw ?_));refine ae (qp hit.typeIs ?_);show wpAny _ _ (setField (.ref it) 1 (jq ((i:Int)+1))>>=_) _ _ s;refine ae (mh ho hd (by simp) ?_);have hit':(s.heap.update it (mi (·.setIfInBounds 1 (jq ((i:Int)+1))))).IsValIter it d (i+1) es.size ep:=
  #[_,dC _ ho (pb (iZ hd _)),(Obj.cls_mapFields ..).trans hc,by rw[iZ hd];simp[jq]]
 rwa[ae (fG ?_)];refine ae (qp (s:={s with heap:=s.heap.update it (mi (·.setIfInBounds 1 (jq ((i:Int)+1))))}) hit'.typeIs ?_);refine ae (qp (s:={s with heap:=s.heap.update it (mi (·.setIfInBounds 1 (jq ((i:Int)+1))))}) hit'.typeIs ?_);show wpAny _ _ (pure es[i].val) _ _ _;erw[aw (aw #[_,rfl,aw (hQ _ hit' (eJ ..))])]
theorem Lu(hh:A.handled=none)(hit:s.heap.IsValIter it d i es.size ep)(hm:z7 s.heap d es ep)(hge:es.size<=i)
  (hQ:∀h',Heap.ExtBut it s.heap h'->Q none {s with heap:=h'}):wpAny (ba prog w) A (xG (.ref it)) Q E s:=by
 let#[o,ho,hc,hd]:=id hit;let#[od,hod,hdd]:=id hm;unfold xG;refine ae (wpAny_attempt (jE (name:=bV "__next__") hit.typeIs cJ
  (iR cJ hit.typeIs oy ?_ (nQ _))))
 rwa[ae (aw (ae (ae ?_)))];rwa[ae (gc hit.typeIs (aw ?_))];rwa[ae (wpAny_fieldsOf ho hd ?_)];have hown:Builtin.Dict_items.ownsTuple "dict_valueiterator"=false:=⋯
 dsimp[hown,av,if_false];show wpAny _ _ (if (bf d==cb)=true then _ else _) _ _ s;rw[if_neg (show ¬((bf d==cb)=true) from aV)]
 rwa[ae (aw (ae (ie hod hdd ?_)))];rw[if_neg (by simp)]
 rwa[ae (aw (ae (zx hod hdd ?_)))];rw[if_neg (by simp)]
 refine aw ?_;dsimp[show ¬((i:Int)<0) from by omega,if_false,jr,zt hge];refine ae ?_;refine ae (gc hit.typeIs (aw ?_));show wpAny _ _ (setField (.ref it) 0 .none>>=_) _ _ s;refine ae (mh ho hd (by simp) ?_);show wpAny _ _ (newExc (.type "StopIteration") []>>=_) _ _ _;dsimp[newExc,newTuple];refine ae (ae (cZ (ae (m:=firstArgMember _ _) (wpAny_of_eq (a:=cb) (by first|rfl| (dsimp[firstArgMember];rfl)) (cZ ?_ (by size_fits)))) (by size_fits)));dsimp[raiseNew];refine ae (wpAny_handled ?_);rw[show A.in1.handled=none from hh]
 rwa[ae (aw (wpAny_throw ?_))];rwa[ae (oY (T:="StopIteration") (b:=true) #[_,aU _ rfl,rfl] isSubtype_stop (aw (hQ _ ?_)))];exact((eJ ..).extBut.push _).push _
theorem EW(hh:A.handled=none)(I d:Addr)(hne:d≠I)(es:Array xR)(ep:Nat):
  Walks prog w A I [I,d] [I] es.size (λi v=>(es[i]?).map (·.val)=some v) (λi h=>h.IsValIter I d i es.size ep/\z7 h d es ep) where
 sub:=λb hb=>by simp at hb;simp[hb]
 frame:=λ_ _ _ st hk=>#[let ⟨o,e,r⟩:=st.1;#[o,hk I (by simp) o e,r],let ⟨o,e,r⟩:=st.2;#[o,hk d (by simp) o e,r]]
 item:=λi s Q E hi st hQ=>Ho st.1 st.2 hi λh' hit' hs'=>
  hQ _ h' s.toks (by rw[ig hi];rfl) #[hit',let ⟨o,e,r⟩:=st.2;#[o,(hs'.2 d hne).trans e,r]] λb o hb e=>hs'.extBut b o (λh=>hb (by simp[h])) e
 done:=λs Q E st hQ=>Lu hh st.1 st.2 (au _) λh' he'=>hQ h' s.toks λb o hb e=>he' b o (λh=>hb (by simp[h])) e
 self:=λ_ _ _ _ st hQ=>wpAny_pyIter_valiter st.1 hQ
theorem Hq:KdlSrc prog w "dict_values" r d es.size (λi v=>(es[i]?).map (·.val)=some v) (λh=>h.IsValuesView r d/\z7 h d es ep) where
 type:=λ_ hm=>hm.1.typeIs
 there:=λ_ hm=>#[let ⟨_,ho,_⟩:=hm.1;aM ho,let ⟨_,ho,_⟩:=hm.2;aM ho]
 keep:=λ_ _ hm hk=>#[let ⟨o,ho,x⟩:=hm.1;#[o,hk r (.inl rfl) o ho,x],let ⟨o,ho,x⟩:=hm.2;#[o,hk d (.inr rfl) o ho,x]]
 notList:=⋯
 notTuple:=⋯
 hint:=λ_ _ _ _ hm hq=>kdl_hint_values hm.1.typeIs hq
 iter:=λ_ s hh hm=>#[_,_,(λ_ _ hq=>EV hm.1 hm.2 hq),EW hh _ d (let ⟨_,ho,_⟩:=hm.2;a9 (aM ho)) es ep,#[#[_,aU _ rfl,rfl,rfl],let ⟨o,ho,x⟩:=hm.2;#[o,aE _ ho,x]]]
end
section
variable{X:Cx}
noncomputable def TC(p d:Addr):HO:=.ext λh=>h.IsValuesView p d
theorem EX:BD X "dict.values" (λx xs H Q=>∃d kvs,x=.ref d/\xs=[]/\H d=some (.dT kvs)/\∀p,H p=none->Q (.ref p) (upd H p (TC p d))):=by
 intro pZ s σ H x xs v us Q I rx rs h;let#[d,kvs,rfl,rfl,hd,q]:=h;cases rs;cases (show v=bf d from rx);let#[z,lo,ws,rel,dd]:=CY I.dq hd;refine lT (S:=λA R s=>s.TypeIs (.ref d) "dict"/\R (.ok (.ret (.ref s.heap.objs.size))) {s with heap:=s.heap.push {cls:=.type "dict_values",data:=.fields (List.toArray [.ref d])} })
  vR dd.typeIs PySem.F.entry_dict_values (PySem.F.args_dict_values_1 _) (.of_wp λA R s h=>?_) #[dd.typeIs,?_]
 .rwa[ae ?_]
  unfold Builtin.Dict.noArgs;rwa[ae (qo h.1 ?_)];show wpAny _ _ (pure d) _ _ s;rwa[aw ?_];show wpAny _ _ (Builtin.Dict.showsAll d>>=_) _ _ s;unfold Builtin.Dict.showsAll;rw[if_neg (by rw[lo];erw[aV])]
  erw[ae (aw (ae (cZ (aw #[_,rfl,h.2]))))]
 .refine#[.ref s.heap.objs.size,_,I.laid (a:=s.heap.objs.size) (o:=TC s.heap.objs.size d) (t':=s.toks) (λ_ _ q=>aE _ q) (au _) ?_,rfl,q _ (I.dq.fresh (au _))]
  have e:(s.heap.push {cls:=.type "dict_values",data:=.fields (List.toArray [.ref d])}).get? s.heap.objs.size=some {cls:=.type "dict_values",data:=.fields (List.toArray [.ref d])}:=aU _ rfl;exact#[#[_,e,rfl,rfl],#[_,e],λh1 h2 #[o,ho,r] k=>#[o,k o ho,r]]
theorem B1(hc:X.calm=true):iu X (.type "list") (λxs H Q=>∃p d kvs,xs=[.ref p]/\H p=some (TC p d)/\H d=some (.dT kvs)/\∀l,H l=none->Q (.ref l) (upd H l (.lst (kvs.map (·.2))))):=by
 k_ne;let#[p,d,kvs,rfl,hp,hd,q]:=h;let#[u,rfl,ru]:=vals1 r;cases ru;let#[hv,_,_]:=(show dN X.prog X.w H s.heap p (TC p d) from I.dq p _ hp)
 let#[z,lo,ws,rel,o,es,ep,ho,hx,hdat,he,_]:=CY I.dq hd;have hsz:es.size=kvs.length:=by rw[zr he,<-Paired.length rel]
 rwa[kdl_call Hq (I.ok.hd hc) #[hv,o,ho,hdat] (by rw[hsz];erw[z]) λh' tk acc' c' hk hl hi=>?_]
 have ea:acc'.toList=ws.map (·.2.2):=by
  rwa[List.ext_getElem? λj=>?_]
  rw[Array.getElem?_toList,aD]
  have e3:es[j]?=(ws[j]?).map (A8 (l7 (cU X.prog X.w))):=entry_at he j;cases e4:acc'[j]? with
  |some v=>
   have this:(es[j]?).map (·.val)=some v:=hi.2 j v e4;rw[e3] at this;cases e5:ws[j]? with
   |none=>rw[e5] at this;cases this
   |some q=>rw[e5] at this;erw[this.symm]
  |none=>
   have h1:acc'.size<=j:=Array.getElem?_eq_none_iff.mp e4;rw[dD (by rw[<-Paired.length rel,<-hsz,<-hi.1];erw[h1])];rfl
 have vals:∀{l:List (List Key×V)}{m:List (List Key×Addr×Value)},KT H l m->Vals (l.map (·.2)) (m.map (·.2.2)):=by
  intro l m r;induction r with
  |nil=>erw[.nil]
  |cons h _ ih=>erw[.cons h.2.2 ih]
 refine#[.ref s.heap.objs.size,_,I.laid (a:=s.heap.objs.size) (o:=.lst (kvs.map (·.2))) (t':=tk) hk (au _) #[by rw[ag];erw[z],acc'.toList,c',ea▸vals rel,?_],rfl,q _ (I.dq.fresh (au _))];rw[Array.toArray_toList];erw[hl]
end
def Xx(K:aG)(a:Addr)(n:Nat):It:=
 #[λi H=>∃xs x,hU K H a xs/\i<n/\xs[n-1-i]?=some x,λi H x H'=>H'=H/\∀xs,hU K H a xs->xs[n-1-i]?=some x,λi _=>n<=i]
theorem Hr{P:bw}{w:cf}{K:aG}{tg:Expr}(a it:Addr)(n:Nat):Turn P w K tg (Xx K a n) [it] it (λi h=>i<=n/\h.IsRevIter it a ((n:Int)-1-(i:Int))) where
 mem:=by simp
 obj:=λi h st b hb=>by
  have e:b=it:=by simpa using hb
  subst e;let#[_,o,e,c,d]:=st;exact#[o,e,λv z=>by rw[d] at z;cases z]
 keep:=λi h h' st k=>#[st.1,st.2.at λo e=>k it (by simp) o e]
 item:=by
  w_up;subst hP hw hK;let#[xs,x,hq,hi,hx]:=hg;let#[its,rv,p,hz]:=I.list hq;let#[u,hu,ru]:=rv.get hx;let#[f0,f1,f2,f3,f4,f5]:=hf it (by simp);let#[_,st]:=st;rw[show(n:Int)-1-(i:Int)=((n-1-i:Nat):Int) by omega] at st;refine wpAny_pyNext_rev_item st p.isList (x:=u) (by simpa using hu) λh' st' sb=>?_
  have I1:Inv X pZ σ H {s with heap:=h'}:=I.turned (t':=s.toks) (λb o hb e=>(sb.2 b hb).trans e) f0 f1 f3 f4 f5;rw[show((n-1-i:Nat):Int)-1=(n:Int)-1-((i+1:Nat):Int) by omega] at st';let#[o,e,c,d]:=id st';exact#[u,rfl,wH (s:={s with heap:=h'}) e c d ⋯ #[x,H,I1,ru,#[rfl,λys hy=>by rw[I.qw hy hq];erw[hx]],#[hi,st'],λb hb=>(hf b hb).1]]
 done:=by
  w_up;subst hP hw hK;have hg:n<=i:=hg;let#[f0,f1,f2,f3,f4,f5]:=hf it (by simp);let#[hi,st]:=st;rw[show(n:Int)-1-(i:Int)= -1 by omega] at st;erw[wpAny_pyNext_rev_end (I.ok.hd hc) st λh' eb=>#[rfl,I.turned (t':=s.toks) (λb o hb e=>eb b o hb e) f0 f1 f3 f4 f5]]
 self:=λ_ _ _ _ _ st h=>Kl st.2 h
noncomputable def Xy(K:aG)(ta:TA):TI:=λσ H R=>ta σ H λvs H1=>∃a xs,vs=[.ref a]/\hU K H1 a xs/\R (Xx K a xs.length) H1
theorem O4{X:Cx}{a tg:Expr}{ta:TA}{p pos:Pos}(hg:Gl X "reversed")(hm:X.mg "reversed"=none)(ha:PA X [a] ta)(hs:bI [a] X.env=[(false,eval a X.env)]:=by rfl):
  PI X tg (.Call (.Name "reversed" p) [a] [] pos) (Xy X.K ta):=by
 intro pZ s σ H R I h;rwa[Call_ (pK I hg hm boot_reversed (fH (d6 (ha pos pZ s σ H _ I h) λus s1 h9=>?_) hs rfl))];let#[vs,H1,I1,r1,q1]:=h9;let#[l,xs,e,hq,q]:=q1;subst e;cases r1 with
 |cons r rr=>
  cases rr;cases r;let#[its,rv,p,hz]:=I1.list hq;have el:(its.toArray.size:Int)-1=(xs.length:Int)-1:=by rw[aF,rv.length]
  rwa[call_reversed_list p.isList ?_];rw[el]
  rwa[Kl (l:=l) (i:=(xs.length:Int)-1) #[_,aU _ rfl,rfl,rfl] ?_];refine#[s1.heap.objs.size,[s1.heap.objs.size],_,_,H1,rfl,I1.kept (t':=s1.toks) λb o e=>aE _ e,Hr l _ xs.length,#[bP _,_,aU _ rfl,rfl,by simp[revObj]],λb hb=>?_,q]
  .have e:b=s1.heap.objs.size:=by simpa using hb
   subst e;erw[I1.zG (au _) (I1.dq.fresh (au _))]
end L2
namespace PL
section
variable{S:bD}{Q:KU}{q:Bool->Prop}{r:U->Prop}{i j:Int}{a b:List Nat}{x y:U}{us vs:List U}{m n:Nat}
theorem O5:j5 .add (.int i) (.int j) S Q=Q (.int (i+j)) S:=rfl
theorem O6:j5 .add (.str a) (.str b) S Q=(a.length+b.length<=1000000/\Q (.str (a++b)) S):=rfl
theorem Xz:j5 .add (.tup us) (.tup vs) S Q=(us.length+vs.length<=1000000/\Q (.tup (us++vs)) S):=rfl
theorem XA:j5 .add (.loc m) (.loc n) S Q=getL S[m]? λa=>getL S[n]? λb=>a.length+b.length<=1000000/\Q (.loc S.length) (S++[.lst (a++b)]):=rfl
theorem O7:j5 .sub (.int i) (.int j) S Q=Q (.int (i-j)) S:=rfl
theorem XB:j5 .mul (.int i) (.int j) S Q=(((-(2^64)<i/\i<2^64)\/(-(2^64)<j/\j<2^64))/\Q (.int (i*j)) S):=rfl
theorem XC:j5 .mul (.str a) (.int j) S Q=(∃c,a=[c]/\0<=j/\j<=1000/\Q (.str (dH j.toNat c)) S):=rfl
theorem Wj:j5 .fdiv (.int i) (.int j) S Q=((0<j/\j<1073741824)/\Q (.int (i/j)) S):=rfl
theorem XD:j5 .mod (.int i) (.int j) S Q=(0<j/\Q (.int (i%j)) S):=rfl
theorem Lv:j5 .band (.int i) (.int j) S Q=((0<=i/\0<=j)/\Q (.int ((i.toNat&&&j.toNat:Nat):Int)) S):=rfl
theorem O8:j5 .bor (.int i) (.int j) S Q=((0<=i/\0<=j)/\Q (.int ((i.toNat|||j.toNat:Nat):Int)) S):=rfl
theorem O9:j5 .shl (.int i) (.int j) S Q=((0<=i/\i<1000/\0<=j/\j<=1000)/\Q (.int (i*2^j.toNat)) S):=rfl
theorem Pa:j5 .shr (.int i) (.int j) S Q=((0<=i/\0<=j)/\Q (.int (i/2^j.toNat)) S):=rfl
theorem Zd:yl o (.int i) y S Q=j5 o (.int i) y S Q:=rfl
theorem Ze:yl o (.str a) y S Q=j5 o (.str a) y S Q:=rfl
theorem Zf:fV .eq (.int i) y S q=vX (.int i) y q:=rfl
theorem Hs:fV .eq (.str a) y S q=vX (.str a) y q:=rfl
theorem TF:fV .eq .bQ y S q=vX .bQ y q:=rfl
theorem Zg:fV .eq (.tup us) y S q=vX (.tup us) y q:=rfl
theorem Nq:fV .ne (.int i) y S q=(BR (.int i) y=true/\vX (.int i) y λb=>q !b):=rfl
theorem TH:fV .ne (.str a) y S q=(BR (.str a) y=true/\vX (.str a) y λb=>q !b):=rfl
theorem Nr:fV .ne .bQ y S q=(BR .bQ y=true/\vX .bQ y λb=>q !b):=rfl
theorem Zh:fV .ne (.tup us) y S q=Wh (.tup us) y q:=rfl
theorem aan:(BR (.int i) y=true)=True:=eq_true rfl
theorem aao:(BR (.str a) y=true)=True:=eq_true rfl
theorem aap:(BR .bQ y=true)=True:=eq_true rfl
theorem aaq:fV .lt (.int i) (.int j) S q=q (decide (i<j)):=rfl
theorem aar:fV .le (.int i) (.int j) S q=q (decide (i<=j)):=rfl
theorem aas:fV .gt (.int i) (.int j) S q=q (decide (j<i)):=rfl
theorem aat:fV .ge (.int i) (.int j) S q=q (decide (j<=i)):=rfl
theorem Pb:∀{b:List Nat},iM [c] b=b.contains c
 |[]=>rfl
 |x::xs=>by
  rw[iM,Pb (b:=xs),List.contains_cons]
  simp[List.isPrefixOf]
theorem Lw:fV .isin (.str [k]) (.str b) S q=q (b.contains k):=by
 rw[<-Pb];rfl
theorem Lx:fV .n9 (.str [k]) (.str b) S q=q !(b.contains k):=by
 rw[<-Pb];rfl
theorem z8:fV .isin (.str a) (.tab kvs) S q=q (kvs.lookup a).isSome:=rfl
theorem Pc:fV .isin x (.tup us) S q=qI x us q:=rfl
theorem Pd:fV .n9 x (.tup us) S q=qI x us λb=>q !b:=rfl
theorem Pe:fV .isin x (.loc n) S q=getL S[n]? λus=>qI x us q:=rfl
theorem XF:fV .n9 (.str a) (.loc n) S q=getL S[n]? λus=>qI (.str a) us λb=>q !b:=rfl
theorem Ly:fV .n9 (.tup vs) (.loc n) S q=getL S[n]? λus=>(qH vs=true/\qH us=true/\BQ us<=100)/\q !(us.any λy=>FW y (.tup vs)):=rfl
theorem XG:fV .OZ x .bQ S q=q (uW x):=rfl
theorem Pf:fV .zW x .bQ S q=q (!uW x):=rfl
theorem ew(h1:Hi x y=true)(h2:A3 x=true)(h3:A3 y=true)(h4:dep x<=100)(h:FW x y=v):vX x y q=q v:=by
 rw[<-h];erw[propext #[λz=>z.2,λz=>#[#[h1,h2,h3,h4],z]]]
theorem XH:vX (.int i) (.int j) q=q (i==j):=ew rfl rfl rfl (bP _) rfl
theorem Lz:vX (.str a) (.str b) q=q (a==b):=ew rfl rfl rfl (bP _) rfl
theorem TJ:vX .bQ .bQ q=q true:=ew rfl rfl rfl (bP _) rfl
theorem aau{a b:Bool}:vX (.bl a) (.bl b) q=q (a==b):=ew rfl rfl rfl (bP _) rfl
theorem XI:vX (.int i) .bQ q=q false:=ew rfl rfl rfl (bP _) rfl
theorem XJ:vX .bQ (.int i) q=q false:=ew rfl rfl rfl (bP _) rfl
theorem aav:vX (.int i) (.str a) q=q false:=ew rfl rfl rfl (bP _) rfl
theorem aaw:vX (.str a) (.int i) q=q false:=ew rfl rfl rfl (bP _) rfl
theorem TK(l:List (List Nat)):(l.map U.str).all flat=true:=by simp[flat]
theorem anyS{l:List (List Nat)}:qI (.str a) (l.map .str) q=q (l.any (·==a)):=by
 rwa[propext #[λz=>?_,λz=>#[#[rfl,TK l],?_]]]
 .have:=z.2;rw[A0] at this;erw[this]
 .rw[A0];erw[z]
theorem TL:C5 (.str a) (.int i) S r=(a.length<=1000000/\opt (sS a i) λc=>r (.str [c])):=rfl
theorem Nt:C5 (.tup us) (.int i) S r=(us.length<=1000000/\opt (sS us i) r):=rfl
theorem Zi:C5 (.rY ns) (.int i) S r=(ns.length<=1000000/\opt (sS ns i) λn=>r (.int n)):=rfl
theorem Ht:C5 (.loc n) (.int i) S r=getL S[n]? λus=>opt (sS us i) r:=rfl
theorem yi:C5 (.tab kvs) (.str a) S r=opt (kvs.lookup a) λv=>r (.str v):=rfl
theorem iQ{f:String}:og (.loc n) f S r=oa S[n]? λ_ fs=>opt (fs.lookup f) r:=rfl
theorem Zj:nj S (.str a)=some a.length:=rfl
theorem Zk:nj S (.tup us)=some us.length:=rfl
theorem Zl:nj S (.rY ns)=some ns.length:=rfl
theorem lu(h:S[n]?=some (.lst us)):nj S (.loc n)=some us.length:=by dsimp[nj,h]
theorem Zm:uV S (.bl c)=some c:=rfl
theorem Zn:uV S .bQ=some false:=rfl
theorem Zo:uV S (.int i)=some (i !=0):=rfl
theorem Zp:uV S (.rY ns)=some (ns.length !=0):=rfl
theorem Zq:r6 .len [x] S Q=opt (nj S x) λn=>n<=1000000/\Q (.int n) S:=rfl
theorem Wk:r6 .tuple [.loc n] S Q=getL S[n]? λus=>Q (.tup us) S:=rfl
theorem XM:r6 .list [.loc n] S Q=getL S[n]? λus=>Q (.loc S.length) (S++[.lst us]):=rfl
theorem Wl:r6 .list [.tup us] S Q=(us.length<=1000000/\Q (.loc S.length) (S++[.lst us])):=rfl
theorem Zr:r6 .all [.loc n] S Q=(∃bs:List Bool,S[n]?=some (.lst (bs.map .bl))/\Q (.bl (bs.all id)) S):=rfl
theorem Zs:r6 .any [.loc n] S Q=(∃bs:List Bool,S[n]?=some (.lst (bs.map .bl))/\Q (.bl (bs.any id)) S):=rfl
theorem XO:r6 .dict [.loc n] S Q=(∃ps:List (List Nat×U),S[n]?=some (.lst (ps.map λp=>.tup [.str p.1,p.2]))/\(ps.map (·.1)).Nodup/\Q (.loc S.length) (S++[.dU (ps.map λp=>(.str p.1,p.2))])):=rfl
theorem XQ:qJ .mB (.int i) [] S Q=(0<=i/\Q (.int (sT i.toNat:Nat)) S):=rfl
theorem Zt:qJ .get (.loc n) [.str a,x] S Q=getD S[n]? λkvs=>∃ps:List (List Nat×U),kvs=(ps.map λp=>(U.str p.1,p.2))/\Q ((ps.lookup a).getD x) S:=rfl
theorem Wm:tG .mB (.int i) S=True:=rfl
theorem XR:tG .get (.loc n) S=iy S[n]? λ_=>True:=rfl
theorem XS:qJ .get (.loc n) [.str a] S Q=iy S[n]? λkvs=>mD (.str a)=true/\Q ((tU (.str a) kvs).getD .bQ) S:=rfl
theorem TM:Ln (.loc n) y S r=iy S[n]? λkvs=>mD y=true/\opt (tU y kvs) r:=rfl
theorem XT:fV .BO x (.loc n) S q=iy S[n]? λkvs=>mD x=true/\q (tU x kvs).isNone:=rfl
theorem XU:qJ .ni (.loc n) [x,y] S Q=pB S n x y Q:=rfl
theorem C2:tG .join (.str a) S=True:=rfl
theorem zV:tG .index (.str a) S=True:=rfl
theorem wX:tG .startswith (.str a) S=True:=rfl
theorem rQ:tG .append (.loc n) S=getL S[n]? λ_=>True:=rfl
theorem wO:tG .extend (.loc n) S=getL S[n]? λ_=>True:=rfl
theorem XW:qJ .join (.str a) [.loc n] S Q=(∃ts:List (List Nat),S[n]?=some (.lst (ts.map .str))/\(ts.map dh).sum+ts.length*a.length<=1000000/\Q (.str (lj a ts)) S):=rfl
theorem Wn:qJ .index (.str a) [.str b] S Q=(∃c,b=[c]/\c∈a/\Q (.int (a.idxOf c:Nat)) S):=rfl
theorem TN:qJ .startswith (.str a) [.str b] S Q=Q (.bl (b.isPrefixOf a)) S:=rfl
theorem TQ:qJ .append (.loc n) [x] S Q=getL S[n]? λus=>us.length<1000000/\Q .bQ (S.set n (.lst (us++[x]))):=rfl
theorem TR:qJ .extend (.loc n) [.loc m] S Q=getL S[n]? λus=>getL S[m]? λws=>us.length+ws.length<=1000000/\Q .bQ (S.set n (.lst (us++ws))):=rfl
theorem v_s:Hk (.str a) S R=R (a.map λc=>.str [c]) (λ_=>True):=rfl
theorem v_t:Hk (.tup us) S R=(us.length<=1000000/\R us (λ_=>True)):=rfl
theorem v_l:Hk (.loc n) S R=getL S[n]? λus=>R us (λS'=>S'[n]?=some (.lst us)):=rfl
theorem bind_f:pC false x caps k=k (some x::caps):=rfl
theorem XX:pC true x caps k=Nm x λa b=>k (some a::some b::caps):=rfl
theorem kg{α:Type}{xs:List α}{k:Nat}:sS xs (k:Int)=xs[k]?:=by
 unfold sS Nn;rw[if_pos ∅]
 split
 .simp
 .rename_i h
  rw[dD ∅]
  rfl
theorem tH{α:Type}{x:α}{xs:List α}:sS (x::xs) 0=some x:=by
 have:=kg (xs:=x::xs) (k:=0);simpa using this
theorem tI{α:Type}{x y:α}{xs:List α}:sS (x::y::xs) 1=some y:=by
 have:=kg (xs:=x::y::xs) (k:=1);simpa using this
end
theorem uY{α:Type}{o:Option α}{Q Q':α->Prop}(h:∀a,Q a->Q' a)(w:opt o Q):opt o Q':=by
 cases o with
 |none=>erw[w]
 |some a=>erw[h a w]
theorem r9{o:Option SO}{Q Q':List U->Prop}(h:∀a,Q a->Q' a)(w:getL o Q):getL o Q':=by
 let#[a,e,z]:=cH.mp w;erw[cH.mpr #[a,e,h a z]]
theorem z9(h:∀b,Q b->Q' b)(w:vX x y Q):vX x y Q':=#[w.1,h _ w.2]
theorem oI(h:∀b,Q b->Q' b)(w:qI x us Q):qI x us Q':=#[w.1,h _ w.2]
theorem qK{x:U}{Q Q':Int->Prop}(h:∀b,Q b->Q' b)(w:lh x Q):lh x Q':=by
 cases x<;>first|exact h _ w|exact w
theorem uZ{x:U}{Q Q':List Nat->Prop}(h:∀b,Q b->Q' b)(w:Np x Q):Np x Q':=by
 cases x<;>first|exact h _ w|exact w
theorem Aa(h:Q->Q')(w:Wg x Q):Wg x Q':=by
 cases x<;>first|exact h w|exact w
theorem Hu(h:∀b,Q b->Q' b)(w:Wh x y Q):Wh x y Q':=#[w.1,z9 (λb z=>h _ z) w.2]
theorem Hv(h:∀b,Q b->Q' b)(w:Xw x us Q):Xw x us Q':=by
 cases x<;>first|exact#[w.1,h _ w.2]|exact oI (λb z=>h _ z) w
theorem Hw(h:∀b,Q b->Q' b)(w:rZ x Q):rZ x Q':=by
 cases x<;>first|exact h _ w|exact w
theorem B3(h:∀a,Q a->Q' a)(w:iy o Q):iy o Q':=by
 let#[a,e,z]:=iP.mp w;erw[iP.mpr #[a,e,h a z]]
theorem wZ(h:∀b,Q b->Q' b)(w:fV o x y S Q):fV o x y S Q':=by
 cases o with
 |eq=>erw[z9 h w]
 |ne=>erw[Hu h w]
 |isin=>cases y<;>first|exact uZ (λ_ z=>h _ z) w|exact oI h w|exact r9 (λ_ z=>oI h z) w|exact w
 |n9=>cases y<;>first|exact uZ (λ_ z=>h _ z) w|exact oI (λb z=>h _ z) w|exact r9 (λ_ z=>Hv h z) w|exact w
 |OZ=>erw[Aa (h _) w]
 |zW=>erw[Aa (h _) w]
 |BO=>erw[Hw (λ_ z=>B3 (λ_ z=>#[z.1,h _ z.2]) z) w]
 |_=>erw[qK (λ_ z=>qK (λ_ z=>h _ z) z) w]
theorem Hx{x y:U}{S:bD}{Q Q':U->Prop}(h:∀b,Q b->Q' b)(w:C5 x y S Q):C5 x y S Q':=by
 cases x<;>first|exact qK (λ_ z=>#[z.1,uY (λ_ z=>h _ z) z.2]) w|exact qK (λ_ z=>r9 (λ_ z=>uY (λ_ z=>h _ z) z) z) w|exact uZ (λ_ z=>uY (λ_ z=>h _ z) z) w|exact w
def Keeps(Γ:b8)(b:dB)(k:Nat)(sp:Spec):Prop:=∀us S Q E,sp us S Q E->sU Γ b #[λ_ S1=>Q .bQ S1,Q,λ_=>E] (us.map some++dH k none) S
section
variable{Γ:b8}{D:Ends}{env:Env}{S:bD}{i:Nat}{e o:Ex}{c:Tx}{a b ss:dB}{s:Sm}{f:String}
def Rest(Γ:b8)(ss:dB)(D:Ends)(env:Env)(S:bD):Prop:=sU Γ ss D env S
theorem Rest.go(h:sU Γ ss D env S):Rest Γ ss D env S:=h
theorem Zu:sU Γ .nil D env S=D.nx env S:=rfl
theorem XY:sU Γ (.cons s ss) D env S=WS Γ s #[λen S1=>sU Γ ss D en S1,D.rt,D.ex] env S:=rfl
theorem Zv:WS Γ (.ifs c a b) D env S=WT Γ c env S (λt S1=>if t=true then sU Γ a D env S1 else sU Γ b D env S1) (D.ex env):=rfl
theorem Zw:WS Γ (.A2 c b) D env S=∃n,ym (λen S1 k=>WT Γ c en S1 k (D.ex en)) (λen S1 k=>sU Γ b #[k,D.rt,D.ex] en S1) D.nx n env S:=rfl
theorem Zx:WS Γ (.RK a) D env S=sU Γ a #[D.nx,D.rt,λ_ _ _=>False] env S:=rfl
variable{Q:KU}{E:KX}{e1 e2:Ex}{es ks:zd}{P:List U->bD->Prop}{B:Bool->bD->Prop}{q m:String}{t1 t2:Tx}{O:Option Int->bD->Prop}{R:List U->(bD->Prop)->bD->Prop}
theorem w_var:WE Γ (.var i) env S Q E=yj env[i]? λu=>Q u S:=rfl
theorem w_lit:WE Γ (.lit u) env S Q E=Q u S:=rfl
theorem Zy{o:FT}:WE Γ (.bin o e1 e2) env S Q E=WE Γ e1 env S (λx S1=>WE Γ e2 env S1 (λy S2=>j5 o x y S2 Q) E) E:=rfl
theorem Zz:WE Γ (.neg e1) env S Q E=WE Γ e1 env S (λx S1=>lh x λi=>Q (.int (-i)) S1) E:=rfl
theorem w_not:WE Γ (.not e1) env S Q E=WE Γ e1 env S (λx S1=>Nl x λb=>Q (.bl !b) S1) E:=rfl
theorem w_and:WE Γ (.and e1 e2) env S Q E=WE Γ e1 env S (λx S1=>Nl x λc=>if c=true then WE Γ e2 env S1 Q E else Q (.bl false) S1) E:=rfl
theorem w_or:WE Γ (.or e1 e2) env S Q E=WE Γ e1 env S (λx S1=>Nl x λc=>if c=true then Q (.bl true) S1 else WE Γ e2 env S1 Q E) E:=rfl
theorem ZA{o:Nk}:WE Γ (.cmp o e1 e2) env S Q E=WE Γ e1 env S (λx S1=>WE Γ e2 env S1 (λy S2=>fV o x y S2 λr=>Q (.bl r) S2) E) E:=rfl
theorem ZC:WE Γ (.FU c e1 e2) env S Q E=WT Γ c env S (λt S1=>if t=true then WE Γ e1 env S1 Q E else WE Γ e2 env S1 Q E) E:=rfl
theorem XZ:WE Γ (.call f es) env S Q E=vZ Γ es env S (λus S1=>Γ f us S1 Q E) E:=rfl
theorem w_mk:WE Γ (.mk f q es) env S Q E=vZ Γ es env S (λus S1=>Γ q (.loc S1.length::us) (S1++[.ins f []]) (λv S2=>v=.bQ/\Q (.loc S1.length) S2) E) E:=rfl
theorem X0:WE Γ (.cF f m q o es) env S Q E=WE Γ o env S (λx S1=>rZ x λn=>oa S1[n]? λc' fs=>(c'=f/\fs.lookup m=none)/\vZ Γ es env S1 (λus S2=>Γ q (x::us) S2 Q E) E) E:=rfl
theorem ZD{b:Tv}:WE Γ (.blt b es) env S Q E=vZ Γ es env S (λus S1=>r6 b us S1 Q) E:=rfl
theorem ZE{b:O0}:WE Γ (.ju b o es) env S Q E=WE Γ o env S (λx S1=>tG b x S1/\vZ Γ es env S1 (λus S2=>qJ b x us S2 Q) E) E:=rfl
theorem w_fld:WE Γ (.fld o f) env S Q E=WE Γ o env S (λx S1=>og x f S1 λv=>Q v S1) E:=rfl
theorem aay:WE Γ (.ix e1 e2) env S Q E=WE Γ e1 env S (λx S1=>WE Γ e2 env S1 (λy S2=>C5 x y S2 λv=>Q v S2) E) E:=rfl
theorem aaz:WE Γ (.sl o lo hi) env S Q E=WE Γ o env S (λx S1=>WO Γ lo env S1 (λl S2=>WO Γ hi env S2 (λh S3=>RM x l h S3 Q) E) E) E:=rfl
theorem ZF:WE Γ (.tup es) env S Q E=vZ Γ es env S (λus S1=>us.length<=1000000/\Q (.tup us) S1) E:=rfl
theorem ZG:WE Γ (.lst es) env S Q E=vZ Γ es env S (λus S1=>us.length<=1000000/\Q (.loc S1.length) (S1++[.lst us])) E:=rfl
theorem X1:WE Γ (.comp pr e it c ci) env S Q E=WI Γ it env S (λus g S1=>lX g (λu S2 k=>pC pr u (lY env ci) λen=>WT Γ c en S2 k λ_ _=>False)
   (λu S2 k=>pC pr u (lY env ci) λen=>WE Γ e en S2 k λ_ _=>False) (λacc S3=>Q (.loc S3.length) (S3++[.lst acc])) us [] S1) E:=rfl
theorem ZH:vZ Γ .nil env S P E=P [] S:=rfl
theorem X2:vZ Γ (.cons e es) env S P E=WE Γ e env S (λx S1=>vZ Γ es env S1 (λxs S2=>P (x::xs) S2) E) E:=rfl
theorem aaA:WO Γ .no env S O E=O none S:=rfl
theorem aaB:WO Γ (.e e1) env S O E=WE Γ e1 env S (λx S1=>lh x λj=>O (some j) S1) E:=rfl
theorem TU:WI Γ (.val e) env S R E=WE Γ e env S (λx S1=>Hk x S1 λus g=>R us g S1) E:=rfl
theorem ZI:WI Γ (.range e) env S R E=WE Γ e env S (λx S1=>lh x λn=>n<=1000000/\-(1000000:Int)<=n/\R ((cq n.toNat).map λk=>.int (k:Nat)) (λ_=>True) S1) E:=rfl
theorem X3:WI Γ (.enum e) env S R E=WE Γ e env S (λx S1=>rZ x λn=>getL S1[n]? λus=>R (us.mapIdx λi u=>.tup [.int (i:Nat),u]) (λS'=>S'[n]?=some (.lst us)) S1) E:=rfl
theorem ZJ:WT Γ (.dw e) env S B E=WE Γ e env S (λx S1=>opt (uV S1 x) λb=>B b S1) E:=rfl
theorem X4:WT Γ (.not t1) env S B E=WT Γ t1 env S (λb S1=>B (!b) S1) E:=rfl
theorem X5:WT Γ (.and t1 t2) env S B E=WT Γ t1 env S (λc S1=>if c=true then WT Γ t2 env S1 B E else B false S1) E:=rfl
theorem ZK:WT Γ (.or t1 t2) env S B E=WT Γ t1 env S (λc S1=>if c=true then B true S1 else WT Γ t2 env S1 B E) E:=rfl
theorem Hy:sU Γ (.cons s ss) D env S=WS Γ s #[λen S1=>Rest Γ ss D en S1,D.rt,D.ex] env S:=rfl
theorem Nu:sU Γ .nil D env S=D.nx env S:=rfl
theorem ZL:WS Γ (.set i e) D env S=WE Γ e env S (λu S1=>D.nx (env.set i (some u)) S1) (D.ex env):=rfl
theorem ZM:WS Γ (.aug i p e) D env S=yj env[i]? λx=>WE Γ e env S (λy S1=>yl p x y S1 λz S2=>D.nx (env.set i (some z)) S2) (D.ex env):=rfl
theorem aaC:WS Γ (.ex e) D env S=WE Γ e env S (λ_ S1=>D.nx env S1) (D.ex env):=rfl
theorem ZN:WS Γ (.ret e) D env S=WE Γ e env S D.rt (D.ex env):=rfl
theorem ZO:WS Γ (.ifs c a b) D env S=WT Γ c env S (λt S1=>if t=true then Rest Γ a D env S1 else Rest Γ b D env S1) (D.ex env):=rfl
theorem TV:WS Γ (.A2 c b) D env S=∃n,ym (λen S1 k=>WT Γ c en S1 k (D.ex en)) (λen S1 k=>Rest Γ b #[k,D.rt,D.ex] en S1) D.nx n env S:=rfl
theorem TX:WS Γ (.je (.name i) it b) D env S=WI Γ it env S (λus g S1=>vY g (λu en S2 k=>Rest Γ b #[k,D.rt,D.ex] (en.set i (some u)) S2) D.nx us env S1) (D.ex env):=rfl
theorem ZP:WS Γ (.RK a) D env S=Rest Γ a #[D.nx,D.rt,λ_ _ _=>False] env S:=rfl
theorem X6:WS Γ (.mC o f e) D env S=WE Γ e env S (λu S1=>WE Γ o env S1 (λx S2=>rZ x λn=>oa S2[n]? λc fs=>fs.length<100/\D.nx env (S2.set n (.ins c (gQ f u fs)))) (D.ex env)) (D.ex env):=rfl
theorem X7:WS Γ (.BP o f p e) D env S=WE Γ o env S (λx S1=>rZ x λn=>oa S1[n]? λc fs=>opt (fs.lookup f) λv=>
   WE Γ e env S1 (λy S2=>yl p v y S2 λz S3=>oa S3[n]? λc' fs'=>c'=c/\fs'.length<100/\D.nx env (S3.set n (.ins c (gQ f z fs')))) (D.ex env)) (D.ex env):=rfl
theorem X8:WS Γ (.EJ o j p e) D env S=WE Γ o env S (λx S1=>WE Γ j env S1 (λy S2=>rZ x λn=>lh y λk=>getL S2[n]? λus=>0<=k/\opt (us[k.toNat]?) λv=>
   WE Γ e env S2 (λz S3=>yl p v z S3 λr S4=>getL S4[n]? λus'=>k.toNat<us'.length/\D.nx env (S4.set n (.lst (us'.set k.toNat r)))) (D.ex env)) (D.ex env)) (D.ex env):=rfl
theorem ZQ:WE Γ (.FV e1 e2) env S Q E=WE Γ e1 env S (λx S1=>WE Γ e2 env S1 (λy S2=>Ln x y S2 λv=>Q v S2) E) E:=rfl
theorem u5:WE Γ (.dU .nil .nil) env S Q E=(0<=100/\(Q (.loc S.length) (S++[.dU []])\/Q (.loc S.length) (S++[.tR []])\/Q (.loc S.length) (S++[.wV []]))):=rfl
theorem X9:WI Γ (.keys e) env S R E=WE Γ e env S (λx S1=>rZ x λn=>iy S1[n]? λkvs=>R (kvs.map (·.1)) (λS'=>S'[n]?=some (.pR kvs)) (S1.set n (.pR kvs))) E:=rfl
theorem Ya:WS Γ (.ni o j e) D env S=WE Γ e env S (λu S1=>WE Γ o env S1 (λx S2=>WE Γ j env S2 (λy S3=>rZ x λn=>getD S3[n]? λkvs=>(mD y=true/\tU y kvs=none/\kvs.length<1000000)/\D.nx env (S3.set n (.dU (kvs++[(y,u)])))) (D.ex env)) (D.ex env)) (D.ex env):=rfl
theorem ZR:WS Γ (.je (.pair i j) it b) D env S=WI Γ it env S (λus g S1=>vY g (λu en S2 k=>Nm u λx y=>Rest Γ b #[k,D.rt,D.ex] ((en.set i (some x)).set j (some y)) S2) D.nx us env S1) (D.ex env):=rfl
theorem ca{sp:Spec}{us:List U}{Q:KU}{E:KX}(h:Γ f=sp)(k:sp us S Q E):Γ f us S Q E:=by rw[h];erw[k]
end
noncomputable abbrev SG:List Nat:=[10,32,33,34,35,36,38,39,40,41,42,43,44,45,46,47,48,49,50,51,52,53,54,55,56,57,58,59,60,61,62,63,64,65,66,67,68,69,70,71,72,73,74,75,76,77,78,79,80,81,82,83,84,85,86,87,88,89,90,91,92,93,94,95,96,97,98,99,100,101,102,103,104,105,106,107,108,109,110,111,112,113,114,115,116,117,118,119,120,121,122,123,124,125,126]
noncomputable abbrev SG1:List Nat:=[32,33,34,35,36,38,39,40,41,42,43,44,45,46,47,48,49,50,51,52,53,54,55,56,57,58,59,60,61,62,63,64,65,66,67,68,69,70,71,72,73,74,75,76,77,78,79,80,81,82,83,84,85,86,87,88,89,90,91,92,93,94,95,96,97,98,99,100,101,102,103,104,105,106,107,108,109,110,111,112,113,114,115,116,117,118,119,120,121,122,123,124,125,126]
noncomputable def mE:dB:=#v[.ret (.ju .join (.lit (.str [])) #v[.comp false @0 (.val (.lit (.str SG))) (.dw (.cmp .isin @0 @1)) [0]])]
noncomputable def oJ:dB:=#v[.ret (.ju .join (.lit (.str [])) #v[.comp false @0 (.val (.lit (.str SG))) (.dw (.cmp .n9 @0 @1)) [0]])]
noncomputable def mF:dB:=#v[.ret (.cmp .lt (.ju .index (.lit (.str SG)) #v[@0]) (.ju .index (.lit (.str SG)) #v[@1]))]
noncomputable def oK:dB:=#v[.ret (.sl (.lit (.str SG)) (.e (.ju .index (.lit (.str SG)) #v[@0])) (.e (.bin .add (.ju .index (.lit (.str SG)) #v[@1]) ↑1)))]
noncomputable def yp:dB:=#v[.set 1 (.mk "Reader" "Reader.__init__" #v[@0]),.set 2 (.cF "Reader" "choice" "Reader.choice" @1 .nil),.ifs (.dw (.cmp .lt (.fld @1 "at") (.blt .len #v[@0]))) #v[.ex (.ix (.lit .bQ) (.lit .bQ))] .nil,.ret @2]
noncomputable def qL:dB:=#v[.ret (.FU (.dw (.cmp .eq (.blt .len #v[@1]) ↑1)) (.ix @1 ↑0) (.tup #v[@0,.blt .tuple #v[@1]]))]
noncomputable def jH:dB:=#v[.mC @0 "text" @1,.mC @0 "at" ↑0,.mC @0 "depth" ↑0]
noncomputable def jI:dB:=#v[.ret (.and (.cmp .lt (.fld @0 "at") (.blt .len #v[.fld @0 "text"])) (.cmp .isin (.ix (.fld @0 "text") (.fld @0 "at")) @1))]
noncomputable def iD:dB:=#v[.ifs (.not (.dw (.cF "Reader" "sees" "Reader.sees" @0 #v[@1]))) #v[.ex (.ix (.lit .bQ) (.lit .bQ))] .nil,.BP @0 "at" .add ↑1,.ret (.ix (.fld @0 "text") (.bin .sub (.fld @0 "at") ↑1))]
noncomputable def iE:dB:=#v[.set 1 (.lst #v[.cF "Reader" "row" "Reader.row" @0 .nil]),.A2 (.dw (.cF "Reader" "sees" "Reader.sees" @0 #v[↑[124]])) #v[.ex (.cF "Reader" "passes" "Reader.passes" @0 #v[↑[124]]),.ex (.ju .append @1 #v[.cF "Reader" "row" "Reader.row" @0 .nil])],.ret (.call "joined" #v[↑[111,114],@1])]
noncomputable def kh:dB:=#v[.set 1 (.lst #v[.cF "Reader" "repeat" "Reader.repeat" @0 .nil]),.A2 (.and (.dw (.cmp .lt (.fld @0 "at") (.blt .len #v[.fld @0 "text"]))) (.not (.dw (.cF "Reader" "sees" "Reader.sees" @0 #v[↑[124,41]])))) #v[.ex (.ju .append @1 #v[.cF "Reader" "repeat" "Reader.repeat" @0 .nil])],.ret (.call "joined" #v[↑[114,111,119],@1])]
noncomputable def iF:dB:=#v[.set 1 (.cF "Reader" "atom" "Reader.atom" @0 .nil),.A2 (.dw (.cF "Reader" "sees" "Reader.sees" @0 #v[↑[42,43,63]])) #v[.set 1 (.tup #v[.ix (.lit (.tab [([42],[115,116,97,114]),([43],[112,108,117,115]),([63],[109,97,121,98,101])])) (.cF "Reader" "passes" "Reader.passes" @0 #v[↑[42,43,63]]),@1])],.ret @1]
noncomputable def jJ:dB:=#v[.ifs (.dw (.cF "Reader" "sees" "Reader.sees" @0 #v[↑[40]])) #v[.ret (.cF "Reader" "bracket" "Reader.bracket" @0 .nil)] .nil,.ifs (.dw (.cF "Reader" "sees" "Reader.sees" @0 #v[↑[91]])) #v[.ret (.tup #v[↑[111,110,101],.cF "Reader" "sign_class" "Reader.sign_class" @0 .nil])] .nil,.ifs (.dw (.cF "Reader" "sees" "Reader.sees" @0 #v[↑[46]])) #v[.ex (.cF "Reader" "passes" "Reader.passes" @0 #v[↑[46]]),.ret (.tup #v[↑[111,110,101],.call "all_but" #v[↑[10]]])] .nil,.ret (.tup #v[↑[111,110,101],.cF "Reader" "written_sign" "Reader.written_sign" @0 #v[↑[46,124,40,41,91,93,42,43,63,92]]])]
noncomputable def gS:dB:=#v[.ifs (.dw (.cmp .eq (.fld @0 "depth") ↑6)) #v[.ex (.ix (.lit .bQ) (.lit .bQ))] .nil,.ex (.cF "Reader" "passes" "Reader.passes" @0 #v[↑[40]]),.BP @0 "depth" .add ↑1,.set 1 (.cF "Reader" "choice" "Reader.choice" @0 .nil),.ex (.cF "Reader" "passes" "Reader.passes" @0 #v[↑[41]]),.BP @0 "depth" .sub ↑1,.ret @1]
noncomputable def fh:dB:=#v[.ex (.cF "Reader" "passes" "Reader.passes" @0 #v[↑[91]]),.set 1 (.cF "Reader" "sees" "Reader.sees" @0 #v[↑[94]]),.ifs (.dw @1) #v[.ex (.cF "Reader" "passes" "Reader.passes" @0 #v[↑[94]])] .nil,.set 2 (.cF "Reader" "item" "Reader.item" @0 .nil),.A2 (.not (.dw (.cF "Reader" "sees" "Reader.sees" @0 #v[↑[93]]))) #v[.aug 2 .add (.cF "Reader" "item" "Reader.item" @0 .nil)],.ex (.cF "Reader" "passes" "Reader.passes" @0 #v[↑[93]]),.ret (.FU (.dw @1) (.call "all_but" #v[@2]) (.call "in_order" #v[@2]))]
noncomputable def jK:dB:=#v[.set 1 (.cF "Reader" "written_sign" "Reader.written_sign" @0 #v[↑[93,45,92]]),.ifs (.not (.dw (.cF "Reader" "sees" "Reader.sees" @0 #v[↑[45]]))) #v[.ret @1] .nil,.ex (.cF "Reader" "passes" "Reader.passes" @0 #v[↑[45]]),.set 2 (.fld @0 "at"),.set 3 (.cF "Reader" "written_sign" "Reader.written_sign" @0 #v[↑[93,45,92]]),.ifs (.dw (.call "is_ahead" #v[@3,@1])) #v[.ex (.ix (.lit .bQ) (.lit .bQ))] .nil,.ret (.call "stretch" #v[@1,@3])]
noncomputable def eh:dB:=#v[.ifs (.not (.dw (.cF "Reader" "sees" "Reader.sees" @0 #v[↑[92]]))) #v[.ret (.cF "Reader" "passes" "Reader.passes" @0 #v[.call "all_but" #v[@1]])] .nil,.ex (.cF "Reader" "passes" "Reader.passes" @0 #v[↑[92]]),.set 2 (.cF "Reader" "passes" "Reader.passes" @0 #v[↑[46,124,40,41,91,93,42,43,63,92,45,94,110]]),.ret (.FU (.dw (.cmp .eq @2 ↑[110])) ↑[10] @2)]
noncomputable def oM:dB:=#v[.ifs (.dw (.cmp .eq (.ix @0 ↑0) ↑[111,114])) #v[.ret (.ju .join ↑[124] #v[.comp false (.call "row_text" #v[@0]) (.val (.ix @0 ↑1)) (.dw (.lit (.bl true))) []])] .nil,.ret (.call "row_text" #v[@0])]
noncomputable def mG:dB:=#v[.ifs (.dw (.cmp .eq (.ix @0 ↑0) ↑[114,111,119])) #v[.ret (.ju .join (.lit (.str [])) #v[.comp false (.call "repeat_text" #v[@0]) (.val (.ix @0 ↑1)) (.dw (.lit (.bl true))) []])] .nil,.ret (.call "repeat_text" #v[@0])]
noncomputable def jL:dB:=#v[.set 1 (.lit (.str [])),.set 2 @0,.A2 (.dw (.cmp .isin (.ix @2 ↑0) (.lit (.tab [([115,116,97,114],[42]),([112,108,117,115],[43]),([109,97,121,98,101],[63])])))) #v[.set 1 (.bin .add (.ix (.lit (.tab [([115,116,97,114],[42]),([112,108,117,115],[43]),([109,97,121,98,101],[63])])) (.ix @2 ↑0)) @1),.set 2 (.ix @2 ↑1)],.ret (.bin .add (.call "atom_text" #v[@2]) @1)]
noncomputable def lx:dB:=#v[.ifs (.dw (.cmp .eq (.ix @0 ↑0) ↑[111,110,101])) #v[.ret (.call "place_text" #v[.ix @0 ↑1])] .nil,.ret (.bin .add (.bin .add ↑[40] (.call "written" #v[@0])) ↑[41])]
noncomputable def ki:dB:=#v[.ifs (.dw (.cmp .eq (.blt .len #v[@0]) ↑1)) #v[.ret (.call "sign_text" #v[@0,↑[46,124,40,41,91,93,42,43,63,92]])] .nil,.ifs (.dw (.cmp .eq @0 (.call "all_but" #v[↑[10]]))) #v[.ret ↑[46]] .nil,.ret (.blt .uU #v[.call "class_texts" #v[@0]])]
noncomputable def ly:dB:=#v[.ret (.FU (.dw (.cmp .isin @0 @1)) (.bin .add ↑[92] @0) @0)]
noncomputable def jM:dB:=#v[.set 1 (.lst .nil),.ifs (.dw (.cmp .ne @0 (.lit (.str [])))) #v[.ex (.ju .append @1 #v[.bin .add (.bin .add ↑[91] (.call "guarded" #v[.call "class_items" #v[@0]])) ↑[93]])] .nil,.ifs (.dw (.cmp .ne @0 (.lit (.str SG)))) #v[.ex (.ju .append @1 #v[.bin .add (.bin .add ↑[91,94] (.ju .join (.lit (.str [])) #v[.call "class_items" #v[.call "all_but" #v[@0]]])) ↑[93]])] .nil,.ret @1]
noncomputable def oN:dB:=#v[.ifs (.not (.dw (.ju .startswith (.ix @0 ↑0) #v[↑[94]]))) #v[.ret (.ju .join (.lit (.str [])) #v[@0])] .nil,.ifs (.dw (.cmp .eq (.blt .len #v[@0]) ↑1)) #v[.ret (.bin .add ↑[92] (.ix @0 ↑0))] .nil,.ret (.bin .add (.ju .join (.lit (.str [])) #v[.sl @0 (.e ↑1) .no]) (.ix @0 ↑0))]
noncomputable def jN:dB:=#v[.set 1 (.lst .nil),.je (.name 2) (.val (.call "runs" #v[@0])) #v[.ex (.ju .extend @1 #v[.call "run_items" #v[@2]])],.ret @1]
noncomputable def yq:dB:=#v[.set 1 (.lst .nil),.set 2 (.lit (.str [])),.je (.name 3) (.val @0) #v[.ifs (.dw (.cmp .n9 (.bin .add @2 @3) (.lit (.str SG)))) #v[.ex (.ju .append @1 #v[@2]),.set 2 (.lit (.str []))] .nil,.aug 2 .add @3],.ex (.ju .append @1 #v[@2]),.ret @1]
noncomputable def lz:dB:=#v[.set 1 (.comp false (.call "sign_text" #v[@0,↑[93,45,92]]) (.val @0) (.dw (.lit (.bl true))) []),.set 2 (.bin .add (.bin .add (.call "sign_text" #v[.ix @0 ↑0,↑[93,45,92]]) ↑[45]) (.call "sign_text" #v[.ix @0 (.neg ↑1),↑[93,45,92]])),.ret (.FU (.dw (.cmp .le (.blt .len #v[.ju .join (.lit (.str [])) #v[@1]]) (.blt .len #v[@2]))) @1 (.lst #v[@2]))]
end PL
namespace PL.tX
noncomputable def lA:dB:=#v[.ifs (.dw @0) #v[.ret (.ix @0 (.bin .mod @1 (.blt .len #v[@0])))] .nil,.ret ↑0]
noncomputable def mH:dB:=#v[.set 2 (.bin .mod (.bin .add (.call "_law_cell" #v[@0,@1]) (.bin .mul ↑104729 (.bin .add @1 ↑1))) ↑4294967291),.set 2 (.bin .mod (.bin .mul @2 ↑48271) ↑4294967279),.ret (.bin .mod (.bin .add (.bin .mul (.bin .fdiv @2 ↑64) ↑69621) @2) ↑4294967231)]
noncomputable def mI:dB:=#v[.set 0 (.lit (.str SG1)),.ret (.bin .add ↑[10] @0)]
end PL.tX
namespace PL.nk
noncomputable def lB:dB:=#v[.set 2 (.mk "Layout" "Layout.__init__" .nil),.je (.pair 3 4) (.enum (.sl @0 .no (.e ↑6))) #v[.set 5 (.cF "Layout" "lay" "Layout.lay" @2 #v[.call "tree_of" #v[@4,@3]]),.ifs (.dw (.fld @5 "empty")) #v[.ex (.ix (.lit .bQ) (.lit .bQ))] .nil,.ifs (.dw (.cmp .gt (.cF "Layout" "how_many" "Layout.how_many" @2 .nil) @1)) #v[.ex (.ix (.lit .bQ) (.lit .bQ))] .nil,.ex (.cF "Layout" "close_rule" "Layout.close_rule" @2 #v[@5])],.ifs (.dw (.cmp .gt (.blt .len #v[@0]) ↑6)) #v[.ex (.ix (.lit .bQ) (.lit .bQ))] .nil,.ret (.mk "Places" "Places.__init__" #v[@2])]
noncomputable def oO:dB:=#v[.RK #v[.ret (.call "read" #v[@0])]]
noncomputable def oQ:dB:=#v[.ret (.comp false @0 (.range (.ju .mB @0 .nil)) (.dw (.bin .band (.bin .shr @1 @0) ↑1)) [0])]
noncomputable def lC:dB:=#v[.mC @0 "empty" @1,.mC @0 "firsts" @2,.mC @0 "lasts" @3]
noncomputable def fK:dB:=#v[.set 2 (.FU (.dw (.fld @0 "empty")) (.bin .bor (.fld @0 "firsts") (.fld @1 "firsts")) (.fld @0 "firsts")),.set 3 (.FU (.dw (.fld @1 "empty")) (.bin .bor (.fld @0 "lasts") (.fld @1 "lasts")) (.fld @1 "lasts")),.ret (.mk "Part" "Part.__init__" #v[.and (.fld @0 "empty") (.fld @1 "empty"),@2,@3])]
noncomputable def i4:dB:=#v[.ret (.mk "Part" "Part.__init__" #v[.or (.fld @0 "empty") (.fld @1 "empty"),.bin .bor (.fld @0 "firsts") (.fld @1 "firsts"),.bin .bor (.fld @0 "lasts") (.fld @1 "lasts")])]
noncomputable def jO:dB:=#v[.mC @0 "signs" (.lst #v[.lit (.str [])]),.mC @0 "behind" (.lst #v[↑0]),.mC @0 "ends" (.lst .nil)]
noncomputable def fX:dB:=#v[.ret (.bin .sub (.blt .len #v[.fld @0 "signs"]) ↑1)]
noncomputable def fj:dB:=#v[.EJ (.fld @0 "behind") ↑0 .bor (.fld @1 "firsts"),.ex (.ju .append (.fld @0 "ends") #v[.fld @1 "lasts"])]
noncomputable def jP:dB:=#v[.je (.name 3) (.val (.call "members" #v[@1])) #v[.EJ (.fld @0 "behind") @3 .bor @2]]
noncomputable def kj:dB:=#v[.ifs (.dw (.cmp .eq (.ix @1 ↑0) ↑[111,110,101])) #v[.ret (.cF "Layout" "lay_place" "Layout.lay_place" @0 #v[.ix @1 ↑1])] .nil,.ifs (.dw (.cmp .eq (.ix @1 ↑0) ↑[114,111,119])) #v[.ret (.cF "Layout" "lay_row" "Layout.lay_row" @0 #v[.ix @1 ↑1])] .nil,.ifs (.dw (.cmp .eq (.ix @1 ↑0) ↑[111,114])) #v[.ret (.cF "Layout" "lay_choice" "Layout.lay_choice" @0 #v[.ix @1 ↑1])] .nil,.ret (.cF "Layout" "lay_repeat" "Layout.lay_repeat" @0 #v[@1])]
noncomputable def fL:dB:=#v[.set 2 (.bin .shl ↑1 (.blt .len #v[.fld @0 "signs"])),.ex (.ju .append (.fld @0 "signs") #v[@1]),.ex (.ju .append (.fld @0 "behind") #v[↑0]),.ret (.mk "Part" "Part.__init__" #v[.lit (.bl false),@2,@2])]
noncomputable def gU:dB:=#v[.set 2 (.mk "Part" "Part.__init__" #v[.lit (.bl true),↑0,↑0]),.je (.name 3) (.val @1) #v[.set 4 (.cF "Layout" "lay" "Layout.lay" @0 #v[@3]),.ex (.cF "Layout" "link" "Layout.link" @0 #v[.fld @2 "lasts",.fld @4 "firsts"]),.set 2 (.call "one_behind_other" #v[@2,@4])],.ret @2]
noncomputable def fm:dB:=#v[.set 2 (.mk "Part" "Part.__init__" #v[.lit (.bl false),↑0,↑0]),.je (.name 3) (.val @1) #v[.set 2 (.call "one_or_other" #v[@2,.cF "Layout" "lay" "Layout.lay" @0 #v[@3]])],.ret @2]
noncomputable def fq:dB:=#v[.set 2 (.lst .nil),.set 3 @1,.A2 (.dw (.cmp .isin (.ix @3 ↑0) (.tup #v[↑[115,116,97,114],↑[112,108,117,115],↑[109,97,121,98,101]]))) #v[.ex (.ju .append @2 #v[.ix @3 ↑0]),.set 3 (.ix @3 ↑1)],.set 4 (.cF "Layout" "lay" "Layout.lay" @0 #v[@3]),.ifs (.or (.dw (.cmp .isin ↑[115,116,97,114] @2)) (.dw (.cmp .isin ↑[112,108,117,115] @2))) #v[.ex (.cF "Layout" "link" "Layout.link" @0 #v[.fld @4 "lasts",.fld @4 "firsts"])] .nil,.set 5 (.or (.fld @4 "empty") (.or (.cmp .isin ↑[115,116,97,114] @2) (.cmp .isin ↑[109,97,121,98,101] @2))),.ret (.mk "Part" "Part.__init__" #v[@5,.fld @4 "firsts",.fld @4 "lasts"])]
noncomputable def iG:dB:=#v[.set 1 (.blt .sum #v[.comp true (.bin .shl ↑1 @0) (.enum (.fld @0 "signs")) (.dw (.cmp .ne @1 (.lit (.str [])))) []]),.set 2 ↑0,.je (.name 3) (.val (.fld @0 "ends")) #v[.aug 2 .bor (.bin .band @3 @1)],.set 4 ↑0,.A2 (.dw (.cmp .ne @2 @4)) #v[.set 4 @2,.je (.name 5) (.val (.call "members" #v[@1])) #v[.ifs (.dw (.bin .band (.ix (.fld @0 "behind") @5) @4)) #v[.aug 2 .bor (.bin .shl ↑1 @5)] .nil]],.ret @4]
noncomputable def fM:dB:=#v[.ret (.blt .sum #v[.comp true (.bin .shl ↑1 @0) (.enum (.fld @0 "signs")) (.dw (.cmp .isin @2 @1)) [1]])]
noncomputable def jQ:dB:=#v[.set 2 (.call "useful_places" #v[@1]),.mC @0 "behind" (.comp false (.bin .band @0 @1) (.val (.fld @1 "behind")) (.dw (.lit (.bl true))) [2]),.mC @0 "ends" (.blt .list #v[.fld @1 "ends"]),.mC @0 "takers" (.blt .dict #v[.comp false (.tup #v[@0,.call "places_that_take" #v[@1,@0]]) (.val (.lit (.str SG))) (.dw (.lit (.bl true))) [1]])]
noncomputable def iH:dB:=#v[.set 2 ↑0,.je (.name 3) (.val (.call "members" #v[@1])) #v[.aug 2 .bor (.ix (.fld @0 "behind") @3)],.ret @2]
noncomputable def fu:dB:=#v[.je (.pair 2 3) (.enum (.fld @0 "ends")) #v[.ifs (.dw (.bin .band @1 @3)) #v[.ret @2] .nil],.ret (.lit .bQ)]
noncomputable def i5:dB:=#v[.ifs (.dw (.cmp .eq (.ix @0 ↑0) ↑[111,110,101])) #v[.ret (.lit (.bl false))] .nil,.ifs (.dw (.cmp .eq (.ix @0 ↑0) ↑[114,111,119])) #v[.ret (.blt .all #v[.comp false (.call "_law_nothing" #v[@0]) (.val (.ix @0 ↑1)) (.dw (.lit (.bl true))) []])] .nil,.ifs (.dw (.cmp .eq (.ix @0 ↑0) ↑[111,114])) #v[.ret (.blt .any #v[.comp false (.call "_law_nothing" #v[@0]) (.val (.ix @0 ↑1)) (.dw (.lit (.bl true))) []])] .nil,.ret (.or (.cmp .isin (.ix @0 ↑0) (.tup #v[↑[115,116,97,114],↑[109,97,121,98,101]])) (.call "_law_nothing" #v[.ix @0 ↑1]))]
noncomputable def km:dB:=#v[.set 3 (.call "_law_mix" #v[@0,@1]),.set 4 (.bin .mod @3 ↑9),.ifs (.or (.dw (.cmp .eq @2 ↑0)) (.dw (.cmp .lt @4 ↑4))) #v[.ret (.tup #v[↑[111,110,101],.ix (.lst #v[↑[97],↑[98],↑[99],↑[97,98],↑[98,99],.call "_law_all" .nil,↑[97],↑[98],↑[48],.lit (.str [])]) (.bin .mod (.bin .fdiv @3 ↑9) ↑10)])] .nil,.ifs (.dw (.cmp .lt @4 ↑7)) #v[.set 5 (.comp false (.call "_law_small" #v[@1,.bin .add (.bin .add (.bin .mul ↑2 @2) ↑1) @0,.bin .sub @3 ↑1]) (.range ↑2) (.dw (.lit (.bl true))) [0,1,2]),.ret (.tup #v[.ix (.lst #v[↑[114,111,119],↑[111,114],↑[114,111,119]]) (.bin .sub @4 ↑4),.blt .tuple #v[@5]])] .nil,.ret (.tup #v[.ix (.lst #v[↑[115,116,97,114],↑[112,108,117,115],↑[109,97,121,98,101]]) (.bin .mod (.bin .fdiv @3 ↑9) ↑3),.call "_law_small" #v[@0,.bin .add (.bin .mul ↑2 @1) ↑1,.bin .sub @2 ↑1]])]
noncomputable def kn:dB:=#v[.set 4 (.lst .nil),.je (.name 5) (.range @2) #v[.set 6 (.call "_law_small" #v[@0,.bin .add @1 (.bin .mul ↑9 @5),@3]),.ifs (.dw (.call "_law_nothing" #v[@6])) #v[.set 6 (.tup #v[↑[114,111,119],.tup #v[.tup #v[↑[111,110,101],.ix ↑[97,98,99] (.bin .mod @5 ↑3)],@6]])] .nil,.ex (.ju .append @4 #v[@6])],.ret @4]
end PL.nk
namespace PL.yr
noncomputable def mJ:dB:=#v[.ret (.call "smallest" #v[.call "spread" #v[.call "places_of" #v[@0,↑10]]])]
noncomputable def ko:dB:=#v[.mC @0 "takes" (.blt .list #v[@1]),.mC @0 "told" (.blt .tuple #v[@1]),.mC @0 "rows" @2]
noncomputable def kq:dB:=#v[.ret (.ju .get (.ix (.fld @0 "rows") @1) #v[@2])]
noncomputable def jR:dB:=#v[.set 2 ↑0,.je (.name 3) (.val @1) #v[.set 2 (.cF "Table" "goes" "Table.goes" @0 #v[@2,@3]),.ifs (.dw (.cmp .OZ @2 (.lit .bQ))) #v[.ret (.lit .bQ)] .nil],.ret (.ix (.fld @0 "told") @2)]
noncomputable def Wo:dB:=#v[.ifs (.dw (.cmp .ne @7 ↑0)) #v[.ni @5 @6 (.FV @2 @7)] .nil]
noncomputable def Yb:dB:=(.cons (.set 7 (.bin .band @4 (.FV (.fld @0 "takers") @6))) (.cons (.ifs (.and (.dw (.cmp .ne @7 ↑0)) (.dw (.cmp .BO @7 @2))) #v[.ni @2 @7 (.blt .len #v[@1]),.ex (.ju .append @1 #v[@7])] .nil) Wo))
noncomputable def Yc:dB:=#v[.set 4 (.cF "Places" "beyond" "Places.beyond" @0 #v[.ix @1 (.blt .len #v[@3])]),.set 5 (.dU .nil .nil),.je (.name 6) (.val (.lit (.str SG))) Yb,.ex (.ju .append @3 #v[@5])]
noncomputable def Yd:dB:=#v[.ret (.mk "Table" "Table.__init__" #v[.comp false (.cF "Places" "first_rule" "Places.first_rule" @1 #v[@0]) (.val @1) (.dw (.lit (.bl true))) [0],@3])]
noncomputable def qM:dB:=(.cons (.set 1 (.lst #v[↑1])) (.cons (.set 2 (.dU #v[↑1] #v[↑0])) (.cons (.set 3 (.lst .nil)) (.cons (.A2 (.dw (.cmp .lt (.blt .len #v[@3]) (.blt .len #v[@1]))) Yc) Yd))))
noncomputable def Ye:Ex:=.blt .dict #v[.comp false (.tup #v[@0,.ix @1 (.FV @2 @0)]) (.keys @5) (.dw (.lit (.bl true))) [1,5]]
noncomputable def Yf:dB:=#v[.ifs (.dw (.cmp .eq (.ix @1 @4) (.blt .len #v[@3]))) #v[.ex (.ju .append @2 #v[.ix (.fld @0 "told") @4]),.ex (.ju .append @3 #v[Ye])] .nil]
noncomputable def mK:dB:=#v[.set 1 (.ix (.call "rounds" #v[.bin .add (.fld @0 "told") (.tup #v[.lit .bQ]),.call "with_nowhere" #v[.fld @0 "rows"]]) (.neg ↑1)),.set 2 (.lst .nil),.set 3 (.lst .nil),.je (.pair 4 5) (.enum (.fld @0 "rows")) Yf,.ret (.mk "Table" "Table.__init__" #v[@2,@3])]
noncomputable def Yg:Ex:=.blt .dict #v[.comp false (.tup #v[@0,.ju .get @1 #v[@0,@2]]) (.val (.lit (.str SG))) (.dw (.lit (.bl true))) [0,1]]
noncomputable def i6:dB:=#v[.set 1 (.blt .len #v[@0]),.ret (.comp false Yg (.val (.bin .add @0 (.lst #v[.dU .nil .nil]))) (.dw (.lit (.bl true))) [1])]
noncomputable def qN:dB:=#v[.set 2 (.call "telling_signs" #v[@1]),.set 3 (.lst #v[.call "numbered" #v[@0]]),.A2 (.dw (.lit (.bl true))) #v[.set 4 (.call "parted" #v[.ix @3 (.neg ↑1),@1,@2]),.ifs (.dw (.cmp .eq (.blt .max #v[@4]) (.blt .max #v[.ix @3 (.neg ↑1)]))) #v[.ret @3] .nil,.ex (.ju .append @3 #v[@4])]]
noncomputable def Yh:Ex:=.comp false (.ix @1 (.FV @2 @0)) (.val @2) (.dw (.lit (.bl true))) [0,5]
noncomputable def qO:dB:=#v[.set 3 (.lst .nil),.je (.pair 4 5) (.enum @1) #v[.ex (.ju .append @3 #v[.tup #v[.ix @0 @4,.blt .tuple #v[Yh]]])],.ret (.call "numbered" #v[@3])]
noncomputable def mM:dB:=#v[.set 1 (.dU .nil .nil),.ret (.comp false (.ju .ni @1 #v[@0,.blt .len #v[@1]]) (.val @0) (.dw (.lit (.bl true))) [1])]
noncomputable def iI:dB:=#v[.set 1 (.dU .nil .nil),.je (.name 2) (.val (.lit (.str SG))) #v[.ex (.ju .ni @1 #v[.blt .tuple #v[.comp false (.FV @0 @1) (.val @0) (.dw (.lit (.bl true))) [2]],@2])],.ret (.ju .vals @1 .nil)]
end PL.yr
namespace PL.A4
noncomputable def kr:dB:=#v[.set 2 (.call "table_of" #v[@0]),.set 3 (.call "table_of" #v[@1]),.set 4 (.bin .add (.bin .add (.fld @2 "told") (.fld @3 "told")) (.tup #v[.lit .bQ])),.set 5 (.call "with_nowhere" #v[.bin .add (.fld @2 "rows") (.call "moved" #v[.fld @3 "rows",.cF "Table" "size" "Table.size" @2 .nil])]),.ret (.call "text_apart" #v[.call "rounds" #v[@4,@5],@5,.tup #v[↑0,.cF "Table" "size" "Table.size" @2 .nil]])]
noncomputable def kz:dB:=#v[.ret (.blt .len #v[.fld @0 "told"])]
noncomputable def Yi:Ex:=.blt .dict #v[.comp false (.tup #v[@0,.bin .add (.FV @1 @0) @2]) (.keys @0) (.dw (.lit (.bl true))) [0,1]]
noncomputable def tY:dB:=#v[.ret (.comp false Yi (.val @0) (.dw (.lit (.bl true))) [1])]
noncomputable def Wq:dB:=#v[.aug 4 .add (.call "sign_apart" #v[@6,@1,@5]),.set 5 (.call "states_behind" #v[@1,@5,.ix @4 (.neg ↑1)])]
noncomputable def kA:dB:=#v[.set 3 ↑0,.A2 (.and (.dw (.cmp .lt @3 (.blt .len #v[@0]))) (.not (.dw (.call "are_apart" #v[.ix @0 @3,@2])))) #v[.aug 3 .add ↑1],.ifs (.dw (.cmp .eq @3 (.blt .len #v[@0]))) #v[.ret (.lit .bQ)] .nil,.set 4 (.lit (.str [])),.set 5 @2,.je (.name 6) (.rev (.sl @0 .no (.e @3))) Wq,.ret @4]
noncomputable def lD:dB:=#v[.ret (.cmp .ne (.ix @0 (.ix @1 ↑0)) (.ix @0 (.ix @1 ↑1)))]
noncomputable def iJ:dB:=#v[.ret (.tup #v[.FV (.ix @0 (.ix @1 ↑0)) @2,.FV (.ix @0 (.ix @1 ↑1)) @2])]
noncomputable def ZS:Ex:=.comp false @0 (.val (.lit (.str SG))) (.dw (.call "are_apart" #v[@1,.call "states_behind" #v[@2,@3,@0]])) [0,1,2]
noncomputable def kB:dB:=#v[.ret (.ix ZS ↑0)]
noncomputable def Yj:Ex:=(.comp false (.call "written" #v[@0]) (.val @3) (.dw (.lit (.bl true))) [])
noncomputable def Yk:Ex:=(.comp false (.bin .add (.bin .add ↑[40] @0) ↑[41]) (.val (.ix @1 ↑0)) (.dw (.lit (.bl true))) [])
noncomputable def Yl:dB:=#v[.set 3 (.call "_law_trees" #v[@0,.bin .mul ↑20 @2,.bin .add ↑1 (.bin .mod (.call "_law_mix" #v[@0,.bin .add ↑60 @2]) ↑2),↑1]),.ex (.ju .append @1 #v[Yj])]
noncomputable def Pg(i j:Int):Ex:=.call "difference" #v[.blt .list #v[.ix @1 (.lit (.int i))],.blt .list #v[.ix @1 (.lit (.int j))]]
noncomputable def Wr:dB:=#v[.ifs (.dw (.cmp .zW (Pg 0 0) (.lit .bQ))) #v[.ret (.lit (.bl false))] .nil,.set 4 (Pg 0 1),.ifs (.dw (.cmp .ne @4 (Pg 1 0))) #v[.ret (.lit (.bl false))] .nil,.ifs (.dw (.cmp .zW @4 (.lit .bQ))) #v[.ret (.cmp .ne (.cF "Table" "first" "Table.first" (.call "table_of" #v[.ix @1 ↑0]) #v[@4]) (.cF "Table" "first" "Table.first" (.call "table_of" #v[.ix @1 ↑1]) #v[@4]))] .nil,.ret (.cmp .eq (Pg 0 2) (Pg 1 2))]
noncomputable def Dc:dB:=(.cons (.set 1 (.lst .nil)) (.cons (.je (.name 2) (.range ↑3) Yl) (.cons (.ifs (.dw (.cmp .eq (.bin .mod (.call "_law_mix" #v[@0,↑59]) ↑3) ↑0)) #v[.Li @1 ↑1 Yk] .nil) Wr)))
end PL.A4
namespace L2
open PySem
open PL (U SO bD Xn KU KX Spec b8)
structure Tab where
 const:List (String×U)
 fns:List String
 pU:List String
 pV:List (String×String)
 yt:List String
 kC:List String
structure Inf where
 names:List (Str×NameKind)
 N:List Str
 calm:Bool
noncomputable def pick(l:List String)(x:Str):Option String:=l.find? λs=>bV s==x
noncomputable def Ab{α:Type}(l:List (String×α))(x:Str):Option (String×α):=l.find? λs=>bV s.1==x
noncomputable def d8(x:Str):List Str->Option Nat
 |[]=>none
 |y::ys=>if y=x then some 0 else(d8 x ys).map (·+1)
noncomputable def LA:Option NameKind->Bool
 |some .local=>true
 |some .cell=>true
 |some .free=>true
 |_=>false
noncomputable def Inf.gl(I:Inf)(x:Str):Bool:=I.names.lookup x==some .globalImplicit
noncomputable def TZ:me->Option PL.FT
 |.Add=>some .add|.Sub=>some .sub|.Mult=>some .mul|.FloorDiv=>some .fdiv|.Mod=>some .mod|.BitAnd=>some .band|.BitOr=>some .bor|.LShift=>some .shl|.RShift=>some .shr|_=>none
noncomputable def Ym:CmpOp->Option PL.Nk
 |.Eq=>some .eq|.NotEq=>some .ne|.Lt=>some .lt|.LtE=>some .le|.Gt=>some .gt|.GtE=>some .ge|.In=>some .isin|.NotIn=>some .n9|.Is=>some .OZ|.IsNot=>some .zW
noncomputable def LB:Expr->Option Str
 |.Name x _=>some x
 |_=>none
theorem T1:∀e,(∃x p,e=JW x p)\/LB e=none:=by
 intro e;cases e<;>first|exact .inr rfl|exact .inl #[_,_,rfl]
theorem Hz(h:LB e=some x):∃p,e=.Name x p:=by
 rcases T1 e with⟨y,p,rfl⟩|e
 .exact#[p,congrArg (JW · p) (aJ h)]
 .erw[nn (e.symm.trans h)]
noncomputable def ZT(e:Expr):Bool:=LB e==some ("sign":Str)||LB e==some ("held":Str)
noncomputable def Yn:CmpOp->Bool
 |.NotIn=>true
 |_=>false
noncomputable def RO(op:CmpOp)(b:Expr):Option PL.Nk:=if Yn op&&LB b==some ("numbers":Str) then some .BO else Ym op
noncomputable def Ph:Expr->Option Expr
 |.Call (.Attribute o m ap) [] [] cp=>if m==("values":Str)&&ap.endLine==cp.line then some o else none
 |_=>none
noncomputable def Ws:Expr->Option (Str×Expr)
 |.Call f [a] [] _=>(LB f).map λx=>(x,a)
 |_=>none
theorem T3:∀e,(∃f as ks p,e=Expr.Call f as ks p)\/Ws e=none:=by
 intro e;cases e<;>first|exact .inr rfl|exact .inl #[_,_,_,_,rfl]
theorem Nv(h:Ws e=some (x,a)):∃p q,e=.Call (.Name x p) [a] [] q:=by
 rcases T3 e with⟨f,as,ks,q,rfl⟩|e
 .cases as with
  |nil=>erw[nn h]
  |cons a as=>cases as with
   |cons=>erw[nn h]
   |nil=>cases ks with
    |cons=>erw[nn h]
    |nil=>
     let#[y,h1,h2]:=ar.mp h;cases h2;let#[p,rfl]:=Hz h1;exact#[p,q,rfl]
 .erw[nn (e.symm.trans h)]
noncomputable def qP(I : Inf)(names : List (Str×NameKind)) : List (Str×NameKind) := names.map λ(n, k) => if k==bG&&I.names.lookup n==some .cell then (n, .cell) else (n, k)
noncomputable def u6(I:Inf)(sc:jB)(xs:List Str):Bool:=
 sc.kind==.function&&sc.names.all (λy=>y.2 !=.cell||sc.names.lookup y.1==some .cell)&&sc.names.all (λy=>y.2 !=.local||sc.names.lookup y.1==some .local)&&sc.names.all (λy=>y.2 !=.free||I.names.lookup y.1==some .cell)
  && xs.all (λx=>sc.names.lookup x==some .local||sc.names.lookup x==some .cell)&&decide xs.Nodup
noncomputable def iz(I:Inf)(sc:jB):List Str:=I.N.filter λy=>sc.names.lookup y==some .free
noncomputable def LC:Expr->Option (List Str)
 |.Name x _=>some [x]
 |.Tuple [a,b] _ _=>(LB a).bind λx=>(LB b).map λy=>[x,y]
 |_=>none
noncomputable def noStar:Expr->Bool
 |.Starred ..=>false
 |_=>true
noncomputable def yu:Expr->Bool
 |.ListComp ..=>false
 |.SetComp ..=>false
 |.DictComp ..=>false
 |_=>true
noncomputable def kD:Expr->Bool
 |.Slice ..=>false
 |_=>true
noncomputable def fN:Expr->Bool
 |.Call (.Name _ _) [] [] _=>false
 |_=>true
noncomputable def Pj:Str->Option PL.Tv:=λx=>
 if x==("len":Str) then some .len else if x==("tuple":Str) then some .tuple else if x==("list":Str) then some .list
 else if x==("all":Str) then some .all else if x==("sum":Str) then some .sum else if x==("any":Str) then some .any else if x==("dict":Str) then some .dict else if x==("max":Str) then some .max else none
noncomputable def Pk:Str->Option PL.O0:=λx=>
 if x==("join":Str) then some .join else if x==("index":Str) then some .index else if x==("append":Str) then some .append else if x==("extend":Str) then some .extend else if x==("startswith":Str) then some .startswith else if x==("setdefault":Str) then some .ni else none
noncomputable def Yo:Const->Option U
 |.none=>some .bQ
 |.bool b=>some (.bl b)
 |.int i=>some (.int i)
 |.str x=>some (.str x.cps.toList)
 |_=>none
noncomputable def HA(I:Inf)(k:nJ):Bool:=match k with
 |⟨kw,v,_⟩=>kw==some ("key":Str)&&(match v with
  |.Name l _=>l==("len":Str)&&I.gl l
  |_=>false)
structure CF where
 e:Inf->Expr->Option PL.Ex
 es:Inf->List Expr->Option PL.zd
 bo:Inf->BoolOp->List Expr->Option PL.Ex
 o:Inf->Option Expr->Option PL.Ox
 i:Inf->Expr->Option PL.It
 n:Inf->Expr->Option PL.It
 t:Inf->Expr->Option PL.Tx
 tb:Inf->BoolOp->List Expr->Option PL.Tx
noncomputable def RP(T:Tab)(F:CF)(I:Inf)(e:Expr):Option PL.Ex:=match e with
  |.Name x _=>match d8 x I.N with
   |some i=>if LA (I.names.lookup x)&&x !=("__debug__":Str)&&x !=("__classdict__":Str) then some (.var i) else none
   |none=>if I.gl x&&x !=("__debug__":Str) then(Ab T.const x).map λp=>.lit p.2 else none
  |.Constant c _ _=>(Yo c).map .lit
  |.BinOp a op b _=>do
   let o <-TZ op
   let x <-F.e I a
   let y <-F.e I b
   some (.bin o x y)
  |.UnaryOp op a _=>(match op with
   |.USub=>(F.e I a).map .neg
   |.Not=>(F.e I a).map .not
   |_=>none)
  |.BoolOp op vs _=>F.bo I op vs
  |.Compare a ops bs _=>(match ops with
   |[op]=>(match bs with
    |[b]=>do
     let o <-RO op b
     let x <-F.e I a
     let y <-F.e I b
     some (.cmp o x y)
    |_=>none)
   |_=>none)
  |.IfExp t a b _=>do
   let c <-F.t I t
   let x <-F.e I a
   let y <-F.e I b
   some (.FU c x y)
  |.Call f args kws cp=>(match f with
   |.Name f _=>(match kws with
    |[]=>if I.gl f&&f !=("__debug__":Str) then
      match Pj f with
      |some b=>(match (match args with|[a]=>Ph a|_=>none) with
       |some o=>if f==("list":Str)&&T.kC.contains "list"&&I.calm&&fN o then(F.e I o).map λx=>.ju .vals x .nil else none
       |none=>if (pick T.kC f).isSome && !args.isEmpty&&I.calm then(F.es I args).map (.blt b) else none)
      |none=>if !I.calm then none else match pick T.fns f with
       |some q=>(F.es I args).map (.call q)
       |none=>match pick T.pU f with
        |some q=>(F.es I args).map (.mk q (q++".__init__"))
        |none=>none
     else none
    |kw::ks=>(match args with
     |[a]=>if ks.isEmpty&&f==("min":Str)&&HA I kw&&I.gl f&&T.kC.contains "min"&&T.kC.contains "len"&&I.calm&&noStar a then(F.e I a).map λx=>.blt .uU (.cons x .nil) else none
     |_=>none))
   |.Attribute o m ap=>if !(kws.isEmpty&&fN o&&ap.endLine==cp.line&&decide (args.length<20)&&I.calm) then none else
    match Ab T.pV m with
    |some (q,k)=>do
     let x <-F.e I o
     let as <-F.es I args
     some (.cF k q (k++"."++q) x as)
    |none=>(match args with
     |[]=>if m==("bit_length":Str) then(F.e I o).map λx=>.ju .mB x .nil else none
     |a::as=>if m==("get":Str) then(match as with
       |[d]=>if noStar a&&noStar d then do
         let x <-F.e I o
         let y <-F.e I a
         let z <-F.e I d
         some (.ju .get x (.cons y (.cons z .nil)))
        else none
       |[]=>if noStar a then do
         let x <-F.e I o
         let y <-F.e I a
         some (.ju .get x (.cons y .nil))
        else none
       |_=>none)
      else match Pk m with
      |some b=>do
       let x <-F.e I o
       let as <-F.es I (a::as)
       some (.ju b x as)
      |none=>none)
   |_=>none)
  |.Attribute o f _=>if !fN o then none else do
   let q <-pick T.yt f
   let x <-F.e I o
   some (.fld x q)
  |.Subscript o i _=>if kD i then do
    let x <-F.e I o
    let y <-F.e I i
    some (if ZT i then .FV x y else .ix x y)
   else(match i with
   |.Slice lo hi st _=>(match st with
    |none=>do
     let x <-F.e I o
     let a <-F.o I lo
     let b <-F.o I hi
     some (.sl x a b)
    |some _=>none)
   |_=>none)
  |.Dict ks vs _=>(match ks with
   |[]=>(match vs with
    |[]=>some (.dU .nil .nil)
    |_=>none)
   |[some k]=>(match vs with
    |[v]=>do
     let x <-F.e I k
     let y <-F.e I v
     some (.dU (.cons x .nil) (.cons y .nil))
    |_=>none)
   |_=>none)
  |.List es _=>(F.es I es).map .lst
  |.Tuple es _ _=>(F.es I es).map .tup
  |.ListComp elt gs sc _=>(match gs with
   |[g]=>(match g with
    |⟨tg,iter,ifs,as⟩=>match LC tg with
     |some xs=>if u6 I sc xs&&I.calm&&as==0 then do
       let it <-(match xs with
        |[_]=>F.i I iter
        |_=>F.n I iter)
       let cn:=iz I sc
       let J:Inf:=#[qP I sc.names,xs++cn,true]
       let c <-(match ifs with
        |[]=>some (PL.Tx.dw (.lit (.bl true)))
        |[c]=>F.t J c
        |_=>none)
       let e <-F.e J elt
       let ci <-cn.mapM λy=>d8 y I.N
       some (.comp (xs.length==2) e it c ci)
      else none
     |none=>none)
   |_=>none)
  |_=>none
noncomputable def HB(F:CF)(I:Inf):List Expr->Option PL.zd
 |[]=>some .nil
 |e::es=>if !noStar e then none else do
  let x <-F.e I e
  let xs <-F.es I es
  some (.cons x xs)
noncomputable def HC(F:CF)(I:Inf)(op:BoolOp):List Expr->Option PL.Ex
 |[]=>none
 |[a]=>F.e I a
 |a::b::r=>do
  let x <-F.e I a
  let y <-F.bo I op (b::r)
  some (match op with|.And=>.and x y|.Or=>.or x y)
noncomputable def Wt(F:CF)(I:Inf):Option Expr->Option PL.Ox
 |none=>some .no
 |some e=>(F.e I e).map .e
noncomputable def stI(T:Tab)(F:CF)(I:Inf)(e:Expr):Option PL.It:=match Ws e with
  |some (f,a)=>if f==("range":Str) then(if I.gl f&&T.kC.contains "range" then(F.e I a).map .range else none) else if f==("reversed":Str) then(if I.gl f&&T.kC.contains "reversed" then(F.e I a).map .rev else none) else(F.e I e).map .val
  |none=>if LB e==some ("row":Str) then(F.e I e).map .keys else(F.e I e).map .val
noncomputable def stN(T:Tab)(F:CF)(I:Inf)(e:Expr):Option PL.It:=match Ws e with
  |some (f,a)=>if f==("enumerate":Str)&&I.gl f&&T.kC.contains "enumerate"&&noStar a then(F.e I a).map .enum else none
  |none=>none
noncomputable def ZU(F:CF)(I:Inf)(e:Expr):Option PL.Tx:=match e with
  |.UnaryOp .Not a _=>(F.t I a).map .not
  |.BoolOp op vs _=>F.tb I op vs
  |.IfExp ..=>none
  |.Compare a [op] [b] _=>do
   let o <-RO op b
   let x <-F.e I a
   let y <-F.e I b
   some (.dw (.cmp o x y))
  |.Compare ..=>none
  |_=>(F.e I e).map .dw
noncomputable def HD(F:CF)(I:Inf)(op:BoolOp):List Expr->Option PL.Tx
 |[]=>none
 |[a]=>F.t I a
 |a::b::r=>do
  let x <-F.t I a
  let y <-F.tb I op (b::r)
  some (match op with|.And=>.and x y|.Or=>.or x y)
noncomputable def qQ(T:Tab):Nat->CF
 |0=>#[λ_ _=>none,λ_ _=>none,λ_ _ _=>none,λ_ _=>none,λ_ _=>none,λ_ _=>none,λ_ _=>none,λ_ _ _=>none]
 |n+1=>#[RP T (qQ T n),HB (qQ T n),HC (qQ T n),Wt (qQ T n),stI T (qQ T n),stN T (qQ T n),ZU (qQ T n),HD (qQ T n)]
noncomputable abbrev cE(T:Tab)(n:Nat):Inf->Expr->Option PL.Ex:=(qQ T n).e
noncomputable abbrev RQ(T:Tab)(n:Nat):Inf->List Expr->Option PL.zd:=(qQ T n).es
noncomputable abbrev Wu(T:Tab)(n:Nat):Inf->BoolOp->List Expr->Option PL.Ex:=(qQ T n).bo
noncomputable abbrev cO(T:Tab)(n:Nat):Inf->Option Expr->Option PL.Ox:=(qQ T n).o
noncomputable abbrev cI(T:Tab)(n:Nat):Inf->Expr->Option PL.It:=(qQ T n).i
noncomputable abbrev cN(T:Tab)(n:Nat):Inf->Expr->Option PL.It:=(qQ T n).n
noncomputable abbrev cT(T:Tab)(n:Nat):Inf->Expr->Option PL.Tx:=(qQ T n).t
noncomputable abbrev Wv(T:Tab)(n:Nat):Inf->BoolOp->List Expr->Option PL.Tx:=(qQ T n).tb
section
variable{T:Tab}{n:Nat}{I:Inf}{x:Expr}{xs:List Expr}{p:BoolOp}{y:Option Expr}
theorem T4:cE T 0 I x=none:=rfl
theorem LD:cE T (n+1) I x=RP T (qQ T n) I x:=rfl
theorem Nw:RQ T 0 I xs=none:=rfl
theorem HE:RQ T (n+1) I xs=HB (qQ T n) I xs:=rfl
theorem T5:Wu T 0 I p xs=none:=rfl
theorem HF:Wu T (n+1) I p xs=HC (qQ T n) I p xs:=rfl
theorem Yp:cO T 0 I y=none:=rfl
theorem T6:cO T (n+1) I y=Wt (qQ T n) I y:=rfl
theorem Yq:cI T 0 I x=none:=rfl
theorem Yr:cI T (n+1) I x=stI T (qQ T n) I x:=rfl
theorem Ys:cN T 0 I x=none:=rfl
theorem Yt:cN T (n+1) I x=stN T (qQ T n) I x:=rfl
theorem Yu:cT T 0 I x=none:=rfl
theorem Yv:cT T (n+1) I x=ZU (qQ T n) I x:=rfl
theorem T7:Wv T 0 I p xs=none:=rfl
theorem HG:Wv T (n+1) I p xs=HD (qQ T n) I p xs:=rfl
end
noncomputable def Yw(T:Tab)(n:Nat)(J:Inf)(ifs:List Expr):Option PL.Tx:=match ifs with
 |[]=>some (PL.Tx.dw (.lit (.bl true)))
 |[c]=>cT T n J c
 |_=>none
theorem u7(h:cE T (n+1) I (.ListComp elt gs sc pos)=some x):
  ∃tg iter ifs xs it c ee ci,gs=[#[tg,iter,ifs,0]]/\LC tg=some xs/\(u6 I sc xs=true/\I.calm=true)/\((∃y,xs=[y])/\cI T n I iter=some it\/(¬ ∃y,xs=[y])/\cN T n I iter=some it)/\Yw T n #[qP I sc.names,xs++iz I sc,true] ifs=some c /\
   cE T n #[qP I sc.names,xs++iz I sc,true] elt=some ee/\(iz I sc).mapM (λy=>d8 y I.N)=some ci/\x=.comp (xs.length==2) ee it c ci:=by
 rw[LD] at h
 delta RP at h
 dsimp only at h;split at h
 .rename_i g
  let#[tg,iter,ifs,as]:=g;dsimp only at h;split at h
  .rename_i xs ht
   split at h
   .rename_i hc
    dsimp[ao] at hc;dsimp[aK,ay] at h;let#[it,h1,c,h2,ee,h3,ci,h4,h5]:=h;injection h5 with h5
    have e0:as=0:=eq_of_beq hc.2;subst e0;refine#[tg,iter,ifs,xs,it,c,ee,ci,rfl,ht,hc.1,?_,h2,h3,h4,h5.symm];split at h1
    .erw[.inl #[#[_,rfl],h1]]
    .rename_i hn
     erw[.inr #[λ⟨y,e⟩=>hn y e,h1]]
   .erw[nn h]
  .erw[nn h]
 .erw[nn h]
theorem T8:∀e,(∃x p,e=JW x p)\/(∃es k q,e=Expr.Tuple es k q)\/LC e=none:=by
 intro e;cases e<;>first|exact .inr (.inr rfl)|exact .inl #[_,_,rfl]|exact .inr (.inl #[_,_,_,rfl])
theorem B4(h:LC tg=some xs):(∃x p,tg=.Name x p/\xs=[x])\/∃x y p p' k q,tg=.Tuple [.Name x p,.Name y p'] k q/\xs=[x,y]:=by
 rcases T8 tg with⟨x,p,rfl⟩|⟨es,k,q,rfl⟩|e
 .erw[.inl #[x,p,rfl,(aJ h).symm]]
 .cases es with
  |nil=>erw[nn h]
  |cons a es=>cases es with
   |nil=>erw[nn h]
   |cons b es=>cases es with
    |cons=>erw[nn h]
    |nil=>
     let#[x,h1,h]:=ay.mp h;let#[y,h2,h3]:=ar.mp h;let#[p,rfl]:=Hz h1;let#[p',rfl]:=Hz h2;erw[.inr #[x,y,p,p',k,q,rfl,h3.symm]]
 .erw[nn (e.symm.trans h)]
open PL (U SO bD Xn KU KX Spec b8)
noncomputable def tJ:Option NameKind->Bool
 |some .local=>true
 |some .cell=>true
 |_=>false
noncomputable def B5:me->Option PL.FT
 |.Add=>some .add|.Sub=>some .sub|.BitOr=>some .bor|_=>none
structure CG where
 s:Inf->Stmt->Option PL.Sm
 ss:Inf->List Stmt->Option PL.dB
noncomputable def Yx(T:Tab)(F:CF)(G:CG)(I:Inf)(s:Stmt):Option PL.Sm:=match s with
  |.Assign ts e _=>(match ts with
   |[t]=>(match t with
    |.Name x _=>(match d8 x I.N with
     |some i=>if tJ (I.names.lookup x) then(F.e I e).map (.set i) else none
     |none=>none)
    |.Attribute o f _=>do
     let q <-pick T.yt f
     let x <-F.e I o
     let y <-F.e I e
     some (.mC x q y)
    |.Subscript o i _=>if kD i&&ZT i then do
      let x <-F.e I o
      let k <-F.e I i
      let y <-F.e I e
      some (.ni x k y)
     else if kD i then do
      let x <-F.e I o
      let k <-F.e I i
      let y <-F.e I e
      some (.Li x k y)
     else none
    |_=>none)
   |_=>none)
  |.AugAssign t op e _=>(match t with
   |.Name x _=>(match d8 x I.N with
    |some i=>if tJ (I.names.lookup x) then do
      let p <-B5 op
      let y <-F.e I e
      some (.aug i p y)
     else none
    |none=>none)
   |.Attribute o f _=>do
    let q <-pick T.yt f
    let p <-B5 op
    let x <-F.e I o
    let y <-F.e I e
    some (.BP x q p y)
   |.Subscript o i _=>if kD i then do
     let p <-B5 op
     let x <-F.e I o
     let j <-F.e I i
     let y <-F.e I e
     some (.EJ x j p y)
    else none
   |_=>none)
  |.Expr e _=>if yu e then(F.e I e).map .ex else none
  |.Return e _=>(match e with
   |some e=>(F.e I e).map .ret
   |none=>none)
  |.If c a b _=>do
   let c <-F.t I c
   let a <-G.ss I a
   let b <-G.ss I b
   some (.ifs c a b)
  |.While c b el _=>if el.isEmpty then do
    let c <-F.t I c
    let b <-G.ss I b
    some (.A2 c b)
   else none
  |.For tg it b el _=>if !(I.calm&&el.isEmpty) then none else(match LC tg with
   |some xs=>(match xs with
    |[x]=>(match d8 x I.N with
     |some i=>if tJ (I.names.lookup x) then do
       let it <-F.i I it
       let b <-G.ss I b
       some (.je (.name i) it b)
      else none
     |none=>none)
    |[x,y]=>(match d8 x I.N with
     |some i=>(match d8 y I.N with
      |some j=>if tJ (I.names.lookup x)&&tJ (I.names.lookup y) then do
        let it <-F.n I it
        let b <-G.ss I b
        some (.je (.pair i j) it b)
       else none
      |none=>none)
     |none=>none)
    |_=>none)
   |none=>none)
  |.Raise _ _ _=>some (.ex (.ix (.lit .bQ) (.lit .bQ)))
  |.Try b hs el fi _=>(match hs with
   |_::_=>if el.isEmpty&&fi.isEmpty then(G.ss I b).map .RK else none
   |[]=>none)
  |_=>none
noncomputable def LF(G:CG)(I:Inf):List Stmt->Option PL.dB
 |[]=>some .nil
 |s::ss=>do
  let x <-G.s I s
  let xs <-G.ss I ss
  some (.cons x xs)
noncomputable def EY(T:Tab):Nat->CG
 |0=>#[λ_ _=>none,λ_ _=>none]
 |n+1=>#[Yx T (qQ T n) (EY T n),LF (EY T n)]
noncomputable abbrev cS(T:Tab)(n:Nat):Inf->Stmt->Option PL.Sm:=(EY T n).s
noncomputable abbrev J4(T:Tab)(n:Nat):Inf->List Stmt->Option PL.dB:=(EY T n).ss
theorem Yy:cS T 0 I x=none:=rfl
theorem Yz:cS T (n+1) I x=Yx T (qQ T n) (EY T n) I x:=rfl
theorem T9:J4 T 0 I x=none:=rfl
theorem Nx:J4 T (n+1) I x=LF (EY T n) I x:=rfl
open PySem.Spec PyProof.Rows PySem.W
open PL (U SO bD Xn KU KX Spec b8)
structure Ctx where
 P:bw
 w:cf
 K:Frag
 mg:Str->Option Value
 base:Heap
 cls:String->Option Addr
noncomputable abbrev nm(s:String):Str:=bV s
def xc(K:Frag)(H:Hp)(a:Addr)(vs:List V):Prop:=
 (∃o,H a=some (.rJ o (.lst vs))) \/
  ∃(o:Obj)(its:Array Value)(n:Nat),K.lookup a=some o/\o.cls=.type "list"/\o.dict=none/\o.data=.seq its n/\its.size<=sizeLine/\Vals vs its.toList
theorem xc.sq{K:Frag}{H:Hp}{a:Addr}{vs:List V}(h:xc K H a vs):hU K H a vs:=by
 rcases h with⟨o,h⟩|h
 .erw[.inl (.inr #[o,h])]
 .erw[.inr h]
section
variable(c:Ctx)(ρ:List Addr)(H:Hp)
mutual
noncomputable def Rep:U->V->Prop
 |.bQ,v=>v=.bQ
 |.bl b,v=>v=.bl b
 |.int i,v=>v=.int i
 |.str l,v=>v=.str (tx l)
 |.tup us,v=>∃a vs,v=.ref a/\H a=some (.tup vs)/\aZ us vs
 |.loc n,v=>∃a,v=.ref a/\ρ[n]?=some a
 |.rY ns,v=>∃a,v=.ref a/\xc c.K H a (ns.map .int)
 |.tab kvs,v=>∃a,v=.ref a/\OX c.K c.w.params a (kvs.map λp=>(tx p.1,V.str (tx p.2)))
noncomputable def aZ:List U->List V->Prop
 |[],vs=>vs=[]
 |u::us,vs=>∃v r,vs=v::r/\Rep u v/\aZ us r
end
def tK(a:Addr):SO->Prop
 |.lst us=>∃vs,H a=some (.lst vs)/\aZ c ρ H us vs
 |.ins x fs=>∃C dx vs,c.cls x=some C/\H a=some (.ins C dx vs)/\vs.map (·.1)=(fs.map (·.1)).map nm/\aZ c ρ H (fs.map (·.2)) (vs.map (·.2))
 |.dU kvs=>∃vs,H a=some (.dK vs)/\vs.length=kvs.length/\aZ c ρ H (kvs.map (·.1)) (vs.map λp=>kV p.1)/\aZ c ρ H (kvs.map (·.2)) (vs.map (·.2))
 |.pR kvs=>∃o vs,H a=some (.rJ o (.dK vs))/\vs.length=kvs.length/\aZ c ρ H (kvs.map (·.1)) (vs.map λp=>kV p.1)/\aZ c ρ H (kvs.map (·.2)) (vs.map (·.2))
 |.tR kvs=>∃vs,H a=some (.dT vs)/\vs.map (·.1)=kvs.map (λp=>p.1.map wj)/\aZ c ρ H (kvs.map (·.2)) (vs.map (·.2))
 |.wV kvs=>∃vs,H a=some (.dP vs)/\vs.map (·.1)=kvs.map (·.1)/\aZ c ρ H (kvs.map (·.2)) (vs.map (·.2))
structure cw(S:bD):Prop where
 len:ρ.length=S.length
 nd:ρ.Nodup
 at_:∀(n:Nat)(a:Addr)(o:SO),ρ[n]?=some a->S[n]?=some o->tK c ρ H a o
end
structure gI(ρ:List Addr)(H:Hp)(ρ':List Addr)(H':Hp):Prop where
 pre:∃more,ρ'=ρ++more
 new:∀b∈ρ',b∉ρ->H b=none
 fr:∀b o,H b=some o->b∉ρ->H' b=some o
 fz:∀b o vs,H b=some (.rJ o (.dK vs))->H' b=some (.rJ o (.dK vs))
section
variable{c:Ctx}{ρ ρ' ρ'':List Addr}{H H' H'':Hp}{S S':bD}
theorem gI.refl:gI ρ H ρ H:=#[#[[],by simp],λ_ h n=>absurd h n,λ_ _ h _=>h,λ_ _ _ h=>h]
theorem gI.trans(a:gI ρ H ρ' H')(b:gI ρ' H' ρ'' H''):gI ρ H ρ'' H'':=by
 let#[m1,e1]:=a.pre;let#[m2,e2]:=b.pre;refine#[#[m1++m2,by rw[e2,e1,bj]],λx hx nx=>?_,λx o h nx=>?_,λx o vs h=>b.fz x o vs (a.fz x o vs h)]
 .by_cases z:x∈ρ'
  .erw[a.new x z nx]
  .cases q:H x with
   |none=>rfl
   |some o=>erw[absurd (a.fr x o q nx) (by rw[b.new x hx z];simp)]
 .have q:=a.fr x o h nx
  by_cases z:x∈ρ'
  .erw[absurd (a.new x z nx) (by rw[h];simp)]
  .erw[b.fr x o q z]
theorem gI.get(a:gI ρ H ρ' H'){n:Nat}{b:Addr}(h:ρ[n]?=some b):ρ'[n]?=some b:=by
 let#[m,e]:=a.pre;rw[e,ai (by let#[h,_]:=af.mp h;erw[h])]
 erw[h]
noncomputable def yw:HO->Bool
 |.lst _=>true
 |.ins _ _ _=>true
 |.dK _=>true
 |.dT _=>true
 |.dP _=>true
 |.rJ _ (.dK _)=>true
 |_=>false
noncomputable def Pl:HO->Bool
 |.rJ _ _=>true
 |_=>false
theorem cw.obj(R:cw c ρ H S)(h:b∈ρ):∃o,H b=some o/\yw o=true:=by
 let#[n,hn,e]:=qc h;have hn':n<S.length:=R.len▸hn;have q:=R.at_ n b S[n] (by rw[ab hn,e]) (ab hn');cases o:S[n] with
 |lst us=>rw[o] at q;let#[vs,h,_]:=q;exact#[_,h,rfl]
 |ins x fs=>rw[o] at q;let#[C,dx,vs,_,h,_]:=q;exact#[_,h,rfl]
 |dU kvs=>rw[o] at q;let#[vs,h,_]:=q;exact#[_,h,rfl]
 |pR kvs=>rw[o] at q;let#[o',vs,h,_]:=q;exact#[_,h,rfl]
 |tR kvs=>rw[o] at q;let#[vs,h,_]:=q;exact#[_,h,rfl]
 |wV kvs=>rw[o] at q;let#[vs,h,_]:=q;exact#[_,h,rfl]
theorem cw.not(R:cw c ρ H S)(h:H b=some o)(q:yw o=false):b∉ρ:=λz=>by
 let#[o',h',q']:=R.obj z;rw[h] at h';injection h' with e;subst e
 rw[q] at q';erw[JX q']
theorem cw.HH(R:cw c ρ H S)(h:H b=none):b∉ρ:=λz=>by
 let#[o',h',_]:=R.obj z;rw[h] at h';cases h'
mutual
theorem Rep.hW(p:∃more,ρ'=ρ++more)(k:∀b o,H b=some o->yw o=false->H' b=some o):∀{u:U}{v:V},Rep c ρ H u v->Rep c ρ' H' u v
 |.bQ,_,h=>by unfold Rep at h ⊢;erw[h]
 |.bl _,_,h=>by unfold Rep at h ⊢;erw[h]
 |.int _,_,h=>by unfold Rep at h ⊢;erw[h]
 |.str _,_,h=>by unfold Rep at h ⊢;erw[h]
 |.tup us,_,h=>by
  unfold Rep at h ⊢;let#[x,vs,e,hx,hs]:=h;exact#[x,vs,e,k x _ hx rfl,aZ.hW p k hs]
 |.loc n,_,h=>by
  unfold Rep at h ⊢;let#[x,e,hx]:=h;let#[m,rfl]:=p;exact#[x,e,by rw[ai (by let#[h,_]:=af.mp hx;erw[h])];erw[hx]]
 |.rY ns,_,h=>by
  unfold Rep at h ⊢;let#[x,e,hx]:=h;rcases hx with⟨o,hx⟩|hx
  .exact#[x,e,.inl #[o,k x _ hx rfl]]
  .exact#[x,e,.inr hx]
 |.tab _,_,h=>by unfold Rep at h ⊢;erw[h]
theorem aZ.hW(p:∃more,ρ'=ρ++more)(k:∀b o,H b=some o->yw o=false->H' b=some o):∀{us:List U}{vs:List V},aZ c ρ H us vs->aZ c ρ' H' us vs
 |[],_,h=>by unfold aZ at h ⊢;erw[h]
 |u::us,_,h=>by
  unfold aZ at h ⊢;let#[v,r,e,h1,h2]:=h;exact#[v,r,e,Rep.hW p k h1,aZ.hW p k h2]
end
theorem tK.hW(p:∃more,ρ'=ρ++more)(m:∀b o,H b=some o->yw o=false->H' b=some o)(h:tK c ρ H b o)(k:H' b=H b):tK c ρ' H' b o:=by
 cases o with
 |lst us=>let#[vs,h1,h2]:=h;exact#[vs,k.trans h1,h2.hW p m]
 |ins x fs=>let#[C,dx,vs,h0,h1,h2,h3]:=h;exact#[C,dx,vs,h0,k.trans h1,h2,h3.hW p m]
 |dU kvs=>let#[vs,h1,h2,h3,h4]:=h;exact#[vs,k.trans h1,h2,h3.hW p m,h4.hW p m]
 |pR kvs=>let#[o,vs,h1,h2,h3,h4]:=h;exact#[o,vs,k.trans h1,h2,h3.hW p m,h4.hW p m]
 |tR kvs=>let#[vs,h1,h2,h3]:=h;exact#[vs,k.trans h1,h2,h3.hW p m]
 |wV kvs=>let#[vs,h1,h2,h3]:=h;exact#[vs,k.trans h1,h2,h3.hW p m]
theorem gI.YA(R:cw c ρ H S)(a:gI ρ H ρ' H'):∀b o,H b=some o->yw o=false->H' b=some o:=λb o h q=>a.fr b o h (R.not h q)
theorem Rep.mono(R:cw c ρ H S)(a:gI ρ H ρ' H')(h:Rep c ρ H u v):Rep c ρ' H' u v:=h.hW a.pre (a.YA R)
theorem aZ.mono(R:cw c ρ H S)(a:gI ρ H ρ' H')(h:aZ c ρ H us vs):aZ c ρ' H' us vs:=h.hW a.pre (a.YA R)
theorem tK.mono(R:cw c ρ H S)(a:gI ρ H ρ' H')(h:tK c ρ H b o)(k:H' b=H b):tK c ρ' H' b o:=h.hW a.pre (a.YA R) k
theorem yx(hD:H D=some o)(q:yw o=true):∀b o,H b=some o->yw o=false->upd H D ho b=some o:=λb o' h z=>by
 rw[bX]
 .erw[h]
 .intro e;subst e;rw[hD] at h;injection h with h;subst h;rw[q] at z;erw[JX z]
theorem cw.Ac(R:cw c ρ H S)(ho:HO)(hD:H D=some o)(q:yw o=true)(n:D∉ρ):cw c ρ (upd H D ho) S:=
 #[R.len,R.nd,λm b o' h1 h2=>(R.at_ m b o' h1 h2).hW #[[],by simp] (yx hD q) (bX λe=>n (e▸ak h1))]
theorem cw.join(R:cw c ρ H S)(n:D∉ρ)(h:tK c ρ H D o):cw c (ρ++[D]) H (S++[o]):=by
 have p:∃more,ρ++[D]=ρ++more:=#[[D],rfl]
 refine#[by simp[R.len],?_,λm a o' h1 h2=>?_]
 .rw[eV]
  exact#[R.nd,by simp,λx hx y hy=>by rw[b7.mp hy];erw[λe=>n (e▸hx)]]
 .by_cases z:m<ρ.length
  .rw[ai z] at h1
   rw[ai (R.len▸z)] at h2;exact(R.at_ m a o' h1 h2).hW p (λ_ _ h _=>h) rfl
  .have hz:m=ρ.length:=by
    let#[q,_]:=af.mp h1;simp at q;omega
   subst hz;rw[ax (au _),bO] at h1;rw[R.len,ax (au _),bO] at h2;simp at h1 h2;rw[<-h1,<-h2];erw[h.hW p (λ_ _ h _=>h) rfl]
theorem gI.alloc(R:cw c ρ H S)(hp:H p=none)(o:HO):gI ρ H (ρ++[p]) (upd H p o):=by
 refine#[#[[p],rfl],λb hb nb=>?_,λb o h nb=>?_,λb o vs h=>by rw[bX (dA h hp)];erw[h]]
 .rcases aR.mp hb with h|h
  .erw[absurd h nb]
  .rw[b7.mp h];erw[hp]
 .rw[bX (dA h hp)];erw[h]
theorem cw.alloc(R:cw c ρ H S)(hp:H p=none)(h:tK c (ρ++[p]) (upd H p ho) p o):cw c (ρ++[p]) (upd H p ho) (S++[o]):=by
 have st:=gI.alloc R hp ho;refine#[by simp[R.len],?_,λn a o' h1 h2=>?_]
 .rw[eV]
  exact#[R.nd,by simp,λx hx y hy=>by rw[b7.mp hy];erw[λe=>R.HH hp (e▸hx)]]
 .by_cases z:n<ρ.length
  .rw[ai z] at h1
   rw[ai (R.len▸z)] at h2;refine(R.at_ n a o' h1 h2).mono R st (bX λe=>?_);erw[R.HH hp (e▸ak h1)]
  .have hz:n=ρ.length:=by
    let#[q,_]:=af.mp h1;simp at q;omega
   subst hz;rw[ax (au _),bO] at h1;rw[R.len,ax (au _),bO] at h2;simp at h1 h2;rw[<-h1,<-h2];erw[h]
theorem gI.lay(R:cw c ρ H S)(hp:H p=none)(o:HO):gI ρ H ρ (upd H p o):=
 #[#[[],by simp],λ_ h n=>absurd h n,λb _ h _=>by rw[bX (dA h hp)];erw[h],λb o vs h=>by rw[bX (dA h hp)];erw[h]]
theorem cw.lay(R:cw c ρ H S)(hp:H p=none)(o:HO):cw c ρ (upd H p o) S:=
 #[R.len,R.nd,λn a o' h1 h2=>(R.at_ n a o' h1 h2).mono R (gI.lay R hp o) (bX λe=>R.HH hp (e▸ak h1))]
theorem gI.put(h:a∈ρ)(hu:H a=some u)(nf:Pl u=false)(o:HO):gI ρ H ρ (upd H a o):=
 #[#[[],by simp],λ_ h n=>absurd h n,λb _ q nb=>by rw[bX (show b≠a from λe=>nb (by rw[e];exact h))];exact q,
  λb o' vs q=>by rw[bX λe=>by rw[e,hu] at q;injection q with q;rw[q] at nf;cases nf];erw[q]]
theorem cw.put(R:cw c ρ H S)(ha:ρ[n]?=some a)(hu:H a=some u)(nf:Pl u=false)(h:tK c ρ (upd H a ho) a o):cw c ρ (upd H a ho) (S.set n o):=by
 have hm:=ak ha;refine#[by simp[R.len],R.nd,λm b o' h1 h2=>?_];by_cases z:m=n
 .subst z
  rw[ha] at h1;injection h1 with h1;subst h1
  have hl:m<S.length:=R.len▸(af.mp ha).1;rw[bg hl] at h2;injection h2 with h2;subst h2;erw[h]
 .rw[ah (bZ z)] at h2
  refine(R.at_ m b o' h1 h2).mono R (gI.put hm hu nf ho) (bX λe=>z ?_);subst e;let#[l1,e1]:=af.mp h1;let#[l2,e2]:=af.mp ha;exact(JS R.nd).mp (e1.trans e2.symm)
theorem aZ.len:∀{us:List U}{vs:List V},aZ c ρ H us vs->us.length=vs.length
 |[],_,h=>by unfold aZ at h;subst h;rfl
 |_::us,_,h=>by
  unfold aZ at h;let#[v,r,e,_,h2]:=h;subst e;rw[aT,aT,aZ.len h2]
theorem aZ.nil:aZ c ρ H [] []:=by unfold aZ;rfl
theorem aZ.cons(h:Rep c ρ H u v)(t:aZ c ρ H us vs):aZ c ρ H (u::us) (v::vs):=by unfold aZ;exact#[v,vs,rfl,h,t]
theorem aZ.app:∀{us ws:List U}{vs xs:List V},aZ c ρ H us vs->aZ c ρ H ws xs->aZ c ρ H (us++ws) (vs++xs)
 |[],_,_,_,h,k=>by unfold aZ at h;subst h;erw[k]
 |u::us,_,_,_,h,k=>by
  unfold aZ at h;let#[v,r,e,h1,h2]:=h;subst e;erw[aZ.cons h1 (aZ.app h2 k)]
theorem aZ.get:∀{us:List U}{vs:List V}{n:Nat}{u:U},aZ c ρ H us vs->us[n]?=some u->∃v,vs[n]?=some v/\Rep c ρ H u v
 |[],_,_,_,_,e=>by simp at e
 |u::us,_,n,_,h,e=>by
  unfold aZ at h;let#[v,r,e',h1,h2]:=h;subst e';cases n with
  |zero=>simp at e;subst e;exact#[v,rfl,h1]
  |succ n=>simp at e ⊢;erw[aZ.get h2 e]
theorem aZ.take:∀{us:List U}{vs:List V}(n:Nat),aZ c ρ H us vs->aZ c ρ H (us.take n) (vs.take n)
 |_,_,0,_=>by dsimp[List.take_zero];erw[aZ.nil]
 |[],_,_+1,h=>by unfold aZ at h;subst h;dsimp[List.take_nil];erw[aZ.nil]
 |u::us,_,n+1,h=>by
  unfold aZ at h;let#[v,r,e,h1,h2]:=h;subst e;erw[aZ.cons h1 (aZ.take n h2)]
theorem aZ.drop:∀{us:List U}{vs:List V}(n:Nat),aZ c ρ H us vs->aZ c ρ H (us.drop n) (vs.drop n)
 |_,_,0,h=>h
 |[],_,_+1,h=>by unfold aZ at h;subst h;dsimp[List.drop_nil];erw[aZ.nil]
 |u::us,_,n+1,h=>by
  unfold aZ at h;let#[v,r,e,h1,h2]:=h;subst e;erw[aZ.drop n h2]
end
open PL (U SO bD Xn KU KX Spec b8)
noncomputable abbrev Cx.at_(X:Cx)(pZ:List (Addr×Obj))(E:St->XK):Cx:={X with pn:=X.pn++pZ,xe:=Tj X pZ E}
section
variable{X:Cx}{pZ pins':List (Addr×Obj)}{E:St->XK}{σ:St}{H:Hp}{s:aA}
theorem Cx.Ok.at_(ok:X.Ok):(X.at_ pZ E).Ok:=
 #[ok.mod,ok.kind,ok.glob,ok.blt,ok.above,ok.inj,ok.has,ok.NU,ok.hd,ok.frames,ok.Gn,ok.V7,ok.bs,ok.Gs,ok.Bp,ok.El,ok.qt,ok.Kr]
theorem Cx.Ok.oh(ok:(X.at_ pZ E).Ok):X.Ok:=
 #[ok.mod,ok.kind,ok.glob,ok.blt,ok.above,ok.inj,ok.has,ok.NU,ok.hd,ok.frames,ok.Gn,ok.V7,ok.bs,ok.Gs,ok.Bp,ok.El,ok.qt,ok.Kr]
theorem Inv.at_(I:Inv X pZ σ H s):Inv (X.at_ pZ E) [] σ H s:=
 #[I.ok.at_,I.os,I.bare,I.base,I.loc,I.cell,I.free,I.mZ,λp hp=>I.pin p (by simpa using hp),I.dq,I.len]
theorem Inv.oh(I:Inv (X.at_ pZ E) pins' σ H s):Inv X pZ σ H s:=
 #[I.ok.oh,I.os,I.bare,I.base,I.loc,I.cell,I.free,I.mZ,λp hp=>I.pin p (aR.mpr (.inl hp)),I.dq,I.len]
theorem C0.oh(h:C0 (X.at_ pZ E) pins' H b):C0 X pZ H b:=
 #[h.1,h.2.1,h.2.2.1,h.2.2.2.1,λp hp=>h.2.2.2.2 p (aR.mpr (.inl hp))]
theorem XE.oh(h:XE (X.at_ pZ E) pins' σ (E σ) e s):Tj X pZ E e s:=by
 let#[a,tb,cl,dx,H',e1,I,x,f,q]:=h;exact#[σ,a,tb,cl,dx,H',e1,I.oh,x,λb hb=>(f b hb).oh,q]
abbrev atS(σ:St)(E:XK):St->XK:=λσ' cl dx H=>σ'=σ/\E cl dx H
theorem u9(σ:St)(E:XK):atS σ E σ=E:=by
 funext cl dx H
 erw[propext #[λh=>h.2,λh=>#[rfl,h]]]
theorem Tj.one{e:Value}{E:XK}(h:Tj X pZ (atS σ E) e s):XE X pZ σ E e s:=by
 let#[σ',a,tb,cl,dx,H',e1,I,x,f,q,w]:=h;subst q;exact#[a,tb,cl,dx,H',e1,I,x,f,w]
theorem EP.oh(h:EP (X.at_ pZ E) pins' σ Q u s):EP X pZ σ Q u s:=by
 let#[v,H',I,r,q]:=h;exact#[v,H',I.oh,r,q]
end
def B6(X:Cx)(e:Expr)(t:XK->TT):Prop:=
 ∀(pZ:List (Addr×Obj))(s:aA)(σ:St)(H:Hp)(Q:Bool->Hp->Prop)(E:XK),Inv X pZ σ H s->t E σ H Q->wpAny (ba X.prog X.w) X.A (isTrue e X.env (eval e X.env)) (TP X pZ σ Q) (XE X pZ σ E) s
def B7(X:Cx)(es:List Expr)(t:XK->TA):Prop:=
 ∀(pos:Pos)(pZ:List (Addr×Obj))(s:aA)(σ:St)(H:Hp)(Q:List V->Hp->Prop)(E:XK),Inv X pZ σ H s->t E σ H Q->wpAny (ba X.prog X.w) X.A (spliced (ic pos (bI es X.env))) (AP X pZ σ Q) (XE X pZ σ E) s
section
variable{X:Cx}{pZ:List (Addr×Obj)}{e:Expr}{es:List Expr}
theorem PE.imp(h:PE X e t)(q:∀σ H Q,t' σ H Q->t σ H Q):PE X e t':=λpZ s σ H Q I z=>h pZ s σ H Q I (q σ H Q z)
theorem PT.imp(h:PT X e t)(q:∀σ H Q,t' σ H Q->t σ H Q):PT X e t':=λpZ s σ H Q I z=>h pZ s σ H Q I (q σ H Q z)
theorem up(h:∀pZ E,PE (X.at_ pZ E) e (λσ H Q=>t (E σ) σ H Q)):dI X e t:=by
 intro pZ s σ H Q E I z;rwa[bU (h pZ (atS σ E) [] s σ H Q I.at_ (by show t (atS σ E σ) σ H Q;rw[u9];erw[z])) (λu s' q=>q.oh) λu s' q=>q.one]
theorem dn(h:dI (X.at_ pZ E) e t):PE (X.at_ pZ E) e (λσ H Q=>t (E σ) σ H Q):=by
 intro pins' s σ H Q I z;erw[bU (h pins' s σ H Q (E σ) I z) (λu s' q=>q) λu s' q=>q.oh]
theorem Ww(h:∀pZ E,PT (X.at_ pZ E) e (λσ H Q=>t (E σ) σ H Q)):B6 X e t:=by
 intro pZ s σ H Q E I z;rwa[bU (h pZ (atS σ E) [] s σ H Q I.at_ (by show t (atS σ E σ) σ H Q;rw[u9];erw[z])) (λu s' #[H',I',q]=>#[H',I'.oh,q]) λu s' q=>q.one]
theorem RS(h:B6 (X.at_ pZ E) e t):PT (X.at_ pZ E) e (λσ H Q=>t (E σ) σ H Q):=by
 intro pins' s σ H Q I z;erw[bU (h pins' s σ H Q (E σ) I z) (λu s' q=>q) λu s' q=>q.oh]
theorem ZV(h:∀pZ E,PA (X.at_ pZ E) es (λσ H Q=>t (E σ) σ H Q)):B7 X es t:=by
 intro pos pZ s σ H Q E I z;rwa[bU (h pZ (atS σ E) pos [] s σ H Q I.at_ (by show t (atS σ E σ) σ H Q;rw[u9];erw[z])) (λu s' #[vs,H',I',r,q]=>#[vs,H',I'.oh,r,q]) λu s' q=>q.one]
theorem Ad(h:B7 (X.at_ pZ E) es t):PA (X.at_ pZ E) es (λσ H Q=>t (E σ) σ H Q):=by
 intro pos pins' s σ H Q I z;erw[bU (h pos pins' s σ H Q (E σ) I z) (λu s' q=>q) λu s' q=>q.oh]
end
structure jv(c:Ctx)(ρ:List Addr)(H:Hp)(env:PL.Env)(σ:St):Prop where
 len:env.length=σ.length
 at_:∀(i:Nat)u,env[i]?=some (some u)->∃v,σ[i]?=some (some v)/\Rep c ρ H u v
def ExcAt(_:Ctx)(_:List Addr)(_:Hp)(_:Xn)(_ _:Addr):Prop:=True
section
variable(c:Ctx)(ρ:List Addr)(H:Hp)
def QV(QU:KU)(Q:VK):Prop:=∀u S' v H' ρ',QU u S'->gI ρ H ρ' H'->cw c ρ' H' S'->Rep c ρ' H' u v->Q v H'
def QB(QU:Bool->bD->Prop)(Q:Bool->Hp->Prop):Prop:=∀b S' H' ρ',QU b S'->gI ρ H ρ' H'->cw c ρ' H' S'->Q b H'
def QA(QU:List U->bD->Prop)(Q:List V->Hp->Prop):Prop:=∀us S' vs H' ρ',QU us S'->gI ρ H ρ' H'->cw c ρ' H' S'->aZ c ρ' H' us vs->Q vs H'
def QX(EU:KX)(E:XK):Prop:=∀x S' H' ρ' C d,EU x S'->gI ρ H ρ' H'->cw c ρ' H' S'->ExcAt c ρ' H' x C d->E (.ref C) (some d) H'
end
section
variable{c:Ctx}{ρ ρ':List Addr}{H H':Hp}{S:bD}
theorem QV.later(q:QV c ρ H QU Q)(a:gI ρ H ρ' H'):QV c ρ' H' QU Q:=λu S' v H2 ρ2 h b R r=>q u S' v H2 ρ2 h (a.trans b) R r
theorem QB.later(q:QB c ρ H QU Q)(a:gI ρ H ρ' H'):QB c ρ' H' QU Q:=λu S' H2 ρ2 h b R=>q u S' H2 ρ2 h (a.trans b) R
theorem QX.later(q:QX c ρ H EU E)(a:gI ρ H ρ' H'):QX c ρ' H' EU E:=λx S' H2 ρ2 C d h b R r=>q x S' H2 ρ2 C d h (a.trans b) R r
theorem QV.now(q:QV c ρ H QU Q)(R:cw c ρ H S)(h:QU u S)(r:Rep c ρ H u v):Q v H:=q u S v H ρ h .refl R r
theorem jv.later(h:jv c ρ H env σ)(R:cw c ρ H S)(a:gI ρ H ρ' H'):jv c ρ' H' env σ:=
 #[h.len,λi u e=>by let#[v,h1,h2]:=h.at_ i u e;exact#[v,h1,h2.mono R a]]
end
section
variable(c:Ctx)(Γ:b8)
def tE(x:PL.Ex):XK->TE:=λE σ H Q=>∃env ρ S QU EU,jv c ρ H env σ/\cw c ρ H S/\PL.WE Γ x env S QU EU/\QV c ρ H QU Q/\QX c ρ H EU E
def tT(x:PL.Tx):XK->TT:=λE σ H Q=>∃env ρ S QU EU,jv c ρ H env σ/\cw c ρ H S/\PL.WT Γ x env S QU EU/\QB c ρ H QU Q/\QX c ρ H EU E
def FX(x:PL.zd):XK->TA:=λE σ H Q=>∃env ρ S QU EU,jv c ρ H env σ/\cw c ρ H S/\PL.vZ Γ x env S QU EU/\QA c ρ H QU Q/\QX c ρ H EU E
end
open PL (U SO bD Xn KU KX Spec b8)
theorem pD(h:n<=1000000):n<=sizeLine:=aI h ⋯
section
variable{c:Ctx}{ρ:List Addr}{H:Hp}{S:bD}
theorem eM:Rep c ρ H .bQ v↔v=.bQ:=by unfold Rep;erw[j8]
theorem eT:Rep c ρ H (.bl b) v↔v=.bl b:=by unfold Rep;erw[j8]
theorem aO:Rep c ρ H (.int b) v↔v=.int b:=by unfold Rep;erw[j8]
theorem bq:Rep c ρ H (.str b) v↔v=.str (tx b):=by unfold Rep;erw[j8]
theorem dJ:Rep c ρ H (.tup us) v↔∃a vs,v=.ref a/\H a=some (.tup vs)/\aZ c ρ H us vs:=by unfold Rep;erw[j8]
theorem eD:Rep c ρ H (.loc n) v↔∃a,v=.ref a/\ρ[n]?=some a:=by unfold Rep;erw[j8]
theorem qR:Rep c ρ H (.rY ns) v↔∃a,v=.ref a/\xc c.K H a (ns.map .int):=by unfold Rep;erw[j8]
theorem tZ:Rep c ρ H (.tab kvs) v↔∃a,v=.ref a/\OX c.K c.w.params a (kvs.map λp=>(tx p.1,V.str (tx p.2))):=by unfold Rep;erw[j8]
theorem cw.lst(R:cw c ρ H S)(h:S[n]?=some (.lst us))(r:Rep c ρ H (.loc n) v):∃a vs,v=.ref a/\ρ[n]?=some a/\H a=some (.lst vs)/\aZ c ρ H us vs:=by
 let#[a,e,ha]:=eD.mp r;let#[vs,h1,h2]:=R.at_ n a _ ha h;exact#[a,vs,e,ha,h1,h2]
theorem cw.ins(R:cw c ρ H S)(h:S[n]?=some (.ins x fs))(r:Rep c ρ H (.loc n) v):∃a C dx vs,v=.ref a/\ρ[n]?=some a/\c.cls x=some C/\H a=some (.ins C dx vs)/\vs.map (·.1)=(fs.map (·.1)).map nm/\aZ c ρ H (fs.map (·.2)) (vs.map (·.2)):=by
 let#[a,e,ha]:=eD.mp r;let#[C,dx,vs,h0,h1,h2,h3]:=R.at_ n a _ ha h;exact#[a,C,dx,vs,e,ha,h0,h1,h2,h3]
theorem QV.EZ(q:QV c ρ H QU Q)(R:cw c ρ H S)(r:aZ c ρ H us vs)(h:QU (.loc S.length) (S++[.lst us]))(hp:H p=none):Q (.ref p) (upd H p (.lst vs)):=by
 have st:=gI.alloc R hp (.lst vs);have R':cw c (ρ++[p]) (upd H p (.lst vs)) (S++[.lst us]):=R.alloc hp #[vs,bR,r.mono R st];rwa[q _ _ _ _ _ h st R' (eD.mpr #[p,rfl,?_])];rw[<-R.len,ax (au _),bO];rfl
theorem QV.LG(q:QV c ρ H QU Q)(R:cw c ρ H S)(r:aZ c ρ H us vs)(h:QU (.tup us) S)(hp:H p=none):Q (.ref p) (upd H p (.tup vs)):=by
 have st:=gI.lay R hp (.tup vs);erw[q _ _ _ _ _ h st (R.lay hp _) (dJ.mpr #[p,vs,rfl,bR,r.mono R st])]
end
noncomputable def v5(c:Ctx)(o:PL.FT):R2:=λx y H Q=>∃ux uy ρ S QU,Rep c ρ H ux x/\Rep c ρ H uy y/\cw c ρ H S/\PL.j5 o ux uy S QU/\QV c ρ H QU Q
noncomputable def LH:PL.FT->me
 |.add=>.Add|.sub=>.Sub|.mul=>.Mult|.fdiv=>.FloorDiv|.mod=>.Mod|.band=>.BitAnd|.bor=>.BitOr|.shl=>.LShift|.shr=>.RShift
section
variable{X:Cx}{c:Ctx}
theorem LI:gH X (cC .Add) (v5 c .add):=by
 x_go;let#[ux,uy,ρ,S,QU,hx,hy,R,w,q]:=h;cases ux<;>first|exact aL w|skip
 .rename_i i
  let#[j,rfl,w]:=PL.eL.mp w;erw[Oe pZ s σ H x y v u Q I rx ry #[i,j,aO.mp hx,aO.mp hy,q.now R w (aO.mpr rfl)]]
 .rename_i a
  let#[b,rfl,w]:=PL.oG.mp w;erw[EH pZ s σ H x y v u Q I rx ry #[a,b,bq.mp hx,bq.mp hy,pD w.1,q.now R w.2 (bq.mpr rfl)]]
 .rename_i us
  let#[ws,rfl,w]:=PL.Lm.mp w;let#[a,vs,e1,h1,r1]:=dJ.mp hx;let#[b,zs,e2,h2,r2]:=dJ.mp hy;let#[w1,w2]:=w;by_cases w0:us=[]
  .subst w0
   have ev:vs=[]:=cR (by rw[<-r1.len];rfl);subst ev;erw[Hm pZ s σ H x y v u Q I rx ry #[a,b,zs,e1,e2,lQ.of h1,lQ.of h2,by rw[<-e2];exact q.now R w2 hy]]
  rwa[KR pZ s σ H x y v u Q I rx ry #[a,b,vs,zs,e1,e2,lQ.of h1,lQ.of h2,λe=>w0 ?_,pD (by rw[<-r1.len,<-r2.len];erw[w1]),λe=>?_,λ_ p hp=>?_]]
  .erw[cR (by rw[r1.len,e];rfl)]
  .have e3:ws=[]:=cR (by rw[r2.len,e];rfl)
   subst e3;rw[bM] at w2;rw[<-e1]
   erw[q.now R w2 hx]
  .erw[q.LG R (r1.app r2) w2 hp]
 .rename_i m
  let#[n,rfl,w]:=PL.gO.mp w;let#[us,h1,w1]:=PL.cH.mp w;let#[ws,h2,w2,w3]:=PL.cH.mp w1;let#[a,vs,e1,_,g1,r1]:=R.lst h1 hx;let#[b,zs,e2,_,g2,r2]:=R.lst h2 hy;erw[OL pZ s σ H x y v u Q I rx ry #[a,b,vs,zs,e1,e2,g1,g2,pD (by rw[<-r1.len,<-r2.len];exact w2),λp hp=>q.EZ R (r1.app r2) w3 hp]]
theorem LJ:gH X (cC .Sub) (v5 c .sub):=by
 x_go;let#[ux,uy,ρ,S,QU,hx,hy,R,w,q]:=h;let#[i,j,rfl,rfl,w]:=PL.kK w;erw[Of pZ s σ H x y v u Q I rx ry #[i,j,aO.mp hx,aO.mp hy,q.now R w (aO.mpr rfl)]]
theorem LK:gH X (cC .Mult) (v5 c .mul):=by
 x_go;let#[ux,uy,ρ,S,QU,hx,hy,R,w,q]:=h;cases ux<;>first|exact aL w|skip
 .rename_i i
  let#[j,rfl,w]:=PL.eL.mp w;erw[Og pZ s σ H x y v u Q I rx ry #[i,j,aO.mp hx,aO.mp hy,w.1,q.now R w.2 (aO.mpr rfl)]]
 .rename_i a
  let#[j,rfl,w]:=PL.eL.mp w;let#[k,e,w0,w1,w2]:=w;subst e;let#[n,rfl]:=AX w0;exact EI pZ s σ H x y v u Q I rx ry #[k,n,bq.mp hx,aO.mp hy,∅,q.now R (by simpa using w2) (bq.mpr rfl)]
theorem HI:gH X (cC .FloorDiv) (v5 c .fdiv):=by
 x_go;let#[ux,uy,ρ,S,QU,hx,hy,R,w,q]:=h;let#[i,j,rfl,rfl,w]:=PL.kK w;erw[Ky pZ s σ H x y v u Q I rx ry #[i,j,aO.mp hx,aO.mp hy,w.1,q.now R w.2 (aO.mpr rfl)]]
theorem LL:gH X (cC .Mod) (v5 c .mod):=by
 x_go;let#[ux,uy,ρ,S,QU,hx,hy,R,w,q]:=h;let#[i,j,rfl,rfl,w]:=PL.kK w;erw[Oh pZ s σ H x y v u Q I rx ry #[i,j,aO.mp hx,aO.mp hy,w.1,q.now R w.2 (aO.mpr rfl)]]
theorem HJ:gH X (cC .BitAnd) (v5 c .band):=by
 x_go;let#[ux,uy,ρ,S,QU,hx,hy,R,w,q]:=h;let#[i,j,rfl,rfl,w]:=PL.kK w;erw[Ol pZ s σ H x y v u Q I rx ry #[i,j,aO.mp hx,aO.mp hy,by dsimp only;rw[tW w.1.1 w.1.2];exact q.now R w.2 (aO.mpr rfl)]]
theorem LM:gH X (cC .BitOr) (v5 c .bor):=by
 x_go;let#[ux,uy,ρ,S,QU,hx,hy,R,w,q]:=h;let#[i,j,rfl,rfl,w]:=PL.kK w;erw[Sx pZ s σ H x y v u Q I rx ry #[i,j,aO.mp hx,aO.mp hy,by dsimp only;rw[BX w.1.1 w.1.2];exact q.now R w.2 (aO.mpr rfl)]]
theorem LN:gH X (cC .LShift) (v5 c .shl):=by
 x_go;let#[ux,uy,ρ,S,QU,hx,hy,R,w,q]:=h;let#[i,j,rfl,rfl,w]:=PL.kK w;let#[#[w1,w2,w3,w4],w5]:=w;erw[Oi pZ s σ H x y v u Q I rx ry #[i,j,aO.mp hx,aO.mp hy,#[w3,∅,∅],q.now R w5 (aO.mpr rfl)]]
theorem LO:gH X (cC .RShift) (v5 c .shr):=by
 x_go;let#[ux,uy,ρ,S,QU,hx,hy,R,w,q]:=h;let#[i,j,rfl,rfl,w]:=PL.kK w;erw[Oj pZ s σ H x y v u Q I rx ry #[i,j,aO.mp hx,aO.mp hy,w.1.2,q.now R w.2 (aO.mpr rfl)]]
noncomputable def E0(c:Ctx)(o:PL.FT):R2:=λx y H Q=>∃ux uy ρ S QU,Rep c ρ H ux x/\Rep c ρ H uy y/\cw c ρ H S/\PL.yl o ux uy S QU/\QV c ρ H QU Q
theorem HK:gH X (gX .Add) (E0 c .add):=by
 x_go;let#[ux,uy,ρ,S,QU,hx,hy,R,w,q]:=h;cases ux<;>first|exact aL w|skip
 .rename_i i
  let#[j,rfl,w]:=PL.eL.mp w;erw[Kz pZ s σ H x y v u Q I rx ry #[i,j,aO.mp hx,aO.mp hy,q.now R w (aO.mpr rfl)]]
 .rename_i a
  let#[b,rfl,w]:=PL.oG.mp w;erw[BL pZ s σ H x y v u Q I rx ry #[a,b,bq.mp hx,bq.mp hy,pD w.1,q.now R w.2 (bq.mpr rfl)]]
theorem HL:gH X (gX .Sub) (E0 c .sub):=by
 x_go;let#[ux,uy,ρ,S,QU,hx,hy,R,w,q]:=h;cases ux<;>first|exact aL w|skip
 rename_i i;let#[j,rfl,w]:=PL.eL.mp w;erw[KA pZ s σ H x y v u Q I rx ry #[i,j,aO.mp hx,aO.mp hy,q.now R w (aO.mpr rfl)]]
theorem HM:gH X (gX .BitOr) (E0 c .bor):=by
 x_go;let#[ux,uy,ρ,S,QU,hx,hy,R,w,q]:=h;cases ux<;>first|exact aL w|skip
 rename_i i;let#[j,rfl,w]:=PL.eL.mp w;erw[Om pZ s σ H x y v u Q I rx ry #[i,j,aO.mp hx,aO.mp hy,by dsimp only;rw[BX w.1.1 w.1.2];exact q.now R w.2 (aO.mpr rfl)]]
theorem LP:gH X (cC (LH o)) (v5 c o):=by
 cases o
 .erw[LI]
 .erw[LJ]
 .erw[LK]
 .erw[HI]
 .erw[LL]
 .erw[HJ]
 .erw[LM]
 .erw[LN]
 .erw[LO]
theorem yy(h:o=.add\/o=.sub\/o=.bor):gH X (gX (LH o)) (E0 c o):=by
 rcases h with rfl|rfl|rfl
 .erw[HK]
 .erw[HL]
 .erw[HM]
noncomputable def tL(c:Ctx)(o:PL.Nk):R2:=λx y H Q=>∃ux uy ρ S,Rep c ρ H ux x/\Rep c ρ H uy y/\cw c ρ H S/\PL.fV o ux uy S λb=>Q (.bl b) H
end
mutual
noncomputable def jf:U->Dv
 |.bQ=>.bQ
 |.bl b=>.bl b
 |.int i=>.int i
 |.str l=>.str l
 |.tup us=>.tup (fF us)
 |_=>.bQ
noncomputable def fF:List U->List Dv
 |[]=>[]
 |u::us=>jf u::fF us
end
section
variable{c:Ctx}{ρ:List Addr}{H:Hp}{S:bD}
mutual
theorem oR:∀{u:U}{v:V},PL.A3 u=true->Rep c ρ H u v->fZ c.K H v (jf u)
 |.bQ,_,_,h=>by unfold jf fZ;erw[eM.mp h]
 |.bl _,_,_,h=>by unfold jf fZ;erw[eT.mp h]
 |.int _,_,_,h=>by unfold jf fZ;erw[aO.mp h]
 |.str _,_,_,h=>by unfold jf fZ;erw[bq.mp h]
 |.tup us,_,d,h=>by
  unfold jf fZ;let#[a,vs,e,h1,h2]:=dJ.mp h;exact#[a,vs,e,lQ.of h1,va (by unfold PL.A3 at d;erw[d]) h2]
 |.loc _,_,d,_=>by cases d
 |.rY _,_,d,_=>by cases d
 |.tab _,_,d,_=>by cases d
theorem va:∀{us:List U}{vs:List V},PL.qH us=true->aZ c ρ H us vs->iw c.K H vs (fF us)
 |[],_,_,h=>by unfold aZ at h;subst h;unfold fF iw;trivial
 |u::us,_,d,h=>by
  unfold aZ at h;let#[v,r,e,h1,h2]:=h;subst e;unfold PL.qH at d;rw[ao] at d;unfold fF iw;exact#[oR d.1 h1,va d.2 h2]
end
end
mutual
theorem Pm:∀u:U,PL.A3 u=true->(jf u).depth=PL.dep u
 |.bQ,_=>by simp[jf,Dv.depth,PL.dep]
 |.bl _,_=>by simp[jf,Dv.depth,PL.dep]
 |.int _,_=>by simp[jf,Dv.depth,PL.dep]
 |.str _,_=>by simp[jf,Dv.depth,PL.dep]
 |.tup us,d=>by
  unfold jf Dv.depth PL.dep;rw[qS us (by unfold PL.A3 at d;erw[d])]
 |.loc _,d=>by cases d
 |.rY _,d=>by cases d
 |.tab _,d=>by cases d
theorem qS:∀us:List U,PL.qH us=true->Dv.jt (fF us)=PL.BQ us
 |[],_=>by simp[fF,Dv.jt,PL.BQ]
 |u::us,d=>by
  unfold PL.qH at d;rw[ao] at d;unfold fF Dv.jt PL.BQ;rw[Pm u d.1,qS us d.2]
end
mutual
theorem Dd:∀x y:U,PL.A3 x=true->PL.A3 y=true->PL.FW x y=nM (jf x) (jf y)
 |.tup us,y,d,d'=>by
  cases y with
  |tup ws=>erw[HN us ws d d']
  |_=>first|rfl|cases d'
 |.loc _,_,d,_|.rY _,_,d,_|.tab _,_,d,_=>by cases d
 |.bQ,y,_,d|.bl _,y,_,d|.int _,y,_,d|.str _,y,_,d=>by cases y<;>first|rfl|cases d
theorem HN:∀xs ys:List U,PL.qH xs=true->PL.qH ys=true->PL.Lk xs ys=n8 (fF xs) (fF ys)
 |[],y,_,_=>by cases y<;>rfl
 |_::_,[],_,_=>rfl
 |x::xs,y::ys,d,d'=>by
  have d:=(ao _ _).mp d;have d':=(ao _ _).mp d'
  change (PL.FW x y&&PL.Lk xs ys)=(nM (jf x) (jf y)&&n8 (fF xs) (fF ys))
  rw[Dd x y d.1 d'.1,HN xs ys d.2 d'.2]
end
theorem Pn:decide (V.str (tx a)=V.str (tx b))=(a==b):=by
 rw[cY]
 simp[C1]
theorem De(t:PL.Hi x y=true)(nt:PL.Hj x=true)(hx:Rep c ρ H x v)(hy:Rep c ρ H y w):Oq v w=true/\decide (v=w)=PL.FW x y:=by
 cases x<;>first|exact ff nt|exact ff t| (cases y<;>first|exact ff t| ((first|rw[eM.mp hx]|rw[eT.mp hx]|rw[aO.mp hx]|rw[bq.mp hx]);(first|rw[eM.mp hy]|rw[eT.mp hy]|rw[aO.mp hy]|rw[bq.mp hy]);first|exact#[rfl,rfl]|exact#[rfl,Bt]|exact#[rfl,xY]|exact#[rfl,Pn]))
section
variable{X:Cx}{c:Ctx}
theorem Po(hK:X.K=c.K)(hu:X.A.units+200<eI):gH X (bA .Eq) (tL c .eq):=by
 x_go;let#[ux,uy,ρ,S,hx,hy,R,w0]:=h;have go:(PL.vX ux uy λb=>Q (.bl b) H)->wpAny (ba X.prog X.w) X.A (bA .Eq v u) (EP X pZ σ Q) X.xe s:=by
  intro hh;let#[#[t,d,d',z],w]:=hh;by_cases nt:PL.Hj ux=true
  .let#[e1,e2]:=De t nt hx hy
   erw[Sy pZ s σ H x y v u Q I rx ry #[e1,by rw[e2];exact w]]
  .cases ux<;>first|exact absurd rfl nt|skip
   rename_i us;have g:=oR d hx;unfold jf at g;rwa[OY hu pZ s σ H x y v u Q I rx ry #[fF us,jf uy,hK▸g,hK▸oR d' hy,?_,?_]]
   .rw[qS us (by unfold PL.A3 at d;erw[d])];unfold PL.dep at z;omega
   .have:=Dd (.tup us) uy d d'
    rw[show jf (.tup us)= .tup (fF us) from by simp[jf]] at this;rw[<-this];erw[w]
 erw[go w0]
theorem Pp(hK:X.K=c.K)(hu:X.A.units+200<eI):gH X (bA .NotEq) (tL c .ne):=by
 x_go;let#[ux,uy,ρ,S,hx,hy,R,w0]:=h;let#[nt,#[t,d,d',z],w]:=w0;by_cases nt1:PL.Hj ux=true
 .let#[e1,e2]:=De t nt1 hx hy
  erw[Sz pZ s σ H x y v u Q I rx ry #[e1,by rw[e2];exact w]]
 .cases ux<;>first|exact absurd rfl nt1|skip
  cases uy<;>first|exact ff nt|skip
  rename_i us us';have g:=oR d hx;have g':=oR d' hy;unfold jf at g g';rwa[O1 hu pZ s σ H x y v u Q I rx ry #[fF us,fF us',hK▸g,hK▸g',?_,?_]]
  .rw[qS us (by unfold PL.A3 at d;erw[d])];unfold PL.dep at z;omega
  .have:=Dd (.tup us) (.tup us') d d'
   rw[show jf (.tup us)= .tup (fF us) from by simp[jf],show jf (.tup us')= .tup (fF us') from by simp[jf]] at this;rw[show n8 (fF us) (fF us')=nM (.tup (fF us)) (.tup (fF us')) from by unfold nM;rfl,<-this];erw[w]
end
open PL (U SO bD Xn KU KX Spec b8)
section
variable{X:Cx}{c:Ctx}
theorem Pq:gH X (bA .Lt) (tL c .lt):=by
 x_go;let#[ux,uy,ρ,S,hx,hy,R,w]:=h;let#[i,j,rfl,rfl,w]:=PL.kK w;erw[SA pZ s σ H x y v u Q I rx ry #[_,_,aO.mp hx,aO.mp hy,w]]
theorem Pr:gH X (bA .LtE) (tL c .le):=by
 x_go;let#[ux,uy,ρ,S,hx,hy,R,w]:=h;let#[i,j,rfl,rfl,w]:=PL.kK w;erw[SD pZ s σ H x y v u Q I rx ry #[_,_,aO.mp hx,aO.mp hy,w]]
theorem Pt:gH X (bA .Gt) (tL c .gt):=by
 x_go;let#[ux,uy,ρ,S,hx,hy,R,w]:=h;let#[i,j,rfl,rfl,w]:=PL.kK w;erw[SE pZ s σ H x y v u Q I rx ry #[_,_,aO.mp hx,aO.mp hy,w]]
theorem Pu:gH X (bA .GtE) (tL c .ge):=by
 x_go;let#[ux,uy,ρ,S,hx,hy,R,w]:=h;let#[i,j,rfl,rfl,w]:=PL.kK w;erw[SF pZ s σ H x y v u Q I rx ry #[_,_,aO.mp hx,aO.mp hy,w]]
theorem xf(h:Rep c ρ H u v):decide (v=V.bQ)=PL.uW u:=by
 cases u with
 |bQ=>rw[eM.mp h];rfl
 |bl b=>rw[eT.mp h];rfl
 |int i=>rw[aO.mp h];rfl
 |str l=>rw[bq.mp h];rfl
 |tup us=>let#[a,vs,e,_]:=dJ.mp h;rw[e];rfl
 |loc n=>let#[a,e,_]:=eD.mp h;rw[e];rfl
 |rY ns=>let#[a,e,_]:=qR.mp h;rw[e];rfl
 |tab kvs=>let#[a,e,_]:=tZ.mp h;rw[e];rfl
theorem Pw:gH X (bA .Is) (tL c .OZ):=by
 x_go;let#[ux,uy,ρ,S,hx,hy,R,w]:=h;have e:uy=.bQ:=by cases uy<;>first|rfl|exact aL w
 subst e;rw[PL.XG] at w;erw[Ot pZ s σ H x y v u Q I rx ry #[eM.mp hy,by rw[xf hx];exact w]]
theorem HP:gH X (bA .IsNot) (tL c .zW):=by
 x_go;let#[ux,uy,ρ,S,hx,hy,R,w]:=h;have e:uy=.bQ:=by cases uy<;>first|rfl|exact aL w
 subst e;rw[PL.Pf] at w;erw[KC pZ s σ H x y v u Q I rx ry #[eM.mp hy,by rw[xf hx];exact w]]
theorem oj(f:PL.flat u=true)(h:Rep c ρ H u v):pv v=true:=by
 cases u<;>first|exact ff f| (rw[eM.mp h];rfl)| (rw[eT.mp h];rfl)| (rw[aO.mp h];rfl)| (rw[bq.mp h];rfl)
theorem LQ(f:PL.flat u=true)(f':PL.flat u'=true)(h:Rep c ρ H u v)(h':Rep c ρ H u' v'):KW v v'=PL.FW u u':=by
 cases u<;>first|exact ff f| (cases u'<;>first|exact ff f'| ((first|rw[eM.mp h]|rw[eT.mp h]|rw[aO.mp h]|rw[bq.mp h]);(first|rw[eM.mp h']|rw[eT.mp h']|rw[aO.mp h']|rw[bq.mp h']);first|rfl|exact cY.mpr (by rename_i a b;show(tx a==tx b)=true↔(a==b)=true;simp[Nj])))
theorem qT(f:PL.flat u=true)(h:Rep c ρ H u v):∀{us:List U}{vs:List V},us.all PL.flat=true->aZ c ρ H us vs->vs.all pv=true/\Wb v vs=us.any λy=>PL.FW y u
 |[],_,_,r=>by unfold aZ at r;subst r;exact#[rfl,rfl]
 |w::us,_,a,r=>by
  unfold aZ at r;let#[x,t,e,h1,h2]:=r;subst e;rw[bK,ao] at a;let#[z1,z2]:=qT f h a.2 h2;refine#[by rw[bK,oj a.1 h1,z1];rfl,?_];unfold Wb at z2 ⊢;rw[cV,cV,z2,LQ a.1 f h1 h]
theorem lookup_tab{kvs:List (List Nat×List Nat)}{k v:List Nat}(h:kvs.lookup k=some v):(kvs.map λp=>(tx p.1,V.str (tx p.2))).lookup (tx k)=some (V.str (tx v)):=by
 induction kvs with
 |nil=>cases h
 |cons p r ih=>
  let#[a,b]:=p;rw[az,aN]
  rw[aN] at h;by_cases e:k=a
  .subst e
   simp at h ⊢;erw[h]
  .have e2:(k==a)=false:=by simp[e]
   have e3:(tx k==tx a)=false:=by
    rw[beq_eq_false_iff_ne];erw[λz=>e (pQ z)]
   rw[e2] at h;dsimp[e3];erw[ih h]
theorem Ae{kvs:List (List Nat×List Nat)}{k:List Nat}(h:kvs.lookup k=none):(kvs.map λp=>(tx p.1,V.str (tx p.2))).lookup (tx k)=none:=by
 induction kvs with
 |nil=>rfl
 |cons p r ih=>
  rw[aN] at h;rw[az,aN]
  cases z:k==p.1 with
  |true=>rw[z] at h;cases h
  |false=>
   rw[z] at h;have:(tx k==tx p.1)=false:=by
    rw[beq_eq_false_iff_ne] at z ⊢;erw[λe=>z (pQ e)]
   rw[this]
   erw[ih h]
theorem HQ(hu:PL.A3 u=true):∀{us:List U},PL.qH us=true->((fF us).any λe=>nM e (jf u))=us.any λy=>PL.FW y u
 |[],_=>by unfold fF;rfl
 |w::us,d=>by
  unfold PL.qH at d;rw[ao] at d;unfold fF;rw[cV,cV,HQ hu d.2,Dd w u d.1 hu]
theorem Px(hK:X.K=c.K)(hP:X.w.params=c.w.params):gH X (bA .In) (tL c .isin):=by
 x_go;let#[ux,uy,ρ,S,hx,hy,R,w]:=h;cases uy with
 |str b=>
  let#[a,rfl,w]:=PL.oG.mp w;erw[EK pZ s σ H x y v u Q I rx ry #[a,b,bq.mp hx,bq.mp hy,w]]
 |tab kvs=>
  let#[k,rfl,w]:=PL.oG.mp w;let#[a,e,h1]:=tZ.mp hy;have w:Q (.bl (kvs.lookup k).isSome) H:=w;have ex:=h1.ex;rw[<-hK,<-hP] at ex;cases z:kvs.lookup k with
  |some t=>
   let#[u',_,e2]:=h1.at_ _ _ (lookup_tab z);exact Hl pZ s σ H x y v u Q I rx ry #[a,_,some u',bq.mp hx,e,ex,h1.ns,hK▸e2,by rw[z] at w;erw[w]]
  |none=>
   have e2:=h1.no _ (Ae z);exact Hl pZ s σ H x y v u Q I rx ry #[a,_,none,bq.mp hx,e,ex,h1.ns,hK▸e2,by rw[z] at w;erw[w]]
 |tup us=>
  rw[PL.Pc] at w;let#[#[f,a],w]:=w;let#[p,vs,e,h1,h2]:=dJ.mp hy;let#[z1,z2]:=qT f hx a h2;erw[wM pZ s σ H x y v u Q I rx ry #[p,vs,e,.inr (lQ.of h1),oj f hx,z1,by rw[z2];exact w]]
 |loc n=>
  rw[PL.Pe] at w;let#[us,g,#[f,a],w]:=PL.cH.mp w;let#[p,vs,e,_,h1,h2]:=R.lst g hy;let#[z1,z2]:=qT f hx a h2;erw[wM pZ s σ H x y v u Q I rx ry #[p,vs,e,.inl (hU.of h1),oj f hx,z1,by rw[z2];exact w]]
 |_=>erw[aL w]
theorem E1(hK:X.K=c.K)(hu:X.A.units+200<eI):gH X (bA .NotIn) (tL c .n9):=by
 x_go;let#[ux,uy,ρ,S,hx,hy,R,w]:=h;cases uy with
 |str b=>
  let#[a,rfl,w]:=PL.oG.mp w;erw[yn pZ s σ H x y v u Q I rx ry #[a,b,bq.mp hx,bq.mp hy,w]]
 |tup us=>
  rw[PL.Pd] at w;let#[#[f,a],w]:=w;let#[p,vs,e,h1,h2]:=dJ.mp hy;let#[z1,z2]:=qT f hx a h2;erw[qE pZ s σ H x y v u Q I rx ry #[p,vs,e,.inr (lQ.of h1),oj f hx,z1,by rw[z2];exact w]]
 |loc n=>
  by_cases ht:∃ts,ux=.tup ts
  .let#[ts,rfl]:=ht
   rw[PL.Ly] at w;let#[us,g,#[d1,d2,d3],w]:=PL.cH.mp w;let#[p,vs,e,_,h1,h2]:=R.lst g hy;have dt:PL.A3 (.tup ts)=true:=by unfold PL.A3;erw[d1]
   rwa[ES hu pZ s σ H x y v u Q I rx ry #[p,vs,fF us,jf (.tup ts),e,hU.of h1,hK▸va d2 h2,hK▸oR dt hx,by rw[qS us d2];erw[d3],?_]];rw[HQ dt d2]
   erw[w]
  have w:PL.getL S[n]? λus=>PL.qI ux us λb=>Q (.bl !b) H:=by
   cases ux<;>first|exact w|exact absurd #[_,rfl] ht
  let#[us,g,#[f,a],w]:=PL.cH.mp w;let#[p,vs,e,_,h1,h2]:=R.lst g hy;let#[z1,z2]:=qT f hx a h2;erw[qE pZ s σ H x y v u Q I rx ry #[p,vs,e,.inl (hU.of h1),oj f hx,z1,by rw[z2];exact w]]
 |_=>erw[aL w]
noncomputable def vb:U->Key
 |.int i=>.inl i
 |.str l=>.inr (some (tx l))
 |_=>.inr none
section
variable{ρ:List Addr}{H:Hp}{S:bD}
theorem jS(hk:PL.mD u=true)(r:Rep c ρ H u v):v=kV (vb u):=by
 cases u<;>first|exact ff hk|skip
 .erw[eM.mp r]
 .erw[aO.mp r]
 .erw[bq.mp r]
theorem LR(r:Rep c ρ H a (kV b)):PL.mD a=true/\vb a=b:=by
 have nr:∀p,kV b≠V.ref p:=λp=>by rcases b with i|_|x<;>exact λe=>nomatch e
 cases a<;>unfold Rep at r
 .rcases b with i|_|x<;>cases r;exact#[rfl,rfl]
 .rcases b with i|_|x<;>cases r
 .rcases b with i|_|x<;>cases r;exact#[rfl,rfl]
 .rcases b with i|_|x<;>cases r;exact#[rfl,rfl]
 .let#[p,_,e,_]:=r;erw[absurd e (nr p)]
 .let#[p,e,_]:=r;erw[absurd e (nr p)]
 .let#[p,e,_]:=r;erw[absurd e (nr p)]
 .let#[p,e,_]:=r;erw[absurd e (nr p)]
theorem Dg(ha:PL.mD a=true)(hu:PL.mD u=true):PL.RL a u=true↔vb a=vb u:=by
 cases a<;>first|exact ff ha| (cases u<;>first|exact ff hu|skip)
 .exact#[λ_=>rfl,λ_=>rfl]
 .exact#[λe=>ff e,λe=>by cases e]
 .exact#[λe=>ff e,λe=>by cases e]
 .exact#[λe=>ff e,λe=>by cases e]
 .exact#[λe=>congrArg wj (eq_of_beq e),λe=>beq_iff_eq.mpr (zi e)]
 .exact#[λe=>ff e,λe=>by cases e]
 .exact#[λe=>ff e,λe=>by cases e]
 .exact#[λe=>ff e,λe=>by cases e]
 .exact#[λe=>by rw[eq_of_beq e],λe=>beq_iff_eq.mpr (pQ (aJ (sE e)))]
theorem qU(hu:PL.mD u=true):∀{kvs:List (U×U)}{vs:List (Key×V)},vs.length=kvs.length->aZ c ρ H (kvs.map (·.1)) (vs.map λp=>kV p.1)->aZ c ρ H (kvs.map (·.2)) (vs.map (·.2)) ->
  (PL.tU u kvs=none/\jd vs (vb u)=none)\/∃u' v',PL.tU u kvs=some u'/\jd vs (vb u)=some v'/\Rep c ρ H u' v':=by
 intro kvs;induction kvs with
 |nil=>intro vs hl _ _;cases vs with|nil=>erw[.inl #[rfl,rfl]]|cons _ _=>cases hl
 |cons p ps ih=>
  intro vs hl h1 h2;let#[a,w]:=p;cases vs with|nil=>cases hl|cons p vs=>?_
  let#[b,y]:=p;dsimp[az] at h1 h2;unfold aZ at h1 h2;let#[v1,r1,e1,p1,q1]:=h1;let#[v2,r2,e2,p2,q2]:=h2;cases e1;cases e2;let#[ka,rfl]:=LR p1;unfold PL.tU;by_cases ek:PL.RL a u=true
  .rw[if_pos ek,kI ((Dg ka hu).mp ek)]
   erw[.inr #[w,y,rfl,rfl,p2]]
  .rw[if_neg ek,kJ λz=>ek ((Dg ka hu).mpr z)]
   erw[ih (l9 hl) q1 q2]
theorem cw.dd(R:cw c ρ H S)(e:S[n]?=some (.dU kvs)\/S[n]?=some (.pR kvs))(r:Rep c ρ H (.loc n) v):
  ∃a vs,v=.ref a/\ρ[n]?=some a/\Rd H a (.dK vs)/\vs.length=kvs.length/\aZ c ρ H (kvs.map (·.1)) (vs.map λp=>kV p.1)/\aZ c ρ H (kvs.map (·.2)) (vs.map (·.2)):=by
 let#[a,ev,ha]:=eD.mp r;rcases e with e|e
 .let#[vs,h1,h2]:=R.at_ n a _ ha e
  exact#[a,vs,ev,ha,.inl h1,h2]
 .let#[o,vs,h1,h2]:=R.at_ n a _ ha e
  exact#[a,vs,ev,ha,.inr #[o,h1],h2]
end
theorem HR(hu:X.A.units+200<eI):gH X (bA .NotIn) (tL c .BO):=by
 x_go;let#[ux,uy,ρ,S,hx,hy,R,w]:=h;let#[n,rfl,w]:=PL.gO.mp (show PL.rZ _ _ from w);let#[kvs,e,hk,w]:=PL.iP.mp w;let#[a,vs,rfl,_,g1,g2,g3,g4]:=R.dd e hy;cases (show u=bf a from ry);have g:rS H a x (jd vs (vb ux)):=.inl #[vs,vb ux,g1,jS hk hx,rfl];rwa[K2 ∅ I g rx λs' I'=>#[.bl _,H,I',rfl,?_]]
 rcases qU hk g2 g3 g4 with⟨l1,l2⟩|⟨u',v',l1,l2,_⟩<;>rw[l1] at w<;>rw[l2]<;>exact w
noncomputable def Dh:PL.Nk->CmpOp
 |.eq=>.Eq|.ne=>.NotEq|.lt=>.Lt|.le=>.LtE|.gt=>.Gt|.ge=>.GtE|.isin=>.In|.n9=>.NotIn|.OZ=>.Is|.zW=>.IsNot|.BO=>.NotIn
theorem Di(hK:X.K=c.K)(hP:X.w.params=c.w.params)(hu:X.A.units+200<eI)(o:PL.Nk):gH X (bA (Dh o)) (tL c o):=by
 cases o
 .erw[Po hK hu]
 .erw[Pp hK hu]
 .erw[Pq]
 .erw[Pr]
 .erw[Pt]
 .erw[Pu]
 .erw[Px hK hP]
 .erw[E1 hK hu]
 .erw[Pw]
 .erw[HP]
 .erw[HR hu]
noncomputable def YB(c:Ctx):R2:=λx y H Q=>∃ux uy ρ S,Rep c ρ H ux x/\Rep c ρ H uy y/\cw c ρ H S/\PL.C5 ux uy S λu=>∀v,Rep c ρ H u v->Q v H
theorem B8(r:aZ c ρ H us vs)(h:PL.sS us i=some u):∃v,OG vs i=some v/\Rep c ρ H u v:=by
 unfold PL.sS at h;unfold OG;have e:OF vs.length i=PL.Nn us.length i:=by rw[r.len];rfl
 rw[e]
 cases q:PL.Nn us.length i with
 |none=>rw[q] at h;cases h
 |some j=>
  rw[q] at h;erw[r.get h]
theorem xg:∀{ns:List Int},aZ c ρ H (ns.map .int) (ns.map V.int)
 |[]=>aZ.nil
 |n::ns=>aZ.cons (aO.mpr rfl) xg
theorem Py(hK:X.K=c.K)(hP:X.w.params=c.w.params):RH X (YB c):=by
 intro value slice pZ s σ H x y v u Q I rx ry h hs;let#[ux,uy,ρ,S,hx,hy,R,w]:=h;cases ux<;>first|exact aL w|skip
 .rename_i l
  let#[i,rfl,w]:=PL.eL.mp w;let#[w1,w2]:=w;let#[k,g,w3]:=PL.iC.mp w2;erw[OI value slice pZ s σ H x y v u Q I rx ry #[_,i,k,bq.mp hx,aO.mp hy,pD (by rw[dv];exact w1),g,w3 _ (bq.mpr rfl)] hs]
 .rename_i us
  let#[i,rfl,w]:=PL.eL.mp w;let#[w1,w2]:=w;let#[k,g,w3]:=PL.iC.mp w2;let#[p,vs,e,h1,h2]:=dJ.mp hx;let#[z,e2,r2]:=B8 h2 g;erw[OH value slice pZ s σ H x y v u Q I rx ry #[p,vs,i,z,e,aO.mp hy,lQ.of h1,e2,w3 _ r2] hs]
 .rename_i n
  let#[i,rfl,w]:=PL.eL.mp w;let#[us,g0,w1]:=PL.cH.mp w;let#[k,g,w3]:=PL.iC.mp w1;let#[p,vs,e,_,h1,h2]:=R.lst g0 hx;let#[z,e2,r2]:=B8 h2 g;erw[CW value slice pZ s σ H x y v u Q I rx ry #[p,vs,i,z,e,aO.mp hy,hU.of h1,e2,w3 _ r2] hs]
 .rename_i ns
  let#[i,rfl,w]:=PL.eL.mp w;let#[w1,w2]:=w;let#[k,g,w3]:=PL.iC.mp w2;let#[p,e,h1]:=qR.mp hx;have g':PL.sS (ns.map U.int) i=some (.int k):=by
   unfold PL.sS at g ⊢;rw[ag]
   cases q:PL.Nn ns.length i with
   |none=>rw[q] at g;erw[nn g]
   |some j=>rw[q] at g;simp at g ⊢;erw[g]
  let#[z,e2,r2]:=B8 (c:=c) (ρ:=ρ) (H:=H) xg g';erw[CW value slice pZ s σ H x y v u Q I rx ry #[p,_,i,z,e,aO.mp hy,hK▸h1.sq,e2,w3 _ r2] hs]
 .rename_i kvs
  let#[k,rfl,w]:=PL.oG.mp w;let#[z,g,w3]:=PL.iC.mp w;let#[a,e,h1]:=tZ.mp hx;erw[yi value slice pZ s σ H x y v u Q I rx ry #[a,_,_,_,e,bq.mp hy,by rw[hK,hP];exact h1,lookup_tab g,w3 _ (bq.mpr rfl)] hs]
def YC(c:Ctx):V->Option Int->Option Int->Hp->VK->Prop:=λx lo hi H Q=>∃ux ρ S QU,Rep c ρ H ux x/\cw c ρ H S/\PL.RM ux lo hi S QU/\QV c ρ H QU Q
theorem HS{lo:Option Int}{n:Nat}(h:∀i,lo=some i->0<=i):HT.jc n 0 lo=min (lo.getD 0).toNat n:=by
 cases lo with
 |none=>simp[HT.jc]
 |some i=>have:=h i rfl;dsimp[HT.jc,dZ];rw[if_neg ∅]
theorem Pz(h:∀i,hi=some i->0<=i):HT.jc n n hi=min (hi.getD n).toNat n:=by
 cases hi with
 |none=>simp[HT.jc]
 |some i=>have:=h i rfl;dsimp[HT.jc,dZ];rw[if_neg ∅]
theorem Dj{ρ:List Addr}{H:Hp}{us:List U}{vs:List V}{lo hi:Option Int}(h1:∀i,lo=some i->0<=i)(h2:∀i,hi=some i->0<=i)(r:aZ c ρ H us vs):aZ c ρ H (PL.pS us lo hi) (zK vs lo hi):=by
 unfold PL.pS zK;rw[HS h1,Pz h2,<-r.len]
 exact(r.drop _).take _
theorem PB(hK:X.K=c.K):SR X (YC c):=by
 intro pZ s σ H x v vl vu lo hi sl Q I rx hs pl pu h;let#[ux,ρ,S,QU,hx,R,#[#[b1,b2],w],q]:=h;cases ux<;>try exact aL w
 .rename_i l
  let#[w1,w2]:=w;rwa[Ts pZ s σ H x v vl vu lo hi sl Q I rx hs pl pu #[l,min (lo.getD 0).toNat l.length,min (hi.getD l.length).toNat l.length,bq.mp hx,pD w1,?_,?_,q.now R w2 (bq.mpr rfl)]]
  .cases lo with
   |none=>erw[.inl #[rfl,by simp]]
   |some a=>erw[.inr #[a,rfl,b1 a rfl,rfl]]
  .cases hi with
   |none=>erw[.inl #[rfl,by simp]]
   |some a=>erw[.inr #[a,rfl,b2 a rfl,rfl]]
 .rename_i us
  let#[#[w1,w0,w3],w2]:=w;let#[a,vs,e,g1,g2]:=dJ.mp hx;rwa[OE pZ s σ H x v vl vu lo hi sl Q I rx hs pl pu #[a,vs,e,lQ.of g1,λz=>?_,λp hp=>q.LG R (Dj b1 b2 g2) w2 hp]];have z1:=z.1;rw[HS b1,<-g2.len] at z1;have:0<us.length:=qe.mpr w0;omega
 .rename_i n
  let#[us,g0,w1]:=PL.cH.mp w;let#[a,vs,e,_,g1,g2]:=R.lst g0 hx;erw[KS pZ s σ H x v vl vu lo hi sl Q I rx hs pl pu #[a,vs,e,hU.of g1,λp hp=>q.EZ R (Dj b1 b2 g2) w1 hp]]
end
open PL (U SO bD Xn KU KX Spec b8)
def qV(c:Ctx)(b:PL.Tv):List V->Hp->VK->Prop:=λxs H Q=>∃us ρ S QU,aZ c ρ H us xs/\cw c ρ H S/\PL.r6 b us S QU/\QV c ρ H QU Q
def sV(c:Ctx)(m:PL.O0):V->List V->Hp->VK->Prop:=λx xs H Q=>∃u us ρ S QU,Rep c ρ H u x/\aZ c ρ H us xs/\cw c ρ H S/\PL.qJ m u us S QU/\QV c ρ H QU Q
section
variable{X:Cx}{c:Ctx}{ρ:List Addr}{H:Hp}{S:bD}
theorem kL(h:aZ c ρ H [u] vs):∃v,vs=[v]/\Rep c ρ H u v:=by
 unfold aZ at h;let#[v,r,e,h1,h2]:=h;unfold aZ at h2;subst h2;exact#[v,e,h1]
theorem Dk(h:aZ c ρ H [u,w] vs):∃v z,vs=[v,z]/\Rep c ρ H u v/\Rep c ρ H w z:=by
 unfold aZ at h;let#[v,r,e,h1,h2]:=h;let#[z,e2,h3]:=kL h2;subst e2;exact#[v,z,e,h1,h3]
theorem HU(hK:X.K=c.K)(R:cw c ρ H S)(r:Rep c ρ H u v)(h:PL.nj S u=some n)(hn:n<=1000000):SI X.K v H n\/(∃a kvs,v=.ref a/\H a=some (.dK kvs)/\n=kvs.length)\/∃a kvs,v=.ref a/\H a=some (.dP kvs)/\n=kvs.length:=by
 cases u with
 |str l=>rw[bq.mp r];obtain rfl:=aJ h;erw[.inl #[pD (by rw[dv];exact hn),(dv l).symm]]
 |tup us=>
  let#[a,vs,e,h1,h2]:=dJ.mp r;obtain rfl:=aJ h;rw[e]
  erw[.inl (.inr #[vs,lQ.of h1,h2.len])]
 |rY ns=>
  let#[a,e,h1]:=qR.mp r;obtain rfl:=aJ h;rw[e]
  erw[.inl (.inl #[_,hK▸h1.sq,by simp])]
 |loc m=>
  unfold PL.nj at h;cases q:S[m]? with
  |none=>dsimp[q] at h;erw[nn h]
  |some o=>
   dsimp[q] at h;cases o with
   |lst us=>
    let#[a,vs,e,_,h1,h2]:=R.lst q r;simp at h;subst h;rw[e]
    erw[.inl (.inl #[vs,hU.of h1,h2.len])]
   |dU kvs=>
    let#[a,e,ha]:=eD.mp r;let#[vs,h1,h2,_]:=R.at_ m a _ ha q;simp at h;subst h;erw[.inr (.inl #[a,vs,e,h1,h2.symm])]
   |wV kvs=>
    let#[a,e,ha]:=eD.mp r;let#[vs,h1,h2,_]:=R.at_ m a _ ha q;simp at h;subst h;exact .inr (.inr #[a,vs,e,h1,by have:=congrArg dh h2;simpa using this.symm])
   |ins x fs=>erw[nn h]
   |pR x=>erw[nn h]
   |tR x=>erw[nn h]
 |_=>erw[nn h]
theorem LS(hK:X.K=c.K):iu X (.builtin "len") (qV c .len):=by
 k_ne;let#[ux,ρ,S,QU,hx,R,w,q]:=h
 match ux,w with
 |[u],w=>
  let#[n,e,w1,w2]:=PL.iC.mp (show PL.opt _ _ from w);let#[v,e1,r1]:=kL hx;rcases HU hK R r1 e w1 with l|⟨a,kvs,e2,g,e3⟩|⟨a,kvs,e2,g,e3⟩
  .erw[GG pZ s σ H xs us Q I r #[v,n,e1,l,q.now R w2 (aO.mpr rfl)]]
  .erw[EF pZ s σ H xs us Q I r #[a,kvs,by rw[e1,e2],g,by rw[<-e3];exact q.now R w2 (aO.mpr rfl)]]
  .erw[ET pZ s σ H xs us Q I r #[a,kvs,by rw[e1,e2],g,by rw[<-e3];exact q.now R w2 (aO.mpr rfl)]]
theorem E2(hK:X.K=c.K):iu X (.type "tuple") (qV c .tuple):=by
 k_ne;let#[ux,ρ,S,QU,hx,R,w,q]:=h
 match ux,w with
 |[.loc n],w=>
  let#[us',e,w1]:=PL.cH.mp (show PL.getL _ _ from w);let#[v,e1,r1]:=kL hx;let#[a,vs,e2,_,g1,g2]:=R.lst e r1;erw[vW pZ s σ H xs us Q I r #[a,vs,by rw[e1,e2],.inl #[hU.of g1,λl hl=>q.LG R g2 w1 hl]]]
theorem HV(hK:X.K=c.K):iu X (.type "list") (qV c .list):=by
 k_ne;let#[ux,ρ,S,QU,hx,R,w,q]:=h
 match ux,w with
 |[.loc n],w=>
  let#[us',e,w1]:=PL.cH.mp (show PL.getL _ _ from w);let#[v,e1,r1]:=kL hx;let#[a,vs,e2,_,g1,g2]:=R.lst e r1;erw[qF pZ s σ H xs us Q I r #[a,vs,by rw[e1,e2],.inl (hU.of g1),λl hl=>q.EZ R g2 w1 hl]]
 |[.tup us'],w=>
  let#[v,e1,r1]:=kL hx;let#[a,vs,e2,g1,g2]:=dJ.mp r1;erw[qF pZ s σ H xs us Q I r #[a,vs,by rw[e1,e2],.inr (lQ.of g1),λl hl=>q.EZ R g2 w.2 hl]]
theorem pW:∀{bs:List Bool}{vs:List V},aZ c ρ H (bs.map .bl) vs->vs=bs.map V.bl
 |[],_,h=>by unfold aZ at h;erw[h]
 |t::ts,_,h=>by
  rw[az] at h;unfold aZ at h;let#[v,r,e,h1,h2]:=h;rw[e,eT.mp h1,pW h2];rfl
theorem kM:∀{bs:List Int}{vs:List V},aZ c ρ H (bs.map .int) vs->vs=bs.map V.int
 |[],_,h=>by unfold aZ at h;erw[h]
 |t::ts,_,h=>by
  rw[az] at h;unfold aZ at h;let#[v,r,e,h1,h2]:=h;rw[e,aO.mp h1,kM h2];rfl
theorem HW(hc:X.calm=true):iu X (.builtin "all") (qV c .all):=by
 k_ne;let#[ux,ρ,S,QU,hx,R,w,q]:=h
 match ux,w with
 |[.loc n],w=>
  let#[bs,e,w1]:=w;let#[v,e1,r1]:=kL hx;let#[a,vs,e2,_,g1,g2]:=R.lst e r1;rw[pW g2] at g1;erw[BS hc pZ s σ H xs us Q I r #[a,bs,by rw[e1,e2],hU.of g1,q.now R w1 (eT.mpr rfl)]]
theorem LU(hc:X.calm=true):iu X (.builtin "sum") (qV c .sum):=by
 k_ne;let#[ux,ρ,S,QU,hx,R,w,q]:=h
 match ux,w with
 |[.loc n],w=>
  let#[bs,e,w1]:=w;let#[v,e1,r1]:=kL hx;let#[a,vs,e2,_,g1,g2]:=R.lst e r1;rw[kM g2] at g1;erw[BU hc pZ s σ H xs us Q I r #[a,bs,by rw[e1,e2],hU.of g1,q.now R w1 (aO.mpr rfl)]]
theorem LV(hc:X.calm=true):iu X (.builtin "max") (qV c .max):=by
 k_ne;let#[ux,ρ,S,QU,hx,R,w,q]:=h
 match ux,w with
 |[.loc n],w=>
  let#[i,is,e,w1]:=w;let#[v,e1,r1]:=kL hx;let#[a,vs,e2,_,g1,g2]:=R.lst e r1;rw[kM g2] at g1;erw[BZ hc pZ s σ H xs us Q I r #[a,i,is,by rw[e1,e2],hU.of g1,λm h1 h2=>q.now R (w1 m h1 h2) (aO.mpr rfl)]]
theorem HX(hc:X.calm=true):iu X (.builtin "any") (qV c .any):=by
 k_ne;let#[ux,ρ,S,QU,hx,R,w,q]:=h
 match ux,w with
 |[.loc n],w=>
  let#[bs,e,w1]:=w;let#[v,e1,r1]:=kL hx;let#[a,vs,e2,_,g1,g2]:=R.lst e r1;rw[pW g2] at g1;erw[BY hc pZ s σ H xs us Q I r #[a,bs,by rw[e1,e2],hU.of g1,q.now R w1 (eT.mpr rfl)]]
theorem vc:∀{ps:List (List Nat×U)}{vs:List V},aZ c ρ H (ps.map λp=>.tup [.str p.1,p.2]) vs->∃kvs:List (Key×V),Paired (O3 H) vs kvs/\kvs.map (·.1)=ps.map (λp=>iW (some (tx p.1)))/\aZ c ρ H (ps.map (·.2)) (kvs.map (·.2))
 |[],_,h=>by
  unfold aZ at h;subst h;exact#[[],.nil,rfl,aZ.nil]
 | (k,u)::ps,_,h=>by
  rw[az] at h;unfold aZ at h;let#[v,r,e,h1,h2]:=h;subst e;let#[kvs,g1,g2,g3]:=vc h2;let#[a,vs,e1,ha,hr]:=dJ.mp h1;let#[x,y,e2,r1,r2]:=Dk hr;subst e2;rw[bq.mp r1] at ha;exact#[(iW (some (tx k)),y)::kvs,.cons #[a,e1,ha] g1,by rw[az,az,g2],aZ.cons r2 g3]
theorem xh:∀{ks:List (List Nat)},aZ c ρ H (ks.map .str) (ks.map λk=>kV (iW (some (tx k))))
 |[]=>aZ.nil
 |_::_=>aZ.cons (bq.mpr rfl) xh
theorem HY(hA:X.A.handled=none):iu X (.type "dict") (qV c .dict):=by
 k_ne;let#[ux,ρ,S,QU,hx,R,w,q]:=h
 match ux,w with
 |[.loc n],w=>
  let#[ps,e,nd,w1]:=w;let#[v,e1,r1]:=kL hx;let#[a,vs,e2,_,g1,g2]:=R.lst e r1;let#[kvs,k1,k2,k3]:=vc g2;rwa[BW hA pZ s σ H xs us Q I r #[a,vs,kvs,by rw[e1,e2],g1,k1,?_,λp hp=>?_]]
  .rw[k2,show ps.map (λp=>(iW (some (tx p.1)):Key))=(ps.map (·.1)).map (λk=>iW (some (tx k))) by rw[bx];rfl]
   erw[nU _ (λa b h e=>h (pQ (aJ (sE e)))) nd]
  .have st:=gI.alloc R hp (.dK kvs)
   have e5:kvs.map (λp=>kV p.1)=(ps.map (·.1)).map λk=>kV (iW (some (tx k))):=by
    rw[show kvs.map (λp=>kV p.1)=(kvs.map (·.1)).map kV by rw[bx];rfl,k2,bx,bx];rfl
   have R':cw c (ρ++[p]) (upd H p (.dK kvs)) (S++[.dU (ps.map λp=>(.str p.1,p.2))]):=R.alloc hp #[kvs,bR,by have:=congrArg dh k2;simpa using this,by
     rw[e5,bx,show(CM∘λp:List Nat×U=>(U.str p.1,p.2))=U.str∘CM from rfl,<-bx];erw[xh],by
     rw[bx];erw[k3.mono R st]]
   rwa[q _ _ _ _ _ w1 st R' (eD.mpr #[p,rfl,?_])];rw[<-R.len,ax (au _),bO];rfl
theorem B9:BD X "int.bit_length" (sV c .mB):=by
 intro pZ s σ H x xs v us Q I rx r h;let#[u,ux,ρ,S,QU,hu,hx,R,w,q]:=h
 match u,ux,w with
 |.int i,[],w=>
  let#[w0,w1]:=w;unfold aZ at hx;rwa[ER pZ s σ H x xs v us Q I rx r #[i.toNat,by rw[aO.mp hu];congr 1;omega,hx,q.now R w1 (aO.mpr rfl)]]
theorem LW:∀{ps:List (List Nat×U)}{vs:List (Key×V)}{k:List Nat},vs.length=(ps.map λp=>(U.str p.1,p.2)).length->aZ c ρ H ((ps.map λp=>(U.str p.1,p.2)).map (·.1)) (vs.map λp=>kV p.1)->aZ c ρ H ((ps.map λp=>(U.str p.1,p.2)).map (·.2)) (vs.map (·.2)) ->
  (ps.lookup k=none/\jd vs (iW (some (tx k)))=none)\/∃u v,ps.lookup k=some u/\jd vs (iW (some (tx k)))=some v/\Rep c ρ H u v
 := by
 intro ps;induction ps with
 |nil=>intro vs k hl _ _;cases vs with|nil=>erw[.inl #[rfl,rfl]]|cons _ _=>cases hl
 |cons p ps ih=>
  intro vs k hl h1 h2;let#[a,u]:=p;cases vs with|nil=>cases hl|cons p vs=>?_
  let#[b,y]:=p;dsimp[az] at h1 h2;unfold aZ at h1 h2;let#[v1,r1,e1,p1,q1]:=h1;let#[v2,r2,e2,p2,q2]:=h2;cases e1;cases e2;have eb:b=iW (some (tx a)):=by
   have:=bq.mp p1;erw[ON (b:=iW (some (tx a))) this]
  subst eb;by_cases ek:k=a
  .subst ek
   erw[.inr #[u,y,by simp,kI rfl,p2]]
  .have e3:(k==a)=false:=by simp[ek]
   rw[aN,e3,kJ (λz=>ek (pQ (aJ (sE z))).symm)]
   erw[ih (l9 hl) q1 q2]
theorem join_eq(sep:List Nat):∀ts:List (List Nat),uP sep ts=PL.lj sep ts
 |[]=>rfl
 |[x]=>rfl
 |x::y::r=>by
  unfold uP PL.lj;rw[join_eq sep (y::r)]
theorem sd:∀{ts:List (List Nat)}{vs:List V},aZ c ρ H (ts.map .str) vs->vs=ts.map λt=>V.str (tx t)
 |[],_,h=>by unfold aZ at h;erw[h]
 |t::ts,_,h=>by
  rw[az] at h;unfold aZ at h;let#[v,r,e,h1,h2]:=h;rw[e,bq.mp h1,sd h2];rfl
theorem HZ(hK:X.K=c.K):BD X "str.join" (sV c .join):=by
 intro pZ s σ H x xs v us Q I rx r h;let#[u,ux,ρ,S,QU,hu,hx,R,w,q]:=h
 match u,ux,w with
 |.str sep,[.loc n],w=>
  let#[ts,e,w1,w2]:=w;let#[z,e1,r1]:=kL hx;let#[a,vs,e2,_,g1,g2]:=R.lst e r1;rw[sd g2] at g1;erw[C2 pZ s σ H x xs v us Q I rx r #[sep,ts,a,bq.mp hu,by rw[e1,e2],hU.of g1,w1,by rw[join_eq];exact q.now R w2 (bq.mpr rfl)]]
theorem Ca:BD X "str.startswith" (sV c .startswith):=by
 intro pZ s σ H x xs v us Q I rx r h;let#[u,ux,ρ,S,QU,hu,hx,R,w,q]:=h
 match u,ux,w with
 |.str l,[.str k],w=>
  let#[z,e1,r1]:=kL hx;erw[wX pZ s σ H x xs v us Q I rx r #[l,k,bq.mp hu,by rw[e1,bq.mp r1],q.now R w (eT.mpr rfl)]]
theorem E3(hA:X.A.handled=none):BD X "str.index" (sV c .index):=by
 intro pZ s σ H x xs v us Q I rx r h;let#[u,ux,ρ,S,QU,hu,hx,R,w,q]:=h
 match u,ux,w with
 |.str l,[.str k],w=>
  let#[d,e,w1,w2]:=w;subst e;let#[z,e1,r1]:=kL hx;erw[zV hA pZ s σ H x xs v us Q I rx r #[l,d,bq.mp hu,by rw[e1,bq.mp r1],w1,q.now R w2 (aO.mpr rfl)]]
theorem QV.putL(q:QV c ρ H QU Q)(R:cw c ρ H S)(ha:ρ[n]?=some a)(hw:H a=some (.lst ws))(r:aZ c ρ H us vs)(h:QU .bQ (S.set n (.lst us))):Q .bQ (upd H a (.lst vs)):=by
 have st:=gI.put (H:=H) (ak ha) hw rfl (.lst vs);erw[q _ _ _ _ _ h st (R.put ha hw rfl #[vs,bR,r.mono R st]) (eM.mpr rfl)]
theorem Cb:BD X "list.append" (sV c .append):=by
 intro pZ s σ H x xs v us Q I rx r h;let#[u,ux,ρ,S,QU,hu,hx,R,w,q]:=h
 match u,ux,w with
 |.loc n,[k],w=>
  let#[us',e,w1,w2]:=PL.cH.mp (show PL.getL _ _ from w);let#[z,e1,r1]:=kL hx;let#[a,vs,e2,ha,g1,g2]:=R.lst e hu;rwa[rQ pZ s σ H x xs v us Q I rx r #[a,vs,z,e2,e1,g1,?_,q.putL R ha g1 (g2.app (aZ.cons r1 aZ.nil)) w2]];rw[<-g2.len];erw[aq w1 ⋯]
theorem Cc:BD X "list.extend" (sV c .extend):=by
 intro pZ s σ H x xs v us Q I rx r h;let#[u,ux,ρ,S,QU,hu,hx,R,w,q]:=h
 match u,ux,w with
 |.loc n,[.loc m],w=>
  let#[us',e,w1]:=PL.cH.mp (show PL.getL _ _ from w);let#[ws,e',w2,w3]:=PL.cH.mp w1;let#[z,e1,r1]:=kL hx;let#[a,vs,e2,ha,g1,g2]:=R.lst e hu;let#[b,zs,e3,hb,g3,g4]:=R.lst e' r1;erw[wO pZ s σ H x xs v us Q I rx r #[a,b,vs,zs,e2,by rw[e1,e3],g1,g3,pD (by rw[<-g2.len,<-g4.len];exact w2),q.putL R ha g1 (g2.app g4) w3]]
theorem Dl{κ κ':Type}[BEq κ][LawfulBEq κ][DecidableEq κ'](f:κ->κ')(hf:∀a b,f a=f b->a=b)(k:κ):∀{kvs:List (κ×U)}{vs:List (κ'×V)},vs.map (·.1)=kvs.map (λp=>f p.1)->aZ c ρ H (kvs.map (·.2)) (vs.map (·.2)) ->
  (kvs.lookup k=none/\jd vs (f k)=none)\/∃u v,kvs.lookup k=some u/\jd vs (f k)=some v/\Rep c ρ H u v:=by
 intro kvs;induction kvs with
 |nil=>intro vs hk _;cases vs with|nil=>erw[.inl #[rfl,rfl]]|cons _ _=>cases hk
 |cons p ps ih=>
  intro vs hk h2;let#[a,w]:=p;cases vs with|nil=>cases hk|cons p vs=>?_
  let#[b,y]:=p;dsimp[az,dG] at h2 hk;unfold aZ at h2;let#[v2,r2,e2,p2,q2]:=h2;cases e2;let#[rfl,hk]:=hk;by_cases e:k=a
  .subst e
   erw[.inr #[w,y,by simp,kI rfl,p2]]
  .have e3:(k==a)=false:=by simp[e]
   rw[aN,e3,kJ λz=>e (hf _ _ z).symm]
   erw[ih hk q2]
theorem QV.PC(q:QV c ρ H QU Q)(R:cw c ρ H S)(ha:ρ[n]?=some a)(e:H a=some hw)(nf:Pl hw=false)(r:Rep c ρ H u v)(w:QU u (S.set n o))
  (hr:gI ρ H ρ (upd H a ho)->tK c ρ (upd H a ho) a o):Q v (upd H a ho):=by
 have st:=gI.put (H:=H) (ak ha) e nf ho;erw[q _ _ _ _ _ w st (R.put ha e nf (hr st)) (r.mono R st)]
theorem H0(hu:X.A.units+200<eI):BD X "dict.setdefault" (sV c .ni):=by
 intro pZ s σ H x xs v us Q I rx r h;let#[u,ux,ρ,S,QU,hu',hx,R,w,q]:=h
 match u,ux,w with
 |.loc n,[k,d],w=>
  have w:PL.pB S n k d QU:=w;let#[a,e0,ha]:=eD.mp hu';let#[y,z,e1,r1,r2]:=Dk hx;rwa[K8 ∅ pZ s σ H x xs v us Q I rx r ?_];unfold PL.pB at w;cases hs:S[n]? with
  |none=>rw[hs] at w;erw[w.elim]
  |some o=>
   rw[hs] at w;cases o with
   |dU kvs=>
    let#[#[hk,hl],w]:=w;let#[vs,g1,g2,g3,g4]:=R.at_ n a _ ha hs;have hl':vs.length<sizeLine:=by rw[g2];erw[aq hl ⋯]
    rcases qU hk g2 g3 g4 with⟨l1,l2⟩|⟨u',v',l1,l2,l3⟩
    .rw[l1] at w
     refine#[a,y,z,z,_,e0,e1,.inl #[vs,vb k,g1,jS hk r1,hl',.inr #[l2,rfl,rfl]],q.PC R ha g1 rfl r2 w λst=>#[_,bR,by simp[g2],?_,?_]]
     .rw[aH,aH]
      exact(g3.mono R st).app (aZ.cons (show Rep c ρ _ k (kV (vb k)) by rw[<-jS hk r1];erw[r1.mono R st]) aZ.nil)
     .rw[aH,aH]
      exact(g4.mono R st).app (aZ.cons (r2.mono R st) aZ.nil)
    .rw[l1] at w
     exact#[a,y,z,v',H,e0,e1,.inl #[vs,vb k,g1,jS hk r1,hl',.inl #[l2,rfl]],q.now R w l3]
   |tR kvs=>
    let#[ks,rfl,hl,w]:=w;let#[vs,g1,g2,g4]:=R.at_ n a _ ha hs;have hl':vs.length<sizeLine:=by
     have:=congrArg dh g2;simp at this;rw[this];erw[aq hl ⋯]
    let#[b,ws,e2,hb,hw]:=dJ.mp r1;rw[kM hw,show ks.map V.int=(ks.map wj).map kV by rw[bx];rfl] at hb;rcases Dl (λl:List Int=>l.map (wj:Int->Key)) (λa b e=>(rF (λ_ _ e=>zi e)).mp e) ks g2 g4 with⟨l1,l2⟩|⟨u',v',l1,l2,l3⟩
    .rw[l1] at w
     refine#[a,y,z,z,_,e0,e1,.inr (.inl #[vs,_,b,g1,e2,hb,hl',.inr #[l2,rfl,rfl]]),q.PC R ha g1 rfl r2 w λst=>#[_,bR,by simp[g2],?_]];rw[aH,aH]
     exact(g4.mono R st).app (aZ.cons (r2.mono R st) aZ.nil)
    .rw[l1] at w
     exact#[a,y,z,v',H,e0,e1,.inr (.inl #[vs,_,b,g1,e2,hb,hl',.inl #[l2,rfl]]),q.now R w l3]
   |wV kvs=>
    let#[i,ks,rfl,hl,w]:=w;let#[vs,g1,g2,g4]:=R.at_ n a _ ha hs;have hl':vs.length<sizeLine:=by
     have:=congrArg dh g2;simp at this;rw[this];erw[aq hl ⋯]
    let#[b,ws,e2,hb,hw]:=dJ.mp r1;let#[x1,x2,e3,hi,ht]:=Dk hw;let#[b2,ws2,e4,hb2,hw2]:=dJ.mp ht;rw[kM hw2] at hb2;rw[e3,aO.mp hi,e4] at hb;rcases Dl (λp:Int×List Int=>p) (λa b e=>e) (i,ks) g2 g4 with⟨l1,l2⟩|⟨u',v',l1,l2,l3⟩
    .rw[l1] at w
     refine#[a,y,z,z,_,e0,e1,.inr (.inr #[vs,(i,ks),b,b2,g1,e2,hb,hb2,hl',.inr #[l2,rfl,rfl]]),q.PC R ha g1 rfl r2 w λst=>#[_,bR,by simp[g2],?_]];rw[aH,aH]
     exact(g4.mono R st).app (aZ.cons (r2.mono R st) aZ.nil)
    .rw[l1] at w
     exact#[a,y,z,v',H,e0,e1,.inr (.inr #[vs,(i,ks),b,b2,g1,e2,hb,hb2,hl',.inl #[l2,rfl]]),q.now R w l3]
   |_=>erw[w.elim]
theorem LX(hK:X.K=c.K)(R:cw c ρ H S)(r:Rep c ρ H u v)(h:PL.uV S u=some b):Ou X.K v H b:=by
 cases u with
 |bQ=>rw[eM.mp r];exact(aJ h).symm
 |bl k=>rw[eT.mp r];exact(aJ h).symm
 |int i=>rw[aO.mp r];exact(aJ h).symm
 |str l=>erw[nn h]
 |tup us=>
  let#[a,vs,e,h1,h2]:=dJ.mp r;simp[PL.uV,PL.nj] at h;rw[e]
  rwa[.inr (.inl #[vs,lQ.of h1,?_])];have:=h2.len;rw[<-h]
  cases us<;>cases vs<;>simp at this ⊢
 |rY ns=>
  let#[a,e,h1]:=qR.mp r;simp[PL.uV,PL.nj] at h;rw[e]
  rwa[.inl #[_,hK▸h1.sq,?_]];rw[<-h]
  cases ns<;>simp
 |loc m=>
  unfold PL.uV PL.nj at h;cases q:S[m]? with
  |none=>dsimp[q] at h;erw[nn h]
  |some o=>
   dsimp[q] at h;cases o with
   |lst us=>
    let#[a,vs,e,_,h1,h2]:=R.lst q r;simp at h;rw[e]
    rwa[.inl #[vs,hU.of h1,?_]];have:=h2.len;rw[<-h]
    cases us<;>cases vs<;>simp at this ⊢
   |dU kvs=>
    let#[a,e,ha]:=eD.mp r;let#[vs,h1,h2,_]:=R.at_ m a _ ha q;simp at h;rw[e]
    rwa[.inr (.inr #[vs,h1,?_])];rw[<-h]
    cases kvs<;>cases vs<;>simp at h2 ⊢
   |ins x fs=>erw[nn h]
   |pR x=>erw[nn h]
   |tR x=>erw[nn h]
   |wV x=>erw[nn h]
 |_=>erw[nn h]
end
open PL (U SO bD Xn KU KX b8)
structure xi where
 cls:String->Option Addr
noncomputable abbrev Cx.cc(X:Cx)(t:xi):Ctx:=#[X.prog,X.w,X.K,X.mg,X.base,t.cls]
def lift(c:Ctx)(sp:PL.Spec):Sp:=λvs H Q E=>∃us ρ S QU EU,aZ c ρ H us vs/\cw c ρ H S/\sp us S QU EU/\QV c ρ H QU Q/\QX c ρ H EU E
def FnAt(c:Ctx)(k:Nat)(f:Addr)(sp:PL.Spec):Prop:=∃fd ps,j0 c.P c.w c.K c.mg c.base (tF c.P c.w) k f fd ps (lift c sp)/\Binds c.K fd ps []
structure H8(c:Ctx)(T:Tab):Prop where
 const:∀p∈T.const,∃v u,c.mg (nm p.1)=some u/\RelV v u/\∀ρ H,Rep c ρ H p.2 v
 kC:∀x∈T.kC,c.mg (nm x)=none
 cls:∀x C,c.cls x=some C->Ew c.K C/\∀f∈T.yt,lK c.K C (nm f)
structure fY(c:Ctx)(T:Tab)(Γ:b8)(k:Nat):Prop where
 fns:∀x∈T.fns,∃f,c.mg (nm x)=some (.ref f)/\Be c.K (.ref f)=true/\FnAt c k f (Γ x)
 RT:∀p∈T.pV,∃C f,c.cls p.2=some C/\Meth c.K C (nm p.1) f/\FnAt c k f (Γ (p.2++"."++p.1))
 cls:∀x∈T.pU,∃C f,c.cls x=some C/\c.mg (nm x)=some (.ref C)/\Mk c.K C f/\FnAt c k f (Γ (x++".__init__"))
structure Good(t:xi)(T:Tab)(Γ:b8)(k:Nat)(I:Inf)(X:Cx):Prop where
 tab:H8 (X.cc t) T
 LY:fY (X.cc t) T Γ k
 kind:X.env.scope.kind=.function
 names:X.env.scope.names=I.names
 slots:X.N=I.N
 nd:X.N.Nodup
 calm:I.calm=true->X.calm=true/\jZ (k+1) X.A
 units:X.A.units+200<eI
theorem Good.at_{t:xi}{T:Tab}{Γ:b8}{k:Nat}{I:Inf}{X:Cx}{pZ:List (Addr×Obj)}{E:St->XK}(G:Good t T Γ k I X):Good t T Γ k I (X.at_ pZ E):=
 #[G.tab,G.LY,G.kind,G.names,G.slots,G.nd,G.calm,G.units]
def Af(c:Ctx)(ρ:List Addr)(H:Hp)(J:It)(us:List U)(g:bD->Prop):Prop:=
 ∀(i:Nat)(ρ2:List Addr)(H2:Hp)(S2:bD),gI ρ H ρ2 H2->cw c ρ2 H2 S2->g S2 ->
  (∀u,us[i]?=some u->J.go i H2/\∀y H3,J.Sr i H2 y H3->gI ρ2 H2 ρ2 H3/\cw c ρ2 H3 S2/\Rep c ρ2 H3 u y)/\(us.length<=i->J.stop i H2)
def QI(c:Ctx)(ρ:List Addr)(H:Hp)(RU:List U->(bD->Prop)->bD->Prop)(R:It->Hp->Prop):Prop:=
 ∀us g S' H' ρ' J,RU us g S'->gI ρ H ρ' H'->cw c ρ' H' S'->Af c ρ' H' J us g->R J H'
noncomputable def xj(c:Ctx)(Γ:b8)(x:PL.It):XK->TI:=λE σ H R=>∃env ρ S RU EU,jv c ρ H env σ/\cw c ρ H S/\PL.WI Γ x env S RU EU/\QI c ρ H RU R/\QX c ρ H EU E
def QO(c:Ctx)(ρ:List Addr)(H:Hp)(QU:Option Int->bD->Prop)(Q:Option Int->Hp->Prop):Prop:=∀o S' H' ρ',QU o S'->gI ρ H ρ' H'->cw c ρ' H' S'->Q o H'
noncomputable def Wx(c:Ctx)(Γ:b8)(x:PL.Ox):XK->TO:=λE σ H Q=>∃env ρ S QU EU,jv c ρ H env σ/\cw c ρ H S/\PL.WO Γ x env S QU EU/\QO c ρ H QU Q/\QX c ρ H EU E
structure E4(t:xi)(T:Tab)(Γ:b8)(k n:Nat):Prop where
 fe:∀{I X e x},Good t T Γ k I X->cE T n I e=some x->dI X e (tE (X.cc t) Γ x)
 Ua:∀{I X es xs},Good t T Γ k I X->RQ T n I es=some xs->B7 X es (FX (X.cc t) Γ xs)
 YD:∀{I X op vs x pos},Good t T Γ k I X->Wu T n I op vs=some x->dI X (.BoolOp op vs pos) (tE (X.cc t) Γ x)
 fo:∀{I X oe x},Good t T Γ k I X->cO T n I oe=some x->∀pZ E,PO (X.at_ pZ E) oe (λσ H Q=>Wx (X.cc t) Γ x (E σ) σ H Q)
 fi:∀{I X e x tg},Good t T Γ k I X->cI T n I e=some x->∀pZ E,PI (X.at_ pZ E) tg e (λσ H R=>xj (X.cc t) Γ x (E σ) σ H R)
 fn:∀{I X e x es ek tp},Good t T Γ k I X->cN T n I e=some x->∀pZ E,PI (X.at_ pZ E) (.Tuple es ek tp) e (λσ H R=>xj (X.cc t) Γ x (E σ) σ H R)
 ft:∀{I X e x},Good t T Γ k I X->cT T n I e=some x->B6 X e (tT (X.cc t) Γ x)
 YE:∀{I X op vs x pos},Good t T Γ k I X->Wv T n I op vs=some x->∀pZ E,PW (X.at_ pZ E) (.BoolOp op vs pos) (λσ H Q=>tT (X.cc t) Γ x (E σ) σ H Q)
section
variable{t:xi}{T:Tab}{Γ:b8}{k n:Nat}{I:Inf}{X:Cx}
theorem eU:∀{l:List Str}{i:Nat},d8 x l=some i->l[i]?=some x
 |[],_,h=>nn h
 |y::ys,i,h=>by
  unfold d8 at h;by_cases e:y=x
  .rw[if_pos e] at h;injection h with h;subst h;subst e;rfl
  .rw[if_neg e] at h
   cases q:d8 x ys with
   |none=>rw[q] at h;cases h
   |some j=>rw[q] at h;simp at h;subst h;simpa using eU q
theorem PD(h:LA (names.lookup x)=true)(e:sc.names=names):Sa sc x:=by
 rw[<-e] at h;unfold Sa;cases q:sc.names.lookup x with
 |none=>rw[q] at h;cases h
 |some kd=>rw[q] at h;cases kd<;>simp[LA] at h<;>simp
theorem LZ(G:Good t T Γ k I X)(h:d8 x I.N=some i)(hv:LA (I.names.lookup x)=true)(h1:(x==("__debug__":Str))=false)(h2:(x==("__classdict__":Str))=false):dI X (.Name x pos) (tE (X.cc t) Γ (.var i)):=by
 rwa[up λpZ E=>(NW (i:=i) (X:=X.at_ pZ E) (by show X.N[i]?=some x;rw[G.slots];erw[eU h]) (PD hv G.names) h1 h2).imp ?_]
 kd_p;let#[u,e,w]:=PL.zX.mp (show PL.yj _ _ from w);let#[v,e1,r]:=he.at_ i u e;exact#[v,e1,q.now R w r]
theorem qW{e:Expr}{u:U}{v:V}(h:∀(pZ:List (Addr×Obj)) E,PE (X.at_ pZ E) e (tC v))(r:∀ρ H,Rep (X.cc t) ρ H u v):dI X e (tE (X.cc t) Γ (.lit u)):=by
 rwa[up λpZ E=>(h pZ E).imp ?_]
 kd_p;erw[q.now R w (r ρ H)]
theorem lZ(h:pick l x=some s):s∈l/\nm s=x:=by
 unfold pick at h;exact#[xU h,by simpa using Km h]
theorem xk{α:Type}{l:List (String×α)}{x:Str}{s:String×α}(h:Ab l x=some s):s∈l/\nm s.1=x:=by
 unfold Ab at h;exact#[xU h,by simpa using Km h]
theorem i7(G:Good t T Γ k I X){x:Str}(h:I.gl x=true):Gl X x:=by
 unfold Inf.gl at h;show X.env.scope.names.lookup x=_;rw[G.names]
 simpa using h
theorem Ia{x:Str}{pos:Pos}{p:String×U}(G:Good t T Γ k I X)(hg:I.gl x=true)(h:Ab T.const x=some p)(h1:(x==("__debug__":Str))=false):dI X (.Name x pos) (tE (X.cc t) Γ (.lit p.2)):=by
 let#[hm,e]:=xk h;let#[v,u,e1,rv,r]:=G.tab.const p hm;subst e;erw[qW (λpZ E=>Ks (X:=X.at_ pZ E) (i7 G hg) e1 rv h1) r]
theorem PF(G:Good t T Γ k I X)(ho:TZ op=some o)(ha:∀pZ E,dI (X.at_ pZ E) a (tE (X.cc t) Γ x))(hb:∀pZ E,dI (X.at_ pZ E) b (tE (X.cc t) Γ y)):dI X (.BinOp a op b pos) (tE (X.cc t) Γ (.bin o x y)):=by
 have e:op=LH o:=by
  cases op<;>first|exact nn ho| (cases ho;rfl)
 rw[e]
 rwa[up λpZ E=>(Su (X:=X.at_ pZ E) (LP (X:=X.at_ pZ E) (c:=X.cc t)) (dn (ha pZ E)) (dn (hb pZ E))).imp ?_]
 kd_p;z_go;refine#[env,ρ1,S1,_,EU,he.later R st1,R1,w1,λu2 S2 v2 H2 ρ2 w2 st2 R2 r2=>?_,qx.later st1];exact#[u,u2,ρ2,S2,QU,r1.mono R1 st2,r2,R2,w2,q.later (st1.trans st2)]
theorem Ib(ho:RO op b=some o):op=Dh o:=by
 unfold RO at ho;split at ho
 .rename_i hc
  cases op<;>first|exact ff hc| (cases ho;rfl)
 .cases op<;>first|exact nn ho| (cases ho;rfl)
theorem PH(G:Good t T Γ k I X)(ho:RO op b=some o)(hm:behindInMarks op b=false)(ha:∀pZ E,dI (X.at_ pZ E) a (tE (X.cc t) Γ x))(hb:∀pZ E,dI (X.at_ pZ E) b (tE (X.cc t) Γ y)):dI X (.Compare a [op] [b] pos) (tE (X.cc t) Γ (.cmp o x y)):=by
 have e:op=Dh o:=Ib ho;subst e;rwa[up λpZ E=>(KD (X:=X.at_ pZ E) (Di (X:=X.at_ pZ E) (c:=X.cc t) rfl rfl G.units o) (dn (ha pZ E)) (dn (hb pZ E)) hm).imp ?_]
 kd_p;z_go;refine#[env,ρ1,S1,_,EU,he.later R st1,R1,w1,λu2 S2 v2 H2 ρ2 w2 st2 R2 r2=>?_,qx.later st1];refine#[u,u2,ρ2,S2,r1.mono R1 st2,r2,R2,PL.wZ (λr h=>?_) w2];exact(q.later (st1.trans st2)).now R2 h (eT.mpr rfl)
theorem L0(G:Good t T Γ k I X)(ho:RO op b=some o)(hm:behindInMarks op b=false)(ha:∀pZ E,dI (X.at_ pZ E) a (tE (X.cc t) Γ x))(hb:∀pZ E,dI (X.at_ pZ E) b (tE (X.cc t) Γ y)):B6 X (.Compare a [op] [b] pos) (tT (X.cc t) Γ (.dw (.cmp o x y))):=by
 have e:op=Dh o:=Ib ho;subst e;rwa[Ww λpZ E=>(KG (X:=X.at_ pZ E) (Di (X:=X.at_ pZ E) (c:=X.cc t) rfl rfl G.units o) (dn (ha pZ E)) (dn (hb pZ E)) hm).imp ?_]
 kd_p;z_go;refine#[env,ρ1,S1,_,EU,he.later R st1,R1,w1,λu2 S2 v2 H2 ρ2 w2 st2 R2 r2=>?_,qx.later st1];refine#[u,u2,ρ2,S2,r1.mono R1 st2,r2,R2,PL.wZ (λr h=>#[r,rfl,?_]) w2];exact(q.later (st1.trans st2)) _ _ _ _ h .refl R2
end
open PL (U SO bD Xn KU KX b8)
theorem dg(h:noStar e=true):bI (e::es) env=(false,eval e env)::bI es env:=by
 cases e<;>first|rfl|cases h
theorem vd:∀{es:List Expr},es.all noStar=true->bI es env=es.map λe=>(false,eval e env)
 |[],_=>rfl
 |e::es,h=>by
  rw[bK,ao] at h;rw[dg h.1,vd h.2];rfl
theorem fI(h:fN o=true):gZ o m env (eval o env)=eval o env:=by
 cases o with
 |Call f args kws pos=>
  cases f with
  |Name id p=>
   cases args with
   |nil=>
    cases kws with
    |nil=>cases h
    |cons k ks=>rfl
   |cons a as=>rfl
  |_=>rfl
 |_=>rfl
theorem Ag(h:yu e=true):fB e tg l env=pure false:=by
 cases e<;>first|rfl|cases h
theorem iA(h:es.all noStar=true):(ic pos (bI es env)).any (·.1)=false:=by
 rw[vd h]
 unfold ic;simp
theorem xm(h:es.all noStar=true)(hn:es.length<20):Bf (es.length+([]:List nJ).length) (ic pos (bI es env)) (backToKw pos (jG [] env))=true:=by
 rw[vd h]
 have e:jG [] env=[]:=rfl;rw[e]
 unfold Bf ic;simp[backToKw]
 omega
theorem xn(h0:fN o=true)(hst:args.all noStar=true)(hn:args.length<20)(hl:(apos.endLine==pos.line)=true):
  eval (.Call (.Attribute o m apos) args [] pos) env=(do
   let ov <-eval o env
   standAt apos.atName
   let (f,first) <-holding [ov] (getMethod ov m (do return (<-importBound o env).getD true))
   callWith pos f first (ic pos (bI args env)) (backToKw pos (jG [] env))):=by
 change (do
  let ov <-gZ o m env (eval o env)
  standAt apos.atName
  methodCall o m apos pos env ov (args.length+[].length) (ic pos (bI args env)) (backToKw pos (jG [] env)))=_
 dsimp[fI h0,methodCall,xm hst hn,calleeOf,methodCallPos,hl]
 rfl
open PL (U SO bD Xn KU KX b8)
section
variable{X:Cx}{k:Nat}{f C:Addr}{fd:eQ}{ps:List Str}{sp:Sp}{x m:Str}{p pos apos:Pos}{e o:Expr}{es:List Expr}{ta:XK->TA}{to:XK->TE}
theorem YF(F:j0 X.prog X.w X.K X.mg X.base (tF X.prog X.w) k f fd ps sp)(hr:jZ k X.A)(hg:Gl X x)(hm:X.mg x=some (.ref f))(hk:Be X.K (.ref f)=true)(hb:Binds X.K fd ps [])(ha:B7 X (e::es) ta)
  (hdb:(x==("__debug__":Str))=false) (he:noStar e=true) (hes:es.all noStar=true):dI X (.Call (.Name x p) (e::es) [] pos) (λE σ H Q=>ta E σ H λvs H1=>sp vs H1 Q E):=by
 intro pZ s σ H Q E I h;rwa[eS (qv I hg hm ?_ hdb)];rwa[callWith_K (h₀:=X.base) I.ok.mod.R9 hk (d6 (ha pos pZ s σ H _ E I h) λus s1 h9=>?_) (dg he) (iA hes)];let#[vs,H1,I1,r,q]:=h9;refine#[I1.zc,?_];erw[tQ F hr hb .nil I1 r (by rw[bM];exact q)]
theorem Ub(F:j0 X.prog X.w X.K X.mg X.base (tF X.prog X.w) k f fd ps sp)(hr:jZ k X.A)(hg:Gl X x)(hm:X.mg x=some (.ref f))(hk:Be X.K (.ref f)=true)(hb:Binds X.K fd ps [])
  (hdb:(x==("__debug__":Str))=false):dI X (.Call (.Name x p) [] [] pos) (λE σ H Q=>sp [] H Q E):=by
 intro pZ s σ H Q E I h;rwa[eS (qv I hg hm ?_ hdb)];erw[Kn I.zc hk (tQ (us:=[]) (vs:=[]) F hr hb .nil I .nil h)]
theorem YG(he:dI X o to)(c:Ew X.K C)(hm:Meth X.K C m f)(F:j0 X.prog X.w X.K X.mg X.base (tF X.prog X.w) k f fd ps sp)(hr:jZ k X.A)(hb:Binds X.K fd ps [])(ha:B7 X (e::es) ta)
  (h0:fN o=true) (hn:(e::es).length<20) (hl:(apos.endLine==pos.line)=true) (hse:noStar e=true) (hes:es.all noStar=true):
  dI X (.Call (.Attribute o m apos) (e::es) [] pos) (λE σ H Q=>to E σ H λx H1=>∃a dx fs,x=.ref a/\H1 a=some (.ins C dx fs)/\fs.lookup m=none/\ta E σ H1 λvs H2=>sp (x::vs) H2 Q E):=by
 intro pZ s σ H Q E I h;refine methodCall_KW (d6 (he pZ s σ H _ E I h) λu s1 h9=>?_) (xn h0 (by rw[bK,hse,hes];rfl) hn hl);let#[x,H1,I1,rx,a,dx,fs,ex,ea,l,q]:=h9;subst ex;obtain rfl:u=bf a:=rx;refine uD I1 ea c hm l ?_;refine callWith_K (first:=[.ref a]) (h₀:=X.base) I.ok.mod.R9 hm.kp (d6 (ha pos pZ s1 σ H1 _ E I1 q) λus s2 h9=>?_) (dg hse) (iA hes);obtain⟨vs,H2,I2,r,q2⟩:=h9;refine#[I2.zc,?_];exact tQ (us:=.ref a::us) (vs:=.ref a::vs) F hr hb .nil I2 (.cons rfl r) (by rw[bM];exact q2)
theorem Uc(he:dI X o to)(c:Ew X.K C)(hm:Meth X.K C m f)(F:j0 X.prog X.w X.K X.mg X.base (tF X.prog X.w) k f fd ps sp)(hr:jZ k X.A)(hb:Binds X.K fd ps [])
  (h0:fN o=true) (hl:(apos.endLine==pos.line)=true):
  dI X (.Call (.Attribute o m apos) [] [] pos) (λE σ H Q=>to E σ H λx H1=>∃a dx fs,x=.ref a/\H1 a=some (.ins C dx fs)/\fs.lookup m=none/\sp [x] H1 Q E):=by
 intro pZ s σ H Q E I h;refine methodCall_KW (d6 (he pZ s σ H _ E I h) λu s1 h9=>?_) (xn h0 rfl ⋯ hl);let#[x,H1,I1,rx,a,dx,fs,ex,ea,l,q]:=h9;subst ex;obtain rfl:u=bf a:=rx;refine uD I1 ea c hm l ?_;exact Kn (first:=[.ref a]) I1.zc hm.kp (tQ (us:=[.ref a]) (vs:=[.ref a]) F hr hb .nil I1 (.cons rfl .nil) q)
theorem xo(M:Mk X.K C f)(F:j0 X.prog X.w X.K X.mg X.base (tF X.prog X.w) k f fd ps sp)(hr:jZ (k+1) X.A)(hb:Binds X.K fd ps [])
  (I:Inv X pZ σ H s) (r:Vals vs us) (h:∀x dx,H x=none->H dx=none->dx≠x->sp (.ref x::vs) (upd (upd H dx (.own x)) x (.ins C dx [])) (λv H2=>v=.bQ/\Q (.ref x) H2) E):
  wpAny (ba X.prog X.w) X.A (call (.ref C) us) (EP X pZ σ Q) (XE X pZ σ E) s:=by
 have hq:=h (s.heap.objs.size+1) s.heap.objs.size (I.dq.fresh (ke _)) (I.dq.fresh (au _)) (a9 (cv _));have I2:=Inv.made (C:=C) I;have r2:Vals (V.ref (s.heap.objs.size+1)::vs) (bf (s.heap.objs.size+1)::us):=.cons rfl r;have hl:(bf (s.heap.objs.size+1)::us++([]:List Value)).length=ps.length:=by
  have e:=r2.length;rw[F.len _ _ _ _ hq] at e;rw[bM]
  erw[e.symm]
 have hb2:=hb {s with heap:=(s.heap.push cM).push (dM C s.heap.objs.size)} (bf (s.heap.objs.size+1)::us) I2.zc hl;rw[bM] at hb2;refine wpAny_call (GI (f:=f) I.zc M.makes M.init (beq_iff_eq.mp M.fn) (vQ (F.run _ X.stack _ _ #[bf (s.heap.objs.size+1)::us,[]] (bf (s.heap.objs.size+1)::us) _ _ E (hr.make C us [])
  (I2.SM.make C us []) hb2 r2 hq) λr s' hq'=>?_))
 cases r with
 |error e=>
  let#[a,T,c,dx,H',e1,I',x,fr,q]:=tF.inv I2 hq';exact#[a,some T,c,dx,H',e1,I',x,fr,q]
 |ok fl=>
  cases fl with
  |ret u=>
   let#[v,H',I3,rv,ev,q3]:=I2.after hq';subst ev;exact#[rv,#[V.ref (s.heap.objs.size+1),H',I3,rfl,q3]]
  |next=>erw[aL hq']
  |brk=>erw[aL hq']
  |cont=>erw[aL hq']
theorem YH(M:Mk X.K C f)(F:j0 X.prog X.w X.K X.mg X.base (tF X.prog X.w) k f fd ps sp)(hr:jZ (k+1) X.A)(hg:Gl X x)(hm:X.mg x=some (.ref C))(hb:Binds X.K fd ps [])(ha:B7 X (e::es) ta)
  (hdb:(x==("__debug__":Str))=false) (he:noStar e=true) (hes:es.all noStar=true):dI X (.Call (.Name x p) (e::es) [] pos) (λE σ H Q=>ta E σ H λvs H1=>∀x dx,H1 x=none->H1 dx=none->dx≠x ->
   sp (.ref x::vs) (upd (upd H1 dx (.own x)) x (.ins C dx [])) (λv H2=>v=.bQ/\Q (.ref x) H2) E):=by
 intro pZ s σ H Q E I h;rwa[eS (qv I hg hm ?_ hdb)];rwa[callWith_K (h₀:=X.base) I.ok.mod.R9 M.kp (d6 (ha pos pZ s σ H _ E I h) λus s1 h9=>?_) (dg he) (iA hes)];let#[vs,H1,I1,r,q]:=h9;refine#[I1.zc,?_];erw[xo M F hr hb I1 r q]
theorem Ud(M:Mk X.K C f)(F:j0 X.prog X.w X.K X.mg X.base (tF X.prog X.w) k f fd ps sp)(hr:jZ (k+1) X.A)(hg:Gl X x)(hm:X.mg x=some (.ref C))(hb:Binds X.K fd ps [])
  (hdb:(x==("__debug__":Str))=false):dI X (.Call (.Name x p) [] [] pos) (λE σ H Q=>∀x dx,H x=none->H dx=none->dx≠x ->
   sp [.ref x] (upd (upd H dx (.own x)) x (.ins C dx [])) (λv H2=>v=.bQ/\Q (.ref x) H2) E):=by
 intro pZ s σ H Q E I h;rwa[eS (qv I hg hm ?_ hdb)];erw[Kn I.zc M.kp (xo (us:=[]) (vs:=[]) M F hr hb I .nil h)]
end
theorem dI.imp(h:dI X e t)(q:∀E σ H Q,t' E σ H Q->t E σ H Q):dI X e t':=λpZ s σ H Q E I z=>h pZ s σ H Q E I (q E σ H Q z)
section
variable{t:xi}{T:Tab}{Γ:b8}{k n:Nat}{I:Inf}{X:Cx}
theorem mN:∀{n:Nat}{I:Inf}{es:List Expr}{xs:PL.zd},RQ T n I es=some xs->es.all noStar=true
 |0,_,_,_,h=>by rw[Nw] at h;cases h
 |n+1,I,[],_,_=>rfl
 |n+1,I,e::es,_,h=>by
  rw[HE,HB] at h;by_cases z:noStar e=true
  .dsimp[z,bJ,av,if_false,aK,ay] at h
   let#[x,_,xs,h2,_]:=h;rw[bK,z,mN h2];rfl
  .simp[z] at h
theorem PJ(IH:E4 t T Γ k n)(G:Good t T Γ k I X):∀{es:List Expr}{xs:PL.zd},RQ T (n+1) I es=some xs->B7 X es (FX (X.cc t) Γ xs)
 |[],xs,h=>by
  rw[HE,HB] at h;injection h with h;subst h
  rwa[ZV λpZ E=>?_]
  rwa[λpos pins' s σ H Q J z=>uF (X:=X.at_ pZ E) pos pins' s σ H Q J ?_]
  let#[env,ρ,S,QU,EU,he,R,w,q,qx]:=z;erw[q [] S [] H ρ w .refl R aZ.nil]
 |e::es,xs,h=>by
  have st:=mN h;rw[bK,ao] at st;rw[HE,HB] at h;dsimp[st.1,bJ,av,if_false,aK,ay] at h;let#[x,h1,ys,h2,h3]:=h;injection h3 with h3;subst h3
  rwa[ZV λpZ E=>?_]
  have P:=qB (X:=X.at_ pZ E) (dn (IH.fe G.at_ h1)) (Ad (IH.Ua G.at_ h2)) (dg st.1);rwa[λpos pins' s σ H Q J z=>P pos pins' s σ H Q J ?_]
  let#[env,ρ,S,QU,EU,he,R,w,q,qx]:=z;z_go;refine#[env,ρ1,S1,_,EU,he.later R st1,R1,w1,λus S2 vs H2 ρ2 w2 st2 R2 r2=>?_,qx.later st1];erw[q _ _ _ _ _ w2 (st1.trans st2) R2 (aZ.cons (r1.mono R1 st2) r2)]
theorem PK(ha:∀pZ E,dI (X.at_ pZ E) a (tE (X.cc t) Γ x)):dI X (.UnaryOp .USub a pos) (tE (X.cc t) Γ (.neg x)):=by
 rwa[up λpZ E=>(Sv (X:=X.at_ pZ E) Oo (dn (ha pZ E))).imp ?_]
 kd_p;z_go;let#[i,e,w2]:=PL.eL.mp w1;subst e;exact#[i,aO.mp r1,(q.later st1).now R1 w2 (aO.mpr rfl)]
theorem PM(ha:∀pZ E,dI (X.at_ pZ E) a (tE (X.cc t) Γ x)):dI X (.UnaryOp .Not a pos) (tE (X.cc t) Γ (.not x)):=by
 rwa[up λpZ E=>(N5 (X:=X.at_ pZ E) (dn (ha pZ E))).imp ?_]
 kd_p;z_go;let#[i,e,w2]:=PL.yk.mp w1;subst e;exact#[i,eT.mp r1,(q.later st1).now R1 w2 (eT.mpr rfl)]
theorem PN(IH:E4 t T Γ k n)(G:Good t T Γ k I X):∀{vs:List Expr}{x:PL.Ex},Wu T (n+1) I op vs=some x->dI X (.BoolOp op vs pos) (tE (X.cc t) Γ x)
 |[],x,h=>by rw[HF,HC] at h;cases h
 |[a],x,h=>by
  rw[HF,HC] at h;rwa[up λpZ E=>N3 (X:=X.at_ pZ E) (dn (IH.fe G.at_ h))]
 |a::b::r,y,h=>by
  rw[HF,HC] at h;dsimp[aK,ay] at h;let#[x,h1,z,h2,h3]:=h;injection h3 with h3;subst h3
  cases op with
  |And=>
   rwa[up λpZ E=>(N4 (X:=X.at_ pZ E) (dn (IH.fe G.at_ h1)) (dn (IH.YD G.at_ h2))).imp ?_]
   kd_p;z_go;let#[i,e,w2]:=PL.yk.mp w1;subst e;refine#[i,eT.mp r1,?_];cases i with
   |true=>exact#[env,ρ1,S1,QU,EU,he.later R st1,R1,w2,q.later st1,qx.later st1]
   |false=>exact(q.later st1).now R1 w2 (eT.mpr rfl)
  |Or=>
   rwa[up λpZ E=>(Sg (X:=X.at_ pZ E) (dn (IH.fe G.at_ h1)) (dn (IH.YD G.at_ h2))).imp ?_]
   kd_p;z_go;let#[i,e,w2]:=PL.yk.mp w1;subst e;refine#[i,eT.mp r1,?_];cases i with
   |true=>exact(q.later st1).now R1 w2 (eT.mpr rfl)
   |false=>exact#[env,ρ1,S1,QU,EU,he.later R st1,R1,w2,q.later st1,qx.later st1]
theorem Ue(hc:∀pZ E,B6 (X.at_ pZ E) c (tT (X.cc t) Γ x))(ha:∀pZ E,dI (X.at_ pZ E) a (tE (X.cc t) Γ y))(hb:∀pZ E,dI (X.at_ pZ E) b (tE (X.cc t) Γ z)):dI X (.IfExp c a b pos) (tE (X.cc t) Γ (.FU x y z)):=by
 rwa[up λpZ E=>(Gu (X:=X.at_ pZ E) (RS (hc pZ E)) (dn (ha pZ E)) (dn (hb pZ E))).imp ?_]
 kd_p;refine#[env,ρ,S,_,EU,he,R,w,λb S1 H1 ρ1 w1 st1 R1=>?_,qx];cases b with
 |true=>exact#[env,ρ1,S1,QU,EU,he.later R st1,R1,w1,q.later st1,qx.later st1]
 |false=>exact#[env,ρ1,S1,QU,EU,he.later R st1,R1,w1,q.later st1,qx.later st1]
theorem PQ(ha:∀pZ E,B7 (X.at_ pZ E) es (FX (X.cc t) Γ xs)):dI X (.Tuple es j pos) (tE (X.cc t) Γ (.tup xs)):=by
 rwa[up λpZ E=>(OA (X:=X.at_ pZ E) (Ad (ha pZ E))).imp ?_]
 kd_p;refine#[env,ρ,S,_,EU,he,R,w,λus S1 vs H1 ρ1 w1 st1 R1 r1=>?_,qx];exact#[by rw[<-r1.len];erw[pD w1.1],λp hp=>(q.later st1).LG R1 r1 w1.2 hp]
theorem PU(ha:∀pZ E,B7 (X.at_ pZ E) es (FX (X.cc t) Γ xs)):dI X (.List es pos) (tE (X.cc t) Γ (.lst xs)):=by
 rwa[up λpZ E=>(OB (X:=X.at_ pZ E) (Ad (ha pZ E))).imp ?_]
 kd_p;refine#[env,ρ,S,_,EU,he,R,w,λus S1 vs H1 ρ1 w1 st1 R1 r1=>?_,qx];exact#[by rw[<-r1.len];erw[pD w1.1],λp hp=>(q.later st1).EZ R1 r1 w1.2 hp]
theorem pX:∀{fs:List (String×U)}{vs:List (Str×V)},vs.map (·.1)=(fs.map (·.1)).map nm->aZ c ρ H (fs.map (·.2)) (vs.map (·.2))->fs.lookup f=some u->(∀a b:String,nm a=nm b->a=b)->∃v,vs.lookup (nm f)=some v/\Rep c ρ H u v
 |[],vs,_,_,h,_=>nomatch h
 | (g,w)::fs,[],e,_,_,_=>by simp at e
 | (g,w)::fs,(a,v)::vs,e,r,h,inj=>by
  dsimp[az,dG] at e;rw[az,az] at r;unfold aZ at r;let#[v',r',e',h1,h2]:=r;injection e' with e1 e2
  subst e1;subst e2;rw[aN] at h ⊢;by_cases z:f=g
  .subst z
   simp at h;subst h;have:(nm f==a)=true:=by rw[e.1];simp
   rw[this]
   exact#[v,rfl,h1]
  .have z1:(f==g)=false:=by simp[z]
   rw[z1] at h;have z2:(nm f==a)=false:=by
    rw[e.1]
    dsimp[beq_eq_false_iff_ne,ne_eq];erw[λq=>z (inj _ _ q)]
   rw[z2]
   erw[pX e.2 h2 h inj]
theorem ve(a b:String)(h:nm a=nm b):a=b:=by
 unfold nm at h;rw[Str.ofString_eq_byList] at h;unfold Str.ofStringByList at h;injection h with h
 have h2:=congrArg zo h;dsimp[] at h2;have h3:a.toList=b.toList:=by
  refine(rF (f:=Char.toNat) ?_).mp h2;intro x y e;erw[Char.ext (UInt32.toNat_inj.mp e)]
 erw[String.toList_inj.mp h3]
end
open PL (U SO bD Xn KU KX b8)
section
variable{t:xi}{T:Tab}{Γ:b8}{k n:Nat}{I:Inf}{X:Cx}
theorem PV{o:Expr}{f:String}{x:PL.Ex}{pos:Pos}(G:Good t T Γ k I X)(hf:f∈T.yt)(h0:fN o=true)(ho:∀pZ E,dI (X.at_ pZ E) o (tE (X.cc t) Γ x)):dI X (.Attribute o (nm f) pos) (tE (X.cc t) Γ (.fld x f)):=by
 rwa[up λpZ E=>(Oy (X:=X.at_ pZ E) (dn (ho pZ E)) (fI h0)).imp ?_]
 kd_p;z_go;cases u with
 |loc m=>
  let#[c,fs,e,w2]:=PL.lW.mp (show PL.oa _ _ from w1);let#[u,e2,w3]:=PL.iC.mp w2;let#[a,C,dx,vs,ev,_,hc,ha,hn,hr]:=R1.ins e r1;let#[v',l,r2]:=pX hn hr e2 ve;let#[cl,na]:=G.tab.cls c C hc;exact#[a,C,dx,vs,v',ev,ha,cl,na f hf,l,(q.later st1).now R1 w3 r2]
 |_=>erw[aL w1]
theorem Ic(h:kD b=true):CV b:=by
 intro o i;cases b<;>first|rfl|cases h
theorem Ug(hs:kD b=true)(ha:∀pZ E,dI (X.at_ pZ E) a (tE (X.cc t) Γ x))(hb:∀pZ E,dI (X.at_ pZ E) b (tE (X.cc t) Γ y)):dI X (.Subscript a b pos) (tE (X.cc t) Γ (.ix x y)):=by
 rwa[up λpZ E=>(SU (X:=X.at_ pZ E) (Py (X:=X.at_ pZ E) (c:=X.cc t) rfl rfl) (dn (ha pZ E)) (dn (hb pZ E)) (Ic hs)).imp ?_]
 kd_p;z_go;refine#[env,ρ1,S1,_,EU,he.later R st1,R1,w1,λu2 S2 v2 H2 ρ2 w2 st2 R2 r2=>?_,qx.later st1];refine#[u,u2,ρ2,S2,r1.mono R1 st2,r2,R2,PL.Hx (λr h v3 r3=>?_) w2];exact(q.later (st1.trans st2)).now R2 h r3
theorem Uh(IH:E4 t T Γ k n)(G:Good t T Γ k I X):∀{oe:Option Expr}{x:PL.Ox},cO T (n+1) I oe=some x->∀pZ E,PO (X.at_ pZ E) oe (λσ H Q=>Wx (X.cc t) Γ x (E σ) σ H Q)
 |none,x,h,pZ,E=>by
  rw[T6,Wt] at h;injection h with h;subst h
  rwa[λpins' s σ H Q J z=>KO (X:=X.at_ pZ E) pins' s σ H Q J ?_]
  let#[env,ρ,S,QU,EU,he,R,w,q,qx]:=z;erw[q none S H ρ w .refl R]
 |some e,x,h,pZ,E=>by
  rw[T6,Wt] at h;let#[y,h1,h2]:=ar.mp h;subst h2;rwa[λpins' s σ H Q J z=>KQ (X:=X.at_ pZ E) (dn (IH.fe G.at_ h1)) pins' s σ H Q J ?_]
  let#[env,ρ,S,QU,EU,he,R,w,q,qx]:=z;z_go;let#[i,e,w2]:=PL.eL.mp w1;subst e;exact#[i,aO.mp r1,q _ _ _ _ w2 st1 R1]
theorem Ui{a:Expr}{lo hi:Option Expr}{x:PL.Ex}{y z:PL.Ox}{pos p2:Pos}(ha:∀pZ E,dI (X.at_ pZ E) a (tE (X.cc t) Γ x))(hl:∀pZ E,PO (X.at_ pZ E) lo (λσ H Q=>Wx (X.cc t) Γ y (E σ) σ H Q))(hh:∀pZ E,PO (X.at_ pZ E) hi (λσ H Q=>Wx (X.cc t) Γ z (E σ) σ H Q)):dI X (.Subscript a (.Slice lo hi none p2) pos) (tE (X.cc t) Γ (.sl x y z)):=by
 rwa[up λpZ E=>(GL (X:=X.at_ pZ E) (PB (X:=X.at_ pZ E) (c:=X.cc t) rfl) (dn (ha pZ E)) (hl pZ E) (hh pZ E)).imp ?_]
 kd_p;z_go;refine#[env,ρ1,S1,_,EU,he.later R st1,R1,w1,λl S2 H2 ρ2 w2 st2 R2=>?_,qx.later st1];have st12:=st1.trans st2;refine#[env,ρ2,S2,_,EU,he.later R st12,R2,w2,λh S3 H3 ρ3 w3 st3 R3=>?_,qx.later st12];exact#[u,ρ3,S3,QU,r1.mono R1 (st2.trans st3),R3,w3,q.later (st12.trans st3)]
end
open PL (U SO bD Xn KU KX b8)
section
variable{t:xi}{T:Tab}{Γ:b8}{k n:Nat}{I:Inf}{X:Cx}
theorem PX(G:Good t T Γ k I X)(hg:I.gl f=true)(hb:Pj f=some b)(hp:pick T.kC f=some s)(hcalm:X.calm=true)(hA:X.A.handled=none)(h1:noStar e=true)(h2:es.all noStar=true)
  (ha:∀pZ E,B7 (X.at_ pZ E) (e::es) (FX (X.cc t) Γ xs)):dI X (.Call (.Name f p) (e::es) [] pos) (tE (X.cc t) Γ (.blt b xs)):=by
 let#[hm,rfl]:=lZ hp;have hn:=G.tab.kC s hm;have rd:∀(pZ:List (Addr×Obj))(E:St->XK)(σ:St)(H:Hp)(Q:VK),tE (X.cc t) Γ (.blt b xs) (E σ) σ H Q->Xg (qV (X.cc t) b) (λσ H Q=>FX (X.cc t) Γ xs (E σ) σ H Q) σ H Q:=by
  rintro pZ E σ H Q ⟨env,ρ,S,QU,EU,he,R,w,q,qx⟩;exact#[env,ρ,S,_,EU,he,R,w,λus S1 vs H1 ρ1 w1 st1 R1 r1=>#[us,ρ1,S1,QU,r1,R1,w1,q.later st1],qx]
 have sx:∀(pZ:List (Addr×Obj))(E:St->XK),bI (e::es) (X.at_ pZ E).env=(false,eval e (X.at_ pZ E).env)::bI es (X.at_ pZ E).env:=λ_ _=>dg h1
 have sy:∀(pZ:List (Addr×Obj))(E:St->XK),(ic pos (bI es (X.at_ pZ E).env)).any (·.1)=false:=λ_ _=>iA h2
 unfold Pj at hb;by_cases c1:(nm s==("len":Str))=true
 .rw[if_pos c1] at hb;injection hb with hb;subst hb
  have ef:nm s=("len":Str):=by simpa using c1
  rw[ef] at hg hn ⊢;erw[up λpZ E=>(nW (X:=X.at_ pZ E) (LS rfl) (i7 G hg) hn Kk (Ad (ha pZ E)) ⋯ ⋯ (sx pZ E) (sy pZ E)).imp (rd pZ E)]
 rw[if_neg c1] at hb;by_cases c2:(nm s==("tuple":Str))=true
 .rw[if_pos c2] at hb;injection hb with hb;subst hb
  have ef:nm s=("tuple":Str):=by simpa using c2
  rw[ef] at hg hn ⊢;erw[up λpZ E=>(oE (X:=X.at_ pZ E) (E2 rfl) (i7 G hg) hn (by decide +kernel) (Ad (ha pZ E)) ⋯ ⋯ (sx pZ E) (sy pZ E)).imp (rd pZ E)]
 rw[if_neg c2] at hb;by_cases c4:(nm s==("list":Str))=true
 .rw[if_pos c4] at hb;injection hb with hb;subst hb
  have ef:nm s=("list":Str):=by simpa using c4
  rw[ef] at hg hn ⊢;erw[up λpZ E=>(oE (X:=X.at_ pZ E) (HV rfl) (i7 G hg) hn (by decide +kernel) (Ad (ha pZ E)) ⋯ ⋯ (sx pZ E) (sy pZ E)).imp (rd pZ E)]
 rw[if_neg c4] at hb;by_cases c7:(nm s==("all":Str))=true
 .rw[if_pos c7] at hb;injection hb with hb;subst hb
  have ef:nm s=("all":Str):=by simpa using c7
  rw[ef] at hg hn ⊢;erw[up λpZ E=>(nW (X:=X.at_ pZ E) (HW hcalm) (i7 G hg) hn (by decide +kernel) (Ad (ha pZ E)) ⋯ ⋯ (sx pZ E) (sy pZ E)).imp (rd pZ E)]
 rw[if_neg c7] at hb;by_cases c8:(nm s==("sum":Str))=true
 .rw[if_pos c8] at hb;injection hb with hb;subst hb
  have ef:nm s=("sum":Str):=by simpa using c8
  rw[ef] at hg hn ⊢;erw[up λpZ E=>(nW (X:=X.at_ pZ E) (LU hcalm) (i7 G hg) hn boot_sum (Ad (ha pZ E)) ⋯ ⋯ (sx pZ E) (sy pZ E)).imp (rd pZ E)]
 rw[if_neg c8] at hb;by_cases c9:(nm s==("any":Str))=true
 .rw[if_pos c9] at hb;injection hb with hb;subst hb
  have ef:nm s=("any":Str):=by simpa using c9
  rw[ef] at hg hn ⊢;erw[up λpZ E=>(nW (X:=X.at_ pZ E) (HX hcalm) (i7 G hg) hn (by decide +kernel) (Ad (ha pZ E)) ⋯ ⋯ (sx pZ E) (sy pZ E)).imp (rd pZ E)]
 rw[if_neg c9] at hb;by_cases c10:(nm s==("dict":Str))=true
 .rw[if_pos c10] at hb;injection hb with hb;subst hb
  have ef:nm s=("dict":Str):=by simpa using c10
  rw[ef] at hg hn ⊢;erw[up λpZ E=>(oE (X:=X.at_ pZ E) (HY hA) (i7 G hg) hn (by decide +kernel) (Ad (ha pZ E)) ⋯ ⋯ (sx pZ E) (sy pZ E)).imp (rd pZ E)]
 rw[if_neg c10] at hb;by_cases c11:(nm s==("max":Str))=true
 .rw[if_pos c11] at hb;injection hb with hb;subst hb
  have ef:nm s=("max":Str):=by simpa using c11
  rw[ef] at hg hn ⊢;erw[up λpZ E=>(nW (X:=X.at_ pZ E) (LV hcalm) (i7 G hg) hn (by decide +kernel) (Ad (ha pZ E)) ⋯ ⋯ (sx pZ E) (sy pZ E)).imp (rd pZ E)]
 rw[if_neg c11] at hb;cases hb
theorem E5(G:Good t T Γ k I X)(hg:I.gl ("min":Str)=true)(hg2:I.gl ("len":Str)=true)(hb:"min"∈T.kC)(hb2:"len"∈T.kC)(hc:X.calm=true)(h1:noStar a=true)(ha:∀pZ E,dI (X.at_ pZ E) a (tE (X.cc t) Γ x)):
  dI X (.Call (.Name ("min":Str) p) [a] [#[some "key",.Name ("len":Str) pl,kp]] pos) (tE (X.cc t) Γ (.blt .uU (.cons x .nil))):=by
 rwa[up λpZ E=>(EL (X:=X.at_ pZ E) hc (i7 G hg) (G.tab.kC "min" hb) (i7 G hg2) (G.tab.kC "len" hb2) (dn (ha pZ E)) (dg h1)).imp ?_]
 kd_p;z_go;have w1:PL.r6 .uU [u] S1 QU:=w1
 match u,w1 with
 |.loc n,w1=>
  let#[t0,ts,e,hz,w2]:=w1;let#[a,vs,e2,_,g1,g2]:=R1.lst e r1;rw[sd g2] at g1;exact#[a,t0,ts,e2,hU.of g1,hz,(q.later st1).now R1 w2 (bq.mpr rfl)]
end
open PL (U SO bD Xn KU KX b8)
section
variable{t:xi}{T:Tab}{Γ:b8}{k n:Nat}{I:Inf}{X:Cx}
noncomputable def Uj:PL.O0->String
 |.join=>"str"|.index=>"str"|.startswith=>"str"|.append=>"list"|.extend=>"list"|.mB=>"int"|_=>"dict"
theorem Ie(hb:b=.join\/b=.index\/b=.append\/b=.extend\/b=.startswith\/b=.ni)(R:cw c ρ H S)(r:Rep c ρ H u v)(w:PL.tG b u S):Wc c.K (Uj b) v H:=by
 rcases hb with rfl|rfl|rfl|rfl|rfl|rfl
 .cases u<;>first|exact aL w| (rw[bq.mp r];rfl)
 .cases u<;>first|exact aL w| (rw[bq.mp r];rfl)
 .cases u<;>first|exact aL w|skip
  let#[us,e,_]:=PL.cH.mp (show PL.getL _ _ from w);let#[a,vs,ev,_,h1,_]:=R.lst e r;rw[ev]
  erw[.inl #[rfl,vs,hU.of h1]]
 .cases u<;>first|exact aL w|skip
  let#[us,e,_]:=PL.cH.mp (show PL.getL _ _ from w);let#[a,vs,ev,_,h1,_]:=R.lst e r;rw[ev]
  erw[.inl #[rfl,vs,hU.of h1]]
 .cases u<;>first|exact aL w| (rw[bq.mp r];rfl)
 .cases u<;>first|exact aL w|skip
  rename_i n;let#[a,ev,ha]:=eD.mp r;have w:(match S[n]? with|some (.dU _)=>True|some (.tR _)=>True|some (.wV _)=>True|_=>False):=w;rw[ev]
  rwa[.inr (.inr (.inl #[rfl,?_]))];cases hs:S[n]? with
  |none=>rw[hs] at w;erw[w.elim]
  |some o=>
   rw[hs] at w;cases o with
   |dU kvs=>let#[vs,h1,_]:=R.at_ n a _ ha hs;erw[.inl #[vs,h1]]
   |tR kvs=>let#[vs,h1,_]:=R.at_ n a _ ha hs;erw[.inr (.inl #[vs,h1])]
   |wV kvs=>let#[vs,h1,_]:=R.at_ n a _ ha hs;erw[.inr (.inr #[vs,h1])]
   |_=>erw[w.elim]
theorem om(h:es.all noStar=true)(hn:es.length<20):((ic cpos (bI es env)).all (λx=>!x.1)&&(backToKw cpos (jG [] env)).all (λx=>x.1.isSome)
   && decide (es.length+([]:List nJ).length+(if ([]:List nJ).isEmpty then 0 else 1)<30))=true:=by
 have:=xm (pos:=cpos) (env:=env) h hn;unfold Bf at this;erw[this]
theorem PY(G:Good t T Γ k I X)(hb:Pk m=some b)(hA:X.A.handled=none)(h0:fN o=true)(hl:(apos.endLine==cpos.line)=true)(hn:(e::es).length<20)(h1:noStar e=true)(h2:es.all noStar=true)
  (ho:∀pZ E,dI (X.at_ pZ E) o (tE (X.cc t) Γ x)) (ha:∀pZ E,B7 (X.at_ pZ E) (e::es) (FX (X.cc t) Γ xs)):dI X (.Call (.Attribute o m apos) (e::es) [] cpos) (tE (X.cc t) Γ (.ju b x xs)):=by
 have hst:(e::es).all noStar=true:=by rw[bK,h1,h2];rfl
 have rd:∀(hb':b=.join\/b=.index\/b=.append\/b=.extend\/b=.startswith\/b=.ni)(E:St->XK)(σ:St)(H:Hp)(Q:VK),tE (X.cc t) Γ (.ju b x xs) (E σ) σ H Q->Y6 X.K (Uj b) (sV (X.cc t) b) (λσ H Q=>tE (X.cc t) Γ x (E σ) σ H Q) (λσ H Q=>FX (X.cc t) Γ xs (E σ) σ H Q) σ H Q:=by
  rintro hb' E σ H Q ⟨env,ρ,S,QU,EU,he,R,w,q,qx⟩;refine#[env,ρ,S,_,EU,he,R,w,λu S1 v H1 ρ1 w1 st1 R1 r1=>#[Ie (c:=X.cc t) hb' R1 r1 w1.1,?_],qx];exact#[env,ρ1,S1,_,EU,he.later R st1,R1,w1.2,λus S2 vs H2 ρ2 w2 st2 R2 r2=>#[u,us,ρ2,S2,QU,r1.mono R1 st2,r2,R2,w2,q.later (st1.trans st2)],qx.later st1]
 unfold Pk at hb;by_cases c1:(m==("join":Str))=true
 .rw[if_pos c1] at hb;injection hb with hb;subst hb
  have ef:m=("join":Str):=by simpa using c1
  subst ef;erw[up λpZ E=>(wN (X:=X.at_ pZ E) mj PySem.F.slot_str_join PySem.F.type_str_join (HZ rfl) (dn (ho pZ E)) (Ad (ha pZ E)) (fI h0) (om hst hn) hl (dg h1) (iA h2)).imp (rd (by simp) E)]
 rw[if_neg c1] at hb;by_cases c2:(m==("index":Str))=true
 .rw[if_pos c2] at hb;injection hb with hb;subst hb
  have ef:m=("index":Str):=by simpa using c2
  subst ef;erw[up λpZ E=>(wN (X:=X.at_ pZ E) mj PySem.F.slot_str_index PySem.F.type_str_index (E3 hA) (dn (ho pZ E)) (Ad (ha pZ E)) (fI h0) (om hst hn) hl (dg h1) (iA h2)).imp (rd (by simp) E)]
 rw[if_neg c2] at hb;by_cases c3:(m==("append":Str))=true
 .rw[if_pos c3] at hb;injection hb with hb;subst hb
  have ef:m=("append":Str):=by simpa using c3
  subst ef;erw[up λpZ E=>(wN (X:=X.at_ pZ E) wB PySem.F.slot_list_append PySem.F.type_list_append Cb (dn (ho pZ E)) (Ad (ha pZ E)) (fI h0) (om hst hn) hl (dg h1) (iA h2)).imp (rd (by simp) E)]
 rw[if_neg c3] at hb;by_cases c4:(m==("extend":Str))=true
 .rw[if_pos c4] at hb;injection hb with hb;subst hb
  have ef:m=("extend":Str):=by simpa using c4
  subst ef;erw[up λpZ E=>(wN (X:=X.at_ pZ E) wB PySem.F.slot_list_extend PySem.F.type_list_extend Cc (dn (ho pZ E)) (Ad (ha pZ E)) (fI h0) (om hst hn) hl (dg h1) (iA h2)).imp (rd (by simp) E)]
 rw[if_neg c4] at hb;by_cases c5:(m==("startswith":Str))=true
 .rw[if_pos c5] at hb;injection hb with hb;subst hb
  have ef:m=("startswith":Str):=by simpa using c5
  subst ef;erw[up λpZ E=>(wN (X:=X.at_ pZ E) mj PySem.F.slot_str_startswith PySem.F.type_str_startswith Ca (dn (ho pZ E)) (Ad (ha pZ E)) (fI h0) (om hst hn) hl (dg h1) (iA h2)).imp (rd (by simp) E)]
 rw[if_neg c5] at hb;by_cases c6:(m==("setdefault":Str))=true
 .rw[if_pos c6] at hb;injection hb with hb;subst hb
  have ef:m=("setdefault":Str):=by simpa using c6
  subst ef;erw[up λpZ E=>(wN (X:=X.at_ pZ E) iO tw PySem.F.type_dict_setdefault (H0 G.units) (dn (ho pZ E)) (Ad (ha pZ E)) (fI h0) (om hst hn) hl (dg h1) (iA h2)).imp (rd (by simp) E)]
 rw[if_neg c6] at hb;cases hb
theorem L1(G:Good t T Γ k I X)(h0:fN o=true)(hl:(apos.endLine==cpos.line)=true)(ho:∀pZ E,dI (X.at_ pZ E) o (tE (X.cc t) Γ x)):
  dI X (.Call (.Attribute o ("bit_length":Str) apos) [] [] cpos) (tE (X.cc t) Γ (.ju .mB x .nil)):=by
 rwa[up λpZ E=>(GQ (X:=X.at_ pZ E) PySem.F.plainAttrs_int PySem.F.slot_int_bit_length PySem.F.type_int_bit_length (B9 (c:=X.cc t)) (dn (ho pZ E)) (fI h0) hl).imp ?_]
 kd_p;refine#[env,ρ,S,_,EU,he,R,w,λu S1 v H1 ρ1 w1 st1 R1 r1=>#[?_,u,[],ρ1,S1,QU,r1,aZ.nil,R1,w1.2,q.later st1],qx];cases u<;>first|exact aL w1.1| (rw[aO.mp r1];rfl)
theorem PZ(G:Good t T Γ k I X)(h0:fN o=true)(hl:(apos.endLine==cpos.line)=true)(h1:noStar a=true)(h2:noStar d=true)(ho:∀pZ E,dI (X.at_ pZ E) o (tE (X.cc t) Γ x))
  (ha:∀pZ E,dI (X.at_ pZ E) a (tE (X.cc t) Γ y)) (hd:∀pZ E,dI (X.at_ pZ E) d (tE (X.cc t) Γ z)):dI X (.Call (.Attribute o ("get":Str) apos) [a,d] [] cpos) (tE (X.cc t) Γ (.ju .get x (.cons y (.cons z .nil)))):=by
 have hst:[a,d].all noStar=true:=by rw[bK,bK,h1,h2];rfl
 refine up λpZ E=>(G9 (X:=X.at_ pZ E) (by have:=G.units;show X.A.units+1<eI;omega) (dn (ho pZ E)) (dn (ha pZ E)) (dn (hd pZ E)) #[fI h0,om hst (show 2<20 by decide),hl,by
  rw[dg (e:=a) (es:=[d]) h1,dg (e:=d) (es:=[]) h2];rfl]).imp ?_
 kd_p;z_go;let#[w1,w2]:=w1;cases u<;>first|exact aL w1|skip
 rename_i n;let#[kvs,e,_]:=PL.iP.mp (show PL.iy _ _ from w1);let#[a1,vs,e1,ha1,g1,g2,g3,g4]:=R1.dd e r1;refine#[a1,e1,.inl #[vs,g1],env,ρ1,S1,_,EU,he.later R st1,R1,w2,λu2 S2 v2 H2 ρ2 w3 st2 R2 r2=>?_,qx.later st1];refine#[env,ρ2,S2,_,EU,(he.later R st1).later R1 st2,R2,w3,λu3 S3 v3 H3 ρ3 w4 st3 R3 r3=>?_,(qx.later st1).later st2];have r2':=r2.mono R2 st3;cases u2<;>first|exact aL w4|skip
 rename_i k;let#[kvs',e',ps,ep,w5]:=PL.zY.mp (show PL.getD _ _ from w4);let#[vs',f1,f2,f3,f4]:=R3.at_ n a1 _ (st3.get (st2.get ha1)) e';subst ep;have g:=rS.k (k:=iW (some (tx k))) f1;rw[bq.mp r2']
 rcases LW (k:=k) f2 f3 f4 with⟨l1,l2⟩|⟨u',v',l1,l2,l3⟩
 .rw[l2] at g
  rw[l1] at w5;exact#[none,g,(q.later ((st1.trans st2).trans st3)).now R3 w5 r3]
 .rw[l2] at g
  rw[l1] at w5;exact#[some v',g,(q.later ((st1.trans st2).trans st3)).now R3 w5 l3]
theorem L3(G:Good t T Γ k I X)(h0:fN o=true)(hl:(apos.endLine==cpos.line)=true)(h1:noStar a=true)(ho:∀pZ E,dI (X.at_ pZ E) o (tE (X.cc t) Γ x))
  (ha:∀pZ E,dI (X.at_ pZ E) a (tE (X.cc t) Γ y)):dI X (.Call (.Attribute o ("get":Str) apos) [a] [] cpos) (tE (X.cc t) Γ (.ju .get x (.cons y .nil))):=by
 have hst:[a].all noStar=true:=by rw[bK,h1];rfl
 refine up λpZ E=>(G8 (X:=X.at_ pZ E) (by have:=G.units;show X.A.units+1<eI;omega) (dn (ho pZ E)) (dn (ha pZ E)) #[fI h0,om hst (show 1<20 by decide),hl,by
  rw[dg (e:=a) (es:=[]) h1];rfl]).imp ?_
 kd_p;z_go;let#[w1,w2]:=w1;cases u<;>first|exact aL w1|skip
 rename_i n;let#[kvs,e,_]:=PL.iP.mp (show PL.iy _ _ from w1);let#[a1,vs,e1,ha1,g1,g2,g3,g4]:=R1.dd e r1;refine#[a1,e1,.inl #[vs,g1],env,ρ1,S1,_,EU,he.later R st1,R1,w2,λu2 S2 v2 H2 ρ2 w3 st2 R2 r2=>?_,qx.later st1];have r1':=r1.mono R1 st2;have w3:PL.qJ .get (.loc n) [u2] S2 QU:=w3;have w3:PL.iy S2[n]? λkvs=>PL.mD u2=true/\QU ((PL.tU u2 kvs).getD .bQ) S2:=by cases u2<;>exact w3
 let#[kvs',e',hk,w5]:=PL.iP.mp w3;let#[a2,vs',e2,_,f1,f2,f3,f4]:=R2.dd e' r1';rw[e1] at e2;cases e2;have g:rS H2 a1 v2 (jd vs' (vb u2)):=.inl #[vs',vb u2,f1,jS hk r2,rfl];rcases qU hk f2 f3 f4 with⟨l1,l2⟩|⟨u',v',l1,l2,l3⟩
 .rw[l2] at g
  rw[l1] at w5;exact#[none,g,(q.later (st1.trans st2)).now R2 w5 (eM.mpr rfl)]
 .rw[l2] at g
  rw[l1] at w5;exact#[some v',g,(q.later (st1.trans st2)).now R2 w5 l3]
theorem P0(G:Good t T Γ k I X)(hs:kD b=true)(ha:∀pZ E,dI (X.at_ pZ E) a (tE (X.cc t) Γ x))(hb:∀pZ E,dI (X.at_ pZ E) b (tE (X.cc t) Γ y)):dI X (.Subscript a b pos) (tE (X.cc t) Γ (.FV x y)):=by
 refine up λpZ E=>(K4 (X:=X.at_ pZ E) (by have:=G.units;show X.A.units+1<eI;omega) (dn (ha pZ E)) (dn (hb pZ E)) (by cases b<;>first|exact ff hs| (intro _ _;rfl))).imp ?_
 kd_p;z_go;refine#[env,ρ1,S1,_,EU,he.later R st1,R1,w1,λu2 S2 v2 H2 ρ2 w2 st2 R2 r2=>?_,qx.later st1];let#[n,rfl,w2]:=PL.gO.mp (show PL.rZ _ _ from w2);let#[kvs,e,hk,w3]:=PL.iP.mp w2;let#[u',l1,w4]:=PL.iC.mp w3;let#[a1,vs,e1,ha1,g1,g2,g3,g4]:=R2.dd e (r1.mono R1 st2);rcases qU hk g2 g3 g4 with⟨z1,_⟩|⟨u3,v',z1,l2,l3⟩
 .rw[l1] at z1;cases z1
 .rw[l1] at z1;cases z1
  exact#[a1,v',e1,.inl #[vs,vb u2,g1,jS hk r2,l2.symm],(q.later (st1.trans st2)).now R2 w4 l3]
theorem L4:dI X (.Dict [] [] pos) (tE (X.cc t) Γ (.dU .nil .nil)):=by
 rwa[up λpZ E=>(Lr (X:=X.at_ pZ E)).imp ?_]
 kd_p;have w:QU (.loc S.length) (S++[.dU []])\/QU (.loc S.length) (S++[.tR []])\/QU (.loc S.length) (S++[.wV []]):=w.2;have al:∀{ho:HO}{o:SO},QU (.loc S.length) (S++[o])->(∀p,tK (X.cc t) (ρ++[p]) (upd H p ho) p o)->∀p,H p=none->Q (.ref p) (upd H p ho):=λw z p hp=>by
  rwa[q _ _ _ _ _ w (gI.alloc R hp _) (R.alloc hp (z p)) (eD.mpr #[p,rfl,?_])];rw[<-R.len,ax (au _),bO];rfl
 rcases w with w|w|w
 .exact#[.dK [],.inl rfl,al w λp=>#[[],bR,rfl,aZ.nil,aZ.nil]]
 .exact#[.dT [],.inr (.inl rfl),al w λp=>#[[],bR,rfl,aZ.nil]]
 .exact#[.dP [],.inr (.inr rfl),al w λp=>#[[],bR,rfl,aZ.nil]]
theorem L5(G:Good t T Γ k I X)(hg:I.gl ("list":Str)=true)(hb:"list"∈T.kC)(hc:X.calm=true)(h0:fN o=true)(hl:(ap.endLine==cp.line)=true)(ho:∀pZ E,dI (X.at_ pZ E) o (tE (X.cc t) Γ x)):
  dI X (.Call (.Name ("list":Str) p) [.Call (.Attribute o ("values":Str) ap) [] [] cp] [] pos) (tE (X.cc t) Γ (.ju .vals x .nil)):=by
 refine up λpZ E=>(oE (X:=X.at_ pZ E) (B1 hc) (i7 G hg) (G.tab.kC "list" hb) (by decide +kernel)
  (qB (GQ (X:=X.at_ pZ E) iO vR PySem.F.type_dict_values EX (dn (ho pZ E)) (fI h0) hl) uF (dg rfl)) ⋯ ⋯ (dg rfl) rfl).imp ?_
 kd_p;z_go;let#[w1,w2]:=w1;cases u<;>first|exact aL w1|skip
 rename_i n;let#[a,ev,ha]:=eD.mp r1;have w2:PL.qJ .vals (.loc n) [] S1 QU:=w2;have w2:(match S1[n]? with|some (.tR kvs)=>QU (.loc S1.length) (S1++[.lst (kvs.map (·.2))])|_=>False):=w2;cases hs:S1[n]? with
 |none=>rw[hs] at w2;erw[w2.elim]
 |some o=>
  rw[hs] at w2;cases o with
  |tR kvs=>
   let#[vs,g1,g2,g3]:=R1.at_ n a _ ha hs;refine#[by rw[ev];erw[.inr (.inr (.inl #[rfl,.inr (.inl #[vs,g1])]))],a,vs,ev,rfl,g1,λp hp=>?_];have st2:=gI.lay R1 hp (TC p a);exact#[p,a,vs,rfl,bR,by rw[bX (dA g1 hp)];erw[g1],λl hl=>(q.later (st1.trans st2)).EZ (R1.lay hp _) (g3.mono R1 st2) w2 hl]
  |_=>erw[w2.elim]
theorem L6(G:Good t T Γ k I X)(hg:I.gl (nm q)=true)(hc:I.calm=true)(hq:q∈T.fns)(hd:(nm q==("__debug__":Str))=false)(h1:noStar e=true)(h2:es.all noStar=true)
  (ha:B7 X (e::es) (FX (X.cc t) Γ xs)):dI X (.Call (.Name (nm q) p) (e::es) [] pos) (tE (X.cc t) Γ (.call q xs)):=by
 let#[f,hm,hk,fd,ps,F,B]:=G.LY.fns q hq;refine(YF (k:=k) F ((G.calm hc).2.mono (ke k)) (i7 G hg) hm hk B ha hd h1 h2).imp ?_;rintro E σ H Q ⟨env,ρ,S,QU,EU,he,R,w,qq,qx⟩;refine#[env,ρ,S,_,EU,he,R,w,λus S1 vs H1 ρ1 w1 st1 R1 r1=>?_,qx];exact#[us,ρ1,S1,QU,EU,r1,R1,w1,qq.later st1,qx.later st1]
theorem Ig(G:Good t T Γ k I X)(hg:I.gl (nm q)=true)(hc:I.calm=true)(hq:q∈T.fns)(hd:(nm q==("__debug__":Str))=false):dI X (.Call (.Name (nm q) p) [] [] pos) (tE (X.cc t) Γ (.call q .nil)):=by
 let#[f,hm,hk,fd,ps,F,B]:=G.LY.fns q hq;refine(Ub (k:=k) F ((G.calm hc).2.mono (ke k)) (i7 G hg) hm hk B hd).imp ?_;rintro E σ H Q ⟨env,ρ,S,QU,EU,he,R,w,qq,qx⟩;exact#[[],ρ,S,QU,EU,aZ.nil,R,w,qq,qx]
theorem Ah(R:cw c ρ H S)(hc:c.cls cn=some C)(hx:H x=none)(hd:H dx=none)(ne:dx≠x):
  gI ρ H (ρ++[x]) (upd (upd H dx (.own x)) x (.ins C dx []))/\cw c (ρ++[x]) (upd (upd H dx (.own x)) x (.ins C dx [])) (S++[.ins cn []])/\Rep c (ρ++[x]) (upd (upd H dx (.own x)) x (.ins C dx [])) (.loc S.length) (.ref x):=by
 have R1:=R.lay hd (.own x);have s1:=gI.lay R hd (.own x);have hx1:upd H dx (.own x) x=none:=by rw[bX (bZ ne)];erw[hx]
 have s2:=gI.alloc R1 hx1 (.ins C dx []);refine#[s1.trans s2,R1.alloc hx1 #[C,dx,[],hc,bR,rfl,aZ.nil],eD.mpr #[x,rfl,?_]];rw[<-R.len,ax (au _),bO];rfl
theorem Uk(G:Good t T Γ k I X)(hg:I.gl (nm q)=true)(hc:I.calm=true)(hq:q∈T.pU)(hd:(nm q==("__debug__":Str))=false)(h1:noStar e=true)(h2:es.all noStar=true)
  (ha:B7 X (e::es) (FX (X.cc t) Γ xs)):dI X (.Call (.Name (nm q) p) (e::es) [] pos) (tE (X.cc t) Γ (.mk q (q++".__init__") xs)):=by
 let#[C,f,hC,hm,M,fd,ps,F,B]:=G.LY.cls q hq;refine(YH (k:=k) M F (G.calm hc).2 (i7 G hg) hm B ha hd h1 h2).imp ?_;rintro E σ H Q ⟨env,ρ,S,QU,EU,he,R,w,qq,qx⟩;refine#[env,ρ,S,_,EU,he,R,w,λus S1 vs H1 ρ1 w1 st1 R1 r1=>?_,qx];intro x dx hx hdx ne;let#[s2,R2,r2]:=Ah R1 hC hx hdx ne;refine#[_,ρ1++[x],_,_,EU,aZ.cons r2 (r1.mono R1 s2),R2,w1,λu S3 v H3 ρ3 w3 st3 R3 r3=>?_,qx.later (st1.trans s2)];let#[rfl,w4]:=w3;exact#[eM.mp r3,qq _ _ _ _ _ w4 ((st1.trans s2).trans st3) R3 (r2.mono R2 st3)]
theorem P1(G:Good t T Γ k I X)(hg:I.gl (nm q)=true)(hc:I.calm=true)(hq:q∈T.pU)(hd:(nm q==("__debug__":Str))=false):dI X (.Call (.Name (nm q) p) [] [] pos) (tE (X.cc t) Γ (.mk q (q++".__init__") .nil)):=by
 let#[C,f,hC,hm,M,fd,ps,F,B]:=G.LY.cls q hq;refine(Ud (k:=k) M F (G.calm hc).2 (i7 G hg) hm B hd).imp ?_;rintro E σ H Q ⟨env,ρ,S,QU,EU,he,R,w,qq,qx⟩;intro x dx hx hdx ne;let#[s2,R2,r2]:=Ah R hC hx hdx ne;refine#[_,ρ++[x],_,_,EU,aZ.cons r2 aZ.nil,R2,w,λu S3 v H3 ρ3 w3 st3 R3 r3=>?_,qx.later s2];let#[rfl,w4]:=w3;exact#[eM.mp r3,qq _ _ _ _ _ w4 (s2.trans st3) R3 (r2.mono R2 st3)]
theorem lookup_none:∀{fs:List (String×U)}{vs:List (Str×V)}{m:String},vs.map (·.1)=(fs.map (·.1)).map nm->fs.lookup m=none->vs.lookup (nm m)=none
 |[],[],_,_,_=>rfl
 |[],_::_,_,e,_=>by simp at e
 |_::_,[],_,e,_=>by simp at e
 | (g,w)::fs,(a,v)::vs,m,e,h=>by
  dsimp[az,dG] at e;rw[aN] at h ⊢;by_cases z:m=g
  .subst z;simp at h
  .have z1:(m==g)=false:=by simp[z]
   rw[z1] at h;have z2:(nm m==a)=false:=by
    rw[e.1]
    dsimp[beq_eq_false_iff_ne,ne_eq];erw[λq=>z (ve _ _ q)]
   rw[z2]
   erw[lookup_none e.2 h]
theorem L7(G:Good t T Γ k I X)(hc:I.calm=true)(hq:(m,q)∈T.pV)(h0:fN o=true)(hl:(apos.endLine==pos.line)=true)(hn:(e::es).length<20)(h1:noStar e=true)(h2:es.all noStar=true)
  (ho:dI X o (tE (X.cc t) Γ x)) (ha:B7 X (e::es) (FX (X.cc t) Γ xs)):dI X (.Call (.Attribute o (nm m) apos) (e::es) [] pos) (tE (X.cc t) Γ (.cF q m (q++"."++m) x xs)):=by
 let#[C,f,hC,M,fd,ps,F,B]:=G.LY.RT (m,q) hq;refine(YG (k:=k) ho (G.tab.cls q C hC).1 M F ((G.calm hc).2.mono (ke k)) B ha h0 hn hl h1 h2).imp ?_;rintro E σ H Q ⟨env,ρ,S,QU,EU,he,R,w,qq,qx⟩;z_go;let#[l,e1,w2]:=PL.gO.mp w1;subst e1;let#[c',fs,e2,#[rfl,e3],w3]:=PL.lW.mp w2;let#[a,C',dx,vs,ev,_,hC',ha',hnn,_]:=R1.ins e2 r1;rw[hC] at hC';injection hC' with hC';subst hC'
 refine#[a,dx,vs,ev,ha',lookup_none hnn e3,?_];refine#[env,ρ1,S1,_,EU,he.later R st1,R1,w3,λus S2 vs2 H2 ρ2 w4 st2 R2 r2=>?_,qx.later st1];exact#[_,ρ2,S2,QU,EU,aZ.cons (r1.mono R1 st2) r2,R2,w4,qq.later (st1.trans st2),qx.later (st1.trans st2)]
theorem Ih(G:Good t T Γ k I X)(hc:I.calm=true)(hq:(m,q)∈T.pV)(h0:fN o=true)(hl:(apos.endLine==pos.line)=true)
  (ho:dI X o (tE (X.cc t) Γ x)):dI X (.Call (.Attribute o (nm m) apos) [] [] pos) (tE (X.cc t) Γ (.cF q m (q++"."++m) x .nil)):=by
 let#[C,f,hC,M,fd,ps,F,B]:=G.LY.RT (m,q) hq;refine(Uc (k:=k) ho (G.tab.cls q C hC).1 M F ((G.calm hc).2.mono (ke k)) B h0 hl).imp ?_;rintro E σ H Q ⟨env,ρ,S,QU,EU,he,R,w,qq,qx⟩;z_go;let#[l,e1,w2]:=PL.gO.mp w1;subst e1;let#[c',fs,e2,#[rfl,e3],w3]:=PL.lW.mp w2;let#[a,C',dx,vs,ev,_,hC',ha',hnn,_]:=R1.ins e2 r1;rw[hC] at hC';injection hC' with hC';subst hC'
 refine#[a,dx,vs,ev,ha',lookup_none hnn e3,?_];exact#[_,ρ1,S1,QU,EU,aZ.cons r1 aZ.nil,R1,w3,qq.later st1,qx.later st1]
end
open PL (U SO bD Xn KU KX b8)
theorem P2(hl:PE X l tl):PI X tg l (λσ H R=>tl σ H λx H1=>(∃a,x=.ref a/\(∃xs,hU X.K H1 a xs)/\R (W3 X.K a) H1)\/(∃a,x=.ref a/\(∃xs,lQ X.K H1 a xs)/\R (W4 X.K a) H1)\/∃z,x=.str z/\R (Tp z) H1):=by
 intro pZ s σ H R I h;rwa[d6 (hl pZ s σ H _ I h) λv s1 h9=>?_]
 let#[x,H1,I1,r1,q1]:=h9;rcases q1 with⟨a,e,⟨xs,hq⟩,q⟩|⟨a,e,⟨xs,hq⟩,q⟩|⟨z,e,q⟩
 .subst e
  cases r1;let#[its,rv,p,hz]:=I1.list hq;rwa[jX p.isList ?_];refine#[s1.heap.objs.size,[s1.heap.objs.size],_,_,H1,rfl,I1.kept (t':=s1.toks) λb o e=>aE _ e,Em a _,#[_,aU _ rfl,rfl,rfl],λb hb=>?_,q];have e:b=s1.heap.objs.size:=by simpa using hb
  subst e;erw[I1.zG (au _) (I1.dq.fresh (au _))]
 .subst e
  cases r1;let#[its,rv,p,hz]:=I1.tuple hq;rwa[wpAny_pyIter_tuple (show s1.heap.IsTuple a its.toArray from p) ?_];refine#[s1.heap.objs.size,[s1.heap.objs.size],_,_,H1,rfl,I1.kept (t':=s1.toks) λb o e=>aE _ e,Bq a _,#[_,aU _ rfl,rfl,rfl],λb hb=>?_,q];have e:b=s1.heap.objs.size:=by simpa using hb
  subst e;erw[I1.zG (au _) (I1.dq.fresh (au _))]
 .subst e
  let#[t,rfl]:=r1;have fin:∀(b:Bool)(o:Obj),o={cls:=.type (if b then "str_ascii_iterator" else "str_iterator"),data:=.fields (List.toArray [.str z t,.int 0 0])}->W2 X pZ σ tg R (.ref s1.heap.objs.size) {s1 with heap:=s1.heap.push o}:=λb o eo=>by
   refine#[s1.heap.objs.size,[s1.heap.objs.size],_,Tp z,H1,rfl,I1.kept (t':=s1.toks) λb o e=>aE _ e,Hf _ z t b,#[_,aU _ (by rw[eo];rfl),by rw[eo],by rw[eo];rfl],λc hc=>?_,q];have e:c=s1.heap.objs.size:=by simpa using hc
   subst e;erw[I1.zG (au _) (I1.dq.fresh (au _))]
  cases ha:z.cps.all (·<128)
  .erw[wpAny_pyIter_wide ha (fin false _ rfl)]
  .erw[wpAny_pyIter_ascii ha (fin true _ rfl)]
section
variable{c:Ctx}{ρ:List Addr}{H:Hp}{S:bD}
theorem L8{n:Nat}{us:List U}{a:Addr}(ha:ρ[n]?=some a):Af c ρ H (W3 c.K a) us (λS'=>S'[n]?=some (.lst us)):=by
 intro i ρ2 H2 S2 st R g;let#[vs,h1,h2]:=R.at_ n a _ (st.get ha) g;refine#[λu hu=>?_,λhl=>#[vs,hU.of h1,by rw[<-h2.len];erw[hl]]];let#[v,e,r]:=h2.get hu;refine#[#[vs,v,hU.of h1,e],λy H3 h9=>?_];let#[e3,hy]:=h9;subst e3;have:=hy vs (hU.of h1);rw[e] at this;injection this with this;subst this
 exact#[.refl,R,r]
theorem P4(R0:cw c ρ H S)(h1:H a=some (.tup vs))(h2:aZ c ρ H us vs):Af c ρ H (W4 c.K a) us (λ_=>True):=by
 intro i ρ2 H2 S2 st R g;have h1':=st.fr a _ h1 (R0.not h1 rfl);have h2':=h2.mono R0 st;refine#[λu hu=>?_,λhl=>#[vs,lQ.of h1',by rw[<-h2'.len];erw[hl]]];let#[v,e,r]:=h2'.get hu;refine#[#[vs,v,lQ.of h1',e],λy H3 h9=>?_];let#[e3,hy]:=h9;subst e3;have:=hy vs (lQ.of h1');rw[e] at this;injection this with this;subst this
 exact#[.refl,R,r]
theorem P5:Af c ρ H (Tp (tx l)) (l.map λd=>.str [d]) (λ_=>True):=by
 intro i ρ2 H2 S2 st R g;refine#[λu hu=>?_,λhl=>?_]
 .rw[aD] at hu
  let#[d,e,e2]:=ar.mp hu;subst e2;refine#[?_,λy H3 #[e3,d',e4,e5]=>?_]
  .show i<(tx l).cps.size
   have:=(af.mp e).1;simpa using this
  .subst e3
   have:l[i]?=some d':=by simpa using e4
   rw[e] at this;injection this with this;subst this
   rw[e5]
   exact#[.refl,R,bq.mpr rfl]
 .show(tx l).cps.size<=i
  simpa using hl
theorem L9{n:Nat}{us:List U}{a:Addr}(ha:ρ[n]?=some a):Af c ρ H (Wi c.K a) (us.mapIdx λi u=>.tup [.int (i:Nat),u]) (λS'=>S'[n]?=some (.lst us)):=by
 intro i ρ2 H2 S2 st R g;let#[vs,h1,h2]:=R.at_ n a _ (st.get ha) g;refine#[λu hu=>?_,λhl=>#[vs,hU.of h1,by rw[<-h2.len];simpa using hl]];rw[eY] at hu;let#[u',e0,e1]:=ar.mp hu;subst e1;let#[v,e,r]:=h2.get e0;refine#[#[vs,v,hU.of h1,e],λy H3 h9=>?_];let#[p,x,hp,e3,e4,hy]:=h9;have:=hy vs (hU.of h1);rw[e] at this;injection this with this;subst this
 subst e3 e4;have st':=gI.lay R hp (.tup [.int (i:Nat),v]);exact#[st',R.lay hp _,dJ.mpr #[p,_,rfl,bR,aZ.cons (aO.mpr rfl) (aZ.cons (r.mono R st') aZ.nil)]]
theorem Dm{n:Nat}{a:Addr}{o:Obj}{kvs:List (U×U)}{vs:List (Key×V)}(ha:ρ[n]?=some a)(h:H a=some (.rJ o (.dK vs))):Af c ρ H (RI a o vs) (kvs.map (·.1)) (λS'=>S'[n]?=some (.pR kvs)):=by
 intro i ρ2 H2 S2 st R g;have e:=st.fz a o vs h;let#[o',vs',h1,h2,h3,_]:=R.at_ n a _ (st.get ha) g;rw[e] at h1;cases h1;refine#[λu hu=>?_,λhl=>#[e,by rw[h2];simpa using hl]];have hi:i<vs.length:=by rw[h2];have:=(af.mp hu).1;simpa using this
 refine#[#[e,hi],λy H3 h9=>?_];let#[e3,k,v,e4,e5]:=h9;subst e3 e5;let#[v2,e6,r]:=h3.get hu;rw[aD,e4] at e6;cases e6;exact#[.refl,R,r]
theorem P6{n:Nat}{us:List U}{a:Addr}(ha:ρ[n]?=some a):Af c ρ H (Xx c.K a us.length) us.reverse (λS'=>S'[n]?=some (.lst us)):=by
 intro i ρ2 H2 S2 st R g;let#[vs,h1,h2]:=R.at_ n a _ (st.get ha) g;refine#[λu hu=>?_,λhl=>by show us.length<=i;simpa using hl];have hi:i<us.length:=by have:=(af.mp hu).1;simpa using this
 rw[Bg hi] at hu;let#[v,e,r]:=h2.get hu;refine#[#[vs,v,hU.of h1,hi,e],λy H3 h9=>?_];let#[e3,hy]:=h9;have:=hy vs (hU.of h1);rw[e] at this;injection this with this;subst this;subst e3
 exact#[.refl,R,r]
theorem Ii:Af c ρ H (V9 0 n) ((cq n).map λk=>.int (k:Nat)) (λ_=>True):=by
 intro i ρ2 H2 S2 st R g;refine#[λu hu=>?_,λhl=>?_]
 .rw[aD] at hu
  let#[d,e,e2]:=ar.mp hu;subst e2;have hi:=(af.mp e).1;rw[sH] at hi;rw[iB hi] at e;injection e with e;subst e
  refine#[hi,λy H3 h9=>?_];let#[e3,e4]:=h9;subst e3;subst e4;exact#[.refl,R,aO.mpr (by simp)]
 .show n<=i
  simpa using hl
end
section
variable{t:xi}{T:Tab}{Γ:b8}{k n:Nat}{I:Inf}{X:Cx}
theorem P7{e tg:Expr}{x:PL.Ex}(h:∀pZ E,dI (X.at_ pZ E) e (tE (X.cc t) Γ x))(pZ:List (Addr×Obj))(E:St->XK):PI (X.at_ pZ E) tg e (λσ H R=>xj (X.cc t) Γ (.val x) (E σ) σ H R):=by
 rwa[λpins' s σ H Q J z=>P2 (X:=X.at_ pZ E) (dn (h pZ E)) pins' s σ H Q J ?_]
 let#[env,ρ,S,RU,EU,he,R,w,q,qx]:=z;z_go;cases u with
 |str l=>rw[bq.mp r1];erw[.inr (.inr #[_,rfl,q _ _ _ _ _ _ w1 st1 R1 P5])]
 |tup us=>
  let#[a,vs,e1,h1,h2]:=dJ.mp r1;erw[.inr (.inl #[a,e1,#[vs,lQ.of h1],q _ _ _ _ _ _ w1.2 st1 R1 (P4 R1 h1 h2)])]
 |loc m=>
  let#[us,e0,w2]:=PL.cH.mp (show PL.getL _ _ from w1);let#[a,vs,e1,ha,h1,h2]:=R1.lst e0 r1;erw[.inl #[a,e1,#[vs,hU.of h1],q _ _ _ _ _ _ w2 st1 R1 (L8 ha)]]
 |_=>erw[aL w1]
theorem Ma{e tg:Expr}{x:PL.Ex}(h:∀pZ E,dI (X.at_ pZ E) e (tE (X.cc t) Γ x))(pZ:List (Addr×Obj))(E:St->XK):PI (X.at_ pZ E) tg e (λσ H R=>xj (X.cc t) Γ (.keys x) (E σ) σ H R):=by
 rwa[λpins' s σ H Q J z=>K9 (X:=X.at_ pZ E) (dn (h pZ E)) pins' s σ H Q J ?_]
 let#[env,ρ,S,RU,EU,he,R,w,q,qx]:=z;z_go;let#[n,rfl,w1]:=PL.gO.mp (show PL.rZ _ _ from w1);let#[kvs,e,w2]:=PL.iP.mp w1;let#[a,ev,ha]:=eD.mp r1;rcases e with e|e
 .let#[vs,g1,g2,g3,g4]:=R1.at_ n a _ ha e
  refine#[a,vs,ev,.inl #[g1,λo=>?_]];have st2:=gI.put (H:=H1) (ak ha) g1 rfl (.rJ o (.dK vs));erw[q _ _ _ _ _ _ w2 (st1.trans st2) (R1.put ha g1 rfl #[o,vs,bR,g2,g3.mono R1 st2,g4.mono R1 st2]) (Dm ha bR)]
 .let#[o,vs,g1,g2,g3,g4]:=R1.at_ n a _ ha e
  have es:S1.set n (.pR kvs)=S1:=by
   let#[hl,e2]:=af.mp e;rw[<-e2];erw[List.set_getElem_self hl]
  rw[es] at w2;exact#[a,vs,ev,.inr #[o,g1,q _ _ _ _ _ _ w2 st1 R1 (Dm ha g1)]]
theorem Ij(G:Good t T Γ k I X)(hg:I.gl ("range":Str)=true)(hb:"range"∈T.kC)(h1:noStar a=true)(h:∀pZ E,dI (X.at_ pZ E) a (tE (X.cc t) Γ x))(pZ:List (Addr×Obj))(E:St->XK):
  PI (X.at_ pZ E) tg (.Call (.Name ("range":Str) p) [a] [] pos) (λσ H R=>xj (X.cc t) Γ (.range x) (E σ) σ H R):=by
 rwa[λpins' s σ H Q J z=>Eo (X:=X.at_ pZ E) (i7 G hg) (G.tab.kC "range" hb) (qB (dn (h pZ E)) uF (dg h1)) (dg h1) pins' s σ H Q J ?_]
 let#[env,ρ,S,RU,EU,he,R,w,q,qx]:=z;z_go;let#[j,e,w2,w3,w4]:=PL.eL.mp w1;subst e;exact#[j,by rw[aO.mp r1],∅,∅,q _ _ _ _ _ _ w4 st1 R1 Ii]
theorem P8{a tg:Expr}{x:PL.Ex}{p pos:Pos}(G:Good t T Γ k I X)(hg:I.gl ("reversed":Str)=true)(hb:"reversed"∈T.kC)(h1:noStar a=true)(h:∀pZ E,dI (X.at_ pZ E) a (tE (X.cc t) Γ x))(pZ:List (Addr×Obj))(E:St->XK):
  PI (X.at_ pZ E) tg (.Call (.Name ("reversed":Str) p) [a] [] pos) (λσ H R=>xj (X.cc t) Γ (.rev x) (E σ) σ H R):=by
 rwa[λpins' s σ H Q J z=>O4 (X:=X.at_ pZ E) (i7 G hg) (G.tab.kC "reversed" hb) (qB (dn (h pZ E)) uF (dg h1)) (dg h1) pins' s σ H Q J ?_]
 let#[env,ρ,S,RU,EU,he,R,w,q,qx]:=z;z_go;let#[m,e,w2]:=PL.gO.mp w1;subst e;let#[us,e0,w3]:=PL.cH.mp w2;let#[b,vs,e1,hb,g1,g2]:=R1.lst e0 r1;subst e1;exact#[b,vs,rfl,hU.of g1,by rw[<-g2.len];erw[q _ _ _ _ _ _ w3 st1 R1 (P6 hb)]]
theorem YI{n:Nat}{e:Expr}{x:PL.It}{es:List Expr}{ek:Nat}{tp:Pos}(IH:E4 t T Γ k n)(G:Good t T Γ k I X)(h:cN T (n+1) I e=some x)(pZ:List (Addr×Obj))(E:St->XK):PI (X.at_ pZ E) (.Tuple es ek tp) e (λσ H R=>xj (X.cc t) Γ x (E σ) σ H R):=by
 rw[Yt] at h;delta stN at h;split at h
 .rename_i f a hr
  let#[p,cp,rfl]:=Nv hr;split at h
  .rename_i hc
   dsimp[ao] at hc;let#[#[#[c1,c2],c3],c4]:=hc;have ef:f=("enumerate":Str):=by simpa using c1
   subst ef;let#[y,h1,h2]:=ar.mp h;subst h2;refine λpins' s σ H Q J z=>Lp (X:=X.at_ pZ E) (i7 G c2) (G.tab.kC "enumerate" (by simpa using c3)) (qB (dn (IH.fe G.at_ h1)) uF (dg c4)) (dg c4) pins' s σ H Q J ?_
   let#[env,ρ,S,RU,EU,he,R,w,q,qx]:=z;z_go;let#[m,e,w2]:=PL.gO.mp w1;subst e;let#[us,e0,w3]:=PL.cH.mp w2;let#[b,vs,e1,hb,g1,g2]:=R1.lst e0 r1;subst e1;exact#[b,rfl,#[vs,hU.of g1],q _ _ _ _ _ _ w3 st1 R1 (L9 hb)]
  .erw[nn h]
 .erw[nn h]
theorem Dn:∀{n:Nat}{I:Inf}{e:Expr}{x:PL.Ex},cE T n I e=some x->noStar e=true:=by
 intro n I e x h;cases n with
 |zero=>erw[nn h]
 |succ n=>
  cases e<;>first|rfl|exact nn h
theorem Ul(IH:E4 t T Γ k n)(G:Good t T Γ k I X)(h:cI T (n+1) I e=some x)(pZ:List (Addr×Obj))(E:St->XK):PI (X.at_ pZ E) tg e (λσ H R=>xj (X.cc t) Γ x (E σ) σ H R):=by
 have gen:∀{x:PL.It},(cE T n I e).map PL.It.val=some x->PI (X.at_ pZ E) tg e (λσ H R=>xj (X.cc t) Γ x (E σ) σ H R):=λh=>by
  let#[y,h1,h2]:=ar.mp h;subst h2;erw[P7 (λpZ E=>IH.fe G.at_ h1) pZ E]
 rw[Yr] at h;delta stI at h;split at h
 .rename_i f a hr
  let#[p,cp,rfl]:=Nv hr;split at h
  .rename_i hf
   split at h
   .rename_i hc
    rw[ao] at hc;let#[y,h1,h2]:=ar.mp h;subst h2;have ef:f=("range":Str):=by simpa using hf
    subst ef;exact Ij G hc.1 (by simpa using hc.2) (Dn h1) (λpZ E=>IH.fe G.at_ h1) pZ E
   .erw[nn h]
  .split at h
   .rename_i hf
    split at h
    .rename_i hc
     rw[ao] at hc;let#[y,h1,h2]:=ar.mp h;subst h2;have ef:f=("reversed":Str):=by simpa using hf
     subst ef;exact P8 G hc.1 (by simpa using hc.2) (Dn h1) (λpZ E=>IH.fe G.at_ h1) pZ E
    .erw[nn h]
   .erw[gen h]
 .split at h
  .let#[y,h1,h2]:=ar.mp h
   subst h2;erw[Ma (λpZ E=>IH.fe G.at_ h1) pZ E]
  .erw[gen h]
end
open PL (U SO bD Xn KU KX b8)
section
variable{c:Ctx}{ρ ρ2:List Addr}{H H2:Hp}{S:bD}
theorem gI.Um(a:gI ρ H ρ2 H2)(h:H D=none):gI ρ H (ρ2++[D]) H2:=by
 let#[m,e]:=a.pre;refine#[#[m++[D],by rw[e,bj]],λb hb nb=>?_,a.fr,a.fz];rcases aR.mp hb with z|z
 .erw[a.new b z nb]
 .rw[b7.mp z];erw[h]
theorem gI.Ac(a:gI ρ H ρ2 H2)(h:H D=none)(o:HO):gI ρ H ρ2 (upd H2 D o):=
 #[a.pre,a.new,λb o' h1 h2=>by rw[bX (dA h1 h)];erw[a.fr b o' h1 h2],λb o' vs h1=>by rw[bX (dA h1 h)];erw[a.fz b o' vs h1]]
theorem gI.out(a:gI ρ H ρ2 H2)(h:H D=some o)(n:D∉ρ):D∉ρ2/\H2 D=some o:=by
 refine#[λz=>?_,a.fr D o h n];have:=a.new D z n;rw[h] at this;cases this
theorem Ik(he:jv c ρ H env σ)(r:jv c ρ H us ys):jv c ρ H (us++PL.lY env ci) (ys++gy σ ci):=by
 have hl:=r.len;refine#[by simp[PL.lY,gy,hl],λi w e=>?_];by_cases lt:i<us.length
 .rw[ai lt] at e
  rw[ai ∅]
  erw[r.at_ i w e]
 .rw[ax ∅] at e
  rw[ax ∅,<-hl]
  generalize i-us.length=i at e ⊢;unfold PL.lY at e;unfold gy;rw[aD] at e ⊢;cases q:ci[i]? with
  |none=>rw[q] at e;cases e
  |some j=>
   rw[q] at e;dsimp[j7,oZ] at e ⊢;cases z:env[j]? with
   |none=>rw[z] at e;cases e
   |some o=>
    rw[z] at e;cases o with
    |none=>cases e
    |some w'=>
     simp at e;subst e;let#[v,e1,r1]:=he.at_ j w' z;exact#[v,by rw[e1];rfl,r1]
theorem Uo(r:Rep c ρ H u y):jv c ρ H [some u] [some y]:=
 #[rfl,λi w e=>by cases i<;>simp at e;subst e;exact#[y,rfl,r]]
theorem Up(r:Rep c ρ H u y)(r':Rep c ρ H u' y'):jv c ρ H [some u,some u'] [some y,some y']:=
 #[rfl,λi w e=>by
  match i with
  |0=>simp at e;subst e;exact#[y,rfl,r]
  |1=>simp at e;subst e;exact#[y',rfl,r']
  |i+2=>simp at e]
end
section
variable{t:xi}{T:Tab}{Γ:b8}{k n:Nat}{I:Inf}{X:Cx}
theorem B6.no(h:B6 X e tt)(hx:∀e s,X.xe e s↔False):PT X e (λσ H Q=>tt (λ_ _ _=>False) σ H Q):=by
 intro pZ s σ H Q J z;rwa[bU (h pZ s σ H Q _ J z) (λ_ _ q=>q) λu s' q=>?_]
 let#[a,tb,cl,dx,H',_,_,_,_,w]:=q;erw[aL w]
theorem dI.no(h:dI X e tt)(hx:∀e s,X.xe e s↔False):PE X e (λσ H Q=>tt (λ_ _ _=>False) σ H Q):=by
 intro pZ s σ H Q J z;rwa[bU (h pZ s σ H Q _ J z) (λ_ _ q=>q) λu s' q=>?_]
 let#[a,tb,cl,dx,H',_,_,_,_,w]:=q;erw[aL w]
theorem mem_lookup:∀{l:List (Str×NameKind)}{y:Str}{k:NameKind},l.lookup y=some k->(y,k)∈l
 |[],_,_,h=>nomatch h
 | (a,b)::l,y,k,h=>by
  rw[aN] at h;by_cases e:y=a
  .subst e;simp at h;subst h;erw[aS]
  .have e2:(y==a)=false:=by simp[e]
   rw[e2] at h;erw[aB _ (mem_lookup h)]
theorem vf(G:Good t T Γ k I X)(h:u6 I sc x=true):zR X sc x:=by
 unfold u6 at h;dsimp[ao,cB] at h;let#[#[#[#[#[h1,h2],h3],h4],h5],h6]:=h;refine#[by simpa using h1,λy hy e=>?_,λy hy e=>?_,λy hy e=>?_,λy hy=>by simpa using h5 y hy,of_decide_eq_true h6,λy e=>?_]
 .have:=h2 y hy;rw[e] at this;simpa using this
 .have:=h3 y hy;rw[e] at this;simpa using this
 .have:=h4 y hy;rw[e] at this;rw[G.names];simpa using this
 .erw[mem_lookup e]
theorem Dp(G:Good t T Γ k I X)(h:(iz I sc).mapM (λy=>d8 y I.N)=some ci):yg X sc (iz I sc) ci:=by
 have key:∀(l:List Str)(ci:List Nat),l.mapM (λy=>d8 y I.N)=some ci->ci.length=l.length/\∀(k:Nat)(y:Str),l[k]?=some y->∃j:Nat,ci[k]?=some j/\I.N[j]?=some y:=by
  intro l;induction l with
  |nil=>intro ci h;simp at h;subst h;exact#[rfl,λk y e=>by simp at e]
  |cons a l ih=>
   intro ci h;dsimp[List.mapM_cons,aK,ay] at h;let#[j,h1,r,h2,h3]:=h;simp at h3;subst h3;let#[q1,q2]:=ih r h2;refine#[by simp[q1],λk y e=>?_];cases k with
   |zero=>simp at e;subst e;exact#[j,rfl,eU h1]
   |succ k=>simp at e ⊢;erw[q2 k y e]
 let#[q1,q2]:=key _ _ h;refine#[q1,λk y e=>?_,λy hy=>?_]
 .rw[G.slots];erw[q2 k y e]
 .unfold iz at hy
  have:=(eP.mp hy).2;simpa using this
theorem qX(G:Good t T Γ k I X)(hc:I.calm=true)(h:u6 I sc x=true)(cp:yg X sc (iz I sc) ci)(hn:(iz I sc).Nodup):
  Good t T Γ k #[qP I sc.names,x++iz I sc,true] (X.uO sc C (x++iz I sc) s₀ H₀ ex):=by
 have B:=vf G h;refine#[G.tab,G.LY,B.kind,?_,rfl,rW cp B hn,λ_=>G.calm hc,G.units];show(Ge sc X.env).names=_;unfold Ge qP;simp only
 congr 1
 funext p
 let#[a,b]:=p;dsimp[G.kind,Env.kindOf,G.names];simp
theorem xp(z:tE (X.cc t) Γ (.comp pr e it tc ci) E σ H Q):
  Hc (To X.K pr) (λσ H R=>xj (X.cc t) Γ it E σ H R) ci (λσ H Q=>tT (X.cc t) Γ tc (λ_ _ _=>False) σ H Q) (λσ H Q=>tE (X.cc t) Γ e (λ_ _ _=>False) σ H Q) σ H Q:=by
 let#[env,ρ,S,QU,EU,he0,R,w,q,qx]:=z;refine#[env,ρ,S,_,EU,he0,R,w,λus g S1 H1 ρ1 J w1 st1 R1 io=>?_,qx];intro D hD;have he1:=he0.later R st1;have D0:D∉ρ1:=R1.HH hD
 let F:=PL.lX g (λu S2 k=>PL.pC pr u (PL.lY env ci) λen=>PL.WT Γ tc en S2 k λ_ _=>False)
   (λu S2 k=>PL.pC pr u (PL.lY env ci) λen=>PL.WE Γ e en S2 k λ_ _=>False) (λacc S3=>QU (.loc S3.length) (S3++[.lst acc]))
 refine#[λi m acc H2=>m+i=us.length/\∃ρ2 S2 accU,gI ρ1 H1 ρ2 H2/\cw (X.cc t) ρ2 H2 S2/\D∉ρ2/\H2 D=some (.lst acc)/\aZ (X.cc t) ρ2 H2 accU acc/\F (us.drop i) accU S2,#[us.length,rfl,ρ1,S1,[],gI.lay R1 hD _,R1.lay hD _,D0,bR,aZ.nil,w1],?_];rintro i m acc H2 ⟨hm,ρ2,S2,accU,st2,R2,D2,hD2,ra,wc⟩;have hlen:acc.length=accU.length:=ra.len.symm;cases hd:us.drop i with
 |nil=>
  rw[hd] at wc;obtain⟨g2,hl,w2⟩:g S2/\accU.length<1000000/\QU (U.loc S2.length) (S2++[SO.lst accU]):=wc;refine#[hD2,by rw[hlen];erw[aq hl ⋯],.inl #[((io i ρ2 H2 S2 st2 R2 g2).2 (CN.mp hd)),?_]];rwa[q _ _ _ _ _ w2 (st1.trans (st2.Um hD)) (R2.join D2 #[acc,hD2,ra]) (eD.mpr #[D,rfl,?_])];rw[<-R2.len,ax (au _),bO];rfl
 |cons u rest=>
  rw[hd] at wc;obtain⟨g2,hl,w0⟩:g S2/\accU.length<1000000/\PL.pC pr u (PL.lY env ci) λen=>PL.WT Γ tc en S2 (λb S3=>if b=true then PL.pC pr u (PL.lY env ci) (λen=>PL.WE Γ e en S3 (λv S4=>F rest (accU++[v]) S4) (λ_ _=>False)) else F rest accU S3) (λ_ _=>False):=wc
  have hu:us[i]?=some u:=by
   have:=congrArg (λl=>l[0]?) hd;simpa using this
  have hr:us.drop (i+1)=rest:=by
   have:=congrArg List.tail hd;simpa using this
  have hi:i<us.length:=(af.mp hu).1;let#[jg,jy]:=(io i ρ2 H2 S2 st2 R2 g2).1 u hu;refine#[hD2,by rw[hlen];exact aq hl ⋯,.inr #[jg,λy H3 hy=>?_]];let#[st3,R3,ry]:=jy y H3 hy;let#[_,hD3]:=st3.out hD2 D2;have ra3:=ra.mono R2 st3;obtain⟨us',τ,rτ,w2,kτ⟩:∃(us':PL.Env)(τ:St),jv (X.cc t) ρ2 H3 us' τ/\PL.WT Γ tc (us'++PL.lY env ci) S2 (λb S3=>if b=true then PL.WE Γ e (us'++PL.lY env ci) S3 (λv S4=>F rest (accU++[v]) S4) (λ_ _=>False) else F rest accU S3) (λ_ _=>False)/\∀k:St->Prop,k τ->To X.K pr y H3 k:=by
   cases pr with
   |false=>exact#[[some u],[some y],Uo ry,w0,λk z=>z]
   |true=>
    let#[u1,u2,eu,w2]:=PL.C4.mp w0;subst eu;let#[a,vs,e1,ha,hr2]:=dJ.mp ry;let#[v1,v2,ev,r1,r2]:=Dk hr2;subst ev;exact#[[some u1,some u2],[some v1,some v2],Up r1 r2,w2,λk z=>#[a,v1,v2,e1,lQ.of ha,z]]
  have he3:=Ik (ci:=ci) (he1.later R1 (st2.trans st3)) rτ;rwa[kτ _ #[_,ρ2,S2,_,_,he3,R3,w2,λb S4 H4 ρ4 w4 st4 R4=>?_,λ_ _ _ _ _ _ z=>aL z]];let#[D4,hD4]:=st4.out hD3 D2;have ra4:=ra3.mono R3 st4;cases b with
  |false=>exact#[m-1,∅,∅,ρ4,S4,accU,(st2.trans st3).trans st4,R4,D4,hD4,ra4,by rw[hr];erw[w4]]
  |true=>
   refine#[_,ρ4,S4,_,_,he3.later R3 st4,R4,w4,λv S5 z H5 ρ5 w5 st5 R5 r5=>?_,λ_ _ _ _ _ _ z=>aL z];let#[D5,hD5]:=st5.out hD4 D4;have ra5:=(ra4.mono R4 st5).app (aZ.cons r5 aZ.nil);refine#[hD5,m-1,∅,∅,ρ5,S5,accU++[v],(((st2.trans st3).trans st4).trans st5).Ac hD _,R5.Ac _ hD5 rfl D5,D5,bR,ra5.hW #[[],by simp] (yx hD5 rfl),by rw[hr];erw[w5]]
theorem Il(ht:LC tg=some x)(B:zR X sc x)(cp:yg X sc cn ci)(hn:cn.Nodup)(hc:X.calm=true):RJ X tg sc x cn (To X.K (x.length==2)):=by
 rcases B4 ht with⟨_,_,rfl,rfl⟩|⟨_,_,_,_,_,_,rfl,rfl⟩
 .erw[Hd B cp hn]
 .erw[He B cp hn hc]
theorem Mb{elt iter tg:Expr}{ifs:List Expr}{x:List Str}{pos:Pos}{sc:jB}{it:PL.It}{tc:PL.Tx}{e:PL.Ex}{ci:List Nat}(G:Good t T Γ k I X)(hc:I.calm=true)(ht:LC tg=some x)(hb:u6 I sc x=true)(hci:(iz I sc).mapM (λy=>d8 y I.N)=some ci)
  (hs:∀env v,foldedSetIterable iter env v=pure v) (hi:∀pZ E,PI (X.at_ pZ E) tg iter (λσ H R=>xj (X.cc t) Γ it (E σ) σ H R))
  (hif:∀(X':Cx),Good t T Γ k #[qP I sc.names,x++iz I sc,true] X'->X'.cc t=X.cc t->(∀e s,X'.xe e s↔False)->Lb X' ifs (λσ H Q=>tT (X.cc t) Γ tc (λ_ _ _=>False) σ H Q))
  (he:∀(X':Cx),Good t T Γ k #[qP I sc.names,x++iz I sc,true] X'->X'.cc t=X.cc t->dI X' elt (tE (X.cc t) Γ e)):
  dI X (.ListComp elt [#[tg,iter,ifs,0]] sc pos) (tE (X.cc t) Γ (.comp (x.length==2) e it tc ci)):=by
 have hn:(iz I sc).Nodup:=by
  unfold iz;have:=G.nd;rw[G.slots] at this;erw[this.filter _]
 rwa[up λpZ E=>?_]
 have cp:=Dp (X:=X.at_ pZ E) G.at_ hci;refine(Lf (X:=X.at_ pZ E) (wi:=λσ H R=>xj (X.cc t) Γ it (E σ) σ H R) (tc:=λσ H Q=>tT (X.cc t) Γ tc (λ_ _ _=>False) σ H Q) (te:=λσ H Q=>tE (X.cc t) Γ e (λ_ _ _=>False) σ H Q)
  (vf G.at_ hb) cp hn (G.calm hc).1 (Il ht (vf G.at_ hb) cp hn (G.calm hc).1) (hi pZ E) (λC s₀ H₀ ex=>hif _ (qX G.at_ hc hb cp hn) rfl λ_ _=>j8) (λC s₀ H₀ ex=>(he _ (qX G.at_ hc hb cp hn) rfl).no λ_ _=>j8) (hs _)).imp λσ H Q z=>xp z
theorem Mc(ha:∀pZ E,dI (X.at_ pZ E) a (tE (X.cc t) Γ x))(hb:∀pZ E,dI (X.at_ pZ E) b (tE (X.cc t) Γ y)):dI X (.Dict [some a] [b] pos) (tE (X.cc t) Γ (.dU #v[x] #v[y])):=by
 rwa[up λpZ E=>(K7 (X:=X.at_ pZ E) (G6 (dn (ha pZ E)) (dn (hb pZ E)) K6) rfl rfl (by simp) (show 1<=15 by decide)).imp ?_]
 kd_p;intro p hp;have st0:=gI.lay R hp (.dK []);have R0:=R.lay hp (.dK []);refine#[env,ρ,S,_,EU,he.later R st0,R0,w,λu S1 v H1 ρ1 w1 st1 R1 r1=>?_,qx.later st0];refine#[env,ρ1,S1,_,EU,(he.later R st0).later R0 st1,R1,w1,λu2 S2 v2 H2 ρ2 w2 st2 R2 r2=>?_,(qx.later st0).later st1];obtain⟨_,hk,w',e,w3⟩:([u]:List U).length<=100/\PL.mD u=true/\∃v,[u2]=[v]/\QU (.loc S2.length) (S2++[SO.dU [(u,v)]]):=w2;cases e;let#[p2,hp2]:=(st1.trans st2).out bR (R.HH hp);have im:=yx (ho:=.dK [(vb u,v2)]) hp2 rfl;have k1:=(r1.mono R1 st2).hW (ρ':=ρ2) #[[],by simp] im;have k2:=r2.hW (ρ':=ρ2) #[[],by simp] im;refine#[hp2,[(vb u,v2)],by rw[jS hk r1];rfl,show 1<=15 by decide,?_];show Q (.ref p) (upd H2 p (.dK [(vb u,v2)]));rwa[q _ _ _ _ _ w3 ((((st0.trans st1).trans st2).Ac hp _).Um hp) ((R2.Ac _ hp2 rfl p2).join p2 #[_,bR,rfl,aZ.cons (show Rep (X.cc t) ρ2 _ u (kV (vb u)) by rw[<-jS hk r1];erw[k1]) aZ.nil,aZ.cons k2 aZ.nil]) (eD.mpr #[p,rfl,?_])];rw[<-R2.len,ax (au _),bO];rfl
end
open PL (U SO bD Xn KU KX b8)
section
variable{t:xi}{T:Tab}{Γ:b8}{k n:Nat}{I:Inf}{X:Cx}
theorem P9(h:∀pZ E,dI (X.at_ pZ E) e (tE (X.cc t) Γ x))(he:∀env whole,isTrue e env whole=(do let v <-whole;standAt e.pos;holding [v] (truthy v))):B6 X e (tT (X.cc t) Γ (.dw x)):=by
 rwa[Ww λpZ E=>(GF (X:=X.at_ pZ E) (dn (h pZ E)) (he _)).imp ?_]
 kd_p;z_go;let#[b,e1,w2]:=PL.iC.mp w1;exact#[b,LX (X:=X) rfl R1 r1 e1,q _ _ _ _ w2 st1 R1]
theorem Md(h:∀pZ E,B6 (X.at_ pZ E) e (tT (X.cc t) Γ x)):B6 X (.UnaryOp .Not e pos) (tT (X.cc t) Γ (.not x)):=by
 rwa[Ww λpZ E=>(N2 (X:=X.at_ pZ E) (RS (h pZ E))).imp ?_]
 kd_p;exact#[env,ρ,S,_,EU,he,R,w,λb S1 H1 ρ1 w1 st1 R1=>q _ _ _ _ w1 st1 R1,qx]
theorem PW.imp{e:Expr}{t t':TT}(h:PW X e t)(q:∀σ H Q,t' σ H Q->t σ H Q):PW X e t':=λwhole pZ s σ H Q I z=>h whole pZ s σ H Q I (q σ H Q z)
theorem Qa(IH:E4 t T Γ k n)(G:Good t T Γ k I X):∀{vs:List Expr}{x:PL.Tx},Wv T (n+1) I op vs=some x->∀pZ E,PW (X.at_ pZ E) (.BoolOp op vs pos) (λσ H Q=>tT (X.cc t) Γ x (E σ) σ H Q)
 |[],x,h,_,_=>by rw[HG,HD] at h;cases h
 |[a],x,h,pZ,E=>by
  rw[HG,HD] at h;cases op with
  |And=>erw[Kt (RS (IH.ft G.at_ h))]
  |Or=>erw[N0 (RS (IH.ft G.at_ h))]
 |a::b::r,y,h,pZ,E=>by
  rw[HG,HD] at h;dsimp[aK,ay] at h;let#[x,h1,z,h2,h3]:=h;injection h3 with h3;subst h3
  cases op with
  |And=>
   refine(N1 (X:=X.at_ pZ E) (RS (IH.ft G.at_ h1)) (IH.YE G h2 pZ E)).imp ?_;kd_p;refine#[env,ρ,S,_,EU,he,R,w,λb S1 H1 ρ1 w1 st1 R1=>?_,qx];cases b with
   |true=>exact#[env,ρ1,S1,QU,EU,he.later R st1,R1,w1,q.later st1,qx.later st1]
   |false=>erw[q _ _ _ _ w1 st1 R1]
  |Or=>
   refine(Sd (X:=X.at_ pZ E) (RS (IH.ft G.at_ h1)) (IH.YE G h2 pZ E)).imp ?_;kd_p;refine#[env,ρ,S,_,EU,he,R,w,λb S1 H1 ρ1 w1 st1 R1=>?_,qx];cases b with
   |true=>erw[q _ _ _ _ w1 st1 R1]
   |false=>exact#[env,ρ1,S1,QU,EU,he.later R st1,R1,w1,q.later st1,qx.later st1]
theorem Ai(h:cE T n I b=some x):behindInMarks op b=false:=by
 cases b<;>first|rfl|skip
 cases n with
 |zero=>erw[nn h]
 |succ n=>erw[nn h]
theorem Dq(h:cI T n I e=some x):∀env v,foldedSetIterable e env v=pure v:=by
 intro env v;cases e<;>first|rfl|skip
 cases n with
 |zero=>erw[nn h]
 |succ n=>
  change ((qQ T n).e I _).map PL.It.val=some x at h
  let#[y,h1,_]:=ar.mp h
  change cE T n I _=some y at h1
  cases n with
  |zero=>erw[nn h1]
  |succ n=>erw[nn h1]
theorem Ny(h:cN T n I e=some x):∀env v,foldedSetIterable e env v=pure v:=by
 intro env v;cases e<;>first|rfl|skip
 cases n with
 |zero=>erw[nn h]
 |succ n=>erw[nn h]
theorem Im(IH:E4 t T Γ k n)(G:Good t T Γ k I X)(h:((qQ T n).e I e).map .dw=some x)(he:∀env whole,isTrue e env whole=(do let v <-whole;standAt e.pos;holding [v] (truthy v))):B6 X e (tT (X.cc t) Γ x):=by
 let#[y,h1,h2]:=ar.mp h;subst h2;erw[P9 (λpZ E=>IH.fe G.at_ h1) he]
theorem Uq(IH:E4 t T Γ k n)(G:Good t T Γ k I X)(h:cT T (n+1) I e=some x):B6 X e (tT (X.cc t) Γ x):=by
 rw[Yv] at h;cases e with
 |UnaryOp op a pos=>
  cases op with
  |Not=>
   let#[y,h1,h2]:=ar.mp h;subst h2;erw[Md λpZ E=>IH.ft G.at_ h1]
  |_=>erw[Im IH G h λ_ _=>rfl]
 |BoolOp op vs pos=>erw[Ww λpZ E=>(IH.YE G h pZ E).pt]
 |IfExp=>erw[nn h]
 |Compare a ops bs pos=>
  cases ops with
  |nil=>erw[nn h]
  |cons op ops=>cases ops with
   |cons=>erw[nn h]
   |nil=>cases bs with
    |nil=>erw[nn h]
    |cons b bs=>cases bs with
     |cons=>erw[nn h]
     |nil=>
      let#[o,h1,hb]:=ay.mp h;let#[a,h2,hc]:=ay.mp hb;let#[b,h3,h4]:=ay.mp hc;injection h4 with h4;subst h4
      erw[L0 G h1 (Ai h3) (λpZ E=>IH.fe G.at_ h2) (λpZ E=>IH.fe G.at_ h3)]
 |_=>erw[Im IH G h λ_ _=>rfl]
end
open PL (U SO bD Xn KU KX b8)
section
variable{t:xi}{T:Tab}{Γ:b8}{k n:Nat}{I:Inf}{X:Cx}
theorem yz:∀{n:Nat},(qQ T n).es I []=some y->y=.nil
 |0,h=>by cases h
 |_+1,h=>(aJ h).symm
theorem jw{x y:Str}(h:(x !=y)=true):(x==y)=false:=by simpa using h
theorem Aj(IH:E4 t T Γ k n)(G:Good t T Γ k I X){tg iter:Expr}{xs:List Str}{it:PL.It}(ht:LC tg=some xs)(h:(∃y,xs=[y])/\cI T n I iter=some it\/(¬ ∃y,xs=[y])/\cN T n I iter=some it):
  (∀env v,foldedSetIterable iter env v=pure v)/\∀pZ E,PI (X.at_ pZ E) tg iter (λσ H R=>xj (X.cc t) Γ it (E σ) σ H R):=by
 rcases B4 ht with⟨x,p,rfl,rfl⟩|⟨x,y,p,p',kd,q,rfl,rfl⟩<;>rcases h with⟨z,h1⟩|⟨z,h1⟩
 .exact#[Dq h1,IH.fi G h1]
 .erw[absurd #[_,rfl] z]
 .let#[y,e]:=z;simp at e
 .exact#[Ny h1,IH.fn G h1]
theorem Ds(IH:E4 t T Γ k n)(G':Good t T Γ k J X')(ec:X'.cc t=X.cc t)(hx:∀e s,X'.xe e s↔False)(h:Yw T n J ifs=some c):Lb X' ifs (λσ H Q=>tT (X.cc t) Γ c (λ_ _ _=>False) σ H Q):=by
 unfold Yw at h;split at h
 .injection h with h;subst h
  intro pZ s σ H Q J z;refine Lc (X:=X') pZ s σ H Q J ?_;let#[env,ρ,S,QU,EU,he,R,w,q,qx]:=z;have w2:QU true S:=by
   have:PL.opt (PL.uV S (.bl true)) (λb=>QU b S):=w;erw[this]
  erw[q true S H ρ w2 .refl R]
 .have:=(IH.ft G' h).no hx
  rw[ec] at this;erw[Ld this]
 .erw[nn h]
theorem Me(h:(match args with|[a]=>Ph a|_=>none)=some o):∃ap cp,(ap.endLine==cp.line)=true/\args=[.Call (.Attribute o ("values":Str) ap) [] [] cp]:=by
 split at h
 .rename_i a
  unfold Ph at h;split at h
  .split at h
   .rename_i o' m ap cp hc
    rw[ao] at hc;have e:=eq_of_beq hc.1;subst e;injection h with h;subst h
    exact#[ap,cp,hc.2,rfl]
   .erw[nn h]
  .erw[nn h]
 .erw[nn h]
theorem Ur(IH:E4 t T Γ k n)(G:Good t T Γ k I X){e:Expr}{x:PL.Ex}(h:cE T (n+1) I e=some x):dI X e (tE (X.cc t) Γ x):=by
 have ge:∀{e:Expr}{y:PL.Ex},cE T n I e=some y->∀pZ E,dI (X.at_ pZ E) e (tE (X.cc t) Γ y):=λh pZ E=>IH.fe G.at_ h
 have gA:∀{es:List Expr}{y:PL.zd},RQ T n I es=some y->∀pZ E,B7 (X.at_ pZ E) es (FX (X.cc t) Γ y):=λh pZ E=>IH.Ua G.at_ h
 have h0:=h;rw[LD] at h;cases e with(delta RP at h;try dsimp only at h)
 |Name x' pos=>
  split at h
  .rename_i i hi
   split at h
   .rename_i hc
    dsimp[ao] at hc;injection h with h;subst h
    erw[LZ G hi hc.1.1 (jw hc.1.2) (jw hc.2)]
   .erw[nn h]
  .split at h
   .rename_i hc
    rw[ao] at hc;let#[p,h1,h2]:=ar.mp h;subst h2;erw[Ia G hc.1 h1 (jw hc.2)]
   .erw[nn h]
 |Constant c kd pos=>
  let#[u,h1,h2]:=ar.mp h;subst h2;cases c with
  |none=>cases h1;erw[qW (v:=.bQ) (λpZ E=>NY) λ_ _=>eM.mpr rfl]
  |bool b=>cases h1;erw[qW (v:=.bl _) (λpZ E=>Sb) λ_ _=>eT.mpr rfl]
  |int i=>cases h1;erw[qW (v:=.int _) (λpZ E=>NX) λ_ _=>aO.mpr rfl]
  |str x=>cases h1;erw[qW (v:=.str _) (λpZ E=>NZ) λ_ _=>bq.mpr (by rw[<-Tq])]
  |_=>erw[nn h1]
 |BinOp a op b pos=>
  dsimp[aK,ay] at h;let#[o,h1,a,h2,b,h3,h4]:=h;injection h4 with h4;subst h4
  erw[PF G h1 (ge h2) (ge h3)]
 |UnaryOp op a pos=>
  cases op with
  |Not=>let#[y,h1,h2]:=ar.mp h;subst h2;erw[PM (ge h1)]
  |USub=>let#[y,h1,h2]:=ar.mp h;subst h2;erw[PK (ge h1)]
  |_=>erw[nn h]
 |BoolOp op vs pos=>erw[IH.YD G h]
 |Compare a ops bs pos=>
  split at h
  .split at h
   .dsimp[aK,ay] at h
    let#[o,h1,a,h2,b,h3,h4]:=h;injection h4 with h4;subst h4
    erw[PH G h1 (Ai h3) (ge h2) (ge h3)]
   .erw[nn h]
  .erw[nn h]
 |IfExp c a b pos=>
  dsimp[aK,ay] at h;let#[o,h1,a,h2,b,h3,h4]:=h;injection h4 with h4;subst h4
  erw[Ue (λpZ E=>IH.ft G.at_ h1) (ge h2) (ge h3)]
 |Call fn args kws cp=>
  cases fn with
  |Name f p=>
   cases kws with
   |nil=>
    dsimp only at h;split at h
    .rename_i hc
     rw[ao] at hc;let#[hg,hd]:=hc;split at h
     .rename_i b hb
      split at h
      .rename_i o' ho'
       split at h
       .rename_i hc
        dsimp[ao] at hc;let#[#[#[hf,hm],hcm],h0']:=hc;have hf:=eq_of_beq hf;subst hf;let#[y,h1,h2]:=ar.mp h;subst h2;let#[ap,c2,hl,rfl]:=Me ho';exact L5 G hg (by simpa using hm) (G.calm hcm).1 h0' hl (ge h1)
       .erw[nn h]
      .split at h
       .rename_i hs
        dsimp[ao,wm] at hs;let#[#[#[s,hp],hs],hcm]:=hs;let#[y,h1,h2]:=ar.mp h;subst h2;cases args with
        |nil=>simp at hs
        |cons a as=>
         have st:=mN h1;rw[bK,ao] at st;erw[PX G hg hb hp (G.calm hcm).1 (G.calm hcm).2.hd st.1 st.2 (gA h1)]
       .erw[nn h]
     .split at h
      .erw[nn h]
      .rename_i hcm
       have hcm:I.calm=true:=by simpa using hcm
       split at h
       .rename_i q hq
        let#[hm,rfl]:=lZ hq;let#[y,h1,h2]:=ar.mp h;subst h2;cases args with
        |nil=>
         cases yz h1;erw[Ig G hg hcm hm (jw hd)]
        |cons a as=>
         have st:=mN h1;rw[bK,ao] at st;erw[L6 G hg hcm hm (jw hd) st.1 st.2 (IH.Ua G h1)]
       .split at h
        .rename_i q hq
         let#[hm,rfl]:=lZ hq;let#[y,h1,h2]:=ar.mp h;subst h2;cases args with
         |nil=>
          cases yz h1;erw[P1 G hg hcm hm (jw hd)]
         |cons a as=>
          have st:=mN h1;rw[bK,ao] at st;erw[Uk G hg hcm hm (jw hd) st.1 st.2 (IH.Ua G h1)]
        .erw[nn h]
    .erw[nn h]
   |cons kw ks=>
    dsimp only at h;split at h
    .split at h
     .rename_i hc
      dsimp[ao] at hc;let#[#[#[#[#[#[#[q0,q1],q2],q4],q6],q7],q8],q9]:=hc;have q1:=eq_of_beq q1;subst q1;have q0:ks=[]:=by simpa using q0
      subst q0;let#[y,h1,h2]:=ar.mp h;subst h2;let#[ka,kv,kp]:=kw;unfold HA at q2;rw[ao] at q2;have e1:=eq_of_beq q2.1;subst e1;have q3:=q2.2;cases kv with
      |Name l lp=>
       have q3:(l==("len":Str)&&I.gl l)=true:=q3;rw[ao] at q3;have e2:=eq_of_beq q3.1;subst e2;exact E5 G q4 q3.2 (by simpa using q6) (by simpa using q7) (G.calm q8).1 q9 (ge h1)
      |_=>cases q3
     .erw[nn h]
    .erw[nn h]
  |Attribute o m ap=>
   dsimp only at h;split at h
   .erw[nn h]
   .rename_i hc
    dsimp[gv,Gf,ao] at hc;let#[#[#[#[hk,hc0],hl],hn],hcm]:=hc;have hk:kws=[]:=by simpa using hk
    subst hk;have hn:=of_decide_eq_true hn;split at h
    .rename_i q kk hq
     let#[hm,hq2]:=xk hq;dsimp only at hq2;subst hq2;dsimp[aK,ay] at h;let#[y,h1,as,h2,h3]:=h;injection h3 with h3;subst h3
     cases args with
     |nil=>
      cases yz h2;erw[Ih G hcm hm hc0 hl (IH.fe G h1)]
     |cons a as'=>
      have st:=mN h2;rw[bK,ao] at st;erw[L7 G hcm hm hc0 hl hn st.1 st.2 (IH.fe G h1) (IH.Ua G h2)]
    .split at h
     .split at h
      .rename_i em
       let#[y,h1,h2]:=ar.mp h;subst h2;have em:=eq_of_beq em;subst em;erw[L1 G hc0 hl (ge h1)]
      .erw[nn h]
     .rename_i a as
      split at h
      .rename_i em
       have em:=eq_of_beq em;subst em;split at h
       .rename_i d
        split at h
        .rename_i st
         rw[ao] at st;dsimp[aK,ay] at h;let#[y,h1,z,h2,w,h3,h4]:=h;injection h4 with h4;subst h4
         erw[PZ G hc0 hl st.1 st.2 (ge h1) (ge h2) (ge h3)]
        .erw[nn h]
       .split at h
        .rename_i st
         dsimp[aK,ay] at h;let#[y,h1,z,h2,h4]:=h;injection h4 with h4;subst h4
         erw[L3 G hc0 hl st (ge h1) (ge h2)]
        .erw[nn h]
       .erw[nn h]
      .split at h
       .rename_i b hb
        dsimp[aK,ay] at h;let#[y,h1,as',h2,h3]:=h;injection h3 with h3;subst h3
        have st:=mN h2;rw[bK,ao] at st;erw[PY G hb (G.calm hcm).2.hd hc0 hl hn st.1 st.2 (ge h1) (gA h2)]
       .erw[nn h]
  |_=>erw[nn h]
 |Attribute o f pos=>
  split at h
  .erw[nn h]
  .rename_i hc0
   dsimp[aK,ay] at h;let#[q,h1,y,h2,h3]:=h;injection h3 with h3;subst h3
   let#[hm,rfl]:=lZ h1;exact PV G hm (by simpa using hc0) (ge h2)
 |Subscript o i pos=>
  split at h
  .rename_i hs
   dsimp[aK,ay] at h;let#[y,h1,a,h2,h3]:=h;injection h3 with h3;subst h3
   split
   .erw[P0 G hs (ge h1) (ge h2)]
   .erw[Ug hs (ge h1) (ge h2)]
  .split at h
   .split at h
    .dsimp[aK,ay] at h
     let#[y,h1,a,h2,b,h3,h4]:=h;injection h4 with h4;subst h4
     erw[Ui (ge h1) (IH.fo G h2) (IH.fo G h3)]
    .erw[nn h]
   .erw[nn h]
 |Dict ks vs pos=>
  split at h
  .split at h
   .injection h with h;subst h;erw[L4]
   .erw[nn h]
  .split at h
   .dsimp[aK,ay] at h
    let#[y,h1,z,h2,h4]:=h;injection h4 with h4;subst h4
    erw[Mc (ge h1) (ge h2)]
   .erw[nn h]
  .erw[nn h]
 |List es pos=>
  let#[y,h1,h2]:=ar.mp h;subst h2;erw[PU (gA h1)]
 |Tuple es kd pos=>
  let#[y,h1,h2]:=ar.mp h;subst h2;erw[PQ (gA h1)]
 |ListComp elt gs sc pos=>
  let#[tg,iter,ifs,xs,it,c,ee,ci,rfl,ht,hc,h1,h2,h3,h4,h5]:=u7 h0;subst h5;have hi:=Aj IH G ht h1;rwa[Mb G hc.2 ht hc.1 h4 hi.1 hi.2 (λX' G' ec hx=>?_) (λX' G' ec=>?_)]
  .erw[Ds IH G' ec hx h2]
  .have:=IH.fe G' h3
   rw[ec] at this;erw[this]
 |_=>erw[nn h]
theorem Io:E4 t T Γ k 0:=by
 constructor
 .intro I X e x _ h;rw[T4] at h;erw[nn h]
 .intro I X e x _ h;rw[Nw] at h;erw[nn h]
 .intro I X op vs x pos _ h;rw[T5] at h;erw[nn h]
 .intro I X e x _ h;rw[Yp] at h;erw[nn h]
 .intro I X e x tg _ h;rw[Yq] at h;erw[nn h]
 .intro I X e x es ek tp _ h;rw[Ys] at h;erw[nn h]
 .intro I X e x _ h;rw[Yu] at h;erw[nn h]
 .intro I X op vs x pos _ h;rw[T7] at h;erw[nn h]
theorem yA:∀n,E4 t T Γ k n
 |0=>Io
 |n+1=>
  have IH:=yA n
  #[λG h=>Ur IH G h,λG h=>PJ IH G h,λG h=>PN IH G h,λG h=>Uh IH G h,λG h=>Ul IH G h,λG h=>YI IH G h,λG h=>Uq IH G h,λG h=>Qa IH G h]
end
open PL (U SO bD Xn KU KX b8)
structure Qb(X:Cx):Prop where
 Gn:X.stack=X.env::X.outer
 ZW:X.env.frame=some X.env.locals
def XN(X:Cx)(pZ:List (Addr×Obj))(E:St->XK)(e:Value)(s:aA):Prop:=
 ∃(σ:St)(a T:Addr)(cl:Value)(dx:Option Addr)(H:Hp),e=.ref a/\Inv X pZ σ H s/\FR s.heap a cl dx (some (T,jq X.env.locals))/\C0 X pZ H a/\C0 X pZ H T/\E σ cl dx H
def XL(X:Cx)(pZ:List (Addr×Obj))(E:St->XK)(e:Value)(s:aA):Prop:=
 wpAny (ba X.prog X.w) X.A (FL e X.env) (λ_ s'=>XN X pZ E e s') (λ_ _=>False) s
noncomputable abbrev Cx.al(X:Cx)(pZ:List (Addr×Obj))(E:St->XK):Cx:={X with pn:=X.pn++pZ,xe:=XL X pZ E}
section
variable{X:Cx}{pZ pins':List (Addr×Obj)}{E:St->XK}{σ:St}{H:Hp}{s:aA}
theorem Cx.Ok.al(ok:X.Ok):(X.al pZ E).Ok:=
 #[ok.mod,ok.kind,ok.glob,ok.blt,ok.above,ok.inj,ok.has,ok.NU,ok.hd,ok.frames,ok.Gn,ok.V7,ok.bs,ok.Gs,ok.Bp,ok.El,ok.qt,ok.Kr]
theorem Cx.Ok.se(ok:(X.al pZ E).Ok):X.Ok:=
 #[ok.mod,ok.kind,ok.glob,ok.blt,ok.above,ok.inj,ok.has,ok.NU,ok.hd,ok.frames,ok.Gn,ok.V7,ok.bs,ok.Gs,ok.Bp,ok.El,ok.qt,ok.Kr]
theorem Inv.al(I:Inv X pZ σ H s):Inv (X.al pZ E) [] σ H s:=
 #[I.ok.al,I.os,I.bare,I.base,I.loc,I.cell,I.free,I.mZ,λp hp=>I.pin p (by simpa using hp),I.dq,I.len]
theorem Inv.se(I:Inv (X.al pZ E) pins' σ H s):Inv X pZ σ H s:=
 #[I.ok.se,I.os,I.bare,I.base,I.loc,I.cell,I.free,I.mZ,λp hp=>I.pin p (aR.mpr (.inl hp)),I.dq,I.len]
theorem C0.se(h:C0 (X.al pZ E) pins' H b):C0 X pZ H b:=
 #[h.1,h.2.1,h.2.2.1,h.2.2.2.1,λp hp=>h.2.2.2.2 p (aR.mpr (.inl hp))]
theorem Qb.al(f:Qb X):Qb (X.al pZ E):=#[f.Gn,f.ZW]
theorem XE.toXL(f:Qb X)(h:XE X pZ σ (E σ) e s):XL X pZ E e s:=by
 let#[a,tb,cl,dx,H',rfl,I,xa,fr,q]:=h;have fr1:X.A.frames=some (X.env::X.outer):=by rw[I.ok.frames,f.Gn]
 have fs1:s.heap.FunFrames X.base (X.env::X.outer):=by have:=I.stack;rw[f.Gn] at this;erw[this]
 rwa[Nh (base:=X.base) (outer:=X.outer) (L:=X.env.locals) fr1 fs1 f.ZW xa λh2 T2 k2 n2 x2=>?_]
 exact#[σ,a,T2,cl,dx,H',rfl,I.yd (by rw[f.Gn];erw[k2]) fr,x2,fr a aS,I.OU n2,q]
theorem XE.se(f:Qb X)(h:XE (X.al pZ E) pins' σ (E σ) e s):XL X pZ E e s:=by
 let#[a,tb,cl,dx,H',e1,I,x,fr,q]:=h;erw[XE.toXL f #[a,tb,cl,dx,H',e1,I.se,x,λb hb=>(fr b hb).se,q]]
theorem Mf:FG (ba (X.al pZ E).prog (X.al pZ E).w) (X.al pZ E).A (X.al pZ E).env (X.al pZ E).xe:=PassesOwn.looking
end
theorem SP.se(q:SP (X.al pZ E) pins' D f s):SP X pZ D f s:=by
 cases f with
 |next=>let#[σ',H',I',q]:=q;exact#[σ',H',I'.se,q]
 |brk=>let#[σ',H',I',q]:=q;exact#[σ',H',I'.se,q]
 |cont=>let#[σ',H',I',q]:=q;exact#[σ',H',I'.se,q]
 |ret u=>let#[v,σ',H',I',r,q]:=q;exact#[v,σ',H',I'.se,r,q]
structure Tk(X:Cx)(E:St->XK):Prop where
 tk:∀(pZ:List (Addr×Obj))(σ:St)(s:aA)(e:Value),XE X pZ σ (E σ) e s->X.xe e s
 ps:FG (ba X.prog X.w) X.A X.env X.xe
theorem Us(f:Qb X):Tk (X.al pZ E) E:=#[λ_ _ _ _ h=>h.se f,Mf]
section
variable{X:Cx}{e:Expr}{E:St->XK}
theorem ze(k:Tk X E)(h:dI X e t):PE X e (λσ H Q=>t (E σ) σ H Q):=by
 intro pins' s σ H Q I z;erw[bU (h pins' s σ H Q (E σ) I z) (λu s' q=>q) λu s' q=>k.tk _ _ _ _ q]
theorem Ut(k:Tk X E)(h:B6 X e t):PT X e (λσ H Q=>t (E σ) σ H Q):=by
 intro pins' s σ H Q I z;erw[bU (h pins' s σ H Q (E σ) I z) (λu s' q=>q) λu s' q=>k.tk _ _ _ _ q]
theorem PS.imp{st:Stmt}{t t':TS}(h:PS X st t)(q:∀D σ H,t' D σ H->t D σ H):PS X st t':=λpZ s σ H D I z=>h pZ s σ H D I (q D σ H z)
theorem vU.imp{st:List Stmt}{t t':TS}(h:vU X st t)(q:∀D σ H,t' D σ H->t D σ H):vU X st t':=λpZ s σ H D I z=>h pZ s σ H D I (q D σ H z)
end
theorem Good.al(G:Good t T Γ k I X):Good t T Γ k I (X.al pZ E):=
 #[G.tab,G.LY,G.kind,G.names,G.slots,G.nd,G.calm,G.units]
structure DR(c:Ctx)(ρ:List Addr)(H:Hp)(DU:PL.Ends)(D:Ends)(E:St->XK):Prop where
 nx:∀env' S' σ' H' ρ',DU.nx env' S'->gI ρ H ρ' H'->cw c ρ' H' S'->jv c ρ' H' env' σ'->D.nx σ' H'
 rt:QV c ρ H DU.rt D.rt
 ex:∀env' σ' x S' H' ρ' C d,DU.ex env' x S'->gI ρ H ρ' H'->cw c ρ' H' S'->jv c ρ' H' env' σ'->ExcAt c ρ' H' x C d->E σ' (.ref C) (some d) H'
def tS(c:Ctx)(Γ:b8)(x:PL.Sm):(St->XK)->TS:=λE D σ H=>∃env ρ S DU,jv c ρ H env σ/\cw c ρ H S/\PL.WS Γ x DU env S/\DR c ρ H DU D E
def Ka(c:Ctx)(Γ:b8)(x:PL.dB):(St->XK)->TS:=λE D σ H=>∃env ρ S DU,jv c ρ H env σ/\cw c ρ H S/\PL.sU Γ x DU env S/\DR c ρ H DU D E
section
variable{c:Ctx}{ρ ρ':List Addr}{H H':Hp}{S:bD}{DU:PL.Ends}{D:Ends}{E:St->XK}
theorem DR.later(q:DR c ρ H DU D E)(a:gI ρ H ρ' H'):DR c ρ' H' DU D E:=
 #[λenv' S' σ' H2 ρ2 h b R e=>q.nx env' S' σ' H2 ρ2 h (a.trans b) R e,q.rt.later a,λenv' σ' x S' H2 ρ2 C d h b R e z=>q.ex env' σ' x S' H2 ρ2 C d h (a.trans b) R e z]
theorem DR.qx(q:DR c ρ H DU D E)(R:cw c ρ H S)(he:jv c ρ H env σ):QX c ρ H (DU.ex env) (E σ):=
 λx S' H2 ρ2 C d h b R2 z=>q.ex env σ x S' H2 ρ2 C d h b R2 (he.later R b) z
theorem jv.set(he:jv c ρ H env σ)(r:Rep c ρ H u v)(i:Nat):jv c ρ H (env.set i (some u)) (σ.set i (some v)):=by
 refine#[by simp[he.len],λj w e=>?_];by_cases z:j=i
 .subst z
  have hj:j<env.length:=by
   have:=(af.mp e).1;simpa using this
  rw[bg hj] at e;injection e with e;injection e with e;subst e
  exact#[v,by rw[bg (by rw[<-he.len];erw[hj])],r]
 .rw[ah (bZ z)] at e ⊢
  erw[he.at_ j w e]
end
open PL (U SO bD Xn KU KX b8)
structure hX(t:xi)(T:Tab)(Γ:b8)(k:Nat)(I:Inf)(X:Cx):Prop where
 g:Good t T Γ k I X
 fr:Qb X
 st:∀x,X.fn x=true
section
variable{t:xi}{T:Tab}{Γ:b8}{k n:Nat}{I:Inf}{X:Cx}
theorem hX.al{pZ:List (Addr×Obj)}{E:St->XK}(G:hX t T Γ k I X):hX t T Γ k I (X.al pZ E):=#[G.g.al,G.fr.al,G.st]
variable{E:St->XK}
theorem sf(h:tJ (names.lookup x)=true)(e:sc.names=names):Loc sc x:=by
 rw[<-e] at h;unfold Loc;cases q:sc.names.lookup x with
 |none=>rw[q] at h;cases h
 |some kd=>rw[q] at h;cases kd<;>simp[tJ] at h<;>simp
theorem Cd(z:tS (X.cc t) Γ (.set i x) E D σ H):tE (X.cc t) Γ x (E σ) σ H λv H1=>D.nx (σ.set i (some v)) H1:=by
 let#[env,ρ,S,DU,he,R,w,q]:=z;refine#[env,ρ,S,_,_,he,R,w,λu S1 v H1 ρ1 w1 st1 R1 r1=>?_,q.qx R he];erw[q.nx _ _ _ _ _ w1 st1 R1 ((he.later R st1).set r1 i)]
theorem Qc(G:hX t T Γ k I X)(K:Tk X E)(h:d8 x I.N=some i)(hl:tJ (I.names.lookup x)=true)(hs:∀env,fB e (some (.Name x p)) pos.line env=pure false)
  (hy:dI X e (tE (X.cc t) Γ y)):PS X (.Assign [.Name x p] e pos) (λD σ H=>tS (X.cc t) Γ (.set i y) E D σ H):=by
 refine(Gz (X:=X) (i:=i) G.g.nd (by show X.N[i]?=some x;rw[G.g.slots];erw[eU h]) (sf hl G.g.names) (ze K hy) (hs _) (.inl (G.st x))).imp ?_;intro D σ H z;erw[Cd z]
theorem Mg(G:hX t T Γ k I X)(K:Tk X E)(hf:f∈T.yt)(hx:dI X o (tE (X.cc t) Γ x))(hy:dI X e (tE (X.cc t) Γ y)):PS X (.Assign [.Attribute o (nm f) p] e pos) (λD σ H=>tS (X.cc t) Γ (.mC x f y) E D σ H):=by
 have hs:∀env,fB e (some (.Attribute o (nm f) p)) pos.line env=pure false:=λenv=>by cases e<;>rfl
 refine(Oz (X:=X) (ze K hx) (ze K hy) (hs _)).imp ?_;rintro D σ H ⟨env,ρ,S,DU,he,R,w,q⟩;refine#[env,ρ,S,_,_,he,R,w,λu S1 v H1 ρ1 w1 st1 R1 r1=>?_,q.qx R he];refine#[env,ρ1,S1,_,_,he.later R st1,R1,w1,λu2 S2 v2 H2 ρ2 w2 st2 R2 r2=>?_,(q.qx R he).later st1];let#[l,e1,w3]:=PL.gO.mp w2;subst e1;let#[c',fs,e2,hlen,w4]:=PL.lW.mp w3;let#[a,C,dx,vs,ev,ha,hC,hH,hn,hr]:=R2.ins e2 r2;let#[cl,na]:=G.g.tab.cls c' C hC;have hlv:vs.length=fs.length:=by have:=congrArg dh hn;simpa using this
 refine#[a,C,dx,vs,ev,hH,cl,na f hf,∅,?_];have st3:=gI.put (H:=H2) (ak ha) hH rfl (.ins C dx (jY (nm f) v vs));have t4:∀{fs:List (String×U)}{vs:List (Str×V)},vs.map (·.1)=(fs.map (·.1)).map nm->aZ (X.cc t) ρ2 H2 (fs.map (·.2)) (vs.map (·.2)) ->
   (jY (nm f) v vs).map (·.1)=((PL.gQ f u fs).map (·.1)).map nm/\aZ (X.cc t) ρ2 H2 ((PL.gQ f u fs).map (·.2)) ((jY (nm f) v vs).map (·.2)):=by
  intro fs;induction fs with
  |nil=>
   intro vs hn hr;cases vs with
   |nil=>exact#[rfl,aZ.cons (r1.mono R1 st2) aZ.nil]
   |cons a b=>simp at hn
  |cons p fs ih=>
   intro vs hn hr;let#[g,w']:=p;cases vs with
   |nil=>simp at hn
   |cons b vs=>
    let#[b1,b2]:=b;dsimp[az,dG] at hn;rw[az,az] at hr;unfold aZ at hr;let#[v',r',e',k1,k2]:=hr;injection e' with e1' e2'
    subst e1';subst e2';unfold jY PL.gQ;by_cases z:g=f
    .have z2:b1=nm f:=by rw[hn.1,z]
     rw[if_pos z2,if_pos z]
     exact#[by simp[hn.1,hn.2],aZ.cons (r1.mono R1 st2) k2]
    .have z2:¬b1=nm f:=λq=>z (ve _ _ (hn.1.symm.trans q))
     rw[if_neg z2,if_neg z]
     let#[m1,m2]:=ih hn.2 k2;exact#[by dsimp[az,dG];exact#[hn.1,m1],aZ.cons k1 m2]
 let#[m1,m2]:=t4 hn hr;rwa[q.nx _ _ _ _ _ w4 ((st1.trans st2).trans st3) (R2.put ha hH rfl #[C,dx,_,hC,bR,m1,m2.mono R2 st3]) ((he.later R (st1.trans st2)).later R2 st3)]
theorem Mh(G:hX t T Γ k I X)(K:Tk X E)(hx:dI X o (tE (X.cc t) Γ x))(hi:dI X i (tE (X.cc t) Γ z))(hy:dI X e (tE (X.cc t) Γ y)):PS X (.Assign [.Subscript o i p] e pos) (λD σ H=>tS (X.cc t) Γ (.ni x z y) E D σ H):=by
 have hs:∀env,fB e (some (.Subscript o i p)) pos.line env=pure false:=λenv=>by cases e<;>rfl
 refine(K5 (X:=X) (by have:=G.g.units;omega) (ze K hx) (ze K hi) (ze K hy) (hs _)).imp ?_;rintro D σ H ⟨env,ρ,S,DU,he,R,w,q⟩;refine#[env,ρ,S,_,_,he,R,w,λu S1 v H1 ρ1 w1 st1 R1 r1=>?_,q.qx R he];refine#[env,ρ1,S1,_,_,he.later R st1,R1,w1,λu2 S2 v2 H2 ρ2 w2 st2 R2 r2=>?_,(q.qx R he).later st1];refine#[env,ρ2,S2,_,_,(he.later R st1).later R1 st2,R2,w2,λu3 S3 v3 H3 ρ3 w3 st3 R3 r3=>?_,(q.qx R he).later (st1.trans st2)];let#[n,e1,w3]:=PL.gO.mp w3;subst e1;let#[kvs,e2,#[hk,hn,hl],w4]:=PL.zY.mp w3;let#[a,ev,ha]:=eD.mp (r2.mono R2 st3);let#[vs,g1,g2,g3,g4]:=R3.at_ n a _ ha e2;have l2:jd vs (vb u3)=none:=by
  rcases qU hk g2 g3 g4 with⟨_,l2⟩|⟨_,_,l1,_⟩
  .erw[l2]
  .rw[hn] at l1;cases l1
 have r1':=r1.mono R1 (st2.trans st3);have st4:=gI.put (H:=H3) (ak ha) g1 rfl (.dK (vs++[(vb u3,v)]));refine#[a,upd H3 a (.dK (vs++[(vb u3,v)])),ev,.inl #[vs,vb u3,g1,jS hk r3,by rw[g2];erw[aq hl ⋯],by rw[zM v l2]],?_];rwa[q.nx _ _ _ _ _ w4 (((st1.trans st2).trans st3).trans st4) (R3.put ha g1 rfl #[_,bR,by simp[g2],?_,?_]) ((he.later R ((st1.trans st2).trans st3)).later R3 st4)]
 .rw[aH,aH]
  exact(g3.mono R3 st4).app (aZ.cons (show Rep (X.cc t) ρ3 _ u3 (kV (vb u3)) by rw[<-jS hk r3];erw[r3.mono R3 st4]) aZ.nil)
 .rw[aH,aH]
  exact(g4.mono R3 st4).app (aZ.cons (r1'.mono R3 st4) aZ.nil)
theorem Uu(G:hX t T Γ k I X)(K:Tk X E)(hc:yu e=true)(hy:dI X e (tE (X.cc t) Γ y)):PS X (.Expr e pos) (λD σ H=>tS (X.cc t) Γ (.ex y) E D σ H):=by
 refine(Kv (X:=X) (ze K hy) (Ag hc)).imp ?_;rintro D σ H ⟨env,ρ,S,DU,he,R,w,q⟩;refine#[env,ρ,S,_,_,he,R,w,λu S1 v H1 ρ1 w1 st1 R1 r1=>?_,q.qx R he];erw[q.nx _ _ _ _ _ w1 st1 R1 (he.later R st1)]
theorem Qd(G:hX t T Γ k I X)(K:Tk X E)(hy:dI X e (tE (X.cc t) Γ y)):PS X (.Return (some e) pos) (λD σ H=>tS (X.cc t) Γ (.ret y) E D σ H):=by
 refine(N6 (X:=X) (ze K hy)).imp ?_;rintro D σ H ⟨env,ρ,S,DU,he,R,w,q⟩;exact#[env,ρ,S,_,_,he,R,w,q.rt,q.qx R he]
theorem Qe(G:hX t T Γ k I X)(K:Tk X E)(hx:B6 X c (tT (X.cc t) Γ x))(hy:vU X a (λD σ H=>Ka (X.cc t) Γ y E D σ H))(hz:vU X b (λD σ H=>Ka (X.cc t) Γ z E D σ H)):PS X (.If c a b pos) (λD σ H=>tS (X.cc t) Γ (.ifs x y z) E D σ H):=by
 refine(Sj (X:=X) (Ut K hx) (hy) (hz)).imp ?_;rintro D σ H ⟨env,ρ,S,DU,he,R,w,q⟩;refine#[env,ρ,S,_,_,he,R,w,λb S1 H1 ρ1 w1 st1 R1=>?_,q.qx R he];cases b with
 |true=>exact#[env,ρ1,S1,DU,he.later R st1,R1,w1,q.later st1]
 |false=>exact#[env,ρ1,S1,DU,he.later R st1,R1,w1,q.later st1]
theorem Ce(hp:B5 op=some p):op=LH p/\(p=.add\/p=.sub\/p=.bor):=by cases op<;>first|exact nn hp| (cases hp;exact#[rfl,by simp])
theorem Qf(G:hX t T Γ k I X)(K:Tk X E)(h:d8 x I.N=some i)(hl:tJ (I.names.lookup x)=true)(hp:B5 op=some p)(hy:dI X e (tE (X.cc t) Γ y)):PS X (.AugAssign (.Name x px) op e pos) (λD σ H=>tS (X.cc t) Γ (.aug i p y) E D σ H):=by
 have eo:=Ce hp;rw[eo.1]
 refine(N9 (X:=X) (i:=i) G.g.nd (by show X.N[i]?=some x;rw[G.g.slots];erw[eU h]) (sf hl G.g.names) (ze K hy) (yy (X:=X) (c:=X.cc t) eo.2) (.inl (G.st x))).imp ?_;rintro D σ H ⟨env,ρ,S,DU,he,R,w,q⟩;let#[u0,e0,w0]:=PL.zX.mp (show PL.yj _ _ from w);let#[v0,e1,r0]:=he.at_ i u0 e0;refine#[v0,e1,env,ρ,S,_,_,he,R,w0,λu S1 v H1 ρ1 w1 st1 R1 r1=>?_,q.qx R he];refine#[u0,u,ρ1,S1,_,r0.mono R st1,r1,R1,w1,λu2 S2 v2 H2 ρ2 w2 st2 R2 r2=>?_];erw[q.nx _ _ _ _ _ w2 (st1.trans st2) R2 ((he.later R (st1.trans st2)).set r2 i)]
end
open PL (U SO bD Xn KU KX b8)
section
variable{t:xi}{T:Tab}{Γ:b8}{k n:Nat}{I:Inf}{X:Cx}{E:St->XK}
theorem t4(ru:Rep c ρ H u v):∀{fs:List (String×U)}{vs:List (Str×V)},vs.map (·.1)=(fs.map (·.1)).map nm->aZ c ρ H (fs.map (·.2)) (vs.map (·.2)) ->
   (jY (nm f) v vs).map (·.1)=((PL.gQ f u fs).map (·.1)).map nm/\aZ c ρ H ((PL.gQ f u fs).map (·.2)) ((jY (nm f) v vs).map (·.2))
 |[],[],_,_=>#[rfl,aZ.cons ru aZ.nil]
 |[],_::_,hn,_=>by simp at hn
 |_::_,[],hn,_=>by simp at hn
 | (g,w')::fs,(b1,b2)::vs,hn,hr=>by
  dsimp[az,dG] at hn;rw[az,az] at hr;unfold aZ at hr;let#[v',r',e',k1,k2]:=hr;injection e' with e1' e2'
  subst e1';subst e2';unfold jY PL.gQ;by_cases z:g=f
  .have z2:b1=nm f:=by rw[hn.1,z]
   rw[if_pos z2,if_pos z]
   exact#[by simp[hn.1,hn.2],aZ.cons ru k2]
  .have z2:¬b1=nm f:=λq=>z (ve _ _ (hn.1.symm.trans q))
   rw[if_neg z2,if_neg z]
   let#[m1,m2]:=t4 ru hn.2 k2;exact#[by dsimp[az,dG];exact#[hn.1,m1],aZ.cons k1 m2]
theorem Mi(G:hX t T Γ k I X)(K:Tk X E)(hf:f∈T.yt)(hp:B5 op=some p)(hx:dI X o (tE (X.cc t) Γ x))(hy:dI X e (tE (X.cc t) Γ y)):PS X (.AugAssign (.Attribute o (nm f) tp) op e pos) (λD σ H=>tS (X.cc t) Γ (.BP x f p y) E D σ H):=by
 have eo:=Ce hp;rw[eo.1]
 refine(Ey (X:=X) (ze K hx) (ze K hy) (rd:=E0 (X.cc t) p) (yy (X:=X) (c:=X.cc t) eo.2)).imp ?_;rintro D σ H ⟨env,ρ,S,DU,he,R,w,q⟩;refine#[env,ρ,S,_,_,he,R,w,λu S1 v H1 ρ1 w1 st1 R1 r1=>?_,q.qx R he];let#[l,e1,w2]:=PL.gO.mp w1;subst e1;let#[c',fs,e2,w3]:=PL.lW.mp w2;let#[u0,e3,w4]:=PL.iC.mp w3;let#[a,C,dx,vs,ev,ha,hC,hH,hn,hr]:=R1.ins e2 r1;let#[cl,na]:=G.g.tab.cls c' C hC;let#[v0,l0,r0]:=pX hn hr e3 ve;refine#[a,C,dx,vs,v0,ev,hH,cl,na f hf,l0,?_];refine#[env,ρ1,S1,_,_,he.later R st1,R1,w4,λu2 S2 v2 H2 ρ2 w5 st2 R2 r2=>?_,(q.qx R he).later st1];refine#[u0,u2,ρ2,S2,_,r0.mono R1 st2,r2,R2,w5,λu3 S3 v3 H3 ρ3 w6 st3 R3 r3=>?_];let#[c'',fs',e4,#[e5,hlen,w7]]:=PL.lW.mp w6;subst e5;have ha3:=(st2.trans st3).get ha;let#[C',dx',vs',hC',hH',hn',hr']:=R3.at_ l a _ ha3 e4;rw[hC] at hC';injection hC' with hC';subst hC'
 have hlv:vs'.length=fs'.length:=by have:=congrArg dh hn';simpa using this
 refine#[dx',vs',hH',∅,?_];have st4:=gI.put (H:=H3) (ak ha3) hH' rfl (.ins C dx' (jY (nm f) v3 vs'));let#[m1,m2]:=t4 r3 hn' hr';rwa[q.nx _ _ _ _ _ w7 (((st1.trans st2).trans st3).trans st4) (R3.put ha3 hH' rfl #[C,dx',_,hC,bR,m1,m2.mono R3 st4]) ((he.later R ((st1.trans st2).trans st3)).later R3 st4)]
def Uv(K:Frag):V->V->Hp->VK->Prop:=λo i H Q=>∃p xs k v,o=.ref p/\i=.int k/\H p=some (.lst xs)/\0<=k/\xs[k.toNat]?=some v/\Q v H
theorem E6:Sq X (Uv X.K):=by
 intro pZ s σ H o i ov iv Q I ro ri h;let#[p,xs,k,v,rfl,rfl,hp,h0,hk,q]:=h;cases ro;let#[t,rfl]:=ri;let#[its,r,pl,hz]:=I.list (.inl (.inl hp));let#[w,ew,rw']:=r.get hk;have hn:=nV;have hl:=(af.mp hk).1;erw[getItem_listL pl.isList h0 ∅ ew #[v,H,I,rw',q]]
theorem Uw(r:aZ c ρ H us vs)(ru:Rep c ρ H u v):∀(j:Nat),aZ c ρ H (us.set j u) (vs.set j v):=by
 intro j;induction us generalizing vs j with
 |nil=>cases vs with
  |nil=>erw[r]
  |cons a b=>erw[absurd r.len (by simp)]
 |cons x us ih=>cases vs with
  |nil=>erw[absurd r.len (by simp)]
  |cons a b=>
   unfold aZ at r;let#[v',r',e',k1,k2]:=r;injection e' with e1 e2
   subst e1;subst e2;cases j with
   |zero=>erw[aZ.cons ru k2]
   |succ j=>erw[aZ.cons k1 (ih k2 j)]
theorem Mj(G:hX t T Γ k I X)(K:Tk X E)(hn:kD i=true)(hp:B5 op=some p)(hx:dI X o (tE (X.cc t) Γ x))(hi:dI X i (tE (X.cc t) Γ y))(hy:dI X e (tE (X.cc t) Γ z)):PS X (.AugAssign (.Subscript o i tp) op e pos) (λD σ H=>tS (X.cc t) Γ (.EJ x y p z) E D σ H):=by
 have eo:=Ce hp;rw[eo.1]
 refine(Kw (X:=X) (ze K hx) (ze K hi) E6 (ze K hy) (tip:=E0 (X.cc t) p) (yy (X:=X) (c:=X.cc t) eo.2) set_list (λov iv new=>by cases i<;>first|rfl|simp[kD] at hn)).imp ?_;rintro D σ H ⟨env,ρ,S,DU,he,R,w,q⟩;refine#[env,ρ,S,_,_,he,R,w,λu S1 v H1 ρ1 w1 st1 R1 r1=>?_,q.qx R he];refine#[env,ρ1,S1,_,_,he.later R st1,R1,w1,λu2 S2 v2 H2 ρ2 w2 st2 R2 r2=>?_,(q.qx R he).later st1];obtain⟨l,e1,w3⟩:=PL.gO.mp w2;subst e1;obtain⟨j,e2,w4⟩:=PL.eL.mp w3;subst e2;obtain⟨us,e3,h0,w5⟩:=PL.cH.mp w4;obtain⟨u0,e4,w6⟩:=PL.iC.mp w5;obtain⟨a,vs,ev,ha,hH,hr⟩:=R2.lst e3 (r1.mono R1 st2);subst ev;obtain⟨v0,l0,r0⟩:=hr.get e4;refine#[a,vs,j,v0,rfl,aO.mp r2,hH,h0,l0,?_];refine#[env,ρ2,S2,_,_,(he.later R st1).later R1 st2,R2,w6,λu3 S3 v3 H3 ρ3 w7 st3 R3 r3=>?_,(q.qx R he).later (st1.trans st2)];refine#[u0,u3,ρ3,S3,_,r0.mono R2 st3,r3,R3,w7,λu4 S4 v4 H4 ρ4 w8 st4 R4 r4=>?_];obtain⟨us',e5,hj,w9⟩:=PL.cH.mp w8;have ha4:=(st3.trans st4).get ha;obtain⟨vs',hH',hr'⟩:=R4.at_ l a _ ha4 e5;refine#[a,vs',j,j.toNat,rfl,aO.mp r2,hH',?_,?_]
 .unfold OF
  rw[if_pos h0,if_pos (by have:=hr'.len;omega)]
 have st5:=gI.put (H:=H4) (ak ha4) hH' rfl (.lst (vs'.set j.toNat v4));rwa[q.nx _ _ _ _ _ w9 ((((st1.trans st2).trans st3).trans st4).trans st5) (R4.put ha4 hH' rfl #[_,bR,(Uw hr' r4 j.toNat).mono R4 st5]) ((he.later R (((st1.trans st2).trans st3).trans st4)).later R4 st5)]
def Ux(to ti te:TE)(tset:Gx):TS:=λD σ H=>te σ H λv H1=>to σ H1 λo H2=>ti σ H2 λi H3=>tset o i v H3 λH4=>D.nx σ H4
theorem Ml{o i e:Expr}{to ti te:TE}{tset:Gx}{p pos:Pos}(ho:PE X o to)(hi:PE X i ti)(he:PE X e te)(hs:N8 X tset)(hw:fB e (some (.Subscript o i p)) pos.line X.env=pure false):PS X (.Assign [.Subscript o i p] e pos) (Ux to ti te tset):=by
 intro pZ s σ H D I h;rwa[Gd (d6 (he pZ s σ H _ I h) λr s1 h9=>?_) hw];let#[v,H1,I1,rv,q1]:=h9;rwa[d6 (ho pZ s1 σ H1 _ I1 q1) λu s2 h9=>?_]
 let#[x,H2,I2,rx,q2]:=h9;rwa[d6 (hi pZ s2 σ H2 _ I2 q2) λiv s3 h9=>?_]
 let#[y,H3,I3,ry,q3]:=h9;rwa[d6 (hs pZ s3 σ H3 _ _ _ _ _ _ _ I3 rx ry rv q3) λ_ s4 h9=>?_]
 let#[H4,I4,q4]:=h9;exact#[σ,H4,I4,q4]
theorem Mm{o i e:Expr}{x y z:PL.Ex}{p pos:Pos}(G:hX t T Γ k I X)(K:Tk X E)(hx:dI X o (tE (X.cc t) Γ x))(hi:dI X i (tE (X.cc t) Γ z))(hy:dI X e (tE (X.cc t) Γ y)):PS X (.Assign [.Subscript o i p] e pos) (λD σ H=>tS (X.cc t) Γ (.Li x z y) E D σ H):=by
 have hs:∀env,fB e (some (.Subscript o i p)) pos.line env=pure false:=λenv=>by cases e<;>rfl
 refine(Ml (X:=X) (ze K hx) (ze K hi) (ze K hy) set_list (hs _)).imp ?_;rintro D σ H ⟨env,ρ,S,DU,he,R,w,q⟩;refine#[env,ρ,S,_,_,he,R,w,λu S1 v H1 ρ1 w1 st1 R1 r1=>?_,q.qx R he];refine#[env,ρ1,S1,_,_,he.later R st1,R1,w1,λu2 S2 v2 H2 ρ2 w2 st2 R2 r2=>?_,(q.qx R he).later st1];refine#[env,ρ2,S2,_,_,(he.later R st1).later R1 st2,R2,w2,λu3 S3 v3 H3 ρ3 w3 st3 R3 r3=>?_,(q.qx R he).later (st1.trans st2)];let#[l,e1,w3]:=PL.gO.mp w3;subst e1;let#[j,e2,w4]:=PL.eL.mp w3;subst e2;let#[us,e3,w5]:=PL.cH.mp w4;let#[m,e4,w6]:=PL.iC.mp w5;let#[a,vs,ev,ha,hH,hr]:=R3.lst e3 (r2.mono R2 st3);subst ev;refine#[a,vs,j,m,rfl,aO.mp r3,hH,by rw[hr.len] at e4;erw[e4],?_];have r1':=r1.mono R1 (st2.trans st3);have st5:=gI.put (H:=H3) (ak ha) hH rfl (.lst (vs.set m v));rwa[q.nx _ _ _ _ _ w6 (((st1.trans st2).trans st3).trans st5) (R3.put ha hH rfl #[_,bR,(Uw hr r1' m).mono R3 st5]) ((he.later R ((st1.trans st2).trans st3)).later R3 st5)]
theorem Qg(K:Tk X E)(hx:B6 X c (tT (X.cc t) Γ x))(hy:vU X b (λD σ H=>Ka (X.cc t) Γ y E D σ H)):PS X (.While c b [] pos) (λD σ H=>tS (X.cc t) Γ (.A2 x y) E D σ H):=by
 refine(GB (X:=X) K.ps (Ut K hx) hy).imp ?_;rintro D σ H ⟨env,ρ,S,DU,he,R,w,q⟩;let#[n0,w0]:=w
 let F:=PL.ym (λen S1 k=>PL.WT Γ x en S1 k (DU.ex en)) (λen S1 k=>PL.sU Γ y {DU with nx:=k} en S1) DU.nx
 refine#[λm σ1 H1=>∃env1 ρ1 S1,gI ρ H ρ1 H1/\cw (X.cc t) ρ1 H1 S1/\jv (X.cc t) ρ1 H1 env1 σ1/\F m env1 S1,#[n0,env,ρ,S,.refl,R,he,w0],?_];rintro m σ1 H1 ⟨env1,ρ1,S1,st1,R1,he1,w1⟩;cases m with
 |zero=>erw[aL w1]
 |succ m=>
  have w1':PL.WT Γ x env1 S1 (λt S1=>if t=true then PL.sU Γ y {DU with nx:=F m} env1 S1 else DU.nx env1 S1) (DU.ex env1):=w1;have q1:=q.later st1;refine#[env1,ρ1,S1,_,_,he1,R1,w1',λb S2 H2 ρ2 w2 st2 R2=>?_,q1.qx R1 he1];cases b with
  |false=>erw[q1.nx _ _ _ _ _ w2 st2 R2 (he1.later R1 st2)]
  |true=>
   refine#[λσ3 H3=>∃env3 ρ3 S3,gI ρ H ρ3 H3/\cw (X.cc t) ρ3 H3 S3/\jv (X.cc t) ρ3 H3 env3 σ3/\F m env3 S3,λσ3 H3 h3=>#[m,cv m,h3],?_];have q2:=q1.later st2;refine#[env1,ρ2,S2,_,he1.later R1 st2,R2,w2,#[λenv' S' σ' H' ρ' h b R' e=>#[env',ρ',S',(st1.trans st2).trans b,R',e,h],q2.rt,q2.ex]]
def Ip(Γ:b8)(tt:PL.Tg)(z:PL.dB)(DU:PL.Ends)(u:U)(en:PL.Env)(S:bD)(k:PL.Env->bD->Prop):Prop:=match tt with
 |.name i=>PL.sU Γ z {DU with nx:=k} (en.set i (some u)) S
 |.pair i j=>PL.Nm u λx y=>PL.sU Γ z {DU with nx:=k} ((en.set i (some x)).set j (some y)) S
theorem Iq:PL.WS Γ (.je tt y z) DU env S=PL.WI Γ y env S (λus g S1=>PL.vY g (Ip Γ tt z DU) DU.nx us env S1) (DU.ex env):=by
 cases tt<;>rfl
theorem Ir(G:hX t T Γ k I X)(K:Tk X E)(hc:I.calm=true)(hs:∀env v,foldedSetIterable it env v=pure v)
  (hi:PI X tg it (λσ H R=>xj (X.cc t) Γ y (E σ) σ H R)) (hg:PG X tg g0) (hb:vU X b (λD σ H=>Ka (X.cc t) Γ z E D σ H))
  (hr0:∀{ρ H S env σ u v DU D Q k},jv (X.cc t) ρ H env σ->cw (X.cc t) ρ H S->Rep (X.cc t) ρ H u v->Ip Γ tt z DU u env S k->DR (X.cc t) ρ H {DU with nx:=k} D E->(∀σ' H',Ka (X.cc t) Γ z E D σ' H'->Q σ' H')->g0 v σ H Q):
  PS X (.For tg it b [] pos) (λD σ H=>tS (X.cc t) Γ (.je tt y z) E D σ H):=by
 refine(Ob (X:=X) K.ps (G.g.calm hc).1 hi hg hb (hs _)).imp ?_;rintro D σ H ⟨env,ρ,S,DU,he,R,w,q⟩;rw[Iq] at w;refine#[env,ρ,S,_,_,he,R,w,λus g S1 H1 ρ1 J w1 st1 R1 io=>?_,q.qx R he]
 let F:=PL.vY g (Ip Γ tt z DU) DU.nx
 refine#[λj m σ2 H2=>m+j=us.length/\∃env2 ρ2 S2,gI ρ1 H1 ρ2 H2/\cw (X.cc t) ρ2 H2 S2/\jv (X.cc t) ρ2 H2 env2 σ2/\F (us.drop j) env2 S2,#[us.length,rfl,env,ρ1,S1,.refl,R1,he.later R st1,w1],?_];rintro j m σ2 H2 ⟨hm,env2,ρ2,S2,st2,R2,he2,wf⟩;have q2:=q.later (st1.trans st2);cases hd:us.drop j with
 |nil=>
  rw[hd] at wf;obtain⟨g2,w2⟩:g S2/\DU.nx env2 S2:=wf;erw[.inl #[(io j ρ2 H2 S2 st2 R2 g2).2 (CN.mp hd),q2.nx _ _ _ _ _ w2 .refl R2 he2]]
 |cons u rest=>
  rw[hd] at wf;let#[g2,w2]:=wf;have hu:us[j]?=some u:=by
   have:=congrArg (λl=>l[0]?) hd;simpa using this
  have hr:us.drop (j+1)=rest:=by
   have:=congrArg List.tail hd;simpa using this
  have hj:j<us.length:=(af.mp hu).1;let#[jg,jy]:=(io j ρ2 H2 S2 st2 R2 g2).1 u hu;rwa[.inr #[jg,λσ3 H3=>∃env3 ρ3 S3,gI ρ1 H1 ρ3 H3/\cw (X.cc t) ρ3 H3 S3/\jv (X.cc t) ρ3 H3 env3 σ3/\F rest env3 S3,λσ3 H3 h3=>#[m-1,∅,∅,by rw[hr];erw[h3]],λyv H3 hy=>?_]];let#[st3,R3,ry]:=jy yv H3 hy;have q3:=q2.later st3;rwa[hr0 (DU:=DU) (k:=F rest) (D:=#[_,_,_,_]) (he2.later R2 st3) R3 ry w2 ?_ λσ' H' h=>h]
  exact#[λenv' S' σ' H' ρ' h b R' e=>#[env',ρ',S',(st2.trans st3).trans b,R',e,h],q3.rt,q3.ex]
theorem Mn(G:hX t T Γ k I X)(K:Tk X E)(hc:I.calm=true)(h:d8 x I.N=some i)(hl:tJ (I.names.lookup x)=true)(hs:∀env v,foldedSetIterable it env v=pure v)
  (hi:PI X (.Name x px) it (λσ H R=>xj (X.cc t) Γ y (E σ) σ H R)) (hb:vU X b (λD σ H=>Ka (X.cc t) Γ z E D σ H)):PS X (.For (.Name x px) it b [] pos) (λD σ H=>tS (X.cc t) Γ (.je (.name i) y z) E D σ H):=
 Ir (tt:=.name i) G K hc hs hi (qy (i:=i) G.g.nd (by rw[G.g.slots];exact eU h) (sf hl G.g.names) (.inl (G.st x))) hb
  λhe R ru w q hq=>hq _ _ #[_,_,_,_,he.set ru i,R,w,q]
theorem Mo(G:hX t T Γ k I X)(K:Tk X E)(hc:I.calm=true)(h:d8 x I.N=some i)(hl:tJ (I.names.lookup x)=true)(h2:d8 x2 I.N=some j)(hl2:tJ (I.names.lookup x2)=true)(hs:∀env v,foldedSetIterable it env v=pure v)
  (hi:PI X (.Tuple [.Name x px,.Name x2 px2] kk pt) it (λσ H R=>xj (X.cc t) Γ y (E σ) σ H R)) (hb:vU X b (λD σ H=>Ka (X.cc t) Γ z E D σ H)):PS X (.For (.Tuple [.Name x px,.Name x2 px2] kk pt) it b [] pos) (λD σ H=>tS (X.cc t) Γ (.je (.pair i j) y z) E D σ H):=by
 have p1:PG X (.Name x px) (wG i):=qy (i:=i) G.g.nd (by rw[G.g.slots];erw[eU h]) (sf hl G.g.names) (.inl (G.st x));have p2:PG X (.Name x2 px2) (wG j):=qy (i:=j) G.g.nd (by rw[G.g.slots];erw[eU h2]) (sf hl2 G.g.names) (.inl (G.st x2));rwa[Ir (tt:=.pair i j) G K hc hs hi (Gy (n:=2) (G.g.calm hc).1 (qz p1 (qz p2 CP rfl) rfl) rfl rfl) hb ?_];intro ρ H S env σ u v DU D Q kk he R ru w q hq;let#[a,b',e1,w]:=PL.C4.mp (show PL.Nm _ _ from w);subst e1;let#[ad,vs,ev,hs',rs]:=dJ.mp ru;subst ev;unfold aZ at rs;let#[v1,r1,rfl,k1,k2]:=rs;unfold aZ at k2;let#[v2,r2,rfl,k3,k4]:=k2;unfold aZ at k4;subst k4;exact#[ad,[v1,v2],rfl,.inl (.inl hs'),rfl,v1,[v2],rfl,v2,[],rfl,rfl,hq _ _ #[_,_,_,_,(he.set k1 i).set k3 j,R,w,q]]
end
open PL (U SO bD Xn KU KX b8)
section
variable{t:xi}{T:Tab}{Γ:b8}{k n:Nat}{I:Inf}{X:Cx}{E:St->XK}
theorem pM.oh(h:pM (X.at_ pZ E) [] H b):pM X pZ H b:=
 #[h.1,h.2.1,h.2.2.1,h.2.2.2.1,h.2.2.2.2.1,λp hp=>h.2.2.2.2.2 p (by simpa using hp)]
theorem Iu(K:Tk X E)(h:∀pZ E,PI (X.at_ pZ E) tg it (λσ H R=>xj (X.cc t) Γ y (E σ) σ H R)):PI X tg it (λσ H R=>xj (X.cc t) Γ y (E σ) σ H R):=by
 intro pZ s σ H R J z;have tk:∀e s,Tj X pZ E e s->X.xe e s:=λe s #[σ',h]=>K.tk _ _ _ _ h
 rwa[bU (h pZ E [] s σ H R J.at_ z) (λv s1 q=>bU q (λitv s2 q2=>?_) tk) tk];let#[ita,fp,tn,Jt,H',e,I',tu,t0,hf,hr]:=q2;exact#[ita,fp,tn,Jt,H',e,I'.oh,tu,t0,λb hb=>(hf b hb).oh,hr]
theorem Cf{elt iter tg:Expr}{ifs:List Expr}{x:List Str}{y:Str}{i:Nat}{py pos spos:Pos}{sc:jB}{it:PL.It}{tc:PL.Tx}{e:PL.Ex}{ci:List Nat}(G:hX t T Γ k I X)(K:Tk X E)(hc:I.calm=true)(ht:LC tg=some x)(hb:u6 I sc x=true)(hci:(iz I sc).mapM (λy=>d8 y I.N)=some ci)
  (hs:∀env v,foldedSetIterable iter env v=pure v) (hi:∀pZ E,PI (X.at_ pZ E) tg iter (λσ H R=>xj (X.cc t) Γ it (E σ) σ H R))
  (hif:∀(X':Cx),Good t T Γ k #[qP I sc.names,x++iz I sc,true] X'->X'.cc t=X.cc t->(∀e s,X'.xe e s↔False)->Lb X' ifs (λσ H Q=>tT (X.cc t) Γ tc (λ_ _ _=>False) σ H Q))
  (he:∀(X':Cx),Good t T Γ k #[qP I sc.names,x++iz I sc,true] X'->X'.cc t=X.cc t->dI X' elt (tE (X.cc t) Γ e))
  (hy:d8 y I.N=some i) (hk:I.names.lookup y=some .local) (hsw:fB (.ListComp elt [#[tg,iter,ifs,0]] sc pos) (some (.Name y py)) spos.line X.env=pure true):
  PS X (.Assign [.Name y py] (.ListComp elt [#[tg,iter,ifs,0]] sc pos) spos) (λD σ H=>tS (X.cc t) Γ (.set i (.comp (x.length==2) e it tc ci)) E D σ H):=by
 have hn:(iz I sc).Nodup:=by
  unfold iz;have:=G.g.nd;rw[G.g.slots] at this;erw[this.filter _]
 have cp:=Dp G.g hci;refine(BK (X:=X) (i:=i) (wi:=λσ H R=>xj (X.cc t) Γ it (E σ) σ H R) (tc:=λσ H Q=>tT (X.cc t) Γ tc (λ_ _ _=>False) σ H Q) (te:=λσ H Q=>tE (X.cc t) Γ e (λ_ _ _=>False) σ H Q)
  (vf G.g hb) cp hn (G.g.calm hc).1 (Il ht (vf G.g hb) cp hn (G.g.calm hc).1) (Iu K hi) (λC s₀ H₀ ex=>hif _ (qX G.g hc hb cp hn) rfl λ_ _=>j8) (λC s₀ H₀ ex=>(he _ (qX G.g hc hb cp hn) rfl).no λ_ _=>j8) G.g.nd (by rw[G.g.slots];erw[eU hy]) (by rw[G.g.names];erw[hk]) hsw (hs _)).imp ?_
 intro D σ H z;erw[xp (Cd z)]
theorem Qh{h:ExceptHandler}{hs:List ExceptHandler}{b:List Stmt}{pos:Pos}{xb:PL.dB}(hb:∀pZ E',vU (X.al pZ E') b (λD σ H=>Ka (X.cc t) Γ xb E' D σ H)):
  PS X (.Try b (h::hs) [] [] pos) (λD σ H=>tS (X.cc t) Γ (.RK xb) E D σ H):=by
 rintro pZ s σ H D I ⟨env,ρ,S,DU,he,R,w,qq⟩;rwa[wpAny_Try_except (bU (hb pZ (λ_ _ _ _=>False) [] s σ H D I.al #[env,ρ,S,_,he,R,w,#[qq.nx,qq.rt,λ_ _ _ _ _ _ _ _ z=>aL z]]) (λf s1 q=>?_) λex s1 q=>?_)]
 .have q:=q.se
  cases f with
  |next=>erw[p7 q]
  |ret v=>erw[q]
  |brk=>erw[q]
  |cont=>erw[q]
 .rwa[bU q (λ_ s2 q2=>?_) λ_ _ z=>aL z]
  let#[_,_,_,_,_,_,_,_,_,_,_,k]:=q2;erw[k.elim]
end
open PL (U SO bD Xn KU KX b8)
structure Mp(t:xi)(T:Tab)(Γ:b8)(k n:Nat):Prop where
 fs:∀{I X st x E},hX t T Γ k I X->Tk X E->cS T n I st=some x->PS X st (λD σ H=>tS (X.cc t) Γ x E D σ H)
 Nz:∀{I X st x E},hX t T Γ k I X->Tk X E->J4 T n I st=some x->vU X st (λD σ H=>Ka (X.cc t) Γ x E D σ H)
section
variable{t:xi}{T:Tab}{Γ:b8}{k n:Nat}{I:Inf}{X:Cx}{E:St->XK}
theorem Qi(IH:Mp t T Γ k n)(G:hX t T Γ k I X)(K:Tk X E):∀{st:List Stmt}{x:PL.dB},J4 T (n+1) I st=some x->vU X st (λD σ H=>Ka (X.cc t) Γ x E D σ H)
 |[],x,h=>by
  rw[Nx,LF] at h;injection h with h;subst h
  refine(Ku (X:=X)).imp ?_;rintro D σ H ⟨env,ρ,S,DU,he,R,w,q⟩;erw[q.nx _ _ _ _ _ w .refl R he]
 |s::ss,x,h=>by
  rw[Nx,LF] at h;dsimp[aK,ay] at h;let#[y,h1,ys,h2,h3]:=h;injection h3 with h3;subst h3
  refine(Gv (X:=X) (IH.fs G K h1) (IH.Nz G K h2)).imp ?_;rintro D σ H ⟨env,ρ,S,DU,he,R,w,q⟩;refine#[env,ρ,S,_,he,R,w,#[λenv' S' σ' H' ρ' h st R' e=>?_,q.rt,q.ex]];exact#[env',ρ',S',DU,e,R',h,q.later st]
theorem Uy(IH:Mp t T Γ k n)(G:hX t T Γ k I X)(K:Tk X E){st:Stmt}{x:PL.Sm}(h:cS T (n+1) I st=some x):PS X st (λD σ H=>tS (X.cc t) Γ x E D σ H):=by
 have A:=yA (t:=t) (T:=T) (Γ:=Γ) (k:=k) n;rw[Yz] at h;cases st with(delta Yx at h;dsimp only at h)
 |Assign ts e pos=>
  split at h
  .rename_i tg
   cases tg with
   |Name x' px=>
    dsimp only at h;split at h
    .rename_i i hi
     split at h
     .rename_i hl
      let#[y,h1,h2]:=ar.mp h;subst h2;by_cases nc:yu e=true
      .erw[Qc G K hi hl (λenv=>Ag nc) (A.fe G.g h1)]
      .change cE T n I _=_ at h1
       cases n with
       |zero=>rw[T4] at h1;erw[nn h1]
       |succ n=>
        have A':=yA (t:=t) (T:=T) (Γ:=Γ) (k:=k) n;cases e with
        |ListComp elt gs sc cpos=>
         let#[tg,iter,ifs,xs,it,c,ee,ci,rfl,ht,hc,g1,g2,g3,g4,g5]:=u7 h1;subst g5;have hi':=Aj A' G.g ht g1;cases sw:(X.env.blockKind==.function&&X.env.kindOf x'==some .local&&px.line==cpos.line && !(sc.names.any λ(n,k)=>n==x'&&(k==.local||k==.cell))) with
         |true=>
          have hsw:fB (.ListComp elt [#[tg,iter,ifs,0]] sc cpos) (some (.Name x' px)) pos.line X.env=pure true:=by
           show(pure _:Sem Bool)=pure true
           erw[congrArg pure sw]
          have hkl:I.names.lookup x'=some .local:=by
           dsimp[ao] at sw;have:=sw.1.1.2;unfold Env.kindOf at this;rw[G.g.names] at this;simpa using this
          rwa[Cf G K hc.2 ht hc.1 g4 hi'.1 hi'.2 (λX' G' ec hx=>Ds A' G' ec hx g2) (λX' G' ec=>?_) hi hkl hsw];have:=A'.fe G' g3;rw[ec] at this;erw[this]
         |false=>
          have hsw:fB (.ListComp elt [#[tg,iter,ifs,0]] sc cpos) (some (.Name x' px)) pos.line X.env=pure false:=by
           show(pure _:Sem Bool)=pure false
           erw[congrArg pure sw]
          refine(Gz (X:=X) (i:=i) G.g.nd (by rw[G.g.slots];erw[eU hi]) (sf hl G.g.names) (ze K (A.fe G.g h1)) hsw (.inl (G.st x'))).imp ?_;intro D σ H z;erw[Cd z]
        |SetComp=>rw[LD] at h1;unfold RP at h1;erw[nn h1]
        |DictComp=>rw[LD] at h1;unfold RP at h1;erw[nn h1]
        |_=>erw[absurd rfl nc]
     .erw[nn h]
    .erw[nn h]
   |Attribute o f px=>
    dsimp[aK,ay] at h;let#[q,h1,a,h2,b,h3,h4]:=h;injection h4 with h4;subst h4
    let#[hm,rfl]:=lZ h1;erw[Mg G K hm (A.fe G.g h2) (A.fe G.g h3)]
   |Subscript o i px=>
    dsimp only at h;split at h
    .dsimp[aK,ay] at h
     let#[a,h1,b,h2,c,h3,h4]:=h;injection h4 with h4;subst h4
     erw[Mh G K (A.fe G.g h1) (A.fe G.g h2) (A.fe G.g h3)]
    .split at h
     .dsimp[aK,ay] at h
      let#[a,h1,b,h2,c,h3,h4]:=h;injection h4 with h4;subst h4
      erw[Mm G K (A.fe G.g h1) (A.fe G.g h2) (A.fe G.g h3)]
     .erw[nn h]
   |_=>erw[nn h]
  .erw[nn h]
 |AugAssign tg op e pos=>
  cases tg with
  |Name x' px=>
   dsimp only at h;split at h
   .rename_i i hi
    split at h
    .rename_i hl
     dsimp[aK,ay] at h;let#[p,h1,y,h2,h3]:=h;injection h3 with h3;subst h3
     erw[Qf G K hi hl h1 (A.fe G.g h2)]
    .erw[nn h]
   .erw[nn h]
  |Attribute o f px=>
   dsimp[aK,ay] at h;let#[q,h1,p,h2,a,h3,b,h4,h5]:=h;injection h5 with h5;subst h5
   let#[hm,rfl]:=lZ h1;erw[Mi G K hm h2 (A.fe G.g h3) (A.fe G.g h4)]
  |Subscript o i px=>
   dsimp only at h;split at h
   .rename_i hn
    dsimp[aK,ay] at h;let#[p,h1,a,h2,b,h3,c,h4,h5]:=h;injection h5 with h5;subst h5
    erw[Mj G K hn h1 (A.fe G.g h2) (A.fe G.g h3) (A.fe G.g h4)]
   .erw[nn h]
  |_=>erw[nn h]
 |Expr e pos=>
  split at h
  .rename_i hc
   let#[y,h1,h2]:=ar.mp h;subst h2;erw[Uu G K hc (A.fe G.g h1)]
  .erw[nn h]
 |Return e pos=>
  cases e with
  |none=>erw[nn h]
  |some e=>
   let#[y,h1,h2]:=ar.mp h;subst h2;erw[Qd G K (A.fe G.g h1)]
 |If c a b pos=>
  dsimp[aK,ay] at h;let#[c,h1,a,h2,b,h3,h4]:=h;injection h4 with h4;subst h4
  erw[Qe G K (A.ft G.g h1) (IH.Nz G K h2) (IH.Nz G K h3)]
 |While c b el pos=>
  split at h
  .rename_i he
   have he:el=[]:=by simpa using he
   subst he;dsimp[aK,ay] at h;let#[c,h1,a,h2,h3]:=h;injection h3 with h3;subst h3
   erw[Qg K (A.ft G.g h1) (IH.Nz G K h2)]
  .erw[nn h]
 |For tg it b el pos=>
  split at h
  .erw[nn h]
  .rename_i hc
   dsimp[gv,Gf,ao] at hc;have he:el=[]:=by simpa using hc.2
   subst he;split at h
   .rename_i xs ht
    rcases B4 ht with⟨x,p,rfl,rfl⟩|⟨x,y,p,p',kd,q,rfl,rfl⟩
    .dsimp only at h
     split at h
     .rename_i i hi
      split at h
      .rename_i hl
       dsimp[aK,ay] at h;let#[it,h1,a,h2,h3]:=h;injection h3 with h3;subst h3
       erw[Mn G K hc.1 hi hl (Dq h1) (Iu K (A.fi G.g h1)) (IH.Nz G K h2)]
      .erw[nn h]
     .erw[nn h]
    .dsimp only at h
     split at h
     .rename_i i hi
      split at h
      .rename_i j hj
       split at h
       .rename_i hl
        rw[ao] at hl;dsimp[aK,ay] at h;let#[it,h1,a,h2,h3]:=h;injection h3 with h3;subst h3
        erw[Mo G K hc.1 hi hl.1 hj hl.2 (Ny h1) (Iu K (A.fn G.g h1)) (IH.Nz G K h2)]
       .erw[nn h]
      .erw[nn h]
     .erw[nn h]
   .erw[nn h]
 |Raise ex ca pos=>
  injection h with h;subst h
  rintro pZ s σ H D J ⟨env,ρ,S,DU,he,R,w,q⟩;erw[aL w]
 |Try b hs el fi pos=>
  cases hs with
  |nil=>erw[nn h]
  |cons h0 hs=>
   dsimp only at h;split at h
   .rename_i hc
    rw[ao] at hc;let#[he,hf]:=hc;have he:el=[]:=by simpa using he
    have hf:fi=[]:=by simpa using hf
    subst he;subst hf;let#[b,h2,h4]:=ar.mp h;subst h4;erw[Qh λpZ E'=>IH.Nz G.al (Us G.fr) h2]
   .erw[nn h]
 |_=>erw[nn h]
theorem E7:Mp t T Γ k 0:=by
 constructor
 .intro I X st x E _ _ h;rw[Yy] at h;erw[nn h]
 .intro I X st x E _ _ h;rw[T9] at h;erw[nn h]
theorem Ak:∀n,Mp t T Γ k n
 |0=>E7
 |n+1=>
  have IH:=Ak n
  #[λG K h=>Uy IH G K h,λG K h=>Qi IH G K h]
end
open PL (U SO bD Xn KU KX b8)
structure Base(c:Ctx)(T:Tab)(kx:Nat):Prop where
 tab:H8 c T
theorem NA{c:Ctx}{T:Tab}{Γ:b8}{k kx n m:Nat}{x qual:Str}{st:Stmt}{f:Addr}{fd:eQ}{N ps:List Str}{sp:PL.Spec}{b:PL.dB}(F:J1 c.K x qual st f fd)(S:k9 N ps (bH st))
  (B:Base c T kx) (hkx:kx<=k) (G:fY c T Γ k) (hc:J4 T n #[(bH st).names,N,true] (fJ st)=some b) (hk:PL.Keeps Γ b m sp) (hm:N.length=ps.length+m) (hl:∀us S Q E,sp us S Q E->us.length=ps.length):
  j0 c.P c.w c.K c.mg c.base (tF c.P c.w) (k+2) f fd ps (lift c sp):=by
 rwa[J1.okX (k:=k+1) F S (λvs H Q E h=>?_) (λcdv A outer s H vs Q E hr h=>?_)]
 .let#[us,ρ,S0,QU,EU,r,R,w,q,qx]:=h
  rw[<-r.len];erw[hl _ _ _ _ w]
 let#[us,ρ,S0,QU,EU,r,R,w,q,qx]:=h
 let t:xi:=#[c.cls]
 let X:=zI (tF c.P c.w) c.P c.w c.K c.mg c.base N qual (bH st) f cdv A outer s H E
 have G0:Good t T Γ k #[(bH st).names,N,true] X:=#[B.tab,G,S.kind,rfl,rfl,S.nd,λ_=>#[rfl,hr],by have:=hr.un;show(A.deeper (pJ qual (bH st) s.heap.objs.size f cdv)).units+200<eI;omega]
 have GS:hX t T Γ k #[(bH st).names,N,true] X:=#[G0,#[rfl,rfl],λ_=>rfl]
 have K:Tk X (λ_=>E):=#[λpZ σ s' e z=>by
  let#[a,tb,cl,dx,H',rfl,I,x,fr,q]:=z;erw[Hb pZ σ H' s' a tb cl dx I x fr q],PassesOwn.leaving]
 refine#[_,(Ak n).Nz GS K hc,?_];have hlen:us.length=ps.length:=hl _ _ _ _ w;have hvl:vs.length=us.length:=r.len.symm;refine#[us.map some++dH m none,ρ,S0,#[λ_ S1=>QU .bQ S1,QU,λ_=>EU],#[?_,λi u e=>?_],R,hk us S0 QU EU w,#[λenv' S' σ' H' ρ' h st R' e=>q _ _ _ _ _ h st R' (eM.mpr rfl),q,λenv' σ' x S' H' ρ' C d h st R' e z=>qx _ _ _ _ _ _ h st R' z]]
 .unfold start
  simp
  omega
 .unfold start
  by_cases z:i<us.length
  .rw[ai (by simpa using z),aD] at e
   let#[u',e1,e2]:=ar.mp e;injection e2 with e2;subst e2
   let#[v,e3,r3]:=r.get e1;exact#[v,by rw[ai (by rw[ag,hvl];erw[z]),aD,e3];rfl,r3]
  .rw[ax (by simpa using m7 z),zq] at e
   split at e
   .cases e
   .cases e
def Cg:PL.Spec:=λus _ Q _=>∃ns:List Int,us=[.rY ns]/\ns.length<=63/\∀S',Q (.bl true) S'
def yB(K:Frag):Sp:=λvs H Q _=>∃(a:Addr)(ns:List Int),vs=[.ref a]/\ns.length<=63/\xc K H a (ns.map .int)/\∀H',Q (.bl true) H'
theorem Mq(F:j0 c.P c.w c.K c.mg c.base (tF c.P c.w) k f fd ps (lift c Cg)):j0 c.P c.w c.K c.mg c.base (tF c.P c.w) k f fd ps (yB c.K):=by
 rwa[F.imp λvs H Q E h=>?_]
 let#[a,ns,rfl,hl,hf,q]:=h;refine#[[.rY ns],[],[],λu _=>u=.bl true,λ_ _=>False,aZ.cons (qR.mpr #[a,rfl,hf]) aZ.nil,#[rfl,wx,λn a o h=>by simp at h],#[ns,rfl,hl,λ_=>rfl],λu S' v H' ρ' e _ _ r=>?_,λ_ _ _ _ _ _ z=>aL z];subst e;rw[eT.mp r]
 erw[q H']
theorem Iv{K:Frag}{H:Hp}{a:Addr}{xs:List V}(o:K0 H)(h:hU K H a xs):xc K H a xs:=by
 rcases h with(h|⟨ob,h⟩)|h
 .rcases o a with z|⟨ob,ys,z⟩
  .rw[h] at z;cases z
  .rw[h] at z;cases z
 .erw[.inl #[ob,h]]
 .erw[.inr h]
theorem Qj(h:tF P w [] H s (λ_ _ _=>False) e s'):False:=by
 let#[a,T,c,dx,H',_,_,_,_,_,_,_,_,z]:=h;erw[z]
end L2
section
namespace PL
theorem Wy:fP "text" [("text",a),("at",b),("depth",c)]=some a:=rfl
theorem ZX:fP "at" [("text",a),("at",b),("depth",c)]=some b:=rfl
theorem Uz:fP "depth" [("text",a),("at",b),("depth",c)]=some c:=rfl
end PL
open PL
def wN0:="ZL ZM aaC ZN X6 X7 w_var w_lit Zy Zz w_not w_and w_or ZA ZC XZ w_mk X0 ZD ZE w_fld aay aaz ZF ZG X1 ZH X2 aaA aaB TU ZI X3 ZJ X4 X5 ZK O5 O6 Xz XA O7 XB XC Wj XD Zf Hs TF Zg Nq TH Nr Zh aaq aar aas aat Lw Lx Pc Pd Pe XF Ly XG Pf XH Lz TJ aau XI XJ aav aaw Zd Ze TL Nt Zi Ht yi Zj Zk Zl Zm Zn Zo Zp Zq Wk XM Wl Zr Zs C2 zV wX rQ wO XW Wn TN TQ TR v_s v_t v_l bind_f XX aan aao aap true_and bB wW aC bN Hh We Wf Lj List.getElem?_cons_zero List.getElem?_cons_succ List.map_cons List.map_nil List.replicate_zero List.replicate_succ List.cons_append List.nil_append List.append_nil List.set_cons_zero List.set_cons_succ lY Option.join_some"
local macro_rules | `(tactic| walk_at "pl") => do let a:=((wN0++" Zu XY Zv Zw Zx iQ Wy ZX Uz").splitOn " ").toArray.map fun s=>Lean.mkIdent s.toName;`(tactic| simp only [$[$a:ident],*])
namespace PL
noncomputable def lM(x rest:List Nat)(d:Nat):SO:=.ins "Reader" [("text",.str x),("at",.int (x.length-rest.length:Nat)),("depth",.int d)]
def k5(r:Nat)(o:SO)(S S':bD):Prop:=S.length<=S'.length/\S'[r]?=some o/\∀n,n<S.length->n≠r->S'[n]?=S[n]?
def Old(r:Nat)(S S':bD):Prop:=S.length<=S'.length/\∀n,n<S.length->n≠r->S'[n]?=S[n]?
def Ext(S S':bD):Prop:=S.length<=S'.length/\∀n,n<S.length->S'[n]?=S[n]?
noncomputable def cy(l rest:List Nat):Bool:=match rest with|[]=>false|c::_=>l.contains c
def Ci:Spec:=λus S Q _=>∃r x rest d l,us=[.loc r,.str l]/\S[r]?=some (lM x rest d)/\rest<:+x/\x.length<=1000/\Q (.bl (cy l rest)) S
section
variable{x rest:List Nat}
theorem Iw(h:rest<:+x)(k:Nat):x[x.length-rest.length+k]?=rest[k]?:=by
 let#[p,rfl]:=h;rw[aj,rL,ax ∅]
 congr 1
 omega
theorem NB(h:rest<:+x):((x.length-rest.length:Nat):Int)<x.length↔rest≠[]:=by
 let#[p,rfl]:=h;cases rest with
 |nil=>simp
 |cons c r=>simp;omega
end
section
variable{S:bD}{r:Nat}{x rest:List Nat}{d:Nat}{q:U->Prop}
theorem yC(h:S[r]?=some (lM x rest d)):og (.loc r) "text" S q=q (.str x):=by rw[iQ,h];rfl
theorem Al(h:S[r]?=some (lM x rest d)):og (.loc r) "at" S q=q (.int (x.length-rest.length:Nat)):=by rw[iQ,h];rfl
theorem Iy(h:S[r]?=some (lM x rest d)):og (.loc r) "depth" S q=q (.int d):=by rw[iQ,h];rfl
theorem bY{Q:String->List (String×U)->Prop}(h:S[r]?=some (lM x rest d)):oa S[r]? Q=Q "Reader" [("text",.str x),("at",.int (x.length-rest.length:Nat)),("depth",.int d)]:=by rw[h];rfl
end
theorem Mr(Γ:b8):Keeps Γ jI 0 Ci:=by
 rintro us S Q E ⟨r,x,rest,d,l,rfl,hS,hx,hl,q⟩;unfold jI;walk_at "pl";dsimp[<-iQ,yC hS,Al hS];walk_at "pl";refine#[∅,?_];rw[kg]
 have h0:=Iw hx 0;rw[Nat.add_zero] at h0;rw[h0]
 dsimp[decide_eq_true_eq,NB hx];cases rest with
 |nil=>simpa[cy] using q
 |cons c t=>simp[cy] at q ⊢;exact#[∅,q]
abbrev PR(α:Type):=Except (List Nat) (α×List Nat)
noncomputable def dX(l rest:List Nat):PR Nat:=match rest with|[]=>.error []|c::r=>if l.contains c then .ok (c,r) else .error (c::r)
noncomputable def mapR{α β:Type}(f:α->β):PR α->PR β|.ok (a,r)=>.ok (f a,r)|.error r=>.error r
noncomputable def bindR{α β:Type}(p:PR α)(f:α->List Nat->PR β):PR β:=match p with|.ok (a,r)=>f a r|.error r=>.error r
noncomputable def kE(c:Nat):U:=.str [c]
def dY(r:Nat)(x:List Nat)(d:Nat)(S:bD)(Q:KU)(E:KX):PR U->Prop
 |.ok (u,r')=>∀S',k5 r (lM x r' d) S S'->Q u S'
 |.error r'=>False
def zf(args:List U)(p:List Nat->PR U)(d:Nat):Spec:=λus S Q E=>∃r x rest,us=.loc r::args/\S[r]?=some (lM x rest d)/\rest<:+x/\x.length<=1000/\dY r x d S Q E (p rest)
def Iz:Spec:=λus S Q E=>∃l d,zf [.str l] (λrest=>mapR kE (dX l rest)) d us S Q E
section
variable{S S1 S2:bD}{r:Nat}{o o':SO}
theorem aX{α:Type}{l:List α}{n:Nat}{a:α}(h:l[n]?=some a):n<l.length:=(af.mp h).1
theorem k5.set(h:S[r]?=some o):k5 r o' S (S.set r o'):=by
 refine#[by simp,by simp[jm,aX h],λn hn ne=>?_];rw[ah (bZ ne)]
theorem k5.refl(h:S[r]?=some o):k5 r o S S:=#[au _,h,λ_ _ _=>rfl]
theorem Old.trans(a:Old r S S1)(b:Old r S1 S2):Old r S S2:=#[aI a.1 b.1,λn h ne=>(b.2 n (aq h a.1) ne).trans (a.2 n h ne)]
theorem k5.old(a:k5 r o S S1):Old r S S1:=#[a.1,a.2.2]
theorem k5.trans(a:k5 r o S S1)(b:k5 r o' S1 S2):k5 r o' S S2:=#[aI a.1 b.1,b.2.1,(a.old.trans b.old).2]
theorem Ext.old(a:Ext S S1):Old r S S1:=#[a.1,λn h _=>a.2 n h]
theorem Ext.refl:Ext S S:=#[au _,λ_ _=>rfl]
theorem Ext.trans(a:Ext S S1)(b:Ext S1 S2):Ext S S2:=#[aI a.1 b.1,λn h=>(b.2 n (aq h a.1)).trans (a.2 n h)]
theorem Ext.get(a:Ext S S1)(h:S[r]?=some o):S1[r]?=some o:=(a.2 r (aX h)).trans h
theorem Ext.chg(a:Ext S S1)(h:S[r]?=some o):k5 r o S S1:=#[a.1,a.get h,λn h _=>a.2 n h]
theorem Ext.app(l:List SO):Ext S (S++l):=#[by simp,λn h=>ai h]
theorem gs(h:S[r]?=some o):(S.set r o')[r]?=some o':=(k5.set h).2.1
end
theorem sub_len(h:(c::t)<:+x):((x.length-(c::t).length:Nat):Int)+1=(x.length-t.length:Nat):=by
 let#[p,rfl]:=h;simp
 omega
theorem Qk{x t:List Nat}{z v:U}{d:Nat}(h:z=.int (x.length-t.length:Nat)):SO.ins "Reader" (gQ "at" z [("text",.str x),("at",v),("depth",.int d)])=lM x t d:=by subst h;rfl
theorem yD{x t:List Nat}{c:Nat}(h:(c::t)<:+x):t<:+x:=mm (dj c t) h
theorem Ms(Γ:b8)(h1:Γ "Reader.sees"=Ci):Keeps Γ iD 0 Iz:=by
 rintro us S Q E ⟨l,d,r,x,rest,rfl,hS,hx,hl,q⟩;unfold iD;walk_at "pl";dsimp[bY hS,h1];walk_at "pl";refine#[rfl,r,x,rest,d,l,rfl,hS,hx,hl,?_];walk_at "pl";dsimp[bY hS];walk_at "pl";cases rest with
 |nil=>erw[q.elim]
 |cons c t=>
  by_cases e:l.contains c=true
  .dsimp[dX,e,if_true,mapR,dY] at q
   dsimp[cy,e];have p:=Qk (v:=.int ((x.length-(c::t).length:Nat):Int)) (d:=d) (congrArg U.int (sub_len hx));have g:=gs (o':=lM x t d) hS;dsimp[bJ,av,if_false,O5];dsimp[bY hS,p];dsimp[<-iQ,yC g,Al g,O7,TL];refine#[trivial,by simp,∅,?_];have e2:((x.length-t.length:Nat):Int)-1=(x.length-(c::t).length:Nat):=by have:=sub_len hx;omega
   have h0:=Iw hx 0;rw[Nat.add_zero] at h0;rw[e2,kg,h0]
   erw[q _ (k5.set hS)]
  .dsimp[dX,e,mapR,dY] at q
   dsimp[cy,e];erw[q.elim]
def Suf{α:Type}(rest:List Nat):PR α->Prop
 |.ok (_,r)=>r<:+rest
 |.error r=>r<:+rest
def lN{α:Type}(rest:List Nat):PR α->Prop
 |.ok (_,r)=>r<:+rest/\r.length<rest.length
 |.error r=>r<:+rest
theorem lN.Ql{α:Type}{rest:List Nat}{p:PR α}(h:lN rest p):Suf rest p:=by
 cases p with
 |ok v=>erw[h.1]
 |error r=>erw[h]
theorem lN.bind{α β:Type}{rest:List Nat}{p:PR α}{f:α->List Nat->PR β}(h:lN rest p)(k:∀a r,p=.ok (a,r)->Suf r (f a r)):lN rest (bindR p f):=by
 cases p with
 |error r=>erw[h]
 |ok v=>
  let#[a,r]:=v;have:=k a r rfl;unfold bindR;dsimp only;cases q:f a r with
  |error r'=>rw[q] at this;erw[this.trans h.1]
  |ok w=>
   let#[b,r']:=w;rw[q] at this;exact#[this.trans h.1,lI this.length_le h.2]
theorem Suf.bind{α β:Type}{rest:List Nat}{p:PR α}{f:α->List Nat->PR β}(h:Suf rest p)(k:∀a r,p=.ok (a,r)->Suf r (f a r)):Suf rest (bindR p f):=by
 cases p with
 |error r=>erw[h]
 |ok v=>
  let#[a,r]:=v;have:=k a r rfl;unfold bindR;dsimp only;cases q:f a r with
  |error r'=>rw[q] at this;erw[this.trans h]
  |ok w=>
   let#[b,r']:=w;rw[q] at this;erw[this.trans h]
theorem gB(l rest:List Nat):lN rest (dX l rest):=by
 cases rest with
 |nil=>erw[bC _]
 |cons c t=>
  unfold dX;dsimp only;split
  .exact#[dj c t,by simp]
  .erw[bC _]
theorem dY.bind{α:Type}{toU:α->U}{p:PR α}{f:α->List Nat->PR U}{r d:Nat}{x rest:List Nat}{S S1:bD}{Q Q1:KU}{E:KX}(h:dY r x d S Q E (bindR p f))(st:k5 r (lM x rest d) S S1)
  (k:∀a r1 S2,p=.ok (a,r1)->k5 r (lM x r1 d) S S2->dY r x d S Q E (f a r1)->Q1 (toU a) S2):dY r x d S1 Q1 E (mapR toU p):=by
 cases p with
 |error r'=>erw[h]
 |ok v=>
  let#[a,r1]:=v;erw[λS' c=>k a r1 S' rfl (st.trans c) h]
theorem Mt{p:PR U}:mapR id p=p:=by
 cases p with
 |ok v=>rfl
 |error r=>rfl
theorem xq{α β:Type}{f:α->β}{p:PR α}:mapR f p=bindR p (λa r=>.ok (f a,r)):=by
 cases p with
 |ok v=>rfl
 |error r=>rfl
theorem lE(p:Nat->Bool)(hg:g S)(hc:∀n k,k (p n) S->c (.str [n]) S k)(he:∀n k,k (.str [n]) S->e (.str [n]) S k):
  ∀(l:List Nat)(acc:List U),acc.length+l.length<1000000->Q (acc++(l.filter p).map kE) S->lX g c e Q (l.map λn=>.str [n]) acc S
 |[],acc,hl,q=>#[hg,by simpa using hl,by simpa using q]
 |n::l,acc,hl,q=>by
  dsimp[aT] at hl;refine#[hg,∅,hc n _ ?_];by_cases h:p n=true
  .rw[if_pos h]
   rwa[he n _ (lE p hg hc he l (acc++[.str [n]]) (by simp;omega) ?_)];rw[ij,if_pos h] at q;simpa[kE] using q
  .rw[if_neg h]
   rwa[lE p hg hc he l acc ∅ ?_];rw[ij,if_neg h] at q;erw[q]
theorem join_ones:∀l:List Nat,lj [] (l.map λn=>[n])=l
 |[]=>rfl
 |[n]=>rfl
 |n::m::l=>by
  have:=join_ones (m::l);dsimp[az] at this ⊢;dsimp[lj,bM];rw[this];rfl
noncomputable def dW(l:List Nat):List Nat:=SG.filter λc=>!l.contains c
noncomputable def inOrder(l:List Nat):List Nat:=SG.filter λc=>l.contains c
def spT(f:List Nat->List Nat):Spec:=λus S Q _=>∃l,us=[.str l]/\∀S',Ext S S'->Q (.str (f l)) S'
theorem vg:∀l:List Nat,((l.map λn=>[n]).map dh).sum=l.length
 |[]=>rfl
 |n::l=>by rw[az,az,List.sum_cons,vg l];simp;omega
theorem Dt(l:List Nat):l.map kE=(l.map λn=>[n]).map U.str:=by
 rw[bx];rfl
theorem Du(p:Nat->Bool):(SG.filter p).length<=95:=aI (Bh _ _) ⋯
theorem Am(Γ:b8):Keeps Γ mE 0 (spT inOrder):=by
 rintro us S Q E ⟨l,rfl,q⟩;unfold mE;walk_at "pl";refine lE (λc=>l.contains c) trivial (λn k h=>by rw[Lw];exact h) (λn k h=>h) SG [] ⋯ ?_;dsimp[kF];try walk_at "pl"
 refine#[(inOrder l).map λn=>[n],?_,?_,?_]
 .rw[<-Dt];simp[inOrder]
 .have:=Du λc=>l.contains c
  rw[vg];simp[inOrder] at this ⊢;omega
 .rw[join_ones];erw[q _ (Ext.app _)]
theorem vh(Γ:b8):Keeps Γ oJ 0 (spT dW):=by
 rintro us S Q E ⟨l,rfl,q⟩;unfold oJ;walk_at "pl";refine lE (λc=>!l.contains c) trivial (λn k h=>by rw[Lx];exact h) (λn k h=>h) SG [] ⋯ ?_;dsimp[kF];try walk_at "pl"
 refine#[(dW l).map λn=>[n],?_,?_,?_]
 .rw[<-Dt];simp[dW]
 .have:=Du λc=>!l.contains c
  rw[vg];simp[dW] at this ⊢;omega
 .rw[join_ones];erw[q _ (Ext.app _)]
def Dx:Spec:=λus S Q _=>∃a b,us=[.str [a],.str [b]]/\a∈SG/\b∈SG/\Q (.bl (decide (SG.idxOf a<SG.idxOf b))) S
theorem An(Γ:b8):Keeps Γ mF 0 Dx:=by
 rintro us S Q E ⟨a,b,rfl,ha,hb,q⟩;unfold mF;walk_at "pl";refine#[a,rfl,ha,b,rfl,hb,?_];simpa using q
noncomputable def kN(a b:Nat):List Nat:=(SG.drop (SG.idxOf a)).take (SG.idxOf b+1-SG.idxOf a)
def xr:Spec:=λus S Q _=>∃a b,us=[.str [a],.str [b]]/\a∈SG/\b∈SG/\Q (.str (kN a b)) S
theorem Cj(h:a∈SG):SG.idxOf a<95:=by
 have:=List.idxOf_lt_length_iff.mpr h;simpa using this
theorem Ck(Γ:b8):Keeps Γ oK 0 xr:=by
 rintro us S Q E ⟨a,b,rfl,ha,hb,q⟩;unfold oK;walk_at "pl";refine#[a,rfl,ha,?_];refine#[b,rfl,hb,?_];try walk_at "pl"
 have h1:=Cj ha;have h2:=Cj hb;refine#[#[λi e=>?_,λi e=>?_],⋯,?_]
 .injection e with e;omega
 .injection e with e;omega
 .have e:pS SG (some (SG.idxOf a:Int)) (some ((SG.idxOf b:Int)+1))=kN a b:=by
   unfold pS kN;have l:SG.length=95:=⋯
   dsimp[dZ,l];have e1:min (((SG.idxOf a:Nat):Int).toNat) 95=SG.idxOf a:=∅
   have e2:min ((((SG.idxOf b:Nat):Int)+1).toNat) 95=SG.idxOf b+1:=∅
   rw[e1,e2]
  show Q (.str (pS SG (some (SG.idxOf a:Int)) (some ((SG.idxOf b:Int)+1)))) S
  rw[e];erw[q]
noncomputable abbrev BB:List Nat:=[46,124,40,41,91,93,42,43,63,92,45,94,110]
noncomputable abbrev MO:List Nat:=[46,124,40,41,91,93,42,43,63,92]
noncomputable abbrev MW:List Nat:=[93,45,92]
noncomputable def j9(m rest:List Nat):PR Nat:=
 match rest with
 |92::r=>bindR (dX BB r) λs r'=>.ok (if s=110 then 10 else s,r')
 |_=>dX (dW m) rest
theorem IA(m r:List Nat):j9 m (92::r)=bindR (dX BB r) λs r'=>.ok (if s=110 then 10 else s,r'):=rfl
theorem Ao{m rest:List Nat}(h:cy [92] rest=false):j9 m rest=dX (dW m) rest:=by
 unfold j9;split
 .simp[cy] at h
 .rfl
theorem IB{c:Nat}{rest:List Nat}(h:cy [c] rest=true):∃t,rest=c::t:=by
 cases rest with
 |nil=>simp[cy] at h
 |cons a t=>simp[cy] at h;subst h;exact#[t,rfl]
theorem kH(m rest:List Nat):lN rest (j9 m rest):=by
 unfold j9;split
 .rename_i r
  have h:=(gB BB r).bind (f:=λs r'=>(.ok (if s=110 then 10 else s,r'):PR Nat)) λa r' _=>bC _
  cases q:bindR (dX BB r) λs r'=>(.ok (if s=110 then 10 else s,r'):PR Nat) with
  |error r'=>rw[q] at h;erw[h.trans (dj _ _)]
  |ok v=>rw[q] at h;exact#[h.1.trans (dj _ _),bb h.2]
 .erw[gB _ _]
theorem Dy(h:dX l rest=.ok (c,r)):c∈l/\rest=c::r:=by
 cases rest with
 |nil=>simp[dX] at h
 |cons a t=>
  unfold dX at h;dsimp only at h;split at h
  .rename_i z
   injection h with h;injection h with h1 h2;subst h1;subst h2
   exact#[by simpa using z,rfl]
  .cases h
theorem vi{m rest:List Nat}{c:Nat}{r:List Nat}(h:j9 m rest=.ok (c,r)):c∈SG:=by
 unfold j9 at h;split at h
 .rename_i t
  cases q:dX BB t with
  |error r'=>rw[q] at h;cases h
  |ok v=>
   let#[s,r']:=v;rw[q] at h;dsimp[bindR] at h;injection h with h;injection h with h1 h2
   have hs:=(Dy q).1;subst h1;split
   .decide
   .have:∀s∈BB,s∈SG:=⋯
    erw[this s hs]
 .have:=(Dy h).1
  unfold dW at this;exact(eP.mp this).1
def Dz(d:Nat):Spec:=λus S Q E=>∃m,zf [.str m] (λrest=>mapR kE (j9 m rest)) d us S Q E
structure GR(Γ:b8):Prop where
 sees:Γ "Reader.sees"=Ci
 pass:Γ "Reader.passes"=Iz
 Cm:Γ "all_but"=spT dW
 Qm:Γ "in_order"=spT inOrder
 ahead:Γ "is_ahead"=Dx
 IC:Γ "stretch"=xr
theorem ID(Γ:b8)(G:GR Γ)(d:Nat):Keeps Γ eh 1 (Dz d):=by
 rintro us S Q E ⟨m,r,x,rest,rfl,hS,hx,hl,q⟩;have q:dY r x d S Q E (mapR kE (j9 m rest)):=q;unfold eh;walk_at "pl";dsimp[bY hS,G.sees,G.pass];walk_at "pl";refine#[rfl,r,x,rest,d,_,rfl,hS,hx,hl,?_];walk_at "pl";by_cases e:cy [92] rest=true
 .let#[t,rfl]:=IB e
  dsimp[e,bJ,av,if_false];dsimp[bY hS];refine#[#[by first|trivial|rfl,rfl],[92],d,r,x,_,rfl,hS,hx,hl,?_];have ht:=yD hx;show dY r x d S _ E (mapR kE (.ok (92,t)));intro S1 c1;try walk_at "pl"
  dsimp[bY c1.2.1];refine#[#[by first|trivial|rfl,rfl],BB,d,r,x,t,rfl,c1.2.1,ht,hl,?_];rw[IA] at q;have q':dY r x d S Q E (bindR (dX BB t) λs r'=>.ok (kE (if s=110 then 10 else s),r')):=by
   cases z:dX BB t with
   |error r'=>rw[z] at q;erw[q]
   |ok v=>rw[z] at q;erw[q]
  rwa[q'.bind c1 λa r1 S2 e1 c2 q2=>?_]
  unfold kE;try walk_at "pl"
  dsimp[beq_iff_eq,dG,and_true];have:=q2 S2 c2;unfold kE at this;by_cases z:a=110
  .subst z;simpa using this
  .dsimp[z,if_false] at this ⊢;erw[this]
 .have e:cy [92] rest=false:=by simpa using e
  dsimp[e,cj,if_true];dsimp[bY hS,G.Cm,true_and];refine#[rfl,m,rfl,λS1 x1=>?_];refine#[dW m,d,r,x,rest,rfl,x1.get hS,hx,hl,?_];show dY r x d S1 Q E (mapR kE (dX (dW m) rest));rw[Ao e] at q;cases z:dX (dW m) rest with
  |error r'=>rw[z] at q;erw[q]
  |ok v=>rw[z] at q;erw[λS' c=>q S' ((x1.chg hS).trans c)]
end PL
local macro_rules | `(tactic| walk_at "qpf") => do let a:=((wN0++" Hy Nu ZO TV TX ZP iQ Wy ZX Uz").splitOn " ").toArray.map fun s=>Lean.mkIdent s.toName;`(tactic| simp only [$[$a:ident],*])
local macro_rules | `(tactic| walk_at "pf") => `(tactic| ((try refine Rest.go ?_); walk_at "qpf"; repeat ((refine Rest.go ?_); walk_at "qpf")))
namespace PL
noncomputable def kO(first:Nat)(r:List Nat):PR (List Nat):=
 match r with
 |45::r2=>bindR (j9 MW r2) λsecond r3=>if SG.idxOf second<SG.idxOf first then .error r2 else .ok (kN first second,r3)
 |_=>.ok ([first],r)
noncomputable def item(rest:List Nat):PR (List Nat):=bindR (j9 MW rest) kO
theorem Aq(f:Nat)(r:List Nat):kO f (45::r)=bindR (j9 MW r) λsecond r3=>if SG.idxOf second<SG.idxOf f then .error r else .ok (kN f second,r3):=rfl
theorem Ar{f:Nat}{r:List Nat}(h:cy [45] r=false):kO f r=.ok ([f],r):=by
 unfold kO;split
 .simp[cy] at h
 .rfl
theorem yE(f:Nat)(r:List Nat):Suf r (kO f r):=by
 unfold kO;split
 .rename_i r2
  have h:=(kH MW r2).bind (f:=λsecond r3=>(if SG.idxOf second<SG.idxOf f then .error r2 else .ok (kN f second,r3):PR (List Nat)));cases q:j9 MW r2 with
  |error r'=>have:=kH MW r2;rw[q] at this;erw[this.trans (dj _ _)]
  |ok v=>
   have:=kH MW r2;rw[q] at this;dsimp[bindR];split
   .erw[dj _ _]
   .erw[this.1.trans (dj _ _)]
 .erw[bC _]
theorem qY(rest:List Nat):lN rest (item rest):=(kH MW rest).bind λa r _=>yE a r
theorem jx{α β γ:Type}{g:β->γ}{p:PR α}{f:α->List Nat->PR β}:mapR g (bindR p f)=bindR p λa r=>mapR g (f a r):=by
 cases p with
 |ok v=>rfl
 |error r=>rfl
def IE(d:Nat):Spec:=zf [] (λrest=>mapR U.str (item rest)) d
structure GR2(Γ:b8)(d:Nat):Prop extends GR Γ where
 ws:Γ "Reader.written_sign"=Dz d
theorem Mu(Γ:b8)(d:Nat)(G:GR2 Γ d):Keeps Γ jK 3 (IE d):=by
 rintro us S Q E ⟨r,x,rest,rfl,hS,hx,hl,q⟩;have q:dY r x d S Q E (mapR U.str (item rest)):=q;unfold item at q;rw[jx] at q;unfold jK;walk_at "pf";dsimp[bY hS];refine#[#[by first|trivial|rfl,rfl],ca G.ws #[MW,r,x,rest,rfl,hS,hx,hl,?_]];refine q.bind (k5.refl hS) λa r1 S1 e1 c1 q1=>?_
 have hs:=kH MW rest;rw[e1] at hs;have hx1:=hs.1.trans hx;have g1:=c1.2.1;unfold kE;try walk_at "pf"
 dsimp[bY g1,true_and];refine#[rfl,ca G.sees #[r,x,r1,d,_,rfl,g1,hx1,hl,?_]];try walk_at "pf"
 by_cases e:cy [45] r1=true
 .let#[t,rfl]:=IB e
  dsimp[e,bJ,av,if_false];walk_at "pf";dsimp[bY g1,true_and];refine#[rfl,ca G.pass #[[45],d,r,x,_,rfl,g1,hx1,hl,?_]];have ht:=yD hx1;show dY r x d S1 _ E (mapR kE (.ok (45,t)));intro S2 c2;have g2:=c2.2.1;try walk_at "pf"
  dsimp[<-iQ,Al g2];walk_at "pf";dsimp[bY g2,true_and];refine#[rfl,ca G.ws #[MW,r,x,t,rfl,g2,ht,hl,?_]];rw[Aq,jx] at q1;rwa[q1.bind (c1.trans c2) λb r3 S3 e3 c3 q3=>?_]
  unfold kE;try walk_at "pf"
  have ha:=vi e1;have hb:=vi e3;refine ca G.ahead #[b,a,rfl,hb,ha,?_];try walk_at "pf"
  by_cases z:SG.idxOf b<SG.idxOf a
  .dsimp[z,decide_true,if_true]
   dsimp[z,if_true] at q3;walk_at "pf";erw[q3.elim]
  .dsimp[z,decide_false,av,if_false]
   dsimp[z,if_false] at q3;walk_at "pf";erw[ca G.IC #[a,b,rfl,ha,hb,q3 S3 c3]]
 .have e:cy [45] r1=false:=by simpa using e
  dsimp[e,cj,if_true];rw[Ar e] at q1;walk_at "pf";erw[q1 S1 c1]
noncomputable def kP:Nat->List Nat->List Nat->PR (List Nat)
 |0,_,rest=>.error rest
 |n+1,taken,rest=>if cy [93] rest then .ok (taken,rest) else bindR (item rest) λt r=>kP n (taken++t) r
noncomputable def mO(turned:Bool)(r1:List Nat):PR (List Nat):=
 bindR (item r1) λt r2=>bindR (kP (r2.length+1) t r2) λtaken r3=>bindR (dX [93] r3) λ_ r4=>.ok (if turned then dW taken else inOrder taken,r4)
noncomputable def clsIn(r0:List Nat):PR (List Nat):=
 match r0 with
 |94::r=>mO true r
 |_=>mO false r0
noncomputable def cls(rest:List Nat):PR (List Nat):=bindR (dX [91] rest) λ_ r0=>clsIn r0
theorem IF{r:List Nat}(h:cy [94] r=false):clsIn r=mO false r:=by
 unfold clsIn;split
 .simp[cy] at h
 .rfl
theorem vj:∀(n:Nat)(taken rest:List Nat),Suf rest (kP n taken rest)
 |0,_,rest=>bC _
 |n+1,taken,rest=>by
  unfold kP;split
  .erw[bC _]
  .exact(qY rest).Ql.bind λa r _=>vj n _ r
theorem sW(b:Bool)(r:List Nat):Suf r (mO b r):=
 (qY r).Ql.bind λa r2 _=>(vj _ _ _).bind λt r3 _=>(gB _ _).Ql.bind λ_ r4 _=>bC _
theorem Mv(rest:List Nat):lN rest (cls rest):=by
 refine(gB _ _).bind λa r _=>?_
 unfold clsIn;split
 .rename_i r' hq
  have:=sW true r';cases q:mO true r' with
  |ok v=>rw[q] at this;erw[mm this (dj _ _)]
  |error v=>rw[q] at this;erw[mm this (dj _ _)]
 .erw[sW false r]
def NC(d:Nat):Spec:=zf [] (λrest=>mapR U.str (cls rest)) d
structure GR3(Γ:b8)(d:Nat):Prop extends GR2 Γ d where
 it:Γ "Reader.item"=IE d
theorem vk(h:item rest=.ok (t,r)):t.length<=95:=by
 unfold item at h;cases q:j9 MW rest with
 |error r'=>rw[q] at h;cases h
 |ok v=>
  let#[a,r1]:=v;rw[q] at h;dsimp[bindR] at h;unfold kO at h;split at h
  .rename_i r2
   cases q2:j9 MW r2 with
   |error r'=>rw[q2] at h;cases h
   |ok v2=>
    rw[q2] at h;dsimp[bindR] at h;split at h
    .cases h
    .injection h with h;injection h with h1 h2;subst h1
     unfold kN;rwa[aI (List.length_take_le _ _) ?_];have:=Cj (vi q2);omega
  .injection h with h;injection h with h1 h2;subst h1;simp
theorem vm{Γ:b8}{d:Nat}(G:GR3 Γ d){r:Nat}{x:List Nat}{S:bD}{E:KX}{fin:Env->bD->Prop}{env:Env}(hl:x.length<=1000)(k1:env[0]?=some (some (.loc r)))
  (cW:Env->bD->(Bool->bD->Prop)->Prop) (bW:Env->bD->(Env->bD->Prop)->Prop)
  (hc:∀taken S1 rest k,S1[r]?=some (lM x rest d)->rest<:+x->k (!cy [93] rest) S1->cW (env.set 2 (some (.str taken))) S1 k)
  (hb:∀taken S1 rest k,taken.length<=900000->S1[r]?=some (lM x rest d)->rest<:+x->dY r x d S1 (λu S2=>∃t,u=.str t/\t.length<=95/\k (env.set 2 (some (.str (taken++t)))) S2) E (mapR U.str (item rest))->bW (env.set 2 (some (.str taken))) S1 k):
  ∀(n:Nat)(taken rest:List Nat)(S1:bD)(R:List Nat->List Nat->PR U),rest.length<n->taken.length+95*rest.length<=900000->rest<:+x->k5 r (lM x rest d) S S1 ->
   (∀t2 r2 S2,k5 r (lM x r2 d) S S2->r2<:+x->t2.length<=900000->kP n taken rest=.ok (t2,r2)->fin (env.set 2 (some (.str t2))) S2)->(∀r',kP n taken rest=.error r'->False) ->
   ym cW bW fin n (env.set 2 (some (.str taken))) S1
 |0,_,_,_,_,h,_,_,_,_,_=>∅
 |n+1,taken,rest,S1,R,h,ht,hx,c1,hf,he=>by
  rwa[hc taken S1 rest _ c1.2.1 hx ?_];by_cases e:cy [93] rest=true
  .dsimp[e,bJ,av,if_false]
   erw[hf taken rest S1 c1 hx ∅ (by unfold kP;rw[if_pos e])]
  .have e':cy [93] rest=false:=by simpa using e
   dsimp[e',cj,if_true];rwa[hb taken S1 rest _ ∅ c1.2.1 hx ?_];have hs:=qY rest;cases q:item rest with
   |error r'=>
    erw[he r' (by unfold kP;rw[if_neg e,q];rfl)]
   |ok v=>
    let#[t,r1]:=v;rw[q] at hs;intro S2 c2;refine#[t,rfl,vk q,?_];have hlt:t.length<=95:=vk q;have hE:kP (n+1) taken rest=kP n (taken++t) r1:=by
     conv=>lhs;unfold kP
     rw[if_neg e,q];rfl
    rwa[vm G hl k1 cW bW hc hb n (taken++t) r1 S2 R (by have:=hs.2;omega) (by simp;have:=hs.2;omega) (hs.1.trans hx) (c1.trans c2) (λt2 r2 S3 c3 h3 h4 e3=>hf t2 r2 S3 c3 h3 h4 (by rw[hE];erw[e3])) (λr' e3=>he r' (by rw[hE];erw[e3]))]
theorem Qn(Γ:b8)(d:Nat)(G:GR3 Γ d):Keeps Γ fh 2 (NC d):=by
  rintro us S Q E ⟨r,x,rest,rfl,hS,hx,hl,q⟩;have q:dY r x d S Q E (mapR U.str (cls rest)):=q;unfold cls at q;rw[jx] at q;unfold fh;walk_at "pf";dsimp[bY hS];refine#[#[by first|trivial|rfl,rfl],ca G.pass #[[91],d,r,x,rest,rfl,hS,hx,hl,?_]];refine q.bind (k5.refl hS) λa r0 S0 e0 c0 q0=>?_
  have hs0:=gB [91] rest;rw[e0] at hs0;have hx0:=hs0.1.trans hx;have g0:=c0.2.1;walk_at "pf";dsimp[bY g0,true_and];refine#[rfl,ca G.sees #[r,x,r0,d,_,rfl,g0,hx0,hl,?_]];try walk_at "pf"
  have tail:∀(tb:Bool)(r1:List Nat)(S1:bD),k5 r (lM x r1 d) S S1->r1<:+x->dY r x d S Q E (mapR U.str (mO tb r1)) ->
      sU Γ (.cons (.set 2 (.cF "Reader" "item" "Reader.item" @0 .nil))
   (.cons (.A2 (.not (.dw (.cF "Reader" "sees" "Reader.sees" @0 (.cons ↑[93] .nil)))) (.cons (.aug 2 .add (.cF "Reader" "item" "Reader.item" @0 .nil)) .nil))
   (.cons (.ex (.cF "Reader" "passes" "Reader.passes" @0 (.cons ↑[93] .nil)))
   (.cons (.ret (.FU (.dw @1) (.call "all_but" (.cons @2 .nil)) (.call "in_order" (.cons @2 .nil)))) .nil)))) #[λ_ S1=>Q .bQ S1,Q,λ_=>E] [some (.loc r),some (.bl tb),none] S1:=by
    intro tb r1 S1 c1 hx1 q1;unfold mO at q1;rw[jx] at q1;have g1:=c1.2.1;walk_at "pf";dsimp[bY g1];refine#[#[by first|trivial|rfl,rfl],ca G.it #[r,x,r1,rfl,g1,hx1,hl,?_]];refine q1.bind c1 λt r2 S2 e2 c2 q2=>?_
    have hs2:=qY r1;rw[e2] at hs2;have hx2:=hs2.1.trans hx1;have hlt:=vk e2;have hr2:r2.length<=1000:=aI hx2.length_le hl;rw[jx] at q2;walk_at "pf";refine#[r2.length+1,vm (S:=S) (E:=E) (env:=[some (.loc r),some (.bl tb),none]) G hl rfl _ _ ?_ ?_ (r2.length+1) t r2 S2 (λ_ _=>.error []) ∅ ∅ hx2 c2 ?_ ?_]
    · intro taken S3 rest3 k g3 hx3 hk
      dsimp[rG,rH];try walk_at "pf"
      dsimp[bY g3,true_and];refine#[rfl,ca G.sees #[r,x,rest3,d,_,rfl,g3,hx3,hl,?_]];try walk_at "pf"
      erw[hk]
    · intro taken S3 rest3 k htk g3 hx3 hk
      dsimp[rG,rH] at hk ⊢;try walk_at "pf"
      dsimp[bY g3,true_and];refine#[rfl,ca G.it #[r,x,rest3,rfl,g3,hx3,hl,?_]];show dY r x d S3 _ E (mapR U.str (item rest3));cases z:item rest3 with
      |error r'=>rw[z] at hk;erw[hk]
      |ok v=>
        let#[t3,r3]:=v;rw[z] at hk;intro S4 c4;let#[t',e',hl',hk']:=hk S4 c4;injection e' with e';subst e'
        rw[O6]
        exact#[∅,Rest.go hk']
    · intro t3 r3 S3 c3 hx3 hl3 e3
      rw[e3] at q2;dsimp[bindR] at q2;have q2:dY r x d S Q E (mapR U.str (bindR (dX [93] r3) λ_ r4=>.ok (if tb then dW t3 else inOrder t3,r4))):=q2;rw[jx] at q2;have g3:=c3.2.1;dsimp[rG,rH];try walk_at "pf"
      dsimp[bY g3,true_and];refine#[rfl,ca G.pass #[[93],d,r,x,r3,rfl,g3,hx3,hl,?_]];rwa[q2.bind c3 λb r4 S4 e4 c4 q4=>?_]
      try walk_at "pf"
      cases tb with
      |true=>erw[ca G.Cm #[t3,rfl,λS5 x5=>q4 S5 (c4.trans (x5.chg c4.2.1))]]
      |false=>erw[ca G.Qm #[t3,rfl,λS5 x5=>q4 S5 (c4.trans (x5.chg c4.2.1))]]
    · intro r' e3
      rw[e3] at q2;erw[q2]
  by_cases e:cy [94] r0=true
  · let#[t,rfl]:=IB e
    dsimp[e,if_true];walk_at "pf";dsimp[bY g0,true_and];refine#[rfl,ca G.pass #[[94],d,r,x,_,rfl,g0,hx0,hl,?_]];show dY r x d S0 _ E (mapR kE (.ok (94,t)));intro S1 c1;erw[tail true t S1 (c0.trans c1) (yD hx0) q0]
  · have e:cy [94] r0=false:=by simpa using e
    dsimp[e,av,if_false];rw[IF e] at q0;erw[tail false r0 S0 c0 hx0 q0]
noncomputable def oS(k:List Nat)(ts:List U):U:=match ts with|[t]=>t|_=>.tup [.str k,.tup ts]
def kQ:Spec:=λus S Q _=>∃k n ts,us=[.str k,.loc n]/\S[n]?=some (.lst ts)/\ts≠[]/\ts.length<=100000/\Q (oS k ts) S
theorem E8(Γ:b8):Keeps Γ qL 0 kQ:=by
 rintro us S Q E ⟨k,n,ts,rfl,hn,ne,hl,q⟩;unfold qL;walk_at "pl";dsimp[lu hn,hn];walk_at "pl";refine#[∅,?_];cases ts with
 |nil=>erw[absurd rfl ne]
 |cons t ts=>
  cases ts with
  |nil=>
   dsimp[f9];simp[tH,oS] at q ⊢;erw[q]
  |cons t2 ts=>
   have h1:((((t::t2::ts).length:Nat):Int)== 1)=false:=by
    dsimp[aT,beq_eq_false_iff_ne];omega
   dsimp[h1,av,if_false];refine#[by simp,?_];erw[q]
noncomputable abbrev Mw:List Nat:=[111,110,101]
noncomputable abbrev kR:List Nat:=[115,116,97,114]
noncomputable abbrev oo:List Nat:=[112,108,117,115]
noncomputable abbrev j6:List Nat:=[109,97,121,98,101]
noncomputable abbrev Cn:List Nat:=[114,111,119]
noncomputable abbrev RV:List Nat:=[111,114]
noncomputable def Mx(l:List Nat):U:=.tup [.str Mw,.str l]
noncomputable def IG(c:Nat)(t:U):U:=.tup [.str (if c=42 then kR else if c=43 then oo else j6),t]
noncomputable def lF:U->List Nat->U×List Nat
 |t,[]=>(t,[])
 |t,c::r=>if [42,43,63].contains c then lF (IG c t) r else(t,c::r)
noncomputable def RW(br:Option (List Nat->PR U))(rest:List Nat):PR U:=
 match br with
 |none=>.error rest
 |some p=>bindR (dX [40] rest) λ_ r=>bindR (p r) λt r2=>bindR (dX [41] r2) λ_ r3=>.ok (t,r3)
noncomputable def qZ(br:Option (List Nat->PR U))(rest:List Nat):PR U:=
 if cy [40] rest then RW br rest else if cy [91] rest then mapR Mx (cls rest) else if cy [46] rest then bindR (dX [46] rest) (λ_ r=>.ok (Mx (dW [10]),r)) else mapR (λc=>Mx [c]) (j9 MO rest)
noncomputable def i8(br:Option (List Nat->PR U))(rest:List Nat):PR U:=bindR (qZ br rest) λt r=>.ok (lF t r)
noncomputable def dy(stop:List Nat->Bool)(p:List Nat->PR U):Nat->List U->List Nat->PR (List U)
 |0,_,rest=>.error rest
 |n+1,acc,rest=>if stop rest then .ok (acc,rest) else bindR (p rest) λt r=>dy stop p n (acc++[t]) r
noncomputable def i9(rest:List Nat):Bool:=rest.isEmpty||cy [124,41] rest
noncomputable def stopOr(rest:List Nat):Bool:=!cy [124] rest
noncomputable def v7(br:Option (List Nat->PR U))(rest:List Nat):PR U:=bindR (i8 br rest) λt r=>bindR (dy i9 (i8 br) (r.length+1) [t] r) λts r2=>.ok (oS Cn ts,r2)
noncomputable def Qo(br:Option (List Nat->PR U))(rest:List Nat):PR U:=bindR (dX [124] rest) λ_ r=>v7 br r
noncomputable def gV(br:Option (List Nat->PR U))(rest:List Nat):PR U:=bindR (v7 br rest) λt r=>bindR (dy stopOr (Qo br) (r.length+1) [t] r) λts r2=>.ok (oS RV ts,r2)
noncomputable def sX:Nat->Option (List Nat->PR U)
 |0=>none
 |k+1=>some (gV (sX k))
noncomputable def sY(x:List Nat):PR U:=bindR (gV (sX 6) x) λt r=>if r=[] then .ok (t,[]) else .error r
theorem As:∀(t:U)(rest:List Nat),(lF t rest).2<:+rest
 |t,[]=>bC _
 |t,c::r=>by
  unfold lF;split
  .exact(As _ r).trans (dj _ _)
  .erw[bC _]
def nq(br:Option (List Nat->PR U)):Prop:=∀p,br=some p->∀rest,lN rest (p rest)
theorem Qp{br:Option (List Nat->PR U)}(h:nq br)(rest:List Nat):lN rest (RW br rest):=by
 unfold RW;cases br with
 |none=>erw[bC _]
 |some p=>exact(gB _ _).bind λa r _=>(h p rfl r).Ql.bind λt r2 _=>(gB _ _).Ql.bind λ_ r3 _=>bC _
theorem lN.map{α β:Type}{rest:List Nat}{p:PR α}{f:α->β}(h:lN rest p):lN rest (mapR f p):=by
 cases p with
 |ok v=>erw[h]
 |error r=>erw[h]
theorem vn{br:Option (List Nat->PR U)}(h:nq br)(rest:List Nat):lN rest (qZ br rest):=by
 unfold qZ;split
 .erw[Qp h rest]
 .split
  .exact(Mv rest).map
  .split
   .exact(gB _ _).bind λ_ r _=>bC _
   .exact(kH _ _).map
theorem mP(h:nq br)(rest:List Nat):lN rest (i8 br rest):=(vn h rest).bind λt r _=>As t r
theorem mQ(h:∀rest,lN rest (p rest)):∀(n:Nat)(acc:List U)(rest:List Nat),Suf rest (dy stop p n acc rest)
 |0,_,rest=>bC _
 |n+1,acc,rest=>by
  unfold dy;split
  .erw[bC _]
  .exact(h rest).Ql.bind λa r _=>mQ h n _ r
theorem yF(h:nq br)(rest:List Nat):lN rest (v7 br rest):=(mP h rest).bind λt r _=>(mQ (mP h) _ _ _).bind λts r2 _=>bC _
theorem II(h:nq br)(rest:List Nat):lN rest (Qo br rest):=(gB _ _).bind λ_ r _=>(yF h r).Ql
theorem vo(h:nq br)(rest:List Nat):lN rest (gV br rest):=(yF h rest).bind λt r _=>(mQ (II h) _ _ _).bind λts r2 _=>bC _
theorem sh:∀k,nq (sX k)
 |0=>λp e=>nomatch e
 |k+1=>λp e rest=>by injection e with e;subst e;erw[vo (sh k) rest]
theorem dY.ND{α:Type}{toU:α->U}{p:PR α}{f:α->List Nat->PR U}{r d d':Nat}{x rest:List Nat}{S S1:bD}{Q Q1:KU}{E:KX}(h:dY r x d S Q E (bindR p f))(st:k5 r (lM x rest d') S S1)
  (k:∀a r1 S2,p=.ok (a,r1)->k5 r (lM x r1 d') S S2->dY r x d S Q E (f a r1)->Q1 (toU a) S2):dY r x d' S1 Q1 E (mapR toU p):=by
 cases p with
 |error r'=>erw[h]
 |ok v=>
  let#[a,r1]:=v;erw[λS' c=>k a r1 S' rfl (st.trans c) h]
theorem dY.DA{p:PR U}{f:U->List Nat->PR U}{r d d':Nat}{x rest:List Nat}{S S1:bD}{Q Q1:KU}{E:KX}(h:dY r x d S Q E (bindR p f))(st:k5 r (lM x rest d') S S1)
  (k:∀a r1 S2,p=.ok (a,r1)->k5 r (lM x r1 d') S S2->dY r x d S Q E (f a r1)->Q1 a S2):dY r x d' S1 Q1 E p:=by
 have:=dY.ND (toU:=id) (Q1:=Q1) h st k;rw[Mt] at this;erw[this]
theorem DB{x t:List Nat}{z:U}{v:Nat}{d':Nat}(h:z=.int (d':Nat)):SO.ins "Reader" (gQ "depth" z [("text",.str x),("at",.int (x.length-t.length:Nat)),("depth",.int v)])=lM x t d':=by subst h;rfl
def UA(br:Option (List Nat->PR U))(d:Nat):Spec:=λus S Q E=>∃r x rest,us=[.loc r]/\S[r]?=some (lM x rest d)/\rest<:+x/\x.length<=1000/\cy [40] rest=true/\dY r x d S Q E (RW br rest)
def UB(Γ:b8)(br:Option (List Nat->PR U))(d:Nat):Prop:=
 (br=none/\d=6)\/∃p,br=some p/\d<6/\nq br/\Γ "Reader.choice"=zf [] p (d+1)
theorem UC(Γ:b8)(G:GR Γ)(br:Option (List Nat->PR U))(d:Nat)(hb:UB Γ br d):Keeps Γ gS 1 (UA br d):=by
 rintro us S Q E ⟨r,x,rest,rfl,hS,hx,hl,hs,q⟩;unfold gS;walk_at "pf";dsimp[<-iQ,Iy hS];walk_at "pf";rcases hb with⟨rfl,rfl⟩|⟨p,rfl,hd,hbo,hch⟩
 .have e:((((6:Nat):Int))== 6)=true:=⋯
  dsimp[e,if_true];erw[q.elim]
 .have e:(((d:Nat):Int)== 6)=false:=by dsimp[beq_eq_false_iff_ne];omega
  dsimp[e,av,if_false];walk_at "pf";dsimp[bY hS,true_and];refine#[rfl,ca G.pass #[[40],d,r,x,rest,rfl,hS,hx,hl,?_]];unfold RW at q;rwa[q.bind (k5.refl hS) λa r1 S1 e1 c1 q1=>?_]
  have hs1:=gB [40] rest;rw[e1] at hs1;have hx1:=hs1.1.trans hx;have g1:=c1.2.1;walk_at "pf";dsimp[bY g1];try walk_at "pf"
  dsimp[bY g1,DB (v:=d) (d':=d+1) (t:=r1) (x:=x) (z:=.int ((d:Nat)+1)) rfl];refine#[by first|trivial|rfl,by simp,?_];have c2:k5 r (lM x r1 (d+1)) S (S1.set r (lM x r1 (d+1))):=c1.trans (k5.set g1);have g2:=c2.2.1;generalize S1.set r (lM x r1 (d+1))=S2 at c2 g2;walk_at "pf";dsimp[bY g2,true_and];refine#[rfl,ca hch #[r,x,r1,rfl,g2,hx1,hl,?_]];refine q1.DA c2 λt r2 S3 e3 c3 q3=>?_
  have hs3:=hbo p rfl r1;rw[e3] at hs3;have hx3:=hs3.1.trans hx1;have g3:=c3.2.1;try walk_at "pf"
  dsimp[bY g3,true_and];refine#[rfl,ca G.pass #[[41],d+1,r,x,r2,rfl,g3,hx3,hl,?_]];rwa[q3.ND c3 λa r3 S4 e4 c4 q4=>?_]
  have g4:=c4.2.1;walk_at "pf";dsimp[bY g4];try walk_at "pf"
  dsimp[bY g4,DB (v:=d+1) (d':=d) (t:=r3) (x:=x) (z:=.int (((d+1:Nat):Int)-1)) (by congr 1;omega)];refine#[by first|trivial|rfl,by simp,?_];walk_at "pf";exact q4 _ (c4.trans (k5.set g4))
structure GA(Γ:b8)(br:Option (List Nat->PR U))(d:Nat):Prop extends GR3 Γ d where
 cl:Γ "Reader.sign_class"=NC d
 bk:Γ "Reader.bracket"=UA br d
theorem My(Γ:b8)(br:Option (List Nat->PR U))(d:Nat)(G:GA Γ br d):Keeps Γ jJ 0 (zf [] (qZ br) d):=by
 rintro us S Q E ⟨r,x,rest,rfl,hS,hx,hl,q⟩;unfold jJ;walk_at "pf";dsimp[bY hS];refine#[#[by first|trivial|rfl,rfl],ca G.sees #[r,x,rest,d,_,rfl,hS,hx,hl,?_]];try walk_at "pf"
 unfold qZ at q;by_cases e1:cy [40] rest=true
 .dsimp[e1,if_true] at q ⊢
  walk_at "pf";dsimp[bY hS,true_and];exact#[rfl,ca G.bk #[r,x,rest,rfl,hS,hx,hl,e1,q]]
 .have e1':cy [40] rest=false:=by simpa using e1
  dsimp[e1',av,if_false] at q ⊢;walk_at "pf";dsimp[bY hS,true_and];refine#[rfl,ca G.sees #[r,x,rest,d,_,rfl,hS,hx,hl,?_]];try walk_at "pf"
  by_cases e2:cy [91] rest=true
  .dsimp[e2,if_true] at q ⊢
   walk_at "pf";dsimp[bY hS,true_and];refine#[rfl,ca G.cl #[r,x,rest,rfl,hS,hx,hl,?_]];rw[xq] at q;rwa[q.bind (toU:=U.str) (k5.refl hS) λa r1 S1 _ c1 q1=>?_]
   exact#[by simp,q1 S1 c1]
  .have e2':cy [91] rest=false:=by simpa using e2
   dsimp[e2',av,if_false] at q ⊢;walk_at "pf";dsimp[bY hS,true_and];refine#[rfl,ca G.sees #[r,x,rest,d,_,rfl,hS,hx,hl,?_]];try walk_at "pf"
   by_cases e3:cy [46] rest=true
   .dsimp[e3,if_true] at q ⊢
    walk_at "pf";dsimp[bY hS,true_and];refine#[rfl,ca G.pass #[[46],d,r,x,rest,rfl,hS,hx,hl,?_]];rwa[q.bind (k5.refl hS) λa r1 S1 _ c1 q1=>?_]
    walk_at "pf";refine ca G.Cm #[[10],rfl,λS2 x2=>?_];try walk_at "pf"
    exact#[by simp,q1 S2 (c1.trans (x2.chg c1.2.1))]
   .have e3':cy [46] rest=false:=by simpa using e3
    dsimp[e3',av,if_false] at q ⊢;walk_at "pf";dsimp[bY hS,true_and];refine#[rfl,ca G.ws #[MO,r,x,rest,rfl,hS,hx,hl,?_]];rw[xq] at q;rwa[q.bind (k5.refl hS) λa r1 S1 _ c1 q1=>?_]
    unfold kE;exact#[by simp,q1 S1 c1]
noncomputable def ZY:List (List Nat×List Nat):=[([42],kR),([43],oo),([63],j6)]
theorem IJ(h:[42,43,63].contains c=true):ZY.lookup [c]=some (if c=42 then kR else if c=43 then oo else j6):=by
 have:c=42\/c=43\/c=63:=by simpa using h
 rcases this with rfl|rfl|rfl<;>rfl
structure GP(Γ:b8)(br:Option (List Nat->PR U))(d:Nat):Prop extends GA Γ br d where
 at_:Γ "Reader.atom"=zf [] (qZ br) d
theorem xt{Γ:b8}{r d:Nat}{x:List Nat}{S:bD}{fin:Env->bD->Prop}{e0:Option U}(hl:x.length<=1000)
  (cW:Env->bD->(Bool->bD->Prop)->Prop) (bW:Env->bD->(Env->bD->Prop)->Prop)
  (hc:∀t S1 rest k,S1[r]?=some (lM x rest d)->rest<:+x->k (cy [42,43,63] rest) S1->cW [e0,some t] S1 k)
  (hb:∀t S1 c rest k,S1[r]?=some (lM x (c::rest) d)->(c::rest)<:+x->[42,43,63].contains c=true->(∀S2,k5 r (lM x rest d) S1 S2->k [e0,some (IG c t)] S2)->bW [e0,some t] S1 k):
  ∀(rest:List Nat)(t:U)(S1:bD),rest<:+x->k5 r (lM x rest d) S S1->(∀S2,k5 r (lM x (lF t rest).2 d) S S2->fin [e0,some (lF t rest).1] S2)->ym cW bW fin (rest.length+1) [e0,some t] S1
 |[],t,S1,hx,c1,hf=>by
  rwa[hc t S1 [] _ c1.2.1 hx ?_];dsimp[cy,av,if_false];erw[hf S1 c1]
 |c::rest,t,S1,hx,c1,hf=>by
  rwa[hc t S1 _ _ c1.2.1 hx ?_];by_cases e:[42,43,63].contains c=true
  .dsimp[cy,e,if_true]
   rwa[hb t S1 c rest _ c1.2.1 hx e λS2 c2=>?_]
   refine xt (Γ:=Γ) hl cW bW hc hb rest _ S2 (yD hx) (c1.trans c2) ?_;have:lF t (c::rest)=lF (IG c t) rest:=by
    conv=>lhs;unfold lF
    rw[if_pos e]
   rw[this] at hf;erw[hf]
  .have e':[42,43,63].contains c=false:=by simpa using e
   dsimp[cy,e',av,if_false];have:lF t (c::rest)=(t,c::rest):=by
    unfold lF;rw[if_neg e]
   rw[this] at hf;erw[hf S1 c1]
theorem E9(Γ:b8)(br:Option (List Nat->PR U))(d:Nat)(hbo:nq br)(G:GP Γ br d):Keeps Γ iF 1 (zf [] (i8 br) d):=by
 rintro us S Q E ⟨r,x,rest,rfl,hS,hx,hl,q⟩;unfold iF;walk_at "pl";dsimp[bY hS,G.at_];refine#[#[by first|trivial|rfl,rfl],r,x,rest,rfl,hS,hx,hl,?_];unfold i8 at q;refine q.DA (k5.refl hS) λt r1 S1 e1 c1 q1=>?_
 have hs1:=vn hbo rest;rw[e1] at hs1;have hx1:=hs1.1.trans hx;refine#[r1.length+1,xt (Γ:=Γ) (S:=S) hl _ _ ?_ ?_ r1 t S1 hx1 c1 ?_]
 .intro t2 S2 rest2 k g2 hx2 hk
  try walk_at "pl"
  dsimp[bY g2,G.sees,true_and];refine#[rfl,r,x,rest2,d,_,rfl,g2,hx2,hl,?_];try walk_at "pl"
  erw[hk]
 .intro t2 S2 c rest2 k g2 hx2 hc hk
  try walk_at "pl"
  dsimp[bY g2,G.pass,true_and];refine#[rfl,[42,43,63],d,r,x,_,rfl,g2,hx2,hl,?_];have e2:dX [42,43,63] (c::rest2)= .ok (c,rest2):=by unfold dX;dsimp only;rw[if_pos hc]
  show dY r x d S2 _ E (mapR kE (dX [42,43,63] (c::rest2)))
  rw[e2]
  intro S3 c3;unfold kE;rw[yi]
  have:=IJ hc;unfold ZY at this;rw[this,bB]
  exact#[by simp,hk S3 c3]
 .intro S2 c2
  try walk_at "pl"
  erw[q1 S2 c2]
theorem si(hp:∀rest,lN rest (p rest))
  (cW:Env->bD->(Bool->bD->Prop)->Prop) (bW:Env->bD->(Env->bD->Prop)->Prop) (h0:S.length<=n0) (h1:n0≠r)
  (hc:∀S1 rest k,S1[r]?=some (lM x rest d)->rest<:+x->k (!stop rest) S1->cW env S1 k)
  (hb:∀S1 rest acc k,S1[r]?=some (lM x rest d)->S1[n0]?=some (.lst acc)->acc.length<=2000->rest<:+x->stop rest=false->dY r x d S1 (λt S2=>k env (S2.set n0 (.lst (acc++[t])))) E (p rest)->bW env S1 k):
  ∀(m:Nat)(acc:List U)(rest:List Nat)(S1:bD),rest.length<m->acc.length+rest.length<=2000->rest<:+x->k5 r (lM x rest d) S S1->S1[n0]?=some (.lst acc) ->
   (∀ts r2 S2,dy stop p m acc rest=.ok (ts,r2)->k5 r (lM x r2 d) S S2->r2<:+x->S2[n0]?=some (.lst ts)->ts.length<=2000->acc.length<=ts.length->fin env S2)->(∀r',dy stop p m acc rest=.error r'->False) ->
   ym cW bW fin m env S1
 |0,_,_,_,h,_,_,_,_,_,_=>∅
 |m+1,acc,rest,S1,h,ht,hx,c1,hn,hf,he=>by
  rwa[hc S1 rest _ c1.2.1 hx ?_];by_cases e:stop rest=true
  .dsimp[e,bJ,av,if_false]
   erw[hf acc rest S1 (by unfold dy;rw[if_pos e]) c1 hx hn ∅ (au _)]
  .have e':stop rest=false:=by simpa using e
   dsimp[e',cj,if_true];rwa[hb S1 rest acc _ c1.2.1 hn ∅ hx e' ?_];have hs:=hp rest;cases q:p rest with
   |error r'=>
    erw[he r' (by unfold dy;rw[if_neg e,q];rfl)]
   |ok v=>
    let#[t,r1]:=v;rw[q] at hs;intro S2 c2;have hE:dy stop p (m+1) acc rest=dy stop p m (acc++[t]) r1:=by
     conv=>lhs;unfold dy
     rw[if_neg e,q];rfl
    have hn2:S2[n0]?=some (.lst acc):=(c2.2.2 n0 (aX hn) h1).trans hn;have c3:k5 r (lM x r1 d) S (S2.set n0 (.lst (acc++[t]))):=by
     have c12:=c1.trans c2;refine#[by simpa using c12.1,by rw[ah h1];erw[c12.2.1],λm hm ne=>?_];rw[ah ∅]
     erw[c12.2.2 m hm ne]
    refine si hp cW bW h0 h1 hc hb m (acc++[t]) r1 _ (by have:=hs.2;omega) (by simp;have:=hs.2;omega) (hs.1.trans hx) c3 (gs hn2) (λts r2 S3 e3 c4 h3 h4 h5 h6=>hf ts r2 S3 (by rw[hE];erw[e3]) c4 h3 h4 h5 (by simp at h6;omega)) (λr' e3=>he r' (by rw[hE];erw[e3]))
structure GW(Γ:b8)(br:Option (List Nat->PR U))(d:Nat):Prop extends GP Γ br d where
 rp:Γ "Reader.repeat"=zf [] (i8 br) d
 jn:Γ "joined"=kQ
theorem IK{x rest:List Nat}(h:rest<:+x):decide (((x.length-rest.length:Nat):Int)<x.length)= !rest.isEmpty:=by
 have:=NB h;cases rest with
 |nil=>simp at this ⊢
 |cons a b=>dsimp[ne_eq,reduceCtorEq,not_false_eq_true,iff_true] at this;rw[decide_eq_true this];rfl
theorem Qq(Γ:b8)(br:Option (List Nat->PR U))(d:Nat)(hbo:nq br)(G:GW Γ br d):Keeps Γ kh 1 (zf [] (v7 br) d):=by
 rintro us S Q E ⟨r,x,rest,rfl,hS,hx,hl,q⟩;unfold kh;walk_at "pl";dsimp[bY hS,G.rp];refine#[#[by first|trivial|rfl,rfl],r,x,rest,rfl,hS,hx,hl,?_];unfold v7 at q;refine q.DA (k5.refl hS) λt r1 S1 e1 c1 q1=>?_
 have hs1:=mP hbo rest;rw[e1] at hs1;have hx1:=hs1.1.trans hx;have hr1:r1.length<=1000:=aI hx1.length_le hl;refine#[by simp,?_];have hrl:=aX hS;have c2:k5 r (lM x r1 d) S (S1++[.lst [t]]):=c1.trans ((Ext.app _).chg c1.2.1);have hn:(S1++[SO.lst [t]])[S1.length]?=some (.lst [t]):=by simp
 have hne:S1.length≠r:=by have:=c1.1;omega
 refine#[r1.length+1,si (S:=S) (E:=E) (n0:=S1.length) (stop:=i9) (p:=i8 br) (mP hbo) _ _ c1.1 hne ?_ ?_ (r1.length+1) [t] r1 _ ∅ (by simp;omega) hx1 c2 hn ?_ ?_]
 .intro S2 rest2 k g2 hx2 hk
  try walk_at "pl"
  dsimp[<-iQ,yC g2,Al g2];try walk_at "pl"
  refine#[∅,?_];dsimp[IK hx2];unfold i9 at hk;cases rest2 with
  |nil=>simpa using hk
  |cons c t2=>
   dsimp[Gg,cj,if_true];dsimp[bY g2,G.sees,true_and];refine#[rfl,r,x,_,d,_,rfl,g2,hx2,hl,?_];try walk_at "pl"
   simpa using hk
 .intro S2 rest2 acc k g2 hn2 ha hx2 hst hk
  try walk_at "pl"
  dsimp[hn2,bY g2,G.rp,true_and];try walk_at "pl"
  refine#[rfl,r,x,rest2,rfl,g2,hx2,hl,?_];cases z:i8 br rest2 with
  |error r'=>rw[z] at hk;erw[hk]
  |ok v=>
   rw[z] at hk;intro S3 c3;have hn3:S3[S1.length]?=some (.lst acc):=(c3.2.2 _ (aX hn2) hne).trans hn2;dsimp[hn3];try walk_at "pl"
   exact#[∅,hk S3 c3]
 .intro ts r2 S2 e2 c3 hx2 hn2 hts ht1
  rw[e2] at q1;try walk_at "pl"
  dsimp[G.jn];refine#[Cn,S1.length,ts,rfl,hn2,?_,∅,q1 S2 c3];intro z;rw[z] at ht1;simp at ht1
 .intro r' e2
  rw[e2] at q1;erw[q1]
structure GC(Γ:b8)(br:Option (List Nat->PR U))(d:Nat):Prop extends GW Γ br d where
 ZZ:Γ "Reader.row"=zf [] (v7 br) d
theorem Fc(Γ:b8)(br:Option (List Nat->PR U))(d:Nat)(hbo:nq br)(G:GC Γ br d):Keeps Γ iE 1 (zf [] (gV br) d):=by
 rintro us S Q E ⟨r,x,rest,rfl,hS,hx,hl,q⟩;unfold iE;walk_at "pl";dsimp[bY hS,G.ZZ];refine#[#[by first|trivial|rfl,rfl],r,x,rest,rfl,hS,hx,hl,?_];unfold gV at q;refine q.DA (k5.refl hS) λt r1 S1 e1 c1 q1=>?_
 have hs1:=yF hbo rest;rw[e1] at hs1;have hx1:=hs1.1.trans hx;have hr1:r1.length<=1000:=aI hx1.length_le hl;refine#[by simp,?_];have hrl:=aX hS;have c2:k5 r (lM x r1 d) S (S1++[.lst [t]]):=c1.trans ((Ext.app _).chg c1.2.1);have hn:(S1++[SO.lst [t]])[S1.length]?=some (.lst [t]):=by simp
 have hne:S1.length≠r:=by have:=c1.1;omega
 refine#[r1.length+1,si (S:=S) (E:=E) (n0:=S1.length) (stop:=stopOr) (p:=Qo br) (II hbo) _ _ c1.1 hne ?_ ?_ (r1.length+1) [t] r1 _ ∅ (by simp;omega) hx1 c2 hn ?_ ?_]
 .intro S2 rest2 k g2 hx2 hk
  try walk_at "pl"
  dsimp[bY g2,G.sees,true_and];refine#[rfl,r,x,_,d,_,rfl,g2,hx2,hl,?_];try walk_at "pl"
  simpa[stopOr] using hk
 .intro S2 rest2 acc k g2 hn2 ha hx2 hst hk
  try walk_at "pl"
  dsimp[bY g2,G.pass,true_and];refine#[rfl,[124],d,r,x,rest2,rfl,g2,hx2,hl,?_];unfold Qo at hk;rwa[dY.bind (f:=λ_ r=>v7 br r) hk (k5.refl g2) λa r3 S3 e3 c3 q3=>?_]
  have hs3:=gB [124] rest2;rw[e3] at hs3;have hx3:=hs3.1.trans hx2;have g3:=c3.2.1;have hn3:S3[S1.length]?=some (.lst acc):=(c3.2.2 _ (aX hn2) hne).trans hn2;dsimp[hn3,bY g3,G.ZZ,true_and];try walk_at "pl"
  refine#[rfl,r,x,r3,rfl,g3,hx3,hl,?_];cases z:v7 br r3 with
  |error r'=>rw[z] at q3;erw[q3]
  |ok v=>
   rw[z] at q3;intro S4 c4;have hn4:S4[S1.length]?=some (.lst acc):=(c4.2.2 _ (aX hn3) hne).trans hn3;dsimp[hn4];try walk_at "pl"
   exact#[∅,q3 S4 (c3.trans c4)]
 .intro ts r2 S2 e2 c3 hx2 hn2 hts ht1
  rw[e2] at q1;try walk_at "pl"
  dsimp[G.jn];refine#[RV,S1.length,ts,rfl,hn2,?_,∅,q1 S2 c3];intro z;rw[z] at ht1;simp at ht1
 .intro r' e2
  rw[e2] at q1;erw[q1]
def mR:Spec:=λus S Q _=>∃r x,us=[.loc r,.str x]/\S[r]?=some (.ins "Reader" [])/\Q .bQ (S.set r (lM x x 0))
theorem IL(Γ:b8):Keeps Γ jH 0 mR:=by
 rintro us S Q E ⟨r,x,rfl,hS,q⟩;unfold jH;walk_at "pl";have hr:=aX hS;dsimp[hS,bN,gQ];refine#[by simp,?_];have g1:=gs (o':=SO.ins "Reader" [("text",U.str x)]) hS;generalize hS1:S.set r (SO.ins "Reader" [("text",U.str x)])=S1 at g1;dsimp[g1,bN];refine#[by simp,?_];have g2:=gs (o':=SO.ins "Reader" (gQ "at" (U.int 0) [("text",U.str x)])) g1;generalize hS2:S1.set r (SO.ins "Reader" (gQ "at" (U.int 0) [("text",U.str x)]))=S2 at g2;dsimp[g2,bN];refine#[by simp[gQ],?_];subst hS2;subst hS1;rw[sI,sI]
 have e:SO.ins "Reader" (gQ "depth" (.int 0) (gQ "at" (.int 0) [("text",.str x)]))=lM x x 0:=by
  unfold lM;rw[bO]
  rfl
 simpa[<-e] using q
def Co:Spec:=λus S Q E=>∃x,us=[.str x]/\x.length<=1000/\match sY x with
 |.ok (t,_)=>∀S',Ext S S'->Q t S'
 |.error r=>False
theorem Mz(Γ:b8)(h1:Γ "Reader.__init__"=mR)(h2:Γ "Reader.choice"=zf [] (gV (sX 6)) 0):Keeps Γ yp 2 Co:=by
 rintro us S Q E ⟨x,rfl,hl,q⟩;unfold yp;walk_at "pl";dsimp[h1,h2];have hn:(S++[SO.ins "Reader" []])[S.length]?=some (.ins "Reader" []):=by simp
 refine#[S.length,x,rfl,hn,rfl,?_];try walk_at "pl"
 have g1:=gs (o':=lM x x 0) hn;have x1:Old S.length S ((S++[SO.ins "Reader" []]).set S.length (lM x x 0)):=by
  refine#[by simp,λn h ne=>?_];rw[ah (bZ ne),ai h]
 generalize (S++[SO.ins "Reader" []]).set S.length (lM x x 0)=S1 at g1 x1;dsimp[bY g1,true_and];have toE:∀{S'},Old S.length S S'->Ext S S':=λo=>#[o.1,λn h=>o.2 n h ∅]
 refine#[rfl,S.length,x,x,rfl,g1,bC _,hl,?_];unfold sY at q;cases z:gV (sX 6) x with
 |error r'=>
  rw[z] at q;erw[q]
 |ok v=>
  let#[t,r1]:=v;have hs:=vo (sh 6) x;rw[z] at q hs;intro S2 c2;have g2:=c2.2.1;dsimp[<-iQ,Al g2];try walk_at "pl"
  refine#[∅,?_];dsimp[IK hs.1];dsimp[bindR] at q;cases r1 with
  |nil=>
   dsimp[List.isEmpty_nil,bJ,av,if_false];try walk_at "pl"
   simp at q;erw[q S2 (toE (x1.trans c2.old))]
  |cons c t2=>
   dsimp[Gg,cj,if_true];dsimp[reduceCtorEq,if_false] at q
section
variable{d f c:Nat}{r rest:List Nat}
def hd(rest:List Nat)(l:List Nat):Prop:=cy l rest=true
end
section
variable{α:Type}
theorem MA(h0:0<=i)(h1:i<l.length):∃a,sS l i=some a/\a∈l:=by
 obtain⟨n,rfl⟩:∃n:Nat,i=n:=#[i.toNat,∅]
 have h2:n<l.length:=∅
 exact#[l[n],by rw[kg,ab h2],dE h2]
theorem vp(h0:0<=i)(h1:i<l.length)(h:∀a∈l,r a):opt (sS l i) r:=by
 let#[a,e,m]:=MA h0 h1;rw[e];erw[h a m]
end
namespace tX
def Cp:Spec:=λus S Q _=>∃ns k,us=[.rY ns,.int k]/\ns.length<=1000/\∀m,Q (.int m) S
theorem MB(Γ:b8):Keeps Γ lA 0 Cp:=by
 rintro us S Q E ⟨ns,k,rfl,hl,q⟩;unfold lA;walk_at "pl";by_cases h:ns.length=0
 .dsimp[h,bne_self_eq_false,av,if_false]
  try walk_at "pl"
  erw[q 0]
 .have h':(ns.length !=0)=true:=by simpa using h
  dsimp[h',if_true];try walk_at "pl"
  refine#[∅,∅,∅,?_];erw[vp (oz _ ∅) (lJ _ ∅) (λa _=>q a)]
def xv:Spec:=λus S Q _=>∃ns k,us=[.rY ns,.int k]/\ns.length<=1000/\∀m:Int,0<=m->m<4294967231->Q (.int m) S
theorem Qr(Γ:b8)(h1:Γ "_law_cell"=Cp):Keeps Γ mH 1 xv:=by
 rintro us S Q E ⟨ns,k,rfl,hl,q⟩;unfold mH;walk_at "pl";dsimp[h1];refine#[ns,k,rfl,hl,λc=>?_];walk_at "pl";refine#[∅,∅,∅,∅,∅,∅,∅,?_];erw[q _ ∅ ∅]
def IM:Spec:=λus S Q _=>us=[]/\∀G,G=SG->Q (.str G) S
theorem Qs(Γ:b8):Keeps Γ mI 1 IM:=by
 rintro us S Q E ⟨rfl,q⟩;unfold mI;walk_at "pl";exact#[⋯,q _ rfl]
end tX
namespace tX
end tX
theorem mS{cW:Env->bD->(Bool->bD->Prop)->Prop}{bW:Env->bD->(Env->bD->Prop)->Prop}{fin:Env->bD->Prop}(I:Nat->Env->bD->Prop)
  (h:∀n env S k,I n env S->(∀m env' S',m<n->I m env' S'->k env' S')->cW env S (λt S1=>if t=true then bW env S1 k else fin env S1)):
  ∀N n env S,n<N->I n env S->ym cW bW fin N env S
 |0,_,_,_,hn,_=>∅
 |N+1,n,env,S,hn,hi=>h n env S _ hi λm env' S' hm hi'=>mS I h N m env' S' ∅ hi'
theorem DD(I:Nat->Env->bD->Prop)(hg:∀i env S,I i env S->g S)(l:List U)
  (h:∀i u env S k,l[i]?=some u->I i env S->(∀env' S',I (i+1) env' S'->k env' S')->turn u env S k) (hf:∀env S,I l.length env S->fin env S):
  ∀n i env S,i+n=l.length->I i env S->vY g turn fin (l.drop i) env S
 |0,i,env,S,e,hi=>by
  rw[nK ∅]
  have:i=l.length:=∅
  subst this;exact#[hg _ _ _ hi,hf _ _ hi]
 |n+1,i,env,S,e,hi=>by
  have hlt:i<l.length:=∅
  rw[iq hlt]
  exact#[hg _ _ _ hi,h i _ env S _ (ab hlt) hi λenv' S' hi'=>DD I hg l h hf n (i+1) env' S' ∅ hi']
theorem dO{g:bD->Prop}{turn:U->Env->bD->(Env->bD->Prop)->Prop}{fin:Env->bD->Prop}(I:Nat->Env->bD->Prop)(hg:∀i env S,I i env S->g S)(l:List U)
  (h:∀i u env S k,l[i]?=some u->I i env S->(∀env' S',I (i+1) env' S'->k env' S')->turn u env S k) (hf:∀env S,I l.length env S->fin env S)
  {env:Env}{S:bD} (hi:I 0 env S):vY g turn fin l env S:=DD I hg l h hf l.length 0 env S ∅ hi
theorem vq{n i:Nat}{u:U}(h:((cq n).map λk=>U.int (k:Nat))[i]?=some u):u=.int i/\i<n:=by
 rw[aD] at h;have hl:i<n:=by
  rcases Bd i n with z|z
  .erw[z]
  .rw[dD (by simpa using z)] at h;simp at h
 rw[iB hl] at h;simp at h;exact#[h.symm,hl]
namespace tX
end tX
def vt(br:Option (List Nat->PR U))(x:List Nat)(t:U):Prop:=∀rest,qZ br (x++rest)= .ok (t,rest)
noncomputable def MC(t:U)(ms:List Nat):U:=ms.foldl (λt c=>IG c t) t
def vv(br:Option (List Nat->PR U))(x:List Nat)(t:U):Prop:=∃a ta ms,x=a++ms/\vt br a ta/\(∀c∈ms,c∈[42,43,63])/\t=MC ta ms
theorem DE:∀(ms:List Nat)(t:U)(rest:List Nat),(∀c∈ms,c∈[42,43,63])->cy [42,43,63] rest=false->lF t (ms++rest)=(MC t ms,rest)
 |[],t,rest,_,h=>by
  cases rest with
  |nil=>rfl
  |cons c r=>
   have h:[42,43,63].contains c=false:=h;rw[kF,lF,h]
   rfl
 |m::ms,t,rest,hm,h=>by
  have e:[42,43,63].contains m=true:=gf.mpr (hm m (aS ..));rw[tO,lF,if_pos e,DE ms _ rest (λc hc=>hm c (aB _ hc)) h]
  rfl
theorem IP(h:vv br x t)(hr:cy [42,43,63] rest=false):i8 br (x++rest)= .ok (t,rest):=by
 let#[a,ta,ms,rfl,ha,hm,rfl]:=h;unfold i8;rw[bj,ha (ms++rest)]
 dsimp[bindR];rw[DE ms ta rest hm hr]
theorem Fd(hb:nq br)(h:vt br x t):∃c r,x=c::r/\c∉[42,43,63,124,41]:=by
 have h0:=h [];have hs:=vn hb (x++[]);rw[h0] at hs;cases x with
 |nil=>have:=hs.2;simp at this
 |cons c r=>
  refine#[c,r,rfl,λhc=>?_];have e1:cy [40] (c::r++[])=false:=(by decide:∀c∈[42,43,63,124,41],[40].contains c=false) c hc;have e2:cy [91] (c::r++[])=false:=(by decide:∀c∈[42,43,63,124,41],[91].contains c=false) c hc;have e3:cy [46] (c::r++[])=false:=(by decide:∀c∈[42,43,63,124,41],[46].contains c=false) c hc;have e4:cy [92] (c::r++[])=false:=(by decide:∀c∈[42,43,63,124,41],[92].contains c=false) c hc;unfold qZ at h0;rw[e1,e2,e3] at h0;dsimp[av,if_false] at h0;rw[Ao e4] at h0;have e5:dX (dW MO) (c::r++[])= .error (c::r++[]):=by
   have hn:(dW MO).contains c=false:=by
    have:c∈MO:=(by decide:∀c∈[42,43,63,124,41],c∈MO) c hc;unfold dW;dsimp[List.contains_eq_mem,decide_eq_false_iff_not];intro q;have:=(eP.mp q).2
    simp_all
   show(if (dW MO).contains c=true then _ else _)=_
   rw[if_neg (by rw[hn];simp)]
   rfl
  rw[e5] at h0;cases h0
theorem Au(hb:nq br)(h:vv br x t):∃c r,x=c::r/\c∉[42,43,63,124,41]:=by
 let#[a,ta,ms,rfl,ha,hm,rfl]:=h;let#[c,r,rfl,hc]:=Fd hb ha;exact#[c,r++ms,rfl,hc]
inductive rf(br:Option (List Nat->PR U)):List Nat->List U->Prop
 |nil:rf br [] []
 |cons{x y:List Nat}{t:U}{ts:List U}:vv br x t->rf br y ts->rf br (x++y) (t::ts)
theorem sZ(hb:nq br)(h:rf br y ts)(hr:i9 rest=true):cy [42,43,63] (y++rest)=false:=by
 cases h with
 |nil=>
  cases rest with
  |nil=>rfl
  |cons c r=>
   have:[124,41].contains c=true:=by simpa[i9,cy] using hr
   show [42,43,63].contains c=false
   simp at this ⊢;omega
 |cons a b=>
  let#[c,r,rfl,hc]:=Au hb a;show [42,43,63].contains c=false;simp at hc ⊢;omega
theorem xw(hb:nq br)(hr:i9 rest=true):∀{y:List Nat}{ts:List U},rf br y ts->∀(n:Nat)(acc:List U),y.length<n->dy i9 (i8 br) n acc (y++rest)= .ok (acc++ts,rest)
 |_,_,.nil,n,acc,hn=>by
  cases n with
  |zero=>omega
  |succ n=>rw[dy,kF,if_pos hr,bM]
 |_,_,.cons (x:=x) (y:=y) (t:=t) (ts:=ts) a b,n,acc,hn=>by
  let#[c,r,rfl,hc]:=Au hb a;cases n with
  |zero=>omega
  |succ n=>
   have hs:i9 (c::r++y++rest)=false:=by
    unfold i9;have:[124,41].contains c=false:=by simp at hc ⊢;omega
    show(false||[124,41].contains c)=false
    rw[this];rfl
   rw[dy,if_neg (by rw[hs];simp),bj,IP a (sZ hb b hr)]
   dsimp[bindR];rw[xw hb hr b n (acc++[t]) (by simp at hn;omega),bj]
   rfl
def vw(br:Option (List Nat->PR U))(x:List Nat)(t:U):Prop:=∃ts,ts≠[]/\rf br x ts/\t=oS Cn ts
theorem IQ(hb:nq br)(h:vw br x t)(hr:i9 rest=true):v7 br (x++rest)= .ok (t,rest):=by
 let#[ts,hn,h,rfl]:=h;cases h with
 |nil=>erw[absurd rfl hn]
 |@cons x y t ts a b=>
  unfold v7;rw[bj,IP a (sZ hb b hr)]
  dsimp[bindR];rw[xw hb hr b _ [t] (by simp;omega)]
  rfl
inductive vx(br:Option (List Nat->PR U)):List Nat->List U->Prop
 |nil:vx br [] []
 |cons{x y:List Nat}{t:U}{ts:List U}:vw br x t->vx br y ts->vx br (124::x++y) (t::ts)
def Fe(br:Option (List Nat->PR U))(x:List Nat)(t:U):Prop:=∃a b t0 ts,x=a++b/\vw br a t0/\vx br b ts/\t=oS RV (t0::ts)
def IS(rest:List Nat):Prop:=rest=[]\/∃r,rest=41::r
theorem xy(h:vx br y ts)(hr:IS rest):i9 (y++rest)=true:=by
 cases h with
 |nil=>rcases hr with rfl|⟨r,rfl⟩<;>rfl
 |cons a b=>rfl
theorem xA(hb:nq br)(hr:IS rest):∀{y:List Nat}{ts:List U},vx br y ts->∀(n:Nat)(acc:List U),y.length<n->dy stopOr (Qo br) n acc (y++rest)= .ok (acc++ts,rest)
 |_,_,.nil,n,acc,hn=>by
  have e:stopOr rest=true:=by rcases hr with rfl|⟨r,rfl⟩<;>rfl
  cases n with
  |zero=>omega
  |succ n=>rw[dy,kF,if_pos e,bM]
 |_,_,.cons (x:=x) (y:=y) (t:=t) (ts:=ts) a b,n,acc,hn=>by
  cases n with
  |zero=>omega
  |succ n=>
   have e:Qo br (124::x++y++rest)= .ok (t,y++rest):=by
    unfold Qo;have:dX [124] (124::x++y++rest)= .ok (124,x++(y++rest)):=by
     rw[bj];rfl
    rw[this]
    dsimp[bindR];erw[IQ hb a (xy b hr)]
   rw[dy,if_neg (by simp[stopOr,cy]),e]
   dsimp[bindR];rw[xA hb hr b n (acc++[t]) (by simp at hn;omega),bj]
   rfl
theorem xB(hb:nq br)(h:Fe br x t)(hr:IS rest):gV br (x++rest)= .ok (t,rest):=by
 let#[a,b,t0,ts,rfl,ha,hb',rfl]:=h;unfold gV;rw[bj,IQ hb ha (xy hb' hr)]
 dsimp[bindR];rw[xA hb hr hb' _ [t0] (by simp;omega)]
 rfl
theorem yG(h:Fe (sX k) x t):vt (sX (k+1)) (40::(x++[41])) t:=by
 intro rest;unfold qZ;rw[if_pos (by rfl)]
 unfold RW sX;show bindR (dX [40] (40::(x++[41]++rest))) _=_;have e1:dX [40] (40::(x++[41]++rest))= .ok (40,x++(41::rest)):=by
  rw[bj];rfl
 rw[e1]
 dsimp[bindR];rw[xB (sh k) h (.inr #[rest,rfl])]
 rfl
theorem DG(h:Fe (sX 6) x t):sY x=.ok (t,[]):=by
 unfold sY;have:=xB (sh 6) h (rest:=[]) (.inl rfl);rw[bM] at this;rw[this]
 rfl
end PL
namespace PL.nk
inductive Mk where|star|plus|may
inductive Tr where|one (n:Nat) (l:List Nat)|row (a b:Tr)|or (a b:Tr)|rep (m:Mk) (a:Tr)
noncomputable section
noncomputable def null:Tr->Bool
 |.one _ _=>false
 |.row a b=>null a&&null b
 |.or a b=>null a||null b
 |.rep .plus a=>null a
 |.rep _ _=>true
noncomputable def gC(K:List Tr):Bool:=K.all null
noncomputable def FS:Tr->Nat->Bool
 |.one n _,p=>p==n
 |.row a b,p=>FS a p||(null a&&FS b p)
 |.or a b,p=>FS a p||FS b p
 |.rep _ a,p=>FS a p
noncomputable def tf:List Tr->Nat->Bool
 |[],_=>false
 |t::K,p=>FS t p||(null t&&tf K p)
noncomputable def IN:Tr->Nat->Bool
 |.one n _,p=>p==n
 |.row a b,p=>IN a p||IN b p
 |.or a b,p=>IN a p||IN b p
 |.rep _ a,p=>IN a p
noncomputable def sgn:Tr->Nat->List Nat
 |.one _ l,_=>l
 |.row a b,p=>if IN a p then sgn a p else sgn b p
 |.or a b,p=>if IN a p then sgn a p else sgn b p
 |.rep _ a,p=>sgn a p
noncomputable def more:Mk->Tr->List Tr
 |.may,_=>[]
 |_,a=>[.rep .star a]
noncomputable def cont:Tr->Nat->List Tr
 |.one _ _,_=>[]
 |.row a b,p=>if IN a p then cont a p++[b] else cont b p
 |.or a b,p=>if IN a p then cont a p else cont b p
 |.rep m a,p=>cont a p++more m a
noncomputable def ct(t:Tr)(p:Nat):List Tr:=if p=0 then [t] else cont t p
noncomputable def size:Tr->Nat
 |.one _ _=>1
 |.row a b=>size a+size b
 |.or a b=>size a+size b
 |.rep _ a=>size a
noncomputable def cz:Tr->Nat
 |.one _ _=>0
 |.row a b=>max (cz a) (cz b)+1
 |.or a b=>max (cz a) (cz b)+1
 |.rep _ a=>cz a+1
def pY:Nat->Tr->Prop
 |n,.one k _=>k=n
 |n,.row a b=>pY n a/\pY (n+size a) b
 |n,.or a b=>pY n a/\pY (n+size a) b
 |n,.rep _ a=>pY n a
noncomputable def oq:Tr->List (List Nat)
 |.one _ l=>[l]
 |.row a b=>oq a++oq b
 |.or a b=>oq a++oq b
 |.rep _ a=>oq a
end
theorem gW:∀t,(oq t).length=size t
 |.one _ _=>rfl
 |.row a b=>by simp[oq,size,gW a,gW b]
 |.or a b=>by simp[oq,size,gW a,gW b]
 |.rep _ a=>by simp[oq,size,gW a]
theorem fO:∀{t n p},pY n t->(IN t p=true↔n<=p/\p<n+size t)
 |.one k l,n,p,h=>by
  have h:k=n:=h;subst h;dsimp[IN,size,beq_iff_eq];omega
 |.row a b,n,p,h=>by
  dsimp[IN,size,bF,fO h.1,fO h.2];omega
 |.or a b,n,p,h=>by
  dsimp[IN,size,bF,fO h.1,fO h.2];omega
 |.rep m a,n,p,h=>fO (t:=a) h
theorem sj:∀{t n p},pY n t->IN t p=true->(oq t)[p-n]?=some (sgn t p)
 |.one k l,n,p,h,i=>by
  have h:k=n:=h;subst h;have:p=k:=by simpa[IN] using i
  simp[this,oq,sgn]
 |.row a b,n,p,h,i=>by
  have e1:=fO (p:=p) h.1;have e2:=fO (p:=p) h.2;have l1:=gW a;dsimp[oq,sgn];by_cases z:IN a p=true
  .rw[if_pos z,ai (by have:=e1.mp z;omega)];erw[sj h.1 z]
  .have z2:IN b p=true:=by simpa[IN,z] using i
   have:=e2.mp z2;rw[if_neg z,ax ∅,<-sj h.2 z2]
   congr 1;omega
 |.or a b,n,p,h,i=>by
  have e1:=fO (p:=p) h.1;have e2:=fO (p:=p) h.2;have l1:=gW a;dsimp[oq,sgn];by_cases z:IN a p=true
  .rw[if_pos z,ai (by have:=e1.mp z;omega)];erw[sj h.1 z]
  .have z2:IN b p=true:=by simpa[IN,z] using i
   have:=e2.mp z2;rw[if_neg z,ax ∅,<-sj h.2 z2]
   congr 1;omega
 |.rep m a,n,p,h,i=>sj (t:=a) h i
theorem Av(h:pY n a/\pY (n+size a) b)(i:IN b p=true):¬IN a p=true:=λz=>by
 have:=(fO h.1).mp z;have:=(fO h.2).mp i;omega
theorem rg:∀{t p},FS t p=true->IN t p=true
 |.one k l,p,h=>h
 |.row a b,p,h=>by
  dsimp[FS,bF,ao] at h;dsimp[IN,bF];erw[h.imp rg λz=>rg z.2]
 |.or a b,p,h=>by
  dsimp[FS,bF] at h;dsimp[IN,bF];erw[h.imp rg rg]
 |.rep m a,p,h=>rg (t:=a) h
theorem oU:∀{K L:List Tr}{p:Nat},tf (K++L) p=(tf K p||(gC K&&tf L p))
 |[],L,p=>by simp[tf,gC]
 |t::K,L,p=>by
  dsimp[tO,tf,oU,gC,bK];cases null t<;>cases FS t p<;>simp
theorem vy:gC (K++L)=(gC K&&gC L):=by simp[gC]
theorem IT:tf (more m a) p=true->FS a p=true:=by
 cases m<;>simp[more,tf,FS]
theorem mT:∀{t q p},tf (cont t q) p=true->IN t p=true
 |.one k l,q,p,h=>by simp[cont,tf] at h
 |.row a b,q,p,h=>by
  dsimp[cont] at h;dsimp[IN,bF];split at h
  .rw[oU] at h
   dsimp[bF,ao] at h;rcases h with h|⟨_,h⟩
   .erw[.inl (mT h)]
   .exact .inr (rg (by simpa[tf] using h))
  .erw[.inr (mT h)]
 |.or a b,q,p,h=>by
  dsimp[cont] at h;dsimp[IN,bF];split at h
  .erw[.inl (mT h)]
  .erw[.inr (mT h)]
 |.rep m a,q,p,h=>by
  dsimp[cont] at h;rw[oU] at h;dsimp[bF,ao] at h;rcases h with h|⟨_,h⟩
  .erw[mT (t:=a) h]
  .erw[rg (t:=a) (IT h)]
noncomputable def pe:Mk->List Nat
 |.star=>kR
 |.plus=>oo
 |.may=>j6
noncomputable def enc:Tr->U
 |.one _ l=>.tup [.str Mw,.str l]
 |.row a b=>.tup [.str Cn,.tup [enc a,enc b]]
 |.or a b=>.tup [.str RV,.tup [enc a,enc b]]
 |.rep m a=>.tup [.str (pe m),enc a]
noncomputable def YJ(K:List Tr):U:=.tup (K.map enc)
noncomputable def YK(K:List Tr):U:=.tup [.str Cn,YJ K]
theorem IU(h:tf (ct t q) p=true):IN t p=true:=by
 unfold ct at h;split at h
 .dsimp[tf,bF,ao,av,and_false,or_false] at h
  erw[rg h]
 .erw[mT h]
theorem Cq(h:pY n t)(n0:0<n)(i:IN t p=true):p≠0:=by
 have:=(fO h).mp i;omega
def Z3(t:Tr)(c:Nat)(H:Nat->Prop):Nat->Prop:=λp=>∃q,H q/\tf (ct t q) p=true/\c∈sgn t p
def hs(t:Tr)(w:List Nat):Nat->Prop:=w.foldl (λH c=>Z3 t c H) (λp=>p=0)
def En(t:Tr)(H:Nat->Prop):Prop:=∃p,H p/\gC (ct t p)=true
theorem yH:hs t (w++[c])=Z3 t c (hs t w):=by unfold hs;rw[dm];rfl
theorem take_snoc{w:List Nat}{k c:Nat}(h:w[k]?=some c):w.take (k+1)=w.take k++[c]:=by
 rw[fc,h];rfl
section
variable{S:bD}{Q:KU}{a b p:Nat}
theorem BX:j5 .bor (.int (a:Nat)) (.int (b:Nat)) S Q=Q (.int ((a|||b:Nat):Int)) S:=by
 rw[O8,eq_true (show(0:Int)<=a/\(0:Int)<=b from #[∅,∅]),true_and];rfl
theorem tW:j5 .band (.int (a:Nat)) (.int (b:Nat)) S Q=Q (.int ((a&&&b:Nat):Int)) S:=by
 rw[Lv,eq_true (show(0:Int)<=a/\(0:Int)<=b from #[∅,∅]),true_and];rfl
theorem Wz:j5 .band (.int (a:Nat)) (.int 1) S Q=Q (.int ((a&&&1:Nat):Int)) S:=tW (b:=1)
theorem Qt:j5 .shl (.int 1) (.int (p:Nat)) S Q=(p<=1000/\Q (.int ((1<<<p:Nat):Int)) S):=by
 rw[O9]
 have e:(1:Int)*(2:Int)^((p:Int).toNat)=((1<<<p:Nat):Int):=by
  rw[tB];simp
 rw[e]
 erw[propext #[λh=>#[∅,h.2],λh=>#[∅,h.2]]]
theorem YL:j5 .shr (.int (a:Nat)) (.int (p:Nat)) S Q=Q (.int ((a>>>p:Nat):Int)) S:=by
 rw[Pa,eq_true (show(0:Int)<=a/\(0:Int)<=p from #[∅,∅]),true_and]
 have e:(a:Int)/(2:Int)^((p:Int).toNat)=((a>>>p:Nat):Int):=by
  rw[Nat.shiftRight_eq_div_pow];simp
 rw[e]
theorem Z4:r6 .sum [.loc n] S Q=(∃is:List Int,S[n]?=some (.lst (is.map .int))/\Q (.int is.sum) S):=rfl
end
theorem UD:(((a>>>p&&&1:Nat):Int) !=0)=a.testBit p:=by
 unfold Nat.testBit;rw[Nat.and_comm]
 by_cases h:1&&&a>>>p=0
 .simp[h]
 .have:¬(((1&&&a>>>p:Nat):Int)=0):=∅
  rw[bne_iff_ne.mpr this,bne_iff_ne.mpr h]
theorem Cr{a:Nat}:((a:Int) !=0)=true↔∃p,a.testBit p=true:=by
 constructor
 .intro h
  have:a≠0:=by
   have:=bne_iff_ne.mp h;omega
  erw[Nat.exists_testBit_of_ne_zero this]
 .rintro⟨p,h⟩
  rwa[bne_iff_ne.mpr λz=>?_]
  have:a=0:=∅
  subst this;simp at h
theorem Qu(h:b.testBit p=true):p<sT b:=by
 have g:=Nat.ge_two_pow_of_testBit h;have b0:b≠0:=by
  have:0<2^p:=Nat.two_pow_pos p;omega
 unfold sT;rw[if_neg b0]
 have:=(Nat.le_log2 b0).mpr g;omega
theorem bits_le(h:b<2^n):sT b<=n:=by
 unfold sT;split
 .omega
 .rename_i z
  have:=(Nat.log2_lt z).mpr h;omega
theorem jz(h:∀p,b.testBit p=true->p<n):b<2^n:=Nat.lt_of_not_le λz=>by
 let#[i,hi,ti]:=Nat.exists_ge_and_testBit_of_ge_two_pow z;have:=h i ti;omega
noncomputable def Cs(b:Nat):List Nat:=(cq (sT b)).filter b.testBit
theorem kS:p∈Cs b↔b.testBit p=true:=by
 unfold Cs;rw[eP,pq]
 exact#[λh=>h.2,λh=>#[Qu h,h]]
noncomputable abbrev aQ(n:Nat):U:=.int (n:Nat)
theorem gD(l:List U)(I:Nat->List U->bD->Prop)(hg:∀i acc S,i<=l.length->I i acc S->g S/\acc.length<1000000)
  (h:∀i u acc S(k:List U->bD->Prop),l[i]?=some u->I i acc S->(∀acc' S',I (i+1) acc' S'->k acc' S')->c u S λb S1=>if b=true then e u S1 λv S2=>k (acc++[v]) S2 else k acc S1) (hf:∀acc S,I l.length acc S->Q acc S){S:bD} (h0:I 0 [] S):lX g c e Q l [] S:=by
 have key:∀n i acc S,i+n=l.length->I i acc S->lX g c e Q (l.drop i) acc S:=by
  intro n;induction n with
  |zero=>
   intro i acc S e hi;rw[nK ∅]
   have ei:i=l.length:=∅
   subst ei;exact#[(hg _ _ _ (au _) hi).1,(hg _ _ _ (au _) hi).2,hf _ _ hi]
  |succ n ih=>
   intro i acc S e hi;have hl:i<l.length:=∅
   rw[iq hl]
   exact#[(hg _ _ _ ∅ hi).1,(hg _ _ _ ∅ hi).2,h i _ acc S _ (ab hl) hi λacc' S' h'=>ih (i+1) acc' S' ∅ h']
 erw[key l.length 0 [] S ∅ h0]
theorem xC(l:List U)(p:U->Bool)(f:U->U)(hg:g S)(hl:l.length<1000000)
  (h:∀u k,u∈l->((p u=true->k true S)/\(p u=false->k false S)->c u S k)) (he:∀u k,u∈l->p u=true->k (f u) S->e u S k) (q:Q ((l.filter p).map f) S):lX g c e Q l [] S:=by
 rwa[gD l (λi acc S'=>S'=S/\acc=((l.take i).filter p).map f) (λi acc S' hi h=>#[h.1▸hg,?_]) (λi u acc S' k hu hi hk=>?_) (λacc S' h=>?_) #[rfl,rfl]]
 .rw[h.2,ag]
  have:=Bh p (l.take i);rw[cu] at this;omega
 .let#[rfl,rfl]:=hi
  have hm:=ak hu;have et:l.take (i+1)=l.take i++[u]:=by rw[fc,hu];rfl
  rwa[h u _ hm #[λz=>?_,λz=>?_]]
  .rw[if_pos rfl]
   erw[he u _ hm z (hk _ _ #[rfl,by rw[et,FO,aH,List.filter_cons_of_pos z];rfl])]
  .rw[if_neg (by simp)]
   erw[hk _ _ #[rfl,by rw[et,FO,List.filter_cons_of_neg (by simp[z])];simp]]
 .let#[rfl,rfl]:=h
  rw[bE];erw[q]
theorem fw{α β:Type}{l:List α}{f:α->β}{i:Nat}{u:β}(h:(l.map f)[i]?=some u):∃a,l[i]?=some a/\f a=u:=by
 rw[aD] at h;erw[ar.mp h]
theorem IV{α:Type}{l:List α}{i:Nat}{a:α}(h:l[i]?=some a):l.take (i+1)=l.take i++[a]:=by rw[fc,h];rfl
theorem _root_.Lake.PL.Ext.st{S S':bD}{n:Nat}{o:SO}(x:Ext S S')(h:S.length<=n):Ext S (S'.set n o):=
 #[by rw[cg];erw[x.1],λk hk=>by rw[ah (cx (aq hk h))];erw[x.2 k hk]]
end PL.nk
open PL.nk
local macro_rules | `(tactic| walk_at "qpk") => do let a:=((wN0++" Hy Nu ZO TV TX ZP X8 ZR XO Z4 BX tW Wz Qt YL XQ Zt Wm XR getD_some kG ZQ X9 Ya TM XT XS XU Int.toNat_natCast Bool.false_eq_true if_false if_true Bool.not_true Bool.not_false").splitOn " ").toArray.map fun s=>Lean.mkIdent s.toName;`(tactic| simp only [$[$a:ident],*])
local macro_rules | `(tactic| walk_at "pk") => `(tactic| ((try refine Rest.go ?_); walk_at "qpk"; repeat ((refine Rest.go ?_); walk_at "qpk")))
namespace PL.nk
def Aw:Spec:=λus S Q _=>∃b:Nat,us=[aQ b]/\b<2^100/\∀n S',Ext S S'->S.length<=n->S'[n]?=some (.lst ((Cs b).map aQ))->Q (.loc n) S'
theorem Qv(Γ:b8):Keeps Γ oQ 0 Aw:=by
 rintro us S Q E ⟨b,rfl,hb,q⟩;unfold oQ;room;have hl:=bits_le hb;refine#[∅,∅,∅,?_];refine xC (S:=S) _ (λu=>match u with|.int i=>b.testBit i.toNat|_=>false) id trivial (by simp;omega) (λu k hu h=>?_) (λu k _ _ h=>h) ?_
 .let#[p,_,rfl]:=de.mp hu
  room;rw[UD]
  cases z:b.testBit p with
  |true=>erw[h.1 z]
  |false=>erw[h.2 z]
 .rwa[q _ _ (Ext.app _) (au _) ?_]
  have:((cq (sT b)).map λk=>U.int (k:Nat)).filter (λu=>match u with|.int i=>b.testBit i.toNat|_=>false)=(Cs b).map aQ:=by
   rw[List.filter_map];rfl
  rw[List.map_id,this];simp
noncomputable def Kb(e:Bool)(F Z:Nat):SO:=.ins "Part" [("empty",.bl e),("firsts",aQ F),("lasts",aQ Z)]
section
variable{S:bD}{p F Z:Nat}{e:Bool}{r:U->Prop}(h:S[p]?=some (Kb e F Z))
include h
theorem Ff:og (.loc p) "empty" S r=r (.bl e):=by rw[iQ,h];rfl
theorem Ax:og (.loc p) "firsts" S r=r (aQ F):=by rw[iQ,h];rfl
theorem Ay:og (.loc p) "lasts" S r=r (aQ Z):=by rw[iQ,h];rfl
end
def yI:Spec:=λus S Q _=>∃p e F Z,us=[.loc p,.bl e,aQ F,aQ Z]/\S[p]?=some (.ins "Part" [])/\Q .bQ (S.set p (Kb e F Z))
theorem UE(Γ:b8):Keeps Γ lC 0 yI:=by
 rintro us S Q E ⟨p,e,F,Z,rfl,h,q⟩;unfold lC;room;rw[h]
 dsimp[bN];refine#[by simp,?_];have g1:=gs (o':=SO.ins "Part" (gQ "empty" (U.bl e) [])) h;room;rw[g1]
 dsimp[bN];refine#[by simp[gQ],?_];have g2:=gs (o':=SO.ins "Part" (gQ "firsts" (aQ F) (gQ "empty" (U.bl e) []))) g1;room;rw[g2]
 dsimp[bN];refine#[by simp[gQ],?_];room;rw[sI,sI]
 erw[q]
theorem pE{Γ:b8}(h1:Γ "Part.__init__"=yI){e:Bool}{F Z:Nat}{S:bD}{R:KU}{E:KX}(q:∀S',Ext S S'->S'[S.length]?=some (Kb e F Z)->R .bQ S'):
  Γ "Part.__init__" [.loc S.length,.bl e,aQ F,aQ Z] (S++[.ins "Part" []]) R E:=by
 have g:(S++[SO.ins "Part" []])[S.length]?=some (.ins "Part" []):=by simp
 rwa[ca h1 #[S.length,e,F,Z,rfl,g,q _ #[by simp,λn hn=>?_] (gs g)]];rw[ah ∅,ai hn]
def p6(f:Bool->Nat->Nat->Bool->Nat->Nat->Bool×Nat×Nat):Spec:=λus S Q _=>∃p1 e1 F1 Z1 p2 e2 F2 Z2,us=[.loc p1,.loc p2]/\S[p1]?=some (Kb e1 F1 Z1)/\S[p2]?=some (Kb e2 F2 Z2) /\
 ∀S',Ext S S'->S'[S.length]?=some (Kb (f e1 F1 Z1 e2 F2 Z2).1 (f e1 F1 Z1 e2 F2 Z2).2.1 (f e1 F1 Z1 e2 F2 Z2).2.2)->Q (.loc S.length) S'
noncomputable def sk(e1:Bool)(F1 Z1:Nat)(e2:Bool)(F2 Z2:Nat):Bool×Nat×Nat:=(e1&&e2,if e1 then F1|||F2 else F1,if e2 then Z1|||Z2 else Z2)
noncomputable def UG(e1:Bool)(F1 Z1:Nat)(e2:Bool)(F2 Z2:Nat):Bool×Nat×Nat:=(e1||e2,F1|||F2,Z1|||Z2)
theorem Qw(Γ:b8)(h1:Γ "Part.__init__"=yI):Keeps Γ fK 2 (p6 sk):=by
 rintro us S Q E ⟨p1,e1,F1,Z1,p2,e2,F2,Z2,rfl,g1,g2,q⟩;unfold fK;room;cases e1<;>cases e2<;>(repeat first|room|dsimp[Ff g1,Ff g2,Ax g1,Ax g2,Ay g1,Ay g2])
 .erw[pE h1 λS' x g=>#[rfl,q S' x g]]
 .erw[pE h1 λS' x g=>#[rfl,q S' x g]]
 .erw[pE h1 λS' x g=>#[rfl,q S' x g]]
 .erw[pE h1 λS' x g=>#[rfl,q S' x g]]
theorem UH(Γ:b8)(h1:Γ "Part.__init__"=yI):Keeps Γ i4 0 (p6 UG):=by
 rintro us S Q E ⟨p1,e1,F1,Z1,p2,e2,F2,Z2,rfl,g1,g2,q⟩;unfold i4;cases e1<;>(repeat first|room|dsimp[Ff g1,Ff g2,Ax g1,Ax g2,Ay g1,Ay g2])
 .erw[pE h1 λS' x g=>#[rfl,q S' x g]]
 .erw[pE h1 λS' x g=>#[rfl,q S' x g]]
structure rh(S:bD)(L:Nat)(sg:List (List Nat))(bh en:List Nat):Prop where
 o:S[L]?=some (.ins "Layout" [("signs",.loc (L+1)),("behind",.loc (L+2)),("ends",.loc (L+3))])
 s:S[L+1]?=some (.lst (sg.map .str))
 b:S[L+2]?=some (.lst (bh.map aQ))
 e:S[L+3]?=some (.lst (en.map aQ))
def Fr(L:Nat)(S S':bD):Prop:=S.length<=S'.length/\∀n,n<S.length->n<=L\/L+4<=n->S'[n]?=S[n]?
section
variable{S S1 S2:bD}{L:Nat}{sg:List (List Nat)}{bh en:List Nat}{r:U->Prop}{q:KU}
theorem Fr.refl:Fr L S S:=#[au _,λ_ _ _=>rfl]
theorem Fr.trans(a:Fr L S S1)(b:Fr L S1 S2):Fr L S S2:=#[aI a.1 b.1,λn h z=>(b.2 n (aq h a.1) z).trans (a.2 n h z)]
theorem Ext.fr(a:Ext S S1):Fr L S S1:=#[a.1,λn h _=>a.2 n h]
theorem Fr.get(a:Fr L S S1){n:Nat}{o:SO}(h:S[n]?=some o)(z:L+4<=n):S1[n]?=some o:=(a.2 n (aX h) (.inr z)).trans h
theorem Fr.set(a:Fr L S S1){n:Nat}{o:SO}(h1:L<n)(h2:n<L+4):Fr L S (S1.set n o):=#[by rw[cg];erw[a.1],λm h z=>by rw[ah ∅];erw[a.2 m h z]]
variable(h:rh S L sg bh en)
include h
theorem rh.ext(x:Ext S S1):rh S1 L sg bh en:=#[x.get h.o,x.get h.s,x.get h.b,x.get h.e]
theorem rh.len:L+4<=S.length:=aX h.e
theorem IW:og (.loc L) "signs" S r=r (.loc (L+1)):=by rw[iQ,h.o];rfl
theorem IX:og (.loc L) "behind" S r=r (.loc (L+2)):=by rw[iQ,h.o];rfl
theorem Qx:og (.loc L) "ends" S r=r (.loc (L+3)):=by rw[iQ,h.o];rfl
theorem rh.YM:rh (S.set (L+1) (.lst (sg'.map .str))) L sg' bh en:=
 #[by rw[ah ∅];erw[h.o],gs h.s,by rw[ah ∅];erw[h.b],by rw[ah ∅];erw[h.e]]
theorem rh.setB:rh (S.set (L+2) (.lst (bh'.map aQ))) L sg bh' en:=
 #[by rw[ah ∅];erw[h.o],by rw[ah ∅];erw[h.s],gs h.b,by rw[ah ∅];erw[h.e]]
theorem rh.YN:rh (S.set (L+3) (.lst (en'.map aQ))) L sg bh en':=
 #[by rw[ah ∅];erw[h.o],by rw[ah ∅];erw[h.s],by rw[ah ∅];erw[h.b],gs h.e]
end
def Qy:Spec:=λus S Q _=>∃L,us=[.loc L]/\S[L]?=some (.ins "Layout" [])/\S.length=L+1/\∀S',(∀n,n<L->S'[n]?=S[n]?)->rh S' L [[]] [0] []->Q .bQ S'
theorem UI(Γ:b8):Keeps Γ jO 0 Qy:=by
 rintro us S Q E ⟨L,rfl,h,hl,q⟩;unfold jO;room;refine#[by simp,?_];have g0:(S++[SO.lst [U.str []]])[L]?=some (.ins "Layout" []):=by rw[ai ∅];erw[h]
 rw[g0]
 dsimp[bN];refine#[by simp,?_];have g1:=gs (o':=SO.ins "Layout" (gQ "signs" (U.loc S.length) [])) g0;room;refine#[by simp,?_];rw[ai (by simp;omega),g1]
 dsimp[bN];refine#[by simp[gQ],?_];room;refine#[by simp,?_];rw[ai (by simp;omega),gs (by rw[ai (by simp;omega)];erw[g1])]
 dsimp[bN];refine#[by simp[gQ],?_];room;rwa[q _ (λn hn=>?_) #[?_,?_,?_,?_]]
 .simp[hJ,jm,hl,cx hn,bb hn,bb (bb hn),bb (bb (bb hn))]
 .rw[bg (by simp;omega)]
  simp[gQ,hl]
 .rw[ah ∅]
  simp[hJ,jm,hl]
 .rw[ah ∅]
  simp[hJ,jm,hl]
 .rw[ah ∅]
  simp[hJ,jm,hl]
def Qz:Spec:=λus S Q _=>∃L sg bh en,us=[.loc L]/\rh S L sg bh en/\sg.length<=1000/\Q (.int (sg.length-1:Int)) S
theorem UJ(Γ:b8):Keeps Γ fX 0 Qz:=by
 rintro us S Q E ⟨L,sg,bh,en,rfl,h,hl,q⟩;unfold fX;room;rw[IW h,lu h.s]
 dsimp[bB,ag];exact#[∅,q]
theorem t6{l:List Nat}{k B:Nat}{r:U->Prop}(h:l[k]?=some B)(z:r (aQ B)):opt ((l.map aQ)[k]?) r:=by
 rw[aD,h];erw[z]
def QC:Spec:=λus S Q _=>∃L sg bh en p e F Z B bt,us=[.loc L,.loc p]/\rh S L sg bh en/\bh=B::bt/\S[p]?=some (Kb e F Z)/\L+4<=p/\en.length<=1000/\∀S',Fr L S S'->rh S' L sg ((B|||F)::bt) (en++[Z])->Q .bQ S'
theorem UK(Γ:b8):Keeps Γ fj 0 QC:=by
 rintro us S Q E ⟨L,sg,bh,en,p,e,F,Z,B,bt,rfl,h,rfl,hp,pl,hn,q⟩;unfold fj;room;rw[IX h]
 room;rw[h.b]
 dsimp[aC];refine#[Ee _,?_];dsimp[Int.toNat_zero];rwa[t6 (B:=B) rfl ?_];rw[Ax hp]
 room;rw[h.b]
 dsimp[aC];refine#[by simp,?_];have h1:=h.setB (bh':=(B|||F)::bt);have e1:(fg aQ (B::bt)).set 0 (U.int ((B|||F:Nat):Int))=fg aQ ((B|||F)::bt):=by simp
 rw[e1]
 have f1:=(Fr.refl (L:=L) (S:=S)).set (n:=L+2) (o:=.lst (fg aQ ((B|||F)::bt))) ∅ ∅;have hp1:=f1.get hp pl;generalize S.set (L+2) (.lst (fg aQ ((B|||F)::bt)))=S1 at h1 f1 hp1;room;rw[Qx h1]
 room;rw[h1.e]
 dsimp[aC];room;rw[Ay hp1]
 refine#[by simp;omega,?_];room;have e2:fg aQ en++[aQ Z]=fg aQ (en++[Z]):=by simp
 rw[e2]
 erw[q _ (f1.set ∅ ∅) h1.YN]
def UL(Z F:Nat)(bh bh':List Nat):Prop:=bh'.length=bh.length/\∀(q B:Nat),bh[q]?=some B->∃B',bh'[q]?=some B'/\∀r,B'.testBit r=(B.testBit r||(Z.testBit q&&F.testBit r))
def IY:Spec:=λus S Q _=>∃L sg bh en Z F,us=[.loc L,aQ Z,aQ F]/\rh S L sg bh en/\bh.length<=100/\(∀p,Z.testBit p=true->p<bh.length)/\∀S' bh',Fr L S S'->rh S' L sg bh' en->UL Z F bh bh'->Q .bQ S'
theorem UM(Γ:b8)(h1:Γ "members"=Aw):Keeps Γ jP 1 IY:=by
 rintro us S Q E ⟨L,sg,bh,en,Z,F,rfl,h,hl,hz,q⟩;unfold jP;room;rwa[ca h1 #[Z,rfl,aq (jz hz) (bp ∅ hl),λn S1 x1 hn g1=>?_]];room;rw[g1]
 dsimp[aC];have hln:=h.len;refine dO (λi env S2=>∃bh2 x3,env=[some (.loc L),some (aQ Z),some (aQ F),x3]/\Fr L S1 S2/\rh S2 L sg bh2 en/\bh2.length=bh.length/\∀(q B:Nat),bh[q]?=some B->∃B',bh2[q]?=some B'/\∀r,B'.testBit r=(B.testBit r||(decide (q∈(Cs Z).take i)&&F.testBit r)))
  (λi env S2 h9=>by let#[_,_,_,f,_]:=h9;erw[f.get g1 ∅]) _ ?_ ?_ #[bh,none,rfl,.refl,h.ext x1,rfl,λq B e=>#[B,e,λr=>by simp]]
 .rintro i u env S2 K hu ⟨bh2,x3,rfl,f2,h2,l2,inv⟩ hK
  let#[p,hp,rfl]:=fw hu;have pz:=kS.mp (ak hp);have pl:=hz p pz;let#[B',e',b']:=inv p _ (ab pl);room;rw[IX h2]
  room;rw[h2.b]
  dsimp[aC];refine#[∅,t6 e' ?_];room;rw[h2.b]
  dsimp[aC];refine#[by simp;omega,?_];have ee:(fg aQ bh2).set p (U.int ((B'|||F:Nat):Int))=fg aQ (bh2.set p (B'|||F)):=by rw[List.map_set]
  rw[ee]
  room;rwa[hK _ _ #[_,_,rfl,f2.set ∅ ∅,h2.setB,by simp[l2],λq B e=>?_]];have et:=IV hp;rw[et]
  by_cases z:q=p
  .subst z
   rw[ab pl] at e;injection e with e;subst e
   refine#[B'|||F,by rw[bg ∅],λr=>?_];rw[du,b']
   dsimp[aR,b7,or_true,decide_true,zb];cases bh[q].testBit r<;>cases F.testBit r<;>simp
  .let#[B2,e2,b2]:=inv q B e
   refine#[B2,by rw[ah (bZ z)];erw[e2],λr=>?_];rw[b2]
   simp[z]
 .rintro env S2 ⟨bh2,x3,rfl,f2,h2,l2,inv⟩
  room;rwa[q _ _ (Ext.fr x1 |>.trans f2) h2 #[l2,λq B e=>?_]];let#[B',e',b']:=inv q B e;refine#[B',e',λr=>?_];rw[b',ag,bE]
  congr 2
  by_cases z:Z.testBit q=true
  .rw[z];erw[decide_eq_true (kS.mpr z)]
  .rw[fD _ |>.mp z];erw[decide_eq_false λm=>z (kS.mp m)]
structure tM(t:Tr)(bh:List Nat)(F Z:Nat)(bh':List Nat):Prop where
 f:∀p,F.testBit p=FS t p
 z:∀p,Z.testBit p=(IN t p&&gC (cont t p))
 len:bh'.length=bh.length+size t
 old:∀q,q<bh.length->bh'[q]?=bh[q]?
 new:∀q,IN t q=true->∃B:Nat,bh'[q]?=some B/\∀p,B.testBit p=tf (cont t q) p
def gE(D:Tr->U->Prop):Spec:=λus S Q _=>∃L sg bh en t u,us=[.loc L,u]/\D t u/\rh S L sg bh en/\pY sg.length t/\bh.length=sg.length/\sg.length+size t<=100 /\
 ∀S' p F Z bh',Fr L S S'->L+4<=p->S'[p]?=some (Kb (null t) F Z)->rh S' L (sg++oq t) bh' en->tM t bh F Z bh'->Q (.loc p) S'
theorem t8:(1<<<n).testBit p=(p==n):=by
 rw[tB,Nat.testBit_two_pow]
 by_cases z:n=p
 .subst z;simp
 .rw[decide_eq_false z]
  have:¬p=n:=λe=>z e.symm
  simp[this]
theorem UN(Γ:b8)(h1:Γ "Part.__init__"=yI):Keeps Γ fL 1 (gE λt u=>∃n l,t=.one n l/\u=.str l):=by
 rintro us S Q E ⟨L,sg,bh,en,t,u,rfl,⟨n,l,rfl,rfl⟩,h,hp,hb,hl,q⟩;have hp:n=sg.length:=hp;subst hp;have hl:sg.length+1<=100:=hl;unfold fL;room;rw[IW h,lu h.s]
 dsimp[bB,ag,Qt];refine#[∅,∅,?_];room;rw[IW h]
 room;rw[h.s]
 dsimp[aC,true_and];refine#[by simp;omega,?_];have e1:fg U.str sg++[U.str l]=fg U.str (sg++[l]):=by simp
 rw[e1]
 have h2:=h.YM (sg':=sg++[l]);have f2:=(Fr.refl (L:=L) (S:=S)).set (n:=L+1) (o:=.lst (fg U.str (sg++[l]))) ∅ ∅;generalize S.set (L+1) (.lst (fg U.str (sg++[l])))=S2 at h2 f2;room;rw[IX h2]
 room;rw[h2.b]
 dsimp[aC,true_and];refine#[by simp;omega,?_];have e2:fg aQ bh++[U.int 0]=fg aQ (bh++[0]):=by simp
 rw[e2]
 have h3:=h2.setB (bh':=bh++[0]);have f3:=f2.set (n:=L+2) (o:=.lst (fg aQ (bh++[0]))) ∅ ∅;generalize S2.set (L+2) (.lst (fg aQ (bh++[0])))=S3 at h3 f3;room;rwa[pE h1 λS4 x4 g4=>#[rfl,?_]]
 have:=h3.len;rwa[q S4 _ _ _ _ (f3.trans (Ext.fr x4)) ∅ g4 (h3.ext x4) #[λp=>t8,λp=>?_,by simp[size],λq hq=>ai hq,λq hq=>?_]]
 .rw[t8];simp[IN,cont,gC]
 .have:q=sg.length:=by simpa[IN] using hq
  subst this;refine#[0,by rw[ax ∅,hb];simp,λp=>by simp[cont,tf]]
def Tu(d:Nat)(t:Tr)(u:U):Prop:=cz t<d/\u=enc t
noncomputable def UO:dB:=#v[.set 4 (.cF "Layout" "lay" "Layout.lay" @0 #v[@3]),.ex (.cF "Layout" "link" "Layout.link" @0 #v[.fld @2 "lasts",.fld @4 "firsts"]),.set 2 (.call "one_behind_other" #v[@2,@4])]
theorem Az(Γ:b8)(h2:Γ "Layout.lay"=gE (Tu d))(h3:Γ "Layout.link"=IY)(h4:Γ "one_behind_other"=p6 sk)
  (da:cz a<d) (h:rh S L sg bh en) (hp:pY sg.length a) (hb:bh.length=sg.length) (hl:sg.length+size a<=100) (g:S[pw]?=some (Kb e0 F0 Z0)) (pl:L+4<=pw) (hz:∀p,Z0.testBit p=true->p<bh.length)
  (q:∀S' p F Z bh1 bh2 x,Fr L S S'->L+4<=p->S'[p]?=some (Kb (sk e0 F0 Z0 (null a) F Z).1 (sk e0 F0 Z0 (null a) F Z).2.1 (sk e0 F0 Z0 (null a) F Z).2.2)->rh S' L (sg++oq a) bh2 en->tM a bh F Z bh1->UL Z0 F bh1 bh2 ->
   D.nx [some (.loc L),some v1,some (.loc p),some (enc a),x] S'):Rest Γ UO D [some (.loc L),some v1,some (.loc pw),some (enc a),x4] S:=by
 unfold UO;room;rw[h.o,bN]
 refine#[#[rfl,rfl],?_];rwa[ca h2 #[L,sg,bh,en,a,_,rfl,#[da,rfl],h,hp,hb,hl,λS1 p F Z bh1 f1 pl1 g1 la1 r1=>?_]];have g0:=f1.get g pl;room;rw[la1.o,bN]
 refine#[#[rfl,rfl],?_];rw[Ay g0,Ax g1]
 rwa[ca h3 #[L,_,bh1,en,Z0,F,rfl,la1,by rw[r1.len];omega,λp hp=>by rw[r1.len];have:=hz p hp;omega,λS2 bh2 f2 la2 lk=>?_]];room;rwa[ca h4 #[pw,e0,F0,Z0,p,null a,F,Z,rfl,f2.get g0 pl,f2.get g1 pl1,λS3 x3 g3=>?_]];room;have:=la2.len;erw[q _ _ F Z bh1 bh2 _ ((f1.trans f2).trans (Ext.fr x3)) ∅ g3 (la2.ext x3) r1 lk]
theorem UP:sk true 0 0 e F Z=(e,F,Z):=by
 unfold sk;rw[vL,vL]
 cases e<;>rfl
theorem YO:UG false 0 0 e F Z=(e,F,Z):=by
 unfold UG;rw[vL,vL];rfl
theorem MD(hp:pY n a/\pY (n+size a) b)(hb:bh.length=n)(ra:tM a bh Fa Za bh1)(lk2:UL 0 Fa bh1 bh2)(rb:tM b bh2 Fb Zb bh3)(lk4:UL Za Fb bh3 bh4):
  tM (.row a b) bh (sk (null a) Fa Za (null b) Fb Zb).2.1 (sk (null a) Fa Za (null b) Fb Zb).2.2 bh4:=by
 have l1:=ra.len;have l2:=rb.len;have l3:=lk2.1;have l4:=lk4.1;have e12:∀q,q<bh1.length->bh2[q]?=bh1[q]?:=λq hq=>by
  let#[B',e1,e2]:=lk2.2 q _ (ab hq);rw[e1,ab hq]
  congr 1
  erw[kf λr=>by simp[e2]]
 have e14:∀q B,q<bh1.length->bh1[q]?=some B->∃B',bh4[q]?=some B'/\∀r,B'.testBit r=(B.testBit r||(Za.testBit q&&Fb.testBit r)):=λq B hq e=>lk4.2 q B (by rw[rb.old q ∅,e12 q hq];erw[e])
 refine#[λp=>?_,λp=>?_,by dsimp[size];omega,λq hq=>?_,λq hq=>?_]
 .dsimp[sk,FS]
  cases null a<;>simp[du,ra.f,rb.f]
 .dsimp[sk,IN,cont]
  by_cases z:IN a p=true
  .have z2:IN b p=false:=by
    cases e:IN b p with
    |false=>rfl
    |true=>erw[absurd z (Av hp e)]
   have nb:gC [b]=null b:=by simp[gC]
   dsimp[vy,nb,if_pos z];cases null b<;>simp[du,ra.z,rb.z,z,z2]
  .have z:IN a p=false:=by simpa using z
   cases null b<;>simp[du,ra.z,rb.z,z]
 .let#[B',h1,h2]:=e14 q _ ∅ ((ra.old q hq).trans (ab hq))
  rw[h1,ab hq]
  congr 1
  rwa[kf λr=>?_]
  have:IN a q=false:=by
   cases e:IN a q with
   |false=>rfl
   |true=>have:=(fO hp.1).mp e;omega
  rw[h2,ra.z,this];simp
 .by_cases z:IN a q=true
  .let#[B,h1,h2]:=ra.new q z
   have:=(fO hp.1).mp z;let#[B',h3,h4]:=e14 q B ∅ h1;refine#[B',h3,λp=>?_];have ec:cont (.row a b) q=cont a q++[b]:=by dsimp[cont,if_pos z]
   rw[ec,oU,h4,h2,ra.z,rb.f,z]
   simp[tf]
  .have z2:IN b q=true:=by simpa[IN,z] using hq
   let#[B,h1,h2]:=rb.new q z2;let#[B',h3,h4]:=lk4.2 q B h1;refine#[B',h3,λp=>?_];have z:IN a q=false:=by simpa using z
   rw[h4,ra.z,z,h2]
   simp[cont,z]
theorem UQ(Γ:b8)(d:Nat)(h1:Γ "Part.__init__"=yI)(h2:Γ "Layout.lay"=gE (Tu d))(h3:Γ "Layout.link"=IY)(h4:Γ "one_behind_other"=p6 sk):
  Keeps Γ gU 3 (gE λt u=>∃a b,t=.row a b/\cz a<d/\cz b<d/\u=.tup [enc a,enc b]):=by
 rintro us S Q E ⟨L,sg,bh,en,t,u,rfl,⟨a,b,rfl,da,db,rfl⟩,h,hp,hb,hl,q⟩;have hl:sg.length+(size a+size b)<=100:=hl;have hp:pY sg.length a/\pY (sg.length+size a) b:=hp;have ll:=gW a;unfold gU;room;rwa[pE h1 (F:=0) (Z:=0) λS1 x1 g1=>#[rfl,?_]]
 have p1:L+4<=S.length:=h.len;have h':=h.ext x1;generalize S.length=pw at g1 p1;room;refine#[by simp,?_];dsimp[vY];refine#[trivial,Az Γ h2 h3 h4 da h' hp.1 hb ∅ g1 p1 (by simp) λS2 p2 Fa Za bh1 bh2 x f2 pl2 g2 la2 ra lk2=>?_];rw[UP] at g2;refine#[trivial,Az Γ h2 h3 h4 db la2 (by rw[aj,ll];erw[hp.2]) (by rw[lk2.1,ra.len,hb];simp[ll]) (by simp;omega) g2 pl2 (λp hp'=>?_) λS3 p3 Fb Zb bh3 bh4 x' f3 pl3 g3 la3 rb lk4=>#[trivial,?_]]
 .rw[ra.z,ao] at hp'
  have:=(fO hp.1).mp hp'.1;rw[lk2.1,ra.len];omega
 .room
  exact q _ _ _ _ _ ((Ext.fr x1 |>.trans f2).trans f3) pl3 g3 (by rw[bj] at la3;erw[la3]) (MD hp hb ra lk2 rb lk4)
theorem QD(hp:pY n a/\pY (n+size a) b)(hb:bh.length=n)(ra:tM a bh Fa Za bh1)(rb:tM b bh1 Fb Zb bh2):tM (.or a b) bh (Fa|||Fb) (Za|||Zb) bh2:=by
 have l1:=ra.len;have l2:=rb.len;refine#[λp=>by rw[du,ra.f,rb.f];rfl,λp=>?_,by dsimp[size];omega,λq hq=>(rb.old q ∅).trans (ra.old q hq),λq hq=>?_]
 .rw[du,ra.z,rb.z]
  dsimp[IN,cont];by_cases z:IN a p=true
  .have z2:IN b p=false:=by
    cases e:IN b p with
    |false=>rfl
    |true=>erw[absurd z (Av hp e)]
   simp[z,z2]
  .have z:IN a p=false:=by simpa using z
   simp[z]
 .by_cases z:IN a q=true
  .let#[B,h1,h2]:=ra.new q z
   have:=(fO hp.1).mp z;exact#[B,(rb.old q ∅).trans h1,λp=>by rw[h2];simp[cont,z]]
  .have z2:IN b q=true:=by simpa[IN,z] using hq
   let#[B,h1,h2]:=rb.new q z2;exact#[B,h1,λp=>by rw[h2];simp[cont,z]]
theorem UR(Γ:b8)(d:Nat)(h1:Γ "Part.__init__"=yI)(h2:Γ "Layout.lay"=gE (Tu d))(h4:Γ "one_or_other"=p6 UG):
  Keeps Γ fm 2 (gE λt u=>∃a b,t=.or a b/\cz a<d/\cz b<d/\u=.tup [enc a,enc b]):=by
 rintro us S Q E ⟨L,sg,bh,en,t,u,rfl,⟨a,b,rfl,da,db,rfl⟩,h,hp,hb,hl,q⟩;have hl:sg.length+(size a+size b)<=100:=hl;have hp:pY sg.length a/\pY (sg.length+size a) b:=hp;have ll:=gW a;unfold fm;room;rwa[pE h1 (F:=0) (Z:=0) λS1 x1 g1=>#[rfl,?_]]
 have p1:L+4<=S.length:=h.len;have h':=h.ext x1;generalize S.length=pw at g1 p1;room;refine#[by simp,?_];dsimp[vY];refine#[trivial,?_];room;rw[h'.o,bN]
 refine#[#[rfl,rfl],?_];rwa[ca h2 #[L,sg,bh,en,a,_,rfl,#[da,rfl],h',hp.1,hb,∅,λS2 p2 Fa Za bh1 f2 pl2 g2 la2 ra=>?_]];rwa[ca h4 #[pw,_,_,_,p2,_,_,_,rfl,f2.get g1 p1,g2,λS3 x3 g3=>?_]];rw[YO] at g3;have la3:=la2.ext x3;have p3:=la2.len;generalize S2.length=p3' at g3 p3;room;rw[la3.o,bN]
 refine#[#[rfl,rfl],?_];rwa[ca h2 #[L,_,bh1,en,b,_,rfl,#[db,rfl],la3,by rw[aj,ll];erw[hp.2],by rw[ra.len,hb];simp[ll],by simp;omega,λS4 p4 Fb Zb bh2 f4 pl4 g4 la4 rb=>?_]];rwa[ca h4 #[p3',_,_,_,p4,_,_,_,rfl,f4.get g3 p3,g4,λS5 x5 g5=>?_]];have p5:=la4.len;room;exact q _ _ _ _ _ (((((Ext.fr x1).trans f2).trans (Ext.fr x3)).trans f4).trans (Ext.fr x5)) p5 g5 (by have:=la4.ext x5;rw[bj] at this;erw[this]) (QD hp hb ra rb)
noncomputable def Fg:Mk->Bool
 |.may=>false
 |_=>true
noncomputable def Fh:Mk->Bool
 |.plus=>false
 |_=>true
structure NF(t:Tr)(ms:List Mk)(a:Tr):Prop where
 fs:∀p,FS t p=FS a p
 nl:null t=(null a||ms.any Fh)
 YQ:∀p,IN t p=IN a p
 ct:∀p,∃R,cont t p=cont a p++R/\gC R=true/\∀r,tf R r=(ms.any Fg&&FS a r)
 sz:size t=size a
 lv:oq t=oq a
 pl:∀n,pY n t->pY n a
theorem NF.zero(t:Tr):NF t [] t:=#[λ_=>rfl,by simp,λ_=>rfl,λp=>#[[],by simp,rfl,λr=>by simp[tf]],rfl,rfl,λ_ h=>h]
theorem NF.next(h:NF t ms (.rep m a)):NF t (ms++[m]) a:=by
 refine#[h.fs,?_,h.YQ,λp=>?_,h.sz,h.lv,h.pl]
 .rw[h.nl]
  cases m<;>simp[null,Fh]
 .let#[R,h1,h2,h3]:=h.ct p
  refine#[more m a++R,by rw[h1];simp[cont],?_,λr=>?_]
  .rw[vy,h2];cases m<;>simp[more,gC,null]
  .rw[oU,h3]
   cases m<;>simp[more,tf,FS,gC,null,Fg]
theorem DH(k:NF t ms a)(hp:pY n a)(hb:bh.length=n)(ra:tM a bh F Z bh1)
  (lk:if ms.any Fg=true then UL Z F bh1 bh2 else bh2=bh1):tM t bh F Z bh2:=by
 have eZ:∀p,gC (cont t p)=gC (cont a p):=λp=>by
  let#[R,h1,h2,_]:=k.ct p;rw[h1,vy,h2,Bool.and_true]
 have l1:=ra.len;have key:∀(q B:Nat),bh1[q]?=some B->∃B',bh2[q]?=some B'/\∀r,B'.testBit r=(B.testBit r||(ms.any Fg&&(Z.testBit q&&F.testBit r))):=λq B e=>by
  split at lk
  .rename_i z
   let#[B',e1,e2]:=lk.2 q B e;exact#[B',e1,λr=>by rw[e2,z,zb]]
  .rename_i z
   subst lk;exact#[B,e,λr=>by simp[fD _ |>.mp z]]
 have l2:bh2.length=bh1.length:=by
  split at lk
  .erw[lk.1]
  .rw[lk]
 refine#[λp=>by rw[ra.f,k.fs],λp=>by rw[ra.z,k.YQ,eZ],by rw[l2,l1,k.sz],λq hq=>?_,λq hq=>?_]
 .let#[B',h1,h2]:=key q _ ((ra.old q hq).trans (ab hq))
  rw[h1,ab hq]
  congr 1
  rwa[kf λr=>?_]
  have:IN a q=false:=by
   cases e:IN a q with
   |false=>rfl
   |true=>have:=(fO hp).mp e;omega
  rw[h2,ra.z,this];simp
 .rw[k.YQ] at hq
  let#[B,h1,h2]:=ra.new q hq;let#[B',h3,h4]:=key q B h1;refine#[B',h3,λp=>?_];let#[R,e1,e2,e3]:=k.ct q;rw[h4,h2,e1,oU,e3,ra.z,ra.f,hq,zb]
  cases tf (cont a q) p<;>cases gC (cont a q)<;>cases FS a p<;>simp
theorem Z5:qI (.str k) [.str kR,.str oo,.str j6] q=q (kR==k||(oo==k||j6==k)):=by
 have:=anyS (a:=k) (l:=[kR,oo,j6]) (q:=q);simpa using this
theorem IZ(ms:List Mk)(a b:List Nat):(ms.any λm=>pe m==a||pe m==b)=(((ms.map pe).any (·==a))||((ms.map pe).any (·==b))):=by
 induction ms with
 |nil=>rfl
 |cons m ms ih=>
  rw[cV,az,cV,cV,ih]
  cases (pe m==a)<;>cases (pe m==b)<;>simp
theorem QE(ms:List Mk):ms.any Fg=(((ms.map pe).any (·==kR))||((ms.map pe).any (·==oo))):=by
 rw[<-IZ]
 congr 1;funext m
 cases m<;>rfl
theorem QF(ms:List Mk):ms.any Fh=(((ms.map pe).any (·==kR))||((ms.map pe).any (·==j6))):=by
 rw[<-IZ]
 congr 1;funext m
 cases m<;>rfl
theorem ME(m:Mk):(kR==pe m||(oo==pe m||j6==pe m))=true:=by cases m<;>rfl
noncomputable def WA:dB:=#v[.set 5 (.or (.fld @4 "empty") (.or (.cmp .isin ↑[115,116,97,114] @2) (.cmp .isin ↑[109,97,121,98,101] @2))),.ret (.mk "Part" "Part.__init__" #v[@5,.fld @4 "firsts",.fld @4 "lasts"])]
noncomputable def YR:dB:=#v[.ex (.cF "Layout" "link" "Layout.link" @0 #v[.fld @4 "lasts",.fld @4 "firsts"])]
noncomputable def YS:dB:=(.cons (.set 4 (.cF "Layout" "lay" "Layout.lay" @0 #v[@3])) (.cons (.ifs (.or (.dw (.cmp .isin ↑[115,116,97,114] @2)) (.dw (.cmp .isin ↑[112,108,117,115] @2))) YR .nil) WA))
theorem US(Γ:b8)(d:Nat)(hd:d<=100)(h1:Γ "Part.__init__"=yI)(h2:Γ "Layout.lay"=gE (Tu d))(h3:Γ "Layout.link"=IY):
  Keeps Γ fq 4 (gE λt u=>∃m a,t=.rep m a/\cz a<d/\u=enc t):=by
 rintro us S Q E ⟨L,sg,bh,en,t,u,rfl,⟨m0,a0,et,da,rfl⟩,h,hp,hb,hl,q⟩;have sl:=h.len;have fin:∀(ms:List Mk)(a:Tr)(S2:bD),NF t ms a->cz a<d->(∀n,n<S.length->S2[n]?=S[n]?)->S2[S.length]?=some (.lst (ms.map λm=>U.str (pe m)))->Rest Γ YS #[λ_ S1=>Q .bQ S1,Q,λ_=>E] [some (.loc L),some (enc t),some (.loc S.length),some (enc a),none,none] S2:=by
  intro ms a S2 mk da e2 g2;have x2:Ext S S2:=#[df (aX g2),e2]
  have la:=h.ext x2;have sz:=mk.sz;have hpa:=mk.pl _ hp;unfold YS;room;rw[la.o,bN]
  refine#[#[rfl,rfl],?_];rwa[ca h2 #[L,sg,bh,en,a,_,rfl,#[da,rfl],la,hpa,hb,∅,λS3 p F Z bh1 f3 pl3 g3 la3 ra=>?_]];have gm:∀S4,Fr L S3 S4->S4[S.length]?=some (.lst ((ms.map pe).map .str)):=λS4 f4=>by rw[bx];erw[f4.get (f3.get g2 sl) sl]
  have fin2:∀S4 bh2,Fr L S3 S4->rh S4 L (sg++oq a) bh2 en->tM t bh F Z bh2->Rest Γ WA #[λ_ S1=>Q .bQ S1,Q,λ_=>E] [some (.loc L),some (enc t),some (.loc S.length),some (enc a),some (.loc p),none] S4:=by
   intro S4 bh2 f4 la4 r4;have g4:=f4.get g3 pl3;have en4:∀e,e=null t->Rest Γ (.cons (.ret (.mk "Part" "Part.__init__" (.cons @5 (.cons (.fld @4 "firsts") (.cons (.fld @4 "lasts") .nil))))) .nil) #[λ_ S1=>Q .bQ S1,Q,λ_=>E] [some (.loc L),some (enc t),some (.loc S.length),some (enc a),some (.loc p),some (.bl e)] S4:=by
    rintro e rfl;room;rw[Ax g4,Ay g4]
    rwa[pE h1 λS5 x5 g5=>#[rfl,?_]]
    erw[q _ _ _ _ _ (((Ext.fr x2).trans f3).trans (f4.trans (Ext.fr x5))) la4.len g5 (by rw[mk.lv];exact la4.ext x5) r4]
   have nl:=mk.nl;rw[QF] at nl;unfold WA;room;rw[Ff g4]
   room;rw[gm S4 f4]
   dsimp[aC,anyS,Hh];cases e1:null a<;>cases e2:(ms.map pe).any (·==kR)<;>dsimp[e1,e2,av,if_false,if_true,aC,anyS]<;>refine en4 _ ?_<;>rw[nl,e1,e2]<;>simp
  have hs:=QE ms;have lnk:ms.any Fg=true->Rest Γ YR #[λen S4=>Rest Γ WA #[λ_ S1=>Q .bQ S1,Q,λ_=>E] en S4,Q,λ_=>E] [some (.loc L),some (enc t),some (.loc S.length),some (enc a),some (.loc p),none] S3:=by
   intro z;unfold YR;room;rw[la3.o,bN]
   refine#[#[rfl,rfl],?_];rw[Ay g3,Ax g3]
   rwa[ca h3 #[L,_,bh1,en,Z,F,rfl,la3,by rw[ra.len];omega,λp hp'=>?_,λS4 bh2 f4 la4 lk=>?_]]
   .rw[ra.z,ao] at hp'
    have:=(fO hpa).mp hp'.1;rw[ra.len];omega
   .erw[Rest.go (fin2 S4 bh2 f4 la4 (DH mk hpa hb ra (by rw[if_pos z];exact lk)))]
  room;rw[gm S3 .refl]
  dsimp[aC,anyS];cases e1:(ms.map pe).any (·==kR)<;>cases e2:(ms.map pe).any (·==oo)<;>rw[e1,e2] at hs<;>dsimp[e1,e2,av,if_false,if_true,aC,anyS]
  .erw[Rest.go (fin2 S3 bh1 .refl la3 (DH mk hpa hb ra (by rw[if_neg (by simp[hs])])))]
  .erw[lnk hs]
  .erw[lnk hs]
  .erw[lnk hs]
 unfold fq;room;refine#[by simp,?_];room;have x0:Ext S (S++[SO.lst []]):=Ext.app _;have g0:(S++[SO.lst []])[S.length]?=some (.lst (([]:List Mk).map λm=>U.str (pe m))):=by simp
 have dt:cz t<=d:=by rw[et];erw[da]
 refine#[cz t+1,mS (λn env S2=>∃ms a,n=cz a/\NF t ms a/\(a=t\/cz a<d)/\ms.length+cz a<=200/\env=[some (.loc L),some (enc t),some (.loc S.length),some (enc a),none,none]/\(∀n,n<S.length->S2[n]?=S[n]?)/\S2[S.length]?=some (.lst (ms.map λm=>U.str (pe m)))) ?_ _ (cz t) _ _ ∅ #[[],t,rfl,.zero t,.inl rfl,by simp;omega,rfl,x0.2,g0]];rintro n env S2 K ⟨ms,a,rfl,mk,hda,hms,rfl,e2,g2⟩ hK;have out:(∀m a',a≠.rep m a')->cz a<d:=λz=>by
  rcases hda with rfl|z2
  .erw[absurd et (z m0 a0)]
  .erw[z2]
 have stop:∀k x,enc a=.tup [.str k,x]->(kR==k||(oo==k||j6==k))=false->cz a<d->WT Γ (.dw (.cmp .isin (.ix @3 ↑0) (.tup (.cons ↑[115,116,97,114] (.cons ↑[112,108,117,115] (.cons ↑[109,97,121,98,101] .nil)))))) [some (.loc L),some (enc t),some (.loc S.length),some (enc a),none,none] S2
   (λt1 S1=>if t1=true then Rest Γ (.cons (.ex (.ju .append @2 (.cons (.ix @3 ↑0) .nil))) (.cons (.set 3 (.ix @3 ↑1)) .nil)) #[K,Q,λ_=>E] [some (.loc L),some (enc t),some (.loc S.length),some (enc a),none,none] S1 else Rest Γ YS #[λ_ S1=>Q .bQ S1,Q,λ_=>E] [some (.loc L),some (enc t),some (.loc S.length),some (enc a),none,none] S1) E:=by
  intro k x ek ek2 da;have:=fin ms a S2 mk da e2 g2;rw[ek] at this ⊢;room;rw[tH,bB]
  refine#[by simp,by simp,?_];rw[Z5,ek2]
  erw[this]
 cases a with
 |one k l=>erw[stop _ _ rfl rfl (out λ_ _ z=>nomatch z)]
 |row a b=>erw[stop _ _ rfl rfl (out λ_ _ z=>nomatch z)]
 |or a b=>erw[stop _ _ rfl rfl (out λ_ _ z=>nomatch z)]
 |rep m a=>
  have ek:enc (.rep m a)= .tup [.str (pe m),enc a]:=rfl;have dr:cz (.rep m a)=cz a+1:=rfl;rw[ek]
  room;rw[tH,bB]
  refine#[by simp,by simp,?_];rw[Z5,ME]
  room;rw[g2]
  dsimp[aC,tH,tI,bB];refine#[trivial,by simp,by simp;omega,?_];room;dsimp[tI,bB];refine#[by simp,?_];try room
  refine hK (cz a) _ _ ∅ #[ms++[m],a,rfl,mk.next,.inr (by rcases hda with rfl|z<;>omega),by simp;omega,rfl,λn hn=>?_,by rw[gs g2];simp];rw[ah ∅];exact e2 n hn
section
variable{Γ:b8}{D:Ends}{env:Env}{S:bD}{i:Nat}{k k':List Nat}{x:U}{a b ss:dB}
theorem v8(h:env[i]?=some (some (.tup [.str k,x])))(e:(k==k')=true)(q:Rest Γ a #[λen S1=>Rest Γ ss D en S1,D.rt,D.ex] env S):Rest Γ (.cons (.ifs (.dw (.cmp .eq (.ix (.var i) ↑0) (.lit (.str k')))) a b) ss) D env S:=by
 room;rw[h]
 dsimp[wW,Nt,tH,bB,Hs,Lz,e,if_true];exact#[by simp,q]
theorem lO(h:env[i]?=some (some (.tup [.str k,x])))(e:(k==k')=false)(q:Rest Γ ss D env S):Rest Γ (.cons (.ifs (.dw (.cmp .eq (.ix (.var i) ↑0) (.lit (.str k')))) a .nil) ss) D env S:=by
 room;rw[h]
 dsimp[wW,Nt,tH,bB,Hs,Lz,e,av,if_false];exact#[by simp,q]
end
theorem QG(Γ:b8)(d:Nat)(h1:Γ "Layout.lay_place"=gE λt u=>∃n l,t=.one n l/\u=.str l)(h2:Γ "Layout.lay_row"=gE λt u=>∃a b,t=.row a b/\cz a<d/\cz b<d/\u=.tup [enc a,enc b])
  (h3:Γ "Layout.lay_choice"=gE λt u=>∃a b,t=.or a b/\cz a<d/\cz b<d/\u=.tup [enc a,enc b]) (h4:Γ "Layout.lay_repeat"=gE λt u=>∃m a,t=.rep m a/\cz a<d/\u=enc t):Keeps Γ kj 0 (gE (Tu (d+1))):=by
 rintro us S Q E ⟨L,sg,bh,en,t,u,rfl,⟨dt,rfl⟩,h,hp,hb,hl,q⟩;unfold kj;cases t with
 |one n l=>
  rwa[v8 rfl rfl ?_];dsimp[enc];room;rw[h.o,bN,tI]
  exact#[#[rfl,rfl],by simp,ca h1 #[L,sg,bh,en,_,_,rfl,#[n,l,rfl,rfl],h,hp,hb,hl,q]]
 |row a b=>
  have dt:max (cz a) (cz b)+1<d+1:=dt;rwa[lO rfl rfl (v8 rfl rfl ?_)];dsimp[enc];room;rw[h.o,bN,tI]
  exact#[#[rfl,rfl],by simp,ca h2 #[L,sg,bh,en,_,_,rfl,#[a,b,rfl,∅,∅,rfl],h,hp,hb,hl,q]]
 |or a b=>
  have dt:max (cz a) (cz b)+1<d+1:=dt;rwa[lO rfl rfl (lO rfl rfl (v8 rfl rfl ?_))];dsimp[enc];room;rw[h.o,bN,tI]
  exact#[#[rfl,rfl],by simp,ca h3 #[L,sg,bh,en,_,_,rfl,#[a,b,rfl,∅,∅,rfl],h,hp,hb,hl,q]]
 |rep m a=>
  have dt:cz a+1<d+1:=dt;have k1:(pe m==Mw)=false/\(pe m==Cn)=false/\(pe m==RV)=false:=by cases m<;>exact#[rfl,rfl,rfl]
  rwa[lO rfl k1.1 (lO rfl k1.2.1 (lO rfl k1.2.2 ?_))];room;rw[h.o,bN]
  exact#[#[rfl,rfl],ca h4 #[L,sg,bh,en,_,_,rfl,#[m,a,rfl,∅,rfl],h,hp,hb,hl,q]]
noncomputable def ph(f:List Nat->Bool)(sg:List (List Nat))(p:Nat):Bool:=((sg[p]?).map f).getD false
theorem xD(f:List Nat->Bool)(sg:List (List Nat))(hg:g S)(hl:sg.length<=100)
  (hc:∀(i:Nat)l k,k (f l) S->c (.tup [aQ i,.str l]) S k) (he:∀(i:Nat)l k,i<=100->k (aQ (1<<<i)) S->e (.tup [aQ i,.str l]) S k)
  (q:∀(is:List Int)(b:Nat),is.sum=b->(∀p,b.testBit p=ph f sg p)->Q (is.map .int) S):lX g c e Q ((sg.map U.str).mapIdx λi u=>.tup [.int (i:Nat),u]) [] S:=by
 rwa[gD _ (λi acc S'=>S'=S/\∃(is:List Int)(b:Nat),acc=is.map .int/\is.sum=b/\b<2^i/\is.length<=i/\∀p,b.testBit p=(decide (p<i)&&ph f sg p)) (λi acc S' hi h=>?_) (λi u acc S' k hu hi hk=>?_) (λacc S' h=>?_) #[rfl,[],0,rfl,rfl,by simp,by simp,by simp]]
 .let#[rfl,is,b,rfl,_,_,hl',_]:=h
  simp at hi;exact#[hg,by simp;omega]
 .let#[rfl,is,b,rfl,h1,h2,h3,h4]:=hi
  dsimp[eY,aD] at hu;cases es:sg[i]? with
  |none=>rw[es] at hu;simp at hu
  |some l=>
   rw[es] at hu;dsimp[j7,oZ] at hu;subst hu;have il:=(af.mp es).1;have hi:ph f sg i=f l:=by unfold ph;rw[es];rfl
   rwa[hc i l _ ?_];cases z:f l with
   |false=>
    rw[if_neg (by simp)]
    rwa[hk _ _ #[rfl,is,b,rfl,h1,by rw[fU];omega,∅,λp=>?_]];rw[h4]
    by_cases zp:p=i
    .subst zp;simp[hi,z]
    .have:(p<i)↔(p<i+1):=∅
     dsimp[this]
   |true=>
    rw[if_pos rfl]
    rwa[he i l _ ∅ (hk _ _ #[rfl,is++[((1<<<i:Nat):Int)],2^i+b,by simp,?_,by rw[fU];omega,by simp;omega,λp=>?_])]
    .rw[Ko,h1,tB];simp;omega
    .by_cases zp:p=i
     .subst zp
      rw[Nat.testBit_two_pow_add_eq,Bj h2];simp[hi,z]
     .by_cases zl:p<i
      .rw[Nat.testBit_two_pow_add_gt zl,h4]
       simp[zl,bb zl]
      .rw[Bj (aq (show 2^i+b<2^(i+1) by rw[fU];omega) (bp ∅ ∅))]
       have:¬p<i+1:=∅
       simp[this]
 .let#[rfl,is,b,rfl,h1,_,_,h4]:=h
  rwa[q is b h1 λp=>?_]
  rw[h4]
  dsimp[k8,ag];by_cases z:p<sg.length
  .simp[z]
  .unfold ph
   rw[dD ∅];simp
theorem AA(h:ph f sg p=true):∃l,sg[p]?=some l/\f l=true:=by
 unfold ph at h;cases e:sg[p]? with
 |none=>rw[e] at h;simp at h
 |some l=>rw[e] at h;exact#[l,rfl,h]
def NG:Spec:=λus S Q _=>∃L sg bh en c,us=[.loc L,.str [c]]/\rh S L sg bh en/\sg.length<=100/\∀(b:Nat)S',Ext S S'->(∀p,b.testBit p=ph (·.contains c) sg p)->Q (aQ b) S'
theorem QH(Γ:b8):Keeps Γ fM 0 NG:=by
 rintro us S Q E ⟨L,sg,bh,en,c,rfl,h,hl,q⟩;unfold fM;room;rw[IW h]
 room;rw[h.s,aC]
 rwa[xD (·.contains c) sg h.s hl (λi l k z=>?_) (λi l k hi z=>?_) λis b e hb=>?_]
 .room
  erw[z]
 .room
  exact#[∅,z]
 .exact#[is,by simp,by rw[e];erw[q b _ (Ext.app _) hb]]
noncomputable def Fi(l:List Nat):Bool:=!(l==[])
structure Kc(sg:List (List Nat))(bh en:List Nat)(u:Nat):Prop where
 e:∀(Z p:Nat),Z∈en->Z.testBit p=true->ph Fi sg p=true->u.testBit p=true
 b:∀(q B p:Nat),ph Fi sg q=true->bh[q]?=some B->B.testBit p=true->u.testBit p=true->u.testBit q=true
def UT:Spec:=λus S Q _=>∃L sg bh en,us=[.loc L]/\rh S L sg bh en/\sg.length<=100/\bh.length=sg.length/\∀(u:Nat)S',Ext S S'->Kc sg bh en u->Q (aQ u) S'
theorem UU(Γ:b8)(h1:Γ "members"=Aw):Keeps Γ iG 5 UT:=by
 rintro us S Q E ⟨L,sg,bh,en,rfl,h,hl,hb,q⟩;unfold iG;room;rw[IW h]
 room;rw[h.s,aC]
 rwa[xD Fi sg h.s hl (λi l k z=>?_) (λi l k hi z=>?_) λis T e hT=>#[is,by simp,?_]]
 .room
  erw[z]
 .room
  exact#[∅,z]
 rw[e]
 have x0:Ext S (S++[SO.lst (is.map U.int)]):=Ext.app _;have h':=h.ext x0;generalize S++[SO.lst (is.map U.int)]=S0 at x0 h';have Tlt:∀p,T.testBit p=true->p<sg.length:=λp hp=>by
  rw[hT] at hp;let#[l,e,_]:=AA hp;exact(af.mp e).1
 have Tl:T<2^sg.length:=jz Tlt;room;rw[Qx h']
 room;rw[h'.e,aC]
 rwa[dO (λi env S2=>S2=S0/\∃(gr:Nat)(x3:Option U),env=[some (.loc L),some (aQ T),some (aQ gr),x3,none,none]/\gr<2^sg.length/\(∀(Z p:Nat),Z∈en.take i->Z.testBit p=true->T.testBit p=true->gr.testBit p=true)) (λi env S2 z=>z.1▸h'.e) _ ?_ ?_ #[rfl,0,none,rfl,Nat.two_pow_pos _,by simp]]
 .rintro i u env S2 K hu ⟨rfl,gr,x3,rfl,hgr,inv⟩ hK
  let#[Z,hZ,rfl]:=fw hu;room;have et:=IV hZ;rwa[hK _ _ #[rfl,gr|||(Z&&&T),_,rfl,JY hgr (jz λp hp=>?_),λZ' p m h1 h2=>?_]]
  .rw[cG,ao] at hp;erw[Tlt p hp.2]
  .rw[et] at m
   rw[du,cG]
   rcases aR.mp m with m|m
   .rw[inv Z' p m h1 h2];rfl
   .simp at m;subst m;rw[h1,h2];simp
 .rintro env S2 ⟨rfl,gr,x3,rfl,hgr,inv⟩
  room;rw[ag,bE] at inv;have out:∀{S3:bD}{u:Nat},Ext S S3->(∀p,gr.testBit p=true->u.testBit p=true)->(∀(q B p:Nat),T.testBit q=true->bh[q]?=some B->B.testBit p=true->u.testBit p=true->u.testBit q=true)->Q (aQ u) S3:=λx3 a b=>
   q _ _ x3 #[λZ p m z1 z2=>a p (inv Z p m z1 (by rw[hT];erw[z2])),λq B p z1=>b q B p (by rw[hT];erw[z1])]
  refine#[2^sg.length+1,mS (λn env S3=>∃(g2 u:Nat)(x3 x5:Option U),n=2^sg.length-u/\env=[some (.loc L),some (aQ T),some (aQ g2),x3,some (aQ u),x5]/\Ext S S3/\rh S3 L sg bh en/\u<=g2/\g2<2^sg.length/\(∀p,gr.testBit p=true->g2.testBit p=true) /\
   (∀(q B p:Nat),T.testBit q=true->bh[q]?=some B->B.testBit p=true->u.testBit p=true->g2.testBit q=true)) ?_ _ (2^sg.length) _ _ ∅ #[gr,0,x3,none,∅,rfl,x0,h',∅,hgr,λ_ z=>z,λq B p _ _ _ z=>by simp at z]]
  rintro n env S3 K ⟨g2,u,x3,x5,rfl,rfl,x3',h3,hu,hg,ia,ib⟩ hK;room;by_cases z:g2=u
  .subst z
   dsimp[beq_self_eq_true,bJ,av,if_false];room;erw[out x3' ia ib]
  .have:((g2:Int)== (u:Int))=false:=by
    rw[beq_eq_false_iff_ne];omega
   dsimp[this,cj,if_true];room;rwa[ca h1 #[T,rfl,aq Tl (bp ∅ hl),λm S4 x4 hm g4=>?_]];room;rw[g4,aC]
   have h4:=h3.ext x4;refine dO (λi env S5=>S5=S4/\∃(g3:Nat)(x5:Option U),env=[some (.loc L),some (aQ T),some (aQ g3),x3,some (aQ g2),x5]/\g2<=g3/\g3<2^sg.length/\(∀p,g2.testBit p=true->g3.testBit p=true) /\
    (∀(q B p:Nat),q∈(Cs T).take i->bh[q]?=some B->B.testBit p=true->g2.testBit p=true->g3.testBit q=true)) (λi env S5 z=>z.1▸g4) _ ?_ ?_ #[rfl,g2,x5,rfl,au _,hg,λ_ z=>z,by simp]
   .rintro i v env S5 K' hv ⟨rfl,g3,x5,rfl,j1,j2,j3,j4⟩ hK'
    let#[p,hp,rfl]:=fw hv;have pT:=kS.mp (ak hp);have pl:=Tlt p pT;have et:=IV hp;room;rw[IX h4]
    room;rw[h4.b,aC,kg]
    rwa[t6 (ab ∅) ?_];room;by_cases w:(((bh[p]'∅&&&g2:Nat):Int) !=0)=true
    .rw[if_pos w]
     room;refine#[∅,?_];try room
     rwa[hK' _ _ #[rfl,g3|||1<<<p,_,rfl,aI j1 Nat.left_le_or,JY j2 (jz λr hr=>?_),λr hr=>by rw[du,j3 r hr];rfl,λq B r m e1 e2 e3=>?_]]
     .rw[t8] at hr;have:=eq_of_beq hr;omega
     .rw[et] at m
      rw[du,t8]
      rcases aR.mp m with m|m
      .rw[j4 q B r m e1 e2 e3];rfl
      .simp at m;subst m;simp
    .rw[if_neg w]
     room;rwa[hK' _ _ #[rfl,g3,_,rfl,j1,j2,j3,λq B r m e1 e2 e3=>?_]];rw[et] at m;rcases aR.mp m with m|m
     .erw[j4 q B r m e1 e2 e3]
     .simp at m;subst m
      rwa[absurd (Cr.mpr #[r,?_]) w];rw[ab ∅] at e1;injection e1 with e1
      rw[e1,cG,e2,e3];rfl
   .rintro env S5 ⟨rfl,g3,x5,rfl,j1,j2,j3,j4⟩
    rw[ag,bE] at j4;room;erw[hK (2^sg.length-g2) _ _ ∅ #[g3,g2,_,_,rfl,rfl,x3'.trans x4,h4,j1,j2,λp hp=>j3 p (ia p hp),λq B p z1=>j4 q B p (kS.mpr z1)]]
noncomputable def jW(f:List Nat->Bool):List (List Nat)->Nat
 |[]=>0
 |l::r=>(if f l=true then 1 else 0)+2*jW f r
theorem vz:∀{sg:List (List Nat)}{p:Nat},(jW f sg).testBit p=ph f sg p
 |[],p=>by simp[jW,ph]
 |l::r,0=>by
  unfold jW ph;rw[Nat.testBit_zero]
  cases z:f l<;>simp[z]<;>omega
 |l::r,p+1=>by
  unfold jW;have e:((if f l=true then 1 else 0)+2*jW f r)/2=jW f r:=by split<;>omega
  rw[Nat.testBit_succ,e,vz]
  rfl
section
variable{S S1 S2:bD}{r n:Nat}{o:SO}
theorem nv(a:Old r S S1)(h:S[n]?=some o)(ne:n≠r):S1[n]?=some o:=(a.2 n (aX h) ne).trans h
theorem UW(a:Old r S S1)(b:Ext S1 S2):Old r S S2:=a.trans (Ext.old b)
theorem Fj{c f:String}{fs:List (String×U)}{v:U}{K:bD->Prop}(h:S[r]?=some (.ins c fs))(hl:fs.length<100)(q:∀S',Old r S S'->S'.length=S.length->S'[r]?=some (.ins c (gQ f v fs))->K S'):
  oa S[r]? λc fs=>fs.length<100/\K (S.set r (.ins c (gQ f v fs))):=by
 rw[h,bN]
 exact#[hl,q _ (k5.set h).old (by simp) (gs h)]
end
structure I8(S:bD)(P:Nat)(bh en:List Nat)(tk:Nat->Nat):Prop where
 o:∃b e k,S[P]?=some (.ins "Places" [("behind",.loc b),("ends",.loc e),("takers",.loc k)])/\S[b]?=some (.lst (bh.map aQ))/\S[e]?=some (.lst (en.map aQ))/\S[k]?=some (.dU (SG.map λc=>(.str [c],aQ (tk c))))
theorem I8.ext{S S':bD}{P:Nat}{bh en:List Nat}{tk:Nat->Nat}(h:I8 S P bh en tk)(x:Ext S S'):I8 S' P bh en tk:=by
 let#[b,e,k,h1,h2,h3,h4]:=h.o;exact#[b,e,k,x.get h1,x.get h2,x.get h3,x.get h4]
def I9:Spec:=λus S Q _=>∃P L sg bh en,us=[.loc P,.loc L]/\S[P]?=some (.ins "Places" [])/\S.length=P+1/\rh S L sg bh en/\sg.length<=100/\bh.length=sg.length/\en.length<=100 /\
 ∀u S',Kc sg bh en u->(∀n,n<P->S'[n]?=S[n]?)->I8 S' P (bh.map (·&&&u)) en (λc=>jW (·.contains c) sg)->Q .bQ S'
theorem NH:(SG.map λc=>[c]).Nodup:=⋯
theorem UX(Γ:b8)(h1:Γ "useful_places"=UT)(h2:Γ "places_that_take"=NG):Keeps Γ jQ 1 I9:=by
 rintro us S Q E ⟨P,L,sg,bh,en,rfl,hP,hs,h,hl,hb,he,q⟩;unfold jQ;have nd:=NH;generalize hG:SG=G at nd;have gl:G.length=95:=by rw[<-hG];rfl
 room;refine ca h1 #[L,sg,bh,en,rfl,h,hl,hb,λu S1 x1 hu=>?_];have la:=h.ext x1;have hP1:=x1.get hP;have ne:L+4<=P:=by
  have:=h.len;have n0:¬L=P:=λz=>by rw[z] at h;rw[h.o] at hP;simp at hP
  have n1:¬L+1=P:=λz=>by rw[<-z,h.s] at hP;simp at hP
  have n2:¬L+2=P:=λz=>by rw[<-z,h.b] at hP;simp at hP
  have n3:¬L+3=P:=λz=>by rw[<-z,h.e] at hP;simp at hP
  omega
 room;rw[IX la]
 room;rw[la.b,aC]
 refine xC (S:=S1) _ (λ_=>true) (λv=>match v with|.int i=>aQ (i.toNat&&&u)|v=>v) la.b (by simp;omega) (λv k _ z=>z.1 rfl) (λv k hv _ z=>?_) ?_
 .let#[B,_,rfl]:=de.mp hv
  room;erw[z]
 have e1:(List.filter (λ_=>true) (bh.map aQ)).map (λv=>match v with|.int i=>aQ (i.toNat&&&u)|v=>v)=(bh.map (·&&&u)).map aQ:=by
  rw[List.filter_eq_self.mpr (λ_ _=>rfl),bx,bx];rfl
 rw[e1]
 have x2:Ext S1 (S1++[SO.lst ((bh.map (·&&&u)).map aQ)]):=Ext.app _;have g2:(S1++[SO.lst ((bh.map (·&&&u)).map aQ)])[S1.length]?=some (.lst ((bh.map (·&&&u)).map aQ)):=by simp
 have n2:S1.length≠P:=by have:=x1.1;omega
 generalize S1.length=b at g2 n2;generalize S1++[SO.lst ((bh.map (·&&&u)).map aQ)]=S2 at g2 x2;rwa[Fj (x2.get hP1) (by simp) λS3 o3 l3 hP3=>?_]
 have la3:rh S3 L sg bh en:=by
  have:=la.ext x2;exact#[nv o3 this.o ∅,nv o3 this.s ∅,nv o3 this.b ∅,nv o3 this.e ∅]
 have g3:=nv o3 g2 n2;have o13:=(Ext.old (r:=P) (x1.trans x2)).trans o3;room;rw[Qx la3]
 room;rw[la3.e,aC]
 have x4:Ext S3 (S3++[SO.lst (en.map aQ)]):=Ext.app _;have g4:(S3++[SO.lst (en.map aQ)])[S3.length]?=some (.lst (en.map aQ)):=by simp
 have n4:S3.length≠P:=by have:=o13.1;omega
 generalize S3.length=e at g4 n4;generalize S3++[SO.lst (en.map aQ)]=S4 at g4 x4;rwa[Fj (x4.get hP3) (by simp[gQ]) λS5 o5 l5 hP5=>?_]
 have la5:rh S5 L sg bh en:=by
  have:=la3.ext x4;exact#[nv o5 this.o ∅,nv o5 this.s ∅,nv o5 this.b ∅,nv o5 this.e ∅]
 have o15:=(UW o13 x4).trans o5;have g35:=nv o5 (x4.get g3) n2;have g45:=nv o5 g4 n4;room;rwa[gD _ (λi acc S6=>i<=G.length/\Ext S5 S6/\acc=(G.take i).map λc=>.tup [.str [c],aQ (jW (·.contains c) sg)]) (λi acc S6 hi z=>#[trivial,?_]) (λi v acc S6 k hv hi hk=>?_) (λacc S6 z=>?_) #[∅,.refl,rfl]]
 .rw[z.2.2];simp;omega
 .let#[_,x6,rfl]:=hi
  let#[c,hc,rfl]:=fw hv;have et:=IV hc;room;rwa[ca h2 #[L,sg,bh,en,c,rfl,la5.ext x6,hl,λb S7 x7 hb=>#[by simp,?_]]];have eb:b=jW (·.contains c) sg:=kf λp=>by rw[hb,vz]
  subst eb;erw[hk _ _ #[(af.mp hc).1,x6.trans x7,by rw[et,aH];rfl]]
 let#[_,x6,rfl]:=z;rw[ag,bE]
 refine#[G.map λc=>([c],aQ (jW (·.contains c) sg)),by simp[cK],by rw[bx];erw[nd],?_];rw[bx]
 have x7:Ext S6 (S6++[SO.lst (G.map λc=>.tup [.str [c],aQ (jW (·.contains c) sg)])]++[SO.dU (G.map ((λp=>(U.str p.1,p.2))∘λc=>([c],aQ (jW (·.contains c) sg))))]):=(Ext.app _).trans (Ext.app _);have g7:(S6++[SO.lst (G.map λc=>.tup [.str [c],aQ (jW (·.contains c) sg)])]++[SO.dU (G.map ((λp=>(U.str p.1,p.2))∘λc=>([c],aQ (jW (·.contains c) sg))))])[(S6++[SO.lst (G.map λc=>.tup [.str [c],aQ (jW (·.contains c) sg)])]).length]?=some (.dU (G.map λc=>(.str [c],aQ (jW (·.contains c) sg)))):=by
  rw[ax (au _),bO];rfl
 have n7:(S6++[SO.lst (G.map λc=>.tup [.str [c],aQ (jW (·.contains c) sg)])]).length≠P:=by
  have:=o15.1;have:=x6.1;rw[aj];omega
 generalize (S6++[SO.lst (G.map λc=>.tup [.str [c],aQ (jW (·.contains c) sg)])]).length=k at g7 n7;generalize S6++[SO.lst (G.map λc=>.tup [.str [c],aQ (jW (·.contains c) sg)])]++[SO.dU (G.map ((λp=>(U.str p.1,p.2))∘λc=>([c],aQ (jW (·.contains c) sg))))]=S7 at g7 x7;rwa[Fj ((x6.trans x7).get hP5) (by simp[gQ]) λS8 o8 l8 hP8=>?_]
 room;subst hG;erw[q u S8 hu (λn hn=>((UW o15 (x6.trans x7)).trans o8).2 n ∅ ∅) #[b,e,k,hP8,nv o8 ((x6.trans x7).get g35) n2,nv o8 ((x6.trans x7).get g45) n4,nv o8 g7 n7]]
def QJ(bh:List Nat)(h r:Nat):Prop:=∀p,r.testBit p=true↔∃q B,h.testBit q=true/\bh[q]?=some B/\B.testBit p=true
def Ja:Spec:=λus S Q _=>∃P bh en tk h,us=[.loc P,aQ h]/\I8 S P bh en tk/\bh.length<=100/\(∀p,h.testBit p=true->p<bh.length)/\∀r S',QJ bh h r->Ext S S'->Q (aQ r) S'
theorem UY(Γ:b8)(h1:Γ "members"=Aw):Keeps Γ iH 2 Ja:=by
 rintro us S Q E ⟨P,bh,en,tk,h,rfl,pa,hl,hh,q⟩;unfold iH;room;rwa[ca h1 #[h,rfl,aq (jz hh) (bp ∅ hl),λn S1 x1 hn g1=>?_]];let#[b,e,k,o,gb,_,_]:=(pa.ext x1).o;have fb:∀{r},og (.loc P) "behind" S1 r=r (.loc b):=by intro r;rw[iQ,o];rfl
 room;rw[g1,aC]
 rwa[dO (λi env S2=>S2=S1/\∃(r:Nat)(x3:Option U),env=[some (.loc P),some (aQ h),some (aQ r),x3]/\∀p,r.testBit p=true↔∃q B,q∈(Cs h).take i/\bh[q]?=some B/\B.testBit p=true) (λi env S2 z=>z.1▸g1) _ ?_ ?_ #[rfl,0,none,rfl,by simp]]
 .rintro i u env S2 K hu ⟨rfl,r,x3,rfl,inv⟩ hK
  let#[p,hp,rfl]:=fw hu;have pl:=hh p (kS.mp (ak hp));have et:=IV hp;room;rw[fb]
  room;rw[gb,aC,kg]
  rwa[t6 (ab pl) ?_];room;rwa[hK _ _ #[rfl,_,_,rfl,λp'=>?_]];rw[du,bF,inv,et]
  constructor
  .rintro(⟨q,B,m,e1,e2⟩|e2)
   .exact#[q,B,bS _ m,e1,e2]
   .exact#[p,_,bc _ (by simp),ab pl,e2]
  .rintro⟨q,B,m,e1,e2⟩
   rcases aR.mp m with m|m
   .erw[.inl #[q,B,m,e1,e2]]
   .simp at m;subst m
    rw[ab pl] at e1;injection e1 with e1
    erw[.inr (by rw[e1];exact e2)]
 .rintro env S2 ⟨rfl,r,x3,rfl,inv⟩
  room;rwa[q r _ (λp=>?_) x1];rw[inv,ag,bE]
  dsimp[kS]
def Ov(h:Nat)(en:List Nat)(i:Nat):Prop:=∃Z,en[i]?=some Z/\∃p,h.testBit p=true/\Nat.testBit Z p=true
noncomputable def uN:Option Nat->U
 |none=>.bQ
 |some i=>aQ i
def WB(h:Nat)(en:List Nat):Option Nat->Prop
 |none=>∀i,¬Ov h en i
 |some i=>Ov h en i/\∀i',i'<i->¬Ov h en i'
def Jb:Spec:=λus S Q _=>∃P bh en tk h,us=[.loc P,aQ h]/\I8 S P bh en tk/\∀r,WB h en r->Q (uN r) S
theorem UZ(Γ:b8):Keeps Γ fu 2 Jb:=by
 rintro us S Q E ⟨P,bh,en,tk,h,rfl,pa,q⟩;unfold fu;let#[b,e,k,o,_,ge,_]:=pa.o;have fe:∀{r},og (.loc P) "ends" S r=r (.loc e):=by intro r;rw[iQ,o];rfl
 room;rw[fe]
 room;rw[ge,aC]
 rwa[dO (λi env S2=>S2=S/\∃(x2 x3:Option U),env=[some (.loc P),some (aQ h),x2,x3]/\∀i',i'<i->¬Ov h en i') (λi env S2 z=>z.1▸ge) _ ?_ ?_ #[rfl,none,none,rfl,by simp]]
 .rintro i u env S2 K hu ⟨rfl,x2,x3,rfl,inv⟩ hK
  dsimp[eY,aD,oA] at hu;let#[Z,hZ,rfl]:=ar.mp hu;dsimp[cK];room;by_cases w:(((h&&&Z:Nat):Int) !=0)=true
  .rw[if_pos w]
   room;let#[p,hp]:=Cr.mp w;rw[cG,ao] at hp;erw[q (some i) #[#[Z,hZ,p,hp.1,hp.2],inv]]
  .rw[if_neg w]
   room;rwa[hK _ _ #[rfl,_,_,rfl,λi' hi=>?_]];by_cases z:i'=i
   .subst z
    rintro⟨Z',e1,p,e2,e3⟩;rw[hZ] at e1;injection e1 with e1;subst e1
    erw[w (Cr.mpr #[p,by rw[cG,e2,e3];rfl])]
   .erw[inv i' ∅]
 .rintro env S2 ⟨rfl,x2,x3,rfl,inv⟩
  room;rwa[q none λi ov=>?_]
  let#[Z,e1,_]:=ov;exact inv i (by have:=(af.mp e1).1;simpa using this) #[Z,e1,‹_›]
structure Ct(ts:List Tr)(sg:List (List Nat))(bh en:List Nat):Prop where
 len:bh.length=sg.length
 Fl:en.length=ts.length
 Z6:∀(i j:Nat)t t' p,ts[i]?=some t->ts[j]?=some t'->IN t p=true->IN t' p=true->i=j
 pos:∀t∈ts,∃n,0<n/\pY n t
 sgn:∀t∈ts,∀p,IN t p=true->sg[p]?=some (sgn t p)
 b0:∃B,bh[0]?=some B/\∀p,B.testBit p=true↔∃t∈ts,FS t p=true
 b:∀t∈ts,∀q,IN t q=true->∃B,bh[q]?=some B/\∀p,B.testBit p=tf (cont t q) p
 e:∀(i:Nat)t,ts[i]?=some t->∃Z,en[i]?=some Z/\∀p,Z.testBit p=(IN t p&&gC (cont t p))
 nl:∀t∈ts,null t=false
section
variable{ts:List Tr}{sg:List (List Nat)}{bh en:List Nat}{u r r' c:Nat}{w:List Nat}
def NI(ts:List Tr)(u:Nat)(w:List Nat)(r:Nat):Prop:=∀p,r.testBit p=true↔(∃t∈ts,∃q,hs t w q/\tf (ct t q) p=true)/\u.testBit p=true
theorem yJ{q B:Nat}(h:(bh.map (·&&&u))[q]?=some B):∃B',bh[q]?=some B'/\B=B'&&&u:=by
 rw[aD] at h;let#[B',h1,h2]:=ar.mp h;exact#[B',h1,h2.symm]
theorem Z7:ct t 0=[t]:=rfl
theorem RX(h:p≠0):ct t p=cont t p:=by unfold ct;rw[if_neg h]
theorem U0:tf [t] p=FS t p:=by simp[tf]
theorem Fm(A:Ct ts sg bh en)(h:QJ (bh.map (·&&&u)) 1 r):NI ts u [] r:=by
 intro p;let#[B,e0,b0]:=A.b0;rw[h p]
 constructor
 .rintro⟨q,B',h1,h2,h3⟩
  have q0:=gw.mp h1;subst q0;let#[B2,e2,rfl]:=yJ h2;rw[e0] at e2;injection e2 with e2;subst e2
  rw[cG,ao,b0] at h3;let#[#[t,m,f],z]:=h3;exact#[#[t,m,0,rfl,by rw[Z7,U0];erw[f]],z]
 .rintro⟨⟨t,m,q,hq,f⟩,z⟩
  have hq:q=0:=hq;subst hq;rw[Z7,U0] at f;exact#[0,B&&&u,rfl,by rw[aD,e0];rfl,by rw[cG,(b0 p).mpr #[t,m,f],z];rfl]
theorem rj(A:Ct ts sg bh en)(h:NI ts u w r)(p:Nat):(r&&&jW (·.contains c) sg).testBit p=true↔(∃t∈ts,hs t (w++[c]) p)/\u.testBit p=true:=by
 rw[cG,ao,h p,vz]
 constructor
 .rintro⟨⟨⟨t,m,q,hq,f⟩,z⟩,k⟩
  let#[l,e1,e2]:=AA k;rw[A.sgn t m p (IU f)] at e1;injection e1 with e1;subst e1
  exact#[#[t,m,by rw[yH];exact#[q,hq,f,gf.mp e2]],z]
 .rintro⟨⟨t,m,hq⟩,z⟩
  rw[yH] at hq;let#[q,hq,f,k]:=hq;refine#[#[#[t,m,q,hq,f],z],?_];unfold ph;rw[A.sgn t m p (IU f)]
  erw[gf.mpr k]
theorem oV(A:Ct ts sg bh en)(m:t∈ts)(h:hs t (w++[c]) p):IN t p=true/\p≠0/\ph Fi sg p=true:=by
 rw[yH] at h;let#[q,_,f,k]:=h;have i:=IU f;let#[n,n0,pl]:=A.pos t m;refine#[i,Cq pl n0 i,?_];unfold ph;rw[A.sgn t m p i]
 show Fi (sgn t p)=true
 unfold Fi;cases e:nk.sgn t p with
 |nil=>rw[e] at k;simp at k
 |cons a l=>rfl
theorem Jc(A:Ct ts sg bh en)(U:Kc sg bh en u)(m:t∈ts)(h:hs t (w++[c]) q)(f:tf (ct t q) p=true)(z:u.testBit p=true):u.testBit q=true:=by
 let#[i,q0,k]:=oV A m h;let#[B,e1,e2]:=A.b t m q i;rw[RX q0] at f;erw[U.b q B p k e1 (by rw[e2];exact f) z]
theorem vA(A:Ct ts sg bh en)(U:Kc sg bh en u)(h:NI ts u w r)(hr:QJ (bh.map (·&&&u)) (r&&&jW (·.contains c) sg) r'):NI ts u (w++[c]) r':=by
 intro p;rw[hr p]
 constructor
 .rintro⟨q,B',h1,h2,h3⟩
  let#[#[t,m,hq],_]:=(rj A h q).mp h1;let#[i,q0,_]:=oV A m hq;let#[B2,e2,rfl]:=yJ h2;let#[B,e1,b1]:=A.b t m q i;rw[e1] at e2;injection e2 with e2;subst e2
  rw[cG,ao,b1] at h3;exact#[#[t,m,q,hq,by rw[RX q0];erw[h3.1]],h3.2]
 .rintro⟨⟨t,m,q,hq,f⟩,z⟩
  have uq:=Jc A U m hq f z;let#[i,q0,_]:=oV A m hq;let#[B,e1,b1]:=A.b t m q i;rw[RX q0] at f;exact#[q,B&&&u,(rj A h q).mpr #[#[t,m,hq],uq],by rw[aD,e1];rfl,by rw[cG,b1,f,z];rfl]
theorem MF(A:Ct ts sg bh en)(U:Kc sg bh en u)(m:t∈ts)(h:hs t (w++[c]) p)(n:gC (ct t p)=true):u.testBit p=true:=by
 let#[i,p0,k]:=oV A m h;rw[RX p0] at n;let#[j,ej]:=bL m;let#[Z,e1,e2]:=A.e j t ej;erw[U.e Z p (ak e1) (by rw[e2,i,n];rfl) k]
theorem Jd(A:Ct ts sg bh en)(U:Kc sg bh en u)(h:NI ts u w r)(i:Nat):Ov (r&&&jW (·.contains c) sg) en i↔∃t,ts[i]?=some t/\En t (hs t (w++[c])):=by
 constructor
 .rintro⟨Z,e1,p,h1,h2⟩
  have hi:i<ts.length:=by rw[<-A.Fl];exact(af.mp e1).1
  let#[Z',e2,b2]:=A.e i _ (ab hi);rw[e1] at e2;injection e2 with e2;subst e2
  rw[b2,ao] at h2;let#[#[t,m,hq],_]:=(rj A h p).mp h1;let#[ip,p0,_]:=oV A m hq;let#[j,ej]:=bL m;have:=A.Z6 i j _ t p (ab hi) ej h2.1 ip;subst this;rw[ab hi] at ej;injection ej with ej;subst ej
  exact#[_,ab hi,p,hq,by rw[RX p0];erw[h2.2]]
 .rintro⟨t,ei,p,hq,n⟩
  have m:=ak ei;let#[Z,e1,e2]:=A.e i t ei;let#[ip,p0,_]:=oV A m hq;have up:=MF A U m hq n;rw[RX p0] at n;exact#[Z,e1,p,(rj A h p).mpr #[#[t,m,hq],up],by rw[e2,ip,n];rfl]
end
noncomputable def fA(ts:List Tr):Nat:=(ts.map size).sum
def MG:Nat->List Tr->Prop
 |_,[]=>True
 |n,t::ts=>pY n t/\MG (n+size t) ts
theorem DI:∀{ts:List Tr}{n i:Nat}{t:Tr},MG n ts->ts[i]?=some t->pY (n+fA (ts.take i)) t
 |[],n,i,t,h,e=>by simp at e
 |a::ts,n,0,t,h,e=>by
  have:a=t:=by simpa using e
  subst this;erw[h.1]
 |a::ts,n,i+1,t,h,e=>by
  have:=DI (i:=i) h.2 (by simpa using e);simpa[fA,Nat.add_assoc] using this
theorem MH:Ct [] [[]] [0] []:=
 #[rfl,rfl,λi j t t' p h=>by simp at h,λt h=>by simp at h,λt h=>by simp at h,#[0,rfl,λp=>by simp],λt h=>by simp at h,λi t h=>by simp at h,λt h=>by simp at h]
theorem Je(A:Ct ts sg bh en)(s0:0<sg.length)(hp:pY sg.length t)(nt:null t=false)(l:tM t bh F Z (B::bt)):Ct (ts++[t]) (sg++oq t) ((B|||F)::bt) (en++[Z]):=by
 have lt:∀t'∈ts,∀p,IN t' p=true->p<sg.length:=λt' m p i=>(af.mp (A.sgn t' m p i)).1
 have ge:∀p,IN t p=true->sg.length<=p/\p<sg.length+size t:=λp i=>(fO hp).mp i
 have ll:=gW t;have l1:=l.len;have l2:=A.len;have bs:∀(q C:Nat),0<q->(B::bt)[q]?=some C->((B|||F)::bt)[q]?=some C:=λq C h e=>by
  cases q with
  |zero=>omega
  |succ q=>erw[e]
 have mem:∀{t'},t'∈ts++[t]->t'∈ts\/t'=t:=λh=>by simpa using h
 have at_:∀{i:Nat}{t'},(ts++[t])[i]?=some t'->ts[i]?=some t'\/(i=ts.length/\t'=t):=λ{i t'}h=>by
  rw[hJ] at h;split at h
  .erw[.inl h]
  .rename_i z
   have il:i=ts.length:=by
    have:=(af.mp h).1;simp at this;omega
   subst il;simp at h;erw[.inr #[rfl,h.symm]]
 refine#[?_,?_,?_,?_,?_,?_,?_,?_,?_]
 .rw[aj,ll]
  dsimp[aT] at l1 ⊢;omega
 .simp[A.Fl]
 .intro i j t1 t2 p e1 e2 i1 i2
  rcases at_ e1 with f1|⟨f1,g1⟩<;>rcases at_ e2 with f2|⟨f2,g2⟩
  .erw[A.Z6 i j _ _ p f1 f2 i1 i2]
  .have:=lt _ (ak f1) p i1;rw[g2] at i2;have:=ge p i2;omega
  .have:=lt _ (ak f2) p i2;rw[g1] at i1;have:=ge p i1;omega
  .omega
 .intro t' m
  rcases mem m with m|rfl
  .erw[A.pos t' m]
  .exact#[_,s0,hp]
 .intro t' m p i
  rcases mem m with m|rfl
  .rw[ai (lt t' m p i)];erw[A.sgn t' m p i]
  .rw[ax (ge p i).1];erw[sj hp i]
 .let#[B',e,b]:=A.b0
  have:=l.old 0 ∅;rw[e] at this;have eB:B=B':=by simpa using this
  subst eB;refine#[B|||F,rfl,λp=>?_];rw[du,bF,b,l.f]
  constructor
  .rintro(⟨t',m,f⟩|f)
   .exact#[t',by simp[m],f]
   .exact#[t,by simp,f]
  .rintro⟨t',m,f⟩
   rcases mem m with m|rfl
   .erw[.inl #[t',m,f]]
   .erw[.inr f]
 .intro t' m q i
  rcases mem m with m|rfl
  .let#[C,e,b]:=A.b t' m q i
   have ql:=lt t' m q i;let#[n,n0,pl]:=A.pos t' m;have q0:=Cq pl n0 i;exact#[C,bs q C ∅ ((l.old q ∅).trans e),b]
  .let#[C,e,b]:=l.new q i
   have:=ge q i;exact#[C,bs q C ∅ e,b]
 .intro i t' e
  rcases at_ e with e|⟨rfl,rfl⟩
  .let#[Z',e1,b]:=A.e i t' e
   exact#[Z',by rw[ai (af.mp e1).1];erw[e1],b]
  .exact#[Z,by rw[<-A.Fl];simp,l.z]
 .intro t' m
  rcases mem m with m|rfl
  .erw[A.nl t' m]
  .erw[nt]
def U1:Spec:=λus S Q _=>∃x v t r,us=[.str x,v]/\x.length<=1000/\sY x=.ok (t,r)/\∀S',Ext S S'->Q t S'
theorem U2(Γ:b8)(h1:Γ "read"=Co):Keeps Γ oO 1 U1:=by
 rintro us S Q E ⟨x,v,t,r,rfl,hl,hr,q⟩;unfold oO;room;rwa[ca h1 #[x,rfl,hl,?_]];rw[hr]
 erw[q]
def QK(ts:List Tr)(xs:List (List Nat)):Prop:=xs.length=ts.length/\∀(i:Nat)t x,ts[i]?=some t->xs[i]?=some x->x.length<=1000/\∃r,sY x=.ok (enc t,r)
structure v9(ts:List Tr):Prop where
 len:ts.length<=4
 pl:MG 1 ts
 nl:∀t∈ts,null t=false
 dp:∀t∈ts,cz t<4
 sz:fA ts<=24
theorem size_take(e:ts[i]?=some t):fA (ts.take (i+1))=fA (ts.take i)+size t/\fA (ts.take (i+1))<=fA ts:=by
 have h1:=IV e;refine#[by rw[h1];simp[fA],?_];have:fA ts=fA (ts.take (i+1))+fA (ts.drop (i+1)):=by
  unfold fA;rw[<-Ko,<-aH,Bk]
 omega
def U3:Spec:=λus S Q _=>∃n xs ts M,us=[.loc n,aQ M]/\S[n]?=some (.lst (xs.map .str))/\QK ts xs/\v9 ts/\fA ts<=M/\∀P u sg bh en S',I8 S' P (bh.map (·&&&u)) en (λc=>jW (·.contains c) sg)->Ct ts sg bh en->Kc sg bh en u->sg.length=1+fA ts->Ext S S'->Q (.loc P) S'
theorem U4(Γ:b8)(h1:Γ "Layout.__init__"=Qy)(h2:Γ "Layout.lay"=gE (Tu 4))(h3:Γ "tree_of"=U1)(h4:Γ "Layout.how_many"=Qz)(h5:Γ "Layout.close_rule"=QC)(h6:Γ "Places.__init__"=I9):Keeps Γ lB 4 U3:=by
 rintro us S Q E ⟨n,xs,ts,M,rfl,gn,hR,hT,hM,q⟩;unfold lB;have gL:(S++[SO.ins "Layout" []])[S.length]?=some (.ins "Layout" []):=by simp
 have nS:=aX gn;room;rwa[ca h1 #[S.length,rfl,gL,by simp,λS1 e1 la1=>#[rfl,?_]]];have x1:∀n,n<S.length->S1[n]?=S[n]?:=λn hn=>by rw[e1 n hn,ai hn]
 have gn1:S1[n]?=some (.lst (xs.map .str)):=by rw[x1 n nS];erw[gn]
 have xl:xs.length<=4:=by rw[hR.1];erw[hT.len]
 room;dsimp[RM];rw[gn1,aC]
 have ec:pS (xs.map U.str) none (some 6)=xs.map U.str:=by
  unfold pS;dsimp[jF,dZ,Int.toNat_zero,Nat.zero_min,jj,Bl,ag];rw[uo (by show xs.length<=6;omega)]
  erw[jk (by simp)]
 rw[ec]
 refine#[#[λi e=>(by cases e),λi e=>(by injection e with e;omega)],?_];have x2:Ext S1 (S1++[SO.lst (xs.map U.str)]):=Ext.app _;have g2:(S1++[SO.lst (xs.map U.str)])[S1.length]?=some (.lst (xs.map .str)):=by simp
 have l1:=la1.len;generalize S1.length=m at g2 l1;generalize S1++[SO.lst (xs.map U.str)]=S2 at g2 x2;room;rw[g2,aC]
 refine dO (λi env S3=>∃(sg:List (List Nat))(bh en:List Nat)(x3 x4 x5:Option U),env=[some (.loc n),some (aQ M),some (.loc S.length),x3,x4,x5]/\Fr S.length S2 S3/\rh S3 S.length sg bh en/\Ct (ts.take i) sg bh en/\sg.length=1+fA (ts.take i)/\i<=ts.length) (λi env S3 h9=>by let#[_,_,_,_,_,_,_,f,_]:=h9;exact f.get g2 l1) _ ?_ ?_
  #[[[]],[0],[],none,none,none,rfl,.refl,la1.ext x2,MH,rfl,∅]
 .rintro i u env S3 K hu ⟨sg,bh,en,x3,x4,x5,rfl,f3,la3,A,hsg,hi⟩ hK
  dsimp[eY,aD,oA] at hu;let#[x,hx,rfl]:=ar.mp hu;have il:i<ts.length:=by rw[<-hR.1];exact(af.mp hx).1
  have ht:ts[i]?=some ts[i]:=ab il;have hm:ts[i]∈ts:=dE il;generalize ts[i]=t at ht hm;let#[xle,r,hr]:=hR.2 i t x ht hx;have pt:=DI hT.pl ht;rw[<-hsg] at pt;let#[s1,s2]:=size_take ht;have sz:=hT.sz;have nt:=hT.nl t hm;dsimp[cK];room;rw[la3.o,bN]
  refine#[#[rfl,rfl],ca h3 #[x,_,enc t,r,rfl,xle,hr,λS4 x4=>?_]];have la4:=la3.ext x4;rwa[ca h2 #[S.length,sg,bh,en,t,_,rfl,#[hT.dp t hm,rfl],la4,pt,A.len,∅,λS5 p F Z bh' f5 pl5 g5 la5 lr=>?_]];rw[nt] at g5;room;rw[Ff g5]
  room;rw[la5.o,bN]
  refine#[#[rfl,rfl],ca h4 #[S.length,_,bh',en,rfl,la5,by rw[aj,gW];omega,?_]];have:¬((M:Int)<(((sg++oq t).length:Nat):Int)-1):=by rw[aj,gW];omega
  room;dsimp[this,decide_false,av,if_false];room;rw[la5.o,bN]
  have bl:=lr.len;cases bh' with
  |nil=>have:=A.len;simp at bl;omega
  |cons B bt=>
   refine#[#[rfl,rfl],ca h5 #[S.length,_,_,en,p,false,F,Z,B,bt,rfl,la5,rfl,g5,pl5,by rw[A.Fl];simp;have:=hT.len;omega,λS6 f6 la6=>?_]];room;have et:=IV ht;rwa[hK _ _ #[_,_,_,_,_,_,rfl,((f3.trans (Ext.fr x4)).trans f5).trans f6,la6,by rw[et];erw[Je A ∅ pt nt lr],by rw[aj,gW,s1];omega,il]]
 .rintro env S3 ⟨sg,bh,en,x3,x4,x5,rfl,f3,la3,A,hsg,hi⟩
  rw[k8,ag,hR.1,bE] at A hsg;have gn3:S3[n]?=some (.lst (xs.map .str)):=by
   rw[f3.2 n (by have:=x2.1;have:=aX gn1;omega) (.inl ∅),x2.2 n (aX gn1)];erw[gn1]
  room;rw[lu gn3]
  dsimp[bB,ag];have:¬((6:Int)<(xs.length:Int)):=∅
  refine#[∅,?_];dsimp[this,decide_false,av,if_false];room;have gP:(S3++[SO.ins "Places" []])[S3.length]?=some (.ins "Places" []):=by simp
  have sz:=hT.sz;have sl3:=la3.len;rwa[ca h6 #[S3.length,S.length,sg,bh,en,rfl,gP,by simp,la3.ext (Ext.app _),∅,A.len,by rw[A.Fl];have:=hT.len;omega,λu S4 hu e4 pa=>#[rfl,?_]]];let#[_,_,_,oP,_]:=pa.o;rwa[q _ u sg bh en S4 pa A hu hsg #[?_,λn hn=>?_]]
  .have:=aX oP;omega
  .have:=x2.1
   have:=la1.len;rw[e4 n ∅,ai ∅,f3.2 n ∅ (.inl ∅),x2.2 n ∅];erw[x1 n hn]
noncomputable def er:Tr->Tr
 |.one _ l=>.one 0 l
 |.row a b=>.row (er a) (er b)
 |.or a b=>.or (er a) (er b)
 |.rep m a=>.rep m (er a)
theorem Jf(m:Mk):pe m≠Mw/\pe m≠Cn/\pe m≠RV:=by cases m<;>decide
theorem jT{g:bD->Prop}{c:U->bD->(Bool->bD->Prop)->Prop}{e:U->bD->KU->Prop}{Q:List U->bD->Prop}{S:bD}(l vs:List U)(hv:vs.length=l.length)(hl:l.length<1000000)(hg:∀S',Ext S S'->g S')(hc:∀u S' k,k true S'->c u S' k)
  (he:∀(i:Nat)u v,l[i]?=some u->vs[i]?=some v->∀S' k,Ext S S'->(∀S2,Ext S' S2->k v S2)->e u S' k) (q:∀S',Ext S S'->Q vs S'):lX g c e Q l [] S:=by
 rwa[gD l (λi acc S'=>Ext S S'/\acc=vs.take i) (λi acc S' hi h=>#[hg _ h.1,?_]) (λi u acc S' k hu hi hk=>?_) (λacc S' h=>?_) #[.refl,rfl]]
 .rw[h.2,cu];omega
 .let#[x,rfl]:=hi
  have il:i<vs.length:=by rw[hv];exact(af.mp hu).1
  rwa[hc _ _ _ ?_];rw[if_pos rfl]
  rwa[he i u _ hu (ab il) S' _ x λS2 x2=>hk _ _ #[x.trans x2,?_]]
  rw[fc,ab il];rfl
 .let#[x,rfl]:=h
  rw[<-hv,bE];erw[q S' x]
def YT(f:Tr->Bool)(fR:List Tr->Bool)(d:Nat):Spec:=λus S Q _=>∃u,us=[u]/\((∃t,u=enc t/\cz t<d/\∀S',Ext S S'->Q (.bl (f t)) S')\/∃K,u=YK K/\0<d/\(∀t∈K,cz t+1<d)/\K.length<=1000/\∀S',Ext S S'->Q (.bl (fR K)) S')
def Fn:Nat->Spec:=YT null gC
theorem yK{K:List Tr}{f:Tr->U}{i:Nat}{u v:U}(hu:(K.map enc)[i]?=some u)(hv:(K.map f)[i]?=some v):∃t,t∈K/\u=enc t/\v=f t:=by
 rw[aD] at hu hv;let#[t,e,rfl]:=ar.mp hu;rw[e] at hv;exact#[t,ak e,rfl,(aJ hv).symm]
section
variable{Γ:b8}{N:String}{d:Nat}{f:Tr->Bool}{fR:List Tr->Bool}{S:bD}{Q:KU}{E:KX}{k:U}{K:List Tr}
theorem DJ(h1:Γ N=YT f fR d)(hK:∀t∈K,cz t<d)(hl:K.length<=1000)(q:∀S',Ext S S'->Q (.bl (K.all f)) S'):
  WE Γ (.blt .all (.cons (.comp false (.call N (.cons @0 .nil)) (.val (.ix @0 ↑1)) (.dw (.lit (.bl true))) []) .nil)) [some (.tup [k,.tup (K.map enc)])] S Q E:=by
 room;dsimp[tI,bB];refine#[by simp,by simp;omega,?_];rwa[jT _ (K.map λt=>.bl (f t)) (by simp) (by simp;omega) (λ_ _=>trivial) (λu S' k h=>h) (λi u v hu hv S' k x hk=>?_) λS' x=>?_]
 .let#[t,m,rfl,rfl]:=yK hu hv
  erw[ca h1 #[_,rfl,.inl #[t,rfl,hK t m,hk]]]
 .exact#[K.map f,by simp,by rw[show(K.map f).all id=K.all f by rw[List.all_map];rfl];erw[q _ (x.trans (Ext.app _))]]
theorem MI(h1:Γ N=YT f fR d)(hK:∀t∈K,cz t<d)(hl:K.length<=1000)(q:∀S',Ext S S'->Q (.bl (K.any f)) S'):
  WE Γ (.blt .any (.cons (.comp false (.call N (.cons @0 .nil)) (.val (.ix @0 ↑1)) (.dw (.lit (.bl true))) []) .nil)) [some (.tup [k,.tup (K.map enc)])] S Q E:=by
 room;dsimp[tI,bB];refine#[by simp,by simp;omega,?_];rwa[jT _ (K.map λt=>.bl (f t)) (by simp) (by simp;omega) (λ_ _=>trivial) (λu S' k h=>h) (λi u v hu hv S' k x hk=>?_) λS' x=>?_]
 .let#[t,m,rfl,rfl]:=yK hu hv
  erw[ca h1 #[_,rfl,.inl #[t,rfl,hK t m,hk]]]
 .exact#[K.map f,by simp,by rw[show(K.map f).any id=K.any f by rw[A0];rfl];erw[q _ (x.trans (Ext.app _))]]
end
theorem Z8(h:max (cz a) (cz b)+1<d+1)(m:t∈[a,b]):cz t<d:=by
 rcases aP.mp m with rfl|m
 .omega
 .simp at m;subst m;omega
theorem rr(h:WE Γ e env S (λv S1=>D.rt v S1) (D.ex env)):Rest Γ #v[.ret e] D env S:=h
theorem U5(Γ:b8)(d:Nat)(h1:Γ "_law_nothing"=Fn d):Keeps Γ i5 0 (Fn (d+1)):=by
 rintro us S Q E ⟨u,rfl,h⟩;unfold i5;rcases h with⟨t,rfl,dt,q⟩|⟨K,rfl,-,dK,hl,q⟩
 .cases t with
  |one n l=>erw[v8 rfl rfl (q S .refl)]
  |row a b=>exact lO rfl rfl (v8 rfl rfl (rr (DJ (K:=[a,b]) h1 (λt m=>Z8 dt m) (by simp) λS' x=>by have:=q S' x;simpa[null] using this)))
  |or a b=>exact lO rfl rfl (lO rfl rfl (v8 rfl rfl (rr (MI (K:=[a,b]) h1 (λt m=>Z8 dt m) (by simp) λS' x=>by have:=q S' x;simpa[null] using this))))
  |rep m a=>
   have dt:cz a+1<d+1:=dt;have k1:=Jf m;refine lO rfl (beq_eq_false_iff_ne.mpr k1.1) (lO rfl (beq_eq_false_iff_ne.mpr k1.2.1) (lO rfl (beq_eq_false_iff_ne.mpr k1.2.2) ?_));unfold enc;room;dsimp[tH,tI,bB];refine#[by simp,by simp,?_];have e2:∀q:Bool->Prop,qI (.str (pe m)) [.str kR,.str j6] q=q (Fh m):=λq=>by
    have:=anyS (a:=pe m) (l:=[kR,j6]) (q:=q);cases m<;>simpa[Fh,pe] using this
   rw[e2]
   cases m<;>dsimp[Fh,Hh,av,if_false,if_true]
   .erw[q S .refl]
   .exact#[by simp,ca h1 #[_,rfl,.inl #[a,rfl,∅,q]]]
   .erw[q S .refl]
 .erw[lO rfl rfl (v8 rfl rfl (rr (DJ h1 (λt m=>by have:=dK t m;omega) hl q)))]
theorem Fo{α:Type}{x:List α}{a:Nat}:pS x (some (a:Nat)) none=x.drop a:=by
 unfold pS;dsimp[dZ,jF,jr,Nat.min_self];by_cases h:a<=x.length
 .rw[Nat.min_eq_left h,jk (by simp)]
 .rw[uo ∅,JV,nK ∅];simp
theorem Jg{α:Type}:∀{l l':List α},l.Nodup->(∀x∈l,x∈l')->l.length<=l'.length
 |[],_,_,_=>by simp
 |a::l,l',nd,h=>by
  let#[s,t,rfl]:=List.append_of_mem (h a (aS ..));rw[eR] at nd;have:=Jg (l':=s++t) nd.2 λx m=>by
   have hx:=h x (aB _ m);dsimp[aR,aP] at hx ⊢;rcases hx with z|z|z
   .erw[.inl z]
   .subst z;erw[absurd m nd.1]
   .erw[.inr z]
  dsimp[aj,aT] at this ⊢;omega
noncomputable def zg(m:List Nat)(c:Nat):List Nat:=if m.contains c=true then [92,c] else [c]
theorem Cu(m:List Nat)(c:Nat):(zg m c).length<=2:=by unfold zg;split<;>simp
noncomputable def RY(R:List Nat):List Nat:=zg MW (R.headD 0)++[45]++zg MW (R.getLastD 0)
noncomputable def NJ(R:List Nat):List (List Nat):=if (R.map (zg MW)).flatten.length<=(RY R).length then R.map (zg MW) else [RY R]
noncomputable def YU(st:List (List Nat)×List Nat)(c:Nat):List (List Nat)×List Nat:=if iM (st.2++[c]) SG=true then(st.1,st.2++[c]) else(st.1++[st.2],[c])
noncomputable def RZ(l:List Nat):List (List Nat):=(l.foldl YU ([],[])).1++[(l.foldl YU ([],[])).2]
noncomputable def Fp(l:List Nat):List (List Nat):=(RZ l).flatMap NJ
noncomputable def QL:List (List Nat)->List Nat
 |[]=>[]
 |x::r=>if [94].isPrefixOf x=true then(if r.isEmpty=true then 92::x else r.flatten++x) else(x::r).flatten
noncomputable def R6(l:List Nat):List (List Nat):=(if l==[] then [] else [[91]++QL (Fp l)++[93]])++if l==SG then [] else [[91,94]++(Fp (dW l)).flatten++[93]]
noncomputable def YV:List (List Nat)->List Nat
 |[]=>[]
 |t::ts=>ts.foldl (λb x=>if x.length<b.length then x else b) t
noncomputable def Kd(l:List Nat):List Nat:=if l.length=1 then zg MO (l.headD 0) else YV (R6 l)
noncomputable def Fq(l:List Nat):Bool:=decide (l.length<=95)&&((RZ l).all λR=>!(R==[])&&decide (R.length<=95))&&decide ((RZ l).length<=100)&&decide ((Fp l).length<=200)&&decide ((Fp l).flatten.length<=400) && !(Fp l==[])
def QM:Spec:=λus S Q _=>∃c m,us=[.str [c],.str m]/\Q (.str (zg m c)) S
theorem U6(Γ:b8):Keeps Γ ly 0 QM:=by
 rintro us S Q E ⟨c,m,rfl,q⟩;unfold ly;room;unfold zg at q;by_cases z:m.contains c=true
 .rw[if_pos z] at q ⊢
  exact#[by simp,q]
 .rw[if_neg z] at q ⊢
  erw[q]
theorem vB:∀ts:List (List Nat),lj [] ts=ts.flatten
 |[]=>rfl
 |[x]=>by simp[lj]
 |x::y::r=>by
  rw[lj,vB (y::r)]
  .simp
  .simp
theorem yL(ts:List (List Nat)):(ts.map dh).sum+ts.length*([]:List Nat).length=ts.flatten.length:=by rw[List.length_flatten];simp
def U7:Spec:=λus S Q _=>∃R,us=[.str R]/\R≠[]/\R.length<=95/\∀n S',Ext S S'->S'[n]?=some (.lst ((NJ R).map .str))->Q (.loc n) S'
theorem Jh(m:List Nat):∀R:List Nat,(R.map (zg m)).flatten.length<=2*R.length
 |[]=>by simp
 |c::r=>by
  have:=Jh m r;have:=Cu m c;rw[az,sJ,aj,aT];omega
theorem U8(Γ:b8)(h1:Γ "sign_text"=QM):Keeps Γ lz 2 U7:=by
 rintro us S Q E ⟨R,rfl,ne,hl,q⟩;unfold lz;have f2:=Jh MW R;room;rwa[jT (S:=S) _ ((R.map (zg MW)).map .str) (by simp) (by simp;omega) (λ_ _=>trivial) (λu S' k h=>h) (λi u v hu hv S' k x hk=>?_) λS1 x1=>?_]
 .let#[c,e,rfl]:=fw hu
  rw[aD,aD,e] at hv;cases hv;erw[ca h1 #[c,MW,rfl,hk S' .refl]]
 have g2:(S1++[SO.lst ((R.map (zg MW)).map U.str)])[S1.length]?=some (.lst ((R.map (zg MW)).map U.str)):=by simp
 have x2:Ext S (S1++[SO.lst ((R.map (zg MW)).map U.str)]):=x1.trans (Ext.app _);generalize S1.length=m at g2;generalize S1++[SO.lst ((R.map (zg MW)).map U.str)]=S2 at g2 x2;have t1:=Cu MW (R.headD 0);have t2:=Cu MW (R.getLastD 0);have wl:(RY R).length<=5:=by unfold RY;rw[aj,aj];dsimp[aT,dR];omega
 have e0:sS R 0=some (R.headD 0):=by
  cases R with
  |nil=>erw[absurd rfl ne]
  |cons a r=>erw[tH]
 have el:sS R (-1)=some (R.getLastD 0):=by
  have:0<R.length:=qe.mpr ne;unfold sS Nn;rw[if_neg ∅,if_pos ∅]
  dsimp[FP];rw[List.getLastD_eq_getLast?,List.getLast?_eq_getElem?]
  have e:((-1:Int)+(R.length:Int)).toNat=R.length-1:=∅
  rw[e,ab ∅]
  rfl
 room;rw[e0,el]
 dsimp[bB];refine#[∅,ca h1 #[_,MW,rfl,#[by rw[f9];omega,∅,ca h1 #[_,MW,rfl,#[by rw[aj,f9];omega,?_]]]]];have ew:zg MW (R.headD 0)++[45]++zg MW (R.getLastD 0)=RY R:=rfl;rw[ew]
 room;refine#[_,g2,by rw[yL];omega,?_];rw[vB]
 refine#[∅,∅,?_];unfold NJ at q;by_cases z:(R.map (zg MW)).flatten.length<=(RY R).length
 .rw[if_pos z] at q
  rw[if_pos (by simpa using z)]
  erw[q _ _ x2 g2]
 .rw[if_neg z] at q
  rw[if_neg (by simpa using z)]
  exact#[by simp,q _ _ (x2.trans (Ext.app _)) (by simp)]
def U9:Spec:=λus S Q _=>∃l,us=[.str l]/\l.length<=95/\∀n S',Ext S S'->S.length<=n->S'[n]?=some (.lst ((RZ l).map .str))->Q (.loc n) S'
theorem Va(Γ:b8):Keeps Γ yq 3 U9:=by
 rintro us S Q E ⟨l,rfl,hl,q⟩;unfold RZ YU at q;unfold yq;generalize hG:SG=G at q ⊢;room;refine#[by simp,?_];have x0:Ext S (S++[SO.lst []]):=Ext.app _;have g0:(S++[SO.lst []])[S.length]?=some (.lst []):=by simp
 room;have keep:∀{S1:bD}{o:SO},Ext S S1->Ext S (S1.set S.length o):=λx=>(x.st ∅)
 rwa[dO (λi env S1=>∃(st:List (List Nat)×List Nat)(x3:Option U),env=[some (.str l),some (.loc S.length),some (.str st.2),x3]/\S1[S.length]?=some (.lst (st.1.map .str))/\Ext S S1/\st.1.length<=i/\st.2.length<=i/\i<=l.length/\st=(l.take i).foldl (λst c=>if iM (st.2++[c]) G=true then(st.1,st.2++[c]) else(st.1++[st.2],[c])) ([],[])) (λ_ _ _ _=>trivial) _ ?_ ?_ #[([],[]),none,rfl,g0,x0,by simp,by simp,∅,rfl]]
 .rintro i u env S1 K hu ⟨st,x3,rfl,g1,x1,l1,l2,hi,e⟩ hK
  let#[c,hc,rfl]:=fw hu;have il:=(af.mp hc).1;have et:=IV hc;room;refine#[by simp;omega,?_];show(if (!iM (st.2++[c]) G)=true then _ else _)
  by_cases z:iM (st.2++[c]) G=true
  .rw[z]
   dsimp[bJ,av,if_false];room;refine#[by simp;omega,?_];room;rwa[hK _ _ #[(st.1,st.2++[c]),_,rfl,g1,x1,by simp;omega,by simp;omega,il,?_]];rw[et,dm,<-e]
   dsimp[iU,List.foldl_nil,if_pos z]
  .rw[fD _ |>.mp z]
   dsimp[cj,if_true];room;rw[g1,aC]
   refine#[trivial,by simp;omega,?_];room;refine#[by simp,?_];room;rwa[hK _ _ #[(st.1++[st.2],[c]),_,rfl,by rw[gs g1];simp,keep x1,by simp;omega,by simp,il,?_]];rw[et,dm,<-e]
   dsimp[iU,List.foldl_nil,if_neg z]
 .rintro env S1 ⟨st,x3,rfl,g1,x1,l1,l2,hi,e⟩
  room;rw[g1,aC]
  rw[ag] at l1 e;rw[bE] at e;refine#[trivial,by simp;omega,?_];room;erw[q _ _ (keep x1) (au _) (by rw[gs g1,<-e];simp)]
def Vb:Spec:=λus S Q _=>∃l,us=[.str l]/\Fq l=true/\∀n S',Ext S S'->S'[n]?=some (.lst ((Fp l).map .str))->Q (.loc n) S'
theorem DK{α β:Type}(f:α->List β):∀(l:List α)(i:Nat),((l.take i).flatMap f).length<=(l.flatMap f).length
 |[],i=>by simp
 |a::l,0=>by simp
 |a::l,i+1=>by
  have:=DK f l i;rw[Ea,Gh,Gh,aj,aj];omega
theorem Vc(Γ:b8)(h1:Γ "runs"=U9)(h2:Γ "run_items"=U7):Keeps Γ jN 2 Vb:=by
 rintro us S Q E ⟨l,rfl,ok,q⟩;unfold Fq at ok;dsimp[ao,decide_eq_true_eq] at ok;let#[#[#[#[#[o1,o2],o3],o4],o5],o6]:=ok;rw[cB] at o2;unfold Fp at q o4;unfold jN;room;refine#[by simp,?_];have x0:Ext S (S++[SO.lst []]):=Ext.app _;have g0:(S++[SO.lst []])[S.length]?=some (.lst []):=by simp
 have l0:(S++[SO.lst []]).length=S.length+1:=by simp
 generalize S++[SO.lst []]=S1 at x0 g0 l0;room;rwa[ca h1 #[l,rfl,o1,λn S2 x2 nl g2=>?_]];generalize RZ l=Rs at o2 o3 o4 q g2;room;rw[g2,aC]
 refine dO (λi env S3=>∃x,env=[some (.str l),some (.loc S.length),x]/\S3[S.length]?=some (.lst (((Rs.take i).flatMap NJ).map .str))/\S3[n]?=some (.lst (Rs.map .str))/\Ext S S3) (λi env S3 h9=>by let#[_,_,_,h,_]:=h9;erw[h]) _ ?_ ?_ #[none,rfl,by simpa using x2.get g0,g2,x0.trans x2]
 .rintro i u env S3 K hu ⟨x,rfl,g3,g4,x3⟩ hK
  let#[R,hc,rfl]:=fw hu;have hR:=o2 R (ak hc);dsimp[ao,decide_eq_true_eq,gv,beq_eq_false_iff_ne] at hR;have tk:(Rs.take (i+1)).flatMap NJ=(Rs.take i).flatMap NJ++NJ R:=by rw[fc,hc];simp
  have tl:=DK NJ Rs (i+1);rw[tk,aj] at tl;room;rw[g3,aC]
  refine#[trivial,ca h2 #[R,rfl,hR.1,hR.2,λm S4 x4 g5=>?_]];room;rw[x4.get g3,g5,aC,aC]
  refine#[by rw[ag,ag];omega,?_];room;rwa[hK _ _ #[_,rfl,by rw[gs (x4.get g3),tk];simp,?_,?_]]
  .rw[ah ∅];erw[x4.get g4]
  .have:=x3.trans x4
   exact(this.st ∅)
 .rintro env S3 ⟨x,rfl,g3,g4,x3⟩
  rw[ag,bE] at g3;room;erw[q _ _ x3 g3]
theorem NK(x:List Nat)(r:List (List Nat)):QL (x::r)=if [94].isPrefixOf x=true then(if r.isEmpty=true then 92::x else r.flatten++x) else(x::r).flatten:=rfl
def Vd:Spec:=λus S Q _=>∃n its,us=[.loc n]/\S[n]?=some (.lst (its.map .str))/\its≠[]/\its.length<=200/\its.flatten.length<=400/\∀S',Ext S S'->Q (.str (QL its)) S'
theorem Ve(Γ:b8):Keeps Γ oN 0 Vd:=by
 rintro us S Q E ⟨n,its,rfl,g,ne,hl,hf,q⟩;unfold oN;cases its with
 |nil=>erw[absurd rfl ne]
 |cons x r=>
  rw[sJ,aj] at hf;dsimp[aT] at hl;have a0:∀{R:U->Prop},opt (sS ((x::r).map U.str) 0) R=R (.str x):=by intro R;rw[az,tH];rfl
  room;rw[g,aC]
  rw[a0]
  room;rw[NK] at q;by_cases z:[94].isPrefixOf x=true
  .rw[if_pos z] at q
   rw[z]
   dsimp[bJ,av,if_false];room;rw[lu g]
   dsimp[bB,ag,aT];refine#[∅,?_];cases r with
   |nil=>
    have q:∀S',Ext S S'->Q (.str (92::x)) S':=q;rw[if_pos (by simp)]
    room;rw[g,aC]
    rw[a0]
    room;exact#[by simp at hf ⊢;omega,q S .refl]
   |cons y r=>
    rw[if_neg (by simp)] at q;rw[if_neg (by simp;omega)]
    room;dsimp[RM];rw[g,aC]
    have ec:pS ((x::y::r).map U.str) (some 1) none=(y::r).map U.str:=Fo (a:=1);rw[ec]
    refine#[#[λi e=>(by injection e with e;omega),λi e=>(by cases e)],y::r,by simp,by rw[yL];omega,?_];rw[vB]
    show getL (S++_)[n]? _
    rw[(Ext.app _:Ext S _).get g,aC,a0]
    room;exact#[∅,q _ (Ext.app _)]
  .rw[if_neg z] at q
   rw[fD _ |>.mp z]
   dsimp[cj,if_true];room;refine#[x::r,g,by rw[yL,sJ,aj];omega,?_];rw[vB]
   erw[q S .refl]
theorem QN(its:List (List Nat)):(QL its).length<=its.flatten.length+1:=by
 cases its with
 |nil=>simp[QL]
 |cons x r=>
  rw[NK]
  split
  .split
   .rename_i z;have:r=[]:=by simpa using z
    subst this;simp
   .simp;omega
  .simp
noncomputable def QP(l:List Nat):Bool:=(l==[]||Fq l)&&(l==SG||Fq (dW l))
def Vf:Spec:=λus S Q _=>∃l,us=[.str l]/\QP l=true/\∀n S',Ext S S'->S'[n]?=some (.lst ((R6 l).map .str))->Q (.loc n) S'
theorem AB(h:Fq l=true):(Fp l).length<=200/\(Fp l).flatten.length<=400/\Fp l≠[]:=by
 unfold Fq at h;dsimp[ao,decide_eq_true_eq,gv,beq_eq_false_iff_ne] at h;exact#[h.1.1.2,h.1.2,h.2]
noncomputable def Z9:dB:=#v[.ifs (.dw (.cmp .ne @0 (.lit (.str SG)))) #v[.ex (.ju .append @1 #v[.bin .add (.bin .add ↑[91,94] (.ju .join (.lit (.str [])) #v[.call "class_items" #v[.call "all_but" #v[@0]]])) ↑[93]])] .nil,.ret @1]
theorem Vg(Γ:b8)(h1:Γ "class_items"=Vb)(h2:Γ "guarded"=Vd)(h3:Γ "all_but"=spT dW):Keeps Γ jM 1 Vf:=by
 rintro us S Q E ⟨l,rfl,ok,q⟩;unfold QP at ok;rw[ao,bF,bF] at ok;have keep:∀{S1:bD}{o:SO},Ext S S1->Ext S (S1.set S.length o):=λx=>(x.st ∅)
 have fin:∀S1 acc,Ext S S1->S1[S.length]?=some (.lst (acc.map .str))->acc.length<=10->acc=(if l==[] then [] else [[91]++QL (Fp l)++[93]])->Rest Γ Z9 #[λ_ S1=>Q .bQ S1,Q,λ_=>E] [some (.str l),some (.loc S.length)] S1:=by
  intro S1 acc x1 g1 al ea;unfold R6 at q;rw[<-ea] at q;unfold Z9;have ok2:=ok.2;generalize SG=G at q ok2;room;by_cases z:(l==G)=true
  .rw[z]
   rw[if_pos z,bM] at q;dsimp[bJ,av,if_false];room;erw[q _ _ x1 g1]
  .rw[fD _ |>.mp z]
   rw[if_neg z] at q;dsimp[cj,if_true];have ck:=ok2.resolve_left z;let#[f1,f2,f3]:=AB ck;room;rw[g1,aC]
   refine#[trivial,ca h3 #[l,rfl,λS2 x2=>ca h1 #[_,rfl,ck,λn S3 x3 g3=>#[_,g3,by rw[yL];omega,?_]]]];rw[vB]
   refine#[by dsimp[aT,dR];omega,by rw[aj];dsimp[aT,dR];omega,?_];show getL S3[S.length]? _;rw[(x2.trans x3).get g1,aC]
   refine#[by rw[ag];omega,?_];room;erw[q _ _ (keep (x1.trans (x2.trans x3))) (by rw[gs ((x2.trans x3).get g1)];simp)]
 unfold jM;room;refine#[by simp,?_];have x0:Ext S (S++[SO.lst []]):=Ext.app _;have g0:(S++[SO.lst []])[S.length]?=some (.lst []):=by simp
 generalize S++[SO.lst []]=S0 at x0 g0;room;by_cases z:(l==[])=true
 .rw[z]
  dsimp[bJ,av,if_false];erw[Rest.go (fin S0 [] x0 g0 (by simp) (by rw[if_pos z]))]
 .rw[fD _ |>.mp z]
  dsimp[cj,if_true];have ck:=ok.1.resolve_left z;let#[f1,f2,f3]:=AB ck;have gl:=QN (Fp l);room;rw[g0,aC]
  refine#[trivial,ca h1 #[l,rfl,ck,λn S2 x2 g2=>ca h2 #[n,_,rfl,g2,f3,f1,f2,λS3 x3=>?_]]];room;refine#[by dsimp[aT,dR];omega,by dsimp[aT,dR];omega,?_];rw[(x2.trans x3).get g0,aC]
  refine#[by simp,?_];erw[Rest.go (fin _ [[91]++QL (Fp l)++[93]] (keep (x0.trans (x2.trans x3))) (by rw[gs ((x2.trans x3).get g0)];simp) (by simp) (by rw[if_neg z]))]
noncomputable abbrev CL:List (List Nat):=[[97],[98],[99],[97,98],[98,99],SG,[48],[]]
theorem Ji:∀l∈CL,l.length=1\/(QP l=true/\(l==dW [10])=false/\R6 l≠[]/\(R6 l).all (λx=>decide (x.length<=1000))=true):=by
 decide +kernel
def MJ:Spec:=λus S Q _=>∃l,us=[.str l]/\l∈CL/\∀S',Ext S S'->Q (.str (Kd l)) S'
theorem Vh(Γ:b8)(h1:Γ "sign_text"=QM)(h2:Γ "all_but"=spT dW)(h3:Γ "class_texts"=Vf):Keeps Γ ki 0 MJ:=by
 rintro us S Q E ⟨l,rfl,hl,q⟩;have fa:=Ji l hl;have ll:l.length<=95:=by
  have:∀l∈CL,l.length<=95:=⋯
  erw[this l hl]
 unfold ki;unfold Kd at q;room;refine#[∅,?_];by_cases z:l.length=1
 .rw[if_pos z] at q
  rw[if_pos (by rw[z];rfl)]
  obtain⟨c,rfl⟩:∃c,l=[c]:=ji.mp z;room;erw[ca h1 #[c,MO,rfl,q S .refl]]
 .rw[if_neg z] at q
  rw[if_neg (by simp;omega)]
  let#[f1,f2,f3,f4]:=fa.resolve_left z;room;rwa[ca h2 #[_,rfl,λS1 x1=>?_]];room;rw[f2]
  dsimp[av,if_false];room;rwa[ca h3 #[l,rfl,f1,λn S2 x2 g2=>?_]];cases e:R6 l with
  |nil=>erw[absurd e f3]
  |cons t ts=>
   rw[e] at g2 q f4;refine#[t,ts,g2,λu hu=>?_,q S2 (x1.trans x2)];have:=cB.mp f4 u hu;simp at this;omega
theorem QQ:∀l∈CL,(Kd l).length<=10:=by decide +kernel
theorem t9:Kd [97,98]=[91,97,98,93]/\Kd [98,99]=[91,98,99,93]/\Kd SG=[91,10,45,126,93]/\Kd []=[91,94,10,45,126,93]:=by decide +kernel
set_option maxRecDepth 100000 in
theorem MK(h:l∈CL)(br:Option (List Nat->PR U)):vt br (Kd l) (Mx l):=by
 intro rest;dsimp[aP,cA,or_false] at h;rcases h with rfl|rfl|rfl|rfl|rfl|rfl|rfl|rfl
 .rfl
 .rfl
 .rfl
 .rw[t9.1];rfl
 .rw[t9.2.1];rfl
 .rw[t9.2.2.1];rfl
 .rfl
 .rw[t9.2.2.2];rfl
noncomputable def num:Nat->Tr->Tr
 |n,.one _ l=>.one n l
 |n,.row a b=>.row (num n a) (num (n+size a) b)
 |n,.or a b=>.or (num n a) (num (n+size a) b)
 |n,.rep m a=>.rep m (num n a)
theorem so:∀t n,enc (num n t)=enc t/\size (num n t)=size t/\cz (num n t)=cz t/\null (num n t)=null t/\oq (num n t)=oq t/\pY n (num n t)
 |.one _ l,n=>#[rfl,rfl,rfl,rfl,rfl,rfl]
 |.row a b,n=>by
  let#[a1,a2,a3,a4,a5,a6]:=so a n;let#[b1,b2,b3,b4,b5,b6]:=so b (n+size a);dsimp[num,enc,size,cz,null,oq,pY,a1,a2,a3,a4,a5,b1,b2,b3,b4,b5];exact#[trivial,trivial,trivial,trivial,trivial,a6,b6]
 |.or a b,n=>by
  let#[a1,a2,a3,a4,a5,a6]:=so a n;let#[b1,b2,b3,b4,b5,b6]:=so b (n+size a);dsimp[num,enc,size,cz,null,oq,pY,a1,a2,a3,a4,a5,b1,b2,b3,b4,b5];exact#[trivial,trivial,trivial,trivial,trivial,a6,b6]
 |.rep m a,n=>by
  let#[a1,a2,a3,a4,a5,a6]:=so a n;cases m<;>dsimp[num,enc,size,cz,null,oq,pY,a1,a2,a3,a4,a5]<;>exact#[trivial,trivial,trivial,trivial,trivial,a6]
noncomputable def wa:Nat->List Tr->List Tr
 |_,[]=>[]
 |n,t::ts=>num n t::wa (n+size t) ts
theorem DL:∀ts n,(wa n ts).map enc=ts.map enc/\MG n (wa n ts)/\fA (wa n ts)=fA ts/\∀t∈wa n ts,∃t'∈ts,cz t=cz t'/\null t=null t'/\oq t=oq t'
 |[],n=>#[rfl,trivial,rfl,by simp[wa]]
 |t::ts,n=>by
  let#[a1,a2,a3,a4,a5,a6]:=so t n;let#[b1,b2,b3,b4]:=DL ts (n+size t);refine#[by dsimp[wa,az,a1,b1],#[a6,by rw[a2];erw[b2]],by dsimp[fA] at b3 ⊢;dsimp[wa,az,List.sum_cons,a2,b3],λt' m=>?_];rcases aP.mp m with rfl|m
  .exact#[t,aS ..,a3,a4,a5]
  .let#[t2,m2,h]:=b4 t' m
   exact#[t2,aB _ m2,h]
def ny(t:Tr):Prop:=∀l∈oq t,l∈CL
theorem l6:∀t,size t<=2^cz t
 |.one _ _=>by simp[size,cz]
 |.row a b=>by
  have h1:=l6 a;have h2:=l6 b;have p1:2^cz a<=2^max (cz a) (cz b):=bp ∅ ∅;have p2:2^cz b<=2^max (cz a) (cz b):=bp ∅ ∅;dsimp[size,cz,fU];omega
 |.or a b=>by
  have h1:=l6 a;have h2:=l6 b;have p1:2^cz a<=2^max (cz a) (cz b):=bp ∅ ∅;have p2:2^cz b<=2^max (cz a) (cz b):=bp ∅ ∅;dsimp[size,cz,fU];omega
 |.rep m a=>by
  have h1:=l6 a;dsimp[size,cz,fU];omega
def ML(D:Nat):Spec:=λus S Q _=>∃(ns:List Int)(b:Int)(d:Nat),us=[.rY ns,.int b,aQ d]/\ns.length<=1000/\d<D/\∀t S',cz t<=d->ny t->Ext S S'->Q (enc t) S'
theorem Jj(Γ:b8)(D:Nat)(h1:Γ "_law_mix"=tX.xv)(h2:Γ "_law_all"=tX.IM)(h3:Γ "_law_small"=ML D):Keeps Γ km 3 (ML (D+1)):=by
 rintro us S Q E ⟨ns,b,d,rfl,hl,hd,q⟩;unfold km;room;refine ca h1 #[ns,b,rfl,hl,λm m0 m1=>?_];room;refine#[∅,?_];room;have leaf:Rest Γ (.cons (.ret (.tup (.cons ↑[111,110,101] (.cons (.ix (.lst (.cons ↑[97] (.cons ↑[98] (.cons ↑[99] (.cons ↑[97,98] (.cons ↑[98,99] (.cons (.call "_law_all" .nil) (.cons ↑[97] (.cons ↑[98] (.cons ↑[48] (.cons (.lit (.str [])) .nil))))))))))) (.bin .mod (.bin .fdiv @3 ↑9) ↑10)) .nil)))) .nil) #[λ_ S1=>Q .bQ S1,Q,λ_=>E] [some (.rY ns),some (.int b),some (aQ d),some (.int m),some (.int (m%9)),none] S:=by
  room;rwa[ca h2 #[rfl,λG hG=>?_]];refine#[by simp,∅,∅,?_];have gl:(S++[SO.lst [U.str [97],U.str [98],U.str [99],U.str [97,98],U.str [98,99],U.str G,U.str [97],U.str [98],U.str [48],U.str []]])[S.length]?=some (.lst ([[97],[98],[99],[97,98],[98,99],G,[97],[98],[48],[]].map U.str)):=by simp
  rw[gl,aC]
  rwa[vp (oz _ ∅) (by simp;erw[lJ _ ∅]) λu hu=>?_]
  let#[l,ml,rfl]:=de.mp hu;refine#[by simp,q (.one 0 l) _ (bP _) (λl' m'=>?_) (Ext.app _)];have:l'=l:=by simpa[oq] using m'
  subst this;rw[hG] at ml
  revert ml
  dsimp[aP];rintro(h|h|h|h|h|h|h|h|h|h|h)<;>simp_all
 by_cases z:d=0\/m%9<4
 .have z1:((d:Int)== 0)=true\/(((d:Int)== 0)=false/\decide (m%9<4)=true):=by
   by_cases y:d=0
   .subst y;erw[.inl rfl]
   .rwa[.inr #[by rw[beq_eq_false_iff_ne];omega,decide_eq_true ∅]]
  rcases z1 with z1|⟨z1,z2⟩
  .dsimp[z1,if_true];erw[leaf]
  .dsimp[z1,z2,av,if_false,if_true];erw[leaf]
 .have z1:((d:Int)== 0)=false:=by rw[beq_eq_false_iff_ne];omega
  have z2:decide (m%9<4)=false:=decide_eq_false ∅;obtain⟨d,rfl⟩:∃d',d=d'+1:=#[d-1,∅]
  have ed:(((d+1:Nat):Int)-1)=(d:Int):=∅
  dsimp[z1,z2,av,if_false];room;by_cases y:m%9<7
  .dsimp[y,decide_true,if_true]
   room;refine#[∅,∅,?_];refine gD _ (λi acc S1=>Ext S S1/\∃l:List Tr,acc=l.map enc/\l.length=i/\∀t∈l,cz t<=d/\ny t) (λi acc S1 hi h9=>by let#[x,l,e1,e2,_]:=h9;exact#[trivial,by rw[e1,ag];simp at hi;omega]) (λi u acc S1 k hu hi hk=>?_) (λacc S1 h=>?_) #[.refl,[],rfl,rfl,by simp]
   .let#[x1,l,rfl,e2,inv]:=hi
    let#[rfl,_]:=vq (n:=2) hu;room;rw[ed]
    refine#[.inl ∅,ca h3 #[ns,_,d,rfl,hl,∅,λt S2 dt lt x2=>hk _ _ #[x1.trans x2,l++[t],by simp,by simp[e2],λt' m'=>?_]]];rcases aR.mp m' with m'|m'
    .erw[inv t' m']
    .simp at m';subst m';exact#[dt,lt]
   .let#[x1,l,rfl,e2,inv]:=h
    have e2:l.length=2:=e2;obtain⟨a,b,rfl⟩:∃a b,l=[a,b]:=by
     match l,e2 with
     |[a,b],_=>exact#[a,b,rfl]
    have ia:=inv a (by simp);have ib:=inv b (by simp);have g2:(S1++[SO.lst ([a,b].map enc)])[S1.length]?=some (.lst [enc a,enc b]):=by simp
    have x2:Ext S (S1++[SO.lst ([a,b].map enc)]):=x1.trans (Ext.app _);generalize S1.length=m2 at g2;generalize S1++[SO.lst ([a,b].map enc)]=S2 at g2 x2;room;refine#[by simp,?_];have gl:(S2++[SO.lst [U.str [114,111,119],U.str [111,114],U.str [114,111,119]]])[S2.length]?=some (.lst [U.str [114,111,119],U.str [111,114],U.str [114,111,119]]):=by simp
    rw[gl,aC,(Ext.app _:Ext S2 _).get g2]
    rwa[vp ∅ (by simp;omega) λu hu=>#[by simp,?_]]
    have lv:∀l∈oq a++oq b,l∈CL:=λl hl=>(aR.mp hl).elim (ia.2 l) (ib.2 l)
    dsimp[aP,cA,or_false] at hu;have dd:max (cz a) (cz b)+1<=d+1:=∅
    rcases hu with rfl|rfl|rfl
    .erw[q (.row a b) _ dd lv (x2.trans (Ext.app _))]
    .erw[q (.or a b) _ dd lv (x2.trans (Ext.app _))]
    .erw[q (.row a b) _ dd lv (x2.trans (Ext.app _))]
  .dsimp[y,decide_false,av,if_false]
   room;refine#[by simp,∅,∅,?_];have gl:(S++[SO.lst [U.str [115,116,97,114],U.str [112,108,117,115],U.str [109,97,121,98,101]]])[S.length]?=some (.lst [U.str [115,116,97,114],U.str [112,108,117,115],U.str [109,97,121,98,101]]):=by simp
   rw[gl,aC]
   rwa[vp (oz _ ∅) (by simp;erw[lJ _ ∅]) λu hu=>?_]
   rw[ed]
   refine#[.inl ∅,ca h3 #[ns,_,d,rfl,hl,∅,λt S2 dt lt x2=>#[by simp,?_]]];have xx:Ext S S2:=(Ext.app _).trans x2;have dd:cz t+1<=d+1:=∅
   dsimp[aP,cA,or_false] at hu;rcases hu with rfl|rfl|rfl
   .erw[q (.rep .star t) _ dd lt xx]
   .erw[q (.rep .plus t) _ dd lt xx]
   .erw[q (.rep .may t) _ dd lt xx]
def MM:Spec:=λus S Q _=>∃(ns:List Int)(bs k:Int)(dp:Nat),us=[.rY ns,.int bs,.int k,.int dp]/\dp<=2/\ns.length<=1000/\0<=k/\k<=4/\∀ts n S',v9 ts->(∀t∈ts,ny t)->(fA ts:Int)<=5*k->Ext S S'->S'[n]?=some (.lst (ts.map enc))->Q (.loc n) S'
theorem Vi(Γ:b8)(h1:Γ "_law_small"=ML 3)(h2:Γ "_law_nothing"=Fn 5):Keeps Γ kn 3 MM:=by
 rintro us S Q E ⟨ns,bs,k,dp,rfl,hdp,hl,k0,k4,q⟩;unfold kn;room;refine#[by simp,?_];have x0:Ext S (S++[SO.lst []]):=Ext.app _;have g0:(S++[SO.lst []])[S.length]?=some (.lst []):=by simp
 room;refine#[∅,∅,?_];rwa[dO (λi env S1=>∃(l:List Tr)(x5 x6:Option U),env=[some (.rY ns),some (.int bs),some (.int k),some (.int dp),some (.loc S.length),x5,x6]/\Ext S S1/\S1[S.length]?=some (.lst (l.map enc))/\l.length=i/\fA l<=5*i/\∀t∈l,cz t<4/\null t=false/\ny t) (λ_ _ _ _=>trivial) _ ?_ ?_ #[[],none,none,rfl,x0,g0,rfl,by simp[fA],by simp]]
 .rintro i u env S1 K hu ⟨l,x5,x6,rfl,x1,g1,ll,sl,inv⟩ hK
  let#[rfl,hi]:=vq hu;room;refine#[.inl ∅,ca h1 #[ns,_,dp,rfl,hl,∅,λt S2 dt lt x2=>?_]];have st:size t<=4:=aI (l6 t) (bp (n:=2) (j:=2) ∅ (aI dt hdp));have g2:=x2.get g1;room;refine ca h2 #[_,rfl,.inl #[t,rfl,∅,λS3 x3=>?_]];have g3:=x3.get g2;have fin:∀(t':Tr)(x5 x6:Option U),cz t'<4->null t'=false->ny t'->size t'<=5->x6=some (enc t')->Rest Γ (.cons (.ex (.ju .append @4 (.cons @6 .nil))) .nil) #[K,Q,λ_=>E] [some (.rY ns),some (.int bs),some (.int k),some (.int dp),some (.loc S.length),x5,x6] S3:=by
   rintro t' x5 x6 d1 d2 d3 d4 rfl;room;rw[g3,aC]
   refine#[trivial,by simp;omega,?_];room;have x13:=(x1.trans x2).trans x3;refine hK _ _ #[l++[t'],_,_,rfl,(x13.st ∅),by rw[gs g3];simp,by simp[ll],by simp[fA] at sl ⊢;omega,λt2 m2=>?_];rcases aR.mp m2 with m2|m2
   .erw[inv t2 m2]
   .simp at m2;subst m2;exact#[d1,d2,d3]
  room;cases nt:null t with
  |false=>
   dsimp[av,if_false];erw[fin t _ _ ∅ nt lt ∅ rfl]
  |true=>
   dsimp[if_true];room;refine#[∅,by simp,?_];rwa[vp (oz _ ∅) (by simp;erw[lJ _ ∅]) λc hc=>#[by simp,by simp,by simp,?_]]
   rwa[fin (.row (.one 0 [c]) t) _ _ ?_ (by simp[null]) (λl hl=>?_) (by dsimp[size];omega) rfl]
   .show max 0 (cz t)+1<4;omega
   .rcases aR.mp hl with h|h
    .have:l=[c]:=by simpa[oq] using h
     subst this;dsimp[aP,cA,or_false] at hc;rcases hc with rfl|rfl|rfl<;>simp
    .erw[lt l h]
 .rintro env S1 ⟨l,x5,x6,rfl,x1,g1,ll,sl,inv⟩
  room;have ll:l.length<=4:=by rw[ll];simp;omega
  let#[e1,e2,e3,e4]:=DL l 1;have el:(wa 1 l).length=l.length:=by have:=congrArg dh e1;simpa using this
  refine q (wa 1 l) _ S1 #[∅,e2,λt m=>?_,λt m=>?_,by rw[e3];dsimp[ag,sH] at sl;omega] (λt m=>?_) (by rw[e3];dsimp[ag,sH] at sl;omega) x1 (by rw[e1];erw[g1])
  .let#[t',m',h]:=e4 t m;rw[h.2.1];exact(inv t' m').2.1
  .let#[t',m',h]:=e4 t m;rw[h.1];exact(inv t' m').1
  .let#[t',m',h]:=e4 t m
   intro l hl;rw[h.2.2] at hl;exact(inv t' m').2.2 l hl
noncomputable def QR:Mk->Nat
 |.star=>42
 |.plus=>43
 |.may=>63
noncomputable def tx:Tr->List Nat×List Nat
 |.one _ l=>(Kd l,Kd l)
 |.rep m a=>((tx a).1++[QR m],(tx a).1++[QR m])
 |.row a b=>(40::((tx a).1++(tx b).1++[41]),(tx a).1++(tx b).1)
 |.or a b=>(40::((tx a).2++124::(tx b).2++[41]),40::((tx a).2++124::(tx b).2++[41]))
noncomputable def wr:Tr->List Nat
 |.or a b=>(tx a).2++124::(tx b).2
 |t=>(tx t).2
theorem dv:∀t,ny t->(tx t).1.length+3<=13*2^cz t/\(tx t).2.length<=(tx t).1.length/\(wr t).length<=(tx t).1.length
 |.one _ l,h=>by
  have:=QQ l (h l (by simp[oq]));dsimp[tx,wr,cz];omega
 |.rep m a,h=>by
  have:=dv a h;dsimp[tx,wr,cz,fU,aj,f9];omega
 |.row a b,h=>by
  have h1:=dv a λl m=>h l (bS _ m)
  have h2:=dv b λl m=>h l (bc _ m)
  have p1:2^cz a<=2^max (cz a) (cz b):=bp ∅ ∅;have p2:2^cz b<=2^max (cz a) (cz b):=bp ∅ ∅;dsimp[tx,wr,cz,fU,aj,aT,dR];omega
 |.or a b,h=>by
  have h1:=dv a λl m=>h l (bS _ m)
  have h2:=dv b λl m=>h l (bc _ m)
  have p1:2^cz a<=2^max (cz a) (cz b):=bp ∅ ∅;have p2:2^cz b<=2^max (cz a) (cz b):=bp ∅ ∅;dsimp[tx,wr,cz,fU,aj,aT,dR];omega
theorem ja(h:ny t)(d:cz t<4):(tx t).1.length<=200/\(tx t).2.length<=200/\(wr t).length<=200:=by
 have:=dv t h;have p:2^cz t<=2^3:=bp ∅ ∅;omega
section
variable{br:Option (List Nat->PR U)}{x:List Nat}{t:U}
theorem oW(h:vv br x t):vw br x t:=#[[t],by simp,by have:=rf.cons h .nil;rwa [bM] at this,rfl]
theorem vC(h:vw br x t):Fe br x t:=#[x,[],t,[],by simp,h,.nil,rfl]
theorem rm(h:vt br x t):vv br x t:=#[x,t,[],by simp,h,by simp,rfl]
end
theorem mU:∀t k,ny t->cz t<=k->vv (sX k) (tx t).1 (enc t)/\vw (sX k) (tx t).2 (enc t)/\Fe (sX k) (wr t) (enc t)
 |.one _ l,k,h,d=>by
  have a:=rm (MK (h l (by simp[oq])) (sX k));exact#[a,oW a,vC (oW a)]
 |.rep m a,k,h,d=>by
  have d:cz a+1<=k:=d;let#[x,ta,ms,e,ia,hm,et]:=(mU a k h ∅).1;have r:vv (sX k) ((tx a).1++[QR m]) (enc (.rep m a)):=by
   refine#[x,ta,ms++[QR m],by rw[e,bj],ia,λc hc=>?_,?_]
   .rcases aR.mp hc with h|h
    .erw[hm c h]
    .simp at h;subst h;cases m<;>decide
   .unfold MC
    rw[dm]
    show enc (.rep m a)=IG (QR m) (MC ta ms)
    rw[<-et]
    cases m<;>rfl
  exact#[r,oW r,vC (oW r)]
 |.row a b,k,h,d=>by
  have d:max (cz a) (cz b)+1<=k:=d;have key:∀k,max (cz a) (cz b)<=k->vw (sX k) ((tx a).1++(tx b).1) (enc (.row a b)):=λk hk=>by
   have h1:=(mU a k (λl m=>h l (bS _ m)) ∅).1;have h2:=(mU b k (λl m=>h l (bc _ m)) ∅).1;exact#[[enc a,enc b],by simp,by have:=rf.cons h1 (rf.cons h2 .nil);rwa [bM] at this,rfl]
  obtain⟨k,rfl⟩:∃k',k=k'+1:=#[k-1,∅]
  have r:=rm (yG (vC (key k ∅)));exact#[r,key _ ∅,vC (key _ ∅)]
 |.or a b,k,h,d=>by
  have d:max (cz a) (cz b)+1<=k:=d;have key:∀k,max (cz a) (cz b)<=k->Fe (sX k) ((tx a).2++124::(tx b).2) (enc (.or a b)):=λk hk=>by
   have h1:=(mU a k (λl m=>h l (bS _ m)) ∅).2.1;have h2:=(mU b k (λl m=>h l (bc _ m)) ∅).2.1;exact#[(tx a).2,124::(tx b).2,enc a,[enc b],rfl,h1,by have:=vx.cons h2 .nil;rwa [bM] at this,rfl]
  obtain⟨k,rfl⟩:∃k',k=k'+1:=#[k-1,∅]
  have r:=rm (yG (key k ∅));exact#[r,oW r,key _ ∅]
theorem MN(h:ny t)(d:cz t<4):sY (wr t)= .ok (enc t,[]):=DG (mU t 6 h ∅).2.2
def A5(D:Tr->Prop)(f:Tr->List Nat):Spec:=λus S Q _=>∃t,us=[enc t]/\D t/\ny t/\cz t<4/\∀S',Ext S S'->Q (.str (f t)) S'
def wb:Tr->Prop
 |.row _ _=>True
 |.or _ _=>True
 |_=>False
def Jk:Tr->Prop
 |.rep _ _=>False
 |_=>True
theorem QS(Γ:b8)(k:Nat)(D:Tr->Prop)(hD:∀t,cz t<=k->wb t->D t)(h1:Γ "place_text"=MJ)(h2:Γ "written"=A5 D wr):Keeps Γ lx 0 (A5 (λt=>cz t<=k/\Jk t) λt=>(tx t).1):=by
 rintro us S Q E ⟨t,rfl,⟨dt,nr⟩,lt,d4,q⟩;have q:∀S',Ext S S'->Q (.str (tx t).1) S':=q;unfold lx;have sm:=ja lt d4;have go:wb t->(tx t).1=40::(wr t++[41])->Rest Γ (.cons (.ret (.bin .add (.bin .add ↑[40] (.call "written" (.cons @0 .nil))) ↑[41])) .nil) #[λ_ S1=>Q .bQ S1,Q,λ_=>E] [some (enc t)] S:=by
  intro ro e;room;rwa[ca h2 #[t,rfl,hD t dt ro,lt,d4,λS1 x1=>?_]];room;refine#[by simp;omega,by simp;omega,?_];rw[<-e]
  erw[q S1 x1]
 cases t with
 |one n l=>
  rwa[v8 rfl rfl ?_];unfold enc;room;dsimp[tI,bB];exact#[by simp,ca h1 #[l,rfl,lt l (by simp[oq]),q]]
 |row a b=>erw[lO rfl rfl (go trivial (by simp[tx,wr]))]
 |or a b=>erw[lO rfl rfl (go trivial (by simp[tx,wr]))]
 |rep m a=>erw[nr.elim]
noncomputable abbrev WC:List (List Nat×List Nat):=[([115,116,97,114],[42]),([112,108,117,115],[43]),([109,97,121,98,101],[63])]
theorem QT(Γ:b8)(k:Nat)(hk:k<=10)(h1:Γ "atom_text"=A5 (λt=>cz t<=k/\Jk t) λt=>(tx t).1):Keeps Γ jL 2 (A5 (λt=>cz t<=k) λt=>(tx t).1):=by
 rintro us S Q E ⟨t,rfl,dt,lt,d4,q⟩;have q:∀S',Ext S S'->Q (.str (tx t).1) S':=q;unfold jL;have sm:=ja lt d4;room;refine#[cz t+1,mS (λn env S1=>S1=S/\∃a ms,n=cz a/\cz a<=cz t/\ny a/\ms.length+cz a<=cz t/\(tx t).1=(tx a).1++ms/\env=[some (enc t),some (.str ms),some (enc a)]) ?_ _ (cz t) _ _ ∅ #[rfl,t,[],rfl,au _,lt,by simp,by simp,rfl]];rintro n env S1 K ⟨rfl,a,ms,rfl,da,la,ml,e,rfl⟩ hK;have stop:∀kk x,enc a=.tup [.str kk,x]->(WC.lookup kk).isSome=false->Jk a->WT Γ (.dw (.cmp .isin (.ix @2 ↑0) (.lit (.tab WC)))) [some (enc t),some (.str ms),some (enc a)] S1
   (λt1 S2=>if t1=true then Rest Γ (.cons (.set 1 (.bin .add (.ix (.lit (.tab WC)) (.ix @2 ↑0)) @1)) (.cons (.set 2 (.ix @2 ↑1)) .nil)) #[K,Q,λ_=>E] [some (enc t),some (.str ms),some (enc a)] S2 else Rest Γ (.cons (.ret (.bin .add (.call "atom_text" (.cons @2 .nil)) @1)) .nil) #[λ_ S1=>Q .bQ S1,Q,λ_=>E] [some (enc t),some (.str ms),some (enc a)] S2) E:=by
  intro kk x ek el nr;have fin:Rest Γ (.cons (.ret (.bin .add (.call "atom_text" (.cons @2 .nil)) @1)) .nil) #[λ_ S1=>Q .bQ S1,Q,λ_=>E] [some (enc t),some (.str ms),some (enc a)] S1:=by
   room;rwa[ca h1 #[a,rfl,#[∅,nr],la,∅,λS2 x2=>?_]];room;rw[<-e]
   refine#[?_,q S2 x2];rw[e,aj] at sm;omega
  rw[ek] at fin ⊢;room;rw[tH,bB,z8,el]
  exact#[by simp,fin]
 cases a with
 |one n l=>erw[stop _ _ rfl rfl trivial]
 |row a b=>erw[stop _ _ rfl rfl trivial]
 |or a b=>erw[stop _ _ rfl rfl trivial]
 |rep m a=>
  have dr:cz (.rep m a)=cz a+1:=rfl;have ek:enc (.rep m a)= .tup [.str (pe m),enc a]:=rfl;rw[ek]
  have el:WC.lookup (pe m)=some [QR m]:=by cases m<;>rfl
  room;rw[tH,bB,z8,el]
  refine#[by simp,?_];dsimp[p9,if_true];room;dsimp[tH,bB,yi,el];room;refine#[by simp,by simp;omega,?_];room;dsimp[tI,bB];refine#[by simp,?_];try room
  erw[hK (cz a) _ _ ∅ #[rfl,a,QR m::ms,rfl,∅,la,by simp;omega,by rw[e];simp[tx],rfl]]
def MP:Tr->Prop
 |.row _ _=>True
 |_=>False
theorem two_get{a b:Tr}{f:Tr->List Nat}{i:Nat}{u v:U}(hu:[enc a,enc b][i]?=some u)(hv:[U.str (f a),U.str (f b)][i]?=some v):∃t,(t=a\/t=b)/\u=enc t/\v=.str (f t):=by
 let#[t,m,h1,h2]:=yK (K:=[a,b]) (f:=λt=>.str (f t)) hu hv;exact#[t,by simpa using m,h1,h2]
theorem QW(Γ:b8)(k:Nat)(h1:Γ "repeat_text"=A5 (λt=>cz t<=k) λt=>(tx t).1):Keeps Γ mG 0 (A5 (λt=>cz t<=k\/(MP t/\cz t<=k+1)) λt=>(tx t).2):=by
 rintro us S Q E ⟨t,rfl,dt,lt,d4,q⟩;have q:∀S',Ext S S'->Q (.str (tx t).2) S':=q;unfold mG;have go:¬MP t->(tx t).2=(tx t).1->Rest Γ (.cons (.ret (.call "repeat_text" (.cons @0 .nil))) .nil) #[λ_ S1=>Q .bQ S1,Q,λ_=>E] [some (enc t)] S:=by
  intro nr e;room;rw[e] at q;erw[ca h1 #[t,rfl,dt.resolve_right λz=>nr z.1,lt,d4,q]]
 cases t with
 |one n l=>erw[lO rfl rfl (go (λz=>z) rfl)]
 |rep m a=>erw[lO rfl (beq_eq_false_iff_ne.mpr (Jf m).2.1) (go (λz=>z) rfl)]
 |or a b=>erw[lO rfl rfl (go (λz=>z) rfl)]
 |row a b=>
  have dt:max (cz a) (cz b)+1<=k+1:=by rcases dt with z|z;erw[js z];erw[z.2]
  have d4:max (cz a) (cz b)+1<4:=d4;have lo:∀t,t=a\/t=b->ny t/\cz t<=k/\cz t<4:=by
   rintro t (rfl|rfl)
   .exact#[λl m=>lt l (bS _ m),∅,∅]
   .exact#[λl m=>lt l (bc _ m),∅,∅]
  have sa:=(ja (lo a (.inl rfl)).1 (lo a (.inl rfl)).2.2).1;have sb:=(ja (lo b (.inr rfl)).1 (lo b (.inr rfl)).2.2).1;rwa[v8 rfl rfl ?_];unfold enc;room;dsimp[tI,bB];refine#[by simp,by simp,?_];rwa[jT (S:=S) _ [.str (tx a).1,.str (tx b).1] (by simp) (by simp) (λ_ _=>trivial) (λu S' k h=>h) (λi u v hu hv S' k x hk=>?_) λS1 x1=>?_]
  .let#[t,m,rfl,rfl]:=two_get (f:=λt=>(tx t).1) hu hv
   let#[l1,l2,l3]:=lo t m;erw[ca h1 #[t,rfl,l2,l1,l3,hk]]
  .refine#[[(tx a).1,(tx b).1],by simp,by simp;omega,?_]
   have e:lj [] [(tx a).1,(tx b).1]=(tx (.row a b)).2:=by simp[lj,tx]
   rw[e]
   erw[q _ (x1.trans (Ext.app _))]
theorem QY(Γ:b8)(k:Nat)(h1:Γ "row_text"=A5 (λt=>cz t<=k\/(MP t/\cz t<=k+1)) λt=>(tx t).2):Keeps Γ oM 0 (A5 (λt=>cz t<=k\/(wb t/\cz t<=k+1)) wr):=by
 rintro us S Q E ⟨t,rfl,dt,lt,d4,q⟩;unfold oM;have go:(wb t->MP t)->wr t=(tx t).2->Rest Γ (.cons (.ret (.call "row_text" (.cons @0 .nil))) .nil) #[λ_ S1=>Q .bQ S1,Q,λ_=>E] [some (enc t)] S:=by
  intro nr e;room;rw[e] at q;erw[ca h1 #[t,rfl,dt.imp_right λz=>#[nr z.1,z.2],lt,d4,q]]
 cases t with
 |one n l=>erw[lO rfl rfl (go (λz=>z) rfl)]
 |rep m a=>erw[lO rfl (beq_eq_false_iff_ne.mpr (Jf m).2.2) (go (λz=>z) rfl)]
 |row a b=>erw[lO rfl rfl (go (λz=>z) rfl)]
 |or a b=>
  have dt:max (cz a) (cz b)+1<=k+1:=by rcases dt with z|z;erw[js z];erw[z.2]
  have d4:max (cz a) (cz b)+1<4:=d4;have lo:∀t,t=a\/t=b->ny t/\cz t<=k/\cz t<4:=by
   rintro t (rfl|rfl)
   .exact#[λl m=>lt l (bS _ m),∅,∅]
   .exact#[λl m=>lt l (bc _ m),∅,∅]
  have sa:=(ja (lo a (.inl rfl)).1 (lo a (.inl rfl)).2.2).2.1;have sb:=(ja (lo b (.inr rfl)).1 (lo b (.inr rfl)).2.2).2.1;rwa[v8 rfl rfl ?_];unfold enc;room;dsimp[tI,bB];refine#[by simp,by simp,?_];rwa[jT (S:=S) _ [.str (tx a).2,.str (tx b).2] (by simp) (by simp) (λ_ _=>trivial) (λu S' k h=>h) (λi u v hu hv S' k x hk=>?_) λS1 x1=>?_]
  .let#[t,m,rfl,rfl]:=two_get (f:=λt=>(tx t).2) hu hv
   let#[l1,l2,l3]:=lo t m;erw[ca h1 #[t,rfl,.inl l2,l1,l3,hk]]
  .refine#[[(tx a).2,(tx b).2],by simp,by simp;omega,?_]
   have e:lj [124] [(tx a).2,(tx b).2]=wr (.or a b):=by simp[lj,wr]
   rw[e]
   erw[q _ (x1.trans (Ext.app _))]
end PL.nk
namespace PL.yr
section
variable{κ:Type}[BEq κ][LawfulBEq κ]
noncomputable def k6(seen:List κ):List κ->List Nat
 |[]=>[]
 |k::r=>if k∈seen then seen.idxOf k::k6 seen r else seen.length::k6 (seen++[k]) r
noncomputable def sn(seen:List κ):List κ->List κ
 |[]=>seen
 |k::r=>sn (if k∈seen then seen else seen++[k]) r
theorem lG:∀(ks:List κ)(seen:List κ),(k6 seen ks).length=ks.length
 |[],_=>rfl
 |k::r,seen=>by unfold k6;split<;>simp[lG r]
theorem vD:∀(ks:List κ)(seen:List κ),(sn seen ks).length<=seen.length+ks.length
 |[],_=>by simp[sn]
 |k::r,seen=>by
  unfold sn;split
  .have:=vD r seen;simp;omega
  .have:=vD r (seen++[k]);simp at this ⊢;omega
theorem Jl{κ':Type}[BEq κ'][LawfulBEq κ'](f:κ->κ')(hf:∀a b,f a=f b->a=b)(k:κ):∀l:List (κ×U),(l.map λp=>(f p.1,p.2)).lookup (f k)=l.lookup k
 |[]=>rfl
 | (a,v)::r=>by
  rw[az,aN,aN,Jl f hf k r]
  by_cases h:k=a
  .subst h;simp
  .rw[show(k==a)=false by simp[h],show(f k==f a)=false from beq_eq_false_iff_ne.mpr λe=>h (hf _ _ e)]
theorem yM:∀(ks:List κ)(seen:List κ),∃m,sn seen ks=seen++m
 |[],seen=>#[[],by simp[sn]]
 |k::r,seen=>by
  unfold sn;split
  .erw[yM r seen]
  .let#[m,e]:=yM r (seen++[k])
   exact#[k::m,by rw[e];simp]
theorem Jm:∀(ks:List κ)(seen:List κ),seen.Nodup->(sn seen ks).Nodup
 |[],_,h=>h
 |k::r,seen,h=>by
  unfold sn;split
  .erw[Jm r seen h]
  .rename_i hk
   rwa[Jm r _ ?_];rw[eV]
   exact#[h,by simp,λx hx y hy=>by rw[b7.mp hy];erw[λe=>hk (e▸hx)]]
theorem oX{k:κ}{a b:List κ}(h:k∈a):(a++b).idxOf k=a.idxOf k:=by
 rw[jo,if_pos h]
theorem sr:∀(ks:List κ)(seen:List κ),k6 seen ks=ks.map λk=>(sn seen ks).idxOf k
 |[],_=>rfl
 |k::r,seen=>by
  unfold k6 sn;split
  .rename_i hk
   let#[m,e]:=yM r seen;rw[az,sr r seen,e,oX hk]
  .rename_i hk
   let#[m,e]:=yM r (seen++[k]);rw[az,sr r (seen++[k]),e]
   congr 1
   rw[oX (by simp),jo,if_neg hk]
   simp
theorem vE:∀(ks:List κ)(seen:List κ)(k:κ),k∈sn seen ks↔k∈seen\/k∈ks
 |[],_,_=>by simp[sn]
 |x::r,seen,k=>by
  unfold sn;rw[vE r]
  split
  .rename_i hk
   constructor
   .rintro(h|h)
    .erw[.inl h]
    .erw[.inr (aB _ h)]
   .rintro(h|h)
    .erw[.inl h]
    .rcases aP.mp h with rfl|h
     .erw[.inl hk]
     .erw[.inr h]
  .simp[or_assoc]
noncomputable def dz(seen:List κ)(n:Nat):List (κ×U):=(seen.zipIdx n).map λp=>(p.1,aQ p.2)
theorem Jn(a:List κ)(k:κ)(n:Nat):dz (a++[k]) n=dz a n++[(k,aQ (n+a.length))]:=by
 unfold dz;rw[List.zipIdx_append,aH];simp
theorem yN(a:List κ)(n:Nat):(dz a n).length=a.length:=by simp[dz]
theorem yO:∀(a:List κ)(k:κ)(n:Nat),(dz a n).lookup k=if k∈a then some (aQ (n+a.idxOf k)) else none
 |[],k,n=>rfl
 |x::a,k,n=>by
  have e:dz (x::a) n=(x,aQ n)::dz a (n+1):=rfl;rw[e,aN]
  by_cases h:k=x
  .subst h;simp
  .have h1:(k==x)=false:=by simp[h]
   rw[h1,yO a k (n+1)]
   by_cases hk:k∈a
   .rw[if_pos hk,if_pos (aB _ hk),List.idxOf_cons,show(x==k)=false by simp[bZ h]]
    dsimp[cond_false]
    congr 2
    omega
   .rw[if_neg hk,if_neg (by simp[h,hk])]
end
theorem QZ(o:Option Nat):mD (uN o)=true:=by cases o<;>rfl
theorem Vj(a b:Option Nat):RL (uN a) (uN b)=(a==b):=by
 cases a<;>cases b<;>first|rfl|skip
 rename_i x y;show((x:Int)== (y:Int))=(some x==some y);by_cases h:x=y
 .subst h;simp
 .rw[show((x:Int)== (y:Int))=false from beq_eq_false_iff_ne.mpr λe=>h (oB e),show(some x==some y)=false from beq_eq_false_iff_ne.mpr λe=>h (aJ e)]
theorem Jo(k:Option Nat):∀(l:List (Option Nat×U)),tU (uN k) (l.map λp=>(uN p.1,p.2))=l.lookup k
 |[]=>rfl
 | (a,v)::r=>by
  rw[az,aN]
  unfold tU;rw[Vj,Jo k r]
  by_cases h:a=k
  .subst h;simp
  .have h1:(a==k)=false:=by simp[h]
   have h2:(k==a)=false:=by simp[bZ h]
   rw[h1,h2];rfl
section
variable{κ β:Type}[BEq κ][LawfulBEq κ][BEq β][LawfulBEq β]{ks:List κ}
theorem MQ{l:List κ}{a b:κ}(ha:a∈l)(h:l.idxOf a=l.idxOf b):a=b:=by
 have la:=cD ha;have e:=iX la;have lb:l.idxOf b<l.length:=∅
 rw[<-e,<-iX lb]
 congr 1
theorem ua{i j:Nat}{a b:κ}(hi:ks[i]?=some a)(hj:ks[j]?=some b):(k6 [] ks)[i]?=(k6 [] ks)[j]?↔a=b:=by
 rw[sr,aD,aD,hi,hj]
 constructor
 .intro h
  erw[MQ ((vE ks [] a).mpr (.inr (ak hi))) (aJ h)]
 .intro h;rw[h]
theorem ub:∀(ks:List κ)(seen:List κ)(i v:Nat),(k6 seen ks)[i]?=some (v+1)->v<seen.length\/∃p,p<i/\(k6 seen ks)[p]?=some v
 |[],_,i,v,h=>by simp[k6] at h
 |k::r,seen,0,v,h=>by
  unfold k6 at h;split at h
  .rename_i hk
   have:=cD hk;have:seen.idxOf k=v+1:=by simpa using h
   omega
  .have:seen.length=v+1:=by simpa using h
   omega
 |k::r,seen,i+1,v,h=>by
  unfold k6 at h ⊢;split at h
  .rename_i hk
   rw[if_pos hk]
   rcases ub r seen i v (by simpa using h) with z|⟨p,hp,e⟩
   .erw[.inl z]
   .exact .inr #[p+1,∅,by simpa using e]
  .rename_i hk
   rw[if_neg hk]
   rcases ub r (seen++[k]) i v (by simpa using h) with z|⟨p,hp,e⟩
   .rw[aj] at z
    by_cases y:v<seen.length
    .erw[.inl y]
    .have:seen.length=v:=by simp at z;omega
     erw[.inr #[0,∅,by simp[this]]]
   .exact .inr #[p+1,∅,by simpa using e]
theorem MR(hm:m∈k6 [] ks)(h:∀j∈k6 [] ks,j<=m):m+1=(sn [] ks).length:=by
 rw[sr] at hm h;let#[k,hk,rfl]:=de.mp hm;have l1:=cD ((vE ks [] k).mpr (.inr hk));have ll:(sn [] ks).length-1<(sn [] ks).length:=∅
 have e:=(Jm ks [] (by simp)).idxOf_getElem _ ll;have m2:=(vE ks [] _).mp (dE ll);have:=h _ (de.mpr #[_,m2.resolve_left (by simp),rfl]);rw[e] at this;omega
def Vk(ps:List (κ×β)):Prop:=∀x∈ps,∀y∈ps,x.1=y.1->x.2=y.2
theorem AD:∀(ps:List (κ×β))(A:List κ)(B:List β),Vk ps->(∀x∈ps,x.1∈A->x.2∈B)->(sn B (ps.map (·.2))).length+A.length<=(sn A (ps.map (·.1))).length+B.length
 |[],A,B,_,_=>by simp[sn];omega
 |x::ps,A,B,hc,hA=>by
  have c':Vk ps:=λy hy z hz=>hc y (aB _ hy) z (aB _ hz)
  rw[az,az]
  unfold sn;by_cases h1:x.1∈A
  .have h2:=hA x (aS ..) h1
   rw[if_pos h1,if_pos h2]
   erw[AD ps A B c' λy hy=>hA y (aB _ hy)]
  .have nx:∀y∈ps,y.1∈A++[x.1]->y.2∈B\/y.2=x.2:=λy hy m=>by
    rcases aR.mp m with m|m
    .erw[.inl (hA y (aB _ hy) m)]
    .exact .inr (hc y (aB _ hy) x (aS ..) (by simpa using m))
   rw[if_neg h1]
   by_cases h2:x.2∈B
   .rw[if_pos h2]
    have:=AD ps (A++[x.1]) B c' λy hy m=>(nx y hy m).elim id λe=>e▸h2
    simp at this ⊢;omega
   .rw[if_neg h2]
    have:=AD ps (A++[x.1]) (B++[x.2]) c' λy hy m=>by
     rcases nx y hy m with z|z
     .simp[z]
     .simp[z]
    simp at this ⊢;omega
theorem Cv:∀(ps:List (κ×β))(A:List κ)(B:List β),Vk ps->A.length=B.length->(∀x∈ps,x.1∈A->x.2∈B/\A.idxOf x.1=B.idxOf x.2)->(sn B (ps.map (·.2))).length=(sn A (ps.map (·.1))).length->k6 A (ps.map (·.1))=k6 B (ps.map (·.2))
 |[],A,B,_,_,_,_=>rfl
 |x::ps,A,B,hc,hl,hA,he=>by
  have c':Vk ps:=λy hy z hz=>hc y (aB _ hy) z (aB _ hz)
  rw[az,az] at he ⊢;unfold sn at he;unfold k6;by_cases h1:x.1∈A
  .let#[h2,h3]:=hA x (aS ..) h1
   rw[if_pos h1,if_pos h2] at he ⊢;rw[h3,Cv ps A B c' hl (λy hy=>hA y (aB _ hy)) he]
  .have nx:∀y∈ps,y.1∈A++[x.1]->y.1∈A\/(y.1=x.1/\y.2=x.2):=λy hy m=>by
    rcases aR.mp m with m|m
    .erw[.inl m]
    .have e:y.1=x.1:=by simpa using m
     erw[.inr #[e,hc y (aB _ hy) x (aS ..) e]]
   rw[if_neg h1] at he ⊢;by_cases h2:x.2∈B
   .rw[if_pos h2] at he
    have:=AD ps (A++[x.1]) B c' λy hy m=>by
     rcases nx y hy m with z|z
     .exact(hA y (aB _ hy) z).1
     .rw[z.2];erw[h2]
    simp at this;omega
   .rw[if_neg h2] at he ⊢
    rw[hl,Cv ps (A++[x.1]) (B++[x.2]) c' (by simp[hl]) (λy hy m=>?_) he]
    rcases nx y hy m with z|z
    .let#[z1,z2]:=hA y (aB _ hy) z
     exact#[by simp[z1],by rw[oX z,oX z1,z2]]
    .rw[z.1,z.2]
     exact#[by simp,by rw[jo,if_neg h1,jo,if_neg h2];simp[hl]]
theorem Jp{a:List κ}{b:List β}(h:∀(i j:Nat) (x y:κ) (u v:β),a[i]?=some x->a[j]?=some y->b[i]?=some u->b[j]?=some v->x=y->u=v):Vk (a.zip b):=by
 intro x hx y hy e;let#[i,hi]:=bL hx;let#[j,hj]:=bL hy;rw[List.getElem?_zip_eq_some] at hi hj;erw[h i j _ _ _ _ hi.1 hj.1 hi.2 hj.2 e]
theorem Cw{a:List κ}{b:List β}(hl:a.length=b.length)(h:∀(i j:Nat) (x y:κ) (u v:β),a[i]?=some x->a[j]?=some y->b[i]?=some u->b[j]?=some v->x=y->u=v):(sn [] b).length<=(sn [] a).length:=by
 have:=AD (a.zip b) [] [] (Jp h) (by simp);rw[JZ ∅,J0 ∅] at this;simpa using this
theorem DM{a:List κ}{b:List β}(hl:a.length=b.length)(h:∀(i j:Nat) (x y:κ) (u v:β),a[i]?=some x->a[j]?=some y->b[i]?=some u->b[j]?=some v->x=y->u=v)(he:(sn [] b).length=(sn [] a).length):k6 [] a=k6 [] b:=by
 have:=Cv (a.zip b) [] [] (Jp h) rfl (by simp);rw[JZ ∅,J0 ∅] at this;erw[this he]
theorem DN(ks:List κ):k6 [] (k6 [] ks)=k6 [] ks:=by
 have l:=lG ks [];have h1:∀(i j:Nat)(x y:κ)(u v:Nat),ks[i]?=some x->ks[j]?=some y->(k6 [] ks)[i]?=some u->(k6 [] ks)[j]?=some v->x=y->u=v:=λi j x y u v hi hj hu hv e=>by
  have:=(ua hi hj).mpr e;rw[hu,hv] at this;erw[aJ this]
 have h2:∀(i j:Nat)(x y:Nat)(u v:κ),(k6 [] ks)[i]?=some x->(k6 [] ks)[j]?=some y->ks[i]?=some u->ks[j]?=some v->x=y->u=v:=λi j x y u v hi hj hu hv e=>by
  refine(ua hu hv).mp ?_;rw[hi,hj,e]
 exact(DM l.symm h1 (Nat.le_antisymm (Cw l.symm h1) (Cw l h2))).symm
end
noncomputable def Jq(p:Nat×List Nat):U:=.tup [aQ p.1,.tup (p.2.map aQ)]
theorem uc{κ:Type}[BEq κ][LawfulBEq κ]:∀(ks:List κ)(k:κ)(seen:List κ),sn seen (ks++[k])=if k∈sn seen ks then sn seen ks else sn seen ks++[k]
 |[],k,seen=>rfl
 |x::r,k,seen=>by
  rw[tO]
  unfold sn;erw[uc r k _]
theorem Jr{κ:Type}[BEq κ][LawfulBEq κ](ks:List κ)(k:κ):k6 [] (ks++[k])=k6 [] ks++[(sn [] (ks++[k])).idxOf k]:=by
 rw[sr,sr,aH,uc]
 congr 1
 rwa[qd λx hx=>?_]
 split
 .rfl
 .erw[oX ((vE ks [] x).mpr (.inr hx))]
noncomputable def wd(p:Nat×List Nat):Int×List Int:=((p.1:Int),p.2.map λ(n:Nat)=>(n:Int))
theorem Js(a b:Nat×List Nat)(h:wd a=wd b):a=b:=by
 let#[h1,h2]:=zj h;erw[Prod.ext (oB h1) ((rF λ_ _ e=>oB e).mp h2)]
theorem Ju(p:Nat×List Nat):Jq p=.tup [.int (wd p).1,.tup ((wd p).2.map .int)]:=by
 unfold Jq wd;rw[bx];rfl
def Jv:Spec:=λus S Q _=>∃u,us=[u]/\((∃ks:List (Option Nat),u=.tup (ks.map uN)/\ks.length<=9000/\∀m S',Ext S S'->S.length<=m->S'[m]?=some (.lst ((k6 [] ks).map aQ))->Q (.loc m) S') \/
 ∃n,∃ks:List (Nat×List Nat),u=.loc n/\S[n]?=some (.lst (ks.map Jq))/\ks.length<=9000/\∀m S',Ext S S'->S.length<=m->S'[m]?=some (.lst ((k6 [] ks).map aQ))->Q (.loc m) S')
theorem Jw{κ:Type}[BEq κ][LawfulBEq κ](f:κ->U)(D:List (κ×U)->SO)(hD:∀(S:bD) (n:Nat) kvs k (d:U) (Q:KU),S[n]?=some (D kvs)->kvs.length<=9000->(match kvs.lookup k with|some v=>Q v S|none=>Q d (S.set n (D (kvs++[(k,d)]))))->pB S n (f k) d Q)(hL:∀(S:bD) (n:Nat) kvs,S[n]?=some (D kvs)->tG .ni (.loc n) S/\nj S (.loc n)=some kvs.length)
  {g:bD->Prop}{S:bD}{Q:List U->bD->Prop}{ks:List κ} (hl:ks.length<=9000) (hg:∀S',Ext S S'->g S') (q:∀S',Ext S S'->Q ((k6 [] ks).map aQ) S'):lX g (λ_ S2 k=>k true S2) (λu S2 k=>tG .ni (.loc S.length) S2/\opt (nj S2 (.loc S.length)) λn=>n<=1000000/\pB S2 S.length u (.int n) k) Q (ks.map f) [] (S++[D []]):=by
 rwa[gD _ (λi acc S'=>Ext S S'/\S'[S.length]?=some (D (dz (sn [] (ks.take i)) 0))/\acc=(k6 [] (ks.take i)).map aQ) (λi acc S' hi h=>#[hg _ h.1,?_]) (λi u acc S' k hu hI hk=>?_) (λacc S' hI=>?_) #[Ext.app _,by simp[sn,dz],rfl]]
 .rw[h.2.2,ag,lG,cu];omega
 .let#[x,e,rfl]:=hI
  let#[k0,hk0,rfl]:=fw hu;have tk:=IV hk0;have ln:(sn [] (ks.take i)).length<=9000:=by have:=vD (ks.take i) [];simp at this;omega
  have nt:(k6 [] (ks.take (i+1))).map aQ=(k6 [] (ks.take i)).map aQ++[aQ ((sn [] (ks.take (i+1))).idxOf k0)]:=by rw[tk,Jr,aH];rfl
  rw[if_pos rfl,(hL _ _ _ e).2]
  refine#[(hL _ _ _ e).1,by rw[yN];omega,hD _ _ _ _ _ _ e (by rw[yN];erw[ln]) ?_];rw[yO,yN]
  by_cases hm:k0∈sn [] (ks.take i)
  .have es:sn [] (ks.take (i+1))=sn [] (ks.take i):=by rw[tk,uc,if_pos hm]
   rw[if_pos hm,kZ]
   erw[hk _ _ #[x,by rw[es];exact e,by rw[nt,es]]]
  .have es:sn [] (ks.take (i+1))=sn [] (ks.take i)++[k0]:=by rw[tk,uc,if_neg hm]
   rw[if_neg hm]
   refine hk _ _ #[#[by simpa using x.1,λn hn=>?_],?_,?_]
   .rw[ah ∅];erw[x.2 n hn]
   .rw[bg (af.mp e).1,es,Jn,kZ]
   .rw[nt,es,jo,if_neg hm];simp
 .let#[x,e,rfl]:=hI
  rw[show ks.take (ks.map f).length=ks by simp]
  erw[q _ x]
theorem Q0(Γ:b8):Keeps Γ mM 1 Jv:=by
 rintro us S Q E ⟨u,rfl,h⟩;unfold mM;rcases h with⟨ks,rfl,hl,q⟩|⟨n,ks,rfl,g,hl,q⟩
 .room
  rw[u5]
  refine#[⋯,.inl ?_];room;refine#[by simp;omega,Jw uN (λl=>.dU (l.map λp=>(uN p.1,p.2))) (λS n kvs k d Q e l h=>?_) (λS n kvs e=>#[?_,by dsimp[nj,e,ag]]) hl (λ_ _=>trivial) λS' x=>q _ _ (x.trans (Ext.app _)) x.1 (by simp)]
  .unfold pB
   rw[e]
   refine#[#[QZ _,by rw[ag];omega],?_];rw[aH] at h;rw[Jo]
   erw[h]
  .show(match S[n]? with|some (.dU _)=>True|some (.tR _)=>True|some (.wV _)=>True|_=>False)
   rw[e];trivial
 .room
  rw[u5]
  refine#[⋯,.inr (.inr ?_)];room;rw[ai (aX g),g]
  dsimp[aC];rwa[Jw Jq (λl=>.wV (l.map λp=>(wd p.1,p.2))) (λS n kvs k d Q e l h=>?_) (λS n kvs e=>#[?_,by dsimp[nj,e,ag]]) hl (λS' x=>x.get g) λS' x=>q _ _ (x.trans (Ext.app _)) x.1 (by simp)]
  .unfold pB
   rw[e]
   refine#[_,_,Ju k,by rw[ag];omega,?_];rw[show((wd k).1,(wd k).2)=wd k from rfl,Jl wd Js]
   rw[aH] at h;erw[h]
  .show(match S[n]? with|some (.dU _)=>True|some (.tR _)=>True|some (.wV _)=>True|_=>False)
   rw[e];trivial
structure Rw(S:bD)(n:Nat)(ls:List Nat)(g:Nat->Nat->Nat):Prop where
 l:S[n]?=some (.lst (ls.map .loc))
 d:∀(j m:Nat),ls[j]?=some m->S[m]?=some (SO.dU (SG.map λc=>(.str [c],aQ (g j c))))
theorem Rw.ext{S S':bD}{n:Nat}{ls:List Nat}{g:Nat->Nat->Nat}(h:Rw S n ls g)(x:Ext S S'):Rw S' n ls g:=#[x.get h.l,λj m e=>x.get (h.d j m e)]
theorem vF{f:Nat->U}{c:Nat}:∀{l:List Nat},c∈l->tU (.str [c]) (l.map λc=>(U.str [c],f c))=some (f c)
 |x::l,h=>by
  rw[az]
  unfold tU;by_cases e:x=c
  .subst e;rw[if_pos (by simp[RL])]
  .rw[if_neg (by simp[RL,e])]
   rcases aP.mp h with z|z
   .erw[absurd z.symm e]
   .erw[vF z]
theorem AE{κ:Type}[BEq κ][LawfulBEq κ]{f:Nat->κ}{h:Nat->U}{k:κ}:∀l:List Nat,(∃c∈l,f c=k/\(l.map λc=>(f c,h c)).lookup k=some (h c))\/(l.map λc=>(f c,h c)).lookup k=none
 |[]=>.inr rfl
 |x::l=>by
  rw[az,aN]
  by_cases e:k=f x
  .erw[.inl #[x,aS ..,e.symm,by simp[e]]]
  .rw[show(k==f x)=false by simp[e]]
   rcases AE (f:=f) (h:=h) (k:=k) l with⟨c,m,z⟩|z
   .erw[.inl #[c,aB _ m,z]]
   .erw[.inr z]
def NL:Spec:=λus S Q _=>∃n ls g,us=[.loc n]/\Rw S n ls g/\ls.length<=9000/\∀(m:Nat)(S':bD)(sg:List Nat),Ext S S'->S.length<=m->S'[m]?=some (.lst (sg.map λc=>.str [c]))->sg.length<=95->(∀c∈sg,c∈SG)->(∀c∈SG,∃c'∈sg,∀j,j<ls.length->g j c'=g j c)->Q (.loc m) S'
theorem Q2(Γ:b8):Keeps Γ iI 2 NL:=by
 rintro us S Q E ⟨n,ls,g,rfl,rw0,hl,q⟩;let#[r1,r2]:=rw0;unfold iI;have gl:SG.length=95:=rfl;generalize SG=G at *;room;rw[u5]
 refine#[⋯,.inr (.inl ?_)];room
 let ky:Nat->List Int:=λc=>(cq ls.length).map λj=>((g j c:Nat):Int)
 rwa[dO (λi env S1=>∃(sg:List Nat)(x2:Option U),env=[some (.loc n),some (.loc S.length),x2]/\Ext S S1/\S1[S.length]?=some (.tR (sg.map λc=>(ky c,.str [c])))/\sg.length<=i/\(∀c∈sg,c∈G)/\∀c∈G.take i,∃c'∈sg,ky c'=ky c) (λ_ _ _ _=>trivial) _ ?_ ?_ #[[],none,rfl,Ext.app _,by simp,by simp,by simp,by simp]]
 .rintro i u env S1 K hu ⟨sg,x2,rfl,x1,g1,sl,hs,inv⟩ hK
  let#[c,hc,rfl]:=fw hu;have cm:=ak hc;have il:i<95:=by have:=(af.mp hc).1;omega
  have et:=IV hc;room;refine#[by show(match S1[S.length]? with|some (.dU _)=>True|some (.tR _)=>True|some (.wV _)=>True|_=>False);rw[g1];trivial,?_];rw[x1.get r1,aC]
  rwa[jT (S:=S1) _ ((ky c).map .int) (by simp[ky]) (by simp;omega) (λS' x=>x.get (x1.get r1)) (λu S' k h=>h) (λj u v hu hv S2 k x hk=>?_) λS2 x=>?_]
  .let#[m,hm,rfl]:=fw hu
   have jl:=(af.mp hm).1;rw[aD,aD,iB jl] at hv;have hv:aQ (g j c)=v:=by simpa using hv
   subst hv;room;rw[(x1.trans x).get (r2 j m hm)]
   rw[kG]
   refine#[rfl,?_];rw[vF cm]
   erw[hk S2 .refl]
  .rw[ax (au _),bO]
   dsimp[List.getElem?_cons_zero,aC];have x2:=x.trans (Ext.app [SO.lst ((ky c).map U.int)]);have g2:=x2.get g1;generalize S2++[SO.lst ((ky c).map U.int)]=S3 at x2 g2;show pB S3 S.length _ _ _;unfold pB;rw[g2]
   refine#[ky c,rfl,by simp;omega,?_];rcases AE (f:=ky) (h:=λc=>U.str [c]) (k:=ky c) sg with⟨c',m',e',z⟩|z
   .rw[z]
    room;rwa[hK _ _ #[sg,_,rfl,x1.trans x2,g2,∅,hs,λd hd=>?_]];rw[et] at hd;rcases aR.mp hd with hd|hd
    .erw[inv d hd]
    .have:d=c:=by simpa using hd
     subst this;exact#[c',m',e']
   .rw[z]
    room;have x13:=x1.trans x2;rwa[hK _ _ #[sg++[c],_,rfl,(x13.st ∅),by rw[gs g2];simp,by simp;omega,λd hd=>?_,λd hd=>?_]]
    .rcases aR.mp hd with hd|hd
     .erw[hs d hd]
     .have:d=c:=by simpa using hd
      subst this;erw[cm]
    .rw[et] at hd
     rcases aR.mp hd with hd|hd
     .let#[c',m',e']:=inv d hd
      exact#[c',by simp[m'],e']
     .have:d=c:=by simpa using hd
      subst this;exact#[d,by simp,rfl]
 .rintro env S1 ⟨sg,x2,rfl,x1,g1,sl,hs,inv⟩
  rw[ag,gl] at sl;rw[ag,bE] at inv;room;refine#[by show(match S1[S.length]? with|some (.tR _)=>True|_=>False);rw[g1];trivial,?_];show(match S1[S.length]? with|some (.tR kvs)=>Q (.loc S1.length) (S1++[.lst (kvs.map (·.2))])|_=>False)
  rw[g1]
  rwa[q _ _ sg (x1.trans (Ext.app _)) x1.1 (by simp) sl hs λc hc=>?_]
  let#[c',m',e']:=inv c hc;refine#[c',m',λj hj=>?_];have:=congrArg (·[j]?) e';dsimp[ky,aD,iB hj] at this;have:((g j c':Nat):Int)=(g j c:Nat):=by simpa using this
  omega
noncomputable def cQ(G:List Nat)(f:Nat->Option Nat):List (List Nat×U):=G.filterMap λc=>(f c).map λk=>([c],aQ k)
noncomputable def sD(ps:List (List Nat×U)):List (U×U):=ps.map λp=>(U.str p.1,p.2)
theorem AF(a:List Nat):∀ps,tU (.str a) (sD ps)=ps.lookup a
 |[]=>rfl
 | (b,v)::r=>by
  have ih:=AF a r;show(if (b==a)=true then some v else tU (.str a) (sD r))=_;rw[aN,ih]
  by_cases h:b=a
  .subst h;simp
  .rw[if_neg (by simp[h]),show(a==b)=false by simp[bZ h]]
theorem su(f:Nat->Option Nat)(c:Nat):∀G:List Nat,(cQ G f).lookup [c]=if c∈G then(f c).map aQ else none
 |[]=>rfl
 |x::G=>by
  have ih:=su f c G;unfold cQ at ih ⊢;rw[b9]
  by_cases e:c=x
  .subst e
   cases h:f c with
   |none=>rw[h] at ih;dsimp[tP,ih];simp
   |some k=>simp
  .have e1:(([c]:List Nat)== [x])=false:=by simp[e]
   cases h:f x with
   |none=>dsimp[tP,ih,aP,e,false_or]
   |some k=>dsimp[j7,aN,e1,ih,aP,e,false_or]
structure Rp(S:bD)(n:Nat)(ls:List Nat)(go:Nat->Nat->Option Nat):Prop where
 l:S[n]?=some (.lst (ls.map .loc))
 d:∀(j m:Nat),ls[j]?=some m->S[m]?=some (SO.dU (sD (cQ SG (go j))))
 z:∀(j c:Nat),ls.length<=j->go j c=none
theorem Rp.ext{S S':bD}{n:Nat}{ls:List Nat}{go:Nat->Nat->Option Nat}(h:Rp S n ls go)(x:Ext S S'):Rp S' n ls go:=#[x.get h.l,λj m e=>x.get (h.d j m e),h.z]
noncomputable def gN(N:Nat)(go:Nat->Nat->Option Nat)(j c:Nat):Nat:=(go j c).getD N
def Jx:Spec:=λus S Q _=>∃n ls go,us=[.loc n]/\Rp S n ls go/\ls.length<=9000/\∀(m:Nat)(S':bD)(ms:List Nat),Ext S S'->ms.length=ls.length+1->Rw S' m ms (gN ls.length go)->Q (.loc m) S'
theorem Q3(hd:S[d]?=some (.dU (sD (cQ SG f))))(q:∀m S',Ext S S'->S'[m]?=some (.dU (SG.map λc=>(.str [c],aQ ((f c).getD N))))->k (.loc m) S'):WE Γ Yg [some (.loc d),some (aQ N)] S k E:=by
 unfold Yg;have nd:=NH;have gl:SG.length=95:=rfl;generalize SG=G at *;room;rwa[jT (S:=S) _ (G.map λc=>.tup [.str [c],aQ ((f c).getD N)]) (by simp) (by simp;omega) (λS' x=>trivial) (λu S' k h=>h) (λj u v hu hv S2 k x' hk=>?_) λS2 x'=>?_]
 .rw[aD] at hu hv
  let#[c,hc,rfl]:=ar.mp hu;rw[hc] at hv;have hv:U.tup [.str [c],aQ ((f c).getD N)]=v:=by simpa using hv
  subst hv;room;rw[x'.get hd]
  dsimp[getD_some,kG,true_and];refine#[cQ G f,rfl,by simp,?_];rw[su,if_pos (ak hc)]
  have:((f c).map aQ).getD (aQ N)=aQ ((f c).getD N):=by cases f c<;>rfl
  rw[this]
  erw[hk S2 .refl]
 .refine#[G.map λc=>([c],aQ ((f c).getD N)),by simp[cK],by rw[bx];erw[nd],?_]
  rw[bx]
  erw[q _ _ (x'.trans ((Ext.app _).trans (Ext.app _))) (by rw[ax (au _),bO];rfl)]
theorem Vl(Γ:b8):Keeps Γ i6 1 Jx:=by
 rintro us S Q E ⟨n,ls,go,rfl,⟨r1,r2,r3⟩,hl,q⟩;unfold i6;room;rw[lu r1]
 dsimp[bB,ag];refine#[∅,?_];room;rw[u5]
 refine#[⋯,.inl #[by simp,?_]];have x0:Ext S (S++[SO.dU []]++[SO.lst [U.loc S.length]]):=(Ext.app _).trans (Ext.app _);have g0:(S++[SO.dU []]++[SO.lst [U.loc S.length]])[(S++[SO.dU []]).length]?=some (.lst [U.loc S.length]):=by
  rw[ax (au _),bO];rfl
 have d0:(S++[SO.dU []]++[SO.lst [U.loc S.length]])[S.length]?=some (.dU []):=(Ext.app _).get (by simp);generalize (S++[SO.dU []]).length=n0 at g0;generalize S++[SO.dU []]++[SO.lst [U.loc S.length]]=S0 at x0 g0 d0;rw[x0.get r1,g0]
 dsimp[aC];refine#[by simp;omega,?_];have x1:Ext S (S0++[SO.lst (ls.map U.loc++[U.loc S.length])]):=x0.trans (Ext.app _);have g1:(S0++[SO.lst (ls.map U.loc++[U.loc S.length])])[S0.length]?=some (.lst ((ls++[S.length]).map U.loc)):=by simp
 have d1:=(Ext.app [SO.lst (ls.map U.loc++[U.loc S.length])]).get d0;generalize S0.length=n1 at g1;generalize S0++[SO.lst (ls.map U.loc++[U.loc S.length])]=S1 at x1 g1 d1;rw[g1,aC]
 have rd:∀(j d:Nat),(ls++[S.length])[j]?=some d->S1[d]?=some (.dU (sD (cQ SG (go j)))):=λj d h=>by
  by_cases hj:j<ls.length
  .rw[ai hj] at h
   erw[x1.get (r2 j d h)]
  .have:=(af.mp h).1
   have ej:j=ls.length:=by simp at this;omega
   subst ej;have:S.length=d:=by simpa using h
   subst this;have:cQ SG (go ls.length)= []:=by
    unfold cQ;rw[List.filterMap_eq_nil_iff]
    intro c _;rw[r3 _ c (au _)];rfl
   rw[this];erw[d1]
 refine gD _ (λi acc S'=>Ext S1 S'/\∃ms:List Nat,acc=ms.map .loc/\ms.length=i/\∀(j d:Nat),ms[j]?=some d->S'[d]?=some (SO.dU (SG.map λc=>(.str [c],aQ (gN ls.length go j c))))) (λi acc S' hi h9=>by let#[x,ms,e1,e2,_]:=h9;exact#[x.get g1,by rw[e1];simp at hi ⊢;omega]) (λi u acc S' k hu hi hk=>?_) (λacc S' hI=>?_) #[.refl,[],rfl,rfl,by simp]
 .let#[x,ms,rfl,e2,inv]:=hi
  let#[d,hd,rfl]:=fw hu;rw[if_pos rfl]
  rwa[Q3 (x.get (rd i d hd)) λm S2 x2 g2=>hk _ _ #[x.trans x2,ms++[m],by rw[aH];rfl,by simp[e2],λj d hj=>?_]]
  by_cases hlt:j<ms.length
  .rw[ai hlt] at hj
   erw[x2.get (inv j d hj)]
  .have:=(af.mp hj).1
   have ej:j=ms.length:=by simp at this;omega
   subst ej;have:m=d:=by simpa using hj
   rw[<-this,e2]
   erw[g2]
 .let#[x,ms,rfl,e2,inv]:=hI
  have e2:ms.length=ls.length+1:=by simpa using e2
  erw[q _ _ ms ((x1.trans x).trans (Ext.app _)) e2 #[by simp,λj d h=>(Ext.app _).get (inv j d h)]]
noncomputable def pk(b:List Nat)(g:Nat->Nat->Nat)(sg:List Nat)(N:Nat):List (Nat×List Nat):=(cq N).map λj=>(b.getD j 0,sg.map λc=>b.getD (g j c) 0)
theorem sv{b:List Nat}{j:Nat}{r:U->Prop}(h:j<b.length)(z:r (aQ (b.getD j 0))):opt (sS (b.map aQ) ((j:Nat):Int)) r:=by
 rw[kg,aD,ab h]
 rw[aW,ab h] at z;erw[z]
theorem Q4{Γ:b8}{S:bD}{nb nr ns m d:Nat}{b sg:List Nat}{f:Nat->Nat}{x4:U}{k:KU}{E:KX}(hb:S[nb]?=some (.lst (b.map aQ)))(hs:S[ns]?=some (.lst (sg.map λc=>.str [c])))(hd:S[d]?=some (.dU (SG.map λc=>(.str [c],aQ (f c)))))(sl:sg.length<=95)(hg:∀c∈sg,c∈SG/\f c<b.length)
  (q:∀m S',Ext S S'->S'[m]?=some (.lst ((sg.map λc=>b.getD (f c) 0).map aQ))->k (.loc m) S'):WE Γ Yh [some (.loc nb),some (.loc nr),some (.loc ns),some (.loc m),some x4,some (.loc d)] S k E:=by
 unfold Yh;room;rw[hs,aC]
 rwa[jT (S:=S) _ ((sg.map λc=>b.getD (f c) 0).map aQ) (by simp) (by simp;omega) (λS' x=>x.get hs) (λu S' k h=>h) (λj u v hu hv S2 k x' hk=>?_) λS2 x'=>?_]
 .let#[c,hc,rfl]:=fw hu
  rw[aD,aD,hc] at hv;have hv:aQ (b.getD (f c) 0)=v:=by simpa using hv
  subst hv;let#[h1,h2]:=hg c (ak hc);rw[x'.get hd,kG,vF h1,bB]
  refine#[rfl,?_];show getL S2[nb]? _;rw[x'.get hb,aC]
  erw[sv h2 (hk S2 .refl)]
 .erw[q _ _ (x'.trans (Ext.app _)) (by simp)]
def NM:Spec:=λus S Q _=>∃nb nr ns ls b sg g,us=[.loc nb,.loc nr,.loc ns]/\S[nb]?=some (.lst (b.map aQ))/\Rw S nr ls g/\S[ns]?=some (.lst (sg.map λc=>.str [c]))/\ls.length<=9000/\b.length=ls.length/\sg.length<=95/\(∀c∈sg,c∈SG/\∀j,j<ls.length->g j c<ls.length) /\
 ∀m S',Ext S S'->S.length<=m->S'[m]?=some (.lst ((k6 [] (pk b g sg ls.length)).map aQ))->Q (.loc m) S'
theorem Q5(Γ:b8)(h1:Γ "numbered"=Jv):Keeps Γ qO 3 NM:=by
 rintro us S Q E ⟨nb,nr,ns,ls,b,sg,g,rfl,hb,R,hs,hl,bl,sl,hg,q⟩;unfold qO;room;refine#[by simp,?_];room;have x0:Ext S (S++[SO.lst []]):=Ext.app _;rw[x0.get R.l,aC]
 rwa[dO (λi env S1=>∃(x4 x5:Option U),env=[some (.loc nb),some (.loc nr),some (.loc ns),some (.loc S.length),x4,x5]/\Ext S S1/\S1[S.length]?=some (.lst ((pk b g sg i).map Jq))/\i<=ls.length) (λi env S1 h9=>by let#[_,_,_,x,_]:=h9;erw[x.get R.l]) _ ?_ ?_ #[none,none,rfl,x0,by simp[pk],∅]]
 .rintro i u env S1 K hu ⟨x4,x5,rfl,x1,g1,il⟩ hK
  dsimp[eY,aD,oA] at hu;let#[d,hd,rfl]:=ar.mp hu;have hi:=(af.mp hd).1;dsimp[cK];room;rw[g1,x1.get hb]
  dsimp[aC];refine#[trivial,sv ∅ ?_];rwa[Q4 (x1.get hb) (x1.get hs) (x1.get (R.d i d hd)) sl (λc hc=>#[(hg c hc).1,by rw[bl];exact(hg c hc).2 i hi]) λm S2 x2 g2=>?_]
  room;rw[g2,aC]
  refine#[by simp,?_];rw[x2.get g1,aC]
  refine#[by simp[pk];omega,?_];room;have x12:=x1.trans x2;rwa[hK _ _ #[_,_,rfl,(x12.st ∅),?_,hi]];rw[gs (x2.get g1)]
  unfold pk;rw[List.range_succ,aH,aH]
  rfl
 .rintro env S1 ⟨x4,x5,rfl,x1,g1,il⟩
  rw[k8,ag] at g1;room;erw[ca h1 #[_,rfl,.inr #[_,_,rfl,g1,by simp[pk];omega,λm S2 x2 ml g2=>q m S2 (x1.trans x2) (aI x1.1 ml) g2]]]
def Eqv(told:List (Option Nat))(g:Nat->Nat->Nat):Nat->Nat->Nat->Prop
 |0,i,j=>told[i]?=told[j]?
 |k+1,i,j=>Eqv told g k i j/\∀c∈SG,Eqv told g k (g i c) (g j c)
structure FY(told:List (Option Nat))(g:Nat->Nat->Nat)(k:Nat)(b:List Nat):Prop where
 len:b.length=told.length
 fx:k6 [] b=b
 iff:∀i j,i<told.length->j<told.length->(b.getD i 0=b.getD j 0↔Eqv told g k i j)
theorem gd{b:List Nat}{i:Nat}(h:i<b.length):b[i]?=some (b.getD i 0):=by
 rw[aW,ab h];rfl
theorem Jy{a b:List Nat}{i j:Nat}(hi:i<b.length)(hj:j<b.length):b.getD i 0=b.getD j 0↔b[i]?=b[j]?:=by
 rw[gd hi,gd hj];simp
theorem Vm{told:List (Option Nat)}{g:Nat->Nat->Nat}:FY told g 0 (k6 [] told):=by
 refine#[lG told [],DN told,λi j hi hj=>?_];rw[Jy (a:=[]) (by rw[lG];erw[hi]) (by rw[lG];erw[hj]),ua (ab hi) (ab hj)]
 unfold Eqv;rw[ab hi,ab hj]
 simp
theorem NN(h:i<N):(pk b g sg N)[i]?=some (b.getD i 0,sg.map λc=>b.getD (g i c) 0):=by
 unfold pk;rw[aD,iB h];rfl
theorem Vn{told:List (Option Nat)}{g:Nat->Nat->Nat}{k:Nat}{b sg:List Nat}(h:FY told g k b)(hc:∀j c,j<told.length->c∈SG->g j c<told.length)(h1:∀c∈sg,c∈SG)(h2:∀c∈SG,∃c'∈sg,∀j,j<told.length->g j c'=g j c):FY told g (k+1) (k6 [] (pk b g sg told.length)):=by
 have l1:(k6 [] (pk b g sg told.length)).length=told.length:=by rw[lG];simp[pk]
 refine#[l1,DN _,λi j hi hj=>?_];rw[Jy (a:=[]) ∅ ∅,ua (NN hi) (NN hj),Prod.mk.injEq,h.iff i j hi hj]
 show _↔Eqv told g k i j/\∀c∈SG,Eqv told g k (g i c) (g j c)
 rwa[and_congr_right λ_=>?_]
 rw[sM]
 constructor
 .intro z c hcm
  let#[c',m',e']:=h2 c hcm;rw[<-e' i hi,<-e' j hj]
  exact(h.iff _ _ (hc i c' hi (h1 c' m')) (hc j c' hj (h1 c' m'))).mp (z c' m')
 .intro z c hcm
  exact(h.iff _ _ (hc i c hi (h1 c hcm)) (hc j c hj (h1 c hcm))).mpr (z c (h1 c hcm))
theorem DO{told:List (Option Nat)}{g:Nat->Nat->Nat}{k m:Nat}{b:List Nat}(h:FY told g k b)(h1:m∈b)(h2:∀j∈b,j<=m):m+1=(sn [] b).length:=by
 have:=h.fx;rw[<-this] at h1 h2;erw[MR h1 h2]
theorem Q6{told:List (Option Nat)}{g:Nat->Nat->Nat}{k:Nat}{a b:List Nat}(ha:FY told g (k+1) a)(hb:FY told g k b):(sn [] b).length<=(sn [] a).length/\((sn [] b).length=(sn [] a).length->a=b):=by
 have h:∀(i j:Nat)(x y u v:Nat),a[i]?=some x->a[j]?=some y->b[i]?=some u->b[j]?=some v->x=y->u=v:=by
  intro i j x y u v e1 e2 e3 e4 e;have l1:=(af.mp e1).1;have l2:=(af.mp e2).1;have la:=ha.len;have lb:=hb.len;have z:=(ha.iff i j ∅ ∅).mp (by rw[aW,aW,e1,e2,e]);have:=(hb.iff i j ∅ ∅).mpr z.1;rw[aW,aW,e3,e4] at this;erw[this]
 have l:a.length=b.length:=by rw[ha.len,hb.len]
 refine#[Cw l h,λe=>?_];have:=DM l h e;rw[ha.fx,hb.fx] at this;erw[this]
theorem DP{S:bD}{n:Nat}{b:List Nat}{Q:KU}(h:S[n]?=some (.lst (b.map aQ)))(b0:0<b.length)(q:∀m∈b,(∀j∈b,j<=m)->Q (aQ m) S):r6 .max [.loc n] S Q:=by
 cases b with
 |nil=>simp at b0
 |cons x b=>
  refine#[(x:Int),b.map λ(n:Nat)=>(n:Int),by rw[h];simp,λm hm hj=>?_];have e:((x:Int)::b.map λ(n:Nat)=>(n:Int))=(x::b).map λ(n:Nat)=>(n:Int):=rfl
  rw[e] at hm hj;let#[y,hy,rfl]:=de.mp hm;rwa[q y hy λj m=>?_]
  have:=hj _ (de.mpr #[j,m,rfl]);omega
theorem ue{α:Type}{l:List α}{x:α}:sS (l++[x]) (-1)=some x:=by
 unfold sS Nn;rw[if_neg ∅,if_pos (by simp;omega)]
 have:((-1:Int)+((l++[x]).length:Nat)).toNat=l.length:=by rw[aj];simp;omega
 rw[this];simp
structure Jz(told:List (Option Nat))(g:Nat->Nat->Nat)(S:bD)(fs:List Nat):Prop where
 r:∀(k n:Nat),fs[k]?=some n->∃b,S[n]?=some (.lst (b.map aQ))/\FY told g k b
 ne:fs≠[]
 st:∀i j,i<told.length->j<told.length->Eqv told g (fs.length-1) i j->Eqv told g fs.length i j
 le:fs.length<=told.length+1
def JA:Spec:=λus S Q _=>∃nr ls g told,us=[.tup (told.map uN),.loc nr]/\Rw S nr ls g/\told.length=ls.length/\0<ls.length/\ls.length<=9000/\(∀j c,j<told.length->c∈SG->g j c<told.length)/\∀F fs S',Ext S S'->S'[F]?=some (.lst (fs.map .loc))->Jz told g S' fs->Q (.loc F) S'
structure Vo(told:List (Option Nat))(g:Nat->Nat->Nat)(L:Nat)(S3:bD)(fs:List Nat)(m:Nat)(b:List Nat):Prop where
 f:S3[L]?=some (.lst ((fs++[m]).map .loc))
 v:S3[m]?=some (.lst (b.map aQ))
 r:FY told g fs.length b
 a:∀(k n:Nat),(fs++[m])[k]?=some n->n≠L/\∃b,S3[n]?=some (.lst (b.map aQ))/\FY told g k b
 l:fs.length<=(sn [] b).length/\(sn [] b).length<=told.length
theorem Vo.push{told:List (Option Nat)}{g:Nat->Nat->Nat}{L m m':Nat}{S3 S4:bD}{fs b a':List Nat}(a:Vo told g L S3 fs m b)(x:Ext S3 S4)(ml:S3.length<=m')(g4:S4[m']?=some (.lst (a'.map aQ)))(ra:FY told g (fs.length+1) a')(lt:(sn [] b).length<(sn [] a').length):Vo told g L (S4.set L (.lst ((fs++[m]).map .loc++[.loc m']))) (fs++[m]) m' a':=by
 have ne:m'≠L:=cx (aq (aX a.f) ml);have gs':∀n o,n≠L->S4[n]?=some o->(S4.set L (.lst ((fs++[m]).map .loc++[.loc m'])))[n]?=some o:=λn o ne e=>by rw[ah (bZ ne)];erw[e]
 have le:(fs++[m]).length=fs.length+1:=by simp
 have sl:=vD a' [];refine#[by rw[gs (x.get a.f)];simp,gs' _ _ ne g4,by rw[le];erw[ra],λk n e=>?_,by rw[le];erw[lI a.l.1 lt],?_]
 .by_cases hk:k<(fs++[m]).length
  .rw[ai hk] at e
   let#[ne,b',e1,e2]:=a.a k n e;exact#[ne,b',gs' _ _ ne (x.get e1),e2]
  .have:=aX e
   rw[aj] at this;have ek:k=(fs++[m]).length:=Nat.le_antisymm (Nat.le_of_lt_succ this) (m7 hk);subst ek;have:m'=n:=by simpa using e
   subst this;exact#[ne,a',gs' _ _ ne g4,by rw[le];erw[ra]]
 .rw[ra.len] at sl;simpa using sl
theorem Vp(Γ:b8)(h1:Γ "telling_signs"=NL)(h2:Γ "numbered"=Jv)(h3:Γ "parted"=NM):Keeps Γ qN 3 JA:=by
 rintro us S Q E ⟨nr,ls,g,told,rfl,R,tl,l0,hl,hg,q⟩;unfold qN;room;rwa[ca h1 #[nr,ls,g,rfl,R,hl,λns S1 sg x1 nsl g1 sl s1 s2=>?_]];rw[<-tl] at s2 hl l0;room;rwa[ca h2 #[_,rfl,.inl #[told,rfl,hl,λn0 S2 x2 nl2 g2=>#[by simp,?_]]]];have x12:=x1.trans x2;have gs2:=x2.get g1;room;have r0:FY told g 0 (k6 [] told):=Vm;have sn0:=vD (k6 [] told) [];rw[lG] at sn0;have I0:Vo told g S2.length (S2++[SO.lst [U.loc n0]]) [] n0 (k6 [] told):=#[by simp,(Ext.app _).get g2,r0,λk n e=>?_,bP _,by simpa using sn0]
 .refine#[told.length+1,mS (λN env S3=>∃(fs:List Nat)(m:Nat)(b:List Nat)(x4:Option U),N=told.length-(sn [] b).length/\env=[some (.tup (told.map uN)),some (.loc nr),some (.loc ns),some (.loc S2.length),x4]/\Ext S2 S3/\Vo told g S2.length S3 fs m b) ?_ _ (told.length-(sn [] (k6 [] told)).length) _ _ (Nat.lt_succ_of_le (Nat.sub_le _ _)) #[[],n0,_,none,rfl,rfl,Ext.app _,I0]]
  rintro N env S3 K ⟨fs,m,b,x4,rfl,rfl,x3,I⟩ hK;let#[g3,gm,rb,inv,fl,snl]:=id I;room;rw[g3,aC,aH]
  rw[show [m].map U.loc=[.loc m] from rfl,ue,bB]
  refine ca h3 #[m,nr,ns,ls,b,sg,g,rfl,gm,R.ext (x12.trans x3),x3.get gs2,tl▸hl,by rw[rb.len,tl],sl,λc hc=>#[s1 c hc,λj hj=>by rw[<-tl] at hj ⊢;erw[hg j c hj (s1 c hc)]],λm' S4 x4 ml' g4=>?_];rw[<-tl] at g4;have ra:=Vn rb hg s1 s2;generalize k6 [] (pk b g sg told.length)=a at g4 ra;let#[le,eqn]:=Q6 ra rb;room;rwa[DP g4 (ra.len▸l0) λma h1a h2a=>?_]
  have ea:=DO ra h1a h2a;rw[x4.get g3,aC,aH,show [m].map U.loc=[.loc m] from rfl,ue,bB]
  rwa[DP (x4.get gm) (rb.len▸l0) λmb h1b h2b=>?_]
  have eb:=DO rb h1b h2b;room;by_cases z:ma=mb
  .have:((ma:Int)== (mb:Int))=true:=by rw[beq_iff_eq,z]
   dsimp[this,if_true];have e:=eqn (by rw[<-ea,<-eb,z]);subst e;room;rwa[q _ (fs++[m]) S4 ((x12.trans x3).trans x4) (x4.get g3) #[λk n e=>?_,by simp,λi j hi hj h=>?_,by rw[aj];erw[m9 (aI fl snl)]]]
   .let#[_,b,e1,e2]:=inv k n e
    exact#[b,x4.get e1,e2]
   .rw[aj] at h ⊢
    exact(ra.iff i j hi hj).mp ((rb.iff i j hi hj).mpr h)
  .have:((ma:Int)== (mb:Int))=false:=by rw[beq_eq_false_iff_ne];erw[λy=>z (oB y)]
   dsimp[this,av,if_false];room;rw[x4.get g3,aC]
   have lt:(sn [] b).length<(sn [] a).length:=Gi le λy=>z (by rw[<-ea,<-eb] at y;exact(l9 y).symm)
   have I4:=I.push x4 ml' g4 ra lt;refine#[trivial,by rw[ag,aj];exact lI (m9 (aI fl (aI snl hl))) ⋯,?_];try room
   have x34:=x3.trans x4;erw[hK (told.length-(sn [] a).length) _ _ (Nat.sub_lt_sub_left (aq lt I4.l.2) lt) #[fs++[m],m',a,_,rfl,rfl,#[by rw[cg];exact x34.1,λn hn=>by rw[ah (cx hn)];exact x34.2 n hn],I4]]
 .have:=aX e
  have ek:k=0:=by simp at this;erw[this]
  subst ek;have:n0=n:=by simpa using e
  subst this;exact#[a9 (aX g2),_,(Ext.app _).get g2,r0]
noncomputable def Ke(k:Nat)(told:List (Option Nat))(R:Nat):SO:=.ins "Table" [("takes",.loc k),("told",.tup (told.map uN)),("rows",.loc R)]
structure JB(S:bD)(T:Nat)(told:List (Option Nat))(ls:List Nat)(go:Nat->Nat->Option Nat):Prop where
 o:∃k R,S[T]?=some (Ke k told R)/\S[k]?=some (.lst (told.map uN))/\Rp S R ls go
 ll:ls.length=told.length
 sz:told.length<=4000
 cl:∀j c k,c∈SG->go j c=some k->k<told.length
theorem JB.ext(h:JB S T told ls go)(x:Ext S S'):JB S' T told ls go:=by
 let#[k,R,h1,h2,h3]:=h.o;exact#[#[k,R,x.get h1,x.get h2,h3.ext x],h.ll,h.sz,h.cl]
def MS:Spec:=λus S Q _=>∃T a R told,us=[.loc T,.loc a,.loc R]/\S[T]?=some (.ins "Table" [])/\S[a]?=some (.lst (told.map uN))/\∀k S',Old T S S'->S'[T]?=some (Ke k told R)->S'[k]?=some (.lst (told.map uN))->Q .bQ S'
theorem Vq(Γ:b8):Keeps Γ ko 0 MS:=by
 rintro us S Q E ⟨T,a,R,told,rfl,hT,ha,q⟩;unfold ko;have ne:a≠T:=λz=>by rw[z,hT] at ha;cases ha
 room;rw[ha,aC]
 have x1:Ext S (S++[SO.lst (told.map uN)]):=Ext.app _;have g1:(S++[SO.lst (told.map uN)])[S.length]?=some (.lst (told.map uN)):=by simp
 have n1:S.length≠T:=cx (aX hT);generalize S.length=k at g1 n1;generalize S++[SO.lst (told.map uN)]=S1 at x1 g1;rwa[Fj (x1.get hT) (by simp) λS2 o2 l2 g2=>?_]
 room;rw[nv o2 (x1.get ha) ne,aC]
 rwa[Fj g2 (by simp[gQ]) λS3 o3 l3 g3=>?_]
 room;rwa[Fj g3 (by simp[gQ]) λS4 o4 l4 g4=>?_]
 room;erw[q k S4 (((Ext.old x1).trans o2).trans (o3.trans o4)) g4 (nv o4 (nv o3 (nv o2 g1 n1) n1) n1)]
def Vr:Spec:=λus S Q _=>∃T told ls go j c,us=[.loc T,aQ j,.str [c]]/\JB S T told ls go/\j<told.length/\c∈SG/\Q (uN (go j c)) S
theorem JC(h:S[T]?=some (Ke k told R)):og (.loc T) "rows" S r=r (.loc R):=by rw[iQ,h];rfl
theorem Ft(h:S[T]?=some (Ke k told R)):og (.loc T) "told" S r=r (.tup (told.map uN)):=by rw[iQ,h];rfl
theorem at_of{α:Type}{f:α->U}{l:List α}{j:Nat}{a:α}{r:U->Prop}(h:l[j]?=some a)(z:r (f a)):opt (sS (l.map f) ((j:Nat):Int)) r:=by
 rw[kg,aD,h];erw[z]
theorem Vs(Γ:b8):Keeps Γ kq 0 Vr:=by
 rintro us S Q E ⟨T,told,ls,go,j,c,rfl,h,hj,hc,q⟩;unfold kq;let#[k,R,h1,h2,h3]:=h.o;have hl:=h.ll;room;rw[JC h1]
 room;rw[h3.l,aC]
 have hd:=ab (show j<ls.length by omega);have dd:=h3.d j _ hd;rwa[at_of hd ?_];refine#[by show iy S[_]? _;rw[dd];trivial,?_];show iy S[_]? _;rw[dd]
 refine#[rfl,?_];rw[AF,su,if_pos hc]
 cases e:go j c<;>rw[e] at q<;>exact q
noncomputable def uw(go:Nat->Nat->Option Nat)(x:List Nat):Option Nat:=x.foldl (λs c=>s.bind λj=>go j c) (some 0)
theorem vG:uw go (x++[c])=(uw go x).bind λj=>go j c:=by unfold uw;rw[dm];rfl
theorem JD(h:uw go (x.take k)=none):uw go x=none:=by
 have:∀y:List Nat,y.foldl (λs c=>s.bind λj=>go j c) (none:Option Nat)=none:=λy=>by
  induction y with
  |nil=>rfl
  |cons a y ih=>erw[ih]
 rw[<-Bk k x]
 unfold uw at h ⊢;rw[dm,h,this]
theorem JE(h:JB S T told ls go)(h0:0<told.length):∀(x:List Nat),(∀c∈x,c∈SG)->uw go x=some j->j<told.length:=by
 intro x hx e;rcases gg x with rfl|⟨y,c,rfl⟩
 .have:0=j:=by simpa[uw] using e
  omega
 .rw[gh,vG] at e
  let#[i,_,e]:=ay.mp e;erw[h.cl i c j (hx c (by simp)) e]
noncomputable def fst(told:List (Option Nat))(go:Nat->Nat->Option Nat)(x:List Nat):Option Nat:=(uw go x).bind λj=>told.getD j none
def Fu:Spec:=λus S Q _=>∃T told ls go x,us=[.loc T,.str x]/\JB S T told ls go/\0<told.length/\(∀c∈x,c∈SG)/\Q (uN (fst told go x)) S
theorem Vt(Γ:b8)(h1:Γ "Table.goes"=Vr):Keeps Γ jR 2 Fu:=by
 rintro us S Q E ⟨T,told,ls,go,x,rfl,h,h0,hx,q⟩;unfold jR;let#[k,R,hT,h2,h3]:=h.o;room;rwa[dO (λi env S1=>S1=S/\∃(j:Nat)(x3:Option U),env=[some (.loc T),some (.str x),some (aQ j),x3]/\uw go (x.take i)=some j) (λ_ _ _ _=>trivial) _ ?_ ?_ #[rfl,0,none,rfl,rfl]]
 .rintro i u env S1 K hu ⟨rfl,j,x3,rfl,inv⟩ hK
  let#[c,hc,rfl]:=fw hu;have jl:=JE h h0 _ (λc m=>hx c (List.mem_of_mem_take m)) inv;have tn:uw go (x.take (i+1))=go j c:=by rw[take_snoc hc,vG,inv];rfl
  room;have hT':=hT;unfold Ke at hT';rw[hT',bN]
  refine#[#[rfl,rfl],ca h1 #[T,told,ls,go,j,c,rfl,h,jl,hx c (ak hc),?_]];room;cases e:go j c with
  |none=>
   rw[e] at tn;dsimp[uN,uW,if_true];room;unfold fst at q;rw[JD tn] at q;erw[q]
  |some j'=>
   rw[e] at tn;dsimp[uN,uW,av,if_false];room;erw[hK _ _ #[rfl,j',_,rfl,tn]]
 .rintro env S1 ⟨rfl,j,x3,rfl,inv⟩
  rw[ag,bE] at inv;have jl:=JE h h0 _ hx inv;have sz:=h.sz;room;rw[Ft hT]
  room;refine#[by simp;omega,at_of (ab jl) ?_];unfold fst at q;rw[inv] at q;have:told.getD j none=told[j]:=by rw[aW,ab jl];rfl
  rw[FP,this] at q;erw[q]
theorem DQ{S S':bD}{o:SO}(h:Old S.length (S++[o]) S'):Ext S S':=by
 have l:=h.1;rw[aj] at l;exact#[aI (ng _ _) l,λn hn=>by rw[h.2 n (by rw[aj];erw[aq hn (ng _ _)]) (a9 hn),ai hn]]
section
variable{tk:Nat->Nat}{Ls G:List Nat}{r h c:Nat}
noncomputable def gz(tk:Nat->Nat)(Ls:List Nat)(r c:Nat):Option Nat:=if r&&&tk c=0 then none else some (Ls.idxOf (r&&&tk c))
theorem Q7(z:r&&&tk c=0\/r&&&tk c∈Ls):gz tk (Ls++[h]) r c=gz tk Ls r c:=by
 unfold gz;rcases z with z|z
 .rw[if_pos z,if_pos z]
 .rw[oX z]
theorem AG(z:∀c∈G,r&&&tk c=0\/r&&&tk c∈Ls):cQ G (gz tk (Ls++[h]) r)=cQ G (gz tk Ls r):=by
 unfold cQ;induction G with
 |nil=>rfl
 |cons x G ih=>rw[b9,b9,Q7 (z x (aS ..)),ih λc m=>z c (aB _ m)]
theorem MT(e:f c=none):cQ (G++[c]) f=cQ G f:=by
 unfold cQ;rw[Bm];simp[e]
theorem MU(e:f c=some k):sD (cQ (G++[c]) f)=sD (cQ G f)++[(.str [c],aQ k)]:=by
 unfold cQ sD;rw[Bm,aH];simp[e]
noncomputable def nz(Ls:List Nat):List (U×U):=(dz Ls 0).map λp=>(aQ p.1,p.2)
theorem Q8:(nz Ls).length=Ls.length:=by unfold nz;rw[ag,yN]
theorem Q9:nz (Ls++[h])=nz Ls++[(aQ h,aQ Ls.length)]:=by unfold nz;rw[Jn,aH,kZ];rfl
theorem yP:tU (aQ h) (nz Ls)=if h∈Ls then some (aQ (Ls.idxOf h)) else none:=by
 have e:nz Ls=((dz Ls 0).map λp=>(some p.1,p.2)).map λp=>(uN p.1,p.2):=by unfold nz;rw[bx];rfl
 have:=Jo (some h) ((dz Ls 0).map λp=>(some p.1,p.2));rw[e,show aQ h=uN (some h) from rfl,this,Jl some (λ_ _=>aJ),yO,kZ]
end
structure AH(S S1:bD)(tk:Nat->Nat)(Ls rs ds:List Nat):Prop where
 x:Ext S S1
 l:S1[S.length]?=some (.lst (Ls.map aQ))
 n:S1[S.length+1]?=some (.dU (nz Ls))
 r:S1[S.length+2]?=some (.lst (ds.map .loc))
 d:∀(j d r:Nat),ds[j]?=some d->rs[j]?=some r->S.length+3<=d/\S1[d]?=some (.dU (sD (cQ SG (gz tk Ls r))))
 m:∀r∈rs,∀c∈SG,r&&&tk c=0\/r&&&tk c∈Ls
 nd:Ls.Nodup
theorem AH.set(h:AH S S1 tk Ls rs ds)(hd:S.length+3<=d0)(hn:∀(j r:Nat),rs[j]?=some r->ds[j]?≠some d0):AH S (S1.set d0 o) tk Ls rs ds:=by
 have e:∀(n:Nat)(o':SO),n≠d0->S1[n]?=some o'->(S1.set d0 o)[n]?=some o':=λn o' ne g=>by rw[ah (bZ ne)];erw[g]
 exact#[#[by rw[cg];erw[h.x.1],λn hn=>by rw[ah ∅];erw[h.x.2 n hn]],e _ _ ∅ h.l,e _ _ ∅ h.n,e _ _ ∅ h.r,λj d r h1 h2=>#[(h.d j d r h1 h2).1,e _ _ (λz=>hn j r h2 (z▸h1)) (h.d j d r h1 h2).2],h.m,h.nd]
theorem AH.ext(h:AH S S1 tk Ls rs ds)(x:Ext S1 S2):AH S S2 tk Ls rs ds:=
 #[h.x.trans x,x.get h.l,x.get h.n,x.get h.r,λj d r h1 h2=>#[(h.d j d r h1 h2).1,x.get (h.d j d r h1 h2).2],h.m,h.nd]
theorem AH.more(a:AH S S1 tk Ls rs ds)(hn:h∉Ls):AH S ((S1.set (S.length+1) (.dU (nz Ls++[(aQ h,aQ Ls.length)]))).set S.length (.lst (Ls.map aQ++[aQ h]))) tk (Ls++[h]) rs ds:=by
 have e:∀(n:Nat)(o o1 o2:SO),n≠S.length->n≠S.length+1->S1[n]?=some o->((S1.set (S.length+1) o1).set S.length o2)[n]?=some o:=λn o o1 o2 n1 n2 g=>by rw[ah (bZ n1),ah (bZ n2)];erw[g]
 have l1:=aX a.n;refine#[#[by rw[cg,cg];erw[a.x.1],λn hn=>by rw[ah ∅,ah ∅];erw[a.x.2 n hn]],?_,?_,e _ _ _ _ ∅ ∅ a.r,λj d r h1 h2=>?_,λr m c hc=>?_,?_]
 .rw[bg (by rw[cg];omega)];simp
 .rw[ah ∅,bg l1,Q9]
 .let#[z1,z2]:=a.d j d r h1 h2
  exact#[z1,by rw[AG (a.m r (ak h2))];erw[e _ _ _ _ ∅ ∅ z2]]
 .rcases a.m r m c hc with z|z
  .erw[.inl z]
  .erw[.inr (by simp[z])]
 .rw[eV]
  exact#[a.nd,by simp,λx hx y hy=>by rw[b7.mp hy];erw[λz=>hn (z▸hx)]]
theorem Cy:SG.Nodup:=⋯
theorem Vu(Γ:b8)(pa:I8 S P bh en tk)(I:AH S S1 tk Ls rs ds)(g0:S1[d0]?=some (.dU (sD (cQ (SG.take m) (gz tk Ls r)))))(hd0:S.length+3<=d0)(hds:∀(j r:Nat),rs[j]?=some r->ds[j]?≠some d0)(hc:SG[m]?=some c)(hm:∀c∈SG.take m,r&&&tk c=0\/r&&&tk c∈Ls)(lt:Ls.length<=4000)
  (q:∀Ls' S2,AH S S2 tk Ls' rs ds->S2[d0]?=some (.dU (sD (cQ (SG.take (m+1)) (gz tk Ls' r))))->(∀c∈SG.take (m+1),r&&&tk c=0\/r&&&tk c∈Ls')->(Ls'=Ls\/Ls'=Ls++[r&&&tk c])->K [some (.loc P),some (.loc S.length),some (.loc (S.length+1)),some (.loc (S.length+2)),some (aQ r),some (.loc d0),some (.str [c]),some (aQ (r&&&tk c))] S2):
  Rest Γ Yb #[K,Q,E] [some (.loc P),some (.loc S.length),some (.loc (S.length+1)),some (.loc (S.length+2)),some (aQ r),some (.loc d0),some (.str [c]),x7] S1:=by
 let#[b,e,k,oP,_,_,gk]:=(pa.ext I.x).o;have fk:∀{R},og (.loc P) "takers" S1 R=R (.loc k):=by intro R;rw[iQ,oP];rfl
 have cm:=ak hc;have et:=IV hc;have nm:c∉SG.take m:=λz=>by
  let#[i,hi]:=bL z;have il:=(af.mp hi).1;rw[cu] at il;rw[yX ∅] at hi;have:=(List.getElem?_inj ∅ Cy).mp (hi.trans hc.symm);omega
 rw[et] at q;have rl:(sD (cQ (SG.take m) (gz tk Ls r))).length<1000000:=by
  have:(cQ (SG.take m) (gz tk Ls r)).length<=(SG.take m).length:=List.length_filterMap_le ..;rw[cu] at this;have gl:SG.length=95:=rfl;unfold sD;rw[ag];omega
 have dn:∀f:Nat->Option Nat,tU (.str [c]) (sD (cQ (SG.take m) f))=none:=λf=>by rw[AF,su,if_neg nm]
 unfold Yb;room;rw[fk]
 room;rw[gk,kG,vF cm,bB]
 refine#[rfl,?_];rw[tW]
 generalize hh:r&&&tk c=h at *;have go2:∀(Ls':List Nat)(S2:bD),AH S S2 tk Ls' rs ds->S2[d0]?=some (.dU (sD (cQ (SG.take m) (gz tk Ls' r))))->sD (cQ (SG.take m) (gz tk Ls' r))=sD (cQ (SG.take m) (gz tk Ls r))->(∀c∈SG.take m,r&&&tk c=0\/r&&&tk c∈Ls')->(Ls'=Ls\/Ls'=Ls++[h])->h≠0->h∈Ls'->Rest Γ Wo #[K,Q,E] [some (.loc P),some (.loc S.length),some (.loc (S.length+1)),some (.loc (S.length+2)),some (aQ r),some (.loc d0),some (.str [c]),some (aQ h)] S2:=by
  intro Ls' S2 I2 g2 e2 m2 l2 h0 hl;have:((h:Int)== 0)=false:=by rw[beq_eq_false_iff_ne];omega
  unfold Wo;room;dsimp[this,cj,if_true];room;rw[I2.n,kG,yP,if_pos hl,bB]
  refine#[rfl,?_];rw[g2,getD_some]
  refine#[#[rfl,dn _,by rw[e2];erw[rl]],?_];room;rwa[q Ls' _ (I2.set hd0 hds) ?_ (λc' hc'=>?_) l2]
  .rw[gs g2,MU (k:=Ls'.idxOf h) (by unfold gz;rw[hh,if_neg h0])]
  .rcases aR.mp hc' with z|z
   .erw[m2 c' z]
   .have:c'=c:=by simpa using z
    subst this;erw[.inr (by rw[hh];exact hl)]
 room;by_cases z:h=0
 .subst z
  have z0:(((0:Nat):Int)== 0)=true:=rfl;dsimp[z0,bJ,av,if_false];unfold Wo;room;rwa[q Ls _ I (by rw[MT (by unfold gz;rw[hh,if_pos rfl])];erw[g0]) (λc' hc'=>?_) (.inl rfl)];rcases aR.mp hc' with z|z
  .erw[hm c' z]
  .have:c'=c:=by simpa using z
   subst this;erw[.inl hh]
 .have z':((h:Int)== 0)=false:=by rw[beq_eq_false_iff_ne];omega
  dsimp[z',cj,if_true];rw[I.n,kG,yP]
  refine#[rfl,?_];by_cases y:h∈Ls
  .rw[if_pos y]
   dsimp[Option.isNone_some,av,if_false];erw[Rest.go (go2 Ls S1 I g0 rfl hm (.inl rfl) z y)]
  .rw[if_neg y]
   dsimp[Option.isNone_none,if_true];room;rw[lu I.l,bB,ag]
   refine#[∅,?_];rw[I.n,getD_some]
   refine#[#[rfl,by rw[yP,if_neg y],by rw[Q8];omega],?_];have l1:(S1.set (S.length+1) (.dU (nz Ls++[(aQ h,aQ Ls.length)])))[S.length]?=some (.lst (Ls.map aQ)):=by rw[ah ∅];erw[I.l]
   room;rw[l1,aC]
   refine#[trivial,by simp;omega,?_];have eq:=AG (h:=h) hm;rwa[Rest.go (go2 (Ls++[h]) _ (I.more y) ?_ (by rw[eq]) (λc' m'=>(hm c' m').imp id λz=>by simp[z]) (.inr rfl) z (by simp))];rw[eq,ah ∅,ah ∅]
   erw[g0]
theorem AH.push{S S1:bD}{tk:Nat->Nat}{Ls rs ds:List Nat}{d0 r:Nat}(a:AH S S1 tk Ls rs ds)(g0:S1[d0]?=some (.dU (sD (cQ SG (gz tk Ls r)))))(hd:S.length+3<=d0)(hm:∀c∈SG,r&&&tk c=0\/r&&&tk c∈Ls)(hl:ds.length=rs.length):AH S (S1.set (S.length+2) (.lst (ds.map .loc++[.loc d0]))) tk Ls (rs++[r]) (ds++[d0]):=by
 have e:∀(n:Nat)(o o':SO),n≠S.length+2->S1[n]?=some o'->(S1.set (S.length+2) o)[n]?=some o':=λn o o' ne g=>by rw[ah (bZ ne)];erw[g]
 refine#[#[by rw[cg];erw[a.x.1],λn hn=>by rw[ah ∅];erw[a.x.2 n hn]],e _ _ _ ∅ a.l,e _ _ _ ∅ a.n,by rw[gs a.r];simp,λj d r' h1 h2=>?_,λr' m=>?_,a.nd]
 .by_cases hj:j<ds.length
  .rw[ai hj] at h1
   rw[ai ∅] at h2;let#[z1,z2]:=a.d j d r' h1 h2;exact#[z1,e _ _ _ ∅ z2]
  .have:=(af.mp h1).1
   have ej:j=ds.length:=by simp at this;omega
   subst ej;have e1:d0=d:=by simpa using h1
   have e2:r=r':=by rw[hl] at h2;simpa using h2
   subst e1;subst e2;exact#[hd,e _ _ _ ∅ g0]
 .rcases aR.mp m with m|m
  .erw[a.m r' m]
  .have:r'=r:=by simpa using m
   subst this;erw[hm]
noncomputable def Fv(tk:Nat->Nat)(Ls rs:List Nat)(j c:Nat):Option Nat:=(rs[j]?).bind λr=>gz tk Ls r c
theorem Cz(h:rs[j]?=some r):Fv tk Ls rs j=gz tk Ls r:=by
 funext c;unfold Fv;rw[h];rfl
structure WD(bh en:List Nat)(tk:Nat->Nat)(lots rs:List Nat)(told:List (Option Nat)):Prop where
 z:lots[0]?=some 1
 t:∀(j h:Nat),lots[j]?=some h->∃o,told[j]?=some o/\WB h en o
 len:told.length=lots.length
 b:∀(j h:Nat),lots[j]?=some h->∃r,rs[j]?=some r/\QJ bh h r
 m:∀r∈rs,∀c∈SG,r&&&tk c=0\/r&&&tk c∈lots
structure DC(bh:List Nat)(D:Nat->Prop):Prop where
 l:bh.length<=11
 c:∀(q B p:Nat),D q->bh[q]?=some B->B.testBit p=true->D p
 b:∀p,D p->p<bh.length
def Ra:Spec:=λus S Q _=>∃P bh en tk,∃D:Nat->Prop,us=[.loc P]/\I8 S P bh en tk/\DC bh D/\D 0 /\
 ∀T told ls lots rs S',JB S' T told ls (Fv tk lots rs)->(∀d∈ls,S.length<=d)->Ext S S'->WD bh en tk lots rs told->Q (.loc T) S'
theorem mV{α:Type}{l:List α}{x y:α}{k:Nat}(h:(l++[x])[k]?=some y):l[k]?=some y\/(k=l.length/\x=y):=by
 by_cases z:k<l.length
 .rw[ai z] at h;erw[.inl h]
 .have:=aX h
  have e:k=l.length:=by simp at this;omega
  subst e;exact .inr #[rfl,by simpa using h]
structure Vv(S S1:bD)(tk:Nat->Nat)(bh:List Nat)(D:Nat->Prop)(Ls rs ds:List Nat):Prop where
 s:AH S S1 tk Ls rs ds
 dl:ds.length=rs.length
 le:ds.length<=Ls.length
 z:Ls[0]?=some 1
 d:∀h∈Ls,∀p,h.testBit p=true->D p
 b:∀(j r:Nat),rs[j]?=some r->∃h,Ls[j]?=some h/\QJ bh h r
theorem rn{bh L:List Nat}{D:Nat->Prop}(C:DC bh D)(nd:L.Nodup)(hL:∀h∈L,∀p,h.testBit p=true->D p):L.length<=2048:=by
 have:=Jg (l':=cq 2048) nd λx hx=>pq.mpr (aq (jz λp hp=>C.b p (hL x hx p hp)) (show 2^bh.length<=2048 from bp (n:=2) (j:=11) ⋯ C.l))
 simpa using this
theorem Rb(Γ:b8)(h1:Γ "Places.beyond"=Ja){S S1:bD}{P:Nat}{bh en Ls rs ds:List Nat}{tk:Nat->Nat}{D:Nat->Prop}{x4 x5 x6 x7:Option U}{K:Env->bD->Prop}{Q:KU}{E:Env->KX}(pa:I8 S P bh en tk)(C:DC bh D)(J:Vv S S1 tk bh D Ls rs ds)(dl:ds.length<Ls.length)
  (q:∀Ls rs ds' S2 x4 x5 x6 x7,Vv S S2 tk bh D Ls rs ds'->ds'.length=ds.length+1->K [some (.loc P),some (.loc S.length),some (.loc (S.length+1)),some (.loc (S.length+2)),x4,x5,x6,x7] S2):
  Rest Γ Yc #[K,Q,E] [some (.loc P),some (.loc S.length),some (.loc (S.length+1)),some (.loc (S.length+2)),x4,x5,x6,x7] S1:=by
 let#[I,hl,hle,hz,hD,hb]:=J;have hh:=ab dl;generalize Ls[ds.length]=h at hh;have lb:=rn C I.nd hD;let#[b,e,k,oP,_]:=(pa.ext I.x).o;unfold Yc;room;rw[oP,bN,I.l,lu I.r]
 dsimp[bB,aC,ag];refine#[#[trivial,rfl],∅,at_of hh ?_];refine ca h1 #[P,bh,en,tk,h,rfl,pa.ext I.x,aI C.l ⋯,λp hp=>C.b p (hD h (ak hh) p hp),λr S2 hr x2=>?_];have Dr:∀p,r.testBit p=true->D p:=λp hp=>by
  let#[q,B,z1,z2,z3]:=(hr p).mp hp;erw[C.c q B p (hD h (ak hh) q z1) z2 z3]
 room;rw[u5]
 refine#[⋯,.inl ?_];have I3:=I.ext (x2.trans (Ext.app [SO.dU []]));have g3:(S2++[SO.dU []])[S2.length]?=some (.dU (sD (cQ (SG.take 0) (gz tk Ls r)))):=by simp;rfl
 have d3:S.length+3<=S2.length:=by have:=aX I.r;have:=x2.1;omega
 have n3:∀(j r:Nat),rs[j]?=some r->ds[j]?≠some S2.length:=λj r hj z=>by
  have:=aX (I.d j _ r z hj).2;have:=x2.1;omega
 generalize S2.length=d0 at g3 d3 n3;generalize S2++[SO.dU []]=S3 at I3 g3;have sgl:SG.length=95:=rfl;have sit:∀(i:Nat)(u:U),(SG.map λc=>U.str [c])[i]?=some u->∃c,SG[i]?=some c/\u=.str [c]:=λi u hu=>by
  let#[c,hc,rfl]:=fw hu;exact#[c,hc,rfl]
 have sl:(SG.map λc=>U.str [c]).length=95:=rfl;rwa[Rest.go ?_];rw[Hy,TX,TU,w_lit,v_s]
 generalize hM:(SG.map λc=>U.str [c])=M at sit sl;rwa[dO (λm env S4=>∃(Ls':List Nat)(x6 x7:Option U),env=[some (.loc P),some (.loc S.length),some (.loc (S.length+1)),some (.loc (S.length+2)),some (aQ r),some (.loc d0),x6,x7]/\AH S S4 tk Ls' rs ds/\S4[d0]?=some (.dU (sD (cQ (SG.take m) (gz tk Ls' r))))/\(∀c∈SG.take m,r&&&tk c=0\/r&&&tk c∈Ls')/\(∃s,Ls'=Ls++s)/\∀h∈Ls',∀p,h.testBit p=true->D p) (λ_ _ _ _=>trivial) M ?_ ?_ #[Ls,x6,x7,rfl,I3,g3,by simp,#[[],by simp],hD]]
 .rintro m u env S4 K' hu ⟨Ls',x6,x7,rfl,I4,g4,m4,⟨s,es⟩,D4⟩ hK
  let#[c,hc,rfl]:=sit m u hu;rwa[Vu Γ pa I4 g4 d3 n3 hc m4 (aI (rn C I4.nd D4) ⋯) λLs2 S5 I5 g5 m5 l5=>hK _ _ #[Ls2,_,_,rfl,I5,g5,m5,?_,?_]]
  .rcases l5 with rfl|rfl
   .exact#[s,es]
   .exact#[s++[_],by rw[es,bj]]
  .rcases l5 with rfl|rfl
   .erw[D4]
   .intro h' m' p hp
    rcases aR.mp m' with m'|m'
    .erw[D4 h' m' p hp]
    .have:h'=r&&&tk c:=by simpa using m'
     subst this;rw[cG,ao] at hp;erw[Dr p hp.1]
 .rintro env S4 ⟨Ls',x6,x7,rfl,I4,g4,m4,hs,D4⟩
  have et:SG.take M.length=SG:=by rw[sl];rfl
  rw[et] at g4 m4;room;rw[I4.r,aC]
  dsimp[true_and];refine#[by simp;omega,?_];try room
  let#[s,es]:=hs;rwa[q Ls' _ _ _ _ _ _ _ #[I4.push g4 d3 m4 hl,by simp[hl],by rw[es,aj,aj];erw[aI dl (ng _ _)],by rw[es,ai (lI (bP _) dl)];erw[hz],D4,λj r' hj=>?_] (by simp)];rcases mV hj with hj|⟨rfl,rfl⟩
  .let#[h,e1,e2]:=hb j r' hj
   exact#[h,by rw[es,ai (aX e1)];erw[e1],e2]
  .exact#[h,by rw[es,<-hl,ai dl];erw[hh],hr]
theorem Rc(Γ:b8)(h2:Γ "Places.first_rule"=Jb)(h3:Γ "Table.__init__"=MS){S S1:bD}{P:Nat}{bh en Ls rs ds:List Nat}{tk:Nat->Nat}{D:Nat->Prop}{x4 x5 x6 x7:Option U}{F:Ends}(pa:I8 S P bh en tk)(C:DC bh D)(J:Vv S S1 tk bh D Ls rs ds)(el:Ls.length<=ds.length)
  (q:∀T told ls lots rs S',JB S' T told ls (Fv tk lots rs)->(∀d∈ls,S.length<=d)->Ext S S'->WD bh en tk lots rs told->F.rt (.loc T) S'):
  Rest Γ Yd F [some (.loc P),some (.loc S.length),some (.loc (S.length+1)),some (.loc (S.length+2)),x4,x5,x6,x7] S1:=by
 let#[I,hl,hle,hz,hD,inv]:=J;have lb:=rn C I.nd hD;have pa1:=pa.ext I.x;let#[b,e,k,oP,_]:=pa1.o;have rat:∀{j:Nat},j<Ls.length->rs[j]?=some (rs.getD j 0):=λ{j}h=>by rw[aW,ab (hl▸aq h el)];rfl
 unfold Yd;room;rw[I.l,aC]
 rwa[gD (Ls.map aQ) (λi acc S2=>S2=S1/\∃told:List (Option Nat),acc=told.map uN/\told.length=i/\∀(j h:Nat),j<i->Ls[j]?=some h->∃o,told[j]?=some o/\WB h en o) (λi acc S2 hi h9=>?_) (λi u acc S2 k hu hi hk=>?_) (λacc S2 hI=>?_) #[rfl,[],rfl,rfl,λj h hj=>absurd hj (dS j)]]
 .let#[x,told,e1,e2,_]:=h9
  rw[ag] at hi;exact#[x▸I.l,by rw[e1,ag];omega]
 .let#[rfl,told,rfl,e2,inv2]:=hi
  let#[h,hh,rfl]:=fw hu;rw[if_pos rfl,oP,bN]
  refine#[#[rfl,rfl],ca h2 #[P,bh,en,tk,h,rfl,pa1,λo ho=>hk _ _ #[rfl,told++[o],by simp,by simp[e2],λj h' hj hh'=>?_]]];rcases iV.mp hj with y|y
  .let#[o',z1,z2]:=inv2 j h' y hh'
   exact#[o',by rw[ai (e2▸y)];erw[z1],z2]
  .subst y
   rw[hh] at hh';cases hh';exact#[o,by rw[<-e2];simp,ho]
 .let#[rfl,told,rfl,e2,inv2]:=hI
  rw[ag] at e2 inv2;have x3:Ext S2 (S2++[SO.lst (told.map uN)]):=Ext.app _;have g3:(S2++[SO.lst (told.map uN)])[S2.length]?=some (.lst (told.map uN)):=by simp
  have I3:=I.ext x3;generalize S2.length=a at g3;generalize S2++[SO.lst (told.map uN)]=S3 at I3 g3;rwa[ca h3 #[S3.length,a,_,told,rfl,vS,(Ext.app _).get g3,λk' S4 o4 gT gk=>#[rfl,?_]]];have y4:Ext S3 S4:=DQ o4;rwa[q _ told ds Ls rs S4 #[#[k',_,gT,gk,y4.get I3.r,λj d hj=>?_,λj c hj=>?_],∅,∅,λj c k hc e=>?_] (λd m=>?_) (I3.x.trans y4) #[hz,λj h hj=>inv2 j h (aX hj) hj,e2,λj h hj=>?_,I.m]]
  .have hr:=rat (aq (aX hj) hle)
   rw[Cz hr]
   erw[y4.get (I3.d j d _ hj hr).2]
  .unfold Fv;rw[dD (hl▸hj)];rfl
  .unfold Fv at e
   let#[r,hr,e]:=ay.mp e;unfold gz at e;split at e
   .cases e
   .rename_i z
    cases e;rw[e2]
    erw[cD ((I.m r (ak hr) c hc).resolve_left z)]
  .let#[j,hj]:=bL m
   erw[aI (ng _ 3) (I.d j d _ hj (rat (aq (aX hj) hle))).1]
  .have hr:=rat (aX hj)
   let#[h',e1,e2]:=inv j _ hr;rw[hj] at e1;cases e1;exact#[_,hr,e2]
theorem Vw(Γ:b8)(h1:Γ "Places.beyond"=Ja)(h2:Γ "Places.first_rule"=Jb)(h3:Γ "Table.__init__"=MS):Keeps Γ qM 7 Ra:=by
 rintro us S Q E ⟨P,bh,en,tk,D,rfl,pa,C,D0,q⟩;unfold qM;room;refine#[by simp,?_];room;rw[show ∀env S' Q' E',WE Γ (.dU (.cons ↑1 .nil) (.cons ↑0 .nil)) env S' Q' E'=([U.int 1].length<=100/\mD (.int 1)=true/\∃v,[U.int 0]=[v]/\Q' (.loc S'.length) (S'++[.dU [(.int 1,v)]])) from λ_ _ _ _=>rfl]
 refine#[by simp,rfl,_,rfl,?_];room;refine#[by simp,?_];have ls0:(S++[SO.lst [U.int 1]]).length=S.length+1:=by simp
 have ls1:(S++[SO.lst [U.int 1]]++[SO.dU [(U.int 1,U.int 0)]]).length=S.length+2:=by simp
 have I0:Vv S (S++[SO.lst [U.int 1]]++[SO.dU [(U.int 1,U.int 0)]]++[SO.lst []]) tk bh D [1] [] []:=by
  refine#[#[((Ext.app _).trans (Ext.app _)).trans (Ext.app _),?_,?_,?_,by simp,by simp,by simp],rfl,by simp,rfl,λh m p hp=>?_,by simp]
  .exact((Ext.app _).trans (Ext.app _)).get (show(S++[SO.lst [U.int 1]])[S.length]?=_ by simp)
  .exact(Ext.app _).get (show(S++[SO.lst [U.int 1]]++[SO.dU [(U.int 1,U.int 0)]])[S.length+1]?=_ by rw[<-ls0,ax (au _),bO];rfl)
  .rw[<-ls1,ax (au _),bO];rfl
  .have:h=1:=by simpa using m
   subst this;rw[gw.mp hp]
   erw[D0]
 rw[ls0,ls1]
 generalize S++[SO.lst [U.int 1]]++[SO.dU [(U.int 1,U.int 0)]]++[SO.lst []]=S0 at I0;rwa[Rest.go ?_];rw[Hy,TV]
 refine#[2050,mS (λN env S1=>∃(Ls rs ds:List Nat)(x4 x5 x6 x7:Option U),N=2048-ds.length/\env=[some (.loc P),some (.loc S.length),some (.loc (S.length+1)),some (.loc (S.length+2)),x4,x5,x6,x7]/\Vv S S1 tk bh D Ls rs ds) ?_ _ 2048 _ _ ⋯ #[[1],[],[],none,none,none,none,rfl,rfl,I0]];rintro N env S1 K ⟨Ls,rs,ds,x4,x5,x6,x7,rfl,rfl,J⟩ hK;have lb:=rn C J.s.nd J.d;have dl:=J.le;room;rw[lu J.s.r,lu J.s.l]
 dsimp[bB,ag];refine#[∅,∅,?_];by_cases z:ds.length<Ls.length
 .have:((ds.length:Int)<(Ls.length:Int)):=Int.ofNat_lt.mpr z
  dsimp[this,decide_true,if_true];erw[Rb Γ h1 pa C J z λLs' rs' ds' S2 x4 x5 x6 x7 J2 e=>hK (2048-ds'.length) _ _ ∅ #[Ls',rs',ds',x4,x5,x6,x7,rfl,rfl,J2]]
 .have:¬((ds.length:Int)<(Ls.length:Int)):=λy=>z (Int.ofNat_lt.mp y)
  dsimp[this,decide_false,av,if_false];erw[Rc Γ h2 h3 pa C J (m7 z) q]
section
variable{S S1 S2:bD}{X:List Nat}
def Kp(X:List Nat)(S S1:bD):Prop:=S.length<=S1.length/\∀n,n<S.length->n∉X->S1[n]?=S[n]?
theorem Kp.refl:Kp X S S:=#[au _,λ_ _ _=>rfl]
theorem Kp.trans(a:Kp X S S1)(b:Kp X S1 S2):Kp X S S2:=#[aI a.1 b.1,λn h ne=>(b.2 n (aq h a.1) ne).trans (a.2 n h ne)]
theorem Ext.kp(a:Ext S S1):Kp X S S1:=#[a.1,λn h _=>a.2 n h]
theorem Kp.set(m:n∈X):Kp X S (S.set n o):=#[by rw[cg];erw[au _],λk _ ne=>by rw[ah λ(z:n=k)=>ne (by rw[<-z];erw[m])]]
theorem Kp.get(a:Kp X S S1)(h:S[n]?=some o)(m:n∉X):S1[n]?=some o:=(a.2 n (aX h) m).trans h
end
theorem yQ(f:Nat->Option Nat)(h:Nat->Nat):∀G:List Nat,∃ps:List (Nat×Nat),cQ G f=ps.map (λp=>([p.1],aQ p.2))/\cQ G (λc=>(f c).map h)=ps.map (λp=>([p.1],aQ (h p.2)))/\(∀p∈ps,p.1∈G/\f p.1=some p.2)/\(G.Nodup->(ps.map (·.1)).Nodup)/\ps.length<=G.length
 |[]=>#[[],rfl,rfl,by simp,by simp,by simp]
 |x::G=>by
  let#[ps,h1,h2,h3,h4,h5]:=yQ f h G;unfold cQ at h1 h2 ⊢;cases e:f x with
  |none=>exact#[ps,by simp[e,h1],by rw[b9];dsimp[e,tP];erw[h2],λp m=>#[aB _ (h3 p m).1,(h3 p m).2],λnd=>h4 (eR.mp nd).2,by simp;omega]
  |some k=>
   refine#[(x,k)::ps,by simp[e,h1],by rw[b9];dsimp[e,j7,az];rw[h2],λp m=>?_,λnd=>?_,by simp;omega]
   .rcases aP.mp m with rfl|m
    .exact#[aS ..,e]
    .exact#[aB _ (h3 p m).1,(h3 p m).2]
   .let#[n1,n2]:=eR.mp nd
    rw[az,eR]
    refine#[λz=>?_,h4 n2];let#[p,m,e']:=de.mp z;have:=(h3 p m).1;rw[show p.1=x from e'] at this;erw[n1 this]
theorem Rf{Γ:b8}{S:bD}{T nb A R d:Nat}{b:List Nat}{f:Nat->Option Nat}{x4:U}{k:KU}{E:KX}(hb:S[nb]?=some (.lst (b.map aQ)))(hd:S[d]?=some (.dU (sD (cQ SG f)))\/S[d]?=some (.pR (sD (cQ SG f))))(hf:∀c k,c∈SG->f c=some k->k<b.length)
  (q:∀m S',Ext (S.set d (.pR (sD (cQ SG f)))) S'->S.length<=m->S'[m]?=some (.dU (sD (cQ SG λc=>(f c).map λk=>b.getD k 0)))->k (.loc m) S'):WE Γ Ye [some (.loc T),some (.loc nb),some (.loc A),some (.loc R),some x4,some (.loc d)] S k E:=by
 unfold Ye;have gl:SG.length=95:=rfl;have nd:=Cy;let#[ps,e1,e2,e3,e4,e5]:=yQ f (λk=>b.getD k 0) SG;have lk:∀p∈ps,tU (.str [p.1]) (sD (cQ SG f))=some (aQ p.2):=λp m=>by rw[AF,su,if_pos (e3 p m).1,(e3 p m).2];rfl
 have kp:∀p∈ps,p.2<b.length:=λp m=>hf p.1 p.2 (e3 p m).1 (e3 p m).2
 rw[e2] at q;have ey:(sD (cQ SG f)).map (·.1)=ps.map λp=>U.str [p.1]:=by rw[e1];unfold sD;simp[cK]
 have nd':=e4 nd;generalize cQ SG f=rw0 at *;room;have e0:∀R,iy S[d]? R=R (sD rw0):=λR=>by rcases hd with h|h<;>rw[h]<;>rfl
 rw[e0,ey]
 have dl:d<S.length:=by rcases hd with h|h<;>exact aX h
 have nbd:nb≠d:=λz=>by rcases hd with h|h<;>rw[<-z,hb] at h<;>cases h
 have g1:(S.set d (.pR (sD rw0)))[d]?=some (.pR (sD rw0)):=bg dl;have b1:(S.set d (.pR (sD rw0)))[nb]?=some (.lst (b.map aQ)):=by rw[ah (bZ nbd)];erw[hb]
 have l1:(S.set d (.pR (sD rw0))).length=S.length:=cg;generalize S.set d (.pR (sD rw0))=S1 at g1 b1 q l1;rwa[jT (S:=S1) _ (ps.map λp=>.tup [.str [p.1],aQ (b.getD p.2 0)]) (by simp) (by simp;omega) (λS' x=>x.get g1) (λu S' k h=>h) (λj u v hu hv S2 k x' hk=>?_) λS2 x'=>?_]
 .rw[aD] at hu hv
  let#[p,hp,rfl]:=ar.mp hu;rw[hp] at hv;have hv:U.tup [.str [p.1],aQ (b.getD p.2 0)]=v:=by simpa using hv
  subst hv;have m:=ak hp;rw[x'.get g1]
  refine#[rfl,?_];rw[lk p m]
  show getL S2[nb]? _
  rw[x'.get b1,aC]
  erw[sv (kp p m) #[by simp,hk S2 .refl]]
 .refine#[ps.map λp=>([p.1],aQ (b.getD p.2 0)),by simp[cK],?_,?_]
  .have:=nd'
   rw[bx]
   show(ps.map λp=>[p.1]).Nodup
   have e:(ps.map λp=>[p.1])=(ps.map (·.1)).map λc=>[c]:=by rw[bx];rfl
   rw[e]
   erw[nU _ (λa b h z=>h (FQ z).1) nd']
  .erw[q _ _ (x'.trans ((Ext.app _).trans (Ext.app _))) (by have:=x'.1;rw[aj];omega) (by rw[ax (au _),bO];rfl)]
structure WG(told:List (Option Nat))(go:Nat->Nat->Option Nat)(told':List (Option Nat))(go':Nat->Nat->Option Nat)(b reps:List Nat):Prop where
 k:∃m,FY (told++[none]) (gN told.length go) m b/\∀i j,i<(told++[none]).length->j<(told++[none]).length->Eqv (told++[none]) (gN told.length go) m i j->Eqv (told++[none]) (gN told.length go) (m+1) i j
 a:∀p,p<told.length->b.getD p 0<reps.length
 len:told'.length=reps.length
 r:∀(r p:Nat),reps[r]?=some p->p<told.length/\b.getD p 0=r/\∀p',p'<p->b.getD p' 0<r
 t:∀(r p:Nat),reps[r]?=some p->told'.getD r none=told.getD p none/\∀c,go' r c=(go p c).map λk=>b.getD k 0
noncomputable def R7(go:Nat->Nat->Option Nat)(b reps:List Nat)(r c:Nat):Option Nat:=(reps[r]?).bind λp=>(go p c).map λk=>b.getD k 0
theorem JF(h:reps[r]?=some p):R7 go b reps r=λc=>(go p c).map λk=>b.getD k 0:=by
 funext c;unfold R7;rw[h];rfl
def Rg:Spec:=λus S Q _=>∃T told ls go B,us=[.loc T]/\JB S T told ls go/\0<told.length/\(∀d∈ls,B<=d)/\B<=S.length/\∀T' told' ls' go' b reps S',JB S' T' told' ls' go'->(∀n,n<B->S'[n]?=S[n]?)->S.length<=S'.length/\(∀d∈ls',S.length<=d)->WG told go told' go' b reps->Q (.loc T') S'
structure MV(S3 S4:bD)(L:Nat)(told:List (Option Nat))(ls:List Nat)(go:Nat->Nat->Option Nat)(b reps ds:List Nat)(i:Nat):Prop where
 k:Kp (L::(L+1)::ls) S3 S4
 a:S4[L]?=some (.lst ((reps.map λp=>told.getD p none).map uN))
 r:S4[L+1]?=some (.lst (ds.map .loc))
 dl:ds.length=reps.length
 od:∀(j d:Nat),ls[j]?=some d->S4[d]?=some (.dU (sD (cQ SG (go j))))\/S4[d]?=some (.pR (sD (cQ SG (go j))))
 nw:∀(r d p:Nat),ds[r]?=some d->reps[r]?=some p->S3.length<=d/\S4[d]?=some (.dU (sD (cQ SG λc=>(go p c).map λk=>b.getD k 0)))
 ib:∀p,p<i->b.getD p 0<reps.length
 ir:∀(r p:Nat),reps[r]?=some p->p<i/\b.getD p 0=r/\∀p',p'<p->b.getD p' 0<r
 rl:reps.length<=i
section
variable{S3 S4 S6:bD}{L i d m:Nat}{told:List (Option Nat)}{ls b reps ds:List Nat}{go:Nat->Nat->Option Nat}
theorem MV.old(a:MV S3 S4 L told ls go b reps ds i)(h:b.getD i 0<reps.length):MV S3 S4 L told ls go b reps ds (i+1):=
 #[a.k,a.a,a.r,a.dl,a.od,a.nw,λp hp=>(iV.mp hp).elim (a.ib p) λe=>e▸h,λr p e=>#[bb (a.ir r p e).1,(a.ir r p e).2],js a.rl]
theorem MV.push(a:MV S3 S4 L told ls go b reps ds i)(hz:b.getD i 0=reps.length)(hd:ls[i]?=some d)(lo:∀(j d:Nat),ls[j]?=some d->d<L/\S3[d]?=some (.dU (sD (cQ SG (go j)))))(l3:S3.length=L+2)
  (x6:Ext ((S4.set L (.lst (((reps++[i]).map λp=>told.getD p none).map uN))).set d (.pR (sD (cQ SG (go i))))) S6) (ml:S4.length<=m) (g6:S6[m]?=some (.dU (sD (cQ SG λc=>(go i c).map λk=>b.getD k 0)))):
  MV S3 (S6.set (L+1) (.lst (ds.map .loc++[.loc m]))) L told ls go b (reps++[i]) (ds++[m]) (i+1):=by
 have dL:=(lo i d hd).1;have lr:=aX a.r;have lk:=a.k.1;have get:∀(n:Nat)(o:SO),n≠L->n≠L+1->n≠d->S4[n]?=some o->(S6.set (L+1) (.lst (ds.map .loc++[.loc m])))[n]?=some o:=λn o h1 h2 h3 e=>by
  rw[ah (bZ h2)]
  erw[x6.get (by rw[ah (bZ h3),ah (bZ h1)];exact e)]
 have g1:S6[L+1]?=some (.lst (ds.map .loc)):=x6.get (by rw[ah (a9 (bb dL)),ah (a9 (cv L))];erw[a.r]);have mX:d∈L::(L+1)::ls:=by simp[ak hd]
 refine#[(a.k.trans ((Kp.set (by simp)).trans (Kp.set mX))).trans ((Ext.kp x6).trans (Kp.set (by simp))),?_,by rw[gs g1];simp,by simp[a.dl],λj d' hj=>?_,λr d' p e1 e2=>?_,λp hp=>?_,λr p e=>?_,by rw[aj];erw[m9 a.rl]]
 .rw[ah (cx (cv L))]
  erw[x6.get (by rw[ah (a9 dL)];exact gs a.a)]
 .by_cases y:d'=d
  .subst y
   have e:sD (cQ SG (go j))=sD (cQ SG (go i)):=by
    have:=(lo j d' hj).2;rw[(lo i d' hd).2] at this;injection this with this;injection this with this
    erw[this.symm]
   rw[e,ah (cx (bb dL))]
   erw[.inr (x6.get (bg (by rw[cg];exact Bb dL (Nat.lt_of_succ_lt lr))))]
  .have dl:=(lo j d' hj).1
   have ne:=a9 dl;exact(a.od j d' hj).imp (get _ _ ne (a9 (bb dl)) y) (get _ _ ne (a9 (bb dl)) y)
 .rcases mV e1 with e1|⟨rfl,rfl⟩
  .have hr:=aX e1
   rw[ai (a.dl▸hr)] at e2;let#[z1,z2]:=a.nw r d' p e1 e2;rw[l3] at z1;exact#[l3▸z1,get _ _ (cx (aq (bb (cv L)) z1)) (cx z1) (cx (aq (bb (bb dL)) z1)) z2]
  .have f2:i=p:=by rw[a.dl] at e2;simpa using e2
   subst f2;exact#[aI lk ml,by rw[ah (a9 (aq lr ml))];erw[g6]]
 .rw[aj]
  rcases iV.mp hp with y|y
  .erw[bb (a.ib p y)]
  .rw[y,hz];erw[cv _]
 .rcases mV e with e|⟨rfl,rfl⟩
  .let#[z1,z2]:=a.ir r p e
   exact#[bb z1,z2]
  .exact#[cv _,hz,a.ib]
end
theorem MX(Γ:b8){S3 S4:bD}{L i d m T kk R:Nat}{told:List (Option Nat)}{ls b reps ds:List Nat}{go:Nat->Nat->Option Nat}{K:Env->bD->Prop}{Q:KU}{E:Env->KX}(a:MV S3 S4 L told ls go b reps ds i)(gT:S4[T]?=some (Ke kk told R))(gm:S4[m]?=some (.lst (b.map aQ)))(mL:m≠L)(hd:ls[i]?=some d)(lo:∀(j d:Nat),ls[j]?=some d->d<L/\S3[d]?=some (.dU (sD (cQ SG (go j)))))(l3:S3.length=L+2)(hb:i<b.length)(le:b.getD i 0<=reps.length)(r4:i<=4000)(tl:told.length<=4000)(cl:∀c k,c∈SG->go i c=some k->k<b.length)(ht:told[i]?=some (told.getD i none))
  (q:∀reps ds S',MV S3 S' L told ls go b reps ds (i+1)->K [some (.loc T),some (.loc m),some (.loc L),some (.loc (L+1)),some (aQ i),some (.loc d)] S'):
  Rest Γ Yf #[K,Q,E] [some (.loc T),some (.loc m),some (.loc L),some (.loc (L+1)),some (aQ i),some (.loc d)] S4:=by
 unfold Yf;have rl:=a.rl;have dl:=a.dl;room;rw[gm,aC]
 rwa[sv hb ?_];rw[lu a.r]
 dsimp[bB,ag];refine#[∅,?_];try room
 by_cases z:b.getD i 0=reps.length
 .have z':(((b.getD i 0:Nat):Int)== (ds.length:Int))=true:=by rw[beq_iff_eq,z,dl]
  dsimp[z',if_true];room;rw[a.a,aC,Ft gT]
  room;refine#[by rw[ag];omega,at_of ht #[by rw[ag,ag];omega,?_]];have dL:=lo i d hd;have eA:(reps.map λp=>told.getD p none).map uN++[uN (told.getD i none)]=((reps++[i]).map λp=>told.getD p none).map uN:=by rw[aH,aH];rfl
  rw[eA]
  have g1:(S4.set L (.lst (((reps++[i]).map λp=>told.getD p none).map uN)))[L+1]?=some (.lst (ds.map .loc)):=by rw[ah (a9 (cv L))];erw[a.r]
  have g2:∀{n:Nat}{o:SO},n≠L->S4[n]?=some o->(S4.set L (.lst (((reps++[i]).map λp=>told.getD p none).map uN)))[n]?=some o:=λ{n o}h e=>by rw[ah (bZ h)];erw[e]
  room;rw[g1,aC]
  refine#[trivial,Rf (g2 mL gm) ((a.od i d hd).imp (g2 (a9 dL.1)) (g2 (a9 dL.1))) cl λm6 S6 x6 m6l g6=>?_];rw[cg] at m6l;have g6':S6[L+1]?=some (.lst (ds.map .loc)):=x6.get (by rw[ah (a9 (bb dL.1))];erw[g1]);rw[g6',aC]
  refine#[by rw[ag];omega,?_];try room
  erw[q _ _ _ (a.push z hd lo l3 x6 m6l g6)]
 .have z':(((b.getD i 0:Nat):Int)== (ds.length:Int))=false:=by rw[beq_eq_false_iff_ne];omega
  dsimp[z',av,if_false];room;erw[q _ _ _ (a.old (Gi le z))]
theorem Vx(Γ:b8)(h1:Γ "rounds"=JA)(h2:Γ "with_nowhere"=Jx)(h3:Γ "Table.__init__"=MS):Keeps Γ mK 5 Rg:=by
 rintro us S Q E ⟨T,told,ls,go,B,rfl,h,h0,hB,hBl,q⟩;unfold mK;let#[kk,R,hT,hk,hR]:=h.o;have hl:=h.ll;have sz:=h.sz;room;rw[Ft hT]
 room;refine#[by simp,by simp;omega,?_];rw[JC hT]
 rwa[ca h2 #[R,ls,go,rfl,hR,∅,λnr S1 ms x1 ml Rw1=>?_]];have eN:(told++[none]).length=told.length+1:=by simp
 rwa[ca h1 #[nr,ms,gN ls.length go,told++[none],by rw[aH];rfl,Rw1,∅,∅,∅,λj c hj hc=>?_,λF fs S2 x2 gF Rs=>?_]]
 .unfold gN
  cases e:go j c with
  |none=>show ls.length<_;omega
  |some k=>have:=h.cl j c k hc e;show k<_;omega
 have x12:=x1.trans x2;obtain⟨fs0,m,rfl⟩:∃fs0 m,fs=fs0++[m]:=by
  rcases gg fs with z|⟨a,b,z⟩
  .erw[absurd z Rs.ne]
  .exact#[a,b,by rw[z,gh]]
 let#[b,gm,rb]:=Rs.r fs0.length m (by simp);have st:=Rs.st;rw[hl,show(fs0++[m]).length=fs0.length+1 by simp] at st;rw[hl] at rb;room;rw[gF,aC,aH,show [m].map U.loc=[.loc m] from rfl,ue,bB]
 room;refine#[by simp,?_];room;refine#[by simp,?_];have bl:=rb.len;rw[eN] at bl;have nX:∀(n:Nat)(o:SO),S2[n]?=some o->(∀j,o≠.dU (sD (cQ SG (go j))))->n∉S2.length::(S2.length+1)::ls:=λn o hn ho z=>by
  have:=aX hn;rcases aP.mp z with z|z
  .omega
  .rcases aP.mp z with z|z
   .omega
   .let#[j,hj]:=bL z
    have:=x12.get (hR.d j n hj);rw[hn] at this;erw[ho j (aJ this)]
 have nT:=nX T _ (x12.get hT) (by intro j;unfold Ke;intro z;cases z);have nR:=nX R _ (x12.get hR.l) (by intro j z;cases z);have nm:=nX m _ gm (by intro j z;cases z);have ls0:(S2++[SO.lst []]).length=S2.length+1:=by simp
 have y3:Ext S2 (S2++[SO.lst []]++[SO.lst []]):=(Ext.app _).trans (Ext.app _);have gA:(S2++[SO.lst []]++[SO.lst []])[S2.length]?=some (.lst []):=(Ext.app _).get (by simp);have gR:(S2++[SO.lst []]++[SO.lst []])[S2.length+1]?=some (.lst []):=by rw[<-ls0,ax (au _),bO];rfl
 rw[ls0]
 have l3:(S2++[SO.lst []]++[SO.lst []]).length=S2.length+2:=by simp
 generalize S2++[SO.lst []]++[SO.lst []]=S3 at y3 gA gR l3;have x3:=x12.trans y3;room;rw[JC (x3.get hT)]
 room;rw[x3.get hR.l,aC]
 have fst':=ub b [];rw[rb.fx] at fst';have lo:∀(j d:Nat),ls[j]?=some d->d<S2.length/\S3[d]?=some (.dU (sD (cQ SG (go j)))):=λj d e=>#[aX (x12.get (hR.d j d e)),x3.get (hR.d j d e)]
 rwa[dO (λi env S4=>∃(reps ds:List Nat)(x4 x5:Option U),env=[some (.loc T),some (.loc m),some (.loc S2.length),some (.loc (S2.length+1)),x4,x5]/\MV S3 S4 S2.length told ls go b reps ds i) (λi env S4 h9=>?_) _ ?_ ?_ #[[],[],none,none,rfl,.refl,gA,gR,rfl,λj d e=>.inl (lo j d e).2,by simp,λp hp=>absurd hp (dS p),by simp,au _]]
 .let#[_,_,_,_,_,a]:=h9
  erw[a.k.get (x3.get hR.l) nR]
 .rintro i u env S4 K hu ⟨reps,ds,x4,x5,rfl,a⟩ hK
  dsimp[eY,aD,oA] at hu;let#[d,hd,rfl]:=ar.mp hu;have hi:=aX hd;have ht:told[i]?=some (told.getD i none):=by rw[aW,ab (hl▸hi)];rfl
  dsimp[cK,Lj];rwa[MX Γ a (a.k.get (x3.get hT) nT) (a.k.get (y3.get gm) nm) (a9 (aX gm)) hd lo l3 ∅ ?_ ∅ sz (λc k hc e=>Bb (h.cl i c k hc e) ∅) ht λreps ds S' a'=>hK _ _ #[reps,ds,_,_,rfl,a']]
  have gi:=gd (b:=b) (i:=i) ∅;have ib:=a.ib
  clear a hK lo
  cases e:b.getD i 0 with
  |zero=>erw[bP _]
  |succ v=>
   rw[e] at gi;rcases fst' i v gi with z|⟨p,hp,e'⟩
   .erw[absurd z (dS v)]
   .have:=ib p hp
    rw[aW,e'] at this;erw[this]
 .rintro env S4 ⟨reps,ds,x4,x5,rfl,a⟩
  obtain⟨k4,gA4,gR4,dl,-,nw,ib,ir,rl⟩:=a;rw[k8,ag,hl] at ib ir rl;room;refine ca h3 #[S4.length,_,_,_,rfl,vS,(Ext.app _).get gA4,λk' S5 o5 gT gk=>#[rfl,?_]];have y5:Ext S4 S5:=DQ o5;have t':∀(r p:Nat),reps[r]?=some p->(reps.map λp=>told.getD p none).getD r none=told.getD p none/\∀c,R7 go b reps r c=(go p c).map λk=>b.getD k 0:=λr p e=>by
   refine#[by rw[aW,aD,e];rfl,λc=>by rw[JF e]]
  rwa[q _ (reps.map λp=>told.getD p none) ds (R7 go b reps) b reps S5 #[#[k',_,gT,gk,y5.get gR4,λj d hj=>?_,λj c hj=>?_],by rw[ag];erw[dl],by rw[ag];omega,λj c k hc e=>?_] (λn hn=>?_) #[aI x3.1 (aI k4.1 y5.1),λd m=>let ⟨j,hj⟩:=bL m;aI x3.1 (nw j d _ hj (ab (show j<reps.length from dl▸aX hj))).1] #[#[fs0.length,rb,st],ib,by simp,ir,t']]
  .have hr:=ab (show j<reps.length from dl▸aX hj)
   rw[JF hr]
   erw[y5.get (nw j d _ hj hr).2]
  .unfold R7;rw[dD (dl▸hj)];rfl
  .unfold R7 at e
   let#[p,hp,e]:=ay.mp e;let#[v,hv,e]:=ar.mp e;subst e;rw[ag]
   erw[ib v (h.cl p c v hc hv)]
  .have nS:n<S.length:=aq hn hBl
   have n2:=aq nS x12.1;have n3:=aq nS x3.1;rw[y5.2 n (aq n3 k4.1),k4.2 n n3 (λz=>?_),x3.2 n nS]
   rcases aP.mp z with z|z
   .erw[a9 n2 z]
   .rcases aP.mp z with z|z
    .erw[a9 (bb n2) z]
    .erw[ur hn (hB n z)]
def AI(ts:List Tr)(w:List Nat):Option Nat->Prop
 |none=>∀(i:Nat)t,ts[i]?=some t->¬En t (hs t w)
 |some i=>(∃t,ts[i]?=some t/\En t (hs t w))/\∀(i':Nat)t,i'<i->ts[i']?=some t->¬En t (hs t w)
theorem rq(h:AI ts w o)(h':AI ts w o'):o=o':=by
 cases o with
 |none=>
  cases o' with
  |none=>rfl
  |some i=>let#[#[t,e,z],_]:=h';erw[absurd z (h i t e)]
 |some i=>
  let#[#[t,e,z],n]:=h;cases o' with
  |none=>erw[absurd z (h' i t e)]
  |some j=>
   let#[#[t',e',z'],n']:=h';rcases md i j with y|y|y
   .erw[absurd z (n' i t y e)]
   .rw[y]
   .erw[absurd z' (n j t' y e')]
noncomputable def tot(N:Nat)(go:Nat->Nat->Option Nat)(w:List Nat):Nat:=w.foldl (gN N go) 0
theorem vH:tot N go (w++[c])=gN N go (tot N go w) c:=by unfold tot;rw[dm];rfl
theorem NO:QJ bh 0 0:=λp=>by simp
section
variable{ts:List Tr}{sg:List (List Nat)}{bh en lots rs:List Nat}{u:Nat}{told:List (Option Nat)}
abbrev zh(sg:List (List Nat)):Nat->Nat:=λc=>jW (·.contains c) sg
theorem AJ(A:Ct ts sg bh en)(U:Kc sg bh en u)(P:WD (bh.map (·&&&u)) en (zh sg) lots rs told)(gz0:∀j c,told.length<=j->Fv (zh sg) lots rs j c=none):∀(n:Nat)(w:List Nat),w.length=n->(∀c∈w,c∈SG)->(∃r,rs[tot told.length (Fv (zh sg) lots rs) w]?=some r/\NI ts u w r)\/(tot told.length (Fv (zh sg) lots rs) w=told.length/\NI ts u w 0)
 |0,w,hn,_=>by
  rw[mY.mp hn]
  let#[r,h1,h2]:=P.b 0 1 P.z;erw[.inl #[r,h1,Fm A h2]]
 |n+1,w,hn,hw=>by
  rcases gg w with rfl|⟨w,c,rfl⟩
  .simp at hn
  rw[gh] at hn hw ⊢;have cm:c∈SG:=hw c (by simp);rw[vH]
  rcases AJ A U P gz0 n w (by simpa using hn) (λc m=>hw c (by simp[m])) with⟨r,h1,h2⟩|⟨h1,h2⟩
  .unfold gN
   rw[Cz h1]
   unfold gz;by_cases z:r&&&zh sg c=0
   .rw[if_pos z]
    erw[.inr #[rfl,vA A U h2 (show QJ _ (r&&&zh sg c) 0 by rw[z];exact NO)]]
   .rw[if_neg z]
    have hm:=(P.m r (ak h1) c cm).resolve_left z;have hk:=cD hm;have e:lots[lots.idxOf (r&&&zh sg c)]?=some (r&&&zh sg c):=by rw[ab hk,iX hk]
    let#[r',e1,e2]:=P.b _ _ e;erw[.inl #[r',e1,vA A U h2 e2]]
  .rwa[.inr #[?_,vA A U h2 (by rw[Nat.zero_and];erw[NO])]]
   unfold gN;rw[h1,gz0 _ c (au _)];rfl
theorem Vy:¬Ov 0 en i:=λ⟨_,_,p,h,_⟩=>by simp at h
theorem CB(A:Ct ts sg bh en)(U:Kc sg bh en u)(h:NI ts u w r)(f:WB (r&&&zh sg c) en o):AI ts (w++[c]) o:=by
 have k:=Jd (c:=c) A U h;cases o with
 |none=>erw[λi t e z=>f i ((k i).mpr #[t,e,z])]
 |some i=>exact#[(k i).mp f.1,λi' t hi e z=>f.2 i' hi ((k i').mpr #[t,e,z])]
theorem Fw(A:Ct ts sg bh en)(U:Kc sg bh en u)(P:WD (bh.map (·&&&u)) en (zh sg) lots rs told)(gz0:∀j c,told.length<=j->Fv (zh sg) lots rs j c=none)(w:List Nat)(hw:∀c∈w,c∈SG):AI ts w ((told++[none]).getD (tot told.length (Fv (zh sg) lots rs) w) none):=by
 have nn:(told++[none]).getD told.length none=none:=by rw[aW];simp
 have tt:∀{k:Nat}{o:Option Nat},told[k]?=some o->(told++[none]).getD k none=o:=λ{k o}e=>by rw[aW,ai (aX e),e];rfl
 rcases gg w with rfl|⟨w,c,rfl⟩
 .let#[o,e1,e2]:=P.t 0 1 P.z
  rw[show tot told.length (Fv (zh sg) lots rs) []=0 from rfl,tt e1]
  cases o with
  |none=>
   rintro i t e ⟨p,hp,z⟩;have hp:p=0:=hp;subst hp;have:=A.nl t (ak e);have z:gC [t]=true:=z;simp[gC,this] at z
  |some i=>
   let#[Z,f1,p,f2,f3]:=e2.1;have p0:=gw.mp f2;subst p0;have il:i<ts.length:=by rw[<-A.Fl];erw[aX f1]
   let#[Z',g1,g2]:=A.e i _ (ab il);rw[f1] at g1;cases g1;rw[g2,ao] at f3;let#[n,n0,pl]:=A.pos _ (dE il);erw[absurd rfl (Cq pl n0 f3.1)]
 .rw[gh] at hw ⊢
  have cm:c∈SG:=hw c (by simp);rw[vH]
  rcases AJ A U P gz0 _ w rfl (λc m=>hw c (by simp[m])) with⟨r,h1,h2⟩|⟨h1,h2⟩
  .unfold gN
   rw[Cz h1]
   unfold gz;by_cases z:r&&&zh sg c=0
   .rw[if_pos z]
    show AI ts _ ((told++[none]).getD told.length none)
    rw[nn]
    erw[CB (r:=r) A U h2 (o:=none) (by rw[z];exact λi=>Vy)]
   .rw[if_neg z]
    have hm:=(P.m r (ak h1) c cm).resolve_left z;have hk:=cD hm;have e:lots[lots.idxOf (r&&&zh sg c)]?=some (r&&&zh sg c):=by rw[ab hk,iX hk]
    let#[o,e1,e2]:=P.t _ _ e;show AI ts _ ((told++[none]).getD (lots.idxOf (r&&&zh sg c)) none);rw[tt e1]
    erw[CB A U h2 e2]
  .unfold gN
   rw[h1,gz0 _ c (au _)]
   show AI ts _ ((told++[none]).getD told.length none)
   rw[nn]
   erw[CB (r:=0) A U h2 (o:=none) (by rw[Nat.zero_and];exact λi=>Vy)]
end
section
variable{told told':List (Option Nat)}{go go':Nat->Nat->Option Nat}{b reps:List Nat}
theorem NP:∀{m i j:Nat},Eqv told g m i j->told[i]?=told[j]?
 |0,_,_,h=>h
 |m+1,_,_,h=>NP h.1
theorem DS(M:WG told go told' go' b reps)(cl:∀j c k,c∈SG->go j c=some k->k<told.length)(hi:i<=told.length)(hj:j<=told.length)(e:b.getD i 0=b.getD j 0):(told++[none])[i]?=(told++[none])[j]?/\∀c∈SG,b.getD (gN told.length go i c) 0=b.getD (gN told.length go j c) 0:=by
 let#[m,R,st]:=M.k;have hN:(told++[none]).length=told.length+1:=by simp
 have hq:=(R.iff i j ∅ ∅).mp e;refine#[NP hq,λc hc=>?_];have le:∀i,gN told.length go i c<(told++[none]).length:=λi=>by
  unfold gN;cases z:go i c with
  |none=>show told.length<_;omega
  |some k=>have:=cl i c k hc z;show k<_;omega
 exact(R.iff _ _ (le i) (le j)).mpr ((st i j ∅ ∅ hq).2 c hc)
theorem DT(M:WG told go told' go' b reps)(cl:∀j c k,c∈SG->go j c=some k->k<told.length)(z0:∀j c,told.length<=j->go j c=none)(h0:0<told.length):∀(n:Nat)(w:List Nat),w.length=n->(∀c∈w,c∈SG)->tot told.length go w<=told.length/\match uw go' w with
  |some r=>r<reps.length/\b.getD (tot told.length go w) 0=r
  |none=>b.getD (tot told.length go w) 0=b.getD told.length 0
 |0,w,hn,_=>by
  rw[mY.mp hn]
  have h1:=M.a 0 h0;let#[m,R,_]:=M.k;refine#[bP _,?_];show 0<reps.length/\b.getD 0 0=0;have bl:=R.len;have hN:(told++[none]).length=told.length+1:=by simp
  have gi:=gd (b:=b) (i:=0) ∅;refine#[∅,?_];cases e:b.getD 0 0 with
  |zero=>rfl
  |succ v=>
   rw[e] at gi;have:=ub b [] 0 v (by rw[R.fx];erw[gi]);rcases this with z|⟨p,hp,_⟩
   .simp at z
   .omega
 |n+1,w,hn,hw=>by
  rcases gg w with rfl|⟨w,c,rfl⟩
  .simp at hn
  rw[gh] at hn hw ⊢;have cm:c∈SG:=hw c (by simp);let#[il,ih]:=DT M cl z0 h0 n w (by simpa using hn) (λc m=>hw c (by simp[m]));rw[vH,vG]
  refine#[?_,?_]
  .unfold gN
   cases z:go (tot told.length go w) c with
   |none=>erw[au _]
   |some k=>erw[df (cl _ c k cm z)]
  cases e:uw go' w with
  |none=>
   rw[e] at ih;have:=(DS M cl il (au _) ih).2 c cm;show b.getD _ 0=_;rw[this]
   unfold gN;rw[z0 _ c (au _)];rfl
  |some r=>
   rw[e] at ih;let#[rl,er]:=ih;have hp:=ab rl;let#[p1,p2,_]:=M.r r _ hp;have tg:=(M.t r _ hp).2 c;generalize reps[r]=p at hp p1 p2 tg;have:=(DS M cl il (df p1) (by rw[er,p2])).2 c cm;show match go' r c with|some r=>r<reps.length/\_=r|none=>_
   rw[tg,this]
   unfold gN;cases z:go p c with
   |none=>rfl
   |some k=>exact#[M.a k (cl p c k cm z),rfl]
theorem Fx(M:WG told go told' go' b reps)(cl:∀j c k,c∈SG->go j c=some k->k<told.length)(z0:∀j c,told.length<=j->go j c=none)(h0:0<told.length)(w:List Nat)(hw:∀c∈w,c∈SG):fst told' go' w=(told++[none]).getD (tot told.length go w) none:=by
 let#[il,h]:=DT M cl z0 h0 _ w rfl hw;unfold fst;cases e:uw go' w with
 |none=>
  rw[e] at h;have:=(DS M cl il (au _) h).1;rw[aW,this];simp
 |some r=>
  rw[e] at h;let#[rl,er]:=h;have hp:=ab rl;let#[p1,p2,_]:=M.r r _ hp;have:=(DS M cl il (df p1) (by rw[er,p2])).1;rw[aW,this,ai p1,<-aW]
  exact(M.t r _ hp).1
end
def Fy:Spec:=λus S Q _=>∃n xs ts,us=[.loc n]/\S[n]?=some (.lst (xs.map .str))/\QK ts xs/\v9 ts/\fA ts<=10/\∀T told ls go S',JB S' T told ls go->0<told.length->(∀w,(∀c∈w,c∈SG)->AI ts w (fst told go w))->Ext S S'->(∀d∈ls,S.length<=d)->Q (.loc T) S'
theorem Vz(Γ:b8)(h1:Γ "places_of"=U3)(h2:Γ "spread"=Ra)(h3:Γ "smallest"=Rg):Keeps Γ mJ 0 Fy:=by
 rintro us S Q E ⟨n,xs,ts,rfl,gn,hR,hT,hs,q⟩;unfold mJ;room;rwa[ca h1 #[n,xs,ts,10,rfl,gn,hR,hT,hs,λP u sg bh en S1 pp A U l x1=>?_]];have al:=A.len;have b0:0<bh.length:=∅
 rwa[ca h2 #[P,_,en,_,λp=>p=0\/∃t∈ts,IN t p=true,rfl,pp,#[by rw[ag];omega,λq B p hq hB hp=>.inr ?_,λp hp=>?_],.inl rfl,λT told ls lots rs S2 tb dl x2 sp=>?_]]
 .let#[B',e,rfl]:=yJ hB
  rw[cG,ao] at hp;rcases hq with rfl|⟨t,m,i⟩
  .let#[B0,e0,f0]:=A.b0
   rw[e] at e0;cases e0;let#[t,m,f]:=(f0 p).mp hp.1;exact#[t,m,rg f]
  .let#[B0,e0,f0]:=A.b t m q i
   rw[e] at e0;cases e0;rw[f0] at hp;exact#[t,m,mT hp.1]
 .rw[ag]
  rcases hp with rfl|⟨t,m,i⟩
  .erw[b0]
  .rw[al];erw[aX (A.sgn t m p i)]
 have t0:0<told.length:=by rw[sp.len];erw[aX sp.z]
 let#[_,_,_,_,rp]:=tb.o;have ll:=tb.ll;rwa[ca h3 #[T,told,ls,_,S1.length,rfl,tb,t0,dl,x2.1,λT' told' ls' go' b reps S3 tb' k3 #[l3,l4] M=>?_]];have z0:∀j c,told.length<=j->Fv (zh sg) lots rs j c=none:=λj c hj=>rp.z j c ∅
 rwa[q T' told' ls' go' S3 tb' ?_ (λw hw=>?_) #[by have:=x1.1;have:=x2.1;omega,λn hn=>?_] λd m=>aI (aI x1.1 x2.1) (l4 d m)]
 .rw[M.len]
  have:=M.a 0 t0;omega
 .rw[Fx M tb.cl z0 t0 w hw]
  erw[Fw A U sp z0 w hw]
 .have:=x1.1
  rw[k3 n ∅,x2.2 n ∅,x1.2 n hn]
def Ap(D:List Nat->Prop)(r:Nat)(y:List Nat):Prop:=∃w:List Nat,w.length<=r/\D (y++w)
def Fs(P:Nat->Prop)(c:Nat):Prop:=∃i:Nat,SG[i]?=some c/\P c/\∀j c',j<i->SG[j]?=some c'->¬P c'
theorem Rh(h:Fs P c)(h':Fs P c'):c=c':=by
 let#[i,e,p,n]:=h;let#[j,e',p',n']:=h';rcases md i j with y|y|y
 .erw[absurd p (n' _ _ y e)]
 .subst y;rw[e] at e';injection e'
 .erw[absurd p' (n _ _ y e')]
inductive Dw(D:List Nat->Prop)(r:Nat):List Nat->Prop
 |nil:Dw D r []
 |snoc{x:List Nat}{c:Nat}:Dw D r x->Fs (λc=>Ap D (r-1-x.length) (x++[c])) c->Dw D r (x++[c])
theorem Ri(h:Dw D r x):∀x',Dw D r x'->x'.length=x.length->x'=x:=by
 induction h with
 |nil=>intro x' _ e;erw[cR e]
 |snoc h1 h2 ih=>
  intro x' h' e;cases h' with
  |nil=>simp at e
  |snoc h3 h4=>
   have:=ih _ h3 (by simpa using e);subst this;rw[Rh h2 h4]
def CC(D:List Nat->Prop):Option (List Nat)->Prop
 |none=>∀w,¬D w
 |some x=>Ap D x.length []/\(∀k,k<x.length->¬Ap D k [])/\Dw D x.length x
theorem yR(h:CC D a)(h':CC D b):a=b:=by
 cases a with
 |none=>
  cases b with
  |none=>rfl
  |some x=>let#[#[w,_,d],_]:=h';erw[absurd d (h _)]
 |some x=>
  cases b with
  |none=>let#[#[w,_,d],_]:=h;erw[absurd d (h' _)]
  |some y=>
   have e:y.length=x.length:=by
    rcases md y.length x.length with z|z|z
    .erw[absurd h'.1 (h.2.1 _ z)]
    .erw[z]
    .erw[absurd h.1 (h'.2.1 _ z)]
   have k:=h'.2.2;rw[e] at k;rw[Ri h.2.2 _ k e]
theorem Rj(h:Ap D 0 y):D y:=by
 let#[w,l,d]:=h;have:=cR (Nat.le_zero.mp l);subst this;rw[bM] at d;erw[d]
theorem VA(h:CC D (some x)):D x:=by
 let#[h1,_,h3]:=h;have aux:∀r x,Dw D r x->x.length=r->Ap D r []->D x:=by
  intro r x h;cases h with
  |nil=>intro e a;cases e;erw[Rj a]
  |snoc k1 k2=>
   rename_i x c;intro e _;let#[i,_,p,_]:=k2;have z:r-1-x.length=0:=by simp at e;omega
   have p':Ap D (r-1-x.length) (x++[c]):=p;rw[z] at p';erw[Rj p']
 erw[aux _ _ h3 rfl h1]
theorem VB(hD:∀w,D w->∀c∈w,c∈SG):Ap D (k+1) y↔Ap D k y\/∃c,c∈SG/\Ap D k (y++[c]):=by
 constructor
 .rintro⟨w,l,d⟩
  cases w with
  |nil=>erw[.inl #[[],bP _,d]]
  |cons c w=>
   rwa[.inr #[c,hD _ d c (by simp),w,Nat.le_of_succ_le_succ l,?_]];rw[bj];erw[d]
 .rintro(⟨w,l,d⟩|⟨c,_,w,l,d⟩)
  .exact#[w,js l,d]
  .refine#[c::w,m9 l,?_]
   rw[bj] at d;erw[d]
section
variable{told:List (Option Nat)}{g:Nat->Nat->Nat}{p q:Nat}{D:List Nat->Prop}
theorem sA(hD:∀w,D w↔(∀c∈w,c∈SG)/\told[w.foldl g p]?≠told[w.foldl g q]?):∀(k:Nat)(y:List Nat),(∀c∈y,c∈SG)->(Eqv told g k (y.foldl g p) (y.foldl g q)↔¬Ap D k y)
 |0,y,hy=>by
  constructor
  .intro e a
   exact((hD y).mp (Rj a)).2 e
  .intro n
   rwa[gG λz=>n #[[],au _,?_]]
   rw[bM]
   exact(hD y).mpr #[hy,z]
 |k+1,y,hy=>by
  have sg:∀c,c∈SG->∀c'∈y++[c],c'∈SG:=λc hc c' m=>by
   rcases aR.mp m with m|m
   .erw[hy _ m]
   .have:c'=c:=by simpa using m
    rw[this];erw[hc]
  have st:∀c r,(y++[c]).foldl g r=g (y.foldl g r) c:=λc r=>by rw[dm];rfl
  rw[VB λw h=>((hD w).mp h).1]
  constructor
  .rintro⟨e1,e2⟩ (a|⟨c,hc,a⟩)
   .exact(sA hD k y hy).mp e1 a
   .refine(sA hD k (y++[c]) (sg c hc)).mp ?_ a
    rw[st,st];erw[e2 c hc]
  .intro n
   refine#[(sA hD k y hy).mpr λa=>n (.inl a),λc hc=>?_];have:=(sA hD k (y++[c]) (sg c hc)).mpr λa=>n (.inr #[c,hc,a])
   rw[st,st] at this;erw[this]
theorem vI(hc:∀j c,j<N->c∈SG->g j c<N)(h:∀i j,i<N->j<N->Eqv told g m i j->Eqv told g (m+1) i j):∀k i j,i<N->j<N->Eqv told g m i j->Eqv told g (m+k) i j
 |0,_,_,_,_,e=>e
 |k+1,i,j,hi,hj,e=>#[vI hc h k i j hi hj e,λc m'=>vI hc h k _ _ (hc i c hi m') (hc j c hj m') ((h i j hi hj e).2 c m')]
end
noncomputable def gJ(n:Nat)(g1 g2:Nat->Nat->Option Nat)(j c:Nat):Option Nat:=if j<n then g1 j c else(g2 (j-n) c).map (·+n)
theorem AK{go:Nat->Nat->Option Nat}:∀w:List Nat,w.foldl (λs c=>s.bind λj=>go j c) none=none
 |[]=>rfl
 |_::w=>AK w
theorem uv(h:∀c,f N c=N):∀w:List Nat,w.foldl f N=N
 |[]=>rfl
 |c::w=>by rw[iU,h];erw[uv h w]
theorem yS{f:Nat->Nat->Nat}{N n:Nat}{e:Nat->Nat}{go:Nat->Nat->Option Nat}(hN:∀c,f N c=N)(cl:∀j c k,c∈SG->go j c=some k->k<n)(hf:∀j c,j<n->f (e j) c=((go j c).map e).getD N):∀(w:List Nat)(j:Nat),j<n->(∀c∈w,c∈SG)->(w.foldl (λs c=>s.bind λj=>go j c) (some j)=none/\w.foldl f (e j)=N)\/∃k,k<n/\w.foldl (λs c=>s.bind λj=>go j c) (some j)=some k/\w.foldl f (e j)=e k
 |[],j,hj,_=>.inr #[j,hj,rfl,rfl]
 |c::w,j,hj,hw=>by
  rw[iU,iU,hf j c hj]
  show(w.foldl _ (go j c)=none/\_)\/∃k,k<n/\w.foldl _ (go j c)=some k/\_
  cases h:go j c with
  |none=>erw[.inl #[AK w,uv hN w]]
  |some k=>erw[yS hN cl hf w k (cl j c k (hw c (by simp)) h) λc' m=>hw c' (aB _ m)]
section
variable{t1 t2:List (Option Nat)}{g1 g2:Nat->Nat->Option Nat}
theorem gd'{t:List (Option Nat)}{j:Nat}(h:j<t.length):t[j]?=some (t.getD j none):=by rw[aW,ab h];rfl
theorem VC(z2:∀j c,t2.length<=j->g2 j c=none)(c:Nat):gN (t1.length+t2.length) (gJ t1.length g1 g2) (t1.length+t2.length) c=t1.length+t2.length:=by
 unfold gN gJ;rw[if_neg ∅,z2 _ _ ∅];rfl
theorem VD(c1:∀j c k,c∈SG->g1 j c=some k->k<t1.length)(z2:∀j c,t2.length<=j->g2 j c=none)(h1:0<t1.length){w:List Nat}(hw:∀c∈w,c∈SG):(t1++t2++[none])[w.foldl (gN (t1.length+t2.length) (gJ t1.length g1 g2)) 0]?=some (fst t1 g1 w):=by
 rcases yS (e:=id) (VC (g1:=g1) z2) c1 (λj c hj=>by show gN _ _ j c=_;unfold gN gJ;rw[if_pos hj];cases g1 j c<;>rfl) w 0 h1 hw with⟨a,b⟩|⟨k,hk,a,b⟩
 .have b':w.foldl (gN (t1.length+t2.length) (gJ t1.length g1 g2)) 0=t1.length+t2.length:=b
  rw[b'];unfold fst uw;rw[a,<-aj];simp
 .have b':w.foldl (gN (t1.length+t2.length) (gJ t1.length g1 g2)) 0=k:=b
  rw[b'];unfold fst uw;rw[a,bj,ai hk];erw[gd' hk]
theorem VE(c2:∀j c k,c∈SG->g2 j c=some k->k<t2.length)(z2:∀j c,t2.length<=j->g2 j c=none)(h2:0<t2.length){w:List Nat}(hw:∀c∈w,c∈SG):(t1++t2++[none])[w.foldl (gN (t1.length+t2.length) (gJ t1.length g1 g2)) t1.length]?=some (fst t2 g2 w):=by
 have r:=yS (e:=(·+t1.length)) (VC (t1:=t1) (g1:=g1) z2) c2 (λj c hj=>by show gN _ _ (j+t1.length) c=_;unfold gN gJ;rw[if_neg ∅,rL]) w 0 h2 hw;rw[kZ] at r;rcases r with⟨a,b⟩|⟨k,hk,a,b⟩
 .rw[b];unfold fst uw;rw[a,<-aj];simp
 .rw[b];unfold fst uw;rw[a,bj,ax ∅,rL,ai hk];erw[gd' hk]
theorem NQ(c1:∀j c k,c∈SG->g1 j c=some k->k<t1.length)(c2:∀j c k,c∈SG->g2 j c=some k->k<t2.length)(j c:Nat)(hc:c∈SG):gN (t1.length+t2.length) (gJ t1.length g1 g2) j c<(t1++t2++[none]).length:=by
 have l:(t1++t2++[none]).length=t1.length+t2.length+1:=by rw[aj,aj];rfl
 rw[l]
 unfold gN gJ;split
 .cases e:g1 j c with
  |none=>erw[cv _]
  |some k=>have:=c1 j c k hc e;erw[aq this ∅]
 .cases e:g2 (j-t1.length) c with
  |none=>erw[cv _]
  |some k=>have:=c2 _ c k hc e;show k+t1.length<_;omega
end
def DF(ts ts':List Tr)(w:List Nat):Prop:=(∀c∈w,c∈SG)/\∃o o',AI ts w o/\AI ts' w o'/\o≠o'
theorem Rk:DF ts ts'=DF ts' ts:=funext λw=>propext #[λ⟨h,o,o',a,b,c⟩=>#[h,o',o,b,a,bZ c],λ⟨h,o,o',a,b,c⟩=>#[h,o',o,b,a,bZ c]]
theorem MY(w:List Nat):¬DF ts ts w:=λ⟨_,_,_,a,b,c⟩=>c (rq a b)
theorem JG{ts ts':List Tr}{f f':List Nat->Option Nat}(h:∀w,(∀c∈w,c∈SG)->AI ts w (f w))(h':∀w,(∀c∈w,c∈SG)->AI ts' w (f' w))(w:List Nat):DF ts ts' w↔(∀c∈w,c∈SG)/\f w≠f' w:=
 #[λ⟨k,o,o',a,b,c⟩=>#[k,by rw[rq (h w k) a,rq (h' w k) b];erw[c]],λ⟨k,c⟩=>#[k,_,_,h w k,h' w k,c]]
theorem Rl{a b d:List Tr}{f f':List Nat->Option Nat}(ha:∀w,(∀c∈w,c∈SG)->AI a w (f w))(hb:∀w,(∀c∈w,c∈SG)->AI b w (f' w))(h:∀w,¬DF a b w):DF a d=DF b d:=by
 have e:∀w,(∀c∈w,c∈SG)->f w=f' w:=λw k=>gG λz=>h w ((JG ha hb w).mpr #[k,z])
 rwa[funext λw=>propext #[λ⟨k,o,o',x,y,z⟩=>#[k,o,o',?_,y,z],λ⟨k,o,o',x,y,z⟩=>#[k,o,o',?_,y,z]]]
 .rw[rq x (ha w k),e w k];erw[hb w k]
 .rw[rq x (hb w k),<-e w k];erw[ha w k]
open PL.A4
theorem JH:∀l:List Nat,(∃c∈l,p c=true)->∃(c:Nat)(r:List Nat)(i:Nat),l.filter p=c::r/\l[i]?=some c/\p c=true/\∀j c',j<i->l[j]?=some c'->¬p c'=true
 |[],h=>by let#[c,m,_]:=h;cases m
 |a::l,h=>by
  by_cases z:p a=true
  .exact#[a,l.filter p,0,by rw[ij,if_pos z],rfl,z,λj c' hj=>absurd hj (dS _)]
  .let#[c,m,hc]:=h
   have m':c∈l:=by
    rcases aP.mp m with e|e
    .rw[e] at hc;erw[absurd hc z]
    .erw[e]
   let#[c',r,i,e1,e2,e3,e4]:=JH l #[c,m',hc];refine#[c',r,i+1,by rw[ij,if_neg z];erw[e1],e2,e3,λj d hj e=>?_];cases j with
   |zero=>
    have:a=d:=by simpa using e
    rw[<-this];erw[z]
   |succ j=>erw[e4 j d (Nat.lt_of_succ_lt_succ hj) e]
theorem sC(p:Nat->Bool)(hg:g S)(he:∀n k,k (.str [n]) S->e (.str [n]) S k):
  ∀(l:List Nat)(acc:List U),(∀n∈l,∀k,k (p n) S->c (.str [n]) S k)->acc.length+l.length<1000000->Q (acc++(l.filter p).map kE) S->lX g c e Q (l.map λn=>.str [n]) acc S
 |[],acc,_,hl,q=>#[hg,by simpa using hl,by simpa using q]
 |n::l,acc,hc,hl,q=>by
  dsimp[aT] at hl;refine#[hg,∅,hc n (by simp) _ ?_];have hc':∀m∈l,∀k,k (p m) S->c (.str [m]) S k:=λm h=>hc m (aB _ h)
  by_cases h:p n=true
  .rw[h]
   rwa[he n _ ?_];rwa[sC p hg he l _ hc' (by simp;omega) ?_];rw[ij,if_pos h] at q;simpa[kE] using q
  .rw[fD] at h
   rw[h]
   rwa[sC p hg he l _ hc' ∅ ?_];rw[ij,if_neg (by rw[h];decide)] at q;erw[q]
theorem two_le:[a,b].length<=1000000:=by show 2<=1000000;decide
def Rm:Spec:=λus S Q _=>∃(n i j:Nat)(b:List Nat),us=[.loc n,.tup [aQ i,aQ j]]/\S[n]?=some (.lst (b.map aQ))/\i<b.length/\j<b.length/\Q (.bl (!(b.getD i 0==b.getD j 0))) S
theorem JI(h:q (!(a==b))):fV .ne (aQ a) (aQ b) S q:=by
 show fV .ne (.int _) (.int _) S q
 rw[Nq]
 refine#[rfl,?_];rw[XH]
 have:(((a:Nat):Int)== ((b:Nat):Int))=(a==b):=by
  rw[cY,beq_iff_eq,beq_iff_eq];omega
 rw[this];erw[h]
theorem VF(Γ:b8):Keeps Γ lD 0 Rm:=by
 rintro us S Q E ⟨n,i,j,b,rfl,h,hi,hj,q⟩;unfold lD;room;refine#[two_le,?_];show C5 (.loc n) (.int ((i:Nat):Int)) S _;rw[Ht,h,aC]
 rwa[sv hi #[two_le,?_]];show C5 (.loc n) (.int ((j:Nat):Int)) S _;rw[Ht,h,aC]
 erw[sv hj (JI q)]
def JJ:Spec:=λus S Q _=>∃(n i j c:Nat)(ls:List Nat)(g:Nat->Nat->Nat),us=[.loc n,.tup [aQ i,aQ j],.str [c]]/\Rw S n ls g/\i<ls.length/\j<ls.length/\c∈SG/\Q (.tup [aQ (g i c),aQ (g j c)]) S
theorem NR(R:Rw S n ls g)(hi:i<ls.length)(hc:c∈SG)(q:r (aQ (g i c))):C5 (.loc n) (aQ i) S λv=>Ln v (.str [c]) S r:=by
 show C5 (.loc n) (.int ((i:Nat):Int)) S _
 rw[Ht,R.l,aC]
 have e:ls[i]?=some ls[i]:=ab hi;rwa[at_of e ?_];rw[TM,R.d _ _ e]
 refine#[rfl,?_];rw[vF hc]
 erw[q]
theorem VG(Γ:b8):Keeps Γ iJ 0 JJ:=by
 rintro us S Q E ⟨n,i,j,c,ls,g,rfl,R,hi,hj,hc,q⟩;unfold iJ;room;exact#[two_le,NR R hi hc #[two_le,NR R hj hc #[two_le,q]]]
def MZ:Spec:=λus S Q _=>∃(nb nr i j:Nat)(b ls:List Nat)(g:Nat->Nat->Nat),us=[.loc nb,.loc nr,.tup [aQ i,aQ j]]/\S[nb]?=some (.lst (b.map aQ))/\Rw S nr ls g/\i<ls.length/\j<ls.length/\(∀c∈SG,g i c<b.length/\g j c<b.length)/\(∃c∈SG,b.getD (g i c) 0≠b.getD (g j c) 0) /\
 ∀c S',Fs (λc=>b.getD (g i c) 0≠b.getD (g j c) 0) c->Ext S S'->Q (.str [c]) S'
theorem VH(Γ:b8)(h1:Γ "are_apart"=Rm)(h2:Γ "states_behind"=JJ):Keeps Γ kB 0 MZ:=by
 rintro us S Q E ⟨nb,nr,i,j,b,ls,g,rfl,hb,R,hi,hj,hg,⟨c0,m0,n0⟩,q⟩;unfold kB ZS;let#[c,r,i0,e1,e2,e3,e4]:=JH (p:=λc=>!(b.getD (g i c) 0==b.getD (g j c) 0)) SG #[c0,m0,by simpa using n0];have gl:SG.length=95:=rfl;have hF:Fs (λc=>b.getD (g i c) 0≠b.getD (g j c) 0) c:=#[i0,e2,by simpa using e3,λj' c' a d=>by have:=e4 j' c' a d;simpa using this]
 have hR:∀c∈SG,∀(k:KU)E',k (.bl (!(b.getD (g i c) 0==b.getD (g j c) 0))) S->Γ "states_behind" [.loc nr,.tup [aQ i,aQ j],.str [c]] S (λu S1=>Γ "are_apart" [.loc nb,u] S1 k E') E':=λc hc k E' z=>by
  rw[h2]
  refine#[nr,i,j,c,ls,g,rfl,R,hi,hj,hc,?_];rw[h1]
  exact#[nb,_,_,b,rfl,hb,(hg c hc).1,(hg c hc).2,z]
 generalize SG=G at *;room;rwa[sC (λc=>!(b.getD (g i c) 0==b.getD (g j c) 0)) trivial (λ_ _ z=>z) G [] (λn hn k z=>hR n hn _ _ z) (by rw[gl];decide) ?_];rw[e1]
 have x:Ext S (S++[SO.lst ([]++(c::r).map kE)]):=Ext.app _;rw[show(S++[SO.lst ([]++(c::r).map kE)])[S.length]?=some (SO.lst ((c::r).map kE)) by simp,aC]
 erw[at_of (f:=kE) (l:=c::r) (j:=0) rfl (q c _ hF x)]
noncomputable def uS:Option (List Nat)->U
 |none=>.bQ
 |some x=>.str x
theorem Rn(h:∀c∈SG,P c↔P' c)(f:Fs P c):Fs P' c:=by
 let#[i,e,a,n]:=f;exact#[i,e,(h c (ak e)).mp a,λj c' hj e' z=>n j c' hj e' ((h c' (ak e')).mpr z)]
theorem fold_lt(hc:∀j c,j<N->c∈SG->g j c<N):∀(w:List Nat)(p:Nat),p<N->(∀c∈w,c∈SG)->w.foldl g p<N
 |[],_,hp,_=>hp
 |c::w,p,hp,hw=>fold_lt hc w _ (hc p c hp (hw c (by simp))) λc' m=>hw c' (aB _ m)
theorem DV(h:∀c∈x,c∈SG)(hc:c∈SG):∀c'∈x++[c],c'∈SG:=λc' m=>by
 rcases aR.mp m with m|m
 .erw[h _ m]
 .have:c'=c:=by simpa using m
  rw[this];erw[hc]
def VI:Spec:=λus S Q _=>∃(F nr p q:Nat)(fs ls:List Nat)(g:Nat->Nat->Nat)(told:List (Option Nat))(D:List Nat->Prop),us=[.loc F,.loc nr,.tup [aQ p,aQ q]]/\S[F]?=some (.lst (fs.map .loc))/\Jz told g S fs/\Rw S nr ls g/\told.length=ls.length/\ls.length<=9000/\(∀j c,j<told.length->c∈SG->g j c<told.length)/\p<told.length/\q<told.length/\(∀w,D w↔(∀c∈w,c∈SG)/\told[w.foldl g p]?≠told[w.foldl g q]?) /\
 ∀res S',CC D res->Ext S S'->Q (uS res) S'
structure YW(D:List Nat->Prop)(k i:Nat)(x:List Nat):Prop where
 l:x.length=i
 w:Dw D k x
 s:∀c∈x,c∈SG
 a:Ap D (k-i) x
theorem M0(Γ:b8)(h2:Γ "states_behind"=JJ)(h3:Γ "sign_apart"=MZ)(kl:k<=9001)(Rs:Jz told g S fs)(R:Rw S nr ls g)(tl:told.length=ls.length)(hc:∀j c,j<told.length->c∈SG->g j c<told.length)(hp:p<told.length)(hq:q<told.length)(hD:∀w,D w↔(∀c∈w,c∈SG)/\told[w.foldl g p]?≠told[w.foldl g q]?)(mn:∀j,j<k->¬Ap D j [])(hi:i<k)(hn:fs[k-1-i]?=some n)(I:YW D k i x)
  (z:∀S' x',Ext S S'->YW D k (i+1) x'->K [y0,some (.loc nr),y2,y3,some (.str x'),some (.tup [aQ (x'.foldl g p),aQ (x'.foldl g q)]),some (.loc n)] S'):
  Rest Γ Wq #[K,Q,E] [y0,some (.loc nr),y2,y3,some (.str x),some (.tup [aQ (x.foldl g p),aQ (x.foldl g q)]),some (.loc n)] S:=by
 let#[b,e1,e2]:=Rs.r _ _ hn;have ek:k-i=(k-1-i)+1:=∅
 have P:=fold_lt hc x p hp I.s;have P':=fold_lt hc x q hq I.s;have st:∀c r,(x++[c]).foldl g r=g (x.foldl g r) c:=λc r=>by rw[dm];rfl
 have key:∀c∈SG,(b.getD (g (x.foldl g p) c) 0≠b.getD (g (x.foldl g q) c) 0)↔Ap D (k-1-i) (x++[c]):=λc m=>by
  have a1:=e2.iff _ _ (hc _ c P m) (hc _ c P' m);have a2:=sA hD (k-1-i) (x++[c]) (DV I.s m);rw[st,st] at a2;rw[Ne,a1,a2]
  exact#[λh=>gG h,λh h'=>h' h]
 have ex:∃c∈SG,b.getD (g (x.foldl g p) c) 0≠b.getD (g (x.foldl g q) c) 0:=by
  have a:=I.a;rw[ek,VB λw h=>((hD w).mp h).1] at a;rcases a with⟨w,wl,d⟩|⟨c,m,a⟩
  .erw[absurd #[x++w,by rw[aj,I.l];omega,d] (mn (k-1) ∅)]
  .exact#[c,m,(key c m).mpr a]
 unfold Wq;room;rwa[ca h3 #[n,nr,_,_,b,ls,g,rfl,e1,R,by rw[<-tl];erw[P],by rw[<-tl];erw[P'],λc m=>by rw[e2.len];exact#[hc _ c P m,hc _ c P' m],ex,λc S1 f x1=>?_]];have m:c∈SG:=let ⟨_,e,_⟩:=f;ak e;have f':=Rn key f;room;have xl:=I.l;refine#[by rw[xl];show i+1<=1000000;omega,?_];room;refine#[by rw[aj,xl];show i+1<=1000000;omega,?_];rw[show(-1:Int)= -1 from rfl,ue]
 rwa[ca h2 #[nr,_,_,c,ls,g,rfl,R.ext x1,by rw[<-tl];erw[P],by rw[<-tl];erw[P'],m,?_]];room;rw[<-st,<-st]
 rwa[z S1 (x++[c]) x1 #[by rw[aj,xl];rfl,.snoc I.w (by rw[xl];erw[f']),DV I.s m,?_]];rw[show k-(i+1)=k-1-i by omega]
 exact(key c m).mp (let ⟨_,_,a,_⟩:=f;a)
theorem w_rev:WI Γ (.rev e) env S R E=WE Γ e env S (λx S1=>rZ x λn=>getL S1[n]? λus=>R us.reverse (λS'=>S'[n]?=some (.lst us)) S1) E:=rfl
theorem M3{l:List U}{k:Nat}:pS l none (some (k:Int))=l.take k:=by
 unfold pS;dsimp[jF,dZ,jr,show(0:Int).toNat=0 from rfl,Nat.zero_min,jj,Bl];rcases Nat.le_total k l.length with h|h
 .rw[Nat.min_eq_left h]
 .rw[uo h,jk h,bE]
theorem YX{n k:Nat}{us:List U}{S:bD}{Q:KU}(h:S[n]?=some (.lst us))(q:Q (.loc S.length) (S++[.lst (us.take k)])):RM (.loc n) none (some (k:Int)) S Q:=by
 refine#[#[λi h=>(by cases h),λi h=>?_],?_]
 .injection h with h;rw[<-h];erw[F3 _]
 .show getL S[n]? _
  rw[h,aC,M3];erw[q]
theorem M4(Γ:b8)(h2:Γ "states_behind"=JJ)(h3:Γ "sign_apart"=MZ)(fl:fs.length<=9001)(kl:k<fs.length)(hF:S[F]?=some (.lst (fs.map .loc)))(Rs:Jz told g S fs)(R:Rw S nr ls g)(tl:told.length=ls.length)(hc:∀j c,j<told.length->c∈SG->g j c<told.length)(hp:p<told.length)(hq:q<told.length)(hD:∀w,D w↔(∀c∈w,c∈SG)/\told[w.foldl g p]?≠told[w.foldl g q]?)(mn:∀j,j<k->¬Ap D j [])(ap:Ap D k [])
  (z:∀x S',CC D (some x)->Ext S S'->Q (.str x) S'):
  Rest Γ (.cons (.set 4 (.lit (.str []))) (.cons (.set 5 @2) (.cons (.je (.name 6) (.rev (.sl @0 .no (.e @3))) Wq) (.cons (.ret @4) .nil)))) #[λ_ S1=>Q .bQ S1,Q,λ_=>E] [some (.loc F),some (.loc nr),some (.tup [aQ p,aQ q]),some (aQ k),none,none,none] S:=by
 room;rw[w_rev]
 room;rwa[YX hF ?_];rw[<-List.map_take]
 have x1:Ext S (S++[SO.lst ((fs.take k).map U.loc)]):=Ext.app _;have g1:(S++[SO.lst ((fs.take k).map U.loc)])[S.length]?=some (.lst ((fs.take k).map U.loc)):=by simp
 generalize S.length=n1 at g1;generalize S++[SO.lst ((fs.take k).map U.loc)]=S1 at x1 g1;show getL S1[n1]? _;rw[g1,aC,<-List.map_reverse]
 have rs:∀S2,Ext S S2->Jz told g S2 fs:=λS2 x=>#[λk n e=>let ⟨b,a,c⟩:=Rs.r k n e;#[b,x.get a,c],Rs.ne,Rs.st,Rs.le]
 rwa[dO (λi env S2=>Ext S1 S2/\∃(x:List Nat)(y:Option U),YW D k i x/\env=[some (.loc F),some (.loc nr),some (.tup [aQ p,aQ q]),some (aQ k),some (.str x),some (.tup [aQ (x.foldl g p),aQ (x.foldl g q)]),y]) (λi env S2 h=>h.1.get g1) _ ?_ ?_ #[.refl,[],none,#[rfl,.nil,λc m=>(by cases m),by rw[Bl];erw[ap]],rfl]]
 .rintro i u env S2 K hu ⟨x2,x,y,I,rfl⟩ hK
  let#[n,en,rfl]:=fw hu;have hi:i<k:=by
   have:=(af.mp en).1;rw[Ef,cu] at this;erw[aq this (Nat.min_le_left _ _)]
  have tk:(fs.take k).length=k:=by rw[cu];omega
  rw[Bg (by rw[tk];erw[hi]),tk,List.getElem?_take,if_pos ∅] at en;erw[M0 Γ h2 h3 (k:=k) ∅ (rs S2 (x1.trans x2)) (R.ext (x1.trans x2)) tl hc hp hq hD mn hi en I λS3 x' x3 I'=>hK _ _ #[x2.trans x3,x',_,I',rfl]]
 .rintro env S2 ⟨x2,x,y,I,rfl⟩
  have tk:((fs.take k).reverse.map U.loc).length=k:=by rw[ag,Ef,cu];omega
  rw[tk] at I;room;have xl:=I.l;erw[z x S2 #[by rw[xl];exact ap,λj hj=>mn j ∅,by rw[xl];exact I.w] (x1.trans x2)]
theorem VJ(Γ:b8)(h1:Γ "are_apart"=Rm)(h2:Γ "states_behind"=JJ)(h3:Γ "sign_apart"=MZ):Keeps Γ kA 4 VI:=by
 rintro us S Q E ⟨F,nr,p,q,fs,ls,g,told,D,rfl,hF,Rs,R,tl,ll,hc,hp,hq,hD,z⟩;have fl:fs.length<=9001:=aI Rs.le ∅;have ap:∀k,Eqv told g k p q↔¬Ap D k []:=λk=>sA hD k [] (λc m=>by cases m)
 unfold kA;room;refine#[fs.length+1,mS (λN env S1=>∃k,N=fs.length-k/\k<=fs.length/\(∀i,i<k->¬Ap D i [])/\S1=S/\env=[some (.loc F),some (.loc nr),some (.tup [aQ p,aQ q]),some (aQ k),none,none,none]) ?_ _ fs.length _ _ (cv _) #[0,rfl,bP _,λi hi=>absurd hi (dS _),rfl,rfl]];rintro N env S1 K ⟨k,rfl,kl,inv,rfl,rfl⟩ hK;room;rw[lu hF,bB,ag]
 refine#[∅,?_];by_cases hk:k<fs.length
 .have e1:decide ((k:Int)<(fs.length:Int))=true:=by rw[decide_eq_true_iff];omega
  rw[if_pos e1,hF,aC]
  have en:fs[k]?=some fs[k]:=ab hk;rwa[at_of en ?_];let#[b,eb,rb]:=Rs.r _ _ en;rwa[ca h1 #[_,p,q,b,rfl,eb,by rw[rb.len];erw[hp],by rw[rb.len];erw[hq],?_]];have key:=(rb.iff p q hp hq).trans (ap k);by_cases e2:b.getD p 0=b.getD q 0
  .have e3:(b.getD p 0==b.getD q 0)=true:=by rw[beq_iff_eq];erw[e2]
   rw[e3]
   room;have e4:U.int ((k:Int)+1)=aQ (k+1):=rfl;rw[e4]
   exact hK (fs.length-(k+1)) _ _ ∅ #[k+1,rfl,hk,λi hi=>by
    rcases iV.mp hi with h|h
    .erw[inv i h]
    .rw[h];erw[key.mp e2],rfl,rfl]
  .have e3:(b.getD p 0==b.getD q 0)=false:=by rw[beq_eq_false_iff_ne];erw[e2]
   rw[e3]
   room;rw[lu hF,bB,ag]
   refine#[∅,?_];have e5:¬((k:Int)== (fs.length:Int))=true:=by rw[beq_iff_eq];omega
   rw[if_neg e5]
   rwa[Rest.go ?_];dsimp[Nu];erw[M4 Γ h2 h3 fl hk hF Rs R tl hc hp hq hD inv (gG λh=>e2 (key.mpr h)) λx S' d x'=>z (some x) S' d x']
 .have e1:¬decide ((k:Int)<(fs.length:Int))=true:=by rw[decide_eq_true_iff];omega
  rw[if_neg e1]
  room;rw[lu hF,bB,ag]
  refine#[∅,?_];have ek:k=fs.length:=∅
  have e5:((k:Int)== (fs.length:Int))=true:=by rw[beq_iff_eq];omega
  rw[if_pos e5]
  room;rwa[z none S1 (λw d=>?_) .refl];have f0:0<fs.length:=qe.mpr Rs.ne;have e6:fs.length-1+1=fs.length:=∅
  have e7:=(ap (fs.length-1)).mpr (inv _ ∅);have e8:=vI (m:=fs.length-1) hc (by rw[e6];erw[Rs.st]) w.length p q hp hq e7;exact(ap _).mp e8 #[w,Nat.le_add_left _ _,d]
theorem Ro(hd:S[d]?=some (.dU (sD (cQ SG f)))\/S[d]?=some (.pR (sD (cQ SG f))))
  (q:∀m S',Ext (S.set d (.pR (sD (cQ SG f)))) S'->S.length<=m->S'[m]?=some (.dU (sD (cQ SG λc=>(f c).map λk=>k+N)))->k (.loc m) S'):WE Γ Yi [some (.loc d),some (aQ N)] S k E:=by
 unfold Yi;have gl:SG.length=95:=rfl;have nd:=Cy;let#[ps,e1,e2,e3,e4,e5]:=yQ f (λk=>k+N) SG;have lk:∀p∈ps,tU (.str [p.1]) (sD (cQ SG f))=some (aQ p.2):=λp m=>by rw[AF,su,if_pos (e3 p m).1,(e3 p m).2];rfl
 rw[e2] at q;have ey:(sD (cQ SG f)).map (·.1)=ps.map λp=>U.str [p.1]:=by rw[e1];unfold sD;simp[cK]
 have nd':=e4 nd;generalize cQ SG f=rw0 at *;room;have e0:∀R,iy S[d]? R=R (sD rw0):=λR=>by rcases hd with h|h<;>rw[h]<;>rfl
 rw[e0,ey]
 have dl:d<S.length:=by rcases hd with h|h<;>exact aX h
 have g1:(S.set d (.pR (sD rw0)))[d]?=some (.pR (sD rw0)):=bg dl;have l1:(S.set d (.pR (sD rw0))).length=S.length:=cg;generalize S.set d (.pR (sD rw0))=S1 at g1 q l1;rwa[jT (S:=S1) _ (ps.map λp=>.tup [.str [p.1],aQ (p.2+N)]) (by simp) (by simp;omega) (λS' x=>x.get g1) (λu S' k h=>h) (λj u v hu hv S2 k x' hk=>?_) λS2 x'=>?_]
 .rw[aD] at hu hv
  let#[p,hp,rfl]:=ar.mp hu;rw[hp] at hv;have hv:U.tup [.str [p.1],aQ (p.2+N)]=v:=by simpa using hv
  subst hv;have m:=ak hp;rw[x'.get g1]
  refine#[rfl,?_];rw[lk p m]
  exact#[two_le,hk S2 .refl]
 .refine#[ps.map λp=>([p.1],aQ (p.2+N)),by simp[cK],?_,?_]
  .rw[bx]
   show(ps.map λp=>[p.1]).Nodup
   have e:(ps.map λp=>[p.1])=(ps.map (·.1)).map λc=>[c]:=by rw[bx];rfl
   rw[e]
   erw[nU _ (λa b h z=>h (FQ z).1) nd']
  .erw[q _ _ (x'.trans ((Ext.app _).trans (Ext.app _))) (by have:=x'.1;rw[aj];omega) (by rw[ax (au _),bO];rfl)]
def VL:Spec:=λus S Q _=>∃(n N:Nat)(ls:List Nat)(go:Nat->Nat->Option Nat),us=[.loc n,aQ N]/\Rp S n ls go/\ls.length<=5000/\∀(m:Nat)(S':bD)(ms:List Nat),Kp ls S S'->ms.length=ls.length->S'[m]?=some (.lst (ms.map .loc))->(∀(j d:Nat),ms[j]?=some d->S'[d]?=some (.dU (sD (cQ SG λc=>(go j c).map λk=>k+N))))->Q (.loc m) S'
structure MvI(S:bD)(n N:Nat)(ls:List Nat)(go:Nat->Nat->Option Nat)(i:Nat)(ms:List Nat)(S1:bD):Prop where
 k:Kp ls S S1
 l:ms.length=i
 o:∀(j d:Nat),ls[j]?=some d->S1[d]?=some (.dU (sD (cQ SG (go j))))\/S1[d]?=some (.pR (sD (cQ SG (go j))))
 d:∀(j d:Nat),ms[j]?=some d->S.length<=d/\S1[d]?=some (.dU (sD (cQ SG λc=>(go j c).map λk=>k+N)))
theorem VM(Γ:b8):Keeps Γ tY 0 VL:=by
 rintro us S Q E ⟨n,N,ls,go,rfl,R,hl,q⟩;unfold tY;have lo:∀(j d:Nat),ls[j]?=some d->d<S.length:=λj d e=>aX (R.d j d e)
 have nn:n∉ls:=λh=>by
  let#[j,e]:=bL h;have:=R.d j n e;rw[R.l] at this;cases this
 room;rw[R.l,aC]
 refine gD (ls.map U.loc) (λi acc S1=>∃ms:List Nat,acc=ms.map .loc/\MvI S n N ls go i ms S1) (λi acc S1 hi h=>?_) (λi u acc S1 k hu hi hk=>?_) (λacc S1 h=>?_) #[[],rfl,.refl,rfl,λj d e=>.inl (R.d j d e),λj d e=>by simp at e]
 .let#[ms,rfl,I]:=h
  rw[ag] at hi;exact#[I.k.get R.l nn,by rw[ag,I.l];omega]
 .let#[ms,rfl,I]:=hi
  let#[d,ed,rfl]:=fw hu;rwa[Ro (I.o i d ed) λm S2 x2 ml g2=>?_]
  have mX:=ak ed;have dl:=lo i d ed;have kl:S.length<=S1.length:=I.k.1;have ne:∀{a:Nat}{o:SO},a≠d->S1[a]?=some o->S2[a]?=some o:=λ{a o}h e=>x2.get (by rw[ah (bZ h)];erw[e])
  have g3:S2[d]?=some (.pR (sD (cQ SG (go i)))):=x2.get (bg (aq dl kl));rwa[hk _ _ #[ms++[m],by rw[aH];rfl,I.k.trans ((Kp.set mX).trans (Ext.kp x2)),by rw[aj,I.l];rfl,λj d' e=>?_,λj d' e=>?_]]
  .by_cases h:d'=d
   .subst h
    have a:=I.o i d' ed;have b:=I.o j d' e;have:sD (cQ SG (go i))=sD (cQ SG (go j)):=by
     rcases a with a|a<;>rcases b with b|b<;>rw[a] at b<;>injection b with b<;>first| (injection b with b)|cases b
    erw[.inr (by rw[<-this];exact g3)]
   .exact(I.o j d' e).imp (ne h) (ne h)
  .rcases mV e with e|⟨rfl,rfl⟩
   .have z:=I.d j d' e
    exact#[z.1,ne (cx (aq dl z.1)) z.2]
   .rw[I.l]
    exact#[aI kl ml,g2]
 .let#[ms,rfl,I]:=h
  have x:=Ext.app (S:=S1) [SO.lst (ms.map U.loc)];exact q _ _ ms (I.k.trans (Ext.kp x)) (by have:=I.l;rw[ag] at this;erw[this]) (by simp) λj d e=>x.get (I.d j d e).2
def VN:Spec:=λus S Q _=>∃(T k R:Nat)(told:List (Option Nat)),us=[.loc T]/\S[T]?=some (Ke k told R)/\told.length<=1000000/\Q (aQ told.length) S
theorem VO(Γ:b8):Keeps Γ kz 0 VN:=by
 rintro us S Q E ⟨T,k,R,told,rfl,h,hl,q⟩;unfold kz;room;rw[Ft h]
 room;try rw[ag]
 exact#[hl,q]
def JK:Spec:=λus S Q _=>∃(n n':Nat)(xs xs':List (List Nat))(ts ts':List Tr),us=[.loc n,.loc n']/\S[n]?=some (.lst (xs.map .str))/\S[n']?=some (.lst (xs'.map .str))/\QK ts xs/\v9 ts/\fA ts<=10/\QK ts' xs'/\v9 ts'/\fA ts'<=10/\∀res S',CC (DF ts ts') res->Ext S S'->Q (uS res) S'
theorem VP(Γ:b8)(h1:Γ "table_of"=Fy)(h2:Γ "Table.size"=VN)(h3:Γ "moved"=VL)(h4:Γ "with_nowhere"=Jx)(h5:Γ "rounds"=JA)(h6:Γ "text_apart"=VI):Keeps Γ kr 4 JK:=by
 rintro us S Q E ⟨n,n',xs,xs',ts,ts',rfl,gn,gn',r1,t1,s1,r2,t2,s2,q⟩;unfold kr;room;rwa[ca h1 #[n,xs,ts,rfl,gn,r1,t1,s1,λT told ls go S1 tb p0 hf x1 nw=>?_]];room;rwa[ca h1 #[n',xs',ts',rfl,x1.get gn',r2,t2,s2,λT' told' ls' go' S2 tb' p0' hf' x2 nw'=>?_]];let#[k,R,g1,g2,g3]:=(tb.ext x2).o;let#[k',R',g1',g2',g3']:=tb'.o;have l1:=tb.sz;have l2:=tb'.sz;have l3:=tb.ll;have l4:=tb'.ll;room;rw[Ft g1,Ft g1']
 room;refine#[by rw[ag,ag];omega,⋯,by rw[aj,ag,ag];show _+1<=_;omega,?_];have e1:told.map uN++told'.map uN++[U.bQ]=(told++told'++[none]).map uN:=by rw[aH,aH];rfl
 rw[e1]
 room;rw[JC g1,JC g1',g1]
 refine#[#[rfl,rfl],ca h2 #[T,k,R,told,rfl,g1,∅,?_]];refine ca h3 #[R',told.length,ls',go',rfl,g3',∅,λm S3 ms kp ml gm gd=>?_];have nd:∀{a:Nat}{o:SO},S2[a]?=some o->(∀j,o≠.dU (sD (cQ SG (go' j))))->a∉ls':=λ{a o}h ho z=>by
  let#[j,hj]:=bL z;have:=g3'.d j a hj;rw[h] at this;erw[ho j (aJ this)]
 have gT:S3[T]?=some (Ke k told R):=kp.get g1 (nd g1 (by intro j;unfold Ke;intro z;cases z));have gR:S3[R]?=some (.lst (ls.map .loc)):=kp.get g3.l (nd g3.l (by intro j z;cases z));have gl:∀(j d:Nat),ls[j]?=some d->S3[d]?=some (.dU (sD (cQ SG (go j)))):=λj d e=>by
  rwa[kp.get (g3.d j d e) λz=>?_]
  let#[_,_,_,_,r]:=tb.o;erw[ur (aX (r.d j d e)) (nw' d z)]
 have x3:Ext S S3:=#[aI (aI x1.1 x2.1) kp.1,λa h=>by
  have h1:=aq h x1.1;rw[kp.2 a (aq h1 x2.1) λz=>ur h1 (nw' a z),x2.2 a h1,x1.2 a h]]
 have z2:=g3'.z;rw[l4] at z2;have c1:=tb.cl;have c2:=tb'.cl
 clear g1 g2 g3 g1' g2' g3' x1 x2 gn gn' nw nw' kp nd
 room;rw[gR,aC,gm,aC]
 refine#[by rw[ag,ag];omega,?_];rw[<-aH]
 have x4:Ext S3 (S3++[SO.lst ((ls++ms).map U.loc)]):=Ext.app _;have g4:(S3++[SO.lst ((ls++ms).map U.loc)])[S3.length]?=some (.lst ((ls++ms).map U.loc)):=by simp
 generalize S3.length=n4 at g4;generalize S3++[SO.lst ((ls++ms).map U.loc)]=S4 at x4 g4;have ll:(ls++ms).length=told.length+told'.length:=by rw[aj];omega
 have rp:Rp S4 n4 (ls++ms) (gJ told.length go go'):=by
  refine#[g4,λj d e=>?_,λj c hj=>?_]
  .by_cases h:j<ls.length
   .rw[ai h] at e
    have:gJ told.length go go' j=go j:=funext λc=>by unfold gJ;rw[if_pos ∅]
    rw[this]
    erw[x4.get (gl j d e)]
   .rw[ax ∅] at e
    have:gJ told.length go go' j=λc=>(go' (j-ls.length) c).map λk=>k+told.length:=funext λc=>by unfold gJ;rw[if_neg ∅,l3]
    rw[this]
    erw[x4.get (gd _ d e)]
  .rw[ll] at hj
   unfold gJ;rw[if_neg ∅,z2 _ _ ∅];rfl
 rwa[ca h4 #[n4,ls++ms,_,rfl,rp,∅,λnr S5 m5 x5 ml5 R5=>?_]];rw[ll] at R5 ml5;have tl:(told++told'++[none]).length=told.length+told'.length+1:=by rw[aj,aj];rfl
 room;rwa[ca h5 #[nr,m5,_,told++told'++[none],rfl,R5,∅,∅,∅,λj c _ hc=>NQ c1 c2 j c hc,λF fs S6 x6 gF Rs=>?_]];have x46:=x4.trans (x5.trans x6);room;have gT6:=x46.get gT;rw[gT6]
 refine#[#[rfl,rfl],ca h2 #[T,k,R,told,rfl,gT6,∅,two_le,?_]];rwa[ca h6 #[F,nr,0,told.length,fs,m5,_,told++told'++[none],DF ts ts',rfl,gF,Rs,R5.ext x6,∅,∅,λj c _ hc=>NQ c1 c2 j c hc,∅,∅,λw=>?_,λres S7 d x7=>q res S7 d ((x3.trans x46).trans x7)]];rw[JG hf hf' w]
 refine#[λ⟨a,b⟩=>#[a,?_],λ⟨a,b⟩=>#[a,?_]]
 .rw[VD c1 z2 p0 a,VE c2 z2 p0' a]
  erw[λh=>b (aJ h)]
 .rw[VD c1 z2 p0 a,VE c2 z2 p0' a] at b
  erw[λh=>b (by rw[h])]
theorem VQ(h:ny t)(d:cz t<4):sY (40::(wr t++[41]))= .ok (enc t,[]):=DG (vC (oW (rm (yG (mU t 5 h ∅).2.2))))
theorem Rr(h4:Γ "written"=A5 (λt=>cz t<=3\/(wb t/\cz t<=3+1)) wr)(g2:S[nt]?=some (.lst (ts.map enc)))(hT:v9 ts)(hV:∀t∈ts,ny t)(q:∀n S',Ext S S'->S.length<=n->S'[n]?=some (.lst ((ts.map wr).map .str))->k (.loc n) S'):
  WE Γ Yj [y0,y1,y2,some (.loc nt),y4] S k E:=by
 have tl:=hT.len;unfold Yj;room;rw[g2,aC]
 rwa[gD (ts.map enc) (λi acc S3=>Ext S S3/\acc=((ts.take i).map wr).map .str) (λi acc S3 hi h9=>#[h9.1.get g2,by rw[h9.2,ag,ag,cu];omega]) (λi u acc S3 k hu hi hk=>?_) (λacc S3 h=>?_) #[.refl,rfl]]
 .let#[x3,rfl]:=hi
  let#[t,et,rfl]:=fw hu;have mt:=ak et;have d4:=hT.dp t mt;rwa[ca h4 #[t,rfl,.inl ∅,hV t mt,d4,λS4 x4=>hk _ _ #[x3.trans x4,?_]]];rw[fc,et,aH,aH];rfl
 .let#[x3,rfl]:=h
  rw[ag,bE]
  erw[q _ _ (x3.trans (Ext.app _)) x3.1 (by simp)]
theorem Rt(hT:v9 ts)(hV:∀t∈ts,ny t):QK ts (ts.map wr):=by
 refine#[by rw[ag],λj t y e e'=>?_];rw[aD,e] at e';cases e';have m:=ak e;exact#[by have:=(ja (hV t m) (hT.dp t m)).2.2;omega,[],MN (hV t m) (hT.dp t m)]
theorem Rv(hT:v9 ts)(hV:∀t∈ts,ny t):QK ts (ts.map λt=>40::(wr t++[41])):=by
 refine#[by rw[ag],λj t y e e'=>?_];rw[aD,e] at e';cases e';have m:=ak e;exact#[by have:=(ja (hV t m) (hT.dp t m)).2.2;simp;omega,[],VQ (hV t m) (hT.dp t m)]
structure YY(S:bD)(n:Nat)(ts:List Tr):Prop where
 g:S[n]?=some (.lst ((ts.map wr).map .str))
 t:v9 ts
 v:∀t∈ts,ny t
 z:fA ts<=10
structure YZ(S:bD)(L i:Nat)(ms:List Nat)(tss:List (List Tr)):Prop where
 g:S[L]?=some (.lst (ms.map .loc))
 l:ms.length=i
 l':tss.length=i
 r:∀(j n:Nat)(ts:List Tr),ms[j]?=some n->tss[j]?=some ts->n≠L/\YY S n ts
theorem M5(Γ:b8)(h1:Γ "_law_mix"=tX.xv)(h2:Γ "_law_trees"=MM)(h4:Γ "written"=A5 (λt=>cz t<=3\/(wb t/\cz t<=3+1)) wr)(hl:ns.length<=63)(hi:i<3)(I:YZ S L i ms tss)
  (z:∀S' ms tss y3,YZ S' L (i+1) ms tss->K [some (.rY ns),some (.loc L),some (aQ i),y3,y4] S'):
  Rest Γ Yl #[K,Q,E] [some (.rY ns),some (.loc L),some (aQ i),y3,y4] S:=by
 unfold Yl;room;refine#[.inl ∅,ca h1 #[ns,_,rfl,∅,λm m0 m1=>#[∅,?_]]];rwa[ca h2 #[ns,_,_,1,rfl,⋯,∅,∅,∅,λts nt S2 hT hV hz x1 g2=>?_]];room;rw[x1.get I.g,aC]
 refine#[trivial,Rr h4 g2 hT hV λn S3 x3 nl g3=>?_];have x13:=x1.trans x3;have gL:=x13.get I.g;have Ll:=aX I.g;rw[gL,aC]
 refine#[by rw[ag,I.l];omega,?_];room;have nL:n≠L:=cx (aq (aq Ll x1.1) nl);have ne:∀{a:Nat}{o o':SO},a≠L->S3[a]?=some o->(S3.set L o')[a]?=some o:=λ{a o o'}h e=>by rw[ah (bZ h)];erw[e]
 rwa[z _ (ms++[n]) (tss++[ts]) _ #[by rw[gs gL,aH];rfl,by rw[aj,I.l];rfl,by rw[aj,I.l'];rfl,λj n' ts' e e'=>?_]];rcases mV e with e|⟨rfl,rfl⟩
 .rcases mV e' with e'|⟨rfl,rfl⟩
  .let#[a,b]:=I.r j n' ts' e e'
   exact#[a,ne a (x13.get b.g),b.t,b.v,b.z]
  .have:=aX e
   rw[I.l,I.l'] at this;erw[absurd this (dk _)]
 .rcases mV e' with e'|⟨_,rfl⟩
  .have:=aX e'
   rw[I.l,I.l'] at this;erw[absurd this (dk _)]
  .exact#[nL,ne nL g3,hT,hV,∅]
structure Ru(S:bD)(n:Nat)(ts:List Tr):Prop where
 g:∃xs:List (List Nat),S[n]?=some (.lst (xs.map .str))/\QK ts xs
 t:v9 ts
 z:fA ts<=10
theorem Ru.ext(h:Ru S n ts)(x:Ext S S'):Ru S' n ts:=#[let ⟨xs,a,b⟩:=h.g;#[xs,x.get a,b],h.t,h.z]
theorem rA{Γ:b8}(h:Γ "difference"=JK){S:bD}{L i j n n':Nat}{ms:List Nat}{ts ts':List Tr}{y0 y2 y3 y4:Option U}{k:KU}{E:KX}(gL:S[L]?=some (.lst (ms.map .loc)))(e:ms[i]?=some n)(e':ms[j]?=some n')(r:Ru S n ts)(r':Ru S n' ts')(q:∀res S',CC (DF ts ts') res->Ext S S'->k (uS res) S'):
  WE Γ (Pg i j) [y0,some (.loc L),y2,y3,y4] S k E:=by
 unfold Pg;let#[xs,g1,a1]:=r.g;let#[xs',g2,a2]:=r'.g;room;rw[gL,aC]
 rwa[at_of e ?_];show getL S[n]? _;rw[g1,aC]
 have x1:Ext S (S++[SO.lst (xs.map U.str)]):=Ext.app _;have g3:(S++[SO.lst (xs.map U.str)])[S.length]?=some (.lst (xs.map U.str)):=by simp
 generalize S.length=n3 at g3;generalize S++[SO.lst (xs.map U.str)]=S1 at x1 g3;show getL S1[L]? _;rw[x1.get gL,aC]
 rwa[at_of e' ?_];show getL S1[n']? _;rw[x1.get g2,aC]
 have x2:Ext S1 (S1++[SO.lst (xs'.map U.str)]):=Ext.app _;have g4:(S1++[SO.lst (xs'.map U.str)])[S1.length]?=some (.lst (xs'.map U.str)):=by simp
 generalize S1.length=n4 at g4;generalize S1++[SO.lst (xs'.map U.str)]=S2 at x2 g4;erw[ca h #[n3,n4,xs,xs',ts,ts',rfl,x2.get g3,g4,a1,r.t,r.z,a2,r'.t,r'.z,λres S' d x=>q res S' d ((x1.trans x2).trans x)]]
theorem VR(h:q true):fV .eq (uS r) (uS r) S q:=by
 cases r with
 |none=>show fV .eq .bQ .bQ S q;rw[TF,TJ];erw[h]
 |some x=>show fV .eq (.str x) (.str x) S q;rw[Hs,Lz,beq_self_eq_true];erw[h]
theorem VS(h:q false):fV .ne (uS r) (uS r) S q:=by
 cases r with
 |none=>show fV .ne .bQ .bQ S q;rw[Nr];exact#[rfl,by rw[TJ];erw[h]]
 |some x=>show fV .ne (.str x) (.str x) S q;rw[TH];exact#[rfl,by rw[Lz,beq_self_eq_true];erw[h]]
theorem JL:∃o,AI ts w o:=by
 by_cases h:∃i,AI ts w (some i)
 .let#[i,a]:=h
  exact#[_,a]
 .refine#[none,λi=>?_]
  induction i using Nat.strongRecOn with
  |ind i ih=>erw[λt e z=>h #[i,#[t,e,z],λi' t' l e'=>ih i' l t' e']]
theorem NS(ts:List Tr):∃f:List Nat->Option Nat,∀w,(∀c∈w,c∈SG)->AI ts w (f w):=#[λw=>Classical.choose (JL (ts:=ts) (w:=w)),λw _=>Classical.choose_spec (JL (ts:=ts) (w:=w))]
theorem Rx(h:o≠o')(z:q true):fV .ne (uN o) (uN o') S q:=by
 cases o with
 |none=>cases o' with
  |none=>erw[absurd rfl h]
  |some j=>unfold uN;rw[Nr];exact#[rfl,by rw[XJ];erw[z]]
 |some i=>cases o' with
  |none=>unfold uN;rw[Nq];exact#[rfl,by rw[XI];erw[z]]
  |some j=>
   rwa[JI (a:=i) (b:=j) ?_];rw[show(i==j)=false by rw[beq_eq_false_iff_ne];erw[λe=>h (by rw[e])]]
   erw[z]
theorem DW(Γ:b8)(h1:Γ "difference"=JK)(h2:Γ "table_of"=Fy)(h3:Γ "Table.first"=Fu){S:bD}{L n0 n1 n2:Nat}{t0 t1 t2:List Tr}{y0 y2 y3 y4:Option U}{Q:KU}{K:Env->bD->Prop}{E:Env->KX}(gL:S[L]?=some (.lst ([n0,n1,n2].map .loc)))(r0:Ru S n0 t0)(r1:Ru S n1 t1)(r2:Ru S n2 t2)(q:∀S',Q (.bl true) S'):
  Rest Γ Wr #[K,Q,E] [y0,some (.loc L),y2,y3,y4] S:=by
 unfold Wr;room;rwa[rA (i:=0) (j:=0) h1 gL rfl rfl r0 r0 λres S1 d x1=>?_]
 have e1:res=none:=yR d (MY (ts:=t0));subst e1;room;rwa[rA (i:=0) (j:=1) h1 (x1.get gL) rfl rfl (r0.ext x1) (r1.ext x1) λres S2 d2 x2=>?_]
 have x12:=x1.trans x2;room;rwa[rA (i:=1) (j:=0) h1 (x12.get gL) rfl rfl (r1.ext x12) (r0.ext x12) λres' S3 d3 x3=>?_]
 have e2:res'=res:=yR (by rw[Rk];erw[d3]) d2;subst e2;have x13:=x12.trans x3;rwa[VS ?_];room;cases res' with
 |none=>
  show Rest Γ _ _ [y0,some (.loc L),y2,y3,some .bQ] S3
  room;rwa[rA (i:=0) (j:=2) h1 (x13.get gL) rfl rfl (r0.ext x13) (r2.ext x13) λra S4 d4 x4=>?_]
  have x14:=x13.trans x4;rwa[rA (i:=1) (j:=2) h1 (x14.get gL) rfl rfl (r1.ext x14) (r2.ext x14) λrb S5 d5 x5=>?_]
  let#[f,hf]:=NS t0;let#[f',hf']:=NS t1;have e3:DF t0 t2=DF t1 t2:=Rl hf hf' d2;rw[<-e3] at d5;have e4:rb=ra:=yR d5 d4;rw[e4]
  erw[VR (q S5)]
 |some x=>
  show Rest Γ _ _ [y0,some (.loc L),y2,y3,some (.str x)] S3
  room;have dx:=VA d2;let#[xs,g1,a1]:=(r0.ext x13).g;rw[x13.get gL,aC]
  rwa[at_of (l:=[n0,n1,n2]) (j:=0) rfl (ca h2 #[n0,xs,t0,rfl,g1,a1,r0.t,r0.z,λT told ls go S4 tb p0 hf x4 _=>?_])];let#[k,R,gT,_,_]:=tb.o;have x14:=x13.trans x4;show oa S4[T]? _;rw[gT]
  refine#[#[rfl,rfl],ca h3 #[T,told,ls,go,x,rfl,tb,p0,dx.1,?_]];let#[xs',g1',a1']:=(r1.ext x14).g;show getL S4[L]? _;rw[x14.get gL,aC]
  rwa[at_of (l:=[n0,n1,n2]) (j:=1) rfl (ca h2 #[n1,xs',t1,rfl,g1',a1',r1.t,r1.z,λT' told' ls' go' S5 tb' p0' hf' x5 _=>?_])];let#[k',R',gT',_,_]:=tb'.o;show oa S5[T']? _;rw[gT']
  refine#[#[rfl,rfl],ca h3 #[T',told',ls',go',x,rfl,tb',p0',dx.1,?_]];erw[Rx ((JG hf hf' x).mp dx).2 (q S5)]
theorem JM(h:YY S n ts):Ru S n ts:=#[#[_,h.g,Rt h.t h.v],h.t,h.z]
theorem Ry(gL:S[L]?=some (.lst ((n0::us).map .loc)))(r:YY S n0 ts)(q:∀n S',Ext S S'->S.length<=n->S'[n]?=some (.lst ((ts.map λt=>40::(wr t++[41])).map .str))->k (.loc n) S'):WE Γ A4.Yk [y0,some (.loc L),y2,y3,y4] S k E:=by
 have tl:=r.t.len;unfold A4.Yk;room;rw[gL,aC]
 rwa[at_of (l:=n0::us) (j:=0) rfl ?_];show getL S[n0]? _;rw[r.g,aC]
 rwa[gD ((ts.map wr).map .str) (λi acc S3=>Ext S S3/\acc=((ts.take i).map λt=>40::(wr t++[41])).map .str) (λi acc S3 hi h9=>#[h9.1.get r.g,by rw[h9.2,ag,ag,cu];omega]) (λi u acc S3 k hu hi hk=>?_) (λacc S3 h=>?_) #[.refl,rfl]]
 .let#[x3,rfl]:=hi
  let#[y,ey,rfl]:=fw hu;rw[aD] at ey;let#[t,et,rfl]:=ar.mp ey;have mt:=ak et;have ln:=(ja (r.v t mt) (r.t.dp t mt)).2.2;room;refine#[by show 1+_<=_;omega,by rw[aT];show _+1+1<=_;omega,hk _ _ #[x3,?_]];rw[fc,et,aH,aH];rfl
 .let#[x3,rfl]:=h
  rw[ag,ag,bE]
  erw[q _ _ (x3.trans (Ext.app _)) x3.1 (by simp)]
theorem JN(Γ:b8)(h1:Γ "_law_mix"=tX.xv)(h2:Γ "_law_trees"=MM)(h4:Γ "written"=A5 (λt=>cz t<=3\/(wb t/\cz t<=3+1)) wr)(h5:Γ "table_of"=Fy)(h6:Γ "difference"=JK)(h7:Γ "Table.first"=Fu):Keeps Γ A4.Dc 4 (λus _ Q _=>∃ns:List Int,us=[.rY ns]/\ns.length<=63/\∀S',Q (.bl true) S'):=by
 rintro us S Q E ⟨ns,rfl,hl,q⟩;unfold A4.Dc;room;refine#[by simp,?_];have g0:(S++[SO.lst []])[S.length]?=some (.lst (([]:List Nat).map .loc)):=by simp
 generalize S.length=L at g0;generalize S++[SO.lst []]=S0 at g0;room;try refine#[∅,∅,?_]
 refine dO (λi env S1=>∃(ms:List Nat)(tss:List (List Tr))(y2 y3:Option U),env=[some (.rY ns),some (.loc L),y2,y3,none]/\YZ S1 L i ms tss) (λ_ _ _ _=>trivial) _ ?_ ?_ #[[],[],none,none,rfl,g0,rfl,rfl,λj n ts e=>by simp at e]
 .rintro i u env S1 K hu ⟨ms,tss,y2,y3,rfl,I⟩ hK
  let#[rfl,hi]:=vq (n:=3) hu;erw[M5 Γ h1 h2 h4 hl hi I λS' ms tss y3 I'=>hK _ _ #[ms,tss,_,_,rfl,I']]
 .rintro env S1 ⟨ms,tss,y2,y3,rfl,I⟩
  room;let#[gL,ml,tl,R]:=I;obtain⟨n0,n1,n2,rfl⟩:∃a b c,ms=[a,b,c]:=by
   match ms,ml with
   |[a,b,c],_=>exact#[a,b,c,rfl]
  obtain⟨t0,t1,t2,rfl⟩:∃a b c,tss=[a,b,c]:=by
   match tss,tl with
   |[a,b,c],_=>exact#[a,b,c,rfl]
  have r0:=R 0 n0 t0 rfl rfl;have r1:=R 1 n1 t1 rfl rfl;have r2:=R 2 n2 t2 rfl rfl;rwa[ca h1 #[ns,_,rfl,∅,λm m0 m1=>#[∅,?_]]];room;by_cases z:m%3=0
  .have z':(m%3==0)=true:=by rw[beq_iff_eq];erw[z]
   dsimp[z',if_true];rwa[Rest.go ?_];dsimp[sU,WS];rwa[Ry (us:=[n1,n2]) gL r0.2 λn S2 x2 nl g2=>?_]
   show getL S2[L]? _
   rw[x2.get gL,aC]
   show Rest Γ Wr _ _ (S2.set L (.lst ([n0,n,n2].map .loc)))
   have nL:n≠L:=cx (aq (aX gL) nl);have ne:∀{a:Nat}{o o':SO},a≠L->S2[a]?=some o->(S2.set L o')[a]?=some o:=λ{a o o'}h e=>by rw[ah (bZ h)];erw[e]
   erw[DW Γ h6 h5 h7 (gs (x2.get gL)) (JM #[ne r0.1 (x2.get r0.2.g),r0.2.t,r0.2.v,r0.2.z]) (t1:=t0) #[#[_,ne nL g2,Rv r0.2.t r0.2.v],r0.2.t,r0.2.z] (JM #[ne r2.1 (x2.get r2.2.g),r2.2.t,r2.2.v,r2.2.z]) q]
  .have z':(m%3==0)=false:=by rw[beq_eq_false_iff_ne];erw[z]
   dsimp[z',av,if_false];rwa[Rest.go ?_];dsimp[Nu];erw[DW Γ h6 h5 h7 gL (JM r0.2) (JM r1.2) (JM r2.2) q]
end PL.yr
end
namespace L2
open PySem PySem.Spec PyProof.Rows PySem.W
open PL (U SO bD Xn KU KX b8)
def we:PL.Spec:=λ_ _ _ _=>False
def Fz(Γ:b8)(x:String)(sp:PL.Spec):b8:=λy=>if y=x then sp else Γ y
def Role(c:Ctx)(T:Tab)(x:String)(f:Addr):Prop:=
 (x∈T.fns/\c.mg (nm x)=some (.ref f))\/(∃p∈T.pV,x=p.2++"."++p.1/\∃C,c.cls p.2=some C/\Meth c.K C (nm p.1) f)\/(∃y∈T.pU,x=y++".__init__"/\∃C,c.cls y=some C/\Mk c.K C f)
theorem FnAt.mono(F:FnAt c j f sp)(h:j<=k):FnAt c k f sp:=by
 let#[fd,ps,F,B]:=F;exact#[fd,ps,F.mono h,B]
theorem bu:Fz Γ x sp x=sp:=if_pos rfl
theorem uf(h:y≠x):Fz Γ x sp y=Γ y:=if_neg h
theorem fY.add(G:fY c T Γ k)(h:k<=k')(F:∀f,Role c T x f->FnAt c k' f sp):fY c T (Fz Γ x sp) k':=by
 refine#[λy hy=>?_,λp hp=>?_,λy hy=>?_]
 .let#[f,hm,kp,A]:=G.fns y hy
  refine#[f,hm,kp,?_];by_cases e:y=x
  .subst e;rw[bu];erw[F f (.inl #[hy,hm])]
  .rw[uf e];erw[A.mono h]
 .let#[C,f,hc,hm,A]:=G.RT p hp
  refine#[C,f,hc,hm,?_];by_cases e:p.2++"."++p.1=x
  .rw[e,bu];erw[F f (.inr (.inl #[p,hp,e.symm,C,hc,hm]))]
  .rw[uf e];erw[A.mono h]
 .let#[C,f,hc,hg,hm,A]:=G.cls y hy
  refine#[C,f,hc,hg,hm,?_];by_cases e:y++".__init__"=x
  .rw[e,bu];erw[F f (.inr (.inr #[y,hy,e.symm,C,hc,hm]))]
  .rw[uf e];erw[A.mono h]
theorem M6(hm:c.mg (nm x)=some (.ref f0))(h2:(T.pV.all λp=>p.2++"."++p.1 !=x)=true)(h3:(T.pU.all λy=>y++".__init__" !=x)=true)(R:Role c T x f):f=f0:=by
 rcases R with⟨_,e⟩|⟨p,hp,e,_⟩|⟨y,hy,e,_⟩
 .rw[hm] at e;cases e;rfl
 .have:=cB.mp h2 p hp
  rw[e] at this;simp at this
 .have:=cB.mp h3 y hy
  rw[e] at this;simp at this
theorem M7(hc:c.cls cl=some C)(hm:Meth c.K C (nm m) f0)(h1:T.fns.contains (cl++"."++m)=false)(h2:(T.pV.all λp=>p.2++"."++p.1 !=cl++"."++m||(p.1==m&&p.2==cl))=true)(h3:(T.pU.all λy=>y++".__init__" !=cl++"."++m)=true)(R:Role c T (cl++"."++m) f):f=f0:=by
 rcases R with⟨h,_⟩|⟨p,hp,e,C',hc',hm'⟩|⟨y,hy,e,_⟩
 .erw[absurd (gf.mpr h) (by rw[h1];simp)]
 .have:=cB.mp h2 p hp
  rw[e] at this;simp at this;let#[e1,e2]:=this;rw[e2,hc] at hc';cases hc';rw[e1] at hm';have:=hm.at_.symm.trans hm'.at_;cases this;rfl
 .have:=cB.mp h3 y hy
  rw[e] at this;simp at this
theorem M8(hc:c.cls cl=some C)(hm:Mk c.K C f0)(h1:T.fns.contains (cl++".__init__")=false)(h2:(T.pV.all λp=>p.2++"."++p.1 !=cl++".__init__")=true)(h3:(T.pU.all λy=>y++".__init__" !=cl++".__init__"||y==cl)=true)(R:Role c T (cl++".__init__") f):f=f0:=by
 rcases R with⟨h,_⟩|⟨p,hp,e,C',hc',hm'⟩|⟨y,hy,e,C',hc',hm'⟩
 .erw[absurd (gf.mpr h) (by rw[h1];simp)]
 .have:=cB.mp h2 p hp
  rw[e] at this;simp at this
 .have:=cB.mp h3 y hy
  rw[e] at this;simp at this;rw[this,hc] at hc';cases hc';have:=hm.init.symm.trans hm'.init;cases this;rfl
theorem VT(B:Binds c.K fd ps []):FnAt c k f we:=
 #[fd,ps,#[λvs H Q E h=>by let#[us,ρ,S0,QU,EU,r,R,w,q,qx]:=h;erw[w.elim],λA outer s H args us vs Q E hr he hb hv hs=>by let#[us,ρ,S0,QU,EU,r,R,w,q,qx]:=hs;erw[w.elim]],B]
structure Df(c:Ctx)(T:Tab)(st:Stmt)(f:Addr)(N ps:List Str)(b:PL.dB)(m:Nat):Prop where
 fn:∃x qual fd,J1 c.K x qual st f fd/\Binds c.K fd ps []
 sc:k9 N ps (bH st)
 tx:∃n,J4 T n #[(bH st).names,N,true] (fJ st)=some b
 hm:N.length=ps.length+m
theorem Df.ok{c:Ctx}{T:Tab}{Γ:b8}{st:Stmt}{f:Addr}{N ps:List Str}{b:PL.dB}{m k kx:Nat}{sp:PL.Spec}(D:Df c T st f N ps b m)(B:Base c T kx)(hkx:kx<=k)(G:fY c T Γ k)(hk:PL.Keeps Γ b m sp)(hl:∀us S Q E,sp us S Q E->us.length=ps.length):FnAt c (k+2) f sp:=by
 let#[x,qual,fd,F,Bi]:=D.fn;let#[n,hc]:=D.tx;exact#[fd,ps,NA F D.sc B hkx G hc hk D.hm hl,Bi]
theorem Df.up{c:Ctx}{T:Tab}{Γ:b8}{st:Stmt}{f:Addr}{N ps:List Str}{b:PL.dB}{m k kx:Nat}{x:String}{sp:PL.Spec}(D:Df c T st f N ps b m)(R:∀g,Role c T x g->g=f)(B:Base c T kx)(hkx:kx<=k)(G:fY c T Γ k)(hk:PL.Keeps Γ b m sp)(hl:∀us S Q E,sp us S Q E->us.length=ps.length):fY c T (Fz Γ x sp) (k+2):=
 G.add ∅ λg r=>by rw[R g r];erw[D.ok B hkx G hk hl]
def eO(Γ Γ':b8)(l:List String):Prop:=∀x,x∉l->Γ' x=Γ x
theorem eO.refl(Γ:b8)(l:List String):eO Γ Γ l:=λ_ _=>rfl
theorem eO.up(h:eO Γ Γ' l)(m:x∈l):eO Γ (Fz Γ' x sp) l:=λy hy=>(uf (λe=>hy (by rw[e];erw[m]))).trans (h y hy)
theorem fY.none(h1:∀x∈T.fns,∃f,c.mg (nm x)=some (.ref f)/\Be c.K (.ref f)=true/\FnAt c k f we)(h2:∀p∈T.pV,∃C f,c.cls p.2=some C/\Meth c.K C (nm p.1) f/\FnAt c k f we)
  (h3:∀x∈T.pU,∃C f,c.cls x=some C/\c.mg (nm x)=some (.ref C)/\Mk c.K C f/\FnAt c k f we):fY c T (λ_=>we) k:=#[h1,h2,h3]
open PL (U SO bD Xn KU KX b8)
noncomputable def RN:List String:=["in_order","all_but","is_ahead","stretch","read","joined","Reader.__init__","Reader.sees","Reader.passes","Reader.choice","Reader.row","Reader.repeat","Reader.atom","Reader.bracket","Reader.sign_class","Reader.item","Reader.written_sign"]
structure fW(c:Ctx)(T:Tab)(x:String)(n m:Nat)(b:PL.dB):Prop where
 ex:∃st f N ps,Df c T st f N ps b m/\ps.length=n/\∀g,Role c T x g->g=f
structure GS(c:Ctx)(T:Tab)(kx:Nat)(Γ:b8)(k:Nat):Prop where
 le:kx<=k
 ok:fY c T Γ k
theorem fW.up(D:fW c T x n m b)(B:Base c T kx)(G:GS c T kx Γ k)(hk:PL.Keeps Γ b m sp)(hl:∀us S Q E,sp us S Q E->us.length=n):GS c T kx (Fz Γ x sp) (k+2):=by
 let#[st,f,N,ps,D0,e,R]:=D.ex;exact#[Nat.le_add_right_of_le G.le,L2.Df.up D0 R B G.le G.ok hk (λus S Q E h=>(hl us S Q E h).trans e.symm)]
structure FA(c:Ctx)(T:Tab):Prop where
 Qm:fW c T "in_order" 1 0 PL.mE
 Cm:fW c T "all_but" 1 0 PL.oJ
 ahead:fW c T "is_ahead" 2 0 PL.mF
 IC:fW c T "stretch" 2 0 PL.oK
 read:fW c T "read" 1 2 PL.yp
 joined:fW c T "joined" 2 0 PL.qL
 init:fW c T "Reader.__init__" 2 0 PL.jH
 sees:fW c T "Reader.sees" 2 0 PL.jI
 passes:fW c T "Reader.passes" 2 0 PL.iD
 choice:fW c T "Reader.choice" 1 1 PL.iE
 row:fW c T "Reader.row" 1 1 PL.kh
 repeat_:fW c T "Reader.repeat" 1 1 PL.iF
 atom:fW c T "Reader.atom" 1 0 PL.jJ
 bracket:fW c T "Reader.bracket" 1 1 PL.gS
 cls:fW c T "Reader.sign_class" 1 2 PL.fh
 item:fW c T "Reader.item" 1 3 PL.jK
 ws:fW c T "Reader.written_sign" 2 1 PL.eh
theorem tj(us:List U)(S:bD)(Q:KU)(E:KX)(h:PL.zf args p d us S Q E):us.length=args.length+1:=by
 let#[r,x,rest,rfl,_]:=h;rfl
theorem len_T(us:List U)(S:bD)(Q:KU)(E:KX)(h:PL.spT f us S Q E):us.length=1:=by
 let#[l,rfl,_]:=h;rfl
theorem AL(R:FA c T)(B:Base c T kx)(G:GS c T kx Γ k):∃Γ',GS c T kx Γ' (k+16)/\eO Γ Γ' RN/\PL.GR Γ'/\Γ' "joined"=PL.kQ/\Γ' "Reader.__init__"=PL.mR:=by
 have g1:=R.Qm.up B G (PL.Am _) len_T;have g2:=R.Cm.up B g1 (PL.vh _) len_T;have g3:=R.ahead.up B g2 (PL.An _) (λus S Q E h=>by let#[a,b,rfl,_]:=h;rfl);have g4:=R.IC.up B g3 (PL.Ck _) (λus S Q E h=>by let#[a,b,rfl,_]:=h;rfl);have g5:=R.joined.up B g4 (PL.E8 _) (λus S Q E h=>by let#[a,b,t,rfl,_]:=h;rfl);have g6:=R.init.up B g5 (PL.IL _) (λus S Q E h=>by let#[a,b,rfl,_]:=h;rfl);have g7:=R.sees.up B g6 (PL.Mr _) (λus S Q E h=>by let#[a,b,_,_,_,rfl,_]:=h;rfl);have g8:=R.passes.up B g7 (PL.Ms _ bu) (λus S Q E h=>by let#[l,d,h]:=h;exact tj _ _ _ _ h);refine#[_,g8,?_,#[rfl,rfl,rfl,rfl,rfl,rfl],rfl,rfl];refine eO.up (eO.up (eO.up (eO.up (eO.up (eO.up (eO.up (eO.up (eO.refl _ _) ?_) ?_) ?_) ?_) ?_) ?_) ?_) ?_<;>decide
theorem VU(k d:Nat)(h:d+k=6)(hc:∀j,k=j+1->Γ "Reader.choice"=PL.zf [] (PL.gV (PL.sX j)) (d+1)):PL.UB Γ (PL.sX k) d:=by
 cases k with
 |zero=>erw[.inl #[rfl,∅]]
 |succ j=>erw[.inr #[_,rfl,∅,PL.sh (j+1),hc j rfl]]
theorem tm(R:FA c T)(B:Base c T kx)(G:GS c T kx Γ k)(Sm:eO Γ0 Γ RN)(gr:PL.GR Γ)(gj:Γ "joined"=PL.kQ)(gi:Γ "Reader.__init__"=PL.mR)(n d:Nat)(hd:d+n=6)
  (hc:∀j,n=j+1->Γ "Reader.choice"=PL.zf [] (PL.gV (PL.sX j)) (d+1)):
  ∃Γ',GS c T kx Γ' (k+16)/\eO Γ0 Γ' RN/\PL.GR Γ'/\Γ' "joined"=PL.kQ/\Γ' "Reader.__init__"=PL.mR/\Γ' "Reader.choice"=PL.zf [] (PL.gV (PL.sX n)) d:=by
 let#[e1,e2,e3,e4,e5,e6]:=gr;have hbo:=PL.sh n;have g1:=R.bracket.up B G (PL.UC _ #[e1,e2,e3,e4,e5,e6] (PL.sX n) d (VU n d hd hc)) (λus S Q E h=>by let#[a,b,_,rfl,_]:=h;rfl);have g2:=R.ws.up B g1 (PL.ID _ #[e1,e2,e3,e4,e5,e6] d) (λus S Q E h=>by let#[m,h]:=h;exact tj _ _ _ _ h);have g3:=R.item.up B g2 (PL.Mu _ d #[#[e1,e2,e3,e4,e5,e6],rfl]) tj;have g4:=R.cls.up B g3 (PL.Qn _ d #[#[#[e1,e2,e3,e4,e5,e6],rfl],rfl]) tj;have g5:=R.atom.up B g4 (PL.My _ (PL.sX n) d #[#[#[#[e1,e2,e3,e4,e5,e6],rfl],rfl],rfl,rfl]) tj;have g6:=R.repeat_.up B g5 (PL.E9 _ (PL.sX n) d hbo #[#[#[#[#[e1,e2,e3,e4,e5,e6],rfl],rfl],rfl,rfl],rfl]) tj;have g7:=R.row.up B g6 (PL.Qq _ (PL.sX n) d hbo #[#[#[#[#[#[e1,e2,e3,e4,e5,e6],rfl],rfl],rfl,rfl],rfl],rfl,gj]) tj;have g8:=R.choice.up B g7 (PL.Fc _ (PL.sX n) d hbo #[#[#[#[#[#[#[e1,e2,e3,e4,e5,e6],rfl],rfl],rfl,rfl],rfl],rfl,gj],rfl]) tj;refine#[_,g8,?_,#[e1,e2,e3,e4,e5,e6],gj,gi,rfl];refine eO.up (eO.up (eO.up (eO.up (eO.up (eO.up (eO.up (eO.up Sm ?_) ?_) ?_) ?_) ?_) ?_) ?_) ?_<;>decide
theorem vJ(R:FA c T)(B:Base c T kx)(G:GS c T kx Γ k)(Sm:eO Γ0 Γ RN)(gr:PL.GR Γ)(gj:Γ "joined"=PL.kQ)(gi:Γ "Reader.__init__"=PL.mR):
  ∀(n d:Nat),d+n=6->∃Γ',GS c T kx Γ' (k+16*(n+1))/\eO Γ0 Γ' RN/\PL.GR Γ'/\Γ' "joined"=PL.kQ/\Γ' "Reader.__init__"=PL.mR/\Γ' "Reader.choice"=PL.zf [] (PL.gV (PL.sX n)) d
 |0,d,h=>tm R B G Sm gr gj gi 0 d h (λj e=>∅)
 |n+1,d,h=>by
  let#[Γ1,G1,S1,r1,j1,i1,c1]:=vJ R B G Sm gr gj gi n (d+1) ∅;let#[Γ2,G2,z]:=tm R B G1 S1 r1 j1 i1 (n+1) d h (λj e=>by cases e;erw[c1]);exact#[Γ2,G2,z]
theorem CD(R:FA c T)(B:Base c T kx)(G:GS c T kx Γ k):∃Γ',GS c T kx Γ' (k+130)/\eO Γ Γ' RN/\Γ' "read"=PL.Co/\Γ' "all_but"=PL.spT PL.dW:=by
 let#[Γ1,G1,S1,r1,j1,i1]:=AL R B G;let#[Γ2,G2,S2,r2,j2,i2,c2]:=vJ R B G1 S1 r1 j1 i1 6 0 rfl;have g:=R.read.up B G2 (PL.Mz _ i2 c2) (λus S Q E h=>by let#[x,rfl,_]:=h;rfl);exact#[_,g,eO.up S2 ⋯,bu,r2.Cm]
open PL (U SO bD Xn KU KX b8)
structure wg where
 x:String
 q:String
 cl:String
 st:Stmt
 N:List Str
 ps:List Str
 b:PL.dB
def FC(K:Frag)(x qual:Str)(st:Stmt)(f:Addr):Prop:=∃(oc:Value)(od:Option Addr)(kV dc pm:Value)(an:Option Addr)(cd ct:Value)(sl:Array (Option Value)),
 K.lookup f=some #[oc,od,.func (fnOf x qual (lg st) (fJ st) (bH st) .none kV dc pm an cd ct),sl]/\codeIn K cd qual=true/\Be K (.ref f)=true
theorem FC.fn{K:Frag}{x qual:Str}{st:Stmt}{f:Addr}(h:FC K x qual st f):∃fd,J1 K x qual st f fd/\Be K (.ref f)=true:=by
 let#[oc,od,kV,dc,pm,an,cd,ct,sl,h1,h2,h3]:=h;exact#[_,GX h1 h2 h3,h3]
inductive AM(K:Frag)(CA:List (String×Addr)):wg->Prop
 |fn{q:String}{st:Stmt}{N ps:List Str}{b:PL.dB}{f:Addr}:nsIn K bz (bV q)=some (some (.ref f))->FC K (bV q) (bV q) st f->AM K CA #[q,q,"",st,N,ps,b]
 |mt{x q cl:String}{st:Stmt}{N ps:List Str}{b:PL.dB}{f C:Addr}:(cl=="")=false->CA.lookup cl=some C->findIn K (.ref C) (bV q)=some (some (.ref f))->isFn K (.ref f)=true->FC K (bV q) (bV x) st f->AM K CA #[x,q,cl,st,N,ps,b]
def yT(r:wg):Prop:=∀(x qual:Str)(kV dc pm:Value)(an:Option Addr)(cd ct:Value)(us:List Value),us.length=r.ps.length->Kh (fnOf x qual (lg r.st) (fJ r.st) (bH r.st) .none kV dc pm an cd ct) #[us,[]]=pure (r.ps.zip us)
abbrev JO(r:wg)(us:List Value):Prop:=∀(x qual:Str)(kV dc pm:Value)(an:Option Addr)(cd ct:Value),Kh (fnOf x qual (lg r.st) (fJ r.st) (bH r.st) .none kV dc pm an cd ct) #[us,[]]=pure (r.ps.zip us)
theorem Rz{α:Type}{l:List α}{n:Nat}(h:l.length=n+1):∃a r,l=a::r/\r.length=n:=by
 cases l with
 |nil=>erw[absurd h (Nat.succ_ne_zero n).symm]
 |cons a r=>exact#[a,r,rfl,l9 h]
theorem ln1{α:Type}{l:List α}(h:l.length=1):∃a,l=[a]:=ji.mp h
theorem ln2{α:Type}{l:List α}(h:l.length=2):∃a b,l=[a,b]:=by
 let#[a,r,rfl,k]:=Rz h;let#[b,rfl]:=ln1 k;exact#[a,b,rfl]
theorem ln3{α:Type}{l:List α}(h:l.length=3):∃a b c,l=[a,b,c]:=by
 let#[a,r,rfl,k]:=Rz h;let#[b,c,rfl]:=ln2 k;exact#[a,b,c,rfl]
theorem bd0(e:r.ps.length=0)(h:JO r []):yT r:=λx q a b c d f g us hl=>by
 rw[e] at hl;obtain rfl:=mY.mp hl;erw[h x q a b c d f g]
theorem bd1(e:r.ps.length=1)(h:∀a,JO r [a]):yT r:=λx q a b c d f g us hl=>by
 let#[u,rfl]:=ln1 (hl.trans e);erw[h u x q a b c d f g]
theorem bd2(e:r.ps.length=2)(h:∀a b,JO r [a,b]):yT r:=λx q a b c d f g us hl=>by
 let#[u,v,rfl]:=ln2 (hl.trans e);erw[h u v x q a b c d f g]
theorem bd3(e:r.ps.length=3)(h:∀a b c,JO r [a,b,c]):yT r:=λx q a b c d f g us hl=>by
 let#[u,v,w,rfl]:=ln3 (hl.trans e);erw[h u v w x q a b c d f g]
theorem bd4(e:r.ps.length=4)(h:∀a b c d,JO r [a,b,c,d]):yT r:=λx q a b c d f g us hl=>by
 let#[u,s,rfl,k]:=Rz (hl.trans e);let#[v,w,z,rfl]:=ln3 k;erw[h u v w z x q a b c d f g]
noncomputable def FD(r:wg):Bool:=(bH r.st).kind==.function && !(bH r.st).isCoroutine && !(bH r.st).isGenerator&&decide r.N.Nodup&&r.N.take r.ps.length==r.ps&&(r.ps.all λx=>(bH r.st).names.lookup x==some .local||(bH r.st).names.lookup x==some .cell)&&((bH r.st).names.all λy=>y.2 !=.free)&&decide (r.ps.length<=r.N.length)
theorem FD.sc(h:FD r=true):k9 r.N r.ps (bH r.st)/\r.ps.length<=r.N.length:=by
 unfold FD at h;dsimp[ao,cB,decide_eq_true_eq,bF,beq_iff_eq,gv,bne_iff_ne] at h;let#[#[#[#[#[#[#[h1,h2],h3],h4],h5],h6],h7],h8]:=h;exact#[#[h1,h2,h3,h4,h5,h6,h7],h8]
noncomputable def RA(T:Tab)(r:wg):Bool:=
 if r.cl=="" then(T.pV.all λp=>p.2++"."++p.1 !=r.x)&&(T.pU.all λy=>y++".__init__" !=r.x)
 else !(T.fns.contains r.x)&&r.x==r.cl++"."++r.q&&if r.q=="__init__" then(T.pV.all λp=>p.2++"."++p.1 !=r.x)&&(T.pU.all λy=>y++".__init__" !=r.x||y==r.cl)
  else(T.pV.all λp=>p.2++"."++p.1 !=r.x||(p.1==r.q&&p.2==r.cl))&&(T.pU.all λy=>y++".__init__" !=r.x)
noncomputable def JP(rows:List wg):List String:=(rows.filter λr=>r.cl=="").map (·.x)
noncomputable def JQ(rows:List wg):List (String×String):=(rows.filter λr=>r.cl !=""&&r.q !="__init__").map λr=>(r.q,r.cl)
structure M9(K:Frag)(p:String×Addr)(fl:List String):Prop where
 ns:nsIn K bz (bV p.1)=some (some (.ref p.2))
 cl:Ew K p.2
 ms:makesIn K p.2=true
 kp:Be K (.ref p.2)=true
 na:fl.map (λf=>findIn K (.ref p.2) (bV f))=fl.map λ_=>some none
theorem rB{α:Type}{x:String}{a:α}:∀{l:List (String×α)},l.lookup x=some a->(x,a)∈l
 | (k,v)::l,h=>by
  rw[aN] at h;split at h
  .rename_i e
   have e:x=k:=eq_of_beq e;cases h;subst e;erw[aS ..]
  .erw[aB _ (rB h)]
theorem VW{K:Frag}{C:Addr}{fl:List String}(h:fl.map (λf=>findIn K (.ref C) (bV f))=fl.map λ_=>some none):∀f∈fl,lK K C (nm f):=λf m=>sM.mp h f m
section
variable{c:Ctx}{T:Tab}{rows:List wg}{CA:List (String×Addr)}{h:Heap}{fl:List String}
theorem Na(X:c.K.In h)(G:h.Ns bz c.mg)(hc:c.cls=λx=>CA.lookup x)(hC:∀p∈CA,M9 c.K p fl)(R:∀r∈rows,AM c.K CA r)(bd:∀r∈rows,yT r)(sc:rows.all FD=true)(rl:rows.all (RA T)=true)
  (tx:rows.map (λr=>J4 T 60 #[(bH r.st).names,r.N,true] (fJ r.st))=rows.map λr=>some r.b) (i:Nat) (r:wg) (e:rows[i]?=some r):fW c T r.x r.ps.length (r.N.length-r.ps.length) r.b:=by
 have m:=ak e;let#[s1,s2]:=(cB.mp sc r m |> FD.sc)
 have t:=sM.mp tx r m;have b:=bd r m;have rr:=cB.mp rl r m;have ln:r.N.length=r.ps.length+(r.N.length-r.ps.length):=∅
 cases R r m with
 |fn h1 h2=>
  let#[fd,F,kp]:=h2.fn;refine#[#[_,_,_,_,#[#[_,_,fd,F,F.binds λkV dc pm an cd ct us hl=>b _ _ kV dc pm an cd ct us hl],s1,#[60,t],ln],rfl,λg ro=>?_]];have rr:((T.pV.all λp=>p.2++"."++p.1 !=_)&&(T.pU.all λy=>y++".__init__" !=_))=true:=rr;rw[ao] at rr;erw[M6 (qg X G h1) rr.1 rr.2 ro]
 |@mt x q cl st N ps b' f C hn h0 h1 h2 h3=>
  let#[fd,F,kp]:=h3.fn;refine#[#[_,_,_,_,#[#[_,_,fd,F,F.binds λkV dc pm an cd ct us hl=>b _ _ kV dc pm an cd ct us hl],s1,#[60,t],ln],rfl,λg ro=>?_]];unfold RA at rr;dsimp[hn,av,if_false,ao,gv,beq_iff_eq] at rr;let#[#[r1,r2],r3]:=rr;have hcl:c.cls cl=some C:=by rw[hc];erw[h0]
  have cm:=hC _ (rB h0);subst r2;by_cases z:q="__init__"
  .subst z
   dsimp[if_true,ao] at r3;have e:cl++"."++"__init__"=cl++".__init__":=by rw[String.append_assoc];rfl
   have ro:Role c T (cl++"."++"__init__") g:=ro;rw[e] at r1 r3 ro;erw[M8 (cl:=cl) hcl #[cm.ms,h1,h2,cm.kp] r1 r3.1 r3.2 ro]
  .rw[if_neg z,ao] at r3
   erw[M7 (m:=q) (cl:=cl) hcl #[h1,h2,kp] r1 r3.1 r3.2 ro]
theorem CH(b:yT r)(h:FC c.K x qual r.st f):FnAt c k f we:=by
 let#[fd,F,kp]:=h.fn;erw[VT (F.binds λkV dc pm an cd ct us hl=>b _ _ kV dc pm an cd ct us hl)]
theorem RB(X:c.K.In h)(G:h.Ns bz c.mg)(hc:c.cls=λx=>CA.lookup x)(hC:∀p∈CA,M9 c.K p fl)(R:∀r∈rows,AM c.K CA r)(bd:∀r∈rows,yT r)
  (t1:T.fns=JP rows) (t2:T.pV=JQ rows) (t3:∀x∈T.pU,∃r∈rows,r.cl=x/\r.q="__init__"/\(x=="")=false):fY c T (λ_=>we) k:=by
 rwa[fY.none (λx hx=>?_) (λp hp=>?_) (λx hx=>?_)]
 .rw[t1] at hx
  let#[r,hr,rfl]:=de.mp hx;let#[m,e]:=eP.mp hr;have b:=bd r m;cases R r m with
  |@fn q st N ps b' f h1 h2=>
   let#[fd,F,kp]:=h2.fn;exact#[f,qg X G h1,kp,CH b h2]
  |mt hn=>erw[absurd e (by show ¬(_=="")=true;rw[hn];simp)]
 .rw[t2] at hp
  let#[r,hr,rfl]:=de.mp hp;let#[m,e]:=eP.mp hr;have b:=bd r m;cases R r m with
  |fn h1 h2=>simp at e
  |@mt x q cl st N ps b' f C hn h0 h1 h2 h3=>
   let#[fd,F,kp]:=h3.fn;exact#[C,f,by rw[hc];erw[h0],#[h1,h2,kp],CH b h3]
 .let#[r,m,rfl,eq,ne]:=t3 x hx
  have b:=bd r m;cases R r m with
  |fn h1 h2=>simp at ne
  |@mt x q cl st N ps b' f C hn h0 h1 h2 h3=>
   have eq:q="__init__":=eq;subst eq;have cm:=hC _ (rB h0);exact#[C,f,by rw[hc];erw[h0],qg X G cm.ns,#[cm.ms,h1,h2,cm.kp],CH b h3]
theorem RC(hc:c.cls=λx=>CA.lookup x)(hC:∀p∈CA,M9 c.K p fl)(x:String)(C:Addr)(h:c.cls x=some C):Ew c.K C/\∀f∈fl,lK c.K C (nm f):=by
 rw[hc] at h;have:=hC _ (rB h);exact#[this.cl,VW this.na]
end
theorem ug(h:c.mg (nm x)=some (.str s t))(e:s=tx l):∃v u,c.mg (nm x)=some u/\RelV v u/\∀ρ H,Rep c ρ H (.str l) v:=
 #[.str (tx l),_,h,#[t,by rw[e]],λ_ _=>bq.mpr rfl]
theorem AN{K:Frag}{a:Addr}:∀(kvs:List (Str×Str)),(∀p∈kvs,∃t,nsIn K a p.1=some (some (.str p.2 t)))->∀k v,(kvs.map λp=>(p.1,V.str p.2)).lookup k=some v->∃u,RelV v u/\nsIn K a k=some (some u)
 |[],_,k,v,h=>by simp at h
 |p::r,hp,k,v,h=>by
  rw[az,aN] at h;split at h
  .rename_i e
   have e:k=p.1:=eq_of_beq e;cases h;let#[t,z]:=hp p (aS ..);exact#[_,#[t,rfl],by rw[e];erw[z]]
  .erw[AN r (λq hq=>hp q (aB _ hq)) k v h]
noncomputable def FE:Value->Option Str
 |.str s _=>some s
 |_=>none
theorem DX(k:Str):∀(es:List xR)(ks:List Str),es.map (λe=>FE e.key)=ks.map some->k∉ks->es.find? (·.key.isStr k)=none/\es.any (·.refKey)=false
 |[],_,_,_=>#[rfl,rfl]
 |e::r,[],h,_=>by cases h
 |⟨hs,ky,vl⟩::r,q::ks,h,n=>by
  rw[az,az,dG] at h;let#[i,j]:=DX k r ks h.2 λz=>n (aB _ z)
  have h1:FE ky=some q:=h.1;cases ky with
  |str s t=>
   have e:s=q:=aJ h1;subst e;have ne:(s==k)=false:=by
    rw[beq_eq_false_iff_ne];erw[λz=>n (z▸aS ..)]
   exact#[by rw[dQ];show(match (s==k) with|true=>_|false=>_)=_;rw[ne];erw[i],by rw[cV,j];rfl]
  |_=>cases h1
theorem Nb(h:c.mg (nm x)=some (.ref a))(l:c.K.lookup a=some #[.type "dict",none,.dict es n,#[]])(kl:AY c.w.params es.toList)
  (ky:es.toList.map (λe=>FE e.key)=(kvs.map λp=>tx p.1).map some) (ns:(a==bT)=false)
  (hk:∀p∈kvs,∃t,nsIn c.K a (tx p.1)=some (some (.str (tx p.2) t))):∃v u,c.mg (nm x)=some u/\RelV v u/\∀ρ H,Rep c ρ H (.tab kvs) v:=by
 refine#[.ref a,_,h,rfl,λρ H=>tZ.mpr #[a,rfl,#[es,n,l,kl],λk v e=>?_,λk e=>?_,ns]]
 .rwa[AN (kvs.map λp=>(tx p.1,tx p.2)) ?_ k v (by rw[bx];erw[e])]
  intro p hp;let#[q,hq,rfl]:=de.mp hp;erw[hk q hq]
 .have nm:k∉kvs.map λp=>tx p.1:=λz=>by
   let#[q,hq,rfl]:=de.mp z;have:=List.lookup_eq_none_iff.mp e (tx q.1,V.str (tx q.2)) (de.mpr #[q,hq,rfl]);simp at this
  let#[i,j]:=DX k _ _ ky nm;unfold nsIn;rw[l]
  show(match es.toList.find? (·.key.isStr k) with|some e=>some (some e.val)|none=>if es.toList.any (·.refKey) then none else some none)=some none
  rw[i,j]
  rfl
theorem VX(h:c.mg (nm x)=some (.ref a))(l:c.K.lookup a=some #[.type "dict",none,.dict es n,#[]])(kl:AY c.w.params es.toList)
  (ky:es.toList.map (λe=>FE e.key)= [some k0,some k1,some k2]) (ns:(a==bT)=false) (c0:k0=tx l0) (c1:k1=tx l1) (c2:k2=tx l2)
  (r0:nsIn c.K a k0=some (some (.str z0 t0))) (e0:z0=tx m0) (r1:nsIn c.K a k1=some (some (.str z1 t1))) (e1:z1=tx m1) (r2:nsIn c.K a k2=some (some (.str z2 t2))) (e2:z2=tx m2):
  ∃v u,c.mg (nm x)=some u/\RelV v u/\∀ρ H,Rep c ρ H (.tab [(l0,m0),(l1,m1),(l2,m2)]) v:=by
 subst c0 c1 c2 e0 e1 e2;rwa[Nb h l kl ky ns ?_];erw[aY.mpr #[#[t0,r0],aY.mpr #[#[t1,r1],aY.mpr #[#[t2,r2],λ_ h=>(cA h).elim]]]]
open PL (U SO bD Xn KU KX b8)
theorem fY.mono(G:fY c T Γ j)(h:j<=k):fY c T Γ k:=
 #[λx hx=>let ⟨f,a,b,d⟩:=G.fns x hx;#[f,a,b,d.mono h],λp hp=>let ⟨C,f,a,b,d⟩:=G.RT p hp;#[C,f,a,b,d.mono h],λx hx=>let ⟨C,f,a,b,e,d⟩:=G.cls x hx;#[C,f,a,b,e,d.mono h]]
theorem fY.mix(G1:fY c T Γ1 k)(G2:fY c T Γ2 k)(h:∀x,Γ x=Γ1 x\/Γ x=Γ2 x):fY c T Γ k:=by
 refine#[λx hx=>?_,λp hp=>?_,λx hx=>?_]
 .rcases h x with e|e<;>rw[e]
  .erw[G1.fns x hx]
  .erw[G2.fns x hx]
 .rcases h (p.2++"."++p.1) with e|e<;>rw[e]
  .erw[G1.RT p hp]
  .erw[G2.RT p hp]
 .rcases h (x++".__init__") with e|e<;>rw[e]
  .erw[G1.cls x hx]
  .erw[G2.cls x hx]
theorem GS.mono(G:GS c T kx Γ j)(h:j<=k):GS c T kx Γ k:=#[aI G.le h,fY.mono G.ok h]
structure RD(c:Ctx)(T:Tab):Prop where
 written:fW c T "written" 1 0 PL.oM
 row:fW c T "row_text" 1 0 PL.mG
 rep:fW c T "repeat_text" 1 2 PL.jL
 atom:fW c T "atom_text" 1 0 PL.lx
 place:fW c T "place_text" 1 0 PL.ki
 sign:fW c T "sign_text" 2 0 PL.ly
 texts:fW c T "class_texts" 1 1 PL.jM
 guarded:fW c T "guarded" 1 0 PL.oN
 items:fW c T "class_items" 1 2 PL.jN
 runs:fW c T "runs" 1 3 PL.yq
 Y0:fW c T "run_items" 1 2 PL.lz
open PL.nk in
structure yU(c:Ctx)(T:Tab):Prop where
 po:fW c T "places_of" 2 4 lB
 to:fW c T "tree_of" 2 1 oO
 mem:fW c T "members" 1 0 oQ
 pt:fW c T "Part.__init__" 4 0 lC
 beh:fW c T "one_behind_other" 2 2 fK
 or_:fW c T "one_or_other" 2 0 i4
 li:fW c T "Layout.__init__" 1 0 jO
 hm:fW c T "Layout.how_many" 1 0 fX
 cr:fW c T "Layout.close_rule" 2 0 fj
 lk:fW c T "Layout.link" 3 1 jP
 lay:fW c T "Layout.lay" 2 0 kj
 lp:fW c T "Layout.lay_place" 2 1 fL
 lr:fW c T "Layout.lay_row" 2 3 gU
 lc:fW c T "Layout.lay_choice" 2 2 fm
 lq:fW c T "Layout.lay_repeat" 2 4 fq
 us:fW c T "useful_places" 1 5 iG
 ptt:fW c T "places_that_take" 2 0 fM
 pi:fW c T "Places.__init__" 2 1 jQ
 by_:fW c T "Places.beyond" 2 2 iH
 fr:fW c T "Places.first_rule" 2 2 fu
open PL.nk in
structure CI(c:Ctx)(T:Tab):Prop where
 cell:fW c T "_law_cell" 2 0 PL.tX.lA
 mix:fW c T "_law_mix" 2 1 PL.tX.mH
 all:fW c T "_law_all" 0 1 PL.tX.mI
 no:fW c T "_law_nothing" 1 0 i5
 sm:fW c T "_law_small" 3 3 km
 tr:fW c T "_law_trees" 4 3 kn
open PL.yr in
structure VY(c:Ctx)(T:Tab):Prop where
 tb:fW c T "table_of" 1 0 mJ
 ti:fW c T "Table.__init__" 3 0 ko
 go:fW c T "Table.goes" 3 0 kq
 fi:fW c T "Table.first" 2 2 jR
 sp:fW c T "spread" 1 7 qM
 st:fW c T "smallest" 1 5 mK
 wn:fW c T "with_nowhere" 1 1 i6
 ro:fW c T "rounds" 2 3 qN
 pa:fW c T "parted" 3 3 qO
 nu:fW c T "numbered" 1 1 mM
 te:fW c T "telling_signs" 1 2 iI
open PL.A4 in
structure VZ(c:Ctx)(T:Tab):Prop where
 di:fW c T "difference" 2 4 kr
 mv:fW c T "moved" 2 0 tY
 ta:fW c T "text_apart" 3 4 kA
 aa:fW c T "are_apart" 2 0 lD
 sb:fW c T "states_behind" 3 0 iJ
 sa:fW c T "sign_apart" 3 0 kB
 sz:fW c T "Table.size" 1 0 kz
open PL PL.nk in
theorem AO(us:List U)(S:bD)(Q:KU)(E:KX)(h:A5 D f us S Q E):us.length=1:=by
 let#[_,rfl,_]:=h;rfl
open PL PL.nk in
theorem xE(us:List U)(S:bD)(Q:KU)(E:KX)(h:gE D us S Q E):us.length=2:=by
 let#[_,_,_,_,_,_,rfl,_]:=h;rfl
open PL PL.nk in
theorem uh(W:RD c T)(B:Base c T kx)(G:GS c T kx Γ j)(k:Nat)(hk:k<=10)(D:Tr->Prop)(hD:∀t,cz t<=k->wb t->D t)(hp:Γ "place_text"=MJ)(hw:Γ "written"=A5 D wr):
  ∃Γ',GS c T kx Γ' (j+8)/\Γ' "place_text"=MJ/\Γ' "written"=A5 (λt=>cz t<=k\/(wb t/\cz t<=k+1)) wr:=by
 have g1:=W.atom.up B G (QS _ k D hD hp hw) AO;have g2:=W.rep.up B g1 (QT _ k hk bu) AO;have g3:=W.row.up B g2 (QW _ k bu) AO;have g4:=W.written.up B g3 (QY _ k bu) AO;exact#[_,g4,hp,bu]
open PL PL.nk in
theorem V0(R:FA c T)(W:RD c T)(B:Base c T kx)(G:GS c T kx Γ j):∃Γ',GS c T kx Γ' (j+50)/\Γ' "written"=A5 (λt=>cz t<=3\/(wb t/\cz t<=3+1)) wr:=by
 have a0:=R.Cm.up B G (vh _) len_T;have a1:=W.sign.up B a0 (U6 _) (λus S Q E h=>by let#[_,_,rfl,_]:=h;rfl);have a2:=W.Y0.up B a1 (U8 _ bu) (λus S Q E h=>by let#[_,rfl,_]:=h;rfl);have a3:=W.runs.up B a2 (Va _) (λus S Q E h=>by let#[_,rfl,_]:=h;rfl);have a4:=W.items.up B a3 (Vc _ rfl rfl) (λus S Q E h=>by let#[_,rfl,_]:=h;rfl);have a5:=W.guarded.up B a4 (Ve _) (λus S Q E h=>by let#[_,_,rfl,_]:=h;rfl);have a6:=W.texts.up B a5 (Vg _ rfl rfl rfl) (λus S Q E h=>by let#[_,rfl,_]:=h;rfl);have a7:=W.place.up B a6 (Vh _ rfl rfl rfl) (λus S Q E h=>by let#[_,rfl,_]:=h;rfl);have a8:=W.written.up B a7 (sp:=A5 (λ_=>False) wr) (λus S Q E h=>by let#[_,_,h,_]:=h;exact h.elim) AO;let#[Γ1,G1,p1,w1]:=uh W B a8 0 ∅ _ (λt d r=>by cases t<;>first|exact r.elim|exact absurd d (Nat.not_succ_le_zero _)) rfl bu;obtain⟨Γ2,G2,p2,w2⟩:=uh W B G1 1 ∅ _ (λt d r=>.inr #[r,d]) p1 w1;obtain⟨Γ3,G3,p3,w3⟩:=uh W B G2 2 ∅ _ (λt d r=>.inr #[r,d]) p2 w2;obtain⟨Γ4,G4,p4,w4⟩:=uh W B G3 3 ∅ _ (λt d r=>.inr #[r,d]) p3 w3;exact#[Γ4,G4,w4]
section
open PL PL.nk
structure GP(Γ:b8):Prop where
 mem:Γ "members"=Aw
 pt:Γ "Part.__init__"=yI
 beh:Γ "one_behind_other"=p6 sk
 or_:Γ "one_or_other"=p6 UG
 li:Γ "Layout.__init__"=Qy
 hm:Γ "Layout.how_many"=Qz
 cr:Γ "Layout.close_rule"=QC
 lk:Γ "Layout.link"=IY
 lp:Γ "Layout.lay_place"=gE λt u=>∃n l,t=.one n l/\u=.str l
variable{c:Ctx}{T:Tab}{Γ:b8}{j kx:Nat}
theorem Nc(P:yU c T)(B:Base c T kx)(G:GS c T kx Γ j):∃Γ',GS c T kx Γ' (j+20)/\GP Γ'/\Γ' "Layout.lay"=gE (Tu 0):=by
 have g1:=P.mem.up B G (Qv _) (λus S Q E h=>by let#[_,rfl,_]:=h;rfl);have g2:=P.pt.up B g1 (UE _) (λus S Q E h=>by let#[_,_,_,_,rfl,_]:=h;rfl);have g3:=P.beh.up B g2 (Qw _ bu) (λus S Q E h=>by let#[_,_,_,_,_,_,_,_,rfl,_]:=h;rfl);have g4:=P.or_.up B g3 (UH _ rfl) (λus S Q E h=>by let#[_,_,_,_,_,_,_,_,rfl,_]:=h;rfl);have g5:=P.li.up B g4 (UI _) (λus S Q E h=>by let#[_,rfl,_]:=h;rfl);have g6:=P.hm.up B g5 (UJ _) (λus S Q E h=>by let#[_,_,_,_,rfl,_]:=h;rfl);have g7:=P.cr.up B g6 (UK _) (λus S Q E h=>by let#[_,_,_,_,_,_,_,_,_,_,rfl,_]:=h;rfl);have g8:=P.lk.up B g7 (UM _ rfl) (λus S Q E h=>by let#[_,_,_,_,_,_,rfl,_]:=h;rfl);have g9:=P.lp.up B g8 (UN _ rfl) xE;have ga:=P.lay.up B g9 (sp:=gE (Tu 0)) (λus S Q E h=>by let#[_,_,_,_,_,_,_,h,_]:=h;erw[absurd h.1 (dS _)]) xE;exact#[_,ga,#[rfl,rfl,rfl,rfl,rfl,rfl,rfl,rfl,rfl],bu]
theorem rC(P:yU c T)(B:Base c T kx)(G:GS c T kx Γ j)(g:GP Γ)(d:Nat)(hd:d<=100)(hl:Γ "Layout.lay"=gE (Tu d)):∃Γ',GS c T kx Γ' (j+8)/\GP Γ'/\Γ' "Layout.lay"=gE (Tu (d+1)):=by
 let#[e1,e2,e3,e4,e5,e6,e7,e8,e9]:=g;have g1:=P.lr.up B G (UQ _ d e2 hl e8 e3) xE;have g2:=P.lc.up B g1 (UR _ d e2 hl e4) xE;have g3:=P.lq.up B g2 (US _ d hd e2 hl e8) xE;have g4:=P.lay.up B g3 (QG _ d e9 rfl rfl rfl) xE;exact#[_,g4,#[e1,e2,e3,e4,e5,e6,e7,e8,e9],bu]
theorem V1(P:yU c T)(B:Base c T kx)(G:GS c T kx Γ j):∃Γ',GS c T kx Γ' (j+75)/\GP Γ'/\Γ' "Layout.lay"=gE (Tu 4)/\Γ' "Places.__init__"=I9/\Γ' "Places.beyond"=Ja/\Γ' "Places.first_rule"=Jb:=by
 let#[Γ0,G0,p0,l0]:=Nc P B G;let#[Γ1,G1,p1,l1]:=rC P B G0 p0 0 ∅ l0;let#[Γ2,G2,p2,l2]:=rC P B G1 p1 1 ∅ l1;let#[Γ3,G3,p3,l3]:=rC P B G2 p2 2 ∅ l2;let#[Γ4,G4,p4,l4]:=rC P B G3 p3 3 ∅ l3;let#[e1,e2,e3,e4,e5,e6,e7,e8,e9]:=p4;have g1:=P.us.up B G4 (UU _ e1) (λus S Q E h=>by let#[_,_,_,_,rfl,_]:=h;rfl);have g2:=P.ptt.up B g1 (QH _) (λus S Q E h=>by let#[_,_,_,_,_,rfl,_]:=h;rfl);have g3:=P.pi.up B g2 (UX _ rfl bu) (λus S Q E h=>by let#[_,_,_,_,_,rfl,_]:=h;rfl);have g4:=P.by_.up B g3 (UY _ e1) (λus S Q E h=>by let#[_,_,_,_,_,rfl,_]:=h;rfl);have g5:=P.fr.up B g4 (UZ _) (λus S Q E h=>by let#[_,_,_,_,_,rfl,_]:=h;rfl);exact#[_,g5.mono ∅,#[e1,e2,e3,e4,e5,e6,e7,e8,e9],l4,rfl,rfl,bu]
open PL.yr in
theorem V2(W:VY c T)(B:Base c T kx)(G:GS c T kx Γ j)(h1:Γ "Places.beyond"=Ja)(h2:Γ "Places.first_rule"=Jb)(g:GP Γ)(h3:Γ "Layout.lay"=gE (Tu 4))(h4:Γ "Places.__init__"=I9):∃Γ',GS c T kx Γ' (j+25)/\GP Γ'/\Γ' "Layout.lay"=gE (Tu 4)/\Γ' "Places.__init__"=I9/\Γ' "spread"=Ra/\Γ' "smallest"=Rg/\Γ' "Table.first"=Fu/\Γ' "with_nowhere"=Jx/\Γ' "rounds"=JA:=by
 let#[e1,e2,e3,e4,e5,e6,e7,e8,e9]:=g;have g1:=W.nu.up B G (Q0 _) (λus S Q E h=>by let#[_,rfl,_]:=h;rfl);have g2:=W.te.up B g1 (Q2 _) (λus S Q E h=>by let#[_,_,_,rfl,_]:=h;rfl);have g3:=W.wn.up B g2 (Vl _) (λus S Q E h=>by let#[_,_,_,rfl,_]:=h;rfl);have g4:=W.pa.up B g3 (Q5 _ rfl) (λus S Q E h=>by let#[_,_,_,_,_,_,_,rfl,_]:=h;rfl);have g5:=W.ro.up B g4 (Vp _ rfl rfl bu) (λus S Q E h=>by let#[_,_,_,_,rfl,_]:=h;rfl);have g6:=W.ti.up B g5 (Vq _) (λus S Q E h=>by let#[_,_,_,_,rfl,_]:=h;rfl);have g7:=W.go.up B g6 (Vs _) (λus S Q E h=>by let#[_,_,_,_,_,_,rfl,_]:=h;rfl);have g8:=W.fi.up B g7 (Vt _ bu) (λus S Q E h=>by let#[_,_,_,_,_,rfl,_]:=h;rfl);have g9:=W.sp.up B g8 (Vw _ h1 h2 rfl) (λus S Q E h=>by let#[_,_,_,_,_,rfl,_]:=h;rfl);have ga:=W.st.up B g9 (Vx _ rfl rfl rfl) (λus S Q E h=>by let#[_,_,_,_,_,rfl,_]:=h;rfl);exact#[_,ga.mono ∅,#[e1,e2,e3,e4,e5,e6,e7,e8,e9],h3,h4,rfl,bu,rfl,rfl,rfl]
open PL.yr in
theorem V3(D:VZ c T)(B:Base c T kx)(G:GS c T kx Γ j)(h1:Γ "table_of"=Fy)(h2:Γ "with_nowhere"=Jx)(h3:Γ "rounds"=JA)(h4:Γ "Table.first"=Fu):∃Γ',GS c T kx Γ' (j+14)/\Γ' "table_of"=Fy/\Γ' "Table.first"=Fu/\Γ' "difference"=JK:=by
 have g1:=D.aa.up B G (VF _) (λus S Q E h=>by let#[_,_,_,_,rfl,_]:=h;rfl);have g2:=D.sb.up B g1 (VG _) (λus S Q E h=>by let#[_,_,_,_,_,_,rfl,_]:=h;rfl);have g3:=D.sa.up B g2 (VH _ rfl rfl) (λus S Q E h=>by let#[_,_,_,_,_,_,_,rfl,_]:=h;rfl);have g4:=D.ta.up B g3 (VJ _ rfl rfl rfl) (λus S Q E h=>by let#[_,_,_,_,_,_,_,_,_,rfl,_]:=h;rfl);have g5:=D.mv.up B g4 (VM _) (λus S Q E h=>by let#[_,_,_,_,rfl,_]:=h;rfl);have g6:=D.sz.up B g5 (VO _) (λus S Q E h=>by let#[_,_,_,_,rfl,_]:=h;rfl);have g7:=D.di.up B g6 (VP _ h1 bu rfl h2 h3 rfl) (λus S Q E h=>by let#[_,_,_,_,_,_,rfl,_]:=h;rfl);exact#[_,g7.mono ∅,h1,h4,bu]
theorem rD(L:CI c T)(B:Base c T kx)(G:GS c T kx Γ j)(d:Nat)(h1:Γ "_law_nothing"=Fn d):∃Γ',GS c T kx Γ' (j+4)/\Γ' "_law_nothing"=Fn (d+1):=by
 have g2:=L.no.up B G (U5 _ d h1) (λus S Q E h=>by let#[_,rfl,_]:=h;rfl);exact#[_,g2.mono ∅,bu]
theorem V4(L:CI c T)(B:Base c T kx)(G:GS c T kx Γ j):∃Γ',GS c T kx Γ' (j+60)/\Γ' "_law_mix"=tX.xv/\Γ' "_law_trees"=MM:=by
 have a1:=L.no.up B G (sp:=Fn 0) (λus S Q E h=>by
  obtain⟨_,_,⟨_,_,h,_⟩|⟨_,_,h,_⟩⟩:=h
  .erw[absurd h (dS _)]
  .erw[absurd h (dS _)]) (λus S Q E h=>by let#[_,rfl,_]:=h;rfl)
 let#[Γ1,G1,n1]:=rD L B a1 0 bu;let#[Γ2,G2,n2]:=rD L B G1 1 n1;let#[Γ3,G3,n3]:=rD L B G2 2 n2;let#[Γ4,G4,n4]:=rD L B G3 3 n3;let#[Γ5,G5,n5]:=rD L B G4 4 n4;have c1:=L.cell.up B G5 (sp:=tX.Cp) (tX.MB _) (λus S Q E h=>by let#[_,_,rfl,_]:=h;rfl);have c2:=L.mix.up B c1 (sp:=tX.xv) (tX.Qr _ bu) (λus S Q E h=>by let#[_,_,rfl,_]:=h;rfl);have c3:=L.all.up B c2 (sp:=tX.IM) (tX.Qs _) (λus S Q E h=>by let#[rfl,_]:=h;rfl);have c4:=L.sm.up B c3 (sp:=ML 0) (λus S Q E h=>by let#[_,_,_,_,_,h,_]:=h;erw[absurd h (dS _)]) (λus S Q E h=>by let#[_,_,_,rfl,_]:=h;rfl);have c5:=L.sm.up B c4 (Jj _ 0 rfl rfl bu) (λus S Q E h=>by let#[_,_,_,rfl,_]:=h;rfl);have c6:=L.sm.up B c5 (Jj _ 1 rfl rfl bu) (λus S Q E h=>by let#[_,_,_,rfl,_]:=h;rfl);have c7:=L.sm.up B c6 (Jj _ 2 rfl rfl bu) (λus S Q E h=>by let#[_,_,_,rfl,_]:=h;rfl);have c8:=L.tr.up B c7 (Vi _ bu n5) (λus S Q E h=>by let#[_,_,_,_,rfl,_]:=h;rfl);exact#[_,c8.mono ∅,rfl,bu]
theorem yV(l:List String)(G1:GS c T kx Γ1 j)(G2:GS c T kx Γ2 j):GS c T kx (λx=>if x∈l then Γ1 x else Γ2 x) j:=#[G1.le,fY.mix G1.ok G2.ok λx=>by
 by_cases h:x∈l
 .erw[.inl (if_pos h)]
 .erw[.inr (if_neg h)]]
theorem JR{xs qual:Str}{st:Stmt}{f:Addr}{fd:eQ}{N ps:List Str}(R:FA c T)(W:RD c T)(P:yU c T)(Tb:VY c T)(D:VZ c T)(L:CI c T)(F:J1 c.K xs qual st f fd)(S:k9 N ps (bH st))(tx:J4 T 60 #[(bH st).names,N,true] (fJ st)=some PL.A4.Dc)(hm:N.length=ps.length+4)(hp:ps.length=1)(B:Base c T 1)(G:fY c T (λ_=>we) 1):j0 c.P c.w c.K c.mg c.base (tF c.P c.w) 200 f fd ps (lift c Cg):=by
 have G:GS c T 1 (λ_=>we) 1:=#[au _,G]
 obtain⟨Γr,Gr,-,hr,-⟩:=CD R B G;let#[Γw,Gw,hw]:=V0 R W B G;let#[Γq,Gq,gq,ql,qi,qb,qf]:=V1 P B G;let#[Γp,Gp,gp,pl,pi,ps1,pt,pf,pw,pr]:=V2 Tb B Gq qb qf gq ql qi;let#[Γl,Gl,l1,l2]:=V4 L B G;let#[e1,e2,e3,e4,e5,e6,e7,e8,e9]:=gp;have m1:=yV ["read"] Gr (Gp.mono (k:=1+130) ∅);have g1:=P.to.up B m1 (U2 _ hr) (λus S Q E h=>by let#[_,_,_,_,rfl,_]:=h;rfl);have g2:=P.po.up B g1 (U4 _ e5 pl bu e6 e7 pi) (λus S Q E h=>by let#[_,_,_,_,rfl,_]:=h;rfl);have g4:=Tb.tb.up B g2 (PL.yr.Vz _ bu ps1 pt) (λus S Q E h=>by let#[_,_,_,rfl,_]:=h;rfl);let#[Γd,g5,d1,d2,d3]:=V3 D B g4 bu pw pr pf;have m2:=yV ["written"] (Gw.mono (k:=160) ∅) (g5.mono ∅);have m3:=yV ["_law_mix","_law_trees"] (Gl.mono (k:=160) ∅) m2;have h:=NA F S B m3.le m3.ok tx (sp:=Cg) (PL.yr.JN _ l1 l2 hw d1 d3 d2) hm (λus S Q E h=>by let#[_,rfl,_]:=h;erw[hp.symm]);erw[h.mono ∅]
end
end L2
section
set_option autoImplicit false
namespace CJ
open PySem PySem.Spec PyProof.Rows PySem.W L2
noncomputable def top(i:Nat):Stmt:=PySem.Challenge.pw_tokenwright_k32_differences_turned.main.body.getD i (.Pass #[0,0,0,0])
noncomputable def rows:List wg:=
 #["in_order","in_order","",top 4,["signs"],["signs"],PL.mE]::
 #["all_but","all_but","",top 5,["signs"],["signs"],PL.oJ]::
 #["is_ahead","is_ahead","",top 6,["one","other"],["one","other"],PL.mF]::
 #["stretch","stretch","",top 7,["first","last"],["first","last"],PL.oK]::
 #["read","read","",top 17,["text","reader","tree"],["text"],PL.yp]::
 #["joined","joined","",top 18,["kind","trees"],["kind","trees"],PL.qL]::
 #["Reader.__init__","__init__","Reader",inClass (top 19) 0,["self","text"],["self","text"],PL.jH]::
 #["Reader.sees","sees","Reader",inClass (top 19) 1,["self","signs"],["self","signs"],PL.jI]::
 #["Reader.passes","passes","Reader",inClass (top 19) 2,["self","signs"],["self","signs"],PL.iD]::
 #["Reader.choice","choice","Reader",inClass (top 19) 3,["self","trees"],["self"],PL.iE]::
 #["Reader.row","row","Reader",inClass (top 19) 4,["self","trees"],["self"],PL.kh]::
 #["Reader.repeat","repeat","Reader",inClass (top 19) 5,["self","tree"],["self"],PL.iF]::
 #["Reader.atom","atom","Reader",inClass (top 19) 6,["self"],["self"],PL.jJ]::
 #["Reader.bracket","bracket","Reader",inClass (top 19) 7,["self","tree"],["self"],PL.gS]::
 #["Reader.sign_class","sign_class","Reader",inClass (top 19) 8,["self","turned","taken"],["self"],PL.fh]::
 #["Reader.item","item","Reader",inClass (top 19) 9,["self","first","second_at","second"],["self"],PL.jK]::
 #["Reader.written_sign","written_sign","Reader",inClass (top 19) 10,["self","marked","sign"],["self","marked"],PL.eh]::
 #["written","written","",top 53,["tree"],["tree"],PL.oM]::
 #["row_text","row_text","",top 54,["tree"],["tree"],PL.mG]::
 #["repeat_text","repeat_text","",top 55,["tree","marks","inner"],["tree"],PL.jL]::
 #["atom_text","atom_text","",top 56,["tree"],["tree"],PL.lx]::
 #["place_text","place_text","",top 57,["signs"],["signs"],PL.ki]::
 #["sign_text","sign_text","",top 58,["sign","marked"],["sign","marked"],PL.ly]::
 #["class_texts","class_texts","",top 59,["signs","texts"],["signs"],PL.jM]::
 #["guarded","guarded","",top 60,["items"],["items"],PL.oN]::
 #["class_items","class_items","",top 61,["signs","items","run"],["signs"],PL.jN]::
 #["runs","runs","",top 62,["signs","found","run","sign"],["signs"],PL.yq]::
 #["run_items","run_items","",top 63,["run","singles","whole"],["run"],PL.lz]::
 #["places_of","places_of","",top 23,["rules","most","layout","number","rule","part"],["rules","most"],PL.nk.lB]::
 #["tree_of","tree_of","",top 24,["rule","number","fault"],["rule","number"],PL.nk.oO]::
 #["members","members","",top 25,["bits"],["bits"],PL.nk.oQ]::
 #["Part.__init__","__init__","Part",inClass (top 26) 0,["self","empty","firsts","lasts"],["self","empty","firsts","lasts"],PL.nk.lC]::
 #["one_behind_other","one_behind_other","",top 27,["one","other","firsts","lasts"],["one","other"],PL.nk.fK]::
 #["one_or_other","one_or_other","",top 28,["one","other"],["one","other"],PL.nk.i4]::
 #["Layout.__init__","__init__","Layout",inClass (top 29) 0,["self"],["self"],PL.nk.jO]::
 #["Layout.how_many","how_many","Layout",inClass (top 29) 1,["self"],["self"],PL.nk.fX]::
 #["Layout.close_rule","close_rule","Layout",inClass (top 29) 2,["self","part"],["self","part"],PL.nk.fj]::
 #["Layout.link","link","Layout",inClass (top 29) 3,["self","lasts","firsts","place"],["self","lasts","firsts"],PL.nk.jP]::
 #["Layout.lay","lay","Layout",inClass (top 29) 4,["self","tree"],["self","tree"],PL.nk.kj]::
 #["Layout.lay_place","lay_place","Layout",inClass (top 29) 5,["self","signs","place"],["self","signs"],PL.nk.fL]::
 #["Layout.lay_row","lay_row","Layout",inClass (top 29) 6,["self","trees","whole","tree","part"],["self","trees"],PL.nk.gU]::
 #["Layout.lay_choice","lay_choice","Layout",inClass (top 29) 7,["self","trees","whole","tree"],["self","trees"],PL.nk.fm]::
 #["Layout.lay_repeat","lay_repeat","Layout",inClass (top 29) 8,["self","tree","marks","inner","part","empty"],["self","tree"],PL.nk.fq]::
 #["useful_places","useful_places","",top 30,["layout","takes_some","grown","lasts","useful","place"],["layout"],PL.nk.iG]::
 #["places_that_take","places_that_take","",top 31,["layout","sign"],["layout","sign"],PL.nk.fM]::
 #["Places.__init__","__init__","Places",inClass (top 32) 0,["self","layout","useful"],["self","layout"],PL.nk.jQ]::
 #["Places.beyond","beyond","Places",inClass (top 32) 1,["self","held","reached","place"],["self","held"],PL.nk.iH]::
 #["Places.first_rule","first_rule","Places",inClass (top 32) 2,["self","held","number","lasts"],["self","held"],PL.nk.fu]::
 #["table_of","table_of","",top 35,["rules"],["rules"],PL.yr.mJ]::
 #["Table.__init__","__init__","Table",inClass (top 36) 0,["self","told","rows"],["self","told","rows"],PL.yr.ko]::
 #["Table.goes","goes","Table",inClass (top 36) 2,["self","state","sign"],["self","state","sign"],PL.yr.kq]::
 #["Table.first","first","Table",inClass (top 36) 3,["self","text","state","sign"],["self","text"],PL.yr.jR]::
 #["spread","spread","",top 37,["places","lots","numbers","rows","reach","row","sign","held"],["places"],PL.yr.qM]::
 #["smallest","smallest","",top 38,["table","blocks","told","rows","state","row"],["table"],PL.yr.mK]::
 #["with_nowhere","with_nowhere","",top 39,["rows","nowhere"],["rows"],PL.yr.i6]::
 #["rounds","rounds","",top 40,["told","rows","signs","found","finer"],["told","rows"],PL.yr.qN]::
 #["parted","parted","",top 41,["blocks","rows","signs","keys","state","row"],["blocks","rows","signs"],PL.yr.qO]::
 #["numbered","numbered","",top 42,["keys","numbers"],["keys"],PL.yr.mM]::
 #["telling_signs","telling_signs","",top 43,["rows","firsts","sign"],["rows"],PL.yr.iI]::
 #["difference","difference","",top 45,["rules","other_rules","one","other","told","rows"],["rules","other_rules"],PL.A4.kr]::
 #["moved","moved","",top 46,["rows","by"],["rows","by"],PL.A4.tY]::
 #["text_apart","text_apart","",top 47,["found","rows","states","size","text","pair","blocks"],["found","rows","states"],PL.A4.kA]::
 #["are_apart","are_apart","",top 48,["blocks","pair"],["blocks","pair"],PL.A4.lD]::
 #["states_behind","states_behind","",top 49,["rows","pair","sign"],["rows","pair","sign"],PL.A4.iJ]::
 #["sign_apart","sign_apart","",top 50,["blocks","rows","pair"],["blocks","rows","pair"],PL.A4.kB]::
 #["Table.size","size","Table",inClass (top 36) 1,["self"],["self"],PL.A4.kz]::
 #["_law_cell","_law_cell","",top 65,["_law_script","_law_k"],["_law_script","_law_k"],PL.tX.lA]::
 #["_law_mix","_law_mix","",top 66,["_law_script","_law_k","_law_number"],["_law_script","_law_k"],PL.tX.mH]::
 #["_law_all","_law_all","",top 69,["_law_low"],[],PL.tX.mI]::
 #["_law_nothing","_law_nothing","",top 70,["_law_tree"],["_law_tree"],PL.nk.i5]::
 #["_law_small","_law_small","",top 79,["_law_script","_law_base","_law_deep","_law_number","_law_way","_law_parts"],["_law_script","_law_base","_law_deep"],PL.nk.km]::
 #["_law_trees","_law_trees","",top 80,["_law_script","_law_base","_law_many","_law_deep","_law_found","_law_k","_law_tree"],["_law_script","_law_base","_law_many","_law_deep"],PL.nk.kn]::[]
noncomputable def T:Tab where
 const:=[("SIGNS",.str PL.SG),("MARKED_OUTSIDE",.str [46,124,40,41,91,93,42,43,63,92]),("MARKED_WITHIN",.str [93,45,92]),("DEEPEST",.int 6),("REPEATS",.tab [([42],[115,116,97,114]),([43],[112,108,117,115]),([63],[109,97,121,98,101])]),("BEHIND_BACKSLASH",.str [46,124,40,41,91,93,42,43,63,92,45,94,110]),("MOST_RULES",.int 6),("AHEAD",.int 1),("MOST_PLACES",.int 10),("MARKS",.tab [([115,116,97,114],[42]),([112,108,117,115],[43]),([109,97,121,98,101],[63])])]
 fns:=JP rows
 pU:=["Reader","Part","Layout","Places","Table"]
 pV:=JQ rows
 yt:=["text","at","depth","rule","empty","firsts","lasts","signs","behind","ends","takers","takes","told","rows"]
 kC:=["len","tuple","list","dict","sum","min","max","all","any","range","enumerate","reversed"]
theorem Y1:rows.all FD=true:=by decide +kernel
theorem Y2:rows.all (RA T)=true:=by decide +kernel
theorem Y3:rows.map (λr=>J4 T 60 #[(bH r.st).names,r.N,true] (fJ r.st))=rows.map λr=>some r.b:=by kernel_rfl
theorem V5:∀r∈rows,yT r:=by
 unfold rows
 repeat' refine aY.mpr #[?_,?_]
 all_goals first|exact λ_ h=>(cA h).elim|exact bd1 rfl λ_ _ _ _ _ _ _ _ _=>rfl|exact bd2 rfl λ_ _ _ _ _ _ _ _ _ _=>rfl|exact bd3 rfl λ_ _ _ _ _ _ _ _ _ _ _=>rfl|exact bd0 rfl λ_ _ _ _ _ _ _ _=>rfl|exact bd4 rfl λ_ _ _ _ _ _ _ _ _ _ _ _=>rfl
noncomputable abbrev sL:Stmt:=top 82
theorem RE:k9 ["_law_script","_law_rows","_law_k","_law_trees_here","_law_found"] ["_law_script"] (bH sL):=#[rfl,rfl,rfl,by decide +kernel,rfl,by decide +kernel,by decide +kernel]
theorem RF:J4 T 60 #[(bH sL).names,["_law_script","_law_rows","_law_k","_law_trees_here","_law_found"],true] (fJ sL)=some PL.A4.Dc:=by kernel_rfl
end CJ
end
section
set_option autoImplicit true
namespace CJ
open PySem PySem.Spec PyProof.Rows PySem.W L2
theorem all_mk{l:Gb}{w:cf}{K:Frag}{h:Heap}{mg:Str->Option Value}{fa:Addr}(X:K.In h)(G:h.Ns bz mg)(hfa:mg "law"=some (.ref fa))
  (a_law:nsIn K bz "law"=some (some (.ref fl)))
  (f_law:FC K "law" "law" sL fl)
  (hC:∀p∈([("Reader",C_Reader),("Part",C_Part),("Layout",C_Layout),("Places",C_Places),("Table",C_Table)]:List (String×Addr)),M9 K p T.yt)
  (hR:∀r∈rows,AM K [("Reader",C_Reader),("Part",C_Part),("Layout",C_Layout),("Places",C_Places),("Table",C_Table)] r)
  (a_SIGNS:nsIn K bz "SIGNS"=some (some (.str z_SIGNS t_SIGNS)))
  (e_SIGNS:z_SIGNS=tx PL.SG)
  (a_MARKED_OUTSIDE:nsIn K bz "MARKED_OUTSIDE"=some (some (.str z_MARKED_OUTSIDE t_MARKED_OUTSIDE)))
  (e_MARKED_OUTSIDE:z_MARKED_OUTSIDE=tx [46,124,40,41,91,93,42,43,63,92])
  (a_MARKED_WITHIN:nsIn K bz "MARKED_WITHIN"=some (some (.str z_MARKED_WITHIN t_MARKED_WITHIN)))
  (e_MARKED_WITHIN:z_MARKED_WITHIN=tx [93,45,92])
  (a_DEEPEST:nsIn K bz "DEEPEST"=some (some (.int 6 t_DEEPEST)))
  (a_REPEATS:nsIn K bz "REPEATS"=some (some (.ref r_REPEATS)))
  (l_REPEATS:K.lookup r_REPEATS=some #[.type "dict",none,.dict es_REPEATS ec_REPEATS,#[]])
  (kl_REPEATS:AY w.params es_REPEATS.toList)
  (ky_REPEATS:es_REPEATS.toList.map (λe=>FE e.key)= [some ("*":Str),some ("+":Str),some ("?":Str)])
  (sm_REPEATS:(r_REPEATS==bT)=false)
  (r_REPEATS0:nsIn K r_REPEATS "*"=some (some (.str z_REPEATS0 t_REPEATS0)))
  (re_REPEATS0:z_REPEATS0=tx [115,116,97,114])
  (r_REPEATS1:nsIn K r_REPEATS "+"=some (some (.str z_REPEATS1 t_REPEATS1)))
  (re_REPEATS1:z_REPEATS1=tx [112,108,117,115])
  (r_REPEATS2:nsIn K r_REPEATS "?"=some (some (.str z_REPEATS2 t_REPEATS2)))
  (re_REPEATS2:z_REPEATS2=tx [109,97,121,98,101])
  (a_BEHIND_BACKSLASH:nsIn K bz "BEHIND_BACKSLASH"=some (some (.str z_BEHIND_BACKSLASH t_BEHIND_BACKSLASH)))
  (e_BEHIND_BACKSLASH:z_BEHIND_BACKSLASH=tx [46,124,40,41,91,93,42,43,63,92,45,94,110])
  (a_MOST_RULES:nsIn K bz "MOST_RULES"=some (some (.int 6 t_MOST_RULES)))
  (a_AHEAD:nsIn K bz "AHEAD"=some (some (.int 1 t_AHEAD)))
  (a_MOST_PLACES:nsIn K bz "MOST_PLACES"=some (some (.int 10 t_MOST_PLACES)))
  (a_MARKS:nsIn K bz "MARKS"=some (some (.ref r_MARKS)))
  (l_MARKS:K.lookup r_MARKS=some #[.type "dict",none,.dict es_MARKS ec_MARKS,#[]])
  (kl_MARKS:AY w.params es_MARKS.toList)
  (ky_MARKS:es_MARKS.toList.map (λe=>FE e.key)= [some ("star":Str),some ("plus":Str),some ("maybe":Str)])
  (sm_MARKS:(r_MARKS==bT)=false)
  (r_MARKS0:nsIn K r_MARKS "star"=some (some (.str z_MARKS0 t_MARKS0)))
  (re_MARKS0:z_MARKS0=tx [42])
  (r_MARKS1:nsIn K r_MARKS "plus"=some (some (.str z_MARKS1 t_MARKS1)))
  (re_MARKS1:z_MARKS1=tx [43])
  (r_MARKS2:nsIn K r_MARKS "maybe"=some (some (.str z_MARKS2 t_MARKS2)))
  (re_MARKS2:z_MARKS2=tx [63])
  (hz:∀b∈T.kC,nsIn K bz (bV b)=some none)
  : ∃fd:eQ,(∀(s:aA)(v:Value),AU s fd #[[v],[]] [("_law_script",v)])/\∀base:Heap,K.In base->base.Ns bz mg->j0 l.prog w K mg base (tF l.prog w) 200 fa fd ["_law_script"] (yB K):=by
 have e:=hfa.symm.trans (qg X G a_law);cases e;let#[oc,od,kV,dc,pm,an,cd,ct,sl,h1,h2,h3]:=f_law;refine#[fnOf "law" "law" (lg sL) (fJ sL) (bH sL) .none kV dc pm an cd ct,λs v=>.of_eq rfl,λbase _ _=>?_]
 let c:L2.Ctx:=#[l.prog,w,K,mg,base,λx=>([("Reader",C_Reader),("Part",C_Part),("Layout",C_Layout),("Places",C_Places),("Table",C_Table)]:List (String×Addr)).lookup x]
 have hT:H8 c T:=by
  refine#[?_,λx hx=>mg_none_of X G (hz x hx),RC rfl hC]
  .exact(aY.mpr #[ug (qg X G a_SIGNS) e_SIGNS,(aY.mpr #[ug (qg X G a_MARKED_OUTSIDE) e_MARKED_OUTSIDE,(aY.mpr #[ug (qg X G a_MARKED_WITHIN) e_MARKED_WITHIN,(aY.mpr #[#[.int 6,_,qg X G a_DEEPEST,#[t_DEEPEST,rfl],λ_ _=>aO.mpr rfl],(aY.mpr #[VX (qg X G a_REPEATS) l_REPEATS kl_REPEATS ky_REPEATS sm_REPEATS (by kernel_rfl:("*":Str)=tx [42]) (by kernel_rfl:("+":Str)=tx [43]) (by kernel_rfl:("?":Str)=tx [63]) r_REPEATS0 re_REPEATS0 r_REPEATS1 re_REPEATS1 r_REPEATS2 re_REPEATS2,(aY.mpr #[ug (qg X G a_BEHIND_BACKSLASH) e_BEHIND_BACKSLASH,(aY.mpr #[#[.int 6,_,qg X G a_MOST_RULES,#[t_MOST_RULES,rfl],λ_ _=>aO.mpr rfl],(aY.mpr #[#[.int 1,_,qg X G a_AHEAD,#[t_AHEAD,rfl],λ_ _=>aO.mpr rfl],(aY.mpr #[#[.int 10,_,qg X G a_MOST_PLACES,#[t_MOST_PLACES,rfl],λ_ _=>aO.mpr rfl],(aY.mpr #[VX (qg X G a_MARKS) l_MARKS kl_MARKS ky_MARKS sm_MARKS (by kernel_rfl:("star":Str)=tx [115,116,97,114]) (by kernel_rfl:("plus":Str)=tx [112,108,117,115]) (by kernel_rfl:("maybe":Str)=tx [109,97,121,98,101]) r_MARKS0 re_MARKS0 r_MARKS1 re_MARKS1 r_MARKS2 re_MARKS2,(λ_ h=>(cA h).elim)])])])])])])])])])])
 have hB:Base c T 1:=#[hT]
 have G0:fY c T (λ_=>we) 1:=RB X G rfl hC hR V5 rfl rfl (aY.mpr #[#[rows[6],dE _,rfl,rfl,rfl],(aY.mpr #[#[rows[31],dE _,rfl,rfl,rfl],(aY.mpr #[#[rows[34],dE _,rfl,rfl,rfl],(aY.mpr #[#[rows[45],dE _,rfl,rfl,rfl],(aY.mpr #[#[rows[49],dE _,rfl,rfl,rfl],(λ_ h=>(cA h).elim)])])])])]);have R:=Na (c:=c) X G rfl hC hR V5 Y1 Y2 Y3;erw[Mq (JR #[R 0 _ rfl,R 1 _ rfl,R 2 _ rfl,R 3 _ rfl,R 4 _ rfl,R 5 _ rfl,R 6 _ rfl,R 7 _ rfl,R 8 _ rfl,R 9 _ rfl,R 10 _ rfl,R 11 _ rfl,R 12 _ rfl,R 13 _ rfl,R 14 _ rfl,R 15 _ rfl,R 16 _ rfl] #[R 17 _ rfl,R 18 _ rfl,R 19 _ rfl,R 20 _ rfl,R 21 _ rfl,R 22 _ rfl,R 23 _ rfl,R 24 _ rfl,R 25 _ rfl,R 26 _ rfl,R 27 _ rfl] #[R 28 _ rfl,R 29 _ rfl,R 30 _ rfl,R 31 _ rfl,R 32 _ rfl,R 33 _ rfl,R 34 _ rfl,R 35 _ rfl,R 36 _ rfl,R 37 _ rfl,R 38 _ rfl,R 39 _ rfl,R 40 _ rfl,R 41 _ rfl,R 42 _ rfl,R 43 _ rfl,R 44 _ rfl,R 45 _ rfl,R 46 _ rfl,R 47 _ rfl] #[R 48 _ rfl,R 49 _ rfl,R 50 _ rfl,R 51 _ rfl,R 52 _ rfl,R 53 _ rfl,R 54 _ rfl,R 55 _ rfl,R 56 _ rfl,R 57 _ rfl,R 58 _ rfl] #[R 59 _ rfl,R 60 _ rfl,R 61 _ rfl,R 62 _ rfl,R 63 _ rfl,R 64 _ rfl,R 65 _ rfl] #[R 66 _ rfl,R 67 _ rfl,R 68 _ rfl,R 69 _ rfl,R 70 _ rfl,R 71 _ rfl] (GX h1 h2 h3) RE RF rfl rfl hB G0)]
theorem walk{l:Gb}{q:bw}{loose:List Str}{XP:(Str->Option Value)->Heap->Prop}{YP:cf->Heap->Prop}{d:DefRec}{K:Params->Frag}(hn:l.most=some 63)(hdf:d.params.defaults=[])
  (hY:∀(w:cf)(h:Heap),YP w h->(K w.params).In h)
  (F:∀(w:cf)(mg:Str->Option Value)(fa:Addr)(h:Heap),(K w.params).In h->h.Ns bz mg->mg d.name=some (.ref fa) ->
   ∃fd:eQ,(∀(s:aA)(u:Value),AU s fd #[[u],[]] [("_law_script",u)])/\∀base:Heap,(K w.params).In base->base.Ns bz mg->j0 l.prog w (K w.params) mg base (tF l.prog w) 200 fa fd ["_law_script"] (yB (K w.params))):
  WalkO q loose XP YP l.row.toRowW d [] (λf vs=>D6 f vs):=
 L2.K1 (n:=63) (k:=200) (x:="_law_script") (CX:=λw=>tF l.prog w) (sp:=λw=>yB (K w.params)) hn ⋯ hdf #[rfl,⋯,⋯] hY F (λ_ _ a ns hl o hS=>#[a,ns,rfl,hl,Iv o hS,λ_=>rfl]) λ_ _ _ _ _ z=>Qj z
end CJ
end
end Lake
end
section
open Lake
structure PySem.W.Fast:Prop where(tw8781788740498475148 tw10643294274567665713 tw14974226579609574990 tw808329699237581220 tw16703768243503749388 tw9270347185951990906 tw13067489647323868530 tw5613858535300408561 tw11393012543070719528 tw3958948772863774218 tw15638628701863264697 tw6630337934433218009 tw9649344222811594743 tw4783278259656001430 tw2483553947679830248 tw4974478992853798305 tw6278686428563721331 tw10947095809872322230 tw2319959485635949938 tw13538946732695354763 tw9771191930494729754 tw5520266125567170568 tw14014440352538526249 tw16701531155328592013 tw430512385465837965 tw12630885388766059273 tw8806934512195159324 tw12214655804627029254 tw11528746778971072478 tw4205746128209224062 tw14007667754699510237 tw10836874896149553895 tw8956300348169450317 tw18255216269553000703 tw13762181854668393382 tw7094261550576475401 tw2848410617372820548 tw347079438935583868 tw3853626508374820008 tw16800420968102567339 tw12213146040404360249 tw1288386943553878518 tw13310008362038694135 tw10631421696049588203 tw7594647931210267836 tw14036223080001533036 tw7012383746369489058 tw10675552707800078987 tw13357954154605215174 tw17923429951221532190 tw10144284609835424853 tw12815518608738606502 tw4345493182575663300 tw5979868360517417740 tw15631986441812997745 tw6160938660308628914 tw3773385474610724056 tw16160785317558057945 tw6156201023562123688 tw3530352637899696542 tw2221185046135704172 tw9545181209287720500 tw16836357988998267008 tw11818234951560597815 tw8199707092682997137 tw6355928928404710854 tw8402741030020299020 tw12139982901554971233 tw7998732625661728348 tw2400304677641387689 tw4828792244172096430 tw1356126107946421194 tw8074963314372779496 tw3092123102007381155 tw9867298718436533267 tw4385825976757747765 tw7638401141583861773 tw506000367412190238 tw18367474524355541395 tw15815684247062763499 tw7923843491039704643 tw1031858629854977681 tw13114054722607477022 tw9077638190053308206 tw10578481125523207820 tw9927260675741074867 tw15300122247498910399 tw12614333673390987390 tw16363393452167568630 tw13649566853209899072 tw2209052269284442499 tw4745090895695338677 tw10293952009257487326 tw5159318621940230484 tw15102633633748654037 tw18227999505732102605 tw15829891834581400746 tw7753597567502780790 tw12861663485209348823 tw14448222711216746247 tw994719550918167865 tw11654346079552105808 tw8727431745777460074 tw15672607565865464923 tw6880597777678051046 tw18367399295960646817 tw15975507099054497369 tw1160229656012880590 tw1146550909169617490 tw9399136460351254121 tw2029954720327952861 tw15287796444021012424 tw16583812059565021444 tw2821105638960296891 tw5057004161188698370 tw12485422680278722055 tw2327308114157489028 tw15522103421312385421 tw14707844334968676504 tw12005647722161959543 tw13542766854340140821 tw8943579167110917186 tw18251104015637675184 tw10056260759563967375 tw18180925970274803995 tw12309520616228043758 tw6369809272314294397 tw12118863835648393171 tw11703878995321318693 tw1762063012128567037 tw8632240108584732128 tw7116330966627869702 tw10910362584342777702 tw16935555926382549590 tw12900002037361581631 tw11783281479240601793 tw3177310401702949492 tw17716731153502797669 tw11079396860992701855 tw10260071165312362121 tw9235780313084790074 tw18100765306068027091 tw2176699800118446758 tw4797282992419622709 tw12607943647535862317 tw4093846171960670369 tw14211071966242905204 tw13219308499458666999 tw17045733299226211075 tw360509229371574820 tw15706596370836046951 tw8329452191783118207 tw334753065298086903 tw8349655702354895861 tw14998684306607600505 tw18325623730357218642 tw10088977722276501515 tw13030678006798045809 tw5527856334824739220 tw13281385216453862535 tw4336773030088392581 tw14313315884956047188 tw9821563703479149022 tw987839640472994582 tw16593942146630897720 tw13264556276950313039 tw15117830847677690280 tw11516704291530431272 tw13754613424451402970 tw14163053878788420407 tw3246367207394125815 tw11464714678694687901 tw7343452496701558006 tw16305473462440942450 tw3191431476324434673 tw16389697204952261185 tw3891713013132138808 tw3522583211943005414 tw14410920316379103393 tw14674878371986548320 tw1282673102544741926 tw5760105621106894754 tw15731508475964442083 tw15653997863861155224 tw17452776930585394572 tw355969404957191565 tw14467067790736243436 tw4983197084218568818 tw18232377762643478369 tw971106585919900937 tw3547982924219233797 tw14923359342151354230 tw11450058099841179536 tw7394161067383722136 tw282522728765772626 tw5390975210226445969 tw6116973449571875999 tw8562767505701392981 tw1957994779906899822 tw11657880190480683533 tw8656909214866691326 tw9444099601762142522 tw1863684487336459487 tw5188361647714621481 tw14062099241257481265 tw11174765249899160525 tw18101775356301867523 tw1245598144528326875 tw16744550741058814613 tw14220442137882239072 tw13093277956761213223 tw17680774194395998172 tw12831806193670012836 tw16299091247219543600 tw13936960909989172422 tw16764890516008191886 tw1397649943140139461 tw17984296142479968116 tw14608680615477165569 tw8642661432306741911 tw16870638451524344796 tw4935199339979387315 tw10479640216520664888 tw10820529278442742001 tw1384569987683653312 tw2752694248691333965 tw11242928301208499088 tw8924081106855248408 tw315978490294209710 tw10105538664106741362 tw17348594025001069799 tw14026314740785626274 tw1797560574055552060 tw5142995275689380167 tw7072541451389872897 tw1064721561680005892 tw18123381294884275046 tw18026944065234734376 tw2246071831698488866 tw16847648778126847712 tw15295223222897615828 tw15247859210261091150 tw13371246623837754482 tw7105881253908869730 tw5209925148989033454 tw15503218940628553513 tw8966100515330553293 tw1769124156019667558 tw17989541096612751730 tw8849030796906098089 tw16552770291728951739 tw17462080707151044162 tw7809146488920254073 tw16739330855580986173 tw9712765560825135119 tw10853459152644209040 tw18064441450204704394 tw92232189212153335 tw3247373674754051814 tw3483878415955258821 tw12313464473822467547 tw17756201511332805864 tw18165890257357539731 tw15187093512962733138 tw10872757909330748376 tw3322004623224797247 tw4420457895997067898 tw2580222931665269233 tw1591186583929485649 tw8131746683231129966 tw11817440429777804071 tw14476386825502223801 tw12530979920688073707 tw2619597218477714612 tw2611562577347450531 tw10391005319211674661 tw14224621416639134273 tw6117335707168162220 tw4907610100973857566 tw2839389157346125883 tw8192889076212309842 tw6628469092233365822 tw327022164460602446 tw16234953468764012033 tw16054686404891715073 tw11794916167172875392 tw11235609648693947873 tw11112907231675613219 tw7346201228531483519 tw17970605649801683185 tw13514604471844357684 tw8807583410966589438 tw4194078727658144755 tw13528591535336848684 tw7005664885788833749 tw8599402787220431890 tw17148883829278560239 tw15536998919190553672 tw10894321890747542387 tw11789463673441230814 tw4505114763761722863 tw262193077657996483 tw7091539061459588877 tw3419661091997717060 tw9780913998305349530 tw9265021083747243014 tw9050064129089467700 tw8508969058553287564 tw7222960979386211072 tw6498043800182062595 tw5372506039272942831 tw503659824070906621 tw3379293958257982148 tw2370641066810162210 tw1961631687178120416 tw17830611009456219289 tw16440710210033115633 tw14289241109647240352 tw13599350305075527489 tw13318839847773964705 tw12861941647809487200 tw1165213095573243856 tw9386254598430586264 tw1143346307094500385 tw6707556532968789186 tw13817095370236361378 tw2063218783001307039 tw698653689702304648 tw6282770868162729786 tw5673525654117564449 tw326874588096111269 tw2628723865375550402 tw17726403090307290093 tw16854607400855987993 tw15699345320713628976 tw12915417042760526124 tw12444903768643606573 tw10297990130753972202 tw5426588880885609238 tw10160792973295407673 tw7268699856804744016 tw10178448869607482116 tw17506303296830973036 tw17127645562697552284 tw12356569819937000743 tw1105288412671173868 tw9462120865192782912 tw13350009152921757473 tw3620064672365931948 tw9822523486276345075 tw8411026272500356128 tw7426286759065651025 tw5963208795633074 tw3407746798452763684 tw16092861876934711704 tw15279476419900603097 tw14535774174431961695 tw13125613017669145774 tw13003356974517643065 tw12958365485867585829 tw12879935522100667358 tw11273184233424393064 tw11722936937509658842 tw8810846211242062221 tw991149336101051726 tw9776379376908728683 tw9613897592345897198 tw8834670008441077356 tw765128603039114526 tw7617981572635454893 tw6860647510679406434 tw6751146724171059447 tw6400996816158421994 tw6327451820898144142 tw604827800119897305 tw6023079117668610076 tw5560966017369906876 tw3059908670862751850 tw18123083192315162155 tw17757151363180734059 tw17242024204544700361 tw17206264877798193452 tw17151063113794211662 tw17099446805588095313 tw16036910549717192202 tw15812288448282036165 tw14654473024723358351 tw1417561285088790236 tw13613560940651244391 tw12266450375548338820 tw12243413916616577772 tw12096360508619198311 tw11498327389311233171 tw10963458874112012589 tw10337081687805087119 tw10087421818926184703 tw5386204998265059399:True)
open PySem PySem.W PyProof.Rows
set_option maxRecDepth 100000 in
set_option maxHeartbeats 0 in
theorem PySem.Challenge.cw_tokenwright_k32_differences_turned_holds : PySem.Challenge.rw_tokenwright_k32_differences_turned.Holds := by
 w_on;o_law;k_head;(case hw=>w_witness2)
 k_fill
 refine CJ.walk (l:=PySem.Challenge.rw_tokenwright_k32_differences_turned) rfl rfl (fun w h Y=>PySem.W.kIn_of Y) ?F
 case F=>
  intro w mg fa h KX G hmg;refine' CJ.all_mk KX G hmg ?a_law ?f_law ?hC ?hR ?a_SIGNS ?e_SIGNS ?a_MARKED_OUTSIDE ?e_MARKED_OUTSIDE ?a_MARKED_WITHIN ?e_MARKED_WITHIN ?a_DEEPEST ?a_REPEATS ?l_REPEATS ?kl_REPEATS ?ky_REPEATS ?sm_REPEATS ?r_REPEATS0 ?re_REPEATS0 ?r_REPEATS1 ?re_REPEATS1 ?r_REPEATS2 ?re_REPEATS2 ?a_BEHIND_BACKSLASH ?e_BEHIND_BACKSLASH ?a_MOST_RULES ?a_AHEAD ?a_MOST_PLACES ?a_MARKS ?l_MARKS ?kl_MARKS ?ky_MARKS ?sm_MARKS ?r_MARKS0 ?re_MARKS0 ?r_MARKS1 ?re_MARKS1 ?r_MARKS2 ?re_MARKS2 ?hz
  (case a_law=>k_is)
  (case f_law=>exact⟨_,_,_,_,_,_,_,_,_,by k_is,by k_is,by k_is⟩)
  (case hC=>(repeat' refine aY.mpr ⟨?_,?_⟩);all_goals first | exact fun _ h=>(cA h).elim | exact⟨(by(try dsimp only);k_is),⟨(by(try dsimp only);k_is),(by(try dsimp only);k_is),(by(try dsimp only);k_is),(by(try dsimp only);k_is)⟩,(by(try dsimp only);k_is),(by(try dsimp only);k_is),(by kernel_rfl)⟩)
  (case hR=>unfold CJ.rows;(repeat' refine aY.mpr ⟨?_,?_⟩);all_goals first | exact fun _ h=>(cA h).elim | exact .fn (by k_is) ⟨_,_,_,_,_,_,_,_,_,by k_is,by k_is,by k_is⟩ | exact .mt rfl rfl (by k_is) (by k_is) ⟨_,_,_,_,_,_,_,_,_,by k_is,by k_is,by k_is⟩)
  (case a_SIGNS=>k_is)
  (case e_SIGNS=>kernel_rfl)
  (case a_MARKED_OUTSIDE=>k_is)
  (case e_MARKED_OUTSIDE=>kernel_rfl)
  (case a_MARKED_WITHIN=>k_is)
  (case e_MARKED_WITHIN=>kernel_rfl)
  (case a_DEEPEST=>k_is)
  (case a_REPEATS=>k_is)
  (case l_REPEATS=>k_is)
  (case kl_REPEATS=>exact⟨⟨_,_,rfl,rfl⟩,⟨⟨_,_,rfl,rfl⟩,⟨⟨_,_,rfl,rfl⟩,trivial⟩⟩⟩)
  (case ky_REPEATS=>kernel_rfl)
  (case sm_REPEATS=>kernel_rfl)
  (case r_REPEATS0=>k_is)
  (case re_REPEATS0=>kernel_rfl)
  (case r_REPEATS1=>k_is)
  (case re_REPEATS1=>kernel_rfl)
  (case r_REPEATS2=>k_is)
  (case re_REPEATS2=>kernel_rfl)
  (case a_BEHIND_BACKSLASH=>k_is)
  (case e_BEHIND_BACKSLASH=>kernel_rfl)
  (case a_MOST_RULES=>k_is)
  (case a_AHEAD=>k_is)
  (case a_MOST_PLACES=>k_is)
  (case a_MARKS=>k_is)
  (case l_MARKS=>k_is)
  (case kl_MARKS=>exact⟨⟨_,_,rfl,rfl⟩,⟨⟨_,_,rfl,rfl⟩,⟨⟨_,_,rfl,rfl⟩,trivial⟩⟩⟩)
  (case ky_MARKS=>kernel_rfl)
  (case sm_MARKS=>kernel_rfl)
  (case r_MARKS0=>k_is)
  (case re_MARKS0=>kernel_rfl)
  (case r_MARKS1=>k_is)
  (case re_MARKS1=>kernel_rfl)
  (case r_MARKS2=>k_is)
  (case re_MARKS2=>kernel_rfl)
  (case hz=>unfold CJ.T;(repeat' refine aY.mpr ⟨?_,?_⟩);all_goals first | exact fun _ h=>(cA h).elim | k_is)
end
