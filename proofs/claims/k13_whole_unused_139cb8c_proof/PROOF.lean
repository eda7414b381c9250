import PyProof.Rows.All
import Wide.All
import OpenK.AllK
import Wide.FinOn
import PyProof.EqAt
import PyProof.EqKinds
import PyProof.TupleCall
import PyProof.NeKinds
import KE.KMinBuiltin
import Lean
import PySem.Challenge.RW_tokenwright_k13_whole_unused
open Array renaming getElem?_eq_getElem->eU,getElem?_eq_some_iff->hU,forIn_toList->qV,toList->Ak,getElem?_eq_none->An,length_toList->DG
open Bool renaming and_eq_true->aj,false_eq_true->ao,false_ne_true->aV,or_eq_true->bg,not_true->bC,not_false->bL,eq_iff_iff->cJ,not_eq_true'->gQ,not_eq_true->iL,true_and->Aa,not_eq_false->He,noConfusion->Kz
open False renaming elim->aO
open ForInStep renaming yield->eO
open Function renaming comp_def->dh
open Iff renaming rfl->kN
open Int renaming emod_lt_of_pos->gy,emod_nonneg->jh,toNat_natCast->jO,fdiv_eq_ediv_of_nonneg->yt,not_lt->yE,le_refl->E7
open Int.ofNat renaming inj->pC
open List renaming getElem?_eq_getElem->aa,getElem?_eq_some_iff->ab,length_map->af,getElem?_append_left->ag,mem_of_getElem?->ah,getElem?_set_ne->ai,length_append->ar,map_cons->au,getElem?_map->aw,getElem?_append_right->ax,mem_cons_of_mem->aA,map_append->aD,getD_eq_getElem?_getD->aE,mem_append->aG,size_toArray->aH,lookup_cons->aK,mem_cons->aN,forall_mem_cons->aS,mem_cons_self->aT,length_cons->aU,mem_singleton->aZ,mem_append_right->ba,mem_map->bq,map_map->bu,suffix_refl->bE,getElem?_set_self->bG,all_eq_true->bI,append_assoc->bJ,all_cons->bK,range->bO,idxOf_lt_length_of_mem->bP,mem_append_left->bR,take_length->bS,getElem_mem->bT,append_nil->bU,getElem?_concat_length->cj,filterMap_cons->cu,not_mem_nil->cx,length->cA,getElem?_of_mem->cB,length_set->cD,getElem?_eq_none->cH,length_range->cU,suffix_cons->df,length_nil->dq,length_take->dC,any_cons->dG,getElem?_mapIdx->dM,nodup_append->dO,mem_filter->dX,find?_cons->dY,getElem_idxOf->eP,set_cons_succ->eQ,set_cons_zero->eR,map->eS,nodup_cons->fu,foldl_append->fE,map_congr_left->fL,length_eq_zero_iff->fM,lookup->f9,length_singleton->gH,contains_iff_mem->gJ,eq_nil_or_concat->gK,concat_eq_append->gM,take_add_one->gS,mem_range->iz,getElem?_append->iE,drop_eq_getElem_cons->iM,getElem?_range->iQ,length_mapIdx->ji,map_nil->jF,length_eq_one_iff->jG,take_of_length_le->jH,getElem?_set->jI,drop_of_length_le->jJ,idxOf_append->jK,eq_nil_of_length_eq_zero->kM,nil_append->lj,foldl_cons->lu,mem_filterMap->lZ,drop_zero->l6,flatten_cons->mT,any_eq_true->og,prefix_iff_eq_take->oh,cons_append->oj,forIn_cons->oQ,lookup_cons_self->pq,length_filter_le->pA,replicate->qm,getElem_of_mem->qU,map_inj_right->sA,filter_append->sC,any_map->tK,set_set->tL,map_inj_left->tM,drop_length->uv,filter_cons->uw,of_mem_zip->wo,forIn_nil->xi,nodup_nil->xq,isPrefixOf_iff_prefix->xv,mem_of_find?_eq_some->yF,getElem?_take_of_lt->zW,sum_cons->z9,getElem?_replicate->Al,not_of_lt_findIdx->BR,range_succ_eq_map->BS,all_map->BV,filterMap_append->Cg,drop_eq_nil_iff->DJ,mem_of_mem_drop->DK,take_succ_cons->E4,drop_succ_cons->E5,lookup_append->GI,filterMap_map->GJ,isEmpty_cons->Hf,flatMap_cons->Hg,getElem_inj->Kv,map_fst_zip->KC,map_snd_zip->KD,find?_some->K2,sum_append->K5,range_succ->K6
open List.IsSuffix renaming trans->ny
open List.Pairwise renaming nil->xp,map->xy
open List.cons renaming injEq->dJ
open Nat renaming le_refl->ak,lt_of_lt_of_le->av,le_trans->aJ,ne_of_lt->aY,lt_succ_of_lt->bc,pow_le_pow_right->bj,testBit_and->bB,zero_le->bX,le_of_lt->b7,sub_self->b8,testBit_or->cK,ne_of_gt->cZ,lt_succ_self->dg,testBit_one_eq_true_iff_self_eq_zero->dA,lt_irrefl->dI,not_lt_zero->d6,le_of_not_lt->fP,pow_succ->gB,lt_succ_iff_lt_or_eq->je,not_lt->jm,lt_of_le_of_lt->jo,lt_trans->jN,le_succ_of_le->jP,succ_le_succ->kF,le_succ->kR,eq_of_testBit_eq->kS,le_add_right->oA,zero_add->oU,lt_or_ge->uc,one_shiftLeft->ue,min_eq_right->u9,exists_testBit_of_ne_zero->wq,zero_or->wt,le_of_eq->Ca,min_self->Cc,testBit_lt_two_pow->Cf,add_sub_cancel->Hd,lt_of_le_of_ne->Hh,lt_trichotomy->Kx,or_lt_two_pow->KA,lt_of_not_le->K4
open Nat.succ renaming inj->ni
open Ne renaming symm->cC
open Option renaming map_eq_some_iff->aq,bind_eq_some_iff->ay,bind_eq_bind->aP,getD_some->dy,map_some->iX,getD_none->jY,map_map->pB,isSome_some->qS,map_none->uz,isSome_iff_exists->xj,isSome_map->E1,bind_some->GK
open Option.some renaming inj->aL,injEq->iY
open Prod renaming fst->DI
open Prod.mk renaming inj->Ah
open PyProof.Rows renaming callWith_type1->jX,AllBare->oM,envOfC->qB,subscriptTail->EZ,subscriptTail_builtinR->G9,IntsAre->Ha
open PyProof.Rows.LSm renaming kept_iter->Ap
open PySem renaming wpAny_bind->ae,Shared->az,wpAny_pure->aB,model->bb,mainGlobals->bz,Program->bD,compareOp->bH,starEach->bV,wpAny_mono->bY,sysModules->bZ,World->cy,binaryOp->cL,mem_of_lookup->cR,wpAny_truthy_bool->cY,Around->dD,FuncData->fq,wpAny_Call_Name_kw->fw,cLine->fF,wpAny_typeNameOfWhole_valiter->gI,tupleKind_room_in1->gO,wpAny_passesOwn->hJ,wpAny_holding->iy,swapsWith->iA,inplaceOp->iB,attributeBase->iD,backTo->iH,wpAny_dictEntries->iJ,wpAny_newObj_type->iK,dictSetDefault->iZ,cellsFrom->jd,rawInt->jM,Scope->jW,keywordEach->jZ,wpAny_pyIter_list->kE,wpAny_call_entry->lA,valueAt->lS,sizeLine_eq->lV,sliceBounds->lW,call_meetsIn->mR,tupleKind->nh,Operator->nj,wpAny_setField->nk,Keyword->oO,wpAny_isInstance->p7,wpAny_callSpecial?_slot->qc,wpAny_rule->qy,bootBuiltins->qz,codeAny->qA,wpAny_execs_nil->qQ,letOwnedTupleGo->qR,atKey->qT,isSubtype_tuple_tuple->qW,wpAny_notOrdered_dict->rf,wpAny_isOneOf_valiter->rg,wpAny_field->sH,getItem->tI,wpAny_tupleItemsOf->uY,assignEach->uZ,call_meets->u6,stored->u7,wpAny_assign_Name->wz,callerA->wB,codeAny_mono->wC,assign->yq,pyNext->yr,DictEntry->yC,subscripted->zX,wpAny_specialOf->Ai,Within->Aj,size_of_entries->Am,wpAny_dictEpoch->Aq,intKind->BN,BindsTo->BP,wpAny_seqItems->B7,entryOfKey->B8,builtinsNs->B9,newFunctionEnv->Cb,methodCallForm->Ce,call->E0,wpAny_standAt->E2,wpAny_comprehension_free->E3,eqIsQuiet->Gy,PassesOwn->Gz,bindL->GD,bindC->GF,noteFrame->GH,wpAny_pyNext_list_item->G7,seqIndex_neg->G8,relabel->Hc,wpAny_pyNext_list_end->Kw,wpAny_mkInt->KR,wpAny_loadName_local->KS,bindArgs->KW,seqIndex_of->KY,wpAny_updateDictKeys->KZ,boot_len->K0
open PySem.Around renaming in1_units->tH,under->zV,under_plainId->BW
open PySem.Calls renaming spliced_cons->jc,callWith_builtin->jB,spliced_nil->mP,evalArgs_plain->p9,Name_function_global->wy
open PySem.Code renaming isFrame->BO
open PySem.EntryCells renaming newEntry->yD
open PySem.Expr renaming Name->Ky
open PySem.F renaming slot_dict_valueiterator_next->cM,slot_dict_get->eI,plainAttrs_dict->i8,entry_dict_get->jj,plainAttrs_list->mS,plainAttrs_str->nv,slot_list_getattribute->oz,args_dict_valueiterator_next_1->oV,entry_dict_valueiterator_next->pv,slot_tuple_eq->qk,slot_dict_values_iter->tJ,slot_dict_setdefault->ub,args_tuple_add_2->wA,slot_dict_values->wD,slot_tuple_index->wF,entry_tuple_add->xk,args_dict_get_2->xr,args_dict_get_3->xt,slot_list_index->xw,slot_tuple_add->yx,type_dict_get->z6,slot_dict_len->z8
open PySem.Heap renaming get?_push_of_some->aF,lt_size->aQ,get?_push_size->a9,get?_update_self->dw,SameBut->gx,size_push->iC,get?_update_other->oN
open PySem.Heap.DictOf renaming new->BQ
open PySem.Heap.SameBut renaming update->eV
open PySem.NameKind renaming free->bM,cell->gh
open PySem.Obj renaming data_mapFields->jk,data_mapDictKeys->kQ,mapFields->nq,isFreed_of_fields->qa,mapSeq->sG,isFreed_of_dict->GG
open PySem.SeqAt renaming EqAt->qZ
open PySem.SeqAt.EqAt renaming same->jV,int_none->oH,str_none->oI,none_int->oJ,none_str->oK,int_str->ph,str_int->pj,none_bool->xm,bool_none->xn,bool_bool->xo,bool_int->yy,bool_str->yz,int_bool->yA,str_bool->yB,int_int->zY,str_str->zZ,of_refs->z7
open PySem.SeqAt.RcAt renaming tuples->Ao
open PySem.Str renaming ofString->cw
open PySem.Value renaming ref->bf,none->cv,bool->kr,int->lQ,str->lR,isInt->B6
open PySem.W renaming Frag->aI,emptyDict->cQ,instObj->dN,findIn->eF,fnOf->kP,plainGet->mQ,lookIn->oR,keepIn->oS,plainGet_of->p8,mg_of->qd,methodObj->qX,hasDictIn->qY,takerIn->ua,codeIn->u5,isFn->yu,cellsFrom_some->yw,pyHash_slot->BM,KeysLit->BU,keepIn->Cd,plainOver->DH,handedIn->EY,makesIn->GB,OpenLaw->Hb,callWith_K0->K3
open PySem.Walks renaming list->E6
open Sum renaming inr->jf,inl->xh
open Sum.inl renaming inj->Ag
open Sum.inr renaming inj->tG
open True renaming intro->eM
set_option linter.all false
set_option Elab.async false
set_option maxRecDepth 100000
set_option maxHeartbeats 4000000
set_option genSizeOf false
set_option genInjectivity false
set_option bootstrap.genMatcherCode false
set_option compiler.extract_closed false
noncomputable section
section
local macro_rules | `(#[$x,$xs,*]) => `(⟨$x,$xs,*⟩) | `(#[$x]) => `(⟨$x⟩)
local macro_rules | `(∅) => `(by omega)
local macro_rules | `(⋯) => `(by decide)
local macro_rules | `(tactic| room) => `(tactic| walk_at "pk")
local macro_rules | `(#v[$x]) => `(.cons $x .nil) | `(#v[$x,$xs,*]) => `(.cons $x #v[$xs,*])
local macro_rules | `(@$n:num) => `(.var $n)
local macro_rules | `(↑$n:num) => `(.lit (.int $n))
local macro_rules | `(↑[$n,*]) => `(.lit (.str [$n,*]))
local macro_rules|`(tactic|let $p:term:=$e)=>do
 let rec g(n:Nat)(s:Lean.Term):Lean.MacroM (Lean.TSyntax `rcasesPat):=match n with
  |0=>Lean.Macro.throwUnsupported
  |n+1=>match s with
   |`(#[$xs,*])=>do let ps<-xs.getElems.mapM (g n);`(rcasesPat|⟨$[$ps:rcasesPat],*⟩)
   |`(_)=>`(rcasesPat|_)
   |`($x:ident)=>`(rcasesPat|$x:ident)
   |_=>Lean.Macro.throwUnsupported
 let q<-g 9 p;`(tactic|obtain $q:rcasesPat:=$e)
local macro_rules|`(tactic|erw[$t:term])=>`(tactic|exact $t)
local macro_rules|`(tactic|rwa[$t:term])=>`(tactic|refine $t)
local macro_rules|`(tactic|dsimp [$xs,*] $[$l:location]?)=>`(tactic|simp only [$xs,*] $[$l]?)
set_option hygiene false in
local macro_rules|`(tactic|z_go)=>`(tactic|refine#[env,ρ,S,_,EU,he,R,w,λu S1 v H1 ρ1 w1 st1 R1 r1=>?_,qx])
set_option hygiene false in
local macro_rules|`(tactic|x_go)=>`(tactic|intro pZ s σ H x y v u Q I rx ry h)
set_option hygiene false in
local macro_rules|`(tactic|kd_p)=>`(tactic|rintro σ H Q ⟨env,ρ,S,QU,EU,he,R,w,q,qx⟩)
set_option hygiene false in
local macro_rules|`(tactic|w_up)=>`(tactic|intro X hP hw hK hc i pZ s σ H E I hf st hg)
set_option hygiene false in
local macro_rules|`(tactic|k_ne)=>`(tactic|intro pZ s σ H xs us Q I r h)
set_option hygiene false in
local macro_rules|`(tactic|k_go)=>`(tactic|intro pZ s σ H Q I h)
namespace Lake
namespace L2
open PySem PySem.Spec PyProof.Rows
abbrev Key:=Sum Int (Option Str)
noncomputable def xA:Key->Value->Bool
 |.inl k,v=>B6 k v
 |.inr (some x),v=>Value.isStrOf x v
 |.inr none,v=>v==cv
noncomputable def Xp(w:cy):Key->Int
 |.inl k=>hashInt k
 |.inr (some x)=>hashStr w x
 |.inr none=>reduceHash 0xFCA86420
theorem fN:∀{k:Key}{v:Value},xA k v=true->(∃i t,k=xh i/\v=lQ i t)\/(∃x t,k=jf (some x)/\v=lR x t)\/(k=jf none/\v=cv)
 |.inl i,v,h=>by
  let#[t,e]:=Value.isInt_shape (k:=i) (v:=v) h;erw[.inl #[i,t,rfl,e]]
 |.inr (some x),v,h=>by
  let#[t,e]:=Value.isStrOf_shape (x:=x) (v:=v) h;erw[.inr (.inl #[x,t,rfl,e])]
 |.inr none,v,h=>.inr (.inr #[rfl,eq_of_beq h])
theorem E8(i:Int)(t:Tok):xA (.inl i) (.int i t)=true:=by simp[xA,B6]
theorem E9(x:Str)(t:Tok):xA (.inr (some x)) (.str x t)=true:=by simp[xA,Value.isStrOf]
theorem Hi{α:Type}[DecidableEq α]{β:Type}[DecidableEq β](f:α->β)(hf:∀a b,f a=f b->a=b)(a b:α):decide (f a=f b)=decide (a=b):=decide_eq_decide.mpr #[hf a b,λe=>e▸rfl]
theorem Fc(h:Q (reduceHash 0xFCA86420) {s with toks:=s.toks+1}):wpAny (bb prog w) A (pyHash .none) Q E s:=by
 unfold pyHash;erw[BM (T:="NoneType") rfl F.slot_NoneType_hash F.entry_NoneType_hash (F.args_NoneType_hash_1 _) (beq_builtin_none _) (.inl rfl) (ae (aB (ae (KR (aB #[_,_,rfl,h])))))]
def cX(prog:bD)(w:cy):PySem.KeyKind prog w Key where
 is:=xA
 hash:=Xp w
 inj:=λv a b ha hb=>by
  rcases fN ha with⟨i,t,rfl,rfl⟩|⟨x,t,rfl,rfl⟩|⟨rfl,rfl⟩<;>rcases fN hb with⟨j,u,rfl,e⟩|⟨y,u,rfl,e⟩|⟨rfl,e⟩<;>cases e<;>rfl
 byValue:=λk v h=>by
  rcases fN h with⟨i,t,rfl,rfl⟩|⟨x,t,rfl,rfl⟩|⟨rfl,rfl⟩<;>rfl
 pyHash:=λhv h=>by
  rcases fN hv with⟨i,t,rfl,rfl⟩|⟨x,t,rfl,rfl⟩|⟨rfl,rfl⟩
  .erw[wpAny_pyHash_int h]
  .erw[wpAny_pyHash_str h]
  .erw[Fc h]
 eqBool:=λhu hv h=>by
  rcases fN hu with⟨i,t,rfl,rfl⟩|⟨x,t,rfl,rfl⟩|⟨rfl,rfl⟩<;>rcases fN hv with⟨j,u,rfl,rfl⟩|⟨y,u,rfl,rfl⟩|⟨rfl,rfl⟩
  .rw[Hi xh (λ_ _ e=>Ag e)] at h;erw[wpAny_eqBool_int (by rw[show(i==j)=decide (i=j) from rfl];exact h)]
  .erw[ph i t y u _ _ _ _ h]
  .erw[oH i t _ _ _ _ h]
  .erw[pj x t j u _ _ _ _ h]
  .rw[Hi (λz=>jf (some z)) (λ_ _ e=>aL (tG e))] at h;erw[wpAny_eqBool_str h]
  .erw[oI x t _ _ _ _ h]
  .erw[oJ j u _ _ _ _ h]
  .erw[oK y u _ _ _ _ h]
  .erw[jV _ _ _ _ _ h]
 «strs»:=λk x t v h=>by
  rcases fN h with⟨i,u,rfl,e⟩|⟨y,u,rfl,e⟩|⟨rfl,e⟩
  .erw[nomatch e]
  .cases e
   cases v<;>rfl
  .erw[nomatch e]
section
variable{prog:bD}{w:cy}
abbrev sI:=Int×List Int
def IsPair(prog:bD)(w:cy)(h:Heap)(k:sI)(a:Addr):Prop:=∃t c n o,h.get? a=some o/\o.cls=.type "tuple"/\o.data=.seq (List.toArray [.int k.1 t,.ref c]) n/\IsTupleKey (BN prog w) h k.2 c
noncomputable def va(prog:bD)(w:cy)(k:sI):Int:=reduceHash (Builtin.Tuple.tupleHashOf [hashInt k.1,tupleKeyHash (BN prog w) k.2])
variable{A:dD}{E:Value->az->Prop}{s:az}
theorem Ar(hu:A.units+1<fF)(hk:IsPair prog w s.heap k a)(h:Q (va prog w k) {s with toks:=s.toks+(k.2.length+3)}):
  wpAny (bb prog w) A (pyHash (.ref a)) Q E s:=by
 let#[t,c,n,o,ho,hc,hd,hi]:=hk;have hT:s.TypeIs (.ref a) "tuple":=#[o,ho,hc]
 unfold pyHash;rwa[BM (T:="tuple") hT F.slot_tuple_hash F.entry_tuple_hash (F.args_tuple_hash_1 _) (beq_builtin_none _) (.inr ∅) ?_];show wpAny _ _ (Builtin.Tuple.tupleItemsOf (.ref a)>>=_) _ _ s;rwa[ae (uY ho hd ?_)];rwa[ae ?_];rw[<-qV]
 dsimp[oQ,xi];rwa[ae (ae (wpAny_pyHash_int ?_))];refine aB (ae (ae (wpAny_pyHash_tuple (s:={s with toks:=s.toks+1}) (by dsimp[tH];omega) hi (aB (aB ?_)))));rwa[ae (KR (aB #[_,_,rfl,?_]))];have e:s.toks+1+(k.2.length+1)+1=s.toks+(k.2.length+3):=∅
 have h:Q _ _:=h;rw[<-e] at h;simpa[va] using h
theorem IsPair.inj{h:Heap}{a:Addr}{x y:sI}(hx:IsPair prog w h x a)(hy:IsPair prog w h y a):x=y:=by
 let#[t,c,n,o,ho,hc,hd,hi]:=hx;let#[t',c',n',o',ho',hc',hd',hi']:=hy;obtain rfl:o=o':=aL (ho.symm.trans ho');rw[hd] at hd';injection hd' with h1 _
 injection h1 with h1
 injection h1 with h1 h2
 injection h1 with h1 _
 injection h2 with h2 _
 injection h2 with h2
 subst h2;erw[Prod.ext h1 (hi.inj hi')]
theorem As(hu:A.units+1<fF)(hx:IsPair prog w s.heap x a)(hy:IsPair prog w s.heap y b)(h:Q (decide (x=y)) s):
  wpAny (bb prog w) A (eqBool (.ref a) (.ref b)) Q E s:=by
 unfold eqBool;rwa[iy ?_];show wpAny _ _ (if (bf a==bf b)=true then _ else _) Q E s;by_cases hab:(bf a==bf b)=true
 .rw[if_pos hab]
  have e:a=b:=by have:=eq_of_beq hab;injection this
  subst e;obtain rfl:=hx.inj hy;exact ae (qy (aB (by simpa using h)))
 .rw[if_neg hab]
  let#[t,c,n,o,ho,hc,hd,hi]:=hx;let#[t',c',n',o',ho',hc',hd',hi']:=hy;have hT:s.TypeIs (.ref a) "tuple":=#[o,ho,hc]
  have hT':s.TypeIs (.ref b) "tuple":=#[o',ho',hc']
  refine ae (wpAny_richCompare_same_room (op:=.Eq) hT hT' qk
   (lA qk hT F.entry_tuple_eq ?_ (F.args_tuple_eq_2 _ _)) ∅)
  show wpAny _ _ (isInstance (.ref b) (.type "tuple")>>=_) _ _ s
  rwa[ae (p7 hT' qW ?_)];dsimp[bC,ao,if_false];rwa[ae (uY ho hd ?_)];rwa[ae (uY ho' hd' ?_)];rwa[ae ?_];dsimp[List.zip_cons_cons,List.zip_nil_right,oQ,xi];rwa[ae (ae (wpAny_eqBool_int ?_))];let#[x1,x2]:=x;let#[y1,y2]:=y;by_cases e1:x1=y1
  .subst e1
   dsimp[BEq.rfl,bC,ao,if_false];rwa[aB (ae (ae (wpAny_eqBool_tuple (by dsimp[tH];omega) hi hi' ?_)))];by_cases e2:x2=y2
   .subst e2
    dsimp[decide_true,bC,ao,if_false] at h ⊢;erw[aB (aB (aB #[_,rfl,(λz=>nomatch z),cY h]))]
   .have e3:decide ((x1,x2)=(x1,y2))=false:=decide_eq_false λz=>e2 (Ah z).2
    rw[e3] at h;dsimp[decide_eq_false e2,bL,if_true];erw[ae (aB (aB (aB (aB #[_,rfl,(λz=>nomatch z),cY h]))))]
  .have e3:decide ((x1,x2)=(y1,y2))=false:=decide_eq_false λz=>e1 (Ah z).1
   rw[e3] at h;have e4:(x1==y1)=false:=beq_eq_false_iff_ne.mpr e1;dsimp[e4,bL,if_true];erw[ae (aB (aB (aB (aB #[_,rfl,(λz=>nomatch z),cY h]))))]
theorem Ci(hk:IsTupleKey (BN prog w) s.heap ks a)(h:Q true s):wpAny (bb prog w) A (Gy (n+1) (.ref a)) Q E s:=by
 have hT:=hk.typeIs;let#[o,items,m,ho,_,hd,hi]:=hk;unfold Gy;rwa[ae (Ai hT qk.lookup (ae (p7 hT qW ?_)))];dsimp[bC,ao,if_false];rwa[ae (B7 ho hd (ae ?_))];rw[<-qV]
 rwa[wpAny_forIn_list _ (λl r s'=>r.1=none/\s'=s/\∀v∈l,carriedByValue v=true) _ ?_ ?_ _ _ #[rfl,rfl,hi.byValue]]
 .rintro v l r s' ⟨hr,rfl,z⟩
  rw[eqIsQuiet_byValue _ (z v aT)]
  erw[ae (aB (aB #[rfl,rfl,λu hu=>z u (aA _ hu)]))]
 .rintro⟨r1,r2⟩ s' ⟨hr,rfl,_⟩
  cases hr;erw[aB h]
theorem Cj(hk:IsPair prog w s.heap k a)(h:Q true s):wpAny (bb prog w) A (Gy 8 (.ref a)) Q E s:=by
 let#[t,c,n,o,ho,hc,hd,hi]:=hk;have hT:s.TypeIs (.ref a) "tuple":=#[o,ho,hc]
 unfold Gy;rwa[ae (Ai hT qk.lookup ?_)];show wpAny _ _ (isInstance (.ref a) (.type "tuple")>>=_) _ _ s;rwa[ae (p7 hT qW ?_)];dsimp[bC,ao,if_false];rwa[ae (B7 ho hd ?_)];rwa[ae ?_];show wpAny _ _ (forIn (List.toArray [lQ k.1 t,.ref c]) _ _) _ _ s;rw[<-qV]
 dsimp[oQ,xi];rw[eqIsQuiet_byValue 7 (v:=.int k.1 t) rfl]
 erw[ae (ae (aB (aB (ae (ae (Ci hi (aB (aB (aB h)))))))))]
theorem IsPair.keeps{es ep}(x:IsPair prog w h k a)(ho:h.get? d=some o)(hd:o.data=.dict es ep)(hs:gx d h h'):IsPair prog w h' k a:=by
 let#[t,c,n,o',ho',hc,hd',hi]:=x;refine#[t,c,n,o',(hs.2 a ?_).trans ho',hc,hd',hi.keeps ho hd hs];rintro rfl;obtain rfl:o'=o:=aL (ho'.symm.trans ho);rw[hd] at hd';erw[nomatch hd']
def rh(prog:bD)(w:cy):HeapKind prog w sI where
 is:=IsPair prog w
 hash:=va prog w
 draws:=λk=>k.2.length+3
 room:=λA=>A.units+1<fF
 inj:=λhx hy=>hx.inj hy
 keeps:=λx ho hd hs=>x.keeps ho hd hs
 pyHash:=λhu hk h=>Ar hu hk h
 eqBool:=λhu hx hy h=>As hu hx hy h
 quiet:=λhk h=>Cj hk h
end
theorem Au(prog:bD)(w:cy)(i:Int)(t:Tok):(cX prog w).is (.inl i) (.int i t)=true:=E8 i t
theorem Av(prog:bD)(w:cy)(x:Str)(t:Tok):(cX prog w).is (.inr (some x)) (.str x t)=true:=E9 x t
set_option genInjectivity true in
inductive V where
 |bQ|bl (b:Bool)|int (i:Int)|str (x:Str)|BX (b:Array UInt8)|WR (b:UInt64)|ref (a:Addr)|ty (n:String)
 deriving DecidableEq
def RelV:V->Value->Prop
 |.bQ,u=>u=cv
 |.bl b,u=>u=kr b
 |.int i,u=>∃t,u=lQ i t
 |.str x,u=>∃t,u=lR x t
 |.BX b,u=>∃t,u=Value.bytes b t
 |.WR b,u=>∃t,u=Value.float b t
 |.ref a,u=>u=bf a
 |.ty n,u=>u=Value.type n
abbrev Vals:List V->List Value->Prop:=Paired RelV
theorem Vals.length{xs:List V}{us:List Value}(r:Vals xs us):xs.length=us.length:=Paired.length r
theorem Vals.get:∀{xs:List V}{us:List Value}{i:Nat}{x:V},Vals xs us->xs[i]?=some x->∃u,us[i]?=some u/\RelV x u
 |_,_,_,_,.nil,e=>by simp at e
 |_,_,0,_,.cons r _,e=>by simp at e;subst e;exact#[_,rfl,r]
 |_,_,i+1,x,.cons _ t,e=>by
  let#[u,h1,h2]:=Vals.get (i:=i) (x:=x) t (by simpa using e);exact#[u,by simpa using h1,h2]
theorem Vals.set(r:RelV x u):∀{xs:List V}{us:List Value}(i:Nat),Vals xs us->Vals (xs.set i x) (us.set i u)
 |_,_,_,.nil=>.nil
 |_,_,0,.cons _ t=>.cons r t
 |_,_,i+1,.cons q t=>.cons q (Vals.set r i t)
theorem Vals.append:∀{xs ys:List V}{us ws:List Value},Vals xs us->Vals ys ws->Vals (xs++ys) (us++ws)
 |_,_,_,_,.nil,s=>s
 |_,_,_,_,.cons r t,s=>.cons r (Vals.append t s)
theorem Vals.take:∀{xs:List V}{us:List Value}(n:Nat),Vals xs us->Vals (xs.take n) (us.take n)
 |_,_,0,_=>.nil
 |_,_,_+1,.nil=>.nil
 |_,_,n+1,.cons r t=>.cons r (Vals.take n t)
theorem Vals.drop:∀{xs:List V}{us:List Value}(n:Nat),Vals xs us->Vals (xs.drop n) (us.drop n)
 |_,_,0,r=>r
 |_,_,_+1,.nil=>.nil
 |_,_,n+1,.cons _ t=>Vals.drop n t
def nA:Option V->Option Value->Prop
 |some v,some u=>RelV v u
 |none,none=>True
 |_,_=>False
def KV{κ:Type}:List (κ×V)->List (κ×Value)->Prop:=Paired λ(p:κ×V)(q:κ×Value)=>p.1=q.1/\RelV p.2 q.2
noncomputable def kV:Key->V
 |.inl i=>.int i
 |.inr (some x)=>.str x
 |.inr none=>.bQ
inductive HO where
 |lst (xs:List V)
 |tup (xs:List V)
 |dK (kvs:List (Key×V))|dT (kvs:List (List Key×V))|dP (kvs:List (sI×V))
 |set (S:Int->Bool) (n:Nat)
 |ins (C dx:Addr) (fs:List (Str×V))
 |own (x:Addr)
 |xd (fs:List (Str×V))
 |met (f x:Addr)
 |Xq (lo hi:Int)
 |sE (o:Obj) (u:HO)
 |Oy (ps:Array Value)
 |ext (φ:Heap->Prop)
abbrev Hp:=Addr->Option HO
noncomputable def upd(H:Hp)(a:Addr)(o:HO):Hp:=λb=>if b=a then some o else H b
theorem cg:upd H a o a=some o:=by unfold upd;rw[if_pos rfl]
theorem b9(h:b≠a):upd H a o b=H b:=by unfold upd;rw[if_neg h]
theorem SU{H:Hp}{a b:Addr}{o u:HO}(h:H a=some o)(h':H b=some u)(d:o≠u):a≠b:=by
 intro e;subst e;rw[h] at h';erw[d (aL h')]
theorem dv{H:Hp}{a b:Addr}{o:HO}(h:H a=some o)(h':H b=none):a≠b:=by
 intro e;subst e;rw[h] at h';cases h'
section
variable(P:bD)(w:cy)
def Aw(h:Heap)(a:Addr)(items:Array Value):Prop:=∃o,h.get? a=some o/\o.cls=.type "tuple"/\(∃n,o.data=.seq items n)/\o.dict=none
theorem Aw.tup{h:Heap}{a:Addr}{items:Array Value}(x:Aw h a items):IsTup h a items:=by
 let#[o,h1,h2,h3,_]:=x;exact#[o,h1,h2,h3]
theorem Aw.new(h:Heap)(items:Array Value):Aw (h.push {cls:=.type "tuple",data:=.seq items}) h.objs.size items:=#[_,a9 _ rfl,rfl,#[_,rfl],rfl]
def dQ(H:Hp)(h:Heap)(a:Addr):HO->Prop
 |.lst xs=>xs.length<=sizeLine/\∃(its:List Value)(n:Nat),Vals xs its/\h.get? a=some {cls:=.type "list",data:=.seq its.toArray n}
 |.tup xs=>xs.length<=sizeLine/\∃its:List Value,Vals xs its/\Aw h a its.toArray
 |.dK kvs=>kvs.length<=sizeLine/\(a==bZ)=false/\∃vs,KV kvs vs/\h.DictOf (cX P w) a vs
 |.dT kvs=>kvs.length<=sizeLine/\(a==bZ)=false/\∃xs:List (List Key×Addr×Value),
   Paired (λ(p:List Key×V)(q:List Key×Addr×Value)=>p.1=q.1/\H q.2.1=some (.tup (p.1.map kV))/\RelV p.2 q.2.2) kvs xs /\
   ∃o es ep,h.get? a=some o/\o.ExactDict/\o.data=.dict es ep/\es.toList=xs.map (B8 (nh (cX P w)))/\(xs.map (·.1)).Nodup
 |.dP kvs=>kvs.length<=sizeLine/\(a==bZ)=false/\∃xs:List (sI×Addr×Value),
   Paired (λ(p:sI×V)(q:sI×Addr×Value)=>p.1=q.1/\(∃c,H q.2.1=some (.tup [.int p.1.1,.ref c])/\H c=some (.tup (p.1.2.map .int)))/\RelV p.2 q.2.2) kvs xs /\
   ∃o es ep,h.get? a=some o/\o.ExactDict/\o.data=.dict es ep/\es.toList=xs.map (B8 (rh P w))/\(xs.map (·.1)).Nodup
 |.set S n=>h.SetOf (BN P w) a S n
 |.ins C dx fs=>H dx=some (.own a)/\fs.length<=1000/\dx≠a/\h.get? a=some (dN C dx) /\
   ∃mA,h.Ns1 dx mA/\(∀f,nA (fs.lookup f) (mA f))/\Aj mA (fs.map (·.1))
 |.own _=>∃o,h.get? a=some o
 |.xd fs=>∃mA,h.Ns1 a mA/\∀f,nA (fs.lookup f) (mA f)
 |.Xq lo hi=>∃t u v,h.get? a=some {cls:=.type "range",data:=.fields (List.toArray [.int lo t,.int hi u,.int 1 v])}
 |.sE o u=>h.get? a=some o/\dQ H h a u
 |.Oy ps=>h.get? a=some {cls:=.none,data:=.fields ps}
 |.met f x=>h.get? a=some (qX (.ref f) (.ref x))
 |.ext φ=>φ h/\(∃o,h.get? a=some o)/\∀h1 h2:Heap,φ h1->(∀o,h1.get? a=some o->h2.get? a=some o)->φ h2
def oB(H:Hp)(h:Heap):Prop:=∀a o,H a=some o->dQ P w H h a o
end
section
variable{P:bD}{w:cy}{H H':Hp}{h h':Heap}{a:Addr}{o:HO}
theorem dQ.lt(x:dQ P w H h a o):a<h.objs.size:=by
 cases o with
 |lst xs=>let#[_,_,_,_,e]:=x;erw[aQ e]
 |tup xs=>let#[_,_,_,p]:=x;erw[p.tup.lt]
 |dK kvs=>let#[_,_,_,_,o,_,_,e,_]:=x;erw[aQ e]
 |dT kvs=>let#[_,_,_,_,o,_,_,e,_]:=x;erw[aQ e]
 |dP kvs=>let#[_,_,_,_,o,_,_,e,_]:=x;erw[aQ e]
 |set S n=>let#[o,_,_,_,e,_]:=x;erw[aQ e]
 |ins C dx fs=>let#[_,_,_,e,_]:=x;erw[aQ e]
 |own y=>let#[_,e]:=x;erw[aQ e]
 |xd fs=>let#[_,#[_,_,_,e,_],_]:=x;erw[aQ e]
 |Xq lo hi=>let#[_,_,_,e]:=x;erw[aQ e]
 |sE ob u=>let#[e,_]:=x;erw[aQ e]
 |Oy ps=>erw[aQ (show h.get? a=some _ from x)]
 |met f y=>erw[aQ (show h.get? a=some _ from x)]
 |ext φ=>let#[_,#[_,e],_]:=x;erw[aQ e]
theorem Paired.Fd{α β:Type}{F G:α->β->Prop}:∀{l₁:List α}{l₂:List β},Paired F l₁ l₂->(∀a b,F a b->G a b)->Paired G l₁ l₂
 |_,_,.nil,_=>.nil
 |_,_,.cons r t,f=>.cons (f _ _ r) (Paired.Fd t f)
theorem dQ.Ax(x:dQ P w H h a o)(k:∀b u,(b=a\/H b=some (.own a))->h.get? b=some u->h'.get? b=some u)
  (ho:∀b,H b=some (.own a)->H' b=some (.own a)) (ht:∀b xs,H b=some (.tup xs)->H' b=some (.tup xs)):dQ P w H' h' a o:=by
 induction o with
 |lst xs=>let#[z,its,n,r,e]:=x;exact#[z,its,n,r,k _ _ (.inl rfl) e]
 |tup xs=>let#[z,its,r,ob,e,c]:=x;exact#[z,its,r,ob,k _ _ (.inl rfl) e,c]
 |dK kvs=>let#[z,y,vs,r,ob,es,ep,e,c]:=x;exact#[z,y,vs,r,ob,es,ep,k _ _ (.inl rfl) e,c]
 |dT kvs=>
  let#[z,y,xs,r,ob,es,ep,e,c]:=x;exact#[z,y,xs,Paired.Fd r λp q z=>#[z.1,ht _ _ z.2.1,z.2.2],ob,es,ep,k _ _ (.inl rfl) e,c]
 |dP kvs=>
  let#[z,y,xs,r,ob,es,ep,e,c]:=x;exact#[z,y,xs,Paired.Fd r λp q z=>#[z.1,let ⟨c,e1,e2⟩:=z.2.1;#[c,ht _ _ e1,ht _ _ e2],z.2.2],ob,es,ep,k _ _ (.inl rfl) e,c]
 |set S n=>let#[ob,es,ep,t,e,c]:=x;exact#[ob,es,ep,t,k _ _ (.inl rfl) e,c]
 |ins C dx fs=>
  let#[d,z,ne,e,mA,#[od,es,ep,e2,c],r]:=x;exact#[ho _ d,z,ne,k _ _ (.inl rfl) e,mA,#[od,es,ep,k _ _ (.inr d) e2,c],r]
 |own y=>let#[ob,e]:=x;exact#[ob,k _ _ (.inl rfl) e]
 |xd fs=>let#[mA,#[od,es,ep,e,c],r]:=x;exact#[mA,#[od,es,ep,k _ _ (.inl rfl) e,c],r]
 |Xq lo hi=>let#[t,u,v,e]:=x;exact#[t,u,v,k _ _ (.inl rfl) e]
 |sE ob u ih=>let#[e,q]:=x;exact#[k _ _ (.inl rfl) e,ih q]
 |Oy ps=>
  have e:h.get? a=some {cls:=.none,data:=.fields ps}:=x;show h'.get? a=some {cls:=.none,data:=.fields ps};erw[k a _ (.inl rfl) e]
 |met f y=>
  have e:h.get? a=some (qX (.ref f) (.ref y)):=x;show h'.get? a=some (qX (.ref f) (.ref y));erw[k a _ (.inl rfl) e]
 |ext φ=>let#[p,#[o,e],st]:=x;exact#[st _ _ p λo q=>k _ _ (.inl rfl) q,#[o,k _ _ (.inl rfl) e],st]
theorem oB.lt(x:oB P w H h)(e:H a=some o):a<h.objs.size:=(x a o e).lt
theorem oB.fresh(x:oB P w H h)(e:h.objs.size<=a):H a=none:=by
 cases q:H a with
 |none=>rfl
 |some u=>erw[absurd (av (x.lt q) e) (dI _)]
theorem oB.kept(x:oB P w H h)(k:∀b u,h.get? b=some u->h'.get? b=some u):oB P w H h':=λa o e=>
 (x a o e).Ax (λb u _ q=>k b u q) (λ_ q=>q) λ_ _ q=>q
theorem oB.laid(x:oB P w H h)(k:∀b u,h.get? b=some u->h'.get? b=some u)(hp:h.objs.size<=a)(new:dQ P w (upd H a o) h' a o):oB P w (upd H a o) h':=λb u e=>by
 have hn:=x.fresh hp;by_cases hb:b=a
 .subst hb;rw[cg] at e;cases e;erw[new]
 .rw[b9 hb] at e
  exact(x b u e).Ax (λc v _ q=>k c v q) (λc q=>by rw[b9 (dv q hn)];erw[q]) λc xs q=>by rw[b9 (dv q hn)];erw[q]
end
def Rd(H:Hp)(a:Addr)(u:HO):Prop:=H a=some u\/∃o,H a=some (.sE o u)
theorem Rd.ok{P:bD}{w:cy}{H:Hp}{h:Heap}{a:Addr}{u:HO}(r:Rd H a u)(x:oB P w H h):dQ P w H h a u:=by
 rcases r with r|⟨o,r⟩
 .erw[x a u r]
 .let#[_,q]:=x a _ r
  erw[q]
def Ss:Option HO->Prop
 |some (.lst _)=>True
 |some (.dK _)=>True
 |some (.dT _)=>True
 |some (.dP _)=>True
 |some (.set _ _)=>True
 |some (.ins _ _ _)=>True
 |some (.ext _)=>True
 |_=>False
section
variable{P:bD}{w:cy}{H:Hp}{h h':Heap}{x e:Addr}{o':HO}
theorem oB.write(ok:oB P w H h)(mu:Ss (H x))(he:e=x\/H e=some (.own x))(k:∀b u,b≠e->h.get? b=some u->h'.get? b=some u)(heo:∃u,h'.get? e=some u)
  (new:dQ P w (upd H x o') h' x o'):oB P w (upd H x o') h':=λb u q=>by
 have nown:∀c y,H c=some (.own y)->c≠x:=λc y r z=>by subst z;rw[r] at mu;erw[mu]
 have ntup:∀c xs,H c=some (.tup xs)->c≠x:=λc xs r z=>by subst z;rw[r] at mu;erw[mu]
 by_cases hb:b=x
 .subst hb;rw[cg] at q;cases q;erw[new]
 .rw[b9 hb] at q
  by_cases hbe:b=e
  .have q':H b=some (.own x):=by
    rcases he with z|z
    .erw[absurd (hbe.trans z) hb]
    .rw[hbe];erw[z]
   rw[q] at q';cases q';let#[v,hv]:=heo;exact#[v,by rw[hbe];erw[hv]]
  .refine(ok b u q).Ax (λc v hc r=>k c v ?_ r) (λc r=>by rw[b9 (nown c b r)];erw[r]) λc xs r=>by rw[b9 (ntup c xs r)];erw[r]
   rcases hc with rfl|hc
   .erw[hbe]
   .rintro rfl
    rcases he with z|z
    .erw[nown c b hc z]
    .rw[hc] at z;cases z;erw[hb rfl]
end
structure Un(fs ex:List Addr)(H H':Hp)(h h':Heap):Prop where
 keep:∀b o,h.get? b=some o->H b=none->b∉fs->b∉ex->h'.get? b=some o
 slot:∀b o,h.get? b=some o->H b=none->b∈fs->b∉ex->∃sl,h'.get? b=some {o with slots:=sl}
 free:∀b o,h.get? b=some o->H b=none->b∉ex->H' b=none
 there:∀b o,h.get? b=some o->b∉ex->∃o',h'.get? b=some o'
 Ay:∀b xs,H b=some (.tup xs)->H' b=some (.tup xs)
 yG:∀b o u,H b=some (.sE o u)->H' b=some (.sE o u)
 Az:∀b ps,H b=some (.Oy ps)->∃more,H' b=some (.Oy (ps++more))
section
variable{fs fs' ex ex':List Addr}{H H1 H2:Hp}{h h1 h2 h':Heap}{a x e:Addr}{o:HO}
theorem Un.any(u:Un fs ex H H1 h h1){b:Addr}{ob:Obj}(q:h.get? b=some ob)(n:H b=none)(hx:b∉ex):∃sl,h1.get? b=some {ob with slots:=sl}:=by
 by_cases hb:b∈fs
 .erw[u.slot b ob q n hb hx]
 .exact#[ob.slots,u.keep b ob q n hb hx]
theorem Un.kept(k:∀b u,h.get? b=some u->h'.get? b=some u):Un fs ex H H h h':=
 #[λb ob q _ _ _=>k b ob q,λb ob q _ _ _=>#[ob.slots,k b ob q],λ_ _ _ n _=>n,λb ob q _=>#[ob,k b ob q],λ_ _ q=>q,λ_ _ _ q=>q,λ_ ps q=>#[#[],by rw[q];simp]]
theorem Un.refl:Un fs ex H H h h:=Un.kept λ_ _ q=>q
theorem Un.laid(k:∀b u,h.get? b=some u->h'.get? b=some u)(hp:h.objs.size<=a)(hn:H a=none):Un fs ex H (upd H a o) h h' where
 keep:=λb u q _ _ _=>k b u q
 slot:=λb u q _ _ _=>#[u.slots,k b u q]
 free:=λb u q n _=>by rw[b9 (aY (av (aQ q) hp))];erw[n]
 there:=λb u q _=>#[u,k b u q]
 Ay:=λb xs q=>by rw[b9 (dv q hn)];erw[q]
 yG:=λb u xs q=>by rw[b9 (dv q hn)];erw[q]
 Az:=λb ps q=>#[#[],by rw[b9 (dv q hn),q];simp]
theorem Un.write(mu:Ss (H x))(he:e=x\/H e=some (.own x))(k:∀b u,b≠e->h.get? b=some u->h'.get? b=some u)(heo:∃u,h'.get? e=some u):Un fs ex H (upd H x o) h h':=by
 have hx:∀b,H b=none->b≠x:=λb n z=>by subst z;rw[n] at mu;erw[mu]
 have hb:∀b,H b=none->b≠e:=λb n z=>by
  subst z;rcases he with r|r
  .erw[hx b n r]
  .rw[n] at r;cases r
 have hm:∀b u,H b=some u->¬Ss (some u)->b≠x:=λb u q nm z=>by subst z;rw[q] at mu;erw[nm mu]
 refine#[λb u q n _ _=>k b u (hb b n) q,λb u q n _ _=>#[u.slots,k b u (hb b n) q],λb u q n _=>by rw[b9 (hx b n)];exact n,λb u q _=>?_,
  λb xs q=>by rw[b9 (hm b _ q λz=>z)];erw[q],λb u xs q=>by rw[b9 (hm b _ q λz=>z)];erw[q],λb ps q=>#[#[],by rw[b9 (hm b _ q λz=>z),q];simp]]
 by_cases hbe:b=e
 .subst hbe;erw[heo]
 .exact#[u,k b u hbe q]
end
noncomputable def GL(h:Heap)(H:Hp):List Addr:=(bO h.objs.size).filter λa=>(H a).isSome
def yH(h:Heap)(H:Hp):Heap:=PySem.W.hideAll h (GL h H)
theorem Fe(h:Heap)(H:Hp):(yH h H).objs.size=h.objs.size:=PySem.W.hideAll_size _ _
theorem Hj(e:h.get? b=some o)(n:H b=none):(yH h H).get? b=some o:=
 PySem.W.hideAll_get _ e λhm=>by
  have q:(H b).isSome=true:=(dX.mp hm).2;rw[n] at q;simp at q
theorem K7(e:(yH h H).get? b=some o):h.get? b=some o/\H b=none:=by
 have e':h.get? b=some o:=PySem.W.of_hideAll (GL h H) e;refine#[e',?_];cases q:H b with
 |none=>rfl
 |some x=>
  have hm:b∈GL h H:=dX.mpr #[iz.mpr (aQ e'),by simp[q]];have z:(yH h H).get? b=none:=PySem.W.hideAll_none (GL h H) hm;rw[z] at e;cases e
noncomputable def pD(g h:Heap)(L:Addr):List (Addr×Obj):=(bO h.objs.size).filterMap λa=>if a=L\/(g.get? a).isSome=true then none else(h.get? a).map λo=>(a,o)
theorem AA(h1:a≠L)(h2:g.get? a=none)(h3:h.get? a=some o):(a,o)∈pD g h L:=
 lZ.mpr #[a,iz.mpr (aQ h3),by simp[h1,h2,h3]]
theorem vb(hp:p∈pD g h L):p.1≠L/\g.get? p.1=none/\h.get? p.1=some p.2:=by
 let#[b,_,e]:=lZ.mp hp;split at e
 .cases e
 .rename_i hn
  cases q:h.get? b with
  |none=>rw[q] at e;simp at e
  |some u=>
   rw[q] at e;dsimp[iX,iY] at e;subst e;refine#[λz=>hn (.inl z),?_,q];show g.get? b=none;cases r:g.get? b with
   |none=>rfl
   |some v=>exact(hn (.inr (by simp[r]))).elim
def rest(g h:Heap)(L d:Addr):List (Addr×Obj):=(pD g h L).filter λp=>decide (p.1≠d)
theorem Hk:News g L h (pD g h L):=λp hp=>let ⟨a,b,c⟩:=vb hp;#[c,a,b]
structure Mod(K:aI)(mg:Str->Option Value)(base:Heap):Prop where
 SV:K.In base
 glob:base.Ns bz mg
 blt:∃mb,base.Ns B9 mb/\∀x:Str,x≠"__name__"->mb x=qz x
 nolimit:base.NoLimit
structure Cx where
 prog:bD
 w:cy
 K:aI
 mg:Str->Option Value
 base:Heap
 A:dD
 N:List Str
 s₀:az
 H₀:Hp
 env:Env
 outer:List Env
 stack:List Env
 ex:List Addr
 fn:Str->Bool
 calm:Bool
 pn:List (Addr×Obj)
 xe:Value->az->Prop
noncomputable def wG(l:List Env):List Addr:=l.filterMap (·.frame)
abbrev Cx.fs(X:Cx):List Addr:=wG X.outer
def SW(sc:jW)(x:Str):Prop:=sc.names.lookup x=some .local\/sc.names.lookup x=some .cell\/sc.names.lookup x=some .free
def Loc(sc:jW)(x:Str):Prop:=sc.names.lookup x=some .local\/sc.names.lookup x=some .cell
def Look(env:Env)(h:Heap)(m:Str->Option Value)(x:Str)(u:Value):Prop:=
 (env.kindOf x=some .local/\m x=some u)\/((env.kindOf x=some .cell\/env.kindOf x=some .free)/\∃c,env.cells.lookup x=some c/\h.IsCell c (some u))
structure Cx.Ok(X:Cx):Prop where
 mod:Mod X.K X.mg X.base
 kind:X.env.scope.kind=.function
 glob:X.env.globals=bz
 blt:X.env.builtins=B9
 above:X.s₀.heap.objs.size<=X.env.locals
 inj:∀x y c,X.env.cells.lookup x=some c->X.env.cells.lookup y=some c->x=y
 has:∀x,(X.env.kindOf x=some .cell\/X.env.kindOf x=some .free)->∃c,X.env.cells.lookup x=some c
 Oz:∀x c,X.fn x=true->X.env.cells.lookup x=some c->X.s₀.heap.objs.size<=c
 hd:X.calm=true->X.A.handled=none
 frames:X.A.frames=some X.stack
 Hl:X.stack=X.outer\/(X.stack=X.env::X.outer/\X.env.frame=some X.env.locals)
 WU:∀b∈X.ex,b≠X.env.locals/\∀x c,X.env.cells.lookup x=some c->c≠b
 bs:∀b o,X.base.get? b=some o->X.s₀.heap.get? b=some o/\X.H₀ b=none
 Hm:X.base.objs.size<=X.s₀.heap.objs.size
 Ck:∀b o,X.base.get? b=some o->b∉X.ex
 Ff:∀b∈X.ex,b∉X.fs
 rj:X.s₀.heap.FunFrames X.base X.outer
 K9:∀b∈X.fs,X.H₀ b=none
structure Inv(X:Cx)(pZ:List (Addr×Obj))(σ:List (Option V))(H:Hp)(s:az):Prop where
 ok:X.Ok
 os:s.os=X.s₀.os
 bare:oM s.gens
 base:Un X.fs X.ex X.H₀ H X.s₀.heap s.heap
 loc:∃m,s.heap.Ns X.env.locals m/\∀(i:Nat)(x:Str)(v:V),X.N[i]?=some x->σ[i]?=some (some v)->SW X.env.scope x->∃u,RelV v u/\Look X.env s.heap m x u
 cell:∀x c,X.env.cells.lookup x=some c->∃v,s.heap.IsCell c v
 free:H X.env.locals=none
 om:∀x c,X.env.cells.lookup x=some c->H c=none
 pin:∀p∈X.pn++pZ,s.heap.get? p.1=some p.2/\H p.1=none/\p.1≠X.env.locals/\p.1∉X.fs/\∀v,p.2.data≠.cell v
 dm:oB X.prog X.w H s.heap
 len:σ.length=X.N.length
section
variable{X:Cx}{pZ:List (Addr×Obj)}{σ:List (Option V)}{H H':Hp}{s:az}{h':Heap}
theorem Cx.Ok.Xr(ok:X.Ok)(e:X.base.get? b=some o):b∉X.fs:=λhb=>by
 have:=(ok.rj.mem hb).1;rw[e] at this;cases this
theorem Inv.bs(I:Inv X pZ σ H s):∀b o,X.base.get? b=some o->s.heap.get? b=some o/\H b=none:=λb o e=>
 #[I.base.keep b o (I.ok.bs b o e).1 (I.ok.bs b o e).2 (I.ok.Xr e) (I.ok.Ck b o e),I.base.free b o (I.ok.bs b o e).1 (I.ok.bs b o e).2 (I.ok.Ck b o e)]
theorem Inv.bk(I:Inv X pZ σ H s):∀b o,X.base.get? b=some o->s.heap.get? b=some o:=λb o e=>(I.bs b o e).1
theorem Inv.mod(I:Inv X pZ σ H s):Mod X.K X.mg X.base:=I.ok.mod
theorem Inv.BY(I:Inv X pZ σ H s):X.K.In s.heap:=I.ok.mod.SV.keeps I.bk
theorem Inv.fr(I:Inv X pZ σ H s):∃m,Fr X.base X.env.locals s.heap m:=
 let ⟨m,hn,_⟩:=I.loc
 #[m,hn,I.bk,aJ I.ok.Hm I.ok.above]
theorem Inv.lt(I:Inv X pZ σ H s):X.env.locals<s.heap.objs.size:=let ⟨_,hn,_⟩:=I.loc;hn.lt
theorem Inv.sz(I:Inv X pZ σ H s):X.s₀.heap.objs.size<=s.heap.objs.size:=aJ I.ok.above (b7 I.lt)
theorem Inv.Xs(I:Inv X pZ σ H s)(h:s.heap.objs.size<=a):a∉X.fs:=λhb=>by
 let#[_,o,ho,_]:=I.ok.rj.mem hb;erw[absurd (av (aQ ho) (aJ I.sz h)) (dI _)]
theorem Inv.OA(I:Inv X pZ σ H s):∀x c,X.env.cells.lookup x=some c->c≠X.env.locals:=λx c e z=>by
 let#[v,o,ho,hd]:=I.cell x c e;let#[m,#[o',es,ep,ho',hd',_],_]:=I.loc;rw[z,ho'] at ho;cases ho;rw[hd'] at hd;cases hd
theorem Inv.rj(I:Inv X pZ σ H s):s.heap.FunFrames X.base X.outer:=by
 have all:∀(l:List Env),(∀b∈wG l,b∈X.fs)->X.s₀.heap.FunFrames X.base l->s.heap.FunFrames X.base l:=by
  intro l;induction l with
  |nil=>intro _ _;trivial
  |cons env r ih=>
   intro hs hl;let#[hk,#[L,o,hf,hn,ho,hd],hr]:=hl;have hL:L∈X.fs:=hs L (by unfold wG;rw[cu,hf];erw[aT]);let#[sl,e]:=I.base.slot L o ho (I.ok.K9 L hL) hL λz=>I.ok.Ff L z hL
   exact#[hk,#[L,_,hf,hn,e,hd],ih (λb hb=>hs b (by unfold wG;rw[cu,hf];erw[aA _ hb])) hr]
 erw[all X.outer (λ_ hb=>hb) I.ok.rj]
theorem Inv.stack(I:Inv X pZ σ H s):s.heap.FunFrames X.base X.stack:=by
 rcases I.ok.Hl with e|⟨e,hf⟩
 .rw[e];erw[I.rj]
 .rw[e]
  let#[m,hn,_]:=I.loc;rwa[.cons (by rw[I.ok.kind];decide) hf hn ?_ I.rj];erw[Heap.get?_none_of_le (aJ I.ok.Hm I.ok.above)]
theorem Inv.vc(I:Inv X pZ σ H s):∀b∈wG X.stack,b∈X.env.locals::X.fs:=λb hb=>by
 rcases I.ok.Hl with e|⟨e,hf⟩
 .rw[e] at hb;erw[aA _ hb]
 .rw[e] at hb
  unfold wG at hb;rw[cu,hf] at hb;erw[hb]
theorem Inv.yI(I:Inv X pZ σ H s):∀b∈wG X.stack,H b=none:=λb hb=>by
 rcases aN.mp (I.vc b hb) with e|hb
 .rw[e];erw[I.free]
 .let#[_,o,ho,_]:=I.ok.rj.mem hb
  erw[I.base.free b o ho (I.ok.K9 b hb) λz=>I.ok.Ff b z hb]
theorem Inv.step{g':Array GenState}{t':Nat}{d':Drawn}{ch:List Addr}(I:Inv X pZ σ H s)
  (hch:∀b∈ch,(b∈X.ex\/X.s₀.heap.objs.size<=b)/\b≠X.env.locals/\(∀x c,X.env.cells.lookup x=some c->c≠b)/\∀p∈X.pn++pZ,p.1≠b)
  (keep:∀b o,b≠X.env.locals->b∉X.fs->b∉ch->s.heap.get? b=some o->H b=none->h'.get? b=some o)
  (slot:∀b o,b≠X.env.locals->b∈X.fs->b∉ch->s.heap.get? b=some o->H b=none->∃sl,h'.get? b=some {o with slots:=sl}) (free:∀b o,b∉ch->s.heap.get? b=some o->H b=none->H' b=none)
  (there:∀b o,b∉ch->s.heap.get? b=some o->∃o',h'.get? b=some o')
  (Ay:∀b xs,H b=some (.tup xs)->H' b=some (.tup xs)) (yG:∀b o u,H b=some (.sE o u)->H' b=some (.sE o u)) (Az:∀b ps,H b=some (.Oy ps)->∃more,H' b=some (.Oy (ps++more)))
  (ns:∀m,s.heap.Ns X.env.locals m->h'.Ns X.env.locals m) (dm:oB X.prog X.w H' h') (hg:oM g'):
  Inv X pZ σ H' {s with heap:=h',gens:=g',drawn:=d',toks:=t'}:=by
 have neL:∀b o,X.s₀.heap.get? b=some o->b≠X.env.locals:=λb o e=>aY (av (aQ e) I.ok.above)
 have neC:∀b o,X.s₀.heap.get? b=some o->b∉X.ex->b∉ch:=λb o e hx hb=>by
  rcases(hch b hb).1 with z|z
  .erw[hx z]
  .erw[absurd (av (aQ e) z) (dI _)]
 have cellK:∀x c,X.env.cells.lookup x=some c->∀v,s.heap.IsCell c v->h'.IsCell c v:=λx c e v #[o,ho,hd]=>by
  have nch:c∉ch:=λz=>(hch c z).2.2.1 x c e rfl
  by_cases hc:c∈X.fs
  .let#[sl,q]:=slot c o (I.OA x c e) hc nch ho (I.om x c e)
   exact#[_,q,hd]
  .exact#[o,keep c o (I.OA x c e) hc nch ho (I.om x c e),hd]
 refine#[I.ok,I.os,hg,#[λb o e n hb hx=>?_,λb o e n hb hx=>?_,λb o e n hx=>?_,λb o e hx=>?_,λb xs e=>Ay b xs (I.base.Ay b xs e),λb o xs e=>yG b o xs (I.base.yG b o xs e),λb ps e=>?_],?_,λx c e=>?_,?_,λx c e=>?_,λp hp=>?_,dm,I.len]
 .erw[keep b o (neL b o e) hb (neC b o e hx) (I.base.keep b o e n hb hx) (I.base.free b o e n hx)]
 .let#[sl,e1]:=I.base.slot b o e n hb hx
  let#[sl',e2]:=slot b _ (neL b o e) hb (neC b o e hx) e1 (I.base.free b o e n hx);exact#[sl',e2]
 .let#[o',e1]:=I.base.there b o e hx
  erw[free b o' (neC b o e hx) e1 (I.base.free b o e n hx)]
 .let#[o',e1]:=I.base.there b o e hx
  erw[there b o' (neC b o e hx) e1]
 .let#[m1,e1]:=I.base.Az b ps e
  let#[m2,e2]:=Az b _ e1;exact#[m1++m2,by rw[e2,Array.append_assoc]]
 .let#[m,hn,hl]:=I.loc
  refine#[m,ns m hn,λi x v e1 e2 e3=>?_];let#[u,r,l]:=hl i x v e1 e2 e3;refine#[u,r,?_];rcases l with l|⟨k,c,e,z⟩
  .erw[.inl l]
  .erw[.inr #[k,c,e,cellK x c e _ z]]
 .let#[v,z]:=I.cell x c e
  exact#[v,cellK x c e v z]
 .let#[m,#[o,_,_,ho,_],_]:=I.loc
  erw[free _ o (λz=>(hch _ z).2.1 rfl) ho I.free]
 .let#[v,o,ho,hd]:=I.cell x c e
  erw[free c o (λz=>(hch c z).2.2.1 x c e rfl) ho (I.om x c e)]
 .let#[e,n,ne,nf,d]:=I.pin p hp
  have nch:p.1∉ch:=λz=>(hch p.1 z).2.2.2 p hp rfl
  exact#[keep p.1 p.2 ne nf nch e n,free p.1 p.2 nch e n,ne,nf,d]
theorem Inv.un{t':Nat}(I:Inv X pZ σ H s)(u:Un X.fs [] H H' s.heap h')(dm:oB X.prog X.w H' h'):Inv X pZ σ H' {s with heap:=h',toks:=t'}:=by
 let#[m,#[o,es,ep,ho,r],_]:=id I.loc;let#[sl,hL]:=u.any ho I.free (by simp);exact I.step (g':=s.gens) (d':=s.drawn) (ch:=[]) (λ_ z=>nomatch z) (λb o _ hb _ e n=>u.keep b o e n hb (by simp)) (λb o _ hb _ e n=>u.slot b o e n hb (by simp)) (λb o _ e n=>u.free b o e n (by simp)) (λb o _ e=>u.there b o e (by simp)) u.Ay u.yG u.Az (λm' hm=>by
  let#[o',es',ep',ho',r']:=hm;rw[ho] at ho';cases ho';exact#[_,es',ep',hL,r']) dm I.bare
theorem Inv.call{g':Array GenState}{t':Nat}{d':Drawn}{ch:List Addr}(I:Inv X pZ σ H s)(u:Un (wG X.stack) ch H H' s.heap h')(dm:oB X.prog X.w H' h')(hg:oM g')
  (hch:∀b∈ch,(b∈X.ex\/X.s₀.heap.objs.size<=b)/\b≠X.env.locals/\(∀x c,X.env.cells.lookup x=some c->c≠b)/\∀p∈X.pn++pZ,p.1≠b):
  Inv X pZ σ H' {s with heap:=h',gens:=g',drawn:=d',toks:=t'}:=by
 let#[m,#[o,es,ep,ho,r],_]:=id I.loc;let#[sl,hL]:=u.any ho I.free λz=>(hch _ z).2.1 rfl
 exact I.step (ch:=ch) hch (λb o hL hb hc e n=>u.keep b o e n (λz=>(aN.mp (I.vc b z)).elim hL hb) hc) (λb o _ _ hc e n=>u.any e n hc) (λb o hc e n=>u.free b o e n hc) (λb o hc e=>u.there b o e hc) u.Ay u.yG u.Az (λm' hm=>by
  let#[o',es',ep',ho',r']:=hm;rw[ho] at ho';cases ho';exact#[_,es',ep',hL,r']) dm hg
theorem Inv.turned{t':Nat}{it:Addr}(I:Inv X pZ σ H s)(k:∀b o,b≠it->s.heap.get? b=some o->h'.get? b=some o)(hn:H it=none)(hL:it≠X.env.locals)
  (h1:it∈X.ex\/X.s₀.heap.objs.size<=it) (h2:∀x c,X.env.cells.lookup x=some c->c≠it) (h3:∀p∈X.pn++pZ,p.1≠it):Inv X pZ σ H {s with heap:=h',toks:=t'}:=by
 have nit:∀b u,H b=some u->b≠it:=λb u e z=>by rw[z,hn] at e;cases e
 refine I.step (g':=s.gens) (d':=s.drawn) (ch:=[it]) (λb hb=>?_) (λb o _ _ hc e _=>k b o (λz=>hc (by simp[z])) e) (λb o _ _ hc e _=>#[o.slots,k b o (λz=>hc (by simp[z])) e]) (λ_ _ _ _ n=>n)
  (λb o hc e=>#[o,k b o (λz=>hc (by simp[z])) e]) (λ_ _ e=>e) (λ_ _ _ e=>e) (λb ps e=>#[#[],by rw[e];simp]) (λm hm=>?_) (λb u e=>?_) I.bare
 .have e:b=it:=by simpa using hb
  subst e;exact#[h1,hL,h2,h3]
 .let#[o,es,ep,ho,r]:=hm
  exact#[o,es,ep,k _ o (cC hL) ho,r]
 .refine(I.dm b u e).Ax (λc v hc q=>k c v ?_ q) (λ_ q=>q) λ_ _ q=>q
  rcases hc with z|z
  .rw[z];erw[nit b u e]
  .erw[nit c _ z]
theorem Inv.tok(I:Inv X pZ σ H s)(t:Nat):Inv X pZ σ H {s with toks:=t}:=I.un (h':=s.heap) (t':=t) Un.refl I.dm
theorem Inv.kept{t':Nat}(I:Inv X pZ σ H s)(k:∀b u,s.heap.get? b=some u->h'.get? b=some u):Inv X pZ σ H {s with heap:=h',toks:=t'}:=I.un (Un.kept k) (I.dm.kept k)
theorem Inv.laid{a:Addr}{o:HO}{t':Nat}(I:Inv X pZ σ H s)(k:∀b u,s.heap.get? b=some u->h'.get? b=some u)(hp:s.heap.objs.size<=a)(new:dQ X.prog X.w (upd H a o) h' a o):
  Inv X pZ σ (upd H a o) {s with heap:=h',toks:=t'}:=I.un (Un.laid k hp (I.dm.fresh hp)) (I.dm.laid k hp new)
theorem Inv.write(I:Inv X pZ σ H s)(mu:Ss (H x))(he:e=x\/H e=some (.own x))(k:∀b u,b≠e->s.heap.get? b=some u->h'.get? b=some u)(heo:∃u,h'.get? e=some u)
  (new:dQ X.prog X.w (upd H x o) h' x o):Inv X pZ σ (upd H x o) {s with heap:=h',toks:=t'}:=I.un (Un.write mu he k heo) (I.dm.write mu he k heo new)
theorem Inv.DL(I:Inv X pZ σ H s)(h:∀p∈pins',s.heap.get? p.1=some p.2/\H p.1=none/\p.1≠X.env.locals/\p.1∉X.fs/\∀v,p.2.data≠.cell v):Inv X pins' σ H s:=
 #[I.ok,I.os,I.bare,I.base,I.loc,I.cell,I.free,I.om,λp hp=>(aG.mp hp).elim (λz=>I.pin p (bR _ z)) (h p),I.dm,I.len]
theorem AB{N:List Str}(hN:N.Nodup){i j:Nat}{x:Str}(a:N[i]?=some x)(b:N[j]?=some x):i=j:=by
 let#[h1,e1]:=ab.mp a;let#[h2,e2]:=ab.mp b;exact(Kv hN).mp (e1.trans e2.symm)
theorem xB{M:Model}{A:dD}{E:Value->az->Prop}{i:Nat}{x:Str}{v:V}{u:Value}{Q:Unit->az->Prop}(I:Inv X pZ σ H s)(hN:X.N.Nodup)(hi:X.N[i]?=some x)(hx:Loc X.env.scope x)(r:RelV v u)
  (h:∀s',Inv X pZ (σ.set i (some v)) H s'->(∃a,gx a s.heap s'.heap/\(a=X.env.locals\/X.env.cells.lookup x=some a))->Q () s') (hf:X.fn x=true\/X.env.scope.names.lookup x=some .local:=by first|exact .inl rfl|exact .inr rfl|assumption):wpAny M A (storeName X.env x u) Q E s:=by
 let#[m,hn,hl]:=id I.loc;have hcls:(X.env.scope.kind==.class||(X.env.scope.kind==.module&&X.env.locals !=X.env.globals))=false:=by rw[I.ok.kind];rfl
 have hiσ:i<σ.length:=by rw[I.len];exact(ab.mp hi).1
 have OA:=I.OA;have tracked:∀{a:Addr}{h':Heap},(∃o,s.heap.get? a=some o/\H a=none)->gx a s.heap h'->oB X.prog X.w H h':=λ{a h'}ha hs b ob e=>by
  let#[_,_,hfree]:=ha;refine(I.dm b ob e).Ax (λc w' hc q=>(hs.2 c ?_).trans q) (λ_ q=>q) λ_ _ q=>q
  rintro rfl;rcases hc with rfl|hc
  .rw[hfree] at e;cases e
  .rw[hfree] at hc;cases hc
 rcases hx with hk|hk
 .rwa[wpAny_storeName_local hk hn (λh' hn' hs=>?_) hcls]
  let#[oL,_,_,hoL,_]:=id hn;refine h _ #[I.ok,I.os,I.bare,#[λb o e n hb hx=>?_,λb o e n hb hx=>?_,I.base.free,λb o e hx=>?_,I.base.Ay,I.base.yG,I.base.Az],#[_,hn',λj y v' e1 e2 e3=>?_],λy c e=>?_,I.free,I.om,λp hp=>?_,tracked #[oL,hoL,I.free] hs,by simpa using I.len] #[_,hs,.inl rfl]
  .exact(hs.2 b (aY (av (aQ e) I.ok.above))).trans (I.base.keep b o e n hb hx)
  .let#[sl,e1]:=I.base.slot b o e n hb hx
   exact#[sl,(hs.2 b (aY (av (aQ e) I.ok.above))).trans e1]
  .let#[o',e1]:=I.base.there b o e hx
   exact#[o',(hs.2 b (aY (av (aQ e) I.ok.above))).trans e1]
  .by_cases hj:j=i
   .subst hj
    rw[hi] at e1;cases e1;rw[bG hiσ] at e2;cases e2;exact#[u,r,.inl #[hk,by simp]]
   .rw[ai (cC hj)] at e2
    let#[u',r',q]:=hl j y v' e1 e2 e3;refine#[u',r',?_];rcases q with⟨k,e⟩|⟨k,c,e,z⟩
    .rwa[.inl #[k,?_]]
     have:y≠x:=λe=>hj (AB hN e1 (e▸hi))
     simp[this,e]
    .erw[.inr #[k,c,e,z.sameBut hs (OA y c e)]]
  .let#[w',z]:=I.cell y c e
   exact#[w',z.sameBut hs (OA y c e)]
  .let#[e,n,ne,nf,d]:=I.pin p hp
   exact#[(hs.2 p.1 ne).trans e,n,ne,nf,d]
 .have hfn:X.fn x=true:=by
   rcases hf with z|z
   .erw[z]
   .rw[z] at hk;cases hk
  let#[c,hc]:=I.ok.has x (.inl hk);let#[w',z]:=I.cell x c hc;rwa[wpAny_storeName_cell I.ok.kind hk hc z (λh' hc' hs=>?_)];let#[oc,hoc,hocd]:=id z;refine h {s with heap:=h'} #[I.ok,I.os,I.bare,#[λb o e n hb hx=>?_,λb o e n hb hx=>?_,I.base.free,λb o e hx=>?_,I.base.Ay,I.base.yG,I.base.Az],#[m,hn.sameBut hs (cC (OA x c hc)),λj y v' e1 e2 e3=>?_],λy c' e=>?_,I.free,I.om,λp hp=>?_,tracked #[oc,hoc,I.om x c hc] hs,by simpa using I.len] #[c,hs,.inr hc]
  .exact(hs.2 b (aY (av (aQ e) (I.ok.Oz x c hfn hc)))).trans (I.base.keep b o e n hb hx)
  .let#[sl,e1]:=I.base.slot b o e n hb hx
   exact#[sl,(hs.2 b (aY (av (aQ e) (I.ok.Oz x c hfn hc)))).trans e1]
  .let#[o',e1]:=I.base.there b o e hx
   exact#[o',(hs.2 b (aY (av (aQ e) (I.ok.Oz x c hfn hc)))).trans e1]
  .by_cases hj:j=i
   .subst hj
    rw[hi] at e1;cases e1;rw[bG hiσ] at e2;cases e2;exact#[u,r,.inr #[.inl hk,c,hc,hc']]
   .rw[ai (cC hj)] at e2
    let#[u',r',q]:=hl j y v' e1 e2 e3;refine#[u',r',?_];rcases q with q|⟨k,c',e,z'⟩
    .erw[.inl q]
    .rwa[.inr #[k,c',e,z'.sameBut hs ?_]]
     rintro rfl;erw[hj (AB hN e1 (I.ok.inj _ _ _ e hc▸hi))]
  .by_cases hcc:c'=c
   .subst hcc;exact#[_,hc']
   .let#[w2,z2]:=I.cell y c' e
    exact#[w2,z2.sameBut hs hcc]
  .let#[e,n,ne,nf,d]:=I.pin p hp
   refine#[(hs.2 p.1 ?_).trans e,n,ne,nf,d];intro q;rw[q,hoc] at e;have q':oc=p.2:=aL e;erw[d w' (by rw[<-q'];exact hocd)]
theorem rm{M:Model}{A:dD}{E:Value->az->Prop}{i:Nat}{x:Str}{v:V}{u:Value}{Q:Unit->az->Prop}(I:Inv X pZ σ H s)(hN:X.N.Nodup)(hi:X.N[i]?=some x)(hx:Loc X.env.scope x)(r:RelV v u)
  (h:∀s',Inv X pZ (σ.set i (some v)) H s'->Q () s') (hf:X.fn x=true\/X.env.scope.names.lookup x=some .local:=by first|exact .inl rfl|exact .inr rfl|assumption):wpAny M A (storeName X.env x u) Q E s:=
 xB I hN hi hx r (λs' I' _=>h s' I') hf
theorem Inv.NO(I:Inv X pZ σ H s)(ho:s'.os=s.os)(u:Un (wG X.stack) ch H H' s.heap s'.heap)(dm:oB X.prog X.w H' s'.heap)(hg:oM s'.gens)
  (hch:∀b∈ch,(b∈X.ex\/X.s₀.heap.objs.size<=b)/\b≠X.env.locals/\(∀x c,X.env.cells.lookup x=some c->c≠b)/\∀p∈X.pn++pZ,p.1≠b):Inv X pZ σ H' s':=by
 let#[h',g',d',t',o']:=s';have e:o'=s.os:=ho;subst e;erw[I.call (g':=g') (t':=t') (d':=d') u dm hg hch]
end
abbrev XK:=Value->Option Addr->Hp->Prop
abbrev St:=List (Option V)
abbrev VK:=V->Hp->Prop
abbrev TE:=St->Hp->VK->Prop
abbrev TT:=St->Hp->(Bool->Hp->Prop)->Prop
abbrev TA:=St->Hp->(List V->Hp->Prop)->Prop
structure Ends where
 nx:St->Hp->Prop
 rt:VK
 bk:St->Hp->Prop:=λ_ _=>False
 ct:St->Hp->Prop:=λ_ _=>False
abbrev TS:=Ends->St->Hp->Prop
def EP(X:Cx)(pZ:List (Addr×Obj))(σ:St)(Q:VK)(u:Value)(s':az):Prop:=∃v H',Inv X pZ σ H' s'/\RelV v u/\Q v H'
def TP(X:Cx)(pZ:List (Addr×Obj))(σ:St)(Q:Bool->Hp->Prop)(b:Bool)(s':az):Prop:=∃H',Inv X pZ σ H' s'/\Q b H'
def AP(X:Cx)(pZ:List (Addr×Obj))(σ:St)(Q:List V->Hp->Prop)(us:List Value)(s':az):Prop:=∃vs H',Inv X pZ σ H' s'/\Vals vs us/\Q vs H'
def SP(X:Cx)(pZ:List (Addr×Obj))(D:Ends)(f:Flow)(s':az):Prop:=
 match f with
 |.next=>∃σ' H',Inv X pZ σ' H' s'/\D.nx σ' H'
 |.brk=>∃σ' H',Inv X pZ σ' H' s'/\D.bk σ' H'
 |.cont=>∃σ' H',Inv X pZ σ' H' s'/\D.ct σ' H'
 |.ret u=>∃v σ' H',Inv X pZ σ' H' s'/\RelV v u/\D.rt v H'
def PE(X:Cx)(e:Expr)(t:TE):Prop:=
 ∀(pZ:List (Addr×Obj))(s:az)(σ:St)(H:Hp)(Q:VK),Inv X pZ σ H s->t σ H Q->wpAny (bb X.prog X.w) X.A (eval e X.env) (EP X pZ σ Q) X.xe s
def PT(X:Cx)(e:Expr)(t:TT):Prop:=
 ∀(pZ:List (Addr×Obj))(s:az)(σ:St)(H:Hp)(Q:Bool->Hp->Prop),Inv X pZ σ H s->t σ H Q->wpAny (bb X.prog X.w) X.A (isTrue e X.env (eval e X.env)) (TP X pZ σ Q) X.xe s
def PW(X:Cx)(e:Expr)(t:TT):Prop:=
 ∀(whole:Sem Value)(pZ:List (Addr×Obj))(s:az)(σ:St)(H:Hp)(Q:Bool->Hp->Prop),Inv X pZ σ H s->t σ H Q->wpAny (bb X.prog X.w) X.A (isTrue e X.env whole) (TP X pZ σ Q) X.xe s
theorem PW.pt{X:Cx}{e:Expr}{t:TT}(h:PW X e t):PT X e t:=h _
def PA(X:Cx)(es:List Expr)(t:TA):Prop:=
 ∀(pos:Pos)(pZ:List (Addr×Obj))(s:az)(σ:St)(H:Hp)(Q:List V->Hp->Prop),Inv X pZ σ H s->t σ H Q->wpAny (bb X.prog X.w) X.A (spliced (iH pos (bV es X.env))) (AP X pZ σ Q) X.xe s
def PS(X:Cx)(st:Stmt)(t:TS):Prop:=
 ∀(pZ:List (Addr×Obj))(s:az)(σ:St)(H:Hp)(D:Ends),Inv X pZ σ H s->t D σ H->wpAny (bb X.prog X.w) X.A (exec st X.env) (SP X pZ D) X.xe s
def wH(X:Cx)(st:List Stmt)(t:TS):Prop:=
 ∀(pZ:List (Addr×Obj))(s:az)(σ:St)(H:Hp)(D:Ends),Inv X pZ σ H s->t D σ H->wpAny (bb X.prog X.w) X.A (execs st X.env) (SP X pZ D) X.xe s
theorem eT{α:Type}{t:Sem α}{Q Q':α->az->Prop}{M:Model}{A:dD}{E:Value->az->Prop}{s:az}(h:wpAny M A t Q E s)(hQ:∀a s,Q a s->Q' a s):wpAny M A t Q' E s:=bY h hQ λ_ _ x=>x
section
variable{X:Cx}
noncomputable def Xt(i:Nat):TE:=λσ H Q=>∃v,σ[i]?=some (some v)/\Q v H
noncomputable def tC(v:V):TE:=λ_ H Q=>Q v H
theorem OB(hN:X.N[i]?=some x)(hv:SW X.env.scope x)(hd:(x==("__debug__":Str))=false:=by decide)(hcd:(x==("__classdict__":Str))=false:=by decide):PE X (.Name x pos) (Xt i):=by
 k_go;let#[v,e,h]:=h;let#[m,hn,hl]:=I.loc;let#[u,r,l]:=hl i x v hN e hv;have fin:EP X pZ σ Q u s:=#[v,H,I,r,h]
 rcases l with⟨hk,hm⟩|⟨hk,c,hc,hcell⟩
 .erw[wpAny_Name (KS I.ok.kind hk hn hm fin) hd]
 .rcases hk with hk|hk
  .erw[wpAny_Name (wpAny_loadName_cell I.ok.kind hk hc hcell fin) hd]
  .erw[wpAny_Name (wpAny_loadName_free I.ok.kind hk hc hcell fin hcd) hd]
theorem OC{i j pos}:PE X (.Constant (.int i) j pos) (tC (.int i)):=λ_ _ _ H _ I h=>wpAny_Constant_int #[.int i,H,I.tok _,#[_,rfl],h]
theorem SX{b j pos}:PE X (.Constant (.bool b) j pos) (tC (.bl b)):=λ_ _ _ H _ I h=>Constant_bool #[.bl b,H,I,rfl,h]
theorem OD{j pos}:PE X (.Constant .none j pos) (tC .bQ):=λ_ _ _ H _ I h=>Constant_none #[.bQ,H,I,rfl,h]
theorem OE{x j pos}:PE X (.Constant (.str x) j pos) (tC (.str x)):=λ_ _ _ H _ I h=>Calls.Constant_str #[.str x,H,I.tok _,#[_,rfl],h]
def Gl(X:Cx)(x:Str):Prop:=X.env.kindOf x=some .globalImplicit
theorem rn{E:Value->az->Prop}{pZ:List (Addr×Obj)}{s:az}{σ:St}{H:Hp}{x:Str}{u:Value}{pos:Pos}{Q:Value->az->Prop}(I:Inv X pZ σ H s)(hg:Gl X x)(hm:X.mg x=some u)(h:Q u s)
  (hd:(x==("__debug__":Str))=false:=by decide):wpAny (bb X.prog X.w) X.A (eval (.Name x pos) X.env) Q E s:=
 wy I.ok.kind hg (Calls.loadGlobal_global (by rw[I.ok.glob];erw[I.mod.glob.keeps I.bk]) hm h) hd
theorem sJ{E:Value->az->Prop}{pZ:List (Addr×Obj)}{s:az}{σ:St}{H:Hp}{x:Str}{u:Value}{pos:Pos}{Q:Value->az->Prop}(I:Inv X pZ σ H s)(hg:Gl X x)(hm:X.mg x=none)(hv:qz x=some u)(h:Q u s)
  (hn:x≠"__name__":=by decide) (hd:(x==("__debug__":Str))=false:=by decide):wpAny (bb X.prog X.w) X.A (eval (.Name x pos) X.env) Q E s:=by
 let#[mb,h1,h2]:=I.mod.blt;erw[wy I.ok.kind hg (Calls.loadGlobal_builtin (by rw[I.ok.glob];exact I.mod.glob.keeps I.bk) hm (by rw[I.ok.blt];exact h1.keeps I.bk) ((h2 x hn).trans hv) h) hd]
theorem La{x:Str}{v:V}{u:Value}{pos:Pos}(hg:Gl X x)(hm:X.mg x=some u)(r:RelV v u)(hd:(x==("__debug__":Str))=false:=by decide):PE X (.Name x pos) (tC v):=
 λ_ _ _ H _ I h=>rn I hg hm #[v,H,I,r,h] hd
variable{a b:Expr}{ta tb:TE}{pos:Pos}
variable{tA tB':TT}{rest:List Expr}
noncomputable def Xu(t u:TT):TT:=λσ H Q=>t σ H λc H1=>if c=true then u σ H1 Q else Q false H1
noncomputable def tOr(t u:TT):TT:=λσ H Q=>t σ H λc H1=>if c=true then Q true H1 else u σ H1 Q
noncomputable def Xv(t:TT):TT:=λσ H Q=>t σ H λc H1=>Q (!c) H1
theorem Lb(ha:PT X a tA):PW X (.BoolOp .And [a] pos) tA:=by
 intro wh pZ s σ H Q I h;rwa[isTrue_and (eT (ha pZ s σ H Q I h) λc s1 e=>?_)];cases c with
 |true=>erw[isTrue_and_nil e]
 |false=>erw[e]
theorem OF(ha:PT X a tA):PW X (.BoolOp .Or [a] pos) tA:=by
 intro wh pZ s σ H Q I h;rwa[isTrue_or (eT (ha pZ s σ H Q I h) λc s1 e=>?_)];cases c with
 |false=>erw[isTrue_or_nil e]
 |true=>erw[e]
theorem OG(ha:PT X a tA)(hb:PW X (.BoolOp .And (b::rest) pos) tB'):PW X (.BoolOp .And (a::b::rest) pos) (Xu tA tB'):=by
 intro wh pZ s σ H Q I h;rwa[isTrue_and (eT (ha pZ s σ H _ I h) λc s1 h9=>?_)];let#[H1,I1,q1]:=h9;cases c with
 |true=>erw[hb wh pZ s1 σ H1 Q I1 q1]
 |false=>exact#[H1,I1,q1]
theorem SY(ha:PT X a tA)(hb:PW X (.BoolOp .Or (b::rest) pos) tB'):PW X (.BoolOp .Or (a::b::rest) pos) (tOr tA tB'):=by
 intro wh pZ s σ H Q I h;rwa[isTrue_or (eT (ha pZ s σ H _ I h) λc s1 h9=>?_)];let#[H1,I1,q1]:=h9;cases c with
 |true=>exact#[H1,I1,q1]
 |false=>erw[hb wh pZ s1 σ H1 Q I1 q1]
theorem OH(ha:PT X a tA):PT X (.UnaryOp .Not a pos) (Xv tA):=by
 k_go;erw[isTrue_not (ha pZ s σ H (λc H1=>Q (!c) H1) I h)]
noncomputable def Ta(ta tb:TE):TE:=λσ H Q=>ta σ H λx H1=>∃c,x=.bl c/\if c=true then tb σ H1 Q else Q (.bl false) H1
noncomputable def Xw(ta tb:TE):TE:=λσ H Q=>ta σ H λx H1=>∃c,x=.bl c/\if c=true then Q (.bl true) H1 else tb σ H1 Q
noncomputable def Tc(ta:TE):TE:=λσ H Q=>ta σ H λx H1=>∃c,x=.bl c/\Q (.bl (!c)) H1
theorem OI{op}(h:PE X a t):PE X (.BoolOp op [a] pos) t:=λpZ s σ H Q I hw=>BoolOp_one (h pZ s σ H Q I hw)
theorem OJ(ha:PE X a ta)(hb:PE X (.BoolOp .And (b::rest) pos) tb):PE X (.BoolOp .And (a::b::rest) pos) (Ta ta tb):=by
 k_go;rwa[BoolOp_and (eT (ha pZ s σ H _ I h) λv s1 h9=>?_)];let#[x,H1,I1,r1,q1]:=h9;let#[c,rfl,q1]:=q1;cases r1;rwa[cY ?_];cases c with
 |true=>erw[hb pZ s1 σ H1 Q I1 q1]
 |false=>exact#[.bl false,H1,I1,rfl,q1]
theorem Td(ha:PE X a ta)(hb:PE X (.BoolOp .Or (b::rest) pos) tb):PE X (.BoolOp .Or (a::b::rest) pos) (Xw ta tb):=by
 k_go;rwa[BoolOp_or (eT (ha pZ s σ H _ I h) λv s1 h9=>?_)];let#[x,H1,I1,r1,q1]:=h9;let#[c,rfl,q1]:=q1;cases r1;rwa[cY ?_];cases c with
 |false=>erw[hb pZ s1 σ H1 Q I1 q1]
 |true=>exact#[.bl true,H1,I1,rfl,q1]
theorem OK(ha:PE X a ta):PE X (.UnaryOp .Not a pos) (Tc ta):=by
 k_go;rwa[UnaryOp_ (eT (ha pZ s σ H _ I h) λv s1 h9=>?_)];let#[x,H1,I1,r1,q1]:=h9;let#[c,rfl,q1]:=q1;cases r1;erw[not_of (cY #[.bl (!c),H1,I1,rfl,q1])]
noncomputable def tIf(t:TT)(ta tb:TE):TE:=λσ H Q=>t σ H λc H1=>if c=true then ta σ H1 Q else tb σ H1 Q
theorem Hn{c:Expr}(hc:PT X c tA)(ha:PE X a ta)(hb:PE X b tb):PE X (.IfExp c a b pos) (tIf tA ta tb):=by
 k_go;rwa[wpAny_IfExp (eT (hc pZ s σ H _ I h) λd s1 h9=>?_)];let#[H1,I1,q1]:=h9;cases d with
 |true=>erw[ha pZ s1 σ H1 Q I1 q1]
 |false=>erw[hb pZ s1 σ H1 Q I1 q1]
end
def i3(K:aI)(H:Hp)(a:Addr)(xs:List V):Prop:=
 Rd H a (.lst xs) \/
  ∃(o:Obj)(its:Array Value)(n:Nat),K.lookup a=some o/\o.cls=.type "list"/\o.dict=none/\o.data=.seq its n/\its.size<=sizeLine/\Vals xs its.toList
def oq(K:aI)(H:Hp)(a:Addr)(xs:List V):Prop:=
 Rd H a (.tup xs) \/
  ∃(o:Obj)(its:Array Value)(n:Nat),K.lookup a=some o/\o.cls=.type "tuple"/\o.data=.seq its n/\its.size<=sizeLine/\Vals xs its.toList
noncomputable def Xx:Value->Option V
 |.none=>some .bQ
 |.bool b=>some (.bl b)
 |.int i _=>some (.int i)
 |.str x _=>some (.str x)
 |.bytes b _=>some (.BX b)
 |.float b _=>some (.WR b)
 |.ref a=>some (.ref a)
 |.type n=>some (.ty n)
 |_=>none
theorem RelV.abs(r:RelV x u):Xx u=some x:=by
 cases x with
 |bQ=>cases r;rfl
 |bl _=>cases r;rfl
 |int _=>let#[t,rfl]:=r;rfl
 |str _=>let#[t,rfl]:=r;rfl
 |BX _=>let#[t,rfl]:=r;rfl
 |WR _=>let#[t,rfl]:=r;rfl
 |ref _=>cases r;rfl
 |ty _=>cases r;rfl
theorem RelV.inj{x y:V}{u:Value}(r:RelV x u)(q:RelV y u):x=y:=aL (r.abs.symm.trans q.abs)
theorem Vals.inj:∀{xs ys:List V}{us:List Value},Vals xs us->Vals ys us->xs=ys
 |_,_,_,.nil,.nil=>rfl
 |_,_,_,.cons r t,.cons r' t'=>by rw[r.inj r',Vals.inj t t']
section
variable{X:Cx}{pZ:List (Addr×Obj)}{σ:St}{H:Hp}{s:az}{a:Addr}{xs ys:List V}
theorem i3.of{K:aI}(h:H a=some (.lst xs)):i3 K H a xs:=.inl (.inl h)
theorem oq.of{K:aI}(h:H a=some (.tup xs)):oq K H a xs:=.inl (.inl h)
theorem Inv.list(I:Inv X pZ σ H s)(h:i3 X.K H a xs):∃its:List Value,Vals xs its/\PlainL s.heap a its.toArray/\xs.length<=sizeLine:=by
 rcases h with h|⟨o,its,n,hk,hc,hd,hs,hz,r⟩
 .let#[z,its,n,r,e]:=h.ok I.dm
  exact#[its,r,#[_,n,e,rfl,rfl,rfl],z]
 .refine#[its.toList,r,#[o,n,I.BY a o hk,hc,hd,by simpa using hs],?_]
  have e:=r.length;dsimp[DG] at e;omega
theorem Inv.tuple(I:Inv X pZ σ H s)(h:oq X.K H a xs):∃its:List Value,Vals xs its/\IsTup s.heap a its.toArray/\xs.length<=sizeLine:=by
 rcases h with h|⟨o,its,n,hk,hc,hs,hz,r⟩
 .let#[z,its,r,p]:=h.ok I.dm
  exact#[its,r,p.tup,z]
 .refine#[its.toList,r,#[o,I.BY a o hk,hc,n,by simpa using hs],?_]
  have e:=r.length;dsimp[DG] at e;omega
theorem Inv.vd(I:Inv X pZ σ H s)(h:i3 X.K H a xs)(h':i3 X.K H a ys):xs=ys:=by
 let#[its,r,#[o,n,e,_,_,d],_]:=I.list h;let#[its',r',#[o',n',e',_,_,d'],_]:=I.list h';rw[e] at e';cases e';rw[d] at d';injection d' with d1 _
 have:its=its':=by simpa using congrArg Ak d1
 subst this;erw[r.inj r']
theorem Inv.xC(I:Inv X pZ σ H s)(h:oq X.K H a xs)(h':oq X.K H a ys):xs=ys:=by
 let#[its,r,#[o,e,_,n,d],_]:=I.tuple h;let#[its',r',#[o',e',_,n',d'],_]:=I.tuple h';rw[e] at e';cases e';rw[d] at d';injection d' with d1 _
 have:its=its':=by simpa using congrArg Ak d1
 subst this;erw[r.inj r']
end
section
variable{X:Cx}{st:Stmt}{rest:List Stmt}{t u:TS}{e:Expr}{te:TE}{pos:Pos}
noncomputable def Te:TS:=λD σ H=>D.nx σ H
noncomputable def Xy(t u:TS):TS:=λD σ H=>t {D with nx:=u D} σ H
theorem Lc:wH X [] Te:=λ_ _ σ H _ I h=>qQ #[σ,H,I,h]
theorem Ho(h1:PS X st t)(h2:wH X rest u):wH X (st::rest) (Xy t u):=by
 intro pZ s σ H D I h;refine wpAny_execs_cons (eT (h1 pZ s σ H {D with nx:=u D} I h) λf s1 q=>?_);cases f with
 |next=>
  let#[σ',H',I',q]:=q;erw[h2 pZ s1 σ' H' D I' q]
 |ret v=>erw[q]
 |brk=>erw[q]
 |cont=>erw[q]
theorem Inv.quiet{pZ:List (Addr×Obj)}{σ:St}{H:Hp}{s:az}(I:Inv X pZ σ H s):interactive X.env=false:=by simp[interactive,I.ok.kind]
noncomputable def Tf(te:TE):TS:=λD σ H=>te σ H λ_ H1=>D.nx σ H1
theorem Ld(he:PE X e te)(hs:iA e none pos.line X.env=pure false:=by rfl):PS X (.Expr e pos) (Tf te):=by
 intro pZ s σ H D I h;rwa[wpAny_Expr_any (eT (he pZ s σ H _ I h) λv s1 h9=>?_) I.quiet hs];let#[x,H1,I1,r1,q1]:=h9;exact#[σ,H1,I1,q1]
noncomputable def Xz(te:TE):TS:=λD σ H=>te σ H D.rt
theorem OL(he:PE X e te):PS X (.Return (some e) pos) (Xz te):=by
 intro pZ s σ H D I h;rwa[wpAny_Return_some (eT (he pZ s σ H _ I h) λv s1 h9=>?_)];let#[x,H1,I1,r1,q1]:=h9;exact#[x,σ,H1,I1,r1,q1]
noncomputable def XA(c:TT)(t u:TS):TS:=λD σ H=>c σ H λb H1=>if b=true then t D σ H1 else u D σ H1
theorem Th{c:Expr}{a b:List Stmt}{tc:TT}(hc:PT X c tc)(ha:wH X a t)(hb:wH X b u):PS X (.If c a b pos) (XA tc t u):=by
 intro pZ s σ H D I h;rwa[wpAny_If (eT (hc pZ s σ H _ I h) λd s1 h9=>?_)];let#[H1,I1,q1]:=h9;cases d with
 |true=>erw[ha pZ s1 σ H1 D I1 q1]
 |false=>erw[hb pZ s1 σ H1 D I1 q1]
end
abbrev TG:=V->St->Hp->(St->Hp->Prop)->Prop
abbrev OM:=List V->St->Hp->(St->Hp->Prop)->Prop
def PG(X:Cx)(target:Expr)(t:TG):Prop:=
 ∀(pZ:List (Addr×Obj))(s:az)(σ:St)(H:Hp)(v:V)(u:Value)(Q:St->Hp->Prop),Inv X pZ σ H s->RelV v u->t v σ H Q ->
  wpAny (bb X.prog X.w) X.A (yq target X.env u) (λ_ s'=>∃σ' H',Inv X pZ σ' H' s'/\Q σ' H') X.xe s
def WV(X:Cx)(ts:List Expr)(t:OM):Prop:=
 ∀(pZ:List (Addr×Obj))(s:az)(σ:St)(H:Hp)(vs:List V)(us:List Value)(Q:St->Hp->Prop),Inv X pZ σ H s->Vals vs us->t vs σ H Q ->
  wpAny (bb X.prog X.w) X.A (assignInOrder ((uZ ts X.env).map (·.2)) us) (λ_ s'=>∃σ' H',Inv X pZ σ' H' s'/\Q σ' H') X.xe s
abbrev ON:=V->V->V->Hp->(Hp->Prop)->Prop
def Ti(X:Cx)(t:ON):Prop:=
 ∀(pZ:List (Addr×Obj))(s:az)(σ:St)(H:Hp)(o i v:V)(ov iv u:Value)(Q:Hp->Prop),Inv X pZ σ H s->RelV o ov->RelV i iv->RelV v u->t o i v H Q ->
  wpAny (bb X.prog X.w) X.A (setItem ov iv u) (λ_ s'=>∃H',Inv X pZ σ H' s'/\Q H') X.xe s
abbrev Tj:=V->V->Hp->VK->Prop
def ZK(X:Cx)(op:nj)(t:Tj):Prop:=
 ∀(pZ:List (Addr×Obj))(s:az)(σ:St)(H:Hp)(x y:V)(v u:Value)(Q:VK),Inv X pZ σ H s->RelV x v->RelV y u->t x y H Q ->
  wpAny (bb X.prog X.w) X.A (iB op v u) (EP X pZ σ Q) X.xe s
section
variable{X:Cx}{pos:Pos}
noncomputable def xD(i:Nat):TG:=λv σ H Q=>Q (σ.set i (some v)) H
theorem rq{i:Nat}{x:Str}(hN:X.N.Nodup)(hi:X.N[i]?=some x)(hx:Loc X.env.scope x)(hf:X.fn x=true\/X.env.scope.names.lookup x=some .local:=by first|exact .inl rfl|exact .inr rfl|assumption):PG X (.Name x pos) (xD i):=by
 intro pZ s σ H v u Q I r h;erw[wz (rm I hN hi hx r (λs' I'=>#[_,H,I',h]) hf)]
noncomputable def XB:OM:=λvs σ H Q=>vs=[]/\Q σ H
noncomputable def Tn(t:TG)(u:OM):OM:=λvs σ H Q=>∃v r,vs=v::r/\t v σ H λσ' H'=>u r σ' H' Q
theorem DM:WV X [] XB:=by
 intro pZ s σ H vs us Q I r h;let#[e,h]:=h;subst e;cases r;erw[assignInOrder_nil #[σ,H,I,h]]
theorem rA{e:Expr}{es:List Expr}{t:TG}{u:OM}(h1:PG X e t)(h2:WV X es u)
  (hs:(uZ (e::es) X.env).map (·.2)=yq e X.env::(uZ es X.env).map (·.2):=by rfl):WV X (e::es) (Tn t u):=by
 intro pZ s σ H vs us Q I r h;let#[v,vr,e1,h]:=h;subst e1;cases r with
 |cons r rr=>
  rw[hs]
  rwa[assignInOrder_cons (eT (h1 pZ s σ H _ _ _ I r h) λ_ s1 h9=>?_)];let#[σ1,H1,I1,q1]:=h9;erw[h2 pZ s1 σ1 H1 _ _ Q I1 rr q1]
noncomputable def XC(K:aI)(n:Nat)(t:OM):TG:=λv σ H Q=>∃a xs,v=.ref a/\oq K H a xs/\xs.length=n/\t xs σ H Q
theorem Hq{es:List Expr}{k:Nat}{t:OM}{n:Nat}(hc:X.calm=true)(h:WV X es t)
  (hn:(uZ es X.env).length=n:=by rfl) (hst:(uZ es X.env).findIdx? (·.1)=none:=by rfl):PG X (.Tuple es k pos) (XC X.K n t):=by
 intro pZ s σ H v u Q I r hw;let#[a,xs,e1,hq,hl,hw]:=hw;subst e1;cases r;let#[its,rv,ht,hz]:=I.tuple hq;rwa[assign_Tuple_tuple (I.ok.hd hc) ht (by simp[hn,<-hl,rv.length]) hst λh' hx=>?_]
 have I1:Inv X pZ σ H {s with heap:=h'}:=I.kept (t':=s.toks) λb o e=>hx b o (aY (aQ e)) e
 exact h pZ _ σ H xs _ Q I1 (by simpa using rv) hw
noncomputable def To(te:TE)(g:TG):TS:=λD σ H=>te σ H λx H1=>g x σ H1 D.nx
theorem Hr{i:Nat}{x:Str}{e:Expr}{te:TE}{pos':Pos}(hN:X.N.Nodup)(hi:X.N[i]?=some x)(hx:Loc X.env.scope x)(he:PE X e te)(hs:iA e (some (.Name x pos')) pos.line X.env=pure false:=by rfl)(hf:X.fn x=true\/X.env.scope.names.lookup x=some .local:=by first|exact .inl rfl|exact .inr rfl|assumption):
  PS X (.Assign [.Name x pos'] e pos) (To te (xD i)):=by
 intro pZ s σ H D I h;rwa[wpAny_Assign_Name (eT (he pZ s σ H _ I h) λv s1 h9=>?_) hs];let#[y,H1,I1,r1,q1]:=h9;erw[rm I1 hN hi hx r1 (λs2 I2=>#[_,H1,I2,q1]) hf]
noncomputable def XD(i:Nat)(te:TE)(ti:Tj):TS:=λD σ H=>∃x,σ[i]?=some (some x)/\te σ H λy H1=>ti x y H1 λz H2=>D.nx (σ.set i (some z)) H2
theorem OO{i:Nat}{x:Str}{e:Expr}{te:TE}{op:nj}{ti:Tj}{pos':Pos}(hN:X.N.Nodup)(hi:X.N[i]?=some x)(hx:Loc X.env.scope x)(he:PE X e te)(ho:ZK X op ti)(hf:X.fn x=true\/X.env.scope.names.lookup x=some .local:=by first|exact .inl rfl|exact .inr rfl|assumption):
  PS X (.AugAssign (.Name x pos') op e pos) (XD i te ti):=by
 intro pZ s σ H D I h;let#[v,e1,h]:=h;let#[m,hn,hl]:=I.loc;have vis:SW X.env.scope x:=by rcases hx with k|k;erw[.inl k];erw[.inr (.inl k)]
 let#[u,r,l]:=hl i x v hi e1 vis;refine wpAny_AugAssign_Name ?_;have go:wpAny (bb X.prog X.w) X.A (eval e X.env) (λw s₂=>wpAny (bb X.prog X.w) X.A (iB op u w) (λr s₃=>wpAny (bb X.prog X.w) X.A (storeName X.env x r) (λ_=>SP X pZ D .next) X.xe s₃) X.xe s₂) X.xe s:=by
  rwa[eT (he pZ s σ H _ I h) λw s1 h9=>?_]
  let#[y,H1,I1,r1,q1]:=h9;rwa[eT (ho pZ s1 σ H1 v y u w _ I1 r r1 q1) λz s2 h9=>?_]
  let#[zv,H2,I2,r2,q2]:=h9;erw[rm I2 hN hi hx r2 (λs3 I3=>#[_,H2,I3,q2]) hf]
 rcases l with⟨hk,hm⟩|⟨hk,c,hc,hcell⟩
 .erw[KS I.ok.kind hk hn hm go]
 .rcases hk with hk|hk
  .erw[wpAny_loadName_cell I.ok.kind hk hc hcell go]
  .rcases hx with k|k
   .have:X.env.scope.names.lookup x=some .free:=hk
    rw[k] at this;cases this
   .have:X.env.scope.names.lookup x=some .free:=hk
    rw[k] at this;cases this
def Tp(to ti te:TE)(tget:V->V->Hp->VK->Prop)(tip:Tj)(tset:ON):TS:=λD σ H=>to σ H λo H1=>ti σ H1 λi H2=>tget o i H2 λx H3=>te σ H3 λy H4=>tip x y H4 λz H5=>tset o i z H5 λH6=>D.nx σ H6
def Tq(X:Cx)(t:V->V->Hp->VK->Prop):Prop:=
 ∀(pZ:List (Addr×Obj))(s:az)(σ:St)(H:Hp)(o i:V)(ov iv:Value)(Q:VK),Inv X pZ σ H s->RelV o ov->RelV i iv->t o i H Q ->
  wpAny (bb X.prog X.w) X.A (tI ov iv) (EP X pZ σ Q) X.xe s
theorem Le{o i e:Expr}{to ti te:TE}{tget:V->V->Hp->VK->Prop}{tip:Tj}{tset:ON}{op:nj}{tpos:Pos}(ho:PE X o to)(hi:PE X i ti)(hg:Tq X tget)(he:PE X e te)(hp:ZK X op tip)(hs:Ti X tset)
  (ha:∀ov iv new,augStore i ov iv new=(do holding [new,ov,iv] (setItem ov iv new);release [new,ov,iv] [];pure .next):=by intros;rfl):PS X (.AugAssign (.Subscript o i tpos) op e pos) (Tp to ti te tget tip tset):=by
 intro pZ s σ H D I h;rwa[wpAny_AugAssign_SubscriptAny (eT (ho pZ s σ H _ I h) λov s1 h9=>?_) ha];let#[x1,H1,I1,r1,q1]:=h9;rwa[eT (hi pZ s1 σ H1 _ I1 q1) λiv s2 h9=>?_]
 let#[x2,H2,I2,r2,q2]:=h9;rwa[eT (hg pZ s2 σ H2 x1 x2 ov iv _ I2 r1 r2 q2) λold s3 h9=>?_]
 let#[x3,H3,I3,r3,q3]:=h9;rwa[eT (he pZ s3 σ H3 _ I3 q3) λv s4 h9=>?_]
 let#[x4,H4,I4,r4,q4]:=h9;rwa[eT (hp pZ s4 σ H4 x3 x4 old v _ I4 r3 r4 q4) λnew s5 h9=>?_]
 let#[x5,H5,I5,r5,q5]:=h9;rwa[eT (hs pZ s5 σ H5 x1 x2 x5 ov iv new _ I5 r1 r2 r5 q5) λ_ s6 h9=>?_]
 let#[H6,I6,q6]:=h9;exact#[σ,H6,I6,q6]
end
section
variable{X:Cx}{pos:Pos}
noncomputable def OP(c:TT)(tb:TS):TS:=λD σ H=>∃W:Nat->St->Hp->Prop,(∃m,W m σ H)/\∀m σ H,W m σ H ->
 c σ H λb H1=>if b=true then ∃N:St->Hp->Prop,(∀σ' H',N σ' H'->∃m',m'<m/\W m' σ' H')/\tb {D with nx:=N,ct:=N,bk:=D.nx} σ H1 else D.nx σ H1
theorem Hs{c:Expr}{body:List Stmt}{tc:TT}{tb:TS}(hp:Gz (bb X.prog X.w) X.A X.env X.xe)(hc:PT X c tc)(hb:wH X body tb):PS X (.While c body [] pos) (OP tc tb):=by
 intro pZ s σ H D I h;let#[W,#[m0,w0],turn]:=h;rwa[wpAny_While (codeAny_whileLoop (λn s'=>∃σ' H',Inv X pZ σ' H' s'/\W n σ' H') ?_ m0 #[σ,H,I,w0])];rintro n s1 ⟨σ1,H1,I1,w1⟩;rwa[hJ hp (eT (hc pZ s1 σ1 H1 _ I1 (turn n σ1 H1 w1)) λb s2 h9=>?_)];let#[H2,I2,q2]:=h9;cases b with
 |true=>
  let#[N,hN,q2]:=q2;rw[if_pos rfl]
  rwa[hJ hp (eT (hb pZ s2 σ1 H2 _ I2 q2) λf s3 q3=>?_)];cases f with
  |next=>
   let#[σ3,H3,I3,n3]:=q3;let#[m',hm,w3]:=hN σ3 H3 n3;exact#[m',hm,σ3,H3,I3,w3]
  |cont=>
   let#[σ3,H3,I3,n3]:=q3;let#[m',hm,w3]:=hN σ3 H3 n3;exact#[m',hm,σ3,H3,I3,w3]
  |brk=>erw[q3]
  |ret v=>erw[q3]
 |false=>
  rw[if_neg aV]
  erw[qQ #[σ1,H2,I2,q2]]
end
structure It where
 go:Nat->Hp->Prop
 Ts:Nat->Hp->V->Hp->Prop
 stop:Nat->Hp->Prop
def qC(X:Cx)(pZ:List (Addr×Obj))(H:Hp)(b:Addr):Prop:=
 H b=none/\b≠X.env.locals/\b∉X.fs/\(b∈X.ex\/X.s₀.heap.objs.size<=b)/\(∀x c,X.env.cells.lookup x=some c->c≠b)/\∀p∈X.pn++pZ,p.1≠b
theorem Inv.Cm{X:Cx}{pZ:List (Addr×Obj)}{σ:St}{H H':Hp}{s:az}{b:Addr}(I:Inv X pZ σ H s)(hb:s.heap.objs.size<=b)(hn:H' b=none):qC X pZ H' b:=by
 refine#[hn,cZ (av I.lt hb),I.Xs hb,.inr (aJ I.sz hb),λx c e z=>?_,λp hp z=>?_]
 .let#[v,q]:=I.cell x c e
  erw[absurd (av q.lt (by rw[z];exact hb)) (dI _)]
 .erw[absurd (av (aQ (I.pin p hp).1) (by rw[z];exact hb)) (dI _)]
structure Turn(P:bD)(w:cy)(K:aI)(tg:Expr)(J:It)(fp:List Addr)(it:Addr)(tn:Nat->Heap->Prop):Prop where
 mem:it∈fp
 obj:∀i h,tn i h->∀b∈fp,∃o,h.get? b=some o/\∀v,o.data≠.cell v
 keep:∀i h h',tn i h->(∀b∈fp,∀o,h.get? b=some o->h'.get? b=some o)->tn i h'
 item:∀(X:Cx),X.prog=P->X.w=w->X.K=K->X.calm=true->∀(i:Nat)(pZ:List (Addr×Obj))(s:az)(σ:St)(H:Hp)(E:Value->az->Prop),Inv X pZ σ H s->(∀b∈fp,qC X pZ H b)->tn i s.heap->J.go i H ->
  wpAny (bb P w) X.A (yr (.ref it)) (λr s1=>∃u,r=some u /\
   wpAny (bb P w) X.A (qR tg (.ref it) u) (λ_ s2=>∃x H',Inv X pZ σ H' s2/\RelV x u/\J.Ts i H x H'/\tn (i+1) s2.heap/\∀b∈fp,H' b=none) E s1) E s
 done:∀(X:Cx),X.prog=P->X.w=w->X.K=K->X.calm=true->∀(i:Nat)(pZ:List (Addr×Obj))(s:az)(σ:St)(H:Hp)(E:Value->az->Prop),Inv X pZ σ H s->(∀b∈fp,qC X pZ H b)->tn i s.heap->J.stop i H ->
  wpAny (bb P w) X.A (yr (.ref it)) (λr s1=>r=none/\Inv X pZ σ H s1) E s
 self:∀(A:dD)(i:Nat)(s:az)(Q:Value->az->Prop)(E:Value->az->Prop),tn i s.heap->Q (.ref it) s->wpAny (bb P w) A (pyIter (.ref it)) Q E s
abbrev TI:=St->Hp->(It->Hp->Prop)->Prop
def XF(X:Cx)(pZ:List (Addr×Obj))(σ:St)(tg:Expr)(R:It->Hp->Prop)(itv:Value)(s2:az):Prop:=
 ∃(it:Addr)(fp:List Addr)(tn:Nat->Heap->Prop)(J:It)(H':Hp),itv=.ref it/\Inv X pZ σ H' s2/\Turn X.prog X.w X.K tg J fp it tn/\tn 0 s2.heap/\(∀b∈fp,qC X pZ H' b)/\R J H'
def PI(X:Cx)(tg iter:Expr)(wi:TI):Prop:=
 ∀(pZ:List (Addr×Obj))(s:az)(σ:St)(H:Hp)(R:It->Hp->Prop),Inv X pZ σ H s->wi σ H R ->
  wpAny (bb X.prog X.w) X.A (eval iter X.env) (λv s1=>wpAny (bb X.prog X.w) X.A (pyIter v) (XF X pZ σ tg R) X.xe s1) X.xe s
theorem AD(ho:s.heap.get? it=some o)(hc:o.cls=.type n)(hd:o.data=.fields vs)
    (hn:["enumerate","zip","dict_itemiterator","dict_reverseitemiterator","odict_iterator","itertools.zip_longest","itertools.pairwise"].contains n=false) (hQ:Q () s):wpAny M A (qR tg (.ref it) u) Q E s:=by
  unfold qR;cases tg<;>first
    |exact aB hQ
    | (cases u<;>first
        |exact aB hQ
        | (refine ae (wpAny_load ho ?_)
           rw[hc,hd]
           show wpAny M A (if (["enumerate","zip","dict_itemiterator","dict_reverseitemiterator","odict_iterator","itertools.zip_longest","itertools.pairwise"].contains n&&vs[0]?==some (jM _))=true then _ else _) Q E s
           rw[if_neg (by intro h;rw[hn,Bool.false_and] at h;cases h)]
           erw[aB hQ]))
noncomputable def XG(K:aI)(a:Addr):It:=
 #[λi H=>∃xs x,i3 K H a xs/\xs[i]?=some x,λi H x H'=>H'=H/\∀xs,i3 K H a xs->xs[i]?=some x,λi H=>∃xs,i3 K H a xs/\xs.length<=i]
noncomputable def XH(K:aI)(a:Addr):It:=
 #[λi H=>∃xs x,oq K H a xs/\xs[i]?=some x,λi H x H'=>H'=H/\∀xs,oq K H a xs->xs[i]?=some x,λi H=>∃xs,oq K H a xs/\xs.length<=i]
noncomputable def WW(lo:Int)(n:Nat):It:=#[λi _=>i<n,λi H x H'=>H'=H/\x=.int (lo+i),λi _=>n<=i]
theorem Fg{P:bD}{w:cy}{K:aI}{tg:Expr}(a it:Addr):Turn P w K tg (XG K a) [it] it (λi h=>h.IsListIter it a i) where
 mem:=by simp
 obj:=λi h st b hb=>by
  have e:b=it:=by simpa using hb
  subst e;let#[o,e,c,d]:=st;exact#[o,e,λv z=>by rw[d] at z;cases z]
 keep:=λi h h' st k=>st.at λo e=>k it (by simp) o e
 item:=by
  w_up;subst hP hw hK;let#[xs,x,hq,hx]:=hg;let#[its,rv,p,hz]:=I.list hq;let#[u,hu,ru]:=rv.get hx;let#[f0,f1,f2,f3,f4,f5]:=hf it (by simp);refine G7 st p.isList (x:=u) (by simpa using hu) λh' st' sb=>?_
  have I1:Inv X pZ σ H {s with heap:=h'}:=I.turned (t':=s.toks) (λb o hb e=>(sb.2 b hb).trans e) f0 f1 f3 f4 f5;let#[o,e,c,d]:=id st';exact#[u,rfl,AD (s:={s with heap:=h'}) e c d ⋯ #[x,H,I1,ru,#[rfl,λys hy=>by rw[I.vd hy hq];erw[hx]],st',λb hb=>(hf b hb).1]]
 done:=by
  w_up;subst hP hw hK;let#[xs,hq,hx]:=hg;let#[its,rv,p,hz]:=I.list hq;let#[f0,f1,f2,f3,f4,f5]:=hf it (by simp);have hl:=rv.length;erw[Kw (I.ok.hd hc) st p.isList (by simp;omega) λh' eb=>#[rfl,I.turned (t':=s.toks) (λb o hb e=>eb b o hb e) f0 f1 f3 f4 f5]]
 self:=λ_ _ _ _ _ st h=>wpAny_pyIter_listiter st h
theorem Cn{P:bD}{w:cy}{K:aI}{tg:Expr}(a it:Addr):Turn P w K tg (XH K a) [it] it (λi h=>h.IsTupleIter it a i) where
 mem:=by simp
 obj:=λi h st b hb=>by
  have e:b=it:=by simpa using hb
  subst e;let#[o,e,c,d]:=st;exact#[o,e,λv z=>by rw[d] at z;cases z]
 keep:=λi h h' st k=>st.at λo e=>k it (by simp) o e
 item:=by
  w_up;subst hP hw hK;let#[xs,x,hq,hx]:=hg;let#[its,rv,p,hz]:=I.tuple hq;let#[u,hu,ru]:=rv.get hx;let#[f0,f1,f2,f3,f4,f5]:=hf it (by simp);refine wpAny_pyNext_tuple_item st (show s.heap.IsTuple a its.toArray from p) (x:=u) (by simpa using hu) λh' st' sb=>?_
  have I1:Inv X pZ σ H {s with heap:=h'}:=I.turned (t':=s.toks) (λb o hb e=>(sb.2 b hb).trans e) f0 f1 f3 f4 f5;let#[o,e,c,d]:=id st';exact#[u,rfl,AD (s:={s with heap:=h'}) e c d ⋯ #[x,H,I1,ru,#[rfl,λys hy=>by rw[I.xC hy hq];erw[hx]],st',λb hb=>(hf b hb).1]]
 done:=by
  w_up;subst hP hw hK;let#[xs,hq,hx]:=hg;let#[its,rv,p,hz]:=I.tuple hq;let#[f0,f1,f2,f3,f4,f5]:=hf it (by simp);have hl:=rv.length;erw[wpAny_pyNext_tuple_end (I.ok.hd hc) st (show s.heap.IsTuple a its.toArray from p) (by simp;omega) λh' eb=>#[rfl,I.turned (t':=s.toks) (λb o hb e=>eb b o hb e) f0 f1 f3 f4 f5]]
 self:=λ_ _ _ _ _ st h=>wpAny_pyIter_tupleiter st h
theorem Co{P:bD}{w:cy}{K:aI}{tg:Expr}(it:Addr)(lo:Int)(n:Nat):Turn P w K tg (WW lo n) [it] it (λi h=>IsRangeIter h it (lo+(i:Nat)*1) ((n:Int)-(i:Nat)) 1) where
 mem:=by simp
 obj:=λi h st b hb=>by
  have e:b=it:=by simpa using hb
  subst e;exact#[_,st,λv z=>by
   have z':Data.fields _=Data.cell v:=z;cases z']
 keep:=λi h h' st k=>k it (by simp) _ st
 item:=by
  w_up;subst hP hw hK;let#[f0,f1,f2,f3,f4,f5]:=hf it (by simp);have W:=Walks.range (prog:=X.prog) (w:=X.w) (I.ok.hd hc) it lo 1 n;rwa[W.item i s _ _ hg st λv h' tk hv st' kk=>?_]
  let#[t,rfl]:=hv;have I1:Inv X pZ σ H {s with heap:=h',toks:=tk}:=I.turned (λb o hb e=>kk b o (by simpa using hb) e) f0 f1 f3 f4 f5;refine#[_,rfl,AD (s:={s with heap:=h',toks:=tk}) (n:="range_iterator") st' rfl rfl ⋯ #[.int (lo+i),H,I1,#[t,?_],#[rfl,rfl],st',λb hb=>(hf b hb).1]];rw[Int.mul_one]
 done:=by
  w_up;subst hP hw hK;let#[f0,f1,f2,f3,f4,f5]:=hf it (by simp);erw[wpAny_pyNext_range_end (I.ok.hd hc) st (by have:n<=i:=hg;omega) λh' eb=>#[rfl,I.turned (t':=s.toks) (λb o hb e=>eb b o hb e) f0 f1 f3 f4 f5]]
 self:=λ_ _ _ _ _ st h=>wpAny_pyIter_rangeiter st h
section
variable{X:Cx}{tg:Expr}
theorem Ht{pZ:List (Addr×Obj)}{σ:St}{H:Hp}{s:az}{R:It->Hp->Prop}{E:Value->az->Prop}{lo hi:Int}{t u v:Tok}{tk:Nat}(I:Inv X pZ σ H s)(h1:-(2^62)<=lo)(h2:lo<2^62)(h3:-(2^62)<=hi)(h4:hi<2^62)
  (q:R (WW lo (hi-lo).toNat) H):wpAny (bb X.prog X.w) X.A (pyIter (.ref s.heap.objs.size)) (XF X pZ σ tg R) E {s with heap:=s.heap.push {cls:=.type "range",data:=.fields (List.toArray [.int lo t,.int hi u,.int 1 v])},toks:=tk}:=by
 rwa[wpAny_pyIter_range (IsRange.new ..) (small_one h1 h2 h3 h4) ?_];have I1:Inv X pZ σ H {s with heap:=s.heap.push {cls:=.type "range",data:=.fields (List.toArray [.int lo t,.int hi u,.int 1 v])},toks:=tk}:=I.kept λb o e=>aF _ e
 refine#[(s.heap.push {cls:=.type "range",data:=.fields (List.toArray [.int lo t,.int hi u,.int 1 v])}).objs.size,[(s.heap.push {cls:=.type "range",data:=.fields (List.toArray [.int lo t,.int hi u,.int 1 v])}).objs.size],_,_,H,rfl,
  I1.kept (t':=tk) λb o e=>aF _ e,Co _ lo (hi-lo).toNat,?_,λb hb=>?_,q]
 .have e1:lo+((0:Nat):Int)*1=lo:=by simp
  have e2:(((hi-lo).toNat:Nat):Int)-((0:Nat):Int)=Builtin.Range.rangeSize lo hi 1:=by rw[rangeSize_one];split<;>omega
  show IsRangeIter _ _ (lo+((0:Nat):Int)*1) ((((hi-lo).toNat:Nat):Int)-((0:Nat):Int)) 1
  rw[e1,e2]
  erw[a9 _ rfl]
 .have e:b=(s.heap.push {cls:=.type "range",data:=.fields (List.toArray [.int lo t,.int hi u,.int 1 v])}).objs.size:=by simpa using hb
  subst e;erw[I1.Cm (ak _) (I1.dm.fresh (ak _))]
def Tt(ta:TA):TI:=λσ H R=>ta σ H λvs H1=>∃j:Int,vs=[.int j]/\-(2^62)<=j/\j<2^62/\R (WW 0 j.toNat) H1
theorem Fh{a:Expr}{ta:TA}{p pos:Pos}(hg:Gl X "range")(hm:X.mg "range"=none)(ha:PA X [a] ta)(hs:bV [a] X.env=[(false,eval a X.env)]:=by rfl):PI X tg (.Call (.Name "range" p) [a] [] pos) (Tt ta):=by
 intro pZ s σ H R I h;rwa[Call_ (sJ I hg hm boot_range (jX (eT (ha pos pZ s σ H _ I h) λus s1 h9=>?_) hs rfl))];let#[vs,H1,I1,r1,q1]:=h9;let#[j,e,q1,q2,q]:=q1;subst e;cases r1 with
 |cons r rr=>
  cases rr;let#[t,rfl]:=r;exact call_range_1 (Ht I1 ∅ ∅ q1 q2 (by simpa using q))
noncomputable def XI(wi:TI)(g:TG)(tb:TS):TS:=λD σ H=>wi σ H λJ H1=>∃W:Nat->Nat->St->Hp->Prop,(∃m,W 0 m σ H1)/\∀i m σ H,W i m σ H ->
 (J.stop i H/\D.nx σ H)\/(J.go i H/\∃N:St->Hp->Prop,(∀σ' H',N σ' H'->∃m',m'<m/\W (i+1) m' σ' H')/\∀x H',J.Ts i H x H'->g x σ H' λσ2 H2=>tb {D with nx:=N,ct:=N,bk:=D.nx} σ2 H2)
noncomputable def sM(fp:List Addr)(h:Heap):List (Addr×Obj):=fp.filterMap λb=>(h.get? b).map λo=>(b,o)
theorem nB{fp:List Addr}{h:Heap}{b:Addr}{o:Obj}(hb:b∈fp)(e:h.get? b=some o):(b,o)∈sM fp h:=lZ.mpr #[b,hb,by rw[e];rfl]
theorem Fi(hp:p∈sM fp h):p.1∈fp/\h.get? p.1=some p.2:=by
 let#[b,hb,e]:=lZ.mp hp;cases q:h.get? b with
 |none=>rw[q] at e;cases e
 |some o=>
  rw[q] at e;have e':(b,o)=p:=aL e;subst e';exact#[hb,q]
theorem Inv.pinned{pZ:List (Addr×Obj)}{σ:St}{H:Hp}{s:az}{fp:List Addr}(I:Inv X pZ σ H s)(hf:∀b∈fp,qC X pZ H b)(ho:∀b∈fp,∃o,s.heap.get? b=some o/\∀v,o.data≠.cell v):Inv X (pZ++sM fp s.heap) σ H s:=
 I.DL λp hp=>(aG.mp hp).elim (λz=>I.pin p (ba _ z)) λz=>by
  let#[hb,e]:=Fi z;let#[f0,f1,f2,_]:=hf p.1 hb;let#[o,e',d]:=ho p.1 hb;rw[e] at e';cases e';exact#[e,f0,f1,f2,d]
theorem Inv.rB{pZ pl:List (Addr×Obj)}{σ:St}{H:Hp}{s:az}(I:Inv X (pZ++pl) σ H s):Inv X pZ σ H s:=I.DL λp hp=>I.pin p (ba _ (bR _ hp))
theorem OQ{iter:Expr}{body:List Stmt}{wi:TI}{g:TG}{tb:TS}{pos:Pos}(hp:Gz (bb X.prog X.w) X.A X.env X.xe)(hc:X.calm=true)(hi:PI X tg iter wi)(hg:PG X tg g)(hb:wH X body tb)
  (hs:∀x,foldedSetIterable iter X.env x=pure x:=by intro _;rfl):PS X (.For tg iter body [] pos) (XI wi g tb):=by
 intro pZ s σ H D I h;rwa[wpAny_For (eT (hi pZ s σ H _ I h) λv s1 h1=>eT h1 λitv s2 h2=>?_) hs];let#[it,fp,tn,J,H2,e,I2,T,st2,f2,W,#[m0,w0],turn]:=h2;subst e;have stat:∀{H':Hp},(∀b∈fp,H' b=none)->∀b∈fp,qC X pZ H' b:=λhn b hb=>#[hn b hb,(f2 b hb).2]
 rwa[codeAny_forLoop_any (λn s'=>∃i σ' H',Inv X pZ σ' H' s'/\tn i s'.heap/\(∀b∈fp,H' b=none)/\W i n σ' H') ?_ m0 #[0,σ,H2,I2,st2,λb hb=>(f2 b hb).1,w0]];rintro n s3 ⟨i,σ3,H3,I3,st3,fr3,w3⟩;rcases turn i n σ3 H3 w3 with⟨stop,qn⟩|⟨go,N,hN,step⟩
 .rwa[hJ hp (eT (T.done X rfl rfl rfl hc i pZ s3 σ3 H3 X.xe I3 (stat fr3) st3 stop) λr s4 h9=>?_)]
  let#[hr,I4]:=h9;subst hr;erw[qQ #[σ3,H3,I4,qn]]
 .rwa[hJ hp (eT (T.item X rfl rfl rfl hc i pZ s3 σ3 H3 X.xe I3 (stat fr3) st3 go) λr s4 h9=>?_)]
  let#[u,hr,h4]:=h9;subst hr;refine hJ hp (eT h4 λ_ s5 h9=>?_);let#[x,H5,I5,r5,y5,st5,fr5]:=h9;have I5':=I5.pinned (stat fr5) (T.obj _ _ st5);refine hJ hp (eT (hg _ s5 σ3 H5 x u _ I5' r5 (step x H5 y5)) λ_ s6 h9=>?_);let#[σ6,H6,I6,q6]:=h9;refine hJ hp (eT (hb _ s6 σ6 H6 _ I6 q6) λf s7 q7=>?_);have again:∀{σ7:St}{H7:Hp},Inv X (pZ++sM fp s5.heap) σ7 H7 s7->N σ7 H7->∃m,m<n/\∃i σ' H',Inv X pZ σ' H' s7/\tn i s7.heap/\(∀b∈fp,H' b=none)/\W i m σ' H':=λ{σ7 H7}I7 n7=>by
   let#[m',hm,w7]:=hN σ7 H7 n7;refine#[m',hm,i+1,σ7,H7,I7.rB,T.keep _ _ _ st5 λb hb o e=>(I7.pin (b,o) (ba _ (ba _ (nB hb e)))).1,λb hb=>?_,w7];let#[o,e,d]:=T.obj _ _ st5 b hb;exact(I7.pin (b,o) (ba _ (ba _ (nB hb e)))).2.1
  cases f with
  |next=>let#[σ7,H7,I7,n7]:=q7;erw[again I7 n7]
  |cont=>let#[σ7,H7,I7,n7]:=q7;erw[again I7 n7]
  |brk=>let#[σ7,H7,I7,q7]:=q7;exact#[σ7,H7,I7.rB,q7]
  |ret v=>let#[x7,σ7,H7,I7,r7,q7]:=q7;exact#[x7,σ7,H7,I7.rB,r7,q7]
end
abbrev R2:=V->V->Hp->VK->Prop
def iI(X:Cx)(f:Value->Value->Sem Value)(r:R2):Prop:=
 ∀(pZ:List (Addr×Obj))(s:az)(σ:St)(H:Hp)(x y:V)(v u:Value)(Q:VK),Inv X pZ σ H s->RelV x v->RelV y u->r x y H Q ->
  wpAny (bb X.prog X.w) X.A (f v u) (EP X pZ σ Q) X.xe s
def XJ(X:Cx)(f:Value->Sem Value)(r:V->Hp->VK->Prop):Prop:=
 ∀(pZ:List (Addr×Obj))(s:az)(σ:St)(H:Hp)(x:V)(v:Value)(Q:VK),Inv X pZ σ H s->RelV x v->r x H Q ->
  wpAny (bb X.prog X.w) X.A (f v) (EP X pZ σ Q) X.xe s
def iN(X:Cx)(f:Value)(r:List V->Hp->VK->Prop):Prop:=
 ∀(pZ:List (Addr×Obj))(s:az)(σ:St)(H:Hp)(xs:List V)(us:List Value)(Q:VK),Inv X pZ σ H s->Vals xs us->r xs H Q ->
  wpAny (bb X.prog X.w) X.A (call f us) (EP X pZ σ Q) X.xe s
def XM(X:Cx)(r:V->Hp->(Bool->Hp->Prop)->Prop):Prop:=
 ∀(pZ:List (Addr×Obj))(s:az)(σ:St)(H:Hp)(x:V)(v:Value)(Q:Bool->Hp->Prop),Inv X pZ σ H s->RelV x v->r x H Q ->
  wpAny (bb X.prog X.w) X.A (truthy v) (TP X pZ σ Q) X.xe s
noncomputable def WX(r:R2)(ta tb:TE):TE:=λσ H Q=>ta σ H λx H1=>tb σ H1 λy H2=>r x y H2 Q
def tUn(r:V->Hp->VK->Prop)(ta:TE):TE:=λσ H Q=>ta σ H λx H1=>r x H1 Q
noncomputable def rI(C:Int->Int->Prop)(g:Int->Int->V):R2:=λx y H Q=>∃i j,x=.int i/\y=.int j/\C i j/\Q (g i j) H
noncomputable def Fj(g:Int->Int->V):R2:=λx y H Q=>∃i j,x=.int i/\y=.int j/\Q (g i j) H
def rU(g:Int->V):V->Hp->VK->Prop:=λx H Q=>∃i,x=.int i/\Q (g i) H
section
variable{X:Cx}{a b c:Expr}{ta tb tc:TE}{pos:Pos}
theorem OR(ha:PE X a ta)(hb:PE X b tb){pZ:List (Addr×Obj)}{s:az}{σ:St}{H:Hp}{R:V->V->Hp->Prop}(I:Inv X pZ σ H s)
  (h:ta σ H λx H1=>tb σ H1 λy H2=>R x y H2){Q:Value->az->Prop}{f:Value->Value->Sem Value}
  (hf:∀v u s2 x y H2,Inv X pZ σ H2 s2->RelV x v->RelV y u->R x y H2->wpAny (bb X.prog X.w) X.A (f v u) Q X.xe s2):
  wpAny (bb X.prog X.w) X.A (eval a X.env) (λv s₁=>wpAny (bb X.prog X.w) X.A (eval b X.env) (λu s₂=>wpAny (bb X.prog X.w) X.A (f v u) Q X.xe s₂) X.xe s₁) X.xe s:=by
 rwa[eT (ha pZ s σ H _ I h) λv s1 h9=>?_]
 let#[x,H1,I1,r1,q1]:=h9;rwa[eT (hb pZ s1 σ H1 _ I1 q1) λu s2 h9=>?_]
 let#[y,H2,I2,r2,q2]:=h9;erw[hf v u s2 x y H2 I2 r1 r2 q2]
theorem Tv{op:nj}{r:R2}(ho:iI X (cL op) r)(ha:PE X a ta)(hb:PE X b tb):PE X (.BinOp a op b pos) (WX r ta tb):=by
 k_go;erw[wpAny_BinOp (OR ha hb I h λv u s2 x y H2 I2 rx ry q=>ho pZ s2 σ H2 x y v u Q I2 rx ry q)]
theorem Tw{op:UnaryOp}{r:V->Hp->VK->Prop}(ho:XJ X (unaryOp op) r)(ha:PE X a ta):PE X (.UnaryOp op a pos) (tUn r ta):=by
 k_go;rwa[UnaryOp_ (eT (ha pZ s σ H _ I h) λv s1 h9=>?_)];let#[x,H1,I1,r1,q1]:=h9;erw[ho pZ s1 σ H1 x v Q I1 r1 q1]
theorem Tz{f:Value->Value->Sem Value}{C:Int->Int->Prop}{g:Int->Int->Int}
  (rule:∀(i j:Int)(t u:Tok)(s:az)(Q:Value->az->Prop)(E:Value->az->Prop),C i j->Q (.int (g i j) s.toks) {s with toks:=s.toks+1}->wpAny (bb X.prog X.w) X.A (f (.int i t) (.int j u)) Q E s):
  iI X f (rI C λi j=>.int (g i j)):=by
 x_go;let#[i,j,rfl,rfl,hc,q]:=h;let#[t,rfl]:=rx;let#[t',rfl]:=ry;erw[rule i j t t' s _ _ hc #[.int (g i j),H,I.tok _,#[_,rfl],q]]
theorem Cp{f:Value->Value->Sem Value}{g:Int->Int->Int}
  (rule:∀(i j:Int)(t u:Tok)(s:az)(Q:Value->az->Prop)(E:Value->az->Prop),Q (.int (g i j) s.toks) {s with toks:=s.toks+1}->wpAny (bb X.prog X.w) X.A (f (.int i t) (.int j u)) Q E s):
  iI X f (Fj λi j=>.int (g i j)):=by
 x_go;let#[i,j,rfl,rfl,q]:=h;let#[t,rfl]:=rx;let#[t',rfl]:=ry;erw[rule i j t t' s _ _ #[.int (g i j),H,I.tok _,#[_,rfl],q]]
theorem Lf{f:Value->Value->Sem Value}{g:Int->Int->Bool}
  (rule:∀(i j:Int)(t u:Tok)(s:az)(Q:Value->az->Prop)(E:Value->az->Prop),Q (.bool (g i j)) s->wpAny (bb X.prog X.w) X.A (f (.int i t) (.int j u)) Q E s):
  iI X f (Fj λi j=>.bl (g i j)):=by
 x_go;let#[i,j,rfl,rfl,q]:=h;let#[t,rfl]:=rx;let#[t',rfl]:=ry;erw[rule i j t t' s _ _ #[.bl (g i j),H,I,rfl,q]]
def XO(i j:Int):Prop:=0<j/\j<1073741824
def XQ(i j:Int):Prop:=0<=j/\j<=1000000/\i.natAbs<2^64
def OS(i j:Int):Prop:=(-(2^64)<i/\i<2^64)\/(-(2^64)<j/\j<2^64)
theorem OS.ok{i j:Int}(h:OS i j):IntMulOk i j:=by
 rcases h with⟨h1,h2⟩|⟨h1,h2⟩
 .erw[.of_left (intBits_le_64 h1 h2)]
 .erw[.of_right (intBits_le_64 h1 h2)]
theorem two_pow_nn(k:Nat):(0:Int)<=2^k:=by
 rw[two_pow_cast]
 erw[Int.natCast_nonneg _]
theorem OT:iI X (cL .Add) (Fj λi j=>.int (i+j)):=Cp λ_ _ _ _ _ _ _ q=>add_int q
theorem OU:iI X (cL .Sub) (Fj λi j=>.int (i-j)):=Cp λ_ _ _ _ _ _ _ q=>sub_int q
theorem OV:iI X (cL .Mult) (rI OS λi j=>.int (i*j)):=Tz λ_ _ _ _ _ _ _ hc q=>mul_int q hc.ok
theorem Lg:iI X (cL .FloorDiv) (rI XO λi j=>.int (i/j)):=Tz λi j _ _ _ _ _ hc q=>by
 have h1:(0:Int)<j:=hc.1;have h2:j<1073741824:=hc.2;erw[floordiv_int ∅ (by rw[yt i ∅];exact q) (.inl (PyProof.noPylong_small ∅))]
theorem OW:iI X (cL .Mod) (rI (λ_ j=>0<j) λi j=>.int (i%j)):=Tz λi j _ _ _ _ _ hc q=>by
 have h1:(0:Int)<j:=hc;erw[mod_int' ∅ (by rw[Int.fmod_eq_emod_of_nonneg i ∅];exact q)]
theorem OX:iI X (cL .LShift) (rI XQ λi j=>.int (i*2^j.toNat)):=Tz λ_ _ _ _ _ _ _ hc q=>lshift_int_small hc.1 hc.2.1 hc.2.2 q
theorem OY:iI X (cL .RShift) (rI (λ_ j=>0<=j) λi j=>.int (i/2^j.toNat)):=Tz λi j _ _ _ _ _ hc q=>
 rshift_int hc (by rw[yt i (two_pow_nn _)];erw[q])
theorem OZ:iI X (cL .BitAnd) (Fj λi j=>.int (Builtin.bitAnd i j)):=Cp λ_ _ _ _ _ _ _ q=>and_int q
theorem TB:iI X (cL .BitOr) (Fj λi j=>.int (Builtin.bitOr i j)):=Cp λ_ _ _ _ _ _ _ q=>or_int q
theorem Lh:iI X (iB .Add) (Fj λi j=>.int (i+j)):=Cp λ_ _ _ _ _ _ _ q=>iadd_int q
theorem Li:iI X (iB .Sub) (Fj λi j=>.int (i-j)):=Cp λ_ _ _ _ _ _ _ q=>isub_int q
theorem O0:iI X (iB .BitOr) (Fj λi j=>.int (Builtin.bitOr i j)):=Cp λ_ _ _ _ _ _ _ q=>ior_int q
theorem unI{f:Value->Sem Value}{g:Int->Int}
  (rule:∀(i:Int)(t:Tok)(s:az)(Q:Value->az->Prop)(E:Value->az->Prop),Q (.int (g i) s.toks) {s with toks:=s.toks+1}->wpAny (bb X.prog X.w) X.A (f (.int i t)) Q E s):
  XJ X f (rU λi=>.int (g i)):=by
 intro pZ s σ H x v Q I rx h;let#[i,rfl,q]:=h;let#[t,rfl]:=rx;erw[rule i t s _ _ #[.int (g i),H,I.tok _,#[_,rfl],q]]
theorem O1:XJ X (unaryOp .USub) (rU λi=>.int (-i)):=unI λ_ _ _ _ _ q=>neg_int q
end
noncomputable def O2:V->V->Bool
 |.bQ,.bQ=>true|.bQ,.int _=>true|.int _,.bQ=>true|.bQ,.bl _=>true|.bl _,.bQ=>true|.bQ,.str _=>true|.str _,.bQ=>true
 |.int _,.int _=>true|.bl _,.bl _=>true|.str _,.str _=>true|.BX _,.BX _=>true
 |.int _,.str _=>true|.str _,.int _=>true|.bl _,.str _=>true|.str _,.bl _=>true
 |_,_=>false
def rEq:R2:=λx y H Q=>O2 x y=true/\Q (.bl (decide (x=y))) H
def rNe:R2:=λx y H Q=>O2 x y=true/\Q (.bl (!decide (x=y))) H
theorem yJ:decide (V.int i=V.int j)=(i==j):=by
 rw[cJ]
 simp
theorem Cq:decide (V.bl i=V.bl j)=(i==j):=by
 rw[cJ]
 simp
theorem DN:decide (V.str i=V.str j)=(i==j):=by
 rw[cJ]
 simp
theorem DO:decide (V.BX i=V.BX j)=(i.toList==j.toList):=by
 rw[cJ]
 cases i;cases j;simp
section
variable{X:Cx}{a b c:Expr}{ta tb tc:TE}{pos:Pos}
theorem cP(I:Inv X pZ σ H s)(q:Q (.bl k) H)(e:k=k'):EP X pZ σ Q (.bool k') s:=by
 subst e;exact#[.bl k,H,I,rfl,q]
theorem TC:iI X (bH .Eq) rEq:=by
 x_go;let#[hs,q]:=h;cases x with
 |bQ=>
  cases rx;cases y with
  |bQ=>cases ry;erw[PySem.EqNone.eq_none_none (cP I q (by simp))]
  |bl j=>cases ry;erw[PySem.EqNone.eq_none_bool (cP I q (by simp))]
  |int j=>let#[t',rfl]:=ry;erw[PySem.EqNone.eq_none_int (cP I q (by simp))]
  |str j=>let#[t',rfl]:=ry;erw[PySem.EqNone.eq_none_str (cP I q (by simp))]
  |_=>erw[absurd (show false=true from hs) aV]
 |bl i=>
  cases rx;cases y with
  |bQ=>cases ry;erw[PySem.EqNone.eq_bool_none (cP I q (by simp))]
  |bl j=>cases ry;erw[eq_bool (cP I q Cq)]
  |str j=>let#[t',rfl]:=ry;erw[PySem.EqMixed.eq_bool_str (cP I q (by simp))]
  |_=>erw[absurd (show false=true from hs) aV]
 |int i=>
  let#[t,rfl]:=rx;cases y with
  |bQ=>cases ry;erw[PySem.EqNone.eq_int_none (cP I q (by simp))]
  |int j=>let#[t',rfl]:=ry;erw[eq_int (cP I q yJ)]
  |str j=>let#[t',rfl]:=ry;erw[PySem.EqMixed.eq_int_str (cP I q (by simp))]
  |_=>erw[absurd (show false=true from hs) aV]
 |str i=>
  let#[t,rfl]:=rx;cases y with
  |bQ=>cases ry;erw[PySem.EqNone.eq_str_none (cP I q (by simp))]
  |bl j=>cases ry;erw[PySem.EqMixed.eq_str_bool (cP I q (by simp))]
  |int j=>let#[t',rfl]:=ry;erw[PySem.EqMixed.eq_str_int (cP I q (by simp))]
  |str j=>let#[t',rfl]:=ry;erw[eq_str (cP I q DN)]
  |_=>erw[absurd (show false=true from hs) aV]
 |BX i=>
  let#[t,rfl]:=rx;cases y with
  |BX j=>let#[t',rfl]:=ry;erw[PySem.W.eq_bytes (cP I q DO)]
  |_=>erw[absurd (show false=true from hs) aV]
 |_=>cases y<;>exact absurd (show false=true from hs) aV
theorem TF:iI X (bH .NotEq) rNe:=by
 x_go;let#[hs,q]:=h;cases x with
 |bQ=>
  cases rx;cases y with
  |bQ=>cases ry;erw[PySem.EqNone.ne_none_none (cP I q (by simp))]
  |bl j=>cases ry;erw[PySem.EqNone.ne_none_bool (cP I q (by simp))]
  |int j=>let#[t',rfl]:=ry;erw[PySem.EqNone.ne_none_int (cP I q (by simp))]
  |str j=>let#[t',rfl]:=ry;erw[PySem.EqNone.ne_none_str (cP I q (by simp))]
  |_=>erw[absurd (show false=true from hs) aV]
 |bl i=>
  cases rx;cases y with
  |bQ=>cases ry;erw[PySem.EqNone.ne_bool_none (cP I q (by simp))]
  |bl j=>cases ry;erw[ne_bool (cP I q (congrArg not Cq))]
  |str j=>let#[t',rfl]:=ry;erw[PySem.EqMixed.ne_bool_str (cP I q (by simp))]
  |_=>erw[absurd (show false=true from hs) aV]
 |int i=>
  let#[t,rfl]:=rx;cases y with
  |bQ=>cases ry;erw[PySem.EqNone.ne_int_none (cP I q (by simp))]
  |int j=>let#[t',rfl]:=ry;erw[ne_int (cP I q (congrArg not yJ))]
  |str j=>let#[t',rfl]:=ry;erw[PySem.EqMixed.ne_int_str (cP I q (by simp))]
  |_=>erw[absurd (show false=true from hs) aV]
 |str i=>
  let#[t,rfl]:=rx;cases y with
  |bQ=>cases ry;erw[PySem.EqNone.ne_str_none (cP I q (by simp))]
  |bl j=>cases ry;erw[PySem.EqMixed.ne_str_bool (cP I q (by simp))]
  |int j=>let#[t',rfl]:=ry;erw[PySem.EqMixed.ne_str_int (cP I q (by simp))]
  |str j=>let#[t',rfl]:=ry;erw[ne_str (cP I q (congrArg not DN))]
  |_=>erw[absurd (show false=true from hs) aV]
 |BX i=>
  let#[t,rfl]:=rx;cases y with
  |BX j=>let#[t',rfl]:=ry;erw[PySem.W.ne_bytes (cP I q (congrArg not DO))]
  |_=>erw[absurd (show false=true from hs) aV]
 |_=>cases y<;>exact absurd (show false=true from hs) aV
theorem TH:iI X (bH .Lt) (Fj λi j=>.bl (decide (i<j))):=Lf λ_ _ _ _ _ _ _ q=>lt_int q
theorem TJ:iI X (bH .LtE) (Fj λi j=>.bl (decide (i<=j))):=Lf λ_ _ _ _ _ _ _ q=>le_int q
theorem TK:iI X (bH .Gt) (Fj λi j=>.bl (decide (j<i))):=Lf λ_ _ _ _ _ _ _ q=>gt_int q
theorem TL:iI X (bH .GtE) (Fj λi j=>.bl (decide (j<=i))):=Lf λ_ _ _ _ _ _ _ q=>ge_int q
theorem Fl:iI X (bH .In) (λx y H Q=>∃i j,x=.str i/\y=.str j/\Q (.bl (!(Builtin.Str.occurrences j i 0 j.length 1).isEmpty)) H):=by
 x_go;let#[i,j,rfl,rfl,q]:=h;let#[t,rfl]:=rx;let#[t',rfl]:=ry;erw[in_str (cP I q rfl)]
theorem O3:iI X (bH .Is) (λx y H Q=>y=.bQ/\Q (.bl (decide (x=.bQ))) H):=by
 x_go;let#[rfl,q]:=h;cases ry;refine is_none_gen (cP I q ?_);cases x<;>first
  | (cases rx;rfl)
  | (let#[t,rfl]:=rx;rfl)
theorem Lj:iI X (bH .IsNot) (λx y H Q=>y=.bQ/\Q (.bl (!decide (x=.bQ))) H):=by
 x_go;let#[rfl,q]:=h;cases ry;refine isnot_none_gen (cP I q ?_);cases x<;>first
  | (cases rx;rfl)
  | (let#[t,rfl]:=rx;rfl)
theorem Lk(ho:iI X (bH op) r)(ha:PE X a ta)(hb:PE X b tb)(hm:behindInMarks op b=false):PE X (.Compare a [op] [b] pos) (WX r ta tb):=by
 k_go;erw[wpAny_Compare1 (OR ha hb I h λv u s2 x y H2 I2 rx ry q=>ho pZ s2 σ H2 x y v u Q I2 rx ry q) hm]
noncomputable def TM(t:TE):TT:=λσ H Q=>t σ H λx H'=>∃k,x=.bl k/\Q k H'
theorem Ll{op:CmpOp}{r:R2}(ho:iI X (bH op) r)(ha:PE X a ta)(hb:PE X b tb)(hm:behindInMarks op b=false):PT X (.Compare a [op] [b] pos) (TM (WX r ta tb)):=by
 intro pZ s σ H Q I h;refine wpAny_isTrue_Compare1 (eT (ha pZ s σ H _ I h) λv s1 #[x,H1,I1,r1,q1]=>eT (hb pZ s1 σ H1 _ I1 q1) λu s2 #[y,H2,I2,r2,q2]=>
  eT (ho pZ s2 σ H2 x y v u _ I2 r1 r2 q2) λc s3 #[z,H3,I3,r3,k,e,q3]=>?_) hm
 subst e;cases r3;erw[cY #[H3,I3,q3]]
def O4(K:aI)(x:V)(H:Hp)(k:Bool):Prop:=
 match x with
 |.bQ=>k=false
 |.bl b=>k=b
 |.int i=>k=(i !=0)
 |.str y=>y.length<=sizeLine/\k=((y.length:Int) !=0)
 |.BX y=>y.size<=sizeLine/\k=((y.size:Int) !=0)
 |.ref p=>(∃xs,i3 K H p xs/\k = !xs.isEmpty)\/(∃xs,oq K H p xs/\k = !xs.isEmpty)\/∃kvs,H p=some (.dK kvs)/\k = !kvs.isEmpty
 |_=>False
theorem Cr{κ:Type}{kvs:List (κ×V)}{vs:List (κ×Value)}(r:KV kvs vs):(!vs.isEmpty)= !kvs.isEmpty:=by
 cases r<;>rfl
theorem ve{xs:List V}{its:List Value}(r:Vals xs its):(!its.toArray.isEmpty)= !xs.isEmpty:=by
 cases r<;>simp
theorem oW:(sizeLine:Nat)<2^63:=by rw[lV];decide
theorem O5:XM X (λx H Q=>∃k,O4 X.K x H k/\Q k H):=by
 intro pZ s σ H x v Q I rx h;let#[k,e,q]:=h;have hl:=oW;have hs:sizeLine=16777216:=lV;cases x with
 |bQ=>
  cases rx;have e':k=false:=e;subst e';erw[truthy_none #[H,I,q]]
 |bl b=>
  cases rx;have e':k=b:=e;subst e';erw[cY #[H,I,q]]
 |int i=>
  let#[t,rfl]:=rx;have e':k=(i !=0):=e;subst e';erw[PySem.P.truthy_int #[H,I,q]]
 |str y=>
  let#[t,rfl]:=rx;obtain⟨hy,e'⟩:y.length<=sizeLine/\k=((y.length:Int) !=0):=e;subst e';erw[PySem.P.truthy_str ∅ #[H,I.tok _,q]]
 |BX y=>
  let#[t,rfl]:=rx;obtain⟨hy,e'⟩:y.size<=sizeLine/\k=((y.size:Int) !=0):=e;subst e';erw[PySem.W.truthy_bytes ∅ #[H,I.tok _,q]]
 |ref p=>
  cases rx;have e':(∃xs,i3 X.K H p xs/\k = !xs.isEmpty)\/(∃xs,oq X.K H p xs/\k = !xs.isEmpty)\/∃kvs,H p=some (.dK kvs)/\k = !kvs.isEmpty:=e;rcases e' with⟨xs,hx,e'⟩|⟨xs,hx,e'⟩|⟨kvs,hx,e'⟩
  .subst e'
   let#[its,r,pl,hz]:=I.list hx;have hlen:=r.length;erw[wpAny_truthy_list pl.isList (by dsimp[aH];omega) #[H,I.tok _,by rw[ve r];exact q]]
  .subst e'
   let#[its,r,pl,hz]:=I.tuple hx;have hlen:=r.length;erw[truthy_tuple pl (by dsimp[aH];omega) #[H,I.tok _,by rw[ve r];exact q]]
  .subst e'
   obtain⟨hz,hS,vs,r,m⟩:kvs.length<=sizeLine/\(p==bZ)=false/\∃vs,KV kvs vs/\s.heap.DictOf (cX X.prog X.w) p vs:=I.dm p _ hx;have hlen:kvs.length=vs.length:=Paired.length r;erw[wpAny_truthy_dict hS m ∅ #[H,I.tok _,by rw[Cr r];exact q]]
 |_=>exact(show False from e).elim
theorem Hu(ha:PE X a ta)(he:∀whole,isTrue a X.env whole=(do let v <-whole;standAt a.pos;holding [v] (truthy v))):
  PT X a (λσ H Q=>ta σ H λx H'=>∃k,O4 X.K x H' k/\Q k H'):=by
 k_go;rwa[isTrue_plain (eT (ha pZ s σ H _ I h) λv s1 h9=>?_) (he _)];let#[x,H1,I1,r1,q1]:=h9;erw[O5 pZ s1 σ H1 x v Q I1 r1 q1]
theorem Cs:iI X (cL .Add) (λx y H Q=>∃i j,x=.str i/\y=.str j/\i.length+j.length<=sizeLine/\Q (.str (i++j)) H):=by
 x_go;let#[i,j,rfl,rfl,hz,q]:=h;let#[t,rfl]:=rx;let#[t',rfl]:=ry;erw[add_str (λt' tk=>#[.str (i++j),H,I.tok _,#[_,rfl],q]) hz]
theorem AE:iI X (iB .Add) (λx y H Q=>∃i j,x=.str i/\y=.str j/\i.length+j.length<=sizeLine/\Q (.str (i++j)) H):=by
 x_go;let#[i,j,rfl,rfl,hz,q]:=h;let#[t,rfl]:=rx;let#[t',rfl]:=ry;erw[iadd_str (λt' tk=>#[.str (i++j),H,I.tok _,#[_,rfl],q]) hz]
theorem vals1(r:Vals [x] us):∃u,us=[u]/\RelV x u:=by
 cases r with
 |cons r1 r2=>cases r2;exact#[_,rfl,r1]
def TN(K:aI)(x:V)(H:Hp)(n:Nat):Prop:=
 match x with
 |.str y=>y.length<=sizeLine/\n=y.length
 |.BX y=>y.size<=sizeLine/\n=y.size
 |.ref p=>(∃xs,i3 K H p xs/\n=xs.length)\/∃xs,oq K H p xs/\n=xs.length
 |_=>False
theorem Hv:iN X (.builtin "len") (λxs H Q=>∃x n,xs=[x]/\TN X.K x H n/\Q (.int n) H):=by
 k_ne;let#[x,n,rfl,e,q]:=h;let#[u,rfl,rx]:=vals1 r;have hl:=oW;have hs:sizeLine=16777216:=lV;cases x with
 |str y=>
  let#[t,rfl]:=rx;obtain⟨hy,e'⟩:y.length<=sizeLine/\n=y.length:=e;subst e';erw[len_str ∅ #[.int _,H,I.tok _,#[_,rfl],q]]
 |BX y=>
  let#[t,rfl]:=rx;obtain⟨hy,e'⟩:y.size<=sizeLine/\n=y.size:=e;subst e';erw[PySem.W.len_bytes ∅ #[.int _,H,I.tok _,#[_,rfl],q]]
 |ref p=>
  cases rx;have e':(∃xs,i3 X.K H p xs/\n=xs.length)\/∃xs,oq X.K H p xs/\n=xs.length:=e;rcases e' with⟨xs,hx,e'⟩|⟨xs,hx,e'⟩
  .subst e'
   let#[its,r',pl,hz]:=I.list hx;have hlen:=r'.length;erw[Calls.call_len_list pl.isList (by dsimp[aH];omega) #[.int xs.length,H,I.tok _,#[_,by dsimp[aH];rw[hlen]],q]]
  .subst e'
   let#[its,r',pl,hz]:=I.tuple hx;have hlen:=r'.length;erw[len_tuple pl (by dsimp[aH];omega) #[.int xs.length,H,I.tok _,#[_,by dsimp[aH];rw[hlen]],q]]
 |_=>exact(show False from e).elim
end
structure Ct(h:Heap)(x dx C:Addr)(mA:Str->Option Value):Prop where
 obj:h.get? x=some (dN C dx)
 ns:h.Ns1 dx mA
 ne:dx≠x
theorem Fm{h:Heap}{dx:Addr}{mA:Str->Option Value}(n:h.Ns1 dx mA):∃od,h.get? dx=some od/\∀name,oR name od=some (mA name):=by
 let#[o,es,ep,ho,hd,hk,_,hm]:=n;refine#[o,ho,λname=>?_];have e:=hm name;unfold nsFind findBy at e;rw[<-Array.find?_toList] at e;unfold oR;rw[hd]
 dsimp only;split
 .rename_i y q
  rw[q] at e;erw[congrArg some e]
 .rename_i q
  rw[q] at e;have a:es.toList.any (·.refKey)=false:=by
   rw[List.any_eq_false]
   intro y hy;let#[z,t,hkey]:=hk y (Array.mem_toList_iff.mp hy);simp[DictEntry.refKey,hkey]
  have a':¬es.toList.any (·.refKey)=true:=by rw[a];erw[aV]
  rw[if_neg a']
  erw[congrArg some e]
theorem Ct.look(I:Ct h x dx C mA):∃od,PySem.W.InstAt h x (dN C dx) C (some od)/\∀name,oR name od=some (mA name):=
 let ⟨od,ho,hl⟩:=Fm I.ns
 #[od,#[I.obj,rfl,rfl,ho],hl]
section
variable{prog:bD}{w:cy}{A:dD}{E:Value->az->Prop}{s:az}{K:aI}{x dx C f:Addr}{mA:Str->Option Value}{name:Str}{v:Value}
theorem get_map(X:K.In s.heap)(I:Ct s.heap x dx C mA)(hg:mQ K C name=true)(hh:qY K C=true)
  (ha:eF K (.ref C) name=some none) (hv:mA name=some v) (hv':EY v=true) (h:Q v {s with toks:=s.toks+1}):
  wpAny (bb prog w) A (getAttr (.ref x) name expr) Q E s:=by
 let#[od,J,hl]:=I.look;erw[PySem.W.get_value X J (p8 hg).1 (PySem.W.findObj_own hh ha rfl (by rw[hl,hv])) hv' h]
theorem Hw(X:K.In s.heap)(I:Ct s.heap x dx C mA)(hg:mQ K C name=true)
  (hf:eF K (.ref C) name=some (some (.ref f))) (ht:yu K (.ref f)=true) (hv:mA name=none) (h:Q (.ref f,[.ref x]) s):
  wpAny (bb prog w) A (getMethod (.ref x) name pl) Q E s:=by
 let#[od,J,hl]:=I.look;erw[PySem.W.method_fn X J (p8 hg).1 (p8 hg).2 hf (beq_iff_eq.mp ht) (by show(oR name od).map (·.isSome)=some false;rw[hl,hv];rfl) h]
theorem Lm(X:K.In s.heap)(I:Ct s.heap x dx C mA)
  (hs:eF K (.ref C) "__setattr__"=some (some (.builtin "object.__setattr__"))) (hp:DH K C=true) (ht:ua K C name=some none) (hh:qY K C=true)
  (hw:Aj mA ns) (hsz:ns.length<=sizeLine)
  (h:∀h',Ct h' x dx C (λy=>if y=name then some v else mA y)->gx dx s.heap h'->Q () {s with heap:=h',toks:=s.toks+2}):
  wpAny (bb prog w) A (setAttr (.ref x) name v) Q E s:=by
 let#[od,J,hl]:=I.look;refine PySem.W.set_plain X J hs (PySem.W.osa_open (s:={s with toks:=s.toks+1}) (r:=none) X J hp ht λb=>?_);let#[cd,hc,hd']:=PySem.W.any_some hh;have hx:s.heap.get? x=some #[.ref C,some dx,.plain,#[]]:=I.obj;refine ae (aB (ae (ae (wpAny_loadPart hx (ae (PySem.W.Looks.here (s:={s with toks:=s.toks+1}) (PySem.W.looks_clsIn X hc) ?_))))));rw[hd']
 rwa[aB (a:=some dx) (ae (aB (ae ?_)))];refine wpAny_nsSet1 (s:={s with toks:=s.toks+1}) I.ns λh' hn2 hs2=>?_
 let#[oD,esD,epD,hoD,hdD,hcD]:=hn2.count (PySem.Within.cons name v hw);rwa[ae (wpAny_lookBehind hoD (by rw[hdD];erw[pastItsLine_dict (aJ hcD (by rw[aU];omega))]) ?_)];erw[aB (h _ #[(hs2.2 _ (cC I.ne)).trans I.obj,hn2,I.ne] hs2)]
theorem Hx(X:K.In s.heap)(hm:GB K C=true)
  (hi:eF K (.ref C) "__init__"=some (some (.ref f))) (hf:PySem.W.typeIn K (.ref f)=some (.type "function"))
  (h:qA (bb prog w) (A.under (.builtin "type.__call__" #[.ref C::vs,kw])) (.call (.ref f) #[.ref (s.heap.objs.size+1)::vs,kw]) (PySem.W.InitBack (s.heap.objs.size+1) R)
   {s with heap:=(s.heap.push cQ).push (dN C s.heap.objs.size)}):
  qA (bb prog w) A (.call (.ref C) #[vs,kw]) R s:=by
 let#[hh,g,d,t,os]:=s;erw[PySem.W.make_core (PySem.W.makes_of X hm) (PySem.W.looks_findIn X hi) (λself=>PySem.W.bind_fn X self hf) (.inl rfl) h]
end
noncomputable def kG(f:Str)(v:V):List (Str×V)->List (Str×V)
 |[]=>[(f,v)]
 | (g,x)::r=>if g=f then(g,v)::r else(g,x)::kG f v r
theorem tN(f g:Str)(v:V):∀fs:List (Str×V),(kG f v fs).lookup g=if g=f then some v else fs.lookup g
 |[]=>by
  show f9 g [(f,v)]=_
  by_cases h:g=f
  .have hb:(g==f)=true:=beq_iff_eq.mpr h
   dsimp[f9,hb,if_pos h]
  .have hb:(g==f)=false:=beq_eq_false_iff_ne.mpr h
   dsimp[f9,hb,if_neg h]
 | (k,x)::r=>by
  have ih:=tN f g v r;rw[show kG f v ((k,x)::r)=(if k=f then(k,v)::r else(k,x)::kG f v r) from rfl]
  by_cases hk:k=f
  .rw[if_pos hk]
   by_cases h:g=k
   .have hb:(g==k)=true:=beq_iff_eq.mpr h
    dsimp[f9,hb,if_pos (h.trans hk)]
   .have hb:(g==k)=false:=beq_eq_false_iff_ne.mpr h
    dsimp[f9,hb,if_neg (λe:g=f=>h (e.trans hk.symm))]
  .rw[if_neg hk]
   by_cases h:g=k
   .have hb:(g==k)=true:=beq_iff_eq.mpr h
    dsimp[f9,hb,if_neg (λe:g=f=>hk (h.symm.trans e))]
   .have hb:(g==k)=false:=beq_eq_false_iff_ne.mpr h
    dsimp[f9,hb];erw[ih]
theorem sN(f:Str)(v:V):∀fs:List (Str×V),f∈(kG f v fs).map (·.1)/\∀g,g∈fs.map (·.1)->g∈(kG f v fs).map (·.1)
 |[]=>#[by simp[kG],λg h=>by simp at h]
 | (k,x)::r=>by
  let#[i1,i2]:=sN f v r;rw[show kG f v ((k,x)::r)=(if k=f then(k,v)::r else(k,x)::kG f v r) from rfl]
  by_cases hk:k=f
  .rw[if_pos hk]
   subst hk;exact#[by simp,λg h=>by simpa using h]
  .rw[if_neg hk]
   refine#[?_,λg h=>?_]
   .rw[au]
    erw[aA _ i1]
   .rw[au] at h ⊢
    rcases aN.mp h with e|e
    .erw[aN.mpr (.inl e)]
    .erw[aA _ (i2 g e)]
theorem tO(f:Str)(v:V):∀fs:List (Str×V),(kG f v fs).length<=fs.length+1
 |[]=>by simp[kG]
 | (k,x)::r=>by
  have ih:=tO f v r;rw[show kG f v ((k,x)::r)=(if k=f then(k,v)::r else(k,x)::kG f v r) from rfl]
  by_cases hk:k=f
  .rw[if_pos hk,aU,aU];omega
  .rw[if_neg hk,aU,aU];omega
theorem nA.some_of(r:nA (some v) o):∃u,o=some u/\RelV v u:=by
 cases o with
 |none=>exact(show False from r).elim
 |some u=>exact#[u,rfl,r]
theorem nA.none_of(r:nA none o):o=none:=by
 cases o with
 |none=>rfl
 |some u=>exact(show False from r).elim
theorem Fn(r:RelV v u):EY u=true:=by
 cases v with
 |bQ=>cases (show u=cv from r);rfl
 |bl b=>cases (show u=kr b from r);rfl
 |int i=>let#[t,e]:=(show ∃t,u=lQ i t from r);cases e;rfl
 |str x=>let#[t,e]:=(show ∃t,u=lR x t from r);cases e;rfl
 |BX b=>let#[t,e]:=(show ∃t,u=Value.bytes b t from r);cases e;rfl
 |WR b=>let#[t,e]:=(show ∃t,u=Value.float b t from r);cases e;rfl
 |ref a=>cases (show u=bf a from r);rfl
 |ty n=>cases (show u=Value.type n from r);rfl
section
variable{P:bD}{w:cy}{H H':Hp}{h h':Heap}{a C dx:Addr}{fs fs':List (Str×V)}
theorem yK(dm:oB P w H h)(e:H a=some (.ins C dx fs)):∃mA,Ct h a dx C mA/\(∀f,nA (fs.lookup f) (mA f))/\Aj mA (fs.map (·.1))/\fs.length<=1000/\H dx=some (.own a):=by
 let#[d,z,ne,ob,mA,n,r,q]:=(show dQ P w H h a (.ins C dx fs) from dm a _ e)
 exact#[mA,#[ob,n,ne],r,q,z,d]
end
structure yL(K:aI)(C:Addr):Prop where
 pg:mQ K C Str.empty=true
 hd:qY K C=true
 po:DH K C=true
 sa:eF K (.ref C) "__setattr__"=some (some (.builtin "object.__setattr__"))
theorem yL.get{K:aI}{C:Addr}(c:yL K C)(f:Str):mQ K C f=true:=c.pg
def mF(K:aI)(C:Addr)(f:Str):Prop:=eF K (.ref C) f=some none
theorem mF.TQ{K:aI}{C:Addr}{f:Str}(n:mF K C f):ua K C f=some none:=by
 unfold ua;rw[show eF K (.ref C) f=some none from n]
 rfl
structure Meth(K:aI)(C:Addr)(m:Str)(f:Addr):Prop where
 at_:eF K (.ref C) m=some (some (.ref f))
 fn:yu K (.ref f)=true
 kp:oS K (.ref f)=true
section
variable{X:Cx}{pZ:List (Addr×Obj)}{σ:St}{H:Hp}{s:az}{a C dx:Addr}{fs:List (Str×V)}{f:Str}{v:V}{A:dD}{E:Value->az->Prop}
theorem vf{b:Bool}{Q:Value->az->Prop}(I:Inv X pZ σ H s)(e:H a=some (.ins C dx fs))(c:yL X.K C)(n:mF X.K C f)(l:fs.lookup f=some v)
  (h:∀u s',Inv X pZ σ H s'->RelV v u->Q u s'):wpAny (bb X.prog X.w) A (getAttr (.ref a) f b) Q E s:=by
 let#[mA,O,r,_,_,_]:=yK I.dm e;let#[u,hu,ru]:=nA.some_of (v:=v) (o:=mA f) (by rw[<-l];erw[r f]);erw[get_map I.BY O (c.get f) c.hd n hu (Fn ru) (h u _ (I.tok _) ru)]
theorem vg{m:Str}{g:Addr}{pl:Sem Bool}{Q:Value×List Value->az->Prop}(I:Inv X pZ σ H s)(e:H a=some (.ins C dx fs))(c:yL X.K C)(k:Meth X.K C m g)(l:fs.lookup m=none)
  (h:Q (.ref g,[.ref a]) s):wpAny (bb X.prog X.w) A (getMethod (.ref a) m pl) Q E s:=by
 let#[mA,O,r,_,_,_]:=yK I.dm e;have hn:mA m=none:=nA.none_of (by rw[<-l];erw[r m]);erw[Hw I.BY O (c.get m) k.at_ k.fn hn h]
theorem vh{y:V}{u:Value}{Q:Unit->az->Prop}(I:Inv X pZ σ H s)(e:H a=some (.ins C dx fs))(c:yL X.K C)(n:mF X.K C f)(hl:fs.length<1000)(ry:RelV y u)
  (h:∀s',Inv X pZ σ (upd H a (.ins C dx (kG f y fs))) s'->Q () s'):wpAny (bb X.prog X.w) A (setAttr (.ref a) f u) Q E s:=by
 let#[mA,O,r,wi,_,ho]:=yK I.dm e;have hz:(fs.map (·.1)).length<=sizeLine:=by rw[af,lV];omega
 rwa[Lm I.BY O c.sa c.po n.TQ c.hd wi hz λh' O' sb=>h _ ?_]
 have hd:∃o,h'.get? dx=some o:=let ⟨o,_,_,e',_⟩:=O'.ns;#[o,e'];rwa[I.write (x:=a) (e:=dx) (by rw[e];erw[eM]) (.inr ho) (λb q hb z=>(sb.2 b hb).trans z) hd ?_];refine#[by rw[b9 O.ne];erw[ho],?_,O.ne,O'.obj,_,O'.ns,λg=>?_,λg hg=>?_]
 .have:=tO f y fs;omega
 .show nA ((kG f y fs).lookup g) (if g=f then some u else mA g)
  rw[tN]
  by_cases q:g=f
  .rw[if_pos q,if_pos q];erw[ry]
  .rw[if_neg q,if_neg q];erw[r g]
 .by_cases q:g=f
  .rw[q];exact(sN f y fs).1
  .refine(sN f y fs).2 g (wi g λz=>hg ?_)
   show(if g=f then some u else mA g)=none
   rw[if_neg q];erw[z]
theorem Inv.made(I:Inv X pZ σ H s):Inv X pZ σ (upd (upd H s.heap.objs.size (.own (s.heap.objs.size+1))) (s.heap.objs.size+1) (.ins C s.heap.objs.size []))
  {s with heap:=(s.heap.push cQ).push (dN C s.heap.objs.size)}:=by
 have e1:(s.heap.push cQ).get? s.heap.objs.size=some cQ:=a9 s.heap rfl;have e2:((s.heap.push cQ).push (dN C s.heap.objs.size)).get? (s.heap.objs.size+1)=some (dN C s.heap.objs.size):=by
  have:=a9 (s.heap.push cQ) (o:=dN C s.heap.objs.size) rfl
  rwa [iC] at this
 have e3:(s.heap.push cQ).Ns s.heap.objs.size (λ_=>none):=#[cQ,#[],_,e1,rfl,(λe he=>absurd he (by simp)),λ_=>rfl]
 have I1:=I.laid (a:=s.heap.objs.size) (o:=.own (s.heap.objs.size+1)) (h':=s.heap.push cQ) (t':=s.toks) (λb u q=>aF _ q) (ak _) #[_,e1];rwa[I1.laid (a:=s.heap.objs.size+1) (o:=.ins C s.heap.objs.size []) (t':=s.toks) (λb u q=>aF _ q) (Ca (iC _ _)) ?_];have ne:s.heap.objs.size≠s.heap.objs.size+1:=aY (dg _);refine#[by rw[b9 ne,cg],bX _,ne,e2,λ_=>none,(Heap.Ns1.of_empty e3).at λo q=>aF _ q,λ_=>eM,λy hy=>absurd rfl hy]
theorem Ln{prog:bD}{w:cy}{env:Env}{e:Expr}{f:Str}{pos:Pos}{s:az}{Q:Value->az->Prop}(hb:iD e f env (eval e env)=eval e env)
  (h:wpAny (bb prog w) A (eval e env) (λo s₁=>wpAny (bb prog w) A (getAttr o f true) Q E s₁) E s):wpAny (bb prog w) A (eval (.Attribute e f pos) env) Q E s:=
 Attribute_any_ h (by rw[arm_eval_Attribute,hb])
end
def XR(K:aI)(ta:TE)(f:Str):TE:=λσ H Q=>ta σ H λx H1=>∃a C dx fs v,x=.ref a/\H1 a=some (.ins C dx fs)/\yL K C/\mF K C f/\fs.lookup f=some v/\Q v H1
def XS(K:aI)(ta tv:TE)(f:Str):TS:=λD σ H=>tv σ H λy H1=>ta σ H1 λx H2=>∃a C dx fs,x=.ref a/\H2 a=some (.ins C dx fs)/\yL K C/\mF K C f/\fs.length<1000 /\
 D.nx σ (upd H2 a (.ins C dx (kG f y fs)))
def XT(X:Cx)(op:nj)(rd:V->V->Hp->VK->Prop):Prop:=
 ∀(pZ:List (Addr×Obj))(s:az)(σ:St)(H:Hp)(x y:V)(u v:Value)(Q:VK),Inv X pZ σ H s->RelV x u->RelV y v->rd x y H Q->wpAny (bb X.prog X.w) X.A (iB op u v) (EP X pZ σ Q) X.xe s
def Lo(K:aI)(ta tv:TE)(rd:V->V->Hp->VK->Prop)(f:Str):TS:=λD σ H=>ta σ H λx H1=>∃a C dx fs v,x=.ref a/\H1 a=some (.ins C dx fs)/\yL K C/\mF K C f/\fs.lookup f=some v /\
 tv σ H1 λy H2=>rd v y H2 λz H3=>∃dx' fs',H3 a=some (.ins C dx' fs')/\fs'.length<1000/\D.nx σ (upd H3 a (.ins C dx' (kG f z fs')))
section
variable{X:Cx}{o e value:Expr}{f:Str}{pos pos' tpos:Pos}{ta tv:TE}
theorem O6(he:PE X e ta)(hb:iD e f X.env (eval e X.env)=eval e X.env):PE X (.Attribute e f pos) (XR X.K ta f):=by
 k_go;rwa[Ln hb (eT (he pZ s σ H _ I h) λu s1 h9=>?_)];let#[x,H1,I1,rx,a,C,dx,fs,v,ex,ea,c,n,l,q]:=h9;subst ex;obtain rfl:u=bf a:=rx;erw[vf I1 ea c n l λu' s2 I2 ru=>#[v,H1,I2,ru,q]]
theorem O7(ha:PE X o ta)(hv:PE X value tv)(hs:iA value (some (.Attribute o f pos')) pos.line X.env=pure false):PS X (.Assign [.Attribute o f pos'] value pos) (XS X.K ta tv f):=by
 intro pZ s σ H D I h;rwa[plainObj_wpAny_Assign_Attribute (eT (hv pZ s σ H _ I h) λu s1 h9=>?_) hs];let#[y,H1,I1,ry,q]:=h9;rwa[eT (ha pZ s1 σ H1 _ I1 q) λov s2 h9=>?_]
 let#[x,H2,I2,rx,a,C,dx,fs,ex,ea,c,n,l,q2]:=h9;subst ex;obtain rfl:ov=bf a:=rx;erw[vh I2 ea c n l ry λs3 I3=>#[σ,_,I3,q2]]
theorem Fo{op:nj}{rd:V->V->Hp->VK->Prop}(ha:PE X o ta)(hv:PE X value tv)(hop:XT X op rd):PS X (.AugAssign (.Attribute o f tpos) op value pos) (Lo X.K ta tv rd f):=by
 intro pZ s σ H D I h;rwa[wpAny_AugAssign_AttributeAny (eT (ha pZ s σ H _ I h) λov s1 h9=>?_)];let#[x,H1,I1,rx,a,C,dx,fs,v,ex,ea,c,n,l,q]:=h9;subst ex;obtain rfl:ov=bf a:=rx;rwa[vf I1 ea c n l λu s2 I2 ru=>eT (hv pZ s2 σ H1 _ I2 q) λw3 s3 h9=>?_]
 let#[y,H2,I3,ry,q3]:=h9;rwa[eT (hop pZ s3 σ H2 v y u w3 _ I3 ru ry q3) λw4 s4 h9=>?_]
 let#[z,H3,I4,rz,dx',fs',ea',l',q4]:=h9;erw[vh I4 ea' c n l' rz λs5 I5=>#[σ,_,I5,q4]]
end
structure kH(k:Nat)(A:dD):Prop where
 hd:A.handled=none
 dp:A.depth+3*k+5<recursionLimit
 un:A.units+16*k+200<fF
theorem kH.mono(r:kH k A)(h:j<=k):kH j A:=#[r.hd,by have:=r.dp;omega,by have:=r.un;omega]
theorem kH.deeper(r:kH (k+1) A)(env:Env):kH k (A.deeper env):=
 #[r.hd,by have:=r.dp;show A.depth+1+3*k+5<_;omega,by have:=r.un;show A.units+3+16*k+200<_;omega]
theorem Cu{A:dD}{C:Addr}{us:List Value}{kw:List (Str×Value)}:(A.under (.builtin "type.__call__" #[.ref C::us,kw])).depth=A.depth+1:=by
 first|rfl|simp[zV,Code.weight,Code.isCreation,Code.isGuard,Code.isCaller,Code.frames,BO,guardIds]
theorem Cv{A:dD}{C:Addr}{us:List Value}{kw:List (Str×Value)}:(A.under (.builtin "type.__call__" #[.ref C::us,kw])).units=A.units+1:=by
 first|rfl|simp[zV,Code.cUnits,Code.frames,BO]
theorem kH.make(r:kH (k+1) A)(C:Addr)(us:List Value)(kw:List (Str×Value)):kH k (A.under (.builtin "type.__call__" #[.ref C::us,kw])):=
 #[r.hd,by have:=r.dp;rw[Cu];omega,by have:=r.un;rw[Cv];omega]
theorem kH.depth(r:kH k A):A.depth<recursionLimit:=by have:=r.dp;omega
noncomputable def XU:TA:=λ_ H Q=>Q [] H
noncomputable def TR(ta:TE)(tr:TA):TA:=λσ H Q=>ta σ H λx H1=>tr σ H1 λxs H2=>Q (x::xs) H2
section
variable{X:Cx}{e:Expr}{es:List Expr}{te:TE}{t:TA}{pos:Pos}
theorem yM:PA X [] XU:=λ_ _ _ _ H Q I h=>mP #[[],H,I,.nil,h]
theorem uA(ha:PE X e te)(hr:PA X es t)(hs:bV (e::es) X.env=(false,eval e X.env)::bV es X.env:=by rfl):PA X (e::es) (TR te t):=by
 intro pos pZ s σ H Q I h;rw[hs]
 show wpAny _ _ (spliced ((false,eval e X.env)::iH pos (bV es X.env))) _ _ s
 rwa[jc (eT (ha pZ s σ H _ I h) λu s1 h9=>?_)];let#[x,H1,I1,r1,q1]:=h9;rwa[eT (hr pos pZ s1 σ H1 _ I1 q1) λus s2 h9=>?_]
 let#[xs,H2,I2,r2,q2]:=h9;exact#[x::xs,H2,I2,.cons r1 r2,q2]
def XW(t:TA):TE:=λσ H Q=>t σ H λxs H1=>xs.length<=sizeLine/\∀p,H1 p=none->Q (.ref p) (upd H1 p (.tup xs))
def XX(t:TA):TE:=λσ H Q=>t σ H λxs H1=>xs.length<=sizeLine/\∀p,H1 p=none->Q (.ref p) (upd H1 p (.lst xs))
theorem O8{x1}(h:PA X es t):PE X (.Tuple es x1 pos) (XW t):=by
 intro pZ s σ H Q I hq;rwa[wpAny_Tuple_spliced (eT (h pos pZ s σ H _ I hq) λus s1 h9=>?_)];let#[xs,H1,I1,r,z,q]:=h9;refine#[by rw[<-r.length];erw[z],?_];have hf:H1 s1.heap.objs.size=none:=I1.dm.fresh (ak _);refine#[.ref s1.heap.objs.size,upd H1 s1.heap.objs.size (.tup xs),I1.laid (t':=s1.toks) (λb u e=>aF _ e) (ak _) ?_,rfl,q _ hf];exact#[z,us,r,Aw.new _ _]
theorem O9(h:PA X es t):PE X (.List es pos) (XX t):=by
 intro pZ s σ H Q I hq;rwa[wpAny_List_spliced (eT (h pos pZ s σ H _ I hq) λus s1 h9=>?_)];let#[xs,H1,I1,r,z,q]:=h9;refine#[by rw[<-r.length];erw[z],?_];have hf:H1 s1.heap.objs.size=none:=I1.dm.fresh (ak _);refine#[.ref s1.heap.objs.size,upd H1 s1.heap.objs.size (.lst xs),I1.laid (t':=s1.toks) (λb u e=>aF _ e) (ak _) ?_,rfl,q _ hf];exact#[z,us,0,r,a9 _ rfl]
end
abbrev Sp:=List V->Hp->VK->XK->Prop
abbrev Hy:=List Env->Hp->az->XK->Value->az->Prop
structure Cw(P:bD)(w:cy)(K:aI)(mg:Str->Option Value)(base:Heap)(A:dD)(outer:List Env)(s:az)(H:Hp):Prop where
 frames:A.frames=some outer
 mod:Mod K mg base
 bs:∀b o,base.get? b=some o->s.heap.get? b=some o/\H b=none
 Hm:base.objs.size<=s.heap.objs.size
 rj:s.heap.FunFrames base outer
 K9:∀b∈wG outer,H b=none
 dm:oB P w H s.heap
 bare:oM s.gens
def CE(outer:List Env)(P:bD)(w:cy)(H:Hp)(s:az)(Q:VK)(u:Value)(s':az):Prop:=
 ∃v H',s'.os=s.os/\oM s'.gens/\Un (wG outer) [] H H' s.heap s'.heap/\oB P w H' s'.heap/\RelV v u/\Q v H'
def CR(CX:Hy)(outer:List Env)(P:bD)(w:cy)(H:Hp)(s:az)(Q:VK)(E:XK)(r:Result)(s':az):Prop:=
 match r with
 |.ok (.ret u)=>CE outer P w H s Q u s'
 |.ok _=>False
 |.error e=>CX outer H s E e s'
structure kI(P:bD)(w:cy)(K:aI)(mg:Str->Option Value)(base:Heap)(CX:Hy)(k:Nat)(f:Addr)(fd:fq)(ps:List Str)(sp:Sp):Prop where
 len:∀vs H Q E,sp vs H Q E->vs.length=ps.length
 run:∀(A:dD)(outer:List Env)(s:az)(H:Hp)(args:Args)(us:List Value)(vs:List V)(Q:VK)(E:XK),kH k A->Cw P w K mg base A outer s H->BP s fd args (ps.zip us)->Vals vs us->sp vs H Q E ->
  qA (bb P w) A (.call (.ref f) args) (CR CX outer P w H s Q E) s
theorem kI.mono{P:bD}{w:cy}{K:aI}{mg:Str->Option Value}{base:Heap}{CX:Hy}{j k:Nat}{f:Addr}{fd:fq}{ps:List Str}{sp:Sp}(F:kI P w K mg base CX j f fd ps sp)(h:j<=k):
  kI P w K mg base CX k f fd ps sp:=#[F.len,λA outer s H args us vs Q E hr=>F.run A outer s H args us vs Q E (hr.mono h)]
theorem kI.imp{P:bD}{w:cy}{K:aI}{mg:Str->Option Value}{base:Heap}{CX:Hy}{k:Nat}{f:Addr}{fd:fq}{ps:List Str}{sp sp':Sp}(F:kI P w K mg base CX k f fd ps sp)
  (h:∀vs H Q E,sp' vs H Q E->sp vs H Q E):kI P w K mg base CX k f fd ps sp':=
 #[λvs H Q E q=>F.len vs H Q E (h _ _ _ _ q),λA outer s H args us vs Q E hr he hb hv hs=>F.run A outer s H args us vs Q E hr he hb hv (h _ _ _ _ hs)]
theorem Cw.make{P:bD}{w:cy}{K:aI}{mg:Str->Option Value}{base:Heap}{A:dD}{outer:List Env}{s:az}{H:Hp}(e:Cw P w K mg base A outer s H)(C:Addr)(us:List Value)(kw:List (Str×Value)):
  Cw P w K mg base (A.under (.builtin "type.__call__" #[.ref C::us,kw])) outer s H:=#[by first|exact e.frames| (simpa[zV,Code.envs,BO,pushEnvs] using e.frames),e.mod,e.bs,e.Hm,e.rj,e.K9,e.dm,e.bare]
section
variable{X:Cx}{pZ:List (Addr×Obj)}{σ:St}{H:Hp}{s s':az}
theorem Inv.TU(I:Inv X pZ σ H s):Cw X.prog X.w X.K X.mg X.base X.A X.stack s H:=
 #[I.ok.frames,I.ok.mod,I.bs,aJ I.ok.Hm I.sz,I.stack,I.yI,I.dm,I.bare]
theorem Inv.after(I:Inv X pZ σ H s)(h:CE X.stack X.prog X.w H s Q u s'):EP X pZ σ Q u s':=by
 let#[v,H',os,bare,un,dm,r,q]:=h;let#[hh,g,d,t,os']:=s';obtain rfl:os'=s.os:=os;exact#[v,H',I.call (h':=hh) (g':=g) (d':=d) (t':=t) (ch:=[]) un dm bare (λb z=>absurd z (by simp)),r,q]
end
def Binds(K:aI)(fd:fq)(ps:List Str)(ds:List Value):Prop:=
 ∀(s:az)(us:List Value),K.In s.heap->(us++ds).length=ps.length->BP s fd #[us,[]] (ps.zip (us++ds))
theorem Binds.all{K:aI}{fd:fq}{ps:List Str}(h:∀us:List Value,us.length=ps.length->KW fd #[us,[]]=pure (ps.zip us)):Binds K fd ps []:=λs us _ hl=>by
 rw[bU] at hl ⊢;erw[.of_eq (h us hl)]
section
variable{X:Cx}{CX:Hy}{k:Nat}{f C:Addr}{fd:fq}{ps:List Str}{sp:Sp}{dvs:List V}{ds:List Value}{E:XK}{x m:Str}{p pos apos:Pos}{e o:Expr}{es:List Expr}{ta:TE}{t:TA}
structure Mk(K:aI)(C f:Addr):Prop where
 makes:GB K C=true
 init:eF K (.ref C) "__init__"=some (some (.ref f))
 fn:yu K (.ref f)=true
 kp:oS K (.ref C)=true
end
structure l7(N P:List Str)(sc:jW):Prop where
 kind:sc.kind=.function
 co:sc.isCoroutine=false
 gen:sc.isGenerator=false
 nd:N.Nodup
 pre:N.take P.length=P
 par:∀x∈P,sc.names.lookup x=some .local\/sc.names.lookup x=some .cell
 Pa:∀y∈sc.names,y.2≠.free
theorem xE{kindOf:Str->Option NameKind}{x:Str}:∀{binds:List (Str×Value)}{m:Str->Option Value},(∀v,(x,v)∉binds)->GD kindOf binds m x=m x
 |[],_,_=>rfl
 | (n,v)::r,m,h=>by
  unfold GD;rw[xE λw hw=>h w (aA _ hw)]
  split
  .have:x≠n:=by rintro rfl;erw[h v aT]
   simp[this]
  .rfl
theorem xF{kindOf:Str->Option NameKind}{x:Str}:∀{binds:List (Str×Value)}{m:Str->Option Value},(∀v,(x,v)∉binds)->GF kindOf binds m x=m x
 |[],_,_=>rfl
 | (n,v)::r,m,h=>by
  unfold GF;rw[xF λw hw=>h w (aA _ hw)]
  split
  .rfl
  .have:x≠n:=by rintro rfl;erw[h v aT]
   simp[this]
theorem xG{kindOf:Str->Option NameKind}{x:Str}{v:Value}:∀{P:List Str}{vs:List Value}{i:Nat}{m:Str->Option Value},P.Nodup->P[i]?=some x->vs[i]?=some v->kindOf x=some .local ->
  GD kindOf (P.zip vs) m x=some v
 |[],_,_,_,_,h,_,_=>by simp at h
 |_::_,[],_,_,_,_,h,_=>by simp at h
 |p::P,w::vs,0,m,nd,h1,h2,hk=>by
  simp at h1 h2;subst h1;subst h2;show GD kindOf ((p,w)::P.zip vs) m p=_;unfold GD;rw[xE λv hv=>(fu.mp nd).1 (wo hv).1,if_pos hk]
  simp
 |p::P,w::vs,i+1,m,nd,h1,h2,hk=>by
  show GD kindOf ((p,w)::P.zip vs) m x=_
  unfold GD;exact xG (i:=i) (fu.mp nd).2 (by simpa using h1) (by simpa using h2) hk
theorem xH{kindOf:Str->Option NameKind}{x:Str}{v:Value}:∀{P:List Str}{vs:List Value}{i:Nat}{m:Str->Option Value},P.Nodup->P[i]?=some x->vs[i]?=some v->kindOf x≠some .local ->
  GF kindOf (P.zip vs) m x=some v
 |[],_,_,_,_,h,_,_=>by simp at h
 |_::_,[],_,_,_,_,h,_=>by simp at h
 |p::P,w::vs,0,m,nd,h1,h2,hk=>by
  simp at h1 h2;subst h1;subst h2;show GF kindOf ((p,w)::P.zip vs) m p=_;unfold GF;rw[xF λv hv=>(fu.mp nd).1 (wo hv).1,if_neg hk]
  simp
 |p::P,w::vs,i+1,m,nd,h1,h2,hk=>by
  show GF kindOf ((p,w)::P.zip vs) m x=_
  unfold GF;exact xH (i:=i) (fu.mp nd).2 (by simpa using h1) (by simpa using h2) hk
noncomputable def start(N:List Str)(vs:List V):St:=vs.map some++qm (N.length-vs.length) none
noncomputable def AF(CX:Hy)(P:bD)(w:cy)(K:aI)(mg:Str->Option Value)(base:Heap)(N:List Str)(qual:Str)(scope:jW)(f:Addr)(cd:Value)(A:dD)(outer:List Env)(s:az)(H:Hp)(E:XK):Cx where
 prog:=P
 w:=w
 K:=K
 mg:=mg
 base:=base
 A:=A.deeper (qB qual scope s.heap.objs.size f cd)
 N:=N
 s₀:=s
 H₀:=H
 env:=qB qual scope s.heap.objs.size f cd
 outer:=outer
 stack:=qB qual scope s.heap.objs.size f cd::outer
 ex:=[]
 calm:=true
 fn:=λ_=>true
 pn:=[]
 xe:=λe s'=>wpAny (bb P w) (A.deeper (qB qual scope s.heap.objs.size f cd)) (leaving (qB qual scope s.heap.objs.size f cd) e) (λ_ s''=>CX outer H s E e s'') (λe' s''=>CX outer H s E e' s'') s'
theorem AG{sc:jW}{n:Nat}{x:Str}(h:sc.names.lookup x=some .cell):∃c,(jd n sc.names []).lookup x=some c:=by
 have q:=yw sc.names n [] (.inl h);erw[xj.mp q]
theorem Fp{CX:Hy}{P:bD}{w:cy}{K:aI}{mg:Str->Option Value}{base:Heap}{N ps:List Str}{qual:Str}{scope:jW}{f:Addr}{cd:Value}{A:dD}{outer:List Env}{s s1:az}{H:Hp}{E:XK}{us:List Value}{vs:List V}
  (S:l7 N ps scope) (hd:A.handled=none) (e0:Cw P w K mg base A outer s H) (hl:vs.length=ps.length) (r:Vals vs us)
  (x:InCallC s s.heap.objs.size (GD (qB qual scope s.heap.objs.size f cd).kindOf (ps.zip us) λ_=>none) (jd (s.heap.objs.size+1) scope.names []) (GF (qB qual scope s.heap.objs.size f cd).kindOf (ps.zip us) λ_=>none) s1):
  Inv (AF CX P w K mg base N qual scope f cd A outer s H E) [] (start N vs) H s1:=by
 have hpl:ps.length<=N.length:=by have:=congrArg cA S.pre;rw[dC] at this;omega
 let#[h1,tk,rfl,hk]:=x.done;have noA:∀b:Addr,b∉(AF CX P w K mg base N qual scope f cd A outer s H E).ex:=λb z=>absurd (show b∈([]:List Addr) from z) (by simp)
 refine#[#[e0.mod,S.kind,rfl,rfl,ak _,λy z c h1 h2=>?_,λy hy=>?_,λy c _ h=>?_,λ_=>hd,Around.frames_deeper e0.frames,.inr #[rfl,rfl],λb z=>absurd z (noA b),e0.bs,e0.Hm,λb _ _=>noA b,λb z=>absurd z (noA b),e0.rj,e0.K9],
  rfl,e0.bare,Un.kept hk,#[_,x.toInCall.ns,λi y v h1 h2 h3=>?_],λy c h=>#[_,x.cell y c h],e0.dm.fresh (ak _),λy c h=>?_,λp hp=>absurd (show p∈([]:List (Addr×Obj)) from hp) (by simp),e0.dm.kept hk,?_]
 .erw[name_of_addr x.apart (cR h1) (cR h2)]
 .have hy:scope.names.lookup y=some .cell\/scope.names.lookup y=some .free:=hy
  rcases hy with hy|hy
  .erw[AG hy]
  .erw[absurd rfl (S.Pa _ (cR hy))]
 .erw[b7 (x.above y c (cR h))]
 .have hi:i<vs.length:=by
   unfold start at h2;by_cases hi:i<vs.length
   .erw[hi]
   .rw[ax (by simpa using hi)] at h2
    rw[Al] at h2;split at h2<;>cases h2
  have ha:vs[i]?=some v:=by
   unfold start at h2;rw[ag (by simpa using hi),aw] at h2;cases e:vs[i]? with
   |none=>rw[e] at h2;cases h2
   |some a=>rw[e] at h2;cases h2;rfl
  let#[u,hu,rv]:=r.get ha;have hp:ps[i]?=some y:=by
   rw[<-S.pre,zW ∅];erw[h1]
  have ndP:ps.Nodup:=by rw[<-S.pre];erw[S.nd.sublist (List.take_sublist _ _)]
  refine#[u,rv,?_];rcases S.par y (ah hp) with k|k
  .erw[.inl #[k,xG ndP hp hu k]]
  .let#[c,e]:=AG (n:=s.heap.objs.size+1) k
   rwa[.inr #[.inl k,c,e,?_]];have q:=x.cell y c e;rw[xH ndP hp hu (by show scope.names.lookup y≠_;rw[k];decide)] at q;erw[q]
 .erw[e0.dm.fresh (b7 (x.above y c (cR h)))]
 .unfold start
  show _=N.length
  rw[ar,af,List.length_replicate]
  omega
theorem TV{CX:Hy}{P:bD}{w:cy}{K:aI}{mg:Str->Option Value}{base:Heap}{k:Nat}{f:Addr}{name qual:Str}{params:Arguments}{body:List Stmt}{scope:jW}{dV kV doc pm cdv ct oc:Value}{an od:Option Addr}
  {osl:Array (Option Value)}{N ps:List Str}{sp:Sp} (lk:K.lookup f=some #[oc,od,.func (kP name qual params body scope dV kV doc pm an cdv ct),osl]) (hcd:u5 K cdv qual=true) (S:l7 N ps scope)
  (len:∀vs H Q E,sp vs H Q E->vs.length=ps.length)
  (hbody:∀(A:dD)(outer:List Env)(s:az)(H:Hp)(vs:List V)(Q:VK)(E:XK),kH k (A.deeper (qB qual scope s.heap.objs.size f cdv))->sp vs H Q E ->
   ∃t,wH (AF CX P w K mg base N qual scope f cdv A outer s H E) body t/\t {nx:=λ_ H'=>Q .bQ H',rt:=Q} (start N vs) H):
  kI P w K mg base CX (k+1) f (kP name qual params body scope dV kV doc pm an cdv ct) ps sp:=by
 refine#[len,λA outer s H args us vs Q E hr e0 hb r hsp=>?_];have hl:=len _ _ _ _ hsp;have KX:K.In s.heap:=e0.mod.SV.keeps λb o e=>(e0.bs b o e).1
 have lim:s.heap.NoLimit:=e0.mod.nolimit.keeps λb o e=>(e0.bs b o e).1
 have hkind:∀y∈ps.zip us,scope.names.lookup y.1=some .local\/(scope.names.lookup y.1=some .cell/\((jd (s.heap.objs.size+1) scope.names []).lookup y.1).isSome=true):=λ⟨n,v⟩ hy=>by
  rcases S.par n (wo hy).1 with q|q
  .erw[.inl q]
  .erw[.inr #[q,yw _ _ _ (.inl q)]]
 rwa[codeAny_call_function hr.depth (KX _ _ lk) rfl S.co S.gen rfl (PySem.W.codeRec_of KX hcd) (hb _ _ _ _ ?_)];rwa[wpAny_newFunctionEnv_cells S.kind hkind λenv he s1 x=>?_]
 subst he;refine#[lim.keeps x.toInCall.keep,codeAny_func ?_];let#[t,ht,hq]:=hbody A outer s H vs Q E (hr.deeper _) hsp;have I:Inv (AF CX P w K mg base N qual scope f cdv A outer s H E) [] (start N vs) H s1:=Fp S hr.hd e0 hl r x;rwa[bY (ht [] s1 (start N vs) H _ I hq) (λfl s' hs=>?_) λe s' hs=>hs]
 have fin:∀{σ':St}{H':Hp}{v:V}{u:Value},Inv (AF CX P w K mg base N qual scope f cdv A outer s H E) [] σ' H' s'->RelV v u->Q v H'->CE outer P w H s Q u s':=
  λ{σ' H' v u}J rv q=>#[v,H',J.os,J.bare,J.base,J.dm,rv,q]
 cases fl with
 |ret u=>
  let#[v,σ',H',J,rv,q]:=hs;erw[fin J rv q]
 |next=>
  let#[σ',H',J,q]:=hs;erw[fin (v:=V.bQ) (u:=cv) J rfl q]
 |brk=>
  let#[_,_,_,q]:=hs;erw[aO q]
 |cont=>
  let#[_,_,_,q]:=hs;erw[aO q]
section
variable{X:Cx}{x:Str}{p pos:Pos}{e:Expr}{es:List Expr}{t:TA}{id T:String}{r:List V->Hp->VK->Prop}
def XY(r:List V->Hp->VK->Prop)(t:TA):TE:=λσ H Q=>t σ H λvs H1=>r vs H1 Q
theorem oX(hc:iN X (.builtin id) r)(hg:Gl X x)(hm:X.mg x=none)(hv:qz x=some (.builtin id))(ha:PA X (e::es) t)(hn:x≠"__name__":=by decide)(hdb:(x==("__debug__":Str))=false:=by decide)
  (he:bV (e::es) X.env=(false,eval e X.env)::bV es X.env:=by rfl) (hpl:(iH pos (bV es X.env)).any (·.1)=false:=by rfl):PE X (.Call (.Name x p) (e::es) [] pos) (XY r t):=by
 k_go;rwa[fw (sJ I hg hm hv ?_ hn hdb)];rwa[PyProof.Rows.callWith_builtin1 (eT (ha pos pZ s σ H _ I h) λus s1 h9=>?_) he hpl];let#[vs,H1,I1,r1,q1]:=h9;erw[hc pZ s1 σ H1 vs us Q I1 r1 q1]
theorem pE(hc:iN X (.type T) r)(hg:Gl X x)(hm:X.mg x=none)(hv:qz x=some (.type T))(ha:PA X (e::es) t)(hn:x≠"__name__":=by decide)(hdb:(x==("__debug__":Str))=false:=by decide)
  (he:bV (e::es) X.env=(false,eval e X.env)::bV es X.env:=by rfl) (hpl:(iH pos (bV es X.env)).any (·.1)=false:=by rfl):PE X (.Call (.Name x p) (e::es) [] pos) (XY r t):=by
 k_go;rwa[fw (sJ I hg hm hv ?_ hn hdb)];rwa[jX (eT (ha pos pZ s σ H _ I h) λus s1 h9=>?_) he hpl];let#[vs,H1,I1,r1,q1]:=h9;erw[hc pZ s1 σ H1 vs us Q I1 r1 q1]
end
end L2
namespace HT
open PySem PyProof.Rows
section
variable{prog:bD}{w:cy}{A:dD}{E:Value->az->Prop}{s:az}
theorem Lp(ht:IsTup s.heap t vs.toArray)(hb:IsTup s.heap b ws.toArray)(hv:vs≠[])
  (h1:ws=[]->Q (.ref t) s) (h2:ws≠[]->Q (.ref s.heap.objs.size) {s with heap:=s.heap.push {cls:=.type "tuple",data:=.seq (vs++ws).toArray} })
  (hsz:vs.length+ws.length<=sizeLine):wpAny (bb prog w) A (cL .Add (.ref t) (.ref b)) Q E s:=by
 let#[#[cls,dd,data,sl],ho,hc,n,hd]:=id ht;let#[#[cls2,dd2,data2,sl2],ho2,hc2,n2,hd2]:=id hb;simp only at hc hd hc2 hd2;subst hc hd hc2 hd2;have e:vs.toArray++ws.toArray=(vs++ws).toArray:=by simp
 by_cases hw:ws=[]
 .exact concat_meets #[_,ho,rfl] #[_,ho2,rfl] noFill_tuple_add seq_tuple_add yx xk (wA _ _)
   (tuple_addW1 t b vs.toArray ws.toArray n n2 dd dd2 sl sl2 (by simpa using hv) (by simp[hw])) #[ho,ho2,h1 hw]
 .refine concat_meets #[_,ho,rfl] #[_,ho2,rfl] noFill_tuple_add seq_tuple_add yx xk (wA _ _)
   (tuple_addW2 t b vs.toArray ws.toArray n n2 dd dd2 sl sl2 (by simpa using hv) (by simpa using hw) (by rw[aH,aH];erw[hsz])) #[ho,ho2,?_]
  rw[e]
  erw[h2 hw]
noncomputable def wI(n d:Nat):Option Int->Nat
 |none=>d
 |some v=>if v<0 then(v+(n:Int)).toNat else min v.toNat n
end
end HT
namespace L2
open PySem PySem.Spec PyProof.Rows
abbrev TO:=St->Hp->(Option Int->Hp->Prop)->Prop
def PO(X:Cx)(e:Option Expr)(t:TO):Prop:=
 ∀(pZ:List (Addr×Obj))(s:az)(σ:St)(H:Hp)(Q:Option Int->Hp->Prop),Inv X pZ σ H s->t σ H Q ->
  wpAny (bb X.prog X.w) X.A (evalPart e X.env) (λu s'=>∃o H',Inv X pZ σ H' s'/\IsPart u o/\Q o H') X.xe s
noncomputable def Lq:TO:=λ_ H Q=>Q none H
noncomputable def TX(t:TE):TO:=λσ H Q=>t σ H λx H1=>∃i,x=.int i/\Q (some i) H1
section
variable{X:Cx}{e:Expr}{te:TE}{lo hi:Option Expr}{tl th:TO}{pos p2:Pos}
theorem Lr:PO X none Lq:=by
 k_go;rw[evalPart_none]
 erw[aB #[none,H,I,.none,h]]
theorem Lu(h:PE X e te):PO X (some e) (TX te):=by
 intro pZ s σ H Q I hw;rw[evalPart_some]
 rwa[eT (h pZ s σ H _ I hw) λu s1 h9=>?_]
 let#[x,H1,I1,r1,q1]:=h9;let#[i,rfl,q]:=q1;let#[t,rfl]:=r1;exact#[some i,H1,I1,.int i t,q]
def WY(X:Cx)(r:V->Option Int->Option Int->Hp->VK->Prop):Prop:=
 ∀(pZ:List (Addr×Obj))(s:az)(σ:St)(H:Hp)(x:V)(v vl vu:Value)(lo hi:Option Int)(sl:Addr)(Q:VK),Inv X pZ σ H s->RelV x v->s.heap.IsSliceOf sl vl vu .none->IsPart vl lo->IsPart vu hi->r x lo hi H Q ->
  ∃T id,typeLookup (.type T) "__getitem__"=pure (some (.builtin id))/\s.TypeIs v T/\wpAny (bb X.prog X.w) X.A (tI v (.ref sl)) (EP X pZ σ Q) X.xe s
def tSl(r:V->Option Int->Option Int->Hp->VK->Prop)(te:TE)(tl th:TO):TE:=λσ H Q=>te σ H λx H1=>tl σ H1 λl H2=>th σ H2 λu H3=>r x l u H3 Q
theorem Hz(hr:WY X r)(he:PE X e te)(hl:PO X lo tl)(hu:PO X hi th):PE X (.Subscript e (.Slice lo hi none p2) pos) (tSl r te tl th):=by
 k_go;rwa[Subscript_ (eT (he pZ s σ H _ I h) λv s1 h9=>?_)];let#[x,H1,I1,r1,q1]:=h9;rwa[wpAny_Slice (eT (hl pZ s1 σ H1 _ I1 q1) λvl s2 h9=>?_)];let#[l,H2,I2,pl,q2]:=h9;rwa[eT (hu pZ s2 σ H2 _ I2 q2) λvu s3 h9=>?_]
 let#[u,H3,I3,pu,q3]:=h9;rw[evalPart_none]
 rwa[aB ?_];have I4:Inv X pZ σ H3 {s3 with heap:=s3.heap.push {cls:=.type "slice",data:=.fields (List.toArray [vl,vu,.none])} }:=I3.kept (t':=s3.toks) λb ob q=>aF _ q
 let#[T,id,hT,ht,hg]:=hr pZ {s3 with heap:=s3.heap.push {cls:=.type "slice",data:=.fields (List.toArray [vl,vu,.none])} } σ H3 x v vl vu l u s3.heap.objs.size Q I4 r1 (Heap.IsSliceOf.new ..) pl pu q3;show wpAny (bb X.prog X.w) X.A (EZ e (.Slice lo hi none p2) v (.ref s3.heap.objs.size)) (EP X pZ σ Q) X.xe {s3 with heap:=s3.heap.push {cls:=.type "slice",data:=.fields (List.toArray [vl,vu,.none])} };erw[tail_any (ops:=[.ref s3.heap.objs.size,v]) ht hT hg (by with_unfolding_all rfl)]
def Fq(xs:List V)(lo hi:Option Int):List V:=(xs.drop (HT.wI xs.length 0 lo)).take (HT.wI xs.length xs.length hi-HT.wI xs.length 0 lo)
theorem AH(xs:List V)(lo hi:Option Int):(Fq xs lo hi).length<=xs.length:=by
 unfold Fq;rw[dC,List.length_drop]
 omega
def TZ(K:aI):R2:=λx y H Q=>∃a b xs ys,x=.ref a/\y=.ref b/\oq K H a xs/\oq K H b ys/\xs≠[]/\xs.length+ys.length<=sizeLine /\
 (ys=[]->Q (.ref a) H)/\(ys≠[]->∀p,H p=none->Q (.ref p) (upd H p (.tup (xs++ys))))
theorem Vals.yN(r:Vals xs us):us=[]↔xs=[]:=by
 cases r with
 |nil=>simp
 |cons _ _=>simp
theorem Lw:iI X (cL .Add) (TZ X.K):=by
 x_go;let#[a,b,xs,ys,rfl,rfl,ha,hb,hx,hz,q1,q2]:=h;cases rx;cases ry;let#[its,r1,p1,_]:=I.tuple ha;let#[its2,r2,p2,_]:=I.tuple hb;rwa[HT.Lp p1 p2 (λz=>hx (r1.yN.mp z)) (λz=>#[.ref a,H,I,rfl,q1 (r2.yN.mp z)]) (λz=>?_) (by rw[<-r1.length,<-r2.length];erw[hz])];refine#[.ref s.heap.objs.size,_,I.laid (t':=s.toks) (o:=.tup (xs++ys)) (λb ob q=>aF _ q) (ak _) ?_,rfl,q2 (λw=>z (r2.yN.mpr w)) _ (I.dm.fresh (ak _))];exact#[by rw[ar];erw[hz],_,r1.append r2,Aw.new _ _]
end
noncomputable def Pb(n:Nat)(i:Int):Option Nat:=if 0<=i then(if i<n then some i.toNat else none) else if -(n:Int)<=i then some (i+n).toNat else none
def Pc{α:Type}(xs:List α)(i:Int):Option α:=(Pb xs.length i).bind λj=>xs[j]?
theorem DP(h:Pb n i=some j):seqIndex? i n=some j/\j<n/\-(n:Int)<=i/\i<n:=by
 unfold Pb at h;by_cases h0:0<=i
 .rw[if_pos h0] at h
  by_cases h1:i<n
  .rw[if_pos h1] at h
   have e:i.toNat=j:=aL h;exact#[by rw[KY h0 h1,e],∅,∅,h1]
  .rw[if_neg h1] at h;cases h
 .rw[if_neg h0] at h
  by_cases h1:-(n:Int)<=i
  .rw[if_pos h1] at h
   have e:(i+n).toNat=j:=aL h;exact#[by rw[G8 ∅ h1,e],∅,h1,∅]
  .rw[if_neg h1] at h;cases h
theorem yO{α:Type}{xs:List α}{i:Int}{v:α}(h:Pc xs i=some v):∃j,seqIndex? i xs.length=some j/\xs[j]?=some v/\j<xs.length/\-(xs.length:Int)<=i/\i<xs.length:=by
 unfold Pc at h;cases e:Pb xs.length i with
 |none=>rw[e] at h;cases h
 |some j=>
  rw[e] at h;let#[h1,h2,h3,h4]:=DP e;exact#[j,h1,h,h2,h3,h4]
def DQ(b:Expr):Prop:=∀o i,zX b false o i=operate [o,i] (tI o i)
def Su(X:Cx)(r:R2):Prop:=
 ∀(value slice:Expr)(pZ:List (Addr×Obj))(s:az)(σ:St)(H:Hp)(x y:V)(v u:Value)(Q:VK),Inv X pZ σ H s->RelV x v->RelV y u->r x y H Q ->
  zX slice false v u=operate [v,u] (tI v u)->wpAny (bb X.prog X.w) X.A (EZ value slice v u) (EP X pZ σ Q) X.xe s
def yP(X:Cx)(id:String)(r:V->List V->Hp->VK->Prop):Prop:=
 ∀(pZ:List (Addr×Obj))(s:az)(σ:St)(H:Hp)(x:V)(xs:List V)(v:Value)(us:List Value)(Q:VK),Inv X pZ σ H s->RelV x v->Vals xs us->r x xs H Q ->
  wpAny (bb X.prog X.w) X.A (call (.builtin id) (v::us)) (EP X pZ σ Q) X.xe s
section
variable{X:Cx}{a b:Expr}{ta tb:TE}{pos:Pos}
theorem T4(hr:Su X r)(ha:PE X a ta)(hb:PE X b tb)(hs:DQ b):PE X (.Subscript a b pos) (WX r ta tb):=by
 k_go;erw[Subscript_ (OR ha hb I h λv u s2 x y H2 I2 rx ry q=>hr a b pZ s2 σ H2 x y v u Q I2 rx ry q (hs _ _))]
def XZ(K:aI):R2:=λx y H Q=>∃p xs i v,x=.ref p/\y=.int i/\i3 K H p xs/\Pc xs i=some v/\Q v H
def X0(K:aI):R2:=λx y H Q=>∃p xs i v,x=.ref p/\y=.int i/\oq K H p xs/\Pc xs i=some v/\Q v H
def X1:R2:=λx y H Q=>∃z i c,x=.str z/\y=.int i/\z.length<=sizeLine/\Pc z.cps.toList i=some c/\Q (.str #[(List.toArray [c])]) H
theorem DS:Su X (XZ X.K):=by
 intro value slice pZ s σ H x y v u Q I rx ry h hs;let#[p,xs,i,z,rfl,rfl,hq,he,q]:=h;cases rx;let#[t,rfl]:=ry;let#[its,r,pl,hz]:=I.list hq;let#[j,h1,h2,h3,h4,h5]:=yO he;let#[w,ew,rw']:=r.get h2;have hl:=r.length;have hn:=oW;have fin:EP X pZ σ Q w s:=#[z,H,I,rw',q]
 by_cases h0:0<=i
 .have hj:i.toNat=j:=by
   rw[KY h0 h5] at h1;erw[aL h1]
  exact item_listR pl.isList h0 ∅ (by rw[hj];simpa using ew) fin hs
 .have hj:(i+(its.toArray.size:Int)).toNat=j:=by
   rw[G8 ∅ h4] at h1;rw[aH,<-hl]
   erw[aL h1]
  exact G9 (x:=w) pl.isList.typeIs slot_list_getitem.lookup
   (wpAny_getItem_list_neg (Q:=λr s'=>r=w/\EP X pZ σ Q r s') pl.isList ∅ (by rw[aH]<;>omega) ∅ (by rw[hj];simpa using ew) #[rfl,fin]) hs
theorem Pd:Su X (X0 X.K):=by
 intro value slice pZ s σ H x y v u Q I rx ry h hs;let#[p,xs,i,z,rfl,rfl,hq,he,q]:=h;cases rx;let#[t,rfl]:=ry;let#[its,r,pl,hz]:=I.tuple hq;let#[j,h1,h2,h3,h4,h5]:=yO he;let#[w,ew,rw']:=r.get h2;have hl:=r.length;have hn:=oW;have fin:EP X pZ σ Q w s:=#[z,H,I,rw',q]
 exact G9 (x:=w) pl.typeIs slot_tuple_getitem.lookup
  (getItem_tuple (j:=j) (Q:=λr s'=>r=w/\EP X pZ σ Q r s') pl ∅ ∅ (by rw[aH,<-hl];erw[h1]) (by simpa using ew) #[rfl,fin]) hs
theorem Pe:Su X X1:=by
 intro value slice pZ s σ H x y v u Q I rx ry h hs;let#[z,i,c,rfl,rfl,hz,he,q]:=h;let#[t,rfl]:=rx;let#[t',rfl]:=ry;let#[j,h1,h2,h3,h4,h5]:=yO he;have hl:z.cps.toList.length=z.length:=by simp[Str.length]
 rw[hl] at h1 h4 h5;have hn:=oW;exact tail_any (typeIs_str s z t) slot_str_getitem.lookup (getItem_str (c:=c) (by
  have e1:decide (i < -(2^63:Int))=false:=decide_eq_false ∅;have e2:decide (i≥2^63)=false:=decide_eq_false ∅;rw[e1,e2,Bool.or_false]) (by rw[h1];simpa using h2) #[.str #[(List.toArray [c])],H,I.tok _,#[_,rfl],q]) hs
theorem Cy(its:List Value)(n j:Nat)(u:Value):sG (·.setIfInBounds j u) {cls:=.type "list",data:=.seq its.toArray n}= {cls:=.type "list",data:=.seq (its.set j u).toArray n}:=by
 simp[sG]
theorem Inv.lst{pZ:List (Addr×Obj)}{σ:St}{H:Hp}{s:az}{p:Addr}{xs:List V}(I:Inv X pZ σ H s)(h:H p=some (.lst xs)):
  ∃(its:List Value)(n:Nat),Vals xs its/\s.heap.get? p=some {cls:=.type "list",data:=.seq its.toArray n}/\xs.length<=sizeLine:=by
 let#[z,its,n,r,e]:=I.dm p _ h;exact#[its,n,r,e,z]
theorem Inv.Pf{pZ:List (Addr×Obj)}{σ:St}{H:Hp}{s:az}{p:Addr}{xs ys:List V}{its its':List Value}{n n':Nat}{f:Obj->Obj}(I:Inv X pZ σ H s)(h:H p=some (.lst xs))
  (ho:s.heap.get? p=some {cls:=.type "list",data:=.seq its.toArray n}) (hf:f {cls:=.type "list",data:=.seq its.toArray n}= {cls:=.type "list",data:=.seq its'.toArray n'}) (r:Vals ys its') (hz:ys.length<=sizeLine) (t:Nat):
  Inv X pZ σ (upd H p (.lst ys)) {s with heap:=s.heap.update p f,toks:=t}:=by
 have e:(s.heap.update p f).get? p=some {cls:=.type "list",data:=.seq its'.toArray n'}:=by
  rw[dw f ho (by rw[hf]<;>rfl),hf]
 rwa[I.write (x:=p) (e:=p) (by rw[h];trivial) (.inl rfl) (λb u hb q=>(oN _ _ (cC hb)).trans q) #[_,e] ?_];exact#[hz,its',n',r,e]
def T5:V->V->V->Hp->(Hp->Prop)->Prop:=λo i v H Q=>∃p xs k j,o=.ref p/\i=.int k/\H p=some (.lst xs)/\Pb xs.length k=some j/\Q (upd H p (.lst (xs.set j v)))
theorem set_list:Ti X T5:=by
 intro pZ s σ H o i v ov iv u Q I ro ri rv h;let#[p,xs,k,j,rfl,rfl,hp,hj,q]:=h;cases ro;let#[t,rfl]:=ri;let#[its,n,r,ho,hz]:=I.lst hp;let#[h1,h2,h3,h4]:=DP hj;have hl:=r.length;have hn:=oW;have I':Inv X pZ σ (upd H p (.lst (xs.set j v))) {s with heap:=s.heap.update p (sG (·.setIfInBounds j u))}:=
  I.Pf hp ho (Cy its n j u) (r.set rv j) (by rw[cD];erw[hz]) s.toks
 by_cases h0:0<=k
 .have hk:k.toNat=j:=by
   rw[KY h0 h4] at h1;erw[aL h1]
  erw[PySem.W.ki_setAt ho h0 ∅ (by rw[aH,<-hl];exact h4) (by rw[hk];exact#[_,I',q])]
 .have hk:(k+(its.toArray.size:Int)).toNat=j:=by
   rw[G8 ∅ h3] at h1;rw[aH,<-hl]
   erw[aL h1]
  erw[PySem.W.ki_setBack ho ∅ (by rw[aH,<-hl];exact h3) ∅ (by rw[hk];exact#[_,I',q])]
theorem yQ(lo hi:Option Int)(n:Nat):(lW lo hi none n).1=((HT.wI n 0 lo:Nat):Int)/\(lW lo hi none n).2.1=((HT.wI n n hi:Nat):Int)/\(lW lo hi none n).2.2=1:=by
 refine#[?_,?_,rfl]
 .cases lo with
  |none=>simp[lW,HT.wI]
  |some i=>
   dsimp[lW,HT.wI,jY,show(1:Int)>0 by decide,if_true];by_cases h:i<0
   .dsimp[h,if_true]<;>omega
   .dsimp[h,if_false]<;>omega
 .cases hi with
  |none=>simp[lW,HT.wI]
  |some i=>
   dsimp[lW,HT.wI,jY,show(1:Int)>0 by decide,if_true];by_cases h:i<0
   .dsimp[h,if_true]<;>omega
   .dsimp[h,if_false]<;>omega
theorem wJ(its:List Value)(lo hi:Option Int):slicePick its.toArray lo hi none=((its.drop (HT.wI its.length 0 lo)).take (HT.wI its.length its.length hi-HT.wI its.length 0 lo)).toArray:=by
 let#[h1,h2,h3]:=yQ lo hi its.toArray.size;unfold slicePick;rw[h1,h2,h3]
 dsimp[sliceRange_one,pick_run,aH]<;>rfl
def X2(K:aI):V->Option Int->Option Int->Hp->VK->Prop:=λx lo hi H Q=>∃a xs,x=.ref a/\i3 K H a xs/\∀p,H p=none->Q (.ref p) (upd H p (.lst (Fq xs lo hi)))
theorem Lx:WY X (X2 X.K):=by
 intro pZ s σ H x v vl vu lo hi sl Q I rx hs pl pu h;let#[a,xs,rfl,hx,q]:=h;cases rx;let#[its,r,ht,hz]:=I.list hx;have hlen:=r.length;refine#["list",_,slot_list_getitem.lookup,ht.isList.typeIs,?_];refine wpAny_getItem_list_slice ht.isList hs pl pu .none (by simp) ?_ (by rw[aH]<;>omega);rw[wJ,<-hlen]
 refine#[.ref s.heap.objs.size,_,I.laid (t':=s.toks) (o:=.lst (Fq xs lo hi)) (λb ob q=>aF _ q) (ak _) ?_,rfl,q _ (I.dm.fresh (ak _))];exact#[aJ (AH xs lo hi) hz,_,0,(r.drop (HT.wI xs.length 0 lo)).take (HT.wI xs.length xs.length hi-HT.wI xs.length 0 lo),a9 _ rfl]
noncomputable def lB:V->Bool
 |.bQ=>true
 |.bl _=>true
 |.int _=>true
 |.str _=>true
 |_=>false
noncomputable def BZ:V->V->Bool
 |.bQ,.bQ=>true
 |.bl a,.bl b=>a==b
 |.bl a,.int b=>(if a then 1 else 0)== b
 |.int a,.bl b=>a==(if b then 1 else 0)
 |.int a,.int b=>a==b
 |.str a,.str b=>a==b
 |_,_=>false
theorem Pg(ry:RelV y u)(rx:RelV x v)(fy:lB y=true)(fx:lB x=true):qZ A s u v (BZ y x):=by
 cases y with
 |bQ=>
  cases ry;cases x with
  |bQ=>cases rx;erw[jV _]
  |bl b=>cases rx;erw[xm b]
  |int b=>let#[t,rfl]:=rx;erw[oJ b t]
  |str b=>let#[t,rfl]:=rx;erw[oK b t]
  |_=>erw[absurd (show false=true from fx) aV]
 |bl a=>
  cases ry;cases x with
  |bQ=>cases rx;erw[xn a]
  |bl b=>cases rx;erw[xo a b]
  |int b=>let#[t,rfl]:=rx;erw[yy a b t]
  |str b=>let#[t,rfl]:=rx;erw[yz a b t]
  |_=>erw[absurd (show false=true from fx) aV]
 |int a=>
  let#[t',rfl]:=ry;cases x with
  |bQ=>cases rx;erw[oH a t']
  |bl b=>cases rx;erw[yA a t' b]
  |int b=>let#[t,rfl]:=rx;erw[zY a t' b t]
  |str b=>let#[t,rfl]:=rx;erw[ph a t' b t]
  |_=>erw[absurd (show false=true from fx) aV]
 |str a=>
  let#[t',rfl]:=ry;cases x with
  |bQ=>cases rx;erw[oI a t']
  |bl b=>cases rx;erw[yB a t' b]
  |int b=>let#[t,rfl]:=rx;erw[pj a t' b t]
  |str b=>let#[t,rfl]:=rx;erw[zZ a t' b t]
  |_=>erw[absurd (show false=true from fx) aV]
 |_=>erw[absurd (show false=true from fy) aV]
def wu(x:V)(u:Value):Bool:=match u with
 |.none=>BZ .bQ x
 |.bool b=>BZ (.bl b) x
 |.int i _=>BZ (.int i) x
 |.str z _=>BZ (.str z) x
 |_=>false
theorem Cz(r:RelV y u)(f:lB y=true):wu x u=BZ y x:=by
 cases y with
 |bQ=>cases r;rfl
 |bl b=>cases r;rfl
 |int i=>let#[t,rfl]:=r;rfl
 |str z=>let#[t,rfl]:=r;rfl
 |_=>erw[absurd (show false=true from f) aV]
theorem rC:∀{xs:List V}{us:List Value},Vals xs us->xs.all lB=true->us.any (wu x)=xs.any λy=>BZ y x
 |_,_,.nil,_=>rfl
 |y::xs,u::us,.cons r t,f=>by
  rw[bK,aj] at f;rw[dG,dG,Cz r f.1,rC t f.2]
theorem lC(rx:RelV x v)(fx:lB x=true):∀{xs:List V}{us:List Value},Vals xs us->xs.all lB=true->∀u∈us,qZ A s u v (wu x u)
 |_,_,.nil,_=>λu hu=>by cases hu
 |y::xs,u::us,.cons r t,f=>λu' hu=>by
  rw[bK,aj] at f;rcases aN.mp hu with rfl|hu
  .rw[Cz r f.1];erw[Pg r rx f.1 fx]
  .erw[lC rx fx t f.2 u' hu]
def WZ(x:V)(xs:List V):Bool:=xs.any λy=>BZ y x
def ZL(K:aI)(neg:Bool):R2:=λx y H Q=>∃p xs,y=.ref p/\(i3 K H p xs\/oq K H p xs)/\lB x=true/\xs.all lB=true/\Q (.bl (if neg then !WZ x xs else WZ x xs)) H
theorem xI:iI X (bH .In) (ZL X.K false):=by
 x_go;let#[p,xs,rfl,hq,fx,fs,q]:=h;cases ry;rcases hq with hq|hq
 .let#[its,r,pl,hz]:=I.list hq
  refine SeqAt.in_listAt (wu x) pl.isList (λw hw=>lC rx fx r fs w (by simpa using hw)) #[.bl _,H,I,rfl,?_];rw[show its.toArray.any (wu x)=its.any (wu x) by simp,rC r fs]
  erw[q]
 .let#[its,r,pl,hz]:=I.tuple hq
  refine SeqAt.in_tupleAt (wu x) pl (λw hw=>lC rx fx r fs w (by simpa using hw)) #[.bl _,H,I,rfl,?_];rw[show its.toArray.any (wu x)=its.any (wu x) by simp,rC r fs]
  erw[q]
theorem rD:iI X (bH .NotIn) (ZL X.K true):=by
 x_go;let#[p,xs,rfl,hq,fx,fs,q]:=h;cases ry;rcases hq with hq|hq
 .let#[its,r,pl,hz]:=I.list hq
  refine SeqAt.notIn_listAt (wu x) pl.isList (λw hw=>lC rx fx r fs w (by simpa using hw)) #[.bl _,H,I,rfl,?_];rw[show its.toArray.any (wu x)=its.any (wu x) by simp,rC r fs]
  erw[q]
 .let#[its,r,pl,hz]:=I.tuple hq
  refine SeqAt.notIn_tupleAt (wu x) pl (λw hw=>lC rx fx r fs w (by simpa using hw)) #[.bl _,H,I,rfl,?_];rw[show its.toArray.any (wu x)=its.any (wu x) by simp,rC r fs]
  erw[q]
theorem yR:iI X (bH .NotIn) (λx y H Q=>∃i j,x=.str i/\y=.str j/\Q (.bl (!(!(Builtin.Str.occurrences j i 0 j.length 1).isEmpty))) H):=by
 x_go;let#[i,j,rfl,rfl,q]:=h;let#[t,rfl]:=rx;let#[t',rfl]:=ry;erw[notIn_str #[.bl _,H,I,rfl,q]]
theorem rE:iN X (.type "list") (λxs H Q=>∃p ys,xs=[.ref p]/\(i3 X.K H p ys\/oq X.K H p ys)/\∀l,H l=none->Q (.ref l) (upd H l (.lst ys))):=by
 k_ne;let#[p,ys,rfl,hq,q]:=h;let#[u,rfl,rx]:=vals1 r;cases rx;have fin:∀(its:List Value),Vals ys its->ys.length<=sizeLine->∀(h':Heap)(c':Nat),(∀b o',s.heap.get? b=some o'->h'.get? b=some o') ->
   h'.get? s.heap.objs.size=some {cls:=.type "list",dict:=none,data:=.seq its.toArray c',slots:=#[]}->EP X pZ σ Q (.ref s.heap.objs.size) {s with heap:=h'}:=λits r' hz h' c' kp e=>
  #[.ref s.heap.objs.size,_,I.laid (t':=s.toks) kp (ak _) (show dQ X.prog X.w _ h' _ (.lst ys) from #[hz,its,c',r',e]),rfl,q _ (I.dm.fresh (ak _))]
 rcases hq with hq|hq
 .let#[its,r',pl,hz]:=I.list hq
  have hlen:=r'.length;let#[o,ho,hc,n,hd]:=pl.isList;exact call_list_seq p (.inl rfl) ho hc hd (λh' c' kp e=>fin its r' hz h' c' kp e) (by dsimp[aH]<;>omega)
 .let#[its,r',pl,hz]:=I.tuple hq
  have hlen:=r'.length;let#[o,ho,hc,n,hd]:=pl;exact call_list_seq p (.inr rfl) ho hc hd (λh' c' kp e=>fin its r' hz h' c' kp e) (by dsimp[aH]<;>omega)
theorem wK:iN X (.type "tuple") (λxs H Q=>∃p ys,xs=[.ref p]/\((i3 X.K H p ys/\∀l,H l=none->Q (.ref l) (upd H l (.tup ys)))\/(oq X.K H p ys/\Q (.ref p) H))):=by
 k_ne;let#[p,ys,rfl,h]:=h;let#[u,rfl,rx]:=vals1 r;cases rx;rcases h with⟨hq,q⟩|⟨hq,q⟩
 .let#[its,r',pl,hz]:=I.list hq
  have hlen:=r'.length;refine call_tuple_list pl.isList (λh' kp=>?_) (by dsimp[aH]<;>omega);have I1:Inv X pZ σ H {s with heap:=h'}:=I.kept (t':=s.toks) kp;have I2:Inv X pZ σ (upd H h'.objs.size (.tup ys)) {s with heap:=h'.push {cls:=.type "tuple",data:=.seq its.toArray} }:=
   I1.laid (t':=s.toks) (λb o e=>aF _ e) (ak _) (show dQ X.prog X.w _ _ _ (.tup ys) from #[hz,its,r',Aw.new _ _])
  exact#[.ref h'.objs.size,_,I2,rfl,q _ (I1.dm.fresh (ak _))]
 .let#[its,r',pl,hz]:=I.tuple hq
  erw[call_tuple_same pl #[.ref p,H,I,rfl,q]]
def W0(K:aI)(T:String)(x:V)(H:Hp):Prop:=match x with
 |.str _=>T="str"
 |.int _=>T="int"
 |.ref p=>(T="list"/\∃xs,i3 K H p xs)\/(T="tuple"/\∃xs,H p=some (.tup xs)) \/
   (T="dict"/\((∃kvs,H p=some (.dK kvs))\/(∃kvs,H p=some (.dT kvs))\/∃kvs,H p=some (.dP kvs)))\/(T="set"/\∃S n,H p=some (.set S n))
 |_=>False
theorem HA(I:Inv X pZ σ H s)(r:RelV x v)(ty:W0 X.K T x H):
  s.TypeIs v T/\∀a,v=.ref a->∃ob,s.heap.get? a=some ob/\ob.dict=none:=by
 cases x with
 |str z=>
  let#[t,rfl]:=r;cases (show T="str" from ty);exact#[typeIs_str s z t,λ_ e=>nomatch e]
 |int i=>
  let#[t,rfl]:=r;cases (show T="int" from ty);exact#[typeIs_int s i t,λ_ e=>nomatch e]
 |ref p=>
  cases r;rcases ty with⟨rfl,xs,hq⟩|⟨rfl,xs,hk⟩|⟨rfl,hk⟩|⟨rfl,S,n,hk⟩
  .let#[its,_,pl,_]:=I.list hq
   refine#[pl.isList.typeIs,λa e=>?_];cases e;let#[o,n,e,c,hd,_]:=pl;exact#[o,e,hd]
  .let#[_,_,_,o,e,hc,_,hd]:=I.dm p _ hk
   refine#[#[o,e,hc],λa e2=>?_];cases e2;exact#[o,e,hd]
  .have z:∃o,s.heap.get? p=some o/\o.ExactDict:=by
    rcases hk with⟨kvs,hk⟩|⟨kvs,hk⟩|⟨kvs,hk⟩<;>(obtain⟨_,_,_,_,o,_,_,e,ex,_⟩:=I.dm p _ hk;exact#[o,e,ex])
   let#[o,e,ex]:=z;refine#[#[o,e,ex.1],λa e2=>?_];cases e2;exact#[o,e,ex.2.1]
  .let#[o,_,_,_,e,ex,_]:=I.dm p _ hk
   refine#[#[o,e,ex.1],λa e2=>?_];cases e2;exact#[o,e,ex.2.1]
 |_=>erw[aO ty]
def X3(K:aI)(T:String)(r:V->List V->Hp->VK->Prop)(to:TE):TE:=λσ H Q=>to σ H λx H1=>W0 K T x H1/\r x [] H1 Q
def ZM(K:aI)(T:String)(r:V->List V->Hp->VK->Prop)(to:TE)(t:TA):TE:=λσ H Q=>to σ H λx H1=>W0 K T x H1/\t σ H1 λxs H2=>r x xs H2 Q
variable{o e:Expr}{es:List Expr}{to:TE}{t:TA}{name:Str}{apos cpos:Pos}{T id:String}{r:V->List V->Hp->VK->Prop}
theorem HB(pa:PlainAttrs T)(slot:Slot T name id)(hty:typeOf (.builtin id)=pure (.type "method_descriptor"))(hm:yP X id r)(ho:PE X o to)
  (hbase:iD o name X.env (eval o X.env)=eval o X.env:=by rfl) (hline:(apos.endLine==cpos.line)=true:=by rfl):PE X (.Call (.Attribute o name apos) [] [] cpos) (X3 X.K T r to):=by
 k_go;rwa[wpAny_Call_method0_late hbase hline (eT (ho pZ s σ H _ I h) λv s1 h9=>?_)];let#[x,H1,I1,r1,ty,q1]:=h9;let#[h1,h2]:=HA I1 r1 ty;exact#[T,id,pa,slot,hty,h1,h2,jB rfl (PySem.evalArgs_none (hm pZ s1 σ H1 x [] v [] Q I1 r1 .nil q1))]
theorem tP(pa:PlainAttrs T)(slot:Slot T name id)(hty:typeOf (.builtin id)=pure (.type "method_descriptor"))(hm:yP X id r)(ho:PE X o to)(ha:PA X (e::es) t)
  (hbase:iD o name X.env (eval o X.env)=eval o X.env:=by rfl)
  (hfew:((iH cpos (bV (e::es) X.env)).all (λx=>!x.1)&&(backToKw cpos (jZ [] X.env)).all (λx=>x.1.isSome)
   && decide ((e::es).length+([]:List oO).length+(if ([]:List oO).isEmpty then 0 else 1)<30))=true:=by rfl)
  (hline:(apos.endLine==cpos.line)=true:=by rfl) (hs:bV (e::es) X.env=(false,eval e X.env)::bV es X.env:=by rfl) (hplain:(iH cpos (bV es X.env)).any (·.1)=false:=by rfl):
  PE X (.Call (.Attribute o name apos) (e::es) [] cpos) (ZM X.K T r to t):=by
 k_go;refine wpAny_Call_method_late hbase hfew hline rfl (eT (ho pZ s σ H _ I h) λv s1 h9=>?_);let#[x,H1,I1,r1,ty,q1]:=h9;let#[h1,h2]:=HA I1 r1 ty;refine#[T,id,pa,slot,hty,h1,h2,?_];have hA:=ha cpos pZ s1 σ H1 _ I1 q1;rw[hs] at hA ⊢;refine jB (by show(false||(iH cpos (bV es X.env)).any (·.1))=false;rw[hplain]<;>rfl) (p9 ?_);refine eT hA λus s2 h9=>?_
 let#[vs,H2,I2,r2,q2]:=h9;erw[hm pZ s2 σ H2 x vs v us Q I2 r1 r2 q2]
end
def ZN(X:Cx)(id:String)(r:V->List V->Hp->VK->Prop):Prop:=
 ∀(pZ:List (Addr×Obj))(s:az)(σ:St)(H:Hp)(x:V)(xs:List V)(v:Value)(us:List Value)(Q:VK),Inv X pZ σ H s->RelV x v->Vals xs us->r x xs H Q ->
  wpAny (bb X.prog X.w) X.A (call (.builtin id) (v::us)) (EP X pZ σ Q) X.xe s
theorem Vals.one:∀{x:V}{us:List Value},Vals [x] us->∃u,us=[u]/\RelV x u
 := by
 intro _ _ h;cases h with|cons r q=>cases q;exact#[_,rfl,r]
theorem Vals.two:∀{x y:V}{us:List Value},Vals [x,y] us->∃u v,us=[u,v]/\RelV x u/\RelV y v
 := by
 intro _ _ _ h;cases h with|cons r q=>cases q with|cons q q'=>cases q';exact#[_,_,rfl,r,q]
section
variable{X:Cx}{pZ:List (Addr×Obj)}{σ:St}{H:Hp}{s:az}{l b:Addr}{xs ys zs:List V}
theorem Inv.T6{its its':List Value}{n:Nat}{f:Array Value->Array Value}{t':Nat}(I:Inv X pZ σ H s)(hH:H l=some (.lst xs))
  (e:s.heap.get? l=some {cls:=.type "list",data:=.seq its.toArray n}) (hf:f its.toArray=its'.toArray) (hv:Vals ys its') (hz:ys.length<=sizeLine):
  Inv X pZ σ (upd H l (.lst ys)) {s with heap:=s.heap.update l (sG f),toks:=t'}:=by
 have q:=PySem.IsL.update e f;rw[hf] at q;rwa[I.write (x:=l) (e:=l) (by rw[hH];erw[trivial]) (.inl rfl) (λb' u hb hu=>(oN s.heap (sG f) (cC hb)).trans hu) #[_,q] ?_];exact#[hz,its',_,hv,q]
theorem Inv.T7(I:Inv X pZ σ H s)(hv:Vals ys its)(hz:ys.length<=sizeLine):
  Inv X pZ σ (upd H s.heap.objs.size (.lst ys)) {s with heap:=s.heap.push {cls:=.type "list",data:=.seq its.toArray},toks:=t'}:=
 I.laid (λ_ _ q=>aF _ q) (ak _) #[hz,its,0,hv,a9 _ rfl]
theorem Inv.fresh(I:Inv X pZ σ H s):H s.heap.objs.size=none:=I.dm.fresh (ak _)
theorem Inv.Fs(I:Inv X pZ σ H s)(hH:H l=some (.lst xs)):xs.length<=sizeLine/\∃(its:List Value)(n:Nat),Vals xs its/\xs.length=its.length/\s.heap.get? l=some {cls:=.type "list",data:=.seq its.toArray n}:=by
 let#[z,its,n,r,e]:=I.dm l _ hH;exact#[z,its,n,r,r.length,e]
theorem HC(h:n<=sizeLine):Builtin.List.listTooLong n=false:=by
 unfold Builtin.List.listTooLong;erw[decide_eq_false ∅]
end
section
variable{X:Cx}
def Ly:V->List V->Hp->VK->Prop:=λx vs H Q=>∃l xs y,x=.ref l/\vs=[y]/\H l=some (.lst xs)/\xs.length<sizeLine/\Q .bQ (upd H l (.lst (xs++[y])))
theorem sO:ZN X "list.append" Ly:=by
 intro pZ s σ H x vs v us Q I rx rv h;let#[l,xs,y,rfl,rfl,hH,hz,q]:=h;cases rx;let#[u,rfl,ru]:=rv.one;let#[z,its,n,r,hl,e]:=I.Fs hH;rwa[u6 F.slot_list_append #[_,e,rfl] F.entry_list_append (F.args_list_append_2 _ _) (PySem.list_append l its.toArray n u (by rw[aH];omega)) #[e,?_]];refine#[.bQ,_,I.T6 (its':=its++[u]) hH e (by simp) (r.append (.cons ru .nil)) ?_,rfl,q];rw[ar,gH]
 omega
def Lz:V->List V->Hp->VK->Prop:=λx vs H Q=>∃l b xs zs,x=.ref l/\vs=[.ref b]/\H l=some (.lst xs)/\H b=some (.lst zs)/\xs.length+zs.length<=sizeLine/\Q .bQ (upd H l (.lst (xs++zs)))
theorem xJ:ZN X "list.extend" Lz:=by
 intro pZ s σ H x vs v us Q I rx rv h;let#[l,b,xs,zs,rfl,rfl,hH,hB,hz,q]:=h;cases rx;let#[u,rfl,ru]:=rv.one;cases ru;let#[z,its,n,r,hl,e]:=I.Fs hH;let#[z2,its2,n2,r2,hl2,e2]:=I.Fs hB;have hsz:its.toArray.size+its2.toArray.size<=sizeLine:=by rw[aH,aH];omega
 have hlong:¬(!its.toArray.isEmpty&&Builtin.List.listTooLong (its.toArray.size+its2.toArray.size))=true:=by
  rw[HC hsz,Bool.and_false]
  erw[aV]
 refine u6 F.slot_list_extend #[_,e,rfl] F.entry_list_extend (F.args_list_extend_2 _ _)
  (AutoSeq1.list_extend_list_list_0 l its.toArray n b its2.toArray n2 hlong (by rw[aH];omega) ∅) #[e,e2,?_]
 refine#[.bQ,_,I.T6 (its':=its++its2) hH e (by simp) (r.append r2) ?_,rfl,q];rw[ar]
 omega
def X4:R2:=λx y H Q=>∃l b xs zs,x=.ref l/\y=.ref b/\H l=some (.lst xs)/\H b=some (.lst zs)/\xs.length+zs.length<=sizeLine/\∀p,H p=none->Q (.ref p) (upd H p (.lst (xs++zs)))
theorem Ph:iI X (cL .Add) X4:=by
 x_go;let#[l,b,xs,zs,rfl,rfl,hH,hB,hz,q]:=h;cases rx;cases ry;let#[z,its,n,r,hl,e]:=I.Fs hH;let#[z2,its2,n2,r2,hl2,e2]:=I.Fs hB;rwa[PySem.P.add_list e e2 ?_ (by rw[aH,aH];omega)];have ea:its.toArray++its2.toArray=(its++its2).toArray:=by simp
 rw[ea]
 exact#[.ref _,_,I.T7 (t':=s.toks) (r.append r2) (by rw[ar];omega),rfl,q _ I.fresh]
end
end L2
namespace ZO
open PySem PySem.W PySem.Calls PyProof.Rows
theorem uf:∀(ns:List Int)(vs:List Value),WellAll P h vs (ns.map WData.int)->Ha vs ns:=by
 intro ns;induction ns with
 |nil=>
  intro vs w;rw[jF] at w;cases w;erw[.nil]
 |cons n ns ih=>
  intro vs w;rw[au] at w;cases w with
  |cons a b=>
   cases a;erw[.cons _ _ (ih _ b)]
theorem Ft{l:Hb}{n:Nat}(hn:l.most=some n){P:Params}{h:Heap}{args:List WData}{vals:List Value}
  (hpre:l.row.toRowW.claim.pre args=true) (hwl:WellAll P h vals args):
  ∃a vs ns,vals=[bf a]/\args=[WData.list (ns.map WData.int)]/\h.get? a=some {cls:=.type "list",data:=.seq vs.toArray}/\Ha vs ns/\ns.length<=n:=by
 have hsh:WShape.hasAll [] args [.list .int]=true:=(pre_splitW hpre).1;have hc:l.pre.holds [] {args:=args}= true:=(pre_splitW hpre).2;let#[d,r,rfl,h1,h2]:=hasAllW_cons hsh;obtain rfl:=hasAllW_nil h2;let#[xs,rfl,h3]:=hasW_list h1;let#[ns,rfl]:=items_int h3;have hlen:ns.length<=n:=by
  unfold OpenLaw.pre at hc;have h4:(WTm.not (.lt (.lit (.int (n:Int))) (.len (.arg 0)))).holds [] {args:=[.list (ns.map .int)]}= true:=by
   have h4:=(holds_andW hc).1;rw[hn] at h4;erw[h4]
  have h5:=condW_of h4 (w_not (w_lt w_lit (w_len_list (w_arg rfl))));rw[af] at h5;rwa[fP λq=>?_]
  have q':(n:Int)<((ns.length:Nat):Int):=∅
  first
   | (rw[decide_eq_true q'] at h5;erw[absurd h5 ⋯])
   | (simp at h5;omega)
 cases hwl with
 |cons w1 w2=>
  cases w2;cases w1 with
  |list ho hall=>exact#[_,_,ns,rfl,rfl,ho,uf ns _ hall,hlen]
theorem Fu(l:Hb)(args:List WData):l.row.toRowW.claim.post args (.bool true) args=true:=
 postW_of (r:=l.row.toRowW) (X:=(true==true))
  (show WShape.has [] (.bool true) .bool=true by first|rfl|decide|simp[WShape.has,WShape.arms,WShape.armsAll])
  (show(WTm.eq .res (.lit (.bool true))).value [] {args:=args,res:=some (.bool true),after:=args}= some (.bool (true==true)) from w_eq_bool (w_res rfl) w_lit) rfl
theorem AI{l:Hb}{n:Nat}{q:bD}{loose:List Str}{XP:(Str->Option Value)->Heap->Prop}{YP:cy->Heap->Prop}{d:DefRec}
  (hn:l.most=some n) (hdf:d.params.defaults=[])
  (call:∀(w:cy)(s₀ s₁:az)(mg mb:Str->Option Value)(fa:Addr)(o:Obj)(pm cd doc:Value)(a:Addr)(vs:List Value)(ns:List Int),
   Ground q loose [] XP w s₀ mg mb s₁.heap->YP w s₁.heap ->
   s₁.heap.get? fa=some o->o.data=.func (docDef d.name d.params d.body d.scope pm cd doc)->s₁.heap.CodeRec cd d.name->mg d.name=some (.ref fa) ->
   s₁.heap.get? a=some {cls:=.type "list",data:=.seq vs.toArray}->Ha vs ns->ns.length<=n->s₁.gens = #[] ->
   qA (bb l.prog w) wB (.call (.ref fa) #[[.ref a],[]]) (λr s'=>r=.ok (.ret (.bool true))/\OldK s₁.heap s'.heap/\s'.os=s₁.os/\oM s'.gens) s₁):
  WalkO q loose XP YP l.row.toRowW d [] (λf vs=>E0 f vs):=by
 intro w s₀ s₁ mg mb G Y fa o pm cd doc dV kV ho hd hcd hD hmg hg args vals as hpre hlay hrd hwl hlo;obtain rfl:dV=.none:=Dflts.none hD hdf;obtain rfl:kV=.none:=Dflts.noKw hD;let#[a,vs,ns,rfl,rfl,hobj,hints,hlen]:=Ft hn hpre hwl;rwa[enter_call (wC (call w s₀ s₁ mg mb fa o pm cd doc a vs ns G Y ho (fd_plain hd) hcd hmg hobj hints hlen hg) λr s' hq=>?_)];let#[rfl,h2,h3,h4]:=hq;exact#[.inl #[.bool true,.bool true,[],rfl,λ_=>rfl,.bool true,Fu l _,λ_=>#[xp,λ_ hm=>(nomatch hm)]],h2,h3,h4]
end ZO
namespace L2
open PySem PySem.Spec PyProof.Rows
theorem xK:∀{vs:List Value}{ns:List Int},Ha vs ns->Vals (ns.map V.int) vs
 |_,_,.nil=>.nil
 |_,_,.cons n t h=>.cons #[t,rfl] (xK h)
def LA(H:Hp):Prop:=∀b,H b=none\/∃o xs,H b=some (.sE o (.lst xs))
theorem HD{P:bD}{w:cy}{K:aI}{mg mb:Str->Option Value}{CX:Hy}{k:Nat}{fa a:Addr}{fd:fq}{x:Str}{sp:Sp}{s₁:az}{vs:List Value}{ns:List Int}
  (KX:K.In s₁.heap) (hns:s₁.heap.Ns bz mg) (hb:s₁.heap.Ns B9 mb) (hbb:∀x:Str,x≠"__name__"->mb x=qz x) (hlim:s₁.heap.NoLimit) (hg:s₁.gens = #[])
  (ha:s₁.heap.get? a=some {cls:=.type "list",data:=.seq vs.toArray}) (hi:Ha vs ns) (hl:ns.length<=sizeLine) (hr:kH k wB)
  (F:∀base:Heap,K.In base->base.Ns bz mg->kI P w K mg base CX k fa fd [x] sp) (hbind:∀(s:az)(u:Value),BP s fd #[[u],[]] [(x,u)])
  (hsp:∀H:Hp,LA H->i3 K H a (ns.map V.int)->sp [.ref a] H (λv _=>v=.bl true) λ_ _ _=>False)
  (hCX:∀H e s',CX [] H s₁ (λ_ _ _=>False) e s'->False):
  qA (bb P w) wB (.call (.ref fa) #[[.ref a],[]]) (λr s'=>r=.ok (.ret (.bool true))/\OldK s₁.heap s'.heap/\s'.os=s₁.os/\oM s'.gens) s₁:=by
 have rv:=xK hi;have lenV:=hi.length;have core:∀H:Hp,LA H->i3 K H a (ns.map V.int)->oB P w H s₁.heap->(∀b,H b≠none->b=a)->(H a≠none->K.lookup a=none) ->
   qA (bb P w) wB (.call (.ref fa) #[[.ref a],[]]) (λr s'=>r=.ok (.ret (.bool true))/\OldK s₁.heap s'.heap/\s'.os=s₁.os/\oM s'.gens) s₁:=by
  intro H hO hS dm hA hK;have eY:∀{b:Addr}{o:Obj},s₁.heap.get? b=some o->H b=none->(yH s₁.heap H).get? b=some o:=λe n=>Hj e n
  have noA:∀{b:Addr}{o:Obj}{es:Array yC}{ep:Nat},s₁.heap.get? b=some o->o.data=.dict es ep->H b=none:=λ{b o es ep}e d=>by
   cases q:H b with
   |none=>rfl
   |some u=>
    have e':b=a:=hA b (by rw[q];simp);subst e';rw[ha] at e;cases e;have d':Data.seq vs.toArray _=Data.dict es ep:=d;cases d'
  have nsK:∀{b:Addr}{m:Str->Option Value},s₁.heap.Ns b m->(yH s₁.heap H).Ns b m:=λ{b m} ⟨o,es,ep,e,d,r⟩=>#[o,es,ep,eY e (noA e d),d,r]
  have hKb:K.In (yH s₁.heap H):=λb o e=>eY (KX b o e) (by
   cases q:H b with
   |none=>rfl
   |some u=>
    have e':b=a:=hA b (by rw[q];simp);subst e';rw[hK (by rw[q];simp)] at e;cases e)
  have hM:Mod K mg (yH s₁.heap H):=#[hKb,nsK hns,#[mb,nsK hb,hbb],let ⟨mc,h1,h2⟩:=hlim;#[mc,nsK h1,h2]]
  have e0:Cw P w K mg (yH s₁.heap H) wB [] s₁ H:=#[rfl,hM,λb o e=>K7 e,Ca (Fe _ _),trivial,λb hb=>absurd (show b∈([]:List Addr) from hb) (by simp),dm,.of_eq hg]
  rwa[wC ((F _ hKb (nsK hns)).run wB [] s₁ H #[[.ref a],[]] [.ref a] [.ref a] _ _ hr e0 (hbind s₁ (.ref a)) (.cons rfl .nil) (hsp H hO hS)) λr s' h=>?_]
  cases r with
  |error e=>exact(hCX H e s' h).elim
  |ok fl=>
   cases fl with
   |next=>erw[aO h]
   |brk=>erw[aO h]
   |cont=>erw[aO h]
   |ret u=>
    let#[v,H',os,bare,un,hok',r',q]:=h;have q':v=.bl true:=q;subst q';obtain rfl:u=kr true:=r';refine#[rfl,OldK.of_keep λb o e=>?_,os,bare];cases q:H b with
    |none=>erw[un.keep b o e q (by intro z;exact absurd (show b∈([]:List Addr) from z) (by simp)) (by simp)]
    |some u=>
     rcases hO b with z|⟨ob,xs,z⟩
     .rw[q] at z;cases z
     .have z2:=un.yG b ob _ z
      let#[e1,_]:=dm b _ z;let#[e2,_]:=hok' b _ z2;rw[e] at e1;cases e1;erw[e2]
 cases hk:K.lookup a with
 |some o=>
  have e:=KX a o hk;rw[ha] at e;cases e;refine core (λ_=>none) (λ_=>.inl rfl) (.inr #[_,vs.toArray,_,hk,rfl,rfl,rfl,by rw[aH,lenV];erw[hl],by simpa using rv]) (λb u z=>by have z':(none:Option HO)=some u:=z;cases z') (λb z=>absurd rfl z) λz=>absurd rfl z
 |none=>
  rwa[core (λb=>if b=a then some (.sE {cls:=.type "list",data:=.seq vs.toArray} (.lst (ns.map V.int))) else none) (λb=>?_) (.inl (.inr #[{cls:=.type "list",data:=.seq vs.toArray},if_pos rfl])) (λb u z=>?_) (λb z=>?_) λ_=>hk]
  .by_cases hb:b=a
   .erw[.inr #[_,_,if_pos hb]]
   .erw[.inl (if_neg hb)]
  .by_cases hb:b=a
   .have z':=(if_pos hb).symm.trans z
    cases z';subst hb;exact#[ha,by rw[af];erw[hl],vs,_,rv,ha]
   .have z':=(if_neg hb).symm.trans z
    cases z'
  .by_cases hb:b=a
   .erw[hb]
   .erw[absurd (if_neg hb) z]
theorem LB{l:PySem.W.OpenLaw}{n k:Nat}{q:bD}{loose:List Str}{XP:(Str->Option Value)->Heap->Prop}{YP:cy->Heap->Prop}{d:DefRec}{K:Params->aI}{CX:cy->Hy}{sp:cy->Sp}{x:Str}
  (hn:l.most=some n) (hn2:n<=sizeLine) (hdf:d.params.defaults=[]) (hr:kH k wB)
  (hY:∀(w:cy)(h:Heap),YP w h->(K w.params).In h)
  (F:∀(w:cy)(mg:Str->Option Value)(fa:Addr)(h:Heap),(K w.params).In h->h.Ns bz mg->mg d.name=some (.ref fa) ->
   ∃fd:fq,(∀(s:az)(u:Value),BP s fd #[[u],[]] [(x,u)]) /\
    ∀base:Heap,(K w.params).In base->base.Ns bz mg->kI l.prog w (K w.params) mg base (CX w) k fa fd [x] (sp w))
  (hsp:∀(w:cy)(H:Hp)(a:Addr)(ns:List Int),ns.length<=n->LA H->i3 (K w.params) H a (ns.map V.int)->sp w [.ref a] H (λv _=>v=.bl true) λ_ _ _=>False)
  (hCX:∀(w:cy)(H:Hp)(s:az)(e:Value)(s':az),CX w [] H s (λ_ _ _=>False) e s'->False):
  PySem.W.WalkO q loose XP YP l.row.toRowW d [] (λf vs=>E0 f vs):=by
 rwa[ZO.AI hn hdf λw s₀ s₁ mg mb fa o pm cd doc a vs ns G Y ho hd hcd hmg hobj hints hlen hg=>?_]
 have KX:=hY w _ Y;let#[fd,hb,hF]:=F w mg fa _ KX G.T.g hmg;erw[HD KX G.T.g G.T.b G.T.builtins G.T.nolimit hg hobj hints (aJ hlen hn2) hr hF hb (λH hO hS=>hsp w H a ns hlen hO hS) λH e s'=>hCX w H s₁ e s']
noncomputable def inClass(s:Stmt)(j:Nat):Stmt:=match s with
 |.ClassDef _ _ _ body _ _ _ _ _ _ _=>body.getD j (.Pass #[0,0,0,0])
 |_=>.Pass #[0,0,0,0]
noncomputable def l9(s:Stmt):Arguments:=match s with
 |.FunctionDef _ a _ _ _ _ _ _ _ _=>a
 |_=>{posonlyargs:=[],args:=[],vararg:=none,kwonlyargs:=[],kw_defaults:=[],kwarg:=none,defaults:=[]}
noncomputable def fQ(s:Stmt):List Stmt:=match s with
 |.FunctionDef _ _ b _ _ _ _ _ _ _=>b
 |_=>[]
noncomputable def bN(s:Stmt):jW:=match s with
 |.FunctionDef _ _ _ _ _ _ sc _ _ _=>sc
 |_=>{kind:=.function,names:=[],isGenerator:=false,isCoroutine:=false}
structure KG(K:aI)(x qual:Str)(st:Stmt)(f:Addr)(fd:fq):Prop where
 ex:∃(oc:Value)(od:Option Addr)(kV doc pm:Value)(an:Option Addr)(cdv ct:Value)(osl:Array (Option Value)),
  fd=kP x qual (l9 st) (fQ st) (bN st) .none kV doc pm an cdv ct/\K.lookup f=some #[oc,od,.func fd,osl]/\u5 K cdv qual=true
 kp:oS K (.ref f)=true
section
variable{P:bD}{w:cy}{K:aI}{mg:Str->Option Value}{base:Heap}
theorem KG.binds{x qual:Str}{st:Stmt}{f:Addr}{fd:fq}{ps:List Str}(F:KG K x qual st f fd)
  (h:∀(kV doc pm:Value)(an:Option Addr)(cdv ct:Value)(us:List Value),us.length=ps.length->KW (kP x qual (l9 st) (fQ st) (bN st) .none kV doc pm an cdv ct) #[us,[]]=pure (ps.zip us)):Binds K fd ps []:=by
 let#[oc,od,kV,doc,pm,an,cdv,ct,osl,rfl,lk,hcd]:=F.ex;erw[.all (h kV doc pm an cdv ct)]
theorem HE{x qual:Str}{st:Stmt}{f:Addr}{oc:Value}{od an:Option Addr}{osl:Array (Option Value)}{kV doc pm cdv ct:Value}(l:K.lookup f=some #[oc,od,.func (kP x qual (l9 st) (fQ st) (bN st) .none kV doc pm an cdv ct),osl])
  (c:u5 K cdv qual=true) (k:oS K (.ref f)=true):KG K x qual st f (kP x qual (l9 st) (fQ st) (bN st) .none kV doc pm an cdv ct):=#[#[oc,od,kV,doc,pm,an,cdv,ct,osl,rfl,l,c],k]
end
section
variable{κ:Type}[DecidableEq κ]
noncomputable def jC(kvs:List (κ×V))(k:κ):Option V:=(kvs.find? λkv=>decide (kv.1=k)).map (·.2)
noncomputable def putK(kvs:List (κ×V))(k:κ)(v:V):List (κ×V):=
 if (kvs.any λkv=>decide (kv.1=k))=true then kvs.map (λkv=>if kv.1=k then(kv.1,v) else kv) else kvs++[(k,v)]
theorem lD{p:κ×V}{r:List (κ×V)}{k:κ}(e:p.1=k):jC (p::r) k=some p.2:=by simp[jC,dY,e]
theorem lE{p:κ×V}{r:List (κ×V)}{k:κ}(e:¬p.1=k):jC (p::r) k=jC r k:=by simp[jC,dY,e]
theorem vi(k:κ):∀kvs:List (κ×V),(kvs.any λkv=>decide (kv.1=k))=(jC kvs k).isSome
 |[]=>rfl
 |p::r=>by
  rw[dG]
  by_cases e:p.1=k
  .dsimp[lD e,decide_eq_true e,Bool.true_or,qS]
  .rw[lE e,decide_eq_false e,Bool.false_or];erw[vi k r]
theorem oY(kvs:List (κ×V))(k:κ)(v:V):(putK kvs k v).length<=kvs.length+1:=by
 unfold putK;split
 .rw[af];omega
 .rw[ar,aU,dq];omega
theorem AJ{kvs:List (κ×V)}{k:κ}(v:V)(h:jC kvs k=none):putK kvs k v=kvs++[(k,v)]:=by
 unfold putK;rw[vi,h]
 erw[if_neg ⋯]
theorem nA.sP(r:nA o u):o.isSome=u.isSome:=by
 cases o with
 |none=>cases u with
  |none=>rfl
  |some _=>exact(show False from r).elim
 |some _=>cases u with
  |none=>exact(show False from r).elim
  |some _=>rfl
theorem nA.getD(r:nA o u)(rd:RelV d d'):RelV (o.getD d) (u.getD d'):=by
 cases o with
 |none=>cases u with
  |none=>erw[rd]
  |some _=>exact(show False from r).elim
 |some _=>cases u with
  |none=>exact(show False from r).elim
  |some _=>erw[r]
theorem KV.val{kvs:List (κ×V)}{vs:List (κ×Value)}(r:KV kvs vs)(k:κ):nA (jC kvs k) (lS vs k):=by
 unfold KV at r;induction r with
 |nil=>erw[eM]
 |@cons p q ps qs h t ih=>
  let#[h1,h2]:=h;by_cases e:p.1=k
  .have e':q.1=k:=h1.symm.trans e
   have b:lS (q::qs) k=some q.2:=by simp[lS,dY,e']
   rw[lD e,b];erw[h2]
  .have e':¬q.1=k:=λz=>e (h1.trans z)
   have b:lS (q::qs) k=lS qs k:=by simp[lS,dY,e']
   rw[lE e,b];erw[ih]
theorem KV.any(r:KV kvs vs)(k:κ):(kvs.any λkv=>decide (kv.1=k))=vs.any λkv=>decide (kv.1=k):=by
 unfold KV at r;induction r with
 |nil=>rfl
 |cons h t ih=>rw[dG,dG,ih,h.1]
theorem KV.Pj(r:KV kvs vs)(k:κ)(ry:RelV y u):
  KV (kvs.map λkv=>if kv.1=k then(kv.1,y) else kv) (vs.map λkv=>if kv.1=k then(kv.1,u) else kv):=by
 unfold KV at r ⊢;induction r with
 |nil=>erw[.nil]
 |@cons p q ps qs h t ih=>
  rw[au,au]
  rwa[.cons ?_ ih];let#[h1,h2]:=h;by_cases e:p.1=k
  .rw[if_pos e,if_pos (h1.symm.trans e)];exact#[h1,ry]
  .rw[if_neg e,if_neg (λz=>e (h1.trans z))];exact#[h1,h2]
theorem KV.put(r:KV kvs vs)(k:κ)(ry:RelV y u):KV (putK kvs k y) (u7 vs k u):=by
 unfold putK u7;rw[r.any k]
 by_cases e:(vs.any λkv=>decide (kv.1=k))=true
 .rw[if_pos e,if_pos e];erw[r.Pj k ry]
 .rw[if_neg e,if_neg e];erw[Paired.snoc r #[rfl,ry]]
theorem KV.keys{kvs:List (κ×V)}{vs:List (κ×Value)}(r:KV kvs vs):kvs.map (·.1)=vs.map (·.1):=by
 unfold KV at r;induction r with
 |nil=>rfl
 |cons h t ih=>rw[au,au,ih,h.1]
theorem KV.length(r:KV kvs vs):kvs.length=vs.length:=Paired.length r
end
theorem rF(r:RelV (kV k) u):(cX P w).is k u=true:=by
 rcases k with i|_|x
 .let#[t,e]:=(show ∃t,u=lQ i t from r);subst e;erw[Au P w i t]
 .cases (show u=cv from r);rfl
 .let#[t,e]:=(show ∃t,u=lR x t from r);subst e;erw[Av P w x t]
theorem Pk(e:kV a=kV b):a=b:=by
 rcases a with i|_|x<;>rcases b with j|_|y<;>cases e<;>rfl
theorem xM:∀{ks:List Key}{us:List Value},Vals (ks.map kV) us->ItemsAre (cX P w) ks us
 |[],_,r=>by rw[jF] at r;cases r;erw[.nil]
 |k::ks,_,r=>by
  rw[au] at r;cases r with
  |cons h t=>erw[.cons (rF h) (xM t)]
abbrev KT(H:Hp):List (List Key×V)->List (List Key×Addr×Value)->Prop:=Paired λp q=>p.1=q.1/\H q.2.1=some (.tup (p.1.map kV))/\RelV p.2 q.2.2
theorem KT.val{H:Hp}{kvs:List (List Key×V)}{xs:List (List Key×Addr×Value)}(r:KT H kvs xs)(k:List Key):nA (jC kvs k) ((qT xs k).map (·.2)):=by
 induction r with
 |nil=>erw[eM]
 |@cons p q ps qs h t ih=>
  let#[h1,_,h2]:=h;by_cases e:p.1=k
  .have e':q.1=k:=h1.symm.trans e
   have b:qT (q::qs) k=some q.2:=by simp[qT,dY,e']
   rw[lD e,b];erw[h2]
  .have e':¬q.1=k:=λz=>e (h1.trans z)
   have b:qT (q::qs) k=qT qs k:=by simp[qT,dY,e']
   rw[lE e,b];erw[ih]
theorem KT.Pj(r:KT H kvs xs)(k:List Key)(ry:RelV y u):
  KT H (kvs.map λkv=>if kv.1=k then(kv.1,y) else kv) (xs.map (putAt k u)):=by
 induction r with
 |nil=>erw[.nil]
 |@cons p q ps qs h t ih=>
  rw[au,au]
  rwa[.cons ?_ ih];let#[h1,h2,h3]:=h;unfold putAt;by_cases e:p.1=k
  .rw[if_pos e,if_pos (h1.symm.trans e)];exact#[h1,h2,ry]
  .rw[if_neg e,if_neg (λz=>e (h1.trans z))];exact#[h1,h2,h3]
theorem KT.put(r:KT H kvs xs)(k:List Key)(hb:H b=some (.tup (k.map kV)))(ry:RelV y u):
  KT H (putK kvs k y) (storedH xs k b u):=by
 have e:(kvs.any λkv=>decide (kv.1=k))=(qT xs k).isSome:=by
  rw[vi,(r.val k).sP,E1]
 unfold putK storedH;rw[e]
 by_cases q:(qT xs k).isSome=true
 .rw[if_pos q,if_pos q];erw[r.Pj k ry]
 .rw[if_neg q,if_neg q];erw[Paired.snoc r #[rfl,hb,ry]]
theorem KT.keeps(r:KT H kvs xs)(ht:∀b ys,H b=some (.tup ys)->H' b=some (.tup ys)):KT H' kvs xs:=
 Paired.Fd r λ_ _ z=>#[z.1,ht _ _ z.2.1,z.2.2]
section
variable{P:bD}{w:cy}{H:Hp}{h:Heap}{a:Addr}
theorem NP(ok:oB P w H h)(e:Rd H a u):dQ P w H h a u:=e.ok ok
theorem tQ(ok:oB P w H h)(e:Rd H a (.dK kvs)):kvs.length<=sizeLine/\(a==bZ)=false/\∃vs,KV kvs vs/\h.DictOf (cX P w) a vs:=
 show dQ P w H h a (.dK kvs) from NP ok e
theorem HF(ok:oB P w H h)(e:H a=some (.dK kvs)):kvs.length<=sizeLine/\(a==bZ)=false/\∃vs,KV kvs vs/\h.DictOf (cX P w) a vs:=tQ ok (.inl e)
theorem qD(ok:oB P w H h)(e:H a=some (.tup (ks.map kV))):(nh (cX P w)).is h ks a:=by
 let#[_,its,r,o,h1,h2,#[n,h3],_]:=(show dQ P w H h a (.tup (ks.map kV)) from ok a _ e)
 exact#[o,its.toArray,n,h1,h2,h3,by simpa using xM r]
theorem vj(ok:oB P w H h)(e:Rd H a (.dT kvs)):kvs.length<=sizeLine/\(a==bZ)=false /\
  ∃xs,KT H kvs xs/\h.DictOfH (nh (cX P w)) a xs:=by
 let#[z,y,xs,r,o,es,ep,h1,h2,h3,h4,h5]:=(show dQ P w H h a (.dT kvs) from NP ok e)
 refine#[z,y,xs,r,o,es,ep,h1,h2,h3,h4,λx hx=>?_,h5];have all:∀{l:List (List Key×V)}{m:List (List Key×Addr×Value)},KT H l m->∀x∈m,(nh (cX P w)).is h x.1 x.2.1:=by
  intro l m q;induction q with
  |nil=>intro x hx;erw[nomatch hx]
  |@cons p q ps qs hq t ih=>
   intro x hx;rcases aN.mp hx with e|hx
   .subst e
    erw[qD ok (by rw[<-hq.1];exact hq.2.1)]
   .erw[ih x hx]
 erw[all r x hx]
theorem DT(ok:oB P w H h)(e:H a=some (.dT kvs)):kvs.length<=sizeLine/\(a==bZ)=false /\
  ∃xs,KT H kvs xs/\h.DictOfH (nh (cX P w)) a xs:=vj ok (.inl e)
end
def sQ(H:Hp)(a:Addr)(y:V)(r:Option V):Prop:=
 (∃kvs k,Rd H a (.dK kvs)/\y=kV k/\r=jC kvs k)\/∃kvs k b,Rd H a (.dT kvs)/\y=.ref b/\H b=some (.tup (k.map kV))/\r=jC kvs k
def T8(H:Hp)(a:Addr)(y v:V)(H':Hp):Prop:=
 (∃kvs k,H a=some (.dK kvs)/\y=kV k/\kvs.length<sizeLine/\H'=upd H a (.dK (putK kvs k v))) \/
 ∃kvs k b,H a=some (.dT kvs)/\y=.ref b/\H b=some (.tup (k.map kV))/\kvs.length<sizeLine/\H'=upd H a (.dT (putK kvs k v))
theorem sQ.k{H:Hp}{a:Addr}{kvs:List (Key×V)}{k:Key}(e:H a=some (.dK kvs)):sQ H a (kV k) (jC kvs k):=.inl #[kvs,k,.inl e,rfl,rfl]
section
variable{X:Cx}{pZ:List (Addr×Obj)}{σ:St}{H:Hp}{s:az}{a:Addr}{y v:V}{u r:Value}{o:Option V}{A:dD}{E:Value->az->Prop}
theorem Inv.big(I:Inv X pZ σ H s):bZ<s.heap.objs.size:=by
 have h:bz<s.heap.objs.size:=(I.mod.glob.keeps I.bk).lt;erw[jN ⋯ h]
theorem Fv(hu:A.units+1<fF)(I:Inv X pZ σ H s)(g:sQ H a y (some v))(ry:RelV y u)(h:∀w' s',Inv X pZ σ H s'->RelV v w'->Q w' s'):
  wpAny (bb X.prog X.w) A (tI (.ref a) u) Q E s:=by
 rcases g with⟨kvs,k,e,ey,l⟩|⟨kvs,k,b,e,ey,eb,l⟩
 .subst ey
  let#[z,hd,vs,rel,dd]:=tQ I.dm e;let#[w',hw,rw']:=nA.some_of (v:=v) (o:=lS vs k) (by rw[l];erw[rel.val k]);erw[wpAny_getItem_of (rF ry) dd.mapOf hw (h w' _ (I.tok _) rw')]
 .subst ey
  cases (show u=bf b from ry);let#[z,hd,xs,rel,dd]:=vj I.dm e;let#[w',hw,rw']:=nA.some_of (v:=v) (o:=(qT xs k).map (·.2)) (by rw[l];erw[rel.val k]);let#[p,hp,hp2]:=aq.mp hw;rwa[wpAny_getItem_heap (gO hu) (qD I.dm eb) dd hp ?_];rw[hp2]
  erw[h w' _ (I.tok _) rw']
theorem LC(hu:A.units+1<fF)(I:Inv X pZ σ H s)(g:sQ H a y o)(ry:RelV y u)(h:∀s',Inv X pZ σ H s'->Q (.bool (!o.isSome)) s'):
  wpAny (bb X.prog X.w) A (bH .NotIn u (.ref a)) Q E s:=by
 rcases g with⟨kvs,k,e,ey,l⟩|⟨kvs,k,b,e,ey,eb,l⟩
 .subst ey
  let#[z,hd,vs,rel,dd]:=tQ I.dm e;rwa[wpAny_notIn_of (rF ry) hd dd.mapOf ?_];rw[<-(rel.val k).sP,<-l]
  erw[h _ (I.tok _)]
 .subst ey
  cases (show u=bf b from ry);let#[z,hd,xs,rel,dd]:=vj I.dm e;rwa[wpAny_notIn_heap (gO hu) (qD I.dm eb) hd dd ?_];have q:=(rel.val k).sP;rw[E1] at q;rw[<-q,<-l]
  erw[h _ (I.tok _)]
theorem pF(I:Inv X pZ σ H s)(mu:Ss (H a))(hs:gx a s.heap h')(he:∃q,h'.get? a=some q)(new:dQ X.prog X.w (upd H a ob) h' a ob):
  Inv X pZ σ (upd H a ob) {s with heap:=h',toks:=t'}:=
 I.write (x:=a) (e:=a) mu (.inl rfl) (λb q hb z=>(hs.2 b hb).trans z) he new
theorem yS(z:kvs.length<=sizeLine)(hd:(a==bZ)=false)(rel:KV kvs vs)(dd:h'.DictOf (cX P w) a vs):
  dQ P w H' h' a (.dK kvs):=#[z,hd,vs,rel,dd]
theorem Fw(hu:A.units+1<fF)(I:Inv X pZ σ H s)(g:T8 H a y v H')(ry:RelV y u)(rv:RelV v r)(h:∀s',Inv X pZ σ H' s'->Q () s'):
  wpAny (bb X.prog X.w) A (setItem (.ref a) u r) Q E s:=by
 rcases g with⟨kvs,k,e,ey,l,eH⟩|⟨kvs,k,b,e,ey,eb,l,eH⟩
 .subst ey eH
  let#[z,hd,vs,rel,dd]:=HF I.dm e;have hz:vs.length<=sizeLine:=by rw[<-rel.length];erw[z]
  have hl:(putK kvs k v).length<=sizeLine:=by have:=oY kvs k v;omega
  rwa[wpAny_setItem_pairs (hsz:=hz) (rF ry) dd λh' dd' hs=>h _ ?_]
  have he:∃q,h'.get? a=some q:=let ⟨q,_,_,hq,_⟩:=dd';#[q,hq];erw[pF I (by rw[e];exact eM) hs he (yS hl hd (rel.put k rv) dd')]
 .subst ey eH
  cases (show u=bf b from ry);let#[z,hd,xs,rel,dd]:=DT I.dm e;have hz:xs.length<=sizeLine:=by rw[<-Paired.length rel];erw[z]
  have hl:(putK kvs k v).length<=sizeLine:=by have:=oY kvs k v;omega
  rwa[wpAny_setItem_heap (hsz:=hz) (gO hu) (qD I.dm eb) dd λh' dd' hs=>h _ ?_]
  let#[q,es,ep,hq,h2,h3,h4,_,h5]:=dd';rwa[pF I (by rw[e];erw[eM]) hs #[q,hq] #[hl,hd,_,(rel.put k eb rv).keeps λc ys ec=>?_,q,es,ep,hq,h2,h3,h4,h5]];rw[b9 (SU ec e (λz=>nomatch z))]
  erw[ec]
end
section
variable{X:Cx}{pZ:List (Addr×Obj)}{σ:St}{H:Hp}{s:az}{a:Addr}{kvs:List (Key×V)}{k:Key}{u:Value}{A:dD}{E:Value->az->Prop}
theorem T9(I:Inv X pZ σ H s)(e:Rd H a (.dK kvs))(h:∀t s',Inv X pZ σ H s'->Q (.int kvs.length t) s'):wpAny (bb X.prog X.w) A (call (.builtin "len") [.ref a]) Q E s:=by
 let#[z,hd,vs,rel,dd]:=tQ I.dm e;refine call_len_dict hd dd (by rw[<-rel.length];rw[lV] at z;omega) ?_;rw[<-rel.length]
 erw[h _ _ (I.tok _)]
end
def Ua(i:Expr):Prop:=∀ov iv,zX i false ov iv=operate [ov,iv] (tI ov iv)
theorem LD{prog:bD}{w:cy}{A:dD}{E:Value->az->Prop}{s:az}{env:Env}{value slice:Expr}{pos:Pos}{T id:String}{Q:Value->az->Prop}
  (hl:typeLookup (.type T) "__getitem__"=pure (some (.builtin id))) (hs:Ua slice)
  (h:wpAny (bb prog w) A (eval value env) (λo s₁=>wpAny (bb prog w) A (eval slice env) (λi s₂=>s₂.TypeIs o T/\wpAny (bb prog w) A (tI o i) Q E s₂) E s₁) E s):
  wpAny (bb prog w) A (eval (.Subscript value slice pos) env) Q E s:=by
 rwa[Subscript_ (bY h (λo s₁ h₁=>bY h₁ (λi s₂ h₂=>?_) λ_ _ x=>x) λ_ _ x=>x)];let#[hT,h₂]:=h₂;unfold EZ;rwa[ae ?_];rw[getitemInPython_of_ne hT.not_modules]
 refine ae (Ai hT hl ?_);have fin:wpAny (bb prog w) A (zX slice false o i) (λr s₃=>wpAny (bb prog w) A (letTemporaryGo value o r>>=λ_=>pure r) Q E s₃) E s₂:=by
  rw[hs o i]
  erw[wpAny_operating (bY h₂ (λr s₃ h₃=>ae (wpAny_letTemporaryGo (aB h₃))) λ_ _ x=>x)]
 first
  |exact aB (ae fin)
  |exact ae (aB (ae fin))
  |exact ae fin
theorem AK(I:Inv X pZ σ H s)(g:sQ H a y o):s.TypeIs (.ref a) "dict":=by
 rcases g with⟨kvs,k,e,_,_⟩|⟨kvs,k,b,e,_,_,_⟩
 .let#[_,_,vs,_,dd]:=tQ I.dm e
  erw[dd.typeIs]
 .let#[_,_,xs,_,dd]:=vj I.dm e
  erw[dd.typeIs]
noncomputable def Ub(td ty:TE):TE:=λσ H Q=>td σ H λx H1=>ty σ H1 λy H2=>∃a v,x=.ref a/\sQ H2 a y (some v)/\Q v H2
noncomputable def Uc(td ty tv:TE):TS:=λD σ H=>tv σ H λv H1=>td σ H1 λx H2=>ty σ H2 λy H3=>∃a H4,x=.ref a/\T8 H3 a y v H4/\D.nx σ H4
section
variable{X:Cx}{o i e value:Expr}{pos pos' tpos:Pos}{td ty tv:TE}
theorem LF(hu:X.A.units+1<fF)(ho:PE X o td)(hi:PE X i ty)(hs:Ua i):PE X (.Subscript o i pos) (Ub td ty):=by
 k_go;rwa[LD PySem.F.slot_dict_getitem.lookup hs (eT (ho pZ s σ H _ I h) λu s1 h9=>?_)];let#[x,H1,I1,rx,q1]:=h9;rwa[eT (hi pZ s1 σ H1 _ I1 q1) λiv s2 h9=>?_]
 let#[y,H2,I2,ry,a,v,ex,g,q2]:=h9;subst ex;obtain rfl:u=bf a:=rx;exact#[AK I2 g,Fv hu I2 g ry λw' s3 I3 rw'=>#[v,H2,I3,rw',q2]]
theorem LG(hu:X.A.units+1<fF)(ho:PE X o td)(hi:PE X i ty)(hv:PE X value tv)(hs:iA value (some (.Subscript o i pos')) pos.line X.env=pure false):
  PS X (.Assign [.Subscript o i pos'] value pos) (Uc td ty tv):=by
 intro pZ s σ H D I h;rwa[wpAny_Assign_Subscript (eT (hv pZ s σ H _ I h) λr s1 h9=>?_) hs];let#[v,H1,I1,rv,q1]:=h9;rwa[eT (ho pZ s1 σ H1 _ I1 q1) λu s2 h9=>?_]
 let#[x,H2,I2,rx,q2]:=h9;rwa[eT (hi pZ s2 σ H2 _ I2 q2) λiv s3 h9=>?_]
 let#[y,H3,I3,ry,a,H4,ex,g,q3]:=h9;subst ex;obtain rfl:u=bf a:=rx;erw[Fw hu I3 g ry rv λs4 I4=>#[σ,H4,I4,q3]]
end
theorem AL(h:Heap)(hb:bZ<h.objs.size):dQ P w H (h.push {cls:=.type "dict",data:=.dict #[]}) h.objs.size (.dK []):=
 #[bX _,beq_eq_false_iff_ne.mpr (cC (aY hb)),[],.nil,BQ h]
theorem HG(h:Heap)(hb:bZ<h.objs.size):dQ P w H (h.push {cls:=.type "dict",data:=.dict #[]}) h.objs.size (.dT []):=
 #[bX _,beq_eq_false_iff_ne.mpr (cC (aY hb)),[],.nil,_,#[],0,a9 _ rfl,#[rfl,rfl,rfl],rfl,rfl,xq]
def CB:List (TE×TE)->St->Hp->(List (V×V)->Hp->Prop)->Prop
 |[],_,H,Q=>Q [] H
 | (tk,tv)::r,σ,H,Q=>tk σ H λx H1=>tv σ H1 λy H2=>CB r σ H2 λps H3=>Q ((x,y)::ps) H3
abbrev VV:List (V×V)->List (Value×Value)->Prop:=Paired λp q=>RelV p.1 q.1/\RelV p.2 q.2
def W2(X:Cx)(pos:Pos)(keys:List (Option Expr))(values:List Expr)(trs:List (TE×TE)):Prop:=
 ∀(pZ:List (Addr×Obj))(s:az)(σ:St)(H:Hp)(Q:List (V×V)->Hp->Prop),Inv X pZ σ H s->CB trs σ H Q ->
  wpAny (bb X.prog X.w) X.A (evalPairs (pairTrees keys values X.env pos)) (λvs s'=>∃ps H',Inv X pZ σ H' s'/\VV ps vs/\Q ps H') X.xe s
theorem LH:W2 X pos [] [] []:=λpZ s σ H Q I h=>pairTrees_nil_walk #[[],H,I,.nil,h]
theorem HH(hk:PE X k tk)(hv:PE X v tv)(hr:W2 X pos ks vs trs):
  W2 X pos (some k::ks) (v::vs) ((tk,tv)::trs):=λpZ s σ H Q I h=>
 pairTrees_cons_walk (eT (hk pZ s σ H _ I h) λu s1 #[x,H1,I1,rx,q1]=>eT (hv pZ s1 σ H1 _ I1 q1) λw2 s2 #[y,H2,I2,ry,q2]=>
  eT (hr pZ s2 σ H2 _ I2 q2) λws s3 #[ps,H3,I3,rel,q3]=>#[(x,y)::ps,H3,I3,.cons #[rx,ry] rel,q3])
def vk(kvs more:List (Key×V)):List (Key×V):=more.foldl (λacc kv=>putK acc kv.1 kv.2) kvs
theorem KV.merge:∀{more:List (Key×V)}{rs:List (Key×Value)}{kvs:List (Key×V)}{vs:List (Key×Value)},KV more rs->KV kvs vs->KV (vk kvs more) (merged vs rs):=by
 intro more rs kvs vs r;unfold KV at r;induction r generalizing kvs vs with
 |nil=>intro q;erw[q]
 |@cons p q ps qs h t ih=>
  intro r0;have e:KV (putK kvs p.1 p.2) (u7 vs q.1 q.2):=by
   have:=r0.put p.1 h.2;rw[<-h.1];erw[this]
  erw[ih e]
theorem qo:∀(more kvs:List (Key×V)),(vk kvs more).length<=kvs.length+more.length
 |[],kvs=>by show kvs.length<=kvs.length+0;omega
 |p::r,kvs=>by
  have h1:=qo r (putK kvs p.1 p.2);have h2:=oY kvs p.1 p.2;show(vk (putK kvs p.1 p.2) r).length<=_;rw[aU];omega
theorem vm:∀{kvs:List (Key×V)}{ws:List (Value×Value)},VV (kvs.map λkv=>(kV kv.1,kv.2)) ws->∃rs,Carries (cX P w) ws rs/\KV kvs rs
 |[],_,r=>by rw[jF] at r;cases r;exact#[[],eM,.nil]
 |p::kvs,_,r=>by
  rw[au] at r;cases r with
  |@cons a b as bs h t=>
   let#[rs,c,q]:=vm (P:=P) (w:=w) t;let#[b1,b2]:=b;exact#[(p.1,b2)::rs,#[rF h.1,rfl,c],.cons #[rfl,h.2] q]
def Ud(trs:List (TE×TE)):TE:=λσ H Q=>∀p,H p=none->CB trs σ (upd H p (.dK [])) λps H2=>H2 p=some (.dK [])/\∃kvs:List (Key×V),ps=kvs.map (λkv=>(kV kv.1,kv.2))/\kvs.length<=15/\Q (.ref p) (upd H2 p (.dK (vk [] kvs)))
theorem LI(h:W2 X pos keys values trs)(hall:keys.all (·.isSome)=true)(hl:keys.length=values.length)(h0:keys≠[])
  (h15:keys.length<=15):PE X (.Dict keys values pos) (Ud trs):=by
 intro pZ s σ H Q I q;have hn:=I.dm.fresh (ak s.heap.objs.size);have I1:=I.laid (a:=s.heap.objs.size) (o:=.dK []) (h':=s.heap.push {cls:=.type "dict",data:=.dict #[]}) (t':=s.toks) (λ_ _ q=>aF _ q) (ak _) (AL s.heap I.big);refine wpAny_Dict_walk (knd:=cX X.prog X.w) hall hl h0 h15 (eT (h pZ _ σ _ _ I1 (q _ hn)) λws s2 h9=>?_);let#[ps,H2,I2,rel,e,kvs,ep,lk,q2]:=h9;subst ep;let#[rs,c,rk]:=vm (P:=X.prog) (w:=X.w) rel;let#[z,hd,vs0,r0,dd]:=HF I2.dm e;cases r0;refine#[rs,c,dd,λh' dd' hs=>#[.ref s.heap.objs.size,_,?_,rfl,q2]];have hz:(vk [] kvs).length<=sizeLine:=by
  have h1:=qo kvs [];rw[dq] at h1;rw[lV];omega
 have he:∃q,h'.get? s.heap.objs.size=some q:=let ⟨q,_,_,hq,_⟩:=dd';#[q,hq];erw[pF I2 (by rw[e];exact eM) hs he (yS hz hd (rk.merge .nil) dd')]
structure M1(X:Cx)(o:Expr)(m:Str)(apos:Pos)(e:Expr)(cpos:Pos):Prop where
 base:iD o m X.env (eval o X.env)=eval o X.env
 X5:((iH cpos (bV [e] X.env)).all (λx=>!x.1)&&(backToKw cpos (jZ [] X.env)).all (λx=>x.1.isSome)
  && decide (([e]:List Expr).length+([]:List oO).length+(if ([]:List oO).isEmpty then 0 else 1)<30))=true
 line:(apos.endLine==cpos.line)=true
 trees:iH cpos (bV [e] X.env)= [(false,eval e X.env)]
structure M2(X:Cx)(o:Expr)(m:Str)(apos:Pos)(e f:Expr)(cpos:Pos):Prop where
 base:iD o m X.env (eval o X.env)=eval o X.env
 X5:((iH cpos (bV [e,f] X.env)).all (λx=>!x.1)&&(backToKw cpos (jZ [] X.env)).all (λx=>x.1.isSome)
  && decide (([e,f]:List Expr).length+([]:List oO).length+(if ([]:List oO).isEmpty then 0 else 1)<30))=true
 line:(apos.endLine==cpos.line)=true
 trees:iH cpos (bV [e,f] X.env)= [(false,eval e X.env),(false,eval f X.env)]
def X6(H:Hp)(a:Addr):Prop:=(∃kvs,Rd H a (.dK kvs))\/∃kvs,Rd H a (.dT kvs)
theorem HI(I:Inv X pZ σ H s)(d:X6 H a):
  s.TypeIs (.ref a) "dict"/\(∀b,bf a=.ref b->∃ob,s.heap.get? b=some ob/\ob.dict=none)/\(a==bZ)=false:=by
 rcases d with⟨kvs,e⟩|⟨kvs,e⟩
 .let#[_,hd,vs,_,dd]:=tQ I.dm e
  refine#[dd.typeIs,λb q=>?_,hd];cases q;let#[ob,_,_,h1,h2,_]:=dd;exact#[ob,h1,h2.2.1]
 .let#[_,hd,xs,_,dd]:=vj I.dm e
  refine#[dd.typeIs,λb q=>?_,hd];cases q;let#[ob,_,_,h1,h2,_]:=dd;exact#[ob,h1,h2.2.1]
section
variable{X:Cx}{pZ:List (Addr×Obj)}{σ:St}{H:Hp}{s:az}{a:Addr}{y d:V}{u r:Value}{o:Option V}{A:dD}{E:Value->az->Prop}
theorem Pl(hu:A.units+1<fF)(I:Inv X pZ σ H s)(g:sQ H a y o)(ry:RelV y u)(h:∀w' s',Inv X pZ σ H s'->RelV (o.getD .bQ) w'->Q w' s'):
  wpAny (bb X.prog X.w) A (call (.builtin "dict.get") [.ref a,u]) Q E s:=by
 rcases g with⟨kvs,k,e,ey,l⟩|⟨kvs,k,b,e,ey,eb,l⟩
 .subst ey
  let#[z,hd,vs,rel,dd]:=tQ I.dm e;rwa[mR eI dd.typeIs jj (xr _ _) (meets_dict_get (cX X.prog X.w) a (rF ry) hd) #[_,dd.mapOf,h _ _ (I.tok _) ?_]];rw[l]
  exact(rel.val k).getD rfl
 .subst ey
  cases (show u=bf b from ry);let#[z,hd,xs,rel,dd]:=vj I.dm e;rwa[mR eI dd.typeIs jj (xr _ _) (meetsH_dict_get (nh (cX X.prog X.w)) a b hd) #[gO hu,k,xs,qD I.dm eb,dd,h _ _ (I.tok _) ?_]];rw[l]
  exact(rel.val k).getD rfl
theorem Pm(hu:A.units+1<fF)(I:Inv X pZ σ H s)(g:sQ H a y o)(ry:RelV y u)(rd:RelV d r)(h:∀w' s',Inv X pZ σ H s'->RelV (o.getD d) w'->Q w' s'):
  wpAny (bb X.prog X.w) A (call (.builtin "dict.get") [.ref a,u,r]) Q E s:=by
 rcases g with⟨kvs,k,e,ey,l⟩|⟨kvs,k,b,e,ey,eb,l⟩
 .subst ey
  let#[z,hd,vs,rel,dd]:=tQ I.dm e;rwa[mR eI dd.typeIs jj (xt _ _ _) (meets_dict_get_default (cX X.prog X.w) a (rF ry) hd r) #[_,dd.mapOf,h _ _ (I.tok _) ?_]];rw[l]
  exact(rel.val k).getD rd
 .subst ey
  cases (show u=bf b from ry);let#[z,hd,xs,rel,dd]:=vj I.dm e;rwa[mR eI dd.typeIs jj (xt _ _ _) (meetsH_dict_get_default (nh (cX X.prog X.w)) a b hd r) #[gO hu,k,xs,qD I.dm eb,dd,h _ _ (I.tok _) ?_]];rw[l]
  exact(rel.val k).getD rd
end
noncomputable def Pn(td ty:TE):TE:=λσ H Q=>td σ H λx H1=>∃a,x=.ref a/\X6 H1 a/\ty σ H1 λy H2=>∃o,sQ H2 a y o/\Q (o.getD .bQ) H2
noncomputable def Po(td ty tx:TE):TE:=λσ H Q=>td σ H λx H1=>∃a,x=.ref a/\X6 H1 a/\ty σ H1 λy H2=>tx σ H2 λz H3=>∃o,sQ H3 a y o/\Q (o.getD z) H3
section
variable{X:Cx}{o e f:Expr}{apos cpos:Pos}{td ty tx:TE}
theorem HJ(hu:X.A.units+1<fF)(ho:PE X o td)(he:PE X e ty)(m:M1 X o "get" apos e cpos):PE X (.Call (.Attribute o "get" apos) [e] [] cpos) (Pn td ty):=by
 k_go;rwa[wpAny_Call_method m.base m.X5 m.line i8 eI z6 (eT (ho pZ s σ H _ I h) λu s1 h9=>?_)];let#[x,H1,I1,rx,a,ex,d,q1]:=h9;subst ex;obtain rfl:u=bf a:=rx;let#[t1,t2,_]:=HI I1 d;refine#[t1,t2,?_];rw[m.trees]
 rwa[jB rfl (p9 (jc (eT (he pZ s1 σ H1 _ I1 q1) λiv s2 h9=>?_)))];let#[y,H2,I2,ry,ov,g,q2]:=h9;rwa[mP ?_];erw[Pl hu I2 g ry λw' s3 I3 rw'=>#[_,H2,I3,rw',q2]]
theorem HK(hu:X.A.units+1<fF)(ho:PE X o td)(he:PE X e ty)(hf:PE X f tx)(m:M2 X o "get" apos e f cpos):PE X (.Call (.Attribute o "get" apos) [e,f] [] cpos) (Po td ty tx):=by
 k_go;rwa[wpAny_Call_method m.base m.X5 m.line i8 eI z6 (eT (ho pZ s σ H _ I h) λu s1 h9=>?_)];let#[x,H1,I1,rx,a,ex,d,q1]:=h9;subst ex;obtain rfl:u=bf a:=rx;let#[t1,t2,_]:=HI I1 d;refine#[t1,t2,?_];rw[m.trees]
 refine jB rfl (p9 (jc (eT (he pZ s1 σ H1 _ I1 q1) λiv s2 #[y,H2,I2,ry,q2]=>
  jc (eT (hf pZ s2 σ H2 _ I2 q2) λfv s3 #[z,H3,I3,rz,ov,g,q3]=>mP ?_))))
 erw[Pm hu I3 g ry rz λw' s4 I4 rw'=>#[_,H3,I4,rw',q3]]
end
section
variable{X:Cx}
theorem Fx:iN X (.builtin "len") (λxs H Q=>∃a kvs,xs=[V.ref a]/\H a=some (.dK kvs)/\Q (.int kvs.length) H):=by
 k_ne;let#[a,kvs,rfl,ha,q]:=h;let#[u,rfl,ru]:=vals1 r;cases ru;erw[T9 I (.inl ha) λt s' I'=>#[.int kvs.length,H,I',#[t,rfl],q]]
end
open PySem.W
section
variable{prog:bD}{w:cy}{K:Type}[DecidableEq K]{A:dD}{E:Value->az->Prop}{s:az}
theorem CC{knd:KeyKind prog w K}{d:Addr}{kvs:List (K×Value)}{k:K}{key v:Value}{Q:Value->az->Prop}(hkey:knd.is k key=true)(hm:s.heap.DictOf knd d kvs)(hsz:kvs.length<=sizeLine)
  (h1:∀x t',lS kvs k=some x->Q x {s with toks:=t'})
  (h2:∀h' t',lS kvs k=none->h'.DictOf knd d (u7 kvs k v)->gx d s.heap h'->Q v {s with heap:=h',toks:=t'}):
  wpAny (bb prog w) A (iZ d key v) Q E s:=by
 have mo:s.heap.MapOf knd d (lS kvs):=hm.mapOf;let#[o,es,ep,ho,hc,hd,hk,hp,hn]:=hm;let#[o',es',ep',ho',_,hd',_,hf]:=mo;obtain rfl:o=o':=aL (ho.symm.trans ho');rw[hd] at hd';injection hd' with e1 _
 subst e1;have hes:es.size<=sizeLine:=by
  have e1:=hp.length;have e2:es.toList.length=es.size:=by simp
  omega
 unfold iZ;refine iy (ae (knd.pyHash hkey ?_));refine ae (wpAny_dictFind_of (s:={s with toks:=s.toks+1}) hkey ho hd hk ?_);have hidx:(es.findIdx? λe=>knd.is k e.key)=kvs.findIdx? λkv=>decide (kv.1=k):=by
  rw[<-hp.findIdx k];let#[l]:=es;simp
 have hv:lS kvs k=((es.findIdx? λe=>knd.is k e.key).bind λi=>es[i]?).map (·.val):=by
  rw[<-hf k,findBy_of_findIdx?]
  cases es.findIdx? λe=>knd.is k e.key<;>rfl
 cases hi:es.findIdx? λe=>knd.is k e.key with
 |some i=>
  rw[hi] at hv;refine ae (iJ (s:={s with toks:=s.toks+1}) ho hd ?_);have hlt:i<es.size:=(Array.findIdx?_eq_some_iff_findIdx_eq.mp hi).1;have hv:lS kvs k=(es[i]?).map (·.val):=hv;rw[eU hlt] at hv ⊢;erw[ae (qy (aB (h1 _ _ hv)))]
 |none=>
  rw[hi] at hv;have hnot:k∉kvs.map (·.1):=not_mem_of_findIdx_none (hidx▸hi);have hany:¬(kvs.any λkv=>decide (kv.1=k))=true:=by
   rw[og];rintro⟨kv,hkv,he⟩;erw[hnot (bq.mpr #[kv,hkv,of_decide_eq_true he])]
  refine ae (qy (ae (KZ (hz:=hes) (s:={s with toks:=s.toks+1}) ho hd (aB (h2 _ _ hv #[_,_,ep+1,dw _ ho (GG (kQ hd _)),
   hc.mapDictKeys _,kQ hd _,hk.push hkey _,?_,?_] (eV ..))))))
  .rw[u7,if_neg hany]
   have:=hp.append hkey (knd.hash k) v;let#[l]:=es;simpa using this
  .rw[u7,if_neg hany,aD,dO]
   refine#[hn,by simp,λa ha b hb=>?_];dsimp[au,jF,aZ] at hb;subst hb;erw[λe=>hnot (e▸ha)]
theorem xN{knd:HeapKind prog w K}{d a:Addr}{xs:List (K×Addr×Value)}{k:K}{v:Value}{Q:Value->az->Prop}(hu:knd.room A)(hkey:knd.is s.heap k a)(hm:s.heap.DictOfH knd d xs)(hsz:xs.length<=sizeLine)
  (h1:∀x t',(qT xs k).map (·.2)=some x->Q x {s with toks:=t'})
  (h2:∀h' t',qT xs k=none->h'.DictOfH knd d (xs++[(k,a,v)])->gx d s.heap h'->Q v {s with heap:=h',toks:=t'}):
  wpAny (bb prog w) A (iZ d (.ref a) v) Q E s:=by
 let#[o,es,ep,ho,hc,hd,he,his,hn]:=hm;unfold iZ;rwa[iy (ae (knd.pyHash hu hkey ?_))];refine ae (wpAny_dictFind_heap (s:={s with toks:=s.toks+knd.draws k}) hu hkey ho hd he his hn ?_ ?_)
 .intro hno
  have hnot:k∉xs.map (·.1):=not_mem_keys_of_get hno;refine ae (qy (ae (KZ (hz:=by have e:=Am he;omega) (s:={s with toks:=s.toks+knd.draws k}) ho hd (aB (h2 _ _ (atKey_none_of_get hno) #[_,_,ep+1,dw _ ho (GG (kQ hd _)),
   hc.mapDictKeys _,kQ hd _,?_,?_,?_] (eV ..))))))
  .simp[he,B8]
  .intro x hx
   rcases aG.mp hx with hx|hx
   .erw[knd.keeps (his x hx) ho hd (eV ..)]
   .dsimp[aZ] at hx
    subst hx;erw[knd.keeps hkey ho hd (eV ..)]
  .rw[aD,dO]
   refine#[hn,by simp,λx hx y hy=>?_];dsimp[au,jF,aZ] at hy;subst hy;erw[λe=>hnot (e▸hx)]
 .intro j p hj
  refine ae (iJ (s:={s with toks:=s.toks+knd.draws k}) ho hd ?_);rw[entry_at he j,hj]
  erw[ae (qy (aB (h1 _ _ (by rw[atKey_of_get hn hj];rfl))))]
theorem sR(hT:s.TypeIs (.ref a) "dict")(hd:(a==bZ)=false)(h:wpAny (bb prog w) A.in1 (iZ a u r) Q E s):
  wpAny (bb prog w) A (call (.builtin "dict.setdefault") [.ref a,u,r]) Q E s:=by
 refine mR (S:=λA R s=>s.TypeIs (.ref a) "dict"/\wpAny (bb prog w) A.in1 (iZ a u r) (λv s'=>R (.ok (.ret v)) s') (λe s'=>R (.error e) s') s)
  ub hT PySem.F.entry_dict_setdefault (PySem.F.args_dict_setdefault_3 _ _ _) (.of_wp λA R s h=>?_) #[hT,h]
 unfold Builtin.«dict.setdefault»;rwa[ae ?_];unfold Builtin.Dict.keyAndDefault;rwa[ae (rf h.1 (aB ?_))];show wpAny _ _ (if (a==bZ)=true then _ else(iZ a u r>>=_)) _ _ s;rw[if_neg (by rw[hd];erw[aV])]
 erw[ae (bY h.2 (λv s' q=>aB #[v,rfl,q]) λ_ _ q=>q)]
end
section
variable{X:Cx}
abbrev KP(H:Hp):List (sI×V)->List (sI×Addr×Value)->Prop:=Paired λp q=>p.1=q.1/\(∃c,H q.2.1=some (.tup [.int p.1.1,.ref c])/\H c=some (.tup (p.1.2.map .int)))/\RelV p.2 q.2.2
theorem AM:∀{ks:List Int}{us:List Value},Vals (ks.map .int) us->ItemsAre (BN P w) ks us
 |[],_,r=>by rw[jF] at r;cases r;erw[.nil]
 |k::ks,_,r=>by
  rw[au] at r;cases r with
  |cons h t=>
   let#[t',e]:=h;erw[.cons (by rw[e];simp[BN,B6]) (AM t)]
theorem DV(ok:oB P w H h)(e:H a=some (.tup [.int k.1,.ref c]))(e2:H c=some (.tup (k.2.map .int))):(rh P w).is h k a:=by
 let#[_,its,r,o,h1,h2,#[n,h3],_]:=(show dQ P w H h a (.tup [.int k.1,.ref c]) from ok a _ e)
 let#[_,jts,r',o',g1,g2,#[n',g3],_]:=(show dQ P w H h c (.tup (k.2.map .int)) from ok c _ e2)
 cases r with
 |cons r1 r2=>
  let#[t,e]:=r1;cases r2 with
  |cons r3 r4=>
   cases r4;cases (show _=bf c from r3);subst e;exact#[t,c,n,o,h1,h2,h3,o',jts.toArray,n',g1,g2,g3,by simpa using AM r']
theorem NQ(ok:oB P w H h)(e:H a=some (.dP kvs)):kvs.length<=sizeLine/\(a==bZ)=false /\
  ∃xs,KP H kvs xs/\h.DictOfH (rh P w) a xs:=by
 let#[z,y,xs,r,o,es,ep,h1,h2,h3,h4,h5]:=(show dQ P w H h a (.dP kvs) from ok a _ e)
 refine#[z,y,xs,r,o,es,ep,h1,h2,h3,h4,λx hx=>?_,h5];have all:∀{l:List (sI×V)}{m:List (sI×Addr×Value)},KP H l m->∀x∈m,(rh P w).is h x.1 x.2.1:=by
  intro l m q;induction q with
  |nil=>intro x hx;erw[nomatch hx]
  |@cons p q ps qs hq t ih=>
   intro x hx;rcases aN.mp hx with e|hx
   .subst e
    let#[e1,#[c,e2,e3],_]:=hq;rw[<-e1]
    erw[DV ok e2 e3]
   .erw[ih x hx]
 erw[all r x hx]
theorem KP.val(r:KP H kvs xs)(k:sI):nA (jC kvs k) ((qT xs k).map (·.2)):=by
 induction r with
 |nil=>erw[eM]
 |@cons p q ps qs hq t ih=>
  by_cases e:p.1=k
  .have e':q.1=k:=hq.1▸e
   rw[lD e]
   dsimp[qT,dY,e',decide_true];erw[hq.2.2]
  .have e':¬q.1=k:=hq.1▸e
   rw[lE e]
   simpa[qT,dY,e'] using ih
def X7(H:Hp)(a:Addr)(y d r:V)(H':Hp):Prop:=
 (∃kvs k,H a=some (.dK kvs)/\y=kV k/\kvs.length<sizeLine/\((jC kvs k=some r/\H'=H)\/(jC kvs k=none/\r=d/\H'=upd H a (.dK (kvs++[(k,d)]))))) \/
 (∃kvs k b,H a=some (.dT kvs)/\y=.ref b/\H b=some (.tup (k.map kV))/\kvs.length<sizeLine/\((jC kvs k=some r/\H'=H)\/(jC kvs k=none/\r=d/\H'=upd H a (.dT (kvs++[(k,d)]))))) \/
 ∃kvs k b c,H a=some (.dP kvs)/\y=.ref b/\H b=some (.tup [.int k.1,.ref c])/\H c=some (.tup (k.2.map .int))/\kvs.length<sizeLine/\((jC kvs k=some r/\H'=H)\/(jC kvs k=none/\r=d/\H'=upd H a (.dP (kvs++[(k,d)]))))
theorem oZ{α β:Type}{F:α->β->Prop}:∀{l:List α}{m:List β}{a:α}{b:β},Paired F l m->F a b->Paired F (l++[a]) (m++[b])
 |_,_,_,_,.nil,f=>.cons f .nil
 |_,_,_,_,.cons r t,f=>.cons r (oZ t f)
theorem LJ(hu:X.A.units+2<fF):yP X "dict.setdefault" (λx xs H Q=>∃a y d r H',x=.ref a/\xs=[y,d]/\X7 H a y d r H'/\Q r H'):=by
 intro pZ s σ H x xs v us Q I rx rs h;let#[a,y,d,r,H',rfl,rfl,g,q]:=h;let#[u,ud,rfl,ry,rd]:=rs.two;cases (show v=bf a from rx);rcases g with⟨kvs,k,e,rfl,l,g⟩|⟨kvs,k,b,e,rfl,eb,l,g⟩|⟨kvs,k,b,c,e,rfl,eb,ec,l,g⟩
 .let#[z,hd,vs,rel,dd]:=HF I.dm e
  have rv:=rel.val k;rwa[sR dd.typeIs hd (CC (rF ry) dd (by rw[<-rel.length];erw[z]) (λx t' hx=>?_) λh' t' hn dd' hs=>?_)]
  .rw[hx] at rv
   rcases g with⟨g1,rfl⟩|⟨g1,_⟩
   .rw[g1] at rv;exact#[r,H',I.tok _,rv,q]
   .rw[g1] at rv;erw[rv.elim]
  .rw[hn] at rv
   rcases g with⟨g1,rfl⟩|⟨g1,rfl,rfl⟩
   .rw[g1] at rv;erw[rv.elim]
   .have e2:putK kvs k r=kvs++[(k,r)]:=AJ r g1
    have he:∃q,h'.get? a=some q:=let ⟨q,_,_,hq,_⟩:=dd';#[q,hq];exact#[r,_,pF I (by rw[e];erw[eM]) hs he (yS (by simp;omega) hd (e2▸rel.put k rd) dd'),rd,q]
 .cases (show u=bf b from ry)
  let#[z,hd,ws,rel,dd]:=DT I.dm e;have rv:=rel.val k;rwa[sR dd.typeIs hd (xN (gO ∅) (qD I.dm eb) dd (by rw[<-Paired.length rel];erw[z]) (λx t' hx=>?_) λh' t' hn dd' hs=>?_)]
  .rw[hx] at rv
   rcases g with⟨g1,rfl⟩|⟨g1,_⟩
   .rw[g1] at rv;exact#[r,H',I.tok _,rv,q]
   .rw[g1] at rv;erw[rv.elim]
  .rw[hn] at rv
   rcases g with⟨g1,rfl⟩|⟨g1,rfl,rfl⟩
   .rw[g1] at rv;erw[rv.elim]
   .let#[o,es,ep,hq,h2,h3,h4,_,h5]:=dd'
    have nt:∀b ys,H b=some (.tup ys)->b≠a:=λb ys eq z=>by rw[z,e] at eq;cases eq
    refine#[r,upd H a (.dT (kvs++[(k,r)])),pF (ob:=.dT (kvs++[(k,r)])) I (by rw[e];erw[eM]) hs #[o,hq] #[by simp;omega,hd,ws++[(k,b,ud)],oZ (Paired.Fd rel λp q z=>#[z.1,?_,z.2.2]) #[rfl,?_,rd],o,es,ep,hq,h2,h3,h4,h5],rd,q]
    .rw[b9 (nt _ _ z.2.1)];erw[z.2.1]
    .rw[b9 (nt _ _ eb)];erw[eb]
 .cases (show u=bf b from ry)
  let#[z,hd,ws,rel,dd]:=NQ I.dm e;have rv:=rel.val k;rwa[sR dd.typeIs hd (xN (show X.A.in1.units+1<fF by dsimp[tH];omega) (DV I.dm eb ec) dd (by rw[<-Paired.length rel];erw[z]) (λx t' hx=>?_) λh' t' hn dd' hs=>?_)]
  .rw[hx] at rv
   rcases g with⟨g1,rfl⟩|⟨g1,_⟩
   .rw[g1] at rv;exact#[r,H',I.tok _,rv,q]
   .rw[g1] at rv;erw[rv.elim]
  .rw[hn] at rv
   rcases g with⟨g1,rfl⟩|⟨g1,rfl,rfl⟩
   .rw[g1] at rv;erw[rv.elim]
   .let#[o,es,ep,hq,h2,h3,h4,_,h5]:=dd'
    have nt:∀b ys,H b=some (.tup ys)->b≠a:=λb ys eq z=>by rw[z,e] at eq;cases eq
    refine#[r,upd H a (.dP (kvs++[(k,r)])),pF (ob:=.dP (kvs++[(k,r)])) I (by rw[e];erw[eM]) hs #[o,hq] #[by simp;omega,hd,ws++[(k,b,ud)],oZ (Paired.Fd rel λp q z=>#[z.1,?_,z.2.2]) #[rfl,#[c,?_,?_],rd],o,es,ep,hq,h2,h3,h4,h5],rd,q]
    .let#[c,e1,e2]:=z.2.1
     exact#[c,by rw[b9 (nt _ _ e1)];erw[e1],by rw[b9 (nt _ _ e2)];erw[e2]]
    .rw[b9 (nt _ _ eb)];erw[eb]
    .rw[b9 (nt _ _ ec)];erw[ec]
end
theorem Pp(h:(cX P w).is k u=true):RelV (kV k) u:=by
 rcases fN h with⟨i,t,rfl,rfl⟩|⟨x,t,rfl,rfl⟩|⟨rfl,rfl⟩
 .exact#[t,rfl]
 .exact#[t,rfl]
 .rfl
def Sv(a:Addr)(o:Obj)(kvs:List (Key×V)):It:=
 #[λi H=>H a=some (.sE o (.dK kvs))/\i<kvs.length,λi H x H'=>H'=H/\∃k v,kvs[i]?=some (k,v)/\x=kV k,λi H=>H a=some (.sE o (.dK kvs))/\kvs.length<=i]
theorem CD(ok:oB P w H h)(e:H a=some (.sE o (.dK kvs)))(hd:o.data=.dict es ep):
  (a==bZ)=false/\∃vs,KV kvs vs/\h.DictAt (cX P w) a vs ep:=by
 let#[ho,z,y,vs,rel,o',es',ep',h1,h2,h3,h4]:=(show dQ P w H h a (.sE o (.dK kvs)) from ok a _ e)
 rw[ho] at h1;cases h1;rw[hd] at h3;cases h3;exact#[y,vs,rel,o,es,ho,h2,hd,h4]
theorem Fy{P:bD}{w:cy}{K:aI}{tg:Expr}(a it:Addr){o:Obj}{es:Array yC}{ep:Nat}(hd:o.data=.dict es ep)(kvs:List (Key×V)):
  Turn P w K tg (Sv a o kvs) [it] it (λi h=>h.IsKeyIter it a i kvs.length ep) where
 mem:=by simp
 obj:=λi h st b hb=>by
  have e:b=it:=by simpa using hb
  subst e;let#[o,e,c,d]:=st;exact#[o,e,λv z=>by rw[d] at z;cases z]
 keep:=λi h h' st k=>by
  let#[o,e,r]:=st;exact#[o,k it (by simp) o e,r]
 item:=by
  w_up;subst hP hw hK;let#[hq,hl]:=hg;let#[_,vs,rel,da]:=CD I.dm hq hd;let#[f0,f1,f2,f3,f4,f5]:=hf it (by simp);have hlen:=rel.length;have hk:=congrArg (λl=>l[i]?) rel.keys;dsimp[aw] at hk;let#[k,v]:=vs[i]'∅;have e1:vs[i]?=some vs[i]:=aa ∅;have e2:kvs[i]?=some kvs[i]:=aa hl;rw[e1,e2] at hk;have hk:kvs[i].1=vs[i].1:=aL hk;rw[hlen] at st;rwa[wpAny_pyNext_dict_item st da (k:=vs[i].1) (v:=vs[i].2) e1 λkey h' ik st' sb=>?_]
  have I1:Inv X pZ σ H {s with heap:=h'}:=I.turned (t':=s.toks) (λb o hb e=>(sb.2 b hb).trans e) f0 f1 f3 f4 f5;let#[o',e,c,d]:=id st';exact#[key,rfl,AD (s:={s with heap:=h'}) e c d ⋯ #[kV vs[i].1,H,I1,Pp ik,#[rfl,vs[i].1,kvs[i].2,by rw[e2,<-hk],rfl],by rw[hlen];erw[st'],λb hb=>(hf b hb).1]]
 done:=by
  w_up;subst hP hw hK;let#[hq,hl]:=hg;let#[_,vs,rel,da]:=CD I.dm hq hd;let#[f0,f1,f2,f3,f4,f5]:=hf it (by simp);have hlen:=rel.length;rw[hlen] at st;erw[wpAny_pyNext_dict_end (I.ok.hd hc) st da (cH ∅) λh' eb=>#[rfl,I.turned (t':=s.toks) (λb o hb e=>eb b o hb e) f0 f1 f3 f4 f5]]
 self:=λ_ _ _ _ _ st h=>wpAny_pyIter_keyiter st h
section
variable{X:Cx}
theorem Inv.freeze(I:Inv X pZ σ H s)(e:H a=some u)(mu:Ss (some u))(ho:s.heap.get? a=some o)(k:dQ X.prog X.w (upd H a (.sE o u)) s.heap a u):
  Inv X pZ σ (upd H a (.sE o u)) s:=
 I.write (x:=a) (e:=a) (h':=s.heap) (t':=s.toks) (by rw[e];erw[mu]) (.inl rfl) (λb u _ q=>q) #[o,ho] #[ho,k]
def Ue(tl:TE):TI:=λσ H R=>tl σ H λx H1=>∃a kvs,x=.ref a/\((H1 a=some (.dK kvs)/\∀o,R (Sv a o kvs) (upd H1 a (.sE o (.dK kvs))))\/∃o,H1 a=some (.sE o (.dK kvs))/\R (Sv a o kvs) H1)
theorem LK{tg l:Expr}{tl:TE}(hl:PE X l tl):PI X tg l (Ue tl):=by
 intro pZ s σ H R I h;rwa[eT (hl pZ s σ H _ I h) λv s1 h9=>?_]
 let#[x,H1,I1,r1,a,kvs,rfl,q]:=h9;cases (show v=bf a from r1);obtain⟨o,H2,I2,e2,q2⟩:∃o H2,Inv X pZ σ H2 s1/\H2 a=some (.sE o (.dK kvs))/\R (Sv a o kvs) H2:=by
  rcases q with⟨e,q⟩|⟨o,e,q⟩
  .have k:=(show dQ X.prog X.w H1 s1.heap a (.dK kvs) from I1.dm a _ e)
   let#[_,_,_,_,o,_,_,ho,_]:=id k;exact#[o,_,I1.freeze e eM ho k,cg,q o]
  .exact#[o,H1,I1,e,q]
 obtain⟨es,ep,hd⟩:∃es ep,o.data=.dict es ep:=by
  let#[ho,_,_,_,_,o',es,ep,h1,_,h3,_]:=(show dQ X.prog X.w H2 s1.heap a (.sE o (.dK kvs)) from I2.dm a _ e2)
  rw[ho] at h1;cases h1;exact#[es,ep,h3]
 let#[lo,vs,rel,da]:=CD I2.dm e2 hd;rwa[wpAny_pyIter_dict lo da ?_];refine#[s1.heap.objs.size,[s1.heap.objs.size],_,Sv a o kvs,H2,rfl,I2.kept (t':=s1.toks) λb o e=>aF _ e,Fy a _ hd kvs,#[_,a9 _ rfl,rfl,by rw[rel.length];rfl],λc hc=>?_,q2];have e:c=s1.heap.objs.size:=by simpa using hc
 subst e;erw[I2.Cm (ak _) (I2.dm.fresh (ak _))]
end
def GN(h:Heap)(e:Addr)(c:Value)(dx:Option Addr):Option (Addr×Value)->Prop
 |none=>∃vs sl,h.get? e=some #[c,dx,.fields vs,sl]/\vs[1]?=some .none
 |some (T,fl)=>∃vs sl,h.get? e=some #[c,dx,.fields vs,sl]/\vs[1]?=some (.ref T)/\T≠e/\∃oT ts,h.get? T=some oT/\oT.data=.fields ts/\ts[3]?=some fl
structure kz(fs ch:List Addr)(h h':Heap):Prop where
 keep:∀b o,h.get? b=some o->b∉fs->b∉ch->h'.get? b=some o
 slot:∀b o,h.get? b=some o->b∈fs->b∉ch->∃sl,h'.get? b=some {o with slots:=sl}
 there:∀b o,h.get? b=some o->∃o',h'.get? b=some o'
theorem kz.trans(x:kz fs ch h1 h2)(y:kz fs ch h2 h3):kz fs ch h1 h3:=
 #[λb o e n m=>y.keep b o (x.keep b o e n m) n m,λb o e n m=>by
  let#[s1,q1]:=x.slot b o e n m;let#[s2,q2]:=y.slot b _ q1 n m;exact#[s2,q2],λb o e=>by
  let#[o1,q1]:=x.there b o e;erw[y.there b o1 q1]]
theorem kz.mono(x:kz fs ch h h')(a:∀b∈fs,b∈fs')(c:∀b∈ch,b∈ch'):kz fs' ch' h h':=
 #[λb o e n m=>x.keep b o e (λz=>n (a b z)) λz=>m (c b z),λb o e n m=>by
  by_cases z:b∈fs
  .erw[x.slot b o e z λy=>m (c b y)]
  .exact#[o.slots,x.keep b o e z λy=>m (c b y)],x.there]
theorem i4{h:Heap}{a b:Addr}{f:Obj->Obj}{o:Obj}(e:h.get? b=some o)(n:b≠a):(h.update a f).get? b=some o:=by
 rw[oN h f (cC n)]
 erw[e]
theorem nE{fs:List Addr}{h:Heap}{a:Addr}{o:Obj}{f:Obj->Obj}(e:h.get? a=some o)(hf:(f o).isFreed=false):kz fs [a] h (h.update a f):=
 #[λb o' q _ m=>i4 q λz=>m (by simp[z]),λb o' q _ m=>#[o'.slots,i4 q λz=>m (by simp[z])],λb o' q=>by
  by_cases z:b=a
  .subst z;exact#[_,dw f e hf]
  .exact#[o',i4 q z]]
theorem CH(o:Obj):kz fs ch h (h.push o):=
 #[λb _ q _ _=>aF o q,λb o' q _ _=>#[o'.slots,aF o q],λb o' q=>#[o',aF o q]]
section
variable{M:Model}{A:dD}{E:Value->az->Prop}{s:az}{base:Heap}{env:Env}{outer:List Env}{L e:Addr}{c:Value}{dx:Option Addr}{Q:Unit->az->Prop}
theorem HL{vs:Array Value}{sl:Array (Option Value)}{head:Value}{b:Bool}(hfr:A.frames=some (env::outer))(hl:s.heap.FunFrames base (env::outer))(hf:env.frame=some L)
  (he:s.heap.get? e=some #[c,dx,.fields vs,sl]) (hsz:1<vs.size)
  (q:∀h' T,kz (wG (env::outer)) [e] s.heap h'->s.heap.objs.size<=T->GN h' e c dx (some (T,jM L))->Q () {s with heap:=h'}):
  wpAny M A (do let a <-frameOf env;let pl <-entryPlaceOf L b;let t <-yD head a .none (jM L) .none pl;setField (.ref e) 1 t) Q E s:=by
 have ne:e∉wG (env::outer):=λhm=>by
  let#[_,o,ho,hnf]:=hl.mem hm;rw[he] at ho;cases ho;erw[hnf vs rfl]
 rwa[ae (wpAny_frameOf_fun hfr hl hf λh1 k1=>ae (wpAny_entryPlaceOf λpl hpl=>?_))];unfold yD newFields;rwa[ae (iK ?_ (hpl.sizeOk5 _ _ _ _ _))];have e1:h1.get? e=some #[c,dx,.fields vs,sl]:=(k1.2.1 e ne).trans he;have kk:kz (wG (env::outer)) [e] s.heap h1:=#[λb o z n _=>(k1.2.1 b n).trans z,λb o z _ _=>k1.2.2 b o z,λb o z=>let ⟨_,z'⟩:=k1.2.2 b o z;#[_,z']]
 generalize htb:({cls:=.type "traceback",dict:=none,data:=.fields ([head,.ref L,.none,jM L,.none]++(if pl.isEmpty then qm 6 cv else pl)).toArray}:Obj)=tb;have e2:(h1.push tb).get? e=some #[c,dx,.fields vs,sl]:=aF tb e1;rwa[nk e2 rfl hsz (q _ h1.objs.size ((kk.trans (CH tb)).trans (nE e2 rfl)) ?_ ?_)]
 .rw[k1.1]
  erw[ak _]
 .have nT:h1.objs.size≠e:=cZ (aQ e1)
  refine#[_,_,dw _ e2 rfl,by simp[hsz],nT,tb,_,i4 (a9 h1 (by rw[<-htb];rfl)) nT,by rw[<-htb],?_]
  first| (simp;done)| (rcases hpl with rfl|⟨_,_,_,_,_,_,_,rfl⟩<;>simp)
theorem NR{tb:Option Addr}(hfr:A.frames=some (env::outer))(hl:s.heap.FunFrames base (env::outer))(hf:env.frame=some L)(x:GN s.heap e c dx (tb.map λT=>(T,cv)))
  (q:∀h' T,kz (wG (env::outer)) (e::tb.toList) s.heap h'->s.heap.objs.size<=T->GN h' e c dx (some (T,jM L))->Q () {s with heap:=h'}):
  wpAny M A (GH (.ref e) env) Q E s:=by
 unfold GH;dsimp[hf];cases tb with
 |none=>
  let#[vs,sl,he,h1]:=x;rwa[ae (sH he rfl h1 ?_)];rw[if_neg ⋯]
  erw[HL hfr hl hf he (hU.mp h1).1 q]
 |some T=>
  let#[vs,sl,he,h1,nT,oT,ts,hT,hd,h3]:=x;rwa[ae (sH he rfl h1 ?_)];rw[if_pos (show(bf T !=cv)=true by simp)]
  rwa[ae (sH hT hd h3 ?_)];rw[if_neg (show ¬((cv==jM L)=true) by simp[jM])]
  rwa[ae (nk hT hd (hU.mp h3).1 ?_)];have kT:kz (wG (env::outer)) [T] s.heap (s.heap.update T (nq (·.setIfInBounds 3 cv))):=nE hT (qa (jk hd _));have e2:=i4 (f:=nq (·.setIfInBounds 3 cv)) he (cC nT);rwa[HL hfr (hl.of_keeps λb o hb hnf=>?_) hf e2 (hU.mp h1).1 λh' T' k n z=>?_]
  .have nb:b≠T:=λz=>by rw[z,hT] at hb;cases hb;erw[hnf ts hd]
   exact#[o,i4 hb nb,rfl]
  .rwa[q h' T' ((kT.mono (λ_ y=>y) (by simp)).trans (k.mono (λ_ y=>y) (by simp))) ?_ z]
   rw[Heap.size_after_update] at n;erw[n]
theorem Ug(x:GN s.heap e c dx (some (T,fl)))(q:∀h',kz [] [T] s.heap h'->GN h' e c dx (some (T,.none))->Q () {s with heap:=h'}):wpAny M A (setFlight (.ref e) none) Q E s:=by
 let#[vs,sl,he,h1,nT,oT,ts,hT,hd,h3]:=x;have sz:=(hU.mp h3).1;unfold setFlight;rwa[ae (sH he rfl h1 ?_)];rw[if_pos (show(bf T !=cv)=true by simp)]
 have fr:=qa (jk hd (·.setIfInBounds 3 cv));rwa[nk hT hd sz (q _ (nE hT fr) #[vs,sl,i4 he (cC nT),h1,nT,_,_,dw _ hT fr,jk hd _,by simp[sz]])]
theorem Pq{tb:Option Addr}(hfr:A.frames=some (env::outer))(hl:s.heap.FunFrames base (env::outer))(hf:env.frame=some L)(x:GN s.heap e c dx (tb.map λT=>(T,cv)))
  (q:∀h' T,kz (wG (env::outer)) (e::tb.toList) s.heap h'->s.heap.objs.size<=T->GN h' e c dx (some (T,.none))->Q () {s with heap:=h'}):
  wpAny M A (leaving env (.ref e)) Q E s:=by
 unfold leaving;rwa[ae (NR hfr hl hf x λh1 T k1 n1 x1=>?_)];refine Ug (s:={s with heap:=h1}) x1 λh2 k2 x2=>q h2 T ?_ n1 x2
 refine#[λb o z n m=>?_,λb o z n m=>?_,λb o z=>?_]
 .exact k2.keep b o (k1.keep b o z n m) (by simp) λy=>by
   have y':b=T:=by simpa using y
   rw[y'] at z;erw[absurd (aQ z) (jm.mpr n1)]
 .let#[sl,z1]:=k1.slot b o z n m
  refine#[sl,k2.keep b _ z1 (by simp) λy=>?_];have y':b=T:=by simpa using y
  rw[y'] at z;erw[absurd (aQ z) (jm.mpr n1)]
 .let#[o1,z1]:=k1.there b o z
  erw[k2.there b o1 z1]
end
def ug(P:bD)(w:cy):Hy:=λouter H s E e s'=>∃(a T:Addr)(c:Value)(dx:Option Addr)(H':Hp),e=.ref a/\s'.os=s.os/\oM s'.gens/\Un (wG outer) [] H H' s.heap s'.heap/\oB P w H' s'.heap /\
 GN s'.heap a c dx (some (T,.none))/\(H' a=none/\H' T=none)/\(s.heap.objs.size<=a/\s.heap.objs.size<=T)/\E c dx H'
theorem oB.yT(x:oB P w H h)(k:kz fs ch h h')(hf:∀b∈fs,H b=none)(hc:∀b∈ch,H b=none):oB P w H h':=λa o e=>by
 have nf:∀b u,H b=some u->b∉fs/\b∉ch:=λb u q=>#[λz=>(by rw[hf b z] at q;cases q),λz=>(by rw[hc b z] at q;cases q)]
 refine(x a o e).Ax (λb u hb q=>?_) (λ_ q=>q) λ_ _ q=>q
 rcases hb with rfl|hb
 .erw[k.keep b u q (nf b _ e).1 (nf b _ e).2]
 .erw[k.keep b u q (nf b _ hb).1 (nf b _ hb).2]
def DW(X:Cx)(pZ:List (Addr×Obj))(H:Hp)(b:Addr):Prop:=H b=none/\X.s₀.heap.objs.size<=b/\b≠X.env.locals/\(∀x c,X.env.cells.lookup x=some c->c≠b)/\∀p∈X.pn++pZ,p.1≠b
theorem Inv.Pr(I:Inv X pZ σ H s)(hb:s.heap.objs.size<=b):DW X pZ H b:=by
 have no:∀o,¬s.heap.get? b=some o:=λo e=>absurd (aQ e) (jm.mpr hb)
 refine#[I.dm.fresh hb,aJ I.sz hb,λe=>?_,λx c e z=>?_,λp hp z=>?_]
 .erw[absurd I.lt (jm.mpr (e▸hb))]
 .let#[v,o,ho,_]:=I.cell x c e
  rw[z] at ho;erw[no o ho]
 .have:=(I.pin p hp).1
  rw[z] at this;erw[no _ this]
theorem Inv.yT(I:Inv X pZ σ H s)(k:kz (wG X.stack) ch s.heap h')(hc:∀b∈ch,DW X pZ H b):Inv X pZ σ H {s with heap:=h'}:=by
 have any:∀b o,b∉ch->s.heap.get? b=some o->∃sl,h'.get? b=some {o with slots:=sl}:=λb o n e=>by
  by_cases z:b∈wG X.stack
  .erw[k.slot b o e z n]
  .exact#[o.slots,k.keep b o e z n]
 refine I.step (g':=s.gens) (t':=s.toks) (d':=s.drawn) (ch:=ch) (λb m=>#[.inr (hc b m).2.1,(hc b m).2.2.1,(hc b m).2.2.2.1,(hc b m).2.2.2.2]) (λb o nl nf nc e _=>k.keep b o e (λz=>?_) nc) (λb o _ _ nc e _=>any b o nc e) (λ_ _ _ _ n=>n)
  (λb o nc e=>let ⟨_,q⟩:=any b o nc e;#[_,q]) (λ_ _ e=>e) (λ_ _ _ e=>e) (λb ps e=>#[#[],by rw[e];simp]) (λm hm=>?_) (I.dm.yT k I.yI λb m=>(hc b m).1) I.bare
 .rcases aN.mp (I.vc b z) with q|q
  .erw[nl q]
  .erw[nf q]
 .let#[o,es,ep,ho,r]:=hm
  let#[sl,q]:=any _ o (λz=>(hc _ z).2.2.1 rfl) ho;exact#[_,es,ep,q,r]
def Uh(X:Cx)(E:XK):Prop:=∀(pZ:List (Addr×Obj))(σ:St)(H:Hp)(s:az)(a:Addr)(tb:Option Addr)(c:Value)(dx:Option Addr),Inv X pZ σ H s->GN s.heap a c dx (tb.map λT=>(T,cv)) ->
 (∀b∈a::tb.toList,DW X pZ H b)->E c dx H->X.xe (.ref a) s
theorem ug.inv(I:Inv X pZ σ H s)(h:ug X.prog X.w X.stack H s E e s'):
  ∃a T c dx H',e=.ref a/\Inv X pZ σ H' s'/\GN s'.heap a c dx (some (T,.none))/\(∀b∈[a,T],DW X pZ H' b)/\E c dx H':=by
 let#[a,T,c,dx,H',rfl,os,bare,un,dm,x,#[ha,hT],#[fa,fT],q]:=h;have I':Inv X pZ σ H' s':=I.NO (ch:=[]) os un dm bare (λb z=>absurd z (by simp));refine#[a,T,c,dx,H',rfl,I',x,λb m=>?_,q];rcases aN.mp m with e|m
 .subst e;exact#[ha,(I.Pr fa).2]
 .have e:b=T:=by simpa using m
  subst e;exact#[hT,(I.Pr fT).2]
theorem HM{P:bD}{w:cy}{K:aI}{mg:Str->Option Value}{base:Heap}{N:List Str}{qual:Str}{scope:jW}{f:Addr}{cd:Value}{A:dD}{outer:List Env}{s:az}{H:Hp}{E:XK}:
  Uh (AF (ug P w) P w K mg base N qual scope f cd A outer s H E) E:=by
 intro pZ σ H1 s1 a tb c dx I x fr q;show wpAny _ _ (leaving _ (.ref a)) _ _ s1;have hL:(qB qual scope s.heap.objs.size f cd).frame=some s.heap.objs.size:=rfl;rwa[Pq (base:=base) (L:=s.heap.objs.size) I.ok.frames I.stack hL x λh' T' k n x'=>?_]
 have I':=I.yT k fr;have fa:s.heap.objs.size<=a:=(fr a aT).2.1;have sz:s.heap.objs.size<=s1.heap.objs.size:=I.sz;refine#[a,T',c,dx,H1,rfl,I.os,I.bare,?_,I'.dm,x',#[(fr a aT).1,I.dm.fresh n],#[fa,aJ sz n],q];erw[I'.base]
theorem KG.okX{P:bD}{w:cy}{K:aI}{mg:Str->Option Value}{base:Heap}{x qual:Str}{st:Stmt}{f:Addr}{fd:fq}{N ps:List Str}{k:Nat}{sp:Sp}(F:KG K x qual st f fd)(S:l7 N ps (bN st))(len:∀vs H Q E,sp vs H Q E->vs.length=ps.length)
  (hbody:∀(cdv:Value)(A:dD)(outer:List Env)(s:az)(H:Hp)(vs:List V)(Q:VK)(E:XK),kH k (A.deeper (qB qual (bN st) s.heap.objs.size f cdv))->sp vs H Q E ->
   ∃t,wH (AF (ug P w) P w K mg base N qual (bN st) f cdv A outer s H E) (fQ st) t/\t {nx:=λ_ H'=>Q .bQ H',rt:=Q} (start N vs) H):kI P w K mg base (ug P w) (k+1) f fd ps sp:=by
 let#[oc,od,kV,doc,pm,an,cdv,ct,osl,rfl,lk,hcd]:=F.ex;erw[TV lk hcd S len λA outer s H vs Q E hr hsp=>hbody cdv A outer s H vs Q E hr hsp]
open Builtin Builtin.ObjectAttr
def XE(X:Cx)(pZ:List (Addr×Obj))(σ:St)(E:XK)(ex:Value)(s':az):Prop:=
 ∃(a:Addr)(tb:Option Addr)(c:Value)(dx:Option Addr)(H':Hp),ex=.ref a/\Inv X pZ σ H' s'/\GN s'.heap a c dx (tb.map λT=>(T,cv))/\(∀b∈a::tb.toList,DW X pZ H' b)/\E c dx H'
def Ui(X:Cx)(pZ:List (Addr×Obj))(E:St->XK)(ex:Value)(s':az):Prop:=∃σ',XE X pZ σ' (E σ') ex s'
def dZ(X:Cx)(e:Expr)(t:XK->TE):Prop:=
 ∀(pZ:List (Addr×Obj))(s:az)(σ:St)(H:Hp)(Q:VK)(E:XK),Inv X pZ σ H s->t E σ H Q->wpAny (bb X.prog X.w) X.A (eval e X.env) (EP X pZ σ Q) (XE X pZ σ E) s
section
variable{X:Cx}{st:Stmt}{rest:List Stmt}{e:Expr}{es:List Expr}{pos p apos:Pos}
section
variable{k:Nat}{f C:Addr}{fd:fq}{ps:List Str}{sp:Sp}{dvs:List V}{ds:List Value}{x m:Str}{o:Expr}{ta:TE}{t:TA}
theorem uB(F:kI X.prog X.w X.K X.mg X.base (ug X.prog X.w) k f fd ps sp)(hr:kH k X.A)(hb:Binds X.K fd ps ds)(hd:Vals dvs ds)
  (I:Inv X pZ σ H s) (r:Vals vs us) (h:sp (vs++dvs) H Q E):wpAny (bb X.prog X.w) X.A (call (.ref f) us) (EP X pZ σ Q) (XE X pZ σ E) s:=by
 have r2:Vals (vs++dvs) (us++ds):=r.append hd;have hl:(us++ds).length=ps.length:=by rw[<-r2.length];erw[F.len _ _ _ _ h]
 rwa[wpAny_call (wC (F.run X.A X.stack s H #[us,[]] (us++ds) (vs++dvs) Q E hr I.TU (hb s us I.BY hl) r2 h) λr s' hq=>?_)];cases r with
 |error e=>
  let#[a,T,c,dx,H',e1,I',x,fr,q]:=ug.inv I hq;exact#[a,some T,c,dx,H',e1,I',x,fr,q]
 |ok fl=>
  cases fl with
  |ret u=>erw[I.after hq]
  |next=>erw[aO hq]
  |brk=>erw[aO hq]
  |cont=>erw[aO hq]
end
end
noncomputable def qe(env:Env):List (Str×NameKind)->List (Str×Addr)->List (Str×Addr)
 |[],acc=>acc
 | (n,k)::r,acc=>qe env r (if k=.free then(n,(env.cells.lookup n).getD 0)::acc else acc)
theorem vn(h:∀n,(n,bM)∈scope.names->∃c,env.cells.lookup n=some c):closureFor scope env=pure (qe env scope.names []):=by
 have all:∀(l:List (Str×NameKind))(acc:List (Str×Addr)),(∀n,(n,bM)∈l->∃c,env.cells.lookup n=some c) ->
   (forIn (m:=Sem) l acc λ(x:Str×NameKind)(cs:List (Str×Addr))=>if (x.2==.free)=true then do let c <-cellOf env x.1;pure (eO ((x.1,c)::cs)) else pure (eO cs))=pure (qe env l acc):=by
  intro l;induction l with
  |nil=>intro acc _;rfl
  |cons p r ih=>
   intro acc hl;let#[n,k]:=p;rw[oQ]
   have hr:∀m,(m,bM)∈r->∃c,env.cells.lookup m=some c:=λm hm=>hl m (aA _ hm)
   by_cases hk:k=.free
   .subst hk
    let#[c,hc]:=hl n aT;have e:cellOf env n=pure c:=by unfold cellOf;rw[hc]
    show(do let x <-(if (bM==bM)=true then do let c <-cellOf env n;pure (eO ((n,c)::acc)) else pure (eO acc));_)=_
    rw[if_pos ⋯,e]
    show(forIn (m:=Sem) r ((n,c)::acc) _)=_
    rw[ih _ hr]
    show _=pure (qe env r (if bM=bM then(n,(env.cells.lookup n).getD 0)::acc else acc))
    rw[if_pos rfl,hc]
    rfl
   .have hb:(k==bM)=false:=by simpa using hk
    show(do let x <-(if (k==bM)=true then do let c <-cellOf env n;pure (eO ((n,c)::acc)) else pure (eO acc));_)=_
    rw[hb,if_neg ⋯]
    show(forIn (m:=Sem) r acc _)=_
    rw[ih _ hr]
    show _=pure (qe env r (if k=bM then(n,(env.cells.lookup n).getD 0)::acc else acc))
    rw[if_neg hk]
 have:=all scope.names [] h;unfold closureFor;simpa using this
theorem tR:∀(l:List (Str×NameKind))(acc:List (Str×Addr))(y:Str)(c:Addr),(qe env l acc).lookup y=some c->(c=(env.cells.lookup y).getD 0/\(y,bM)∈l)\/acc.lookup y=some c
 |[],acc,y,c,h=>.inr h
 | (n,k)::r,acc,y,c,h=>by
  rcases tR r _ y c h with⟨e,m⟩|q
  .erw[.inl #[e,aA _ m]]
  .by_cases hk:k=.free
   .rw[if_pos hk] at q
    by_cases e:y=n
    .subst e
     subst hk;rw[pq] at q;cases q;erw[.inl #[rfl,aT]]
    .rw[aK,show(y==n)=false by simpa using e] at q
     erw[.inr q]
   .rw[if_neg hk] at q
    erw[.inr q]
theorem AN:∀(l:List (Str×NameKind))(acc:List (Str×Addr))(y:Str),(∃c,acc.lookup y=some c)->∃c,(qe env l acc).lookup y=some c
 |[],_,_,h=>h
 | (n,k)::r,acc,y,h=>by
  rwa[AN r _ y ?_];by_cases hk:k=.free
  .rw[if_pos hk]
   by_cases e:y=n
   .subst e;exact#[_,pq]
   .rw[aK,show(y==n)=false by simpa using e];erw[h]
  .rw[if_neg hk];erw[h]
theorem vo:∀(l:List (Str×NameKind))(acc:List (Str×Addr))(y:Str),(y,bM)∈l->∃c,(qe env l acc).lookup y=some c
 | (n,k)::r,acc,y,h=>by
  rcases aN.mp h with e|m
  .have e1:y=n:=congrArg DI e
   have e2:bM=k:=congrArg Prod.snd e;subst e1;rwa[AN r _ y ?_];rw[if_pos e2.symm]
   exact#[_,pq]
  .erw[vo r _ y m]
theorem qE:∀(l:List (Str×NameKind))(n:Nat)(acc:List (Str×Addr)),jd n l acc=jd n l []++acc
 |[],_,_=>rfl
 | (y,k)::r,n,acc=>by
  unfold jd;split
  .rw[qE r _ ((y,n)::acc),qE r _ [(y,n)]];simp
  .erw[qE r n acc]
theorem yU:∀(l:List (Str×NameKind))(n:Nat)(y:Str)(c:Addr),(y,c)∈jd n l []->(y,gh)∈l
 | (z,k)::r,n,y,c,h=>by
  unfold jd at h;split at h
  .rename_i hk
   rw[qE] at h;rcases aG.mp h with h|h
   .erw[aA _ (yU r _ y c h)]
   .cases aZ.mp h
    rw[beq_iff_eq.mp hk];erw[aT]
  .erw[aA _ (yU r n y c h)]
theorem yV:∀(l:List (Str×NameKind))(n:Nat)(y:Str),(y,gh)∈l->∃c,(y,c)∈jd n l []
 | (z,k)::r,n,y,h=>by
  unfold jd;rcases aN.mp h with e|h
  .cases e
   rw[if_pos (show(gh==gh)=true from rfl),qE]
   exact#[n,ba _ aT]
  .split
   .let#[c,q]:=yV r (n+1) y h
    rw[qE];exact#[c,bR _ q]
   .erw[yV r n y h]
theorem mG{α:Type}:∀{l:List (Str×α)}{y:Str}{c:α},(y,c)∈l->∃c',l.lookup y=some c'
 | (z,d)::r,y,c,h=>by
  rw[aK]
  cases e:y==z with
  |true=>exact#[d,rfl]
  |false=>
   rcases aN.mp h with q|q
   .cases q;simp at e
   .erw[mG q]
noncomputable def sS(scope:jW)(C:Addr):List (Str×Addr):=jd (C+1) scope.names []
def Cx.vp(X:Cx)(scope:jW)(C:Addr)(N:List Str)(s₀:az)(H₀:Hp)(ex:List Addr):Cx:=
 {X with N:=N,s₀:=s₀,H₀:=H₀,env:=compEnvC scope (sS scope C++qe X.env scope.names []) C X.env,outer:=X.stack,stack:=X.stack,ex:=ex,fn:=λy=>scope.names.lookup y==some .cell,pn:=[],xe:=λ_ _=>False}
structure AO(X:Cx)(scope:jW)(x:List Str):Prop where
 kind:scope.kind=.function
 nc:∀y∈scope.names,y.2=.cell->scope.names.lookup y.1=some .cell
 lo:∀y∈scope.names,y.2=.local->scope.names.lookup y.1=some .local
 fr:∀y∈scope.names,y.2=.free->X.env.scope.names.lookup y.1=some .cell
 nm:∀y∈x,scope.names.lookup y=some .local\/scope.names.lookup y=some .cell
 nd:x.Nodup
 lk:∀y,scope.names.lookup y=some .free->(y,bM)∈scope.names
theorem gU{env : Env} : ∀(names : List (Str×NameKind))(x : Str)(k : NameKind),
    (names.map λ(n, k) => if (k==bM&&env.scope.kind==.function&&env.kindOf n==some .cell) then (n, gh) else (n, k)).lookup x=some k -> names.lookup x=some k \/ (k=.cell /\ names.lookup x=some .free)
  |[], _, _, h => by cases h
  | (n, k0)::r, x, k, h => by
    rw [au] at h;dsimp only at h;by_cases hc : (k0==bM&&env.scope.kind==.function&&env.kindOf n==some .cell)=true
    · rw [if_pos hc] at h
      dsimp[aj, beq_iff_eq] at hc;by_cases e : (x==n)=true
      · rw [aK, e] at h
        cases h;rwa[.inr #[rfl, ?_]];rw [aK, e, hc.1.1]
      · have e' : (x==n)=false := by simpa using e
        rw [aK, e'] at h;rw [aK, e'];erw[gU r x k h]
    · rw [if_neg hc] at h
      by_cases e : (x==n)=true
      · rw [aK, e] at h
        cases h;rwa[.inl ?_];rw [aK, e]
      · have e' : (x==n)=false := by simpa using e
        rw [aK, e'] at h;rw [aK, e'];erw[gU r x k h]
section
variable{X:Cx}{pZ:List (Addr×Obj)}{σ:St}{H:Hp}{s:az}{scope:jW}{x:List Str}
theorem AO.cells(B:AO X scope x)(ok:X.Ok):∀n,(n,bM)∈scope.names->∃c,X.env.cells.lookup n=some c:=λn hn=>ok.has n (.inl (B.fr _ hn rfl))
theorem AO.cl(B:AO X scope x)(ok:X.Ok)(h:(qe X.env scope.names []).lookup y=some c):X.env.cells.lookup y=some c/\X.env.scope.names.lookup y=some .cell:=by
 rcases tR _ _ _ _ h with⟨e,m⟩|q
 .let#[c',hc']:=B.cells ok y m
  rw[hc'] at e;rw[e]
  exact#[hc',B.fr _ m rfl]
 .cases q
theorem qF(B:AO X scope x)(h:(sS scope C++qe X.env scope.names []).lookup y=some c):
  ((y,c)∈sS scope C/\scope.names.lookup y=some .cell)\/((sS scope C).lookup y=none/\(qe X.env scope.names []).lookup y=some c):=by
 rw[GI] at h;cases q:(sS scope C).lookup y with
 |some d=>rw[q] at h;cases h;have m:=cR q;erw[.inl #[m,B.nc _ (yU _ _ _ _ m) rfl]]
 |none=>rw[q] at h;erw[.inr #[rfl,h]]
theorem AQ(B:AO X scope x)(hf:scope.names.lookup y=some .free)(h:(qe X.env scope.names []).lookup y=some c):(sS scope C++qe X.env scope.names []).lookup y=some c:=by
 rw[GI]
 cases q:(sS scope C).lookup y with
 |some d=>have z:=B.nc _ (yU _ _ _ _ (cR q)) rfl;rw[hf] at z;cases z
 |none=>erw[h]
theorem AR{α:Type}{l:List (Str×α)}(h:l.Pairwise λx y=>x.2≠y.2):∀{a b:Str×α},a∈l->b∈l->a.2=b.2->a=b:=by
 induction h with
 |nil=>intro a b h;erw[nomatch h]
 |cons q _ ih=>
  intro a b ha hb e;rcases aN.mp ha with ea|ha'<;>rcases aN.mp hb with eb|hb'
  .rw[ea,eb]
  .subst ea;erw[absurd e (q _ hb')]
  .subst eb;erw[absurd e.symm (q _ ha')]
  .erw[ih ha' hb' e]
theorem Inv.block{C:Addr}{h':Heap}{t':Nat}{ex:List Addr}{N:List Str}{τ:St}(I:Inv X pZ σ H s)(B:AO X scope x)(hC:C=s.heap.objs.size)(hns:h'.Ns C λ_=>none)(oc:CellsOk h' (C+1) (sS scope C))
  (kp:∀b o,s.heap.get? b=some o->h'.get? b=some o) (hex:∀b∈ex,qC X pZ H b/\b<s.heap.objs.size) (hl:τ.length=N.length)
  (hτ:∀(i:Nat)(y:Str)(v:V),N[i]?=some y->τ[i]?=some (some v)->scope.names.lookup y=some .free/\∃j:Nat,X.N[j]?=some y/\σ[j]?=some (some v)):
  Inv (X.vp scope C N s H ex) [] τ H {s with heap:=h',toks:=t'}:=by
 have ok:=I.ok;have cleq:∀y c,(X.vp scope C N s H ex).env.cells.lookup y=some c->((y,c)∈sS scope C/\h'.IsCell c none/\C<c)\/(X.env.cells.lookup y=some c/\X.env.scope.names.lookup y=some .cell):=λy c e=>by
  rcases qF B e with q|q
  .erw[.inl #[q.1,oc.empty y c q.1]]
  .erw[.inr (B.cl ok q.2)]
 have old:∀y c,X.env.cells.lookup y=some c->c<C:=λy c e=>by
  let#[v,q]:=I.cell y c e;rw[hC];erw[q.lt]
 have hfr:H C=none:=by rw[hC];erw[I.dm.fresh (ak _)]
 refine#[#[ok.mod,B.kind,ok.glob,ok.blt,Ca hC.symm,λy z c h1 h2=>?_,λy hy=>?_,λy c z e=>?_,ok.hd,ok.frames,.inl rfl,λb hb=>?_,λb o e=>I.bs b o e,aJ ok.Hm I.sz,λb o e hb=>?_,λb hb=>?_,I.stack,I.yI],
  rfl,I.bare,Un.kept kp,#[_,hns,λi y v e1 e2 e3=>?_],λy c e=>?_,hfr,λy c e=>?_,λp hp=>absurd (show p∈([]:List (Addr×Obj)) from hp) (by simp),I.dm.kept kp,hl]
 .rcases cleq y c h1 with⟨m1,_,l1⟩|q1<;>rcases cleq z c h2 with⟨m2,_,l2⟩|q2
  .erw[congrArg DI (AR oc.apart m1 m2 rfl)]
  .erw[absurd (old z c q2.1) (jm.mpr (b7 l1))]
  .erw[absurd (old y c q1.1) (jm.mpr (b7 l2))]
  .erw[ok.inj y z c q1.1 q2.1]
 .have own:(y,gh)∈scope.names->∃c,(X.vp scope C N s H ex).env.cells.lookup y=some c:=λm=>by
   let#[c,q]:=yV _ (C+1) _ m;erw[mG (bR _ q)]
  have Pr:scope.names.lookup y=some .free->∃c,(X.vp scope C N s H ex).env.cells.lookup y=some c:=λm=>by
   let#[c,q]:=vo (env:=X.env) scope.names [] y (B.lk y m);exact#[c,AQ B m q]
  rcases hy with h|h
  .rcases gU (env:=X.env) scope.names y .cell h with q|q
   .erw[own (cR q)]
   .erw[Pr q.2]
  .rcases gU (env:=X.env) scope.names y .free h with q|q
   .erw[Pr q]
   .erw[absurd q.1 ⋯]
 .rcases cleq y c e with q|q
  .show s.heap.objs.size<=c
   rw[<-hC];erw[b7 q.2.2]
  .have z:scope.names.lookup y=some .cell:=beq_iff_eq.mp z
   rcases qF B e with w|w
   .erw[absurd (old y c q.1) (jm.mpr (b7 (oc.empty y c w.1).2))]
   .let#[d,m]:=yV _ (C+1) _ (cR z)
    let#[d',m']:=mG m;rw[show(sS scope C).lookup y=some d' from m'] at w;cases w.1
 .refine#[λz=>?_,λy c e z=>?_]
  .have:=(hex b hb).2
   rw[z,show(X.vp scope C N s H ex).env.locals=C from rfl,hC] at this;erw[absurd this (dI _)]
  .rcases cleq y c e with q|q
   .have:=(hex b hb).2
    rw[<-z,<-hC] at this;erw[absurd this (jm.mpr (b7 q.2.2))]
   .exact(hex b hb).1.2.2.2.2.1 y c q.1 z
 .let#[f0,f1,f2,f3,f4,f5]:=(hex b hb).1
  rcases f3 with z|z
  .erw[ok.Ck b o e z]
  .erw[absurd (av (aQ (ok.bs b o e).1) z) (dI _)]
 .let#[f0,f1,f2,_]:=(hex b hb).1
  intro z;rcases aN.mp (I.vc b z) with q|q
  .erw[f1 q]
  .erw[f2 q]
 .let#[hf,j,hj,hv]:=hτ i y v e1 e2
  let#[m,_,hlk]:=I.loc;have hcell:=B.fr _ (B.lk y hf) rfl;let#[u,r,l]:=hlk j y v hj hv (.inr (.inl hcell));refine#[u,r,.inr #[?_,?_]]
  .show(Hc scope X.env).names.lookup y=some .cell\/(Hc scope X.env).names.lookup y=some .free
   have:=e3;rcases this with q|q|q
   .rcases gU (env:=X.env) scope.names y .local q with z|z
    .rw[hf] at z;cases z
    .erw[absurd z.1 ⋯]
   .erw[.inl q]
   .erw[.inr q]
  .rcases l with⟨k,_⟩|⟨_,c,hc,z⟩
   .have k':X.env.scope.names.lookup y=some .local:=k
    rw[hcell] at k';cases k'
   .let#[c',hc']:=vo (env:=X.env) scope.names [] y (B.lk y hf)
    have hc2:=(B.cl ok hc').1;rw[hc] at hc2;cases hc2;let#[o,ho,hd]:=z;exact#[c,AQ B hf hc',#[o,kp _ _ ho,hd]]
 .rcases cleq y c e with q|q
  .exact#[none,q.2.1]
  .let#[v,o,ho,hd]:=I.cell y c q.1
   exact#[v,o,kp _ _ ho,hd]
 .rcases cleq y c e with q|q
  .erw[I.dm.fresh (by rw[<-hC];exact b7 q.2.2)]
  .erw[I.om y c q.1]
theorem Inv.LL(I:Inv X pZ σ H s)(J:Inv (X.vp scope C N s H ex) [] τ H' s')(hex:∀b∈ex,qC X pZ H b):Inv X pZ σ H' s':=
 I.NO (ch:=ex) J.os J.base J.dm J.bare λb hb=>#[(hex b hb).2.2.2.1,(hex b hb).2.1,(hex b hb).2.2.2.2.1,(hex b hb).2.2.2.2.2]
end
def LM(X:Cx)(ifs:List Expr)(t:TT):Prop:=
 ∀(pZ:List (Addr×Obj))(s:az)(σ:St)(H:Hp)(Q:Bool->Hp->Prop),Inv X pZ σ H s->t σ H Q ->
  wpAny (bb X.prog X.w) X.A (forIn ifs true λc r=>if r=true then do let ok <-isTrue c X.env (eval c X.env);pure (eO ok) else pure (eO r)) (TP X pZ σ Q) X.xe s
noncomputable def Uj:TT:=λ_ H Q=>Q true H
theorem LN:LM X [] Uj:=λ_ _ _ H _ I q=>wpAny_tests_nil #[H,I,q]
theorem LO(h:PT X c t):LM X [c] t:=λpZ s σ H Q I q=>wpAny_tests_one (h pZ s σ H Q I q)
noncomputable def gV(σ:St)(ci:List Nat):St:=ci.map λj=>(σ[j]?).join
def Uk(K:Frag)(pr:Bool)(y:V)(H:Hp)(k:St->Prop):Prop:=match pr with
 |false=>k [some y]
 |true=>∃p a b,y=.ref p/\oq K H p [a,b]/\k [some a,some b]
abbrev NS(bd:V->Hp->(St->Prop)->Prop)(J:It)(D:Addr)(tc:TT)(te:TE)(caps:St)(R:Hp->Prop)(H1:Hp):Prop:=
 ∃W:Nat->Nat->List V->Hp->Prop,(∃m,W 0 m [] (upd H1 D (.lst [])))/\∀i m acc H2,W i m acc H2->H2 D=some (.lst acc)/\acc.length<sizeLine /\
  ((J.stop i H2/\R H2)\/(J.go i H2/\∀y H3,J.Ts i H2 y H3->bd y H3 λτ=>tc (τ++caps) H3 λb H4=>
   if b=true then te (τ++caps) H4 λz H5=>H5 D=some (.lst acc)/\∃m',m'<m/\W (i+1) m' (acc++[z]) (upd H5 D (.lst (acc++[z]))) else ∃m',m'<m/\W (i+1) m' acc H4))
def HN(bd:V->Hp->(St->Prop)->Prop)(wi:TI)(ci:List Nat)(tc:TT)(te:TE):TE:=λσ H Q=>wi σ H λJ H1=>∀D,H1 D=none->NS bd J D tc te (gV σ ci) (λH2=>Q (.ref D) H2) H1
structure yW(X:Cx)(scope:jW)(cn:List Str)(ci:List Nat):Prop where
 len:ci.length=cn.length
 at_:∀(k:Nat)(y:Str),cn[k]?=some y->∃j:Nat,ci[k]?=some j/\X.N[j]?=some y
 fr:∀y∈cn,scope.names.lookup y=some .free
section
variable{X:Cx}{pZ:List (Addr×Obj)}{σ:St}{H:Hp}{s:az}{scope:jW}{x:List Str}
theorem LP{M:Model}{A:dD}{E:Value->az->Prop}{s:az}{scope:jW}{globals:Addr}{cl:List (Str×Addr)}{qual:Str}{env:Env}{Q:Env->az->Prop}
  (hQ:Q (newEnv scope s.heap.objs.size globals (sS scope s.heap.objs.size++cl) qual none .none (some env) B9) {s with heap:=pushCells (s.heap.push {cls:=.type "dict",data:=.dict #[]}) scope.names}):
  wpAny M A (Cb scope globals cl [] qual none .none (some env)) Q E s:=by
 dsimp[Cb,qS,if_true];refine ae (wpAny_alloc ?_);refine ae (wpAny_layCells _ (λname kind cells=>by cases hkc:kind==gh<;>simp[hkc]) _ _ _ _ ?_);rw[show({s with heap:=s.heap.push {cls:=.type "dict",data:=.dict #[]} }:az).heap.objs.size=s.heap.objs.size+1 from iC ..,qE]
 erw[ae (aB (aB hQ))]
theorem sT{cn:List Str}{X:Cx}{scope:jW}{ci:List Nat}(cp:yW X scope cn ci)(B:AO X scope x)(hn:cn.Nodup):(x++cn).Nodup:=
 dO.mpr #[B.nd,hn,λy hy z hz e=>(by
  subst e;have q:=cp.fr y hz;rcases B.nm y hy with z|z<;>(rw[z] at q;cases q))]
def Sw(X:Cx)(tg:Expr)(scope:jW)(x cn:List Str)(bd:V->Hp->(St->Prop)->Prop):Prop:=
 ∀(C:Addr)(s₀:az)(H₀:Hp)(ex:List Addr)(pZ:List (Addr×Obj))(s:az)(τ caps:St)(H:Hp)(v:V)(u:Value)(k:St->Prop),Inv (X.vp scope C (x++cn) s₀ H₀ ex) pZ (τ++caps) H s->τ.length=x.length->RelV v u->bd v H k ->
  wpAny (bb X.prog X.w) X.A (yq tg (X.vp scope C (x++cn) s₀ H₀ ex).env u) (λ_ s'=>∃τ',τ'.length=x.length/\Inv (X.vp scope C (x++cn) s₀ H₀ ex) pZ (τ'++caps) H s'/\k τ') (λ_ _=>False) s
theorem nF{env : Env}{k : NameKind}(hk : k≠.free) : ∀{names : List (Str×NameKind)}{x : Str}, names.lookup x=some k ->
    (names.map λ(n, k) => if (k==bM&&env.scope.kind==.function&&env.kindOf n==some .cell) then (n, gh) else (n, k)).lookup x=some k
  | (n, k')::r, x, h => by
    rw [au];dsimp only;rw [aK] at h;cases e : x==n with
    |true =>
      rw [e] at h; cases h;rw [if_neg (by simp [hk]), aK, e]
    |false =>
      rw [e] at h;split <;> (rw [aK, e]; exact nF hk h)
theorem AO.loc(B:AO X scope x){C:Addr}{N:List Str}{s₀:az}{H₀:Hp}{ex:List Addr}{y:Str}(hy:y∈x):
  Loc (X.vp scope C N s₀ H₀ ex).env.scope y/\((X.vp scope C N s₀ H₀ ex).fn y=true\/(X.vp scope C N s₀ H₀ ex).env.scope.names.lookup y=some .local):=by
 rcases B.nm y hy with z|z
 .have q:=nF (env:=X.env) (k:=.local) (by intro e;cases e) z
  exact#[.inl q,.inr q]
 .exact#[.inr (nF (env:=X.env) (k:=.cell) (by intro e;cases e) z),.inl (beq_iff_eq.mpr z)]
theorem X8{α:Type}{l:List α}(h:l.length=2):∃a b,l=[a,b]:=by
 cases l with
 |nil=>cases h
 |cons a t=>let#[b,e]:=jG.mp (ni h);exact#[a,b,by rw[e]]
theorem HP(B:AO X scope [y])(cp:yW X scope cn ci)(hnd:cn.Nodup):Sw X (.Name y py) scope [y] cn (Uk X.K false):=by
 intro C s₀ H₀ ex pZ s τ caps H v u k I hl r h;have hx:=B.loc (C:=C) (N:=[y]++cn) (s₀:=s₀) (H₀:=H₀) (ex:=ex) (y:=y) (by simp);let#[o,rfl]:=jG.mp hl;erw[wz (rm I (sT cp B hnd) (i:=0) rfl hx.1 r (λs8 J8=>#[[some v],rfl,J8,h]) hx.2)]
theorem HQ{y z:Str}{py pz pt:Pos}{n:Nat}{cn:List Str}{ci:List Nat}(B:AO X scope [y,z])(cp:yW X scope cn ci)(hnd:cn.Nodup)(hc:X.calm=true):Sw X (.Tuple [.Name y py,.Name z pz] n pt) scope [y,z] cn (Uk X.K true):=by
 intro C s₀ H₀ ex pZ s τ caps H v u k I hl r h;have hy:=B.loc (C:=C) (N:=[y,z]++cn) (s₀:=s₀) (H₀:=H₀) (ex:=ex) (y:=y) (by simp);have hz:=B.loc (C:=C) (N:=[y,z]++cn) (s₀:=s₀) (H₀:=H₀) (ex:=ex) (y:=z) (by simp);have nd:=sT cp B hnd;let#[p,a,b,e,hq,q]:=h;let#[o,o',rfl]:=X8 hl;rwa[bY (Hq (X:=X.vp scope C ([y,z]++cn) s₀ H₀ ex) (pos:=pt) (k:=n) hc (rA (rq (i:=0) (pos:=py) nd rfl hy.1 hy.2) (rA (rq (i:=1) (pos:=pz) nd rfl hz.1 hz.2) DM)) rfl rfl pZ s _ H v u (λσ' H'=>H'=H/\σ'=[some a,some b]++caps) I r ?_) (λ_ s' #[σ',H',I',e1,e2]=>?_) λ_ _ z=>z]
 .exact#[p,[a,b],e,hq,rfl,a,[b],rfl,b,[],rfl,rfl,rfl,rfl]
 .subst e1 e2
  exact#[[some a,some b],rfl,I',q]
theorem AS{elt iter tg:Expr}{bd:V->Hp->(St->Prop)->Prop}{pos:Pos}{ifs:List Expr}{it:Addr}{fp:List Addr}{tn:Nat->Heap->Prop}{J:It}{tc:TT}{te:TE}{cn:List Str}{ci:List Nat}{RR:Value->Addr->Result->az->Prop}{Rq:Addr->Hp->Prop}{E:Value->az->Prop}
  (I:Inv X pZ σ H s) (B:AO X scope x) (cp:yW X scope cn ci) (hnd:cn.Nodup) (hcalm:X.calm=true) (ht:Sw X tg scope x cn bd) (T:Turn X.prog X.w X.K tg J fp it tn) (t0:tn 0 s.heap) (hf:∀b∈fp,qC X pZ H b)
  (hc:∀C s₀ H₀ ex,LM (X.vp scope C (x++cn) s₀ H₀ ex) ifs tc) (he:∀C s₀ H₀ ex,PE (X.vp scope C (x++cn) s₀ H₀ ex) elt te)
  (h:∀D,H D=none->NS bd J D tc te (gV σ ci) (Rq D) H)
  (fin:∀C D H5 s5,Inv X pZ σ H5 s5->Rq D H5->(∃m,s5.heap.Ns C m)->DW X pZ H5 C->RR (.ref D) C (.ok .next) s5):
  wpAny (bb X.prog X.w) X.A (newList []) (λacc s₃=>wpAny (bb X.prog X.w) X.A (Cb scope X.env.globals (qe X.env scope.names []) [] X.env.qual none .none (some X.env)) (λcenv s₄=>
   qA (bb X.prog X.w) X.A (.compStart (.ListComp elt [#[tg,iter,ifs,0]] scope pos) 0 (.ref it) acc {cenv with scope:=Hc scope X.env}) (RR acc cenv.locals) s₄) E s₃) E s:=by
 have ok:=I.ok;let#[W,#[m0,w0],turn]:=h s.heap.objs.size (I.dm.fresh (ak _));generalize hD:s.heap.objs.size=D at turn w0;refine iK ?_;have I2:Inv X pZ σ (upd H D (.lst [])) {s with heap:=s.heap.push {cls:=.type "list",dict:=none,data:=.seq ([]:List Value).toArray} }:=by
  have:=I.T7 (its:=[]) (ys:=[]) (t':=s.toks) .nil (bX _);rw[hD] at this;erw[this]
 generalize hH2:s.heap.push {cls:=.type "list",dict:=none,data:=.seq ([]:List Value).toArray}= h2 at I2 ⊢;have k2:∀b o,s.heap.get? b=some o->h2.get? b=some o:=λb o e=>by rw[<-hH2];erw[aF _ e]
 have sz2:h2.objs.size=s.heap.objs.size+1:=by rw[<-hH2,iC]
 have fpl:∀b∈fp,b<s.heap.objs.size:=λb hb=>by
  let#[o,e,_]:=T.obj _ _ t0 b hb;erw[aQ e]
 have nD:∀b∈fp,b≠D:=λb hb=>by rw[<-hD];erw[aY (fpl b hb)]
 have hf2:∀b∈fp,qC X pZ (upd H D (.lst [])) b:=λb hb=>#[by rw[b9 (nD b hb)];exact(hf b hb).1,(hf b hb).2]
 have t2:tn 0 h2:=T.keep _ _ _ t0 λb _ o e=>k2 b o e
 show wpAny _ _ _ _ _ {s with heap:=h2}
 rwa[LP ?_];generalize hH3:pushCells (h2.push {cls:=.type "dict",data:=.dict #[]}) scope.names=h3;have kp3:∀b o,h2.get? b=some o->h3.get? b=some o:=λb o e=>by rw[<-hH3];erw[pushCells_keeps _ _ b o (aF _ e)]
 have ns3:h3.Ns h2.objs.size λ_=>none:=by rw[<-hH3];exact(Heap.Ns.new h2 (.type "dict")).keeps (pushCells_keeps _ _)
 have oc3:CellsOk h3 (h2.objs.size+1) (sS scope h2.objs.size):=by
  have:=cellsFrom_ok scope.names (h2.push {cls:=.type "dict",data:=.dict #[]}) (h2.objs.size+1) [] #[λ_ _ hm=>(nomatch hm),xp] (by rw[iC];erw[ak _]);rw[iC,hH3] at this;erw[this]
 have hl:((x.map λ_=>none)++gV σ ci:St).length=(x++cn).length:=by
  rw[ar,ar,af,gV,af,cp.len]
 have J3:Inv (X.vp scope h2.objs.size (x++cn) {s with heap:=h2} (upd H D (.lst [])) fp) [] ((x.map λ_=>none)++gV σ ci) (upd H D (.lst [])) {s with heap:=h3,toks:=s.toks+0}:=
  I2.block (s:={s with heap:=h2}) (h':=h3) (t':=s.toks+0) (N:=x++cn) B rfl ns3 oc3 kp3 (λb hb=>#[hf2 b hb,by rw[sz2];exact bc (fpl b hb)]) hl (λi y v e1 e2=>by
   by_cases lt:i<x.length
   .rw[ag (by simpa using lt),aw,aa lt] at e2
    cases e2
   .have e1':cn[i-x.length]?=some y:=by rw[ax ∅] at e1;erw[e1]
    have e2':(gV σ ci)[i-x.length]?=some (some v):=by rw[ax (by simpa using lt),af] at e2;erw[e2]
    refine#[cp.fr y (ah e1'),?_];let#[j,hj,hy]:=cp.at_ _ y e1';refine#[j,hy,?_];rw[gV,aw,hj] at e2';have e3:(σ[j]?).join=some v:=aL e2';cases q:σ[j]? with
    |none=>rw[q] at e3;cases e3
    |some w=>rw[q] at e3;erw[congrArg some e3])
 generalize hY:X.vp scope h2.objs.size (x++cn) {s with heap:=h2} (upd H D (.lst [])) fp=Y at J3;have ePr:Y.prog=X.prog:=by rw[<-hY];rfl
 have eW:Y.w=X.w:=by rw[<-hY];rfl
 have eK:Y.K=X.K:=by rw[<-hY];rfl
 have eC:Y.calm=true:=by rw[<-hY];erw[hcalm]
 have eA:Y.A=X.A:=by rw[<-hY];rfl
 have eE:Y.env=compEnvC scope (sS scope h2.objs.size++qe X.env scope.names []) h2.objs.size X.env:=by rw[<-hY];rfl
 have hPc:LM Y ifs tc:=by rw[<-hY];erw[hc _ _ _ _]
 have hPe:PE Y elt te:=by rw[<-hY];erw[he _ _ _ _]
 have eN:Y.N=x++cn:=by rw[<-hY];rfl
 have eX:Y.xe=λ_ _=>False:=by rw[<-hY];rfl
 have TY:Turn Y.prog Y.w Y.K tg J fp it tn:=by rw[ePr,eW,eK];erw[T]
 have fpY:∀{H':Hp},(∀b∈fp,H' b=none)->∀b∈fp,qC Y [] H' b:=λhn b hb=>by
  let#[f0,f1,f2,f3,f4,f5]:=hf2 b hb;have lt2:b<h2.objs.size:=by rw[sz2];erw[bc (fpl b hb)]
  refine#[hn b hb,λz=>?_,λz=>?_,.inl (by rw[<-hY];erw[hb]),λy c e=>?_,λp hp=>?_]
  .have z':b=h2.objs.size:=by rw[eE] at z;erw[z]
   erw[absurd lt2 (by rw[z'];exact dI _)]
  .have z':b∈wG X.stack:=by rw[<-hY] at z;erw[z]
   rcases aN.mp (I.vc b z') with q|q
   .erw[f1 q]
   .erw[f2 q]
  .rw[eE] at e
   rcases qF B e with q|q
   .intro z
    have:=(oc3.empty y c q.1).2;rw[z] at this;erw[absurd lt2 (jm.mpr (b7 this))]
   .erw[f4 y c (B.cl ok q.2).1]
  .have:p∈([]:List (Addr×Obj)):=by rw[<-hY] at hp;erw[hp]
   erw[absurd this (by simp)]
 have loop:∀s4:az,s4={s with heap:=h3,toks:=s.toks+0}->qA (bb X.prog X.w) X.A (.compLoop (.ListComp elt [#[tg,iter,ifs,0]] scope pos) 0 (.ref it) (.ref D) Y.env) (RR (.ref D) h2.objs.size) s4:=by
  rintro s4 rfl;rwa[codeAny_loop rfl (λn s'=>∃i acc τ H',τ.length=x.length/\Inv Y [] (τ++gV σ ci) H' s'/\tn i s'.heap/\(∀b∈fp,H' b=none)/\W i n acc H') ?_ m0 #[0,[],x.map λ_=>none,_,by simp,J3,T.keep _ _ _ t2 λb _ o e=>kp3 b o e,λb hb=>(hf2 b hb).1,w0]];rintro n s5 ⟨i,acc,τ,H5,hτ,J5,t5,f5,w5⟩;let#[hD5,hz5,alt]:=turn i n acc H5 w5;show wpAny _ X.A ((compTurn (.ListComp elt [#[tg,iter,ifs,0]] scope pos) 0 (.ref it) (.ref D) Y.env).onRaise (λx=>do GH x Y.env;theTreesLotGoes x)) _ _ s5;rwa[wpAny_noted ?_];rw[compTurn_list,<-eA]
  rcases alt with⟨stop,q5⟩|⟨go,step⟩
  .rwa[ae (E2 (ae ?_))]
   rw[<-ePr,<-eW]
   rwa[eT (TY.done Y rfl rfl rfl eC i [] s5 _ H5 _ J5 (fpY f5) t5 stop) λr s6 h9=>?_]
   let#[hr,J6]:=h9;subst hr;rwa[aB ?_];have J6':Inv (X.vp scope h2.objs.size (x++cn) {s with heap:=h2} (upd H D (.lst [])) fp) [] (τ++gV σ ci) H5 s6:=by rw[hY];erw[J6]
   have I6:=I2.LL J6' hf2;let#[m6,ns6,_]:=J6'.loc;have fC:=I2.Pr (b:=h2.objs.size) (ak _);erw[fin h2.objs.size D H5 s6 I6 q5 #[m6,ns6] #[J6'.free,fC.2]]
  .rwa[ae (E2 (ae ?_))]
   rw[<-ePr,<-eW]
   rwa[eT (TY.item Y rfl rfl rfl eC i [] s5 _ H5 _ J5 (fpY f5) t5 go) λr s6 h9=>?_]
   let#[u,hr,h6]:=h9;subst hr;rwa[ae ?_];rw[eA,<-eA]
   rwa[eT h6 λ_ s7 h9=>?_]
   let#[y,H7,J7,r7,y7,t7,f7]:=h9;have J7':=J7.pinned (fpY f7) (T.obj _ _ t7);have noE:∀{α:Type}{t:Sem α}{Q:α->az->Prop}{E:Value->az->Prop}{s:az},wpAny (bb Y.prog Y.w) Y.A t Q Y.xe s->wpAny (bb Y.prog Y.w) Y.A t Q E s:=λh=>bY h (λ_ _ z=>z) λ_ _ z=>by rw[eX] at z;erw[z.elim]
   have ht':wpAny (bb Y.prog Y.w) Y.A (yq tg Y.env u) (λ_ s8=>∃τ',τ'.length=x.length/\Inv Y ([]++sM fp s7.heap) (τ'++gV σ ci) H7 s8/\tc (τ'++gV σ ci) H7 λb H4=>
     if b=true then te (τ'++gV σ ci) H4 λz H5=>H5 D=some (.lst acc)/\∃m',m'<n/\W (i+1) m' (acc++[z]) (upd H5 D (.lst (acc++[z]))) else ∃m',m'<n/\W (i+1) m' acc H4) (λ_ _=>False) s7:=by
    have st:=step y H7 y7;subst hY;erw[ht _ _ _ _ _ s7 τ _ H7 y u _ J7' hτ r7 st]
   refine ae (bY ht' (λ_ s8 h9=>?_) λ_ _ z=>z.elim);let#[τ',hτ',J8',q8]:=h9;refine ae (noE (eT (hPc _ s8 _ H7 _ J8' q8) λb s9 h9=>?_));let#[H9,J9,q9]:=h9;have again:∀{acc':List V}{H':Hp}{s':az},Inv Y ([]++sM fp s7.heap) (τ'++gV σ ci) H' s'->(∃m',m'<n/\W (i+1) m' acc' H')->∃m,m<n/\∃i acc τ H',τ.length=x.length/\Inv Y [] (τ++gV σ ci) H' s'/\tn i s'.heap/\(∀b∈fp,H' b=none)/\W i m acc H':=λ{acc' H' s'}J' ⟨m',lt,w'⟩=>by
    refine#[m',lt,i+1,acc',τ',H',hτ',J'.rB,T.keep _ _ _ t7 λb hb o e=>(J'.pin (b,o) (ba _ (ba _ (nB hb e)))).1,λb hb=>?_,w'];let#[o,e,d]:=T.obj _ _ t7 b hb;exact(J'.pin (b,o) (ba _ (ba _ (nB hb e)))).2.1
   cases b with
   |false=>erw[aB #[rfl,again J9 q9]]
   |true=>
    rwa[ae (ae (noE (eT (hPe _ s9 _ H9 _ J9 q9) λv s10 h9=>?_)))];let#[z,H10,J10,r10,hD10,q10]:=h9;rwa[ae (noE (eT (sO _ s10 _ H10 (.ref D) [z] (.ref D) [v] (λ_ H11=>H11=upd H10 D (.lst (acc++[z]))) J10 rfl (.cons r10 .nil) #[D,acc,z,rfl,rfl,hD10,hz5,rfl]) λv11 s11 h9=>?_))];let#[z11,H11,J11,_,e11]:=h9;subst e11;erw[aB (aB #[rfl,again J11 q10])]
 rw[eE] at loop;subst hD;erw[codeAny_compStart_list (loop _ rfl) (T.self _ 0 _ _ _ (T.keep _ _ _ t2 λb _ o e=>kp3 b o e) (loop _ rfl))]
theorem LQ{elt iter tg:Expr}{bd:V->Hp->(St->Prop)->Prop}{pos:Pos}{ifs:List Expr}{wi:TI}{tc:TT}{te:TE}{cn:List Str}{ci:List Nat}(B:AO X scope x)(cp:yW X scope cn ci)(hnd:cn.Nodup)(hcalm:X.calm=true)(ht:Sw X tg scope x cn bd)(hi:PI X tg iter wi)
  (hc:∀C s₀ H₀ ex,LM (X.vp scope C (x++cn) s₀ H₀ ex) ifs tc) (he:∀C s₀ H₀ ex,PE (X.vp scope C (x++cn) s₀ H₀ ex) elt te) (hs:∀x,foldedSetIterable iter X.env x=pure x:=by intro _;rfl):
  PE X (.ListComp elt [#[tg,iter,ifs,0]] scope pos) (HN bd wi ci tc te):=by
 k_go;rw[eval_ListComp]
 rwa[E3 (use:=none) rfl hs (vn (B.cells I.ok)) B.kind B.lo (eT (hi pZ s σ H _ I h) λv s1 h1=>eT h1 λitv s2 h2=>?_)];let#[it,fp,tn,J,H2,e,I2,T,t2,f2,q]:=h2;subst e;rwa[AS (RR:=λacc C=>compPost (bb X.prog X.w) X.A X.xe none (EP X pZ σ Q) acc C) (Rq:=λD H2=>Q (.ref D) H2) I2 B cp hnd hcalm ht T t2 f2 hc he q λC D H5 s5 I5 q5 hn fC=>?_]
 let#[m,hm]:=hn;refine#[m,hm,λh' sb=>#[.ref D,H5,?_,rfl,q5]];erw[I5.turned (it:=C) (t':=s5.toks) (λb o hb e=>(sb.2 b hb).trans e) fC.1 fC.2.2.1 (.inr fC.2.1) fC.2.2.2.1 fC.2.2.2.2]
theorem CI{elt iter tg:Expr}{bd:V->Hp->(St->Prop)->Prop}{py pos spos:Pos}{ifs:List Expr}{wi:TI}{tc:TT}{te:TE}{cn:List Str}{ci:List Nat}{i:Nat}{y:Str}(B:AO X scope x)(cp:yW X scope cn ci)(hnd:cn.Nodup)(hcalm:X.calm=true)(ht:Sw X tg scope x cn bd)(hi:PI X tg iter wi)
  (hc:∀C s₀ H₀ ex,LM (X.vp scope C (x++cn) s₀ H₀ ex) ifs tc) (he:∀C s₀ H₀ ex,PE (X.vp scope C (x++cn) s₀ H₀ ex) elt te) (hN:X.N.Nodup) (hy:X.N[i]?=some y) (hk:X.env.scope.names.lookup y=some .local)
  (hsw:iA (.ListComp elt [#[tg,iter,ifs,0]] scope pos) (some (.Name y py)) spos.line X.env=pure true) (hs:∀x,foldedSetIterable iter X.env x=pure x:=by intro _;rfl):
  PS X (.Assign [.Name y py] (.ListComp elt [#[tg,iter,ifs,0]] scope pos) spos) (To (HN bd wi ci tc te) (xD i)):=by
 intro pZ s σ H D I h;rw[exec_Assign_Name_used _ _ _ _ hsw]
 refine ae (E2 (ae ?_));show wpAny _ X.A (do let _ <-comprehension (.ListComp elt [#[tg,iter,ifs,0]] scope pos) scope X.env _ (newList []) false (eval iter X.env) (some (yq (.Name y py) X.env))) _ _ s;refine ae (bY (E3 (use:=some (yq (.Name y py) X.env)) (Q:=λ_ s'=>SP X pZ D .next s') rfl hs (vn (B.cells I.ok)) B.kind B.lo (eT (hi pZ s σ H _ I h) λv s1 h1=>eT h1 λitv s2 h2=>?_))
  (λ_ s' hq=>aB (aB hq)) λ_ _ e=>e)
 let#[it,fp,tn,J,H2,e,I2,T,t2,f2,q]:=h2;subst e;rwa[AS (RR:=λacc C=>compPost (bb X.prog X.w) X.A X.xe (some (yq (.Name y py) X.env)) (λ_ s'=>SP X pZ D .next s') acc C) (Rq:=λD' H2=>(xD i) (.ref D') σ H2 D.nx) I2 B cp hnd hcalm ht T t2 f2 hc he q λC D' H5 s5 I5 q5 hn fC=>?_]
 let#[m,hm]:=hn;show wpAny _ X.A (yq (.Name y py) X.env (.ref D')) _ _ _;refine wz (xB (v:=.ref D') I5 hN hy (.inl hk) rfl (λs6 I6 sb6=>?_) (.inr hk));let#[a,sb,ha]:=sb6;have nC:C≠a:=by
  rcases ha with z|z
  .rw[z];erw[fC.2.2.1]
  .intro w;erw[fC.2.2.2.1 y a z w.symm]
 refine#[m,hm.sameBut sb nC,λh' sb'=>#[_,H5,?_,q5]];erw[I6.turned (it:=C) (t':=s6.toks) (λb o hb e=>(sb'.2 b hb).trans e) fC.1 fC.2.2.1 (.inr fC.2.1) fC.2.2.2.1 fC.2.2.2.2]
noncomputable def Ul(z:Str):It:=#[λi _=>i<z.cps.size,λi H x H'=>H'=H/\∃c,z.cps[i]?=some c/\x=.str #[(List.toArray [c])],λi _=>z.cps.size<=i]
theorem HR{P:bD}{w:cy}{K:Frag}{tg:Expr}(it:Addr)(z:Str)(t:Tok)(b:Bool):Turn P w K tg (Ul z) [it] it (λi h=>h.IsStrIter it (if b then "str_ascii_iterator" else "str_iterator") z t i) where
 mem:=by simp
 obj:=λi h st c hc=>by
  have e:c=it:=by simpa using hc
  subst e;let#[o,e,_,d]:=st;exact#[o,e,λv q=>by rw[d] at q;cases q]
 keep:=λi h h' st k=>by
  let#[o,e,c,d]:=st;exact#[o,k it (by simp) o e,c,d]
 item:=by
  w_up;subst hP hw hK;let#[f0,f1,f2,f3,f4,f5]:=hf it (by simp);have hx:z.cps[i]?=some (z.cps[i]'hg):=eU hg;have done:∀h',h'.IsStrIter it (if b then "str_ascii_iterator" else "str_iterator") z t (i+1)->gx it s.heap h' ->
    ∃u,(some (lR #[(List.toArray [z.cps[i]'hg])] s.toks):Option Value)=some u/\wpAny (bb X.prog X.w) X.A (qR tg (.ref it) u) (λ_ s2=>∃x H',Inv X pZ σ H' s2/\RelV x u/\(Ul z).Ts i H x H'/\s2.heap.IsStrIter it (if b then "str_ascii_iterator" else "str_iterator") z t (i+1)/\∀b∈[it],H' b=none) E {s with heap:=h',toks:=s.toks+1}:=λh' st' sb=>by
   have I1:Inv X pZ σ H {s with heap:=h',toks:=s.toks+1}:=I.turned (t':=s.toks+1) (λb o hb e=>(sb.2 b hb).trans e) f0 f1 f3 f4 f5;let#[o,e,c,d]:=id st';exact#[_,rfl,AD (s:={s with heap:=h',toks:=s.toks+1}) e c d (by cases b<;>decide) #[.str #[(List.toArray [z.cps[i]'hg])],H,I1,#[_,rfl],#[rfl,_,hx,rfl],st',λb hb=>(hf b hb).1]]
  cases b with
  |true=>erw[wpAny_pyNext_ascii_item st hx λh' st' sb=>done h' st' sb]
  |false=>erw[wpAny_pyNext_wide_item st hx λh' st' sb=>done h' st' sb]
 done:=by
  w_up;subst hP hw hK;let#[f0,f1,f2,f3,f4,f5]:=hf it (by simp);have hx:z.cps[i]?=none:=An hg;cases b with
  |true=>erw[wpAny_pyNext_ascii_end (I.ok.hd hc) st hx λh' eb=>#[rfl,I.turned (t':=s.toks) (λb o hb e=>eb b o hb e) f0 f1 f3 f4 f5]]
  |false=>erw[wpAny_pyNext_wide_end (I.ok.hd hc) st hx λh' eb=>#[rfl,I.turned (t':=s.toks) (λb o hb e=>eb b o hb e) f0 f1 f3 f4 f5]]
 self:=λA i s Q E st h=>by
  cases b with
  |true=>erw[wpAny_pyIter_striter_ascii st h]
  |false=>erw[wpAny_pyIter_striter_wide st h]
end
noncomputable abbrev tx(l:List Nat):Str:=#[l.toArray]
theorem Um(z:Str):z=tx z.cps.toList:=by
 let#[a]:=z;simp
theorem yX(a b:List Nat):tx a++tx b=tx (a++b):=by
 show Str.mk (a.toArray++b.toArray)=Str.mk (a++b).toArray
 simp
theorem dE(a:List Nat):(tx a).length=a.length:=by simp[Str.length]
theorem qG(h:tx a=tx b):a=b:=by
 have:=congrArg (λz:Str=>z.cps.toList) h;simpa using this
theorem NT:(tx a=tx b)↔a=b:=#[qG,λh=>by rw[h]]
theorem DX:(V.str (tx a)=V.str (tx b))↔a=b:=#[λh=>qG (V.str.inj h),λh=>by rw[h]]
section
variable{X:Cx}
theorem Fz:iI X (cL .Add) (λx y H Q=>∃a b,x=.str (tx a)/\y=.str (tx b)/\a.length+b.length<=sizeLine/\Q (.str (tx (a++b))) H):=by
 x_go;let#[a,b,rfl,rfl,hz,q]:=h;rwa[Cs pZ s σ H _ _ v u Q I rx ry #[tx a,tx b,rfl,rfl,by rw[dE,dE];erw[hz],?_]];rw[yX]
 erw[q]
theorem CJ:iI X (iB .Add) (λx y H Q=>∃a b,x=.str (tx a)/\y=.str (tx b)/\a.length+b.length<=sizeLine/\Q (.str (tx (a++b))) H):=by
 x_go;let#[a,b,rfl,rfl,hz,q]:=h;rwa[AE pZ s σ H _ _ v u Q I rx ry #[tx a,tx b,rfl,rfl,by rw[dE,dE];erw[hz],?_]];rw[yX]
 erw[q]
theorem LR(h:c∈l):Txt.find (tx l) (tx [c])=((l.idxOf c:Nat):Int)/\(Builtin.Str.occurrences (tx l) (tx [c]) 0 (tx l).length 1).isEmpty=false:=by
 have h2:(!(Builtin.Str.occurrences (tx l) #[(List.toArray [c])] 0 (tx l).length 1).isEmpty)=true:=by rw[StrLaws.found_one];simpa using h
 refine#[?_,by simpa using h2];have at_iff:∀i,StrLaws.At (tx l) (tx [c]) (tx l).length i↔l[i]?=some c:=λi=>by
  have:=StrLaws.subAt_one (tx l) c i;simpa[StrLaws.At] using this
 rcases find_whole (tx l) (tx [c]) with⟨_,no⟩|⟨i,e,hi,lo⟩
 .let#[j,hj,ej]:=qU h
  erw[absurd ((at_iff j).mpr (by rw[aa hj,ej])) (no j)]
 .rw[e]
  have hi':=(at_iff i).mp hi;let#[hlt,ei]:=ab.mp hi';have e1:l.idxOf c=i:=by
   have hk:=bP h;rcases Kx (l.idxOf c) i with q|q|q
   .erw[absurd ((at_iff _).mpr (by rw[aa hk,eP])) (lo _ q)]
   .erw[q]
   .have:=BR (p:=(·==c)) (xs:=l) (i:=i) q
    simp[ei] at this
  rw[e1]
def Pt:V->List V->Hp->VK->Prop:=λx xs H Q=>∃l c,x=.str (tx l)/\xs=[.str (tx [c])]/\c∈l/\Q (.int ((l.idxOf c:Nat):Int)) H
theorem AU(hA:X.A.handled=none):yP X "str.index" Pt:=by
 intro pZ s σ H x xs v us Q I rx rs h;let#[l,c,rfl,rfl,hc,q]:=h;let#[t,rfl]:=rx;let#[u,rfl,t',rfl]:=vals1 rs;let#[e,ne]:=LR hc;rwa[index_or hA (λz w=>?_) λ_ _=>#[.int _,H,I.tok _,#[_,rfl],by rw[e];erw[q]]]
 rw[ne] at w;cases w
end
noncomputable def vq(sep:List Nat):List (List Nat)->List Nat
 |[]=>[]
 |[x]=>x
 |x::r=>x++sep++vq sep r
theorem LS(sep:List Nat):∀ts:List (List Nat),Txt.join (tx sep) (ts.map tx)=tx (vq sep ts):=by
 intro ts;show Builtin.Str.glued (tx sep) (ts.map tx)=_;rw[StrLaws.glued_eq_join]
 induction ts with
 |nil=>rfl
 |cons a r ih=>
  cases r with
  |nil=>rfl
  |cons b r=>
   show tx a++tx sep++Str.join (tx sep) ((b::r).map tx)=tx (a++sep++vq sep (b::r))
   rw[ih,yX,yX]
theorem vt:∀{ts:List (List Nat)}{us:List Value},Vals (ts.map λt=>V.str (tx t)) us->StrsAre us (ts.map tx)
 |[],_,.nil=>.nil
 |a::ts,_,.cons (b:=u) r h=>by
  let#[t,e]:=(show ∃t,u=lR (tx a) t from r)
  subst e;erw[.cons _ _ (vt h)]
section
variable{X:Cx}
def rJoin(K:Frag):V->List V->Hp->VK->Prop:=λx xs H Q=>∃sep ts p,x=.str (tx sep)/\xs=[.ref p]/\i3 K H p (ts.map λt=>V.str (tx t))/\(ts.map cA).sum+ts.length*sep.length<=1000000/\Q (.str (tx (vq sep ts))) H
theorem DY:yP X "str.join" (rJoin X.K):=by
 intro pZ s σ H x xs v us Q I rx rs h;let#[sep,ts,p,rfl,rfl,hl,hz,q]:=h;let#[t,rfl]:=rx;let#[u,rfl,ru]:=vals1 rs;cases ru;let#[its,r,pl,_]:=I.list hl;refine join_list pl.isList (ys:=ts.map tx) (by simpa using vt r) ?_ λt' k=>#[.str (tx (vq sep ts)),H,I.tok k,#[t',by rw[LS]],q]
 have e:((ts.map tx).map (·.length)).sum=(ts.map cA).sum:=by
  congr 1
  rw[bu]
  erw[fL λa _=>dE a]
 rw[e,af,dE]
 omega
theorem vv:∀{l:List Nat},(∀k∈l,f k=g k)->l.filterMap f=l.filterMap g
 |[],_=>rfl
 |a::l,h=>by
  rw[cu,cu,h a aT,vv λk hk=>h k (aA _ hk)]
theorem mU(l:List Nat):∀(n i:Nat),i+n<=l.length->(bO n).filterMap (λk=>l[i+k]?)=(l.drop i).take n
 |0,i,_=>by simp
 |n+1,i,h=>by
  rw[BS,cu,GJ]
  have hi:i<l.length:=∅
  have e:l[i+0]?=some l[i]:=by simp[hi]
  rw[e,iM hi,E4]
  have:=mU l n (i+1) ∅;rw[<-this]
  show l[i]::_=l[i]::_
  congr 1
  rwa[vv λk _=>?_]
  show l[i+(k+1)]?=l[i+1+k]?
  rw[show i+(k+1)=i+1+k by omega]
noncomputable def CK(l:List Nat)(i j:Nat):List Nat:=(l.drop i).take (j-i)
theorem DZ{b:Int}{n:Nat}(h:0<=b):max 0 (min b (n:Int))=((min b.toNat n:Nat):Int):=by
 let#[k,rfl]:=Int.eq_ofNat_of_zero_le h;rw[Int.max_eq_right (Int.le_min.mpr #[h,Int.ofNat_nonneg n])]
 rw[jO];omega
theorem HS(l:List Nat)(lo hi:Option Int)(i j:Nat)(hlo:lo=none/\i=0\/∃a:Int,lo=some a/\0<=a/\i=min a.toNat l.length)(hhi:hi=none/\j=l.length\/∃b:Int,hi=some b/\0<=b/\j=min b.toNat l.length):
  Txt.slice (tx l) lo hi=tx (CK l i j):=by
 have hi':i<=l.length:=by rcases hlo with⟨_,e⟩|⟨a,_,_,e⟩<;>omega
 have hj':j<=l.length:=by rcases hhi with⟨_,e⟩|⟨b,_,_,e⟩<;>omega
 have key:Builtin.Str.strSliceIndices lo hi 1 l.length=(bO (j-i)).map λk=>i+k:=by
  have e0:Builtin.Str.strSliceIndices lo hi 1 l.length=sliceRange (i:Int) (j:Int) 1:=by
   unfold Builtin.Str.strSliceIndices;rcases hlo with⟨rfl,rfl⟩|⟨a,rfl,h0,rfl⟩<;>rcases hhi with⟨rfl,rfl⟩|⟨b,rfl,h1,rfl⟩
   .rfl
   .dsimp[yE.mpr h1,if_false,show(1:Int)>0 by decide,if_true,DZ h1]
    rfl
   .dsimp[yE.mpr h0,if_false,show(1:Int)>0 by decide,if_true,DZ h0]
   .dsimp[yE.mpr h0,yE.mpr h1,if_false,show(1:Int)>0 by decide,if_true,DZ h0,DZ h1]
  rw[e0]
  unfold sliceRange;dsimp[show(1:Int)>0 by decide,if_true,Int.ediv_one];have e3:(if (i:Int)<(j:Int) then(j:Int)-i+1-1 else 0).toNat=j-i:=by split<;>omega
  rw[e3]
  rwa[fL λk _=>?_]
  omega
 have len:(tx l).length=l.length:=dE l;unfold Txt.slice;rw[len,key]
 have e4:((bO (j-i)).map λk=>i+k).length=j-i:=by simp
 rw[e4]
 by_cases hw:j-i=l.length
 .rw[if_pos (by simp[hw])]
  have:CK l i j=l:=by
   unfold CK;have:i=0:=∅
   subst this;rw[hw,l6,bS]
  rw[this]
 .rw[if_neg (by simp[hw])]
  show tx _=tx _
  congr 1
  rw[GJ]
  by_cases hij:i<=j
  .have:=mU l (j-i) i ∅
   unfold CK;rw[<-this]
   rwa[vv λk _=>?_]
   simp
  .have:j-i=0:=∅
   unfold CK;rw[this]
   simp
def X9:V->Option Int->Option Int->Hp->VK->Prop:=λx lo hi H Q=>∃l i j,x=.str (tx l)/\l.length<=sizeLine/\(lo=none/\i=0\/∃a:Int,lo=some a/\0<=a/\i=min a.toNat l.length)/\(hi=none/\j=l.length\/∃b:Int,hi=some b/\0<=b/\j=min b.toNat l.length)/\Q (.str (tx (CK l i j))) H
theorem Uo:WY X X9:=by
 intro pZ s σ H x v vl vu lo hi sl Q I rx hs pl pu h;let#[l,i,j,rfl,hz,h1,h2,q]:=h;let#[t,rfl]:=rx;refine#["str",_,F.slot_str_getitem.lookup,typeIs_str _ _ _,?_];have fin:∀(a b:Option (Int×Tok)),vl=partValue a->vu=partValue b->lo=a.map (·.1)->hi=b.map (·.1)->wpAny (bb X.prog X.w) X.A (tI (.str (tx l) t) (.ref sl)) (EP X pZ σ Q) X.xe s:=λa b e1 e2 e3 e4=>by
  refine wpAny_getItem_str_slice (l:=a) (u:=b) (st:=none) (by rw[e1,e2] at hs;erw[hs]) rfl ?_;rwa[post_val_or_str #[aJ (Txt.slice_le (tx l) _ _) (by rw[dE];erw[hz]),λt' k=>#[.str (tx (CK l i j)),H,I.tok k,#[t',?_],q]]];have:=HS l lo hi i j h1 h2;rw[e3,e4] at this;rw[<-this]
  rfl
 cases pl with
 |none=>
  cases pu with
  |none=>erw[fin none none rfl rfl rfl rfl]
  |int b u=>erw[fin none (some (b,u)) rfl rfl rfl rfl]
 |int a u=>
  cases pu with
  |none=>erw[fin (some (a,u)) none rfl rfl rfl rfl]
  |int b u2=>erw[fin (some (a,u)) (some (b,u2)) rfl rfl rfl rfl]
end
section
variable{X:Cx}{pZ:List (Addr×Obj)}{σ:St}{H:Hp}{s:az}{a C d:Addr}{fs:List (Str×V)}{f:Str}{v:V}
structure Pu(K:Frag)(P:Params)(a:Addr)(kvs:List (Str×V)):Prop where
 ex:∃es n,K.lookup a=some #[.type "dict",none,.dict es n,#[]]/\BU P es.toList
 at_:∀k v,kvs.lookup k=some v->∃u,RelV v u/\nsIn K a k=some (some u)
 no:∀k,kvs.lookup k=none->nsIn K a k=some none
 ns:(a==bZ)=false
noncomputable def Ya(K:Frag)(P:Params):R2:=λx y H Q=>∃a kvs k v,x=.ref a/\y=.str k/\Pu K P a kvs/\kvs.lookup k=some v/\Q v H
theorem yY:Su X (Ya X.K X.w.params):=by
 intro value slice pZ s σ H x y v u Q I rx ry h hs;let#[a,kvs,k,z,rfl,rfl,T,e,q]:=h;cases rx;let#[t,rfl]:=ry;let#[es,n,lk,kl]:=T.ex;let#[w,rw',ew]:=T.at_ k z e;have hm:=mapOf_K (prog:=X.prog) (w:=X.w) I.BY lk kl;erw[tail_any hm.typeIs slot_dict_getitem.lookup (wpAny_getItem_of (strKind_is X.prog X.w k t) hm (find_K lk ew) #[z,H,I.tok _,rw',q]) hs]
end
inductive Dv where
 |bQ|bl (b:Bool)|int (i:Int)|str (l:List Nat)|tup (ds:List Dv)|lst (ds:List Dv)
mutual
noncomputable def Dv.depth:Dv->Nat
 |.tup ds=>Dv.kJ ds+1
 |.lst ds=>Dv.kJ ds+1
 |_=>0
noncomputable def Dv.kJ:List Dv->Nat
 |[]=>0
 |d::ds=>max d.depth (Dv.kJ ds)
end
mutual
noncomputable def B1:Dv->Dv->Bool
 |.bQ,.bQ=>true
 |.bl a,.bl b=>a==b
 |.bl a,.int b=>(if a then 1 else 0)== b
 |.int a,.bl b=>a==(if b then 1 else 0)
 |.int a,.int b=>a==b
 |.str a,.str b=>a==b
 |.tup xs,.tup ys=>nG xs ys
 |.lst xs,.lst ys=>nG xs ys
 |_,_=>false
noncomputable def nG:List Dv->List Dv->Bool
 |[],[]=>true
 |x::xs,y::ys=>B1 x y&&nG xs ys
 |_,_=>false
end
mutual
noncomputable def ou(K:Frag)(H:Hp):V->Dv->Prop
 |v,.bQ=>v=.bQ
 |v,.bl b=>v=.bl b
 |v,.int i=>v=.int i
 |v,.str l=>v=.str (tx l)
 |v,.tup ds=>∃a vs,v=.ref a/\oq K H a vs/\i5 K H vs ds
 |v,.lst ds=>∃a vs,v=.ref a/\i3 K H a vs/\i5 K H vs ds
noncomputable def i5(K:Frag)(H:Hp):List V->List Dv->Prop
 |[],[]=>True
 |v::vs,d::ds=>ou K H v d/\i5 K H vs ds
 |_,_=>False
end
theorem i5.len{K:Frag}{H:Hp}:∀{vs:List V}{ds:List Dv},i5 K H vs ds->vs.length=ds.length
 |[],[],_=>rfl
 |_::vs,_::ds,h=>by
  unfold i5 at h;rw[aU,aU,i5.len h.2]
 |[],_::_,h=>by unfold i5 at h;erw[h.elim]
 |_::_,[],h=>by unfold i5 at h;erw[h.elim]
theorem i5.get{K:Frag}{H:Hp}:∀{vs:List V}{ds:List Dv}{i:Nat}{v:V}{d:Dv},i5 K H vs ds->vs[i]?=some v->ds[i]?=some d->ou K H v d
 |v::vs,d::ds,0,_,_,h,e1,e2=>by
  unfold i5 at h;simp at e1 e2;subst e1 e2;erw[h.1]
 |v::vs,d::ds,i+1,_,_,h,e1,e2=>by
  unfold i5 at h;exact i5.get (i:=i) h.2 (by simpa using e1) (by simpa using e2)
 |[],_,_,_,_,_,e1,_=>by simp at e1
 |_,[],_,_,_,_,_,e2=>by simp at e2
mutual
theorem vw:∀d:Dv,B1 d d=true
 |.bQ=>rfl
 |.bl b=>beq_self_eq_true _
 |.int i=>beq_self_eq_true _
 |.str l=>beq_self_eq_true _
 |.tup ds=>sU ds
 |.lst ds=>sU ds
theorem sU:∀ds:List Dv,nG ds ds=true
 |[]=>by unfold nG;rfl
 |d::ds=>by unfold nG;rw[vw d,sU ds];rfl
end
theorem nH:∀(xs ys:List Dv)(e:Nat->Bool),(∀i x y,xs[i]?=some x->ys[i]?=some y->e i=B1 x y)->((bO (min xs.length ys.length)).all e&&xs.length==ys.length)=nG xs ys
 |[],[],e,_=>by unfold nG;simp
 |[],y::ys,e,_=>by unfold nG;simp
 |x::xs,[],e,_=>by unfold nG;simp
 |x::xs,y::ys,e,h=>by
  have ih:=nH xs ys (λi=>e (i+1)) λi a b h1 h2=>h (i+1) a b (by simpa using h1) (by simpa using h2)
  unfold nG;rw[<-ih,<-h 0 x y rfl rfl]
  rw[aU,aU,Nat.succ_min_succ,BS,bK,BV]
  have:(xs.length+1==ys.length+1)=(xs.length==ys.length):=by simp
  rw[this,Bool.and_assoc]
  rfl
section
variable{X:Cx}{pZ:List (Addr×Obj)}{σ:St}{H:Hp}{s:az}
mutual
theorem ou.inj(I:Inv X pZ σ H s):∀{d d':Dv}{v:V},ou X.K H v d->ou X.K H v d'->d=d'
 |.bQ,d',v,h,h'=>by
  unfold ou at h;subst h;cases d'<;>unfold ou at h'<;>first|rfl| (cases h';done)| (obtain⟨_,_,z,_⟩:=h';cases z)
 |.bl b,d',v,h,h'=>by
  unfold ou at h;subst h;cases d'<;>unfold ou at h'<;>first| (cases h';rfl)| (cases h';done)| (obtain⟨_,_,z,_⟩:=h';cases z)
 |.int b,d',v,h,h'=>by
  unfold ou at h;subst h;cases d'<;>unfold ou at h'<;>first| (cases h';rfl)| (cases h';done)| (obtain⟨_,_,z,_⟩:=h';cases z)
 |.str l,d',v,h,h'=>by
  unfold ou at h;subst h;cases d'<;>unfold ou at h'<;>first| (rw[DX.mp h'])| (cases h';done)| (obtain⟨_,_,z,_⟩:=h';cases z)
 |.tup ds,d',v,h,h'=>by
  let#[a,vs,rfl,hq,hd]:=h;cases d' with
  |tup ds'=>
   unfold ou at h';let#[a',vs',e,hq',hd']:=h';cases e;rw[I.xC hq' hq] at hd';rw[i5.inj I hd hd']
  |lst ds'=>
   unfold ou at h';let#[a',vs',e,hq',hd']:=h';cases e;exfalso;let#[its,_,#[o,e1,c1,_],_]:=I.tuple hq;let#[its',_,#[o',n',e2,c2,_,_],_]:=I.list hq';rw[e1] at e2;cases e2;rw[c1] at c2;injection c2 with c2
   erw[absurd c2 ⋯]
  |_=>unfold ou at h';cases h'
 |.lst ds,d',v,h,h'=>by
  let#[a,vs,rfl,hq,hd]:=h;cases d' with
  |lst ds'=>
   unfold ou at h';let#[a',vs',e,hq',hd']:=h';cases e;rw[I.vd hq' hq] at hd';rw[i5.inj I hd hd']
  |tup ds'=>
   unfold ou at h';let#[a',vs',e,hq',hd']:=h';cases e;exfalso;let#[its,_,#[o,e1,c1,_],_]:=I.tuple hq';let#[its',_,#[o',n',e2,c2,_,_],_]:=I.list hq;rw[e1] at e2;cases e2;rw[c1] at c2;injection c2 with c2
   erw[absurd c2 ⋯]
  |_=>unfold ou at h';cases h'
theorem i5.inj(I:Inv X pZ σ H s):∀{ds ds':List Dv}{vs:List V},i5 X.K H vs ds->i5 X.K H vs ds'->ds=ds'
 |[],[],_,_,_=>rfl
 |[],_::_,[],_,h'=>by unfold i5 at h';erw[h'.elim]
 |[],_::_,_::_,h,_=>by unfold i5 at h;erw[h.elim]
 |_::_,[],[],h,_=>by unfold i5 at h;erw[h.elim]
 |_::_,[],_::_,_,h'=>by unfold i5 at h';erw[h'.elim]
 |d::ds,d'::ds',[],h,_=>by unfold i5 at h;erw[h.elim]
 |d::ds,d'::ds',v::vs,h,h'=>by
  unfold i5 at h h';rw[ou.inj I h.1 h'.1,i5.inj I h.2 h'.2]
end
theorem pG:∀{ds:List Dv}{i:Nat}{d:Dv},ds[i]?=some d->d.depth<=Dv.kJ ds
 |d::ds,0,_,h=>by
  simp at h;subst h;unfold Dv.kJ;erw[Nat.le_max_left _ _]
 |d::ds,i+1,_,h=>by
  have:=pG (ds:=ds) (i:=i) (by simpa using h);unfold Dv.kJ;erw[aJ this (Nat.le_max_right _ _)]
 |[],_,_,h=>by simp at h
theorem HU(I:Inv X pZ σ H s):∀(n:Nat){A:dD}{d d':Dv}{x y:V}{u v:Value},d.depth<=n->A.units+n<fF->ou X.K H x d->ou X.K H y d'->RelV x u->RelV y v->qZ A s u v (B1 d d'):=by
 intro n;induction n with
 |zero=>
  intro A d d' x y u v hn hu hx hy rx ry;cases d with
  |tup ds=>unfold Dv.depth at hn;omega
  |lst ds=>unfold Dv.depth at hn;omega
  |bQ=>
   cases (show _=_ from hx);cases rx;cases d'<;>unfold ou at hy
   .subst hy;cases ry;erw[jV _]
   .subst hy;cases ry;erw[xm _]
   .subst hy;let#[t,rfl]:=ry;erw[oJ _ _]
   .subst hy;let#[t,rfl]:=ry;erw[oK _ _]
   .let#[a,vs,rfl,hq,_]:=hy;cases ry;let#[its,_,p,_]:=I.tuple hq;erw[SeqAt.EqAt.none_tuple p ∅]
   .let#[a,vs,rfl,hq,_]:=hy;cases ry;let#[its,_,p,_]:=I.list hq;erw[SeqAt.EqAt.none_list p.isList ∅]
  |bl b=>
   cases (show _=_ from hx);cases rx;cases d'<;>unfold ou at hy
   .subst hy;cases ry;erw[xn _]
   .subst hy;cases ry;erw[xo _ _]
   .subst hy;let#[t,rfl]:=ry;erw[yy _ _ _]
   .subst hy;let#[t,rfl]:=ry;erw[yz _ _ _]
   .let#[a,vs,rfl,hq,_]:=hy;cases ry;let#[its,_,p,_]:=I.tuple hq;erw[SeqAt.EqAt.bool_tuple _ p ∅]
   .let#[a,vs,rfl,hq,_]:=hy;cases ry;let#[its,_,p,_]:=I.list hq;erw[SeqAt.EqAt.bool_list _ p.isList ∅]
  |int i=>
   cases (show _=_ from hx);let#[t0,rfl]:=rx;cases d'<;>unfold ou at hy
   .subst hy;cases ry;erw[oH _ _]
   .subst hy;cases ry;erw[yA _ _ _]
   .subst hy;let#[t,rfl]:=ry;erw[zY _ _ _ _]
   .subst hy;let#[t,rfl]:=ry;erw[ph _ _ _ _]
   .let#[a,vs,rfl,hq,_]:=hy;cases ry;let#[its,_,p,_]:=I.tuple hq;erw[SeqAt.EqAt.int_tuple _ _ p ∅]
   .let#[a,vs,rfl,hq,_]:=hy;cases ry;let#[its,_,p,_]:=I.list hq;erw[SeqAt.EqAt.int_list _ _ p.isList ∅]
  |str l=>
   cases (show _=_ from hx);let#[t0,rfl]:=rx;cases d' with
   |bQ=>cases (show _=_ from hy);cases ry;erw[oI _ _]
   |bl b=>cases (show _=_ from hy);cases ry;erw[yB _ _ _]
   |int i=>cases (show _=_ from hy);let#[t,rfl]:=ry;erw[pj _ _ _ _]
   |str l'=>
    cases (show _=_ from hy);let#[t,rfl]:=ry;have e:(tx l==tx l')=B1 (.str l) (.str l'):=by
     show(tx l==tx l')=(l==l')
     rw[cJ,beq_iff_eq,beq_iff_eq]
     erw[NT]
    rw[<-e]
    erw[zZ _ _ _ _]
   |tup ds=>let#[a,vs,rfl,hq,_]:=hy;cases ry;let#[its,_,p,_]:=I.tuple hq;erw[SeqAt.EqAt.str_tuple _ _ p ∅]
   |lst ds=>let#[a,vs,rfl,hq,_]:=hy;cases ry;let#[its,_,p,_]:=I.list hq;erw[SeqAt.EqAt.str_list _ _ p.isList ∅]
 |succ n ih=>
  intro A d d' x y u v hn hu hx hy rx ry;have items:∀{vs vs':List V}{ds ds':List Dv}{its its':List Value},Dv.kJ ds<=n->i5 X.K H vs ds->i5 X.K H vs' ds'->Vals vs its->Vals vs' its' ->
    ∃e:Nat->Bool,(∀j(h1:j<its.toArray.size)(h2:j<its'.toArray.size),qZ A.in1 s its.toArray[j] its'.toArray[j] (e j))/\((bO (min its.toArray.size its'.toArray.size)).all e&&its.toArray.size==its'.toArray.size)=nG ds ds':=by
   intro vs vs' ds ds' its its' hd h1 h2 r1 r2;have l1:=h1.len;have l2:=h2.len;have m1:=r1.length;have m2:=r2.length;refine#[λj=>match ds[j]?,ds'[j]? with|some a,some b=>B1 a b|_,_=>true,λj k1 k2=>?_,?_]
   .rw[aH] at k1 k2
    have j1:j<ds.length:=∅
    have j2:j<ds'.length:=∅
    have i1:j<vs.length:=∅
    have i2:j<vs'.length:=∅
    have e1:ds[j]?=some ds[j]:=aa j1;have e2:ds'[j]?=some ds'[j]:=aa j2;have f1:vs[j]?=some vs[j]:=aa i1;have f2:vs'[j]?=some vs'[j]:=aa i2;let#[w1,g1,q1]:=r1.get f1;let#[w2,g2,q2]:=r2.get f2;have a1:its.toArray[j]=w1:=by
     let#[_,z]:=ab.mp g1;simpa using z
    have a2:its'.toArray[j]=w2:=by
     let#[_,z]:=ab.mp g2;simpa using z
    rw[a1,a2]
    dsimp only;rw[e1,e2]
    erw[ih (aJ (pG e1) hd) (by show A.units+1+n<fF;omega) (h1.get f1 e1) (h2.get f2 e2) q1 q2]
   .rw[aH,aH,<-m1,<-m2,l1,l2]
    rwa[nH ds ds' _ λi a b h1 h2=>?_]
    rw[h1,h2]
  by_cases hz:d.depth<=n
  .erw[ih hz ∅ hx hy rx ry]
  .cases d with
   |bQ=>unfold Dv.depth at hz;omega
   |bl b=>unfold Dv.depth at hz;omega
   |int b=>unfold Dv.depth at hz;omega
   |str b=>unfold Dv.depth at hz;omega
   |tup ds=>
    have hx0:=hx;let#[a,vs,rfl,hq,hd]:=hx;cases rx;let#[its,r1,p,_]:=I.tuple hq;unfold Dv.depth at hn;cases d' with
    |bQ=>cases (show _=_ from hy);cases ry;erw[SeqAt.EqAt.tuple_none p ∅]
    |bl b=>cases (show _=_ from hy);cases ry;erw[SeqAt.EqAt.tuple_bool _ p ∅]
    |int i=>cases (show _=_ from hy);let#[t,rfl]:=ry;erw[SeqAt.EqAt.tuple_int _ _ p ∅]
    |str l'=>cases (show _=_ from hy);let#[t,rfl]:=ry;erw[SeqAt.EqAt.tuple_str _ _ p ∅]
    |lst ds'=>let#[a',vs',rfl,hq',_]:=hy;cases ry;let#[its',_,p',_]:=I.list hq';erw[SeqAt.EqAt.tuple_list p p'.isList ∅]
    |tup ds'=>
     have hy0:=hy;let#[a',vs',rfl,hq',hd']:=hy;cases ry;let#[its',r2,p',_]:=I.tuple hq';by_cases e:a=a'
     .subst e
      rw[ou.inj I hx0 hy0,vw]
      erw[jV _]
     .let#[f,hf,ef]:=items ∅ hd hd' r1 r2
      rw[show B1 (.tup ds) (.tup ds')=nG ds ds' from rfl,<-ef]
      erw[z7 e (Ao p p' ∅ hf)]
   |lst ds=>
    have hx0:=hx;let#[a,vs,rfl,hq,hd]:=hx;cases rx;let#[its,r1,p,_]:=I.list hq;unfold Dv.depth at hn;cases d' with
    |bQ=>cases (show _=_ from hy);cases ry;erw[SeqAt.EqAt.list_none p.isList ∅]
    |bl b=>cases (show _=_ from hy);cases ry;erw[SeqAt.EqAt.list_bool _ p.isList ∅]
    |int i=>cases (show _=_ from hy);let#[t,rfl]:=ry;erw[SeqAt.EqAt.list_int _ _ p.isList ∅]
    |str l'=>cases (show _=_ from hy);let#[t,rfl]:=ry;erw[SeqAt.EqAt.list_str _ _ p.isList ∅]
    |tup ds'=>let#[a',vs',rfl,hq',_]:=hy;cases ry;let#[its',_,p',_]:=I.tuple hq';erw[SeqAt.EqAt.list_tuple p.isList p' ∅]
    |lst ds'=>
     have hy0:=hy;let#[a',vs',rfl,hq',hd']:=hy;cases ry;let#[its',r2,p',_]:=I.list hq';by_cases e:a=a'
     .subst e
      rw[ou.inj I hx0 hy0,vw]
      erw[jV _]
     .let#[f,hf,ef]:=items ∅ hd hd' r1 r2
      rw[show B1 (.lst ds) (.lst ds')=nG ds ds' from rfl,<-ef]
      rwa[z7 e ?_];by_cases el:its.toArray.size=its'.toArray.size
      .have:((bO (min its.toArray.size its'.toArray.size)).all f&&its.toArray.size==its'.toArray.size)=(bO its.toArray.size).all f:=by
        rw[el,Cc]
        simp
       rw[this]
       erw[SeqAt.RcAt.lists p.isList p'.isList el ∅ hf]
      .have:((bO (min its.toArray.size its'.toArray.size)).all f&&its.toArray.size==its'.toArray.size)=false:=by
        have:(its.toArray.size==its'.toArray.size)=false:=by simpa using el
        rw[this,Bool.and_false]
       rw[this]
       exact SeqAt.RcAt.lists_lengths p.isList p'.isList (by simpa using el) ∅
def Yb(K:Frag):R2:=λx y H Q=>∃ds d',ou K H x (.tup ds)/\ou K H y d'/\Dv.kJ ds<=100/\Q (.bl (B1 (.tup ds) d')) H
theorem Pw(hu:X.A.units+200<fF):iI X (bH .Eq) (Yb X.K):=by
 intro pZ s σ H x y u v Q I rx ry h;let#[ds,d',hx,hy,hz,q]:=h;have fin:∀b,b=B1 (.tup ds) d'->EP X pZ σ Q (.bool b) s:=λb e=>by rw[e];exact#[.bl _,H,I,rfl,q]
 have hx0:=hx;let#[a,vs,rfl,hq,hd]:=hx;cases rx;let#[its,r1,p,_]:=I.tuple hq;cases d' with
 |bQ=>cases (show _=_ from hy);cases ry;erw[SeqAt.RcAt.tuple_none p ∅ _ _ _ _ (fin _ (rfl))]
 |bl b=>cases (show _=_ from hy);cases ry;erw[SeqAt.RcAt.tuple_bool _ p ∅ _ _ _ _ (fin _ (rfl))]
 |int i=>cases (show _=_ from hy);let#[t,rfl]:=ry;erw[SeqAt.RcAt.tuple_int _ _ p ∅ _ _ _ _ (fin _ (rfl))]
 |str l'=>cases (show _=_ from hy);let#[t,rfl]:=ry;erw[SeqAt.RcAt.tuple_str _ _ p ∅ _ _ _ _ (fin _ (rfl))]
 |lst ds'=>let#[a',vs',rfl,hq',_]:=hy;cases ry;let#[its',_,p',_]:=I.list hq';erw[SeqAt.RcAt.tuple_list p p'.isList ∅ _ _ _ _ (fin _ (rfl))]
 |tup ds'=>
  let#[a',vs',rfl,hq',hd']:=hy;cases ry;let#[its',r2,p',_]:=I.tuple hq';have l1:=hd.len;have l2:=hd'.len;have m1:=r1.length;have m2:=r2.length;refine Ao (e:=λj=>match ds[j]?,ds'[j]? with|some a,some b=>B1 a b|_,_=>true) p p' ∅ (λj k1 k2=>?_) _ _ _ _ (fin _ ?_)
  .rw[aH] at k1 k2
   have e1:ds[j]?=some (ds[j]'∅):=aa _;have e2:ds'[j]?=some (ds'[j]'∅):=aa _;have f1:vs[j]?=some (vs[j]'∅):=aa _;have f2:vs'[j]?=some (vs'[j]'∅):=aa _;let#[w1,g1,q1]:=r1.get f1;let#[w2,g2,q2]:=r2.get f2;have a1:its.toArray[j]=w1:=by
    let#[_,z]:=ab.mp g1;simpa using z
   have a2:its'.toArray[j]=w2:=by
    let#[_,z]:=ab.mp g2;simpa using z
   rw[a1,a2,e1,e2]
   erw[HU I 100 (aJ (pG e1) hz) (by show X.A.units+1+100<fF;omega) (hd.get f1 e1) (hd'.get f2 e2) q1 q2]
  .rw[aH,aH,<-m1,<-m2,l1,l2]
   rw[show B1 (.tup ds) (.tup ds')=nG ds ds' from rfl]
   rwa[nH ds ds' _ λi a b h1 h2=>?_]
   rw[h1,h2]
end
end L2
namespace PL
theorem _root_.Lake.L2.ff{P:Prop}(h:false=true):P:=by cases h
theorem _root_.Lake.L2.nn{α:Type}{x:α}{P:Prop}(h:(none:Option α)=some x):P:=by cases h
set_option genInjectivity true in
inductive U where
 |bQ|bl (b:Bool)|int (i:Int)|str (l:List Nat)|tup (us:List U)|loc (n:Nat)
 |sF (ns:List Int)|tab (kvs:List (List Nat×List Nat))
instance:Inhabited U:=#[.bQ]
set_option genInjectivity true in
inductive SO where
 |lst (us:List U)|dH (kvs:List (U×U))|ins (c:String) (fs:List (String×U))
 |vx (kvs:List (U×U))|uh (kvs:List (List Int×U))|wL (kvs:List ((Int×List Int)×U))
structure Xn where
 c:String
 us:List U
abbrev Env:=List (Option U)
abbrev bF:=List SO
abbrev KU:=U->bF->Prop
abbrev KX:=Xn->bF->Prop
abbrev Spec:=List U->bF->KU->KX->Prop
abbrev cf:=String->Spec
inductive GO where|add|sub|mul|fdiv|mod|band|bor|shl|shr
inductive NU where|eq|ne|lt|le|gt|ge|isin|md|LU|wM|CM
inductive Up where|len|tuple|list|sum|all|any|int|dict|vy|max
inductive LV where|join|index|startswith|append|extend|get|nI|nJ|vals|wN|wO
mutual
inductive Ex where
 |var (i:Nat)|lit (u:U)
 |bin (o:GO) (a b:Ex)|neg (a:Ex)|not (a:Ex)|and (a b:Ex)|or (a b:Ex)
 |cmp (o:NU) (a b:Ex)|GQ (c:Tx) (a b:Ex)
 |call (f:String) (as:yZ)|mk (c q:String) (as:yZ)|cG (c m q:String) (o:Ex) (as:yZ)
 |blt (f:Up) (as:yZ)|jq (m:LV) (o:Ex) (as:yZ)
 |fld (o:Ex) (f:String)|ix (o i:Ex)|sl (o:Ex) (lo hi:Ox)
 |tup (as:yZ)|lst (as:yZ)|dH (ks vs:yZ)
 |comp (pr:Bool) (e:Ex) (it:It) (c:Tx) (ci:List Nat)
 |HV (o k:Ex)
inductive yZ where|nil|cons (e:Ex) (es:yZ)
inductive It where|val (e:Ex)|range (e:Ex)|enum (e:Ex)|keys (e:Ex)
inductive Ox where|no|e (a:Ex)
inductive Tx where|dk (e:Ex)|not (t:Tx)|and (a b:Tx)|or (a b:Tx)
end
inductive Tg where|name (i:Nat)|pair (i j:Nat)
mutual
inductive Sm where
 |set (i:Nat) (e:Ex)|kA (o:Ex) (f:String) (e:Ex)|nJ (o k e:Ex)
 |aug (i:Nat) (p:GO) (e:Ex)|AV (o:Ex) (f:String) (p:GO) (e:Ex)|FA (o i:Ex) (p:GO) (e:Ex)
 |ex (e:Ex)|ret (e:Ex)|ifs (c:Tx) (a b:dj)|B3 (c:Tx) (b:dj)|jQ (t:Tg) (it:It) (b:dj)
 |Sx (b:dj)
inductive dj where|nil|cons (s:Sm) (ss:dj)
end
section
variable{α:Type}
def opt(o:Option α)(Q:α->Prop):Prop:=match o with|some a=>Q a|none=>False
def za(o:Option (Option U))(Q:U->Prop):Prop:=match o with|some (some u)=>Q u|_=>False
def getL(o:Option SO)(Q:List U->Prop):Prop:=match o with|some (.lst us)=>Q us|_=>False
def getD(o:Option SO)(Q:List (U×U)->Prop):Prop:=match o with|some (.dH kvs)=>Q kvs|_=>False
def oC(o:Option SO)(Q:String->List (String×U)->Prop):Prop:=match o with|some (.ins c fs)=>Q c fs|_=>False
def NV(x:U)(Q:Bool->Prop):Prop:=match x with|.bl b=>Q b|_=>False
def mH(x:U)(Q:Int->Prop):Prop:=match x with|.int i=>Q i|_=>False
def uC(x:U)(Q:Nat->Prop):Prop:=match x with|.loc n=>Q n|_=>False
def NW(x:U)(Q:U->U->Prop):Prop:=match x with|.tup [a,b]=>Q a b|_=>False
@[simp] theorem bp{a:α}{Q:α->Prop}:opt (some a) Q=Q a:=rfl
@[simp] theorem Uq:opt none Q=False:=rfl
@[simp] theorem xO:za (some (some u)) Q=Q u:=rfl
@[simp] theorem aC{us:List U}{Q:List U->Prop}:getL (some (.lst us)) Q=Q us:=rfl
@[simp] theorem getD_some:getD (some (.dH us)) Q=Q us:=rfl
@[simp] theorem bx:oC (some (.ins c fs)) Q=Q c fs:=rfl
@[simp] theorem HW:NV (.bl b) Q=Q b:=rfl
@[simp] theorem W3:mH (.int i) Q=Q i:=rfl
@[simp] theorem W4:uC (.loc n) Q=Q n:=rfl
@[simp] theorem LW:NW (.tup [a,b]) Q=Q a b:=rfl
theorem jr:opt o Q↔∃a,o=some a/\Q a:=by cases o<;>simp[opt]
theorem AW:za o Q↔∃a,o=some (some a)/\Q a:=by
 rcases o with _|_|a<;>simp[za]
theorem cV:getL o Q↔∃a,o=some (.lst a)/\Q a:=
 #[λw=>by rcases o with _|a|a|a|a|a|a<;>first|exact#[_,rfl,w]|exact aO w,by rintro⟨b,rfl,w⟩;exact w]
theorem AX:getD o Q↔∃a,o=some (.dH a)/\Q a:=
 #[λw=>by rcases o with _|a|a|a|a|a|a<;>first|exact#[_,rfl,w]|exact aO w,by rintro⟨b,rfl,w⟩;exact w]
theorem mV{o:Option SO}{Q:String->List (String×U)->Prop}:oC o Q↔∃c fs,o=some (.ins c fs)/\Q c fs:=
 #[λw=>by rcases o with _|a|a|a|a|a|a<;>first|exact#[_,_,rfl,w]|exact aO w,by rintro⟨b,c,rfl,w⟩;exact w]
theorem zb:NV x Q↔∃b,x=.bl b/\Q b:=#[λw=>by cases x<;>first|exact#[_,rfl,w]|exact aO w,by rintro⟨b,rfl,w⟩;exact w]
theorem gC:mH x Q↔∃b,x=.int b/\Q b:=#[λw=>by cases x<;>first|exact#[_,rfl,w]|exact aO w,by rintro⟨b,rfl,w⟩;exact w]
theorem jt:uC x Q↔∃b,x=.loc b/\Q b:=#[λw=>by cases x<;>first|exact#[_,rfl,w]|exact aO w,by rintro⟨b,rfl,w⟩;exact w]
theorem D1:NW x Q↔∃a b,x=.tup [a,b]/\Q a b:=by
 refine#[λw=>?_,by rintro⟨a,b,rfl,w⟩;exact w];cases x<;>first|exact aO w|skip
 rename_i us;rcases us with _|⟨a,_|⟨b,_|_⟩⟩<;>first|exact aO w|exact#[_,_,rfl,w]
end
def i9(o:Option SO)(Q:List (U×U)->Prop):Prop:=match o with|some (.dH kvs)=>Q kvs|some (.vx kvs)=>Q kvs|_=>False
theorem hW:i9 (some (.dH us)) Q=Q us:=rfl
theorem ja:i9 o Q↔∃a,(o=some (.dH a)\/o=some (.vx a))/\Q a:=
 #[λw=>by rcases o with _|a|a|a|a|a|a<;>first|exact#[_,.inl rfl,w]|exact#[_,.inr rfl,w]|exact aO w,by rintro⟨b,rfl|rfl,w⟩<;>exact w]
noncomputable def mI:U->Bool
 |.bQ=>true|.int _=>true|.str _=>true
 |_=>false
noncomputable def NX:U->U->Bool
 |.bQ,.bQ=>true
 |.int a,.int b=>a==b
 |.str a,.str b=>a==b
 |_,_=>false
def tU(k:U):List (U×U)->Option U
 |[]=>none
 | (a,v)::r=>if NX a k=true then some v else tU k r
mutual
noncomputable def FC:U->Bool
 |.bQ=>true|.bl _=>true|.int _=>true|.str _=>true
 |.tup us=>AY us
 |_=>false
noncomputable def AY:List U->Bool
 |[]=>true
 |u::us=>FC u&&AY us
end
mutual
noncomputable def dep:U->Nat
 |.tup us=>HX us+1
 |_=>0
noncomputable def HX:List U->Nat
 |[]=>0
 |u::us=>max (dep u) (HX us)
end
mutual
noncomputable def rG:U->U->Bool
 |.bQ,.bQ=>true
 |.bl a,.bl b=>a==b
 |.bl a,.int b=>(if a then 1 else 0)== b
 |.int a,.bl b=>a==(if b then 1 else 0)
 |.int a,.int b=>a==b
 |.str a,.str b=>a==b
 |.tup as,.tup bs=>LX as bs
 |_,_=>false
noncomputable def LX:List U->List U->Bool
 |[],[]=>true
 |x::xs,y::ys=>rG x y&&LX xs ys
 |_,_=>false
end
noncomputable def HY:U->U->Bool
 |.tup _,_=>true
 |.bQ,.bQ=>true|.bQ,.int _=>true|.bQ,.bl _=>true|.bQ,.str _=>true
 |.int _,.bQ=>true|.int _,.int _=>true|.int _,.str _=>true
 |.bl _,.bQ=>true|.bl _,.bl _=>true|.bl _,.str _=>true
 |.str _,.bQ=>true|.str _,.int _=>true|.str _,.bl _=>true|.str _,.str _=>true
 |_,_=>false
def wQ(x y:U)(Q:Bool->Prop):Prop:=(HY x y=true/\FC x=true/\FC y=true/\dep x<=100)/\Q (rG x y)
noncomputable def HZ:U->Bool
 |.tup _=>false
 |_=>true
noncomputable def CN:U->U->Bool
 |.tup _,.tup _=>true
 |.tup _,_=>false
 |_,_=>true
noncomputable def flat:U->Bool
 |.bQ=>true|.bl _=>true|.int _=>true|.str _=>true
 |_=>false
def qH(x:U)(us:List U)(Q:Bool->Prop):Prop:=(flat x=true/\us.all flat=true)/\Q (us.any λy=>rG y x)
noncomputable def i6:List Nat->List Nat->Bool
 |a,[]=>a.isEmpty
 |a,b::bs=>a.isPrefixOf (b::bs)||i6 a bs
noncomputable def oE(S:bF):U->Option Nat
 |.str l=>some l.length
 |.tup us=>some us.length
 |.sF ns=>some ns.length
 |.loc n=>match S[n]? with
  |some (.lst us)=>some us.length
  |some (.dH kvs)=>some kvs.length
  |some (.wL kvs)=>some kvs.length
  |_=>none
 |_=>none
def vz(S:bF):U->Option Bool
 |.bQ=>some false
 |.bl b=>some b
 |.int i=>some (i !=0)
 |.str _=>none
 |.loc n=>match S[n]? with
  |some (.wL _)=>none
  |_=>(oE S (.loc n)).map λn=>n !=0
 |u=>(oE S u).map λn=>n !=0
noncomputable def LY(n:Nat)(i:Int):Option Nat:=if 0<=i then(if i<n then some i.toNat else none) else if -(n:Int)<=i then some (i+n).toNat else none
def qp{α:Type}(xs:List α)(i:Int):Option α:=(LY xs.length i).bind λj=>xs[j]?
noncomputable def rH{α:Type}(xs:List α)(lo hi:Option Int):List α:=(xs.drop (min (lo.getD 0).toNat xs.length)).take (min (hi.getD xs.length).toNat xs.length-min (lo.getD 0).toNat xs.length)
def NY(x:U)(Q:List Nat->Prop):Prop:=match x with|.str a=>Q a|_=>False
def W5(x:U)(Q:Prop):Prop:=match x with|.bQ=>Q|_=>False
def ZP(x:U)(Q:List U->Prop):Prop:=match x with|.tup a=>Q a|_=>False
theorem pH:NY x Q↔∃b,x=.str b/\Q b:=#[λw=>by cases x<;>first|exact#[_,rfl,w]|exact aO w,by rintro⟨b,rfl,w⟩;exact w]
theorem LZ:ZP x Q↔∃b,x=.tup b/\Q b:=#[λw=>by cases x<;>first|exact#[_,rfl,w]|exact aO w,by rintro⟨b,rfl,w⟩;exact w]
theorem kK{x y:U}{P:Int->Int->Prop}(w:mH x λi=>mH y (P i)):∃i j,x=.int i/\y=.int j/\P i j:=by
 let#[i,e,w]:=gC.mp w;let#[j,e',w]:=gC.mp w;exact#[i,j,e,e',w]
def kU(o:GO)(x y:U)(S:bF)(Q:KU):Prop:=
 match o with
 |.add=>match x with
  |.int i=>mH y λj=>Q (.int (i+j)) S
  |.str a=>NY y λb=>a.length+b.length<=1000000/\Q (.str (a++b)) S
  |.tup a=>ZP y λb=>(a≠[]/\a.length+b.length<=1000000)/\Q (.tup (a++b)) S
  |.loc m=>uC y λn=>getL S[m]? λa=>getL S[n]? λb=>a.length+b.length<=1000000/\Q (.loc S.length) (S++[.lst (a++b)])
  |_=>False
 |.sub=>mH x λi=>mH y λj=>Q (.int (i-j)) S
 |.mul=>mH x λi=>mH y λj=>((-(2^64)<i/\i<2^64)\/(-(2^64)<j/\j<2^64))/\Q (.int (i*j)) S
 |.fdiv=>mH x λi=>mH y λj=>(0<j/\j<1073741824)/\Q (.int (i/j)) S
 |.mod=>mH x λi=>mH y λj=>0<j/\Q (.int (i%j)) S
 |.band=>mH x λi=>mH y λj=>(0<=i/\0<=j)/\Q (.int ((i.toNat&&&j.toNat:Nat):Int)) S
 |.bor=>mH x λi=>mH y λj=>(0<=i/\0<=j)/\Q (.int ((i.toNat|||j.toNat:Nat):Int)) S
 |.shl=>mH x λi=>mH y λj=>(0<=i/\i<1000/\0<=j/\j<=1000)/\Q (.int (i*2^j.toNat)) S
 |.shr=>mH x λi=>mH y λj=>(0<=i/\0<=j)/\Q (.int (i/2^j.toNat)) S
def wR(o:GO)(x y:U)(S:bF)(Q:KU):Prop:=
 match x with
 |.int i=>kU o (.int i) y S Q
 |.str a=>kU o (.str a) y S Q
 |_=>False
noncomputable def mW(x:U):Bool:=match x with|.bQ=>true|_=>false
def W6(x y:U)(Q:Bool->Prop):Prop:=CN x y=true/\wQ x y λb=>Q !b
def jD(o:NU)(x y:U)(S:bF)(Q:Bool->Prop):Prop:=
 match o with
 |.eq=>wQ x y Q
 |.ne=>W6 x y Q
 |.lt=>mH x λi=>mH y λj=>Q (decide (i<j))
 |.le=>mH x λi=>mH y λj=>Q (decide (i<=j))
 |.gt=>mH x λi=>mH y λj=>Q (decide (j<i))
 |.ge=>mH x λi=>mH y λj=>Q (decide (j<=i))
 |.isin=>match y with
  |.str b=>NY x λa=>Q (i6 a b)
  |.tab kvs=>NY x λa=>Q (kvs.lookup a).isSome
  |.tup us=>qH x us Q
  |.loc n=>getL S[n]? λus=>qH x us Q
  |_=>False
 |.md=>match y with
  |.str b=>NY x λa=>Q !(i6 a b)
  |.tup us=>qH x us λb=>Q !b
  |.loc n=>getL S[n]? λus=>qH x us λb=>Q !b
  |_=>False
 |.LU=>W5 y (Q (mW x))
 |.wM=>W5 y (Q !(mW x))
 |.CM=>uC y λn=>i9 S[n]? λkvs=>mI x=true/\Q (tU x kvs).isNone
def KH(x y:U)(S:bF)(Q:U->Prop):Prop:=
 match x with
 |.str l=>mH y λi=>l.length<=1000000/\opt (qp l i) λc=>Q (.str [c])
 |.tup us=>mH y λi=>us.length<=1000000/\opt (qp us i) Q
 |.sF ns=>mH y λi=>ns.length<=1000000/\opt (qp ns i) λn=>Q (.int n)
 |.loc n=>mH y λi=>getL S[n]? λus=>opt (qp us i) Q
 |.tab kvs=>NY y λk=>opt (kvs.lookup k) λv=>Q (.str v)
 |_=>False
def Px(x y:U)(S:bF)(Q:U->Prop):Prop:=uC x λn=>i9 S[n]? λkvs=>mI y=true/\opt (tU y kvs) Q
def Sy(x:U)(lo hi:Option Int)(S:bF)(Q:KU):Prop:=
 ((∀i,lo=some i->0<=i)/\∀i,hi=some i->0<=i)/\match x with
 |.str l=>l.length<=1000000/\Q (.str (rH l lo hi)) S
 |.loc n=>getL S[n]? λus=>Q (.loc S.length) (S++[.lst (rH us lo hi)])
 |_=>False
noncomputable def me(sep:List Nat):List (List Nat)->List Nat
 |[]=>[]
 |[x]=>x
 |x::r=>x++sep++me sep r
noncomputable def tV(n:Nat):Nat:=if n=0 then 0 else n.log2+1
def sV(f:Up)(us:List U)(S:bF)(Q:KU):Prop:=
 match f,us with
 |.len,[x]=>opt (oE S x) λn=>n<=1000000/\Q (.int n) S
 |.tuple,[.loc n]=>getL S[n]? λus=>Q (.tup us) S
 |.list,[.loc n]=>getL S[n]? λus=>Q (.loc S.length) (S++[.lst us])
 |.list,[.tup us]=>us.length<=1000000/\Q (.loc S.length) (S++[.lst us])
 |.all,[.loc n]=>∃bs:List Bool,S[n]?=some (.lst (bs.map .bl))/\Q (.bl (bs.all id)) S
 |.any,[.loc n]=>∃bs:List Bool,S[n]?=some (.lst (bs.map .bl))/\Q (.bl (bs.any id)) S
 |.sum,[.loc n]=>∃is:List Int,S[n]?=some (.lst (is.map .int))/\Q (.int is.sum) S
 |.dict,[.loc n]=>∃ps:List (List Nat×U),S[n]?=some (.lst (ps.map λp=>.tup [.str p.1,p.2]))/\(ps.map (·.1)).Nodup/\Q (.loc S.length) (S++[.dH (ps.map λp=>(.str p.1,p.2))])
 |.max,[.loc n]=>∃(i:Int)(is:List Int),S[n]?=some (.lst ((i::is).map .int))/\∀m∈i::is,(∀j∈i::is,j<=m)->Q (.int m) S
 |.vy,[.loc n]=>∃t ts,S[n]?=some (.lst ((t::ts).map .str))/\(∀u∈t::ts,u.length<=1000000)/\Q (.str (ts.foldl (λb x=>if x.length<b.length then x else b) t)) S
 |_,_=>False
def ZQ{κ:Type}[BEq κ](kvs:List (κ×U))(k:κ)(f:List (κ×U)->SO)(S:bF)(n:Nat)(d:U)(Q:KU):Prop:=
 kvs.length<1000000/\match kvs.lookup k with
  |some v=>Q v S
  |none=>Q d (S.set n (f (kvs++[(k,d)])))
def o7(S:bF)(n:Nat)(k d:U)(Q:KU):Prop:=
 match S[n]? with
 |some (.dH kvs)=>(mI k=true/\kvs.length<1000000)/\match tU k kvs with
  |some v=>Q v S
  |none=>Q d (S.set n (.dH (kvs++[(k,d)])))
 |some (.uh kvs)=>∃ks,k=.tup (ks.map .int)/\ZQ kvs ks .uh S n d Q
 |some (.wL kvs)=>∃b ks,k=.tup [.int b,.tup (ks.map .int)]/\ZQ kvs (b,ks) .wL S n d Q
 |_=>False
def qg(m:LV)(x:U)(us:List U)(S:bF)(Q:KU):Prop:=
 match m,x,us with
 |.join,.str sep,[.loc n]=>∃ts:List (List Nat),S[n]?=some (.lst (ts.map .str))/\(ts.map cA).sum+ts.length*sep.length<=1000000/\Q (.str (me sep ts)) S
 |.index,.str l,[.str k]=>∃c,k=[c]/\c∈l/\Q (.int (l.idxOf c:Nat)) S
 |.startswith,.str l,[.str k]=>Q (.bl (k.isPrefixOf l)) S
 |.nI,.int i,[]=>0<=i/\Q (.int (tV i.toNat:Nat)) S
 |.get,.loc n,[.str k,d]=>getD S[n]? λkvs=>∃ps:List (List Nat×U),kvs=(ps.map λp=>(U.str p.1,p.2))/\Q ((ps.lookup k).getD d) S
 |.get,.loc n,[k]=>i9 S[n]? λkvs=>mI k=true/\Q ((tU k kvs).getD .bQ) S
 |.nJ,.loc n,[k,d]=>o7 S n k d Q
 |.vals,.loc n,[]=>match S[n]? with
  |some (.uh kvs)=>Q (.loc S.length) (S++[.lst (kvs.map (·.2))])
  |_=>False
 |.append,.loc n,[u]=>getL S[n]? λus=>us.length<1000000/\Q .bQ (S.set n (.lst (us++[u])))
 |.wN,.loc n,[x]=>getL S[n]? λus=>(flat x=true/\us.all flat=true)/\∃j z,us[j]?=some z/\rG z x=true/\(∀(i:Nat)(z':U),i<j->us[i]?=some z'->rG z' x=false)/\Q (.int (j:Nat)) S
 |.wO,.tup us,[x]=>(flat x=true/\us.all flat=true)/\∃j z,us[j]?=some z/\rG z x=true/\(∀(i:Nat)(z':U),i<j->us[i]?=some z'->rG z' x=false)/\Q (.int (j:Nat)) S
 |.extend,.loc n,[.loc m]=>getL S[n]? λus=>getL S[m]? λws=>us.length+ws.length<=1000000/\Q .bQ (S.set n (.lst (us++ws)))
 |_,_,_=>False
def rJ(m:LV)(x:U)(S:bF):Prop:=
 match m,x with
 |.join,.str _=>True|.index,.str _=>True|.startswith,.str _=>True
 |.append,.loc n=>getL S[n]? λ_=>True
 |.wN,.loc n=>getL S[n]? λ_=>True
 |.wO,.tup _=>True
 |.extend,.loc n=>getL S[n]? λ_=>True
 |.get,.loc n=>i9 S[n]? λ_=>True
 |.nJ,.loc n=>match S[n]? with|some (.dH _)=>True|some (.uh _)=>True|some (.wL _)=>True|_=>False
 |.vals,.loc n=>match S[n]? with|some (.uh _)=>True|_=>False
 |.nI,.int _=>True
 |_,_=>False
noncomputable def fS(f:String)(v:U):List (String×U)->List (String×U)
 |[]=>[(f,v)]
 | (g,x)::r=>if g=f then(g,v)::r else(g,x)::fS f v r
def lF(x:U)(f:String)(S:bF)(Q:U->Prop):Prop:=
 match x with
 |.loc n=>oC S[n]? λ_ fs=>opt (fs.lookup f) Q
 |_=>False
def vA(g:bF->Prop)(turn:U->Env->bF->(Env->bF->Prop)->Prop)(fin:Env->bF->Prop):List U->Env->bF->Prop
 |[],env,S=>g S/\fin env S
 |u::us,env,S=>g S/\turn u env S (vA g turn fin us)
def ow(g:bF->Prop)(c:U->bF->(Bool->bF->Prop)->Prop)(e:U->bF->KU->Prop)(Q:List U->bF->Prop):List U->List U->bF->Prop
 |[],acc,S=>g S/\acc.length<1000000/\Q acc S
 |u::us,acc,S=>g S/\acc.length<1000000/\c u S λb S1=>if b=true then e u S1 λv S2=>ow g c e Q us (acc++[v]) S2 else ow g c e Q us acc S1
def zc(c:Env->bF->(Bool->bF->Prop)->Prop)(b:Env->bF->(Env->bF->Prop)->Prop)(fin:Env->bF->Prop):Nat->Env->bF->Prop
 |0,_,_=>False
 |n+1,env,S=>c env S λt S1=>if t=true then b env S1 (zc c b fin n) else fin env S1
def H0(x:U)(S:bF)(R:List U->(bF->Prop)->Prop):Prop:=
 match x with
 |.str l=>R (l.map λc=>.str [c]) (λ_=>True)
 |.tup us=>us.length<=1000000/\R us (λ_=>True)
 |.loc n=>getL S[n]? λus=>R us (λS'=>S'[n]?=some (.lst us))
 |_=>False
noncomputable def mY(env:Env)(ci:List Nat):Env:=ci.map λj=>(env[j]?).join
def qr(pr:Bool)(u:U)(caps:Env)(k:Env->Prop):Prop:=
 match pr with
 |false=>k (some u::caps)
 |true=>NW u λa b=>k (some a::some b::caps)
mutual
noncomputable def WE(Γ:cf):Ex->Env->bF->KU->KX->Prop
 |.var i,env,S,Q,_=>za env[i]? λu=>Q u S
 |.lit u,_,S,Q,_=>Q u S
 |.bin o a b,env,S,Q,E=>WE Γ a env S (λx S1=>WE Γ b env S1 (λy S2=>kU o x y S2 Q) E) E
 |.neg a,env,S,Q,E=>WE Γ a env S (λx S1=>mH x λi=>Q (.int (-i)) S1) E
 |.not a,env,S,Q,E=>WE Γ a env S (λx S1=>NV x λb=>Q (.bl !b) S1) E
 |.and a b,env,S,Q,E=>WE Γ a env S (λx S1=>NV x λc=>if c=true then WE Γ b env S1 Q E else Q (.bl false) S1) E
 |.or a b,env,S,Q,E=>WE Γ a env S (λx S1=>NV x λc=>if c=true then Q (.bl true) S1 else WE Γ b env S1 Q E) E
 |.cmp o a b,env,S,Q,E=>WE Γ a env S (λx S1=>WE Γ b env S1 (λy S2=>jD o x y S2 λr=>Q (.bl r) S2) E) E
 |.GQ c a b,env,S,Q,E=>WT Γ c env S (λt S1=>if t=true then WE Γ a env S1 Q E else WE Γ b env S1 Q E) E
 |.call f as,env,S,Q,E=>wU Γ as env S (λus S1=>Γ f us S1 Q E) E
 |.mk c q as,env,S,Q,E=>wU Γ as env S (λus S1=>Γ q (.loc S1.length::us) (S1++[.ins c []]) (λv S2=>v=.bQ/\Q (.loc S1.length) S2) E) E
 |.cG c m q o as,env,S,Q,E=>WE Γ o env S (λx S1=>uC x λn=>oC S1[n]? λc' fs=>(c'=c/\fs.lookup m=none)/\wU Γ as env S1 (λus S2=>Γ q (x::us) S2 Q E) E) E
 |.blt f as,env,S,Q,E=>wU Γ as env S (λus S1=>sV f us S1 Q) E
 |.jq m o as,env,S,Q,E=>WE Γ o env S (λx S1=>rJ m x S1/\wU Γ as env S1 (λus S2=>qg m x us S2 Q) E) E
 |.fld o f,env,S,Q,E=>WE Γ o env S (λx S1=>lF x f S1 λv=>Q v S1) E
 |.ix o i,env,S,Q,E=>WE Γ o env S (λx S1=>WE Γ i env S1 (λy S2=>KH x y S2 λv=>Q v S2) E) E
 |.sl o lo hi,env,S,Q,E=>WE Γ o env S (λx S1=>WO Γ lo env S1 (λl S2=>WO Γ hi env S2 (λh S3=>Sy x l h S3 Q) E) E) E
 |.tup as,env,S,Q,E=>wU Γ as env S (λus S1=>us.length<=1000000/\Q (.tup us) S1) E
 |.lst as,env,S,Q,E=>wU Γ as env S (λus S1=>us.length<=1000000/\Q (.loc S1.length) (S1++[.lst us])) E
 |.dH ks vs,env,S,Q,E=>wU Γ ks env S (λus S1=>wU Γ vs env S1 (λws S2=>us.length<=100/\match us with
   |[]=>Q (.loc S2.length) (S2++[.dH []])\/Q (.loc S2.length) (S2++[.uh []])\/Q (.loc S2.length) (S2++[.wL []])
   |[k]=>mI k=true/\∃v,ws=[v]/\Q (.loc S2.length) (S2++[.dH [(k,v)]])
   |_=>False) E) E
 |.comp pr e it c ci,env,S,Q,E=>WI Γ it env S (λus g S1=>ow g (λu S2 k=>qr pr u (mY env ci) λen=>WT Γ c en S2 k λ_ _=>False)
   (λu S2 k=>qr pr u (mY env ci) λen=>WE Γ e en S2 k λ_ _=>False) (λacc S3=>Q (.loc S3.length) (S3++[.lst acc])) us [] S1) E
 |.HV o k,env,S,Q,E=>WE Γ o env S (λx S1=>WE Γ k env S1 (λy S2=>Px x y S2 λv=>Q v S2) E) E
noncomputable def wU(Γ:cf):yZ->Env->bF->(List U->bF->Prop)->KX->Prop
 |.nil,_,S,Q,_=>Q [] S
 |.cons e es,env,S,Q,E=>WE Γ e env S (λx S1=>wU Γ es env S1 (λxs S2=>Q (x::xs) S2) E) E
noncomputable def WO(Γ:cf):Ox->Env->bF->(Option Int->bF->Prop)->KX->Prop
 |.no,_,S,Q,_=>Q none S
 |.e a,env,S,Q,E=>WE Γ a env S (λx S1=>mH x λj=>Q (some j) S1) E
noncomputable def WI(Γ:cf):It->Env->bF->(List U->(bF->Prop)->bF->Prop)->KX->Prop
 |.val e,env,S,R,E=>WE Γ e env S (λx S1=>H0 x S1 λus g=>R us g S1) E
 |.range e,env,S,R,E=>WE Γ e env S (λx S1=>mH x λn=>n<=1000000/\-(1000000:Int)<=n/\R ((bO n.toNat).map λk=>.int (k:Nat)) (λ_=>True) S1) E
 |.enum e,env,S,R,E=>WE Γ e env S (λx S1=>uC x λn=>getL S1[n]? λus=>R (us.mapIdx λi u=>.tup [.int (i:Nat),u]) (λS'=>S'[n]?=some (.lst us)) S1) E
 |.keys e,env,S,R,E=>WE Γ e env S (λx S1=>uC x λn=>i9 S1[n]? λkvs=>R (kvs.map (·.1)) (λS'=>S'[n]?=some (.vx kvs)) (S1.set n (.vx kvs))) E
noncomputable def WT(Γ:cf):Tx->Env->bF->(Bool->bF->Prop)->KX->Prop
 |.dk e,env,S,Q,E=>WE Γ e env S (λx S1=>opt (vz S1 x) λb=>Q b S1) E
 |.not t,env,S,Q,E=>WT Γ t env S (λb S1=>Q (!b) S1) E
 |.and a b,env,S,Q,E=>WT Γ a env S (λc S1=>if c=true then WT Γ b env S1 Q E else Q false S1) E
 |.or a b,env,S,Q,E=>WT Γ a env S (λc S1=>if c=true then Q true S1 else WT Γ b env S1 Q E) E
end
structure Ends where
 nx:Env->bF->Prop
 rt:KU
 ex:Env->KX
mutual
noncomputable def WS(Γ:cf):Sm->Ends->Env->bF->Prop
 |.set i e,D,env,S=>WE Γ e env S (λu S1=>D.nx (env.set i (some u)) S1) (D.ex env)
 |.kA o f e,D,env,S=>WE Γ e env S (λu S1=>WE Γ o env S1 (λx S2=>uC x λn=>oC S2[n]? λc fs=>fs.length<100/\D.nx env (S2.set n (.ins c (fS f u fs)))) (D.ex env)) (D.ex env)
 |.nJ o k e,D,env,S=>WE Γ e env S (λu S1=>WE Γ o env S1 (λx S2=>WE Γ k env S2 (λy S3=>uC x λn=>getD S3[n]? λkvs=>(mI y=true/\tU y kvs=none/\kvs.length<1000000)/\D.nx env (S3.set n (.dH (kvs++[(y,u)])))) (D.ex env)) (D.ex env)) (D.ex env)
 |.aug i p e,D,env,S=>za env[i]? λx=>WE Γ e env S (λy S1=>wR p x y S1 λz S2=>D.nx (env.set i (some z)) S2) (D.ex env)
 |.AV o f p e,D,env,S=>WE Γ o env S (λx S1=>uC x λn=>oC S1[n]? λc fs=>opt (fs.lookup f) λv=>
   WE Γ e env S1 (λy S2=>wR p v y S2 λz S3=>oC S3[n]? λc' fs'=>c'=c/\fs'.length<100/\D.nx env (S3.set n (.ins c (fS f z fs')))) (D.ex env)) (D.ex env)
 |.FA o i p e,D,env,S=>WE Γ o env S (λx S1=>WE Γ i env S1 (λy S2=>uC x λn=>mH y λk=>getL S2[n]? λus=>0<=k/\opt (us[k.toNat]?) λv=>
   WE Γ e env S2 (λz S3=>wR p v z S3 λr S4=>getL S4[n]? λus'=>k.toNat<us'.length/\D.nx env (S4.set n (.lst (us'.set k.toNat r)))) (D.ex env)) (D.ex env)) (D.ex env)
 |.ex e,D,env,S=>WE Γ e env S (λ_ S1=>D.nx env S1) (D.ex env)
 |.ret e,D,env,S=>WE Γ e env S D.rt (D.ex env)
 |.ifs c a b,D,env,S=>WT Γ c env S (λt S1=>if t=true then ui Γ a D env S1 else ui Γ b D env S1) (D.ex env)
 |.B3 c b,D,env,S=>∃n,zc (λen S1 k=>WT Γ c en S1 k (D.ex en)) (λen S1 k=>ui Γ b {D with nx:=k} en S1) D.nx n env S
 |.jQ t it b,D,env,S=>WI Γ it env S (λus g S1=>vA g (λu en S2 k=>match t with
   |.name i=>ui Γ b {D with nx:=k} (en.set i (some u)) S2
   |.pair i j=>NW u λx y=>ui Γ b {D with nx:=k} ((en.set i (some x)).set j (some y)) S2) D.nx us env S1) (D.ex env)
 |.Sx b,D,env,S=>ui Γ b {D with ex:=λ_ _ _=>False} env S
noncomputable def ui(Γ:cf):dj->Ends->Env->bF->Prop
 |.nil,D,env,S=>D.nx env S
 |.cons s ss,D,env,S=>WS Γ s {D with nx:=λen S1=>ui Γ ss D en S1} env S
end
end PL
namespace L2
open PySem PySem.Spec PyProof.Rows PySem.W
open Builtin Builtin.Str
theorem D3:∀{b:List Nat},PL.i6 a b=true↔∃i,i+a.length<=b.length/\(b.drop i).take a.length=a
 |[]=>by
  unfold PL.i6;rw[List.isEmpty_iff]
  constructor
  .rintro rfl;exact#[0,ak _,rfl]
  .rintro⟨i,h,_⟩
   erw[kM (by have h:i+a.length<=0:=h;omega)]
 |x::b=>by
  unfold PL.i6;rw[bg,D3 (b:=b),xv]
  constructor
  .rintro(h|⟨i,h1,h2⟩)
   .refine#[0,by have:=h.length_le;omega,?_]
    rw[l6];exact(oh.mp h).symm
   .exact#[i+1,by simp;omega,by rw[E5];erw[h2]]
  .rintro⟨i,h1,h2⟩
   cases i with
   |zero=>rw[l6] at h2;erw[.inl (oh.mpr h2.symm)]
   |succ i=>rw[E5] at h2;exact .inr #[i,by simp at h1;omega,h2]
theorem AZ(a b:List Nat):(!(occurrences (tx b) (tx a) 0 (tx b).length 1).isEmpty)=PL.i6 a b:=by
 rw[cJ,StrLaws.found_iff,D3]
 rwa[exists_congr λi=>?_]
 rw[dE,dE]
 rwa[and_congr_right λh=>?_]
 rw[StrLaws.subAt_eq,beq_iff_eq]
 simp[dE]
section
variable{X:Cx}
theorem FD:iI X (bH .In) (λx y H Q=>∃a b,x=.str (tx a)/\y=.str (tx b)/\Q (.bl (PL.i6 a b)) H):=by
 x_go;let#[a,b,rfl,rfl,q]:=h;rwa[Fl pZ s σ H _ _ v u Q I rx ry #[tx a,tx b,rfl,rfl,?_]];rw[AZ]
 erw[q]
theorem zd:iI X (bH .NotIn) (λx y H Q=>∃a b,x=.str (tx a)/\y=.str (tx b)/\Q (.bl (!PL.i6 a b)) H):=by
 x_go;let#[a,b,rfl,rfl,q]:=h;rwa[yR pZ s σ H _ _ v u Q I rx ry #[tx a,tx b,rfl,rfl,?_]];rw[AZ]
 erw[q]
theorem xP:yP X "str.startswith" (λx xs H Q=>∃a b,x=.str (tx a)/\xs=[.str (tx b)]/\Q (.bl (b.isPrefixOf a)) H):=by
 intro pZ s σ H x xs v us Q I rx rs h;let#[a,b,rfl,rfl,q]:=h;let#[t,rfl]:=rx;let#[u,rfl,t',rfl]:=vals1 rs;rwa[SC.startswith #[.bl _,H,I,?_,q]];show kr (Txt.startswith (tx a) (tx b))=kr (b.isPrefixOf a)
 congr 1
 unfold Txt.startswith;rw[cJ,aj,decide_eq_true_eq,StrLaws.subAt_eq,beq_iff_eq,xv,oh,dE,dE]
 dsimp[l6,dE,oU];constructor
 .rintro⟨_,h⟩;erw[h.symm]
 .intro h
  refine#[?_,h.symm];have:=congrArg cA h;simp at this;omega
theorem vB:∀{bs:List Bool}{us:List Value},Vals (bs.map V.bl) us->us=bs.map kr
 |[],_,.nil=>rfl
 |b::bs,_,.cons r h=>by
  cases r;rw[vB h];rfl
theorem CO(hc:X.calm=true):iN X (.builtin "all") (λxs H Q=>∃p,∃bs:List Bool,xs=[.ref p]/\i3 X.K H p (bs.map V.bl)/\Q (.bl (bs.all id)) H):=by
 k_ne;let#[p,bs,rfl,hl,q]:=h;let#[u,rfl,ru]:=vals1 r;cases ru;let#[its,r,pl,_]:=I.list hl;have hl:=pl.isList;have hits:=vB r;have hlt:p<s.heap.objs.size:=by let#[_,e,_]:=hl;erw[aQ e]
 refine call_all_walk (kE hl ?_);refine#[s.heap.objs.size,[s.heap.objs.size,p],[s.heap.objs.size],its.toArray.size,_,_,λi=>(bs[i]?).getD true,rfl,E6 (A:=X.A.in1) (I.ok.hd hc) _ p (aY hlt) its.toArray,
  #[#[_,a9 _ rfl,rfl,rfl],hl.push _],λi v s' Q' E' hP hQ=>?_,λh' tk hk=>?_]
 .have hP:its[i]?=some v:=by simpa using hP
  rw[hits,aw] at hP;cases e:bs[i]? with
  |none=>rw[e] at hP;cases hP
  |some b=>
   rw[e] at hP;have hQ:Q' ((bs[i]?).getD true) s':=hQ;rw[e] at hQ;cases hP;erw[cY hQ]
 .have e:((bO its.toArray.size).all λi=>(bs[i]?).getD true)=bs.all id:=by
   rw[aH,hits,af];erw[LSm.range_all bs]
  rw[e]
  exact#[.bl _,H,I.kept (Ap hk),rfl,q]
theorem D6:∀{is:List Int}{us:List Value},Vals (is.map V.int) us->∃ps:List (Int×Tok),us=ps.map (λp=>lQ p.1 p.2)/\ps.map (·.1)=is
 |[],_,.nil=>#[[],rfl,rfl]
 |i::is,_,.cons (b:=u) r h=>by
  let#[t,e]:=(show ∃t,u=lQ i t from r)
  subst e;let#[ps,e1,e2]:=D6 h;exact#[(i,t)::ps,by rw[e1];rfl,by rw[au,e2]]
theorem CP(hc:X.calm=true):iN X (.builtin "sum") (λxs H Q=>∃p,∃is:List Int,xs=[.ref p]/\i3 X.K H p (is.map V.int)/\Q (.int is.sum) H):=by
 k_ne;let#[p,is,rfl,hl,q]:=h;let#[u,rfl,ru]:=vals1 r;cases ru;let#[its,r,pl,_]:=I.list hl;let#[ps,e1,e2]:=D6 r;have hl:s.heap.IsList p (intItems ps.toArray):=by
  have:=pl.isList;rw[e1] at this;simpa[intItems] using this
 rwa[sum_intListG (I.ok.hd hc) hl λh' tk t' hk=>#[.int is.sum,H,I.kept hk,#[t',?_],q]]
 rw[preSum_eq,jH (by simp)]
 simp[e2]
theorem Py(hu:X.A.units+200<fF):iI X (bH .NotEq) (λx y H Q=>∃ds ds',ou X.K H x (.tup ds)/\ou X.K H y (.tup ds')/\Dv.kJ ds<=100/\Q (.bl (!nG ds ds')) H):=by
 intro pZ s σ H x y u v Q I rx ry h;let#[ds,ds',hx,hy,hz,q]:=h;unfold ou at hx hy;let#[a,vs,rfl,hq,hd]:=hx;let#[a',vs',rfl,hq',hd']:=hy;cases rx;cases ry;let#[its,r1,p,_]:=I.tuple hq;let#[its',r2,p',_]:=I.tuple hq';have l1:=hd.len;have l2:=hd'.len;have m1:=r1.length;have m2:=r2.length;refine SeqAt.RcNeAt.tuples (e:=λj=>match ds[j]?,ds'[j]? with|some a,some b=>B1 a b|_,_=>true) p p' ∅ (λj k1 k2=>?_) _ _ _ _ #[.bl _,H,I,?_,q]
 .rw[aH] at k1 k2
  have e1:ds[j]?=some (ds[j]'∅):=aa _;have e2:ds'[j]?=some (ds'[j]'∅):=aa _;have f1:vs[j]?=some (vs[j]'∅):=aa _;have f2:vs'[j]?=some (vs'[j]'∅):=aa _;let#[w1,g1,q1]:=r1.get f1;let#[w2,g2,q2]:=r2.get f2;have a1:its.toArray[j]=w1:=by
   let#[_,z]:=ab.mp g1;simpa using z
  have a2:its'.toArray[j]=w2:=by
   let#[_,z]:=ab.mp g2;simpa using z
  rw[a1,a2,e1,e2]
  erw[HU I 100 (aJ (pG e1) hz) (by show X.A.units+1+100<fF;omega) (hd.get f1 e1) (hd'.get f2 e2) q1 q2]
 .show kr _=kr _
  congr 2
  rw[aH,aH,<-m1,<-m2,l1,l2]
  rwa[nH ds ds' _ λi a b h1 h2=>?_]
  rw[h1,h2]
theorem H8:iI X (bH .In) (λx y H Q=>∃a k r,x=.str k/\y=.ref a/\(∃es n,X.K.lookup a=some #[.type "dict",none,.dict es n,#[]]/\BU X.w.params es.toList)/\(a==bZ)=false/\nsIn X.K a k=some r/\Q (.bl r.isSome) H):=by
 x_go;let#[a,k,r,rfl,rfl,#[es,n,lk,kl],lo,e,q]:=h;let#[t,rfl]:=rx;cases ry;erw[wpAny_in_of (strKind_is X.prog X.w k t) lo (mapOf_K (prog:=X.prog) (w:=X.w) I.BY lk kl) (by rw[find_K lk e];exact#[.bl _,H,I.tok _,rfl,q])]
end
section
variable{X:Cx}{pZ:List (Addr×Obj)}{σ:List (Option V)}{H:Hp}{s:az}{h':Heap}
theorem Inv.Pz(I:Inv X pZ σ H s)(k:∀b o,b≠X.env.locals->s.heap.get? b=some o->h'.get? b=some o)(h1:s.heap.Ns X.env.locals m)(h2:h'.Ns X.env.locals m):Inv X pZ σ H {s with heap:=h',toks:=t'}:=by
 have nL:∀b u,H b=some u->b≠X.env.locals:=λb u e z=>by rw[z,I.free] at e;cases e
 refine I.step (g':=s.gens) (d':=s.drawn) (ch:=[]) (λ_ z=>nomatch z) (λb o hL _ _ e _=>k b o hL e) (λb o hL _ _ e _=>#[o.slots,k b o hL e]) (λ_ _ _ _ n=>n)
  (λb o _ e=>?_) (λ_ _ e=>e) (λ_ _ _ e=>e) (λb ps e=>#[#[],by rw[e];simp]) (λm' hm=>?_) (λb u e=>?_) I.bare
 .by_cases z:b=X.env.locals
  .let#[o',_,_,ho,_]:=h2
   exact#[o',by rw[z];erw[ho]]
  .exact#[o,k b o z e]
 .rw[hm.eq_nsMap,<-h1.eq_nsMap];erw[h2]
 .refine(I.dm b u e).Ax (λc v hc q=>k c v ?_ q) (λ_ q=>q) λ_ _ q=>q
  rcases hc with z|z
  .rw[z];erw[nL b u e]
  .erw[nL c _ z]
end
section
variable{X:Cx}
noncomputable def A0(t:List Nat)(ts:List (List Nat)):List Nat:=ts.foldl (λb x=>if x.length<b.length then x else b) t
theorem D7:∀{ts:List (List Nat)}{us:List Value},Vals (ts.map λt=>V.str (tx t)) us->us.length=ts.length/\∀(i:Nat)v,us[i]?=some v->∃t k,ts[i]?=some t/\v=lR (tx t) k
 |[],_,.nil=>#[rfl,λi v h=>by simp at h]
 |t::ts,_,.cons (b:=u) r h=>by
  let#[k,e]:=(show ∃k,u=lR (tx t) k from r)
  subst e;let#[e1,e2]:=D7 h;refine#[by simp[e1],λi v q=>?_];cases i with
  |zero=>simp at q;exact#[t,k,rfl,q.symm]
  |succ i=>exact e2 i v (by simpa using q)
theorem uD(b:List Nat):∀(ts:List (List Nat))(i:Nat)(t:List Nat),(b::ts)[i]?=some t->(∀j u,(b::ts)[j]?=some u->t.length<=u.length/\(j<i->t.length<u.length))->A0 b ts=t
 |[],i,t,h,_=>by
  cases i with
  |zero=>simp at h;erw[h]
  |succ i=>simp at h
 |x::ts,i,t,h,m=>by
  show A0 (if x.length<b.length then x else b) ts=t
  have mb:=m 0 b rfl;have mx:=m 1 x rfl;by_cases z:x.length<b.length
  .rw[if_pos z]
   cases i with
   |zero=>simp at h;subst h;omega
   |succ i=>
    refine uD x ts i t (by simpa using h) λj u hj=>?_
    have:=m (j+1) u (by simpa using hj);exact#[this.1,λq=>this.2 ∅]
  .rw[if_neg z]
   cases i with
   |zero=>
    simp at h;subst h;rwa[uD b ts 0 b rfl λj u hj=>#[?_,λq=>∅]]
    cases j with
    |zero=>simp at hj;subst hj;erw[ak _]
    |succ j=>exact(m (j+2) u (by simpa using hj)).1
   |succ i=>
    cases i with
    |zero=>simp at h;subst h;have:=mb.2 ∅;omega
    |succ i=>
     refine uD b ts (i+1) t (by simpa using h) λj u hj=>?_
     cases j with
     |zero=>simp at hj;subst hj;exact#[mb.1,λ_=>mb.2 ∅]
     |succ j=>
      have:=m (j+2) u (by simpa using hj);exact#[this.1,λq=>this.2 ∅]
theorem A1(hc:X.calm=true)(I:Inv X pZ σ H s)(hl:i3 X.K H p ((t::ts).map λt=>V.str (tx t)))
  (hz:∀u∈t::ts,u.length<=1000000) (q:Q (.str (tx (A0 t ts))) H){E:Value->az->Prop}:
  wpAny (bb X.prog X.w) X.A (call (.builtin "min") [.ref p] [(cw "key",.builtin "len")]) (EP X pZ σ Q) E s:=by
 let#[its,r,pl,_]:=I.list hl;let#[e1,e2]:=D7 r;let#[m,F]:=I.fr;have kp:∀h,Fr X.base X.env.locals h m->News X.base X.env.locals h (pD X.base s.heap X.env.locals)->∀b o,b≠X.env.locals->s.heap.get? b=some o->h.get? b=some o:=λh F' N' b o hb e=>by
  cases z:X.base.get? b with
  |some o'=>have:=I.bk b o' z;rw[e] at this;cases this;erw[F'.keep b _ z]
  |none=>exact(N' (b,o) (AA hb z e)).1
 let#[ol,hol,hc1,n1,hd1]:=pl.isList;have pL:p≠X.env.locals:=λe=>by
  let#[o',es,ep,ho',hd',_]:=F.ns;rw[<-e,hol] at ho';cases ho';rw[hd1] at hd';cases hd'
 rwa[kmb_min (kid:="len") (vs:=its) (news:=pD X.base s.heap X.env.locals) (λi=>(((t::ts)[i]?).getD []).length) (I.ok.hd hc) F Hk (λh F' N'=>?_) (by rw[e1];simp) (λi v hv h tk own F' N'=>?_) (λi v h' tk' hv hb F' N'=>?_)]
 .exact#[ol,kp h F' N' p ol pL hol,hc1,n1,hd1]
 .let#[u,k,hu,rfl]:=e2 i v hv
  have hn:=oW;have hu':=hz u (ah hu);rwa[len_str (by rw[dE];omega) ?_];rw[hu,dy,dE]
  erw[KskEnd.intro F' N' λp hp=>hp]
 .let#[u,k,hu,rfl]:=e2 i v hv
  have eb:A0 t ts=u:=uD t ts i u hu λj w hj=>by
   have hj':j<its.length:=by rw[e1];exact(ab.mp hj).1
   have:=hb j hj';rw[hu,hj] at this;dsimp[dy] at this;exact#[∅,λq=>by have:=this.2 q;omega]
  rw[eb] at q;refine#[.str (tx u),H,?_,#[k,rfl],q];rwa[I.Pz (λb o hb e=>?_) F.ns F'.ns];erw[kp h' F' N' b o hb e]
theorem FE(hc:X.calm=true)(hg:Gl X "min")(hm:X.mg "min"=none)(hg2:Gl X "len")(hm2:X.mg "len"=none)(ha:PE X e te)(hs:bV [e] X.env=[(false,eval e X.env)]:=by rfl):
  PE X (.Call (.Name "min" p) [e] [#[some "key",.Name "len" pl,kp]] pos) (λσ H Q=>te σ H λv H1=>∃a t ts,v=.ref a/\i3 X.K H1 a ((t::ts).map λt=>V.str (tx t))/\(∀u∈t::ts,u.length<=1000000)/\Q (.str (tx (A0 t ts))) H1):=by
 k_go;rwa[fw (sJ I hg hm boot_min ?_)];rwa[callWith_kw (e:=e) (rest:=[]) ?_ (by rw[hs];rfl) (by rw[hs];rfl)];rw[hs]
 rwa[jc (eT (ha pZ s σ H _ I h) λu s1 h9=>?_)];let#[x,H1,I1,r1,a,t,ts,e2,hl,hz,q]:=h9;rwa[mP ?_];subst e2;cases r1;rwa[kws_cons (sJ I1 hg2 hm2 K0 (kws_nil ?_))];erw[A1 hc I1 hl hz q]
end
section
variable{X:Cx}{pZ:List (Addr×Obj)}{σ:St}{H:Hp}{s:az}
theorem Inv.L0{ch:List Addr}{h':Heap}{t':Nat}{a:Addr}{o:HO}(I:Inv X pZ σ H s)(k:∀b u,b∉ch->s.heap.get? b=some u->h'.get? b=some u)(hf:∀b∈ch,qC X pZ H b)(hp:s.heap.objs.size<=a)
  (new:dQ X.prog X.w (upd H a o) h' a o):Inv X pZ σ (upd H a o) {s with heap:=h',toks:=t'}:=by
 have hn:=I.dm.fresh hp;have na:∀b u,s.heap.get? b=some u->b≠a:=λb u e z=>absurd (av (aQ e) hp) (by rw[z];erw[dI _])
 have nt:∀b u,H b=some u->b∉ch:=λb u e z=>by rw[(hf b z).1] at e;cases e
 have tr:∀b u,H b=some u->upd H a o b=some u:=λb u e=>by rw[b9 (dv e hn)];erw[e]
 refine I.step (g':=s.gens) (d':=s.drawn) (ch:=ch) (λb hb=>?_) (λb u _ _ hc e _=>k b u hc e) (λb u _ _ hc e _=>#[u.slots,k b u hc e]) (λb u _ e n=>by rw[b9 (na b u e)];exact n)
  (λb u hc e=>#[u,k b u hc e]) (λb _ e=>tr b _ e) (λb _ _ e=>tr b _ e) (λb ps e=>#[#[],by rw[tr b _ e];simp]) (λm hm=>?_) (λb u e=>?_) I.bare
 .let#[f0,f1,f2,f3,f4,f5]:=hf b hb
  exact#[f3,f1,f4,f5]
 .let#[q,es,ep,ho,r]:=hm
  exact#[q,es,ep,k _ q (λz=>(hf _ z).2.1 rfl) ho,r]
 .by_cases hb:b=a
  .subst hb;rw[cg] at e;cases e;erw[new]
  .rw[b9 hb] at e
   refine(I.dm b u e).Ax (λc v hc q=>k c v ?_ q) (λc q=>tr c _ q) λc xs q=>tr c _ q
   rcases hc with z|z
   .rw[z];erw[nt b u e]
   .erw[nt c _ z]
def W7(K:aI)(a:Addr):It:=
 #[λi H=>∃xs x,i3 K H a xs/\xs[i]?=some x,λi H y H'=>∃p x,H p=none/\y=.ref p/\H'=upd H p (.tup [.int i,x])/\∀xs,i3 K H a xs->xs[i]?=some x,λi H=>∃xs,i3 K H a xs/\xs.length<=i]
theorem FF{P:bD}{w:cy}{K:aI}{es:List Expr}{k:Nat}{pos:Pos}(a e it:Addr)(hne:e≠it):
  Turn P w K (.Tuple es k pos) (W7 K a) [e,it] e (λi h=>(∃old,IsEnum h e it i old)/\h.IsListIter it a i) where
 mem:=by simp
 obj:=λi h st b hb=>by
  let#[#[old,h1],o,h2,c,d]:=st;rcases aN.mp hb with rfl|hb
  .exact#[_,h1,λv z=>by cases z]
  .have e:b=it:=by simpa using hb
   subst e;exact#[o,h2,λv z=>by rw[d] at z;cases z]
 keep:=λi h h' st k=>by
  let#[#[old,h1],h2]:=st;exact#[#[old,k e (by simp) _ h1],h2.at λo q=>k it (by simp) o q]
 item:=by
  w_up;subst hP hw hK;let#[xs,x,hq,hx]:=hg;let#[its,rv,p,hz]:=I.list hq;let#[u,hu,ru]:=rv.get hx;let#[#[old,h1],h2]:=st;refine wpAny_pyNext_enum_item h1 h2 p.isList (x:=u) (by simpa using hu) hne λh' ho hit' hT hsz hk=>?_
  refine#[_,rfl,wpAny_letOwnedTupleGo_enum ho λh'' he'' sb=>?_];have hel:e<s.heap.objs.size:=aQ h1;have nT:s.heap.objs.size≠e:=cZ hel;have k2:∀b v,b∉[e,it]->s.heap.get? b=some v->h''.get? b=some v:=λb v hb q=>by
   dsimp[aN,cx,or_false,not_or] at hb;exact(sb.2 b hb.1).trans (hk b v hb.1 hb.2 q)
  have hfr:=I.fresh;refine#[.ref s.heap.objs.size,upd H s.heap.objs.size (.tup [.int i,x]),I.L0 (t':=s.toks+1) (h':=h'') k2 hf (ak _) ?_,rfl,#[_,x,hfr,rfl,rfl,λys hy=>by rw[I.vd hy hq];erw[hx]],?_,λb hb=>?_]
  .exact#[show 2<=sizeLine by decide,[.int i s.toks,u],.cons #[_,rfl] (.cons ru .nil),_,(sb.2 _ nT).trans hT,rfl,#[_,rfl],rfl]
  .exact#[#[u,by simpa using he''],hit'.at λo q=>(sb.2 it hne.symm).trans q]
  .rw[b9]
   .exact(hf b hb).1
   .intro z
    let#[f0,_]:=hf b hb;rcases aN.mp hb with q|hb
    .erw[nT (z▸q.symm▸rfl)]
    .have q:b=it:=by simpa using hb
     let#[o,h3,_]:=h2;have:=aQ h3;rw[<-q,z] at this;erw[dI _ this]
 done:=by
  w_up;subst hP hw hK;let#[xs,hq,hx]:=hg;let#[its,rv,p,hz]:=I.list hq;let#[#[old,h1],h2]:=st;have hl:=rv.length;let#[f0,f1,f2,f3,f4,f5]:=hf it (by simp);erw[wpAny_pyNext_enum_end (I.ok.hd hc) h1 h2 p.isList (by simp;omega) λh' eb=>#[rfl,I.turned (t':=s.toks) (λb o hb e=>eb b o hb e) f0 f1 f3 f4 f5]]
 self:=λ_ _ _ _ _ st h=>by
  let#[#[old,h1],h2]:=st;erw[wpAny_pyIter_enum h1 h]
def Ur(K:aI)(ta:TA):TI:=λσ H R=>ta σ H λvs H1=>∃a,vs=[.ref a]/\(∃xs,i3 K H1 a xs)/\R (W7 K a) H1
theorem L1{X:Cx}{a:Expr}{ta:TA}{p pos:Pos}{es:List Expr}{k:Nat}{tp:Pos}(hg:Gl X "enumerate")(hm:X.mg "enumerate"=none)(ha:PA X [a] ta)(hs:bV [a] X.env=[(false,eval a X.env)]:=by rfl):
  PI X (.Tuple es k tp) (.Call (.Name "enumerate" p) [a] [] pos) (Ur X.K ta):=by
 intro pZ s σ H R I h;rwa[Call_ (sJ I hg hm boot_enumerate (jX (eT (ha pos pZ s σ H _ I h) λus s1 h9=>?_) hs rfl))];let#[vs,H1,I1,r1,q1]:=h9;let#[l,e,#[xs,hq],q]:=q1;subst e;cases r1 with
 |cons r rr=>
  cases rr;cases r;let#[its,rv,p,hz]:=I1.list hq;rwa[call_enumerate_list p.isList λh' hE hI hsz hk=>wpAny_pyIter_enum hE ?_]
  have I2:Inv X pZ σ H1 {s1 with heap:=h'}:=I1.kept (t':=s1.toks) λb o e=>hk b o e
  refine#[_,[s1.heap.objs.size+1,s1.heap.objs.size],_,W7 X.K l,H1,rfl,I2,FF l _ _ (Nat.succ_ne_self _),#[#[_,hE],hI],λb hb=>?_,q];rcases aN.mp hb with e|hb
  .subst e
   erw[I1.Cm (kR _) (I1.dm.fresh (kR _))]
  .have e:b=s1.heap.objs.size:=by simpa using hb
   subst e;erw[I1.Cm (ak _) (I1.dm.fresh (ak _))]
end
theorem ze:typeLookup (.type "list") "keys"=pure none:=by rw[typeLookup_type,builtinLookup_eq_fast];kernel_rfl
theorem pI:plainId "dict.update.loop"=true:=by decide +kernel
theorem xQ:entryFor table "dict.update.loop"=some Builtin.«dict.update.loop»:=entryFor_of_tree (by kernel_rfl)
section
variable{prog:bD}{w:cy}{A:dD}{E:Value->az->Prop}{s:az}{a l it D:Addr}{its:Array Value}{n:Nat}{K:Type}[DecidableEq K]{knd:KeyKind prog w K}
theorem FG(hx:s.heap.get? a=some {cls:=.type "list",data:=.seq its n})(hA:A.handled=none)
  (hq:∀h' t',(∀b o,s.heap.get? b=some o->h'.get? b=some o)->Q none {s with heap:=h',toks:=t'}):wpAny (bb prog w) A (getAttr? (.ref a) "keys") Q E s:=by
 let#[h,g,d,t,os]:=s;have hT:(#[h,g,d,t,os]:az).TypeIs (.ref a) "list":=#[_,hx,rfl]
 have f1:=sub_AttributeError;have f3:=oz.lookup;have f4:=oz.bind (.ref a);have f5:=am_list_getattr_none;unfold getAttr? getAttrBy? getAttrBy
 repeat (any_goals (first|assumption| ((with_reducible show wpAny _ _ (call (Value.builtin "list.__getattribute__") _ _) _ _ _);refine u6 oz (show Shared.TypeIs _ _ "list" from #[_,hx,rfl]) am_entry_list_getattribute (F.args_list_getattribute_2 _ _) (meets_getattribute_miss_list a its n #[] "keys" _ ze (by decide +kernel)) #[hx,hA,λh' tk' e hx'=>?_])|wp_step))
 let#[t',u',he]:=hx'.there;show wpAny _ _ (getattributeRaised _ _ _ _ _ _ _) _ _ _;unfold getattributeRaised
 repeat (any_goals (first|assumption|wp_step))
 erw[hq _ _ hx'.keeps]
theorem sW{h:Heap}{a b:Addr}{o u:Obj}(ha:h.get? a=some o)(hb:h.get? b=some u)(n:o.cls≠u.cls):a≠b:=λe=>by
 rw[e,hb] at ha;cases ha;erw[n rfl]
theorem FH{R:Result->az->Prop}{more:List (K×Value)}{res:Value}(hh:A.handled=none)(hz:its.size=more.length):∀(k i:Nat)(s:az)(acc:List (K×Value)),more.length-i=k->i<=more.length->s.heap.IsListIter it l i->s.heap.IsList l its ->
  (∀(j:Nat)(kk:K)(v:Value),more[j]?=some (kk,v)->∃T key,its[j]?=some (.ref T)/\s.heap.IsTuple T (List.toArray [key,v])/\knd.is kk key=true)->s.heap.DictOf knd D acc->acc.length+k<=sizeLine ->
  (∀h' t',h'.DictOf knd D (merged acc (more.drop i))->(∀b o,b≠D->b≠it->s.heap.get? b=some o->h'.get? b=some o)->R (.ok (.ret res)) {s with heap:=h',toks:=t'}) ->
  qA (bb prog w) A (.builtin "dict.update.loop" #[[bf D,bf it,jM i,res],[]]) R s:=by
 intro k;induction k with
 |zero=>
  intro i s acc hk hi hit hl hp hd hs hR;have hin:i=more.length:=∅
  rwa[codeAny_builtin xQ ?_];rw[BW pI _]
  show wpAny _ A.in1 (yr (.ref it)>>=_) _ _ s
  let#[oi,hoi,ci,di]:=id hit;let#[od,es,ep,hod,hcd,r]:=id hd;have nd:D≠it:=sW hod hoi (by rw[hcd.1,ci];decide);rwa[ae (Kw hh hit hl (by rw[hin,<-hz];simp) λh' eb=>?_)];rwa[ae (aB (aB ?_))];rwa[hR h' s.toks ?_ λb o _ hb e=>eb b o hb e]
  rw[hin,uv]
  exact#[od,es,ep,eb D od nd hod,hcd,r]
 |succ k ih=>
  intro i s acc hk hi hit hl hp hd hs hR;have lt:i<more.length:=∅
  obtain⟨⟨kk,v⟩,hkv⟩:∃p,more[i]?=some p:=#[_,aa lt]
  let#[T,key,hT,ht,hk']:=hp i kk v hkv;rwa[codeAny_builtin xQ ?_];rw[BW pI _]
  show wpAny _ A.in1 (yr (.ref it)>>=_) _ _ s
  let#[oi,hoi,ci,di]:=id hit;let#[od,es,ep,hod,hcd,r]:=id hd;let#[ol,hol,cl,dl]:=id hl;have nd:D≠it:=sW hod hoi (by rw[hcd.1,ci];decide);have nl:l≠it:=sW hol hoi (by rw[cl,ci];decide);have nld:l≠D:=sW hol hod (by rw[cl,hcd.1];decide);have nt:∀{T:Addr}{vs:Array Value},s.heap.IsTuple T vs->T≠it/\T≠D:=λ⟨ot,hot,ct,_⟩=>#[sW hot hoi (by rw[ct,ci];decide),sW hot hod (by rw[ct,hcd.1];decide)]
  rwa[ae (G7 hit hl hT λh1 hit1 sb1=>?_)];let#[ot,hot,ct,nn,dt]:=id ht;have hot1:h1.get? T=some ot:=(sb1.2 T (nt ht).1).trans hot;rwa[ae (iy (ae (wpAny_tryCatch ?_)))];unfold Builtin.Dict.pairItems;rwa[ae (wpAny_typeOf (T:="tuple") #[ot,hot1,ct] ?_)];rw[if_pos ⋯]
  rwa[ae (B7 hot1 dt (aB ?_))];show wpAny _ A.in1 (holding [key,v] (dictSet D key v)) _ _ _;rwa[iy (iy (ae (knd.pyHash hk' ?_)))];have hd1:h1.DictOf knd D acc:=#[od,es,ep,(sb1.2 D nd).trans hod,hcd,r]
  rwa[wpAny_dictSetHashed_pairs hk' hd1 (λh2 hd2 sb2=>aB #[plainId_quiet pI _,?_]) ∅];have kp:∀b o,b≠D->b≠it->s.heap.get? b=some o->h2.get? b=some o:=λb o n1 n2 e=>(sb2.2 b n1).trans ((sb1.2 b n2).trans e)
  have e1:(jM ((i:Int)+1))=jM ((i+1:Nat):Int):=by push_cast;rfl
  rw[e1]
  refine ih (i+1) _ (u7 acc kk v) ∅ lt (hit1.at λo e=>(sb2.2 it nd.symm).trans e) #[ol,kp l ol nld nl hol,cl,dl] (λj kk v e=>?_) hd2 ?_ λh' t' hd' kp'=>?_
  .let#[T,key,q1,#[ot,hot,r],q3]:=hp j kk v e
   exact#[T,key,q1,#[ot,kp T ot (nt #[ot,hot,r]).2 (nt #[ot,hot,r]).1 hot,r],q3]
  .have:(u7 acc kk v).length<=acc.length+1:=by
    unfold u7;split
    .rw[af];omega
    .rw[ar];simp
   omega
  .rwa[hR h' t' ?_ λb o n1 n2 e=>kp' b o n1 n2 (kp b o n1 n2 e)]
   rw[iM lt]
   have:more[i]=(kk,v):=by rw[aa lt] at hkv;erw[aL hkv]
   rw[this]
   erw[hd']
theorem CQ{more:List (K×Value)}{Q:Value->az->Prop}(hh:A.handled=none)(hl:s.heap.get? l=some {cls:=.type "list",data:=.seq its n})(hz:its.size=more.length)(hm:more.length<=sizeLine)
  (hp:∀(j:Nat)(kk:K)(v:Value),more[j]?=some (kk,v)->∃T key,its[j]?=some (.ref T)/\s.heap.IsTuple T (List.toArray [key,v])/\knd.is kk key=true)
  (h:∀h' t',h'.DictOf knd s.heap.objs.size (merged [] more)->(∀b o,s.heap.get? b=some o->h'.get? b=some o)->Q (.ref s.heap.objs.size) {s with heap:=h',toks:=t'}):
  wpAny (bb prog w) A (call (.type "dict") [.ref l]) Q E s:=by
 refine callType_codes (Q₁:=λobj s₁=>obj=.ref s.heap.objs.size/\s₁={s with heap:=s.heap.push {cls:=.type "dict",data:=.dict #[]} }) F.kt_called_dict (F.kt_typeCall_dict_1 _) F.entry_dict_init (kt_code_dict_new _ #[rfl,rfl]) ?_;rintro obj s₁ ⟨rfl,rfl⟩;have hnew:(s.heap.push {cls:=.type "dict",data:=.dict #[]}).DictOf knd s.heap.objs.size []:=BQ s.heap;have kp:∀b o,s.heap.get? b=some o->(s.heap.push {cls:=.type "dict",data:=.dict #[]}).get? b=some o:=λb o e=>aF _ e
 generalize s.heap.push {cls:=.type "dict",data:=.dict #[]}= h1 at hnew kp;refine#[hnew.typeIs,F.args_dict_init_2 _ _,?_];unfold Builtin.«dict.__init__»;rwa[ae ?_];unfold Builtin.Dict.selfAndRest;rwa[ae (rf hnew.typeIs ?_)];show wpAny _ _ (pure (s.heap.objs.size,[bf l])) _ _ _;rwa[aB ?_];show wpAny _ _ (Builtin.Dict.updateFrom "dict.__init__" s.heap.objs.size (.ref l) [] .none) _ _ _;unfold Builtin.Dict.updateFrom;rwa[ae (wpAny_typeOf (T:="list") #[_,kp l _ hl,rfl] ?_)];rw[if_pos ⋯]
 rwa[ae (FG (kp l _ hl) hh λh2 t2 k2=>?_)];rw[if_pos (by rfl)]
 refine ae (qy ?_);have hl2:=k2 l _ (kp l _ hl);refine ae (kE #[_,hl2,rfl,_,rfl] (aB #[plainId_quiet pI _,?_]));have nD:s.heap.objs.size<h2.objs.size:=by
  let#[od,_,_,hod,_]:=hnew;erw[aQ (k2 _ _ hod)]
 have kp3:∀b o,s.heap.get? b=some o->(h2.push {cls:=.type "list_iterator",data:=.fields (List.toArray [.ref l,.int 0 0])}).get? b=some o:=λb o e=>aF _ (k2 b o (kp b o e))
 refine FH (A:=A.in1) (knd:=knd) (its:=its) (l:=l) hh hz more.length 0 _ [] ∅ (bX _) ?_ ?_ (λj kk v e=>?_) ?_ (by simpa using hm) λh' t' hd' kp'=>?_
 .exact#[_,a9 _ rfl,rfl,rfl]
 .exact#[{cls:=.type "list",data:=.seq its n},aF _ hl2,rfl,n,rfl]
 .let#[T,key,q1,#[ot,hot,r],q3]:=hp j kk v e
  exact#[T,key,q1,#[ot,kp3 T ot hot,r],q3]
 .let#[od,es,ep,hod,r]:=hnew
  exact#[od,es,ep,aF _ (k2 _ _ hod),r]
 .refine#[rfl,h h' t' hd' λb o e=>kp' b o ?_ ?_ (kp3 b o e)]
  .erw[aY (aQ e)]
  .erw[aY (aQ (k2 b o (kp b o e)))]
end
section
variable{X:Cx}{pZ:List (Addr×Obj)}{σ:St}{H:Hp}{s:az}
abbrev PB(H:Hp)(v:V)(kv:Key×V):Prop:=∃T,v=.ref T/\H T=some (.tup [kV kv.1,kv.2])
theorem L3(I:Inv X pZ σ H s):∀{vs:List V}{kvs:List (Key×V)}{its:List Value},Paired (PB H) vs kvs->Vals vs its->∃more,KV kvs more/\its.length=more.length /\
  ∀(j:Nat)(kk:Key)(v:Value),more[j]?=some (kk,v)->∃T key,its[j]?=some (.ref T)/\s.heap.IsTuple T (List.toArray [key,v])/\(cX X.prog X.w).is kk key=true
 := by
 intro vs kvs its hp hv;induction hp generalizing its with
 |nil=>cases hv;exact#[[],.nil,rfl,λj kk v e=>by cases e]
 |cons ha hr ih=>
  rename_i b _ _;let#[k,x]:=b;let#[T,e,hT]:=ha;cases hv with|cons r rr=>?_
  subst e;cases r;let#[more,h1,h2,h3]:=ih rr;let#[z,its',rv,p]:=I.dm T _ hT;cases rv with
  |cons r1 rr1=>
   rename_i ku us';cases rr1 with
   |cons r2 rr2=>
    rename_i xu _;cases rr2;refine#[(k,xu)::more,.cons #[rfl,r2] h1,by simp[h2],λj kk v e=>?_];cases j with
    |zero=>
     simp at e;let#[rfl,rfl]:=e;exact#[T,ku,rfl,p.tup,rF r1]
    |succ j=>simpa using h3 j kk v (by simpa using e)
theorem CS(hA:X.A.handled=none):iN X (.type "dict") (λxs H Q=>∃a vs kvs,xs=[.ref a]/\H a=some (.lst vs)/\Paired (PB H) vs kvs/\(kvs.map (·.1)).Nodup/\∀p,H p=none->Q (.ref p) (upd H p (.dK kvs))):=by
 intro pZ s σ H xs us Q I rv h;let#[a,vs,kvs,rfl,hH,hp,hn,q]:=h;let#[u,rfl,ru]:=rv.one;cases ru;let#[z,its,n,r,hl,e]:=I.Fs hH;let#[more,h1,h2,h3]:=L3 I hp r;have hk:=h1.keys;refine CQ (knd:=cX X.prog X.w) (more:=more) hA e (by simpa using h2) (by rw[<-h2,<-hl];erw[z]) (λj kk v ej=>?_) λh' t' hd kp=>?_
 .let#[T,key,q1,q2,q3]:=h3 j kk v ej
  exact#[T,key,by simpa using q1,q2,q3]
 .rw[merged_nil_of_nodup more (by rw[<-hk];erw[hn])] at hd
  have hf:=I.fresh;refine#[.ref s.heap.objs.size,_,I.laid (t':=t') kp (ak _) (yS (kvs:=kvs) (by rw[h1.length,<-h2,<-hl];erw[z]) ?_ h1 hd),rfl,q _ hf];have:=I.big;erw[beq_eq_false_iff_ne.mpr (cZ this)]
end
section
variable{X:Cx}
theorem uE(hi:0<=i)(hj:0<=j):Builtin.bitAnd i j=((i.toNat&&&j.toNat:Nat):Int):=by
 unfold Builtin.bitAnd;rw[decide_eq_true hi,decide_eq_true hj]
theorem CT(hi:0<=i)(hj:0<=j):Builtin.bitOr i j=((i.toNat|||j.toNat:Nat):Int):=by
 unfold Builtin.bitOr Builtin.bitAnd Builtin.bitNot;rw[decide_eq_false ∅,decide_eq_false ∅,show -(-i-1)-1=i by omega,show -(-j-1)-1=j by omega]
 dsimp only;omega
theorem FI:yP X "int.bit_length" (λx xs H Q=>∃i:Nat,x=.int i/\xs=[]/\Q (.int (if i=0 then 0 else i.log2+1:Nat)) H):=by
 intro pZ s σ H x xs v us Q I rx rs h;let#[i,rfl,rfl,q]:=h;let#[t,rfl]:=rx;cases rs;refine call_int_bit_length #[.int _,H,I.tok _,#[_,rfl],?_];have:Builtin.Int.intBits i=if i=0 then 0 else i.log2+1:=by
  unfold Builtin.Int.intBits;by_cases e:i=0
  .subst e;rfl
  .rw[if_neg e,if_neg (by simpa using e)];rfl
 rw[this]
 erw[q]
theorem CU(hc:X.calm=true):iN X (.builtin "any") (λxs H Q=>∃p,∃bs:List Bool,xs=[.ref p]/\i3 X.K H p (bs.map V.bl)/\Q (.bl (bs.any id)) H):=by
 k_ne;let#[p,bs,rfl,hl,q]:=h;let#[u,rfl,ru]:=vals1 r;cases ru;let#[its,r,pl,_]:=I.list hl;have hl:=pl.isList;have hits:=vB r;have hlt:p<s.heap.objs.size:=by let#[_,e,_]:=hl;erw[aQ e]
 refine call_any_walk (kE hl ?_);refine#[s.heap.objs.size,[s.heap.objs.size,p],[s.heap.objs.size],its.toArray.size,_,_,λi=>(bs[i]?).getD false,rfl,E6 (A:=X.A.in1) (I.ok.hd hc) _ p (aY hlt) its.toArray,
  #[#[_,a9 _ rfl,rfl,rfl],hl.push _],λi v s' Q' E' hP hQ=>?_,λh' tk hk=>?_]
 .have hP:its[i]?=some v:=by simpa using hP
  rw[hits,aw] at hP;cases e:bs[i]? with
  |none=>rw[e] at hP;cases hP
  |some b=>
   rw[e] at hP;have hQ:Q' ((bs[i]?).getD false) s':=hQ;rw[e] at hQ;cases hP;erw[cY hQ]
 .have e:((bO its.toArray.size).any λi=>(bs[i]?).getD false)=bs.any id:=by
   rw[aH,hits,af];erw[LSm.range_any bs]
  rw[e]
  exact#[.bl _,H,I.kept (Ap hk),rfl,q]
end
section
variable{X:Cx}
theorem A2{val:Nat->Int}:∀k,argBest (λi j=>decide (val j<val i)) k<=k/\∀j,j<=k->val j<=val (argBest (λi j=>decide (val j<val i)) k)
 |0=>#[ak _,λj h=>by rw[Nat.le_zero.mp h];erw[E7 _]]
 |k+1=>by
  let#[h1,h2]:=A2 (val:=val) k;unfold argBest;split
  .rename_i hb
   have hb:=of_decide_eq_true hb;refine#[ak _,λj hj=>?_];rcases uc k j with z|z
   .rw[show j=k+1 by omega];erw[E7 _]
   .erw[Int.le_of_lt (Int.lt_of_le_of_lt (h2 j z) hb)]
  .rename_i hb
   have hb:¬val (argBest _ k)<val (k+1):=λz=>hb (decide_eq_true z)
   refine#[jP h1,λj hj=>?_];rcases uc k j with z|z
   .rw[show j=k+1 by omega];omega
   .erw[h2 j z]
theorem D8:∀{is:List Int}{us:List Value},Vals (is.map V.int) us->us.length=is.length/\∀(i:Nat)v,us[i]?=some v->∃t,v=lQ ((is[i]?).getD 0) t
 |[],_,r=>by rw[jF] at r;cases r;exact#[rfl,λi v e=>by simp at e]
 |k::ks,_,r=>by
  rw[au] at r;cases r with
  |cons h t=>
   let#[h1,h2]:=D8 t;refine#[by simp[h1],λi v e=>?_];cases i with
   |zero=>simp at e;subst e;erw[h]
   |succ i=>simp at e ⊢;erw[h2 i v e]
theorem CV(hc:X.calm=true):iN X (.builtin "max") (λxs H Q=>∃p,∃(i:Int)(is:List Int),xs=[.ref p]/\i3 X.K H p ((i::is).map V.int)/\∀m∈i::is,(∀j∈i::is,j<=m)->Q (.int m) H):=by
 k_ne;let#[p,i,is,rfl,hl,q]:=h;let#[u,rfl,ru]:=vals1 r;cases ru;let#[its,r,pl,_]:=I.list hl;have hl:=pl.isList;let#[e1,e2]:=D8 r;have hlt:p<s.heap.objs.size:=by let#[_,e,_]:=hl;erw[aQ e]
 refine call_max_walk (kE hl ?_);refine#[s.heap.objs.size,[s.heap.objs.size,p],[s.heap.objs.size],its.toArray.size,_,_,_,rfl,E6 (A:=X.A.in1) (I.ok.hd hc) _ p (aY hlt) its.toArray,
  #[#[_,a9 _ rfl,rfl,rfl],hl.push _],λb hb=>?_,by simp[e1],CmpOf.ints_gt (λk=>((i::is)[k]?).getD 0) (λk v hv=>e2 k v (by simpa using hv)),λv h' tk hP hk=>?_]
 .show b<(s.heap.push _).objs.size
  rw[iC]
  rcases aN.mp hb with z|z
  .rw[z];erw[dg _]
  .rw[aZ.mp z];erw[bc hlt]
 .have hn:its.toArray.size-1=is.length:=by simp[e1]
  rw[hn] at hP;let#[b1,b2]:=A2 (val:=λk=>((i::is)[k]?).getD 0) is.length;have get:∀k,k<=is.length->∃m,(i::is)[k]?=some m/\((i::is)[k]?).getD 0=m:=λk hk=>by
   have e:=aa (l:=i::is) (i:=k) (by simp;omega);exact#[_,e,by rw[e];rfl]
  let#[m,g1,g2]:=get _ b1;let#[t,rfl]:=e2 _ v (by simpa using hP);refine#[.int m,H,I.kept (Ap hk),#[t,by rw[<-g2]],q m (ah g1) λj hj=>?_];let#[k,hk2,e]:=qU hj;have:=b2 k (by simp at hk2;omega);rw[<-g2]
  have e3:((i::is)[k]?).getD 0=j:=by rw[aa hk2,e];rfl
  rw[<-e3];erw[this]
theorem FJ:iN X (.builtin "len") (λxs H Q=>∃a kvs,xs=[V.ref a]/\H a=some (.dP kvs)/\Q (.int kvs.length) H):=by
 k_ne;let#[a,kvs,rfl,ha,q]:=h;let#[u,rfl,ru]:=vals1 r;cases ru;let#[z,hd,ws,rel,dd]:=NQ I.dm ha;have hT:=dd.typeIs;let#[o,es,ep,ho,hc,hdat,he,_]:=dd;have hsz:es.size=kvs.length:=by rw[Am he,<-Paired.length rel]
 have h63:(kvs.length:Int)<2^63:=by rw[lV] at z;omega
 refine Calls.call_function_entry kind_len plain_len entry_len (args_len1 _) ?_;unfold Builtin.«len»;refine ae (m:=oneArg "len" _) (aB ?_);refine ae (m:=callSpecial? (.ref a) (cw "__len__")) (qc (name:=cw "__len__") hT z8
  (lA z8 hT PySem.F.entry_dict_len ?_ (PySem.F.args_dict_len_1 _)))
 show wpAny _ _ (dictSize a>>=_) _ _ s
 unfold dictSize;rwa[ae (ae (iJ ho hdat (aB ?_)))];show wpAny _ _ (Builtin.Dict.pendingCount a>>=_) _ _ s;rwa[ae (wpAny_pendingCount_other hd ?_)];rwa[wpAny_ret_mkInt ?_];show wpAny _ _ _ _ _ {s with toks:=s.toks+1};rwa[ae (iy (aB ?_))];rwa[ae (wpAny_letGo ?_)];rw[hsz]
 show wpAny _ _ (if ((kvs.length:Nat):Int)<0 then _ else _) _ _ _
 rw[if_neg ∅]
 show wpAny _ _ (if ((kvs.length:Nat):Int)≥2^63 then _ else _) _ _ _
 rw[if_neg ∅]
 erw[ae (KR (aB #[_,rfl,.int kvs.length,H,I.tok _,#[_,rfl],q]))]
theorem Ia(h:Heap)(hb:bZ<h.objs.size):dQ P w H (h.push {cls:=.type "dict",data:=.dict #[]}) h.objs.size (.dP []):=
 #[bX _,beq_eq_false_iff_ne.mpr (cC (aY hb)),[],.nil,_,#[],0,a9 _ rfl,#[rfl,rfl,rfl],rfl,rfl,xq]
def Us:TE:=λ_ H Q=>∃o,(o=HO.dK []\/o=.dT []\/o=.dP [])/\∀p,H p=none->Q (.ref p) (upd H p o)
theorem L4:PE X (.Dict [] [] pos) Us:=λpZ s σ H Q I h=>by
 let#[o,ho,h]:=h;rwa[wpAny_Dict_empty #[.ref s.heap.objs.size,_,I.laid (a:=s.heap.objs.size) (o:=o) (t':=s.toks) (λ_ _ q=>aF _ q) (ak _) ?_,rfl,h _ (I.dm.fresh (ak _))]];rcases ho with rfl|rfl|rfl
 .erw[AL s.heap I.big]
 .erw[HG s.heap I.big]
 .erw[Ia s.heap I.big]
end
section
variable{prog:bD}{w:cy}{A:dD}{E:Value->az->Prop}{s:az}
def A3(h:Heap)(d:Addr)(es:Array yC)(ep:Nat):Prop:=∃o,h.get? d=some o/\o.data=.dict es ep
theorem FK(hv:s.heap.IsValuesView v d)(hm:A3 s.heap d es ep)
  (hQ:Q (.ref s.heap.objs.size) {s with heap:=s.heap.push {cls:=.type "dict_valueiterator",data:=.fields (List.toArray [.ref d,.int 0 0,.int es.size 0,.int ep 0])} }):
  wpAny (bb prog w) A (pyIter (.ref v)) Q E s:=by
 let#[ov,hov,hcv,hdv]:=id hv;let#[o,ho,hdat]:=hm;rwa[wpAny_pyIter_slot hv.typeIs tJ (lA tJ hv.typeIs PySem.F.entry_dict_values_iter ?_ (PySem.F.args_dict_values_iter_1 _))];unfold Builtin.«dict_values.__iter__»;rwa[ae (aB (ae ?_))];unfold Builtin.Dict_items.dictOf;rwa[ae (sH hov hdv (x:=.ref d) rfl (aB (ae ?_)))];unfold Builtin.Dict_items.newIterator;rwa[ae (iJ ho hdat (ae (Aq ho hdat ?_)))];have hown:Builtin.Dict_items.ownsTuple "dict_valueiterator"=false:=⋯
 dsimp[hown,ao,if_false];rwa[iK (aB #[_,rfl,"dict_valueiterator",_,#[_,a9 _ rfl,rfl],cM.lookup,?_])];simpa[jM] using hQ
theorem Ib(hit:s.heap.IsValIter it d i es.size ep)(hm:A3 s.heap d es ep)(hlt:i<es.size)
  (hQ:∀h',h'.IsValIter it d (i+1) es.size ep->gx it s.heap h'->Q (some es[i].val) {s with heap:=h'}):wpAny (bb prog w) A (yr (.ref it)) Q E s:=by
 let#[o,ho,hc,hd]:=id hit;let#[od,hod,hdd]:=id hm;unfold yr;refine ae (wpAny_attempt (qc (name:=cw "__next__") hit.typeIs cM
  (lA cM hit.typeIs pv ?_ (oV _))))
 rwa[ae (aB (ae (ae ?_)))];rwa[ae (gI hit.typeIs (aB ?_))];rwa[ae (wpAny_fieldsOf ho hd ?_)];have hown:Builtin.Dict_items.ownsTuple "dict_valueiterator"=false:=⋯
 dsimp[hown,ao,if_false];show wpAny _ _ (if (bf d==cv)=true then _ else _) _ _ s;rw[if_neg (show ¬((bf d==cv)=true) from aV)]
 rwa[ae (aB (ae (iJ hod hdd ?_)))];rw[if_neg (by simp)]
 rwa[ae (aB (ae (Aq hod hdd ?_)))];rw[if_neg (by simp)]
 refine aB ?_;dsimp[show ¬((i:Int)<0) from by omega,if_false,jO,eU hlt];refine ae ?_;refine ae (gI hit.typeIs (aB ?_));refine ae (rg hit.typeIs ?_);show wpAny _ _ (setField (.ref it) 1 (jM ((i:Int)+1))>>=_) _ _ s;refine ae (nk ho hd (by simp) ?_);have hit':(s.heap.update it (nq (·.setIfInBounds 1 (jM ((i:Int)+1))))).IsValIter it d (i+1) es.size ep:=
  #[_,dw _ ho (qa (jk hd _)),(Obj.cls_mapFields ..).trans hc,by rw[jk hd];simp[jM]]
 rwa[ae (iy ?_)];refine ae (rg (s:={s with heap:=s.heap.update it (nq (·.setIfInBounds 1 (jM ((i:Int)+1))))}) hit'.typeIs ?_);refine ae (rg (s:={s with heap:=s.heap.update it (nq (·.setIfInBounds 1 (jM ((i:Int)+1))))}) hit'.typeIs ?_);show wpAny _ _ (pure es[i].val) _ _ _;erw[aB (aB #[_,rfl,aB (hQ _ hit' (eV ..))])]
theorem L5(hh:A.handled=none)(hit:s.heap.IsValIter it d i es.size ep)(hm:A3 s.heap d es ep)(hge:es.size<=i)
  (hQ:∀h',Heap.ExtBut it s.heap h'->Q none {s with heap:=h'}):wpAny (bb prog w) A (yr (.ref it)) Q E s:=by
 let#[o,ho,hc,hd]:=id hit;let#[od,hod,hdd]:=id hm;unfold yr;refine ae (wpAny_attempt (qc (name:=cw "__next__") hit.typeIs cM
  (lA cM hit.typeIs pv ?_ (oV _))))
 rwa[ae (aB (ae (ae ?_)))];rwa[ae (gI hit.typeIs (aB ?_))];rwa[ae (wpAny_fieldsOf ho hd ?_)];have hown:Builtin.Dict_items.ownsTuple "dict_valueiterator"=false:=⋯
 dsimp[hown,ao,if_false];show wpAny _ _ (if (bf d==cv)=true then _ else _) _ _ s;rw[if_neg (show ¬((bf d==cv)=true) from aV)]
 rwa[ae (aB (ae (iJ hod hdd ?_)))];rw[if_neg (by simp)]
 rwa[ae (aB (ae (Aq hod hdd ?_)))];rw[if_neg (by simp)]
 refine aB ?_;dsimp[show ¬((i:Int)<0) from by omega,if_false,jO,An hge];refine ae ?_;refine ae (gI hit.typeIs (aB ?_));show wpAny _ _ (setField (.ref it) 0 .none>>=_) _ _ s;refine ae (nk ho hd (by simp) ?_);show wpAny _ _ (newExc (.type "StopIteration") []>>=_) _ _ _;dsimp[newExc,newTuple];refine ae (ae (iK (ae (m:=firstArgMember _ _) (wpAny_of_eq (a:=cv) (by first|rfl| (dsimp[firstArgMember];rfl)) (iK ?_ (by size_fits)))) (by size_fits)));dsimp[raiseNew];refine ae (wpAny_handled ?_);rw[show A.in1.handled=none from hh]
 rwa[ae (aB (wpAny_throw ?_))];rwa[ae (p7 (T:="StopIteration") (b:=true) #[_,a9 _ rfl,rfl] isSubtype_stop (aB (hQ _ ?_)))];exact((eV ..).extBut.push _).push _
theorem FL(hh:A.handled=none)(I d:Addr)(hne:d≠I)(es:Array yC)(ep:Nat):
  Walks prog w A I [I,d] [I] es.size (λi v=>(es[i]?).map (·.val)=some v) (λi h=>h.IsValIter I d i es.size ep/\A3 h d es ep) where
 sub:=λb hb=>by simp at hb;simp[hb]
 frame:=λ_ _ _ st hk=>#[let ⟨o,e,r⟩:=st.1;#[o,hk I (by simp) o e,r],let ⟨o,e,r⟩:=st.2;#[o,hk d (by simp) o e,r]]
 item:=λi s Q E hi st hQ=>Ib st.1 st.2 hi λh' hit' hs'=>
  hQ _ h' s.toks (by rw[eU hi];rfl) #[hit',let ⟨o,e,r⟩:=st.2;#[o,(hs'.2 d hne).trans e,r]] λb o hb e=>hs'.extBut b o (λh=>hb (by simp[h])) e
 done:=λs Q E st hQ=>L5 hh st.1 st.2 (ak _) λh' he'=>hQ h' s.toks λb o hb e=>he' b o (λh=>hb (by simp[h])) e
 self:=λ_ _ _ _ st hQ=>wpAny_pyIter_valiter st.1 hQ
theorem Ic:KdlSrc prog w "dict_values" r d es.size (λi v=>(es[i]?).map (·.val)=some v) (λh=>h.IsValuesView r d/\A3 h d es ep) where
 type:=λ_ hm=>hm.1.typeIs
 there:=λ_ hm=>#[let ⟨_,ho,_⟩:=hm.1;aQ ho,let ⟨_,ho,_⟩:=hm.2;aQ ho]
 keep:=λ_ _ hm hk=>#[let ⟨o,ho,x⟩:=hm.1;#[o,hk r (.inl rfl) o ho,x],let ⟨o,ho,x⟩:=hm.2;#[o,hk d (.inr rfl) o ho,x]]
 notList:=⋯
 notTuple:=⋯
 hint:=λ_ _ _ _ hm hq=>kdl_hint_values hm.1.typeIs hq
 iter:=λ_ s hh hm=>#[_,_,(λ_ _ hq=>FK hm.1 hm.2 hq),FL hh _ d (let ⟨_,ho,_⟩:=hm.2;aY (aQ ho)) es ep,#[#[_,a9 _ rfl,rfl,rfl],let ⟨o,ho,x⟩:=hm.2;#[o,aF _ ho,x]]]
end
section
variable{X:Cx}
noncomputable def Ut(p d:Addr):HO:=.ext λh=>h.IsValuesView p d
theorem FN:yP X "dict.values" (λx xs H Q=>∃d kvs,x=.ref d/\xs=[]/\H d=some (.dT kvs)/\∀p,H p=none->Q (.ref p) (upd H p (Ut p d))):=by
 intro pZ s σ H x xs v us Q I rx rs h;let#[d,kvs,rfl,rfl,hd,q]:=h;cases rs;cases (show v=bf d from rx);let#[z,lo,ws,rel,dd]:=DT I.dm hd;refine mR (S:=λA R s=>s.TypeIs (.ref d) "dict"/\R (.ok (.ret (.ref s.heap.objs.size))) {s with heap:=s.heap.push {cls:=.type "dict_values",data:=.fields (List.toArray [.ref d])} })
  wD dd.typeIs PySem.F.entry_dict_values (PySem.F.args_dict_values_1 _) (.of_wp λA R s h=>?_) #[dd.typeIs,?_]
 .rwa[ae ?_]
  unfold Builtin.Dict.noArgs;rwa[ae (rf h.1 ?_)];show wpAny _ _ (pure d) _ _ s;rwa[aB ?_];show wpAny _ _ (Builtin.Dict.showsAll d>>=_) _ _ s;unfold Builtin.Dict.showsAll;rw[if_neg (by rw[lo];erw[aV])]
  erw[ae (aB (ae (iK (aB #[_,rfl,h.2]))))]
 .refine#[.ref s.heap.objs.size,_,I.laid (a:=s.heap.objs.size) (o:=Ut s.heap.objs.size d) (t':=s.toks) (λ_ _ q=>aF _ q) (ak _) ?_,rfl,q _ (I.dm.fresh (ak _))]
  have e:(s.heap.push {cls:=.type "dict_values",data:=.fields (List.toArray [.ref d])}).get? s.heap.objs.size=some {cls:=.type "dict_values",data:=.fields (List.toArray [.ref d])}:=a9 _ rfl;exact#[#[_,e,rfl,rfl],#[_,e],λh1 h2 #[o,ho,r] k=>#[o,k o ho,r]]
theorem CW(hc:X.calm=true):iN X (.type "list") (λxs H Q=>∃p d kvs,xs=[.ref p]/\H p=some (Ut p d)/\H d=some (.dT kvs)/\∀l,H l=none->Q (.ref l) (upd H l (.lst (kvs.map (·.2))))):=by
 k_ne;let#[p,d,kvs,rfl,hp,hd,q]:=h;let#[u,rfl,ru]:=vals1 r;cases ru;let#[hv,_,_]:=(show dQ X.prog X.w H s.heap p (Ut p d) from I.dm p _ hp)
 let#[z,lo,ws,rel,o,es,ep,ho,hx,hdat,he,_]:=DT I.dm hd;have hsz:es.size=kvs.length:=by rw[Am he,<-Paired.length rel]
 rwa[kdl_call Ic (I.ok.hd hc) #[hv,o,ho,hdat] (by rw[hsz];erw[z]) λh' tk acc' c' hk hl hi=>?_]
 have ea:acc'.toList=ws.map (·.2.2):=by
  rwa[List.ext_getElem? λj=>?_]
  rw[Array.getElem?_toList,aw]
  have e3:es[j]?=(ws[j]?).map (B8 (nh (cX X.prog X.w))):=entry_at he j;cases e4:acc'[j]? with
  |some v=>
   have this:(es[j]?).map (·.val)=some v:=hi.2 j v e4;rw[e3] at this;cases e5:ws[j]? with
   |none=>rw[e5] at this;cases this
   |some q=>rw[e5] at this;erw[this.symm]
  |none=>
   have h1:acc'.size<=j:=Array.getElem?_eq_none_iff.mp e4;rw[cH (by rw[<-Paired.length rel,<-hsz,<-hi.1];erw[h1])];rfl
 have vals:∀{l:List (List Key×V)}{m:List (List Key×Addr×Value)},KT H l m->Vals (l.map (·.2)) (m.map (·.2.2)):=by
  intro l m r;induction r with
  |nil=>erw[.nil]
  |cons h _ ih=>erw[.cons h.2.2 ih]
 refine#[.ref s.heap.objs.size,_,I.laid (a:=s.heap.objs.size) (o:=.lst (kvs.map (·.2))) (t':=tk) hk (ak _) #[by rw[af];erw[z],acc'.toList,c',ea▸vals rel,?_],rfl,q _ (I.dm.fresh (ak _))];rw[Array.toArray_toList];erw[hl]
end
section
variable{X:Cx}
def Uu(K:Frag):V->List V->Hp->VK->Prop:=λx xs H Q=>∃p y vs j z,x=.ref p/\xs=[y]/\i3 K H p vs/\lB y=true/\vs.all lB=true/\vs[j]?=some z/\BZ z y=true/\(∀(i:Nat)(z':V),i<j->vs[i]?=some z'->BZ z' y=false)/\Q (.int (j:Nat)) H
theorem D9:∀{xs:List V}{us:List Value},Vals xs us->∀(i:Nat)(u:Value),us[i]?=some u->∃x,xs[i]?=some x/\RelV x u
 |_,_,.nil,_,_,h=>by cases h
 |_,_,.cons r q,0,_,h=>by cases h;exact#[_,rfl,r]
 |_,_,.cons r q,i+1,u,h=>D9 q i u h
theorem rK:∀{xs:List V}{us:List Value},Vals xs us->xs.length=us.length
 |_,_,.nil=>rfl
 |_,_,.cons r q=>congrArg (·+1) (rK q)
theorem Ie(r:Vals vs its)(fs:vs.all lB=true)(i:Nat)(hi:i<its.length):∃z',vs[i]?=some z'/\wu y its[i]=BZ z' y:=by
 let#[z',h1,h2]:=D9 r i _ (aa hi);exact#[z',h1,Cz h2 (bI.mp fs z' (ah h1))]
theorem Ea:yP X "list.index" (Uu X.K):=by
 intro pZ s σ H x xs v us Q I rx rs h;let#[p,y,vs,j,z,rfl,rfl,hq,fy,fs,hj,ez,no,q]:=h;cases rx;let#[u,rfl,ru]:=rs.one;let#[its,r,pl,hz]:=I.list hq;have jl:j<its.length:=by rw[<-rK r];exact(ab.mp hj).1
 have js:(j:Int)<2^63-1:=by
  have h1:vs.length=its.length:=rK r;have h2:sizeLine<2^62:=⋯
  omega
 have ev:=Ie (y:=y) r fs;let#[#[cls,dd,data,sl],ho,hc,n,hd]:=pl.isList;simp only at hc hd;subst hc hd;refine u6 xw #[_,ho,rfl] PySem.F.entry_list_index (PySem.F.args_list_index_2 _ _)
  (SeqAt.list_indexAt p its.toArray n dd sl u (wu y) j (by simpa using jl) js ?_ ?_) #[ho,λw hw=>lC ru fy r fs w (by simpa using hw),#[.int j,H,I.tok _,#[_,rfl],q]]
 .let#[z',h1,h2]:=ev j jl
  rw[hj] at h1;cases h1;show wu y its[j]=true;rw[h2];erw[ez]
 .intro m hm lt
  have hm:m<its.length:=by simpa using hm
  let#[z',h1,h2]:=ev m hm;show wu y its[m]=false;rw[h2];erw[no m z' lt h1]
end
theorem FO{β:Type}(f:Nat->β->Sem (ForInStep β))(I:Nat->β->az->Prop)(Q:β->az->Prop)
  (turn:∀i b s,i<n->I i b s->wpAny M A (f i b) (λr s'=>match r with|.yield b'=>I (i+1) b' s'|.done b'=>Q b' s') E s)
  (fin:∀b s,I n b s->Q b s) (b:β) (h:I 0 b s):wpAny M A (forIn [:n] b f) Q E s:=by
 rw[Std.Legacy.Range.forIn_eq_forIn_range']
 dsimp[Std.Legacy.Range.size,Nat.sub_zero,Hd,Nat.div_one];rwa[wpAny_forIn_list _ (λrest b s'=>∃i,rest=List.range' i (n-i)/\i<=n/\I i b s') _ ?_ ?_ _ _ #[0,by simp,bX _,h]]
 .rintro x rest b s' ⟨i,hr,hi,q⟩
  have hlt:i<n:=by
   rcases uc i n with h|h
   .erw[h]
   .rw[Nat.sub_eq_zero_of_le h] at hr;simp at hr
  have e:n-i=(n-(i+1))+1:=∅
  rw[e,List.range'_succ] at hr;injection hr with h1 h2
  subst h1;rwa[bY (turn x b s' hlt q) (λr s2 hr=>?_) λ_ _ h'=>h']
  cases r with
  |done b'=>erw[hr]
  |yield b'=>exact#[x+1,h2,hlt,hr]
 .rintro b s' ⟨i,hr,hi,q⟩
  have:n-i=0:=by have:=congrArg cA hr;simpa using this.symm
  have e:i=n:=∅
  subst e;erw[fin _ _ q]
theorem wV(l:Addr)(items:Array Value)(n:Nat)(dd:Option Addr)(sl:Array (Option Value))(x:Value)(e:Value->Bool)(j:Nat)(hj:j<items.size)(hit:e items[j]=true)(hno:∀m (hm:m<items.size),m<j->e items[m]=false):
  Meets (Builtin.«tuple.index» #[[.ref l,x],[]])
   (λA R s=>s.heap.get? l=some {cls:=.type "tuple",dict:=dd,data:=.seq items n,slots:=sl}/\(∀y,y∈items->qZ A.in1 s y x (e y))/\R (.ok (.ret (.int j s.toks))) {s with toks:=s.toks+1}):=
 .of_wp λprog w A R s h=>by
  let#[hp,g,d,tk,os]:=s;let#[hl,he,h]:=h;have f2:=AutoSeq1.sub_tuple_tuple
  wp_walk using wpAny_loadPart' hl,FO _ (λi b s'=>b.1=none/\s'=#[hp,g,d,tk,os]/\i<=j) _
  case turn=>
   rintro i b s' hi ⟨hb,rfl,ij⟩;have hi:i<items.size:=by simpa using hi
   rw[eU hi]
   rwa[ae (he _ (Array.getElem_mem hi) prog w _ _ ?_)];by_cases z:i=j
   .subst z
    rw[hit]
    wp_walk
    exact#[_,rfl,h]
   .rw[hno i hi ∅]
    wp_walk
    exact#[rfl,rfl,∅]
  case fin=>
   rintro b s' ⟨hb,rfl,ij⟩;erw[absurd ij (by simp;omega)]
  exact#[rfl,rfl,bX _]
section
variable{X:Cx}
def Uv(K:Frag):V->List V->Hp->VK->Prop:=λx xs H Q=>∃p y vs j z,x=.ref p/\xs=[y]/\oq K H p vs/\lB y=true/\vs.all lB=true/\vs[j]?=some z/\BZ z y=true/\(∀(i:Nat)(z':V),i<j->vs[i]?=some z'->BZ z' y=false)/\Q (.int (j:Nat)) H
theorem Eb:yP X "tuple.index" (Uv X.K):=by
 intro pZ s σ H x xs v us Q I rx rs h;let#[p,y,vs,j,z,rfl,rfl,hq,fy,fs,hj,ez,no,q]:=h;cases rx;let#[u,rfl,ru]:=rs.one;let#[its,r,pl,hz]:=I.tuple hq;have jl:j<its.length:=by rw[<-rK r];exact(ab.mp hj).1
 have ev:=Ie (y:=y) r fs;let#[#[cls,dd,data,sl],ho,hc,n,hd]:=id pl;simp only at hc hd;subst hc hd;refine u6 wF #[_,ho,rfl] PySem.F.entry_tuple_index (PySem.F.args_tuple_index_2 _ _)
  (wV p its.toArray n dd sl u (wu y) j (by simpa using jl) ?_ ?_) #[ho,λw hw=>lC ru fy r fs w (by simpa using hw),#[.int j,H,I.tok _,#[_,rfl],q]]
 .let#[z',h1,h2]:=ev j jl
  rw[hj] at h1;cases h1;show wu y its[j]=true;rw[h2];erw[ez]
 .intro m hm lt
  have hm:m<its.length:=by simpa using hm
  let#[z',h1,h2]:=ev m hm;show wu y its[m]=false;rw[h2];erw[no m z' lt h1]
end
end L2
namespace PL
section
variable{S:bF}{Q:KU}{q:Bool->Prop}{r:U->Prop}{i j:Int}{a b:List Nat}{x y:U}{us vs:List U}{m n:Nat}
theorem PC:kU .add (.int i) (.int j) S Q=Q (.int (i+j)) S:=rfl
theorem Ig:kU .add (.str a) (.str b) S Q=(a.length+b.length<=1000000/\Q (.str (a++b)) S):=rfl
theorem Yc:kU .add (.tup us) (.tup vs) S Q=((us≠[]/\us.length+vs.length<=1000000)/\Q (.tup (us++vs)) S):=rfl
theorem Yd:kU .add (.loc m) (.loc n) S Q=getL S[m]? λa=>getL S[n]? λb=>a.length+b.length<=1000000/\Q (.loc S.length) (S++[.lst (a++b)]):=rfl
theorem PD:kU .sub (.int i) (.int j) S Q=Q (.int (i-j)) S:=rfl
theorem Ye:kU .mul (.int i) (.int j) S Q=(((-(2^64)<i/\i<2^64)\/(-(2^64)<j/\j<2^64))/\Q (.int (i*j)) S):=rfl
theorem W8:kU .fdiv (.int i) (.int j) S Q=((0<j/\j<1073741824)/\Q (.int (i/j)) S):=rfl
theorem Yf:kU .mod (.int i) (.int j) S Q=(0<j/\Q (.int (i%j)) S):=rfl
theorem L6:kU .band (.int i) (.int j) S Q=((0<=i/\0<=j)/\Q (.int ((i.toNat&&&j.toNat:Nat):Int)) S):=rfl
theorem PF:kU .bor (.int i) (.int j) S Q=((0<=i/\0<=j)/\Q (.int ((i.toNat|||j.toNat:Nat):Int)) S):=rfl
theorem PH:kU .shl (.int i) (.int j) S Q=((0<=i/\i<1000/\0<=j/\j<=1000)/\Q (.int (i*2^j.toNat)) S):=rfl
theorem PJ:kU .shr (.int i) (.int j) S Q=((0<=i/\0<=j)/\Q (.int (i/2^j.toNat)) S):=rfl
theorem ZR:wR o (.int i) y S Q=kU o (.int i) y S Q:=rfl
theorem ZS:wR o (.str a) y S Q=kU o (.str a) y S Q:=rfl
theorem ZT:jD .eq (.int i) y S q=wQ (.int i) y q:=rfl
theorem NZ:jD .eq (.str a) y S q=wQ (.str a) y q:=rfl
theorem ZU:jD .eq .bQ y S q=wQ .bQ y q:=rfl
theorem ZV:jD .eq (.tup us) y S q=wQ (.tup us) y q:=rfl
theorem ZW:jD .ne (.int i) y S q=(CN (.int i) y=true/\wQ (.int i) y λb=>q !b):=rfl
theorem ZX:jD .ne (.str a) y S q=(CN (.str a) y=true/\wQ (.str a) y λb=>q !b):=rfl
theorem ZY:jD .ne .bQ y S q=(CN .bQ y=true/\wQ .bQ y λb=>q !b):=rfl
theorem ZZ:jD .ne (.tup us) y S q=W6 (.tup us) y q:=rfl
theorem aa5:(CN (.int i) y=true)=True:=eq_true rfl
theorem aa6:(CN (.str a) y=true)=True:=eq_true rfl
theorem aa7:(CN .bQ y=true)=True:=eq_true rfl
theorem aa8:jD .lt (.int i) (.int j) S q=q (decide (i<j)):=rfl
theorem aa9:jD .le (.int i) (.int j) S q=q (decide (i<=j)):=rfl
theorem aba:jD .gt (.int i) (.int j) S q=q (decide (j<i)):=rfl
theorem abb:jD .ge (.int i) (.int j) S q=q (decide (j<=i)):=rfl
theorem PK:∀{b:List Nat},i6 [c] b=b.contains c
 |[]=>rfl
 |x::xs=>by
  rw[i6,PK (b:=xs),List.contains_cons]
  simp[List.isPrefixOf]
theorem L7:jD .isin (.str [k]) (.str b) S q=q (b.contains k):=by
 rw[<-PK];rfl
theorem L8:jD .md (.str [k]) (.str b) S q=q !(b.contains k):=by
 rw[<-PK];rfl
theorem A4:jD .isin (.str a) (.tab kvs) S q=q (kvs.lookup a).isSome:=rfl
theorem PM:jD .isin x (.tup us) S q=qH x us q:=rfl
theorem PN:jD .md x (.tup us) S q=qH x us λb=>q !b:=rfl
theorem PQ:jD .isin x (.loc n) S q=getL S[n]? λus=>qH x us q:=rfl
theorem Yg:jD .md (.str a) (.loc n) S q=getL S[n]? λus=>qH (.str a) us λb=>q !b:=rfl
theorem Yh:jD .LU x .bQ S q=q (mW x):=rfl
theorem PU:jD .wM x .bQ S q=q (!mW x):=rfl
theorem ew(h1:HY x y=true)(h2:FC x=true)(h3:FC y=true)(h4:dep x<=100)(h:rG x y=v):wQ x y q=q v:=by
 rw[<-h];erw[propext #[λz=>z.2,λz=>#[#[h1,h2,h3,h4],z]]]
theorem abc:wQ (.int i) (.int j) q=q (i==j):=ew rfl rfl rfl (bX _) rfl
theorem Uw:wQ (.str a) (.str b) q=q (a==b):=ew rfl rfl rfl (bX _) rfl
theorem abd:wQ .bQ .bQ q=q true:=ew rfl rfl rfl (bX _) rfl
theorem Ux{a b:Bool}:wQ (.bl a) (.bl b) q=q (a==b):=ew rfl rfl rfl (bX _) rfl
theorem abe:wQ (.int i) .bQ q=q false:=ew rfl rfl rfl (bX _) rfl
theorem abf:wQ .bQ (.int i) q=q false:=ew rfl rfl rfl (bX _) rfl
theorem abg:wQ (.int i) (.str a) q=q false:=ew rfl rfl rfl (bX _) rfl
theorem abh:wQ (.str a) (.int i) q=q false:=ew rfl rfl rfl (bX _) rfl
theorem Uy(l:List (List Nat)):(l.map U.str).all flat=true:=by simp[flat]
theorem anyS{l:List (List Nat)}:qH (.str a) (l.map .str) q=q (l.any (·==a)):=by
 rwa[propext #[λz=>?_,λz=>#[#[rfl,Uy l],?_]]]
 .have:=z.2;rw[tK] at this;erw[this]
 .rw[tK];erw[z]
theorem Uz:KH (.str a) (.int i) S r=(a.length<=1000000/\opt (qp a i) λc=>r (.str [c])):=rfl
theorem N0:KH (.tup us) (.int i) S r=(us.length<=1000000/\opt (qp us i) r):=rfl
theorem Z3:KH (.sF ns) (.int i) S r=(ns.length<=1000000/\opt (qp ns i) λn=>r (.int n)):=rfl
theorem Z4:KH (.loc n) (.int i) S r=getL S[n]? λus=>opt (qp us i) r:=rfl
theorem yY:KH (.tab kvs) (.str a) S r=opt (kvs.lookup a) λv=>r (.str v):=rfl
theorem fO{f:String}:lF (.loc n) f S r=oC S[n]? λ_ fs=>opt (fs.lookup f) r:=rfl
theorem Z5:oE S (.str a)=some a.length:=rfl
theorem Z6:oE S (.tup us)=some us.length:=rfl
theorem Z7:oE S (.sF ns)=some ns.length:=rfl
theorem mZ(h:S[n]?=some (.lst us)):oE S (.loc n)=some us.length:=by dsimp[oE,h]
theorem Z8:vz S (.bl c)=some c:=rfl
theorem Z9:vz S .bQ=some false:=rfl
theorem aaa:vz S (.int i)=some (i !=0):=rfl
theorem aab:vz S (.sF ns)=some (ns.length !=0):=rfl
theorem aac:sV .len [x] S Q=opt (oE S x) λn=>n<=1000000/\Q (.int n) S:=rfl
theorem W9:sV .tuple [.loc n] S Q=getL S[n]? λus=>Q (.tup us) S:=rfl
theorem Yi:sV .list [.loc n] S Q=getL S[n]? λus=>Q (.loc S.length) (S++[.lst us]):=rfl
theorem Xa:sV .list [.tup us] S Q=(us.length<=1000000/\Q (.loc S.length) (S++[.lst us])):=rfl
theorem aad:sV .all [.loc n] S Q=(∃bs:List Bool,S[n]?=some (.lst (bs.map .bl))/\Q (.bl (bs.all id)) S):=rfl
theorem aae:sV .any [.loc n] S Q=(∃bs:List Bool,S[n]?=some (.lst (bs.map .bl))/\Q (.bl (bs.any id)) S):=rfl
theorem Yj:sV .dict [.loc n] S Q=(∃ps:List (List Nat×U),S[n]?=some (.lst (ps.map λp=>.tup [.str p.1,p.2]))/\(ps.map (·.1)).Nodup/\Q (.loc S.length) (S++[.dH (ps.map λp=>(.str p.1,p.2))])):=rfl
theorem Yk:qg .nI (.int i) [] S Q=(0<=i/\Q (.int (tV i.toNat:Nat)) S):=rfl
theorem aaf:qg .get (.loc n) [.str a,x] S Q=getD S[n]? λkvs=>∃ps:List (List Nat×U),kvs=(ps.map λp=>(U.str p.1,p.2))/\Q ((ps.lookup a).getD x) S:=rfl
theorem Xb:rJ .nI (.int i) S=True:=rfl
theorem Yl:rJ .get (.loc n) S=i9 S[n]? λ_=>True:=rfl
theorem Ym:qg .get (.loc n) [.str a] S Q=i9 S[n]? λkvs=>mI (.str a)=true/\Q ((tU (.str a) kvs).getD .bQ) S:=rfl
theorem aag:Px (.loc n) y S r=i9 S[n]? λkvs=>mI y=true/\opt (tU y kvs) r:=rfl
theorem Yn:jD .CM x (.loc n) S q=i9 S[n]? λkvs=>mI x=true/\q (tU x kvs).isNone:=rfl
theorem Yo:qg .nJ (.loc n) [x,y] S Q=o7 S n x y Q:=rfl
theorem DY:rJ .join (.str a) S=True:=rfl
theorem AU:rJ .index (.str a) S=True:=rfl
theorem xP:rJ .startswith (.str a) S=True:=rfl
theorem sO:rJ .append (.loc n) S=getL S[n]? λ_=>True:=rfl
theorem Ea:rJ .wN (.loc n) S=getL S[n]? λ_=>True:=rfl
theorem Eb:rJ .wO (.tup us) S=True:=rfl
theorem Yp:qg .wO (.tup us) [x] S Q=((flat x=true/\us.all flat=true)/\∃j z,us[j]?=some z/\rG z x=true/\(∀(i:Nat)(z':U),i<j->us[i]?=some z'->rG z' x=false)/\Q (.int (j:Nat)) S):=rfl
theorem Yq:qg .wN (.loc n) [x] S Q=getL S[n]? λus=>(flat x=true/\us.all flat=true)/\∃j z,us[j]?=some z/\rG z x=true/\(∀(i:Nat)(z':U),i<j->us[i]?=some z'->rG z' x=false)/\Q (.int (j:Nat)) S:=rfl
theorem xJ:rJ .extend (.loc n) S=getL S[n]? λ_=>True:=rfl
theorem Yr:qg .join (.str a) [.loc n] S Q=(∃ts:List (List Nat),S[n]?=some (.lst (ts.map .str))/\(ts.map cA).sum+ts.length*a.length<=1000000/\Q (.str (me a ts)) S):=rfl
theorem Xc:qg .index (.str a) [.str b] S Q=(∃c,b=[c]/\c∈a/\Q (.int (a.idxOf c:Nat)) S):=rfl
theorem UA:qg .startswith (.str a) [.str b] S Q=Q (.bl (b.isPrefixOf a)) S:=rfl
theorem UB:qg .append (.loc n) [x] S Q=getL S[n]? λus=>us.length<1000000/\Q .bQ (S.set n (.lst (us++[x]))):=rfl
theorem UC:qg .extend (.loc n) [.loc m] S Q=getL S[n]? λus=>getL S[m]? λws=>us.length+ws.length<=1000000/\Q .bQ (S.set n (.lst (us++ws))):=rfl
theorem v_s:H0 (.str a) S R=R (a.map λc=>.str [c]) (λ_=>True):=rfl
theorem v_t:H0 (.tup us) S R=(us.length<=1000000/\R us (λ_=>True)):=rfl
theorem v_l:H0 (.loc n) S R=getL S[n]? λus=>R us (λS'=>S'[n]?=some (.lst us)):=rfl
theorem bind_f:qr false x caps k=k (some x::caps):=rfl
theorem Ys:qr true x caps k=NW x λa b=>k (some a::some b::caps):=rfl
theorem ju{α:Type}{xs:List α}{k:Nat}:qp xs (k:Int)=xs[k]?:=by
 unfold qp LY;rw[if_pos ∅]
 split
 .simp
 .rename_i h
  rw[cH ∅]
  rfl
theorem uj{α:Type}{x:α}{xs:List α}:qp (x::xs) 0=some x:=by
 have:=ju (xs:=x::xs) (k:=0);simpa using this
theorem uk{α:Type}{x y:α}{xs:List α}:qp (x::y::xs) 1=some y:=by
 have:=ju (xs:=x::y::xs) (k:=1);simpa using this
end
theorem vC{α:Type}{o:Option α}{Q Q':α->Prop}(h:∀a,Q a->Q' a)(w:opt o Q):opt o Q':=by
 cases o with
 |none=>erw[w]
 |some a=>erw[h a w]
theorem sX{o:Option SO}{Q Q':List U->Prop}(h:∀a,Q a->Q' a)(w:getL o Q):getL o Q':=by
 let#[a,e,z]:=cV.mp w;erw[cV.mpr #[a,e,h a z]]
theorem A5(h:∀b,Q b->Q' b)(w:wQ x y Q):wQ x y Q':=#[w.1,h _ w.2]
theorem pJ(h:∀b,Q b->Q' b)(w:qH x us Q):qH x us Q':=#[w.1,h _ w.2]
theorem rL{x:U}{Q Q':Int->Prop}(h:∀b,Q b->Q' b)(w:mH x Q):mH x Q':=by
 cases x<;>first|exact h _ w|exact w
theorem vD{x:U}{Q Q':List Nat->Prop}(h:∀b,Q b->Q' b)(w:NY x Q):NY x Q':=by
 cases x<;>first|exact h _ w|exact w
theorem A6(h:Q->Q')(w:W5 x Q):W5 x Q':=by
 cases x<;>first|exact h w|exact w
theorem Ih(h:∀b,Q b->Q' b)(w:W6 x y Q):W6 x y Q':=#[w.1,A5 (λb z=>h _ z) w.2]
theorem Ii(h:∀b,Q b->Q' b)(w:uC x Q):uC x Q':=by
 cases x<;>first|exact h _ w|exact w
theorem CY(h:∀a,Q a->Q' a)(w:i9 o Q):i9 o Q':=by
 let#[a,e,z]:=ja.mp w;erw[ja.mpr #[a,e,h a z]]
theorem xR(h:∀b,Q b->Q' b)(w:jD o x y S Q):jD o x y S Q':=by
 cases o with
 |eq=>erw[A5 h w]
 |ne=>erw[Ih h w]
 |isin=>cases y<;>first|exact vD (λ_ z=>h _ z) w|exact pJ h w|exact sX (λ_ z=>pJ h z) w|exact w
 |md=>cases y<;>first|exact vD (λ_ z=>h _ z) w|exact pJ (λb z=>h _ z) w|exact sX (λ_ z=>pJ (λb z=>h _ z) z) w|exact w
 |LU=>erw[A6 (h _) w]
 |wM=>erw[A6 (h _) w]
 |CM=>erw[Ii (λ_ z=>CY (λ_ z=>#[z.1,h _ z.2]) z) w]
 |_=>erw[rL (λ_ z=>rL (λ_ z=>h _ z) z) w]
theorem Ij{x y:U}{S:bF}{Q Q':U->Prop}(h:∀b,Q b->Q' b)(w:KH x y S Q):KH x y S Q':=by
 cases x<;>first|exact rL (λ_ z=>#[z.1,vC (λ_ z=>h _ z) z.2]) w|exact rL (λ_ z=>sX (λ_ z=>vC (λ_ z=>h _ z) z) z) w|exact vD (λ_ z=>vC (λ_ z=>h _ z) z) w|exact w
def Keeps(Γ:cf)(b:dj)(k:Nat)(sp:Spec):Prop:=∀us S Q E,sp us S Q E->ui Γ b #[λ_ S1=>Q .bQ S1,Q,λ_=>E] (us.map some++qm k none) S
section
variable{Γ:cf}{D:Ends}{env:Env}{S:bF}{i:Nat}{e o:Ex}{c:Tx}{a b ss:dj}{s:Sm}{f:String}
def Rest(Γ:cf)(ss:dj)(D:Ends)(env:Env)(S:bF):Prop:=ui Γ ss D env S
theorem Rest.go(h:ui Γ ss D env S):Rest Γ ss D env S:=h
theorem aai:ui Γ .nil D env S=D.nx env S:=rfl
theorem Yt:ui Γ (.cons s ss) D env S=WS Γ s #[λen S1=>ui Γ ss D en S1,D.rt,D.ex] env S:=rfl
theorem aaj:WS Γ (.ifs c a b) D env S=WT Γ c env S (λt S1=>if t=true then ui Γ a D env S1 else ui Γ b D env S1) (D.ex env):=rfl
theorem aak:WS Γ (.B3 c b) D env S=∃n,zc (λen S1 k=>WT Γ c en S1 k (D.ex en)) (λen S1 k=>ui Γ b #[k,D.rt,D.ex] en S1) D.nx n env S:=rfl
theorem aal:WS Γ (.Sx a) D env S=ui Γ a #[D.nx,D.rt,λ_ _ _=>False] env S:=rfl
variable{Q:KU}{E:KX}{e1 e2:Ex}{es ks:yZ}{P:List U->bF->Prop}{B:Bool->bF->Prop}{q m:String}{t1 t2:Tx}{O:Option Int->bF->Prop}{R:List U->(bF->Prop)->bF->Prop}
theorem w_var:WE Γ (.var i) env S Q E=za env[i]? λu=>Q u S:=rfl
theorem w_lit:WE Γ (.lit u) env S Q E=Q u S:=rfl
theorem aam{o:GO}:WE Γ (.bin o e1 e2) env S Q E=WE Γ e1 env S (λx S1=>WE Γ e2 env S1 (λy S2=>kU o x y S2 Q) E) E:=rfl
theorem aan:WE Γ (.neg e1) env S Q E=WE Γ e1 env S (λx S1=>mH x λi=>Q (.int (-i)) S1) E:=rfl
theorem w_not:WE Γ (.not e1) env S Q E=WE Γ e1 env S (λx S1=>NV x λb=>Q (.bl !b) S1) E:=rfl
theorem w_and:WE Γ (.and e1 e2) env S Q E=WE Γ e1 env S (λx S1=>NV x λc=>if c=true then WE Γ e2 env S1 Q E else Q (.bl false) S1) E:=rfl
theorem w_or:WE Γ (.or e1 e2) env S Q E=WE Γ e1 env S (λx S1=>NV x λc=>if c=true then Q (.bl true) S1 else WE Γ e2 env S1 Q E) E:=rfl
theorem aao{o:NU}:WE Γ (.cmp o e1 e2) env S Q E=WE Γ e1 env S (λx S1=>WE Γ e2 env S1 (λy S2=>jD o x y S2 λr=>Q (.bl r) S2) E) E:=rfl
theorem aap:WE Γ (.GQ c e1 e2) env S Q E=WT Γ c env S (λt S1=>if t=true then WE Γ e1 env S1 Q E else WE Γ e2 env S1 Q E) E:=rfl
theorem Yu:WE Γ (.call f es) env S Q E=wU Γ es env S (λus S1=>Γ f us S1 Q E) E:=rfl
theorem w_mk:WE Γ (.mk f q es) env S Q E=wU Γ es env S (λus S1=>Γ q (.loc S1.length::us) (S1++[.ins f []]) (λv S2=>v=.bQ/\Q (.loc S1.length) S2) E) E:=rfl
theorem Yv:WE Γ (.cG f m q o es) env S Q E=WE Γ o env S (λx S1=>uC x λn=>oC S1[n]? λc' fs=>(c'=f/\fs.lookup m=none)/\wU Γ es env S1 (λus S2=>Γ q (x::us) S2 Q E) E) E:=rfl
theorem aaq{b:Up}:WE Γ (.blt b es) env S Q E=wU Γ es env S (λus S1=>sV b us S1 Q) E:=rfl
theorem aar{b:LV}:WE Γ (.jq b o es) env S Q E=WE Γ o env S (λx S1=>rJ b x S1/\wU Γ es env S1 (λus S2=>qg b x us S2 Q) E) E:=rfl
theorem w_fld:WE Γ (.fld o f) env S Q E=WE Γ o env S (λx S1=>lF x f S1 λv=>Q v S1) E:=rfl
theorem abi:WE Γ (.ix e1 e2) env S Q E=WE Γ e1 env S (λx S1=>WE Γ e2 env S1 (λy S2=>KH x y S2 λv=>Q v S2) E) E:=rfl
theorem abj:WE Γ (.sl o lo hi) env S Q E=WE Γ o env S (λx S1=>WO Γ lo env S1 (λl S2=>WO Γ hi env S2 (λh S3=>Sy x l h S3 Q) E) E) E:=rfl
theorem aas:WE Γ (.tup es) env S Q E=wU Γ es env S (λus S1=>us.length<=1000000/\Q (.tup us) S1) E:=rfl
theorem aat:WE Γ (.lst es) env S Q E=wU Γ es env S (λus S1=>us.length<=1000000/\Q (.loc S1.length) (S1++[.lst us])) E:=rfl
theorem Yw:WE Γ (.comp pr e it c ci) env S Q E=WI Γ it env S (λus g S1=>ow g (λu S2 k=>qr pr u (mY env ci) λen=>WT Γ c en S2 k λ_ _=>False)
   (λu S2 k=>qr pr u (mY env ci) λen=>WE Γ e en S2 k λ_ _=>False) (λacc S3=>Q (.loc S3.length) (S3++[.lst acc])) us [] S1) E:=rfl
theorem UD:wU Γ .nil env S P E=P [] S:=rfl
theorem PV:wU Γ (.cons e es) env S P E=WE Γ e env S (λx S1=>wU Γ es env S1 (λxs S2=>P (x::xs) S2) E) E:=rfl
theorem abk:WO Γ .no env S O E=O none S:=rfl
theorem abl:WO Γ (.e e1) env S O E=WE Γ e1 env S (λx S1=>mH x λj=>O (some j) S1) E:=rfl
theorem N1:WI Γ (.val e) env S R E=WE Γ e env S (λx S1=>H0 x S1 λus g=>R us g S1) E:=rfl
theorem aau:WI Γ (.range e) env S R E=WE Γ e env S (λx S1=>mH x λn=>n<=1000000/\-(1000000:Int)<=n/\R ((bO n.toNat).map λk=>.int (k:Nat)) (λ_=>True) S1) E:=rfl
theorem Yx:WI Γ (.enum e) env S R E=WE Γ e env S (λx S1=>uC x λn=>getL S1[n]? λus=>R (us.mapIdx λi u=>.tup [.int (i:Nat),u]) (λS'=>S'[n]?=some (.lst us)) S1) E:=rfl
theorem aav:WT Γ (.dk e) env S B E=WE Γ e env S (λx S1=>opt (vz S1 x) λb=>B b S1) E:=rfl
theorem Yy:WT Γ (.not t1) env S B E=WT Γ t1 env S (λb S1=>B (!b) S1) E:=rfl
theorem Yz:WT Γ (.and t1 t2) env S B E=WT Γ t1 env S (λc S1=>if c=true then WT Γ t2 env S1 B E else B false S1) E:=rfl
theorem aaw:WT Γ (.or t1 t2) env S B E=WT Γ t1 env S (λc S1=>if c=true then B true S1 else WT Γ t2 env S1 B E) E:=rfl
theorem o9:ui Γ (.cons s ss) D env S=WS Γ s #[λen S1=>Rest Γ ss D en S1,D.rt,D.ex] env S:=rfl
theorem xS:ui Γ .nil D env S=D.nx env S:=rfl
theorem A7:WS Γ (.set i e) D env S=WE Γ e env S (λu S1=>D.nx (env.set i (some u)) S1) (D.ex env):=rfl
theorem aax:WS Γ (.aug i p e) D env S=za env[i]? λx=>WE Γ e env S (λy S1=>wR p x y S1 λz S2=>D.nx (env.set i (some z)) S2) (D.ex env):=rfl
theorem abm:WS Γ (.ex e) D env S=WE Γ e env S (λ_ S1=>D.nx env S1) (D.ex env):=rfl
theorem aay:WS Γ (.ret e) D env S=WE Γ e env S D.rt (D.ex env):=rfl
theorem aaz:WS Γ (.ifs c a b) D env S=WT Γ c env S (λt S1=>if t=true then Rest Γ a D env S1 else Rest Γ b D env S1) (D.ex env):=rfl
theorem UE:WS Γ (.B3 c b) D env S=∃n,zc (λen S1 k=>WT Γ c en S1 k (D.ex en)) (λen S1 k=>Rest Γ b #[k,D.rt,D.ex] en S1) D.nx n env S:=rfl
theorem N2:WS Γ (.jQ (.name i) it b) D env S=WI Γ it env S (λus g S1=>vA g (λu en S2 k=>Rest Γ b #[k,D.rt,D.ex] (en.set i (some u)) S2) D.nx us env S1) (D.ex env):=rfl
theorem aaA:WS Γ (.Sx a) D env S=Rest Γ a #[D.nx,D.rt,λ_ _ _=>False] env S:=rfl
theorem YA:WS Γ (.kA o f e) D env S=WE Γ e env S (λu S1=>WE Γ o env S1 (λx S2=>uC x λn=>oC S2[n]? λc fs=>fs.length<100/\D.nx env (S2.set n (.ins c (fS f u fs)))) (D.ex env)) (D.ex env):=rfl
theorem YB:WS Γ (.AV o f p e) D env S=WE Γ o env S (λx S1=>uC x λn=>oC S1[n]? λc fs=>opt (fs.lookup f) λv=>
   WE Γ e env S1 (λy S2=>wR p v y S2 λz S3=>oC S3[n]? λc' fs'=>c'=c/\fs'.length<100/\D.nx env (S3.set n (.ins c (fS f z fs')))) (D.ex env)) (D.ex env):=rfl
theorem YC:WS Γ (.FA o j p e) D env S=WE Γ o env S (λx S1=>WE Γ j env S1 (λy S2=>uC x λn=>mH y λk=>getL S2[n]? λus=>0<=k/\opt (us[k.toNat]?) λv=>
   WE Γ e env S2 (λz S3=>wR p v z S3 λr S4=>getL S4[n]? λus'=>k.toNat<us'.length/\D.nx env (S4.set n (.lst (us'.set k.toNat r)))) (D.ex env)) (D.ex env)) (D.ex env):=rfl
theorem aaB:WE Γ (.HV e1 e2) env S Q E=WE Γ e1 env S (λx S1=>WE Γ e2 env S1 (λy S2=>Px x y S2 λv=>Q v S2) E) E:=rfl
theorem vE:WE Γ (.dH .nil .nil) env S Q E=(0<=100/\(Q (.loc S.length) (S++[.dH []])\/Q (.loc S.length) (S++[.uh []])\/Q (.loc S.length) (S++[.wL []]))):=rfl
theorem YD:WI Γ (.keys e) env S R E=WE Γ e env S (λx S1=>uC x λn=>i9 S1[n]? λkvs=>R (kvs.map (·.1)) (λS'=>S'[n]?=some (.vx kvs)) (S1.set n (.vx kvs))) E:=rfl
theorem YE:WS Γ (.nJ o j e) D env S=WE Γ e env S (λu S1=>WE Γ o env S1 (λx S2=>WE Γ j env S2 (λy S3=>uC x λn=>getD S3[n]? λkvs=>(mI y=true/\tU y kvs=none/\kvs.length<1000000)/\D.nx env (S3.set n (.dH (kvs++[(y,u)])))) (D.ex env)) (D.ex env)) (D.ex env):=rfl
theorem aaC:WS Γ (.jQ (.pair i j) it b) D env S=WI Γ it env S (λus g S1=>vA g (λu en S2 k=>NW u λx y=>Rest Γ b #[k,D.rt,D.ex] ((en.set i (some x)).set j (some y)) S2) D.nx us env S1) (D.ex env):=rfl
theorem ca{sp:Spec}{us:List U}{Q:KU}{E:KX}(h:Γ f=sp)(k:sp us S Q E):Γ f us S Q E:=by rw[h];erw[k]
end
noncomputable abbrev SG:List Nat:=[10,32,33,34,35,36,38,39,40,41,42,43,44,45,46,47,48,49,50,51,52,53,54,55,56,57,58,59,60,61,62,63,64,65,66,67,68,69,70,71,72,73,74,75,76,77,78,79,80,81,82,83,84,85,86,87,88,89,90,91,92,93,94,95,96,97,98,99,100,101,102,103,104,105,106,107,108,109,110,111,112,113,114,115,116,117,118,119,120,121,122,123,124,125,126]
noncomputable abbrev SG1:List Nat:=[32,33,34,35,36,38,39,40,41,42,43,44,45,46,47,48,49,50,51,52,53,54,55,56,57,58,59,60,61,62,63,64,65,66,67,68,69,70,71,72,73,74,75,76,77,78,79,80,81,82,83,84,85,86,87,88,89,90,91,92,93,94,95,96,97,98,99,100,101,102,103,104,105,106,107,108,109,110,111,112,113,114,115,116,117,118,119,120,121,122,123,124,125,126]
def nK:dj:=#v[.ret (.jq .join (.lit (.str [])) #v[.comp false @0 (.val (.lit (.str SG))) (.dk (.cmp .isin @0 @1)) [0]])]
def pK:dj:=#v[.ret (.jq .join (.lit (.str [])) #v[.comp false @0 (.val (.lit (.str SG))) (.dk (.cmp .md @0 @1)) [0]])]
def nM:dj:=#v[.ret (.cmp .lt (.jq .index (.lit (.str SG)) #v[@0]) (.jq .index (.lit (.str SG)) #v[@1]))]
def pM:dj:=#v[.ret (.sl (.lit (.str SG)) (.e (.jq .index (.lit (.str SG)) #v[@0])) (.e (.bin .add (.jq .index (.lit (.str SG)) #v[@1]) ↑1)))]
noncomputable def zf:dj:=#v[.set 1 (.mk "Reader" "Reader.__init__" #v[@0]),.set 2 (.cG "Reader" "choice" "Reader.choice" @1 .nil),.ifs (.dk (.cmp .lt (.fld @1 "at") (.blt .len #v[@0]))) #v[.ex (.ix (.lit .bQ) (.lit .bQ))] .nil,.ret @2]
noncomputable def rM:dj:=#v[.ret (.GQ (.dk (.cmp .eq (.blt .len #v[@1]) ↑1)) (.ix @1 ↑0) (.tup #v[@0,.blt .tuple #v[@1]]))]
def j6:dj:=#v[.kA @0 "text" @1,.kA @0 "at" ↑0,.kA @0 "depth" ↑0]
noncomputable def j7:dj:=#v[.ret (.and (.cmp .lt (.fld @0 "at") (.blt .len #v[.fld @0 "text"])) (.cmp .isin (.ix (.fld @0 "text") (.fld @0 "at")) @1))]
noncomputable def iR:dj:=#v[.ifs (.not (.dk (.cG "Reader" "sees" "Reader.sees" @0 #v[@1]))) #v[.ex (.ix (.lit .bQ) (.lit .bQ))] .nil,.AV @0 "at" .add ↑1,.ret (.ix (.fld @0 "text") (.bin .sub (.fld @0 "at") ↑1))]
noncomputable def iS:dj:=#v[.set 1 (.lst #v[.cG "Reader" "row" "Reader.row" @0 .nil]),.B3 (.dk (.cG "Reader" "sees" "Reader.sees" @0 #v[↑[124]])) #v[.ex (.cG "Reader" "passes" "Reader.passes" @0 #v[↑[124]]),.ex (.jq .append @1 #v[.cG "Reader" "row" "Reader.row" @0 .nil])],.ret (.call "joined" #v[↑[111,114],@1])]
noncomputable def kW:dj:=#v[.set 1 (.lst #v[.cG "Reader" "repeat" "Reader.repeat" @0 .nil]),.B3 (.and (.dk (.cmp .lt (.fld @0 "at") (.blt .len #v[.fld @0 "text"]))) (.not (.dk (.cG "Reader" "sees" "Reader.sees" @0 #v[↑[124,41]])))) #v[.ex (.jq .append @1 #v[.cG "Reader" "repeat" "Reader.repeat" @0 .nil])],.ret (.call "joined" #v[↑[114,111,119],@1])]
noncomputable def iT:dj:=#v[.set 1 (.cG "Reader" "atom" "Reader.atom" @0 .nil),.B3 (.dk (.cG "Reader" "sees" "Reader.sees" @0 #v[↑[42,43,63]])) #v[.set 1 (.tup #v[.ix (.lit (.tab [([42],[115,116,97,114]),([43],[112,108,117,115]),([63],[109,97,121,98,101])])) (.cG "Reader" "passes" "Reader.passes" @0 #v[↑[42,43,63]]),@1])],.ret @1]
noncomputable def j8:dj:=#v[.ifs (.dk (.cG "Reader" "sees" "Reader.sees" @0 #v[↑[40]])) #v[.ret (.cG "Reader" "bracket" "Reader.bracket" @0 .nil)] .nil,.ifs (.dk (.cG "Reader" "sees" "Reader.sees" @0 #v[↑[91]])) #v[.ret (.tup #v[↑[111,110,101],.cG "Reader" "sign_class" "Reader.sign_class" @0 .nil])] .nil,.ifs (.dk (.cG "Reader" "sees" "Reader.sees" @0 #v[↑[46]])) #v[.ex (.cG "Reader" "passes" "Reader.passes" @0 #v[↑[46]]),.ret (.tup #v[↑[111,110,101],.call "all_but" #v[↑[10]]])] .nil,.ret (.tup #v[↑[111,110,101],.cG "Reader" "written_sign" "Reader.written_sign" @0 #v[↑[46,124,40,41,91,93,42,43,63,92]]])]
def hX:dj:=#v[.ifs (.dk (.cmp .eq (.fld @0 "depth") ↑6)) #v[.ex (.ix (.lit .bQ) (.lit .bQ))] .nil,.ex (.cG "Reader" "passes" "Reader.passes" @0 #v[↑[40]]),.AV @0 "depth" .add ↑1,.set 1 (.cG "Reader" "choice" "Reader.choice" @0 .nil),.ex (.cG "Reader" "passes" "Reader.passes" @0 #v[↑[41]]),.AV @0 "depth" .sub ↑1,.ret @1]
noncomputable def fG:dj:=#v[.ex (.cG "Reader" "passes" "Reader.passes" @0 #v[↑[91]]),.set 1 (.cG "Reader" "sees" "Reader.sees" @0 #v[↑[94]]),.ifs (.dk @1) #v[.ex (.cG "Reader" "passes" "Reader.passes" @0 #v[↑[94]])] .nil,.set 2 (.cG "Reader" "item" "Reader.item" @0 .nil),.B3 (.not (.dk (.cG "Reader" "sees" "Reader.sees" @0 #v[↑[93]]))) #v[.aug 2 .add (.cG "Reader" "item" "Reader.item" @0 .nil)],.ex (.cG "Reader" "passes" "Reader.passes" @0 #v[↑[93]]),.ret (.GQ (.dk @1) (.call "all_but" #v[@2]) (.call "in_order" #v[@2]))]
noncomputable def j9:dj:=#v[.set 1 (.cG "Reader" "written_sign" "Reader.written_sign" @0 #v[↑[93,45,92]]),.ifs (.not (.dk (.cG "Reader" "sees" "Reader.sees" @0 #v[↑[45]]))) #v[.ret @1] .nil,.ex (.cG "Reader" "passes" "Reader.passes" @0 #v[↑[45]]),.set 2 (.fld @0 "at"),.set 3 (.cG "Reader" "written_sign" "Reader.written_sign" @0 #v[↑[93,45,92]]),.ifs (.dk (.call "is_ahead" #v[@3,@1])) #v[.ex (.ix (.lit .bQ) (.lit .bQ))] .nil,.ret (.call "stretch" #v[@1,@3])]
noncomputable def eJ:dj:=#v[.ifs (.not (.dk (.cG "Reader" "sees" "Reader.sees" @0 #v[↑[92]]))) #v[.ret (.cG "Reader" "passes" "Reader.passes" @0 #v[.call "all_but" #v[@1]])] .nil,.ex (.cG "Reader" "passes" "Reader.passes" @0 #v[↑[92]]),.set 2 (.cG "Reader" "passes" "Reader.passes" @0 #v[↑[46,124,40,41,91,93,42,43,63,92,45,94,110]]),.ret (.GQ (.dk (.cmp .eq @2 ↑[110])) ↑[10] @2)]
noncomputable def pN:dj:=#v[.ifs (.dk (.cmp .eq (.ix @0 ↑0) ↑[111,114])) #v[.ret (.jq .join ↑[124] #v[.comp false (.call "row_text" #v[@0]) (.val (.ix @0 ↑1)) (.dk (.lit (.bl true))) []])] .nil,.ret (.call "row_text" #v[@0])]
noncomputable def nN:dj:=#v[.ifs (.dk (.cmp .eq (.ix @0 ↑0) ↑[114,111,119])) #v[.ret (.jq .join (.lit (.str [])) #v[.comp false (.call "repeat_text" #v[@0]) (.val (.ix @0 ↑1)) (.dk (.lit (.bl true))) []])] .nil,.ret (.call "repeat_text" #v[@0])]
noncomputable def kc:dj:=#v[.set 1 (.lit (.str [])),.set 2 @0,.B3 (.dk (.cmp .isin (.ix @2 ↑0) (.lit (.tab [([115,116,97,114],[42]),([112,108,117,115],[43]),([109,97,121,98,101],[63])])))) #v[.set 1 (.bin .add (.ix (.lit (.tab [([115,116,97,114],[42]),([112,108,117,115],[43]),([109,97,121,98,101],[63])])) (.ix @2 ↑0)) @1),.set 2 (.ix @2 ↑1)],.ret (.bin .add (.call "atom_text" #v[@2]) @1)]
noncomputable def mf:dj:=#v[.ifs (.dk (.cmp .eq (.ix @0 ↑0) ↑[111,110,101])) #v[.ret (.call "place_text" #v[.ix @0 ↑1])] .nil,.ret (.bin .add (.bin .add ↑[40] (.call "written" #v[@0])) ↑[41])]
noncomputable def kX:dj:=#v[.ifs (.dk (.cmp .eq (.blt .len #v[@0]) ↑1)) #v[.ret (.call "sign_text" #v[@0,↑[46,124,40,41,91,93,42,43,63,92]])] .nil,.ifs (.dk (.cmp .eq @0 (.call "all_but" #v[↑[10]]))) #v[.ret ↑[46]] .nil,.ret (.blt .vy #v[.call "class_texts" #v[@0]])]
noncomputable def mh:dj:=#v[.ret (.GQ (.dk (.cmp .isin @0 @1)) (.bin .add ↑[92] @0) @0)]
def ke:dj:=#v[.set 1 (.lst .nil),.ifs (.dk (.cmp .ne @0 (.lit (.str [])))) #v[.ex (.jq .append @1 #v[.bin .add (.bin .add ↑[91] (.call "guarded" #v[.call "class_items" #v[@0]])) ↑[93]])] .nil,.ifs (.dk (.cmp .ne @0 (.lit (.str SG)))) #v[.ex (.jq .append @1 #v[.bin .add (.bin .add ↑[91,94] (.jq .join (.lit (.str [])) #v[.call "class_items" #v[.call "all_but" #v[@0]]])) ↑[93]])] .nil,.ret @1]
noncomputable def pO:dj:=#v[.ifs (.not (.dk (.jq .startswith (.ix @0 ↑0) #v[↑[94]]))) #v[.ret (.jq .join (.lit (.str [])) #v[@0])] .nil,.ifs (.dk (.cmp .eq (.blt .len #v[@0]) ↑1)) #v[.ret (.bin .add ↑[92] (.ix @0 ↑0))] .nil,.ret (.bin .add (.jq .join (.lit (.str [])) #v[.sl @0 (.e ↑1) .no]) (.ix @0 ↑0))]
noncomputable def kf:dj:=#v[.set 1 (.lst .nil),.jQ (.name 2) (.val (.call "runs" #v[@0])) #v[.ex (.jq .extend @1 #v[.call "run_items" #v[@2]])],.ret @1]
def zg:dj:=#v[.set 1 (.lst .nil),.set 2 (.lit (.str [])),.jQ (.name 3) (.val @0) #v[.ifs (.dk (.cmp .md (.bin .add @2 @3) (.lit (.str SG)))) #v[.ex (.jq .append @1 #v[@2]),.set 2 (.lit (.str []))] .nil,.aug 2 .add @3],.ex (.jq .append @1 #v[@2]),.ret @1]
noncomputable def mi:dj:=#v[.set 1 (.comp false (.call "sign_text" #v[@0,↑[93,45,92]]) (.val @0) (.dk (.lit (.bl true))) []),.set 2 (.bin .add (.bin .add (.call "sign_text" #v[.ix @0 ↑0,↑[93,45,92]]) ↑[45]) (.call "sign_text" #v[.ix @0 (.neg ↑1),↑[93,45,92]])),.ret (.GQ (.dk (.cmp .le (.blt .len #v[.jq .join (.lit (.str [])) #v[@1]]) (.blt .len #v[@2]))) @1 (.lst #v[@2]))]
end PL
namespace PL.tW
noncomputable def mj:dj:=#v[.ifs (.dk @0) #v[.ret (.ix @0 (.bin .mod @1 (.blt .len #v[@0])))] .nil,.ret ↑0]
noncomputable def nO:dj:=#v[.set 2 (.bin .mod (.bin .add (.call "_law_cell" #v[@0,@1]) (.bin .mul ↑104729 (.bin .add @1 ↑1))) ↑4294967291),.set 2 (.bin .mod (.bin .mul @2 ↑48271) ↑4294967279),.ret (.bin .mod (.bin .add (.bin .mul (.bin .fdiv @2 ↑64) ↑69621) @2) ↑4294967231)]
def nP:dj:=#v[.set 0 (.lit (.str SG1)),.ret (.bin .add ↑[10] @0)]
end PL.tW
namespace PL.lT
noncomputable def mm:dj:=#v[.set 2 (.mk "Layout" "Layout.__init__" .nil),.jQ (.pair 3 4) (.enum (.sl @0 .no (.e ↑6))) #v[.set 5 (.cG "Layout" "lay" "Layout.lay" @2 #v[.call "tree_of" #v[@4,@3]]),.ifs (.dk (.fld @5 "empty")) #v[.ex (.ix (.lit .bQ) (.lit .bQ))] .nil,.ifs (.dk (.cmp .gt (.cG "Layout" "how_many" "Layout.how_many" @2 .nil) @1)) #v[.ex (.ix (.lit .bQ) (.lit .bQ))] .nil,.ex (.cG "Layout" "close_rule" "Layout.close_rule" @2 #v[@5])],.ifs (.dk (.cmp .gt (.blt .len #v[@0]) ↑6)) #v[.ex (.ix (.lit .bQ) (.lit .bQ))] .nil,.ret (.mk "Places" "Places.__init__" #v[@2])]
noncomputable def pP:dj:=#v[.Sx #v[.ret (.call "read" #v[@0])]]
noncomputable def pQ:dj:=#v[.ret (.comp false @0 (.range (.jq .nI @0 .nil)) (.dk (.bin .band (.bin .shr @1 @0) ↑1)) [0])]
noncomputable def mn:dj:=#v[.kA @0 "empty" @1,.kA @0 "firsts" @2,.kA @0 "lasts" @3]
noncomputable def fU:dj:=#v[.set 2 (.GQ (.dk (.fld @0 "empty")) (.bin .bor (.fld @0 "firsts") (.fld @1 "firsts")) (.fld @0 "firsts")),.set 3 (.GQ (.dk (.fld @1 "empty")) (.bin .bor (.fld @0 "lasts") (.fld @1 "lasts")) (.fld @1 "lasts")),.ret (.mk "Part" "Part.__init__" #v[.and (.fld @0 "empty") (.fld @1 "empty"),@2,@3])]
noncomputable def jv:dj:=#v[.ret (.mk "Part" "Part.__init__" #v[.or (.fld @0 "empty") (.fld @1 "empty"),.bin .bor (.fld @0 "firsts") (.fld @1 "firsts"),.bin .bor (.fld @0 "lasts") (.fld @1 "lasts")])]
noncomputable def kg:dj:=#v[.kA @0 "signs" (.lst #v[.lit (.str [])]),.kA @0 "behind" (.lst #v[↑0]),.kA @0 "ends" (.lst .nil)]
noncomputable def gD:dj:=#v[.ret (.bin .sub (.blt .len #v[.fld @0 "signs"]) ↑1)]
noncomputable def fH:dj:=#v[.FA (.fld @0 "behind") ↑0 .bor (.fld @1 "firsts"),.ex (.jq .append (.fld @0 "ends") #v[.fld @1 "lasts"])]
noncomputable def kh:dj:=#v[.jQ (.name 3) (.val (.call "members" #v[@1])) #v[.FA (.fld @0 "behind") @3 .bor @2]]
noncomputable def kY:dj:=#v[.ifs (.dk (.cmp .eq (.ix @1 ↑0) ↑[111,110,101])) #v[.ret (.cG "Layout" "lay_place" "Layout.lay_place" @0 #v[.ix @1 ↑1])] .nil,.ifs (.dk (.cmp .eq (.ix @1 ↑0) ↑[114,111,119])) #v[.ret (.cG "Layout" "lay_row" "Layout.lay_row" @0 #v[.ix @1 ↑1])] .nil,.ifs (.dk (.cmp .eq (.ix @1 ↑0) ↑[111,114])) #v[.ret (.cG "Layout" "lay_choice" "Layout.lay_choice" @0 #v[.ix @1 ↑1])] .nil,.ret (.cG "Layout" "lay_repeat" "Layout.lay_repeat" @0 #v[@1])]
noncomputable def fV:dj:=#v[.set 2 (.bin .shl ↑1 (.blt .len #v[.fld @0 "signs"])),.ex (.jq .append (.fld @0 "signs") #v[@1]),.ex (.jq .append (.fld @0 "behind") #v[↑0]),.ret (.mk "Part" "Part.__init__" #v[.lit (.bl false),@2,@2])]
noncomputable def ie:dj:=#v[.set 2 (.mk "Part" "Part.__init__" #v[.lit (.bl true),↑0,↑0]),.jQ (.name 3) (.val @1) #v[.set 4 (.cG "Layout" "lay" "Layout.lay" @0 #v[@3]),.ex (.cG "Layout" "link" "Layout.link" @0 #v[.fld @2 "lasts",.fld @4 "firsts"]),.set 2 (.call "one_behind_other" #v[@2,@4])],.ret @2]
noncomputable def fI:dj:=#v[.set 2 (.mk "Part" "Part.__init__" #v[.lit (.bl false),↑0,↑0]),.jQ (.name 3) (.val @1) #v[.set 2 (.call "one_or_other" #v[@2,.cG "Layout" "lay" "Layout.lay" @0 #v[@3]])],.ret @2]
noncomputable def fJ:dj:=#v[.set 2 (.lst .nil),.set 3 @1,.B3 (.dk (.cmp .isin (.ix @3 ↑0) (.tup #v[↑[115,116,97,114],↑[112,108,117,115],↑[109,97,121,98,101]]))) #v[.ex (.jq .append @2 #v[.ix @3 ↑0]),.set 3 (.ix @3 ↑1)],.set 4 (.cG "Layout" "lay" "Layout.lay" @0 #v[@3]),.ifs (.or (.dk (.cmp .isin ↑[115,116,97,114] @2)) (.dk (.cmp .isin ↑[112,108,117,115] @2))) #v[.ex (.cG "Layout" "link" "Layout.link" @0 #v[.fld @4 "lasts",.fld @4 "firsts"])] .nil,.set 5 (.or (.fld @4 "empty") (.or (.cmp .isin ↑[115,116,97,114] @2) (.cmp .isin ↑[109,97,121,98,101] @2))),.ret (.mk "Part" "Part.__init__" #v[@5,.fld @4 "firsts",.fld @4 "lasts"])]
noncomputable def iU:dj:=#v[.set 1 (.blt .sum #v[.comp true (.bin .shl ↑1 @0) (.enum (.fld @0 "signs")) (.dk (.cmp .ne @1 (.lit (.str [])))) []]),.set 2 ↑0,.jQ (.name 3) (.val (.fld @0 "ends")) #v[.aug 2 .bor (.bin .band @3 @1)],.set 4 ↑0,.B3 (.dk (.cmp .ne @2 @4)) #v[.set 4 @2,.jQ (.name 5) (.val (.call "members" #v[@1])) #v[.ifs (.dk (.bin .band (.ix (.fld @0 "behind") @5) @4)) #v[.aug 2 .bor (.bin .shl ↑1 @5)] .nil]],.ret @4]
noncomputable def fW:dj:=#v[.ret (.blt .sum #v[.comp true (.bin .shl ↑1 @0) (.enum (.fld @0 "signs")) (.dk (.cmp .isin @2 @1)) [1]])]
def ki:dj:=#v[.set 2 (.call "useful_places" #v[@1]),.kA @0 "behind" (.comp false (.bin .band @0 @1) (.val (.fld @1 "behind")) (.dk (.lit (.bl true))) [2]),.kA @0 "ends" (.blt .list #v[.fld @1 "ends"]),.kA @0 "takers" (.blt .dict #v[.comp false (.tup #v[@0,.call "places_that_take" #v[@1,@0]]) (.val (.lit (.str SG))) (.dk (.lit (.bl true))) [1]])]
noncomputable def iV:dj:=#v[.set 2 ↑0,.jQ (.name 3) (.val (.call "members" #v[@1])) #v[.aug 2 .bor (.ix (.fld @0 "behind") @3)],.ret @2]
noncomputable def fK:dj:=#v[.jQ (.pair 2 3) (.enum (.fld @0 "ends")) #v[.ifs (.dk (.bin .band @1 @3)) #v[.ret @2] .nil],.ret (.lit .bQ)]
noncomputable def mq:dj:=#v[.kA @0 "places" @1,.kA @0 "reach" (.cG "Places" "beyond" "Places.beyond" @1 #v[↑1]),.kA @0 "passed" ↑0,.kA @0 "found" (.lit .bQ)]
noncomputable def ig:dj:=#v[.ret (.cmp .ne (.fld @0 "reach") ↑0)]
noncomputable def kZ:dj:=#v[.B3 (.and (.dk (.cG "Walk" "may_go_on" "Walk.may_go_on" @0 .nil)) (.dk (.cmp .lt (.fld @0 "passed") (.blt .len #v[@1])))) #v[.ex (.cG "Walk" "step" "Walk.step" @0 #v[.ix @1 (.fld @0 "passed")])]]
noncomputable def mr:dj:=#v[.set 2 (.bin .band (.fld @0 "reach") (.jq .get (.fld (.fld @0 "places") "takers") #v[@1,↑0])),.kA @0 "reach" (.cG "Places" "beyond" "Places.beyond" (.fld @0 "places") #v[@2]),.AV @0 "passed" .add ↑1,.set 3 (.cG "Places" "first_rule" "Places.first_rule" (.fld @0 "places") #v[@2]),.ifs (.dk (.cmp .wM @3 (.lit .bQ))) #v[.kA @0 "found" (.tup #v[@3,.fld @0 "passed"])] .nil]
noncomputable def k5:dj:=#v[.kA @0 "places" (.call "places_of" #v[@1,↑24])]
noncomputable def kj:dj:=#v[.set 3 (.mk "Walk" "Walk.__init__" #v[.fld @0 "places"]),.ex (.cG "Walk" "along" "Walk.along" @3 #v[.sl @1 (.e @2) .no]),.ret (.fld @3 "found")]
noncomputable def jw:dj:=#v[.ifs (.dk (.cmp .eq (.ix @0 ↑0) ↑[111,110,101])) #v[.ret (.lit (.bl false))] .nil,.ifs (.dk (.cmp .eq (.ix @0 ↑0) ↑[114,111,119])) #v[.ret (.blt .all #v[.comp false (.call "_law_nothing" #v[@0]) (.val (.ix @0 ↑1)) (.dk (.lit (.bl true))) []])] .nil,.ifs (.dk (.cmp .eq (.ix @0 ↑0) ↑[111,114])) #v[.ret (.blt .any #v[.comp false (.call "_law_nothing" #v[@0]) (.val (.ix @0 ↑1)) (.dk (.lit (.bl true))) []])] .nil,.ret (.or (.cmp .isin (.ix @0 ↑0) (.tup #v[↑[115,116,97,114],↑[109,97,121,98,101]])) (.call "_law_nothing" #v[.ix @0 ↑1]))]
noncomputable def k6:dj:=#v[.set 3 (.call "_law_mix" #v[@0,@1]),.set 4 (.bin .mod @3 ↑9),.ifs (.or (.dk (.cmp .eq @2 ↑0)) (.dk (.cmp .lt @4 ↑4))) #v[.ret (.tup #v[↑[111,110,101],.ix (.lst #v[↑[97],↑[98],↑[99],↑[97,98],↑[98,99],.call "_law_all" .nil,↑[97],↑[98],↑[48],.lit (.str [])]) (.bin .mod (.bin .fdiv @3 ↑9) ↑10)])] .nil,.ifs (.dk (.cmp .lt @4 ↑7)) #v[.set 5 (.comp false (.call "_law_small" #v[@1,.bin .add (.bin .add (.bin .mul ↑2 @2) ↑1) @0,.bin .sub @3 ↑1]) (.range ↑2) (.dk (.lit (.bl true))) [0,1,2]),.ret (.tup #v[.ix (.lst #v[↑[114,111,119],↑[111,114],↑[114,111,119]]) (.bin .sub @4 ↑4),.blt .tuple #v[@5]])] .nil,.ret (.tup #v[.ix (.lst #v[↑[115,116,97,114],↑[112,108,117,115],↑[109,97,121,98,101]]) (.bin .mod (.bin .fdiv @3 ↑9) ↑3),.call "_law_small" #v[@0,.bin .add (.bin .mul ↑2 @1) ↑1,.bin .sub @2 ↑1]])]
noncomputable def k7:dj:=#v[.set 4 (.lst .nil),.jQ (.name 5) (.range @2) #v[.set 6 (.call "_law_small" #v[@0,.bin .add @1 (.bin .mul ↑9 @5),@3]),.ifs (.dk (.call "_law_nothing" #v[@6])) #v[.set 6 (.tup #v[↑[114,111,119],.tup #v[.tup #v[↑[111,110,101],.ix ↑[97,98,99] (.bin .mod @5 ↑3)],@6]])] .nil,.ex (.jq .append @4 #v[@6])],.ret @4]
noncomputable def mv:dj:=#v[.ret (.jq .join (.lit (.str [])) #v[.comp false (.ix ↑[97,97,98,98,99,48,97,10,98,97,98] (.bin .mod (.call "_law_mix" #v[@1,.bin .add @2 @0]) ↑11)) (.range @2) (.dk (.lit (.bl true))) [0,1]])]
end PL.lT
namespace PL.Ab
noncomputable def nQ:dj:=#v[.ret (.call "smallest" #v[.call "spread" #v[.call "places_of" #v[@0,↑10]]])]
noncomputable def k8:dj:=#v[.kA @0 "takes" (.blt .list #v[@1]),.kA @0 "told" (.blt .tuple #v[@1]),.kA @0 "rows" @2]
noncomputable def k9:dj:=#v[.ret (.jq .get (.ix (.fld @0 "rows") @1) #v[@2])]
noncomputable def Xd:dj:=#v[.ifs (.dk (.cmp .ne @7 ↑0)) #v[.nJ @5 @6 (.HV @2 @7)] .nil]
def YF:dj:=(.cons (.set 7 (.bin .band @4 (.HV (.fld @0 "takers") @6))) (.cons (.ifs (.and (.dk (.cmp .ne @7 ↑0)) (.dk (.cmp .CM @7 @2))) #v[.nJ @2 @7 (.blt .len #v[@1]),.ex (.jq .append @1 #v[@7])] .nil) Xd))
def YG:dj:=#v[.set 4 (.cG "Places" "beyond" "Places.beyond" @0 #v[.ix @1 (.blt .len #v[@3])]),.set 5 (.dH .nil .nil),.jQ (.name 6) (.val (.lit (.str SG))) YF,.ex (.jq .append @3 #v[@5])]
noncomputable def YH:dj:=#v[.ret (.mk "Table" "Table.__init__" #v[.comp false (.cG "Places" "first_rule" "Places.first_rule" @1 #v[@0]) (.val @1) (.dk (.lit (.bl true))) [0],@3])]
def rN:dj:=(.cons (.set 1 (.lst #v[↑1])) (.cons (.set 2 (.dH #v[↑1] #v[↑0])) (.cons (.set 3 (.lst .nil)) (.cons (.B3 (.dk (.cmp .lt (.blt .len #v[@3]) (.blt .len #v[@1]))) YG) YH))))
noncomputable def YI:Ex:=.blt .dict #v[.comp false (.tup #v[@0,.ix @1 (.HV @2 @0)]) (.keys @5) (.dk (.lit (.bl true))) [1,5]]
def YJ:dj:=#v[.ifs (.dk (.cmp .eq (.ix @1 @4) (.blt .len #v[@3]))) #v[.ex (.jq .append @2 #v[.ix (.fld @0 "told") @4]),.ex (.jq .append @3 #v[YI])] .nil]
def nU:dj:=#v[.set 1 (.ix (.call "rounds" #v[.bin .add (.fld @0 "told") (.tup #v[.lit .bQ]),.call "with_nowhere" #v[.fld @0 "rows"]]) (.neg ↑1)),.set 2 (.lst .nil),.set 3 (.lst .nil),.jQ (.pair 4 5) (.enum (.fld @0 "rows")) YJ,.ret (.mk "Table" "Table.__init__" #v[@2,@3])]
def YK:Ex:=.blt .dict #v[.comp false (.tup #v[@0,.jq .get @1 #v[@0,@2]]) (.val (.lit (.str SG))) (.dk (.lit (.bl true))) [0,1]]
def jx:dj:=#v[.set 1 (.blt .len #v[@0]),.ret (.comp false YK (.val (.bin .add @0 (.lst #v[.dH .nil .nil]))) (.dk (.lit (.bl true))) [1])]
noncomputable def rO:dj:=#v[.set 2 (.call "telling_signs" #v[@1]),.set 3 (.lst #v[.call "numbered" #v[@0]]),.B3 (.dk (.lit (.bl true))) #v[.set 4 (.call "parted" #v[.ix @3 (.neg ↑1),@1,@2]),.ifs (.dk (.cmp .eq (.blt .max #v[@4]) (.blt .max #v[.ix @3 (.neg ↑1)]))) #v[.ret @3] .nil,.ex (.jq .append @3 #v[@4])]]
noncomputable def YL:Ex:=.comp false (.ix @1 (.HV @2 @0)) (.val @2) (.dk (.lit (.bl true))) [0,5]
def rP:dj:=#v[.set 3 (.lst .nil),.jQ (.pair 4 5) (.enum @1) #v[.ex (.jq .append @3 #v[.tup #v[.ix @0 @4,.blt .tuple #v[YL]]])],.ret (.call "numbered" #v[@3])]
noncomputable def nV:dj:=#v[.set 1 (.dH .nil .nil),.ret (.comp false (.jq .nJ @1 #v[@0,.blt .len #v[@1]]) (.val @0) (.dk (.lit (.bl true))) [1])]
def iW:dj:=#v[.set 1 (.dH .nil .nil),.jQ (.name 2) (.val (.lit (.str SG))) #v[.ex (.jq .nJ @1 #v[.blt .tuple #v[.comp false (.HV @0 @1) (.val @0) (.dk (.lit (.bl true))) [2]],@2])],.ret (.jq .vals @1 .nil)]
end PL.Ab
namespace PL.GU
noncomputable def lg:dj:=#v[.ret (.blt .len #v[.fld @0 "told"])]
noncomputable def pSs:Ex:=.comp false (.call "sample" #v[@1,@2,@0]) (.range (.blt .len #v[@0])) (.dk (.lit (.bl true))) [1,2]
def pR:dj:=#v[.set 1 (.call "table_of" #v[@0]),.set 2 (.call "first_texts" #v[@1]),.ret pSs]
noncomputable def rQ:dj:=#v[.ret (.comp true @0 (.enum (.call "samples" #v[@0])) (.dk (.cmp .LU @1 (.lit .bQ))) [])]
noncomputable def rR:dj:=#v[.ifs (.dk (.cmp .md @2 (.fld @0 "told"))) #v[.ret (.lit .bQ)] .nil,.ret (.HV @1 (.jq .wO (.fld @0 "told") #v[@2]))]
noncomputable def YM:dj:=#v[.set 4 (.cG "Table" "goes" "Table.goes" @0 #v[@2,@3]),.ifs (.dk (.cmp .wM @4 (.lit .bQ))) #v[.ex (.jq .nJ @1 #v[@4,.bin .add (.HV @1 @2) @3])] .nil]
def YN:dj:=#v[.jQ (.name 3) (.val (.lit (.str SG))) YM]
def ko:dj:=#v[.set 1 (.dH #v[↑0] #v[.lit (.str [])]),.jQ (.name 2) (.range (.cG "Table" "size" "Table.size" @0 .nil)) YN,.ret @1]
noncomputable def YO:Ex:=(.bin .add @1 (.lst #v[.ix (.lst #v[.ix @1 ↑0,.tup #v[↑[111,114],.tup #v[.ix @1 ↑0,.ix @1 (.neg ↑1)]]]) (.bin .mod (.call "_law_mix" #v[@0,↑52]) ↑2)]))
noncomputable def YQ:Ex:=(.comp false (.call "written" #v[@0]) (.val @1) (.dk (.lit (.bl true))) [])
noncomputable def YR:Ex:=(.comp false @0 (.range (.blt .len #v[@2])) (.dk (.cmp .md @0 @1)) [3])
noncomputable def YS:Ex:=(.comp false (.ix @1 @0) (.val @4) (.dk (.lit (.bl true))) [2])
noncomputable def YT:dj:=#v[.ifs (.and (.dk (.cmp .wM @9 (.lit .bQ))) (.dk (.cmp .ne (.tup #v[.jq .wN @4 #v[.ix @9 ↑0],.ix @9 ↑1]) @10))) #v[.ret (.lit (.bl false))] .nil]
def YU:dj:=(.cons (.ifs (.and (.dk (.cmp .wM @9 (.lit .bQ))) (.dk (.cmp .md (.ix @9 ↑0) @4))) #v[.ret (.lit (.bl false))] .nil) YT)
def YV:dj:=(.cons (.ifs (.dk (.cmp .ne (.cmp .LU @9 (.lit .bQ)) (.cmp .LU @10 (.lit .bQ)))) #v[.ret (.lit (.bl false))] .nil) YU)
def YW:dj:=(.cons (.set 9 (.cG "Lexer" "token" "Lexer.token" @5 #v[@7,@8])) (.cons (.set 10 (.cG "Lexer" "token" "Lexer.token" @6 #v[@7,@8])) YV))
def YX:dj:=#v[.set 2 YQ,.set 3 (.call "unused" #v[.blt .list #v[@2]]),.set 4 YR,.set 5 (.mk "Lexer" "Lexer.__init__" #v[@2]),.set 6 (.mk "Lexer" "Lexer.__init__" #v[YS]),.set 7 (.call "_law_text" #v[@0,↑53,.bin .mod (.call "_law_mix" #v[@0,↑62]) ↑11]),.jQ (.name 8) (.range (.bin .add (.blt .len #v[@7]) ↑1)) YW,.ret (.lit (.bl true))]
def Ec:dj:=(.cons (.set 1 (.call "_law_trees" #v[@0,↑0,.bin .add ↑1 (.bin .mod (.call "_law_mix" #v[@0,↑50]) ↑3),↑1])) (.cons (.ifs (.dk (.cmp .gt (.bin .mod (.call "_law_mix" #v[@0,↑51]) ↑3) ↑0)) #v[.set 1 YO] .nil) YX))
end PL.GU
namespace L2
open PySem
open PL (U SO bF Xn KU KX Spec cf)
structure Tab where
 const:List (String×U)
 fns:List String
 qI:List String
 qJ:List (String×String)
 zh:List String
 mJ:List String
structure Inf where
 names:List (Str×NameKind)
 N:List Str
 calm:Bool
noncomputable def pick(l:List String)(x:Str):Option String:=l.find? λs=>cw s==x
noncomputable def A8{α:Type}(l:List (String×α))(x:Str):Option (String×α):=l.find? λs=>cw s.1==x
noncomputable def eG(x:Str):List Str->Option Nat
 |[]=>none
 |y::ys=>if y=x then some 0 else(eG x ys).map (·+1)
noncomputable def L9:Option NameKind->Bool
 |some .local=>true
 |some .cell=>true
 |some .free=>true
 |_=>false
noncomputable def Inf.gl(I:Inf)(x:Str):Bool:=I.names.lookup x==some .globalImplicit
noncomputable def UG:nj->Option PL.GO
 |.Add=>some .add|.Sub=>some .sub|.Mult=>some .mul|.FloorDiv=>some .fdiv|.Mod=>some .mod|.BitAnd=>some .band|.BitOr=>some .bor|.LShift=>some .shl|.RShift=>some .shr|_=>none
noncomputable def YY:CmpOp->Option PL.NU
 |.Eq=>some .eq|.NotEq=>some .ne|.Lt=>some .lt|.LtE=>some .le|.Gt=>some .gt|.GtE=>some .ge|.In=>some .isin|.NotIn=>some .md|.Is=>some .LU|.IsNot=>some .wM
noncomputable def KI:Expr->Option Str
 |.Name x _=>some x
 |_=>none
theorem UH:∀e,(∃x p,e=Ky x p)\/KI e=none:=by
 intro e;cases e<;>first|exact .inr rfl|exact .inl #[_,_,rfl]
theorem Ik(h:KI e=some x):∃p,e=.Name x p:=by
 rcases UH e with⟨y,p,rfl⟩|e
 .exact#[p,congrArg (Ky · p) (aL h)]
 .erw[nn (e.symm.trans h)]
def dkE(e:Expr):Bool:=KI e==some ("sign":Str)||KI e==some ("held":Str)
noncomputable def YZ:CmpOp->Bool
 |.NotIn=>true
 |_=>false
def Sz(op:CmpOp)(b:Expr):Option PL.NU:=if YZ op&&KI b==some ("numbers":Str) then some .CM else YY op
noncomputable def PX:Expr->Option Expr
 |.Call (.Attribute o m ap) [] [] cp=>if m==("values":Str)&&ap.endLine==cp.line then some o else none
 |_=>none
def Xe:Expr->Option (Str×Expr)
 |.Call f [a] [] _=>(KI f).map λx=>(x,a)
 |_=>none
theorem UI:∀e,(∃f as ks p,e=Expr.Call f as ks p)\/Xe e=none:=by
 intro e;cases e<;>first|exact .inr rfl|exact .inl #[_,_,_,_,rfl]
theorem N3(h:Xe e=some (x,a)):∃p q,e=.Call (.Name x p) [a] [] q:=by
 rcases UI e with⟨f,as,ks,q,rfl⟩|e
 .cases as with
  |nil=>erw[nn h]
  |cons a as=>cases as with
   |cons=>erw[nn h]
   |nil=>cases ks with
    |cons=>erw[nn h]
    |nil=>
     let#[y,h1,h2]:=aq.mp h;cases h2;let#[p,rfl]:=Ik h1;exact#[p,q,rfl]
 .erw[nn (e.symm.trans h)]
noncomputable def rS(I : Inf)(names : List (Str×NameKind)) : List (Str×NameKind) := names.map λ(n, k) => if k==bM&&I.names.lookup n==some .cell then (n, .cell) else (n, k)
noncomputable def vF(I:Inf)(sc:jW)(xs:List Str):Bool:=
 sc.kind==.function&&sc.names.all (λy=>y.2 !=.cell||sc.names.lookup y.1==some .cell)&&sc.names.all (λy=>y.2 !=.local||sc.names.lookup y.1==some .local)&&sc.names.all (λy=>y.2 !=.free||I.names.lookup y.1==some .cell)
  && xs.all (λx=>sc.names.lookup x==some .local||sc.names.lookup x==some .cell)&&decide xs.Nodup
noncomputable def iO(I:Inf)(sc:jW):List Str:=I.N.filter λy=>sc.names.lookup y==some .free
def Ma:Expr->Option (List Str)
 |.Name x _=>some [x]
 |.Tuple [a,b] _ _=>(KI a).bind λx=>(KI b).map λy=>[x,y]
 |_=>none
noncomputable def noStar:Expr->Bool
 |.Starred ..=>false
 |_=>true
noncomputable def zi:Expr->Bool
 |.ListComp ..=>false
 |.SetComp ..=>false
 |.DictComp ..=>false
 |_=>true
noncomputable def my:Expr->Bool
 |.Slice ..=>false
 |_=>true
noncomputable def fX:Expr->Bool
 |.Call (.Name _ _) [] [] _=>false
 |_=>true
noncomputable def PY:Str->Option PL.Up:=λx=>
 if x==("len":Str) then some .len else if x==("tuple":Str) then some .tuple else if x==("list":Str) then some .list
 else if x==("all":Str) then some .all else if x==("sum":Str) then some .sum else if x==("any":Str) then some .any else if x==("dict":Str) then some .dict else if x==("max":Str) then some .max else none
noncomputable def ixK:Expr->Nat
 |.Attribute ..=>2
 |.Name x _=>if x==("SIGNS":Str) then 0 else 1
 |_=>0
noncomputable def PZ(lx:Nat):Str->Option PL.LV:=λx=>
 if x==("join":Str) then some .join else if x==("index":Str) then some (if lx==1 then .wN else if lx==2 then .wO else .index) else if x==("append":Str) then some .append else if x==("extend":Str) then some .extend else if x==("startswith":Str) then some .startswith else if x==("setdefault":Str) then some .nJ else none
noncomputable def Y0:Const->Option U
 |.none=>some .bQ
 |.bool b=>some (.bl b)
 |.int i=>some (.int i)
 |.str x=>some (.str x.cps.toList)
 |_=>none
def Il(I:Inf)(k:oO):Bool:=match k with
 |⟨kw,v,_⟩=>kw==some ("key":Str)&&(match v with
  |.Name l _=>l==("len":Str)&&I.gl l
  |_=>false)
structure CF where
 e:Inf->Expr->Option PL.Ex
 es:Inf->List Expr->Option PL.yZ
 bo:Inf->BoolOp->List Expr->Option PL.Ex
 o:Inf->Option Expr->Option PL.Ox
 i:Inf->Expr->Option PL.It
 n:Inf->Expr->Option PL.It
 t:Inf->Expr->Option PL.Tx
 tb:Inf->BoolOp->List Expr->Option PL.Tx
def SA(T:Tab)(F:CF)(I:Inf)(e:Expr):Option PL.Ex:=match e with
  |.Name x _=>match eG x I.N with
   |some i=>if L9 (I.names.lookup x)&&x !=("__debug__":Str)&&x !=("__classdict__":Str) then some (.var i) else none
   |none=>if I.gl x&&x !=("__debug__":Str) then(A8 T.const x).map λp=>.lit p.2 else none
  |.Constant c _ _=>(Y0 c).map .lit
  |.BinOp a op b _=>do
   let o <-UG op
   let x <-F.e I a
   let y <-F.e I b
   some (.bin o x y)
  |.UnaryOp op a _=>(match op with
   |.USub=>(F.e I a).map .neg
   |.Not=>(F.e I a).map .not
   |_=>none)
  |.BoolOp op vs _=>F.bo I op vs
  |.Compare a ops bs _=>(match ops with
   |[op]=>(match bs with
    |[b]=>do
     let o <-Sz op b
     let x <-F.e I a
     let y <-F.e I b
     some (.cmp o x y)
    |_=>none)
   |_=>none)
  |.IfExp t a b _=>do
   let c <-F.t I t
   let x <-F.e I a
   let y <-F.e I b
   some (.GQ c x y)
  |.Call f args kws cp=>(match f with
   |.Name f _=>(match kws with
    |[]=>if I.gl f&&f !=("__debug__":Str) then
      match PY f with
      |some b=>(match (match args with|[a]=>PX a|_=>none) with
       |some o=>if f==("list":Str)&&T.mJ.contains "list"&&I.calm&&fX o then(F.e I o).map λx=>.jq .vals x .nil else none
       |none=>if (pick T.mJ f).isSome && !args.isEmpty&&I.calm then(F.es I args).map (.blt b) else none)
      |none=>if !I.calm then none else match pick T.fns f with
       |some q=>(F.es I args).map (.call q)
       |none=>match pick T.qI f with
        |some q=>(F.es I args).map (.mk q (q++".__init__"))
        |none=>none
     else none
    |kw::ks=>(match args with
     |[a]=>if ks.isEmpty&&f==("min":Str)&&Il I kw&&I.gl f&&T.mJ.contains "min"&&T.mJ.contains "len"&&I.calm&&noStar a then(F.e I a).map λx=>.blt .vy (.cons x .nil) else none
     |_=>none))
   |.Attribute o m ap=>if !(kws.isEmpty&&fX o&&ap.endLine==cp.line&&decide (args.length<20)&&I.calm) then none else
    match A8 T.qJ m with
    |some (q,k)=>do
     let x <-F.e I o
     let as <-F.es I args
     some (.cG k q (k++"."++q) x as)
    |none=>(match args with
     |[]=>if m==("bit_length":Str) then(F.e I o).map λx=>.jq .nI x .nil else none
     |a::as=>if m==("get":Str) then(match as with
       |[d]=>if noStar a&&noStar d then do
         let x <-F.e I o
         let y <-F.e I a
         let z <-F.e I d
         some (.jq .get x (.cons y (.cons z .nil)))
        else none
       |[]=>if noStar a then do
         let x <-F.e I o
         let y <-F.e I a
         some (.jq .get x (.cons y .nil))
        else none
       |_=>none)
      else match PZ (ixK o) m with
      |some b=>do
       let x <-F.e I o
       let as <-F.es I (a::as)
       some (.jq b x as)
      |none=>none)
   |_=>none)
  |.Attribute o f _=>if !fX o then none else do
   let q <-pick T.zh f
   let x <-F.e I o
   some (.fld x q)
  |.Subscript o i _=>if my i then do
    let x <-F.e I o
    let y <-F.e I i
    some (if dkE i||KI o==some ("texts":Str) then .HV x y else .ix x y)
   else(match i with
   |.Slice lo hi st _=>(match st with
    |none=>do
     let x <-F.e I o
     let a <-F.o I lo
     let b <-F.o I hi
     some (.sl x a b)
    |some _=>none)
   |_=>none)
  |.Dict ks vs _=>(match ks with
   |[]=>(match vs with
    |[]=>some (.dH .nil .nil)
    |_=>none)
   |[some k]=>(match vs with
    |[v]=>do
     let x <-F.e I k
     let y <-F.e I v
     some (.dH (.cons x .nil) (.cons y .nil))
    |_=>none)
   |_=>none)
  |.List es _=>(F.es I es).map .lst
  |.Tuple es _ _=>(F.es I es).map .tup
  |.ListComp elt gs sc _=>(match gs with
   |[g]=>(match g with
    |⟨tg,iter,ifs,as⟩=>match Ma tg with
     |some xs=>if vF I sc xs&&I.calm&&as==0 then do
       let it <-(match xs with
        |[_]=>F.i I iter
        |_=>F.n I iter)
       let cn:=iO I sc
       let J:Inf:=#[rS I sc.names,xs++cn,true]
       let c <-(match ifs with
        |[]=>some (PL.Tx.dk (.lit (.bl true)))
        |[c]=>F.t J c
        |_=>none)
       let e <-F.e J elt
       let ci <-cn.mapM λy=>eG y I.N
       some (.comp (xs.length==2) e it c ci)
      else none
     |none=>none)
   |_=>none)
  |_=>none
def Im(F:CF)(I:Inf):List Expr->Option PL.yZ
 |[]=>some .nil
 |e::es=>if !noStar e then none else do
  let x <-F.e I e
  let xs <-F.es I es
  some (.cons x xs)
noncomputable def Io(F:CF)(I:Inf)(op:BoolOp):List Expr->Option PL.Ex
 |[]=>none
 |[a]=>F.e I a
 |a::b::r=>do
  let x <-F.e I a
  let y <-F.bo I op (b::r)
  some (match op with|.And=>.and x y|.Or=>.or x y)
noncomputable def Xf(F:CF)(I:Inf):Option Expr->Option PL.Ox
 |none=>some .no
 |some e=>(F.e I e).map .e
def stI(T:Tab)(F:CF)(I:Inf)(e:Expr):Option PL.It:=match Xe e with
  |some (f,a)=>if f==("range":Str) then(if I.gl f&&T.mJ.contains "range" then(F.e I a).map .range else none) else(F.e I e).map .val
  |none=>if KI e==some ("row":Str) then(F.e I e).map .keys else(F.e I e).map .val
def stN(T:Tab)(F:CF)(I:Inf)(e:Expr):Option PL.It:=match Xe e with
  |some (f,a)=>if f==("enumerate":Str)&&I.gl f&&T.mJ.contains "enumerate"&&noStar a then(F.e I a).map .enum else none
  |none=>none
def stT(F:CF)(I:Inf)(e:Expr):Option PL.Tx:=match e with
  |.UnaryOp .Not a _=>(F.t I a).map .not
  |.BoolOp op vs _=>F.tb I op vs
  |.IfExp ..=>none
  |.Compare a [op] [b] _=>do
   let o <-Sz op b
   let x <-F.e I a
   let y <-F.e I b
   some (.dk (.cmp o x y))
  |.Compare ..=>none
  |_=>(F.e I e).map .dk
noncomputable def Ip(F:CF)(I:Inf)(op:BoolOp):List Expr->Option PL.Tx
 |[]=>none
 |[a]=>F.t I a
 |a::b::r=>do
  let x <-F.t I a
  let y <-F.tb I op (b::r)
  some (match op with|.And=>.and x y|.Or=>.or x y)
def rT(T:Tab):Nat->CF
 |0=>#[λ_ _=>none,λ_ _=>none,λ_ _ _=>none,λ_ _=>none,λ_ _=>none,λ_ _=>none,λ_ _=>none,λ_ _ _=>none]
 |n+1=>#[SA T (rT T n),Im (rT T n),Io (rT T n),Xf (rT T n),stI T (rT T n),stN T (rT T n),stT (rT T n),Ip (rT T n)]
abbrev cE(T:Tab)(n:Nat):Inf->Expr->Option PL.Ex:=(rT T n).e
abbrev SD(T:Tab)(n:Nat):Inf->List Expr->Option PL.yZ:=(rT T n).es
abbrev Xg(T:Tab)(n:Nat):Inf->BoolOp->List Expr->Option PL.Ex:=(rT T n).bo
abbrev cO(T:Tab)(n:Nat):Inf->Option Expr->Option PL.Ox:=(rT T n).o
abbrev cI(T:Tab)(n:Nat):Inf->Expr->Option PL.It:=(rT T n).i
abbrev cN(T:Tab)(n:Nat):Inf->Expr->Option PL.It:=(rT T n).n
abbrev cT(T:Tab)(n:Nat):Inf->Expr->Option PL.Tx:=(rT T n).t
abbrev Xh(T:Tab)(n:Nat):Inf->BoolOp->List Expr->Option PL.Tx:=(rT T n).tb
section
variable{T:Tab}{n:Nat}{I:Inf}{x:Expr}{xs:List Expr}{p:BoolOp}{y:Option Expr}
theorem UJ:cE T 0 I x=none:=rfl
theorem Mb:cE T (n+1) I x=SA T (rT T n) I x:=rfl
theorem N4:SD T 0 I xs=none:=rfl
theorem Iq:SD T (n+1) I xs=Im (rT T n) I xs:=rfl
theorem UK:Xg T 0 I p xs=none:=rfl
theorem Ir:Xg T (n+1) I p xs=Io (rT T n) I p xs:=rfl
theorem Y1:cO T 0 I y=none:=rfl
theorem UL:cO T (n+1) I y=Xf (rT T n) I y:=rfl
theorem Y2:cI T 0 I x=none:=rfl
theorem Y3:cI T (n+1) I x=stI T (rT T n) I x:=rfl
theorem Y4:cN T 0 I x=none:=rfl
theorem Y5:cN T (n+1) I x=stN T (rT T n) I x:=rfl
theorem Y6:cT T 0 I x=none:=rfl
theorem Y7:cT T (n+1) I x=stT (rT T n) I x:=rfl
theorem UM:Xh T 0 I p xs=none:=rfl
theorem Iu:Xh T (n+1) I p xs=Ip (rT T n) I p xs:=rfl
end
def Y8(T:Tab)(n:Nat)(J:Inf)(ifs:List Expr):Option PL.Tx:=match ifs with
 |[]=>some (PL.Tx.dk (.lit (.bl true)))
 |[c]=>cT T n J c
 |_=>none
theorem vG(h:cE T (n+1) I (.ListComp elt gs sc pos)=some x):
  ∃tg iter ifs xs it c ee ci,gs=[#[tg,iter,ifs,0]]/\Ma tg=some xs/\(vF I sc xs=true/\I.calm=true)/\((∃y,xs=[y])/\cI T n I iter=some it\/(¬ ∃y,xs=[y])/\cN T n I iter=some it)/\Y8 T n #[rS I sc.names,xs++iO I sc,true] ifs=some c /\
   cE T n #[rS I sc.names,xs++iO I sc,true] elt=some ee/\(iO I sc).mapM (λy=>eG y I.N)=some ci/\x=.comp (xs.length==2) ee it c ci:=by
 rw[Mb] at h
 delta SA at h
 dsimp only at h;split at h
 .rename_i g
  let#[tg,iter,ifs,as]:=g;dsimp only at h;split at h
  .rename_i xs ht
   split at h
   .rename_i hc
    dsimp[aj] at hc;dsimp[aP,ay] at h;let#[it,h1,c,h2,ee,h3,ci,h4,h5]:=h;injection h5 with h5
    have e0:as=0:=eq_of_beq hc.2;subst e0;refine#[tg,iter,ifs,xs,it,c,ee,ci,rfl,ht,hc.1,?_,h2,h3,h4,h5.symm];split at h1
    .erw[.inl #[#[_,rfl],h1]]
    .rename_i hn
     erw[.inr #[λ⟨y,e⟩=>hn y e,h1]]
   .erw[nn h]
  .erw[nn h]
 .erw[nn h]
theorem UN:∀e,(∃x p,e=Ky x p)\/(∃es k q,e=Expr.Tuple es k q)\/Ma e=none:=by
 intro e;cases e<;>first|exact .inr (.inr rfl)|exact .inl #[_,_,rfl]|exact .inr (.inl #[_,_,_,rfl])
theorem CZ(h:Ma tg=some xs):(∃x p,tg=.Name x p/\xs=[x])\/∃x y p p' k q,tg=.Tuple [.Name x p,.Name y p'] k q/\xs=[x,y]:=by
 rcases UN tg with⟨x,p,rfl⟩|⟨es,k,q,rfl⟩|e
 .erw[.inl #[x,p,rfl,(aL h).symm]]
 .cases es with
  |nil=>erw[nn h]
  |cons a es=>cases es with
   |nil=>erw[nn h]
   |cons b es=>cases es with
    |cons=>erw[nn h]
    |nil=>
     let#[x,h1,h]:=ay.mp h;let#[y,h2,h3]:=aq.mp h;let#[p,rfl]:=Ik h1;let#[p',rfl]:=Ik h2;erw[.inr #[x,y,p,p',k,q,rfl,h3.symm]]
 .erw[nn (e.symm.trans h)]
open PL (U SO bF Xn KU KX Spec cf)
noncomputable def um:Option NameKind->Bool
 |some .local=>true
 |some .cell=>true
 |_=>false
noncomputable def C0:nj->Option PL.GO
 |.Add=>some .add|.Sub=>some .sub|.BitOr=>some .bor|_=>none
structure CG where
 s:Inf->Stmt->Option PL.Sm
 ss:Inf->List Stmt->Option PL.dj
def Y9(T:Tab)(F:CF)(G:CG)(I:Inf)(s:Stmt):Option PL.Sm:=match s with
  |.Assign ts e _=>(match ts with
   |[t]=>(match t with
    |.Name x _=>(match eG x I.N with
     |some i=>if um (I.names.lookup x) then(F.e I e).map (.set i) else none
     |none=>none)
    |.Attribute o f _=>do
     let q <-pick T.zh f
     let x <-F.e I o
     let y <-F.e I e
     some (.kA x q y)
    |.Subscript o i _=>if my i&&dkE i then do
      let x <-F.e I o
      let k <-F.e I i
      let y <-F.e I e
      some (.nJ x k y)
     else none
    |_=>none)
   |_=>none)
  |.AugAssign t op e _=>(match t with
   |.Name x _=>(match eG x I.N with
    |some i=>if um (I.names.lookup x) then do
      let p <-C0 op
      let y <-F.e I e
      some (.aug i p y)
     else none
    |none=>none)
   |.Attribute o f _=>do
    let q <-pick T.zh f
    let p <-C0 op
    let x <-F.e I o
    let y <-F.e I e
    some (.AV x q p y)
   |.Subscript o i _=>if my i then do
     let p <-C0 op
     let x <-F.e I o
     let j <-F.e I i
     let y <-F.e I e
     some (.FA x j p y)
    else none
   |_=>none)
  |.Expr e _=>if zi e then(F.e I e).map .ex else none
  |.Return e _=>(match e with
   |some e=>(F.e I e).map .ret
   |none=>none)
  |.If c a b _=>do
   let c <-F.t I c
   let a <-G.ss I a
   let b <-G.ss I b
   some (.ifs c a b)
  |.While c b el _=>if el.isEmpty then do
    let c <-F.t I c
    let b <-G.ss I b
    some (.B3 c b)
   else none
  |.For tg it b el _=>if !(I.calm&&el.isEmpty) then none else(match Ma tg with
   |some xs=>(match xs with
    |[x]=>(match eG x I.N with
     |some i=>if um (I.names.lookup x) then do
       let it <-F.i I it
       let b <-G.ss I b
       some (.jQ (.name i) it b)
      else none
     |none=>none)
    |[x,y]=>(match eG x I.N with
     |some i=>(match eG y I.N with
      |some j=>if um (I.names.lookup x)&&um (I.names.lookup y) then do
        let it <-F.n I it
        let b <-G.ss I b
        some (.jQ (.pair i j) it b)
       else none
      |none=>none)
     |none=>none)
    |_=>none)
   |none=>none)
  |.Raise _ _ _=>some (.ex (.ix (.lit .bQ) (.lit .bQ)))
  |.Try b hs el fi _=>(match hs with
   |_::_=>if el.isEmpty&&fi.isEmpty then(G.ss I b).map .Sx else none
   |[]=>none)
  |_=>none
noncomputable def Mc(G:CG)(I:Inf):List Stmt->Option PL.dj
 |[]=>some .nil
 |s::ss=>do
  let x <-G.s I s
  let xs <-G.ss I ss
  some (.cons x xs)
def FP(T:Tab):Nat->CG
 |0=>#[λ_ _=>none,λ_ _=>none]
 |n+1=>#[Y9 T (rT T n) (FP T n),Mc (FP T n)]
abbrev cS(T:Tab)(n:Nat):Inf->Stmt->Option PL.Sm:=(FP T n).s
abbrev KJ(T:Tab)(n:Nat):Inf->List Stmt->Option PL.dj:=(FP T n).ss
theorem Zc:cS T 0 I x=none:=rfl
theorem Zd:cS T (n+1) I x=Y9 T (rT T n) (FP T n) I x:=rfl
theorem UO:KJ T 0 I x=none:=rfl
theorem N5:KJ T (n+1) I x=Mc (FP T n) I x:=rfl
open PySem.Spec PyProof.Rows PySem.W
open PL (U SO bF Xn KU KX Spec cf)
structure Ctx where
 P:bD
 w:cy
 K:Frag
 mg:Str->Option Value
 base:Heap
 cls:String->Option Addr
noncomputable abbrev nm(s:String):Str:=cw s
def xT(K:Frag)(H:Hp)(a:Addr)(vs:List V):Prop:=
 (∃o,H a=some (.sE o (.lst vs))) \/
  ∃(o:Obj)(its:Array Value)(n:Nat),K.lookup a=some o/\o.cls=.type "list"/\o.dict=none/\o.data=.seq its n/\its.size<=sizeLine/\Vals vs its.toList
theorem xT.sq{K:Frag}{H:Hp}{a:Addr}{vs:List V}(h:xT K H a vs):i3 K H a vs:=by
 rcases h with⟨o,h⟩|h
 .erw[.inl (.inr #[o,h])]
 .erw[.inr h]
section
variable(c:Ctx)(ρ:List Addr)(H:Hp)
mutual
noncomputable def Rep:U->V->Prop
 |.bQ,v=>v=.bQ
 |.bl b,v=>v=.bl b
 |.int i,v=>v=.int i
 |.str l,v=>v=.str (tx l)
 |.tup us,v=>∃a vs,v=.ref a/\H a=some (.tup vs)/\aX us vs
 |.loc n,v=>∃a,v=.ref a/\ρ[n]?=some a
 |.sF ns,v=>∃a,v=.ref a/\xT c.K H a (ns.map .int)
 |.tab kvs,v=>∃a,v=.ref a/\Pu c.K c.w.params a (kvs.map λp=>(tx p.1,V.str (tx p.2)))
noncomputable def aX:List U->List V->Prop
 |[],vs=>vs=[]
 |u::us,vs=>∃v r,vs=v::r/\Rep u v/\aX us r
end
def uo(a:Addr):SO->Prop
 |.lst us=>∃vs,H a=some (.lst vs)/\aX c ρ H us vs
 |.ins x fs=>∃C dx vs,c.cls x=some C/\H a=some (.ins C dx vs)/\vs.map (·.1)=(fs.map (·.1)).map nm/\aX c ρ H (fs.map (·.2)) (vs.map (·.2))
 |.dH kvs=>∃vs,H a=some (.dK vs)/\vs.length=kvs.length/\aX c ρ H (kvs.map (·.1)) (vs.map λp=>kV p.1)/\aX c ρ H (kvs.map (·.2)) (vs.map (·.2))
 |.vx kvs=>∃o vs,H a=some (.sE o (.dK vs))/\vs.length=kvs.length/\aX c ρ H (kvs.map (·.1)) (vs.map λp=>kV p.1)/\aX c ρ H (kvs.map (·.2)) (vs.map (·.2))
 |.uh kvs=>∃vs,H a=some (.dT vs)/\vs.map (·.1)=kvs.map (λp=>p.1.map xh)/\aX c ρ H (kvs.map (·.2)) (vs.map (·.2))
 |.wL kvs=>∃vs,H a=some (.dP vs)/\vs.map (·.1)=kvs.map (·.1)/\aX c ρ H (kvs.map (·.2)) (vs.map (·.2))
structure cz(S:bF):Prop where
 len:ρ.length=S.length
 nd:ρ.Nodup
 at_:∀(n:Nat)(a:Addr)(o:SO),ρ[n]?=some a->S[n]?=some o->uo c ρ H a o
end
structure iu(ρ:List Addr)(H:Hp)(ρ':List Addr)(H':Hp):Prop where
 pre:∃more,ρ'=ρ++more
 new:∀b∈ρ',b∉ρ->H b=none
 fr:∀b o,H b=some o->b∉ρ->H' b=some o
 fz:∀b o vs,H b=some (.sE o (.dK vs))->H' b=some (.sE o (.dK vs))
section
variable{c:Ctx}{ρ ρ' ρ'':List Addr}{H H' H'':Hp}{S S':bF}
theorem iu.refl:iu ρ H ρ H:=#[#[[],by simp],λ_ h n=>absurd h n,λ_ _ h _=>h,λ_ _ _ h=>h]
theorem iu.trans(a:iu ρ H ρ' H')(b:iu ρ' H' ρ'' H''):iu ρ H ρ'' H'':=by
 let#[m1,e1]:=a.pre;let#[m2,e2]:=b.pre;refine#[#[m1++m2,by rw[e2,e1,bJ]],λx hx nx=>?_,λx o h nx=>?_,λx o vs h=>b.fz x o vs (a.fz x o vs h)]
 .by_cases z:x∈ρ'
  .erw[a.new x z nx]
  .cases q:H x with
   |none=>rfl
   |some o=>erw[absurd (a.fr x o q nx) (by rw[b.new x hx z];simp)]
 .have q:=a.fr x o h nx
  by_cases z:x∈ρ'
  .erw[absurd (a.new x z nx) (by rw[h];simp)]
  .erw[b.fr x o q z]
theorem iu.get(a:iu ρ H ρ' H'){n:Nat}{b:Addr}(h:ρ[n]?=some b):ρ'[n]?=some b:=by
 let#[m,e]:=a.pre;rw[e,ag (by let#[h,_]:=ab.mp h;erw[h])]
 erw[h]
noncomputable def zj:HO->Bool
 |.lst _=>true
 |.ins _ _ _=>true
 |.dK _=>true
 |.dT _=>true
 |.dP _=>true
 |.sE _ (.dK _)=>true
 |_=>false
noncomputable def P0:HO->Bool
 |.sE _ _=>true
 |_=>false
theorem cz.obj(R:cz c ρ H S)(h:b∈ρ):∃o,H b=some o/\zj o=true:=by
 let#[n,hn,e]:=qU h;have hn':n<S.length:=R.len▸hn;have q:=R.at_ n b S[n] (by rw[aa hn,e]) (aa hn');cases o:S[n] with
 |lst us=>rw[o] at q;let#[vs,h,_]:=q;exact#[_,h,rfl]
 |ins x fs=>rw[o] at q;let#[C,dx,vs,_,h,_]:=q;exact#[_,h,rfl]
 |dH kvs=>rw[o] at q;let#[vs,h,_]:=q;exact#[_,h,rfl]
 |vx kvs=>rw[o] at q;let#[o',vs,h,_]:=q;exact#[_,h,rfl]
 |uh kvs=>rw[o] at q;let#[vs,h,_]:=q;exact#[_,h,rfl]
 |wL kvs=>rw[o] at q;let#[vs,h,_]:=q;exact#[_,h,rfl]
theorem cz.not(R:cz c ρ H S)(h:H b=some o)(q:zj o=false):b∉ρ:=λz=>by
 let#[o',h',q']:=R.obj z;rw[h] at h';injection h' with e;subst e
 rw[q] at q';erw[Kz q']
theorem cz.Iv(R:cz c ρ H S)(h:H b=none):b∉ρ:=λz=>by
 let#[o',h',_]:=R.obj z;rw[h] at h';cases h'
mutual
theorem Rep.iF(p:∃more,ρ'=ρ++more)(k:∀b o,H b=some o->zj o=false->H' b=some o):∀{u:U}{v:V},Rep c ρ H u v->Rep c ρ' H' u v
 |.bQ,_,h=>by unfold Rep at h ⊢;erw[h]
 |.bl _,_,h=>by unfold Rep at h ⊢;erw[h]
 |.int _,_,h=>by unfold Rep at h ⊢;erw[h]
 |.str _,_,h=>by unfold Rep at h ⊢;erw[h]
 |.tup us,_,h=>by
  unfold Rep at h ⊢;let#[x,vs,e,hx,hs]:=h;exact#[x,vs,e,k x _ hx rfl,aX.iF p k hs]
 |.loc n,_,h=>by
  unfold Rep at h ⊢;let#[x,e,hx]:=h;let#[m,rfl]:=p;exact#[x,e,by rw[ag (by let#[h,_]:=ab.mp hx;erw[h])];erw[hx]]
 |.sF ns,_,h=>by
  unfold Rep at h ⊢;let#[x,e,hx]:=h;rcases hx with⟨o,hx⟩|hx
  .exact#[x,e,.inl #[o,k x _ hx rfl]]
  .exact#[x,e,.inr hx]
 |.tab _,_,h=>by unfold Rep at h ⊢;erw[h]
theorem aX.iF(p:∃more,ρ'=ρ++more)(k:∀b o,H b=some o->zj o=false->H' b=some o):∀{us:List U}{vs:List V},aX c ρ H us vs->aX c ρ' H' us vs
 |[],_,h=>by unfold aX at h ⊢;erw[h]
 |u::us,_,h=>by
  unfold aX at h ⊢;let#[v,r,e,h1,h2]:=h;exact#[v,r,e,Rep.iF p k h1,aX.iF p k h2]
end
theorem uo.iF(p:∃more,ρ'=ρ++more)(m:∀b o,H b=some o->zj o=false->H' b=some o)(h:uo c ρ H b o)(k:H' b=H b):uo c ρ' H' b o:=by
 cases o with
 |lst us=>let#[vs,h1,h2]:=h;exact#[vs,k.trans h1,h2.iF p m]
 |ins x fs=>let#[C,dx,vs,h0,h1,h2,h3]:=h;exact#[C,dx,vs,h0,k.trans h1,h2,h3.iF p m]
 |dH kvs=>let#[vs,h1,h2,h3,h4]:=h;exact#[vs,k.trans h1,h2,h3.iF p m,h4.iF p m]
 |vx kvs=>let#[o,vs,h1,h2,h3,h4]:=h;exact#[o,vs,k.trans h1,h2,h3.iF p m,h4.iF p m]
 |uh kvs=>let#[vs,h1,h2,h3]:=h;exact#[vs,k.trans h1,h2,h3.iF p m]
 |wL kvs=>let#[vs,h1,h2,h3]:=h;exact#[vs,k.trans h1,h2,h3.iF p m]
theorem iu.Ze(R:cz c ρ H S)(a:iu ρ H ρ' H'):∀b o,H b=some o->zj o=false->H' b=some o:=λb o h q=>a.fr b o h (R.not h q)
theorem Rep.mono(R:cz c ρ H S)(a:iu ρ H ρ' H')(h:Rep c ρ H u v):Rep c ρ' H' u v:=h.iF a.pre (a.Ze R)
theorem aX.mono(R:cz c ρ H S)(a:iu ρ H ρ' H')(h:aX c ρ H us vs):aX c ρ' H' us vs:=h.iF a.pre (a.Ze R)
theorem uo.mono(R:cz c ρ H S)(a:iu ρ H ρ' H')(h:uo c ρ H b o)(k:H' b=H b):uo c ρ' H' b o:=h.iF a.pre (a.Ze R) k
theorem zk(hD:H D=some o)(q:zj o=true):∀b o,H b=some o->zj o=false->upd H D ho b=some o:=λb o' h z=>by
 rw[b9]
 .erw[h]
 .intro e;subst e;rw[hD] at h;injection h with h;subst h;rw[q] at z;erw[Kz z]
theorem cz.A9(R:cz c ρ H S)(ho:HO)(hD:H D=some o)(q:zj o=true)(n:D∉ρ):cz c ρ (upd H D ho) S:=
 #[R.len,R.nd,λm b o' h1 h2=>(R.at_ m b o' h1 h2).iF #[[],by simp] (zk hD q) (b9 λe=>n (e▸ah h1))]
theorem cz.join(R:cz c ρ H S)(n:D∉ρ)(h:uo c ρ H D o):cz c (ρ++[D]) H (S++[o]):=by
 have p:∃more,ρ++[D]=ρ++more:=#[[D],rfl]
 refine#[by simp[R.len],?_,λm a o' h1 h2=>?_]
 .rw[dO]
  exact#[R.nd,by simp,λx hx y hy=>by rw[aZ.mp hy];erw[λe=>n (e▸hx)]]
 .by_cases z:m<ρ.length
  .rw[ag z] at h1
   rw[ag (R.len▸z)] at h2;exact(R.at_ m a o' h1 h2).iF p (λ_ _ h _=>h) rfl
  .have hz:m=ρ.length:=by
    let#[q,_]:=ab.mp h1;simp at q;omega
   subst hz;rw[ax (ak _),b8] at h1;rw[R.len,ax (ak _),b8] at h2;simp at h1 h2;rw[<-h1,<-h2];erw[h.iF p (λ_ _ h _=>h) rfl]
theorem iu.alloc(R:cz c ρ H S)(hp:H p=none)(o:HO):iu ρ H (ρ++[p]) (upd H p o):=by
 refine#[#[[p],rfl],λb hb nb=>?_,λb o h nb=>?_,λb o vs h=>by rw[b9 (dv h hp)];erw[h]]
 .rcases aG.mp hb with h|h
  .erw[absurd h nb]
  .rw[aZ.mp h];erw[hp]
 .rw[b9 (dv h hp)];erw[h]
theorem cz.alloc(R:cz c ρ H S)(hp:H p=none)(h:uo c (ρ++[p]) (upd H p ho) p o):cz c (ρ++[p]) (upd H p ho) (S++[o]):=by
 have st:=iu.alloc R hp ho;refine#[by simp[R.len],?_,λn a o' h1 h2=>?_]
 .rw[dO]
  exact#[R.nd,by simp,λx hx y hy=>by rw[aZ.mp hy];erw[λe=>R.Iv hp (e▸hx)]]
 .by_cases z:n<ρ.length
  .rw[ag z] at h1
   rw[ag (R.len▸z)] at h2;refine(R.at_ n a o' h1 h2).mono R st (b9 λe=>?_);erw[R.Iv hp (e▸ah h1)]
  .have hz:n=ρ.length:=by
    let#[q,_]:=ab.mp h1;simp at q;omega
   subst hz;rw[ax (ak _),b8] at h1;rw[R.len,ax (ak _),b8] at h2;simp at h1 h2;rw[<-h1,<-h2];erw[h]
theorem iu.lay(R:cz c ρ H S)(hp:H p=none)(o:HO):iu ρ H ρ (upd H p o):=
 #[#[[],by simp],λ_ h n=>absurd h n,λb _ h _=>by rw[b9 (dv h hp)];erw[h],λb o vs h=>by rw[b9 (dv h hp)];erw[h]]
theorem cz.lay(R:cz c ρ H S)(hp:H p=none)(o:HO):cz c ρ (upd H p o) S:=
 #[R.len,R.nd,λn a o' h1 h2=>(R.at_ n a o' h1 h2).mono R (iu.lay R hp o) (b9 λe=>R.Iv hp (e▸ah h1))]
theorem iu.put(h:a∈ρ)(hu:H a=some u)(nf:P0 u=false)(o:HO):iu ρ H ρ (upd H a o):=
 #[#[[],by simp],λ_ h n=>absurd h n,λb _ q nb=>by rw[b9 (show b≠a from λe=>nb (by rw[e];exact h))];exact q,
  λb o' vs q=>by rw[b9 λe=>by rw[e,hu] at q;injection q with q;rw[q] at nf;cases nf];erw[q]]
theorem cz.put(R:cz c ρ H S)(ha:ρ[n]?=some a)(hu:H a=some u)(nf:P0 u=false)(h:uo c ρ (upd H a ho) a o):cz c ρ (upd H a ho) (S.set n o):=by
 have hm:=ah ha;refine#[by simp[R.len],R.nd,λm b o' h1 h2=>?_];by_cases z:m=n
 .subst z
  rw[ha] at h1;injection h1 with h1;subst h1
  have hl:m<S.length:=R.len▸(ab.mp ha).1;rw[bG hl] at h2;injection h2 with h2;subst h2;erw[h]
 .rw[ai (cC z)] at h2
  refine(R.at_ m b o' h1 h2).mono R (iu.put hm hu nf ho) (b9 λe=>z ?_);subst e;let#[l1,e1]:=ab.mp h1;let#[l2,e2]:=ab.mp ha;exact(Kv R.nd).mp (e1.trans e2.symm)
theorem aX.len:∀{us:List U}{vs:List V},aX c ρ H us vs->us.length=vs.length
 |[],_,h=>by unfold aX at h;subst h;rfl
 |_::us,_,h=>by
  unfold aX at h;let#[v,r,e,_,h2]:=h;subst e;rw[aU,aU,aX.len h2]
theorem aX.nil:aX c ρ H [] []:=by unfold aX;rfl
theorem aX.cons(h:Rep c ρ H u v)(t:aX c ρ H us vs):aX c ρ H (u::us) (v::vs):=by unfold aX;exact#[v,vs,rfl,h,t]
theorem aX.app:∀{us ws:List U}{vs xs:List V},aX c ρ H us vs->aX c ρ H ws xs->aX c ρ H (us++ws) (vs++xs)
 |[],_,_,_,h,k=>by unfold aX at h;subst h;erw[k]
 |u::us,_,_,_,h,k=>by
  unfold aX at h;let#[v,r,e,h1,h2]:=h;subst e;erw[aX.cons h1 (aX.app h2 k)]
theorem aX.get:∀{us:List U}{vs:List V}{n:Nat}{u:U},aX c ρ H us vs->us[n]?=some u->∃v,vs[n]?=some v/\Rep c ρ H u v
 |[],_,_,_,_,e=>by simp at e
 |u::us,_,n,_,h,e=>by
  unfold aX at h;let#[v,r,e',h1,h2]:=h;subst e';cases n with
  |zero=>simp at e;subst e;exact#[v,rfl,h1]
  |succ n=>simp at e ⊢;erw[aX.get h2 e]
theorem aX.take:∀{us:List U}{vs:List V}(n:Nat),aX c ρ H us vs->aX c ρ H (us.take n) (vs.take n)
 |_,_,0,_=>by dsimp[List.take_zero];erw[aX.nil]
 |[],_,_+1,h=>by unfold aX at h;subst h;dsimp[List.take_nil];erw[aX.nil]
 |u::us,_,n+1,h=>by
  unfold aX at h;let#[v,r,e,h1,h2]:=h;subst e;erw[aX.cons h1 (aX.take n h2)]
theorem aX.drop:∀{us:List U}{vs:List V}(n:Nat),aX c ρ H us vs->aX c ρ H (us.drop n) (vs.drop n)
 |_,_,0,h=>h
 |[],_,_+1,h=>by unfold aX at h;subst h;dsimp[List.drop_nil];erw[aX.nil]
 |u::us,_,n+1,h=>by
  unfold aX at h;let#[v,r,e,h1,h2]:=h;subst e;erw[aX.drop n h2]
end
open PL (U SO bF Xn KU KX Spec cf)
noncomputable abbrev Cx.at_(X:Cx)(pZ:List (Addr×Obj))(E:St->XK):Cx:={X with pn:=X.pn++pZ,xe:=Ui X pZ E}
section
variable{X:Cx}{pZ pins':List (Addr×Obj)}{E:St->XK}{σ:St}{H:Hp}{s:az}
theorem Cx.Ok.at_(ok:X.Ok):(X.at_ pZ E).Ok:=
 #[ok.mod,ok.kind,ok.glob,ok.blt,ok.above,ok.inj,ok.has,ok.Oz,ok.hd,ok.frames,ok.Hl,ok.WU,ok.bs,ok.Hm,ok.Ck,ok.Ff,ok.rj,ok.K9]
theorem Cx.Ok.pb(ok:(X.at_ pZ E).Ok):X.Ok:=
 #[ok.mod,ok.kind,ok.glob,ok.blt,ok.above,ok.inj,ok.has,ok.Oz,ok.hd,ok.frames,ok.Hl,ok.WU,ok.bs,ok.Hm,ok.Ck,ok.Ff,ok.rj,ok.K9]
theorem Inv.at_(I:Inv X pZ σ H s):Inv (X.at_ pZ E) [] σ H s:=
 #[I.ok.at_,I.os,I.bare,I.base,I.loc,I.cell,I.free,I.om,λp hp=>I.pin p (by simpa using hp),I.dm,I.len]
theorem Inv.pb(I:Inv (X.at_ pZ E) pins' σ H s):Inv X pZ σ H s:=
 #[I.ok.pb,I.os,I.bare,I.base,I.loc,I.cell,I.free,I.om,λp hp=>I.pin p (aG.mpr (.inl hp)),I.dm,I.len]
theorem DW.pb(h:DW (X.at_ pZ E) pins' H b):DW X pZ H b:=
 #[h.1,h.2.1,h.2.2.1,h.2.2.2.1,λp hp=>h.2.2.2.2 p (aG.mpr (.inl hp))]
theorem XE.pb(h:XE (X.at_ pZ E) pins' σ (E σ) e s):Ui X pZ E e s:=by
 let#[a,tb,cl,dx,H',e1,I,x,f,q]:=h;exact#[σ,a,tb,cl,dx,H',e1,I.pb,x,λb hb=>(f b hb).pb,q]
abbrev atS(σ:St)(E:XK):St->XK:=λσ' cl dx H=>σ'=σ/\E cl dx H
theorem vH(σ:St)(E:XK):atS σ E σ=E:=by
 funext cl dx H
 erw[propext #[λh=>h.2,λh=>#[rfl,h]]]
theorem Ui.one{e:Value}{E:XK}(h:Ui X pZ (atS σ E) e s):XE X pZ σ E e s:=by
 let#[σ',a,tb,cl,dx,H',e1,I,x,f,q,w]:=h;subst q;exact#[a,tb,cl,dx,H',e1,I,x,f,w]
theorem EP.pb(h:EP (X.at_ pZ E) pins' σ Q u s):EP X pZ σ Q u s:=by
 let#[v,H',I,r,q]:=h;exact#[v,H',I.pb,r,q]
end
def C1(X:Cx)(e:Expr)(t:XK->TT):Prop:=
 ∀(pZ:List (Addr×Obj))(s:az)(σ:St)(H:Hp)(Q:Bool->Hp->Prop)(E:XK),Inv X pZ σ H s->t E σ H Q->wpAny (bb X.prog X.w) X.A (isTrue e X.env (eval e X.env)) (TP X pZ σ Q) (XE X pZ σ E) s
def C2(X:Cx)(es:List Expr)(t:XK->TA):Prop:=
 ∀(pos:Pos)(pZ:List (Addr×Obj))(s:az)(σ:St)(H:Hp)(Q:List V->Hp->Prop)(E:XK),Inv X pZ σ H s->t E σ H Q->wpAny (bb X.prog X.w) X.A (spliced (iH pos (bV es X.env))) (AP X pZ σ Q) (XE X pZ σ E) s
section
variable{X:Cx}{pZ:List (Addr×Obj)}{e:Expr}{es:List Expr}
theorem PE.imp(h:PE X e t)(q:∀σ H Q,t' σ H Q->t σ H Q):PE X e t':=λpZ s σ H Q I z=>h pZ s σ H Q I (q σ H Q z)
theorem PT.imp(h:PT X e t)(q:∀σ H Q,t' σ H Q->t σ H Q):PT X e t':=λpZ s σ H Q I z=>h pZ s σ H Q I (q σ H Q z)
theorem up(h:∀pZ E,PE (X.at_ pZ E) e (λσ H Q=>t (E σ) σ H Q)):dZ X e t:=by
 intro pZ s σ H Q E I z;rwa[bY (h pZ (atS σ E) [] s σ H Q I.at_ (by show t (atS σ E σ) σ H Q;rw[vH];erw[z])) (λu s' q=>q.pb) λu s' q=>q.one]
theorem dn(h:dZ (X.at_ pZ E) e t):PE (X.at_ pZ E) e (λσ H Q=>t (E σ) σ H Q):=by
 intro pins' s σ H Q I z;erw[bY (h pins' s σ H Q (E σ) I z) (λu s' q=>q) λu s' q=>q.pb]
theorem Xi(h:∀pZ E,PT (X.at_ pZ E) e (λσ H Q=>t (E σ) σ H Q)):C1 X e t:=by
 intro pZ s σ H Q E I z;rwa[bY (h pZ (atS σ E) [] s σ H Q I.at_ (by show t (atS σ E σ) σ H Q;rw[vH];erw[z])) (λu s' #[H',I',q]=>#[H',I'.pb,q]) λu s' q=>q.one]
theorem SE(h:C1 (X.at_ pZ E) e t):PT (X.at_ pZ E) e (λσ H Q=>t (E σ) σ H Q):=by
 intro pins' s σ H Q I z;erw[bY (h pins' s σ H Q (E σ) I z) (λu s' q=>q) λu s' q=>q.pb]
theorem upA(h:∀pZ E,PA (X.at_ pZ E) es (λσ H Q=>t (E σ) σ H Q)):C2 X es t:=by
 intro pos pZ s σ H Q E I z;rwa[bY (h pZ (atS σ E) pos [] s σ H Q I.at_ (by show t (atS σ E σ) σ H Q;rw[vH];erw[z])) (λu s' #[vs,H',I',r,q]=>#[vs,H',I'.pb,r,q]) λu s' q=>q.one]
theorem zm(h:C2 (X.at_ pZ E) es t):PA (X.at_ pZ E) es (λσ H Q=>t (E σ) σ H Q):=by
 intro pos pins' s σ H Q I z;erw[bY (h pos pins' s σ H Q (E σ) I z) (λu s' q=>q) λu s' q=>q.pb]
end
structure jR(c:Ctx)(ρ:List Addr)(H:Hp)(env:PL.Env)(σ:St):Prop where
 len:env.length=σ.length
 at_:∀(i:Nat)u,env[i]?=some (some u)->∃v,σ[i]?=some (some v)/\Rep c ρ H u v
def ExcAt(_:Ctx)(_:List Addr)(_:Hp)(_:Xn)(_ _:Addr):Prop:=True
section
variable(c:Ctx)(ρ:List Addr)(H:Hp)
def QV(QU:KU)(Q:VK):Prop:=∀u S' v H' ρ',QU u S'->iu ρ H ρ' H'->cz c ρ' H' S'->Rep c ρ' H' u v->Q v H'
def QB(QU:Bool->bF->Prop)(Q:Bool->Hp->Prop):Prop:=∀b S' H' ρ',QU b S'->iu ρ H ρ' H'->cz c ρ' H' S'->Q b H'
def QA(QU:List U->bF->Prop)(Q:List V->Hp->Prop):Prop:=∀us S' vs H' ρ',QU us S'->iu ρ H ρ' H'->cz c ρ' H' S'->aX c ρ' H' us vs->Q vs H'
def QX(EU:KX)(E:XK):Prop:=∀x S' H' ρ' C d,EU x S'->iu ρ H ρ' H'->cz c ρ' H' S'->ExcAt c ρ' H' x C d->E (.ref C) (some d) H'
end
section
variable{c:Ctx}{ρ ρ':List Addr}{H H':Hp}{S:bF}
theorem QV.later(q:QV c ρ H QU Q)(a:iu ρ H ρ' H'):QV c ρ' H' QU Q:=λu S' v H2 ρ2 h b R r=>q u S' v H2 ρ2 h (a.trans b) R r
theorem QB.later(q:QB c ρ H QU Q)(a:iu ρ H ρ' H'):QB c ρ' H' QU Q:=λu S' H2 ρ2 h b R=>q u S' H2 ρ2 h (a.trans b) R
theorem QX.later(q:QX c ρ H EU E)(a:iu ρ H ρ' H'):QX c ρ' H' EU E:=λx S' H2 ρ2 C d h b R r=>q x S' H2 ρ2 C d h (a.trans b) R r
theorem QV.now(q:QV c ρ H QU Q)(R:cz c ρ H S)(h:QU u S)(r:Rep c ρ H u v):Q v H:=q u S v H ρ h .refl R r
theorem jR.later(h:jR c ρ H env σ)(R:cz c ρ H S)(a:iu ρ H ρ' H'):jR c ρ' H' env σ:=
 #[h.len,λi u e=>by let#[v,h1,h2]:=h.at_ i u e;exact#[v,h1,h2.mono R a]]
end
section
variable(c:Ctx)(Γ:cf)
def tE(x:PL.Ex):XK->TE:=λE σ H Q=>∃env ρ S QU EU,jR c ρ H env σ/\cz c ρ H S/\PL.WE Γ x env S QU EU/\QV c ρ H QU Q/\QX c ρ H EU E
def tT(x:PL.Tx):XK->TT:=λE σ H Q=>∃env ρ S QU EU,jR c ρ H env σ/\cz c ρ H S/\PL.WT Γ x env S QU EU/\QB c ρ H QU Q/\QX c ρ H EU E
def GV(x:PL.yZ):XK->TA:=λE σ H Q=>∃env ρ S QU EU,jR c ρ H env σ/\cz c ρ H S/\PL.wU Γ x env S QU EU/\QA c ρ H QU Q/\QX c ρ H EU E
end
open PL (U SO bF Xn KU KX Spec cf)
theorem qt(h:n<=1000000):n<=sizeLine:=aJ h ⋯
section
variable{c:Ctx}{ρ:List Addr}{H:Hp}{S:bF}
theorem fc:Rep c ρ H .bQ v↔v=.bQ:=by unfold Rep;erw[kN]
theorem fA:Rep c ρ H (.bl b) v↔v=.bl b:=by unfold Rep;erw[kN]
theorem aR:Rep c ρ H (.int b) v↔v=.int b:=by unfold Rep;erw[kN]
theorem bA:Rep c ρ H (.str b) v↔v=.str (tx b):=by unfold Rep;erw[kN]
theorem dB:Rep c ρ H (.tup us) v↔∃a vs,v=.ref a/\H a=some (.tup vs)/\aX c ρ H us vs:=by unfold Rep;erw[kN]
theorem eL:Rep c ρ H (.loc n) v↔∃a,v=.ref a/\ρ[n]?=some a:=by unfold Rep;erw[kN]
theorem rV:Rep c ρ H (.sF ns) v↔∃a,v=.ref a/\xT c.K H a (ns.map .int):=by unfold Rep;erw[kN]
theorem uG:Rep c ρ H (.tab kvs) v↔∃a,v=.ref a/\Pu c.K c.w.params a (kvs.map λp=>(tx p.1,V.str (tx p.2))):=by unfold Rep;erw[kN]
theorem cz.lst(R:cz c ρ H S)(h:S[n]?=some (.lst us))(r:Rep c ρ H (.loc n) v):∃a vs,v=.ref a/\ρ[n]?=some a/\H a=some (.lst vs)/\aX c ρ H us vs:=by
 let#[a,e,ha]:=eL.mp r;let#[vs,h1,h2]:=R.at_ n a _ ha h;exact#[a,vs,e,ha,h1,h2]
theorem cz.ins(R:cz c ρ H S)(h:S[n]?=some (.ins x fs))(r:Rep c ρ H (.loc n) v):∃a C dx vs,v=.ref a/\ρ[n]?=some a/\c.cls x=some C/\H a=some (.ins C dx vs)/\vs.map (·.1)=(fs.map (·.1)).map nm/\aX c ρ H (fs.map (·.2)) (vs.map (·.2)):=by
 let#[a,e,ha]:=eL.mp r;let#[C,dx,vs,h0,h1,h2,h3]:=R.at_ n a _ ha h;exact#[a,C,dx,vs,e,ha,h0,h1,h2,h3]
theorem QV.FQ(q:QV c ρ H QU Q)(R:cz c ρ H S)(r:aX c ρ H us vs)(h:QU (.loc S.length) (S++[.lst us]))(hp:H p=none):Q (.ref p) (upd H p (.lst vs)):=by
 have st:=iu.alloc R hp (.lst vs);have R':cz c (ρ++[p]) (upd H p (.lst vs)) (S++[.lst us]):=R.alloc hp #[vs,cg,r.mono R st];rwa[q _ _ _ _ _ h st R' (eL.mpr #[p,rfl,?_])];rw[<-R.len,ax (ak _),b8];rfl
theorem QV.P1(q:QV c ρ H QU Q)(R:cz c ρ H S)(r:aX c ρ H us vs)(h:QU (.tup us) S)(hp:H p=none):Q (.ref p) (upd H p (.tup vs)):=by
 have st:=iu.lay R hp (.tup vs);erw[q _ _ _ _ _ h st (R.lay hp _) (dB.mpr #[p,vs,rfl,cg,r.mono R st])]
end
def wW(c:Ctx)(o:PL.GO):R2:=λx y H Q=>∃ux uy ρ S QU,Rep c ρ H ux x/\Rep c ρ H uy y/\cz c ρ H S/\PL.kU o ux uy S QU/\QV c ρ H QU Q
noncomputable def Md:PL.GO->nj
 |.add=>.Add|.sub=>.Sub|.mul=>.Mult|.fdiv=>.FloorDiv|.mod=>.Mod|.band=>.BitAnd|.bor=>.BitOr|.shl=>.LShift|.shr=>.RShift
section
variable{X:Cx}{c:Ctx}
theorem Me:iI X (cL .Add) (wW c .add):=by
 x_go;let#[ux,uy,ρ,S,QU,hx,hy,R,w,q]:=h;cases ux<;>first|exact aO w|skip
 .rename_i i
  let#[j,rfl,w]:=PL.gC.mp w;erw[OT pZ s σ H x y v u Q I rx ry #[i,j,aR.mp hx,aR.mp hy,q.now R w (aR.mpr rfl)]]
 .rename_i a
  let#[b,rfl,w]:=PL.pH.mp w;erw[Fz pZ s σ H x y v u Q I rx ry #[a,b,bA.mp hx,bA.mp hy,qt w.1,q.now R w.2 (bA.mpr rfl)]]
 .rename_i us
  let#[ws,rfl,w]:=PL.LZ.mp w;let#[a,vs,e1,h1,r1]:=dB.mp hx;let#[b,zs,e2,h2,r2]:=dB.mp hy;let#[#[w0,w1],w2]:=w;rwa[Lw pZ s σ H x y v u Q I rx ry #[a,b,vs,zs,e1,e2,oq.of h1,oq.of h2,λe=>w0 ?_,qt (by rw[<-r1.len,<-r2.len];erw[w1]),λe=>?_,λ_ p hp=>?_]]
  .erw[kM (by rw[r1.len,e];rfl)]
  .have e3:ws=[]:=kM (by rw[r2.len,e];rfl)
   subst e3;rw[bU] at w2;rw[<-e1]
   erw[q.now R w2 hx]
  .erw[q.P1 R (r1.app r2) w2 hp]
 .rename_i m
  let#[n,rfl,w]:=PL.jt.mp w;let#[us,h1,w1]:=PL.cV.mp w;let#[ws,h2,w2,w3]:=PL.cV.mp w1;let#[a,vs,e1,_,g1,r1]:=R.lst h1 hx;let#[b,zs,e2,_,g2,r2]:=R.lst h2 hy;erw[Ph pZ s σ H x y v u Q I rx ry #[a,b,vs,zs,e1,e2,g1,g2,qt (by rw[<-r1.len,<-r2.len];exact w2),λp hp=>q.FQ R (r1.app r2) w3 hp]]
theorem Mf:iI X (cL .Sub) (wW c .sub):=by
 x_go;let#[ux,uy,ρ,S,QU,hx,hy,R,w,q]:=h;let#[i,j,rfl,rfl,w]:=PL.kK w;erw[OU pZ s σ H x y v u Q I rx ry #[i,j,aR.mp hx,aR.mp hy,q.now R w (aR.mpr rfl)]]
theorem Mg:iI X (cL .Mult) (wW c .mul):=by
 x_go;let#[ux,uy,ρ,S,QU,hx,hy,R,w,q]:=h;let#[i,j,rfl,rfl,w]:=PL.kK w;erw[OV pZ s σ H x y v u Q I rx ry #[i,j,aR.mp hx,aR.mp hy,w.1,q.now R w.2 (aR.mpr rfl)]]
theorem Iw:iI X (cL .FloorDiv) (wW c .fdiv):=by
 x_go;let#[ux,uy,ρ,S,QU,hx,hy,R,w,q]:=h;let#[i,j,rfl,rfl,w]:=PL.kK w;erw[Lg pZ s σ H x y v u Q I rx ry #[i,j,aR.mp hx,aR.mp hy,w.1,q.now R w.2 (aR.mpr rfl)]]
theorem Mh:iI X (cL .Mod) (wW c .mod):=by
 x_go;let#[ux,uy,ρ,S,QU,hx,hy,R,w,q]:=h;let#[i,j,rfl,rfl,w]:=PL.kK w;erw[OW pZ s σ H x y v u Q I rx ry #[i,j,aR.mp hx,aR.mp hy,w.1,q.now R w.2 (aR.mpr rfl)]]
theorem Iy:iI X (cL .BitAnd) (wW c .band):=by
 x_go;let#[ux,uy,ρ,S,QU,hx,hy,R,w,q]:=h;let#[i,j,rfl,rfl,w]:=PL.kK w;erw[OZ pZ s σ H x y v u Q I rx ry #[i,j,aR.mp hx,aR.mp hy,by dsimp only;rw[uE w.1.1 w.1.2];exact q.now R w.2 (aR.mpr rfl)]]
theorem Mi:iI X (cL .BitOr) (wW c .bor):=by
 x_go;let#[ux,uy,ρ,S,QU,hx,hy,R,w,q]:=h;let#[i,j,rfl,rfl,w]:=PL.kK w;erw[TB pZ s σ H x y v u Q I rx ry #[i,j,aR.mp hx,aR.mp hy,by dsimp only;rw[CT w.1.1 w.1.2];exact q.now R w.2 (aR.mpr rfl)]]
theorem Mj:iI X (cL .LShift) (wW c .shl):=by
 x_go;let#[ux,uy,ρ,S,QU,hx,hy,R,w,q]:=h;let#[i,j,rfl,rfl,w]:=PL.kK w;let#[#[w1,w2,w3,w4],w5]:=w;erw[OX pZ s σ H x y v u Q I rx ry #[i,j,aR.mp hx,aR.mp hy,#[w3,∅,∅],q.now R w5 (aR.mpr rfl)]]
theorem Ml:iI X (cL .RShift) (wW c .shr):=by
 x_go;let#[ux,uy,ρ,S,QU,hx,hy,R,w,q]:=h;let#[i,j,rfl,rfl,w]:=PL.kK w;erw[OY pZ s σ H x y v u Q I rx ry #[i,j,aR.mp hx,aR.mp hy,w.1.2,q.now R w.2 (aR.mpr rfl)]]
def FR(c:Ctx)(o:PL.GO):R2:=λx y H Q=>∃ux uy ρ S QU,Rep c ρ H ux x/\Rep c ρ H uy y/\cz c ρ H S/\PL.wR o ux uy S QU/\QV c ρ H QU Q
theorem Iz:iI X (iB .Add) (FR c .add):=by
 x_go;let#[ux,uy,ρ,S,QU,hx,hy,R,w,q]:=h;cases ux<;>first|exact aO w|skip
 .rename_i i
  let#[j,rfl,w]:=PL.gC.mp w;erw[Lh pZ s σ H x y v u Q I rx ry #[i,j,aR.mp hx,aR.mp hy,q.now R w (aR.mpr rfl)]]
 .rename_i a
  let#[b,rfl,w]:=PL.pH.mp w;erw[CJ pZ s σ H x y v u Q I rx ry #[a,b,bA.mp hx,bA.mp hy,qt w.1,q.now R w.2 (bA.mpr rfl)]]
theorem IA:iI X (iB .Sub) (FR c .sub):=by
 x_go;let#[ux,uy,ρ,S,QU,hx,hy,R,w,q]:=h;cases ux<;>first|exact aO w|skip
 rename_i i;let#[j,rfl,w]:=PL.gC.mp w;erw[Li pZ s σ H x y v u Q I rx ry #[i,j,aR.mp hx,aR.mp hy,q.now R w (aR.mpr rfl)]]
theorem IB:iI X (iB .BitOr) (FR c .bor):=by
 x_go;let#[ux,uy,ρ,S,QU,hx,hy,R,w,q]:=h;cases ux<;>first|exact aO w|skip
 rename_i i;let#[j,rfl,w]:=PL.gC.mp w;erw[O0 pZ s σ H x y v u Q I rx ry #[i,j,aR.mp hx,aR.mp hy,by dsimp only;rw[CT w.1.1 w.1.2];exact q.now R w.2 (aR.mpr rfl)]]
theorem Mm:iI X (cL (Md o)) (wW c o):=by
 cases o
 .erw[Me]
 .erw[Mf]
 .erw[Mg]
 .erw[Iw]
 .erw[Mh]
 .erw[Iy]
 .erw[Mi]
 .erw[Mj]
 .erw[Ml]
theorem zo(h:o=.add\/o=.sub\/o=.bor):iI X (iB (Md o)) (FR c o):=by
 rcases h with rfl|rfl|rfl
 .erw[Iz]
 .erw[IA]
 .erw[IB]
def ur(c:Ctx)(o:PL.NU):R2:=λx y H Q=>∃ux uy ρ S,Rep c ρ H ux x/\Rep c ρ H uy y/\cz c ρ H S/\PL.jD o ux uy S λb=>Q (.bl b) H
end
mutual
noncomputable def kB:U->Dv
 |.bQ=>.bQ
 |.bl b=>.bl b
 |.int i=>.int i
 |.str l=>.str l
 |.tup us=>.tup (iG us)
 |_=>.bQ
noncomputable def iG:List U->List Dv
 |[]=>[]
 |u::us=>kB u::iG us
end
section
variable{c:Ctx}{ρ:List Addr}{H:Hp}{S:bF}
mutual
theorem rW:∀{u:U}{v:V},PL.FC u=true->Rep c ρ H u v->ou c.K H v (kB u)
 |.bQ,_,_,h=>by unfold kB ou;erw[fc.mp h]
 |.bl _,_,_,h=>by unfold kB ou;erw[fA.mp h]
 |.int _,_,_,h=>by unfold kB ou;erw[aR.mp h]
 |.str _,_,_,h=>by unfold kB ou;erw[bA.mp h]
 |.tup us,_,d,h=>by
  unfold kB ou;let#[a,vs,e,h1,h2]:=dB.mp h;exact#[a,vs,e,oq.of h1,Ba (by unfold PL.FC at d;erw[d]) h2]
 |.loc _,_,d,_=>by cases d
 |.sF _,_,d,_=>by cases d
 |.tab _,_,d,_=>by cases d
theorem Ba:∀{us:List U}{vs:List V},PL.AY us=true->aX c ρ H us vs->i5 c.K H vs (iG us)
 |[],_,_,h=>by unfold aX at h;subst h;unfold iG i5;trivial
 |u::us,_,d,h=>by
  unfold aX at h;let#[v,r,e,h1,h2]:=h;subst e;unfold PL.AY at d;rw[aj] at d;unfold iG i5;exact#[rW d.1 h1,Ba d.2 h2]
end
end
mutual
theorem P2:∀u:U,PL.FC u=true->(kB u).depth=PL.dep u
 |.bQ,_=>by simp[kB,Dv.depth,PL.dep]
 |.bl _,_=>by simp[kB,Dv.depth,PL.dep]
 |.int _,_=>by simp[kB,Dv.depth,PL.dep]
 |.str _,_=>by simp[kB,Dv.depth,PL.dep]
 |.tup us,d=>by
  unfold kB Dv.depth PL.dep;rw[uH us (by unfold PL.FC at d;erw[d])]
 |.loc _,d=>by cases d
 |.sF _,d=>by cases d
 |.tab _,d=>by cases d
theorem uH:∀us:List U,PL.AY us=true->Dv.kJ (iG us)=PL.HX us
 |[],_=>by simp[iG,Dv.kJ,PL.HX]
 |u::us,d=>by
  unfold PL.AY at d;rw[aj] at d;unfold iG Dv.kJ PL.HX;rw[P2 u d.1,uH us d.2]
end
mutual
theorem IC:∀x y:U,PL.FC x=true->PL.FC y=true->PL.rG x y=B1 (kB x) (kB y)
 |.tup us,y,d,d'=>by
  cases y with
  |tup ws=>erw[ID us ws d d']
  |_=>first|rfl|cases d'
 |.loc _,_,d,_|.sF _,_,d,_|.tab _,_,d,_=>by cases d
 |.bQ,y,_,d|.bl _,y,_,d|.int _,y,_,d|.str _,y,_,d=>by cases y<;>first|rfl|cases d
theorem ID:∀xs ys:List U,PL.AY xs=true->PL.AY ys=true->PL.LX xs ys=nG (iG xs) (iG ys)
 |[],y,_,_=>by cases y<;>rfl
 |_::_,[],_,_=>rfl
 |x::xs,y::ys,d,d'=>by
  have d:=(aj _ _).mp d;have d':=(aj _ _).mp d'
  change (PL.rG x y&&PL.LX xs ys)=(B1 (kB x) (kB y)&&nG (iG xs) (iG ys))
  rw[IC x y d.1 d'.1,ID xs ys d.2 d'.2]
end
theorem P4:decide (V.str (tx a)=V.str (tx b))=(a==b):=by
 rw[cJ]
 simp[DX]
theorem Ed(t:PL.HY x y=true)(nt:PL.HZ x=true)(hx:Rep c ρ H x v)(hy:Rep c ρ H y w):O2 v w=true/\decide (v=w)=PL.rG x y:=by
 cases x<;>first|exact ff nt|exact ff t| (cases y<;>first|exact ff t| ((first|rw[fc.mp hx]|rw[fA.mp hx]|rw[aR.mp hx]|rw[bA.mp hx]);(first|rw[fc.mp hy]|rw[fA.mp hy]|rw[aR.mp hy]|rw[bA.mp hy]);first|exact#[rfl,rfl]|exact#[rfl,Cq]|exact#[rfl,yJ]|exact#[rfl,P4]))
section
variable{X:Cx}{c:Ctx}
theorem P5(hK:X.K=c.K)(hu:X.A.units+200<fF):iI X (bH .Eq) (ur c .eq):=by
 x_go;let#[ux,uy,ρ,S,hx,hy,R,w0]:=h;have go:(PL.wQ ux uy λb=>Q (.bl b) H)->wpAny (bb X.prog X.w) X.A (bH .Eq v u) (EP X pZ σ Q) X.xe s:=by
  intro hh;let#[#[t,d,d',z],w]:=hh;by_cases nt:PL.HZ ux=true
  .let#[e1,e2]:=Ed t nt hx hy
   erw[TC pZ s σ H x y v u Q I rx ry #[e1,by rw[e2];exact w]]
  .cases ux<;>first|exact absurd rfl nt|skip
   rename_i us;have g:=rW d hx;unfold kB at g;rwa[Pw hu pZ s σ H x y v u Q I rx ry #[iG us,kB uy,hK▸g,hK▸rW d' hy,?_,?_]]
   .rw[uH us (by unfold PL.FC at d;erw[d])];unfold PL.dep at z;omega
   .have:=IC (.tup us) uy d d'
    rw[show kB (.tup us)= .tup (iG us) from by simp[kB]] at this;rw[<-this];erw[w]
 erw[go w0]
theorem P6(hK:X.K=c.K)(hu:X.A.units+200<fF):iI X (bH .NotEq) (ur c .ne):=by
 x_go;let#[ux,uy,ρ,S,hx,hy,R,w0]:=h;let#[nt,#[t,d,d',z],w]:=w0;by_cases nt1:PL.HZ ux=true
 .let#[e1,e2]:=Ed t nt1 hx hy
  erw[TF pZ s σ H x y v u Q I rx ry #[e1,by rw[e2];exact w]]
 .cases ux<;>first|exact absurd rfl nt1|skip
  cases uy<;>first|exact ff nt|skip
  rename_i us us';have g:=rW d hx;have g':=rW d' hy;unfold kB at g g';rwa[Py hu pZ s σ H x y v u Q I rx ry #[iG us,iG us',hK▸g,hK▸g',?_,?_]]
  .rw[uH us (by unfold PL.FC at d;erw[d])];unfold PL.dep at z;omega
  .have:=IC (.tup us) (.tup us') d d'
   rw[show kB (.tup us)= .tup (iG us) from by simp[kB],show kB (.tup us')= .tup (iG us') from by simp[kB]] at this;rw[show nG (iG us) (iG us')=B1 (.tup (iG us)) (.tup (iG us')) from rfl,<-this];erw[w]
end
open PL (U SO bF Xn KU KX Spec cf)
section
variable{X:Cx}{c:Ctx}
theorem P7:iI X (bH .Lt) (ur c .lt):=by
 x_go;let#[ux,uy,ρ,S,hx,hy,R,w]:=h;let#[i,j,rfl,rfl,w]:=PL.kK w;erw[TH pZ s σ H x y v u Q I rx ry #[_,_,aR.mp hx,aR.mp hy,w]]
theorem P8:iI X (bH .LtE) (ur c .le):=by
 x_go;let#[ux,uy,ρ,S,hx,hy,R,w]:=h;let#[i,j,rfl,rfl,w]:=PL.kK w;erw[TJ pZ s σ H x y v u Q I rx ry #[_,_,aR.mp hx,aR.mp hy,w]]
theorem P9:iI X (bH .Gt) (ur c .gt):=by
 x_go;let#[ux,uy,ρ,S,hx,hy,R,w]:=h;let#[i,j,rfl,rfl,w]:=PL.kK w;erw[TK pZ s σ H x y v u Q I rx ry #[_,_,aR.mp hx,aR.mp hy,w]]
theorem Qa:iI X (bH .GtE) (ur c .ge):=by
 x_go;let#[ux,uy,ρ,S,hx,hy,R,w]:=h;let#[i,j,rfl,rfl,w]:=PL.kK w;erw[TL pZ s σ H x y v u Q I rx ry #[_,_,aR.mp hx,aR.mp hy,w]]
theorem xU(h:Rep c ρ H u v):decide (v=V.bQ)=PL.mW u:=by
 cases u with
 |bQ=>rw[fc.mp h];rfl
 |bl b=>rw[fA.mp h];rfl
 |int i=>rw[aR.mp h];rfl
 |str l=>rw[bA.mp h];rfl
 |tup us=>let#[a,vs,e,_]:=dB.mp h;rw[e];rfl
 |loc n=>let#[a,e,_]:=eL.mp h;rw[e];rfl
 |sF ns=>let#[a,e,_]:=rV.mp h;rw[e];rfl
 |tab kvs=>let#[a,e,_]:=uG.mp h;rw[e];rfl
theorem Qb:iI X (bH .Is) (ur c .LU):=by
 x_go;let#[ux,uy,ρ,S,hx,hy,R,w]:=h;have e:uy=.bQ:=by cases uy<;>first|rfl|exact aO w
 subst e;rw[PL.Yh] at w;erw[O3 pZ s σ H x y v u Q I rx ry #[fc.mp hy,by rw[xU hx];exact w]]
theorem IE:iI X (bH .IsNot) (ur c .wM):=by
 x_go;let#[ux,uy,ρ,S,hx,hy,R,w]:=h;have e:uy=.bQ:=by cases uy<;>first|rfl|exact aO w
 subst e;rw[PL.PU] at w;erw[Lj pZ s σ H x y v u Q I rx ry #[fc.mp hy,by rw[xU hx];exact w]]
theorem lG(f:PL.flat u=true)(h:Rep c ρ H u v):lB v=true:=by
 cases u<;>first|exact ff f| (rw[fc.mp h];rfl)| (rw[fA.mp h];rfl)| (rw[aR.mp h];rfl)| (rw[bA.mp h];rfl)
theorem zq(f:PL.flat u=true)(f':PL.flat u'=true)(h:Rep c ρ H u v)(h':Rep c ρ H u' v'):BZ v v'=PL.rG u u':=by
 cases u<;>first|exact ff f| (cases u'<;>first|exact ff f'| ((first|rw[fc.mp h]|rw[fA.mp h]|rw[aR.mp h]|rw[bA.mp h]);(first|rw[fc.mp h']|rw[fA.mp h']|rw[aR.mp h']|rw[bA.mp h']);first|rfl|exact cJ.mpr (by rename_i a b;show(tx a==tx b)=true↔(a==b)=true;simp[NT])))
theorem nW(f:PL.flat u=true)(h:Rep c ρ H u v):∀{us:List U}{vs:List V},us.all PL.flat=true->aX c ρ H us vs->vs.all lB=true/\WZ v vs=us.any λy=>PL.rG y u
 |[],_,_,r=>by unfold aX at r;subst r;exact#[rfl,rfl]
 |w::us,_,a,r=>by
  unfold aX at r;let#[x,t,e,h1,h2]:=r;subst e;rw[bK,aj] at a;let#[z1,z2]:=nW f h a.2 h2;refine#[by rw[bK,lG a.1 h1,z1];rfl,?_];unfold WZ at z2 ⊢;rw[dG,dG,z2,zq a.1 f h1 h]
theorem lookup_tab{kvs:List (List Nat×List Nat)}{k v:List Nat}(h:kvs.lookup k=some v):(kvs.map λp=>(tx p.1,V.str (tx p.2))).lookup (tx k)=some (V.str (tx v)):=by
 induction kvs with
 |nil=>cases h
 |cons p r ih=>
  let#[a,b]:=p;rw[au,aK]
  rw[aK] at h;by_cases e:k=a
  .subst e
   simp at h ⊢;erw[h]
  .have e2:(k==a)=false:=by simp[e]
   have e3:(tx k==tx a)=false:=by
    rw[beq_eq_false_iff_ne];erw[λz=>e (qG z)]
   rw[e2] at h;dsimp[e3];erw[ih h]
theorem Bb{kvs:List (List Nat×List Nat)}{k:List Nat}(h:kvs.lookup k=none):(kvs.map λp=>(tx p.1,V.str (tx p.2))).lookup (tx k)=none:=by
 induction kvs with
 |nil=>rfl
 |cons p r ih=>
  rw[aK] at h;rw[au,aK]
  cases z:k==p.1 with
  |true=>rw[z] at h;cases h
  |false=>
   rw[z] at h;have:(tx k==tx p.1)=false:=by
    rw[beq_eq_false_iff_ne] at z ⊢;erw[λe=>z (qG e)]
   rw[this]
   erw[ih h]
theorem Qc(hK:X.K=c.K)(hP:X.w.params=c.w.params):iI X (bH .In) (ur c .isin):=by
 x_go;let#[ux,uy,ρ,S,hx,hy,R,w]:=h;cases uy with
 |str b=>
  let#[a,rfl,w]:=PL.pH.mp w;erw[FD pZ s σ H x y v u Q I rx ry #[a,b,bA.mp hx,bA.mp hy,w]]
 |tab kvs=>
  let#[k,rfl,w]:=PL.pH.mp w;let#[a,e,h1]:=uG.mp hy;have w:Q (.bl (kvs.lookup k).isSome) H:=w;have ex:=h1.ex;rw[<-hK,<-hP] at ex;cases z:kvs.lookup k with
  |some t=>
   let#[u',_,e2]:=h1.at_ _ _ (lookup_tab z);exact H8 pZ s σ H x y v u Q I rx ry #[a,_,some u',bA.mp hx,e,ex,h1.ns,hK▸e2,by rw[z] at w;erw[w]]
  |none=>
   have e2:=h1.no _ (Bb z);exact H8 pZ s σ H x y v u Q I rx ry #[a,_,none,bA.mp hx,e,ex,h1.ns,hK▸e2,by rw[z] at w;erw[w]]
 |tup us=>
  rw[PL.PM] at w;let#[#[f,a],w]:=w;let#[p,vs,e,h1,h2]:=dB.mp hy;let#[z1,z2]:=nW f hx a h2;erw[xI pZ s σ H x y v u Q I rx ry #[p,vs,e,.inr (oq.of h1),lG f hx,z1,by rw[z2];exact w]]
 |loc n=>
  rw[PL.PQ] at w;let#[us,g,#[f,a],w]:=PL.cV.mp w;let#[p,vs,e,_,h1,h2]:=R.lst g hy;let#[z1,z2]:=nW f hx a h2;erw[xI pZ s σ H x y v u Q I rx ry #[p,vs,e,.inl (i3.of h1),lG f hx,z1,by rw[z2];exact w]]
 |_=>erw[aO w]
theorem FT(hK:X.K=c.K)(hu:X.A.units+200<fF):iI X (bH .NotIn) (ur c .md):=by
 x_go;let#[ux,uy,ρ,S,hx,hy,R,w]:=h;cases uy with
 |str b=>
  let#[a,rfl,w]:=PL.pH.mp w;erw[zd pZ s σ H x y v u Q I rx ry #[a,b,bA.mp hx,bA.mp hy,w]]
 |tup us=>
  rw[PL.PN] at w;let#[#[f,a],w]:=w;let#[p,vs,e,h1,h2]:=dB.mp hy;let#[z1,z2]:=nW f hx a h2;erw[rD pZ s σ H x y v u Q I rx ry #[p,vs,e,.inr (oq.of h1),lG f hx,z1,by rw[z2];exact w]]
 |loc n=>
  have w:PL.getL S[n]? λus=>PL.qH ux us λb=>Q (.bl !b) H:=w
  let#[us,g,#[f,a],w]:=PL.cV.mp w;let#[p,vs,e,_,h1,h2]:=R.lst g hy;let#[z1,z2]:=nW f hx a h2;erw[rD pZ s σ H x y v u Q I rx ry #[p,vs,e,.inl (i3.of h1),lG f hx,z1,by rw[z2];exact w]]
 |_=>erw[aO w]
def vI:U->Key
 |.int i=>.inl i
 |.str l=>.inr (some (tx l))
 |_=>.inr none
section
variable{ρ:List Addr}{H:Hp}{S:bF}
theorem kq(hk:PL.mI u=true)(r:Rep c ρ H u v):v=kV (vI u):=by
 cases u<;>first|exact ff hk|skip
 .erw[fc.mp r]
 .erw[aR.mp r]
 .erw[bA.mp r]
theorem Mn(r:Rep c ρ H a (kV b)):PL.mI a=true/\vI a=b:=by
 have nr:∀p,kV b≠V.ref p:=λp=>by rcases b with i|_|x<;>exact λe=>nomatch e
 cases a<;>unfold Rep at r
 .rcases b with i|_|x<;>cases r;exact#[rfl,rfl]
 .rcases b with i|_|x<;>cases r
 .rcases b with i|_|x<;>cases r;exact#[rfl,rfl]
 .rcases b with i|_|x<;>cases r;exact#[rfl,rfl]
 .let#[p,_,e,_]:=r;erw[absurd e (nr p)]
 .let#[p,e,_]:=r;erw[absurd e (nr p)]
 .let#[p,e,_]:=r;erw[absurd e (nr p)]
 .let#[p,e,_]:=r;erw[absurd e (nr p)]
theorem Ee(ha:PL.mI a=true)(hu:PL.mI u=true):PL.NX a u=true↔vI a=vI u:=by
 cases a<;>first|exact ff ha| (cases u<;>first|exact ff hu|skip)
 .exact#[λ_=>rfl,λ_=>rfl]
 .exact#[λe=>ff e,λe=>by cases e]
 .exact#[λe=>ff e,λe=>by cases e]
 .exact#[λe=>ff e,λe=>by cases e]
 .exact#[λe=>congrArg xh (eq_of_beq e),λe=>beq_iff_eq.mpr (Ag e)]
 .exact#[λe=>ff e,λe=>by cases e]
 .exact#[λe=>ff e,λe=>by cases e]
 .exact#[λe=>ff e,λe=>by cases e]
 .exact#[λe=>by rw[eq_of_beq e],λe=>beq_iff_eq.mpr (qG (aL (tG e)))]
theorem rX(hu:PL.mI u=true):∀{kvs:List (U×U)}{vs:List (Key×V)},vs.length=kvs.length->aX c ρ H (kvs.map (·.1)) (vs.map λp=>kV p.1)->aX c ρ H (kvs.map (·.2)) (vs.map (·.2)) ->
  (PL.tU u kvs=none/\jC vs (vI u)=none)\/∃u' v',PL.tU u kvs=some u'/\jC vs (vI u)=some v'/\Rep c ρ H u' v':=by
 intro kvs;induction kvs with
 |nil=>intro vs hl _ _;cases vs with|nil=>erw[.inl #[rfl,rfl]]|cons _ _=>cases hl
 |cons p ps ih=>
  intro vs hl h1 h2;let#[a,w]:=p;cases vs with|nil=>cases hl|cons p vs=>?_
  let#[b,y]:=p;dsimp[au] at h1 h2;unfold aX at h1 h2;let#[v1,r1,e1,p1,q1]:=h1;let#[v2,r2,e2,p2,q2]:=h2;cases e1;cases e2;let#[ka,rfl]:=Mn p1;unfold PL.tU;by_cases ek:PL.NX a u=true
  .rw[if_pos ek,lD ((Ee ka hu).mp ek)]
   erw[.inr #[w,y,rfl,rfl,p2]]
  .rw[if_neg ek,lE λz=>ek ((Ee ka hu).mpr z)]
   erw[ih (ni hl) q1 q2]
theorem cz.dd(R:cz c ρ H S)(e:S[n]?=some (.dH kvs)\/S[n]?=some (.vx kvs))(r:Rep c ρ H (.loc n) v):
  ∃a vs,v=.ref a/\ρ[n]?=some a/\Rd H a (.dK vs)/\vs.length=kvs.length/\aX c ρ H (kvs.map (·.1)) (vs.map λp=>kV p.1)/\aX c ρ H (kvs.map (·.2)) (vs.map (·.2)):=by
 let#[a,ev,ha]:=eL.mp r;rcases e with e|e
 .let#[vs,h1,h2]:=R.at_ n a _ ha e
  exact#[a,vs,ev,ha,.inl h1,h2]
 .let#[o,vs,h1,h2]:=R.at_ n a _ ha e
  exact#[a,vs,ev,ha,.inr #[o,h1],h2]
end
theorem IF(hu:X.A.units+200<fF):iI X (bH .NotIn) (ur c .CM):=by
 x_go;let#[ux,uy,ρ,S,hx,hy,R,w]:=h;let#[n,rfl,w]:=PL.jt.mp (show PL.uC _ _ from w);let#[kvs,e,hk,w]:=PL.ja.mp w;let#[a,vs,rfl,_,g1,g2,g3,g4]:=R.dd e hy;cases (show u=bf a from ry);have g:sQ H a x (jC vs (vI ux)):=.inl #[vs,vI ux,g1,kq hk hx,rfl];rwa[LC ∅ I g rx λs' I'=>#[.bl _,H,I',rfl,?_]]
 rcases rX hk g2 g3 g4 with⟨l1,l2⟩|⟨u',v',l1,l2,_⟩<;>rw[l1] at w<;>rw[l2]<;>exact w
noncomputable def Ef:PL.NU->CmpOp
 |.eq=>.Eq|.ne=>.NotEq|.lt=>.Lt|.le=>.LtE|.gt=>.Gt|.ge=>.GtE|.isin=>.In|.md=>.NotIn|.LU=>.Is|.wM=>.IsNot|.CM=>.NotIn
theorem Eg(hK:X.K=c.K)(hP:X.w.params=c.w.params)(hu:X.A.units+200<fF)(o:PL.NU):iI X (bH (Ef o)) (ur c o):=by
 cases o
 .erw[P5 hK hu]
 .erw[P6 hK hu]
 .erw[P7]
 .erw[P8]
 .erw[P9]
 .erw[Qa]
 .erw[Qc hK hP]
 .erw[FT hK hu]
 .erw[Qb]
 .erw[IE]
 .erw[IF hu]
def Zf(c:Ctx):R2:=λx y H Q=>∃ux uy ρ S,Rep c ρ H ux x/\Rep c ρ H uy y/\cz c ρ H S/\PL.KH ux uy S λu=>∀v,Rep c ρ H u v->Q v H
theorem C3(r:aX c ρ H us vs)(h:PL.qp us i=some u):∃v,Pc vs i=some v/\Rep c ρ H u v:=by
 unfold PL.qp at h;unfold Pc;have e:Pb vs.length i=PL.LY us.length i:=by rw[r.len];rfl
 rw[e]
 cases q:PL.LY us.length i with
 |none=>rw[q] at h;cases h
 |some j=>
  rw[q] at h;erw[r.get h]
theorem xV:∀{ns:List Int},aX c ρ H (ns.map .int) (ns.map V.int)
 |[]=>aX.nil
 |n::ns=>aX.cons (aR.mpr rfl) xV
theorem Qd(hK:X.K=c.K)(hP:X.w.params=c.w.params):Su X (Zf c):=by
 intro value slice pZ s σ H x y v u Q I rx ry h hs;let#[ux,uy,ρ,S,hx,hy,R,w]:=h;cases ux<;>first|exact aO w|skip
 .rename_i l
  let#[i,rfl,w]:=PL.gC.mp w;let#[w1,w2]:=w;let#[k,g,w3]:=PL.jr.mp w2;erw[Pe value slice pZ s σ H x y v u Q I rx ry #[_,i,k,bA.mp hx,aR.mp hy,qt (by rw[dE];exact w1),g,w3 _ (bA.mpr rfl)] hs]
 .rename_i us
  let#[i,rfl,w]:=PL.gC.mp w;let#[w1,w2]:=w;let#[k,g,w3]:=PL.jr.mp w2;let#[p,vs,e,h1,h2]:=dB.mp hx;let#[z,e2,r2]:=C3 h2 g;erw[Pd value slice pZ s σ H x y v u Q I rx ry #[p,vs,i,z,e,aR.mp hy,oq.of h1,e2,w3 _ r2] hs]
 .rename_i n
  let#[i,rfl,w]:=PL.gC.mp w;let#[us,g0,w1]:=PL.cV.mp w;let#[k,g,w3]:=PL.jr.mp w1;let#[p,vs,e,_,h1,h2]:=R.lst g0 hx;let#[z,e2,r2]:=C3 h2 g;erw[DS value slice pZ s σ H x y v u Q I rx ry #[p,vs,i,z,e,aR.mp hy,i3.of h1,e2,w3 _ r2] hs]
 .rename_i ns
  let#[i,rfl,w]:=PL.gC.mp w;let#[w1,w2]:=w;let#[k,g,w3]:=PL.jr.mp w2;let#[p,e,h1]:=rV.mp hx;have g':PL.qp (ns.map U.int) i=some (.int k):=by
   unfold PL.qp at g ⊢;rw[af]
   cases q:PL.LY ns.length i with
   |none=>rw[q] at g;erw[nn g]
   |some j=>rw[q] at g;simp at g ⊢;erw[g]
  let#[z,e2,r2]:=C3 (c:=c) (ρ:=ρ) (H:=H) xV g';erw[DS value slice pZ s σ H x y v u Q I rx ry #[p,_,i,z,e,aR.mp hy,hK▸h1.sq,e2,w3 _ r2] hs]
 .rename_i kvs
  let#[k,rfl,w]:=PL.pH.mp w;let#[z,g,w3]:=PL.jr.mp w;let#[a,e,h1]:=uG.mp hx;erw[yY value slice pZ s σ H x y v u Q I rx ry #[a,_,_,_,e,bA.mp hy,by rw[hK,hP];exact h1,lookup_tab g,w3 _ (bA.mpr rfl)] hs]
def Zg(c:Ctx):V->Option Int->Option Int->Hp->VK->Prop:=λx lo hi H Q=>∃ux ρ S QU,Rep c ρ H ux x/\cz c ρ H S/\PL.Sy ux lo hi S QU/\QV c ρ H QU Q
theorem Qe{lo:Option Int}{n:Nat}(h:∀i,lo=some i->0<=i):HT.wI n 0 lo=min (lo.getD 0).toNat n:=by
 cases lo with
 |none=>simp[HT.wI]
 |some i=>have:=h i rfl;dsimp[HT.wI,dy];rw[if_neg ∅]
theorem Qf(h:∀i,hi=some i->0<=i):HT.wI n n hi=min (hi.getD n).toNat n:=by
 cases hi with
 |none=>simp[HT.wI]
 |some i=>have:=h i rfl;dsimp[HT.wI,dy];rw[if_neg ∅]
theorem Mo{ρ:List Addr}{H:Hp}{us:List U}{vs:List V}{lo hi:Option Int}(h1:∀i,lo=some i->0<=i)(h2:∀i,hi=some i->0<=i)(r:aX c ρ H us vs):aX c ρ H (PL.rH us lo hi) (Fq vs lo hi):=by
 unfold PL.rH Fq;rw[Qe h1,Qf h2,<-r.len]
 exact(r.drop _).take _
theorem Qg(hK:X.K=c.K):WY X (Zg c):=by
 intro pZ s σ H x v vl vu lo hi sl Q I rx hs pl pu h;let#[ux,ρ,S,QU,hx,R,#[#[b1,b2],w],q]:=h;cases ux<;>try exact aO w
 .rename_i l
  let#[w1,w2]:=w;rwa[Uo pZ s σ H x v vl vu lo hi sl Q I rx hs pl pu #[l,min (lo.getD 0).toNat l.length,min (hi.getD l.length).toNat l.length,bA.mp hx,qt w1,?_,?_,q.now R w2 (bA.mpr rfl)]]
  .cases lo with
   |none=>erw[.inl #[rfl,by simp]]
   |some a=>erw[.inr #[a,rfl,b1 a rfl,rfl]]
  .cases hi with
   |none=>erw[.inl #[rfl,by simp]]
   |some a=>erw[.inr #[a,rfl,b2 a rfl,rfl]]
 .rename_i n
  let#[us,g0,w1]:=PL.cV.mp w;let#[a,vs,e,_,g1,g2]:=R.lst g0 hx;erw[Lx pZ s σ H x v vl vu lo hi sl Q I rx hs pl pu #[a,vs,e,i3.of g1,λp hp=>q.FQ R (Mo b1 b2 g2) w1 hp]]
end
open PL (U SO bF Xn KU KX Spec cf)
def rY(c:Ctx)(b:PL.Up):List V->Hp->VK->Prop:=λxs H Q=>∃us ρ S QU,aX c ρ H us xs/\cz c ρ H S/\PL.sV b us S QU/\QV c ρ H QU Q
def qu(c:Ctx)(m:PL.LV):V->List V->Hp->VK->Prop:=λx xs H Q=>∃u us ρ S QU,Rep c ρ H u x/\aX c ρ H us xs/\cz c ρ H S/\PL.qg m u us S QU/\QV c ρ H QU Q
section
variable{X:Cx}{c:Ctx}{ρ:List Addr}{H:Hp}{S:bF}
theorem kC(h:aX c ρ H [u] vs):∃v,vs=[v]/\Rep c ρ H u v:=by
 unfold aX at h;let#[v,r,e,h1,h2]:=h;unfold aX at h2;subst h2;exact#[v,e,h1]
theorem Eh(h:aX c ρ H [u,w] vs):∃v z,vs=[v,z]/\Rep c ρ H u v/\Rep c ρ H w z:=by
 unfold aX at h;let#[v,r,e,h1,h2]:=h;let#[z,e2,h3]:=kC h2;subst e2;exact#[v,z,e,h1,h3]
theorem IG(hK:X.K=c.K)(R:cz c ρ H S)(r:Rep c ρ H u v)(h:PL.oE S u=some n)(hn:n<=1000000):TN X.K v H n\/(∃a kvs,v=.ref a/\H a=some (.dK kvs)/\n=kvs.length)\/∃a kvs,v=.ref a/\H a=some (.dP kvs)/\n=kvs.length:=by
 cases u with
 |str l=>rw[bA.mp r];obtain rfl:=aL h;erw[.inl #[qt (by rw[dE];exact hn),(dE l).symm]]
 |tup us=>
  let#[a,vs,e,h1,h2]:=dB.mp r;obtain rfl:=aL h;rw[e]
  erw[.inl (.inr #[vs,oq.of h1,h2.len])]
 |sF ns=>
  let#[a,e,h1]:=rV.mp r;obtain rfl:=aL h;rw[e]
  erw[.inl (.inl #[_,hK▸h1.sq,by simp])]
 |loc m=>
  unfold PL.oE at h;cases q:S[m]? with
  |none=>dsimp[q] at h;erw[nn h]
  |some o=>
   dsimp[q] at h;cases o with
   |lst us=>
    let#[a,vs,e,_,h1,h2]:=R.lst q r;simp at h;subst h;rw[e]
    erw[.inl (.inl #[vs,i3.of h1,h2.len])]
   |dH kvs=>
    let#[a,e,ha]:=eL.mp r;let#[vs,h1,h2,_]:=R.at_ m a _ ha q;simp at h;subst h;erw[.inr (.inl #[a,vs,e,h1,h2.symm])]
   |wL kvs=>
    let#[a,e,ha]:=eL.mp r;let#[vs,h1,h2,_]:=R.at_ m a _ ha q;simp at h;subst h;exact .inr (.inr #[a,vs,e,h1,by have:=congrArg cA h2;simpa using this.symm])
   |ins x fs=>erw[nn h]
   |vx x=>erw[nn h]
   |uh x=>erw[nn h]
 |_=>erw[nn h]
theorem Mp(hK:X.K=c.K):iN X (.builtin "len") (rY c .len):=by
 k_ne;let#[ux,ρ,S,QU,hx,R,w,q]:=h
 match ux,w with
 |[u],w=>
  let#[n,e,w1,w2]:=PL.jr.mp (show PL.opt _ _ from w);let#[v,e1,r1]:=kC hx;rcases IG hK R r1 e w1 with l|⟨a,kvs,e2,g,e3⟩|⟨a,kvs,e2,g,e3⟩
  .erw[Hv pZ s σ H xs us Q I r #[v,n,e1,l,q.now R w2 (aR.mpr rfl)]]
  .erw[Fx pZ s σ H xs us Q I r #[a,kvs,by rw[e1,e2],g,by rw[<-e3];exact q.now R w2 (aR.mpr rfl)]]
  .erw[FJ pZ s σ H xs us Q I r #[a,kvs,by rw[e1,e2],g,by rw[<-e3];exact q.now R w2 (aR.mpr rfl)]]
theorem FU(hK:X.K=c.K):iN X (.type "tuple") (rY c .tuple):=by
 k_ne;let#[ux,ρ,S,QU,hx,R,w,q]:=h
 match ux,w with
 |[.loc n],w=>
  let#[us',e,w1]:=PL.cV.mp (show PL.getL _ _ from w);let#[v,e1,r1]:=kC hx;let#[a,vs,e2,_,g1,g2]:=R.lst e r1;erw[wK pZ s σ H xs us Q I r #[a,vs,by rw[e1,e2],.inl #[i3.of g1,λl hl=>q.P1 R g2 w1 hl]]]
theorem II(hK:X.K=c.K):iN X (.type "list") (rY c .list):=by
 k_ne;let#[ux,ρ,S,QU,hx,R,w,q]:=h
 match ux,w with
 |[.loc n],w=>
  let#[us',e,w1]:=PL.cV.mp (show PL.getL _ _ from w);let#[v,e1,r1]:=kC hx;let#[a,vs,e2,_,g1,g2]:=R.lst e r1;erw[rE pZ s σ H xs us Q I r #[a,vs,by rw[e1,e2],.inl (i3.of g1),λl hl=>q.FQ R g2 w1 hl]]
 |[.tup us'],w=>
  let#[v,e1,r1]:=kC hx;let#[a,vs,e2,g1,g2]:=dB.mp r1;erw[rE pZ s σ H xs us Q I r #[a,vs,by rw[e1,e2],.inr (oq.of g1),λl hl=>q.FQ R g2 w.2 hl]]
theorem qK:∀{bs:List Bool}{vs:List V},aX c ρ H (bs.map .bl) vs->vs=bs.map V.bl
 |[],_,h=>by unfold aX at h;erw[h]
 |t::ts,_,h=>by
  rw[au] at h;unfold aX at h;let#[v,r,e,h1,h2]:=h;rw[e,fA.mp h1,qK h2];rfl
theorem lH:∀{bs:List Int}{vs:List V},aX c ρ H (bs.map .int) vs->vs=bs.map V.int
 |[],_,h=>by unfold aX at h;erw[h]
 |t::ts,_,h=>by
  rw[au] at h;unfold aX at h;let#[v,r,e,h1,h2]:=h;rw[e,aR.mp h1,lH h2];rfl
theorem IJ(hc:X.calm=true):iN X (.builtin "all") (rY c .all):=by
 k_ne;let#[ux,ρ,S,QU,hx,R,w,q]:=h
 match ux,w with
 |[.loc n],w=>
  let#[bs,e,w1]:=w;let#[v,e1,r1]:=kC hx;let#[a,vs,e2,_,g1,g2]:=R.lst e r1;rw[qK g2] at g1;erw[CO hc pZ s σ H xs us Q I r #[a,bs,by rw[e1,e2],i3.of g1,q.now R w1 (fA.mpr rfl)]]
theorem Mq(hc:X.calm=true):iN X (.builtin "sum") (rY c .sum):=by
 k_ne;let#[ux,ρ,S,QU,hx,R,w,q]:=h
 match ux,w with
 |[.loc n],w=>
  let#[bs,e,w1]:=w;let#[v,e1,r1]:=kC hx;let#[a,vs,e2,_,g1,g2]:=R.lst e r1;rw[lH g2] at g1;erw[CP hc pZ s σ H xs us Q I r #[a,bs,by rw[e1,e2],i3.of g1,q.now R w1 (aR.mpr rfl)]]
theorem Mr(hc:X.calm=true):iN X (.builtin "max") (rY c .max):=by
 k_ne;let#[ux,ρ,S,QU,hx,R,w,q]:=h
 match ux,w with
 |[.loc n],w=>
  let#[i,is,e,w1]:=w;let#[v,e1,r1]:=kC hx;let#[a,vs,e2,_,g1,g2]:=R.lst e r1;rw[lH g2] at g1;erw[CV hc pZ s σ H xs us Q I r #[a,i,is,by rw[e1,e2],i3.of g1,λm h1 h2=>q.now R (w1 m h1 h2) (aR.mpr rfl)]]
theorem IK(hc:X.calm=true):iN X (.builtin "any") (rY c .any):=by
 k_ne;let#[ux,ρ,S,QU,hx,R,w,q]:=h
 match ux,w with
 |[.loc n],w=>
  let#[bs,e,w1]:=w;let#[v,e1,r1]:=kC hx;let#[a,vs,e2,_,g1,g2]:=R.lst e r1;rw[qK g2] at g1;erw[CU hc pZ s σ H xs us Q I r #[a,bs,by rw[e1,e2],i3.of g1,q.now R w1 (fA.mpr rfl)]]
theorem vJ:∀{ps:List (List Nat×U)}{vs:List V},aX c ρ H (ps.map λp=>.tup [.str p.1,p.2]) vs->∃kvs:List (Key×V),Paired (PB H) vs kvs/\kvs.map (·.1)=ps.map (λp=>jf (some (tx p.1)))/\aX c ρ H (ps.map (·.2)) (kvs.map (·.2))
 |[],_,h=>by
  unfold aX at h;subst h;exact#[[],.nil,rfl,aX.nil]
 | (k,u)::ps,_,h=>by
  rw[au] at h;unfold aX at h;let#[v,r,e,h1,h2]:=h;subst e;let#[kvs,g1,g2,g3]:=vJ h2;let#[a,vs,e1,ha,hr]:=dB.mp h1;let#[x,y,e2,r1,r2]:=Eh hr;subst e2;rw[bA.mp r1] at ha;exact#[(jf (some (tx k)),y)::kvs,.cons #[a,e1,ha] g1,by rw[au,au,g2],aX.cons r2 g3]
theorem xW:∀{ks:List (List Nat)},aX c ρ H (ks.map .str) (ks.map λk=>kV (jf (some (tx k))))
 |[]=>aX.nil
 |_::_=>aX.cons (bA.mpr rfl) xW
theorem IL(hA:X.A.handled=none):iN X (.type "dict") (rY c .dict):=by
 k_ne;let#[ux,ρ,S,QU,hx,R,w,q]:=h
 match ux,w with
 |[.loc n],w=>
  let#[ps,e,nd,w1]:=w;let#[v,e1,r1]:=kC hx;let#[a,vs,e2,_,g1,g2]:=R.lst e r1;let#[kvs,k1,k2,k3]:=vJ g2;rwa[CS hA pZ s σ H xs us Q I r #[a,vs,kvs,by rw[e1,e2],g1,k1,?_,λp hp=>?_]]
  .rw[k2,show ps.map (λp=>(jf (some (tx p.1)):Key))=(ps.map (·.1)).map (λk=>jf (some (tx k))) by rw[bu];rfl]
   erw[xy _ (λa b h e=>h (qG (aL (tG e)))) nd]
  .have st:=iu.alloc R hp (.dK kvs)
   have e5:kvs.map (λp=>kV p.1)=(ps.map (·.1)).map λk=>kV (jf (some (tx k))):=by
    rw[show kvs.map (λp=>kV p.1)=(kvs.map (·.1)).map kV by rw[bu];rfl,k2,bu,bu];rfl
   have R':cz c (ρ++[p]) (upd H p (.dK kvs)) (S++[.dH (ps.map λp=>(.str p.1,p.2))]):=R.alloc hp #[kvs,cg,by have:=congrArg cA k2;simpa using this,by
     rw[e5,bu,show(DI∘λp:List Nat×U=>(U.str p.1,p.2))=U.str∘DI from rfl,<-bu];erw[xW],by
     rw[bu];erw[k3.mono R st]]
   rwa[q _ _ _ _ _ w1 st R' (eL.mpr #[p,rfl,?_])];rw[<-R.len,ax (ak _),b8];rfl
theorem C4:yP X "int.bit_length" (qu c .nI):=by
 intro pZ s σ H x xs v us Q I rx r h;let#[u,ux,ρ,S,QU,hu,hx,R,w,q]:=h
 match u,ux,w with
 |.int i,[],w=>
  let#[w0,w1]:=w;unfold aX at hx;rwa[FI pZ s σ H x xs v us Q I rx r #[i.toNat,by rw[aR.mp hu];congr 1;omega,hx,q.now R w1 (aR.mpr rfl)]]
theorem Ms:∀{ps:List (List Nat×U)}{vs:List (Key×V)}{k:List Nat},vs.length=(ps.map λp=>(U.str p.1,p.2)).length->aX c ρ H ((ps.map λp=>(U.str p.1,p.2)).map (·.1)) (vs.map λp=>kV p.1)->aX c ρ H ((ps.map λp=>(U.str p.1,p.2)).map (·.2)) (vs.map (·.2)) ->
  (ps.lookup k=none/\jC vs (jf (some (tx k)))=none)\/∃u v,ps.lookup k=some u/\jC vs (jf (some (tx k)))=some v/\Rep c ρ H u v
 := by
 intro ps;induction ps with
 |nil=>intro vs k hl _ _;cases vs with|nil=>erw[.inl #[rfl,rfl]]|cons _ _=>cases hl
 |cons p ps ih=>
  intro vs k hl h1 h2;let#[a,u]:=p;cases vs with|nil=>cases hl|cons p vs=>?_
  let#[b,y]:=p;dsimp[au] at h1 h2;unfold aX at h1 h2;let#[v1,r1,e1,p1,q1]:=h1;let#[v2,r2,e2,p2,q2]:=h2;cases e1;cases e2;have eb:b=jf (some (tx a)):=by
   have:=bA.mp p1;erw[Pk (b:=jf (some (tx a))) this]
  subst eb;by_cases ek:k=a
  .subst ek
   erw[.inr #[u,y,by simp,lD rfl,p2]]
  .have e3:(k==a)=false:=by simp[ek]
   rw[aK,e3,lE (λz=>ek (qG (aL (tG z))).symm)]
   erw[ih (ni hl) q1 q2]
theorem join_eq(sep:List Nat):∀ts:List (List Nat),vq sep ts=PL.me sep ts
 |[]=>rfl
 |[x]=>rfl
 |x::y::r=>by
  unfold vq PL.me;rw[join_eq sep (y::r)]
theorem sY:∀{ts:List (List Nat)}{vs:List V},aX c ρ H (ts.map .str) vs->vs=ts.map λt=>V.str (tx t)
 |[],_,h=>by unfold aX at h;erw[h]
 |t::ts,_,h=>by
  rw[au] at h;unfold aX at h;let#[v,r,e,h1,h2]:=h;rw[e,bA.mp h1,sY h2];rfl
theorem IM(hK:X.K=c.K):yP X "str.join" (qu c .join):=by
 intro pZ s σ H x xs v us Q I rx r h;let#[u,ux,ρ,S,QU,hu,hx,R,w,q]:=h
 match u,ux,w with
 |.str sep,[.loc n],w=>
  let#[ts,e,w1,w2]:=w;let#[z,e1,r1]:=kC hx;let#[a,vs,e2,_,g1,g2]:=R.lst e r1;rw[sY g2] at g1;erw[DY pZ s σ H x xs v us Q I rx r #[sep,ts,a,bA.mp hu,by rw[e1,e2],i3.of g1,w1,by rw[join_eq];exact q.now R w2 (bA.mpr rfl)]]
theorem C5:yP X "str.startswith" (qu c .startswith):=by
 intro pZ s σ H x xs v us Q I rx r h;let#[u,ux,ρ,S,QU,hu,hx,R,w,q]:=h
 match u,ux,w with
 |.str l,[.str k],w=>
  let#[z,e1,r1]:=kC hx;erw[xP pZ s σ H x xs v us Q I rx r #[l,k,bA.mp hu,by rw[e1,bA.mp r1],q.now R w (fA.mpr rfl)]]
theorem FV(hA:X.A.handled=none):yP X "str.index" (qu c .index):=by
 intro pZ s σ H x xs v us Q I rx r h;let#[u,ux,ρ,S,QU,hu,hx,R,w,q]:=h
 match u,ux,w with
 |.str l,[.str k],w=>
  let#[d,e,w1,w2]:=w;subst e;let#[z,e1,r1]:=kC hx;erw[AU hA pZ s σ H x xs v us Q I rx r #[l,d,bA.mp hu,by rw[e1,bA.mp r1],w1,q.now R w2 (aR.mpr rfl)]]
theorem Bc{j:Nat}{u z:U}{v:V}(f:PL.flat u=true)(h:Rep c ρ H u v){us:List U}{vs:List V}(a:us.all PL.flat=true)(r:aX c ρ H us vs)(ej:us[j]?=some z)(e:PL.rG z u=true)(no:∀(i:Nat) (z':U),i<j->us[i]?=some z'->PL.rG z' u=false):∃y,vs[j]?=some y/\BZ y v=true/\∀(i:Nat)(y':V),i<j->vs[i]?=some y'->BZ y' v=false:=by
 have fl:∀(i:Nat)(x:U),us[i]?=some x->PL.flat x=true:=λi x q=>bI.mp a x (ah q)
 let#[y,h1,h2]:=r.get ej;refine#[y,h1,(zq (fl j z ej) f h2 h).trans e,λi y' lt q=>?_];have il:i<us.length:=jN lt (ab.mp ej).1;have ei:=aa il;let#[y2,h3,h4]:=r.get ei;rw[q] at h3;cases h3;exact(zq (fl i _ ei) f h4 h).trans (no i _ lt ei)
theorem IP(hK:X.K=c.K):yP X "list.index" (qu c .wN):=by
 intro pZ s σ H x xs v us Q I rx r h;let#[u,ux,ρ,S,QU,hu,hx,R,w,q]:=h
 match u,ux,w with
 |.loc n,[k],w=>
  let#[us',e,#[f1,f2],j,z0,e0,e1,no,w2]:=PL.cV.mp (show PL.getL _ _ from w);let#[z,e2,r1]:=kC hx;let#[a,vs,e3,ha,g1,g2]:=R.lst e hu;let#[y,h1,h2,h3]:=Bc f1 r1 f2 g2 e0 e1 no;erw[Ea pZ s σ H x xs v us Q I rx r #[a,z,vs,j,y,e3,e2,i3.of g1,lG f1 r1,(nW f1 r1 f2 g2).1,h1,h2,h3,q.now R w2 (aR.mpr rfl)]]
theorem IQ(hK:X.K=c.K):yP X "tuple.index" (qu c .wO):=by
 intro pZ s σ H x xs v us Q I rx r h;let#[u,ux,ρ,S,QU,hu,hx,R,w,q]:=h
 match u,ux,w with
 |.tup us',[k],w=>
  let#[#[f1,f2],j,z0,e0,e1,no,w2]:=w;let#[z,e2,r1]:=kC hx;let#[a,vs,e3,g1,g2]:=dB.mp hu;let#[y,h1,h2,h3]:=Bc f1 r1 f2 g2 e0 e1 no;erw[Eb pZ s σ H x xs v us Q I rx r #[a,z,vs,j,y,e3,e2,oq.of g1,lG f1 r1,(nW f1 r1 f2 g2).1,h1,h2,h3,q.now R w2 (aR.mpr rfl)]]
theorem QV.putL(q:QV c ρ H QU Q)(R:cz c ρ H S)(ha:ρ[n]?=some a)(hw:H a=some (.lst ws))(r:aX c ρ H us vs)(h:QU .bQ (S.set n (.lst us))):Q .bQ (upd H a (.lst vs)):=by
 have st:=iu.put (H:=H) (ah ha) hw rfl (.lst vs);erw[q _ _ _ _ _ h st (R.put ha hw rfl #[vs,cg,r.mono R st]) (fc.mpr rfl)]
theorem C6:yP X "list.append" (qu c .append):=by
 intro pZ s σ H x xs v us Q I rx r h;let#[u,ux,ρ,S,QU,hu,hx,R,w,q]:=h
 match u,ux,w with
 |.loc n,[k],w=>
  let#[us',e,w1,w2]:=PL.cV.mp (show PL.getL _ _ from w);let#[z,e1,r1]:=kC hx;let#[a,vs,e2,ha,g1,g2]:=R.lst e hu;rwa[sO pZ s σ H x xs v us Q I rx r #[a,vs,z,e2,e1,g1,?_,q.putL R ha g1 (g2.app (aX.cons r1 aX.nil)) w2]];rw[<-g2.len];erw[av w1 ⋯]
theorem C7:yP X "list.extend" (qu c .extend):=by
 intro pZ s σ H x xs v us Q I rx r h;let#[u,ux,ρ,S,QU,hu,hx,R,w,q]:=h
 match u,ux,w with
 |.loc n,[.loc m],w=>
  let#[us',e,w1]:=PL.cV.mp (show PL.getL _ _ from w);let#[ws,e',w2,w3]:=PL.cV.mp w1;let#[z,e1,r1]:=kC hx;let#[a,vs,e2,ha,g1,g2]:=R.lst e hu;let#[b,zs,e3,hb,g3,g4]:=R.lst e' r1;erw[xJ pZ s σ H x xs v us Q I rx r #[a,b,vs,zs,e2,by rw[e1,e3],g1,g3,qt (by rw[<-g2.len,<-g4.len];exact w2),q.putL R ha g1 (g2.app g4) w3]]
theorem Ei{κ κ':Type}[BEq κ][LawfulBEq κ][DecidableEq κ'](f:κ->κ')(hf:∀a b,f a=f b->a=b)(k:κ):∀{kvs:List (κ×U)}{vs:List (κ'×V)},vs.map (·.1)=kvs.map (λp=>f p.1)->aX c ρ H (kvs.map (·.2)) (vs.map (·.2)) ->
  (kvs.lookup k=none/\jC vs (f k)=none)\/∃u v,kvs.lookup k=some u/\jC vs (f k)=some v/\Rep c ρ H u v:=by
 intro kvs;induction kvs with
 |nil=>intro vs hk _;cases vs with|nil=>erw[.inl #[rfl,rfl]]|cons _ _=>cases hk
 |cons p ps ih=>
  intro vs hk h2;let#[a,w]:=p;cases vs with|nil=>cases hk|cons p vs=>?_
  let#[b,y]:=p;dsimp[au,dJ] at h2 hk;unfold aX at h2;let#[v2,r2,e2,p2,q2]:=h2;cases e2;let#[rfl,hk]:=hk;by_cases e:k=a
  .subst e
   erw[.inr #[w,y,by simp,lD rfl,p2]]
  .have e3:(k==a)=false:=by simp[e]
   rw[aK,e3,lE λz=>e (hf _ _ z).symm]
   erw[ih hk q2]
theorem QV.Qh(q:QV c ρ H QU Q)(R:cz c ρ H S)(ha:ρ[n]?=some a)(e:H a=some hw)(nf:P0 hw=false)(r:Rep c ρ H u v)(w:QU u (S.set n o))
  (hr:iu ρ H ρ (upd H a ho)->uo c ρ (upd H a ho) a o):Q v (upd H a ho):=by
 have st:=iu.put (H:=H) (ah ha) e nf ho;erw[q _ _ _ _ _ w st (R.put ha e nf (hr st)) (r.mono R st)]
theorem IS(hu:X.A.units+200<fF):yP X "dict.setdefault" (qu c .nJ):=by
 intro pZ s σ H x xs v us Q I rx r h;let#[u,ux,ρ,S,QU,hu',hx,R,w,q]:=h
 match u,ux,w with
 |.loc n,[k,d],w=>
  have w:PL.o7 S n k d QU:=w;let#[a,e0,ha]:=eL.mp hu';let#[y,z,e1,r1,r2]:=Eh hx;rwa[LJ ∅ pZ s σ H x xs v us Q I rx r ?_];unfold PL.o7 at w;cases hs:S[n]? with
  |none=>rw[hs] at w;erw[w.elim]
  |some o=>
   rw[hs] at w;cases o with
   |dH kvs=>
    let#[#[hk,hl],w]:=w;let#[vs,g1,g2,g3,g4]:=R.at_ n a _ ha hs;have hl':vs.length<sizeLine:=by rw[g2];erw[av hl ⋯]
    rcases rX hk g2 g3 g4 with⟨l1,l2⟩|⟨u',v',l1,l2,l3⟩
    .rw[l1] at w
     refine#[a,y,z,z,_,e0,e1,.inl #[vs,vI k,g1,kq hk r1,hl',.inr #[l2,rfl,rfl]],q.Qh R ha g1 rfl r2 w λst=>#[_,cg,by simp[g2],?_,?_]]
     .rw[aD,aD]
      exact(g3.mono R st).app (aX.cons (show Rep c ρ _ k (kV (vI k)) by rw[<-kq hk r1];erw[r1.mono R st]) aX.nil)
     .rw[aD,aD]
      exact(g4.mono R st).app (aX.cons (r2.mono R st) aX.nil)
    .rw[l1] at w
     exact#[a,y,z,v',H,e0,e1,.inl #[vs,vI k,g1,kq hk r1,hl',.inl #[l2,rfl]],q.now R w l3]
   |uh kvs=>
    let#[ks,rfl,hl,w]:=w;let#[vs,g1,g2,g4]:=R.at_ n a _ ha hs;have hl':vs.length<sizeLine:=by
     have:=congrArg cA g2;simp at this;rw[this];erw[av hl ⋯]
    let#[b,ws,e2,hb,hw]:=dB.mp r1;rw[lH hw,show ks.map V.int=(ks.map xh).map kV by rw[bu];rfl] at hb;rcases Ei (λl:List Int=>l.map (xh:Int->Key)) (λa b e=>(sA (λ_ _ e=>Ag e)).mp e) ks g2 g4 with⟨l1,l2⟩|⟨u',v',l1,l2,l3⟩
    .rw[l1] at w
     refine#[a,y,z,z,_,e0,e1,.inr (.inl #[vs,_,b,g1,e2,hb,hl',.inr #[l2,rfl,rfl]]),q.Qh R ha g1 rfl r2 w λst=>#[_,cg,by simp[g2],?_]];rw[aD,aD]
     exact(g4.mono R st).app (aX.cons (r2.mono R st) aX.nil)
    .rw[l1] at w
     exact#[a,y,z,v',H,e0,e1,.inr (.inl #[vs,_,b,g1,e2,hb,hl',.inl #[l2,rfl]]),q.now R w l3]
   |wL kvs=>
    let#[i,ks,rfl,hl,w]:=w;let#[vs,g1,g2,g4]:=R.at_ n a _ ha hs;have hl':vs.length<sizeLine:=by
     have:=congrArg cA g2;simp at this;rw[this];erw[av hl ⋯]
    let#[b,ws,e2,hb,hw]:=dB.mp r1;let#[x1,x2,e3,hi,ht]:=Eh hw;let#[b2,ws2,e4,hb2,hw2]:=dB.mp ht;rw[lH hw2] at hb2;rw[e3,aR.mp hi,e4] at hb;rcases Ei (λp:Int×List Int=>p) (λa b e=>e) (i,ks) g2 g4 with⟨l1,l2⟩|⟨u',v',l1,l2,l3⟩
    .rw[l1] at w
     refine#[a,y,z,z,_,e0,e1,.inr (.inr #[vs,(i,ks),b,b2,g1,e2,hb,hb2,hl',.inr #[l2,rfl,rfl]]),q.Qh R ha g1 rfl r2 w λst=>#[_,cg,by simp[g2],?_]];rw[aD,aD]
     exact(g4.mono R st).app (aX.cons (r2.mono R st) aX.nil)
    .rw[l1] at w
     exact#[a,y,z,v',H,e0,e1,.inr (.inr #[vs,(i,ks),b,b2,g1,e2,hb,hb2,hl',.inl #[l2,rfl]]),q.now R w l3]
   |_=>erw[w.elim]
theorem Mt(hK:X.K=c.K)(R:cz c ρ H S)(r:Rep c ρ H u v)(h:PL.vz S u=some b):O4 X.K v H b:=by
 cases u with
 |bQ=>rw[fc.mp r];exact(aL h).symm
 |bl k=>rw[fA.mp r];exact(aL h).symm
 |int i=>rw[aR.mp r];exact(aL h).symm
 |str l=>erw[nn h]
 |tup us=>
  let#[a,vs,e,h1,h2]:=dB.mp r;simp[PL.vz,PL.oE] at h;rw[e]
  rwa[.inr (.inl #[vs,oq.of h1,?_])];have:=h2.len;rw[<-h]
  cases us<;>cases vs<;>simp at this ⊢
 |sF ns=>
  let#[a,e,h1]:=rV.mp r;simp[PL.vz,PL.oE] at h;rw[e]
  rwa[.inl #[_,hK▸h1.sq,?_]];rw[<-h]
  cases ns<;>simp
 |loc m=>
  unfold PL.vz PL.oE at h;cases q:S[m]? with
  |none=>dsimp[q] at h;erw[nn h]
  |some o=>
   dsimp[q] at h;cases o with
   |lst us=>
    let#[a,vs,e,_,h1,h2]:=R.lst q r;simp at h;rw[e]
    rwa[.inl #[vs,i3.of h1,?_]];have:=h2.len;rw[<-h]
    cases us<;>cases vs<;>simp at this ⊢
   |dH kvs=>
    let#[a,e,ha]:=eL.mp r;let#[vs,h1,h2,_]:=R.at_ m a _ ha q;simp at h;rw[e]
    rwa[.inr (.inr #[vs,h1,?_])];rw[<-h]
    cases kvs<;>cases vs<;>simp at h2 ⊢
   |ins x fs=>erw[nn h]
   |vx x=>erw[nn h]
   |uh x=>erw[nn h]
   |wL x=>erw[nn h]
 |_=>erw[nn h]
end
open PL (U SO bF Xn KU KX cf)
structure xX where
 cls:String->Option Addr
noncomputable abbrev Cx.cc(X:Cx)(t:xX):Ctx:=#[X.prog,X.w,X.K,X.mg,X.base,t.cls]
def lift(c:Ctx)(sp:PL.Spec):Sp:=λvs H Q E=>∃us ρ S QU EU,aX c ρ H us vs/\cz c ρ H S/\sp us S QU EU/\QV c ρ H QU Q/\QX c ρ H EU E
def FnAt(c:Ctx)(k:Nat)(f:Addr)(sp:PL.Spec):Prop:=∃fd ps,kI c.P c.w c.K c.mg c.base (ug c.P c.w) k f fd ps (lift c sp)/\Binds c.K fd ps []
structure IT(c:Ctx)(T:Tab):Prop where
 const:∀p∈T.const,∃v u,c.mg (nm p.1)=some u/\RelV v u/\∀ρ H,Rep c ρ H p.2 v
 mJ:∀x∈T.mJ,c.mg (nm x)=none
 cls:∀x C,c.cls x=some C->yL c.K C/\∀f∈T.zh,mF c.K C (nm f)
structure gE(c:Ctx)(T:Tab)(Γ:cf)(k:Nat):Prop where
 fns:∀x∈T.fns,∃f,c.mg (nm x)=some (.ref f)/\Cd c.K (.ref f)=true/\FnAt c k f (Γ x)
 SF:∀p∈T.qJ,∃C f,c.cls p.2=some C/\Meth c.K C (nm p.1) f/\FnAt c k f (Γ (p.2++"."++p.1))
 cls:∀x∈T.qI,∃C f,c.cls x=some C/\c.mg (nm x)=some (.ref C)/\Mk c.K C f/\FnAt c k f (Γ (x++".__init__"))
structure Good(t:xX)(T:Tab)(Γ:cf)(k:Nat)(I:Inf)(X:Cx):Prop where
 tab:IT (X.cc t) T
 Mu:gE (X.cc t) T Γ k
 kind:X.env.scope.kind=.function
 names:X.env.scope.names=I.names
 slots:X.N=I.N
 nd:X.N.Nodup
 calm:I.calm=true->X.calm=true/\kH (k+1) X.A
 units:X.A.units+200<fF
theorem Good.at_{t:xX}{T:Tab}{Γ:cf}{k:Nat}{I:Inf}{X:Cx}{pZ:List (Addr×Obj)}{E:St->XK}(G:Good t T Γ k I X):Good t T Γ k I (X.at_ pZ E):=
 #[G.tab,G.Mu,G.kind,G.names,G.slots,G.nd,G.calm,G.units]
def C8(c:Ctx)(ρ:List Addr)(H:Hp)(J:It)(us:List U)(g:bF->Prop):Prop:=
 ∀(i:Nat)(ρ2:List Addr)(H2:Hp)(S2:bF),iu ρ H ρ2 H2->cz c ρ2 H2 S2->g S2 ->
  (∀u,us[i]?=some u->J.go i H2/\∀y H3,J.Ts i H2 y H3->iu ρ2 H2 ρ2 H3/\cz c ρ2 H3 S2/\Rep c ρ2 H3 u y)/\(us.length<=i->J.stop i H2)
def QI(c:Ctx)(ρ:List Addr)(H:Hp)(RU:List U->(bF->Prop)->bF->Prop)(R:It->Hp->Prop):Prop:=
 ∀us g S' H' ρ' J,RU us g S'->iu ρ H ρ' H'->cz c ρ' H' S'->C8 c ρ' H' J us g->R J H'
def zr(c:Ctx)(Γ:cf)(x:PL.It):XK->TI:=λE σ H R=>∃env ρ S RU EU,jR c ρ H env σ/\cz c ρ H S/\PL.WI Γ x env S RU EU/\QI c ρ H RU R/\QX c ρ H EU E
def QO(c:Ctx)(ρ:List Addr)(H:Hp)(QU:Option Int->bF->Prop)(Q:Option Int->Hp->Prop):Prop:=∀o S' H' ρ',QU o S'->iu ρ H ρ' H'->cz c ρ' H' S'->Q o H'
def Xj(c:Ctx)(Γ:cf)(x:PL.Ox):XK->TO:=λE σ H Q=>∃env ρ S QU EU,jR c ρ H env σ/\cz c ρ H S/\PL.WO Γ x env S QU EU/\QO c ρ H QU Q/\QX c ρ H EU E
structure FW(t:xX)(T:Tab)(Γ:cf)(k n:Nat):Prop where
 fe:∀{I X e x},Good t T Γ k I X->cE T n I e=some x->dZ X e (tE (X.cc t) Γ x)
 UP:∀{I X es xs},Good t T Γ k I X->SD T n I es=some xs->C2 X es (GV (X.cc t) Γ xs)
 Zh:∀{I X op vs x pos},Good t T Γ k I X->Xg T n I op vs=some x->dZ X (.BoolOp op vs pos) (tE (X.cc t) Γ x)
 fo:∀{I X oe x},Good t T Γ k I X->cO T n I oe=some x->∀pZ E,PO (X.at_ pZ E) oe (λσ H Q=>Xj (X.cc t) Γ x (E σ) σ H Q)
 fi:∀{I X e x tg},Good t T Γ k I X->cI T n I e=some x->∀pZ E,PI (X.at_ pZ E) tg e (λσ H R=>zr (X.cc t) Γ x (E σ) σ H R)
 fn:∀{I X e x es ek tp},Good t T Γ k I X->cN T n I e=some x->∀pZ E,PI (X.at_ pZ E) (.Tuple es ek tp) e (λσ H R=>zr (X.cc t) Γ x (E σ) σ H R)
 ft:∀{I X e x},Good t T Γ k I X->cT T n I e=some x->C1 X e (tT (X.cc t) Γ x)
 Zi:∀{I X op vs x pos},Good t T Γ k I X->Xh T n I op vs=some x->∀pZ E,PW (X.at_ pZ E) (.BoolOp op vs pos) (λσ H Q=>tT (X.cc t) Γ x (E σ) σ H Q)
section
variable{t:xX}{T:Tab}{Γ:cf}{k n:Nat}{I:Inf}{X:Cx}
theorem fB:∀{l:List Str}{i:Nat},eG x l=some i->l[i]?=some x
 |[],_,h=>nn h
 |y::ys,i,h=>by
  unfold eG at h;by_cases e:y=x
  .rw[if_pos e] at h;injection h with h;subst h;subst e;rfl
  .rw[if_neg e] at h
   cases q:eG x ys with
   |none=>rw[q] at h;cases h
   |some j=>rw[q] at h;simp at h;subst h;simpa using fB q
theorem Qi(h:L9 (names.lookup x)=true)(e:sc.names=names):SW sc x:=by
 rw[<-e] at h;unfold SW;cases q:sc.names.lookup x with
 |none=>rw[q] at h;cases h
 |some kd=>rw[q] at h;cases kd<;>simp[L9] at h<;>simp
theorem Mv(G:Good t T Γ k I X)(h:eG x I.N=some i)(hv:L9 (I.names.lookup x)=true)(h1:(x==("__debug__":Str))=false)(h2:(x==("__classdict__":Str))=false):dZ X (.Name x pos) (tE (X.cc t) Γ (.var i)):=by
 rwa[up λpZ E=>(OB (i:=i) (X:=X.at_ pZ E) (by show X.N[i]?=some x;rw[G.slots];erw[fB h]) (Qi hv G.names) h1 h2).imp ?_]
 kd_p;let#[u,e,w]:=PL.AW.mp (show PL.za _ _ from w);let#[v,e1,r]:=he.at_ i u e;exact#[v,e1,q.now R w r]
theorem rZ{e:Expr}{u:U}{v:V}(h:∀(pZ:List (Addr×Obj)) E,PE (X.at_ pZ E) e (tC v))(r:∀ρ H,Rep (X.cc t) ρ H u v):dZ X e (tE (X.cc t) Γ (.lit u)):=by
 rwa[up λpZ E=>(h pZ E).imp ?_]
 kd_p;erw[q.now R w (r ρ H)]
theorem m7(h:pick l x=some s):s∈l/\nm s=x:=by
 unfold pick at h;exact#[yF h,by simpa using K2 h]
theorem xY{α:Type}{l:List (String×α)}{x:Str}{s:String×α}(h:A8 l x=some s):s∈l/\nm s.1=x:=by
 unfold A8 at h;exact#[yF h,by simpa using K2 h]
theorem jL(G:Good t T Γ k I X){x:Str}(h:I.gl x=true):Gl X x:=by
 unfold Inf.gl at h;show X.env.scope.names.lookup x=_;rw[G.names]
 simpa using h
theorem IU{x:Str}{pos:Pos}{p:String×U}(G:Good t T Γ k I X)(hg:I.gl x=true)(h:A8 T.const x=some p)(h1:(x==("__debug__":Str))=false):dZ X (.Name x pos) (tE (X.cc t) Γ (.lit p.2)):=by
 let#[hm,e]:=xY h;let#[v,u,e1,rv,r]:=G.tab.const p hm;subst e;erw[rZ (λpZ E=>La (X:=X.at_ pZ E) (jL G hg) e1 rv h1) r]
theorem Qj(G:Good t T Γ k I X)(ho:UG op=some o)(ha:∀pZ E,dZ (X.at_ pZ E) a (tE (X.cc t) Γ x))(hb:∀pZ E,dZ (X.at_ pZ E) b (tE (X.cc t) Γ y)):dZ X (.BinOp a op b pos) (tE (X.cc t) Γ (.bin o x y)):=by
 have e:op=Md o:=by
  cases op<;>first|exact nn ho| (cases ho;rfl)
 rw[e]
 rwa[up λpZ E=>(Tv (X:=X.at_ pZ E) (Mm (X:=X.at_ pZ E) (c:=X.cc t)) (dn (ha pZ E)) (dn (hb pZ E))).imp ?_]
 kd_p;z_go;refine#[env,ρ1,S1,_,EU,he.later R st1,R1,w1,λu2 S2 v2 H2 ρ2 w2 st2 R2 r2=>?_,qx.later st1];exact#[u,u2,ρ2,S2,QU,r1.mono R1 st2,r2,R2,w2,q.later (st1.trans st2)]
theorem IV(ho:Sz op b=some o):op=Ef o:=by
 unfold Sz at ho;split at ho
 .rename_i hc
  cases op<;>first|exact ff hc| (cases ho;rfl)
 .cases op<;>first|exact nn ho| (cases ho;rfl)
theorem Qk(G:Good t T Γ k I X)(ho:Sz op b=some o)(hm:behindInMarks op b=false)(ha:∀pZ E,dZ (X.at_ pZ E) a (tE (X.cc t) Γ x))(hb:∀pZ E,dZ (X.at_ pZ E) b (tE (X.cc t) Γ y)):dZ X (.Compare a [op] [b] pos) (tE (X.cc t) Γ (.cmp o x y)):=by
 have e:op=Ef o:=IV ho;subst e;rwa[up λpZ E=>(Lk (X:=X.at_ pZ E) (Eg (X:=X.at_ pZ E) (c:=X.cc t) rfl rfl G.units o) (dn (ha pZ E)) (dn (hb pZ E)) hm).imp ?_]
 kd_p;z_go;refine#[env,ρ1,S1,_,EU,he.later R st1,R1,w1,λu2 S2 v2 H2 ρ2 w2 st2 R2 r2=>?_,qx.later st1];refine#[u,u2,ρ2,S2,r1.mono R1 st2,r2,R2,PL.xR (λr h=>?_) w2];exact(q.later (st1.trans st2)).now R2 h (fA.mpr rfl)
theorem Mw(G:Good t T Γ k I X)(ho:Sz op b=some o)(hm:behindInMarks op b=false)(ha:∀pZ E,dZ (X.at_ pZ E) a (tE (X.cc t) Γ x))(hb:∀pZ E,dZ (X.at_ pZ E) b (tE (X.cc t) Γ y)):C1 X (.Compare a [op] [b] pos) (tT (X.cc t) Γ (.dk (.cmp o x y))):=by
 have e:op=Ef o:=IV ho;subst e;rwa[Xi λpZ E=>(Ll (X:=X.at_ pZ E) (Eg (X:=X.at_ pZ E) (c:=X.cc t) rfl rfl G.units o) (dn (ha pZ E)) (dn (hb pZ E)) hm).imp ?_]
 kd_p;z_go;refine#[env,ρ1,S1,_,EU,he.later R st1,R1,w1,λu2 S2 v2 H2 ρ2 w2 st2 R2 r2=>?_,qx.later st1];refine#[u,u2,ρ2,S2,r1.mono R1 st2,r2,R2,PL.xR (λr h=>#[r,rfl,?_]) w2];exact(q.later (st1.trans st2)) _ _ _ _ h .refl R2
end
open PL (U SO bF Xn KU KX cf)
theorem de(h:noStar e=true):bV (e::es) env=(false,eval e env)::bV es env:=by
 cases e<;>first|rfl|cases h
theorem vK:∀{es:List Expr},es.all noStar=true->bV es env=es.map λe=>(false,eval e env)
 |[],_=>rfl
 |e::es,h=>by
  rw[bK,aj] at h;rw[de h.1,vK h.2];rfl
theorem eY(h:fX o=true):iD o m env (eval o env)=eval o env:=by
 cases o with
 |Call f args kws pos=>
  cases f with
  |Name id p=>
   cases args with
   |nil=>
    cases kws with
    |nil=>cases h
    |cons k ks=>rfl
   |cons a as=>rfl
  |_=>rfl
 |_=>rfl
theorem Bd(h:zi e=true):iA e tg l env=pure false:=by
 cases e<;>first|rfl|cases h
theorem gu(h:es.all noStar=true):(iH pos (bV es env)).any (·.1)=false:=by
 rw[vK h]
 unfold iH;simp
theorem xZ(h:es.all noStar=true)(hn:es.length<20):Ce (es.length+([]:List oO).length) (iH pos (bV es env)) (backToKw pos (jZ [] env))=true:=by
 rw[vK h]
 have e:jZ [] env=[]:=rfl;rw[e]
 unfold Ce iH;simp[backToKw]
 omega
theorem ya(h0:fX o=true)(hst:args.all noStar=true)(hn:args.length<20)(hl:(apos.endLine==pos.line)=true):
  eval (.Call (.Attribute o m apos) args [] pos) env=(do
   let ov <-eval o env
   standAt apos.atName
   let (f,first) <-holding [ov] (getMethod ov m (do return (<-importBound o env).getD true))
   callWith pos f first (iH pos (bV args env)) (backToKw pos (jZ [] env))):=by
 change (do
  let ov <-iD o m env (eval o env)
  standAt apos.atName
  methodCall o m apos pos env ov (args.length+[].length) (iH pos (bV args env)) (backToKw pos (jZ [] env)))=_
 dsimp[eY h0,methodCall,xZ hst hn,calleeOf,methodCallPos,hl]
 rfl
open PL (U SO bF Xn KU KX cf)
section
variable{X:Cx}{k:Nat}{f C:Addr}{fd:fq}{ps:List Str}{sp:Sp}{x m:Str}{p pos apos:Pos}{e o:Expr}{es:List Expr}{ta:XK->TA}{to:XK->TE}
theorem Zj(F:kI X.prog X.w X.K X.mg X.base (ug X.prog X.w) k f fd ps sp)(hr:kH k X.A)(hg:Gl X x)(hm:X.mg x=some (.ref f))(hk:Cd X.K (.ref f)=true)(hb:Binds X.K fd ps [])(ha:C2 X (e::es) ta)
  (hdb:(x==("__debug__":Str))=false) (he:noStar e=true) (hes:es.all noStar=true):dZ X (.Call (.Name x p) (e::es) [] pos) (λE σ H Q=>ta E σ H λvs H1=>sp vs H1 Q E):=by
 intro pZ s σ H Q E I h;rwa[fw (rn I hg hm ?_ hdb)];rwa[callWith_K (h₀:=X.base) I.ok.mod.SV hk (eT (ha pos pZ s σ H _ E I h) λus s1 h9=>?_) (de he) (gu hes)];let#[vs,H1,I1,r,q]:=h9;refine#[I1.BY,?_];erw[uB F hr hb .nil I1 r (by rw[bU];exact q)]
theorem UQ(F:kI X.prog X.w X.K X.mg X.base (ug X.prog X.w) k f fd ps sp)(hr:kH k X.A)(hg:Gl X x)(hm:X.mg x=some (.ref f))(hk:Cd X.K (.ref f)=true)(hb:Binds X.K fd ps [])
  (hdb:(x==("__debug__":Str))=false):dZ X (.Call (.Name x p) [] [] pos) (λE σ H Q=>sp [] H Q E):=by
 intro pZ s σ H Q E I h;rwa[fw (rn I hg hm ?_ hdb)];erw[K3 I.BY hk (uB (us:=[]) (vs:=[]) F hr hb .nil I .nil h)]
theorem Zk(he:dZ X o to)(c:yL X.K C)(hm:Meth X.K C m f)(F:kI X.prog X.w X.K X.mg X.base (ug X.prog X.w) k f fd ps sp)(hr:kH k X.A)(hb:Binds X.K fd ps [])(ha:C2 X (e::es) ta)
  (h0:fX o=true) (hn:(e::es).length<20) (hl:(apos.endLine==pos.line)=true) (hse:noStar e=true) (hes:es.all noStar=true):
  dZ X (.Call (.Attribute o m apos) (e::es) [] pos) (λE σ H Q=>to E σ H λx H1=>∃a dx fs,x=.ref a/\H1 a=some (.ins C dx fs)/\fs.lookup m=none/\ta E σ H1 λvs H2=>sp (x::vs) H2 Q E):=by
 intro pZ s σ H Q E I h;refine methodCall_KW (eT (he pZ s σ H _ E I h) λu s1 h9=>?_) (ya h0 (by rw[bK,hse,hes];rfl) hn hl);let#[x,H1,I1,rx,a,dx,fs,ex,ea,l,q]:=h9;subst ex;obtain rfl:u=bf a:=rx;refine vg I1 ea c hm l ?_;refine callWith_K (first:=[.ref a]) (h₀:=X.base) I.ok.mod.SV hm.kp (eT (ha pos pZ s1 σ H1 _ E I1 q) λus s2 h9=>?_) (de hse) (gu hes);obtain⟨vs,H2,I2,r,q2⟩:=h9;refine#[I2.BY,?_];exact uB (us:=.ref a::us) (vs:=.ref a::vs) F hr hb .nil I2 (.cons rfl r) (by rw[bU];exact q2)
theorem UR(he:dZ X o to)(c:yL X.K C)(hm:Meth X.K C m f)(F:kI X.prog X.w X.K X.mg X.base (ug X.prog X.w) k f fd ps sp)(hr:kH k X.A)(hb:Binds X.K fd ps [])
  (h0:fX o=true) (hl:(apos.endLine==pos.line)=true):
  dZ X (.Call (.Attribute o m apos) [] [] pos) (λE σ H Q=>to E σ H λx H1=>∃a dx fs,x=.ref a/\H1 a=some (.ins C dx fs)/\fs.lookup m=none/\sp [x] H1 Q E):=by
 intro pZ s σ H Q E I h;refine methodCall_KW (eT (he pZ s σ H _ E I h) λu s1 h9=>?_) (ya h0 rfl ⋯ hl);let#[x,H1,I1,rx,a,dx,fs,ex,ea,l,q]:=h9;subst ex;obtain rfl:u=bf a:=rx;refine vg I1 ea c hm l ?_;exact K3 (first:=[.ref a]) I1.BY hm.kp (uB (us:=[.ref a]) (vs:=[.ref a]) F hr hb .nil I1 (.cons rfl .nil) q)
theorem yb(M:Mk X.K C f)(F:kI X.prog X.w X.K X.mg X.base (ug X.prog X.w) k f fd ps sp)(hr:kH (k+1) X.A)(hb:Binds X.K fd ps [])
  (I:Inv X pZ σ H s) (r:Vals vs us) (h:∀x dx,H x=none->H dx=none->dx≠x->sp (.ref x::vs) (upd (upd H dx (.own x)) x (.ins C dx [])) (λv H2=>v=.bQ/\Q (.ref x) H2) E):
  wpAny (bb X.prog X.w) X.A (call (.ref C) us) (EP X pZ σ Q) (XE X pZ σ E) s:=by
 have hq:=h (s.heap.objs.size+1) s.heap.objs.size (I.dm.fresh (kR _)) (I.dm.fresh (ak _)) (aY (dg _));have I2:=Inv.made (C:=C) I;have r2:Vals (V.ref (s.heap.objs.size+1)::vs) (bf (s.heap.objs.size+1)::us):=.cons rfl r;have hl:(bf (s.heap.objs.size+1)::us++([]:List Value)).length=ps.length:=by
  have e:=r2.length;rw[F.len _ _ _ _ hq] at e;rw[bU]
  erw[e.symm]
 have hb2:=hb {s with heap:=(s.heap.push cQ).push (dN C s.heap.objs.size)} (bf (s.heap.objs.size+1)::us) I2.BY hl;rw[bU] at hb2;refine wpAny_call (Hx (f:=f) I.BY M.makes M.init (beq_iff_eq.mp M.fn) (wC (F.run _ X.stack _ _ #[bf (s.heap.objs.size+1)::us,[]] (bf (s.heap.objs.size+1)::us) _ _ E (hr.make C us [])
  (I2.TU.make C us []) hb2 r2 hq) λr s' hq'=>?_))
 cases r with
 |error e=>
  let#[a,T,c,dx,H',e1,I',x,fr,q]:=ug.inv I2 hq';exact#[a,some T,c,dx,H',e1,I',x,fr,q]
 |ok fl=>
  cases fl with
  |ret u=>
   let#[v,H',I3,rv,ev,q3]:=I2.after hq';subst ev;exact#[rv,#[V.ref (s.heap.objs.size+1),H',I3,rfl,q3]]
  |next=>erw[aO hq']
  |brk=>erw[aO hq']
  |cont=>erw[aO hq']
theorem Zl(M:Mk X.K C f)(F:kI X.prog X.w X.K X.mg X.base (ug X.prog X.w) k f fd ps sp)(hr:kH (k+1) X.A)(hg:Gl X x)(hm:X.mg x=some (.ref C))(hb:Binds X.K fd ps [])(ha:C2 X (e::es) ta)
  (hdb:(x==("__debug__":Str))=false) (he:noStar e=true) (hes:es.all noStar=true):dZ X (.Call (.Name x p) (e::es) [] pos) (λE σ H Q=>ta E σ H λvs H1=>∀x dx,H1 x=none->H1 dx=none->dx≠x ->
   sp (.ref x::vs) (upd (upd H1 dx (.own x)) x (.ins C dx [])) (λv H2=>v=.bQ/\Q (.ref x) H2) E):=by
 intro pZ s σ H Q E I h;rwa[fw (rn I hg hm ?_ hdb)];rwa[callWith_K (h₀:=X.base) I.ok.mod.SV M.kp (eT (ha pos pZ s σ H _ E I h) λus s1 h9=>?_) (de he) (gu hes)];let#[vs,H1,I1,r,q]:=h9;refine#[I1.BY,?_];erw[yb M F hr hb I1 r q]
theorem US(M:Mk X.K C f)(F:kI X.prog X.w X.K X.mg X.base (ug X.prog X.w) k f fd ps sp)(hr:kH (k+1) X.A)(hg:Gl X x)(hm:X.mg x=some (.ref C))(hb:Binds X.K fd ps [])
  (hdb:(x==("__debug__":Str))=false):dZ X (.Call (.Name x p) [] [] pos) (λE σ H Q=>∀x dx,H x=none->H dx=none->dx≠x ->
   sp [.ref x] (upd (upd H dx (.own x)) x (.ins C dx [])) (λv H2=>v=.bQ/\Q (.ref x) H2) E):=by
 intro pZ s σ H Q E I h;rwa[fw (rn I hg hm ?_ hdb)];erw[K3 I.BY M.kp (yb (us:=[]) (vs:=[]) M F hr hb I .nil h)]
end
theorem dZ.imp(h:dZ X e t)(q:∀E σ H Q,t' E σ H Q->t E σ H Q):dZ X e t':=λpZ s σ H Q E I z=>h pZ s σ H Q E I (q E σ H Q z)
section
variable{t:xX}{T:Tab}{Γ:cf}{k n:Nat}{I:Inf}{X:Cx}
theorem nY:∀{n:Nat}{I:Inf}{es:List Expr}{xs:PL.yZ},SD T n I es=some xs->es.all noStar=true
 |0,_,_,_,h=>by rw[N4] at h;cases h
 |n+1,I,[],_,_=>rfl
 |n+1,I,e::es,_,h=>by
  rw[Iq,Im] at h;by_cases z:noStar e=true
  .dsimp[z,bC,ao,if_false,aP,ay] at h
   let#[x,_,xs,h2,_]:=h;rw[bK,z,nY h2];rfl
  .simp[z] at h
theorem Ql(IH:FW t T Γ k n)(G:Good t T Γ k I X):∀{es:List Expr}{xs:PL.yZ},SD T (n+1) I es=some xs->C2 X es (GV (X.cc t) Γ xs)
 |[],xs,h=>by
  rw[Iq,Im] at h;injection h with h;subst h
  rwa[upA λpZ E=>?_]
  rwa[λpos pins' s σ H Q J z=>yM (X:=X.at_ pZ E) pos pins' s σ H Q J ?_]
  let#[env,ρ,S,QU,EU,he,R,w,q,qx]:=z;erw[q [] S [] H ρ w .refl R aX.nil]
 |e::es,xs,h=>by
  have st:=nY h;rw[bK,aj] at st;rw[Iq,Im] at h;dsimp[st.1,bC,ao,if_false,aP,ay] at h;let#[x,h1,ys,h2,h3]:=h;injection h3 with h3;subst h3
  rwa[upA λpZ E=>?_]
  have P:=uA (X:=X.at_ pZ E) (dn (IH.fe G.at_ h1)) (zm (IH.UP G.at_ h2)) (de st.1);rwa[λpos pins' s σ H Q J z=>P pos pins' s σ H Q J ?_]
  let#[env,ρ,S,QU,EU,he,R,w,q,qx]:=z;z_go;refine#[env,ρ1,S1,_,EU,he.later R st1,R1,w1,λus S2 vs H2 ρ2 w2 st2 R2 r2=>?_,qx.later st1];erw[q _ _ _ _ _ w2 (st1.trans st2) R2 (aX.cons (r1.mono R1 st2) r2)]
theorem Qm(ha:∀pZ E,dZ (X.at_ pZ E) a (tE (X.cc t) Γ x)):dZ X (.UnaryOp .USub a pos) (tE (X.cc t) Γ (.neg x)):=by
 rwa[up λpZ E=>(Tw (X:=X.at_ pZ E) O1 (dn (ha pZ E))).imp ?_]
 kd_p;z_go;let#[i,e,w2]:=PL.gC.mp w1;subst e;exact#[i,aR.mp r1,(q.later st1).now R1 w2 (aR.mpr rfl)]
theorem Qn(ha:∀pZ E,dZ (X.at_ pZ E) a (tE (X.cc t) Γ x)):dZ X (.UnaryOp .Not a pos) (tE (X.cc t) Γ (.not x)):=by
 rwa[up λpZ E=>(OK (X:=X.at_ pZ E) (dn (ha pZ E))).imp ?_]
 kd_p;z_go;let#[i,e,w2]:=PL.zb.mp w1;subst e;exact#[i,fA.mp r1,(q.later st1).now R1 w2 (fA.mpr rfl)]
theorem Qo(IH:FW t T Γ k n)(G:Good t T Γ k I X):∀{vs:List Expr}{x:PL.Ex},Xg T (n+1) I op vs=some x->dZ X (.BoolOp op vs pos) (tE (X.cc t) Γ x)
 |[],x,h=>by rw[Ir,Io] at h;cases h
 |[a],x,h=>by
  rw[Ir,Io] at h;rwa[up λpZ E=>OI (X:=X.at_ pZ E) (dn (IH.fe G.at_ h))]
 |a::b::r,y,h=>by
  rw[Ir,Io] at h;dsimp[aP,ay] at h;let#[x,h1,z,h2,h3]:=h;injection h3 with h3;subst h3
  cases op with
  |And=>
   rwa[up λpZ E=>(OJ (X:=X.at_ pZ E) (dn (IH.fe G.at_ h1)) (dn (IH.Zh G.at_ h2))).imp ?_]
   kd_p;z_go;let#[i,e,w2]:=PL.zb.mp w1;subst e;refine#[i,fA.mp r1,?_];cases i with
   |true=>exact#[env,ρ1,S1,QU,EU,he.later R st1,R1,w2,q.later st1,qx.later st1]
   |false=>exact(q.later st1).now R1 w2 (fA.mpr rfl)
  |Or=>
   rwa[up λpZ E=>(Td (X:=X.at_ pZ E) (dn (IH.fe G.at_ h1)) (dn (IH.Zh G.at_ h2))).imp ?_]
   kd_p;z_go;let#[i,e,w2]:=PL.zb.mp w1;subst e;refine#[i,fA.mp r1,?_];cases i with
   |true=>exact(q.later st1).now R1 w2 (fA.mpr rfl)
   |false=>exact#[env,ρ1,S1,QU,EU,he.later R st1,R1,w2,q.later st1,qx.later st1]
theorem UT(hc:∀pZ E,C1 (X.at_ pZ E) c (tT (X.cc t) Γ x))(ha:∀pZ E,dZ (X.at_ pZ E) a (tE (X.cc t) Γ y))(hb:∀pZ E,dZ (X.at_ pZ E) b (tE (X.cc t) Γ z)):dZ X (.IfExp c a b pos) (tE (X.cc t) Γ (.GQ x y z)):=by
 rwa[up λpZ E=>(Hn (X:=X.at_ pZ E) (SE (hc pZ E)) (dn (ha pZ E)) (dn (hb pZ E))).imp ?_]
 kd_p;refine#[env,ρ,S,_,EU,he,R,w,λb S1 H1 ρ1 w1 st1 R1=>?_,qx];cases b with
 |true=>exact#[env,ρ1,S1,QU,EU,he.later R st1,R1,w1,q.later st1,qx.later st1]
 |false=>exact#[env,ρ1,S1,QU,EU,he.later R st1,R1,w1,q.later st1,qx.later st1]
theorem Qp(ha:∀pZ E,C2 (X.at_ pZ E) es (GV (X.cc t) Γ xs)):dZ X (.Tuple es j pos) (tE (X.cc t) Γ (.tup xs)):=by
 rwa[up λpZ E=>(O8 (X:=X.at_ pZ E) (zm (ha pZ E))).imp ?_]
 kd_p;refine#[env,ρ,S,_,EU,he,R,w,λus S1 vs H1 ρ1 w1 st1 R1 r1=>?_,qx];exact#[by rw[<-r1.len];erw[qt w1.1],λp hp=>(q.later st1).P1 R1 r1 w1.2 hp]
theorem Qq(ha:∀pZ E,C2 (X.at_ pZ E) es (GV (X.cc t) Γ xs)):dZ X (.List es pos) (tE (X.cc t) Γ (.lst xs)):=by
 rwa[up λpZ E=>(O9 (X:=X.at_ pZ E) (zm (ha pZ E))).imp ?_]
 kd_p;refine#[env,ρ,S,_,EU,he,R,w,λus S1 vs H1 ρ1 w1 st1 R1 r1=>?_,qx];exact#[by rw[<-r1.len];erw[qt w1.1],λp hp=>(q.later st1).FQ R1 r1 w1.2 hp]
theorem qL:∀{fs:List (String×U)}{vs:List (Str×V)},vs.map (·.1)=(fs.map (·.1)).map nm->aX c ρ H (fs.map (·.2)) (vs.map (·.2))->fs.lookup f=some u->(∀a b:String,nm a=nm b->a=b)->∃v,vs.lookup (nm f)=some v/\Rep c ρ H u v
 |[],vs,_,_,h,_=>nomatch h
 | (g,w)::fs,[],e,_,_,_=>by simp at e
 | (g,w)::fs,(a,v)::vs,e,r,h,inj=>by
  dsimp[au,dJ] at e;rw[au,au] at r;unfold aX at r;let#[v',r',e',h1,h2]:=r;injection e' with e1 e2
  subst e1;subst e2;rw[aK] at h ⊢;by_cases z:f=g
  .subst z
   simp at h;subst h;have:(nm f==a)=true:=by rw[e.1];simp
   rw[this]
   exact#[v,rfl,h1]
  .have z1:(f==g)=false:=by simp[z]
   rw[z1] at h;have z2:(nm f==a)=false:=by
    rw[e.1]
    dsimp[beq_eq_false_iff_ne,ne_eq];erw[λq=>z (inj _ _ q)]
   rw[z2]
   erw[qL e.2 h2 h inj]
theorem vL(a b:String)(h:nm a=nm b):a=b:=by
 unfold nm at h;rw[Str.ofString_eq_byList] at h;unfold Str.ofStringByList at h;injection h with h
 have h2:=congrArg Ak h;dsimp[] at h2;have h3:a.toList=b.toList:=by
  refine(sA (f:=Char.toNat) ?_).mp h2;intro x y e;erw[Char.ext (UInt32.toNat_inj.mp e)]
 erw[String.toList_inj.mp h3]
end
open PL (U SO bF Xn KU KX cf)
section
variable{t:xX}{T:Tab}{Γ:cf}{k n:Nat}{I:Inf}{X:Cx}
theorem Qr{o:Expr}{f:String}{x:PL.Ex}{pos:Pos}(G:Good t T Γ k I X)(hf:f∈T.zh)(h0:fX o=true)(ho:∀pZ E,dZ (X.at_ pZ E) o (tE (X.cc t) Γ x)):dZ X (.Attribute o (nm f) pos) (tE (X.cc t) Γ (.fld x f)):=by
 rwa[up λpZ E=>(O6 (X:=X.at_ pZ E) (dn (ho pZ E)) (eY h0)).imp ?_]
 kd_p;z_go;cases u with
 |loc m=>
  let#[c,fs,e,w2]:=PL.mV.mp (show PL.oC _ _ from w1);let#[u,e2,w3]:=PL.jr.mp w2;let#[a,C,dx,vs,ev,_,hc,ha,hn,hr]:=R1.ins e r1;let#[v',l,r2]:=qL hn hr e2 vL;let#[cl,na]:=G.tab.cls c C hc;exact#[a,C,dx,vs,v',ev,ha,cl,na f hf,l,(q.later st1).now R1 w3 r2]
 |_=>erw[aO w1]
theorem IW(h:my b=true):DQ b:=by
 intro o i;cases b<;>first|rfl|cases h
theorem UU(hs:my b=true)(ha:∀pZ E,dZ (X.at_ pZ E) a (tE (X.cc t) Γ x))(hb:∀pZ E,dZ (X.at_ pZ E) b (tE (X.cc t) Γ y)):dZ X (.Subscript a b pos) (tE (X.cc t) Γ (.ix x y)):=by
 rwa[up λpZ E=>(T4 (X:=X.at_ pZ E) (Qd (X:=X.at_ pZ E) (c:=X.cc t) rfl rfl) (dn (ha pZ E)) (dn (hb pZ E)) (IW hs)).imp ?_]
 kd_p;z_go;refine#[env,ρ1,S1,_,EU,he.later R st1,R1,w1,λu2 S2 v2 H2 ρ2 w2 st2 R2 r2=>?_,qx.later st1];refine#[u,u2,ρ2,S2,r1.mono R1 st2,r2,R2,PL.Ij (λr h v3 r3=>?_) w2];exact(q.later (st1.trans st2)).now R2 h r3
theorem UW(IH:FW t T Γ k n)(G:Good t T Γ k I X):∀{oe:Option Expr}{x:PL.Ox},cO T (n+1) I oe=some x->∀pZ E,PO (X.at_ pZ E) oe (λσ H Q=>Xj (X.cc t) Γ x (E σ) σ H Q)
 |none,x,h,pZ,E=>by
  rw[UL,Xf] at h;injection h with h;subst h
  rwa[λpins' s σ H Q J z=>Lr (X:=X.at_ pZ E) pins' s σ H Q J ?_]
  let#[env,ρ,S,QU,EU,he,R,w,q,qx]:=z;erw[q none S H ρ w .refl R]
 |some e,x,h,pZ,E=>by
  rw[UL,Xf] at h;let#[y,h1,h2]:=aq.mp h;subst h2;rwa[λpins' s σ H Q J z=>Lu (X:=X.at_ pZ E) (dn (IH.fe G.at_ h1)) pins' s σ H Q J ?_]
  let#[env,ρ,S,QU,EU,he,R,w,q,qx]:=z;z_go;let#[i,e,w2]:=PL.gC.mp w1;subst e;exact#[i,aR.mp r1,q _ _ _ _ w2 st1 R1]
theorem UX{a:Expr}{lo hi:Option Expr}{x:PL.Ex}{y z:PL.Ox}{pos p2:Pos}(ha:∀pZ E,dZ (X.at_ pZ E) a (tE (X.cc t) Γ x))(hl:∀pZ E,PO (X.at_ pZ E) lo (λσ H Q=>Xj (X.cc t) Γ y (E σ) σ H Q))(hh:∀pZ E,PO (X.at_ pZ E) hi (λσ H Q=>Xj (X.cc t) Γ z (E σ) σ H Q)):dZ X (.Subscript a (.Slice lo hi none p2) pos) (tE (X.cc t) Γ (.sl x y z)):=by
 rwa[up λpZ E=>(Hz (X:=X.at_ pZ E) (Qg (X:=X.at_ pZ E) (c:=X.cc t) rfl) (dn (ha pZ E)) (hl pZ E) (hh pZ E)).imp ?_]
 kd_p;z_go;refine#[env,ρ1,S1,_,EU,he.later R st1,R1,w1,λl S2 H2 ρ2 w2 st2 R2=>?_,qx.later st1];have st12:=st1.trans st2;refine#[env,ρ2,S2,_,EU,he.later R st12,R2,w2,λh S3 H3 ρ3 w3 st3 R3=>?_,qx.later st12];exact#[u,ρ3,S3,QU,r1.mono R1 (st2.trans st3),R3,w3,q.later (st12.trans st3)]
end
open PL (U SO bF Xn KU KX cf)
section
variable{t:xX}{T:Tab}{Γ:cf}{k n:Nat}{I:Inf}{X:Cx}
theorem Qs(G:Good t T Γ k I X)(hg:I.gl f=true)(hb:PY f=some b)(hp:pick T.mJ f=some s)(hcalm:X.calm=true)(hA:X.A.handled=none)(h1:noStar e=true)(h2:es.all noStar=true)
  (ha:∀pZ E,C2 (X.at_ pZ E) (e::es) (GV (X.cc t) Γ xs)):dZ X (.Call (.Name f p) (e::es) [] pos) (tE (X.cc t) Γ (.blt b xs)):=by
 let#[hm,rfl]:=m7 hp;have hn:=G.tab.mJ s hm;have rd:∀(pZ:List (Addr×Obj))(E:St->XK)(σ:St)(H:Hp)(Q:VK),tE (X.cc t) Γ (.blt b xs) (E σ) σ H Q->XY (rY (X.cc t) b) (λσ H Q=>GV (X.cc t) Γ xs (E σ) σ H Q) σ H Q:=by
  rintro pZ E σ H Q ⟨env,ρ,S,QU,EU,he,R,w,q,qx⟩;exact#[env,ρ,S,_,EU,he,R,w,λus S1 vs H1 ρ1 w1 st1 R1 r1=>#[us,ρ1,S1,QU,r1,R1,w1,q.later st1],qx]
 have sx:∀(pZ:List (Addr×Obj))(E:St->XK),bV (e::es) (X.at_ pZ E).env=(false,eval e (X.at_ pZ E).env)::bV es (X.at_ pZ E).env:=λ_ _=>de h1
 have sy:∀(pZ:List (Addr×Obj))(E:St->XK),(iH pos (bV es (X.at_ pZ E).env)).any (·.1)=false:=λ_ _=>gu h2
 unfold PY at hb;by_cases c1:(nm s==("len":Str))=true
 .rw[if_pos c1] at hb;injection hb with hb;subst hb
  have ef:nm s=("len":Str):=by simpa using c1
  rw[ef] at hg hn ⊢;erw[up λpZ E=>(oX (X:=X.at_ pZ E) (Mp rfl) (jL G hg) hn K0 (zm (ha pZ E)) ⋯ ⋯ (sx pZ E) (sy pZ E)).imp (rd pZ E)]
 rw[if_neg c1] at hb;by_cases c2:(nm s==("tuple":Str))=true
 .rw[if_pos c2] at hb;injection hb with hb;subst hb
  have ef:nm s=("tuple":Str):=by simpa using c2
  rw[ef] at hg hn ⊢;erw[up λpZ E=>(pE (X:=X.at_ pZ E) (FU rfl) (jL G hg) hn (by decide +kernel) (zm (ha pZ E)) ⋯ ⋯ (sx pZ E) (sy pZ E)).imp (rd pZ E)]
 rw[if_neg c2] at hb;by_cases c4:(nm s==("list":Str))=true
 .rw[if_pos c4] at hb;injection hb with hb;subst hb
  have ef:nm s=("list":Str):=by simpa using c4
  rw[ef] at hg hn ⊢;erw[up λpZ E=>(pE (X:=X.at_ pZ E) (II rfl) (jL G hg) hn (by decide +kernel) (zm (ha pZ E)) ⋯ ⋯ (sx pZ E) (sy pZ E)).imp (rd pZ E)]
 rw[if_neg c4] at hb;by_cases c7:(nm s==("all":Str))=true
 .rw[if_pos c7] at hb;injection hb with hb;subst hb
  have ef:nm s=("all":Str):=by simpa using c7
  rw[ef] at hg hn ⊢;erw[up λpZ E=>(oX (X:=X.at_ pZ E) (IJ hcalm) (jL G hg) hn (by decide +kernel) (zm (ha pZ E)) ⋯ ⋯ (sx pZ E) (sy pZ E)).imp (rd pZ E)]
 rw[if_neg c7] at hb;by_cases c8:(nm s==("sum":Str))=true
 .rw[if_pos c8] at hb;injection hb with hb;subst hb
  have ef:nm s=("sum":Str):=by simpa using c8
  rw[ef] at hg hn ⊢;erw[up λpZ E=>(oX (X:=X.at_ pZ E) (Mq hcalm) (jL G hg) hn boot_sum (zm (ha pZ E)) ⋯ ⋯ (sx pZ E) (sy pZ E)).imp (rd pZ E)]
 rw[if_neg c8] at hb;by_cases c9:(nm s==("any":Str))=true
 .rw[if_pos c9] at hb;injection hb with hb;subst hb
  have ef:nm s=("any":Str):=by simpa using c9
  rw[ef] at hg hn ⊢;erw[up λpZ E=>(oX (X:=X.at_ pZ E) (IK hcalm) (jL G hg) hn (by decide +kernel) (zm (ha pZ E)) ⋯ ⋯ (sx pZ E) (sy pZ E)).imp (rd pZ E)]
 rw[if_neg c9] at hb;by_cases c10:(nm s==("dict":Str))=true
 .rw[if_pos c10] at hb;injection hb with hb;subst hb
  have ef:nm s=("dict":Str):=by simpa using c10
  rw[ef] at hg hn ⊢;erw[up λpZ E=>(pE (X:=X.at_ pZ E) (IL hA) (jL G hg) hn (by decide +kernel) (zm (ha pZ E)) ⋯ ⋯ (sx pZ E) (sy pZ E)).imp (rd pZ E)]
 rw[if_neg c10] at hb;by_cases c11:(nm s==("max":Str))=true
 .rw[if_pos c11] at hb;injection hb with hb;subst hb
  have ef:nm s=("max":Str):=by simpa using c11
  rw[ef] at hg hn ⊢;erw[up λpZ E=>(oX (X:=X.at_ pZ E) (Mr hcalm) (jL G hg) hn (by decide +kernel) (zm (ha pZ E)) ⋯ ⋯ (sx pZ E) (sy pZ E)).imp (rd pZ E)]
 rw[if_neg c11] at hb;cases hb
theorem FX(G:Good t T Γ k I X)(hg:I.gl ("min":Str)=true)(hg2:I.gl ("len":Str)=true)(hb:"min"∈T.mJ)(hb2:"len"∈T.mJ)(hc:X.calm=true)(h1:noStar a=true)(ha:∀pZ E,dZ (X.at_ pZ E) a (tE (X.cc t) Γ x)):
  dZ X (.Call (.Name ("min":Str) p) [a] [#[some "key",.Name ("len":Str) pl,kp]] pos) (tE (X.cc t) Γ (.blt .vy (.cons x .nil))):=by
 rwa[up λpZ E=>(FE (X:=X.at_ pZ E) hc (jL G hg) (G.tab.mJ "min" hb) (jL G hg2) (G.tab.mJ "len" hb2) (dn (ha pZ E)) (de h1)).imp ?_]
 kd_p;z_go;have w1:PL.sV .vy [u] S1 QU:=w1
 match u,w1 with
 |.loc n,w1=>
  let#[t0,ts,e,hz,w2]:=w1;let#[a,vs,e2,_,g1,g2]:=R1.lst e r1;rw[sY g2] at g1;exact#[a,t0,ts,e2,i3.of g1,hz,(q.later st1).now R1 w2 (bA.mpr rfl)]
end
open PL (U SO bF Xn KU KX cf)
section
variable{t:xX}{T:Tab}{Γ:cf}{k n:Nat}{I:Inf}{X:Cx}
noncomputable def UY:PL.LV->String
 |.join=>"str"|.index=>"str"|.startswith=>"str"|.append=>"list"|.wN=>"list"|.wO=>"tuple"|.extend=>"list"|.nI=>"int"|_=>"dict"
theorem IX{c:Ctx}{ρ:List Addr}{H:Hp}{S:bF}{b:PL.LV}{u:U}{v:V}(hb:b=.join\/b=.index\/b=.append\/b=.extend\/b=.startswith\/b=.nJ\/b=.wN\/b=.wO)(R:cz c ρ H S)(r:Rep c ρ H u v)(w:PL.rJ b u S):W0 c.K (UY b) v H:=by
 rcases hb with rfl|rfl|rfl|rfl|rfl|rfl|rfl|rfl
 .cases u<;>first|exact aO w| (rw[bA.mp r];rfl)
 .cases u<;>first|exact aO w| (rw[bA.mp r];rfl)
 .cases u<;>first|exact aO w|skip
  let#[us,e,_]:=PL.cV.mp (show PL.getL _ _ from w);let#[a,vs,ev,_,h1,_]:=R.lst e r;rw[ev]
  erw[.inl #[rfl,vs,i3.of h1]]
 .cases u<;>first|exact aO w|skip
  let#[us,e,_]:=PL.cV.mp (show PL.getL _ _ from w);let#[a,vs,ev,_,h1,_]:=R.lst e r;rw[ev]
  erw[.inl #[rfl,vs,i3.of h1]]
 .cases u<;>first|exact aO w| (rw[bA.mp r];rfl)
 .cases u<;>first|exact aO w|skip
  rename_i n;let#[a,ev,ha]:=eL.mp r;have w:(match S[n]? with|some (.dH _)=>True|some (.uh _)=>True|some (.wL _)=>True|_=>False):=w;rw[ev]
  rwa[.inr (.inr (.inl #[rfl,?_]))];cases hs:S[n]? with
  |none=>rw[hs] at w;erw[w.elim]
  |some o=>
   rw[hs] at w;cases o with
   |dH kvs=>let#[vs,h1,_]:=R.at_ n a _ ha hs;erw[.inl #[vs,h1]]
   |uh kvs=>let#[vs,h1,_]:=R.at_ n a _ ha hs;erw[.inr (.inl #[vs,h1])]
   |wL kvs=>let#[vs,h1,_]:=R.at_ n a _ ha hs;erw[.inr (.inr #[vs,h1])]
   |_=>erw[w.elim]
 .cases u<;>first|exact aO w|skip
  let#[us,e,_]:=PL.cV.mp (show PL.getL _ _ from w);let#[a,vs,ev,_,h1,_]:=R.lst e r;rw[ev]
  erw[.inl #[rfl,vs,i3.of h1]]
 .cases u<;>first|exact aO w|skip
  let#[p,vs,e,h1,h2]:=dB.mp r;rw[e]
  erw[.inr (.inl #[rfl,vs,h1])]
theorem mK(h:es.all noStar=true)(hn:es.length<20):((iH cpos (bV es env)).all (λx=>!x.1)&&(backToKw cpos (jZ [] env)).all (λx=>x.1.isSome)
   && decide (es.length+([]:List oO).length+(if ([]:List oO).isEmpty then 0 else 1)<30))=true:=by
 have:=xZ (pos:=cpos) (env:=env) h hn;unfold Ce at this;erw[this]
theorem Qt{m:Str}{lx:Nat}{o e:Expr}{es:List Expr}{b:PL.LV}{x:PL.Ex}{xs:PL.yZ}{apos cpos:Pos}(G:Good t T Γ k I X)(hb:PZ lx m=some b)(hA:X.A.handled=none)(h0:fX o=true)(hl:(apos.endLine==cpos.line)=true)(hn:(e::es).length<20)(h1:noStar e=true)(h2:es.all noStar=true)
  (ho:∀pZ E,dZ (X.at_ pZ E) o (tE (X.cc t) Γ x)) (ha:∀pZ E,C2 (X.at_ pZ E) (e::es) (GV (X.cc t) Γ xs)):dZ X (.Call (.Attribute o m apos) (e::es) [] cpos) (tE (X.cc t) Γ (.jq b x xs)):=by
 have hst:(e::es).all noStar=true:=by rw[bK,h1,h2];rfl
 have rd:∀(hb':b=.join\/b=.index\/b=.append\/b=.extend\/b=.startswith\/b=.nJ\/b=.wN\/b=.wO)(E:St->XK)(σ:St)(H:Hp)(Q:VK),tE (X.cc t) Γ (.jq b x xs) (E σ) σ H Q->ZM X.K (UY b) (qu (X.cc t) b) (λσ H Q=>tE (X.cc t) Γ x (E σ) σ H Q) (λσ H Q=>GV (X.cc t) Γ xs (E σ) σ H Q) σ H Q:=by
  rintro hb' E σ H Q ⟨env,ρ,S,QU,EU,he,R,w,q,qx⟩;refine#[env,ρ,S,_,EU,he,R,w,λu S1 v H1 ρ1 w1 st1 R1 r1=>#[IX (c:=X.cc t) hb' R1 r1 w1.1,?_],qx];exact#[env,ρ1,S1,_,EU,he.later R st1,R1,w1.2,λus S2 vs H2 ρ2 w2 st2 R2 r2=>#[u,us,ρ2,S2,QU,r1.mono R1 st2,r2,R2,w2,q.later (st1.trans st2)],qx.later st1]
 unfold PZ at hb;by_cases c1:(m==("join":Str))=true
 .rw[if_pos c1] at hb;injection hb with hb;subst hb
  have ef:m=("join":Str):=by simpa using c1
  subst ef;erw[up λpZ E=>(tP (X:=X.at_ pZ E) nv PySem.F.slot_str_join PySem.F.type_str_join (IM rfl) (dn (ho pZ E)) (zm (ha pZ E)) (eY h0) (mK hst hn) hl (de h1) (gu h2)).imp (rd (by simp) E)]
 rw[if_neg c1] at hb;by_cases c2:(m==("index":Str))=true
 .rw[if_pos c2] at hb;injection hb with hb;subst hb
  have ef:m=("index":Str):=by simpa using c2
  subst ef;by_cases l1:(lx==1)=true
  .rw[if_pos l1] at rd ⊢
   erw[up λpZ E=>(tP (X:=X.at_ pZ E) mS xw PySem.F.type_list_index (IP rfl) (dn (ho pZ E)) (zm (ha pZ E)) (eY h0) (mK hst hn) hl (de h1) (gu h2)).imp (rd (by simp) E)]
  rw[if_neg l1] at rd ⊢;by_cases l2:(lx==2)=true
  .rw[if_pos l2] at rd ⊢
   erw[up λpZ E=>(tP (X:=X.at_ pZ E) PySem.F.plainAttrs_tuple wF PySem.F.type_tuple_index (IQ rfl) (dn (ho pZ E)) (zm (ha pZ E)) (eY h0) (mK hst hn) hl (de h1) (gu h2)).imp (rd (by simp) E)]
  rw[if_neg l2] at rd ⊢;erw[up λpZ E=>(tP (X:=X.at_ pZ E) nv PySem.F.slot_str_index PySem.F.type_str_index (FV hA) (dn (ho pZ E)) (zm (ha pZ E)) (eY h0) (mK hst hn) hl (de h1) (gu h2)).imp (rd (by simp) E)]
 rw[if_neg c2] at hb;by_cases c3:(m==("append":Str))=true
 .rw[if_pos c3] at hb;injection hb with hb;subst hb
  have ef:m=("append":Str):=by simpa using c3
  subst ef;erw[up λpZ E=>(tP (X:=X.at_ pZ E) mS PySem.F.slot_list_append PySem.F.type_list_append C6 (dn (ho pZ E)) (zm (ha pZ E)) (eY h0) (mK hst hn) hl (de h1) (gu h2)).imp (rd (by simp) E)]
 rw[if_neg c3] at hb;by_cases c4:(m==("extend":Str))=true
 .rw[if_pos c4] at hb;injection hb with hb;subst hb
  have ef:m=("extend":Str):=by simpa using c4
  subst ef;erw[up λpZ E=>(tP (X:=X.at_ pZ E) mS PySem.F.slot_list_extend PySem.F.type_list_extend C7 (dn (ho pZ E)) (zm (ha pZ E)) (eY h0) (mK hst hn) hl (de h1) (gu h2)).imp (rd (by simp) E)]
 rw[if_neg c4] at hb;by_cases c5:(m==("startswith":Str))=true
 .rw[if_pos c5] at hb;injection hb with hb;subst hb
  have ef:m=("startswith":Str):=by simpa using c5
  subst ef;erw[up λpZ E=>(tP (X:=X.at_ pZ E) nv PySem.F.slot_str_startswith PySem.F.type_str_startswith C5 (dn (ho pZ E)) (zm (ha pZ E)) (eY h0) (mK hst hn) hl (de h1) (gu h2)).imp (rd (by simp) E)]
 rw[if_neg c5] at hb;by_cases c6:(m==("setdefault":Str))=true
 .rw[if_pos c6] at hb;injection hb with hb;subst hb
  have ef:m=("setdefault":Str):=by simpa using c6
  subst ef;erw[up λpZ E=>(tP (X:=X.at_ pZ E) i8 ub PySem.F.type_dict_setdefault (IS G.units) (dn (ho pZ E)) (zm (ha pZ E)) (eY h0) (mK hst hn) hl (de h1) (gu h2)).imp (rd (by simp) E)]
 rw[if_neg c6] at hb;cases hb
theorem Mx(G:Good t T Γ k I X)(h0:fX o=true)(hl:(apos.endLine==cpos.line)=true)(ho:∀pZ E,dZ (X.at_ pZ E) o (tE (X.cc t) Γ x)):
  dZ X (.Call (.Attribute o ("bit_length":Str) apos) [] [] cpos) (tE (X.cc t) Γ (.jq .nI x .nil)):=by
 rwa[up λpZ E=>(HB (X:=X.at_ pZ E) PySem.F.plainAttrs_int PySem.F.slot_int_bit_length PySem.F.type_int_bit_length (C4 (c:=X.cc t)) (dn (ho pZ E)) (eY h0) hl).imp ?_]
 kd_p;refine#[env,ρ,S,_,EU,he,R,w,λu S1 v H1 ρ1 w1 st1 R1 r1=>#[?_,u,[],ρ1,S1,QU,r1,aX.nil,R1,w1.2,q.later st1],qx];cases u<;>first|exact aO w1.1| (rw[aR.mp r1];rfl)
theorem Qu(G:Good t T Γ k I X)(h0:fX o=true)(hl:(apos.endLine==cpos.line)=true)(h1:noStar a=true)(h2:noStar d=true)(ho:∀pZ E,dZ (X.at_ pZ E) o (tE (X.cc t) Γ x))
  (ha:∀pZ E,dZ (X.at_ pZ E) a (tE (X.cc t) Γ y)) (hd:∀pZ E,dZ (X.at_ pZ E) d (tE (X.cc t) Γ z)):dZ X (.Call (.Attribute o ("get":Str) apos) [a,d] [] cpos) (tE (X.cc t) Γ (.jq .get x (.cons y (.cons z .nil)))):=by
 have hst:[a,d].all noStar=true:=by rw[bK,bK,h1,h2];rfl
 refine up λpZ E=>(HK (X:=X.at_ pZ E) (by have:=G.units;show X.A.units+1<fF;omega) (dn (ho pZ E)) (dn (ha pZ E)) (dn (hd pZ E)) #[eY h0,mK hst (show 2<20 by decide),hl,by
  rw[de (e:=a) (es:=[d]) h1,de (e:=d) (es:=[]) h2];rfl]).imp ?_
 kd_p;z_go;let#[w1,w2]:=w1;cases u<;>first|exact aO w1|skip
 rename_i n;let#[kvs,e,_]:=PL.ja.mp (show PL.i9 _ _ from w1);let#[a1,vs,e1,ha1,g1,g2,g3,g4]:=R1.dd e r1;refine#[a1,e1,.inl #[vs,g1],env,ρ1,S1,_,EU,he.later R st1,R1,w2,λu2 S2 v2 H2 ρ2 w3 st2 R2 r2=>?_,qx.later st1];refine#[env,ρ2,S2,_,EU,(he.later R st1).later R1 st2,R2,w3,λu3 S3 v3 H3 ρ3 w4 st3 R3 r3=>?_,(qx.later st1).later st2];have r2':=r2.mono R2 st3;cases u2<;>first|exact aO w4|skip
 rename_i k;let#[kvs',e',ps,ep,w5]:=PL.AX.mp (show PL.getD _ _ from w4);let#[vs',f1,f2,f3,f4]:=R3.at_ n a1 _ (st3.get (st2.get ha1)) e';subst ep;have g:=sQ.k (k:=jf (some (tx k))) f1;rw[bA.mp r2']
 rcases Ms (k:=k) f2 f3 f4 with⟨l1,l2⟩|⟨u',v',l1,l2,l3⟩
 .rw[l2] at g
  rw[l1] at w5;exact#[none,g,(q.later ((st1.trans st2).trans st3)).now R3 w5 r3]
 .rw[l2] at g
  rw[l1] at w5;exact#[some v',g,(q.later ((st1.trans st2).trans st3)).now R3 w5 l3]
theorem My(G:Good t T Γ k I X)(h0:fX o=true)(hl:(apos.endLine==cpos.line)=true)(h1:noStar a=true)(ho:∀pZ E,dZ (X.at_ pZ E) o (tE (X.cc t) Γ x))
  (ha:∀pZ E,dZ (X.at_ pZ E) a (tE (X.cc t) Γ y)):dZ X (.Call (.Attribute o ("get":Str) apos) [a] [] cpos) (tE (X.cc t) Γ (.jq .get x (.cons y .nil))):=by
 have hst:[a].all noStar=true:=by rw[bK,h1];rfl
 refine up λpZ E=>(HJ (X:=X.at_ pZ E) (by have:=G.units;show X.A.units+1<fF;omega) (dn (ho pZ E)) (dn (ha pZ E)) #[eY h0,mK hst (show 1<20 by decide),hl,by
  rw[de (e:=a) (es:=[]) h1];rfl]).imp ?_
 kd_p;z_go;let#[w1,w2]:=w1;cases u<;>first|exact aO w1|skip
 rename_i n;let#[kvs,e,_]:=PL.ja.mp (show PL.i9 _ _ from w1);let#[a1,vs,e1,ha1,g1,g2,g3,g4]:=R1.dd e r1;refine#[a1,e1,.inl #[vs,g1],env,ρ1,S1,_,EU,he.later R st1,R1,w2,λu2 S2 v2 H2 ρ2 w3 st2 R2 r2=>?_,qx.later st1];have r1':=r1.mono R1 st2;have w3:PL.qg .get (.loc n) [u2] S2 QU:=w3;have w3:PL.i9 S2[n]? λkvs=>PL.mI u2=true/\QU ((PL.tU u2 kvs).getD .bQ) S2:=by cases u2<;>exact w3
 let#[kvs',e',hk,w5]:=PL.ja.mp w3;let#[a2,vs',e2,_,f1,f2,f3,f4]:=R2.dd e' r1';rw[e1] at e2;cases e2;have g:sQ H2 a1 v2 (jC vs' (vI u2)):=.inl #[vs',vI u2,f1,kq hk r2,rfl];rcases rX hk f2 f3 f4 with⟨l1,l2⟩|⟨u',v',l1,l2,l3⟩
 .rw[l2] at g
  rw[l1] at w5;exact#[none,g,(q.later (st1.trans st2)).now R2 w5 (fc.mpr rfl)]
 .rw[l2] at g
  rw[l1] at w5;exact#[some v',g,(q.later (st1.trans st2)).now R2 w5 l3]
theorem Qv(G:Good t T Γ k I X)(hs:my b=true)(ha:∀pZ E,dZ (X.at_ pZ E) a (tE (X.cc t) Γ x))(hb:∀pZ E,dZ (X.at_ pZ E) b (tE (X.cc t) Γ y)):dZ X (.Subscript a b pos) (tE (X.cc t) Γ (.HV x y)):=by
 refine up λpZ E=>(LF (X:=X.at_ pZ E) (by have:=G.units;show X.A.units+1<fF;omega) (dn (ha pZ E)) (dn (hb pZ E)) (by cases b<;>first|exact ff hs| (intro _ _;rfl))).imp ?_
 kd_p;z_go;refine#[env,ρ1,S1,_,EU,he.later R st1,R1,w1,λu2 S2 v2 H2 ρ2 w2 st2 R2 r2=>?_,qx.later st1];let#[n,rfl,w2]:=PL.jt.mp (show PL.uC _ _ from w2);let#[kvs,e,hk,w3]:=PL.ja.mp w2;let#[u',l1,w4]:=PL.jr.mp w3;let#[a1,vs,e1,ha1,g1,g2,g3,g4]:=R2.dd e (r1.mono R1 st2);rcases rX hk g2 g3 g4 with⟨z1,_⟩|⟨u3,v',z1,l2,l3⟩
 .rw[l1] at z1;cases z1
 .rw[l1] at z1;cases z1
  exact#[a1,v',e1,.inl #[vs,vI u2,g1,kq hk r2,l2.symm],(q.later (st1.trans st2)).now R2 w4 l3]
theorem Mz:dZ X (.Dict [] [] pos) (tE (X.cc t) Γ (.dH .nil .nil)):=by
 rwa[up λpZ E=>(L4 (X:=X.at_ pZ E)).imp ?_]
 kd_p;have w:QU (.loc S.length) (S++[.dH []])\/QU (.loc S.length) (S++[.uh []])\/QU (.loc S.length) (S++[.wL []]):=w.2;have al:∀{ho:HO}{o:SO},QU (.loc S.length) (S++[o])->(∀p,uo (X.cc t) (ρ++[p]) (upd H p ho) p o)->∀p,H p=none->Q (.ref p) (upd H p ho):=λw z p hp=>by
  rwa[q _ _ _ _ _ w (iu.alloc R hp _) (R.alloc hp (z p)) (eL.mpr #[p,rfl,?_])];rw[<-R.len,ax (ak _),b8];rfl
 rcases w with w|w|w
 .exact#[.dK [],.inl rfl,al w λp=>#[[],cg,rfl,aX.nil,aX.nil]]
 .exact#[.dT [],.inr (.inl rfl),al w λp=>#[[],cg,rfl,aX.nil]]
 .exact#[.dP [],.inr (.inr rfl),al w λp=>#[[],cg,rfl,aX.nil]]
theorem MA(G:Good t T Γ k I X)(hg:I.gl ("list":Str)=true)(hb:"list"∈T.mJ)(hc:X.calm=true)(h0:fX o=true)(hl:(ap.endLine==cp.line)=true)(ho:∀pZ E,dZ (X.at_ pZ E) o (tE (X.cc t) Γ x)):
  dZ X (.Call (.Name ("list":Str) p) [.Call (.Attribute o ("values":Str) ap) [] [] cp] [] pos) (tE (X.cc t) Γ (.jq .vals x .nil)):=by
 refine up λpZ E=>(pE (X:=X.at_ pZ E) (CW hc) (jL G hg) (G.tab.mJ "list" hb) (by decide +kernel)
  (uA (HB (X:=X.at_ pZ E) i8 wD PySem.F.type_dict_values FN (dn (ho pZ E)) (eY h0) hl) yM (de rfl)) ⋯ ⋯ (de rfl) rfl).imp ?_
 kd_p;z_go;let#[w1,w2]:=w1;cases u<;>first|exact aO w1|skip
 rename_i n;let#[a,ev,ha]:=eL.mp r1;have w2:PL.qg .vals (.loc n) [] S1 QU:=w2;have w2:(match S1[n]? with|some (.uh kvs)=>QU (.loc S1.length) (S1++[.lst (kvs.map (·.2))])|_=>False):=w2;cases hs:S1[n]? with
 |none=>rw[hs] at w2;erw[w2.elim]
 |some o=>
  rw[hs] at w2;cases o with
  |uh kvs=>
   let#[vs,g1,g2,g3]:=R1.at_ n a _ ha hs;refine#[by rw[ev];erw[.inr (.inr (.inl #[rfl,.inr (.inl #[vs,g1])]))],a,vs,ev,rfl,g1,λp hp=>?_];have st2:=iu.lay R1 hp (Ut p a);exact#[p,a,vs,rfl,cg,by rw[b9 (dv g1 hp)];erw[g1],λl hl=>(q.later (st1.trans st2)).FQ (R1.lay hp _) (g3.mono R1 st2) w2 hl]
  |_=>erw[w2.elim]
theorem MB(G:Good t T Γ k I X)(hg:I.gl (nm q)=true)(hc:I.calm=true)(hq:q∈T.fns)(hd:(nm q==("__debug__":Str))=false)(h1:noStar e=true)(h2:es.all noStar=true)
  (ha:C2 X (e::es) (GV (X.cc t) Γ xs)):dZ X (.Call (.Name (nm q) p) (e::es) [] pos) (tE (X.cc t) Γ (.call q xs)):=by
 let#[f,hm,hk,fd,ps,F,B]:=G.Mu.fns q hq;refine(Zj (k:=k) F ((G.calm hc).2.mono (kR k)) (jL G hg) hm hk B ha hd h1 h2).imp ?_;rintro E σ H Q ⟨env,ρ,S,QU,EU,he,R,w,qq,qx⟩;refine#[env,ρ,S,_,EU,he,R,w,λus S1 vs H1 ρ1 w1 st1 R1 r1=>?_,qx];exact#[us,ρ1,S1,QU,EU,r1,R1,w1,qq.later st1,qx.later st1]
theorem IY(G:Good t T Γ k I X)(hg:I.gl (nm q)=true)(hc:I.calm=true)(hq:q∈T.fns)(hd:(nm q==("__debug__":Str))=false):dZ X (.Call (.Name (nm q) p) [] [] pos) (tE (X.cc t) Γ (.call q .nil)):=by
 let#[f,hm,hk,fd,ps,F,B]:=G.Mu.fns q hq;refine(UQ (k:=k) F ((G.calm hc).2.mono (kR k)) (jL G hg) hm hk B hd).imp ?_;rintro E σ H Q ⟨env,ρ,S,QU,EU,he,R,w,qq,qx⟩;exact#[[],ρ,S,QU,EU,aX.nil,R,w,qq,qx]
theorem Be(R:cz c ρ H S)(hc:c.cls cn=some C)(hx:H x=none)(hd:H dx=none)(ne:dx≠x):
  iu ρ H (ρ++[x]) (upd (upd H dx (.own x)) x (.ins C dx []))/\cz c (ρ++[x]) (upd (upd H dx (.own x)) x (.ins C dx [])) (S++[.ins cn []])/\Rep c (ρ++[x]) (upd (upd H dx (.own x)) x (.ins C dx [])) (.loc S.length) (.ref x):=by
 have R1:=R.lay hd (.own x);have s1:=iu.lay R hd (.own x);have hx1:upd H dx (.own x) x=none:=by rw[b9 (cC ne)];erw[hx]
 have s2:=iu.alloc R1 hx1 (.ins C dx []);refine#[s1.trans s2,R1.alloc hx1 #[C,dx,[],hc,cg,rfl,aX.nil],eL.mpr #[x,rfl,?_]];rw[<-R.len,ax (ak _),b8];rfl
theorem UZ(G:Good t T Γ k I X)(hg:I.gl (nm q)=true)(hc:I.calm=true)(hq:q∈T.qI)(hd:(nm q==("__debug__":Str))=false)(h1:noStar e=true)(h2:es.all noStar=true)
  (ha:C2 X (e::es) (GV (X.cc t) Γ xs)):dZ X (.Call (.Name (nm q) p) (e::es) [] pos) (tE (X.cc t) Γ (.mk q (q++".__init__") xs)):=by
 let#[C,f,hC,hm,M,fd,ps,F,B]:=G.Mu.cls q hq;refine(Zl (k:=k) M F (G.calm hc).2 (jL G hg) hm B ha hd h1 h2).imp ?_;rintro E σ H Q ⟨env,ρ,S,QU,EU,he,R,w,qq,qx⟩;refine#[env,ρ,S,_,EU,he,R,w,λus S1 vs H1 ρ1 w1 st1 R1 r1=>?_,qx];intro x dx hx hdx ne;let#[s2,R2,r2]:=Be R1 hC hx hdx ne;refine#[_,ρ1++[x],_,_,EU,aX.cons r2 (r1.mono R1 s2),R2,w1,λu S3 v H3 ρ3 w3 st3 R3 r3=>?_,qx.later (st1.trans s2)];let#[rfl,w4]:=w3;exact#[fc.mp r3,qq _ _ _ _ _ w4 ((st1.trans s2).trans st3) R3 (r2.mono R2 st3)]
theorem Qw(G:Good t T Γ k I X)(hg:I.gl (nm q)=true)(hc:I.calm=true)(hq:q∈T.qI)(hd:(nm q==("__debug__":Str))=false):dZ X (.Call (.Name (nm q) p) [] [] pos) (tE (X.cc t) Γ (.mk q (q++".__init__") .nil)):=by
 let#[C,f,hC,hm,M,fd,ps,F,B]:=G.Mu.cls q hq;refine(US (k:=k) M F (G.calm hc).2 (jL G hg) hm B hd).imp ?_;rintro E σ H Q ⟨env,ρ,S,QU,EU,he,R,w,qq,qx⟩;intro x dx hx hdx ne;let#[s2,R2,r2]:=Be R hC hx hdx ne;refine#[_,ρ++[x],_,_,EU,aX.cons r2 aX.nil,R2,w,λu S3 v H3 ρ3 w3 st3 R3 r3=>?_,qx.later s2];let#[rfl,w4]:=w3;exact#[fc.mp r3,qq _ _ _ _ _ w4 (s2.trans st3) R3 (r2.mono R2 st3)]
theorem lookup_none:∀{fs:List (String×U)}{vs:List (Str×V)}{m:String},vs.map (·.1)=(fs.map (·.1)).map nm->fs.lookup m=none->vs.lookup (nm m)=none
 |[],[],_,_,_=>rfl
 |[],_::_,_,e,_=>by simp at e
 |_::_,[],_,e,_=>by simp at e
 | (g,w)::fs,(a,v)::vs,m,e,h=>by
  dsimp[au,dJ] at e;rw[aK] at h ⊢;by_cases z:m=g
  .subst z;simp at h
  .have z1:(m==g)=false:=by simp[z]
   rw[z1] at h;have z2:(nm m==a)=false:=by
    rw[e.1]
    dsimp[beq_eq_false_iff_ne,ne_eq];erw[λq=>z (vL _ _ q)]
   rw[z2]
   erw[lookup_none e.2 h]
theorem MC(G:Good t T Γ k I X)(hc:I.calm=true)(hq:(m,q)∈T.qJ)(h0:fX o=true)(hl:(apos.endLine==pos.line)=true)(hn:(e::es).length<20)(h1:noStar e=true)(h2:es.all noStar=true)
  (ho:dZ X o (tE (X.cc t) Γ x)) (ha:C2 X (e::es) (GV (X.cc t) Γ xs)):dZ X (.Call (.Attribute o (nm m) apos) (e::es) [] pos) (tE (X.cc t) Γ (.cG q m (q++"."++m) x xs)):=by
 let#[C,f,hC,M,fd,ps,F,B]:=G.Mu.SF (m,q) hq;refine(Zk (k:=k) ho (G.tab.cls q C hC).1 M F ((G.calm hc).2.mono (kR k)) B ha h0 hn hl h1 h2).imp ?_;rintro E σ H Q ⟨env,ρ,S,QU,EU,he,R,w,qq,qx⟩;z_go;let#[l,e1,w2]:=PL.jt.mp w1;subst e1;let#[c',fs,e2,#[rfl,e3],w3]:=PL.mV.mp w2;let#[a,C',dx,vs,ev,_,hC',ha',hnn,_]:=R1.ins e2 r1;rw[hC] at hC';injection hC' with hC';subst hC'
 refine#[a,dx,vs,ev,ha',lookup_none hnn e3,?_];refine#[env,ρ1,S1,_,EU,he.later R st1,R1,w3,λus S2 vs2 H2 ρ2 w4 st2 R2 r2=>?_,qx.later st1];exact#[_,ρ2,S2,QU,EU,aX.cons (r1.mono R1 st2) r2,R2,w4,qq.later (st1.trans st2),qx.later (st1.trans st2)]
theorem IZ(G:Good t T Γ k I X)(hc:I.calm=true)(hq:(m,q)∈T.qJ)(h0:fX o=true)(hl:(apos.endLine==pos.line)=true)
  (ho:dZ X o (tE (X.cc t) Γ x)):dZ X (.Call (.Attribute o (nm m) apos) [] [] pos) (tE (X.cc t) Γ (.cG q m (q++"."++m) x .nil)):=by
 let#[C,f,hC,M,fd,ps,F,B]:=G.Mu.SF (m,q) hq;refine(UR (k:=k) ho (G.tab.cls q C hC).1 M F ((G.calm hc).2.mono (kR k)) B h0 hl).imp ?_;rintro E σ H Q ⟨env,ρ,S,QU,EU,he,R,w,qq,qx⟩;z_go;let#[l,e1,w2]:=PL.jt.mp w1;subst e1;let#[c',fs,e2,#[rfl,e3],w3]:=PL.mV.mp w2;let#[a,C',dx,vs,ev,_,hC',ha',hnn,_]:=R1.ins e2 r1;rw[hC] at hC';injection hC' with hC';subst hC'
 refine#[a,dx,vs,ev,ha',lookup_none hnn e3,?_];exact#[_,ρ1,S1,QU,EU,aX.cons r1 aX.nil,R1,w3,qq.later st1,qx.later st1]
end
open PL (U SO bF Xn KU KX cf)
theorem Qx(hl:PE X l tl):PI X tg l (λσ H R=>tl σ H λx H1=>(∃a,x=.ref a/\(∃xs,i3 X.K H1 a xs)/\R (XG X.K a) H1)\/(∃a,x=.ref a/\(∃xs,oq X.K H1 a xs)/\R (XH X.K a) H1)\/∃z,x=.str z/\R (Ul z) H1):=by
 intro pZ s σ H R I h;rwa[eT (hl pZ s σ H _ I h) λv s1 h9=>?_]
 let#[x,H1,I1,r1,q1]:=h9;rcases q1 with⟨a,e,⟨xs,hq⟩,q⟩|⟨a,e,⟨xs,hq⟩,q⟩|⟨z,e,q⟩
 .subst e
  cases r1;let#[its,rv,p,hz]:=I1.list hq;rwa[kE p.isList ?_];refine#[s1.heap.objs.size,[s1.heap.objs.size],_,_,H1,rfl,I1.kept (t':=s1.toks) λb o e=>aF _ e,Fg a _,#[_,a9 _ rfl,rfl,rfl],λb hb=>?_,q];have e:b=s1.heap.objs.size:=by simpa using hb
  subst e;erw[I1.Cm (ak _) (I1.dm.fresh (ak _))]
 .subst e
  cases r1;let#[its,rv,p,hz]:=I1.tuple hq;rwa[wpAny_pyIter_tuple (show s1.heap.IsTuple a its.toArray from p) ?_];refine#[s1.heap.objs.size,[s1.heap.objs.size],_,_,H1,rfl,I1.kept (t':=s1.toks) λb o e=>aF _ e,Cn a _,#[_,a9 _ rfl,rfl,rfl],λb hb=>?_,q];have e:b=s1.heap.objs.size:=by simpa using hb
  subst e;erw[I1.Cm (ak _) (I1.dm.fresh (ak _))]
 .subst e
  let#[t,rfl]:=r1;have fin:∀(b:Bool)(o:Obj),o={cls:=.type (if b then "str_ascii_iterator" else "str_iterator"),data:=.fields (List.toArray [.str z t,.int 0 0])}->XF X pZ σ tg R (.ref s1.heap.objs.size) {s1 with heap:=s1.heap.push o}:=λb o eo=>by
   refine#[s1.heap.objs.size,[s1.heap.objs.size],_,Ul z,H1,rfl,I1.kept (t':=s1.toks) λb o e=>aF _ e,HR _ z t b,#[_,a9 _ (by rw[eo];rfl),by rw[eo],by rw[eo];rfl],λc hc=>?_,q];have e:c=s1.heap.objs.size:=by simpa using hc
   subst e;erw[I1.Cm (ak _) (I1.dm.fresh (ak _))]
  cases ha:z.cps.all (·<128)
  .erw[wpAny_pyIter_wide ha (fin false _ rfl)]
  .erw[wpAny_pyIter_ascii ha (fin true _ rfl)]
section
variable{c:Ctx}{ρ:List Addr}{H:Hp}{S:bF}
theorem MD{n:Nat}{us:List U}{a:Addr}(ha:ρ[n]?=some a):C8 c ρ H (XG c.K a) us (λS'=>S'[n]?=some (.lst us)):=by
 intro i ρ2 H2 S2 st R g;let#[vs,h1,h2]:=R.at_ n a _ (st.get ha) g;refine#[λu hu=>?_,λhl=>#[vs,i3.of h1,by rw[<-h2.len];erw[hl]]];let#[v,e,r]:=h2.get hu;refine#[#[vs,v,i3.of h1,e],λy H3 h9=>?_];let#[e3,hy]:=h9;subst e3;have:=hy vs (i3.of h1);rw[e] at this;injection this with this;subst this
 exact#[.refl,R,r]
theorem Qy(R0:cz c ρ H S)(h1:H a=some (.tup vs))(h2:aX c ρ H us vs):C8 c ρ H (XH c.K a) us (λ_=>True):=by
 intro i ρ2 H2 S2 st R g;have h1':=st.fr a _ h1 (R0.not h1 rfl);have h2':=h2.mono R0 st;refine#[λu hu=>?_,λhl=>#[vs,oq.of h1',by rw[<-h2'.len];erw[hl]]];let#[v,e,r]:=h2'.get hu;refine#[#[vs,v,oq.of h1',e],λy H3 h9=>?_];let#[e3,hy]:=h9;subst e3;have:=hy vs (oq.of h1');rw[e] at this;injection this with this;subst this
 exact#[.refl,R,r]
theorem Qz:C8 c ρ H (Ul (tx l)) (l.map λd=>.str [d]) (λ_=>True):=by
 intro i ρ2 H2 S2 st R g;refine#[λu hu=>?_,λhl=>?_]
 .rw[aw] at hu
  let#[d,e,e2]:=aq.mp hu;subst e2;refine#[?_,λy H3 #[e3,d',e4,e5]=>?_]
  .show i<(tx l).cps.size
   have:=(ab.mp e).1;simpa using this
  .subst e3
   have:l[i]?=some d':=by simpa using e4
   rw[e] at this;injection this with this;subst this
   rw[e5]
   exact#[.refl,R,bA.mpr rfl]
 .show(tx l).cps.size<=i
  simpa using hl
theorem ME{n:Nat}{us:List U}{a:Addr}(ha:ρ[n]?=some a):C8 c ρ H (W7 c.K a) (us.mapIdx λi u=>.tup [.int (i:Nat),u]) (λS'=>S'[n]?=some (.lst us)):=by
 intro i ρ2 H2 S2 st R g;let#[vs,h1,h2]:=R.at_ n a _ (st.get ha) g;refine#[λu hu=>?_,λhl=>#[vs,i3.of h1,by rw[<-h2.len];simpa using hl]];rw[dM] at hu;let#[u',e0,e1]:=aq.mp hu;subst e1;let#[v,e,r]:=h2.get e0;refine#[#[vs,v,i3.of h1,e],λy H3 h9=>?_];let#[p,x,hp,e3,e4,hy]:=h9;have:=hy vs (i3.of h1);rw[e] at this;injection this with this;subst this
 subst e3 e4;have st':=iu.lay R hp (.tup [.int (i:Nat),v]);exact#[st',R.lay hp _,dB.mpr #[p,_,rfl,cg,aX.cons (aR.mpr rfl) (aX.cons (r.mono R st') aX.nil)]]
theorem Ej{n:Nat}{a:Addr}{o:Obj}{kvs:List (U×U)}{vs:List (Key×V)}(ha:ρ[n]?=some a)(h:H a=some (.sE o (.dK vs))):C8 c ρ H (Sv a o vs) (kvs.map (·.1)) (λS'=>S'[n]?=some (.vx kvs)):=by
 intro i ρ2 H2 S2 st R g;have e:=st.fz a o vs h;let#[o',vs',h1,h2,h3,_]:=R.at_ n a _ (st.get ha) g;rw[e] at h1;cases h1;refine#[λu hu=>?_,λhl=>#[e,by rw[h2];simpa using hl]];have hi:i<vs.length:=by rw[h2];have:=(ab.mp hu).1;simpa using this
 refine#[#[e,hi],λy H3 h9=>?_];let#[e3,k,v,e4,e5]:=h9;subst e3 e5;let#[v2,e6,r]:=h3.get hu;rw[aw,e4] at e6;cases e6;exact#[.refl,R,r]
theorem I8:C8 c ρ H (WW 0 n) ((bO n).map λk=>.int (k:Nat)) (λ_=>True):=by
 intro i ρ2 H2 S2 st R g;refine#[λu hu=>?_,λhl=>?_]
 .rw[aw] at hu
  let#[d,e,e2]:=aq.mp hu;subst e2;have hi:=(ab.mp e).1;rw[cU] at hi;rw[iQ hi] at e;injection e with e;subst e
  refine#[hi,λy H3 h9=>?_];let#[e3,e4]:=h9;subst e3;subst e4;exact#[.refl,R,aR.mpr (by simp)]
 .show n<=i
  simpa using hl
end
section
variable{t:xX}{T:Tab}{Γ:cf}{k n:Nat}{I:Inf}{X:Cx}
theorem QC{e tg:Expr}{x:PL.Ex}(h:∀pZ E,dZ (X.at_ pZ E) e (tE (X.cc t) Γ x))(pZ:List (Addr×Obj))(E:St->XK):PI (X.at_ pZ E) tg e (λσ H R=>zr (X.cc t) Γ (.val x) (E σ) σ H R):=by
 rwa[λpins' s σ H Q J z=>Qx (X:=X.at_ pZ E) (dn (h pZ E)) pins' s σ H Q J ?_]
 let#[env,ρ,S,RU,EU,he,R,w,q,qx]:=z;z_go;cases u with
 |str l=>rw[bA.mp r1];erw[.inr (.inr #[_,rfl,q _ _ _ _ _ _ w1 st1 R1 Qz])]
 |tup us=>
  let#[a,vs,e1,h1,h2]:=dB.mp r1;erw[.inr (.inl #[a,e1,#[vs,oq.of h1],q _ _ _ _ _ _ w1.2 st1 R1 (Qy R1 h1 h2)])]
 |loc m=>
  let#[us,e0,w2]:=PL.cV.mp (show PL.getL _ _ from w1);let#[a,vs,e1,ha,h1,h2]:=R1.lst e0 r1;erw[.inl #[a,e1,#[vs,i3.of h1],q _ _ _ _ _ _ w2 st1 R1 (MD ha)]]
 |_=>erw[aO w1]
theorem MF{e tg:Expr}{x:PL.Ex}(h:∀pZ E,dZ (X.at_ pZ E) e (tE (X.cc t) Γ x))(pZ:List (Addr×Obj))(E:St->XK):PI (X.at_ pZ E) tg e (λσ H R=>zr (X.cc t) Γ (.keys x) (E σ) σ H R):=by
 rwa[λpins' s σ H Q J z=>LK (X:=X.at_ pZ E) (dn (h pZ E)) pins' s σ H Q J ?_]
 let#[env,ρ,S,RU,EU,he,R,w,q,qx]:=z;z_go;let#[n,rfl,w1]:=PL.jt.mp (show PL.uC _ _ from w1);let#[kvs,e,w2]:=PL.ja.mp w1;let#[a,ev,ha]:=eL.mp r1;rcases e with e|e
 .let#[vs,g1,g2,g3,g4]:=R1.at_ n a _ ha e
  refine#[a,vs,ev,.inl #[g1,λo=>?_]];have st2:=iu.put (H:=H1) (ah ha) g1 rfl (.sE o (.dK vs));erw[q _ _ _ _ _ _ w2 (st1.trans st2) (R1.put ha g1 rfl #[o,vs,cg,g2,g3.mono R1 st2,g4.mono R1 st2]) (Ej ha cg)]
 .let#[o,vs,g1,g2,g3,g4]:=R1.at_ n a _ ha e
  have es:S1.set n (.vx kvs)=S1:=by
   let#[hl,e2]:=ab.mp e;rw[<-e2];erw[List.set_getElem_self hl]
  rw[es] at w2;exact#[a,vs,ev,.inr #[o,g1,q _ _ _ _ _ _ w2 st1 R1 (Ej ha g1)]]
theorem I9(G:Good t T Γ k I X)(hg:I.gl ("range":Str)=true)(hb:"range"∈T.mJ)(h1:noStar a=true)(h:∀pZ E,dZ (X.at_ pZ E) a (tE (X.cc t) Γ x))(pZ:List (Addr×Obj))(E:St->XK):
  PI (X.at_ pZ E) tg (.Call (.Name ("range":Str) p) [a] [] pos) (λσ H R=>zr (X.cc t) Γ (.range x) (E σ) σ H R):=by
 rwa[λpins' s σ H Q J z=>Fh (X:=X.at_ pZ E) (jL G hg) (G.tab.mJ "range" hb) (uA (dn (h pZ E)) yM (de h1)) (de h1) pins' s σ H Q J ?_]
 let#[env,ρ,S,RU,EU,he,R,w,q,qx]:=z;z_go;let#[j,e,w2,w3,w4]:=PL.gC.mp w1;subst e;exact#[j,by rw[aR.mp r1],∅,∅,q _ _ _ _ _ _ w4 st1 R1 I8]
theorem Zm{n:Nat}{e:Expr}{x:PL.It}{es:List Expr}{ek:Nat}{tp:Pos}(IH:FW t T Γ k n)(G:Good t T Γ k I X)(h:cN T (n+1) I e=some x)(pZ:List (Addr×Obj))(E:St->XK):PI (X.at_ pZ E) (.Tuple es ek tp) e (λσ H R=>zr (X.cc t) Γ x (E σ) σ H R):=by
 rw[Y5] at h;delta stN at h;split at h
 .rename_i f a hr
  let#[p,cp,rfl]:=N3 hr;split at h
  .rename_i hc
   dsimp[aj] at hc;let#[#[#[c1,c2],c3],c4]:=hc;have ef:f=("enumerate":Str):=by simpa using c1
   subst ef;let#[y,h1,h2]:=aq.mp h;subst h2;refine λpins' s σ H Q J z=>L1 (X:=X.at_ pZ E) (jL G c2) (G.tab.mJ "enumerate" (by simpa using c3)) (uA (dn (IH.fe G.at_ h1)) yM (de c4)) (de c4) pins' s σ H Q J ?_
   let#[env,ρ,S,RU,EU,he,R,w,q,qx]:=z;z_go;let#[m,e,w2]:=PL.jt.mp w1;subst e;let#[us,e0,w3]:=PL.cV.mp w2;let#[b,vs,e1,hb,g1,g2]:=R1.lst e0 r1;subst e1;exact#[b,rfl,#[vs,i3.of g1],q _ _ _ _ _ _ w3 st1 R1 (ME hb)]
  .erw[nn h]
 .erw[nn h]
theorem MG:∀{n:Nat}{I:Inf}{e:Expr}{x:PL.Ex},cE T n I e=some x->noStar e=true:=by
 intro n I e x h;cases n with
 |zero=>erw[nn h]
 |succ n=>
  cases e<;>first|rfl|exact nn h
theorem U0(IH:FW t T Γ k n)(G:Good t T Γ k I X)(h:cI T (n+1) I e=some x)(pZ:List (Addr×Obj))(E:St->XK):PI (X.at_ pZ E) tg e (λσ H R=>zr (X.cc t) Γ x (E σ) σ H R):=by
 have gen:∀{x:PL.It},(cE T n I e).map PL.It.val=some x->PI (X.at_ pZ E) tg e (λσ H R=>zr (X.cc t) Γ x (E σ) σ H R):=λh=>by
  let#[y,h1,h2]:=aq.mp h;subst h2;erw[QC (λpZ E=>IH.fe G.at_ h1) pZ E]
 rw[Y3] at h;delta stI at h;split at h
 .rename_i f a hr
  let#[p,cp,rfl]:=N3 hr;split at h
  .rename_i hf
   split at h
   .rename_i hc
    rw[aj] at hc;let#[y,h1,h2]:=aq.mp h;subst h2;have ef:f=("range":Str):=by simpa using hf
    subst ef;exact I9 G hc.1 (by simpa using hc.2) (MG h1) (λpZ E=>IH.fe G.at_ h1) pZ E
   .erw[nn h]
  .erw[gen h]
 .split at h
  .let#[y,h1,h2]:=aq.mp h
   subst h2;erw[MF (λpZ E=>IH.fe G.at_ h1) pZ E]
  .erw[gen h]
end
open PL (U SO bF Xn KU KX cf)
section
variable{c:Ctx}{ρ ρ2:List Addr}{H H2:Hp}{S:bF}
theorem iu.U1(a:iu ρ H ρ2 H2)(h:H D=none):iu ρ H (ρ2++[D]) H2:=by
 let#[m,e]:=a.pre;refine#[#[m++[D],by rw[e,bJ]],λb hb nb=>?_,a.fr,a.fz];rcases aG.mp hb with z|z
 .erw[a.new b z nb]
 .rw[aZ.mp z];erw[h]
theorem iu.A9(a:iu ρ H ρ2 H2)(h:H D=none)(o:HO):iu ρ H ρ2 (upd H2 D o):=
 #[a.pre,a.new,λb o' h1 h2=>by rw[b9 (dv h1 h)];erw[a.fr b o' h1 h2],λb o' vs h1=>by rw[b9 (dv h1 h)];erw[a.fz b o' vs h1]]
theorem iu.out(a:iu ρ H ρ2 H2)(h:H D=some o)(n:D∉ρ):D∉ρ2/\H2 D=some o:=by
 refine#[λz=>?_,a.fr D o h n];have:=a.new D z n;rw[h] at this;cases this
theorem Ja(he:jR c ρ H env σ)(r:jR c ρ H us ys):jR c ρ H (us++PL.mY env ci) (ys++gV σ ci):=by
 have hl:=r.len;refine#[by simp[PL.mY,gV,hl],λi w e=>?_];by_cases lt:i<us.length
 .rw[ag lt] at e
  rw[ag ∅]
  erw[r.at_ i w e]
 .rw[ax ∅] at e
  rw[ax ∅,<-hl]
  generalize i-us.length=i at e ⊢;unfold PL.mY at e;unfold gV;rw[aw] at e ⊢;cases q:ci[i]? with
  |none=>rw[q] at e;cases e
  |some j=>
   rw[q] at e;dsimp[iX,iY] at e ⊢;cases z:env[j]? with
   |none=>rw[z] at e;cases e
   |some o=>
    rw[z] at e;cases o with
    |none=>cases e
    |some w'=>
     simp at e;subst e;let#[v,e1,r1]:=he.at_ j w' z;exact#[v,by rw[e1];rfl,r1]
theorem U2(r:Rep c ρ H u y):jR c ρ H [some u] [some y]:=
 #[rfl,λi w e=>by cases i<;>simp at e;subst e;exact#[y,rfl,r]]
theorem U3(r:Rep c ρ H u y)(r':Rep c ρ H u' y'):jR c ρ H [some u,some u'] [some y,some y']:=
 #[rfl,λi w e=>by
  match i with
  |0=>simp at e;subst e;exact#[y,rfl,r]
  |1=>simp at e;subst e;exact#[y',rfl,r']
  |i+2=>simp at e]
end
section
variable{t:xX}{T:Tab}{Γ:cf}{k n:Nat}{I:Inf}{X:Cx}
theorem C1.no(h:C1 X e tt)(hx:∀e s,X.xe e s↔False):PT X e (λσ H Q=>tt (λ_ _ _=>False) σ H Q):=by
 intro pZ s σ H Q J z;rwa[bY (h pZ s σ H Q _ J z) (λ_ _ q=>q) λu s' q=>?_]
 let#[a,tb,cl,dx,H',_,_,_,_,w]:=q;erw[aO w]
theorem dZ.no(h:dZ X e tt)(hx:∀e s,X.xe e s↔False):PE X e (λσ H Q=>tt (λ_ _ _=>False) σ H Q):=by
 intro pZ s σ H Q J z;rwa[bY (h pZ s σ H Q _ J z) (λ_ _ q=>q) λu s' q=>?_]
 let#[a,tb,cl,dx,H',_,_,_,_,w]:=q;erw[aO w]
theorem mem_lookup:∀{l:List (Str×NameKind)}{y:Str}{k:NameKind},l.lookup y=some k->(y,k)∈l
 |[],_,_,h=>nomatch h
 | (a,b)::l,y,k,h=>by
  rw[aK] at h;by_cases e:y=a
  .subst e;simp at h;subst h;erw[aT]
  .have e2:(y==a)=false:=by simp[e]
   rw[e2] at h;erw[aA _ (mem_lookup h)]
theorem vM(G:Good t T Γ k I X)(h:vF I sc x=true):AO X sc x:=by
 unfold vF at h;dsimp[aj,bI] at h;let#[#[#[#[#[h1,h2],h3],h4],h5],h6]:=h;refine#[by simpa using h1,λy hy e=>?_,λy hy e=>?_,λy hy e=>?_,λy hy=>by simpa using h5 y hy,of_decide_eq_true h6,λy e=>?_]
 .have:=h2 y hy;rw[e] at this;simpa using this
 .have:=h3 y hy;rw[e] at this;simpa using this
 .have:=h4 y hy;rw[e] at this;rw[G.names];simpa using this
 .erw[mem_lookup e]
theorem Ek(G:Good t T Γ k I X)(h:(iO I sc).mapM (λy=>eG y I.N)=some ci):yW X sc (iO I sc) ci:=by
 have key:∀(l:List Str)(ci:List Nat),l.mapM (λy=>eG y I.N)=some ci->ci.length=l.length/\∀(k:Nat)(y:Str),l[k]?=some y->∃j:Nat,ci[k]?=some j/\I.N[j]?=some y:=by
  intro l;induction l with
  |nil=>intro ci h;simp at h;subst h;exact#[rfl,λk y e=>by simp at e]
  |cons a l ih=>
   intro ci h;dsimp[List.mapM_cons,aP,ay] at h;let#[j,h1,r,h2,h3]:=h;simp at h3;subst h3;let#[q1,q2]:=ih r h2;refine#[by simp[q1],λk y e=>?_];cases k with
   |zero=>simp at e;subst e;exact#[j,rfl,fB h1]
   |succ k=>simp at e ⊢;erw[q2 k y e]
 let#[q1,q2]:=key _ _ h;refine#[q1,λk y e=>?_,λy hy=>?_]
 .rw[G.slots];erw[q2 k y e]
 .unfold iO at hy
  have:=(dX.mp hy).2;simpa using this
theorem r6(G:Good t T Γ k I X)(hc:I.calm=true)(h:vF I sc x=true)(cp:yW X sc (iO I sc) ci)(hn:(iO I sc).Nodup):
  Good t T Γ k #[rS I sc.names,x++iO I sc,true] (X.vp sc C (x++iO I sc) s₀ H₀ ex):=by
 have B:=vM G h;refine#[G.tab,G.Mu,B.kind,?_,rfl,sT cp B hn,λ_=>G.calm hc,G.units];show(Hc sc X.env).names=_;unfold Hc rS;simp only
 congr 1
 funext p
 let#[a,b]:=p;dsimp[G.kind,Env.kindOf,G.names];simp
theorem yc(z:tE (X.cc t) Γ (.comp pr e it tc ci) E σ H Q):
  HN (Uk X.K pr) (λσ H R=>zr (X.cc t) Γ it E σ H R) ci (λσ H Q=>tT (X.cc t) Γ tc (λ_ _ _=>False) σ H Q) (λσ H Q=>tE (X.cc t) Γ e (λ_ _ _=>False) σ H Q) σ H Q:=by
 let#[env,ρ,S,QU,EU,he0,R,w,q,qx]:=z;refine#[env,ρ,S,_,EU,he0,R,w,λus g S1 H1 ρ1 J w1 st1 R1 io=>?_,qx];intro D hD;have he1:=he0.later R st1;have D0:D∉ρ1:=R1.Iv hD
 let F:=PL.ow g (λu S2 k=>PL.qr pr u (PL.mY env ci) λen=>PL.WT Γ tc en S2 k λ_ _=>False)
   (λu S2 k=>PL.qr pr u (PL.mY env ci) λen=>PL.WE Γ e en S2 k λ_ _=>False) (λacc S3=>QU (.loc S3.length) (S3++[.lst acc]))
 refine#[λi m acc H2=>m+i=us.length/\∃ρ2 S2 accU,iu ρ1 H1 ρ2 H2/\cz (X.cc t) ρ2 H2 S2/\D∉ρ2/\H2 D=some (.lst acc)/\aX (X.cc t) ρ2 H2 accU acc/\F (us.drop i) accU S2,#[us.length,rfl,ρ1,S1,[],iu.lay R1 hD _,R1.lay hD _,D0,cg,aX.nil,w1],?_];rintro i m acc H2 ⟨hm,ρ2,S2,accU,st2,R2,D2,hD2,ra,wc⟩;have hlen:acc.length=accU.length:=ra.len.symm;cases hd:us.drop i with
 |nil=>
  rw[hd] at wc;obtain⟨g2,hl,w2⟩:g S2/\accU.length<1000000/\QU (U.loc S2.length) (S2++[SO.lst accU]):=wc;refine#[hD2,by rw[hlen];erw[av hl ⋯],.inl #[((io i ρ2 H2 S2 st2 R2 g2).2 (DJ.mp hd)),?_]];rwa[q _ _ _ _ _ w2 (st1.trans (st2.U1 hD)) (R2.join D2 #[acc,hD2,ra]) (eL.mpr #[D,rfl,?_])];rw[<-R2.len,ax (ak _),b8];rfl
 |cons u rest=>
  rw[hd] at wc;obtain⟨g2,hl,w0⟩:g S2/\accU.length<1000000/\PL.qr pr u (PL.mY env ci) λen=>PL.WT Γ tc en S2 (λb S3=>if b=true then PL.qr pr u (PL.mY env ci) (λen=>PL.WE Γ e en S3 (λv S4=>F rest (accU++[v]) S4) (λ_ _=>False)) else F rest accU S3) (λ_ _=>False):=wc
  have hu:us[i]?=some u:=by
   have:=congrArg (λl=>l[0]?) hd;simpa using this
  have hr:us.drop (i+1)=rest:=by
   have:=congrArg List.tail hd;simpa using this
  have hi:i<us.length:=(ab.mp hu).1;let#[jg,jy]:=(io i ρ2 H2 S2 st2 R2 g2).1 u hu;refine#[hD2,by rw[hlen];exact av hl ⋯,.inr #[jg,λy H3 hy=>?_]];let#[st3,R3,ry]:=jy y H3 hy;let#[_,hD3]:=st3.out hD2 D2;have ra3:=ra.mono R2 st3;obtain⟨us',τ,rτ,w2,kτ⟩:∃(us':PL.Env)(τ:St),jR (X.cc t) ρ2 H3 us' τ/\PL.WT Γ tc (us'++PL.mY env ci) S2 (λb S3=>if b=true then PL.WE Γ e (us'++PL.mY env ci) S3 (λv S4=>F rest (accU++[v]) S4) (λ_ _=>False) else F rest accU S3) (λ_ _=>False)/\∀k:St->Prop,k τ->Uk X.K pr y H3 k:=by
   cases pr with
   |false=>exact#[[some u],[some y],U2 ry,w0,λk z=>z]
   |true=>
    let#[u1,u2,eu,w2]:=PL.D1.mp w0;subst eu;let#[a,vs,e1,ha,hr2]:=dB.mp ry;let#[v1,v2,ev,r1,r2]:=Eh hr2;subst ev;exact#[[some u1,some u2],[some v1,some v2],U3 r1 r2,w2,λk z=>#[a,v1,v2,e1,oq.of ha,z]]
  have he3:=Ja (ci:=ci) (he1.later R1 (st2.trans st3)) rτ;rwa[kτ _ #[_,ρ2,S2,_,_,he3,R3,w2,λb S4 H4 ρ4 w4 st4 R4=>?_,λ_ _ _ _ _ _ z=>aO z]];let#[D4,hD4]:=st4.out hD3 D2;have ra4:=ra3.mono R3 st4;cases b with
  |false=>exact#[m-1,∅,∅,ρ4,S4,accU,(st2.trans st3).trans st4,R4,D4,hD4,ra4,by rw[hr];erw[w4]]
  |true=>
   refine#[_,ρ4,S4,_,_,he3.later R3 st4,R4,w4,λv S5 z H5 ρ5 w5 st5 R5 r5=>?_,λ_ _ _ _ _ _ z=>aO z];let#[D5,hD5]:=st5.out hD4 D4;have ra5:=(ra4.mono R4 st5).app (aX.cons r5 aX.nil);refine#[hD5,m-1,∅,∅,ρ5,S5,accU++[v],(((st2.trans st3).trans st4).trans st5).A9 hD _,R5.A9 _ hD5 rfl D5,D5,cg,ra5.iF #[[],by simp] (zk hD5 rfl),by rw[hr];erw[w5]]
theorem Jb(ht:Ma tg=some x)(B:AO X sc x)(cp:yW X sc cn ci)(hn:cn.Nodup)(hc:X.calm=true):Sw X tg sc x cn (Uk X.K (x.length==2)):=by
 rcases CZ ht with⟨_,_,rfl,rfl⟩|⟨_,_,_,_,_,_,rfl,rfl⟩
 .erw[HP B cp hn]
 .erw[HQ B cp hn hc]
theorem MH{elt iter tg:Expr}{ifs:List Expr}{x:List Str}{pos:Pos}{sc:jW}{it:PL.It}{tc:PL.Tx}{e:PL.Ex}{ci:List Nat}(G:Good t T Γ k I X)(hc:I.calm=true)(ht:Ma tg=some x)(hb:vF I sc x=true)(hci:(iO I sc).mapM (λy=>eG y I.N)=some ci)
  (hs:∀env v,foldedSetIterable iter env v=pure v) (hi:∀pZ E,PI (X.at_ pZ E) tg iter (λσ H R=>zr (X.cc t) Γ it (E σ) σ H R))
  (hif:∀(X':Cx),Good t T Γ k #[rS I sc.names,x++iO I sc,true] X'->X'.cc t=X.cc t->(∀e s,X'.xe e s↔False)->LM X' ifs (λσ H Q=>tT (X.cc t) Γ tc (λ_ _ _=>False) σ H Q))
  (he:∀(X':Cx),Good t T Γ k #[rS I sc.names,x++iO I sc,true] X'->X'.cc t=X.cc t->dZ X' elt (tE (X.cc t) Γ e)):
  dZ X (.ListComp elt [#[tg,iter,ifs,0]] sc pos) (tE (X.cc t) Γ (.comp (x.length==2) e it tc ci)):=by
 have hn:(iO I sc).Nodup:=by
  unfold iO;have:=G.nd;rw[G.slots] at this;erw[this.filter _]
 rwa[up λpZ E=>?_]
 have cp:=Ek (X:=X.at_ pZ E) G.at_ hci;refine(LQ (X:=X.at_ pZ E) (wi:=λσ H R=>zr (X.cc t) Γ it (E σ) σ H R) (tc:=λσ H Q=>tT (X.cc t) Γ tc (λ_ _ _=>False) σ H Q) (te:=λσ H Q=>tE (X.cc t) Γ e (λ_ _ _=>False) σ H Q)
  (vM G.at_ hb) cp hn (G.calm hc).1 (Jb ht (vM G.at_ hb) cp hn (G.calm hc).1) (hi pZ E) (λC s₀ H₀ ex=>hif _ (r6 G.at_ hc hb cp hn) rfl λ_ _=>kN) (λC s₀ H₀ ex=>(he _ (r6 G.at_ hc hb cp hn) rfl).no λ_ _=>kN) (hs _)).imp λσ H Q z=>yc z
theorem MI(ha:∀pZ E,dZ (X.at_ pZ E) a (tE (X.cc t) Γ x))(hb:∀pZ E,dZ (X.at_ pZ E) b (tE (X.cc t) Γ y)):dZ X (.Dict [some a] [b] pos) (tE (X.cc t) Γ (.dH #v[x] #v[y])):=by
 rwa[up λpZ E=>(LI (X:=X.at_ pZ E) (HH (dn (ha pZ E)) (dn (hb pZ E)) LH) rfl rfl (by simp) (show 1<=15 by decide)).imp ?_]
 kd_p;intro p hp;have st0:=iu.lay R hp (.dK []);have R0:=R.lay hp (.dK []);refine#[env,ρ,S,_,EU,he.later R st0,R0,w,λu S1 v H1 ρ1 w1 st1 R1 r1=>?_,qx.later st0];refine#[env,ρ1,S1,_,EU,(he.later R st0).later R0 st1,R1,w1,λu2 S2 v2 H2 ρ2 w2 st2 R2 r2=>?_,(qx.later st0).later st1];obtain⟨_,hk,w',e,w3⟩:([u]:List U).length<=100/\PL.mI u=true/\∃v,[u2]=[v]/\QU (.loc S2.length) (S2++[SO.dH [(u,v)]]):=w2;cases e;let#[p2,hp2]:=(st1.trans st2).out cg (R.Iv hp);have im:=zk (ho:=.dK [(vI u,v2)]) hp2 rfl;have k1:=(r1.mono R1 st2).iF (ρ':=ρ2) #[[],by simp] im;have k2:=r2.iF (ρ':=ρ2) #[[],by simp] im;refine#[hp2,[(vI u,v2)],by rw[kq hk r1];rfl,show 1<=15 by decide,?_];show Q (.ref p) (upd H2 p (.dK [(vI u,v2)]));rwa[q _ _ _ _ _ w3 ((((st0.trans st1).trans st2).A9 hp _).U1 hp) ((R2.A9 _ hp2 rfl p2).join p2 #[_,cg,rfl,aX.cons (show Rep (X.cc t) ρ2 _ u (kV (vI u)) by rw[<-kq hk r1];erw[k1]) aX.nil,aX.cons k2 aX.nil]) (eL.mpr #[p,rfl,?_])];rw[<-R2.len,ax (ak _),b8];rfl
end
open PL (U SO bF Xn KU KX cf)
section
variable{t:xX}{T:Tab}{Γ:cf}{k n:Nat}{I:Inf}{X:Cx}
theorem QD(h:∀pZ E,dZ (X.at_ pZ E) e (tE (X.cc t) Γ x))(he:∀env whole,isTrue e env whole=(do let v <-whole;standAt e.pos;holding [v] (truthy v))):C1 X e (tT (X.cc t) Γ (.dk x)):=by
 rwa[Xi λpZ E=>(Hu (X:=X.at_ pZ E) (dn (h pZ E)) (he _)).imp ?_]
 kd_p;z_go;let#[b,e1,w2]:=PL.jr.mp w1;exact#[b,Mt (X:=X) rfl R1 r1 e1,q _ _ _ _ w2 st1 R1]
theorem MJ(h:∀pZ E,C1 (X.at_ pZ E) e (tT (X.cc t) Γ x)):C1 X (.UnaryOp .Not e pos) (tT (X.cc t) Γ (.not x)):=by
 rwa[Xi λpZ E=>(OH (X:=X.at_ pZ E) (SE (h pZ E))).imp ?_]
 kd_p;exact#[env,ρ,S,_,EU,he,R,w,λb S1 H1 ρ1 w1 st1 R1=>q _ _ _ _ w1 st1 R1,qx]
theorem PW.imp{e:Expr}{t t':TT}(h:PW X e t)(q:∀σ H Q,t' σ H Q->t σ H Q):PW X e t':=λwhole pZ s σ H Q I z=>h whole pZ s σ H Q I (q σ H Q z)
theorem QE(IH:FW t T Γ k n)(G:Good t T Γ k I X):∀{vs:List Expr}{x:PL.Tx},Xh T (n+1) I op vs=some x->∀pZ E,PW (X.at_ pZ E) (.BoolOp op vs pos) (λσ H Q=>tT (X.cc t) Γ x (E σ) σ H Q)
 |[],x,h,_,_=>by rw[Iu,Ip] at h;cases h
 |[a],x,h,pZ,E=>by
  rw[Iu,Ip] at h;cases op with
  |And=>erw[Lb (SE (IH.ft G.at_ h))]
  |Or=>erw[OF (SE (IH.ft G.at_ h))]
 |a::b::r,y,h,pZ,E=>by
  rw[Iu,Ip] at h;dsimp[aP,ay] at h;let#[x,h1,z,h2,h3]:=h;injection h3 with h3;subst h3
  cases op with
  |And=>
   refine(OG (X:=X.at_ pZ E) (SE (IH.ft G.at_ h1)) (IH.Zi G h2 pZ E)).imp ?_;kd_p;refine#[env,ρ,S,_,EU,he,R,w,λb S1 H1 ρ1 w1 st1 R1=>?_,qx];cases b with
   |true=>exact#[env,ρ1,S1,QU,EU,he.later R st1,R1,w1,q.later st1,qx.later st1]
   |false=>erw[q _ _ _ _ w1 st1 R1]
  |Or=>
   refine(SY (X:=X.at_ pZ E) (SE (IH.ft G.at_ h1)) (IH.Zi G h2 pZ E)).imp ?_;kd_p;refine#[env,ρ,S,_,EU,he,R,w,λb S1 H1 ρ1 w1 st1 R1=>?_,qx];cases b with
   |true=>erw[q _ _ _ _ w1 st1 R1]
   |false=>exact#[env,ρ1,S1,QU,EU,he.later R st1,R1,w1,q.later st1,qx.later st1]
theorem Bf(h:cE T n I b=some x):behindInMarks op b=false:=by
 cases b<;>first|rfl|skip
 cases n with
 |zero=>erw[nn h]
 |succ n=>erw[nn h]
theorem El(h:cI T n I e=some x):∀env v,foldedSetIterable e env v=pure v:=by
 intro env v;cases e<;>first|rfl|skip
 cases n with
 |zero=>erw[nn h]
 |succ n=>
  change ((rT T n).e I _).map PL.It.val=some x at h
  let#[y,h1,_]:=aq.mp h
  change cE T n I _=some y at h1
  cases n with
  |zero=>erw[nn h1]
  |succ n=>erw[nn h1]
theorem N6(h:cN T n I e=some x):∀env v,foldedSetIterable e env v=pure v:=by
 intro env v;cases e<;>first|rfl|skip
 cases n with
 |zero=>erw[nn h]
 |succ n=>erw[nn h]
theorem Jc(IH:FW t T Γ k n)(G:Good t T Γ k I X)(h:((rT T n).e I e).map .dk=some x)(he:∀env whole,isTrue e env whole=(do let v <-whole;standAt e.pos;holding [v] (truthy v))):C1 X e (tT (X.cc t) Γ x):=by
 let#[y,h1,h2]:=aq.mp h;subst h2;erw[QD (λpZ E=>IH.fe G.at_ h1) he]
theorem U4(IH:FW t T Γ k n)(G:Good t T Γ k I X)(h:cT T (n+1) I e=some x):C1 X e (tT (X.cc t) Γ x):=by
 rw[Y7] at h;cases e with
 |UnaryOp op a pos=>
  cases op with
  |Not=>
   let#[y,h1,h2]:=aq.mp h;subst h2;erw[MJ λpZ E=>IH.ft G.at_ h1]
  |_=>erw[Jc IH G h λ_ _=>rfl]
 |BoolOp op vs pos=>erw[Xi λpZ E=>(IH.Zi G h pZ E).pt]
 |IfExp=>erw[nn h]
 |Compare a ops bs pos=>
  cases ops with
  |nil=>erw[nn h]
  |cons op ops=>cases ops with
   |cons=>erw[nn h]
   |nil=>cases bs with
    |nil=>erw[nn h]
    |cons b bs=>cases bs with
     |cons=>erw[nn h]
     |nil=>
      let#[o,h1,hb]:=ay.mp h;let#[a,h2,hc]:=ay.mp hb;let#[b,h3,h4]:=ay.mp hc;injection h4 with h4;subst h4
      erw[Mw G h1 (Bf h3) (λpZ E=>IH.fe G.at_ h2) (λpZ E=>IH.fe G.at_ h3)]
 |_=>erw[Jc IH G h λ_ _=>rfl]
end
open PL (U SO bF Xn KU KX cf)
section
variable{t:xX}{T:Tab}{Γ:cf}{k n:Nat}{I:Inf}{X:Cx}
theorem zt:∀{n:Nat},(rT T n).es I []=some y->y=.nil
 |0,h=>by cases h
 |_+1,h=>(aL h).symm
theorem jS{x y:Str}(h:(x !=y)=true):(x==y)=false:=by simpa using h
theorem Bg(IH:FW t T Γ k n)(G:Good t T Γ k I X){tg iter:Expr}{xs:List Str}{it:PL.It}(ht:Ma tg=some xs)(h:(∃y,xs=[y])/\cI T n I iter=some it\/(¬ ∃y,xs=[y])/\cN T n I iter=some it):
  (∀env v,foldedSetIterable iter env v=pure v)/\∀pZ E,PI (X.at_ pZ E) tg iter (λσ H R=>zr (X.cc t) Γ it (E σ) σ H R):=by
 rcases CZ ht with⟨x,p,rfl,rfl⟩|⟨x,y,p,p',kd,q,rfl,rfl⟩<;>rcases h with⟨z,h1⟩|⟨z,h1⟩
 .exact#[El h1,IH.fi G h1]
 .erw[absurd #[_,rfl] z]
 .let#[y,e]:=z;simp at e
 .exact#[N6 h1,IH.fn G h1]
theorem Em(IH:FW t T Γ k n)(G':Good t T Γ k J X')(ec:X'.cc t=X.cc t)(hx:∀e s,X'.xe e s↔False)(h:Y8 T n J ifs=some c):LM X' ifs (λσ H Q=>tT (X.cc t) Γ c (λ_ _ _=>False) σ H Q):=by
 unfold Y8 at h;split at h
 .injection h with h;subst h
  intro pZ s σ H Q J z;refine LN (X:=X') pZ s σ H Q J ?_;let#[env,ρ,S,QU,EU,he,R,w,q,qx]:=z;have w2:QU true S:=by
   have:PL.opt (PL.vz S (.bl true)) (λb=>QU b S):=w;erw[this]
  erw[q true S H ρ w2 .refl R]
 .have:=(IH.ft G' h).no hx
  rw[ec] at this;erw[LO this]
 .erw[nn h]
theorem MK(h:(match args with|[a]=>PX a|_=>none)=some o):∃ap cp,(ap.endLine==cp.line)=true/\args=[.Call (.Attribute o ("values":Str) ap) [] [] cp]:=by
 split at h
 .rename_i a
  unfold PX at h;split at h
  .split at h
   .rename_i o' m ap cp hc
    rw[aj] at hc;have e:=eq_of_beq hc.1;subst e;injection h with h;subst h
    exact#[ap,cp,hc.2,rfl]
   .erw[nn h]
  .erw[nn h]
 .erw[nn h]
theorem U5(IH:FW t T Γ k n)(G:Good t T Γ k I X){e:Expr}{x:PL.Ex}(h:cE T (n+1) I e=some x):dZ X e (tE (X.cc t) Γ x):=by
 have ge:∀{e:Expr}{y:PL.Ex},cE T n I e=some y->∀pZ E,dZ (X.at_ pZ E) e (tE (X.cc t) Γ y):=λh pZ E=>IH.fe G.at_ h
 have gA:∀{es:List Expr}{y:PL.yZ},SD T n I es=some y->∀pZ E,C2 (X.at_ pZ E) es (GV (X.cc t) Γ y):=λh pZ E=>IH.UP G.at_ h
 have h0:=h;rw[Mb] at h;cases e with(delta SA at h;try dsimp only at h)
 |Name x' pos=>
  split at h
  .rename_i i hi
   split at h
   .rename_i hc
    dsimp[aj] at hc;injection h with h;subst h
    erw[Mv G hi hc.1.1 (jS hc.1.2) (jS hc.2)]
   .erw[nn h]
  .split at h
   .rename_i hc
    rw[aj] at hc;let#[p,h1,h2]:=aq.mp h;subst h2;erw[IU G hc.1 h1 (jS hc.2)]
   .erw[nn h]
 |Constant c kd pos=>
  let#[u,h1,h2]:=aq.mp h;subst h2;cases c with
  |none=>cases h1;erw[rZ (v:=.bQ) (λpZ E=>OD) λ_ _=>fc.mpr rfl]
  |bool b=>cases h1;erw[rZ (v:=.bl _) (λpZ E=>SX) λ_ _=>fA.mpr rfl]
  |int i=>cases h1;erw[rZ (v:=.int _) (λpZ E=>OC) λ_ _=>aR.mpr rfl]
  |str x=>cases h1;erw[rZ (v:=.str _) (λpZ E=>OE) λ_ _=>bA.mpr (by rw[<-Um])]
  |_=>erw[nn h1]
 |BinOp a op b pos=>
  dsimp[aP,ay] at h;let#[o,h1,a,h2,b,h3,h4]:=h;injection h4 with h4;subst h4
  erw[Qj G h1 (ge h2) (ge h3)]
 |UnaryOp op a pos=>
  cases op with
  |Not=>let#[y,h1,h2]:=aq.mp h;subst h2;erw[Qn (ge h1)]
  |USub=>let#[y,h1,h2]:=aq.mp h;subst h2;erw[Qm (ge h1)]
  |_=>erw[nn h]
 |BoolOp op vs pos=>erw[IH.Zh G h]
 |Compare a ops bs pos=>
  split at h
  .split at h
   .dsimp[aP,ay] at h
    let#[o,h1,a,h2,b,h3,h4]:=h;injection h4 with h4;subst h4
    erw[Qk G h1 (Bf h3) (ge h2) (ge h3)]
   .erw[nn h]
  .erw[nn h]
 |IfExp c a b pos=>
  dsimp[aP,ay] at h;let#[o,h1,a,h2,b,h3,h4]:=h;injection h4 with h4;subst h4
  erw[UT (λpZ E=>IH.ft G.at_ h1) (ge h2) (ge h3)]
 |Call fn args kws cp=>
  cases fn with
  |Name f p=>
   cases kws with
   |nil=>
    dsimp only at h;split at h
    .rename_i hc
     rw[aj] at hc;let#[hg,hd]:=hc;split at h
     .rename_i b hb
      split at h
      .rename_i o' ho'
       split at h
       .rename_i hc
        dsimp[aj] at hc;let#[#[#[hf,hm],hcm],h0']:=hc;have hf:=eq_of_beq hf;subst hf;let#[y,h1,h2]:=aq.mp h;subst h2;let#[ap,c2,hl,rfl]:=MK ho';exact MA G hg (by simpa using hm) (G.calm hcm).1 h0' hl (ge h1)
       .erw[nn h]
      .split at h
       .rename_i hs
        dsimp[aj,xj] at hs;let#[#[#[s,hp],hs],hcm]:=hs;let#[y,h1,h2]:=aq.mp h;subst h2;cases args with
        |nil=>simp at hs
        |cons a as=>
         have st:=nY h1;rw[bK,aj] at st;erw[Qs G hg hb hp (G.calm hcm).1 (G.calm hcm).2.hd st.1 st.2 (gA h1)]
       .erw[nn h]
     .split at h
      .erw[nn h]
      .rename_i hcm
       have hcm:I.calm=true:=by simpa using hcm
       split at h
       .rename_i q hq
        let#[hm,rfl]:=m7 hq;let#[y,h1,h2]:=aq.mp h;subst h2;cases args with
        |nil=>
         cases zt h1;erw[IY G hg hcm hm (jS hd)]
        |cons a as=>
         have st:=nY h1;rw[bK,aj] at st;erw[MB G hg hcm hm (jS hd) st.1 st.2 (IH.UP G h1)]
       .split at h
        .rename_i q hq
         let#[hm,rfl]:=m7 hq;let#[y,h1,h2]:=aq.mp h;subst h2;cases args with
         |nil=>
          cases zt h1;erw[Qw G hg hcm hm (jS hd)]
         |cons a as=>
          have st:=nY h1;rw[bK,aj] at st;erw[UZ G hg hcm hm (jS hd) st.1 st.2 (IH.UP G h1)]
        .erw[nn h]
    .erw[nn h]
   |cons kw ks=>
    dsimp only at h;split at h
    .split at h
     .rename_i hc
      dsimp[aj] at hc;let#[#[#[#[#[#[#[q0,q1],q2],q4],q6],q7],q8],q9]:=hc;have q1:=eq_of_beq q1;subst q1;have q0:ks=[]:=by simpa using q0
      subst q0;let#[y,h1,h2]:=aq.mp h;subst h2;let#[ka,kv,kp]:=kw;unfold Il at q2;rw[aj] at q2;have e1:=eq_of_beq q2.1;subst e1;have q3:=q2.2;cases kv with
      |Name l lp=>
       have q3:(l==("len":Str)&&I.gl l)=true:=q3;rw[aj] at q3;have e2:=eq_of_beq q3.1;subst e2;exact FX G q4 q3.2 (by simpa using q6) (by simpa using q7) (G.calm q8).1 q9 (ge h1)
      |_=>cases q3
     .erw[nn h]
    .erw[nn h]
  |Attribute o m ap=>
   dsimp only at h;split at h
   .erw[nn h]
   .rename_i hc
    dsimp[gQ,He,aj] at hc;let#[#[#[#[hk,hc0],hl],hn],hcm]:=hc;have hk:kws=[]:=by simpa using hk
    subst hk;have hn:=of_decide_eq_true hn;split at h
    .rename_i q kk hq
     let#[hm,hq2]:=xY hq;dsimp only at hq2;subst hq2;dsimp[aP,ay] at h;let#[y,h1,as,h2,h3]:=h;injection h3 with h3;subst h3
     cases args with
     |nil=>
      cases zt h2;erw[IZ G hcm hm hc0 hl (IH.fe G h1)]
     |cons a as'=>
      have st:=nY h2;rw[bK,aj] at st;erw[MC G hcm hm hc0 hl hn st.1 st.2 (IH.fe G h1) (IH.UP G h2)]
    .split at h
     .split at h
      .rename_i em
       let#[y,h1,h2]:=aq.mp h;subst h2;have em:=eq_of_beq em;subst em;erw[Mx G hc0 hl (ge h1)]
      .erw[nn h]
     .rename_i a as
      split at h
      .rename_i em
       have em:=eq_of_beq em;subst em;split at h
       .rename_i d
        split at h
        .rename_i st
         rw[aj] at st;dsimp[aP,ay] at h;let#[y,h1,z,h2,w,h3,h4]:=h;injection h4 with h4;subst h4
         erw[Qu G hc0 hl st.1 st.2 (ge h1) (ge h2) (ge h3)]
        .erw[nn h]
       .split at h
        .rename_i st
         dsimp[aP,ay] at h;let#[y,h1,z,h2,h4]:=h;injection h4 with h4;subst h4
         erw[My G hc0 hl st (ge h1) (ge h2)]
        .erw[nn h]
       .erw[nn h]
      .split at h
       .rename_i b hb
        dsimp[aP,ay] at h;let#[y,h1,as',h2,h3]:=h;injection h3 with h3;subst h3
        have st:=nY h2;rw[bK,aj] at st;erw[Qt G hb (G.calm hcm).2.hd hc0 hl hn st.1 st.2 (ge h1) (gA h2)]
       .erw[nn h]
  |_=>erw[nn h]
 |Attribute o f pos=>
  split at h
  .erw[nn h]
  .rename_i hc0
   dsimp[aP,ay] at h;let#[q,h1,y,h2,h3]:=h;injection h3 with h3;subst h3
   let#[hm,rfl]:=m7 h1;exact Qr G hm (by simpa using hc0) (ge h2)
 |Subscript o i pos=>
  split at h
  .rename_i hs
   dsimp[aP,ay] at h;let#[y,h1,a,h2,h3]:=h;injection h3 with h3;subst h3
   split
   .erw[Qv G hs (ge h1) (ge h2)]
   .erw[UU hs (ge h1) (ge h2)]
  .split at h
   .split at h
    .dsimp[aP,ay] at h
     let#[y,h1,a,h2,b,h3,h4]:=h;injection h4 with h4;subst h4
     erw[UX (ge h1) (IH.fo G h2) (IH.fo G h3)]
    .erw[nn h]
   .erw[nn h]
 |Dict ks vs pos=>
  split at h
  .split at h
   .injection h with h;subst h;erw[Mz]
   .erw[nn h]
  .split at h
   .dsimp[aP,ay] at h
    let#[y,h1,z,h2,h4]:=h;injection h4 with h4;subst h4
    erw[MI (ge h1) (ge h2)]
   .erw[nn h]
  .erw[nn h]
 |List es pos=>
  let#[y,h1,h2]:=aq.mp h;subst h2;erw[Qq (gA h1)]
 |Tuple es kd pos=>
  let#[y,h1,h2]:=aq.mp h;subst h2;erw[Qp (gA h1)]
 |ListComp elt gs sc pos=>
  let#[tg,iter,ifs,xs,it,c,ee,ci,rfl,ht,hc,h1,h2,h3,h4,h5]:=vG h0;subst h5;have hi:=Bg IH G ht h1;rwa[MH G hc.2 ht hc.1 h4 hi.1 hi.2 (λX' G' ec hx=>?_) (λX' G' ec=>?_)]
  .erw[Em IH G' ec hx h2]
  .have:=IH.fe G' h3
   rw[ec] at this;erw[this]
 |_=>erw[nn h]
theorem Jd:FW t T Γ k 0:=by
 constructor
 .intro I X e x _ h;rw[UJ] at h;erw[nn h]
 .intro I X e x _ h;rw[N4] at h;erw[nn h]
 .intro I X op vs x pos _ h;rw[UK] at h;erw[nn h]
 .intro I X e x _ h;rw[Y1] at h;erw[nn h]
 .intro I X e x tg _ h;rw[Y2] at h;erw[nn h]
 .intro I X e x es ek tp _ h;rw[Y4] at h;erw[nn h]
 .intro I X e x _ h;rw[Y6] at h;erw[nn h]
 .intro I X op vs x pos _ h;rw[UM] at h;erw[nn h]
theorem zu:∀n,FW t T Γ k n
 |0=>Jd
 |n+1=>
  have IH:=zu n
  #[λG h=>U5 IH G h,λG h=>Ql IH G h,λG h=>Qo IH G h,λG h=>UW IH G h,λG h=>U0 IH G h,λG h=>Zm IH G h,λG h=>U4 IH G h,λG h=>QE IH G h]
end
open PL (U SO bF Xn KU KX cf)
structure QF(X:Cx):Prop where
 Hl:X.stack=X.env::X.outer
 frm:X.env.frame=some X.env.locals
def XN(X:Cx)(pZ:List (Addr×Obj))(E:St->XK)(e:Value)(s:az):Prop:=
 ∃(σ:St)(a T:Addr)(cl:Value)(dx:Option Addr)(H:Hp),e=.ref a/\Inv X pZ σ H s/\GN s.heap a cl dx (some (T,jM X.env.locals))/\DW X pZ H a/\DW X pZ H T/\E σ cl dx H
def XL(X:Cx)(pZ:List (Addr×Obj))(E:St->XK)(e:Value)(s:az):Prop:=
 wpAny (bb X.prog X.w) X.A (GH e X.env) (λ_ s'=>XN X pZ E e s') (λ_ _=>False) s
noncomputable abbrev Cx.al(X:Cx)(pZ:List (Addr×Obj))(E:St->XK):Cx:={X with pn:=X.pn++pZ,xe:=XL X pZ E}
section
variable{X:Cx}{pZ pins':List (Addr×Obj)}{E:St->XK}{σ:St}{H:Hp}{s:az}
theorem Cx.Ok.al(ok:X.Ok):(X.al pZ E).Ok:=
 #[ok.mod,ok.kind,ok.glob,ok.blt,ok.above,ok.inj,ok.has,ok.Oz,ok.hd,ok.frames,ok.Hl,ok.WU,ok.bs,ok.Hm,ok.Ck,ok.Ff,ok.rj,ok.K9]
theorem Cx.Ok.sZ(ok:(X.al pZ E).Ok):X.Ok:=
 #[ok.mod,ok.kind,ok.glob,ok.blt,ok.above,ok.inj,ok.has,ok.Oz,ok.hd,ok.frames,ok.Hl,ok.WU,ok.bs,ok.Hm,ok.Ck,ok.Ff,ok.rj,ok.K9]
theorem Inv.al(I:Inv X pZ σ H s):Inv (X.al pZ E) [] σ H s:=
 #[I.ok.al,I.os,I.bare,I.base,I.loc,I.cell,I.free,I.om,λp hp=>I.pin p (by simpa using hp),I.dm,I.len]
theorem Inv.sZ(I:Inv (X.al pZ E) pins' σ H s):Inv X pZ σ H s:=
 #[I.ok.sZ,I.os,I.bare,I.base,I.loc,I.cell,I.free,I.om,λp hp=>I.pin p (aG.mpr (.inl hp)),I.dm,I.len]
theorem DW.sZ(h:DW (X.al pZ E) pins' H b):DW X pZ H b:=
 #[h.1,h.2.1,h.2.2.1,h.2.2.2.1,λp hp=>h.2.2.2.2 p (aG.mpr (.inl hp))]
theorem QF.al(f:QF X):QF (X.al pZ E):=#[f.Hl,f.frm]
theorem XE.toXL(f:QF X)(h:XE X pZ σ (E σ) e s):XL X pZ E e s:=by
 let#[a,tb,cl,dx,H',rfl,I,xa,fr,q]:=h;have fr1:X.A.frames=some (X.env::X.outer):=by rw[I.ok.frames,f.Hl]
 have fs1:s.heap.FunFrames X.base (X.env::X.outer):=by have:=I.stack;rw[f.Hl] at this;erw[this]
 rwa[NR (base:=X.base) (outer:=X.outer) (L:=X.env.locals) fr1 fs1 f.frm xa λh2 T2 k2 n2 x2=>?_]
 exact#[σ,a,T2,cl,dx,H',rfl,I.yT (by rw[f.Hl];erw[k2]) fr,x2,fr a aT,I.Pr n2,q]
theorem XE.sZ(f:QF X)(h:XE (X.al pZ E) pins' σ (E σ) e s):XL X pZ E e s:=by
 let#[a,tb,cl,dx,H',e1,I,x,fr,q]:=h;erw[XE.toXL f #[a,tb,cl,dx,H',e1,I.sZ,x,λb hb=>(fr b hb).sZ,q]]
theorem ML:Gz (bb (X.al pZ E).prog (X.al pZ E).w) (X.al pZ E).A (X.al pZ E).env (X.al pZ E).xe:=PassesOwn.looking
end
theorem SP.sZ(q:SP (X.al pZ E) pins' D f s):SP X pZ D f s:=by
 cases f with
 |next=>let#[σ',H',I',q]:=q;exact#[σ',H',I'.sZ,q]
 |brk=>let#[σ',H',I',q]:=q;exact#[σ',H',I'.sZ,q]
 |cont=>let#[σ',H',I',q]:=q;exact#[σ',H',I'.sZ,q]
 |ret u=>let#[v,σ',H',I',r,q]:=q;exact#[v,σ',H',I'.sZ,r,q]
structure Tk(X:Cx)(E:St->XK):Prop where
 tk:∀(pZ:List (Addr×Obj))(σ:St)(s:az)(e:Value),XE X pZ σ (E σ) e s->X.xe e s
 ps:Gz (bb X.prog X.w) X.A X.env X.xe
theorem U6(f:QF X):Tk (X.al pZ E) E:=#[λ_ _ _ _ h=>h.sZ f,ML]
section
variable{X:Cx}{e:Expr}{E:St->XK}
theorem C9(k:Tk X E)(h:dZ X e t):PE X e (λσ H Q=>t (E σ) σ H Q):=by
 intro pins' s σ H Q I z;erw[bY (h pins' s σ H Q (E σ) I z) (λu s' q=>q) λu s' q=>k.tk _ _ _ _ q]
theorem U7(k:Tk X E)(h:C1 X e t):PT X e (λσ H Q=>t (E σ) σ H Q):=by
 intro pins' s σ H Q I z;erw[bY (h pins' s σ H Q (E σ) I z) (λu s' q=>q) λu s' q=>k.tk _ _ _ _ q]
theorem PS.imp{st:Stmt}{t t':TS}(h:PS X st t)(q:∀D σ H,t' D σ H->t D σ H):PS X st t':=λpZ s σ H D I z=>h pZ s σ H D I (q D σ H z)
theorem wH.imp{st:List Stmt}{t t':TS}(h:wH X st t)(q:∀D σ H,t' D σ H->t D σ H):wH X st t':=λpZ s σ H D I z=>h pZ s σ H D I (q D σ H z)
end
theorem Good.al(G:Good t T Γ k I X):Good t T Γ k I (X.al pZ E):=
 #[G.tab,G.Mu,G.kind,G.names,G.slots,G.nd,G.calm,G.units]
structure DR(c:Ctx)(ρ:List Addr)(H:Hp)(DU:PL.Ends)(D:Ends)(E:St->XK):Prop where
 nx:∀env' S' σ' H' ρ',DU.nx env' S'->iu ρ H ρ' H'->cz c ρ' H' S'->jR c ρ' H' env' σ'->D.nx σ' H'
 rt:QV c ρ H DU.rt D.rt
 ex:∀env' σ' x S' H' ρ' C d,DU.ex env' x S'->iu ρ H ρ' H'->cz c ρ' H' S'->jR c ρ' H' env' σ'->ExcAt c ρ' H' x C d->E σ' (.ref C) (some d) H'
def tS(c:Ctx)(Γ:cf)(x:PL.Sm):(St->XK)->TS:=λE D σ H=>∃env ρ S DU,jR c ρ H env σ/\cz c ρ H S/\PL.WS Γ x DU env S/\DR c ρ H DU D E
def KL(c:Ctx)(Γ:cf)(x:PL.dj):(St->XK)->TS:=λE D σ H=>∃env ρ S DU,jR c ρ H env σ/\cz c ρ H S/\PL.ui Γ x DU env S/\DR c ρ H DU D E
section
variable{c:Ctx}{ρ ρ':List Addr}{H H':Hp}{S:bF}{DU:PL.Ends}{D:Ends}{E:St->XK}
theorem DR.later(q:DR c ρ H DU D E)(a:iu ρ H ρ' H'):DR c ρ' H' DU D E:=
 #[λenv' S' σ' H2 ρ2 h b R e=>q.nx env' S' σ' H2 ρ2 h (a.trans b) R e,q.rt.later a,λenv' σ' x S' H2 ρ2 C d h b R e z=>q.ex env' σ' x S' H2 ρ2 C d h (a.trans b) R e z]
theorem DR.qx(q:DR c ρ H DU D E)(R:cz c ρ H S)(he:jR c ρ H env σ):QX c ρ H (DU.ex env) (E σ):=
 λx S' H2 ρ2 C d h b R2 z=>q.ex env σ x S' H2 ρ2 C d h b R2 (he.later R b) z
theorem jR.set(he:jR c ρ H env σ)(r:Rep c ρ H u v)(i:Nat):jR c ρ H (env.set i (some u)) (σ.set i (some v)):=by
 refine#[by simp[he.len],λj w e=>?_];by_cases z:j=i
 .subst z
  have hj:j<env.length:=by
   have:=(ab.mp e).1;simpa using this
  rw[bG hj] at e;injection e with e;injection e with e;subst e
  exact#[v,by rw[bG (by rw[<-he.len];erw[hj])],r]
 .rw[ai (cC z)] at e ⊢
  erw[he.at_ j w e]
end
open PL (U SO bF Xn KU KX cf)
structure iP(t:xX)(T:Tab)(Γ:cf)(k:Nat)(I:Inf)(X:Cx):Prop where
 g:Good t T Γ k I X
 fr:QF X
 st:∀x,X.fn x=true
section
variable{t:xX}{T:Tab}{Γ:cf}{k n:Nat}{I:Inf}{X:Cx}
theorem iP.al{pZ:List (Addr×Obj)}{E:St->XK}(G:iP t T Γ k I X):iP t T Γ k I (X.al pZ E):=#[G.g.al,G.fr.al,G.st]
variable{E:St->XK}
theorem tf(h:um (names.lookup x)=true)(e:sc.names=names):Loc sc x:=by
 rw[<-e] at h;unfold Loc;cases q:sc.names.lookup x with
 |none=>rw[q] at h;cases h
 |some kd=>rw[q] at h;cases kd<;>simp[um] at h<;>simp
theorem Dc(z:tS (X.cc t) Γ (.set i x) E D σ H):tE (X.cc t) Γ x (E σ) σ H λv H1=>D.nx (σ.set i (some v)) H1:=by
 let#[env,ρ,S,DU,he,R,w,q]:=z;refine#[env,ρ,S,_,_,he,R,w,λu S1 v H1 ρ1 w1 st1 R1 r1=>?_,q.qx R he];erw[q.nx _ _ _ _ _ w1 st1 R1 ((he.later R st1).set r1 i)]
theorem QG(G:iP t T Γ k I X)(K:Tk X E)(h:eG x I.N=some i)(hl:um (I.names.lookup x)=true)(hs:∀env,iA e (some (.Name x p)) pos.line env=pure false)
  (hy:dZ X e (tE (X.cc t) Γ y)):PS X (.Assign [.Name x p] e pos) (λD σ H=>tS (X.cc t) Γ (.set i y) E D σ H):=by
 refine(Hr (X:=X) (i:=i) G.g.nd (by show X.N[i]?=some x;rw[G.g.slots];erw[fB h]) (tf hl G.g.names) (C9 K hy) (hs _) (.inl (G.st x))).imp ?_;intro D σ H z;erw[Dc z]
theorem MM(G:iP t T Γ k I X)(K:Tk X E)(hf:f∈T.zh)(hx:dZ X o (tE (X.cc t) Γ x))(hy:dZ X e (tE (X.cc t) Γ y)):PS X (.Assign [.Attribute o (nm f) p] e pos) (λD σ H=>tS (X.cc t) Γ (.kA x f y) E D σ H):=by
 have hs:∀env,iA e (some (.Attribute o (nm f) p)) pos.line env=pure false:=λenv=>by cases e<;>rfl
 refine(O7 (X:=X) (C9 K hx) (C9 K hy) (hs _)).imp ?_;rintro D σ H ⟨env,ρ,S,DU,he,R,w,q⟩;refine#[env,ρ,S,_,_,he,R,w,λu S1 v H1 ρ1 w1 st1 R1 r1=>?_,q.qx R he];refine#[env,ρ1,S1,_,_,he.later R st1,R1,w1,λu2 S2 v2 H2 ρ2 w2 st2 R2 r2=>?_,(q.qx R he).later st1];let#[l,e1,w3]:=PL.jt.mp w2;subst e1;let#[c',fs,e2,hlen,w4]:=PL.mV.mp w3;let#[a,C,dx,vs,ev,ha,hC,hH,hn,hr]:=R2.ins e2 r2;let#[cl,na]:=G.g.tab.cls c' C hC;have hlv:vs.length=fs.length:=by have:=congrArg cA hn;simpa using this
 refine#[a,C,dx,vs,ev,hH,cl,na f hf,∅,?_];have st3:=iu.put (H:=H2) (ah ha) hH rfl (.ins C dx (kG (nm f) v vs));have uI:∀{fs:List (String×U)}{vs:List (Str×V)},vs.map (·.1)=(fs.map (·.1)).map nm->aX (X.cc t) ρ2 H2 (fs.map (·.2)) (vs.map (·.2)) ->
   (kG (nm f) v vs).map (·.1)=((PL.fS f u fs).map (·.1)).map nm/\aX (X.cc t) ρ2 H2 ((PL.fS f u fs).map (·.2)) ((kG (nm f) v vs).map (·.2)):=by
  intro fs;induction fs with
  |nil=>
   intro vs hn hr;cases vs with
   |nil=>exact#[rfl,aX.cons (r1.mono R1 st2) aX.nil]
   |cons a b=>simp at hn
  |cons p fs ih=>
   intro vs hn hr;let#[g,w']:=p;cases vs with
   |nil=>simp at hn
   |cons b vs=>
    let#[b1,b2]:=b;dsimp[au,dJ] at hn;rw[au,au] at hr;unfold aX at hr;let#[v',r',e',k1,k2]:=hr;injection e' with e1' e2'
    subst e1';subst e2';unfold kG PL.fS;by_cases z:g=f
    .have z2:b1=nm f:=by rw[hn.1,z]
     rw[if_pos z2,if_pos z]
     exact#[by simp[hn.1,hn.2],aX.cons (r1.mono R1 st2) k2]
    .have z2:¬b1=nm f:=λq=>z (vL _ _ (hn.1.symm.trans q))
     rw[if_neg z2,if_neg z]
     let#[m1,m2]:=ih hn.2 k2;exact#[by dsimp[au,dJ];exact#[hn.1,m1],aX.cons k1 m2]
 let#[m1,m2]:=uI hn hr;rwa[q.nx _ _ _ _ _ w4 ((st1.trans st2).trans st3) (R2.put ha hH rfl #[C,dx,_,hC,cg,m1,m2.mono R2 st3]) ((he.later R (st1.trans st2)).later R2 st3)]
theorem MN(G:iP t T Γ k I X)(K:Tk X E)(hx:dZ X o (tE (X.cc t) Γ x))(hi:dZ X i (tE (X.cc t) Γ z))(hy:dZ X e (tE (X.cc t) Γ y)):PS X (.Assign [.Subscript o i p] e pos) (λD σ H=>tS (X.cc t) Γ (.nJ x z y) E D σ H):=by
 have hs:∀env,iA e (some (.Subscript o i p)) pos.line env=pure false:=λenv=>by cases e<;>rfl
 refine(LG (X:=X) (by have:=G.g.units;omega) (C9 K hx) (C9 K hi) (C9 K hy) (hs _)).imp ?_;rintro D σ H ⟨env,ρ,S,DU,he,R,w,q⟩;refine#[env,ρ,S,_,_,he,R,w,λu S1 v H1 ρ1 w1 st1 R1 r1=>?_,q.qx R he];refine#[env,ρ1,S1,_,_,he.later R st1,R1,w1,λu2 S2 v2 H2 ρ2 w2 st2 R2 r2=>?_,(q.qx R he).later st1];refine#[env,ρ2,S2,_,_,(he.later R st1).later R1 st2,R2,w2,λu3 S3 v3 H3 ρ3 w3 st3 R3 r3=>?_,(q.qx R he).later (st1.trans st2)];let#[n,e1,w3]:=PL.jt.mp w3;subst e1;let#[kvs,e2,#[hk,hn,hl],w4]:=PL.AX.mp w3;let#[a,ev,ha]:=eL.mp (r2.mono R2 st3);let#[vs,g1,g2,g3,g4]:=R3.at_ n a _ ha e2;have l2:jC vs (vI u3)=none:=by
  rcases rX hk g2 g3 g4 with⟨_,l2⟩|⟨_,_,l1,_⟩
  .erw[l2]
  .rw[hn] at l1;cases l1
 have r1':=r1.mono R1 (st2.trans st3);have st4:=iu.put (H:=H3) (ah ha) g1 rfl (.dK (vs++[(vI u3,v)]));refine#[a,upd H3 a (.dK (vs++[(vI u3,v)])),ev,.inl #[vs,vI u3,g1,kq hk r3,by rw[g2];erw[av hl ⋯],by rw[AJ v l2]],?_];rwa[q.nx _ _ _ _ _ w4 (((st1.trans st2).trans st3).trans st4) (R3.put ha g1 rfl #[_,cg,by simp[g2],?_,?_]) ((he.later R ((st1.trans st2).trans st3)).later R3 st4)]
 .rw[aD,aD]
  exact(g3.mono R3 st4).app (aX.cons (show Rep (X.cc t) ρ3 _ u3 (kV (vI u3)) by rw[<-kq hk r3];erw[r3.mono R3 st4]) aX.nil)
 .rw[aD,aD]
  exact(g4.mono R3 st4).app (aX.cons (r1'.mono R3 st4) aX.nil)
theorem U8(G:iP t T Γ k I X)(K:Tk X E)(hc:zi e=true)(hy:dZ X e (tE (X.cc t) Γ y)):PS X (.Expr e pos) (λD σ H=>tS (X.cc t) Γ (.ex y) E D σ H):=by
 refine(Ld (X:=X) (C9 K hy) (Bd hc)).imp ?_;rintro D σ H ⟨env,ρ,S,DU,he,R,w,q⟩;refine#[env,ρ,S,_,_,he,R,w,λu S1 v H1 ρ1 w1 st1 R1 r1=>?_,q.qx R he];erw[q.nx _ _ _ _ _ w1 st1 R1 (he.later R st1)]
theorem QH(G:iP t T Γ k I X)(K:Tk X E)(hy:dZ X e (tE (X.cc t) Γ y)):PS X (.Return (some e) pos) (λD σ H=>tS (X.cc t) Γ (.ret y) E D σ H):=by
 refine(OL (X:=X) (C9 K hy)).imp ?_;rintro D σ H ⟨env,ρ,S,DU,he,R,w,q⟩;exact#[env,ρ,S,_,_,he,R,w,q.rt,q.qx R he]
theorem QJ(G:iP t T Γ k I X)(K:Tk X E)(hx:C1 X c (tT (X.cc t) Γ x))(hy:wH X a (λD σ H=>KL (X.cc t) Γ y E D σ H))(hz:wH X b (λD σ H=>KL (X.cc t) Γ z E D σ H)):PS X (.If c a b pos) (λD σ H=>tS (X.cc t) Γ (.ifs x y z) E D σ H):=by
 refine(Th (X:=X) (U7 K hx) (hy) (hz)).imp ?_;rintro D σ H ⟨env,ρ,S,DU,he,R,w,q⟩;refine#[env,ρ,S,_,_,he,R,w,λb S1 H1 ρ1 w1 st1 R1=>?_,q.qx R he];cases b with
 |true=>exact#[env,ρ1,S1,DU,he.later R st1,R1,w1,q.later st1]
 |false=>exact#[env,ρ1,S1,DU,he.later R st1,R1,w1,q.later st1]
theorem Dd(hp:C0 op=some p):op=Md p/\(p=.add\/p=.sub\/p=.bor):=by cases op<;>first|exact nn hp| (cases hp;exact#[rfl,by simp])
theorem QK(G:iP t T Γ k I X)(K:Tk X E)(h:eG x I.N=some i)(hl:um (I.names.lookup x)=true)(hp:C0 op=some p)(hy:dZ X e (tE (X.cc t) Γ y)):PS X (.AugAssign (.Name x px) op e pos) (λD σ H=>tS (X.cc t) Γ (.aug i p y) E D σ H):=by
 have eo:=Dd hp;rw[eo.1]
 refine(OO (X:=X) (i:=i) G.g.nd (by show X.N[i]?=some x;rw[G.g.slots];erw[fB h]) (tf hl G.g.names) (C9 K hy) (zo (X:=X) (c:=X.cc t) eo.2) (.inl (G.st x))).imp ?_;rintro D σ H ⟨env,ρ,S,DU,he,R,w,q⟩;let#[u0,e0,w0]:=PL.AW.mp (show PL.za _ _ from w);let#[v0,e1,r0]:=he.at_ i u0 e0;refine#[v0,e1,env,ρ,S,_,_,he,R,w0,λu S1 v H1 ρ1 w1 st1 R1 r1=>?_,q.qx R he];refine#[u0,u,ρ1,S1,_,r0.mono R st1,r1,R1,w1,λu2 S2 v2 H2 ρ2 w2 st2 R2 r2=>?_];erw[q.nx _ _ _ _ _ w2 (st1.trans st2) R2 ((he.later R (st1.trans st2)).set r2 i)]
end
open PL (U SO bF Xn KU KX cf)
section
variable{t:xX}{T:Tab}{Γ:cf}{k n:Nat}{I:Inf}{X:Cx}{E:St->XK}
theorem uI(ru:Rep c ρ H u v):∀{fs:List (String×U)}{vs:List (Str×V)},vs.map (·.1)=(fs.map (·.1)).map nm->aX c ρ H (fs.map (·.2)) (vs.map (·.2)) ->
   (kG (nm f) v vs).map (·.1)=((PL.fS f u fs).map (·.1)).map nm/\aX c ρ H ((PL.fS f u fs).map (·.2)) ((kG (nm f) v vs).map (·.2))
 |[],[],_,_=>#[rfl,aX.cons ru aX.nil]
 |[],_::_,hn,_=>by simp at hn
 |_::_,[],hn,_=>by simp at hn
 | (g,w')::fs,(b1,b2)::vs,hn,hr=>by
  dsimp[au,dJ] at hn;rw[au,au] at hr;unfold aX at hr;let#[v',r',e',k1,k2]:=hr;injection e' with e1' e2'
  subst e1';subst e2';unfold kG PL.fS;by_cases z:g=f
  .have z2:b1=nm f:=by rw[hn.1,z]
   rw[if_pos z2,if_pos z]
   exact#[by simp[hn.1,hn.2],aX.cons ru k2]
  .have z2:¬b1=nm f:=λq=>z (vL _ _ (hn.1.symm.trans q))
   rw[if_neg z2,if_neg z]
   let#[m1,m2]:=uI ru hn.2 k2;exact#[by dsimp[au,dJ];exact#[hn.1,m1],aX.cons k1 m2]
theorem MP(G:iP t T Γ k I X)(K:Tk X E)(hf:f∈T.zh)(hp:C0 op=some p)(hx:dZ X o (tE (X.cc t) Γ x))(hy:dZ X e (tE (X.cc t) Γ y)):PS X (.AugAssign (.Attribute o (nm f) tp) op e pos) (λD σ H=>tS (X.cc t) Γ (.AV x f p y) E D σ H):=by
 have eo:=Dd hp;rw[eo.1]
 refine(Fo (X:=X) (C9 K hx) (C9 K hy) (rd:=FR (X.cc t) p) (zo (X:=X) (c:=X.cc t) eo.2)).imp ?_;rintro D σ H ⟨env,ρ,S,DU,he,R,w,q⟩;refine#[env,ρ,S,_,_,he,R,w,λu S1 v H1 ρ1 w1 st1 R1 r1=>?_,q.qx R he];let#[l,e1,w2]:=PL.jt.mp w1;subst e1;let#[c',fs,e2,w3]:=PL.mV.mp w2;let#[u0,e3,w4]:=PL.jr.mp w3;let#[a,C,dx,vs,ev,ha,hC,hH,hn,hr]:=R1.ins e2 r1;let#[cl,na]:=G.g.tab.cls c' C hC;let#[v0,l0,r0]:=qL hn hr e3 vL;refine#[a,C,dx,vs,v0,ev,hH,cl,na f hf,l0,?_];refine#[env,ρ1,S1,_,_,he.later R st1,R1,w4,λu2 S2 v2 H2 ρ2 w5 st2 R2 r2=>?_,(q.qx R he).later st1];refine#[u0,u2,ρ2,S2,_,r0.mono R1 st2,r2,R2,w5,λu3 S3 v3 H3 ρ3 w6 st3 R3 r3=>?_];let#[c'',fs',e4,#[e5,hlen,w7]]:=PL.mV.mp w6;subst e5;have ha3:=(st2.trans st3).get ha;let#[C',dx',vs',hC',hH',hn',hr']:=R3.at_ l a _ ha3 e4;rw[hC] at hC';injection hC' with hC';subst hC'
 have hlv:vs'.length=fs'.length:=by have:=congrArg cA hn';simpa using this
 refine#[dx',vs',hH',∅,?_];have st4:=iu.put (H:=H3) (ah ha3) hH' rfl (.ins C dx' (kG (nm f) v3 vs'));let#[m1,m2]:=uI r3 hn' hr';rwa[q.nx _ _ _ _ _ w7 (((st1.trans st2).trans st3).trans st4) (R3.put ha3 hH' rfl #[C,dx',_,hC,cg,m1,m2.mono R3 st4]) ((he.later R ((st1.trans st2).trans st3)).later R3 st4)]
def U9(K:Frag):V->V->Hp->VK->Prop:=λo i H Q=>∃p xs k v,o=.ref p/\i=.int k/\H p=some (.lst xs)/\0<=k/\xs[k.toNat]?=some v/\Q v H
theorem FY:Tq X (U9 X.K):=by
 intro pZ s σ H o i ov iv Q I ro ri h;let#[p,xs,k,v,rfl,rfl,hp,h0,hk,q]:=h;cases ro;let#[t,rfl]:=ri;let#[its,r,pl,hz]:=I.list (.inl (.inl hp));let#[w,ew,rw']:=r.get hk;have hn:=oW;have hl:=(ab.mp hk).1;erw[getItem_listL pl.isList h0 ∅ ew #[v,H,I,rw',q]]
theorem Zn(r:aX c ρ H us vs)(ru:Rep c ρ H u v):∀(j:Nat),aX c ρ H (us.set j u) (vs.set j v):=by
 intro j;induction us generalizing vs j with
 |nil=>cases vs with
  |nil=>erw[r]
  |cons a b=>erw[absurd r.len (by simp)]
 |cons x us ih=>cases vs with
  |nil=>erw[absurd r.len (by simp)]
  |cons a b=>
   unfold aX at r;let#[v',r',e',k1,k2]:=r;injection e' with e1 e2
   subst e1;subst e2;cases j with
   |zero=>erw[aX.cons ru k2]
   |succ j=>erw[aX.cons k1 (ih k2 j)]
theorem MQ(G:iP t T Γ k I X)(K:Tk X E)(hn:my i=true)(hp:C0 op=some p)(hx:dZ X o (tE (X.cc t) Γ x))(hi:dZ X i (tE (X.cc t) Γ y))(hy:dZ X e (tE (X.cc t) Γ z)):PS X (.AugAssign (.Subscript o i tp) op e pos) (λD σ H=>tS (X.cc t) Γ (.FA x y p z) E D σ H):=by
 have eo:=Dd hp;rw[eo.1]
 refine(Le (X:=X) (C9 K hx) (C9 K hi) FY (C9 K hy) (tip:=FR (X.cc t) p) (zo (X:=X) (c:=X.cc t) eo.2) set_list (λov iv new=>by cases i<;>first|rfl|simp[my] at hn)).imp ?_;rintro D σ H ⟨env,ρ,S,DU,he,R,w,q⟩;refine#[env,ρ,S,_,_,he,R,w,λu S1 v H1 ρ1 w1 st1 R1 r1=>?_,q.qx R he];refine#[env,ρ1,S1,_,_,he.later R st1,R1,w1,λu2 S2 v2 H2 ρ2 w2 st2 R2 r2=>?_,(q.qx R he).later st1];obtain⟨l,e1,w3⟩:=PL.jt.mp w2;subst e1;obtain⟨j,e2,w4⟩:=PL.gC.mp w3;subst e2;obtain⟨us,e3,h0,w5⟩:=PL.cV.mp w4;obtain⟨u0,e4,w6⟩:=PL.jr.mp w5;obtain⟨a,vs,ev,ha,hH,hr⟩:=R2.lst e3 (r1.mono R1 st2);subst ev;obtain⟨v0,l0,r0⟩:=hr.get e4;refine#[a,vs,j,v0,rfl,aR.mp r2,hH,h0,l0,?_];refine#[env,ρ2,S2,_,_,(he.later R st1).later R1 st2,R2,w6,λu3 S3 v3 H3 ρ3 w7 st3 R3 r3=>?_,(q.qx R he).later (st1.trans st2)];refine#[u0,u3,ρ3,S3,_,r0.mono R2 st3,r3,R3,w7,λu4 S4 v4 H4 ρ4 w8 st4 R4 r4=>?_];obtain⟨us',e5,hj,w9⟩:=PL.cV.mp w8;have ha4:=(st3.trans st4).get ha;obtain⟨vs',hH',hr'⟩:=R4.at_ l a _ ha4 e5;refine#[a,vs',j,j.toNat,rfl,aR.mp r2,hH',?_,?_]
 .unfold Pb
  rw[if_pos h0,if_pos (by have:=hr'.len;omega)]
 have st5:=iu.put (H:=H4) (ah ha4) hH' rfl (.lst (vs'.set j.toNat v4));rwa[q.nx _ _ _ _ _ w9 ((((st1.trans st2).trans st3).trans st4).trans st5) (R4.put ha4 hH' rfl #[_,cg,(Zn hr' r4 j.toNat).mono R4 st5]) ((he.later R (((st1.trans st2).trans st3).trans st4)).later R4 st5)]
theorem QL(K:Tk X E)(hx:C1 X c (tT (X.cc t) Γ x))(hy:wH X b (λD σ H=>KL (X.cc t) Γ y E D σ H)):PS X (.While c b [] pos) (λD σ H=>tS (X.cc t) Γ (.B3 x y) E D σ H):=by
 refine(Hs (X:=X) K.ps (U7 K hx) hy).imp ?_;rintro D σ H ⟨env,ρ,S,DU,he,R,w,q⟩;let#[n0,w0]:=w
 let F:=PL.zc (λen S1 k=>PL.WT Γ x en S1 k (DU.ex en)) (λen S1 k=>PL.ui Γ y {DU with nx:=k} en S1) DU.nx
 refine#[λm σ1 H1=>∃env1 ρ1 S1,iu ρ H ρ1 H1/\cz (X.cc t) ρ1 H1 S1/\jR (X.cc t) ρ1 H1 env1 σ1/\F m env1 S1,#[n0,env,ρ,S,.refl,R,he,w0],?_];rintro m σ1 H1 ⟨env1,ρ1,S1,st1,R1,he1,w1⟩;cases m with
 |zero=>erw[aO w1]
 |succ m=>
  have w1':PL.WT Γ x env1 S1 (λt S1=>if t=true then PL.ui Γ y {DU with nx:=F m} env1 S1 else DU.nx env1 S1) (DU.ex env1):=w1;have q1:=q.later st1;refine#[env1,ρ1,S1,_,_,he1,R1,w1',λb S2 H2 ρ2 w2 st2 R2=>?_,q1.qx R1 he1];cases b with
  |false=>erw[q1.nx _ _ _ _ _ w2 st2 R2 (he1.later R1 st2)]
  |true=>
   refine#[λσ3 H3=>∃env3 ρ3 S3,iu ρ H ρ3 H3/\cz (X.cc t) ρ3 H3 S3/\jR (X.cc t) ρ3 H3 env3 σ3/\F m env3 S3,λσ3 H3 h3=>#[m,dg m,h3],?_];have q2:=q1.later st2;refine#[env1,ρ2,S2,_,he1.later R1 st2,R2,w2,#[λenv' S' σ' H' ρ' h b R' e=>#[env',ρ',S',(st1.trans st2).trans b,R',e,h],q2.rt,q2.ex]]
def Je(Γ:cf)(tt:PL.Tg)(z:PL.dj)(DU:PL.Ends)(u:U)(en:PL.Env)(S:bF)(k:PL.Env->bF->Prop):Prop:=match tt with
 |.name i=>PL.ui Γ z {DU with nx:=k} (en.set i (some u)) S
 |.pair i j=>PL.NW u λx y=>PL.ui Γ z {DU with nx:=k} ((en.set i (some x)).set j (some y)) S
theorem Jf:PL.WS Γ (.jQ tt y z) DU env S=PL.WI Γ y env S (λus g S1=>PL.vA g (Je Γ tt z DU) DU.nx us env S1) (DU.ex env):=by
 cases tt<;>rfl
theorem Jg(G:iP t T Γ k I X)(K:Tk X E)(hc:I.calm=true)(hs:∀env v,foldedSetIterable it env v=pure v)
  (hi:PI X tg it (λσ H R=>zr (X.cc t) Γ y (E σ) σ H R)) (hg:PG X tg g0) (hb:wH X b (λD σ H=>KL (X.cc t) Γ z E D σ H))
  (hr0:∀{ρ H S env σ u v DU D Q k},jR (X.cc t) ρ H env σ->cz (X.cc t) ρ H S->Rep (X.cc t) ρ H u v->Je Γ tt z DU u env S k->DR (X.cc t) ρ H {DU with nx:=k} D E->(∀σ' H',KL (X.cc t) Γ z E D σ' H'->Q σ' H')->g0 v σ H Q):
  PS X (.For tg it b [] pos) (λD σ H=>tS (X.cc t) Γ (.jQ tt y z) E D σ H):=by
 refine(OQ (X:=X) K.ps (G.g.calm hc).1 hi hg hb (hs _)).imp ?_;rintro D σ H ⟨env,ρ,S,DU,he,R,w,q⟩;rw[Jf] at w;refine#[env,ρ,S,_,_,he,R,w,λus g S1 H1 ρ1 J w1 st1 R1 io=>?_,q.qx R he]
 let F:=PL.vA g (Je Γ tt z DU) DU.nx
 refine#[λj m σ2 H2=>m+j=us.length/\∃env2 ρ2 S2,iu ρ1 H1 ρ2 H2/\cz (X.cc t) ρ2 H2 S2/\jR (X.cc t) ρ2 H2 env2 σ2/\F (us.drop j) env2 S2,#[us.length,rfl,env,ρ1,S1,.refl,R1,he.later R st1,w1],?_];rintro j m σ2 H2 ⟨hm,env2,ρ2,S2,st2,R2,he2,wf⟩;have q2:=q.later (st1.trans st2);cases hd:us.drop j with
 |nil=>
  rw[hd] at wf;obtain⟨g2,w2⟩:g S2/\DU.nx env2 S2:=wf;erw[.inl #[(io j ρ2 H2 S2 st2 R2 g2).2 (DJ.mp hd),q2.nx _ _ _ _ _ w2 .refl R2 he2]]
 |cons u rest=>
  rw[hd] at wf;let#[g2,w2]:=wf;have hu:us[j]?=some u:=by
   have:=congrArg (λl=>l[0]?) hd;simpa using this
  have hr:us.drop (j+1)=rest:=by
   have:=congrArg List.tail hd;simpa using this
  have hj:j<us.length:=(ab.mp hu).1;let#[jg,jy]:=(io j ρ2 H2 S2 st2 R2 g2).1 u hu;rwa[.inr #[jg,λσ3 H3=>∃env3 ρ3 S3,iu ρ1 H1 ρ3 H3/\cz (X.cc t) ρ3 H3 S3/\jR (X.cc t) ρ3 H3 env3 σ3/\F rest env3 S3,λσ3 H3 h3=>#[m-1,∅,∅,by rw[hr];erw[h3]],λyv H3 hy=>?_]];let#[st3,R3,ry]:=jy yv H3 hy;have q3:=q2.later st3;rwa[hr0 (DU:=DU) (k:=F rest) (D:=#[_,_,_,_]) (he2.later R2 st3) R3 ry w2 ?_ λσ' H' h=>h]
  exact#[λenv' S' σ' H' ρ' h b R' e=>#[env',ρ',S',(st2.trans st3).trans b,R',e,h],q3.rt,q3.ex]
theorem MR(G:iP t T Γ k I X)(K:Tk X E)(hc:I.calm=true)(h:eG x I.N=some i)(hl:um (I.names.lookup x)=true)(hs:∀env v,foldedSetIterable it env v=pure v)
  (hi:PI X (.Name x px) it (λσ H R=>zr (X.cc t) Γ y (E σ) σ H R)) (hb:wH X b (λD σ H=>KL (X.cc t) Γ z E D σ H)):PS X (.For (.Name x px) it b [] pos) (λD σ H=>tS (X.cc t) Γ (.jQ (.name i) y z) E D σ H):=
 Jg (tt:=.name i) G K hc hs hi (rq (i:=i) G.g.nd (by rw[G.g.slots];exact fB h) (tf hl G.g.names) (.inl (G.st x))) hb
  λhe R ru w q hq=>hq _ _ #[_,_,_,_,he.set ru i,R,w,q]
theorem MS(G:iP t T Γ k I X)(K:Tk X E)(hc:I.calm=true)(h:eG x I.N=some i)(hl:um (I.names.lookup x)=true)(h2:eG x2 I.N=some j)(hl2:um (I.names.lookup x2)=true)(hs:∀env v,foldedSetIterable it env v=pure v)
  (hi:PI X (.Tuple [.Name x px,.Name x2 px2] kk pt) it (λσ H R=>zr (X.cc t) Γ y (E σ) σ H R)) (hb:wH X b (λD σ H=>KL (X.cc t) Γ z E D σ H)):PS X (.For (.Tuple [.Name x px,.Name x2 px2] kk pt) it b [] pos) (λD σ H=>tS (X.cc t) Γ (.jQ (.pair i j) y z) E D σ H):=by
 have p1:PG X (.Name x px) (xD i):=rq (i:=i) G.g.nd (by rw[G.g.slots];erw[fB h]) (tf hl G.g.names) (.inl (G.st x));have p2:PG X (.Name x2 px2) (xD j):=rq (i:=j) G.g.nd (by rw[G.g.slots];erw[fB h2]) (tf hl2 G.g.names) (.inl (G.st x2));rwa[Jg (tt:=.pair i j) G K hc hs hi (Hq (n:=2) (G.g.calm hc).1 (rA p1 (rA p2 DM rfl) rfl) rfl rfl) hb ?_];intro ρ H S env σ u v DU D Q kk he R ru w q hq;let#[a,b',e1,w]:=PL.D1.mp (show PL.NW _ _ from w);subst e1;let#[ad,vs,ev,hs',rs]:=dB.mp ru;subst ev;unfold aX at rs;let#[v1,r1,rfl,k1,k2]:=rs;unfold aX at k2;let#[v2,r2,rfl,k3,k4]:=k2;unfold aX at k4;subst k4;exact#[ad,[v1,v2],rfl,.inl (.inl hs'),rfl,v1,[v2],rfl,v2,[],rfl,rfl,hq _ _ #[_,_,_,_,(he.set k1 i).set k3 j,R,w,q]]
end
open PL (U SO bF Xn KU KX cf)
section
variable{t:xX}{T:Tab}{Γ:cf}{k n:Nat}{I:Inf}{X:Cx}{E:St->XK}
theorem qC.pb(h:qC (X.at_ pZ E) [] H b):qC X pZ H b:=
 #[h.1,h.2.1,h.2.2.1,h.2.2.2.1,h.2.2.2.2.1,λp hp=>h.2.2.2.2.2 p (by simpa using hp)]
theorem Jh(K:Tk X E)(h:∀pZ E,PI (X.at_ pZ E) tg it (λσ H R=>zr (X.cc t) Γ y (E σ) σ H R)):PI X tg it (λσ H R=>zr (X.cc t) Γ y (E σ) σ H R):=by
 intro pZ s σ H R J z;have tk:∀e s,Ui X pZ E e s->X.xe e s:=λe s #[σ',h]=>K.tk _ _ _ _ h
 rwa[bY (h pZ E [] s σ H R J.at_ z) (λv s1 q=>bY q (λitv s2 q2=>?_) tk) tk];let#[ita,fp,tn,Jt,H',e,I',tu,t0,hf,hr]:=q2;exact#[ita,fp,tn,Jt,H',e,I'.pb,tu,t0,λb hb=>(hf b hb).pb,hr]
theorem De{elt iter tg:Expr}{ifs:List Expr}{x:List Str}{y:Str}{i:Nat}{py pos spos:Pos}{sc:jW}{it:PL.It}{tc:PL.Tx}{e:PL.Ex}{ci:List Nat}(G:iP t T Γ k I X)(K:Tk X E)(hc:I.calm=true)(ht:Ma tg=some x)(hb:vF I sc x=true)(hci:(iO I sc).mapM (λy=>eG y I.N)=some ci)
  (hs:∀env v,foldedSetIterable iter env v=pure v) (hi:∀pZ E,PI (X.at_ pZ E) tg iter (λσ H R=>zr (X.cc t) Γ it (E σ) σ H R))
  (hif:∀(X':Cx),Good t T Γ k #[rS I sc.names,x++iO I sc,true] X'->X'.cc t=X.cc t->(∀e s,X'.xe e s↔False)->LM X' ifs (λσ H Q=>tT (X.cc t) Γ tc (λ_ _ _=>False) σ H Q))
  (he:∀(X':Cx),Good t T Γ k #[rS I sc.names,x++iO I sc,true] X'->X'.cc t=X.cc t->dZ X' elt (tE (X.cc t) Γ e))
  (hy:eG y I.N=some i) (hk:I.names.lookup y=some .local) (hsw:iA (.ListComp elt [#[tg,iter,ifs,0]] sc pos) (some (.Name y py)) spos.line X.env=pure true):
  PS X (.Assign [.Name y py] (.ListComp elt [#[tg,iter,ifs,0]] sc pos) spos) (λD σ H=>tS (X.cc t) Γ (.set i (.comp (x.length==2) e it tc ci)) E D σ H):=by
 have hn:(iO I sc).Nodup:=by
  unfold iO;have:=G.g.nd;rw[G.g.slots] at this;erw[this.filter _]
 have cp:=Ek G.g hci;refine(CI (X:=X) (i:=i) (wi:=λσ H R=>zr (X.cc t) Γ it (E σ) σ H R) (tc:=λσ H Q=>tT (X.cc t) Γ tc (λ_ _ _=>False) σ H Q) (te:=λσ H Q=>tE (X.cc t) Γ e (λ_ _ _=>False) σ H Q)
  (vM G.g hb) cp hn (G.g.calm hc).1 (Jb ht (vM G.g hb) cp hn (G.g.calm hc).1) (Jh K hi) (λC s₀ H₀ ex=>hif _ (r6 G.g hc hb cp hn) rfl λ_ _=>kN) (λC s₀ H₀ ex=>(he _ (r6 G.g hc hb cp hn) rfl).no λ_ _=>kN) G.g.nd (by rw[G.g.slots];erw[fB hy]) (by rw[G.g.names];erw[hk]) hsw (hs _)).imp ?_
 intro D σ H z;erw[yc (Dc z)]
theorem QM{h:ExceptHandler}{hs:List ExceptHandler}{b:List Stmt}{pos:Pos}{xb:PL.dj}(hb:∀pZ E',wH (X.al pZ E') b (λD σ H=>KL (X.cc t) Γ xb E' D σ H)):
  PS X (.Try b (h::hs) [] [] pos) (λD σ H=>tS (X.cc t) Γ (.Sx xb) E D σ H):=by
 rintro pZ s σ H D I ⟨env,ρ,S,DU,he,R,w,qq⟩;rwa[wpAny_Try_except (bY (hb pZ (λ_ _ _ _=>False) [] s σ H D I.al #[env,ρ,S,_,he,R,w,#[qq.nx,qq.rt,λ_ _ _ _ _ _ _ _ z=>aO z]]) (λf s1 q=>?_) λex s1 q=>?_)]
 .have q:=q.sZ
  cases f with
  |next=>erw[qQ q]
  |ret v=>erw[q]
  |brk=>erw[q]
  |cont=>erw[q]
 .rwa[bY q (λ_ s2 q2=>?_) λ_ _ z=>aO z]
  let#[_,_,_,_,_,_,_,_,_,_,_,k]:=q2;erw[k.elim]
end
open PL (U SO bF Xn KU KX cf)
structure MT(t:xX)(T:Tab)(Γ:cf)(k n:Nat):Prop where
 fs:∀{I X st x E},iP t T Γ k I X->Tk X E->cS T n I st=some x->PS X st (λD σ H=>tS (X.cc t) Γ x E D σ H)
 N7:∀{I X st x E},iP t T Γ k I X->Tk X E->KJ T n I st=some x->wH X st (λD σ H=>KL (X.cc t) Γ x E D σ H)
section
variable{t:xX}{T:Tab}{Γ:cf}{k n:Nat}{I:Inf}{X:Cx}{E:St->XK}
theorem QN(IH:MT t T Γ k n)(G:iP t T Γ k I X)(K:Tk X E):∀{st:List Stmt}{x:PL.dj},KJ T (n+1) I st=some x->wH X st (λD σ H=>KL (X.cc t) Γ x E D σ H)
 |[],x,h=>by
  rw[N5,Mc] at h;injection h with h;subst h
  refine(Lc (X:=X)).imp ?_;rintro D σ H ⟨env,ρ,S,DU,he,R,w,q⟩;erw[q.nx _ _ _ _ _ w .refl R he]
 |s::ss,x,h=>by
  rw[N5,Mc] at h;dsimp[aP,ay] at h;let#[y,h1,ys,h2,h3]:=h;injection h3 with h3;subst h3
  refine(Ho (X:=X) (IH.fs G K h1) (IH.N7 G K h2)).imp ?_;rintro D σ H ⟨env,ρ,S,DU,he,R,w,q⟩;refine#[env,ρ,S,_,he,R,w,#[λenv' S' σ' H' ρ' h st R' e=>?_,q.rt,q.ex]];exact#[env',ρ',S',DU,e,R',h,q.later st]
theorem Va(IH:MT t T Γ k n)(G:iP t T Γ k I X)(K:Tk X E){st:Stmt}{x:PL.Sm}(h:cS T (n+1) I st=some x):PS X st (λD σ H=>tS (X.cc t) Γ x E D σ H):=by
 have A:=zu (t:=t) (T:=T) (Γ:=Γ) (k:=k) n;rw[Zd] at h;cases st with(delta Y9 at h;dsimp only at h)
 |Assign ts e pos=>
  split at h
  .rename_i tg
   cases tg with
   |Name x' px=>
    dsimp only at h;split at h
    .rename_i i hi
     split at h
     .rename_i hl
      let#[y,h1,h2]:=aq.mp h;subst h2;by_cases nc:zi e=true
      .erw[QG G K hi hl (λenv=>Bd nc) (A.fe G.g h1)]
      .change cE T n I _=_ at h1
       cases n with
       |zero=>rw[UJ] at h1;erw[nn h1]
       |succ n=>
        have A':=zu (t:=t) (T:=T) (Γ:=Γ) (k:=k) n;cases e with
        |ListComp elt gs sc cpos=>
         let#[tg,iter,ifs,xs,it,c,ee,ci,rfl,ht,hc,g1,g2,g3,g4,g5]:=vG h1;subst g5;have hi':=Bg A' G.g ht g1;cases sw:(X.env.blockKind==.function&&X.env.kindOf x'==some .local&&px.line==cpos.line && !(sc.names.any λ(n,k)=>n==x'&&(k==.local||k==.cell))) with
         |true=>
          have hsw:iA (.ListComp elt [#[tg,iter,ifs,0]] sc cpos) (some (.Name x' px)) pos.line X.env=pure true:=by
           show(pure _:Sem Bool)=pure true
           erw[congrArg pure sw]
          have hkl:I.names.lookup x'=some .local:=by
           dsimp[aj] at sw;have:=sw.1.1.2;unfold Env.kindOf at this;rw[G.g.names] at this;simpa using this
          rwa[De G K hc.2 ht hc.1 g4 hi'.1 hi'.2 (λX' G' ec hx=>Em A' G' ec hx g2) (λX' G' ec=>?_) hi hkl hsw];have:=A'.fe G' g3;rw[ec] at this;erw[this]
         |false=>
          have hsw:iA (.ListComp elt [#[tg,iter,ifs,0]] sc cpos) (some (.Name x' px)) pos.line X.env=pure false:=by
           show(pure _:Sem Bool)=pure false
           erw[congrArg pure sw]
          refine(Hr (X:=X) (i:=i) G.g.nd (by rw[G.g.slots];erw[fB hi]) (tf hl G.g.names) (C9 K (A.fe G.g h1)) hsw (.inl (G.st x'))).imp ?_;intro D σ H z;erw[Dc z]
        |SetComp=>rw[Mb] at h1;unfold SA at h1;erw[nn h1]
        |DictComp=>rw[Mb] at h1;unfold SA at h1;erw[nn h1]
        |_=>erw[absurd rfl nc]
     .erw[nn h]
    .erw[nn h]
   |Attribute o f px=>
    dsimp[aP,ay] at h;let#[q,h1,a,h2,b,h3,h4]:=h;injection h4 with h4;subst h4
    let#[hm,rfl]:=m7 h1;erw[MM G K hm (A.fe G.g h2) (A.fe G.g h3)]
   |Subscript o i px=>
    dsimp only at h;split at h
    .dsimp[aP,ay] at h
     let#[a,h1,b,h2,c,h3,h4]:=h;injection h4 with h4;subst h4
     erw[MN G K (A.fe G.g h1) (A.fe G.g h2) (A.fe G.g h3)]
    .erw[nn h]
   |_=>erw[nn h]
  .erw[nn h]
 |AugAssign tg op e pos=>
  cases tg with
  |Name x' px=>
   dsimp only at h;split at h
   .rename_i i hi
    split at h
    .rename_i hl
     dsimp[aP,ay] at h;let#[p,h1,y,h2,h3]:=h;injection h3 with h3;subst h3
     erw[QK G K hi hl h1 (A.fe G.g h2)]
    .erw[nn h]
   .erw[nn h]
  |Attribute o f px=>
   dsimp[aP,ay] at h;let#[q,h1,p,h2,a,h3,b,h4,h5]:=h;injection h5 with h5;subst h5
   let#[hm,rfl]:=m7 h1;erw[MP G K hm h2 (A.fe G.g h3) (A.fe G.g h4)]
  |Subscript o i px=>
   dsimp only at h;split at h
   .rename_i hn
    dsimp[aP,ay] at h;let#[p,h1,a,h2,b,h3,c,h4,h5]:=h;injection h5 with h5;subst h5
    erw[MQ G K hn h1 (A.fe G.g h2) (A.fe G.g h3) (A.fe G.g h4)]
   .erw[nn h]
  |_=>erw[nn h]
 |Expr e pos=>
  split at h
  .rename_i hc
   let#[y,h1,h2]:=aq.mp h;subst h2;erw[U8 G K hc (A.fe G.g h1)]
  .erw[nn h]
 |Return e pos=>
  cases e with
  |none=>erw[nn h]
  |some e=>
   let#[y,h1,h2]:=aq.mp h;subst h2;erw[QH G K (A.fe G.g h1)]
 |If c a b pos=>
  dsimp[aP,ay] at h;let#[c,h1,a,h2,b,h3,h4]:=h;injection h4 with h4;subst h4
  erw[QJ G K (A.ft G.g h1) (IH.N7 G K h2) (IH.N7 G K h3)]
 |While c b el pos=>
  split at h
  .rename_i he
   have he:el=[]:=by simpa using he
   subst he;dsimp[aP,ay] at h;let#[c,h1,a,h2,h3]:=h;injection h3 with h3;subst h3
   erw[QL K (A.ft G.g h1) (IH.N7 G K h2)]
  .erw[nn h]
 |For tg it b el pos=>
  split at h
  .erw[nn h]
  .rename_i hc
   dsimp[gQ,He,aj] at hc;have he:el=[]:=by simpa using hc.2
   subst he;split at h
   .rename_i xs ht
    rcases CZ ht with⟨x,p,rfl,rfl⟩|⟨x,y,p,p',kd,q,rfl,rfl⟩
    .dsimp only at h
     split at h
     .rename_i i hi
      split at h
      .rename_i hl
       dsimp[aP,ay] at h;let#[it,h1,a,h2,h3]:=h;injection h3 with h3;subst h3
       erw[MR G K hc.1 hi hl (El h1) (Jh K (A.fi G.g h1)) (IH.N7 G K h2)]
      .erw[nn h]
     .erw[nn h]
    .dsimp only at h
     split at h
     .rename_i i hi
      split at h
      .rename_i j hj
       split at h
       .rename_i hl
        rw[aj] at hl;dsimp[aP,ay] at h;let#[it,h1,a,h2,h3]:=h;injection h3 with h3;subst h3
        erw[MS G K hc.1 hi hl.1 hj hl.2 (N6 h1) (Jh K (A.fn G.g h1)) (IH.N7 G K h2)]
       .erw[nn h]
      .erw[nn h]
     .erw[nn h]
   .erw[nn h]
 |Raise ex ca pos=>
  injection h with h;subst h
  rintro pZ s σ H D J ⟨env,ρ,S,DU,he,R,w,q⟩;erw[aO w]
 |Try b hs el fi pos=>
  cases hs with
  |nil=>erw[nn h]
  |cons h0 hs=>
   dsimp only at h;split at h
   .rename_i hc
    rw[aj] at hc;let#[he,hf]:=hc;have he:el=[]:=by simpa using he
    have hf:fi=[]:=by simpa using hf
    subst he;subst hf;let#[b,h2,h4]:=aq.mp h;subst h4;erw[QM λpZ E'=>IH.N7 G.al (U6 G.fr) h2]
   .erw[nn h]
 |_=>erw[nn h]
theorem FZ:MT t T Γ k 0:=by
 constructor
 .intro I X st x E _ _ h;rw[Zc] at h;erw[nn h]
 .intro I X st x E _ _ h;rw[UO] at h;erw[nn h]
theorem Bh:∀n,MT t T Γ k n
 |0=>FZ
 |n+1=>
  have IH:=Bh n
  #[λG K h=>Va IH G K h,λG K h=>QN IH G K h]
end
open PL (U SO bF Xn KU KX cf)
structure Base(c:Ctx)(T:Tab)(kx:Nat):Prop where
 tab:IT c T
theorem N8{c:Ctx}{T:Tab}{Γ:cf}{k kx n m:Nat}{x qual:Str}{st:Stmt}{f:Addr}{fd:fq}{N ps:List Str}{sp:PL.Spec}{b:PL.dj}(F:KG c.K x qual st f fd)(S:l7 N ps (bN st))
  (B:Base c T kx) (hkx:kx<=k) (G:gE c T Γ k) (hc:KJ T n #[(bN st).names,N,true] (fQ st)=some b) (hk:PL.Keeps Γ b m sp) (hm:N.length=ps.length+m) (hl:∀us S Q E,sp us S Q E->us.length=ps.length):
  kI c.P c.w c.K c.mg c.base (ug c.P c.w) (k+2) f fd ps (lift c sp):=by
 rwa[KG.okX (k:=k+1) F S (λvs H Q E h=>?_) (λcdv A outer s H vs Q E hr h=>?_)]
 .let#[us,ρ,S0,QU,EU,r,R,w,q,qx]:=h
  rw[<-r.len];erw[hl _ _ _ _ w]
 let#[us,ρ,S0,QU,EU,r,R,w,q,qx]:=h
 let t:xX:=#[c.cls]
 let X:=AF (ug c.P c.w) c.P c.w c.K c.mg c.base N qual (bN st) f cdv A outer s H E
 have G0:Good t T Γ k #[(bN st).names,N,true] X:=#[B.tab,G,S.kind,rfl,rfl,S.nd,λ_=>#[rfl,hr],by have:=hr.un;show(A.deeper (qB qual (bN st) s.heap.objs.size f cdv)).units+200<fF;omega]
 have GS:iP t T Γ k #[(bN st).names,N,true] X:=#[G0,#[rfl,rfl],λ_=>rfl]
 have K:Tk X (λ_=>E):=#[λpZ σ s' e z=>by
  let#[a,tb,cl,dx,H',rfl,I,x,fr,q]:=z;erw[HM pZ σ H' s' a tb cl dx I x fr q],PassesOwn.leaving]
 refine#[_,(Bh n).N7 GS K hc,?_];have hlen:us.length=ps.length:=hl _ _ _ _ w;have hvl:vs.length=us.length:=r.len.symm;refine#[us.map some++qm m none,ρ,S0,#[λ_ S1=>QU .bQ S1,QU,λ_=>EU],#[?_,λi u e=>?_],R,hk us S0 QU EU w,#[λenv' S' σ' H' ρ' h st R' e=>q _ _ _ _ _ h st R' (fc.mpr rfl),q,λenv' σ' x S' H' ρ' C d h st R' e z=>qx _ _ _ _ _ _ h st R' z]]
 .unfold start
  simp
  omega
 .unfold start
  by_cases z:i<us.length
  .rw[ag (by simpa using z),aw] at e
   let#[u',e1,e2]:=aq.mp e;injection e2 with e2;subst e2
   let#[v,e3,r3]:=r.get e1;exact#[v,by rw[ag (by rw[af,hvl];erw[z]),aw,e3];rfl,r3]
  .rw[ax (by simpa using fP z),Al] at e
   split at e
   .cases e
   .cases e
noncomputable def Dg:PL.Spec:=λus _ Q _=>∃ns:List Int,us=[.sF ns]/\ns.length<=63/\∀S',Q (.bl true) S'
noncomputable def zw(K:Frag):Sp:=λvs H Q _=>∃(a:Addr)(ns:List Int),vs=[.ref a]/\ns.length<=63/\xT K H a (ns.map .int)/\∀H',Q (.bl true) H'
theorem MU(F:kI c.P c.w c.K c.mg c.base (ug c.P c.w) k f fd ps (lift c Dg)):kI c.P c.w c.K c.mg c.base (ug c.P c.w) k f fd ps (zw c.K):=by
 rwa[F.imp λvs H Q E h=>?_]
 let#[a,ns,rfl,hl,hf,q]:=h;refine#[[.sF ns],[],[],λu _=>u=.bl true,λ_ _=>False,aX.cons (rV.mpr #[a,rfl,hf]) aX.nil,#[rfl,xq,λn a o h=>by simp at h],#[ns,rfl,hl,λ_=>rfl],λu S' v H' ρ' e _ _ r=>?_,λ_ _ _ _ _ _ z=>aO z];subst e;rw[fA.mp r]
 erw[q H']
theorem Ji{K:Frag}{H:Hp}{a:Addr}{xs:List V}(o:LA H)(h:i3 K H a xs):xT K H a xs:=by
 rcases h with(h|⟨ob,h⟩)|h
 .rcases o a with z|⟨ob,ys,z⟩
  .rw[h] at z;cases z
  .rw[h] at z;cases z
 .erw[.inl #[ob,h]]
 .erw[.inr h]
theorem QP(h:ug P w [] H s (λ_ _ _=>False) e s'):False:=by
 let#[a,T,c,dx,H',_,_,_,_,_,_,_,_,z]:=h;erw[z]
end L2
section
namespace PL
theorem Xk:f9 "text" [("text",a),("at",b),("depth",c)]=some a:=rfl
theorem aaI:f9 "at" [("text",a),("at",b),("depth",c)]=some b:=rfl
theorem Vb:f9 "depth" [("text",a),("at",b),("depth",c)]=some c:=rfl
end PL
open PL
def wN0:="A7 aax abm aay YA YB w_var w_lit aam aan w_not w_and w_or aao aap Yu w_mk Yv aaq aar w_fld abi abj aas aat Yw UD PV abk abl N1 aau Yx aav Yy Yz aaw PC Ig Yc Yd PD Ye W8 Yf ZT NZ ZU ZV ZW ZX ZY ZZ aa8 aa9 aba abb L7 L8 PM PN PQ Yg Yh PU abc Uw abd Ux abe abf abg abh ZR ZS Uz N0 Z3 Z4 yY Z5 Z6 Z7 Z8 Z9 aaa aab aac W9 Yi Xa aad aae DY AU xP sO xJ Ea Yq Eb Yp Yr Xc UA UB UC v_s v_t v_l bind_f Ys aa5 aa6 aa7 true_and bp xO aC bx HW W3 W4 LW List.getElem?_cons_zero List.getElem?_cons_succ List.map_cons List.map_nil List.replicate_zero List.replicate_succ List.cons_append List.nil_append List.append_nil List.set_cons_zero List.set_cons_succ mY Option.join_some"
local macro_rules | `(tactic| walk_at "pl") => do let a:=((wN0++" aai Yt aaj aak aal fO Xk aaI Vb").splitOn " ").toArray.map fun s=>Lean.mkIdent s.toName;`(tactic| simp only [$[$a:ident],*])
namespace PL
def mM(x rest:List Nat)(d:Nat):SO:=.ins "Reader" [("text",.str x),("at",.int (x.length-rest.length:Nat)),("depth",.int d)]
def lU(r:Nat)(o:SO)(S S':bF):Prop:=S.length<=S'.length/\S'[r]?=some o/\∀n,n<S.length->n≠r->S'[n]?=S[n]?
def Old(r:Nat)(S S':bF):Prop:=S.length<=S'.length/\∀n,n<S.length->n≠r->S'[n]?=S[n]?
def Ext(S S':bF):Prop:=S.length<=S'.length/\∀n,n<S.length->S'[n]?=S[n]?
def cF(l rest:List Nat):Bool:=match rest with|[]=>false|c::_=>l.contains c
def Dh:Spec:=λus S Q _=>∃r x rest d l,us=[.loc r,.str l]/\S[r]?=some (mM x rest d)/\rest<:+x/\x.length<=1000/\Q (.bl (cF l rest)) S
section
variable{x rest:List Nat}
theorem Jj(h:rest<:+x)(k:Nat):x[x.length-rest.length+k]?=rest[k]?:=by
 let#[p,rfl]:=h;rw[ar,Hd,ax ∅]
 congr 1
 omega
theorem N9(h:rest<:+x):((x.length-rest.length:Nat):Int)<x.length↔rest≠[]:=by
 let#[p,rfl]:=h;cases rest with
 |nil=>simp
 |cons c r=>simp;omega
end
section
variable{S:bF}{r:Nat}{x rest:List Nat}{d:Nat}{q:U->Prop}
theorem zx(h:S[r]?=some (mM x rest d)):lF (.loc r) "text" S q=q (.str x):=by rw[fO,h];rfl
theorem Bj(h:S[r]?=some (mM x rest d)):lF (.loc r) "at" S q=q (.int (x.length-rest.length:Nat)):=by rw[fO,h];rfl
theorem Jk(h:S[r]?=some (mM x rest d)):lF (.loc r) "depth" S q=q (.int d):=by rw[fO,h];rfl
theorem cb{Q:String->List (String×U)->Prop}(h:S[r]?=some (mM x rest d)):oC S[r]? Q=Q "Reader" [("text",.str x),("at",.int (x.length-rest.length:Nat)),("depth",.int d)]:=by rw[h];rfl
end
theorem MV(Γ:cf):Keeps Γ j7 0 Dh:=by
 rintro us S Q E ⟨r,x,rest,d,l,rfl,hS,hx,hl,q⟩;unfold j7;walk_at "pl";dsimp[<-fO,zx hS,Bj hS];walk_at "pl";refine#[∅,?_];rw[ju]
 have h0:=Jj hx 0;rw[Nat.add_zero] at h0;rw[h0]
 dsimp[decide_eq_true_eq,N9 hx];cases rest with
 |nil=>simpa[cF] using q
 |cons c t=>simp[cF] at q ⊢;exact#[∅,q]
abbrev PR(α:Type):=Except (List Nat) (α×List Nat)
def d8(l rest:List Nat):PR Nat:=match rest with|[]=>.error []|c::r=>if l.contains c then .ok (c,r) else .error (c::r)
noncomputable def mapR{α β:Type}(f:α->β):PR α->PR β|.ok (a,r)=>.ok (f a,r)|.error r=>.error r
noncomputable def bindR{α β:Type}(p:PR α)(f:α->List Nat->PR β):PR β:=match p with|.ok (a,r)=>f a r|.error r=>.error r
noncomputable def oF(c:Nat):U:=.str [c]
def eh(r:Nat)(x:List Nat)(d:Nat)(S:bF)(Q:KU)(E:KX):PR U->Prop
 |.ok (u,r')=>∀S',lU r (mM x r' d) S S'->Q u S'
 |.error r'=>False
def Ac(args:List U)(p:List Nat->PR U)(d:Nat):Spec:=λus S Q E=>∃r x rest,us=.loc r::args/\S[r]?=some (mM x rest d)/\rest<:+x/\x.length<=1000/\eh r x d S Q E (p rest)
def Jl:Spec:=λus S Q E=>∃l d,Ac [.str l] (λrest=>mapR oF (d8 l rest)) d us S Q E
section
variable{S S1 S2:bF}{r:Nat}{o o':SO}
theorem aW{α:Type}{l:List α}{n:Nat}{a:α}(h:l[n]?=some a):n<l.length:=(ab.mp h).1
theorem lU.set(h:S[r]?=some o):lU r o' S (S.set r o'):=by
 refine#[by simp,by simp[jI,aW h],λn hn ne=>?_];rw[ai (cC ne)]
theorem lU.refl(h:S[r]?=some o):lU r o S S:=#[ak _,h,λ_ _ _=>rfl]
theorem Old.refl:Old r S S:=#[ak _,λ_ _ _=>rfl]
theorem Old.trans(a:Old r S S1)(b:Old r S1 S2):Old r S S2:=#[aJ a.1 b.1,λn h ne=>(b.2 n (av h a.1) ne).trans (a.2 n h ne)]
theorem lU.old(a:lU r o S S1):Old r S S1:=#[a.1,a.2.2]
theorem lU.trans(a:lU r o S S1)(b:lU r o' S1 S2):lU r o' S S2:=#[aJ a.1 b.1,b.2.1,(a.old.trans b.old).2]
theorem Ext.old(a:Ext S S1):Old r S S1:=#[a.1,λn h _=>a.2 n h]
theorem Ext.refl:Ext S S:=#[ak _,λ_ _=>rfl]
theorem Ext.trans(a:Ext S S1)(b:Ext S1 S2):Ext S S2:=#[aJ a.1 b.1,λn h=>(b.2 n (av h a.1)).trans (a.2 n h)]
theorem Ext.get(a:Ext S S1)(h:S[r]?=some o):S1[r]?=some o:=(a.2 r (aW h)).trans h
theorem Ext.chg(a:Ext S S1)(h:S[r]?=some o):lU r o S S1:=#[a.1,a.get h,λn h _=>a.2 n h]
theorem Ext.app(l:List SO):Ext S (S++l):=#[by simp,λn h=>ag h]
theorem gs(h:S[r]?=some o):(S.set r o')[r]?=some o':=(lU.set h).2.1
end
theorem sub_len(h:(c::t)<:+x):((x.length-(c::t).length:Nat):Int)+1=(x.length-t.length:Nat):=by
 let#[p,rfl]:=h;simp
 omega
theorem QQ{x t:List Nat}{z v:U}{d:Nat}(h:z=.int (x.length-t.length:Nat)):SO.ins "Reader" (fS "at" z [("text",.str x),("at",v),("depth",.int d)])=mM x t d:=by subst h;rfl
theorem zy{x t:List Nat}{c:Nat}(h:(c::t)<:+x):t<:+x:=ny (df c t) h
theorem MX(Γ:cf)(h1:Γ "Reader.sees"=Dh):Keeps Γ iR 0 Jl:=by
 rintro us S Q E ⟨l,d,r,x,rest,rfl,hS,hx,hl,q⟩;unfold iR;walk_at "pl";dsimp[cb hS,h1];walk_at "pl";refine#[rfl,r,x,rest,d,l,rfl,hS,hx,hl,?_];walk_at "pl";dsimp[cb hS];walk_at "pl";cases rest with
 |nil=>erw[q.elim]
 |cons c t=>
  by_cases e:l.contains c=true
  .dsimp[d8,e,if_true,mapR,eh] at q
   dsimp[cF,e];have p:=QQ (v:=.int ((x.length-(c::t).length:Nat):Int)) (d:=d) (congrArg U.int (sub_len hx));have g:=gs (o':=mM x t d) hS;dsimp[bC,ao,if_false,PC];dsimp[cb hS,p];dsimp[<-fO,zx g,Bj g,PD,Uz];refine#[trivial,by simp,∅,?_];have e2:((x.length-t.length:Nat):Int)-1=(x.length-(c::t).length:Nat):=by have:=sub_len hx;omega
   have h0:=Jj hx 0;rw[Nat.add_zero] at h0;rw[e2,ju,h0]
   erw[q _ (lU.set hS)]
  .dsimp[d8,e,mapR,eh] at q
   dsimp[cF,e];erw[q.elim]
def Suf{α:Type}(rest:List Nat):PR α->Prop
 |.ok (_,r)=>r<:+rest
 |.error r=>r<:+rest
def mN{α:Type}(rest:List Nat):PR α->Prop
 |.ok (_,r)=>r<:+rest/\r.length<rest.length
 |.error r=>r<:+rest
theorem mN.QR{α:Type}{rest:List Nat}{p:PR α}(h:mN rest p):Suf rest p:=by
 cases p with
 |ok v=>erw[h.1]
 |error r=>erw[h]
theorem mN.bind{α β:Type}{rest:List Nat}{p:PR α}{f:α->List Nat->PR β}(h:mN rest p)(k:∀a r,p=.ok (a,r)->Suf r (f a r)):mN rest (bindR p f):=by
 cases p with
 |error r=>erw[h]
 |ok v=>
  let#[a,r]:=v;have:=k a r rfl;unfold bindR;dsimp only;cases q:f a r with
  |error r'=>rw[q] at this;erw[this.trans h.1]
  |ok w=>
   let#[b,r']:=w;rw[q] at this;exact#[this.trans h.1,jo this.length_le h.2]
theorem Suf.bind{α β:Type}{rest:List Nat}{p:PR α}{f:α->List Nat->PR β}(h:Suf rest p)(k:∀a r,p=.ok (a,r)->Suf r (f a r)):Suf rest (bindR p f):=by
 cases p with
 |error r=>erw[h]
 |ok v=>
  let#[a,r]:=v;have:=k a r rfl;unfold bindR;dsimp only;cases q:f a r with
  |error r'=>rw[q] at this;erw[this.trans h]
  |ok w=>
   let#[b,r']:=w;rw[q] at this;erw[this.trans h]
theorem gW(l rest:List Nat):mN rest (d8 l rest):=by
 cases rest with
 |nil=>erw[bE _]
 |cons c t=>
  unfold d8;dsimp only;split
  .exact#[df c t,by simp]
  .erw[bE _]
theorem eh.bind{α:Type}{toU:α->U}{p:PR α}{f:α->List Nat->PR U}{r d:Nat}{x rest:List Nat}{S S1:bF}{Q Q1:KU}{E:KX}(h:eh r x d S Q E (bindR p f))(st:lU r (mM x rest d) S S1)
  (k:∀a r1 S2,p=.ok (a,r1)->lU r (mM x r1 d) S S2->eh r x d S Q E (f a r1)->Q1 (toU a) S2):eh r x d S1 Q1 E (mapR toU p):=by
 cases p with
 |error r'=>erw[h]
 |ok v=>
  let#[a,r1]:=v;erw[λS' c=>k a r1 S' rfl (st.trans c) h]
theorem MY{p:PR U}:mapR id p=p:=by
 cases p with
 |ok v=>rfl
 |error r=>rfl
theorem yd{α β:Type}{f:α->β}{p:PR α}:mapR f p=bindR p (λa r=>.ok (f a,r)):=by
 cases p with
 |ok v=>rfl
 |error r=>rfl
theorem mz(p:Nat->Bool)(hg:g S)(hc:∀n k,k (p n) S->c (.str [n]) S k)(he:∀n k,k (.str [n]) S->e (.str [n]) S k):
  ∀(l:List Nat)(acc:List U),acc.length+l.length<1000000->Q (acc++(l.filter p).map oF) S->ow g c e Q (l.map λn=>.str [n]) acc S
 |[],acc,hl,q=>#[hg,by simpa using hl,by simpa using q]
 |n::l,acc,hl,q=>by
  dsimp[aU] at hl;refine#[hg,∅,hc n _ ?_];by_cases h:p n=true
  .rw[if_pos h]
   rwa[he n _ (mz p hg hc he l (acc++[.str [n]]) (by simp;omega) ?_)];rw[uw,if_pos h] at q;simpa[oF] using q
  .rw[if_neg h]
   rwa[mz p hg hc he l acc ∅ ?_];rw[uw,if_neg h] at q;erw[q]
theorem join_ones:∀l:List Nat,me [] (l.map λn=>[n])=l
 |[]=>rfl
 |[n]=>rfl
 |n::m::l=>by
  have:=join_ones (m::l);dsimp[au] at this ⊢;dsimp[me,bU];rw[this];rfl
noncomputable def d7(l:List Nat):List Nat:=SG.filter λc=>!l.contains c
noncomputable def inOrder(l:List Nat):List Nat:=SG.filter λc=>l.contains c
noncomputable def spT(f:List Nat->List Nat):Spec:=λus S Q _=>∃l,us=[.str l]/\∀S',Ext S S'->Q (.str (f l)) S'
theorem vN:∀l:List Nat,((l.map λn=>[n]).map cA).sum=l.length
 |[]=>rfl
 |n::l=>by rw[au,au,z9,vN l];simp;omega
theorem Eo(l:List Nat):l.map oF=(l.map λn=>[n]).map U.str:=by
 rw[bu];rfl
theorem Ep(p:Nat->Bool):(SG.filter p).length<=95:=aJ (pA _ _) ⋯
theorem Bk(Γ:cf):Keeps Γ nK 0 (spT inOrder):=by
 rintro us S Q E ⟨l,rfl,q⟩;unfold nK;walk_at "pl";refine mz (λc=>l.contains c) trivial (λn k h=>by rw[L7];exact h) (λn k h=>h) SG [] ⋯ ?_;dsimp[lj];try walk_at "pl"
 refine#[(inOrder l).map λn=>[n],?_,?_,?_]
 .rw[<-Eo];simp[inOrder]
 .have:=Ep λc=>l.contains c
  rw[vN];simp[inOrder] at this ⊢;omega
 .rw[join_ones];erw[q _ (Ext.app _)]
theorem vO(Γ:cf):Keeps Γ pK 0 (spT d7):=by
 rintro us S Q E ⟨l,rfl,q⟩;unfold pK;walk_at "pl";refine mz (λc=>!l.contains c) trivial (λn k h=>by rw[L8];exact h) (λn k h=>h) SG [] ⋯ ?_;dsimp[lj];try walk_at "pl"
 refine#[(d7 l).map λn=>[n],?_,?_,?_]
 .rw[<-Eo];simp[d7]
 .have:=Ep λc=>!l.contains c
  rw[vN];simp[d7] at this ⊢;omega
 .rw[join_ones];erw[q _ (Ext.app _)]
def Er:Spec:=λus S Q _=>∃a b,us=[.str [a],.str [b]]/\a∈SG/\b∈SG/\Q (.bl (decide (SG.idxOf a<SG.idxOf b))) S
theorem Bl(Γ:cf):Keeps Γ nM 0 Er:=by
 rintro us S Q E ⟨a,b,rfl,ha,hb,q⟩;unfold nM;walk_at "pl";refine#[a,rfl,ha,b,rfl,hb,?_];simpa using q
noncomputable def lI(a b:Nat):List Nat:=(SG.drop (SG.idxOf a)).take (SG.idxOf b+1-SG.idxOf a)
def ye:Spec:=λus S Q _=>∃a b,us=[.str [a],.str [b]]/\a∈SG/\b∈SG/\Q (.str (lI a b)) S
theorem Di(h:a∈SG):SG.idxOf a<95:=by
 have:=List.idxOf_lt_length_iff.mpr h;simpa using this
theorem Dj(Γ:cf):Keeps Γ pM 0 ye:=by
 rintro us S Q E ⟨a,b,rfl,ha,hb,q⟩;unfold pM;walk_at "pl";refine#[a,rfl,ha,?_];refine#[b,rfl,hb,?_];try walk_at "pl"
 have h1:=Di ha;have h2:=Di hb;refine#[#[λi e=>?_,λi e=>?_],⋯,?_]
 .injection e with e;omega
 .injection e with e;omega
 .have e:rH SG (some (SG.idxOf a:Int)) (some ((SG.idxOf b:Int)+1))=lI a b:=by
   unfold rH lI;have l:SG.length=95:=⋯
   dsimp[dy,l];have e1:min (((SG.idxOf a:Nat):Int).toNat) 95=SG.idxOf a:=∅
   have e2:min ((((SG.idxOf b:Nat):Int)+1).toNat) 95=SG.idxOf b+1:=∅
   rw[e1,e2]
  show Q (.str (rH SG (some (SG.idxOf a:Int)) (some ((SG.idxOf b:Int)+1)))) S
  rw[e];erw[q]
noncomputable abbrev BB:List Nat:=[46,124,40,41,91,93,42,43,63,92,45,94,110]
noncomputable abbrev MO:List Nat:=[46,124,40,41,91,93,42,43,63,92]
noncomputable abbrev MW:List Nat:=[93,45,92]
def kO(m rest:List Nat):PR Nat:=
 match rest with
 |92::r=>bindR (d8 BB r) λs r'=>.ok (if s=110 then 10 else s,r')
 |_=>d8 (d7 m) rest
theorem Jm(m r:List Nat):kO m (92::r)=bindR (d8 BB r) λs r'=>.ok (if s=110 then 10 else s,r'):=rfl
theorem Bm{m rest:List Nat}(h:cF [92] rest=false):kO m rest=d8 (d7 m) rest:=by
 unfold kO;split
 .simp[cF] at h
 .rfl
theorem Jn{c:Nat}{rest:List Nat}(h:cF [c] rest=true):∃t,rest=c::t:=by
 cases rest with
 |nil=>simp[cF] at h
 |cons a t=>simp[cF] at h;subst h;exact#[t,rfl]
theorem lz(m rest:List Nat):mN rest (kO m rest):=by
 unfold kO;split
 .rename_i r
  have h:=(gW BB r).bind (f:=λs r'=>(.ok (if s=110 then 10 else s,r'):PR Nat)) λa r' _=>bE _
  cases q:bindR (d8 BB r) λs r'=>(.ok (if s=110 then 10 else s,r'):PR Nat) with
  |error r'=>rw[q] at h;erw[h.trans (df _ _)]
  |ok v=>rw[q] at h;exact#[h.1.trans (df _ _),bc h.2]
 .erw[gW _ _]
theorem Es(h:d8 l rest=.ok (c,r)):c∈l/\rest=c::r:=by
 cases rest with
 |nil=>simp[d8] at h
 |cons a t=>
  unfold d8 at h;dsimp only at h;split at h
  .rename_i z
   injection h with h;injection h with h1 h2;subst h1;subst h2
   exact#[by simpa using z,rfl]
  .cases h
theorem vP{m rest:List Nat}{c:Nat}{r:List Nat}(h:kO m rest=.ok (c,r)):c∈SG:=by
 unfold kO at h;split at h
 .rename_i t
  cases q:d8 BB t with
  |error r'=>rw[q] at h;cases h
  |ok v=>
   let#[s,r']:=v;rw[q] at h;dsimp[bindR] at h;injection h with h;injection h with h1 h2
   have hs:=(Es q).1;subst h1;split
   .decide
   .have:∀s∈BB,s∈SG:=⋯
    erw[this s hs]
 .have:=(Es h).1
  unfold d7 at this;exact(dX.mp this).1
def Et(d:Nat):Spec:=λus S Q E=>∃m,Ac [.str m] (λrest=>mapR oF (kO m rest)) d us S Q E
structure GR(Γ:cf):Prop where
 sees:Γ "Reader.sees"=Dh
 pass:Γ "Reader.passes"=Jl
 Dk:Γ "all_but"=spT d7
 QS:Γ "in_order"=spT inOrder
 ahead:Γ "is_ahead"=Er
 Jo:Γ "stretch"=ye
theorem Jp(Γ:cf)(G:GR Γ)(d:Nat):Keeps Γ eJ 1 (Et d):=by
 rintro us S Q E ⟨m,r,x,rest,rfl,hS,hx,hl,q⟩;have q:eh r x d S Q E (mapR oF (kO m rest)):=q;unfold eJ;walk_at "pl";dsimp[cb hS,G.sees,G.pass];walk_at "pl";refine#[rfl,r,x,rest,d,_,rfl,hS,hx,hl,?_];walk_at "pl";by_cases e:cF [92] rest=true
 .let#[t,rfl]:=Jn e
  dsimp[e,bC,ao,if_false];dsimp[cb hS];refine#[#[by first|trivial|rfl,rfl],[92],d,r,x,_,rfl,hS,hx,hl,?_];have ht:=zy hx;show eh r x d S _ E (mapR oF (.ok (92,t)));intro S1 c1;try walk_at "pl"
  dsimp[cb c1.2.1];refine#[#[by first|trivial|rfl,rfl],BB,d,r,x,t,rfl,c1.2.1,ht,hl,?_];rw[Jm] at q;have q':eh r x d S Q E (bindR (d8 BB t) λs r'=>.ok (oF (if s=110 then 10 else s),r')):=by
   cases z:d8 BB t with
   |error r'=>rw[z] at q;erw[q]
   |ok v=>rw[z] at q;erw[q]
  rwa[q'.bind c1 λa r1 S2 e1 c2 q2=>?_]
  unfold oF;try walk_at "pl"
  dsimp[beq_iff_eq,dJ,and_true];have:=q2 S2 c2;unfold oF at this;by_cases z:a=110
  .subst z;simpa using this
  .dsimp[z,if_false] at this ⊢;erw[this]
 .have e:cF [92] rest=false:=by simpa using e
  dsimp[e,bL,if_true];dsimp[cb hS,G.Dk,true_and];refine#[rfl,m,rfl,λS1 x1=>?_];refine#[d7 m,d,r,x,rest,rfl,x1.get hS,hx,hl,?_];show eh r x d S1 Q E (mapR oF (d8 (d7 m) rest));rw[Bm e] at q;cases z:d8 (d7 m) rest with
  |error r'=>rw[z] at q;erw[q]
  |ok v=>rw[z] at q;erw[λS' c=>q S' ((x1.chg hS).trans c)]
end PL
local macro_rules | `(tactic| walk_at "qpf") => do let a:=((wN0++" o9 xS aaz UE N2 aaA fO Xk aaI Vb").splitOn " ").toArray.map fun s=>Lean.mkIdent s.toName;`(tactic| simp only [$[$a:ident],*])
local macro_rules | `(tactic| walk_at "pf") => `(tactic| ((try refine Rest.go ?_); walk_at "qpf"; repeat ((refine Rest.go ?_); walk_at "qpf")))
namespace PL
def lJ(first:Nat)(r:List Nat):PR (List Nat):=
 match r with
 |45::r2=>bindR (kO MW r2) λsecond r3=>if SG.idxOf second<SG.idxOf first then .error r2 else .ok (lI first second,r3)
 |_=>.ok ([first],r)
def item(rest:List Nat):PR (List Nat):=bindR (kO MW rest) lJ
theorem Bn(f:Nat)(r:List Nat):lJ f (45::r)=bindR (kO MW r) λsecond r3=>if SG.idxOf second<SG.idxOf f then .error r else .ok (lI f second,r3):=rfl
theorem Bo{f:Nat}{r:List Nat}(h:cF [45] r=false):lJ f r=.ok ([f],r):=by
 unfold lJ;split
 .simp[cF] at h
 .rfl
theorem zz(f:Nat)(r:List Nat):Suf r (lJ f r):=by
 unfold lJ;split
 .rename_i r2
  have h:=(lz MW r2).bind (f:=λsecond r3=>(if SG.idxOf second<SG.idxOf f then .error r2 else .ok (lI f second,r3):PR (List Nat)));cases q:kO MW r2 with
  |error r'=>have:=lz MW r2;rw[q] at this;erw[this.trans (df _ _)]
  |ok v=>
   have:=lz MW r2;rw[q] at this;dsimp[bindR];split
   .erw[df _ _]
   .erw[this.1.trans (df _ _)]
 .erw[bE _]
theorem r8(rest:List Nat):mN rest (item rest):=(lz MW rest).bind λa r _=>zz a r
theorem jT{α β γ:Type}{g:β->γ}{p:PR α}{f:α->List Nat->PR β}:mapR g (bindR p f)=bindR p λa r=>mapR g (f a r):=by
 cases p with
 |ok v=>rfl
 |error r=>rfl
def Jq(d:Nat):Spec:=Ac [] (λrest=>mapR U.str (item rest)) d
structure GR2(Γ:cf)(d:Nat):Prop extends GR Γ where
 ws:Γ "Reader.written_sign"=Et d
theorem MZ(Γ:cf)(d:Nat)(G:GR2 Γ d):Keeps Γ j9 3 (Jq d):=by
 rintro us S Q E ⟨r,x,rest,rfl,hS,hx,hl,q⟩;have q:eh r x d S Q E (mapR U.str (item rest)):=q;unfold item at q;rw[jT] at q;unfold j9;walk_at "pf";dsimp[cb hS];refine#[#[by first|trivial|rfl,rfl],ca G.ws #[MW,r,x,rest,rfl,hS,hx,hl,?_]];refine q.bind (lU.refl hS) λa r1 S1 e1 c1 q1=>?_
 have hs:=lz MW rest;rw[e1] at hs;have hx1:=hs.1.trans hx;have g1:=c1.2.1;unfold oF;try walk_at "pf"
 dsimp[cb g1,true_and];refine#[rfl,ca G.sees #[r,x,r1,d,_,rfl,g1,hx1,hl,?_]];try walk_at "pf"
 by_cases e:cF [45] r1=true
 .let#[t,rfl]:=Jn e
  dsimp[e,bC,ao,if_false];walk_at "pf";dsimp[cb g1,true_and];refine#[rfl,ca G.pass #[[45],d,r,x,_,rfl,g1,hx1,hl,?_]];have ht:=zy hx1;show eh r x d S1 _ E (mapR oF (.ok (45,t)));intro S2 c2;have g2:=c2.2.1;try walk_at "pf"
  dsimp[<-fO,Bj g2];walk_at "pf";dsimp[cb g2,true_and];refine#[rfl,ca G.ws #[MW,r,x,t,rfl,g2,ht,hl,?_]];rw[Bn,jT] at q1;rwa[q1.bind (c1.trans c2) λb r3 S3 e3 c3 q3=>?_]
  unfold oF;try walk_at "pf"
  have ha:=vP e1;have hb:=vP e3;refine ca G.ahead #[b,a,rfl,hb,ha,?_];try walk_at "pf"
  by_cases z:SG.idxOf b<SG.idxOf a
  .dsimp[z,decide_true,if_true]
   dsimp[z,if_true] at q3;walk_at "pf";erw[q3.elim]
  .dsimp[z,decide_false,ao,if_false]
   dsimp[z,if_false] at q3;walk_at "pf";erw[ca G.Jo #[a,b,rfl,ha,hb,q3 S3 c3]]
 .have e:cF [45] r1=false:=by simpa using e
  dsimp[e,bL,if_true];rw[Bo e] at q1;walk_at "pf";erw[q1 S1 c1]
def lK:Nat->List Nat->List Nat->PR (List Nat)
 |0,_,rest=>.error rest
 |n+1,taken,rest=>if cF [93] rest then .ok (taken,rest) else bindR (item rest) λt r=>lK n (taken++t) r
def nZ(turned:Bool)(r1:List Nat):PR (List Nat):=
 bindR (item r1) λt r2=>bindR (lK (r2.length+1) t r2) λtaken r3=>bindR (d8 [93] r3) λ_ r4=>.ok (if turned then d7 taken else inOrder taken,r4)
def clsIn(r0:List Nat):PR (List Nat):=
 match r0 with
 |94::r=>nZ true r
 |_=>nZ false r0
def cls(rest:List Nat):PR (List Nat):=bindR (d8 [91] rest) λ_ r0=>clsIn r0
theorem Jr{r:List Nat}(h:cF [94] r=false):clsIn r=nZ false r:=by
 unfold clsIn;split
 .simp[cF] at h
 .rfl
theorem vQ:∀(n:Nat)(taken rest:List Nat),Suf rest (lK n taken rest)
 |0,_,rest=>bE _
 |n+1,taken,rest=>by
  unfold lK;split
  .erw[bE _]
  .exact(r8 rest).QR.bind λa r _=>vQ n _ r
theorem tX(b:Bool)(r:List Nat):Suf r (nZ b r):=
 (r8 r).QR.bind λa r2 _=>(vQ _ _ _).bind λt r3 _=>(gW _ _).QR.bind λ_ r4 _=>bE _
theorem M0(rest:List Nat):mN rest (cls rest):=by
 refine(gW _ _).bind λa r _=>?_
 unfold clsIn;split
 .rename_i r' hq
  have:=tX true r';cases q:nZ true r' with
  |ok v=>rw[q] at this;erw[ny this (df _ _)]
  |error v=>rw[q] at this;erw[ny this (df _ _)]
 .erw[tX false r]
def Oa(d:Nat):Spec:=Ac [] (λrest=>mapR U.str (cls rest)) d
structure GR3(Γ:cf)(d:Nat):Prop extends GR2 Γ d where
 it:Γ "Reader.item"=Jq d
theorem vR(h:item rest=.ok (t,r)):t.length<=95:=by
 unfold item at h;cases q:kO MW rest with
 |error r'=>rw[q] at h;cases h
 |ok v=>
  let#[a,r1]:=v;rw[q] at h;dsimp[bindR] at h;unfold lJ at h;split at h
  .rename_i r2
   cases q2:kO MW r2 with
   |error r'=>rw[q2] at h;cases h
   |ok v2=>
    rw[q2] at h;dsimp[bindR] at h;split at h
    .cases h
    .injection h with h;injection h with h1 h2;subst h1
     unfold lI;rwa[aJ (List.length_take_le _ _) ?_];have:=Di (vP q2);omega
  .injection h with h;injection h with h1 h2;subst h1;simp
theorem vS{Γ:cf}{d:Nat}(G:GR3 Γ d){r:Nat}{x:List Nat}{S:bF}{E:KX}{fin:Env->bF->Prop}{env:Env}(hl:x.length<=1000)(k1:env[0]?=some (some (.loc r)))
  (cW:Env->bF->(Bool->bF->Prop)->Prop) (bW:Env->bF->(Env->bF->Prop)->Prop)
  (hc:∀taken S1 rest k,S1[r]?=some (mM x rest d)->rest<:+x->k (!cF [93] rest) S1->cW (env.set 2 (some (.str taken))) S1 k)
  (hb:∀taken S1 rest k,taken.length<=900000->S1[r]?=some (mM x rest d)->rest<:+x->eh r x d S1 (λu S2=>∃t,u=.str t/\t.length<=95/\k (env.set 2 (some (.str (taken++t)))) S2) E (mapR U.str (item rest))->bW (env.set 2 (some (.str taken))) S1 k):
  ∀(n:Nat)(taken rest:List Nat)(S1:bF)(R:List Nat->List Nat->PR U),rest.length<n->taken.length+95*rest.length<=900000->rest<:+x->lU r (mM x rest d) S S1 ->
   (∀t2 r2 S2,lU r (mM x r2 d) S S2->r2<:+x->t2.length<=900000->lK n taken rest=.ok (t2,r2)->fin (env.set 2 (some (.str t2))) S2)->(∀r',lK n taken rest=.error r'->False) ->
   zc cW bW fin n (env.set 2 (some (.str taken))) S1
 |0,_,_,_,_,h,_,_,_,_,_=>∅
 |n+1,taken,rest,S1,R,h,ht,hx,c1,hf,he=>by
  rwa[hc taken S1 rest _ c1.2.1 hx ?_];by_cases e:cF [93] rest=true
  .dsimp[e,bC,ao,if_false]
   erw[hf taken rest S1 c1 hx ∅ (by unfold lK;rw[if_pos e])]
  .have e':cF [93] rest=false:=by simpa using e
   dsimp[e',bL,if_true];rwa[hb taken S1 rest _ ∅ c1.2.1 hx ?_];have hs:=r8 rest;cases q:item rest with
   |error r'=>
    erw[he r' (by unfold lK;rw[if_neg e,q];rfl)]
   |ok v=>
    let#[t,r1]:=v;rw[q] at hs;intro S2 c2;refine#[t,rfl,vR q,?_];have hlt:t.length<=95:=vR q;have hE:lK (n+1) taken rest=lK n (taken++t) r1:=by
     conv=>lhs;unfold lK
     rw[if_neg e,q];rfl
    rwa[vS G hl k1 cW bW hc hb n (taken++t) r1 S2 R (by have:=hs.2;omega) (by simp;have:=hs.2;omega) (hs.1.trans hx) (c1.trans c2) (λt2 r2 S3 c3 h3 h4 e3=>hf t2 r2 S3 c3 h3 h4 (by rw[hE];erw[e3])) (λr' e3=>he r' (by rw[hE];erw[e3]))]
theorem QT(Γ:cf)(d:Nat)(G:GR3 Γ d):Keeps Γ fG 2 (Oa d):=by
  rintro us S Q E ⟨r,x,rest,rfl,hS,hx,hl,q⟩;have q:eh r x d S Q E (mapR U.str (cls rest)):=q;unfold cls at q;rw[jT] at q;unfold fG;walk_at "pf";dsimp[cb hS];refine#[#[by first|trivial|rfl,rfl],ca G.pass #[[91],d,r,x,rest,rfl,hS,hx,hl,?_]];refine q.bind (lU.refl hS) λa r0 S0 e0 c0 q0=>?_
  have hs0:=gW [91] rest;rw[e0] at hs0;have hx0:=hs0.1.trans hx;have g0:=c0.2.1;walk_at "pf";dsimp[cb g0,true_and];refine#[rfl,ca G.sees #[r,x,r0,d,_,rfl,g0,hx0,hl,?_]];try walk_at "pf"
  have tail:∀(tb:Bool)(r1:List Nat)(S1:bF),lU r (mM x r1 d) S S1->r1<:+x->eh r x d S Q E (mapR U.str (nZ tb r1)) ->
      ui Γ (.cons (.set 2 (.cG "Reader" "item" "Reader.item" @0 .nil))
   (.cons (.B3 (.not (.dk (.cG "Reader" "sees" "Reader.sees" @0 (.cons ↑[93] .nil)))) (.cons (.aug 2 .add (.cG "Reader" "item" "Reader.item" @0 .nil)) .nil))
   (.cons (.ex (.cG "Reader" "passes" "Reader.passes" @0 (.cons ↑[93] .nil)))
   (.cons (.ret (.GQ (.dk @1) (.call "all_but" (.cons @2 .nil)) (.call "in_order" (.cons @2 .nil)))) .nil)))) #[λ_ S1=>Q .bQ S1,Q,λ_=>E] [some (.loc r),some (.bl tb),none] S1:=by
    intro tb r1 S1 c1 hx1 q1;unfold nZ at q1;rw[jT] at q1;have g1:=c1.2.1;walk_at "pf";dsimp[cb g1];refine#[#[by first|trivial|rfl,rfl],ca G.it #[r,x,r1,rfl,g1,hx1,hl,?_]];refine q1.bind c1 λt r2 S2 e2 c2 q2=>?_
    have hs2:=r8 r1;rw[e2] at hs2;have hx2:=hs2.1.trans hx1;have hlt:=vR e2;have hr2:r2.length<=1000:=aJ hx2.length_le hl;rw[jT] at q2;walk_at "pf";refine#[r2.length+1,vS (S:=S) (E:=E) (env:=[some (.loc r),some (.bl tb),none]) G hl rfl _ _ ?_ ?_ (r2.length+1) t r2 S2 (λ_ _=>.error []) ∅ ∅ hx2 c2 ?_ ?_]
    · intro taken S3 rest3 k g3 hx3 hk
      dsimp[eQ,eR];try walk_at "pf"
      dsimp[cb g3,true_and];refine#[rfl,ca G.sees #[r,x,rest3,d,_,rfl,g3,hx3,hl,?_]];try walk_at "pf"
      erw[hk]
    · intro taken S3 rest3 k htk g3 hx3 hk
      dsimp[eQ,eR] at hk ⊢;try walk_at "pf"
      dsimp[cb g3,true_and];refine#[rfl,ca G.it #[r,x,rest3,rfl,g3,hx3,hl,?_]];show eh r x d S3 _ E (mapR U.str (item rest3));cases z:item rest3 with
      |error r'=>rw[z] at hk;erw[hk]
      |ok v=>
        let#[t3,r3]:=v;rw[z] at hk;intro S4 c4;let#[t',e',hl',hk']:=hk S4 c4;injection e' with e';subst e'
        rw[Ig]
        exact#[∅,Rest.go hk']
    · intro t3 r3 S3 c3 hx3 hl3 e3
      rw[e3] at q2;dsimp[bindR] at q2;have q2:eh r x d S Q E (mapR U.str (bindR (d8 [93] r3) λ_ r4=>.ok (if tb then d7 t3 else inOrder t3,r4))):=q2;rw[jT] at q2;have g3:=c3.2.1;dsimp[eQ,eR];try walk_at "pf"
      dsimp[cb g3,true_and];refine#[rfl,ca G.pass #[[93],d,r,x,r3,rfl,g3,hx3,hl,?_]];rwa[q2.bind c3 λb r4 S4 e4 c4 q4=>?_]
      try walk_at "pf"
      cases tb with
      |true=>erw[ca G.Dk #[t3,rfl,λS5 x5=>q4 S5 (c4.trans (x5.chg c4.2.1))]]
      |false=>erw[ca G.QS #[t3,rfl,λS5 x5=>q4 S5 (c4.trans (x5.chg c4.2.1))]]
    · intro r' e3
      rw[e3] at q2;erw[q2]
  by_cases e:cF [94] r0=true
  · let#[t,rfl]:=Jn e
    dsimp[e,if_true];walk_at "pf";dsimp[cb g0,true_and];refine#[rfl,ca G.pass #[[94],d,r,x,_,rfl,g0,hx0,hl,?_]];show eh r x d S0 _ E (mapR oF (.ok (94,t)));intro S1 c1;erw[tail true t S1 (c0.trans c1) (zy hx0) q0]
  · have e:cF [94] r0=false:=by simpa using e
    dsimp[e,ao,if_false];rw[Jr e] at q0;erw[tail false r0 S0 c0 hx0 q0]
noncomputable def pS(k:List Nat)(ts:List U):U:=match ts with|[t]=>t|_=>.tup [.str k,.tup ts]
def lL:Spec:=λus S Q _=>∃k n ts,us=[.str k,.loc n]/\S[n]?=some (.lst ts)/\ts≠[]/\ts.length<=100000/\Q (pS k ts) S
theorem F3(Γ:cf):Keeps Γ rM 0 lL:=by
 rintro us S Q E ⟨k,n,ts,rfl,hn,ne,hl,q⟩;unfold rM;walk_at "pl";dsimp[mZ hn,hn];walk_at "pl";refine#[∅,?_];cases ts with
 |nil=>erw[absurd rfl ne]
 |cons t ts=>
  cases ts with
  |nil=>
   dsimp[gH];simp[uj,pS] at q ⊢;erw[q]
  |cons t2 ts=>
   have h1:((((t::t2::ts).length:Nat):Int)== 1)=false:=by
    dsimp[aU,beq_eq_false_iff_ne];omega
   dsimp[h1,ao,if_false];refine#[by simp,?_];erw[q]
noncomputable abbrev M3:List Nat:=[111,110,101]
noncomputable abbrev lM:List Nat:=[115,116,97,114]
noncomputable abbrev pd:List Nat:=[112,108,117,115]
noncomputable abbrev kL:List Nat:=[109,97,121,98,101]
noncomputable abbrev Dl:List Nat:=[114,111,119]
noncomputable abbrev SH:List Nat:=[111,114]
def M4(l:List Nat):U:=.tup [.str M3,.str l]
def Js(c:Nat)(t:U):U:=.tup [.str (if c=42 then lM else if c=43 then pd else kL),t]
def mB:U->List Nat->U×List Nat
 |t,[]=>(t,[])
 |t,c::r=>if [42,43,63].contains c then mB (Js c t) r else(t,c::r)
def SI(br:Option (List Nat->PR U))(rest:List Nat):PR U:=
 match br with
 |none=>.error rest
 |some p=>bindR (d8 [40] rest) λ_ r=>bindR (p r) λt r2=>bindR (d8 [41] r2) λ_ r3=>.ok (t,r3)
def r9(br:Option (List Nat->PR U))(rest:List Nat):PR U:=
 if cF [40] rest then SI br rest else if cF [91] rest then mapR M4 (cls rest) else if cF [46] rest then bindR (d8 [46] rest) (λ_ r=>.ok (M4 (d7 [10]),r)) else mapR (λc=>M4 [c]) (kO MO rest)
def jz(br:Option (List Nat->PR U))(rest:List Nat):PR U:=bindR (r9 br rest) λt r=>.ok (mB t r)
def du(stop:List Nat->Bool)(p:List Nat->PR U):Nat->List U->List Nat->PR (List U)
 |0,_,rest=>.error rest
 |n+1,acc,rest=>if stop rest then .ok (acc,rest) else bindR (p rest) λt r=>du stop p n (acc++[t]) r
def jA(rest:List Nat):Bool:=rest.isEmpty||cF [124,41] rest
def stopOr(rest:List Nat):Bool:=!cF [124] rest
def wX(br:Option (List Nat->PR U))(rest:List Nat):PR U:=bindR (jz br rest) λt r=>bindR (du jA (jz br) (r.length+1) [t] r) λts r2=>.ok (pS Dl ts,r2)
def QW(br:Option (List Nat->PR U))(rest:List Nat):PR U:=bindR (d8 [124] rest) λ_ r=>wX br r
def iw(br:Option (List Nat->PR U))(rest:List Nat):PR U:=bindR (wX br rest) λt r=>bindR (du stopOr (QW br) (r.length+1) [t] r) λts r2=>.ok (pS SH ts,r2)
def tY:Nat->Option (List Nat->PR U)
 |0=>none
 |k+1=>some (iw (tY k))
def tZ(x:List Nat):PR U:=bindR (iw (tY 6) x) λt r=>if r=[] then .ok (t,[]) else .error r
theorem Bp:∀(t:U)(rest:List Nat),(mB t rest).2<:+rest
 |t,[]=>bE _
 |t,c::r=>by
  unfold mB;split
  .exact(Bp _ r).trans (df _ _)
  .erw[bE _]
def oG(br:Option (List Nat->PR U)):Prop:=∀p,br=some p->∀rest,mN rest (p rest)
theorem QY{br:Option (List Nat->PR U)}(h:oG br)(rest:List Nat):mN rest (SI br rest):=by
 unfold SI;cases br with
 |none=>erw[bE _]
 |some p=>exact(gW _ _).bind λa r _=>(h p rfl r).QR.bind λt r2 _=>(gW _ _).QR.bind λ_ r3 _=>bE _
theorem mN.map{α β:Type}{rest:List Nat}{p:PR α}{f:α->β}(h:mN rest p):mN rest (mapR f p):=by
 cases p with
 |ok v=>erw[h]
 |error r=>erw[h]
theorem vT{br:Option (List Nat->PR U)}(h:oG br)(rest:List Nat):mN rest (r9 br rest):=by
 unfold r9;split
 .erw[QY h rest]
 .split
  .exact(M0 rest).map
  .split
   .exact(gW _ _).bind λ_ r _=>bE _
   .exact(lz _ _).map
theorem n6(h:oG br)(rest:List Nat):mN rest (jz br rest):=(vT h rest).bind λt r _=>Bp t r
theorem n8(h:∀rest,mN rest (p rest)):∀(n:Nat)(acc:List U)(rest:List Nat),Suf rest (du stop p n acc rest)
 |0,_,rest=>bE _
 |n+1,acc,rest=>by
  unfold du;split
  .erw[bE _]
  .exact(h rest).QR.bind λa r _=>n8 h n _ r
theorem zA(h:oG br)(rest:List Nat):mN rest (wX br rest):=(n6 h rest).bind λt r _=>(n8 (n6 h) _ _ _).bind λts r2 _=>bE _
theorem Ju(h:oG br)(rest:List Nat):mN rest (QW br rest):=(gW _ _).bind λ_ r _=>(zA h r).QR
theorem vU(h:oG br)(rest:List Nat):mN rest (iw br rest):=(zA h rest).bind λt r _=>(n8 (Ju h) _ _ _).bind λts r2 _=>bE _
theorem tj:∀k,oG (tY k)
 |0=>λp e=>nomatch e
 |k+1=>λp e rest=>by injection e with e;subst e;erw[vU (tj k) rest]
theorem eh.Ob{α:Type}{toU:α->U}{p:PR α}{f:α->List Nat->PR U}{r d d':Nat}{x rest:List Nat}{S S1:bF}{Q Q1:KU}{E:KX}(h:eh r x d S Q E (bindR p f))(st:lU r (mM x rest d') S S1)
  (k:∀a r1 S2,p=.ok (a,r1)->lU r (mM x r1 d') S S2->eh r x d S Q E (f a r1)->Q1 (toU a) S2):eh r x d' S1 Q1 E (mapR toU p):=by
 cases p with
 |error r'=>erw[h]
 |ok v=>
  let#[a,r1]:=v;erw[λS' c=>k a r1 S' rfl (st.trans c) h]
theorem eh.Eu{p:PR U}{f:U->List Nat->PR U}{r d d':Nat}{x rest:List Nat}{S S1:bF}{Q Q1:KU}{E:KX}(h:eh r x d S Q E (bindR p f))(st:lU r (mM x rest d') S S1)
  (k:∀a r1 S2,p=.ok (a,r1)->lU r (mM x r1 d') S S2->eh r x d S Q E (f a r1)->Q1 a S2):eh r x d' S1 Q1 E p:=by
 have:=eh.Ob (toU:=id) (Q1:=Q1) h st k;rw[MY] at this;erw[this]
theorem Ew{x t:List Nat}{z:U}{v:Nat}{d':Nat}(h:z=.int (d':Nat)):SO.ins "Reader" (fS "depth" z [("text",.str x),("at",.int (x.length-t.length:Nat)),("depth",.int v)])=mM x t d':=by subst h;rfl
def Vc(br:Option (List Nat->PR U))(d:Nat):Spec:=λus S Q E=>∃r x rest,us=[.loc r]/\S[r]?=some (mM x rest d)/\rest<:+x/\x.length<=1000/\cF [40] rest=true/\eh r x d S Q E (SI br rest)
def Vd(Γ:cf)(br:Option (List Nat->PR U))(d:Nat):Prop:=
 (br=none/\d=6)\/∃p,br=some p/\d<6/\oG br/\Γ "Reader.choice"=Ac [] p (d+1)
theorem Ve(Γ:cf)(G:GR Γ)(br:Option (List Nat->PR U))(d:Nat)(hb:Vd Γ br d):Keeps Γ hX 1 (Vc br d):=by
 rintro us S Q E ⟨r,x,rest,rfl,hS,hx,hl,hs,q⟩;unfold hX;walk_at "pf";dsimp[<-fO,Jk hS];walk_at "pf";rcases hb with⟨rfl,rfl⟩|⟨p,rfl,hd,hbo,hch⟩
 .have e:((((6:Nat):Int))== 6)=true:=⋯
  dsimp[e,if_true];erw[q.elim]
 .have e:(((d:Nat):Int)== 6)=false:=by dsimp[beq_eq_false_iff_ne];omega
  dsimp[e,ao,if_false];walk_at "pf";dsimp[cb hS,true_and];refine#[rfl,ca G.pass #[[40],d,r,x,rest,rfl,hS,hx,hl,?_]];unfold SI at q;rwa[q.bind (lU.refl hS) λa r1 S1 e1 c1 q1=>?_]
  have hs1:=gW [40] rest;rw[e1] at hs1;have hx1:=hs1.1.trans hx;have g1:=c1.2.1;walk_at "pf";dsimp[cb g1];try walk_at "pf"
  dsimp[cb g1,Ew (v:=d) (d':=d+1) (t:=r1) (x:=x) (z:=.int ((d:Nat)+1)) rfl];refine#[by first|trivial|rfl,by simp,?_];have c2:lU r (mM x r1 (d+1)) S (S1.set r (mM x r1 (d+1))):=c1.trans (lU.set g1);have g2:=c2.2.1;generalize S1.set r (mM x r1 (d+1))=S2 at c2 g2;walk_at "pf";dsimp[cb g2,true_and];refine#[rfl,ca hch #[r,x,r1,rfl,g2,hx1,hl,?_]];refine q1.Eu c2 λt r2 S3 e3 c3 q3=>?_
  have hs3:=hbo p rfl r1;rw[e3] at hs3;have hx3:=hs3.1.trans hx1;have g3:=c3.2.1;try walk_at "pf"
  dsimp[cb g3,true_and];refine#[rfl,ca G.pass #[[41],d+1,r,x,r2,rfl,g3,hx3,hl,?_]];rwa[q3.Ob c3 λa r3 S4 e4 c4 q4=>?_]
  have g4:=c4.2.1;walk_at "pf";dsimp[cb g4];try walk_at "pf"
  dsimp[cb g4,Ew (v:=d+1) (d':=d) (t:=r3) (x:=x) (z:=.int (((d+1:Nat):Int)-1)) (by congr 1;omega)];refine#[by first|trivial|rfl,by simp,?_];walk_at "pf";exact q4 _ (c4.trans (lU.set g4))
structure GA(Γ:cf)(br:Option (List Nat->PR U))(d:Nat):Prop extends GR3 Γ d where
 cl:Γ "Reader.sign_class"=Oa d
 bk:Γ "Reader.bracket"=Vc br d
theorem M5(Γ:cf)(br:Option (List Nat->PR U))(d:Nat)(G:GA Γ br d):Keeps Γ j8 0 (Ac [] (r9 br) d):=by
 rintro us S Q E ⟨r,x,rest,rfl,hS,hx,hl,q⟩;unfold j8;walk_at "pf";dsimp[cb hS];refine#[#[by first|trivial|rfl,rfl],ca G.sees #[r,x,rest,d,_,rfl,hS,hx,hl,?_]];try walk_at "pf"
 unfold r9 at q;by_cases e1:cF [40] rest=true
 .dsimp[e1,if_true] at q ⊢
  walk_at "pf";dsimp[cb hS,true_and];exact#[rfl,ca G.bk #[r,x,rest,rfl,hS,hx,hl,e1,q]]
 .have e1':cF [40] rest=false:=by simpa using e1
  dsimp[e1',ao,if_false] at q ⊢;walk_at "pf";dsimp[cb hS,true_and];refine#[rfl,ca G.sees #[r,x,rest,d,_,rfl,hS,hx,hl,?_]];try walk_at "pf"
  by_cases e2:cF [91] rest=true
  .dsimp[e2,if_true] at q ⊢
   walk_at "pf";dsimp[cb hS,true_and];refine#[rfl,ca G.cl #[r,x,rest,rfl,hS,hx,hl,?_]];rw[yd] at q;rwa[q.bind (toU:=U.str) (lU.refl hS) λa r1 S1 _ c1 q1=>?_]
   exact#[by simp,q1 S1 c1]
  .have e2':cF [91] rest=false:=by simpa using e2
   dsimp[e2',ao,if_false] at q ⊢;walk_at "pf";dsimp[cb hS,true_and];refine#[rfl,ca G.sees #[r,x,rest,d,_,rfl,hS,hx,hl,?_]];try walk_at "pf"
   by_cases e3:cF [46] rest=true
   .dsimp[e3,if_true] at q ⊢
    walk_at "pf";dsimp[cb hS,true_and];refine#[rfl,ca G.pass #[[46],d,r,x,rest,rfl,hS,hx,hl,?_]];rwa[q.bind (lU.refl hS) λa r1 S1 _ c1 q1=>?_]
    walk_at "pf";refine ca G.Dk #[[10],rfl,λS2 x2=>?_];try walk_at "pf"
    exact#[by simp,q1 S2 (c1.trans (x2.chg c1.2.1))]
   .have e3':cF [46] rest=false:=by simpa using e3
    dsimp[e3',ao,if_false] at q ⊢;walk_at "pf";dsimp[cb hS,true_and];refine#[rfl,ca G.ws #[MO,r,x,rest,rfl,hS,hx,hl,?_]];rw[yd] at q;rwa[q.bind (lU.refl hS) λa r1 S1 _ c1 q1=>?_]
    unfold oF;exact#[by simp,q1 S1 c1]
def REP:List (List Nat×List Nat):=[([42],lM),([43],pd),([63],kL)]
theorem Jv(h:[42,43,63].contains c=true):REP.lookup [c]=some (if c=42 then lM else if c=43 then pd else kL):=by
 have:c=42\/c=43\/c=63:=by simpa using h
 rcases this with rfl|rfl|rfl<;>rfl
structure GP(Γ:cf)(br:Option (List Nat->PR U))(d:Nat):Prop extends GA Γ br d where
 at_:Γ "Reader.atom"=Ac [] (r9 br) d
theorem yf{Γ:cf}{r d:Nat}{x:List Nat}{S:bF}{fin:Env->bF->Prop}{e0:Option U}(hl:x.length<=1000)
  (cW:Env->bF->(Bool->bF->Prop)->Prop) (bW:Env->bF->(Env->bF->Prop)->Prop)
  (hc:∀t S1 rest k,S1[r]?=some (mM x rest d)->rest<:+x->k (cF [42,43,63] rest) S1->cW [e0,some t] S1 k)
  (hb:∀t S1 c rest k,S1[r]?=some (mM x (c::rest) d)->(c::rest)<:+x->[42,43,63].contains c=true->(∀S2,lU r (mM x rest d) S1 S2->k [e0,some (Js c t)] S2)->bW [e0,some t] S1 k):
  ∀(rest:List Nat)(t:U)(S1:bF),rest<:+x->lU r (mM x rest d) S S1->(∀S2,lU r (mM x (mB t rest).2 d) S S2->fin [e0,some (mB t rest).1] S2)->zc cW bW fin (rest.length+1) [e0,some t] S1
 |[],t,S1,hx,c1,hf=>by
  rwa[hc t S1 [] _ c1.2.1 hx ?_];dsimp[cF,ao,if_false];erw[hf S1 c1]
 |c::rest,t,S1,hx,c1,hf=>by
  rwa[hc t S1 _ _ c1.2.1 hx ?_];by_cases e:[42,43,63].contains c=true
  .dsimp[cF,e,if_true]
   rwa[hb t S1 c rest _ c1.2.1 hx e λS2 c2=>?_]
   refine yf (Γ:=Γ) hl cW bW hc hb rest _ S2 (zy hx) (c1.trans c2) ?_;have:mB t (c::rest)=mB (Js c t) rest:=by
    conv=>lhs;unfold mB
    rw[if_pos e]
   rw[this] at hf;erw[hf]
  .have e':[42,43,63].contains c=false:=by simpa using e
   dsimp[cF,e',ao,if_false];have:mB t (c::rest)=(t,c::rest):=by
    unfold mB;rw[if_neg e]
   rw[this] at hf;erw[hf S1 c1]
theorem F4(Γ:cf)(br:Option (List Nat->PR U))(d:Nat)(hbo:oG br)(G:GP Γ br d):Keeps Γ iT 1 (Ac [] (jz br) d):=by
 rintro us S Q E ⟨r,x,rest,rfl,hS,hx,hl,q⟩;unfold iT;walk_at "pl";dsimp[cb hS,G.at_];refine#[#[by first|trivial|rfl,rfl],r,x,rest,rfl,hS,hx,hl,?_];unfold jz at q;refine q.Eu (lU.refl hS) λt r1 S1 e1 c1 q1=>?_
 have hs1:=vT hbo rest;rw[e1] at hs1;have hx1:=hs1.1.trans hx;refine#[r1.length+1,yf (Γ:=Γ) (S:=S) hl _ _ ?_ ?_ r1 t S1 hx1 c1 ?_]
 .intro t2 S2 rest2 k g2 hx2 hk
  try walk_at "pl"
  dsimp[cb g2,G.sees,true_and];refine#[rfl,r,x,rest2,d,_,rfl,g2,hx2,hl,?_];try walk_at "pl"
  erw[hk]
 .intro t2 S2 c rest2 k g2 hx2 hc hk
  try walk_at "pl"
  dsimp[cb g2,G.pass,true_and];refine#[rfl,[42,43,63],d,r,x,_,rfl,g2,hx2,hl,?_];have e2:d8 [42,43,63] (c::rest2)= .ok (c,rest2):=by unfold d8;dsimp only;rw[if_pos hc]
  show eh r x d S2 _ E (mapR oF (d8 [42,43,63] (c::rest2)))
  rw[e2]
  intro S3 c3;unfold oF;rw[yY]
  have:=Jv hc;unfold REP at this;rw[this,bp]
  exact#[by simp,hk S3 c3]
 .intro S2 c2
  try walk_at "pl"
  erw[q1 S2 c2]
theorem tm(hp:∀rest,mN rest (p rest))
  (cW:Env->bF->(Bool->bF->Prop)->Prop) (bW:Env->bF->(Env->bF->Prop)->Prop) (h0:S.length<=n0) (h1:n0≠r)
  (hc:∀S1 rest k,S1[r]?=some (mM x rest d)->rest<:+x->k (!stop rest) S1->cW env S1 k)
  (hb:∀S1 rest acc k,S1[r]?=some (mM x rest d)->S1[n0]?=some (.lst acc)->acc.length<=2000->rest<:+x->stop rest=false->eh r x d S1 (λt S2=>k env (S2.set n0 (.lst (acc++[t])))) E (p rest)->bW env S1 k):
  ∀(m:Nat)(acc:List U)(rest:List Nat)(S1:bF),rest.length<m->acc.length+rest.length<=2000->rest<:+x->lU r (mM x rest d) S S1->S1[n0]?=some (.lst acc) ->
   (∀ts r2 S2,du stop p m acc rest=.ok (ts,r2)->lU r (mM x r2 d) S S2->r2<:+x->S2[n0]?=some (.lst ts)->ts.length<=2000->acc.length<=ts.length->fin env S2)->(∀r',du stop p m acc rest=.error r'->False) ->
   zc cW bW fin m env S1
 |0,_,_,_,h,_,_,_,_,_,_=>∅
 |m+1,acc,rest,S1,h,ht,hx,c1,hn,hf,he=>by
  rwa[hc S1 rest _ c1.2.1 hx ?_];by_cases e:stop rest=true
  .dsimp[e,bC,ao,if_false]
   erw[hf acc rest S1 (by unfold du;rw[if_pos e]) c1 hx hn ∅ (ak _)]
  .have e':stop rest=false:=by simpa using e
   dsimp[e',bL,if_true];rwa[hb S1 rest acc _ c1.2.1 hn ∅ hx e' ?_];have hs:=hp rest;cases q:p rest with
   |error r'=>
    erw[he r' (by unfold du;rw[if_neg e,q];rfl)]
   |ok v=>
    let#[t,r1]:=v;rw[q] at hs;intro S2 c2;have hE:du stop p (m+1) acc rest=du stop p m (acc++[t]) r1:=by
     conv=>lhs;unfold du
     rw[if_neg e,q];rfl
    have hn2:S2[n0]?=some (.lst acc):=(c2.2.2 n0 (aW hn) h1).trans hn;have c3:lU r (mM x r1 d) S (S2.set n0 (.lst (acc++[t]))):=by
     have c12:=c1.trans c2;refine#[by simpa using c12.1,by rw[ai h1];erw[c12.2.1],λm hm ne=>?_];rw[ai ∅]
     erw[c12.2.2 m hm ne]
    refine tm hp cW bW h0 h1 hc hb m (acc++[t]) r1 _ (by have:=hs.2;omega) (by simp;have:=hs.2;omega) (hs.1.trans hx) c3 (gs hn2) (λts r2 S3 e3 c4 h3 h4 h5 h6=>hf ts r2 S3 (by rw[hE];erw[e3]) c4 h3 h4 h5 (by simp at h6;omega)) (λr' e3=>he r' (by rw[hE];erw[e3]))
structure GW(Γ:cf)(br:Option (List Nat->PR U))(d:Nat):Prop extends GP Γ br d where
 rp:Γ "Reader.repeat"=Ac [] (jz br) d
 jn:Γ "joined"=lL
theorem Jw{x rest:List Nat}(h:rest<:+x):decide (((x.length-rest.length:Nat):Int)<x.length)= !rest.isEmpty:=by
 have:=N9 h;cases rest with
 |nil=>simp at this ⊢
 |cons a b=>dsimp[ne_eq,reduceCtorEq,not_false_eq_true,iff_true] at this;rw[decide_eq_true this];rfl
theorem QZ(Γ:cf)(br:Option (List Nat->PR U))(d:Nat)(hbo:oG br)(G:GW Γ br d):Keeps Γ kW 1 (Ac [] (wX br) d):=by
 rintro us S Q E ⟨r,x,rest,rfl,hS,hx,hl,q⟩;unfold kW;walk_at "pl";dsimp[cb hS,G.rp];refine#[#[by first|trivial|rfl,rfl],r,x,rest,rfl,hS,hx,hl,?_];unfold wX at q;refine q.Eu (lU.refl hS) λt r1 S1 e1 c1 q1=>?_
 have hs1:=n6 hbo rest;rw[e1] at hs1;have hx1:=hs1.1.trans hx;have hr1:r1.length<=1000:=aJ hx1.length_le hl;refine#[by simp,?_];have hrl:=aW hS;have c2:lU r (mM x r1 d) S (S1++[.lst [t]]):=c1.trans ((Ext.app _).chg c1.2.1);have hn:(S1++[SO.lst [t]])[S1.length]?=some (.lst [t]):=by simp
 have hne:S1.length≠r:=by have:=c1.1;omega
 refine#[r1.length+1,tm (S:=S) (E:=E) (n0:=S1.length) (stop:=jA) (p:=jz br) (n6 hbo) _ _ c1.1 hne ?_ ?_ (r1.length+1) [t] r1 _ ∅ (by simp;omega) hx1 c2 hn ?_ ?_]
 .intro S2 rest2 k g2 hx2 hk
  try walk_at "pl"
  dsimp[<-fO,zx g2,Bj g2];try walk_at "pl"
  refine#[∅,?_];dsimp[Jw hx2];unfold jA at hk;cases rest2 with
  |nil=>simpa using hk
  |cons c t2=>
   dsimp[Hf,bL,if_true];dsimp[cb g2,G.sees,true_and];refine#[rfl,r,x,_,d,_,rfl,g2,hx2,hl,?_];try walk_at "pl"
   simpa using hk
 .intro S2 rest2 acc k g2 hn2 ha hx2 hst hk
  try walk_at "pl"
  dsimp[hn2,cb g2,G.rp,true_and];try walk_at "pl"
  refine#[rfl,r,x,rest2,rfl,g2,hx2,hl,?_];cases z:jz br rest2 with
  |error r'=>rw[z] at hk;erw[hk]
  |ok v=>
   rw[z] at hk;intro S3 c3;have hn3:S3[S1.length]?=some (.lst acc):=(c3.2.2 _ (aW hn2) hne).trans hn2;dsimp[hn3];try walk_at "pl"
   exact#[∅,hk S3 c3]
 .intro ts r2 S2 e2 c3 hx2 hn2 hts ht1
  rw[e2] at q1;try walk_at "pl"
  dsimp[G.jn];refine#[Dl,S1.length,ts,rfl,hn2,?_,∅,q1 S2 c3];intro z;rw[z] at ht1;simp at ht1
 .intro r' e2
  rw[e2] at q1;erw[q1]
structure GC(Γ:cf)(br:Option (List Nat->PR U))(d:Nat):Prop extends GW Γ br d where
 rw_:Γ "Reader.row"=Ac [] (wX br) d
theorem F5(Γ:cf)(br:Option (List Nat->PR U))(d:Nat)(hbo:oG br)(G:GC Γ br d):Keeps Γ iS 1 (Ac [] (iw br) d):=by
 rintro us S Q E ⟨r,x,rest,rfl,hS,hx,hl,q⟩;unfold iS;walk_at "pl";dsimp[cb hS,G.rw_];refine#[#[by first|trivial|rfl,rfl],r,x,rest,rfl,hS,hx,hl,?_];unfold iw at q;refine q.Eu (lU.refl hS) λt r1 S1 e1 c1 q1=>?_
 have hs1:=zA hbo rest;rw[e1] at hs1;have hx1:=hs1.1.trans hx;have hr1:r1.length<=1000:=aJ hx1.length_le hl;refine#[by simp,?_];have hrl:=aW hS;have c2:lU r (mM x r1 d) S (S1++[.lst [t]]):=c1.trans ((Ext.app _).chg c1.2.1);have hn:(S1++[SO.lst [t]])[S1.length]?=some (.lst [t]):=by simp
 have hne:S1.length≠r:=by have:=c1.1;omega
 refine#[r1.length+1,tm (S:=S) (E:=E) (n0:=S1.length) (stop:=stopOr) (p:=QW br) (Ju hbo) _ _ c1.1 hne ?_ ?_ (r1.length+1) [t] r1 _ ∅ (by simp;omega) hx1 c2 hn ?_ ?_]
 .intro S2 rest2 k g2 hx2 hk
  try walk_at "pl"
  dsimp[cb g2,G.sees,true_and];refine#[rfl,r,x,_,d,_,rfl,g2,hx2,hl,?_];try walk_at "pl"
  simpa[stopOr] using hk
 .intro S2 rest2 acc k g2 hn2 ha hx2 hst hk
  try walk_at "pl"
  dsimp[cb g2,G.pass,true_and];refine#[rfl,[124],d,r,x,rest2,rfl,g2,hx2,hl,?_];unfold QW at hk;rwa[eh.bind (f:=λ_ r=>wX br r) hk (lU.refl g2) λa r3 S3 e3 c3 q3=>?_]
  have hs3:=gW [124] rest2;rw[e3] at hs3;have hx3:=hs3.1.trans hx2;have g3:=c3.2.1;have hn3:S3[S1.length]?=some (.lst acc):=(c3.2.2 _ (aW hn2) hne).trans hn2;dsimp[hn3,cb g3,G.rw_,true_and];try walk_at "pl"
  refine#[rfl,r,x,r3,rfl,g3,hx3,hl,?_];cases z:wX br r3 with
  |error r'=>rw[z] at q3;erw[q3]
  |ok v=>
   rw[z] at q3;intro S4 c4;have hn4:S4[S1.length]?=some (.lst acc):=(c4.2.2 _ (aW hn3) hne).trans hn3;dsimp[hn4];try walk_at "pl"
   exact#[∅,q3 S4 (c3.trans c4)]
 .intro ts r2 S2 e2 c3 hx2 hn2 hts ht1
  rw[e2] at q1;try walk_at "pl"
  dsimp[G.jn];refine#[SH,S1.length,ts,rfl,hn2,?_,∅,q1 S2 c3];intro z;rw[z] at ht1;simp at ht1
 .intro r' e2
  rw[e2] at q1;erw[q1]
def n9:Spec:=λus S Q _=>∃r x,us=[.loc r,.str x]/\S[r]?=some (.ins "Reader" [])/\Q .bQ (S.set r (mM x x 0))
theorem Jx(Γ:cf):Keeps Γ j6 0 n9:=by
 rintro us S Q E ⟨r,x,rfl,hS,q⟩;unfold j6;walk_at "pl";have hr:=aW hS;dsimp[hS,bx,fS];refine#[by simp,?_];have g1:=gs (o':=SO.ins "Reader" [("text",U.str x)]) hS;generalize hS1:S.set r (SO.ins "Reader" [("text",U.str x)])=S1 at g1;dsimp[g1,bx];refine#[by simp,?_];have g2:=gs (o':=SO.ins "Reader" (fS "at" (U.int 0) [("text",U.str x)])) g1;generalize hS2:S1.set r (SO.ins "Reader" (fS "at" (U.int 0) [("text",U.str x)]))=S2 at g2;dsimp[g2,bx];refine#[by simp[fS],?_];subst hS2;subst hS1;rw[tL,tL]
 have e:SO.ins "Reader" (fS "depth" (.int 0) (fS "at" (.int 0) [("text",.str x)]))=mM x x 0:=by
  unfold mM;rw[b8]
  rfl
 simpa[<-e] using q
def Dm:Spec:=λus S Q E=>∃x,us=[.str x]/\x.length<=1000/\match tZ x with
 |.ok (t,_)=>∀S',Ext S S'->Q t S'
 |.error r=>False
theorem M6(Γ:cf)(h1:Γ "Reader.__init__"=n9)(h2:Γ "Reader.choice"=Ac [] (iw (tY 6)) 0):Keeps Γ zf 2 Dm:=by
 rintro us S Q E ⟨x,rfl,hl,q⟩;unfold zf;walk_at "pl";dsimp[h1,h2];have hn:(S++[SO.ins "Reader" []])[S.length]?=some (.ins "Reader" []):=by simp
 refine#[S.length,x,rfl,hn,rfl,?_];try walk_at "pl"
 have g1:=gs (o':=mM x x 0) hn;have x1:Old S.length S ((S++[SO.ins "Reader" []]).set S.length (mM x x 0)):=by
  refine#[by simp,λn h ne=>?_];rw[ai (cC ne),ag h]
 generalize (S++[SO.ins "Reader" []]).set S.length (mM x x 0)=S1 at g1 x1;dsimp[cb g1,true_and];have toE:∀{S'},Old S.length S S'->Ext S S':=λo=>#[o.1,λn h=>o.2 n h ∅]
 refine#[rfl,S.length,x,x,rfl,g1,bE _,hl,?_];unfold tZ at q;cases z:iw (tY 6) x with
 |error r'=>
  rw[z] at q;erw[q]
 |ok v=>
  let#[t,r1]:=v;have hs:=vU (tj 6) x;rw[z] at q hs;intro S2 c2;have g2:=c2.2.1;dsimp[<-fO,Bj g2];try walk_at "pl"
  refine#[∅,?_];dsimp[Jw hs.1];dsimp[bindR] at q;cases r1 with
  |nil=>
   dsimp[List.isEmpty_nil,bC,ao,if_false];try walk_at "pl"
   simp at q;erw[q S2 (toE (x1.trans c2.old))]
  |cons c t2=>
   dsimp[Hf,bL,if_true];dsimp[reduceCtorEq,if_false] at q
section
variable{d f c:Nat}{r rest:List Nat}
def hd(rest:List Nat)(l:List Nat):Prop:=cF l rest=true
end
section
variable{α:Type}
theorem M7(h0:0<=i)(h1:i<l.length):∃a,qp l i=some a/\a∈l:=by
 obtain⟨n,rfl⟩:∃n:Nat,i=n:=#[i.toNat,∅]
 have h2:n<l.length:=∅
 exact#[l[n],by rw[ju,aa h2],bT h2]
theorem qM(h0:0<=i)(h1:i<l.length)(h:∀a∈l,r a):opt (qp l i) r:=by
 let#[a,e,m]:=M7 h0 h1;rw[e];erw[h a m]
end
namespace tW
noncomputable def Dn:Spec:=λus S Q _=>∃ns k,us=[.sF ns,.int k]/\ns.length<=1000/\∀m,Q (.int m) S
theorem M8(Γ:cf):Keeps Γ mj 0 Dn:=by
 rintro us S Q E ⟨ns,k,rfl,hl,q⟩;unfold mj;walk_at "pl";by_cases h:ns.length=0
 .dsimp[h,bne_self_eq_false,ao,if_false]
  try walk_at "pl"
  erw[q 0]
 .have h':(ns.length !=0)=true:=by simpa using h
  dsimp[h',if_true];try walk_at "pl"
  refine#[∅,∅,∅,?_];erw[qM (jh _ ∅) (gy _ ∅) (λa _=>q a)]
noncomputable def t4:Spec:=λus S Q _=>∃ns k,us=[.sF ns,.int k]/\ns.length<=1000/\∀m:Int,0<=m->m<4294967231->Q (.int m) S
theorem Q0(Γ:cf)(h1:Γ "_law_cell"=Dn):Keeps Γ nO 1 t4:=by
 rintro us S Q E ⟨ns,k,rfl,hl,q⟩;unfold nO;walk_at "pl";dsimp[h1];refine#[ns,k,rfl,hl,λc=>?_];walk_at "pl";refine#[∅,∅,∅,∅,∅,∅,∅,?_];erw[q _ ∅ ∅]
def Jy:Spec:=λus S Q _=>us=[]/\∀G,G=SG->Q (.str G) S
theorem Q2(Γ:cf):Keeps Γ nP 1 Jy:=by
 rintro us S Q E ⟨rfl,q⟩;unfold nP;walk_at "pl";exact#[⋯,q _ rfl]
end tW
namespace tW
end tW
theorem oa{cW:Env->bF->(Bool->bF->Prop)->Prop}{bW:Env->bF->(Env->bF->Prop)->Prop}{fin:Env->bF->Prop}(I:Nat->Env->bF->Prop)
  (h:∀n env S k,I n env S->(∀m env' S',m<n->I m env' S'->k env' S')->cW env S (λt S1=>if t=true then bW env S1 k else fin env S1)):
  ∀N n env S,n<N->I n env S->zc cW bW fin N env S
 |0,_,_,_,hn,_=>∅
 |N+1,n,env,S,hn,hi=>h n env S _ hi λm env' S' hm hi'=>oa I h N m env' S' ∅ hi'
theorem Ey(I:Nat->Env->bF->Prop)(hg:∀i env S,I i env S->g S)(l:List U)
  (h:∀i u env S k,l[i]?=some u->I i env S->(∀env' S',I (i+1) env' S'->k env' S')->turn u env S k) (hf:∀env S,I l.length env S->fin env S):
  ∀n i env S,i+n=l.length->I i env S->vA g turn fin (l.drop i) env S
 |0,i,env,S,e,hi=>by
  rw[jJ ∅]
  have:i=l.length:=∅
  subst this;exact#[hg _ _ _ hi,hf _ _ hi]
 |n+1,i,env,S,e,hi=>by
  have hlt:i<l.length:=∅
  rw[iM hlt]
  exact#[hg _ _ _ hi,h i _ env S _ (aa hlt) hi λenv' S' hi'=>Ey I hg l h hf n (i+1) env' S' ∅ hi']
theorem dS{g:bF->Prop}{turn:U->Env->bF->(Env->bF->Prop)->Prop}{fin:Env->bF->Prop}(I:Nat->Env->bF->Prop)(hg:∀i env S,I i env S->g S)(l:List U)
  (h:∀i u env S k,l[i]?=some u->I i env S->(∀env' S',I (i+1) env' S'->k env' S')->turn u env S k) (hf:∀env S,I l.length env S->fin env S)
  {env:Env}{S:bF} (hi:I 0 env S):vA g turn fin l env S:=Ey I hg l h hf l.length 0 env S ∅ hi
theorem lN{n i:Nat}{u:U}(h:((bO n).map λk=>U.int (k:Nat))[i]?=some u):u=.int i/\i<n:=by
 rw[aw] at h;have hl:i<n:=by
  rcases uc i n with z|z
  .erw[z]
  .rw[cH (by simpa using z)] at h;simp at h
 rw[iQ hl] at h;simp at h;exact#[h.symm,hl]
namespace tW
end tW
def vV(br:Option (List Nat->PR U))(x:List Nat)(t:U):Prop:=∀rest,r9 br (x++rest)= .ok (t,rest)
def M9(t:U)(ms:List Nat):U:=ms.foldl (λt c=>Js c t) t
def vW(br:Option (List Nat->PR U))(x:List Nat)(t:U):Prop:=∃a ta ms,x=a++ms/\vV br a ta/\(∀c∈ms,c∈[42,43,63])/\t=M9 ta ms
theorem Ez:∀(ms:List Nat)(t:U)(rest:List Nat),(∀c∈ms,c∈[42,43,63])->cF [42,43,63] rest=false->mB t (ms++rest)=(M9 t ms,rest)
 |[],t,rest,_,h=>by
  cases rest with
  |nil=>rfl
  |cons c r=>
   have h:[42,43,63].contains c=false:=h;rw[lj,mB,h]
   rfl
 |m::ms,t,rest,hm,h=>by
  have e:[42,43,63].contains m=true:=gJ.mpr (hm m (aT ..));rw[oj,mB,if_pos e,Ez ms _ rest (λc hc=>hm c (aA _ hc)) h]
  rfl
theorem Jz(h:vW br x t)(hr:cF [42,43,63] rest=false):jz br (x++rest)= .ok (t,rest):=by
 let#[a,ta,ms,rfl,ha,hm,rfl]:=h;unfold jz;rw[bJ,ha (ms++rest)]
 dsimp[bindR];rw[Ez ms ta rest hm hr]
theorem F6(hb:oG br)(h:vV br x t):∃c r,x=c::r/\c∉[42,43,63,124,41]:=by
 have h0:=h [];have hs:=vT hb (x++[]);rw[h0] at hs;cases x with
 |nil=>have:=hs.2;simp at this
 |cons c r=>
  refine#[c,r,rfl,λhc=>?_];have e1:cF [40] (c::r++[])=false:=(by decide:∀c∈[42,43,63,124,41],[40].contains c=false) c hc;have e2:cF [91] (c::r++[])=false:=(by decide:∀c∈[42,43,63,124,41],[91].contains c=false) c hc;have e3:cF [46] (c::r++[])=false:=(by decide:∀c∈[42,43,63,124,41],[46].contains c=false) c hc;have e4:cF [92] (c::r++[])=false:=(by decide:∀c∈[42,43,63,124,41],[92].contains c=false) c hc;unfold r9 at h0;rw[e1,e2,e3] at h0;dsimp[ao,if_false] at h0;rw[Bm e4] at h0;have e5:d8 (d7 MO) (c::r++[])= .error (c::r++[]):=by
   have hn:(d7 MO).contains c=false:=by
    have:c∈MO:=(by decide:∀c∈[42,43,63,124,41],c∈MO) c hc;unfold d7;dsimp[List.contains_eq_mem,decide_eq_false_iff_not];intro q;have:=(dX.mp q).2
    simp_all
   show(if (d7 MO).contains c=true then _ else _)=_
   rw[if_neg (by rw[hn];simp)]
   rfl
  rw[e5] at h0;cases h0
theorem Bq(hb:oG br)(h:vW br x t):∃c r,x=c::r/\c∉[42,43,63,124,41]:=by
 let#[a,ta,ms,rfl,ha,hm,rfl]:=h;let#[c,r,rfl,hc]:=F6 hb ha;exact#[c,r++ms,rfl,hc]
inductive sd(br:Option (List Nat->PR U)):List Nat->List U->Prop
 |nil:sd br [] []
 |cons{x y:List Nat}{t:U}{ts:List U}:vW br x t->sd br y ts->sd br (x++y) (t::ts)
theorem t6(hb:oG br)(h:sd br y ts)(hr:jA rest=true):cF [42,43,63] (y++rest)=false:=by
 cases h with
 |nil=>
  cases rest with
  |nil=>rfl
  |cons c r=>
   have:[124,41].contains c=true:=by simpa[jA,cF] using hr
   show [42,43,63].contains c=false
   simp at this ⊢;omega
 |cons a b=>
  let#[c,r,rfl,hc]:=Bq hb a;show [42,43,63].contains c=false;simp at hc ⊢;omega
theorem yg(hb:oG br)(hr:jA rest=true):∀{y:List Nat}{ts:List U},sd br y ts->∀(n:Nat)(acc:List U),y.length<n->du jA (jz br) n acc (y++rest)= .ok (acc++ts,rest)
 |_,_,.nil,n,acc,hn=>by
  cases n with
  |zero=>omega
  |succ n=>rw[du,lj,if_pos hr,bU]
 |_,_,.cons (x:=x) (y:=y) (t:=t) (ts:=ts) a b,n,acc,hn=>by
  let#[c,r,rfl,hc]:=Bq hb a;cases n with
  |zero=>omega
  |succ n=>
   have hs:jA (c::r++y++rest)=false:=by
    unfold jA;have:[124,41].contains c=false:=by simp at hc ⊢;omega
    show(false||[124,41].contains c)=false
    rw[this];rfl
   rw[du,if_neg (by rw[hs];simp),bJ,Jz a (t6 hb b hr)]
   dsimp[bindR];rw[yg hb hr b n (acc++[t]) (by simp at hn;omega),bJ]
   rfl
def vX(br:Option (List Nat->PR U))(x:List Nat)(t:U):Prop:=∃ts,ts≠[]/\sd br x ts/\t=pS Dl ts
theorem JA(hb:oG br)(h:vX br x t)(hr:jA rest=true):wX br (x++rest)= .ok (t,rest):=by
 let#[ts,hn,h,rfl]:=h;cases h with
 |nil=>erw[absurd rfl hn]
 |@cons x y t ts a b=>
  unfold wX;rw[bJ,Jz a (t6 hb b hr)]
  dsimp[bindR];rw[yg hb hr b _ [t] (by simp;omega)]
  rfl
inductive vY(br:Option (List Nat->PR U)):List Nat->List U->Prop
 |nil:vY br [] []
 |cons{x y:List Nat}{t:U}{ts:List U}:vX br x t->vY br y ts->vY br (124::x++y) (t::ts)
def F7(br:Option (List Nat->PR U))(x:List Nat)(t:U):Prop:=∃a b t0 ts,x=a++b/\vX br a t0/\vY br b ts/\t=pS SH (t0::ts)
def JB(rest:List Nat):Prop:=rest=[]\/∃r,rest=41::r
theorem yh(h:vY br y ts)(hr:JB rest):jA (y++rest)=true:=by
 cases h with
 |nil=>rcases hr with rfl|⟨r,rfl⟩<;>rfl
 |cons a b=>rfl
theorem yi(hb:oG br)(hr:JB rest):∀{y:List Nat}{ts:List U},vY br y ts->∀(n:Nat)(acc:List U),y.length<n->du stopOr (QW br) n acc (y++rest)= .ok (acc++ts,rest)
 |_,_,.nil,n,acc,hn=>by
  have e:stopOr rest=true:=by rcases hr with rfl|⟨r,rfl⟩<;>rfl
  cases n with
  |zero=>omega
  |succ n=>rw[du,lj,if_pos e,bU]
 |_,_,.cons (x:=x) (y:=y) (t:=t) (ts:=ts) a b,n,acc,hn=>by
  cases n with
  |zero=>omega
  |succ n=>
   have e:QW br (124::x++y++rest)= .ok (t,y++rest):=by
    unfold QW;have:d8 [124] (124::x++y++rest)= .ok (124,x++(y++rest)):=by
     rw[bJ];rfl
    rw[this]
    dsimp[bindR];erw[JA hb a (yh b hr)]
   rw[du,if_neg (by simp[stopOr,cF]),e]
   dsimp[bindR];rw[yi hb hr b n (acc++[t]) (by simp at hn;omega),bJ]
   rfl
theorem yj(hb:oG br)(h:F7 br x t)(hr:JB rest):iw br (x++rest)= .ok (t,rest):=by
 let#[a,b,t0,ts,rfl,ha,hb',rfl]:=h;unfold iw;rw[bJ,JA hb ha (yh hb' hr)]
 dsimp[bindR];rw[yi hb hr hb' _ [t0] (by simp;omega)]
 rfl
theorem EA(h:F7 (tY k) x t):vV (tY (k+1)) (40::(x++[41])) t:=by
 intro rest;unfold r9;rw[if_pos (by rfl)]
 unfold SI tY;show bindR (d8 [40] (40::(x++[41]++rest))) _=_;have e1:d8 [40] (40::(x++[41]++rest))= .ok (40,x++(41::rest)):=by
  rw[bJ];rfl
 rw[e1]
 dsimp[bindR];rw[yj (tj k) h (.inr #[rest,rfl])]
 rfl
theorem Na(h:F7 (tY 6) x t):tZ x=.ok (t,[]):=by
 unfold tZ;have:=yj (tj 6) h (rest:=[]) (.inl rfl);rw[bU] at this;rw[this]
 rfl
end PL
namespace PL.lT
inductive Mk where|star|plus|may
inductive Tr where|one (n:Nat) (l:List Nat)|row (a b:Tr)|or (a b:Tr)|rep (m:Mk) (a:Tr)
noncomputable section
noncomputable def null:Tr->Bool
 |.one _ _=>false
 |.row a b=>null a&&null b
 |.or a b=>null a||null b
 |.rep .plus a=>null a
 |.rep _ _=>true
def dU(K:List Tr):Bool:=K.all null
def FS:Tr->Nat->Bool
 |.one n _,p=>p==n
 |.row a b,p=>FS a p||(null a&&FS b p)
 |.or a b,p=>FS a p||FS b p
 |.rep _ a,p=>FS a p
def ox:List Tr->Nat->Bool
 |[],_=>false
 |t::K,p=>FS t p||(null t&&ox K p)
noncomputable def IN:Tr->Nat->Bool
 |.one n _,p=>p==n
 |.row a b,p=>IN a p||IN b p
 |.or a b,p=>IN a p||IN b p
 |.rep _ a,p=>IN a p
def sgn:Tr->Nat->List Nat
 |.one _ l,_=>l
 |.row a b,p=>if IN a p then sgn a p else sgn b p
 |.or a b,p=>if IN a p then sgn a p else sgn b p
 |.rep _ a,p=>sgn a p
noncomputable def more:Mk->Tr->List Tr
 |.may,_=>[]
 |_,a=>[.rep .star a]
def cont:Tr->Nat->List Tr
 |.one _ _,_=>[]
 |.row a b,p=>if IN a p then cont a p++[b] else cont b p
 |.or a b,p=>if IN a p then cont a p else cont b p
 |.rep m a,p=>cont a p++more m a
def ct(t:Tr)(p:Nat):List Tr:=if p=0 then [t] else cont t p
def dF:Tr->Nat->List (List Tr)
 |.one _ l,c=>if l.contains c then [[]] else []
 |.or a b,c=>dF a c++dF b c
 |.row a b,c=>(dF a c).map (·++[b])++if null a then dF b c else []
 |.rep m a,c=>(dF a c).map (·++more m a)
def dR:List Tr->Nat->List (List Tr)
 |[],_=>[]
 |t::K,c=>(dF t c).map (·++K)++if null t then dR K c else []
noncomputable def size:Tr->Nat
 |.one _ _=>1
 |.row a b=>size a+size b
 |.or a b=>size a+size b
 |.rep _ a=>size a
noncomputable def cq:Tr->Nat
 |.one _ _=>0
 |.row a b=>max (cq a) (cq b)+1
 |.or a b=>max (cq a) (cq b)+1
 |.rep _ a=>cq a+1
def oy:Nat->Tr->Prop
 |n,.one k _=>k=n
 |n,.row a b=>oy n a/\oy (n+size a) b
 |n,.or a b=>oy n a/\oy (n+size a) b
 |n,.rep _ a=>oy n a
noncomputable def m8:Tr->List (List Nat)
 |.one _ l=>[l]
 |.row a b=>m8 a++m8 b
 |.or a b=>m8 a++m8 b
 |.rep _ a=>m8 a
end
theorem fg:∀t,(m8 t).length=size t
 |.one _ _=>rfl
 |.row a b=>by simp[m8,size,fg a,fg b]
 |.or a b=>by simp[m8,size,fg a,fg b]
 |.rep _ a=>by simp[m8,size,fg a]
theorem fY:∀{t n p},oy n t->(IN t p=true↔n<=p/\p<n+size t)
 |.one k l,n,p,h=>by
  have h:k=n:=h;subst h;dsimp[IN,size,beq_iff_eq];omega
 |.row a b,n,p,h=>by
  dsimp[IN,size,bg,fY h.1,fY h.2];omega
 |.or a b,n,p,h=>by
  dsimp[IN,size,bg,fY h.1,fY h.2];omega
 |.rep m a,n,p,h=>fY (t:=a) h
theorem qN:∀{t n p},oy n t->IN t p=true->(m8 t)[p-n]?=some (sgn t p)
 |.one k l,n,p,h,i=>by
  have h:k=n:=h;subst h;have:p=k:=by simpa[IN] using i
  simp[this,m8,sgn]
 |.row a b,n,p,h,i=>by
  have e1:=fY (p:=p) h.1;have e2:=fY (p:=p) h.2;have l1:=fg a;dsimp[m8,sgn];by_cases z:IN a p=true
  .rw[if_pos z,ag (by have:=e1.mp z;omega)];erw[qN h.1 z]
  .have z2:IN b p=true:=by simpa[IN,z] using i
   have:=e2.mp z2;rw[if_neg z,ax ∅,<-qN h.2 z2]
   congr 1;omega
 |.or a b,n,p,h,i=>by
  have e1:=fY (p:=p) h.1;have e2:=fY (p:=p) h.2;have l1:=fg a;dsimp[m8,sgn];by_cases z:IN a p=true
  .rw[if_pos z,ag (by have:=e1.mp z;omega)];erw[qN h.1 z]
  .have z2:IN b p=true:=by simpa[IN,z] using i
   have:=e2.mp z2;rw[if_neg z,ax ∅,<-qN h.2 z2]
   congr 1;omega
 |.rep m a,n,p,h,i=>qN (t:=a) h i
theorem gv(h:oy n a/\oy (n+size a) b)(i:IN b p=true):¬IN a p=true:=λz=>by
 have:=(fY h.1).mp z;have:=(fY h.2).mp i;omega
theorem jb:∀{t p},FS t p=true->IN t p=true
 |.one k l,p,h=>h
 |.row a b,p,h=>by
  dsimp[FS,bg,aj] at h;dsimp[IN,bg];erw[h.imp jb λz=>jb z.2]
 |.or a b,p,h=>by
  dsimp[FS,bg] at h;dsimp[IN,bg];erw[h.imp jb jb]
 |.rep m a,p,h=>jb (t:=a) h
theorem mC:∀{K L:List Tr}{p:Nat},ox (K++L) p=(ox K p||(dU K&&ox L p))
 |[],L,p=>by simp[ox,dU]
 |t::K,L,p=>by
  dsimp[oj,ox,mC,dU,bK];cases null t<;>cases FS t p<;>simp
theorem Dp:∀{K L:List Tr}{c:Nat},dR (K++L) c=(dR K c).map (·++L)++if dU K then dR L c else []
 |[],L,c=>by simp[dR,dU]
 |t::K,L,c=>by
  dsimp[oj,dR,Dp,dU,bK];by_cases z:null t=true<;>simp[z,dU,aD,dh]
theorem vZ:dU (K++L)=(dU K&&dU L):=by simp[dU]
theorem JC:ox (more m a) p=true->FS a p=true:=by
 cases m<;>simp[more,ox,FS]
theorem fh:∀{t q p},ox (cont t q) p=true->IN t p=true
 |.one k l,q,p,h=>by simp[cont,ox] at h
 |.row a b,q,p,h=>by
  dsimp[cont] at h;dsimp[IN,bg];split at h
  .rw[mC] at h
   dsimp[bg,aj] at h;rcases h with h|⟨_,h⟩
   .erw[.inl (fh h)]
   .exact .inr (jb (by simpa[ox] using h))
  .erw[.inr (fh h)]
 |.or a b,q,p,h=>by
  dsimp[cont] at h;dsimp[IN,bg];split at h
  .erw[.inl (fh h)]
  .erw[.inr (fh h)]
 |.rep m a,q,p,h=>by
  dsimp[cont] at h;rw[mC] at h;dsimp[bg,aj] at h;rcases h with h|⟨_,h⟩
  .erw[fh (t:=a) h]
  .erw[jb (t:=a) (JC h)]
theorem i7:∀{t n c x},oy n t->(x∈dF t c↔∃p,FS t p=true/\c∈sgn t p/\x=cont t p)
 |.one k l,n,c,x,h=>by
  dsimp[dF,FS,sgn,cont,beq_iff_eq];by_cases z:c∈l
  .simp[z]
  .simp[z]
 |.row a b,n,c,x,h=>by
  dsimp[dF,aG,bq,FS,bg,aj];constructor
  .rintro(⟨y,hy,rfl⟩|hy)
   .let#[p,h1,h2,rfl]:=(i7 h.1).mp hy
    have i:=jb h1;exact#[p,.inl h1,by dsimp[sgn,if_pos i];erw[h2],by dsimp[cont,if_pos i]]
   .split at hy
    .rename_i z
     let#[p,h1,h2,rfl]:=(i7 h.2).mp hy;have i:=gv h (jb h1);exact#[p,.inr #[z,h1],by dsimp[sgn,if_neg i];erw[h2],by dsimp[cont,if_neg i]]
    .simp at hy
  .rintro⟨p,h1|⟨z,h1⟩,h2,rfl⟩
   .have i:=jb h1
    dsimp[sgn,if_pos i] at h2;erw[.inl #[_,(i7 h.1).mpr #[p,h1,h2,rfl],by dsimp[cont,if_pos i]]]
   .have i:=gv h (jb h1)
    dsimp[sgn,if_neg i] at h2;rw[if_pos z]
    erw[.inr ((i7 h.2).mpr #[p,h1,h2,by dsimp[cont,if_neg i]])]
 |.or a b,n,c,x,h=>by
  dsimp[dF,aG,FS,bg];constructor
  .rintro(hy|hy)
   .let#[p,h1,h2,rfl]:=(i7 h.1).mp hy
    have i:=jb h1;exact#[p,.inl h1,by dsimp[sgn,if_pos i];erw[h2],by dsimp[cont,if_pos i]]
   .let#[p,h1,h2,rfl]:=(i7 h.2).mp hy
    have i:=gv h (jb h1);exact#[p,.inr h1,by dsimp[sgn,if_neg i];erw[h2],by dsimp[cont,if_neg i]]
  .rintro⟨p,h1|h1,h2,rfl⟩
   .have i:=jb h1
    dsimp[sgn,if_pos i] at h2;erw[.inl ((i7 h.1).mpr #[p,h1,h2,by dsimp[cont,if_pos i]])]
   .have i:=gv h (jb h1)
    dsimp[sgn,if_neg i] at h2;erw[.inr ((i7 h.2).mpr #[p,h1,h2,by dsimp[cont,if_neg i]])]
 |.rep m a,n,c,x,h=>by
  dsimp[dF,bq,FS,sgn,cont];constructor
  .rintro⟨y,hy,rfl⟩
   let#[p,h1,h2,rfl]:=(i7 (t:=a) h).mp hy;exact#[p,h1,h2,rfl]
  .rintro⟨p,h1,h2,rfl⟩
   exact#[_,(i7 (t:=a) h).mpr #[p,h1,h2,rfl],rfl]
theorem zB:dR [t] c=dF t c:=by simp[dR]
theorem pe:∀{t n c x q},oy n t->(x∈dR (cont t q) c↔∃p,ox (cont t q) p=true/\c∈sgn t p/\x=cont t p)
 |.one k l,n,c,x,q,h=>by simp[cont,dR,ox]
 |.row a b,n,c,x,q,h=>by
  by_cases z:IN a q=true
  .have e:cont (.row a b) q=cont a q++[b]:=by dsimp[cont,if_pos z]
   rw[e,Dp,zB]
   dsimp[mC,aG,bq,bg,aj];constructor
   .rintro(⟨y,hy,rfl⟩|hy)
    .let#[p,h1,h2,rfl]:=(pe h.1).mp hy
     have i:=fh h1;exact#[p,.inl h1,by dsimp[sgn,if_pos i];erw[h2],by dsimp[cont,if_pos i]]
    .split at hy
     .rename_i z
      let#[p,h1,h2,rfl]:=(i7 h.2).mp hy;have i:=gv h (jb h1);exact#[p,.inr #[z,by simp[ox,h1]],by dsimp[sgn,if_neg i];erw[h2],by dsimp[cont,if_neg i]]
     .simp at hy
   .rintro⟨p,h1|⟨z,h1⟩,h2,rfl⟩
    .have i:=fh h1
     dsimp[sgn,if_pos i] at h2;erw[.inl #[_,(pe h.1).mpr #[p,h1,h2,rfl],by dsimp[cont,if_pos i]]]
    .have h1:FS b p=true:=by simpa[ox] using h1
     have i:=gv h (jb h1);dsimp[sgn,if_neg i] at h2;rw[if_pos z]
     erw[.inr ((i7 h.2).mpr #[p,h1,h2,by dsimp[cont,if_neg i]])]
  .have e:cont (.row a b) q=cont b q:=by dsimp[cont,if_neg z]
   rw[e,pe h.2]
   constructor
   .rintro⟨p,h1,h2,rfl⟩
    have i:=gv h (fh h1);exact#[p,h1,by dsimp[sgn,if_neg i];erw[h2],by dsimp[cont,if_neg i]]
   .rintro⟨p,h1,h2,rfl⟩
    have i:=gv h (fh h1);dsimp[sgn,if_neg i] at h2;exact#[p,h1,h2,by dsimp[cont,if_neg i]]
 |.or a b,n,c,x,q,h=>by
  by_cases z:IN a q=true
  .have e:cont (.or a b) q=cont a q:=by dsimp[cont,if_pos z]
   rw[e,pe h.1]
   constructor
   .rintro⟨p,h1,h2,rfl⟩
    have i:=fh h1;exact#[p,h1,by dsimp[sgn,if_pos i];erw[h2],by dsimp[cont,if_pos i]]
   .rintro⟨p,h1,h2,rfl⟩
    have i:=fh h1;dsimp[sgn,if_pos i] at h2;exact#[p,h1,h2,by dsimp[cont,if_pos i]]
  .have e:cont (.or a b) q=cont b q:=by dsimp[cont,if_neg z]
   rw[e,pe h.2]
   constructor
   .rintro⟨p,h1,h2,rfl⟩
    have i:=gv h (fh h1);exact#[p,h1,by dsimp[sgn,if_neg i];erw[h2],by dsimp[cont,if_neg i]]
   .rintro⟨p,h1,h2,rfl⟩
    have i:=gv h (fh h1);dsimp[sgn,if_neg i] at h2;exact#[p,h1,h2,by dsimp[cont,if_neg i]]
 |.rep m a,n,c,x,q,h=>by
  have hm:x∈dR (more m a) c↔∃p,ox (more m a) p=true/\c∈sgn a p/\x=cont (.rep m a) p:=by
   cases m with
   |may=>simp[more,dR,ox]
   |star=>
    show x∈dR [.rep .star a] c↔_
    rw[zB,i7 (t:=.rep .star a) h]
    simp[more,ox,FS,sgn]
   |plus=>
    show x∈dR [.rep .star a] c↔_
    rw[zB,i7 (t:=.rep .star a) h]
    simp[more,ox,FS,sgn,cont]
  dsimp[cont,Dp,mC,aG,bq,bg,aj,sgn];constructor
  .rintro(⟨y,hy,rfl⟩|hy)
   .let#[p,h1,h2,rfl]:=(pe (t:=a) h).mp hy
    exact#[p,.inl h1,h2,rfl]
   .split at hy
    .rename_i z
     let#[p,h1,h2,rfl]:=hm.mp hy;exact#[p,.inr #[z,h1],h2,rfl]
    .simp at hy
  .rintro⟨p,h1|⟨z,h1⟩,h2,rfl⟩
   .erw[.inl #[_,(pe (t:=a) h).mpr #[p,h1,h2,rfl],rfl]]
   .rw[if_pos z]
    erw[.inr (hm.mpr #[p,h1,h2,rfl])]
def qh:Mk->List Nat
 |.star=>lM
 |.plus=>pd
 |.may=>kL
def enc:Tr->U
 |.one _ l=>.tup [.str M3,.str l]
 |.row a b=>.tup [.str Dl,.tup [enc a,enc b]]
 |.or a b=>.tup [.str SH,.tup [enc a,enc b]]
 |.rep m a=>.tup [.str (qh m),enc a]
def Zo(K:List Tr):U:=.tup (K.map enc)
def Zp(K:List Tr):U:=.tup [.str Dl,Zo K]
theorem Br(h:ox (ct t q) p=true):IN t p=true:=by
 unfold ct at h;split at h
 .dsimp[ox,bg,aj,ao,and_false,or_false] at h
  erw[jb h]
 .erw[fh h]
theorem zC(h:oy n t)(n0:0<n)(i:IN t p=true):p≠0:=by
 have:=(fY h).mp i;omega
theorem JD(h:oy n t)(n0:0<n):x∈dR (ct t q) c↔∃p,ox (ct t q) p=true/\c∈sgn t p/\x=ct t p:=by
 have key:∀p,ox (ct t q) p=true->ct t p=cont t p:=λp hp=>by
  unfold ct;rw[if_neg (zC h n0 (Br hp))]
 have e:x∈dR (ct t q) c↔∃p,ox (ct t q) p=true/\c∈sgn t p/\x=cont t p:=by
  unfold ct;split
  .rw[zB,i7 h]
   simp[ox]
  .erw[pe h]
 rw[e]
 constructor
 .rintro⟨p,h1,h2,h3⟩;exact#[p,h1,h2,h3.trans (key p h1).symm]
 .rintro⟨p,h1,h2,h3⟩;exact#[p,h1,h2,h3.trans (key p h1)]
def stp(t:Tr)(c:Nat)(H:Nat->Prop):Nat->Prop:=λp=>∃q,H q/\ox (ct t q) p=true/\c∈sgn t p
def hs(t:Tr)(w:List Nat):Nat->Prop:=w.foldl (λH c=>stp t c H) (λp=>p=0)
def En(t:Tr)(H:Nat->Prop):Prop:=∃p,H p/\dU (ct t p)=true
theorem pU:hs t (w++[c])=stp t c (hs t w):=by unfold hs;rw[fE];rfl
theorem take_snoc{w:List Nat}{k c:Nat}(h:w[k]?=some c):w.take (k+1)=w.take k++[c]:=by
 rw[gS,h];rfl
def Nn(ts:List Tr)(w:List Nat)(j i:Nat):Prop:=∀t,ts[i]?=some t->¬En t (hs t (w.take j))
def Ad(ts:List Tr)(w:List Nat)(k:Nat):Option (Nat×Nat)->Prop
 |none=>∀j i,1<=j->j<=k->Nn ts w j i
 |some (i,j)=>(1<=j/\j<=k)/\¬Nn ts w j i/\(∀i',i'<i->Nn ts w j i')/\∀j' i',j<j'->j'<=k->Nn ts w j' i'
theorem EB(h:Ad ts w k r)(h':Ad ts w k r'):r=r':=by
 have half:∀{i j i' j'},Ad ts w k (some (i,j))->Ad ts w k (some (i',j'))->¬j<j':=λh h' l=>h'.2.1 (h.2.2.2 _ _ l h'.1.2)
 have no:∀{i j},Ad ts w k (some (i,j))->¬Ad ts w k none:=λh h'=>h.2.1 (h' _ _ h.1.1 h.1.2)
 have small:∀{i i' j},Ad ts w k (some (i,j))->Ad ts w k (some (i',j))->¬i<i':=λh h' l=>h.2.1 (h'.2.2.1 _ l)
 rcases r with _|⟨i,j⟩<;>rcases r' with _|⟨i',j'⟩
 .rfl
 .erw[absurd h (no h')]
 .erw[absurd h' (no h)]
 .have a1:=half h h'
  have a2:=half h' h;have ej:j=j':=∅
  subst ej;have b1:=small h h';have b2:=small h' h;have ei:i=i':=∅
  subst ei;rfl
theorem Bs(h:Ad ts w k r)(hl:k<=l)(hn:∀j i,k<j->j<=l->Nn ts w j i):Ad ts w l r:=by
 have go:∀{j i},(j<=k->Nn ts w j i)->j<=l->Nn ts w j i:=λ{j i}a b=>by
  by_cases z:j<=k
  .erw[a z]
  .erw[hn j i ∅ b]
 rcases r with _|⟨i,j⟩
 .erw[λj i h1 h2=>go (λz=>h j i h1 z) h2]
 .exact#[#[h.1.1,by have:=h.1.2;omega],h.2.1,h.2.2.1,λj' i' h1 h2=>go (λz=>h.2.2.2 j' i' h1 z) h2]
theorem Nb(h:¬Nn ts w (k+1) i)(hn:∀i',i'<i->Nn ts w (k+1) i'):Ad ts w (k+1) (some (i,k+1)):=
 #[#[∅,∅],h,hn,λj' i' h1 h2=>absurd h1 ∅]
noncomputable def uR:Option (Nat×Nat)->U
 |none=>.bQ
 |some (i,j)=>.tup [.int (i:Nat),.int (j:Nat)]
section
variable{S:bF}{Q:KU}{a b p:Nat}
theorem CT:kU .bor (.int (a:Nat)) (.int (b:Nat)) S Q=Q (.int ((a|||b:Nat):Int)) S:=by
 rw[PF,eq_true (show(0:Int)<=a/\(0:Int)<=b from #[∅,∅]),true_and];rfl
theorem uE:kU .band (.int (a:Nat)) (.int (b:Nat)) S Q=Q (.int ((a&&&b:Nat):Int)) S:=by
 rw[L6,eq_true (show(0:Int)<=a/\(0:Int)<=b from #[∅,∅]),true_and];rfl
theorem Xl:kU .band (.int (a:Nat)) (.int 1) S Q=Q (.int ((a&&&1:Nat):Int)) S:=uE (b:=1)
theorem Q3:kU .shl (.int 1) (.int (p:Nat)) S Q=(p<=1000/\Q (.int ((1<<<p:Nat):Int)) S):=by
 rw[PH]
 have e:(1:Int)*(2:Int)^((p:Int).toNat)=((1<<<p:Nat):Int):=by
  rw[ue];simp
 rw[e]
 erw[propext #[λh=>#[∅,h.2],λh=>#[∅,h.2]]]
theorem Zq:kU .shr (.int (a:Nat)) (.int (p:Nat)) S Q=Q (.int ((a>>>p:Nat):Int)) S:=by
 rw[PJ,eq_true (show(0:Int)<=a/\(0:Int)<=p from #[∅,∅]),true_and]
 have e:(a:Int)/(2:Int)^((p:Int).toNat)=((a>>>p:Nat):Int):=by
  rw[Nat.shiftRight_eq_div_pow];simp
 rw[e]
theorem aaM:sV .sum [.loc n] S Q=(∃is:List Int,S[n]?=some (.lst (is.map .int))/\Q (.int is.sum) S):=rfl
end
theorem Vf:(((a>>>p&&&1:Nat):Int) !=0)=a.testBit p:=by
 unfold Nat.testBit;rw[Nat.and_comm]
 by_cases h:1&&&a>>>p=0
 .simp[h]
 .have:¬(((1&&&a>>>p:Nat):Int)=0):=∅
  rw[bne_iff_ne.mpr this,bne_iff_ne.mpr h]
theorem zD{a:Nat}:((a:Int) !=0)=true↔∃p,a.testBit p=true:=by
 constructor
 .intro h
  have:a≠0:=by
   have:=bne_iff_ne.mp h;omega
  erw[wq this]
 .rintro⟨p,h⟩
  rwa[bne_iff_ne.mpr λz=>?_]
  have:a=0:=∅
  subst this;simp at h
theorem Q4(h:b.testBit p=true):p<tV b:=by
 have g:=Nat.ge_two_pow_of_testBit h;have b0:b≠0:=by
  have:0<2^p:=Nat.two_pow_pos p;omega
 unfold tV;rw[if_neg b0]
 have:=(Nat.le_log2 b0).mpr g;omega
theorem bits_le(h:b<2^n):tV b<=n:=by
 unfold tV;split
 .omega
 .rename_i z
  have:=(Nat.log2_lt z).mpr h;omega
theorem jU(h:∀p,b.testBit p=true->p<n):b<2^n:=K4 λz=>by
 let#[i,hi,ti]:=Nat.exists_ge_and_testBit_of_ge_two_pow z;have:=h i ti;omega
def Dq(b:Nat):List Nat:=(bO (tV b)).filter b.testBit
theorem lO:p∈Dq b↔b.testBit p=true:=by
 unfold Dq;rw[dX,iz]
 exact#[λh=>h.2,λh=>#[Q4 h,h]]
noncomputable abbrev aM(n:Nat):U:=.int (n:Nat)
theorem fj(l:List U)(I:Nat->List U->bF->Prop)(hg:∀i acc S,i<=l.length->I i acc S->g S/\acc.length<1000000)
  (h:∀i u acc S(k:List U->bF->Prop),l[i]?=some u->I i acc S->(∀acc' S',I (i+1) acc' S'->k acc' S')->c u S λb S1=>if b=true then e u S1 λv S2=>k (acc++[v]) S2 else k acc S1) (hf:∀acc S,I l.length acc S->Q acc S){S:bF} (h0:I 0 [] S):ow g c e Q l [] S:=by
 have key:∀n i acc S,i+n=l.length->I i acc S->ow g c e Q (l.drop i) acc S:=by
  intro n;induction n with
  |zero=>
   intro i acc S e hi;rw[jJ ∅]
   have ei:i=l.length:=∅
   subst ei;exact#[(hg _ _ _ (ak _) hi).1,(hg _ _ _ (ak _) hi).2,hf _ _ hi]
  |succ n ih=>
   intro i acc S e hi;have hl:i<l.length:=∅
   rw[iM hl]
   exact#[(hg _ _ _ ∅ hi).1,(hg _ _ _ ∅ hi).2,h i _ acc S _ (aa hl) hi λacc' S' h'=>ih (i+1) acc' S' ∅ h']
 erw[key l.length 0 [] S ∅ h0]
theorem yk(l:List U)(p:U->Bool)(f:U->U)(hg:g S)(hl:l.length<1000000)
  (h:∀u k,u∈l->((p u=true->k true S)/\(p u=false->k false S)->c u S k)) (he:∀u k,u∈l->p u=true->k (f u) S->e u S k) (q:Q ((l.filter p).map f) S):ow g c e Q l [] S:=by
 rwa[fj l (λi acc S'=>S'=S/\acc=((l.take i).filter p).map f) (λi acc S' hi h=>#[h.1▸hg,?_]) (λi u acc S' k hu hi hk=>?_) (λacc S' h=>?_) #[rfl,rfl]]
 .rw[h.2,af]
  have:=pA p (l.take i);rw[dC] at this;omega
 .let#[rfl,rfl]:=hi
  have hm:=ah hu;have et:l.take (i+1)=l.take i++[u]:=by rw[gS,hu];rfl
  rwa[h u _ hm #[λz=>?_,λz=>?_]]
  .rw[if_pos rfl]
   erw[he u _ hm z (hk _ _ #[rfl,by rw[et,sC,aD,List.filter_cons_of_pos z];rfl])]
  .rw[if_neg (by simp)]
   erw[hk _ _ #[rfl,by rw[et,sC,List.filter_cons_of_neg (by simp[z])];simp]]
 .let#[rfl,rfl]:=h
  rw[bS];erw[q]
theorem fD{α β:Type}{l:List α}{f:α->β}{i:Nat}{u:β}(h:(l.map f)[i]?=some u):∃a,l[i]?=some a/\f a=u:=by
 rw[aw] at h;erw[aq.mp h]
theorem F8{α:Type}{l:List α}{i:Nat}{a:α}(h:l[i]?=some a):l.take (i+1)=l.take i++[a]:=by rw[gS,h];rfl
theorem _root_.Lake.PL.Ext.st{S S':bF}{n:Nat}{o:SO}(x:Ext S S')(h:S.length<=n):Ext S (S'.set n o):=
 #[by rw[cD];erw[x.1],λk hk=>by rw[ai (cZ (av hk h))];erw[x.2 k hk]]
end PL.lT
open PL.lT
local macro_rules | `(tactic| walk_at "qpk") => do let a:=((wN0++" o9 xS aaz UE N2 aaA YC aaC Yj aaM CT uE Xl Q3 Zq Yk aaf Xb Yl getD_some hW aaB YD YE aag Yn Ym Yo Int.toNat_natCast Bool.false_eq_true if_false if_true Bool.not_true Bool.not_false").splitOn " ").toArray.map fun s=>Lean.mkIdent s.toName;`(tactic| simp only [$[$a:ident],*])
local macro_rules | `(tactic| walk_at "pk") => `(tactic| ((try refine Rest.go ?_); walk_at "qpk"; repeat ((refine Rest.go ?_); walk_at "qpk")))
namespace PL.lT
def Bt:Spec:=λus S Q _=>∃b:Nat,us=[aM b]/\b<2^100/\∀n S',Ext S S'->S.length<=n->S'[n]?=some (.lst ((Dq b).map aM))->Q (.loc n) S'
theorem Q5(Γ:cf):Keeps Γ pQ 0 Bt:=by
 rintro us S Q E ⟨b,rfl,hb,q⟩;unfold pQ;room;have hl:=bits_le hb;refine#[∅,∅,∅,?_];refine yk (S:=S) _ (λu=>match u with|.int i=>b.testBit i.toNat|_=>false) id trivial (by simp;omega) (λu k hu h=>?_) (λu k _ _ h=>h) ?_
 .let#[p,_,rfl]:=bq.mp hu
  room;rw[Vf]
  cases z:b.testBit p with
  |true=>erw[h.1 z]
  |false=>erw[h.2 z]
 .rwa[q _ _ (Ext.app _) (ak _) ?_]
  have:((bO (tV b)).map λk=>U.int (k:Nat)).filter (λu=>match u with|.int i=>b.testBit i.toNat|_=>false)=(Dq b).map aM:=by
   rw[List.filter_map];rfl
  rw[List.map_id,this];simp
def KN(e:Bool)(F Z:Nat):SO:=.ins "Part" [("empty",.bl e),("firsts",aM F),("lasts",aM Z)]
section
variable{S:bF}{p F Z:Nat}{e:Bool}{r:U->Prop}(h:S[p]?=some (KN e F Z))
include h
theorem F9:lF (.loc p) "empty" S r=r (.bl e):=by rw[fO,h];rfl
theorem Bu:lF (.loc p) "firsts" S r=r (aM F):=by rw[fO,h];rfl
theorem Bv:lF (.loc p) "lasts" S r=r (aM Z):=by rw[fO,h];rfl
end
def zE:Spec:=λus S Q _=>∃p e F Z,us=[.loc p,.bl e,aM F,aM Z]/\S[p]?=some (.ins "Part" [])/\Q .bQ (S.set p (KN e F Z))
theorem Vg(Γ:cf):Keeps Γ mn 0 zE:=by
 rintro us S Q E ⟨p,e,F,Z,rfl,h,q⟩;unfold mn;room;rw[h]
 dsimp[bx];refine#[by simp,?_];have g1:=gs (o':=SO.ins "Part" (fS "empty" (U.bl e) [])) h;room;rw[g1]
 dsimp[bx];refine#[by simp[fS],?_];have g2:=gs (o':=SO.ins "Part" (fS "firsts" (aM F) (fS "empty" (U.bl e) []))) g1;room;rw[g2]
 dsimp[bx];refine#[by simp[fS],?_];room;rw[tL,tL]
 erw[q]
theorem qv{Γ:cf}(h1:Γ "Part.__init__"=zE){e:Bool}{F Z:Nat}{S:bF}{R:KU}{E:KX}(q:∀S',Ext S S'->S'[S.length]?=some (KN e F Z)->R .bQ S'):
  Γ "Part.__init__" [.loc S.length,.bl e,aM F,aM Z] (S++[.ins "Part" []]) R E:=by
 have g:(S++[SO.ins "Part" []])[S.length]?=some (.ins "Part" []):=by simp
 rwa[ca h1 #[S.length,e,F,Z,rfl,g,q _ #[by simp,λn hn=>?_] (gs g)]];rw[ai ∅,ag hn]
def qO(f:Bool->Nat->Nat->Bool->Nat->Nat->Bool×Nat×Nat):Spec:=λus S Q _=>∃p1 e1 F1 Z1 p2 e2 F2 Z2,us=[.loc p1,.loc p2]/\S[p1]?=some (KN e1 F1 Z1)/\S[p2]?=some (KN e2 F2 Z2) /\
 ∀S',Ext S S'->S'[S.length]?=some (KN (f e1 F1 Z1 e2 F2 Z2).1 (f e1 F1 Z1 e2 F2 Z2).2.1 (f e1 F1 Z1 e2 F2 Z2).2.2)->Q (.loc S.length) S'
noncomputable def tq(e1:Bool)(F1 Z1:Nat)(e2:Bool)(F2 Z2:Nat):Bool×Nat×Nat:=(e1&&e2,if e1 then F1|||F2 else F1,if e2 then Z1|||Z2 else Z2)
noncomputable def Vh(e1:Bool)(F1 Z1:Nat)(e2:Bool)(F2 Z2:Nat):Bool×Nat×Nat:=(e1||e2,F1|||F2,Z1|||Z2)
theorem Q6(Γ:cf)(h1:Γ "Part.__init__"=zE):Keeps Γ fU 2 (qO tq):=by
 rintro us S Q E ⟨p1,e1,F1,Z1,p2,e2,F2,Z2,rfl,g1,g2,q⟩;unfold fU;room;cases e1<;>cases e2<;>(repeat first|room|dsimp[F9 g1,F9 g2,Bu g1,Bu g2,Bv g1,Bv g2])
 .erw[qv h1 λS' x g=>#[rfl,q S' x g]]
 .erw[qv h1 λS' x g=>#[rfl,q S' x g]]
 .erw[qv h1 λS' x g=>#[rfl,q S' x g]]
 .erw[qv h1 λS' x g=>#[rfl,q S' x g]]
theorem Vi(Γ:cf)(h1:Γ "Part.__init__"=zE):Keeps Γ jv 0 (qO Vh):=by
 rintro us S Q E ⟨p1,e1,F1,Z1,p2,e2,F2,Z2,rfl,g1,g2,q⟩;unfold jv;cases e1<;>(repeat first|room|dsimp[F9 g1,F9 g2,Bu g1,Bu g2,Bv g1,Bv g2])
 .erw[qv h1 λS' x g=>#[rfl,q S' x g]]
 .erw[qv h1 λS' x g=>#[rfl,q S' x g]]
structure se(S:bF)(L:Nat)(sg:List (List Nat))(bh en:List Nat):Prop where
 o:S[L]?=some (.ins "Layout" [("signs",.loc (L+1)),("behind",.loc (L+2)),("ends",.loc (L+3))])
 s:S[L+1]?=some (.lst (sg.map .str))
 b:S[L+2]?=some (.lst (bh.map aM))
 e:S[L+3]?=some (.lst (en.map aM))
def Fr(L:Nat)(S S':bF):Prop:=S.length<=S'.length/\∀n,n<S.length->n<=L\/L+4<=n->S'[n]?=S[n]?
section
variable{S S1 S2:bF}{L:Nat}{sg:List (List Nat)}{bh en:List Nat}{r:U->Prop}{q:KU}
theorem Fr.refl:Fr L S S:=#[ak _,λ_ _ _=>rfl]
theorem Fr.trans(a:Fr L S S1)(b:Fr L S1 S2):Fr L S S2:=#[aJ a.1 b.1,λn h z=>(b.2 n (av h a.1) z).trans (a.2 n h z)]
theorem Ext.fr(a:Ext S S1):Fr L S S1:=#[a.1,λn h _=>a.2 n h]
theorem Fr.get(a:Fr L S S1){n:Nat}{o:SO}(h:S[n]?=some o)(z:L+4<=n):S1[n]?=some o:=(a.2 n (aW h) (.inr z)).trans h
theorem Fr.set(a:Fr L S S1){n:Nat}{o:SO}(h1:L<n)(h2:n<L+4):Fr L S (S1.set n o):=#[by rw[cD];erw[a.1],λm h z=>by rw[ai ∅];erw[a.2 m h z]]
variable(h:se S L sg bh en)
include h
theorem se.ext(x:Ext S S1):se S1 L sg bh en:=#[x.get h.o,x.get h.s,x.get h.b,x.get h.e]
theorem se.len:L+4<=S.length:=aW h.e
theorem JE:lF (.loc L) "signs" S r=r (.loc (L+1)):=by rw[fO,h.o];rfl
theorem JF:lF (.loc L) "behind" S r=r (.loc (L+2)):=by rw[fO,h.o];rfl
theorem Q7:lF (.loc L) "ends" S r=r (.loc (L+3)):=by rw[fO,h.o];rfl
theorem se.Zr:se (S.set (L+1) (.lst (sg'.map .str))) L sg' bh en:=
 #[by rw[ai ∅];erw[h.o],gs h.s,by rw[ai ∅];erw[h.b],by rw[ai ∅];erw[h.e]]
theorem se.setB:se (S.set (L+2) (.lst (bh'.map aM))) L sg bh' en:=
 #[by rw[ai ∅];erw[h.o],by rw[ai ∅];erw[h.s],gs h.b,by rw[ai ∅];erw[h.e]]
theorem se.Zs:se (S.set (L+3) (.lst (en'.map aM))) L sg bh en':=
 #[by rw[ai ∅];erw[h.o],by rw[ai ∅];erw[h.s],by rw[ai ∅];erw[h.b],gs h.e]
end
noncomputable def Q8:Spec:=λus S Q _=>∃L,us=[.loc L]/\S[L]?=some (.ins "Layout" [])/\S.length=L+1/\∀S',(∀n,n<L->S'[n]?=S[n]?)->se S' L [[]] [0] []->Q .bQ S'
theorem Vj(Γ:cf):Keeps Γ kg 0 Q8:=by
 rintro us S Q E ⟨L,rfl,h,hl,q⟩;unfold kg;room;refine#[by simp,?_];have g0:(S++[SO.lst [U.str []]])[L]?=some (.ins "Layout" []):=by rw[ag ∅];erw[h]
 rw[g0]
 dsimp[bx];refine#[by simp,?_];have g1:=gs (o':=SO.ins "Layout" (fS "signs" (U.loc S.length) [])) g0;room;refine#[by simp,?_];rw[ag (by simp;omega),g1]
 dsimp[bx];refine#[by simp[fS],?_];room;refine#[by simp,?_];rw[ag (by simp;omega),gs (by rw[ag (by simp;omega)];erw[g1])]
 dsimp[bx];refine#[by simp[fS],?_];room;rwa[q _ (λn hn=>?_) #[?_,?_,?_,?_]]
 .simp[iE,jI,hl,cZ hn,bc hn,bc (bc hn),bc (bc (bc hn))]
 .rw[bG (by simp;omega)]
  simp[fS,hl]
 .rw[ai ∅]
  simp[iE,jI,hl]
 .rw[ai ∅]
  simp[iE,jI,hl]
 .rw[ai ∅]
  simp[iE,jI,hl]
noncomputable def Q9:Spec:=λus S Q _=>∃L sg bh en,us=[.loc L]/\se S L sg bh en/\sg.length<=1000/\Q (.int (sg.length-1:Int)) S
theorem Vk(Γ:cf):Keeps Γ gD 0 Q9:=by
 rintro us S Q E ⟨L,sg,bh,en,rfl,h,hl,q⟩;unfold gD;room;rw[JE h,mZ h.s]
 dsimp[bp,af];exact#[∅,q]
theorem uJ{l:List Nat}{k B:Nat}{r:U->Prop}(h:l[k]?=some B)(z:r (aM B)):opt ((l.map aM)[k]?) r:=by
 rw[aw,h];erw[z]
def Ra:Spec:=λus S Q _=>∃L sg bh en p e F Z B bt,us=[.loc L,.loc p]/\se S L sg bh en/\bh=B::bt/\S[p]?=some (KN e F Z)/\L+4<=p/\en.length<=1000/\∀S',Fr L S S'->se S' L sg ((B|||F)::bt) (en++[Z])->Q .bQ S'
theorem Vl(Γ:cf):Keeps Γ fH 0 Ra:=by
 rintro us S Q E ⟨L,sg,bh,en,p,e,F,Z,B,bt,rfl,h,rfl,hp,pl,hn,q⟩;unfold fH;room;rw[JF h]
 room;rw[h.b]
 dsimp[aC];refine#[E7 _,?_];dsimp[Int.toNat_zero];rwa[uJ (B:=B) rfl ?_];rw[Bu hp]
 room;rw[h.b]
 dsimp[aC];refine#[by simp,?_];have h1:=h.setB (bh':=(B|||F)::bt);have e1:(eS aM (B::bt)).set 0 (U.int ((B|||F:Nat):Int))=eS aM ((B|||F)::bt):=by simp
 rw[e1]
 have f1:=(Fr.refl (L:=L) (S:=S)).set (n:=L+2) (o:=.lst (eS aM ((B|||F)::bt))) ∅ ∅;have hp1:=f1.get hp pl;generalize S.set (L+2) (.lst (eS aM ((B|||F)::bt)))=S1 at h1 f1 hp1;room;rw[Q7 h1]
 room;rw[h1.e]
 dsimp[aC];room;rw[Bv hp1]
 refine#[by simp;omega,?_];room;have e2:eS aM en++[aM Z]=eS aM (en++[Z]):=by simp
 rw[e2]
 erw[q _ (f1.set ∅ ∅) h1.Zs]
def Vm(Z F:Nat)(bh bh':List Nat):Prop:=bh'.length=bh.length/\∀(q B:Nat),bh[q]?=some B->∃B',bh'[q]?=some B'/\∀r,B'.testBit r=(B.testBit r||(Z.testBit q&&F.testBit r))
def JG:Spec:=λus S Q _=>∃L sg bh en Z F,us=[.loc L,aM Z,aM F]/\se S L sg bh en/\bh.length<=100/\(∀p,Z.testBit p=true->p<bh.length)/\∀S' bh',Fr L S S'->se S' L sg bh' en->Vm Z F bh bh'->Q .bQ S'
theorem Vn(Γ:cf)(h1:Γ "members"=Bt):Keeps Γ kh 1 JG:=by
 rintro us S Q E ⟨L,sg,bh,en,Z,F,rfl,h,hl,hz,q⟩;unfold kh;room;rwa[ca h1 #[Z,rfl,av (jU hz) (bj ∅ hl),λn S1 x1 hn g1=>?_]];room;rw[g1]
 dsimp[aC];have hln:=h.len;refine dS (λi env S2=>∃bh2 x3,env=[some (.loc L),some (aM Z),some (aM F),x3]/\Fr L S1 S2/\se S2 L sg bh2 en/\bh2.length=bh.length/\∀(q B:Nat),bh[q]?=some B->∃B',bh2[q]?=some B'/\∀r,B'.testBit r=(B.testBit r||(decide (q∈(Dq Z).take i)&&F.testBit r)))
  (λi env S2 h9=>by let#[_,_,_,f,_]:=h9;erw[f.get g1 ∅]) _ ?_ ?_ #[bh,none,rfl,.refl,h.ext x1,rfl,λq B e=>#[B,e,λr=>by simp]]
 .rintro i u env S2 K hu ⟨bh2,x3,rfl,f2,h2,l2,inv⟩ hK
  let#[p,hp,rfl]:=fD hu;have pz:=lO.mp (ah hp);have pl:=hz p pz;let#[B',e',b']:=inv p _ (aa pl);room;rw[JF h2]
  room;rw[h2.b]
  dsimp[aC];refine#[∅,uJ e' ?_];room;rw[h2.b]
  dsimp[aC];refine#[by simp;omega,?_];have ee:(eS aM bh2).set p (U.int ((B'|||F:Nat):Int))=eS aM (bh2.set p (B'|||F)):=by rw[List.map_set]
  rw[ee]
  room;rwa[hK _ _ #[_,_,rfl,f2.set ∅ ∅,h2.setB,by simp[l2],λq B e=>?_]];have et:=F8 hp;rw[et]
  by_cases z:q=p
  .subst z
   rw[aa pl] at e;injection e with e;subst e
   refine#[B'|||F,by rw[bG ∅],λr=>?_];rw[cK,b']
   dsimp[aG,aZ,or_true,decide_true,Aa];cases bh[q].testBit r<;>cases F.testBit r<;>simp
  .let#[B2,e2,b2]:=inv q B e
   refine#[B2,by rw[ai (cC z)];erw[e2],λr=>?_];rw[b2]
   simp[z]
 .rintro env S2 ⟨bh2,x3,rfl,f2,h2,l2,inv⟩
  room;rwa[q _ _ (Ext.fr x1 |>.trans f2) h2 #[l2,λq B e=>?_]];let#[B',e',b']:=inv q B e;refine#[B',e',λr=>?_];rw[b',af,bS]
  congr 2
  by_cases z:Z.testBit q=true
  .rw[z];erw[decide_eq_true (lO.mpr z)]
  .rw[iL _ |>.mp z];erw[decide_eq_false λm=>z (lO.mp m)]
structure uu(t:Tr)(bh:List Nat)(F Z:Nat)(bh':List Nat):Prop where
 f:∀p,F.testBit p=FS t p
 z:∀p,Z.testBit p=(IN t p&&dU (cont t p))
 len:bh'.length=bh.length+size t
 old:∀q,q<bh.length->bh'[q]?=bh[q]?
 new:∀q,IN t q=true->∃B:Nat,bh'[q]?=some B/\∀p,B.testBit p=ox (cont t q) p
def gZ(D:Tr->U->Prop):Spec:=λus S Q _=>∃L sg bh en t u,us=[.loc L,u]/\D t u/\se S L sg bh en/\oy sg.length t/\bh.length=sg.length/\sg.length+size t<=100 /\
 ∀S' p F Z bh',Fr L S S'->L+4<=p->S'[p]?=some (KN (null t) F Z)->se S' L (sg++m8 t) bh' en->uu t bh F Z bh'->Q (.loc p) S'
theorem sf:(1<<<n).testBit p=(p==n):=by
 rw[ue,Nat.testBit_two_pow]
 by_cases z:n=p
 .subst z;simp
 .rw[decide_eq_false z]
  have:¬p=n:=λe=>z e.symm
  simp[this]
theorem Vo(Γ:cf)(h1:Γ "Part.__init__"=zE):Keeps Γ fV 1 (gZ λt u=>∃n l,t=.one n l/\u=.str l):=by
 rintro us S Q E ⟨L,sg,bh,en,t,u,rfl,⟨n,l,rfl,rfl⟩,h,hp,hb,hl,q⟩;have hp:n=sg.length:=hp;subst hp;have hl:sg.length+1<=100:=hl;unfold fV;room;rw[JE h,mZ h.s]
 dsimp[bp,af,Q3];refine#[∅,∅,?_];room;rw[JE h]
 room;rw[h.s]
 dsimp[aC,true_and];refine#[by simp;omega,?_];have e1:eS U.str sg++[U.str l]=eS U.str (sg++[l]):=by simp
 rw[e1]
 have h2:=h.Zr (sg':=sg++[l]);have f2:=(Fr.refl (L:=L) (S:=S)).set (n:=L+1) (o:=.lst (eS U.str (sg++[l]))) ∅ ∅;generalize S.set (L+1) (.lst (eS U.str (sg++[l])))=S2 at h2 f2;room;rw[JF h2]
 room;rw[h2.b]
 dsimp[aC,true_and];refine#[by simp;omega,?_];have e2:eS aM bh++[U.int 0]=eS aM (bh++[0]):=by simp
 rw[e2]
 have h3:=h2.setB (bh':=bh++[0]);have f3:=f2.set (n:=L+2) (o:=.lst (eS aM (bh++[0]))) ∅ ∅;generalize S2.set (L+2) (.lst (eS aM (bh++[0])))=S3 at h3 f3;room;rwa[qv h1 λS4 x4 g4=>#[rfl,?_]]
 have:=h3.len;rwa[q S4 _ _ _ _ (f3.trans (Ext.fr x4)) ∅ g4 (h3.ext x4) #[λp=>sf,λp=>?_,by simp[size],λq hq=>ag hq,λq hq=>?_]]
 .rw[sf];simp[IN,cont,dU]
 .have:q=sg.length:=by simpa[IN] using hq
  subst this;refine#[0,by rw[ax ∅,hb];simp,λp=>by simp[cont,ox]]
def Tu(d:Nat)(t:Tr)(u:U):Prop:=cq t<d/\u=enc t
noncomputable def Vp:dj:=#v[.set 4 (.cG "Layout" "lay" "Layout.lay" @0 #v[@3]),.ex (.cG "Layout" "link" "Layout.link" @0 #v[.fld @2 "lasts",.fld @4 "firsts"]),.set 2 (.call "one_behind_other" #v[@2,@4])]
theorem Bw(Γ:cf)(h2:Γ "Layout.lay"=gZ (Tu d))(h3:Γ "Layout.link"=JG)(h4:Γ "one_behind_other"=qO tq)
  (da:cq a<d) (h:se S L sg bh en) (hp:oy sg.length a) (hb:bh.length=sg.length) (hl:sg.length+size a<=100) (g:S[pw]?=some (KN e0 F0 Z0)) (pl:L+4<=pw) (hz:∀p,Z0.testBit p=true->p<bh.length)
  (q:∀S' p F Z bh1 bh2 x,Fr L S S'->L+4<=p->S'[p]?=some (KN (tq e0 F0 Z0 (null a) F Z).1 (tq e0 F0 Z0 (null a) F Z).2.1 (tq e0 F0 Z0 (null a) F Z).2.2)->se S' L (sg++m8 a) bh2 en->uu a bh F Z bh1->Vm Z0 F bh1 bh2 ->
   D.nx [some (.loc L),some v1,some (.loc p),some (enc a),x] S'):Rest Γ Vp D [some (.loc L),some v1,some (.loc pw),some (enc a),x4] S:=by
 unfold Vp;room;rw[h.o,bx]
 refine#[#[rfl,rfl],?_];rwa[ca h2 #[L,sg,bh,en,a,_,rfl,#[da,rfl],h,hp,hb,hl,λS1 p F Z bh1 f1 pl1 g1 la1 r1=>?_]];have g0:=f1.get g pl;room;rw[la1.o,bx]
 refine#[#[rfl,rfl],?_];rw[Bv g0,Bu g1]
 rwa[ca h3 #[L,_,bh1,en,Z0,F,rfl,la1,by rw[r1.len];omega,λp hp=>by rw[r1.len];have:=hz p hp;omega,λS2 bh2 f2 la2 lk=>?_]];room;rwa[ca h4 #[pw,e0,F0,Z0,p,null a,F,Z,rfl,f2.get g0 pl,f2.get g1 pl1,λS3 x3 g3=>?_]];room;have:=la2.len;erw[q _ _ F Z bh1 bh2 _ ((f1.trans f2).trans (Ext.fr x3)) ∅ g3 (la2.ext x3) r1 lk]
theorem Vq:tq true 0 0 e F Z=(e,F,Z):=by
 unfold tq;rw[wt,wt]
 cases e<;>rfl
theorem Zt:Vh false 0 0 e F Z=(e,F,Z):=by
 unfold Vh;rw[wt,wt];rfl
theorem Nc(hp:oy n a/\oy (n+size a) b)(hb:bh.length=n)(ra:uu a bh Fa Za bh1)(lk2:Vm 0 Fa bh1 bh2)(rb:uu b bh2 Fb Zb bh3)(lk4:Vm Za Fb bh3 bh4):
  uu (.row a b) bh (tq (null a) Fa Za (null b) Fb Zb).2.1 (tq (null a) Fa Za (null b) Fb Zb).2.2 bh4:=by
 have l1:=ra.len;have l2:=rb.len;have l3:=lk2.1;have l4:=lk4.1;have e12:∀q,q<bh1.length->bh2[q]?=bh1[q]?:=λq hq=>by
  let#[B',e1,e2]:=lk2.2 q _ (aa hq);rw[e1,aa hq]
  congr 1
  erw[kS λr=>by simp[e2]]
 have e14:∀q B,q<bh1.length->bh1[q]?=some B->∃B',bh4[q]?=some B'/\∀r,B'.testBit r=(B.testBit r||(Za.testBit q&&Fb.testBit r)):=λq B hq e=>lk4.2 q B (by rw[rb.old q ∅,e12 q hq];erw[e])
 refine#[λp=>?_,λp=>?_,by dsimp[size];omega,λq hq=>?_,λq hq=>?_]
 .dsimp[tq,FS]
  cases null a<;>simp[cK,ra.f,rb.f]
 .dsimp[tq,IN,cont]
  by_cases z:IN a p=true
  .have z2:IN b p=false:=by
    cases e:IN b p with
    |false=>rfl
    |true=>erw[absurd z (gv hp e)]
   have nb:dU [b]=null b:=by simp[dU]
   dsimp[vZ,nb,if_pos z];cases null b<;>simp[cK,ra.z,rb.z,z,z2]
  .have z:IN a p=false:=by simpa using z
   cases null b<;>simp[cK,ra.z,rb.z,z]
 .let#[B',h1,h2]:=e14 q _ ∅ ((ra.old q hq).trans (aa hq))
  rw[h1,aa hq]
  congr 1
  rwa[kS λr=>?_]
  have:IN a q=false:=by
   cases e:IN a q with
   |false=>rfl
   |true=>have:=(fY hp.1).mp e;omega
  rw[h2,ra.z,this];simp
 .by_cases z:IN a q=true
  .let#[B,h1,h2]:=ra.new q z
   have:=(fY hp.1).mp z;let#[B',h3,h4]:=e14 q B ∅ h1;refine#[B',h3,λp=>?_];have ec:cont (.row a b) q=cont a q++[b]:=by dsimp[cont,if_pos z]
   rw[ec,mC,h4,h2,ra.z,rb.f,z]
   simp[ox]
  .have z2:IN b q=true:=by simpa[IN,z] using hq
   let#[B,h1,h2]:=rb.new q z2;let#[B',h3,h4]:=lk4.2 q B h1;refine#[B',h3,λp=>?_];have z:IN a q=false:=by simpa using z
   rw[h4,ra.z,z,h2]
   simp[cont,z]
theorem Vr(Γ:cf)(d:Nat)(h1:Γ "Part.__init__"=zE)(h2:Γ "Layout.lay"=gZ (Tu d))(h3:Γ "Layout.link"=JG)(h4:Γ "one_behind_other"=qO tq):
  Keeps Γ ie 3 (gZ λt u=>∃a b,t=.row a b/\cq a<d/\cq b<d/\u=.tup [enc a,enc b]):=by
 rintro us S Q E ⟨L,sg,bh,en,t,u,rfl,⟨a,b,rfl,da,db,rfl⟩,h,hp,hb,hl,q⟩;have hl:sg.length+(size a+size b)<=100:=hl;have hp:oy sg.length a/\oy (sg.length+size a) b:=hp;have ll:=fg a;unfold ie;room;rwa[qv h1 (F:=0) (Z:=0) λS1 x1 g1=>#[rfl,?_]]
 have p1:L+4<=S.length:=h.len;have h':=h.ext x1;generalize S.length=pw at g1 p1;room;refine#[by simp,?_];dsimp[vA];refine#[trivial,Bw Γ h2 h3 h4 da h' hp.1 hb ∅ g1 p1 (by simp) λS2 p2 Fa Za bh1 bh2 x f2 pl2 g2 la2 ra lk2=>?_];rw[Vq] at g2;refine#[trivial,Bw Γ h2 h3 h4 db la2 (by rw[ar,ll];erw[hp.2]) (by rw[lk2.1,ra.len,hb];simp[ll]) (by simp;omega) g2 pl2 (λp hp'=>?_) λS3 p3 Fb Zb bh3 bh4 x' f3 pl3 g3 la3 rb lk4=>#[trivial,?_]]
 .rw[ra.z,aj] at hp'
  have:=(fY hp.1).mp hp'.1;rw[lk2.1,ra.len];omega
 .room
  exact q _ _ _ _ _ ((Ext.fr x1 |>.trans f2).trans f3) pl3 g3 (by rw[bJ] at la3;erw[la3]) (Nc hp hb ra lk2 rb lk4)
theorem Rb(hp:oy n a/\oy (n+size a) b)(hb:bh.length=n)(ra:uu a bh Fa Za bh1)(rb:uu b bh1 Fb Zb bh2):uu (.or a b) bh (Fa|||Fb) (Za|||Zb) bh2:=by
 have l1:=ra.len;have l2:=rb.len;refine#[λp=>by rw[cK,ra.f,rb.f];rfl,λp=>?_,by dsimp[size];omega,λq hq=>(rb.old q ∅).trans (ra.old q hq),λq hq=>?_]
 .rw[cK,ra.z,rb.z]
  dsimp[IN,cont];by_cases z:IN a p=true
  .have z2:IN b p=false:=by
    cases e:IN b p with
    |false=>rfl
    |true=>erw[absurd z (gv hp e)]
   simp[z,z2]
  .have z:IN a p=false:=by simpa using z
   simp[z]
 .by_cases z:IN a q=true
  .let#[B,h1,h2]:=ra.new q z
   have:=(fY hp.1).mp z;exact#[B,(rb.old q ∅).trans h1,λp=>by rw[h2];simp[cont,z]]
  .have z2:IN b q=true:=by simpa[IN,z] using hq
   let#[B,h1,h2]:=rb.new q z2;exact#[B,h1,λp=>by rw[h2];simp[cont,z]]
theorem Vs(Γ:cf)(d:Nat)(h1:Γ "Part.__init__"=zE)(h2:Γ "Layout.lay"=gZ (Tu d))(h4:Γ "one_or_other"=qO Vh):
  Keeps Γ fI 2 (gZ λt u=>∃a b,t=.or a b/\cq a<d/\cq b<d/\u=.tup [enc a,enc b]):=by
 rintro us S Q E ⟨L,sg,bh,en,t,u,rfl,⟨a,b,rfl,da,db,rfl⟩,h,hp,hb,hl,q⟩;have hl:sg.length+(size a+size b)<=100:=hl;have hp:oy sg.length a/\oy (sg.length+size a) b:=hp;have ll:=fg a;unfold fI;room;rwa[qv h1 (F:=0) (Z:=0) λS1 x1 g1=>#[rfl,?_]]
 have p1:L+4<=S.length:=h.len;have h':=h.ext x1;generalize S.length=pw at g1 p1;room;refine#[by simp,?_];dsimp[vA];refine#[trivial,?_];room;rw[h'.o,bx]
 refine#[#[rfl,rfl],?_];rwa[ca h2 #[L,sg,bh,en,a,_,rfl,#[da,rfl],h',hp.1,hb,∅,λS2 p2 Fa Za bh1 f2 pl2 g2 la2 ra=>?_]];rwa[ca h4 #[pw,_,_,_,p2,_,_,_,rfl,f2.get g1 p1,g2,λS3 x3 g3=>?_]];rw[Zt] at g3;have la3:=la2.ext x3;have p3:=la2.len;generalize S2.length=p3' at g3 p3;room;rw[la3.o,bx]
 refine#[#[rfl,rfl],?_];rwa[ca h2 #[L,_,bh1,en,b,_,rfl,#[db,rfl],la3,by rw[ar,ll];erw[hp.2],by rw[ra.len,hb];simp[ll],by simp;omega,λS4 p4 Fb Zb bh2 f4 pl4 g4 la4 rb=>?_]];rwa[ca h4 #[p3',_,_,_,p4,_,_,_,rfl,f4.get g3 p3,g4,λS5 x5 g5=>?_]];have p5:=la4.len;room;exact q _ _ _ _ _ (((((Ext.fr x1).trans f2).trans (Ext.fr x3)).trans f4).trans (Ext.fr x5)) p5 g5 (by have:=la4.ext x5;rw[bJ] at this;erw[this]) (Rb hp hb ra rb)
noncomputable def Ga:Mk->Bool
 |.may=>false
 |_=>true
noncomputable def Gb:Mk->Bool
 |.plus=>false
 |_=>true
structure Oc(t:Tr)(ms:List Mk)(a:Tr):Prop where
 fs:∀p,FS t p=FS a p
 nl:null t=(null a||ms.any Gb)
 Zu:∀p,IN t p=IN a p
 ct:∀p,∃R,cont t p=cont a p++R/\dU R=true/\∀r,ox R r=(ms.any Ga&&FS a r)
 sz:size t=size a
 lv:m8 t=m8 a
 pl:∀n,oy n t->oy n a
theorem Oc.zero(t:Tr):Oc t [] t:=#[λ_=>rfl,by simp,λ_=>rfl,λp=>#[[],by simp,rfl,λr=>by simp[ox]],rfl,rfl,λ_ h=>h]
theorem Oc.next(h:Oc t ms (.rep m a)):Oc t (ms++[m]) a:=by
 refine#[h.fs,?_,h.Zu,λp=>?_,h.sz,h.lv,h.pl]
 .rw[h.nl]
  cases m<;>simp[null,Gb]
 .let#[R,h1,h2,h3]:=h.ct p
  refine#[more m a++R,by rw[h1];simp[cont],?_,λr=>?_]
  .rw[vZ,h2];cases m<;>simp[more,dU,null]
  .rw[mC,h3]
   cases m<;>simp[more,ox,FS,dU,null,Ga]
theorem EC(k:Oc t ms a)(hp:oy n a)(hb:bh.length=n)(ra:uu a bh F Z bh1)
  (lk:if ms.any Ga=true then Vm Z F bh1 bh2 else bh2=bh1):uu t bh F Z bh2:=by
 have eZ:∀p,dU (cont t p)=dU (cont a p):=λp=>by
  let#[R,h1,h2,_]:=k.ct p;rw[h1,vZ,h2,Bool.and_true]
 have l1:=ra.len;have key:∀(q B:Nat),bh1[q]?=some B->∃B',bh2[q]?=some B'/\∀r,B'.testBit r=(B.testBit r||(ms.any Ga&&(Z.testBit q&&F.testBit r))):=λq B e=>by
  split at lk
  .rename_i z
   let#[B',e1,e2]:=lk.2 q B e;exact#[B',e1,λr=>by rw[e2,z,Aa]]
  .rename_i z
   subst lk;exact#[B,e,λr=>by simp[iL _ |>.mp z]]
 have l2:bh2.length=bh1.length:=by
  split at lk
  .erw[lk.1]
  .rw[lk]
 refine#[λp=>by rw[ra.f,k.fs],λp=>by rw[ra.z,k.Zu,eZ],by rw[l2,l1,k.sz],λq hq=>?_,λq hq=>?_]
 .let#[B',h1,h2]:=key q _ ((ra.old q hq).trans (aa hq))
  rw[h1,aa hq]
  congr 1
  rwa[kS λr=>?_]
  have:IN a q=false:=by
   cases e:IN a q with
   |false=>rfl
   |true=>have:=(fY hp).mp e;omega
  rw[h2,ra.z,this];simp
 .rw[k.Zu] at hq
  let#[B,h1,h2]:=ra.new q hq;let#[B',h3,h4]:=key q B h1;refine#[B',h3,λp=>?_];let#[R,e1,e2,e3]:=k.ct q;rw[h4,h2,e1,mC,e3,ra.z,ra.f,hq,Aa]
  cases ox (cont a q) p<;>cases dU (cont a q)<;>cases FS a p<;>simp
theorem in3:qH (.str k) [.str lM,.str pd,.str kL] q=q (lM==k||(pd==k||kL==k)):=by
 have:=anyS (a:=k) (l:=[lM,pd,kL]) (q:=q);simpa using this
theorem JH(ms:List Mk)(a b:List Nat):(ms.any λm=>qh m==a||qh m==b)=(((ms.map qh).any (·==a))||((ms.map qh).any (·==b))):=by
 induction ms with
 |nil=>rfl
 |cons m ms ih=>
  rw[dG,au,dG,dG,ih]
  cases (qh m==a)<;>cases (qh m==b)<;>simp
theorem Rc(ms:List Mk):ms.any Ga=(((ms.map qh).any (·==lM))||((ms.map qh).any (·==pd))):=by
 rw[<-JH]
 congr 1;funext m
 cases m<;>rfl
theorem Rf(ms:List Mk):ms.any Gb=(((ms.map qh).any (·==lM))||((ms.map qh).any (·==kL))):=by
 rw[<-JH]
 congr 1;funext m
 cases m<;>rfl
theorem Nd(m:Mk):(lM==qh m||(pd==qh m||kL==qh m))=true:=by cases m<;>rfl
noncomputable def Xm:dj:=#v[.set 5 (.or (.fld @4 "empty") (.or (.cmp .isin ↑[115,116,97,114] @2) (.cmp .isin ↑[109,97,121,98,101] @2))),.ret (.mk "Part" "Part.__init__" #v[@5,.fld @4 "firsts",.fld @4 "lasts"])]
noncomputable def Zv:dj:=#v[.ex (.cG "Layout" "link" "Layout.link" @0 #v[.fld @4 "lasts",.fld @4 "firsts"])]
def Zw:dj:=(.cons (.set 4 (.cG "Layout" "lay" "Layout.lay" @0 #v[@3])) (.cons (.ifs (.or (.dk (.cmp .isin ↑[115,116,97,114] @2)) (.dk (.cmp .isin ↑[112,108,117,115] @2))) Zv .nil) Xm))
theorem Vt(Γ:cf)(d:Nat)(hd:d<=100)(h1:Γ "Part.__init__"=zE)(h2:Γ "Layout.lay"=gZ (Tu d))(h3:Γ "Layout.link"=JG):
  Keeps Γ fJ 4 (gZ λt u=>∃m a,t=.rep m a/\cq a<d/\u=enc t):=by
 rintro us S Q E ⟨L,sg,bh,en,t,u,rfl,⟨m0,a0,et,da,rfl⟩,h,hp,hb,hl,q⟩;have sl:=h.len;have fin:∀(ms:List Mk)(a:Tr)(S2:bF),Oc t ms a->cq a<d->(∀n,n<S.length->S2[n]?=S[n]?)->S2[S.length]?=some (.lst (ms.map λm=>U.str (qh m)))->Rest Γ Zw #[λ_ S1=>Q .bQ S1,Q,λ_=>E] [some (.loc L),some (enc t),some (.loc S.length),some (enc a),none,none] S2:=by
  intro ms a S2 mk da e2 g2;have x2:Ext S S2:=#[b7 (aW g2),e2]
  have la:=h.ext x2;have sz:=mk.sz;have hpa:=mk.pl _ hp;unfold Zw;room;rw[la.o,bx]
  refine#[#[rfl,rfl],?_];rwa[ca h2 #[L,sg,bh,en,a,_,rfl,#[da,rfl],la,hpa,hb,∅,λS3 p F Z bh1 f3 pl3 g3 la3 ra=>?_]];have gm:∀S4,Fr L S3 S4->S4[S.length]?=some (.lst ((ms.map qh).map .str)):=λS4 f4=>by rw[bu];erw[f4.get (f3.get g2 sl) sl]
  have fin2:∀S4 bh2,Fr L S3 S4->se S4 L (sg++m8 a) bh2 en->uu t bh F Z bh2->Rest Γ Xm #[λ_ S1=>Q .bQ S1,Q,λ_=>E] [some (.loc L),some (enc t),some (.loc S.length),some (enc a),some (.loc p),none] S4:=by
   intro S4 bh2 f4 la4 r4;have g4:=f4.get g3 pl3;have en4:∀e,e=null t->Rest Γ (.cons (.ret (.mk "Part" "Part.__init__" (.cons @5 (.cons (.fld @4 "firsts") (.cons (.fld @4 "lasts") .nil))))) .nil) #[λ_ S1=>Q .bQ S1,Q,λ_=>E] [some (.loc L),some (enc t),some (.loc S.length),some (enc a),some (.loc p),some (.bl e)] S4:=by
    rintro e rfl;room;rw[Bu g4,Bv g4]
    rwa[qv h1 λS5 x5 g5=>#[rfl,?_]]
    erw[q _ _ _ _ _ (((Ext.fr x2).trans f3).trans (f4.trans (Ext.fr x5))) la4.len g5 (by rw[mk.lv];exact la4.ext x5) r4]
   have nl:=mk.nl;rw[Rf] at nl;unfold Xm;room;rw[F9 g4]
   room;rw[gm S4 f4]
   dsimp[aC,anyS,HW];cases e1:null a<;>cases e2:(ms.map qh).any (·==lM)<;>dsimp[e1,e2,ao,if_false,if_true,aC,anyS]<;>refine en4 _ ?_<;>rw[nl,e1,e2]<;>simp
  have hs:=Rc ms;have lnk:ms.any Ga=true->Rest Γ Zv #[λen S4=>Rest Γ Xm #[λ_ S1=>Q .bQ S1,Q,λ_=>E] en S4,Q,λ_=>E] [some (.loc L),some (enc t),some (.loc S.length),some (enc a),some (.loc p),none] S3:=by
   intro z;unfold Zv;room;rw[la3.o,bx]
   refine#[#[rfl,rfl],?_];rw[Bv g3,Bu g3]
   rwa[ca h3 #[L,_,bh1,en,Z,F,rfl,la3,by rw[ra.len];omega,λp hp'=>?_,λS4 bh2 f4 la4 lk=>?_]]
   .rw[ra.z,aj] at hp'
    have:=(fY hpa).mp hp'.1;rw[ra.len];omega
   .erw[Rest.go (fin2 S4 bh2 f4 la4 (EC mk hpa hb ra (by rw[if_pos z];exact lk)))]
  room;rw[gm S3 .refl]
  dsimp[aC,anyS];cases e1:(ms.map qh).any (·==lM)<;>cases e2:(ms.map qh).any (·==pd)<;>rw[e1,e2] at hs<;>dsimp[e1,e2,ao,if_false,if_true,aC,anyS]
  .erw[Rest.go (fin2 S3 bh1 .refl la3 (EC mk hpa hb ra (by rw[if_neg (by simp[hs])])))]
  .erw[lnk hs]
  .erw[lnk hs]
  .erw[lnk hs]
 unfold fJ;room;refine#[by simp,?_];room;have x0:Ext S (S++[SO.lst []]):=Ext.app _;have g0:(S++[SO.lst []])[S.length]?=some (.lst (([]:List Mk).map λm=>U.str (qh m))):=by simp
 have dt:cq t<=d:=by rw[et];erw[da]
 refine#[cq t+1,oa (λn env S2=>∃ms a,n=cq a/\Oc t ms a/\(a=t\/cq a<d)/\ms.length+cq a<=200/\env=[some (.loc L),some (enc t),some (.loc S.length),some (enc a),none,none]/\(∀n,n<S.length->S2[n]?=S[n]?)/\S2[S.length]?=some (.lst (ms.map λm=>U.str (qh m)))) ?_ _ (cq t) _ _ ∅ #[[],t,rfl,.zero t,.inl rfl,by simp;omega,rfl,x0.2,g0]];rintro n env S2 K ⟨ms,a,rfl,mk,hda,hms,rfl,e2,g2⟩ hK;have out:(∀m a',a≠.rep m a')->cq a<d:=λz=>by
  rcases hda with rfl|z2
  .erw[absurd et (z m0 a0)]
  .erw[z2]
 have stop:∀k x,enc a=.tup [.str k,x]->(lM==k||(pd==k||kL==k))=false->cq a<d->WT Γ (.dk (.cmp .isin (.ix @3 ↑0) (.tup (.cons ↑[115,116,97,114] (.cons ↑[112,108,117,115] (.cons ↑[109,97,121,98,101] .nil)))))) [some (.loc L),some (enc t),some (.loc S.length),some (enc a),none,none] S2
   (λt1 S1=>if t1=true then Rest Γ (.cons (.ex (.jq .append @2 (.cons (.ix @3 ↑0) .nil))) (.cons (.set 3 (.ix @3 ↑1)) .nil)) #[K,Q,λ_=>E] [some (.loc L),some (enc t),some (.loc S.length),some (enc a),none,none] S1 else Rest Γ Zw #[λ_ S1=>Q .bQ S1,Q,λ_=>E] [some (.loc L),some (enc t),some (.loc S.length),some (enc a),none,none] S1) E:=by
  intro k x ek ek2 da;have:=fin ms a S2 mk da e2 g2;rw[ek] at this ⊢;room;rw[uj,bp]
  refine#[by simp,by simp,?_];rw[in3,ek2]
  erw[this]
 cases a with
 |one k l=>erw[stop _ _ rfl rfl (out λ_ _ z=>nomatch z)]
 |row a b=>erw[stop _ _ rfl rfl (out λ_ _ z=>nomatch z)]
 |or a b=>erw[stop _ _ rfl rfl (out λ_ _ z=>nomatch z)]
 |rep m a=>
  have ek:enc (.rep m a)= .tup [.str (qh m),enc a]:=rfl;have dr:cq (.rep m a)=cq a+1:=rfl;rw[ek]
  room;rw[uj,bp]
  refine#[by simp,by simp,?_];rw[in3,Nd]
  room;rw[g2]
  dsimp[aC,uj,uk,bp];refine#[trivial,by simp,by simp;omega,?_];room;dsimp[uk,bp];refine#[by simp,?_];try room
  refine hK (cq a) _ _ ∅ #[ms++[m],a,rfl,mk.next,.inr (by rcases hda with rfl|z<;>omega),by simp;omega,rfl,λn hn=>?_,by rw[gs g2];simp];rw[ai ∅];exact e2 n hn
section
variable{Γ:cf}{D:Ends}{env:Env}{S:bF}{i:Nat}{k k':List Nat}{x:U}{a b ss:dj}
theorem wY(h:env[i]?=some (some (.tup [.str k,x])))(e:(k==k')=true)(q:Rest Γ a #[λen S1=>Rest Γ ss D en S1,D.rt,D.ex] env S):Rest Γ (.cons (.ifs (.dk (.cmp .eq (.ix (.var i) ↑0) (.lit (.str k')))) a b) ss) D env S:=by
 room;rw[h]
 dsimp[xO,N0,uj,bp,NZ,Uw,e,if_true];exact#[by simp,q]
theorem mO(h:env[i]?=some (some (.tup [.str k,x])))(e:(k==k')=false)(q:Rest Γ ss D env S):Rest Γ (.cons (.ifs (.dk (.cmp .eq (.ix (.var i) ↑0) (.lit (.str k')))) a .nil) ss) D env S:=by
 room;rw[h]
 dsimp[xO,N0,uj,bp,NZ,Uw,e,ao,if_false];exact#[by simp,q]
end
theorem Rg(Γ:cf)(d:Nat)(h1:Γ "Layout.lay_place"=gZ λt u=>∃n l,t=.one n l/\u=.str l)(h2:Γ "Layout.lay_row"=gZ λt u=>∃a b,t=.row a b/\cq a<d/\cq b<d/\u=.tup [enc a,enc b])
  (h3:Γ "Layout.lay_choice"=gZ λt u=>∃a b,t=.or a b/\cq a<d/\cq b<d/\u=.tup [enc a,enc b]) (h4:Γ "Layout.lay_repeat"=gZ λt u=>∃m a,t=.rep m a/\cq a<d/\u=enc t):Keeps Γ kY 0 (gZ (Tu (d+1))):=by
 rintro us S Q E ⟨L,sg,bh,en,t,u,rfl,⟨dt,rfl⟩,h,hp,hb,hl,q⟩;unfold kY;cases t with
 |one n l=>
  rwa[wY rfl rfl ?_];dsimp[enc];room;rw[h.o,bx,uk]
  exact#[#[rfl,rfl],by simp,ca h1 #[L,sg,bh,en,_,_,rfl,#[n,l,rfl,rfl],h,hp,hb,hl,q]]
 |row a b=>
  have dt:max (cq a) (cq b)+1<d+1:=dt;rwa[mO rfl rfl (wY rfl rfl ?_)];dsimp[enc];room;rw[h.o,bx,uk]
  exact#[#[rfl,rfl],by simp,ca h2 #[L,sg,bh,en,_,_,rfl,#[a,b,rfl,∅,∅,rfl],h,hp,hb,hl,q]]
 |or a b=>
  have dt:max (cq a) (cq b)+1<d+1:=dt;rwa[mO rfl rfl (mO rfl rfl (wY rfl rfl ?_))];dsimp[enc];room;rw[h.o,bx,uk]
  exact#[#[rfl,rfl],by simp,ca h3 #[L,sg,bh,en,_,_,rfl,#[a,b,rfl,∅,∅,rfl],h,hp,hb,hl,q]]
 |rep m a=>
  have dt:cq a+1<d+1:=dt;have k1:(qh m==M3)=false/\(qh m==Dl)=false/\(qh m==SH)=false:=by cases m<;>exact#[rfl,rfl,rfl]
  rwa[mO rfl k1.1 (mO rfl k1.2.1 (mO rfl k1.2.2 ?_))];room;rw[h.o,bx]
  exact#[#[rfl,rfl],ca h4 #[L,sg,bh,en,_,_,rfl,#[m,a,rfl,∅,rfl],h,hp,hb,hl,q]]
noncomputable def m9(f:List Nat->Bool)(sg:List (List Nat))(p:Nat):Bool:=((sg[p]?).map f).getD false
theorem yl(f:List Nat->Bool)(sg:List (List Nat))(hg:g S)(hl:sg.length<=100)
  (hc:∀(i:Nat)l k,k (f l) S->c (.tup [aM i,.str l]) S k) (he:∀(i:Nat)l k,i<=100->k (aM (1<<<i)) S->e (.tup [aM i,.str l]) S k)
  (q:∀(is:List Int)(b:Nat),is.sum=b->(∀p,b.testBit p=m9 f sg p)->Q (is.map .int) S):ow g c e Q ((sg.map U.str).mapIdx λi u=>.tup [.int (i:Nat),u]) [] S:=by
 rwa[fj _ (λi acc S'=>S'=S/\∃(is:List Int)(b:Nat),acc=is.map .int/\is.sum=b/\b<2^i/\is.length<=i/\∀p,b.testBit p=(decide (p<i)&&m9 f sg p)) (λi acc S' hi h=>?_) (λi u acc S' k hu hi hk=>?_) (λacc S' h=>?_) #[rfl,[],0,rfl,rfl,by simp,by simp,by simp]]
 .let#[rfl,is,b,rfl,_,_,hl',_]:=h
  simp at hi;exact#[hg,by simp;omega]
 .let#[rfl,is,b,rfl,h1,h2,h3,h4]:=hi
  dsimp[dM,aw] at hu;cases es:sg[i]? with
  |none=>rw[es] at hu;simp at hu
  |some l=>
   rw[es] at hu;dsimp[iX,iY] at hu;subst hu;have il:=(ab.mp es).1;have hi:m9 f sg i=f l:=by unfold m9;rw[es];rfl
   rwa[hc i l _ ?_];cases z:f l with
   |false=>
    rw[if_neg (by simp)]
    rwa[hk _ _ #[rfl,is,b,rfl,h1,by rw[gB];omega,∅,λp=>?_]];rw[h4]
    by_cases zp:p=i
    .subst zp;simp[hi,z]
    .have:(p<i)↔(p<i+1):=∅
     dsimp[this]
   |true=>
    rw[if_pos rfl]
    rwa[he i l _ ∅ (hk _ _ #[rfl,is++[((1<<<i:Nat):Int)],2^i+b,by simp,?_,by rw[gB];omega,by simp;omega,λp=>?_])]
    .rw[K5,h1,ue];simp;omega
    .by_cases zp:p=i
     .subst zp
      rw[Nat.testBit_two_pow_add_eq,Cf h2];simp[hi,z]
     .by_cases zl:p<i
      .rw[Nat.testBit_two_pow_add_gt zl,h4]
       simp[zl,bc zl]
      .rw[Cf (av (show 2^i+b<2^(i+1) by rw[gB];omega) (bj ∅ ∅))]
       have:¬p<i+1:=∅
       simp[this]
 .let#[rfl,is,b,rfl,h1,_,_,h4]:=h
  rwa[q is b h1 λp=>?_]
  rw[h4]
  dsimp[ji,af];by_cases z:p<sg.length
  .simp[z]
  .unfold m9
   rw[cH ∅];simp
theorem v5(h:m9 f sg p=true):∃l,sg[p]?=some l/\f l=true:=by
 unfold m9 at h;cases e:sg[p]? with
 |none=>rw[e] at h;simp at h
 |some l=>rw[e] at h;exact#[l,rfl,h]
def Od:Spec:=λus S Q _=>∃L sg bh en c,us=[.loc L,.str [c]]/\se S L sg bh en/\sg.length<=100/\∀(b:Nat)S',Ext S S'->(∀p,b.testBit p=m9 (·.contains c) sg p)->Q (aM b) S'
theorem Rh(Γ:cf):Keeps Γ fW 0 Od:=by
 rintro us S Q E ⟨L,sg,bh,en,c,rfl,h,hl,q⟩;unfold fW;room;rw[JE h]
 room;rw[h.s,aC]
 rwa[yl (·.contains c) sg h.s hl (λi l k z=>?_) (λi l k hi z=>?_) λis b e hb=>?_]
 .room
  erw[z]
 .room
  exact#[∅,z]
 .exact#[is,by simp,by rw[e];erw[q b _ (Ext.app _) hb]]
noncomputable def zF(l:List Nat):Bool:=!(l==[])
def yL(sg:List (List Nat))(bh en:List Nat)(P:Nat->Prop):Prop:=(∀(Z p:Nat),Z∈en->Z.testBit p=true->m9 zF sg p=true->P p)/\∀(q B p:Nat),m9 zF sg q=true->bh[q]?=some B->B.testBit p=true->P p->P q
structure B4(sg:List (List Nat))(bh en:List Nat)(u:Nat):Prop where
 e:∀(Z p:Nat),Z∈en->Z.testBit p=true->m9 zF sg p=true->u.testBit p=true
 b:∀(q B p:Nat),m9 zF sg q=true->bh[q]?=some B->B.testBit p=true->u.testBit p=true->u.testBit q=true
 m:∀P,yL sg bh en P->∀p,u.testBit p=true->P p
def Vu:Spec:=λus S Q _=>∃L sg bh en,us=[.loc L]/\se S L sg bh en/\sg.length<=100/\bh.length=sg.length/\∀(u:Nat)S',Ext S S'->B4 sg bh en u->Q (aM u) S'
theorem Vv(Γ:cf)(h1:Γ "members"=Bt):Keeps Γ iU 5 Vu:=by
 rintro us S Q E ⟨L,sg,bh,en,rfl,h,hl,hb,q⟩;unfold iU;room;rw[JE h]
 room;rw[h.s,aC]
 rwa[yl zF sg h.s hl (λi l k z=>?_) (λi l k hi z=>?_) λis T e hT=>#[is,by simp,?_]]
 .room
  erw[z]
 .room
  exact#[∅,z]
 rw[e]
 have x0:Ext S (S++[SO.lst (is.map U.int)]):=Ext.app _;have h':=h.ext x0;generalize S++[SO.lst (is.map U.int)]=S0 at x0 h';have Tlt:∀p,T.testBit p=true->p<sg.length:=λp hp=>by
  rw[hT] at hp;let#[l,e,_]:=v5 hp;exact(ab.mp e).1
 have Tl:T<2^sg.length:=jU Tlt;room;rw[Q7 h']
 room;rw[h'.e,aC]
 refine dS (λi env S2=>S2=S0/\∃(gr:Nat)(x3:Option U),env=[some (.loc L),some (aM T),some (aM gr),x3,none,none]/\gr<2^sg.length/\(∀(Z p:Nat),Z∈en.take i->Z.testBit p=true->T.testBit p=true->gr.testBit p=true)/\∀P,yL sg bh en P->∀p,gr.testBit p=true->P p) (λi env S2 z=>z.1▸h'.e) _ ?_ ?_ #[rfl,0,none,rfl,Nat.two_pow_pos _,by simp,λP _ p z=>by simp at z]
 .rintro i u env S2 K hu ⟨rfl,gr,x3,rfl,hgr,inv,only⟩ hK
  let#[Z,hZ,rfl]:=fD hu;room;have et:=F8 hZ;rwa[hK _ _ #[rfl,gr|||(Z&&&T),_,rfl,KA hgr (jU λp hp=>?_),λZ' p m h1 h2=>?_,λP cl p hp=>?_]]
  .rw[bB,aj] at hp;erw[Tlt p hp.2]
  .rw[et] at m
   rw[cK,bB]
   rcases aG.mp m with m|m
   .rw[inv Z' p m h1 h2];rfl
   .simp at m;subst m;rw[h1,h2];simp
  .rw[cK,bB,bg,aj] at hp
   rcases hp with hp|⟨z1,z2⟩
   .erw[only P cl p hp]
   .erw[cl.1 Z p (ah hZ) z1 (by rw[<-hT];exact z2)]
 .rintro env S2 ⟨rfl,gr,x3,rfl,hgr,inv,only⟩
  room;rw[af,bS] at inv;have out:∀{S3:bF}{u:Nat},Ext S S3->(∀p,gr.testBit p=true->u.testBit p=true)->(∀(q B p:Nat),T.testBit q=true->bh[q]?=some B->B.testBit p=true->u.testBit p=true->u.testBit q=true)->(∀P,yL sg bh en P->∀p,u.testBit p=true->P p)->Q (aM u) S3:=λx3 a b c=>
   q _ _ x3 #[λZ p m z1 z2=>a p (inv Z p m z1 (by rw[hT];erw[z2])),λq B p z1=>b q B p (by rw[hT];erw[z1]),c]
  refine#[2^sg.length+1,oa (λn env S3=>∃(g2 u:Nat)(x3 x5:Option U),n=2^sg.length-u/\env=[some (.loc L),some (aM T),some (aM g2),x3,some (aM u),x5]/\Ext S S3/\se S3 L sg bh en/\u<=g2/\g2<2^sg.length/\(∀p,gr.testBit p=true->g2.testBit p=true) /\
   (∀(q B p:Nat),T.testBit q=true->bh[q]?=some B->B.testBit p=true->u.testBit p=true->g2.testBit q=true)/\∀P,yL sg bh en P->∀p,g2.testBit p=true->P p) ?_ _ (2^sg.length) _ _ ∅ #[gr,0,x3,none,∅,rfl,x0,h',∅,hgr,λ_ z=>z,λq B p _ _ _ z=>by simp at z,only]]
  rintro n env S3 K ⟨g2,u,x3,x5,rfl,rfl,x3',h3,hu,hg,ia,ib,ic⟩ hK;room;by_cases z:g2=u
  .subst z
   dsimp[beq_self_eq_true,bC,ao,if_false];room;erw[out x3' ia ib ic]
  .have:((g2:Int)== (u:Int))=false:=by
    rw[beq_eq_false_iff_ne];omega
   dsimp[this,bL,if_true];room;rwa[ca h1 #[T,rfl,av Tl (bj ∅ hl),λm S4 x4 hm g4=>?_]];room;rw[g4,aC]
   have h4:=h3.ext x4;refine dS (λi env S5=>S5=S4/\∃(g3:Nat)(x5:Option U),env=[some (.loc L),some (aM T),some (aM g3),x3,some (aM g2),x5]/\g2<=g3/\g3<2^sg.length/\(∀p,g2.testBit p=true->g3.testBit p=true) /\
    (∀(q B p:Nat),q∈(Dq T).take i->bh[q]?=some B->B.testBit p=true->g2.testBit p=true->g3.testBit q=true)/\∀P,yL sg bh en P->∀p,g3.testBit p=true->P p) (λi env S5 z=>z.1▸g4) _ ?_ ?_ #[rfl,g2,x5,rfl,ak _,hg,λ_ z=>z,by simp,ic]
   .rintro i v env S5 K' hv ⟨rfl,g3,x5,rfl,j1,j2,j3,j4,j5⟩ hK'
    let#[p,hp,rfl]:=fD hv;have pT:=lO.mp (ah hp);have pl:=Tlt p pT;have et:=F8 hp;room;rw[JF h4]
    room;rw[h4.b,aC,ju]
    rwa[uJ (aa ∅) ?_];room;by_cases w:(((bh[p]'∅&&&g2:Nat):Int) !=0)=true
    .rw[if_pos w]
     room;refine#[∅,?_];try room
     rwa[hK' _ _ #[rfl,g3|||1<<<p,_,rfl,aJ j1 Nat.left_le_or,KA j2 (jU λr hr=>?_),λr hr=>by rw[cK,j3 r hr];rfl,λq B r m e1 e2 e3=>?_,λP cl r hr=>?_]]
     .rw[sf] at hr;have:=eq_of_beq hr;omega
     .rw[et] at m
      rw[cK,sf]
      rcases aG.mp m with m|m
      .rw[j4 q B r m e1 e2 e3];rfl
      .simp at m;subst m;simp
     .rw[cK,sf,bg] at hr
      rcases hr with hr|hr
      .erw[j5 P cl r hr]
      .have:=eq_of_beq hr
       subst this;let#[s,hs]:=zD.mp w;rw[bB,aj] at hs;erw[cl.2 _ _ s (by rw[<-hT];exact pT) (aa ∅) hs.1 (ic P cl s hs.2)]
    .rw[if_neg w]
     room;rwa[hK' _ _ #[rfl,g3,_,rfl,j1,j2,j3,λq B r m e1 e2 e3=>?_,j5]];rw[et] at m;rcases aG.mp m with m|m
     .erw[j4 q B r m e1 e2 e3]
     .simp at m;subst m
      rwa[absurd (zD.mpr #[r,?_]) w];rw[aa ∅] at e1;injection e1 with e1
      rw[e1,bB,e2,e3];rfl
   .rintro env S5 ⟨rfl,g3,x5,rfl,j1,j2,j3,j4,j5⟩
    rw[af,bS] at j4;room;erw[hK (2^sg.length-g2) _ _ ∅ #[g3,g2,_,_,rfl,rfl,x3'.trans x4,h4,j1,j2,λp hp=>j3 p (ia p hp),λq B p z1=>j4 q B p (lO.mpr z1),j5]]
noncomputable def jE(f:List Nat->Bool):List (List Nat)->Nat
 |[]=>0
 |l::r=>(if f l=true then 1 else 0)+2*jE f r
theorem sh:∀{sg:List (List Nat)}{p:Nat},(jE f sg).testBit p=m9 f sg p
 |[],p=>by simp[jE,m9]
 |l::r,0=>by
  unfold jE m9;rw[Nat.testBit_zero]
  cases z:f l<;>simp[z]<;>omega
 |l::r,p+1=>by
  unfold jE;have e:((if f l=true then 1 else 0)+2*jE f r)/2=jE f r:=by split<;>omega
  rw[Nat.testBit_succ,e,sh]
  rfl
section
variable{S S1 S2:bF}{r n:Nat}{o:SO}
theorem lX(a:Old r S S1)(h:S[n]?=some o)(ne:n≠r):S1[n]?=some o:=(a.2 n (aW h) ne).trans h
theorem Ri(a:Old r S S1)(b:Ext S1 S2):Old r S S2:=a.trans (Ext.old b)
theorem tw{c f:String}{fs:List (String×U)}{v:U}{K:bF->Prop}(h:S[r]?=some (.ins c fs))(hl:fs.length<100)(q:∀S',Old r S S'->S'.length=S.length->S'[r]?=some (.ins c (fS f v fs))->K S'):
  oC S[r]? λc fs=>fs.length<100/\K (S.set r (.ins c (fS f v fs))):=by
 rw[h,bx]
 exact#[hl,q _ (lU.set h).old (by simp) (gs h)]
end
structure Bx(S:bF)(P:Nat)(bh en:List Nat)(tk:Nat->Nat):Prop where
 o:∃b e k,S[P]?=some (.ins "Places" [("behind",.loc b),("ends",.loc e),("takers",.loc k)])/\S[b]?=some (.lst (bh.map aM))/\S[e]?=some (.lst (en.map aM))/\S[k]?=some (.dH (SG.map λc=>(.str [c],aM (tk c))))
theorem Bx.ext{S S':bF}{P:Nat}{bh en:List Nat}{tk:Nat->Nat}(h:Bx S P bh en tk)(x:Ext S S'):Bx S' P bh en tk:=by
 let#[b,e,k,h1,h2,h3,h4]:=h.o;exact#[b,e,k,x.get h1,x.get h2,x.get h3,x.get h4]
def JI:Spec:=λus S Q _=>∃P L sg bh en,us=[.loc P,.loc L]/\S[P]?=some (.ins "Places" [])/\S.length=P+1/\se S L sg bh en/\sg.length<=100/\bh.length=sg.length/\en.length<=100 /\
 ∀u S',B4 sg bh en u->(∀n,n<P->S'[n]?=S[n]?)->Bx S' P (bh.map (·&&&u)) en (λc=>jE (·.contains c) sg)->Q .bQ S'
theorem Oe:(SG.map λc=>[c]).Nodup:=⋯
theorem Vw(Γ:cf)(h1:Γ "useful_places"=Vu)(h2:Γ "places_that_take"=Od):Keeps Γ ki 1 JI:=by
 rintro us S Q E ⟨P,L,sg,bh,en,rfl,hP,hs,h,hl,hb,he,q⟩;unfold ki;have nd:=Oe;generalize hG:SG=G at nd;have gl:G.length=95:=by rw[<-hG];rfl
 room;refine ca h1 #[L,sg,bh,en,rfl,h,hl,hb,λu S1 x1 hu=>?_];have la:=h.ext x1;have hP1:=x1.get hP;have ne:L+4<=P:=by
  have:=h.len;have n0:¬L=P:=λz=>by rw[z] at h;rw[h.o] at hP;simp at hP
  have n1:¬L+1=P:=λz=>by rw[<-z,h.s] at hP;simp at hP
  have n2:¬L+2=P:=λz=>by rw[<-z,h.b] at hP;simp at hP
  have n3:¬L+3=P:=λz=>by rw[<-z,h.e] at hP;simp at hP
  omega
 room;rw[JF la]
 room;rw[la.b,aC]
 refine yk (S:=S1) _ (λ_=>true) (λv=>match v with|.int i=>aM (i.toNat&&&u)|v=>v) la.b (by simp;omega) (λv k _ z=>z.1 rfl) (λv k hv _ z=>?_) ?_
 .let#[B,_,rfl]:=bq.mp hv
  room;erw[z]
 have e1:(List.filter (λ_=>true) (bh.map aM)).map (λv=>match v with|.int i=>aM (i.toNat&&&u)|v=>v)=(bh.map (·&&&u)).map aM:=by
  rw[List.filter_eq_self.mpr (λ_ _=>rfl),bu,bu];rfl
 rw[e1]
 have x2:Ext S1 (S1++[SO.lst ((bh.map (·&&&u)).map aM)]):=Ext.app _;have g2:(S1++[SO.lst ((bh.map (·&&&u)).map aM)])[S1.length]?=some (.lst ((bh.map (·&&&u)).map aM)):=by simp
 have n2:S1.length≠P:=by have:=x1.1;omega
 generalize S1.length=b at g2 n2;generalize S1++[SO.lst ((bh.map (·&&&u)).map aM)]=S2 at g2 x2;rwa[tw (x2.get hP1) (by simp) λS3 o3 l3 hP3=>?_]
 have la3:se S3 L sg bh en:=by
  have:=la.ext x2;exact#[lX o3 this.o ∅,lX o3 this.s ∅,lX o3 this.b ∅,lX o3 this.e ∅]
 have g3:=lX o3 g2 n2;have o13:=(Ext.old (r:=P) (x1.trans x2)).trans o3;room;rw[Q7 la3]
 room;rw[la3.e,aC]
 have x4:Ext S3 (S3++[SO.lst (en.map aM)]):=Ext.app _;have g4:(S3++[SO.lst (en.map aM)])[S3.length]?=some (.lst (en.map aM)):=by simp
 have n4:S3.length≠P:=by have:=o13.1;omega
 generalize S3.length=e at g4 n4;generalize S3++[SO.lst (en.map aM)]=S4 at g4 x4;rwa[tw (x4.get hP3) (by simp[fS]) λS5 o5 l5 hP5=>?_]
 have la5:se S5 L sg bh en:=by
  have:=la3.ext x4;exact#[lX o5 this.o ∅,lX o5 this.s ∅,lX o5 this.b ∅,lX o5 this.e ∅]
 have o15:=(Ri o13 x4).trans o5;have g35:=lX o5 (x4.get g3) n2;have g45:=lX o5 g4 n4;room;rwa[fj _ (λi acc S6=>i<=G.length/\Ext S5 S6/\acc=(G.take i).map λc=>.tup [.str [c],aM (jE (·.contains c) sg)]) (λi acc S6 hi z=>#[trivial,?_]) (λi v acc S6 k hv hi hk=>?_) (λacc S6 z=>?_) #[∅,.refl,rfl]]
 .rw[z.2.2];simp;omega
 .let#[_,x6,rfl]:=hi
  let#[c,hc,rfl]:=fD hv;have et:=F8 hc;room;rwa[ca h2 #[L,sg,bh,en,c,rfl,la5.ext x6,hl,λb S7 x7 hb=>#[by simp,?_]]];have eb:b=jE (·.contains c) sg:=kS λp=>by rw[hb,sh]
  subst eb;erw[hk _ _ #[(ab.mp hc).1,x6.trans x7,by rw[et,aD];rfl]]
 let#[_,x6,rfl]:=z;rw[af,bS]
 refine#[G.map λc=>([c],aM (jE (·.contains c) sg)),by simp[dh],by rw[bu];erw[nd],?_];rw[bu]
 have x7:Ext S6 (S6++[SO.lst (G.map λc=>.tup [.str [c],aM (jE (·.contains c) sg)])]++[SO.dH (G.map ((λp=>(U.str p.1,p.2))∘λc=>([c],aM (jE (·.contains c) sg))))]):=(Ext.app _).trans (Ext.app _);have g7:(S6++[SO.lst (G.map λc=>.tup [.str [c],aM (jE (·.contains c) sg)])]++[SO.dH (G.map ((λp=>(U.str p.1,p.2))∘λc=>([c],aM (jE (·.contains c) sg))))])[(S6++[SO.lst (G.map λc=>.tup [.str [c],aM (jE (·.contains c) sg)])]).length]?=some (.dH (G.map λc=>(.str [c],aM (jE (·.contains c) sg)))):=by
  rw[ax (ak _),b8];rfl
 have n7:(S6++[SO.lst (G.map λc=>.tup [.str [c],aM (jE (·.contains c) sg)])]).length≠P:=by
  have:=o15.1;have:=x6.1;rw[ar];omega
 generalize (S6++[SO.lst (G.map λc=>.tup [.str [c],aM (jE (·.contains c) sg)])]).length=k at g7 n7;generalize S6++[SO.lst (G.map λc=>.tup [.str [c],aM (jE (·.contains c) sg)])]++[SO.dH (G.map ((λp=>(U.str p.1,p.2))∘λc=>([c],aM (jE (·.contains c) sg))))]=S7 at g7 x7;rwa[tw ((x6.trans x7).get hP5) (by simp[fS]) λS8 o8 l8 hP8=>?_]
 room;subst hG;erw[q u S8 hu (λn hn=>((Ri o15 (x6.trans x7)).trans o8).2 n ∅ ∅) #[b,e,k,hP8,lX o8 ((x6.trans x7).get g35) n2,lX o8 ((x6.trans x7).get g45) n4,lX o8 g7 n7]]
def Nf(bh:List Nat)(h r:Nat):Prop:=∀p,r.testBit p=true↔∃q B,h.testBit q=true/\bh[q]?=some B/\B.testBit p=true
def Ds:Spec:=λus S Q _=>∃P bh en tk h,us=[.loc P,aM h]/\Bx S P bh en tk/\bh.length<=100/\(∀p,h.testBit p=true->p<bh.length)/\∀r S',Nf bh h r->Ext S S'->Q (aM r) S'
theorem Vx(Γ:cf)(h1:Γ "members"=Bt):Keeps Γ iV 2 Ds:=by
 rintro us S Q E ⟨P,bh,en,tk,h,rfl,pa,hl,hh,q⟩;unfold iV;room;rwa[ca h1 #[h,rfl,av (jU hh) (bj ∅ hl),λn S1 x1 hn g1=>?_]];let#[b,e,k,o,gb,_,_]:=(pa.ext x1).o;have fb:∀{r},lF (.loc P) "behind" S1 r=r (.loc b):=by intro r;rw[fO,o];rfl
 room;rw[g1,aC]
 rwa[dS (λi env S2=>S2=S1/\∃(r:Nat)(x3:Option U),env=[some (.loc P),some (aM h),some (aM r),x3]/\∀p,r.testBit p=true↔∃q B,q∈(Dq h).take i/\bh[q]?=some B/\B.testBit p=true) (λi env S2 z=>z.1▸g1) _ ?_ ?_ #[rfl,0,none,rfl,by simp]]
 .rintro i u env S2 K hu ⟨rfl,r,x3,rfl,inv⟩ hK
  let#[p,hp,rfl]:=fD hu;have pl:=hh p (lO.mp (ah hp));have et:=F8 hp;room;rw[fb]
  room;rw[gb,aC,ju]
  rwa[uJ (aa pl) ?_];room;rwa[hK _ _ #[rfl,_,_,rfl,λp'=>?_]];rw[cK,bg,inv,et]
  constructor
  .rintro(⟨q,B,m,e1,e2⟩|e2)
   .exact#[q,B,bR _ m,e1,e2]
   .exact#[p,_,ba _ (by simp),aa pl,e2]
  .rintro⟨q,B,m,e1,e2⟩
   rcases aG.mp m with m|m
   .erw[.inl #[q,B,m,e1,e2]]
   .simp at m;subst m
    rw[aa pl] at e1;injection e1 with e1
    erw[.inr (by rw[e1];exact e2)]
 .rintro env S2 ⟨rfl,r,x3,rfl,inv⟩
  room;rwa[q r _ (λp=>?_) x1];rw[inv,af,bS]
  dsimp[lO]
def Ov(h:Nat)(en:List Nat)(i:Nat):Prop:=∃Z,en[i]?=some Z/\∃p,h.testBit p=true/\Nat.testBit Z p=true
def uN:Option Nat->U
 |none=>.bQ
 |some i=>aM i
def Vy(h:Nat)(en:List Nat):Option Nat->Prop
 |none=>∀i,¬Ov h en i
 |some i=>Ov h en i/\∀i',i'<i->¬Ov h en i'
def Gd:Spec:=λus S Q _=>∃P bh en tk h,us=[.loc P,aM h]/\Bx S P bh en tk/\∀r,Vy h en r->Q (uN r) S
theorem Vz(Γ:cf):Keeps Γ fK 2 Gd:=by
 rintro us S Q E ⟨P,bh,en,tk,h,rfl,pa,q⟩;unfold fK;let#[b,e,k,o,_,ge,_]:=pa.o;have fe:∀{r},lF (.loc P) "ends" S r=r (.loc e):=by intro r;rw[fO,o];rfl
 room;rw[fe]
 room;rw[ge,aC]
 rwa[dS (λi env S2=>S2=S/\∃(x2 x3:Option U),env=[some (.loc P),some (aM h),x2,x3]/\∀i',i'<i->¬Ov h en i') (λi env S2 z=>z.1▸ge) _ ?_ ?_ #[rfl,none,none,rfl,by simp]]
 .rintro i u env S2 K hu ⟨rfl,x2,x3,rfl,inv⟩ hK
  dsimp[dM,aw,pB] at hu;let#[Z,hZ,rfl]:=aq.mp hu;dsimp[dh];room;by_cases w:(((h&&&Z:Nat):Int) !=0)=true
  .rw[if_pos w]
   room;let#[p,hp]:=zD.mp w;rw[bB,aj] at hp;erw[q (some i) #[#[Z,hZ,p,hp.1,hp.2],inv]]
  .rw[if_neg w]
   room;rwa[hK _ _ #[rfl,_,_,rfl,λi' hi=>?_]];by_cases z:i'=i
   .subst z
    rintro⟨Z',e1,p,e2,e3⟩;rw[hZ] at e1;injection e1 with e1;subst e1
    erw[w (zD.mpr #[p,by rw[bB,e2,e3];rfl])]
   .erw[inv i' ∅]
 .rintro env S2 ⟨rfl,x2,x3,rfl,inv⟩
  room;rwa[q none λi ov=>?_]
  let#[Z,e1,_]:=ov;exact inv i (by have:=(ab.mp e1).1;simpa using this) #[Z,e1,‹_›]
theorem Zx{S:bF}{r k:Nat}{c f:String}{fs:List (String×U)}{K:bF->Prop}(h:S[r]?=some (.ins c fs))(hv:fs.lookup f=some (aM k))(hl:fs.length<100)(q:∀S',Old r S S'->S'.length=S.length->S'[r]?=some (.ins c (fS f (aM (k+1)) fs))->K S'):
  oC S[r]? λc fs=>opt (fs.lookup f) λv=>wR .add v (.int 1) S λz S3=>oC S3[r]? λc' fs'=>c'=c/\fs'.length<100/\K (S3.set r (.ins c (fS f z fs'))):=by
 rw[h,bx,hv]
 show oC S[r]? _
 rw[h,bx]
 exact#[rfl,hl,q _ (lU.set h).old (by simp) (gs h)]
def GX(P:Nat)(r k:Nat)(f:U):SO:=.ins "Walk" [("places",.loc P),("reach",aM r),("passed",aM k),("found",f)]
section
variable{S:bF}{w P r k:Nat}{f:U}{R:U->Prop}(h:S[w]?=some (GX P r k f))
include h
theorem Rj:lF (.loc w) "places" S R=R (.loc P):=by rw[fO,h];rfl
theorem VA:lF (.loc w) "reach" S R=R (aM r):=by rw[fO,h];rfl
theorem Rk:lF (.loc w) "passed" S R=R (aM k):=by rw[fO,h];rfl
theorem Zy:lF (.loc w) "found" S R=R f:=by rw[fO,h];rfl
end
theorem Bx.old(h:Bx S P bh en tk)(x:Old r S S')(hr:S[r]?=some (.ins c fs))(ne:P≠r):Bx S' P bh en tk:=by
 let#[b,e,k,h1,h2,h3,h4]:=h.o;exact#[b,e,k,lX x h1 ne,lX x h2 (λz=>by rw[z,hr] at h2;simp at h2),lX x h3 (λz=>by rw[z,hr] at h3;simp at h3),lX x h4 (λz=>by rw[z,hr] at h4;simp at h4)]
def VB:Spec:=λus S Q _=>∃w P bh en tk,us=[.loc w,.loc P]/\S[w]?=some (.ins "Walk" [])/\Bx S P bh en tk/\P≠w/\bh.length<=100/\1<=bh.length/\∀r S',Nf bh 1 r->Old w S S'->S'[w]?=some (GX P r 0 .bQ)->Q .bQ S'
theorem VC(Γ:cf)(h1:Γ "Places.beyond"=Ds):Keeps Γ mq 0 VB:=by
 rintro us S Q E ⟨w,P,bh,en,tk,rfl,hw,pa,ne,hl,h0,q⟩;unfold mq;room;rwa[tw hw (by simp) λS1 o1 l1 g1=>?_]
 have pa1:=pa.old o1 hw ne;let#[b,e,k,oP,_]:=pa1.o;room;rw[oP,bx]
 refine#[#[rfl,rfl],ca h1 #[P,bh,en,tk,1,rfl,pa1,hl,λp hp=>?_,λr S2 hr x2=>?_]]
 .have:=dA.mp hp;omega
 rwa[tw (x2.get g1) (by simp[fS]) λS3 o3 l3 g3=>?_]
 room;rwa[tw g3 (by simp[fS]) λS4 o4 l4 g4=>?_]
 room;rwa[tw g4 (by simp[fS]) λS5 o5 l5 g5=>?_]
 room;erw[q r S5 hr ((((Ri o1 x2).trans o3).trans o4).trans o5) g5]
def VD:Spec:=λus S Q _=>∃w P r k f,us=[.loc w]/\S[w]?=some (GX P r k f)/\Q (.bl (!((r:Int)== 0))) S
theorem VE(Γ:cf):Keeps Γ ig 0 VD:=by
 rintro us S Q E ⟨w,P,r,k,f,rfl,hw,q⟩;unfold ig;room;rw[VA hw]
 room;erw[q]
theorem By{α:Type}{f:Nat->α}:∀{l:List Nat}{c:Nat},c∈l->(l.map λc=>([c],f c)).lookup [c]=some (f c)
 |x::l,c,h=>by
  rw[au,aK]
  by_cases z:c=x
  .subst z;simp
  .have:(([c]:List Nat)== [x])=false:=by simp[z]
   rw[this]
   exact By (by rcases aN.mp h with h|h;erw[absurd h z];erw[h])
def uF(r:Option Nat)(k:Nat)(f:U):U:=match r with|none=>f|some i=>.tup [aM i,aM k]
def VF:Spec:=λus S Q _=>∃w P r k f c bh en tk,us=[.loc w,.str [c]]/\S[w]?=some (GX P r k f)/\Bx S P bh en tk/\P≠w/\bh.length<=100/\c∈SG/\(∀p,r.testBit p=true->p<bh.length) /\
 ∀r' i S',Nf bh (r&&&tk c) r'->Vy (r&&&tk c) en i->Old w S S'->S'[w]?=some (GX P r' (k+1) (uF i (k+1) f))->Q .bQ S'
theorem VG(Γ:cf)(h1:Γ "Places.beyond"=Ds)(h2:Γ "Places.first_rule"=Gd):Keeps Γ mr 2 VF:=by
 rintro us S Q E ⟨w,P,r,k,f,c,bh,en,tk,rfl,hw,pa,ne,hl,hc,hr,q⟩;unfold mr;let#[b,e,t,oP,_,_,gt]:=pa.o;have ft:∀{R},lF (.loc P) "takers" S R=R (.loc t):=by intro R;rw[fO,oP];rfl
 room;rw[VA hw,Rj hw,ft]
 room;rw[gt]
 dsimp[getD_some,hW,true_and];refine#[SG.map λc=>([c],aM (tk c)),by rw[bu];rfl,?_];rw[By hc]
 dsimp[dy];room;rw[Rj hw]
 room;rw[oP,bx]
 refine#[#[rfl,rfl],ca h1 #[P,bh,en,tk,r&&&tk c,rfl,pa,hl,λp hp=>hr p ?_,λr' S1 hr' x1=>?_]]
 .rw[bB,aj] at hp;erw[hp.1]
 rwa[tw (x1.get hw) (by simp) λS2 o2 l2 g2=>?_]
 have g2:S2[w]?=some (GX P r' k f):=g2;have pa2:=(pa.ext x1).old o2 (x1.get hw) ne;room;rwa[Zx (k:=k) g2 rfl (by simp) λS3 o3 l3 g3=>?_]
 have pa3:=pa2.old o3 g2 ne;have g3:S3[w]?=some (GX P r' (k+1) f):=g3;let#[_,_,_,oP3,_]:=pa3.o;room;rw[Rj g3]
 room;rw[oP3,bx]
 refine#[#[rfl,rfl],ca h2 #[P,bh,en,tk,r&&&tk c,rfl,pa3,λi hi=>?_]];have oo:=((Ext.old (r:=w) x1).trans o2).trans o3;cases i with
 |none=>
  unfold uN;room;erw[q r' none S3 hr' hi oo g3]
 |some i=>
  unfold uN;room;rw[Rk g3]
  refine#[by simp,tw g3 (by simp) λS4 o4 l4 g4=>?_];room;erw[q r' (some i) S4 hr' hi (oo.trans o4) g4]
structure wx(ts:List Tr)(sg:List (List Nat))(bh en:List Nat):Prop where
 len:bh.length=sg.length
 Ge:en.length=ts.length
 dis:∀(i j:Nat)t t' p,ts[i]?=some t->ts[j]?=some t'->IN t p=true->IN t' p=true->i=j
 pos:∀t∈ts,∃n,0<n/\oy n t
 sgn:∀t∈ts,∀p,IN t p=true->sg[p]?=some (sgn t p)
 b0:∃B,bh[0]?=some B/\∀p,B.testBit p=true↔∃t∈ts,FS t p=true
 b:∀t∈ts,∀q,IN t q=true->∃B,bh[q]?=some B/\∀p,B.testBit p=ox (cont t q) p
 e:∀(i:Nat)t,ts[i]?=some t->∃Z,en[i]?=some Z/\∀p,Z.testBit p=(IN t p&&dU (cont t p))
 nl:∀t∈ts,null t=false
section
variable{ts:List Tr}{sg:List (List Nat)}{bh en:List Nat}{u r r' c:Nat}{w:List Nat}
def GY(ts:List Tr)(u:Nat)(w:List Nat)(r:Nat):Prop:=∀p,r.testBit p=true↔(∃t∈ts,∃q,hs t w q/\ox (ct t q) p=true)/\u.testBit p=true
theorem uK{q B:Nat}(h:(bh.map (·&&&u))[q]?=some B):∃B',bh[q]?=some B'/\B=B'&&&u:=by
 rw[aw] at h;let#[B',h1,h2]:=aq.mp h;exact#[B',h1,h2.symm]
theorem ct0:ct t 0=[t]:=rfl
theorem SJ(h:p≠0):ct t p=cont t p:=by unfold ct;rw[if_neg h]
theorem VH:ox [t] p=FS t p:=by simp[ox]
theorem ym(A:wx ts sg bh en)(h:Nf (bh.map (·&&&u)) 1 r):GY ts u [] r:=by
 intro p;let#[B,e0,b0]:=A.b0;rw[h p]
 constructor
 .rintro⟨q,B',h1,h2,h3⟩
  have q0:=dA.mp h1;subst q0;let#[B2,e2,rfl]:=uK h2;rw[e0] at e2;injection e2 with e2;subst e2
  rw[bB,aj,b0] at h3;let#[#[t,m,f],z]:=h3;exact#[#[t,m,0,rfl,by rw[ct0,VH];erw[f]],z]
 .rintro⟨⟨t,m,q,hq,f⟩,z⟩
  have hq:q=0:=hq;subst hq;rw[ct0,VH] at f;exact#[0,B&&&u,rfl,by rw[aw,e0];rfl,by rw[bB,(b0 p).mpr #[t,m,f],z];rfl]
theorem si(A:wx ts sg bh en)(h:GY ts u w r)(p:Nat):(r&&&jE (·.contains c) sg).testBit p=true↔(∃t∈ts,hs t (w++[c]) p)/\u.testBit p=true:=by
 rw[bB,aj,h p,sh]
 constructor
 .rintro⟨⟨⟨t,m,q,hq,f⟩,z⟩,k⟩
  let#[l,e1,e2]:=v5 k;rw[A.sgn t m p (Br f)] at e1;injection e1 with e1;subst e1
  exact#[#[t,m,by rw[pU];exact#[q,hq,f,gJ.mp e2]],z]
 .rintro⟨⟨t,m,hq⟩,z⟩
  rw[pU] at hq;let#[q,hq,f,k]:=hq;refine#[#[#[t,m,q,hq,f],z],?_];unfold m9;rw[A.sgn t m p (Br f)]
  erw[gJ.mpr k]
theorem pV(A:wx ts sg bh en)(m:t∈ts)(h:hs t (w++[c]) p):IN t p=true/\p≠0/\m9 zF sg p=true:=by
 rw[pU] at h;let#[q,_,f,k]:=h;have i:=Br f;let#[n,n0,pl]:=A.pos t m;refine#[i,zC pl n0 i,?_];unfold m9;rw[A.sgn t m p i]
 show zF (sgn t p)=true
 unfold zF;cases e:lT.sgn t p with
 |nil=>rw[e] at k;simp at k
 |cons a l=>rfl
theorem Bz(A:wx ts sg bh en)(U:B4 sg bh en u)(m:t∈ts)(h:hs t (w++[c]) q)(f:ox (ct t q) p=true)(z:u.testBit p=true):u.testBit q=true:=by
 let#[i,q0,k]:=pV A m h;let#[B,e1,e2]:=A.b t m q i;rw[SJ q0] at f;erw[U.b q B p k e1 (by rw[e2];exact f) z]
theorem sj(A:wx ts sg bh en)(U:B4 sg bh en u)(h:GY ts u w r)(hr:Nf (bh.map (·&&&u)) (r&&&jE (·.contains c) sg) r'):GY ts u (w++[c]) r':=by
 intro p;rw[hr p]
 constructor
 .rintro⟨q,B',h1,h2,h3⟩
  let#[#[t,m,hq],_]:=(si A h q).mp h1;let#[i,q0,_]:=pV A m hq;let#[B2,e2,rfl]:=uK h2;let#[B,e1,b1]:=A.b t m q i;rw[e1] at e2;injection e2 with e2;subst e2
  rw[bB,aj,b1] at h3;exact#[#[t,m,q,hq,by rw[SJ q0];erw[h3.1]],h3.2]
 .rintro⟨⟨t,m,q,hq,f⟩,z⟩
  have uq:=Bz A U m hq f z;let#[i,q0,_]:=pV A m hq;let#[B,e1,b1]:=A.b t m q i;rw[SJ q0] at f;exact#[q,B&&&u,(si A h q).mpr #[#[t,m,hq],uq],by rw[aw,e1];rfl,by rw[bB,b1,f,z];rfl]
theorem ED(A:wx ts sg bh en)(U:B4 sg bh en u)(m:t∈ts)(h:hs t (w++[c]) p)(n:dU (ct t p)=true):u.testBit p=true:=by
 let#[i,p0,k]:=pV A m h;rw[SJ p0] at n;let#[j,ej]:=cB m;let#[Z,e1,e2]:=A.e j t ej;erw[U.e Z p (ah e1) (by rw[e2,i,n];rfl) k]
theorem BA(A:wx ts sg bh en)(U:B4 sg bh en u)(h:GY ts u w r)(i:Nat):Ov (r&&&jE (·.contains c) sg) en i↔∃t,ts[i]?=some t/\En t (hs t (w++[c])):=by
 constructor
 .rintro⟨Z,e1,p,h1,h2⟩
  have hi:i<ts.length:=by rw[<-A.Ge];exact(ab.mp e1).1
  let#[Z',e2,b2]:=A.e i _ (aa hi);rw[e1] at e2;injection e2 with e2;subst e2
  rw[b2,aj] at h2;let#[#[t,m,hq],_]:=(si A h p).mp h1;let#[ip,p0,_]:=pV A m hq;let#[j,ej]:=cB m;have:=A.dis i j _ t p (aa hi) ej h2.1 ip;subst this;rw[aa hi] at ej;injection ej with ej;subst ej
  exact#[_,aa hi,p,hq,by rw[SJ p0];erw[h2.2]]
 .rintro⟨t,ei,p,hq,n⟩
  have m:=ah ei;let#[Z,e1,e2]:=A.e i t ei;let#[ip,p0,_]:=pV A m hq;have up:=ED A U m hq n;rw[SJ p0] at n;exact#[Z,e1,p,(si A h p).mpr #[#[t,m,hq],up],by rw[e2,ip,n];rfl]
theorem JJ(A:wx ts sg bh en)(U:B4 sg bh en u)(h:GY ts u w 0)(m:t∈ts):∀(v:List Nat)(c p:Nat),hs t (w++v++[c]) p->¬u.testBit p=true:=by
 intro v;generalize hn:v.length=n;induction n generalizing v with
 |zero=>
  intro c p hp z;rw[fM.mp hn,bU,pU] at hp;let#[q,hq,f,_]:=hp;have:=(h p).mpr #[#[t,m,q,hq,f],z];simp at this
 |succ n ih=>
  intro c p hp z;rw[pU] at hp;let#[q,hq,f,_]:=hp;have nn:v≠[]:=λe=>by rw[e] at hn;simp at hn
  rw[<-List.dropLast_concat_getLast nn,<-bJ] at hq;erw[ih v.dropLast (by simp[hn]) _ q hq (Bz A U m hq f z)]
theorem JK(A:wx ts sg bh en)(U:B4 sg bh en u)(h:GY ts u (x.take k) 0)(hj:k<j)(hx:j<=x.length):Nn ts x j i:=by
 rintro t e ⟨p,hp,n⟩;have m:=ah e;obtain⟨j',rfl⟩:∃j',j=j'+1:=#[j-1,∅]
 have e1:x.take (j'+1)=x.take k++(x.drop k).take (j'-k)++[x[j']'∅]:=by
  rw[take_snoc (aa ∅)]
  congr 1
  obtain⟨d,rfl⟩:∃d,j'=k+d:=#[j'-k,∅]
  rw[List.take_add];simp
 rw[e1] at hp;erw[JJ A U h m _ _ p hp (ED A U m hp n)]
end
structure KO(S:bF)(P:Nat)(ts:List Tr)(u:Nat):Prop where
 o:∃sg bh en,Bx S P (bh.map (·&&&u)) en (λc=>jE (·.contains c) sg)/\wx ts sg bh en/\B4 sg bh en u/\sg.length<=100
theorem KO.ext{S S':bF}{P:Nat}{ts:List Tr}{u:Nat}(h:KO S P ts u)(x:Ext S S'):KO S' P ts u:=by
 let#[sg,bh,en,pa,A,U,l]:=h.o;exact#[sg,bh,en,pa.ext x,A,U,l]
theorem KO.old(h:KO S P ts u)(x:Old r S S')(hr:S[r]?=some (.ins c fs))(ne:P≠r):KO S' P ts u:=by
 let#[sg,bh,en,pa,A,U,l]:=h.o;exact#[sg,bh,en,pa.old x hr ne,A,U,l]
theorem Rl(A:wx ts sg bh en)(h:GY ts u w r)(p:Nat)(hp:r.testBit p=true):p<(bh.map (·&&&u)).length:=by
 let#[#[t,m,q,_,f],_]:=(h p).mp hp;have:=(ab.mp (A.sgn t m p (Br f))).1;rw[af,A.len];erw[this]
structure VI(ts:List Tr)(u:Nat)(x:List Nat)(r k:Nat)(f:Option (Nat×Nat)):Prop where
 le:k<=x.length
 wr:GY ts u (x.take k) r
 bs:Ad ts x k f
def VJ:Spec:=λus S Q _=>∃w P r k f x ts u,us=[.loc w,.str x]/\S[w]?=some (GX P r k (uR f))/\KO S P ts u/\P≠w/\VI ts u x r k f/\(∀c∈x,c∈SG)/\x.length<=1000 /\
 ∀f r k S',VI ts u x r k f->(r=0\/k=x.length)->Old w S S'->S'[w]?=some (GX P r k (uR f))->Q .bQ S'
theorem VL(Γ:cf)(h1:Γ "Walk.may_go_on"=VD)(h2:Γ "Walk.step"=VF):Keeps Γ kZ 0 VJ:=by
 rintro us S Q E ⟨w,P,r,k,f,x,ts,u,rfl,hw,pa,ne,wa,hx,hl,q⟩;unfold kZ;room;refine#[x.length+1,oa (λn env S1=>∃k r f,n=x.length-k/\env=[some (.loc w),some (.str x)]/\Old w S S1/\S1[w]?=some (GX P r k (uR f))/\KO S1 P ts u/\VI ts u x r k f) ?_ _ (x.length-k) _ _ ∅ #[k,r,f,rfl,rfl,.refl,hw,pa,wa]];rintro n env S1 K ⟨k,r,f,rfl,rfl,o1,g1,pa1,wa⟩ hK;let#[hk,wr,bs]:=id wa;room;have g1':=g1;unfold GX at g1';rw[g1',bx]
 refine#[#[rfl,rfl],ca h1 #[w,P,r,k,_,rfl,g1,?_]];let#[sg,bh,en,pp,A,U,l]:=pa1.o;room;by_cases z:r=0
 .subst z
  have:((((0:Nat):Int))== 0)=true:=rfl;dsimp[this,bC,ao,if_false];room;erw[q f _ k S1 wa (.inl rfl) o1 g1]
 .have:((r:Int)== 0)=false:=by rw[beq_eq_false_iff_ne];omega
  dsimp[this,bL,if_true];rw[Rk g1]
  room;refine#[∅,?_];by_cases y:k<x.length
  .have:((k:Int)<(x.length:Int)):=∅
   dsimp[this,decide_true,if_true];room;rw[g1',bx]
   refine#[#[rfl,rfl],?_];rw[Rk g1]
   room;rw[ju,aa y,bp]
   have hc:x[k]?=some x[k]:=aa y;refine#[∅,ca h2 #[w,P,r,k,_,x[k],_,en,_,rfl,g1,pp,ne,by rw[af,A.len];exact l,hx _ (bT y),Rl A wr,λr' i S2 hb hf o2 g2=>?_]];room;have wr':=sj A U wr hb;rw[<-take_snoc hc] at wr';have nn:∀i,Nn ts x (k+1) i↔¬Ov (r&&&jE (·.contains x[k]) sg) en i:=λi=>by
    rw[BA A U wr i,<-take_snoc hc]
    exact#[λh #[t,e,z]=>h t e z,λh t e z=>h #[t,e,z]]
   cases i with
   |none=>exact hK (x.length-(k+1)) _ _ ∅ #[k+1,r',f,rfl,rfl,o1.trans o2,g2,pa1.old o2 g1' ne,∅,wr',Bs bs ∅ λj i h1 h2=>by
     have:j=k+1:=∅
     subst this;exact(nn i).mpr (hf i)]
   |some i=>erw[hK (x.length-(k+1)) _ _ ∅ #[k+1,r',some (i,k+1),rfl,rfl,o1.trans o2,g2,pa1.old o2 g1' ne,∅,wr',Nb (λh=>(nn i).mp h hf.1) λi' hi=>(nn i').mpr (hf.2 i' hi)]]
  .have:¬((k:Int)<(x.length:Int)):=∅
   dsimp[this,decide_false,ao,if_false];room;have ek:k=x.length:=∅
   subst ek;erw[q f _ _ S1 wa (.inr rfl) o1 g1]
theorem VI.full(A:wx ts sg bh en)(U:B4 sg bh en u)(h:VI ts u x r k f)(e:r=0\/k=x.length):Ad ts x x.length f:=by
 rcases e with rfl|rfl
 .erw[Bs h.bs h.le λj i h1 h2=>JK A U h.wr h1 h2]
 .erw[h.bs]
noncomputable def Zz(P:Nat):SO:=.ins "Lexer" [("places",.loc P)]
structure Rm(S:bF)(X:Nat)(ts:List Tr):Prop where
 o:∃P u,S[X]?=some (Zz P)/\KO S P ts u
theorem Rm.ext{S S':bF}{X:Nat}{ts:List Tr}(h:Rm S X ts)(x:Ext S S'):Rm S' X ts:=by
 let#[P,u,g,pa]:=h.o;exact#[P,u,x.get g,pa.ext x]
def Dt:Spec:=λus S Q _=>∃X x a ts,us=[.loc X,.str x,aM a]/\Rm S X ts/\(∀c∈x,c∈SG)/\x.length<=1000/\∀f S',Ad ts (x.drop a) (x.drop a).length f->Ext S S'->Q (uR f) S'
theorem JL:rH x (some (a:Nat)) none=x.drop a:=by
 unfold rH;dsimp[dy,jY,jO,Cc];by_cases h:a<=x.length
 .rw[Nat.min_eq_left h,jH (by simp)]
 .rw[u9 ∅,uv,jJ ∅];simp
theorem VM(Γ:cf)(h1:Γ "Walk.__init__"=VB)(h2:Γ "Walk.along"=VJ):Keeps Γ kj 1 Dt:=by
 rintro us S Q E ⟨X,x,a,ts,rfl,lx,hx,hl,q⟩;unfold kj;let#[P,u,g,pa]:=lx.o;have fp:lF (.loc X) "places" S=λR=>R (.loc P):=by funext R;rw[fO,g];rfl
 room;rw[fp]
 let#[sg,bh,en,pp,A,U,l]:=pa.o;have hP:P<S.length:=by let#[_,_,_,h,_]:=pp.o;erw[aW h]
 have gw:(S++[SO.ins "Walk" []])[S.length]?=some (.ins "Walk" []):=by simp
 have b1:1<=bh.length:=by let#[B,e,_]:=A.b0;exact(ab.mp e).1
 rwa[ca h1 #[S.length,P,_,en,_,rfl,gw,pp.ext (Ext.app _),∅,by rw[af,A.len];erw[l],by rw[af];erw[b1],λr S1 hr o1 g1=>#[rfl,?_]]];have x1:Ext S S1:=#[by have:=o1.1;simp at this;omega,λn hn=>by rw[o1.2 n (by simp;omega) ∅,ag hn]]
 room;have g1':=g1;unfold GX at g1';rw[g1',bx]
 refine#[#[rfl,rfl],?_];dsimp[Sy,JL];refine#[#[λi e=>by injection e with e;omega,λi e=>by cases e],∅,?_];rwa[ca h2 #[S.length,P,r,0,none,_,ts,u,rfl,g1,pa.ext x1,∅,#[∅,ym A hr,λj i h1 h2=>∅],λc hc=>hx c (DK hc),by simp;omega,λf r' k S2 wa e o2 g2=>?_]];have bs:=wa.full A U e;room;rw[Zy g2]
 erw[q f S2 bs #[by have:=x1.1;have:=o2.1;omega,λn hn=>by rw[o2.2 n (by have:=x1.1;omega) ∅,x1.2 n hn]]]
def eD(ts:List Tr):Nat:=(ts.map size).sum
def Ng:Nat->List Tr->Prop
 |_,[]=>True
 |n,t::ts=>oy n t/\Ng (n+size t) ts
theorem uL:∀{ts:List Tr}{n i:Nat}{t:Tr},Ng n ts->ts[i]?=some t->oy (n+eD (ts.take i)) t
 |[],n,i,t,h,e=>by simp at e
 |a::ts,n,0,t,h,e=>by
  have:a=t:=by simpa using e
  subst this;erw[h.1]
 |a::ts,n,i+1,t,h,e=>by
  have:=uL (i:=i) h.2 (by simpa using e);simpa[eD,Nat.add_assoc] using this
theorem Nh:wx [] [[]] [0] []:=
 #[rfl,rfl,λi j t t' p h=>by simp at h,λt h=>by simp at h,λt h=>by simp at h,#[0,rfl,λp=>by simp],λt h=>by simp at h,λi t h=>by simp at h,λt h=>by simp at h]
theorem JM(A:wx ts sg bh en)(s0:0<sg.length)(hp:oy sg.length t)(nt:null t=false)(l:uu t bh F Z (B::bt)):wx (ts++[t]) (sg++m8 t) ((B|||F)::bt) (en++[Z]):=by
 have lt:∀t'∈ts,∀p,IN t' p=true->p<sg.length:=λt' m p i=>(ab.mp (A.sgn t' m p i)).1
 have ge:∀p,IN t p=true->sg.length<=p/\p<sg.length+size t:=λp i=>(fY hp).mp i
 have ll:=fg t;have l1:=l.len;have l2:=A.len;have bs:∀(q C:Nat),0<q->(B::bt)[q]?=some C->((B|||F)::bt)[q]?=some C:=λq C h e=>by
  cases q with
  |zero=>omega
  |succ q=>erw[e]
 have mem:∀{t'},t'∈ts++[t]->t'∈ts\/t'=t:=λh=>by simpa using h
 have at_:∀{i:Nat}{t'},(ts++[t])[i]?=some t'->ts[i]?=some t'\/(i=ts.length/\t'=t):=λ{i t'}h=>by
  rw[iE] at h;split at h
  .erw[.inl h]
  .rename_i z
   have il:i=ts.length:=by
    have:=(ab.mp h).1;simp at this;omega
   subst il;simp at h;erw[.inr #[rfl,h.symm]]
 refine#[?_,?_,?_,?_,?_,?_,?_,?_,?_]
 .rw[ar,ll]
  dsimp[aU] at l1 ⊢;omega
 .simp[A.Ge]
 .intro i j t1 t2 p e1 e2 i1 i2
  rcases at_ e1 with f1|⟨f1,g1⟩<;>rcases at_ e2 with f2|⟨f2,g2⟩
  .erw[A.dis i j _ _ p f1 f2 i1 i2]
  .have:=lt _ (ah f1) p i1;rw[g2] at i2;have:=ge p i2;omega
  .have:=lt _ (ah f2) p i2;rw[g1] at i1;have:=ge p i1;omega
  .omega
 .intro t' m
  rcases mem m with m|rfl
  .erw[A.pos t' m]
  .exact#[_,s0,hp]
 .intro t' m p i
  rcases mem m with m|rfl
  .rw[ag (lt t' m p i)];erw[A.sgn t' m p i]
  .rw[ax (ge p i).1];erw[qN hp i]
 .let#[B',e,b]:=A.b0
  have:=l.old 0 ∅;rw[e] at this;have eB:B=B':=by simpa using this
  subst eB;refine#[B|||F,rfl,λp=>?_];rw[cK,bg,b,l.f]
  constructor
  .rintro(⟨t',m,f⟩|f)
   .exact#[t',by simp[m],f]
   .exact#[t,by simp,f]
  .rintro⟨t',m,f⟩
   rcases mem m with m|rfl
   .erw[.inl #[t',m,f]]
   .erw[.inr f]
 .intro t' m q i
  rcases mem m with m|rfl
  .let#[C,e,b]:=A.b t' m q i
   have ql:=lt t' m q i;let#[n,n0,pl]:=A.pos t' m;have q0:=zC pl n0 i;exact#[C,bs q C ∅ ((l.old q ∅).trans e),b]
  .let#[C,e,b]:=l.new q i
   have:=ge q i;exact#[C,bs q C ∅ e,b]
 .intro i t' e
  rcases at_ e with e|⟨rfl,rfl⟩
  .let#[Z',e1,b]:=A.e i t' e
   exact#[Z',by rw[ag (ab.mp e1).1];erw[e1],b]
  .exact#[Z,by rw[<-A.Ge];simp,l.z]
 .intro t' m
  rcases mem m with m|rfl
  .erw[A.nl t' m]
  .erw[nt]
def VN:Spec:=λus S Q _=>∃x v t r,us=[.str x,v]/\x.length<=1000/\tZ x=.ok (t,r)/\∀S',Ext S S'->Q t S'
theorem VO(Γ:cf)(h1:Γ "read"=Dm):Keeps Γ pP 1 VN:=by
 rintro us S Q E ⟨x,v,t,r,rfl,hl,hr,q⟩;unfold pP;room;rwa[ca h1 #[x,rfl,hl,?_]];rw[hr]
 erw[q]
def Rn(ts:List Tr)(xs:List (List Nat)):Prop:=xs.length=ts.length/\∀(i:Nat)t x,ts[i]?=some t->xs[i]?=some x->x.length<=1000/\∃r,tZ x=.ok (enc t,r)
structure v7(ts:List Tr):Prop where
 len:ts.length<=4
 pl:Ng 1 ts
 nl:∀t∈ts,null t=false
 dp:∀t∈ts,cq t<4
 sz:eD ts<=24
theorem size_take(e:ts[i]?=some t):eD (ts.take (i+1))=eD (ts.take i)+size t/\eD (ts.take (i+1))<=eD ts:=by
 have h1:=F8 e;refine#[by rw[h1];simp[eD],?_];have:eD ts=eD (ts.take (i+1))+eD (ts.drop (i+1)):=by
  unfold eD;rw[<-K5,<-aD,List.take_append_drop]
 omega
def Ro:Spec:=λus S Q _=>∃n xs ts M,us=[.loc n,aM M]/\S[n]?=some (.lst (xs.map .str))/\Rn ts xs/\v7 ts/\eD ts<=M/\∀P u sg bh en S',Bx S' P (bh.map (·&&&u)) en (λc=>jE (·.contains c) sg)->wx ts sg bh en->B4 sg bh en u->sg.length=1+eD ts->Ext S S'->Q (.loc P) S'
theorem VP(Γ:cf)(h1:Γ "Layout.__init__"=Q8)(h2:Γ "Layout.lay"=gZ (Tu 4))(h3:Γ "tree_of"=VN)(h4:Γ "Layout.how_many"=Q9)(h5:Γ "Layout.close_rule"=Ra)(h6:Γ "Places.__init__"=JI):Keeps Γ mm 4 Ro:=by
 rintro us S Q E ⟨n,xs,ts,M,rfl,gn,hR,hT,hM,q⟩;unfold mm;have gL:(S++[SO.ins "Layout" []])[S.length]?=some (.ins "Layout" []):=by simp
 have nS:=aW gn;room;rwa[ca h1 #[S.length,rfl,gL,by simp,λS1 e1 la1=>#[rfl,?_]]];have x1:∀n,n<S.length->S1[n]?=S[n]?:=λn hn=>by rw[e1 n hn,ag hn]
 have gn1:S1[n]?=some (.lst (xs.map .str)):=by rw[x1 n nS];erw[gn]
 have xl:xs.length<=4:=by rw[hR.1];erw[hT.len]
 room;dsimp[Sy];rw[gn1,aC]
 have ec:rH (xs.map U.str) none (some 6)=xs.map U.str:=by
  unfold rH;dsimp[jY,dy,Int.toNat_zero,Nat.zero_min,l6,Nat.sub_zero,af];rw[u9 (by show xs.length<=6;omega)]
  erw[jH (by simp)]
 rw[ec]
 refine#[#[λi e=>(by cases e),λi e=>(by injection e with e;omega)],?_];have x2:Ext S1 (S1++[SO.lst (xs.map U.str)]):=Ext.app _;have g2:(S1++[SO.lst (xs.map U.str)])[S1.length]?=some (.lst (xs.map .str)):=by simp
 have l1:=la1.len;generalize S1.length=m at g2 l1;generalize S1++[SO.lst (xs.map U.str)]=S2 at g2 x2;room;rw[g2,aC]
 refine dS (λi env S3=>∃(sg:List (List Nat))(bh en:List Nat)(x3 x4 x5:Option U),env=[some (.loc n),some (aM M),some (.loc S.length),x3,x4,x5]/\Fr S.length S2 S3/\se S3 S.length sg bh en/\wx (ts.take i) sg bh en/\sg.length=1+eD (ts.take i)/\i<=ts.length) (λi env S3 h9=>by let#[_,_,_,_,_,_,_,f,_]:=h9;exact f.get g2 l1) _ ?_ ?_
  #[[[]],[0],[],none,none,none,rfl,.refl,la1.ext x2,Nh,rfl,∅]
 .rintro i u env S3 K hu ⟨sg,bh,en,x3,x4,x5,rfl,f3,la3,A,hsg,hi⟩ hK
  dsimp[dM,aw,pB] at hu;let#[x,hx,rfl]:=aq.mp hu;have il:i<ts.length:=by rw[<-hR.1];exact(ab.mp hx).1
  have ht:ts[i]?=some ts[i]:=aa il;have hm:ts[i]∈ts:=bT il;generalize ts[i]=t at ht hm;let#[xle,r,hr]:=hR.2 i t x ht hx;have pt:=uL hT.pl ht;rw[<-hsg] at pt;let#[s1,s2]:=size_take ht;have sz:=hT.sz;have nt:=hT.nl t hm;dsimp[dh];room;rw[la3.o,bx]
  refine#[#[rfl,rfl],ca h3 #[x,_,enc t,r,rfl,xle,hr,λS4 x4=>?_]];have la4:=la3.ext x4;rwa[ca h2 #[S.length,sg,bh,en,t,_,rfl,#[hT.dp t hm,rfl],la4,pt,A.len,∅,λS5 p F Z bh' f5 pl5 g5 la5 lr=>?_]];rw[nt] at g5;room;rw[F9 g5]
  room;rw[la5.o,bx]
  refine#[#[rfl,rfl],ca h4 #[S.length,_,bh',en,rfl,la5,by rw[ar,fg];omega,?_]];have:¬((M:Int)<(((sg++m8 t).length:Nat):Int)-1):=by rw[ar,fg];omega
  room;dsimp[this,decide_false,ao,if_false];room;rw[la5.o,bx]
  have bl:=lr.len;cases bh' with
  |nil=>have:=A.len;simp at bl;omega
  |cons B bt=>
   refine#[#[rfl,rfl],ca h5 #[S.length,_,_,en,p,false,F,Z,B,bt,rfl,la5,rfl,g5,pl5,by rw[A.Ge];simp;have:=hT.len;omega,λS6 f6 la6=>?_]];room;have et:=F8 ht;rwa[hK _ _ #[_,_,_,_,_,_,rfl,((f3.trans (Ext.fr x4)).trans f5).trans f6,la6,by rw[et];erw[JM A ∅ pt nt lr],by rw[ar,fg,s1];omega,il]]
 .rintro env S3 ⟨sg,bh,en,x3,x4,x5,rfl,f3,la3,A,hsg,hi⟩
  rw[ji,af,hR.1,bS] at A hsg;have gn3:S3[n]?=some (.lst (xs.map .str)):=by
   rw[f3.2 n (by have:=x2.1;have:=aW gn1;omega) (.inl ∅),x2.2 n (aW gn1)];erw[gn1]
  room;rw[mZ gn3]
  dsimp[bp,af];have:¬((6:Int)<(xs.length:Int)):=∅
  refine#[∅,?_];dsimp[this,decide_false,ao,if_false];room;have gP:(S3++[SO.ins "Places" []])[S3.length]?=some (.ins "Places" []):=by simp
  have sz:=hT.sz;have sl3:=la3.len;rwa[ca h6 #[S3.length,S.length,sg,bh,en,rfl,gP,by simp,la3.ext (Ext.app _),∅,A.len,by rw[A.Ge];have:=hT.len;omega,λu S4 hu e4 pa=>#[rfl,?_]]];let#[_,_,_,oP,_]:=pa.o;rwa[q _ u sg bh en S4 pa A hu hsg #[?_,λn hn=>?_]]
  .have:=aW oP;omega
  .have:=x2.1
   have:=la1.len;rw[e4 n ∅,ag ∅,f3.2 n ∅ (.inl ∅),x2.2 n ∅];erw[x1 n hn]
noncomputable def JN:Spec:=λus S Q _=>∃X n xs ts,us=[.loc X,.loc n]/\S[X]?=some (.ins "Lexer" [])/\S[n]?=some (.lst (xs.map .str))/\Rn ts xs/\v7 ts/\∀S',Rm S' X ts->Old X S S'->Q .bQ S'
theorem VQ(Γ:cf)(h1:Γ "places_of"=Ro):Keeps Γ k5 0 JN:=by
 rintro us S Q E ⟨X,n,xs,ts,rfl,gX,gn,hR,hT,q⟩;unfold k5;room;rwa[ca h1 #[n,xs,ts,24,rfl,gn,hR,hT,hT.sz,λP u sg bh en S1 pp A U l x1=>?_]];have pa:KO S1 P ts u:=#[sg,bh,en,pp,A,U,by have:=hT.sz;omega]
 have gX1:=x1.get gX;have ne:P≠X:=λz=>by
  let#[_,_,_,pp,_]:=pa.o;let#[_,_,_,h,_]:=pp.o;rw[z,gX1] at h;simp at h
 rwa[tw gX1 (by simp) λS2 o2 l2 g2=>?_]
 room;erw[q S2 #[P,u,g2,pa.old o2 gX1 ne] ((Ext.old x1).trans o2)]
noncomputable def er:Tr->Tr
 |.one _ l=>.one 0 l
 |.row a b=>.row (er a) (er b)
 |.or a b=>.or (er a) (er b)
 |.rep m a=>.rep m (er a)
theorem JO(m:Mk):qh m≠M3/\qh m≠Dl/\qh m≠SH:=by cases m<;>decide
theorem lh{g:bF->Prop}{c:U->bF->(Bool->bF->Prop)->Prop}{e:U->bF->KU->Prop}{Q:List U->bF->Prop}{S:bF}(l vs:List U)(hv:vs.length=l.length)(hl:l.length<1000000)(hg:∀S',Ext S S'->g S')(hc:∀u S' k,k true S'->c u S' k)
  (he:∀(i:Nat)u v,l[i]?=some u->vs[i]?=some v->∀S' k,Ext S S'->(∀S2,Ext S' S2->k v S2)->e u S' k) (q:∀S',Ext S S'->Q vs S'):ow g c e Q l [] S:=by
 rwa[fj l (λi acc S'=>Ext S S'/\acc=vs.take i) (λi acc S' hi h=>#[hg _ h.1,?_]) (λi u acc S' k hu hi hk=>?_) (λacc S' h=>?_) #[.refl,rfl]]
 .rw[h.2,dC];omega
 .let#[x,rfl]:=hi
  have il:i<vs.length:=by rw[hv];exact(ab.mp hu).1
  rwa[hc _ _ _ ?_];rw[if_pos rfl]
  rwa[he i u _ hu (aa il) S' _ x λS2 x2=>hk _ _ #[x.trans x2,?_]]
  rw[gS,aa il];rfl
 .let#[x,rfl]:=h
  rw[<-hv,bS];erw[q S' x]
def ZA(f:Tr->Bool)(fR:List Tr->Bool)(d:Nat):Spec:=λus S Q _=>∃u,us=[u]/\((∃t,u=enc t/\cq t<d/\∀S',Ext S S'->Q (.bl (f t)) S')\/∃K,u=Zp K/\0<d/\(∀t∈K,cq t+1<d)/\K.length<=1000/\∀S',Ext S S'->Q (.bl (fR K)) S')
def Gf:Nat->Spec:=ZA null dU
theorem zG{K:List Tr}{f:Tr->U}{i:Nat}{u v:U}(hu:(K.map enc)[i]?=some u)(hv:(K.map f)[i]?=some v):∃t,t∈K/\u=enc t/\v=f t:=by
 rw[aw] at hu hv;let#[t,e,rfl]:=aq.mp hu;rw[e] at hv;exact#[t,ah e,rfl,(aL hv).symm]
section
variable{Γ:cf}{N:String}{d:Nat}{f:Tr->Bool}{fR:List Tr->Bool}{S:bF}{Q:KU}{E:KX}{k:U}{K:List Tr}
theorem EE(h1:Γ N=ZA f fR d)(hK:∀t∈K,cq t<d)(hl:K.length<=1000)(q:∀S',Ext S S'->Q (.bl (K.all f)) S'):
  WE Γ (.blt .all (.cons (.comp false (.call N (.cons @0 .nil)) (.val (.ix @0 ↑1)) (.dk (.lit (.bl true))) []) .nil)) [some (.tup [k,.tup (K.map enc)])] S Q E:=by
 room;dsimp[uk,bp];refine#[by simp,by simp;omega,?_];rwa[lh _ (K.map λt=>.bl (f t)) (by simp) (by simp;omega) (λ_ _=>trivial) (λu S' k h=>h) (λi u v hu hv S' k x hk=>?_) λS' x=>?_]
 .let#[t,m,rfl,rfl]:=zG hu hv
  erw[ca h1 #[_,rfl,.inl #[t,rfl,hK t m,hk]]]
 .exact#[K.map f,by simp,by rw[show(K.map f).all id=K.all f by rw[BV];rfl];erw[q _ (x.trans (Ext.app _))]]
theorem Ni(h1:Γ N=ZA f fR d)(hK:∀t∈K,cq t<d)(hl:K.length<=1000)(q:∀S',Ext S S'->Q (.bl (K.any f)) S'):
  WE Γ (.blt .any (.cons (.comp false (.call N (.cons @0 .nil)) (.val (.ix @0 ↑1)) (.dk (.lit (.bl true))) []) .nil)) [some (.tup [k,.tup (K.map enc)])] S Q E:=by
 room;dsimp[uk,bp];refine#[by simp,by simp;omega,?_];rwa[lh _ (K.map λt=>.bl (f t)) (by simp) (by simp;omega) (λ_ _=>trivial) (λu S' k h=>h) (λi u v hu hv S' k x hk=>?_) λS' x=>?_]
 .let#[t,m,rfl,rfl]:=zG hu hv
  erw[ca h1 #[_,rfl,.inl #[t,rfl,hK t m,hk]]]
 .exact#[K.map f,by simp,by rw[show(K.map f).any id=K.any f by rw[tK];rfl];erw[q _ (x.trans (Ext.app _))]]
end
theorem dp2(h:max (cq a) (cq b)+1<d+1)(m:t∈[a,b]):cq t<d:=by
 rcases aN.mp m with rfl|m
 .omega
 .simp at m;subst m;omega
theorem rr(h:WE Γ e env S (λv S1=>D.rt v S1) (D.ex env)):Rest Γ #v[.ret e] D env S:=h
theorem VR(Γ:cf)(d:Nat)(h1:Γ "_law_nothing"=Gf d):Keeps Γ jw 0 (Gf (d+1)):=by
 rintro us S Q E ⟨u,rfl,h⟩;unfold jw;rcases h with⟨t,rfl,dt,q⟩|⟨K,rfl,-,dK,hl,q⟩
 .cases t with
  |one n l=>erw[wY rfl rfl (q S .refl)]
  |row a b=>exact mO rfl rfl (wY rfl rfl (rr (EE (K:=[a,b]) h1 (λt m=>dp2 dt m) (by simp) λS' x=>by have:=q S' x;simpa[null] using this)))
  |or a b=>exact mO rfl rfl (mO rfl rfl (wY rfl rfl (rr (Ni (K:=[a,b]) h1 (λt m=>dp2 dt m) (by simp) λS' x=>by have:=q S' x;simpa[null] using this))))
  |rep m a=>
   have dt:cq a+1<d+1:=dt;have k1:=JO m;refine mO rfl (beq_eq_false_iff_ne.mpr k1.1) (mO rfl (beq_eq_false_iff_ne.mpr k1.2.1) (mO rfl (beq_eq_false_iff_ne.mpr k1.2.2) ?_));unfold enc;room;dsimp[uj,uk,bp];refine#[by simp,by simp,?_];have e2:∀q:Bool->Prop,qH (.str (qh m)) [.str lM,.str kL] q=q (Gb m):=λq=>by
    have:=anyS (a:=qh m) (l:=[lM,kL]) (q:=q);cases m<;>simpa[Gb,qh] using this
   rw[e2]
   cases m<;>dsimp[Gb,HW,ao,if_false,if_true]
   .erw[q S .refl]
   .exact#[by simp,ca h1 #[_,rfl,.inl #[a,rfl,∅,q]]]
   .erw[q S .refl]
 .erw[mO rfl rfl (wY rfl rfl (rr (EE h1 (λt m=>by have:=dK t m;omega) hl q)))]
theorem Gg{α:Type}{x:List α}{a:Nat}:rH x (some (a:Nat)) none=x.drop a:=by
 unfold rH;dsimp[dy,jY,jO,Cc];by_cases h:a<=x.length
 .rw[Nat.min_eq_left h,jH (by simp)]
 .rw[u9 ∅,uv,jJ ∅];simp
theorem zH{α:Type}:∀{l l':List α},l.Nodup->(∀x∈l,x∈l')->l.length<=l'.length
 |[],_,_,_=>by simp
 |a::l,l',nd,h=>by
  let#[s,t,rfl]:=List.append_of_mem (h a (aT ..));rw[fu] at nd;have:=zH (l':=s++t) nd.2 λx m=>by
   have hx:=h x (aA _ m);dsimp[aG,aN] at hx ⊢;rcases hx with z|z|z
   .erw[.inl z]
   .subst z;erw[absurd m nd.1]
   .erw[.inr z]
  dsimp[ar,aU] at this ⊢;omega
noncomputable def Ae(m:List Nat)(c:Nat):List Nat:=if m.contains c=true then [92,c] else [c]
theorem Du(m:List Nat)(c:Nat):(Ae m c).length<=2:=by unfold Ae;split<;>simp
def SK(R:List Nat):List Nat:=Ae MW (R.headD 0)++[45]++Ae MW (R.getLastD 0)
def Of(R:List Nat):List (List Nat):=if (R.map (Ae MW)).flatten.length<=(SK R).length then R.map (Ae MW) else [SK R]
def ZC(st:List (List Nat)×List Nat)(c:Nat):List (List Nat)×List Nat:=if i6 (st.2++[c]) SG=true then(st.1,st.2++[c]) else(st.1++[st.2],[c])
def SM(l:List Nat):List (List Nat):=(l.foldl ZC ([],[])).1++[(l.foldl ZC ([],[])).2]
def Gh(l:List Nat):List (List Nat):=(SM l).flatMap Of
noncomputable def Rr:List (List Nat)->List Nat
 |[]=>[]
 |x::r=>if [94].isPrefixOf x=true then(if r.isEmpty=true then 92::x else r.flatten++x) else(x::r).flatten
def SN(l:List Nat):List (List Nat):=(if l==[] then [] else [[91]++Rr (Gh l)++[93]])++if l==SG then [] else [[91,94]++(Gh (d7 l)).flatten++[93]]
noncomputable def ZD:List (List Nat)->List Nat
 |[]=>[]
 |t::ts=>ts.foldl (λb x=>if x.length<b.length then x else b) t
def KQ(l:List Nat):List Nat:=if l.length=1 then Ae MO (l.headD 0) else ZD (SN l)
def Gi(l:List Nat):Bool:=decide (l.length<=95)&&((SM l).all λR=>!(R==[])&&decide (R.length<=95))&&decide ((SM l).length<=100)&&decide ((Gh l).length<=200)&&decide ((Gh l).flatten.length<=400) && !(Gh l==[])
def Rt:Spec:=λus S Q _=>∃c m,us=[.str [c],.str m]/\Q (.str (Ae m c)) S
theorem VS(Γ:cf):Keeps Γ mh 0 Rt:=by
 rintro us S Q E ⟨c,m,rfl,q⟩;unfold mh;room;unfold Ae at q;by_cases z:m.contains c=true
 .rw[if_pos z] at q ⊢
  exact#[by simp,q]
 .rw[if_neg z] at q ⊢
  erw[q]
theorem tB:∀ts:List (List Nat),me [] ts=ts.flatten
 |[]=>rfl
 |[x]=>by simp[me]
 |x::y::r=>by
  rw[me,tB (y::r)]
  .simp
  .simp
theorem zI(ts:List (List Nat)):(ts.map cA).sum+ts.length*([]:List Nat).length=ts.flatten.length:=by rw[List.length_flatten];simp
def VT:Spec:=λus S Q _=>∃R,us=[.str R]/\R≠[]/\R.length<=95/\∀n S',Ext S S'->S'[n]?=some (.lst ((Of R).map .str))->Q (.loc n) S'
theorem JP(m:List Nat):∀R:List Nat,(R.map (Ae m)).flatten.length<=2*R.length
 |[]=>by simp
 |c::r=>by
  have:=JP m r;have:=Du m c;rw[au,mT,ar,aU];omega
theorem VU(Γ:cf)(h1:Γ "sign_text"=Rt):Keeps Γ mi 2 VT:=by
 rintro us S Q E ⟨R,rfl,ne,hl,q⟩;unfold mi;have f2:=JP MW R;room;rwa[lh (S:=S) _ ((R.map (Ae MW)).map .str) (by simp) (by simp;omega) (λ_ _=>trivial) (λu S' k h=>h) (λi u v hu hv S' k x hk=>?_) λS1 x1=>?_]
 .let#[c,e,rfl]:=fD hu
  rw[aw,aw,e] at hv;cases hv;erw[ca h1 #[c,MW,rfl,hk S' .refl]]
 have g2:(S1++[SO.lst ((R.map (Ae MW)).map U.str)])[S1.length]?=some (.lst ((R.map (Ae MW)).map U.str)):=by simp
 have x2:Ext S (S1++[SO.lst ((R.map (Ae MW)).map U.str)]):=x1.trans (Ext.app _);generalize S1.length=m at g2;generalize S1++[SO.lst ((R.map (Ae MW)).map U.str)]=S2 at g2 x2;have t1:=Du MW (R.headD 0);have t2:=Du MW (R.getLastD 0);have wl:(SK R).length<=5:=by unfold SK;rw[ar,ar];dsimp[aU,dq];omega
 have e0:qp R 0=some (R.headD 0):=by
  cases R with
  |nil=>erw[absurd rfl ne]
  |cons a r=>erw[uj]
 have el:qp R (-1)=some (R.getLastD 0):=by
  have:0<R.length:=List.length_pos_iff.mpr ne;unfold qp LY;rw[if_neg ∅,if_pos ∅]
  dsimp[GK];rw[List.getLastD_eq_getLast?,List.getLast?_eq_getElem?]
  have e:((-1:Int)+(R.length:Int)).toNat=R.length-1:=∅
  rw[e,aa ∅]
  rfl
 room;rw[e0,el]
 dsimp[bp];refine#[∅,ca h1 #[_,MW,rfl,#[by rw[gH];omega,∅,ca h1 #[_,MW,rfl,#[by rw[ar,gH];omega,?_]]]]];have ew:Ae MW (R.headD 0)++[45]++Ae MW (R.getLastD 0)=SK R:=rfl;rw[ew]
 room;refine#[_,g2,by rw[zI];omega,?_];rw[tB]
 refine#[∅,∅,?_];unfold Of at q;by_cases z:(R.map (Ae MW)).flatten.length<=(SK R).length
 .rw[if_pos z] at q
  rw[if_pos (by simpa using z)]
  erw[q _ _ x2 g2]
 .rw[if_neg z] at q
  rw[if_neg (by simpa using z)]
  exact#[by simp,q _ _ (x2.trans (Ext.app _)) (by simp)]
def VW:Spec:=λus S Q _=>∃l,us=[.str l]/\l.length<=95/\∀n S',Ext S S'->S.length<=n->S'[n]?=some (.lst ((SM l).map .str))->Q (.loc n) S'
theorem VX(Γ:cf):Keeps Γ zg 3 VW:=by
 rintro us S Q E ⟨l,rfl,hl,q⟩;unfold SM ZC at q;unfold zg;generalize hG:SG=G at q ⊢;room;refine#[by simp,?_];have x0:Ext S (S++[SO.lst []]):=Ext.app _;have g0:(S++[SO.lst []])[S.length]?=some (.lst []):=by simp
 room;have keep:∀{S1:bF}{o:SO},Ext S S1->Ext S (S1.set S.length o):=λx=>(x.st ∅)
 rwa[dS (λi env S1=>∃(st:List (List Nat)×List Nat)(x3:Option U),env=[some (.str l),some (.loc S.length),some (.str st.2),x3]/\S1[S.length]?=some (.lst (st.1.map .str))/\Ext S S1/\st.1.length<=i/\st.2.length<=i/\i<=l.length/\st=(l.take i).foldl (λst c=>if i6 (st.2++[c]) G=true then(st.1,st.2++[c]) else(st.1++[st.2],[c])) ([],[])) (λ_ _ _ _=>trivial) _ ?_ ?_ #[([],[]),none,rfl,g0,x0,by simp,by simp,∅,rfl]]
 .rintro i u env S1 K hu ⟨st,x3,rfl,g1,x1,l1,l2,hi,e⟩ hK
  let#[c,hc,rfl]:=fD hu;have il:=(ab.mp hc).1;have et:=F8 hc;room;refine#[by simp;omega,?_];show(if (!i6 (st.2++[c]) G)=true then _ else _)
  by_cases z:i6 (st.2++[c]) G=true
  .rw[z]
   dsimp[bC,ao,if_false];room;refine#[by simp;omega,?_];room;rwa[hK _ _ #[(st.1,st.2++[c]),_,rfl,g1,x1,by simp;omega,by simp;omega,il,?_]];rw[et,fE,<-e]
   dsimp[lu,List.foldl_nil,if_pos z]
  .rw[iL _ |>.mp z]
   dsimp[bL,if_true];room;rw[g1,aC]
   refine#[trivial,by simp;omega,?_];room;refine#[by simp,?_];room;rwa[hK _ _ #[(st.1++[st.2],[c]),_,rfl,by rw[gs g1];simp,keep x1,by simp;omega,by simp,il,?_]];rw[et,fE,<-e]
   dsimp[lu,List.foldl_nil,if_neg z]
 .rintro env S1 ⟨st,x3,rfl,g1,x1,l1,l2,hi,e⟩
  room;rw[g1,aC]
  rw[af] at l1 e;rw[bS] at e;refine#[trivial,by simp;omega,?_];room;erw[q _ _ (keep x1) (ak _) (by rw[gs g1,<-e];simp)]
def VY:Spec:=λus S Q _=>∃l,us=[.str l]/\Gi l=true/\∀n S',Ext S S'->S'[n]?=some (.lst ((Gh l).map .str))->Q (.loc n) S'
theorem EF{α β:Type}(f:α->List β):∀(l:List α)(i:Nat),((l.take i).flatMap f).length<=(l.flatMap f).length
 |[],i=>by simp
 |a::l,0=>by simp
 |a::l,i+1=>by
  have:=EF f l i;rw[E4,Hg,Hg,ar,ar];omega
theorem VZ(Γ:cf)(h1:Γ "runs"=VW)(h2:Γ "run_items"=VT):Keeps Γ kf 2 VY:=by
 rintro us S Q E ⟨l,rfl,ok,q⟩;unfold Gi at ok;dsimp[aj,decide_eq_true_eq] at ok;let#[#[#[#[#[o1,o2],o3],o4],o5],o6]:=ok;rw[bI] at o2;unfold Gh at q o4;unfold kf;room;refine#[by simp,?_];have x0:Ext S (S++[SO.lst []]):=Ext.app _;have g0:(S++[SO.lst []])[S.length]?=some (.lst []):=by simp
 have l0:(S++[SO.lst []]).length=S.length+1:=by simp
 generalize S++[SO.lst []]=S1 at x0 g0 l0;room;rwa[ca h1 #[l,rfl,o1,λn S2 x2 nl g2=>?_]];generalize SM l=Rs at o2 o3 o4 q g2;room;rw[g2,aC]
 refine dS (λi env S3=>∃x,env=[some (.str l),some (.loc S.length),x]/\S3[S.length]?=some (.lst (((Rs.take i).flatMap Of).map .str))/\S3[n]?=some (.lst (Rs.map .str))/\Ext S S3) (λi env S3 h9=>by let#[_,_,_,h,_]:=h9;erw[h]) _ ?_ ?_ #[none,rfl,by simpa using x2.get g0,g2,x0.trans x2]
 .rintro i u env S3 K hu ⟨x,rfl,g3,g4,x3⟩ hK
  let#[R,hc,rfl]:=fD hu;have hR:=o2 R (ah hc);dsimp[aj,decide_eq_true_eq,gQ,beq_eq_false_iff_ne] at hR;have tk:(Rs.take (i+1)).flatMap Of=(Rs.take i).flatMap Of++Of R:=by rw[gS,hc];simp
  have tl:=EF Of Rs (i+1);rw[tk,ar] at tl;room;rw[g3,aC]
  refine#[trivial,ca h2 #[R,rfl,hR.1,hR.2,λm S4 x4 g5=>?_]];room;rw[x4.get g3,g5,aC,aC]
  refine#[by rw[af,af];omega,?_];room;rwa[hK _ _ #[_,rfl,by rw[gs (x4.get g3),tk];simp,?_,?_]]
  .rw[ai ∅];erw[x4.get g4]
  .have:=x3.trans x4
   exact(this.st ∅)
 .rintro env S3 ⟨x,rfl,g3,g4,x3⟩
  rw[af,bS] at g3;room;erw[q _ _ x3 g3]
theorem Og(x:List Nat)(r:List (List Nat)):Rr (x::r)=if [94].isPrefixOf x=true then(if r.isEmpty=true then 92::x else r.flatten++x) else(x::r).flatten:=rfl
def V0:Spec:=λus S Q _=>∃n its,us=[.loc n]/\S[n]?=some (.lst (its.map .str))/\its≠[]/\its.length<=200/\its.flatten.length<=400/\∀S',Ext S S'->Q (.str (Rr its)) S'
theorem V1(Γ:cf):Keeps Γ pO 0 V0:=by
 rintro us S Q E ⟨n,its,rfl,g,ne,hl,hf,q⟩;unfold pO;cases its with
 |nil=>erw[absurd rfl ne]
 |cons x r=>
  rw[mT,ar] at hf;dsimp[aU] at hl;have a0:∀{R:U->Prop},opt (qp ((x::r).map U.str) 0) R=R (.str x):=by intro R;rw[au,uj];rfl
  room;rw[g,aC]
  rw[a0]
  room;rw[Og] at q;by_cases z:[94].isPrefixOf x=true
  .rw[if_pos z] at q
   rw[z]
   dsimp[bC,ao,if_false];room;rw[mZ g]
   dsimp[bp,af,aU];refine#[∅,?_];cases r with
   |nil=>
    have q:∀S',Ext S S'->Q (.str (92::x)) S':=q;rw[if_pos (by simp)]
    room;rw[g,aC]
    rw[a0]
    room;exact#[by simp at hf ⊢;omega,q S .refl]
   |cons y r=>
    rw[if_neg (by simp)] at q;rw[if_neg (by simp;omega)]
    room;dsimp[Sy];rw[g,aC]
    have ec:rH ((x::y::r).map U.str) (some 1) none=(y::r).map U.str:=Gg (a:=1);rw[ec]
    refine#[#[λi e=>(by injection e with e;omega),λi e=>(by cases e)],y::r,by simp,by rw[zI];omega,?_];rw[tB]
    show getL (S++_)[n]? _
    rw[(Ext.app _:Ext S _).get g,aC,a0]
    room;exact#[∅,q _ (Ext.app _)]
  .rw[if_neg z] at q
   rw[iL _ |>.mp z]
   dsimp[bL,if_true];room;refine#[x::r,g,by rw[zI,mT,ar];omega,?_];rw[tB]
   erw[q S .refl]
theorem Ru(its:List (List Nat)):(Rr its).length<=its.flatten.length+1:=by
 cases its with
 |nil=>simp[Rr]
 |cons x r=>
  rw[Og]
  split
  .split
   .rename_i z;have:r=[]:=by simpa using z
    subst this;simp
   .simp;omega
  .simp
def Rv(l:List Nat):Bool:=(l==[]||Gi l)&&(l==SG||Gi (d7 l))
def V2:Spec:=λus S Q _=>∃l,us=[.str l]/\Rv l=true/\∀n S',Ext S S'->S'[n]?=some (.lst ((SN l).map .str))->Q (.loc n) S'
theorem BC(h:Gi l=true):(Gh l).length<=200/\(Gh l).flatten.length<=400/\Gh l≠[]:=by
 unfold Gi at h;dsimp[aj,decide_eq_true_eq,gQ,beq_eq_false_iff_ne] at h;exact#[h.1.1.2,h.1.2,h.2]
def pCt:dj:=#v[.ifs (.dk (.cmp .ne @0 (.lit (.str SG)))) #v[.ex (.jq .append @1 #v[.bin .add (.bin .add ↑[91,94] (.jq .join (.lit (.str [])) #v[.call "class_items" #v[.call "all_but" #v[@0]]])) ↑[93]])] .nil,.ret @1]
theorem V3(Γ:cf)(h1:Γ "class_items"=VY)(h2:Γ "guarded"=V0)(h3:Γ "all_but"=spT d7):Keeps Γ ke 1 V2:=by
 rintro us S Q E ⟨l,rfl,ok,q⟩;unfold Rv at ok;rw[aj,bg,bg] at ok;have keep:∀{S1:bF}{o:SO},Ext S S1->Ext S (S1.set S.length o):=λx=>(x.st ∅)
 have fin:∀S1 acc,Ext S S1->S1[S.length]?=some (.lst (acc.map .str))->acc.length<=10->acc=(if l==[] then [] else [[91]++Rr (Gh l)++[93]])->Rest Γ pCt #[λ_ S1=>Q .bQ S1,Q,λ_=>E] [some (.str l),some (.loc S.length)] S1:=by
  intro S1 acc x1 g1 al ea;unfold SN at q;rw[<-ea] at q;unfold pCt;have ok2:=ok.2;generalize SG=G at q ok2;room;by_cases z:(l==G)=true
  .rw[z]
   rw[if_pos z,bU] at q;dsimp[bC,ao,if_false];room;erw[q _ _ x1 g1]
  .rw[iL _ |>.mp z]
   rw[if_neg z] at q;dsimp[bL,if_true];have ck:=ok2.resolve_left z;let#[f1,f2,f3]:=BC ck;room;rw[g1,aC]
   refine#[trivial,ca h3 #[l,rfl,λS2 x2=>ca h1 #[_,rfl,ck,λn S3 x3 g3=>#[_,g3,by rw[zI];omega,?_]]]];rw[tB]
   refine#[by dsimp[aU,dq];omega,by rw[ar];dsimp[aU,dq];omega,?_];show getL S3[S.length]? _;rw[(x2.trans x3).get g1,aC]
   refine#[by rw[af];omega,?_];room;erw[q _ _ (keep (x1.trans (x2.trans x3))) (by rw[gs ((x2.trans x3).get g1)];simp)]
 unfold ke;room;refine#[by simp,?_];have x0:Ext S (S++[SO.lst []]):=Ext.app _;have g0:(S++[SO.lst []])[S.length]?=some (.lst []):=by simp
 generalize S++[SO.lst []]=S0 at x0 g0;room;by_cases z:(l==[])=true
 .rw[z]
  dsimp[bC,ao,if_false];erw[Rest.go (fin S0 [] x0 g0 (by simp) (by rw[if_pos z]))]
 .rw[iL _ |>.mp z]
  dsimp[bL,if_true];have ck:=ok.1.resolve_left z;let#[f1,f2,f3]:=BC ck;have gl:=Ru (Gh l);room;rw[g0,aC]
  refine#[trivial,ca h1 #[l,rfl,ck,λn S2 x2 g2=>ca h2 #[n,_,rfl,g2,f3,f1,f2,λS3 x3=>?_]]];room;refine#[by dsimp[aU,dq];omega,by dsimp[aU,dq];omega,?_];rw[(x2.trans x3).get g0,aC]
  refine#[by simp,?_];erw[Rest.go (fin _ [[91]++Rr (Gh l)++[93]] (keep (x0.trans (x2.trans x3))) (by rw[gs ((x2.trans x3).get g0)];simp) (by simp) (by rw[if_neg z]))]
abbrev CL:List (List Nat):=[[97],[98],[99],[97,98],[98,99],SG,[48],[]]
theorem JQ:∀l∈CL,l.length=1\/(Rv l=true/\(l==d7 [10])=false/\SN l≠[]/\(SN l).all (λx=>decide (x.length<=1000))=true):=by
 decide +kernel
def Nj:Spec:=λus S Q _=>∃l,us=[.str l]/\l∈CL/\∀S',Ext S S'->Q (.str (KQ l)) S'
theorem V4(Γ:cf)(h1:Γ "sign_text"=Rt)(h2:Γ "all_but"=spT d7)(h3:Γ "class_texts"=V2):Keeps Γ kX 0 Nj:=by
 rintro us S Q E ⟨l,rfl,hl,q⟩;have fa:=JQ l hl;have ll:l.length<=95:=by
  have:∀l∈CL,l.length<=95:=⋯
  erw[this l hl]
 unfold kX;unfold KQ at q;room;refine#[∅,?_];by_cases z:l.length=1
 .rw[if_pos z] at q
  rw[if_pos (by rw[z];rfl)]
  obtain⟨c,rfl⟩:∃c,l=[c]:=jG.mp z;room;erw[ca h1 #[c,MO,rfl,q S .refl]]
 .rw[if_neg z] at q
  rw[if_neg (by simp;omega)]
  let#[f1,f2,f3,f4]:=fa.resolve_left z;room;rwa[ca h2 #[_,rfl,λS1 x1=>?_]];room;rw[f2]
  dsimp[ao,if_false];room;rwa[ca h3 #[l,rfl,f1,λn S2 x2 g2=>?_]];cases e:SN l with
  |nil=>erw[absurd e f3]
  |cons t ts=>
   rw[e] at g2 q f4;refine#[t,ts,g2,λu hu=>?_,q S2 (x1.trans x2)];have:=bI.mp f4 u hu;simp at this;omega
theorem Rx:∀l∈CL,(KQ l).length<=10:=by decide +kernel
theorem uM:KQ [97,98]=[91,97,98,93]/\KQ [98,99]=[91,98,99,93]/\KQ SG=[91,10,45,126,93]/\KQ []=[91,94,10,45,126,93]:=by decide +kernel
set_option maxRecDepth 100000 in
theorem Nk(h:l∈CL)(br:Option (List Nat->PR U)):vV br (KQ l) (M4 l):=by
 intro rest;dsimp[aN,cx,or_false] at h;rcases h with rfl|rfl|rfl|rfl|rfl|rfl|rfl|rfl
 .rfl
 .rfl
 .rfl
 .rw[uM.1];rfl
 .rw[uM.2.1];rfl
 .rw[uM.2.2.1];rfl
 .rfl
 .rw[uM.2.2.2];rfl
def num:Nat->Tr->Tr
 |n,.one _ l=>.one n l
 |n,.row a b=>.row (num n a) (num (n+size a) b)
 |n,.or a b=>.or (num n a) (num (n+size a) b)
 |n,.rep m a=>.rep m (num n a)
theorem qP:∀t n,enc (num n t)=enc t/\size (num n t)=size t/\cq (num n t)=cq t/\null (num n t)=null t/\m8 (num n t)=m8 t/\oy n (num n t)
 |.one _ l,n=>#[rfl,rfl,rfl,rfl,rfl,rfl]
 |.row a b,n=>by
  let#[a1,a2,a3,a4,a5,a6]:=qP a n;let#[b1,b2,b3,b4,b5,b6]:=qP b (n+size a);dsimp[num,enc,size,cq,null,m8,oy,a1,a2,a3,a4,a5,b1,b2,b3,b4,b5];exact#[trivial,trivial,trivial,trivial,trivial,a6,b6]
 |.or a b,n=>by
  let#[a1,a2,a3,a4,a5,a6]:=qP a n;let#[b1,b2,b3,b4,b5,b6]:=qP b (n+size a);dsimp[num,enc,size,cq,null,m8,oy,a1,a2,a3,a4,a5,b1,b2,b3,b4,b5];exact#[trivial,trivial,trivial,trivial,trivial,a6,b6]
 |.rep m a,n=>by
  let#[a1,a2,a3,a4,a5,a6]:=qP a n;cases m<;>dsimp[num,enc,size,cq,null,m8,oy,a1,a2,a3,a4,a5]<;>exact#[trivial,trivial,trivial,trivial,trivial,a6]
def qj:Nat->List Tr->List Tr
 |_,[]=>[]
 |n,t::ts=>num n t::qj (n+size t) ts
theorem pW:∀ts n,(qj n ts).map enc=ts.map enc/\Ng n (qj n ts)/\eD (qj n ts)=eD ts/\∀t∈qj n ts,∃t'∈ts,cq t=cq t'/\null t=null t'/\m8 t=m8 t'
 |[],n=>#[rfl,trivial,rfl,by simp[qj]]
 |t::ts,n=>by
  let#[a1,a2,a3,a4,a5,a6]:=qP t n;let#[b1,b2,b3,b4]:=pW ts (n+size t);refine#[by dsimp[qj,au,a1,b1],#[a6,by rw[a2];erw[b2]],by dsimp[eD] at b3 ⊢;dsimp[qj,au,z9,a2,b3],λt' m=>?_];rcases aN.mp m with rfl|m
  .exact#[t,aT ..,a3,a4,a5]
  .let#[t2,m2,h]:=b4 t' m
   exact#[t2,aA _ m2,h]
def ng(t:Tr):Prop:=∀l∈m8 t,l∈CL
theorem lP:∀t,size t<=2^cq t
 |.one _ _=>by simp[size,cq]
 |.row a b=>by
  have h1:=lP a;have h2:=lP b;have p1:2^cq a<=2^max (cq a) (cq b):=bj ∅ ∅;have p2:2^cq b<=2^max (cq a) (cq b):=bj ∅ ∅;dsimp[size,cq,gB];omega
 |.or a b=>by
  have h1:=lP a;have h2:=lP b;have p1:2^cq a<=2^max (cq a) (cq b):=bj ∅ ∅;have p2:2^cq b<=2^max (cq a) (cq b):=bj ∅ ∅;dsimp[size,cq,gB];omega
 |.rep m a=>by
  have h1:=lP a;dsimp[size,cq,gB];omega
def Nl(D:Nat):Spec:=λus S Q _=>∃(ns:List Int)(b:Int)(d:Nat),us=[.sF ns,.int b,aM d]/\ns.length<=1000/\d<D/\∀t S',cq t<=d->ng t->Ext S S'->Q (enc t) S'
theorem JR(Γ:cf)(D:Nat)(h1:Γ "_law_mix"=tW.t4)(h2:Γ "_law_all"=tW.Jy)(h3:Γ "_law_small"=Nl D):Keeps Γ k6 3 (Nl (D+1)):=by
 rintro us S Q E ⟨ns,b,d,rfl,hl,hd,q⟩;unfold k6;room;refine ca h1 #[ns,b,rfl,hl,λm m0 m1=>?_];room;refine#[∅,?_];room;have leaf:Rest Γ (.cons (.ret (.tup (.cons ↑[111,110,101] (.cons (.ix (.lst (.cons ↑[97] (.cons ↑[98] (.cons ↑[99] (.cons ↑[97,98] (.cons ↑[98,99] (.cons (.call "_law_all" .nil) (.cons ↑[97] (.cons ↑[98] (.cons ↑[48] (.cons (.lit (.str [])) .nil))))))))))) (.bin .mod (.bin .fdiv @3 ↑9) ↑10)) .nil)))) .nil) #[λ_ S1=>Q .bQ S1,Q,λ_=>E] [some (.sF ns),some (.int b),some (aM d),some (.int m),some (.int (m%9)),none] S:=by
  room;rwa[ca h2 #[rfl,λG hG=>?_]];refine#[by simp,∅,∅,?_];have gl:(S++[SO.lst [U.str [97],U.str [98],U.str [99],U.str [97,98],U.str [98,99],U.str G,U.str [97],U.str [98],U.str [48],U.str []]])[S.length]?=some (.lst ([[97],[98],[99],[97,98],[98,99],G,[97],[98],[48],[]].map U.str)):=by simp
  rw[gl,aC]
  rwa[qM (jh _ ∅) (by simp;erw[gy _ ∅]) λu hu=>?_]
  let#[l,ml,rfl]:=bq.mp hu;refine#[by simp,q (.one 0 l) _ (bX _) (λl' m'=>?_) (Ext.app _)];have:l'=l:=by simpa[m8] using m'
  subst this;rw[hG] at ml
  revert ml
  dsimp[aN];rintro(h|h|h|h|h|h|h|h|h|h|h)<;>simp_all
 by_cases z:d=0\/m%9<4
 .have z1:((d:Int)== 0)=true\/(((d:Int)== 0)=false/\decide (m%9<4)=true):=by
   by_cases y:d=0
   .subst y;erw[.inl rfl]
   .rwa[.inr #[by rw[beq_eq_false_iff_ne];omega,decide_eq_true ∅]]
  rcases z1 with z1|⟨z1,z2⟩
  .dsimp[z1,if_true];erw[leaf]
  .dsimp[z1,z2,ao,if_false,if_true];erw[leaf]
 .have z1:((d:Int)== 0)=false:=by rw[beq_eq_false_iff_ne];omega
  have z2:decide (m%9<4)=false:=decide_eq_false ∅;obtain⟨d,rfl⟩:∃d',d=d'+1:=#[d-1,∅]
  have ed:(((d+1:Nat):Int)-1)=(d:Int):=∅
  dsimp[z1,z2,ao,if_false];room;by_cases y:m%9<7
  .dsimp[y,decide_true,if_true]
   room;refine#[∅,∅,?_];refine fj _ (λi acc S1=>Ext S S1/\∃l:List Tr,acc=l.map enc/\l.length=i/\∀t∈l,cq t<=d/\ng t) (λi acc S1 hi h9=>by let#[x,l,e1,e2,_]:=h9;exact#[trivial,by rw[e1,af];simp at hi;omega]) (λi u acc S1 k hu hi hk=>?_) (λacc S1 h=>?_) #[.refl,[],rfl,rfl,by simp]
   .let#[x1,l,rfl,e2,inv]:=hi
    let#[rfl,_]:=lN (n:=2) hu;room;rw[ed]
    refine#[.inl ∅,ca h3 #[ns,_,d,rfl,hl,∅,λt S2 dt lt x2=>hk _ _ #[x1.trans x2,l++[t],by simp,by simp[e2],λt' m'=>?_]]];rcases aG.mp m' with m'|m'
    .erw[inv t' m']
    .simp at m';subst m';exact#[dt,lt]
   .let#[x1,l,rfl,e2,inv]:=h
    have e2:l.length=2:=e2;obtain⟨a,b,rfl⟩:∃a b,l=[a,b]:=by
     match l,e2 with
     |[a,b],_=>exact#[a,b,rfl]
    have ia:=inv a (by simp);have ib:=inv b (by simp);have g2:(S1++[SO.lst ([a,b].map enc)])[S1.length]?=some (.lst [enc a,enc b]):=by simp
    have x2:Ext S (S1++[SO.lst ([a,b].map enc)]):=x1.trans (Ext.app _);generalize S1.length=m2 at g2;generalize S1++[SO.lst ([a,b].map enc)]=S2 at g2 x2;room;refine#[by simp,?_];have gl:(S2++[SO.lst [U.str [114,111,119],U.str [111,114],U.str [114,111,119]]])[S2.length]?=some (.lst [U.str [114,111,119],U.str [111,114],U.str [114,111,119]]):=by simp
    rw[gl,aC,(Ext.app _:Ext S2 _).get g2]
    rwa[qM ∅ (by simp;omega) λu hu=>#[by simp,?_]]
    have lv:∀l∈m8 a++m8 b,l∈CL:=λl hl=>(aG.mp hl).elim (ia.2 l) (ib.2 l)
    dsimp[aN,cx,or_false] at hu;have dd:max (cq a) (cq b)+1<=d+1:=∅
    rcases hu with rfl|rfl|rfl
    .erw[q (.row a b) _ dd lv (x2.trans (Ext.app _))]
    .erw[q (.or a b) _ dd lv (x2.trans (Ext.app _))]
    .erw[q (.row a b) _ dd lv (x2.trans (Ext.app _))]
  .dsimp[y,decide_false,ao,if_false]
   room;refine#[by simp,∅,∅,?_];have gl:(S++[SO.lst [U.str [115,116,97,114],U.str [112,108,117,115],U.str [109,97,121,98,101]]])[S.length]?=some (.lst [U.str [115,116,97,114],U.str [112,108,117,115],U.str [109,97,121,98,101]]):=by simp
   rw[gl,aC]
   rwa[qM (jh _ ∅) (by simp;erw[gy _ ∅]) λu hu=>?_]
   rw[ed]
   refine#[.inl ∅,ca h3 #[ns,_,d,rfl,hl,∅,λt S2 dt lt x2=>#[by simp,?_]]];have xx:Ext S S2:=(Ext.app _).trans x2;have dd:cq t+1<=d+1:=∅
   dsimp[aN,cx,or_false] at hu;rcases hu with rfl|rfl|rfl
   .erw[q (.rep .star t) _ dd lt xx]
   .erw[q (.rep .plus t) _ dd lt xx]
   .erw[q (.rep .may t) _ dd lt xx]
def Ry:Spec:=λus S Q _=>∃(ns:List Int)(bs k:Int)(dp:Nat),us=[.sF ns,.int bs,.int k,.int dp]/\dp<=2/\ns.length<=1000/\0<=k/\k<=4/\∀ts n S',v7 ts->(∀t∈ts,ng t)->(eD ts:Int)<=5*k->(ts.length:Int)=k/\(dp<=1->∀t∈ts,size t<=2/\cq t<=2)->Ext S S'->S'[n]?=some (.lst (ts.map enc))->Q (.loc n) S'
theorem Rz:∀{t:Tr},cq t<=1->null t=true->size t=1
 |.one _ _,_,h=>by cases h
 |.row a b,d,h=>by
  have:cq a=0:=by dsimp[cq] at d;omega
  cases a<;>first| (simp[null] at h;done)| (simp[cq] at this;done)
 |.or a b,d,h=>by
  have h1:cq a=0:=by dsimp[cq] at d;omega
  have h2:cq b=0:=by dsimp[cq] at d;omega
  cases a<;>first| (simp[cq] at h1;done)| (cases b<;>first| (simp[cq] at h2;done)| (simp[null] at h;done))
 |.rep m a,d,h=>by
  have h1:cq a=0:=by dsimp[cq] at d;omega
  cases a<;>first|rfl| (simp[cq] at h1;done)
theorem V5(Γ:cf)(h1:Γ "_law_small"=Nl 3)(h2:Γ "_law_nothing"=Gf 5):Keeps Γ k7 3 Ry:=by
 rintro us S Q E ⟨ns,bs,k,dp,rfl,hdp,hl,k0,k4,q⟩;unfold k7;room;refine#[by simp,?_];have x0:Ext S (S++[SO.lst []]):=Ext.app _;have g0:(S++[SO.lst []])[S.length]?=some (.lst []):=by simp
 room;refine#[∅,∅,?_];rwa[dS (λi env S1=>∃(l:List Tr)(x5 x6:Option U),env=[some (.sF ns),some (.int bs),some (.int k),some (.int dp),some (.loc S.length),x5,x6]/\Ext S S1/\S1[S.length]?=some (.lst (l.map enc))/\l.length=i/\eD l<=5*i/\∀t∈l,cq t<4/\null t=false/\ng t/\(dp<=1->size t<=2/\cq t<=2)) (λ_ _ _ _=>trivial) _ ?_ ?_ #[[],none,none,rfl,x0,g0,rfl,by simp[eD],by simp]]
 .rintro i u env S1 K hu ⟨l,x5,x6,rfl,x1,g1,ll,sl,inv⟩ hK
  let#[rfl,hi]:=lN hu;room;refine#[.inl ∅,ca h1 #[ns,_,dp,rfl,hl,∅,λt S2 dt lt x2=>?_]];have st:size t<=4:=aJ (lP t) (bj (n:=2) (j:=2) ∅ (aJ dt hdp));have g2:=x2.get g1;room;refine ca h2 #[_,rfl,.inl #[t,rfl,∅,λS3 x3=>?_]];have g3:=x3.get g2;have fin:∀(t':Tr)(x5 x6:Option U),cq t'<4->null t'=false->ng t'->size t'<=5->(dp<=1->size t'<=2/\cq t'<=2)->x6=some (enc t')->Rest Γ (.cons (.ex (.jq .append @4 (.cons @6 .nil))) .nil) #[K,Q,λ_=>E] [some (.sF ns),some (.int bs),some (.int k),some (.int dp),some (.loc S.length),x5,x6] S3:=by
   rintro t' x5 x6 d1 d2 d3 d4 d5 rfl;room;rw[g3,aC]
   refine#[trivial,by simp;omega,?_];room;have x13:=(x1.trans x2).trans x3;refine hK _ _ #[l++[t'],_,_,rfl,(x13.st ∅),by rw[gs g3];simp,by simp[ll],by simp[eD] at sl ⊢;omega,λt2 m2=>?_];rcases aG.mp m2 with m2|m2
   .erw[inv t2 m2]
   .simp at m2;subst m2;exact#[d1,d2,d3,d5]
  room;cases nt:null t with
  |false=>
   dsimp[ao,if_false];erw[fin t _ _ ∅ nt lt ∅ (λh=>#[aJ (lP t) (bj (n:=2) (j:=1) ∅ (aJ dt h)),∅]) rfl]
  |true=>
   dsimp[if_true];room;refine#[∅,by simp,?_];rwa[qM (jh _ ∅) (by simp;erw[gy _ ∅]) λc hc=>#[by simp,by simp,by simp,?_]]
   rwa[fin (.row (.one 0 [c]) t) _ _ ?_ (by simp[null]) (λl hl=>?_) (by dsimp[size];omega) (λh=>#[by dsimp[size];rw[Rz (aJ dt h) nt];decide,by show max 0 (cq t)+1<=2;omega]) rfl]
   .show max 0 (cq t)+1<4;omega
   .rcases aG.mp hl with h|h
    .have:l=[c]:=by simpa[m8] using h
     subst this;dsimp[aN,cx,or_false] at hc;rcases hc with rfl|rfl|rfl<;>simp
    .erw[lt l h]
 .rintro env S1 ⟨l,x5,x6,rfl,x1,g1,ll,sl,inv⟩
  room;have ll2:=ll;have ll:l.length<=4:=by rw[ll];simp;omega
  let#[e1,e2,e3,e4]:=pW l 1;have el:(qj 1 l).length=l.length:=by have:=congrArg cA e1;simpa using this
  have ll':(l.length:Int)=k:=by rw[ll2];dsimp[af,cU];omega
  refine q (qj 1 l) _ S1 #[∅,e2,λt m=>?_,λt m=>?_,by rw[e3];dsimp[af,cU] at sl;omega] (λt m=>?_) (by rw[e3];dsimp[af,cU] at sl;omega) #[by rw[el];erw[ll'],λh t m=>?_] x1 (by rw[e1];erw[g1])
  .let#[t',m',h]:=e4 t m;rw[h.2.1];exact(inv t' m').2.1
  .let#[t',m',h]:=e4 t m;rw[h.1];exact(inv t' m').1
  .let#[t',m',h]:=e4 t m
   intro l hl;rw[h.2.2] at hl;exact(inv t' m').2.2.1 l hl
  .let#[t',m',z]:=e4 t m
   have:=(inv t' m').2.2.2 h;rw[<-fg,z.2.2,fg,z.1];erw[this]
def Nm:Spec:=λus S Q _=>∃(ns:List Int)(b k:Int),us=[.sF ns,.int b,.int k]/\ns.length<=1000/\0<=k/\k<=12/\∀x S',(∀c∈x,c∈SG)->x.length<=12->Ext S S'->Q (.str x) S'
theorem V6(Γ:cf)(h1:Γ "_law_mix"=tW.t4):Keeps Γ mv 0 Nm:=by
 rintro us S Q E ⟨ns,b,k,rfl,hl,k0,k10,q⟩;unfold mv;room;refine#[∅,∅,?_];refine fj _ (λi acc S1=>S1=S/\∃x:List Nat,acc=(x.map λc=>[c]).map U.str/\x.length=i/\∀c∈x,c∈SG) (λi acc S1 hi h9=>by let#[x,l,e1,e2,_]:=h9;exact#[trivial,by rw[e1];simp at hi ⊢;omega]) (λi u acc S1 k' hu hi hk=>?_) (λacc S1 h=>?_) #[rfl,[],rfl,rfl,by simp]
 .let#[rfl,x,rfl,e2,inv]:=hi
  let#[rfl,hi]:=lN hu;room;rwa[ca h1 #[ns,_,rfl,hl,λm m0 m1=>?_]];room;refine#[∅,by simp,?_];rwa[qM (jh _ ∅) (by simp;erw[gy _ ∅]) λc hc=>hk _ _ #[rfl,x++[c],by simp,by simp[e2],λc' m'=>?_]]
  rcases aG.mp m' with m'|m'
  .erw[inv c' m']
  .simp at m';subst m'
   have:∀c∈[97,97,98,98,99,48,97,10,98,97,98],c∈SG:=⋯
   erw[this _ hc]
 .let#[rfl,x,rfl,e2,inv]:=h
  have xl:x.length<=12:=by rw[e2];simp;omega
  refine#[x.map λc=>[c],by simp,?_,?_]
  .have:∀l:List Nat,((l.map λc=>[c]).map cA).sum=l.length:=λl=>by induction l with
    |nil=>rfl
    |cons a l ih=>simp at ih ⊢;omega
   rw[this];simp;omega
  .have e:∀l:List Nat,(l.map λc=>[c]).flatten=l:=λl=>by induction l with
    |nil=>rfl
    |cons a l ih=>rw[au,mT,ih];rfl
   rw[tB,e]
   erw[q x _ inv xl (Ext.app _)]
noncomputable def RA:Mk->Nat
 |.star=>42
 |.plus=>43
 |.may=>63
def tx:Tr->List Nat×List Nat
 |.one _ l=>(KQ l,KQ l)
 |.rep m a=>((tx a).1++[RA m],(tx a).1++[RA m])
 |.row a b=>(40::((tx a).1++(tx b).1++[41]),(tx a).1++(tx b).1)
 |.or a b=>(40::((tx a).2++124::(tx b).2++[41]),40::((tx a).2++124::(tx b).2++[41]))
def wr:Tr->List Nat
 |.or a b=>(tx a).2++124::(tx b).2
 |t=>(tx t).2
theorem dE:∀t,ng t->(tx t).1.length+3<=13*2^cq t/\(tx t).2.length<=(tx t).1.length/\(wr t).length<=(tx t).1.length
 |.one _ l,h=>by
  have:=Rx l (h l (by simp[m8]));dsimp[tx,wr,cq];omega
 |.rep m a,h=>by
  have:=dE a h;dsimp[tx,wr,cq,gB,ar,gH];omega
 |.row a b,h=>by
  have h1:=dE a λl m=>h l (bR _ m)
  have h2:=dE b λl m=>h l (ba _ m)
  have p1:2^cq a<=2^max (cq a) (cq b):=bj ∅ ∅;have p2:2^cq b<=2^max (cq a) (cq b):=bj ∅ ∅;dsimp[tx,wr,cq,gB,ar,aU,dq];omega
 |.or a b,h=>by
  have h1:=dE a λl m=>h l (bR _ m)
  have h2:=dE b λl m=>h l (ba _ m)
  have p1:2^cq a<=2^max (cq a) (cq b):=bj ∅ ∅;have p2:2^cq b<=2^max (cq a) (cq b):=bj ∅ ∅;dsimp[tx,wr,cq,gB,ar,aU,dq];omega
theorem kD(h:ng t)(d:cq t<4):(tx t).1.length<=200/\(tx t).2.length<=200/\(wr t).length<=200:=by
 have:=dE t h;have p:2^cq t<=2^3:=bj ∅ ∅;omega
section
variable{br:Option (List Nat->PR U)}{x:List Nat}{t:U}
theorem sk(h:vW br x t):vX br x t:=#[[t],by simp,by have:=sd.cons h .nil;rwa [bU] at this,rfl]
theorem zJ(h:vX br x t):F7 br x t:=#[x,[],t,[],by simp,h,.nil,rfl]
theorem v8(h:vV br x t):vW br x t:=#[x,t,[],by simp,h,by simp,rfl]
end
theorem pX:∀t k,ng t->cq t<=k->vW (tY k) (tx t).1 (enc t)/\vX (tY k) (tx t).2 (enc t)/\F7 (tY k) (wr t) (enc t)
 |.one _ l,k,h,d=>by
  have a:=v8 (Nk (h l (by simp[m8])) (tY k));exact#[a,sk a,zJ (sk a)]
 |.rep m a,k,h,d=>by
  have d:cq a+1<=k:=d;let#[x,ta,ms,e,ia,hm,et]:=(pX a k h ∅).1;have r:vW (tY k) ((tx a).1++[RA m]) (enc (.rep m a)):=by
   refine#[x,ta,ms++[RA m],by rw[e,bJ],ia,λc hc=>?_,?_]
   .rcases aG.mp hc with h|h
    .erw[hm c h]
    .simp at h;subst h;cases m<;>decide
   .unfold M9
    rw[fE]
    show enc (.rep m a)=Js (RA m) (M9 ta ms)
    rw[<-et]
    cases m<;>rfl
  exact#[r,sk r,zJ (sk r)]
 |.row a b,k,h,d=>by
  have d:max (cq a) (cq b)+1<=k:=d;have key:∀k,max (cq a) (cq b)<=k->vX (tY k) ((tx a).1++(tx b).1) (enc (.row a b)):=λk hk=>by
   have h1:=(pX a k (λl m=>h l (bR _ m)) ∅).1;have h2:=(pX b k (λl m=>h l (ba _ m)) ∅).1;exact#[[enc a,enc b],by simp,by have:=sd.cons h1 (sd.cons h2 .nil);rwa [bU] at this,rfl]
  obtain⟨k,rfl⟩:∃k',k=k'+1:=#[k-1,∅]
  have r:=v8 (EA (zJ (key k ∅)));exact#[r,key _ ∅,zJ (key _ ∅)]
 |.or a b,k,h,d=>by
  have d:max (cq a) (cq b)+1<=k:=d;have key:∀k,max (cq a) (cq b)<=k->F7 (tY k) ((tx a).2++124::(tx b).2) (enc (.or a b)):=λk hk=>by
   have h1:=(pX a k (λl m=>h l (bR _ m)) ∅).2.1;have h2:=(pX b k (λl m=>h l (ba _ m)) ∅).2.1;exact#[(tx a).2,124::(tx b).2,enc a,[enc b],rfl,h1,by have:=vY.cons h2 .nil;rwa [bU] at this,rfl]
  obtain⟨k,rfl⟩:∃k',k=k'+1:=#[k-1,∅]
  have r:=v8 (EA (key k ∅));exact#[r,sk r,key _ ∅]
theorem EG(h:ng t)(d:cq t<4):tZ (wr t)= .ok (enc t,[]):=Na (pX t 6 h ∅).2.2
def B5(D:Tr->Prop)(f:Tr->List Nat):Spec:=λus S Q _=>∃t,us=[enc t]/\D t/\ng t/\cq t<4/\∀S',Ext S S'->Q (.str (f t)) S'
def wZ:Tr->Prop
 |.row _ _=>True
 |.or _ _=>True
 |_=>False
def JS:Tr->Prop
 |.rep _ _=>False
 |_=>True
theorem RB(Γ:cf)(k:Nat)(D:Tr->Prop)(hD:∀t,cq t<=k->wZ t->D t)(h1:Γ "place_text"=Nj)(h2:Γ "written"=B5 D wr):Keeps Γ mf 0 (B5 (λt=>cq t<=k/\JS t) λt=>(tx t).1):=by
 rintro us S Q E ⟨t,rfl,⟨dt,nr⟩,lt,d4,q⟩;have q:∀S',Ext S S'->Q (.str (tx t).1) S':=q;unfold mf;have sm:=kD lt d4;have go:wZ t->(tx t).1=40::(wr t++[41])->Rest Γ (.cons (.ret (.bin .add (.bin .add ↑[40] (.call "written" (.cons @0 .nil))) ↑[41])) .nil) #[λ_ S1=>Q .bQ S1,Q,λ_=>E] [some (enc t)] S:=by
  intro ro e;room;rwa[ca h2 #[t,rfl,hD t dt ro,lt,d4,λS1 x1=>?_]];room;refine#[by simp;omega,by simp;omega,?_];rw[<-e]
  erw[q S1 x1]
 cases t with
 |one n l=>
  rwa[wY rfl rfl ?_];unfold enc;room;dsimp[uk,bp];exact#[by simp,ca h1 #[l,rfl,lt l (by simp[m8]),q]]
 |row a b=>erw[mO rfl rfl (go trivial (by simp[tx,wr]))]
 |or a b=>erw[mO rfl rfl (go trivial (by simp[tx,wr]))]
 |rep m a=>erw[nr.elim]
noncomputable abbrev Xo:List (List Nat×List Nat):=[([115,116,97,114],[42]),([112,108,117,115],[43]),([109,97,121,98,101],[63])]
theorem RC(Γ:cf)(k:Nat)(hk:k<=10)(h1:Γ "atom_text"=B5 (λt=>cq t<=k/\JS t) λt=>(tx t).1):Keeps Γ kc 2 (B5 (λt=>cq t<=k) λt=>(tx t).1):=by
 rintro us S Q E ⟨t,rfl,dt,lt,d4,q⟩;have q:∀S',Ext S S'->Q (.str (tx t).1) S':=q;unfold kc;have sm:=kD lt d4;room;refine#[cq t+1,oa (λn env S1=>S1=S/\∃a ms,n=cq a/\cq a<=cq t/\ng a/\ms.length+cq a<=cq t/\(tx t).1=(tx a).1++ms/\env=[some (enc t),some (.str ms),some (enc a)]) ?_ _ (cq t) _ _ ∅ #[rfl,t,[],rfl,ak _,lt,by simp,by simp,rfl]];rintro n env S1 K ⟨rfl,a,ms,rfl,da,la,ml,e,rfl⟩ hK;have stop:∀kk x,enc a=.tup [.str kk,x]->(Xo.lookup kk).isSome=false->JS a->WT Γ (.dk (.cmp .isin (.ix @2 ↑0) (.lit (.tab Xo)))) [some (enc t),some (.str ms),some (enc a)] S1
   (λt1 S2=>if t1=true then Rest Γ (.cons (.set 1 (.bin .add (.ix (.lit (.tab Xo)) (.ix @2 ↑0)) @1)) (.cons (.set 2 (.ix @2 ↑1)) .nil)) #[K,Q,λ_=>E] [some (enc t),some (.str ms),some (enc a)] S2 else Rest Γ (.cons (.ret (.bin .add (.call "atom_text" (.cons @2 .nil)) @1)) .nil) #[λ_ S1=>Q .bQ S1,Q,λ_=>E] [some (enc t),some (.str ms),some (enc a)] S2) E:=by
  intro kk x ek el nr;have fin:Rest Γ (.cons (.ret (.bin .add (.call "atom_text" (.cons @2 .nil)) @1)) .nil) #[λ_ S1=>Q .bQ S1,Q,λ_=>E] [some (enc t),some (.str ms),some (enc a)] S1:=by
   room;rwa[ca h1 #[a,rfl,#[∅,nr],la,∅,λS2 x2=>?_]];room;rw[<-e]
   refine#[?_,q S2 x2];rw[e,ar] at sm;omega
  rw[ek] at fin ⊢;room;rw[uj,bp,A4,el]
  exact#[by simp,fin]
 cases a with
 |one n l=>erw[stop _ _ rfl rfl trivial]
 |row a b=>erw[stop _ _ rfl rfl trivial]
 |or a b=>erw[stop _ _ rfl rfl trivial]
 |rep m a=>
  have dr:cq (.rep m a)=cq a+1:=rfl;have ek:enc (.rep m a)= .tup [.str (qh m),enc a]:=rfl;rw[ek]
  have el:Xo.lookup (qh m)=some [RA m]:=by cases m<;>rfl
  room;rw[uj,bp,A4,el]
  refine#[by simp,?_];dsimp[qS,if_true];room;dsimp[uj,bp,yY,el];room;refine#[by simp,by simp;omega,?_];room;dsimp[uk,bp];refine#[by simp,?_];try room
  erw[hK (cq a) _ _ ∅ #[rfl,a,RA m::ms,rfl,∅,la,by simp;omega,by rw[e];simp[tx],rfl]]
def Np:Tr->Prop
 |.row _ _=>True
 |_=>False
theorem two_get{a b:Tr}{f:Tr->List Nat}{i:Nat}{u v:U}(hu:[enc a,enc b][i]?=some u)(hv:[U.str (f a),U.str (f b)][i]?=some v):∃t,(t=a\/t=b)/\u=enc t/\v=.str (f t):=by
 let#[t,m,h1,h2]:=zG (K:=[a,b]) (f:=λt=>.str (f t)) hu hv;exact#[t,by simpa using m,h1,h2]
theorem RD(Γ:cf)(k:Nat)(h1:Γ "repeat_text"=B5 (λt=>cq t<=k) λt=>(tx t).1):Keeps Γ nN 0 (B5 (λt=>cq t<=k\/(Np t/\cq t<=k+1)) λt=>(tx t).2):=by
 rintro us S Q E ⟨t,rfl,dt,lt,d4,q⟩;have q:∀S',Ext S S'->Q (.str (tx t).2) S':=q;unfold nN;have go:¬Np t->(tx t).2=(tx t).1->Rest Γ (.cons (.ret (.call "repeat_text" (.cons @0 .nil))) .nil) #[λ_ S1=>Q .bQ S1,Q,λ_=>E] [some (enc t)] S:=by
  intro nr e;room;rw[e] at q;erw[ca h1 #[t,rfl,dt.resolve_right λz=>nr z.1,lt,d4,q]]
 cases t with
 |one n l=>erw[mO rfl rfl (go (λz=>z) rfl)]
 |rep m a=>erw[mO rfl (beq_eq_false_iff_ne.mpr (JO m).2.1) (go (λz=>z) rfl)]
 |or a b=>erw[mO rfl rfl (go (λz=>z) rfl)]
 |row a b=>
  have dt:max (cq a) (cq b)+1<=k+1:=by rcases dt with z|z;erw[jP z];erw[z.2]
  have d4:max (cq a) (cq b)+1<4:=d4;have lo:∀t,t=a\/t=b->ng t/\cq t<=k/\cq t<4:=by
   rintro t (rfl|rfl)
   .exact#[λl m=>lt l (bR _ m),∅,∅]
   .exact#[λl m=>lt l (ba _ m),∅,∅]
  have sa:=(kD (lo a (.inl rfl)).1 (lo a (.inl rfl)).2.2).1;have sb:=(kD (lo b (.inr rfl)).1 (lo b (.inr rfl)).2.2).1;rwa[wY rfl rfl ?_];unfold enc;room;dsimp[uk,bp];refine#[by simp,by simp,?_];rwa[lh (S:=S) _ [.str (tx a).1,.str (tx b).1] (by simp) (by simp) (λ_ _=>trivial) (λu S' k h=>h) (λi u v hu hv S' k x hk=>?_) λS1 x1=>?_]
  .let#[t,m,rfl,rfl]:=two_get (f:=λt=>(tx t).1) hu hv
   let#[l1,l2,l3]:=lo t m;erw[ca h1 #[t,rfl,l2,l1,l3,hk]]
  .refine#[[(tx a).1,(tx b).1],by simp,by simp;omega,?_]
   have e:me [] [(tx a).1,(tx b).1]=(tx (.row a b)).2:=by simp[me,tx]
   rw[e]
   erw[q _ (x1.trans (Ext.app _))]
theorem RE(Γ:cf)(k:Nat)(h1:Γ "row_text"=B5 (λt=>cq t<=k\/(Np t/\cq t<=k+1)) λt=>(tx t).2):Keeps Γ pN 0 (B5 (λt=>cq t<=k\/(wZ t/\cq t<=k+1)) wr):=by
 rintro us S Q E ⟨t,rfl,dt,lt,d4,q⟩;unfold pN;have go:(wZ t->Np t)->wr t=(tx t).2->Rest Γ (.cons (.ret (.call "row_text" (.cons @0 .nil))) .nil) #[λ_ S1=>Q .bQ S1,Q,λ_=>E] [some (enc t)] S:=by
  intro nr e;room;rw[e] at q;erw[ca h1 #[t,rfl,dt.imp_right λz=>#[nr z.1,z.2],lt,d4,q]]
 cases t with
 |one n l=>erw[mO rfl rfl (go (λz=>z) rfl)]
 |rep m a=>erw[mO rfl (beq_eq_false_iff_ne.mpr (JO m).2.2) (go (λz=>z) rfl)]
 |row a b=>erw[mO rfl rfl (go (λz=>z) rfl)]
 |or a b=>
  have dt:max (cq a) (cq b)+1<=k+1:=by rcases dt with z|z;erw[jP z];erw[z.2]
  have d4:max (cq a) (cq b)+1<4:=d4;have lo:∀t,t=a\/t=b->ng t/\cq t<=k/\cq t<4:=by
   rintro t (rfl|rfl)
   .exact#[λl m=>lt l (bR _ m),∅,∅]
   .exact#[λl m=>lt l (ba _ m),∅,∅]
  have sa:=(kD (lo a (.inl rfl)).1 (lo a (.inl rfl)).2.2).2.1;have sb:=(kD (lo b (.inr rfl)).1 (lo b (.inr rfl)).2.2).2.1;rwa[wY rfl rfl ?_];unfold enc;room;dsimp[uk,bp];refine#[by simp,by simp,?_];rwa[lh (S:=S) _ [.str (tx a).2,.str (tx b).2] (by simp) (by simp) (λ_ _=>trivial) (λu S' k h=>h) (λi u v hu hv S' k x hk=>?_) λS1 x1=>?_]
  .let#[t,m,rfl,rfl]:=two_get (f:=λt=>(tx t).2) hu hv
   let#[l1,l2,l3]:=lo t m;erw[ca h1 #[t,rfl,.inl l2,l1,l3,hk]]
  .refine#[[(tx a).2,(tx b).2],by simp,by simp;omega,?_]
   have e:me [124] [(tx a).2,(tx b).2]=wr (.or a b):=by simp[me,wr]
   rw[e]
   erw[q _ (x1.trans (Ext.app _))]
end PL.lT
namespace PL.Ab
section
variable{κ:Type}[BEq κ][LawfulBEq κ]
noncomputable def lY(seen:List κ):List κ->List Nat
 |[]=>[]
 |k::r=>if k∈seen then seen.idxOf k::lY seen r else seen.length::lY (seen++[k]) r
noncomputable def sn(seen:List κ):List κ->List κ
 |[]=>seen
 |k::r=>sn (if k∈seen then seen else seen++[k]) r
theorem mD:∀(ks:List κ)(seen:List κ),(lY seen ks).length=ks.length
 |[],_=>rfl
 |k::r,seen=>by unfold lY;split<;>simp[mD r]
theorem v9:∀(ks:List κ)(seen:List κ),(sn seen ks).length<=seen.length+ks.length
 |[],_=>by simp[sn]
 |k::r,seen=>by
  unfold sn;split
  .have:=v9 r seen;simp;omega
  .have:=v9 r (seen++[k]);simp at this ⊢;omega
theorem JT{κ':Type}[BEq κ'][LawfulBEq κ'](f:κ->κ')(hf:∀a b,f a=f b->a=b)(k:κ):∀l:List (κ×U),(l.map λp=>(f p.1,p.2)).lookup (f k)=l.lookup k
 |[]=>rfl
 | (a,v)::r=>by
  rw[au,aK,aK,JT f hf k r]
  by_cases h:k=a
  .subst h;simp
  .rw[show(k==a)=false by simp[h],show(f k==f a)=false from beq_eq_false_iff_ne.mpr λe=>h (hf _ _ e)]
theorem zK:∀(ks:List κ)(seen:List κ),∃m,sn seen ks=seen++m
 |[],seen=>#[[],by simp[sn]]
 |k::r,seen=>by
  unfold sn;split
  .erw[zK r seen]
  .let#[m,e]:=zK r (seen++[k])
   exact#[k::m,by rw[e];simp]
theorem JU:∀(ks:List κ)(seen:List κ),seen.Nodup->(sn seen ks).Nodup
 |[],_,h=>h
 |k::r,seen,h=>by
  unfold sn;split
  .erw[JU r seen h]
  .rename_i hk
   rwa[JU r _ ?_];rw[dO]
   exact#[h,by simp,λx hx y hy=>by rw[aZ.mp hy];erw[λe=>hk (e▸hx)]]
theorem pY{k:κ}{a b:List κ}(h:k∈a):(a++b).idxOf k=a.idxOf k:=by
 rw[jK,if_pos h]
theorem tF:∀(ks:List κ)(seen:List κ),lY seen ks=ks.map λk=>(sn seen ks).idxOf k
 |[],_=>rfl
 |k::r,seen=>by
  unfold lY sn;split
  .rename_i hk
   let#[m,e]:=zK r seen;rw[au,tF r seen,e,pY hk]
  .rename_i hk
   let#[m,e]:=zK r (seen++[k]);rw[au,tF r (seen++[k]),e]
   congr 1
   rw[pY (by simp),jK,if_neg hk]
   simp
theorem wb:∀(ks:List κ)(seen:List κ)(k:κ),k∈sn seen ks↔k∈seen\/k∈ks
 |[],_,_=>by simp[sn]
 |x::r,seen,k=>by
  unfold sn;rw[wb r]
  split
  .rename_i hk
   constructor
   .rintro(h|h)
    .erw[.inl h]
    .erw[.inr (aA _ h)]
   .rintro(h|h)
    .erw[.inl h]
    .rcases aN.mp h with rfl|h
     .erw[.inl hk]
     .erw[.inr h]
  .simp[or_assoc]
def dz(seen:List κ)(n:Nat):List (κ×U):=(seen.zipIdx n).map λp=>(p.1,aM p.2)
theorem JV(a:List κ)(k:κ)(n:Nat):dz (a++[k]) n=dz a n++[(k,aM (n+a.length))]:=by
 unfold dz;rw[List.zipIdx_append,aD];simp
theorem zL(a:List κ)(n:Nat):(dz a n).length=a.length:=by simp[dz]
theorem zM:∀(a:List κ)(k:κ)(n:Nat),(dz a n).lookup k=if k∈a then some (aM (n+a.idxOf k)) else none
 |[],k,n=>rfl
 |x::a,k,n=>by
  have e:dz (x::a) n=(x,aM n)::dz a (n+1):=rfl;rw[e,aK]
  by_cases h:k=x
  .subst h;simp
  .have h1:(k==x)=false:=by simp[h]
   rw[h1,zM a k (n+1)]
   by_cases hk:k∈a
   .rw[if_pos hk,if_pos (aA _ hk),List.idxOf_cons,show(x==k)=false by simp[cC h]]
    dsimp[cond_false]
    congr 2
    omega
   .rw[if_neg hk,if_neg (by simp[h,hk])]
end
theorem RF(o:Option Nat):mI (uN o)=true:=by cases o<;>rfl
theorem Oh(a b:Option Nat):NX (uN a) (uN b)=(a==b):=by
 cases a<;>cases b<;>first|rfl|skip
 rename_i x y;show((x:Int)== (y:Int))=(some x==some y);by_cases h:x=y
 .subst h;simp
 .rw[show((x:Int)== (y:Int))=false from beq_eq_false_iff_ne.mpr λe=>h (pC e),show(some x==some y)=false from beq_eq_false_iff_ne.mpr λe=>h (aL e)]
theorem JW(k:Option Nat):∀(l:List (Option Nat×U)),tU (uN k) (l.map λp=>(uN p.1,p.2))=l.lookup k
 |[]=>rfl
 | (a,v)::r=>by
  rw[au,aK]
  unfold tU;rw[Oh,JW k r]
  by_cases h:a=k
  .subst h;simp
  .have h1:(a==k)=false:=by simp[h]
   have h2:(k==a)=false:=by simp[cC h]
   rw[h1,h2];rfl
section
variable{κ β:Type}[BEq κ][LawfulBEq κ][BEq β][LawfulBEq β]{ks:List κ}
theorem Nq{l:List κ}{a b:κ}(ha:a∈l)(h:l.idxOf a=l.idxOf b):a=b:=by
 have la:=bP ha;have e:=eP la;have lb:l.idxOf b<l.length:=∅
 rw[<-e,<-eP lb]
 congr 1
theorem uO{i j:Nat}{a b:κ}(hi:ks[i]?=some a)(hj:ks[j]?=some b):(lY [] ks)[i]?=(lY [] ks)[j]?↔a=b:=by
 rw[tF,aw,aw,hi,hj]
 constructor
 .intro h
  erw[Nq ((wb ks [] a).mpr (.inr (ah hi))) (aL h)]
 .intro h;rw[h]
theorem uP:∀(ks:List κ)(seen:List κ)(i v:Nat),(lY seen ks)[i]?=some (v+1)->v<seen.length\/∃p,p<i/\(lY seen ks)[p]?=some v
 |[],_,i,v,h=>by simp[lY] at h
 |k::r,seen,0,v,h=>by
  unfold lY at h;split at h
  .rename_i hk
   have:=bP hk;have:seen.idxOf k=v+1:=by simpa using h
   omega
  .have:seen.length=v+1:=by simpa using h
   omega
 |k::r,seen,i+1,v,h=>by
  unfold lY at h ⊢;split at h
  .rename_i hk
   rw[if_pos hk]
   rcases uP r seen i v (by simpa using h) with z|⟨p,hp,e⟩
   .erw[.inl z]
   .exact .inr #[p+1,∅,by simpa using e]
  .rename_i hk
   rw[if_neg hk]
   rcases uP r (seen++[k]) i v (by simpa using h) with z|⟨p,hp,e⟩
   .rw[ar] at z
    by_cases y:v<seen.length
    .erw[.inl y]
    .have:seen.length=v:=by simp at z;omega
     erw[.inr #[0,∅,by simp[this]]]
   .exact .inr #[p+1,∅,by simpa using e]
theorem Nr(hm:m∈lY [] ks)(h:∀j∈lY [] ks,j<=m):m+1=(sn [] ks).length:=by
 rw[tF] at hm h;let#[k,hk,rfl]:=bq.mp hm;have l1:=bP ((wb ks [] k).mpr (.inr hk));have ll:(sn [] ks).length-1<(sn [] ks).length:=∅
 have e:=(JU ks [] (by simp)).idxOf_getElem _ ll;have m2:=(wb ks [] _).mp (bT ll);have:=h _ (bq.mpr #[_,m2.resolve_left (by simp),rfl]);rw[e] at this;omega
def V7(ps:List (κ×β)):Prop:=∀x∈ps,∀y∈ps,x.1=y.1->x.2=y.2
theorem BD:∀(ps:List (κ×β))(A:List κ)(B:List β),V7 ps->(∀x∈ps,x.1∈A->x.2∈B)->(sn B (ps.map (·.2))).length+A.length<=(sn A (ps.map (·.1))).length+B.length
 |[],A,B,_,_=>by simp[sn];omega
 |x::ps,A,B,hc,hA=>by
  have c':V7 ps:=λy hy z hz=>hc y (aA _ hy) z (aA _ hz)
  rw[au,au]
  unfold sn;by_cases h1:x.1∈A
  .have h2:=hA x (aT ..) h1
   rw[if_pos h1,if_pos h2]
   erw[BD ps A B c' λy hy=>hA y (aA _ hy)]
  .have nx:∀y∈ps,y.1∈A++[x.1]->y.2∈B\/y.2=x.2:=λy hy m=>by
    rcases aG.mp m with m|m
    .erw[.inl (hA y (aA _ hy) m)]
    .exact .inr (hc y (aA _ hy) x (aT ..) (by simpa using m))
   rw[if_neg h1]
   by_cases h2:x.2∈B
   .rw[if_pos h2]
    have:=BD ps (A++[x.1]) B c' λy hy m=>(nx y hy m).elim id λe=>e▸h2
    simp at this ⊢;omega
   .rw[if_neg h2]
    have:=BD ps (A++[x.1]) (B++[x.2]) c' λy hy m=>by
     rcases nx y hy m with z|z
     .simp[z]
     .simp[z]
    simp at this ⊢;omega
theorem Dw:∀(ps:List (κ×β))(A:List κ)(B:List β),V7 ps->A.length=B.length->(∀x∈ps,x.1∈A->x.2∈B/\A.idxOf x.1=B.idxOf x.2)->(sn B (ps.map (·.2))).length=(sn A (ps.map (·.1))).length->lY A (ps.map (·.1))=lY B (ps.map (·.2))
 |[],A,B,_,_,_,_=>rfl
 |x::ps,A,B,hc,hl,hA,he=>by
  have c':V7 ps:=λy hy z hz=>hc y (aA _ hy) z (aA _ hz)
  rw[au,au] at he ⊢;unfold sn at he;unfold lY;by_cases h1:x.1∈A
  .let#[h2,h3]:=hA x (aT ..) h1
   rw[if_pos h1,if_pos h2] at he ⊢;rw[h3,Dw ps A B c' hl (λy hy=>hA y (aA _ hy)) he]
  .have nx:∀y∈ps,y.1∈A++[x.1]->y.1∈A\/(y.1=x.1/\y.2=x.2):=λy hy m=>by
    rcases aG.mp m with m|m
    .erw[.inl m]
    .have e:y.1=x.1:=by simpa using m
     erw[.inr #[e,hc y (aA _ hy) x (aT ..) e]]
   rw[if_neg h1] at he ⊢;by_cases h2:x.2∈B
   .rw[if_pos h2] at he
    have:=BD ps (A++[x.1]) B c' λy hy m=>by
     rcases nx y hy m with z|z
     .exact(hA y (aA _ hy) z).1
     .rw[z.2];erw[h2]
    simp at this;omega
   .rw[if_neg h2] at he ⊢
    rw[hl,Dw ps (A++[x.1]) (B++[x.2]) c' (by simp[hl]) (λy hy m=>?_) he]
    rcases nx y hy m with z|z
    .let#[z1,z2]:=hA y (aA _ hy) z
     exact#[by simp[z1],by rw[pY z,pY z1,z2]]
    .rw[z.1,z.2]
     exact#[by simp,by rw[jK,if_neg h1,jK,if_neg h2];simp[hl]]
theorem JX{a:List κ}{b:List β}(h:∀(i j:Nat) (x y:κ) (u v:β),a[i]?=some x->a[j]?=some y->b[i]?=some u->b[j]?=some v->x=y->u=v):V7 (a.zip b):=by
 intro x hx y hy e;let#[i,hi]:=cB hx;let#[j,hj]:=cB hy;rw[List.getElem?_zip_eq_some] at hi hj;erw[h i j _ _ _ _ hi.1 hj.1 hi.2 hj.2 e]
theorem Dx{a:List κ}{b:List β}(hl:a.length=b.length)(h:∀(i j:Nat) (x y:κ) (u v:β),a[i]?=some x->a[j]?=some y->b[i]?=some u->b[j]?=some v->x=y->u=v):(sn [] b).length<=(sn [] a).length:=by
 have:=BD (a.zip b) [] [] (JX h) (by simp);rw[KC ∅,KD ∅] at this;simpa using this
theorem EH{a:List κ}{b:List β}(hl:a.length=b.length)(h:∀(i j:Nat) (x y:κ) (u v:β),a[i]?=some x->a[j]?=some y->b[i]?=some u->b[j]?=some v->x=y->u=v)(he:(sn [] b).length=(sn [] a).length):lY [] a=lY [] b:=by
 have:=Dw (a.zip b) [] [] (JX h) rfl (by simp);rw[KC ∅,KD ∅] at this;erw[this he]
theorem EI(ks:List κ):lY [] (lY [] ks)=lY [] ks:=by
 have l:=mD ks [];have h1:∀(i j:Nat)(x y:κ)(u v:Nat),ks[i]?=some x->ks[j]?=some y->(lY [] ks)[i]?=some u->(lY [] ks)[j]?=some v->x=y->u=v:=λi j x y u v hi hj hu hv e=>by
  have:=(uO hi hj).mpr e;rw[hu,hv] at this;erw[aL this]
 have h2:∀(i j:Nat)(x y:Nat)(u v:κ),(lY [] ks)[i]?=some x->(lY [] ks)[j]?=some y->ks[i]?=some u->ks[j]?=some v->x=y->u=v:=λi j x y u v hi hj hu hv e=>by
  refine(uO hu hv).mp ?_;rw[hi,hj,e]
 exact(EH l.symm h1 (Nat.le_antisymm (Dx l.symm h1) (Dx l h2))).symm
end
def JY(p:Nat×List Nat):U:=.tup [aM p.1,.tup (p.2.map aM)]
theorem uQ{κ:Type}[BEq κ][LawfulBEq κ]:∀(ks:List κ)(k:κ)(seen:List κ),sn seen (ks++[k])=if k∈sn seen ks then sn seen ks else sn seen ks++[k]
 |[],k,seen=>rfl
 |x::r,k,seen=>by
  rw[oj]
  unfold sn;erw[uQ r k _]
theorem JZ{κ:Type}[BEq κ][LawfulBEq κ](ks:List κ)(k:κ):lY [] (ks++[k])=lY [] ks++[(sn [] (ks++[k])).idxOf k]:=by
 rw[tF,tF,aD,uQ]
 congr 1
 rwa[fL λx hx=>?_]
 split
 .rfl
 .erw[pY ((wb ks [] x).mpr (.inr hx))]
noncomputable def xc(p:Nat×List Nat):Int×List Int:=((p.1:Int),p.2.map λ(n:Nat)=>(n:Int))
theorem J0(a b:Nat×List Nat)(h:xc a=xc b):a=b:=by
 let#[h1,h2]:=Ah h;erw[Prod.ext (pC h1) ((sA λ_ _ e=>pC e).mp h2)]
theorem J1(p:Nat×List Nat):JY p=.tup [.int (xc p).1,.tup ((xc p).2.map .int)]:=by
 unfold JY xc;rw[bu];rfl
def J4:Spec:=λus S Q _=>∃u,us=[u]/\((∃ks:List (Option Nat),u=.tup (ks.map uN)/\ks.length<=9000/\∀m S',Ext S S'->S.length<=m->S'[m]?=some (.lst ((lY [] ks).map aM))->Q (.loc m) S') \/
 ∃n,∃ks:List (Nat×List Nat),u=.loc n/\S[n]?=some (.lst (ks.map JY))/\ks.length<=9000/\∀m S',Ext S S'->S.length<=m->S'[m]?=some (.lst ((lY [] ks).map aM))->Q (.loc m) S')
theorem Ka{κ:Type}[BEq κ][LawfulBEq κ](f:κ->U)(D:List (κ×U)->SO)(hD:∀(S:bF) (n:Nat) kvs k (d:U) (Q:KU),S[n]?=some (D kvs)->kvs.length<=9000->(match kvs.lookup k with|some v=>Q v S|none=>Q d (S.set n (D (kvs++[(k,d)]))))->o7 S n (f k) d Q)(hL:∀(S:bF) (n:Nat) kvs,S[n]?=some (D kvs)->rJ .nJ (.loc n) S/\oE S (.loc n)=some kvs.length)
  {g:bF->Prop}{S:bF}{Q:List U->bF->Prop}{ks:List κ} (hl:ks.length<=9000) (hg:∀S',Ext S S'->g S') (q:∀S',Ext S S'->Q ((lY [] ks).map aM) S'):ow g (λ_ S2 k=>k true S2) (λu S2 k=>rJ .nJ (.loc S.length) S2/\opt (oE S2 (.loc S.length)) λn=>n<=1000000/\o7 S2 S.length u (.int n) k) Q (ks.map f) [] (S++[D []]):=by
 rwa[fj _ (λi acc S'=>Ext S S'/\S'[S.length]?=some (D (dz (sn [] (ks.take i)) 0))/\acc=(lY [] (ks.take i)).map aM) (λi acc S' hi h=>#[hg _ h.1,?_]) (λi u acc S' k hu hI hk=>?_) (λacc S' hI=>?_) #[Ext.app _,by simp[sn,dz],rfl]]
 .rw[h.2.2,af,mD,dC];omega
 .let#[x,e,rfl]:=hI
  let#[k0,hk0,rfl]:=fD hu;have tk:=F8 hk0;have ln:(sn [] (ks.take i)).length<=9000:=by have:=v9 (ks.take i) [];simp at this;omega
  have nt:(lY [] (ks.take (i+1))).map aM=(lY [] (ks.take i)).map aM++[aM ((sn [] (ks.take (i+1))).idxOf k0)]:=by rw[tk,JZ,aD];rfl
  rw[if_pos rfl,(hL _ _ _ e).2]
  refine#[(hL _ _ _ e).1,by rw[zL];omega,hD _ _ _ _ _ _ e (by rw[zL];erw[ln]) ?_];rw[zM,zL]
  by_cases hm:k0∈sn [] (ks.take i)
  .have es:sn [] (ks.take (i+1))=sn [] (ks.take i):=by rw[tk,uQ,if_pos hm]
   rw[if_pos hm,oU]
   erw[hk _ _ #[x,by rw[es];exact e,by rw[nt,es]]]
  .have es:sn [] (ks.take (i+1))=sn [] (ks.take i)++[k0]:=by rw[tk,uQ,if_neg hm]
   rw[if_neg hm]
   refine hk _ _ #[#[by simpa using x.1,λn hn=>?_],?_,?_]
   .rw[ai ∅];erw[x.2 n hn]
   .rw[bG (ab.mp e).1,es,JV,oU]
   .rw[nt,es,jK,if_neg hm];simp
 .let#[x,e,rfl]:=hI
  rw[show ks.take (ks.map f).length=ks by simp]
  erw[q _ x]
theorem RG(Γ:cf):Keeps Γ nV 1 J4:=by
 rintro us S Q E ⟨u,rfl,h⟩;unfold nV;rcases h with⟨ks,rfl,hl,q⟩|⟨n,ks,rfl,g,hl,q⟩
 .room
  rw[vE]
  refine#[⋯,.inl ?_];room;refine#[by simp;omega,Ka uN (λl=>.dH (l.map λp=>(uN p.1,p.2))) (λS n kvs k d Q e l h=>?_) (λS n kvs e=>#[?_,by dsimp[oE,e,af]]) hl (λ_ _=>trivial) λS' x=>q _ _ (x.trans (Ext.app _)) x.1 (by simp)]
  .unfold o7
   rw[e]
   refine#[#[RF _,by rw[af];omega],?_];rw[aD] at h;rw[JW]
   erw[h]
  .show(match S[n]? with|some (.dH _)=>True|some (.uh _)=>True|some (.wL _)=>True|_=>False)
   rw[e];trivial
 .room
  rw[vE]
  refine#[⋯,.inr (.inr ?_)];room;rw[ag (aW g),g]
  dsimp[aC];rwa[Ka JY (λl=>.wL (l.map λp=>(xc p.1,p.2))) (λS n kvs k d Q e l h=>?_) (λS n kvs e=>#[?_,by dsimp[oE,e,af]]) hl (λS' x=>x.get g) λS' x=>q _ _ (x.trans (Ext.app _)) x.1 (by simp)]
  .unfold o7
   rw[e]
   refine#[_,_,J1 k,by rw[af];omega,?_];rw[show((xc k).1,(xc k).2)=xc k from rfl,JT xc J0]
   rw[aD] at h;erw[h]
  .show(match S[n]? with|some (.dH _)=>True|some (.uh _)=>True|some (.wL _)=>True|_=>False)
   rw[e];trivial
structure Rw(S:bF)(n:Nat)(ls:List Nat)(g:Nat->Nat->Nat):Prop where
 l:S[n]?=some (.lst (ls.map .loc))
 d:∀(j m:Nat),ls[j]?=some m->S[m]?=some (SO.dH (SG.map λc=>(.str [c],aM (g j c))))
theorem Rw.ext{S S':bF}{n:Nat}{ls:List Nat}{g:Nat->Nat->Nat}(h:Rw S n ls g)(x:Ext S S'):Rw S' n ls g:=#[x.get h.l,λj m e=>x.get (h.d j m e)]
theorem zN{f:Nat->U}{c:Nat}:∀{l:List Nat},c∈l->tU (.str [c]) (l.map λc=>(U.str [c],f c))=some (f c)
 |x::l,h=>by
  rw[au]
  unfold tU;by_cases e:x=c
  .subst e;rw[if_pos (by simp[NX])]
  .rw[if_neg (by simp[NX,e])]
   rcases aN.mp h with z|z
   .erw[absurd z.symm e]
   .erw[zN z]
theorem BE{κ:Type}[BEq κ][LawfulBEq κ]{f:Nat->κ}{h:Nat->U}{k:κ}:∀l:List Nat,(∃c∈l,f c=k/\(l.map λc=>(f c,h c)).lookup k=some (h c))\/(l.map λc=>(f c,h c)).lookup k=none
 |[]=>.inr rfl
 |x::l=>by
  rw[au,aK]
  by_cases e:k=f x
  .erw[.inl #[x,aT ..,e.symm,by simp[e]]]
  .rw[show(k==f x)=false by simp[e]]
   rcases BE (f:=f) (h:=h) (k:=k) l with⟨c,m,z⟩|z
   .erw[.inl #[c,aA _ m,z]]
   .erw[.inr z]
def Oi:Spec:=λus S Q _=>∃n ls g,us=[.loc n]/\Rw S n ls g/\ls.length<=9000/\∀(m:Nat)(S':bF)(sg:List Nat),Ext S S'->S.length<=m->S'[m]?=some (.lst (sg.map λc=>.str [c]))->sg.length<=95->(∀c∈sg,c∈SG)->(∀c∈SG,∃c'∈sg,∀j,j<ls.length->g j c'=g j c)->Q (.loc m) S'
theorem RH(Γ:cf):Keeps Γ iW 2 Oi:=by
 rintro us S Q E ⟨n,ls,g,rfl,rw0,hl,q⟩;let#[r1,r2]:=rw0;unfold iW;have gl:SG.length=95:=rfl;generalize SG=G at *;room;rw[vE]
 refine#[⋯,.inr (.inl ?_)];room
 let ky:Nat->List Int:=λc=>(bO ls.length).map λj=>((g j c:Nat):Int)
 rwa[dS (λi env S1=>∃(sg:List Nat)(x2:Option U),env=[some (.loc n),some (.loc S.length),x2]/\Ext S S1/\S1[S.length]?=some (.uh (sg.map λc=>(ky c,.str [c])))/\sg.length<=i/\(∀c∈sg,c∈G)/\∀c∈G.take i,∃c'∈sg,ky c'=ky c) (λ_ _ _ _=>trivial) _ ?_ ?_ #[[],none,rfl,Ext.app _,by simp,by simp,by simp,by simp]]
 .rintro i u env S1 K hu ⟨sg,x2,rfl,x1,g1,sl,hs,inv⟩ hK
  let#[c,hc,rfl]:=fD hu;have cm:=ah hc;have il:i<95:=by have:=(ab.mp hc).1;omega
  have et:=F8 hc;room;refine#[by show(match S1[S.length]? with|some (.dH _)=>True|some (.uh _)=>True|some (.wL _)=>True|_=>False);rw[g1];trivial,?_];rw[x1.get r1,aC]
  rwa[lh (S:=S1) _ ((ky c).map .int) (by simp[ky]) (by simp;omega) (λS' x=>x.get (x1.get r1)) (λu S' k h=>h) (λj u v hu hv S2 k x hk=>?_) λS2 x=>?_]
  .let#[m,hm,rfl]:=fD hu
   have jl:=(ab.mp hm).1;rw[aw,aw,iQ jl] at hv;have hv:aM (g j c)=v:=by simpa using hv
   subst hv;room;rw[(x1.trans x).get (r2 j m hm)]
   rw[hW]
   refine#[rfl,?_];rw[zN cm]
   erw[hk S2 .refl]
  .rw[ax (ak _),b8]
   dsimp[List.getElem?_cons_zero,aC];have x2:=x.trans (Ext.app [SO.lst ((ky c).map U.int)]);have g2:=x2.get g1;generalize S2++[SO.lst ((ky c).map U.int)]=S3 at x2 g2;show o7 S3 S.length _ _ _;unfold o7;rw[g2]
   refine#[ky c,rfl,by simp;omega,?_];rcases BE (f:=ky) (h:=λc=>U.str [c]) (k:=ky c) sg with⟨c',m',e',z⟩|z
   .rw[z]
    room;rwa[hK _ _ #[sg,_,rfl,x1.trans x2,g2,∅,hs,λd hd=>?_]];rw[et] at hd;rcases aG.mp hd with hd|hd
    .erw[inv d hd]
    .have:d=c:=by simpa using hd
     subst this;exact#[c',m',e']
   .rw[z]
    room;have x13:=x1.trans x2;rwa[hK _ _ #[sg++[c],_,rfl,(x13.st ∅),by rw[gs g2];simp,by simp;omega,λd hd=>?_,λd hd=>?_]]
    .rcases aG.mp hd with hd|hd
     .erw[hs d hd]
     .have:d=c:=by simpa using hd
      subst this;erw[cm]
    .rw[et] at hd
     rcases aG.mp hd with hd|hd
     .let#[c',m',e']:=inv d hd
      exact#[c',by simp[m'],e']
     .have:d=c:=by simpa using hd
      subst this;exact#[d,by simp,rfl]
 .rintro env S1 ⟨sg,x2,rfl,x1,g1,sl,hs,inv⟩
  rw[af,gl] at sl;rw[af,bS] at inv;room;refine#[by show(match S1[S.length]? with|some (.uh _)=>True|_=>False);rw[g1];trivial,?_];show(match S1[S.length]? with|some (.uh kvs)=>Q (.loc S1.length) (S1++[.lst (kvs.map (·.2))])|_=>False)
  rw[g1]
  rwa[q _ _ sg (x1.trans (Ext.app _)) x1.1 (by simp) sl hs λc hc=>?_]
  let#[c',m',e']:=inv c hc;refine#[c',m',λj hj=>?_];have:=congrArg (·[j]?) e';dsimp[ky,aw,iQ hj] at this;have:((g j c':Nat):Int)=(g j c:Nat):=by simpa using this
  omega
def dW(G:List Nat)(f:Nat->Option Nat):List (List Nat×U):=G.filterMap λc=>(f c).map λk=>([c],aM k)
noncomputable def sD(ps:List (List Nat×U)):List (U×U):=ps.map λp=>(U.str p.1,p.2)
theorem EJ(a:List Nat):∀ps,tU (.str a) (sD ps)=ps.lookup a
 |[]=>rfl
 | (b,v)::r=>by
  have ih:=EJ a r;show(if (b==a)=true then some v else tU (.str a) (sD r))=_;rw[aK,ih]
  by_cases h:b=a
  .subst h;simp
  .rw[if_neg (by simp[h]),show(a==b)=false by simp[cC h]]
theorem wd(f:Nat->Option Nat)(c:Nat):∀G:List Nat,(dW G f).lookup [c]=if c∈G then(f c).map aM else none
 |[]=>rfl
 |x::G=>by
  have ih:=wd f c G;unfold dW at ih ⊢;rw[cu]
  by_cases e:c=x
  .subst e
   cases h:f c with
   |none=>rw[h] at ih;dsimp[uz,ih];simp
   |some k=>simp
  .have e1:(([c]:List Nat)== [x])=false:=by simp[e]
   cases h:f x with
   |none=>dsimp[uz,ih,aN,e,false_or]
   |some k=>dsimp[iX,aK,e1,ih,aN,e,false_or]
structure Rp(S:bF)(n:Nat)(ls:List Nat)(go:Nat->Nat->Option Nat):Prop where
 l:S[n]?=some (.lst (ls.map .loc))
 d:∀(j m:Nat),ls[j]?=some m->S[m]?=some (SO.dH (sD (dW SG (go j))))
 z:∀(j c:Nat),ls.length<=j->go j c=none
theorem Rp.ext{S S':bF}{n:Nat}{ls:List Nat}{go:Nat->Nat->Option Nat}(h:Rp S n ls go)(x:Ext S S'):Rp S' n ls go:=#[x.get h.l,λj m e=>x.get (h.d j m e),h.z]
noncomputable def gN(N:Nat)(go:Nat->Nat->Option Nat)(j c:Nat):Nat:=(go j c).getD N
def V8:Spec:=λus S Q _=>∃n ls go,us=[.loc n]/\Rp S n ls go/\ls.length<=9000/\∀(m:Nat)(S':bF)(ms:List Nat),Ext S S'->ms.length=ls.length+1->Rw S' m ms (gN ls.length go)->Q (.loc m) S'
theorem RI(hd:S[d]?=some (.dH (sD (dW SG f))))(q:∀m S',Ext S S'->S'[m]?=some (.dH (SG.map λc=>(.str [c],aM ((f c).getD N))))->k (.loc m) S'):WE Γ YK [some (.loc d),some (aM N)] S k E:=by
 unfold YK;have nd:=Oe;have gl:SG.length=95:=rfl;generalize SG=G at *;room;rwa[lh (S:=S) _ (G.map λc=>.tup [.str [c],aM ((f c).getD N)]) (by simp) (by simp;omega) (λS' x=>trivial) (λu S' k h=>h) (λj u v hu hv S2 k x' hk=>?_) λS2 x'=>?_]
 .rw[aw] at hu hv
  let#[c,hc,rfl]:=aq.mp hu;rw[hc] at hv;have hv:U.tup [.str [c],aM ((f c).getD N)]=v:=by simpa using hv
  subst hv;room;rw[x'.get hd]
  dsimp[getD_some,hW,true_and];refine#[dW G f,rfl,by simp,?_];rw[wd,if_pos (ah hc)]
  have:((f c).map aM).getD (aM N)=aM ((f c).getD N):=by cases f c<;>rfl
  rw[this]
  erw[hk S2 .refl]
 .refine#[G.map λc=>([c],aM ((f c).getD N)),by simp[dh],by rw[bu];erw[nd],?_]
  rw[bu]
  erw[q _ _ (x'.trans ((Ext.app _).trans (Ext.app _))) (by rw[ax (ak _),b8];rfl)]
theorem V9(Γ:cf):Keeps Γ jx 1 V8:=by
 rintro us S Q E ⟨n,ls,go,rfl,⟨r1,r2,r3⟩,hl,q⟩;unfold jx;room;rw[mZ r1]
 dsimp[bp,af];refine#[∅,?_];room;rw[vE]
 refine#[⋯,.inl #[by simp,?_]];have x0:Ext S (S++[SO.dH []]++[SO.lst [U.loc S.length]]):=(Ext.app _).trans (Ext.app _);have g0:(S++[SO.dH []]++[SO.lst [U.loc S.length]])[(S++[SO.dH []]).length]?=some (.lst [U.loc S.length]):=by
  rw[ax (ak _),b8];rfl
 have d0:(S++[SO.dH []]++[SO.lst [U.loc S.length]])[S.length]?=some (.dH []):=(Ext.app _).get (by simp);generalize (S++[SO.dH []]).length=n0 at g0;generalize S++[SO.dH []]++[SO.lst [U.loc S.length]]=S0 at x0 g0 d0;rw[x0.get r1,g0]
 dsimp[aC];refine#[by simp;omega,?_];have x1:Ext S (S0++[SO.lst (ls.map U.loc++[U.loc S.length])]):=x0.trans (Ext.app _);have g1:(S0++[SO.lst (ls.map U.loc++[U.loc S.length])])[S0.length]?=some (.lst ((ls++[S.length]).map U.loc)):=by simp
 have d1:=(Ext.app [SO.lst (ls.map U.loc++[U.loc S.length])]).get d0;generalize S0.length=n1 at g1;generalize S0++[SO.lst (ls.map U.loc++[U.loc S.length])]=S1 at x1 g1 d1;rw[g1,aC]
 have rd:∀(j d:Nat),(ls++[S.length])[j]?=some d->S1[d]?=some (.dH (sD (dW SG (go j)))):=λj d h=>by
  by_cases hj:j<ls.length
  .rw[ag hj] at h
   erw[x1.get (r2 j d h)]
  .have:=(ab.mp h).1
   have ej:j=ls.length:=by simp at this;omega
   subst ej;have:S.length=d:=by simpa using h
   subst this;have:dW SG (go ls.length)= []:=by
    unfold dW;rw[List.filterMap_eq_nil_iff]
    intro c _;rw[r3 _ c (ak _)];rfl
   rw[this];erw[d1]
 refine fj _ (λi acc S'=>Ext S1 S'/\∃ms:List Nat,acc=ms.map .loc/\ms.length=i/\∀(j d:Nat),ms[j]?=some d->S'[d]?=some (SO.dH (SG.map λc=>(.str [c],aM (gN ls.length go j c))))) (λi acc S' hi h9=>by let#[x,ms,e1,e2,_]:=h9;exact#[x.get g1,by rw[e1];simp at hi ⊢;omega]) (λi u acc S' k hu hi hk=>?_) (λacc S' hI=>?_) #[.refl,[],rfl,rfl,by simp]
 .let#[x,ms,rfl,e2,inv]:=hi
  let#[d,hd,rfl]:=fD hu;rw[if_pos rfl]
  rwa[RI (x.get (rd i d hd)) λm S2 x2 g2=>hk _ _ #[x.trans x2,ms++[m],by rw[aD];rfl,by simp[e2],λj d hj=>?_]]
  by_cases hlt:j<ms.length
  .rw[ag hlt] at hj
   erw[x2.get (inv j d hj)]
  .have:=(ab.mp hj).1
   have ej:j=ms.length:=by simp at this;omega
   subst ej;have:m=d:=by simpa using hj
   rw[<-this,e2]
   erw[g2]
 .let#[x,ms,rfl,e2,inv]:=hI
  have e2:ms.length=ls.length+1:=by simpa using e2
  erw[q _ _ ms ((x1.trans x).trans (Ext.app _)) e2 #[by simp,λj d h=>(Ext.app _).get (inv j d h)]]
noncomputable def pk(b:List Nat)(g:Nat->Nat->Nat)(sg:List Nat)(N:Nat):List (Nat×List Nat):=(bO N).map λj=>(b.getD j 0,sg.map λc=>b.getD (g j c) 0)
theorem zO{b:List Nat}{j:Nat}{r:U->Prop}(h:j<b.length)(z:r (aM (b.getD j 0))):opt (qp (b.map aM) ((j:Nat):Int)) r:=by
 rw[ju,aw,aa h]
 rw[aE,aa h] at z;erw[z]
theorem RJ{Γ:cf}{S:bF}{nb nr ns m d:Nat}{b sg:List Nat}{f:Nat->Nat}{x4:U}{k:KU}{E:KX}(hb:S[nb]?=some (.lst (b.map aM)))(hs:S[ns]?=some (.lst (sg.map λc=>.str [c])))(hd:S[d]?=some (.dH (SG.map λc=>(.str [c],aM (f c)))))(sl:sg.length<=95)(hg:∀c∈sg,c∈SG/\f c<b.length)
  (q:∀m S',Ext S S'->S'[m]?=some (.lst ((sg.map λc=>b.getD (f c) 0).map aM))->k (.loc m) S'):WE Γ YL [some (.loc nb),some (.loc nr),some (.loc ns),some (.loc m),some x4,some (.loc d)] S k E:=by
 unfold YL;room;rw[hs,aC]
 rwa[lh (S:=S) _ ((sg.map λc=>b.getD (f c) 0).map aM) (by simp) (by simp;omega) (λS' x=>x.get hs) (λu S' k h=>h) (λj u v hu hv S2 k x' hk=>?_) λS2 x'=>?_]
 .let#[c,hc,rfl]:=fD hu
  rw[aw,aw,hc] at hv;have hv:aM (b.getD (f c) 0)=v:=by simpa using hv
  subst hv;let#[h1,h2]:=hg c (ah hc);rw[x'.get hd,hW,zN h1,bp]
  refine#[rfl,?_];show getL S2[nb]? _;rw[x'.get hb,aC]
  erw[zO h2 (hk S2 .refl)]
 .erw[q _ _ (x'.trans (Ext.app _)) (by simp)]
def Oj:Spec:=λus S Q _=>∃nb nr ns ls b sg g,us=[.loc nb,.loc nr,.loc ns]/\S[nb]?=some (.lst (b.map aM))/\Rw S nr ls g/\S[ns]?=some (.lst (sg.map λc=>.str [c]))/\ls.length<=9000/\b.length=ls.length/\sg.length<=95/\(∀c∈sg,c∈SG/\∀j,j<ls.length->g j c<ls.length) /\
 ∀m S',Ext S S'->S.length<=m->S'[m]?=some (.lst ((lY [] (pk b g sg ls.length)).map aM))->Q (.loc m) S'
theorem RK(Γ:cf)(h1:Γ "numbered"=J4):Keeps Γ rP 3 Oj:=by
 rintro us S Q E ⟨nb,nr,ns,ls,b,sg,g,rfl,hb,R,hs,hl,bl,sl,hg,q⟩;unfold rP;room;refine#[by simp,?_];room;have x0:Ext S (S++[SO.lst []]):=Ext.app _;rw[x0.get R.l,aC]
 rwa[dS (λi env S1=>∃(x4 x5:Option U),env=[some (.loc nb),some (.loc nr),some (.loc ns),some (.loc S.length),x4,x5]/\Ext S S1/\S1[S.length]?=some (.lst ((pk b g sg i).map JY))/\i<=ls.length) (λi env S1 h9=>by let#[_,_,_,x,_]:=h9;erw[x.get R.l]) _ ?_ ?_ #[none,none,rfl,x0,by simp[pk],∅]]
 .rintro i u env S1 K hu ⟨x4,x5,rfl,x1,g1,il⟩ hK
  dsimp[dM,aw,pB] at hu;let#[d,hd,rfl]:=aq.mp hu;have hi:=(ab.mp hd).1;dsimp[dh];room;rw[g1,x1.get hb]
  dsimp[aC];refine#[trivial,zO ∅ ?_];rwa[RJ (x1.get hb) (x1.get hs) (x1.get (R.d i d hd)) sl (λc hc=>#[(hg c hc).1,by rw[bl];exact(hg c hc).2 i hi]) λm S2 x2 g2=>?_]
  room;rw[g2,aC]
  refine#[by simp,?_];rw[x2.get g1,aC]
  refine#[by simp[pk];omega,?_];room;have x12:=x1.trans x2;rwa[hK _ _ #[_,_,rfl,(x12.st ∅),?_,hi]];rw[gs (x2.get g1)]
  unfold pk;rw[K6,aD,aD]
  rfl
 .rintro env S1 ⟨x4,x5,rfl,x1,g1,il⟩
  rw[ji,af] at g1;room;erw[ca h1 #[_,rfl,.inr #[_,_,rfl,g1,by simp[pk];omega,λm S2 x2 ml g2=>q m S2 (x1.trans x2) (aJ x1.1 ml) g2]]]
def Eqv(told:List (Option Nat))(g:Nat->Nat->Nat):Nat->Nat->Nat->Prop
 |0,i,j=>told[i]?=told[j]?
 |k+1,i,j=>Eqv told g k i j/\∀c∈SG,Eqv told g k (g i c) (g j c)
structure GZ(told:List (Option Nat))(g:Nat->Nat->Nat)(k:Nat)(b:List Nat):Prop where
 len:b.length=told.length
 fx:lY [] b=b
 iff:∀i j,i<told.length->j<told.length->(b.getD i 0=b.getD j 0↔Eqv told g k i j)
theorem gd{b:List Nat}{i:Nat}(h:i<b.length):b[i]?=some (b.getD i 0):=by
 rw[aE,aa h];rfl
theorem Kb{a b:List Nat}{i j:Nat}(hi:i<b.length)(hj:j<b.length):b.getD i 0=b.getD j 0↔b[i]?=b[j]?:=by
 rw[gd hi,gd hj];simp
theorem Wa{told:List (Option Nat)}{g:Nat->Nat->Nat}:GZ told g 0 (lY [] told):=by
 refine#[mD told [],EI told,λi j hi hj=>?_];rw[Kb (a:=[]) (by rw[mD];erw[hi]) (by rw[mD];erw[hj]),uO (aa hi) (aa hj)]
 unfold Eqv;rw[aa hi,aa hj]
 simp
theorem Ol(h:i<N):(pk b g sg N)[i]?=some (b.getD i 0,sg.map λc=>b.getD (g i c) 0):=by
 unfold pk;rw[aw,iQ h];rfl
theorem Wb{told:List (Option Nat)}{g:Nat->Nat->Nat}{k:Nat}{b sg:List Nat}(h:GZ told g k b)(hc:∀j c,j<told.length->c∈SG->g j c<told.length)(h1:∀c∈sg,c∈SG)(h2:∀c∈SG,∃c'∈sg,∀j,j<told.length->g j c'=g j c):GZ told g (k+1) (lY [] (pk b g sg told.length)):=by
 have l1:(lY [] (pk b g sg told.length)).length=told.length:=by rw[mD];simp[pk]
 refine#[l1,EI _,λi j hi hj=>?_];rw[Kb (a:=[]) ∅ ∅,uO (Ol hi) (Ol hj),Prod.mk.injEq,h.iff i j hi hj]
 show _↔Eqv told g k i j/\∀c∈SG,Eqv told g k (g i c) (g j c)
 rwa[and_congr_right λ_=>?_]
 rw[tM]
 constructor
 .intro z c hcm
  let#[c',m',e']:=h2 c hcm;rw[<-e' i hi,<-e' j hj]
  exact(h.iff _ _ (hc i c' hi (h1 c' m')) (hc j c' hj (h1 c' m'))).mp (z c' m')
 .intro z c hcm
  exact(h.iff _ _ (hc i c hi (h1 c hcm)) (hc j c hj (h1 c hcm))).mpr (z c (h1 c hcm))
theorem EK{told:List (Option Nat)}{g:Nat->Nat->Nat}{k m:Nat}{b:List Nat}(h:GZ told g k b)(h1:m∈b)(h2:∀j∈b,j<=m):m+1=(sn [] b).length:=by
 have:=h.fx;rw[<-this] at h1 h2;erw[Nr h1 h2]
theorem RL{told:List (Option Nat)}{g:Nat->Nat->Nat}{k:Nat}{a b:List Nat}(ha:GZ told g (k+1) a)(hb:GZ told g k b):(sn [] b).length<=(sn [] a).length/\((sn [] b).length=(sn [] a).length->a=b):=by
 have h:∀(i j:Nat)(x y u v:Nat),a[i]?=some x->a[j]?=some y->b[i]?=some u->b[j]?=some v->x=y->u=v:=by
  intro i j x y u v e1 e2 e3 e4 e;have l1:=(ab.mp e1).1;have l2:=(ab.mp e2).1;have la:=ha.len;have lb:=hb.len;have z:=(ha.iff i j ∅ ∅).mp (by rw[aE,aE,e1,e2,e]);have:=(hb.iff i j ∅ ∅).mpr z.1;rw[aE,aE,e3,e4] at this;erw[this]
 have l:a.length=b.length:=by rw[ha.len,hb.len]
 refine#[Dx l h,λe=>?_];have:=EH l h e;rw[ha.fx,hb.fx] at this;erw[this]
theorem EL{S:bF}{n:Nat}{b:List Nat}{Q:KU}(h:S[n]?=some (.lst (b.map aM)))(b0:0<b.length)(q:∀m∈b,(∀j∈b,j<=m)->Q (aM m) S):sV .max [.loc n] S Q:=by
 cases b with
 |nil=>simp at b0
 |cons x b=>
  refine#[(x:Int),b.map λ(n:Nat)=>(n:Int),by rw[h];simp,λm hm hj=>?_];have e:((x:Int)::b.map λ(n:Nat)=>(n:Int))=(x::b).map λ(n:Nat)=>(n:Int):=rfl
  rw[e] at hm hj;let#[y,hy,rfl]:=bq.mp hm;rwa[q y hy λj m=>?_]
  have:=hj _ (bq.mpr #[j,m,rfl]);omega
theorem zP{α:Type}{l:List α}{x:α}:qp (l++[x]) (-1)=some x:=by
 unfold qp LY;rw[if_neg ∅,if_pos (by simp;omega)]
 have:((-1:Int)+((l++[x]).length:Nat)).toNat=l.length:=by rw[ar];simp;omega
 rw[this];simp
structure ZE(told:List (Option Nat))(g:Nat->Nat->Nat)(S:bF)(fs:List Nat):Prop where
 r:∀(k n:Nat),fs[k]?=some n->∃b,S[n]?=some (.lst (b.map aM))/\GZ told g k b
 ne:fs≠[]
 st:∀i j,i<told.length->j<told.length->Eqv told g (fs.length-1) i j->Eqv told g fs.length i j
 le:fs.length<=told.length+1
def Wc:Spec:=λus S Q _=>∃nr ls g told,us=[.tup (told.map uN),.loc nr]/\Rw S nr ls g/\told.length=ls.length/\0<ls.length/\ls.length<=9000/\(∀j c,j<told.length->c∈SG->g j c<told.length)/\∀F fs S',Ext S S'->S'[F]?=some (.lst (fs.map .loc))->ZE told g S' fs->Q (.loc F) S'
structure Wd(told:List (Option Nat))(g:Nat->Nat->Nat)(L:Nat)(S3:bF)(fs:List Nat)(m:Nat)(b:List Nat):Prop where
 f:S3[L]?=some (.lst ((fs++[m]).map .loc))
 v:S3[m]?=some (.lst (b.map aM))
 r:GZ told g fs.length b
 a:∀(k n:Nat),(fs++[m])[k]?=some n->n≠L/\∃b,S3[n]?=some (.lst (b.map aM))/\GZ told g k b
 l:fs.length<=(sn [] b).length/\(sn [] b).length<=told.length
theorem Wd.push{told:List (Option Nat)}{g:Nat->Nat->Nat}{L m m':Nat}{S3 S4:bF}{fs b a':List Nat}(a:Wd told g L S3 fs m b)(x:Ext S3 S4)(ml:S3.length<=m')(g4:S4[m']?=some (.lst (a'.map aM)))(ra:GZ told g (fs.length+1) a')(lt:(sn [] b).length<(sn [] a').length):Wd told g L (S4.set L (.lst ((fs++[m]).map .loc++[.loc m']))) (fs++[m]) m' a':=by
 have ne:m'≠L:=cZ (av (aW a.f) ml);have gs':∀n o,n≠L->S4[n]?=some o->(S4.set L (.lst ((fs++[m]).map .loc++[.loc m'])))[n]?=some o:=λn o ne e=>by rw[ai (cC ne)];erw[e]
 have le:(fs++[m]).length=fs.length+1:=by simp
 have sl:=v9 a' [];refine#[by rw[gs (x.get a.f)];simp,gs' _ _ ne g4,by rw[le];erw[ra],λk n e=>?_,by rw[le];erw[jo a.l.1 lt],?_]
 .by_cases hk:k<(fs++[m]).length
  .rw[ag hk] at e
   let#[ne,b',e1,e2]:=a.a k n e;exact#[ne,b',gs' _ _ ne (x.get e1),e2]
  .have:=aW e
   rw[ar] at this;have ek:k=(fs++[m]).length:=Nat.le_antisymm (Nat.le_of_lt_succ this) (fP hk);subst ek;have:m'=n:=by simpa using e
   subst this;exact#[ne,a',gs' _ _ ne g4,by rw[le];erw[ra]]
 .rw[ra.len] at sl;simpa using sl
theorem We(Γ:cf)(h1:Γ "telling_signs"=Oi)(h2:Γ "numbered"=J4)(h3:Γ "parted"=Oj):Keeps Γ rO 3 Wc:=by
 rintro us S Q E ⟨nr,ls,g,told,rfl,R,tl,l0,hl,hg,q⟩;unfold rO;room;rwa[ca h1 #[nr,ls,g,rfl,R,hl,λns S1 sg x1 nsl g1 sl s1 s2=>?_]];rw[<-tl] at s2 hl l0;room;rwa[ca h2 #[_,rfl,.inl #[told,rfl,hl,λn0 S2 x2 nl2 g2=>#[by simp,?_]]]];have x12:=x1.trans x2;have gs2:=x2.get g1;room;have r0:GZ told g 0 (lY [] told):=Wa;have sn0:=v9 (lY [] told) [];rw[mD] at sn0;have I0:Wd told g S2.length (S2++[SO.lst [U.loc n0]]) [] n0 (lY [] told):=#[by simp,(Ext.app _).get g2,r0,λk n e=>?_,bX _,by simpa using sn0]
 .refine#[told.length+1,oa (λN env S3=>∃(fs:List Nat)(m:Nat)(b:List Nat)(x4:Option U),N=told.length-(sn [] b).length/\env=[some (.tup (told.map uN)),some (.loc nr),some (.loc ns),some (.loc S2.length),x4]/\Ext S2 S3/\Wd told g S2.length S3 fs m b) ?_ _ (told.length-(sn [] (lY [] told)).length) _ _ (Nat.lt_succ_of_le (Nat.sub_le _ _)) #[[],n0,_,none,rfl,rfl,Ext.app _,I0]]
  rintro N env S3 K ⟨fs,m,b,x4,rfl,rfl,x3,I⟩ hK;let#[g3,gm,rb,inv,fl,snl]:=id I;room;rw[g3,aC,aD]
  rw[show [m].map U.loc=[.loc m] from rfl,zP,bp]
  refine ca h3 #[m,nr,ns,ls,b,sg,g,rfl,gm,R.ext (x12.trans x3),x3.get gs2,tl▸hl,by rw[rb.len,tl],sl,λc hc=>#[s1 c hc,λj hj=>by rw[<-tl] at hj ⊢;erw[hg j c hj (s1 c hc)]],λm' S4 x4 ml' g4=>?_];rw[<-tl] at g4;have ra:=Wb rb hg s1 s2;generalize lY [] (pk b g sg told.length)=a at g4 ra;let#[le,eqn]:=RL ra rb;room;rwa[EL g4 (ra.len▸l0) λma h1a h2a=>?_]
  have ea:=EK ra h1a h2a;rw[x4.get g3,aC,aD,show [m].map U.loc=[.loc m] from rfl,zP,bp]
  rwa[EL (x4.get gm) (rb.len▸l0) λmb h1b h2b=>?_]
  have eb:=EK rb h1b h2b;room;by_cases z:ma=mb
  .have:((ma:Int)== (mb:Int))=true:=by rw[beq_iff_eq,z]
   dsimp[this,if_true];have e:=eqn (by rw[<-ea,<-eb,z]);subst e;room;rwa[q _ (fs++[m]) S4 ((x12.trans x3).trans x4) (x4.get g3) #[λk n e=>?_,by simp,λi j hi hj h=>?_,by rw[ar];erw[kF (aJ fl snl)]]]
   .let#[_,b,e1,e2]:=inv k n e
    exact#[b,x4.get e1,e2]
   .rw[ar] at h ⊢
    exact(ra.iff i j hi hj).mp ((rb.iff i j hi hj).mpr h)
  .have:((ma:Int)== (mb:Int))=false:=by rw[beq_eq_false_iff_ne];erw[λy=>z (pC y)]
   dsimp[this,ao,if_false];room;rw[x4.get g3,aC]
   have lt:(sn [] b).length<(sn [] a).length:=Hh le λy=>z (by rw[<-ea,<-eb] at y;exact(ni y).symm)
   have I4:=I.push x4 ml' g4 ra lt;refine#[trivial,by rw[af,ar];exact jo (kF (aJ fl (aJ snl hl))) ⋯,?_];try room
   have x34:=x3.trans x4;erw[hK (told.length-(sn [] a).length) _ _ (Nat.sub_lt_sub_left (av lt I4.l.2) lt) #[fs++[m],m',a,_,rfl,rfl,#[by rw[cD];exact x34.1,λn hn=>by rw[ai (cZ hn)];exact x34.2 n hn],I4]]
 .have:=aW e
  have ek:k=0:=by simp at this;erw[this]
  subst ek;have:n0=n:=by simpa using e
  subst this;exact#[aY (aW g2),_,(Ext.app _).get g2,r0]
def RM(k:Nat)(told:List (Option Nat))(R:Nat):SO:=.ins "Table" [("takes",.loc k),("told",.tup (told.map uN)),("rows",.loc R)]
structure G6(S:bF)(T:Nat)(told:List (Option Nat))(ls:List Nat)(go:Nat->Nat->Option Nat):Prop where
 o:∃k R,S[T]?=some (RM k told R)/\S[k]?=some (.lst (told.map uN))/\Rp S R ls go
 ll:ls.length=told.length
 sz:told.length<=4000
 cl:∀j c k,c∈SG->go j c=some k->k<told.length
theorem G6.ext(h:G6 S T told ls go)(x:Ext S S'):G6 S' T told ls go:=by
 let#[k,R,h1,h2,h3]:=h.o;exact#[#[k,R,x.get h1,x.get h2,h3.ext x],h.ll,h.sz,h.cl]
def Nt:Spec:=λus S Q _=>∃T a R told,us=[.loc T,.loc a,.loc R]/\S[T]?=some (.ins "Table" [])/\S[a]?=some (.lst (told.map uN))/\∀k S',Old T S S'->S'[T]?=some (RM k told R)->S'[k]?=some (.lst (told.map uN))->Q .bQ S'
theorem Wf(Γ:cf):Keeps Γ k8 0 Nt:=by
 rintro us S Q E ⟨T,a,R,told,rfl,hT,ha,q⟩;unfold k8;have ne:a≠T:=λz=>by rw[z,hT] at ha;cases ha
 room;rw[ha,aC]
 have x1:Ext S (S++[SO.lst (told.map uN)]):=Ext.app _;have g1:(S++[SO.lst (told.map uN)])[S.length]?=some (.lst (told.map uN)):=by simp
 have n1:S.length≠T:=cZ (aW hT);generalize S.length=k at g1 n1;generalize S++[SO.lst (told.map uN)]=S1 at x1 g1;rwa[tw (x1.get hT) (by simp) λS2 o2 l2 g2=>?_]
 room;rw[lX o2 (x1.get ha) ne,aC]
 rwa[tw g2 (by simp[fS]) λS3 o3 l3 g3=>?_]
 room;rwa[tw g3 (by simp[fS]) λS4 o4 l4 g4=>?_]
 room;erw[q k S4 (((Ext.old x1).trans o2).trans (o3.trans o4)) g4 (lX o4 (lX o3 (lX o2 g1 n1) n1) n1)]
def RO:Spec:=λus S Q _=>∃T told ls go j c,us=[.loc T,aM j,.str [c]]/\G6 S T told ls go/\j<told.length/\c∈SG/\Q (uN (go j c)) S
theorem RP(h:S[T]?=some (RM k told R)):lF (.loc T) "rows" S r=r (.loc R):=by rw[fO,h];rfl
theorem Kc(h:S[T]?=some (RM k told R)):lF (.loc T) "told" S r=r (.tup (told.map uN)):=by rw[fO,h];rfl
theorem at_of{α:Type}{f:α->U}{l:List α}{j:Nat}{a:α}{r:U->Prop}(h:l[j]?=some a)(z:r (f a)):opt (qp (l.map f) ((j:Nat):Int)) r:=by
 rw[ju,aw,h];erw[z]
theorem Wg(Γ:cf):Keeps Γ k9 0 RO:=by
 rintro us S Q E ⟨T,told,ls,go,j,c,rfl,h,hj,hc,q⟩;unfold k9;let#[k,R,h1,h2,h3]:=h.o;have hl:=h.ll;room;rw[RP h1]
 room;rw[h3.l,aC]
 have hd:=aa (show j<ls.length by omega);have dd:=h3.d j _ hd;rwa[at_of hd ?_];refine#[by show i9 S[_]? _;rw[dd];trivial,?_];show i9 S[_]? _;rw[dd]
 refine#[rfl,?_];rw[EJ,wd,if_pos hc]
 cases e:go j c<;>rw[e] at q<;>exact q
noncomputable def GL(go:Nat->Nat->Option Nat)(x:List Nat):Option Nat:=x.foldl (λs c=>s.bind λj=>go j c) (some 0)
theorem Kd:GL go (x++[c])=(GL go x).bind λj=>go j c:=by unfold GL;rw[fE];rfl
def fst(told:List (Option Nat))(go:Nat->Nat->Option Nat)(x:List Nat):Option Nat:=(GL go x).bind λj=>told.getD j none
theorem uS{S S':bF}{o:SO}(h:Old S.length (S++[o]) S'):Ext S S':=by
 have l:=h.1;rw[ar] at l;exact#[aJ (oA _ _) l,λn hn=>by rw[h.2 n (by rw[ar];erw[av hn (oA _ _)]) (aY hn),ag hn]]
section
variable{tk:Nat->Nat}{Ls G:List Nat}{r h c:Nat}
noncomputable def gz(tk:Nat->Nat)(Ls:List Nat)(r c:Nat):Option Nat:=if r&&&tk c=0 then none else some (Ls.idxOf (r&&&tk c))
theorem RQ(z:r&&&tk c=0\/r&&&tk c∈Ls):gz tk (Ls++[h]) r c=gz tk Ls r c:=by
 unfold gz;rcases z with z|z
 .rw[if_pos z,if_pos z]
 .rw[pY z]
theorem BF(z:∀c∈G,r&&&tk c=0\/r&&&tk c∈Ls):dW G (gz tk (Ls++[h]) r)=dW G (gz tk Ls r):=by
 unfold dW;induction G with
 |nil=>rfl
 |cons x G ih=>rw[cu,cu,RQ (z x (aT ..)),ih λc m=>z c (aA _ m)]
theorem Nu(e:f c=none):dW (G++[c]) f=dW G f:=by
 unfold dW;rw[Cg];simp[e]
theorem Nv(e:f c=some k):sD (dW (G++[c]) f)=sD (dW G f)++[(.str [c],aM k)]:=by
 unfold dW sD;rw[Cg,aD];simp[e]
def nz(Ls:List Nat):List (U×U):=(dz Ls 0).map λp=>(aM p.1,p.2)
theorem RS:(nz Ls).length=Ls.length:=by unfold nz;rw[af,zL]
theorem RT:nz (Ls++[h])=nz Ls++[(aM h,aM Ls.length)]:=by unfold nz;rw[JV,aD,oU];rfl
theorem zQ:tU (aM h) (nz Ls)=if h∈Ls then some (aM (Ls.idxOf h)) else none:=by
 have e:nz Ls=((dz Ls 0).map λp=>(some p.1,p.2)).map λp=>(uN p.1,p.2):=by unfold nz;rw[bu];rfl
 have:=JW (some h) ((dz Ls 0).map λp=>(some p.1,p.2));rw[e,show aM h=uN (some h) from rfl,this,JT some (λ_ _=>aL),zM,oU]
end
structure BG(S S1:bF)(tk:Nat->Nat)(Ls rs ds:List Nat):Prop where
 x:Ext S S1
 l:S1[S.length]?=some (.lst (Ls.map aM))
 n:S1[S.length+1]?=some (.dH (nz Ls))
 r:S1[S.length+2]?=some (.lst (ds.map .loc))
 d:∀(j d r:Nat),ds[j]?=some d->rs[j]?=some r->S.length+3<=d/\S1[d]?=some (.dH (sD (dW SG (gz tk Ls r))))
 m:∀r∈rs,∀c∈SG,r&&&tk c=0\/r&&&tk c∈Ls
 nd:Ls.Nodup
theorem BG.set(h:BG S S1 tk Ls rs ds)(hd:S.length+3<=d0)(hn:∀(j r:Nat),rs[j]?=some r->ds[j]?≠some d0):BG S (S1.set d0 o) tk Ls rs ds:=by
 have e:∀(n:Nat)(o':SO),n≠d0->S1[n]?=some o'->(S1.set d0 o)[n]?=some o':=λn o' ne g=>by rw[ai (cC ne)];erw[g]
 exact#[#[by rw[cD];erw[h.x.1],λn hn=>by rw[ai ∅];erw[h.x.2 n hn]],e _ _ ∅ h.l,e _ _ ∅ h.n,e _ _ ∅ h.r,λj d r h1 h2=>#[(h.d j d r h1 h2).1,e _ _ (λz=>hn j r h2 (z▸h1)) (h.d j d r h1 h2).2],h.m,h.nd]
theorem BG.ext(h:BG S S1 tk Ls rs ds)(x:Ext S1 S2):BG S S2 tk Ls rs ds:=
 #[h.x.trans x,x.get h.l,x.get h.n,x.get h.r,λj d r h1 h2=>#[(h.d j d r h1 h2).1,x.get (h.d j d r h1 h2).2],h.m,h.nd]
theorem BG.more(a:BG S S1 tk Ls rs ds)(hn:h∉Ls):BG S ((S1.set (S.length+1) (.dH (nz Ls++[(aM h,aM Ls.length)]))).set S.length (.lst (Ls.map aM++[aM h]))) tk (Ls++[h]) rs ds:=by
 have e:∀(n:Nat)(o o1 o2:SO),n≠S.length->n≠S.length+1->S1[n]?=some o->((S1.set (S.length+1) o1).set S.length o2)[n]?=some o:=λn o o1 o2 n1 n2 g=>by rw[ai (cC n1),ai (cC n2)];erw[g]
 have l1:=aW a.n;refine#[#[by rw[cD,cD];erw[a.x.1],λn hn=>by rw[ai ∅,ai ∅];erw[a.x.2 n hn]],?_,?_,e _ _ _ _ ∅ ∅ a.r,λj d r h1 h2=>?_,λr m c hc=>?_,?_]
 .rw[bG (by rw[cD];omega)];simp
 .rw[ai ∅,bG l1,RT]
 .let#[z1,z2]:=a.d j d r h1 h2
  exact#[z1,by rw[BF (a.m r (ah h2))];erw[e _ _ _ _ ∅ ∅ z2]]
 .rcases a.m r m c hc with z|z
  .erw[.inl z]
  .erw[.inr (by simp[z])]
 .rw[dO]
  exact#[a.nd,by simp,λx hx y hy=>by rw[aZ.mp hy];erw[λz=>hn (z▸hx)]]
theorem Ke:SG.Nodup:=⋯
theorem Wh(Γ:cf)(pa:Bx S P bh en tk)(I:BG S S1 tk Ls rs ds)(g0:S1[d0]?=some (.dH (sD (dW (SG.take m) (gz tk Ls r)))))(hd0:S.length+3<=d0)(hds:∀(j r:Nat),rs[j]?=some r->ds[j]?≠some d0)(hc:SG[m]?=some c)(hm:∀c∈SG.take m,r&&&tk c=0\/r&&&tk c∈Ls)(lt:Ls.length<=4000)
  (q:∀Ls' S2,BG S S2 tk Ls' rs ds->S2[d0]?=some (.dH (sD (dW (SG.take (m+1)) (gz tk Ls' r))))->(∀c∈SG.take (m+1),r&&&tk c=0\/r&&&tk c∈Ls')->(Ls'=Ls\/(r&&&tk c≠0/\Ls'=Ls++[r&&&tk c]))->K [some (.loc P),some (.loc S.length),some (.loc (S.length+1)),some (.loc (S.length+2)),some (aM r),some (.loc d0),some (.str [c]),some (aM (r&&&tk c))] S2):
  Rest Γ YF #[K,Q,E] [some (.loc P),some (.loc S.length),some (.loc (S.length+1)),some (.loc (S.length+2)),some (aM r),some (.loc d0),some (.str [c]),x7] S1:=by
 let#[b,e,k,oP,_,_,gk]:=(pa.ext I.x).o;have fk:∀{R},lF (.loc P) "takers" S1 R=R (.loc k):=by intro R;rw[fO,oP];rfl
 have cm:=ah hc;have et:=F8 hc;have nm:c∉SG.take m:=λz=>by
  let#[i,hi]:=cB z;have il:=(ab.mp hi).1;rw[dC] at il;rw[zW ∅] at hi;have:=(List.getElem?_inj ∅ Ke).mp (hi.trans hc.symm);omega
 rw[et] at q;have rl:(sD (dW (SG.take m) (gz tk Ls r))).length<1000000:=by
  have:(dW (SG.take m) (gz tk Ls r)).length<=(SG.take m).length:=List.length_filterMap_le ..;rw[dC] at this;have gl:SG.length=95:=rfl;unfold sD;rw[af];omega
 have dn:∀f:Nat->Option Nat,tU (.str [c]) (sD (dW (SG.take m) f))=none:=λf=>by rw[EJ,wd,if_neg nm]
 unfold YF;room;rw[fk]
 room;rw[gk,hW,zN cm,bp]
 refine#[rfl,?_];rw[uE]
 generalize hh:r&&&tk c=h at *;have go2:∀(Ls':List Nat)(S2:bF),BG S S2 tk Ls' rs ds->S2[d0]?=some (.dH (sD (dW (SG.take m) (gz tk Ls' r))))->sD (dW (SG.take m) (gz tk Ls' r))=sD (dW (SG.take m) (gz tk Ls r))->(∀c∈SG.take m,r&&&tk c=0\/r&&&tk c∈Ls')->(Ls'=Ls\/Ls'=Ls++[h])->h≠0->h∈Ls'->Rest Γ Xd #[K,Q,E] [some (.loc P),some (.loc S.length),some (.loc (S.length+1)),some (.loc (S.length+2)),some (aM r),some (.loc d0),some (.str [c]),some (aM h)] S2:=by
  intro Ls' S2 I2 g2 e2 m2 l2 h0 hl;have:((h:Int)== 0)=false:=by rw[beq_eq_false_iff_ne];omega
  unfold Xd;room;dsimp[this,bL,if_true];room;rw[I2.n,hW,zQ,if_pos hl,bp]
  refine#[rfl,?_];rw[g2,getD_some]
  refine#[#[rfl,dn _,by rw[e2];erw[rl]],?_];room;rwa[q Ls' _ (I2.set hd0 hds) ?_ (λc' hc'=>?_) (l2.imp id λe=>#[h0,e])]
  .rw[gs g2,Nv (k:=Ls'.idxOf h) (by unfold gz;rw[hh,if_neg h0])]
  .rcases aG.mp hc' with z|z
   .erw[m2 c' z]
   .have:c'=c:=by simpa using z
    subst this;erw[.inr (by rw[hh];exact hl)]
 room;by_cases z:h=0
 .subst z
  have z0:(((0:Nat):Int)== 0)=true:=rfl;dsimp[z0,bC,ao,if_false];unfold Xd;room;rwa[q Ls _ I (by rw[Nu (by unfold gz;rw[hh,if_pos rfl])];erw[g0]) (λc' hc'=>?_) (.inl rfl)];rcases aG.mp hc' with z|z
  .erw[hm c' z]
  .have:c'=c:=by simpa using z
   subst this;erw[.inl hh]
 .have z':((h:Int)== 0)=false:=by rw[beq_eq_false_iff_ne];omega
  dsimp[z',bL,if_true];rw[I.n,hW,zQ]
  refine#[rfl,?_];by_cases y:h∈Ls
  .rw[if_pos y]
   dsimp[Option.isNone_some,ao,if_false];erw[Rest.go (go2 Ls S1 I g0 rfl hm (.inl rfl) z y)]
  .rw[if_neg y]
   dsimp[Option.isNone_none,if_true];room;rw[mZ I.l,bp,af]
   refine#[∅,?_];rw[I.n,getD_some]
   refine#[#[rfl,by rw[zQ,if_neg y],by rw[RS];omega],?_];have l1:(S1.set (S.length+1) (.dH (nz Ls++[(aM h,aM Ls.length)])))[S.length]?=some (.lst (Ls.map aM)):=by rw[ai ∅];erw[I.l]
   room;rw[l1,aC]
   refine#[trivial,by simp;omega,?_];have eq:=BF (h:=h) hm;rwa[Rest.go (go2 (Ls++[h]) _ (I.more y) ?_ (by rw[eq]) (λc' m'=>(hm c' m').imp id λz=>by simp[z]) (.inr rfl) z (by simp))];rw[eq,ai ∅,ai ∅]
   erw[g0]
theorem BG.push{S S1:bF}{tk:Nat->Nat}{Ls rs ds:List Nat}{d0 r:Nat}(a:BG S S1 tk Ls rs ds)(g0:S1[d0]?=some (.dH (sD (dW SG (gz tk Ls r)))))(hd:S.length+3<=d0)(hm:∀c∈SG,r&&&tk c=0\/r&&&tk c∈Ls)(hl:ds.length=rs.length):BG S (S1.set (S.length+2) (.lst (ds.map .loc++[.loc d0]))) tk Ls (rs++[r]) (ds++[d0]):=by
 have e:∀(n:Nat)(o o':SO),n≠S.length+2->S1[n]?=some o'->(S1.set (S.length+2) o)[n]?=some o':=λn o o' ne g=>by rw[ai (cC ne)];erw[g]
 refine#[#[by rw[cD];erw[a.x.1],λn hn=>by rw[ai ∅];erw[a.x.2 n hn]],e _ _ _ ∅ a.l,e _ _ _ ∅ a.n,by rw[gs a.r];simp,λj d r' h1 h2=>?_,λr' m=>?_,a.nd]
 .by_cases hj:j<ds.length
  .rw[ag hj] at h1
   rw[ag ∅] at h2;let#[z1,z2]:=a.d j d r' h1 h2;exact#[z1,e _ _ _ ∅ z2]
  .have:=(ab.mp h1).1
   have ej:j=ds.length:=by simp at this;omega
   subst ej;have e1:d0=d:=by simpa using h1
   have e2:r=r':=by rw[hl] at h2;simpa using h2
   subst e1;subst e2;exact#[hd,e _ _ _ ∅ g0]
 .rcases aG.mp m with m|m
  .erw[a.m r' m]
  .have:r'=r:=by simpa using m
   subst this;erw[hm]
def Af(tk:Nat->Nat)(Ls rs:List Nat)(j c:Nat):Option Nat:=(rs[j]?).bind λr=>gz tk Ls r c
theorem we(h:rs[j]?=some r):Af tk Ls rs j=gz tk Ls r:=by
 funext c;unfold Af;rw[h];rfl
structure SQ(bh en:List Nat)(tk:Nat->Nat)(lots rs:List Nat)(told:List (Option Nat)):Prop where
 z:lots[0]?=some 1
 t:∀(j h:Nat),lots[j]?=some h->∃o,told[j]?=some o/\Vy h en o
 len:told.length=lots.length
 b:∀(j h:Nat),lots[j]?=some h->∃r,rs[j]?=some r/\Nf bh h r
 m:∀r∈rs,∀c∈SG,r&&&tk c=0\/r&&&tk c∈lots
structure DC(bh:List Nat)(D:Nat->Prop):Prop where
 l:bh.length<=11
 c:∀(q B p:Nat),D q->bh[q]?=some B->B.testBit p=true->D p
 b:∀p,D p->p<bh.length
structure ZF(tk:Nat->Nat)(D:Nat->Prop)(lots rs:List Nat):Prop where
 p:∀j,0<j->j<lots.length->∃i r c,i<j/\rs[i]?=some r/\c∈SG/\lots[j]?=some (r&&&tk c)/\r&&&tk c≠0/\Af tk lots rs i c=some j
 d:∀h∈lots,∀p,h.testBit p=true->D p
def RV:Spec:=λus S Q _=>∃P bh en tk,∃D:Nat->Prop,us=[.loc P]/\Bx S P bh en tk/\DC bh D/\D 0 /\
 ∀T told ls lots rs S',G6 S' T told ls (Af tk lots rs)->(∀d∈ls,S.length<=d)->Ext S S'->SQ bh en tk lots rs told->ZF tk D lots rs->Q (.loc T) S'
theorem uT{α:Type}{l:List α}{x y:α}{k:Nat}(h:(l++[x])[k]?=some y):l[k]?=some y\/(k=l.length/\x=y):=by
 by_cases z:k<l.length
 .rw[ag z] at h;erw[.inl h]
 .have:=aW h
  have e:k=l.length:=by simp at this;omega
  subst e;exact .inr #[rfl,by simpa using h]
structure Wi(S S1:bF)(tk:Nat->Nat)(bh:List Nat)(D:Nat->Prop)(Ls rs ds:List Nat):Prop where
 s:BG S S1 tk Ls rs ds
 dl:ds.length=rs.length
 le:ds.length<=Ls.length
 z:Ls[0]?=some 1
 d:∀h∈Ls,∀p,h.testBit p=true->D p
 b:∀(j r:Nat),rs[j]?=some r->∃h,Ls[j]?=some h/\Nf bh h r
 p:∀(j h:Nat),0<j->Ls[j]?=some h->∃i r c,i<j/\rs[i]?=some r/\c∈SG/\h=r&&&tk c/\h≠0
theorem so{bh L:List Nat}{D:Nat->Prop}(C:DC bh D)(nd:L.Nodup)(hL:∀h∈L,∀p,h.testBit p=true->D p):L.length<=2048:=by
 have:=zH (l':=bO 2048) nd λx hx=>iz.mpr (av (jU λp hp=>C.b p (hL x hx p hp)) (show 2^bh.length<=2048 from bj (n:=2) (j:=11) ⋯ C.l))
 simpa using this
theorem RW(Γ:cf)(h1:Γ "Places.beyond"=Ds){S S1:bF}{P:Nat}{bh en Ls rs ds:List Nat}{tk:Nat->Nat}{D:Nat->Prop}{x4 x5 x6 x7:Option U}{K:Env->bF->Prop}{Q:KU}{E:Env->KX}(pa:Bx S P bh en tk)(C:DC bh D)(J:Wi S S1 tk bh D Ls rs ds)(dl:ds.length<Ls.length)
  (q:∀Ls rs ds' S2 x4 x5 x6 x7,Wi S S2 tk bh D Ls rs ds'->ds'.length=ds.length+1->K [some (.loc P),some (.loc S.length),some (.loc (S.length+1)),some (.loc (S.length+2)),x4,x5,x6,x7] S2):
  Rest Γ YG #[K,Q,E] [some (.loc P),some (.loc S.length),some (.loc (S.length+1)),some (.loc (S.length+2)),x4,x5,x6,x7] S1:=by
 let#[I,hl,hle,hz,hD,hb,hp]:=J;have hh:=aa dl;generalize Ls[ds.length]=h at hh;have lb:=so C I.nd hD;let#[b,e,k,oP,_]:=(pa.ext I.x).o;unfold YG;room;rw[oP,bx,I.l,mZ I.r]
 dsimp[bp,aC,af];refine#[#[trivial,rfl],∅,at_of hh ?_];refine ca h1 #[P,bh,en,tk,h,rfl,pa.ext I.x,aJ C.l ⋯,λp hp=>C.b p (hD h (ah hh) p hp),λr S2 hr x2=>?_];have Dr:∀p,r.testBit p=true->D p:=λp hp=>by
  let#[q,B,z1,z2,z3]:=(hr p).mp hp;erw[C.c q B p (hD h (ah hh) q z1) z2 z3]
 room;rw[vE]
 refine#[⋯,.inl ?_];have I3:=I.ext (x2.trans (Ext.app [SO.dH []]));have g3:(S2++[SO.dH []])[S2.length]?=some (.dH (sD (dW (SG.take 0) (gz tk Ls r)))):=by simp;rfl
 have d3:S.length+3<=S2.length:=by have:=aW I.r;have:=x2.1;omega
 have n3:∀(j r:Nat),rs[j]?=some r->ds[j]?≠some S2.length:=λj r hj z=>by
  have:=aW (I.d j _ r z hj).2;have:=x2.1;omega
 generalize S2.length=d0 at g3 d3 n3;generalize S2++[SO.dH []]=S3 at I3 g3;have sgl:SG.length=95:=rfl;have sit:∀(i:Nat)(u:U),(SG.map λc=>U.str [c])[i]?=some u->∃c,SG[i]?=some c/\u=.str [c]:=λi u hu=>by
  let#[c,hc,rfl]:=fD hu;exact#[c,hc,rfl]
 have sl:(SG.map λc=>U.str [c]).length=95:=rfl;rwa[Rest.go ?_];rw[o9,N2,N1,w_lit,v_s]
 generalize hM:(SG.map λc=>U.str [c])=M at sit sl;rwa[dS (λm env S4=>∃(Ls':List Nat)(x6 x7:Option U),env=[some (.loc P),some (.loc S.length),some (.loc (S.length+1)),some (.loc (S.length+2)),some (aM r),some (.loc d0),x6,x7]/\BG S S4 tk Ls' rs ds/\S4[d0]?=some (.dH (sD (dW (SG.take m) (gz tk Ls' r))))/\(∀c∈SG.take m,r&&&tk c=0\/r&&&tk c∈Ls')/\(∃s,Ls'=Ls++s/\∀h∈s,∃c∈SG,h=r&&&tk c/\h≠0)/\∀h∈Ls',∀p,h.testBit p=true->D p) (λ_ _ _ _=>trivial) M ?_ ?_ #[Ls,x6,x7,rfl,I3,g3,by simp,#[[],by simp,λh m=>by cases m],hD]]
 .rintro m u env S4 K' hu ⟨Ls',x6,x7,rfl,I4,g4,m4,⟨s,es,ps⟩,D4⟩ hK
  let#[c,hc,rfl]:=sit m u hu;rwa[Wh Γ pa I4 g4 d3 n3 hc m4 (aJ (so C I4.nd D4) ⋯) λLs2 S5 I5 g5 m5 l5=>hK _ _ #[Ls2,_,_,rfl,I5,g5,m5,?_,?_]]
  .rcases l5 with rfl|⟨nz,rfl⟩
   .exact#[s,es,ps]
   .refine#[s++[_],by rw[es,bJ],λh' m'=>?_]
    rcases aG.mp m' with m'|m'
    .erw[ps h' m']
    .have:h'=r&&&tk c:=by simpa using m'
     subst this;exact#[c,ah hc,rfl,nz]
  .rcases l5 with rfl|⟨nz,rfl⟩
   .erw[D4]
   .intro h' m' p hp
    rcases aG.mp m' with m'|m'
    .erw[D4 h' m' p hp]
    .have:h'=r&&&tk c:=by simpa using m'
     subst this;rw[bB,aj] at hp;erw[Dr p hp.1]
 .rintro env S4 ⟨Ls',x6,x7,rfl,I4,g4,m4,hs,D4⟩
  have et:SG.take M.length=SG:=by rw[sl];rfl
  rw[et] at g4 m4;room;rw[I4.r,aC]
  dsimp[true_and];refine#[by simp;omega,?_];try room
  let#[s,es,ps]:=hs;rwa[q Ls' _ _ _ _ _ _ _ #[I4.push g4 d3 m4 hl,by simp[hl],by rw[es,ar,ar];erw[aJ dl (oA _ _)],by rw[es,ag (jo (bX _) dl)];erw[hz],D4,λj r' hj=>?_,λj h' j0 hj=>?_] (by simp)]
  .rcases uT hj with hj|⟨rfl,rfl⟩
   .let#[h,e1,e2]:=hb j r' hj
    exact#[h,by rw[es,ag (aW e1)];erw[e1],e2]
   .exact#[h,by rw[es,<-hl,ag dl];erw[hh],hr]
  .rw[es] at hj
   by_cases z:j<Ls.length
   .rw[ag z] at hj
    let#[i,r',c,e1,e2,e3]:=hp j h' j0 hj;exact#[i,r',c,e1,by rw[ag (aW e2)];erw[e2],e3]
   .rw[ax (fP z)] at hj
    let#[c,cm,e1,e2]:=ps h' (ah hj);exact#[rs.length,r,c,∅,by simp,cm,e1,e2]
theorem RX(Γ:cf)(h2:Γ "Places.first_rule"=Gd)(h3:Γ "Table.__init__"=Nt){S S1:bF}{P:Nat}{bh en Ls rs ds:List Nat}{tk:Nat->Nat}{D:Nat->Prop}{x4 x5 x6 x7:Option U}{F:Ends}(pa:Bx S P bh en tk)(C:DC bh D)(J:Wi S S1 tk bh D Ls rs ds)(el:Ls.length<=ds.length)
  (q:∀T told ls lots rs S',G6 S' T told ls (Af tk lots rs)->(∀d∈ls,S.length<=d)->Ext S S'->SQ bh en tk lots rs told->ZF tk D lots rs->F.rt (.loc T) S'):
  Rest Γ YH F [some (.loc P),some (.loc S.length),some (.loc (S.length+1)),some (.loc (S.length+2)),x4,x5,x6,x7] S1:=by
 let#[I,hl,hle,hz,hD,inv,hp]:=J;have lb:=so C I.nd hD;have pa1:=pa.ext I.x;let#[b,e,k,oP,_]:=pa1.o;have rat:∀{j:Nat},j<Ls.length->rs[j]?=some (rs.getD j 0):=λ{j}h=>by rw[aE,aa (hl▸av h el)];rfl
 unfold YH;room;rw[I.l,aC]
 rwa[fj (Ls.map aM) (λi acc S2=>S2=S1/\∃told:List (Option Nat),acc=told.map uN/\told.length=i/\∀(j h:Nat),j<i->Ls[j]?=some h->∃o,told[j]?=some o/\Vy h en o) (λi acc S2 hi h9=>?_) (λi u acc S2 k hu hi hk=>?_) (λacc S2 hI=>?_) #[rfl,[],rfl,rfl,λj h hj=>absurd hj (d6 j)]]
 .let#[x,told,e1,e2,_]:=h9
  rw[af] at hi;exact#[x▸I.l,by rw[e1,af];omega]
 .let#[rfl,told,rfl,e2,inv2]:=hi
  let#[h,hh,rfl]:=fD hu;rw[if_pos rfl,oP,bx]
  refine#[#[rfl,rfl],ca h2 #[P,bh,en,tk,h,rfl,pa1,λo ho=>hk _ _ #[rfl,told++[o],by simp,by simp[e2],λj h' hj hh'=>?_]]];rcases je.mp hj with y|y
  .let#[o',z1,z2]:=inv2 j h' y hh'
   exact#[o',by rw[ag (e2▸y)];erw[z1],z2]
  .subst y
   rw[hh] at hh';cases hh';exact#[o,by rw[<-e2];simp,ho]
 .let#[rfl,told,rfl,e2,inv2]:=hI
  rw[af] at e2 inv2;have x3:Ext S2 (S2++[SO.lst (told.map uN)]):=Ext.app _;have g3:(S2++[SO.lst (told.map uN)])[S2.length]?=some (.lst (told.map uN)):=by simp
  have I3:=I.ext x3;generalize S2.length=a at g3;generalize S2++[SO.lst (told.map uN)]=S3 at I3 g3;rwa[ca h3 #[S3.length,a,_,told,rfl,cj,(Ext.app _).get g3,λk' S4 o4 gT gk=>#[rfl,?_]]];have y4:Ext S3 S4:=uS o4;rwa[q _ told ds Ls rs S4 #[#[k',_,gT,gk,y4.get I3.r,λj d hj=>?_,λj c hj=>?_],∅,∅,λj c k hc e=>?_] (λd m=>?_) (I3.x.trans y4) #[hz,λj h hj=>inv2 j h (aW hj) hj,e2,λj h hj=>?_,I.m] #[λj j0 jl=>?_,hD]]
  .have hr:=rat (av (aW hj) hle)
   rw[we hr]
   erw[y4.get (I3.d j d _ hj hr).2]
  .unfold Af;rw[cH (hl▸hj)];rfl
  .unfold Af at e
   let#[r,hr,e]:=ay.mp e;unfold gz at e;split at e
   .cases e
   .rename_i z
    cases e;rw[e2]
    erw[bP ((I.m r (ah hr) c hc).resolve_left z)]
  .let#[j,hj]:=cB m
   erw[aJ (oA _ 3) (I.d j d _ hj (rat (av (aW hj) hle))).1]
  .have hr:=rat (aW hj)
   let#[h',e1,e2]:=inv j _ hr;rw[hj] at e1;cases e1;exact#[_,hr,e2]
  .have hj:=aa jl
   let#[i,r,c,z1,z2,z3,z4,z5]:=hp j _ j0 hj;rw[z4] at hj z5;refine#[i,r,c,z1,z2,z3,hj,z5,?_];rw[we z2]
   unfold gz;rw[if_neg z5,<-(ab.mp hj).2,List.Nodup.idxOf_getElem I.nd]
theorem Wj(Γ:cf)(h1:Γ "Places.beyond"=Ds)(h2:Γ "Places.first_rule"=Gd)(h3:Γ "Table.__init__"=Nt):Keeps Γ rN 7 RV:=by
 rintro us S Q E ⟨P,bh,en,tk,D,rfl,pa,C,D0,q⟩;unfold rN;room;refine#[by simp,?_];room;rw[show ∀env S' Q' E',WE Γ (.dH (.cons ↑1 .nil) (.cons ↑0 .nil)) env S' Q' E'=([U.int 1].length<=100/\mI (.int 1)=true/\∃v,[U.int 0]=[v]/\Q' (.loc S'.length) (S'++[.dH [(.int 1,v)]])) from λ_ _ _ _=>rfl]
 refine#[by simp,rfl,_,rfl,?_];room;refine#[by simp,?_];have ls0:(S++[SO.lst [U.int 1]]).length=S.length+1:=by simp
 have ls1:(S++[SO.lst [U.int 1]]++[SO.dH [(U.int 1,U.int 0)]]).length=S.length+2:=by simp
 have I0:Wi S (S++[SO.lst [U.int 1]]++[SO.dH [(U.int 1,U.int 0)]]++[SO.lst []]) tk bh D [1] [] []:=by
  refine#[#[((Ext.app _).trans (Ext.app _)).trans (Ext.app _),?_,?_,?_,by simp,by simp,by simp],rfl,by simp,rfl,λh m p hp=>?_,by simp,λj h j0 hj=>?_]
  .exact((Ext.app _).trans (Ext.app _)).get (show(S++[SO.lst [U.int 1]])[S.length]?=_ by simp)
  .exact(Ext.app _).get (show(S++[SO.lst [U.int 1]]++[SO.dH [(U.int 1,U.int 0)]])[S.length+1]?=_ by rw[<-ls0,ax (ak _),b8];rfl)
  .rw[<-ls1,ax (ak _),b8];rfl
  .have:h=1:=by simpa using m
   subst this;rw[dA.mp hp]
   erw[D0]
  .have:=aW hj
   simp at this;omega
 rw[ls0,ls1]
 generalize S++[SO.lst [U.int 1]]++[SO.dH [(U.int 1,U.int 0)]]++[SO.lst []]=S0 at I0;rwa[Rest.go ?_];rw[o9,UE]
 refine#[2050,oa (λN env S1=>∃(Ls rs ds:List Nat)(x4 x5 x6 x7:Option U),N=2048-ds.length/\env=[some (.loc P),some (.loc S.length),some (.loc (S.length+1)),some (.loc (S.length+2)),x4,x5,x6,x7]/\Wi S S1 tk bh D Ls rs ds) ?_ _ 2048 _ _ ⋯ #[[1],[],[],none,none,none,none,rfl,rfl,I0]];rintro N env S1 K ⟨Ls,rs,ds,x4,x5,x6,x7,rfl,rfl,J⟩ hK;have lb:=so C J.s.nd J.d;have dl:=J.le;room;rw[mZ J.s.r,mZ J.s.l]
 dsimp[bp,af];refine#[∅,∅,?_];by_cases z:ds.length<Ls.length
 .have:((ds.length:Int)<(Ls.length:Int)):=Int.ofNat_lt.mpr z
  dsimp[this,decide_true,if_true];erw[RW Γ h1 pa C J z λLs' rs' ds' S2 x4 x5 x6 x7 J2 e=>hK (2048-ds'.length) _ _ ∅ #[Ls',rs',ds',x4,x5,x6,x7,rfl,rfl,J2]]
 .have:¬((ds.length:Int)<(Ls.length:Int)):=λy=>z (Int.ofNat_lt.mp y)
  dsimp[this,decide_false,ao,if_false];erw[RX Γ h2 h3 pa C J (fP z) q]
section
variable{S S1 S2:bF}{X:List Nat}
def Kp(X:List Nat)(S S1:bF):Prop:=S.length<=S1.length/\∀n,n<S.length->n∉X->S1[n]?=S[n]?
theorem Kp.refl:Kp X S S:=#[ak _,λ_ _ _=>rfl]
theorem Kp.trans(a:Kp X S S1)(b:Kp X S1 S2):Kp X S S2:=#[aJ a.1 b.1,λn h ne=>(b.2 n (av h a.1) ne).trans (a.2 n h ne)]
theorem Ext.kp(a:Ext S S1):Kp X S S1:=#[a.1,λn h _=>a.2 n h]
theorem Kp.set(m:n∈X):Kp X S (S.set n o):=#[by rw[cD];erw[ak _],λk _ ne=>by rw[ai λ(z:n=k)=>ne (by rw[<-z];erw[m])]]
theorem Kp.get(a:Kp X S S1)(h:S[n]?=some o)(m:n∉X):S1[n]?=some o:=(a.2 n (aW h) m).trans h
end
theorem EM(f:Nat->Option Nat)(h:Nat->Nat):∀G:List Nat,∃ps:List (Nat×Nat),dW G f=ps.map (λp=>([p.1],aM p.2))/\dW G (λc=>(f c).map h)=ps.map (λp=>([p.1],aM (h p.2)))/\(∀p∈ps,p.1∈G/\f p.1=some p.2)/\(G.Nodup->(ps.map (·.1)).Nodup)/\ps.length<=G.length
 |[]=>#[[],rfl,rfl,by simp,by simp,by simp]
 |x::G=>by
  let#[ps,h1,h2,h3,h4,h5]:=EM f h G;unfold dW at h1 h2 ⊢;cases e:f x with
  |none=>exact#[ps,by simp[e,h1],by rw[cu];dsimp[e,uz];erw[h2],λp m=>#[aA _ (h3 p m).1,(h3 p m).2],λnd=>h4 (fu.mp nd).2,by simp;omega]
  |some k=>
   refine#[(x,k)::ps,by simp[e,h1],by rw[cu];dsimp[e,iX,au];rw[h2],λp m=>?_,λnd=>?_,by simp;omega]
   .rcases aN.mp m with rfl|m
    .exact#[aT ..,e]
    .exact#[aA _ (h3 p m).1,(h3 p m).2]
   .let#[n1,n2]:=fu.mp nd
    rw[au,fu]
    refine#[λz=>?_,h4 n2];let#[p,m,e']:=bq.mp z;have:=(h3 p m).1;rw[show p.1=x from e'] at this;erw[n1 this]
theorem RY{Γ:cf}{S:bF}{T nb A R d:Nat}{b:List Nat}{f:Nat->Option Nat}{x4:U}{k:KU}{E:KX}(hb:S[nb]?=some (.lst (b.map aM)))(hd:S[d]?=some (.dH (sD (dW SG f)))\/S[d]?=some (.vx (sD (dW SG f))))(hf:∀c k,c∈SG->f c=some k->k<b.length)
  (q:∀m S',Ext (S.set d (.vx (sD (dW SG f)))) S'->S.length<=m->S'[m]?=some (.dH (sD (dW SG λc=>(f c).map λk=>b.getD k 0)))->k (.loc m) S'):WE Γ YI [some (.loc T),some (.loc nb),some (.loc A),some (.loc R),some x4,some (.loc d)] S k E:=by
 unfold YI;have gl:SG.length=95:=rfl;have nd:=Ke;let#[ps,e1,e2,e3,e4,e5]:=EM f (λk=>b.getD k 0) SG;have lk:∀p∈ps,tU (.str [p.1]) (sD (dW SG f))=some (aM p.2):=λp m=>by rw[EJ,wd,if_pos (e3 p m).1,(e3 p m).2];rfl
 have kp:∀p∈ps,p.2<b.length:=λp m=>hf p.1 p.2 (e3 p m).1 (e3 p m).2
 rw[e2] at q;have ey:(sD (dW SG f)).map (·.1)=ps.map λp=>U.str [p.1]:=by rw[e1];unfold sD;simp[dh]
 have nd':=e4 nd;generalize dW SG f=rw0 at *;room;have e0:∀R,i9 S[d]? R=R (sD rw0):=λR=>by rcases hd with h|h<;>rw[h]<;>rfl
 rw[e0,ey]
 have dl:d<S.length:=by rcases hd with h|h<;>exact aW h
 have nbd:nb≠d:=λz=>by rcases hd with h|h<;>rw[<-z,hb] at h<;>cases h
 have g1:(S.set d (.vx (sD rw0)))[d]?=some (.vx (sD rw0)):=bG dl;have b1:(S.set d (.vx (sD rw0)))[nb]?=some (.lst (b.map aM)):=by rw[ai (cC nbd)];erw[hb]
 have l1:(S.set d (.vx (sD rw0))).length=S.length:=cD;generalize S.set d (.vx (sD rw0))=S1 at g1 b1 q l1;rwa[lh (S:=S1) _ (ps.map λp=>.tup [.str [p.1],aM (b.getD p.2 0)]) (by simp) (by simp;omega) (λS' x=>x.get g1) (λu S' k h=>h) (λj u v hu hv S2 k x' hk=>?_) λS2 x'=>?_]
 .rw[aw] at hu hv
  let#[p,hp,rfl]:=aq.mp hu;rw[hp] at hv;have hv:U.tup [.str [p.1],aM (b.getD p.2 0)]=v:=by simpa using hv
  subst hv;have m:=ah hp;rw[x'.get g1]
  refine#[rfl,?_];rw[lk p m]
  show getL S2[nb]? _
  rw[x'.get b1,aC]
  erw[zO (kp p m) #[by simp,hk S2 .refl]]
 .refine#[ps.map λp=>([p.1],aM (b.getD p.2 0)),by simp[dh],?_,?_]
  .have:=nd'
   rw[bu]
   show(ps.map λp=>[p.1]).Nodup
   have e:(ps.map λp=>[p.1])=(ps.map (·.1)).map λc=>[c]:=by rw[bu];rfl
   rw[e]
   erw[xy _ (λa b h z=>h (List.cons.inj z).1) nd']
  .erw[q _ _ (x'.trans ((Ext.app _).trans (Ext.app _))) (by have:=x'.1;rw[ar];omega) (by rw[ax (ak _),b8];rfl)]
structure SR(told:List (Option Nat))(go:Nat->Nat->Option Nat)(told':List (Option Nat))(go':Nat->Nat->Option Nat)(b reps:List Nat):Prop where
 k:∃m,GZ (told++[none]) (gN told.length go) m b/\∀i j,i<(told++[none]).length->j<(told++[none]).length->Eqv (told++[none]) (gN told.length go) m i j->Eqv (told++[none]) (gN told.length go) (m+1) i j
 a:∀p,p<told.length->b.getD p 0<reps.length
 len:told'.length=reps.length
 r:∀(r p:Nat),reps[r]?=some p->p<told.length/\b.getD p 0=r/\∀p',p'<p->b.getD p' 0<r
 t:∀(r p:Nat),reps[r]?=some p->told'.getD r none=told.getD p none/\∀c,go' r c=(go p c).map λk=>b.getD k 0
noncomputable def SS(go:Nat->Nat->Option Nat)(b reps:List Nat)(r c:Nat):Option Nat:=(reps[r]?).bind λp=>(go p c).map λk=>b.getD k 0
theorem Kf(h:reps[r]?=some p):SS go b reps r=λc=>(go p c).map λk=>b.getD k 0:=by
 funext c;unfold SS;rw[h];rfl
noncomputable def RZ:Spec:=λus S Q _=>∃T told ls go B,us=[.loc T]/\G6 S T told ls go/\0<told.length/\(∀d∈ls,B<=d)/\B<=S.length/\∀T' told' ls' go' b reps S',G6 S' T' told' ls' go'->(∀n,n<B->S'[n]?=S[n]?)->S.length<=S'.length/\(∀d∈ls',S.length<=d)->SR told go told' go' b reps->Q (.loc T') S'
structure Nw(S3 S4:bF)(L:Nat)(told:List (Option Nat))(ls:List Nat)(go:Nat->Nat->Option Nat)(b reps ds:List Nat)(i:Nat):Prop where
 k:Kp (L::(L+1)::ls) S3 S4
 a:S4[L]?=some (.lst ((reps.map λp=>told.getD p none).map uN))
 r:S4[L+1]?=some (.lst (ds.map .loc))
 dl:ds.length=reps.length
 od:∀(j d:Nat),ls[j]?=some d->S4[d]?=some (.dH (sD (dW SG (go j))))\/S4[d]?=some (.vx (sD (dW SG (go j))))
 nw:∀(r d p:Nat),ds[r]?=some d->reps[r]?=some p->S3.length<=d/\S4[d]?=some (.dH (sD (dW SG λc=>(go p c).map λk=>b.getD k 0)))
 ib:∀p,p<i->b.getD p 0<reps.length
 ir:∀(r p:Nat),reps[r]?=some p->p<i/\b.getD p 0=r/\∀p',p'<p->b.getD p' 0<r
 rl:reps.length<=i
section
variable{S3 S4 S6:bF}{L i d m:Nat}{told:List (Option Nat)}{ls b reps ds:List Nat}{go:Nat->Nat->Option Nat}
theorem Nw.old(a:Nw S3 S4 L told ls go b reps ds i)(h:b.getD i 0<reps.length):Nw S3 S4 L told ls go b reps ds (i+1):=
 #[a.k,a.a,a.r,a.dl,a.od,a.nw,λp hp=>(je.mp hp).elim (a.ib p) λe=>e▸h,λr p e=>#[bc (a.ir r p e).1,(a.ir r p e).2],jP a.rl]
theorem Nw.push(a:Nw S3 S4 L told ls go b reps ds i)(hz:b.getD i 0=reps.length)(hd:ls[i]?=some d)(lo:∀(j d:Nat),ls[j]?=some d->d<L/\S3[d]?=some (.dH (sD (dW SG (go j)))))(l3:S3.length=L+2)
  (x6:Ext ((S4.set L (.lst (((reps++[i]).map λp=>told.getD p none).map uN))).set d (.vx (sD (dW SG (go i))))) S6) (ml:S4.length<=m) (g6:S6[m]?=some (.dH (sD (dW SG λc=>(go i c).map λk=>b.getD k 0)))):
  Nw S3 (S6.set (L+1) (.lst (ds.map .loc++[.loc m]))) L told ls go b (reps++[i]) (ds++[m]) (i+1):=by
 have dL:=(lo i d hd).1;have lr:=aW a.r;have lk:=a.k.1;have get:∀(n:Nat)(o:SO),n≠L->n≠L+1->n≠d->S4[n]?=some o->(S6.set (L+1) (.lst (ds.map .loc++[.loc m])))[n]?=some o:=λn o h1 h2 h3 e=>by
  rw[ai (cC h2)]
  erw[x6.get (by rw[ai (cC h3),ai (cC h1)];exact e)]
 have g1:S6[L+1]?=some (.lst (ds.map .loc)):=x6.get (by rw[ai (aY (bc dL)),ai (aY (dg L))];erw[a.r]);have mX:d∈L::(L+1)::ls:=by simp[ah hd]
 refine#[(a.k.trans ((Kp.set (by simp)).trans (Kp.set mX))).trans ((Ext.kp x6).trans (Kp.set (by simp))),?_,by rw[gs g1];simp,by simp[a.dl],λj d' hj=>?_,λr d' p e1 e2=>?_,λp hp=>?_,λr p e=>?_,by rw[ar];erw[kF a.rl]]
 .rw[ai (cZ (dg L))]
  erw[x6.get (by rw[ai (aY dL)];exact gs a.a)]
 .by_cases y:d'=d
  .subst y
   have e:sD (dW SG (go j))=sD (dW SG (go i)):=by
    have:=(lo j d' hj).2;rw[(lo i d' hd).2] at this;injection this with this;injection this with this
    erw[this.symm]
   rw[e,ai (cZ (bc dL))]
   erw[.inr (x6.get (bG (by rw[cD];exact jN dL (Nat.lt_of_succ_lt lr))))]
  .have dl:=(lo j d' hj).1
   have ne:=aY dl;exact(a.od j d' hj).imp (get _ _ ne (aY (bc dl)) y) (get _ _ ne (aY (bc dl)) y)
 .rcases uT e1 with e1|⟨rfl,rfl⟩
  .have hr:=aW e1
   rw[ag (a.dl▸hr)] at e2;let#[z1,z2]:=a.nw r d' p e1 e2;rw[l3] at z1;exact#[l3▸z1,get _ _ (cZ (av (bc (dg L)) z1)) (cZ z1) (cZ (av (bc (bc dL)) z1)) z2]
  .have f2:i=p:=by rw[a.dl] at e2;simpa using e2
   subst f2;exact#[aJ lk ml,by rw[ai (aY (av lr ml))];erw[g6]]
 .rw[ar]
  rcases je.mp hp with y|y
  .erw[bc (a.ib p y)]
  .rw[y,hz];erw[dg _]
 .rcases uT e with e|⟨rfl,rfl⟩
  .let#[z1,z2]:=a.ir r p e
   exact#[bc z1,z2]
  .exact#[dg _,hz,a.ib]
end
theorem Nx(Γ:cf){S3 S4:bF}{L i d m T kk R:Nat}{told:List (Option Nat)}{ls b reps ds:List Nat}{go:Nat->Nat->Option Nat}{K:Env->bF->Prop}{Q:KU}{E:Env->KX}(a:Nw S3 S4 L told ls go b reps ds i)(gT:S4[T]?=some (RM kk told R))(gm:S4[m]?=some (.lst (b.map aM)))(mL:m≠L)(hd:ls[i]?=some d)(lo:∀(j d:Nat),ls[j]?=some d->d<L/\S3[d]?=some (.dH (sD (dW SG (go j)))))(l3:S3.length=L+2)(hb:i<b.length)(le:b.getD i 0<=reps.length)(r4:i<=4000)(tl:told.length<=4000)(cl:∀c k,c∈SG->go i c=some k->k<b.length)(ht:told[i]?=some (told.getD i none))
  (q:∀reps ds S',Nw S3 S' L told ls go b reps ds (i+1)->K [some (.loc T),some (.loc m),some (.loc L),some (.loc (L+1)),some (aM i),some (.loc d)] S'):
  Rest Γ YJ #[K,Q,E] [some (.loc T),some (.loc m),some (.loc L),some (.loc (L+1)),some (aM i),some (.loc d)] S4:=by
 unfold YJ;have rl:=a.rl;have dl:=a.dl;room;rw[gm,aC]
 rwa[zO hb ?_];rw[mZ a.r]
 dsimp[bp,af];refine#[∅,?_];try room
 by_cases z:b.getD i 0=reps.length
 .have z':(((b.getD i 0:Nat):Int)== (ds.length:Int))=true:=by rw[beq_iff_eq,z,dl]
  dsimp[z',if_true];room;rw[a.a,aC,Kc gT]
  room;refine#[by rw[af];omega,at_of ht #[by rw[af,af];omega,?_]];have dL:=lo i d hd;have eA:(reps.map λp=>told.getD p none).map uN++[uN (told.getD i none)]=((reps++[i]).map λp=>told.getD p none).map uN:=by rw[aD,aD];rfl
  rw[eA]
  have g1:(S4.set L (.lst (((reps++[i]).map λp=>told.getD p none).map uN)))[L+1]?=some (.lst (ds.map .loc)):=by rw[ai (aY (dg L))];erw[a.r]
  have g2:∀{n:Nat}{o:SO},n≠L->S4[n]?=some o->(S4.set L (.lst (((reps++[i]).map λp=>told.getD p none).map uN)))[n]?=some o:=λ{n o}h e=>by rw[ai (cC h)];erw[e]
  room;rw[g1,aC]
  refine#[trivial,RY (g2 mL gm) ((a.od i d hd).imp (g2 (aY dL.1)) (g2 (aY dL.1))) cl λm6 S6 x6 m6l g6=>?_];rw[cD] at m6l;have g6':S6[L+1]?=some (.lst (ds.map .loc)):=x6.get (by rw[ai (aY (bc dL.1))];erw[g1]);rw[g6',aC]
  refine#[by rw[af];omega,?_];try room
  erw[q _ _ _ (a.push z hd lo l3 x6 m6l g6)]
 .have z':(((b.getD i 0:Nat):Int)== (ds.length:Int))=false:=by rw[beq_eq_false_iff_ne];omega
  dsimp[z',ao,if_false];room;erw[q _ _ _ (a.old (Hh le z))]
theorem Wk(Γ:cf)(h1:Γ "rounds"=Wc)(h2:Γ "with_nowhere"=V8)(h3:Γ "Table.__init__"=Nt):Keeps Γ nU 5 RZ:=by
 rintro us S Q E ⟨T,told,ls,go,B,rfl,h,h0,hB,hBl,q⟩;unfold nU;let#[kk,R,hT,hk,hR]:=h.o;have hl:=h.ll;have sz:=h.sz;room;rw[Kc hT]
 room;refine#[by simp,#[λz=>by rw[List.map_eq_nil_iff.mp z] at h0;erw[dI _ h0],by simp;omega],?_];rw[RP hT]
 rwa[ca h2 #[R,ls,go,rfl,hR,∅,λnr S1 ms x1 ml Rw1=>?_]];have eN:(told++[none]).length=told.length+1:=by simp
 rwa[ca h1 #[nr,ms,gN ls.length go,told++[none],by rw[aD];rfl,Rw1,∅,∅,∅,λj c hj hc=>?_,λF fs S2 x2 gF Rs=>?_]]
 .unfold gN
  cases e:go j c with
  |none=>show ls.length<_;omega
  |some k=>have:=h.cl j c k hc e;show k<_;omega
 have x12:=x1.trans x2;obtain⟨fs0,m,rfl⟩:∃fs0 m,fs=fs0++[m]:=by
  rcases gK fs with z|⟨a,b,z⟩
  .erw[absurd z Rs.ne]
  .exact#[a,b,by rw[z,gM]]
 let#[b,gm,rb]:=Rs.r fs0.length m (by simp);have st:=Rs.st;rw[hl,show(fs0++[m]).length=fs0.length+1 by simp] at st;rw[hl] at rb;room;rw[gF,aC,aD,show [m].map U.loc=[.loc m] from rfl,zP,bp]
 room;refine#[by simp,?_];room;refine#[by simp,?_];have bl:=rb.len;rw[eN] at bl;have nX:∀(n:Nat)(o:SO),S2[n]?=some o->(∀j,o≠.dH (sD (dW SG (go j))))->n∉S2.length::(S2.length+1)::ls:=λn o hn ho z=>by
  have:=aW hn;rcases aN.mp z with z|z
  .omega
  .rcases aN.mp z with z|z
   .omega
   .let#[j,hj]:=cB z
    have:=x12.get (hR.d j n hj);rw[hn] at this;erw[ho j (aL this)]
 have nT:=nX T _ (x12.get hT) (by intro j;unfold RM;intro z;cases z);have nR:=nX R _ (x12.get hR.l) (by intro j z;cases z);have nm:=nX m _ gm (by intro j z;cases z);have ls0:(S2++[SO.lst []]).length=S2.length+1:=by simp
 have y3:Ext S2 (S2++[SO.lst []]++[SO.lst []]):=(Ext.app _).trans (Ext.app _);have gA:(S2++[SO.lst []]++[SO.lst []])[S2.length]?=some (.lst []):=(Ext.app _).get (by simp);have gR:(S2++[SO.lst []]++[SO.lst []])[S2.length+1]?=some (.lst []):=by rw[<-ls0,ax (ak _),b8];rfl
 rw[ls0]
 have l3:(S2++[SO.lst []]++[SO.lst []]).length=S2.length+2:=by simp
 generalize S2++[SO.lst []]++[SO.lst []]=S3 at y3 gA gR l3;have x3:=x12.trans y3;room;rw[RP (x3.get hT)]
 room;rw[x3.get hR.l,aC]
 have fst':=uP b [];rw[rb.fx] at fst';have lo:∀(j d:Nat),ls[j]?=some d->d<S2.length/\S3[d]?=some (.dH (sD (dW SG (go j)))):=λj d e=>#[aW (x12.get (hR.d j d e)),x3.get (hR.d j d e)]
 rwa[dS (λi env S4=>∃(reps ds:List Nat)(x4 x5:Option U),env=[some (.loc T),some (.loc m),some (.loc S2.length),some (.loc (S2.length+1)),x4,x5]/\Nw S3 S4 S2.length told ls go b reps ds i) (λi env S4 h9=>?_) _ ?_ ?_ #[[],[],none,none,rfl,.refl,gA,gR,rfl,λj d e=>.inl (lo j d e).2,by simp,λp hp=>absurd hp (d6 p),by simp,ak _]]
 .let#[_,_,_,_,_,a]:=h9
  erw[a.k.get (x3.get hR.l) nR]
 .rintro i u env S4 K hu ⟨reps,ds,x4,x5,rfl,a⟩ hK
  dsimp[dM,aw,pB] at hu;let#[d,hd,rfl]:=aq.mp hu;have hi:=aW hd;have ht:told[i]?=some (told.getD i none):=by rw[aE,aa (hl▸hi)];rfl
  dsimp[dh,LW];rwa[Nx Γ a (a.k.get (x3.get hT) nT) (a.k.get (y3.get gm) nm) (aY (aW gm)) hd lo l3 ∅ ?_ ∅ sz (λc k hc e=>jN (h.cl i c k hc e) ∅) ht λreps ds S' a'=>hK _ _ #[reps,ds,_,_,rfl,a']]
  have gi:=gd (b:=b) (i:=i) ∅;have ib:=a.ib
  clear a hK lo
  cases e:b.getD i 0 with
  |zero=>erw[bX _]
  |succ v=>
   rw[e] at gi;rcases fst' i v gi with z|⟨p,hp,e'⟩
   .erw[absurd z (d6 v)]
   .have:=ib p hp
    rw[aE,e'] at this;erw[this]
 .rintro env S4 ⟨reps,ds,x4,x5,rfl,a⟩
  obtain⟨k4,gA4,gR4,dl,-,nw,ib,ir,rl⟩:=a;rw[ji,af,hl] at ib ir rl;room;refine ca h3 #[S4.length,_,_,_,rfl,cj,(Ext.app _).get gA4,λk' S5 o5 gT gk=>#[rfl,?_]];have y5:Ext S4 S5:=uS o5;have t':∀(r p:Nat),reps[r]?=some p->(reps.map λp=>told.getD p none).getD r none=told.getD p none/\∀c,SS go b reps r c=(go p c).map λk=>b.getD k 0:=λr p e=>by
   refine#[by rw[aE,aw,e];rfl,λc=>by rw[Kf e]]
  rwa[q _ (reps.map λp=>told.getD p none) ds (SS go b reps) b reps S5 #[#[k',_,gT,gk,y5.get gR4,λj d hj=>?_,λj c hj=>?_],by rw[af];erw[dl],by rw[af];omega,λj c k hc e=>?_] (λn hn=>?_) #[aJ x3.1 (aJ k4.1 y5.1),λd m=>let ⟨j,hj⟩:=cB m;aJ x3.1 (nw j d _ hj (aa (show j<reps.length from dl▸aW hj))).1] #[#[fs0.length,rb,st],ib,by simp,ir,t']]
  .have hr:=aa (show j<reps.length from dl▸aW hj)
   rw[Kf hr]
   erw[y5.get (nw j d _ hj hr).2]
  .unfold SS;rw[cH (dl▸hj)];rfl
  .unfold SS at e
   let#[p,hp,e]:=ay.mp e;let#[v,hv,e]:=aq.mp e;subst e;rw[af]
   erw[ib v (h.cl p c v hc hv)]
  .have nS:n<S.length:=av hn hBl
   have n2:=av nS x12.1;have n3:=av nS x3.1;rw[y5.2 n (av n3 k4.1),k4.2 n n3 (λz=>?_),x3.2 n nS]
   rcases aN.mp z with z|z
   .erw[aY n2 z]
   .rcases aN.mp z with z|z
    .erw[aY (bc n2) z]
    .erw[Nat.not_le_of_lt hn (hB n z)]
def Ny(ts:List Tr)(w:List Nat):Option Nat->Prop
 |none=>∀(i:Nat)t,ts[i]?=some t->¬En t (hs t w)
 |some i=>(∃t,ts[i]?=some t/\En t (hs t w))/\∀(i':Nat)t,i'<i->ts[i']?=some t->¬En t (hs t w)
theorem Nz(h:Ny ts w o)(h':Ny ts w o'):o=o':=by
 cases o with
 |none=>
  cases o' with
  |none=>rfl
  |some i=>let#[#[t,e,z],_]:=h';erw[absurd z (h i t e)]
 |some i=>
  let#[#[t,e,z],n]:=h;cases o' with
  |none=>erw[absurd z (h' i t e)]
  |some j=>
   let#[#[t',e',z'],n']:=h';rcases Kx i j with y|y|y
   .erw[absurd z (n' i t y e)]
   .rw[y]
   .erw[absurd z' (n j t' y e')]
def tot(N:Nat)(go:Nat->Nat->Option Nat)(w:List Nat):Nat:=w.foldl (gN N go) 0
theorem wg:tot N go (w++[c])=gN N go (tot N go w) c:=by unfold tot;rw[fE];rfl
theorem Om:Nf bh 0 0:=λp=>by simp
section
variable{ts:List Tr}{sg:List (List Nat)}{bh en lots rs:List Nat}{u:Nat}{told:List (Option Nat)}
abbrev qw(sg:List (List Nat)):Nat->Nat:=λc=>jE (·.contains c) sg
def Lv(told:List (Option Nat))(go:Nat->Nat->Option Nat)(j:Nat):Prop:=∃w:List Nat,(∀c∈w,c∈SG)/\(told++[none]).getD (w.foldl (gN told.length go) j) none≠none
theorem NA(A:wx ts sg bh en)(U:B4 sg bh en u)(P:SQ (bh.map (·&&&u)) en (qw sg) lots rs told)(hS:∀t∈ts,∀l∈m8 t,∀c∈l,c∈SG){p:Nat}(hp:u.testBit p=true){t:Tr}(m:t∈ts)(i:IN t p=true){j h:Nat}(hj:lots[j]?=some h)(hh:h.testBit p=true):Lv told (Af (qw sg) lots rs) j:=by
 have sgs:∀{p:Nat}{t:Tr},t∈ts->IN t p=true->m9 zF sg p=true->∃c∈SG,(qw sg c).testBit p=true:=λ{p t}m i e=>by
  let#[l,e1,e2]:=v5 e;have e3:=A.sgn t m p i;rw[e1] at e3;cases e3;let#[n,_,pl]:=A.pos t m;have hl:=ah (qN pl i);cases z:lT.sgn t p with
  |nil=>rw[z] at e2;cases e2
  |cons c l=>
   refine#[c,hS t m _ hl c (by rw[z];simp),?_];rw[sh]
   unfold m9;rw[e1,z];simp
 refine((U.m (λp=>u.testBit p=true/\∀t∈ts,IN t p=true->(∃c∈SG,(qw sg c).testBit p=true)/\∀j h,lots[j]?=some h->h.testBit p=true->Lv told (Af (qw sg) lots rs) j) #[λZ p hZ hz e=>#[U.e Z p hZ hz e,λt m i=>#[sgs m i e,λj h hj hh=>?_]],λq B p e hB hb ih=>#[U.b q B p e hB hb ih.1,λt m i=>#[sgs m i e,λj h hj hh=>?_]]] p hp).2 t m i).2 j h hj hh
 .let#[o,e1,f]:=P.t j h hj
  refine#[[],λc m=>(cx m).elim,?_];show(told++[none]).getD j none≠none;rw[aE,ag (aW e1),e1]
  rintro rfl;let#[k,ek]:=cB hZ;erw[f k #[Z,ek,p,hh,hz]]
 .let#[B',e1,b1]:=A.b t m q i
  rw[hB] at e1;cases e1;have ip:=fh ((b1 p).symm.trans hb);let#[#[c,cm,tc],lv]:=ih.2 t m ip;let#[r,hr,Wl]:=P.b j h hj;have rp:r.testBit p=true:=(Wl p).mpr #[q,B&&&u,hh,by rw[aw,hB];rfl,by rw[bB,hb,ih.1];rfl];have hp':(r&&&qw sg c).testBit p=true:=by rw[bB,rp,tc];rfl
  have nz:r&&&qw sg c≠0:=λz=>by rw[z] at hp';simp at hp'
  have hm:=(P.m r (ah hr) c cm).resolve_left nz;have hk:=bP hm;let#[w,hw,e]:=lv _ _ (show lots[lots.idxOf (r&&&qw sg c)]?=some (r&&&qw sg c) by rw[aa hk,eP hk]) hp';refine#[c::w,λx hx=>(aN.mp hx).elim (λz=>z▸cm) (hw x),?_];rw[lu]
  have:gN told.length (Af (qw sg) lots rs) j c=lots.idxOf (r&&&qw sg c):=by
   unfold gN;rw[we hr]
   unfold gz;rw[if_neg nz];rfl
  rw[this];erw[e]
theorem Kg(A:wx ts sg bh en)(U:B4 sg bh en u)(P:SQ (bh.map (·&&&u)) en (qw sg) lots rs told)(R:ZF (qw sg) (λp=>p=0\/∃t∈ts,IN t p=true) lots rs)(hS:∀t∈ts,∀l∈m8 t,∀c∈l,c∈SG)(j:Nat)(j0:0<j)(jl:j<told.length):Lv told (Af (qw sg) lots rs) j:=by
 let#[i,r,c,il,hr,cm,hj,nz,_]:=R.p j j0 (by rw[<-P.len];erw[jl]);let#[p,hp]:=wq nz;have hp2:=hp;rw[bB,aj] at hp2;have li:i<lots.length:=by rw[<-P.len];omega
 have hi:=aa li;let#[r',e1,Wl]:=P.b i _ hi;rw[hr] at e1;cases e1;let#[q,B,hq,hB,hb]:=(Wl p).mp hp2.1;let#[B',eB,rfl]:=uK hB;rw[bB,aj] at hb;have⟨t,m,ip⟩:∃t∈ts,IN t p=true:=by
  rcases R.d _ (ah hi) q hq with rfl|⟨t,m,iq⟩
  .let#[B0,e0,f0]:=A.b0
   rw[eB] at e0;cases e0;let#[t,m,f]:=(f0 p).mp hb.1;exact#[t,m,jb f]
  .let#[B0,e0,f0]:=A.b t m q iq
   rw[eB] at e0;cases e0;exact#[t,m,fh ((f0 p).symm.trans hb.1)]
 erw[NA A U P hS hb.2 m ip hj hp]
theorem BH(A:wx ts sg bh en)(U:B4 sg bh en u)(P:SQ (bh.map (·&&&u)) en (qw sg) lots rs told)(gz0:∀j c,told.length<=j->Af (qw sg) lots rs j c=none):∀(n:Nat)(w:List Nat),w.length=n->(∀c∈w,c∈SG)->(∃r,rs[tot told.length (Af (qw sg) lots rs) w]?=some r/\GY ts u w r)\/(tot told.length (Af (qw sg) lots rs) w=told.length/\GY ts u w 0)
 |0,w,hn,_=>by
  rw[fM.mp hn]
  let#[r,h1,h2]:=P.b 0 1 P.z;erw[.inl #[r,h1,ym A h2]]
 |n+1,w,hn,hw=>by
  rcases gK w with rfl|⟨w,c,rfl⟩
  .simp at hn
  rw[gM] at hn hw ⊢;have cm:c∈SG:=hw c (by simp);rw[wg]
  rcases BH A U P gz0 n w (by simpa using hn) (λc m=>hw c (by simp[m])) with⟨r,h1,h2⟩|⟨h1,h2⟩
  .unfold gN
   rw[we h1]
   unfold gz;by_cases z:r&&&qw sg c=0
   .rw[if_pos z]
    erw[.inr #[rfl,sj A U h2 (show Nf _ (r&&&qw sg c) 0 by rw[z];exact Om)]]
   .rw[if_neg z]
    have hm:=(P.m r (ah h1) c cm).resolve_left z;have hk:=bP hm;have e:lots[lots.idxOf (r&&&qw sg c)]?=some (r&&&qw sg c):=by rw[aa hk,eP hk]
    let#[r',e1,e2]:=P.b _ _ e;erw[.inl #[r',e1,sj A U h2 e2]]
  .rwa[.inr #[?_,sj A U h2 (by rw[Nat.zero_and];erw[Om])]]
   unfold gN;rw[h1,gz0 _ c (ak _)];rfl
theorem Wm:¬Ov 0 en i:=λ⟨_,_,p,h,_⟩=>by simp at h
theorem Dy(A:wx ts sg bh en)(U:B4 sg bh en u)(h:GY ts u w r)(f:Vy (r&&&qw sg c) en o):Ny ts (w++[c]) o:=by
 have k:=BA (c:=c) A U h;cases o with
 |none=>erw[λi t e z=>f i ((k i).mpr #[t,e,z])]
 |some i=>exact#[(k i).mp f.1,λi' t hi e z=>f.2 i' hi ((k i').mpr #[t,e,z])]
theorem Gj(A:wx ts sg bh en)(U:B4 sg bh en u)(P:SQ (bh.map (·&&&u)) en (qw sg) lots rs told)(gz0:∀j c,told.length<=j->Af (qw sg) lots rs j c=none)(w:List Nat)(hw:∀c∈w,c∈SG):Ny ts w ((told++[none]).getD (tot told.length (Af (qw sg) lots rs) w) none):=by
 have nn:(told++[none]).getD told.length none=none:=by rw[aE];simp
 have tt:∀{k:Nat}{o:Option Nat},told[k]?=some o->(told++[none]).getD k none=o:=λ{k o}e=>by rw[aE,ag (aW e),e];rfl
 rcases gK w with rfl|⟨w,c,rfl⟩
 .let#[o,e1,e2]:=P.t 0 1 P.z
  rw[show tot told.length (Af (qw sg) lots rs) []=0 from rfl,tt e1]
  cases o with
  |none=>
   rintro i t e ⟨p,hp,z⟩;have hp:p=0:=hp;subst hp;have:=A.nl t (ah e);have z:dU [t]=true:=z;simp[dU,this] at z
  |some i=>
   let#[Z,f1,p,f2,f3]:=e2.1;have p0:=dA.mp f2;subst p0;have il:i<ts.length:=by rw[<-A.Ge];erw[aW f1]
   let#[Z',g1,g2]:=A.e i _ (aa il);rw[f1] at g1;cases g1;rw[g2,aj] at f3;let#[n,n0,pl]:=A.pos _ (bT il);erw[absurd rfl (zC pl n0 f3.1)]
 .rw[gM] at hw ⊢
  have cm:c∈SG:=hw c (by simp);rw[wg]
  rcases BH A U P gz0 _ w rfl (λc m=>hw c (by simp[m])) with⟨r,h1,h2⟩|⟨h1,h2⟩
  .unfold gN
   rw[we h1]
   unfold gz;by_cases z:r&&&qw sg c=0
   .rw[if_pos z]
    show Ny ts _ ((told++[none]).getD told.length none)
    rw[nn]
    erw[Dy (r:=r) A U h2 (o:=none) (by rw[z];exact λi=>Wm)]
   .rw[if_neg z]
    have hm:=(P.m r (ah h1) c cm).resolve_left z;have hk:=bP hm;have e:lots[lots.idxOf (r&&&qw sg c)]?=some (r&&&qw sg c):=by rw[aa hk,eP hk]
    let#[o,e1,e2]:=P.t _ _ e;show Ny ts _ ((told++[none]).getD (lots.idxOf (r&&&qw sg c)) none);rw[tt e1]
    erw[Dy A U h2 e2]
  .unfold gN
   rw[h1,gz0 _ c (ak _)]
   show Ny ts _ ((told++[none]).getD told.length none)
   rw[nn]
   erw[Dy (r:=0) A U h2 (o:=none) (by rw[Nat.zero_and];exact λi=>Wm)]
end
section
variable{told told':List (Option Nat)}{go go':Nat->Nat->Option Nat}{b reps:List Nat}
theorem Oo:∀{m i j:Nat},Eqv told g m i j->told[i]?=told[j]?
 |0,_,_,h=>h
 |m+1,_,_,h=>Oo h.1
theorem wj(M:SR told go told' go' b reps)(cl:∀j c k,c∈SG->go j c=some k->k<told.length)(hi:i<=told.length)(hj:j<=told.length)(e:b.getD i 0=b.getD j 0):(told++[none])[i]?=(told++[none])[j]?/\∀c∈SG,b.getD (gN told.length go i c) 0=b.getD (gN told.length go j c) 0:=by
 let#[m,R,st]:=M.k;have hN:(told++[none]).length=told.length+1:=by simp
 have hq:=(R.iff i j ∅ ∅).mp e;refine#[Oo hq,λc hc=>?_];have le:∀i,gN told.length go i c<(told++[none]).length:=λi=>by
  unfold gN;cases z:go i c with
  |none=>show told.length<_;omega
  |some k=>have:=cl i c k hc z;show k<_;omega
 exact(R.iff _ _ (le i) (le j)).mpr ((st i j ∅ ∅ hq).2 c hc)
theorem EN(M:SR told go told' go' b reps)(cl:∀j c k,c∈SG->go j c=some k->k<told.length)(z0:∀j c,told.length<=j->go j c=none):∀(w:List Nat)(i:Nat),(∀c∈w,c∈SG)->i<=told.length->b.getD i 0=b.getD told.length 0->(told++[none]).getD (w.foldl (gN told.length go) i) none=none
 |[],i,_,hi,e=>by
  have:=(wj M cl hi (ak _) e).1;show(told++[none]).getD i none=none;rw[aE,this];simp
 |c::w,i,hw,hi,e=>by
  have cm:=hw c (by simp);have:=(wj M cl hi (ak _) e).2 c cm;rw[show gN told.length go told.length c=told.length by unfold gN;rw[z0 _ c (ak _)];rfl] at this;rwa[EN M cl z0 w _ (λx hx=>hw x (aA _ hx)) ?_ this];unfold gN;cases z:go i c with
  |none=>erw[ak _]
  |some k=>erw[b7 (cl i c k cm z)]
def R6(n:Nat)(go:Nat->Nat->Option Nat):Prop:=∀j,0<j->j<n->∃i c,i<j/\c∈SG/\go i c=some j
theorem NB(M:SR told go told' go' b reps)(cl:∀j c k,c∈SG->go j c=some k->k<told.length)(z0:∀j c,told.length<=j->go j c=none)(h0:0<told.length)(rc:R6 told.length go)(lv:∀j,0<j->j<told.length->Lv told go j):R6 told'.length go':=by
 intro r r0 rl;rw[M.len] at rl;have hp:=aa rl;let#[p1,p2,p3]:=M.r r _ hp;generalize reps[r]=p at hp p1 p2 p3;have p0:0<p:=by
  rwa[Nat.pos_of_ne_zero λz=>?_]
  subst z;have e0:=aa (jN r0 rl);let#[q1,q2,q3]:=M.r 0 _ e0;generalize reps[0]=q at q1 q2 q3;by_cases y:0<q
  .erw[absurd (q3 0 y) (d6 _)]
  .have:q=0:=∅
   subst this;omega
 let#[i,c,il,cm,e]:=rc p p0 p1;have bi:=p3 i il;have hi:=aa (jN bi rl);let#[q1,q2,_]:=M.r _ _ hi;have tg:=(M.t _ _ hi).2 c;generalize reps[b.getD i 0]=q at hi q1 q2 tg;have eb:=(wj M cl (b7 (jN il p1)) (b7 q1) q2.symm).2 c cm;have ei:gN told.length go i c=p:=by unfold gN;rw[e];rfl
 rw[ei] at eb;refine#[b.getD i 0,c,bi,cm,?_];rw[tg]
 cases z:go q c with
 |none=>
  have en:gN told.length go q c=told.length:=by unfold gN;rw[z];rfl
  rw[en] at eb;let#[w,hw,ne]:=lv p p0 p1;erw[absurd (EN M cl z0 w p hw (b7 p1) eb) ne]
 |some k=>
  have en:gN told.length go q c=k:=by unfold gN;rw[z];rfl
  rw[en] at eb;show some (b.getD k 0)=some r;rw[<-eb,p2]
theorem EO(M:SR told go told' go' b reps)(cl:∀j c k,c∈SG->go j c=some k->k<told.length)(z0:∀j c,told.length<=j->go j c=none)(h0:0<told.length):∀(n:Nat)(w:List Nat),w.length=n->(∀c∈w,c∈SG)->tot told.length go w<=told.length/\match GL go' w with
  |some r=>r<reps.length/\b.getD (tot told.length go w) 0=r
  |none=>b.getD (tot told.length go w) 0=b.getD told.length 0
 |0,w,hn,_=>by
  rw[fM.mp hn]
  have h1:=M.a 0 h0;let#[m,R,_]:=M.k;refine#[bX _,?_];show 0<reps.length/\b.getD 0 0=0;have bl:=R.len;have hN:(told++[none]).length=told.length+1:=by simp
  have gi:=gd (b:=b) (i:=0) ∅;refine#[∅,?_];cases e:b.getD 0 0 with
  |zero=>rfl
  |succ v=>
   rw[e] at gi;have:=uP b [] 0 v (by rw[R.fx];erw[gi]);rcases this with z|⟨p,hp,_⟩
   .simp at z
   .omega
 |n+1,w,hn,hw=>by
  rcases gK w with rfl|⟨w,c,rfl⟩
  .simp at hn
  rw[gM] at hn hw ⊢;have cm:c∈SG:=hw c (by simp);let#[il,ih]:=EO M cl z0 h0 n w (by simpa using hn) (λc m=>hw c (by simp[m]));rw[wg,Kd]
  refine#[?_,?_]
  .unfold gN
   cases z:go (tot told.length go w) c with
   |none=>erw[ak _]
   |some k=>erw[b7 (cl _ c k cm z)]
  cases e:GL go' w with
  |none=>
   rw[e] at ih;have:=(wj M cl il (ak _) ih).2 c cm;show b.getD _ 0=_;rw[this]
   unfold gN;rw[z0 _ c (ak _)];rfl
  |some r=>
   rw[e] at ih;let#[rl,er]:=ih;have hp:=aa rl;let#[p1,p2,_]:=M.r r _ hp;have tg:=(M.t r _ hp).2 c;generalize reps[r]=p at hp p1 p2 tg;have:=(wj M cl il (b7 p1) (by rw[er,p2])).2 c cm;show match go' r c with|some r=>r<reps.length/\_=r|none=>_
   rw[tg,this]
   unfold gN;cases z:go p c with
   |none=>rfl
   |some k=>exact#[M.a k (cl p c k cm z),rfl]
theorem Gk(M:SR told go told' go' b reps)(cl:∀j c k,c∈SG->go j c=some k->k<told.length)(z0:∀j c,told.length<=j->go j c=none)(h0:0<told.length)(w:List Nat)(hw:∀c∈w,c∈SG):fst told' go' w=(told++[none]).getD (tot told.length go w) none:=by
 let#[il,h]:=EO M cl z0 h0 _ w rfl hw;unfold fst;cases e:GL go' w with
 |none=>
  rw[e] at h;have:=(wj M cl il (ak _) h).1;rw[aE,this];simp
 |some r=>
  rw[e] at h;let#[rl,er]:=h;have hp:=aa rl;let#[p1,p2,_]:=M.r r _ hp;have:=(wj M cl il (b7 p1) (by rw[er,p2])).1;rw[aE,this,ag p1,<-aE]
  exact(M.t r _ hp).1
end
def R7:Spec:=λus S Q _=>∃n xs ts,us=[.loc n]/\S[n]?=some (.lst (xs.map .str))/\Rn ts xs/\v7 ts/\eD ts<=10/\∀T told ls go S',G6 S' T told ls go->0<told.length->(∀w,(∀c∈w,c∈SG)->Ny ts w (fst told go w))->Ext S S'->(∀d∈ls,S.length<=d)->((∀t∈ts,∀l∈m8 t,∀c∈l,c∈SG)->R6 told.length go)->Q (.loc T) S'
theorem Wn(Γ:cf)(h1:Γ "places_of"=Ro)(h2:Γ "spread"=RV)(h3:Γ "smallest"=RZ):Keeps Γ nQ 0 R7:=by
 rintro us S Q E ⟨n,xs,ts,rfl,gn,hR,hT,hs,q⟩;unfold nQ;room;rwa[ca h1 #[n,xs,ts,10,rfl,gn,hR,hT,hs,λP u sg bh en S1 pp A U l x1=>?_]];have al:=A.len;have b0:0<bh.length:=∅
 rwa[ca h2 #[P,_,en,_,λp=>p=0\/∃t∈ts,IN t p=true,rfl,pp,#[by rw[af];omega,λq B p hq hB hp=>.inr ?_,λp hp=>?_],.inl rfl,λT told ls lots rs S2 tb dl x2 sp rc=>?_]]
 .let#[B',e,rfl]:=uK hB
  rw[bB,aj] at hp;rcases hq with rfl|⟨t,m,i⟩
  .let#[B0,e0,f0]:=A.b0
   rw[e] at e0;cases e0;let#[t,m,f]:=(f0 p).mp hp.1;exact#[t,m,jb f]
  .let#[B0,e0,f0]:=A.b t m q i
   rw[e] at e0;cases e0;rw[f0] at hp;exact#[t,m,fh hp.1]
 .rw[af]
  rcases hp with rfl|⟨t,m,i⟩
  .erw[b0]
  .rw[al];erw[aW (A.sgn t m p i)]
 have t0:0<told.length:=by rw[sp.len];erw[aW sp.z]
 let#[_,_,_,_,rp]:=tb.o;have ll:=tb.ll;rwa[ca h3 #[T,told,ls,_,S1.length,rfl,tb,t0,dl,x2.1,λT' told' ls' go' b reps S3 tb' k3 #[l3,l4] M=>?_]];have z0:∀j c,told.length<=j->Af (qw sg) lots rs j c=none:=λj c hj=>rp.z j c ∅
 rwa[q T' told' ls' go' S3 tb' ?_ (λw hw=>?_) #[by have:=x1.1;have:=x2.1;omega,λn hn=>?_] (λd m=>aJ (aJ x1.1 x2.1) (l4 d m)) λhS=>NB M tb.cl z0 t0 (λj j0 jl=>?_) (Kg A U sp rc hS)]
 .rw[M.len]
  have:=M.a 0 t0;omega
 .rw[Gk M tb.cl z0 t0 w hw]
  erw[Gj A U sp z0 w hw]
 .have:=x1.1
  rw[k3 n ∅,x2.2 n ∅,x1.2 n hn]
 .let#[i,_,c,e1,_,e2,_,_,e3]:=rc.p j j0 (by rw[<-sp.len];erw[jl])
  exact#[i,c,e1,e2,e3]
noncomputable section
def er:Tr->Tr
 |.one _ l=>.one 0 l
 |.row a b=>.row (er a) (er b)
 |.or a b=>.or (er a) (er b)
 |.rep m a=>.rep m (er a)
def Dv(t:Tr)(w:List Nat):List (List Tr):=w.foldl (λX c=>X.flatMap λK=>dR K c) [[t]]
end
theorem p6:∀{t:Tr},null (er t)=null t
 |.one _ _=>rfl
 |.row a b=>by dsimp[er,null,p6]
 |.or a b=>by dsimp[er,null,p6]
 |.rep m a=>by cases m<;>dsimp[er,null,p6]
theorem NC:more m (er a)=(more m a).map er:=by cases m<;>rfl
theorem yn:∀{t:Tr},dF (er t) c=(dF t c).map λK=>K.map er
 |.one _ l=>by
  dsimp[er,dF];split<;>rfl
 |.row a b=>by
  dsimp[er,dF,yn (t:=a),yn (t:=b),p6,aD,bu]
  congr 1
  .apply fL;intro K _;simp
  .split<;>rfl
 |.or a b=>by dsimp[er,dF,yn (t:=a),yn (t:=b),aD]
 |.rep m a=>by
  dsimp[er,dF,yn (t:=a),bu,NC];apply fL;intro K _;simp
theorem Oq:∀{K:List Tr},dR (K.map er) c=(dR K c).map λK=>K.map er
 |[]=>rfl
 |t::K=>by
  dsimp[au,dR,yn,p6,Oq (K:=K),aD,bu]
  congr 1
  .apply fL;intro K _;simp
  .split<;>rfl
theorem ND:Dv t (w++[c])=(Dv t w).flatMap λK=>dR K c:=by unfold Dv;rw[fE];rfl
theorem Kh(h:oy n t)(n0:0<n):∀(k:Nat)(w:List Nat),w.length=k->∀x,x∈Dv t w↔∃p,hs t w p/\x=ct t p
 |0,w,hw,x=>by
  rw[fM.mp hw]
  constructor
  .intro m
   exact#[0,rfl,by rw[aZ.mp m];rfl]
  .rintro⟨p,rfl,rfl⟩
   erw[aZ.mpr rfl]
 |k+1,w,hw,x=>by
  rcases gK w with rfl|⟨w,c,rfl⟩
  .cases hw
  rw[gM] at hw ⊢;rw[ND,pU,List.mem_flatMap]
  have ih:=Kh h n0 k w (by simpa using hw);constructor
  .rintro⟨K,m,hx⟩
   let#[q,hq,rfl]:=(ih K).mp m;let#[p,f,cs,rfl]:=(JD h n0).mp hx;exact#[p,#[q,hq,f,cs],rfl]
  .rintro⟨p,⟨q,hq,f,cs⟩,rfl⟩
   exact#[ct t q,(ih _).mpr #[q,hq,rfl],(JD h n0).mpr #[p,f,cs,rfl]]
theorem Ot(h:oy n t)(n0:0<n):En t (hs t w)↔(Dv t w).any dU=true:=by
 rw[og]
 constructor
 .rintro⟨p,hp,z⟩
  exact#[ct t p,(Kh h n0 _ w rfl _).mpr #[p,hp,rfl],z]
 .rintro⟨x,m,z⟩
  let#[p,hp,rfl]:=(Kh h n0 _ w rfl _).mp m;exact#[p,hp,z]
theorem Ki:dU (K.map er)=dU K:=by
 unfold dU;rw[BV]
 congr 1;funext t;erw[p6]
theorem Ou{t:Tr}:∀(w:List Nat)(X:List (List Tr)),w.foldl (λX c=>X.flatMap λK=>dR K c) (X.map λK=>K.map er)=(w.foldl (λX c=>X.flatMap λK=>dR K c) X).map λK=>K.map er
 |[],X=>rfl
 |c::w,X=>by
  rw[lu,lu,<-Ou (t:=t) w]
  congr 1
  rw[List.flatMap_map,List.map_flatMap]
  congr 1;funext K;erw[Oq]
theorem Wo{t t':Tr}{n n':Nat}{w:List Nat}(h:oy n t)(n0:0<n)(h':oy n' t')(n0':0<n')(e:er t=er t'):En t (hs t w)↔En t' (hs t' w):=by
 have key:∀t,(Dv (er t) w).any dU=(Dv t w).any dU:=λt=>by
  unfold Dv;rw[show [[er t]]=([[t]]:List (List Tr)).map λK=>K.map er from rfl,Ou (t:=t),tK]
  congr 1;funext K;erw[Ki]
 rw[Ot h n0,Ot h' n0',<-key t,<-key t',e]
theorem zR:∀{t:Tr}{n:Nat},er (num n t)=er t
 |.one _ _,n=>rfl
 |.row a b,n=>by dsimp[num,er,zR]
 |.or a b,n=>by dsimp[num,er,zR]
 |.rep m a,n=>by dsimp[num,er,zR]
theorem ER:∀(l:List Tr)(n i:Nat)(t:Tr),(qj n l)[i]?=some t->∃t' n',l[i]?=some t'/\t=num n' t'
 |[],_,_,_,h=>by cases h
 |a::l,n,0,t,h=>#[a,n,rfl,(aL h).symm]
 |a::l,n,i+1,t,h=>ER l (n+size a) i t h
open PL.GU
def tD(ps:List (Nat×List Nat)):List (U×U):=ps.map λp=>(aM p.1,U.str p.2)
theorem ES(k:Nat):∀ps,tU (aM k) (tD ps)=(ps.lookup k).map .str
 |[]=>rfl
 | (a,v)::r=>by
  show(if NX (aM a) (aM k)=true then some (U.str v) else tU (aM k) (tD r))=_
  rw[show NX (aM a) (aM k)=(some a==some k) from Oh (some a) (some k),ES k r,aK]
  by_cases h:a=k
  .subst h;simp
  .have h1:(some a==some k)=false:=by simp[h]
   have h2:(k==a)=false:=by simp[cC h]
   rw[h1,h2];rfl
theorem uU:∀{ps:List (Nat×List Nat)},k∈ps.map (·.1)->∃w,ps.lookup k=some w/\(k,w)∈ps
 | (a,v)::r,h=>by
  rw[aK]
  by_cases e:k=a
  .subst e;exact#[v,by simp,by simp]
  .have h2:(k==a)=false:=by simp[e]
   rw[h2]
   rw[au,aN] at h;let#[w,h3,h4]:=uU (h.resolve_left e);exact#[w,h3,aA _ h4]
theorem ET:∀{ps:List (Nat×List Nat)},k∉ps.map (·.1)->ps.lookup k=none
 |[],h=>rfl
 | (a,v)::r,h=>by
  rw[au,aN] at h;have h2:(k==a)=false:=by simp;erw[λe=>h (.inl e)]
  rw[aK,h2]
  erw[ET λz=>h (.inr z)]
structure Dz(go:Nat->Nat->Option Nat)(n i:Nat)(G:List Nat)(ps:List (Nat×List Nat)):Prop where
 b:∀p∈ps,p.1<n/\p.2.length<=p.1
 nd:(ps.map (·.1)).Nodup
 z:0∈ps.map (·.1)
 r:∀i' c j,i'<i->c∈SG->go i' c=some j->j∈ps.map (·.1)
 g:∀c j,c∈G->go i c=some j->j∈ps.map (·.1)
section
variable{go:Nat->Nat->Option Nat}{n i c k:Nat}{G:List Nat}{ps:List (Nat×List Nat)}
theorem Dz.low(I:Dz go n i G ps)(rc:R6 n go)(h:j<=i)(hn:j<n):j∈ps.map (·.1):=by
 by_cases z:j=0
 .subst z;erw[I.z]
 .let#[i',c,h1,h2,h3]:=rc j ∅ hn
  erw[I.r i' c j ∅ h2 h3]
theorem Dz.len(I:Dz go n i G ps):ps.length<=n:=by
 have:=zH (l':=bO n) I.nd λx hx=>by
  let#[p,m,rfl]:=bq.mp hx;erw[iz.mpr (I.b p m).1]
 simpa using this
theorem Dz.old(I:Dz go n i G ps)(h:∀j,go i c=some j->j∈ps.map (·.1)):Dz go n i (G++[c]) ps:=
 #[I.b,I.nd,I.z,I.r,λc' j m e=>(aG.mp m).elim (λm=>I.g c' j m e) λm=>h j (by rw[aZ.mp m] at e;erw[e])]
theorem Dz.new(I:Dz go n i G ps)(rc:R6 n go)(hw:(i,w)∈ps)(kn:k<n)(e:go i c=some k)(hk:k∉ps.map (·.1)):Dz go n i (G++[c]) (ps++[(k,w++[c])]):=by
 have ik:i<k:=K4 λz=>hk (I.low rc z kn)
 have up:∀j,j∈ps.map (·.1)->j∈(ps++[(k,w++[c])]).map (·.1):=λj m=>by rw[aD];erw[bR _ m]
 refine#[λp m=>?_,?_,up _ I.z,λi' c' j h1 h2 h3=>up _ (I.r i' c' j h1 h2 h3),λc' j m e'=>?_]
 .rcases aG.mp m with m|m
  .erw[I.b p m]
  .rw[aZ.mp m]
   have:=(I.b _ hw).2;exact#[kn,by rw[ar];show _+1<=k;erw[aJ (kF this) ik]]
 .rw[aD,dO]
  exact#[I.nd,by simp,λx hx y hy=>by rw[aZ.mp hy];erw[λz=>hk ((show x=k from z)▸hx)]]
 .rcases aG.mp m with m|m
  .erw[up _ (I.g c' j m e')]
  .rw[aZ.mp m,e] at e'
   cases e';rw[aD];erw[ba _ (aZ.mpr rfl)]
end
def Wq:Spec:=λus S Q _=>∃(T k R:Nat)(told:List (Option Nat)),us=[.loc T]/\S[T]?=some (RM k told R)/\told.length<=1000000/\Q (aM told.length) S
theorem Wr(Γ:cf):Keeps Γ lg 0 Wq:=by
 rintro us S Q E ⟨T,k,R,told,rfl,h,hl,q⟩;unfold lg;room;rw[Kc h]
 room;rw[af]
 exact#[hl,q]
def NF:Spec:=λus S Q _=>∃T told ls go,us=[.loc T]/\G6 S T told ls go/\0<told.length/\R6 told.length go/\∀m ps S',Ext S S'->S'[m]?=some (.dH (tD ps))->(∀j,j<told.length->j∈ps.map (·.1))->Q (.loc m) S'
theorem Ws(Γ:cf)(h2:Γ "Table.goes"=RO)(h:G6 S T told ls go)(rc:R6 told.length go)(x1:Ext S S1)(ml:S.length<=m)(g1:S1[m]?=some (.dH (tD ps)))(hi:i<told.length)(I:Dz go told.length i G ps)(cm:c∈SG)
  (q:∀S2 ps' x4,Ext S S2->S2[m]?=some (.dH (tD ps'))->Dz go told.length i (G++[c]) ps'->K [some (.loc T),some (.loc m),some (aM i),some (.str [c]),x4] S2):
  Rest Γ YM #[K,Q,E] [some (.loc T),some (.loc m),some (aM i),some (.str [c]),x4] S1:=by
 have hh:=h.ext x1;let#[k,R,hT,_]:=hh.o;unfold YM;room;rw[hT]
 refine#[#[rfl,rfl],ca h2 #[T,told,ls,go,i,c,rfl,hh,hi,cm,?_]];cases e:go i c with
 |none=>
  room;exact q S1 ps _ x1 g1 (I.old λj z=>by rw[e] at z;cases z)
 |some k'=>
  have kn:=h.cl i c k' cm e;let#[w,lw,mw]:=uU (I.low rc (ak _) hi);have wl:w.length<=i:=(I.b _ mw).2;have sz:=h.sz;have ln:=I.len;room;refine#[?_,?_]
  .show(match S1[m]? with|some (.dH _)=>True|some (.uh _)=>True|some (.wL _)=>True|_=>False)
   rw[g1];trivial
  rw[g1,hW,ES,lw,iX,bp,Ig]
  refine#[rfl,by rw[aU,dq];omega,?_];unfold o7;rw[g1]
  show(mI (aM k')=true/\(tD ps).length<1000000)/\match tU (aM k') (tD ps) with|some v=>_|none=>_
  refine#[#[rfl,by unfold tD;rw[af];omega],?_];rw[ES]
  by_cases hk:k'∈ps.map (·.1)
  .let#[w',lw',_]:=uU hk
   rw[lw']
   room;exact q S1 ps _ x1 g1 (I.old λj z=>by rw[e] at z;cases z;erw[hk])
  .rw[ET hk]
   room;rwa[q _ (ps++[(k',w++[c])]) _ (x1.st ml) ?_ (I.new rc mw kn e hk)];rw[gs g1];unfold tD;rw[aD];rfl
theorem Wt(Γ:cf)(h1:Γ "Table.size"=Wq)(h2:Γ "Table.goes"=RO):Keeps Γ ko 4 NF:=by
 rintro us S Q E ⟨T,told,ls,go,rfl,h,h0,rc,q⟩;have sz:=h.sz;unfold ko;room;rw[show ∀env S' Q' E',WE Γ (.dH (.cons ↑0 .nil) (.cons (.lit (.str [])) .nil)) env S' Q' E'=([U.int 0].length<=100/\mI (.int 0)=true/\∃v,[U.str []]=[v]/\Q' (.loc S'.length) (S'++[.dH [(.int 0,v)]])) from λ_ _ _ _=>rfl]
 refine#[⋯,rfl,_,rfl,?_];have x0:Ext S (S++[SO.dH [(U.int 0,U.str [])]]):=Ext.app _;have g0:(S++[SO.dH [(U.int 0,U.str [])]])[S.length]?=some (.dH (tD [(0,[])])):=by simp;rfl
 have I0:Dz go told.length 0 [] [(0,[])]:=#[λp m=>by rw[aZ.mp m];exact#[h0,ak _],by simp,by simp,λ_ _ _ z=>absurd z (d6 _),λc j m=>by cases m]
 have ml:S.length<=S.length:=ak _;generalize hM:S.length=m at g0 ml;generalize S++[SO.dH [(U.int 0,U.str [])]]=S0 at x0 g0;room;let#[k,R,hT,_]:=(h.ext x0).o;rw[hT]
 refine#[#[rfl,rfl],ca h1 #[T,k,R,told,rfl,hT,∅,?_]];refine#[by show(told.length:Int)<=1000000;omega,by show(-1000000:Int)<=(told.length:Int);omega,?_];show vA _ _ _ (eS (λk=>U.int ((k:Nat):Int)) (bO told.length)) _ _;rwa[dS (λi env S1=>∃ps x2 x3 x4,env=[some (.loc T),some (.loc m),x2,x3,x4]/\Ext S S1/\S1[m]?=some (.dH (tD ps))/\Dz go told.length i [] ps) (λ_ _ _ _=>trivial) _ ?_ ?_ #[[(0,[])],none,none,none,rfl,x0,g0,I0]]
 .rintro i u env S1 K hu ⟨ps,x2,x3,x4,rfl,x1,g1,I⟩ hK
  let#[rfl,hi]:=lN hu;show Rest Γ YN _ [some (.loc T),some (.loc m),some (aM i),x3,x4] S1;unfold YN;rwa[Rest.go ?_];rw[o9,N2,N1,w_lit,v_s]
  have sit:∀(i:Nat)(u:U),(SG.map λc=>U.str [c])[i]?=some u->∃c,SG[i]?=some c/\u=.str [c]:=λi u hu=>by
   let#[c,hc,rfl]:=fD hu;exact#[c,hc,rfl]
  have sl:(SG.map λc=>U.str [c]).length=SG.length:=af _;generalize hM:(SG.map λc=>U.str [c])=M at sit sl;rwa[dS (λj env S2=>∃ps x3 x4,env=[some (.loc T),some (.loc m),some (aM i),x3,x4]/\Ext S S2/\S2[m]?=some (.dH (tD ps))/\Dz go told.length i (SG.take j) ps) (λ_ _ _ _=>trivial) M ?_ ?_ #[ps,x3,x4,rfl,x1,g1,by rw[List.take_zero];erw[I]]]
  .rintro j u env S2 K' hu ⟨ps,x3,x4,rfl,x2,g2,I2⟩ hK'
   let#[c,hc,rfl]:=sit j u hu;rwa[Ws Γ h2 h rc x2 ∅ g2 hi I2 (ah hc) λS3 ps' x4 x3 g3 I3=>hK' _ _ #[ps',_,_,rfl,x3,g3,?_]]
   rw[F8 hc];erw[I3]
  .rintro env S2 ⟨ps,x3,x4,rfl,x2,g2,I2⟩
   rw[sl,bS] at I2;room;erw[hK _ _ #[ps,_,_,_,rfl,x2,g2,I2.b,I2.nd,I2.z,λi' c j hi' cm e=>(je.mp hi').elim (λl=>I2.r i' c j l cm e) λz=>I2.g c j cm (z▸e),λc j z=>by cases z]]
 .rintro env S1 ⟨ps,x2,x3,x4,rfl,x1,g1,I⟩
  room;rw[af,cU] at I;erw[q m ps S1 x1 g1 λj hj=>I.low rc (b7 hj) hj]
def Ow:Spec:=λus S Q _=>∃(T m k:Nat)(told:List (Option Nat))(ls:List Nat)(go:Nat->Nat->Option Nat)(ps:List (Nat×List Nat)),us=[.loc T,.loc m,aM k]/\G6 S T told ls go/\S[m]?=some (.dH (tD ps))/\(∀j,j<told.length->j∈ps.map (·.1))/\(some k∉told->Q .bQ S)/\(some k∈told->∀w,Q (.str w) S)
theorem mE(k:Nat)(o:Option Nat):rG (uN o) (aM k)=decide (o=some k):=by
 cases o with
 |none=>rfl
 |some a=>
  show((a:Int)== (k:Int))=_
  rw[cJ,beq_iff_eq,decide_eq_true_iff,iY]
  erw[Int.ofNat_inj]
theorem Kj(k:Nat)(told:List (Option Nat)):((told.map uN).any λy=>rG y (aM k))=decide (some k∈told):=by
 rw[cJ,og,decide_eq_true_iff]
 constructor
 .rintro⟨u,m,e⟩
  let#[o,mo,rfl]:=bq.mp m;rw[mE,decide_eq_true_iff] at e;erw[e▸mo]
 .intro m
  exact#[aM k,bq.mpr #[_,m,rfl],by rw[show aM k=uN (some k) from rfl];show rG (uN (some k)) (aM k)=true;rw[mE];simp]
theorem Kk{k:Nat}{told:List (Option Nat)}(z:some k∈told):∃j,j<told.length/\(told.map uN)[j]?=some (aM k)/\rG (aM k) (aM k)=true/\∀(i:Nat)(z':U),i<j->(told.map uN)[i]?=some z'->rG z' (aM k)=false:=by
 have hl:=bP z;refine#[told.idxOf (some k),hl,by rw[aw,aa hl,eP hl];rfl,?_,λi z' hi e=>?_]
 .have:=mE k (some k)
  rw[show uN (some k)=aM k from rfl] at this;rw[this];simp
 .let#[o,eo,rfl]:=fD e
  rw[mE,decide_eq_false_iff_not]
  rintro rfl;have hi':=(ab.mp eo).1;have:=BR (p:=(·==some k)) (xs:=told) (i:=i) hi;rw[(ab.mp eo).2] at this;simp at this
theorem yo(told:List (Option Nat)):(told.map uN).all flat=true:=by
 rw[bI]
 rintro u m;let#[o,_,rfl]:=bq.mp m;cases o<;>rfl
theorem R8(Γ:cf):Keeps Γ rR 0 Ow:=by
 rintro us S Q E ⟨T,m,k,told,ls,go,ps,rfl,h,g,hp,q1,q2⟩;let#[k',R,hT,_]:=h.o;unfold rR;room;rw[Kc hT]
 room;refine#[#[rfl,yo told],?_];rw[Kj]
 by_cases z:some k∈told
 .rw[decide_eq_true z]
  dsimp[bC,ao,if_false];room;rw[Kc hT]
  room;let#[j,jl,e1,e2,e3]:=Kk z;let#[w,lw,_]:=uU (hp j jl);refine#[#[rfl,yo told],j,_,e1,e2,e3,?_];rw[g,hW,show U.int (j:Nat)=aM j from rfl,ES,lw]
  exact#[rfl,q2 z w]
 .rw[decide_eq_false z]
  dsimp[bL,if_true];room;erw[q1 z]
theorem R9(e:fst told go w=some k):some k∈told:=by
 unfold fst at e;let#[j,_,e]:=ay.mp e;rw[aE] at e;cases z:told[j]? with
 |none=>rw[z] at e;cases e
 |some o=>rw[z] at e;erw[ah (z.trans (congrArg some e))]
def Sa(ts:List Tr)(k:Nat):Prop:=∀w,(∀c∈w,c∈SG)->¬Ny ts w (some k)
def Wu:Spec:=λus S Q _=>∃n xs ts,us=[.loc n]/\S[n]?=some (.lst (xs.map .str))/\Rn ts xs/\v7 ts/\eD ts<=10/\(∀t∈ts,∀l∈m8 t,∀c∈l,c∈SG)/\∀vs m S',Ext S S'->S'[m]?=some (.lst vs)->vs.length=ts.length->(∀(k:Nat),vs[k]?=some .bQ->Sa ts k)->(∀v∈vs,v=.bQ\/∃w,v=.str w)->Q (.loc m) S'
theorem Wv(Γ:cf)(h1:Γ "table_of"=R7)(h2:Γ "first_texts"=NF)(h3:Γ "sample"=Ow):Keeps Γ pR 2 Wu:=by
 rintro us S Q E ⟨n,xs,ts,rfl,gn,hR,hT,hs,hS,q⟩;have tl:=hT.len;unfold pR;room;rwa[ca h1 #[n,xs,ts,rfl,gn,hR,hT,hs,λT told ls go S1 tb t0 tells x1 _ rc=>?_]];room;rwa[ca h2 #[T,told,ls,go,rfl,tb,t0,rc hS,λm ps S2 x2 g2 hp=>?_]];unfold pSs;room;have gn2:=(x1.trans x2).get gn;rw[mZ gn2,bp,af]
 have xl:=hR.1;refine#[∅,?_];refine#[∅,∅,?_];have tb2:=tb.ext x2;refine fj _ (λi acc S3=>S3=S2/\acc.length=i/\(∀(k:Nat),acc[k]?=some .bQ->Sa ts k)/\∀v∈acc,v=.bQ\/∃w,v=U.str w) (λi acc S3 hi h9=>#[trivial,by rw[h9.2.1];rw[af,cU] at hi;omega]) (λi u acc S3 k hu hi hk=>?_) (λacc S3 h=>?_) #[rfl,rfl,λk e=>(by cases e),λv m=>(by cases m)]
 .let#[rfl,al,a1,a2]:=hi
  let#[rfl,il]:=lN hu;have push:∀v:U,(v=.bQ->Sa ts i)->(v=.bQ\/∃w,v=U.str w)->k (acc++[v]) S3:=λv n1 n2=>hk _ _ #[rfl,by rw[ar,al];rfl,λk' e=>(uT e).elim (a1 k') λz=>by let#[rfl,z]:=z;rw[al];erw[n1 z],λv' m=>(aG.mp m).elim (a2 v') λz=>by rw[aZ.mp z];erw[n2]]
  rw[if_pos rfl]
  erw[ca h3 #[T,m,i,told,ls,go,ps,rfl,tb2,g2,hp,λz=>push _ (λ_ w hw f=>z (R9 (Nz (tells w hw) f))) (.inl rfl),λz w=>push _ (λe=>by cases e) (.inr #[w,rfl])]]
 .let#[rfl,al,a1,a2]:=h
  rw[af,cU] at al;erw[q acc _ _ ((x1.trans x2).trans (Ext.app _)) (by simp) ∅ a1 a2]
def NG:Spec:=λus S Q _=>∃n xs ts,us=[.loc n]/\S[n]?=some (.lst (xs.map .str))/\Rn ts xs/\v7 ts/\eD ts<=10/\(∀t∈ts,∀l∈m8 t,∀c∈l,c∈SG)/\∀(ks:List Nat)m S',Ext S S'->S'[m]?=some (.lst (ks.map aM))->(∀k∈ks,Sa ts k)->Q (.loc m) S'
theorem Ww(Γ:cf)(h1:Γ "samples"=Wu):Keeps Γ rQ 0 NG:=by
 rintro us S Q E ⟨n,xs,ts,rfl,gn,hR,hT,hs,hS,q⟩;have tl:=hT.len;unfold rQ;room;rwa[ca h1 #[n,xs,ts,rfl,gn,hR,hT,hs,hS,λvs m S1 x1 g1 vl v1 v2=>?_]];room;rw[g1,aC]
 rwa[fj _ (λi acc S3=>S3=S1/\∃ks:List Nat,acc=ks.map aM/\acc.length<=i/\∀k∈ks,Sa ts k) (λi acc S3 hi h9=>?_) (λi u acc S3 k hu hi hk=>?_) (λacc S3 h=>?_) #[rfl,[],rfl,ak _,λv m=>(by cases m)]]
 .let#[rfl,ks,e,l,_]:=h9
  rw[ji] at hi;exact#[g1,∅]
 .let#[rfl,ks,rfl,l,inv]:=hi
  rw[dM] at hu;let#[v,ev,rfl]:=aq.mp hu;show if mW v=true then _ else _
  by_cases z:mW v=true
  .have:v=.bQ:=by
    cases v<;>first|rfl|cases z
   subst this;rw[if_pos z]
   rwa[hk _ _ #[rfl,ks++[i],by rw[aD];rfl,by rw[ar];erw[kF l],λk' m=>?_]];rcases aG.mp m with m|m
   .erw[inv k' m]
   .rw[aZ.mp m];erw[v1 i ev]
  .rw[if_neg z]
   erw[hk _ _ #[rfl,ks,rfl,jP l,inv]]
 .let#[rfl,ks,rfl,_,inv]:=h
  erw[q ks _ _ (x1.trans (Ext.app _)) (by simp) inv]
structure Kl(ts ts':List Tr)(K:List Nat):Prop where
 p:K.Pairwise (· < ·)
 l:ts'.length=K.length
 r:∀(m k:Nat),K[m]?=some k->∃t t',ts[k]?=some t/\ts'[m]?=some t'/\∀w,En t (hs t w)↔En t' (hs t' w)
 a:∀k,k<ts.length->k∈K\/Sa ts k
section
variable{ts ts':List Tr}{K:List Nat}{w:List Nat}
theorem Kl.nn(h:Kl ts ts' K)(e:K[m]?=some k):Nn ts' w j m↔Nn ts w j k:=by
 let#[t,t',e1,e2,e3]:=h.r m k e;constructor
 .intro n x ex
  rw[e1] at ex;cases ex;erw[λz=>n t' e2 ((e3 _).mp z)]
 .intro n x ex
  rw[e2] at ex;cases ex;erw[λz=>n t e1 ((e3 _).mpr z)]
theorem Kl.no(h:Kl ts ts' K)(q:∀k,Nn ts w j k):Nn ts' w j m:=by
 by_cases z:m<K.length
 .exact(h.nn (aa z)).mpr (q _)
 .intro x ex
  rw[cH (by rw[h.l];erw[fP z])] at ex;cases ex
theorem Kl.up(h:Kl ts ts' K){m m' k k':Nat}(e:K[m]?=some k)(e':K[m']?=some k')(l:m'<m):k'<k:=by
 let#[h1,rfl]:=ab.mp e;let#[h2,rfl]:=ab.mp e';erw[List.pairwise_iff_getElem.mp h.p m' m h2 h1 l]
theorem Kl.bst(h:Kl ts ts' K)(hw:∀c∈w,c∈SG){n:Nat}{f f':Option (Nat×Nat)}(b:Ad ts w n f)(b':Ad ts' w n f'):(f=none/\f'=none)\/∃i j m,f=some (i,j)/\f'=some (m,j)/\K[m]?=some i:=by
 cases f with
 |none=>erw[.inl #[rfl,EB b' (show Ad ts' w n none from λj m h1 h2=>h.no λk=>b j k h1 h2)]]
 |some p=>
  let#[i,j]:=p;let#[b1,b2,b3,b4]:=b;have⟨t,et,ent⟩:∃t,ts[i]?=some t/\En t (hs t (w.take j)):=Classical.byContradiction λz=>b2 λt et ent=>z #[t,et,ent]
  have hm:=(h.a i (aW et)).resolve_right λz=>z (w.take j) (λc m=>hw c (List.mem_of_mem_take m)) #[#[t,et,ent],λi' t' l e=>b3 i' l t' e]
  let#[m,em]:=cB hm;rwa[.inr #[i,j,m,rfl,EB b' (show Ad ts' w n (some (m,j)) from #[b1,λz=>b2 ((h.nn em).mp z),λm' l=>?_,λj' m' l l'=>h.no λk=>b4 j' k l l']),em]];by_cases z:m'<K.length
  .have e':=aa z
   exact(h.nn e').mpr (b3 _ (h.up em e' l))
  .intro x ex
   rw[cH (by rw[h.l];erw[fP z])] at ex;cases ex
end
structure RuK(S:bF)(L:Nat)(us:List Tr):Prop where
 g:S[L]?=some (.lst (us.map enc))
 t:v7 us
 v:∀t∈us,ng t
 z:eD us<=10
 s:∀t∈us,size t<=4
theorem Wx:∀l∈CL,∀c∈l,c∈SG:=by decide +kernel
theorem Wy{us:List Tr}(v:∀t∈us,ng t):∀t∈us,∀l∈m8 t,∀c∈l,c∈SG:=λt m l ml=>Wx l (v t m l ml)
theorem DA:∀(l:List Tr)(b:Nat),(∀t∈l,size t<=b)->eD l<=b*l.length
 |[],b,_=>bX _
 |t::l,b,h=>by
  have h1:=h t (by simp);have h2:=DA l b λx m=>h x (aA _ m)
  unfold eD at h2 ⊢;rw[au,z9,aU,Nat.mul_succ]
  omega
theorem Km(len:l.length<=4)(nl:∀t∈l,null t=false)(dp:∀t∈l,cq t<4)(sz:eD l<=24)(v:∀t∈l,ng t):v7 (qj 1 l)/\(∀t∈qj 1 l,ng t)/\∀b,(∀t∈l,size t<=b)->∀t∈qj 1 l,size t<=b:=by
 let#[e1,e2,e3,e4]:=pW l 1;have el:(qj 1 l).length=l.length:=by have:=congrArg cA e1;simpa using this
 refine#[#[∅,e2,λt m=>?_,λt m=>?_,∅],λt m=>?_,λb hb t m=>?_]
 .let#[t',m',h]:=e4 t m;rw[h.2.1];erw[nl t' m']
 .let#[t',m',h]:=e4 t m;rw[h.1];erw[dp t' m']
 .let#[t',m',h]:=e4 t m
  intro l hl;rw[h.2.2] at hl;erw[v t' m' l hl]
 .let#[t',m',h]:=e4 t m
  rw[<-fg,h.2.2,fg];erw[hb t' m']
def Sb(us:List Tr)(K:List Nat):List Tr:=qj 1 (K.map λk=>us.getD k (.one 0 []))
theorem Wz(hT:v7 us)(v:∀t∈us,ng t)(s:∀t∈us,size t<=4)(p:K.Pairwise (· < ·))(hk:∀k∈K,k<us.length)(a:∀k,k<us.length->k∈K\/Sa us k):v7 (Sb us K)/\Rn (Sb us K) (K.map λk=>wr (us.getD k (.one 0 [])))/\Kl us (Sb us K) K:=by
 have mem:∀t∈K.map (λk=>us.getD k (.one 0 [])),t∈us:=λt m=>by
  let#[k,mk,rfl]:=bq.mp m;rw[aE,aa (hk k mk)]
  erw[bT _]
 have kl:K.length<=us.length:=by
  have:=zH (l:=K) (l':=bO us.length) (p.imp λh=>aY h) λx hx=>iz.mpr (hk x hx)
  simpa using this
 have tl:=hT.len;let#[T1,T2,_]:=Km (l:=K.map λk=>us.getD k (.one 0 [])) (by rw[af];omega) (λt m=>hT.nl t (mem t m)) (λt m=>hT.dp t (mem t m)) (aJ (DA _ 4 λt m=>s t (mem t m)) (by rw[af];omega)) λt m=>v t (mem t m)
 have ln:(Sb us K).length=K.length:=by
  have:=congrArg cA (pW (K.map λk=>us.getD k (.one 0 [])) 1).1;simpa[Sb] using this
 have at_:∀(m:Nat)(t':Tr),(Sb us K)[m]?=some t'->∃k t n',K[m]?=some k/\us[k]?=some t/\us.getD k (.one 0 [])=t/\t'=num n' t:=λm t' e=>by
  let#[t,n',e1,e2]:=ER _ _ _ _ e;let#[k,ek,rfl]:=fD e1;have:=hk k (ah ek);have eu:=aa this;refine#[k,us[k],n',ek,eu,by rw[aE,eu];rfl,?_];rw[e2,aE,eu];rfl
 refine#[T1,#[by rw[af,ln],λm t' x e1 e2=>?_],p,ln,λm k ek=>?_,a]
 .let#[k,t,n',ek,eu,ed,rfl]:=at_ m t' e1
  rw[aw,ek] at e2;cases e2;have mt:=ah eu;show(wr (us.getD k (.one 0 []))).length<=1000/\∃r,tZ (wr (us.getD k (.one 0 [])))=_;rw[ed]
  exact#[by have:=(kD (v t mt) (hT.dp t mt)).2.2;omega,[],by rw[(qP t n').1];erw[EG (v t mt) (hT.dp t mt)]]
 .have lt:=aW ek
  rw[<-ln] at lt;have e1:=aa lt;let#[k',t,n',ek',eu,_,et]:=at_ m _ e1;rw[ek] at ek';cases ek';refine#[t,_,eu,e1,λw=>?_];have p1:=uL hT.pl eu;have p2:=uL T1.pl e1;erw[Wo p1 ∅ p2 ∅ (by rw[et,zR])]
theorem Kn(hT:v7 ts)(hV:∀t∈ts,ng t):Rn ts (ts.map wr):=by
 refine#[by rw[af],λj t y e e'=>?_];rw[aw,e] at e';cases e';have m:=ah e;exact#[by have:=(kD (hV t m) (hT.dp t m)).2.2;omega,[],EG (hV t m) (hT.dp t m)]
section
variable{Γ:cf}{S:bF}{k:KU}{E:KX}
theorem Sd(h4:Γ "written"=B5 (λt=>cq t<=3\/(wZ t/\cq t<=3+1)) wr)(R:RuK S L us)(q:∀n S',Ext S S'->S'[n]?=some (.lst ((us.map wr).map .str))->k (.loc n) S'):WE Γ YQ (y0::some (.loc L)::ys) S k E:=by
 have tl:=R.t.len;unfold YQ;room;rw[R.g,aC]
 rwa[fj (us.map enc) (λi acc S3=>Ext S S3/\acc=((us.take i).map wr).map .str) (λi acc S3 hi h9=>#[h9.1.get R.g,by rw[h9.2,af,af,dC];omega]) (λi u acc S3 k hu hi hk=>?_) (λacc S3 h=>?_) #[.refl,rfl]]
 .let#[x3,rfl]:=hi
  let#[t,et,rfl]:=fD hu;have mt:=ah et;have d4:=R.t.dp t mt;rwa[ca h4 #[t,rfl,.inl ∅,R.v t mt,d4,λS4 x4=>hk _ _ #[x3.trans x4,?_]]];rw[gS,et,aD,aD];rfl
 .let#[x3,rfl]:=h
  rw[af,bS]
  erw[q _ _ (x3.trans (Ext.app _)) (by simp)]
theorem Ko:jD .md (.int i) (.loc n) S q=getL S[n]? λus=>qH (.int i) us λb=>q !b:=rfl
theorem EV(a:Nat)(ks:List Nat):(flat (aM a)=true/\(ks.map aM).all flat=true)/\((ks.map aM).any λy=>rG y (aM a))=decide (a∈ks):=by
 refine#[#[rfl,?_],?_]
 .rw[bI]
  rintro u m;let#[o,_,rfl]:=bq.mp m
  rfl
 .rw[cJ,og,decide_eq_true_iff]
  constructor
  .rintro⟨u,m,e⟩
   let#[o,mo,rfl]:=bq.mp m;have e:=mE a (some o)▸(show rG (uN (some o)) (aM a)=true from e);rw[decide_eq_true_iff,iY] at e;erw[e▸mo]
  .intro m
   refine#[aM a,bq.mpr #[_,m,rfl],?_];rw[show rG (aM a) (aM a)=rG (uN (some a)) (aM a) from rfl,mE];simp
noncomputable def Gm(n:Nat)(ks:List Nat):List Nat:=(bO n).filter λk=>!decide (k∈ks)
theorem Se{L n G:Nat}{xs:List (List Nat)}{ks:List Nat}{y0:Option U}{ys:Env}(gn:S[n]?=some (.lst (xs.map .str)))(gG:S[G]?=some (.lst (ks.map aM)))(xl:xs.length<=4)(q:∀m S',Ext S S'->S'[m]?=some (.lst ((Gm xs.length ks).map aM))->k (.loc m) S'):WE Γ YR (y0::some (.loc L)::some (.loc n)::some (.loc G)::ys) S k E:=by
 unfold YR;room;rw[mZ gn,bp,af]
 refine#[∅,∅,∅,?_];rwa[fj _ (λi acc S3=>S3=S/\acc=(Gm i ks).map aM) (λi acc S3 hi h9=>#[trivial,?_]) (λi u acc S3 k hu hi hk=>?_) (λacc S3 h=>?_) #[rfl,rfl]]
 .rw[h9.2,af]
  rw[af,cU] at hi;have:=pA (λk=>!decide (k∈ks)) (bO i);rw[cU] at this;erw[jo (aJ this hi) ∅]
 .let#[rfl,rfl]:=hi
  let#[rfl,_]:=lN hu;rw[Ko,gG,aC]
  let#[a1,a2]:=EV i ks;refine#[a1,?_];rw[show U.int (i:Nat)=aM i from rfl,a2]
  show if (!decide (i∈ks))=true then k ((Gm i ks).map aM++[aM i]) S3 else k ((Gm i ks).map aM) S3
  have e:Gm (i+1) ks=Gm i ks++if (!decide (i∈ks))=true then [i] else []:=by
   unfold Gm;rw[K6,sC]
   congr 1
   rw[uw];rfl
  by_cases z:(!decide (i∈ks))=true
  .rw[if_pos z] at e ⊢
   erw[hk _ _ #[rfl,by rw[e,aD];rfl]]
  .rw[if_neg z] at e ⊢
   erw[hk _ _ #[rfl,by rw[e,bU]]]
 .let#[rfl,rfl]:=h
  rw[af,cU]
  erw[q _ _ (Ext.app _) (by simp)]
theorem Sf{L n G A:Nat}{us:List Tr}{K:List Nat}{y0:Option U}{ys:Env}(gn:S[n]?=some (.lst ((us.map wr).map .str)))(gA:S[A]?=some (.lst (K.map aM)))(kl:K.length<=4)(hk:∀k∈K,k<us.length)(q:∀m S',Ext S S'->S.length<=m->S'[m]?=some (.lst ((K.map λk=>wr (us.getD k (.one 0 []))).map .str))->k (.loc m) S'):WE Γ YS (y0::some (.loc L)::some (.loc n)::some (.loc G)::some (.loc A)::ys) S k E:=by
 unfold YS;room;rw[gA,aC]
 rwa[fj (K.map aM) (λi acc S3=>S3=S/\acc=((K.take i).map λk=>wr (us.getD k (.one 0 []))).map .str) (λi acc S3 hi h9=>#[h9.1▸gA,?_]) (λi u acc S3 k hu hi hk'=>?_) (λacc S3 h=>?_) #[rfl,rfl]]
 .rw[h9.2,af,af,dC];omega
 .let#[rfl,rfl]:=hi
  let#[a,ea,rfl]:=fD hu;have al:=hk a (ah ea);have eu:=aa al;rw[if_pos rfl]
  room;rw[gn,aC]
  rwa[at_of (l:=us.map wr) (j:=a) (f:=U.str) (a:=wr us[a]) (by rw[aw,eu];rfl) ?_];rwa[hk' _ _ #[rfl,?_]];rw[F8 ea,aD,aD]
  show _=_++[U.str (wr (us.getD a (.one 0 [])))]
  rw[aE,eu];rfl
 .let#[rfl,rfl]:=h
  rw[af,bS]
  erw[q _ _ (Ext.app _) (ak _) (by simp)]
end
theorem Sg(Γ:cf)(gA:S[A]?=some (.lst (K.map aM)))(kp:Kl us us' K)(h:(f=none/\f'=none)\/∃i j m,f=some (i,j)/\f'=some (m,j)/\K[m]?=some i)(q:F.nx [y0,y1,y2,y3,some (.loc A),y5,y6,y7,y8,some (uR f),some (uR f')] S):
  Rest Γ YV F [y0,y1,y2,y3,some (.loc A),y5,y6,y7,y8,some (uR f),some (uR f')] S:=by
 unfold YV;rcases h with⟨rfl,rfl⟩|⟨i,j,m,rfl,rfl,em⟩
 .have i0:mW (uR none)=true:=rfl
  room;refine#[rfl,?_];rw[Ux,i0]
  rwa[Rest.go ?_];rw[xS]
  unfold YU;room;unfold YT;room;erw[q]
 .have i0:mW (uR (some (i,j)))=false:=rfl
  have u0:uR (some (i,j))= .tup [.int (i:Nat),.int (j:Nat)]:=rfl;have u1:uR (some (m,j))= .tup [.int (m:Nat),.int (j:Nat)]:=rfl;rw[u0,u1] at q ⊢;room;refine#[rfl,?_];rw[Ux]
  dsimp[show mW (.tup [.int (i:Nat),.int (j:Nat)])=false from rfl,show mW (.tup [.int (m:Nat),.int (j:Nat)])=false from rfl,beq_self_eq_true,bC,ao,if_false];unfold YU;room;dsimp[show mW (.tup [.int (i:Nat),.int (j:Nat)])=false from rfl,bL,if_true];refine#[by simp,?_];rw[show qp [U.int (i:Nat),U.int (j:Nat)] 0=some (.int (i:Nat)) from rfl,bp,Ko,gA,aC]
  let#[a1,a2]:=EV i K;refine#[a1,?_];rw[show U.int (i:Nat)=aM i from rfl,a2,decide_eq_true (ah em)]
  rwa[Rest.go ?_];rw[xS]
  unfold YT;room;rw[if_pos (show(!mW (U.tup [aM i,U.int (j:Nat)]))=true from rfl),gA,aC]
  refine#[trivial,by simp,?_];rw[show qp [aM i,U.int (j:Nat)] 0=some (aM i) from rfl,bp,aC]
  refine#[a1,m,aM i,by rw[aw,em];rfl,?_,λi' z' l e=>?_,by simp,?_]
  .have:=mE i (some i)
   rw[show uN (some i)=aM i from rfl] at this;rw[this];simp
  .let#[o,eo,rfl]:=fD e
   have:=mE i (some o);rw[show uN (some o)=aM o from rfl] at this;rw[this,decide_eq_false_iff_not]
   intro z;injection z with z
   erw[absurd (kp.up em eo l) ∅]
  .rw[show qp [aM i,U.int (j:Nat)] 1=some (.int (j:Nat)) from rfl,bp]
   refine#[by simp,rfl,?_];have e9:rG (.tup [.int (m:Nat),.int (j:Nat)]) (.tup [.int (m:Nat),.int (j:Nat)])=true:=by
    show((m:Int)== m&&((j:Int)== j&&true))=true
    rw[beq_self_eq_true,beq_self_eq_true];rfl
   have d9:dep (.tup [.int (m:Nat),.int (j:Nat)])<=100:=show 1<=100 by decide
   rw[ew rfl rfl rfl d9 e9]
   rwa[Rest.go ?_];rw[xS]
   rwa[Rest.go ?_];rw[xS]
   erw[q]
theorem kl_turn(Γ:cf)(h1:Γ "Lexer.token"=Dt)(gA:S[A]?=some (.lst (K.map aM)))(lx:Rm S X us)(ly:Rm S Y us')(kp:Kl us us' K)(hx:∀c∈x,c∈SG)(xl:x.length<=12)
  (q:∀y9 y10 S',Ext S S'->F.nx [y0,y1,y2,y3,some (.loc A),some (.loc X),some (.loc Y),some (.str x),some (aM a),y9,y10] S'):
  Rest Γ YW F [y0,y1,y2,y3,some (.loc A),some (.loc X),some (.loc Y),some (.str x),some (aM a),y9,y10] S:=by
 unfold YW;let#[P,_,gX,_]:=lx.o;unfold Zz at gX;room;rw[gX]
 refine#[#[rfl,rfl],ca h1 #[X,x,a,us,rfl,lx,hx,∅,λf S1 b1 x1=>?_]];have ly1:=ly.ext x1;let#[P',_,gY,_]:=ly1.o;unfold Zz at gY;room;rw[gY]
 refine#[#[rfl,rfl],ca h1 #[Y,x,a,us',rfl,ly1,hx,∅,λf' S2 b2 x2=>?_]];have x12:=x1.trans x2;erw[Sg Γ (x12.get gA) kp (kp.bst (λc m=>hx c (DK m)) b1 b2) (q _ _ _ x12)]
theorem EW(Γ:cf)(h1:Γ "_law_mix"=tW.t4)(h3:Γ "_law_text"=Nm)(h4:Γ "written"=B5 (λt=>cq t<=3\/(wZ t/\cq t<=3+1)) wr)(h5:Γ "unused"=NG)(h6:Γ "Lexer.__init__"=JN)(h7:Γ "Lexer.token"=Dt)(hl:ns.length<=63)(R:RuK S L us)(q:∀S',F.rt (.bl true) S'):
  Rest Γ YX F [some (.sF ns),some (.loc L),none,none,none,none,none,none,none,none,none] S:=by
 have tl:=R.t.len;unfold YX;rwa[Rest.go ?_];rw[o9,A7]
 rwa[Sd h4 R λn S1 x1 g1=>?_]
 rwa[Rest.go ?_];rw[o9,A7]
 dsimp[eQ,eR];room;rw[g1,aC]
 have y2:Ext S1 (S1++[SO.lst ((us.map wr).map U.str)]):=Ext.app _;rwa[ca h5 #[S1.length,us.map wr,us,rfl,cj,Kn R.t R.v,R.t,R.z,Wy R.v,λks G S2 x2 g2 bQ=>?_]];have g12:=(y2.trans x2).get g1;generalize S2=S2 at x2 g2 g12;rwa[Rest.go ?_];rw[o9,A7]
 rwa[Se g12 g2 (by rw[af];erw[tl]) λA S3 x3 g3=>?_]
 rw[af] at g3;have g13:=x3.get g12;have kp:(Gm us.length ks).Pairwise (· < ·):=List.Pairwise.filter _ List.pairwise_lt_range;have km:∀k,k∈Gm us.length ks↔k<us.length/\k∉ks:=λk=>by unfold Gm;rw[dX,iz];simp
 let#[T1,R1,K1]:=Wz R.t R.v R.s kp (λk m=>((km k).mp m).1) λk hk=>(Classical.em (k∈ks)).elim (λz=>.inr (bQ k z)) λz=>.inl ((km k).mpr #[hk,z])
 have kl:(Gm us.length ks).length<=4:=by rw[<-K1.l];erw[T1.len]
 have kb:∀k∈Gm us.length ks,k<us.length:=λk m=>((km k).mp m).1
 generalize Gm us.length ks=K at g3 T1 R1 K1 kl kb;generalize Sb us K=us' at T1 R1 K1;dsimp[eQ,eR];room;rwa[ca h6 #[S3.length,n,us.map wr,us,rfl,cj,(Ext.app _).get g13,Kn R.t R.v,R.t,λS4 lx o4=>#[rfl,?_]]];have x4:Ext S3 S4:=uS o4;have g14:=x4.get g13;have g4:=x4.get g3;generalize S3.length=X at lx;rwa[Rest.go ?_];rw[o9,A7,w_mk,PV]
 rwa[Sf g14 g4 kl kb λB S5 x5 _ g5=>?_]
 rw[UD]
 rwa[ca h6 #[S5.length,B,_,us',rfl,cj,(Ext.app _).get g5,R1,T1,λS6 ly o6=>#[rfl,?_]]];have x6:Ext S5 S6:=uS o6;have lx6:=lx.ext (x5.trans x6);have g6:=x6.get (x5.get g4);generalize S5.length=Y at ly;dsimp[eQ,eR];room;rwa[ca h1 #[ns,_,rfl,∅,λm m0 m1=>#[∅,?_]]];rwa[ca h3 #[ns,_,_,rfl,∅,∅,∅,λx S7 hx xl x7=>?_]];room;refine#[∅,∅,∅,?_];rwa[dS (λi env S8=>∃y8 y9 y10,env=[some (.sF ns),some (.loc L),some (.loc n),some (.loc G),some (.loc A),some (.loc X),some (.loc Y),some (.str x),y8,y9,y10]/\Ext S7 S8) (λ_ _ _ _=>trivial) _ ?_ ?_ #[none,none,none,rfl,.refl]]
 .rintro i u env S8 K8 hu ⟨y8,y9,y10,rfl,x8⟩ hK
  let#[rfl,_]:=lN hu;erw[kl_turn Γ h7 ((x7.trans x8).get g6) (lx6.ext (x7.trans x8)) (ly.ext (x7.trans x8)) K1 hx xl λy9 y10 S9 x9=>hK _ _ #[_,y9,y10,rfl,x8.trans x9]]
 .rintro env S8 ⟨y8,y9,y10,rfl,x8⟩
  room;erw[q _]
theorem Sh(h1:Γ "_law_mix"=tW.t4)(hl:ns.length<=63)(g:S[n]?=some (.lst (ts.map enc)))(l0:0<ts.length)(l3:ts.length<=3)(q:∀x L S',(x=ts.getD 0 (.one 0 [])\/x=.or (ts.getD 0 (.one 0 [])) (ts.getD (ts.length-1) (.one 0 [])))->Ext S S'->S'[L]?=some (.lst ((ts++[x]).map enc))->k (.loc L) S'):WE Γ YO (some (.sF ns)::some (.loc n)::ys) S k E:=by
 have e0:qp (ts.map enc) 0=some (enc (ts.getD 0 (.one 0 []))):=by
  rw[show(0:Int)=((0:Nat):Int) from rfl,ju,aw,aE,aa l0];rfl
 unfold YO;room;have e1:qp (ts.map enc) (-1)=some (enc (ts.getD (ts.length-1) (.one 0 []))):=by
  have z:LY (ts.map enc).length (-1)=some (ts.length-1):=by
   unfold LY;rw[af,if_neg ⋯,if_pos ∅]
   congr 1;omega
  unfold qp;rw[z,GK,aw,aE,aa ∅];rfl
 rw[g,aC,e0,bp,aC,e0,bp,aC,e1,bp]
 generalize ts.getD 0 (.one 0 [])=a at q;generalize ts.getD (ts.length-1) (.one 0 [])=b at q;refine#[by simp,by simp,by simp,ca h1 #[ns,_,rfl,∅,λm m0 m1=>#[∅,?_]]];show getL (S++[SO.lst [enc a,U.tup [U.str [111,114],U.tup [enc a,enc b]]]])[S.length]? _;rw[cj,aC]
 rwa[qM (jh _ ∅) (by simp;erw[gy _ ∅]) λu hu=>#[by simp,?_]]
 rw[((Ext.app _).trans (Ext.app _)).get g,cj,aC,aC]
 refine#[by rw[af];show _+1<=_;omega,?_];obtain⟨x,hx,rfl⟩:∃x,(x=a\/x=.or a b)/\u=enc x:=by
  rcases aN.mp hu with rfl|hu
  .exact#[a,.inl rfl,rfl]
  .rw[aZ.mp hu];exact#[.or a b,.inr rfl,rfl]
 erw[q x _ _ hx (((Ext.app _).trans (Ext.app _)).trans (Ext.app _)) (by rw[cj,aD];rfl)]
theorem Kq(Γ:cf)(h1:Γ "_law_mix"=tW.t4)(h2:Γ "_law_trees"=Ry)(h3:Γ "_law_text"=Nm)(h4:Γ "written"=B5 (λt=>cq t<=3\/(wZ t/\cq t<=3+1)) wr)(h5:Γ "unused"=NG)(h6:Γ "Lexer.__init__"=JN)(h7:Γ "Lexer.token"=Dt):Keeps Γ GU.Ec 10 (λus _ Q _=>∃ns:List Int,us=[.sF ns]/\ns.length<=63/\∀S',Q (.bl true) S'):=by
 rintro us S Q E ⟨ns,rfl,hl,q⟩;unfold GU.Ec;room;rwa[ca h1 #[ns,_,rfl,∅,λm m0 m1=>#[∅,?_]]];rwa[ca h2 #[ns,0,_,1,rfl,⋯,∅,∅,∅,λts n S2 hT hV _ hs x1 g2=>?_]];let#[ln,sm]:=hs;have sm:=sm ⋯;have l0:0<ts.length:=∅
 have l3:ts.length<=3:=∅
 room;refine ca h1 #[ns,_,rfl,∅,λm' m0 m1=>#[∅,?_]];have e0:ts.getD 0 (.one 0 [])∈ts:=by
  rw[aE,aa l0];erw[bT _]
 have e1:ts.getD (ts.length-1) (.one 0 [])∈ts:=by
  rw[aE,aa (by omega:ts.length-1<ts.length)];erw[bT _]
 have s6:=DA ts 2 λt m=>(sm t m).1
 show(λb:Bool=>if b=true then _ else _) (decide (0<m'%3))
 by_cases z:0<m'%3
 .dsimp[z,decide_true,if_true]
  rwa[Rest.go ?_];rw[o9,A7]
  rwa[Sh h1 hl g2 l0 l3 λx L S3 hx x3 g3=>?_]
  dsimp[eQ,eR];rwa[Rest.go ?_];rw[xS]
  have px:size x<=4/\cq x<4/\null x=false/\ng x:=by
   generalize ts.getD 0 (.one 0 [])=a at hx e0;generalize ts.getD (ts.length-1) (.one 0 [])=b at hx e1;have a1:=sm a e0;have b1:=sm b e1;rcases hx with rfl|rfl
   .exact#[∅,∅,hT.nl x e0,hV x e0]
   .refine#[by dsimp[size];omega,by dsimp[cq];omega,by dsimp[null,hT.nl a e0,hT.nl b e1];rfl,λl hl=>?_]
    exact(aG.mp hl).elim (hV a e0 l) (hV b e1 l)
  have sx:eD (ts++[x])=eD ts+size x:=by simp[eD]
  have mx:∀{p:Tr->Prop},(∀t∈ts,p t)->p x->∀t∈ts++[x],p t:=λh1 h2 t m=>(aG.mp m).elim (h1 t) λm=>by rw[aZ.mp m];erw[h2]
  let#[T1,T2,T3]:=Km (l:=ts++[x]) (by rw[ar];show _+1<=4;omega) (mx hT.nl px.2.2.1) (mx hT.dp px.2.1) ∅ (mx hV px.2.2.2);erw[EW Γ h1 h3 h4 h5 h6 h7 hl #[by rw[(pW _ 1).1];exact g3,T1,T2,by rw[(pW _ 1).2.2.1];omega,T3 4 (mx (λt m=>by have:=(sm t m).1;omega) px.1)] q]
 .dsimp[z,decide_false,ao,if_false]
  rwa[Rest.go ?_];rw[xS]
  erw[EW Γ h1 h3 h4 h5 h6 h7 hl #[g2,hT,hV,∅,λt m=>by have:=(sm t m).1;omega] q]
end PL.Ab
end
namespace L2
open PySem PySem.Spec PyProof.Rows PySem.W
open PL (U SO bF Xn KU KX cf)
noncomputable def xf:PL.Spec:=λ_ _ _ _=>False
noncomputable def Gn(Γ:cf)(x:String)(sp:PL.Spec):cf:=λy=>if y=x then sp else Γ y
def Role(c:Ctx)(T:Tab)(x:String)(f:Addr):Prop:=
 (x∈T.fns/\c.mg (nm x)=some (.ref f))\/(∃p∈T.qJ,x=p.2++"."++p.1/\∃C,c.cls p.2=some C/\Meth c.K C (nm p.1) f)\/(∃y∈T.qI,x=y++".__init__"/\∃C,c.cls y=some C/\Mk c.K C f)
theorem FnAt.mono(F:FnAt c j f sp)(h:j<=k):FnAt c k f sp:=by
 let#[fd,ps,F,B]:=F;exact#[fd,ps,F.mono h,B]
theorem bw:Gn Γ x sp x=sp:=if_pos rfl
theorem uV(h:y≠x):Gn Γ x sp y=Γ y:=if_neg h
theorem gE.add(G:gE c T Γ k)(h:k<=k')(F:∀f,Role c T x f->FnAt c k' f sp):gE c T (Gn Γ x sp) k':=by
 refine#[λy hy=>?_,λp hp=>?_,λy hy=>?_]
 .let#[f,hm,kp,A]:=G.fns y hy
  refine#[f,hm,kp,?_];by_cases e:y=x
  .subst e;rw[bw];erw[F f (.inl #[hy,hm])]
  .rw[uV e];erw[A.mono h]
 .let#[C,f,hc,hm,A]:=G.SF p hp
  refine#[C,f,hc,hm,?_];by_cases e:p.2++"."++p.1=x
  .rw[e,bw];erw[F f (.inr (.inl #[p,hp,e.symm,C,hc,hm]))]
  .rw[uV e];erw[A.mono h]
 .let#[C,f,hc,hg,hm,A]:=G.cls y hy
  refine#[C,f,hc,hg,hm,?_];by_cases e:y++".__init__"=x
  .rw[e,bw];erw[F f (.inr (.inr #[y,hy,e.symm,C,hc,hm]))]
  .rw[uV e];erw[A.mono h]
theorem NH(hm:c.mg (nm x)=some (.ref f0))(h2:(T.qJ.all λp=>p.2++"."++p.1 !=x)=true)(h3:(T.qI.all λy=>y++".__init__" !=x)=true)(R:Role c T x f):f=f0:=by
 rcases R with⟨_,e⟩|⟨p,hp,e,_⟩|⟨y,hy,e,_⟩
 .rw[hm] at e;cases e;rfl
 .have:=bI.mp h2 p hp
  rw[e] at this;simp at this
 .have:=bI.mp h3 y hy
  rw[e] at this;simp at this
theorem NI(hc:c.cls cl=some C)(hm:Meth c.K C (nm m) f0)(h1:T.fns.contains (cl++"."++m)=false)(h2:(T.qJ.all λp=>p.2++"."++p.1 !=cl++"."++m||(p.1==m&&p.2==cl))=true)(h3:(T.qI.all λy=>y++".__init__" !=cl++"."++m)=true)(R:Role c T (cl++"."++m) f):f=f0:=by
 rcases R with⟨h,_⟩|⟨p,hp,e,C',hc',hm'⟩|⟨y,hy,e,_⟩
 .erw[absurd (gJ.mpr h) (by rw[h1];simp)]
 .have:=bI.mp h2 p hp
  rw[e] at this;simp at this;let#[e1,e2]:=this;rw[e2,hc] at hc';cases hc';rw[e1] at hm';have:=hm.at_.symm.trans hm'.at_;cases this;rfl
 .have:=bI.mp h3 y hy
  rw[e] at this;simp at this
theorem NJ(hc:c.cls cl=some C)(hm:Mk c.K C f0)(h1:T.fns.contains (cl++".__init__")=false)(h2:(T.qJ.all λp=>p.2++"."++p.1 !=cl++".__init__")=true)(h3:(T.qI.all λy=>y++".__init__" !=cl++".__init__"||y==cl)=true)(R:Role c T (cl++".__init__") f):f=f0:=by
 rcases R with⟨h,_⟩|⟨p,hp,e,C',hc',hm'⟩|⟨y,hy,e,C',hc',hm'⟩
 .erw[absurd (gJ.mpr h) (by rw[h1];simp)]
 .have:=bI.mp h2 p hp
  rw[e] at this;simp at this
 .have:=bI.mp h3 y hy
  rw[e] at this;simp at this;rw[this,hc] at hc';cases hc';have:=hm.init.symm.trans hm'.init;cases this;rfl
theorem WA(B:Binds c.K fd ps []):FnAt c k f xf:=
 #[fd,ps,#[λvs H Q E h=>by let#[us,ρ,S0,QU,EU,r,R,w,q,qx]:=h;erw[w.elim],λA outer s H args us vs Q E hr he hb hv hs=>by let#[us,ρ,S0,QU,EU,r,R,w,q,qx]:=hs;erw[w.elim]],B]
structure Df(c:Ctx)(T:Tab)(st:Stmt)(f:Addr)(N ps:List Str)(b:PL.dj)(m:Nat):Prop where
 fn:∃x qual fd,KG c.K x qual st f fd/\Binds c.K fd ps []
 sc:l7 N ps (bN st)
 tx:∃n,KJ T n #[(bN st).names,N,true] (fQ st)=some b
 hm:N.length=ps.length+m
theorem Df.ok{c:Ctx}{T:Tab}{Γ:cf}{st:Stmt}{f:Addr}{N ps:List Str}{b:PL.dj}{m k kx:Nat}{sp:PL.Spec}(D:Df c T st f N ps b m)(B:Base c T kx)(hkx:kx<=k)(G:gE c T Γ k)(hk:PL.Keeps Γ b m sp)(hl:∀us S Q E,sp us S Q E->us.length=ps.length):FnAt c (k+2) f sp:=by
 let#[x,qual,fd,F,Bi]:=D.fn;let#[n,hc]:=D.tx;exact#[fd,ps,N8 F D.sc B hkx G hc hk D.hm hl,Bi]
theorem Df.up{c:Ctx}{T:Tab}{Γ:cf}{st:Stmt}{f:Addr}{N ps:List Str}{b:PL.dj}{m k kx:Nat}{x:String}{sp:PL.Spec}(D:Df c T st f N ps b m)(R:∀g,Role c T x g->g=f)(B:Base c T kx)(hkx:kx<=k)(G:gE c T Γ k)(hk:PL.Keeps Γ b m sp)(hl:∀us S Q E,sp us S Q E->us.length=ps.length):gE c T (Gn Γ x sp) (k+2):=
 G.add ∅ λg r=>by rw[R g r];erw[D.ok B hkx G hk hl]
def fm(Γ Γ':cf)(l:List String):Prop:=∀x,x∉l->Γ' x=Γ x
theorem fm.refl(Γ:cf)(l:List String):fm Γ Γ l:=λ_ _=>rfl
theorem fm.up(h:fm Γ Γ' l)(m:x∈l):fm Γ (Gn Γ' x sp) l:=λy hy=>(uV (λe=>hy (by rw[e];erw[m]))).trans (h y hy)
theorem gE.none(h1:∀x∈T.fns,∃f,c.mg (nm x)=some (.ref f)/\Cd c.K (.ref f)=true/\FnAt c k f xf)(h2:∀p∈T.qJ,∃C f,c.cls p.2=some C/\Meth c.K C (nm p.1) f/\FnAt c k f xf)
  (h3:∀x∈T.qI,∃C f,c.cls x=some C/\c.mg (nm x)=some (.ref C)/\Mk c.K C f/\FnAt c k f xf):gE c T (λ_=>xf) k:=#[h1,h2,h3]
open PL (U SO bF Xn KU KX cf)
def RN:List String:=["in_order","all_but","is_ahead","stretch","read","joined","Reader.__init__","Reader.sees","Reader.passes","Reader.choice","Reader.row","Reader.repeat","Reader.atom","Reader.bracket","Reader.sign_class","Reader.item","Reader.written_sign"]
structure fZ(c:Ctx)(T:Tab)(x:String)(n m:Nat)(b:PL.dj):Prop where
 ex:∃st f N ps,Df c T st f N ps b m/\ps.length=n/\∀g,Role c T x g->g=f
structure GS(c:Ctx)(T:Tab)(kx:Nat)(Γ:cf)(k:Nat):Prop where
 le:kx<=k
 ok:gE c T Γ k
theorem fZ.up(D:fZ c T x n m b)(B:Base c T kx)(G:GS c T kx Γ k)(hk:PL.Keeps Γ b m sp)(hl:∀us S Q E,sp us S Q E->us.length=n):GS c T kx (Gn Γ x sp) (k+2):=by
 let#[st,f,N,ps,D0,e,R]:=D.ex;exact#[Nat.le_add_right_of_le G.le,L2.Df.up D0 R B G.le G.ok hk (λus S Q E h=>(hl us S Q E h).trans e.symm)]
structure Gs(c:Ctx)(T:Tab):Prop where
 QS:fZ c T "in_order" 1 0 PL.nK
 Dk:fZ c T "all_but" 1 0 PL.pK
 ahead:fZ c T "is_ahead" 2 0 PL.nM
 Jo:fZ c T "stretch" 2 0 PL.pM
 read:fZ c T "read" 1 2 PL.zf
 joined:fZ c T "joined" 2 0 PL.rM
 init:fZ c T "Reader.__init__" 2 0 PL.j6
 sees:fZ c T "Reader.sees" 2 0 PL.j7
 passes:fZ c T "Reader.passes" 2 0 PL.iR
 choice:fZ c T "Reader.choice" 1 1 PL.iS
 row:fZ c T "Reader.row" 1 1 PL.kW
 repeat_:fZ c T "Reader.repeat" 1 1 PL.iT
 atom:fZ c T "Reader.atom" 1 0 PL.j8
 bracket:fZ c T "Reader.bracket" 1 1 PL.hX
 cls:fZ c T "Reader.sign_class" 1 2 PL.fG
 item:fZ c T "Reader.item" 1 3 PL.j9
 ws:fZ c T "Reader.written_sign" 2 1 PL.eJ
theorem t8(us:List U)(S:bF)(Q:KU)(E:KX)(h:PL.Ac args p d us S Q E):us.length=args.length+1:=by
 let#[r,x,rest,rfl,_]:=h;rfl
theorem len_T(us:List U)(S:bF)(Q:KU)(E:KX)(h:PL.spT f us S Q E):us.length=1:=by
 let#[l,rfl,_]:=h;rfl
theorem BI(R:Gs c T)(B:Base c T kx)(G:GS c T kx Γ k):∃Γ',GS c T kx Γ' (k+16)/\fm Γ Γ' RN/\PL.GR Γ'/\Γ' "joined"=PL.lL/\Γ' "Reader.__init__"=PL.n9:=by
 have g1:=R.QS.up B G (PL.Bk _) len_T;have g2:=R.Dk.up B g1 (PL.vO _) len_T;have g3:=R.ahead.up B g2 (PL.Bl _) (λus S Q E h=>by let#[a,b,rfl,_]:=h;rfl);have g4:=R.Jo.up B g3 (PL.Dj _) (λus S Q E h=>by let#[a,b,rfl,_]:=h;rfl);have g5:=R.joined.up B g4 (PL.F3 _) (λus S Q E h=>by let#[a,b,t,rfl,_]:=h;rfl);have g6:=R.init.up B g5 (PL.Jx _) (λus S Q E h=>by let#[a,b,rfl,_]:=h;rfl);have g7:=R.sees.up B g6 (PL.MV _) (λus S Q E h=>by let#[a,b,_,_,_,rfl,_]:=h;rfl);have g8:=R.passes.up B g7 (PL.MX _ bw) (λus S Q E h=>by let#[l,d,h]:=h;exact t8 _ _ _ _ h);refine#[_,g8,?_,#[rfl,rfl,rfl,rfl,rfl,rfl],rfl,rfl];refine fm.up (fm.up (fm.up (fm.up (fm.up (fm.up (fm.up (fm.up (fm.refl _ _) ?_) ?_) ?_) ?_) ?_) ?_) ?_) ?_<;>decide
theorem WB(k d:Nat)(h:d+k=6)(hc:∀j,k=j+1->Γ "Reader.choice"=PL.Ac [] (PL.iw (PL.tY j)) (d+1)):PL.Vd Γ (PL.tY k) d:=by
 cases k with
 |zero=>erw[.inl #[rfl,∅]]
 |succ j=>erw[.inr #[_,rfl,∅,PL.tj (j+1),hc j rfl]]
theorem t9(R:Gs c T)(B:Base c T kx)(G:GS c T kx Γ k)(Sm:fm Γ0 Γ RN)(gr:PL.GR Γ)(gj:Γ "joined"=PL.lL)(gi:Γ "Reader.__init__"=PL.n9)(n d:Nat)(hd:d+n=6)
  (hc:∀j,n=j+1->Γ "Reader.choice"=PL.Ac [] (PL.iw (PL.tY j)) (d+1)):
  ∃Γ',GS c T kx Γ' (k+16)/\fm Γ0 Γ' RN/\PL.GR Γ'/\Γ' "joined"=PL.lL/\Γ' "Reader.__init__"=PL.n9/\Γ' "Reader.choice"=PL.Ac [] (PL.iw (PL.tY n)) d:=by
 let#[e1,e2,e3,e4,e5,e6]:=gr;have hbo:=PL.tj n;have g1:=R.bracket.up B G (PL.Ve _ #[e1,e2,e3,e4,e5,e6] (PL.tY n) d (WB n d hd hc)) (λus S Q E h=>by let#[a,b,_,rfl,_]:=h;rfl);have g2:=R.ws.up B g1 (PL.Jp _ #[e1,e2,e3,e4,e5,e6] d) (λus S Q E h=>by let#[m,h]:=h;exact t8 _ _ _ _ h);have g3:=R.item.up B g2 (PL.MZ _ d #[#[e1,e2,e3,e4,e5,e6],rfl]) t8;have g4:=R.cls.up B g3 (PL.QT _ d #[#[#[e1,e2,e3,e4,e5,e6],rfl],rfl]) t8;have g5:=R.atom.up B g4 (PL.M5 _ (PL.tY n) d #[#[#[#[e1,e2,e3,e4,e5,e6],rfl],rfl],rfl,rfl]) t8;have g6:=R.repeat_.up B g5 (PL.F4 _ (PL.tY n) d hbo #[#[#[#[#[e1,e2,e3,e4,e5,e6],rfl],rfl],rfl,rfl],rfl]) t8;have g7:=R.row.up B g6 (PL.QZ _ (PL.tY n) d hbo #[#[#[#[#[#[e1,e2,e3,e4,e5,e6],rfl],rfl],rfl,rfl],rfl],rfl,gj]) t8;have g8:=R.choice.up B g7 (PL.F5 _ (PL.tY n) d hbo #[#[#[#[#[#[#[e1,e2,e3,e4,e5,e6],rfl],rfl],rfl,rfl],rfl],rfl,gj],rfl]) t8;refine#[_,g8,?_,#[e1,e2,e3,e4,e5,e6],gj,gi,rfl];refine fm.up (fm.up (fm.up (fm.up (fm.up (fm.up (fm.up (fm.up Sm ?_) ?_) ?_) ?_) ?_) ?_) ?_) ?_<;>decide
theorem wk(R:Gs c T)(B:Base c T kx)(G:GS c T kx Γ k)(Sm:fm Γ0 Γ RN)(gr:PL.GR Γ)(gj:Γ "joined"=PL.lL)(gi:Γ "Reader.__init__"=PL.n9):
  ∀(n d:Nat),d+n=6->∃Γ',GS c T kx Γ' (k+16*(n+1))/\fm Γ0 Γ' RN/\PL.GR Γ'/\Γ' "joined"=PL.lL/\Γ' "Reader.__init__"=PL.n9/\Γ' "Reader.choice"=PL.Ac [] (PL.iw (PL.tY n)) d
 |0,d,h=>t9 R B G Sm gr gj gi 0 d h (λj e=>∅)
 |n+1,d,h=>by
  let#[Γ1,G1,S1,r1,j1,i1,c1]:=wk R B G Sm gr gj gi n (d+1) ∅;let#[Γ2,G2,z]:=t9 R B G1 S1 r1 j1 i1 (n+1) d h (λj e=>by cases e;erw[c1]);exact#[Γ2,G2,z]
theorem DB(R:Gs c T)(B:Base c T kx)(G:GS c T kx Γ k):∃Γ',GS c T kx Γ' (k+130)/\fm Γ Γ' RN/\Γ' "read"=PL.Dm/\Γ' "all_but"=PL.spT PL.d7:=by
 let#[Γ1,G1,S1,r1,j1,i1]:=BI R B G;let#[Γ2,G2,S2,r2,j2,i2,c2]:=wk R B G1 S1 r1 j1 i1 6 0 rfl;have g:=R.read.up B G2 (PL.M6 _ i2 c2) (λus S Q E h=>by let#[x,rfl,_]:=h;rfl);exact#[_,g,fm.up S2 ⋯,bw,r2.Dk]
open PL (U SO bF Xn KU KX cf)
structure xg where
 x:String
 q:String
 cl:String
 st:Stmt
 N:List Str
 ps:List Str
 b:PL.dj
def Gu(K:Frag)(x qual:Str)(st:Stmt)(f:Addr):Prop:=∃(oc:Value)(od:Option Addr)(kV dc pm:Value)(an:Option Addr)(cd ct:Value)(sl:Array (Option Value)),
 K.lookup f=some #[oc,od,.func (fnOf x qual (l9 st) (fQ st) (bN st) .none kV dc pm an cd ct),sl]/\codeIn K cd qual=true/\Cd K (.ref f)=true
theorem Gu.fn{K:Frag}{x qual:Str}{st:Stmt}{f:Addr}(h:Gu K x qual st f):∃fd,KG K x qual st f fd/\Cd K (.ref f)=true:=by
 let#[oc,od,kV,dc,pm,an,cd,ct,sl,h1,h2,h3]:=h;exact#[_,HE h1 h2 h3,h3]
inductive BJ(K:Frag)(CA:List (String×Addr)):xg->Prop
 |fn{q:String}{st:Stmt}{N ps:List Str}{b:PL.dj}{f:Addr}:nsIn K bz (cw q)=some (some (.ref f))->Gu K (cw q) (cw q) st f->BJ K CA #[q,q,"",st,N,ps,b]
 |mt{x q cl:String}{st:Stmt}{N ps:List Str}{b:PL.dj}{f C:Addr}:(cl=="")=false->CA.lookup cl=some C->findIn K (.ref C) (cw q)=some (some (.ref f))->isFn K (.ref f)=true->Gu K (cw q) (cw x) st f->BJ K CA #[x,q,cl,st,N,ps,b]
def zS(r:xg):Prop:=∀(x qual:Str)(kV dc pm:Value)(an:Option Addr)(cd ct:Value)(us:List Value),us.length=r.ps.length->KW (fnOf x qual (l9 r.st) (fQ r.st) (bN r.st) .none kV dc pm an cd ct) #[us,[]]=pure (r.ps.zip us)
abbrev Kr(r:xg)(us:List Value):Prop:=∀(x qual:Str)(kV dc pm:Value)(an:Option Addr)(cd ct:Value),KW (fnOf x qual (l9 r.st) (fQ r.st) (bN r.st) .none kV dc pm an cd ct) #[us,[]]=pure (r.ps.zip us)
theorem Si{α:Type}{l:List α}{n:Nat}(h:l.length=n+1):∃a r,l=a::r/\r.length=n:=by
 cases l with
 |nil=>erw[absurd h (Nat.succ_ne_zero n).symm]
 |cons a r=>exact#[a,r,rfl,ni h]
theorem ln1{α:Type}{l:List α}(h:l.length=1):∃a,l=[a]:=jG.mp h
theorem ln2{α:Type}{l:List α}(h:l.length=2):∃a b,l=[a,b]:=by
 let#[a,r,rfl,k]:=Si h;let#[b,rfl]:=ln1 k;exact#[a,b,rfl]
theorem ln3{α:Type}{l:List α}(h:l.length=3):∃a b c,l=[a,b,c]:=by
 let#[a,r,rfl,k]:=Si h;let#[b,c,rfl]:=ln2 k;exact#[a,b,c,rfl]
theorem bd0(e:r.ps.length=0)(h:Kr r []):zS r:=λx q a b c d f g us hl=>by
 rw[e] at hl;obtain rfl:=fM.mp hl;erw[h x q a b c d f g]
theorem bd1(e:r.ps.length=1)(h:∀a,Kr r [a]):zS r:=λx q a b c d f g us hl=>by
 let#[u,rfl]:=ln1 (hl.trans e);erw[h u x q a b c d f g]
theorem bd2(e:r.ps.length=2)(h:∀a b,Kr r [a,b]):zS r:=λx q a b c d f g us hl=>by
 let#[u,v,rfl]:=ln2 (hl.trans e);erw[h u v x q a b c d f g]
theorem bd3(e:r.ps.length=3)(h:∀a b c,Kr r [a,b,c]):zS r:=λx q a b c d f g us hl=>by
 let#[u,v,w,rfl]:=ln3 (hl.trans e);erw[h u v w x q a b c d f g]
theorem bd4(e:r.ps.length=4)(h:∀a b c d,Kr r [a,b,c,d]):zS r:=λx q a b c d f g us hl=>by
 let#[u,s,rfl,k]:=Si (hl.trans e);let#[v,w,z,rfl]:=ln3 k;erw[h u v w z x q a b c d f g]
def Gv(r:xg):Bool:=(bN r.st).kind==.function && !(bN r.st).isCoroutine && !(bN r.st).isGenerator&&decide r.N.Nodup&&r.N.take r.ps.length==r.ps&&(r.ps.all λx=>(bN r.st).names.lookup x==some .local||(bN r.st).names.lookup x==some .cell)&&((bN r.st).names.all λy=>y.2 !=.free)&&decide (r.ps.length<=r.N.length)
theorem Gv.sc(h:Gv r=true):l7 r.N r.ps (bN r.st)/\r.ps.length<=r.N.length:=by
 unfold Gv at h;dsimp[aj,bI,decide_eq_true_eq,bg,beq_iff_eq,gQ,bne_iff_ne] at h;let#[#[#[#[#[#[#[h1,h2],h3],h4],h5],h6],h7],h8]:=h;exact#[#[h1,h2,h3,h4,h5,h6,h7],h8]
noncomputable def Sj(T:Tab)(r:xg):Bool:=
 if r.cl=="" then(T.qJ.all λp=>p.2++"."++p.1 !=r.x)&&(T.qI.all λy=>y++".__init__" !=r.x)
 else !(T.fns.contains r.x)&&r.x==r.cl++"."++r.q&&if r.q=="__init__" then(T.qJ.all λp=>p.2++"."++p.1 !=r.x)&&(T.qI.all λy=>y++".__init__" !=r.x||y==r.cl)
  else(T.qJ.all λp=>p.2++"."++p.1 !=r.x||(p.1==r.q&&p.2==r.cl))&&(T.qI.all λy=>y++".__init__" !=r.x)
noncomputable def Ks(rows:List xg):List String:=(rows.filter λr=>r.cl=="").map (·.x)
noncomputable def Kt(rows:List xg):List (String×String):=(rows.filter λr=>r.cl !=""&&r.q !="__init__").map λr=>(r.q,r.cl)
structure NK(K:Frag)(p:String×Addr)(fl:List String):Prop where
 ns:nsIn K bz (cw p.1)=some (some (.ref p.2))
 cl:yL K p.2
 ms:makesIn K p.2=true
 kp:Cd K (.ref p.2)=true
 na:fl.map (λf=>findIn K (.ref p.2) (cw f))=fl.map λ_=>some none
theorem sr{α:Type}{x:String}{a:α}:∀{l:List (String×α)},l.lookup x=some a->(x,a)∈l
 | (k,v)::l,h=>by
  rw[aK] at h;split at h
  .rename_i e
   have e:x=k:=eq_of_beq e;cases h;subst e;erw[aT ..]
  .erw[aA _ (sr h)]
theorem WC{K:Frag}{C:Addr}{fl:List String}(h:fl.map (λf=>findIn K (.ref C) (cw f))=fl.map λ_=>some none):∀f∈fl,mF K C (nm f):=λf m=>tM.mp h f m
section
variable{c:Ctx}{T:Tab}{rows:List xg}{CA:List (String×Addr)}{h:Heap}{fl:List String}
theorem NL(X:c.K.In h)(G:h.Ns bz c.mg)(hc:c.cls=λx=>CA.lookup x)(hC:∀p∈CA,NK c.K p fl)(R:∀r∈rows,BJ c.K CA r)(bd:∀r∈rows,zS r)(sc:rows.all Gv=true)(rl:rows.all (Sj T)=true)
  (tx:rows.map (λr=>KJ T 60 #[(bN r.st).names,r.N,true] (fQ r.st))=rows.map λr=>some r.b) (i:Nat) (r:xg) (e:rows[i]?=some r):fZ c T r.x r.ps.length (r.N.length-r.ps.length) r.b:=by
 have m:=ah e;let#[s1,s2]:=(bI.mp sc r m |> Gv.sc)
 have t:=tM.mp tx r m;have b:=bd r m;have rr:=bI.mp rl r m;have ln:r.N.length=r.ps.length+(r.N.length-r.ps.length):=∅
 cases R r m with
 |fn h1 h2=>
  let#[fd,F,kp]:=h2.fn;refine#[#[_,_,_,_,#[#[_,_,fd,F,F.binds λkV dc pm an cd ct us hl=>b _ _ kV dc pm an cd ct us hl],s1,#[60,t],ln],rfl,λg ro=>?_]];have rr:((T.qJ.all λp=>p.2++"."++p.1 !=_)&&(T.qI.all λy=>y++".__init__" !=_))=true:=rr;rw[aj] at rr;erw[NH (qd X G h1) rr.1 rr.2 ro]
 |@mt x q cl st N ps b' f C hn h0 h1 h2 h3=>
  let#[fd,F,kp]:=h3.fn;refine#[#[_,_,_,_,#[#[_,_,fd,F,F.binds λkV dc pm an cd ct us hl=>b _ _ kV dc pm an cd ct us hl],s1,#[60,t],ln],rfl,λg ro=>?_]];unfold Sj at rr;dsimp[hn,ao,if_false,aj,gQ,beq_iff_eq] at rr;let#[#[r1,r2],r3]:=rr;have hcl:c.cls cl=some C:=by rw[hc];erw[h0]
  have cm:=hC _ (sr h0);subst r2;by_cases z:q="__init__"
  .subst z
   dsimp[if_true,aj] at r3;have e:cl++"."++"__init__"=cl++".__init__":=by rw[String.append_assoc];rfl
   have ro:Role c T (cl++"."++"__init__") g:=ro;rw[e] at r1 r3 ro;erw[NJ (cl:=cl) hcl #[cm.ms,h1,h2,cm.kp] r1 r3.1 r3.2 ro]
  .rw[if_neg z,aj] at r3
   erw[NI (m:=q) (cl:=cl) hcl #[h1,h2,kp] r1 r3.1 r3.2 ro]
theorem DD(b:zS r)(h:Gu c.K x qual r.st f):FnAt c k f xf:=by
 let#[fd,F,kp]:=h.fn;erw[WA (F.binds λkV dc pm an cd ct us hl=>b _ _ kV dc pm an cd ct us hl)]
theorem Sk(X:c.K.In h)(G:h.Ns bz c.mg)(hc:c.cls=λx=>CA.lookup x)(hC:∀p∈CA,NK c.K p fl)(R:∀r∈rows,BJ c.K CA r)(bd:∀r∈rows,zS r)
  (t1:T.fns=Ks rows) (t2:T.qJ=Kt rows) (t3:∀x∈T.qI,∃r∈rows,r.cl=x/\r.q="__init__"/\(x=="")=false):gE c T (λ_=>xf) k:=by
 rwa[gE.none (λx hx=>?_) (λp hp=>?_) (λx hx=>?_)]
 .rw[t1] at hx
  let#[r,hr,rfl]:=bq.mp hx;let#[m,e]:=dX.mp hr;have b:=bd r m;cases R r m with
  |@fn q st N ps b' f h1 h2=>
   let#[fd,F,kp]:=h2.fn;exact#[f,qd X G h1,kp,DD b h2]
  |mt hn=>erw[absurd e (by show ¬(_=="")=true;rw[hn];simp)]
 .rw[t2] at hp
  let#[r,hr,rfl]:=bq.mp hp;let#[m,e]:=dX.mp hr;have b:=bd r m;cases R r m with
  |fn h1 h2=>simp at e
  |@mt x q cl st N ps b' f C hn h0 h1 h2 h3=>
   let#[fd,F,kp]:=h3.fn;exact#[C,f,by rw[hc];erw[h0],#[h1,h2,kp],DD b h3]
 .let#[r,m,rfl,eq,ne]:=t3 x hx
  have b:=bd r m;cases R r m with
  |fn h1 h2=>simp at ne
  |@mt x q cl st N ps b' f C hn h0 h1 h2 h3=>
   have eq:q="__init__":=eq;subst eq;have cm:=hC _ (sr h0);exact#[C,f,by rw[hc];erw[h0],qd X G cm.ns,#[cm.ms,h1,h2,cm.kp],DD b h3]
theorem Sl(hc:c.cls=λx=>CA.lookup x)(hC:∀p∈CA,NK c.K p fl)(x:String)(C:Addr)(h:c.cls x=some C):yL c.K C/\∀f∈fl,mF c.K C (nm f):=by
 rw[hc] at h;have:=hC _ (sr h);exact#[this.cl,WC this.na]
end
theorem uW(h:c.mg (nm x)=some (.str s t))(e:s=tx l):∃v u,c.mg (nm x)=some u/\RelV v u/\∀ρ H,Rep c ρ H (.str l) v:=
 #[.str (tx l),_,h,#[t,by rw[e]],λ_ _=>bA.mpr rfl]
theorem BK{K:Frag}{a:Addr}:∀(kvs:List (Str×Str)),(∀p∈kvs,∃t,nsIn K a p.1=some (some (.str p.2 t)))->∀k v,(kvs.map λp=>(p.1,V.str p.2)).lookup k=some v->∃u,RelV v u/\nsIn K a k=some (some u)
 |[],_,k,v,h=>by simp at h
 |p::r,hp,k,v,h=>by
  rw[au,aK] at h;split at h
  .rename_i e
   have e:k=p.1:=eq_of_beq e;cases h;let#[t,z]:=hp p (aT ..);exact#[_,#[t,rfl],by rw[e];erw[z]]
  .erw[BK r (λq hq=>hp q (aA _ hq)) k v h]
noncomputable def Gx:Value->Option Str
 |.str s _=>some s
 |_=>none
theorem EX(k:Str):∀(es:List yC)(ks:List Str),es.map (λe=>Gx e.key)=ks.map some->k∉ks->es.find? (·.key.isStr k)=none/\es.any (·.refKey)=false
 |[],_,_,_=>#[rfl,rfl]
 |e::r,[],h,_=>by cases h
 |⟨hs,ky,vl⟩::r,q::ks,h,n=>by
  rw[au,au,dJ] at h;let#[i,j]:=EX k r ks h.2 λz=>n (aA _ z)
  have h1:Gx ky=some q:=h.1;cases ky with
  |str s t=>
   have e:s=q:=aL h1;subst e;have ne:(s==k)=false:=by
    rw[beq_eq_false_iff_ne];erw[λz=>n (z▸aT ..)]
   exact#[by rw[dY];show(match (s==k) with|true=>_|false=>_)=_;rw[ne];erw[i],by rw[dG,j];rfl]
  |_=>cases h1
theorem NM(h:c.mg (nm x)=some (.ref a))(l:c.K.lookup a=some #[.type "dict",none,.dict es n,#[]])(kl:BU c.w.params es.toList)
  (ky:es.toList.map (λe=>Gx e.key)=(kvs.map λp=>tx p.1).map some) (ns:(a==bZ)=false)
  (hk:∀p∈kvs,∃t,nsIn c.K a (tx p.1)=some (some (.str (tx p.2) t))):∃v u,c.mg (nm x)=some u/\RelV v u/\∀ρ H,Rep c ρ H (.tab kvs) v:=by
 refine#[.ref a,_,h,rfl,λρ H=>uG.mpr #[a,rfl,#[es,n,l,kl],λk v e=>?_,λk e=>?_,ns]]
 .rwa[BK (kvs.map λp=>(tx p.1,tx p.2)) ?_ k v (by rw[bu];erw[e])]
  intro p hp;let#[q,hq,rfl]:=bq.mp hp;erw[hk q hq]
 .have nm:k∉kvs.map λp=>tx p.1:=λz=>by
   let#[q,hq,rfl]:=bq.mp z;have:=List.lookup_eq_none_iff.mp e (tx q.1,V.str (tx q.2)) (bq.mpr #[q,hq,rfl]);simp at this
  let#[i,j]:=EX k _ _ ky nm;unfold nsIn;rw[l]
  show(match es.toList.find? (·.key.isStr k) with|some e=>some (some e.val)|none=>if es.toList.any (·.refKey) then none else some none)=some none
  rw[i,j]
  rfl
theorem WD(h:c.mg (nm x)=some (.ref a))(l:c.K.lookup a=some #[.type "dict",none,.dict es n,#[]])(kl:BU c.w.params es.toList)
  (ky:es.toList.map (λe=>Gx e.key)= [some k0,some k1,some k2]) (ns:(a==bZ)=false) (c0:k0=tx l0) (c1:k1=tx l1) (c2:k2=tx l2)
  (r0:nsIn c.K a k0=some (some (.str z0 t0))) (e0:z0=tx m0) (r1:nsIn c.K a k1=some (some (.str z1 t1))) (e1:z1=tx m1) (r2:nsIn c.K a k2=some (some (.str z2 t2))) (e2:z2=tx m2):
  ∃v u,c.mg (nm x)=some u/\RelV v u/\∀ρ H,Rep c ρ H (.tab [(l0,m0),(l1,m1),(l2,m2)]) v:=by
 subst c0 c1 c2 e0 e1 e2;rwa[NM h l kl ky ns ?_];erw[aS.mpr #[#[t0,r0],aS.mpr #[#[t1,r1],aS.mpr #[#[t2,r2],λ_ h=>(cx h).elim]]]]
open PL (U SO bF Xn KU KX cf)
theorem gE.mono(G:gE c T Γ j)(h:j<=k):gE c T Γ k:=
 #[λx hx=>let ⟨f,a,b,d⟩:=G.fns x hx;#[f,a,b,d.mono h],λp hp=>let ⟨C,f,a,b,d⟩:=G.SF p hp;#[C,f,a,b,d.mono h],λx hx=>let ⟨C,f,a,b,e,d⟩:=G.cls x hx;#[C,f,a,b,e,d.mono h]]
theorem gE.mix(G1:gE c T Γ1 k)(G2:gE c T Γ2 k)(h:∀x,Γ x=Γ1 x\/Γ x=Γ2 x):gE c T Γ k:=by
 refine#[λx hx=>?_,λp hp=>?_,λx hx=>?_]
 .rcases h x with e|e<;>rw[e]
  .erw[G1.fns x hx]
  .erw[G2.fns x hx]
 .rcases h (p.2++"."++p.1) with e|e<;>rw[e]
  .erw[G1.SF p hp]
  .erw[G2.SF p hp]
 .rcases h (x++".__init__") with e|e<;>rw[e]
  .erw[G1.cls x hx]
  .erw[G2.cls x hx]
theorem GS.mono(G:GS c T kx Γ j)(h:j<=k):GS c T kx Γ k:=#[aJ G.le h,gE.mono G.ok h]
structure Sn(c:Ctx)(T:Tab):Prop where
 written:fZ c T "written" 1 0 PL.pN
 row:fZ c T "row_text" 1 0 PL.nN
 rep:fZ c T "repeat_text" 1 2 PL.kc
 atom:fZ c T "atom_text" 1 0 PL.mf
 place:fZ c T "place_text" 1 0 PL.kX
 sign:fZ c T "sign_text" 2 0 PL.mh
 texts:fZ c T "class_texts" 1 1 PL.ke
 guarded:fZ c T "guarded" 1 0 PL.pO
 items:fZ c T "class_items" 1 2 PL.kf
 runs:fZ c T "runs" 1 3 PL.zg
 ZG:fZ c T "run_items" 1 2 PL.mi
open PL.lT in
structure zT(c:Ctx)(T:Tab):Prop where
 po:fZ c T "places_of" 2 4 mm
 to:fZ c T "tree_of" 2 1 pP
 mem:fZ c T "members" 1 0 pQ
 pt:fZ c T "Part.__init__" 4 0 mn
 beh:fZ c T "one_behind_other" 2 2 fU
 or_:fZ c T "one_or_other" 2 0 jv
 li:fZ c T "Layout.__init__" 1 0 kg
 hm:fZ c T "Layout.how_many" 1 0 gD
 cr:fZ c T "Layout.close_rule" 2 0 fH
 lk:fZ c T "Layout.link" 3 1 kh
 lay:fZ c T "Layout.lay" 2 0 kY
 lp:fZ c T "Layout.lay_place" 2 1 fV
 lr:fZ c T "Layout.lay_row" 2 3 ie
 lc:fZ c T "Layout.lay_choice" 2 2 fI
 lq:fZ c T "Layout.lay_repeat" 2 4 fJ
 us:fZ c T "useful_places" 1 5 iU
 ptt:fZ c T "places_that_take" 2 0 fW
 pi:fZ c T "Places.__init__" 2 1 ki
 Wl:fZ c T "Places.beyond" 2 2 iV
 fr:fZ c T "Places.first_rule" 2 2 fK
open PL.lT in
structure DE(c:Ctx)(T:Tab):Prop where
 cell:fZ c T "_law_cell" 2 0 PL.tW.mj
 mix:fZ c T "_law_mix" 2 1 PL.tW.nO
 all:fZ c T "_law_all" 0 1 PL.tW.nP
 no:fZ c T "_law_nothing" 1 0 jw
 sm:fZ c T "_law_small" 3 3 k6
 tr:fZ c T "_law_trees" 4 3 k7
 tx:fZ c T "_law_text" 3 0 mv
open PL.Ab in
structure WG(c:Ctx)(T:Tab):Prop where
 tb:fZ c T "table_of" 1 0 nQ
 ti:fZ c T "Table.__init__" 3 0 k8
 go:fZ c T "Table.goes" 3 0 k9
 sp:fZ c T "spread" 1 7 rN
 st:fZ c T "smallest" 1 5 nU
 wn:fZ c T "with_nowhere" 1 1 jx
 ro:fZ c T "rounds" 2 3 rO
 pa:fZ c T "parted" 3 3 rP
 nu:fZ c T "numbered" 1 1 nV
 te:fZ c T "telling_signs" 1 2 iW
open PL.GU in
structure So(c:Ctx)(T:Tab):Prop where
 sz:fZ c T "Table.size" 1 0 lg
 ft:fZ c T "first_texts" 1 4 ko
 sa:fZ c T "sample" 3 0 rR
 ss:fZ c T "samples" 1 2 pR
 un:fZ c T "unused" 1 0 rQ
open PL.lT in
structure WH(c:Ctx)(T:Tab):Prop where
 wi:fZ c T "Walk.__init__" 2 0 mq
 wm:fZ c T "Walk.may_go_on" 1 0 ig
 al:fZ c T "Walk.along" 2 0 kZ
 ws:fZ c T "Walk.step" 2 2 mr
 lx:fZ c T "Lexer.__init__" 2 0 k5
 tk:fZ c T "Lexer.token" 3 1 kj
open PL PL.lT in
theorem BL(us:List U)(S:bF)(Q:KU)(E:KX)(h:B5 D f us S Q E):us.length=1:=by
 let#[_,rfl,_]:=h;rfl
open PL PL.lT in
theorem yp(us:List U)(S:bF)(Q:KU)(E:KX)(h:gZ D us S Q E):us.length=2:=by
 let#[_,_,_,_,_,_,rfl,_]:=h;rfl
open PL PL.lT in
theorem uX(W:Sn c T)(B:Base c T kx)(G:GS c T kx Γ j)(k:Nat)(hk:k<=10)(D:Tr->Prop)(hD:∀t,cq t<=k->wZ t->D t)(hp:Γ "place_text"=Nj)(hw:Γ "written"=B5 D wr):
  ∃Γ',GS c T kx Γ' (j+8)/\Γ' "place_text"=Nj/\Γ' "written"=B5 (λt=>cq t<=k\/(wZ t/\cq t<=k+1)) wr:=by
 have g1:=W.atom.up B G (RB _ k D hD hp hw) BL;have g2:=W.rep.up B g1 (RC _ k hk bw) BL;have g3:=W.row.up B g2 (RD _ k bw) BL;have g4:=W.written.up B g3 (RE _ k bw) BL;exact#[_,g4,hp,bw]
open PL PL.lT in
theorem WJ(R:Gs c T)(W:Sn c T)(B:Base c T kx)(G:GS c T kx Γ j):∃Γ',GS c T kx Γ' (j+50)/\Γ' "written"=B5 (λt=>cq t<=3\/(wZ t/\cq t<=3+1)) wr:=by
 have a0:=R.Dk.up B G (vO _) len_T;have a1:=W.sign.up B a0 (VS _) (λus S Q E h=>by let#[_,_,rfl,_]:=h;rfl);have a2:=W.ZG.up B a1 (VU _ bw) (λus S Q E h=>by let#[_,rfl,_]:=h;rfl);have a3:=W.runs.up B a2 (VX _) (λus S Q E h=>by let#[_,rfl,_]:=h;rfl);have a4:=W.items.up B a3 (VZ _ rfl rfl) (λus S Q E h=>by let#[_,rfl,_]:=h;rfl);have a5:=W.guarded.up B a4 (V1 _) (λus S Q E h=>by let#[_,_,rfl,_]:=h;rfl);have a6:=W.texts.up B a5 (V3 _ rfl rfl rfl) (λus S Q E h=>by let#[_,rfl,_]:=h;rfl);have a7:=W.place.up B a6 (V4 _ rfl rfl rfl) (λus S Q E h=>by let#[_,rfl,_]:=h;rfl);have a8:=W.written.up B a7 (sp:=B5 (λ_=>False) wr) (λus S Q E h=>by let#[_,_,h,_]:=h;exact h.elim) BL;let#[Γ1,G1,p1,w1]:=uX W B a8 0 ∅ _ (λt d r=>by cases t<;>first|exact r.elim|exact absurd d (Nat.not_succ_le_zero _)) rfl bw;obtain⟨Γ2,G2,p2,w2⟩:=uX W B G1 1 ∅ _ (λt d r=>.inr #[r,d]) p1 w1;obtain⟨Γ3,G3,p3,w3⟩:=uX W B G2 2 ∅ _ (λt d r=>.inr #[r,d]) p2 w2;obtain⟨Γ4,G4,p4,w4⟩:=uX W B G3 3 ∅ _ (λt d r=>.inr #[r,d]) p3 w3;exact#[Γ4,G4,w4]
section
open PL PL.lT
structure GP(Γ:cf):Prop where
 mem:Γ "members"=Bt
 pt:Γ "Part.__init__"=zE
 beh:Γ "one_behind_other"=qO tq
 or_:Γ "one_or_other"=qO Vh
 li:Γ "Layout.__init__"=Q8
 hm:Γ "Layout.how_many"=Q9
 cr:Γ "Layout.close_rule"=Ra
 lk:Γ "Layout.link"=JG
 lp:Γ "Layout.lay_place"=gZ λt u=>∃n l,t=.one n l/\u=.str l
variable{c:Ctx}{T:Tab}{Γ:cf}{j kx:Nat}
theorem NN(P:zT c T)(B:Base c T kx)(G:GS c T kx Γ j):∃Γ',GS c T kx Γ' (j+20)/\GP Γ'/\Γ' "Layout.lay"=gZ (Tu 0):=by
 have g1:=P.mem.up B G (Q5 _) (λus S Q E h=>by let#[_,rfl,_]:=h;rfl);have g2:=P.pt.up B g1 (Vg _) (λus S Q E h=>by let#[_,_,_,_,rfl,_]:=h;rfl);have g3:=P.beh.up B g2 (Q6 _ bw) (λus S Q E h=>by let#[_,_,_,_,_,_,_,_,rfl,_]:=h;rfl);have g4:=P.or_.up B g3 (Vi _ rfl) (λus S Q E h=>by let#[_,_,_,_,_,_,_,_,rfl,_]:=h;rfl);have g5:=P.li.up B g4 (Vj _) (λus S Q E h=>by let#[_,rfl,_]:=h;rfl);have g6:=P.hm.up B g5 (Vk _) (λus S Q E h=>by let#[_,_,_,_,rfl,_]:=h;rfl);have g7:=P.cr.up B g6 (Vl _) (λus S Q E h=>by let#[_,_,_,_,_,_,_,_,_,_,rfl,_]:=h;rfl);have g8:=P.lk.up B g7 (Vn _ rfl) (λus S Q E h=>by let#[_,_,_,_,_,_,rfl,_]:=h;rfl);have g9:=P.lp.up B g8 (Vo _ rfl) yp;have ga:=P.lay.up B g9 (sp:=gZ (Tu 0)) (λus S Q E h=>by let#[_,_,_,_,_,_,_,h,_]:=h;erw[absurd h.1 (d6 _)]) yp;exact#[_,ga,#[rfl,rfl,rfl,rfl,rfl,rfl,rfl,rfl,rfl],bw]
theorem su(P:zT c T)(B:Base c T kx)(G:GS c T kx Γ j)(g:GP Γ)(d:Nat)(hd:d<=100)(hl:Γ "Layout.lay"=gZ (Tu d)):∃Γ',GS c T kx Γ' (j+8)/\GP Γ'/\Γ' "Layout.lay"=gZ (Tu (d+1)):=by
 let#[e1,e2,e3,e4,e5,e6,e7,e8,e9]:=g;have g1:=P.lr.up B G (Vr _ d e2 hl e8 e3) yp;have g2:=P.lc.up B g1 (Vs _ d e2 hl e4) yp;have g3:=P.lq.up B g2 (Vt _ d hd e2 hl e8) yp;have g4:=P.lay.up B g3 (Rg _ d e9 rfl rfl rfl) yp;exact#[_,g4,#[e1,e2,e3,e4,e5,e6,e7,e8,e9],bw]
theorem WK(P:zT c T)(B:Base c T kx)(G:GS c T kx Γ j):∃Γ',GS c T kx Γ' (j+75)/\GP Γ'/\Γ' "Layout.lay"=gZ (Tu 4)/\Γ' "Places.__init__"=JI/\Γ' "Places.beyond"=Ds/\Γ' "Places.first_rule"=Gd:=by
 let#[Γ0,G0,p0,l0]:=NN P B G;let#[Γ1,G1,p1,l1]:=su P B G0 p0 0 ∅ l0;let#[Γ2,G2,p2,l2]:=su P B G1 p1 1 ∅ l1;let#[Γ3,G3,p3,l3]:=su P B G2 p2 2 ∅ l2;let#[Γ4,G4,p4,l4]:=su P B G3 p3 3 ∅ l3;let#[e1,e2,e3,e4,e5,e6,e7,e8,e9]:=p4;have g1:=P.us.up B G4 (Vv _ e1) (λus S Q E h=>by let#[_,_,_,_,rfl,_]:=h;rfl);have g2:=P.ptt.up B g1 (Rh _) (λus S Q E h=>by let#[_,_,_,_,_,rfl,_]:=h;rfl);have g3:=P.pi.up B g2 (Vw _ rfl bw) (λus S Q E h=>by let#[_,_,_,_,_,rfl,_]:=h;rfl);have g4:=P.Wl.up B g3 (Vx _ e1) (λus S Q E h=>by let#[_,_,_,_,_,rfl,_]:=h;rfl);have g5:=P.fr.up B g4 (Vz _) (λus S Q E h=>by let#[_,_,_,_,_,rfl,_]:=h;rfl);exact#[_,g5.mono ∅,#[e1,e2,e3,e4,e5,e6,e7,e8,e9],l4,rfl,rfl,bw]
open PL.Ab in
theorem WL(W:WG c T)(A:So c T)(V:WH c T)(B:Base c T kx)(G:GS c T kx Γ j)(h1:Γ "Places.beyond"=Ds)(h2:Γ "Places.first_rule"=Gd)(g:GP Γ)(h3:Γ "Layout.lay"=gZ (Tu 4))(h4:Γ "Places.__init__"=JI):∃Γ',GS c T kx Γ' (j+35)/\GP Γ'/\Γ' "Layout.lay"=gZ (Tu 4)/\Γ' "Places.__init__"=JI/\Γ' "spread"=RV/\Γ' "smallest"=RZ/\Γ' "first_texts"=NF/\Γ' "Lexer.token"=Dt:=by
 let#[e1,e2,e3,e4,e5,e6,e7,e8,e9]:=g;have g1:=W.nu.up B G (RG _) (λus S Q E h=>by let#[_,rfl,_]:=h;rfl);have g2:=W.te.up B g1 (RH _) (λus S Q E h=>by let#[_,_,_,rfl,_]:=h;rfl);have g3:=W.wn.up B g2 (V9 _) (λus S Q E h=>by let#[_,_,_,rfl,_]:=h;rfl);have g4:=W.pa.up B g3 (RK _ rfl) (λus S Q E h=>by let#[_,_,_,_,_,_,_,rfl,_]:=h;rfl);have g5:=W.ro.up B g4 (We _ rfl rfl bw) (λus S Q E h=>by let#[_,_,_,_,rfl,_]:=h;rfl);have g6:=W.ti.up B g5 (Wf _) (λus S Q E h=>by let#[_,_,_,_,rfl,_]:=h;rfl);have g7:=W.go.up B g6 (Wg _) (λus S Q E h=>by let#[_,_,_,_,_,_,rfl,_]:=h;rfl);have g8:=A.sz.up B g7 (Wr _) (λus S Q E h=>by let#[_,_,_,_,rfl,_]:=h;rfl);have g9:=W.sp.up B g8 (Wj _ h1 h2 rfl) (λus S Q E h=>by let#[_,_,_,_,_,rfl,_]:=h;rfl);have ga:=W.st.up B g9 (Wk _ rfl rfl rfl) (λus S Q E h=>by let#[_,_,_,_,_,rfl,_]:=h;rfl);have gb:=A.ft.up B ga (Wt _ rfl rfl) (λus S Q E h=>by let#[_,_,_,_,rfl,_]:=h;rfl);have gc:=V.wi.up B gb (VC _ h1) (λus S Q E h=>by let#[_,_,_,_,_,rfl,_]:=h;rfl);have gd:=V.wm.up B gc (VE _) (λus S Q E h=>by let#[_,_,_,_,_,rfl,_]:=h;rfl);have ge:=V.ws.up B gd (VG _ h1 h2) (λus S Q E h=>by let#[_,_,_,_,_,_,_,_,_,rfl,_]:=h;rfl);have gf:=V.al.up B ge (VL _ rfl bw) (λus S Q E h=>by let#[_,_,_,_,_,_,_,_,rfl,_]:=h;rfl);have gg:=V.tk.up B gf (VM _ rfl bw) (λus S Q E h=>by let#[_,_,_,_,rfl,_]:=h;rfl);exact#[_,gg.mono ∅,#[e1,e2,e3,e4,e5,e6,e7,e8,e9],h3,h4,rfl,rfl,rfl,bw]
open PL.Ab in
theorem WM(A:So c T)(B:Base c T kx)(G:GS c T kx Γ j)(h1:Γ "table_of"=R7)(h2:Γ "first_texts"=NF)(h3:Γ "Lexer.__init__"=JN)(h4:Γ "Lexer.token"=Dt):∃Γ',GS c T kx Γ' (j+6)/\Γ' "Lexer.__init__"=JN/\Γ' "Lexer.token"=Dt/\Γ' "unused"=NG:=by
 have g1:=A.sa.up B G (R8 _) (λus S Q E h=>by let#[_,_,_,_,_,_,_,rfl,_]:=h;rfl);have g2:=A.ss.up B g1 (Wv _ h1 h2 bw) (λus S Q E h=>by let#[_,_,_,rfl,_]:=h;rfl);have g3:=A.un.up B g2 (Ww _ bw) (λus S Q E h=>by let#[_,_,_,rfl,_]:=h;rfl);exact#[_,g3.mono ∅,h3,h4,bw]
theorem sv(L:DE c T)(B:Base c T kx)(G:GS c T kx Γ j)(d:Nat)(h1:Γ "_law_nothing"=Gf d):∃Γ',GS c T kx Γ' (j+4)/\Γ' "_law_nothing"=Gf (d+1):=by
 have g2:=L.no.up B G (VR _ d h1) (λus S Q E h=>by let#[_,rfl,_]:=h;rfl);exact#[_,g2.mono ∅,bw]
theorem WN(L:DE c T)(B:Base c T kx)(G:GS c T kx Γ j):∃Γ',GS c T kx Γ' (j+60)/\Γ' "_law_mix"=tW.t4/\Γ' "_law_trees"=Ry/\Γ' "_law_text"=Nm:=by
 have a1:=L.no.up B G (sp:=Gf 0) (λus S Q E h=>by
  obtain⟨_,_,⟨_,_,h,_⟩|⟨_,_,h,_⟩⟩:=h
  .erw[absurd h (d6 _)]
  .erw[absurd h (d6 _)]) (λus S Q E h=>by let#[_,rfl,_]:=h;rfl)
 let#[Γ1,G1,n1]:=sv L B a1 0 bw;let#[Γ2,G2,n2]:=sv L B G1 1 n1;let#[Γ3,G3,n3]:=sv L B G2 2 n2;let#[Γ4,G4,n4]:=sv L B G3 3 n3;let#[Γ5,G5,n5]:=sv L B G4 4 n4;have c1:=L.cell.up B G5 (sp:=tW.Dn) (tW.M8 _) (λus S Q E h=>by let#[_,_,rfl,_]:=h;rfl);have c2:=L.mix.up B c1 (sp:=tW.t4) (tW.Q0 _ bw) (λus S Q E h=>by let#[_,_,rfl,_]:=h;rfl);have c3:=L.all.up B c2 (sp:=tW.Jy) (tW.Q2 _) (λus S Q E h=>by let#[rfl,_]:=h;rfl);have c4:=L.sm.up B c3 (sp:=Nl 0) (λus S Q E h=>by let#[_,_,_,_,_,h,_]:=h;erw[absurd h (d6 _)]) (λus S Q E h=>by let#[_,_,_,rfl,_]:=h;rfl);have c5:=L.sm.up B c4 (JR _ 0 rfl rfl bw) (λus S Q E h=>by let#[_,_,_,rfl,_]:=h;rfl);have c6:=L.sm.up B c5 (JR _ 1 rfl rfl bw) (λus S Q E h=>by let#[_,_,_,rfl,_]:=h;rfl);have c7:=L.sm.up B c6 (JR _ 2 rfl rfl bw) (λus S Q E h=>by let#[_,_,_,rfl,_]:=h;rfl);have c8:=L.tr.up B c7 (V5 _ bw n5) (λus S Q E h=>by let#[_,_,_,_,rfl,_]:=h;rfl);have c9:=L.tx.up B c8 (V6 _ rfl) (λus S Q E h=>by let#[_,_,_,rfl,_]:=h;rfl);exact#[_,c9.mono ∅,rfl,rfl,bw]
theorem zU(l:List String)(G1:GS c T kx Γ1 j)(G2:GS c T kx Γ2 j):GS c T kx (λx=>if x∈l then Γ1 x else Γ2 x) j:=#[G1.le,gE.mix G1.ok G2.ok λx=>by
 by_cases h:x∈l
 .erw[.inl (if_pos h)]
 .erw[.inr (if_neg h)]]
theorem Ku{xs qual:Str}{st:Stmt}{f:Addr}{fd:fq}{N ps:List Str}(R:Gs c T)(W:Sn c T)(P:zT c T)(Tb:WG c T)(A:So c T)(V:WH c T)(L:DE c T)(F:KG c.K xs qual st f fd)(S:l7 N ps (bN st))(tx:KJ T 60 #[(bN st).names,N,true] (fQ st)=some PL.GU.Ec)(hm:N.length=ps.length+10)(hp:ps.length=1)(B:Base c T 1)(G:gE c T (λ_=>xf) 1):kI c.P c.w c.K c.mg c.base (ug c.P c.w) 200 f fd ps (lift c Dg):=by
 have G:GS c T 1 (λ_=>xf) 1:=#[ak _,G]
 obtain⟨Γr,Gr,-,hr,-⟩:=DB R B G;let#[Γw,Gw,hw]:=WJ R W B G;let#[Γq,Gq,gq,ql,qi,qb,qf]:=WK P B G;let#[Γp,Gp,gp,pl,pi,ps1,pt,pf,pk]:=WL Tb A V B Gq qb qf gq ql qi;let#[Γl,Gl,l1,l2,l3]:=WN L B G;let#[e1,e2,e3,e4,e5,e6,e7,e8,e9]:=gp;have m1:=zU ["read"] Gr (Gp.mono (k:=1+130) ∅);have g1:=P.to.up B m1 (VO _ hr) (λus S Q E h=>by let#[_,_,_,_,rfl,_]:=h;rfl);have g2:=P.po.up B g1 (VP _ e5 pl bw e6 e7 pi) (λus S Q E h=>by let#[_,_,_,_,rfl,_]:=h;rfl);have g3:=V.lx.up B g2 (VQ _ bw) (λus S Q E h=>by let#[_,_,_,_,rfl,_]:=h;rfl);have g4:=Tb.tb.up B g3 (PL.Ab.Wn _ rfl ps1 pt) (λus S Q E h=>by let#[_,_,_,rfl,_]:=h;rfl);let#[Γd,g5,d1,d2,d3]:=WM A B g4 bw pf rfl pk;have m2:=zU ["written"] (Gw.mono (k:=160) ∅) (g5.mono ∅);have m3:=zU ["_law_mix","_law_trees","_law_text"] (Gl.mono (k:=160) ∅) m2;have h:=N8 F S B m3.le m3.ok tx (sp:=Dg) (PL.Ab.Kq _ l1 l2 l3 hw d3 d1 d2) hm (λus S Q E h=>by let#[_,rfl,_]:=h;erw[hp.symm]);erw[h.mono ∅]
end
end L2
section
set_option autoImplicit false
namespace DF
open PySem PySem.Spec PyProof.Rows PySem.W L2
noncomputable def top(i:Nat):Stmt:=PySem.Challenge.pw_tokenwright_k13_whole_unused.main.body.getD i (.Pass #[0,0,0,0])
def rows:List xg:=
 #["in_order","in_order","",top 5,["signs"],["signs"],PL.nK]::
 #["all_but","all_but","",top 6,["signs"],["signs"],PL.pK]::
 #["is_ahead","is_ahead","",top 7,["one","other"],["one","other"],PL.nM]::
 #["stretch","stretch","",top 8,["first","last"],["first","last"],PL.pM]::
 #["read","read","",top 18,["text","reader","tree"],["text"],PL.zf]::
 #["joined","joined","",top 19,["kind","trees"],["kind","trees"],PL.rM]::
 #["Reader.__init__","__init__","Reader",inClass (top 20) 0,["self","text"],["self","text"],PL.j6]::
 #["Reader.sees","sees","Reader",inClass (top 20) 1,["self","signs"],["self","signs"],PL.j7]::
 #["Reader.passes","passes","Reader",inClass (top 20) 2,["self","signs"],["self","signs"],PL.iR]::
 #["Reader.choice","choice","Reader",inClass (top 20) 3,["self","trees"],["self"],PL.iS]::
 #["Reader.row","row","Reader",inClass (top 20) 4,["self","trees"],["self"],PL.kW]::
 #["Reader.repeat","repeat","Reader",inClass (top 20) 5,["self","tree"],["self"],PL.iT]::
 #["Reader.atom","atom","Reader",inClass (top 20) 6,["self"],["self"],PL.j8]::
 #["Reader.bracket","bracket","Reader",inClass (top 20) 7,["self","tree"],["self"],PL.hX]::
 #["Reader.sign_class","sign_class","Reader",inClass (top 20) 8,["self","turned","taken"],["self"],PL.fG]::
 #["Reader.item","item","Reader",inClass (top 20) 9,["self","first","second_at","second"],["self"],PL.j9]::
 #["Reader.written_sign","written_sign","Reader",inClass (top 20) 10,["self","marked","sign"],["self","marked"],PL.eJ]::
 #["written","written","",top 56,["tree"],["tree"],PL.pN]::
 #["row_text","row_text","",top 57,["tree"],["tree"],PL.nN]::
 #["repeat_text","repeat_text","",top 58,["tree","marks","inner"],["tree"],PL.kc]::
 #["atom_text","atom_text","",top 59,["tree"],["tree"],PL.mf]::
 #["place_text","place_text","",top 60,["signs"],["signs"],PL.kX]::
 #["sign_text","sign_text","",top 61,["sign","marked"],["sign","marked"],PL.mh]::
 #["class_texts","class_texts","",top 62,["signs","texts"],["signs"],PL.ke]::
 #["guarded","guarded","",top 63,["items"],["items"],PL.pO]::
 #["class_items","class_items","",top 64,["signs","items","run"],["signs"],PL.kf]::
 #["runs","runs","",top 65,["signs","found","run","sign"],["signs"],PL.zg]::
 #["run_items","run_items","",top 66,["run","singles","whole"],["run"],PL.mi]::
 #["places_of","places_of","",top 24,["rules","most","layout","number","rule","part"],["rules","most"],PL.lT.mm]::
 #["tree_of","tree_of","",top 25,["rule","number","fault"],["rule","number"],PL.lT.pP]::
 #["members","members","",top 26,["bits"],["bits"],PL.lT.pQ]::
 #["Part.__init__","__init__","Part",inClass (top 27) 0,["self","empty","firsts","lasts"],["self","empty","firsts","lasts"],PL.lT.mn]::
 #["one_behind_other","one_behind_other","",top 28,["one","other","firsts","lasts"],["one","other"],PL.lT.fU]::
 #["one_or_other","one_or_other","",top 29,["one","other"],["one","other"],PL.lT.jv]::
 #["Layout.__init__","__init__","Layout",inClass (top 30) 0,["self"],["self"],PL.lT.kg]::
 #["Layout.how_many","how_many","Layout",inClass (top 30) 1,["self"],["self"],PL.lT.gD]::
 #["Layout.close_rule","close_rule","Layout",inClass (top 30) 2,["self","part"],["self","part"],PL.lT.fH]::
 #["Layout.link","link","Layout",inClass (top 30) 3,["self","lasts","firsts","place"],["self","lasts","firsts"],PL.lT.kh]::
 #["Layout.lay","lay","Layout",inClass (top 30) 4,["self","tree"],["self","tree"],PL.lT.kY]::
 #["Layout.lay_place","lay_place","Layout",inClass (top 30) 5,["self","signs","place"],["self","signs"],PL.lT.fV]::
 #["Layout.lay_row","lay_row","Layout",inClass (top 30) 6,["self","trees","whole","tree","part"],["self","trees"],PL.lT.ie]::
 #["Layout.lay_choice","lay_choice","Layout",inClass (top 30) 7,["self","trees","whole","tree"],["self","trees"],PL.lT.fI]::
 #["Layout.lay_repeat","lay_repeat","Layout",inClass (top 30) 8,["self","tree","marks","inner","part","empty"],["self","tree"],PL.lT.fJ]::
 #["useful_places","useful_places","",top 31,["layout","takes_some","grown","lasts","useful","place"],["layout"],PL.lT.iU]::
 #["places_that_take","places_that_take","",top 32,["layout","sign"],["layout","sign"],PL.lT.fW]::
 #["Places.__init__","__init__","Places",inClass (top 33) 0,["self","layout","useful"],["self","layout"],PL.lT.ki]::
 #["Places.beyond","beyond","Places",inClass (top 33) 1,["self","held","reached","place"],["self","held"],PL.lT.iV]::
 #["Places.first_rule","first_rule","Places",inClass (top 33) 2,["self","held","number","lasts"],["self","held"],PL.lT.fK]::
 #["table_of","table_of","",top 36,["rules"],["rules"],PL.Ab.nQ]::
 #["Table.__init__","__init__","Table",inClass (top 37) 0,["self","told","rows"],["self","told","rows"],PL.Ab.k8]::
 #["Table.goes","goes","Table",inClass (top 37) 2,["self","state","sign"],["self","state","sign"],PL.Ab.k9]::
 #["spread","spread","",top 38,["places","lots","numbers","rows","reach","row","sign","held"],["places"],PL.Ab.rN]::
 #["smallest","smallest","",top 39,["table","blocks","told","rows","state","row"],["table"],PL.Ab.nU]::
 #["with_nowhere","with_nowhere","",top 40,["rows","nowhere"],["rows"],PL.Ab.jx]::
 #["rounds","rounds","",top 41,["told","rows","signs","found","finer"],["told","rows"],PL.Ab.rO]::
 #["parted","parted","",top 42,["blocks","rows","signs","keys","state","row"],["blocks","rows","signs"],PL.Ab.rP]::
 #["numbered","numbered","",top 43,["keys","numbers"],["keys"],PL.Ab.nV]::
 #["telling_signs","telling_signs","",top 44,["rows","firsts","sign"],["rows"],PL.Ab.iW]::
 #["Table.size","size","Table",inClass (top 37) 1,["self"],["self"],PL.GU.lg]::
 #["first_texts","first_texts","",top 49,["table","texts","state","sign","behind"],["table"],PL.GU.ko]::
 #["sample","sample","",top 48,["table","texts","number"],["table","texts","number"],PL.GU.rR]::
 #["samples","samples","",top 46,["rules","table","texts"],["rules"],PL.GU.pR]::
 #["unused","unused","",top 47,["rules"],["rules"],PL.GU.rQ]::
 #["Walk.__init__","__init__","Walk",inClass (top 52) 0,["self","places"],["self","places"],PL.lT.mq]::
 #["Walk.may_go_on","may_go_on","Walk",inClass (top 52) 1,["self"],["self"],PL.lT.ig]::
 #["Walk.along","along","Walk",inClass (top 52) 2,["self","text"],["self","text"],PL.lT.kZ]::
 #["Walk.step","step","Walk",inClass (top 52) 3,["self","sign","held","rule"],["self","sign"],PL.lT.mr]::
 #["Lexer.__init__","__init__","Lexer",inClass (top 53) 0,["self","rules"],["self","rules"],PL.lT.k5]::
 #["Lexer.token","token","Lexer",inClass (top 53) 1,["self","text","at","walk"],["self","text","at"],PL.lT.kj]::
 #["_law_cell","_law_cell","",top 68,["_law_script","_law_k"],["_law_script","_law_k"],PL.tW.mj]::
 #["_law_mix","_law_mix","",top 69,["_law_script","_law_k","_law_number"],["_law_script","_law_k"],PL.tW.nO]::
 #["_law_all","_law_all","",top 72,["_law_low"],[],PL.tW.nP]::
 #["_law_nothing","_law_nothing","",top 73,["_law_tree"],["_law_tree"],PL.lT.jw]::
 #["_law_small","_law_small","",top 82,["_law_script","_law_base","_law_deep","_law_number","_law_way","_law_parts"],["_law_script","_law_base","_law_deep"],PL.lT.k6]::
 #["_law_trees","_law_trees","",top 83,["_law_script","_law_base","_law_many","_law_deep","_law_found","_law_k","_law_tree"],["_law_script","_law_base","_law_many","_law_deep"],PL.lT.k7]::
 #["_law_text","_law_text","",top 84,["_law_script","_law_base","_law_many"],["_law_script","_law_base","_law_many"],PL.lT.mv]::[]
def T:Tab where
 const:=[("SIGNS",.str PL.SG),("MARKED_OUTSIDE",.str [46,124,40,41,91,93,42,43,63,92]),("MARKED_WITHIN",.str [93,45,92]),("DEEPEST",.int 6),("REPEATS",.tab [([42],[115,116,97,114]),([43],[112,108,117,115]),([63],[109,97,121,98,101])]),("BEHIND_BACKSLASH",.str [46,124,40,41,91,93,42,43,63,92,45,94,110]),("MOST_RULES",.int 6),("AHEAD",.int 1),("MOST_PLACES_tables",.int 10),("MOST_PLACES_lexing",.int 24),("MARKS",.tab [([115,116,97,114],[42]),([112,108,117,115],[43]),([109,97,121,98,101],[63])])]
 fns:=Ks rows
 qI:=["Reader","Part","Layout","Places","Table","Walk","Lexer"]
 qJ:=Kt rows
 zh:=["text","at","depth","rule","empty","firsts","lasts","signs","behind","ends","takers","takes","told","rows","places","reach","passed","found"]
 mJ:=["len","tuple","list","dict","sum","min","max","all","any","range","enumerate"]
theorem ZH:rows.all Gv=true:=by decide +kernel
theorem ZI:rows.all (Sj T)=true:=by decide +kernel
theorem ZJ:rows.map (λr=>KJ T 60 #[(bN r.st).names,r.N,true] (fQ r.st))=rows.map λr=>some r.b:=by kernel_rfl
theorem WQ:∀r∈rows,zS r:=by
 unfold rows
 repeat' refine aS.mpr #[?_,?_]
 all_goals first|exact λ_ h=>(cx h).elim|exact bd1 rfl λ_ _ _ _ _ _ _ _ _=>rfl|exact bd2 rfl λ_ _ _ _ _ _ _ _ _ _=>rfl|exact bd3 rfl λ_ _ _ _ _ _ _ _ _ _ _=>rfl|exact bd0 rfl λ_ _ _ _ _ _ _ _=>rfl|exact bd4 rfl λ_ _ _ _ _ _ _ _ _ _ _ _=>rfl
abbrev sL:Stmt:=top 85
theorem Sq:l7 ["_law_script","_law_trees_here","_law_rules","_law_gone","_law_kept","_law_lexer","_law_other","_law_text_here","_law_at","_law_one_here","_law_two"] ["_law_script"] (bN sL):=#[rfl,rfl,rfl,by decide +kernel,rfl,by decide +kernel,by decide +kernel]
theorem Sr:KJ T 60 #[(bN sL).names,["_law_script","_law_trees_here","_law_rules","_law_gone","_law_kept","_law_lexer","_law_other","_law_text_here","_law_at","_law_one_here","_law_two"],true] (fQ sL)=some PL.GU.Ec:=by kernel_rfl
end DF
end
section
set_option autoImplicit true
namespace DF
open PySem PySem.Spec PyProof.Rows PySem.W L2
theorem all_mk{l:Hb}{w:cy}{K:Frag}{h:Heap}{mg:Str->Option Value}{fa:Addr}(X:K.In h)(G:h.Ns bz mg)(hfa:mg "law"=some (.ref fa))
  (a_law:nsIn K bz "law"=some (some (.ref fl)))
  (f_law:Gu K "law" "law" sL fl)
  (hC:∀p∈([("Reader",C_Reader),("Part",C_Part),("Layout",C_Layout),("Places",C_Places),("Table",C_Table),("Walk",C_Walk),("Lexer",C_Lexer)]:List (String×Addr)),NK K p T.zh)
  (hR:∀r∈rows,BJ K [("Reader",C_Reader),("Part",C_Part),("Layout",C_Layout),("Places",C_Places),("Table",C_Table),("Walk",C_Walk),("Lexer",C_Lexer)] r)
  (a_SIGNS:nsIn K bz "SIGNS"=some (some (.str z_SIGNS t_SIGNS)))
  (e_SIGNS:z_SIGNS=tx PL.SG)
  (a_MARKED_OUTSIDE:nsIn K bz "MARKED_OUTSIDE"=some (some (.str z_MARKED_OUTSIDE t_MARKED_OUTSIDE)))
  (e_MARKED_OUTSIDE:z_MARKED_OUTSIDE=tx [46,124,40,41,91,93,42,43,63,92])
  (a_MARKED_WITHIN:nsIn K bz "MARKED_WITHIN"=some (some (.str z_MARKED_WITHIN t_MARKED_WITHIN)))
  (e_MARKED_WITHIN:z_MARKED_WITHIN=tx [93,45,92])
  (a_DEEPEST:nsIn K bz "DEEPEST"=some (some (.int 6 t_DEEPEST)))
  (a_REPEATS:nsIn K bz "REPEATS"=some (some (.ref r_REPEATS)))
  (l_REPEATS:K.lookup r_REPEATS=some #[.type "dict",none,.dict es_REPEATS ec_REPEATS,#[]])
  (kl_REPEATS:BU w.params es_REPEATS.toList)
  (ky_REPEATS:es_REPEATS.toList.map (λe=>Gx e.key)= [some ("*":Str),some ("+":Str),some ("?":Str)])
  (sm_REPEATS:(r_REPEATS==bZ)=false)
  (r_REPEATS0:nsIn K r_REPEATS "*"=some (some (.str z_REPEATS0 t_REPEATS0)))
  (re_REPEATS0:z_REPEATS0=tx [115,116,97,114])
  (r_REPEATS1:nsIn K r_REPEATS "+"=some (some (.str z_REPEATS1 t_REPEATS1)))
  (re_REPEATS1:z_REPEATS1=tx [112,108,117,115])
  (r_REPEATS2:nsIn K r_REPEATS "?"=some (some (.str z_REPEATS2 t_REPEATS2)))
  (re_REPEATS2:z_REPEATS2=tx [109,97,121,98,101])
  (a_BEHIND_BACKSLASH:nsIn K bz "BEHIND_BACKSLASH"=some (some (.str z_BEHIND_BACKSLASH t_BEHIND_BACKSLASH)))
  (e_BEHIND_BACKSLASH:z_BEHIND_BACKSLASH=tx [46,124,40,41,91,93,42,43,63,92,45,94,110])
  (a_MOST_RULES:nsIn K bz "MOST_RULES"=some (some (.int 6 t_MOST_RULES)))
  (a_AHEAD:nsIn K bz "AHEAD"=some (some (.int 1 t_AHEAD)))
  (a_MOST_PLACES_tables:nsIn K bz "MOST_PLACES_tables"=some (some (.int 10 t_MOST_PLACES_tables)))
  (a_MOST_PLACES_lexing:nsIn K bz "MOST_PLACES_lexing"=some (some (.int 24 t_MOST_PLACES_lexing)))
  (a_MARKS:nsIn K bz "MARKS"=some (some (.ref r_MARKS)))
  (l_MARKS:K.lookup r_MARKS=some #[.type "dict",none,.dict es_MARKS ec_MARKS,#[]])
  (kl_MARKS:BU w.params es_MARKS.toList)
  (ky_MARKS:es_MARKS.toList.map (λe=>Gx e.key)= [some ("star":Str),some ("plus":Str),some ("maybe":Str)])
  (sm_MARKS:(r_MARKS==bZ)=false)
  (r_MARKS0:nsIn K r_MARKS "star"=some (some (.str z_MARKS0 t_MARKS0)))
  (re_MARKS0:z_MARKS0=tx [42])
  (r_MARKS1:nsIn K r_MARKS "plus"=some (some (.str z_MARKS1 t_MARKS1)))
  (re_MARKS1:z_MARKS1=tx [43])
  (r_MARKS2:nsIn K r_MARKS "maybe"=some (some (.str z_MARKS2 t_MARKS2)))
  (re_MARKS2:z_MARKS2=tx [63])
  (hz:∀b∈T.mJ,nsIn K bz (cw b)=some none)
  : ∃fd:fq,(∀(s:az)(v:Value),BP s fd #[[v],[]] [("_law_script",v)])/\∀base:Heap,K.In base->base.Ns bz mg->kI l.prog w K mg base (ug l.prog w) 200 fa fd ["_law_script"] (zw K):=by
 have e:=hfa.symm.trans (qd X G a_law);cases e;let#[oc,od,kV,dc,pm,an,cd,ct,sl,h1,h2,h3]:=f_law;refine#[fnOf "law" "law" (l9 sL) (fQ sL) (bN sL) .none kV dc pm an cd ct,λs v=>.of_eq rfl,λbase _ _=>?_]
 let c:L2.Ctx:=#[l.prog,w,K,mg,base,λx=>([("Reader",C_Reader),("Part",C_Part),("Layout",C_Layout),("Places",C_Places),("Table",C_Table),("Walk",C_Walk),("Lexer",C_Lexer)]:List (String×Addr)).lookup x]
 have hT:IT c T:=by
  refine#[?_,λx hx=>mg_none_of X G (hz x hx),Sl rfl hC]
  .exact(aS.mpr #[uW (qd X G a_SIGNS) e_SIGNS,(aS.mpr #[uW (qd X G a_MARKED_OUTSIDE) e_MARKED_OUTSIDE,(aS.mpr #[uW (qd X G a_MARKED_WITHIN) e_MARKED_WITHIN,(aS.mpr #[#[.int 6,_,qd X G a_DEEPEST,#[t_DEEPEST,rfl],λ_ _=>aR.mpr rfl],(aS.mpr #[WD (qd X G a_REPEATS) l_REPEATS kl_REPEATS ky_REPEATS sm_REPEATS (by kernel_rfl:("*":Str)=tx [42]) (by kernel_rfl:("+":Str)=tx [43]) (by kernel_rfl:("?":Str)=tx [63]) r_REPEATS0 re_REPEATS0 r_REPEATS1 re_REPEATS1 r_REPEATS2 re_REPEATS2,(aS.mpr #[uW (qd X G a_BEHIND_BACKSLASH) e_BEHIND_BACKSLASH,(aS.mpr #[#[.int 6,_,qd X G a_MOST_RULES,#[t_MOST_RULES,rfl],λ_ _=>aR.mpr rfl],(aS.mpr #[#[.int 1,_,qd X G a_AHEAD,#[t_AHEAD,rfl],λ_ _=>aR.mpr rfl],(aS.mpr #[#[.int 10,_,qd X G a_MOST_PLACES_tables,#[t_MOST_PLACES_tables,rfl],λ_ _=>aR.mpr rfl],(aS.mpr #[#[.int 24,_,qd X G a_MOST_PLACES_lexing,#[t_MOST_PLACES_lexing,rfl],λ_ _=>aR.mpr rfl],(aS.mpr #[WD (qd X G a_MARKS) l_MARKS kl_MARKS ky_MARKS sm_MARKS (by kernel_rfl:("star":Str)=tx [115,116,97,114]) (by kernel_rfl:("plus":Str)=tx [112,108,117,115]) (by kernel_rfl:("maybe":Str)=tx [109,97,121,98,101]) r_MARKS0 re_MARKS0 r_MARKS1 re_MARKS1 r_MARKS2 re_MARKS2,(λ_ h=>(cx h).elim)])])])])])])])])])])])
 have hB:Base c T 1:=#[hT]
 have G0:gE c T (λ_=>xf) 1:=Sk X G rfl hC hR WQ rfl rfl (aS.mpr #[#[rows[6],bT _,rfl,rfl,rfl],(aS.mpr #[#[rows[31],bT _,rfl,rfl,rfl],(aS.mpr #[#[rows[34],bT _,rfl,rfl,rfl],(aS.mpr #[#[rows[45],bT _,rfl,rfl,rfl],(aS.mpr #[#[rows[49],bT _,rfl,rfl,rfl],(aS.mpr #[#[rows[63],bT _,rfl,rfl,rfl],(aS.mpr #[#[rows[67],bT _,rfl,rfl,rfl],(λ_ h=>(cx h).elim)])])])])])])]);have R:=NL (c:=c) X G rfl hC hR WQ ZH ZI ZJ;erw[MU (Ku #[R 0 _ rfl,R 1 _ rfl,R 2 _ rfl,R 3 _ rfl,R 4 _ rfl,R 5 _ rfl,R 6 _ rfl,R 7 _ rfl,R 8 _ rfl,R 9 _ rfl,R 10 _ rfl,R 11 _ rfl,R 12 _ rfl,R 13 _ rfl,R 14 _ rfl,R 15 _ rfl,R 16 _ rfl] #[R 17 _ rfl,R 18 _ rfl,R 19 _ rfl,R 20 _ rfl,R 21 _ rfl,R 22 _ rfl,R 23 _ rfl,R 24 _ rfl,R 25 _ rfl,R 26 _ rfl,R 27 _ rfl] #[R 28 _ rfl,R 29 _ rfl,R 30 _ rfl,R 31 _ rfl,R 32 _ rfl,R 33 _ rfl,R 34 _ rfl,R 35 _ rfl,R 36 _ rfl,R 37 _ rfl,R 38 _ rfl,R 39 _ rfl,R 40 _ rfl,R 41 _ rfl,R 42 _ rfl,R 43 _ rfl,R 44 _ rfl,R 45 _ rfl,R 46 _ rfl,R 47 _ rfl] #[R 48 _ rfl,R 49 _ rfl,R 50 _ rfl,R 51 _ rfl,R 52 _ rfl,R 53 _ rfl,R 54 _ rfl,R 55 _ rfl,R 56 _ rfl,R 57 _ rfl] #[R 58 _ rfl,R 59 _ rfl,R 60 _ rfl,R 61 _ rfl,R 62 _ rfl] #[R 63 _ rfl,R 64 _ rfl,R 65 _ rfl,R 66 _ rfl,R 67 _ rfl,R 68 _ rfl] #[R 69 _ rfl,R 70 _ rfl,R 71 _ rfl,R 72 _ rfl,R 73 _ rfl,R 74 _ rfl,R 75 _ rfl] (HE h1 h2 h3) Sq Sr rfl rfl hB G0)]
theorem walk{l:Hb}{q:bD}{loose:List Str}{XP:(Str->Option Value)->Heap->Prop}{YP:cy->Heap->Prop}{d:DefRec}{K:Params->Frag}(hn:l.most=some 63)(hdf:d.params.defaults=[])
  (hY:∀(w:cy)(h:Heap),YP w h->(K w.params).In h)
  (F:∀(w:cy)(mg:Str->Option Value)(fa:Addr)(h:Heap),(K w.params).In h->h.Ns bz mg->mg d.name=some (.ref fa) ->
   ∃fd:fq,(∀(s:az)(u:Value),BP s fd #[[u],[]] [("_law_script",u)])/\∀base:Heap,(K w.params).In base->base.Ns bz mg->kI l.prog w (K w.params) mg base (ug l.prog w) 200 fa fd ["_law_script"] (zw (K w.params))):
  WalkO q loose XP YP l.row.toRowW d [] (λf vs=>E0 f vs):=
 L2.LB (n:=63) (k:=200) (x:="_law_script") (CX:=λw=>ug l.prog w) (sp:=λw=>zw (K w.params)) hn ⋯ hdf #[rfl,⋯,⋯] hY F (λ_ _ a ns hl o hS=>#[a,ns,rfl,hl,Ji o hS,λ_=>rfl]) λ_ _ _ _ _ z=>QP z
end DF
end
end Lake
end
section
open Lake
structure PySem.W.Fast:Prop where(tw14529635348020133997 tw9776127993473040326 tw7804105504653767595 tw1870221704598032916 tw13388363812990271743 tw17993912796262272302 tw754508519059996837 tw9950637772006931426 tw11734877084585972443 tw13944147826923542618 tw10407235699580079864 tw14033450342781399395 tw14353275347759170490 tw4267414338329483208 tw14926355089665592470 tw4639173080969404398 tw6792055012044576536 tw4025901139593989388 tw12430667130587394287 tw1751358282514811569 tw6319073074422191983 tw14992456669181006970 tw14194784012743396279 tw11669227261374025029 tw15303261053686227882 tw6103459244972314585 tw10644760200053429261 tw7335987286332269536 tw931614291083662643 tw12384000930842897466 tw17684049726599436166 tw17914580633436783559 tw2109708537194470437 tw50928276614202914 tw7757543681485505619 tw13204568081306138529 tw4112185782222575987 tw14951077196671095072 tw11254020067448638407 tw4799151956955285023 tw2263326840996414786 tw8609025609700537924 tw7172702003712960376 tw15214873298829839779 tw1590318161015240601 tw12663946190104107926 tw2921898853596135340 tw11771427451053737949 tw9790422294762005694 tw11889994092994766339 tw14513989232956058061 tw12128259224913555156 tw13798446274778848260 tw1198595342173265663 tw13694290091163228721 tw1739303735392857320 tw5140243616475382655 tw11832060196764274244 tw14468387745467233034 tw17522600351538076473 tw8571542973904137989 tw7287626681581652913 tw4942975663485616575 tw13756978942734402146 tw11744746109812820392 tw8734390801491979284 tw6505168171221210084 tw17507679171587915142 tw9927817624191951718 tw6070456807199130313 tw4783925868649578032 tw12531991228275695671 tw1354912157566454680 tw8882688487244022605 tw5982485706179811875 tw10282651202393108929 tw7614225010697226892 tw13828024645901827613 tw5115069761260777924 tw14601361782616410431 tw7492655025073033998 tw9471517734678763371 tw14754275384680700097 tw14944120449834462660 tw4965986776633251557 tw7715846388526126704 tw11917116092628538700 tw6756624717989487654 tw14700530599855883847 tw9756586317388839376 tw3052168576961600533 tw13649648576429000964 tw18167921290976079083 tw424523200034396797 tw11982761167371665676 tw1721377081925500308 tw16817992342237307821 tw17820217314218734 tw1958807046478989152 tw17003875975388163286 tw11317955222965378850 tw1689007709500545349 tw17414771208370503958 tw16880956610829197394 tw11966947491688849495 tw16676238487499823245 tw13514349877269536392 tw5213822305672984057 tw16519938761062415861 tw16381693888737638060 tw368302265529711082 tw11644316345709411045 tw8218651749994754936 tw15016192343658233364 tw4079169444843357667 tw1630525943993323197 tw16318717210156735626 tw12078131308622147007 tw7357824558222271390 tw17079489837968290292 tw8817983165078464877 tw5391873882231638219 tw4307181086860665260 tw8223363953932589785 tw9515302847700734365 tw16375376950386338358 tw10409748801726605851 tw16393496247049898527 tw11900727956027551801 tw1281986713284923318 tw8002830110823715891 tw3493293909467392123 tw3650760921603563298 tw8327022915320086987 tw5373824867745912581 tw10083302020588706394 tw17069303319083021304 tw1275466004009828578 tw5187675438853395924 tw12530874350803342909 tw4149720780207519467 tw1276138033470763821 tw8127931858385905190 tw13513974336360442419 tw8204826741686829401 tw15736482794681557146 tw8963907232824688677 tw602553713345525711 tw6333137112792554338 tw2204587219986434376 tw12777401621592889940 tw11277278346760755117 tw11678994217213519128 tw9639424523956392 tw8539438342636097660 tw12645287675623586889 tw9570281288685819671 tw11060471892296836671 tw11006240259138275293 tw10089258042015135102 tw13735430946722573584 tw2851600561062737546 tw7871302684380453383 tw369749247118819704 tw5194525879308075713 tw15487364150731586316 tw2099124546375032043 tw4034872384440688623 tw226501716233447400 tw10917834166843549441 tw14818435830105516669 tw2541366534216874381 tw6843202572090812041 tw5853174328974354946 tw755400383711491411 tw2766081739245196239 tw9045747380086514777 tw73318227900069029 tw14414768957018069555 tw5357349888411414590 tw2205239259234818206 tw4133384635557178614 tw11643947937643645783 tw16754531854480968344 tw6186867303804965475 tw5371178948733169099 tw17459814644161921386 tw4160745877492112131 tw16337385219663885601 tw12684382745089138369 tw102246693542364818 tw17318980040513993868 tw12446427332123976782 tw12145127031163809335 tw8274104373141279990 tw2658690760510874847 tw3844780555878590573 tw4465646787808937721 tw16717507719090783131 tw15816784710597338553 tw13042001274989073072 tw9809663587099842276 tw16483598842988456505 tw396140400943323810 tw14159155706863078338 tw4281093782399254390 tw17687058249899746040 tw6897521323911467320 tw16083193922239709118 tw1149496489814032035 tw7976408594780625916 tw5830164144963578717 tw8380859730941770592 tw2789188761452677129 tw518346303261079678 tw5258118492021384388 tw14920272515764584750 tw17192358741217653191 tw15008701009974951362 tw17894268025259393304 tw9938035967100626889 tw12050088930741643591 tw18342983230900453193 tw10128341960138329228 tw630460161249936873 tw15333207445599174880 tw9245821001402719396 tw15735123076363774557 tw9365298671226876708 tw3810883525154849480 tw770486534646571946 tw11051893532647347794 tw18351900783796694309 tw3907221457490835563 tw8790861641534611256 tw6144792596282572490 tw13732583853219218840 tw6529812253913129385 tw3607915752067608087 tw14717091701239561699 tw7034147498017267234 tw17968060042271208704 tw16553860786147539614 tw16094258279305185712 tw14117937986948221337 tw8691168561176063441 tw2125960431914923722 tw2118134167039437890 tw12711921445761796934 tw8030842157773609214 tw2408765989351321785 tw10320059775519434329 tw6570690291398605049 tw3908378245117262159 tw29256858231575875 tw1334425497172172234 tw13737030247557768679 tw6456342695798941679 tw4496142191177578835 tw14913899878133034342 tw7697399457929504159 tw17690354852142649371 tw7818212133249949755 tw16517843623149266268 tw1548255460323170258 tw15850562001859905659 tw9300864709303114899 tw2960892893944133448 tw16237132789106747085 tw5137374150043486394 tw5351198128866155369 tw996860965513140027 tw4093937942736477618 tw13685819690521117328 tw5961376417658794115 tw10083591480391634605 tw18412370913034731340 tw16282621904450671128 tw16278895578430363511 tw15696517132093420890 tw8215211096992371639 tw9771015436295924204 tw16204050447668891022 tw15488384401674158090 tw2738826685687130108 tw7344435579912937847 tw13977822728032568307 tw3276642154541088998 tw5147537380003549921 tw18361201108201041586 tw18181518295862511344 tw17178853745820946904 tw16308838820227966377 tw15923299691181462049 tw14646064051274868098 tw12293177946688457533 tw10341702728519385014 tw2716281865659000604 tw3513406784643905543 tw16063203043875725427 tw5155652220228228882 tw12359947016282180150 tw7316034076515018584 tw9826668149077967631 tw4337204548564175064 tw3355751572316644061 tw3263703930292720153 tw16868439261466070673 tw13257448230788504100 tw10619223474053535036 tw3400211738309272647 tw14417082103790005310 tw17261532081179611621 tw14373813046643314061 tw8997608160153962821 tw893713474294851137 tw8818901179580901134 tw8387654883297955676 tw8024943330236081498 tw7500311903217499257 tw7461193946649390698 tw7150746045540293181 tw7006727267942215993 tw6855145218038014769 tw6291424356282385400 tw6276592853603558691 tw6081283542825834933 tw5764110083633822264 tw5383085266958012653 tw531939335868240491 tw4570049298522406097 tw2049420778724976059 tw18020829070497773958 tw18013942900405958791 tw17606947665636757640 tw17199911554013697667 tw16607046037926606950 tw1635391574593432843 tw15026595100514466577 tw1342276766116084863 tw13320559198928584235 tw12265460340725991598 tw1218409684425675905 tw11795578071489043595 tw11143935022440446449 tw10658119057223357263 tw10283250491124079568 tw6978825443489132651 tw11168508911425984200 tw16635999460835468120 tw15232191696767289439 tw17215991578999671221 tw16220082823478353387 tw14112170551587671831 tw12660586887311256087 tw9152896524783841915 tw8887988774980762378 tw8701814881824727307 tw8487374841227106721 tw706019790374912349 tw4825351733467570174 tw4705793453292868389 tw4199084984134747149 tw3151140862082296805 tw2716993232920103535 tw16765636376804124347 tw16186099840534102941 tw1300690544818676134 tw11464418589653172368 tw11247027551747591811 tw17540063538000605170 tw12416519248972510321 tw8841480902716110818 tw6417849050866232426 tw6096351508250015862 tw5463737997383094740 tw17991142072673359768 tw11728039308200115873 tw9280108349095550986 tw3049246416230532445 tw13168611183581368982 tw18058846393900405340 tw16212344724636976002 tw15809784217471332458 tw15751904053907204242 tw12791585712798317830 tw10855631217181343930 tw9893045227940679026 tw5876764892788562791 tw18385358160273226934 tw3250492998704542057 tw4695867060292182330 tw17090373337286136523 tw15729490493673963373 tw10440886545519119766 tw9006592928661301712 tw8799722410283765885 tw8670187946347393661 tw8368583138158340406 tw7978033789336558187 tw7869892812770621252 tw7724084193707639874 tw749374968289685869 tw6937690674552863570 tw4696029980740507736 tw4050337510259859933 tw3373592385341634662 tw3136441953176441300 tw222665246808372377 tw18429242595720147220 tw18354112584092589216 tw1792633474052495931 tw17860364787518472165 tw17313792140448693163 tw16928035640124653739 tw16110694219705168341 tw15888508725970368140 tw15577935354612154051 tw15158635874848835183 tw14995422132195975884 tw14657499292219144173:True)
open PySem PySem.W PyProof.Rows
set_option maxRecDepth 100000 in
set_option maxHeartbeats 0 in
theorem PySem.Challenge.cw_tokenwright_k13_whole_unused_holds : PySem.Challenge.rw_tokenwright_k13_whole_unused.Holds := by
 w_on;o_law;k_head;(case hw=>w_witness2)
 k_fill
 refine DF.walk (l:=PySem.Challenge.rw_tokenwright_k13_whole_unused) rfl rfl (fun w h Y=>PySem.W.kIn_of Y) ?F
 case F=>
  intro w mg fa h KX G hmg;refine' DF.all_mk KX G hmg ?a_law ?f_law ?hC ?hR ?a_SIGNS ?e_SIGNS ?a_MARKED_OUTSIDE ?e_MARKED_OUTSIDE ?a_MARKED_WITHIN ?e_MARKED_WITHIN ?a_DEEPEST ?a_REPEATS ?l_REPEATS ?kl_REPEATS ?ky_REPEATS ?sm_REPEATS ?r_REPEATS0 ?re_REPEATS0 ?r_REPEATS1 ?re_REPEATS1 ?r_REPEATS2 ?re_REPEATS2 ?a_BEHIND_BACKSLASH ?e_BEHIND_BACKSLASH ?a_MOST_RULES ?a_AHEAD ?a_MOST_PLACES_tables ?a_MOST_PLACES_lexing ?a_MARKS ?l_MARKS ?kl_MARKS ?ky_MARKS ?sm_MARKS ?r_MARKS0 ?re_MARKS0 ?r_MARKS1 ?re_MARKS1 ?r_MARKS2 ?re_MARKS2 ?hz
  (case a_law=>k_is)
  (case f_law=>exact⟨_,_,_,_,_,_,_,_,_,by k_is,by k_is,by k_is⟩)
  (case hC=>(repeat' refine aS.mpr ⟨?_,?_⟩);all_goals first | exact fun _ h=>(cx h).elim | exact⟨(by(try dsimp only);k_is),⟨(by(try dsimp only);k_is),(by(try dsimp only);k_is),(by(try dsimp only);k_is),(by(try dsimp only);k_is)⟩,(by(try dsimp only);k_is),(by(try dsimp only);k_is),(by kernel_rfl)⟩)
  (case hR=>unfold DF.rows;(repeat' refine aS.mpr ⟨?_,?_⟩);all_goals first | exact fun _ h=>(cx h).elim | exact .fn (by k_is) ⟨_,_,_,_,_,_,_,_,_,by k_is,by k_is,by k_is⟩ | exact .mt rfl rfl (by k_is) (by k_is) ⟨_,_,_,_,_,_,_,_,_,by k_is,by k_is,by k_is⟩)
  (case a_SIGNS=>k_is)
  (case e_SIGNS=>kernel_rfl)
  (case a_MARKED_OUTSIDE=>k_is)
  (case e_MARKED_OUTSIDE=>kernel_rfl)
  (case a_MARKED_WITHIN=>k_is)
  (case e_MARKED_WITHIN=>kernel_rfl)
  (case a_DEEPEST=>k_is)
  (case a_REPEATS=>k_is)
  (case l_REPEATS=>k_is)
  (case kl_REPEATS=>exact⟨⟨_,_,rfl,rfl⟩,⟨⟨_,_,rfl,rfl⟩,⟨⟨_,_,rfl,rfl⟩,trivial⟩⟩⟩)
  (case ky_REPEATS=>kernel_rfl)
  (case sm_REPEATS=>kernel_rfl)
  (case r_REPEATS0=>k_is)
  (case re_REPEATS0=>kernel_rfl)
  (case r_REPEATS1=>k_is)
  (case re_REPEATS1=>kernel_rfl)
  (case r_REPEATS2=>k_is)
  (case re_REPEATS2=>kernel_rfl)
  (case a_BEHIND_BACKSLASH=>k_is)
  (case e_BEHIND_BACKSLASH=>kernel_rfl)
  (case a_MOST_RULES=>k_is)
  (case a_AHEAD=>k_is)
  (case a_MOST_PLACES_tables=>k_is)
  (case a_MOST_PLACES_lexing=>k_is)
  (case a_MARKS=>k_is)
  (case l_MARKS=>k_is)
  (case kl_MARKS=>exact⟨⟨_,_,rfl,rfl⟩,⟨⟨_,_,rfl,rfl⟩,⟨⟨_,_,rfl,rfl⟩,trivial⟩⟩⟩)
  (case ky_MARKS=>kernel_rfl)
  (case sm_MARKS=>kernel_rfl)
  (case r_MARKS0=>k_is)
  (case re_MARKS0=>kernel_rfl)
  (case r_MARKS1=>k_is)
  (case re_MARKS1=>kernel_rfl)
  (case r_MARKS2=>k_is)
  (case re_MARKS2=>kernel_rfl)
  (case hz=>unfold DF.T;(repeat' refine aS.mpr ⟨?_,?_⟩);all_goals first | exact fun _ h=>(cx h).elim | k_is)
end
