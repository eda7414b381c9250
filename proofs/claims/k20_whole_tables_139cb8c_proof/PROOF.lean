import PyProof.Rows.All
import Wide.All
import OpenK.AllK
import Wide.FinOn
import PyProof.EqAt
import PyProof.EqKinds
import PyProof.TupleCall
import PyProof.NeKinds
import KE.KMinBuiltin
import Lean
import PySem.Challenge.RW_tokenwright_k20_whole_tables
open Array renaming getElem?_eq_getElem->iz,length_toList->qh,forIn_toList->qL,toList->z7,getElem?_eq_none->Aa
open Bool renaming false_eq_true->ag,and_eq_true->aj,false_ne_true->aV,not_true->a9,or_eq_true->bu,not_false->bK,eq_iff_iff->dw,not_eq_true->fH,not_eq_true'->gI,and_true->qR,true_and->zS,not_eq_false->He,noConfusion->KG
open Classical renaming byContradiction->kU
open False renaming elim->aT
open ForInStep renaming yield->eF
open Function renaming comp_def->dk
open Iff renaming rfl->qJ
open Int renaming emod_lt_of_pos->i6,toNat_natCast->jE,emod_nonneg->kT,ofNat_lt->t8,fdiv_eq_ediv_of_nonneg->x9,not_lt->yi,eq_ofNat_of_zero_le->BI,le_refl->E4
open Int.ofNat renaming inj->lA
open List renaming getElem?_eq_getElem->aa,getElem?_eq_some_iff->ae,mem_of_getElem?->af,getElem?_append_left->ah,length_map->ak,getElem?_set_ne->ao,getElem?_append_right->aw,map_cons->ay,length_append->az,mem_cons_of_mem->aA,getElem?_map->aB,getD_eq_getElem?_getD->aE,size_toArray->aG,map_append->aK,mem_append->aL,lookup_cons->aO,mem_cons_self->aQ,mem_cons->aR,forall_mem_cons->aW,length_cons->aZ,mem_append_right->ba,mem_append_left->bp,getElem?_of_mem->bq,map_map->bz,mem_singleton->bC,idxOf_lt_length_of_mem->bD,mem_map->bG,suffix_refl->bL,getElem?_set_self->bM,append_assoc->bP,all_cons->bQ,range->bX,take_length->bY,filterMap_cons->cj,append_nil->cq,length_set->cu,not_mem_nil->cv,all_eq_true->cB,getElem_mem->cC,length->cG,any_cons->cJ,getElem?_eq_none->cV,suffix_cons->df,map->dg,nodup_append->dq,length_take->dC,find?_cons->dJ,length_nil->dM,replicate->eD,getElem_idxOf->eG,drop_eq_getElem_cons->eT,mem_filter->eU,nodup_cons->eY,getElem?_mapIdx->fh,foldl_append->fj,foldl_nil->fG,lookup->fW,eq_nil_of_length_eq_zero->fY,take_of_length_le->gf,foldl_cons->gu,length_singleton->gC,contains_iff_mem->gE,getElem?_append->iq,getElem?_range->iG,nil_append->i0,map_nil->jv,length_eq_one_iff->jw,length_range->jx,getElem?_set->jz,drop_of_length_le->jA,take_add_one->jB,idxOf_append->jC,eq_nil_or_concat->j9,concat_eq_append->kb,any_eq_true->ke,mem_range->lE,mem_filterMap->lF,drop_zero->lG,length_mapIdx->lH,flatten_cons->mz,prefix_iff_eq_take->nV,cons_append->nW,forIn_cons->oE,lookup_cons_self->oZ,take_append_drop->pb,getElem_of_mem->qH,map_congr_left->qI,filterMap_map->sf,map_inj_right->sh,set_cons_succ->si,set_cons_zero->sj,set_set->tH,map_inj_left->tI,take_append_of_le_length->uP,of_mem_zip->v5,getElem?_concat_length->wo,forIn_nil->wI,nodup_nil->wQ,isPrefixOf_iff_prefix->wV,mem_of_find?_eq_some->yj,getElem?_take_of_lt->zJ,sum_cons->zR,getElem?_replicate->z8,getElem?_cons_zero->Af,length_eq_zero_iff->Ag,range_succ_eq_map->BH,all_map->BK,any_map->BM,length_filter_le->B3,filterMap_append->B5,drop_eq_nil_iff->DD,take_succ_cons->EZ,replicate_succ->E1,drop_succ_cons->E2,length_pos_iff->E5,lookup_append->GF,filter_append->GG,append_of_mem->GH,isEmpty_cons->Hf,mem_range'_1->Hg,flatMap_cons->Hh,getElem_inj->Kx,length_drop->Kz,drop_length->KC,filter_cons->KH,map_fst_zip->KL,map_snd_zip->KN,find?_some->La,sum_append->Lc
open List.IsSuffix renaming trans->m7
open List.Pairwise renaming nil->wO,map->wW
open List.cons renaming injEq->dE
open Nat renaming le_refl->aq,lt_of_lt_of_le->av,le_trans->aH,ne_of_lt->aY,lt_succ_of_lt->bf,pow_le_pow_right->bw,le_of_lt->bA,testBit_and->bB,sub_self->bR,zero_le->b8,lt_irrefl->cD,testBit_or->cK,not_lt_zero->cZ,lt_succ_self->dj,ne_of_gt->du,lt_succ_iff_lt_or_eq->fD,le_of_not_lt->fM,lt_of_le_of_lt->gg,pow_succ->gh,testBit_one_eq_true_iff_self_eq_zero->gJ,eq_of_testBit_eq->iw,le_succ->jk,lt_trans->jD,not_lt->l7,le_succ_of_le->mS,succ_le_succ->oa,le_add_right->og,zero_add->oG,mul_le_mul_left->qS,one_shiftLeft->t4,lt_succ_of_le->t6,exists_testBit_of_ne_zero->v7,zero_or->v8,le_antisymm->wm,mul_le_mul->yk,le_of_eq->BV,lt_or_ge->BY,add_zero->B1,testBit_lt_two_pow->B4,lt_of_le_of_ne->Hi,lt_trichotomy->KA,or_lt_two_pow->KI,le_of_lt_succ->KJ,le_max_right->K8,lt_of_not_le->Lb,min_eq_right->Ld
open Nat.succ renaming inj->mR
open Ne renaming symm->cR
open Option renaming map_eq_some_iff->ar,bind_eq_some_iff->au,bind_eq_bind->aM,getD_some->fE,map_some->kr,getD_none->mQ,map_map->o9,isSome_some->qF,map_none->um,isSome_iff_exists->wK,isSome_map->EW,bind_some->GI
open Option.some renaming inj->aF,injEq->pO
open Prod renaming ext->wJ,fst->DB
open Prod.mk renaming inj->zX
open PyProof.Rows renaming slot_tuple_getitem->iS,callWith_type1->jK,AllBare->qg,envOfC->su,subscriptTail->ET,subscriptTail_builtinR->G7,IntsAre->G9
open PyProof.Rows.IsTup renaming new->GZ
open PyProof.Rows.LSm renaming kept_iter->Ac
open PySem renaming wpAny_bind->ab,wpAny_pure->ax,Shared->aC,model->bc,starEach->bx,compareOp->bF,mainGlobals->bI,Program->bO,sysModules->b7,wpAny_truthy_bool->cw,World->cy,binaryOp->cF,mem_of_lookup->cU,wpAny_newObj_type->dA,Around->dN,backTo->eJ,cLine->eL,keywordEach->eO,wpAny_Call_Name_kw->eV,FuncData->fF,wpAny_holding->fK,wpAny_mono->fL,wpAny_typeNameOfWhole_valiter->gD,tupleKind_room_in1->gH,wpAny_passesOwn->gW,swapsWith->hU,inplaceOp->ie,attributeBase->ij,wpAny_dictEntries->iy,dictSetDefault->iO,wpAny_call_entry->iX,cellsFrom->iZ,sizeLine_eq->jL,wpAny_callSpecial?_slot->jM,bootBuiltins->kg,Scope->kh,wpAny_pyIter_list->ki,valueAt->ly,sliceBounds->lz,call_meetsIn->mw,tupleKind->mP,Operator->mW,getItem->oB,Keyword->oC,wpAny_isInstance->pN,DictEntry->pS,wpAny_rule->qe,codeAny->qj,wpAny_execs_nil->qD,letOwnedTupleGo->qE,atKey->qG,isSubtype_tuple_tuple->qM,wpAny_notOrdered_dict->qP,wpAny_isOneOf_valiter->qQ,rawInt->sr,getMethod->tF,wpAny_tupleItemsOf->uK,assignEach->uL,stored->uO,wpAny_assign_Name->wd,codeAny_mono->we,callerA->wj,assign->xZ,pyNext->x8,noFill_tuple_add->yc,IsPart->yd,wpAny_field->zK,subscripted->zL,wpAny_specialOf->zY,Within->zZ,size_of_entries->z9,wpAny_dictEpoch->Ad,intKind->BC,BindsTo->BE,wpAny_seqItems->BR,entryOfKey->BS,builtinsNs->BU,callWith->BW,newFunctionEnv->BX,methodCallForm->BZ,seq_tuple_add->ES,call->EV,wpAny_standAt->EX,wpAny_comprehension_free->EY,eqIsQuiet->Gx,bindL->Gz,bindC->GB,wpAny_pyNext_list_item->GV,concat_meets->GX,wpAny_typeOf->GY,seqIndex_neg->G6,relabel->Hb,wpAny_pyNext_list_end->Ky,wpAny_mkInt->K1,wpAny_loadName_local->K3,CmpOp->K4,bindArgs->K5,seqIndex_of->K6,wpAny_updateDictKeys->K7,boot_len->K9
open PySem.Around renaming in1_units->tD,under->zI,under_plainId->BL
open PySem.Calls renaming spliced_cons->iY,callWith_builtin->jm,spliced_nil->mm,evalArgs_plain->pR,Name_function_global->wb
open PySem.Code renaming isFrame->BD
open PySem.Expr renaming Name->KD
open PySem.F renaming slot_dict_valueiterator_next->cM,slot_dict_get->d7,plainAttrs_dict->iT,entry_dict_get->i5,args_tuple_add_2->l6,entry_tuple_add->mv,slot_tuple_add->mY,plainAttrs_str->mZ,slot_list_getattribute->n9,args_dict_valueiterator_next_1->oH,entry_dict_valueiterator_next->o7,slot_tuple_eq->pW,slot_dict_values_iter->tG,slot_dict_setdefault->tZ,slot_dict_values->wk,args_dict_get_2->wR,args_dict_get_3->wU,plainAttrs_list->wX,type_dict_get->zO,slot_dict_len->zQ
open PySem.Heap renaming get?_push_of_some->aI,lt_size->aS,get?_push_size->bb,SameBut->gc,size_push->ig,get?_update_self->j8,get?_update_other->BF
open PySem.Heap.DictOf renaming new->BG
open PySem.Heap.SameBut renaming update->eP
open PySem.NameKind renaming free->bT,cell->fX
open PySem.Obj renaming data_mapDictKeys->kD,mapSeq->sv,mapFields->Ae,isFreed_of_dict->GD,data_mapFields->Hc
open PySem.SeqAt renaming EqAt->wg,notIn_listAt->EU
open PySem.SeqAt.EqAt renaming same->jJ,int_none->ox,str_none->oy,none_int->oz,none_str->oA,int_str->oX,str_int->oY,none_bool->wL,bool_none->wM,bool_bool->wN,bool_int->ye,bool_str->yf,int_bool->yg,str_bool->yh,int_int->zM,str_str->zN,of_refs->zP
open PySem.SeqAt.RcAt renaming tuples->Ab
open PySem.Str renaming ofString->b9,length->G8
open PySem.Value renaming ref->bj,none->fV,bool->j7,int->lu,str->lx,isInt->BQ,type->EO
open PySem.W renaming Frag->aJ,emptyDict->dm,findIn->dX,instObj->eM,keepIn->i4,fnOf->kC,plainGet->mr,methodCall_KW->n8,lookIn->oF,plainGet_of->pP,callWith_K0->pQ,callWith_K->qk,mg_of->qK,methodObj->qN,hasDictIn->qO,takerIn->tY,codeIn->uM,isFn->ya,cellsFrom_some->yb,pyHash_slot->BA,KeysLit->BJ,plainOver->DA,handedIn->ER,makesIn->Gy,OpenLaw->Ha,keepIn->Hd
open PySem.Walks renaming list->E3
open Sum renaming inr->i3,inl->wH
open Sum.inl renaming inj->zW
open Sum.inr renaming inj->tB
open True renaming intro->eh
set_option linter.all false
set_option Elab.async false
set_option maxRecDepth 100000
set_option maxHeartbeats 4000000
set_option genSizeOf false
set_option genInjectivity false
set_option bootstrap.genMatcherCode false
set_option compiler.extract_closed false
noncomputable section
section
local macro_rules | `(#[$x,$xs,*]) => `(⟨$x,$xs,*⟩) | `(#[$x]) => `(⟨$x⟩)
local macro_rules | `(∅) => `(by omega)
local macro_rules | `(⋯) => `(by decide)
local macro_rules | `(tactic| room) => `(tactic| walk_at "pk")
local macro_rules | `(#v[$x]) => `(.cons $x .nil) | `(#v[$x,$xs,*]) => `(.cons $x #v[$xs,*])
local macro_rules | `(@$n:num) => `(.var $n)
local macro_rules | `(↑$n:num) => `(.lit (.int $n))
local macro_rules | `(↑[$n,*]) => `(.lit (.str [$n,*]))
local macro_rules|`(tactic|let $p:term:=$e)=>do
 let rec g(n:Nat)(s:Lean.Term):Lean.MacroM (Lean.TSyntax `rcasesPat):=match n with
  |0=>Lean.Macro.throwUnsupported
  |n+1=>match s with
   |`(#[$xs,*])=>do let ps<-xs.getElems.mapM (g n);`(rcasesPat|⟨$[$ps:rcasesPat],*⟩)
   |`(_)=>`(rcasesPat|_)
   |`($x:ident)=>`(rcasesPat|$x:ident)
   |_=>Lean.Macro.throwUnsupported
 let q<-g 9 p;`(tactic|obtain $q:rcasesPat:=$e)
local macro_rules|`(tactic|erw[$t:term])=>`(tactic|exact $t)
local macro_rules|`(tactic|rwa[$t:term])=>`(tactic|refine $t)
local macro_rules|`(tactic|dsimp [$xs,*] $[$l:location]?)=>`(tactic|simp only [$xs,*] $[$l]?)
set_option hygiene false in
local macro_rules|`(tactic|z_go)=>`(tactic|refine#[env,ρ,S,_,he,R,w,λu S1 v H1 ρ1 w1 st1 R1 r1=>?_])
set_option hygiene false in
local macro_rules|`(tactic|x_go)=>`(tactic|intro pZ s σ H x y v u Q I rx ry h)
set_option hygiene false in
local macro_rules|`(tactic|kd_p)=>`(tactic|rintro σ H Q ⟨env,ρ,S,QU,he,R,w,q⟩)
set_option hygiene false in
local macro_rules|`(tactic|w_up)=>`(tactic|intro pZ s σ H xs us Q I r h)
set_option hygiene false in
local macro_rules|`(tactic|k_ne)=>`(tactic|intro pZ s σ H Q I h)
set_option hygiene false in
local macro_rules|`(tactic|k_go)=>`(tactic|intro X hP hw hK hc i pZ s σ H E I hf st hg)
namespace Lake
namespace L2
open PySem PySem.Spec PyProof.Rows
abbrev Key:=Sum Int (Option Str)
noncomputable def wY:Key->Value->Bool
 |.inl k,v=>BQ k v
 |.inr (some x),v=>Value.isStrOf x v
 |.inr none,v=>v==fV
noncomputable def XB(w:cy):Key->Int
 |.inl k=>hashInt k
 |.inr (some x)=>hashStr w x
 |.inr none=>reduceHash 0xFCA86420
theorem fI:∀{k:Key}{v:Value},wY k v=true->(∃i t,k=wH i/\v=lu i t)\/(∃x t,k=i3 (some x)/\v=lx x t)\/(k=i3 none/\v=fV)
 |.inl i,v,h=>by
  let#[t,e]:=Value.isInt_shape (k:=i) (v:=v) h;erw[.inl #[i,t,rfl,e]]
 |.inr (some x),v,h=>by
  let#[t,e]:=Value.isStrOf_shape (x:=x) (v:=v) h;erw[.inr (.inl #[x,t,rfl,e])]
 |.inr none,v,h=>.inr (.inr #[rfl,eq_of_beq h])
theorem E6(i:Int)(t:Tok):wY (.inl i) (.int i t)=true:=by simp[wY,BQ]
theorem E7(x:Str)(t:Tok):wY (.inr (some x)) (.str x t)=true:=by simp[wY,Value.isStrOf]
theorem Hj{α:Type}[DecidableEq α]{β:Type}[DecidableEq β](f:α->β)(hf:∀a b,f a=f b->a=b)(a b:α):decide (f a=f b)=decide (a=b):=decide_eq_decide.mpr #[hf a b,λe=>e▸rfl]
theorem E8(h:Q (reduceHash 0xFCA86420) {s with toks:=s.toks+1}):wpAny (bc prog w) A (pyHash .none) Q E s:=by
 unfold pyHash;erw[BA (T:="NoneType") rfl F.slot_NoneType_hash F.entry_NoneType_hash (F.args_NoneType_hash_1 _) (beq_builtin_none _) (.inl rfl) (ab (ax (ab (K1 (ax #[_,_,rfl,h])))))]
def cX(prog:bO)(w:cy):PySem.KeyKind prog w Key where
 is:=wY
 hash:=XB w
 inj:=λv a b ha hb=>by
  rcases fI ha with⟨i,t,rfl,rfl⟩|⟨x,t,rfl,rfl⟩|⟨rfl,rfl⟩<;>rcases fI hb with⟨j,u,rfl,e⟩|⟨y,u,rfl,e⟩|⟨rfl,e⟩<;>cases e<;>rfl
 byValue:=λk v h=>by
  rcases fI h with⟨i,t,rfl,rfl⟩|⟨x,t,rfl,rfl⟩|⟨rfl,rfl⟩<;>rfl
 pyHash:=λhv h=>by
  rcases fI hv with⟨i,t,rfl,rfl⟩|⟨x,t,rfl,rfl⟩|⟨rfl,rfl⟩
  .erw[wpAny_pyHash_int h]
  .erw[wpAny_pyHash_str h]
  .erw[E8 h]
 eqBool:=λhu hv h=>by
  rcases fI hu with⟨i,t,rfl,rfl⟩|⟨x,t,rfl,rfl⟩|⟨rfl,rfl⟩<;>rcases fI hv with⟨j,u,rfl,rfl⟩|⟨y,u,rfl,rfl⟩|⟨rfl,rfl⟩
  .rw[Hj wH (λ_ _ e=>zW e)] at h;erw[wpAny_eqBool_int (by rw[show(i==j)=decide (i=j) from rfl];exact h)]
  .erw[oX i t y u _ _ _ _ h]
  .erw[ox i t _ _ _ _ h]
  .erw[oY x t j u _ _ _ _ h]
  .rw[Hj (λz=>i3 (some z)) (λ_ _ e=>aF (tB e))] at h;erw[wpAny_eqBool_str h]
  .erw[oy x t _ _ _ _ h]
  .erw[oz j u _ _ _ _ h]
  .erw[oA y u _ _ _ _ h]
  .erw[jJ _ _ _ _ _ h]
 «strs»:=λk x t v h=>by
  rcases fI h with⟨i,u,rfl,e⟩|⟨y,u,rfl,e⟩|⟨rfl,e⟩
  .erw[nomatch e]
  .cases e
   cases v<;>rfl
  .erw[nomatch e]
section
variable{prog:bO}{w:cy}
abbrev sA:=Int×List Int
def IsPair(prog:bO)(w:cy)(h:Heap)(k:sA)(a:Addr):Prop:=∃t c n o,h.get? a=some o/\o.cls=.type "tuple"/\o.data=.seq (List.toArray [.int k.1 t,.ref c]) n/\IsTupleKey (BC prog w) h k.2 c
noncomputable def uQ(prog:bO)(w:cy)(k:sA):Int:=reduceHash (Builtin.Tuple.tupleHashOf [hashInt k.1,tupleKeyHash (BC prog w) k.2])
variable{A:dN}{E:Value->aC->Prop}{s:aC}
theorem Ah(hu:A.units+1<eL)(hk:IsPair prog w s.heap k a)(h:Q (uQ prog w k) {s with toks:=s.toks+(k.2.length+3)}):
  wpAny (bc prog w) A (pyHash (.ref a)) Q E s:=by
 let#[t,c,n,o,ho,hc,hd,hi]:=hk;have hT:s.TypeIs (.ref a) "tuple":=#[o,ho,hc]
 unfold pyHash;rwa[BA (T:="tuple") hT F.slot_tuple_hash F.entry_tuple_hash (F.args_tuple_hash_1 _) (beq_builtin_none _) (.inr ∅) ?_];show wpAny _ _ (Builtin.Tuple.tupleItemsOf (.ref a)>>=_) _ _ s;rwa[ab (uK ho hd ?_)];rwa[ab ?_];rw[<-qL]
 dsimp[oE,wI];rwa[ab (ab (wpAny_pyHash_int ?_))];refine ax (ab (ab (wpAny_pyHash_tuple (s:={s with toks:=s.toks+1}) (by dsimp[tD];omega) hi (ax (ax ?_)))));rwa[ab (K1 (ax #[_,_,rfl,?_]))];have e:s.toks+1+(k.2.length+1)+1=s.toks+(k.2.length+3):=∅
 have h:Q _ _:=h;rw[<-e] at h;simpa[uQ] using h
theorem IsPair.inj{h:Heap}{a:Addr}{x y:sA}(hx:IsPair prog w h x a)(hy:IsPair prog w h y a):x=y:=by
 let#[t,c,n,o,ho,hc,hd,hi]:=hx;let#[t',c',n',o',ho',hc',hd',hi']:=hy;obtain rfl:o=o':=aF (ho.symm.trans ho');rw[hd] at hd';injection hd' with h1 _
 injection h1 with h1
 injection h1 with h1 h2
 injection h1 with h1 _
 injection h2 with h2 _
 injection h2 with h2
 subst h2;erw[wJ h1 (hi.inj hi')]
theorem Ai(hu:A.units+1<eL)(hx:IsPair prog w s.heap x a)(hy:IsPair prog w s.heap y b)(h:Q (decide (x=y)) s):
  wpAny (bc prog w) A (eqBool (.ref a) (.ref b)) Q E s:=by
 unfold eqBool;rwa[fK ?_];show wpAny _ _ (if (bj a==bj b)=true then _ else _) Q E s;by_cases hab:(bj a==bj b)=true
 .rw[if_pos hab]
  have e:a=b:=by have:=eq_of_beq hab;injection this
  subst e;obtain rfl:=hx.inj hy;exact ab (qe (ax (by simpa using h)))
 .rw[if_neg hab]
  let#[t,c,n,o,ho,hc,hd,hi]:=hx;let#[t',c',n',o',ho',hc',hd',hi']:=hy;have hT:s.TypeIs (.ref a) "tuple":=#[o,ho,hc]
  have hT':s.TypeIs (.ref b) "tuple":=#[o',ho',hc']
  refine ab (wpAny_richCompare_same_room (op:=.Eq) hT hT' pW
   (iX pW hT F.entry_tuple_eq ?_ (F.args_tuple_eq_2 _ _)) ∅)
  show wpAny _ _ (isInstance (.ref b) (.type "tuple")>>=_) _ _ s
  rwa[ab (pN hT' qM ?_)];dsimp[a9,ag,if_false];rwa[ab (uK ho hd ?_)];rwa[ab (uK ho' hd' ?_)];rwa[ab ?_];dsimp[List.zip_cons_cons,List.zip_nil_right,oE,wI];rwa[ab (ab (wpAny_eqBool_int ?_))];let#[x1,x2]:=x;let#[y1,y2]:=y;by_cases e1:x1=y1
  .subst e1
   dsimp[BEq.rfl,a9,ag,if_false];rwa[ax (ab (ab (wpAny_eqBool_tuple (by dsimp[tD];omega) hi hi' ?_)))];by_cases e2:x2=y2
   .subst e2
    dsimp[decide_true,a9,ag,if_false] at h ⊢;erw[ax (ax (ax #[_,rfl,(λz=>nomatch z),cw h]))]
   .have e3:decide ((x1,x2)=(x1,y2))=false:=decide_eq_false λz=>e2 (zX z).2
    rw[e3] at h;dsimp[decide_eq_false e2,bK,if_true];erw[ab (ax (ax (ax (ax #[_,rfl,(λz=>nomatch z),cw h]))))]
  .have e3:decide ((x1,x2)=(y1,y2))=false:=decide_eq_false λz=>e1 (zX z).1
   rw[e3] at h;have e4:(x1==y1)=false:=beq_eq_false_iff_ne.mpr e1;dsimp[e4,bK,if_true];erw[ab (ax (ax (ax (ax #[_,rfl,(λz=>nomatch z),cw h]))))]
theorem B6(hk:IsTupleKey (BC prog w) s.heap ks a)(h:Q true s):wpAny (bc prog w) A (Gx (n+1) (.ref a)) Q E s:=by
 have hT:=hk.typeIs;let#[o,items,m,ho,_,hd,hi]:=hk;unfold Gx;rwa[ab (zY hT pW.lookup (ab (pN hT qM ?_)))];dsimp[a9,ag,if_false];rwa[ab (BR ho hd (ab ?_))];rw[<-qL]
 rwa[wpAny_forIn_list _ (λl r s'=>r.1=none/\s'=s/\∀v∈l,carriedByValue v=true) _ ?_ ?_ _ _ #[rfl,rfl,hi.byValue]]
 .rintro v l r s' ⟨hr,rfl,z⟩
  rw[eqIsQuiet_byValue _ (z v aQ)]
  erw[ab (ax (ax #[rfl,rfl,λu hu=>z u (aA _ hu)]))]
 .rintro⟨r1,r2⟩ s' ⟨hr,rfl,_⟩
  cases hr;erw[ax h]
theorem B7(hk:IsPair prog w s.heap k a)(h:Q true s):wpAny (bc prog w) A (Gx 8 (.ref a)) Q E s:=by
 let#[t,c,n,o,ho,hc,hd,hi]:=hk;have hT:s.TypeIs (.ref a) "tuple":=#[o,ho,hc]
 unfold Gx;rwa[ab (zY hT pW.lookup ?_)];show wpAny _ _ (isInstance (.ref a) (.type "tuple")>>=_) _ _ s;rwa[ab (pN hT qM ?_)];dsimp[a9,ag,if_false];rwa[ab (BR ho hd ?_)];rwa[ab ?_];show wpAny _ _ (forIn (List.toArray [lu k.1 t,.ref c]) _ _) _ _ s;rw[<-qL]
 dsimp[oE,wI];rw[eqIsQuiet_byValue 7 (v:=.int k.1 t) rfl]
 erw[ab (ab (ax (ax (ab (ab (B6 hi (ax (ax (ax h)))))))))]
theorem IsPair.keeps{es ep}(x:IsPair prog w h k a)(ho:h.get? d=some o)(hd:o.data=.dict es ep)(hs:gc d h h'):IsPair prog w h' k a:=by
 let#[t,c,n,o',ho',hc,hd',hi]:=x;refine#[t,c,n,o',(hs.2 a ?_).trans ho',hc,hd',hi.keeps ho hd hs];rintro rfl;obtain rfl:o'=o:=aF (ho'.symm.trans ho);rw[hd] at hd';erw[nomatch hd']
def qT(prog:bO)(w:cy):HeapKind prog w sA where
 is:=IsPair prog w
 hash:=uQ prog w
 draws:=λk=>k.2.length+3
 room:=λA=>A.units+1<eL
 inj:=λhx hy=>hx.inj hy
 keeps:=λx ho hd hs=>x.keeps ho hd hs
 pyHash:=λhu hk h=>Ah hu hk h
 eqBool:=λhu hx hy h=>Ai hu hx hy h
 quiet:=λhk h=>B7 hk h
end
theorem Aj(prog:bO)(w:cy)(i:Int)(t:Tok):(cX prog w).is (.inl i) (.int i t)=true:=E6 i t
theorem Ak(prog:bO)(w:cy)(x:Str)(t:Tok):(cX prog w).is (.inr (some x)) (.str x t)=true:=E7 x t
set_option genInjectivity true in
inductive V where
 |bV|bl (b:Bool)|int (i:Int)|str (x:Str)|BN (b:Array UInt8)|W4 (b:UInt64)|ref (a:Addr)|ty (n:String)
 deriving DecidableEq
def RelV:V->Value->Prop
 |.bV,u=>u=fV
 |.bl b,u=>u=j7 b
 |.int i,u=>∃t,u=lu i t
 |.str x,u=>∃t,u=lx x t
 |.BN b,u=>∃t,u=Value.bytes b t
 |.W4 b,u=>∃t,u=Value.float b t
 |.ref a,u=>u=bj a
 |.ty n,u=>u=EO n
abbrev Vals:List V->List Value->Prop:=Paired RelV
theorem Vals.length{xs:List V}{us:List Value}(r:Vals xs us):xs.length=us.length:=Paired.length r
theorem Vals.get:∀{xs:List V}{us:List Value}{i:Nat}{x:V},Vals xs us->xs[i]?=some x->∃u,us[i]?=some u/\RelV x u
 |_,_,_,_,.nil,e=>by simp at e
 |_,_,0,_,.cons r _,e=>by simp at e;subst e;exact#[_,rfl,r]
 |_,_,i+1,x,.cons _ t,e=>by
  let#[u,h1,h2]:=Vals.get (i:=i) (x:=x) t (by simpa using e);exact#[u,by simpa using h1,h2]
theorem Vals.set(r:RelV x u):∀{xs:List V}{us:List Value}(i:Nat),Vals xs us->Vals (xs.set i x) (us.set i u)
 |_,_,_,.nil=>.nil
 |_,_,0,.cons _ t=>.cons r t
 |_,_,i+1,.cons q t=>.cons q (Vals.set r i t)
theorem Vals.append:∀{xs ys:List V}{us ws:List Value},Vals xs us->Vals ys ws->Vals (xs++ys) (us++ws)
 |_,_,_,_,.nil,s=>s
 |_,_,_,_,.cons r t,s=>.cons r (Vals.append t s)
theorem Vals.take:∀{xs:List V}{us:List Value}(n:Nat),Vals xs us->Vals (xs.take n) (us.take n)
 |_,_,0,_=>.nil
 |_,_,_+1,.nil=>.nil
 |_,_,n+1,.cons r t=>.cons r (Vals.take n t)
theorem Vals.drop:∀{xs:List V}{us:List Value}(n:Nat),Vals xs us->Vals (xs.drop n) (us.drop n)
 |_,_,0,r=>r
 |_,_,_+1,.nil=>.nil
 |_,_,n+1,.cons _ t=>Vals.drop n t
def m8:Option V->Option Value->Prop
 |some v,some u=>RelV v u
 |none,none=>True
 |_,_=>False
def KV{κ:Type}:List (κ×V)->List (κ×Value)->Prop:=Paired λ(p:κ×V)(q:κ×Value)=>p.1=q.1/\RelV p.2 q.2
noncomputable def kV:Key->V
 |.inl i=>.int i
 |.inr (some x)=>.str x
 |.inr none=>.bV
inductive HO where
 |lst (xs:List V)
 |tup (xs:List V)
 |dK (kvs:List (Key×V))|dT (kvs:List (List Key×V))|dP (kvs:List (sA×V))
 |set (S:Int->Bool) (n:Nat)
 |ins (C dx:Addr) (fs:List (Str×V))
 |own (x:Addr)
 |xd (fs:List (Str×V))
 |met (f x:Addr)
 |XC (lo hi:Int)
 |sk (o:Obj) (u:HO)
 |OQ (ps:Array Value)
 |ext (φ:Heap->Prop)
abbrev Hp:=Addr->Option HO
noncomputable def upd(H:Hp)(a:Addr)(o:HO):Hp:=λb=>if b=a then some o else H b
theorem cg:upd H a o a=some o:=by unfold upd;rw[if_pos rfl]
theorem cb(h:b≠a):upd H a o b=H b:=by unfold upd;rw[if_neg h]
theorem Tj{H:Hp}{a b:Addr}{o u:HO}(h:H a=some o)(h':H b=some u)(d:o≠u):a≠b:=by
 intro e;subst e;rw[h] at h';erw[d (aF h')]
theorem dB{H:Hp}{a b:Addr}{o:HO}(h:H a=some o)(h':H b=none):a≠b:=by
 intro e;subst e;rw[h] at h';cases h'
section
variable(P:bO)(w:cy)
def dH(H:Hp)(h:Heap)(a:Addr):HO->Prop
 |.lst xs=>xs.length<=sizeLine/\∃(its:List Value)(n:Nat),Vals xs its/\h.get? a=some {cls:=.type "list",data:=.seq its.toArray n}
 |.tup xs=>xs.length<=sizeLine/\∃its:List Value,Vals xs its/\IsTup h a its.toArray
 |.dK kvs=>kvs.length<=sizeLine/\(a==b7)=false/\∃vs,KV kvs vs/\h.DictOf (cX P w) a vs
 |.dT kvs=>kvs.length<=sizeLine/\(a==b7)=false/\∃xs:List (List Key×Addr×Value),
   Paired (λ(p:List Key×V)(q:List Key×Addr×Value)=>p.1=q.1/\H q.2.1=some (.tup (p.1.map kV))/\RelV p.2 q.2.2) kvs xs /\
   ∃o es ep,h.get? a=some o/\o.ExactDict/\o.data=.dict es ep/\es.toList=xs.map (BS (mP (cX P w)))/\(xs.map (·.1)).Nodup
 |.dP kvs=>kvs.length<=sizeLine/\(a==b7)=false/\∃xs:List (sA×Addr×Value),
   Paired (λ(p:sA×V)(q:sA×Addr×Value)=>p.1=q.1/\(∃c,H q.2.1=some (.tup [.int p.1.1,.ref c])/\H c=some (.tup (p.1.2.map .int)))/\RelV p.2 q.2.2) kvs xs /\
   ∃o es ep,h.get? a=some o/\o.ExactDict/\o.data=.dict es ep/\es.toList=xs.map (BS (qT P w))/\(xs.map (·.1)).Nodup
 |.set S n=>h.SetOf (BC P w) a S n
 |.ins C dx fs=>H dx=some (.own a)/\fs.length<=1000/\dx≠a/\h.get? a=some (eM C dx) /\
   ∃mA,h.Ns1 dx mA/\(∀f,m8 (fs.lookup f) (mA f))/\zZ mA (fs.map (·.1))
 |.own _=>∃o,h.get? a=some o
 |.xd fs=>∃mA,h.Ns1 a mA/\∀f,m8 (fs.lookup f) (mA f)
 |.XC lo hi=>∃t u v,h.get? a=some {cls:=.type "range",data:=.fields (List.toArray [.int lo t,.int hi u,.int 1 v])}
 |.sk o u=>h.get? a=some o/\dH H h a u
 |.OQ ps=>h.get? a=some {cls:=.none,data:=.fields ps}
 |.met f x=>h.get? a=some (qN (.ref f) (.ref x))
 |.ext φ=>φ h/\(∃o,h.get? a=some o)/\∀h1 h2:Heap,φ h1->(∀o,h1.get? a=some o->h2.get? a=some o)->φ h2
def pU(H:Hp)(h:Heap):Prop:=∀a o,H a=some o->dH P w H h a o
end
section
variable{P:bO}{w:cy}{H H':Hp}{h h':Heap}{a:Addr}{o:HO}
theorem dH.lt(x:dH P w H h a o):a<h.objs.size:=by
 cases o with
 |lst xs=>let#[_,_,_,_,e]:=x;erw[aS e]
 |tup xs=>let#[_,_,_,p]:=x;erw[p.lt]
 |dK kvs=>let#[_,_,_,_,o,_,_,e,_]:=x;erw[aS e]
 |dT kvs=>let#[_,_,_,_,o,_,_,e,_]:=x;erw[aS e]
 |dP kvs=>let#[_,_,_,_,o,_,_,e,_]:=x;erw[aS e]
 |set S n=>let#[o,_,_,_,e,_]:=x;erw[aS e]
 |ins C dx fs=>let#[_,_,_,e,_]:=x;erw[aS e]
 |own y=>let#[_,e]:=x;erw[aS e]
 |xd fs=>let#[_,#[_,_,_,e,_],_]:=x;erw[aS e]
 |XC lo hi=>let#[_,_,_,e]:=x;erw[aS e]
 |sk ob u=>let#[e,_]:=x;erw[aS e]
 |OQ ps=>erw[aS (show h.get? a=some _ from x)]
 |met f y=>erw[aS (show h.get? a=some _ from x)]
 |ext φ=>let#[_,#[_,e],_]:=x;erw[aS e]
theorem Paired.E9{α β:Type}{F G:α->β->Prop}:∀{l₁:List α}{l₂:List β},Paired F l₁ l₂->(∀a b,F a b->G a b)->Paired G l₁ l₂
 |_,_,.nil,_=>.nil
 |_,_,.cons r t,f=>.cons (f _ _ r) (Paired.E9 t f)
theorem dH.B8(x:dH P w H h a o)(k:∀b u,(b=a\/H b=some (.own a))->h.get? b=some u->h'.get? b=some u)
  (ho:∀b,H b=some (.own a)->H' b=some (.own a)) (ht:∀b xs,H b=some (.tup xs)->H' b=some (.tup xs)):dH P w H' h' a o:=by
 induction o with
 |lst xs=>let#[z,its,n,r,e]:=x;exact#[z,its,n,r,k _ _ (.inl rfl) e]
 |tup xs=>let#[z,its,r,ob,e,c]:=x;exact#[z,its,r,ob,k _ _ (.inl rfl) e,c]
 |dK kvs=>let#[z,y,vs,r,ob,es,ep,e,c]:=x;exact#[z,y,vs,r,ob,es,ep,k _ _ (.inl rfl) e,c]
 |dT kvs=>
  let#[z,y,xs,r,ob,es,ep,e,c]:=x;exact#[z,y,xs,Paired.E9 r λp q z=>#[z.1,ht _ _ z.2.1,z.2.2],ob,es,ep,k _ _ (.inl rfl) e,c]
 |dP kvs=>
  let#[z,y,xs,r,ob,es,ep,e,c]:=x;exact#[z,y,xs,Paired.E9 r λp q z=>#[z.1,let ⟨c,e1,e2⟩:=z.2.1;#[c,ht _ _ e1,ht _ _ e2],z.2.2],ob,es,ep,k _ _ (.inl rfl) e,c]
 |set S n=>let#[ob,es,ep,t,e,c]:=x;exact#[ob,es,ep,t,k _ _ (.inl rfl) e,c]
 |ins C dx fs=>
  let#[d,z,ne,e,mA,#[od,es,ep,e2,c],r]:=x;exact#[ho _ d,z,ne,k _ _ (.inl rfl) e,mA,#[od,es,ep,k _ _ (.inr d) e2,c],r]
 |own y=>let#[ob,e]:=x;exact#[ob,k _ _ (.inl rfl) e]
 |xd fs=>let#[mA,#[od,es,ep,e,c],r]:=x;exact#[mA,#[od,es,ep,k _ _ (.inl rfl) e,c],r]
 |XC lo hi=>let#[t,u,v,e]:=x;exact#[t,u,v,k _ _ (.inl rfl) e]
 |sk ob u ih=>let#[e,q]:=x;exact#[k _ _ (.inl rfl) e,ih q]
 |OQ ps=>
  have e:h.get? a=some {cls:=.none,data:=.fields ps}:=x;show h'.get? a=some {cls:=.none,data:=.fields ps};erw[k a _ (.inl rfl) e]
 |met f y=>
  have e:h.get? a=some (qN (.ref f) (.ref y)):=x;show h'.get? a=some (qN (.ref f) (.ref y));erw[k a _ (.inl rfl) e]
 |ext φ=>let#[p,#[o,e],st]:=x;exact#[st _ _ p λo q=>k _ _ (.inl rfl) q,#[o,k _ _ (.inl rfl) e],st]
theorem pU.lt(x:pU P w H h)(e:H a=some o):a<h.objs.size:=(x a o e).lt
theorem pU.fresh(x:pU P w H h)(e:h.objs.size<=a):H a=none:=by
 cases q:H a with
 |none=>rfl
 |some u=>erw[absurd (av (x.lt q) e) (cD _)]
theorem pU.kept(x:pU P w H h)(k:∀b u,h.get? b=some u->h'.get? b=some u):pU P w H h':=λa o e=>
 (x a o e).B8 (λb u _ q=>k b u q) (λ_ q=>q) λ_ _ q=>q
theorem pU.laid(x:pU P w H h)(k:∀b u,h.get? b=some u->h'.get? b=some u)(hp:h.objs.size<=a)(new:dH P w (upd H a o) h' a o):pU P w (upd H a o) h':=λb u e=>by
 have hn:=x.fresh hp;by_cases hb:b=a
 .subst hb;rw[cg] at e;cases e;erw[new]
 .rw[cb hb] at e
  exact(x b u e).B8 (λc v _ q=>k c v q) (λc q=>by rw[cb (dB q hn)];erw[q]) λc xs q=>by rw[cb (dB q hn)];erw[q]
end
def Rd(H:Hp)(a:Addr)(u:HO):Prop:=H a=some u\/∃o,H a=some (.sk o u)
theorem Rd.ok{P:bO}{w:cy}{H:Hp}{h:Heap}{a:Addr}{u:HO}(r:Rd H a u)(x:pU P w H h):dH P w H h a u:=by
 rcases r with r|⟨o,r⟩
 .erw[x a u r]
 .let#[_,q]:=x a _ r
  erw[q]
def SI:Option HO->Prop
 |some (.lst _)=>True
 |some (.dK _)=>True
 |some (.dT _)=>True
 |some (.dP _)=>True
 |some (.set _ _)=>True
 |some (.ins _ _ _)=>True
 |some (.ext _)=>True
 |_=>False
section
variable{P:bO}{w:cy}{H:Hp}{h h':Heap}{x e:Addr}{o':HO}
theorem pU.write(ok:pU P w H h)(mu:SI (H x))(he:e=x\/H e=some (.own x))(k:∀b u,b≠e->h.get? b=some u->h'.get? b=some u)(heo:∃u,h'.get? e=some u)
  (new:dH P w (upd H x o') h' x o'):pU P w (upd H x o') h':=λb u q=>by
 have nown:∀c y,H c=some (.own y)->c≠x:=λc y r z=>by subst z;rw[r] at mu;erw[mu]
 have ntup:∀c xs,H c=some (.tup xs)->c≠x:=λc xs r z=>by subst z;rw[r] at mu;erw[mu]
 by_cases hb:b=x
 .subst hb;rw[cg] at q;cases q;erw[new]
 .rw[cb hb] at q
  by_cases hbe:b=e
  .have q':H b=some (.own x):=by
    rcases he with z|z
    .erw[absurd (hbe.trans z) hb]
    .rw[hbe];erw[z]
   rw[q] at q';cases q';let#[v,hv]:=heo;exact#[v,by rw[hbe];erw[hv]]
  .refine(ok b u q).B8 (λc v hc r=>k c v ?_ r) (λc r=>by rw[cb (nown c b r)];erw[r]) λc xs r=>by rw[cb (ntup c xs r)];erw[r]
   rcases hc with rfl|hc
   .erw[hbe]
   .rintro rfl
    rcases he with z|z
    .erw[nown c b hc z]
    .rw[hc] at z;cases z;erw[hb rfl]
end
structure Un(fs ex:List Addr)(H H':Hp)(h h':Heap):Prop where
 keep:∀b o,h.get? b=some o->H b=none->b∉fs->b∉ex->h'.get? b=some o
 slot:∀b o,h.get? b=some o->H b=none->b∈fs->b∉ex->∃sl,h'.get? b=some {o with slots:=sl}
 free:∀b o,h.get? b=some o->H b=none->b∉ex->H' b=none
 there:∀b o,h.get? b=some o->b∉ex->∃o',h'.get? b=some o'
 Al:∀b xs,H b=some (.tup xs)->H' b=some (.tup xs)
 ym:∀b o u,H b=some (.sk o u)->H' b=some (.sk o u)
 Am:∀b ps,H b=some (.OQ ps)->∃more,H' b=some (.OQ (ps++more))
section
variable{fs fs' ex ex':List Addr}{H H1 H2:Hp}{h h1 h2 h':Heap}{a x e:Addr}{o:HO}
theorem Un.any(u:Un fs ex H H1 h h1){b:Addr}{ob:Obj}(q:h.get? b=some ob)(n:H b=none)(hx:b∉ex):∃sl,h1.get? b=some {ob with slots:=sl}:=by
 by_cases hb:b∈fs
 .erw[u.slot b ob q n hb hx]
 .exact#[ob.slots,u.keep b ob q n hb hx]
theorem Un.kept(k:∀b u,h.get? b=some u->h'.get? b=some u):Un fs ex H H h h':=
 #[λb ob q _ _ _=>k b ob q,λb ob q _ _ _=>#[ob.slots,k b ob q],λ_ _ _ n _=>n,λb ob q _=>#[ob,k b ob q],λ_ _ q=>q,λ_ _ _ q=>q,λ_ ps q=>#[#[],by rw[q];simp]]
theorem Un.refl:Un fs ex H H h h:=Un.kept λ_ _ q=>q
theorem Un.laid(k:∀b u,h.get? b=some u->h'.get? b=some u)(hp:h.objs.size<=a)(hn:H a=none):Un fs ex H (upd H a o) h h' where
 keep:=λb u q _ _ _=>k b u q
 slot:=λb u q _ _ _=>#[u.slots,k b u q]
 free:=λb u q n _=>by rw[cb (aY (av (aS q) hp))];erw[n]
 there:=λb u q _=>#[u,k b u q]
 Al:=λb xs q=>by rw[cb (dB q hn)];erw[q]
 ym:=λb u xs q=>by rw[cb (dB q hn)];erw[q]
 Am:=λb ps q=>#[#[],by rw[cb (dB q hn),q];simp]
theorem Un.write(mu:SI (H x))(he:e=x\/H e=some (.own x))(k:∀b u,b≠e->h.get? b=some u->h'.get? b=some u)(heo:∃u,h'.get? e=some u):Un fs ex H (upd H x o) h h':=by
 have hx:∀b,H b=none->b≠x:=λb n z=>by subst z;rw[n] at mu;erw[mu]
 have hb:∀b,H b=none->b≠e:=λb n z=>by
  subst z;rcases he with r|r
  .erw[hx b n r]
  .rw[n] at r;cases r
 have hm:∀b u,H b=some u->¬SI (some u)->b≠x:=λb u q nm z=>by subst z;rw[q] at mu;erw[nm mu]
 refine#[λb u q n _ _=>k b u (hb b n) q,λb u q n _ _=>#[u.slots,k b u (hb b n) q],λb u q n _=>by rw[cb (hx b n)];exact n,λb u q _=>?_,
  λb xs q=>by rw[cb (hm b _ q λz=>z)];erw[q],λb u xs q=>by rw[cb (hm b _ q λz=>z)];erw[q],λb ps q=>#[#[],by rw[cb (hm b _ q λz=>z),q];simp]]
 by_cases hbe:b=e
 .subst hbe;erw[heo]
 .exact#[u,k b u hbe q]
end
noncomputable def An(h:Heap)(H:Hp):List Addr:=(bX h.objs.size).filter λa=>(H a).isSome
def yn(h:Heap)(H:Hp):Heap:=PySem.W.hideAll h (An h H)
theorem Fc(h:Heap)(H:Hp):(yn h H).objs.size=h.objs.size:=PySem.W.hideAll_size _ _
theorem Hk(e:h.get? b=some o)(n:H b=none):(yn h H).get? b=some o:=
 PySem.W.hideAll_get _ e λhm=>by
  have q:(H b).isSome=true:=(eU.mp hm).2;rw[n] at q;simp at q
theorem Le(e:(yn h H).get? b=some o):h.get? b=some o/\H b=none:=by
 have e':h.get? b=some o:=PySem.W.of_hideAll (An h H) e;refine#[e',?_];cases q:H b with
 |none=>rfl
 |some x=>
  have hm:b∈An h H:=eU.mpr #[lE.mpr (aS e'),by simp[q]];have z:(yn h H).get? b=none:=PySem.W.hideAll_none (An h H) hm;rw[z] at e;cases e
noncomputable def pd(g h:Heap)(L:Addr):List (Addr×Obj):=(bX h.objs.size).filterMap λa=>if a=L\/(g.get? a).isSome=true then none else(h.get? a).map λo=>(a,o)
theorem Ao(h1:a≠L)(h2:g.get? a=none)(h3:h.get? a=some o):(a,o)∈pd g h L:=
 lF.mpr #[a,lE.mpr (aS h3),by simp[h1,h2,h3]]
theorem uR(hp:p∈pd g h L):p.1≠L/\g.get? p.1=none/\h.get? p.1=some p.2:=by
 let#[b,_,e]:=lF.mp hp;split at e
 .cases e
 .rename_i hn
  cases q:h.get? b with
  |none=>rw[q] at e;simp at e
  |some u=>
   rw[q] at e;dsimp[kr,pO] at e;subst e;refine#[λz=>hn (.inl z),?_,q];show g.get? b=none;cases r:g.get? b with
   |none=>rfl
   |some v=>exact(hn (.inr (by simp[r]))).elim
def rest(g h:Heap)(L d:Addr):List (Addr×Obj):=(pd g h L).filter λp=>decide (p.1≠d)
theorem Hl:News g L h (pd g h L):=λp hp=>let ⟨a,b,c⟩:=uR hp;#[c,a,b]
structure Mod(K:aJ)(mg:Str->Option Value)(base:Heap):Prop where
 Tn:K.In base
 glob:base.Ns bI mg
 blt:∃mb,base.Ns BU mb/\∀x:Str,x≠"__name__"->mb x=kg x
 nolimit:base.NoLimit
structure Cx where
 prog:bO
 w:cy
 K:aJ
 mg:Str->Option Value
 base:Heap
 A:dN
 N:List Str
 s₀:aC
 H₀:Hp
 env:Env
 outer:List Env
 stack:List Env
 ex:List Addr
 fn:Str->Bool
 calm:Bool
 pn:List (Addr×Obj)
 xe:Value->aC->Prop
noncomputable def GJ(l:List Env):List Addr:=l.filterMap (·.frame)
abbrev Cx.fs(X:Cx):List Addr:=GJ X.outer
def To(sc:kh)(x:Str):Prop:=sc.names.lookup x=some .local\/sc.names.lookup x=some .cell\/sc.names.lookup x=some .free
def Loc(sc:kh)(x:Str):Prop:=sc.names.lookup x=some .local\/sc.names.lookup x=some .cell
def Look(env:Env)(h:Heap)(m:Str->Option Value)(x:Str)(u:Value):Prop:=
 (env.kindOf x=some .local/\m x=some u)\/((env.kindOf x=some .cell\/env.kindOf x=some .free)/\∃c,env.cells.lookup x=some c/\h.IsCell c (some u))
structure Cx.Ok(X:Cx):Prop where
 mod:Mod X.K X.mg X.base
 kind:X.env.scope.kind=.function
 glob:X.env.globals=bI
 blt:X.env.builtins=BU
 above:X.s₀.heap.objs.size<=X.env.locals
 inj:∀x y c,X.env.cells.lookup x=some c->X.env.cells.lookup y=some c->x=y
 has:∀x,(X.env.kindOf x=some .cell\/X.env.kindOf x=some .free)->∃c,X.env.cells.lookup x=some c
 Tp:∀x c,X.fn x=true->X.env.cells.lookup x=some c->X.s₀.heap.objs.size<=c
 hd:X.calm=true->X.A.handled=none
 frames:X.A.frames=some X.stack
 W5:X.stack=X.outer\/(X.stack=X.env::X.outer/\X.env.frame=some X.env.locals)
 ZV:∀b∈X.ex,b≠X.env.locals/\∀x c,X.env.cells.lookup x=some c->c≠b
 bs:∀b o,X.base.get? b=some o->X.s₀.heap.get? b=some o/\X.H₀ b=none
 Lf:X.base.objs.size<=X.s₀.heap.objs.size
 Hm:∀b o,X.base.get? b=some o->b∉X.ex
 Lg:∀b∈X.ex,b∉X.fs
 t9:X.s₀.heap.FunFrames X.base X.outer
 OR:∀b∈X.fs,X.H₀ b=none
structure Inv(X:Cx)(pZ:List (Addr×Obj))(σ:List (Option V))(H:Hp)(s:aC):Prop where
 ok:X.Ok
 os:s.os=X.s₀.os
 bare:qg s.gens
 base:Un X.fs X.ex X.H₀ H X.s₀.heap s.heap
 loc:∃m,s.heap.Ns X.env.locals m/\∀(i:Nat)(x:Str)(v:V),X.N[i]?=some x->σ[i]?=some (some v)->To X.env.scope x->∃u,RelV v u/\Look X.env s.heap m x u
 cell:∀x c,X.env.cells.lookup x=some c->∃v,s.heap.IsCell c v
 free:H X.env.locals=none
 pX:∀x c,X.env.cells.lookup x=some c->H c=none
 pin:∀p∈X.pn++pZ,s.heap.get? p.1=some p.2/\H p.1=none/\p.1≠X.env.locals/\p.1∉X.fs/\∀v,p.2.data≠.cell v
 dD:pU X.prog X.w H s.heap
 len:σ.length=X.N.length
section
variable{X:Cx}{pZ:List (Addr×Obj)}{σ:List (Option V)}{H H':Hp}{s:aC}{h':Heap}
theorem Cx.Ok.XD(ok:X.Ok)(e:X.base.get? b=some o):b∉X.fs:=λhb=>by
 have:=(ok.t9.mem hb).1;rw[e] at this;cases this
theorem Inv.bs(I:Inv X pZ σ H s):∀b o,X.base.get? b=some o->s.heap.get? b=some o/\H b=none:=λb o e=>
 #[I.base.keep b o (I.ok.bs b o e).1 (I.ok.bs b o e).2 (I.ok.XD e) (I.ok.Hm b o e),I.base.free b o (I.ok.bs b o e).1 (I.ok.bs b o e).2 (I.ok.Hm b o e)]
theorem Inv.bk(I:Inv X pZ σ H s):∀b o,X.base.get? b=some o->s.heap.get? b=some o:=λb o e=>(I.bs b o e).1
theorem Inv.mod(I:Inv X pZ σ H s):Mod X.K X.mg X.base:=I.ok.mod
theorem Inv.yo(I:Inv X pZ σ H s):X.K.In s.heap:=I.ok.mod.Tn.keeps I.bk
theorem Inv.fr(I:Inv X pZ σ H s):∃m,Fr X.base X.env.locals s.heap m:=
 let ⟨m,hn,_⟩:=I.loc
 #[m,hn,I.bk,aH I.ok.Lf I.ok.above]
theorem Inv.lt(I:Inv X pZ σ H s):X.env.locals<s.heap.objs.size:=let ⟨_,hn,_⟩:=I.loc;hn.lt
theorem Inv.sz(I:Inv X pZ σ H s):X.s₀.heap.objs.size<=s.heap.objs.size:=aH I.ok.above (bA I.lt)
theorem Inv.XE(I:Inv X pZ σ H s)(h:s.heap.objs.size<=a):a∉X.fs:=λhb=>by
 let#[_,o,ho,_]:=I.ok.t9.mem hb;erw[absurd (av (aS ho) (aH I.sz h)) (cD _)]
theorem Inv.OS(I:Inv X pZ σ H s):∀x c,X.env.cells.lookup x=some c->c≠X.env.locals:=λx c e z=>by
 let#[v,o,ho,hd]:=I.cell x c e;let#[m,#[o',es,ep,ho',hd',_],_]:=I.loc;rw[z,ho'] at ho;cases ho;rw[hd'] at hd;cases hd
theorem Inv.t9(I:Inv X pZ σ H s):s.heap.FunFrames X.base X.outer:=by
 have all:∀(l:List Env),(∀b∈GJ l,b∈X.fs)->X.s₀.heap.FunFrames X.base l->s.heap.FunFrames X.base l:=by
  intro l;induction l with
  |nil=>intro _ _;trivial
  |cons env r ih=>
   intro hs hl;let#[hk,#[L,o,hf,hn,ho,hd],hr]:=hl;have hL:L∈X.fs:=hs L (by unfold GJ;rw[cj,hf];erw[aQ]);let#[sl,e]:=I.base.slot L o ho (I.ok.OR L hL) hL λz=>I.ok.Lg L z hL
   exact#[hk,#[L,_,hf,hn,e,hd],ih (λb hb=>hs b (by unfold GJ;rw[cj,hf];erw[aA _ hb])) hr]
 erw[all X.outer (λ_ hb=>hb) I.ok.t9]
theorem Inv.stack(I:Inv X pZ σ H s):s.heap.FunFrames X.base X.stack:=by
 rcases I.ok.W5 with e|⟨e,hf⟩
 .rw[e];erw[I.t9]
 .rw[e]
  let#[m,hn,_]:=I.loc;rwa[.cons (by rw[I.ok.kind];decide) hf hn ?_ I.t9];erw[Heap.get?_none_of_le (aH I.ok.Lf I.ok.above)]
theorem Inv.yp(I:Inv X pZ σ H s):∀b∈GJ X.stack,b∈X.env.locals::X.fs:=λb hb=>by
 rcases I.ok.W5 with e|⟨e,hf⟩
 .rw[e] at hb;erw[aA _ hb]
 .rw[e] at hb
  unfold GJ at hb;rw[cj,hf] at hb;erw[hb]
theorem Inv.DE(I:Inv X pZ σ H s):∀b∈GJ X.stack,H b=none:=λb hb=>by
 rcases aR.mp (I.yp b hb) with e|hb
 .rw[e];erw[I.free]
 .let#[_,o,ho,_]:=I.ok.t9.mem hb
  erw[I.base.free b o ho (I.ok.OR b hb) λz=>I.ok.Lg b z hb]
theorem Inv.step{g':Array GenState}{t':Nat}{d':Drawn}{ch:List Addr}(I:Inv X pZ σ H s)
  (hch:∀b∈ch,(b∈X.ex\/X.s₀.heap.objs.size<=b)/\b≠X.env.locals/\(∀x c,X.env.cells.lookup x=some c->c≠b)/\∀p∈X.pn++pZ,p.1≠b)
  (keep:∀b o,b≠X.env.locals->b∉X.fs->b∉ch->s.heap.get? b=some o->H b=none->h'.get? b=some o)
  (slot:∀b o,b≠X.env.locals->b∈X.fs->b∉ch->s.heap.get? b=some o->H b=none->∃sl,h'.get? b=some {o with slots:=sl}) (free:∀b o,b∉ch->s.heap.get? b=some o->H b=none->H' b=none)
  (there:∀b o,b∉ch->s.heap.get? b=some o->∃o',h'.get? b=some o')
  (Al:∀b xs,H b=some (.tup xs)->H' b=some (.tup xs)) (ym:∀b o u,H b=some (.sk o u)->H' b=some (.sk o u)) (Am:∀b ps,H b=some (.OQ ps)->∃more,H' b=some (.OQ (ps++more)))
  (ns:∀m,s.heap.Ns X.env.locals m->h'.Ns X.env.locals m) (dD:pU X.prog X.w H' h') (hg:qg g'):
  Inv X pZ σ H' {s with heap:=h',gens:=g',drawn:=d',toks:=t'}:=by
 have neL:∀b o,X.s₀.heap.get? b=some o->b≠X.env.locals:=λb o e=>aY (av (aS e) I.ok.above)
 have neC:∀b o,X.s₀.heap.get? b=some o->b∉X.ex->b∉ch:=λb o e hx hb=>by
  rcases(hch b hb).1 with z|z
  .erw[hx z]
  .erw[absurd (av (aS e) z) (cD _)]
 have cellK:∀x c,X.env.cells.lookup x=some c->∀v,s.heap.IsCell c v->h'.IsCell c v:=λx c e v #[o,ho,hd]=>by
  have nch:c∉ch:=λz=>(hch c z).2.2.1 x c e rfl
  by_cases hc:c∈X.fs
  .let#[sl,q]:=slot c o (I.OS x c e) hc nch ho (I.pX x c e)
   exact#[_,q,hd]
  .exact#[o,keep c o (I.OS x c e) hc nch ho (I.pX x c e),hd]
 refine#[I.ok,I.os,hg,#[λb o e n hb hx=>?_,λb o e n hb hx=>?_,λb o e n hx=>?_,λb o e hx=>?_,λb xs e=>Al b xs (I.base.Al b xs e),λb o xs e=>ym b o xs (I.base.ym b o xs e),λb ps e=>?_],?_,λx c e=>?_,?_,λx c e=>?_,λp hp=>?_,dD,I.len]
 .erw[keep b o (neL b o e) hb (neC b o e hx) (I.base.keep b o e n hb hx) (I.base.free b o e n hx)]
 .let#[sl,e1]:=I.base.slot b o e n hb hx
  let#[sl',e2]:=slot b _ (neL b o e) hb (neC b o e hx) e1 (I.base.free b o e n hx);exact#[sl',e2]
 .let#[o',e1]:=I.base.there b o e hx
  erw[free b o' (neC b o e hx) e1 (I.base.free b o e n hx)]
 .let#[o',e1]:=I.base.there b o e hx
  erw[there b o' (neC b o e hx) e1]
 .let#[m1,e1]:=I.base.Am b ps e
  let#[m2,e2]:=Am b _ e1;exact#[m1++m2,by rw[e2,Array.append_assoc]]
 .let#[m,hn,hl]:=I.loc
  refine#[m,ns m hn,λi x v e1 e2 e3=>?_];let#[u,r,l]:=hl i x v e1 e2 e3;refine#[u,r,?_];rcases l with l|⟨k,c,e,z⟩
  .erw[.inl l]
  .erw[.inr #[k,c,e,cellK x c e _ z]]
 .let#[v,z]:=I.cell x c e
  exact#[v,cellK x c e v z]
 .let#[m,#[o,_,_,ho,_],_]:=I.loc
  erw[free _ o (λz=>(hch _ z).2.1 rfl) ho I.free]
 .let#[v,o,ho,hd]:=I.cell x c e
  erw[free c o (λz=>(hch c z).2.2.1 x c e rfl) ho (I.pX x c e)]
 .let#[e,n,ne,nf,d]:=I.pin p hp
  have nch:p.1∉ch:=λz=>(hch p.1 z).2.2.2 p hp rfl
  exact#[keep p.1 p.2 ne nf nch e n,free p.1 p.2 nch e n,ne,nf,d]
theorem Inv.un{t':Nat}(I:Inv X pZ σ H s)(u:Un X.fs [] H H' s.heap h')(dD:pU X.prog X.w H' h'):Inv X pZ σ H' {s with heap:=h',toks:=t'}:=by
 let#[m,#[o,es,ep,ho,r],_]:=id I.loc;let#[sl,hL]:=u.any ho I.free (by simp);exact I.step (g':=s.gens) (d':=s.drawn) (ch:=[]) (λ_ z=>nomatch z) (λb o _ hb _ e n=>u.keep b o e n hb (by simp)) (λb o _ hb _ e n=>u.slot b o e n hb (by simp)) (λb o _ e n=>u.free b o e n (by simp)) (λb o _ e=>u.there b o e (by simp)) u.Al u.ym u.Am (λm' hm=>by
  let#[o',es',ep',ho',r']:=hm;rw[ho] at ho';cases ho';exact#[_,es',ep',hL,r']) dD I.bare
theorem Inv.call{g':Array GenState}{t':Nat}{d':Drawn}{ch:List Addr}(I:Inv X pZ σ H s)(u:Un (GJ X.stack) ch H H' s.heap h')(dD:pU X.prog X.w H' h')(hg:qg g')
  (hch:∀b∈ch,(b∈X.ex\/X.s₀.heap.objs.size<=b)/\b≠X.env.locals/\(∀x c,X.env.cells.lookup x=some c->c≠b)/\∀p∈X.pn++pZ,p.1≠b):
  Inv X pZ σ H' {s with heap:=h',gens:=g',drawn:=d',toks:=t'}:=by
 let#[m,#[o,es,ep,ho,r],_]:=id I.loc;let#[sl,hL]:=u.any ho I.free λz=>(hch _ z).2.1 rfl
 exact I.step (ch:=ch) hch (λb o hL hb hc e n=>u.keep b o e n (λz=>(aR.mp (I.yp b z)).elim hL hb) hc) (λb o _ _ hc e n=>u.any e n hc) (λb o hc e n=>u.free b o e n hc) (λb o hc e=>u.there b o e hc) u.Al u.ym u.Am (λm' hm=>by
  let#[o',es',ep',ho',r']:=hm;rw[ho] at ho';cases ho';exact#[_,es',ep',hL,r']) dD hg
theorem Inv.turned{t':Nat}{it:Addr}(I:Inv X pZ σ H s)(k:∀b o,b≠it->s.heap.get? b=some o->h'.get? b=some o)(hn:H it=none)(hL:it≠X.env.locals)
  (h1:it∈X.ex\/X.s₀.heap.objs.size<=it) (h2:∀x c,X.env.cells.lookup x=some c->c≠it) (h3:∀p∈X.pn++pZ,p.1≠it):Inv X pZ σ H {s with heap:=h',toks:=t'}:=by
 have nit:∀b u,H b=some u->b≠it:=λb u e z=>by rw[z,hn] at e;cases e
 refine I.step (g':=s.gens) (d':=s.drawn) (ch:=[it]) (λb hb=>?_) (λb o _ _ hc e _=>k b o (λz=>hc (by simp[z])) e) (λb o _ _ hc e _=>#[o.slots,k b o (λz=>hc (by simp[z])) e]) (λ_ _ _ _ n=>n)
  (λb o hc e=>#[o,k b o (λz=>hc (by simp[z])) e]) (λ_ _ e=>e) (λ_ _ _ e=>e) (λb ps e=>#[#[],by rw[e];simp]) (λm hm=>?_) (λb u e=>?_) I.bare
 .have e:b=it:=by simpa using hb
  subst e;exact#[h1,hL,h2,h3]
 .let#[o,es,ep,ho,r]:=hm
  exact#[o,es,ep,k _ o (cR hL) ho,r]
 .refine(I.dD b u e).B8 (λc v hc q=>k c v ?_ q) (λ_ q=>q) λ_ _ q=>q
  rcases hc with z|z
  .rw[z];erw[nit b u e]
  .erw[nit c _ z]
theorem Inv.tok(I:Inv X pZ σ H s)(t:Nat):Inv X pZ σ H {s with toks:=t}:=I.un (h':=s.heap) (t':=t) Un.refl I.dD
theorem Inv.kept{t':Nat}(I:Inv X pZ σ H s)(k:∀b u,s.heap.get? b=some u->h'.get? b=some u):Inv X pZ σ H {s with heap:=h',toks:=t'}:=I.un (Un.kept k) (I.dD.kept k)
theorem Inv.laid{a:Addr}{o:HO}{t':Nat}(I:Inv X pZ σ H s)(k:∀b u,s.heap.get? b=some u->h'.get? b=some u)(hp:s.heap.objs.size<=a)(new:dH X.prog X.w (upd H a o) h' a o):
  Inv X pZ σ (upd H a o) {s with heap:=h',toks:=t'}:=I.un (Un.laid k hp (I.dD.fresh hp)) (I.dD.laid k hp new)
theorem Inv.write(I:Inv X pZ σ H s)(mu:SI (H x))(he:e=x\/H e=some (.own x))(k:∀b u,b≠e->s.heap.get? b=some u->h'.get? b=some u)(heo:∃u,h'.get? e=some u)
  (new:dH X.prog X.w (upd H x o) h' x o):Inv X pZ σ (upd H x o) {s with heap:=h',toks:=t'}:=I.un (Un.write mu he k heo) (I.dD.write mu he k heo new)
theorem Inv.DF(I:Inv X pZ σ H s)(h:∀p∈pins',s.heap.get? p.1=some p.2/\H p.1=none/\p.1≠X.env.locals/\p.1∉X.fs/\∀v,p.2.data≠.cell v):Inv X pins' σ H s:=
 #[I.ok,I.os,I.bare,I.base,I.loc,I.cell,I.free,I.pX,λp hp=>(aL.mp hp).elim (λz=>I.pin p (bp _ z)) (h p),I.dD,I.len]
theorem Ap{N:List Str}(hN:N.Nodup){i j:Nat}{x:Str}(a:N[i]?=some x)(b:N[j]?=some x):i=j:=by
 let#[h1,e1]:=ae.mp a;let#[h2,e2]:=ae.mp b;exact(Kx hN).mp (e1.trans e2.symm)
theorem wZ{M:Model}{A:dN}{E:Value->aC->Prop}{i:Nat}{x:Str}{v:V}{u:Value}{Q:Unit->aC->Prop}(I:Inv X pZ σ H s)(hN:X.N.Nodup)(hi:X.N[i]?=some x)(hx:Loc X.env.scope x)(r:RelV v u)
  (h:∀s',Inv X pZ (σ.set i (some v)) H s'->(∃a,gc a s.heap s'.heap/\(a=X.env.locals\/X.env.cells.lookup x=some a))->Q () s') (hf:X.fn x=true\/X.env.scope.names.lookup x=some .local:=by first|exact .inl rfl|exact .inr rfl|assumption):wpAny M A (storeName X.env x u) Q E s:=by
 let#[m,hn,hl]:=id I.loc;have hcls:(X.env.scope.kind==.class||(X.env.scope.kind==.module&&X.env.locals !=X.env.globals))=false:=by rw[I.ok.kind];rfl
 have hiσ:i<σ.length:=by rw[I.len];exact(ae.mp hi).1
 have OS:=I.OS;have tracked:∀{a:Addr}{h':Heap},(∃o,s.heap.get? a=some o/\H a=none)->gc a s.heap h'->pU X.prog X.w H h':=λ{a h'}ha hs b ob e=>by
  let#[_,_,hfree]:=ha;refine(I.dD b ob e).B8 (λc w' hc q=>(hs.2 c ?_).trans q) (λ_ q=>q) λ_ _ q=>q
  rintro rfl;rcases hc with rfl|hc
  .rw[hfree] at e;cases e
  .rw[hfree] at hc;cases hc
 rcases hx with hk|hk
 .rwa[wpAny_storeName_local hk hn (λh' hn' hs=>?_) hcls]
  let#[oL,_,_,hoL,_]:=id hn;refine h _ #[I.ok,I.os,I.bare,#[λb o e n hb hx=>?_,λb o e n hb hx=>?_,I.base.free,λb o e hx=>?_,I.base.Al,I.base.ym,I.base.Am],#[_,hn',λj y v' e1 e2 e3=>?_],λy c e=>?_,I.free,I.pX,λp hp=>?_,tracked #[oL,hoL,I.free] hs,by simpa using I.len] #[_,hs,.inl rfl]
  .exact(hs.2 b (aY (av (aS e) I.ok.above))).trans (I.base.keep b o e n hb hx)
  .let#[sl,e1]:=I.base.slot b o e n hb hx
   exact#[sl,(hs.2 b (aY (av (aS e) I.ok.above))).trans e1]
  .let#[o',e1]:=I.base.there b o e hx
   exact#[o',(hs.2 b (aY (av (aS e) I.ok.above))).trans e1]
  .by_cases hj:j=i
   .subst hj
    rw[hi] at e1;cases e1;rw[bM hiσ] at e2;cases e2;exact#[u,r,.inl #[hk,by simp]]
   .rw[ao (cR hj)] at e2
    let#[u',r',q]:=hl j y v' e1 e2 e3;refine#[u',r',?_];rcases q with⟨k,e⟩|⟨k,c,e,z⟩
    .rwa[.inl #[k,?_]]
     have:y≠x:=λe=>hj (Ap hN e1 (e▸hi))
     simp[this,e]
    .erw[.inr #[k,c,e,z.sameBut hs (OS y c e)]]
  .let#[w',z]:=I.cell y c e
   exact#[w',z.sameBut hs (OS y c e)]
  .let#[e,n,ne,nf,d]:=I.pin p hp
   exact#[(hs.2 p.1 ne).trans e,n,ne,nf,d]
 .have hfn:X.fn x=true:=by
   rcases hf with z|z
   .erw[z]
   .rw[z] at hk;cases hk
  let#[c,hc]:=I.ok.has x (.inl hk);let#[w',z]:=I.cell x c hc;rwa[wpAny_storeName_cell I.ok.kind hk hc z (λh' hc' hs=>?_)];let#[oc,hoc,hocd]:=id z;refine h {s with heap:=h'} #[I.ok,I.os,I.bare,#[λb o e n hb hx=>?_,λb o e n hb hx=>?_,I.base.free,λb o e hx=>?_,I.base.Al,I.base.ym,I.base.Am],#[m,hn.sameBut hs (cR (OS x c hc)),λj y v' e1 e2 e3=>?_],λy c' e=>?_,I.free,I.pX,λp hp=>?_,tracked #[oc,hoc,I.pX x c hc] hs,by simpa using I.len] #[c,hs,.inr hc]
  .exact(hs.2 b (aY (av (aS e) (I.ok.Tp x c hfn hc)))).trans (I.base.keep b o e n hb hx)
  .let#[sl,e1]:=I.base.slot b o e n hb hx
   exact#[sl,(hs.2 b (aY (av (aS e) (I.ok.Tp x c hfn hc)))).trans e1]
  .let#[o',e1]:=I.base.there b o e hx
   exact#[o',(hs.2 b (aY (av (aS e) (I.ok.Tp x c hfn hc)))).trans e1]
  .by_cases hj:j=i
   .subst hj
    rw[hi] at e1;cases e1;rw[bM hiσ] at e2;cases e2;exact#[u,r,.inr #[.inl hk,c,hc,hc']]
   .rw[ao (cR hj)] at e2
    let#[u',r',q]:=hl j y v' e1 e2 e3;refine#[u',r',?_];rcases q with q|⟨k,c',e,z'⟩
    .erw[.inl q]
    .rwa[.inr #[k,c',e,z'.sameBut hs ?_]]
     rintro rfl;erw[hj (Ap hN e1 (I.ok.inj _ _ _ e hc▸hi))]
  .by_cases hcc:c'=c
   .subst hcc;exact#[_,hc']
   .let#[w2,z2]:=I.cell y c' e
    exact#[w2,z2.sameBut hs hcc]
  .let#[e,n,ne,nf,d]:=I.pin p hp
   refine#[(hs.2 p.1 ?_).trans e,n,ne,nf,d];intro q;rw[q,hoc] at e;have q':oc=p.2:=aF e;erw[d w' (by rw[<-q'];exact hocd)]
theorem qU{M:Model}{A:dN}{E:Value->aC->Prop}{i:Nat}{x:Str}{v:V}{u:Value}{Q:Unit->aC->Prop}(I:Inv X pZ σ H s)(hN:X.N.Nodup)(hi:X.N[i]?=some x)(hx:Loc X.env.scope x)(r:RelV v u)
  (h:∀s',Inv X pZ (σ.set i (some v)) H s'->Q () s') (hf:X.fn x=true\/X.env.scope.names.lookup x=some .local:=by first|exact .inl rfl|exact .inr rfl|assumption):wpAny M A (storeName X.env x u) Q E s:=
 wZ I hN hi hx r (λs' I' _=>h s' I') hf
theorem Inv.Tq(I:Inv X pZ σ H s)(ho:s'.os=s.os)(u:Un (GJ X.stack) ch H H' s.heap s'.heap)(dD:pU X.prog X.w H' s'.heap)(hg:qg s'.gens)
  (hch:∀b∈ch,(b∈X.ex\/X.s₀.heap.objs.size<=b)/\b≠X.env.locals/\(∀x c,X.env.cells.lookup x=some c->c≠b)/\∀p∈X.pn++pZ,p.1≠b):Inv X pZ σ H' s':=by
 let#[h',g',d',t',o']:=s';have e:o'=s.os:=ho;subst e;erw[I.call (g':=g') (t':=t') (d':=d') u dD hg hch]
end
abbrev XK:=Value->Option Addr->Hp->Prop
abbrev St:=List (Option V)
abbrev VK:=V->Hp->Prop
abbrev TE:=St->Hp->VK->Prop
abbrev TT:=St->Hp->(Bool->Hp->Prop)->Prop
abbrev TA:=St->Hp->(List V->Hp->Prop)->Prop
structure Ends where
 nx:St->Hp->Prop
 rt:VK
 bk:St->Hp->Prop:=λ_ _=>False
 ct:St->Hp->Prop:=λ_ _=>False
abbrev TS:=Ends->St->Hp->Prop
def EP(X:Cx)(pZ:List (Addr×Obj))(σ:St)(Q:VK)(u:Value)(s':aC):Prop:=∃v H',Inv X pZ σ H' s'/\RelV v u/\Q v H'
def TP(X:Cx)(pZ:List (Addr×Obj))(σ:St)(Q:Bool->Hp->Prop)(b:Bool)(s':aC):Prop:=∃H',Inv X pZ σ H' s'/\Q b H'
def AP(X:Cx)(pZ:List (Addr×Obj))(σ:St)(Q:List V->Hp->Prop)(us:List Value)(s':aC):Prop:=∃vs H',Inv X pZ σ H' s'/\Vals vs us/\Q vs H'
def SP(X:Cx)(pZ:List (Addr×Obj))(D:Ends)(f:Flow)(s':aC):Prop:=
 match f with
 |.next=>∃σ' H',Inv X pZ σ' H' s'/\D.nx σ' H'
 |.brk=>∃σ' H',Inv X pZ σ' H' s'/\D.bk σ' H'
 |.cont=>∃σ' H',Inv X pZ σ' H' s'/\D.ct σ' H'
 |.ret u=>∃v σ' H',Inv X pZ σ' H' s'/\RelV v u/\D.rt v H'
def PE(X:Cx)(e:Expr)(t:TE):Prop:=
 ∀(pZ:List (Addr×Obj))(s:aC)(σ:St)(H:Hp)(Q:VK),Inv X pZ σ H s->t σ H Q->wpAny (bc X.prog X.w) X.A (eval e X.env) (EP X pZ σ Q) X.xe s
def PT(X:Cx)(e:Expr)(t:TT):Prop:=
 ∀(pZ:List (Addr×Obj))(s:aC)(σ:St)(H:Hp)(Q:Bool->Hp->Prop),Inv X pZ σ H s->t σ H Q->wpAny (bc X.prog X.w) X.A (isTrue e X.env (eval e X.env)) (TP X pZ σ Q) X.xe s
def PW(X:Cx)(e:Expr)(t:TT):Prop:=
 ∀(whole:Sem Value)(pZ:List (Addr×Obj))(s:aC)(σ:St)(H:Hp)(Q:Bool->Hp->Prop),Inv X pZ σ H s->t σ H Q->wpAny (bc X.prog X.w) X.A (isTrue e X.env whole) (TP X pZ σ Q) X.xe s
theorem PW.pt{X:Cx}{e:Expr}{t:TT}(h:PW X e t):PT X e t:=h _
def PA(X:Cx)(es:List Expr)(t:TA):Prop:=
 ∀(pos:Pos)(pZ:List (Addr×Obj))(s:aC)(σ:St)(H:Hp)(Q:List V->Hp->Prop),Inv X pZ σ H s->t σ H Q->wpAny (bc X.prog X.w) X.A (spliced (eJ pos (bx es X.env))) (AP X pZ σ Q) X.xe s
def PS(X:Cx)(st:Stmt)(t:TS):Prop:=
 ∀(pZ:List (Addr×Obj))(s:aC)(σ:St)(H:Hp)(D:Ends),Inv X pZ σ H s->t D σ H->wpAny (bc X.prog X.w) X.A (exec st X.env) (SP X pZ D) X.xe s
def uo(X:Cx)(st:List Stmt)(t:TS):Prop:=
 ∀(pZ:List (Addr×Obj))(s:aC)(σ:St)(H:Hp)(D:Ends),Inv X pZ σ H s->t D σ H->wpAny (bc X.prog X.w) X.A (execs st X.env) (SP X pZ D) X.xe s
theorem dW{α:Type}{t:Sem α}{Q Q':α->aC->Prop}{M:Model}{A:dN}{E:Value->aC->Prop}{s:aC}(h:wpAny M A t Q E s)(hQ:∀a s,Q a s->Q' a s):wpAny M A t Q' E s:=fL h hQ λ_ _ x=>x
section
variable{X:Cx}
noncomputable def XF(i:Nat):TE:=λσ H Q=>∃v,σ[i]?=some (some v)/\Q v H
noncomputable def tC(v:V):TE:=λ_ H Q=>Q v H
theorem OT(hN:X.N[i]?=some x)(hv:To X.env.scope x)(hd:(x==("__debug__":Str))=false:=by decide)(hcd:(x==("__classdict__":Str))=false:=by decide):PE X (.Name x pos) (XF i):=by
 k_ne;let#[v,e,h]:=h;let#[m,hn,hl]:=I.loc;let#[u,r,l]:=hl i x v hN e hv;have fin:EP X pZ σ Q u s:=#[v,H,I,r,h]
 rcases l with⟨hk,hm⟩|⟨hk,c,hc,hcell⟩
 .erw[wpAny_Name (K3 I.ok.kind hk hn hm fin) hd]
 .rcases hk with hk|hk
  .erw[wpAny_Name (wpAny_loadName_cell I.ok.kind hk hc hcell fin) hd]
  .erw[wpAny_Name (wpAny_loadName_free I.ok.kind hk hc hcell fin hcd) hd]
theorem OU{i j pos}:PE X (.Constant (.int i) j pos) (tC (.int i)):=λ_ _ _ H _ I h=>wpAny_Constant_int #[.int i,H,I.tok _,#[_,rfl],h]
theorem Ts{b j pos}:PE X (.Constant (.bool b) j pos) (tC (.bl b)):=λ_ _ _ H _ I h=>Constant_bool #[.bl b,H,I,rfl,h]
theorem OV{j pos}:PE X (.Constant .none j pos) (tC .bV):=λ_ _ _ H _ I h=>Constant_none #[.bV,H,I,rfl,h]
theorem OW{x j pos}:PE X (.Constant (.str x) j pos) (tC (.str x)):=λ_ _ _ H _ I h=>Calls.Constant_str #[.str x,H,I.tok _,#[_,rfl],h]
def Gl(X:Cx)(x:Str):Prop:=X.env.kindOf x=some .globalImplicit
theorem qV{E:Value->aC->Prop}{pZ:List (Addr×Obj)}{s:aC}{σ:St}{H:Hp}{x:Str}{u:Value}{pos:Pos}{Q:Value->aC->Prop}(I:Inv X pZ σ H s)(hg:Gl X x)(hm:X.mg x=some u)(h:Q u s)
  (hd:(x==("__debug__":Str))=false:=by decide):wpAny (bc X.prog X.w) X.A (eval (.Name x pos) X.env) Q E s:=
 wb I.ok.kind hg (Calls.loadGlobal_global (by rw[I.ok.glob];erw[I.mod.glob.keeps I.bk]) hm h) hd
theorem qm{E:Value->aC->Prop}{pZ:List (Addr×Obj)}{s:aC}{σ:St}{H:Hp}{x:Str}{u:Value}{pos:Pos}{Q:Value->aC->Prop}(I:Inv X pZ σ H s)(hg:Gl X x)(hm:X.mg x=none)(hv:kg x=some u)(h:Q u s)
  (hn:x≠"__name__":=by decide) (hd:(x==("__debug__":Str))=false:=by decide):wpAny (bc X.prog X.w) X.A (eval (.Name x pos) X.env) Q E s:=by
 let#[mb,h1,h2]:=I.mod.blt;erw[wb I.ok.kind hg (Calls.loadGlobal_builtin (by rw[I.ok.glob];exact I.mod.glob.keeps I.bk) hm (by rw[I.ok.blt];exact h1.keeps I.bk) ((h2 x hn).trans hv) h) hd]
theorem Lh{x:Str}{v:V}{u:Value}{pos:Pos}(hg:Gl X x)(hm:X.mg x=some u)(r:RelV v u)(hd:(x==("__debug__":Str))=false:=by decide):PE X (.Name x pos) (tC v):=
 λ_ _ _ H _ I h=>qV I hg hm #[v,H,I,r,h] hd
theorem Li(hg:Gl X x)(hm:X.mg x=none)(hv:kg x=some u)(r:RelV v u)(hn:x≠"__name__":=by decide)(hd:(x==("__debug__":Str))=false:=by decide):PE X (.Name x pos) (tC v):=
 λ_ _ _ H _ I h=>qm I hg hm hv #[v,H,I,r,h] hn hd
variable{a b:Expr}{ta tb:TE}{pos:Pos}
variable{tA tB':TT}{rest:List Expr}
noncomputable def XG(t u:TT):TT:=λσ H Q=>t σ H λc H1=>if c=true then u σ H1 Q else Q false H1
noncomputable def tOr(t u:TT):TT:=λσ H Q=>t σ H λc H1=>if c=true then Q true H1 else u σ H1 Q
noncomputable def XH(t:TT):TT:=λσ H Q=>t σ H λc H1=>Q (!c) H1
theorem Lj(ha:PT X a tA):PW X (.BoolOp .And [a] pos) tA:=by
 intro wh pZ s σ H Q I h;rwa[isTrue_and (dW (ha pZ s σ H Q I h) λc s1 e=>?_)];cases c with
 |true=>erw[isTrue_and_nil e]
 |false=>erw[e]
theorem OX(ha:PT X a tA):PW X (.BoolOp .Or [a] pos) tA:=by
 intro wh pZ s σ H Q I h;rwa[isTrue_or (dW (ha pZ s σ H Q I h) λc s1 e=>?_)];cases c with
 |false=>erw[isTrue_or_nil e]
 |true=>erw[e]
theorem OY(ha:PT X a tA)(hb:PW X (.BoolOp .And (b::rest) pos) tB'):PW X (.BoolOp .And (a::b::rest) pos) (XG tA tB'):=by
 intro wh pZ s σ H Q I h;rwa[isTrue_and (dW (ha pZ s σ H _ I h) λc s1 h9=>?_)];let#[H1,I1,q1]:=h9;cases c with
 |true=>erw[hb wh pZ s1 σ H1 Q I1 q1]
 |false=>exact#[H1,I1,q1]
theorem Tt(ha:PT X a tA)(hb:PW X (.BoolOp .Or (b::rest) pos) tB'):PW X (.BoolOp .Or (a::b::rest) pos) (tOr tA tB'):=by
 intro wh pZ s σ H Q I h;rwa[isTrue_or (dW (ha pZ s σ H _ I h) λc s1 h9=>?_)];let#[H1,I1,q1]:=h9;cases c with
 |true=>exact#[H1,I1,q1]
 |false=>erw[hb wh pZ s1 σ H1 Q I1 q1]
theorem OZ(ha:PT X a tA):PT X (.UnaryOp .Not a pos) (XH tA):=by
 k_ne;erw[isTrue_not (ha pZ s σ H (λc H1=>Q (!c) H1) I h)]
noncomputable def Tv(ta tb:TE):TE:=λσ H Q=>ta σ H λx H1=>∃c,x=.bl c/\if c=true then tb σ H1 Q else Q (.bl false) H1
noncomputable def XI(ta tb:TE):TE:=λσ H Q=>ta σ H λx H1=>∃c,x=.bl c/\if c=true then Q (.bl true) H1 else tb σ H1 Q
noncomputable def Tw(ta:TE):TE:=λσ H Q=>ta σ H λx H1=>∃c,x=.bl c/\Q (.bl (!c)) H1
theorem O0{op}(h:PE X a t):PE X (.BoolOp op [a] pos) t:=λpZ s σ H Q I hw=>BoolOp_one (h pZ s σ H Q I hw)
theorem O1(ha:PE X a ta)(hb:PE X (.BoolOp .And (b::rest) pos) tb):PE X (.BoolOp .And (a::b::rest) pos) (Tv ta tb):=by
 k_ne;rwa[BoolOp_and (dW (ha pZ s σ H _ I h) λv s1 h9=>?_)];let#[x,H1,I1,r1,q1]:=h9;let#[c,rfl,q1]:=q1;cases r1;rwa[cw ?_];cases c with
 |true=>erw[hb pZ s1 σ H1 Q I1 q1]
 |false=>exact#[.bl false,H1,I1,rfl,q1]
theorem Tz(ha:PE X a ta)(hb:PE X (.BoolOp .Or (b::rest) pos) tb):PE X (.BoolOp .Or (a::b::rest) pos) (XI ta tb):=by
 k_ne;rwa[BoolOp_or (dW (ha pZ s σ H _ I h) λv s1 h9=>?_)];let#[x,H1,I1,r1,q1]:=h9;let#[c,rfl,q1]:=q1;cases r1;rwa[cw ?_];cases c with
 |false=>erw[hb pZ s1 σ H1 Q I1 q1]
 |true=>exact#[.bl true,H1,I1,rfl,q1]
theorem O2(ha:PE X a ta):PE X (.UnaryOp .Not a pos) (Tw ta):=by
 k_ne;rwa[UnaryOp_ (dW (ha pZ s σ H _ I h) λv s1 h9=>?_)];let#[x,H1,I1,r1,q1]:=h9;let#[c,rfl,q1]:=q1;cases r1;erw[not_of (cw #[.bl (!c),H1,I1,rfl,q1])]
noncomputable def tIf(t:TT)(ta tb:TE):TE:=λσ H Q=>t σ H λc H1=>if c=true then ta σ H1 Q else tb σ H1 Q
theorem Hn{c:Expr}(hc:PT X c tA)(ha:PE X a ta)(hb:PE X b tb):PE X (.IfExp c a b pos) (tIf tA ta tb):=by
 k_ne;rwa[wpAny_IfExp (dW (hc pZ s σ H _ I h) λd s1 h9=>?_)];let#[H1,I1,q1]:=h9;cases d with
 |true=>erw[ha pZ s1 σ H1 Q I1 q1]
 |false=>erw[hb pZ s1 σ H1 Q I1 q1]
end
def iU(K:aJ)(H:Hp)(a:Addr)(xs:List V):Prop:=
 Rd H a (.lst xs) \/
  ∃(o:Obj)(its:Array Value)(n:Nat),K.lookup a=some o/\o.cls=.type "list"/\o.dict=none/\o.data=.seq its n/\its.size<=sizeLine/\Vals xs its.toList
def mq(K:aJ)(H:Hp)(a:Addr)(xs:List V):Prop:=
 Rd H a (.tup xs) \/
  ∃(o:Obj)(its:Array Value)(n:Nat),K.lookup a=some o/\o.cls=.type "tuple"/\o.data=.seq its n/\its.size<=sizeLine/\Vals xs its.toList
noncomputable def XJ:Value->Option V
 |.none=>some .bV
 |.bool b=>some (.bl b)
 |.int i _=>some (.int i)
 |.str x _=>some (.str x)
 |.bytes b _=>some (.BN b)
 |.float b _=>some (.W4 b)
 |.ref a=>some (.ref a)
 |.type n=>some (.ty n)
 |_=>none
theorem RelV.abs(r:RelV x u):XJ u=some x:=by
 cases x with
 |bV=>cases r;rfl
 |bl _=>cases r;rfl
 |int _=>let#[t,rfl]:=r;rfl
 |str _=>let#[t,rfl]:=r;rfl
 |BN _=>let#[t,rfl]:=r;rfl
 |W4 _=>let#[t,rfl]:=r;rfl
 |ref _=>cases r;rfl
 |ty _=>cases r;rfl
theorem RelV.inj{x y:V}{u:Value}(r:RelV x u)(q:RelV y u):x=y:=aF (r.abs.symm.trans q.abs)
theorem Vals.inj:∀{xs ys:List V}{us:List Value},Vals xs us->Vals ys us->xs=ys
 |_,_,_,.nil,.nil=>rfl
 |_,_,_,.cons r t,.cons r' t'=>by rw[r.inj r',Vals.inj t t']
section
variable{X:Cx}{pZ:List (Addr×Obj)}{σ:St}{H:Hp}{s:aC}{a:Addr}{xs ys:List V}
theorem iU.of{K:aJ}(h:H a=some (.lst xs)):iU K H a xs:=.inl (.inl h)
theorem mq.of{K:aJ}(h:H a=some (.tup xs)):mq K H a xs:=.inl (.inl h)
theorem Inv.list(I:Inv X pZ σ H s)(h:iU X.K H a xs):∃its:List Value,Vals xs its/\PlainL s.heap a its.toArray/\xs.length<=sizeLine:=by
 rcases h with h|⟨o,its,n,hk,hc,hd,hs,hz,r⟩
 .let#[z,its,n,r,e]:=h.ok I.dD
  exact#[its,r,#[_,n,e,rfl,rfl,rfl],z]
 .refine#[its.toList,r,#[o,n,I.yo a o hk,hc,hd,by simpa using hs],?_]
  have e:=r.length;dsimp[qh] at e;omega
theorem Inv.tuple(I:Inv X pZ σ H s)(h:mq X.K H a xs):∃its:List Value,Vals xs its/\IsTup s.heap a its.toArray/\xs.length<=sizeLine:=by
 rcases h with h|⟨o,its,n,hk,hc,hs,hz,r⟩
 .let#[z,its,r,p]:=h.ok I.dD
  exact#[its,r,p,z]
 .refine#[its.toList,r,#[o,I.yo a o hk,hc,n,by simpa using hs],?_]
  have e:=r.length;dsimp[qh] at e;omega
theorem Inv.uS(I:Inv X pZ σ H s)(h:iU X.K H a xs)(h':iU X.K H a ys):xs=ys:=by
 let#[its,r,#[o,n,e,_,_,d],_]:=I.list h;let#[its',r',#[o',n',e',_,_,d'],_]:=I.list h';rw[e] at e';cases e';rw[d] at d';injection d' with d1 _
 have:its=its':=by simpa using congrArg z7 d1
 subst this;erw[r.inj r']
theorem Inv.xc(I:Inv X pZ σ H s)(h:mq X.K H a xs)(h':mq X.K H a ys):xs=ys:=by
 let#[its,r,#[o,e,_,n,d],_]:=I.tuple h;let#[its',r',#[o',e',_,n',d'],_]:=I.tuple h';rw[e] at e';cases e';rw[d] at d';injection d' with d1 _
 have:its=its':=by simpa using congrArg z7 d1
 subst this;erw[r.inj r']
end
noncomputable abbrev Cx.wq(X:Cx)(E:Value->aC->Prop):Cx:={X with xe:=E}
abbrev Cx.TB(X:Cx):Cx:=X.wq λ_ _=>False
theorem Cx.Ok.wq{X:Cx}(ok:X.Ok)(E:Value->aC->Prop):(X.wq E).Ok:=
 #[ok.mod,ok.kind,ok.glob,ok.blt,ok.above,ok.inj,ok.has,ok.Tp,ok.hd,ok.frames,ok.W5,ok.ZV,ok.bs,ok.Lf,ok.Hm,ok.Lg,ok.t9,ok.OR]
theorem Cx.Ok.oI{X:Cx}{E:Value->aC->Prop}(ok:(X.wq E).Ok):X.Ok:=
 #[ok.mod,ok.kind,ok.glob,ok.blt,ok.above,ok.inj,ok.has,ok.Tp,ok.hd,ok.frames,ok.W5,ok.ZV,ok.bs,ok.Lf,ok.Hm,ok.Lg,ok.t9,ok.OR]
section
variable{X:Cx}{pZ:List (Addr×Obj)}{σ:St}{H:Hp}{s:aC}{E:Value->aC->Prop}
theorem Inv.wq(I:Inv X pZ σ H s)(E:Value->aC->Prop):Inv (X.wq E) pZ σ H s:=#[I.ok.wq E,I.os,I.bare,I.base,I.loc,I.cell,I.free,I.pX,I.pin,I.dD,I.len]
theorem Inv.oI(I:Inv (X.wq E) pZ σ H s):Inv X pZ σ H s:=#[I.ok.oI,I.os,I.bare,I.base,I.loc,I.cell,I.free,I.pX,I.pin,I.dD,I.len]
theorem SP.oI(h:SP (X.wq E) pZ D f s'):SP X pZ D f s':=by
 cases f with
 |next=>let#[σ',H',I,q]:=h;exact#[σ',H',I.oI,q]
 |brk=>let#[σ',H',I,q]:=h;exact#[σ',H',I.oI,q]
 |cont=>let#[σ',H',I,q]:=h;exact#[σ',H',I.oI,q]
 |ret u=>let#[v,σ',H',I,r,q]:=h;exact#[v,σ',H',I.oI,r,q]
theorem uo.TB{st:List Stmt}{t:TS}(h:uo X.TB st t):uo X st t:=λpZ s σ H D I hw=>
 fL (h pZ s σ H D (I.wq _) hw) (λ_ _ q=>q.oI) λ_ _ z=>aT z
end
section
variable{X:Cx}{st:Stmt}{rest:List Stmt}{t u:TS}{e:Expr}{te:TE}{pos:Pos}
noncomputable def TC:TS:=λD σ H=>D.nx σ H
noncomputable def XM(t u:TS):TS:=λD σ H=>t {D with nx:=u D} σ H
theorem Lk:uo X [] TC:=λ_ _ σ H _ I h=>qD #[σ,H,I,h]
theorem Ho(h1:PS X st t)(h2:uo X rest u):uo X (st::rest) (XM t u):=by
 intro pZ s σ H D I h;refine wpAny_execs_cons (dW (h1 pZ s σ H {D with nx:=u D} I h) λf s1 q=>?_);cases f with
 |next=>
  let#[σ',H',I',q]:=q;erw[h2 pZ s1 σ' H' D I' q]
 |ret v=>erw[q]
 |brk=>erw[q]
 |cont=>erw[q]
theorem Inv.quiet{pZ:List (Addr×Obj)}{σ:St}{H:Hp}{s:aC}(I:Inv X pZ σ H s):interactive X.env=false:=by simp[interactive,I.ok.kind]
noncomputable def TF(te:TE):TS:=λD σ H=>te σ H λ_ H1=>D.nx σ H1
theorem Ll(he:PE X e te)(hs:hU e none pos.line X.env=pure false:=by rfl):PS X (.Expr e pos) (TF te):=by
 intro pZ s σ H D I h;rwa[wpAny_Expr_any (dW (he pZ s σ H _ I h) λv s1 h9=>?_) I.quiet hs];let#[x,H1,I1,r1,q1]:=h9;exact#[σ,H1,I1,q1]
noncomputable def XN(te:TE):TS:=λD σ H=>te σ H D.rt
theorem O3(he:PE X e te):PS X (.Return (some e) pos) (XN te):=by
 intro pZ s σ H D I h;rwa[wpAny_Return_some (dW (he pZ s σ H _ I h) λv s1 h9=>?_)];let#[x,H1,I1,r1,q1]:=h9;exact#[x,σ,H1,I1,r1,q1]
noncomputable def XO(c:TT)(t u:TS):TS:=λD σ H=>c σ H λb H1=>if b=true then t D σ H1 else u D σ H1
theorem TH{c:Expr}{a b:List Stmt}{tc:TT}(hc:PT X c tc)(ha:uo X a t)(hb:uo X b u):PS X (.If c a b pos) (XO tc t u):=by
 intro pZ s σ H D I h;rwa[wpAny_If (dW (hc pZ s σ H _ I h) λd s1 h9=>?_)];let#[H1,I1,q1]:=h9;cases d with
 |true=>erw[ha pZ s1 σ H1 D I1 q1]
 |false=>erw[hb pZ s1 σ H1 D I1 q1]
end
abbrev TG:=V->St->Hp->(St->Hp->Prop)->Prop
abbrev O4:=List V->St->Hp->(St->Hp->Prop)->Prop
def PG(X:Cx)(target:Expr)(t:TG):Prop:=
 ∀(pZ:List (Addr×Obj))(s:aC)(σ:St)(H:Hp)(v:V)(u:Value)(Q:St->Hp->Prop),Inv X pZ σ H s->RelV v u->t v σ H Q ->
  wpAny (bc X.prog X.w) X.A (xZ target X.env u) (λ_ s'=>∃σ' H',Inv X pZ σ' H' s'/\Q σ' H') X.xe s
def W6(X:Cx)(ts:List Expr)(t:O4):Prop:=
 ∀(pZ:List (Addr×Obj))(s:aC)(σ:St)(H:Hp)(vs:List V)(us:List Value)(Q:St->Hp->Prop),Inv X pZ σ H s->Vals vs us->t vs σ H Q ->
  wpAny (bc X.prog X.w) X.A (assignInOrder ((uL ts X.env).map (·.2)) us) (λ_ s'=>∃σ' H',Inv X pZ σ' H' s'/\Q σ' H') X.xe s
abbrev O5:=V->V->V->Hp->(Hp->Prop)->Prop
def TJ(X:Cx)(t:O5):Prop:=
 ∀(pZ:List (Addr×Obj))(s:aC)(σ:St)(H:Hp)(o i v:V)(ov iv u:Value)(Q:Hp->Prop),Inv X pZ σ H s->RelV o ov->RelV i iv->RelV v u->t o i v H Q ->
  wpAny (bc X.prog X.w) X.A (setItem ov iv u) (λ_ s'=>∃H',Inv X pZ σ H' s'/\Q H') X.xe s
abbrev TK:=V->V->Hp->VK->Prop
def ZW(X:Cx)(op:mW)(t:TK):Prop:=
 ∀(pZ:List (Addr×Obj))(s:aC)(σ:St)(H:Hp)(x y:V)(v u:Value)(Q:VK),Inv X pZ σ H s->RelV x v->RelV y u->t x y H Q ->
  wpAny (bc X.prog X.w) X.A (ie op v u) (EP X pZ σ Q) X.xe s
section
variable{X:Cx}{pos:Pos}
noncomputable def xf(i:Nat):TG:=λv σ H Q=>Q (σ.set i (some v)) H
theorem qW{i:Nat}{x:Str}(hN:X.N.Nodup)(hi:X.N[i]?=some x)(hx:Loc X.env.scope x)(hf:X.fn x=true\/X.env.scope.names.lookup x=some .local:=by first|exact .inl rfl|exact .inr rfl|assumption):PG X (.Name x pos) (xf i):=by
 intro pZ s σ H v u Q I r h;erw[wd (qU I hN hi hx r (λs' I'=>#[_,H,I',h]) hf)]
noncomputable def XQ:O4:=λvs σ H Q=>vs=[]/\Q σ H
noncomputable def TL(t:TG)(u:O4):O4:=λvs σ H Q=>∃v r,vs=v::r/\t v σ H λσ' H'=>u r σ' H' Q
theorem DG:W6 X [] XQ:=by
 intro pZ s σ H vs us Q I r h;let#[e,h]:=h;subst e;cases r;erw[assignInOrder_nil #[σ,H,I,h]]
theorem qX{e:Expr}{es:List Expr}{t:TG}{u:O4}(h1:PG X e t)(h2:W6 X es u)
  (hs:(uL (e::es) X.env).map (·.2)=xZ e X.env::(uL es X.env).map (·.2):=by rfl):W6 X (e::es) (TL t u):=by
 intro pZ s σ H vs us Q I r h;let#[v,vr,e1,h]:=h;subst e1;cases r with
 |cons r rr=>
  rw[hs]
  rwa[assignInOrder_cons (dW (h1 pZ s σ H _ _ _ I r h) λ_ s1 h9=>?_)];let#[σ1,H1,I1,q1]:=h9;erw[h2 pZ s1 σ1 H1 _ _ Q I1 rr q1]
noncomputable def XR(K:aJ)(n:Nat)(t:O4):TG:=λv σ H Q=>∃a xs,v=.ref a/\mq K H a xs/\xs.length=n/\t xs σ H Q
theorem Hq{es:List Expr}{k:Nat}{t:O4}{n:Nat}(hc:X.calm=true)(h:W6 X es t)
  (hn:(uL es X.env).length=n:=by rfl) (hst:(uL es X.env).findIdx? (·.1)=none:=by rfl):PG X (.Tuple es k pos) (XR X.K n t):=by
 intro pZ s σ H v u Q I r hw;let#[a,xs,e1,hq,hl,hw]:=hw;subst e1;cases r;let#[its,rv,ht,hz]:=I.tuple hq;rwa[assign_Tuple_tuple (I.ok.hd hc) ht (by simp[hn,<-hl,rv.length]) hst λh' hx=>?_]
 have I1:Inv X pZ σ H {s with heap:=h'}:=I.kept (t':=s.toks) λb o e=>hx b o (aY (aS e)) e
 exact h pZ _ σ H xs _ Q I1 (by simpa using rv) hw
noncomputable def TM(te:TE)(g:TG):TS:=λD σ H=>te σ H λx H1=>g x σ H1 D.nx
theorem Hr{i:Nat}{x:Str}{e:Expr}{te:TE}{pos':Pos}(hN:X.N.Nodup)(hi:X.N[i]?=some x)(hx:Loc X.env.scope x)(he:PE X e te)(hs:hU e (some (.Name x pos')) pos.line X.env=pure false:=by rfl)(hf:X.fn x=true\/X.env.scope.names.lookup x=some .local:=by first|exact .inl rfl|exact .inr rfl|assumption):
  PS X (.Assign [.Name x pos'] e pos) (TM te (xf i)):=by
 intro pZ s σ H D I h;rwa[wpAny_Assign_Name (dW (he pZ s σ H _ I h) λv s1 h9=>?_) hs];let#[y,H1,I1,r1,q1]:=h9;erw[qU I1 hN hi hx r1 (λs2 I2=>#[_,H1,I2,q1]) hf]
noncomputable def XS(i:Nat)(te:TE)(ti:TK):TS:=λD σ H=>∃x,σ[i]?=some (some x)/\te σ H λy H1=>ti x y H1 λz H2=>D.nx (σ.set i (some z)) H2
theorem O6{i:Nat}{x:Str}{e:Expr}{te:TE}{op:mW}{ti:TK}{pos':Pos}(hN:X.N.Nodup)(hi:X.N[i]?=some x)(hx:Loc X.env.scope x)(he:PE X e te)(ho:ZW X op ti)(hf:X.fn x=true\/X.env.scope.names.lookup x=some .local:=by first|exact .inl rfl|exact .inr rfl|assumption):
  PS X (.AugAssign (.Name x pos') op e pos) (XS i te ti):=by
 intro pZ s σ H D I h;let#[v,e1,h]:=h;let#[m,hn,hl]:=I.loc;have vis:To X.env.scope x:=by rcases hx with k|k;erw[.inl k];erw[.inr (.inl k)]
 let#[u,r,l]:=hl i x v hi e1 vis;refine wpAny_AugAssign_Name ?_;have go:wpAny (bc X.prog X.w) X.A (eval e X.env) (λw s₂=>wpAny (bc X.prog X.w) X.A (ie op u w) (λr s₃=>wpAny (bc X.prog X.w) X.A (storeName X.env x r) (λ_=>SP X pZ D .next) X.xe s₃) X.xe s₂) X.xe s:=by
  rwa[dW (he pZ s σ H _ I h) λw s1 h9=>?_]
  let#[y,H1,I1,r1,q1]:=h9;rwa[dW (ho pZ s1 σ H1 v y u w _ I1 r r1 q1) λz s2 h9=>?_]
  let#[zv,H2,I2,r2,q2]:=h9;erw[qU I2 hN hi hx r2 (λs3 I3=>#[_,H2,I3,q2]) hf]
 rcases l with⟨hk,hm⟩|⟨hk,c,hc,hcell⟩
 .erw[K3 I.ok.kind hk hn hm go]
 .rcases hk with hk|hk
  .erw[wpAny_loadName_cell I.ok.kind hk hc hcell go]
  .rcases hx with k|k
   .have:X.env.scope.names.lookup x=some .free:=hk
    rw[k] at this;cases this
   .have:X.env.scope.names.lookup x=some .free:=hk
    rw[k] at this;cases this
def TN(to ti te:TE)(tget:V->V->Hp->VK->Prop)(tip:TK)(tset:O5):TS:=λD σ H=>to σ H λo H1=>ti σ H1 λi H2=>tget o i H2 λx H3=>te σ H3 λy H4=>tip x y H4 λz H5=>tset o i z H5 λH6=>D.nx σ H6
def TQ(X:Cx)(t:V->V->Hp->VK->Prop):Prop:=
 ∀(pZ:List (Addr×Obj))(s:aC)(σ:St)(H:Hp)(o i:V)(ov iv:Value)(Q:VK),Inv X pZ σ H s->RelV o ov->RelV i iv->t o i H Q ->
  wpAny (bc X.prog X.w) X.A (oB ov iv) (EP X pZ σ Q) X.xe s
theorem Lm{o i e:Expr}{to ti te:TE}{tget:V->V->Hp->VK->Prop}{tip:TK}{tset:O5}{op:mW}{tpos:Pos}(ho:PE X o to)(hi:PE X i ti)(hg:TQ X tget)(he:PE X e te)(hp:ZW X op tip)(hs:TJ X tset)
  (ha:∀ov iv new,augStore i ov iv new=(do holding [new,ov,iv] (setItem ov iv new);release [new,ov,iv] [];pure .next):=by intros;rfl):PS X (.AugAssign (.Subscript o i tpos) op e pos) (TN to ti te tget tip tset):=by
 intro pZ s σ H D I h;rwa[wpAny_AugAssign_SubscriptAny (dW (ho pZ s σ H _ I h) λov s1 h9=>?_) ha];let#[x1,H1,I1,r1,q1]:=h9;rwa[dW (hi pZ s1 σ H1 _ I1 q1) λiv s2 h9=>?_]
 let#[x2,H2,I2,r2,q2]:=h9;rwa[dW (hg pZ s2 σ H2 x1 x2 ov iv _ I2 r1 r2 q2) λold s3 h9=>?_]
 let#[x3,H3,I3,r3,q3]:=h9;rwa[dW (he pZ s3 σ H3 _ I3 q3) λv s4 h9=>?_]
 let#[x4,H4,I4,r4,q4]:=h9;rwa[dW (hp pZ s4 σ H4 x3 x4 old v _ I4 r3 r4 q4) λnew s5 h9=>?_]
 let#[x5,H5,I5,r5,q5]:=h9;rwa[dW (hs pZ s5 σ H5 x1 x2 x5 ov iv new _ I5 r1 r2 r5 q5) λ_ s6 h9=>?_]
 let#[H6,I6,q6]:=h9;exact#[σ,H6,I6,q6]
end
section
variable{X:Cx}{pos:Pos}
noncomputable def O7(c:TT)(tb:TS):TS:=λD σ H=>∃W:Nat->St->Hp->Prop,(∃m,W m σ H)/\∀m σ H,W m σ H ->
 c σ H λb H1=>if b=true then ∃N:St->Hp->Prop,(∀σ' H',N σ' H'->∃m',m'<m/\W m' σ' H')/\tb {D with nx:=N,ct:=N,bk:=D.nx} σ H1 else D.nx σ H1
theorem Hs{c:Expr}{body:List Stmt}{tc:TT}{tb:TS}(hp:PassesOwn (bc X.prog X.w) X.A X.env X.xe)(hc:PT X c tc)(hb:uo X body tb):PS X (.While c body [] pos) (O7 tc tb):=by
 intro pZ s σ H D I h;let#[W,#[m0,w0],turn]:=h;rwa[wpAny_While (codeAny_whileLoop (λn s'=>∃σ' H',Inv X pZ σ' H' s'/\W n σ' H') ?_ m0 #[σ,H,I,w0])];rintro n s1 ⟨σ1,H1,I1,w1⟩;rwa[gW hp (dW (hc pZ s1 σ1 H1 _ I1 (turn n σ1 H1 w1)) λb s2 h9=>?_)];let#[H2,I2,q2]:=h9;cases b with
 |true=>
  let#[N,hN,q2]:=q2;rw[if_pos rfl]
  rwa[gW hp (dW (hb pZ s2 σ1 H2 _ I2 q2) λf s3 q3=>?_)];cases f with
  |next=>
   let#[σ3,H3,I3,n3]:=q3;let#[m',hm,w3]:=hN σ3 H3 n3;exact#[m',hm,σ3,H3,I3,w3]
  |cont=>
   let#[σ3,H3,I3,n3]:=q3;let#[m',hm,w3]:=hN σ3 H3 n3;exact#[m',hm,σ3,H3,I3,w3]
  |brk=>erw[q3]
  |ret v=>erw[q3]
 |false=>
  rw[if_neg aV]
  erw[qD #[σ1,H2,I2,q2]]
end
structure It where
 go:Nat->Hp->Prop
 TR:Nat->Hp->V->Hp->Prop
 stop:Nat->Hp->Prop
def ua(X:Cx)(pZ:List (Addr×Obj))(H:Hp)(b:Addr):Prop:=
 H b=none/\b≠X.env.locals/\b∉X.fs/\(b∈X.ex\/X.s₀.heap.objs.size<=b)/\(∀x c,X.env.cells.lookup x=some c->c≠b)/\∀p∈X.pn++pZ,p.1≠b
theorem Inv.B9{X:Cx}{pZ:List (Addr×Obj)}{σ:St}{H H':Hp}{s:aC}{b:Addr}(I:Inv X pZ σ H s)(hb:s.heap.objs.size<=b)(hn:H' b=none):ua X pZ H' b:=by
 refine#[hn,du (av I.lt hb),I.XE hb,.inr (aH I.sz hb),λx c e z=>?_,λp hp z=>?_]
 .let#[v,q]:=I.cell x c e
  erw[absurd (av q.lt (by rw[z];exact hb)) (cD _)]
 .erw[absurd (av (aS (I.pin p hp).1) (by rw[z];exact hb)) (cD _)]
structure Turn(P:bO)(w:cy)(K:aJ)(tg:Expr)(J:It)(fp:List Addr)(it:Addr)(tn:Nat->Heap->Prop):Prop where
 mem:it∈fp
 obj:∀i h,tn i h->∀b∈fp,∃o,h.get? b=some o/\∀v,o.data≠.cell v
 keep:∀i h h',tn i h->(∀b∈fp,∀o,h.get? b=some o->h'.get? b=some o)->tn i h'
 item:∀(X:Cx),X.prog=P->X.w=w->X.K=K->X.calm=true->∀(i:Nat)(pZ:List (Addr×Obj))(s:aC)(σ:St)(H:Hp)(E:Value->aC->Prop),Inv X pZ σ H s->(∀b∈fp,ua X pZ H b)->tn i s.heap->J.go i H ->
  wpAny (bc P w) X.A (x8 (.ref it)) (λr s1=>∃u,r=some u /\
   wpAny (bc P w) X.A (qE tg (.ref it) u) (λ_ s2=>∃x H',Inv X pZ σ H' s2/\RelV x u/\J.TR i H x H'/\tn (i+1) s2.heap/\∀b∈fp,H' b=none) E s1) E s
 done:∀(X:Cx),X.prog=P->X.w=w->X.K=K->X.calm=true->∀(i:Nat)(pZ:List (Addr×Obj))(s:aC)(σ:St)(H:Hp)(E:Value->aC->Prop),Inv X pZ σ H s->(∀b∈fp,ua X pZ H b)->tn i s.heap->J.stop i H ->
  wpAny (bc P w) X.A (x8 (.ref it)) (λr s1=>r=none/\Inv X pZ σ H s1) E s
 self:∀(A:dN)(i:Nat)(s:aC)(Q:Value->aC->Prop)(E:Value->aC->Prop),tn i s.heap->Q (.ref it) s->wpAny (bc P w) A (pyIter (.ref it)) Q E s
abbrev TI:=St->Hp->(It->Hp->Prop)->Prop
def XT(X:Cx)(pZ:List (Addr×Obj))(σ:St)(tg:Expr)(R:It->Hp->Prop)(itv:Value)(s2:aC):Prop:=
 ∃(it:Addr)(fp:List Addr)(tn:Nat->Heap->Prop)(J:It)(H':Hp),itv=.ref it/\Inv X pZ σ H' s2/\Turn X.prog X.w X.K tg J fp it tn/\tn 0 s2.heap/\(∀b∈fp,ua X pZ H' b)/\R J H'
def PI(X:Cx)(tg iter:Expr)(wi:TI):Prop:=
 ∀(pZ:List (Addr×Obj))(s:aC)(σ:St)(H:Hp)(R:It->Hp->Prop),Inv X pZ σ H s->wi σ H R ->
  wpAny (bc X.prog X.w) X.A (eval iter X.env) (λv s1=>wpAny (bc X.prog X.w) X.A (pyIter v) (XT X pZ σ tg R) X.xe s1) X.xe s
theorem Aq(ho:s.heap.get? it=some o)(hc:o.cls=.type n)(hd:o.data=.fields vs)
    (hn:["enumerate","zip","dict_itemiterator","dict_reverseitemiterator","odict_iterator","itertools.zip_longest","itertools.pairwise"].contains n=false) (hQ:Q () s):wpAny M A (qE tg (.ref it) u) Q E s:=by
  unfold qE;cases tg<;>first
    |exact ax hQ
    | (cases u<;>first
        |exact ax hQ
        | (refine ab (wpAny_load ho ?_)
           rw[hc,hd]
           show wpAny M A (if (["enumerate","zip","dict_itemiterator","dict_reverseitemiterator","odict_iterator","itertools.zip_longest","itertools.pairwise"].contains n&&vs[0]?==some (sr _))=true then _ else _) Q E s
           rw[if_neg (by intro h;rw[hn,Bool.false_and] at h;cases h)]
           erw[ax hQ]))
noncomputable def XU(K:aJ)(a:Addr):It:=
 #[λi H=>∃xs x,iU K H a xs/\xs[i]?=some x,λi H x H'=>H'=H/\∀xs,iU K H a xs->xs[i]?=some x,λi H=>∃xs,iU K H a xs/\xs.length<=i]
noncomputable def XW(K:aJ)(a:Addr):It:=
 #[λi H=>∃xs x,mq K H a xs/\xs[i]?=some x,λi H x H'=>H'=H/\∀xs,mq K H a xs->xs[i]?=some x,λi H=>∃xs,mq K H a xs/\xs.length<=i]
noncomputable def W7(lo:Int)(n:Nat):It:=#[λi _=>i<n,λi H x H'=>H'=H/\x=.int (lo+i),λi _=>n<=i]
theorem Fd{P:bO}{w:cy}{K:aJ}{tg:Expr}(a it:Addr):Turn P w K tg (XU K a) [it] it (λi h=>h.IsListIter it a i) where
 mem:=by simp
 obj:=λi h st b hb=>by
  have e:b=it:=by simpa using hb
  subst e;let#[o,e,c,d]:=st;exact#[o,e,λv z=>by rw[d] at z;cases z]
 keep:=λi h h' st k=>st.at λo e=>k it (by simp) o e
 item:=by
  k_go;subst hP hw hK;let#[xs,x,hq,hx]:=hg;let#[its,rv,p,hz]:=I.list hq;let#[u,hu,ru]:=rv.get hx;let#[f0,f1,f2,f3,f4,f5]:=hf it (by simp);refine GV st p.isList (x:=u) (by simpa using hu) λh' st' sb=>?_
  have I1:Inv X pZ σ H {s with heap:=h'}:=I.turned (t':=s.toks) (λb o hb e=>(sb.2 b hb).trans e) f0 f1 f3 f4 f5;let#[o,e,c,d]:=id st';exact#[u,rfl,Aq (s:={s with heap:=h'}) e c d ⋯ #[x,H,I1,ru,#[rfl,λys hy=>by rw[I.uS hy hq];erw[hx]],st',λb hb=>(hf b hb).1]]
 done:=by
  k_go;subst hP hw hK;let#[xs,hq,hx]:=hg;let#[its,rv,p,hz]:=I.list hq;let#[f0,f1,f2,f3,f4,f5]:=hf it (by simp);have hl:=rv.length;erw[Ky (I.ok.hd hc) st p.isList (by simp;omega) λh' eb=>#[rfl,I.turned (t':=s.toks) (λb o hb e=>eb b o hb e) f0 f1 f3 f4 f5]]
 self:=λ_ _ _ _ _ st h=>wpAny_pyIter_listiter st h
theorem Ca{P:bO}{w:cy}{K:aJ}{tg:Expr}(a it:Addr):Turn P w K tg (XW K a) [it] it (λi h=>h.IsTupleIter it a i) where
 mem:=by simp
 obj:=λi h st b hb=>by
  have e:b=it:=by simpa using hb
  subst e;let#[o,e,c,d]:=st;exact#[o,e,λv z=>by rw[d] at z;cases z]
 keep:=λi h h' st k=>st.at λo e=>k it (by simp) o e
 item:=by
  k_go;subst hP hw hK;let#[xs,x,hq,hx]:=hg;let#[its,rv,p,hz]:=I.tuple hq;let#[u,hu,ru]:=rv.get hx;let#[f0,f1,f2,f3,f4,f5]:=hf it (by simp);refine wpAny_pyNext_tuple_item st (show s.heap.IsTuple a its.toArray from p) (x:=u) (by simpa using hu) λh' st' sb=>?_
  have I1:Inv X pZ σ H {s with heap:=h'}:=I.turned (t':=s.toks) (λb o hb e=>(sb.2 b hb).trans e) f0 f1 f3 f4 f5;let#[o,e,c,d]:=id st';exact#[u,rfl,Aq (s:={s with heap:=h'}) e c d ⋯ #[x,H,I1,ru,#[rfl,λys hy=>by rw[I.xc hy hq];erw[hx]],st',λb hb=>(hf b hb).1]]
 done:=by
  k_go;subst hP hw hK;let#[xs,hq,hx]:=hg;let#[its,rv,p,hz]:=I.tuple hq;let#[f0,f1,f2,f3,f4,f5]:=hf it (by simp);have hl:=rv.length;erw[wpAny_pyNext_tuple_end (I.ok.hd hc) st (show s.heap.IsTuple a its.toArray from p) (by simp;omega) λh' eb=>#[rfl,I.turned (t':=s.toks) (λb o hb e=>eb b o hb e) f0 f1 f3 f4 f5]]
 self:=λ_ _ _ _ _ st h=>wpAny_pyIter_tupleiter st h
theorem Cb{P:bO}{w:cy}{K:aJ}{tg:Expr}(it:Addr)(lo:Int)(n:Nat):Turn P w K tg (W7 lo n) [it] it (λi h=>IsRangeIter h it (lo+(i:Nat)*1) ((n:Int)-(i:Nat)) 1) where
 mem:=by simp
 obj:=λi h st b hb=>by
  have e:b=it:=by simpa using hb
  subst e;exact#[_,st,λv z=>by
   have z':Data.fields _=Data.cell v:=z;cases z']
 keep:=λi h h' st k=>k it (by simp) _ st
 item:=by
  k_go;subst hP hw hK;let#[f0,f1,f2,f3,f4,f5]:=hf it (by simp);have W:=Walks.range (prog:=X.prog) (w:=X.w) (I.ok.hd hc) it lo 1 n;rwa[W.item i s _ _ hg st λv h' tk hv st' kk=>?_]
  let#[t,rfl]:=hv;have I1:Inv X pZ σ H {s with heap:=h',toks:=tk}:=I.turned (λb o hb e=>kk b o (by simpa using hb) e) f0 f1 f3 f4 f5;refine#[_,rfl,Aq (s:={s with heap:=h',toks:=tk}) (n:="range_iterator") st' rfl rfl ⋯ #[.int (lo+i),H,I1,#[t,?_],#[rfl,rfl],st',λb hb=>(hf b hb).1]];rw[Int.mul_one]
 done:=by
  k_go;subst hP hw hK;let#[f0,f1,f2,f3,f4,f5]:=hf it (by simp);erw[wpAny_pyNext_range_end (I.ok.hd hc) st (by have:n<=i:=hg;omega) λh' eb=>#[rfl,I.turned (t':=s.toks) (λb o hb e=>eb b o hb e) f0 f1 f3 f4 f5]]
 self:=λ_ _ _ _ _ st h=>wpAny_pyIter_rangeiter st h
section
variable{X:Cx}{tg:Expr}
theorem Ht{pZ:List (Addr×Obj)}{σ:St}{H:Hp}{s:aC}{R:It->Hp->Prop}{E:Value->aC->Prop}{lo hi:Int}{t u v:Tok}{tk:Nat}(I:Inv X pZ σ H s)(h1:-(2^62)<=lo)(h2:lo<2^62)(h3:-(2^62)<=hi)(h4:hi<2^62)
  (q:R (W7 lo (hi-lo).toNat) H):wpAny (bc X.prog X.w) X.A (pyIter (.ref s.heap.objs.size)) (XT X pZ σ tg R) E {s with heap:=s.heap.push {cls:=.type "range",data:=.fields (List.toArray [.int lo t,.int hi u,.int 1 v])},toks:=tk}:=by
 rwa[wpAny_pyIter_range (IsRange.new ..) (small_one h1 h2 h3 h4) ?_];have I1:Inv X pZ σ H {s with heap:=s.heap.push {cls:=.type "range",data:=.fields (List.toArray [.int lo t,.int hi u,.int 1 v])},toks:=tk}:=I.kept λb o e=>aI _ e
 refine#[(s.heap.push {cls:=.type "range",data:=.fields (List.toArray [.int lo t,.int hi u,.int 1 v])}).objs.size,[(s.heap.push {cls:=.type "range",data:=.fields (List.toArray [.int lo t,.int hi u,.int 1 v])}).objs.size],_,_,H,rfl,
  I1.kept (t':=tk) λb o e=>aI _ e,Cb _ lo (hi-lo).toNat,?_,λb hb=>?_,q]
 .have e1:lo+((0:Nat):Int)*1=lo:=by simp
  have e2:(((hi-lo).toNat:Nat):Int)-((0:Nat):Int)=Builtin.Range.rangeSize lo hi 1:=by rw[rangeSize_one];split<;>omega
  show IsRangeIter _ _ (lo+((0:Nat):Int)*1) ((((hi-lo).toNat:Nat):Int)-((0:Nat):Int)) 1
  rw[e1,e2]
  erw[bb _ rfl]
 .have e:b=(s.heap.push {cls:=.type "range",data:=.fields (List.toArray [.int lo t,.int hi u,.int 1 v])}).objs.size:=by simpa using hb
  subst e;erw[I1.B9 (aq _) (I1.dD.fresh (aq _))]
def TU(ta:TA):TI:=λσ H R=>ta σ H λvs H1=>∃j:Int,vs=[.int j]/\-(2^62)<=j/\j<2^62/\R (W7 0 j.toNat) H1
theorem Fe{a:Expr}{ta:TA}{p pos:Pos}(hg:Gl X "range")(hm:X.mg "range"=none)(ha:PA X [a] ta)(hs:bx [a] X.env=[(false,eval a X.env)]:=by rfl):PI X tg (.Call (.Name "range" p) [a] [] pos) (TU ta):=by
 intro pZ s σ H R I h;rwa[Call_ (qm I hg hm boot_range (jK (dW (ha pos pZ s σ H _ I h) λus s1 h9=>?_) hs rfl))];let#[vs,H1,I1,r1,q1]:=h9;let#[j,e,q1,q2,q]:=q1;subst e;cases r1 with
 |cons r rr=>
  cases rr;let#[t,rfl]:=r;exact call_range_1 (Ht I1 ∅ ∅ q1 q2 (by simpa using q))
noncomputable def XX(wi:TI)(g:TG)(tb:TS):TS:=λD σ H=>wi σ H λJ H1=>∃W:Nat->Nat->St->Hp->Prop,(∃m,W 0 m σ H1)/\∀i m σ H,W i m σ H ->
 (J.stop i H/\D.nx σ H)\/(J.go i H/\∃N:St->Hp->Prop,(∀σ' H',N σ' H'->∃m',m'<m/\W (i+1) m' σ' H')/\∀x H',J.TR i H x H'->g x σ H' λσ2 H2=>tb {D with nx:=N,ct:=N,bk:=D.nx} σ2 H2)
noncomputable def sC(fp:List Addr)(h:Heap):List (Addr×Obj):=fp.filterMap λb=>(h.get? b).map λo=>(b,o)
theorem m9{fp:List Addr}{h:Heap}{b:Addr}{o:Obj}(hb:b∈fp)(e:h.get? b=some o):(b,o)∈sC fp h:=lF.mpr #[b,hb,by rw[e];rfl]
theorem Ff(hp:p∈sC fp h):p.1∈fp/\h.get? p.1=some p.2:=by
 let#[b,hb,e]:=lF.mp hp;cases q:h.get? b with
 |none=>rw[q] at e;cases e
 |some o=>
  rw[q] at e;have e':(b,o)=p:=aF e;subst e';exact#[hb,q]
theorem Inv.pinned{pZ:List (Addr×Obj)}{σ:St}{H:Hp}{s:aC}{fp:List Addr}(I:Inv X pZ σ H s)(hf:∀b∈fp,ua X pZ H b)(ho:∀b∈fp,∃o,s.heap.get? b=some o/\∀v,o.data≠.cell v):Inv X (pZ++sC fp s.heap) σ H s:=
 I.DF λp hp=>(aL.mp hp).elim (λz=>I.pin p (ba _ z)) λz=>by
  let#[hb,e]:=Ff z;let#[f0,f1,f2,_]:=hf p.1 hb;let#[o,e',d]:=ho p.1 hb;rw[e] at e';cases e';exact#[e,f0,f1,f2,d]
theorem Inv.qY{pZ pl:List (Addr×Obj)}{σ:St}{H:Hp}{s:aC}(I:Inv X (pZ++pl) σ H s):Inv X pZ σ H s:=I.DF λp hp=>I.pin p (ba _ (bp _ hp))
theorem O8{iter:Expr}{body:List Stmt}{wi:TI}{g:TG}{tb:TS}{pos:Pos}(hp:PassesOwn (bc X.prog X.w) X.A X.env X.xe)(hc:X.calm=true)(hi:PI X tg iter wi)(hg:PG X tg g)(hb:uo X body tb)
  (hs:∀x,foldedSetIterable iter X.env x=pure x:=by intro _;rfl):PS X (.For tg iter body [] pos) (XX wi g tb):=by
 intro pZ s σ H D I h;rwa[wpAny_For (dW (hi pZ s σ H _ I h) λv s1 h1=>dW h1 λitv s2 h2=>?_) hs];let#[it,fp,tn,J,H2,e,I2,T,st2,f2,W,#[m0,w0],turn]:=h2;subst e;have stat:∀{H':Hp},(∀b∈fp,H' b=none)->∀b∈fp,ua X pZ H' b:=λhn b hb=>#[hn b hb,(f2 b hb).2]
 rwa[codeAny_forLoop_any (λn s'=>∃i σ' H',Inv X pZ σ' H' s'/\tn i s'.heap/\(∀b∈fp,H' b=none)/\W i n σ' H') ?_ m0 #[0,σ,H2,I2,st2,λb hb=>(f2 b hb).1,w0]];rintro n s3 ⟨i,σ3,H3,I3,st3,fr3,w3⟩;rcases turn i n σ3 H3 w3 with⟨stop,qn⟩|⟨go,N,hN,step⟩
 .rwa[gW hp (dW (T.done X rfl rfl rfl hc i pZ s3 σ3 H3 X.xe I3 (stat fr3) st3 stop) λr s4 h9=>?_)]
  let#[hr,I4]:=h9;subst hr;erw[qD #[σ3,H3,I4,qn]]
 .rwa[gW hp (dW (T.item X rfl rfl rfl hc i pZ s3 σ3 H3 X.xe I3 (stat fr3) st3 go) λr s4 h9=>?_)]
  let#[u,hr,h4]:=h9;subst hr;refine gW hp (dW h4 λ_ s5 h9=>?_);let#[x,H5,I5,r5,y5,st5,fr5]:=h9;have I5':=I5.pinned (stat fr5) (T.obj _ _ st5);refine gW hp (dW (hg _ s5 σ3 H5 x u _ I5' r5 (step x H5 y5)) λ_ s6 h9=>?_);let#[σ6,H6,I6,q6]:=h9;refine gW hp (dW (hb _ s6 σ6 H6 _ I6 q6) λf s7 q7=>?_);have again:∀{σ7:St}{H7:Hp},Inv X (pZ++sC fp s5.heap) σ7 H7 s7->N σ7 H7->∃m,m<n/\∃i σ' H',Inv X pZ σ' H' s7/\tn i s7.heap/\(∀b∈fp,H' b=none)/\W i m σ' H':=λ{σ7 H7}I7 n7=>by
   let#[m',hm,w7]:=hN σ7 H7 n7;refine#[m',hm,i+1,σ7,H7,I7.qY,T.keep _ _ _ st5 λb hb o e=>(I7.pin (b,o) (ba _ (ba _ (m9 hb e)))).1,λb hb=>?_,w7];let#[o,e,d]:=T.obj _ _ st5 b hb;exact(I7.pin (b,o) (ba _ (ba _ (m9 hb e)))).2.1
  cases f with
  |next=>let#[σ7,H7,I7,n7]:=q7;erw[again I7 n7]
  |cont=>let#[σ7,H7,I7,n7]:=q7;erw[again I7 n7]
  |brk=>let#[σ7,H7,I7,q7]:=q7;exact#[σ7,H7,I7.qY,q7]
  |ret v=>let#[x7,σ7,H7,I7,r7,q7]:=q7;exact#[x7,σ7,H7,I7.qY,r7,q7]
end
abbrev R2:=V->V->Hp->VK->Prop
def gG(X:Cx)(f:Value->Value->Sem Value)(r:R2):Prop:=
 ∀(pZ:List (Addr×Obj))(s:aC)(σ:St)(H:Hp)(x y:V)(v u:Value)(Q:VK),Inv X pZ σ H s->RelV x v->RelV y u->r x y H Q ->
  wpAny (bc X.prog X.w) X.A (f v u) (EP X pZ σ Q) X.xe s
def XY(X:Cx)(f:Value->Sem Value)(r:V->Hp->VK->Prop):Prop:=
 ∀(pZ:List (Addr×Obj))(s:aC)(σ:St)(H:Hp)(x:V)(v:Value)(Q:VK),Inv X pZ σ H s->RelV x v->r x H Q ->
  wpAny (bc X.prog X.w) X.A (f v) (EP X pZ σ Q) X.xe s
def gv(X:Cx)(f:Value)(r:List V->Hp->VK->Prop):Prop:=
 ∀(pZ:List (Addr×Obj))(s:aC)(σ:St)(H:Hp)(xs:List V)(us:List Value)(Q:VK),Inv X pZ σ H s->Vals xs us->r xs H Q ->
  wpAny (bc X.prog X.w) X.A (call f us) (EP X pZ σ Q) X.xe s
def XZ(X:Cx)(r:V->Hp->(Bool->Hp->Prop)->Prop):Prop:=
 ∀(pZ:List (Addr×Obj))(s:aC)(σ:St)(H:Hp)(x:V)(v:Value)(Q:Bool->Hp->Prop),Inv X pZ σ H s->RelV x v->r x H Q ->
  wpAny (bc X.prog X.w) X.A (truthy v) (TP X pZ σ Q) X.xe s
noncomputable def W8(r:R2)(ta tb:TE):TE:=λσ H Q=>ta σ H λx H1=>tb σ H1 λy H2=>r x y H2 Q
def tUn(r:V->Hp->VK->Prop)(ta:TE):TE:=λσ H Q=>ta σ H λx H1=>r x H1 Q
noncomputable def rI(C:Int->Int->Prop)(g:Int->Int->V):R2:=λx y H Q=>∃i j,x=.int i/\y=.int j/\C i j/\Q (g i j) H
noncomputable def Fg(g:Int->Int->V):R2:=λx y H Q=>∃i j,x=.int i/\y=.int j/\Q (g i j) H
def rU(g:Int->V):V->Hp->VK->Prop:=λx H Q=>∃i,x=.int i/\Q (g i) H
section
variable{X:Cx}{a b c:Expr}{ta tb tc:TE}{pos:Pos}
theorem O9(ha:PE X a ta)(hb:PE X b tb){pZ:List (Addr×Obj)}{s:aC}{σ:St}{H:Hp}{R:V->V->Hp->Prop}(I:Inv X pZ σ H s)
  (h:ta σ H λx H1=>tb σ H1 λy H2=>R x y H2){Q:Value->aC->Prop}{f:Value->Value->Sem Value}
  (hf:∀v u s2 x y H2,Inv X pZ σ H2 s2->RelV x v->RelV y u->R x y H2->wpAny (bc X.prog X.w) X.A (f v u) Q X.xe s2):
  wpAny (bc X.prog X.w) X.A (eval a X.env) (λv s₁=>wpAny (bc X.prog X.w) X.A (eval b X.env) (λu s₂=>wpAny (bc X.prog X.w) X.A (f v u) Q X.xe s₂) X.xe s₁) X.xe s:=by
 rwa[dW (ha pZ s σ H _ I h) λv s1 h9=>?_]
 let#[x,H1,I1,r1,q1]:=h9;rwa[dW (hb pZ s1 σ H1 _ I1 q1) λu s2 h9=>?_]
 let#[y,H2,I2,r2,q2]:=h9;erw[hf v u s2 x y H2 I2 r1 r2 q2]
theorem TV{op:mW}{r:R2}(ho:gG X (cF op) r)(ha:PE X a ta)(hb:PE X b tb):PE X (.BinOp a op b pos) (W8 r ta tb):=by
 k_ne;erw[wpAny_BinOp (O9 ha hb I h λv u s2 x y H2 I2 rx ry q=>ho pZ s2 σ H2 x y v u Q I2 rx ry q)]
theorem TX{op:UnaryOp}{r:V->Hp->VK->Prop}(ho:XY X (unaryOp op) r)(ha:PE X a ta):PE X (.UnaryOp op a pos) (tUn r ta):=by
 k_ne;rwa[UnaryOp_ (dW (ha pZ s σ H _ I h) λv s1 h9=>?_)];let#[x,H1,I1,r1,q1]:=h9;erw[ho pZ s1 σ H1 x v Q I1 r1 q1]
theorem TZ{f:Value->Value->Sem Value}{C:Int->Int->Prop}{g:Int->Int->Int}
  (rule:∀(i j:Int)(t u:Tok)(s:aC)(Q:Value->aC->Prop)(E:Value->aC->Prop),C i j->Q (.int (g i j) s.toks) {s with toks:=s.toks+1}->wpAny (bc X.prog X.w) X.A (f (.int i t) (.int j u)) Q E s):
  gG X f (rI C λi j=>.int (g i j)):=by
 x_go;let#[i,j,rfl,rfl,hc,q]:=h;let#[t,rfl]:=rx;let#[t',rfl]:=ry;erw[rule i j t t' s _ _ hc #[.int (g i j),H,I.tok _,#[_,rfl],q]]
theorem Cc{f:Value->Value->Sem Value}{g:Int->Int->Int}
  (rule:∀(i j:Int)(t u:Tok)(s:aC)(Q:Value->aC->Prop)(E:Value->aC->Prop),Q (.int (g i j) s.toks) {s with toks:=s.toks+1}->wpAny (bc X.prog X.w) X.A (f (.int i t) (.int j u)) Q E s):
  gG X f (Fg λi j=>.int (g i j)):=by
 x_go;let#[i,j,rfl,rfl,q]:=h;let#[t,rfl]:=rx;let#[t',rfl]:=ry;erw[rule i j t t' s _ _ #[.int (g i j),H,I.tok _,#[_,rfl],q]]
theorem Ln{f:Value->Value->Sem Value}{g:Int->Int->Bool}
  (rule:∀(i j:Int)(t u:Tok)(s:aC)(Q:Value->aC->Prop)(E:Value->aC->Prop),Q (.bool (g i j)) s->wpAny (bc X.prog X.w) X.A (f (.int i t) (.int j u)) Q E s):
  gG X f (Fg λi j=>.bl (g i j)):=by
 x_go;let#[i,j,rfl,rfl,q]:=h;let#[t,rfl]:=rx;let#[t',rfl]:=ry;erw[rule i j t t' s _ _ #[.bl (g i j),H,I,rfl,q]]
def X0(i j:Int):Prop:=0<j/\j<1073741824
def X1(i j:Int):Prop:=0<=j/\j<=1000000/\i.natAbs<2^64
def Pa(i j:Int):Prop:=(-(2^64)<i/\i<2^64)\/(-(2^64)<j/\j<2^64)
theorem Pa.ok{i j:Int}(h:Pa i j):IntMulOk i j:=by
 rcases h with⟨h1,h2⟩|⟨h1,h2⟩
 .erw[.of_left (intBits_le_64 h1 h2)]
 .erw[.of_right (intBits_le_64 h1 h2)]
theorem two_pow_nn(k:Nat):(0:Int)<=2^k:=by
 rw[two_pow_cast]
 erw[Int.natCast_nonneg _]
theorem Pb:gG X (cF .Add) (Fg λi j=>.int (i+j)):=Cc λ_ _ _ _ _ _ _ q=>add_int q
theorem Pc:gG X (cF .Sub) (Fg λi j=>.int (i-j)):=Cc λ_ _ _ _ _ _ _ q=>sub_int q
theorem Pd:gG X (cF .Mult) (rI Pa λi j=>.int (i*j)):=TZ λ_ _ _ _ _ _ _ hc q=>mul_int q hc.ok
theorem Lo:gG X (cF .FloorDiv) (rI X0 λi j=>.int (i/j)):=TZ λi j _ _ _ _ _ hc q=>by
 have h1:(0:Int)<j:=hc.1;have h2:j<1073741824:=hc.2;erw[floordiv_int ∅ (by rw[x9 i ∅];exact q) (.inl (PyProof.noPylong_small ∅))]
theorem Pe:gG X (cF .Mod) (rI (λ_ j=>0<j) λi j=>.int (i%j)):=TZ λi j _ _ _ _ _ hc q=>by
 have h1:(0:Int)<j:=hc;erw[mod_int' ∅ (by rw[Int.fmod_eq_emod_of_nonneg i ∅];exact q)]
theorem Pf:gG X (cF .LShift) (rI X1 λi j=>.int (i*2^j.toNat)):=TZ λ_ _ _ _ _ _ _ hc q=>lshift_int_small hc.1 hc.2.1 hc.2.2 q
theorem Pg:gG X (cF .RShift) (rI (λ_ j=>0<=j) λi j=>.int (i/2^j.toNat)):=TZ λi j _ _ _ _ _ hc q=>
 rshift_int hc (by rw[x9 i (two_pow_nn _)];erw[q])
theorem Ph:gG X (cF .BitAnd) (Fg λi j=>.int (Builtin.bitAnd i j)):=Cc λ_ _ _ _ _ _ _ q=>and_int q
theorem T1:gG X (cF .BitOr) (Fg λi j=>.int (Builtin.bitOr i j)):=Cc λ_ _ _ _ _ _ _ q=>or_int q
theorem Lp:gG X (ie .Add) (Fg λi j=>.int (i+j)):=Cc λ_ _ _ _ _ _ _ q=>iadd_int q
theorem Lq:gG X (ie .Sub) (Fg λi j=>.int (i-j)):=Cc λ_ _ _ _ _ _ _ q=>isub_int q
theorem Pj:gG X (ie .BitOr) (Fg λi j=>.int (Builtin.bitOr i j)):=Cc λ_ _ _ _ _ _ _ q=>ior_int q
theorem unI{f:Value->Sem Value}{g:Int->Int}
  (rule:∀(i:Int)(t:Tok)(s:aC)(Q:Value->aC->Prop)(E:Value->aC->Prop),Q (.int (g i) s.toks) {s with toks:=s.toks+1}->wpAny (bc X.prog X.w) X.A (f (.int i t)) Q E s):
  XY X f (rU λi=>.int (g i)):=by
 intro pZ s σ H x v Q I rx h;let#[i,rfl,q]:=h;let#[t,rfl]:=rx;erw[rule i t s _ _ #[.int (g i),H,I.tok _,#[_,rfl],q]]
theorem Pk:XY X (unaryOp .USub) (rU λi=>.int (-i)):=unI λ_ _ _ _ _ q=>neg_int q
end
noncomputable def Pl:V->V->Bool
 |.bV,.bV=>true|.bV,.int _=>true|.int _,.bV=>true|.bV,.bl _=>true|.bl _,.bV=>true|.bV,.str _=>true|.str _,.bV=>true
 |.int _,.int _=>true|.bl _,.bl _=>true|.str _,.str _=>true|.BN _,.BN _=>true
 |.int _,.str _=>true|.str _,.int _=>true|.bl _,.str _=>true|.str _,.bl _=>true
 |_,_=>false
def rEq:R2:=λx y H Q=>Pl x y=true/\Q (.bl (decide (x=y))) H
def rNe:R2:=λx y H Q=>Pl x y=true/\Q (.bl (!decide (x=y))) H
theorem yq:decide (V.int i=V.int j)=(i==j):=by
 rw[dw]
 simp
theorem Cd:decide (V.bl i=V.bl j)=(i==j):=by
 rw[dw]
 simp
theorem DH:decide (V.str i=V.str j)=(i==j):=by
 rw[dw]
 simp
theorem DI:decide (V.BN i=V.BN j)=(i.toList==j.toList):=by
 rw[dw]
 cases i;cases j;simp
section
variable{X:Cx}{a b c:Expr}{ta tb tc:TE}{pos:Pos}
theorem cP(I:Inv X pZ σ H s)(q:Q (.bl k) H)(e:k=k'):EP X pZ σ Q (.bool k') s:=by
 subst e;exact#[.bl k,H,I,rfl,q]
theorem T2:gG X (bF .Eq) rEq:=by
 x_go;let#[hs,q]:=h;cases x with
 |bV=>
  cases rx;cases y with
  |bV=>cases ry;erw[PySem.EqNone.eq_none_none (cP I q (by simp))]
  |bl j=>cases ry;erw[PySem.EqNone.eq_none_bool (cP I q (by simp))]
  |int j=>let#[t',rfl]:=ry;erw[PySem.EqNone.eq_none_int (cP I q (by simp))]
  |str j=>let#[t',rfl]:=ry;erw[PySem.EqNone.eq_none_str (cP I q (by simp))]
  |_=>erw[absurd (show false=true from hs) aV]
 |bl i=>
  cases rx;cases y with
  |bV=>cases ry;erw[PySem.EqNone.eq_bool_none (cP I q (by simp))]
  |bl j=>cases ry;erw[eq_bool (cP I q Cd)]
  |str j=>let#[t',rfl]:=ry;erw[PySem.EqMixed.eq_bool_str (cP I q (by simp))]
  |_=>erw[absurd (show false=true from hs) aV]
 |int i=>
  let#[t,rfl]:=rx;cases y with
  |bV=>cases ry;erw[PySem.EqNone.eq_int_none (cP I q (by simp))]
  |int j=>let#[t',rfl]:=ry;erw[eq_int (cP I q yq)]
  |str j=>let#[t',rfl]:=ry;erw[PySem.EqMixed.eq_int_str (cP I q (by simp))]
  |_=>erw[absurd (show false=true from hs) aV]
 |str i=>
  let#[t,rfl]:=rx;cases y with
  |bV=>cases ry;erw[PySem.EqNone.eq_str_none (cP I q (by simp))]
  |bl j=>cases ry;erw[PySem.EqMixed.eq_str_bool (cP I q (by simp))]
  |int j=>let#[t',rfl]:=ry;erw[PySem.EqMixed.eq_str_int (cP I q (by simp))]
  |str j=>let#[t',rfl]:=ry;erw[eq_str (cP I q DH)]
  |_=>erw[absurd (show false=true from hs) aV]
 |BN i=>
  let#[t,rfl]:=rx;cases y with
  |BN j=>let#[t',rfl]:=ry;erw[PySem.W.eq_bytes (cP I q DI)]
  |_=>erw[absurd (show false=true from hs) aV]
 |_=>cases y<;>exact absurd (show false=true from hs) aV
theorem T3:gG X (bF .NotEq) rNe:=by
 x_go;let#[hs,q]:=h;cases x with
 |bV=>
  cases rx;cases y with
  |bV=>cases ry;erw[PySem.EqNone.ne_none_none (cP I q (by simp))]
  |bl j=>cases ry;erw[PySem.EqNone.ne_none_bool (cP I q (by simp))]
  |int j=>let#[t',rfl]:=ry;erw[PySem.EqNone.ne_none_int (cP I q (by simp))]
  |str j=>let#[t',rfl]:=ry;erw[PySem.EqNone.ne_none_str (cP I q (by simp))]
  |_=>erw[absurd (show false=true from hs) aV]
 |bl i=>
  cases rx;cases y with
  |bV=>cases ry;erw[PySem.EqNone.ne_bool_none (cP I q (by simp))]
  |bl j=>cases ry;erw[ne_bool (cP I q (congrArg not Cd))]
  |str j=>let#[t',rfl]:=ry;erw[PySem.EqMixed.ne_bool_str (cP I q (by simp))]
  |_=>erw[absurd (show false=true from hs) aV]
 |int i=>
  let#[t,rfl]:=rx;cases y with
  |bV=>cases ry;erw[PySem.EqNone.ne_int_none (cP I q (by simp))]
  |int j=>let#[t',rfl]:=ry;erw[ne_int (cP I q (congrArg not yq))]
  |str j=>let#[t',rfl]:=ry;erw[PySem.EqMixed.ne_int_str (cP I q (by simp))]
  |_=>erw[absurd (show false=true from hs) aV]
 |str i=>
  let#[t,rfl]:=rx;cases y with
  |bV=>cases ry;erw[PySem.EqNone.ne_str_none (cP I q (by simp))]
  |bl j=>cases ry;erw[PySem.EqMixed.ne_str_bool (cP I q (by simp))]
  |int j=>let#[t',rfl]:=ry;erw[PySem.EqMixed.ne_str_int (cP I q (by simp))]
  |str j=>let#[t',rfl]:=ry;erw[ne_str (cP I q (congrArg not DH))]
  |_=>erw[absurd (show false=true from hs) aV]
 |BN i=>
  let#[t,rfl]:=rx;cases y with
  |BN j=>let#[t',rfl]:=ry;erw[PySem.W.ne_bytes (cP I q (congrArg not DI))]
  |_=>erw[absurd (show false=true from hs) aV]
 |_=>cases y<;>exact absurd (show false=true from hs) aV
theorem T4:gG X (bF .Lt) (Fg λi j=>.bl (decide (i<j))):=Ln λ_ _ _ _ _ _ _ q=>lt_int q
theorem T5:gG X (bF .LtE) (Fg λi j=>.bl (decide (i<=j))):=Ln λ_ _ _ _ _ _ _ q=>le_int q
theorem T6:gG X (bF .Gt) (Fg λi j=>.bl (decide (j<i))):=Ln λ_ _ _ _ _ _ _ q=>gt_int q
theorem T7:gG X (bF .GtE) (Fg λi j=>.bl (decide (j<=i))):=Ln λ_ _ _ _ _ _ _ q=>ge_int q
theorem Fh:gG X (bF .In) (λx y H Q=>∃i j,x=.str i/\y=.str j/\Q (.bl (!(Builtin.Str.occurrences j i 0 j.length 1).isEmpty)) H):=by
 x_go;let#[i,j,rfl,rfl,q]:=h;let#[t,rfl]:=rx;let#[t',rfl]:=ry;erw[in_str (cP I q rfl)]
theorem Pm:gG X (bF .Is) (λx y H Q=>y=.bV/\Q (.bl (decide (x=.bV))) H):=by
 x_go;let#[rfl,q]:=h;cases ry;refine is_none_gen (cP I q ?_);cases x<;>first
  | (cases rx;rfl)
  | (let#[t,rfl]:=rx;rfl)
theorem Lr:gG X (bF .IsNot) (λx y H Q=>y=.bV/\Q (.bl (!decide (x=.bV))) H):=by
 x_go;let#[rfl,q]:=h;cases ry;refine isnot_none_gen (cP I q ?_);cases x<;>first
  | (cases rx;rfl)
  | (let#[t,rfl]:=rx;rfl)
theorem Pn(b:Expr)(h:op≠.In:=by decide)(h2:op≠.NotIn:=by decide):behindInMarks op b=false:=by
 have e1:(op==CmpOp.In)=false:=by cases op<;>first|rfl|exact absurd rfl h
 have e2:(op==CmpOp.NotIn)=false:=by cases op<;>first|rfl|exact absurd rfl h2
 cases b<;>simp[behindInMarks,e1,e2]
theorem Lu(ho:gG X (bF op) r)(ha:PE X a ta)(hb:PE X b tb)(hm:behindInMarks op b=false):PE X (.Compare a [op] [b] pos) (W8 r ta tb):=by
 k_ne;erw[wpAny_Compare1 (O9 ha hb I h λv u s2 x y H2 I2 rx ry q=>ho pZ s2 σ H2 x y v u Q I2 rx ry q) hm]
noncomputable def N3(t:TE):TT:=λσ H Q=>t σ H λx H'=>∃k,x=.bl k/\Q k H'
theorem Lw{op:K4}{r:R2}(ho:gG X (bF op) r)(ha:PE X a ta)(hb:PE X b tb)(hm:behindInMarks op b=false):PT X (.Compare a [op] [b] pos) (N3 (W8 r ta tb)):=by
 intro pZ s σ H Q I h;refine wpAny_isTrue_Compare1 (dW (ha pZ s σ H _ I h) λv s1 #[x,H1,I1,r1,q1]=>dW (hb pZ s1 σ H1 _ I1 q1) λu s2 #[y,H2,I2,r2,q2]=>
  dW (ho pZ s2 σ H2 x y v u _ I2 r1 r2 q2) λc s3 #[z,H3,I3,r3,k,e,q3]=>?_) hm
 subst e;cases r3;erw[cw #[H3,I3,q3]]
noncomputable def Po(r r':R2)(ta tb tc:TE):TE:=λσ H Q=>ta σ H λx H1=>tb σ H1 λy H2=>r x y H2 λz H3=>∃k,z=.bl k /\
 (if k=true then tc σ H3 λw' H4=>r' y w' H4 Q else Q (.bl false) H3)
theorem Hu{op op':K4}{r r':R2}(ho:gG X (bF op) r)(ho':gG X (bF op') r')(ha:PE X a ta)(hb:PE X b tb)(hc:PE X c tc)
  (hm:lastMarks [op,op'] [b,c]=false:=by with_unfolding_all rfl):PT X (.Compare a [op,op'] [b,c] pos) (N3 (Po r r' ta tb tc)):=by
 intro pZ s σ H Q I h;refine isTrue_chain (dW (ha pZ s σ H _ I h) λv s1 #[x,H1,I1,r1,q1]=>test_link (dW (hb pZ s1 σ H1 _ I1 q1) λu s2 #[y,H2,I2,r2,q2]=>
  dW (ho pZ s2 σ H2 x y v u _ I2 r1 r2 q2) λd s3 #[z,H3,I3,r3,k,e,q3]=>?_)) hm
 subst e;cases r3;rwa[cw ?_];cases k with
 |false=>
  let#[k',e',q']:=q3;cases e';erw[ite_ff #[H3,I3,q']]
 |true=>
  rwa[ite_tt (test_last (dW (hc pZ s3 σ H3 _ I3 q3) λw' s4 h9=>?_))];let#[z',H4,I4,r4,q4]:=h9;rwa[dW (ho' pZ s4 σ H4 y z' u w' _ I4 r2 r4 q4) λd' s5 h9=>?_]
  let#[z2,H5,I5,r5,k2,e2,q5]:=h9;subst e2;cases r5;erw[cw #[H5,I5,q5]]
def Pp(K:aJ)(x:V)(H:Hp)(k:Bool):Prop:=
 match x with
 |.bV=>k=false
 |.bl b=>k=b
 |.int i=>k=(i !=0)
 |.str y=>y.length<=sizeLine/\k=((y.length:Int) !=0)
 |.BN y=>y.size<=sizeLine/\k=((y.size:Int) !=0)
 |.ref p=>(∃xs,iU K H p xs/\k = !xs.isEmpty)\/(∃xs,mq K H p xs/\k = !xs.isEmpty)\/∃kvs,H p=some (.dK kvs)/\k = !kvs.isEmpty
 |_=>False
theorem Ce{κ:Type}{kvs:List (κ×V)}{vs:List (κ×Value)}(r:KV kvs vs):(!vs.isEmpty)= !kvs.isEmpty:=by
 cases r<;>rfl
theorem uT{xs:List V}{its:List Value}(r:Vals xs its):(!its.toArray.isEmpty)= !xs.isEmpty:=by
 cases r<;>simp
theorem oJ:(sizeLine:Nat)<2^63:=by rw[jL];decide
theorem Pq:XZ X (λx H Q=>∃k,Pp X.K x H k/\Q k H):=by
 intro pZ s σ H x v Q I rx h;let#[k,e,q]:=h;have hl:=oJ;have hs:sizeLine=16777216:=jL;cases x with
 |bV=>
  cases rx;have e':k=false:=e;subst e';erw[truthy_none #[H,I,q]]
 |bl b=>
  cases rx;have e':k=b:=e;subst e';erw[cw #[H,I,q]]
 |int i=>
  let#[t,rfl]:=rx;have e':k=(i !=0):=e;subst e';erw[PySem.P.truthy_int #[H,I,q]]
 |str y=>
  let#[t,rfl]:=rx;obtain⟨hy,e'⟩:y.length<=sizeLine/\k=((y.length:Int) !=0):=e;subst e';erw[PySem.P.truthy_str ∅ #[H,I.tok _,q]]
 |BN y=>
  let#[t,rfl]:=rx;obtain⟨hy,e'⟩:y.size<=sizeLine/\k=((y.size:Int) !=0):=e;subst e';erw[PySem.W.truthy_bytes ∅ #[H,I.tok _,q]]
 |ref p=>
  cases rx;have e':(∃xs,iU X.K H p xs/\k = !xs.isEmpty)\/(∃xs,mq X.K H p xs/\k = !xs.isEmpty)\/∃kvs,H p=some (.dK kvs)/\k = !kvs.isEmpty:=e;rcases e' with⟨xs,hx,e'⟩|⟨xs,hx,e'⟩|⟨kvs,hx,e'⟩
  .subst e'
   let#[its,r,pl,hz]:=I.list hx;have hlen:=r.length;erw[wpAny_truthy_list pl.isList (by dsimp[aG];omega) #[H,I.tok _,by rw[uT r];exact q]]
  .subst e'
   let#[its,r,pl,hz]:=I.tuple hx;have hlen:=r.length;erw[truthy_tuple pl (by dsimp[aG];omega) #[H,I.tok _,by rw[uT r];exact q]]
  .subst e'
   obtain⟨hz,hS,vs,r,m⟩:kvs.length<=sizeLine/\(p==b7)=false/\∃vs,KV kvs vs/\s.heap.DictOf (cX X.prog X.w) p vs:=I.dD p _ hx;have hlen:kvs.length=vs.length:=Paired.length r;erw[wpAny_truthy_dict hS m ∅ #[H,I.tok _,by rw[Ce r];exact q]]
 |_=>exact(show False from e).elim
theorem Hv(ha:PE X a ta)(he:∀whole,isTrue a X.env whole=(do let v <-whole;standAt a.pos;holding [v] (truthy v))):
  PT X a (λσ H Q=>ta σ H λx H'=>∃k,Pp X.K x H' k/\Q k H'):=by
 k_ne;rwa[isTrue_plain (dW (ha pZ s σ H _ I h) λv s1 h9=>?_) (he _)];let#[x,H1,I1,r1,q1]:=h9;erw[Pq pZ s1 σ H1 x v Q I1 r1 q1]
theorem Cf:gG X (cF .Add) (λx y H Q=>∃i j,x=.str i/\y=.str j/\i.length+j.length<=sizeLine/\Q (.str (i++j)) H):=by
 x_go;let#[i,j,rfl,rfl,hz,q]:=h;let#[t,rfl]:=rx;let#[t',rfl]:=ry;erw[add_str (λt' tk=>#[.str (i++j),H,I.tok _,#[_,rfl],q]) hz]
theorem Ar:gG X (ie .Add) (λx y H Q=>∃i j,x=.str i/\y=.str j/\i.length+j.length<=sizeLine/\Q (.str (i++j)) H):=by
 x_go;let#[i,j,rfl,rfl,hz,q]:=h;let#[t,rfl]:=rx;let#[t',rfl]:=ry;erw[iadd_str (λt' tk=>#[.str (i++j),H,I.tok _,#[_,rfl],q]) hz]
theorem vals1(r:Vals [x] us):∃u,us=[u]/\RelV x u:=by
 cases r with
 |cons r1 r2=>cases r2;exact#[_,rfl,r1]
theorem Fi:gv X (.type "int") (λxs H Q=>(∃i,xs=[.int i]/\Q (.int i) H)\/∃k,xs=[.bl k]/\Q (.int (if k then 1 else 0)) H):=by
 w_up;rcases h with⟨i,rfl,q⟩|⟨k,rfl,q⟩
 .let#[u,rfl,t,rfl]:=vals1 r
  erw[call_int_int #[.int i,H,I,#[_,rfl],q]]
 .let#[u,rfl,r1]:=vals1 r
  cases r1;erw[call_int_bool #[.int (if k then 1 else 0),H,I.tok _,#[_,rfl],q]]
def T8(K:aJ)(x:V)(H:Hp)(n:Nat):Prop:=
 match x with
 |.str y=>y.length<=sizeLine/\n=y.length
 |.BN y=>y.size<=sizeLine/\n=y.size
 |.ref p=>(∃xs,iU K H p xs/\n=xs.length)\/∃xs,mq K H p xs/\n=xs.length
 |_=>False
theorem Hw:gv X (.builtin "len") (λxs H Q=>∃x n,xs=[x]/\T8 X.K x H n/\Q (.int n) H):=by
 w_up;let#[x,n,rfl,e,q]:=h;let#[u,rfl,rx]:=vals1 r;have hl:=oJ;have hs:sizeLine=16777216:=jL;cases x with
 |str y=>
  let#[t,rfl]:=rx;obtain⟨hy,e'⟩:y.length<=sizeLine/\n=y.length:=e;subst e';erw[len_str ∅ #[.int _,H,I.tok _,#[_,rfl],q]]
 |BN y=>
  let#[t,rfl]:=rx;obtain⟨hy,e'⟩:y.size<=sizeLine/\n=y.size:=e;subst e';erw[PySem.W.len_bytes ∅ #[.int _,H,I.tok _,#[_,rfl],q]]
 |ref p=>
  cases rx;have e':(∃xs,iU X.K H p xs/\n=xs.length)\/∃xs,mq X.K H p xs/\n=xs.length:=e;rcases e' with⟨xs,hx,e'⟩|⟨xs,hx,e'⟩
  .subst e'
   let#[its,r',pl,hz]:=I.list hx;have hlen:=r'.length;erw[Calls.call_len_list pl.isList (by dsimp[aG];omega) #[.int xs.length,H,I.tok _,#[_,by dsimp[aG];rw[hlen]],q]]
  .subst e'
   let#[its,r',pl,hz]:=I.tuple hx;have hlen:=r'.length;erw[len_tuple pl (by dsimp[aG];omega) #[.int xs.length,H,I.tok _,#[_,by dsimp[aG];rw[hlen]],q]]
 |_=>exact(show False from e).elim
end
structure Cg(h:Heap)(x dx C:Addr)(mA:Str->Option Value):Prop where
 obj:h.get? x=some (eM C dx)
 ns:h.Ns1 dx mA
 ne:dx≠x
theorem Fj{h:Heap}{dx:Addr}{mA:Str->Option Value}(n:h.Ns1 dx mA):∃od,h.get? dx=some od/\∀name,oF name od=some (mA name):=by
 let#[o,es,ep,ho,hd,hk,_,hm]:=n;refine#[o,ho,λname=>?_];have e:=hm name;unfold nsFind findBy at e;rw[<-Array.find?_toList] at e;unfold oF;rw[hd]
 dsimp only;split
 .rename_i y q
  rw[q] at e;erw[congrArg some e]
 .rename_i q
  rw[q] at e;have a:es.toList.any (·.refKey)=false:=by
   rw[List.any_eq_false]
   intro y hy;let#[z,t,hkey]:=hk y (Array.mem_toList_iff.mp hy);simp[DictEntry.refKey,hkey]
  have a':¬es.toList.any (·.refKey)=true:=by rw[a];erw[aV]
  rw[if_neg a']
  erw[congrArg some e]
theorem Cg.look(I:Cg h x dx C mA):∃od,PySem.W.InstAt h x (eM C dx) C (some od)/\∀name,oF name od=some (mA name):=
 let ⟨od,ho,hl⟩:=Fj I.ns
 #[od,#[I.obj,rfl,rfl,ho],hl]
section
variable{prog:bO}{w:cy}{A:dN}{E:Value->aC->Prop}{s:aC}{K:aJ}{x dx C f:Addr}{mA:Str->Option Value}{name:Str}{v:Value}
theorem get_map(X:K.In s.heap)(I:Cg s.heap x dx C mA)(hg:mr K C name=true)(hh:qO K C=true)
  (ha:dX K (.ref C) name=some none) (hv:mA name=some v) (hv':ER v=true) (h:Q v {s with toks:=s.toks+1}):
  wpAny (bc prog w) A (getAttr (.ref x) name expr) Q E s:=by
 let#[od,J,hl]:=I.look;erw[PySem.W.get_value X J (pP hg).1 (PySem.W.findObj_own hh ha rfl (by rw[hl,hv])) hv' h]
theorem Hx(X:K.In s.heap)(I:Cg s.heap x dx C mA)(hg:mr K C name=true)
  (hf:dX K (.ref C) name=some (some (.ref f))) (ht:ya K (.ref f)=true) (hv:mA name=none) (h:Q (.ref f,[.ref x]) s):
  wpAny (bc prog w) A (tF (.ref x) name pl) Q E s:=by
 let#[od,J,hl]:=I.look;erw[PySem.W.method_fn X J (pP hg).1 (pP hg).2 hf (beq_iff_eq.mp ht) (by show(oF name od).map (·.isSome)=some false;rw[hl,hv];rfl) h]
theorem Lx(X:K.In s.heap)(I:Cg s.heap x dx C mA)
  (hs:dX K (.ref C) "__setattr__"=some (some (.builtin "object.__setattr__"))) (hp:DA K C=true) (ht:tY K C name=some none) (hh:qO K C=true)
  (hw:zZ mA ns) (hsz:ns.length<=sizeLine)
  (h:∀h',Cg h' x dx C (λy=>if y=name then some v else mA y)->gc dx s.heap h'->Q () {s with heap:=h',toks:=s.toks+2}):
  wpAny (bc prog w) A (setAttr (.ref x) name v) Q E s:=by
 let#[od,J,hl]:=I.look;refine PySem.W.set_plain X J hs (PySem.W.osa_open (s:={s with toks:=s.toks+1}) (r:=none) X J hp ht λb=>?_);let#[cd,hc,hd']:=PySem.W.any_some hh;have hx:s.heap.get? x=some #[.ref C,some dx,.plain,#[]]:=I.obj;refine ab (ax (ab (ab (wpAny_loadPart hx (ab (PySem.W.Looks.here (s:={s with toks:=s.toks+1}) (PySem.W.looks_clsIn X hc) ?_))))));rw[hd']
 rwa[ax (a:=some dx) (ab (ax (ab ?_)))];refine wpAny_nsSet1 (s:={s with toks:=s.toks+1}) I.ns λh' hn2 hs2=>?_
 let#[oD,esD,epD,hoD,hdD,hcD]:=hn2.count (PySem.Within.cons name v hw);rwa[ab (wpAny_lookBehind hoD (by rw[hdD];erw[pastItsLine_dict (aH hcD (by rw[aZ];omega))]) ?_)];erw[ax (h _ #[(hs2.2 _ (cR I.ne)).trans I.obj,hn2,I.ne] hs2)]
theorem Hy(X:K.In s.heap)(hm:Gy K C=true)
  (hi:dX K (.ref C) "__init__"=some (some (.ref f))) (hf:PySem.W.typeIn K (.ref f)=some (.type "function"))
  (h:qj (bc prog w) (A.under (.builtin "type.__call__" #[.ref C::vs,kw])) (.call (.ref f) #[.ref (s.heap.objs.size+1)::vs,kw]) (PySem.W.InitBack (s.heap.objs.size+1) R)
   {s with heap:=(s.heap.push dm).push (eM C s.heap.objs.size)}):
  qj (bc prog w) A (.call (.ref C) #[vs,kw]) R s:=by
 let#[hh,g,d,t,os]:=s;erw[PySem.W.make_core (PySem.W.makes_of X hm) (PySem.W.looks_findIn X hi) (λself=>PySem.W.bind_fn X self hf) (.inl rfl) h]
end
noncomputable def kj(f:Str)(v:V):List (Str×V)->List (Str×V)
 |[]=>[(f,v)]
 | (g,x)::r=>if g=f then(g,v)::r else(g,x)::kj f v r
theorem tJ(f g:Str)(v:V):∀fs:List (Str×V),(kj f v fs).lookup g=if g=f then some v else fs.lookup g
 |[]=>by
  show fW g [(f,v)]=_
  by_cases h:g=f
  .have hb:(g==f)=true:=beq_iff_eq.mpr h
   dsimp[fW,hb,if_pos h]
  .have hb:(g==f)=false:=beq_eq_false_iff_ne.mpr h
   dsimp[fW,hb,if_neg h]
 | (k,x)::r=>by
  have ih:=tJ f g v r;rw[show kj f v ((k,x)::r)=(if k=f then(k,v)::r else(k,x)::kj f v r) from rfl]
  by_cases hk:k=f
  .rw[if_pos hk]
   by_cases h:g=k
   .have hb:(g==k)=true:=beq_iff_eq.mpr h
    dsimp[fW,hb,if_pos (h.trans hk)]
   .have hb:(g==k)=false:=beq_eq_false_iff_ne.mpr h
    dsimp[fW,hb,if_neg (λe:g=f=>h (e.trans hk.symm))]
  .rw[if_neg hk]
   by_cases h:g=k
   .have hb:(g==k)=true:=beq_iff_eq.mpr h
    dsimp[fW,hb,if_neg (λe:g=f=>hk (h.symm.trans e))]
   .have hb:(g==k)=false:=beq_eq_false_iff_ne.mpr h
    dsimp[fW,hb];erw[ih]
theorem sE(f:Str)(v:V):∀fs:List (Str×V),f∈(kj f v fs).map (·.1)/\∀g,g∈fs.map (·.1)->g∈(kj f v fs).map (·.1)
 |[]=>#[by simp[kj],λg h=>by simp at h]
 | (k,x)::r=>by
  let#[i1,i2]:=sE f v r;rw[show kj f v ((k,x)::r)=(if k=f then(k,v)::r else(k,x)::kj f v r) from rfl]
  by_cases hk:k=f
  .rw[if_pos hk]
   subst hk;exact#[by simp,λg h=>by simpa using h]
  .rw[if_neg hk]
   refine#[?_,λg h=>?_]
   .rw[ay]
    erw[aA _ i1]
   .rw[ay] at h ⊢
    rcases aR.mp h with e|e
    .erw[aR.mpr (.inl e)]
    .erw[aA _ (i2 g e)]
theorem tK(f:Str)(v:V):∀fs:List (Str×V),(kj f v fs).length<=fs.length+1
 |[]=>by simp[kj]
 | (k,x)::r=>by
  have ih:=tK f v r;rw[show kj f v ((k,x)::r)=(if k=f then(k,v)::r else(k,x)::kj f v r) from rfl]
  by_cases hk:k=f
  .rw[if_pos hk,aZ,aZ];omega
  .rw[if_neg hk,aZ,aZ];omega
theorem m8.some_of(r:m8 (some v) o):∃u,o=some u/\RelV v u:=by
 cases o with
 |none=>exact(show False from r).elim
 |some u=>exact#[u,rfl,r]
theorem m8.none_of(r:m8 none o):o=none:=by
 cases o with
 |none=>rfl
 |some u=>exact(show False from r).elim
theorem Fl(r:RelV v u):ER u=true:=by
 cases v with
 |bV=>cases (show u=fV from r);rfl
 |bl b=>cases (show u=j7 b from r);rfl
 |int i=>let#[t,e]:=(show ∃t,u=lu i t from r);cases e;rfl
 |str x=>let#[t,e]:=(show ∃t,u=lx x t from r);cases e;rfl
 |BN b=>let#[t,e]:=(show ∃t,u=Value.bytes b t from r);cases e;rfl
 |W4 b=>let#[t,e]:=(show ∃t,u=Value.float b t from r);cases e;rfl
 |ref a=>cases (show u=bj a from r);rfl
 |ty n=>cases (show u=EO n from r);rfl
section
variable{P:bO}{w:cy}{H H':Hp}{h h':Heap}{a C dx:Addr}{fs fs':List (Str×V)}
theorem yr(dD:pU P w H h)(e:H a=some (.ins C dx fs)):∃mA,Cg h a dx C mA/\(∀f,m8 (fs.lookup f) (mA f))/\zZ mA (fs.map (·.1))/\fs.length<=1000/\H dx=some (.own a):=by
 let#[d,z,ne,ob,mA,n,r,q]:=(show dH P w H h a (.ins C dx fs) from dD a _ e)
 exact#[mA,#[ob,n,ne],r,q,z,d]
end
structure wt(K:aJ)(C:Addr):Prop where
 pg:mr K C Str.empty=true
 hd:qO K C=true
 po:DA K C=true
 sa:dX K (.ref C) "__setattr__"=some (some (.builtin "object.__setattr__"))
theorem wt.get{K:aJ}{C:Addr}(c:wt K C)(f:Str):mr K C f=true:=c.pg
def l9(K:aJ)(C:Addr)(f:Str):Prop:=dX K (.ref C) f=some none
theorem l9.T9{K:aJ}{C:Addr}{f:Str}(n:l9 K C f):tY K C f=some none:=by
 unfold tY;rw[show dX K (.ref C) f=some none from n]
 rfl
structure Meth(K:aJ)(C:Addr)(m:Str)(f:Addr):Prop where
 at_:dX K (.ref C) m=some (some (.ref f))
 fn:ya K (.ref f)=true
 kp:i4 K (.ref f)=true
section
variable{X:Cx}{pZ:List (Addr×Obj)}{σ:St}{H:Hp}{s:aC}{a C dx:Addr}{fs:List (Str×V)}{f:Str}{v:V}{A:dN}{E:Value->aC->Prop}
theorem uU{b:Bool}{Q:Value->aC->Prop}(I:Inv X pZ σ H s)(e:H a=some (.ins C dx fs))(c:wt X.K C)(n:l9 X.K C f)(l:fs.lookup f=some v)
  (h:∀u s',Inv X pZ σ H s'->RelV v u->Q u s'):wpAny (bc X.prog X.w) A (getAttr (.ref a) f b) Q E s:=by
 let#[mA,O,r,_,_,_]:=yr I.dD e;let#[u,hu,ru]:=m8.some_of (v:=v) (o:=mA f) (by rw[<-l];erw[r f]);erw[get_map I.yo O (c.get f) c.hd n hu (Fl ru) (h u _ (I.tok _) ru)]
theorem qo{m:Str}{g:Addr}{pl:Sem Bool}{Q:Value×List Value->aC->Prop}(I:Inv X pZ σ H s)(e:H a=some (.ins C dx fs))(c:wt X.K C)(k:Meth X.K C m g)(l:fs.lookup m=none)
  (h:Q (.ref g,[.ref a]) s):wpAny (bc X.prog X.w) A (tF (.ref a) m pl) Q E s:=by
 let#[mA,O,r,_,_,_]:=yr I.dD e;have hn:mA m=none:=m8.none_of (by rw[<-l];erw[r m]);erw[Hx I.yo O (c.get m) k.at_ k.fn hn h]
theorem uV{y:V}{u:Value}{Q:Unit->aC->Prop}(I:Inv X pZ σ H s)(e:H a=some (.ins C dx fs))(c:wt X.K C)(n:l9 X.K C f)(hl:fs.length<1000)(ry:RelV y u)
  (h:∀s',Inv X pZ σ (upd H a (.ins C dx (kj f y fs))) s'->Q () s'):wpAny (bc X.prog X.w) A (setAttr (.ref a) f u) Q E s:=by
 let#[mA,O,r,wi,_,ho]:=yr I.dD e;have hz:(fs.map (·.1)).length<=sizeLine:=by rw[ak,jL];omega
 rwa[Lx I.yo O c.sa c.po n.T9 c.hd wi hz λh' O' sb=>h _ ?_]
 have hd:∃o,h'.get? dx=some o:=let ⟨o,_,_,e',_⟩:=O'.ns;#[o,e'];rwa[I.write (x:=a) (e:=dx) (by rw[e];erw[eh]) (.inr ho) (λb q hb z=>(sb.2 b hb).trans z) hd ?_];refine#[by rw[cb O.ne];erw[ho],?_,O.ne,O'.obj,_,O'.ns,λg=>?_,λg hg=>?_]
 .have:=tK f y fs;omega
 .show m8 ((kj f y fs).lookup g) (if g=f then some u else mA g)
  rw[tJ]
  by_cases q:g=f
  .rw[if_pos q,if_pos q];erw[ry]
  .rw[if_neg q,if_neg q];erw[r g]
 .by_cases q:g=f
  .rw[q];exact(sE f y fs).1
  .refine(sE f y fs).2 g (wi g λz=>hg ?_)
   show(if g=f then some u else mA g)=none
   rw[if_neg q];erw[z]
theorem Inv.made(I:Inv X pZ σ H s):Inv X pZ σ (upd (upd H s.heap.objs.size (.own (s.heap.objs.size+1))) (s.heap.objs.size+1) (.ins C s.heap.objs.size []))
  {s with heap:=(s.heap.push dm).push (eM C s.heap.objs.size)}:=by
 have e1:(s.heap.push dm).get? s.heap.objs.size=some dm:=bb s.heap rfl;have e2:((s.heap.push dm).push (eM C s.heap.objs.size)).get? (s.heap.objs.size+1)=some (eM C s.heap.objs.size):=by
  have:=bb (s.heap.push dm) (o:=eM C s.heap.objs.size) rfl
  rwa [ig] at this
 have e3:(s.heap.push dm).Ns s.heap.objs.size (λ_=>none):=#[dm,#[],_,e1,rfl,(λe he=>absurd he (by simp)),λ_=>rfl]
 have I1:=I.laid (a:=s.heap.objs.size) (o:=.own (s.heap.objs.size+1)) (h':=s.heap.push dm) (t':=s.toks) (λb u q=>aI _ q) (aq _) #[_,e1];rwa[I1.laid (a:=s.heap.objs.size+1) (o:=.ins C s.heap.objs.size []) (t':=s.toks) (λb u q=>aI _ q) (BV (ig _ _)) ?_];have ne:s.heap.objs.size≠s.heap.objs.size+1:=aY (dj _);refine#[by rw[cb ne,cg],b8 _,ne,e2,λ_=>none,(Heap.Ns1.of_empty e3).at λo q=>aI _ q,λ_=>eh,λy hy=>absurd rfl hy]
theorem Ly{prog:bO}{w:cy}{env:Env}{e:Expr}{f:Str}{pos:Pos}{s:aC}{Q:Value->aC->Prop}(hb:ij e f env (eval e env)=eval e env)
  (h:wpAny (bc prog w) A (eval e env) (λo s₁=>wpAny (bc prog w) A (getAttr o f true) Q E s₁) E s):wpAny (bc prog w) A (eval (.Attribute e f pos) env) Q E s:=
 Attribute_any_ h (by rw[arm_eval_Attribute,hb])
end
def X2(K:aJ)(ta:TE)(f:Str):TE:=λσ H Q=>ta σ H λx H1=>∃a C dx fs v,x=.ref a/\H1 a=some (.ins C dx fs)/\wt K C/\l9 K C f/\fs.lookup f=some v/\Q v H1
def X3(K:aJ)(ta tv:TE)(f:Str):TS:=λD σ H=>tv σ H λy H1=>ta σ H1 λx H2=>∃a C dx fs,x=.ref a/\H2 a=some (.ins C dx fs)/\wt K C/\l9 K C f/\fs.length<1000 /\
 D.nx σ (upd H2 a (.ins C dx (kj f y fs)))
def X4(X:Cx)(op:mW)(rd:V->V->Hp->VK->Prop):Prop:=
 ∀(pZ:List (Addr×Obj))(s:aC)(σ:St)(H:Hp)(x y:V)(u v:Value)(Q:VK),Inv X pZ σ H s->RelV x u->RelV y v->rd x y H Q->wpAny (bc X.prog X.w) X.A (ie op u v) (EP X pZ σ Q) X.xe s
def Lz(K:aJ)(ta tv:TE)(rd:V->V->Hp->VK->Prop)(f:Str):TS:=λD σ H=>ta σ H λx H1=>∃a C dx fs v,x=.ref a/\H1 a=some (.ins C dx fs)/\wt K C/\l9 K C f/\fs.lookup f=some v /\
 tv σ H1 λy H2=>rd v y H2 λz H3=>∃dx' fs',H3 a=some (.ins C dx' fs')/\fs'.length<1000/\D.nx σ (upd H3 a (.ins C dx' (kj f z fs')))
section
variable{X:Cx}{o e value:Expr}{f:Str}{pos pos' tpos:Pos}{ta tv:TE}
theorem Pr(he:PE X e ta)(hb:ij e f X.env (eval e X.env)=eval e X.env):PE X (.Attribute e f pos) (X2 X.K ta f):=by
 k_ne;rwa[Ly hb (dW (he pZ s σ H _ I h) λu s1 h9=>?_)];let#[x,H1,I1,rx,a,C,dx,fs,v,ex,ea,c,n,l,q]:=h9;subst ex;obtain rfl:u=bj a:=rx;erw[uU I1 ea c n l λu' s2 I2 ru=>#[v,H1,I2,ru,q]]
theorem Pt(ha:PE X o ta)(hv:PE X value tv)(hs:hU value (some (.Attribute o f pos')) pos.line X.env=pure false):PS X (.Assign [.Attribute o f pos'] value pos) (X3 X.K ta tv f):=by
 intro pZ s σ H D I h;rwa[plainObj_wpAny_Assign_Attribute (dW (hv pZ s σ H _ I h) λu s1 h9=>?_) hs];let#[y,H1,I1,ry,q]:=h9;rwa[dW (ha pZ s1 σ H1 _ I1 q) λov s2 h9=>?_]
 let#[x,H2,I2,rx,a,C,dx,fs,ex,ea,c,n,l,q2]:=h9;subst ex;obtain rfl:ov=bj a:=rx;erw[uV I2 ea c n l ry λs3 I3=>#[σ,_,I3,q2]]
theorem Fm{op:mW}{rd:V->V->Hp->VK->Prop}(ha:PE X o ta)(hv:PE X value tv)(hop:X4 X op rd):PS X (.AugAssign (.Attribute o f tpos) op value pos) (Lz X.K ta tv rd f):=by
 intro pZ s σ H D I h;rwa[wpAny_AugAssign_AttributeAny (dW (ha pZ s σ H _ I h) λov s1 h9=>?_)];let#[x,H1,I1,rx,a,C,dx,fs,v,ex,ea,c,n,l,q]:=h9;subst ex;obtain rfl:ov=bj a:=rx;rwa[uU I1 ea c n l λu s2 I2 ru=>dW (hv pZ s2 σ H1 _ I2 q) λw3 s3 h9=>?_]
 let#[y,H2,I3,ry,q3]:=h9;rwa[dW (hop pZ s3 σ H2 v y u w3 _ I3 ru ry q3) λw4 s4 h9=>?_]
 let#[z,H3,I4,rz,dx',fs',ea',l',q4]:=h9;erw[uV I4 ea' c n l' rz λs5 I5=>#[σ,_,I5,q4]]
theorem N4{pl:Sem Bool}{m:Str}{apos:Pos}{args:List Expr}{pZ:List (Addr×Obj)}{s:aC}{σ:St}{H:Hp}{Q:Value->aC->Prop}{te:TE}(he:PE X e te)(I:Inv X pZ σ H s)
  (h:te σ H λx H1=>∃a C dx fs g,x=.ref a/\H1 a=some (.ins C dx fs)/\wt X.K C/\Meth X.K C m g/\fs.lookup m=none /\
   ∀s1,Inv X pZ σ H1 s1->wpAny (bc X.prog X.w) X.A (BW pos (.ref g) [.ref a] (eJ pos (bx args X.env)) (backToKw pos (eO [] X.env))) Q X.xe s1)
  (ht:eval (.Call (.Attribute e m apos) args [] pos) X.env=(do
   let ov <-eval e X.env
   standAt apos.atName
   let (f,first) <-holding [ov] (tF ov m pl)
   BW pos f first (eJ pos (bx args X.env)) (backToKw pos (eO [] X.env)))):
  wpAny (bc X.prog X.w) X.A (eval (.Call (.Attribute e m apos) args [] pos) X.env) Q X.xe s:=by
 rwa[n8 (pl:=pl) (dW (he pZ s σ H _ I h) λu s1 h9=>?_) ht];let#[x,H1,I1,rx,a,C,dx,fs,g,ex,ea,c,k,l,q]:=h9;subst ex;obtain rfl:u=bj a:=rx;erw[qo I1 ea c k l (q s1 I1)]
end
structure jo(k:Nat)(A:dN):Prop where
 hd:A.handled=none
 dp:A.depth+3*k+5<recursionLimit
 un:A.units+16*k+200<eL
theorem jo.mono(r:jo k A)(h:j<=k):jo j A:=#[r.hd,by have:=r.dp;omega,by have:=r.un;omega]
theorem jo.deeper(r:jo (k+1) A)(env:Env):jo k (A.deeper env):=
 #[r.hd,by have:=r.dp;show A.depth+1+3*k+5<_;omega,by have:=r.un;show A.units+3+16*k+200<_;omega]
theorem Ci{A:dN}{C:Addr}{us:List Value}{kw:List (Str×Value)}:(A.under (.builtin "type.__call__" #[.ref C::us,kw])).depth=A.depth+1:=by
 first|rfl|simp[zI,Code.weight,Code.isCreation,Code.isGuard,Code.isCaller,Code.frames,BD,guardIds]
theorem Cj{A:dN}{C:Addr}{us:List Value}{kw:List (Str×Value)}:(A.under (.builtin "type.__call__" #[.ref C::us,kw])).units=A.units+1:=by
 first|rfl|simp[zI,Code.cUnits,Code.frames,BD]
theorem jo.make(r:jo (k+1) A)(C:Addr)(us:List Value)(kw:List (Str×Value)):jo k (A.under (.builtin "type.__call__" #[.ref C::us,kw])):=
 #[r.hd,by have:=r.dp;rw[Ci];omega,by have:=r.un;rw[Cj];omega]
theorem jo.depth(r:jo k A):A.depth<recursionLimit:=by have:=r.dp;omega
noncomputable def LA:TA:=λ_ H Q=>Q [] H
noncomputable def Ua(ta:TE)(tr:TA):TA:=λσ H Q=>ta σ H λx H1=>tr σ H1 λxs H2=>Q (x::xs) H2
section
variable{X:Cx}{e:Expr}{es:List Expr}{te:TE}{t:TA}{pos:Pos}
theorem uW:PA X [] LA:=λ_ _ _ _ H Q I h=>mm #[[],H,I,.nil,h]
theorem pe(ha:PE X e te)(hr:PA X es t)(hs:bx (e::es) X.env=(false,eval e X.env)::bx es X.env:=by rfl):PA X (e::es) (Ua te t):=by
 intro pos pZ s σ H Q I h;rw[hs]
 show wpAny _ _ (spliced ((false,eval e X.env)::eJ pos (bx es X.env))) _ _ s
 rwa[iY (dW (ha pZ s σ H _ I h) λu s1 h9=>?_)];let#[x,H1,I1,r1,q1]:=h9;rwa[dW (hr pos pZ s1 σ H1 _ I1 q1) λus s2 h9=>?_]
 let#[xs,H2,I2,r2,q2]:=h9;exact#[x::xs,H2,I2,.cons r1 r2,q2]
def X5(t:TA):TE:=λσ H Q=>t σ H λxs H1=>xs.length<=sizeLine/\∀p,H1 p=none->Q (.ref p) (upd H1 p (.tup xs))
def X6(t:TA):TE:=λσ H Q=>t σ H λxs H1=>xs.length<=sizeLine/\∀p,H1 p=none->Q (.ref p) (upd H1 p (.lst xs))
theorem Pu{x1}(h:PA X es t):PE X (.Tuple es x1 pos) (X5 t):=by
 intro pZ s σ H Q I hq;rwa[wpAny_Tuple_spliced (dW (h pos pZ s σ H _ I hq) λus s1 h9=>?_)];let#[xs,H1,I1,r,z,q]:=h9;refine#[by rw[<-r.length];erw[z],?_];have hf:H1 s1.heap.objs.size=none:=I1.dD.fresh (aq _);refine#[.ref s1.heap.objs.size,upd H1 s1.heap.objs.size (.tup xs),I1.laid (t':=s1.toks) (λb u e=>aI _ e) (aq _) ?_,rfl,q _ hf];exact#[z,us,r,#[_,bb _ rfl,rfl,_,rfl]]
theorem Pw(h:PA X es t):PE X (.List es pos) (X6 t):=by
 intro pZ s σ H Q I hq;rwa[wpAny_List_spliced (dW (h pos pZ s σ H _ I hq) λus s1 h9=>?_)];let#[xs,H1,I1,r,z,q]:=h9;refine#[by rw[<-r.length];erw[z],?_];have hf:H1 s1.heap.objs.size=none:=I1.dD.fresh (aq _);refine#[.ref s1.heap.objs.size,upd H1 s1.heap.objs.size (.lst xs),I1.laid (t':=s1.toks) (λb u e=>aI _ e) (aq _) ?_,rfl,q _ hf];exact#[z,us,0,r,bb _ rfl]
end
abbrev Sp:=List V->Hp->VK->XK->Prop
abbrev GK:=List Env->Hp->aC->XK->Value->aC->Prop
structure Ck(P:bO)(w:cy)(K:aJ)(mg:Str->Option Value)(base:Heap)(A:dN)(outer:List Env)(s:aC)(H:Hp):Prop where
 frames:A.frames=some outer
 mod:Mod K mg base
 bs:∀b o,base.get? b=some o->s.heap.get? b=some o/\H b=none
 Lf:base.objs.size<=s.heap.objs.size
 t9:s.heap.FunFrames base outer
 OR:∀b∈GJ outer,H b=none
 dD:pU P w H s.heap
 bare:qg s.gens
def CE(outer:List Env)(P:bO)(w:cy)(H:Hp)(s:aC)(Q:VK)(u:Value)(s':aC):Prop:=
 ∃v H',s'.os=s.os/\qg s'.gens/\Un (GJ outer) [] H H' s.heap s'.heap/\pU P w H' s'.heap/\RelV v u/\Q v H'
def CR(CX:GK)(outer:List Env)(P:bO)(w:cy)(H:Hp)(s:aC)(Q:VK)(E:XK)(r:Result)(s':aC):Prop:=
 match r with
 |.ok (.ret u)=>CE outer P w H s Q u s'
 |.ok _=>False
 |.error e=>CX outer H s E e s'
structure jq(P:bO)(w:cy)(K:aJ)(mg:Str->Option Value)(base:Heap)(CX:GK)(k:Nat)(f:Addr)(fd:fF)(ps:List Str)(sp:Sp):Prop where
 len:∀vs H Q E,sp vs H Q E->vs.length=ps.length
 run:∀(A:dN)(outer:List Env)(s:aC)(H:Hp)(args:Args)(us:List Value)(vs:List V)(Q:VK)(E:XK),jo k A->Ck P w K mg base A outer s H->BE s fd args (ps.zip us)->Vals vs us->sp vs H Q E ->
  qj (bc P w) A (.call (.ref f) args) (CR CX outer P w H s Q E) s
theorem jq.mono{P:bO}{w:cy}{K:aJ}{mg:Str->Option Value}{base:Heap}{CX:GK}{j k:Nat}{f:Addr}{fd:fF}{ps:List Str}{sp:Sp}(F:jq P w K mg base CX j f fd ps sp)(h:j<=k):
  jq P w K mg base CX k f fd ps sp:=#[F.len,λA outer s H args us vs Q E hr=>F.run A outer s H args us vs Q E (hr.mono h)]
theorem jq.imp{P:bO}{w:cy}{K:aJ}{mg:Str->Option Value}{base:Heap}{CX:GK}{k:Nat}{f:Addr}{fd:fF}{ps:List Str}{sp sp':Sp}(F:jq P w K mg base CX k f fd ps sp)
  (h:∀vs H Q E,sp' vs H Q E->sp vs H Q E):jq P w K mg base CX k f fd ps sp':=
 #[λvs H Q E q=>F.len vs H Q E (h _ _ _ _ q),λA outer s H args us vs Q E hr he hb hv hs=>F.run A outer s H args us vs Q E hr he hb hv (h _ _ _ _ hs)]
theorem Ck.make{P:bO}{w:cy}{K:aJ}{mg:Str->Option Value}{base:Heap}{A:dN}{outer:List Env}{s:aC}{H:Hp}(e:Ck P w K mg base A outer s H)(C:Addr)(us:List Value)(kw:List (Str×Value)):
  Ck P w K mg base (A.under (.builtin "type.__call__" #[.ref C::us,kw])) outer s H:=#[by first|exact e.frames| (simpa[zI,Code.envs,BD,pushEnvs] using e.frames),e.mod,e.bs,e.Lf,e.t9,e.OR,e.dD,e.bare]
section
variable{X:Cx}{pZ:List (Addr×Obj)}{σ:St}{H:Hp}{s s':aC}
theorem Inv.Ub(I:Inv X pZ σ H s):Ck X.prog X.w X.K X.mg X.base X.A X.stack s H:=
 #[I.ok.frames,I.ok.mod,I.bs,aH I.ok.Lf I.sz,I.stack,I.DE,I.dD,I.bare]
theorem Inv.after(I:Inv X pZ σ H s)(h:CE X.stack X.prog X.w H s Q u s'):EP X pZ σ Q u s':=by
 let#[v,H',os,bare,un,dD,r,q]:=h;let#[hh,g,d,t,os']:=s';obtain rfl:os'=s.os:=os;exact#[v,H',I.call (h':=hh) (g':=g) (d':=d) (t':=t) (ch:=[]) un dD bare (λb z=>absurd z (by simp)),r,q]
end
noncomputable def Hz(sp:Sp)(dvs:List V)(E:XK)(t:TA):TE:=λσ H Q=>t σ H λvs H1=>sp (vs++dvs) H1 Q E
def HA(C:Addr)(m:Str)(sp:Sp)(dvs:List V)(E:XK)(ta:TE)(t:TA):TE:=λσ H Q=>ta σ H λx H1=>∃a dx fs,x=.ref a/\H1 a=some (.ins C dx fs)/\fs.lookup m=none /\
 t σ H1 λvs H2=>sp (x::(vs++dvs)) H2 Q E
def HB(C:Addr)(sp:Sp)(dvs:List V)(E:XK)(t:TA):TE:=λσ H Q=>t σ H λvs H1=>∀x dx,H1 x=none->H1 dx=none->dx≠x ->
 sp (.ref x::(vs++dvs)) (upd (upd H1 dx (.own x)) x (.ins C dx [])) (λv H2=>v=.bV/\Q (.ref x) H2) E
def Binds(K:aJ)(fd:fF)(ps:List Str)(ds:List Value):Prop:=
 ∀(s:aC)(us:List Value),K.In s.heap->(us++ds).length=ps.length->BE s fd #[us,[]] (ps.zip (us++ds))
theorem Binds.all{K:aJ}{fd:fF}{ps:List Str}(h:∀us:List Value,us.length=ps.length->K5 fd #[us,[]]=pure (ps.zip us)):Binds K fd ps []:=λs us _ hl=>by
 rw[cq] at hl ⊢;erw[.of_eq (h us hl)]
def Passes(CX:GK)(X:Cx)(E:XK):Prop:=∀(pZ:List (Addr×Obj))(σ:St)(H:Hp)(s:aC)(e:Value)(s':aC),Inv X pZ σ H s->CX X.stack H s E e s'->X.xe e s'
section
variable{X:Cx}{CX:GK}{k:Nat}{f C:Addr}{fd:fF}{ps:List Str}{sp:Sp}{dvs:List V}{ds:List Value}{E:XK}{x m:Str}{p pos apos:Pos}{e o:Expr}{es:List Expr}{ta:TE}{t:TA}
theorem yt{pZ:List (Addr×Obj)}{σ:St}{H:Hp}{s:aC}{Q:VK}{us:List Value}{vs:List V}(F:jq X.prog X.w X.K X.mg X.base CX k f fd ps sp)(hr:jo k X.A)(hb:Binds X.K fd ps ds)(hd:Vals dvs ds)(hx:Passes CX X E)
  (I:Inv X pZ σ H s) (r:Vals vs us) (h:sp (vs++dvs) H Q E):wpAny (bc X.prog X.w) X.A (call (.ref f) us) (EP X pZ σ Q) X.xe s:=by
 have r2:Vals (vs++dvs) (us++ds):=r.append hd;have hl:(us++ds).length=ps.length:=by rw[<-r2.length];erw[F.len _ _ _ _ h]
 rwa[wpAny_call (we (F.run X.A X.stack s H #[us,[]] (us++ds) (vs++dvs) Q E hr I.Ub (hb s us I.yo hl) r2 h) λr s' hq=>?_)];cases r with
 |error e=>erw[hx pZ σ H s e s' I hq]
 |ok fl=>
  cases fl with
  |ret u=>erw[I.after hq]
  |next=>erw[aT hq]
  |brk=>erw[aT hq]
  |cont=>erw[aT hq]
theorem LB(F:jq X.prog X.w X.K X.mg X.base CX k f fd ps sp)(hr:jo k X.A)(hg:Gl X x)(hm:X.mg x=some (.ref f))(hk:i4 X.K (.ref f)=true)(hb:Binds X.K fd ps ds)(hd:Vals dvs ds)(hx:Passes CX X E)
  (ha:PA X (e::es) t) (hdb:(x==("__debug__":Str))=false:=by decide) (he:bx (e::es) X.env=(false,eval e X.env)::bx es X.env:=by rfl) (hpl:(eJ pos (bx es X.env)).any (·.1)=false:=by rfl):
  PE X (.Call (.Name x p) (e::es) [] pos) (Hz sp dvs E t):=by
 k_ne;rwa[eV (qV I hg hm ?_ hdb)];rwa[qk (h₀:=X.base) I.ok.mod.Tn hk (dW (ha pos pZ s σ H _ I h) λus s1 h9=>?_) he hpl];let#[vs,H1,I1,r,q]:=h9;refine#[I1.yo,?_];erw[yt F hr hb hd hx I1 r q]
theorem HC(F:jq X.prog X.w X.K X.mg X.base CX k f fd ps sp)(hr:jo k X.A)(hg:Gl X x)(hm:X.mg x=some (.ref f))(hk:i4 X.K (.ref f)=true)(hb:Binds X.K fd ps ds)(hd:Vals dvs ds)(hx:Passes CX X E)
  (hdb:(x==("__debug__":Str))=false:=by decide):PE X (.Call (.Name x p) [] [] pos) (Hz sp dvs E LA):=by
 k_ne;rwa[eV (qV I hg hm ?_ hdb)];erw[pQ I.yo hk (yt (us:=[]) F hr hb hd hx I .nil h)]
theorem LC{pl:Sem Bool}(he:PE X o ta)(c:wt X.K C)(hm:Meth X.K C m f)(F:jq X.prog X.w X.K X.mg X.base CX k f fd ps sp)(hr:jo k X.A)(hb:Binds X.K fd ps ds)(hd:Vals dvs ds)(hx:Passes CX X E)(ha:PA X (e::es) t)
  (hst:bx (e::es) X.env=(false,eval e X.env)::bx es X.env:=by rfl) (hpl:(eJ pos (bx es X.env)).any (·.1)=false:=by rfl)
  (ht:eval (.Call (.Attribute o m apos) (e::es) [] pos) X.env=(do
   let ov <-eval o X.env
   standAt apos.atName
   let (f,first) <-holding [ov] (tF ov m pl)
   BW pos f first (eJ pos (bx (e::es) X.env)) (backToKw pos (eO [] X.env))):=by rfl):
  PE X (.Call (.Attribute o m apos) (e::es) [] pos) (HA C m sp dvs E ta t):=by
 k_ne;refine n8 (pl:=pl) (dW (he pZ s σ H _ I h) λu s1 h9=>?_) ht;let#[x,H1,I1,rx,a,dx,fs,ex,ea,l,q]:=h9;subst ex;obtain rfl:u=bj a:=rx;refine qo I1 ea c hm l ?_;refine qk (first:=[.ref a]) (h₀:=X.base) I.ok.mod.Tn hm.kp (dW (ha pos pZ s1 σ H1 _ I1 q) λus s2 h9=>?_) hst hpl;obtain⟨vs,H2,I2,r,q2⟩:=h9;refine#[I2.yo,?_];exact yt (us:=.ref a::us) (vs:=.ref a::vs) F hr hb hd hx I2 (.cons rfl r) q2
theorem HD(he:PE X o ta)(c:wt X.K C)(hm:Meth X.K C m f)(F:jq X.prog X.w X.K X.mg X.base CX k f fd ps sp)(hr:jo k X.A)(hb:Binds X.K fd ps ds)(hd:Vals dvs ds)(hx:Passes CX X E)
  (ht:eval (.Call (.Attribute o m apos) [] [] pos) X.env=(do
   let ov <-eval o X.env
   standAt apos.atName
   let (f,first) <-holding [ov] (tF ov m pl)
   BW pos f first (eJ pos (bx [] X.env)) (backToKw pos (eO [] X.env))):=by rfl):
  PE X (.Call (.Attribute o m apos) [] [] pos) (HA C m sp dvs E ta LA):=by
 k_ne;refine n8 (pl:=pl) (dW (he pZ s σ H _ I h) λu s1 h9=>?_) ht;let#[x,H1,I1,rx,a,dx,fs,ex,ea,l,q]:=h9;subst ex;obtain rfl:u=bj a:=rx;refine qo I1 ea c hm l ?_;exact pQ (first:=[.ref a]) I1.yo hm.kp (yt (us:=[.ref a]) (vs:=[.ref a]) F hr hb hd hx I1 (.cons rfl .nil) q)
structure Mk(K:aJ)(C f:Addr):Prop where
 makes:Gy K C=true
 init:dX K (.ref C) "__init__"=some (some (.ref f))
 fn:ya K (.ref f)=true
 kp:i4 K (.ref C)=true
theorem As(M:Mk X.K C f)(F:jq X.prog X.w X.K X.mg X.base CX k f fd ps sp)(hr:jo (k+1) X.A)(hb:Binds X.K fd ps ds)(hd:Vals dvs ds)
  (hx:Passes CX X E) (I:Inv X pZ σ H s) (r:Vals vs us)
  (h:∀x dx,H x=none->H dx=none->dx≠x->sp (.ref x::(vs++dvs)) (upd (upd H dx (.own x)) x (.ins C dx [])) (λv H2=>v=.bV/\Q (.ref x) H2) E):
  wpAny (bc X.prog X.w) X.A (call (.ref C) us) (EP X pZ σ Q) X.xe s:=by
 have hq:=h (s.heap.objs.size+1) s.heap.objs.size (I.dD.fresh (jk _)) (I.dD.fresh (aq _)) (aY (dj _));have I2:=Inv.made (C:=C) I;have r2:Vals (V.ref (s.heap.objs.size+1)::(vs++dvs)) (bj (s.heap.objs.size+1)::(us++ds)):=.cons rfl (r.append hd);have hl:(bj (s.heap.objs.size+1)::us++ds).length=ps.length:=by
  have e:=r2.length;rw[F.len _ _ _ _ hq] at e;erw[e.symm]
 refine wpAny_call (Hy (f:=f) I.yo M.makes M.init (beq_iff_eq.mp M.fn) (we (F.run _ X.stack _ _ #[bj (s.heap.objs.size+1)::us,[]] (bj (s.heap.objs.size+1)::(us++ds)) _ _ E (hr.make C us [])
  (I2.Ub.make C us []) (hb _ (bj (s.heap.objs.size+1)::us) I2.yo hl) r2 hq) λr s' hq'=>?_))
 cases r with
 |error e=>erw[hx pZ σ _ _ e s' I2 hq']
 |ok fl=>
  cases fl with
  |ret u=>
   let#[v,H',I3,rv,ev,q3]:=I2.after hq';subst ev;exact#[rv,#[V.ref (s.heap.objs.size+1),H',I3,rfl,q3]]
  |next=>erw[aT hq']
  |brk=>erw[aT hq']
  |cont=>erw[aT hq']
theorem LD(M:Mk X.K C f)(F:jq X.prog X.w X.K X.mg X.base CX k f fd ps sp)(hr:jo (k+1) X.A)(hg:Gl X x)(hm:X.mg x=some (.ref C))(hb:Binds X.K fd ps ds)(hd:Vals dvs ds)(hx:Passes CX X E)
  (ha:PA X (e::es) t) (hdb:(x==("__debug__":Str))=false:=by decide) (he:bx (e::es) X.env=(false,eval e X.env)::bx es X.env:=by rfl) (hpl:(eJ pos (bx es X.env)).any (·.1)=false:=by rfl):
  PE X (.Call (.Name x p) (e::es) [] pos) (HB C sp dvs E t):=by
 k_ne;rwa[eV (qV I hg hm ?_ hdb)];rwa[qk (h₀:=X.base) I.ok.mod.Tn M.kp (dW (ha pos pZ s σ H _ I h) λus s1 h9=>?_) he hpl];let#[vs,H1,I1,r,q]:=h9;refine#[I1.yo,?_];erw[As M F hr hb hd hx I1 r q]
theorem HE(M:Mk X.K C f)(F:jq X.prog X.w X.K X.mg X.base CX k f fd ps sp)(hr:jo (k+1) X.A)(hg:Gl X x)(hm:X.mg x=some (.ref C))(hb:Binds X.K fd ps ds)(hd:Vals dvs ds)(hx:Passes CX X E)
  (hdb:(x==("__debug__":Str))=false:=by decide):PE X (.Call (.Name x p) [] [] pos) (HB C sp dvs E LA):=by
 k_ne;rwa[eV (qV I hg hm ?_ hdb)];erw[pQ I.yo M.kp (As (us:=[]) M F hr hb hd hx I .nil h)]
end
structure lI(N P:List Str)(sc:kh):Prop where
 kind:sc.kind=.function
 co:sc.isCoroutine=false
 gen:sc.isGenerator=false
 nd:N.Nodup
 pre:N.take P.length=P
 par:∀x∈P,sc.names.lookup x=some .local\/sc.names.lookup x=some .cell
 Px:∀y∈sc.names,y.2≠.free
theorem xg{kindOf:Str->Option NameKind}{x:Str}:∀{binds:List (Str×Value)}{m:Str->Option Value},(∀v,(x,v)∉binds)->Gz kindOf binds m x=m x
 |[],_,_=>rfl
 | (n,v)::r,m,h=>by
  unfold Gz;rw[xg λw hw=>h w (aA _ hw)]
  split
  .have:x≠n:=by rintro rfl;erw[h v aQ]
   simp[this]
  .rfl
theorem xh{kindOf:Str->Option NameKind}{x:Str}:∀{binds:List (Str×Value)}{m:Str->Option Value},(∀v,(x,v)∉binds)->GB kindOf binds m x=m x
 |[],_,_=>rfl
 | (n,v)::r,m,h=>by
  unfold GB;rw[xh λw hw=>h w (aA _ hw)]
  split
  .rfl
  .have:x≠n:=by rintro rfl;erw[h v aQ]
   simp[this]
theorem xi{kindOf:Str->Option NameKind}{x:Str}{v:Value}:∀{P:List Str}{vs:List Value}{i:Nat}{m:Str->Option Value},P.Nodup->P[i]?=some x->vs[i]?=some v->kindOf x=some .local ->
  Gz kindOf (P.zip vs) m x=some v
 |[],_,_,_,_,h,_,_=>by simp at h
 |_::_,[],_,_,_,_,h,_=>by simp at h
 |p::P,w::vs,0,m,nd,h1,h2,hk=>by
  simp at h1 h2;subst h1;subst h2;show Gz kindOf ((p,w)::P.zip vs) m p=_;unfold Gz;rw[xg λv hv=>(eY.mp nd).1 (v5 hv).1,if_pos hk]
  simp
 |p::P,w::vs,i+1,m,nd,h1,h2,hk=>by
  show Gz kindOf ((p,w)::P.zip vs) m x=_
  unfold Gz;exact xi (i:=i) (eY.mp nd).2 (by simpa using h1) (by simpa using h2) hk
theorem xj{kindOf:Str->Option NameKind}{x:Str}{v:Value}:∀{P:List Str}{vs:List Value}{i:Nat}{m:Str->Option Value},P.Nodup->P[i]?=some x->vs[i]?=some v->kindOf x≠some .local ->
  GB kindOf (P.zip vs) m x=some v
 |[],_,_,_,_,h,_,_=>by simp at h
 |_::_,[],_,_,_,_,h,_=>by simp at h
 |p::P,w::vs,0,m,nd,h1,h2,hk=>by
  simp at h1 h2;subst h1;subst h2;show GB kindOf ((p,w)::P.zip vs) m p=_;unfold GB;rw[xh λv hv=>(eY.mp nd).1 (v5 hv).1,if_neg hk]
  simp
 |p::P,w::vs,i+1,m,nd,h1,h2,hk=>by
  show GB kindOf ((p,w)::P.zip vs) m x=_
  unfold GB;exact xj (i:=i) (eY.mp nd).2 (by simpa using h1) (by simpa using h2) hk
noncomputable def start(N:List Str)(vs:List V):St:=vs.map some++eD (N.length-vs.length) none
noncomputable def Cm(CX:GK)(P:bO)(w:cy)(K:aJ)(mg:Str->Option Value)(base:Heap)(N:List Str)(qual:Str)(scope:kh)(f:Addr)(cd:Value)(A:dN)(outer:List Env)(s:aC)(H:Hp)(E:XK):Cx where
 prog:=P
 w:=w
 K:=K
 mg:=mg
 base:=base
 A:=A.deeper (su qual scope s.heap.objs.size f cd)
 N:=N
 s₀:=s
 H₀:=H
 env:=su qual scope s.heap.objs.size f cd
 outer:=outer
 stack:=su qual scope s.heap.objs.size f cd::outer
 ex:=[]
 calm:=true
 fn:=λ_=>true
 pn:=[]
 xe:=λe s'=>wpAny (bc P w) (A.deeper (su qual scope s.heap.objs.size f cd)) (leaving (su qual scope s.heap.objs.size f cd) e) (λ_ s''=>CX outer H s E e s'') (λe' s''=>CX outer H s E e' s'') s'
theorem Au{sc:kh}{n:Nat}{x:Str}(h:sc.names.lookup x=some .cell):∃c,(iZ n sc.names []).lookup x=some c:=by
 have q:=yb sc.names n [] (.inl h);erw[wK.mp q]
theorem Fn{CX:GK}{P:bO}{w:cy}{K:aJ}{mg:Str->Option Value}{base:Heap}{N ps:List Str}{qual:Str}{scope:kh}{f:Addr}{cd:Value}{A:dN}{outer:List Env}{s s1:aC}{H:Hp}{E:XK}{us:List Value}{vs:List V}
  (S:lI N ps scope) (hd:A.handled=none) (e0:Ck P w K mg base A outer s H) (hl:vs.length=ps.length) (r:Vals vs us)
  (x:InCallC s s.heap.objs.size (Gz (su qual scope s.heap.objs.size f cd).kindOf (ps.zip us) λ_=>none) (iZ (s.heap.objs.size+1) scope.names []) (GB (su qual scope s.heap.objs.size f cd).kindOf (ps.zip us) λ_=>none) s1):
  Inv (Cm CX P w K mg base N qual scope f cd A outer s H E) [] (start N vs) H s1:=by
 have hpl:ps.length<=N.length:=by have:=congrArg cG S.pre;rw[dC] at this;omega
 let#[h1,tk,rfl,hk]:=x.done;have noA:∀b:Addr,b∉(Cm CX P w K mg base N qual scope f cd A outer s H E).ex:=λb z=>absurd (show b∈([]:List Addr) from z) (by simp)
 refine#[#[e0.mod,S.kind,rfl,rfl,aq _,λy z c h1 h2=>?_,λy hy=>?_,λy c _ h=>?_,λ_=>hd,Around.frames_deeper e0.frames,.inr #[rfl,rfl],λb z=>absurd z (noA b),e0.bs,e0.Lf,λb _ _=>noA b,λb z=>absurd z (noA b),e0.t9,e0.OR],
  rfl,e0.bare,Un.kept hk,#[_,x.toInCall.ns,λi y v h1 h2 h3=>?_],λy c h=>#[_,x.cell y c h],e0.dD.fresh (aq _),λy c h=>?_,λp hp=>absurd (show p∈([]:List (Addr×Obj)) from hp) (by simp),e0.dD.kept hk,?_]
 .erw[name_of_addr x.apart (cU h1) (cU h2)]
 .have hy:scope.names.lookup y=some .cell\/scope.names.lookup y=some .free:=hy
  rcases hy with hy|hy
  .erw[Au hy]
  .erw[absurd rfl (S.Px _ (cU hy))]
 .erw[bA (x.above y c (cU h))]
 .have hi:i<vs.length:=by
   unfold start at h2;by_cases hi:i<vs.length
   .erw[hi]
   .rw[aw (by simpa using hi)] at h2
    rw[z8] at h2;split at h2<;>cases h2
  have ha:vs[i]?=some v:=by
   unfold start at h2;rw[ah (by simpa using hi),aB] at h2;cases e:vs[i]? with
   |none=>rw[e] at h2;cases h2
   |some a=>rw[e] at h2;cases h2;rfl
  let#[u,hu,rv]:=r.get ha;have hp:ps[i]?=some y:=by
   rw[<-S.pre,zJ ∅];erw[h1]
  have ndP:ps.Nodup:=by rw[<-S.pre];erw[S.nd.sublist (List.take_sublist _ _)]
  refine#[u,rv,?_];rcases S.par y (af hp) with k|k
  .erw[.inl #[k,xi ndP hp hu k]]
  .let#[c,e]:=Au (n:=s.heap.objs.size+1) k
   rwa[.inr #[.inl k,c,e,?_]];have q:=x.cell y c e;rw[xj ndP hp hu (by show scope.names.lookup y≠_;rw[k];decide)] at q;erw[q]
 .erw[e0.dD.fresh (bA (x.above y c (cU h)))]
 .unfold start
  show _=N.length
  rw[az,ak,List.length_replicate]
  omega
theorem Uc{CX:GK}{P:bO}{w:cy}{K:aJ}{mg:Str->Option Value}{base:Heap}{k:Nat}{f:Addr}{name qual:Str}{params:Arguments}{body:List Stmt}{scope:kh}{dV kV doc pm cdv ct oc:Value}{an od:Option Addr}
  {osl:Array (Option Value)}{N ps:List Str}{sp:Sp} (lk:K.lookup f=some #[oc,od,.func (kC name qual params body scope dV kV doc pm an cdv ct),osl]) (hcd:uM K cdv qual=true) (S:lI N ps scope)
  (len:∀vs H Q E,sp vs H Q E->vs.length=ps.length)
  (hbody:∀(A:dN)(outer:List Env)(s:aC)(H:Hp)(vs:List V)(Q:VK)(E:XK),jo k (A.deeper (su qual scope s.heap.objs.size f cdv))->sp vs H Q E ->
   ∃t,uo (Cm CX P w K mg base N qual scope f cdv A outer s H E) body t/\t {nx:=λ_ H'=>Q .bV H',rt:=Q} (start N vs) H):
  jq P w K mg base CX (k+1) f (kC name qual params body scope dV kV doc pm an cdv ct) ps sp:=by
 refine#[len,λA outer s H args us vs Q E hr e0 hb r hsp=>?_];have hl:=len _ _ _ _ hsp;have KX:K.In s.heap:=e0.mod.Tn.keeps λb o e=>(e0.bs b o e).1
 have lim:s.heap.NoLimit:=e0.mod.nolimit.keeps λb o e=>(e0.bs b o e).1
 have hkind:∀y∈ps.zip us,scope.names.lookup y.1=some .local\/(scope.names.lookup y.1=some .cell/\((iZ (s.heap.objs.size+1) scope.names []).lookup y.1).isSome=true):=λ⟨n,v⟩ hy=>by
  rcases S.par n (v5 hy).1 with q|q
  .erw[.inl q]
  .erw[.inr #[q,yb _ _ _ (.inl q)]]
 rwa[codeAny_call_function hr.depth (KX _ _ lk) rfl S.co S.gen rfl (PySem.W.codeRec_of KX hcd) (hb _ _ _ _ ?_)];rwa[wpAny_newFunctionEnv_cells S.kind hkind λenv he s1 x=>?_]
 subst he;refine#[lim.keeps x.toInCall.keep,codeAny_func ?_];let#[t,ht,hq]:=hbody A outer s H vs Q E (hr.deeper _) hsp;have I:Inv (Cm CX P w K mg base N qual scope f cdv A outer s H E) [] (start N vs) H s1:=Fn S hr.hd e0 hl r x;rwa[fL (ht [] s1 (start N vs) H _ I hq) (λfl s' hs=>?_) λe s' hs=>hs]
 have fin:∀{σ':St}{H':Hp}{v:V}{u:Value},Inv (Cm CX P w K mg base N qual scope f cdv A outer s H E) [] σ' H' s'->RelV v u->Q v H'->CE outer P w H s Q u s':=
  λ{σ' H' v u}J rv q=>#[v,H',J.os,J.bare,J.base,J.dD,rv,q]
 cases fl with
 |ret u=>
  let#[v,σ',H',J,rv,q]:=hs;erw[fin J rv q]
 |next=>
  let#[σ',H',J,q]:=hs;erw[fin (v:=V.bV) (u:=fV) J rfl q]
 |brk=>
  let#[_,_,_,q]:=hs;erw[aT q]
 |cont=>
  let#[_,_,_,q]:=hs;erw[aT q]
section
variable{X:Cx}{x:Str}{p pos:Pos}{e:Expr}{es:List Expr}{t:TA}{id T:String}{r:List V->Hp->VK->Prop}
def X7(r:List V->Hp->VK->Prop)(t:TA):TE:=λσ H Q=>t σ H λvs H1=>r vs H1 Q
theorem mB(hc:gv X (.builtin id) r)(hg:Gl X x)(hm:X.mg x=none)(hv:kg x=some (.builtin id))(ha:PA X (e::es) t)(hn:x≠"__name__":=by decide)(hdb:(x==("__debug__":Str))=false:=by decide)
  (he:bx (e::es) X.env=(false,eval e X.env)::bx es X.env:=by rfl) (hpl:(eJ pos (bx es X.env)).any (·.1)=false:=by rfl):PE X (.Call (.Name x p) (e::es) [] pos) (X7 r t):=by
 k_ne;rwa[eV (qm I hg hm hv ?_ hn hdb)];rwa[PyProof.Rows.callWith_builtin1 (dW (ha pos pZ s σ H _ I h) λus s1 h9=>?_) he hpl];let#[vs,H1,I1,r1,q1]:=h9;erw[hc pZ s1 σ H1 vs us Q I1 r1 q1]
theorem mC(hc:gv X (.type T) r)(hg:Gl X x)(hm:X.mg x=none)(hv:kg x=some (.type T))(ha:PA X (e::es) t)(hn:x≠"__name__":=by decide)(hdb:(x==("__debug__":Str))=false:=by decide)
  (he:bx (e::es) X.env=(false,eval e X.env)::bx es X.env:=by rfl) (hpl:(eJ pos (bx es X.env)).any (·.1)=false:=by rfl):PE X (.Call (.Name x p) (e::es) [] pos) (X7 r t):=by
 k_ne;rwa[eV (qm I hg hm hv ?_ hn hdb)];rwa[jK (dW (ha pos pZ s σ H _ I h) λus s1 h9=>?_) he hpl];let#[vs,H1,I1,r1,q1]:=h9;erw[hc pZ s1 σ H1 vs us Q I1 r1 q1]
end
end L2
namespace HT
open PySem PyProof.Rows
section
variable{prog:bO}{w:cy}{A:dN}{E:Value->aC->Prop}{s:aC}
theorem LF(ht:IsTup s.heap t vs.toArray)(hb:IsTup s.heap b ws.toArray)(hv:vs≠[])
  (h1:ws=[]->Q (.ref t) s) (h2:ws≠[]->Q (.ref s.heap.objs.size) {s with heap:=s.heap.push {cls:=.type "tuple",data:=.seq (vs++ws).toArray} })
  (hsz:vs.length+ws.length<=sizeLine):wpAny (bc prog w) A (cF .Add (.ref t) (.ref b)) Q E s:=by
 let#[#[cls,dd,data,sl],ho,hc,n,hd]:=id ht;let#[#[cls2,dd2,data2,sl2],ho2,hc2,n2,hd2]:=id hb;simp only at hc hd hc2 hd2;subst hc hd hc2 hd2;have e:vs.toArray++ws.toArray=(vs++ws).toArray:=by simp
 by_cases hw:ws=[]
 .exact GX #[_,ho,rfl] #[_,ho2,rfl] yc ES mY mv (l6 _ _)
   (tuple_addW1 t b vs.toArray ws.toArray n n2 dd dd2 sl sl2 (by simpa using hv) (by simp[hw])) #[ho,ho2,h1 hw]
 .refine GX #[_,ho,rfl] #[_,ho2,rfl] yc ES mY mv (l6 _ _)
   (tuple_addW2 t b vs.toArray ws.toArray n n2 dd dd2 sl sl2 (by simpa using hv) (by simpa using hw) (by rw[aG,aG];erw[hsz])) #[ho,ho2,?_]
  rw[e]
  erw[h2 hw]
noncomputable def jr(n d:Nat):Option Int->Nat
 |none=>d
 |some v=>if v<0 then(v+(n:Int)).toNat else min v.toNat n
theorem Py(n d:Nat)(hd:d<=n)(o:Option Int):jr n d o<=n:=by
 cases o with
 |none=>erw[hd]
 |some v=>
  show(if v<0 then(v+(n:Int)).toNat else min v.toNat n)<=n
  by_cases hv:v<0
  .rw[if_pos hv];omega
  .rw[if_neg hv];erw[Nat.min_le_right _ _]
theorem DJ(v:Int)(n d:Nat):(if v<0 then max (v+(n:Int)) 0 else min v (n:Int))=((jr n d (some v):Nat):Int):=by
 show(if v<0 then max (v+(n:Int)) 0 else min v (n:Int))=(((if v<0 then(v+(n:Int)).toNat else min v.toNat n):Nat):Int)
 by_cases hv:v<0
 .dsimp[if_pos hv];omega
 .dsimp[if_neg hv];omega
theorem Cn(lo hi:Option Int)(n:Nat):Builtin.Slice.sliceAdjust lo hi 1 (n:Int)=(((jr n 0 lo:Nat):Int),((jr n n hi:Nat):Int)):=by
 have h1:¬((1:Int)<0):=∅
 unfold Builtin.Slice.sliceAdjust;dsimp[h1,if_false];rwa[wJ ?_ ?_]
 .cases lo with
  |none=>rfl
  |some v=>erw[DJ v n 0]
 .cases hi with
  |none=>rfl
  |some v=>erw[DJ v n n]
theorem Co(i j:Nat):Builtin.Slice.slicePlaces (i:Int) (j:Int) 1=j-i:=by
 unfold Builtin.Slice.slicePlaces;have h1:(1:Int)>0:=∅
 dsimp[h1,if_true,Int.ediv_one];split<;>omega
theorem uX(p:yd v o)(h:Q o s):wpAny (bc prog w) A (Builtin.Slice.slicePartIndex v) Q E s:=by
 cases p with
 |none=>erw[slicePart_none h]
 |int i t=>erw[slicePart_int h]
theorem sF{sl:Addr}{vl vu:Value}{lo hi:Option Int}{n:Nat}{Q:Int×Int×Nat->aC->Prop}(hs:s.heap.IsSliceOf sl vl vu .none)(pl:yd vl lo)(pu:yd vu hi)
  (h:Q (((jr n 0 lo:Nat):Int),1,jr n n hi-jr n 0 lo) s):wpAny (bc prog w) A (Builtin.Slice.sliceApplied (.ref sl) (pure (n:Int))) Q E s:=by
 let#[os,hos,hcs,hds]:=id hs;unfold Builtin.Slice.sliceApplied Builtin.Slice.sliceFields;rwa[ab (ab (zK hos hds (x:=vl) rfl (ab (zK hos hds (x:=vu) rfl (ab (zK hos hds (x:=.none) rfl (ax ?_)))))))];rwa[ab (slicePart_none ?_)];show wpAny _ _ (if ((1:Int)== 0)=true then _ else _) _ _ s;rw[if_neg ⋯]
 rwa[ab (uX pl (ab (uX pu (ab (ax ?_)))))];show wpAny _ _ (match Builtin.Slice.sliceAdjust lo hi 1 (n:Int) with| (lo,hi)=>pure (lo,(1:Int),Builtin.Slice.slicePlaces lo hi 1)) _ _ s;rw[Cn lo hi n]
 show wpAny _ _ (pure (((jr n 0 lo:Nat):Int),(1:Int),Builtin.Slice.slicePlaces ((jr n 0 lo:Nat):Int) ((jr n n hi:Nat):Int) 1)) _ _ s
 rw[Co]
 erw[ax h]
theorem HF(xs:Array Value)(i k:Nat):((bX k).filterMap λ(m:Nat)=>xs[((i:Int)+(m:Int)*1).toNat]?).toArray=((xs.toList.drop i).take k).toArray:=by
 have e:(λ(m:Nat)=>xs[((i:Int)+(m:Int)*1).toNat]?)=λm=>xs[i+m]?:=by
  funext m
  have:((i:Int)+(m:Int)*1).toNat=i+m:=∅
  rw[this]
 rw[e]
 have:=pick_run xs i k;rw[sf] at this;have e2:((λx=>xs[x]?)∘λx=>i+x)=λm=>xs[i+m]?:=rfl
 rw[e2] at this;rw[this]
theorem qZ{t sl:Addr}{items:Array Value}{vl vu:Value}{lo hi:Option Int}{Q:Value->aC->Prop}(ht:IsTup s.heap t items)(hs:s.heap.IsSliceOf sl vl vu .none)(pl:yd vl lo)(pu:yd vu hi)
  (hw:¬(jr items.size 0 lo=0/\jr items.size items.size hi=items.size))
  (h:Q (.ref s.heap.objs.size) {s with heap:=s.heap.push {cls:=.type "tuple",data:=.seq ((items.toList.drop (jr items.size 0 lo)).take (jr items.size items.size hi-jr items.size 0 lo)).toArray} })
  (hsz:items.size<=sizeLine):wpAny (bc prog w) A (oB (.ref t) (.ref sl)) Q E s:=by
 have htake:sizeOk (.seq ((items.toList.drop (jr items.size 0 lo)).take (jr items.size items.size hi-jr items.size 0 lo)).toArray):=by
  show((items.toList.drop (jr items.size 0 lo)).take (jr items.size items.size hi-jr items.size 0 lo)).toArray.size<=sizeLine
  rw[aG,dC,Kz,qh]
  omega
 have hj:jr items.size items.size hi<=items.size:=Py _ _ (aq _) hi;let#[os,hos,hcs,hds]:=id hs;have hTs:s.TypeIs (.ref sl) "slice":=#[os,hos,hcs]
 unfold oB;try with_reducible refine fK ?_
 first|refine ab (ax ?_)|skip
 refine ab (wpAny_sequenceKey ht.typeIs ⋯ ?_);refine ab (jM (name:=b9 "__getitem__") ht.typeIs iS
  (iX iS ht.typeIs entry_tuple_getitem ?_ (args_tuple_getitem _ _)))
 show wpAny _ _ (Builtin.Tuple.tupleItemsOf (.ref t)>>=_) _ _ s
 rwa[ab (tupleItemsOf_ ht ?_)];rwa[ab (GY hTs ?_)];rw[if_pos ⋯]
 refine ab (sF hs pl pu ?_);have hno:¬((((jr items.size 0 lo:Nat):Int)== 0&&(1:Int)== 1&&(jr items.size items.size hi-jr items.size 0 lo)== items.size)=true):=by
  intro q;rw[aj,aj] at q;have q1:((jr items.size 0 lo:Nat):Int)=0:=eq_of_beq q.1.1;have q2:jr items.size items.size hi-jr items.size 0 lo=items.size:=eq_of_beq q.2;erw[hw #[∅,∅]]
 show wpAny _ _ (if (((jr items.size 0 lo:Nat):Int)== 0&&(1:Int)== 1&&(jr items.size items.size hi-jr items.size 0 lo)== items.size)=true then _ else _) _ _ s
 rw[if_neg hno,HF]
 first
  |exact ab (m:=Builtin.Tuple.tupleExact _) (dA (ax #[_,rfl,ax h]) htake)
  |exact ab (m:=Builtin.Tuple.tupleExact _) (dA (ab (ax (ax #[_,rfl,ax h]))) htake)
  |exact ab (ab (m:=Builtin.Tuple.tupleExact _) (dA (ax (ax #[_,rfl,ax h])) htake))
  |exact ab (ab (m:=Builtin.Tuple.tupleExact _) (dA (ax #[_,rfl,ax h]) htake))
end
end HT
namespace L2
open PySem PySem.Spec PyProof.Rows
abbrev TO:=St->Hp->(Option Int->Hp->Prop)->Prop
def PO(X:Cx)(e:Option Expr)(t:TO):Prop:=
 ∀(pZ:List (Addr×Obj))(s:aC)(σ:St)(H:Hp)(Q:Option Int->Hp->Prop),Inv X pZ σ H s->t σ H Q ->
  wpAny (bc X.prog X.w) X.A (evalPart e X.env) (λu s'=>∃o H',Inv X pZ σ H' s'/\yd u o/\Q o H') X.xe s
noncomputable def LG:TO:=λ_ H Q=>Q none H
noncomputable def Ud(t:TE):TO:=λσ H Q=>t σ H λx H1=>∃i,x=.int i/\Q (some i) H1
section
variable{X:Cx}{e:Expr}{te:TE}{lo hi:Option Expr}{tl th:TO}{pos p2:Pos}
theorem LH:PO X none LG:=by
 k_ne;rw[evalPart_none]
 erw[ax #[none,H,I,.none,h]]
theorem LI(h:PE X e te):PO X (some e) (Ud te):=by
 intro pZ s σ H Q I hw;rw[evalPart_some]
 rwa[dW (h pZ s σ H _ I hw) λu s1 h9=>?_]
 let#[x,H1,I1,r1,q1]:=h9;let#[i,rfl,q]:=q1;let#[t,rfl]:=r1;exact#[some i,H1,I1,.int i t,q]
def Ue(X:Cx)(r:V->Option Int->Option Int->Hp->VK->Prop):Prop:=
 ∀(pZ:List (Addr×Obj))(s:aC)(σ:St)(H:Hp)(x:V)(v vl vu:Value)(lo hi:Option Int)(sl:Addr)(Q:VK),Inv X pZ σ H s->RelV x v->s.heap.IsSliceOf sl vl vu .none->yd vl lo->yd vu hi->r x lo hi H Q ->
  ∃T id,typeLookup (.type T) "__getitem__"=pure (some (.builtin id))/\s.TypeIs v T/\wpAny (bc X.prog X.w) X.A (oB v (.ref sl)) (EP X pZ σ Q) X.xe s
def tSl(r:V->Option Int->Option Int->Hp->VK->Prop)(te:TE)(tl th:TO):TE:=λσ H Q=>te σ H λx H1=>tl σ H1 λl H2=>th σ H2 λu H3=>r x l u H3 Q
theorem HG(hr:Ue X r)(he:PE X e te)(hl:PO X lo tl)(hu:PO X hi th):PE X (.Subscript e (.Slice lo hi none p2) pos) (tSl r te tl th):=by
 k_ne;rwa[Subscript_ (dW (he pZ s σ H _ I h) λv s1 h9=>?_)];let#[x,H1,I1,r1,q1]:=h9;rwa[wpAny_Slice (dW (hl pZ s1 σ H1 _ I1 q1) λvl s2 h9=>?_)];let#[l,H2,I2,pl,q2]:=h9;rwa[dW (hu pZ s2 σ H2 _ I2 q2) λvu s3 h9=>?_]
 let#[u,H3,I3,pu,q3]:=h9;rw[evalPart_none]
 rwa[ax ?_];have I4:Inv X pZ σ H3 {s3 with heap:=s3.heap.push {cls:=.type "slice",data:=.fields (List.toArray [vl,vu,.none])} }:=I3.kept (t':=s3.toks) λb ob q=>aI _ q
 let#[T,id,hT,ht,hg]:=hr pZ {s3 with heap:=s3.heap.push {cls:=.type "slice",data:=.fields (List.toArray [vl,vu,.none])} } σ H3 x v vl vu l u s3.heap.objs.size Q I4 r1 (Heap.IsSliceOf.new ..) pl pu q3;show wpAny (bc X.prog X.w) X.A (ET e (.Slice lo hi none p2) v (.ref s3.heap.objs.size)) (EP X pZ σ Q) X.xe {s3 with heap:=s3.heap.push {cls:=.type "slice",data:=.fields (List.toArray [vl,vu,.none])} };erw[tail_any (ops:=[.ref s3.heap.objs.size,v]) ht hT hg (by with_unfolding_all rfl)]
def Av(xs:List V)(lo hi:Option Int):List V:=(xs.drop (HT.jr xs.length 0 lo)).take (HT.jr xs.length xs.length hi-HT.jr xs.length 0 lo)
theorem tL(xs:List V)(lo hi:Option Int):(Av xs lo hi).length<=xs.length:=by
 unfold Av;rw[dC,Kz]
 omega
def X8(K:aJ):V->Option Int->Option Int->Hp->VK->Prop:=λx lo hi H Q=>∃a xs,x=.ref a/\mq K H a xs /\
 ¬(HT.jr xs.length 0 lo=0/\HT.jr xs.length xs.length hi=xs.length)/\∀p,H p=none->Q (.ref p) (upd H p (.tup (Av xs lo hi)))
theorem Pz:Ue X (X8 X.K):=by
 intro pZ s σ H x v vl vu lo hi sl Q I rx hs pl pu h;let#[a,xs,rfl,hx,hw,q]:=h;cases rx;let#[its,r,ht,hz]:=I.tuple hx;have hlen:its.toArray.size=xs.length:=by rw[aG];erw[r.length.symm]
 refine#["tuple",_,iS.lookup,ht.typeIs,?_];rwa[HT.qZ ht hs pl pu (by rw[hlen];erw[hw]) ?_ (by rw[hlen];erw[hz])];rw[hlen]
 refine#[.ref s.heap.objs.size,_,I.laid (t':=s.toks) (o:=.tup (Av xs lo hi)) (λb ob q=>aI _ q) (aq _) ?_,rfl,q _ (I.dD.fresh (aq _))];exact#[aH (tL xs lo hi) hz,_,(r.drop (HT.jr xs.length 0 lo)).take (HT.jr xs.length xs.length hi-HT.jr xs.length 0 lo),GZ _ _]
def Ug(K:aJ):R2:=λx y H Q=>∃a b xs ys,x=.ref a/\y=.ref b/\mq K H a xs/\mq K H b ys/\xs≠[]/\xs.length+ys.length<=sizeLine /\
 (ys=[]->Q (.ref a) H)/\(ys≠[]->∀p,H p=none->Q (.ref p) (upd H p (.tup (xs++ys))))
theorem Vals.yu(r:Vals xs us):us=[]↔xs=[]:=by
 cases r with
 |nil=>simp
 |cons _ _=>simp
theorem LJ:gG X (cF .Add) (Ug X.K):=by
 x_go;let#[a,b,xs,ys,rfl,rfl,ha,hb,hx,hz,q1,q2]:=h;cases rx;cases ry;let#[its,r1,p1,_]:=I.tuple ha;let#[its2,r2,p2,_]:=I.tuple hb;rwa[HT.LF p1 p2 (λz=>hx (r1.yu.mp z)) (λz=>#[.ref a,H,I,rfl,q1 (r2.yu.mp z)]) (λz=>?_) (by rw[<-r1.length,<-r2.length];erw[hz])];refine#[.ref s.heap.objs.size,_,I.laid (t':=s.toks) (o:=.tup (xs++ys)) (λb ob q=>aI _ q) (aq _) ?_,rfl,q2 (λw=>z (r2.yu.mpr w)) _ (I.dD.fresh (aq _))];exact#[by rw[az];erw[hz],_,r1.append r2,GZ _ _]
end
noncomputable def PB(n:Nat)(i:Int):Option Nat:=if 0<=i then(if i<n then some i.toNat else none) else if -(n:Int)<=i then some (i+n).toNat else none
def PC{α:Type}(xs:List α)(i:Int):Option α:=(PB xs.length i).bind λj=>xs[j]?
theorem DK(h:PB n i=some j):seqIndex? i n=some j/\j<n/\-(n:Int)<=i/\i<n:=by
 unfold PB at h;by_cases h0:0<=i
 .rw[if_pos h0] at h
  by_cases h1:i<n
  .rw[if_pos h1] at h
   have e:i.toNat=j:=aF h;exact#[by rw[K6 h0 h1,e],∅,∅,h1]
  .rw[if_neg h1] at h;cases h
 .rw[if_neg h0] at h
  by_cases h1:-(n:Int)<=i
  .rw[if_pos h1] at h
   have e:(i+n).toNat=j:=aF h;exact#[by rw[G6 ∅ h1,e],∅,h1,∅]
  .rw[if_neg h1] at h;cases h
theorem yw{α:Type}{xs:List α}{i:Int}{v:α}(h:PC xs i=some v):∃j,seqIndex? i xs.length=some j/\xs[j]?=some v/\j<xs.length/\-(xs.length:Int)<=i/\i<xs.length:=by
 unfold PC at h;cases e:PB xs.length i with
 |none=>rw[e] at h;cases h
 |some j=>
  rw[e] at h;let#[h1,h2,h3,h4]:=DK e;exact#[j,h1,h,h2,h3,h4]
def DL(b:Expr):Prop:=∀o i,zL b false o i=operate [o,i] (oB o i)
def SJ(X:Cx)(r:R2):Prop:=
 ∀(value slice:Expr)(pZ:List (Addr×Obj))(s:aC)(σ:St)(H:Hp)(x y:V)(v u:Value)(Q:VK),Inv X pZ σ H s->RelV x v->RelV y u->r x y H Q ->
  zL slice false v u=operate [v,u] (oB v u)->wpAny (bc X.prog X.w) X.A (ET value slice v u) (EP X pZ σ Q) X.xe s
def Cp(X:Cx)(id:String)(r:V->List V->Hp->VK->Prop):Prop:=
 ∀(pZ:List (Addr×Obj))(s:aC)(σ:St)(H:Hp)(x:V)(xs:List V)(v:Value)(us:List Value)(Q:VK),Inv X pZ σ H s->RelV x v->Vals xs us->r x xs H Q ->
  wpAny (bc X.prog X.w) X.A (call (.builtin id) (v::us)) (EP X pZ σ Q) X.xe s
section
variable{X:Cx}{a b:Expr}{ta tb:TE}{pos:Pos}
theorem Uh(hr:SJ X r)(ha:PE X a ta)(hb:PE X b tb)(hs:DL b):PE X (.Subscript a b pos) (W8 r ta tb):=by
 k_ne;erw[Subscript_ (O9 ha hb I h λv u s2 x y H2 I2 rx ry q=>hr a b pZ s2 σ H2 x y v u Q I2 rx ry q (hs _ _))]
def X9(K:aJ):R2:=λx y H Q=>∃p xs i v,x=.ref p/\y=.int i/\iU K H p xs/\PC xs i=some v/\Q v H
def Ya(K:aJ):R2:=λx y H Q=>∃p xs i v,x=.ref p/\y=.int i/\mq K H p xs/\PC xs i=some v/\Q v H
def Yb:R2:=λx y H Q=>∃z i c,x=.str z/\y=.int i/\z.length<=sizeLine/\PC z.cps.toList i=some c/\Q (.str #[(List.toArray [c])]) H
theorem DM:SJ X (X9 X.K):=by
 intro value slice pZ s σ H x y v u Q I rx ry h hs;let#[p,xs,i,z,rfl,rfl,hq,he,q]:=h;cases rx;let#[t,rfl]:=ry;let#[its,r,pl,hz]:=I.list hq;let#[j,h1,h2,h3,h4,h5]:=yw he;let#[w,ew,rw']:=r.get h2;have hl:=r.length;have hn:=oJ;have fin:EP X pZ σ Q w s:=#[z,H,I,rw',q]
 by_cases h0:0<=i
 .have hj:i.toNat=j:=by
   rw[K6 h0 h5] at h1;erw[aF h1]
  exact item_listR pl.isList h0 ∅ (by rw[hj];simpa using ew) fin hs
 .have hj:(i+(its.toArray.size:Int)).toNat=j:=by
   rw[G6 ∅ h4] at h1;rw[aG,<-hl]
   erw[aF h1]
  exact G7 (x:=w) pl.isList.typeIs slot_list_getitem.lookup
   (wpAny_getItem_list_neg (Q:=λr s'=>r=w/\EP X pZ σ Q r s') pl.isList ∅ (by rw[aG]<;>omega) ∅ (by rw[hj];simpa using ew) #[rfl,fin]) hs
theorem PD:SJ X (Ya X.K):=by
 intro value slice pZ s σ H x y v u Q I rx ry h hs;let#[p,xs,i,z,rfl,rfl,hq,he,q]:=h;cases rx;let#[t,rfl]:=ry;let#[its,r,pl,hz]:=I.tuple hq;let#[j,h1,h2,h3,h4,h5]:=yw he;let#[w,ew,rw']:=r.get h2;have hl:=r.length;have hn:=oJ;have fin:EP X pZ σ Q w s:=#[z,H,I,rw',q]
 exact G7 (x:=w) pl.typeIs slot_tuple_getitem.lookup
  (getItem_tuple (j:=j) (Q:=λr s'=>r=w/\EP X pZ σ Q r s') pl ∅ ∅ (by rw[aG,<-hl];erw[h1]) (by simpa using ew) #[rfl,fin]) hs
theorem PF:SJ X Yb:=by
 intro value slice pZ s σ H x y v u Q I rx ry h hs;let#[z,i,c,rfl,rfl,hz,he,q]:=h;let#[t,rfl]:=rx;let#[t',rfl]:=ry;let#[j,h1,h2,h3,h4,h5]:=yw he;have hl:z.cps.toList.length=z.length:=by simp[G8]
 rw[hl] at h1 h4 h5;have hn:=oJ;exact tail_any (typeIs_str s z t) slot_str_getitem.lookup (getItem_str (c:=c) (by
  have e1:decide (i < -(2^63:Int))=false:=decide_eq_false ∅;have e2:decide (i≥2^63)=false:=decide_eq_false ∅;rw[e1,e2,Bool.or_false]) (by rw[h1];simpa using h2) #[.str #[(List.toArray [c])],H,I.tok _,#[_,rfl],q]) hs
theorem Cq(its:List Value)(n j:Nat)(u:Value):sv (·.setIfInBounds j u) {cls:=.type "list",data:=.seq its.toArray n}= {cls:=.type "list",data:=.seq (its.set j u).toArray n}:=by
 simp[sv]
theorem Inv.lst{pZ:List (Addr×Obj)}{σ:St}{H:Hp}{s:aC}{p:Addr}{xs:List V}(I:Inv X pZ σ H s)(h:H p=some (.lst xs)):
  ∃(its:List Value)(n:Nat),Vals xs its/\s.heap.get? p=some {cls:=.type "list",data:=.seq its.toArray n}/\xs.length<=sizeLine:=by
 let#[z,its,n,r,e]:=I.dD p _ h;exact#[its,n,r,e,z]
theorem Inv.PH{pZ:List (Addr×Obj)}{σ:St}{H:Hp}{s:aC}{p:Addr}{xs ys:List V}{its its':List Value}{n n':Nat}{f:Obj->Obj}(I:Inv X pZ σ H s)(h:H p=some (.lst xs))
  (ho:s.heap.get? p=some {cls:=.type "list",data:=.seq its.toArray n}) (hf:f {cls:=.type "list",data:=.seq its.toArray n}= {cls:=.type "list",data:=.seq its'.toArray n'}) (r:Vals ys its') (hz:ys.length<=sizeLine) (t:Nat):
  Inv X pZ σ (upd H p (.lst ys)) {s with heap:=s.heap.update p f,toks:=t}:=by
 have e:(s.heap.update p f).get? p=some {cls:=.type "list",data:=.seq its'.toArray n'}:=by
  rw[j8 f ho (by rw[hf]<;>rfl),hf]
 rwa[I.write (x:=p) (e:=p) (by rw[h];trivial) (.inl rfl) (λb u hb q=>(BF _ _ (cR hb)).trans q) #[_,e] ?_];exact#[hz,its',n',r,e]
def Ui:V->V->V->Hp->(Hp->Prop)->Prop:=λo i v H Q=>∃p xs k j,o=.ref p/\i=.int k/\H p=some (.lst xs)/\PB xs.length k=some j/\Q (upd H p (.lst (xs.set j v)))
theorem set_list:TJ X Ui:=by
 intro pZ s σ H o i v ov iv u Q I ro ri rv h;let#[p,xs,k,j,rfl,rfl,hp,hj,q]:=h;cases ro;let#[t,rfl]:=ri;let#[its,n,r,ho,hz]:=I.lst hp;let#[h1,h2,h3,h4]:=DK hj;have hl:=r.length;have hn:=oJ;have I':Inv X pZ σ (upd H p (.lst (xs.set j v))) {s with heap:=s.heap.update p (sv (·.setIfInBounds j u))}:=
  I.PH hp ho (Cq its n j u) (r.set rv j) (by rw[cu];erw[hz]) s.toks
 by_cases h0:0<=k
 .have hk:k.toNat=j:=by
   rw[K6 h0 h4] at h1;erw[aF h1]
  erw[PySem.W.ki_setAt ho h0 ∅ (by rw[aG,<-hl];exact h4) (by rw[hk];exact#[_,I',q])]
 .have hk:(k+(its.toArray.size:Int)).toNat=j:=by
   rw[G6 ∅ h3] at h1;rw[aG,<-hl]
   erw[aF h1]
  erw[PySem.W.ki_setBack ho ∅ (by rw[aG,<-hl];exact h3) ∅ (by rw[hk];exact#[_,I',q])]
theorem yx(lo hi:Option Int)(n:Nat):(lz lo hi none n).1=((HT.jr n 0 lo:Nat):Int)/\(lz lo hi none n).2.1=((HT.jr n n hi:Nat):Int)/\(lz lo hi none n).2.2=1:=by
 refine#[?_,?_,rfl]
 .cases lo with
  |none=>simp[lz,HT.jr]
  |some i=>
   dsimp[lz,HT.jr,mQ,show(1:Int)>0 by decide,if_true];by_cases h:i<0
   .dsimp[h,if_true]<;>omega
   .dsimp[h,if_false]<;>omega
 .cases hi with
  |none=>simp[lz,HT.jr]
  |some i=>
   dsimp[lz,HT.jr,mQ,show(1:Int)>0 by decide,if_true];by_cases h:i<0
   .dsimp[h,if_true]<;>omega
   .dsimp[h,if_false]<;>omega
theorem wu(its:List Value)(lo hi:Option Int):slicePick its.toArray lo hi none=((its.drop (HT.jr its.length 0 lo)).take (HT.jr its.length its.length hi-HT.jr its.length 0 lo)).toArray:=by
 let#[h1,h2,h3]:=yx lo hi its.toArray.size;unfold slicePick;rw[h1,h2,h3]
 dsimp[sliceRange_one,pick_run,aG]<;>rfl
def Yc(K:aJ):V->Option Int->Option Int->Hp->VK->Prop:=λx lo hi H Q=>∃a xs,x=.ref a/\iU K H a xs/\∀p,H p=none->Q (.ref p) (upd H p (.lst (Av xs lo hi)))
theorem LK:Ue X (Yc X.K):=by
 intro pZ s σ H x v vl vu lo hi sl Q I rx hs pl pu h;let#[a,xs,rfl,hx,q]:=h;cases rx;let#[its,r,ht,hz]:=I.list hx;have hlen:=r.length;refine#["list",_,slot_list_getitem.lookup,ht.isList.typeIs,?_];refine wpAny_getItem_list_slice ht.isList hs pl pu .none (by simp) ?_ (by rw[aG]<;>omega);rw[wu,<-hlen]
 refine#[.ref s.heap.objs.size,_,I.laid (t':=s.toks) (o:=.lst (Av xs lo hi)) (λb ob q=>aI _ q) (aq _) ?_,rfl,q _ (I.dD.fresh (aq _))];exact#[aH (tL xs lo hi) hz,_,0,(r.drop (HT.jr xs.length 0 lo)).take (HT.jr xs.length xs.length hi-HT.jr xs.length 0 lo),bb _ rfl]
noncomputable def pY:V->Bool
 |.bV=>true
 |.bl _=>true
 |.int _=>true
 |.str _=>true
 |_=>false
noncomputable def LL:V->V->Bool
 |.bV,.bV=>true
 |.bl a,.bl b=>a==b
 |.bl a,.int b=>(if a then 1 else 0)== b
 |.int a,.bl b=>a==(if b then 1 else 0)
 |.int a,.int b=>a==b
 |.str a,.str b=>a==b
 |_,_=>false
theorem PJ(ry:RelV y u)(rx:RelV x v)(fy:pY y=true)(fx:pY x=true):wg A s u v (LL y x):=by
 cases y with
 |bV=>
  cases ry;cases x with
  |bV=>cases rx;erw[jJ _]
  |bl b=>cases rx;erw[wL b]
  |int b=>let#[t,rfl]:=rx;erw[oz b t]
  |str b=>let#[t,rfl]:=rx;erw[oA b t]
  |_=>erw[absurd (show false=true from fx) aV]
 |bl a=>
  cases ry;cases x with
  |bV=>cases rx;erw[wM a]
  |bl b=>cases rx;erw[wN a b]
  |int b=>let#[t,rfl]:=rx;erw[ye a b t]
  |str b=>let#[t,rfl]:=rx;erw[yf a b t]
  |_=>erw[absurd (show false=true from fx) aV]
 |int a=>
  let#[t',rfl]:=ry;cases x with
  |bV=>cases rx;erw[ox a t']
  |bl b=>cases rx;erw[yg a t' b]
  |int b=>let#[t,rfl]:=rx;erw[zM a t' b t]
  |str b=>let#[t,rfl]:=rx;erw[oX a t' b t]
  |_=>erw[absurd (show false=true from fx) aV]
 |str a=>
  let#[t',rfl]:=ry;cases x with
  |bV=>cases rx;erw[oy a t']
  |bl b=>cases rx;erw[yh a t' b]
  |int b=>let#[t,rfl]:=rx;erw[oY a t' b t]
  |str b=>let#[t,rfl]:=rx;erw[zN a t' b t]
  |_=>erw[absurd (show false=true from fx) aV]
 |_=>erw[absurd (show false=true from fy) aV]
def Cr(x:V)(u:Value):Bool:=match u with
 |.none=>LL .bV x
 |.bool b=>LL (.bl b) x
 |.int i _=>LL (.int i) x
 |.str z _=>LL (.str z) x
 |_=>false
theorem HH(r:RelV y u)(f:pY y=true):Cr x u=LL y x:=by
 cases y with
 |bV=>cases r;rfl
 |bl b=>cases r;rfl
 |int i=>let#[t,rfl]:=r;rfl
 |str z=>let#[t,rfl]:=r;rfl
 |_=>erw[absurd (show false=true from f) aV]
theorem rf:∀{xs:List V}{us:List Value},Vals xs us->xs.all pY=true->us.any (Cr x)=xs.any λy=>LL y x
 |_,_,.nil,_=>rfl
 |y::xs,u::us,.cons r t,f=>by
  rw[bQ,aj] at f;rw[cJ,cJ,HH r f.1,rf t f.2]
theorem oK(rx:RelV x v)(fx:pY x=true):∀{xs:List V}{us:List Value},Vals xs us->xs.all pY=true->∀u∈us,wg A s u v (Cr x u)
 |_,_,.nil,_=>λu hu=>by cases hu
 |y::xs,u::us,.cons r t,f=>λu' hu=>by
  rw[bQ,aj] at f;rcases aR.mp hu with rfl|hu
  .rw[HH r f.1];erw[PJ r rx f.1 fx]
  .erw[oK rx fx t f.2 u' hu]
def W9(x:V)(xs:List V):Bool:=xs.any λy=>LL y x
def ZX(K:aJ)(neg:Bool):R2:=λx y H Q=>∃p xs,y=.ref p/\(iU K H p xs\/mq K H p xs)/\pY x=true/\xs.all pY=true/\Q (.bl (if neg then !W9 x xs else W9 x xs)) H
theorem xk:gG X (bF .In) (ZX X.K false):=by
 x_go;let#[p,xs,rfl,hq,fx,fs,q]:=h;cases ry;rcases hq with hq|hq
 .let#[its,r,pl,hz]:=I.list hq
  refine SeqAt.in_listAt (Cr x) pl.isList (λw hw=>oK rx fx r fs w (by simpa using hw)) #[.bl _,H,I,rfl,?_];rw[show its.toArray.any (Cr x)=its.any (Cr x) by simp,rf r fs]
  erw[q]
 .let#[its,r,pl,hz]:=I.tuple hq
  refine SeqAt.in_tupleAt (Cr x) pl (λw hw=>oK rx fx r fs w (by simpa using hw)) #[.bl _,H,I,rfl,?_];rw[show its.toArray.any (Cr x)=its.any (Cr x) by simp,rf r fs]
  erw[q]
theorem rg:gG X (bF .NotIn) (ZX X.K true):=by
 x_go;let#[p,xs,rfl,hq,fx,fs,q]:=h;cases ry;rcases hq with hq|hq
 .let#[its,r,pl,hz]:=I.list hq
  refine EU (Cr x) pl.isList (λw hw=>oK rx fx r fs w (by simpa using hw)) #[.bl _,H,I,rfl,?_];rw[show its.toArray.any (Cr x)=its.any (Cr x) by simp,rf r fs]
  erw[q]
 .let#[its,r,pl,hz]:=I.tuple hq
  refine SeqAt.notIn_tupleAt (Cr x) pl (λw hw=>oK rx fx r fs w (by simpa using hw)) #[.bl _,H,I,rfl,?_];rw[show its.toArray.any (Cr x)=its.any (Cr x) by simp,rf r fs]
  erw[q]
theorem yy:gG X (bF .NotIn) (λx y H Q=>∃i j,x=.str i/\y=.str j/\Q (.bl (!(!(Builtin.Str.occurrences j i 0 j.length 1).isEmpty))) H):=by
 x_go;let#[i,j,rfl,rfl,q]:=h;let#[t,rfl]:=rx;let#[t',rfl]:=ry;erw[notIn_str #[.bl _,H,I,rfl,q]]
theorem rh:gv X (.type "list") (λxs H Q=>∃p ys,xs=[.ref p]/\(iU X.K H p ys\/mq X.K H p ys)/\∀l,H l=none->Q (.ref l) (upd H l (.lst ys))):=by
 w_up;let#[p,ys,rfl,hq,q]:=h;let#[u,rfl,rx]:=vals1 r;cases rx;have fin:∀(its:List Value),Vals ys its->ys.length<=sizeLine->∀(h':Heap)(c':Nat),(∀b o',s.heap.get? b=some o'->h'.get? b=some o') ->
   h'.get? s.heap.objs.size=some {cls:=.type "list",dict:=none,data:=.seq its.toArray c',slots:=#[]}->EP X pZ σ Q (.ref s.heap.objs.size) {s with heap:=h'}:=λits r' hz h' c' kp e=>
  #[.ref s.heap.objs.size,_,I.laid (t':=s.toks) kp (aq _) (show dH X.prog X.w _ h' _ (.lst ys) from #[hz,its,c',r',e]),rfl,q _ (I.dD.fresh (aq _))]
 rcases hq with hq|hq
 .let#[its,r',pl,hz]:=I.list hq
  have hlen:=r'.length;let#[o,ho,hc,n,hd]:=pl.isList;exact call_list_seq p (.inl rfl) ho hc hd (λh' c' kp e=>fin its r' hz h' c' kp e) (by dsimp[aG]<;>omega)
 .let#[its,r',pl,hz]:=I.tuple hq
  have hlen:=r'.length;let#[o,ho,hc,n,hd]:=pl;exact call_list_seq p (.inr rfl) ho hc hd (λh' c' kp e=>fin its r' hz h' c' kp e) (by dsimp[aG]<;>omega)
theorem wx:gv X (.type "tuple") (λxs H Q=>∃p ys,xs=[.ref p]/\((iU X.K H p ys/\∀l,H l=none->Q (.ref l) (upd H l (.tup ys)))\/(mq X.K H p ys/\Q (.ref p) H))):=by
 w_up;let#[p,ys,rfl,h]:=h;let#[u,rfl,rx]:=vals1 r;cases rx;rcases h with⟨hq,q⟩|⟨hq,q⟩
 .let#[its,r',pl,hz]:=I.list hq
  have hlen:=r'.length;refine call_tuple_list pl.isList (λh' kp=>?_) (by dsimp[aG]<;>omega);have I1:Inv X pZ σ H {s with heap:=h'}:=I.kept (t':=s.toks) kp;have I2:Inv X pZ σ (upd H h'.objs.size (.tup ys)) {s with heap:=h'.push {cls:=.type "tuple",data:=.seq its.toArray} }:=
   I1.laid (t':=s.toks) (λb o e=>aI _ e) (aq _) (show dH X.prog X.w _ _ _ (.tup ys) from #[hz,its,r',GZ _ _])
  exact#[.ref h'.objs.size,_,I2,rfl,q _ (I1.dD.fresh (aq _))]
 .let#[its,r',pl,hz]:=I.tuple hq
  erw[call_tuple_same pl #[.ref p,H,I,rfl,q]]
def Xa(K:aJ)(T:String)(x:V)(H:Hp):Prop:=match x with
 |.str _=>T="str"
 |.int _=>T="int"
 |.ref p=>(T="list"/\∃xs,iU K H p xs)\/(T="tuple"/\∃o,K.lookup p=some o/\o.cls=.type "tuple"/\o.dict=none) \/
   (T="dict"/\((∃kvs,H p=some (.dK kvs))\/(∃kvs,H p=some (.dT kvs))\/∃kvs,H p=some (.dP kvs)))\/(T="set"/\∃S n,H p=some (.set S n))
 |_=>False
theorem HI(I:Inv X pZ σ H s)(r:RelV x v)(ty:Xa X.K T x H):
  s.TypeIs v T/\∀a,v=.ref a->∃ob,s.heap.get? a=some ob/\ob.dict=none:=by
 cases x with
 |str z=>
  let#[t,rfl]:=r;cases (show T="str" from ty);exact#[typeIs_str s z t,λ_ e=>nomatch e]
 |int i=>
  let#[t,rfl]:=r;cases (show T="int" from ty);exact#[typeIs_int s i t,λ_ e=>nomatch e]
 |ref p=>
  cases r;rcases ty with⟨rfl,xs,hq⟩|⟨rfl,o,hk,hc,hd⟩|⟨rfl,hk⟩|⟨rfl,S,n,hk⟩
  .let#[its,_,pl,_]:=I.list hq
   refine#[pl.isList.typeIs,λa e=>?_];cases e;let#[o,n,e,c,hd,_]:=pl;exact#[o,e,hd]
  .refine#[#[o,I.yo p o hk,hc],λa e=>?_]
   cases e;exact#[o,I.yo _ o hk,hd]
  .have z:∃o,s.heap.get? p=some o/\o.ExactDict:=by
    rcases hk with⟨kvs,hk⟩|⟨kvs,hk⟩|⟨kvs,hk⟩<;>(obtain⟨_,_,_,_,o,_,_,e,ex,_⟩:=I.dD p _ hk;exact#[o,e,ex])
   let#[o,e,ex]:=z;refine#[#[o,e,ex.1],λa e2=>?_];cases e2;exact#[o,e,ex.2.1]
  .let#[o,_,_,_,e,ex,_]:=I.dD p _ hk
   refine#[#[o,e,ex.1],λa e2=>?_];cases e2;exact#[o,e,ex.2.1]
 |_=>erw[aT ty]
def Yd(K:aJ)(T:String)(r:V->List V->Hp->VK->Prop)(to:TE):TE:=λσ H Q=>to σ H λx H1=>Xa K T x H1/\r x [] H1 Q
def ZY(K:aJ)(T:String)(r:V->List V->Hp->VK->Prop)(to:TE)(t:TA):TE:=λσ H Q=>to σ H λx H1=>Xa K T x H1/\t σ H1 λxs H2=>r x xs H2 Q
variable{o e:Expr}{es:List Expr}{to:TE}{t:TA}{name:Str}{apos cpos:Pos}{T id:String}{r:V->List V->Hp->VK->Prop}
theorem HJ(pa:PlainAttrs T)(slot:Slot T name id)(hty:typeOf (.builtin id)=pure (.type "method_descriptor"))(hm:Cp X id r)(ho:PE X o to)
  (hbase:ij o name X.env (eval o X.env)=eval o X.env:=by rfl) (hline:(apos.endLine==cpos.line)=true:=by rfl):PE X (.Call (.Attribute o name apos) [] [] cpos) (Yd X.K T r to):=by
 k_ne;rwa[wpAny_Call_method0_late hbase hline (dW (ho pZ s σ H _ I h) λv s1 h9=>?_)];let#[x,H1,I1,r1,ty,q1]:=h9;let#[h1,h2]:=HI I1 r1 ty;exact#[T,id,pa,slot,hty,h1,h2,jm rfl (PySem.evalArgs_none (hm pZ s1 σ H1 x [] v [] Q I1 r1 .nil q1))]
theorem xm(pa:PlainAttrs T)(slot:Slot T name id)(hty:typeOf (.builtin id)=pure (.type "method_descriptor"))(hm:Cp X id r)(ho:PE X o to)(ha:PA X (e::es) t)
  (hbase:ij o name X.env (eval o X.env)=eval o X.env:=by rfl)
  (hfew:((eJ cpos (bx (e::es) X.env)).all (λx=>!x.1)&&(backToKw cpos (eO [] X.env)).all (λx=>x.1.isSome)
   && decide ((e::es).length+([]:List oC).length+(if ([]:List oC).isEmpty then 0 else 1)<30))=true:=by rfl)
  (hline:(apos.endLine==cpos.line)=true:=by rfl) (hs:bx (e::es) X.env=(false,eval e X.env)::bx es X.env:=by rfl) (hplain:(eJ cpos (bx es X.env)).any (·.1)=false:=by rfl):
  PE X (.Call (.Attribute o name apos) (e::es) [] cpos) (ZY X.K T r to t):=by
 k_ne;refine wpAny_Call_method_late hbase hfew hline rfl (dW (ho pZ s σ H _ I h) λv s1 h9=>?_);let#[x,H1,I1,r1,ty,q1]:=h9;let#[h1,h2]:=HI I1 r1 ty;refine#[T,id,pa,slot,hty,h1,h2,?_];have hA:=ha cpos pZ s1 σ H1 _ I1 q1;rw[hs] at hA ⊢;refine jm (by show(false||(eJ cpos (bx es X.env)).any (·.1))=false;rw[hplain]<;>rfl) (pR ?_);refine dW hA λus s2 h9=>?_
 let#[vs,H2,I2,r2,q2]:=h9;erw[hm pZ s2 σ H2 x vs v us Q I2 r1 r2 q2]
end
def ZZ(X:Cx)(id:String)(r:V->List V->Hp->VK->Prop):Prop:=
 ∀(pZ:List (Addr×Obj))(s:aC)(σ:St)(H:Hp)(x:V)(xs:List V)(v:Value)(us:List Value)(Q:VK),Inv X pZ σ H s->RelV x v->Vals xs us->r x xs H Q ->
  wpAny (bc X.prog X.w) X.A (call (.builtin id) (v::us)) (EP X pZ σ Q) X.xe s
theorem Vals.one:∀{x:V}{us:List Value},Vals [x] us->∃u,us=[u]/\RelV x u
 := by
 intro _ _ h;cases h with|cons r q=>cases q;exact#[_,rfl,r]
theorem Vals.two:∀{x y:V}{us:List Value},Vals [x,y] us->∃u v,us=[u,v]/\RelV x u/\RelV y v
 := by
 intro _ _ _ h;cases h with|cons r q=>cases q with|cons q q'=>cases q';exact#[_,_,rfl,r,q]
section
variable{X:Cx}{pZ:List (Addr×Obj)}{σ:St}{H:Hp}{s:aC}{l b:Addr}{xs ys zs:List V}
theorem Inv.Uj{its its':List Value}{n:Nat}{f:Array Value->Array Value}{t':Nat}(I:Inv X pZ σ H s)(hH:H l=some (.lst xs))
  (e:s.heap.get? l=some {cls:=.type "list",data:=.seq its.toArray n}) (hf:f its.toArray=its'.toArray) (hv:Vals ys its') (hz:ys.length<=sizeLine):
  Inv X pZ σ (upd H l (.lst ys)) {s with heap:=s.heap.update l (sv f),toks:=t'}:=by
 have q:=PySem.IsL.update e f;rw[hf] at q;rwa[I.write (x:=l) (e:=l) (by rw[hH];erw[trivial]) (.inl rfl) (λb' u hb hu=>(BF s.heap (sv f) (cR hb)).trans hu) #[_,q] ?_];exact#[hz,its',_,hv,q]
theorem Inv.Uk(I:Inv X pZ σ H s)(hv:Vals ys its)(hz:ys.length<=sizeLine):
  Inv X pZ σ (upd H s.heap.objs.size (.lst ys)) {s with heap:=s.heap.push {cls:=.type "list",data:=.seq its.toArray},toks:=t'}:=
 I.laid (λ_ _ q=>aI _ q) (aq _) #[hz,its,0,hv,bb _ rfl]
theorem Inv.fresh(I:Inv X pZ σ H s):H s.heap.objs.size=none:=I.dD.fresh (aq _)
theorem Inv.Fo(I:Inv X pZ σ H s)(hH:H l=some (.lst xs)):xs.length<=sizeLine/\∃(its:List Value)(n:Nat),Vals xs its/\xs.length=its.length/\s.heap.get? l=some {cls:=.type "list",data:=.seq its.toArray n}:=by
 let#[z,its,n,r,e]:=I.dD l _ hH;exact#[z,its,n,r,r.length,e]
theorem HK(h:n<=sizeLine):Builtin.List.listTooLong n=false:=by
 unfold Builtin.List.listTooLong;erw[decide_eq_false ∅]
end
section
variable{X:Cx}
def LM:V->List V->Hp->VK->Prop:=λx vs H Q=>∃l xs y,x=.ref l/\vs=[y]/\H l=some (.lst xs)/\xs.length<sizeLine/\Q .bV (upd H l (.lst (xs++[y])))
theorem sG:ZZ X "list.append" LM:=by
 intro pZ s σ H x vs v us Q I rx rv h;let#[l,xs,y,rfl,rfl,hH,hz,q]:=h;cases rx;let#[u,rfl,ru]:=rv.one;let#[z,its,n,r,hl,e]:=I.Fo hH;rwa[call_meets F.slot_list_append #[_,e,rfl] F.entry_list_append (F.args_list_append_2 _ _) (PySem.list_append l its.toArray n u (by rw[aG];omega)) #[e,?_]];refine#[.bV,_,I.Uj (its':=its++[u]) hH e (by simp) (r.append (.cons ru .nil)) ?_,rfl,q];rw[az,gC]
 omega
def LN:V->List V->Hp->VK->Prop:=λx vs H Q=>∃l b xs zs,x=.ref l/\vs=[.ref b]/\H l=some (.lst xs)/\H b=some (.lst zs)/\xs.length+zs.length<=sizeLine/\Q .bV (upd H l (.lst (xs++zs)))
theorem xn:ZZ X "list.extend" LN:=by
 intro pZ s σ H x vs v us Q I rx rv h;let#[l,b,xs,zs,rfl,rfl,hH,hB,hz,q]:=h;cases rx;let#[u,rfl,ru]:=rv.one;cases ru;let#[z,its,n,r,hl,e]:=I.Fo hH;let#[z2,its2,n2,r2,hl2,e2]:=I.Fo hB;have hsz:its.toArray.size+its2.toArray.size<=sizeLine:=by rw[aG,aG];omega
 have hlong:¬(!its.toArray.isEmpty&&Builtin.List.listTooLong (its.toArray.size+its2.toArray.size))=true:=by
  rw[HK hsz,Bool.and_false]
  erw[aV]
 refine call_meets F.slot_list_extend #[_,e,rfl] F.entry_list_extend (F.args_list_extend_2 _ _)
  (AutoSeq1.list_extend_list_list_0 l its.toArray n b its2.toArray n2 hlong (by rw[aG];omega) ∅) #[e,e2,?_]
 refine#[.bV,_,I.Uj (its':=its++its2) hH e (by simp) (r.append r2) ?_,rfl,q];rw[az]
 omega
def Ye:R2:=λx y H Q=>∃l b xs zs,x=.ref l/\y=.ref b/\H l=some (.lst xs)/\H b=some (.lst zs)/\xs.length+zs.length<=sizeLine/\∀p,H p=none->Q (.ref p) (upd H p (.lst (xs++zs)))
theorem PK:gG X (cF .Add) Ye:=by
 x_go;let#[l,b,xs,zs,rfl,rfl,hH,hB,hz,q]:=h;cases rx;cases ry;let#[z,its,n,r,hl,e]:=I.Fo hH;let#[z2,its2,n2,r2,hl2,e2]:=I.Fo hB;rwa[PySem.P.add_list e e2 ?_ (by rw[aG,aG];omega)];have ea:its.toArray++its2.toArray=(its++its2).toArray:=by simp
 rw[ea]
 exact#[.ref _,_,I.Uk (t':=s.toks) (r.append r2) (by rw[az];omega),rfl,q _ I.fresh]
end
end L2
namespace Z3
open PySem PySem.W PySem.Calls PyProof.Rows
theorem ub:∀(ns:List Int)(vs:List Value),WellAll P h vs (ns.map WData.int)->G9 vs ns:=by
 intro ns;induction ns with
 |nil=>
  intro vs w;rw[jv] at w;cases w;erw[.nil]
 |cons n ns ih=>
  intro vs w;rw[ay] at w;cases w with
  |cons a b=>
   cases a;erw[.cons _ _ (ih _ b)]
theorem Fp{l:Ha}{n:Nat}(hn:l.most=some n){P:Params}{h:Heap}{args:List WData}{vals:List Value}
  (hpre:l.row.toRowW.claim.pre args=true) (hwl:WellAll P h vals args):
  ∃a vs ns,vals=[bj a]/\args=[WData.list (ns.map WData.int)]/\h.get? a=some {cls:=.type "list",data:=.seq vs.toArray}/\G9 vs ns/\ns.length<=n:=by
 have hsh:WShape.hasAll [] args [.list .int]=true:=(pre_splitW hpre).1;have hc:l.pre.holds [] {args:=args}= true:=(pre_splitW hpre).2;let#[d,r,rfl,h1,h2]:=hasAllW_cons hsh;obtain rfl:=hasAllW_nil h2;let#[xs,rfl,h3]:=hasW_list h1;let#[ns,rfl]:=items_int h3;have hlen:ns.length<=n:=by
  unfold OpenLaw.pre at hc;have h4:(WTm.not (.lt (.lit (.int (n:Int))) (.len (.arg 0)))).holds [] {args:=[.list (ns.map .int)]}= true:=by
   have h4:=(holds_andW hc).1;rw[hn] at h4;erw[h4]
  have h5:=condW_of h4 (w_not (w_lt w_lit (w_len_list (w_arg rfl))));rw[ak] at h5;rwa[fM λq=>?_]
  have q':(n:Int)<((ns.length:Nat):Int):=∅
  first
   | (rw[decide_eq_true q'] at h5;erw[absurd h5 ⋯])
   | (simp at h5;omega)
 cases hwl with
 |cons w1 w2=>
  cases w2;cases w1 with
  |list ho hall=>exact#[_,_,ns,rfl,rfl,ho,ub ns _ hall,hlen]
theorem Fq(l:Ha)(args:List WData):l.row.toRowW.claim.post args (.bool true) args=true:=
 postW_of (r:=l.row.toRowW) (X:=(true==true))
  (show WShape.has [] (.bool true) .bool=true by first|rfl|decide|simp[WShape.has,WShape.arms,WShape.armsAll])
  (show(WTm.eq .res (.lit (.bool true))).value [] {args:=args,res:=some (.bool true),after:=args}= some (.bool (true==true)) from w_eq_bool (w_res rfl) w_lit) rfl
theorem Aw{l:Ha}{n:Nat}{q:bO}{loose:List Str}{XP:(Str->Option Value)->Heap->Prop}{YP:cy->Heap->Prop}{d:DefRec}
  (hn:l.most=some n) (hdf:d.params.defaults=[])
  (call:∀(w:cy)(s₀ s₁:aC)(mg mb:Str->Option Value)(fa:Addr)(o:Obj)(pm cd doc:Value)(a:Addr)(vs:List Value)(ns:List Int),
   Ground q loose [] XP w s₀ mg mb s₁.heap->YP w s₁.heap ->
   s₁.heap.get? fa=some o->o.data=.func (docDef d.name d.params d.body d.scope pm cd doc)->s₁.heap.CodeRec cd d.name->mg d.name=some (.ref fa) ->
   s₁.heap.get? a=some {cls:=.type "list",data:=.seq vs.toArray}->G9 vs ns->ns.length<=n->s₁.gens = #[] ->
   qj (bc l.prog w) wj (.call (.ref fa) #[[.ref a],[]]) (λr s'=>r=.ok (.ret (.bool true))/\OldK s₁.heap s'.heap/\s'.os=s₁.os/\qg s'.gens) s₁):
  WalkO q loose XP YP l.row.toRowW d [] (λf vs=>EV f vs):=by
 intro w s₀ s₁ mg mb G Y fa o pm cd doc dV kV ho hd hcd hD hmg hg args vals as hpre hlay hrd hwl hlo;obtain rfl:dV=.none:=Dflts.none hD hdf;obtain rfl:kV=.none:=Dflts.noKw hD;let#[a,vs,ns,rfl,rfl,hobj,hints,hlen]:=Fp hn hpre hwl;rwa[enter_call (we (call w s₀ s₁ mg mb fa o pm cd doc a vs ns G Y ho (fd_plain hd) hcd hmg hobj hints hlen hg) λr s' hq=>?_)];let#[rfl,h2,h3,h4]:=hq;exact#[.inl #[.bool true,.bool true,[],rfl,λ_=>rfl,.bool true,Fq l _,λ_=>#[wO,λ_ hm=>(nomatch hm)]],h2,h3,h4]
end Z3
namespace L2
open PySem PySem.Spec PyProof.Rows
theorem xo:∀{vs:List Value}{ns:List Int},G9 vs ns->Vals (ns.map V.int) vs
 |_,_,.nil=>.nil
 |_,_,.cons n t h=>.cons #[t,rfl] (xo h)
def LO(H:Hp):Prop:=∀b,H b=none\/∃o xs,H b=some (.sk o (.lst xs))
theorem HL{P:bO}{w:cy}{K:aJ}{mg mb:Str->Option Value}{CX:GK}{k:Nat}{fa a:Addr}{fd:fF}{x:Str}{sp:Sp}{s₁:aC}{vs:List Value}{ns:List Int}
  (KX:K.In s₁.heap) (hns:s₁.heap.Ns bI mg) (hb:s₁.heap.Ns BU mb) (hbb:∀x:Str,x≠"__name__"->mb x=kg x) (hlim:s₁.heap.NoLimit) (hg:s₁.gens = #[])
  (ha:s₁.heap.get? a=some {cls:=.type "list",data:=.seq vs.toArray}) (hi:G9 vs ns) (hl:ns.length<=sizeLine) (hr:jo k wj)
  (F:∀base:Heap,K.In base->base.Ns bI mg->jq P w K mg base CX k fa fd [x] sp) (hbind:∀(s:aC)(u:Value),BE s fd #[[u],[]] [(x,u)])
  (hsp:∀H:Hp,LO H->iU K H a (ns.map V.int)->sp [.ref a] H (λv _=>v=.bl true) λ_ _ _=>False)
  (hCX:∀H e s',CX [] H s₁ (λ_ _ _=>False) e s'->False):
  qj (bc P w) wj (.call (.ref fa) #[[.ref a],[]]) (λr s'=>r=.ok (.ret (.bool true))/\OldK s₁.heap s'.heap/\s'.os=s₁.os/\qg s'.gens) s₁:=by
 have rv:=xo hi;have lenV:=hi.length;have core:∀H:Hp,LO H->iU K H a (ns.map V.int)->pU P w H s₁.heap->(∀b,H b≠none->b=a)->(H a≠none->K.lookup a=none) ->
   qj (bc P w) wj (.call (.ref fa) #[[.ref a],[]]) (λr s'=>r=.ok (.ret (.bool true))/\OldK s₁.heap s'.heap/\s'.os=s₁.os/\qg s'.gens) s₁:=by
  intro H hO hS dD hA hK;have fN:∀{b:Addr}{o:Obj},s₁.heap.get? b=some o->H b=none->(yn s₁.heap H).get? b=some o:=λe n=>Hk e n
  have noA:∀{b:Addr}{o:Obj}{es:Array pS}{ep:Nat},s₁.heap.get? b=some o->o.data=.dict es ep->H b=none:=λ{b o es ep}e d=>by
   cases q:H b with
   |none=>rfl
   |some u=>
    have e':b=a:=hA b (by rw[q];simp);subst e';rw[ha] at e;cases e;have d':Data.seq vs.toArray _=Data.dict es ep:=d;cases d'
  have nsK:∀{b:Addr}{m:Str->Option Value},s₁.heap.Ns b m->(yn s₁.heap H).Ns b m:=λ{b m} ⟨o,es,ep,e,d,r⟩=>#[o,es,ep,fN e (noA e d),d,r]
  have hKb:K.In (yn s₁.heap H):=λb o e=>fN (KX b o e) (by
   cases q:H b with
   |none=>rfl
   |some u=>
    have e':b=a:=hA b (by rw[q];simp);subst e';rw[hK (by rw[q];simp)] at e;cases e)
  have hM:Mod K mg (yn s₁.heap H):=#[hKb,nsK hns,#[mb,nsK hb,hbb],let ⟨mc,h1,h2⟩:=hlim;#[mc,nsK h1,h2]]
  have e0:Ck P w K mg (yn s₁.heap H) wj [] s₁ H:=#[rfl,hM,λb o e=>Le e,BV (Fc _ _),trivial,λb hb=>absurd (show b∈([]:List Addr) from hb) (by simp),dD,.of_eq hg]
  rwa[we ((F _ hKb (nsK hns)).run wj [] s₁ H #[[.ref a],[]] [.ref a] [.ref a] _ _ hr e0 (hbind s₁ (.ref a)) (.cons rfl .nil) (hsp H hO hS)) λr s' h=>?_]
  cases r with
  |error e=>exact(hCX H e s' h).elim
  |ok fl=>
   cases fl with
   |next=>erw[aT h]
   |brk=>erw[aT h]
   |cont=>erw[aT h]
   |ret u=>
    let#[v,H',os,bare,un,hok',r',q]:=h;have q':v=.bl true:=q;subst q';obtain rfl:u=j7 true:=r';refine#[rfl,OldK.of_keep λb o e=>?_,os,bare];cases q:H b with
    |none=>erw[un.keep b o e q (by intro z;exact absurd (show b∈([]:List Addr) from z) (by simp)) (by simp)]
    |some u=>
     rcases hO b with z|⟨ob,xs,z⟩
     .rw[q] at z;cases z
     .have z2:=un.ym b ob _ z
      let#[e1,_]:=dD b _ z;let#[e2,_]:=hok' b _ z2;rw[e] at e1;cases e1;erw[e2]
 cases hk:K.lookup a with
 |some o=>
  have e:=KX a o hk;rw[ha] at e;cases e;refine core (λ_=>none) (λ_=>.inl rfl) (.inr #[_,vs.toArray,_,hk,rfl,rfl,rfl,by rw[aG,lenV];erw[hl],by simpa using rv]) (λb u z=>by have z':(none:Option HO)=some u:=z;cases z') (λb z=>absurd rfl z) λz=>absurd rfl z
 |none=>
  rwa[core (λb=>if b=a then some (.sk {cls:=.type "list",data:=.seq vs.toArray} (.lst (ns.map V.int))) else none) (λb=>?_) (.inl (.inr #[{cls:=.type "list",data:=.seq vs.toArray},if_pos rfl])) (λb u z=>?_) (λb z=>?_) λ_=>hk]
  .by_cases hb:b=a
   .erw[.inr #[_,_,if_pos hb]]
   .erw[.inl (if_neg hb)]
  .by_cases hb:b=a
   .have z':=(if_pos hb).symm.trans z
    cases z';subst hb;exact#[ha,by rw[ak];erw[hl],vs,_,rv,ha]
   .have z':=(if_neg hb).symm.trans z
    cases z'
  .by_cases hb:b=a
   .erw[hb]
   .erw[absurd (if_neg hb) z]
theorem LP{l:PySem.W.OpenLaw}{n k:Nat}{q:bO}{loose:List Str}{XP:(Str->Option Value)->Heap->Prop}{YP:cy->Heap->Prop}{d:DefRec}{K:Params->aJ}{CX:cy->GK}{sp:cy->Sp}{x:Str}
  (hn:l.most=some n) (hn2:n<=sizeLine) (hdf:d.params.defaults=[]) (hr:jo k wj)
  (hY:∀(w:cy)(h:Heap),YP w h->(K w.params).In h)
  (F:∀(w:cy)(mg:Str->Option Value)(fa:Addr)(h:Heap),(K w.params).In h->h.Ns bI mg->mg d.name=some (.ref fa) ->
   ∃fd:fF,(∀(s:aC)(u:Value),BE s fd #[[u],[]] [(x,u)]) /\
    ∀base:Heap,(K w.params).In base->base.Ns bI mg->jq l.prog w (K w.params) mg base (CX w) k fa fd [x] (sp w))
  (hsp:∀(w:cy)(H:Hp)(a:Addr)(ns:List Int),ns.length<=n->LO H->iU (K w.params) H a (ns.map V.int)->sp w [.ref a] H (λv _=>v=.bl true) λ_ _ _=>False)
  (hCX:∀(w:cy)(H:Hp)(s:aC)(e:Value)(s':aC),CX w [] H s (λ_ _ _=>False) e s'->False):
  PySem.W.WalkO q loose XP YP l.row.toRowW d [] (λf vs=>EV f vs):=by
 rwa[Z3.Aw hn hdf λw s₀ s₁ mg mb fa o pm cd doc a vs ns G Y ho hd hcd hmg hobj hints hlen hg=>?_]
 have KX:=hY w _ Y;let#[fd,hb,hF]:=F w mg fa _ KX G.T.g hmg;erw[HL KX G.T.g G.T.b G.T.builtins G.T.nolimit hg hobj hints (aH hlen hn2) hr hF hb (λH hO hS=>hsp w H a ns hlen hO hS) λH e s'=>hCX w H s₁ e s']
noncomputable def inClass(s:Stmt)(j:Nat):Stmt:=match s with
 |.ClassDef _ _ _ body _ _ _ _ _ _ _=>body.getD j (.Pass #[0,0,0,0])
 |_=>.Pass #[0,0,0,0]
noncomputable def lJ(s:Stmt):Arguments:=match s with
 |.FunctionDef _ a _ _ _ _ _ _ _ _=>a
 |_=>{posonlyargs:=[],args:=[],vararg:=none,kwonlyargs:=[],kw_defaults:=[],kwarg:=none,defaults:=[]}
noncomputable def fO(s:Stmt):List Stmt:=match s with
 |.FunctionDef _ _ b _ _ _ _ _ _ _=>b
 |_=>[]
noncomputable def bU(s:Stmt):kh:=match s with
 |.FunctionDef _ _ _ _ _ _ sc _ _ _=>sc
 |_=>{kind:=.function,names:=[],isGenerator:=false,isCoroutine:=false}
abbrev Cs:GK:=λ_ _ _ _ _ _=>False
abbrev E0:XK:=λ_ _ _=>False
theorem xp:Passes Cs X E0:=λ_ _ _ _ _ _ _ h=>h.elim
structure KO(K:aJ)(x qual:Str)(st:Stmt)(f:Addr)(fd:fF):Prop where
 ex:∃(oc:Value)(od:Option Addr)(kV doc pm:Value)(an:Option Addr)(cdv ct:Value)(osl:Array (Option Value)),
  fd=kC x qual (lJ st) (fO st) (bU st) .none kV doc pm an cdv ct/\K.lookup f=some #[oc,od,.func fd,osl]/\uM K cdv qual=true
 kp:i4 K (.ref f)=true
section
variable{P:bO}{w:cy}{K:aJ}{mg:Str->Option Value}{base:Heap}
theorem KO.ok{x qual:Str}{st:Stmt}{f:Addr}{fd:fF}{N ps:List Str}{k:Nat}{sp:Sp}(F:KO K x qual st f fd)(S:lI N ps (bU st))(len:∀vs H Q E,sp vs H Q E->vs.length=ps.length)
  (hbody:∀(cdv:Value)(A:dN)(outer:List Env)(s:aC)(H:Hp)(vs:List V)(Q:VK)(E:XK),jo k (A.deeper (su qual (bU st) s.heap.objs.size f cdv))->sp vs H Q E ->
   ∃t,uo (Cm Cs P w K mg base N qual (bU st) f cdv A outer s H E).TB (fO st) t/\t {nx:=λ_ H'=>Q .bV H',rt:=Q} (start N vs) H):jq P w K mg base Cs (k+1) f fd ps sp:=by
 let#[oc,od,kV,doc,pm,an,cdv,ct,osl,rfl,lk,hcd]:=F.ex;rwa[Uc lk hcd S len λA outer s H vs Q E hr hsp=>?_]
 let#[t,h,q]:=hbody cdv A outer s H vs Q E hr hsp;exact#[t,h.TB,q]
theorem KO.binds{x qual:Str}{st:Stmt}{f:Addr}{fd:fF}{ps:List Str}(F:KO K x qual st f fd)
  (h:∀(kV doc pm:Value)(an:Option Addr)(cdv ct:Value)(us:List Value),us.length=ps.length->K5 (kC x qual (lJ st) (fO st) (bU st) .none kV doc pm an cdv ct) #[us,[]]=pure (ps.zip us)):Binds K fd ps []:=by
 let#[oc,od,kV,doc,pm,an,cdv,ct,osl,rfl,lk,hcd]:=F.ex;erw[.all (h kV doc pm an cdv ct)]
theorem HM{x qual:Str}{st:Stmt}{f:Addr}{oc:Value}{od an:Option Addr}{osl:Array (Option Value)}{kV doc pm cdv ct:Value}(l:K.lookup f=some #[oc,od,.func (kC x qual (lJ st) (fO st) (bU st) .none kV doc pm an cdv ct),osl])
  (c:uM K cdv qual=true) (k:i4 K (.ref f)=true):KO K x qual st f (kC x qual (lJ st) (fO st) (bU st) .none kV doc pm an cdv ct):=#[#[oc,od,kV,doc,pm,an,cdv,ct,osl,rfl,l,c],k]
end
section
variable{κ:Type}[DecidableEq κ]
noncomputable def js(kvs:List (κ×V))(k:κ):Option V:=(kvs.find? λkv=>decide (kv.1=k)).map (·.2)
noncomputable def putK(kvs:List (κ×V))(k:κ)(v:V):List (κ×V):=
 if (kvs.any λkv=>decide (kv.1=k))=true then kvs.map (λkv=>if kv.1=k then(kv.1,v) else kv) else kvs++[(k,v)]
theorem kW{p:κ×V}{r:List (κ×V)}{k:κ}(e:p.1=k):js (p::r) k=some p.2:=by simp[js,dJ,e]
theorem kX{p:κ×V}{r:List (κ×V)}{k:κ}(e:¬p.1=k):js (p::r) k=js r k:=by simp[js,dJ,e]
theorem uY(k:κ):∀kvs:List (κ×V),(kvs.any λkv=>decide (kv.1=k))=(js kvs k).isSome
 |[]=>rfl
 |p::r=>by
  rw[cJ]
  by_cases e:p.1=k
  .dsimp[kW e,decide_eq_true e,Bool.true_or,qF]
  .rw[kX e,decide_eq_false e,Bool.false_or];erw[uY k r]
theorem oM(kvs:List (κ×V))(k:κ)(v:V):(putK kvs k v).length<=kvs.length+1:=by
 unfold putK;split
 .rw[ak];omega
 .rw[az,aZ,dM];omega
theorem Ax{kvs:List (κ×V)}{k:κ}(v:V)(h:js kvs k=none):putK kvs k v=kvs++[(k,v)]:=by
 unfold putK;rw[uY,h]
 erw[if_neg ⋯]
theorem m8.sH(r:m8 o u):o.isSome=u.isSome:=by
 cases o with
 |none=>cases u with
  |none=>rfl
  |some _=>exact(show False from r).elim
 |some _=>cases u with
  |none=>exact(show False from r).elim
  |some _=>rfl
theorem m8.getD(r:m8 o u)(rd:RelV d d'):RelV (o.getD d) (u.getD d'):=by
 cases o with
 |none=>cases u with
  |none=>erw[rd]
  |some _=>exact(show False from r).elim
 |some _=>cases u with
  |none=>exact(show False from r).elim
  |some _=>erw[r]
theorem KV.val{kvs:List (κ×V)}{vs:List (κ×Value)}(r:KV kvs vs)(k:κ):m8 (js kvs k) (ly vs k):=by
 unfold KV at r;induction r with
 |nil=>erw[eh]
 |@cons p q ps qs h t ih=>
  let#[h1,h2]:=h;by_cases e:p.1=k
  .have e':q.1=k:=h1.symm.trans e
   have b:ly (q::qs) k=some q.2:=by simp[ly,dJ,e']
   rw[kW e,b];erw[h2]
  .have e':¬q.1=k:=λz=>e (h1.trans z)
   have b:ly (q::qs) k=ly qs k:=by simp[ly,dJ,e']
   rw[kX e,b];erw[ih]
theorem KV.any(r:KV kvs vs)(k:κ):(kvs.any λkv=>decide (kv.1=k))=vs.any λkv=>decide (kv.1=k):=by
 unfold KV at r;induction r with
 |nil=>rfl
 |cons h t ih=>rw[cJ,cJ,ih,h.1]
theorem KV.PM(r:KV kvs vs)(k:κ)(ry:RelV y u):
  KV (kvs.map λkv=>if kv.1=k then(kv.1,y) else kv) (vs.map λkv=>if kv.1=k then(kv.1,u) else kv):=by
 unfold KV at r ⊢;induction r with
 |nil=>erw[.nil]
 |@cons p q ps qs h t ih=>
  rw[ay,ay]
  rwa[.cons ?_ ih];let#[h1,h2]:=h;by_cases e:p.1=k
  .rw[if_pos e,if_pos (h1.symm.trans e)];exact#[h1,ry]
  .rw[if_neg e,if_neg (λz=>e (h1.trans z))];exact#[h1,h2]
theorem KV.put(r:KV kvs vs)(k:κ)(ry:RelV y u):KV (putK kvs k y) (uO vs k u):=by
 unfold putK uO;rw[r.any k]
 by_cases e:(vs.any λkv=>decide (kv.1=k))=true
 .rw[if_pos e,if_pos e];erw[r.PM k ry]
 .rw[if_neg e,if_neg e];erw[Paired.snoc r #[rfl,ry]]
theorem KV.keys{kvs:List (κ×V)}{vs:List (κ×Value)}(r:KV kvs vs):kvs.map (·.1)=vs.map (·.1):=by
 unfold KV at r;induction r with
 |nil=>rfl
 |cons h t ih=>rw[ay,ay,ih,h.1]
theorem KV.length(r:KV kvs vs):kvs.length=vs.length:=Paired.length r
end
theorem rj(r:RelV (kV k) u):(cX P w).is k u=true:=by
 rcases k with i|_|x
 .let#[t,e]:=(show ∃t,u=lu i t from r);subst e;erw[Aj P w i t]
 .cases (show u=fV from r);rfl
 .let#[t,e]:=(show ∃t,u=lx x t from r);subst e;erw[Ak P w x t]
theorem PN(e:kV a=kV b):a=b:=by
 rcases a with i|_|x<;>rcases b with j|_|y<;>cases e<;>rfl
theorem xq:∀{ks:List Key}{us:List Value},Vals (ks.map kV) us->ItemsAre (cX P w) ks us
 |[],_,r=>by rw[jv] at r;cases r;erw[.nil]
 |k::ks,_,r=>by
  rw[ay] at r;cases r with
  |cons h t=>erw[.cons (rj h) (xq t)]
abbrev KT(H:Hp):List (List Key×V)->List (List Key×Addr×Value)->Prop:=Paired λp q=>p.1=q.1/\H q.2.1=some (.tup (p.1.map kV))/\RelV p.2 q.2.2
theorem KT.val{H:Hp}{kvs:List (List Key×V)}{xs:List (List Key×Addr×Value)}(r:KT H kvs xs)(k:List Key):m8 (js kvs k) ((qG xs k).map (·.2)):=by
 induction r with
 |nil=>erw[eh]
 |@cons p q ps qs h t ih=>
  let#[h1,_,h2]:=h;by_cases e:p.1=k
  .have e':q.1=k:=h1.symm.trans e
   have b:qG (q::qs) k=some q.2:=by simp[qG,dJ,e']
   rw[kW e,b];erw[h2]
  .have e':¬q.1=k:=λz=>e (h1.trans z)
   have b:qG (q::qs) k=qG qs k:=by simp[qG,dJ,e']
   rw[kX e,b];erw[ih]
theorem KT.PM(r:KT H kvs xs)(k:List Key)(ry:RelV y u):
  KT H (kvs.map λkv=>if kv.1=k then(kv.1,y) else kv) (xs.map (putAt k u)):=by
 induction r with
 |nil=>erw[.nil]
 |@cons p q ps qs h t ih=>
  rw[ay,ay]
  rwa[.cons ?_ ih];let#[h1,h2,h3]:=h;unfold putAt;by_cases e:p.1=k
  .rw[if_pos e,if_pos (h1.symm.trans e)];exact#[h1,h2,ry]
  .rw[if_neg e,if_neg (λz=>e (h1.trans z))];exact#[h1,h2,h3]
theorem KT.put(r:KT H kvs xs)(k:List Key)(hb:H b=some (.tup (k.map kV)))(ry:RelV y u):
  KT H (putK kvs k y) (storedH xs k b u):=by
 have e:(kvs.any λkv=>decide (kv.1=k))=(qG xs k).isSome:=by
  rw[uY,(r.val k).sH,EW]
 unfold putK storedH;rw[e]
 by_cases q:(qG xs k).isSome=true
 .rw[if_pos q,if_pos q];erw[r.PM k ry]
 .rw[if_neg q,if_neg q];erw[Paired.snoc r #[rfl,hb,ry]]
theorem KT.keeps(r:KT H kvs xs)(ht:∀b ys,H b=some (.tup ys)->H' b=some (.tup ys)):KT H' kvs xs:=
 Paired.E9 r λ_ _ z=>#[z.1,ht _ _ z.2.1,z.2.2]
section
variable{P:bO}{w:cy}{H:Hp}{h:Heap}{a:Addr}
theorem N5(ok:pU P w H h)(e:Rd H a u):dH P w H h a u:=e.ok ok
theorem tM(ok:pU P w H h)(e:Rd H a (.dK kvs)):kvs.length<=sizeLine/\(a==b7)=false/\∃vs,KV kvs vs/\h.DictOf (cX P w) a vs:=
 show dH P w H h a (.dK kvs) from N5 ok e
theorem HN(ok:pU P w H h)(e:H a=some (.dK kvs)):kvs.length<=sizeLine/\(a==b7)=false/\∃vs,KV kvs vs/\h.DictOf (cX P w) a vs:=tM ok (.inl e)
theorem qp(ok:pU P w H h)(e:H a=some (.tup (ks.map kV))):(mP (cX P w)).is h ks a:=by
 let#[_,its,r,o,h1,h2,n,h3]:=(show dH P w H h a (.tup (ks.map kV)) from ok a _ e)
 exact#[o,its.toArray,n,h1,h2,h3,by simpa using xq r]
theorem uZ(ok:pU P w H h)(e:Rd H a (.dT kvs)):kvs.length<=sizeLine/\(a==b7)=false /\
  ∃xs,KT H kvs xs/\h.DictOfH (mP (cX P w)) a xs:=by
 let#[z,y,xs,r,o,es,ep,h1,h2,h3,h4,h5]:=(show dH P w H h a (.dT kvs) from N5 ok e)
 refine#[z,y,xs,r,o,es,ep,h1,h2,h3,h4,λx hx=>?_,h5];have all:∀{l:List (List Key×V)}{m:List (List Key×Addr×Value)},KT H l m->∀x∈m,(mP (cX P w)).is h x.1 x.2.1:=by
  intro l m q;induction q with
  |nil=>intro x hx;erw[nomatch hx]
  |@cons p q ps qs hq t ih=>
   intro x hx;rcases aR.mp hx with e|hx
   .subst e
    erw[qp ok (by rw[<-hq.1];exact hq.2.1)]
   .erw[ih x hx]
 erw[all r x hx]
theorem DN(ok:pU P w H h)(e:H a=some (.dT kvs)):kvs.length<=sizeLine/\(a==b7)=false /\
  ∃xs,KT H kvs xs/\h.DictOfH (mP (cX P w)) a xs:=uZ ok (.inl e)
end
def sI(H:Hp)(a:Addr)(y:V)(r:Option V):Prop:=
 (∃kvs k,Rd H a (.dK kvs)/\y=kV k/\r=js kvs k)\/∃kvs k b,Rd H a (.dT kvs)/\y=.ref b/\H b=some (.tup (k.map kV))/\r=js kvs k
def Ul(H:Hp)(a:Addr)(y v:V)(H':Hp):Prop:=
 (∃kvs k,H a=some (.dK kvs)/\y=kV k/\kvs.length<sizeLine/\H'=upd H a (.dK (putK kvs k v))) \/
 ∃kvs k b,H a=some (.dT kvs)/\y=.ref b/\H b=some (.tup (k.map kV))/\kvs.length<sizeLine/\H'=upd H a (.dT (putK kvs k v))
theorem sI.k{H:Hp}{a:Addr}{kvs:List (Key×V)}{k:Key}(e:H a=some (.dK kvs)):sI H a (kV k) (js kvs k):=.inl #[kvs,k,.inl e,rfl,rfl]
section
variable{X:Cx}{pZ:List (Addr×Obj)}{σ:St}{H:Hp}{s:aC}{a:Addr}{y v:V}{u r:Value}{o:Option V}{A:dN}{E:Value->aC->Prop}
theorem Inv.big(I:Inv X pZ σ H s):b7<s.heap.objs.size:=by
 have h:bI<s.heap.objs.size:=(I.mod.glob.keeps I.bk).lt;erw[jD ⋯ h]
theorem Fs(hu:A.units+1<eL)(I:Inv X pZ σ H s)(g:sI H a y (some v))(ry:RelV y u)(h:∀w' s',Inv X pZ σ H s'->RelV v w'->Q w' s'):
  wpAny (bc X.prog X.w) A (oB (.ref a) u) Q E s:=by
 rcases g with⟨kvs,k,e,ey,l⟩|⟨kvs,k,b,e,ey,eb,l⟩
 .subst ey
  let#[z,hd,vs,rel,dd]:=tM I.dD e;let#[w',hw,rw']:=m8.some_of (v:=v) (o:=ly vs k) (by rw[l];erw[rel.val k]);erw[wpAny_getItem_of (rj ry) dd.mapOf hw (h w' _ (I.tok _) rw')]
 .subst ey
  cases (show u=bj b from ry);let#[z,hd,xs,rel,dd]:=uZ I.dD e;let#[w',hw,rw']:=m8.some_of (v:=v) (o:=(qG xs k).map (·.2)) (by rw[l];erw[rel.val k]);let#[p,hp,hp2]:=ar.mp hw;rwa[wpAny_getItem_heap (gH hu) (qp I.dD eb) dd hp ?_];rw[hp2]
  erw[h w' _ (I.tok _) rw']
theorem LQ(hu:A.units+1<eL)(I:Inv X pZ σ H s)(g:sI H a y o)(ry:RelV y u)(h:∀s',Inv X pZ σ H s'->Q (.bool (!o.isSome)) s'):
  wpAny (bc X.prog X.w) A (bF .NotIn u (.ref a)) Q E s:=by
 rcases g with⟨kvs,k,e,ey,l⟩|⟨kvs,k,b,e,ey,eb,l⟩
 .subst ey
  let#[z,hd,vs,rel,dd]:=tM I.dD e;rwa[wpAny_notIn_of (rj ry) hd dd.mapOf ?_];rw[<-(rel.val k).sH,<-l]
  erw[h _ (I.tok _)]
 .subst ey
  cases (show u=bj b from ry);let#[z,hd,xs,rel,dd]:=uZ I.dD e;rwa[wpAny_notIn_heap (gH hu) (qp I.dD eb) hd dd ?_];have q:=(rel.val k).sH;rw[EW] at q;rw[<-q,<-l]
  erw[h _ (I.tok _)]
theorem ph(I:Inv X pZ σ H s)(mu:SI (H a))(hs:gc a s.heap h')(he:∃q,h'.get? a=some q)(new:dH X.prog X.w (upd H a ob) h' a ob):
  Inv X pZ σ (upd H a ob) {s with heap:=h',toks:=t'}:=
 I.write (x:=a) (e:=a) mu (.inl rfl) (λb q hb z=>(hs.2 b hb).trans z) he new
theorem yz(z:kvs.length<=sizeLine)(hd:(a==b7)=false)(rel:KV kvs vs)(dd:h'.DictOf (cX P w) a vs):
  dH P w H' h' a (.dK kvs):=#[z,hd,vs,rel,dd]
theorem Ft(hu:A.units+1<eL)(I:Inv X pZ σ H s)(g:Ul H a y v H')(ry:RelV y u)(rv:RelV v r)(h:∀s',Inv X pZ σ H' s'->Q () s'):
  wpAny (bc X.prog X.w) A (setItem (.ref a) u r) Q E s:=by
 rcases g with⟨kvs,k,e,ey,l,eH⟩|⟨kvs,k,b,e,ey,eb,l,eH⟩
 .subst ey eH
  let#[z,hd,vs,rel,dd]:=HN I.dD e;have hz:vs.length<=sizeLine:=by rw[<-rel.length];erw[z]
  have hl:(putK kvs k v).length<=sizeLine:=by have:=oM kvs k v;omega
  rwa[wpAny_setItem_pairs (hsz:=hz) (rj ry) dd λh' dd' hs=>h _ ?_]
  have he:∃q,h'.get? a=some q:=let ⟨q,_,_,hq,_⟩:=dd';#[q,hq];erw[ph I (by rw[e];exact eh) hs he (yz hl hd (rel.put k rv) dd')]
 .subst ey eH
  cases (show u=bj b from ry);let#[z,hd,xs,rel,dd]:=DN I.dD e;have hz:xs.length<=sizeLine:=by rw[<-Paired.length rel];erw[z]
  have hl:(putK kvs k v).length<=sizeLine:=by have:=oM kvs k v;omega
  rwa[wpAny_setItem_heap (hsz:=hz) (gH hu) (qp I.dD eb) dd λh' dd' hs=>h _ ?_]
  let#[q,es,ep,hq,h2,h3,h4,_,h5]:=dd';rwa[ph I (by rw[e];erw[eh]) hs #[q,hq] #[hl,hd,_,(rel.put k eb rv).keeps λc ys ec=>?_,q,es,ep,hq,h2,h3,h4,h5]];rw[cb (Tj ec e (λz=>nomatch z))]
  erw[ec]
end
section
variable{X:Cx}{pZ:List (Addr×Obj)}{σ:St}{H:Hp}{s:aC}{a:Addr}{kvs:List (Key×V)}{k:Key}{u:Value}{A:dN}{E:Value->aC->Prop}
theorem Um(I:Inv X pZ σ H s)(e:Rd H a (.dK kvs))(h:∀t s',Inv X pZ σ H s'->Q (.int kvs.length t) s'):wpAny (bc X.prog X.w) A (call (.builtin "len") [.ref a]) Q E s:=by
 let#[z,hd,vs,rel,dd]:=tM I.dD e;refine call_len_dict hd dd (by rw[<-rel.length];rw[jL] at z;omega) ?_;rw[<-rel.length]
 erw[h _ _ (I.tok _)]
end
def Uo(i:Expr):Prop:=∀ov iv,zL i false ov iv=operate [ov,iv] (oB ov iv)
theorem LR{prog:bO}{w:cy}{A:dN}{E:Value->aC->Prop}{s:aC}{env:Env}{value slice:Expr}{pos:Pos}{T id:String}{Q:Value->aC->Prop}
  (hl:typeLookup (.type T) "__getitem__"=pure (some (.builtin id))) (hs:Uo slice)
  (h:wpAny (bc prog w) A (eval value env) (λo s₁=>wpAny (bc prog w) A (eval slice env) (λi s₂=>s₂.TypeIs o T/\wpAny (bc prog w) A (oB o i) Q E s₂) E s₁) E s):
  wpAny (bc prog w) A (eval (.Subscript value slice pos) env) Q E s:=by
 rwa[Subscript_ (fL h (λo s₁ h₁=>fL h₁ (λi s₂ h₂=>?_) λ_ _ x=>x) λ_ _ x=>x)];let#[hT,h₂]:=h₂;unfold ET;rwa[ab ?_];rw[getitemInPython_of_ne hT.not_modules]
 refine ab (zY hT hl ?_);have fin:wpAny (bc prog w) A (zL slice false o i) (λr s₃=>wpAny (bc prog w) A (letTemporaryGo value o r>>=λ_=>pure r) Q E s₃) E s₂:=by
  rw[hs o i]
  erw[wpAny_operating (fL h₂ (λr s₃ h₃=>ab (wpAny_letTemporaryGo (ax h₃))) λ_ _ x=>x)]
 first
  |exact ax (ab fin)
  |exact ab (ax (ab fin))
  |exact ab fin
theorem Ay(I:Inv X pZ σ H s)(g:sI H a y o):s.TypeIs (.ref a) "dict":=by
 rcases g with⟨kvs,k,e,_,_⟩|⟨kvs,k,b,e,_,_,_⟩
 .let#[_,_,vs,_,dd]:=tM I.dD e
  erw[dd.typeIs]
 .let#[_,_,xs,_,dd]:=uZ I.dD e
  erw[dd.typeIs]
noncomputable def Up(td ty:TE):TE:=λσ H Q=>td σ H λx H1=>ty σ H1 λy H2=>∃a v,x=.ref a/\sI H2 a y (some v)/\Q v H2
noncomputable def Uq(td ty tv:TE):TS:=λD σ H=>tv σ H λv H1=>td σ H1 λx H2=>ty σ H2 λy H3=>∃a H4,x=.ref a/\Ul H3 a y v H4/\D.nx σ H4
section
variable{X:Cx}{o i e value:Expr}{pos pos' tpos:Pos}{td ty tv:TE}
theorem LS(hu:X.A.units+1<eL)(ho:PE X o td)(hi:PE X i ty)(hs:Uo i):PE X (.Subscript o i pos) (Up td ty):=by
 k_ne;rwa[LR PySem.F.slot_dict_getitem.lookup hs (dW (ho pZ s σ H _ I h) λu s1 h9=>?_)];let#[x,H1,I1,rx,q1]:=h9;rwa[dW (hi pZ s1 σ H1 _ I1 q1) λiv s2 h9=>?_]
 let#[y,H2,I2,ry,a,v,ex,g,q2]:=h9;subst ex;obtain rfl:u=bj a:=rx;exact#[Ay I2 g,Fs hu I2 g ry λw' s3 I3 rw'=>#[v,H2,I3,rw',q2]]
theorem LU(hu:X.A.units+1<eL)(ho:PE X o td)(hi:PE X i ty)(hv:PE X value tv)(hs:hU value (some (.Subscript o i pos')) pos.line X.env=pure false):
  PS X (.Assign [.Subscript o i pos'] value pos) (Uq td ty tv):=by
 intro pZ s σ H D I h;rwa[wpAny_Assign_Subscript (dW (hv pZ s σ H _ I h) λr s1 h9=>?_) hs];let#[v,H1,I1,rv,q1]:=h9;rwa[dW (ho pZ s1 σ H1 _ I1 q1) λu s2 h9=>?_]
 let#[x,H2,I2,rx,q2]:=h9;rwa[dW (hi pZ s2 σ H2 _ I2 q2) λiv s3 h9=>?_]
 let#[y,H3,I3,ry,a,H4,ex,g,q3]:=h9;subst ex;obtain rfl:u=bj a:=rx;erw[Ft hu I3 g ry rv λs4 I4=>#[σ,H4,I4,q3]]
end
theorem Az(h:Heap)(hb:b7<h.objs.size):dH P w H (h.push {cls:=.type "dict",data:=.dict #[]}) h.objs.size (.dK []):=
 #[b8 _,beq_eq_false_iff_ne.mpr (cR (aY hb)),[],.nil,BG h]
theorem HP(h:Heap)(hb:b7<h.objs.size):dH P w H (h.push {cls:=.type "dict",data:=.dict #[]}) h.objs.size (.dT []):=
 #[b8 _,beq_eq_false_iff_ne.mpr (cR (aY hb)),[],.nil,_,#[],0,bb _ rfl,#[rfl,rfl,rfl],rfl,rfl,wQ]
def Ct:List (TE×TE)->St->Hp->(List (V×V)->Hp->Prop)->Prop
 |[],_,H,Q=>Q [] H
 | (tk,tv)::r,σ,H,Q=>tk σ H λx H1=>tv σ H1 λy H2=>Ct r σ H2 λps H3=>Q ((x,y)::ps) H3
abbrev VV:List (V×V)->List (Value×Value)->Prop:=Paired λp q=>RelV p.1 q.1/\RelV p.2 q.2
def Xb(X:Cx)(pos:Pos)(keys:List (Option Expr))(values:List Expr)(trs:List (TE×TE)):Prop:=
 ∀(pZ:List (Addr×Obj))(s:aC)(σ:St)(H:Hp)(Q:List (V×V)->Hp->Prop),Inv X pZ σ H s->Ct trs σ H Q ->
  wpAny (bc X.prog X.w) X.A (evalPairs (pairTrees keys values X.env pos)) (λvs s'=>∃ps H',Inv X pZ σ H' s'/\VV ps vs/\Q ps H') X.xe s
theorem LV:Xb X pos [] [] []:=λpZ s σ H Q I h=>pairTrees_nil_walk #[[],H,I,.nil,h]
theorem HQ(hk:PE X k tk)(hv:PE X v tv)(hr:Xb X pos ks vs trs):
  Xb X pos (some k::ks) (v::vs) ((tk,tv)::trs):=λpZ s σ H Q I h=>
 pairTrees_cons_walk (dW (hk pZ s σ H _ I h) λu s1 #[x,H1,I1,rx,q1]=>dW (hv pZ s1 σ H1 _ I1 q1) λw2 s2 #[y,H2,I2,ry,q2]=>
  dW (hr pZ s2 σ H2 _ I2 q2) λws s3 #[ps,H3,I3,rel,q3]=>#[(x,y)::ps,H3,I3,.cons #[rx,ry] rel,q3])
def u5(kvs more:List (Key×V)):List (Key×V):=more.foldl (λacc kv=>putK acc kv.1 kv.2) kvs
theorem KV.merge:∀{more:List (Key×V)}{rs:List (Key×Value)}{kvs:List (Key×V)}{vs:List (Key×Value)},KV more rs->KV kvs vs->KV (u5 kvs more) (merged vs rs):=by
 intro more rs kvs vs r;unfold KV at r;induction r generalizing kvs vs with
 |nil=>intro q;erw[q]
 |@cons p q ps qs h t ih=>
  intro r0;have e:KV (putK kvs p.1 p.2) (uO vs q.1 q.2):=by
   have:=r0.put p.1 h.2;rw[<-h.1];erw[this]
  erw[ih e]
theorem p6:∀(more kvs:List (Key×V)),(u5 kvs more).length<=kvs.length+more.length
 |[],kvs=>by show kvs.length<=kvs.length+0;omega
 |p::r,kvs=>by
  have h1:=p6 r (putK kvs p.1 p.2);have h2:=oM kvs p.1 p.2;show(u5 (putK kvs p.1 p.2) r).length<=_;rw[aZ];omega
theorem u6:∀{kvs:List (Key×V)}{ws:List (Value×Value)},VV (kvs.map λkv=>(kV kv.1,kv.2)) ws->∃rs,Carries (cX P w) ws rs/\KV kvs rs
 |[],_,r=>by rw[jv] at r;cases r;exact#[[],eh,.nil]
 |p::kvs,_,r=>by
  rw[ay] at r;cases r with
  |@cons a b as bs h t=>
   let#[rs,c,q]:=u6 (P:=P) (w:=w) t;let#[b1,b2]:=b;exact#[(p.1,b2)::rs,#[rj h.1,rfl,c],.cons #[rfl,h.2] q]
def Ur(trs:List (TE×TE)):TE:=λσ H Q=>∀p,H p=none->Ct trs σ (upd H p (.dK [])) λps H2=>H2 p=some (.dK [])/\∃kvs:List (Key×V),ps=kvs.map (λkv=>(kV kv.1,kv.2))/\kvs.length<=15/\Q (.ref p) (upd H2 p (.dK (u5 [] kvs)))
theorem LW(h:Xb X pos keys values trs)(hall:keys.all (·.isSome)=true)(hl:keys.length=values.length)(h0:keys≠[])
  (h15:keys.length<=15):PE X (.Dict keys values pos) (Ur trs):=by
 intro pZ s σ H Q I q;have hn:=I.dD.fresh (aq s.heap.objs.size);have I1:=I.laid (a:=s.heap.objs.size) (o:=.dK []) (h':=s.heap.push {cls:=.type "dict",data:=.dict #[]}) (t':=s.toks) (λ_ _ q=>aI _ q) (aq _) (Az s.heap I.big);refine wpAny_Dict_walk (knd:=cX X.prog X.w) hall hl h0 h15 (dW (h pZ _ σ _ _ I1 (q _ hn)) λws s2 h9=>?_);let#[ps,H2,I2,rel,e,kvs,ep,lk,q2]:=h9;subst ep;let#[rs,c,rk]:=u6 (P:=X.prog) (w:=X.w) rel;let#[z,hd,vs0,r0,dd]:=HN I2.dD e;cases r0;refine#[rs,c,dd,λh' dd' hs=>#[.ref s.heap.objs.size,_,?_,rfl,q2]];have hz:(u5 [] kvs).length<=sizeLine:=by
  have h1:=p6 kvs [];rw[dM] at h1;rw[jL];omega
 have he:∃q,h'.get? s.heap.objs.size=some q:=let ⟨q,_,_,hq,_⟩:=dd';#[q,hq];erw[ph I2 (by rw[e];exact eh) hs he (yz hz hd (rk.merge .nil) dd')]
structure M1(X:Cx)(o:Expr)(m:Str)(apos:Pos)(e:Expr)(cpos:Pos):Prop where
 base:ij o m X.env (eval o X.env)=eval o X.env
 Yf:((eJ cpos (bx [e] X.env)).all (λx=>!x.1)&&(backToKw cpos (eO [] X.env)).all (λx=>x.1.isSome)
  && decide (([e]:List Expr).length+([]:List oC).length+(if ([]:List oC).isEmpty then 0 else 1)<30))=true
 line:(apos.endLine==cpos.line)=true
 trees:eJ cpos (bx [e] X.env)= [(false,eval e X.env)]
structure M2(X:Cx)(o:Expr)(m:Str)(apos:Pos)(e f:Expr)(cpos:Pos):Prop where
 base:ij o m X.env (eval o X.env)=eval o X.env
 Yf:((eJ cpos (bx [e,f] X.env)).all (λx=>!x.1)&&(backToKw cpos (eO [] X.env)).all (λx=>x.1.isSome)
  && decide (([e,f]:List Expr).length+([]:List oC).length+(if ([]:List oC).isEmpty then 0 else 1)<30))=true
 line:(apos.endLine==cpos.line)=true
 trees:eJ cpos (bx [e,f] X.env)= [(false,eval e X.env),(false,eval f X.env)]
def Yg(H:Hp)(a:Addr):Prop:=(∃kvs,Rd H a (.dK kvs))\/∃kvs,Rd H a (.dT kvs)
theorem HR(I:Inv X pZ σ H s)(d:Yg H a):
  s.TypeIs (.ref a) "dict"/\(∀b,bj a=.ref b->∃ob,s.heap.get? b=some ob/\ob.dict=none)/\(a==b7)=false:=by
 rcases d with⟨kvs,e⟩|⟨kvs,e⟩
 .let#[_,hd,vs,_,dd]:=tM I.dD e
  refine#[dd.typeIs,λb q=>?_,hd];cases q;let#[ob,_,_,h1,h2,_]:=dd;exact#[ob,h1,h2.2.1]
 .let#[_,hd,xs,_,dd]:=uZ I.dD e
  refine#[dd.typeIs,λb q=>?_,hd];cases q;let#[ob,_,_,h1,h2,_]:=dd;exact#[ob,h1,h2.2.1]
section
variable{X:Cx}{pZ:List (Addr×Obj)}{σ:St}{H:Hp}{s:aC}{a:Addr}{y d:V}{u r:Value}{o:Option V}{A:dN}{E:Value->aC->Prop}
theorem PQ(hu:A.units+1<eL)(I:Inv X pZ σ H s)(g:sI H a y o)(ry:RelV y u)(h:∀w' s',Inv X pZ σ H s'->RelV (o.getD .bV) w'->Q w' s'):
  wpAny (bc X.prog X.w) A (call (.builtin "dict.get") [.ref a,u]) Q E s:=by
 rcases g with⟨kvs,k,e,ey,l⟩|⟨kvs,k,b,e,ey,eb,l⟩
 .subst ey
  let#[z,hd,vs,rel,dd]:=tM I.dD e;rwa[mw d7 dd.typeIs i5 (wR _ _) (meets_dict_get (cX X.prog X.w) a (rj ry) hd) #[_,dd.mapOf,h _ _ (I.tok _) ?_]];rw[l]
  exact(rel.val k).getD rfl
 .subst ey
  cases (show u=bj b from ry);let#[z,hd,xs,rel,dd]:=uZ I.dD e;rwa[mw d7 dd.typeIs i5 (wR _ _) (meetsH_dict_get (mP (cX X.prog X.w)) a b hd) #[gH hu,k,xs,qp I.dD eb,dd,h _ _ (I.tok _) ?_]];rw[l]
  exact(rel.val k).getD rfl
theorem PU(hu:A.units+1<eL)(I:Inv X pZ σ H s)(g:sI H a y o)(ry:RelV y u)(rd:RelV d r)(h:∀w' s',Inv X pZ σ H s'->RelV (o.getD d) w'->Q w' s'):
  wpAny (bc X.prog X.w) A (call (.builtin "dict.get") [.ref a,u,r]) Q E s:=by
 rcases g with⟨kvs,k,e,ey,l⟩|⟨kvs,k,b,e,ey,eb,l⟩
 .subst ey
  let#[z,hd,vs,rel,dd]:=tM I.dD e;rwa[mw d7 dd.typeIs i5 (wU _ _ _) (meets_dict_get_default (cX X.prog X.w) a (rj ry) hd r) #[_,dd.mapOf,h _ _ (I.tok _) ?_]];rw[l]
  exact(rel.val k).getD rd
 .subst ey
  cases (show u=bj b from ry);let#[z,hd,xs,rel,dd]:=uZ I.dD e;rwa[mw d7 dd.typeIs i5 (wU _ _ _) (meetsH_dict_get_default (mP (cX X.prog X.w)) a b hd r) #[gH hu,k,xs,qp I.dD eb,dd,h _ _ (I.tok _) ?_]];rw[l]
  exact(rel.val k).getD rd
end
noncomputable def PV(td ty:TE):TE:=λσ H Q=>td σ H λx H1=>∃a,x=.ref a/\Yg H1 a/\ty σ H1 λy H2=>∃o,sI H2 a y o/\Q (o.getD .bV) H2
noncomputable def PX(td ty tx:TE):TE:=λσ H Q=>td σ H λx H1=>∃a,x=.ref a/\Yg H1 a/\ty σ H1 λy H2=>tx σ H2 λz H3=>∃o,sI H3 a y o/\Q (o.getD z) H3
section
variable{X:Cx}{o e f:Expr}{apos cpos:Pos}{td ty tx:TE}
theorem HS(hu:X.A.units+1<eL)(ho:PE X o td)(he:PE X e ty)(m:M1 X o "get" apos e cpos):PE X (.Call (.Attribute o "get" apos) [e] [] cpos) (PV td ty):=by
 k_ne;rwa[wpAny_Call_method m.base m.Yf m.line iT d7 zO (dW (ho pZ s σ H _ I h) λu s1 h9=>?_)];let#[x,H1,I1,rx,a,ex,d,q1]:=h9;subst ex;obtain rfl:u=bj a:=rx;let#[t1,t2,_]:=HR I1 d;refine#[t1,t2,?_];rw[m.trees]
 rwa[jm rfl (pR (iY (dW (he pZ s1 σ H1 _ I1 q1) λiv s2 h9=>?_)))];let#[y,H2,I2,ry,ov,g,q2]:=h9;rwa[mm ?_];erw[PQ hu I2 g ry λw' s3 I3 rw'=>#[_,H2,I3,rw',q2]]
theorem HU(hu:X.A.units+1<eL)(ho:PE X o td)(he:PE X e ty)(hf:PE X f tx)(m:M2 X o "get" apos e f cpos):PE X (.Call (.Attribute o "get" apos) [e,f] [] cpos) (PX td ty tx):=by
 k_ne;rwa[wpAny_Call_method m.base m.Yf m.line iT d7 zO (dW (ho pZ s σ H _ I h) λu s1 h9=>?_)];let#[x,H1,I1,rx,a,ex,d,q1]:=h9;subst ex;obtain rfl:u=bj a:=rx;let#[t1,t2,_]:=HR I1 d;refine#[t1,t2,?_];rw[m.trees]
 refine jm rfl (pR (iY (dW (he pZ s1 σ H1 _ I1 q1) λiv s2 #[y,H2,I2,ry,q2]=>
  iY (dW (hf pZ s2 σ H2 _ I2 q2) λfv s3 #[z,H3,I3,rz,ov,g,q3]=>mm ?_))))
 erw[PU hu I3 g ry rz λw' s4 I4 rw'=>#[_,H3,I4,rw',q3]]
end
section
variable{X:Cx}
theorem Fu:gv X (.builtin "len") (λxs H Q=>∃a kvs,xs=[V.ref a]/\H a=some (.dK kvs)/\Q (.int kvs.length) H):=by
 w_up;let#[a,kvs,rfl,ha,q]:=h;let#[u,rfl,ru]:=vals1 r;cases ru;erw[Um I (.inl ha) λt s' I'=>#[.int kvs.length,H,I',#[t,rfl],q]]
end
open PySem.W
section
variable{prog:bO}{w:cy}{K:Type}[DecidableEq K]{A:dN}{E:Value->aC->Prop}{s:aC}
theorem Cu{knd:KeyKind prog w K}{d:Addr}{kvs:List (K×Value)}{k:K}{key v:Value}{Q:Value->aC->Prop}(hkey:knd.is k key=true)(hm:s.heap.DictOf knd d kvs)(hsz:kvs.length<=sizeLine)
  (h1:∀x t',ly kvs k=some x->Q x {s with toks:=t'})
  (h2:∀h' t',ly kvs k=none->h'.DictOf knd d (uO kvs k v)->gc d s.heap h'->Q v {s with heap:=h',toks:=t'}):
  wpAny (bc prog w) A (iO d key v) Q E s:=by
 have mo:s.heap.MapOf knd d (ly kvs):=hm.mapOf;let#[o,es,ep,ho,hc,hd,hk,hp,hn]:=hm;let#[o',es',ep',ho',_,hd',_,hf]:=mo;obtain rfl:o=o':=aF (ho.symm.trans ho');rw[hd] at hd';injection hd' with e1 _
 subst e1;have hes:es.size<=sizeLine:=by
  have e1:=hp.length;have e2:es.toList.length=es.size:=by simp
  omega
 unfold iO;refine fK (ab (knd.pyHash hkey ?_));refine ab (wpAny_dictFind_of (s:={s with toks:=s.toks+1}) hkey ho hd hk ?_);have hidx:(es.findIdx? λe=>knd.is k e.key)=kvs.findIdx? λkv=>decide (kv.1=k):=by
  rw[<-hp.findIdx k];let#[l]:=es;simp
 have hv:ly kvs k=((es.findIdx? λe=>knd.is k e.key).bind λi=>es[i]?).map (·.val):=by
  rw[<-hf k,findBy_of_findIdx?]
  cases es.findIdx? λe=>knd.is k e.key<;>rfl
 cases hi:es.findIdx? λe=>knd.is k e.key with
 |some i=>
  rw[hi] at hv;refine ab (iy (s:={s with toks:=s.toks+1}) ho hd ?_);have hlt:i<es.size:=(Array.findIdx?_eq_some_iff_findIdx_eq.mp hi).1;have hv:ly kvs k=(es[i]?).map (·.val):=hv;rw[iz hlt] at hv ⊢;erw[ab (qe (ax (h1 _ _ hv)))]
 |none=>
  rw[hi] at hv;have hnot:k∉kvs.map (·.1):=not_mem_of_findIdx_none (hidx▸hi);have hany:¬(kvs.any λkv=>decide (kv.1=k))=true:=by
   rw[ke];rintro⟨kv,hkv,he⟩;erw[hnot (bG.mpr #[kv,hkv,of_decide_eq_true he])]
  refine ab (qe (ab (K7 (hz:=hes) (s:={s with toks:=s.toks+1}) ho hd (ax (h2 _ _ hv #[_,_,ep+1,j8 _ ho (GD (kD hd _)),
   hc.mapDictKeys _,kD hd _,hk.push hkey _,?_,?_] (eP ..))))))
  .rw[uO,if_neg hany]
   have:=hp.append hkey (knd.hash k) v;let#[l]:=es;simpa using this
  .rw[uO,if_neg hany,aK,dq]
   refine#[hn,by simp,λa ha b hb=>?_];dsimp[ay,jv,bC] at hb;subst hb;erw[λe=>hnot (e▸ha)]
theorem xr{knd:HeapKind prog w K}{d a:Addr}{xs:List (K×Addr×Value)}{k:K}{v:Value}{Q:Value->aC->Prop}(hu:knd.room A)(hkey:knd.is s.heap k a)(hm:s.heap.DictOfH knd d xs)(hsz:xs.length<=sizeLine)
  (h1:∀x t',(qG xs k).map (·.2)=some x->Q x {s with toks:=t'})
  (h2:∀h' t',qG xs k=none->h'.DictOfH knd d (xs++[(k,a,v)])->gc d s.heap h'->Q v {s with heap:=h',toks:=t'}):
  wpAny (bc prog w) A (iO d (.ref a) v) Q E s:=by
 let#[o,es,ep,ho,hc,hd,he,his,hn]:=hm;unfold iO;rwa[fK (ab (knd.pyHash hu hkey ?_))];refine ab (wpAny_dictFind_heap (s:={s with toks:=s.toks+knd.draws k}) hu hkey ho hd he his hn ?_ ?_)
 .intro hno
  have hnot:k∉xs.map (·.1):=not_mem_keys_of_get hno;refine ab (qe (ab (K7 (hz:=by have e:=z9 he;omega) (s:={s with toks:=s.toks+knd.draws k}) ho hd (ax (h2 _ _ (atKey_none_of_get hno) #[_,_,ep+1,j8 _ ho (GD (kD hd _)),
   hc.mapDictKeys _,kD hd _,?_,?_,?_] (eP ..))))))
  .simp[he,BS]
  .intro x hx
   rcases aL.mp hx with hx|hx
   .erw[knd.keeps (his x hx) ho hd (eP ..)]
   .dsimp[bC] at hx
    subst hx;erw[knd.keeps hkey ho hd (eP ..)]
  .rw[aK,dq]
   refine#[hn,by simp,λx hx y hy=>?_];dsimp[ay,jv,bC] at hy;subst hy;erw[λe=>hnot (e▸hx)]
 .intro j p hj
  refine ab (iy (s:={s with toks:=s.toks+knd.draws k}) ho hd ?_);rw[entry_at he j,hj]
  erw[ab (qe (ax (h1 _ _ (by rw[atKey_of_get hn hj];rfl))))]
theorem sJ(hT:s.TypeIs (.ref a) "dict")(hd:(a==b7)=false)(h:wpAny (bc prog w) A.in1 (iO a u r) Q E s):
  wpAny (bc prog w) A (call (.builtin "dict.setdefault") [.ref a,u,r]) Q E s:=by
 refine mw (S:=λA R s=>s.TypeIs (.ref a) "dict"/\wpAny (bc prog w) A.in1 (iO a u r) (λv s'=>R (.ok (.ret v)) s') (λe s'=>R (.error e) s') s)
  tZ hT PySem.F.entry_dict_setdefault (PySem.F.args_dict_setdefault_3 _ _ _) (.of_wp λA R s h=>?_) #[hT,h]
 unfold Builtin.«dict.setdefault»;rwa[ab ?_];unfold Builtin.Dict.keyAndDefault;rwa[ab (qP h.1 (ax ?_))];show wpAny _ _ (if (a==b7)=true then _ else(iO a u r>>=_)) _ _ s;rw[if_neg (by rw[hd];erw[aV])]
 erw[ab (fL h.2 (λv s' q=>ax #[v,rfl,q]) λ_ _ q=>q)]
end
section
variable{X:Cx}
abbrev KP(H:Hp):List (sA×V)->List (sA×Addr×Value)->Prop:=Paired λp q=>p.1=q.1/\(∃c,H q.2.1=some (.tup [.int p.1.1,.ref c])/\H c=some (.tup (p.1.2.map .int)))/\RelV p.2 q.2.2
theorem AA:∀{ks:List Int}{us:List Value},Vals (ks.map .int) us->ItemsAre (BC P w) ks us
 |[],_,r=>by rw[jv] at r;cases r;erw[.nil]
 |k::ks,_,r=>by
  rw[ay] at r;cases r with
  |cons h t=>
   let#[t',e]:=h;erw[.cons (by rw[e];simp[BC,BQ]) (AA t)]
theorem DO(ok:pU P w H h)(e:H a=some (.tup [.int k.1,.ref c]))(e2:H c=some (.tup (k.2.map .int))):(qT P w).is h k a:=by
 let#[_,its,r,o,h1,h2,n,h3]:=(show dH P w H h a (.tup [.int k.1,.ref c]) from ok a _ e)
 let#[_,jts,r',o',g1,g2,n',g3]:=(show dH P w H h c (.tup (k.2.map .int)) from ok c _ e2)
 cases r with
 |cons r1 r2=>
  let#[t,e]:=r1;cases r2 with
  |cons r3 r4=>
   cases r4;cases (show _=bj c from r3);subst e;exact#[t,c,n,o,h1,h2,h3,o',jts.toArray,n',g1,g2,g3,by simpa using AA r']
theorem N6(ok:pU P w H h)(e:H a=some (.dP kvs)):kvs.length<=sizeLine/\(a==b7)=false /\
  ∃xs,KP H kvs xs/\h.DictOfH (qT P w) a xs:=by
 let#[z,y,xs,r,o,es,ep,h1,h2,h3,h4,h5]:=(show dH P w H h a (.dP kvs) from ok a _ e)
 refine#[z,y,xs,r,o,es,ep,h1,h2,h3,h4,λx hx=>?_,h5];have all:∀{l:List (sA×V)}{m:List (sA×Addr×Value)},KP H l m->∀x∈m,(qT P w).is h x.1 x.2.1:=by
  intro l m q;induction q with
  |nil=>intro x hx;erw[nomatch hx]
  |@cons p q ps qs hq t ih=>
   intro x hx;rcases aR.mp hx with e|hx
   .subst e
    let#[e1,#[c,e2,e3],_]:=hq;rw[<-e1]
    erw[DO ok e2 e3]
   .erw[ih x hx]
 erw[all r x hx]
theorem KP.val(r:KP H kvs xs)(k:sA):m8 (js kvs k) ((qG xs k).map (·.2)):=by
 induction r with
 |nil=>erw[eh]
 |@cons p q ps qs hq t ih=>
  by_cases e:p.1=k
  .have e':q.1=k:=hq.1▸e
   rw[kW e]
   dsimp[qG,dJ,e',decide_true];erw[hq.2.2]
  .have e':¬q.1=k:=hq.1▸e
   rw[kX e]
   simpa[qG,dJ,e'] using ih
def Yh(H:Hp)(a:Addr)(y d r:V)(H':Hp):Prop:=
 (∃kvs k,H a=some (.dK kvs)/\y=kV k/\kvs.length<sizeLine/\((js kvs k=some r/\H'=H)\/(js kvs k=none/\r=d/\H'=upd H a (.dK (kvs++[(k,d)]))))) \/
 (∃kvs k b,H a=some (.dT kvs)/\y=.ref b/\H b=some (.tup (k.map kV))/\kvs.length<sizeLine/\((js kvs k=some r/\H'=H)\/(js kvs k=none/\r=d/\H'=upd H a (.dT (kvs++[(k,d)]))))) \/
 ∃kvs k b c,H a=some (.dP kvs)/\y=.ref b/\H b=some (.tup [.int k.1,.ref c])/\H c=some (.tup (k.2.map .int))/\kvs.length<sizeLine/\((js kvs k=some r/\H'=H)\/(js kvs k=none/\r=d/\H'=upd H a (.dP (kvs++[(k,d)]))))
theorem oN{α β:Type}{F:α->β->Prop}:∀{l:List α}{m:List β}{a:α}{b:β},Paired F l m->F a b->Paired F (l++[a]) (m++[b])
 |_,_,_,_,.nil,f=>.cons f .nil
 |_,_,_,_,.cons r t,f=>.cons r (oN t f)
theorem LX(hu:X.A.units+2<eL):Cp X "dict.setdefault" (λx xs H Q=>∃a y d r H',x=.ref a/\xs=[y,d]/\Yh H a y d r H'/\Q r H'):=by
 intro pZ s σ H x xs v us Q I rx rs h;let#[a,y,d,r,H',rfl,rfl,g,q]:=h;let#[u,ud,rfl,ry,rd]:=rs.two;cases (show v=bj a from rx);rcases g with⟨kvs,k,e,rfl,l,g⟩|⟨kvs,k,b,e,rfl,eb,l,g⟩|⟨kvs,k,b,c,e,rfl,eb,ec,l,g⟩
 .let#[z,hd,vs,rel,dd]:=HN I.dD e
  have rv:=rel.val k;rwa[sJ dd.typeIs hd (Cu (rj ry) dd (by rw[<-rel.length];erw[z]) (λx t' hx=>?_) λh' t' hn dd' hs=>?_)]
  .rw[hx] at rv
   rcases g with⟨g1,rfl⟩|⟨g1,_⟩
   .rw[g1] at rv;exact#[r,H',I.tok _,rv,q]
   .rw[g1] at rv;erw[rv.elim]
  .rw[hn] at rv
   rcases g with⟨g1,rfl⟩|⟨g1,rfl,rfl⟩
   .rw[g1] at rv;erw[rv.elim]
   .have e2:putK kvs k r=kvs++[(k,r)]:=Ax r g1
    have he:∃q,h'.get? a=some q:=let ⟨q,_,_,hq,_⟩:=dd';#[q,hq];exact#[r,_,ph I (by rw[e];erw[eh]) hs he (yz (by simp;omega) hd (e2▸rel.put k rd) dd'),rd,q]
 .cases (show u=bj b from ry)
  let#[z,hd,ws,rel,dd]:=DN I.dD e;have rv:=rel.val k;rwa[sJ dd.typeIs hd (xr (gH ∅) (qp I.dD eb) dd (by rw[<-Paired.length rel];erw[z]) (λx t' hx=>?_) λh' t' hn dd' hs=>?_)]
  .rw[hx] at rv
   rcases g with⟨g1,rfl⟩|⟨g1,_⟩
   .rw[g1] at rv;exact#[r,H',I.tok _,rv,q]
   .rw[g1] at rv;erw[rv.elim]
  .rw[hn] at rv
   rcases g with⟨g1,rfl⟩|⟨g1,rfl,rfl⟩
   .rw[g1] at rv;erw[rv.elim]
   .let#[o,es,ep,hq,h2,h3,h4,_,h5]:=dd'
    have nt:∀b ys,H b=some (.tup ys)->b≠a:=λb ys eq z=>by rw[z,e] at eq;cases eq
    refine#[r,upd H a (.dT (kvs++[(k,r)])),ph (ob:=.dT (kvs++[(k,r)])) I (by rw[e];erw[eh]) hs #[o,hq] #[by simp;omega,hd,ws++[(k,b,ud)],oN (Paired.E9 rel λp q z=>#[z.1,?_,z.2.2]) #[rfl,?_,rd],o,es,ep,hq,h2,h3,h4,h5],rd,q]
    .rw[cb (nt _ _ z.2.1)];erw[z.2.1]
    .rw[cb (nt _ _ eb)];erw[eb]
 .cases (show u=bj b from ry)
  let#[z,hd,ws,rel,dd]:=N6 I.dD e;have rv:=rel.val k;rwa[sJ dd.typeIs hd (xr (show X.A.in1.units+1<eL by dsimp[tD];omega) (DO I.dD eb ec) dd (by rw[<-Paired.length rel];erw[z]) (λx t' hx=>?_) λh' t' hn dd' hs=>?_)]
  .rw[hx] at rv
   rcases g with⟨g1,rfl⟩|⟨g1,_⟩
   .rw[g1] at rv;exact#[r,H',I.tok _,rv,q]
   .rw[g1] at rv;erw[rv.elim]
  .rw[hn] at rv
   rcases g with⟨g1,rfl⟩|⟨g1,rfl,rfl⟩
   .rw[g1] at rv;erw[rv.elim]
   .let#[o,es,ep,hq,h2,h3,h4,_,h5]:=dd'
    have nt:∀b ys,H b=some (.tup ys)->b≠a:=λb ys eq z=>by rw[z,e] at eq;cases eq
    refine#[r,upd H a (.dP (kvs++[(k,r)])),ph (ob:=.dP (kvs++[(k,r)])) I (by rw[e];erw[eh]) hs #[o,hq] #[by simp;omega,hd,ws++[(k,b,ud)],oN (Paired.E9 rel λp q z=>#[z.1,?_,z.2.2]) #[rfl,#[c,?_,?_],rd],o,es,ep,hq,h2,h3,h4,h5],rd,q]
    .let#[c,e1,e2]:=z.2.1
     exact#[c,by rw[cb (nt _ _ e1)];erw[e1],by rw[cb (nt _ _ e2)];erw[e2]]
    .rw[cb (nt _ _ eb)];erw[eb]
    .rw[cb (nt _ _ ec)];erw[ec]
end
theorem PY(h:(cX P w).is k u=true):RelV (kV k) u:=by
 rcases fI h with⟨i,t,rfl,rfl⟩|⟨x,t,rfl,rfl⟩|⟨rfl,rfl⟩
 .exact#[t,rfl]
 .exact#[t,rfl]
 .rfl
def SK(a:Addr)(o:Obj)(kvs:List (Key×V)):It:=
 #[λi H=>H a=some (.sk o (.dK kvs))/\i<kvs.length,λi H x H'=>H'=H/\∃k v,kvs[i]?=some (k,v)/\x=kV k,λi H=>H a=some (.sk o (.dK kvs))/\kvs.length<=i]
theorem Cv(ok:pU P w H h)(e:H a=some (.sk o (.dK kvs)))(hd:o.data=.dict es ep):
  (a==b7)=false/\∃vs,KV kvs vs/\h.DictAt (cX P w) a vs ep:=by
 let#[ho,z,y,vs,rel,o',es',ep',h1,h2,h3,h4]:=(show dH P w H h a (.sk o (.dK kvs)) from ok a _ e)
 rw[ho] at h1;cases h1;rw[hd] at h3;cases h3;exact#[y,vs,rel,o,es,ho,h2,hd,h4]
theorem Fv{P:bO}{w:cy}{K:aJ}{tg:Expr}(a it:Addr){o:Obj}{es:Array pS}{ep:Nat}(hd:o.data=.dict es ep)(kvs:List (Key×V)):
  Turn P w K tg (SK a o kvs) [it] it (λi h=>h.IsKeyIter it a i kvs.length ep) where
 mem:=by simp
 obj:=λi h st b hb=>by
  have e:b=it:=by simpa using hb
  subst e;let#[o,e,c,d]:=st;exact#[o,e,λv z=>by rw[d] at z;cases z]
 keep:=λi h h' st k=>by
  let#[o,e,r]:=st;exact#[o,k it (by simp) o e,r]
 item:=by
  k_go;subst hP hw hK;let#[hq,hl]:=hg;let#[_,vs,rel,da]:=Cv I.dD hq hd;let#[f0,f1,f2,f3,f4,f5]:=hf it (by simp);have hlen:=rel.length;have hk:=congrArg (λl=>l[i]?) rel.keys;dsimp[aB] at hk;let#[k,v]:=vs[i]'∅;have e1:vs[i]?=some vs[i]:=aa ∅;have e2:kvs[i]?=some kvs[i]:=aa hl;rw[e1,e2] at hk;have hk:kvs[i].1=vs[i].1:=aF hk;rw[hlen] at st;rwa[wpAny_pyNext_dict_item st da (k:=vs[i].1) (v:=vs[i].2) e1 λkey h' ik st' sb=>?_]
  have I1:Inv X pZ σ H {s with heap:=h'}:=I.turned (t':=s.toks) (λb o hb e=>(sb.2 b hb).trans e) f0 f1 f3 f4 f5;let#[o',e,c,d]:=id st';exact#[key,rfl,Aq (s:={s with heap:=h'}) e c d ⋯ #[kV vs[i].1,H,I1,PY ik,#[rfl,vs[i].1,kvs[i].2,by rw[e2,<-hk],rfl],by rw[hlen];erw[st'],λb hb=>(hf b hb).1]]
 done:=by
  k_go;subst hP hw hK;let#[hq,hl]:=hg;let#[_,vs,rel,da]:=Cv I.dD hq hd;let#[f0,f1,f2,f3,f4,f5]:=hf it (by simp);have hlen:=rel.length;rw[hlen] at st;erw[wpAny_pyNext_dict_end (I.ok.hd hc) st da (cV ∅) λh' eb=>#[rfl,I.turned (t':=s.toks) (λb o hb e=>eb b o hb e) f0 f1 f3 f4 f5]]
 self:=λ_ _ _ _ _ st h=>wpAny_pyIter_keyiter st h
section
variable{X:Cx}
theorem Inv.freeze(I:Inv X pZ σ H s)(e:H a=some u)(mu:SI (some u))(ho:s.heap.get? a=some o)(k:dH X.prog X.w (upd H a (.sk o u)) s.heap a u):
  Inv X pZ σ (upd H a (.sk o u)) s:=
 I.write (x:=a) (e:=a) (h':=s.heap) (t':=s.toks) (by rw[e];erw[mu]) (.inl rfl) (λb u _ q=>q) #[o,ho] #[ho,k]
def Us(tl:TE):TI:=λσ H R=>tl σ H λx H1=>∃a kvs,x=.ref a/\((H1 a=some (.dK kvs)/\∀o,R (SK a o kvs) (upd H1 a (.sk o (.dK kvs))))\/∃o,H1 a=some (.sk o (.dK kvs))/\R (SK a o kvs) H1)
theorem LY{tg l:Expr}{tl:TE}(hl:PE X l tl):PI X tg l (Us tl):=by
 intro pZ s σ H R I h;rwa[dW (hl pZ s σ H _ I h) λv s1 h9=>?_]
 let#[x,H1,I1,r1,a,kvs,rfl,q]:=h9;cases (show v=bj a from r1);obtain⟨o,H2,I2,e2,q2⟩:∃o H2,Inv X pZ σ H2 s1/\H2 a=some (.sk o (.dK kvs))/\R (SK a o kvs) H2:=by
  rcases q with⟨e,q⟩|⟨o,e,q⟩
  .have k:=(show dH X.prog X.w H1 s1.heap a (.dK kvs) from I1.dD a _ e)
   let#[_,_,_,_,o,_,_,ho,_]:=id k;exact#[o,_,I1.freeze e eh ho k,cg,q o]
  .exact#[o,H1,I1,e,q]
 obtain⟨es,ep,hd⟩:∃es ep,o.data=.dict es ep:=by
  let#[ho,_,_,_,_,o',es,ep,h1,_,h3,_]:=(show dH X.prog X.w H2 s1.heap a (.sk o (.dK kvs)) from I2.dD a _ e2)
  rw[ho] at h1;cases h1;exact#[es,ep,h3]
 let#[lo,vs,rel,da]:=Cv I2.dD e2 hd;rwa[wpAny_pyIter_dict lo da ?_];refine#[s1.heap.objs.size,[s1.heap.objs.size],_,SK a o kvs,H2,rfl,I2.kept (t':=s1.toks) λb o e=>aI _ e,Fv a _ hd kvs,#[_,bb _ rfl,rfl,by rw[rel.length];rfl],λc hc=>?_,q2];have e:c=s1.heap.objs.size:=by simpa using hc
 subst e;erw[I2.B9 (aq _) (I2.dD.fresh (aq _))]
end
def Z4(X:Cx)(pZ:List (Addr×Obj))(H:Hp)(b:Addr):Prop:=H b=none/\X.s₀.heap.objs.size<=b/\b≠X.env.locals/\(∀x c,X.env.cells.lookup x=some c->c≠b)/\∀p∈X.pn++pZ,p.1≠b
theorem Inv.Xc(I:Inv X pZ σ H s)(hb:s.heap.objs.size<=b):Z4 X pZ H b:=by
 have no:∀o,¬s.heap.get? b=some o:=λo e=>absurd (aS e) (l7.mpr hb)
 refine#[I.dD.fresh hb,aH I.sz hb,λe=>?_,λx c e z=>?_,λp hp z=>?_]
 .erw[absurd I.lt (l7.mpr (e▸hb))]
 .let#[v,o,ho,_]:=I.cell x c e
  rw[z] at ho;erw[no o ho]
 .have:=(I.pin p hp).1
  rw[z] at this;erw[no _ this]
open Builtin Builtin.ObjectAttr
noncomputable def pV(env:Env):List (Str×NameKind)->List (Str×Addr)->List (Str×Addr)
 |[],acc=>acc
 | (n,k)::r,acc=>pV env r (if k=.free then(n,(env.cells.lookup n).getD 0)::acc else acc)
theorem u7(h:∀n,(n,bT)∈scope.names->∃c,env.cells.lookup n=some c):closureFor scope env=pure (pV env scope.names []):=by
 have all:∀(l:List (Str×NameKind))(acc:List (Str×Addr)),(∀n,(n,bT)∈l->∃c,env.cells.lookup n=some c) ->
   (forIn (m:=Sem) l acc λ(x:Str×NameKind)(cs:List (Str×Addr))=>if (x.2==.free)=true then do let c <-cellOf env x.1;pure (eF ((x.1,c)::cs)) else pure (eF cs))=pure (pV env l acc):=by
  intro l;induction l with
  |nil=>intro acc _;rfl
  |cons p r ih=>
   intro acc hl;let#[n,k]:=p;rw[oE]
   have hr:∀m,(m,bT)∈r->∃c,env.cells.lookup m=some c:=λm hm=>hl m (aA _ hm)
   by_cases hk:k=.free
   .subst hk
    let#[c,hc]:=hl n aQ;have e:cellOf env n=pure c:=by unfold cellOf;rw[hc]
    show(do let x <-(if (bT==bT)=true then do let c <-cellOf env n;pure (eF ((n,c)::acc)) else pure (eF acc));_)=_
    rw[if_pos ⋯,e]
    show(forIn (m:=Sem) r ((n,c)::acc) _)=_
    rw[ih _ hr]
    show _=pure (pV env r (if bT=bT then(n,(env.cells.lookup n).getD 0)::acc else acc))
    rw[if_pos rfl,hc]
    rfl
   .have hb:(k==bT)=false:=by simpa using hk
    show(do let x <-(if (k==bT)=true then do let c <-cellOf env n;pure (eF ((n,c)::acc)) else pure (eF acc));_)=_
    rw[hb,if_neg ⋯]
    show(forIn (m:=Sem) r acc _)=_
    rw[ih _ hr]
    show _=pure (pV env r (if k=bT then(n,(env.cells.lookup n).getD 0)::acc else acc))
    rw[if_neg hk]
 have:=all scope.names [] h;unfold closureFor;simpa using this
theorem tN:∀(l:List (Str×NameKind))(acc:List (Str×Addr))(y:Str)(c:Addr),(pV env l acc).lookup y=some c->(c=(env.cells.lookup y).getD 0/\(y,bT)∈l)\/acc.lookup y=some c
 |[],acc,y,c,h=>.inr h
 | (n,k)::r,acc,y,c,h=>by
  rcases tN r _ y c h with⟨e,m⟩|q
  .erw[.inl #[e,aA _ m]]
  .by_cases hk:k=.free
   .rw[if_pos hk] at q
    by_cases e:y=n
    .subst e
     subst hk;rw[oZ] at q;cases q;erw[.inl #[rfl,aQ]]
    .rw[aO,show(y==n)=false by simpa using e] at q
     erw[.inr q]
   .rw[if_neg hk] at q
    erw[.inr q]
theorem AD:∀(l:List (Str×NameKind))(acc:List (Str×Addr))(y:Str),(∃c,acc.lookup y=some c)->∃c,(pV env l acc).lookup y=some c
 |[],_,_,h=>h
 | (n,k)::r,acc,y,h=>by
  rwa[AD r _ y ?_];by_cases hk:k=.free
  .rw[if_pos hk]
   by_cases e:y=n
   .subst e;exact#[_,oZ]
   .rw[aO,show(y==n)=false by simpa using e];erw[h]
  .rw[if_neg hk];erw[h]
theorem u9:∀(l:List (Str×NameKind))(acc:List (Str×Addr))(y:Str),(y,bT)∈l->∃c,(pV env l acc).lookup y=some c
 | (n,k)::r,acc,y,h=>by
  rcases aR.mp h with e|m
  .have e1:y=n:=congrArg DB e
   have e2:bT=k:=congrArg Prod.snd e;subst e1;rwa[AD r _ y ?_];rw[if_pos e2.symm]
   exact#[_,oZ]
  .erw[u9 r _ y m]
theorem qr:∀(l:List (Str×NameKind))(n:Nat)(acc:List (Str×Addr)),iZ n l acc=iZ n l []++acc
 |[],_,_=>rfl
 | (y,k)::r,n,acc=>by
  unfold iZ;split
  .rw[qr r _ ((y,n)::acc),qr r _ [(y,n)]];simp
  .erw[qr r n acc]
theorem yA:∀(l:List (Str×NameKind))(n:Nat)(y:Str)(c:Addr),(y,c)∈iZ n l []->(y,fX)∈l
 | (z,k)::r,n,y,c,h=>by
  unfold iZ at h;split at h
  .rename_i hk
   rw[qr] at h;rcases aL.mp h with h|h
   .erw[aA _ (yA r _ y c h)]
   .cases bC.mp h
    rw[beq_iff_eq.mp hk];erw[aQ]
  .erw[aA _ (yA r n y c h)]
theorem yB:∀(l:List (Str×NameKind))(n:Nat)(y:Str),(y,fX)∈l->∃c,(y,c)∈iZ n l []
 | (z,k)::r,n,y,h=>by
  unfold iZ;rcases aR.mp h with e|h
  .cases e
   rw[if_pos (show(fX==fX)=true from rfl),qr]
   exact#[n,ba _ aQ]
  .split
   .let#[c,q]:=yB r (n+1) y h
    rw[qr];exact#[c,bp _ q]
   .erw[yB r n y h]
theorem md{α:Type}:∀{l:List (Str×α)}{y:Str}{c:α},(y,c)∈l->∃c',l.lookup y=some c'
 | (z,d)::r,y,c,h=>by
  rw[aO]
  cases e:y==z with
  |true=>exact#[d,rfl]
  |false=>
   rcases aR.mp h with q|q
   .cases q;simp at e
   .erw[md q]
noncomputable def sM(scope:kh)(C:Addr):List (Str×Addr):=iZ (C+1) scope.names []
def Cx.va(X:Cx)(scope:kh)(C:Addr)(N:List Str)(s₀:aC)(H₀:Hp)(ex:List Addr):Cx:=
 {X with N:=N,s₀:=s₀,H₀:=H₀,env:=compEnvC scope (sM scope C++pV X.env scope.names []) C X.env,outer:=X.stack,stack:=X.stack,ex:=ex,fn:=λy=>scope.names.lookup y==some .cell,pn:=[],xe:=λ_ _=>False}
structure AE(X:Cx)(scope:kh)(x:List Str):Prop where
 kind:scope.kind=.function
 nc:∀y∈scope.names,y.2=.cell->scope.names.lookup y.1=some .cell
 lo:∀y∈scope.names,y.2=.local->scope.names.lookup y.1=some .local
 fr:∀y∈scope.names,y.2=.free->X.env.scope.names.lookup y.1=some .cell
 nm:∀y∈x,scope.names.lookup y=some .local\/scope.names.lookup y=some .cell
 nd:x.Nodup
 lk:∀y,scope.names.lookup y=some .free->(y,bT)∈scope.names
theorem gK{env : Env} : ∀(names : List (Str×NameKind))(x : Str)(k : NameKind),
    (names.map λ(n, k) => if (k==bT&&env.scope.kind==.function&&env.kindOf n==some .cell) then (n, fX) else (n, k)).lookup x=some k -> names.lookup x=some k \/ (k=.cell /\ names.lookup x=some .free)
  |[], _, _, h => by cases h
  | (n, k0)::r, x, k, h => by
    rw [ay] at h;dsimp only at h;by_cases hc : (k0==bT&&env.scope.kind==.function&&env.kindOf n==some .cell)=true
    · rw [if_pos hc] at h
      dsimp[aj, beq_iff_eq] at hc;by_cases e : (x==n)=true
      · rw [aO, e] at h
        cases h;rwa[.inr #[rfl, ?_]];rw [aO, e, hc.1.1]
      · have e' : (x==n)=false := by simpa using e
        rw [aO, e'] at h;rw [aO, e'];erw[gK r x k h]
    · rw [if_neg hc] at h
      by_cases e : (x==n)=true
      · rw [aO, e] at h
        cases h;rwa[.inl ?_];rw [aO, e]
      · have e' : (x==n)=false := by simpa using e
        rw [aO, e'] at h;rw [aO, e'];erw[gK r x k h]
section
variable{X:Cx}{pZ:List (Addr×Obj)}{σ:St}{H:Hp}{s:aC}{scope:kh}{x:List Str}
theorem AE.cells(B:AE X scope x)(ok:X.Ok):∀n,(n,bT)∈scope.names->∃c,X.env.cells.lookup n=some c:=λn hn=>ok.has n (.inl (B.fr _ hn rfl))
theorem AE.cl(B:AE X scope x)(ok:X.Ok)(h:(pV X.env scope.names []).lookup y=some c):X.env.cells.lookup y=some c/\X.env.scope.names.lookup y=some .cell:=by
 rcases tN _ _ _ _ h with⟨e,m⟩|q
 .let#[c',hc']:=B.cells ok y m
  rw[hc'] at e;rw[e]
  exact#[hc',B.fr _ m rfl]
 .cases q
theorem qu(B:AE X scope x)(h:(sM scope C++pV X.env scope.names []).lookup y=some c):
  ((y,c)∈sM scope C/\scope.names.lookup y=some .cell)\/((sM scope C).lookup y=none/\(pV X.env scope.names []).lookup y=some c):=by
 rw[GF] at h;cases q:(sM scope C).lookup y with
 |some d=>rw[q] at h;cases h;have m:=cU q;erw[.inl #[m,B.nc _ (yA _ _ _ _ m) rfl]]
 |none=>rw[q] at h;erw[.inr #[rfl,h]]
theorem AF(B:AE X scope x)(hf:scope.names.lookup y=some .free)(h:(pV X.env scope.names []).lookup y=some c):(sM scope C++pV X.env scope.names []).lookup y=some c:=by
 rw[GF]
 cases q:(sM scope C).lookup y with
 |some d=>have z:=B.nc _ (yA _ _ _ _ (cU q)) rfl;rw[hf] at z;cases z
 |none=>erw[h]
theorem AG{α:Type}{l:List (Str×α)}(h:l.Pairwise λx y=>x.2≠y.2):∀{a b:Str×α},a∈l->b∈l->a.2=b.2->a=b:=by
 induction h with
 |nil=>intro a b h;erw[nomatch h]
 |cons q _ ih=>
  intro a b ha hb e;rcases aR.mp ha with ea|ha'<;>rcases aR.mp hb with eb|hb'
  .rw[ea,eb]
  .subst ea;erw[absurd e (q _ hb')]
  .subst eb;erw[absurd e.symm (q _ ha')]
  .erw[ih ha' hb' e]
theorem Inv.block{C:Addr}{h':Heap}{t':Nat}{ex:List Addr}{N:List Str}{τ:St}(I:Inv X pZ σ H s)(B:AE X scope x)(hC:C=s.heap.objs.size)(hns:h'.Ns C λ_=>none)(oc:CellsOk h' (C+1) (sM scope C))
  (kp:∀b o,s.heap.get? b=some o->h'.get? b=some o) (hex:∀b∈ex,ua X pZ H b/\b<s.heap.objs.size) (hl:τ.length=N.length)
  (hτ:∀(i:Nat)(y:Str)(v:V),N[i]?=some y->τ[i]?=some (some v)->scope.names.lookup y=some .free/\∃j:Nat,X.N[j]?=some y/\σ[j]?=some (some v)):
  Inv (X.va scope C N s H ex) [] τ H {s with heap:=h',toks:=t'}:=by
 have ok:=I.ok;have cleq:∀y c,(X.va scope C N s H ex).env.cells.lookup y=some c->((y,c)∈sM scope C/\h'.IsCell c none/\C<c)\/(X.env.cells.lookup y=some c/\X.env.scope.names.lookup y=some .cell):=λy c e=>by
  rcases qu B e with q|q
  .erw[.inl #[q.1,oc.empty y c q.1]]
  .erw[.inr (B.cl ok q.2)]
 have old:∀y c,X.env.cells.lookup y=some c->c<C:=λy c e=>by
  let#[v,q]:=I.cell y c e;rw[hC];erw[q.lt]
 have hfr:H C=none:=by rw[hC];erw[I.dD.fresh (aq _)]
 refine#[#[ok.mod,B.kind,ok.glob,ok.blt,BV hC.symm,λy z c h1 h2=>?_,λy hy=>?_,λy c z e=>?_,ok.hd,ok.frames,.inl rfl,λb hb=>?_,λb o e=>I.bs b o e,aH ok.Lf I.sz,λb o e hb=>?_,λb hb=>?_,I.stack,I.DE],
  rfl,I.bare,Un.kept kp,#[_,hns,λi y v e1 e2 e3=>?_],λy c e=>?_,hfr,λy c e=>?_,λp hp=>absurd (show p∈([]:List (Addr×Obj)) from hp) (by simp),I.dD.kept kp,hl]
 .rcases cleq y c h1 with⟨m1,_,l1⟩|q1<;>rcases cleq z c h2 with⟨m2,_,l2⟩|q2
  .erw[congrArg DB (AG oc.apart m1 m2 rfl)]
  .erw[absurd (old z c q2.1) (l7.mpr (bA l1))]
  .erw[absurd (old y c q1.1) (l7.mpr (bA l2))]
  .erw[ok.inj y z c q1.1 q2.1]
 .have own:(y,fX)∈scope.names->∃c,(X.va scope C N s H ex).env.cells.lookup y=some c:=λm=>by
   let#[c,q]:=yB _ (C+1) _ m;erw[md (bp _ q)]
  have Xc:scope.names.lookup y=some .free->∃c,(X.va scope C N s H ex).env.cells.lookup y=some c:=λm=>by
   let#[c,q]:=u9 (env:=X.env) scope.names [] y (B.lk y m);exact#[c,AF B m q]
  rcases hy with h|h
  .rcases gK (env:=X.env) scope.names y .cell h with q|q
   .erw[own (cU q)]
   .erw[Xc q.2]
  .rcases gK (env:=X.env) scope.names y .free h with q|q
   .erw[Xc q]
   .erw[absurd q.1 ⋯]
 .rcases cleq y c e with q|q
  .show s.heap.objs.size<=c
   rw[<-hC];erw[bA q.2.2]
  .have z:scope.names.lookup y=some .cell:=beq_iff_eq.mp z
   rcases qu B e with w|w
   .erw[absurd (old y c q.1) (l7.mpr (bA (oc.empty y c w.1).2))]
   .let#[d,m]:=yB _ (C+1) _ (cU z)
    let#[d',m']:=md m;rw[show(sM scope C).lookup y=some d' from m'] at w;cases w.1
 .refine#[λz=>?_,λy c e z=>?_]
  .have:=(hex b hb).2
   rw[z,show(X.va scope C N s H ex).env.locals=C from rfl,hC] at this;erw[absurd this (cD _)]
  .rcases cleq y c e with q|q
   .have:=(hex b hb).2
    rw[<-z,<-hC] at this;erw[absurd this (l7.mpr (bA q.2.2))]
   .exact(hex b hb).1.2.2.2.2.1 y c q.1 z
 .let#[f0,f1,f2,f3,f4,f5]:=(hex b hb).1
  rcases f3 with z|z
  .erw[ok.Hm b o e z]
  .erw[absurd (av (aS (ok.bs b o e).1) z) (cD _)]
 .let#[f0,f1,f2,_]:=(hex b hb).1
  intro z;rcases aR.mp (I.yp b z) with q|q
  .erw[f1 q]
  .erw[f2 q]
 .let#[hf,j,hj,hv]:=hτ i y v e1 e2
  let#[m,_,hlk]:=I.loc;have hcell:=B.fr _ (B.lk y hf) rfl;let#[u,r,l]:=hlk j y v hj hv (.inr (.inl hcell));refine#[u,r,.inr #[?_,?_]]
  .show(Hb scope X.env).names.lookup y=some .cell\/(Hb scope X.env).names.lookup y=some .free
   have:=e3;rcases this with q|q|q
   .rcases gK (env:=X.env) scope.names y .local q with z|z
    .rw[hf] at z;cases z
    .erw[absurd z.1 ⋯]
   .erw[.inl q]
   .erw[.inr q]
  .rcases l with⟨k,_⟩|⟨_,c,hc,z⟩
   .have k':X.env.scope.names.lookup y=some .local:=k
    rw[hcell] at k';cases k'
   .let#[c',hc']:=u9 (env:=X.env) scope.names [] y (B.lk y hf)
    have hc2:=(B.cl ok hc').1;rw[hc] at hc2;cases hc2;let#[o,ho,hd]:=z;exact#[c,AF B hf hc',#[o,kp _ _ ho,hd]]
 .rcases cleq y c e with q|q
  .exact#[none,q.2.1]
  .let#[v,o,ho,hd]:=I.cell y c q.1
   exact#[v,o,kp _ _ ho,hd]
 .rcases cleq y c e with q|q
  .erw[I.dD.fresh (by rw[<-hC];exact bA q.2.2)]
  .erw[I.pX y c q.1]
theorem Inv.LZ(I:Inv X pZ σ H s)(J:Inv (X.va scope C N s H ex) [] τ H' s')(hex:∀b∈ex,ua X pZ H b):Inv X pZ σ H' s':=
 I.Tq (ch:=ex) J.os J.base J.dD J.bare λb hb=>#[(hex b hb).2.2.2.1,(hex b hb).2.1,(hex b hb).2.2.2.2.1,(hex b hb).2.2.2.2.2]
end
def L0(X:Cx)(ifs:List Expr)(t:TT):Prop:=
 ∀(pZ:List (Addr×Obj))(s:aC)(σ:St)(H:Hp)(Q:Bool->Hp->Prop),Inv X pZ σ H s->t σ H Q ->
  wpAny (bc X.prog X.w) X.A (forIn ifs true λc r=>if r=true then do let ok <-isTrue c X.env (eval c X.env);pure (eF ok) else pure (eF r)) (TP X pZ σ Q) X.xe s
noncomputable def Ut:TT:=λ_ H Q=>Q true H
theorem L1:L0 X [] Ut:=λ_ _ _ H _ I q=>wpAny_tests_nil #[H,I,q]
theorem L3(h:PT X c t):L0 X [c] t:=λpZ s σ H Q I q=>wpAny_tests_one (h pZ s σ H Q I q)
noncomputable def gM(σ:St)(ci:List Nat):St:=ci.map λj=>(σ[j]?).join
def Uu(K:Frag)(pr:Bool)(y:V)(H:Hp)(k:St->Prop):Prop:=match pr with
 |false=>k [some y]
 |true=>∃p a b,y=.ref p/\mq K H p [a,b]/\k [some a,some b]
abbrev N7(bd:V->Hp->(St->Prop)->Prop)(J:It)(D:Addr)(tc:TT)(te:TE)(caps:St)(R:Hp->Prop)(H1:Hp):Prop:=
 ∃W:Nat->Nat->List V->Hp->Prop,(∃m,W 0 m [] (upd H1 D (.lst [])))/\∀i m acc H2,W i m acc H2->H2 D=some (.lst acc)/\acc.length<sizeLine /\
  ((J.stop i H2/\R H2)\/(J.go i H2/\∀y H3,J.TR i H2 y H3->bd y H3 λτ=>tc (τ++caps) H3 λb H4=>
   if b=true then te (τ++caps) H4 λz H5=>H5 D=some (.lst acc)/\∃m',m'<m/\W (i+1) m' (acc++[z]) (upd H5 D (.lst (acc++[z]))) else ∃m',m'<m/\W (i+1) m' acc H4))
def HV(bd:V->Hp->(St->Prop)->Prop)(wi:TI)(ci:List Nat)(tc:TT)(te:TE):TE:=λσ H Q=>wi σ H λJ H1=>∀D,H1 D=none->N7 bd J D tc te (gM σ ci) (λH2=>Q (.ref D) H2) H1
structure yC(X:Cx)(scope:kh)(cn:List Str)(ci:List Nat):Prop where
 len:ci.length=cn.length
 at_:∀(k:Nat)(y:Str),cn[k]?=some y->∃j:Nat,ci[k]?=some j/\X.N[j]?=some y
 fr:∀y∈cn,scope.names.lookup y=some .free
section
variable{X:Cx}{pZ:List (Addr×Obj)}{σ:St}{H:Hp}{s:aC}{scope:kh}{x:List Str}
theorem L4{M:Model}{A:dN}{E:Value->aC->Prop}{s:aC}{scope:kh}{globals:Addr}{cl:List (Str×Addr)}{qual:Str}{env:Env}{Q:Env->aC->Prop}
  (hQ:Q (newEnv scope s.heap.objs.size globals (sM scope s.heap.objs.size++cl) qual none .none (some env) BU) {s with heap:=pushCells (s.heap.push {cls:=.type "dict",data:=.dict #[]}) scope.names}):
  wpAny M A (BX scope globals cl [] qual none .none (some env)) Q E s:=by
 dsimp[BX,qF,if_true];refine ab (wpAny_alloc ?_);refine ab (wpAny_layCells _ (λname kind cells=>by cases hkc:kind==fX<;>simp[hkc]) _ _ _ _ ?_);rw[show({s with heap:=s.heap.push {cls:=.type "dict",data:=.dict #[]} }:aC).heap.objs.size=s.heap.objs.size+1 from ig ..,qr]
 erw[ab (ax (ax hQ))]
theorem sN{cn:List Str}{X:Cx}{scope:kh}{ci:List Nat}(cp:yC X scope cn ci)(B:AE X scope x)(hn:cn.Nodup):(x++cn).Nodup:=
 dq.mpr #[B.nd,hn,λy hy z hz e=>(by
  subst e;have q:=cp.fr y hz;rcases B.nm y hy with z|z<;>(rw[z] at q;cases q))]
def SM(X:Cx)(tg:Expr)(scope:kh)(x cn:List Str)(bd:V->Hp->(St->Prop)->Prop):Prop:=
 ∀(C:Addr)(s₀:aC)(H₀:Hp)(ex:List Addr)(pZ:List (Addr×Obj))(s:aC)(τ caps:St)(H:Hp)(v:V)(u:Value)(k:St->Prop),Inv (X.va scope C (x++cn) s₀ H₀ ex) pZ (τ++caps) H s->τ.length=x.length->RelV v u->bd v H k ->
  wpAny (bc X.prog X.w) X.A (xZ tg (X.va scope C (x++cn) s₀ H₀ ex).env u) (λ_ s'=>∃τ',τ'.length=x.length/\Inv (X.va scope C (x++cn) s₀ H₀ ex) pZ (τ'++caps) H s'/\k τ') (λ_ _=>False) s
theorem ng{env : Env}{k : NameKind}(hk : k≠.free) : ∀{names : List (Str×NameKind)}{x : Str}, names.lookup x=some k ->
    (names.map λ(n, k) => if (k==bT&&env.scope.kind==.function&&env.kindOf n==some .cell) then (n, fX) else (n, k)).lookup x=some k
  | (n, k')::r, x, h => by
    rw [ay];dsimp only;rw [aO] at h;cases e : x==n with
    |true =>
      rw [e] at h; cases h;rw [if_neg (by simp [hk]), aO, e]
    |false =>
      rw [e] at h;split <;> (rw [aO, e]; exact ng hk h)
theorem AE.loc(B:AE X scope x){C:Addr}{N:List Str}{s₀:aC}{H₀:Hp}{ex:List Addr}{y:Str}(hy:y∈x):
  Loc (X.va scope C N s₀ H₀ ex).env.scope y/\((X.va scope C N s₀ H₀ ex).fn y=true\/(X.va scope C N s₀ H₀ ex).env.scope.names.lookup y=some .local):=by
 rcases B.nm y hy with z|z
 .have q:=ng (env:=X.env) (k:=.local) (by intro e;cases e) z
  exact#[.inl q,.inr q]
 .exact#[.inr (ng (env:=X.env) (k:=.cell) (by intro e;cases e) z),.inl (beq_iff_eq.mpr z)]
theorem Yi{α:Type}{l:List α}(h:l.length=2):∃a b,l=[a,b]:=by
 cases l with
 |nil=>cases h
 |cons a t=>let#[b,e]:=jw.mp (mR h);exact#[a,b,by rw[e]]
theorem HW(B:AE X scope [y])(cp:yC X scope cn ci)(hnd:cn.Nodup):SM X (.Name y py) scope [y] cn (Uu X.K false):=by
 intro C s₀ H₀ ex pZ s τ caps H v u k I hl r h;have hx:=B.loc (C:=C) (N:=[y]++cn) (s₀:=s₀) (H₀:=H₀) (ex:=ex) (y:=y) (by simp);let#[o,rfl]:=jw.mp hl;erw[wd (qU I (sN cp B hnd) (i:=0) rfl hx.1 r (λs8 J8=>#[[some v],rfl,J8,h]) hx.2)]
theorem HX{y z:Str}{py pz pt:Pos}{n:Nat}{cn:List Str}{ci:List Nat}(B:AE X scope [y,z])(cp:yC X scope cn ci)(hnd:cn.Nodup)(hc:X.calm=true):SM X (.Tuple [.Name y py,.Name z pz] n pt) scope [y,z] cn (Uu X.K true):=by
 intro C s₀ H₀ ex pZ s τ caps H v u k I hl r h;have hy:=B.loc (C:=C) (N:=[y,z]++cn) (s₀:=s₀) (H₀:=H₀) (ex:=ex) (y:=y) (by simp);have hz:=B.loc (C:=C) (N:=[y,z]++cn) (s₀:=s₀) (H₀:=H₀) (ex:=ex) (y:=z) (by simp);have nd:=sN cp B hnd;let#[p,a,b,e,hq,q]:=h;let#[o,o',rfl]:=Yi hl;rwa[fL (Hq (X:=X.va scope C ([y,z]++cn) s₀ H₀ ex) (pos:=pt) (k:=n) hc (qX (qW (i:=0) (pos:=py) nd rfl hy.1 hy.2) (qX (qW (i:=1) (pos:=pz) nd rfl hz.1 hz.2) DG)) rfl rfl pZ s _ H v u (λσ' H'=>H'=H/\σ'=[some a,some b]++caps) I r ?_) (λ_ s' #[σ',H',I',e1,e2]=>?_) λ_ _ z=>z]
 .exact#[p,[a,b],e,hq,rfl,a,[b],rfl,b,[],rfl,rfl,rfl,rfl]
 .subst e1 e2
  exact#[[some a,some b],rfl,I',q]
theorem AH{elt iter tg:Expr}{bd:V->Hp->(St->Prop)->Prop}{pos:Pos}{ifs:List Expr}{it:Addr}{fp:List Addr}{tn:Nat->Heap->Prop}{J:It}{tc:TT}{te:TE}{cn:List Str}{ci:List Nat}{RR:Value->Addr->Result->aC->Prop}{Rq:Addr->Hp->Prop}{E:Value->aC->Prop}
  (I:Inv X pZ σ H s) (B:AE X scope x) (cp:yC X scope cn ci) (hnd:cn.Nodup) (hcalm:X.calm=true) (ht:SM X tg scope x cn bd) (T:Turn X.prog X.w X.K tg J fp it tn) (t0:tn 0 s.heap) (hf:∀b∈fp,ua X pZ H b)
  (hc:∀C s₀ H₀ ex,L0 (X.va scope C (x++cn) s₀ H₀ ex) ifs tc) (he:∀C s₀ H₀ ex,PE (X.va scope C (x++cn) s₀ H₀ ex) elt te)
  (h:∀D,H D=none->N7 bd J D tc te (gM σ ci) (Rq D) H)
  (fin:∀C D H5 s5,Inv X pZ σ H5 s5->Rq D H5->(∃m,s5.heap.Ns C m)->Z4 X pZ H5 C->RR (.ref D) C (.ok .next) s5):
  wpAny (bc X.prog X.w) X.A (newList []) (λacc s₃=>wpAny (bc X.prog X.w) X.A (BX scope X.env.globals (pV X.env scope.names []) [] X.env.qual none .none (some X.env)) (λcenv s₄=>
   qj (bc X.prog X.w) X.A (.compStart (.ListComp elt [#[tg,iter,ifs,0]] scope pos) 0 (.ref it) acc {cenv with scope:=Hb scope X.env}) (RR acc cenv.locals) s₄) E s₃) E s:=by
 have ok:=I.ok;let#[W,#[m0,w0],turn]:=h s.heap.objs.size (I.dD.fresh (aq _));generalize hD:s.heap.objs.size=D at turn w0;refine dA ?_;have I2:Inv X pZ σ (upd H D (.lst [])) {s with heap:=s.heap.push {cls:=.type "list",dict:=none,data:=.seq ([]:List Value).toArray} }:=by
  have:=I.Uk (its:=[]) (ys:=[]) (t':=s.toks) .nil (b8 _);rw[hD] at this;erw[this]
 generalize hH2:s.heap.push {cls:=.type "list",dict:=none,data:=.seq ([]:List Value).toArray}= h2 at I2 ⊢;have k2:∀b o,s.heap.get? b=some o->h2.get? b=some o:=λb o e=>by rw[<-hH2];erw[aI _ e]
 have sz2:h2.objs.size=s.heap.objs.size+1:=by rw[<-hH2,ig]
 have fpl:∀b∈fp,b<s.heap.objs.size:=λb hb=>by
  let#[o,e,_]:=T.obj _ _ t0 b hb;erw[aS e]
 have nD:∀b∈fp,b≠D:=λb hb=>by rw[<-hD];erw[aY (fpl b hb)]
 have hf2:∀b∈fp,ua X pZ (upd H D (.lst [])) b:=λb hb=>#[by rw[cb (nD b hb)];exact(hf b hb).1,(hf b hb).2]
 have t2:tn 0 h2:=T.keep _ _ _ t0 λb _ o e=>k2 b o e
 show wpAny _ _ _ _ _ {s with heap:=h2}
 rwa[L4 ?_];generalize hH3:pushCells (h2.push {cls:=.type "dict",data:=.dict #[]}) scope.names=h3;have kp3:∀b o,h2.get? b=some o->h3.get? b=some o:=λb o e=>by rw[<-hH3];erw[pushCells_keeps _ _ b o (aI _ e)]
 have ns3:h3.Ns h2.objs.size λ_=>none:=by rw[<-hH3];exact(Heap.Ns.new h2 (.type "dict")).keeps (pushCells_keeps _ _)
 have oc3:CellsOk h3 (h2.objs.size+1) (sM scope h2.objs.size):=by
  have:=cellsFrom_ok scope.names (h2.push {cls:=.type "dict",data:=.dict #[]}) (h2.objs.size+1) [] #[λ_ _ hm=>(nomatch hm),wO] (by rw[ig];erw[aq _]);rw[ig,hH3] at this;erw[this]
 have hl:((x.map λ_=>none)++gM σ ci:St).length=(x++cn).length:=by
  rw[az,az,ak,gM,ak,cp.len]
 have J3:Inv (X.va scope h2.objs.size (x++cn) {s with heap:=h2} (upd H D (.lst [])) fp) [] ((x.map λ_=>none)++gM σ ci) (upd H D (.lst [])) {s with heap:=h3,toks:=s.toks+0}:=
  I2.block (s:={s with heap:=h2}) (h':=h3) (t':=s.toks+0) (N:=x++cn) B rfl ns3 oc3 kp3 (λb hb=>#[hf2 b hb,by rw[sz2];exact bf (fpl b hb)]) hl (λi y v e1 e2=>by
   by_cases lt:i<x.length
   .rw[ah (by simpa using lt),aB,aa lt] at e2
    cases e2
   .have e1':cn[i-x.length]?=some y:=by rw[aw ∅] at e1;erw[e1]
    have e2':(gM σ ci)[i-x.length]?=some (some v):=by rw[aw (by simpa using lt),ak] at e2;erw[e2]
    refine#[cp.fr y (af e1'),?_];let#[j,hj,hy]:=cp.at_ _ y e1';refine#[j,hy,?_];rw[gM,aB,hj] at e2';have e3:(σ[j]?).join=some v:=aF e2';cases q:σ[j]? with
    |none=>rw[q] at e3;cases e3
    |some w=>rw[q] at e3;erw[congrArg some e3])
 generalize hY:X.va scope h2.objs.size (x++cn) {s with heap:=h2} (upd H D (.lst [])) fp=Y at J3;have ePr:Y.prog=X.prog:=by rw[<-hY];rfl
 have eW:Y.w=X.w:=by rw[<-hY];rfl
 have eK:Y.K=X.K:=by rw[<-hY];rfl
 have eC:Y.calm=true:=by rw[<-hY];erw[hcalm]
 have eA:Y.A=X.A:=by rw[<-hY];rfl
 have eE:Y.env=compEnvC scope (sM scope h2.objs.size++pV X.env scope.names []) h2.objs.size X.env:=by rw[<-hY];rfl
 have hPc:L0 Y ifs tc:=by rw[<-hY];erw[hc _ _ _ _]
 have hPe:PE Y elt te:=by rw[<-hY];erw[he _ _ _ _]
 have eN:Y.N=x++cn:=by rw[<-hY];rfl
 have eX:Y.xe=λ_ _=>False:=by rw[<-hY];rfl
 have TY:Turn Y.prog Y.w Y.K tg J fp it tn:=by rw[ePr,eW,eK];erw[T]
 have fpY:∀{H':Hp},(∀b∈fp,H' b=none)->∀b∈fp,ua Y [] H' b:=λhn b hb=>by
  let#[f0,f1,f2,f3,f4,f5]:=hf2 b hb;have lt2:b<h2.objs.size:=by rw[sz2];erw[bf (fpl b hb)]
  refine#[hn b hb,λz=>?_,λz=>?_,.inl (by rw[<-hY];erw[hb]),λy c e=>?_,λp hp=>?_]
  .have z':b=h2.objs.size:=by rw[eE] at z;erw[z]
   erw[absurd lt2 (by rw[z'];exact cD _)]
  .have z':b∈GJ X.stack:=by rw[<-hY] at z;erw[z]
   rcases aR.mp (I.yp b z') with q|q
   .erw[f1 q]
   .erw[f2 q]
  .rw[eE] at e
   rcases qu B e with q|q
   .intro z
    have:=(oc3.empty y c q.1).2;rw[z] at this;erw[absurd lt2 (l7.mpr (bA this))]
   .erw[f4 y c (B.cl ok q.2).1]
  .have:p∈([]:List (Addr×Obj)):=by rw[<-hY] at hp;erw[hp]
   erw[absurd this (by simp)]
 have loop:∀s4:aC,s4={s with heap:=h3,toks:=s.toks+0}->qj (bc X.prog X.w) X.A (.compLoop (.ListComp elt [#[tg,iter,ifs,0]] scope pos) 0 (.ref it) (.ref D) Y.env) (RR (.ref D) h2.objs.size) s4:=by
  rintro s4 rfl;rwa[codeAny_loop rfl (λn s'=>∃i acc τ H',τ.length=x.length/\Inv Y [] (τ++gM σ ci) H' s'/\tn i s'.heap/\(∀b∈fp,H' b=none)/\W i n acc H') ?_ m0 #[0,[],x.map λ_=>none,_,by simp,J3,T.keep _ _ _ t2 λb _ o e=>kp3 b o e,λb hb=>(hf2 b hb).1,w0]];rintro n s5 ⟨i,acc,τ,H5,hτ,J5,t5,f5,w5⟩;let#[hD5,hz5,alt]:=turn i n acc H5 w5;show wpAny _ X.A ((compTurn (.ListComp elt [#[tg,iter,ifs,0]] scope pos) 0 (.ref it) (.ref D) Y.env).onRaise (λx=>do noteFrame x Y.env;theTreesLotGoes x)) _ _ s5;rwa[wpAny_noted ?_];rw[compTurn_list,<-eA]
  rcases alt with⟨stop,q5⟩|⟨go,step⟩
  .rwa[ab (EX (ab ?_))]
   rw[<-ePr,<-eW]
   rwa[dW (TY.done Y rfl rfl rfl eC i [] s5 _ H5 _ J5 (fpY f5) t5 stop) λr s6 h9=>?_]
   let#[hr,J6]:=h9;subst hr;rwa[ax ?_];have J6':Inv (X.va scope h2.objs.size (x++cn) {s with heap:=h2} (upd H D (.lst [])) fp) [] (τ++gM σ ci) H5 s6:=by rw[hY];erw[J6]
   have I6:=I2.LZ J6' hf2;let#[m6,ns6,_]:=J6'.loc;have fC:=I2.Xc (b:=h2.objs.size) (aq _);erw[fin h2.objs.size D H5 s6 I6 q5 #[m6,ns6] #[J6'.free,fC.2]]
  .rwa[ab (EX (ab ?_))]
   rw[<-ePr,<-eW]
   rwa[dW (TY.item Y rfl rfl rfl eC i [] s5 _ H5 _ J5 (fpY f5) t5 go) λr s6 h9=>?_]
   let#[u,hr,h6]:=h9;subst hr;rwa[ab ?_];rw[eA,<-eA]
   rwa[dW h6 λ_ s7 h9=>?_]
   let#[y,H7,J7,r7,y7,t7,f7]:=h9;have J7':=J7.pinned (fpY f7) (T.obj _ _ t7);have noE:∀{α:Type}{t:Sem α}{Q:α->aC->Prop}{E:Value->aC->Prop}{s:aC},wpAny (bc Y.prog Y.w) Y.A t Q Y.xe s->wpAny (bc Y.prog Y.w) Y.A t Q E s:=λh=>fL h (λ_ _ z=>z) λ_ _ z=>by rw[eX] at z;erw[z.elim]
   have ht':wpAny (bc Y.prog Y.w) Y.A (xZ tg Y.env u) (λ_ s8=>∃τ',τ'.length=x.length/\Inv Y ([]++sC fp s7.heap) (τ'++gM σ ci) H7 s8/\tc (τ'++gM σ ci) H7 λb H4=>
     if b=true then te (τ'++gM σ ci) H4 λz H5=>H5 D=some (.lst acc)/\∃m',m'<n/\W (i+1) m' (acc++[z]) (upd H5 D (.lst (acc++[z]))) else ∃m',m'<n/\W (i+1) m' acc H4) (λ_ _=>False) s7:=by
    have st:=step y H7 y7;subst hY;erw[ht _ _ _ _ _ s7 τ _ H7 y u _ J7' hτ r7 st]
   refine ab (fL ht' (λ_ s8 h9=>?_) λ_ _ z=>z.elim);let#[τ',hτ',J8',q8]:=h9;refine ab (noE (dW (hPc _ s8 _ H7 _ J8' q8) λb s9 h9=>?_));let#[H9,J9,q9]:=h9;have again:∀{acc':List V}{H':Hp}{s':aC},Inv Y ([]++sC fp s7.heap) (τ'++gM σ ci) H' s'->(∃m',m'<n/\W (i+1) m' acc' H')->∃m,m<n/\∃i acc τ H',τ.length=x.length/\Inv Y [] (τ++gM σ ci) H' s'/\tn i s'.heap/\(∀b∈fp,H' b=none)/\W i m acc H':=λ{acc' H' s'}J' ⟨m',lt,w'⟩=>by
    refine#[m',lt,i+1,acc',τ',H',hτ',J'.qY,T.keep _ _ _ t7 λb hb o e=>(J'.pin (b,o) (ba _ (ba _ (m9 hb e)))).1,λb hb=>?_,w'];let#[o,e,d]:=T.obj _ _ t7 b hb;exact(J'.pin (b,o) (ba _ (ba _ (m9 hb e)))).2.1
   cases b with
   |false=>erw[ax #[rfl,again J9 q9]]
   |true=>
    rwa[ab (ab (noE (dW (hPe _ s9 _ H9 _ J9 q9) λv s10 h9=>?_)))];let#[z,H10,J10,r10,hD10,q10]:=h9;rwa[ab (noE (dW (sG _ s10 _ H10 (.ref D) [z] (.ref D) [v] (λ_ H11=>H11=upd H10 D (.lst (acc++[z]))) J10 rfl (.cons r10 .nil) #[D,acc,z,rfl,rfl,hD10,hz5,rfl]) λv11 s11 h9=>?_))];let#[z11,H11,J11,_,e11]:=h9;subst e11;erw[ax (ax #[rfl,again J11 q10])]
 rw[eE] at loop;subst hD;erw[codeAny_compStart_list (loop _ rfl) (T.self _ 0 _ _ _ (T.keep _ _ _ t2 λb _ o e=>kp3 b o e) (loop _ rfl))]
theorem L5{elt iter tg:Expr}{bd:V->Hp->(St->Prop)->Prop}{pos:Pos}{ifs:List Expr}{wi:TI}{tc:TT}{te:TE}{cn:List Str}{ci:List Nat}(B:AE X scope x)(cp:yC X scope cn ci)(hnd:cn.Nodup)(hcalm:X.calm=true)(ht:SM X tg scope x cn bd)(hi:PI X tg iter wi)
  (hc:∀C s₀ H₀ ex,L0 (X.va scope C (x++cn) s₀ H₀ ex) ifs tc) (he:∀C s₀ H₀ ex,PE (X.va scope C (x++cn) s₀ H₀ ex) elt te) (hs:∀x,foldedSetIterable iter X.env x=pure x:=by intro _;rfl):
  PE X (.ListComp elt [#[tg,iter,ifs,0]] scope pos) (HV bd wi ci tc te):=by
 k_ne;rw[eval_ListComp]
 rwa[EY (use:=none) rfl hs (u7 (B.cells I.ok)) B.kind B.lo (dW (hi pZ s σ H _ I h) λv s1 h1=>dW h1 λitv s2 h2=>?_)];let#[it,fp,tn,J,H2,e,I2,T,t2,f2,q]:=h2;subst e;rwa[AH (RR:=λacc C=>compPost (bc X.prog X.w) X.A X.xe none (EP X pZ σ Q) acc C) (Rq:=λD H2=>Q (.ref D) H2) I2 B cp hnd hcalm ht T t2 f2 hc he q λC D H5 s5 I5 q5 hn fC=>?_]
 let#[m,hm]:=hn;refine#[m,hm,λh' sb=>#[.ref D,H5,?_,rfl,q5]];erw[I5.turned (it:=C) (t':=s5.toks) (λb o hb e=>(sb.2 b hb).trans e) fC.1 fC.2.2.1 (.inr fC.2.1) fC.2.2.2.1 fC.2.2.2.2]
theorem Cw{elt iter tg:Expr}{bd:V->Hp->(St->Prop)->Prop}{py pos spos:Pos}{ifs:List Expr}{wi:TI}{tc:TT}{te:TE}{cn:List Str}{ci:List Nat}{i:Nat}{y:Str}(B:AE X scope x)(cp:yC X scope cn ci)(hnd:cn.Nodup)(hcalm:X.calm=true)(ht:SM X tg scope x cn bd)(hi:PI X tg iter wi)
  (hc:∀C s₀ H₀ ex,L0 (X.va scope C (x++cn) s₀ H₀ ex) ifs tc) (he:∀C s₀ H₀ ex,PE (X.va scope C (x++cn) s₀ H₀ ex) elt te) (hN:X.N.Nodup) (hy:X.N[i]?=some y) (hk:X.env.scope.names.lookup y=some .local)
  (hsw:hU (.ListComp elt [#[tg,iter,ifs,0]] scope pos) (some (.Name y py)) spos.line X.env=pure true) (hs:∀x,foldedSetIterable iter X.env x=pure x:=by intro _;rfl):
  PS X (.Assign [.Name y py] (.ListComp elt [#[tg,iter,ifs,0]] scope pos) spos) (TM (HV bd wi ci tc te) (xf i)):=by
 intro pZ s σ H D I h;rw[exec_Assign_Name_used _ _ _ _ hsw]
 refine ab (EX (ab ?_));show wpAny _ X.A (do let _ <-comprehension (.ListComp elt [#[tg,iter,ifs,0]] scope pos) scope X.env _ (newList []) false (eval iter X.env) (some (xZ (.Name y py) X.env))) _ _ s;refine ab (fL (EY (use:=some (xZ (.Name y py) X.env)) (Q:=λ_ s'=>SP X pZ D .next s') rfl hs (u7 (B.cells I.ok)) B.kind B.lo (dW (hi pZ s σ H _ I h) λv s1 h1=>dW h1 λitv s2 h2=>?_))
  (λ_ s' hq=>ax (ax hq)) λ_ _ e=>e)
 let#[it,fp,tn,J,H2,e,I2,T,t2,f2,q]:=h2;subst e;rwa[AH (RR:=λacc C=>compPost (bc X.prog X.w) X.A X.xe (some (xZ (.Name y py) X.env)) (λ_ s'=>SP X pZ D .next s') acc C) (Rq:=λD' H2=>(xf i) (.ref D') σ H2 D.nx) I2 B cp hnd hcalm ht T t2 f2 hc he q λC D' H5 s5 I5 q5 hn fC=>?_]
 let#[m,hm]:=hn;show wpAny _ X.A (xZ (.Name y py) X.env (.ref D')) _ _ _;refine wd (wZ (v:=.ref D') I5 hN hy (.inl hk) rfl (λs6 I6 sb6=>?_) (.inr hk));let#[a,sb,ha]:=sb6;have nC:C≠a:=by
  rcases ha with z|z
  .rw[z];erw[fC.2.2.1]
  .intro w;erw[fC.2.2.2.1 y a z w.symm]
 refine#[m,hm.sameBut sb nC,λh' sb'=>#[_,H5,?_,q5]];erw[I6.turned (it:=C) (t':=s6.toks) (λb o hb e=>(sb'.2 b hb).trans e) fC.1 fC.2.2.1 (.inr fC.2.1) fC.2.2.2.1 fC.2.2.2.2]
noncomputable def Uv(z:Str):It:=#[λi _=>i<z.cps.size,λi H x H'=>H'=H/\∃c,z.cps[i]?=some c/\x=.str #[(List.toArray [c])],λi _=>z.cps.size<=i]
theorem HY{P:bO}{w:cy}{K:Frag}{tg:Expr}(it:Addr)(z:Str)(t:Tok)(b:Bool):Turn P w K tg (Uv z) [it] it (λi h=>h.IsStrIter it (if b then "str_ascii_iterator" else "str_iterator") z t i) where
 mem:=by simp
 obj:=λi h st c hc=>by
  have e:c=it:=by simpa using hc
  subst e;let#[o,e,_,d]:=st;exact#[o,e,λv q=>by rw[d] at q;cases q]
 keep:=λi h h' st k=>by
  let#[o,e,c,d]:=st;exact#[o,k it (by simp) o e,c,d]
 item:=by
  k_go;subst hP hw hK;let#[f0,f1,f2,f3,f4,f5]:=hf it (by simp);have hx:z.cps[i]?=some (z.cps[i]'hg):=iz hg;have done:∀h',h'.IsStrIter it (if b then "str_ascii_iterator" else "str_iterator") z t (i+1)->gc it s.heap h' ->
    ∃u,(some (lx #[(List.toArray [z.cps[i]'hg])] s.toks):Option Value)=some u/\wpAny (bc X.prog X.w) X.A (qE tg (.ref it) u) (λ_ s2=>∃x H',Inv X pZ σ H' s2/\RelV x u/\(Uv z).TR i H x H'/\s2.heap.IsStrIter it (if b then "str_ascii_iterator" else "str_iterator") z t (i+1)/\∀b∈[it],H' b=none) E {s with heap:=h',toks:=s.toks+1}:=λh' st' sb=>by
   have I1:Inv X pZ σ H {s with heap:=h',toks:=s.toks+1}:=I.turned (t':=s.toks+1) (λb o hb e=>(sb.2 b hb).trans e) f0 f1 f3 f4 f5;let#[o,e,c,d]:=id st';exact#[_,rfl,Aq (s:={s with heap:=h',toks:=s.toks+1}) e c d (by cases b<;>decide) #[.str #[(List.toArray [z.cps[i]'hg])],H,I1,#[_,rfl],#[rfl,_,hx,rfl],st',λb hb=>(hf b hb).1]]
  cases b with
  |true=>erw[wpAny_pyNext_ascii_item st hx λh' st' sb=>done h' st' sb]
  |false=>erw[wpAny_pyNext_wide_item st hx λh' st' sb=>done h' st' sb]
 done:=by
  k_go;subst hP hw hK;let#[f0,f1,f2,f3,f4,f5]:=hf it (by simp);have hx:z.cps[i]?=none:=Aa hg;cases b with
  |true=>erw[wpAny_pyNext_ascii_end (I.ok.hd hc) st hx λh' eb=>#[rfl,I.turned (t':=s.toks) (λb o hb e=>eb b o hb e) f0 f1 f3 f4 f5]]
  |false=>erw[wpAny_pyNext_wide_end (I.ok.hd hc) st hx λh' eb=>#[rfl,I.turned (t':=s.toks) (λb o hb e=>eb b o hb e) f0 f1 f3 f4 f5]]
 self:=λA i s Q E st h=>by
  cases b with
  |true=>erw[wpAny_pyIter_striter_ascii st h]
  |false=>erw[wpAny_pyIter_striter_wide st h]
end
noncomputable abbrev tx(l:List Nat):Str:=#[l.toArray]
theorem Uw(z:Str):z=tx z.cps.toList:=by
 let#[a]:=z;simp
theorem yD(a b:List Nat):tx a++tx b=tx (a++b):=by
 show Str.mk (a.toArray++b.toArray)=Str.mk (a++b).toArray
 simp
theorem dv(a:List Nat):(tx a).length=a.length:=by simp[G8]
theorem qv(h:tx a=tx b):a=b:=by
 have:=congrArg (λz:Str=>z.cps.toList) h;simpa using this
theorem N8:(tx a=tx b)↔a=b:=#[qv,λh=>by rw[h]]
theorem DP:(V.str (tx a)=V.str (tx b))↔a=b:=#[λh=>qv (V.str.inj h),λh=>by rw[h]]
section
variable{X:Cx}
theorem Fw:gG X (cF .Add) (λx y H Q=>∃a b,x=.str (tx a)/\y=.str (tx b)/\a.length+b.length<=sizeLine/\Q (.str (tx (a++b))) H):=by
 x_go;let#[a,b,rfl,rfl,hz,q]:=h;rwa[Cf pZ s σ H _ _ v u Q I rx ry #[tx a,tx b,rfl,rfl,by rw[dv,dv];erw[hz],?_]];rw[yD]
 erw[q]
theorem Cy:gG X (ie .Add) (λx y H Q=>∃a b,x=.str (tx a)/\y=.str (tx b)/\a.length+b.length<=sizeLine/\Q (.str (tx (a++b))) H):=by
 x_go;let#[a,b,rfl,rfl,hz,q]:=h;rwa[Ar pZ s σ H _ _ v u Q I rx ry #[tx a,tx b,rfl,rfl,by rw[dv,dv];erw[hz],?_]];rw[yD]
 erw[q]
theorem L6(h:c∈l):Txt.find (tx l) (tx [c])=((l.idxOf c:Nat):Int)/\(Builtin.Str.occurrences (tx l) (tx [c]) 0 (tx l).length 1).isEmpty=false:=by
 have h2:(!(Builtin.Str.occurrences (tx l) #[(List.toArray [c])] 0 (tx l).length 1).isEmpty)=true:=by rw[StrLaws.found_one];simpa using h
 refine#[?_,by simpa using h2];have at_iff:∀i,StrLaws.At (tx l) (tx [c]) (tx l).length i↔l[i]?=some c:=λi=>by
  have:=StrLaws.subAt_one (tx l) c i;simpa[StrLaws.At] using this
 rcases find_whole (tx l) (tx [c]) with⟨_,no⟩|⟨i,e,hi,lo⟩
 .let#[j,hj,ej]:=qH h
  erw[absurd ((at_iff j).mpr (by rw[aa hj,ej])) (no j)]
 .rw[e]
  have hi':=(at_iff i).mp hi;let#[hlt,ei]:=ae.mp hi';have e1:l.idxOf c=i:=by
   have hk:=bD h;rcases KA (l.idxOf c) i with q|q|q
   .erw[absurd ((at_iff _).mpr (by rw[aa hk,eG])) (lo _ q)]
   .erw[q]
   .have:=List.not_of_lt_findIdx (p:=(·==c)) (xs:=l) (i:=i) q
    simp[ei] at this
  rw[e1]
def PZ:V->List V->Hp->VK->Prop:=λx xs H Q=>∃l c,x=.str (tx l)/\xs=[.str (tx [c])]/\c∈l/\Q (.int ((l.idxOf c:Nat):Int)) H
theorem AI(hA:X.A.handled=none):Cp X "str.index" PZ:=by
 intro pZ s σ H x xs v us Q I rx rs h;let#[l,c,rfl,rfl,hc,q]:=h;let#[t,rfl]:=rx;let#[u,rfl,t',rfl]:=vals1 rs;let#[e,ne]:=L6 hc;rwa[index_or hA (λz w=>?_) λ_ _=>#[.int _,H,I.tok _,#[_,rfl],by rw[e];erw[q]]]
 rw[ne] at w;cases w
end
noncomputable def vb(sep:List Nat):List (List Nat)->List Nat
 |[]=>[]
 |[x]=>x
 |x::r=>x++sep++vb sep r
theorem L7(sep:List Nat):∀ts:List (List Nat),Txt.join (tx sep) (ts.map tx)=tx (vb sep ts):=by
 intro ts;show Builtin.Str.glued (tx sep) (ts.map tx)=_;rw[StrLaws.glued_eq_join]
 induction ts with
 |nil=>rfl
 |cons a r ih=>
  cases r with
  |nil=>rfl
  |cons b r=>
   show tx a++tx sep++Str.join (tx sep) ((b::r).map tx)=tx (a++sep++vb sep (b::r))
   rw[ih,yD,yD]
theorem vc:∀{ts:List (List Nat)}{us:List Value},Vals (ts.map λt=>V.str (tx t)) us->StrsAre us (ts.map tx)
 |[],_,.nil=>.nil
 |a::ts,_,.cons (b:=u) r h=>by
  let#[t,e]:=(show ∃t,u=lx (tx a) t from r)
  subst e;erw[.cons _ _ (vc h)]
section
variable{X:Cx}
def rJoin(K:Frag):V->List V->Hp->VK->Prop:=λx xs H Q=>∃sep ts p,x=.str (tx sep)/\xs=[.ref p]/\iU K H p (ts.map λt=>V.str (tx t))/\(ts.map cG).sum+ts.length*sep.length<=16500000/\Q (.str (tx (vb sep ts))) H
theorem DQ:Cp X "str.join" (rJoin X.K):=by
 intro pZ s σ H x xs v us Q I rx rs h;let#[sep,ts,p,rfl,rfl,hl,hz,q]:=h;let#[t,rfl]:=rx;let#[u,rfl,ru]:=vals1 rs;cases ru;let#[its,r,pl,_]:=I.list hl;refine join_list pl.isList (ys:=ts.map tx) (by simpa using vc r) ?_ λt' k=>#[.str (tx (vb sep ts)),H,I.tok k,#[t',by rw[L7]],q]
 have e:((ts.map tx).map (·.length)).sum=(ts.map cG).sum:=by
  congr 1
  rw[bz]
  erw[qI λa _=>dv a]
 rw[e,ak,dv]
 omega
theorem vd:∀{l:List Nat},(∀k∈l,f k=g k)->l.filterMap f=l.filterMap g
 |[],_=>rfl
 |a::l,h=>by
  rw[cj,cj,h a aQ,vd λk hk=>h k (aA _ hk)]
theorem mD(l:List Nat):∀(n i:Nat),i+n<=l.length->(bX n).filterMap (λk=>l[i+k]?)=(l.drop i).take n
 |0,i,_=>by simp
 |n+1,i,h=>by
  rw[BH,cj,sf]
  have hi:i<l.length:=∅
  have e:l[i+0]?=some l[i]:=by simp[hi]
  rw[e,eT hi,EZ]
  have:=mD l n (i+1) ∅;rw[<-this]
  show l[i]::_=l[i]::_
  congr 1
  rwa[vd λk _=>?_]
  show l[i+(k+1)]?=l[i+1+k]?
  rw[show i+(k+1)=i+1+k by omega]
noncomputable def Cz(l:List Nat)(i j:Nat):List Nat:=(l.drop i).take (j-i)
theorem DS{b:Int}{n:Nat}(h:0<=b):max 0 (min b (n:Int))=((min b.toNat n:Nat):Int):=by
 let#[k,rfl]:=BI h;rw[Int.max_eq_right (Int.le_min.mpr #[h,Int.ofNat_nonneg n])]
 rw[jE];omega
theorem HZ(l:List Nat)(lo hi:Option Int)(i j:Nat)(hlo:lo=none/\i=0\/∃a:Int,lo=some a/\0<=a/\i=min a.toNat l.length)(hhi:hi=none/\j=l.length\/∃b:Int,hi=some b/\0<=b/\j=min b.toNat l.length):
  Txt.slice (tx l) lo hi=tx (Cz l i j):=by
 have hi':i<=l.length:=by rcases hlo with⟨_,e⟩|⟨a,_,_,e⟩<;>omega
 have hj':j<=l.length:=by rcases hhi with⟨_,e⟩|⟨b,_,_,e⟩<;>omega
 have key:Builtin.Str.strSliceIndices lo hi 1 l.length=(bX (j-i)).map λk=>i+k:=by
  have e0:Builtin.Str.strSliceIndices lo hi 1 l.length=sliceRange (i:Int) (j:Int) 1:=by
   unfold Builtin.Str.strSliceIndices;rcases hlo with⟨rfl,rfl⟩|⟨a,rfl,h0,rfl⟩<;>rcases hhi with⟨rfl,rfl⟩|⟨b,rfl,h1,rfl⟩
   .rfl
   .dsimp[yi.mpr h1,if_false,show(1:Int)>0 by decide,if_true,DS h1]
    rfl
   .dsimp[yi.mpr h0,if_false,show(1:Int)>0 by decide,if_true,DS h0]
   .dsimp[yi.mpr h0,yi.mpr h1,if_false,show(1:Int)>0 by decide,if_true,DS h0,DS h1]
  rw[e0]
  unfold sliceRange;dsimp[show(1:Int)>0 by decide,if_true,Int.ediv_one];have e3:(if (i:Int)<(j:Int) then(j:Int)-i+1-1 else 0).toNat=j-i:=by split<;>omega
  rw[e3]
  rwa[qI λk _=>?_]
  omega
 have len:(tx l).length=l.length:=dv l;unfold Txt.slice;rw[len,key]
 have e4:((bX (j-i)).map λk=>i+k).length=j-i:=by simp
 rw[e4]
 by_cases hw:j-i=l.length
 .rw[if_pos (by simp[hw])]
  have:Cz l i j=l:=by
   unfold Cz;have:i=0:=∅
   subst this;rw[hw,lG,bY]
  rw[this]
 .rw[if_neg (by simp[hw])]
  show tx _=tx _
  congr 1
  rw[sf]
  by_cases hij:i<=j
  .have:=mD l (j-i) i ∅
   unfold Cz;rw[<-this]
   rwa[vd λk _=>?_]
   simp
  .have:j-i=0:=∅
   unfold Cz;rw[this]
   simp
def Yj:V->Option Int->Option Int->Hp->VK->Prop:=λx lo hi H Q=>∃l i j,x=.str (tx l)/\l.length<=sizeLine/\(lo=none/\i=0\/∃a:Int,lo=some a/\0<=a/\i=min a.toNat l.length)/\(hi=none/\j=l.length\/∃b:Int,hi=some b/\0<=b/\j=min b.toNat l.length)/\Q (.str (tx (Cz l i j))) H
theorem Ux:Ue X Yj:=by
 intro pZ s σ H x v vl vu lo hi sl Q I rx hs pl pu h;let#[l,i,j,rfl,hz,h1,h2,q]:=h;let#[t,rfl]:=rx;refine#["str",_,F.slot_str_getitem.lookup,typeIs_str _ _ _,?_];have fin:∀(a b:Option (Int×Tok)),vl=partValue a->vu=partValue b->lo=a.map (·.1)->hi=b.map (·.1)->wpAny (bc X.prog X.w) X.A (oB (.str (tx l) t) (.ref sl)) (EP X pZ σ Q) X.xe s:=λa b e1 e2 e3 e4=>by
  refine wpAny_getItem_str_slice (l:=a) (u:=b) (st:=none) (by rw[e1,e2] at hs;erw[hs]) rfl ?_;rwa[post_val_or_str #[aH (Txt.slice_le (tx l) _ _) (by rw[dv];erw[hz]),λt' k=>#[.str (tx (Cz l i j)),H,I.tok k,#[t',?_],q]]];have:=HZ l lo hi i j h1 h2;rw[e3,e4] at this;rw[<-this]
  rfl
 cases pl with
 |none=>
  cases pu with
  |none=>erw[fin none none rfl rfl rfl rfl]
  |int b u=>erw[fin none (some (b,u)) rfl rfl rfl rfl]
 |int a u=>
  cases pu with
  |none=>erw[fin (some (a,u)) none rfl rfl rfl rfl]
  |int b u2=>erw[fin (some (a,u)) (some (b,u2)) rfl rfl rfl rfl]
theorem P0(c:Nat)(n:Nat):Txt.mul (tx [c]) (n:Int)=tx (eD n c):=by
 unfold Txt.mul;by_cases h:(n:Int)<1
 .rw[if_pos h]
  have:n=0:=∅
  subst this
  rfl
 .rw[if_neg h]
  by_cases h1:n=1
  .subst h1
   rfl
  .rw[if_neg (by simp[G8];omega)]
   show Str.mk _=Str.mk _
   congr 1
   have all:∀(m:Nat)(acc:List Nat),List.foldl (λx1 x2=>x1++x2) acc.toArray (eD m ((List.toArray [c]):Array Nat))=(acc++eD m c).toArray:=by
    intro m;induction m with
    |zero=>intro acc;simp
    |succ m ih=>
     intro acc;rw[E1,gu]
     have:acc.toArray ++ (List.toArray [c])=(acc++[c]).toArray:=by simp
     rw[this,ih,E1]
     simp
   have:=all n [];simpa using this
def Uy:R2:=λx y H Q=>∃c n:Nat,x=.str (tx [c])/\y=.int (n:Int)/\n<=1000/\Q (.str (tx (eD n c))) H
theorem Fx:gG X (cF .Mult) Uy:=by
 x_go;let#[c,n,rfl,rfl,hn,q]:=h;let#[t,rfl]:=rx;let#[t',rfl]:=ry;rwa[SB.mul #[by simp;omega,λh1 h2=>?_,λh1 h2=>?_] λt' k=>#[.str _,H,I.tok k,#[t',by rw[P0]],q]]
 .rw[dv]
  have:(n:Int)<=1000:=∅
  have h3:(1:Int)<=(2^63-1)/(n:Int):=by
   rw[Int.le_ediv_iff_mul_le ∅]
   omega
  show ¬(1:Int)>_
  omega
 .rw[dv]
  show Builtin.Str.tooLong (1*n)=false
  unfold Builtin.Str.tooLong;simp
  rw[jL]
  omega
end
section
variable{X:Cx}{pZ:List (Addr×Obj)}{σ:St}{H:Hp}{s:aC}{a C d:Addr}{fs:List (Str×V)}{f:Str}{v:V}
structure P1(K:Frag)(P:Params)(a:Addr)(kvs:List (Str×V)):Prop where
 ex:∃es n,K.lookup a=some #[.type "dict",none,.dict es n,#[]]/\BJ P es.toList
 at_:∀k v,kvs.lookup k=some v->∃u,RelV v u/\nsIn K a k=some (some u)
 no:∀k,kvs.lookup k=none->nsIn K a k=some none
 ns:(a==b7)=false
noncomputable def Yk(K:Frag)(P:Params):R2:=λx y H Q=>∃a kvs k v,x=.ref a/\y=.str k/\P1 K P a kvs/\kvs.lookup k=some v/\Q v H
theorem yE:SJ X (Yk X.K X.w.params):=by
 intro value slice pZ s σ H x y v u Q I rx ry h hs;let#[a,kvs,k,z,rfl,rfl,T,e,q]:=h;cases rx;let#[t,rfl]:=ry;let#[es,n,lk,kl]:=T.ex;let#[w,rw',ew]:=T.at_ k z e;have hm:=mapOf_K (prog:=X.prog) (w:=X.w) I.yo lk kl;erw[tail_any hm.typeIs slot_dict_getitem.lookup (wpAny_getItem_of (strKind_is X.prog X.w k t) hm (find_K lk ew) #[z,H,I.tok _,rw',q]) hs]
end
inductive Dv where
 |bV|bl (b:Bool)|int (i:Int)|str (l:List Nat)|tup (ds:List Dv)|lst (ds:List Dv)
mutual
noncomputable def Dv.depth:Dv->Nat
 |.tup ds=>Dv.jF ds+1
 |.lst ds=>Dv.jF ds+1
 |_=>0
noncomputable def Dv.jF:List Dv->Nat
 |[]=>0
 |d::ds=>max d.depth (Dv.jF ds)
end
mutual
noncomputable def v9:Dv->Dv->Bool
 |.bV,.bV=>true
 |.bl a,.bl b=>a==b
 |.bl a,.int b=>(if a then 1 else 0)== b
 |.int a,.bl b=>a==(if b then 1 else 0)
 |.int a,.int b=>a==b
 |.str a,.str b=>a==b
 |.tup xs,.tup ys=>nh xs ys
 |.lst xs,.lst ys=>nh xs ys
 |_,_=>false
noncomputable def nh:List Dv->List Dv->Bool
 |[],[]=>true
 |x::xs,y::ys=>v9 x y&&nh xs ys
 |_,_=>false
end
mutual
noncomputable def mT(K:Frag)(H:Hp):V->Dv->Prop
 |v,.bV=>v=.bV
 |v,.bl b=>v=.bl b
 |v,.int i=>v=.int i
 |v,.str l=>v=.str (tx l)
 |v,.tup ds=>∃a vs,v=.ref a/\mq K H a vs/\iB K H vs ds
 |v,.lst ds=>∃a vs,v=.ref a/\iU K H a vs/\iB K H vs ds
noncomputable def iB(K:Frag)(H:Hp):List V->List Dv->Prop
 |[],[]=>True
 |v::vs,d::ds=>mT K H v d/\iB K H vs ds
 |_,_=>False
end
theorem iB.len{K:Frag}{H:Hp}:∀{vs:List V}{ds:List Dv},iB K H vs ds->vs.length=ds.length
 |[],[],_=>rfl
 |_::vs,_::ds,h=>by
  unfold iB at h;rw[aZ,aZ,iB.len h.2]
 |[],_::_,h=>by unfold iB at h;erw[h.elim]
 |_::_,[],h=>by unfold iB at h;erw[h.elim]
theorem iB.get{K:Frag}{H:Hp}:∀{vs:List V}{ds:List Dv}{i:Nat}{v:V}{d:Dv},iB K H vs ds->vs[i]?=some v->ds[i]?=some d->mT K H v d
 |v::vs,d::ds,0,_,_,h,e1,e2=>by
  unfold iB at h;simp at e1 e2;subst e1 e2;erw[h.1]
 |v::vs,d::ds,i+1,_,_,h,e1,e2=>by
  unfold iB at h;exact iB.get (i:=i) h.2 (by simpa using e1) (by simpa using e2)
 |[],_,_,_,_,_,e1,_=>by simp at e1
 |_,[],_,_,_,_,_,e2=>by simp at e2
mutual
theorem ve:∀d:Dv,v9 d d=true
 |.bV=>rfl
 |.bl b=>beq_self_eq_true _
 |.int i=>beq_self_eq_true _
 |.str l=>beq_self_eq_true _
 |.tup ds=>sO ds
 |.lst ds=>sO ds
theorem sO:∀ds:List Dv,nh ds ds=true
 |[]=>by unfold nh;rfl
 |d::ds=>by unfold nh;rw[ve d,sO ds];rfl
end
theorem ni:∀(xs ys:List Dv)(e:Nat->Bool),(∀i x y,xs[i]?=some x->ys[i]?=some y->e i=v9 x y)->((bX (min xs.length ys.length)).all e&&xs.length==ys.length)=nh xs ys
 |[],[],e,_=>by unfold nh;simp
 |[],y::ys,e,_=>by unfold nh;simp
 |x::xs,[],e,_=>by unfold nh;simp
 |x::xs,y::ys,e,h=>by
  have ih:=ni xs ys (λi=>e (i+1)) λi a b h1 h2=>h (i+1) a b (by simpa using h1) (by simpa using h2)
  unfold nh;rw[<-ih,<-h 0 x y rfl rfl]
  rw[aZ,aZ,Nat.succ_min_succ,BH,bQ,BK]
  have:(xs.length+1==ys.length+1)=(xs.length==ys.length):=by simp
  rw[this,Bool.and_assoc]
  rfl
section
variable{X:Cx}{pZ:List (Addr×Obj)}{σ:St}{H:Hp}{s:aC}
mutual
theorem mT.inj(I:Inv X pZ σ H s):∀{d d':Dv}{v:V},mT X.K H v d->mT X.K H v d'->d=d'
 |.bV,d',v,h,h'=>by
  unfold mT at h;subst h;cases d'<;>unfold mT at h'<;>first|rfl| (cases h';done)| (obtain⟨_,_,z,_⟩:=h';cases z)
 |.bl b,d',v,h,h'=>by
  unfold mT at h;subst h;cases d'<;>unfold mT at h'<;>first| (cases h';rfl)| (cases h';done)| (obtain⟨_,_,z,_⟩:=h';cases z)
 |.int b,d',v,h,h'=>by
  unfold mT at h;subst h;cases d'<;>unfold mT at h'<;>first| (cases h';rfl)| (cases h';done)| (obtain⟨_,_,z,_⟩:=h';cases z)
 |.str l,d',v,h,h'=>by
  unfold mT at h;subst h;cases d'<;>unfold mT at h'<;>first| (rw[DP.mp h'])| (cases h';done)| (obtain⟨_,_,z,_⟩:=h';cases z)
 |.tup ds,d',v,h,h'=>by
  let#[a,vs,rfl,hq,hd]:=h;cases d' with
  |tup ds'=>
   unfold mT at h';let#[a',vs',e,hq',hd']:=h';cases e;rw[I.xc hq' hq] at hd';rw[iB.inj I hd hd']
  |lst ds'=>
   unfold mT at h';let#[a',vs',e,hq',hd']:=h';cases e;exfalso;let#[its,_,#[o,e1,c1,_],_]:=I.tuple hq;let#[its',_,#[o',n',e2,c2,_,_],_]:=I.list hq';rw[e1] at e2;cases e2;rw[c1] at c2;injection c2 with c2
   erw[absurd c2 ⋯]
  |_=>unfold mT at h';cases h'
 |.lst ds,d',v,h,h'=>by
  let#[a,vs,rfl,hq,hd]:=h;cases d' with
  |lst ds'=>
   unfold mT at h';let#[a',vs',e,hq',hd']:=h';cases e;rw[I.uS hq' hq] at hd';rw[iB.inj I hd hd']
  |tup ds'=>
   unfold mT at h';let#[a',vs',e,hq',hd']:=h';cases e;exfalso;let#[its,_,#[o,e1,c1,_],_]:=I.tuple hq';let#[its',_,#[o',n',e2,c2,_,_],_]:=I.list hq;rw[e1] at e2;cases e2;rw[c1] at c2;injection c2 with c2
   erw[absurd c2 ⋯]
  |_=>unfold mT at h';cases h'
theorem iB.inj(I:Inv X pZ σ H s):∀{ds ds':List Dv}{vs:List V},iB X.K H vs ds->iB X.K H vs ds'->ds=ds'
 |[],[],_,_,_=>rfl
 |[],_::_,[],_,h'=>by unfold iB at h';erw[h'.elim]
 |[],_::_,_::_,h,_=>by unfold iB at h;erw[h.elim]
 |_::_,[],[],h,_=>by unfold iB at h;erw[h.elim]
 |_::_,[],_::_,_,h'=>by unfold iB at h';erw[h'.elim]
 |d::ds,d'::ds',[],h,_=>by unfold iB at h;erw[h.elim]
 |d::ds,d'::ds',v::vs,h,h'=>by
  unfold iB at h h';rw[mT.inj I h.1 h'.1,iB.inj I h.2 h'.2]
end
theorem mE:∀{ds:List Dv}{i:Nat}{d:Dv},ds[i]?=some d->d.depth<=Dv.jF ds
 |d::ds,0,_,h=>by
  simp at h;subst h;unfold Dv.jF;erw[Nat.le_max_left _ _]
 |d::ds,i+1,_,h=>by
  have:=mE (ds:=ds) (i:=i) (by simpa using h);unfold Dv.jF;erw[aH this (K8 _ _)]
 |[],_,_,h=>by simp at h
theorem CB(I:Inv X pZ σ H s):∀(n:Nat){A:dN}{d d':Dv}{x y:V}{u v:Value},d.depth<=n->A.units+n<eL->mT X.K H x d->mT X.K H y d'->RelV x u->RelV y v->wg A s u v (v9 d d'):=by
 intro n;induction n with
 |zero=>
  intro A d d' x y u v hn hu hx hy rx ry;cases d with
  |tup ds=>unfold Dv.depth at hn;omega
  |lst ds=>unfold Dv.depth at hn;omega
  |bV=>
   cases (show _=_ from hx);cases rx;cases d'<;>unfold mT at hy
   .subst hy;cases ry;erw[jJ _]
   .subst hy;cases ry;erw[wL _]
   .subst hy;let#[t,rfl]:=ry;erw[oz _ _]
   .subst hy;let#[t,rfl]:=ry;erw[oA _ _]
   .let#[a,vs,rfl,hq,_]:=hy;cases ry;let#[its,_,p,_]:=I.tuple hq;erw[SeqAt.EqAt.none_tuple p ∅]
   .let#[a,vs,rfl,hq,_]:=hy;cases ry;let#[its,_,p,_]:=I.list hq;erw[SeqAt.EqAt.none_list p.isList ∅]
  |bl b=>
   cases (show _=_ from hx);cases rx;cases d'<;>unfold mT at hy
   .subst hy;cases ry;erw[wM _]
   .subst hy;cases ry;erw[wN _ _]
   .subst hy;let#[t,rfl]:=ry;erw[ye _ _ _]
   .subst hy;let#[t,rfl]:=ry;erw[yf _ _ _]
   .let#[a,vs,rfl,hq,_]:=hy;cases ry;let#[its,_,p,_]:=I.tuple hq;erw[SeqAt.EqAt.bool_tuple _ p ∅]
   .let#[a,vs,rfl,hq,_]:=hy;cases ry;let#[its,_,p,_]:=I.list hq;erw[SeqAt.EqAt.bool_list _ p.isList ∅]
  |int i=>
   cases (show _=_ from hx);let#[t0,rfl]:=rx;cases d'<;>unfold mT at hy
   .subst hy;cases ry;erw[ox _ _]
   .subst hy;cases ry;erw[yg _ _ _]
   .subst hy;let#[t,rfl]:=ry;erw[zM _ _ _ _]
   .subst hy;let#[t,rfl]:=ry;erw[oX _ _ _ _]
   .let#[a,vs,rfl,hq,_]:=hy;cases ry;let#[its,_,p,_]:=I.tuple hq;erw[SeqAt.EqAt.int_tuple _ _ p ∅]
   .let#[a,vs,rfl,hq,_]:=hy;cases ry;let#[its,_,p,_]:=I.list hq;erw[SeqAt.EqAt.int_list _ _ p.isList ∅]
  |str l=>
   cases (show _=_ from hx);let#[t0,rfl]:=rx;cases d' with
   |bV=>cases (show _=_ from hy);cases ry;erw[oy _ _]
   |bl b=>cases (show _=_ from hy);cases ry;erw[yh _ _ _]
   |int i=>cases (show _=_ from hy);let#[t,rfl]:=ry;erw[oY _ _ _ _]
   |str l'=>
    cases (show _=_ from hy);let#[t,rfl]:=ry;have e:(tx l==tx l')=v9 (.str l) (.str l'):=by
     show(tx l==tx l')=(l==l')
     rw[dw,beq_iff_eq,beq_iff_eq]
     erw[N8]
    rw[<-e]
    erw[zN _ _ _ _]
   |tup ds=>let#[a,vs,rfl,hq,_]:=hy;cases ry;let#[its,_,p,_]:=I.tuple hq;erw[SeqAt.EqAt.str_tuple _ _ p ∅]
   |lst ds=>let#[a,vs,rfl,hq,_]:=hy;cases ry;let#[its,_,p,_]:=I.list hq;erw[SeqAt.EqAt.str_list _ _ p.isList ∅]
 |succ n ih=>
  intro A d d' x y u v hn hu hx hy rx ry;have items:∀{vs vs':List V}{ds ds':List Dv}{its its':List Value},Dv.jF ds<=n->iB X.K H vs ds->iB X.K H vs' ds'->Vals vs its->Vals vs' its' ->
    ∃e:Nat->Bool,(∀j(h1:j<its.toArray.size)(h2:j<its'.toArray.size),wg A.in1 s its.toArray[j] its'.toArray[j] (e j))/\((bX (min its.toArray.size its'.toArray.size)).all e&&its.toArray.size==its'.toArray.size)=nh ds ds':=by
   intro vs vs' ds ds' its its' hd h1 h2 r1 r2;have l1:=h1.len;have l2:=h2.len;have m1:=r1.length;have m2:=r2.length;refine#[λj=>match ds[j]?,ds'[j]? with|some a,some b=>v9 a b|_,_=>true,λj k1 k2=>?_,?_]
   .rw[aG] at k1 k2
    have j1:j<ds.length:=∅
    have j2:j<ds'.length:=∅
    have i1:j<vs.length:=∅
    have i2:j<vs'.length:=∅
    have e1:ds[j]?=some ds[j]:=aa j1;have e2:ds'[j]?=some ds'[j]:=aa j2;have f1:vs[j]?=some vs[j]:=aa i1;have f2:vs'[j]?=some vs'[j]:=aa i2;let#[w1,g1,q1]:=r1.get f1;let#[w2,g2,q2]:=r2.get f2;have a1:its.toArray[j]=w1:=by
     let#[_,z]:=ae.mp g1;simpa using z
    have a2:its'.toArray[j]=w2:=by
     let#[_,z]:=ae.mp g2;simpa using z
    rw[a1,a2]
    dsimp only;rw[e1,e2]
    erw[ih (aH (mE e1) hd) (by show A.units+1+n<eL;omega) (h1.get f1 e1) (h2.get f2 e2) q1 q2]
   .rw[aG,aG,<-m1,<-m2,l1,l2]
    rwa[ni ds ds' _ λi a b h1 h2=>?_]
    rw[h1,h2]
  by_cases hz:d.depth<=n
  .erw[ih hz ∅ hx hy rx ry]
  .cases d with
   |bV=>unfold Dv.depth at hz;omega
   |bl b=>unfold Dv.depth at hz;omega
   |int b=>unfold Dv.depth at hz;omega
   |str b=>unfold Dv.depth at hz;omega
   |tup ds=>
    have hx0:=hx;let#[a,vs,rfl,hq,hd]:=hx;cases rx;let#[its,r1,p,_]:=I.tuple hq;unfold Dv.depth at hn;cases d' with
    |bV=>cases (show _=_ from hy);cases ry;erw[SeqAt.EqAt.tuple_none p ∅]
    |bl b=>cases (show _=_ from hy);cases ry;erw[SeqAt.EqAt.tuple_bool _ p ∅]
    |int i=>cases (show _=_ from hy);let#[t,rfl]:=ry;erw[SeqAt.EqAt.tuple_int _ _ p ∅]
    |str l'=>cases (show _=_ from hy);let#[t,rfl]:=ry;erw[SeqAt.EqAt.tuple_str _ _ p ∅]
    |lst ds'=>let#[a',vs',rfl,hq',_]:=hy;cases ry;let#[its',_,p',_]:=I.list hq';erw[SeqAt.EqAt.tuple_list p p'.isList ∅]
    |tup ds'=>
     have hy0:=hy;let#[a',vs',rfl,hq',hd']:=hy;cases ry;let#[its',r2,p',_]:=I.tuple hq';by_cases e:a=a'
     .subst e
      rw[mT.inj I hx0 hy0,ve]
      erw[jJ _]
     .let#[f,hf,ef]:=items ∅ hd hd' r1 r2
      rw[show v9 (.tup ds) (.tup ds')=nh ds ds' from rfl,<-ef]
      erw[zP e (Ab p p' ∅ hf)]
   |lst ds=>
    have hx0:=hx;let#[a,vs,rfl,hq,hd]:=hx;cases rx;let#[its,r1,p,_]:=I.list hq;unfold Dv.depth at hn;cases d' with
    |bV=>cases (show _=_ from hy);cases ry;erw[SeqAt.EqAt.list_none p.isList ∅]
    |bl b=>cases (show _=_ from hy);cases ry;erw[SeqAt.EqAt.list_bool _ p.isList ∅]
    |int i=>cases (show _=_ from hy);let#[t,rfl]:=ry;erw[SeqAt.EqAt.list_int _ _ p.isList ∅]
    |str l'=>cases (show _=_ from hy);let#[t,rfl]:=ry;erw[SeqAt.EqAt.list_str _ _ p.isList ∅]
    |tup ds'=>let#[a',vs',rfl,hq',_]:=hy;cases ry;let#[its',_,p',_]:=I.tuple hq';erw[SeqAt.EqAt.list_tuple p.isList p' ∅]
    |lst ds'=>
     have hy0:=hy;let#[a',vs',rfl,hq',hd']:=hy;cases ry;let#[its',r2,p',_]:=I.list hq';by_cases e:a=a'
     .subst e
      rw[mT.inj I hx0 hy0,ve]
      erw[jJ _]
     .let#[f,hf,ef]:=items ∅ hd hd' r1 r2
      rw[show v9 (.lst ds) (.lst ds')=nh ds ds' from rfl,<-ef]
      rwa[zP e ?_];by_cases el:its.toArray.size=its'.toArray.size
      .have:((bX (min its.toArray.size its'.toArray.size)).all f&&its.toArray.size==its'.toArray.size)=(bX its.toArray.size).all f:=by
        rw[el,Nat.min_self]
        simp
       rw[this]
       erw[SeqAt.RcAt.lists p.isList p'.isList el ∅ hf]
      .have:((bX (min its.toArray.size its'.toArray.size)).all f&&its.toArray.size==its'.toArray.size)=false:=by
        have:(its.toArray.size==its'.toArray.size)=false:=by simpa using el
        rw[this,Bool.and_false]
       rw[this]
       exact SeqAt.RcAt.lists_lengths p.isList p'.isList (by simpa using el) ∅
def Yl(K:Frag):R2:=λx y H Q=>∃ds d',mT K H x (.tup ds)/\mT K H y d'/\Dv.jF ds<=100/\Q (.bl (v9 (.tup ds) d')) H
theorem P2(hu:X.A.units+200<eL):gG X (bF .Eq) (Yl X.K):=by
 intro pZ s σ H x y u v Q I rx ry h;let#[ds,d',hx,hy,hz,q]:=h;have fin:∀b,b=v9 (.tup ds) d'->EP X pZ σ Q (.bool b) s:=λb e=>by rw[e];exact#[.bl _,H,I,rfl,q]
 have hx0:=hx;let#[a,vs,rfl,hq,hd]:=hx;cases rx;let#[its,r1,p,_]:=I.tuple hq;cases d' with
 |bV=>cases (show _=_ from hy);cases ry;erw[SeqAt.RcAt.tuple_none p ∅ _ _ _ _ (fin _ (rfl))]
 |bl b=>cases (show _=_ from hy);cases ry;erw[SeqAt.RcAt.tuple_bool _ p ∅ _ _ _ _ (fin _ (rfl))]
 |int i=>cases (show _=_ from hy);let#[t,rfl]:=ry;erw[SeqAt.RcAt.tuple_int _ _ p ∅ _ _ _ _ (fin _ (rfl))]
 |str l'=>cases (show _=_ from hy);let#[t,rfl]:=ry;erw[SeqAt.RcAt.tuple_str _ _ p ∅ _ _ _ _ (fin _ (rfl))]
 |lst ds'=>let#[a',vs',rfl,hq',_]:=hy;cases ry;let#[its',_,p',_]:=I.list hq';erw[SeqAt.RcAt.tuple_list p p'.isList ∅ _ _ _ _ (fin _ (rfl))]
 |tup ds'=>
  let#[a',vs',rfl,hq',hd']:=hy;cases ry;let#[its',r2,p',_]:=I.tuple hq';have l1:=hd.len;have l2:=hd'.len;have m1:=r1.length;have m2:=r2.length;refine Ab (e:=λj=>match ds[j]?,ds'[j]? with|some a,some b=>v9 a b|_,_=>true) p p' ∅ (λj k1 k2=>?_) _ _ _ _ (fin _ ?_)
  .rw[aG] at k1 k2
   have e1:ds[j]?=some (ds[j]'∅):=aa _;have e2:ds'[j]?=some (ds'[j]'∅):=aa _;have f1:vs[j]?=some (vs[j]'∅):=aa _;have f2:vs'[j]?=some (vs'[j]'∅):=aa _;let#[w1,g1,q1]:=r1.get f1;let#[w2,g2,q2]:=r2.get f2;have a1:its.toArray[j]=w1:=by
    let#[_,z]:=ae.mp g1;simpa using z
   have a2:its'.toArray[j]=w2:=by
    let#[_,z]:=ae.mp g2;simpa using z
   rw[a1,a2,e1,e2]
   erw[CB I 100 (aH (mE e1) hz) (by show X.A.units+1+100<eL;omega) (hd.get f1 e1) (hd'.get f2 e2) q1 q2]
  .rw[aG,aG,<-m1,<-m2,l1,l2]
   rw[show v9 (.tup ds) (.tup ds')=nh ds ds' from rfl]
   rwa[ni ds ds' _ λi a b h1 h2=>?_]
   rw[h1,h2]
end
end L2
namespace PL
theorem _root_.Lake.L2.ff{P:Prop}(h:false=true):P:=by cases h
theorem _root_.Lake.L2.nn{α:Type}{x:α}{P:Prop}(h:(none:Option α)=some x):P:=by cases h
set_option genInjectivity true in
inductive U where
 |bV|bl (b:Bool)|int (i:Int)|str (l:List Nat)|tup (us:List U)|loc (n:Nat)
 |rm (ns:List Int)|tab (kvs:List (List Nat×List Nat))
instance:Inhabited U:=#[.bV]
set_option genInjectivity true in
inductive SO where
 |lst (us:List U)|eI (kvs:List (U×U))|ins (c:String) (fs:List (String×U))
 |vf (kvs:List (U×U))|ur (kvs:List (List Int×U))|xt (kvs:List ((Int×List Int)×U))
abbrev Env:=List (Option U)
abbrev bJ:=List SO
abbrev KU:=U->bJ->Prop
abbrev Spec:=List U->bJ->KU->Prop
abbrev bZ:=String->Spec
inductive Fy where|add|sub|mul|fdiv|mod|band|bor|shl|shr
inductive N9 where|eq|ne|lt|le|gt|ge|isin|mF|L8|yF|CC
inductive Uz where|len|tuple|list|sum|all|any|int|dict|vg|max
inductive P4 where|join|index|startswith|append|extend|get|nj|oh|vals
mutual
inductive Ex where
 |var (i:Nat)|lit (u:U)
 |bin (o:Fy) (a b:Ex)|neg (a:Ex)|not (a:Ex)|and (a b:Ex)|or (a b:Ex)
 |cmp (o:N9) (a b:Ex)|BO (c:Tx) (a b:Ex)
 |call (f:String) (as:zT)|mk (c q:String) (as:zT)|cL (c m q:String) (o:Ex) (as:zT)
 |blt (f:Uz) (as:zT)|jt (m:P4) (o:Ex) (as:zT)
 |fld (o:Ex) (f:String)|ix (o i:Ex)|sl (o:Ex) (lo hi:Ox)
 |tup (as:zT)|lst (as:zT)|eI (ks vs:zT)
 |comp (pr:Bool) (e:Ex) (it:It) (c:Tx) (ci:List Nat)
 |SN (a:Ex) (t:Bool)|L9 (o k:Ex)
inductive zT where|nil|cons (e:Ex) (es:zT)
inductive It where|val (e:Ex)|range (e:Ex)|enum (e:Ex)|keys (e:Ex)
inductive Ox where|no|e (a:Ex)
inductive Tx where|UA (a b c:Ex)|cH (e:Ex)|not (t:Tx)|and (a b:Tx)|or (a b:Tx)
end
set_option genCtorIdx false in
inductive Tg where|name (i:Nat)|pair (i j:Nat)
set_option genCtorIdx false in
mutual
inductive Sm where
 |set (i:Nat) (e:Ex)|nk (o:Ex) (f:String) (e:Ex)|oh (o k e:Ex)
 |aug (i:Nat) (p:Fy) (e:Ex)|CD (o:Ex) (f:String) (p:Fy) (e:Ex)|Fz (o i:Ex) (p:Fy) (e:Ex)
 |ex (e:Ex)|ret (e:Ex)|ifs (c:Tx) (a b:dh)|BP (c:Tx) (b:dh)|fP (t:Tg) (it:It) (b:dh)
 |SQ (b:dh)
inductive dh where|nil|cons (s:Sm) (ss:dh)
end
section
variable{α:Type}
def opt(o:Option α)(Q:α->Prop):Prop:=match o with|some a=>Q a|none=>False
def yG(o:Option (Option U))(Q:U->Prop):Prop:=match o with|some (some u)=>Q u|_=>False
def getL(o:Option SO)(Q:List U->Prop):Prop:=match o with|some (.lst us)=>Q us|_=>False
def getD(o:Option SO)(Q:List (U×U)->Prop):Prop:=match o with|some (.eI kvs)=>Q kvs|_=>False
def qw(o:Option SO)(Q:String->List (String×U)->Prop):Prop:=match o with|some (.ins c fs)=>Q c fs|_=>False
def Oa(x:U)(Q:Bool->Prop):Prop:=match x with|.bl b=>Q b|_=>False
def lB(x:U)(Q:Int->Prop):Prop:=match x with|.int i=>Q i|_=>False
def uu(x:U)(Q:Nat->Prop):Prop:=match x with|.loc n=>Q n|_=>False
def Ob(x:U)(Q:U->U->Prop):Prop:=match x with|.tup [a,b]=>Q a b|_=>False
@[simp] theorem bg{a:α}{Q:α->Prop}:opt (some a) Q=Q a:=rfl
@[simp] theorem UB:opt none Q=False:=rfl
@[simp] theorem xv:yG (some (some u)) Q=Q u:=rfl
@[simp] theorem aD{us:List U}{Q:List U->Prop}:getL (some (.lst us)) Q=Q us:=rfl
@[simp] theorem getD_some:getD (some (.eI us)) Q=Q us:=rfl
@[simp] theorem bN:qw (some (.ins c fs)) Q=Q c fs:=rfl
@[simp] theorem H0:Oa (.bl b) Q=Q b:=rfl
@[simp] theorem Ma:lB (.int i) Q=Q i:=rfl
@[simp] theorem Xd:uu (.loc n) Q=Q n:=rfl
@[simp] theorem Mb:Ob (.tup [a,b]) Q=Q a b:=rfl
theorem i7:opt o Q↔∃a,o=some a/\Q a:=by cases o<;>simp[opt]
theorem AJ:yG o Q↔∃a,o=some (some a)/\Q a:=by
 rcases o with _|_|a<;>simp[yG]
theorem de:getL o Q↔∃a,o=some (.lst a)/\Q a:=
 #[λw=>by rcases o with _|a|a|a|a|a|a<;>first|exact#[_,rfl,w]|exact aT w,by rintro⟨b,rfl,w⟩;exact w]
theorem AK:getD o Q↔∃a,o=some (.eI a)/\Q a:=
 #[λw=>by rcases o with _|a|a|a|a|a|a<;>first|exact#[_,rfl,w]|exact aT w,by rintro⟨b,rfl,w⟩;exact w]
theorem mG{o:Option SO}{Q:String->List (String×U)->Prop}:qw o Q↔∃c fs,o=some (.ins c fs)/\Q c fs:=
 #[λw=>by rcases o with _|a|a|a|a|a|a<;>first|exact#[_,_,rfl,w]|exact aT w,by rintro⟨b,c,rfl,w⟩;exact w]
theorem yH:Oa x Q↔∃b,x=.bl b/\Q b:=#[λw=>by cases x<;>first|exact#[_,rfl,w]|exact aT w,by rintro⟨b,rfl,w⟩;exact w]
theorem eQ:lB x Q↔∃b,x=.int b/\Q b:=#[λw=>by cases x<;>first|exact#[_,rfl,w]|exact aT w,by rintro⟨b,rfl,w⟩;exact w]
theorem i8:uu x Q↔∃b,x=.loc b/\Q b:=#[λw=>by cases x<;>first|exact#[_,rfl,w]|exact aT w,by rintro⟨b,rfl,w⟩;exact w]
theorem DT:Ob x Q↔∃a b,x=.tup [a,b]/\Q a b:=by
 refine#[λw=>?_,by rintro⟨a,b,rfl,w⟩;exact w];cases x<;>first|exact aT w|skip
 rename_i us;rcases us with _|⟨a,_|⟨b,_|_⟩⟩<;>first|exact aT w|exact#[_,_,rfl,w]
end
def iV(o:Option SO)(Q:List (U×U)->Prop):Prop:=match o with|some (.eI kvs)=>Q kvs|some (.vf kvs)=>Q kvs|_=>False
theorem kR:iV (some (.eI us)) Q=Q us:=rfl
theorem iW:iV o Q↔∃a,(o=some (.eI a)\/o=some (.vf a))/\Q a:=
 #[λw=>by rcases o with _|a|a|a|a|a|a<;>first|exact#[_,.inl rfl,w]|exact#[_,.inr rfl,w]|exact aT w,by rintro⟨b,rfl|rfl,w⟩<;>exact w]
noncomputable def nq:U->Bool
 |.bV=>true|.int _=>true|.str _=>true
 |_=>false
noncomputable def SR:U->U->Bool
 |.bV,.bV=>true
 |.int a,.int b=>a==b
 |.str a,.str b=>a==b
 |_,_=>false
def vh(k:U):List (U×U)->Option U
 |[]=>none
 | (a,v)::r=>if SR a k=true then some v else vh k r
mutual
noncomputable def vi:U->Bool
 |.bV=>true|.bl _=>true|.int _=>true|.str _=>true
 |.tup us=>kE us
 |_=>false
noncomputable def kE:List U->Bool
 |[]=>true
 |u::us=>vi u&&kE us
end
mutual
noncomputable def dep:U->Nat
 |.tup us=>oj us+1
 |_=>0
noncomputable def oj:List U->Nat
 |[]=>0
 |u::us=>max (dep u) (oj us)
end
mutual
noncomputable def nv:U->U->Bool
 |.bV,.bV=>true
 |.bl a,.bl b=>a==b
 |.bl a,.int b=>(if a then 1 else 0)== b
 |.int a,.bl b=>a==(if b then 1 else 0)
 |.int a,.int b=>a==b
 |.str a,.str b=>a==b
 |.tup as,.tup bs=>wy as bs
 |_,_=>false
noncomputable def wy:List U->List U->Bool
 |[],[]=>true
 |x::xs,y::ys=>nv x y&&wy xs ys
 |_,_=>false
end
noncomputable def H8:U->U->Bool
 |.tup _,_=>true
 |.bV,.bV=>true|.bV,.int _=>true|.bV,.bl _=>true|.bV,.str _=>true
 |.int _,.bV=>true|.int _,.int _=>true|.int _,.str _=>true
 |.bl _,.bV=>true|.bl _,.bl _=>true|.bl _,.str _=>true
 |.str _,.bV=>true|.str _,.int _=>true|.str _,.bl _=>true|.str _,.str _=>true
 |_,_=>false
def wz(x y:U)(Q:Bool->Prop):Prop:=(H8 x y=true/\vi x=true/\vi y=true/\dep x<=100)/\Q (nv x y)
noncomputable def Ia:U->Bool
 |.tup _=>false
 |_=>true
noncomputable def CH:U->U->Bool
 |.tup _,.tup _=>true
 |.tup _,_=>false
 |_,_=>true
noncomputable def flat:U->Bool
 |.bV=>true|.bl _=>true|.int _=>true|.str _=>true
 |_=>false
def rn(x:U)(us:List U)(Q:Bool->Prop):Prop:=(flat x=true/\us.all flat=true)/\Q (us.any λy=>nv y x)
noncomputable def iP:List Nat->List Nat->Bool
 |a,[]=>a.isEmpty
 |a,b::bs=>a.isPrefixOf (b::bs)||iP a bs
noncomputable def mH(S:bJ):U->Option Nat
 |.str l=>some l.length
 |.tup us=>some us.length
 |.rm ns=>some ns.length
 |.loc n=>match S[n]? with
  |some (.lst us)=>some us.length
  |some (.eI kvs)=>some kvs.length
  |some (.xt kvs)=>some kvs.length
  |_=>none
 |_=>none
def vj(S:bJ):U->Option Bool
 |.bV=>some false
 |.bl b=>some b
 |.int i=>some (i !=0)
 |.str _=>none
 |.loc n=>match S[n]? with
  |some (.xt _)=>none
  |_=>(mH S (.loc n)).map λn=>n !=0
 |u=>(mH S u).map λn=>n !=0
noncomputable def P5(n:Nat)(i:Int):Option Nat:=if 0<=i then(if i<n then some i.toNat else none) else if -(n:Int)<=i then some (i+n).toNat else none
def sP{α:Type}(xs:List α)(i:Int):Option α:=(P5 xs.length i).bind λj=>xs[j]?
noncomputable def sQ{α:Type}(xs:List α)(lo hi:Option Int):List α:=(xs.drop (min (lo.getD 0).toNat xs.length)).take (min (hi.getD xs.length).toNat xs.length-min (lo.getD 0).toNat xs.length)
def Oc(x:U)(Q:List Nat->Prop):Prop:=match x with|.str a=>Q a|_=>False
def Xe(x:U)(Q:Prop):Prop:=match x with|.bV=>Q|_=>False
def Z5(x:U)(Q:List U->Prop):Prop:=match x with|.tup a=>Q a|_=>False
theorem pj:Oc x Q↔∃b,x=.str b/\Q b:=#[λw=>by cases x<;>first|exact#[_,rfl,w]|exact aT w,by rintro⟨b,rfl,w⟩;exact w]
theorem Mc:Z5 x Q↔∃b,x=.tup b/\Q b:=#[λw=>by cases x<;>first|exact#[_,rfl,w]|exact aT w,by rintro⟨b,rfl,w⟩;exact w]
theorem kY{x y:U}{P:Int->Int->Prop}(w:lB x λi=>lB y (P i)):∃i j,x=.int i/\y=.int j/\P i j:=by
 let#[i,e,w]:=eQ.mp w;let#[j,e',w]:=eQ.mp w;exact#[i,j,e,e',w]
def km(o:Fy)(x y:U)(S:bJ)(Q:KU):Prop:=
 match o with
 |.add=>match x with
  |.int i=>lB y λj=>Q (.int (i+j)) S
  |.str a=>Oc y λb=>a.length+b.length<=16500000/\Q (.str (a++b)) S
  |.tup a=>Z5 y λb=>a.length+b.length<=16500000/\Q (.tup (a++b)) S
  |.loc m=>uu y λn=>getL S[m]? λa=>getL S[n]? λb=>a.length+b.length<=16500000/\Q (.loc S.length) (S++[.lst (a++b)])
  |_=>False
 |.sub=>lB x λi=>lB y λj=>Q (.int (i-j)) S
 |.mul=>match x with
  |.int i=>lB y λj=>((-(2^64)<i/\i<2^64)\/(-(2^64)<j/\j<2^64))/\Q (.int (i*j)) S
  |.str a=>lB y λj=>∃c,a=[c]/\0<=j/\j<=1000/\Q (.str (eD j.toNat c)) S
  |_=>False
 |.fdiv=>lB x λi=>lB y λj=>(0<j/\j<1073741824)/\Q (.int (i/j)) S
 |.mod=>lB x λi=>lB y λj=>0<j/\Q (.int (i%j)) S
 |.band=>lB x λi=>lB y λj=>(0<=i/\0<=j)/\Q (.int ((i.toNat&&&j.toNat:Nat):Int)) S
 |.bor=>lB x λi=>lB y λj=>(0<=i/\0<=j)/\Q (.int ((i.toNat|||j.toNat:Nat):Int)) S
 |.shl=>lB x λi=>lB y λj=>(0<=i/\i<1000/\0<=j/\j<=1000)/\Q (.int (i*2^j.toNat)) S
 |.shr=>lB x λi=>lB y λj=>(0<=i/\0<=j)/\Q (.int (i/2^j.toNat)) S
def yI(o:Fy)(x y:U)(S:bJ)(Q:KU):Prop:=
 match x with
 |.int i=>km o (.int i) y S Q
 |.str a=>km o (.str a) y S Q
 |_=>False
noncomputable def kz(x:U):Bool:=match x with|.bV=>true|_=>false
def Xf(x y:U)(Q:Bool->Prop):Prop:=CH x y=true/\wz x y λb=>Q !b
def Ym(x:U)(us:List U)(Q:Bool->Prop):Prop:=match x with
 |.tup xs=>(kE xs=true/\kE us=true/\oj us<=100)/\Q !(us.any λy=>nv y (.tup xs))
 |x=>rn x us λb=>Q !b
def gO(o:N9)(x y:U)(S:bJ)(Q:Bool->Prop):Prop:=
 match o with
 |.eq=>wz x y Q
 |.ne=>Xf x y Q
 |.lt=>lB x λi=>lB y λj=>Q (decide (i<j))
 |.le=>lB x λi=>lB y λj=>Q (decide (i<=j))
 |.gt=>lB x λi=>lB y λj=>Q (decide (j<i))
 |.ge=>lB x λi=>lB y λj=>Q (decide (j<=i))
 |.isin=>match y with
  |.str b=>Oc x λa=>Q (iP a b)
  |.tab kvs=>Oc x λa=>Q (kvs.lookup a).isSome
  |.tup us=>rn x us Q
  |.loc n=>getL S[n]? λus=>rn x us Q
  |_=>False
 |.mF=>match y with
  |.str b=>Oc x λa=>Q !(iP a b)
  |.tup us=>rn x us λb=>Q !b
  |.loc n=>getL S[n]? λus=>Ym x us Q
  |_=>False
 |.L8=>Xe y (Q (kz x))
 |.yF=>Xe y (Q !(kz x))
 |.CC=>uu y λn=>iV S[n]? λkvs=>nq x=true/\Q (vh x kvs).isNone
def KQ(x y:U)(S:bJ)(Q:U->Prop):Prop:=
 match x with
 |.str l=>lB y λi=>l.length<=16500000/\opt (sP l i) λc=>Q (.str [c])
 |.tup us=>lB y λi=>us.length<=16500000/\opt (sP us i) Q
 |.rm ns=>lB y λi=>ns.length<=16500000/\opt (sP ns i) λn=>Q (.int n)
 |.loc n=>lB y λi=>getL S[n]? λus=>opt (sP us i) Q
 |.tab kvs=>Oc y λk=>opt (kvs.lookup k) λv=>Q (.str v)
 |_=>False
def P6(x y:U)(S:bJ)(Q:U->Prop):Prop:=uu x λn=>iV S[n]? λkvs=>nq y=true/\opt (vh y kvs) Q
def SS(x:U)(lo hi:Option Int)(S:bJ)(Q:KU):Prop:=
 ((∀i,lo=some i->0<=i)/\∀i,hi=some i->0<=i)/\match x with
 |.str l=>l.length<=16500000/\Q (.str (sQ l lo hi)) S
 |.tup us=>(us.length<=16500000/\us≠[]/\0<lo.getD 0)/\Q (.tup (sQ us lo hi)) S
 |.loc n=>getL S[n]? λus=>Q (.loc S.length) (S++[.lst (sQ us lo hi)])
 |_=>False
noncomputable def lK(sep:List Nat):List (List Nat)->List Nat
 |[]=>[]
 |[x]=>x
 |x::r=>x++sep++lK sep r
noncomputable def tO(n:Nat):Nat:=if n=0 then 0 else n.log2+1
def rq(f:Uz)(us:List U)(S:bJ)(Q:KU):Prop:=
 match f,us with
 |.len,[x]=>opt (mH S x) λn=>n<=16500000/\Q (.int n) S
 |.int,[.bl b]=>Q (.int (if b then 1 else 0)) S
 |.tuple,[.loc n]=>getL S[n]? λus=>Q (.tup us) S
 |.list,[.loc n]=>getL S[n]? λus=>Q (.loc S.length) (S++[.lst us])
 |.list,[.tup us]=>us.length<=16500000/\Q (.loc S.length) (S++[.lst us])
 |.all,[.loc n]=>∃bs:List Bool,S[n]?=some (.lst (bs.map .bl))/\Q (.bl (bs.all id)) S
 |.any,[.loc n]=>∃bs:List Bool,S[n]?=some (.lst (bs.map .bl))/\Q (.bl (bs.any id)) S
 |.sum,[.loc n]=>∃is:List Int,S[n]?=some (.lst (is.map .int))/\Q (.int is.sum) S
 |.dict,[.loc n]=>∃ps:List (List Nat×U),S[n]?=some (.lst (ps.map λp=>.tup [.str p.1,p.2]))/\(ps.map (·.1)).Nodup/\Q (.loc S.length) (S++[.eI (ps.map λp=>(.str p.1,p.2))])
 |.max,[.loc n]=>∃(i:Int)(is:List Int),S[n]?=some (.lst ((i::is).map .int))/\∀m∈i::is,(∀j∈i::is,j<=m)->Q (.int m) S
 |.vg,[.loc n]=>∃t ts,S[n]?=some (.lst ((t::ts).map .str))/\(∀u∈t::ts,u.length<=16500000)/\Q (.str (ts.foldl (λb x=>if x.length<b.length then x else b) t)) S
 |_,_=>False
def Z6{κ:Type}[BEq κ](kvs:List (κ×U))(k:κ)(f:List (κ×U)->SO)(S:bJ)(n:Nat)(d:U)(Q:KU):Prop:=
 kvs.length<16500000/\match kvs.lookup k with
  |some v=>Q v S
  |none=>Q d (S.set n (f (kvs++[(k,d)])))
def p7(S:bJ)(n:Nat)(k d:U)(Q:KU):Prop:=
 match S[n]? with
 |some (.eI kvs)=>(nq k=true/\kvs.length<16500000)/\match vh k kvs with
  |some v=>Q v S
  |none=>Q d (S.set n (.eI (kvs++[(k,d)])))
 |some (.ur kvs)=>∃ks,k=.tup (ks.map .int)/\Z6 kvs ks .ur S n d Q
 |some (.xt kvs)=>∃b ks,k=.tup [.int b,.tup (ks.map .int)]/\Z6 kvs (b,ks) .xt S n d Q
 |_=>False
def rA(m:P4)(x:U)(us:List U)(S:bJ)(Q:KU):Prop:=
 match m,x,us with
 |.join,.str sep,[.loc n]=>∃ts:List (List Nat),S[n]?=some (.lst (ts.map .str))/\(ts.map cG).sum+ts.length*sep.length<=16500000/\Q (.str (lK sep ts)) S
 |.index,.str l,[.str k]=>∃c,k=[c]/\c∈l/\Q (.int (l.idxOf c:Nat)) S
 |.startswith,.str l,[.str k]=>Q (.bl (k.isPrefixOf l)) S
 |.nj,.int i,[]=>0<=i/\Q (.int (tO i.toNat:Nat)) S
 |.get,.loc n,[.str k,d]=>getD S[n]? λkvs=>∃ps:List (List Nat×U),kvs=(ps.map λp=>(U.str p.1,p.2))/\Q ((ps.lookup k).getD d) S
 |.get,.loc n,[k]=>iV S[n]? λkvs=>nq k=true/\Q ((vh k kvs).getD .bV) S
 |.oh,.loc n,[k,d]=>p7 S n k d Q
 |.vals,.loc n,[]=>match S[n]? with
  |some (.ur kvs)=>Q (.loc S.length) (S++[.lst (kvs.map (·.2))])
  |_=>False
 |.append,.loc n,[u]=>getL S[n]? λus=>us.length<16500000/\Q .bV (S.set n (.lst (us++[u])))
 |.extend,.loc n,[.loc m]=>getL S[n]? λus=>getL S[m]? λws=>us.length+ws.length<=16500000/\Q .bV (S.set n (.lst (us++ws)))
 |_,_,_=>False
def ue(m:P4)(x:U)(S:bJ):Prop:=
 match m,x with
 |.join,.str _=>True|.index,.str _=>True|.startswith,.str _=>True
 |.append,.loc n=>getL S[n]? λ_=>True
 |.extend,.loc n=>getL S[n]? λ_=>True
 |.get,.loc n=>iV S[n]? λ_=>True
 |.oh,.loc n=>match S[n]? with|some (.eI _)=>True|some (.ur _)=>True|some (.xt _)=>True|_=>False
 |.vals,.loc n=>match S[n]? with|some (.ur _)=>True|_=>False
 |.nj,.int _=>True
 |_,_=>False
noncomputable def gX(f:String)(v:U):List (String×U)->List (String×U)
 |[]=>[(f,v)]
 | (g,x)::r=>if g=f then(g,v)::r else(g,x)::gX f v r
def om(x:U)(f:String)(S:bJ)(Q:U->Prop):Prop:=
 match x with
 |.loc n=>qw S[n]? λ_ fs=>opt (fs.lookup f) Q
 |_=>False
def vk(g:bJ->Prop)(turn:U->Env->bJ->(Env->bJ->Prop)->Prop)(fin:Env->bJ->Prop):List U->Env->bJ->Prop
 |[],env,S=>g S/\fin env S
 |u::us,env,S=>g S/\turn u env S (vk g turn fin us)
def nY(g:bJ->Prop)(c:U->bJ->(Bool->bJ->Prop)->Prop)(e:U->bJ->KU->Prop)(Q:List U->bJ->Prop):List U->List U->bJ->Prop
 |[],acc,S=>g S/\acc.length<16500000/\Q acc S
 |u::us,acc,S=>g S/\acc.length<16500000/\c u S λb S1=>if b=true then e u S1 λv S2=>nY g c e Q us (acc++[v]) S2 else nY g c e Q us acc S1
def yJ(c:Env->bJ->(Bool->bJ->Prop)->Prop)(b:Env->bJ->(Env->bJ->Prop)->Prop)(fin:Env->bJ->Prop):Nat->Env->bJ->Prop
 |0,_,_=>False
 |n+1,env,S=>c env S λt S1=>if t=true then b env S1 (yJ c b fin n) else fin env S1
def Ib(x:U)(S:bJ)(R:List U->(bJ->Prop)->Prop):Prop:=
 match x with
 |.str l=>R (l.map λc=>.str [c]) (λ_=>True)
 |.tup us=>us.length<=16500000/\R us (λ_=>True)
 |.loc n=>getL S[n]? λus=>R us (λS'=>S'[n]?=some (.lst us))
 |_=>False
noncomputable def mI(env:Env)(ci:List Nat):Env:=ci.map λj=>(env[j]?).join
def p8(pr:Bool)(u:U)(caps:Env)(k:Env->Prop):Prop:=
 match pr with
 |false=>k (some u::caps)
 |true=>Ob u λa b=>k (some a::some b::caps)
mutual
noncomputable def WE(Γ:bZ):Ex->Env->bJ->KU->Prop
 |.var i,env,S,Q=>yG env[i]? λu=>Q u S
 |.lit u,_,S,Q=>Q u S
 |.bin o a b,env,S,Q=>WE Γ a env S (λx S1=>WE Γ b env S1 (λy S2=>km o x y S2 Q))
 |.neg a,env,S,Q=>WE Γ a env S (λx S1=>lB x λi=>Q (.int (-i)) S1)
 |.not a,env,S,Q=>WE Γ a env S (λx S1=>Oa x λb=>Q (.bl !b) S1)
 |.and a b,env,S,Q=>WE Γ a env S (λx S1=>Oa x λc=>if c=true then WE Γ b env S1 Q else Q (.bl false) S1)
 |.or a b,env,S,Q=>WE Γ a env S (λx S1=>Oa x λc=>if c=true then Q (.bl true) S1 else WE Γ b env S1 Q)
 |.cmp o a b,env,S,Q=>WE Γ a env S (λx S1=>WE Γ b env S1 (λy S2=>gO o x y S2 λr=>Q (.bl r) S2))
 |.BO c a b,env,S,Q=>WT Γ c env S (λt S1=>if t=true then WE Γ a env S1 Q else WE Γ b env S1 Q)
 |.call f as,env,S,Q=>wA Γ as env S (λus S1=>Γ f us S1 Q)
 |.mk c q as,env,S,Q=>wA Γ as env S (λus S1=>Γ q (.loc S1.length::us) (S1++[.ins c []]) (λv S2=>v=.bV/\Q (.loc S1.length) S2))
 |.cL c m q o as,env,S,Q=>WE Γ o env S (λx S1=>uu x λn=>qw S1[n]? λc' fs=>(c'=c/\fs.lookup m=none)/\wA Γ as env S1 (λus S2=>Γ q (x::us) S2 Q))
 |.blt f as,env,S,Q=>wA Γ as env S (λus S1=>rq f us S1 Q)
 |.jt m o as,env,S,Q=>WE Γ o env S (λx S1=>ue m x S1/\wA Γ as env S1 (λus S2=>rA m x us S2 Q))
 |.fld o f,env,S,Q=>WE Γ o env S (λx S1=>om x f S1 λv=>Q v S1)
 |.ix o i,env,S,Q=>WE Γ o env S (λx S1=>WE Γ i env S1 (λy S2=>KQ x y S2 λv=>Q v S2))
 |.sl o lo hi,env,S,Q=>WE Γ o env S (λx S1=>WO Γ lo env S1 (λl S2=>WO Γ hi env S2 (λh S3=>SS x l h S3 Q)))
 |.tup as,env,S,Q=>wA Γ as env S (λus S1=>us.length<=16500000/\Q (.tup us) S1)
 |.lst as,env,S,Q=>wA Γ as env S (λus S1=>us.length<=16500000/\Q (.loc S1.length) (S1++[.lst us]))
 |.eI ks vs,env,S,Q=>wA Γ ks env S (λus S1=>wA Γ vs env S1 (λws S2=>us.length<=100/\match us with
   |[]=>Q (.loc S2.length) (S2++[.eI []])\/Q (.loc S2.length) (S2++[.ur []])\/Q (.loc S2.length) (S2++[.xt []])
   |[k]=>nq k=true/\∃v,ws=[v]/\Q (.loc S2.length) (S2++[.eI [(k,v)]])
   |_=>False))
 |.comp pr e it c ci,env,S,Q=>WI Γ it env S (λus g S1=>nY g (λu S2 k=>p8 pr u (mI env ci) λen=>WT Γ c en S2 k)
   (λu S2 k=>p8 pr u (mI env ci) λen=>WE Γ e en S2 k) (λacc S3=>Q (.loc S3.length) (S3++[.lst acc])) us [] S1)
 |.SN a t,env,S,Q=>WE Γ a env S (λx S1=>lB x λ_=>Q (.bl t) S1)
 |.L9 o k,env,S,Q=>WE Γ o env S (λx S1=>WE Γ k env S1 (λy S2=>P6 x y S2 λv=>Q v S2))
noncomputable def wA(Γ:bZ):zT->Env->bJ->(List U->bJ->Prop)->Prop
 |.nil,_,S,Q=>Q [] S
 |.cons e es,env,S,Q=>WE Γ e env S (λx S1=>wA Γ es env S1 (λxs S2=>Q (x::xs) S2))
noncomputable def WO(Γ:bZ):Ox->Env->bJ->(Option Int->bJ->Prop)->Prop
 |.no,_,S,Q=>Q none S
 |.e a,env,S,Q=>WE Γ a env S (λx S1=>lB x λj=>Q (some j) S1)
noncomputable def WI(Γ:bZ):It->Env->bJ->(List U->(bJ->Prop)->bJ->Prop)->Prop
 |.val e,env,S,R=>WE Γ e env S (λx S1=>Ib x S1 λus g=>R us g S1)
 |.range e,env,S,R=>WE Γ e env S (λx S1=>lB x λn=>n<=16500000/\-(16500000:Int)<=n/\R ((bX n.toNat).map λk=>.int (k:Nat)) (λ_=>True) S1)
 |.enum e,env,S,R=>WE Γ e env S (λx S1=>uu x λn=>getL S1[n]? λus=>R (us.mapIdx λi u=>.tup [.int (i:Nat),u]) (λS'=>S'[n]?=some (.lst us)) S1)
 |.keys e,env,S,R=>WE Γ e env S (λx S1=>uu x λn=>iV S1[n]? λkvs=>R (kvs.map (·.1)) (λS'=>S'[n]?=some (.vf kvs)) (S1.set n (.vf kvs)))
noncomputable def WT(Γ:bZ):Tx->Env->bJ->(Bool->bJ->Prop)->Prop
 |.cH e,env,S,Q=>WE Γ e env S (λx S1=>opt (vj S1 x) λb=>Q b S1)
 |.UA a b c,env,S,Q=>WE Γ a env S (λx S1=>WE Γ b env S1 (λy S2=>gO .le x y S2 λr=>if r=true then WE Γ c env S2 (λz S3=>gO .le y z S3 λr'=>Q r' S3) else Q false S2))
 |.not t,env,S,Q=>WT Γ t env S (λb S1=>Q (!b) S1)
 |.and a b,env,S,Q=>WT Γ a env S (λc S1=>if c=true then WT Γ b env S1 Q else Q false S1)
 |.or a b,env,S,Q=>WT Γ a env S (λc S1=>if c=true then Q true S1 else WT Γ b env S1 Q)
end
structure Ends where
 nx:Env->bJ->Prop
 rt:KU
mutual
noncomputable def WS(Γ:bZ):Sm->Ends->Env->bJ->Prop
 |.set i e,D,env,S=>WE Γ e env S (λu S1=>D.nx (env.set i (some u)) S1)
 |.nk o f e,D,env,S=>WE Γ e env S (λu S1=>WE Γ o env S1 (λx S2=>uu x λn=>qw S2[n]? λc fs=>fs.length<100/\D.nx env (S2.set n (.ins c (gX f u fs)))))
 |.oh o k e,D,env,S=>WE Γ e env S (λu S1=>WE Γ o env S1 (λx S2=>WE Γ k env S2 (λy S3=>uu x λn=>getD S3[n]? λkvs=>(nq y=true/\vh y kvs=none/\kvs.length<16500000)/\D.nx env (S3.set n (.eI (kvs++[(y,u)]))))))
 |.aug i p e,D,env,S=>yG env[i]? λx=>WE Γ e env S (λy S1=>yI p x y S1 λz S2=>D.nx (env.set i (some z)) S2)
 |.CD o f p e,D,env,S=>WE Γ o env S (λx S1=>uu x λn=>qw S1[n]? λc fs=>opt (fs.lookup f) λv=>
   WE Γ e env S1 (λy S2=>yI p v y S2 λz S3=>qw S3[n]? λc' fs'=>c'=c/\fs'.length<100/\D.nx env (S3.set n (.ins c (gX f z fs')))))
 |.Fz o i p e,D,env,S=>WE Γ o env S (λx S1=>WE Γ i env S1 (λy S2=>uu x λn=>lB y λk=>getL S2[n]? λus=>0<=k/\opt (us[k.toNat]?) λv=>
   WE Γ e env S2 (λz S3=>yI p v z S3 λr S4=>getL S4[n]? λus'=>k.toNat<us'.length/\D.nx env (S4.set n (.lst (us'.set k.toNat r))))))
 |.ex e,D,env,S=>WE Γ e env S (λ_ S1=>D.nx env S1)
 |.ret e,D,env,S=>WE Γ e env S D.rt
 |.ifs c a b,D,env,S=>WT Γ c env S (λt S1=>if t=true then uf Γ a D env S1 else uf Γ b D env S1)
 |.BP c b,D,env,S=>∃n,yJ (λen S1 k=>WT Γ c en S1 k) (λen S1 k=>uf Γ b {D with nx:=k} en S1) D.nx n env S
 |.fP t it b,D,env,S=>WI Γ it env S (λus g S1=>vk g (λu en S2 k=>match t with
   |.name i=>uf Γ b {D with nx:=k} (en.set i (some u)) S2
   |.pair i j=>Ob u λx y=>uf Γ b {D with nx:=k} ((en.set i (some x)).set j (some y)) S2) D.nx us env S1)
 |.SQ b,D,env,S=>uf Γ b D env S
noncomputable def uf(Γ:bZ):dh->Ends->Env->bJ->Prop
 |.nil,D,env,S=>D.nx env S
 |.cons s ss,D,env,S=>WS Γ s {D with nx:=λen S1=>uf Γ ss D en S1} env S
end
end PL
namespace L2
open PySem PySem.Spec PyProof.Rows PySem.W
open Builtin Builtin.Str
theorem DV:∀{b:List Nat},PL.iP a b=true↔∃i,i+a.length<=b.length/\(b.drop i).take a.length=a
 |[]=>by
  unfold PL.iP;rw[List.isEmpty_iff]
  constructor
  .rintro rfl;exact#[0,aq _,rfl]
  .rintro⟨i,h,_⟩
   erw[fY (by have h:i+a.length<=0:=h;omega)]
 |x::b=>by
  unfold PL.iP;rw[bu,DV (b:=b),wV]
  constructor
  .rintro(h|⟨i,h1,h2⟩)
   .refine#[0,by have:=h.length_le;omega,?_]
    rw[lG];exact(nV.mp h).symm
   .exact#[i+1,by simp;omega,by rw[E2];erw[h2]]
  .rintro⟨i,h1,h2⟩
   cases i with
   |zero=>rw[lG] at h2;erw[.inl (nV.mpr h2.symm)]
   |succ i=>rw[E2] at h2;exact .inr #[i,by simp at h1;omega,h2]
theorem AL(a b:List Nat):(!(occurrences (tx b) (tx a) 0 (tx b).length 1).isEmpty)=PL.iP a b:=by
 rw[dw,StrLaws.found_iff,DV]
 rwa[exists_congr λi=>?_]
 rw[dv,dv]
 rwa[and_congr_right λh=>?_]
 rw[StrLaws.subAt_eq,beq_iff_eq]
 simp[dv]
section
variable{X:Cx}
theorem FA:gG X (bF .In) (λx y H Q=>∃a b,x=.str (tx a)/\y=.str (tx b)/\Q (.bl (PL.iP a b)) H):=by
 x_go;let#[a,b,rfl,rfl,q]:=h;rwa[Fh pZ s σ H _ _ v u Q I rx ry #[tx a,tx b,rfl,rfl,?_]];rw[AL]
 erw[q]
theorem yK:gG X (bF .NotIn) (λx y H Q=>∃a b,x=.str (tx a)/\y=.str (tx b)/\Q (.bl (!PL.iP a b)) H):=by
 x_go;let#[a,b,rfl,rfl,q]:=h;rwa[yy pZ s σ H _ _ v u Q I rx ry #[tx a,tx b,rfl,rfl,?_]];rw[AL]
 erw[q]
theorem xw:Cp X "str.startswith" (λx xs H Q=>∃a b,x=.str (tx a)/\xs=[.str (tx b)]/\Q (.bl (b.isPrefixOf a)) H):=by
 intro pZ s σ H x xs v us Q I rx rs h;let#[a,b,rfl,rfl,q]:=h;let#[t,rfl]:=rx;let#[u,rfl,t',rfl]:=vals1 rs;rwa[SC.startswith #[.bl _,H,I,?_,q]];show j7 (Txt.startswith (tx a) (tx b))=j7 (b.isPrefixOf a)
 congr 1
 unfold Txt.startswith;rw[dw,aj,decide_eq_true_eq,StrLaws.subAt_eq,beq_iff_eq,wV,nV,dv,dv]
 dsimp[lG,dv,oG];constructor
 .rintro⟨_,h⟩;erw[h.symm]
 .intro h
  refine#[?_,h.symm];have:=congrArg cG h;simp at this;omega
theorem vm:∀{bs:List Bool}{us:List Value},Vals (bs.map V.bl) us->us=bs.map j7
 |[],_,.nil=>rfl
 |b::bs,_,.cons r h=>by
  cases r;rw[vm h];rfl
theorem CI(hc:X.calm=true):gv X (.builtin "all") (λxs H Q=>∃p,∃bs:List Bool,xs=[.ref p]/\iU X.K H p (bs.map V.bl)/\Q (.bl (bs.all id)) H):=by
 w_up;let#[p,bs,rfl,hl,q]:=h;let#[u,rfl,ru]:=vals1 r;cases ru;let#[its,r,pl,_]:=I.list hl;have hl:=pl.isList;have hits:=vm r;have hlt:p<s.heap.objs.size:=by let#[_,e,_]:=hl;erw[aS e]
 refine call_all_walk (ki hl ?_);refine#[s.heap.objs.size,[s.heap.objs.size,p],[s.heap.objs.size],its.toArray.size,_,_,λi=>(bs[i]?).getD true,rfl,E3 (A:=X.A.in1) (I.ok.hd hc) _ p (aY hlt) its.toArray,
  #[#[_,bb _ rfl,rfl,rfl],hl.push _],λi v s' Q' E' hP hQ=>?_,λh' tk hk=>?_]
 .have hP:its[i]?=some v:=by simpa using hP
  rw[hits,aB] at hP;cases e:bs[i]? with
  |none=>rw[e] at hP;cases hP
  |some b=>
   rw[e] at hP;have hQ:Q' ((bs[i]?).getD true) s':=hQ;rw[e] at hQ;cases hP;erw[cw hQ]
 .have e:((bX its.toArray.size).all λi=>(bs[i]?).getD true)=bs.all id:=by
   rw[aG,hits,ak];erw[LSm.range_all bs]
  rw[e]
  exact#[.bl _,H,I.kept (Ac hk),rfl,q]
theorem DW:∀{is:List Int}{us:List Value},Vals (is.map V.int) us->∃ps:List (Int×Tok),us=ps.map (λp=>lu p.1 p.2)/\ps.map (·.1)=is
 |[],_,.nil=>#[[],rfl,rfl]
 |i::is,_,.cons (b:=u) r h=>by
  let#[t,e]:=(show ∃t,u=lu i t from r)
  subst e;let#[ps,e1,e2]:=DW h;exact#[(i,t)::ps,by rw[e1];rfl,by rw[ay,e2]]
theorem CJ(hc:X.calm=true):gv X (.builtin "sum") (λxs H Q=>∃p,∃is:List Int,xs=[.ref p]/\iU X.K H p (is.map V.int)/\Q (.int is.sum) H):=by
 w_up;let#[p,is,rfl,hl,q]:=h;let#[u,rfl,ru]:=vals1 r;cases ru;let#[its,r,pl,_]:=I.list hl;let#[ps,e1,e2]:=DW r;have hl:s.heap.IsList p (intItems ps.toArray):=by
  have:=pl.isList;rw[e1] at this;simpa[intItems] using this
 rwa[sum_intListG (I.ok.hd hc) hl λh' tk t' hk=>#[.int is.sum,H,I.kept hk,#[t',?_],q]]
 rw[preSum_eq,gf (by simp)]
 simp[e2]
theorem P7(hu:X.A.units+200<eL):gG X (bF .NotEq) (λx y H Q=>∃ds ds',mT X.K H x (.tup ds)/\mT X.K H y (.tup ds')/\Dv.jF ds<=100/\Q (.bl (!nh ds ds')) H):=by
 intro pZ s σ H x y u v Q I rx ry h;let#[ds,ds',hx,hy,hz,q]:=h;unfold mT at hx hy;let#[a,vs,rfl,hq,hd]:=hx;let#[a',vs',rfl,hq',hd']:=hy;cases rx;cases ry;let#[its,r1,p,_]:=I.tuple hq;let#[its',r2,p',_]:=I.tuple hq';have l1:=hd.len;have l2:=hd'.len;have m1:=r1.length;have m2:=r2.length;refine SeqAt.RcNeAt.tuples (e:=λj=>match ds[j]?,ds'[j]? with|some a,some b=>v9 a b|_,_=>true) p p' ∅ (λj k1 k2=>?_) _ _ _ _ #[.bl _,H,I,?_,q]
 .rw[aG] at k1 k2
  have e1:ds[j]?=some (ds[j]'∅):=aa _;have e2:ds'[j]?=some (ds'[j]'∅):=aa _;have f1:vs[j]?=some (vs[j]'∅):=aa _;have f2:vs'[j]?=some (vs'[j]'∅):=aa _;let#[w1,g1,q1]:=r1.get f1;let#[w2,g2,q2]:=r2.get f2;have a1:its.toArray[j]=w1:=by
   let#[_,z]:=ae.mp g1;simpa using z
  have a2:its'.toArray[j]=w2:=by
   let#[_,z]:=ae.mp g2;simpa using z
  rw[a1,a2,e1,e2]
  erw[CB I 100 (aH (mE e1) hz) (by show X.A.units+1+100<eL;omega) (hd.get f1 e1) (hd'.get f2 e2) q1 q2]
 .show j7 _=j7 _
  congr 2
  rw[aG,aG,<-m1,<-m2,l1,l2]
  rwa[ni ds ds' _ λi a b h1 h2=>?_]
  rw[h1,h2]
theorem Ic:gG X (bF .In) (λx y H Q=>∃a k r,x=.str k/\y=.ref a/\(∃es n,X.K.lookup a=some #[.type "dict",none,.dict es n,#[]]/\BJ X.w.params es.toList)/\(a==b7)=false/\nsIn X.K a k=some r/\Q (.bl r.isSome) H):=by
 x_go;let#[a,k,r,rfl,rfl,#[es,n,lk,kl],lo,e,q]:=h;let#[t,rfl]:=rx;cases ry;erw[wpAny_in_of (strKind_is X.prog X.w k t) lo (mapOf_K (prog:=X.prog) (w:=X.w) I.yo lk kl) (by rw[find_K lk e];exact#[.bl _,H,I.tok _,rfl,q])]
end
section
variable{X:Cx}{pZ:List (Addr×Obj)}{σ:List (Option V)}{H:Hp}{s:aC}{h':Heap}
theorem Inv.P8(I:Inv X pZ σ H s)(k:∀b o,b≠X.env.locals->s.heap.get? b=some o->h'.get? b=some o)(h1:s.heap.Ns X.env.locals m)(h2:h'.Ns X.env.locals m):Inv X pZ σ H {s with heap:=h',toks:=t'}:=by
 have nL:∀b u,H b=some u->b≠X.env.locals:=λb u e z=>by rw[z,I.free] at e;cases e
 refine I.step (g':=s.gens) (d':=s.drawn) (ch:=[]) (λ_ z=>nomatch z) (λb o hL _ _ e _=>k b o hL e) (λb o hL _ _ e _=>#[o.slots,k b o hL e]) (λ_ _ _ _ n=>n)
  (λb o _ e=>?_) (λ_ _ e=>e) (λ_ _ _ e=>e) (λb ps e=>#[#[],by rw[e];simp]) (λm' hm=>?_) (λb u e=>?_) I.bare
 .by_cases z:b=X.env.locals
  .let#[o',_,_,ho,_]:=h2
   exact#[o',by rw[z];erw[ho]]
  .exact#[o,k b o z e]
 .rw[hm.eq_nsMap,<-h1.eq_nsMap];erw[h2]
 .refine(I.dD b u e).B8 (λc v hc q=>k c v ?_ q) (λ_ q=>q) λ_ _ q=>q
  rcases hc with z|z
  .rw[z];erw[nL b u e]
  .erw[nL c _ z]
end
section
variable{X:Cx}
noncomputable def AM(t:List Nat)(ts:List (List Nat)):List Nat:=ts.foldl (λb x=>if x.length<b.length then x else b) t
theorem DX:∀{ts:List (List Nat)}{us:List Value},Vals (ts.map λt=>V.str (tx t)) us->us.length=ts.length/\∀(i:Nat)v,us[i]?=some v->∃t k,ts[i]?=some t/\v=lx (tx t) k
 |[],_,.nil=>#[rfl,λi v h=>by simp at h]
 |t::ts,_,.cons (b:=u) r h=>by
  let#[k,e]:=(show ∃k,u=lx (tx t) k from r)
  subst e;let#[e1,e2]:=DX h;refine#[by simp[e1],λi v q=>?_];cases i with
  |zero=>simp at q;exact#[t,k,rfl,q.symm]
  |succ i=>exact e2 i v (by simpa using q)
theorem uv(b:List Nat):∀(ts:List (List Nat))(i:Nat)(t:List Nat),(b::ts)[i]?=some t->(∀j u,(b::ts)[j]?=some u->t.length<=u.length/\(j<i->t.length<u.length))->AM b ts=t
 |[],i,t,h,_=>by
  cases i with
  |zero=>simp at h;erw[h]
  |succ i=>simp at h
 |x::ts,i,t,h,m=>by
  show AM (if x.length<b.length then x else b) ts=t
  have mb:=m 0 b rfl;have mx:=m 1 x rfl;by_cases z:x.length<b.length
  .rw[if_pos z]
   cases i with
   |zero=>simp at h;subst h;omega
   |succ i=>
    refine uv x ts i t (by simpa using h) λj u hj=>?_
    have:=m (j+1) u (by simpa using hj);exact#[this.1,λq=>this.2 ∅]
  .rw[if_neg z]
   cases i with
   |zero=>
    simp at h;subst h;rwa[uv b ts 0 b rfl λj u hj=>#[?_,λq=>∅]]
    cases j with
    |zero=>simp at hj;subst hj;erw[aq _]
    |succ j=>exact(m (j+2) u (by simpa using hj)).1
   |succ i=>
    cases i with
    |zero=>simp at h;subst h;have:=mb.2 ∅;omega
    |succ i=>
     refine uv b ts (i+1) t (by simpa using h) λj u hj=>?_
     cases j with
     |zero=>simp at hj;subst hj;exact#[mb.1,λ_=>mb.2 ∅]
     |succ j=>
      have:=m (j+2) u (by simpa using hj);exact#[this.1,λq=>this.2 ∅]
theorem AN(hc:X.calm=true)(I:Inv X pZ σ H s)(hl:iU X.K H p ((t::ts).map λt=>V.str (tx t)))
  (hz:∀u∈t::ts,u.length<=16500000) (q:Q (.str (tx (AM t ts))) H){E:Value->aC->Prop}:
  wpAny (bc X.prog X.w) X.A (call (.builtin "min") [.ref p] [(b9 "key",.builtin "len")]) (EP X pZ σ Q) E s:=by
 let#[its,r,pl,_]:=I.list hl;let#[e1,e2]:=DX r;let#[m,F]:=I.fr;have kp:∀h,Fr X.base X.env.locals h m->News X.base X.env.locals h (pd X.base s.heap X.env.locals)->∀b o,b≠X.env.locals->s.heap.get? b=some o->h.get? b=some o:=λh F' N' b o hb e=>by
  cases z:X.base.get? b with
  |some o'=>have:=I.bk b o' z;rw[e] at this;cases this;erw[F'.keep b _ z]
  |none=>exact(N' (b,o) (Ao hb z e)).1
 let#[ol,hol,hc1,n1,hd1]:=pl.isList;have pL:p≠X.env.locals:=λe=>by
  let#[o',es,ep,ho',hd',_]:=F.ns;rw[<-e,hol] at ho';cases ho';rw[hd1] at hd';cases hd'
 rwa[kmb_min (kid:="len") (vs:=its) (news:=pd X.base s.heap X.env.locals) (λi=>(((t::ts)[i]?).getD []).length) (I.ok.hd hc) F Hl (λh F' N'=>?_) (by rw[e1];simp) (λi v hv h tk own F' N'=>?_) (λi v h' tk' hv hb F' N'=>?_)]
 .exact#[ol,kp h F' N' p ol pL hol,hc1,n1,hd1]
 .let#[u,k,hu,rfl]:=e2 i v hv
  have hn:=oJ;have hu':=hz u (af hu);rwa[len_str (by rw[dv];omega) ?_];rw[hu,fE,dv]
  erw[KskEnd.intro F' N' λp hp=>hp]
 .let#[u,k,hu,rfl]:=e2 i v hv
  have eb:AM t ts=u:=uv t ts i u hu λj w hj=>by
   have hj':j<its.length:=by rw[e1];exact(ae.mp hj).1
   have:=hb j hj';rw[hu,hj] at this;dsimp[fE] at this;exact#[∅,λq=>by have:=this.2 q;omega]
  rw[eb] at q;refine#[.str (tx u),H,?_,#[k,rfl],q];rwa[I.P8 (λb o hb e=>?_) F.ns F'.ns];erw[kp h' F' N' b o hb e]
theorem FC(hc:X.calm=true)(hg:Gl X "min")(hm:X.mg "min"=none)(hg2:Gl X "len")(hm2:X.mg "len"=none)(ha:PE X e te)(hs:bx [e] X.env=[(false,eval e X.env)]:=by rfl):
  PE X (.Call (.Name "min" p) [e] [#[some "key",.Name "len" pl,kp]] pos) (λσ H Q=>te σ H λv H1=>∃a t ts,v=.ref a/\iU X.K H1 a ((t::ts).map λt=>V.str (tx t))/\(∀u∈t::ts,u.length<=16500000)/\Q (.str (tx (AM t ts))) H1):=by
 k_ne;rwa[eV (qm I hg hm boot_min ?_)];rwa[callWith_kw (e:=e) (rest:=[]) ?_ (by rw[hs];rfl) (by rw[hs];rfl)];rw[hs]
 rwa[iY (dW (ha pZ s σ H _ I h) λu s1 h9=>?_)];let#[x,H1,I1,r1,a,t,ts,e2,hl,hz,q]:=h9;rwa[mm ?_];subst e2;cases r1;rwa[kws_cons (qm I1 hg2 hm2 K9 (kws_nil ?_))];erw[AN hc I1 hl hz q]
end
section
variable{X:Cx}{pZ:List (Addr×Obj)}{σ:St}{H:Hp}{s:aC}
theorem Inv.Md{ch:List Addr}{h':Heap}{t':Nat}{a:Addr}{o:HO}(I:Inv X pZ σ H s)(k:∀b u,b∉ch->s.heap.get? b=some u->h'.get? b=some u)(hf:∀b∈ch,ua X pZ H b)(hp:s.heap.objs.size<=a)
  (new:dH X.prog X.w (upd H a o) h' a o):Inv X pZ σ (upd H a o) {s with heap:=h',toks:=t'}:=by
 have hn:=I.dD.fresh hp;have na:∀b u,s.heap.get? b=some u->b≠a:=λb u e z=>absurd (av (aS e) hp) (by rw[z];erw[cD _])
 have nt:∀b u,H b=some u->b∉ch:=λb u e z=>by rw[(hf b z).1] at e;cases e
 have tr:∀b u,H b=some u->upd H a o b=some u:=λb u e=>by rw[cb (dB e hn)];erw[e]
 refine I.step (g':=s.gens) (d':=s.drawn) (ch:=ch) (λb hb=>?_) (λb u _ _ hc e _=>k b u hc e) (λb u _ _ hc e _=>#[u.slots,k b u hc e]) (λb u _ e n=>by rw[cb (na b u e)];exact n)
  (λb u hc e=>#[u,k b u hc e]) (λb _ e=>tr b _ e) (λb _ _ e=>tr b _ e) (λb ps e=>#[#[],by rw[tr b _ e];simp]) (λm hm=>?_) (λb u e=>?_) I.bare
 .let#[f0,f1,f2,f3,f4,f5]:=hf b hb
  exact#[f3,f1,f4,f5]
 .let#[q,es,ep,ho,r]:=hm
  exact#[q,es,ep,k _ q (λz=>(hf _ z).2.1 rfl) ho,r]
 .by_cases hb:b=a
  .subst hb;rw[cg] at e;cases e;erw[new]
  .rw[cb hb] at e
   refine(I.dD b u e).B8 (λc v hc q=>k c v ?_ q) (λc q=>tr c _ q) λc xs q=>tr c _ q
   rcases hc with z|z
   .rw[z];erw[nt b u e]
   .erw[nt c _ z]
def Xg(K:aJ)(a:Addr):It:=
 #[λi H=>∃xs x,iU K H a xs/\xs[i]?=some x,λi H y H'=>∃p x,H p=none/\y=.ref p/\H'=upd H p (.tup [.int i,x])/\∀xs,iU K H a xs->xs[i]?=some x,λi H=>∃xs,iU K H a xs/\xs.length<=i]
theorem FD{P:bO}{w:cy}{K:aJ}{es:List Expr}{k:Nat}{pos:Pos}(a e it:Addr)(hne:e≠it):
  Turn P w K (.Tuple es k pos) (Xg K a) [e,it] e (λi h=>(∃old,IsEnum h e it i old)/\h.IsListIter it a i) where
 mem:=by simp
 obj:=λi h st b hb=>by
  let#[#[old,h1],o,h2,c,d]:=st;rcases aR.mp hb with rfl|hb
  .exact#[_,h1,λv z=>by cases z]
  .have e:b=it:=by simpa using hb
   subst e;exact#[o,h2,λv z=>by rw[d] at z;cases z]
 keep:=λi h h' st k=>by
  let#[#[old,h1],h2]:=st;exact#[#[old,k e (by simp) _ h1],h2.at λo q=>k it (by simp) o q]
 item:=by
  k_go;subst hP hw hK;let#[xs,x,hq,hx]:=hg;let#[its,rv,p,hz]:=I.list hq;let#[u,hu,ru]:=rv.get hx;let#[#[old,h1],h2]:=st;refine wpAny_pyNext_enum_item h1 h2 p.isList (x:=u) (by simpa using hu) hne λh' ho hit' hT hsz hk=>?_
  refine#[_,rfl,wpAny_letOwnedTupleGo_enum ho λh'' he'' sb=>?_];have hel:e<s.heap.objs.size:=aS h1;have nT:s.heap.objs.size≠e:=du hel;have k2:∀b v,b∉[e,it]->s.heap.get? b=some v->h''.get? b=some v:=λb v hb q=>by
   dsimp[aR,cv,or_false,not_or] at hb;exact(sb.2 b hb.1).trans (hk b v hb.1 hb.2 q)
  have hfr:=I.fresh;refine#[.ref s.heap.objs.size,upd H s.heap.objs.size (.tup [.int i,x]),I.Md (t':=s.toks+1) (h':=h'') k2 hf (aq _) ?_,rfl,#[_,x,hfr,rfl,rfl,λys hy=>by rw[I.uS hy hq];erw[hx]],?_,λb hb=>?_]
  .exact#[show 2<=sizeLine by decide,[.int i s.toks,u],.cons #[_,rfl] (.cons ru .nil),_,(sb.2 _ nT).trans hT,rfl,_,rfl]
  .exact#[#[u,by simpa using he''],hit'.at λo q=>(sb.2 it hne.symm).trans q]
  .rw[cb]
   .exact(hf b hb).1
   .intro z
    let#[f0,_]:=hf b hb;rcases aR.mp hb with q|hb
    .erw[nT (z▸q.symm▸rfl)]
    .have q:b=it:=by simpa using hb
     let#[o,h3,_]:=h2;have:=aS h3;rw[<-q,z] at this;erw[cD _ this]
 done:=by
  k_go;subst hP hw hK;let#[xs,hq,hx]:=hg;let#[its,rv,p,hz]:=I.list hq;let#[#[old,h1],h2]:=st;have hl:=rv.length;let#[f0,f1,f2,f3,f4,f5]:=hf it (by simp);erw[wpAny_pyNext_enum_end (I.ok.hd hc) h1 h2 p.isList (by simp;omega) λh' eb=>#[rfl,I.turned (t':=s.toks) (λb o hb e=>eb b o hb e) f0 f1 f3 f4 f5]]
 self:=λ_ _ _ _ _ st h=>by
  let#[#[old,h1],h2]:=st;erw[wpAny_pyIter_enum h1 h]
def UC(K:aJ)(ta:TA):TI:=λσ H R=>ta σ H λvs H1=>∃a,vs=[.ref a]/\(∃xs,iU K H1 a xs)/\R (Xg K a) H1
theorem Me{X:Cx}{a:Expr}{ta:TA}{p pos:Pos}{es:List Expr}{k:Nat}{tp:Pos}(hg:Gl X "enumerate")(hm:X.mg "enumerate"=none)(ha:PA X [a] ta)(hs:bx [a] X.env=[(false,eval a X.env)]:=by rfl):
  PI X (.Tuple es k tp) (.Call (.Name "enumerate" p) [a] [] pos) (UC X.K ta):=by
 intro pZ s σ H R I h;rwa[Call_ (qm I hg hm boot_enumerate (jK (dW (ha pos pZ s σ H _ I h) λus s1 h9=>?_) hs rfl))];let#[vs,H1,I1,r1,q1]:=h9;let#[l,e,#[xs,hq],q]:=q1;subst e;cases r1 with
 |cons r rr=>
  cases rr;cases r;let#[its,rv,p,hz]:=I1.list hq;rwa[call_enumerate_list p.isList λh' hE hI hsz hk=>wpAny_pyIter_enum hE ?_]
  have I2:Inv X pZ σ H1 {s1 with heap:=h'}:=I1.kept (t':=s1.toks) λb o e=>hk b o e
  refine#[_,[s1.heap.objs.size+1,s1.heap.objs.size],_,Xg X.K l,H1,rfl,I2,FD l _ _ (Nat.succ_ne_self _),#[#[_,hE],hI],λb hb=>?_,q];rcases aR.mp hb with e|hb
  .subst e
   erw[I1.B9 (jk _) (I1.dD.fresh (jk _))]
  .have e:b=s1.heap.objs.size:=by simpa using hb
   subst e;erw[I1.B9 (aq _) (I1.dD.fresh (aq _))]
end
theorem yL:typeLookup (.type "list") "keys"=pure none:=by rw[typeLookup_type,builtinLookup_eq_fast];kernel_rfl
theorem pq:plainId "dict.update.loop"=true:=by decide +kernel
theorem xy:entryFor table "dict.update.loop"=some Builtin.«dict.update.loop»:=entryFor_of_tree (by kernel_rfl)
section
variable{prog:bO}{w:cy}{A:dN}{E:Value->aC->Prop}{s:aC}{a l it D:Addr}{its:Array Value}{n:Nat}{K:Type}[DecidableEq K]{knd:KeyKind prog w K}
theorem FE(hx:s.heap.get? a=some {cls:=.type "list",data:=.seq its n})(hA:A.handled=none)
  (hq:∀h' t',(∀b o,s.heap.get? b=some o->h'.get? b=some o)->Q none {s with heap:=h',toks:=t'}):wpAny (bc prog w) A (getAttr? (.ref a) "keys") Q E s:=by
 let#[h,g,d,t,os]:=s;have hT:(#[h,g,d,t,os]:aC).TypeIs (.ref a) "list":=#[_,hx,rfl]
 have f1:=sub_AttributeError;have f3:=n9.lookup;have f4:=n9.bind (.ref a);have f5:=am_list_getattr_none;unfold getAttr? getAttrBy? getAttrBy
 repeat (any_goals (first|assumption| ((with_reducible show wpAny _ _ (call (Value.builtin "list.__getattribute__") _ _) _ _ _);refine call_meets n9 (show Shared.TypeIs _ _ "list" from #[_,hx,rfl]) am_entry_list_getattribute (F.args_list_getattribute_2 _ _) (meets_getattribute_miss_list a its n #[] "keys" _ yL (by decide +kernel)) #[hx,hA,λh' tk' e hx'=>?_])|wp_step))
 let#[t',u',he]:=hx'.there;show wpAny _ _ (getattributeRaised _ _ _ _ _ _ _) _ _ _;unfold getattributeRaised
 repeat (any_goals (first|assumption|wp_step))
 erw[hq _ _ hx'.keeps]
theorem sR{h:Heap}{a b:Addr}{o u:Obj}(ha:h.get? a=some o)(hb:h.get? b=some u)(n:o.cls≠u.cls):a≠b:=λe=>by
 rw[e,hb] at ha;cases ha;erw[n rfl]
theorem FF{R:Result->aC->Prop}{more:List (K×Value)}{res:Value}(hh:A.handled=none)(hz:its.size=more.length):∀(k i:Nat)(s:aC)(acc:List (K×Value)),more.length-i=k->i<=more.length->s.heap.IsListIter it l i->s.heap.IsList l its ->
  (∀(j:Nat)(kk:K)(v:Value),more[j]?=some (kk,v)->∃T key,its[j]?=some (.ref T)/\s.heap.IsTuple T (List.toArray [key,v])/\knd.is kk key=true)->s.heap.DictOf knd D acc->acc.length+k<=sizeLine ->
  (∀h' t',h'.DictOf knd D (merged acc (more.drop i))->(∀b o,b≠D->b≠it->s.heap.get? b=some o->h'.get? b=some o)->R (.ok (.ret res)) {s with heap:=h',toks:=t'}) ->
  qj (bc prog w) A (.builtin "dict.update.loop" #[[bj D,bj it,sr i,res],[]]) R s:=by
 intro k;induction k with
 |zero=>
  intro i s acc hk hi hit hl hp hd hs hR;have hin:i=more.length:=∅
  rwa[codeAny_builtin xy ?_];rw[BL pq _]
  show wpAny _ A.in1 (x8 (.ref it)>>=_) _ _ s
  let#[oi,hoi,ci,di]:=id hit;let#[od,es,ep,hod,hcd,r]:=id hd;have nd:D≠it:=sR hod hoi (by rw[hcd.1,ci];decide);rwa[ab (Ky hh hit hl (by rw[hin,<-hz];simp) λh' eb=>?_)];rwa[ab (ax (ax ?_))];rwa[hR h' s.toks ?_ λb o _ hb e=>eb b o hb e]
  rw[hin,KC]
  exact#[od,es,ep,eb D od nd hod,hcd,r]
 |succ k ih=>
  intro i s acc hk hi hit hl hp hd hs hR;have lt:i<more.length:=∅
  obtain⟨⟨kk,v⟩,hkv⟩:∃p,more[i]?=some p:=#[_,aa lt]
  let#[T,key,hT,ht,hk']:=hp i kk v hkv;rwa[codeAny_builtin xy ?_];rw[BL pq _]
  show wpAny _ A.in1 (x8 (.ref it)>>=_) _ _ s
  let#[oi,hoi,ci,di]:=id hit;let#[od,es,ep,hod,hcd,r]:=id hd;let#[ol,hol,cl,dl]:=id hl;have nd:D≠it:=sR hod hoi (by rw[hcd.1,ci];decide);have nl:l≠it:=sR hol hoi (by rw[cl,ci];decide);have nld:l≠D:=sR hol hod (by rw[cl,hcd.1];decide);have nt:∀{T:Addr}{vs:Array Value},s.heap.IsTuple T vs->T≠it/\T≠D:=λ⟨ot,hot,ct,_⟩=>#[sR hot hoi (by rw[ct,ci];decide),sR hot hod (by rw[ct,hcd.1];decide)]
  rwa[ab (GV hit hl hT λh1 hit1 sb1=>?_)];let#[ot,hot,ct,nn,dt]:=id ht;have hot1:h1.get? T=some ot:=(sb1.2 T (nt ht).1).trans hot;rwa[ab (fK (ab (wpAny_tryCatch ?_)))];unfold Builtin.Dict.pairItems;rwa[ab (GY (T:="tuple") #[ot,hot1,ct] ?_)];rw[if_pos ⋯]
  rwa[ab (BR hot1 dt (ax ?_))];show wpAny _ A.in1 (holding [key,v] (dictSet D key v)) _ _ _;rwa[fK (fK (ab (knd.pyHash hk' ?_)))];have hd1:h1.DictOf knd D acc:=#[od,es,ep,(sb1.2 D nd).trans hod,hcd,r]
  rwa[wpAny_dictSetHashed_pairs hk' hd1 (λh2 hd2 sb2=>ax #[plainId_quiet pq _,?_]) ∅];have kp:∀b o,b≠D->b≠it->s.heap.get? b=some o->h2.get? b=some o:=λb o n1 n2 e=>(sb2.2 b n1).trans ((sb1.2 b n2).trans e)
  have e1:(sr ((i:Int)+1))=sr ((i+1:Nat):Int):=by push_cast;rfl
  rw[e1]
  refine ih (i+1) _ (uO acc kk v) ∅ lt (hit1.at λo e=>(sb2.2 it nd.symm).trans e) #[ol,kp l ol nld nl hol,cl,dl] (λj kk v e=>?_) hd2 ?_ λh' t' hd' kp'=>?_
  .let#[T,key,q1,#[ot,hot,r],q3]:=hp j kk v e
   exact#[T,key,q1,#[ot,kp T ot (nt #[ot,hot,r]).2 (nt #[ot,hot,r]).1 hot,r],q3]
  .have:(uO acc kk v).length<=acc.length+1:=by
    unfold uO;split
    .rw[ak];omega
    .rw[az];simp
   omega
  .rwa[hR h' t' ?_ λb o n1 n2 e=>kp' b o n1 n2 (kp b o n1 n2 e)]
   rw[eT lt]
   have:more[i]=(kk,v):=by rw[aa lt] at hkv;erw[aF hkv]
   rw[this]
   erw[hd']
theorem CK{more:List (K×Value)}{Q:Value->aC->Prop}(hh:A.handled=none)(hl:s.heap.get? l=some {cls:=.type "list",data:=.seq its n})(hz:its.size=more.length)(hm:more.length<=sizeLine)
  (hp:∀(j:Nat)(kk:K)(v:Value),more[j]?=some (kk,v)->∃T key,its[j]?=some (.ref T)/\s.heap.IsTuple T (List.toArray [key,v])/\knd.is kk key=true)
  (h:∀h' t',h'.DictOf knd s.heap.objs.size (merged [] more)->(∀b o,s.heap.get? b=some o->h'.get? b=some o)->Q (.ref s.heap.objs.size) {s with heap:=h',toks:=t'}):
  wpAny (bc prog w) A (call (.type "dict") [.ref l]) Q E s:=by
 refine callType_codes (Q₁:=λobj s₁=>obj=.ref s.heap.objs.size/\s₁={s with heap:=s.heap.push {cls:=.type "dict",data:=.dict #[]} }) F.kt_called_dict (F.kt_typeCall_dict_1 _) F.entry_dict_init (kt_code_dict_new _ #[rfl,rfl]) ?_;rintro obj s₁ ⟨rfl,rfl⟩;have hnew:(s.heap.push {cls:=.type "dict",data:=.dict #[]}).DictOf knd s.heap.objs.size []:=BG s.heap;have kp:∀b o,s.heap.get? b=some o->(s.heap.push {cls:=.type "dict",data:=.dict #[]}).get? b=some o:=λb o e=>aI _ e
 generalize s.heap.push {cls:=.type "dict",data:=.dict #[]}= h1 at hnew kp;refine#[hnew.typeIs,F.args_dict_init_2 _ _,?_];unfold Builtin.«dict.__init__»;rwa[ab ?_];unfold Builtin.Dict.selfAndRest;rwa[ab (qP hnew.typeIs ?_)];show wpAny _ _ (pure (s.heap.objs.size,[bj l])) _ _ _;rwa[ax ?_];show wpAny _ _ (Builtin.Dict.updateFrom "dict.__init__" s.heap.objs.size (.ref l) [] .none) _ _ _;unfold Builtin.Dict.updateFrom;rwa[ab (GY (T:="list") #[_,kp l _ hl,rfl] ?_)];rw[if_pos ⋯]
 rwa[ab (FE (kp l _ hl) hh λh2 t2 k2=>?_)];rw[if_pos (by rfl)]
 refine ab (qe ?_);have hl2:=k2 l _ (kp l _ hl);refine ab (ki #[_,hl2,rfl,_,rfl] (ax #[plainId_quiet pq _,?_]));have nD:s.heap.objs.size<h2.objs.size:=by
  let#[od,_,_,hod,_]:=hnew;erw[aS (k2 _ _ hod)]
 have kp3:∀b o,s.heap.get? b=some o->(h2.push {cls:=.type "list_iterator",data:=.fields (List.toArray [.ref l,.int 0 0])}).get? b=some o:=λb o e=>aI _ (k2 b o (kp b o e))
 refine FF (A:=A.in1) (knd:=knd) (its:=its) (l:=l) hh hz more.length 0 _ [] ∅ (b8 _) ?_ ?_ (λj kk v e=>?_) ?_ (by simpa using hm) λh' t' hd' kp'=>?_
 .exact#[_,bb _ rfl,rfl,rfl]
 .exact#[{cls:=.type "list",data:=.seq its n},aI _ hl2,rfl,n,rfl]
 .let#[T,key,q1,#[ot,hot,r],q3]:=hp j kk v e
  exact#[T,key,q1,#[ot,kp3 T ot hot,r],q3]
 .let#[od,es,ep,hod,r]:=hnew
  exact#[od,es,ep,aI _ (k2 _ _ hod),r]
 .refine#[rfl,h h' t' hd' λb o e=>kp' b o ?_ ?_ (kp3 b o e)]
  .erw[aY (aS e)]
  .erw[aY (aS (k2 b o (kp b o e)))]
end
section
variable{X:Cx}{pZ:List (Addr×Obj)}{σ:St}{H:Hp}{s:aC}
abbrev P9(H:Hp)(v:V)(kv:Key×V):Prop:=∃T,v=.ref T/\H T=some (.tup [kV kv.1,kv.2])
theorem Mf(I:Inv X pZ σ H s):∀{vs:List V}{kvs:List (Key×V)}{its:List Value},Paired (P9 H) vs kvs->Vals vs its->∃more,KV kvs more/\its.length=more.length /\
  ∀(j:Nat)(kk:Key)(v:Value),more[j]?=some (kk,v)->∃T key,its[j]?=some (.ref T)/\s.heap.IsTuple T (List.toArray [key,v])/\(cX X.prog X.w).is kk key=true
 := by
 intro vs kvs its hp hv;induction hp generalizing its with
 |nil=>cases hv;exact#[[],.nil,rfl,λj kk v e=>by cases e]
 |cons ha hr ih=>
  rename_i b _ _;let#[k,x]:=b;let#[T,e,hT]:=ha;cases hv with|cons r rr=>?_
  subst e;cases r;let#[more,h1,h2,h3]:=ih rr;let#[z,its',rv,p]:=I.dD T _ hT;cases rv with
  |cons r1 rr1=>
   rename_i ku us';cases rr1 with
   |cons r2 rr2=>
    rename_i xu _;cases rr2;refine#[(k,xu)::more,.cons #[rfl,r2] h1,by simp[h2],λj kk v e=>?_];cases j with
    |zero=>
     simp at e;let#[rfl,rfl]:=e;exact#[T,ku,rfl,p,rj r1]
    |succ j=>simpa using h3 j kk v (by simpa using e)
theorem CM(hA:X.A.handled=none):gv X (.type "dict") (λxs H Q=>∃a vs kvs,xs=[.ref a]/\H a=some (.lst vs)/\Paired (P9 H) vs kvs/\(kvs.map (·.1)).Nodup/\∀p,H p=none->Q (.ref p) (upd H p (.dK kvs))):=by
 intro pZ s σ H xs us Q I rv h;let#[a,vs,kvs,rfl,hH,hp,hn,q]:=h;let#[u,rfl,ru]:=rv.one;cases ru;let#[z,its,n,r,hl,e]:=I.Fo hH;let#[more,h1,h2,h3]:=Mf I hp r;have hk:=h1.keys;refine CK (knd:=cX X.prog X.w) (more:=more) hA e (by simpa using h2) (by rw[<-h2,<-hl];erw[z]) (λj kk v ej=>?_) λh' t' hd kp=>?_
 .let#[T,key,q1,q2,q3]:=h3 j kk v ej
  exact#[T,key,by simpa using q1,q2,q3]
 .rw[merged_nil_of_nodup more (by rw[<-hk];erw[hn])] at hd
  have hf:=I.fresh;refine#[.ref s.heap.objs.size,_,I.laid (t':=t') kp (aq _) (yz (kvs:=kvs) (by rw[h1.length,<-h2,<-hl];erw[z]) ?_ h1 hd),rfl,q _ hf];have:=I.big;erw[beq_eq_false_iff_ne.mpr (du this)]
end
section
variable{X:Cx}
theorem uw(hi:0<=i)(hj:0<=j):Builtin.bitAnd i j=((i.toNat&&&j.toNat:Nat):Int):=by
 unfold Builtin.bitAnd;rw[decide_eq_true hi,decide_eq_true hj]
theorem CN(hi:0<=i)(hj:0<=j):Builtin.bitOr i j=((i.toNat|||j.toNat:Nat):Int):=by
 unfold Builtin.bitOr Builtin.bitAnd Builtin.bitNot;rw[decide_eq_false ∅,decide_eq_false ∅,show -(-i-1)-1=i by omega,show -(-j-1)-1=j by omega]
 dsimp only;omega
theorem FG:Cp X "int.bit_length" (λx xs H Q=>∃i:Nat,x=.int i/\xs=[]/\Q (.int (if i=0 then 0 else i.log2+1:Nat)) H):=by
 intro pZ s σ H x xs v us Q I rx rs h;let#[i,rfl,rfl,q]:=h;let#[t,rfl]:=rx;cases rs;refine call_int_bit_length #[.int _,H,I.tok _,#[_,rfl],?_];have:Builtin.Int.intBits i=if i=0 then 0 else i.log2+1:=by
  unfold Builtin.Int.intBits;by_cases e:i=0
  .subst e;rfl
  .rw[if_neg e,if_neg (by simpa using e)];rfl
 rw[this]
 erw[q]
theorem Ie:gG X (cF .Add) (λx y H Q=>∃a b ys,x=.ref a/\y=.ref b/\mq X.K H a []/\mq X.K H b ys/\Q (.ref b) H):=by
 x_go;let#[a,b,ys,rfl,rfl,ha,hb,q]:=h;cases rx;cases ry;let#[its,r1,p1,_]:=I.tuple ha;let#[its2,r2,p2,_]:=I.tuple hb;cases r1;let#[#[cls,dd,data,sl],ho,hc,n,hd]:=id p1;let#[#[cls2,dd2,data2,sl2],ho2,hc2,n2,hd2]:=id p2;simp only at hc hd hc2 hd2;subst hc hd hc2 hd2;exact GX #[_,ho,rfl] #[_,ho2,rfl] yc ES mY mv (l6 _ _)
  (tuple_addW0 a b _ _ n n2 dd dd2 sl sl2 (by simp)) #[ho,ho2,#[.ref b,H,I,rfl,q]]
theorem CO(hc:X.calm=true):gv X (.builtin "any") (λxs H Q=>∃p,∃bs:List Bool,xs=[.ref p]/\iU X.K H p (bs.map V.bl)/\Q (.bl (bs.any id)) H):=by
 w_up;let#[p,bs,rfl,hl,q]:=h;let#[u,rfl,ru]:=vals1 r;cases ru;let#[its,r,pl,_]:=I.list hl;have hl:=pl.isList;have hits:=vm r;have hlt:p<s.heap.objs.size:=by let#[_,e,_]:=hl;erw[aS e]
 refine call_any_walk (ki hl ?_);refine#[s.heap.objs.size,[s.heap.objs.size,p],[s.heap.objs.size],its.toArray.size,_,_,λi=>(bs[i]?).getD false,rfl,E3 (A:=X.A.in1) (I.ok.hd hc) _ p (aY hlt) its.toArray,
  #[#[_,bb _ rfl,rfl,rfl],hl.push _],λi v s' Q' E' hP hQ=>?_,λh' tk hk=>?_]
 .have hP:its[i]?=some v:=by simpa using hP
  rw[hits,aB] at hP;cases e:bs[i]? with
  |none=>rw[e] at hP;cases hP
  |some b=>
   rw[e] at hP;have hQ:Q' ((bs[i]?).getD false) s':=hQ;rw[e] at hQ;cases hP;erw[cw hQ]
 .have e:((bX its.toArray.size).any λi=>(bs[i]?).getD false)=bs.any id:=by
   rw[aG,hits,ak];erw[LSm.range_any bs]
  rw[e]
  exact#[.bl _,H,I.kept (Ac hk),rfl,q]
theorem FH(hu:X.A.units+200<eL):gG X (bF .NotIn) (λx y H Q=>∃p xs ds d,y=.ref p/\iU X.K H p xs/\iB X.K H xs ds/\mT X.K H x d/\Dv.jF ds<=100/\Q (.bl (!ds.any λe=>v9 e d)) H):=by
 x_go;let#[p,xs,ds,d,rfl,hq,hd,hx,hz,q]:=h;cases ry;let#[its,r,pl,_]:=I.list hq
 classical
 have l1:=hd.len;have m1:=r.length
 let e:Value->Bool:=λu=>decide (∃(j:Nat)(d':Dv),its[j]?=some u/\ds[j]?=some d'/\v9 d' d=true)
 have key:∀(j:Nat)(w:Value)(d':Dv),its[j]?=some w->ds[j]?=some d'->e w=v9 d' d:=λj w d' h1 h2=>by
  have f:∃z,xs[j]?=some z:=#[_,aa (by have:=(ae.mp h2).1;omega)]
  let#[z,hz']:=f;let#[w',g1,q1]:=r.get hz';rw[h1] at g1;cases g1;cases q:v9 d' d with
  |true=>erw[decide_eq_true #[j,d',h1,h2,q]]
  |false=>
   rwa[decide_eq_false ?_];rintro⟨j2,d2,k1,k2,k3⟩;have f2:∃z,xs[j2]?=some z:=#[_,aa (by have:=(ae.mp k2).1;omega)]
   let#[z2,hz2]:=f2;let#[w2,g2,q2]:=r.get hz2;rw[k1] at g2;cases g2;have ez:=RelV.inj q1 q2;subst ez;have:=mT.inj I (hd.get hz' h2) (hd.get hz2 k2);rw[this,k3] at q;cases q
 rwa[EU e pl.isList (λw hw=>?_) #[.bl _,H,I,rfl,?_]]
 .let#[j,hj]:=bq (show w∈its by simpa using hw)
  have hjl:=(ae.mp hj).1;have e1:ds[j]?=some (ds[j]'∅):=aa _;have e2:xs[j]?=some (xs[j]'∅):=aa _;let#[w',g1,q1]:=r.get e2;rw[hj] at g1;cases g1;rw[key j w _ hj e1]
  erw[CB I 100 (aH (mE e1) hz) (by show X.A.units+1+100<eL;omega) (hd.get e2 e1) hx q1 rx]
 .have:its.toArray.any e=ds.any λe=>v9 e d:=by
   rw[List.any_toArray,dw,ke,ke]
   constructor
   .rintro⟨w,hw,h1⟩
    let#[j,d',_,k2,k3]:=of_decide_eq_true h1;exact#[d',af k2,k3]
   .rintro⟨d',hd',h1⟩
    let#[j,hj]:=bq hd';have hjl:=(ae.mp hj).1;have e1:its[j]?=some (its[j]'∅):=aa _;exact#[_,af e1,by rw[key j _ d' e1 hj];erw[h1]]
  rw[this]
  erw[q]
end
section
variable{X:Cx}
theorem AO{val:Nat->Int}:∀k,argBest (λi j=>decide (val j<val i)) k<=k/\∀j,j<=k->val j<=val (argBest (λi j=>decide (val j<val i)) k)
 |0=>#[aq _,λj h=>by rw[Nat.le_zero.mp h];erw[E4 _]]
 |k+1=>by
  let#[h1,h2]:=AO (val:=val) k;unfold argBest;split
  .rename_i hb
   have hb:=of_decide_eq_true hb;refine#[aq _,λj hj=>?_];rcases BY k j with z|z
   .rw[show j=k+1 by omega];erw[E4 _]
   .erw[Int.le_of_lt (Int.lt_of_le_of_lt (h2 j z) hb)]
  .rename_i hb
   have hb:¬val (argBest _ k)<val (k+1):=λz=>hb (decide_eq_true z)
   refine#[mS h1,λj hj=>?_];rcases BY k j with z|z
   .rw[show j=k+1 by omega];omega
   .erw[h2 j z]
theorem DY:∀{is:List Int}{us:List Value},Vals (is.map V.int) us->us.length=is.length/\∀(i:Nat)v,us[i]?=some v->∃t,v=lu ((is[i]?).getD 0) t
 |[],_,r=>by rw[jv] at r;cases r;exact#[rfl,λi v e=>by simp at e]
 |k::ks,_,r=>by
  rw[ay] at r;cases r with
  |cons h t=>
   let#[h1,h2]:=DY t;refine#[by simp[h1],λi v e=>?_];cases i with
   |zero=>simp at e;subst e;erw[h]
   |succ i=>simp at e ⊢;erw[h2 i v e]
theorem CP(hc:X.calm=true):gv X (.builtin "max") (λxs H Q=>∃p,∃(i:Int)(is:List Int),xs=[.ref p]/\iU X.K H p ((i::is).map V.int)/\∀m∈i::is,(∀j∈i::is,j<=m)->Q (.int m) H):=by
 w_up;let#[p,i,is,rfl,hl,q]:=h;let#[u,rfl,ru]:=vals1 r;cases ru;let#[its,r,pl,_]:=I.list hl;have hl:=pl.isList;let#[e1,e2]:=DY r;have hlt:p<s.heap.objs.size:=by let#[_,e,_]:=hl;erw[aS e]
 refine call_max_walk (ki hl ?_);refine#[s.heap.objs.size,[s.heap.objs.size,p],[s.heap.objs.size],its.toArray.size,_,_,_,rfl,E3 (A:=X.A.in1) (I.ok.hd hc) _ p (aY hlt) its.toArray,
  #[#[_,bb _ rfl,rfl,rfl],hl.push _],λb hb=>?_,by simp[e1],CmpOf.ints_gt (λk=>((i::is)[k]?).getD 0) (λk v hv=>e2 k v (by simpa using hv)),λv h' tk hP hk=>?_]
 .show b<(s.heap.push _).objs.size
  rw[ig]
  rcases aR.mp hb with z|z
  .rw[z];erw[dj _]
  .rw[bC.mp z];erw[bf hlt]
 .have hn:its.toArray.size-1=is.length:=by simp[e1]
  rw[hn] at hP;let#[b1,b2]:=AO (val:=λk=>((i::is)[k]?).getD 0) is.length;have get:∀k,k<=is.length->∃m,(i::is)[k]?=some m/\((i::is)[k]?).getD 0=m:=λk hk=>by
   have e:=aa (l:=i::is) (i:=k) (by simp;omega);exact#[_,e,by rw[e];rfl]
  let#[m,g1,g2]:=get _ b1;let#[t,rfl]:=e2 _ v (by simpa using hP);refine#[.int m,H,I.kept (Ac hk),#[t,by rw[<-g2]],q m (af g1) λj hj=>?_];let#[k,hk2,e]:=qH hj;have:=b2 k (by simp at hk2;omega);rw[<-g2]
  have e3:((i::is)[k]?).getD 0=j:=by rw[aa hk2,e];rfl
  rw[<-e3];erw[this]
theorem FI:gv X (.builtin "len") (λxs H Q=>∃a kvs,xs=[V.ref a]/\H a=some (.dP kvs)/\Q (.int kvs.length) H):=by
 w_up;let#[a,kvs,rfl,ha,q]:=h;let#[u,rfl,ru]:=vals1 r;cases ru;let#[z,hd,ws,rel,dd]:=N6 I.dD ha;have hT:=dd.typeIs;let#[o,es,ep,ho,hc,hdat,he,_]:=dd;have hsz:es.size=kvs.length:=by rw[z9 he,<-Paired.length rel]
 have h63:(kvs.length:Int)<2^63:=by rw[jL] at z;omega
 refine Calls.call_function_entry kind_len plain_len entry_len (args_len1 _) ?_;unfold Builtin.«len»;refine ab (m:=oneArg "len" _) (ax ?_);refine ab (m:=callSpecial? (.ref a) (b9 "__len__")) (jM (name:=b9 "__len__") hT zQ
  (iX zQ hT PySem.F.entry_dict_len ?_ (PySem.F.args_dict_len_1 _)))
 show wpAny _ _ (dictSize a>>=_) _ _ s
 unfold dictSize;rwa[ab (ab (iy ho hdat (ax ?_)))];show wpAny _ _ (Builtin.Dict.pendingCount a>>=_) _ _ s;rwa[ab (wpAny_pendingCount_other hd ?_)];rwa[wpAny_ret_mkInt ?_];show wpAny _ _ _ _ _ {s with toks:=s.toks+1};rwa[ab (fK (ax ?_))];rwa[ab (wpAny_letGo ?_)];rw[hsz]
 show wpAny _ _ (if ((kvs.length:Nat):Int)<0 then _ else _) _ _ _
 rw[if_neg ∅]
 show wpAny _ _ (if ((kvs.length:Nat):Int)≥2^63 then _ else _) _ _ _
 rw[if_neg ∅]
 erw[ab (K1 (ax #[_,rfl,.int kvs.length,H,I.tok _,#[_,rfl],q]))]
theorem Ig(h:Heap)(hb:b7<h.objs.size):dH P w H (h.push {cls:=.type "dict",data:=.dict #[]}) h.objs.size (.dP []):=
 #[b8 _,beq_eq_false_iff_ne.mpr (cR (aY hb)),[],.nil,_,#[],0,bb _ rfl,#[rfl,rfl,rfl],rfl,rfl,wQ]
def UD:TE:=λ_ H Q=>∃o,(o=HO.dK []\/o=.dT []\/o=.dP [])/\∀p,H p=none->Q (.ref p) (upd H p o)
theorem Mg:PE X (.Dict [] [] pos) UD:=λpZ s σ H Q I h=>by
 let#[o,ho,h]:=h;rwa[wpAny_Dict_empty #[.ref s.heap.objs.size,_,I.laid (a:=s.heap.objs.size) (o:=o) (t':=s.toks) (λ_ _ q=>aI _ q) (aq _) ?_,rfl,h _ (I.dD.fresh (aq _))]];rcases ho with rfl|rfl|rfl
 .erw[Az s.heap I.big]
 .erw[HP s.heap I.big]
 .erw[Ig s.heap I.big]
end
section
variable{prog:bO}{w:cy}{A:dN}{E:Value->aC->Prop}{s:aC}
def AQ(h:Heap)(d:Addr)(es:Array pS)(ep:Nat):Prop:=∃o,h.get? d=some o/\o.data=.dict es ep
theorem FJ(hv:s.heap.IsValuesView v d)(hm:AQ s.heap d es ep)
  (hQ:Q (.ref s.heap.objs.size) {s with heap:=s.heap.push {cls:=.type "dict_valueiterator",data:=.fields (List.toArray [.ref d,.int 0 0,.int es.size 0,.int ep 0])} }):
  wpAny (bc prog w) A (pyIter (.ref v)) Q E s:=by
 let#[ov,hov,hcv,hdv]:=id hv;let#[o,ho,hdat]:=hm;rwa[wpAny_pyIter_slot hv.typeIs tG (iX tG hv.typeIs PySem.F.entry_dict_values_iter ?_ (PySem.F.args_dict_values_iter_1 _))];unfold Builtin.«dict_values.__iter__»;rwa[ab (ax (ab ?_))];unfold Builtin.Dict_items.dictOf;rwa[ab (zK hov hdv (x:=.ref d) rfl (ax (ab ?_)))];unfold Builtin.Dict_items.newIterator;rwa[ab (iy ho hdat (ab (Ad ho hdat ?_)))];have hown:Builtin.Dict_items.ownsTuple "dict_valueiterator"=false:=⋯
 dsimp[hown,ag,if_false];rwa[dA (ax #[_,rfl,"dict_valueiterator",_,#[_,bb _ rfl,rfl],cM.lookup,?_])];simpa[sr] using hQ
theorem Ih(hit:s.heap.IsValIter it d i es.size ep)(hm:AQ s.heap d es ep)(hlt:i<es.size)
  (hQ:∀h',h'.IsValIter it d (i+1) es.size ep->gc it s.heap h'->Q (some es[i].val) {s with heap:=h'}):wpAny (bc prog w) A (x8 (.ref it)) Q E s:=by
 let#[o,ho,hc,hd]:=id hit;let#[od,hod,hdd]:=id hm;unfold x8;refine ab (wpAny_attempt (jM (name:=b9 "__next__") hit.typeIs cM
  (iX cM hit.typeIs o7 ?_ (oH _))))
 rwa[ab (ax (ab (ab ?_)))];rwa[ab (gD hit.typeIs (ax ?_))];rwa[ab (wpAny_fieldsOf ho hd ?_)];have hown:Builtin.Dict_items.ownsTuple "dict_valueiterator"=false:=⋯
 dsimp[hown,ag,if_false];show wpAny _ _ (if (bj d==fV)=true then _ else _) _ _ s;rw[if_neg (show ¬((bj d==fV)=true) from aV)]
 rwa[ab (ax (ab (iy hod hdd ?_)))];rw[if_neg (by simp)]
 rwa[ab (ax (ab (Ad hod hdd ?_)))];rw[if_neg (by simp)]
 refine ax ?_;dsimp[show ¬((i:Int)<0) from by omega,if_false,jE,iz hlt];refine ab ?_;refine ab (gD hit.typeIs (ax ?_));refine ab (qQ hit.typeIs ?_);show wpAny _ _ (setField (.ref it) 1 (sr ((i:Int)+1))>>=_) _ _ s;refine ab (wpAny_setField ho hd (by simp) ?_);have hit':(s.heap.update it (Ae (·.setIfInBounds 1 (sr ((i:Int)+1))))).IsValIter it d (i+1) es.size ep:=
  #[_,j8 _ ho (Obj.isFreed_of_fields (Hc hd _)),(Obj.cls_mapFields ..).trans hc,by rw[Hc hd];simp[sr]]
 rwa[ab (fK ?_)];refine ab (qQ (s:={s with heap:=s.heap.update it (Ae (·.setIfInBounds 1 (sr ((i:Int)+1))))}) hit'.typeIs ?_);refine ab (qQ (s:={s with heap:=s.heap.update it (Ae (·.setIfInBounds 1 (sr ((i:Int)+1))))}) hit'.typeIs ?_);show wpAny _ _ (pure es[i].val) _ _ _;erw[ax (ax #[_,rfl,ax (hQ _ hit' (eP ..))])]
theorem Mh(hh:A.handled=none)(hit:s.heap.IsValIter it d i es.size ep)(hm:AQ s.heap d es ep)(hge:es.size<=i)
  (hQ:∀h',Heap.ExtBut it s.heap h'->Q none {s with heap:=h'}):wpAny (bc prog w) A (x8 (.ref it)) Q E s:=by
 let#[o,ho,hc,hd]:=id hit;let#[od,hod,hdd]:=id hm;unfold x8;refine ab (wpAny_attempt (jM (name:=b9 "__next__") hit.typeIs cM
  (iX cM hit.typeIs o7 ?_ (oH _))))
 rwa[ab (ax (ab (ab ?_)))];rwa[ab (gD hit.typeIs (ax ?_))];rwa[ab (wpAny_fieldsOf ho hd ?_)];have hown:Builtin.Dict_items.ownsTuple "dict_valueiterator"=false:=⋯
 dsimp[hown,ag,if_false];show wpAny _ _ (if (bj d==fV)=true then _ else _) _ _ s;rw[if_neg (show ¬((bj d==fV)=true) from aV)]
 rwa[ab (ax (ab (iy hod hdd ?_)))];rw[if_neg (by simp)]
 rwa[ab (ax (ab (Ad hod hdd ?_)))];rw[if_neg (by simp)]
 refine ax ?_;dsimp[show ¬((i:Int)<0) from by omega,if_false,jE,Aa hge];refine ab ?_;refine ab (gD hit.typeIs (ax ?_));show wpAny _ _ (setField (.ref it) 0 .none>>=_) _ _ s;refine ab (wpAny_setField ho hd (by simp) ?_);show wpAny _ _ (newExc (.type "StopIteration") []>>=_) _ _ _;dsimp[newExc,newTuple];refine ab (ab (dA (ab (m:=firstArgMember _ _) (wpAny_of_eq (a:=fV) (by first|rfl| (dsimp[firstArgMember];rfl)) (dA ?_ (by size_fits)))) (by size_fits)));dsimp[raiseNew];refine ab (wpAny_handled ?_);rw[show A.in1.handled=none from hh]
 rwa[ab (ax (wpAny_throw ?_))];rwa[ab (pN (T:="StopIteration") (b:=true) #[_,bb _ rfl,rfl] isSubtype_stop (ax (hQ _ ?_)))];exact((eP ..).extBut.push _).push _
theorem FK(hh:A.handled=none)(I d:Addr)(hne:d≠I)(es:Array pS)(ep:Nat):
  Walks prog w A I [I,d] [I] es.size (λi v=>(es[i]?).map (·.val)=some v) (λi h=>h.IsValIter I d i es.size ep/\AQ h d es ep) where
 sub:=λb hb=>by simp at hb;simp[hb]
 frame:=λ_ _ _ st hk=>#[let ⟨o,e,r⟩:=st.1;#[o,hk I (by simp) o e,r],let ⟨o,e,r⟩:=st.2;#[o,hk d (by simp) o e,r]]
 item:=λi s Q E hi st hQ=>Ih st.1 st.2 hi λh' hit' hs'=>
  hQ _ h' s.toks (by rw[iz hi];rfl) #[hit',let ⟨o,e,r⟩:=st.2;#[o,(hs'.2 d hne).trans e,r]] λb o hb e=>hs'.extBut b o (λh=>hb (by simp[h])) e
 done:=λs Q E st hQ=>Mh hh st.1 st.2 (aq _) λh' he'=>hQ h' s.toks λb o hb e=>he' b o (λh=>hb (by simp[h])) e
 self:=λ_ _ _ _ st hQ=>wpAny_pyIter_valiter st.1 hQ
theorem Ii:KdlSrc prog w "dict_values" r d es.size (λi v=>(es[i]?).map (·.val)=some v) (λh=>h.IsValuesView r d/\AQ h d es ep) where
 type:=λ_ hm=>hm.1.typeIs
 there:=λ_ hm=>#[let ⟨_,ho,_⟩:=hm.1;aS ho,let ⟨_,ho,_⟩:=hm.2;aS ho]
 keep:=λ_ _ hm hk=>#[let ⟨o,ho,x⟩:=hm.1;#[o,hk r (.inl rfl) o ho,x],let ⟨o,ho,x⟩:=hm.2;#[o,hk d (.inr rfl) o ho,x]]
 notList:=⋯
 notTuple:=⋯
 hint:=λ_ _ _ _ hm hq=>kdl_hint_values hm.1.typeIs hq
 iter:=λ_ s hh hm=>#[_,_,(λ_ _ hq=>FJ hm.1 hm.2 hq),FK hh _ d (let ⟨_,ho,_⟩:=hm.2;aY (aS ho)) es ep,#[#[_,bb _ rfl,rfl,rfl],let ⟨o,ho,x⟩:=hm.2;#[o,aI _ ho,x]]]
end
section
variable{X:Cx}
noncomputable def UE(p d:Addr):HO:=.ext λh=>h.IsValuesView p d
theorem FL:Cp X "dict.values" (λx xs H Q=>∃d kvs,x=.ref d/\xs=[]/\H d=some (.dT kvs)/\∀p,H p=none->Q (.ref p) (upd H p (UE p d))):=by
 intro pZ s σ H x xs v us Q I rx rs h;let#[d,kvs,rfl,rfl,hd,q]:=h;cases rs;cases (show v=bj d from rx);let#[z,lo,ws,rel,dd]:=DN I.dD hd;refine mw (S:=λA R s=>s.TypeIs (.ref d) "dict"/\R (.ok (.ret (.ref s.heap.objs.size))) {s with heap:=s.heap.push {cls:=.type "dict_values",data:=.fields (List.toArray [.ref d])} })
  wk dd.typeIs PySem.F.entry_dict_values (PySem.F.args_dict_values_1 _) (.of_wp λA R s h=>?_) #[dd.typeIs,?_]
 .rwa[ab ?_]
  unfold Builtin.Dict.noArgs;rwa[ab (qP h.1 ?_)];show wpAny _ _ (pure d) _ _ s;rwa[ax ?_];show wpAny _ _ (Builtin.Dict.showsAll d>>=_) _ _ s;unfold Builtin.Dict.showsAll;rw[if_neg (by rw[lo];erw[aV])]
  erw[ab (ax (ab (dA (ax #[_,rfl,h.2]))))]
 .refine#[.ref s.heap.objs.size,_,I.laid (a:=s.heap.objs.size) (o:=UE s.heap.objs.size d) (t':=s.toks) (λ_ _ q=>aI _ q) (aq _) ?_,rfl,q _ (I.dD.fresh (aq _))]
  have e:(s.heap.push {cls:=.type "dict_values",data:=.fields (List.toArray [.ref d])}).get? s.heap.objs.size=some {cls:=.type "dict_values",data:=.fields (List.toArray [.ref d])}:=bb _ rfl;exact#[#[_,e,rfl,rfl],#[_,e],λh1 h2 #[o,ho,r] k=>#[o,k o ho,r]]
theorem CQ(hc:X.calm=true):gv X (.type "list") (λxs H Q=>∃p d kvs,xs=[.ref p]/\H p=some (UE p d)/\H d=some (.dT kvs)/\∀l,H l=none->Q (.ref l) (upd H l (.lst (kvs.map (·.2))))):=by
 w_up;let#[p,d,kvs,rfl,hp,hd,q]:=h;let#[u,rfl,ru]:=vals1 r;cases ru;let#[hv,_,_]:=(show dH X.prog X.w H s.heap p (UE p d) from I.dD p _ hp)
 let#[z,lo,ws,rel,o,es,ep,ho,hx,hdat,he,_]:=DN I.dD hd;have hsz:es.size=kvs.length:=by rw[z9 he,<-Paired.length rel]
 rwa[kdl_call Ii (I.ok.hd hc) #[hv,o,ho,hdat] (by rw[hsz];erw[z]) λh' tk acc' c' hk hl hi=>?_]
 have ea:acc'.toList=ws.map (·.2.2):=by
  rwa[List.ext_getElem? λj=>?_]
  rw[Array.getElem?_toList,aB]
  have e3:es[j]?=(ws[j]?).map (BS (mP (cX X.prog X.w))):=entry_at he j;cases e4:acc'[j]? with
  |some v=>
   have this:(es[j]?).map (·.val)=some v:=hi.2 j v e4;rw[e3] at this;cases e5:ws[j]? with
   |none=>rw[e5] at this;cases this
   |some q=>rw[e5] at this;erw[this.symm]
  |none=>
   have h1:acc'.size<=j:=Array.getElem?_eq_none_iff.mp e4;rw[cV (by rw[<-Paired.length rel,<-hsz,<-hi.1];erw[h1])];rfl
 have vals:∀{l:List (List Key×V)}{m:List (List Key×Addr×Value)},KT H l m->Vals (l.map (·.2)) (m.map (·.2.2)):=by
  intro l m r;induction r with
  |nil=>erw[.nil]
  |cons h _ ih=>erw[.cons h.2.2 ih]
 refine#[.ref s.heap.objs.size,_,I.laid (a:=s.heap.objs.size) (o:=.lst (kvs.map (·.2))) (t':=tk) hk (aq _) #[by rw[ak];erw[z],acc'.toList,c',ea▸vals rel,?_],rfl,q _ (I.dD.fresh (aq _))];rw[Array.toArray_toList];erw[hl]
end
end L2
namespace PL
section
variable{S:bJ}{Q:KU}{q:Bool->Prop}{r:U->Prop}{i j:Int}{a b:List Nat}{x y:U}{us vs:List U}{m n:Nat}
theorem Qa:km .add (.int i) (.int j) S Q=Q (.int (i+j)) S:=rfl
theorem Qb:km .add (.str a) (.str b) S Q=(a.length+b.length<=16500000/\Q (.str (a++b)) S):=rfl
theorem Qc:km .add (.tup us) (.tup vs) S Q=(us.length+vs.length<=16500000/\Q (.tup (us++vs)) S):=rfl
theorem Yn:km .add (.loc m) (.loc n) S Q=getL S[m]? λa=>getL S[n]? λb=>a.length+b.length<=16500000/\Q (.loc S.length) (S++[.lst (a++b)]):=rfl
theorem Qd:km .sub (.int i) (.int j) S Q=Q (.int (i-j)) S:=rfl
theorem Yo:km .mul (.int i) (.int j) S Q=(((-(2^64)<i/\i<2^64)\/(-(2^64)<j/\j<2^64))/\Q (.int (i*j)) S):=rfl
theorem Yp:km .mul (.str a) (.int j) S Q=(∃c,a=[c]/\0<=j/\j<=1000/\Q (.str (eD j.toNat c)) S):=rfl
theorem Xh:km .fdiv (.int i) (.int j) S Q=((0<j/\j<1073741824)/\Q (.int (i/j)) S):=rfl
theorem Yq:km .mod (.int i) (.int j) S Q=(0<j/\Q (.int (i%j)) S):=rfl
theorem Mi:km .band (.int i) (.int j) S Q=((0<=i/\0<=j)/\Q (.int ((i.toNat&&&j.toNat:Nat):Int)) S):=rfl
theorem Qe:km .bor (.int i) (.int j) S Q=((0<=i/\0<=j)/\Q (.int ((i.toNat|||j.toNat:Nat):Int)) S):=rfl
theorem Qf:km .shl (.int i) (.int j) S Q=((0<=i/\i<1000/\0<=j/\j<=1000)/\Q (.int (i*2^j.toNat)) S):=rfl
theorem Qg:km .shr (.int i) (.int j) S Q=((0<=i/\0<=j)/\Q (.int (i/2^j.toNat)) S):=rfl
theorem Z7:yI o (.int i) y S Q=km o (.int i) y S Q:=rfl
theorem Z8:yI o (.str a) y S Q=km o (.str a) y S Q:=rfl
theorem Z9:gO .eq (.int i) y S q=wz (.int i) y q:=rfl
theorem Od:gO .eq (.str a) y S q=wz (.str a) y q:=rfl
theorem aaa:gO .eq .bV y S q=wz .bV y q:=rfl
theorem aab:gO .eq (.tup us) y S q=wz (.tup us) y q:=rfl
theorem Oe:gO .ne (.int i) y S q=(CH (.int i) y=true/\wz (.int i) y λb=>q !b):=rfl
theorem aac:gO .ne (.str a) y S q=(CH (.str a) y=true/\wz (.str a) y λb=>q !b):=rfl
theorem Of:gO .ne .bV y S q=(CH .bV y=true/\wz .bV y λb=>q !b):=rfl
theorem aad:gO .ne (.tup us) y S q=Xf (.tup us) y q:=rfl
theorem UG:(CH (.int i) y=true)=True:=eq_true rfl
theorem abp:(CH (.str a) y=true)=True:=eq_true rfl
theorem UH:(CH .bV y=true)=True:=eq_true rfl
theorem abq:gO .lt (.int i) (.int j) S q=q (decide (i<j)):=rfl
theorem abr:gO .le (.int i) (.int j) S q=q (decide (i<=j)):=rfl
theorem abt:gO .gt (.int i) (.int j) S q=q (decide (j<i)):=rfl
theorem abu:gO .ge (.int i) (.int j) S q=q (decide (j<=i)):=rfl
theorem Qh:∀{b:List Nat},iP [c] b=b.contains c
 |[]=>rfl
 |x::xs=>by
  rw[iP,Qh (b:=xs),List.contains_cons]
  simp[List.isPrefixOf]
theorem Mj:gO .isin (.str [k]) (.str b) S q=q (b.contains k):=by
 rw[<-Qh];rfl
theorem Ml:gO .mF (.str [k]) (.str b) S q=q !(b.contains k):=by
 rw[<-Qh];rfl
theorem AR:gO .isin (.str a) (.tab kvs) S q=q (kvs.lookup a).isSome:=rfl
theorem Qi:gO .isin x (.tup us) S q=rn x us q:=rfl
theorem Qj:gO .mF x (.tup us) S q=rn x us λb=>q !b:=rfl
theorem Qk:gO .isin x (.loc n) S q=getL S[n]? λus=>rn x us q:=rfl
theorem Yr:gO .mF (.str a) (.loc n) S q=getL S[n]? λus=>rn (.str a) us λb=>q !b:=rfl
theorem Mm:gO .mF (.tup vs) (.loc n) S q=getL S[n]? λus=>(kE vs=true/\kE us=true/\oj us<=100)/\q !(us.any λy=>nv y (.tup vs)):=rfl
theorem Ys:gO .L8 x .bV S q=q (kz x):=rfl
theorem Ql:gO .yF x .bV S q=q (!kz x):=rfl
theorem ew(h1:H8 x y=true)(h2:vi x=true)(h3:vi y=true)(h4:dep x<=100)(h:nv x y=v):wz x y q=q v:=by
 rw[<-h];erw[propext #[λz=>z.2,λz=>#[#[h1,h2,h3,h4],z]]]
theorem UI:wz (.int i) (.int j) q=q (i==j):=ew rfl rfl rfl (b8 _) rfl
theorem UJ:wz (.str a) (.str b) q=q (a==b):=ew rfl rfl rfl (b8 _) rfl
theorem UK:wz .bV .bV q=q true:=ew rfl rfl rfl (b8 _) rfl
theorem abv{a b:Bool}:wz (.bl a) (.bl b) q=q (a==b):=ew rfl rfl rfl (b8 _) rfl
theorem Yt:wz (.int i) .bV q=q false:=ew rfl rfl rfl (b8 _) rfl
theorem Yu:wz .bV (.int i) q=q false:=ew rfl rfl rfl (b8 _) rfl
theorem abw:wz (.int i) (.str a) q=q false:=ew rfl rfl rfl (b8 _) rfl
theorem abx:wz (.str a) (.int i) q=q false:=ew rfl rfl rfl (b8 _) rfl
theorem UL(l:List (List Nat)):(l.map U.str).all flat=true:=by simp[flat]
theorem anyS{l:List (List Nat)}:rn (.str a) (l.map .str) q=q (l.any (·==a)):=by
 rwa[propext #[λz=>?_,λz=>#[#[rfl,UL l],?_]]]
 .have:=z.2;rw[BM] at this;erw[this]
 .rw[BM];erw[z]
theorem UM:KQ (.str a) (.int i) S r=(a.length<=16500000/\opt (sP a i) λc=>r (.str [c])):=rfl
theorem DZ:KQ (.tup us) (.int i) S r=(us.length<=16500000/\opt (sP us i) r):=rfl
theorem aae{ns:List Int}:KQ (.rm ns) (.int i) S r=(ns.length<=16500000/\opt (sP ns i) λn=>r (.int n)):=rfl
theorem UN:KQ (.loc n) (.int i) S r=getL S[n]? λus=>opt (sP us i) r:=rfl
theorem yE:KQ (.tab kvs) (.str a) S r=opt (kvs.lookup a) λv=>r (.str v):=rfl
theorem iC{f:String}:om (.loc n) f S r=qw S[n]? λ_ fs=>opt (fs.lookup f) r:=rfl
theorem aaf:mH S (.str a)=some a.length:=rfl
theorem aag:mH S (.tup us)=some us.length:=rfl
theorem aah:mH S (.rm ns)=some ns.length:=rfl
theorem lL(h:S[n]?=some (.lst us)):mH S (.loc n)=some us.length:=by dsimp[mH,h]
theorem aai:vj S (.bl c)=some c:=rfl
theorem aaj:vj S .bV=some false:=rfl
theorem aak:vj S (.int i)=some (i !=0):=rfl
theorem aal:vj S (.rm ns)=some (ns.length !=0):=rfl
theorem aam:rq .len [x] S Q=opt (mH S x) λn=>n<=16500000/\Q (.int n) S:=rfl
theorem Mn:rq .tuple [.loc n] S Q=getL S[n]? λus=>Q (.tup us) S:=rfl
theorem Yv:rq .list [.loc n] S Q=getL S[n]? λus=>Q (.loc S.length) (S++[.lst us]):=rfl
theorem Xi:rq .list [.tup us] S Q=(us.length<=16500000/\Q (.loc S.length) (S++[.lst us])):=rfl
theorem aan:rq .all [.loc n] S Q=(∃bs:List Bool,S[n]?=some (.lst (bs.map .bl))/\Q (.bl (bs.all id)) S):=rfl
theorem aao:rq .any [.loc n] S Q=(∃bs:List Bool,S[n]?=some (.lst (bs.map .bl))/\Q (.bl (bs.any id)) S):=rfl
theorem Yw:rq .dict [.loc n] S Q=(∃ps:List (List Nat×U),S[n]?=some (.lst (ps.map λp=>.tup [.str p.1,p.2]))/\(ps.map (·.1)).Nodup/\Q (.loc S.length) (S++[.eI (ps.map λp=>(.str p.1,p.2))])):=rfl
theorem Yx:rA .nj (.int i) [] S Q=(0<=i/\Q (.int (tO i.toNat:Nat)) S):=rfl
theorem aap:rA .get (.loc n) [.str a,x] S Q=getD S[n]? λkvs=>∃ps:List (List Nat×U),kvs=(ps.map λp=>(U.str p.1,p.2))/\Q ((ps.lookup a).getD x) S:=rfl
theorem Xj:ue .nj (.int i) S=True:=rfl
theorem Yy:ue .get (.loc n) S=iV S[n]? λ_=>True:=rfl
theorem Yz:rA .get (.loc n) [.str a] S Q=iV S[n]? λkvs=>nq (.str a)=true/\Q ((vh (.str a) kvs).getD .bV) S:=rfl
theorem aaq:P6 (.loc n) y S r=iV S[n]? λkvs=>nq y=true/\opt (vh y kvs) r:=rfl
theorem YA:gO .CC x (.loc n) S q=iV S[n]? λkvs=>nq x=true/\q (vh x kvs).isNone:=rfl
theorem aar{b:Bool}:rq .int [.bl b] S Q=Q (.int (if b then 1 else 0)) S:=rfl
theorem YB:rA .oh (.loc n) [x,y] S Q=p7 S n x y Q:=rfl
theorem DQ:ue .join (.str a) S=True:=rfl
theorem AI:ue .index (.str a) S=True:=rfl
theorem xw:ue .startswith (.str a) S=True:=rfl
theorem sG:ue .append (.loc n) S=getL S[n]? λ_=>True:=rfl
theorem xn:ue .extend (.loc n) S=getL S[n]? λ_=>True:=rfl
theorem YC:rA .join (.str a) [.loc n] S Q=(∃ts:List (List Nat),S[n]?=some (.lst (ts.map .str))/\(ts.map cG).sum+ts.length*a.length<=16500000/\Q (.str (lK a ts)) S):=rfl
theorem Xk:rA .index (.str a) [.str b] S Q=(∃c,b=[c]/\c∈a/\Q (.int (a.idxOf c:Nat)) S):=rfl
theorem UO:rA .startswith (.str a) [.str b] S Q=Q (.bl (b.isPrefixOf a)) S:=rfl
theorem UP:rA .append (.loc n) [x] S Q=getL S[n]? λus=>us.length<16500000/\Q .bV (S.set n (.lst (us++[x]))):=rfl
theorem UQ:rA .extend (.loc n) [.loc m] S Q=getL S[n]? λus=>getL S[m]? λws=>us.length+ws.length<=16500000/\Q .bV (S.set n (.lst (us++ws))):=rfl
theorem v_s:Ib (.str a) S R=R (a.map λc=>.str [c]) (λ_=>True):=rfl
theorem YD{R:List U->(bJ->Prop)->Prop}:Ib (.tup us) S R=(us.length<=16500000/\R us (λ_=>True)):=rfl
theorem v_l:Ib (.loc n) S R=getL S[n]? λus=>R us (λS'=>S'[n]?=some (.lst us)):=rfl
theorem bind_f:p8 false x caps k=k (some x::caps):=rfl
theorem YE:p8 true x caps k=Ob x λa b=>k (some a::some b::caps):=rfl
theorem jN{α:Type}{xs:List α}{k:Nat}:sP xs (k:Int)=xs[k]?:=by
 unfold sP P5;rw[if_pos ∅]
 split
 .simp
 .rename_i h
  rw[cV ∅]
  rfl
theorem qx{α:Type}{x:α}{xs:List α}:sP (x::xs) 0=some x:=by
 have:=jN (xs:=x::xs) (k:=0);simpa using this
theorem me{α:Type}{x y:α}{xs:List α}:sP (x::y::xs) 1=some y:=by
 have:=jN (xs:=x::y::xs) (k:=1);simpa using this
end
theorem vn{α:Type}{o:Option α}{Q Q':α->Prop}(h:∀a,Q a->Q' a)(w:opt o Q):opt o Q':=by
 cases o with
 |none=>erw[w]
 |some a=>erw[h a w]
theorem sS{o:Option SO}{Q Q':List U->Prop}(h:∀a,Q a->Q' a)(w:getL o Q):getL o Q':=by
 let#[a,e,z]:=de.mp w;erw[de.mpr #[a,e,h a z]]
theorem AS(h:∀b,Q b->Q' b)(w:wz x y Q):wz x y Q':=#[w.1,h _ w.2]
theorem pv(h:∀b,Q b->Q' b)(w:rn x us Q):rn x us Q':=#[w.1,h _ w.2]
theorem rB{x:U}{Q Q':Int->Prop}(h:∀b,Q b->Q' b)(w:lB x Q):lB x Q':=by
 cases x<;>first|exact h _ w|exact w
theorem vo{x:U}{Q Q':List Nat->Prop}(h:∀b,Q b->Q' b)(w:Oc x Q):Oc x Q':=by
 cases x<;>first|exact h _ w|exact w
theorem AU(h:Q->Q')(w:Xe x Q):Xe x Q':=by
 cases x<;>first|exact h w|exact w
theorem Ij(h:∀b,Q b->Q' b)(w:Xf x y Q):Xf x y Q':=#[w.1,AS (λb z=>h _ z) w.2]
theorem Ik(h:∀b,Q b->Q' b)(w:Ym x us Q):Ym x us Q':=by
 cases x<;>first|exact#[w.1,h _ w.2]|exact pv (λb z=>h _ z) w
theorem Il(h:∀b,Q b->Q' b)(w:uu x Q):uu x Q':=by
 cases x<;>first|exact h _ w|exact w
theorem CS(h:∀a,Q a->Q' a)(w:iV o Q):iV o Q':=by
 let#[a,e,z]:=iW.mp w;erw[iW.mpr #[a,e,h a z]]
theorem pA(h:∀b,Q b->Q' b)(w:gO o x y S Q):gO o x y S Q':=by
 cases o with
 |eq=>erw[AS h w]
 |ne=>erw[Ij h w]
 |isin=>cases y<;>first|exact vo (λ_ z=>h _ z) w|exact pv h w|exact sS (λ_ z=>pv h z) w|exact w
 |mF=>cases y<;>first|exact vo (λ_ z=>h _ z) w|exact pv (λb z=>h _ z) w|exact sS (λ_ z=>Ik h z) w|exact w
 |L8=>erw[AU (h _) w]
 |yF=>erw[AU (h _) w]
 |CC=>erw[Il (λ_ z=>CS (λ_ z=>#[z.1,h _ z.2]) z) w]
 |_=>erw[rB (λ_ z=>rB (λ_ z=>h _ z) z) w]
theorem Im{x y:U}{S:bJ}{Q Q':U->Prop}(h:∀b,Q b->Q' b)(w:KQ x y S Q):KQ x y S Q':=by
 cases x<;>first|exact rB (λ_ z=>#[z.1,vn (λ_ z=>h _ z) z.2]) w|exact rB (λ_ z=>sS (λ_ z=>vn (λ_ z=>h _ z) z) z) w|exact vo (λ_ z=>vn (λ_ z=>h _ z) z) w|exact w
def Keeps(Γ:bZ)(b:dh)(k:Nat)(sp:Spec):Prop:=∀us S Q,sp us S Q->uf Γ b #[λ_ S1=>Q .bV S1,Q] (us.map some++eD k none) S
section
variable{Γ:bZ}{D:Ends}{env:Env}{S:bJ}{i:Nat}{e o:Ex}{c:Tx}{a b ss:dh}{s:Sm}{f:String}
def Rest(Γ:bZ)(ss:dh)(D:Ends)(env:Env)(S:bJ):Prop:=uf Γ ss D env S
theorem Rest.go(h:uf Γ ss D env S):Rest Γ ss D env S:=h
theorem aas:uf Γ .nil D env S=D.nx env S:=rfl
theorem YF:uf Γ (.cons s ss) D env S=WS Γ s #[λen S1=>uf Γ ss D en S1,D.rt] env S:=rfl
theorem aat:WS Γ (.ifs c a b) D env S=WT Γ c env S (λt S1=>if t=true then uf Γ a D env S1 else uf Γ b D env S1):=rfl
theorem aau:WS Γ (.BP c b) D env S=∃n,yJ (λen S1 k=>WT Γ c en S1 k) (λen S1 k=>uf Γ b #[k,D.rt] en S1) D.nx n env S:=rfl
theorem aav:WS Γ (.SQ a) D env S=uf Γ a D env S:=rfl
variable{Q:KU}{e1 e2:Ex}{es ks:zT}{P:List U->bJ->Prop}{B:Bool->bJ->Prop}{q m:String}{t1 t2:Tx}{O:Option Int->bJ->Prop}{R:List U->(bJ->Prop)->bJ->Prop}
theorem w_var:WE Γ (.var i) env S Q=yG env[i]? λu=>Q u S:=rfl
theorem w_lit{u:U}:WE Γ (.lit u) env S Q=Q u S:=rfl
theorem aaw{o:Fy}:WE Γ (.bin o e1 e2) env S Q=WE Γ e1 env S (λx S1=>WE Γ e2 env S1 (λy S2=>km o x y S2 Q)):=rfl
theorem aax:WE Γ (.neg e1) env S Q=WE Γ e1 env S (λx S1=>lB x λi=>Q (.int (-i)) S1):=rfl
theorem w_not:WE Γ (.not e1) env S Q=WE Γ e1 env S (λx S1=>Oa x λb=>Q (.bl !b) S1):=rfl
theorem w_and:WE Γ (.and e1 e2) env S Q=WE Γ e1 env S (λx S1=>Oa x λc=>if c=true then WE Γ e2 env S1 Q else Q (.bl false) S1):=rfl
theorem w_or:WE Γ (.or e1 e2) env S Q=WE Γ e1 env S (λx S1=>Oa x λc=>if c=true then Q (.bl true) S1 else WE Γ e2 env S1 Q):=rfl
theorem aay{o:N9}:WE Γ (.cmp o e1 e2) env S Q=WE Γ e1 env S (λx S1=>WE Γ e2 env S1 (λy S2=>gO o x y S2 λr=>Q (.bl r) S2)):=rfl
theorem aaz:WE Γ (.BO c e1 e2) env S Q=WT Γ c env S (λt S1=>if t=true then WE Γ e1 env S1 Q else WE Γ e2 env S1 Q):=rfl
theorem YG:WE Γ (.call f es) env S Q=wA Γ es env S (λus S1=>Γ f us S1 Q):=rfl
theorem w_mk:WE Γ (.mk f q es) env S Q=wA Γ es env S (λus S1=>Γ q (.loc S1.length::us) (S1++[.ins f []]) (λv S2=>v=.bV/\Q (.loc S1.length) S2)):=rfl
theorem YH:WE Γ (.cL f m q o es) env S Q=WE Γ o env S (λx S1=>uu x λn=>qw S1[n]? λc' fs=>(c'=f/\fs.lookup m=none)/\wA Γ es env S1 (λus S2=>Γ q (x::us) S2 Q)):=rfl
theorem aaA{b:Uz}:WE Γ (.blt b es) env S Q=wA Γ es env S (λus S1=>rq b us S1 Q):=rfl
theorem aaB{b:P4}:WE Γ (.jt b o es) env S Q=WE Γ o env S (λx S1=>ue b x S1/\wA Γ es env S1 (λus S2=>rA b x us S2 Q)):=rfl
theorem w_fld:WE Γ (.fld o f) env S Q=WE Γ o env S (λx S1=>om x f S1 λv=>Q v S1):=rfl
theorem abz:WE Γ (.ix e1 e2) env S Q=WE Γ e1 env S (λx S1=>WE Γ e2 env S1 (λy S2=>KQ x y S2 λv=>Q v S2)):=rfl
theorem abA{lo hi:Ox}:WE Γ (.sl o lo hi) env S Q=WE Γ o env S (λx S1=>WO Γ lo env S1 (λl S2=>WO Γ hi env S2 (λh S3=>SS x l h S3 Q))):=rfl
theorem aaC:WE Γ (.tup es) env S Q=wA Γ es env S (λus S1=>us.length<=16500000/\Q (.tup us) S1):=rfl
theorem aaD:WE Γ (.lst es) env S Q=wA Γ es env S (λus S1=>us.length<=16500000/\Q (.loc S1.length) (S1++[.lst us])):=rfl
theorem YI{pr:Bool}{it:It}{ci:List Nat}:WE Γ (.comp pr e it c ci) env S Q=WI Γ it env S (λus g S1=>nY g (λu S2 k=>p8 pr u (mI env ci) λen=>WT Γ c en S2 k)
   (λu S2 k=>p8 pr u (mI env ci) λen=>WE Γ e en S2 k) (λacc S3=>Q (.loc S3.length) (S3++[.lst acc])) us [] S1):=rfl
theorem aaE{t:Bool}:WE Γ (.SN e1 t) env S Q=WE Γ e1 env S (λx S1=>lB x λ_=>Q (.bl t) S1):=rfl
theorem YJ{e3:Ex}:WT Γ (.UA e1 e2 e3) env S B=WE Γ e1 env S (λx S1=>WE Γ e2 env S1 (λy S2=>gO .le x y S2 λr=>if r=true then WE Γ e3 env S2 (λz S3=>gO .le y z S3 λr'=>B r' S3) else B false S2)):=rfl
theorem aaF:wA Γ .nil env S P=P [] S:=rfl
theorem YK:wA Γ (.cons e es) env S P=WE Γ e env S (λx S1=>wA Γ es env S1 (λxs S2=>P (x::xs) S2)):=rfl
theorem abB:WO Γ .no env S O=O none S:=rfl
theorem abC:WO Γ (.e e1) env S O=WE Γ e1 env S (λx S1=>lB x λj=>O (some j) S1):=rfl
theorem UR:WI Γ (.val e) env S R=WE Γ e env S (λx S1=>Ib x S1 λus g=>R us g S1):=rfl
theorem aaG:WI Γ (.range e) env S R=WE Γ e env S (λx S1=>lB x λn=>n<=16500000/\-(16500000:Int)<=n/\R ((bX n.toNat).map λk=>.int (k:Nat)) (λ_=>True) S1):=rfl
theorem YL:WI Γ (.enum e) env S R=WE Γ e env S (λx S1=>uu x λn=>getL S1[n]? λus=>R (us.mapIdx λi u=>.tup [.int (i:Nat),u]) (λS'=>S'[n]?=some (.lst us)) S1):=rfl
theorem aaH:WT Γ (.cH e) env S B=WE Γ e env S (λx S1=>opt (vj S1 x) λb=>B b S1):=rfl
theorem YM:WT Γ (.not t1) env S B=WT Γ t1 env S (λb S1=>B (!b) S1):=rfl
theorem YN:WT Γ (.and t1 t2) env S B=WT Γ t1 env S (λc S1=>if c=true then WT Γ t2 env S1 B else B false S1):=rfl
theorem aaI:WT Γ (.or t1 t2) env S B=WT Γ t1 env S (λc S1=>if c=true then B true S1 else WT Γ t2 env S1 B):=rfl
theorem Io:uf Γ (.cons s ss) D env S=WS Γ s #[λen S1=>Rest Γ ss D en S1,D.rt] env S:=rfl
theorem aaJ:uf Γ .nil D env S=D.nx env S:=rfl
theorem aaK:WS Γ (.set i e) D env S=WE Γ e env S (λu S1=>D.nx (env.set i (some u)) S1):=rfl
theorem aaL{p:Fy}:WS Γ (.aug i p e) D env S=yG env[i]? λx=>WE Γ e env S (λy S1=>yI p x y S1 λz S2=>D.nx (env.set i (some z)) S2):=rfl
theorem abD:WS Γ (.ex e) D env S=WE Γ e env S (λ_ S1=>D.nx env S1):=rfl
theorem aaM:WS Γ (.ret e) D env S=WE Γ e env S D.rt:=rfl
theorem aaN:WS Γ (.ifs c a b) D env S=WT Γ c env S (λt S1=>if t=true then Rest Γ a D env S1 else Rest Γ b D env S1):=rfl
theorem US:WS Γ (.BP c b) D env S=∃n,yJ (λen S1 k=>WT Γ c en S1 k) (λen S1 k=>Rest Γ b #[k,D.rt] en S1) D.nx n env S:=rfl
theorem UT{it:It}:WS Γ (.fP (.name i) it b) D env S=WI Γ it env S (λus g S1=>vk g (λu en S2 k=>Rest Γ b #[k,D.rt] (en.set i (some u)) S2) D.nx us env S1):=rfl
theorem aaO:WS Γ (.SQ a) D env S=Rest Γ a D env S:=rfl
theorem YO:WS Γ (.nk o f e) D env S=WE Γ e env S (λu S1=>WE Γ o env S1 (λx S2=>uu x λn=>qw S2[n]? λc fs=>fs.length<100/\D.nx env (S2.set n (.ins c (gX f u fs))))):=rfl
theorem YQ:WS Γ (.CD o f p e) D env S=WE Γ o env S (λx S1=>uu x λn=>qw S1[n]? λc fs=>opt (fs.lookup f) λv=>
   WE Γ e env S1 (λy S2=>yI p v y S2 λz S3=>qw S3[n]? λc' fs'=>c'=c/\fs'.length<100/\D.nx env (S3.set n (.ins c (gX f z fs'))))):=rfl
theorem YR:WS Γ (.Fz o j p e) D env S=WE Γ o env S (λx S1=>WE Γ j env S1 (λy S2=>uu x λn=>lB y λk=>getL S2[n]? λus=>0<=k/\opt (us[k.toNat]?) λv=>
   WE Γ e env S2 (λz S3=>yI p v z S3 λr S4=>getL S4[n]? λus'=>k.toNat<us'.length/\D.nx env (S4.set n (.lst (us'.set k.toNat r)))))):=rfl
theorem aaP:WE Γ (.L9 e1 e2) env S Q=WE Γ e1 env S (λx S1=>WE Γ e2 env S1 (λy S2=>P6 x y S2 λv=>Q v S2)):=rfl
theorem vp:WE Γ (.eI .nil .nil) env S Q=(0<=100/\(Q (.loc S.length) (S++[.eI []])\/Q (.loc S.length) (S++[.ur []])\/Q (.loc S.length) (S++[.xt []]))):=rfl
theorem YS:WI Γ (.keys e) env S R=WE Γ e env S (λx S1=>uu x λn=>iV S1[n]? λkvs=>R (kvs.map (·.1)) (λS'=>S'[n]?=some (.vf kvs)) (S1.set n (.vf kvs))):=rfl
theorem YT{j:Ex}:WS Γ (.oh o j e) D env S=WE Γ e env S (λu S1=>WE Γ o env S1 (λx S2=>WE Γ j env S2 (λy S3=>uu x λn=>getD S3[n]? λkvs=>(nq y=true/\vh y kvs=none/\kvs.length<16500000)/\D.nx env (S3.set n (.eI (kvs++[(y,u)])))))):=rfl
theorem aaQ{it:It}{j:Nat}:WS Γ (.fP (.pair i j) it b) D env S=WI Γ it env S (λus g S1=>vk g (λu en S2 k=>Ob u λx y=>Rest Γ b #[k,D.rt] ((en.set i (some x)).set j (some y)) S2) D.nx us env S1):=rfl
theorem ca{sp:Spec}{us:List U}{Q:KU}(h:Γ f=sp)(k:sp us S Q):Γ f us S Q:=by rw[h];erw[k]
end
noncomputable abbrev SG:List Nat:=[10,32,33,34,35,36,38,39,40,41,42,43,44,45,46,47,48,49,50,51,52,53,54,55,56,57,58,59,60,61,62,63,64,65,66,67,68,69,70,71,72,73,74,75,76,77,78,79,80,81,82,83,84,85,86,87,88,89,90,91,92,93,94,95,96,97,98,99,100,101,102,103,104,105,106,107,108,109,110,111,112,113,114,115,116,117,118,119,120,121,122,123,124,125,126]
noncomputable abbrev SG1:List Nat:=[32,33,34,35,36,38,39,40,41,42,43,44,45,46,47,48,49,50,51,52,53,54,55,56,57,58,59,60,61,62,63,64,65,66,67,68,69,70,71,72,73,74,75,76,77,78,79,80,81,82,83,84,85,86,87,88,89,90,91,92,93,94,95,96,97,98,99,100,101,102,103,104,105,106,107,108,109,110,111,112,113,114,115,116,117,118,119,120,121,122,123,124,125,126]
def ny:dh:=#v[.ret (.jt .join (.lit (.str [])) #v[.comp false @0 (.val (.lit (.str SG))) (.cH (.cmp .isin @0 @1)) [0]])]
def pB:dh:=#v[.ret (.jt .join (.lit (.str [])) #v[.comp false @0 (.val (.lit (.str SG))) (.cH (.cmp .mF @0 @1)) [0]])]
def nA:dh:=#v[.ret (.cmp .lt (.jt .index (.lit (.str SG)) #v[@0]) (.jt .index (.lit (.str SG)) #v[@1]))]
def pC:dh:=#v[.ret (.sl (.lit (.str SG)) (.e (.jt .index (.lit (.str SG)) #v[@0])) (.e (.bin .add (.jt .index (.lit (.str SG)) #v[@1]) ↑1)))]
noncomputable def yM:dh:=#v[.set 1 (.mk "Reader" "Reader.__init__" #v[@0]),.set 2 (.cL "Reader" "choice" "Reader.choice" @1 .nil),.ifs (.cH (.cmp .lt (.fld @1 "at") (.blt .len #v[@0]))) #v[.ex (.ix (.lit .bV) (.lit .bV))] .nil,.ret @2]
noncomputable def rC:dh:=#v[.ret (.BO (.cH (.cmp .eq (.blt .len #v[@1]) ↑1)) (.ix @1 ↑0) (.tup #v[@0,.blt .tuple #v[@1]]))]
def jO:dh:=#v[.nk @0 "text" @1,.nk @0 "at" ↑0,.nk @0 "depth" ↑0]
noncomputable def jP:dh:=#v[.ret (.and (.cmp .lt (.fld @0 "at") (.blt .len #v[.fld @0 "text"])) (.cmp .isin (.ix (.fld @0 "text") (.fld @0 "at")) @1))]
noncomputable def iH:dh:=#v[.ifs (.not (.cH (.cL "Reader" "sees" "Reader.sees" @0 #v[@1]))) #v[.ex (.ix (.lit .bV) (.lit .bV))] .nil,.CD @0 "at" .add ↑1,.ret (.ix (.fld @0 "text") (.bin .sub (.fld @0 "at") ↑1))]
noncomputable def iI:dh:=#v[.set 1 (.lst #v[.cL "Reader" "row" "Reader.row" @0 .nil]),.BP (.cH (.cL "Reader" "sees" "Reader.sees" @0 #v[↑[124]])) #v[.ex (.cL "Reader" "passes" "Reader.passes" @0 #v[↑[124]]),.ex (.jt .append @1 #v[.cL "Reader" "row" "Reader.row" @0 .nil])],.ret (.call "joined" #v[↑[111,114],@1])]
noncomputable def kF:dh:=#v[.set 1 (.lst #v[.cL "Reader" "repeat" "Reader.repeat" @0 .nil]),.BP (.and (.cH (.cmp .lt (.fld @0 "at") (.blt .len #v[.fld @0 "text"]))) (.not (.cH (.cL "Reader" "sees" "Reader.sees" @0 #v[↑[124,41]])))) #v[.ex (.jt .append @1 #v[.cL "Reader" "repeat" "Reader.repeat" @0 .nil])],.ret (.call "joined" #v[↑[114,111,119],@1])]
noncomputable def iJ:dh:=#v[.set 1 (.cL "Reader" "atom" "Reader.atom" @0 .nil),.BP (.cH (.cL "Reader" "sees" "Reader.sees" @0 #v[↑[42,43,63]])) #v[.set 1 (.tup #v[.ix (.lit (.tab [([42],[115,116,97,114]),([43],[112,108,117,115]),([63],[109,97,121,98,101])])) (.cL "Reader" "passes" "Reader.passes" @0 #v[↑[42,43,63]]),@1])],.ret @1]
noncomputable def jQ:dh:=#v[.ifs (.cH (.cL "Reader" "sees" "Reader.sees" @0 #v[↑[40]])) #v[.ret (.cL "Reader" "bracket" "Reader.bracket" @0 .nil)] .nil,.ifs (.cH (.cL "Reader" "sees" "Reader.sees" @0 #v[↑[91]])) #v[.ret (.tup #v[↑[111,110,101],.cL "Reader" "sign_class" "Reader.sign_class" @0 .nil])] .nil,.ifs (.cH (.cL "Reader" "sees" "Reader.sees" @0 #v[↑[46]])) #v[.ex (.cL "Reader" "passes" "Reader.passes" @0 #v[↑[46]]),.ret (.tup #v[↑[111,110,101],.call "all_but" #v[↑[10]]])] .nil,.ret (.tup #v[↑[111,110,101],.cL "Reader" "written_sign" "Reader.written_sign" @0 #v[↑[46,124,40,41,91,93,42,43,63,92]]])]
def gY:dh:=#v[.ifs (.cH (.cmp .eq (.fld @0 "depth") ↑6)) #v[.ex (.ix (.lit .bV) (.lit .bV))] .nil,.ex (.cL "Reader" "passes" "Reader.passes" @0 #v[↑[40]]),.CD @0 "depth" .add ↑1,.set 1 (.cL "Reader" "choice" "Reader.choice" @0 .nil),.ex (.cL "Reader" "passes" "Reader.passes" @0 #v[↑[41]]),.CD @0 "depth" .sub ↑1,.ret @1]
noncomputable def fm:dh:=#v[.ex (.cL "Reader" "passes" "Reader.passes" @0 #v[↑[91]]),.set 1 (.cL "Reader" "sees" "Reader.sees" @0 #v[↑[94]]),.ifs (.cH @1) #v[.ex (.cL "Reader" "passes" "Reader.passes" @0 #v[↑[94]])] .nil,.set 2 (.cL "Reader" "item" "Reader.item" @0 .nil),.BP (.not (.cH (.cL "Reader" "sees" "Reader.sees" @0 #v[↑[93]]))) #v[.aug 2 .add (.cL "Reader" "item" "Reader.item" @0 .nil)],.ex (.cL "Reader" "passes" "Reader.passes" @0 #v[↑[93]]),.ret (.BO (.cH @1) (.call "all_but" #v[@2]) (.call "in_order" #v[@2]))]
noncomputable def jR:dh:=#v[.set 1 (.cL "Reader" "written_sign" "Reader.written_sign" @0 #v[↑[93,45,92]]),.ifs (.not (.cH (.cL "Reader" "sees" "Reader.sees" @0 #v[↑[45]]))) #v[.ret @1] .nil,.ex (.cL "Reader" "passes" "Reader.passes" @0 #v[↑[45]]),.set 2 (.fld @0 "at"),.set 3 (.cL "Reader" "written_sign" "Reader.written_sign" @0 #v[↑[93,45,92]]),.ifs (.cH (.call "is_ahead" #v[@3,@1])) #v[.ex (.ix (.lit .bV) (.lit .bV))] .nil,.ret (.call "stretch" #v[@1,@3])]
noncomputable def d8:dh:=#v[.ifs (.not (.cH (.cL "Reader" "sees" "Reader.sees" @0 #v[↑[92]]))) #v[.ret (.cL "Reader" "passes" "Reader.passes" @0 #v[.call "all_but" #v[@1]])] .nil,.ex (.cL "Reader" "passes" "Reader.passes" @0 #v[↑[92]]),.set 2 (.cL "Reader" "passes" "Reader.passes" @0 #v[↑[46,124,40,41,91,93,42,43,63,92,45,94,110]]),.ret (.BO (.cH (.cmp .eq @2 ↑[110])) ↑[10] @2)]
noncomputable def pD:dh:=#v[.ifs (.cH (.cmp .eq (.ix @0 ↑0) ↑[111,114])) #v[.ret (.jt .join ↑[124] #v[.comp false (.call "row_text" #v[@0]) (.val (.ix @0 ↑1)) (.cH (.lit (.bl true))) []])] .nil,.ret (.call "row_text" #v[@0])]
noncomputable def nB:dh:=#v[.ifs (.cH (.cmp .eq (.ix @0 ↑0) ↑[114,111,119])) #v[.ret (.jt .join (.lit (.str [])) #v[.comp false (.call "repeat_text" #v[@0]) (.val (.ix @0 ↑1)) (.cH (.lit (.bl true))) []])] .nil,.ret (.call "repeat_text" #v[@0])]
noncomputable def jS:dh:=#v[.set 1 (.lit (.str [])),.set 2 @0,.BP (.cH (.cmp .isin (.ix @2 ↑0) (.lit (.tab [([115,116,97,114],[42]),([112,108,117,115],[43]),([109,97,121,98,101],[63])])))) #v[.set 1 (.bin .add (.ix (.lit (.tab [([115,116,97,114],[42]),([112,108,117,115],[43]),([109,97,121,98,101],[63])])) (.ix @2 ↑0)) @1),.set 2 (.ix @2 ↑1)],.ret (.bin .add (.call "atom_text" #v[@2]) @1)]
noncomputable def lM:dh:=#v[.ifs (.cH (.cmp .eq (.ix @0 ↑0) ↑[111,110,101])) #v[.ret (.call "place_text" #v[.ix @0 ↑1])] .nil,.ret (.bin .add (.bin .add ↑[40] (.call "written" #v[@0])) ↑[41])]
noncomputable def kG:dh:=#v[.ifs (.cH (.cmp .eq (.blt .len #v[@0]) ↑1)) #v[.ret (.call "sign_text" #v[@0,↑[46,124,40,41,91,93,42,43,63,92]])] .nil,.ifs (.cH (.cmp .eq @0 (.call "all_but" #v[↑[10]]))) #v[.ret ↑[46]] .nil,.ret (.blt .vg #v[.call "class_texts" #v[@0]])]
noncomputable def lN:dh:=#v[.ret (.BO (.cH (.cmp .isin @0 @1)) (.bin .add ↑[92] @0) @0)]
def jT:dh:=#v[.set 1 (.lst .nil),.ifs (.cH (.cmp .ne @0 (.lit (.str [])))) #v[.ex (.jt .append @1 #v[.bin .add (.bin .add ↑[91] (.call "guarded" #v[.call "class_items" #v[@0]])) ↑[93]])] .nil,.ifs (.cH (.cmp .ne @0 (.lit (.str SG)))) #v[.ex (.jt .append @1 #v[.bin .add (.bin .add ↑[91,94] (.jt .join (.lit (.str [])) #v[.call "class_items" #v[.call "all_but" #v[@0]]])) ↑[93]])] .nil,.ret @1]
noncomputable def pE:dh:=#v[.ifs (.not (.cH (.jt .startswith (.ix @0 ↑0) #v[↑[94]]))) #v[.ret (.jt .join (.lit (.str [])) #v[@0])] .nil,.ifs (.cH (.cmp .eq (.blt .len #v[@0]) ↑1)) #v[.ret (.bin .add ↑[92] (.ix @0 ↑0))] .nil,.ret (.bin .add (.jt .join (.lit (.str [])) #v[.sl @0 (.e ↑1) .no]) (.ix @0 ↑0))]
noncomputable def jU:dh:=#v[.set 1 (.lst .nil),.fP (.name 2) (.val (.call "runs" #v[@0])) #v[.ex (.jt .extend @1 #v[.call "run_items" #v[@2]])],.ret @1]
def yN:dh:=#v[.set 1 (.lst .nil),.set 2 (.lit (.str [])),.fP (.name 3) (.val @0) #v[.ifs (.cH (.cmp .mF (.bin .add @2 @3) (.lit (.str SG)))) #v[.ex (.jt .append @1 #v[@2]),.set 2 (.lit (.str []))] .nil,.aug 2 .add @3],.ex (.jt .append @1 #v[@2]),.ret @1]
noncomputable def lO:dh:=#v[.set 1 (.comp false (.call "sign_text" #v[@0,↑[93,45,92]]) (.val @0) (.cH (.lit (.bl true))) []),.set 2 (.bin .add (.bin .add (.call "sign_text" #v[.ix @0 ↑0,↑[93,45,92]]) ↑[45]) (.call "sign_text" #v[.ix @0 (.neg ↑1),↑[93,45,92]])),.ret (.BO (.cH (.cmp .le (.blt .len #v[.jt .join (.lit (.str [])) #v[@1]]) (.blt .len #v[@2]))) @1 (.lst #v[@2]))]
end PL
namespace PL.so
noncomputable def lP:dh:=#v[.ifs (.cH @0) #v[.ret (.ix @0 (.bin .mod @1 (.blt .len #v[@0])))] .nil,.ret ↑0]
noncomputable def nE:dh:=#v[.set 2 (.bin .mod (.bin .add (.call "_law_cell" #v[@0,@1]) (.bin .mul ↑104729 (.bin .add @1 ↑1))) ↑4294967291),.set 2 (.bin .mod (.bin .mul @2 ↑48271) ↑4294967279),.ret (.bin .mod (.bin .add (.bin .mul (.bin .fdiv @2 ↑64) ↑69621) @2) ↑4294967231)]
def nF:dh:=#v[.set 0 (.lit (.str SG1)),.ret (.bin .add ↑[10] @0)]
end PL.so
namespace PL.lQ
noncomputable def lR:dh:=#v[.set 2 (.mk "Layout" "Layout.__init__" .nil),.fP (.pair 3 4) (.enum (.sl @0 .no (.e ↑6))) #v[.set 5 (.cL "Layout" "lay" "Layout.lay" @2 #v[.call "tree_of" #v[@4,@3]]),.ifs (.cH (.fld @5 "empty")) #v[.ex (.ix (.lit .bV) (.lit .bV))] .nil,.ifs (.cH (.cmp .gt (.cL "Layout" "how_many" "Layout.how_many" @2 .nil) @1)) #v[.ex (.ix (.lit .bV) (.lit .bV))] .nil,.ex (.cL "Layout" "close_rule" "Layout.close_rule" @2 #v[@5])],.ifs (.cH (.cmp .gt (.blt .len #v[@0]) ↑6)) #v[.ex (.ix (.lit .bV) (.lit .bV))] .nil,.ret (.mk "Places" "Places.__init__" #v[@2])]
noncomputable def pF:dh:=#v[.SQ #v[.ret (.call "read" #v[@0])]]
noncomputable def pG:dh:=#v[.ret (.comp false @0 (.range (.jt .nj @0 .nil)) (.cH (.bin .band (.bin .shr @1 @0) ↑1)) [0])]
noncomputable def lS:dh:=#v[.nk @0 "empty" @1,.nk @0 "firsts" @2,.nk @0 "lasts" @3]
noncomputable def fQ:dh:=#v[.set 2 (.BO (.cH (.fld @0 "empty")) (.bin .bor (.fld @0 "firsts") (.fld @1 "firsts")) (.fld @0 "firsts")),.set 3 (.BO (.cH (.fld @1 "empty")) (.bin .bor (.fld @0 "lasts") (.fld @1 "lasts")) (.fld @1 "lasts")),.ret (.mk "Part" "Part.__init__" #v[.and (.fld @0 "empty") (.fld @1 "empty"),@2,@3])]
noncomputable def i9:dh:=#v[.ret (.mk "Part" "Part.__init__" #v[.or (.fld @0 "empty") (.fld @1 "empty"),.bin .bor (.fld @0 "firsts") (.fld @1 "firsts"),.bin .bor (.fld @0 "lasts") (.fld @1 "lasts")])]
noncomputable def jV:dh:=#v[.nk @0 "signs" (.lst #v[.lit (.str [])]),.nk @0 "behind" (.lst #v[↑0]),.nk @0 "ends" (.lst .nil)]
noncomputable def gw:dh:=#v[.ret (.bin .sub (.blt .len #v[.fld @0 "signs"]) ↑1)]
noncomputable def fq:dh:=#v[.Fz (.fld @0 "behind") ↑0 .bor (.fld @1 "firsts"),.ex (.jt .append (.fld @0 "ends") #v[.fld @1 "lasts"])]
noncomputable def jW:dh:=#v[.fP (.name 3) (.val (.call "members" #v[@1])) #v[.Fz (.fld @0 "behind") @3 .bor @2]]
noncomputable def kH:dh:=#v[.ifs (.cH (.cmp .eq (.ix @1 ↑0) ↑[111,110,101])) #v[.ret (.cL "Layout" "lay_place" "Layout.lay_place" @0 #v[.ix @1 ↑1])] .nil,.ifs (.cH (.cmp .eq (.ix @1 ↑0) ↑[114,111,119])) #v[.ret (.cL "Layout" "lay_row" "Layout.lay_row" @0 #v[.ix @1 ↑1])] .nil,.ifs (.cH (.cmp .eq (.ix @1 ↑0) ↑[111,114])) #v[.ret (.cL "Layout" "lay_choice" "Layout.lay_choice" @0 #v[.ix @1 ↑1])] .nil,.ret (.cL "Layout" "lay_repeat" "Layout.lay_repeat" @0 #v[@1])]
noncomputable def fS:dh:=#v[.set 2 (.bin .shl ↑1 (.blt .len #v[.fld @0 "signs"])),.ex (.jt .append (.fld @0 "signs") #v[@1]),.ex (.jt .append (.fld @0 "behind") #v[↑0]),.ret (.mk "Part" "Part.__init__" #v[.lit (.bl false),@2,@2])]
noncomputable def gZ:dh:=#v[.set 2 (.mk "Part" "Part.__init__" #v[.lit (.bl true),↑0,↑0]),.fP (.name 3) (.val @1) #v[.set 4 (.cL "Layout" "lay" "Layout.lay" @0 #v[@3]),.ex (.cL "Layout" "link" "Layout.link" @0 #v[.fld @2 "lasts",.fld @4 "firsts"]),.set 2 (.call "one_behind_other" #v[@2,@4])],.ret @2]
noncomputable def fu:dh:=#v[.set 2 (.mk "Part" "Part.__init__" #v[.lit (.bl false),↑0,↑0]),.fP (.name 3) (.val @1) #v[.set 2 (.call "one_or_other" #v[@2,.cL "Layout" "lay" "Layout.lay" @0 #v[@3]])],.ret @2]
noncomputable def fw:dh:=#v[.set 2 (.lst .nil),.set 3 @1,.BP (.cH (.cmp .isin (.ix @3 ↑0) (.tup #v[↑[115,116,97,114],↑[112,108,117,115],↑[109,97,121,98,101]]))) #v[.ex (.jt .append @2 #v[.ix @3 ↑0]),.set 3 (.ix @3 ↑1)],.set 4 (.cL "Layout" "lay" "Layout.lay" @0 #v[@3]),.ifs (.or (.cH (.cmp .isin ↑[115,116,97,114] @2)) (.cH (.cmp .isin ↑[112,108,117,115] @2))) #v[.ex (.cL "Layout" "link" "Layout.link" @0 #v[.fld @4 "lasts",.fld @4 "firsts"])] .nil,.set 5 (.or (.fld @4 "empty") (.or (.cmp .isin ↑[115,116,97,114] @2) (.cmp .isin ↑[109,97,121,98,101] @2))),.ret (.mk "Part" "Part.__init__" #v[@5,.fld @4 "firsts",.fld @4 "lasts"])]
noncomputable def iK:dh:=#v[.set 1 (.blt .sum #v[.comp true (.bin .shl ↑1 @0) (.enum (.fld @0 "signs")) (.cH (.cmp .ne @1 (.lit (.str [])))) []]),.set 2 ↑0,.fP (.name 3) (.val (.fld @0 "ends")) #v[.aug 2 .bor (.bin .band @3 @1)],.set 4 ↑0,.BP (.cH (.cmp .ne @2 @4)) #v[.set 4 @2,.fP (.name 5) (.val (.call "members" #v[@1])) #v[.ifs (.cH (.bin .band (.ix (.fld @0 "behind") @5) @4)) #v[.aug 2 .bor (.bin .shl ↑1 @5)] .nil]],.ret @4]
noncomputable def fT:dh:=#v[.ret (.blt .sum #v[.comp true (.bin .shl ↑1 @0) (.enum (.fld @0 "signs")) (.cH (.cmp .isin @2 @1)) [1]])]
def jX:dh:=#v[.set 2 (.call "useful_places" #v[@1]),.nk @0 "behind" (.comp false (.bin .band @0 @1) (.val (.fld @1 "behind")) (.cH (.lit (.bl true))) [2]),.nk @0 "ends" (.blt .list #v[.fld @1 "ends"]),.nk @0 "takers" (.blt .dict #v[.comp false (.tup #v[@0,.call "places_that_take" #v[@1,@0]]) (.val (.lit (.str SG))) (.cH (.lit (.bl true))) [1]])]
noncomputable def iL:dh:=#v[.set 2 ↑0,.fP (.name 3) (.val (.call "members" #v[@1])) #v[.aug 2 .bor (.ix (.fld @0 "behind") @3)],.ret @2]
noncomputable def fA:dh:=#v[.fP (.pair 2 3) (.enum (.fld @0 "ends")) #v[.ifs (.cH (.bin .band @1 @3)) #v[.ret @2] .nil],.ret (.lit .bV)]
noncomputable def ja:dh:=#v[.ifs (.cH (.cmp .eq (.ix @0 ↑0) ↑[111,110,101])) #v[.ret (.lit (.bl false))] .nil,.ifs (.cH (.cmp .eq (.ix @0 ↑0) ↑[114,111,119])) #v[.ret (.blt .all #v[.comp false (.call "_law_nothing" #v[@0]) (.val (.ix @0 ↑1)) (.cH (.lit (.bl true))) []])] .nil,.ifs (.cH (.cmp .eq (.ix @0 ↑0) ↑[111,114])) #v[.ret (.blt .any #v[.comp false (.call "_law_nothing" #v[@0]) (.val (.ix @0 ↑1)) (.cH (.lit (.bl true))) []])] .nil,.ret (.or (.cmp .isin (.ix @0 ↑0) (.tup #v[↑[115,116,97,114],↑[109,97,121,98,101]])) (.call "_law_nothing" #v[.ix @0 ↑1]))]
noncomputable def jY:dh:=#v[.ifs (.cH (.cmp .eq (.ix @0 ↑0) ↑[111,110,101])) #v[.ret (.BO (.cH (.cmp .isin @1 (.ix @0 ↑1))) (.lst #v[.tup .nil]) (.lst .nil))] .nil,.ifs (.cH (.cmp .eq (.ix @0 ↑0) ↑[111,114])) #v[.set 2 (.lst .nil),.fP (.name 3) (.val (.ix @0 ↑1)) #v[.set 2 (.bin .add @2 (.call "_law_behind" #v[@3,@1]))],.ret @2] .nil,.ifs (.cH (.cmp .eq (.ix @0 ↑0) ↑[114,111,119])) #v[.set 2 (.lst .nil),.fP (.name 4) (.range (.blt .len #v[.ix @0 ↑1])) #v[.set 2 (.bin .add @2 (.comp false (.bin .add @0 (.sl (.ix @1 ↑1) (.e (.bin .add @2 ↑1)) .no)) (.val (.call "_law_behind" #v[.ix (.ix @0 ↑1) @4,@1])) (.cH (.lit (.bl true))) [0,4])),.ifs (.not (.cH (.call "_law_nothing" #v[.ix (.ix @0 ↑1) @4]))) #v[.ret @2] .nil],.ret @2] .nil,.set 5 (.BO (.cH (.cmp .eq (.ix @0 ↑0) ↑[109,97,121,98,101])) (.tup .nil) (.tup #v[.tup #v[↑[115,116,97,114],.ix @0 ↑1]])),.ret (.comp false (.bin .add @0 @1) (.val (.call "_law_behind" #v[.ix @0 ↑1,@1])) (.cH (.lit (.bl true))) [5])]
noncomputable def kI:dh:=#v[.set 2 (.lst .nil),.fP (.name 3) (.val @0) #v[.fP (.name 4) (.val (.call "_law_behind" #v[.tup #v[↑[114,111,119],@3],@1])) #v[.ifs (.cH (.cmp .mF @4 @2)) #v[.ex (.jt .append @2 #v[@4])] .nil]],.ret @2]
noncomputable def oO:dh:=#v[.ret (.blt .any #v[.comp false (.call "_law_nothing" #v[.tup #v[↑[114,111,119],@0]]) (.val @0) (.cH (.lit (.bl true))) []])]
noncomputable def kJ:dh:=#v[.set 3 (.call "_law_mix" #v[@0,@1]),.set 4 (.bin .mod @3 ↑9),.ifs (.or (.cH (.cmp .eq @2 ↑0)) (.cH (.cmp .lt @4 ↑4))) #v[.ret (.tup #v[↑[111,110,101],.ix (.lst #v[↑[97],↑[98],↑[99],↑[97,98],↑[98,99],.call "_law_all" .nil,↑[97],↑[98],↑[48],.lit (.str [])]) (.bin .mod (.bin .fdiv @3 ↑9) ↑10)])] .nil,.ifs (.cH (.cmp .lt @4 ↑7)) #v[.set 5 (.comp false (.call "_law_small" #v[@1,.bin .add (.bin .add (.bin .mul ↑2 @2) ↑1) @0,.bin .sub @3 ↑1]) (.range ↑2) (.cH (.lit (.bl true))) [0,1,2]),.ret (.tup #v[.ix (.lst #v[↑[114,111,119],↑[111,114],↑[114,111,119]]) (.bin .sub @4 ↑4),.blt .tuple #v[@5]])] .nil,.ret (.tup #v[.ix (.lst #v[↑[115,116,97,114],↑[112,108,117,115],↑[109,97,121,98,101]]) (.bin .mod (.bin .fdiv @3 ↑9) ↑3),.call "_law_small" #v[@0,.bin .add (.bin .mul ↑2 @1) ↑1,.bin .sub @2 ↑1]])]
noncomputable def kK:dh:=#v[.set 4 (.lst .nil),.fP (.name 5) (.range @2) #v[.set 6 (.call "_law_small" #v[@0,.bin .add @1 (.bin .mul ↑9 @5),@3]),.ifs (.cH (.call "_law_nothing" #v[@6])) #v[.set 6 (.tup #v[↑[114,111,119],.tup #v[.tup #v[↑[111,110,101],.ix ↑[97,98,99] (.bin .mod @5 ↑3)],@6]])] .nil,.ex (.jt .append @4 #v[@6])],.ret @4]
noncomputable def lT:dh:=#v[.ret (.jt .join (.lit (.str [])) #v[.comp false (.ix ↑[97,97,98,98,99,48,97,10,98,97,98] (.bin .mod (.call "_law_mix" #v[@1,.bin .add @2 @0]) ↑11)) (.range @2) (.cH (.lit (.bl true))) [0,1]])]
end PL.lQ
namespace PL.ug
noncomputable def nG:dh:=#v[.ret (.call "smallest" #v[.call "spread" #v[.call "places_of" #v[@0,↑10]]])]
noncomputable def kL:dh:=#v[.nk @0 "takes" (.blt .list #v[@1]),.nk @0 "told" (.blt .tuple #v[@1]),.nk @0 "rows" @2]
noncomputable def kM:dh:=#v[.ret (.jt .get (.ix (.fld @0 "rows") @1) #v[@2])]
noncomputable def jZ:dh:=#v[.set 2 ↑0,.fP (.name 3) (.val @1) #v[.set 2 (.cL "Table" "goes" "Table.goes" @0 #v[@2,@3]),.ifs (.cH (.cmp .L8 @2 (.lit .bV))) #v[.ret (.lit .bV)] .nil],.ret (.ix (.fld @0 "told") @2)]
noncomputable def Xm:dh:=#v[.ifs (.cH (.cmp .ne @7 ↑0)) #v[.oh @5 @6 (.L9 @2 @7)] .nil]
def YU:dh:=(.cons (.set 7 (.bin .band @4 (.L9 (.fld @0 "takers") @6))) (.cons (.ifs (.and (.cH (.cmp .ne @7 ↑0)) (.cH (.cmp .CC @7 @2))) #v[.oh @2 @7 (.blt .len #v[@1]),.ex (.jt .append @1 #v[@7])] .nil) Xm))
def YV:dh:=#v[.set 4 (.cL "Places" "beyond" "Places.beyond" @0 #v[.ix @1 (.blt .len #v[@3])]),.set 5 (.eI .nil .nil),.fP (.name 6) (.val (.lit (.str SG))) YU,.ex (.jt .append @3 #v[@5])]
noncomputable def YW:dh:=#v[.ret (.mk "Table" "Table.__init__" #v[.comp false (.cL "Places" "first_rule" "Places.first_rule" @1 #v[@0]) (.val @1) (.cH (.lit (.bl true))) [0],@3])]
def rD:dh:=(.cons (.set 1 (.lst #v[↑1])) (.cons (.set 2 (.eI #v[↑1] #v[↑0])) (.cons (.set 3 (.lst .nil)) (.cons (.BP (.cH (.cmp .lt (.blt .len #v[@3]) (.blt .len #v[@1]))) YV) YW))))
noncomputable def YX:Ex:=.blt .dict #v[.comp false (.tup #v[@0,.ix @1 (.L9 @2 @0)]) (.keys @5) (.cH (.lit (.bl true))) [1,5]]
def YY:dh:=#v[.ifs (.cH (.cmp .eq (.ix @1 @4) (.blt .len #v[@3]))) #v[.ex (.jt .append @2 #v[.ix (.fld @0 "told") @4]),.ex (.jt .append @3 #v[YX])] .nil]
def nH:dh:=#v[.set 1 (.ix (.call "rounds" #v[.bin .add (.fld @0 "told") (.tup #v[.lit .bV]),.call "with_nowhere" #v[.fld @0 "rows"]]) (.neg ↑1)),.set 2 (.lst .nil),.set 3 (.lst .nil),.fP (.pair 4 5) (.enum (.fld @0 "rows")) YY,.ret (.mk "Table" "Table.__init__" #v[@2,@3])]
def YZ:Ex:=.blt .dict #v[.comp false (.tup #v[@0,.jt .get @1 #v[@0,@2]]) (.val (.lit (.str SG))) (.cH (.lit (.bl true))) [0,1]]
def jb:dh:=#v[.set 1 (.blt .len #v[@0]),.ret (.comp false YZ (.val (.bin .add @0 (.lst #v[.eI .nil .nil]))) (.cH (.lit (.bl true))) [1])]
noncomputable def rE:dh:=#v[.set 2 (.call "telling_signs" #v[@1]),.set 3 (.lst #v[.call "numbered" #v[@0]]),.BP (.cH (.lit (.bl true))) #v[.set 4 (.call "parted" #v[.ix @3 (.neg ↑1),@1,@2]),.ifs (.cH (.cmp .eq (.blt .max #v[@4]) (.blt .max #v[.ix @3 (.neg ↑1)]))) #v[.ret @3] .nil,.ex (.jt .append @3 #v[@4])]]
noncomputable def Y0:Ex:=.comp false (.ix @1 (.L9 @2 @0)) (.val @2) (.cH (.lit (.bl true))) [0,5]
def rF:dh:=#v[.set 3 (.lst .nil),.fP (.pair 4 5) (.enum @1) #v[.ex (.jt .append @3 #v[.tup #v[.ix @0 @4,.blt .tuple #v[Y0]]])],.ret (.call "numbered" #v[@3])]
noncomputable def nI:dh:=#v[.set 1 (.eI .nil .nil),.ret (.comp false (.jt .oh @1 #v[@0,.blt .len #v[@1]]) (.val @0) (.cH (.lit (.bl true))) [1])]
def iM:dh:=#v[.set 1 (.eI .nil .nil),.fP (.name 2) (.val (.lit (.str SG))) #v[.ex (.jt .oh @1 #v[.blt .tuple #v[.comp false (.L9 @0 @1) (.val @0) (.cH (.lit (.bl true))) [2]],@2])],.ret (.jt .vals @1 .nil)]
noncomputable def kN:dh:=#v[.fP (.name 2) (.range (.blt .len #v[@0])) #v[.set 3 (.lst #v[.tup #v[.ix @0 @2]]),.fP (.name 4) (.val @1) #v[.set 3 (.call "_law_rests" #v[@3,@4])],.ifs (.cH (.call "_law_ends" #v[@3])) #v[.ret @2] .nil],.ret (.lit .bV)]
end PL.ug
namespace PL.D1
noncomputable def kO:dh:=#v[.ret (.blt .len #v[.fld @0 "told"])]
noncomputable def kP:dh:=#v[.ret (.and (.SN @0 true) (.not (.SN @0 false)))]
noncomputable def pNj:dh:=#v[.ifs (.cH (.cmp .yF @5 (.lit .bV))) #v[.ifs (.or (.not (.cH (.call "_law_whole" #v[@5]))) (.or (.not (.UA ↑0 @5 @2)) (.cH (.cmp .gt @2 @1)))) #v[.ret (.lit (.bl false))] .nil,.set 2 (.bin .add @2 (.blt .int #v[.cmp .eq @5 @2]))] .nil]
def Y1:dh:=(.cons (.set 5 (.cL "Table" "goes" "Table.goes" @0 #v[@3,@4])) pNj)
def pNo:dh:=#v[.fP (.name 4) (.val (.call "_law_all" .nil)) Y1]
def iN:dh:=#v[.set 2 ↑1,.fP (.name 3) (.range @1) pNo,.ret (.cmp .eq @2 @1)]
noncomputable def Y2:Ex:=.comp false (.BO (.cH (.cmp .L8 @0 (.lit .bV))) (.lit .bV) (.ix (.fld @1 "takes") @0)) (.val @5) (.cH (.lit (.bl true))) [0]
noncomputable def Y3:Ex:=.comp false (.BO (.cH (.cmp .L8 @0 (.lit .bV))) (.lit .bV) (.cL "Table" "goes" "Table.goes" @1 #v[@0,@2])) (.val @5) (.cH (.lit (.bl true))) [0,7]
noncomputable def pAj:dh:=#v[.ifs (.and (.cH (.cmp .mF @8 @3)) (.cH (.cmp .ne (.ix @8 ↑0) (.ix @8 ↑1)))) #v[.ex (.jt .append @3 #v[@8])] .nil]
def Y4:dh:=(.cons (.set 8 (.blt .tuple #v[Y3])) pAj)
def pAs:dh:=#v[.fP (.name 7) (.val ↑[97,98,99,48,100]) Y4]
def Y5:dh:=(.cons (.set 5 (.ix @3 @4)) (.cons (.set 4 (.bin .add @4 ↑1)) (.cons (.set 6 Y2) (.cons (.ifs (.cH (.cmp .ne (.ix @6 ↑0) (.ix @6 ↑1))) #v[.ret (.lit (.bl true))] .nil) pAs))))
def kQ:dh:=#v[.set 3 (.lst #v[.tup #v[@1,@2]]),.set 4 ↑0,.BP (.cH (.cmp .lt @4 (.blt .len #v[@3]))) Y5,.ret (.lit (.bl false))]
noncomputable def pLa:dh:=#v[.ifs (.and (.cH (.cmp .gt @8 ↑0)) (.not (.cH (.call "_law_apart" #v[@2,@8,.lit .bV])))) #v[.ret (.lit (.bl false))] .nil,.fP (.name 9) (.range @8) #v[.ifs (.not (.cH (.call "_law_apart" #v[@2,@8,@9]))) #v[.ret (.lit (.bl false))] .nil]]
def Y6:dh:=#v[.fP (.name 8) (.range @3) pLa,.ret (.lit (.bl true))]
noncomputable def Y7:dh:=#v[.set 5 (.call "_law_text" #v[@0,.bin .add ↑51 @4,.bin .mod (.call "_law_mix" #v[@0,.bin .add ↑40 @4]) ↑8]),.set 6 (.call "_law_first" #v[@1,@5]),.set 7 (.cL "Table" "first" "Table.first" @2 #v[@5]),.ifs (.or (.cH (.cmp .ne @7 @6)) (.and (.cH (.cmp .yF @7 (.lit .bV))) (.not (.cH (.call "_law_whole" #v[@7]))))) #v[.ret (.lit (.bl false))] .nil]
def pLc:dh:=(.cons (.fP (.name 4) (.range ↑6) Y7) Y6)
def Y8:dh:=(.cons (.set 3 (.cL "Table" "size" "Table.size" @2 .nil)) (.cons (.ifs (.or (.not (.cH (.call "_law_whole" #v[@3]))) (.or (.cH (.cmp .ne (.blt .len #v[.fld @2 "takes"]) @3)) (.cH (.cmp .yF (.ix (.fld @2 "takes") ↑0) (.lit .bV))))) #v[.ret (.lit (.bl false))] .nil) (.cons (.ifs (.not (.cH (.call "_law_numbered" #v[@2,@3]))) #v[.ret (.lit (.bl false))] .nil) pLc)))
def D3:dh:=(.cons (.set 1 (.call "_law_trees" #v[@0,↑0,.bin .add ↑1 (.bin .mod (.call "_law_mix" #v[@0,↑50]) ↑2),↑2])) (.cons (.set 2 (.call "table_of" #v[.comp false (.call "written" #v[@0]) (.val @1) (.cH (.lit (.bl true))) []])) Y8))
end PL.D1
namespace L2
open PySem
open PL (U SO bJ KU Spec bZ)
structure Tab where
 const:List (String×U)
 fns:List String
 qy:List String
 qz:List (String×String)
 yO:List String
 iQ:List String
structure Inf where
 names:List (Str×NameKind)
 N:List Str
 calm:Bool
noncomputable def pick(l:List String)(x:Str):Option String:=l.find? λs=>b9 s==x
noncomputable def AV{α:Type}(l:List (String×α))(x:Str):Option (String×α):=l.find? λs=>b9 s.1==x
noncomputable def dY(x:Str):List Str->Option Nat
 |[]=>none
 |y::ys=>if y=x then some 0 else(dY x ys).map (·+1)
noncomputable def Mo:Option NameKind->Bool
 |some .local=>true
 |some .cell=>true
 |some .free=>true
 |_=>false
noncomputable def Inf.gl(I:Inf)(x:Str):Bool:=I.names.lookup x==some .globalImplicit
noncomputable def UU:mW->Option PL.Fy
 |.Add=>some .add|.Sub=>some .sub|.Mult=>some .mul|.FloorDiv=>some .fdiv|.Mod=>some .mod|.BitAnd=>some .band|.BitOr=>some .bor|.LShift=>some .shl|.RShift=>some .shr|_=>none
noncomputable def Y9:K4->Option PL.N9
 |.Eq=>some .eq|.NotEq=>some .ne|.Lt=>some .lt|.LtE=>some .le|.Gt=>some .gt|.GtE=>some .ge|.In=>some .isin|.NotIn=>some .mF|.Is=>some .L8|.IsNot=>some .yF
noncomputable def KR:Expr->Option Str
 |.Name x _=>some x
 |_=>none
theorem UW:∀e,(∃x p,e=KD x p)\/KR e=none:=by
 intro e;cases e<;>first|exact .inr rfl|exact .inl #[_,_,rfl]
theorem D6(h:KR e=some x):∃p,e=.Name x p:=by
 rcases UW e with⟨y,p,rfl⟩|e
 .exact#[p,congrArg (KD · p) (aF h)]
 .erw[nn (e.symm.trans h)]
def dkE(e:Expr):Bool:=KR e==some ("sign":Str)||KR e==some ("held":Str)
noncomputable def Zc:K4->Bool
 |.NotIn=>true
 |_=>false
def SU(op:K4)(b:Expr):Option PL.N9:=if Zc op&&KR b==some ("numbers":Str) then some .CC else Y9 op
noncomputable def Qm:Expr->Option Expr
 |.Call (.Attribute o m ap) [] [] cp=>if m==("values":Str)&&ap.endLine==cp.line then some o else none
 |_=>none
def Xn:Expr->Option (Str×Expr)
 |.Call f [a] [] _=>(KR f).map λx=>(x,a)
 |_=>none
theorem UX:∀e,(∃f as ks p,e=Expr.Call f as ks p)\/Xn e=none:=by
 intro e;cases e<;>first|exact .inr rfl|exact .inl #[_,_,_,_,rfl]
theorem Og(h:Xn e=some (x,a)):∃p q,e=.Call (.Name x p) [a] [] q:=by
 rcases UX e with⟨f,as,ks,q,rfl⟩|e
 .cases as with
  |nil=>erw[nn h]
  |cons a as=>cases as with
   |cons=>erw[nn h]
   |nil=>cases ks with
    |cons=>erw[nn h]
    |nil=>
     let#[y,h1,h2]:=ar.mp h;cases h2;let#[p,rfl]:=D6 h1;exact#[p,q,rfl]
 .erw[nn (e.symm.trans h)]
def Zd(T:Tab)(I:Inf)(e:Expr):Option Bool:=(KR e).bind λx=>
  if I.gl x then(if x==("int":Str)&&T.iQ.contains "int" then some true else if x==("bool":Str)&&T.iQ.contains "bool" then some false else none) else none
noncomputable def UY:K4->Bool
 |.LtE=>true
 |_=>false
noncomputable def rG(I : Inf)(names : List (Str×NameKind)) : List (Str×NameKind) := names.map λ(n, k) => if k==bT&&I.names.lookup n==some .cell then (n, .cell) else (n, k)
noncomputable def vq(I:Inf)(sc:kh)(xs:List Str):Bool:=
 sc.kind==.function&&sc.names.all (λy=>y.2 !=.cell||sc.names.lookup y.1==some .cell)&&sc.names.all (λy=>y.2 !=.local||sc.names.lookup y.1==some .local)&&sc.names.all (λy=>y.2 !=.free||I.names.lookup y.1==some .cell)
  && xs.all (λx=>sc.names.lookup x==some .local||sc.names.lookup x==some .cell)&&decide xs.Nodup
noncomputable def iD(I:Inf)(sc:kh):List Str:=I.N.filter λy=>sc.names.lookup y==some .free
def Mp:Expr->Option (List Str)
 |.Name x _=>some [x]
 |.Tuple [a,b] _ _=>(KR a).bind λx=>(KR b).map λy=>[x,y]
 |_=>none
noncomputable def noStar:Expr->Bool
 |.Starred ..=>false
 |_=>true
noncomputable def yP:Expr->Bool
 |.ListComp ..=>false
 |.SetComp ..=>false
 |.DictComp ..=>false
 |_=>true
noncomputable def lU:Expr->Bool
 |.Slice ..=>false
 |_=>true
noncomputable def gx:Expr->Bool
 |.Call (.Name _ _) [] [] _=>false
 |_=>true
noncomputable def Qn:Str->Option PL.Uz:=λx=>
 if x==("len":Str) then some .len else if x==("tuple":Str) then some .tuple else if x==("list":Str) then some .list
 else if x==("all":Str) then some .all else if x==("sum":Str) then some .sum else if x==("any":Str) then some .any else if x==("dict":Str) then some .dict else if x==("max":Str) then some .max else if x==("int":Str) then some .int else none
noncomputable def Qo:Str->Option PL.P4:=λx=>
 if x==("join":Str) then some .join else if x==("index":Str) then some .index else if x==("append":Str) then some .append else if x==("extend":Str) then some .extend else if x==("startswith":Str) then some .startswith else if x==("setdefault":Str) then some .oh else none
noncomputable def Ze:Const->Option U
 |.none=>some .bV
 |.bool b=>some (.bl b)
 |.int i=>some (.int i)
 |.str x=>some (.str x.cps.toList)
 |_=>none
def Ip(I:Inf)(k:oC):Bool:=match k with
 |⟨kw,v,_⟩=>kw==some ("key":Str)&&(match v with
  |.Name l _=>l==("len":Str)&&I.gl l
  |_=>false)
structure CF where
 e:Inf->Expr->Option PL.Ex
 es:Inf->List Expr->Option PL.zT
 bo:Inf->BoolOp->List Expr->Option PL.Ex
 o:Inf->Option Expr->Option PL.Ox
 i:Inf->Expr->Option PL.It
 n:Inf->Expr->Option PL.It
 t:Inf->Expr->Option PL.Tx
 tb:Inf->BoolOp->List Expr->Option PL.Tx
def SV(T:Tab)(F:CF)(I:Inf)(e:Expr):Option PL.Ex:=match e with
  |.Name x _=>match dY x I.N with
   |some i=>if Mo (I.names.lookup x)&&x !=("__debug__":Str)&&x !=("__classdict__":Str) then some (.var i) else none
   |none=>if I.gl x&&x !=("__debug__":Str) then(AV T.const x).map λp=>.lit p.2 else none
  |.Constant c _ _=>(Ze c).map .lit
  |.BinOp a op b _=>do
   let o <-UU op
   let x <-F.e I a
   let y <-F.e I b
   some (.bin o x y)
  |.UnaryOp op a _=>(match op with
   |.USub=>(F.e I a).map .neg
   |.Not=>(F.e I a).map .not
   |_=>none)
  |.BoolOp op vs _=>F.bo I op vs
  |.Compare a ops bs _=>(match ops with
   |[op]=>(match bs with
    |[b]=>do
     let o <-SU op b
     let x <-F.e I a
     let y <-F.e I b
     some (.cmp o x y)
    |_=>none)
   |_=>none)
  |.IfExp t a b _=>do
   let c <-F.t I t
   let x <-F.e I a
   let y <-F.e I b
   some (.BO c x y)
  |.Call f args kws cp=>(match f with
   |.Name f _=>(match kws with
    |[]=>if I.gl f&&f !=("__debug__":Str) then
      if f==("isinstance":Str)&&T.iQ.contains "isinstance" then(match args with
       |[a,t]=>if !noStar a then none else(F.e I a).bind λx=>(Zd T I t).map λy=>.SN x y
       |_=>none)
      else match Qn f with
      |some b=>(match (match args with|[a]=>Qm a|_=>none) with
       |some o=>if f==("list":Str)&&T.iQ.contains "list"&&I.calm&&gx o then(F.e I o).map λx=>.jt .vals x .nil else none
       |none=>if (pick T.iQ f).isSome && !args.isEmpty&&I.calm then(F.es I args).map (.blt b) else none)
      |none=>if !I.calm then none else match pick T.fns f with
       |some q=>(F.es I args).map (.call q)
       |none=>match pick T.qy f with
        |some q=>(F.es I args).map (.mk q (q++".__init__"))
        |none=>none
     else none
    |kw::ks=>(match args with
     |[a]=>if ks.isEmpty&&f==("min":Str)&&Ip I kw&&I.gl f&&T.iQ.contains "min"&&T.iQ.contains "len"&&I.calm&&noStar a then(F.e I a).map λx=>.blt .vg (.cons x .nil) else none
     |_=>none))
   |.Attribute o m ap=>if !(kws.isEmpty&&gx o&&ap.endLine==cp.line&&decide (args.length<20)&&I.calm) then none else
    match AV T.qz m with
    |some (q,k)=>do
     let x <-F.e I o
     let as <-F.es I args
     some (.cL k q (k++"."++q) x as)
    |none=>(match args with
     |[]=>if m==("bit_length":Str) then(F.e I o).map λx=>.jt .nj x .nil else none
     |a::as=>if m==("get":Str) then(match as with
       |[d]=>if noStar a&&noStar d then do
         let x <-F.e I o
         let y <-F.e I a
         let z <-F.e I d
         some (.jt .get x (.cons y (.cons z .nil)))
        else none
       |[]=>if noStar a then do
         let x <-F.e I o
         let y <-F.e I a
         some (.jt .get x (.cons y .nil))
        else none
       |_=>none)
      else match Qo m with
      |some b=>do
       let x <-F.e I o
       let as <-F.es I (a::as)
       some (.jt b x as)
      |none=>none)
   |_=>none)
  |.Attribute o f _=>if !gx o then none else do
   let q <-pick T.yO f
   let x <-F.e I o
   some (.fld x q)
  |.Subscript o i _=>if lU i then do
    let x <-F.e I o
    let y <-F.e I i
    some (if dkE i then .L9 x y else .ix x y)
   else(match i with
   |.Slice lo hi st _=>(match st with
    |none=>do
     let x <-F.e I o
     let a <-F.o I lo
     let b <-F.o I hi
     some (.sl x a b)
    |some _=>none)
   |_=>none)
  |.Dict ks vs _=>(match ks with
   |[]=>(match vs with
    |[]=>some (.eI .nil .nil)
    |_=>none)
   |[some k]=>(match vs with
    |[v]=>do
     let x <-F.e I k
     let y <-F.e I v
     some (.eI (.cons x .nil) (.cons y .nil))
    |_=>none)
   |_=>none)
  |.List es _=>(F.es I es).map .lst
  |.Tuple es _ _=>(F.es I es).map .tup
  |.ListComp elt gs sc _=>(match gs with
   |[g]=>(match g with
    |⟨tg,iter,ifs,as⟩=>match Mp tg with
     |some xs=>if vq I sc xs&&I.calm&&as==0 then do
       let it <-(match xs with
        |[_]=>F.i I iter
        |_=>F.n I iter)
       let cn:=iD I sc
       let J:Inf:=#[rG I sc.names,xs++cn,true]
       let c <-(match ifs with
        |[]=>some (PL.Tx.cH (.lit (.bl true)))
        |[c]=>F.t J c
        |_=>none)
       let e <-F.e J elt
       let ci <-cn.mapM λy=>dY y I.N
       some (.comp (xs.length==2) e it c ci)
      else none
     |none=>none)
   |_=>none)
  |_=>none
def Iq(F:CF)(I:Inf):List Expr->Option PL.zT
 |[]=>some .nil
 |e::es=>if !noStar e then none else do
  let x <-F.e I e
  let xs <-F.es I es
  some (.cons x xs)
noncomputable def Ir(F:CF)(I:Inf)(op:BoolOp):List Expr->Option PL.Ex
 |[]=>none
 |[a]=>F.e I a
 |a::b::r=>do
  let x <-F.e I a
  let y <-F.bo I op (b::r)
  some (match op with|.And=>.and x y|.Or=>.or x y)
noncomputable def Xo(F:CF)(I:Inf):Option Expr->Option PL.Ox
 |none=>some .no
 |some e=>(F.e I e).map .e
def stI(T:Tab)(F:CF)(I:Inf)(e:Expr):Option PL.It:=match Xn e with
  |some (f,a)=>if f==("range":Str) then(if I.gl f&&T.iQ.contains "range" then(F.e I a).map .range else none) else(F.e I e).map .val
  |none=>if KR e==some ("row":Str) then(F.e I e).map .keys else(F.e I e).map .val
def stN(T:Tab)(F:CF)(I:Inf)(e:Expr):Option PL.It:=match Xn e with
  |some (f,a)=>if f==("enumerate":Str)&&I.gl f&&T.iQ.contains "enumerate"&&noStar a then(F.e I a).map .enum else none
  |none=>none
def stT(F:CF)(I:Inf)(e:Expr):Option PL.Tx:=match e with
  |.UnaryOp .Not a _=>(F.t I a).map .not
  |.BoolOp op vs _=>F.tb I op vs
  |.IfExp ..=>none
  |.Compare a ops bs _=>(match ops with
   |[]=>none
   |op::ops=>(match bs with
    |[]=>none
    |b::bs=>(match ops with
     |[]=>(match bs with
      |[]=>do
       let o <-SU op b
       let x <-F.e I a
       let y <-F.e I b
       some (.cH (.cmp o x y))
      |_=>none)
     |op'::ops=>(match bs with
      |[]=>none
      |c::bs=>if UY op&&UY op'&&ops.isEmpty&&bs.isEmpty then do
        let x <-F.e I a
        let y <-F.e I b
        let z <-F.e I c
        some (.UA x y z)
       else none))))
  |_=>(F.e I e).map .cH
noncomputable def Iu(F:CF)(I:Inf)(op:BoolOp):List Expr->Option PL.Tx
 |[]=>none
 |[a]=>F.t I a
 |a::b::r=>do
  let x <-F.t I a
  let y <-F.tb I op (b::r)
  some (match op with|.And=>.and x y|.Or=>.or x y)
def rH(T:Tab):Nat->CF
 |0=>#[λ_ _=>none,λ_ _=>none,λ_ _ _=>none,λ_ _=>none,λ_ _=>none,λ_ _=>none,λ_ _=>none,λ_ _ _=>none]
 |n+1=>#[SV T (rH T n),Iq (rH T n),Ir (rH T n),Xo (rH T n),stI T (rH T n),stN T (rH T n),stT (rH T n),Iu (rH T n)]
abbrev cE(T:Tab)(n:Nat):Inf->Expr->Option PL.Ex:=(rH T n).e
abbrev SW(T:Tab)(n:Nat):Inf->List Expr->Option PL.zT:=(rH T n).es
abbrev Xp(T:Tab)(n:Nat):Inf->BoolOp->List Expr->Option PL.Ex:=(rH T n).bo
abbrev cO(T:Tab)(n:Nat):Inf->Option Expr->Option PL.Ox:=(rH T n).o
abbrev cI(T:Tab)(n:Nat):Inf->Expr->Option PL.It:=(rH T n).i
abbrev cN(T:Tab)(n:Nat):Inf->Expr->Option PL.It:=(rH T n).n
abbrev cT(T:Tab)(n:Nat):Inf->Expr->Option PL.Tx:=(rH T n).t
abbrev Xq(T:Tab)(n:Nat):Inf->BoolOp->List Expr->Option PL.Tx:=(rH T n).tb
section
variable{T:Tab}{n:Nat}{I:Inf}{x:Expr}{xs:List Expr}{p:BoolOp}{y:Option Expr}
theorem UZ:cE T 0 I x=none:=rfl
theorem Mq:cE T (n+1) I x=SV T (rH T n) I x:=rfl
theorem Oh:SW T 0 I xs=none:=rfl
theorem Iv:SW T (n+1) I xs=Iq (rH T n) I xs:=rfl
theorem U0:Xp T 0 I p xs=none:=rfl
theorem Iw:Xp T (n+1) I p xs=Ir (rH T n) I p xs:=rfl
theorem Zf:cO T 0 I y=none:=rfl
theorem U1:cO T (n+1) I y=Xo (rH T n) I y:=rfl
theorem Zg:cI T 0 I x=none:=rfl
theorem Zh:cI T (n+1) I x=stI T (rH T n) I x:=rfl
theorem Zi:cN T 0 I x=none:=rfl
theorem Zj:cN T (n+1) I x=stN T (rH T n) I x:=rfl
theorem Zk:cT T 0 I x=none:=rfl
theorem Zl:cT T (n+1) I x=stT (rH T n) I x:=rfl
theorem U2:Xq T 0 I p xs=none:=rfl
theorem Iy:Xq T (n+1) I p xs=Iu (rH T n) I p xs:=rfl
end
def Zm(T:Tab)(n:Nat)(J:Inf)(ifs:List Expr):Option PL.Tx:=match ifs with
 |[]=>some (PL.Tx.cH (.lit (.bl true)))
 |[c]=>cT T n J c
 |_=>none
theorem vt(h:cE T (n+1) I (.ListComp elt gs sc pos)=some x):
  ∃tg iter ifs xs it c ee ci,gs=[#[tg,iter,ifs,0]]/\Mp tg=some xs/\(vq I sc xs=true/\I.calm=true)/\((∃y,xs=[y])/\cI T n I iter=some it\/(¬ ∃y,xs=[y])/\cN T n I iter=some it)/\Zm T n #[rG I sc.names,xs++iD I sc,true] ifs=some c /\
   cE T n #[rG I sc.names,xs++iD I sc,true] elt=some ee/\(iD I sc).mapM (λy=>dY y I.N)=some ci/\x=.comp (xs.length==2) ee it c ci:=by
 rw[Mq] at h
 delta SV at h
 dsimp only at h;split at h
 .rename_i g
  let#[tg,iter,ifs,as]:=g;dsimp only at h;split at h
  .rename_i xs ht
   split at h
   .rename_i hc
    dsimp[aj] at hc;dsimp[aM,au] at h;let#[it,h1,c,h2,ee,h3,ci,h4,h5]:=h;injection h5 with h5
    have e0:as=0:=eq_of_beq hc.2;subst e0;refine#[tg,iter,ifs,xs,it,c,ee,ci,rfl,ht,hc.1,?_,h2,h3,h4,h5.symm];split at h1
    .erw[.inl #[#[_,rfl],h1]]
    .rename_i hn
     erw[.inr #[λ⟨y,e⟩=>hn y e,h1]]
   .erw[nn h]
  .erw[nn h]
 .erw[nn h]
theorem U3:∀e,(∃x p,e=KD x p)\/(∃es k q,e=Expr.Tuple es k q)\/Mp e=none:=by
 intro e;cases e<;>first|exact .inr (.inr rfl)|exact .inl #[_,_,rfl]|exact .inr (.inl #[_,_,_,rfl])
theorem CT(h:Mp tg=some xs):(∃x p,tg=.Name x p/\xs=[x])\/∃x y p p' k q,tg=.Tuple [.Name x p,.Name y p'] k q/\xs=[x,y]:=by
 rcases U3 tg with⟨x,p,rfl⟩|⟨es,k,q,rfl⟩|e
 .erw[.inl #[x,p,rfl,(aF h).symm]]
 .cases es with
  |nil=>erw[nn h]
  |cons a es=>cases es with
   |nil=>erw[nn h]
   |cons b es=>cases es with
    |cons=>erw[nn h]
    |nil=>
     let#[x,h1,h]:=au.mp h;let#[y,h2,h3]:=ar.mp h;let#[p,rfl]:=D6 h1;let#[p',rfl]:=D6 h2;erw[.inr #[x,y,p,p',k,q,rfl,h3.symm]]
 .erw[nn (e.symm.trans h)]
open PL (U SO bJ KU Spec bZ)
noncomputable def uh:Option NameKind->Bool
 |some .local=>true
 |some .cell=>true
 |_=>false
noncomputable def CU:mW->Option PL.Fy
 |.Add=>some .add|.Sub=>some .sub|.BitOr=>some .bor|_=>none
structure CG where
 s:Inf->Stmt->Option PL.Sm
 ss:Inf->List Stmt->Option PL.dh
def Zn(T:Tab)(F:CF)(G:CG)(I:Inf)(s:Stmt):Option PL.Sm:=match s with
  |.Assign ts e _=>(match ts with
   |[t]=>(match t with
    |.Name x _=>(match dY x I.N with
     |some i=>if uh (I.names.lookup x) then(F.e I e).map (.set i) else none
     |none=>none)
    |.Attribute o f _=>do
     let q <-pick T.yO f
     let x <-F.e I o
     let y <-F.e I e
     some (.nk x q y)
    |.Subscript o i _=>if lU i&&dkE i then do
      let x <-F.e I o
      let k <-F.e I i
      let y <-F.e I e
      some (.oh x k y)
     else none
    |_=>none)
   |_=>none)
  |.AugAssign t op e _=>(match t with
   |.Name x _=>(match dY x I.N with
    |some i=>if uh (I.names.lookup x) then do
      let p <-CU op
      let y <-F.e I e
      some (.aug i p y)
     else none
    |none=>none)
   |.Attribute o f _=>do
    let q <-pick T.yO f
    let p <-CU op
    let x <-F.e I o
    let y <-F.e I e
    some (.CD x q p y)
   |.Subscript o i _=>if lU i then do
     let p <-CU op
     let x <-F.e I o
     let j <-F.e I i
     let y <-F.e I e
     some (.Fz x j p y)
    else none
   |_=>none)
  |.Expr e _=>if yP e then(F.e I e).map .ex else none
  |.Return e _=>(match e with
   |some e=>(F.e I e).map .ret
   |none=>none)
  |.If c a b _=>do
   let c <-F.t I c
   let a <-G.ss I a
   let b <-G.ss I b
   some (.ifs c a b)
  |.While c b el _=>if el.isEmpty then do
    let c <-F.t I c
    let b <-G.ss I b
    some (.BP c b)
   else none
  |.For tg it b el _=>if !(I.calm&&el.isEmpty) then none else(match Mp tg with
   |some xs=>(match xs with
    |[x]=>(match dY x I.N with
     |some i=>if uh (I.names.lookup x) then do
       let it <-F.i I it
       let b <-G.ss I b
       some (.fP (.name i) it b)
      else none
     |none=>none)
    |[x,y]=>(match dY x I.N with
     |some i=>(match dY y I.N with
      |some j=>if uh (I.names.lookup x)&&uh (I.names.lookup y) then do
        let it <-F.n I it
        let b <-G.ss I b
        some (.fP (.pair i j) it b)
       else none
      |none=>none)
     |none=>none)
    |_=>none)
   |none=>none)
  |.Raise _ _ _=>some (.ex (.ix (.lit .bV) (.lit .bV)))
  |.Try b hs el fi _=>(match hs with
   |_::_=>if el.isEmpty&&fi.isEmpty then(G.ss I b).map .SQ else none
   |[]=>none)
  |_=>none
noncomputable def Mr(G:CG)(I:Inf):List Stmt->Option PL.dh
 |[]=>some .nil
 |s::ss=>do
  let x <-G.s I s
  let xs <-G.ss I ss
  some (.cons x xs)
def FN(T:Tab):Nat->CG
 |0=>#[λ_ _=>none,λ_ _=>none]
 |n+1=>#[Zn T (rH T n) (FN T n),Mr (FN T n)]
abbrev cS(T:Tab)(n:Nat):Inf->Stmt->Option PL.Sm:=(FN T n).s
abbrev KS(T:Tab)(n:Nat):Inf->List Stmt->Option PL.dh:=(FN T n).ss
theorem Zo:cS T 0 I x=none:=rfl
theorem Zp:cS T (n+1) I x=Zn T (rH T n) (FN T n) I x:=rfl
theorem U4:KS T 0 I x=none:=rfl
theorem Oi:KS T (n+1) I x=Mr (FN T n) I x:=rfl
open PySem.Spec PyProof.Rows PySem.W
open PL (U SO bJ KU Spec bZ)
structure Ctx where
 P:bO
 w:cy
 K:Frag
 mg:Str->Option Value
 base:Heap
 cls:String->Option Addr
noncomputable abbrev nm(s:String):Str:=b9 s
def xA(K:Frag)(H:Hp)(a:Addr)(vs:List V):Prop:=
 (∃o,H a=some (.sk o (.lst vs))) \/
  ∃(o:Obj)(its:Array Value)(n:Nat),K.lookup a=some o/\o.cls=.type "list"/\o.dict=none/\o.data=.seq its n/\its.size<=sizeLine/\Vals vs its.toList
theorem xA.sq{K:Frag}{H:Hp}{a:Addr}{vs:List V}(h:xA K H a vs):iU K H a vs:=by
 rcases h with⟨o,h⟩|h
 .erw[.inl (.inr #[o,h])]
 .erw[.inr h]
section
variable(c:Ctx)(ρ:List Addr)(H:Hp)
mutual
noncomputable def Rep:U->V->Prop
 |.bV,v=>v=.bV
 |.bl b,v=>v=.bl b
 |.int i,v=>v=.int i
 |.str l,v=>v=.str (tx l)
 |.tup us,v=>∃a vs,v=.ref a/\H a=some (.tup vs)/\aX us vs
 |.loc n,v=>∃a,v=.ref a/\ρ[n]?=some a
 |.rm ns,v=>∃a,v=.ref a/\xA c.K H a (ns.map .int)
 |.tab kvs,v=>∃a,v=.ref a/\P1 c.K c.w.params a (kvs.map λp=>(tx p.1,V.str (tx p.2)))
noncomputable def aX:List U->List V->Prop
 |[],vs=>vs=[]
 |u::us,vs=>∃v r,vs=v::r/\Rep u v/\aX us r
end
def ui(a:Addr):SO->Prop
 |.lst us=>∃vs,H a=some (.lst vs)/\aX c ρ H us vs
 |.ins x fs=>∃C dx vs,c.cls x=some C/\H a=some (.ins C dx vs)/\vs.map (·.1)=(fs.map (·.1)).map nm/\aX c ρ H (fs.map (·.2)) (vs.map (·.2))
 |.eI kvs=>∃vs,H a=some (.dK vs)/\vs.length=kvs.length/\aX c ρ H (kvs.map (·.1)) (vs.map λp=>kV p.1)/\aX c ρ H (kvs.map (·.2)) (vs.map (·.2))
 |.vf kvs=>∃o vs,H a=some (.sk o (.dK vs))/\vs.length=kvs.length/\aX c ρ H (kvs.map (·.1)) (vs.map λp=>kV p.1)/\aX c ρ H (kvs.map (·.2)) (vs.map (·.2))
 |.ur kvs=>∃vs,H a=some (.dT vs)/\vs.map (·.1)=kvs.map (λp=>p.1.map wH)/\aX c ρ H (kvs.map (·.2)) (vs.map (·.2))
 |.xt kvs=>∃vs,H a=some (.dP vs)/\vs.map (·.1)=kvs.map (·.1)/\aX c ρ H (kvs.map (·.2)) (vs.map (·.2))
structure cz(S:bJ):Prop where
 len:ρ.length=S.length
 nd:ρ.Nodup
 at_:∀(n:Nat)(a:Addr)(o:SO),ρ[n]?=some a->S[n]?=some o->ui c ρ H a o
end
structure iA(ρ:List Addr)(H:Hp)(ρ':List Addr)(H':Hp):Prop where
 pre:∃more,ρ'=ρ++more
 new:∀b∈ρ',b∉ρ->H b=none
 fr:∀b o,H b=some o->b∉ρ->H' b=some o
 fz:∀b o vs,H b=some (.sk o (.dK vs))->H' b=some (.sk o (.dK vs))
section
variable{c:Ctx}{ρ ρ' ρ'':List Addr}{H H' H'':Hp}{S S':bJ}
theorem iA.refl:iA ρ H ρ H:=#[#[[],by simp],λ_ h n=>absurd h n,λ_ _ h _=>h,λ_ _ _ h=>h]
theorem iA.trans(a:iA ρ H ρ' H')(b:iA ρ' H' ρ'' H''):iA ρ H ρ'' H'':=by
 let#[m1,e1]:=a.pre;let#[m2,e2]:=b.pre;refine#[#[m1++m2,by rw[e2,e1,bP]],λx hx nx=>?_,λx o h nx=>?_,λx o vs h=>b.fz x o vs (a.fz x o vs h)]
 .by_cases z:x∈ρ'
  .erw[a.new x z nx]
  .cases q:H x with
   |none=>rfl
   |some o=>erw[absurd (a.fr x o q nx) (by rw[b.new x hx z];simp)]
 .have q:=a.fr x o h nx
  by_cases z:x∈ρ'
  .erw[absurd (a.new x z nx) (by rw[h];simp)]
  .erw[b.fr x o q z]
theorem iA.get(a:iA ρ H ρ' H'){n:Nat}{b:Addr}(h:ρ[n]?=some b):ρ'[n]?=some b:=by
 let#[m,e]:=a.pre;rw[e,ah (by let#[h,_]:=ae.mp h;erw[h])]
 erw[h]
noncomputable def yQ:HO->Bool
 |.lst _=>true
 |.ins _ _ _=>true
 |.dK _=>true
 |.dT _=>true
 |.dP _=>true
 |.sk _ (.dK _)=>true
 |_=>false
noncomputable def Qp:HO->Bool
 |.sk _ _=>true
 |_=>false
theorem cz.obj(R:cz c ρ H S)(h:b∈ρ):∃o,H b=some o/\yQ o=true:=by
 let#[n,hn,e]:=qH h;have hn':n<S.length:=R.len▸hn;have q:=R.at_ n b S[n] (by rw[aa hn,e]) (aa hn');cases o:S[n] with
 |lst us=>rw[o] at q;let#[vs,h,_]:=q;exact#[_,h,rfl]
 |ins x fs=>rw[o] at q;let#[C,dx,vs,_,h,_]:=q;exact#[_,h,rfl]
 |eI kvs=>rw[o] at q;let#[vs,h,_]:=q;exact#[_,h,rfl]
 |vf kvs=>rw[o] at q;let#[o',vs,h,_]:=q;exact#[_,h,rfl]
 |ur kvs=>rw[o] at q;let#[vs,h,_]:=q;exact#[_,h,rfl]
 |xt kvs=>rw[o] at q;let#[vs,h,_]:=q;exact#[_,h,rfl]
theorem cz.not(R:cz c ρ H S)(h:H b=some o)(q:yQ o=false):b∉ρ:=λz=>by
 let#[o',h',q']:=R.obj z;rw[h] at h';injection h' with e;subst e
 rw[q] at q';erw[KG q']
theorem cz.Iz(R:cz c ρ H S)(h:H b=none):b∉ρ:=λz=>by
 let#[o',h',_]:=R.obj z;rw[h] at h';cases h'
mutual
theorem Rep.iu(p:∃more,ρ'=ρ++more)(k:∀b o,H b=some o->yQ o=false->H' b=some o):∀{u:U}{v:V},Rep c ρ H u v->Rep c ρ' H' u v
 |.bV,_,h=>by unfold Rep at h ⊢;erw[h]
 |.bl _,_,h=>by unfold Rep at h ⊢;erw[h]
 |.int _,_,h=>by unfold Rep at h ⊢;erw[h]
 |.str _,_,h=>by unfold Rep at h ⊢;erw[h]
 |.tup us,_,h=>by
  unfold Rep at h ⊢;let#[x,vs,e,hx,hs]:=h;exact#[x,vs,e,k x _ hx rfl,aX.iu p k hs]
 |.loc n,_,h=>by
  unfold Rep at h ⊢;let#[x,e,hx]:=h;let#[m,rfl]:=p;exact#[x,e,by rw[ah (by let#[h,_]:=ae.mp hx;erw[h])];erw[hx]]
 |.rm ns,_,h=>by
  unfold Rep at h ⊢;let#[x,e,hx]:=h;rcases hx with⟨o,hx⟩|hx
  .exact#[x,e,.inl #[o,k x _ hx rfl]]
  .exact#[x,e,.inr hx]
 |.tab _,_,h=>by unfold Rep at h ⊢;erw[h]
theorem aX.iu(p:∃more,ρ'=ρ++more)(k:∀b o,H b=some o->yQ o=false->H' b=some o):∀{us:List U}{vs:List V},aX c ρ H us vs->aX c ρ' H' us vs
 |[],_,h=>by unfold aX at h ⊢;erw[h]
 |u::us,_,h=>by
  unfold aX at h ⊢;let#[v,r,e,h1,h2]:=h;exact#[v,r,e,Rep.iu p k h1,aX.iu p k h2]
end
theorem ui.iu(p:∃more,ρ'=ρ++more)(m:∀b o,H b=some o->yQ o=false->H' b=some o)(h:ui c ρ H b o)(k:H' b=H b):ui c ρ' H' b o:=by
 cases o with
 |lst us=>let#[vs,h1,h2]:=h;exact#[vs,k.trans h1,h2.iu p m]
 |ins x fs=>let#[C,dx,vs,h0,h1,h2,h3]:=h;exact#[C,dx,vs,h0,k.trans h1,h2,h3.iu p m]
 |eI kvs=>let#[vs,h1,h2,h3,h4]:=h;exact#[vs,k.trans h1,h2,h3.iu p m,h4.iu p m]
 |vf kvs=>let#[o,vs,h1,h2,h3,h4]:=h;exact#[o,vs,k.trans h1,h2,h3.iu p m,h4.iu p m]
 |ur kvs=>let#[vs,h1,h2,h3]:=h;exact#[vs,k.trans h1,h2,h3.iu p m]
 |xt kvs=>let#[vs,h1,h2,h3]:=h;exact#[vs,k.trans h1,h2,h3.iu p m]
theorem iA.Zq(R:cz c ρ H S)(a:iA ρ H ρ' H'):∀b o,H b=some o->yQ o=false->H' b=some o:=λb o h q=>a.fr b o h (R.not h q)
theorem Rep.mono(R:cz c ρ H S)(a:iA ρ H ρ' H')(h:Rep c ρ H u v):Rep c ρ' H' u v:=h.iu a.pre (a.Zq R)
theorem aX.mono(R:cz c ρ H S)(a:iA ρ H ρ' H')(h:aX c ρ H us vs):aX c ρ' H' us vs:=h.iu a.pre (a.Zq R)
theorem ui.mono(R:cz c ρ H S)(a:iA ρ H ρ' H')(h:ui c ρ H b o)(k:H' b=H b):ui c ρ' H' b o:=h.iu a.pre (a.Zq R) k
theorem yR(hD:H D=some o)(q:yQ o=true):∀b o,H b=some o->yQ o=false->upd H D ho b=some o:=λb o' h z=>by
 rw[cb]
 .erw[h]
 .intro e;subst e;rw[hD] at h;injection h with h;subst h;rw[q] at z;erw[KG z]
theorem cz.AW(R:cz c ρ H S)(ho:HO)(hD:H D=some o)(q:yQ o=true)(n:D∉ρ):cz c ρ (upd H D ho) S:=
 #[R.len,R.nd,λm b o' h1 h2=>(R.at_ m b o' h1 h2).iu #[[],by simp] (yR hD q) (cb λe=>n (e▸af h1))]
theorem cz.join(R:cz c ρ H S)(n:D∉ρ)(h:ui c ρ H D o):cz c (ρ++[D]) H (S++[o]):=by
 have p:∃more,ρ++[D]=ρ++more:=#[[D],rfl]
 refine#[by simp[R.len],?_,λm a o' h1 h2=>?_]
 .rw[dq]
  exact#[R.nd,by simp,λx hx y hy=>by rw[bC.mp hy];erw[λe=>n (e▸hx)]]
 .by_cases z:m<ρ.length
  .rw[ah z] at h1
   rw[ah (R.len▸z)] at h2;exact(R.at_ m a o' h1 h2).iu p (λ_ _ h _=>h) rfl
  .have hz:m=ρ.length:=by
    let#[q,_]:=ae.mp h1;simp at q;omega
   subst hz;rw[aw (aq _),bR] at h1;rw[R.len,aw (aq _),bR] at h2;simp at h1 h2;rw[<-h1,<-h2];erw[h.iu p (λ_ _ h _=>h) rfl]
theorem iA.alloc(R:cz c ρ H S)(hp:H p=none)(o:HO):iA ρ H (ρ++[p]) (upd H p o):=by
 refine#[#[[p],rfl],λb hb nb=>?_,λb o h nb=>?_,λb o vs h=>by rw[cb (dB h hp)];erw[h]]
 .rcases aL.mp hb with h|h
  .erw[absurd h nb]
  .rw[bC.mp h];erw[hp]
 .rw[cb (dB h hp)];erw[h]
theorem cz.alloc(R:cz c ρ H S)(hp:H p=none)(h:ui c (ρ++[p]) (upd H p ho) p o):cz c (ρ++[p]) (upd H p ho) (S++[o]):=by
 have st:=iA.alloc R hp ho;refine#[by simp[R.len],?_,λn a o' h1 h2=>?_]
 .rw[dq]
  exact#[R.nd,by simp,λx hx y hy=>by rw[bC.mp hy];erw[λe=>R.Iz hp (e▸hx)]]
 .by_cases z:n<ρ.length
  .rw[ah z] at h1
   rw[ah (R.len▸z)] at h2;refine(R.at_ n a o' h1 h2).mono R st (cb λe=>?_);erw[R.Iz hp (e▸af h1)]
  .have hz:n=ρ.length:=by
    let#[q,_]:=ae.mp h1;simp at q;omega
   subst hz;rw[aw (aq _),bR] at h1;rw[R.len,aw (aq _),bR] at h2;simp at h1 h2;rw[<-h1,<-h2];erw[h]
theorem iA.lay(R:cz c ρ H S)(hp:H p=none)(o:HO):iA ρ H ρ (upd H p o):=
 #[#[[],by simp],λ_ h n=>absurd h n,λb _ h _=>by rw[cb (dB h hp)];erw[h],λb o vs h=>by rw[cb (dB h hp)];erw[h]]
theorem cz.lay(R:cz c ρ H S)(hp:H p=none)(o:HO):cz c ρ (upd H p o) S:=
 #[R.len,R.nd,λn a o' h1 h2=>(R.at_ n a o' h1 h2).mono R (iA.lay R hp o) (cb λe=>R.Iz hp (e▸af h1))]
theorem iA.put(h:a∈ρ)(hu:H a=some u)(nf:Qp u=false)(o:HO):iA ρ H ρ (upd H a o):=
 #[#[[],by simp],λ_ h n=>absurd h n,λb _ q nb=>by rw[cb (show b≠a from λe=>nb (by rw[e];exact h))];exact q,
  λb o' vs q=>by rw[cb λe=>by rw[e,hu] at q;injection q with q;rw[q] at nf;cases nf];erw[q]]
theorem cz.put(R:cz c ρ H S)(ha:ρ[n]?=some a)(hu:H a=some u)(nf:Qp u=false)(h:ui c ρ (upd H a ho) a o):cz c ρ (upd H a ho) (S.set n o):=by
 have hm:=af ha;refine#[by simp[R.len],R.nd,λm b o' h1 h2=>?_];by_cases z:m=n
 .subst z
  rw[ha] at h1;injection h1 with h1;subst h1
  have hl:m<S.length:=R.len▸(ae.mp ha).1;rw[bM hl] at h2;injection h2 with h2;subst h2;erw[h]
 .rw[ao (cR z)] at h2
  refine(R.at_ m b o' h1 h2).mono R (iA.put hm hu nf ho) (cb λe=>z ?_);subst e;let#[l1,e1]:=ae.mp h1;let#[l2,e2]:=ae.mp ha;exact(Kx R.nd).mp (e1.trans e2.symm)
theorem aX.len:∀{us:List U}{vs:List V},aX c ρ H us vs->us.length=vs.length
 |[],_,h=>by unfold aX at h;subst h;rfl
 |_::us,_,h=>by
  unfold aX at h;let#[v,r,e,_,h2]:=h;subst e;rw[aZ,aZ,aX.len h2]
theorem aX.nil:aX c ρ H [] []:=by unfold aX;rfl
theorem aX.cons(h:Rep c ρ H u v)(t:aX c ρ H us vs):aX c ρ H (u::us) (v::vs):=by unfold aX;exact#[v,vs,rfl,h,t]
theorem aX.app:∀{us ws:List U}{vs xs:List V},aX c ρ H us vs->aX c ρ H ws xs->aX c ρ H (us++ws) (vs++xs)
 |[],_,_,_,h,k=>by unfold aX at h;subst h;erw[k]
 |u::us,_,_,_,h,k=>by
  unfold aX at h;let#[v,r,e,h1,h2]:=h;subst e;erw[aX.cons h1 (aX.app h2 k)]
theorem aX.get:∀{us:List U}{vs:List V}{n:Nat}{u:U},aX c ρ H us vs->us[n]?=some u->∃v,vs[n]?=some v/\Rep c ρ H u v
 |[],_,_,_,_,e=>by simp at e
 |u::us,_,n,_,h,e=>by
  unfold aX at h;let#[v,r,e',h1,h2]:=h;subst e';cases n with
  |zero=>simp at e;subst e;exact#[v,rfl,h1]
  |succ n=>simp at e ⊢;erw[aX.get h2 e]
theorem aX.take:∀{us:List U}{vs:List V}(n:Nat),aX c ρ H us vs->aX c ρ H (us.take n) (vs.take n)
 |_,_,0,_=>by dsimp[List.take_zero];erw[aX.nil]
 |[],_,_+1,h=>by unfold aX at h;subst h;dsimp[List.take_nil];erw[aX.nil]
 |u::us,_,n+1,h=>by
  unfold aX at h;let#[v,r,e,h1,h2]:=h;subst e;erw[aX.cons h1 (aX.take n h2)]
theorem aX.drop:∀{us:List U}{vs:List V}(n:Nat),aX c ρ H us vs->aX c ρ H (us.drop n) (vs.drop n)
 |_,_,0,h=>h
 |[],_,_+1,h=>by unfold aX at h;subst h;dsimp[List.drop_nil];erw[aX.nil]
 |u::us,_,n+1,h=>by
  unfold aX at h;let#[v,r,e,h1,h2]:=h;subst e;erw[aX.drop n h2]
end
open PL (U SO bJ KU Spec bZ)
section
variable{X:Cx}{pZ:List (Addr×Obj)}{e:Expr}{es:List Expr}
theorem PE.imp(h:PE X e t)(q:∀σ H Q,t' σ H Q->t σ H Q):PE X e t':=λpZ s σ H Q I z=>h pZ s σ H Q I (q σ H Q z)
theorem PT.imp(h:PT X e t)(q:∀σ H Q,t' σ H Q->t σ H Q):PT X e t':=λpZ s σ H Q I z=>h pZ s σ H Q I (q σ H Q z)
end
structure ko(c:Ctx)(ρ:List Addr)(H:Hp)(env:PL.Env)(σ:St):Prop where
 len:env.length=σ.length
 at_:∀(i:Nat)u,env[i]?=some (some u)->∃v,σ[i]?=some (some v)/\Rep c ρ H u v
section
variable(c:Ctx)(ρ:List Addr)(H:Hp)
def QV(QU:KU)(Q:VK):Prop:=∀u S' v H' ρ',QU u S'->iA ρ H ρ' H'->cz c ρ' H' S'->Rep c ρ' H' u v->Q v H'
def QB(QU:Bool->bJ->Prop)(Q:Bool->Hp->Prop):Prop:=∀b S' H' ρ',QU b S'->iA ρ H ρ' H'->cz c ρ' H' S'->Q b H'
def QA(QU:List U->bJ->Prop)(Q:List V->Hp->Prop):Prop:=∀us S' vs H' ρ',QU us S'->iA ρ H ρ' H'->cz c ρ' H' S'->aX c ρ' H' us vs->Q vs H'
end
section
variable{c:Ctx}{ρ ρ':List Addr}{H H':Hp}{S:bJ}
theorem QV.later(q:QV c ρ H QU Q)(a:iA ρ H ρ' H'):QV c ρ' H' QU Q:=λu S' v H2 ρ2 h b R r=>q u S' v H2 ρ2 h (a.trans b) R r
theorem QB.later(q:QB c ρ H QU Q)(a:iA ρ H ρ' H'):QB c ρ' H' QU Q:=λu S' H2 ρ2 h b R=>q u S' H2 ρ2 h (a.trans b) R
theorem QV.now(q:QV c ρ H QU Q)(R:cz c ρ H S)(h:QU u S)(r:Rep c ρ H u v):Q v H:=q u S v H ρ h .refl R r
theorem ko.later(h:ko c ρ H env σ)(R:cz c ρ H S)(a:iA ρ H ρ' H'):ko c ρ' H' env σ:=
 #[h.len,λi u e=>by let#[v,h1,h2]:=h.at_ i u e;exact#[v,h1,h2.mono R a]]
end
section
variable(c:Ctx)(Γ:bZ)
def tE(x:PL.Ex):TE:=λσ H Q=>∃env ρ S QU,ko c ρ H env σ/\cz c ρ H S/\PL.WE Γ x env S QU/\QV c ρ H QU Q
def tT(x:PL.Tx):TT:=λσ H Q=>∃env ρ S QU,ko c ρ H env σ/\cz c ρ H S/\PL.WT Γ x env S QU/\QB c ρ H QU Q
def GL(x:PL.zT):TA:=λσ H Q=>∃env ρ S QU,ko c ρ H env σ/\cz c ρ H S/\PL.wA Γ x env S QU/\QA c ρ H QU Q
end
open PL (U SO bJ KU Spec bZ)
theorem p9(h:n<=16500000):n<=sizeLine:=aH h ⋯
section
variable{c:Ctx}{ρ:List Addr}{H:Hp}{S:bJ}
theorem eR:Rep c ρ H .bV v↔v=.bV:=by unfold Rep;erw[qJ]
theorem dZ:Rep c ρ H (.bl b) v↔v=.bl b:=by unfold Rep;erw[qJ]
theorem aP:Rep c ρ H (.int b) v↔v=.int b:=by unfold Rep;erw[qJ]
theorem bE:Rep c ρ H (.str b) v↔v=.str (tx b):=by unfold Rep;erw[qJ]
theorem dG:Rep c ρ H (.tup us) v↔∃a vs,v=.ref a/\H a=some (.tup vs)/\aX c ρ H us vs:=by unfold Rep;erw[qJ]
theorem d9:Rep c ρ H (.loc n) v↔∃a,v=.ref a/\ρ[n]?=some a:=by unfold Rep;erw[qJ]
theorem rJ:Rep c ρ H (.rm ns) v↔∃a,v=.ref a/\xA c.K H a (ns.map .int):=by unfold Rep;erw[qJ]
theorem uz:Rep c ρ H (.tab kvs) v↔∃a,v=.ref a/\P1 c.K c.w.params a (kvs.map λp=>(tx p.1,V.str (tx p.2))):=by unfold Rep;erw[qJ]
theorem cz.lst(R:cz c ρ H S)(h:S[n]?=some (.lst us))(r:Rep c ρ H (.loc n) v):∃a vs,v=.ref a/\ρ[n]?=some a/\H a=some (.lst vs)/\aX c ρ H us vs:=by
 let#[a,e,ha]:=d9.mp r;let#[vs,h1,h2]:=R.at_ n a _ ha h;exact#[a,vs,e,ha,h1,h2]
theorem cz.ins(R:cz c ρ H S)(h:S[n]?=some (.ins x fs))(r:Rep c ρ H (.loc n) v):∃a C dx vs,v=.ref a/\ρ[n]?=some a/\c.cls x=some C/\H a=some (.ins C dx vs)/\vs.map (·.1)=(fs.map (·.1)).map nm/\aX c ρ H (fs.map (·.2)) (vs.map (·.2)):=by
 let#[a,e,ha]:=d9.mp r;let#[C,dx,vs,h0,h1,h2,h3]:=R.at_ n a _ ha h;exact#[a,C,dx,vs,e,ha,h0,h1,h2,h3]
theorem QV.FO(q:QV c ρ H QU Q)(R:cz c ρ H S)(r:aX c ρ H us vs)(h:QU (.loc S.length) (S++[.lst us]))(hp:H p=none):Q (.ref p) (upd H p (.lst vs)):=by
 have st:=iA.alloc R hp (.lst vs);have R':cz c (ρ++[p]) (upd H p (.lst vs)) (S++[.lst us]):=R.alloc hp #[vs,cg,r.mono R st];rwa[q _ _ _ _ _ h st R' (d9.mpr #[p,rfl,?_])];rw[<-R.len,aw (aq _),bR];rfl
theorem QV.Ms(q:QV c ρ H QU Q)(R:cz c ρ H S)(r:aX c ρ H us vs)(h:QU (.tup us) S)(hp:H p=none):Q (.ref p) (upd H p (.tup vs)):=by
 have st:=iA.lay R hp (.tup vs);erw[q _ _ _ _ _ h st (R.lay hp _) (dG.mpr #[p,vs,rfl,cg,r.mono R st])]
end
def wB(c:Ctx)(o:PL.Fy):R2:=λx y H Q=>∃ux uy ρ S QU,Rep c ρ H ux x/\Rep c ρ H uy y/\cz c ρ H S/\PL.km o ux uy S QU/\QV c ρ H QU Q
noncomputable def Mt:PL.Fy->mW
 |.add=>.Add|.sub=>.Sub|.mul=>.Mult|.fdiv=>.FloorDiv|.mod=>.Mod|.band=>.BitAnd|.bor=>.BitOr|.shl=>.LShift|.shr=>.RShift
section
variable{X:Cx}{c:Ctx}
theorem Mu:gG X (cF .Add) (wB c .add):=by
 x_go;let#[ux,uy,ρ,S,QU,hx,hy,R,w,q]:=h;cases ux<;>first|exact aT w|skip
 .rename_i i
  let#[j,rfl,w]:=PL.eQ.mp w;erw[Pb pZ s σ H x y v u Q I rx ry #[i,j,aP.mp hx,aP.mp hy,q.now R w (aP.mpr rfl)]]
 .rename_i a
  let#[b,rfl,w]:=PL.pj.mp w;erw[Fw pZ s σ H x y v u Q I rx ry #[a,b,bE.mp hx,bE.mp hy,p9 w.1,q.now R w.2 (bE.mpr rfl)]]
 .rename_i us
  let#[ws,rfl,w]:=PL.Mc.mp w;let#[a,vs,e1,h1,r1]:=dG.mp hx;let#[b,zs,e2,h2,r2]:=dG.mp hy;let#[w1,w2]:=w;by_cases w0:us=[]
  .subst w0
   have ev:vs=[]:=fY (by rw[<-r1.len];rfl);subst ev;erw[Ie pZ s σ H x y v u Q I rx ry #[a,b,zs,e1,e2,mq.of h1,mq.of h2,by rw[<-e2];exact q.now R w2 hy]]
  rwa[LJ pZ s σ H x y v u Q I rx ry #[a,b,vs,zs,e1,e2,mq.of h1,mq.of h2,λe=>w0 ?_,p9 (by rw[<-r1.len,<-r2.len];erw[w1]),λe=>?_,λ_ p hp=>?_]]
  .erw[fY (by rw[r1.len,e];rfl)]
  .have e3:ws=[]:=fY (by rw[r2.len,e];rfl)
   subst e3;rw[cq] at w2;rw[<-e1]
   erw[q.now R w2 hx]
  .erw[q.Ms R (r1.app r2) w2 hp]
 .rename_i m
  let#[n,rfl,w]:=PL.i8.mp w;let#[us,h1,w1]:=PL.de.mp w;let#[ws,h2,w2,w3]:=PL.de.mp w1;let#[a,vs,e1,_,g1,r1]:=R.lst h1 hx;let#[b,zs,e2,_,g2,r2]:=R.lst h2 hy;erw[PK pZ s σ H x y v u Q I rx ry #[a,b,vs,zs,e1,e2,g1,g2,p9 (by rw[<-r1.len,<-r2.len];exact w2),λp hp=>q.FO R (r1.app r2) w3 hp]]
theorem Mv:gG X (cF .Sub) (wB c .sub):=by
 x_go;let#[ux,uy,ρ,S,QU,hx,hy,R,w,q]:=h;let#[i,j,rfl,rfl,w]:=PL.kY w;erw[Pc pZ s σ H x y v u Q I rx ry #[i,j,aP.mp hx,aP.mp hy,q.now R w (aP.mpr rfl)]]
theorem Mw:gG X (cF .Mult) (wB c .mul):=by
 x_go;let#[ux,uy,ρ,S,QU,hx,hy,R,w,q]:=h;cases ux<;>first|exact aT w|skip
 .rename_i i
  let#[j,rfl,w]:=PL.eQ.mp w;erw[Pd pZ s σ H x y v u Q I rx ry #[i,j,aP.mp hx,aP.mp hy,w.1,q.now R w.2 (aP.mpr rfl)]]
 .rename_i a
  let#[j,rfl,w]:=PL.eQ.mp w;let#[k,e,w0,w1,w2]:=w;subst e;let#[n,rfl]:=BI w0;exact Fx pZ s σ H x y v u Q I rx ry #[k,n,bE.mp hx,aP.mp hy,∅,q.now R (by simpa using w2) (bE.mpr rfl)]
theorem IA:gG X (cF .FloorDiv) (wB c .fdiv):=by
 x_go;let#[ux,uy,ρ,S,QU,hx,hy,R,w,q]:=h;let#[i,j,rfl,rfl,w]:=PL.kY w;erw[Lo pZ s σ H x y v u Q I rx ry #[i,j,aP.mp hx,aP.mp hy,w.1,q.now R w.2 (aP.mpr rfl)]]
theorem Mx:gG X (cF .Mod) (wB c .mod):=by
 x_go;let#[ux,uy,ρ,S,QU,hx,hy,R,w,q]:=h;let#[i,j,rfl,rfl,w]:=PL.kY w;erw[Pe pZ s σ H x y v u Q I rx ry #[i,j,aP.mp hx,aP.mp hy,w.1,q.now R w.2 (aP.mpr rfl)]]
theorem IB:gG X (cF .BitAnd) (wB c .band):=by
 x_go;let#[ux,uy,ρ,S,QU,hx,hy,R,w,q]:=h;let#[i,j,rfl,rfl,w]:=PL.kY w;erw[Ph pZ s σ H x y v u Q I rx ry #[i,j,aP.mp hx,aP.mp hy,by dsimp only;rw[uw w.1.1 w.1.2];exact q.now R w.2 (aP.mpr rfl)]]
theorem My:gG X (cF .BitOr) (wB c .bor):=by
 x_go;let#[ux,uy,ρ,S,QU,hx,hy,R,w,q]:=h;let#[i,j,rfl,rfl,w]:=PL.kY w;erw[T1 pZ s σ H x y v u Q I rx ry #[i,j,aP.mp hx,aP.mp hy,by dsimp only;rw[CN w.1.1 w.1.2];exact q.now R w.2 (aP.mpr rfl)]]
theorem Mz:gG X (cF .LShift) (wB c .shl):=by
 x_go;let#[ux,uy,ρ,S,QU,hx,hy,R,w,q]:=h;let#[i,j,rfl,rfl,w]:=PL.kY w;let#[#[w1,w2,w3,w4],w5]:=w;erw[Pf pZ s σ H x y v u Q I rx ry #[i,j,aP.mp hx,aP.mp hy,#[w3,∅,∅],q.now R w5 (aP.mpr rfl)]]
theorem MA:gG X (cF .RShift) (wB c .shr):=by
 x_go;let#[ux,uy,ρ,S,QU,hx,hy,R,w,q]:=h;let#[i,j,rfl,rfl,w]:=PL.kY w;erw[Pg pZ s σ H x y v u Q I rx ry #[i,j,aP.mp hx,aP.mp hy,w.1.2,q.now R w.2 (aP.mpr rfl)]]
def FP(c:Ctx)(o:PL.Fy):R2:=λx y H Q=>∃ux uy ρ S QU,Rep c ρ H ux x/\Rep c ρ H uy y/\cz c ρ H S/\PL.yI o ux uy S QU/\QV c ρ H QU Q
theorem IC:gG X (ie .Add) (FP c .add):=by
 x_go;let#[ux,uy,ρ,S,QU,hx,hy,R,w,q]:=h;cases ux<;>first|exact aT w|skip
 .rename_i i
  let#[j,rfl,w]:=PL.eQ.mp w;erw[Lp pZ s σ H x y v u Q I rx ry #[i,j,aP.mp hx,aP.mp hy,q.now R w (aP.mpr rfl)]]
 .rename_i a
  let#[b,rfl,w]:=PL.pj.mp w;erw[Cy pZ s σ H x y v u Q I rx ry #[a,b,bE.mp hx,bE.mp hy,p9 w.1,q.now R w.2 (bE.mpr rfl)]]
theorem ID:gG X (ie .Sub) (FP c .sub):=by
 x_go;let#[ux,uy,ρ,S,QU,hx,hy,R,w,q]:=h;cases ux<;>first|exact aT w|skip
 rename_i i;let#[j,rfl,w]:=PL.eQ.mp w;erw[Lq pZ s σ H x y v u Q I rx ry #[i,j,aP.mp hx,aP.mp hy,q.now R w (aP.mpr rfl)]]
theorem IE:gG X (ie .BitOr) (FP c .bor):=by
 x_go;let#[ux,uy,ρ,S,QU,hx,hy,R,w,q]:=h;cases ux<;>first|exact aT w|skip
 rename_i i;let#[j,rfl,w]:=PL.eQ.mp w;erw[Pj pZ s σ H x y v u Q I rx ry #[i,j,aP.mp hx,aP.mp hy,by dsimp only;rw[CN w.1.1 w.1.2];exact q.now R w.2 (aP.mpr rfl)]]
theorem MB:gG X (cF (Mt o)) (wB c o):=by
 cases o
 .erw[Mu]
 .erw[Mv]
 .erw[Mw]
 .erw[IA]
 .erw[Mx]
 .erw[IB]
 .erw[My]
 .erw[Mz]
 .erw[MA]
theorem yS(h:o=.add\/o=.sub\/o=.bor):gG X (ie (Mt o)) (FP c o):=by
 rcases h with rfl|rfl|rfl
 .erw[IC]
 .erw[ID]
 .erw[IE]
def uj(c:Ctx)(o:PL.N9):R2:=λx y H Q=>∃ux uy ρ S,Rep c ρ H ux x/\Rep c ρ H uy y/\cz c ρ H S/\PL.gO o ux uy S λb=>Q (.bl b) H
end
mutual
noncomputable def ju:U->Dv
 |.bV=>.bV
 |.bl b=>.bl b
 |.int i=>.int i
 |.str l=>.str l
 |.tup us=>.tup (fJ us)
 |_=>.bV
noncomputable def fJ:List U->List Dv
 |[]=>[]
 |u::us=>ju u::fJ us
end
section
variable{c:Ctx}{ρ:List Addr}{H:Hp}{S:bJ}
mutual
theorem pH:∀{u:U}{v:V},PL.vi u=true->Rep c ρ H u v->mT c.K H v (ju u)
 |.bV,_,_,h=>by unfold ju mT;erw[eR.mp h]
 |.bl _,_,_,h=>by unfold ju mT;erw[dZ.mp h]
 |.int _,_,_,h=>by unfold ju mT;erw[aP.mp h]
 |.str _,_,_,h=>by unfold ju mT;erw[bE.mp h]
 |.tup us,_,d,h=>by
  unfold ju mT;let#[a,vs,e,h1,h2]:=dG.mp h;exact#[a,vs,e,mq.of h1,vv (by unfold PL.vi at d;erw[d]) h2]
 |.loc _,_,d,_=>by cases d
 |.rm _,_,d,_=>by cases d
 |.tab _,_,d,_=>by cases d
theorem vv:∀{us:List U}{vs:List V},PL.kE us=true->aX c ρ H us vs->iB c.K H vs (fJ us)
 |[],_,_,h=>by unfold aX at h;subst h;unfold fJ iB;trivial
 |u::us,_,d,h=>by
  unfold aX at h;let#[v,r,e,h1,h2]:=h;subst e;unfold PL.kE at d;rw[aj] at d;unfold fJ iB;exact#[pH d.1 h1,vv d.2 h2]
end
end
mutual
theorem Qq:∀u:U,PL.vi u=true->(ju u).depth=PL.dep u
 |.bV,_=>by simp[ju,Dv.depth,PL.dep]
 |.bl _,_=>by simp[ju,Dv.depth,PL.dep]
 |.int _,_=>by simp[ju,Dv.depth,PL.dep]
 |.str _,_=>by simp[ju,Dv.depth,PL.dep]
 |.tup us,d=>by
  unfold ju Dv.depth PL.dep;rw[rK us (by unfold PL.vi at d;erw[d])]
 |.loc _,d=>by cases d
 |.rm _,d=>by cases d
 |.tab _,d=>by cases d
theorem rK:∀us:List U,PL.kE us=true->Dv.jF (fJ us)=PL.oj us
 |[],_=>by simp[fJ,Dv.jF,PL.oj]
 |u::us,d=>by
  unfold PL.kE at d;rw[aj] at d;unfold fJ Dv.jF PL.oj;rw[Qq u d.1,rK us d.2]
end
mutual
theorem D7:∀x y:U,PL.vi x=true->PL.vi y=true->PL.nv x y=v9 (ju x) (ju y)
 |.tup us,y,d,d'=>by
  cases y with
  |tup ws=>erw[IF us ws d d']
  |_=>first|rfl|cases d'
 |.loc _,_,d,_|.rm _,_,d,_|.tab _,_,d,_=>by cases d
 |.bV,y,_,d|.bl _,y,_,d|.int _,y,_,d|.str _,y,_,d=>by cases y<;>first|rfl|cases d
theorem IF:∀xs ys:List U,PL.kE xs=true->PL.kE ys=true->PL.wy xs ys=nh (fJ xs) (fJ ys)
 |[],y,_,_=>by cases y<;>rfl
 |_::_,[],_,_=>rfl
 |x::xs,y::ys,d,d'=>by
  have d:=(aj _ _).mp d;have d':=(aj _ _).mp d'
  change (PL.nv x y&&PL.wy xs ys)=(v9 (ju x) (ju y)&&nh (fJ xs) (fJ ys))
  rw[D7 x y d.1 d'.1,IF xs ys d.2 d'.2]
end
theorem Qr:decide (V.str (tx a)=V.str (tx b))=(a==b):=by
 rw[dw]
 simp[DP]
theorem D8(t:PL.H8 x y=true)(nt:PL.Ia x=true)(hx:Rep c ρ H x v)(hy:Rep c ρ H y w):Pl v w=true/\decide (v=w)=PL.nv x y:=by
 cases x<;>first|exact ff nt|exact ff t| (cases y<;>first|exact ff t| ((first|rw[eR.mp hx]|rw[dZ.mp hx]|rw[aP.mp hx]|rw[bE.mp hx]);(first|rw[eR.mp hy]|rw[dZ.mp hy]|rw[aP.mp hy]|rw[bE.mp hy]);first|exact#[rfl,rfl]|exact#[rfl,Cd]|exact#[rfl,yq]|exact#[rfl,Qr]))
section
variable{X:Cx}{c:Ctx}
theorem Qs(hK:X.K=c.K)(hu:X.A.units+200<eL):gG X (bF .Eq) (uj c .eq):=by
 x_go;let#[ux,uy,ρ,S,hx,hy,R,w0]:=h;have go:(PL.wz ux uy λb=>Q (.bl b) H)->wpAny (bc X.prog X.w) X.A (bF .Eq v u) (EP X pZ σ Q) X.xe s:=by
  intro hh;let#[#[t,d,d',z],w]:=hh;by_cases nt:PL.Ia ux=true
  .let#[e1,e2]:=D8 t nt hx hy
   erw[T2 pZ s σ H x y v u Q I rx ry #[e1,by rw[e2];exact w]]
  .cases ux<;>first|exact absurd rfl nt|skip
   rename_i us;have g:=pH d hx;unfold ju at g;rwa[P2 hu pZ s σ H x y v u Q I rx ry #[fJ us,ju uy,hK▸g,hK▸pH d' hy,?_,?_]]
   .rw[rK us (by unfold PL.vi at d;erw[d])];unfold PL.dep at z;omega
   .have:=D7 (.tup us) uy d d'
    rw[show ju (.tup us)= .tup (fJ us) from by simp[ju]] at this;rw[<-this];erw[w]
 erw[go w0]
theorem Qt(hK:X.K=c.K)(hu:X.A.units+200<eL):gG X (bF .NotEq) (uj c .ne):=by
 x_go;let#[ux,uy,ρ,S,hx,hy,R,w0]:=h;let#[nt,#[t,d,d',z],w]:=w0;by_cases nt1:PL.Ia ux=true
 .let#[e1,e2]:=D8 t nt1 hx hy
  erw[T3 pZ s σ H x y v u Q I rx ry #[e1,by rw[e2];exact w]]
 .cases ux<;>first|exact absurd rfl nt1|skip
  cases uy<;>first|exact ff nt|skip
  rename_i us us';have g:=pH d hx;have g':=pH d' hy;unfold ju at g g';rwa[P7 hu pZ s σ H x y v u Q I rx ry #[fJ us,fJ us',hK▸g,hK▸g',?_,?_]]
  .rw[rK us (by unfold PL.vi at d;erw[d])];unfold PL.dep at z;omega
  .have:=D7 (.tup us) (.tup us') d d'
   rw[show ju (.tup us)= .tup (fJ us) from by simp[ju],show ju (.tup us')= .tup (fJ us') from by simp[ju]] at this;rw[show nh (fJ us) (fJ us')=v9 (.tup (fJ us)) (.tup (fJ us')) from rfl,<-this];erw[w]
end
open PL (U SO bJ KU Spec bZ)
section
variable{X:Cx}{c:Ctx}
theorem Qu:gG X (bF .Lt) (uj c .lt):=by
 x_go;let#[ux,uy,ρ,S,hx,hy,R,w]:=h;let#[i,j,rfl,rfl,w]:=PL.kY w;erw[T4 pZ s σ H x y v u Q I rx ry #[_,_,aP.mp hx,aP.mp hy,w]]
theorem Qv:gG X (bF .LtE) (uj c .le):=by
 x_go;let#[ux,uy,ρ,S,hx,hy,R,w]:=h;let#[i,j,rfl,rfl,w]:=PL.kY w;erw[T5 pZ s σ H x y v u Q I rx ry #[_,_,aP.mp hx,aP.mp hy,w]]
theorem Qw:gG X (bF .Gt) (uj c .gt):=by
 x_go;let#[ux,uy,ρ,S,hx,hy,R,w]:=h;let#[i,j,rfl,rfl,w]:=PL.kY w;erw[T6 pZ s σ H x y v u Q I rx ry #[_,_,aP.mp hx,aP.mp hy,w]]
theorem Qx:gG X (bF .GtE) (uj c .ge):=by
 x_go;let#[ux,uy,ρ,S,hx,hy,R,w]:=h;let#[i,j,rfl,rfl,w]:=PL.kY w;erw[T7 pZ s σ H x y v u Q I rx ry #[_,_,aP.mp hx,aP.mp hy,w]]
theorem xB(h:Rep c ρ H u v):decide (v=V.bV)=PL.kz u:=by
 cases u with
 |bV=>rw[eR.mp h];rfl
 |bl b=>rw[dZ.mp h];rfl
 |int i=>rw[aP.mp h];rfl
 |str l=>rw[bE.mp h];rfl
 |tup us=>let#[a,vs,e,_]:=dG.mp h;rw[e];rfl
 |loc n=>let#[a,e,_]:=d9.mp h;rw[e];rfl
 |rm ns=>let#[a,e,_]:=rJ.mp h;rw[e];rfl
 |tab kvs=>let#[a,e,_]:=uz.mp h;rw[e];rfl
theorem Qy:gG X (bF .Is) (uj c .L8):=by
 x_go;let#[ux,uy,ρ,S,hx,hy,R,w]:=h;have e:uy=.bV:=by cases uy<;>first|rfl|exact aT w
 subst e;rw[PL.Ys] at w;erw[Pm pZ s σ H x y v u Q I rx ry #[eR.mp hy,by rw[xB hx];exact w]]
theorem IG:gG X (bF .IsNot) (uj c .yF):=by
 x_go;let#[ux,uy,ρ,S,hx,hy,R,w]:=h;have e:uy=.bV:=by cases uy<;>first|rfl|exact aT w
 subst e;rw[PL.Ql] at w;erw[Lr pZ s σ H x y v u Q I rx ry #[eR.mp hy,by rw[xB hx];exact w]]
theorem oQ(f:PL.flat u=true)(h:Rep c ρ H u v):pY v=true:=by
 cases u<;>first|exact ff f| (rw[eR.mp h];rfl)| (rw[dZ.mp h];rfl)| (rw[aP.mp h];rfl)| (rw[bE.mp h];rfl)
theorem MC(f:PL.flat u=true)(f':PL.flat u'=true)(h:Rep c ρ H u v)(h':Rep c ρ H u' v'):LL v v'=PL.nv u u':=by
 cases u<;>first|exact ff f| (cases u'<;>first|exact ff f'| ((first|rw[eR.mp h]|rw[dZ.mp h]|rw[aP.mp h]|rw[bE.mp h]);(first|rw[eR.mp h']|rw[dZ.mp h']|rw[aP.mp h']|rw[bE.mp h']);first|rfl|exact dw.mpr (by rename_i a b;show(tx a==tx b)=true↔(a==b)=true;simp[N8])))
theorem rL(f:PL.flat u=true)(h:Rep c ρ H u v):∀{us:List U}{vs:List V},us.all PL.flat=true->aX c ρ H us vs->vs.all pY=true/\W9 v vs=us.any λy=>PL.nv y u
 |[],_,_,r=>by unfold aX at r;subst r;exact#[rfl,rfl]
 |w::us,_,a,r=>by
  unfold aX at r;let#[x,t,e,h1,h2]:=r;subst e;rw[bQ,aj] at a;let#[z1,z2]:=rL f h a.2 h2;refine#[by rw[bQ,oQ a.1 h1,z1];rfl,?_];unfold W9 at z2 ⊢;rw[cJ,cJ,z2,MC a.1 f h1 h]
theorem lookup_tab{kvs:List (List Nat×List Nat)}{k v:List Nat}(h:kvs.lookup k=some v):(kvs.map λp=>(tx p.1,V.str (tx p.2))).lookup (tx k)=some (V.str (tx v)):=by
 induction kvs with
 |nil=>cases h
 |cons p r ih=>
  let#[a,b]:=p;rw[ay,aO]
  rw[aO] at h;by_cases e:k=a
  .subst e
   simp at h ⊢;erw[h]
  .have e2:(k==a)=false:=by simp[e]
   have e3:(tx k==tx a)=false:=by
    rw[beq_eq_false_iff_ne];erw[λz=>e (qv z)]
   rw[e2] at h;dsimp[e3];erw[ih h]
theorem AX{kvs:List (List Nat×List Nat)}{k:List Nat}(h:kvs.lookup k=none):(kvs.map λp=>(tx p.1,V.str (tx p.2))).lookup (tx k)=none:=by
 induction kvs with
 |nil=>rfl
 |cons p r ih=>
  rw[aO] at h;rw[ay,aO]
  cases z:k==p.1 with
  |true=>rw[z] at h;cases h
  |false=>
   rw[z] at h;have:(tx k==tx p.1)=false:=by
    rw[beq_eq_false_iff_ne] at z ⊢;erw[λe=>z (qv e)]
   rw[this]
   erw[ih h]
theorem II(hu:PL.vi u=true):∀{us:List U},PL.kE us=true->((fJ us).any λe=>v9 e (ju u))=us.any λy=>PL.nv y u
 |[],_=>by unfold fJ;rfl
 |w::us,d=>by
  unfold PL.kE at d;rw[aj] at d;unfold fJ;rw[cJ,cJ,II hu d.2,D7 w u d.1 hu]
theorem Qz(hK:X.K=c.K)(hP:X.w.params=c.w.params):gG X (bF .In) (uj c .isin):=by
 x_go;let#[ux,uy,ρ,S,hx,hy,R,w]:=h;cases uy with
 |str b=>
  let#[a,rfl,w]:=PL.pj.mp w;erw[FA pZ s σ H x y v u Q I rx ry #[a,b,bE.mp hx,bE.mp hy,w]]
 |tab kvs=>
  let#[k,rfl,w]:=PL.pj.mp w;let#[a,e,h1]:=uz.mp hy;have w:Q (.bl (kvs.lookup k).isSome) H:=w;have ex:=h1.ex;rw[<-hK,<-hP] at ex;cases z:kvs.lookup k with
  |some t=>
   let#[u',_,e2]:=h1.at_ _ _ (lookup_tab z);exact Ic pZ s σ H x y v u Q I rx ry #[a,_,some u',bE.mp hx,e,ex,h1.ns,hK▸e2,by rw[z] at w;erw[w]]
  |none=>
   have e2:=h1.no _ (AX z);exact Ic pZ s σ H x y v u Q I rx ry #[a,_,none,bE.mp hx,e,ex,h1.ns,hK▸e2,by rw[z] at w;erw[w]]
 |tup us=>
  rw[PL.Qi] at w;let#[#[f,a],w]:=w;let#[p,vs,e,h1,h2]:=dG.mp hy;let#[z1,z2]:=rL f hx a h2;erw[xk pZ s σ H x y v u Q I rx ry #[p,vs,e,.inr (mq.of h1),oQ f hx,z1,by rw[z2];exact w]]
 |loc n=>
  rw[PL.Qk] at w;let#[us,g,#[f,a],w]:=PL.de.mp w;let#[p,vs,e,_,h1,h2]:=R.lst g hy;let#[z1,z2]:=rL f hx a h2;erw[xk pZ s σ H x y v u Q I rx ry #[p,vs,e,.inl (iU.of h1),oQ f hx,z1,by rw[z2];exact w]]
 |_=>erw[aT w]
theorem FQ(hK:X.K=c.K)(hu:X.A.units+200<eL):gG X (bF .NotIn) (uj c .mF):=by
 x_go;let#[ux,uy,ρ,S,hx,hy,R,w]:=h;cases uy with
 |str b=>
  let#[a,rfl,w]:=PL.pj.mp w;erw[yK pZ s σ H x y v u Q I rx ry #[a,b,bE.mp hx,bE.mp hy,w]]
 |tup us=>
  rw[PL.Qj] at w;let#[#[f,a],w]:=w;let#[p,vs,e,h1,h2]:=dG.mp hy;let#[z1,z2]:=rL f hx a h2;erw[rg pZ s σ H x y v u Q I rx ry #[p,vs,e,.inr (mq.of h1),oQ f hx,z1,by rw[z2];exact w]]
 |loc n=>
  by_cases ht:∃ts,ux=.tup ts
  .let#[ts,rfl]:=ht
   rw[PL.Mm] at w;let#[us,g,#[d1,d2,d3],w]:=PL.de.mp w;let#[p,vs,e,_,h1,h2]:=R.lst g hy;have dt:PL.vi (.tup ts)=true:=by unfold PL.vi;erw[d1]
   rwa[FH hu pZ s σ H x y v u Q I rx ry #[p,vs,fJ us,ju (.tup ts),e,iU.of h1,hK▸vv d2 h2,hK▸pH dt hx,by rw[rK us d2];erw[d3],?_]];rw[II dt d2]
   erw[w]
  have w:PL.getL S[n]? λus=>PL.rn ux us λb=>Q (.bl !b) H:=by
   cases ux<;>first|exact w|exact absurd #[_,rfl] ht
  let#[us,g,#[f,a],w]:=PL.de.mp w;let#[p,vs,e,_,h1,h2]:=R.lst g hy;let#[z1,z2]:=rL f hx a h2;erw[rg pZ s σ H x y v u Q I rx ry #[p,vs,e,.inl (iU.of h1),oQ f hx,z1,by rw[z2];exact w]]
 |_=>erw[aT w]
def vw:U->Key
 |.int i=>.inl i
 |.str l=>.inr (some (tx l))
 |_=>.inr none
section
variable{ρ:List Addr}{H:Hp}{S:bJ}
theorem j6(hk:PL.nq u=true)(r:Rep c ρ H u v):v=kV (vw u):=by
 cases u<;>first|exact ff hk|skip
 .erw[eR.mp r]
 .erw[aP.mp r]
 .erw[bE.mp r]
theorem MD(r:Rep c ρ H a (kV b)):PL.nq a=true/\vw a=b:=by
 have nr:∀p,kV b≠V.ref p:=λp=>by rcases b with i|_|x<;>exact λe=>nomatch e
 cases a<;>unfold Rep at r
 .rcases b with i|_|x<;>cases r;exact#[rfl,rfl]
 .rcases b with i|_|x<;>cases r
 .rcases b with i|_|x<;>cases r;exact#[rfl,rfl]
 .rcases b with i|_|x<;>cases r;exact#[rfl,rfl]
 .let#[p,_,e,_]:=r;erw[absurd e (nr p)]
 .let#[p,e,_]:=r;erw[absurd e (nr p)]
 .let#[p,e,_]:=r;erw[absurd e (nr p)]
 .let#[p,e,_]:=r;erw[absurd e (nr p)]
theorem D9(ha:PL.nq a=true)(hu:PL.nq u=true):PL.SR a u=true↔vw a=vw u:=by
 cases a<;>first|exact ff ha| (cases u<;>first|exact ff hu|skip)
 .exact#[λ_=>rfl,λ_=>rfl]
 .exact#[λe=>ff e,λe=>by cases e]
 .exact#[λe=>ff e,λe=>by cases e]
 .exact#[λe=>ff e,λe=>by cases e]
 .exact#[λe=>congrArg wH (eq_of_beq e),λe=>beq_iff_eq.mpr (zW e)]
 .exact#[λe=>ff e,λe=>by cases e]
 .exact#[λe=>ff e,λe=>by cases e]
 .exact#[λe=>ff e,λe=>by cases e]
 .exact#[λe=>by rw[eq_of_beq e],λe=>beq_iff_eq.mpr (qv (aF (tB e)))]
theorem rM(hu:PL.nq u=true):∀{kvs:List (U×U)}{vs:List (Key×V)},vs.length=kvs.length->aX c ρ H (kvs.map (·.1)) (vs.map λp=>kV p.1)->aX c ρ H (kvs.map (·.2)) (vs.map (·.2)) ->
  (PL.vh u kvs=none/\js vs (vw u)=none)\/∃u' v',PL.vh u kvs=some u'/\js vs (vw u)=some v'/\Rep c ρ H u' v':=by
 intro kvs;induction kvs with
 |nil=>intro vs hl _ _;cases vs with|nil=>erw[.inl #[rfl,rfl]]|cons _ _=>cases hl
 |cons p ps ih=>
  intro vs hl h1 h2;let#[a,w]:=p;cases vs with|nil=>cases hl|cons p vs=>?_
  let#[b,y]:=p;dsimp[ay] at h1 h2;unfold aX at h1 h2;let#[v1,r1,e1,p1,q1]:=h1;let#[v2,r2,e2,p2,q2]:=h2;cases e1;cases e2;let#[ka,rfl]:=MD p1;unfold PL.vh;by_cases ek:PL.SR a u=true
  .rw[if_pos ek,kW ((D9 ka hu).mp ek)]
   erw[.inr #[w,y,rfl,rfl,p2]]
  .rw[if_neg ek,kX λz=>ek ((D9 ka hu).mpr z)]
   erw[ih (mR hl) q1 q2]
theorem cz.dd(R:cz c ρ H S)(e:S[n]?=some (.eI kvs)\/S[n]?=some (.vf kvs))(r:Rep c ρ H (.loc n) v):
  ∃a vs,v=.ref a/\ρ[n]?=some a/\Rd H a (.dK vs)/\vs.length=kvs.length/\aX c ρ H (kvs.map (·.1)) (vs.map λp=>kV p.1)/\aX c ρ H (kvs.map (·.2)) (vs.map (·.2)):=by
 let#[a,ev,ha]:=d9.mp r;rcases e with e|e
 .let#[vs,h1,h2]:=R.at_ n a _ ha e
  exact#[a,vs,ev,ha,.inl h1,h2]
 .let#[o,vs,h1,h2]:=R.at_ n a _ ha e
  exact#[a,vs,ev,ha,.inr #[o,h1],h2]
end
theorem IJ(hu:X.A.units+200<eL):gG X (bF .NotIn) (uj c .CC):=by
 x_go;let#[ux,uy,ρ,S,hx,hy,R,w]:=h;let#[n,rfl,w]:=PL.i8.mp (show PL.uu _ _ from w);let#[kvs,e,hk,w]:=PL.iW.mp w;let#[a,vs,rfl,_,g1,g2,g3,g4]:=R.dd e hy;cases (show u=bj a from ry);have g:sI H a x (js vs (vw ux)):=.inl #[vs,vw ux,g1,j6 hk hx,rfl];rwa[LQ ∅ I g rx λs' I'=>#[.bl _,H,I',rfl,?_]]
 rcases rM hk g2 g3 g4 with⟨l1,l2⟩|⟨u',v',l1,l2,_⟩<;>rw[l1] at w<;>rw[l2]<;>exact w
noncomputable def Ea:PL.N9->K4
 |.eq=>.Eq|.ne=>.NotEq|.lt=>.Lt|.le=>.LtE|.gt=>.Gt|.ge=>.GtE|.isin=>.In|.mF=>.NotIn|.L8=>.Is|.yF=>.IsNot|.CC=>.NotIn
theorem uA(hK:X.K=c.K)(hP:X.w.params=c.w.params)(hu:X.A.units+200<eL)(o:PL.N9):gG X (bF (Ea o)) (uj c o):=by
 cases o
 .erw[Qs hK hu]
 .erw[Qt hK hu]
 .erw[Qu]
 .erw[Qv]
 .erw[Qw]
 .erw[Qx]
 .erw[Qz hK hP]
 .erw[FQ hK hu]
 .erw[Qy]
 .erw[IG]
 .erw[IJ hu]
def Zr(c:Ctx):R2:=λx y H Q=>∃ux uy ρ S,Rep c ρ H ux x/\Rep c ρ H uy y/\cz c ρ H S/\PL.KQ ux uy S λu=>∀v,Rep c ρ H u v->Q v H
theorem CV(r:aX c ρ H us vs)(h:PL.sP us i=some u):∃v,PC vs i=some v/\Rep c ρ H u v:=by
 unfold PL.sP at h;unfold PC;have e:PB vs.length i=PL.P5 us.length i:=by rw[r.len];rfl
 rw[e]
 cases q:PL.P5 us.length i with
 |none=>rw[q] at h;cases h
 |some j=>
  rw[q] at h;erw[r.get h]
theorem xC:∀{ns:List Int},aX c ρ H (ns.map .int) (ns.map V.int)
 |[]=>aX.nil
 |n::ns=>aX.cons (aP.mpr rfl) xC
theorem QC(hK:X.K=c.K)(hP:X.w.params=c.w.params):SJ X (Zr c):=by
 intro value slice pZ s σ H x y v u Q I rx ry h hs;let#[ux,uy,ρ,S,hx,hy,R,w]:=h;cases ux<;>first|exact aT w|skip
 .rename_i l
  let#[i,rfl,w]:=PL.eQ.mp w;let#[w1,w2]:=w;let#[k,g,w3]:=PL.i7.mp w2;erw[PF value slice pZ s σ H x y v u Q I rx ry #[_,i,k,bE.mp hx,aP.mp hy,p9 (by rw[dv];exact w1),g,w3 _ (bE.mpr rfl)] hs]
 .rename_i us
  let#[i,rfl,w]:=PL.eQ.mp w;let#[w1,w2]:=w;let#[k,g,w3]:=PL.i7.mp w2;let#[p,vs,e,h1,h2]:=dG.mp hx;let#[z,e2,r2]:=CV h2 g;erw[PD value slice pZ s σ H x y v u Q I rx ry #[p,vs,i,z,e,aP.mp hy,mq.of h1,e2,w3 _ r2] hs]
 .rename_i n
  let#[i,rfl,w]:=PL.eQ.mp w;let#[us,g0,w1]:=PL.de.mp w;let#[k,g,w3]:=PL.i7.mp w1;let#[p,vs,e,_,h1,h2]:=R.lst g0 hx;let#[z,e2,r2]:=CV h2 g;erw[DM value slice pZ s σ H x y v u Q I rx ry #[p,vs,i,z,e,aP.mp hy,iU.of h1,e2,w3 _ r2] hs]
 .rename_i ns
  let#[i,rfl,w]:=PL.eQ.mp w;let#[w1,w2]:=w;let#[k,g,w3]:=PL.i7.mp w2;let#[p,e,h1]:=rJ.mp hx;have g':PL.sP (ns.map U.int) i=some (.int k):=by
   unfold PL.sP at g ⊢;rw[ak]
   cases q:PL.P5 ns.length i with
   |none=>rw[q] at g;erw[nn g]
   |some j=>rw[q] at g;simp at g ⊢;erw[g]
  let#[z,e2,r2]:=CV (c:=c) (ρ:=ρ) (H:=H) xC g';erw[DM value slice pZ s σ H x y v u Q I rx ry #[p,_,i,z,e,aP.mp hy,hK▸h1.sq,e2,w3 _ r2] hs]
 .rename_i kvs
  let#[k,rfl,w]:=PL.pj.mp w;let#[z,g,w3]:=PL.i7.mp w;let#[a,e,h1]:=uz.mp hx;erw[yE value slice pZ s σ H x y v u Q I rx ry #[a,_,_,_,e,bE.mp hy,by rw[hK,hP];exact h1,lookup_tab g,w3 _ (bE.mpr rfl)] hs]
def Zs(c:Ctx):V->Option Int->Option Int->Hp->VK->Prop:=λx lo hi H Q=>∃ux ρ S QU,Rep c ρ H ux x/\cz c ρ H S/\PL.SS ux lo hi S QU/\QV c ρ H QU Q
theorem IK{lo:Option Int}{n:Nat}(h:∀i,lo=some i->0<=i):HT.jr n 0 lo=min (lo.getD 0).toNat n:=by
 cases lo with
 |none=>simp[HT.jr]
 |some i=>have:=h i rfl;dsimp[HT.jr,fE];rw[if_neg ∅]
theorem QD(h:∀i,hi=some i->0<=i):HT.jr n n hi=min (hi.getD n).toNat n:=by
 cases hi with
 |none=>simp[HT.jr]
 |some i=>have:=h i rfl;dsimp[HT.jr,fE];rw[if_neg ∅]
theorem Eb{ρ:List Addr}{H:Hp}{us:List U}{vs:List V}{lo hi:Option Int}(h1:∀i,lo=some i->0<=i)(h2:∀i,hi=some i->0<=i)(r:aX c ρ H us vs):aX c ρ H (PL.sQ us lo hi) (Av vs lo hi):=by
 unfold PL.sQ Av;rw[IK h1,QD h2,<-r.len]
 exact(r.drop _).take _
theorem QE(hK:X.K=c.K):Ue X (Zs c):=by
 intro pZ s σ H x v vl vu lo hi sl Q I rx hs pl pu h;let#[ux,ρ,S,QU,hx,R,#[#[b1,b2],w],q]:=h;cases ux<;>try exact aT w
 .rename_i l
  let#[w1,w2]:=w;rwa[Ux pZ s σ H x v vl vu lo hi sl Q I rx hs pl pu #[l,min (lo.getD 0).toNat l.length,min (hi.getD l.length).toNat l.length,bE.mp hx,p9 w1,?_,?_,q.now R w2 (bE.mpr rfl)]]
  .cases lo with
   |none=>erw[.inl #[rfl,by simp]]
   |some a=>erw[.inr #[a,rfl,b1 a rfl,rfl]]
  .cases hi with
   |none=>erw[.inl #[rfl,by simp]]
   |some a=>erw[.inr #[a,rfl,b2 a rfl,rfl]]
 .rename_i us
  let#[#[w1,w0,w3],w2]:=w;let#[a,vs,e,g1,g2]:=dG.mp hx;rwa[Pz pZ s σ H x v vl vu lo hi sl Q I rx hs pl pu #[a,vs,e,mq.of g1,λz=>?_,λp hp=>q.Ms R (Eb b1 b2 g2) w2 hp]];have z1:=z.1;rw[IK b1,<-g2.len] at z1;have:0<us.length:=E5.mpr w0;omega
 .rename_i n
  let#[us,g0,w1]:=PL.de.mp w;let#[a,vs,e,_,g1,g2]:=R.lst g0 hx;erw[LK pZ s σ H x v vl vu lo hi sl Q I rx hs pl pu #[a,vs,e,iU.of g1,λp hp=>q.FO R (Eb b1 b2 g2) w1 hp]]
end
open PL (U SO bJ KU Spec bZ)
def qa(c:Ctx)(b:PL.Uz):List V->Hp->VK->Prop:=λxs H Q=>∃us ρ S QU,aX c ρ H us xs/\cz c ρ H S/\PL.rq b us S QU/\QV c ρ H QU Q
def tP(c:Ctx)(m:PL.P4):V->List V->Hp->VK->Prop:=λx xs H Q=>∃u us ρ S QU,Rep c ρ H u x/\aX c ρ H us xs/\cz c ρ H S/\PL.rA m u us S QU/\QV c ρ H QU Q
section
variable{X:Cx}{c:Ctx}{ρ:List Addr}{H:Hp}{S:bJ}
theorem kA(h:aX c ρ H [u] vs):∃v,vs=[v]/\Rep c ρ H u v:=by
 unfold aX at h;let#[v,r,e,h1,h2]:=h;unfold aX at h2;subst h2;exact#[v,e,h1]
theorem Ec(h:aX c ρ H [u,w] vs):∃v z,vs=[v,z]/\Rep c ρ H u v/\Rep c ρ H w z:=by
 unfold aX at h;let#[v,r,e,h1,h2]:=h;let#[z,e2,h3]:=kA h2;subst e2;exact#[v,z,e,h1,h3]
theorem IL(hK:X.K=c.K)(R:cz c ρ H S)(r:Rep c ρ H u v)(h:PL.mH S u=some n)(hn:n<=16500000):T8 X.K v H n\/(∃a kvs,v=.ref a/\H a=some (.dK kvs)/\n=kvs.length)\/∃a kvs,v=.ref a/\H a=some (.dP kvs)/\n=kvs.length:=by
 cases u with
 |str l=>rw[bE.mp r];obtain rfl:=aF h;erw[.inl #[p9 (by rw[dv];exact hn),(dv l).symm]]
 |tup us=>
  let#[a,vs,e,h1,h2]:=dG.mp r;obtain rfl:=aF h;rw[e]
  erw[.inl (.inr #[vs,mq.of h1,h2.len])]
 |rm ns=>
  let#[a,e,h1]:=rJ.mp r;obtain rfl:=aF h;rw[e]
  erw[.inl (.inl #[_,hK▸h1.sq,by simp])]
 |loc m=>
  unfold PL.mH at h;cases q:S[m]? with
  |none=>dsimp[q] at h;erw[nn h]
  |some o=>
   dsimp[q] at h;cases o with
   |lst us=>
    let#[a,vs,e,_,h1,h2]:=R.lst q r;simp at h;subst h;rw[e]
    erw[.inl (.inl #[vs,iU.of h1,h2.len])]
   |eI kvs=>
    let#[a,e,ha]:=d9.mp r;let#[vs,h1,h2,_]:=R.at_ m a _ ha q;simp at h;subst h;erw[.inr (.inl #[a,vs,e,h1,h2.symm])]
   |xt kvs=>
    let#[a,e,ha]:=d9.mp r;let#[vs,h1,h2,_]:=R.at_ m a _ ha q;simp at h;subst h;exact .inr (.inr #[a,vs,e,h1,by have:=congrArg cG h2;simpa using this.symm])
   |ins x fs=>erw[nn h]
   |vf x=>erw[nn h]
   |ur x=>erw[nn h]
 |_=>erw[nn h]
theorem ME(hK:X.K=c.K):gv X (.builtin "len") (qa c .len):=by
 w_up;let#[ux,ρ,S,QU,hx,R,w,q]:=h
 match ux,w with
 |[u],w=>
  let#[n,e,w1,w2]:=PL.i7.mp (show PL.opt _ _ from w);let#[v,e1,r1]:=kA hx;rcases IL hK R r1 e w1 with l|⟨a,kvs,e2,g,e3⟩|⟨a,kvs,e2,g,e3⟩
  .erw[Hw pZ s σ H xs us Q I r #[v,n,e1,l,q.now R w2 (aP.mpr rfl)]]
  .erw[Fu pZ s σ H xs us Q I r #[a,kvs,by rw[e1,e2],g,by rw[<-e3];exact q.now R w2 (aP.mpr rfl)]]
  .erw[FI pZ s σ H xs us Q I r #[a,kvs,by rw[e1,e2],g,by rw[<-e3];exact q.now R w2 (aP.mpr rfl)]]
theorem FR(hK:X.K=c.K):gv X (.type "tuple") (qa c .tuple):=by
 w_up;let#[ux,ρ,S,QU,hx,R,w,q]:=h
 match ux,w with
 |[.loc n],w=>
  let#[us',e,w1]:=PL.de.mp (show PL.getL _ _ from w);let#[v,e1,r1]:=kA hx;let#[a,vs,e2,_,g1,g2]:=R.lst e r1;erw[wx pZ s σ H xs us Q I r #[a,vs,by rw[e1,e2],.inl #[iU.of g1,λl hl=>q.Ms R g2 w1 hl]]]
theorem IM(hK:X.K=c.K):gv X (.type "list") (qa c .list):=by
 w_up;let#[ux,ρ,S,QU,hx,R,w,q]:=h
 match ux,w with
 |[.loc n],w=>
  let#[us',e,w1]:=PL.de.mp (show PL.getL _ _ from w);let#[v,e1,r1]:=kA hx;let#[a,vs,e2,_,g1,g2]:=R.lst e r1;erw[rh pZ s σ H xs us Q I r #[a,vs,by rw[e1,e2],.inl (iU.of g1),λl hl=>q.FO R g2 w1 hl]]
 |[.tup us'],w=>
  let#[v,e1,r1]:=kA hx;let#[a,vs,e2,g1,g2]:=dG.mp r1;erw[rh pZ s σ H xs us Q I r #[a,vs,by rw[e1,e2],.inr (mq.of g1),λl hl=>q.FO R g2 w.2 hl]]
theorem qA:∀{bs:List Bool}{vs:List V},aX c ρ H (bs.map .bl) vs->vs=bs.map V.bl
 |[],_,h=>by unfold aX at h;erw[h]
 |t::ts,_,h=>by
  rw[ay] at h;unfold aX at h;let#[v,r,e,h1,h2]:=h;rw[e,dZ.mp h1,qA h2];rfl
theorem kZ:∀{bs:List Int}{vs:List V},aX c ρ H (bs.map .int) vs->vs=bs.map V.int
 |[],_,h=>by unfold aX at h;erw[h]
 |t::ts,_,h=>by
  rw[ay] at h;unfold aX at h;let#[v,r,e,h1,h2]:=h;rw[e,aP.mp h1,kZ h2];rfl
theorem IP(hc:X.calm=true):gv X (.builtin "all") (qa c .all):=by
 w_up;let#[ux,ρ,S,QU,hx,R,w,q]:=h
 match ux,w with
 |[.loc n],w=>
  let#[bs,e,w1]:=w;let#[v,e1,r1]:=kA hx;let#[a,vs,e2,_,g1,g2]:=R.lst e r1;rw[qA g2] at g1;erw[CI hc pZ s σ H xs us Q I r #[a,bs,by rw[e1,e2],iU.of g1,q.now R w1 (dZ.mpr rfl)]]
theorem MF(hc:X.calm=true):gv X (.builtin "sum") (qa c .sum):=by
 w_up;let#[ux,ρ,S,QU,hx,R,w,q]:=h
 match ux,w with
 |[.loc n],w=>
  let#[bs,e,w1]:=w;let#[v,e1,r1]:=kA hx;let#[a,vs,e2,_,g1,g2]:=R.lst e r1;rw[kZ g2] at g1;erw[CJ hc pZ s σ H xs us Q I r #[a,bs,by rw[e1,e2],iU.of g1,q.now R w1 (aP.mpr rfl)]]
theorem MG(hc:X.calm=true):gv X (.builtin "max") (qa c .max):=by
 w_up;let#[ux,ρ,S,QU,hx,R,w,q]:=h
 match ux,w with
 |[.loc n],w=>
  let#[i,is,e,w1]:=w;let#[v,e1,r1]:=kA hx;let#[a,vs,e2,_,g1,g2]:=R.lst e r1;rw[kZ g2] at g1;erw[CP hc pZ s σ H xs us Q I r #[a,i,is,by rw[e1,e2],iU.of g1,λm h1 h2=>q.now R (w1 m h1 h2) (aP.mpr rfl)]]
theorem IQ(hc:X.calm=true):gv X (.builtin "any") (qa c .any):=by
 w_up;let#[ux,ρ,S,QU,hx,R,w,q]:=h
 match ux,w with
 |[.loc n],w=>
  let#[bs,e,w1]:=w;let#[v,e1,r1]:=kA hx;let#[a,vs,e2,_,g1,g2]:=R.lst e r1;rw[qA g2] at g1;erw[CO hc pZ s σ H xs us Q I r #[a,bs,by rw[e1,e2],iU.of g1,q.now R w1 (dZ.mpr rfl)]]
theorem vx:∀{ps:List (List Nat×U)}{vs:List V},aX c ρ H (ps.map λp=>.tup [.str p.1,p.2]) vs->∃kvs:List (Key×V),Paired (P9 H) vs kvs/\kvs.map (·.1)=ps.map (λp=>i3 (some (tx p.1)))/\aX c ρ H (ps.map (·.2)) (kvs.map (·.2))
 |[],_,h=>by
  unfold aX at h;subst h;exact#[[],.nil,rfl,aX.nil]
 | (k,u)::ps,_,h=>by
  rw[ay] at h;unfold aX at h;let#[v,r,e,h1,h2]:=h;subst e;let#[kvs,g1,g2,g3]:=vx h2;let#[a,vs,e1,ha,hr]:=dG.mp h1;let#[x,y,e2,r1,r2]:=Ec hr;subst e2;rw[bE.mp r1] at ha;exact#[(i3 (some (tx k)),y)::kvs,.cons #[a,e1,ha] g1,by rw[ay,ay,g2],aX.cons r2 g3]
theorem xD:∀{ks:List (List Nat)},aX c ρ H (ks.map .str) (ks.map λk=>kV (i3 (some (tx k))))
 |[]=>aX.nil
 |_::_=>aX.cons (bE.mpr rfl) xD
theorem IS(hA:X.A.handled=none):gv X (.type "dict") (qa c .dict):=by
 w_up;let#[ux,ρ,S,QU,hx,R,w,q]:=h
 match ux,w with
 |[.loc n],w=>
  let#[ps,e,nd,w1]:=w;let#[v,e1,r1]:=kA hx;let#[a,vs,e2,_,g1,g2]:=R.lst e r1;let#[kvs,k1,k2,k3]:=vx g2;rwa[CM hA pZ s σ H xs us Q I r #[a,vs,kvs,by rw[e1,e2],g1,k1,?_,λp hp=>?_]]
  .rw[k2,show ps.map (λp=>(i3 (some (tx p.1)):Key))=(ps.map (·.1)).map (λk=>i3 (some (tx k))) by rw[bz];rfl]
   erw[wW _ (λa b h e=>h (qv (aF (tB e)))) nd]
  .have st:=iA.alloc R hp (.dK kvs)
   have e5:kvs.map (λp=>kV p.1)=(ps.map (·.1)).map λk=>kV (i3 (some (tx k))):=by
    rw[show kvs.map (λp=>kV p.1)=(kvs.map (·.1)).map kV by rw[bz];rfl,k2,bz,bz];rfl
   have R':cz c (ρ++[p]) (upd H p (.dK kvs)) (S++[.eI (ps.map λp=>(.str p.1,p.2))]):=R.alloc hp #[kvs,cg,by have:=congrArg cG k2;simpa using this,by
     rw[e5,bz,show(DB∘λp:List Nat×U=>(U.str p.1,p.2))=U.str∘DB from rfl,<-bz];erw[xD],by
     rw[bz];erw[k3.mono R st]]
   rwa[q _ _ _ _ _ w1 st R' (d9.mpr #[p,rfl,?_])];rw[<-R.len,aw (aq _),bR];rfl
theorem MH:gv X (.type "int") (qa c .int):=by
 w_up;let#[ux,ρ,S,QU,hx,R,w,q]:=h
 match ux,w with
 |[.bl b],w=>
  let#[v,e1,r1]:=kA hx;erw[Fi pZ s σ H xs us Q I r (.inr #[b,by rw[e1,dZ.mp r1],q.now R w (aP.mpr rfl)])]
theorem CW:Cp X "int.bit_length" (tP c .nj):=by
 intro pZ s σ H x xs v us Q I rx r h;let#[u,ux,ρ,S,QU,hu,hx,R,w,q]:=h
 match u,ux,w with
 |.int i,[],w=>
  let#[w0,w1]:=w;unfold aX at hx;rwa[FG pZ s σ H x xs v us Q I rx r #[i.toNat,by rw[aP.mp hu];congr 1;omega,hx,q.now R w1 (aP.mpr rfl)]]
theorem MI:∀{ps:List (List Nat×U)}{vs:List (Key×V)}{k:List Nat},vs.length=(ps.map λp=>(U.str p.1,p.2)).length->aX c ρ H ((ps.map λp=>(U.str p.1,p.2)).map (·.1)) (vs.map λp=>kV p.1)->aX c ρ H ((ps.map λp=>(U.str p.1,p.2)).map (·.2)) (vs.map (·.2)) ->
  (ps.lookup k=none/\js vs (i3 (some (tx k)))=none)\/∃u v,ps.lookup k=some u/\js vs (i3 (some (tx k)))=some v/\Rep c ρ H u v
 := by
 intro ps;induction ps with
 |nil=>intro vs k hl _ _;cases vs with|nil=>erw[.inl #[rfl,rfl]]|cons _ _=>cases hl
 |cons p ps ih=>
  intro vs k hl h1 h2;let#[a,u]:=p;cases vs with|nil=>cases hl|cons p vs=>?_
  let#[b,y]:=p;dsimp[ay] at h1 h2;unfold aX at h1 h2;let#[v1,r1,e1,p1,q1]:=h1;let#[v2,r2,e2,p2,q2]:=h2;cases e1;cases e2;have eb:b=i3 (some (tx a)):=by
   have:=bE.mp p1;erw[PN (b:=i3 (some (tx a))) this]
  subst eb;by_cases ek:k=a
  .subst ek
   erw[.inr #[u,y,by simp,kW rfl,p2]]
  .have e3:(k==a)=false:=by simp[ek]
   rw[aO,e3,kX (λz=>ek (qv (aF (tB z))).symm)]
   erw[ih (mR hl) q1 q2]
theorem join_eq(sep:List Nat):∀ts:List (List Nat),vb sep ts=PL.lK sep ts
 |[]=>rfl
 |[x]=>rfl
 |x::y::r=>by
  unfold vb PL.lK;rw[join_eq sep (y::r)]
theorem sT:∀{ts:List (List Nat)}{vs:List V},aX c ρ H (ts.map .str) vs->vs=ts.map λt=>V.str (tx t)
 |[],_,h=>by unfold aX at h;erw[h]
 |t::ts,_,h=>by
  rw[ay] at h;unfold aX at h;let#[v,r,e,h1,h2]:=h;rw[e,bE.mp h1,sT h2];rfl
theorem IT(hK:X.K=c.K):Cp X "str.join" (tP c .join):=by
 intro pZ s σ H x xs v us Q I rx r h;let#[u,ux,ρ,S,QU,hu,hx,R,w,q]:=h
 match u,ux,w with
 |.str sep,[.loc n],w=>
  let#[ts,e,w1,w2]:=w;let#[z,e1,r1]:=kA hx;let#[a,vs,e2,_,g1,g2]:=R.lst e r1;rw[sT g2] at g1;erw[DQ pZ s σ H x xs v us Q I rx r #[sep,ts,a,bE.mp hu,by rw[e1,e2],iU.of g1,w1,by rw[join_eq];exact q.now R w2 (bE.mpr rfl)]]
theorem CY:Cp X "str.startswith" (tP c .startswith):=by
 intro pZ s σ H x xs v us Q I rx r h;let#[u,ux,ρ,S,QU,hu,hx,R,w,q]:=h
 match u,ux,w with
 |.str l,[.str k],w=>
  let#[z,e1,r1]:=kA hx;erw[xw pZ s σ H x xs v us Q I rx r #[l,k,bE.mp hu,by rw[e1,bE.mp r1],q.now R w (dZ.mpr rfl)]]
theorem FT(hA:X.A.handled=none):Cp X "str.index" (tP c .index):=by
 intro pZ s σ H x xs v us Q I rx r h;let#[u,ux,ρ,S,QU,hu,hx,R,w,q]:=h
 match u,ux,w with
 |.str l,[.str k],w=>
  let#[d,e,w1,w2]:=w;subst e;let#[z,e1,r1]:=kA hx;erw[AI hA pZ s σ H x xs v us Q I rx r #[l,d,bE.mp hu,by rw[e1,bE.mp r1],w1,q.now R w2 (aP.mpr rfl)]]
theorem QV.putL(q:QV c ρ H QU Q)(R:cz c ρ H S)(ha:ρ[n]?=some a)(hw:H a=some (.lst ws))(r:aX c ρ H us vs)(h:QU .bV (S.set n (.lst us))):Q .bV (upd H a (.lst vs)):=by
 have st:=iA.put (H:=H) (af ha) hw rfl (.lst vs);erw[q _ _ _ _ _ h st (R.put ha hw rfl #[vs,cg,r.mono R st]) (eR.mpr rfl)]
theorem CZ:Cp X "list.append" (tP c .append):=by
 intro pZ s σ H x xs v us Q I rx r h;let#[u,ux,ρ,S,QU,hu,hx,R,w,q]:=h
 match u,ux,w with
 |.loc n,[k],w=>
  let#[us',e,w1,w2]:=PL.de.mp (show PL.getL _ _ from w);let#[z,e1,r1]:=kA hx;let#[a,vs,e2,ha,g1,g2]:=R.lst e hu;rwa[sG pZ s σ H x xs v us Q I rx r #[a,vs,z,e2,e1,g1,?_,q.putL R ha g1 (g2.app (aX.cons r1 aX.nil)) w2]];rw[<-g2.len];erw[av w1 ⋯]
theorem C0:Cp X "list.extend" (tP c .extend):=by
 intro pZ s σ H x xs v us Q I rx r h;let#[u,ux,ρ,S,QU,hu,hx,R,w,q]:=h
 match u,ux,w with
 |.loc n,[.loc m],w=>
  let#[us',e,w1]:=PL.de.mp (show PL.getL _ _ from w);let#[ws,e',w2,w3]:=PL.de.mp w1;let#[z,e1,r1]:=kA hx;let#[a,vs,e2,ha,g1,g2]:=R.lst e hu;let#[b,zs,e3,hb,g3,g4]:=R.lst e' r1;erw[xn pZ s σ H x xs v us Q I rx r #[a,b,vs,zs,e2,by rw[e1,e3],g1,g3,p9 (by rw[<-g2.len,<-g4.len];exact w2),q.putL R ha g1 (g2.app g4) w3]]
theorem Ed{κ κ':Type}[BEq κ][LawfulBEq κ][DecidableEq κ'](f:κ->κ')(hf:∀a b,f a=f b->a=b)(k:κ):∀{kvs:List (κ×U)}{vs:List (κ'×V)},vs.map (·.1)=kvs.map (λp=>f p.1)->aX c ρ H (kvs.map (·.2)) (vs.map (·.2)) ->
  (kvs.lookup k=none/\js vs (f k)=none)\/∃u v,kvs.lookup k=some u/\js vs (f k)=some v/\Rep c ρ H u v:=by
 intro kvs;induction kvs with
 |nil=>intro vs hk _;cases vs with|nil=>erw[.inl #[rfl,rfl]]|cons _ _=>cases hk
 |cons p ps ih=>
  intro vs hk h2;let#[a,w]:=p;cases vs with|nil=>cases hk|cons p vs=>?_
  let#[b,y]:=p;dsimp[ay,dE] at h2 hk;unfold aX at h2;let#[v2,r2,e2,p2,q2]:=h2;cases e2;let#[rfl,hk]:=hk;by_cases e:k=a
  .subst e
   erw[.inr #[w,y,by simp,kW rfl,p2]]
  .have e3:(k==a)=false:=by simp[e]
   rw[aO,e3,kX λz=>e (hf _ _ z).symm]
   erw[ih hk q2]
theorem QV.QF(q:QV c ρ H QU Q)(R:cz c ρ H S)(ha:ρ[n]?=some a)(e:H a=some hw)(nf:Qp hw=false)(r:Rep c ρ H u v)(w:QU u (S.set n o))
  (hr:iA ρ H ρ (upd H a ho)->ui c ρ (upd H a ho) a o):Q v (upd H a ho):=by
 have st:=iA.put (H:=H) (af ha) e nf ho;erw[q _ _ _ _ _ w st (R.put ha e nf (hr st)) (r.mono R st)]
theorem IU(hu:X.A.units+200<eL):Cp X "dict.setdefault" (tP c .oh):=by
 intro pZ s σ H x xs v us Q I rx r h;let#[u,ux,ρ,S,QU,hu',hx,R,w,q]:=h
 match u,ux,w with
 |.loc n,[k,d],w=>
  have w:PL.p7 S n k d QU:=w;let#[a,e0,ha]:=d9.mp hu';let#[y,z,e1,r1,r2]:=Ec hx;rwa[LX ∅ pZ s σ H x xs v us Q I rx r ?_];unfold PL.p7 at w;cases hs:S[n]? with
  |none=>rw[hs] at w;erw[w.elim]
  |some o=>
   rw[hs] at w;cases o with
   |eI kvs=>
    let#[#[hk,hl],w]:=w;let#[vs,g1,g2,g3,g4]:=R.at_ n a _ ha hs;have hl':vs.length<sizeLine:=by rw[g2];erw[av hl ⋯]
    rcases rM hk g2 g3 g4 with⟨l1,l2⟩|⟨u',v',l1,l2,l3⟩
    .rw[l1] at w
     refine#[a,y,z,z,_,e0,e1,.inl #[vs,vw k,g1,j6 hk r1,hl',.inr #[l2,rfl,rfl]],q.QF R ha g1 rfl r2 w λst=>#[_,cg,by simp[g2],?_,?_]]
     .rw[aK,aK]
      exact(g3.mono R st).app (aX.cons (show Rep c ρ _ k (kV (vw k)) by rw[<-j6 hk r1];erw[r1.mono R st]) aX.nil)
     .rw[aK,aK]
      exact(g4.mono R st).app (aX.cons (r2.mono R st) aX.nil)
    .rw[l1] at w
     exact#[a,y,z,v',H,e0,e1,.inl #[vs,vw k,g1,j6 hk r1,hl',.inl #[l2,rfl]],q.now R w l3]
   |ur kvs=>
    let#[ks,rfl,hl,w]:=w;let#[vs,g1,g2,g4]:=R.at_ n a _ ha hs;have hl':vs.length<sizeLine:=by
     have:=congrArg cG g2;simp at this;rw[this];erw[av hl ⋯]
    let#[b,ws,e2,hb,hw]:=dG.mp r1;rw[kZ hw,show ks.map V.int=(ks.map wH).map kV by rw[bz];rfl] at hb;rcases Ed (λl:List Int=>l.map (wH:Int->Key)) (λa b e=>(sh (λ_ _ e=>zW e)).mp e) ks g2 g4 with⟨l1,l2⟩|⟨u',v',l1,l2,l3⟩
    .rw[l1] at w
     refine#[a,y,z,z,_,e0,e1,.inr (.inl #[vs,_,b,g1,e2,hb,hl',.inr #[l2,rfl,rfl]]),q.QF R ha g1 rfl r2 w λst=>#[_,cg,by simp[g2],?_]];rw[aK,aK]
     exact(g4.mono R st).app (aX.cons (r2.mono R st) aX.nil)
    .rw[l1] at w
     exact#[a,y,z,v',H,e0,e1,.inr (.inl #[vs,_,b,g1,e2,hb,hl',.inl #[l2,rfl]]),q.now R w l3]
   |xt kvs=>
    let#[i,ks,rfl,hl,w]:=w;let#[vs,g1,g2,g4]:=R.at_ n a _ ha hs;have hl':vs.length<sizeLine:=by
     have:=congrArg cG g2;simp at this;rw[this];erw[av hl ⋯]
    let#[b,ws,e2,hb,hw]:=dG.mp r1;let#[x1,x2,e3,hi,ht]:=Ec hw;let#[b2,ws2,e4,hb2,hw2]:=dG.mp ht;rw[kZ hw2] at hb2;rw[e3,aP.mp hi,e4] at hb;rcases Ed (λp:Int×List Int=>p) (λa b e=>e) (i,ks) g2 g4 with⟨l1,l2⟩|⟨u',v',l1,l2,l3⟩
    .rw[l1] at w
     refine#[a,y,z,z,_,e0,e1,.inr (.inr #[vs,(i,ks),b,b2,g1,e2,hb,hb2,hl',.inr #[l2,rfl,rfl]]),q.QF R ha g1 rfl r2 w λst=>#[_,cg,by simp[g2],?_]];rw[aK,aK]
     exact(g4.mono R st).app (aX.cons (r2.mono R st) aX.nil)
    .rw[l1] at w
     exact#[a,y,z,v',H,e0,e1,.inr (.inr #[vs,(i,ks),b,b2,g1,e2,hb,hb2,hl',.inl #[l2,rfl]]),q.now R w l3]
   |_=>erw[w.elim]
theorem MJ(hK:X.K=c.K)(R:cz c ρ H S)(r:Rep c ρ H u v)(h:PL.vj S u=some b):Pp X.K v H b:=by
 cases u with
 |bV=>rw[eR.mp r];exact(aF h).symm
 |bl k=>rw[dZ.mp r];exact(aF h).symm
 |int i=>rw[aP.mp r];exact(aF h).symm
 |str l=>erw[nn h]
 |tup us=>
  let#[a,vs,e,h1,h2]:=dG.mp r;simp[PL.vj,PL.mH] at h;rw[e]
  rwa[.inr (.inl #[vs,mq.of h1,?_])];have:=h2.len;rw[<-h]
  cases us<;>cases vs<;>simp at this ⊢
 |rm ns=>
  let#[a,e,h1]:=rJ.mp r;simp[PL.vj,PL.mH] at h;rw[e]
  rwa[.inl #[_,hK▸h1.sq,?_]];rw[<-h]
  cases ns<;>simp
 |loc m=>
  unfold PL.vj PL.mH at h;cases q:S[m]? with
  |none=>dsimp[q] at h;erw[nn h]
  |some o=>
   dsimp[q] at h;cases o with
   |lst us=>
    let#[a,vs,e,_,h1,h2]:=R.lst q r;simp at h;rw[e]
    rwa[.inl #[vs,iU.of h1,?_]];have:=h2.len;rw[<-h]
    cases us<;>cases vs<;>simp at this ⊢
   |eI kvs=>
    let#[a,e,ha]:=d9.mp r;let#[vs,h1,h2,_]:=R.at_ m a _ ha q;simp at h;rw[e]
    rwa[.inr (.inr #[vs,h1,?_])];rw[<-h]
    cases kvs<;>cases vs<;>simp at h2 ⊢
   |ins x fs=>erw[nn h]
   |vf x=>erw[nn h]
   |ur x=>erw[nn h]
   |xt x=>erw[nn h]
 |_=>erw[nn h]
end
open PL (U SO bJ KU bZ)
structure xE where
 cls:String->Option Addr
noncomputable abbrev Cx.cc(X:Cx)(t:xE):Ctx:=#[X.prog,X.w,X.K,X.mg,X.base,t.cls]
def lift(c:Ctx)(sp:PL.Spec):Sp:=λvs H Q _=>∃us ρ S QU,aX c ρ H us vs/\cz c ρ H S/\sp us S QU/\QV c ρ H QU Q
def FnAt(c:Ctx)(k:Nat)(f:Addr)(sp:PL.Spec):Prop:=∃fd ps,jq c.P c.w c.K c.mg c.base Cs k f fd ps (lift c sp)/\Binds c.K fd ps []
structure IV(c:Ctx)(T:Tab):Prop where
 const:∀p∈T.const,∃v u,c.mg (nm p.1)=some u/\RelV v u/\∀ρ H,Rep c ρ H p.2 v
 iQ:∀x∈T.iQ,c.mg (nm x)=none
 cls:∀x C,c.cls x=some C->wt c.K C/\∀f∈T.yO,l9 c.K C (nm f)
structure gy(c:Ctx)(T:Tab)(Γ:bZ)(k:Nat):Prop where
 fns:∀x∈T.fns,∃f,c.mg (nm x)=some (.ref f)/\Hd c.K (.ref f)=true/\FnAt c k f (Γ x)
 SX:∀p∈T.qz,∃C f,c.cls p.2=some C/\Meth c.K C (nm p.1) f/\FnAt c k f (Γ (p.2++"."++p.1))
 cls:∀x∈T.qy,∃C f,c.cls x=some C/\c.mg (nm x)=some (.ref C)/\Mk c.K C f/\FnAt c k f (Γ (x++".__init__"))
structure Good(t:xE)(T:Tab)(Γ:bZ)(k:Nat)(I:Inf)(X:Cx):Prop where
 tab:IV (X.cc t) T
 QG:gy (X.cc t) T Γ k
 kind:X.env.scope.kind=.function
 names:X.env.scope.names=I.names
 slots:X.N=I.N
 nd:X.N.Nodup
 calm:I.calm=true->X.calm=true/\jo (k+1) X.A
 units:X.A.units+200<eL
 xe:X.xe=λ_ _=>False
def C1(c:Ctx)(ρ:List Addr)(H:Hp)(J:It)(us:List U)(g:bJ->Prop):Prop:=
 ∀(i:Nat)(ρ2:List Addr)(H2:Hp)(S2:bJ),iA ρ H ρ2 H2->cz c ρ2 H2 S2->g S2 ->
  (∀u,us[i]?=some u->J.go i H2/\∀y H3,J.TR i H2 y H3->iA ρ2 H2 ρ2 H3/\cz c ρ2 H3 S2/\Rep c ρ2 H3 u y)/\(us.length<=i->J.stop i H2)
def QI(c:Ctx)(ρ:List Addr)(H:Hp)(RU:List U->(bJ->Prop)->bJ->Prop)(R:It->Hp->Prop):Prop:=
 ∀us g S' H' ρ' J,RU us g S'->iA ρ H ρ' H'->cz c ρ' H' S'->C1 c ρ' H' J us g->R J H'
def AY(c:Ctx)(Γ:bZ)(x:PL.It):TI:=λσ H R=>∃env ρ S RU,ko c ρ H env σ/\cz c ρ H S/\PL.WI Γ x env S RU/\QI c ρ H RU R
def QO(c:Ctx)(ρ:List Addr)(H:Hp)(QU:Option Int->bJ->Prop)(Q:Option Int->Hp->Prop):Prop:=∀o S' H' ρ',QU o S'->iA ρ H ρ' H'->cz c ρ' H' S'->Q o H'
def Xr(c:Ctx)(Γ:bZ)(x:PL.Ox):TO:=λσ H Q=>∃env ρ S QU,ko c ρ H env σ/\cz c ρ H S/\PL.WO Γ x env S QU/\QO c ρ H QU Q
structure FU(t:xE)(T:Tab)(Γ:bZ)(k n:Nat):Prop where
 fe:∀{I X e x},Good t T Γ k I X->cE T n I e=some x->PE X e (tE (X.cc t) Γ x)
 U5:∀{I X es xs},Good t T Γ k I X->SW T n I es=some xs->PA X es (GL (X.cc t) Γ xs)
 Zt:∀{I X op vs x pos},Good t T Γ k I X->Xp T n I op vs=some x->PE X (.BoolOp op vs pos) (tE (X.cc t) Γ x)
 fo:∀{I X oe x},Good t T Γ k I X->cO T n I oe=some x->PO X oe (Xr (X.cc t) Γ x)
 fi:∀{I X e x tg},Good t T Γ k I X->cI T n I e=some x->PI X tg e (AY (X.cc t) Γ x)
 fn:∀{I X e x es ek tp},Good t T Γ k I X->cN T n I e=some x->PI X (.Tuple es ek tp) e (AY (X.cc t) Γ x)
 ft:∀{I X e x},Good t T Γ k I X->cT T n I e=some x->PT X e (tT (X.cc t) Γ x)
 Zu:∀{I X op vs x pos},Good t T Γ k I X->Xq T n I op vs=some x->PW X (.BoolOp op vs pos) (tT (X.cc t) Γ x)
section
variable{t:xE}{T:Tab}{Γ:bZ}{k n:Nat}{I:Inf}{X:Cx}
theorem fc:∀{l:List Str}{i:Nat},dY x l=some i->l[i]?=some x
 |[],_,h=>nn h
 |y::ys,i,h=>by
  unfold dY at h;by_cases e:y=x
  .rw[if_pos e] at h;injection h with h;subst h;subst e;rfl
  .rw[if_neg e] at h
   cases q:dY x ys with
   |none=>rw[q] at h;cases h
   |some j=>rw[q] at h;simp at h;subst h;simpa using fc q
theorem QH(h:Mo (names.lookup x)=true)(e:sc.names=names):To sc x:=by
 rw[<-e] at h;unfold To;cases q:sc.names.lookup x with
 |none=>rw[q] at h;cases h
 |some kd=>rw[q] at h;cases kd<;>simp[Mo] at h<;>simp
theorem MK(G:Good t T Γ k I X)(h:dY x I.N=some i)(hv:Mo (I.names.lookup x)=true)(h1:(x==("__debug__":Str))=false)(h2:(x==("__classdict__":Str))=false):PE X (.Name x pos) (tE (X.cc t) Γ (.var i)):=by
 refine(OT (i:=i) (by show X.N[i]?=some x;rw[G.slots];erw[fc h]) (QH hv G.names) h1 h2).imp ?_;rintro σ H Q ⟨env,ρ,S,QU,he,R,w,q⟩;let#[u,e,w]:=PL.AJ.mp (show PL.yG _ _ from w);let#[v,e1,r]:=he.at_ i u e;exact#[v,e1,q.now R w r]
theorem rN{e:Expr}{u:U}{v:V}(h:PE X e (tC v))(r:∀ρ H,Rep (X.cc t) ρ H u v):PE X e (tE (X.cc t) Γ (.lit u)):=by
 rwa[h.imp ?_];kd_p;erw[q.now R w (r ρ H)]
theorem mJ(h:pick l x=some s):s∈l/\nm s=x:=by
 unfold pick at h;exact#[yj h,by simpa using La h]
theorem xF{α:Type}{l:List (String×α)}{x:Str}{s:String×α}(h:AV l x=some s):s∈l/\nm s.1=x:=by
 unfold AV at h;exact#[yj h,by simpa using La h]
theorem iE(G:Good t T Γ k I X){x:Str}(h:I.gl x=true):Gl X x:=by
 unfold Inf.gl at h;show X.env.scope.names.lookup x=_;rw[G.names]
 simpa using h
theorem IW{x:Str}{pos:Pos}{p:String×U}(G:Good t T Γ k I X)(hg:I.gl x=true)(h:AV T.const x=some p)(h1:(x==("__debug__":Str))=false):PE X (.Name x pos) (tE (X.cc t) Γ (.lit p.2)):=by
 let#[hm,e]:=xF h;let#[v,u,e1,rv,r]:=G.tab.const p hm;subst e;erw[rN (Lh (iE G hg) e1 rv h1) r]
theorem QJ(G:Good t T Γ k I X)(ho:UU op=some o)(ha:PE X a (tE (X.cc t) Γ x))(hb:PE X b (tE (X.cc t) Γ y)):PE X (.BinOp a op b pos) (tE (X.cc t) Γ (.bin o x y)):=by
 have e:op=Mt o:=by
  cases op<;>first|exact nn ho| (cases ho;rfl)
 rw[e]
 refine(TV (MB (c:=X.cc t)) ha hb).imp ?_;kd_p;z_go;refine#[env,ρ1,S1,_,he.later R st1,R1,w1,λu2 S2 v2 H2 ρ2 w2 st2 R2 r2=>?_];exact#[u,u2,ρ2,S2,QU,r1.mono R1 st2,r2,R2,w2,q.later (st1.trans st2)]
theorem IX(ho:SU op b=some o):op=Ea o:=by
 unfold SU at ho;split at ho
 .rename_i hc
  cases op<;>first|exact ff hc| (cases ho;rfl)
 .cases op<;>first|exact nn ho| (cases ho;rfl)
theorem QK(G:Good t T Γ k I X)(ho:SU op b=some o)(hm:behindInMarks op b=false)(ha:PE X a (tE (X.cc t) Γ x))(hb:PE X b (tE (X.cc t) Γ y)):PE X (.Compare a [op] [b] pos) (tE (X.cc t) Γ (.cmp o x y)):=by
 have e:op=Ea o:=IX ho;subst e;refine(Lu (uA (c:=X.cc t) rfl rfl G.units o) ha hb hm).imp ?_;kd_p;z_go;refine#[env,ρ1,S1,_,he.later R st1,R1,w1,λu2 S2 v2 H2 ρ2 w2 st2 R2 r2=>?_];refine#[u,u2,ρ2,S2,r1.mono R1 st2,r2,R2,PL.pA (λr h=>?_) w2];exact(q.later (st1.trans st2)).now R2 h (dZ.mpr rfl)
theorem ML(G:Good t T Γ k I X)(ho:SU op b=some o)(hm:behindInMarks op b=false)(ha:PE X a (tE (X.cc t) Γ x))(hb:PE X b (tE (X.cc t) Γ y)):PT X (.Compare a [op] [b] pos) (tT (X.cc t) Γ (.cH (.cmp o x y))):=by
 have e:op=Ea o:=IX ho;subst e;refine(Lw (uA (c:=X.cc t) rfl rfl G.units o) ha hb hm).imp ?_;kd_p;z_go;refine#[env,ρ1,S1,_,he.later R st1,R1,w1,λu2 S2 v2 H2 ρ2 w2 st2 R2 r2=>?_];refine#[u,u2,ρ2,S2,r1.mono R1 st2,r2,R2,PL.pA (λr h=>#[r,rfl,?_]) w2];exact(q.later (st1.trans st2)) _ _ _ _ h .refl R2
theorem MM(G:Good t T Γ k I X)(ha:PE X a (tE (X.cc t) Γ x))(hb:PE X b (tE (X.cc t) Γ y))(hc:PE X c (tE (X.cc t) Γ z)):PT X (.Compare a [.LtE,.LtE] [b,c] pos) (tT (X.cc t) Γ (.UA x y z)):=by
 refine(Hu (uA (c:=X.cc t) rfl rfl G.units .le) (uA (c:=X.cc t) rfl rfl G.units .le) ha hb hc (Pn c)).imp ?_;kd_p;z_go;refine#[env,ρ1,S1,_,he.later R st1,R1,w1,λu2 S2 v2 H2 ρ2 w2 st2 R2 r2=>?_];refine#[u,u2,ρ2,S2,r1.mono R1 st2,r2,R2,PL.pA (λr h=>#[r,rfl,?_]) w2];cases r with
 |false=>exact#[false,rfl,(q.later (st1.trans st2)) _ _ _ _ h .refl R2]
 |true=>
  refine#[env,ρ2,S2,_,he.later R (st1.trans st2),R2,h,λu3 S3 v3 H3 ρ3 w3 st3 R3 r3=>?_];refine#[u2,u3,ρ3,S3,r2.mono R2 st3,r3,R3,PL.pA (λr h=>#[r,rfl,?_]) w3];exact(q.later ((st1.trans st2).trans st3)) _ _ _ _ h .refl R3
end
open PL (U SO bJ KU bZ)
theorem cY(h:noStar e=true):bx (e::es) env=(false,eval e env)::bx es env:=by
 cases e<;>first|rfl|cases h
theorem vy:∀{es:List Expr},es.all noStar=true->bx es env=es.map λe=>(false,eval e env)
 |[],_=>rfl
 |e::es,h=>by
  rw[bQ,aj] at h;rw[cY h.1,vy h.2];rfl
theorem fN(h:gx o=true):ij o m env (eval o env)=eval o env:=by
 cases o with
 |Call f args kws pos=>
  cases f with
  |Name id p=>
   cases args with
   |nil=>
    cases kws with
    |nil=>cases h
    |cons k ks=>rfl
   |cons a as=>rfl
  |_=>rfl
 |_=>rfl
theorem AZ(h:yP e=true):hU e tg l env=pure false:=by
 cases e<;>first|rfl|cases h
theorem gQ(h:es.all noStar=true):(eJ pos (bx es env)).any (·.1)=false:=by
 rw[vy h]
 unfold eJ;simp
theorem xG(h:es.all noStar=true)(hn:es.length<20):BZ (es.length+([]:List oC).length) (eJ pos (bx es env)) (backToKw pos (eO [] env))=true:=by
 rw[vy h]
 have e:eO [] env=[]:=rfl;rw[e]
 unfold BZ eJ;simp[backToKw]
 omega
theorem xH(h0:gx o=true)(hst:args.all noStar=true)(hn:args.length<20)(hl:(apos.endLine==pos.line)=true):
  eval (.Call (.Attribute o m apos) args [] pos) env=(do
   let ov <-eval o env
   standAt apos.atName
   let (f,first) <-holding [ov] (tF ov m (do return (<-importBound o env).getD true))
   BW pos f first (eJ pos (bx args env)) (backToKw pos (eO [] env))):=by
 change (do
  let ov <-ij o m env (eval o env)
  standAt apos.atName
  methodCall o m apos pos env ov (args.length+[].length) (eJ pos (bx args env)) (backToKw pos (eO [] env)))=_
 dsimp[fN h0,methodCall,xG hst hn,calleeOf,methodCallPos,hl]
 rfl
open PL (U SO bJ KU bZ)
section
variable{X:Cx}{k:Nat}{f C:Addr}{fd:fF}{ps:List Str}{sp:Sp}{x m:Str}{p pos apos:Pos}{e o:Expr}{es:List Expr}{ta:TA}{to:TE}
theorem Zv(F:jq X.prog X.w X.K X.mg X.base Cs k f fd ps sp)(hr:jo k X.A)(hg:Gl X x)(hm:X.mg x=some (.ref f))(hk:Hd X.K (.ref f)=true)(hb:Binds X.K fd ps [])(ha:PA X (e::es) ta)
  (hdb:(x==("__debug__":Str))=false) (he:noStar e=true) (hes:es.all noStar=true):PE X (.Call (.Name x p) (e::es) [] pos) (λσ H Q=>ta σ H λvs H1=>sp vs H1 Q E0):=
 (LB F hr hg hm hk hb .nil xp ha hdb (cY he) (gQ hes)).imp λσ H Q h=>by unfold Hz;dsimp[cq];erw[h]
theorem Zw(he:PE X o to)(c:wt X.K C)(hm:Meth X.K C m f)(F:jq X.prog X.w X.K X.mg X.base Cs k f fd ps sp)(hr:jo k X.A)(hb:Binds X.K fd ps [])(ha:PA X (e::es) ta)
  (h0:gx o=true) (hn:(e::es).length<20) (hl:(apos.endLine==pos.line)=true) (hse:noStar e=true) (hes:es.all noStar=true):
  PE X (.Call (.Attribute o m apos) (e::es) [] pos) (λσ H Q=>to σ H λx H1=>∃a dx fs,x=.ref a/\H1 a=some (.ins C dx fs)/\fs.lookup m=none/\ta σ H1 λvs H2=>sp (x::vs) H2 Q E0):=
 (LC he c hm F hr hb .nil xp ha (cY hse) (gQ hes) (xH h0 (by rw[bQ,hse,hes];rfl) hn hl)).imp λσ H Q h=>by unfold HA;dsimp[cq];erw[h]
theorem Zx(M:Mk X.K C f)(F:jq X.prog X.w X.K X.mg X.base Cs k f fd ps sp)(hr:jo (k+1) X.A)(hg:Gl X x)(hm:X.mg x=some (.ref C))(hb:Binds X.K fd ps [])(ha:PA X (e::es) ta)
  (hdb:(x==("__debug__":Str))=false) (he:noStar e=true) (hes:es.all noStar=true):PE X (.Call (.Name x p) (e::es) [] pos) (λσ H Q=>ta σ H λvs H1=>∀x dx,H1 x=none->H1 dx=none->dx≠x ->
   sp (.ref x::vs) (upd (upd H1 dx (.own x)) x (.ins C dx [])) (λv H2=>v=.bV/\Q (.ref x) H2) E0):=
 (LD M F hr hg hm hb .nil xp ha hdb (cY he) (gQ hes)).imp λσ H Q h=>by unfold HB;dsimp[cq];erw[h]
end
section
variable{t:xE}{T:Tab}{Γ:bZ}{k n:Nat}{I:Inf}{X:Cx}
theorem nJ:∀{n:Nat}{I:Inf}{es:List Expr}{xs:PL.zT},SW T n I es=some xs->es.all noStar=true
 |0,_,_,_,h=>by rw[Oh] at h;cases h
 |n+1,I,[],_,_=>rfl
 |n+1,I,e::es,_,h=>by
  rw[Iv,Iq] at h;by_cases z:noStar e=true
  .dsimp[z,a9,ag,if_false,aM,au] at h
   let#[x,_,xs,h2,_]:=h;rw[bQ,z,nJ h2];rfl
  .simp[z] at h
theorem QL(IH:FU t T Γ k n)(G:Good t T Γ k I X):∀{es:List Expr}{xs:PL.zT},SW T (n+1) I es=some xs->PA X es (GL (X.cc t) Γ xs)
 |[],xs,h=>by
  rw[Iv,Iq] at h;injection h with h;subst h
  rwa[λpos pins' s σ H Q J z=>uW pos pins' s σ H Q J ?_]
  let#[env,ρ,S,QU,he,R,w,q]:=z;erw[q [] S [] H ρ w .refl R aX.nil]
 |e::es,xs,h=>by
  have st:=nJ h;rw[bQ,aj] at st;rw[Iv,Iq] at h;dsimp[st.1,a9,ag,if_false,aM,au] at h;let#[x,h1,ys,h2,h3]:=h;injection h3 with h3;subst h3
  have P:=pe (IH.fe G h1) (IH.U5 G h2) (cY st.1);rwa[λpos pins' s σ H Q J z=>P pos pins' s σ H Q J ?_]
  let#[env,ρ,S,QU,he,R,w,q]:=z;z_go;refine#[env,ρ1,S1,_,he.later R st1,R1,w1,λus S2 vs H2 ρ2 w2 st2 R2 r2=>?_];erw[q _ _ _ _ _ w2 (st1.trans st2) R2 (aX.cons (r1.mono R1 st2) r2)]
theorem QM(ha:PE X a (tE (X.cc t) Γ x)):PE X (.UnaryOp .USub a pos) (tE (X.cc t) Γ (.neg x)):=by
 refine(TX Pk ha).imp ?_;kd_p;z_go;let#[i,e,w2]:=PL.eQ.mp w1;subst e;exact#[i,aP.mp r1,(q.later st1).now R1 w2 (aP.mpr rfl)]
theorem QN(ha:PE X a (tE (X.cc t) Γ x)):PE X (.UnaryOp .Not a pos) (tE (X.cc t) Γ (.not x)):=by
 refine(O2 ha).imp ?_;kd_p;z_go;let#[i,e,w2]:=PL.yH.mp w1;subst e;exact#[i,dZ.mp r1,(q.later st1).now R1 w2 (dZ.mpr rfl)]
theorem QP(IH:FU t T Γ k n)(G:Good t T Γ k I X):∀{vs:List Expr}{x:PL.Ex},Xp T (n+1) I op vs=some x->PE X (.BoolOp op vs pos) (tE (X.cc t) Γ x)
 |[],x,h=>by rw[Iw,Ir] at h;cases h
 |[a],x,h=>by
  rw[Iw,Ir] at h;rwa[O0 (IH.fe G h)]
 |a::b::r,y,h=>by
  rw[Iw,Ir] at h;dsimp[aM,au] at h;let#[x,h1,z,h2,h3]:=h;injection h3 with h3;subst h3
  cases op with
  |And=>
   refine(O1 (IH.fe G h1) (IH.Zt G h2)).imp ?_;kd_p;z_go;let#[i,e,w2]:=PL.yH.mp w1;subst e;refine#[i,dZ.mp r1,?_];cases i with
   |true=>exact#[env,ρ1,S1,QU,he.later R st1,R1,w2,q.later st1]
   |false=>exact(q.later st1).now R1 w2 (dZ.mpr rfl)
  |Or=>
   refine(Tz (IH.fe G h1) (IH.Zt G h2)).imp ?_;kd_p;z_go;let#[i,e,w2]:=PL.yH.mp w1;subst e;refine#[i,dZ.mp r1,?_];cases i with
   |true=>exact(q.later st1).now R1 w2 (dZ.mpr rfl)
   |false=>exact#[env,ρ1,S1,QU,he.later R st1,R1,w2,q.later st1]
theorem U6(hc:PT X c (tT (X.cc t) Γ x))(ha:PE X a (tE (X.cc t) Γ y))(hb:PE X b (tE (X.cc t) Γ z)):PE X (.IfExp c a b pos) (tE (X.cc t) Γ (.BO x y z)):=by
 refine(Hn hc ha hb).imp ?_;kd_p;refine#[env,ρ,S,_,he,R,w,λb S1 H1 ρ1 w1 st1 R1=>?_];cases b with
 |true=>exact#[env,ρ1,S1,QU,he.later R st1,R1,w1,q.later st1]
 |false=>exact#[env,ρ1,S1,QU,he.later R st1,R1,w1,q.later st1]
theorem QQ(ha:PA X es (GL (X.cc t) Γ xs)):PE X (.Tuple es j pos) (tE (X.cc t) Γ (.tup xs)):=by
 refine(Pu ha).imp ?_;kd_p;refine#[env,ρ,S,_,he,R,w,λus S1 vs H1 ρ1 w1 st1 R1 r1=>?_];exact#[by rw[<-r1.len];erw[p9 w1.1],λp hp=>(q.later st1).Ms R1 r1 w1.2 hp]
theorem QR(ha:PA X es (GL (X.cc t) Γ xs)):PE X (.List es pos) (tE (X.cc t) Γ (.lst xs)):=by
 refine(Pw ha).imp ?_;kd_p;refine#[env,ρ,S,_,he,R,w,λus S1 vs H1 ρ1 w1 st1 R1 r1=>?_];exact#[by rw[<-r1.len];erw[p9 w1.1],λp hp=>(q.later st1).FO R1 r1 w1.2 hp]
theorem qB:∀{fs:List (String×U)}{vs:List (Str×V)},vs.map (·.1)=(fs.map (·.1)).map nm->aX c ρ H (fs.map (·.2)) (vs.map (·.2))->fs.lookup f=some u->(∀a b:String,nm a=nm b->a=b)->∃v,vs.lookup (nm f)=some v/\Rep c ρ H u v
 |[],vs,_,_,h,_=>nomatch h
 | (g,w)::fs,[],e,_,_,_=>by simp at e
 | (g,w)::fs,(a,v)::vs,e,r,h,inj=>by
  dsimp[ay,dE] at e;rw[ay,ay] at r;unfold aX at r;let#[v',r',e',h1,h2]:=r;injection e' with e1 e2
  subst e1;subst e2;rw[aO] at h ⊢;by_cases z:f=g
  .subst z
   simp at h;subst h;have:(nm f==a)=true:=by rw[e.1];simp
   rw[this]
   exact#[v,rfl,h1]
  .have z1:(f==g)=false:=by simp[z]
   rw[z1] at h;have z2:(nm f==a)=false:=by
    rw[e.1]
    dsimp[beq_eq_false_iff_ne,ne_eq];erw[λq=>z (inj _ _ q)]
   rw[z2]
   erw[qB e.2 h2 h inj]
theorem vz(a b:String)(h:nm a=nm b):a=b:=by
 unfold nm at h;rw[Str.ofString_eq_byList] at h;unfold Str.ofStringByList at h;injection h with h
 have h2:=congrArg z7 h;dsimp[] at h2;have h3:a.toList=b.toList:=by
  refine(sh (f:=Char.toNat) ?_).mp h2;intro x y e;erw[Char.ext (UInt32.toNat_inj.mp e)]
 erw[String.toList_inj.mp h3]
end
open PL (U SO bJ KU bZ)
section
variable{t:xE}{T:Tab}{Γ:bZ}{k n:Nat}{I:Inf}{X:Cx}
theorem QS(G:Good t T Γ k I X)(hf:f∈T.yO)(h0:gx o=true)(ho:PE X o (tE (X.cc t) Γ x)):PE X (.Attribute o (nm f) pos) (tE (X.cc t) Γ (.fld x f)):=by
 refine(Pr ho (fN h0)).imp ?_;kd_p;z_go;cases u with
 |loc m=>
  let#[c,fs,e,w2]:=PL.mG.mp (show PL.qw _ _ from w1);let#[u,e2,w3]:=PL.i7.mp w2;let#[a,C,dx,vs,ev,_,hc,ha,hn,hr]:=R1.ins e r1;let#[v',l,r2]:=qB hn hr e2 vz;let#[cl,na]:=G.tab.cls c C hc;exact#[a,C,dx,vs,v',ev,ha,cl,na f hf,l,(q.later st1).now R1 w3 r2]
 |_=>erw[aT w1]
theorem IY(h:lU b=true):DL b:=by
 intro o i;cases b<;>first|rfl|cases h
theorem U7(hs:lU b=true)(ha:PE X a (tE (X.cc t) Γ x))(hb:PE X b (tE (X.cc t) Γ y)):PE X (.Subscript a b pos) (tE (X.cc t) Γ (.ix x y)):=by
 refine(Uh (QC (c:=X.cc t) rfl rfl) ha hb (IY hs)).imp ?_;kd_p;z_go;refine#[env,ρ1,S1,_,he.later R st1,R1,w1,λu2 S2 v2 H2 ρ2 w2 st2 R2 r2=>?_];refine#[u,u2,ρ2,S2,r1.mono R1 st2,r2,R2,PL.Im (λr h v3 r3=>?_) w2];exact(q.later (st1.trans st2)).now R2 h r3
theorem U8(IH:FU t T Γ k n)(G:Good t T Γ k I X):∀{oe:Option Expr}{x:PL.Ox},cO T (n+1) I oe=some x->PO X oe (Xr (X.cc t) Γ x)
 |none,x,h=>by
  rw[U1,Xo] at h;injection h with h;subst h
  rwa[λpins' s σ H Q J z=>LH pins' s σ H Q J ?_]
  let#[env,ρ,S,QU,he,R,w,q]:=z;erw[q none S H ρ w .refl R]
 |some e,x,h=>by
  rw[U1,Xo] at h;let#[y,h1,h2]:=ar.mp h;subst h2;rwa[λpins' s σ H Q J z=>LI (IH.fe G h1) pins' s σ H Q J ?_]
  let#[env,ρ,S,QU,he,R,w,q]:=z;z_go;let#[i,e,w2]:=PL.eQ.mp w1;subst e;exact#[i,aP.mp r1,q _ _ _ _ w2 st1 R1]
theorem U9{a:Expr}{lo hi:Option Expr}{x:PL.Ex}{y z:PL.Ox}{pos p2:Pos}(ha:PE X a (tE (X.cc t) Γ x))(hl:PO X lo (Xr (X.cc t) Γ y))(hh:PO X hi (Xr (X.cc t) Γ z)):PE X (.Subscript a (.Slice lo hi none p2) pos) (tE (X.cc t) Γ (.sl x y z)):=by
 refine(HG (QE (c:=X.cc t) rfl) ha hl hh).imp ?_;kd_p;z_go;refine#[env,ρ1,S1,_,he.later R st1,R1,w1,λl S2 H2 ρ2 w2 st2 R2=>?_];have st12:=st1.trans st2;refine#[env,ρ2,S2,_,he.later R st12,R2,w2,λh S3 H3 ρ3 w3 st3 R3=>?_];exact#[u,ρ3,S3,QU,r1.mono R1 (st2.trans st3),R3,w3,q.later (st12.trans st3)]
end
open PL (U SO bJ KU bZ)
section
variable{t:xE}{T:Tab}{Γ:bZ}{k n:Nat}{I:Inf}{X:Cx}
theorem QT(G:Good t T Γ k I X)(hg:I.gl f=true)(hb:Qn f=some b)(hp:pick T.iQ f=some s)(hcalm:X.calm=true)(hA:X.A.handled=none)(h1:noStar e=true)(h2:es.all noStar=true)
  (ha:PA X (e::es) (GL (X.cc t) Γ xs)):PE X (.Call (.Name f p) (e::es) [] pos) (tE (X.cc t) Γ (.blt b xs)):=by
 let#[hm,rfl]:=mJ hp;have hn:=G.tab.iQ s hm;have rd:∀(σ:St)(H:Hp)(Q:VK),tE (X.cc t) Γ (.blt b xs) σ H Q->X7 (qa (X.cc t) b) (GL (X.cc t) Γ xs) σ H Q:=by
  kd_p;exact#[env,ρ,S,_,he,R,w,λus S1 vs H1 ρ1 w1 st1 R1 r1=>#[us,ρ1,S1,QU,r1,R1,w1,q.later st1]]
 have sx:bx (e::es) X.env=(false,eval e X.env)::bx es X.env:=cY h1;have sy:(eJ pos (bx es X.env)).any (·.1)=false:=gQ h2;unfold Qn at hb;by_cases c1:(nm s==("len":Str))=true
 .rw[if_pos c1] at hb;injection hb with hb;subst hb
  have ef:nm s=("len":Str):=by simpa using c1
  rw[ef] at hg hn ⊢;exact(mB (ME rfl) (iE G hg) hn K9 ha ⋯ ⋯ sx sy).imp rd
 rw[if_neg c1] at hb;by_cases c2:(nm s==("tuple":Str))=true
 .rw[if_pos c2] at hb;injection hb with hb;subst hb
  have ef:nm s=("tuple":Str):=by simpa using c2
  rw[ef] at hg hn ⊢;exact(mC (FR rfl) (iE G hg) hn (by decide +kernel) ha ⋯ ⋯ sx sy).imp rd
 rw[if_neg c2] at hb;by_cases c4:(nm s==("list":Str))=true
 .rw[if_pos c4] at hb;injection hb with hb;subst hb
  have ef:nm s=("list":Str):=by simpa using c4
  rw[ef] at hg hn ⊢;exact(mC (IM rfl) (iE G hg) hn (by decide +kernel) ha ⋯ ⋯ sx sy).imp rd
 rw[if_neg c4] at hb;by_cases c7:(nm s==("all":Str))=true
 .rw[if_pos c7] at hb;injection hb with hb;subst hb
  have ef:nm s=("all":Str):=by simpa using c7
  rw[ef] at hg hn ⊢;exact(mB (IP hcalm) (iE G hg) hn (by decide +kernel) ha ⋯ ⋯ sx sy).imp rd
 rw[if_neg c7] at hb;by_cases c8:(nm s==("sum":Str))=true
 .rw[if_pos c8] at hb;injection hb with hb;subst hb
  have ef:nm s=("sum":Str):=by simpa using c8
  rw[ef] at hg hn ⊢;exact(mB (MF hcalm) (iE G hg) hn boot_sum ha ⋯ ⋯ sx sy).imp rd
 rw[if_neg c8] at hb;by_cases c9:(nm s==("any":Str))=true
 .rw[if_pos c9] at hb;injection hb with hb;subst hb
  have ef:nm s=("any":Str):=by simpa using c9
  rw[ef] at hg hn ⊢;exact(mB (IQ hcalm) (iE G hg) hn (by decide +kernel) ha ⋯ ⋯ sx sy).imp rd
 rw[if_neg c9] at hb;by_cases c10:(nm s==("dict":Str))=true
 .rw[if_pos c10] at hb;injection hb with hb;subst hb
  have ef:nm s=("dict":Str):=by simpa using c10
  rw[ef] at hg hn ⊢;exact(mC (IS hA) (iE G hg) hn (by decide +kernel) ha ⋯ ⋯ sx sy).imp rd
 rw[if_neg c10] at hb;by_cases c11:(nm s==("max":Str))=true
 .rw[if_pos c11] at hb;injection hb with hb;subst hb
  have ef:nm s=("max":Str):=by simpa using c11
  rw[ef] at hg hn ⊢;exact(mB (MG hcalm) (iE G hg) hn (by decide +kernel) ha ⋯ ⋯ sx sy).imp rd
 rw[if_neg c11] at hb;by_cases c12:(nm s==("int":Str))=true
 .rw[if_pos c12] at hb;injection hb with hb;subst hb
  have ef:nm s=("int":Str):=by simpa using c12
  rw[ef] at hg hn ⊢;exact(mC MH (iE G hg) hn (by decide +kernel) ha ⋯ ⋯ sx sy).imp rd
 rw[if_neg c12] at hb;cases hb
theorem FV(G:Good t T Γ k I X)(hg:I.gl ("min":Str)=true)(hg2:I.gl ("len":Str)=true)(hb:"min"∈T.iQ)(hb2:"len"∈T.iQ)(hc:X.calm=true)(h1:noStar a=true)(ha:PE X a (tE (X.cc t) Γ x)):
  PE X (.Call (.Name ("min":Str) p) [a] [#[some "key",.Name ("len":Str) pl,kp]] pos) (tE (X.cc t) Γ (.blt .vg (.cons x .nil))):=by
 refine(FC hc (iE G hg) (G.tab.iQ "min" hb) (iE G hg2) (G.tab.iQ "len" hb2) ha (cY h1)).imp ?_;kd_p;z_go;have w1:PL.rq .vg [u] S1 QU:=w1
 match u,w1 with
 |.loc n,w1=>
  let#[t0,ts,e,hz,w2]:=w1;let#[a,vs,e2,_,g1,g2]:=R1.lst e r1;rw[sT g2] at g1;exact#[a,t0,ts,e2,iU.of g1,hz,(q.later st1).now R1 w2 (bE.mpr rfl)]
end
open PL (U SO bJ KU bZ)
section
variable{t:xE}{T:Tab}{Γ:bZ}{k n:Nat}{I:Inf}{X:Cx}
noncomputable def Va:PL.P4->String
 |.join=>"str"|.index=>"str"|.startswith=>"str"|.append=>"list"|.extend=>"list"|.nj=>"int"|_=>"dict"
theorem IZ(hb:b=.join\/b=.index\/b=.append\/b=.extend\/b=.startswith\/b=.oh)(R:cz c ρ H S)(r:Rep c ρ H u v)(w:PL.ue b u S):Xa c.K (Va b) v H:=by
 rcases hb with rfl|rfl|rfl|rfl|rfl|rfl
 .cases u<;>first|exact aT w| (rw[bE.mp r];rfl)
 .cases u<;>first|exact aT w| (rw[bE.mp r];rfl)
 .cases u<;>first|exact aT w|skip
  let#[us,e,_]:=PL.de.mp (show PL.getL _ _ from w);let#[a,vs,ev,_,h1,_]:=R.lst e r;rw[ev]
  erw[.inl #[rfl,vs,iU.of h1]]
 .cases u<;>first|exact aT w|skip
  let#[us,e,_]:=PL.de.mp (show PL.getL _ _ from w);let#[a,vs,ev,_,h1,_]:=R.lst e r;rw[ev]
  erw[.inl #[rfl,vs,iU.of h1]]
 .cases u<;>first|exact aT w| (rw[bE.mp r];rfl)
 .cases u<;>first|exact aT w|skip
  rename_i n;let#[a,ev,ha]:=d9.mp r;have w:(match S[n]? with|some (.eI _)=>True|some (.ur _)=>True|some (.xt _)=>True|_=>False):=w;rw[ev]
  rwa[.inr (.inr (.inl #[rfl,?_]))];cases hs:S[n]? with
  |none=>rw[hs] at w;erw[w.elim]
  |some o=>
   rw[hs] at w;cases o with
   |eI kvs=>let#[vs,h1,_]:=R.at_ n a _ ha hs;erw[.inl #[vs,h1]]
   |ur kvs=>let#[vs,h1,_]:=R.at_ n a _ ha hs;erw[.inr (.inl #[vs,h1])]
   |xt kvs=>let#[vs,h1,_]:=R.at_ n a _ ha hs;erw[.inr (.inr #[vs,h1])]
   |_=>erw[w.elim]
theorem oR(h:es.all noStar=true)(hn:es.length<20):((eJ cpos (bx es env)).all (λx=>!x.1)&&(backToKw cpos (eO [] env)).all (λx=>x.1.isSome)
   && decide (es.length+([]:List oC).length+(if ([]:List oC).isEmpty then 0 else 1)<30))=true:=by
 have:=xG (pos:=cpos) (env:=env) h hn;unfold BZ at this;erw[this]
theorem QW(G:Good t T Γ k I X)(hb:Qo m=some b)(hA:X.A.handled=none)(h0:gx o=true)(hl:(apos.endLine==cpos.line)=true)(hn:(e::es).length<20)(h1:noStar e=true)(h2:es.all noStar=true)
  (ho:PE X o (tE (X.cc t) Γ x)) (ha:PA X (e::es) (GL (X.cc t) Γ xs)):PE X (.Call (.Attribute o m apos) (e::es) [] cpos) (tE (X.cc t) Γ (.jt b x xs)):=by
 have hst:(e::es).all noStar=true:=by rw[bQ,h1,h2];rfl
 have rd:∀(hb':b=.join\/b=.index\/b=.append\/b=.extend\/b=.startswith\/b=.oh)(σ:St)(H:Hp)(Q:VK),tE (X.cc t) Γ (.jt b x xs) σ H Q->ZY X.K (Va b) (tP (X.cc t) b) (tE (X.cc t) Γ x) (GL (X.cc t) Γ xs) σ H Q:=by
  rintro hb' σ H Q ⟨env,ρ,S,QU,he,R,w,q⟩;refine#[env,ρ,S,_,he,R,w,λu S1 v H1 ρ1 w1 st1 R1 r1=>#[IZ (c:=X.cc t) hb' R1 r1 w1.1,?_]];exact#[env,ρ1,S1,_,he.later R st1,R1,w1.2,λus S2 vs H2 ρ2 w2 st2 R2 r2=>#[u,us,ρ2,S2,QU,r1.mono R1 st2,r2,R2,w2,q.later (st1.trans st2)]]
 unfold Qo at hb;by_cases c1:(m==("join":Str))=true
 .rw[if_pos c1] at hb;injection hb with hb;subst hb
  have ef:m=("join":Str):=by simpa using c1
  subst ef;exact(xm mZ PySem.F.slot_str_join PySem.F.type_str_join (IT rfl) ho ha (fN h0) (oR hst hn) hl (cY h1) (gQ h2)).imp (rd (by simp))
 rw[if_neg c1] at hb;by_cases c2:(m==("index":Str))=true
 .rw[if_pos c2] at hb;injection hb with hb;subst hb
  have ef:m=("index":Str):=by simpa using c2
  subst ef;exact(xm mZ PySem.F.slot_str_index PySem.F.type_str_index (FT hA) ho ha (fN h0) (oR hst hn) hl (cY h1) (gQ h2)).imp (rd (by simp))
 rw[if_neg c2] at hb;by_cases c3:(m==("append":Str))=true
 .rw[if_pos c3] at hb;injection hb with hb;subst hb
  have ef:m=("append":Str):=by simpa using c3
  subst ef;exact(xm wX PySem.F.slot_list_append PySem.F.type_list_append CZ ho ha (fN h0) (oR hst hn) hl (cY h1) (gQ h2)).imp (rd (by simp))
 rw[if_neg c3] at hb;by_cases c4:(m==("extend":Str))=true
 .rw[if_pos c4] at hb;injection hb with hb;subst hb
  have ef:m=("extend":Str):=by simpa using c4
  subst ef;exact(xm wX PySem.F.slot_list_extend PySem.F.type_list_extend C0 ho ha (fN h0) (oR hst hn) hl (cY h1) (gQ h2)).imp (rd (by simp))
 rw[if_neg c4] at hb;by_cases c5:(m==("startswith":Str))=true
 .rw[if_pos c5] at hb;injection hb with hb;subst hb
  have ef:m=("startswith":Str):=by simpa using c5
  subst ef;exact(xm mZ PySem.F.slot_str_startswith PySem.F.type_str_startswith CY ho ha (fN h0) (oR hst hn) hl (cY h1) (gQ h2)).imp (rd (by simp))
 rw[if_neg c5] at hb;by_cases c6:(m==("setdefault":Str))=true
 .rw[if_pos c6] at hb;injection hb with hb;subst hb
  have ef:m=("setdefault":Str):=by simpa using c6
  subst ef;exact(xm iT tZ PySem.F.type_dict_setdefault (IU G.units) ho ha (fN h0) (oR hst hn) hl (cY h1) (gQ h2)).imp (rd (by simp))
 rw[if_neg c6] at hb;cases hb
theorem MN(G:Good t T Γ k I X)(h0:gx o=true)(hl:(apos.endLine==cpos.line)=true)(ho:PE X o (tE (X.cc t) Γ x)):
  PE X (.Call (.Attribute o ("bit_length":Str) apos) [] [] cpos) (tE (X.cc t) Γ (.jt .nj x .nil)):=by
 refine(HJ PySem.F.plainAttrs_int PySem.F.slot_int_bit_length PySem.F.type_int_bit_length (CW (c:=X.cc t)) ho (fN h0) hl).imp ?_;kd_p;refine#[env,ρ,S,_,he,R,w,λu S1 v H1 ρ1 w1 st1 R1 r1=>#[?_,u,[],ρ1,S1,QU,r1,aX.nil,R1,w1.2,q.later st1]];cases u<;>first|exact aT w1.1| (rw[aP.mp r1];rfl)
theorem QX(G:Good t T Γ k I X)(h0:gx o=true)(hl:(apos.endLine==cpos.line)=true)(h1:noStar a=true)(h2:noStar d=true)(ho:PE X o (tE (X.cc t) Γ x))
  (ha:PE X a (tE (X.cc t) Γ y)) (hd:PE X d (tE (X.cc t) Γ z)):PE X (.Call (.Attribute o ("get":Str) apos) [a,d] [] cpos) (tE (X.cc t) Γ (.jt .get x (.cons y (.cons z .nil)))):=by
 have hst:[a,d].all noStar=true:=by rw[bQ,bQ,h1,h2];rfl
 refine(HU (by have:=G.units;show X.A.units+1<eL;omega) ho ha hd #[fN h0,oR hst (show 2<20 by decide),hl,by
  rw[cY (e:=a) (es:=[d]) h1,cY (e:=d) (es:=[]) h2];rfl]).imp ?_
 kd_p;z_go;let#[w1,w2]:=w1;cases u<;>first|exact aT w1|skip
 rename_i n;let#[kvs,e,_]:=PL.iW.mp (show PL.iV _ _ from w1);let#[a1,vs,e1,ha1,g1,g2,g3,g4]:=R1.dd e r1;refine#[a1,e1,.inl #[vs,g1],env,ρ1,S1,_,he.later R st1,R1,w2,λu2 S2 v2 H2 ρ2 w3 st2 R2 r2=>?_];refine#[env,ρ2,S2,_,(he.later R st1).later R1 st2,R2,w3,λu3 S3 v3 H3 ρ3 w4 st3 R3 r3=>?_];have r2':=r2.mono R2 st3;cases u2<;>first|exact aT w4|skip
 rename_i k;let#[kvs',e',ps,ep,w5]:=PL.AK.mp (show PL.getD _ _ from w4);let#[vs',f1,f2,f3,f4]:=R3.at_ n a1 _ (st3.get (st2.get ha1)) e';subst ep;have g:=sI.k (k:=i3 (some (tx k))) f1;rw[bE.mp r2']
 rcases MI (k:=k) f2 f3 f4 with⟨l1,l2⟩|⟨u',v',l1,l2,l3⟩
 .rw[l2] at g
  rw[l1] at w5;exact#[none,g,(q.later ((st1.trans st2).trans st3)).now R3 w5 r3]
 .rw[l2] at g
  rw[l1] at w5;exact#[some v',g,(q.later ((st1.trans st2).trans st3)).now R3 w5 l3]
theorem MP(G:Good t T Γ k I X)(h0:gx o=true)(hl:(apos.endLine==cpos.line)=true)(h1:noStar a=true)(ho:PE X o (tE (X.cc t) Γ x))
  (ha:PE X a (tE (X.cc t) Γ y)):PE X (.Call (.Attribute o ("get":Str) apos) [a] [] cpos) (tE (X.cc t) Γ (.jt .get x (.cons y .nil))):=by
 have hst:[a].all noStar=true:=by rw[bQ,h1];rfl
 refine(HS (by have:=G.units;show X.A.units+1<eL;omega) ho ha #[fN h0,oR hst (show 1<20 by decide),hl,by
  rw[cY (e:=a) (es:=[]) h1];rfl]).imp ?_
 kd_p;z_go;let#[w1,w2]:=w1;cases u<;>first|exact aT w1|skip
 rename_i n;let#[kvs,e,_]:=PL.iW.mp (show PL.iV _ _ from w1);let#[a1,vs,e1,ha1,g1,g2,g3,g4]:=R1.dd e r1;refine#[a1,e1,.inl #[vs,g1],env,ρ1,S1,_,he.later R st1,R1,w2,λu2 S2 v2 H2 ρ2 w3 st2 R2 r2=>?_];have r1':=r1.mono R1 st2;have w3:PL.rA .get (.loc n) [u2] S2 QU:=w3;have w3:PL.iV S2[n]? λkvs=>PL.nq u2=true/\QU ((PL.vh u2 kvs).getD .bV) S2:=by cases u2<;>exact w3
 let#[kvs',e',hk,w5]:=PL.iW.mp w3;let#[a2,vs',e2,_,f1,f2,f3,f4]:=R2.dd e' r1';rw[e1] at e2;cases e2;have g:sI H2 a1 v2 (js vs' (vw u2)):=.inl #[vs',vw u2,f1,j6 hk r2,rfl];rcases rM hk f2 f3 f4 with⟨l1,l2⟩|⟨u',v',l1,l2,l3⟩
 .rw[l2] at g
  rw[l1] at w5;exact#[none,g,(q.later (st1.trans st2)).now R2 w5 (eR.mpr rfl)]
 .rw[l2] at g
  rw[l1] at w5;exact#[some v',g,(q.later (st1.trans st2)).now R2 w5 l3]
theorem QY(G:Good t T Γ k I X)(hs:lU b=true)(ha:PE X a (tE (X.cc t) Γ x))(hb:PE X b (tE (X.cc t) Γ y)):PE X (.Subscript a b pos) (tE (X.cc t) Γ (.L9 x y)):=by
 refine(LS (by have:=G.units;show X.A.units+1<eL;omega) ha hb (by cases b<;>first|exact ff hs| (intro _ _;rfl))).imp ?_;rintro σ H Q ⟨env,ρ,S,QU,he,R,w,q⟩;refine#[env,ρ,S,_,he,R,w,λu S1 v H1 ρ1 w1 st1 R1 r1=>?_];refine#[env,ρ1,S1,_,he.later R st1,R1,w1,λu2 S2 v2 H2 ρ2 w2 st2 R2 r2=>?_];obtain⟨n,rfl,w2⟩:=PL.i8.mp (show PL.uu _ _ from w2);obtain⟨kvs,e,hk,w3⟩:=PL.iW.mp w2;obtain⟨u',l1,w4⟩:=PL.i7.mp w3;obtain⟨a1,vs,e1,ha1,g1,g2,g3,g4⟩:=R2.dd e (r1.mono R1 st2);rcases rM hk g2 g3 g4 with⟨z1,_⟩|⟨u3,v',z1,l2,l3⟩
 .rw[l1] at z1;cases z1
 .rw[l1] at z1;cases z1
  exact#[a1,v',e1,.inl #[vs,vw u2,g1,j6 hk r2,l2.symm],(q.later (st1.trans st2)).now R2 w4 l3]
theorem MQ:PE X (.Dict [] [] pos) (tE (X.cc t) Γ (.eI .nil .nil)):=by
 refine(Mg).imp ?_;kd_p;have w:QU (.loc S.length) (S++[.eI []])\/QU (.loc S.length) (S++[.ur []])\/QU (.loc S.length) (S++[.xt []]):=w.2;have al:∀{ho:HO}{o:SO},QU (.loc S.length) (S++[o])->(∀p,ui (X.cc t) (ρ++[p]) (upd H p ho) p o)->∀p,H p=none->Q (.ref p) (upd H p ho):=λw z p hp=>by
  rwa[q _ _ _ _ _ w (iA.alloc R hp _) (R.alloc hp (z p)) (d9.mpr #[p,rfl,?_])];rw[<-R.len,aw (aq _),bR];rfl
 rcases w with w|w|w
 .exact#[.dK [],.inl rfl,al w λp=>#[[],cg,rfl,aX.nil,aX.nil]]
 .exact#[.dT [],.inr (.inl rfl),al w λp=>#[[],cg,rfl,aX.nil]]
 .exact#[.dP [],.inr (.inr rfl),al w λp=>#[[],cg,rfl,aX.nil]]
theorem MR(G:Good t T Γ k I X)(hg:I.gl ("list":Str)=true)(hb:"list"∈T.iQ)(hc:X.calm=true)(h0:gx o=true)(hl:(ap.endLine==cp.line)=true)(ho:PE X o (tE (X.cc t) Γ x)):
  PE X (.Call (.Name ("list":Str) p) [.Call (.Attribute o ("values":Str) ap) [] [] cp] [] pos) (tE (X.cc t) Γ (.jt .vals x .nil)):=by
 refine(mC (CQ hc) (iE G hg) (G.tab.iQ "list" hb) (by decide +kernel)
  (pe (HJ iT wk PySem.F.type_dict_values FL ho (fN h0) hl) uW (cY rfl)) ⋯ ⋯ (cY rfl) rfl).imp ?_
 kd_p;z_go;let#[w1,w2]:=w1;cases u<;>first|exact aT w1|skip
 rename_i n;let#[a,ev,ha]:=d9.mp r1;have w2:PL.rA .vals (.loc n) [] S1 QU:=w2;have w2:(match S1[n]? with|some (.ur kvs)=>QU (.loc S1.length) (S1++[.lst (kvs.map (·.2))])|_=>False):=w2;cases hs:S1[n]? with
 |none=>rw[hs] at w2;erw[w2.elim]
 |some o=>
  rw[hs] at w2;cases o with
  |ur kvs=>
   let#[vs,g1,g2,g3]:=R1.at_ n a _ ha hs;refine#[by rw[ev];erw[.inr (.inr (.inl #[rfl,.inr (.inl #[vs,g1])]))],a,vs,ev,rfl,g1,λp hp=>?_];have st2:=iA.lay R1 hp (UE p a);exact#[p,a,vs,rfl,cg,by rw[cb (dB g1 hp)];erw[g1],λl hl=>(q.later (st1.trans st2)).FO (R1.lay hp _) (g3.mono R1 st2) w2 hl]
  |_=>erw[w2.elim]
theorem MS(G:Good t T Γ k I X)(hg:I.gl (nm q)=true)(hc:I.calm=true)(hq:q∈T.fns)(hd:(nm q==("__debug__":Str))=false)(h1:noStar e=true)(h2:es.all noStar=true)
  (ha:PA X (e::es) (GL (X.cc t) Γ xs)):PE X (.Call (.Name (nm q) p) (e::es) [] pos) (tE (X.cc t) Γ (.call q xs)):=by
 let#[f,hm,hk,fd,ps,F,B]:=G.QG.fns q hq;refine(Zv (k:=k) F ((G.calm hc).2.mono (jk k)) (iE G hg) hm hk B ha hd h1 h2).imp ?_;rintro σ H Q ⟨env,ρ,S,QU,he,R,w,qq⟩;refine#[env,ρ,S,_,he,R,w,λus S1 vs H1 ρ1 w1 st1 R1 r1=>?_];exact#[us,ρ1,S1,QU,r1,R1,w1,qq.later st1]
theorem I8(G:Good t T Γ k I X)(hg:I.gl (nm q)=true)(hc:I.calm=true)(hq:q∈T.fns)(hd:(nm q==("__debug__":Str))=false):PE X (.Call (.Name (nm q) p) [] [] pos) (tE (X.cc t) Γ (.call q .nil)):=by
 let#[f,hm,hk,fd,ps,F,B]:=G.QG.fns q hq;refine(HC (k:=k) F ((G.calm hc).2.mono (jk k)) (iE G hg) hm hk B .nil xp hd).imp ?_;rintro σ H Q ⟨env,ρ,S,QU,he,R,w,qq⟩;exact#[[],ρ,S,QU,aX.nil,R,w,qq]
theorem A0(R:cz c ρ H S)(hc:c.cls cn=some C)(hx:H x=none)(hd:H dx=none)(ne:dx≠x):
  iA ρ H (ρ++[x]) (upd (upd H dx (.own x)) x (.ins C dx []))/\cz c (ρ++[x]) (upd (upd H dx (.own x)) x (.ins C dx [])) (S++[.ins cn []])/\Rep c (ρ++[x]) (upd (upd H dx (.own x)) x (.ins C dx [])) (.loc S.length) (.ref x):=by
 have R1:=R.lay hd (.own x);have s1:=iA.lay R hd (.own x);have hx1:upd H dx (.own x) x=none:=by rw[cb (cR ne)];erw[hx]
 have s2:=iA.alloc R1 hx1 (.ins C dx []);refine#[s1.trans s2,R1.alloc hx1 #[C,dx,[],hc,cg,rfl,aX.nil],d9.mpr #[x,rfl,?_]];rw[<-R.len,aw (aq _),bR];rfl
theorem Vb(G:Good t T Γ k I X)(hg:I.gl (nm q)=true)(hc:I.calm=true)(hq:q∈T.qy)(hd:(nm q==("__debug__":Str))=false)(h1:noStar e=true)(h2:es.all noStar=true)
  (ha:PA X (e::es) (GL (X.cc t) Γ xs)):PE X (.Call (.Name (nm q) p) (e::es) [] pos) (tE (X.cc t) Γ (.mk q (q++".__init__") xs)):=by
 let#[C,f,hC,hm,M,fd,ps,F,B]:=G.QG.cls q hq;refine(Zx (k:=k) M F (G.calm hc).2 (iE G hg) hm B ha hd h1 h2).imp ?_;rintro σ H Q ⟨env,ρ,S,QU,he,R,w,qq⟩;refine#[env,ρ,S,_,he,R,w,λus S1 vs H1 ρ1 w1 st1 R1 r1=>?_];intro x dx hx hdx ne;let#[s2,R2,r2]:=A0 R1 hC hx hdx ne;refine#[_,ρ1++[x],_,_,aX.cons r2 (r1.mono R1 s2),R2,w1,λu S3 v H3 ρ3 w3 st3 R3 r3=>?_];let#[rfl,w4]:=w3;exact#[eR.mp r3,qq _ _ _ _ _ w4 ((st1.trans s2).trans st3) R3 (r2.mono R2 st3)]
theorem QZ(G:Good t T Γ k I X)(hg:I.gl (nm q)=true)(hc:I.calm=true)(hq:q∈T.qy)(hd:(nm q==("__debug__":Str))=false):PE X (.Call (.Name (nm q) p) [] [] pos) (tE (X.cc t) Γ (.mk q (q++".__init__") .nil)):=by
 let#[C,f,hC,hm,M,fd,ps,F,B]:=G.QG.cls q hq;refine(HE (k:=k) M F (G.calm hc).2 (iE G hg) hm B .nil xp hd).imp ?_;rintro σ H Q ⟨env,ρ,S,QU,he,R,w,qq⟩;intro x dx hx hdx ne;let#[s2,R2,r2]:=A0 R hC hx hdx ne;refine#[_,ρ++[x],_,_,aX.cons r2 aX.nil,R2,w,λu S3 v H3 ρ3 w3 st3 R3 r3=>?_];let#[rfl,w4]:=w3;exact#[eR.mp r3,qq _ _ _ _ _ w4 (s2.trans st3) R3 (r2.mono R2 st3)]
theorem lookup_none:∀{fs:List (String×U)}{vs:List (Str×V)}{m:String},vs.map (·.1)=(fs.map (·.1)).map nm->fs.lookup m=none->vs.lookup (nm m)=none
 |[],[],_,_,_=>rfl
 |[],_::_,_,e,_=>by simp at e
 |_::_,[],_,e,_=>by simp at e
 | (g,w)::fs,(a,v)::vs,m,e,h=>by
  dsimp[ay,dE] at e;rw[aO] at h ⊢;by_cases z:m=g
  .subst z;simp at h
  .have z1:(m==g)=false:=by simp[z]
   rw[z1] at h;have z2:(nm m==a)=false:=by
    rw[e.1]
    dsimp[beq_eq_false_iff_ne,ne_eq];erw[λq=>z (vz _ _ q)]
   rw[z2]
   erw[lookup_none e.2 h]
theorem MT(G:Good t T Γ k I X)(hc:I.calm=true)(hq:(m,q)∈T.qz)(h0:gx o=true)(hl:(apos.endLine==pos.line)=true)(hn:(e::es).length<20)(h1:noStar e=true)(h2:es.all noStar=true)
  (ho:PE X o (tE (X.cc t) Γ x)) (ha:PA X (e::es) (GL (X.cc t) Γ xs)):PE X (.Call (.Attribute o (nm m) apos) (e::es) [] pos) (tE (X.cc t) Γ (.cL q m (q++"."++m) x xs)):=by
 let#[C,f,hC,M,fd,ps,F,B]:=G.QG.SX (m,q) hq;refine(Zw (k:=k) ho (G.tab.cls q C hC).1 M F ((G.calm hc).2.mono (jk k)) B ha h0 hn hl h1 h2).imp ?_;rintro σ H Q ⟨env,ρ,S,QU,he,R,w,qq⟩;z_go;let#[l,e1,w2]:=PL.i8.mp w1;subst e1;let#[c',fs,e2,#[rfl,e3],w3]:=PL.mG.mp w2;let#[a,C',dx,vs,ev,_,hC',ha',hnn,_]:=R1.ins e2 r1;rw[hC] at hC';injection hC' with hC';subst hC'
 refine#[a,dx,vs,ev,ha',lookup_none hnn e3,?_];refine#[env,ρ1,S1,_,he.later R st1,R1,w3,λus S2 vs2 H2 ρ2 w4 st2 R2 r2=>?_];exact#[_,ρ2,S2,QU,aX.cons (r1.mono R1 st2) r2,R2,w4,qq.later (st1.trans st2)]
theorem I9(G:Good t T Γ k I X)(hc:I.calm=true)(hq:(m,q)∈T.qz)(h0:gx o=true)(hl:(apos.endLine==pos.line)=true)
  (ho:PE X o (tE (X.cc t) Γ x)):PE X (.Call (.Attribute o (nm m) apos) [] [] pos) (tE (X.cc t) Γ (.cL q m (q++"."++m) x .nil)):=by
 let#[C,f,hC,M,fd,ps,F,B]:=G.QG.SX (m,q) hq;refine(HD (k:=k) ho (G.tab.cls q C hC).1 M F ((G.calm hc).2.mono (jk k)) B .nil xp (xH h0 rfl ⋯ hl)).imp ?_;rintro σ H Q ⟨env,ρ,S,QU,he,R,w,qq⟩;z_go;let#[l,e1,w2]:=PL.i8.mp w1;subst e1;let#[c',fs,e2,#[rfl,e3],w3]:=PL.mG.mp w2;let#[a,C',dx,vs,ev,_,hC',ha',hnn,_]:=R1.ins e2 r1;rw[hC] at hC';injection hC' with hC';subst hC'
 refine#[a,dx,vs,ev,ha',lookup_none hnn e3,?_];exact#[_,ρ1,S1,QU,aX.cons r1 aX.nil,R1,w3,qq.later st1]
end
open PL (U SO bJ KU bZ)
section
variable{t:xE}{T:Tab}{Γ:bZ}{k n:Nat}{I:Inf}{X:Cx}
theorem Oj{x:Str}{n:String}{pos:Pos}(G:Good t T Γ k I X)(g:I.gl x=true)(c:(x==(n:Str)&&T.iQ.contains n)=true)(hv:kg (n:Str)=some (.type n))(hn:(n:Str)≠"__name__")(hd:((n:Str)== ("__debug__":Str))=false):PE X (.Name x pos) (tC (.ty n)):=by
 rw[aj] at c;obtain rfl:x=(n:Str):=eq_of_beq c.1;exact Li (iE G g) (G.tab.iQ n (by simpa using c.2)) hv rfl hn hd
theorem Q0(G:Good t T Γ k I X)(hh:Zd T I e=some ty):∃n:String,noStar e=true/\kitOne X.K (.type "int") (.type n)=some ty/\PE X e (tC (.ty n)):=by
 let#[x,h0,h]:=au.mp hh;let#[pos,rfl]:=D6 h0;by_cases g:I.gl x=true
 case neg=>rw[if_neg g] at h;erw[nn h]
 rw[if_pos g] at h;by_cases c:(x==("int":Str)&&T.iQ.contains "int")=true
 .rw[if_pos c] at h;obtain rfl:=aF h
  exact#[_,rfl,rfl,Oj G g c (by decide +kernel) ⋯ ⋯]
 rw[if_neg c] at h;clear c;by_cases c:(x==("bool":Str)&&T.iQ.contains "bool")=true
 .rw[if_pos c] at h;obtain rfl:=aF h
  exact#[_,rfl,rfl,Oj G g c (by decide +kernel) ⋯ ⋯]
 rw[if_neg c] at h;erw[nn h]
theorem FW{n:String}{b:Bool}(e:kitOne X.K (.type "int") (.type n)=some b):gv X (.builtin "isinstance") (λxs H Q=>∃i,xs=[.int i,.ty n]/\Q (.bl b) H):=by
 w_up;let#[i,rfl,q]:=h;let#[ux,uc,rfl,#[t,rfl],rc]:=r.two;cases (show uc=EO n from rc);erw[kia_one kitx_int I.yo trivial e (λz=>nomatch z) λtk=>#[.bl b,H,I.tok tk,rfl,q]]
theorem Q2(G:Good t T Γ k I X)(hg:I.gl ("isinstance":Str)=true)(hb:"isinstance"∈T.iQ)(h1:noStar a=true)(hc:Zd T I c=some ty)(ha:PE X a (tE (X.cc t) Γ x)):
  PE X (.Call (.Name ("isinstance":Str) p) [a,c] [] pos) (tE (X.cc t) Γ (.SN x ty)):=by
 let#[n,h2,e1,hp]:=Q0 G hc;refine(mB (FW e1) (iE G hg) (G.tab.iQ "isinstance" hb) boot_isinstance (pe ha (pe hp uW (cY h2)) (cY h1)) ⋯ ⋯ (cY h1) (gQ (by simp[h2]))).imp ?_;rintro σ H Q ⟨env,ρ,S,QU,he,R,w,q⟩;refine#[env,ρ,S,_,he,R,w,λu S1 v H1 ρ1 w1 st1 R1 r1=>?_];let#[i,rfl,w2]:=PL.eQ.mp w1;rw[aP.mp r1]
 exact#[i,rfl,(q.later st1).now R1 w2 (dZ.mpr rfl)]
end
open PL (U SO bJ KU bZ)
theorem Q3(hl:PE X l tl):PI X tg l (λσ H R=>tl σ H λx H1=>(∃a,x=.ref a/\(∃xs,iU X.K H1 a xs)/\R (XU X.K a) H1)\/(∃a,x=.ref a/\(∃xs,mq X.K H1 a xs)/\R (XW X.K a) H1)\/∃z,x=.str z/\R (Uv z) H1):=by
 intro pZ s σ H R I h;rwa[dW (hl pZ s σ H _ I h) λv s1 h9=>?_]
 let#[x,H1,I1,r1,q1]:=h9;rcases q1 with⟨a,e,⟨xs,hq⟩,q⟩|⟨a,e,⟨xs,hq⟩,q⟩|⟨z,e,q⟩
 .subst e
  cases r1;let#[its,rv,p,hz]:=I1.list hq;rwa[ki p.isList ?_];refine#[s1.heap.objs.size,[s1.heap.objs.size],_,_,H1,rfl,I1.kept (t':=s1.toks) λb o e=>aI _ e,Fd a _,#[_,bb _ rfl,rfl,rfl],λb hb=>?_,q];have e:b=s1.heap.objs.size:=by simpa using hb
  subst e;erw[I1.B9 (aq _) (I1.dD.fresh (aq _))]
 .subst e
  cases r1;let#[its,rv,p,hz]:=I1.tuple hq;rwa[wpAny_pyIter_tuple (show s1.heap.IsTuple a its.toArray from p) ?_];refine#[s1.heap.objs.size,[s1.heap.objs.size],_,_,H1,rfl,I1.kept (t':=s1.toks) λb o e=>aI _ e,Ca a _,#[_,bb _ rfl,rfl,rfl],λb hb=>?_,q];have e:b=s1.heap.objs.size:=by simpa using hb
  subst e;erw[I1.B9 (aq _) (I1.dD.fresh (aq _))]
 .subst e
  let#[t,rfl]:=r1;have fin:∀(b:Bool)(o:Obj),o={cls:=.type (if b then "str_ascii_iterator" else "str_iterator"),data:=.fields (List.toArray [.str z t,.int 0 0])}->XT X pZ σ tg R (.ref s1.heap.objs.size) {s1 with heap:=s1.heap.push o}:=λb o eo=>by
   refine#[s1.heap.objs.size,[s1.heap.objs.size],_,Uv z,H1,rfl,I1.kept (t':=s1.toks) λb o e=>aI _ e,HY _ z t b,#[_,bb _ (by rw[eo];rfl),by rw[eo],by rw[eo];rfl],λc hc=>?_,q];have e:c=s1.heap.objs.size:=by simpa using hc
   subst e;erw[I1.B9 (aq _) (I1.dD.fresh (aq _))]
  cases ha:z.cps.all (·<128)
  .erw[wpAny_pyIter_wide ha (fin false _ rfl)]
  .erw[wpAny_pyIter_ascii ha (fin true _ rfl)]
section
variable{c:Ctx}{ρ:List Addr}{H:Hp}{S:bJ}
theorem MU{n:Nat}{us:List U}{a:Addr}(ha:ρ[n]?=some a):C1 c ρ H (XU c.K a) us (λS'=>S'[n]?=some (.lst us)):=by
 intro i ρ2 H2 S2 st R g;let#[vs,h1,h2]:=R.at_ n a _ (st.get ha) g;refine#[λu hu=>?_,λhl=>#[vs,iU.of h1,by rw[<-h2.len];erw[hl]]];let#[v,e,r]:=h2.get hu;refine#[#[vs,v,iU.of h1,e],λy H3 h9=>?_];let#[e3,hy]:=h9;subst e3;have:=hy vs (iU.of h1);rw[e] at this;injection this with this;subst this
 exact#[.refl,R,r]
theorem Q4(R0:cz c ρ H S)(h1:H a=some (.tup vs))(h2:aX c ρ H us vs):C1 c ρ H (XW c.K a) us (λ_=>True):=by
 intro i ρ2 H2 S2 st R g;have h1':=st.fr a _ h1 (R0.not h1 rfl);have h2':=h2.mono R0 st;refine#[λu hu=>?_,λhl=>#[vs,mq.of h1',by rw[<-h2'.len];erw[hl]]];let#[v,e,r]:=h2'.get hu;refine#[#[vs,v,mq.of h1',e],λy H3 h9=>?_];let#[e3,hy]:=h9;subst e3;have:=hy vs (mq.of h1');rw[e] at this;injection this with this;subst this
 exact#[.refl,R,r]
theorem Q5:C1 c ρ H (Uv (tx l)) (l.map λd=>.str [d]) (λ_=>True):=by
 intro i ρ2 H2 S2 st R g;refine#[λu hu=>?_,λhl=>?_]
 .rw[aB] at hu
  let#[d,e,e2]:=ar.mp hu;subst e2;refine#[?_,λy H3 #[e3,d',e4,e5]=>?_]
  .show i<(tx l).cps.size
   have:=(ae.mp e).1;simpa using this
  .subst e3
   have:l[i]?=some d':=by simpa using e4
   rw[e] at this;injection this with this;subst this
   rw[e5]
   exact#[.refl,R,bE.mpr rfl]
 .show(tx l).cps.size<=i
  simpa using hl
theorem MV{n:Nat}{us:List U}{a:Addr}(ha:ρ[n]?=some a):C1 c ρ H (Xg c.K a) (us.mapIdx λi u=>.tup [.int (i:Nat),u]) (λS'=>S'[n]?=some (.lst us)):=by
 intro i ρ2 H2 S2 st R g;let#[vs,h1,h2]:=R.at_ n a _ (st.get ha) g;refine#[λu hu=>?_,λhl=>#[vs,iU.of h1,by rw[<-h2.len];simpa using hl]];rw[fh] at hu;let#[u',e0,e1]:=ar.mp hu;subst e1;let#[v,e,r]:=h2.get e0;refine#[#[vs,v,iU.of h1,e],λy H3 h9=>?_];let#[p,x,hp,e3,e4,hy]:=h9;have:=hy vs (iU.of h1);rw[e] at this;injection this with this;subst this
 subst e3 e4;have st':=iA.lay R hp (.tup [.int (i:Nat),v]);exact#[st',R.lay hp _,dG.mpr #[p,_,rfl,cg,aX.cons (aP.mpr rfl) (aX.cons (r.mono R st') aX.nil)]]
theorem Ee{n:Nat}{a:Addr}{o:Obj}{kvs:List (U×U)}{vs:List (Key×V)}(ha:ρ[n]?=some a)(h:H a=some (.sk o (.dK vs))):C1 c ρ H (SK a o vs) (kvs.map (·.1)) (λS'=>S'[n]?=some (.vf kvs)):=by
 intro i ρ2 H2 S2 st R g;have e:=st.fz a o vs h;let#[o',vs',h1,h2,h3,_]:=R.at_ n a _ (st.get ha) g;rw[e] at h1;cases h1;refine#[λu hu=>?_,λhl=>#[e,by rw[h2];simpa using hl]];have hi:i<vs.length:=by rw[h2];have:=(ae.mp hu).1;simpa using this
 refine#[#[e,hi],λy H3 h9=>?_];let#[e3,k,v,e4,e5]:=h9;subst e3 e5;let#[v2,e6,r]:=h3.get hu;rw[aB,e4] at e6;cases e6;exact#[.refl,R,r]
theorem Ja:C1 c ρ H (W7 0 n) ((bX n).map λk=>.int (k:Nat)) (λ_=>True):=by
 intro i ρ2 H2 S2 st R g;refine#[λu hu=>?_,λhl=>?_]
 .rw[aB] at hu
  let#[d,e,e2]:=ar.mp hu;subst e2;have hi:=(ae.mp e).1;rw[jx] at hi;rw[iG hi] at e;injection e with e;subst e
  refine#[hi,λy H3 h9=>?_];let#[e3,e4]:=h9;subst e3;subst e4;exact#[.refl,R,aP.mpr (by simp)]
 .show n<=i
  simpa using hl
end
section
variable{t:xE}{T:Tab}{Γ:bZ}{k n:Nat}{I:Inf}{X:Cx}
theorem Q6{e tg:Expr}{x:PL.Ex}(h:PE X e (tE (X.cc t) Γ x)):PI X tg e (AY (X.cc t) Γ (.val x)):=by
 rwa[λpins' s σ H Q J z=>Q3 h pins' s σ H Q J ?_]
 let#[env,ρ,S,RU,he,R,w,q]:=z;z_go;cases u with
 |str l=>rw[bE.mp r1];erw[.inr (.inr #[_,rfl,q _ _ _ _ _ _ w1 st1 R1 Q5])]
 |tup us=>
  let#[a,vs,e1,h1,h2]:=dG.mp r1;erw[.inr (.inl #[a,e1,#[vs,mq.of h1],q _ _ _ _ _ _ w1.2 st1 R1 (Q4 R1 h1 h2)])]
 |loc m=>
  let#[us,e0,w2]:=PL.de.mp (show PL.getL _ _ from w1);let#[a,vs,e1,ha,h1,h2]:=R1.lst e0 r1;erw[.inl #[a,e1,#[vs,iU.of h1],q _ _ _ _ _ _ w2 st1 R1 (MU ha)]]
 |_=>erw[aT w1]
theorem MX{e tg:Expr}{x:PL.Ex}(h:PE X e (tE (X.cc t) Γ x)):PI X tg e (AY (X.cc t) Γ (.keys x)):=by
 rwa[λpins' s σ H Q J z=>LY h pins' s σ H Q J ?_]
 let#[env,ρ,S,RU,he,R,w,q]:=z;z_go;let#[n,rfl,w1]:=PL.i8.mp (show PL.uu _ _ from w1);let#[kvs,e,w2]:=PL.iW.mp w1;let#[a,ev,ha]:=d9.mp r1;rcases e with e|e
 .let#[vs,g1,g2,g3,g4]:=R1.at_ n a _ ha e
  refine#[a,vs,ev,.inl #[g1,λo=>?_]];have st2:=iA.put (H:=H1) (af ha) g1 rfl (.sk o (.dK vs));erw[q _ _ _ _ _ _ w2 (st1.trans st2) (R1.put ha g1 rfl #[o,vs,cg,g2,g3.mono R1 st2,g4.mono R1 st2]) (Ee ha cg)]
 .let#[o,vs,g1,g2,g3,g4]:=R1.at_ n a _ ha e
  have es:S1.set n (.vf kvs)=S1:=by
   let#[hl,e2]:=ae.mp e;rw[<-e2];erw[List.set_getElem_self hl]
  rw[es] at w2;exact#[a,vs,ev,.inr #[o,g1,q _ _ _ _ _ _ w2 st1 R1 (Ee ha g1)]]
theorem Jb(G:Good t T Γ k I X)(hg:I.gl ("range":Str)=true)(hb:"range"∈T.iQ)(h1:noStar a=true)(h:PE X a (tE (X.cc t) Γ x)):
  PI X tg (.Call (.Name ("range":Str) p) [a] [] pos) (AY (X.cc t) Γ (.range x)):=by
 rwa[λpins' s σ H Q J z=>Fe (iE G hg) (G.tab.iQ "range" hb) (pe h uW (cY h1)) (cY h1) pins' s σ H Q J ?_]
 let#[env,ρ,S,RU,he,R,w,q]:=z;z_go;let#[j,e,w2,w3,w4]:=PL.eQ.mp w1;subst e;exact#[j,by rw[aP.mp r1],∅,∅,q _ _ _ _ _ _ w4 st1 R1 Ja]
theorem Zy{n:Nat}{e:Expr}{x:PL.It}{es:List Expr}{ek:Nat}{tp:Pos}(IH:FU t T Γ k n)(G:Good t T Γ k I X)(h:cN T (n+1) I e=some x):PI X (.Tuple es ek tp) e (AY (X.cc t) Γ x):=by
 rw[Zj] at h;delta stN at h;split at h
 .rename_i f a hr
  let#[p,cp,rfl]:=Og hr;split at h
  .rename_i hc
   dsimp[aj] at hc;let#[#[#[c1,c2],c3],c4]:=hc;have ef:f=("enumerate":Str):=by simpa using c1
   subst ef;let#[y,h1,h2]:=ar.mp h;subst h2;refine λpins' s σ H Q J z=>Me (iE G c2) (G.tab.iQ "enumerate" (by simpa using c3)) (pe (IH.fe G h1) uW (cY c4)) (cY c4) pins' s σ H Q J ?_
   let#[env,ρ,S,RU,he,R,w,q]:=z;z_go;let#[m,e,w2]:=PL.i8.mp w1;subst e;let#[us,e0,w3]:=PL.de.mp w2;let#[b,vs,e1,hb,g1,g2]:=R1.lst e0 r1;subst e1;exact#[b,rfl,#[vs,iU.of g1],q _ _ _ _ _ _ w3 st1 R1 (MV hb)]
  .erw[nn h]
 .erw[nn h]
theorem MY:∀{n:Nat}{I:Inf}{e:Expr}{x:PL.Ex},cE T n I e=some x->noStar e=true:=by
 intro n I e x h;cases n with
 |zero=>erw[nn h]
 |succ n=>
  cases e<;>first|rfl|exact nn h
theorem Vc(IH:FU t T Γ k n)(G:Good t T Γ k I X)(h:cI T (n+1) I e=some x):PI X tg e (AY (X.cc t) Γ x):=by
 have gen:∀{x:PL.It},(cE T n I e).map PL.It.val=some x->PI X tg e (AY (X.cc t) Γ x):=λh=>by
  let#[y,h1,h2]:=ar.mp h;subst h2;erw[Q6 (IH.fe G h1)]
 rw[Zh] at h;delta stI at h;split at h
 .rename_i f a hr
  let#[p,cp,rfl]:=Og hr;split at h
  .rename_i hf
   split at h
   .rename_i hc
    rw[aj] at hc;let#[y,h1,h2]:=ar.mp h;subst h2;have ef:f=("range":Str):=by simpa using hf
    subst ef;exact Jb G hc.1 (by simpa using hc.2) (MY h1) (IH.fe G h1)
   .erw[nn h]
  .erw[gen h]
 .split at h
  .let#[y,h1,h2]:=ar.mp h
   subst h2;erw[MX (IH.fe G h1)]
  .erw[gen h]
end
open PL (U SO bJ KU bZ)
section
variable{c:Ctx}{ρ ρ2:List Addr}{H H2:Hp}{S:bJ}
theorem iA.Vd(a:iA ρ H ρ2 H2)(h:H D=none):iA ρ H (ρ2++[D]) H2:=by
 let#[m,e]:=a.pre;refine#[#[m++[D],by rw[e,bP]],λb hb nb=>?_,a.fr,a.fz];rcases aL.mp hb with z|z
 .erw[a.new b z nb]
 .rw[bC.mp z];erw[h]
theorem iA.AW(a:iA ρ H ρ2 H2)(h:H D=none)(o:HO):iA ρ H ρ2 (upd H2 D o):=
 #[a.pre,a.new,λb o' h1 h2=>by rw[cb (dB h1 h)];erw[a.fr b o' h1 h2],λb o' vs h1=>by rw[cb (dB h1 h)];erw[a.fz b o' vs h1]]
theorem iA.out(a:iA ρ H ρ2 H2)(h:H D=some o)(n:D∉ρ):D∉ρ2/\H2 D=some o:=by
 refine#[λz=>?_,a.fr D o h n];have:=a.new D z n;rw[h] at this;cases this
theorem Jc(he:ko c ρ H env σ)(r:ko c ρ H us ys):ko c ρ H (us++PL.mI env ci) (ys++gM σ ci):=by
 have hl:=r.len;refine#[by simp[PL.mI,gM,hl],λi w e=>?_];by_cases lt:i<us.length
 .rw[ah lt] at e
  rw[ah ∅]
  erw[r.at_ i w e]
 .rw[aw ∅] at e
  rw[aw ∅,<-hl]
  generalize i-us.length=i at e ⊢;unfold PL.mI at e;unfold gM;rw[aB] at e ⊢;cases q:ci[i]? with
  |none=>rw[q] at e;cases e
  |some j=>
   rw[q] at e;dsimp[kr,pO] at e ⊢;cases z:env[j]? with
   |none=>rw[z] at e;cases e
   |some o=>
    rw[z] at e;cases o with
    |none=>cases e
    |some w'=>
     simp at e;subst e;let#[v,e1,r1]:=he.at_ j w' z;exact#[v,by rw[e1];rfl,r1]
theorem Ve(r:Rep c ρ H u y):ko c ρ H [some u] [some y]:=
 #[rfl,λi w e=>by cases i<;>simp at e;subst e;exact#[y,rfl,r]]
theorem Vf(r:Rep c ρ H u y)(r':Rep c ρ H u' y'):ko c ρ H [some u,some u'] [some y,some y']:=
 #[rfl,λi w e=>by
  match i with
  |0=>simp at e;subst e;exact#[y,rfl,r]
  |1=>simp at e;subst e;exact#[y',rfl,r']
  |i+2=>simp at e]
end
section
variable{t:xE}{T:Tab}{Γ:bZ}{k n:Nat}{I:Inf}{X:Cx}
theorem mem_lookup:∀{l:List (Str×NameKind)}{y:Str}{k:NameKind},l.lookup y=some k->(y,k)∈l
 |[],_,_,h=>nomatch h
 | (a,b)::l,y,k,h=>by
  rw[aO] at h;by_cases e:y=a
  .subst e;simp at h;subst h;erw[aQ]
  .have e2:(y==a)=false:=by simp[e]
   rw[e2] at h;erw[aA _ (mem_lookup h)]
theorem vA(G:Good t T Γ k I X)(h:vq I sc x=true):AE X sc x:=by
 unfold vq at h;dsimp[aj,cB] at h;let#[#[#[#[#[h1,h2],h3],h4],h5],h6]:=h;refine#[by simpa using h1,λy hy e=>?_,λy hy e=>?_,λy hy e=>?_,λy hy=>by simpa using h5 y hy,of_decide_eq_true h6,λy e=>?_]
 .have:=h2 y hy;rw[e] at this;simpa using this
 .have:=h3 y hy;rw[e] at this;simpa using this
 .have:=h4 y hy;rw[e] at this;rw[G.names];simpa using this
 .erw[mem_lookup e]
theorem Ef(G:Good t T Γ k I X)(h:(iD I sc).mapM (λy=>dY y I.N)=some ci):yC X sc (iD I sc) ci:=by
 have key:∀(l:List Str)(ci:List Nat),l.mapM (λy=>dY y I.N)=some ci->ci.length=l.length/\∀(k:Nat)(y:Str),l[k]?=some y->∃j:Nat,ci[k]?=some j/\I.N[j]?=some y:=by
  intro l;induction l with
  |nil=>intro ci h;simp at h;subst h;exact#[rfl,λk y e=>by simp at e]
  |cons a l ih=>
   intro ci h;dsimp[List.mapM_cons,aM,au] at h;let#[j,h1,r,h2,h3]:=h;simp at h3;subst h3;let#[q1,q2]:=ih r h2;refine#[by simp[q1],λk y e=>?_];cases k with
   |zero=>simp at e;subst e;exact#[j,rfl,fc h1]
   |succ k=>simp at e ⊢;erw[q2 k y e]
 let#[q1,q2]:=key _ _ h;refine#[q1,λk y e=>?_,λy hy=>?_]
 .rw[G.slots];erw[q2 k y e]
 .unfold iD at hy
  have:=(eU.mp hy).2;simpa using this
theorem rO(G:Good t T Γ k I X)(hc:I.calm=true)(h:vq I sc x=true)(cp:yC X sc (iD I sc) ci)(hn:(iD I sc).Nodup):
  Good t T Γ k #[rG I sc.names,x++iD I sc,true] (X.va sc C (x++iD I sc) s₀ H₀ ex):=by
 have B:=vA G h;refine#[G.tab,G.QG,B.kind,?_,rfl,sN cp B hn,λ_=>G.calm hc,G.units,rfl];show(Hb sc X.env).names=_;unfold Hb rG;simp only
 congr 1
 funext p
 let#[a,b]:=p;dsimp[G.kind,Env.kindOf,G.names];simp
theorem xI(z:tE (X.cc t) Γ (.comp pr e it tc ci) σ H Q):
  HV (Uu X.K pr) (AY (X.cc t) Γ it) ci (tT (X.cc t) Γ tc) (tE (X.cc t) Γ e) σ H Q:=by
 let#[env,ρ,S,QU,he0,R,w,q]:=z;refine#[env,ρ,S,_,he0,R,w,λus g S1 H1 ρ1 J w1 st1 R1 io=>?_];intro D hD;have he1:=he0.later R st1;have D0:D∉ρ1:=R1.Iz hD
 let F:=PL.nY g (λu S2 k=>PL.p8 pr u (PL.mI env ci) λen=>PL.WT Γ tc en S2 k)
   (λu S2 k=>PL.p8 pr u (PL.mI env ci) λen=>PL.WE Γ e en S2 k) (λacc S3=>QU (.loc S3.length) (S3++[.lst acc]))
 refine#[λi m acc H2=>m+i=us.length/\∃ρ2 S2 accU,iA ρ1 H1 ρ2 H2/\cz (X.cc t) ρ2 H2 S2/\D∉ρ2/\H2 D=some (.lst acc)/\aX (X.cc t) ρ2 H2 accU acc/\F (us.drop i) accU S2,#[us.length,rfl,ρ1,S1,[],iA.lay R1 hD _,R1.lay hD _,D0,cg,aX.nil,w1],?_];rintro i m acc H2 ⟨hm,ρ2,S2,accU,st2,R2,D2,hD2,ra,wc⟩;have hlen:acc.length=accU.length:=ra.len.symm;cases hd:us.drop i with
 |nil=>
  rw[hd] at wc;obtain⟨g2,hl,w2⟩:g S2/\accU.length<16500000/\QU (U.loc S2.length) (S2++[SO.lst accU]):=wc;refine#[hD2,by rw[hlen];erw[av hl ⋯],.inl #[((io i ρ2 H2 S2 st2 R2 g2).2 (DD.mp hd)),?_]];rwa[q _ _ _ _ _ w2 (st1.trans (st2.Vd hD)) (R2.join D2 #[acc,hD2,ra]) (d9.mpr #[D,rfl,?_])];rw[<-R2.len,aw (aq _),bR];rfl
 |cons u rest=>
  rw[hd] at wc;obtain⟨g2,hl,w0⟩:g S2/\accU.length<16500000/\PL.p8 pr u (PL.mI env ci) λen=>PL.WT Γ tc en S2 (λb S3=>if b=true then PL.p8 pr u (PL.mI env ci) (λen=>PL.WE Γ e en S3 (λv S4=>F rest (accU++[v]) S4)) else F rest accU S3):=wc
  have hu:us[i]?=some u:=by
   have:=congrArg (λl=>l[0]?) hd;simpa using this
  have hr:us.drop (i+1)=rest:=by
   have:=congrArg List.tail hd;simpa using this
  have hi:i<us.length:=(ae.mp hu).1;let#[jg,jy]:=(io i ρ2 H2 S2 st2 R2 g2).1 u hu;refine#[hD2,by rw[hlen];exact av hl ⋯,.inr #[jg,λy H3 hy=>?_]];let#[st3,R3,ry]:=jy y H3 hy;let#[_,hD3]:=st3.out hD2 D2;have ra3:=ra.mono R2 st3;obtain⟨us',τ,rτ,w2,kτ⟩:∃(us':PL.Env)(τ:St),ko (X.cc t) ρ2 H3 us' τ/\PL.WT Γ tc (us'++PL.mI env ci) S2 (λb S3=>if b=true then PL.WE Γ e (us'++PL.mI env ci) S3 (λv S4=>F rest (accU++[v]) S4) else F rest accU S3)/\∀k:St->Prop,k τ->Uu X.K pr y H3 k:=by
   cases pr with
   |false=>exact#[[some u],[some y],Ve ry,w0,λk z=>z]
   |true=>
    let#[u1,u2,eu,w2]:=PL.DT.mp w0;subst eu;let#[a,vs,e1,ha,hr2]:=dG.mp ry;let#[v1,v2,ev,r1,r2]:=Ec hr2;subst ev;exact#[[some u1,some u2],[some v1,some v2],Vf r1 r2,w2,λk z=>#[a,v1,v2,e1,mq.of ha,z]]
  have he3:=Jc (ci:=ci) (he1.later R1 (st2.trans st3)) rτ;rwa[kτ _ #[_,ρ2,S2,_,he3,R3,w2,λb S4 H4 ρ4 w4 st4 R4=>?_]];let#[D4,hD4]:=st4.out hD3 D2;have ra4:=ra3.mono R3 st4;cases b with
  |false=>exact#[m-1,∅,∅,ρ4,S4,accU,(st2.trans st3).trans st4,R4,D4,hD4,ra4,by rw[hr];erw[w4]]
  |true=>
   refine#[_,ρ4,S4,_,he3.later R3 st4,R4,w4,λv S5 z H5 ρ5 w5 st5 R5 r5=>?_];let#[D5,hD5]:=st5.out hD4 D4;have ra5:=(ra4.mono R4 st5).app (aX.cons r5 aX.nil);refine#[hD5,m-1,∅,∅,ρ5,S5,accU++[v],(((st2.trans st3).trans st4).trans st5).AW hD _,R5.AW _ hD5 rfl D5,D5,cg,ra5.iu #[[],by simp] (yR hD5 rfl),by rw[hr];erw[w5]]
theorem Jd(ht:Mp tg=some x)(B:AE X sc x)(cp:yC X sc cn ci)(hn:cn.Nodup)(hc:X.calm=true):SM X tg sc x cn (Uu X.K (x.length==2)):=by
 rcases CT ht with⟨_,_,rfl,rfl⟩|⟨_,_,_,_,_,_,rfl,rfl⟩
 .erw[HW B cp hn]
 .erw[HX B cp hn hc]
theorem MZ{elt iter tg:Expr}{ifs:List Expr}{x:List Str}{pos:Pos}{sc:kh}{it:PL.It}{tc:PL.Tx}{e:PL.Ex}{ci:List Nat}(G:Good t T Γ k I X)(hc:I.calm=true)(ht:Mp tg=some x)(hb:vq I sc x=true)(hci:(iD I sc).mapM (λy=>dY y I.N)=some ci)
  (hs:∀env v,foldedSetIterable iter env v=pure v) (hi:PI X tg iter (AY (X.cc t) Γ it))
  (hif:∀(X':Cx),Good t T Γ k #[rG I sc.names,x++iD I sc,true] X'->X'.cc t=X.cc t->L0 X' ifs (tT (X.cc t) Γ tc))
  (he:∀(X':Cx),Good t T Γ k #[rG I sc.names,x++iD I sc,true] X'->X'.cc t=X.cc t->PE X' elt (tE (X.cc t) Γ e)):
  PE X (.ListComp elt [#[tg,iter,ifs,0]] sc pos) (tE (X.cc t) Γ (.comp (x.length==2) e it tc ci)):=by
 have hn:(iD I sc).Nodup:=by
  unfold iD;have:=G.nd;rw[G.slots] at this;erw[this.filter _]
 have cp:=Ef G hci;refine(L5 (wi:=AY (X.cc t) Γ it) (tc:=tT (X.cc t) Γ tc) (te:=tE (X.cc t) Γ e)
  (vA G hb) cp hn (G.calm hc).1 (Jd ht (vA G hb) cp hn (G.calm hc).1) hi (λC s₀ H₀ ex=>hif _ (rO G hc hb cp hn) rfl) (λC s₀ H₀ ex=>he _ (rO G hc hb cp hn) rfl) (hs _)).imp λσ H Q z=>xI z
theorem M0(ha:PE X a (tE (X.cc t) Γ x))(hb:PE X b (tE (X.cc t) Γ y)):PE X (.Dict [some a] [b] pos) (tE (X.cc t) Γ (.eI #v[x] #v[y])):=by
 refine(LW (HQ ha hb LV) rfl rfl (by simp) (show 1<=15 by decide)).imp ?_;rintro σ H Q ⟨env,ρ,S,QU,he,R,w,q⟩;intro p hp;have st0:=iA.lay R hp (.dK []);have R0:=R.lay hp (.dK []);refine#[env,ρ,S,_,he.later R st0,R0,w,λu S1 v H1 ρ1 w1 st1 R1 r1=>?_];refine#[env,ρ1,S1,_,(he.later R st0).later R0 st1,R1,w1,λu2 S2 v2 H2 ρ2 w2 st2 R2 r2=>?_];obtain⟨_,hk,w',e,w3⟩:([u]:List U).length<=100/\PL.nq u=true/\∃v,[u2]=[v]/\QU (.loc S2.length) (S2++[SO.eI [(u,v)]]):=w2;cases e;let#[p2,hp2]:=(st1.trans st2).out cg (R.Iz hp);have im:=yR (ho:=.dK [(vw u,v2)]) hp2 rfl;have k1:=(r1.mono R1 st2).iu (ρ':=ρ2) #[[],by simp] im;have k2:=r2.iu (ρ':=ρ2) #[[],by simp] im;refine#[hp2,[(vw u,v2)],by rw[j6 hk r1];rfl,show 1<=15 by decide,?_];show Q (.ref p) (upd H2 p (.dK [(vw u,v2)]));rwa[q _ _ _ _ _ w3 ((((st0.trans st1).trans st2).AW hp _).Vd hp) ((R2.AW _ hp2 rfl p2).join p2 #[_,cg,rfl,aX.cons (show Rep (X.cc t) ρ2 _ u (kV (vw u)) by rw[<-j6 hk r1];erw[k1]) aX.nil,aX.cons k2 aX.nil]) (d9.mpr #[p,rfl,?_])];rw[<-R2.len,aw (aq _),bR];rfl
end
open PL (U SO bJ KU bZ)
section
variable{t:xE}{T:Tab}{Γ:bZ}{k n:Nat}{I:Inf}{X:Cx}
theorem Q7(h:PE X e (tE (X.cc t) Γ x))(he:∀env whole,isTrue e env whole=(do let v <-whole;standAt e.pos;holding [v] (truthy v))):PT X e (tT (X.cc t) Γ (.cH x)):=by
 refine(Hv h (he _)).imp ?_;kd_p;z_go;let#[b,e1,w2]:=PL.i7.mp w1;exact#[b,MJ (X:=X) rfl R1 r1 e1,q _ _ _ _ w2 st1 R1]
theorem M3(h:PT X e (tT (X.cc t) Γ x)):PT X (.UnaryOp .Not e pos) (tT (X.cc t) Γ (.not x)):=by
 refine(OZ h).imp ?_;kd_p;exact#[env,ρ,S,_,he,R,w,λb S1 H1 ρ1 w1 st1 R1=>q _ _ _ _ w1 st1 R1]
theorem PW.imp{e:Expr}{t t':TT}(h:PW X e t)(q:∀σ H Q,t' σ H Q->t σ H Q):PW X e t':=λwhole pZ s σ H Q I z=>h whole pZ s σ H Q I (q σ H Q z)
theorem Q8(IH:FU t T Γ k n)(G:Good t T Γ k I X):∀{vs:List Expr}{x:PL.Tx},Xq T (n+1) I op vs=some x->PW X (.BoolOp op vs pos) (tT (X.cc t) Γ x)
 |[],x,h=>by rw[Iy,Iu] at h;cases h
 |[a],x,h=>by
  rw[Iy,Iu] at h;cases op with
  |And=>erw[Lj (IH.ft G h)]
  |Or=>erw[OX (IH.ft G h)]
 |a::b::r,y,h=>by
  rw[Iy,Iu] at h;dsimp[aM,au] at h;let#[x,h1,z,h2,h3]:=h;injection h3 with h3;subst h3
  cases op with
  |And=>
   refine(OY (IH.ft G h1) (IH.Zu G h2)).imp ?_;kd_p;refine#[env,ρ,S,_,he,R,w,λb S1 H1 ρ1 w1 st1 R1=>?_];cases b with
   |true=>exact#[env,ρ1,S1,QU,he.later R st1,R1,w1,q.later st1]
   |false=>erw[q _ _ _ _ w1 st1 R1]
  |Or=>
   refine(Tt (IH.ft G h1) (IH.Zu G h2)).imp ?_;kd_p;refine#[env,ρ,S,_,he,R,w,λb S1 H1 ρ1 w1 st1 R1=>?_];cases b with
   |true=>erw[q _ _ _ _ w1 st1 R1]
   |false=>exact#[env,ρ1,S1,QU,he.later R st1,R1,w1,q.later st1]
theorem A1(h:cE T n I b=some x):behindInMarks op b=false:=by
 cases b<;>first|rfl|skip
 cases n with
 |zero=>erw[nn h]
 |succ n=>erw[nn h]
theorem Eg(h:cI T n I e=some x):∀env v,foldedSetIterable e env v=pure v:=by
 intro env v;cases e<;>first|rfl|skip
 cases n with
 |zero=>erw[nn h]
 |succ n=>
  change ((rH T n).e I _).map PL.It.val=some x at h
  let#[y,h1,_]:=ar.mp h
  change cE T n I _=some y at h1
  cases n with
  |zero=>erw[nn h1]
  |succ n=>erw[nn h1]
theorem Ol(h:cN T n I e=some x):∀env v,foldedSetIterable e env v=pure v:=by
 intro env v;cases e<;>first|rfl|skip
 cases n with
 |zero=>erw[nn h]
 |succ n=>erw[nn h]
theorem Je(IH:FU t T Γ k n)(G:Good t T Γ k I X)(h:((rH T n).e I e).map .cH=some x)(he:∀env whole,isTrue e env whole=(do let v <-whole;standAt e.pos;holding [v] (truthy v))):PT X e (tT (X.cc t) Γ x):=by
 let#[y,h1,h2]:=ar.mp h;subst h2;erw[Q7 (IH.fe G h1) he]
theorem Vg(IH:FU t T Γ k n)(G:Good t T Γ k I X)(h:cT T (n+1) I e=some x):PT X e (tT (X.cc t) Γ x):=by
 rw[Zl] at h;cases e with
 |UnaryOp op a pos=>
  cases op with
  |Not=>
   let#[y,h1,h2]:=ar.mp h;subst h2;erw[M3 (IH.ft G h1)]
  |_=>erw[Je IH G h λ_ _=>rfl]
 |BoolOp op vs pos=>exact(IH.Zu G h).pt
 |IfExp=>erw[nn h]
 |Compare a ops bs pos=>
  cases ops with
  |nil=>erw[nn h]
  |cons op ops=>cases bs with
   |nil=>erw[nn h]
   |cons b bs=>cases ops with
    |cons op' ops=>cases bs with
     |nil=>erw[nn h]
     |cons c bs=>
      change (if _ then _ else _)=_ at h
      split at h
      .rename_i hc
       dsimp[aj] at hc;let#[#[#[h1,h2],h3],h4]:=hc;cases op<;>first|exact ff h1|skip
       cases op'<;>first|exact ff h2|skip
       cases ops with
       |cons=>erw[ff h3]
       |nil=>cases bs with
        |cons=>erw[ff h4]
        |nil=>
         let#[x,h5,hb]:=au.mp h;let#[y,h6,hc]:=au.mp hb;let#[z,h7,h8]:=au.mp hc;injection h8 with h8;subst h8
         erw[MM G (IH.fe G h5) (IH.fe G h6) (IH.fe G h7)]
      .erw[nn h]
    |nil=>cases bs with
     |cons=>erw[nn h]
     |nil=>
      let#[o,h1,hb]:=au.mp h;let#[a,h2,hc]:=au.mp hb;let#[b,h3,h4]:=au.mp hc;injection h4 with h4;subst h4
      erw[ML G h1 (A1 h3) (IH.fe G h2) (IH.fe G h3)]
 |_=>erw[Je IH G h λ_ _=>rfl]
end
open PL (U SO bJ KU bZ)
section
variable{t:xE}{T:Tab}{Γ:bZ}{k n:Nat}{I:Inf}{X:Cx}
theorem yT:∀{n:Nat},(rH T n).es I []=some y->y=.nil
 |0,h=>by cases h
 |_+1,h=>(aF h).symm
theorem jG{x y:Str}(h:(x !=y)=true):(x==y)=false:=by simpa using h
theorem A2(IH:FU t T Γ k n)(G:Good t T Γ k I X){tg iter:Expr}{xs:List Str}{it:PL.It}(ht:Mp tg=some xs)(h:(∃y,xs=[y])/\cI T n I iter=some it\/(¬ ∃y,xs=[y])/\cN T n I iter=some it):
  (∀env v,foldedSetIterable iter env v=pure v)/\PI X tg iter (AY (X.cc t) Γ it):=by
 rcases CT ht with⟨x,p,rfl,rfl⟩|⟨x,y,p,p',kd,q,rfl,rfl⟩<;>rcases h with⟨z,h1⟩|⟨z,h1⟩
 .exact#[Eg h1,IH.fi G h1]
 .erw[absurd #[_,rfl] z]
 .let#[y,e]:=z;simp at e
 .exact#[Ol h1,IH.fn G h1]
theorem Eh(IH:FU t T Γ k n)(G':Good t T Γ k J X')(ec:X'.cc t=X.cc t)(h:Zm T n J ifs=some c):L0 X' ifs (tT (X.cc t) Γ c):=by
 unfold Zm at h;split at h
 .injection h with h;subst h
  intro pZ s σ H Q J z;refine L1 (X:=X') pZ s σ H Q J ?_;let#[env,ρ,S,QU,he,R,w,q]:=z;have w2:QU true S:=by
   have:PL.opt (PL.vj S (.bl true)) (λb=>QU b S):=w;erw[this]
  erw[q true S H ρ w2 .refl R]
 .have:=IH.ft G' h
  rw[ec] at this;erw[L3 this]
 .erw[nn h]
theorem M4(h:(match args with|[a]=>Qm a|_=>none)=some o):∃ap cp,(ap.endLine==cp.line)=true/\args=[.Call (.Attribute o ("values":Str) ap) [] [] cp]:=by
 split at h
 .rename_i a
  unfold Qm at h;split at h
  .split at h
   .rename_i o' m ap cp hc
    rw[aj] at hc;have e:=eq_of_beq hc.1;subst e;injection h with h;subst h
    exact#[ap,cp,hc.2,rfl]
   .erw[nn h]
  .erw[nn h]
 .erw[nn h]
theorem Vh(IH:FU t T Γ k n)(G:Good t T Γ k I X){e:Expr}{x:PL.Ex}(h:cE T (n+1) I e=some x):PE X e (tE (X.cc t) Γ x):=by
 have ge:∀{e:Expr}{y:PL.Ex},cE T n I e=some y->PE X e (tE (X.cc t) Γ y):=λh=>IH.fe G h
 have gA:∀{es:List Expr}{y:PL.zT},SW T n I es=some y->PA X es (GL (X.cc t) Γ y):=λh=>IH.U5 G h
 have h0:=h;rw[Mq] at h;cases e with(delta SV at h;try dsimp only at h)
 |Name x' pos=>
  split at h
  .rename_i i hi
   split at h
   .rename_i hc
    dsimp[aj] at hc;injection h with h;subst h
    erw[MK G hi hc.1.1 (jG hc.1.2) (jG hc.2)]
   .erw[nn h]
  .split at h
   .rename_i hc
    rw[aj] at hc;let#[p,h1,h2]:=ar.mp h;subst h2;erw[IW G hc.1 h1 (jG hc.2)]
   .erw[nn h]
 |Constant c kd pos=>
  let#[u,h1,h2]:=ar.mp h;subst h2;cases c with
  |none=>cases h1;erw[rN (v:=.bV) (OV) λ_ _=>eR.mpr rfl]
  |bool b=>cases h1;erw[rN (v:=.bl _) (Ts) λ_ _=>dZ.mpr rfl]
  |int i=>cases h1;erw[rN (v:=.int _) (OU) λ_ _=>aP.mpr rfl]
  |str x=>cases h1;erw[rN (v:=.str _) (OW) λ_ _=>bE.mpr (by rw[<-Uw])]
  |_=>erw[nn h1]
 |BinOp a op b pos=>
  dsimp[aM,au] at h;let#[o,h1,a,h2,b,h3,h4]:=h;injection h4 with h4;subst h4
  erw[QJ G h1 (ge h2) (ge h3)]
 |UnaryOp op a pos=>
  cases op with
  |Not=>let#[y,h1,h2]:=ar.mp h;subst h2;erw[QN (ge h1)]
  |USub=>let#[y,h1,h2]:=ar.mp h;subst h2;erw[QM (ge h1)]
  |_=>erw[nn h]
 |BoolOp op vs pos=>erw[IH.Zt G h]
 |Compare a ops bs pos=>
  split at h
  .split at h
   .dsimp[aM,au] at h
    let#[o,h1,a,h2,b,h3,h4]:=h;injection h4 with h4;subst h4
    erw[QK G h1 (A1 h3) (ge h2) (ge h3)]
   .erw[nn h]
  .erw[nn h]
 |IfExp c a b pos=>
  dsimp[aM,au] at h;let#[o,h1,a,h2,b,h3,h4]:=h;injection h4 with h4;subst h4
  erw[U6 (IH.ft G h1) (ge h2) (ge h3)]
 |Call fn args kws cp=>
  cases fn with
  |Name f p=>
   cases kws with
   |nil=>
    dsimp only at h;split at h
    .rename_i hc
     rw[aj] at hc;let#[hg,hd]:=hc;split at h
     .rename_i hf
      rw[aj] at hf;have ef:f=("isinstance":Str):=eq_of_beq hf.1;subst ef;have hb:"isinstance"∈T.iQ:=by simpa using hf.2
      split at h
      .split at h
       .erw[nn h]
       .rename_i hs
        let#[y,h1,h2]:=au.mp h;let#[ty,h3,h4]:=ar.mp h2;subst h4;exact Q2 G hg hb (by simpa using hs) h3 (ge h1)
      .erw[nn h]
     .split at h
      .rename_i b hb
       split at h
       .rename_i o' ho'
        split at h
        .rename_i hc
         dsimp[aj] at hc;let#[#[#[hf,hm],hcm],h0']:=hc;have hf:=eq_of_beq hf;subst hf;let#[y,h1,h2]:=ar.mp h;subst h2;let#[ap,c2,hl,rfl]:=M4 ho';exact MR G hg (by simpa using hm) (G.calm hcm).1 h0' hl (ge h1)
        .erw[nn h]
       .split at h
        .rename_i hs
         dsimp[aj,wK] at hs;let#[#[#[s,hp],hs],hcm]:=hs;let#[y,h1,h2]:=ar.mp h;subst h2;cases args with
         |nil=>simp at hs
         |cons a as=>
          have st:=nJ h1;rw[bQ,aj] at st;erw[QT G hg hb hp (G.calm hcm).1 (G.calm hcm).2.hd st.1 st.2 (gA h1)]
        .erw[nn h]
      .split at h
       .erw[nn h]
       .rename_i hcm
        have hcm:I.calm=true:=by simpa using hcm
        split at h
        .rename_i q hq
         let#[hm,rfl]:=mJ hq;let#[y,h1,h2]:=ar.mp h;subst h2;cases args with
         |nil=>
          cases yT h1;erw[I8 G hg hcm hm (jG hd)]
         |cons a as=>
          have st:=nJ h1;rw[bQ,aj] at st;erw[MS G hg hcm hm (jG hd) st.1 st.2 (IH.U5 G h1)]
        .split at h
         .rename_i q hq
          let#[hm,rfl]:=mJ hq;let#[y,h1,h2]:=ar.mp h;subst h2;cases args with
          |nil=>
           cases yT h1;erw[QZ G hg hcm hm (jG hd)]
          |cons a as=>
           have st:=nJ h1;rw[bQ,aj] at st;erw[Vb G hg hcm hm (jG hd) st.1 st.2 (IH.U5 G h1)]
         .erw[nn h]
    .erw[nn h]
   |cons kw ks=>
    dsimp only at h;split at h
    .split at h
     .rename_i hc
      dsimp[aj] at hc;let#[#[#[#[#[#[#[q0,q1],q2],q4],q6],q7],q8],q9]:=hc;have q1:=eq_of_beq q1;subst q1;have q0:ks=[]:=by simpa using q0
      subst q0;let#[y,h1,h2]:=ar.mp h;subst h2;let#[ka,kv,kp]:=kw;unfold Ip at q2;rw[aj] at q2;have e1:=eq_of_beq q2.1;subst e1;have q3:=q2.2;cases kv with
      |Name l lp=>
       have q3:(l==("len":Str)&&I.gl l)=true:=q3;rw[aj] at q3;have e2:=eq_of_beq q3.1;subst e2;exact FV G q4 q3.2 (by simpa using q6) (by simpa using q7) (G.calm q8).1 q9 (ge h1)
      |_=>cases q3
     .erw[nn h]
    .erw[nn h]
  |Attribute o m ap=>
   dsimp only at h;split at h
   .erw[nn h]
   .rename_i hc
    dsimp[gI,He,aj] at hc;let#[#[#[#[hk,hc0],hl],hn],hcm]:=hc;have hk:kws=[]:=by simpa using hk
    subst hk;have hn:=of_decide_eq_true hn;split at h
    .rename_i q kk hq
     let#[hm,hq2]:=xF hq;dsimp only at hq2;subst hq2;dsimp[aM,au] at h;let#[y,h1,as,h2,h3]:=h;injection h3 with h3;subst h3
     cases args with
     |nil=>
      cases yT h2;erw[I9 G hcm hm hc0 hl (IH.fe G h1)]
     |cons a as'=>
      have st:=nJ h2;rw[bQ,aj] at st;erw[MT G hcm hm hc0 hl hn st.1 st.2 (IH.fe G h1) (IH.U5 G h2)]
    .split at h
     .split at h
      .rename_i em
       let#[y,h1,h2]:=ar.mp h;subst h2;have em:=eq_of_beq em;subst em;erw[MN G hc0 hl (ge h1)]
      .erw[nn h]
     .rename_i a as
      split at h
      .rename_i em
       have em:=eq_of_beq em;subst em;split at h
       .rename_i d
        split at h
        .rename_i st
         rw[aj] at st;dsimp[aM,au] at h;let#[y,h1,z,h2,w,h3,h4]:=h;injection h4 with h4;subst h4
         erw[QX G hc0 hl st.1 st.2 (ge h1) (ge h2) (ge h3)]
        .erw[nn h]
       .split at h
        .rename_i st
         dsimp[aM,au] at h;let#[y,h1,z,h2,h4]:=h;injection h4 with h4;subst h4
         erw[MP G hc0 hl st (ge h1) (ge h2)]
        .erw[nn h]
       .erw[nn h]
      .split at h
       .rename_i b hb
        dsimp[aM,au] at h;let#[y,h1,as',h2,h3]:=h;injection h3 with h3;subst h3
        have st:=nJ h2;rw[bQ,aj] at st;erw[QW G hb (G.calm hcm).2.hd hc0 hl hn st.1 st.2 (ge h1) (gA h2)]
       .erw[nn h]
  |_=>erw[nn h]
 |Attribute o f pos=>
  split at h
  .erw[nn h]
  .rename_i hc0
   dsimp[aM,au] at h;let#[q,h1,y,h2,h3]:=h;injection h3 with h3;subst h3
   let#[hm,rfl]:=mJ h1;exact QS G hm (by simpa using hc0) (ge h2)
 |Subscript o i pos=>
  split at h
  .rename_i hs
   dsimp[aM,au] at h;let#[y,h1,a,h2,h3]:=h;injection h3 with h3;subst h3
   split
   .erw[QY G hs (ge h1) (ge h2)]
   .erw[U7 hs (ge h1) (ge h2)]
  .split at h
   .split at h
    .dsimp[aM,au] at h
     let#[y,h1,a,h2,b,h3,h4]:=h;injection h4 with h4;subst h4
     erw[U9 (ge h1) (IH.fo G h2) (IH.fo G h3)]
    .erw[nn h]
   .erw[nn h]
 |Dict ks vs pos=>
  split at h
  .split at h
   .injection h with h;subst h;erw[MQ]
   .erw[nn h]
  .split at h
   .dsimp[aM,au] at h
    let#[y,h1,z,h2,h4]:=h;injection h4 with h4;subst h4
    erw[M0 (ge h1) (ge h2)]
   .erw[nn h]
  .erw[nn h]
 |List es pos=>
  let#[y,h1,h2]:=ar.mp h;subst h2;erw[QR (gA h1)]
 |Tuple es kd pos=>
  let#[y,h1,h2]:=ar.mp h;subst h2;erw[QQ (gA h1)]
 |ListComp elt gs sc pos=>
  let#[tg,iter,ifs,xs,it,c,ee,ci,rfl,ht,hc,h1,h2,h3,h4,h5]:=vt h0;subst h5;have hi:=A2 IH G ht h1;rwa[MZ G hc.2 ht hc.1 h4 hi.1 hi.2 (λX' G' ec=>?_) (λX' G' ec=>?_)]
  .erw[Eh IH G' ec h2]
  .have:=IH.fe G' h3
   rw[ec] at this;erw[this]
 |_=>erw[nn h]
theorem Jf:FU t T Γ k 0:=by
 constructor
 .intro I X e x _ h;rw[UZ] at h;erw[nn h]
 .intro I X e x _ h;rw[Oh] at h;erw[nn h]
 .intro I X op vs x pos _ h;rw[U0] at h;erw[nn h]
 .intro I X e x _ h;rw[Zf] at h;erw[nn h]
 .intro I X e x tg _ h;rw[Zg] at h;erw[nn h]
 .intro I X e x es ek tp _ h;rw[Zi] at h;erw[nn h]
 .intro I X e x _ h;rw[Zk] at h;erw[nn h]
 .intro I X op vs x pos _ h;rw[U2] at h;erw[nn h]
theorem yU:∀n,FU t T Γ k n
 |0=>Jf
 |n+1=>
  have IH:=yU n
  #[λG h=>Vh IH G h,λG h=>QL IH G h,λG h=>QP IH G h,λG h=>U8 IH G h,λG h=>Vc IH G h,λG h=>Zy IH G h,λG h=>Vg IH G h,λG h=>Q8 IH G h]
end
open PL (U SO bJ KU bZ)
theorem PS.imp{X:Cx}{st:Stmt}{t t':TS}(h:PS X st t)(q:∀D σ H,t' D σ H->t D σ H):PS X st t':=λpZ s σ H D I z=>h pZ s σ H D I (q D σ H z)
theorem uo.imp{X:Cx}{st:List Stmt}{t t':TS}(h:uo X st t)(q:∀D σ H,t' D σ H->t D σ H):uo X st t':=λpZ s σ H D I z=>h pZ s σ H D I (q D σ H z)
theorem Good.ps(G:Good t T Γ k I X):PassesOwn (bc X.prog X.w) X.A X.env X.xe:=by rw[G.xe];erw[PassesOwn.never]
structure DR(c:Ctx)(ρ:List Addr)(H:Hp)(DU:PL.Ends)(D:Ends):Prop where
 nx:∀env' S' σ' H' ρ',DU.nx env' S'->iA ρ H ρ' H'->cz c ρ' H' S'->ko c ρ' H' env' σ'->D.nx σ' H'
 rt:QV c ρ H DU.rt D.rt
def tS(c:Ctx)(Γ:bZ)(x:PL.Sm):TS:=λD σ H=>∃env ρ S DU,ko c ρ H env σ/\cz c ρ H S/\PL.WS Γ x DU env S/\DR c ρ H DU D
def KW(c:Ctx)(Γ:bZ)(x:PL.dh):TS:=λD σ H=>∃env ρ S DU,ko c ρ H env σ/\cz c ρ H S/\PL.uf Γ x DU env S/\DR c ρ H DU D
section
variable{c:Ctx}{ρ ρ':List Addr}{H H':Hp}{S:bJ}{DU:PL.Ends}{D:Ends}
theorem DR.later(q:DR c ρ H DU D)(a:iA ρ H ρ' H'):DR c ρ' H' DU D:=
 #[λenv' S' σ' H2 ρ2 h b R e=>q.nx env' S' σ' H2 ρ2 h (a.trans b) R e,q.rt.later a]
theorem ko.set(he:ko c ρ H env σ)(r:Rep c ρ H u v)(i:Nat):ko c ρ H (env.set i (some u)) (σ.set i (some v)):=by
 refine#[by simp[he.len],λj w e=>?_];by_cases z:j=i
 .subst z
  have hj:j<env.length:=by
   have:=(ae.mp e).1;simpa using this
  rw[bM hj] at e;injection e with e;injection e with e;subst e
  exact#[v,by rw[bM (by rw[<-he.len];erw[hj])],r]
 .rw[ao (cR z)] at e ⊢
  erw[he.at_ j w e]
end
open PL (U SO bJ KU bZ)
structure jc(t:xE)(T:Tab)(Γ:bZ)(k:Nat)(I:Inf)(X:Cx):Prop where
 g:Good t T Γ k I X
 st:∀x,X.fn x=true
section
variable{t:xE}{T:Tab}{Γ:bZ}{k n:Nat}{I:Inf}{X:Cx}
theorem sU(h:uh (names.lookup x)=true)(e:sc.names=names):Loc sc x:=by
 rw[<-e] at h;unfold Loc;cases q:sc.names.lookup x with
 |none=>rw[q] at h;cases h
 |some kd=>rw[q] at h;cases kd<;>simp[uh] at h<;>simp
theorem C2(z:tS (X.cc t) Γ (.set i x) D σ H):tE (X.cc t) Γ x σ H λv H1=>D.nx (σ.set i (some v)) H1:=by
 let#[env,ρ,S,DU,he,R,w,q]:=z;z_go;erw[q.nx _ _ _ _ _ w1 st1 R1 ((he.later R st1).set r1 i)]
theorem Q9(G:jc t T Γ k I X)(h:dY x I.N=some i)(hl:uh (I.names.lookup x)=true)(hs:∀env,hU e (some (.Name x p)) pos.line env=pure false)
  (hy:PE X e (tE (X.cc t) Γ y)):PS X (.Assign [.Name x p] e pos) (tS (X.cc t) Γ (.set i y)):=by
 refine(Hr (X:=X) (i:=i) G.g.nd (by show X.N[i]?=some x;rw[G.g.slots];erw[fc h]) (sU hl G.g.names) hy (hs _) (.inl (G.st x))).imp ?_;intro D σ H z;erw[C2 z]
theorem M5(G:jc t T Γ k I X)(hf:f∈T.yO)(hx:PE X o (tE (X.cc t) Γ x))(hy:PE X e (tE (X.cc t) Γ y)):PS X (.Assign [.Attribute o (nm f) p] e pos) (tS (X.cc t) Γ (.nk x f y)):=by
 have hs:∀env,hU e (some (.Attribute o (nm f) p)) pos.line env=pure false:=λenv=>by cases e<;>rfl
 refine(Pt (X:=X) hx hy (hs _)).imp ?_;rintro D σ H ⟨env,ρ,S,DU,he,R,w,q⟩;z_go;refine#[env,ρ1,S1,_,he.later R st1,R1,w1,λu2 S2 v2 H2 ρ2 w2 st2 R2 r2=>?_];let#[l,e1,w3]:=PL.i8.mp w2;subst e1;let#[c',fs,e2,hlen,w4]:=PL.mG.mp w3;let#[a,C,dx,vs,ev,ha,hC,hH,hn,hr]:=R2.ins e2 r2;let#[cl,na]:=G.g.tab.cls c' C hC;have hlv:vs.length=fs.length:=by have:=congrArg cG hn;simpa using this
 refine#[a,C,dx,vs,ev,hH,cl,na f hf,∅,?_];have st3:=iA.put (H:=H2) (af ha) hH rfl (.ins C dx (kj (nm f) v vs));have uB:∀{fs:List (String×U)}{vs:List (Str×V)},vs.map (·.1)=(fs.map (·.1)).map nm->aX (X.cc t) ρ2 H2 (fs.map (·.2)) (vs.map (·.2)) ->
   (kj (nm f) v vs).map (·.1)=((PL.gX f u fs).map (·.1)).map nm/\aX (X.cc t) ρ2 H2 ((PL.gX f u fs).map (·.2)) ((kj (nm f) v vs).map (·.2)):=by
  intro fs;induction fs with
  |nil=>
   intro vs hn hr;cases vs with
   |nil=>exact#[rfl,aX.cons (r1.mono R1 st2) aX.nil]
   |cons a b=>simp at hn
  |cons p fs ih=>
   intro vs hn hr;let#[g,w']:=p;cases vs with
   |nil=>simp at hn
   |cons b vs=>
    let#[b1,b2]:=b;dsimp[ay,dE] at hn;rw[ay,ay] at hr;unfold aX at hr;let#[v',r',e',k1,k2]:=hr;injection e' with e1' e2'
    subst e1';subst e2';unfold kj PL.gX;by_cases z:g=f
    .have z2:b1=nm f:=by rw[hn.1,z]
     rw[if_pos z2,if_pos z]
     exact#[by simp[hn.1,hn.2],aX.cons (r1.mono R1 st2) k2]
    .have z2:¬b1=nm f:=λq=>z (vz _ _ (hn.1.symm.trans q))
     rw[if_neg z2,if_neg z]
     let#[m1,m2]:=ih hn.2 k2;exact#[by dsimp[ay,dE];exact#[hn.1,m1],aX.cons k1 m2]
 let#[m1,m2]:=uB hn hr;rwa[q.nx _ _ _ _ _ w4 ((st1.trans st2).trans st3) (R2.put ha hH rfl #[C,dx,_,hC,cg,m1,m2.mono R2 st3]) ((he.later R (st1.trans st2)).later R2 st3)]
theorem M6(G:jc t T Γ k I X)(hx:PE X o (tE (X.cc t) Γ x))(hi:PE X i (tE (X.cc t) Γ z))(hy:PE X e (tE (X.cc t) Γ y)):PS X (.Assign [.Subscript o i p] e pos) (tS (X.cc t) Γ (.oh x z y)):=by
 have hs:∀env,hU e (some (.Subscript o i p)) pos.line env=pure false:=λenv=>by cases e<;>rfl
 refine(LU (X:=X) (by have:=G.g.units;omega) hx hi hy (hs _)).imp ?_;rintro D σ H ⟨env,ρ,S,DU,he,R,w,q⟩;refine#[env,ρ,S,_,he,R,w,λu S1 v H1 ρ1 w1 st1 R1 r1=>?_];refine#[env,ρ1,S1,_,he.later R st1,R1,w1,λu2 S2 v2 H2 ρ2 w2 st2 R2 r2=>?_];refine#[env,ρ2,S2,_,(he.later R st1).later R1 st2,R2,w2,λu3 S3 v3 H3 ρ3 w3 st3 R3 r3=>?_];let#[n,e1,w3]:=PL.i8.mp w3;subst e1;let#[kvs,e2,#[hk,hn,hl],w4]:=PL.AK.mp w3;let#[a,ev,ha]:=d9.mp (r2.mono R2 st3);let#[vs,g1,g2,g3,g4]:=R3.at_ n a _ ha e2;have l2:js vs (vw u3)=none:=by
  rcases rM hk g2 g3 g4 with⟨_,l2⟩|⟨_,_,l1,_⟩
  .erw[l2]
  .rw[hn] at l1;cases l1
 have r1':=r1.mono R1 (st2.trans st3);have st4:=iA.put (H:=H3) (af ha) g1 rfl (.dK (vs++[(vw u3,v)]));refine#[a,upd H3 a (.dK (vs++[(vw u3,v)])),ev,.inl #[vs,vw u3,g1,j6 hk r3,by rw[g2];erw[av hl ⋯],by rw[Ax v l2]],?_];rwa[q.nx _ _ _ _ _ w4 (((st1.trans st2).trans st3).trans st4) (R3.put ha g1 rfl #[_,cg,by simp[g2],?_,?_]) ((he.later R ((st1.trans st2).trans st3)).later R3 st4)]
 .rw[aK,aK]
  exact(g3.mono R3 st4).app (aX.cons (show Rep (X.cc t) ρ3 _ u3 (kV (vw u3)) by rw[<-j6 hk r3];erw[r3.mono R3 st4]) aX.nil)
 .rw[aK,aK]
  exact(g4.mono R3 st4).app (aX.cons (r1'.mono R3 st4) aX.nil)
theorem Vi(G:jc t T Γ k I X)(hc:yP e=true)(hy:PE X e (tE (X.cc t) Γ y)):PS X (.Expr e pos) (tS (X.cc t) Γ (.ex y)):=by
 refine(Ll (X:=X) hy (AZ hc)).imp ?_;rintro D σ H ⟨env,ρ,S,DU,he,R,w,q⟩;z_go;erw[q.nx _ _ _ _ _ w1 st1 R1 (he.later R st1)]
theorem Ra(G:jc t T Γ k I X)(hy:PE X e (tE (X.cc t) Γ y)):PS X (.Return (some e) pos) (tS (X.cc t) Γ (.ret y)):=by
 refine(O3 (X:=X) hy).imp ?_;rintro D σ H ⟨env,ρ,S,DU,he,R,w,q⟩;exact#[env,ρ,S,_,he,R,w,q.rt]
theorem Rb(G:jc t T Γ k I X)(hx:PT X c (tT (X.cc t) Γ x))(hy:uo X a (KW (X.cc t) Γ y))(hz:uo X b (KW (X.cc t) Γ z)):PS X (.If c a b pos) (tS (X.cc t) Γ (.ifs x y z)):=by
 refine(TH (X:=X) hx (hy) (hz)).imp ?_;rintro D σ H ⟨env,ρ,S,DU,he,R,w,q⟩;refine#[env,ρ,S,_,he,R,w,λb S1 H1 ρ1 w1 st1 R1=>?_];cases b with
 |true=>exact#[env,ρ1,S1,DU,he.later R st1,R1,w1,q.later st1]
 |false=>exact#[env,ρ1,S1,DU,he.later R st1,R1,w1,q.later st1]
theorem C3(hp:CU op=some p):op=Mt p/\(p=.add\/p=.sub\/p=.bor):=by cases op<;>first|exact nn hp| (cases hp;exact#[rfl,by simp])
theorem Rc(G:jc t T Γ k I X)(h:dY x I.N=some i)(hl:uh (I.names.lookup x)=true)(hp:CU op=some p)(hy:PE X e (tE (X.cc t) Γ y)):PS X (.AugAssign (.Name x px) op e pos) (tS (X.cc t) Γ (.aug i p y)):=by
 have eo:=C3 hp;rw[eo.1]
 refine(O6 (X:=X) (i:=i) G.g.nd (by show X.N[i]?=some x;rw[G.g.slots];erw[fc h]) (sU hl G.g.names) hy (yS (X:=X) (c:=X.cc t) eo.2) (.inl (G.st x))).imp ?_;rintro D σ H ⟨env,ρ,S,DU,he,R,w,q⟩;let#[u0,e0,w0]:=PL.AJ.mp (show PL.yG _ _ from w);let#[v0,e1,r0]:=he.at_ i u0 e0;refine#[v0,e1,env,ρ,S,_,he,R,w0,λu S1 v H1 ρ1 w1 st1 R1 r1=>?_];refine#[u0,u,ρ1,S1,_,r0.mono R st1,r1,R1,w1,λu2 S2 v2 H2 ρ2 w2 st2 R2 r2=>?_];erw[q.nx _ _ _ _ _ w2 (st1.trans st2) R2 ((he.later R (st1.trans st2)).set r2 i)]
end
open PL (U SO bJ KU bZ)
section
variable{t:xE}{T:Tab}{Γ:bZ}{k n:Nat}{I:Inf}{X:Cx}
theorem uB(ru:Rep c ρ H u v):∀{fs:List (String×U)}{vs:List (Str×V)},vs.map (·.1)=(fs.map (·.1)).map nm->aX c ρ H (fs.map (·.2)) (vs.map (·.2)) ->
   (kj (nm f) v vs).map (·.1)=((PL.gX f u fs).map (·.1)).map nm/\aX c ρ H ((PL.gX f u fs).map (·.2)) ((kj (nm f) v vs).map (·.2))
 |[],[],_,_=>#[rfl,aX.cons ru aX.nil]
 |[],_::_,hn,_=>by simp at hn
 |_::_,[],hn,_=>by simp at hn
 | (g,w')::fs,(b1,b2)::vs,hn,hr=>by
  dsimp[ay,dE] at hn;rw[ay,ay] at hr;unfold aX at hr;let#[v',r',e',k1,k2]:=hr;injection e' with e1' e2'
  subst e1';subst e2';unfold kj PL.gX;by_cases z:g=f
  .have z2:b1=nm f:=by rw[hn.1,z]
   rw[if_pos z2,if_pos z]
   exact#[by simp[hn.1,hn.2],aX.cons ru k2]
  .have z2:¬b1=nm f:=λq=>z (vz _ _ (hn.1.symm.trans q))
   rw[if_neg z2,if_neg z]
   let#[m1,m2]:=uB ru hn.2 k2;exact#[by dsimp[ay,dE];exact#[hn.1,m1],aX.cons k1 m2]
theorem M7(G:jc t T Γ k I X)(hf:f∈T.yO)(hp:CU op=some p)(hx:PE X o (tE (X.cc t) Γ x))(hy:PE X e (tE (X.cc t) Γ y)):PS X (.AugAssign (.Attribute o (nm f) tp) op e pos) (tS (X.cc t) Γ (.CD x f p y)):=by
 have eo:=C3 hp;rw[eo.1]
 refine(Fm (X:=X) hx hy (rd:=FP (X.cc t) p) (yS (X:=X) (c:=X.cc t) eo.2)).imp ?_;rintro D σ H ⟨env,ρ,S,DU,he,R,w,q⟩;z_go;let#[l,e1,w2]:=PL.i8.mp w1;subst e1;let#[c',fs,e2,w3]:=PL.mG.mp w2;let#[u0,e3,w4]:=PL.i7.mp w3;let#[a,C,dx,vs,ev,ha,hC,hH,hn,hr]:=R1.ins e2 r1;let#[cl,na]:=G.g.tab.cls c' C hC;let#[v0,l0,r0]:=qB hn hr e3 vz;refine#[a,C,dx,vs,v0,ev,hH,cl,na f hf,l0,?_];refine#[env,ρ1,S1,_,he.later R st1,R1,w4,λu2 S2 v2 H2 ρ2 w5 st2 R2 r2=>?_];refine#[u0,u2,ρ2,S2,_,r0.mono R1 st2,r2,R2,w5,λu3 S3 v3 H3 ρ3 w6 st3 R3 r3=>?_];let#[c'',fs',e4,#[e5,hlen,w7]]:=PL.mG.mp w6;subst e5;have ha3:=(st2.trans st3).get ha;let#[C',dx',vs',hC',hH',hn',hr']:=R3.at_ l a _ ha3 e4;rw[hC] at hC';injection hC' with hC';subst hC'
 have hlv:vs'.length=fs'.length:=by have:=congrArg cG hn';simpa using this
 refine#[dx',vs',hH',∅,?_];have st4:=iA.put (H:=H3) (af ha3) hH' rfl (.ins C dx' (kj (nm f) v3 vs'));let#[m1,m2]:=uB r3 hn' hr';rwa[q.nx _ _ _ _ _ w7 (((st1.trans st2).trans st3).trans st4) (R3.put ha3 hH' rfl #[C,dx',_,hC,cg,m1,m2.mono R3 st4]) ((he.later R ((st1.trans st2).trans st3)).later R3 st4)]
def Vj(K:Frag):V->V->Hp->VK->Prop:=λo i H Q=>∃p xs k v,o=.ref p/\i=.int k/\H p=some (.lst xs)/\0<=k/\xs[k.toNat]?=some v/\Q v H
theorem FX:TQ X (Vj X.K):=by
 intro pZ s σ H o i ov iv Q I ro ri h;let#[p,xs,k,v,rfl,rfl,hp,h0,hk,q]:=h;cases ro;let#[t,rfl]:=ri;let#[its,r,pl,hz]:=I.list (.inl (.inl hp));let#[w,ew,rw']:=r.get hk;have hn:=oJ;have hl:=(ae.mp hk).1;erw[getItem_listL pl.isList h0 ∅ ew #[v,H,I,rw',q]]
theorem Zz(r:aX c ρ H us vs)(ru:Rep c ρ H u v):∀(j:Nat),aX c ρ H (us.set j u) (vs.set j v):=by
 intro j;induction us generalizing vs j with
 |nil=>cases vs with
  |nil=>erw[r]
  |cons a b=>erw[absurd r.len (by simp)]
 |cons x us ih=>cases vs with
  |nil=>erw[absurd r.len (by simp)]
  |cons a b=>
   unfold aX at r;let#[v',r',e',k1,k2]:=r;injection e' with e1 e2
   subst e1;subst e2;cases j with
   |zero=>erw[aX.cons ru k2]
   |succ j=>erw[aX.cons k1 (ih k2 j)]
theorem M8(G:jc t T Γ k I X)(hn:lU i=true)(hp:CU op=some p)(hx:PE X o (tE (X.cc t) Γ x))(hi:PE X i (tE (X.cc t) Γ y))(hy:PE X e (tE (X.cc t) Γ z)):PS X (.AugAssign (.Subscript o i tp) op e pos) (tS (X.cc t) Γ (.Fz x y p z)):=by
 have eo:=C3 hp;rw[eo.1]
 refine(Lm (X:=X) hx hi FX hy (tip:=FP (X.cc t) p) (yS (X:=X) (c:=X.cc t) eo.2) set_list (λov iv new=>by cases i<;>first|rfl|simp[lU] at hn)).imp ?_;rintro D σ H ⟨env,ρ,S,DU,he,R,w,q⟩;refine#[env,ρ,S,_,he,R,w,λu S1 v H1 ρ1 w1 st1 R1 r1=>?_];refine#[env,ρ1,S1,_,he.later R st1,R1,w1,λu2 S2 v2 H2 ρ2 w2 st2 R2 r2=>?_];obtain⟨l,e1,w3⟩:=PL.i8.mp w2;subst e1;obtain⟨j,e2,w4⟩:=PL.eQ.mp w3;subst e2;obtain⟨us,e3,h0,w5⟩:=PL.de.mp w4;obtain⟨u0,e4,w6⟩:=PL.i7.mp w5;obtain⟨a,vs,ev,ha,hH,hr⟩:=R2.lst e3 (r1.mono R1 st2);subst ev;obtain⟨v0,l0,r0⟩:=hr.get e4;refine#[a,vs,j,v0,rfl,aP.mp r2,hH,h0,l0,?_];refine#[env,ρ2,S2,_,(he.later R st1).later R1 st2,R2,w6,λu3 S3 v3 H3 ρ3 w7 st3 R3 r3=>?_];refine#[u0,u3,ρ3,S3,_,r0.mono R2 st3,r3,R3,w7,λu4 S4 v4 H4 ρ4 w8 st4 R4 r4=>?_];obtain⟨us',e5,hj,w9⟩:=PL.de.mp w8;have ha4:=(st3.trans st4).get ha;obtain⟨vs',hH',hr'⟩:=R4.at_ l a _ ha4 e5;refine#[a,vs',j,j.toNat,rfl,aP.mp r2,hH',?_,?_]
 .unfold PB
  rw[if_pos h0,if_pos (by have:=hr'.len;omega)]
 have st5:=iA.put (H:=H4) (af ha4) hH' rfl (.lst (vs'.set j.toNat v4));rwa[q.nx _ _ _ _ _ w9 ((((st1.trans st2).trans st3).trans st4).trans st5) (R4.put ha4 hH' rfl #[_,cg,(Zz hr' r4 j.toNat).mono R4 st5]) ((he.later R (((st1.trans st2).trans st3).trans st4)).later R4 st5)]
theorem Rf(G:jc t T Γ k I X)(hx:PT X c (tT (X.cc t) Γ x))(hy:uo X b (KW (X.cc t) Γ y)):PS X (.While c b [] pos) (tS (X.cc t) Γ (.BP x y)):=by
 refine(Hs (X:=X) G.g.ps hx hy).imp ?_;rintro D σ H ⟨env,ρ,S,DU,he,R,w,q⟩;let#[n0,w0]:=w
 let F:=PL.yJ (λen S1 k=>PL.WT Γ x en S1 k) (λen S1 k=>PL.uf Γ y {DU with nx:=k} en S1) DU.nx
 refine#[λm σ1 H1=>∃env1 ρ1 S1,iA ρ H ρ1 H1/\cz (X.cc t) ρ1 H1 S1/\ko (X.cc t) ρ1 H1 env1 σ1/\F m env1 S1,#[n0,env,ρ,S,.refl,R,he,w0],?_];rintro m σ1 H1 ⟨env1,ρ1,S1,st1,R1,he1,w1⟩;cases m with
 |zero=>erw[aT w1]
 |succ m=>
  have w1':PL.WT Γ x env1 S1 (λt S1=>if t=true then PL.uf Γ y {DU with nx:=F m} env1 S1 else DU.nx env1 S1):=w1;have q1:=q.later st1;refine#[env1,ρ1,S1,_,he1,R1,w1',λb S2 H2 ρ2 w2 st2 R2=>?_];cases b with
  |false=>erw[q1.nx _ _ _ _ _ w2 st2 R2 (he1.later R1 st2)]
  |true=>
   refine#[λσ3 H3=>∃env3 ρ3 S3,iA ρ H ρ3 H3/\cz (X.cc t) ρ3 H3 S3/\ko (X.cc t) ρ3 H3 env3 σ3/\F m env3 S3,λσ3 H3 h3=>#[m,dj m,h3],?_];have q2:=q1.later st2;refine#[env1,ρ2,S2,_,he1.later R1 st2,R2,w2,#[λenv' S' σ' H' ρ' h b R' e=>#[env',ρ',S',(st1.trans st2).trans b,R',e,h],q2.rt]]
def Jg(Γ:bZ)(tt:PL.Tg)(z:PL.dh)(DU:PL.Ends)(u:U)(en:PL.Env)(S:bJ)(k:PL.Env->bJ->Prop):Prop:=match tt with
 |.name i=>PL.uf Γ z {DU with nx:=k} (en.set i (some u)) S
 |.pair i j=>PL.Ob u λx y=>PL.uf Γ z {DU with nx:=k} ((en.set i (some x)).set j (some y)) S
theorem Jh:PL.WS Γ (.fP tt y z) DU env S=PL.WI Γ y env S (λus g S1=>PL.vk g (Jg Γ tt z DU) DU.nx us env S1):=by
 cases tt<;>rfl
theorem Ji(G:jc t T Γ k I X)(hc:I.calm=true)(hs:∀env v,foldedSetIterable it env v=pure v)
  (hi:PI X tg it (AY (X.cc t) Γ y)) (hg:PG X tg g0) (hb:uo X b (KW (X.cc t) Γ z))
  (hr0:∀{ρ H S env σ u v DU D Q k},ko (X.cc t) ρ H env σ->cz (X.cc t) ρ H S->Rep (X.cc t) ρ H u v->Jg Γ tt z DU u env S k->DR (X.cc t) ρ H {DU with nx:=k} D->(∀σ' H',KW (X.cc t) Γ z D σ' H'->Q σ' H')->g0 v σ H Q):
  PS X (.For tg it b [] pos) (tS (X.cc t) Γ (.fP tt y z)):=by
 refine(O8 (X:=X) G.g.ps (G.g.calm hc).1 hi hg hb (hs _)).imp ?_;rintro D σ H ⟨env,ρ,S,DU,he,R,w,q⟩;rw[Jh] at w;refine#[env,ρ,S,_,he,R,w,λus g S1 H1 ρ1 J w1 st1 R1 io=>?_]
 let F:=PL.vk g (Jg Γ tt z DU) DU.nx
 refine#[λj m σ2 H2=>m+j=us.length/\∃env2 ρ2 S2,iA ρ1 H1 ρ2 H2/\cz (X.cc t) ρ2 H2 S2/\ko (X.cc t) ρ2 H2 env2 σ2/\F (us.drop j) env2 S2,#[us.length,rfl,env,ρ1,S1,.refl,R1,he.later R st1,w1],?_];rintro j m σ2 H2 ⟨hm,env2,ρ2,S2,st2,R2,he2,wf⟩;have q2:=q.later (st1.trans st2);cases hd:us.drop j with
 |nil=>
  rw[hd] at wf;obtain⟨g2,w2⟩:g S2/\DU.nx env2 S2:=wf;erw[.inl #[(io j ρ2 H2 S2 st2 R2 g2).2 (DD.mp hd),q2.nx _ _ _ _ _ w2 .refl R2 he2]]
 |cons u rest=>
  rw[hd] at wf;let#[g2,w2]:=wf;have hu:us[j]?=some u:=by
   have:=congrArg (λl=>l[0]?) hd;simpa using this
  have hr:us.drop (j+1)=rest:=by
   have:=congrArg List.tail hd;simpa using this
  have hj:j<us.length:=(ae.mp hu).1;let#[jg,jy]:=(io j ρ2 H2 S2 st2 R2 g2).1 u hu;rwa[.inr #[jg,λσ3 H3=>∃env3 ρ3 S3,iA ρ1 H1 ρ3 H3/\cz (X.cc t) ρ3 H3 S3/\ko (X.cc t) ρ3 H3 env3 σ3/\F rest env3 S3,λσ3 H3 h3=>#[m-1,∅,∅,by rw[hr];erw[h3]],λyv H3 hy=>?_]];let#[st3,R3,ry]:=jy yv H3 hy;have q3:=q2.later st3;rwa[hr0 (DU:=DU) (k:=F rest) (D:=#[_,_,_,_]) (he2.later R2 st3) R3 ry w2 ?_ λσ' H' h=>h]
  exact#[λenv' S' σ' H' ρ' h b R' e=>#[env',ρ',S',(st2.trans st3).trans b,R',e,h],q3.rt]
theorem M9(G:jc t T Γ k I X)(hc:I.calm=true)(h:dY x I.N=some i)(hl:uh (I.names.lookup x)=true)(hs:∀env v,foldedSetIterable it env v=pure v)
  (hi:PI X (.Name x px) it (AY (X.cc t) Γ y)) (hb:uo X b (KW (X.cc t) Γ z)):PS X (.For (.Name x px) it b [] pos) (tS (X.cc t) Γ (.fP (.name i) y z)):=
 Ji (tt:=.name i) G hc hs hi (qW (i:=i) G.g.nd (by rw[G.g.slots];exact fc h) (sU hl G.g.names) (.inl (G.st x))) hb
  λhe R ru w q hq=>hq _ _ #[_,_,_,_,he.set ru i,R,w,q]
theorem Na(G:jc t T Γ k I X)(hc:I.calm=true)(h:dY x I.N=some i)(hl:uh (I.names.lookup x)=true)(h2:dY x2 I.N=some j)(hl2:uh (I.names.lookup x2)=true)(hs:∀env v,foldedSetIterable it env v=pure v)
  (hi:PI X (.Tuple [.Name x px,.Name x2 px2] kk pt) it (AY (X.cc t) Γ y)) (hb:uo X b (KW (X.cc t) Γ z)):PS X (.For (.Tuple [.Name x px,.Name x2 px2] kk pt) it b [] pos) (tS (X.cc t) Γ (.fP (.pair i j) y z)):=by
 have p1:PG X (.Name x px) (xf i):=qW (i:=i) G.g.nd (by rw[G.g.slots];erw[fc h]) (sU hl G.g.names) (.inl (G.st x));have p2:PG X (.Name x2 px2) (xf j):=qW (i:=j) G.g.nd (by rw[G.g.slots];erw[fc h2]) (sU hl2 G.g.names) (.inl (G.st x2));rwa[Ji (tt:=.pair i j) G hc hs hi (Hq (n:=2) (G.g.calm hc).1 (qX p1 (qX p2 DG rfl) rfl) rfl rfl) hb ?_];intro ρ H S env σ u v DU D Q kk he R ru w q hq;let#[a,b',e1,w]:=PL.DT.mp (show PL.Ob _ _ from w);subst e1;let#[ad,vs,ev,hs',rs]:=dG.mp ru;subst ev;unfold aX at rs;let#[v1,r1,rfl,k1,k2]:=rs;unfold aX at k2;let#[v2,r2,rfl,k3,k4]:=k2;unfold aX at k4;subst k4;exact#[ad,[v1,v2],rfl,.inl (.inl hs'),rfl,v1,[v2],rfl,v2,[],rfl,rfl,hq _ _ #[_,_,_,_,(he.set k1 i).set k3 j,R,w,q]]
end
open PL (U SO bJ KU bZ)
section
variable{t:xE}{T:Tab}{Γ:bZ}{k n:Nat}{I:Inf}{X:Cx}
theorem C4{elt iter tg:Expr}{ifs:List Expr}{x:List Str}{y:Str}{i:Nat}{py pos spos:Pos}{sc:kh}{it:PL.It}{tc:PL.Tx}{e:PL.Ex}{ci:List Nat}(G:jc t T Γ k I X)(hc:I.calm=true)(ht:Mp tg=some x)(hb:vq I sc x=true)(hci:(iD I sc).mapM (λy=>dY y I.N)=some ci)
  (hs:∀env v,foldedSetIterable iter env v=pure v) (hi:PI X tg iter (AY (X.cc t) Γ it))
  (hif:∀(X':Cx),Good t T Γ k #[rG I sc.names,x++iD I sc,true] X'->X'.cc t=X.cc t->L0 X' ifs (tT (X.cc t) Γ tc))
  (he:∀(X':Cx),Good t T Γ k #[rG I sc.names,x++iD I sc,true] X'->X'.cc t=X.cc t->PE X' elt (tE (X.cc t) Γ e))
  (hy:dY y I.N=some i) (hk:I.names.lookup y=some .local) (hsw:hU (.ListComp elt [#[tg,iter,ifs,0]] sc pos) (some (.Name y py)) spos.line X.env=pure true):
  PS X (.Assign [.Name y py] (.ListComp elt [#[tg,iter,ifs,0]] sc pos) spos) (tS (X.cc t) Γ (.set i (.comp (x.length==2) e it tc ci))):=by
 have hn:(iD I sc).Nodup:=by
  unfold iD;have:=G.g.nd;rw[G.g.slots] at this;erw[this.filter _]
 have cp:=Ef G.g hci;refine(Cw (X:=X) (i:=i) (wi:=AY (X.cc t) Γ it) (tc:=tT (X.cc t) Γ tc) (te:=tE (X.cc t) Γ e)
  (vA G.g hb) cp hn (G.g.calm hc).1 (Jd ht (vA G.g hb) cp hn (G.g.calm hc).1) hi (λC s₀ H₀ ex=>hif _ (rO G.g hc hb cp hn) rfl) (λC s₀ H₀ ex=>he _ (rO G.g hc hb cp hn) rfl) G.g.nd (by rw[G.g.slots];erw[fc hy]) (by rw[G.g.names];erw[hk]) hsw (hs _)).imp ?_
 intro D σ H z;erw[xI (C2 z)]
theorem Rg(G:jc t T Γ k I X)(hb:uo X b (KW (X.cc t) Γ xb)):PS X (.Try b (h::hs) [] [] pos) (tS (X.cc t) Γ (.SQ xb)):=by
 intro pZ s σ H D J z;rwa[wpAny_Try_except (fL (hb pZ s σ H D J z) (λf s1 q=>?_) λex s1 q=>?_)]
 .cases f with
  |next=>erw[qD q]
  |ret v=>erw[q]
  |brk=>erw[q]
  |cont=>erw[q]
 .rw[G.g.xe] at q;erw[q.elim]
end
open PL (U SO bJ KU bZ)
structure Nb(t:xE)(T:Tab)(Γ:bZ)(k n:Nat):Prop where
 fs:∀{I X st x},jc t T Γ k I X->cS T n I st=some x->PS X st (tS (X.cc t) Γ x)
 Om:∀{I X st x},jc t T Γ k I X->KS T n I st=some x->uo X st (KW (X.cc t) Γ x)
section
variable{t:xE}{T:Tab}{Γ:bZ}{k n:Nat}{I:Inf}{X:Cx}
theorem Rh(IH:Nb t T Γ k n)(G:jc t T Γ k I X):∀{st:List Stmt}{x:PL.dh},KS T (n+1) I st=some x->uo X st (KW (X.cc t) Γ x)
 |[],x,h=>by
  rw[Oi,Mr] at h;injection h with h;subst h
  refine(Lk (X:=X)).imp ?_;rintro D σ H ⟨env,ρ,S,DU,he,R,w,q⟩;erw[q.nx _ _ _ _ _ w .refl R he]
 |s::ss,x,h=>by
  rw[Oi,Mr] at h;dsimp[aM,au] at h;let#[y,h1,ys,h2,h3]:=h;injection h3 with h3;subst h3
  refine(Ho (X:=X) (IH.fs G h1) (IH.Om G h2)).imp ?_;rintro D σ H ⟨env,ρ,S,DU,he,R,w,q⟩;refine#[env,ρ,S,_,he,R,w,#[λenv' S' σ' H' ρ' h st R' e=>?_,q.rt]];exact#[env',ρ',S',DU,e,R',h,q.later st]
theorem Vk(IH:Nb t T Γ k n)(G:jc t T Γ k I X){st:Stmt}{x:PL.Sm}(h:cS T (n+1) I st=some x):PS X st (tS (X.cc t) Γ x):=by
 have A:=yU (t:=t) (T:=T) (Γ:=Γ) (k:=k) n;rw[Zp] at h;cases st with(delta Zn at h;dsimp only at h)
 |Assign ts e pos=>
  split at h
  .rename_i tg
   cases tg with
   |Name x' px=>
    dsimp only at h;split at h
    .rename_i i hi
     split at h
     .rename_i hl
      let#[y,h1,h2]:=ar.mp h;subst h2;by_cases nc:yP e=true
      .erw[Q9 G hi hl (λenv=>AZ nc) (A.fe G.g h1)]
      .change cE T n I _=_ at h1
       cases n with
       |zero=>rw[UZ] at h1;erw[nn h1]
       |succ n=>
        have A':=yU (t:=t) (T:=T) (Γ:=Γ) (k:=k) n;cases e with
        |ListComp elt gs sc cpos=>
         let#[tg,iter,ifs,xs,it,c,ee,ci,rfl,ht,hc,g1,g2,g3,g4,g5]:=vt h1;subst g5;have hi':=A2 A' G.g ht g1;cases sw:(X.env.blockKind==.function&&X.env.kindOf x'==some .local&&px.line==cpos.line && !(sc.names.any λ(n,k)=>n==x'&&(k==.local||k==.cell))) with
         |true=>
          have hsw:hU (.ListComp elt [#[tg,iter,ifs,0]] sc cpos) (some (.Name x' px)) pos.line X.env=pure true:=by
           show(pure _:Sem Bool)=pure true
           erw[congrArg pure sw]
          have hkl:I.names.lookup x'=some .local:=by
           dsimp[aj] at sw;have:=sw.1.1.2;unfold Env.kindOf at this;rw[G.g.names] at this;simpa using this
          rwa[C4 G hc.2 ht hc.1 g4 hi'.1 hi'.2 (λX' G' ec=>Eh A' G' ec g2) (λX' G' ec=>?_) hi hkl hsw];have:=A'.fe G' g3;rw[ec] at this;erw[this]
         |false=>
          have hsw:hU (.ListComp elt [#[tg,iter,ifs,0]] sc cpos) (some (.Name x' px)) pos.line X.env=pure false:=by
           show(pure _:Sem Bool)=pure false
           erw[congrArg pure sw]
          refine(Hr (X:=X) (i:=i) G.g.nd (by rw[G.g.slots];erw[fc hi]) (sU hl G.g.names) (A.fe G.g h1) hsw (.inl (G.st x'))).imp ?_;intro D σ H z;erw[C2 z]
        |SetComp=>rw[Mq] at h1;unfold SV at h1;erw[nn h1]
        |DictComp=>rw[Mq] at h1;unfold SV at h1;erw[nn h1]
        |_=>erw[absurd rfl nc]
     .erw[nn h]
    .erw[nn h]
   |Attribute o f px=>
    dsimp[aM,au] at h;let#[q,h1,a,h2,b,h3,h4]:=h;injection h4 with h4;subst h4
    let#[hm,rfl]:=mJ h1;erw[M5 G hm (A.fe G.g h2) (A.fe G.g h3)]
   |Subscript o i px=>
    dsimp only at h;split at h
    .dsimp[aM,au] at h
     let#[a,h1,b,h2,c,h3,h4]:=h;injection h4 with h4;subst h4
     erw[M6 G (A.fe G.g h1) (A.fe G.g h2) (A.fe G.g h3)]
    .erw[nn h]
   |_=>erw[nn h]
  .erw[nn h]
 |AugAssign tg op e pos=>
  cases tg with
  |Name x' px=>
   dsimp only at h;split at h
   .rename_i i hi
    split at h
    .rename_i hl
     dsimp[aM,au] at h;let#[p,h1,y,h2,h3]:=h;injection h3 with h3;subst h3
     erw[Rc G hi hl h1 (A.fe G.g h2)]
    .erw[nn h]
   .erw[nn h]
  |Attribute o f px=>
   dsimp[aM,au] at h;let#[q,h1,p,h2,a,h3,b,h4,h5]:=h;injection h5 with h5;subst h5
   let#[hm,rfl]:=mJ h1;erw[M7 G hm h2 (A.fe G.g h3) (A.fe G.g h4)]
  |Subscript o i px=>
   dsimp only at h;split at h
   .rename_i hn
    dsimp[aM,au] at h;let#[p,h1,a,h2,b,h3,c,h4,h5]:=h;injection h5 with h5;subst h5
    erw[M8 G hn h1 (A.fe G.g h2) (A.fe G.g h3) (A.fe G.g h4)]
   .erw[nn h]
  |_=>erw[nn h]
 |Expr e pos=>
  split at h
  .rename_i hc
   let#[y,h1,h2]:=ar.mp h;subst h2;erw[Vi G hc (A.fe G.g h1)]
  .erw[nn h]
 |Return e pos=>
  cases e with
  |none=>erw[nn h]
  |some e=>
   let#[y,h1,h2]:=ar.mp h;subst h2;erw[Ra G (A.fe G.g h1)]
 |If c a b pos=>
  dsimp[aM,au] at h;let#[c,h1,a,h2,b,h3,h4]:=h;injection h4 with h4;subst h4
  erw[Rb G (A.ft G.g h1) (IH.Om G h2) (IH.Om G h3)]
 |While c b el pos=>
  split at h
  .rename_i he
   have he:el=[]:=by simpa using he
   subst he;dsimp[aM,au] at h;let#[c,h1,a,h2,h3]:=h;injection h3 with h3;subst h3
   erw[Rf G (A.ft G.g h1) (IH.Om G h2)]
  .erw[nn h]
 |For tg it b el pos=>
  split at h
  .erw[nn h]
  .rename_i hc
   dsimp[gI,He,aj] at hc;have he:el=[]:=by simpa using hc.2
   subst he;split at h
   .rename_i xs ht
    rcases CT ht with⟨x,p,rfl,rfl⟩|⟨x,y,p,p',kd,q,rfl,rfl⟩
    .dsimp only at h
     split at h
     .rename_i i hi
      split at h
      .rename_i hl
       dsimp[aM,au] at h;let#[it,h1,a,h2,h3]:=h;injection h3 with h3;subst h3
       erw[M9 G hc.1 hi hl (Eg h1) (A.fi G.g h1) (IH.Om G h2)]
      .erw[nn h]
     .erw[nn h]
    .dsimp only at h
     split at h
     .rename_i i hi
      split at h
      .rename_i j hj
       split at h
       .rename_i hl
        rw[aj] at hl;dsimp[aM,au] at h;let#[it,h1,a,h2,h3]:=h;injection h3 with h3;subst h3
        erw[Na G hc.1 hi hl.1 hj hl.2 (Ol h1) (A.fn G.g h1) (IH.Om G h2)]
       .erw[nn h]
      .erw[nn h]
     .erw[nn h]
   .erw[nn h]
 |Raise ex ca pos=>
  injection h with h;subst h
  rintro pZ s σ H D J ⟨env,ρ,S,DU,he,R,w,q⟩;erw[aT w]
 |Try b hs el fi pos=>
  cases hs with
  |nil=>erw[nn h]
  |cons h0 hs=>
   dsimp only at h;split at h
   .rename_i hc
    rw[aj] at hc;let#[he,hf]:=hc;have he:el=[]:=by simpa using he
    have hf:fi=[]:=by simpa using hf
    subst he;subst hf;let#[b,h2,h4]:=ar.mp h;subst h4;erw[Rg G (IH.Om G h2)]
   .erw[nn h]
 |_=>erw[nn h]
theorem FY:Nb t T Γ k 0:=by
 constructor
 .intro I X st x _ h;rw[Zo] at h;erw[nn h]
 .intro I X st x _ h;rw[U4] at h;erw[nn h]
theorem A3:∀n,Nb t T Γ k n
 |0=>FY
 |n+1=>
  have IH:=A3 n
  #[λG h=>Vk IH G h,λG h=>Rh IH G h]
end
open PL (U SO bJ KU bZ)
structure Base(c:Ctx)(T:Tab)(kx:Nat):Prop where
 tab:IV c T
theorem Oo{c:Ctx}{T:Tab}{Γ:bZ}{k kx n m:Nat}{x qual:Str}{st:Stmt}{f:Addr}{fd:fF}{N ps:List Str}{sp:PL.Spec}{b:PL.dh}(F:KO c.K x qual st f fd)(S:lI N ps (bU st))
  (B:Base c T kx) (hkx:kx<=k) (G:gy c T Γ k) (hc:KS T n #[(bU st).names,N,true] (fO st)=some b) (hk:PL.Keeps Γ b m sp) (hm:N.length=ps.length+m) (hl:∀us S Q,sp us S Q->us.length=ps.length):
  jq c.P c.w c.K c.mg c.base Cs (k+2) f fd ps (lift c sp):=by
 rwa[KO.ok (k:=k+1) F S (λvs H Q E h=>?_) (λcdv A outer s H vs Q E hr h=>?_)]
 .let#[us,ρ,S0,QU,r,R,w,q]:=h
  rw[<-r.len];erw[hl _ _ _ w]
 let#[us,ρ,S0,QU,r,R,w,q]:=h
 let t:xE:=#[c.cls]
 let X:=(Cm Cs c.P c.w c.K c.mg c.base N qual (bU st) f cdv A outer s H E).TB
 have G0:Good t T Γ k #[(bU st).names,N,true] X:=#[B.tab,G,S.kind,rfl,rfl,S.nd,λ_=>#[rfl,hr],by have:=hr.un;show(A.deeper (su qual (bU st) s.heap.objs.size f cdv)).units+200<eL;omega,rfl]
 refine#[_,(A3 n).Om #[G0,λ_=>rfl] hc,?_];have hlen:us.length=ps.length:=hl _ _ _ w;have hvl:vs.length=us.length:=r.len.symm;refine#[us.map some++eD m none,ρ,S0,#[λ_ S1=>QU .bV S1,QU],#[?_,λi u e=>?_],R,hk us S0 QU w,#[λenv' S' σ' H' ρ' h st R' e=>q _ _ _ _ _ h st R' (eR.mpr rfl),q]]
 .unfold start
  simp
  omega
 .unfold start
  by_cases z:i<us.length
  .rw[ah (by simpa using z),aB] at e
   let#[u',e1,e2]:=ar.mp e;injection e2 with e2;subst e2
   let#[v,e3,r3]:=r.get e1;exact#[v,by rw[ah (by rw[ak,hvl];erw[z]),aB,e3];rfl,r3]
  .rw[aw (by simpa using fM z),z8] at e
   split at e
   .cases e
   .cases e
noncomputable def C5:PL.Spec:=λus _ Q=>∃ns:List Int,us=[.rm ns]/\ns.length<=63/\∀S',Q (.bl true) S'
noncomputable def yV(K:Frag):Sp:=λvs H Q _=>∃(a:Addr)(ns:List Int),vs=[.ref a]/\ns.length<=63/\xA K H a (ns.map .int)/\∀H',Q (.bl true) H'
theorem Nc(F:jq c.P c.w c.K c.mg c.base Cs k f fd ps (lift c C5)):jq c.P c.w c.K c.mg c.base Cs k f fd ps (yV c.K):=by
 rwa[F.imp λvs H Q E h=>?_]
 let#[a,ns,rfl,hl,hf,q]:=h;refine#[[.rm ns],[],[],λu _=>u=.bl true,aX.cons (rJ.mpr #[a,rfl,hf]) aX.nil,#[rfl,wQ,λn a o h=>by simp at h],#[ns,rfl,hl,λ_=>rfl],λu S' v H' ρ' e _ _ r=>?_];subst e;rw[dZ.mp r]
 erw[q H']
theorem Jj{K:Frag}{H:Hp}{a:Addr}{xs:List V}(o:LO H)(h:iU K H a xs):xA K H a xs:=by
 rcases h with(h|⟨ob,h⟩)|h
 .rcases o a with z|⟨ob,ys,z⟩
  .rw[h] at z;cases z
  .rw[h] at z;cases z
 .erw[.inl #[ob,h]]
 .erw[.inr h]
end L2
section
namespace PL
theorem Xs:fW "text" [("text",a),("at",b),("depth",c)]=some a:=rfl
theorem aaZ:fW "at" [("text",a),("at",b),("depth",c)]=some b:=rfl
theorem Vl:fW "depth" [("text",a),("at",b),("depth",c)]=some c:=rfl
end PL
open PL
def wN0:="aaK aaL abD aaM YO YQ w_var w_lit aaw aax w_not w_and w_or aay aaz YG w_mk YH aaA aaB w_fld abz abA aaC aaD YI aaF YK abB abC UR aaG YL aaH YM YN aaI Qa Qb Qc Yn Qd Yo Yp Xh Yq Z9 Od aaa aab Oe aac Of aad abq abr abt abu Mj Ml Qi Qj Qk Yr Mm Ys Ql UI UJ UK abv Yt Yu abw abx Z7 Z8 UM DZ aae UN yE aaf aag aah aai aaj aak aal aam Mn Yv Xi aan aao DQ AI xw sG xn YC Xk UO UP UQ v_s YD v_l bind_f YE UG abp UH true_and bg xv aD bN H0 Ma Xd Mb List.getElem?_cons_zero List.getElem?_cons_succ List.map_cons List.map_nil List.replicate_zero List.replicate_succ List.cons_append List.nil_append List.append_nil List.set_cons_zero List.set_cons_succ mI Option.join_some"
local macro_rules | `(tactic| walk_at "pl") => do let a:=((wN0++" aas YF aat aau aav iC Xs aaZ Vl").splitOn " ").toArray.map fun s=>Lean.mkIdent s.toName;`(tactic| simp only [$[$a:ident],*])
namespace PL
def mf(x rest:List Nat)(d:Nat):SO:=.ins "Reader" [("text",.str x),("at",.int (x.length-rest.length:Nat)),("depth",.int d)]
def lC(r:Nat)(o:SO)(S S':bJ):Prop:=S.length<=S'.length/\S'[r]?=some o/\∀n,n<S.length->n≠r->S'[n]?=S[n]?
def Old(r:Nat)(S S':bJ):Prop:=S.length<=S'.length/\∀n,n<S.length->n≠r->S'[n]?=S[n]?
def Ext(S S':bJ):Prop:=S.length<=S'.length/\∀n,n<S.length->S'[n]?=S[n]?
def cA(l rest:List Nat):Bool:=match rest with|[]=>false|c::_=>l.contains c
def C6:Spec:=λus S Q=>∃r x rest d l,us=[.loc r,.str l]/\S[r]?=some (mf x rest d)/\rest<:+x/\x.length<=1000/\Q (.bl (cA l rest)) S
section
variable{x rest:List Nat}
theorem Jk(h:rest<:+x)(k:Nat):x[x.length-rest.length+k]?=rest[k]?:=by
 let#[p,rfl]:=h;rw[az,Nat.add_sub_cancel,aw ∅]
 congr 1
 omega
theorem Oq(h:rest<:+x):((x.length-rest.length:Nat):Int)<x.length↔rest≠[]:=by
 let#[p,rfl]:=h;cases rest with
 |nil=>simp
 |cons c r=>simp;omega
end
section
variable{S:bJ}{r:Nat}{x rest:List Nat}{d:Nat}{q:U->Prop}
theorem yW(h:S[r]?=some (mf x rest d)):om (.loc r) "text" S q=q (.str x):=by rw[iC,h];rfl
theorem A4(h:S[r]?=some (mf x rest d)):om (.loc r) "at" S q=q (.int (x.length-rest.length:Nat)):=by rw[iC,h];rfl
theorem Jl(h:S[r]?=some (mf x rest d)):om (.loc r) "depth" S q=q (.int d):=by rw[iC,h];rfl
theorem cf{Q:String->List (String×U)->Prop}(h:S[r]?=some (mf x rest d)):qw S[r]? Q=Q "Reader" [("text",.str x),("at",.int (x.length-rest.length:Nat)),("depth",.int d)]:=by rw[h];rfl
end
theorem Nd(Γ:bZ):Keeps Γ jP 0 C6:=by
 rintro us S Q ⟨r,x,rest,d,l,rfl,hS,hx,hl,q⟩;unfold jP;walk_at "pl";dsimp[<-iC,yW hS,A4 hS];walk_at "pl";refine#[∅,?_];rw[jN]
 have h0:=Jk hx 0;rw[B1] at h0;rw[h0]
 dsimp[decide_eq_true_eq,Oq hx];cases rest with
 |nil=>simpa[cA] using q
 |cons c t=>simp[cA] at q ⊢;exact#[∅,q]
abbrev PR(α:Type):=Except (List Nat) (α×List Nat)
def dQ(l rest:List Nat):PR Nat:=match rest with|[]=>.error []|c::r=>if l.contains c then .ok (c,r) else .error (c::r)
noncomputable def mapR{α β:Type}(f:α->β):PR α->PR β|.ok (a,r)=>.ok (f a,r)|.error r=>.error r
noncomputable def bindR{α β:Type}(p:PR α)(f:α->List Nat->PR β):PR β:=match p with|.ok (a,r)=>f a r|.error r=>.error r
noncomputable def oo(c:Nat):U:=.str [c]
def dS(r:Nat)(x:List Nat)(d:Nat)(S:bJ)(Q:KU):PR U->Prop
 |.ok (u,r')=>∀S',lC r (mf x r' d) S S'->Q u S'
 |.error r'=>False
def zU(args:List U)(p:List Nat->PR U)(d:Nat):Spec:=λus S Q=>∃r x rest,us=.loc r::args/\S[r]?=some (mf x rest d)/\rest<:+x/\x.length<=1000/\dS r x d S Q (p rest)
def Jm:Spec:=λus S Q=>∃l d,zU [.str l] (λrest=>mapR oo (dQ l rest)) d us S Q
section
variable{S S1 S2:bJ}{r:Nat}{o o':SO}
theorem aN{α:Type}{l:List α}{n:Nat}{a:α}(h:l[n]?=some a):n<l.length:=(ae.mp h).1
theorem lC.set(h:S[r]?=some o):lC r o' S (S.set r o'):=by
 refine#[by simp,by simp[jz,aN h],λn hn ne=>?_];rw[ao (cR ne)]
theorem lC.refl(h:S[r]?=some o):lC r o S S:=#[aq _,h,λ_ _ _=>rfl]
theorem Old.trans(a:Old r S S1)(b:Old r S1 S2):Old r S S2:=#[aH a.1 b.1,λn h ne=>(b.2 n (av h a.1) ne).trans (a.2 n h ne)]
theorem lC.old(a:lC r o S S1):Old r S S1:=#[a.1,a.2.2]
theorem lC.trans(a:lC r o S S1)(b:lC r o' S1 S2):lC r o' S S2:=#[aH a.1 b.1,b.2.1,(a.old.trans b.old).2]
theorem Ext.old(a:Ext S S1):Old r S S1:=#[a.1,λn h _=>a.2 n h]
theorem Ext.refl:Ext S S:=#[aq _,λ_ _=>rfl]
theorem Ext.trans(a:Ext S S1)(b:Ext S1 S2):Ext S S2:=#[aH a.1 b.1,λn h=>(b.2 n (av h a.1)).trans (a.2 n h)]
theorem Ext.get(a:Ext S S1)(h:S[r]?=some o):S1[r]?=some o:=(a.2 r (aN h)).trans h
theorem Ext.chg(a:Ext S S1)(h:S[r]?=some o):lC r o S S1:=#[a.1,a.get h,λn h _=>a.2 n h]
theorem Ext.app(l:List SO):Ext S (S++l):=#[by simp,λn h=>ah h]
theorem gs(h:S[r]?=some o):(S.set r o')[r]?=some o':=(lC.set h).2.1
end
theorem sub_len(h:(c::t)<:+x):((x.length-(c::t).length:Nat):Int)+1=(x.length-t.length:Nat):=by
 let#[p,rfl]:=h;simp
 omega
theorem Ri{x t:List Nat}{z v:U}{d:Nat}(h:z=.int (x.length-t.length:Nat)):SO.ins "Reader" (gX "at" z [("text",.str x),("at",v),("depth",.int d)])=mf x t d:=by subst h;rfl
theorem yX{x t:List Nat}{c:Nat}(h:(c::t)<:+x):t<:+x:=m7 (df c t) h
theorem Nf(Γ:bZ)(h1:Γ "Reader.sees"=C6):Keeps Γ iH 0 Jm:=by
 rintro us S Q ⟨l,d,r,x,rest,rfl,hS,hx,hl,q⟩;unfold iH;walk_at "pl";dsimp[cf hS,h1];walk_at "pl";refine#[rfl,r,x,rest,d,l,rfl,hS,hx,hl,?_];walk_at "pl";dsimp[cf hS];walk_at "pl";cases rest with
 |nil=>erw[q.elim]
 |cons c t=>
  by_cases e:l.contains c=true
  .dsimp[dQ,e,if_true,mapR,dS] at q
   dsimp[cA,e];have p:=Ri (v:=.int ((x.length-(c::t).length:Nat):Int)) (d:=d) (congrArg U.int (sub_len hx));have g:=gs (o':=mf x t d) hS;dsimp[a9,ag,if_false,Qa];dsimp[cf hS,p];dsimp[<-iC,yW g,A4 g,Qd,UM];refine#[trivial,by simp,∅,?_];have e2:((x.length-t.length:Nat):Int)-1=(x.length-(c::t).length:Nat):=by have:=sub_len hx;omega
   have h0:=Jk hx 0;rw[B1] at h0;rw[e2,jN,h0]
   erw[q _ (lC.set hS)]
  .dsimp[dQ,e,mapR,dS] at q
   dsimp[cA,e];erw[q.elim]
def Suf{α:Type}(rest:List Nat):PR α->Prop
 |.ok (_,r)=>r<:+rest
 |.error r=>r<:+rest
def mh{α:Type}(rest:List Nat):PR α->Prop
 |.ok (_,r)=>r<:+rest/\r.length<rest.length
 |.error r=>r<:+rest
theorem mh.Rj{α:Type}{rest:List Nat}{p:PR α}(h:mh rest p):Suf rest p:=by
 cases p with
 |ok v=>erw[h.1]
 |error r=>erw[h]
theorem mh.bind{α β:Type}{rest:List Nat}{p:PR α}{f:α->List Nat->PR β}(h:mh rest p)(k:∀a r,p=.ok (a,r)->Suf r (f a r)):mh rest (bindR p f):=by
 cases p with
 |error r=>erw[h]
 |ok v=>
  let#[a,r]:=v;have:=k a r rfl;unfold bindR;dsimp only;cases q:f a r with
  |error r'=>rw[q] at this;erw[this.trans h.1]
  |ok w=>
   let#[b,r']:=w;rw[q] at this;exact#[this.trans h.1,gg this.length_le h.2]
theorem Suf.bind{α β:Type}{rest:List Nat}{p:PR α}{f:α->List Nat->PR β}(h:Suf rest p)(k:∀a r,p=.ok (a,r)->Suf r (f a r)):Suf rest (bindR p f):=by
 cases p with
 |error r=>erw[h]
 |ok v=>
  let#[a,r]:=v;have:=k a r rfl;unfold bindR;dsimp only;cases q:f a r with
  |error r'=>rw[q] at this;erw[this.trans h]
  |ok w=>
   let#[b,r']:=w;rw[q] at this;erw[this.trans h]
theorem gS(l rest:List Nat):mh rest (dQ l rest):=by
 cases rest with
 |nil=>erw[bL _]
 |cons c t=>
  unfold dQ;dsimp only;split
  .exact#[df c t,by simp]
  .erw[bL _]
theorem dS.bind{α:Type}{toU:α->U}{p:PR α}{f:α->List Nat->PR U}{r d:Nat}{x rest:List Nat}{S S1:bJ}{Q Q1:KU}(h:dS r x d S Q (bindR p f))(st:lC r (mf x rest d) S S1)
  (k:∀a r1 S2,p=.ok (a,r1)->lC r (mf x r1 d) S S2->dS r x d S Q (f a r1)->Q1 (toU a) S2):dS r x d S1 Q1 (mapR toU p):=by
 cases p with
 |error r'=>erw[h]
 |ok v=>
  let#[a,r1]:=v;erw[λS' c=>k a r1 S' rfl (st.trans c) h]
theorem Ng:mapR id p=p:=by
 cases p with
 |ok v=>rfl
 |error r=>rfl
theorem xJ{α β:Type}{f:α->β}{p:PR α}:mapR f p=bindR p (λa r=>.ok (f a,r)):=by
 cases p with
 |ok v=>rfl
 |error r=>rfl
theorem lV(p:Nat->Bool)(hg:g S)(hc:∀n k,k (p n) S->c (.str [n]) S k)(he:∀n k,k (.str [n]) S->e (.str [n]) S k):
  ∀(l:List Nat)(acc:List U),acc.length+l.length<16500000->Q (acc++(l.filter p).map oo) S->nY g c e Q (l.map λn=>.str [n]) acc S
 |[],acc,hl,q=>#[hg,by simpa using hl,by simpa using q]
 |n::l,acc,hl,q=>by
  dsimp[aZ] at hl;refine#[hg,∅,hc n _ ?_];by_cases h:p n=true
  .rw[if_pos h]
   rwa[he n _ (lV p hg hc he l (acc++[.str [n]]) (by simp;omega) ?_)];rw[KH,if_pos h] at q;simpa[oo] using q
  .rw[if_neg h]
   rwa[lV p hg hc he l acc ∅ ?_];rw[KH,if_neg h] at q;erw[q]
theorem join_ones:∀l:List Nat,lK [] (l.map λn=>[n])=l
 |[]=>rfl
 |[n]=>rfl
 |n::m::l=>by
  have:=join_ones (m::l);dsimp[ay] at this ⊢;dsimp[lK,cq];rw[this];rfl
noncomputable def dO(l:List Nat):List Nat:=SG.filter λc=>!l.contains c
noncomputable def inOrder(l:List Nat):List Nat:=SG.filter λc=>l.contains c
noncomputable def spT(f:List Nat->List Nat):Spec:=λus S Q=>∃l,us=[.str l]/\∀S',Ext S S'->Q (.str (f l)) S'
theorem vB:∀l:List Nat,((l.map λn=>[n]).map cG).sum=l.length
 |[]=>rfl
 |n::l=>by rw[ay,ay,zR,vB l];simp;omega
theorem Ei(l:List Nat):l.map oo=(l.map λn=>[n]).map U.str:=by
 rw[bz];rfl
theorem Ej(p:Nat->Bool):(SG.filter p).length<=95:=aH (B3 _ _) ⋯
theorem A5(Γ:bZ):Keeps Γ ny 0 (spT inOrder):=by
 rintro us S Q ⟨l,rfl,q⟩;unfold ny;walk_at "pl";refine lV (λc=>l.contains c) trivial (λn k h=>by rw[Mj];exact h) (λn k h=>h) SG [] ⋯ ?_;dsimp[i0];try walk_at "pl"
 refine#[(inOrder l).map λn=>[n],?_,?_,?_]
 .rw[<-Ei];simp[inOrder]
 .have:=Ej λc=>l.contains c
  rw[vB];simp[inOrder] at this ⊢;omega
 .rw[join_ones];erw[q _ (Ext.app _)]
theorem vC(Γ:bZ):Keeps Γ pB 0 (spT dO):=by
 rintro us S Q ⟨l,rfl,q⟩;unfold pB;walk_at "pl";refine lV (λc=>!l.contains c) trivial (λn k h=>by rw[Ml];exact h) (λn k h=>h) SG [] ⋯ ?_;dsimp[i0];try walk_at "pl"
 refine#[(dO l).map λn=>[n],?_,?_,?_]
 .rw[<-Ei];simp[dO]
 .have:=Ej λc=>!l.contains c
  rw[vB];simp[dO] at this ⊢;omega
 .rw[join_ones];erw[q _ (Ext.app _)]
def Ek:Spec:=λus S Q=>∃a b,us=[.str [a],.str [b]]/\a∈SG/\b∈SG/\Q (.bl (decide (SG.idxOf a<SG.idxOf b))) S
theorem A6(Γ:bZ):Keeps Γ nA 0 Ek:=by
 rintro us S Q ⟨a,b,rfl,ha,hb,q⟩;unfold nA;walk_at "pl";refine#[a,rfl,ha,b,rfl,hb,?_];simpa using q
noncomputable def k5(a b:Nat):List Nat:=(SG.drop (SG.idxOf a)).take (SG.idxOf b+1-SG.idxOf a)
def xK:Spec:=λus S Q=>∃a b,us=[.str [a],.str [b]]/\a∈SG/\b∈SG/\Q (.str (k5 a b)) S
theorem C7(h:a∈SG):SG.idxOf a<95:=by
 have:=List.idxOf_lt_length_iff.mpr h;simpa using this
theorem C8(Γ:bZ):Keeps Γ pC 0 xK:=by
 rintro us S Q ⟨a,b,rfl,ha,hb,q⟩;unfold pC;walk_at "pl";refine#[a,rfl,ha,?_];refine#[b,rfl,hb,?_];try walk_at "pl"
 have h1:=C7 ha;have h2:=C7 hb;refine#[#[λi e=>?_,λi e=>?_],⋯,?_]
 .injection e with e;omega
 .injection e with e;omega
 .have e:sQ SG (some (SG.idxOf a:Int)) (some ((SG.idxOf b:Int)+1))=k5 a b:=by
   unfold sQ k5;have l:SG.length=95:=⋯
   dsimp[fE,l];have e1:min (((SG.idxOf a:Nat):Int).toNat) 95=SG.idxOf a:=∅
   have e2:min ((((SG.idxOf b:Nat):Int)+1).toNat) 95=SG.idxOf b+1:=∅
   rw[e1,e2]
  show Q (.str (sQ SG (some (SG.idxOf a:Int)) (some ((SG.idxOf b:Int)+1)))) S
  rw[e];erw[q]
noncomputable abbrev BB:List Nat:=[46,124,40,41,91,93,42,43,63,92,45,94,110]
noncomputable abbrev MO:List Nat:=[46,124,40,41,91,93,42,43,63,92]
noncomputable abbrev MW:List Nat:=[93,45,92]
def kB(m rest:List Nat):PR Nat:=
 match rest with
 |92::r=>bindR (dQ BB r) λs r'=>.ok (if s=110 then 10 else s,r')
 |_=>dQ (dO m) rest
theorem Jn(m r:List Nat):kB m (92::r)=bindR (dQ BB r) λs r'=>.ok (if s=110 then 10 else s,r'):=rfl
theorem A7{m rest:List Nat}(h:cA [92] rest=false):kB m rest=dQ (dO m) rest:=by
 unfold kB;split
 .simp[cA] at h
 .rfl
theorem Jo{c:Nat}{rest:List Nat}(h:cA [c] rest=true):∃t,rest=c::t:=by
 cases rest with
 |nil=>simp[cA] at h
 |cons a t=>simp[cA] at h;subst h;exact#[t,rfl]
theorem kS(m rest:List Nat):mh rest (kB m rest):=by
 unfold kB;split
 .rename_i r
  have h:=(gS BB r).bind (f:=λs r'=>(.ok (if s=110 then 10 else s,r'):PR Nat)) λa r' _=>bL _
  cases q:bindR (dQ BB r) λs r'=>(.ok (if s=110 then 10 else s,r'):PR Nat) with
  |error r'=>rw[q] at h;erw[h.trans (df _ _)]
  |ok v=>rw[q] at h;exact#[h.1.trans (df _ _),bf h.2]
 .erw[gS _ _]
theorem El(h:dQ l rest=.ok (c,r)):c∈l/\rest=c::r:=by
 cases rest with
 |nil=>simp[dQ] at h
 |cons a t=>
  unfold dQ at h;dsimp only at h;split at h
  .rename_i z
   injection h with h;injection h with h1 h2;subst h1;subst h2
   exact#[by simpa using z,rfl]
  .cases h
theorem vD{m rest:List Nat}{c:Nat}{r:List Nat}(h:kB m rest=.ok (c,r)):c∈SG:=by
 unfold kB at h;split at h
 .rename_i t
  cases q:dQ BB t with
  |error r'=>rw[q] at h;cases h
  |ok v=>
   let#[s,r']:=v;rw[q] at h;dsimp[bindR] at h;injection h with h;injection h with h1 h2
   have hs:=(El q).1;subst h1;split
   .decide
   .have:∀s∈BB,s∈SG:=⋯
    erw[this s hs]
 .have:=(El h).1
  unfold dO at this;exact(eU.mp this).1
def Em(d:Nat):Spec:=λus S Q=>∃m,zU [.str m] (λrest=>mapR oo (kB m rest)) d us S Q
structure GR(Γ:bZ):Prop where
 sees:Γ "Reader.sees"=C6
 pass:Γ "Reader.passes"=Jm
 C9:Γ "all_but"=spT dO
 Rk:Γ "in_order"=spT inOrder
 ahead:Γ "is_ahead"=Ek
 Jp:Γ "stretch"=xK
theorem Jq(Γ:bZ)(G:GR Γ)(d:Nat):Keeps Γ d8 1 (Em d):=by
 rintro us S Q ⟨m,r,x,rest,rfl,hS,hx,hl,q⟩;have q:dS r x d S Q (mapR oo (kB m rest)):=q;unfold d8;walk_at "pl";dsimp[cf hS,G.sees,G.pass];walk_at "pl";refine#[rfl,r,x,rest,d,_,rfl,hS,hx,hl,?_];walk_at "pl";by_cases e:cA [92] rest=true
 .let#[t,rfl]:=Jo e
  dsimp[e,a9,ag,if_false];dsimp[cf hS];refine#[#[by first|trivial|rfl,rfl],[92],d,r,x,_,rfl,hS,hx,hl,?_];have ht:=yX hx;show dS r x d S _ (mapR oo (.ok (92,t)));intro S1 c1;try walk_at "pl"
  dsimp[cf c1.2.1];refine#[#[by first|trivial|rfl,rfl],BB,d,r,x,t,rfl,c1.2.1,ht,hl,?_];rw[Jn] at q;have q':dS r x d S Q (bindR (dQ BB t) λs r'=>.ok (oo (if s=110 then 10 else s),r')):=by
   cases z:dQ BB t with
   |error r'=>rw[z] at q;erw[q]
   |ok v=>rw[z] at q;erw[q]
  rwa[q'.bind c1 λa r1 S2 e1 c2 q2=>?_]
  unfold oo;try walk_at "pl"
  dsimp[beq_iff_eq,dE,and_true];have:=q2 S2 c2;unfold oo at this;by_cases z:a=110
  .subst z;simpa using this
  .dsimp[z,if_false] at this ⊢;erw[this]
 .have e:cA [92] rest=false:=by simpa using e
  dsimp[e,bK,if_true];dsimp[cf hS,G.C9,true_and];refine#[rfl,m,rfl,λS1 x1=>?_];refine#[dO m,d,r,x,rest,rfl,x1.get hS,hx,hl,?_];show dS r x d S1 Q (mapR oo (dQ (dO m) rest));rw[A7 e] at q;cases z:dQ (dO m) rest with
  |error r'=>rw[z] at q;erw[q]
  |ok v=>rw[z] at q;erw[λS' c=>q S' ((x1.chg hS).trans c)]
end PL
local macro_rules | `(tactic| walk_at "qpf") => do let a:=((wN0++" Io aaJ aaN US UT aaO iC Xs aaZ Vl").splitOn " ").toArray.map fun s=>Lean.mkIdent s.toName;`(tactic| simp only [$[$a:ident],*])
local macro_rules | `(tactic| walk_at "pf") => `(tactic| ((try refine Rest.go ?_); walk_at "qpf"; repeat ((refine Rest.go ?_); walk_at "qpf")))
namespace PL
def k6(first:Nat)(r:List Nat):PR (List Nat):=
 match r with
 |45::r2=>bindR (kB MW r2) λsecond r3=>if SG.idxOf second<SG.idxOf first then .error r2 else .ok (k5 first second,r3)
 |_=>.ok ([first],r)
def item(rest:List Nat):PR (List Nat):=bindR (kB MW rest) k6
theorem A8(f:Nat)(r:List Nat):k6 f (45::r)=bindR (kB MW r) λsecond r3=>if SG.idxOf second<SG.idxOf f then .error r else .ok (k5 f second,r3):=rfl
theorem A9{f:Nat}{r:List Nat}(h:cA [45] r=false):k6 f r=.ok ([f],r):=by
 unfold k6;split
 .simp[cA] at h
 .rfl
theorem yY(f:Nat)(r:List Nat):Suf r (k6 f r):=by
 unfold k6;split
 .rename_i r2
  have h:=(kS MW r2).bind (f:=λsecond r3=>(if SG.idxOf second<SG.idxOf f then .error r2 else .ok (k5 f second,r3):PR (List Nat)));cases q:kB MW r2 with
  |error r'=>have:=kS MW r2;rw[q] at this;erw[this.trans (df _ _)]
  |ok v=>
   have:=kS MW r2;rw[q] at this;dsimp[bindR];split
   .erw[df _ _]
   .erw[this.1.trans (df _ _)]
 .erw[bL _]
theorem rP(rest:List Nat):mh rest (item rest):=(kS MW rest).bind λa r _=>yY a r
theorem jH{α β γ:Type}{g:β->γ}{p:PR α}{f:α->List Nat->PR β}:mapR g (bindR p f)=bindR p λa r=>mapR g (f a r):=by
 cases p with
 |ok v=>rfl
 |error r=>rfl
def Jr(d:Nat):Spec:=zU [] (λrest=>mapR U.str (item rest)) d
structure GR2(Γ:bZ)(d:Nat):Prop extends GR Γ where
 ws:Γ "Reader.written_sign"=Em d
theorem Nh(Γ:bZ)(d:Nat)(G:GR2 Γ d):Keeps Γ jR 3 (Jr d):=by
 rintro us S Q ⟨r,x,rest,rfl,hS,hx,hl,q⟩;have q:dS r x d S Q (mapR U.str (item rest)):=q;unfold item at q;rw[jH] at q;unfold jR;walk_at "pf";dsimp[cf hS];refine#[#[by first|trivial|rfl,rfl],ca G.ws #[MW,r,x,rest,rfl,hS,hx,hl,?_]];refine q.bind (lC.refl hS) λa r1 S1 e1 c1 q1=>?_
 have hs:=kS MW rest;rw[e1] at hs;have hx1:=hs.1.trans hx;have g1:=c1.2.1;unfold oo;try walk_at "pf"
 dsimp[cf g1,true_and];refine#[rfl,ca G.sees #[r,x,r1,d,_,rfl,g1,hx1,hl,?_]];try walk_at "pf"
 by_cases e:cA [45] r1=true
 .let#[t,rfl]:=Jo e
  dsimp[e,a9,ag,if_false];walk_at "pf";dsimp[cf g1,true_and];refine#[rfl,ca G.pass #[[45],d,r,x,_,rfl,g1,hx1,hl,?_]];have ht:=yX hx1;show dS r x d S1 _ (mapR oo (.ok (45,t)));intro S2 c2;have g2:=c2.2.1;try walk_at "pf"
  dsimp[<-iC,A4 g2];walk_at "pf";dsimp[cf g2,true_and];refine#[rfl,ca G.ws #[MW,r,x,t,rfl,g2,ht,hl,?_]];rw[A8,jH] at q1;rwa[q1.bind (c1.trans c2) λb r3 S3 e3 c3 q3=>?_]
  unfold oo;try walk_at "pf"
  have ha:=vD e1;have hb:=vD e3;refine ca G.ahead #[b,a,rfl,hb,ha,?_];try walk_at "pf"
  by_cases z:SG.idxOf b<SG.idxOf a
  .dsimp[z,decide_true,if_true]
   dsimp[z,if_true] at q3;walk_at "pf";erw[q3.elim]
  .dsimp[z,decide_false,ag,if_false]
   dsimp[z,if_false] at q3;walk_at "pf";erw[ca G.Jp #[a,b,rfl,ha,hb,q3 S3 c3]]
 .have e:cA [45] r1=false:=by simpa using e
  dsimp[e,bK,if_true];rw[A9 e] at q1;walk_at "pf";erw[q1 S1 c1]
def k7:Nat->List Nat->List Nat->PR (List Nat)
 |0,_,rest=>.error rest
 |n+1,taken,rest=>if cA [93] rest then .ok (taken,rest) else bindR (item rest) λt r=>k7 n (taken++t) r
def nK(turned:Bool)(r1:List Nat):PR (List Nat):=
 bindR (item r1) λt r2=>bindR (k7 (r2.length+1) t r2) λtaken r3=>bindR (dQ [93] r3) λ_ r4=>.ok (if turned then dO taken else inOrder taken,r4)
def clsIn(r0:List Nat):PR (List Nat):=
 match r0 with
 |94::r=>nK true r
 |_=>nK false r0
def cls(rest:List Nat):PR (List Nat):=bindR (dQ [91] rest) λ_ r0=>clsIn r0
theorem Js(h:cA [94] r=false):clsIn r=nK false r:=by
 unfold clsIn;split
 .simp[cA] at h
 .rfl
theorem vE:∀(n:Nat)(taken rest:List Nat),Suf rest (k7 n taken rest)
 |0,_,rest=>bL _
 |n+1,taken,rest=>by
  unfold k7;split
  .erw[bL _]
  .exact(rP rest).Rj.bind λa r _=>vE n _ r
theorem tQ(b:Bool)(r:List Nat):Suf r (nK b r):=
 (rP r).Rj.bind λa r2 _=>(vE _ _ _).bind λt r3 _=>(gS _ _).Rj.bind λ_ r4 _=>bL _
theorem Ni(rest:List Nat):mh rest (cls rest):=by
 refine(gS _ _).bind λa r _=>?_
 unfold clsIn;split
 .rename_i r' hq
  have:=tQ true r';cases q:nK true r' with
  |ok v=>rw[q] at this;erw[m7 this (df _ _)]
  |error v=>rw[q] at this;erw[m7 this (df _ _)]
 .erw[tQ false r]
def Ot(d:Nat):Spec:=zU [] (λrest=>mapR U.str (cls rest)) d
structure GR3(Γ:bZ)(d:Nat):Prop extends GR2 Γ d where
 it:Γ "Reader.item"=Jr d
theorem vF(h:item rest=.ok (t,r)):t.length<=95:=by
 unfold item at h;cases q:kB MW rest with
 |error r'=>rw[q] at h;cases h
 |ok v=>
  let#[a,r1]:=v;rw[q] at h;dsimp[bindR] at h;unfold k6 at h;split at h
  .rename_i r2
   cases q2:kB MW r2 with
   |error r'=>rw[q2] at h;cases h
   |ok v2=>
    rw[q2] at h;dsimp[bindR] at h;split at h
    .cases h
    .injection h with h;injection h with h1 h2;subst h1
     unfold k5;rwa[aH (List.length_take_le _ _) ?_];have:=C7 (vD q2);omega
  .injection h with h;injection h with h1 h2;subst h1;simp
theorem vG{Γ:bZ}{d:Nat}(G:GR3 Γ d){r:Nat}{x:List Nat}{S:bJ}{fin:Env->bJ->Prop}{env:Env}(hl:x.length<=1000)(k1:env[0]?=some (some (.loc r)))
  (cW:Env->bJ->(Bool->bJ->Prop)->Prop) (bW:Env->bJ->(Env->bJ->Prop)->Prop)
  (hc:∀taken S1 rest k,S1[r]?=some (mf x rest d)->rest<:+x->k (!cA [93] rest) S1->cW (env.set 2 (some (.str taken))) S1 k)
  (hb:∀taken S1 rest k,taken.length<=900000->S1[r]?=some (mf x rest d)->rest<:+x->dS r x d S1 (λu S2=>∃t,u=.str t/\t.length<=95/\k (env.set 2 (some (.str (taken++t)))) S2) (mapR U.str (item rest))->bW (env.set 2 (some (.str taken))) S1 k):
  ∀(n:Nat)(taken rest:List Nat)(S1:bJ)(R:List Nat->List Nat->PR U),rest.length<n->taken.length+95*rest.length<=900000->rest<:+x->lC r (mf x rest d) S S1 ->
   (∀t2 r2 S2,lC r (mf x r2 d) S S2->r2<:+x->t2.length<=900000->k7 n taken rest=.ok (t2,r2)->fin (env.set 2 (some (.str t2))) S2)->(∀r',k7 n taken rest=.error r'->False) ->
   yJ cW bW fin n (env.set 2 (some (.str taken))) S1
 |0,_,_,_,_,h,_,_,_,_,_=>∅
 |n+1,taken,rest,S1,R,h,ht,hx,c1,hf,he=>by
  rwa[hc taken S1 rest _ c1.2.1 hx ?_];by_cases e:cA [93] rest=true
  .dsimp[e,a9,ag,if_false]
   erw[hf taken rest S1 c1 hx ∅ (by unfold k7;rw[if_pos e])]
  .have e':cA [93] rest=false:=by simpa using e
   dsimp[e',bK,if_true];rwa[hb taken S1 rest _ ∅ c1.2.1 hx ?_];have hs:=rP rest;cases q:item rest with
   |error r'=>
    erw[he r' (by unfold k7;rw[if_neg e,q];rfl)]
   |ok v=>
    let#[t,r1]:=v;rw[q] at hs;intro S2 c2;refine#[t,rfl,vF q,?_];have hlt:t.length<=95:=vF q;have hE:k7 (n+1) taken rest=k7 n (taken++t) r1:=by
     conv=>lhs;unfold k7
     rw[if_neg e,q];rfl
    rwa[vG G hl k1 cW bW hc hb n (taken++t) r1 S2 R (by have:=hs.2;omega) (by simp;have:=hs.2;omega) (hs.1.trans hx) (c1.trans c2) (λt2 r2 S3 c3 h3 h4 e3=>hf t2 r2 S3 c3 h3 h4 (by rw[hE];erw[e3])) (λr' e3=>he r' (by rw[hE];erw[e3]))]
theorem Rl(Γ:bZ)(d:Nat)(G:GR3 Γ d):Keeps Γ fm 2 (Ot d):=by
  rintro us S Q ⟨r,x,rest,rfl,hS,hx,hl,q⟩;have q:dS r x d S Q (mapR U.str (cls rest)):=q;unfold cls at q;rw[jH] at q;unfold fm;walk_at "pf";dsimp[cf hS];refine#[#[by first|trivial|rfl,rfl],ca G.pass #[[91],d,r,x,rest,rfl,hS,hx,hl,?_]];refine q.bind (lC.refl hS) λa r0 S0 e0 c0 q0=>?_
  have hs0:=gS [91] rest;rw[e0] at hs0;have hx0:=hs0.1.trans hx;have g0:=c0.2.1;walk_at "pf";dsimp[cf g0,true_and];refine#[rfl,ca G.sees #[r,x,r0,d,_,rfl,g0,hx0,hl,?_]];try walk_at "pf"
  have tail:∀(tb:Bool)(r1:List Nat)(S1:bJ),lC r (mf x r1 d) S S1->r1<:+x->dS r x d S Q (mapR U.str (nK tb r1)) ->
      uf Γ (.cons (.set 2 (.cL "Reader" "item" "Reader.item" @0 .nil))
   (.cons (.BP (.not (.cH (.cL "Reader" "sees" "Reader.sees" @0 (.cons ↑[93] .nil)))) (.cons (.aug 2 .add (.cL "Reader" "item" "Reader.item" @0 .nil)) .nil))
   (.cons (.ex (.cL "Reader" "passes" "Reader.passes" @0 (.cons ↑[93] .nil)))
   (.cons (.ret (.BO (.cH @1) (.call "all_but" (.cons @2 .nil)) (.call "in_order" (.cons @2 .nil)))) .nil)))) #[λ_ S1=>Q .bV S1,Q] [some (.loc r),some (.bl tb),none] S1:=by
    intro tb r1 S1 c1 hx1 q1;unfold nK at q1;rw[jH] at q1;have g1:=c1.2.1;walk_at "pf";dsimp[cf g1];refine#[#[by first|trivial|rfl,rfl],ca G.it #[r,x,r1,rfl,g1,hx1,hl,?_]];refine q1.bind c1 λt r2 S2 e2 c2 q2=>?_
    have hs2:=rP r1;rw[e2] at hs2;have hx2:=hs2.1.trans hx1;have hlt:=vF e2;have hr2:r2.length<=1000:=aH hx2.length_le hl;rw[jH] at q2;walk_at "pf";refine#[r2.length+1,vG (S:=S) (env:=[some (.loc r),some (.bl tb),none]) G hl rfl _ _ ?_ ?_ (r2.length+1) t r2 S2 (λ_ _=>.error []) ∅ ∅ hx2 c2 ?_ ?_]
    · intro taken S3 rest3 k g3 hx3 hk
      dsimp[si,sj];try walk_at "pf"
      dsimp[cf g3,true_and];refine#[rfl,ca G.sees #[r,x,rest3,d,_,rfl,g3,hx3,hl,?_]];try walk_at "pf"
      erw[hk]
    · intro taken S3 rest3 k htk g3 hx3 hk
      dsimp[si,sj] at hk ⊢;try walk_at "pf"
      dsimp[cf g3,true_and];refine#[rfl,ca G.it #[r,x,rest3,rfl,g3,hx3,hl,?_]];show dS r x d S3 _ (mapR U.str (item rest3));cases z:item rest3 with
      |error r'=>rw[z] at hk;erw[hk]
      |ok v=>
        let#[t3,r3]:=v;rw[z] at hk;intro S4 c4;let#[t',e',hl',hk']:=hk S4 c4;injection e' with e';subst e'
        rw[Qb]
        exact#[∅,Rest.go hk']
    · intro t3 r3 S3 c3 hx3 hl3 e3
      rw[e3] at q2;dsimp[bindR] at q2;have q2:dS r x d S Q (mapR U.str (bindR (dQ [93] r3) λ_ r4=>.ok (if tb then dO t3 else inOrder t3,r4))):=q2;rw[jH] at q2;have g3:=c3.2.1;dsimp[si,sj];try walk_at "pf"
      dsimp[cf g3,true_and];refine#[rfl,ca G.pass #[[93],d,r,x,r3,rfl,g3,hx3,hl,?_]];rwa[q2.bind c3 λb r4 S4 e4 c4 q4=>?_]
      try walk_at "pf"
      cases tb with
      |true=>erw[ca G.C9 #[t3,rfl,λS5 x5=>q4 S5 (c4.trans (x5.chg c4.2.1))]]
      |false=>erw[ca G.Rk #[t3,rfl,λS5 x5=>q4 S5 (c4.trans (x5.chg c4.2.1))]]
    · intro r' e3
      rw[e3] at q2;erw[q2]
  by_cases e:cA [94] r0=true
  · let#[t,rfl]:=Jo e
    dsimp[e,if_true];walk_at "pf";dsimp[cf g0,true_and];refine#[rfl,ca G.pass #[[94],d,r,x,_,rfl,g0,hx0,hl,?_]];show dS r x d S0 _ (mapR oo (.ok (94,t)));intro S1 c1;erw[tail true t S1 (c0.trans c1) (yX hx0) q0]
  · have e:cA [94] r0=false:=by simpa using e
    dsimp[e,ag,if_false];rw[Js e] at q0;erw[tail false r0 S0 c0 hx0 q0]
noncomputable def pI(k:List Nat)(ts:List U):U:=match ts with|[t]=>t|_=>.tup [.str k,.tup ts]
def k8:Spec:=λus S Q=>∃k n ts,us=[.str k,.loc n]/\S[n]?=some (.lst ts)/\ts≠[]/\ts.length<=100000/\Q (pI k ts) S
theorem FZ(Γ:bZ):Keeps Γ rC 0 k8:=by
 rintro us S Q ⟨k,n,ts,rfl,hn,ne,hl,q⟩;unfold rC;walk_at "pl";dsimp[lL hn,hn];walk_at "pl";refine#[∅,?_];cases ts with
 |nil=>erw[absurd rfl ne]
 |cons t ts=>
  cases ts with
  |nil=>
   dsimp[gC];simp[qx,pI] at q ⊢;erw[q]
  |cons t2 ts=>
   have h1:((((t::t2::ts).length:Nat):Int)== 1)=false:=by
    dsimp[aZ,beq_eq_false_iff_ne];omega
   dsimp[h1,ag,if_false];refine#[by simp,?_];erw[q]
noncomputable abbrev Nj:List Nat:=[111,110,101]
noncomputable abbrev k9:List Nat:=[115,116,97,114]
noncomputable abbrev oS:List Nat:=[112,108,117,115]
noncomputable abbrev kq:List Nat:=[109,97,121,98,101]
noncomputable abbrev Dc:List Nat:=[114,111,119]
noncomputable abbrev SY:List Nat:=[111,114]
def Nk(l:List Nat):U:=.tup [.str Nj,.str l]
def Jt(c:Nat)(t:U):U:=.tup [.str (if c=42 then k9 else if c=43 then oS else kq),t]
def lW:U->List Nat->U×List Nat
 |t,[]=>(t,[])
 |t,c::r=>if [42,43,63].contains c then lW (Jt c t) r else(t,c::r)
def S9(br:Option (List Nat->PR U))(rest:List Nat):PR U:=
 match br with
 |none=>.error rest
 |some p=>bindR (dQ [40] rest) λ_ r=>bindR (p r) λt r2=>bindR (dQ [41] r2) λ_ r3=>.ok (t,r3)
def rQ(br:Option (List Nat->PR U))(rest:List Nat):PR U:=
 if cA [40] rest then S9 br rest else if cA [91] rest then mapR Nk (cls rest) else if cA [46] rest then bindR (dQ [46] rest) (λ_ r=>.ok (Nk (dO [10]),r)) else mapR (λc=>Nk [c]) (kB MO rest)
def jd(br:Option (List Nat->PR U))(rest:List Nat):PR U:=bindR (rQ br rest) λt r=>.ok (lW t r)
def dy(stop:List Nat->Bool)(p:List Nat->PR U):Nat->List U->List Nat->PR (List U)
 |0,_,rest=>.error rest
 |n+1,acc,rest=>if stop rest then .ok (acc,rest) else bindR (p rest) λt r=>dy stop p n (acc++[t]) r
def je(rest:List Nat):Bool:=rest.isEmpty||cA [124,41] rest
def stopOr(rest:List Nat):Bool:=!cA [124] rest
def wC(br:Option (List Nat->PR U))(rest:List Nat):PR U:=bindR (jd br rest) λt r=>bindR (dy je (jd br) (r.length+1) [t] r) λts r2=>.ok (pI Dc ts,r2)
def Rm(br:Option (List Nat->PR U))(rest:List Nat):PR U:=bindR (dQ [124] rest) λ_ r=>wC br r
def hJ(br:Option (List Nat->PR U))(rest:List Nat):PR U:=bindR (wC br rest) λt r=>bindR (dy stopOr (Rm br) (r.length+1) [t] r) λts r2=>.ok (pI SY ts,r2)
def tR:Nat->Option (List Nat->PR U)
 |0=>none
 |k+1=>some (hJ (tR k))
def vH(x:List Nat):PR U:=bindR (hJ (tR 6) x) λt r=>if r=[] then .ok (t,[]) else .error r
theorem Ba:∀(t:U)(rest:List Nat),(lW t rest).2<:+rest
 |t,[]=>bL _
 |t,c::r=>by
  unfold lW;split
  .exact(Ba _ r).trans (df _ _)
  .erw[bL _]
def oq(br:Option (List Nat->PR U)):Prop:=∀p,br=some p->∀rest,mh rest (p rest)
theorem Rn{br:Option (List Nat->PR U)}(h:oq br)(rest:List Nat):mh rest (S9 br rest):=by
 unfold S9;cases br with
 |none=>erw[bL _]
 |some p=>exact(gS _ _).bind λa r _=>(h p rfl r).Rj.bind λt r2 _=>(gS _ _).Rj.bind λ_ r3 _=>bL _
theorem mh.map{α β:Type}{rest:List Nat}{p:PR α}{f:α->β}(h:mh rest p):mh rest (mapR f p):=by
 cases p with
 |ok v=>erw[h]
 |error r=>erw[h]
theorem vI{br:Option (List Nat->PR U)}(h:oq br)(rest:List Nat):mh rest (rQ br rest):=by
 unfold rQ;split
 .erw[Rn h rest]
 .split
  .exact(Ni rest).map
  .split
   .exact(gS _ _).bind λ_ r _=>bL _
   .exact(kS _ _).map
theorem nM(h:oq br)(rest:List Nat):mh rest (jd br rest):=(vI h rest).bind λt r _=>Ba t r
theorem nN(h:∀rest,mh rest (p rest)):∀(n:Nat)(acc:List U)(rest:List Nat),Suf rest (dy stop p n acc rest)
 |0,_,rest=>bL _
 |n+1,acc,rest=>by
  unfold dy;split
  .erw[bL _]
  .exact(h rest).Rj.bind λa r _=>nN h n _ r
theorem yZ(h:oq br)(rest:List Nat):mh rest (wC br rest):=(nM h rest).bind λt r _=>(nN (nM h) _ _ _).bind λts r2 _=>bL _
theorem Ju(h:oq br)(rest:List Nat):mh rest (Rm br rest):=(gS _ _).bind λ_ r _=>(yZ h r).Rj
theorem vJ(h:oq br)(rest:List Nat):mh rest (hJ br rest):=(yZ h rest).bind λt r _=>(nN (Ju h) _ _ _).bind λts r2 _=>bL _
theorem sV:∀k,oq (tR k)
 |0=>λp e=>nomatch e
 |k+1=>λp e rest=>by injection e with e;subst e;erw[vJ (sV k) rest]
theorem dS.Ou{α:Type}{toU:α->U}{p:PR α}{f:α->List Nat->PR U}{r d d':Nat}{x rest:List Nat}{S S1:bJ}{Q Q1:KU}(h:dS r x d S Q (bindR p f))(st:lC r (mf x rest d') S S1)
  (k:∀a r1 S2,p=.ok (a,r1)->lC r (mf x r1 d') S S2->dS r x d S Q (f a r1)->Q1 (toU a) S2):dS r x d' S1 Q1 (mapR toU p):=by
 cases p with
 |error r'=>erw[h]
 |ok v=>
  let#[a,r1]:=v;erw[λS' c=>k a r1 S' rfl (st.trans c) h]
theorem dS.Eo{p:PR U}{f:U->List Nat->PR U}{r d d':Nat}{x rest:List Nat}{S S1:bJ}{Q Q1:KU}(h:dS r x d S Q (bindR p f))(st:lC r (mf x rest d') S S1)
  (k:∀a r1 S2,p=.ok (a,r1)->lC r (mf x r1 d') S S2->dS r x d S Q (f a r1)->Q1 a S2):dS r x d' S1 Q1 p:=by
 have:=dS.Ou (toU:=id) (Q1:=Q1) h st k;rw[Ng] at this;erw[this]
theorem Ep{x t:List Nat}{z:U}{v:Nat}{d':Nat}(h:z=.int (d':Nat)):SO.ins "Reader" (gX "depth" z [("text",.str x),("at",.int (x.length-t.length:Nat)),("depth",.int v)])=mf x t d':=by subst h;rfl
def Vm(br:Option (List Nat->PR U))(d:Nat):Spec:=λus S Q=>∃r x rest,us=[.loc r]/\S[r]?=some (mf x rest d)/\rest<:+x/\x.length<=1000/\cA [40] rest=true/\dS r x d S Q (S9 br rest)
def Vn(Γ:bZ)(br:Option (List Nat->PR U))(d:Nat):Prop:=
 (br=none/\d=6)\/∃p,br=some p/\d<6/\oq br/\Γ "Reader.choice"=zU [] p (d+1)
theorem Vo(Γ:bZ)(G:GR Γ)(br:Option (List Nat->PR U))(d:Nat)(hb:Vn Γ br d):Keeps Γ gY 1 (Vm br d):=by
 rintro us S Q ⟨r,x,rest,rfl,hS,hx,hl,hs,q⟩;unfold gY;walk_at "pf";dsimp[<-iC,Jl hS];walk_at "pf";rcases hb with⟨rfl,rfl⟩|⟨p,rfl,hd,hbo,hch⟩
 .have e:((((6:Nat):Int))== 6)=true:=⋯
  dsimp[e,if_true];erw[q.elim]
 .have e:(((d:Nat):Int)== 6)=false:=by dsimp[beq_eq_false_iff_ne];omega
  dsimp[e,ag,if_false];walk_at "pf";dsimp[cf hS,true_and];refine#[rfl,ca G.pass #[[40],d,r,x,rest,rfl,hS,hx,hl,?_]];unfold S9 at q;rwa[q.bind (lC.refl hS) λa r1 S1 e1 c1 q1=>?_]
  have hs1:=gS [40] rest;rw[e1] at hs1;have hx1:=hs1.1.trans hx;have g1:=c1.2.1;walk_at "pf";dsimp[cf g1];try walk_at "pf"
  dsimp[cf g1,Ep (v:=d) (d':=d+1) (t:=r1) (x:=x) (z:=.int ((d:Nat)+1)) rfl];refine#[by first|trivial|rfl,by simp,?_];have c2:lC r (mf x r1 (d+1)) S (S1.set r (mf x r1 (d+1))):=c1.trans (lC.set g1);have g2:=c2.2.1;generalize S1.set r (mf x r1 (d+1))=S2 at c2 g2;walk_at "pf";dsimp[cf g2,true_and];refine#[rfl,ca hch #[r,x,r1,rfl,g2,hx1,hl,?_]];refine q1.Eo c2 λt r2 S3 e3 c3 q3=>?_
  have hs3:=hbo p rfl r1;rw[e3] at hs3;have hx3:=hs3.1.trans hx1;have g3:=c3.2.1;try walk_at "pf"
  dsimp[cf g3,true_and];refine#[rfl,ca G.pass #[[41],d+1,r,x,r2,rfl,g3,hx3,hl,?_]];rwa[q3.Ou c3 λa r3 S4 e4 c4 q4=>?_]
  have g4:=c4.2.1;walk_at "pf";dsimp[cf g4];try walk_at "pf"
  dsimp[cf g4,Ep (v:=d+1) (d':=d) (t:=r3) (x:=x) (z:=.int (((d+1:Nat):Int)-1)) (by congr 1;omega)];refine#[by first|trivial|rfl,by simp,?_];walk_at "pf";exact q4 _ (c4.trans (lC.set g4))
structure GA(Γ:bZ)(br:Option (List Nat->PR U))(d:Nat):Prop extends GR3 Γ d where
 cl:Γ "Reader.sign_class"=Ot d
 bk:Γ "Reader.bracket"=Vm br d
theorem Nl(Γ:bZ)(br:Option (List Nat->PR U))(d:Nat)(G:GA Γ br d):Keeps Γ jQ 0 (zU [] (rQ br) d):=by
 rintro us S Q ⟨r,x,rest,rfl,hS,hx,hl,q⟩;unfold jQ;walk_at "pf";dsimp[cf hS];refine#[#[by first|trivial|rfl,rfl],ca G.sees #[r,x,rest,d,_,rfl,hS,hx,hl,?_]];try walk_at "pf"
 unfold rQ at q;by_cases e1:cA [40] rest=true
 .dsimp[e1,if_true] at q ⊢
  walk_at "pf";dsimp[cf hS,true_and];exact#[rfl,ca G.bk #[r,x,rest,rfl,hS,hx,hl,e1,q]]
 .have e1':cA [40] rest=false:=by simpa using e1
  dsimp[e1',ag,if_false] at q ⊢;walk_at "pf";dsimp[cf hS,true_and];refine#[rfl,ca G.sees #[r,x,rest,d,_,rfl,hS,hx,hl,?_]];try walk_at "pf"
  by_cases e2:cA [91] rest=true
  .dsimp[e2,if_true] at q ⊢
   walk_at "pf";dsimp[cf hS,true_and];refine#[rfl,ca G.cl #[r,x,rest,rfl,hS,hx,hl,?_]];rw[xJ] at q;rwa[q.bind (toU:=U.str) (lC.refl hS) λa r1 S1 _ c1 q1=>?_]
   exact#[by simp,q1 S1 c1]
  .have e2':cA [91] rest=false:=by simpa using e2
   dsimp[e2',ag,if_false] at q ⊢;walk_at "pf";dsimp[cf hS,true_and];refine#[rfl,ca G.sees #[r,x,rest,d,_,rfl,hS,hx,hl,?_]];try walk_at "pf"
   by_cases e3:cA [46] rest=true
   .dsimp[e3,if_true] at q ⊢
    walk_at "pf";dsimp[cf hS,true_and];refine#[rfl,ca G.pass #[[46],d,r,x,rest,rfl,hS,hx,hl,?_]];rwa[q.bind (lC.refl hS) λa r1 S1 _ c1 q1=>?_]
    walk_at "pf";refine ca G.C9 #[[10],rfl,λS2 x2=>?_];try walk_at "pf"
    exact#[by simp,q1 S2 (c1.trans (x2.chg c1.2.1))]
   .have e3':cA [46] rest=false:=by simpa using e3
    dsimp[e3',ag,if_false] at q ⊢;walk_at "pf";dsimp[cf hS,true_and];refine#[rfl,ca G.ws #[MO,r,x,rest,rfl,hS,hx,hl,?_]];rw[xJ] at q;rwa[q.bind (lC.refl hS) λa r1 S1 _ c1 q1=>?_]
    unfold oo;exact#[by simp,q1 S1 c1]
def REP:List (List Nat×List Nat):=[([42],k9),([43],oS),([63],kq)]
theorem Jv(h:[42,43,63].contains c=true):REP.lookup [c]=some (if c=42 then k9 else if c=43 then oS else kq):=by
 have:c=42\/c=43\/c=63:=by simpa using h
 rcases this with rfl|rfl|rfl<;>rfl
structure GP(Γ:bZ)(br:Option (List Nat->PR U))(d:Nat):Prop extends GA Γ br d where
 at_:Γ "Reader.atom"=zU [] (rQ br) d
theorem xM{Γ:bZ}{r d:Nat}{x:List Nat}{S:bJ}{fin:Env->bJ->Prop}{e0:Option U}(hl:x.length<=1000)
  (cW:Env->bJ->(Bool->bJ->Prop)->Prop) (bW:Env->bJ->(Env->bJ->Prop)->Prop)
  (hc:∀t S1 rest k,S1[r]?=some (mf x rest d)->rest<:+x->k (cA [42,43,63] rest) S1->cW [e0,some t] S1 k)
  (hb:∀t S1 c rest k,S1[r]?=some (mf x (c::rest) d)->(c::rest)<:+x->[42,43,63].contains c=true->(∀S2,lC r (mf x rest d) S1 S2->k [e0,some (Jt c t)] S2)->bW [e0,some t] S1 k):
  ∀(rest:List Nat)(t:U)(S1:bJ),rest<:+x->lC r (mf x rest d) S S1->(∀S2,lC r (mf x (lW t rest).2 d) S S2->fin [e0,some (lW t rest).1] S2)->yJ cW bW fin (rest.length+1) [e0,some t] S1
 |[],t,S1,hx,c1,hf=>by
  rwa[hc t S1 [] _ c1.2.1 hx ?_];dsimp[cA,ag,if_false];erw[hf S1 c1]
 |c::rest,t,S1,hx,c1,hf=>by
  rwa[hc t S1 _ _ c1.2.1 hx ?_];by_cases e:[42,43,63].contains c=true
  .dsimp[cA,e,if_true]
   rwa[hb t S1 c rest _ c1.2.1 hx e λS2 c2=>?_]
   refine xM (Γ:=Γ) hl cW bW hc hb rest _ S2 (yX hx) (c1.trans c2) ?_;have:lW t (c::rest)=lW (Jt c t) rest:=by
    conv=>lhs;unfold lW
    rw[if_pos e]
   rw[this] at hf;erw[hf]
  .have e':[42,43,63].contains c=false:=by simpa using e
   dsimp[cA,e',ag,if_false];have:lW t (c::rest)=(t,c::rest):=by
    unfold lW;rw[if_neg e]
   rw[this] at hf;erw[hf S1 c1]
theorem F3(Γ:bZ)(br:Option (List Nat->PR U))(d:Nat)(hbo:oq br)(G:GP Γ br d):Keeps Γ iJ 1 (zU [] (jd br) d):=by
 rintro us S Q ⟨r,x,rest,rfl,hS,hx,hl,q⟩;unfold iJ;walk_at "pl";dsimp[cf hS,G.at_];refine#[#[by first|trivial|rfl,rfl],r,x,rest,rfl,hS,hx,hl,?_];unfold jd at q;refine q.Eo (lC.refl hS) λt r1 S1 e1 c1 q1=>?_
 have hs1:=vI hbo rest;rw[e1] at hs1;have hx1:=hs1.1.trans hx;refine#[r1.length+1,xM (Γ:=Γ) (S:=S) hl _ _ ?_ ?_ r1 t S1 hx1 c1 ?_]
 .intro t2 S2 rest2 k g2 hx2 hk
  try walk_at "pl"
  dsimp[cf g2,G.sees,true_and];refine#[rfl,r,x,rest2,d,_,rfl,g2,hx2,hl,?_];try walk_at "pl"
  erw[hk]
 .intro t2 S2 c rest2 k g2 hx2 hc hk
  try walk_at "pl"
  dsimp[cf g2,G.pass,true_and];refine#[rfl,[42,43,63],d,r,x,_,rfl,g2,hx2,hl,?_];have e2:dQ [42,43,63] (c::rest2)= .ok (c,rest2):=by unfold dQ;dsimp only;rw[if_pos hc]
  show dS r x d S2 _ (mapR oo (dQ [42,43,63] (c::rest2)))
  rw[e2]
  intro S3 c3;unfold oo;rw[yE]
  have:=Jv hc;unfold REP at this;rw[this,bg]
  exact#[by simp,hk S3 c3]
 .intro S2 c2
  try walk_at "pl"
  erw[q1 S2 c2]
theorem sW(hp:∀rest,mh rest (p rest))
  (cW:Env->bJ->(Bool->bJ->Prop)->Prop) (bW:Env->bJ->(Env->bJ->Prop)->Prop) (h0:S.length<=n0) (h1:n0≠r)
  (hc:∀S1 rest k,S1[r]?=some (mf x rest d)->rest<:+x->k (!stop rest) S1->cW env S1 k)
  (hb:∀S1 rest acc k,S1[r]?=some (mf x rest d)->S1[n0]?=some (.lst acc)->acc.length<=2000->rest<:+x->stop rest=false->dS r x d S1 (λt S2=>k env (S2.set n0 (.lst (acc++[t])))) (p rest)->bW env S1 k):
  ∀(m:Nat)(acc:List U)(rest:List Nat)(S1:bJ),rest.length<m->acc.length+rest.length<=2000->rest<:+x->lC r (mf x rest d) S S1->S1[n0]?=some (.lst acc) ->
   (∀ts r2 S2,dy stop p m acc rest=.ok (ts,r2)->lC r (mf x r2 d) S S2->r2<:+x->S2[n0]?=some (.lst ts)->ts.length<=2000->acc.length<=ts.length->fin env S2)->(∀r',dy stop p m acc rest=.error r'->False) ->
   yJ cW bW fin m env S1
 |0,_,_,_,h,_,_,_,_,_,_=>∅
 |m+1,acc,rest,S1,h,ht,hx,c1,hn,hf,he=>by
  rwa[hc S1 rest _ c1.2.1 hx ?_];by_cases e:stop rest=true
  .dsimp[e,a9,ag,if_false]
   erw[hf acc rest S1 (by unfold dy;rw[if_pos e]) c1 hx hn ∅ (aq _)]
  .have e':stop rest=false:=by simpa using e
   dsimp[e',bK,if_true];rwa[hb S1 rest acc _ c1.2.1 hn ∅ hx e' ?_];have hs:=hp rest;cases q:p rest with
   |error r'=>
    erw[he r' (by unfold dy;rw[if_neg e,q];rfl)]
   |ok v=>
    let#[t,r1]:=v;rw[q] at hs;intro S2 c2;have hE:dy stop p (m+1) acc rest=dy stop p m (acc++[t]) r1:=by
     conv=>lhs;unfold dy
     rw[if_neg e,q];rfl
    have hn2:S2[n0]?=some (.lst acc):=(c2.2.2 n0 (aN hn) h1).trans hn;have c3:lC r (mf x r1 d) S (S2.set n0 (.lst (acc++[t]))):=by
     have c12:=c1.trans c2;refine#[by simpa using c12.1,by rw[ao h1];erw[c12.2.1],λm hm ne=>?_];rw[ao ∅]
     erw[c12.2.2 m hm ne]
    refine sW hp cW bW h0 h1 hc hb m (acc++[t]) r1 _ (by have:=hs.2;omega) (by simp;have:=hs.2;omega) (hs.1.trans hx) c3 (gs hn2) (λts r2 S3 e3 c4 h3 h4 h5 h6=>hf ts r2 S3 (by rw[hE];erw[e3]) c4 h3 h4 h5 (by simp at h6;omega)) (λr' e3=>he r' (by rw[hE];erw[e3]))
structure GW(Γ:bZ)(br:Option (List Nat->PR U))(d:Nat):Prop extends GP Γ br d where
 rp:Γ "Reader.repeat"=zU [] (jd br) d
 jn:Γ "joined"=k8
theorem Jw{x rest:List Nat}(h:rest<:+x):decide (((x.length-rest.length:Nat):Int)<x.length)= !rest.isEmpty:=by
 have:=Oq h;cases rest with
 |nil=>simp at this ⊢
 |cons a b=>dsimp[ne_eq,reduceCtorEq,not_false_eq_true,iff_true] at this;rw[decide_eq_true this];rfl
theorem Ro(Γ:bZ)(br:Option (List Nat->PR U))(d:Nat)(hbo:oq br)(G:GW Γ br d):Keeps Γ kF 1 (zU [] (wC br) d):=by
 rintro us S Q ⟨r,x,rest,rfl,hS,hx,hl,q⟩;unfold kF;walk_at "pl";dsimp[cf hS,G.rp];refine#[#[by first|trivial|rfl,rfl],r,x,rest,rfl,hS,hx,hl,?_];unfold wC at q;refine q.Eo (lC.refl hS) λt r1 S1 e1 c1 q1=>?_
 have hs1:=nM hbo rest;rw[e1] at hs1;have hx1:=hs1.1.trans hx;have hr1:r1.length<=1000:=aH hx1.length_le hl;refine#[by simp,?_];have hrl:=aN hS;have c2:lC r (mf x r1 d) S (S1++[.lst [t]]):=c1.trans ((Ext.app _).chg c1.2.1);have hn:(S1++[SO.lst [t]])[S1.length]?=some (.lst [t]):=by simp
 have hne:S1.length≠r:=by have:=c1.1;omega
 refine#[r1.length+1,sW (S:=S) (n0:=S1.length) (stop:=je) (p:=jd br) (nM hbo) _ _ c1.1 hne ?_ ?_ (r1.length+1) [t] r1 _ ∅ (by simp;omega) hx1 c2 hn ?_ ?_]
 .intro S2 rest2 k g2 hx2 hk
  try walk_at "pl"
  dsimp[<-iC,yW g2,A4 g2];try walk_at "pl"
  refine#[∅,?_];dsimp[Jw hx2];unfold je at hk;cases rest2 with
  |nil=>simpa using hk
  |cons c t2=>
   dsimp[Hf,bK,if_true];dsimp[cf g2,G.sees,true_and];refine#[rfl,r,x,_,d,_,rfl,g2,hx2,hl,?_];try walk_at "pl"
   simpa using hk
 .intro S2 rest2 acc k g2 hn2 ha hx2 hst hk
  try walk_at "pl"
  dsimp[hn2,cf g2,G.rp,true_and];try walk_at "pl"
  refine#[rfl,r,x,rest2,rfl,g2,hx2,hl,?_];cases z:jd br rest2 with
  |error r'=>rw[z] at hk;erw[hk]
  |ok v=>
   rw[z] at hk;intro S3 c3;have hn3:S3[S1.length]?=some (.lst acc):=(c3.2.2 _ (aN hn2) hne).trans hn2;dsimp[hn3];try walk_at "pl"
   exact#[∅,hk S3 c3]
 .intro ts r2 S2 e2 c3 hx2 hn2 hts ht1
  rw[e2] at q1;try walk_at "pl"
  dsimp[G.jn];refine#[Dc,S1.length,ts,rfl,hn2,?_,∅,q1 S2 c3];intro z;rw[z] at ht1;simp at ht1
 .intro r' e2
  rw[e2] at q1;erw[q1]
structure GC(Γ:bZ)(br:Option (List Nat->PR U))(d:Nat):Prop extends GW Γ br d where
 rw_:Γ "Reader.row"=zU [] (wC br) d
theorem F4(Γ:bZ)(br:Option (List Nat->PR U))(d:Nat)(hbo:oq br)(G:GC Γ br d):Keeps Γ iI 1 (zU [] (hJ br) d):=by
 rintro us S Q ⟨r,x,rest,rfl,hS,hx,hl,q⟩;unfold iI;walk_at "pl";dsimp[cf hS,G.rw_];refine#[#[by first|trivial|rfl,rfl],r,x,rest,rfl,hS,hx,hl,?_];unfold hJ at q;refine q.Eo (lC.refl hS) λt r1 S1 e1 c1 q1=>?_
 have hs1:=yZ hbo rest;rw[e1] at hs1;have hx1:=hs1.1.trans hx;have hr1:r1.length<=1000:=aH hx1.length_le hl;refine#[by simp,?_];have hrl:=aN hS;have c2:lC r (mf x r1 d) S (S1++[.lst [t]]):=c1.trans ((Ext.app _).chg c1.2.1);have hn:(S1++[SO.lst [t]])[S1.length]?=some (.lst [t]):=by simp
 have hne:S1.length≠r:=by have:=c1.1;omega
 refine#[r1.length+1,sW (S:=S) (n0:=S1.length) (stop:=stopOr) (p:=Rm br) (Ju hbo) _ _ c1.1 hne ?_ ?_ (r1.length+1) [t] r1 _ ∅ (by simp;omega) hx1 c2 hn ?_ ?_]
 .intro S2 rest2 k g2 hx2 hk
  try walk_at "pl"
  dsimp[cf g2,G.sees,true_and];refine#[rfl,r,x,_,d,_,rfl,g2,hx2,hl,?_];try walk_at "pl"
  simpa[stopOr] using hk
 .intro S2 rest2 acc k g2 hn2 ha hx2 hst hk
  try walk_at "pl"
  dsimp[cf g2,G.pass,true_and];refine#[rfl,[124],d,r,x,rest2,rfl,g2,hx2,hl,?_];unfold Rm at hk;rwa[dS.bind (f:=λ_ r=>wC br r) hk (lC.refl g2) λa r3 S3 e3 c3 q3=>?_]
  have hs3:=gS [124] rest2;rw[e3] at hs3;have hx3:=hs3.1.trans hx2;have g3:=c3.2.1;have hn3:S3[S1.length]?=some (.lst acc):=(c3.2.2 _ (aN hn2) hne).trans hn2;dsimp[hn3,cf g3,G.rw_,true_and];try walk_at "pl"
  refine#[rfl,r,x,r3,rfl,g3,hx3,hl,?_];cases z:wC br r3 with
  |error r'=>rw[z] at q3;erw[q3]
  |ok v=>
   rw[z] at q3;intro S4 c4;have hn4:S4[S1.length]?=some (.lst acc):=(c4.2.2 _ (aN hn3) hne).trans hn3;dsimp[hn4];try walk_at "pl"
   exact#[∅,q3 S4 (c3.trans c4)]
 .intro ts r2 S2 e2 c3 hx2 hn2 hts ht1
  rw[e2] at q1;try walk_at "pl"
  dsimp[G.jn];refine#[SY,S1.length,ts,rfl,hn2,?_,∅,q1 S2 c3];intro z;rw[z] at ht1;simp at ht1
 .intro r' e2
  rw[e2] at q1;erw[q1]
def nO:Spec:=λus S Q=>∃r x,us=[.loc r,.str x]/\S[r]?=some (.ins "Reader" [])/\Q .bV (S.set r (mf x x 0))
theorem Jx(Γ:bZ):Keeps Γ jO 0 nO:=by
 rintro us S Q ⟨r,x,rfl,hS,q⟩;unfold jO;walk_at "pl";have hr:=aN hS;dsimp[hS,bN,gX];refine#[by simp,?_];have g1:=gs (o':=SO.ins "Reader" [("text",U.str x)]) hS;generalize hS1:S.set r (SO.ins "Reader" [("text",U.str x)])=S1 at g1;dsimp[g1,bN];refine#[by simp,?_];have g2:=gs (o':=SO.ins "Reader" (gX "at" (U.int 0) [("text",U.str x)])) g1;generalize hS2:S1.set r (SO.ins "Reader" (gX "at" (U.int 0) [("text",U.str x)]))=S2 at g2;dsimp[g2,bN];refine#[by simp[gX],?_];subst hS2;subst hS1;rw[tH,tH]
 have e:SO.ins "Reader" (gX "depth" (.int 0) (gX "at" (.int 0) [("text",.str x)]))=mf x x 0:=by
  unfold mf;rw[bR]
  rfl
 simpa[<-e] using q
def Dd:Spec:=λus S Q=>∃x,us=[.str x]/\x.length<=1000/\match vH x with
 |.ok (t,_)=>∀S',Ext S S'->Q t S'
 |.error r=>False
theorem Nm(Γ:bZ)(h1:Γ "Reader.__init__"=nO)(h2:Γ "Reader.choice"=zU [] (hJ (tR 6)) 0):Keeps Γ yM 2 Dd:=by
 rintro us S Q ⟨x,rfl,hl,q⟩;unfold yM;walk_at "pl";dsimp[h1,h2];have hn:(S++[SO.ins "Reader" []])[S.length]?=some (.ins "Reader" []):=by simp
 refine#[S.length,x,rfl,hn,rfl,?_];try walk_at "pl"
 have g1:=gs (o':=mf x x 0) hn;have x1:Old S.length S ((S++[SO.ins "Reader" []]).set S.length (mf x x 0)):=by
  refine#[by simp,λn h ne=>?_];rw[ao (cR ne),ah h]
 generalize (S++[SO.ins "Reader" []]).set S.length (mf x x 0)=S1 at g1 x1;dsimp[cf g1,true_and];have toE:∀{S'},Old S.length S S'->Ext S S':=λo=>#[o.1,λn h=>o.2 n h ∅]
 refine#[rfl,S.length,x,x,rfl,g1,bL _,hl,?_];unfold vH at q;cases z:hJ (tR 6) x with
 |error r'=>
  rw[z] at q;erw[q]
 |ok v=>
  let#[t,r1]:=v;have hs:=vJ (sV 6) x;rw[z] at q hs;intro S2 c2;have g2:=c2.2.1;dsimp[<-iC,A4 g2];try walk_at "pl"
  refine#[∅,?_];dsimp[Jw hs.1];dsimp[bindR] at q;cases r1 with
  |nil=>
   dsimp[List.isEmpty_nil,a9,ag,if_false];try walk_at "pl"
   simp at q;erw[q S2 (toE (x1.trans c2.old))]
  |cons c t2=>
   dsimp[Hf,bK,if_true];dsimp[reduceCtorEq,if_false] at q
section
variable{d f c:Nat}{r rest:List Nat}
def hd(rest:List Nat)(l:List Nat):Prop:=cA l rest=true
end
section
variable{α:Type}
theorem Nn(h0:0<=i)(h1:i<l.length):∃a,sP l i=some a/\a∈l:=by
 obtain⟨n,rfl⟩:∃n:Nat,i=n:=#[i.toNat,∅]
 have h2:n<l.length:=∅
 exact#[l[n],by rw[jN,aa h2],cC h2]
theorem sX(h0:0<=i)(h1:i<l.length)(h:∀a∈l,r a):opt (sP l i) r:=by
 let#[a,e,m]:=Nn h0 h1;rw[e];erw[h a m]
end
namespace so
noncomputable def De:Spec:=λus S Q=>∃ns k,us=[.rm ns,.int k]/\ns.length<=1000/\∀m,Q (.int m) S
theorem Np(Γ:bZ):Keeps Γ lP 0 De:=by
 rintro us S Q ⟨ns,k,rfl,hl,q⟩;unfold lP;walk_at "pl";by_cases h:ns.length=0
 .dsimp[h,bne_self_eq_false,ag,if_false]
  try walk_at "pl"
  erw[q 0]
 .have h':(ns.length !=0)=true:=by simpa using h
  dsimp[h',if_true];try walk_at "pl"
  refine#[∅,∅,∅,?_];erw[sX (kT _ ∅) (i6 _ ∅) (λa _=>q a)]
noncomputable def tU:Spec:=λus S Q=>∃ns k,us=[.rm ns,.int k]/\ns.length<=1000/\∀m:Int,0<=m->m<4294967231->Q (.int m) S
theorem Rr(Γ:bZ)(h1:Γ "_law_cell"=De):Keeps Γ nE 1 tU:=by
 rintro us S Q ⟨ns,k,rfl,hl,q⟩;unfold nE;walk_at "pl";dsimp[h1];refine#[ns,k,rfl,hl,λc=>?_];walk_at "pl";refine#[∅,∅,∅,∅,∅,∅,∅,?_];erw[q _ ∅ ∅]
def Bb:Spec:=λus S Q=>us=[]/\∀G,G=SG->Q (.str G) S
theorem Rt(Γ:bZ):Keeps Γ nF 1 Bb:=by
 rintro us S Q ⟨rfl,q⟩;unfold nF;walk_at "pl";exact#[⋯,q _ rfl]
end so
namespace so
end so
theorem nP{cW:Env->bJ->(Bool->bJ->Prop)->Prop}{bW:Env->bJ->(Env->bJ->Prop)->Prop}{fin:Env->bJ->Prop}(I:Nat->Env->bJ->Prop)
  (h:∀n env S k,I n env S->(∀m env' S',m<n->I m env' S'->k env' S')->cW env S (λt S1=>if t=true then bW env S1 k else fin env S1)):
  ∀N n env S,n<N->I n env S->yJ cW bW fin N env S
 |0,_,_,_,hn,_=>∅
 |N+1,n,env,S,hn,hi=>h n env S _ hi λm env' S' hm hi'=>nP I h N m env' S' ∅ hi'
theorem Er(I:Nat->Env->bJ->Prop)(hg:∀i env S,I i env S->g S)(l:List U)
  (h:∀i u env S k,l[i]?=some u->I i env S->(∀env' S',I (i+1) env' S'->k env' S')->turn u env S k) (hf:∀env S,I l.length env S->fin env S):
  ∀n i env S,i+n=l.length->I i env S->vk g turn fin (l.drop i) env S
 |0,i,env,S,e,hi=>by
  rw[jA ∅]
  have:i=l.length:=∅
  subst this;exact#[hg _ _ _ hi,hf _ _ hi]
 |n+1,i,env,S,e,hi=>by
  have hlt:i<l.length:=∅
  rw[eT hlt]
  exact#[hg _ _ _ hi,h i _ env S _ (aa hlt) hi λenv' S' hi'=>Er I hg l h hf n (i+1) env' S' ∅ hi']
theorem cx{g:bJ->Prop}{turn:U->Env->bJ->(Env->bJ->Prop)->Prop}{fin:Env->bJ->Prop}(I:Nat->Env->bJ->Prop)(hg:∀i env S,I i env S->g S)(l:List U)
  (h:∀i u env S k,l[i]?=some u->I i env S->(∀env' S',I (i+1) env' S'->k env' S')->turn u env S k) (hf:∀env S,I l.length env S->fin env S)
  {env:Env}{S:bJ} (hi:I 0 env S):vk g turn fin l env S:=Er I hg l h hf l.length 0 env S ∅ hi
theorem jf{n i:Nat}{u:U}(h:((bX n).map λk=>U.int (k:Nat))[i]?=some u):u=.int i/\i<n:=by
 rw[aB] at h;have hl:i<n:=by
  rcases BY i n with z|z
  .erw[z]
  .rw[cV (by simpa using z)] at h;simp at h
 rw[iG hl] at h;simp at h;exact#[h.symm,hl]
namespace so
end so
def vK(br:Option (List Nat->PR U))(x:List Nat)(t:U):Prop:=∀rest,rQ br (x++rest)= .ok (t,rest)
def Nq(t:U)(ms:List Nat):U:=ms.foldl (λt c=>Jt c t) t
def vL(br:Option (List Nat->PR U))(x:List Nat)(t:U):Prop:=∃a ta ms,x=a++ms/\vK br a ta/\(∀c∈ms,c∈[42,43,63])/\t=Nq ta ms
theorem Es:∀(ms:List Nat)(t:U)(rest:List Nat),(∀c∈ms,c∈[42,43,63])->cA [42,43,63] rest=false->lW t (ms++rest)=(Nq t ms,rest)
 |[],t,rest,_,h=>by
  cases rest with
  |nil=>rfl
  |cons c r=>
   have h:[42,43,63].contains c=false:=h;rw[i0,lW,h]
   rfl
 |m::ms,t,rest,hm,h=>by
  have e:[42,43,63].contains m=true:=gE.mpr (hm m (aQ ..));rw[nW,lW,if_pos e,Es ms _ rest (λc hc=>hm c (aA _ hc)) h]
  rfl
theorem Jy(h:vL br x t)(hr:cA [42,43,63] rest=false):jd br (x++rest)= .ok (t,rest):=by
 let#[a,ta,ms,rfl,ha,hm,rfl]:=h;unfold jd;rw[bP,ha (ms++rest)]
 dsimp[bindR];rw[Es ms ta rest hm hr]
theorem F5(hb:oq br)(h:vK br x t):∃c r,x=c::r/\c∉[42,43,63,124,41]:=by
 have h0:=h [];have hs:=vI hb (x++[]);rw[h0] at hs;cases x with
 |nil=>have:=hs.2;simp at this
 |cons c r=>
  refine#[c,r,rfl,λhc=>?_];have e1:cA [40] (c::r++[])=false:=(by decide:∀c∈[42,43,63,124,41],[40].contains c=false) c hc;have e2:cA [91] (c::r++[])=false:=(by decide:∀c∈[42,43,63,124,41],[91].contains c=false) c hc;have e3:cA [46] (c::r++[])=false:=(by decide:∀c∈[42,43,63,124,41],[46].contains c=false) c hc;have e4:cA [92] (c::r++[])=false:=(by decide:∀c∈[42,43,63,124,41],[92].contains c=false) c hc;unfold rQ at h0;rw[e1,e2,e3] at h0;dsimp[ag,if_false] at h0;rw[A7 e4] at h0;have e5:dQ (dO MO) (c::r++[])= .error (c::r++[]):=by
   have hn:(dO MO).contains c=false:=by
    have:c∈MO:=(by decide:∀c∈[42,43,63,124,41],c∈MO) c hc;unfold dO;dsimp[List.contains_eq_mem,decide_eq_false_iff_not];intro q;have:=(eU.mp q).2
    simp_all
   show(if (dO MO).contains c=true then _ else _)=_
   rw[if_neg (by rw[hn];simp)]
   rfl
  rw[e5] at h0;cases h0
theorem Bc(hb:oq br)(h:vL br x t):∃c r,x=c::r/\c∉[42,43,63,124,41]:=by
 let#[a,ta,ms,rfl,ha,hm,rfl]:=h;let#[c,r,rfl,hc]:=F5 hb ha;exact#[c,r++ms,rfl,hc]
inductive rR(br:Option (List Nat->PR U)):List Nat->List U->Prop
 |nil:rR br [] []
 |cons{x y:List Nat}{t:U}{ts:List U}:vL br x t->rR br y ts->rR br (x++y) (t::ts)
theorem tV(hb:oq br)(h:rR br y ts)(hr:je rest=true):cA [42,43,63] (y++rest)=false:=by
 cases h with
 |nil=>
  cases rest with
  |nil=>rfl
  |cons c r=>
   have:[124,41].contains c=true:=by simpa[je,cA] using hr
   show [42,43,63].contains c=false
   simp at this ⊢;omega
 |cons a b=>
  let#[c,r,rfl,hc]:=Bc hb a;show [42,43,63].contains c=false;simp at hc ⊢;omega
theorem xN(hb:oq br)(hr:je rest=true):∀{y:List Nat}{ts:List U},rR br y ts->∀(n:Nat)(acc:List U),y.length<n->dy je (jd br) n acc (y++rest)= .ok (acc++ts,rest)
 |_,_,.nil,n,acc,hn=>by
  cases n with
  |zero=>omega
  |succ n=>rw[dy,i0,if_pos hr,cq]
 |_,_,.cons (x:=x) (y:=y) (t:=t) (ts:=ts) a b,n,acc,hn=>by
  let#[c,r,rfl,hc]:=Bc hb a;cases n with
  |zero=>omega
  |succ n=>
   have hs:je (c::r++y++rest)=false:=by
    unfold je;have:[124,41].contains c=false:=by simp at hc ⊢;omega
    show(false||[124,41].contains c)=false
    rw[this];rfl
   rw[dy,if_neg (by rw[hs];simp),bP,Jy a (tV hb b hr)]
   dsimp[bindR];rw[xN hb hr b n (acc++[t]) (by simp at hn;omega),bP]
   rfl
def vM(br:Option (List Nat->PR U))(x:List Nat)(t:U):Prop:=∃ts,ts≠[]/\rR br x ts/\t=pI Dc ts
theorem Jz(hb:oq br)(h:vM br x t)(hr:je rest=true):wC br (x++rest)= .ok (t,rest):=by
 let#[ts,hn,h,rfl]:=h;cases h with
 |nil=>erw[absurd rfl hn]
 |@cons x y t ts a b=>
  unfold wC;rw[bP,Jy a (tV hb b hr)]
  dsimp[bindR];rw[xN hb hr b _ [t] (by simp;omega)]
  rfl
inductive vN(br:Option (List Nat->PR U)):List Nat->List U->Prop
 |nil:vN br [] []
 |cons{x y:List Nat}{t:U}{ts:List U}:vM br x t->vN br y ts->vN br (124::x++y) (t::ts)
def F6(br:Option (List Nat->PR U))(x:List Nat)(t:U):Prop:=∃a b t0 ts,x=a++b/\vM br a t0/\vN br b ts/\t=pI SY (t0::ts)
def JA(rest:List Nat):Prop:=rest=[]\/∃r,rest=41::r
theorem xO(h:vN br y ts)(hr:JA rest):je (y++rest)=true:=by
 cases h with
 |nil=>rcases hr with rfl|⟨r,rfl⟩<;>rfl
 |cons a b=>rfl
theorem xP(hb:oq br)(hr:JA rest):∀{y:List Nat}{ts:List U},vN br y ts->∀(n:Nat)(acc:List U),y.length<n->dy stopOr (Rm br) n acc (y++rest)= .ok (acc++ts,rest)
 |_,_,.nil,n,acc,hn=>by
  have e:stopOr rest=true:=by rcases hr with rfl|⟨r,rfl⟩<;>rfl
  cases n with
  |zero=>omega
  |succ n=>rw[dy,i0,if_pos e,cq]
 |_,_,.cons (x:=x) (y:=y) (t:=t) (ts:=ts) a b,n,acc,hn=>by
  cases n with
  |zero=>omega
  |succ n=>
   have e:Rm br (124::x++y++rest)= .ok (t,y++rest):=by
    unfold Rm;have:dQ [124] (124::x++y++rest)= .ok (124,x++(y++rest)):=by
     rw[bP];rfl
    rw[this]
    dsimp[bindR];erw[Jz hb a (xO b hr)]
   rw[dy,if_neg (by simp[stopOr,cA]),e]
   dsimp[bindR];rw[xP hb hr b n (acc++[t]) (by simp at hn;omega),bP]
   rfl
theorem xQ(hb:oq br)(h:F6 br x t)(hr:JA rest):hJ br (x++rest)= .ok (t,rest):=by
 let#[a,b,t0,ts,rfl,ha,hb',rfl]:=h;unfold hJ;rw[bP,Jz hb ha (xO hb' hr)]
 dsimp[bindR];rw[xP hb hr hb' _ [t0] (by simp;omega)]
 rfl
theorem Et(h:F6 (tR k) x t):vK (tR (k+1)) (40::(x++[41])) t:=by
 intro rest;unfold rQ;rw[if_pos (by rfl)]
 unfold S9 tR;show bindR (dQ [40] (40::(x++[41]++rest))) _=_;have e1:dQ [40] (40::(x++[41]++rest))= .ok (40,x++(41::rest)):=by
  rw[bP];rfl
 rw[e1]
 dsimp[bindR];rw[xQ (sV k) h (.inr #[rest,rfl])]
 rfl
theorem Nr(h:F6 (tR 6) x t):vH x=.ok (t,[]):=by
 unfold vH;have:=xQ (sV 6) h (rest:=[]) (.inl rfl);rw[cq] at this;rw[this]
 rfl
end PL
namespace PL.lQ
inductive Mk where|star|plus|may
inductive Tr where|one (n:Nat) (l:List Nat)|row (a b:Tr)|or (a b:Tr)|rep (m:Mk) (a:Tr)
noncomputable section
noncomputable def null:Tr->Bool
 |.one _ _=>false
 |.row a b=>null a&&null b
 |.or a b=>null a||null b
 |.rep .plus a=>null a
 |.rep _ _=>true
def dU(K:List Tr):Bool:=K.all null
def FS:Tr->Nat->Bool
 |.one n _,p=>p==n
 |.row a b,p=>FS a p||(null a&&FS b p)
 |.or a b,p=>FS a p||FS b p
 |.rep _ a,p=>FS a p
def nZ:List Tr->Nat->Bool
 |[],_=>false
 |t::K,p=>FS t p||(null t&&nZ K p)
noncomputable def IN:Tr->Nat->Bool
 |.one n _,p=>p==n
 |.row a b,p=>IN a p||IN b p
 |.or a b,p=>IN a p||IN b p
 |.rep _ a,p=>IN a p
def sgn:Tr->Nat->List Nat
 |.one _ l,_=>l
 |.row a b,p=>if IN a p then sgn a p else sgn b p
 |.or a b,p=>if IN a p then sgn a p else sgn b p
 |.rep _ a,p=>sgn a p
noncomputable def more:Mk->Tr->List Tr
 |.may,_=>[]
 |_,a=>[.rep .star a]
def cont:Tr->Nat->List Tr
 |.one _ _,_=>[]
 |.row a b,p=>if IN a p then cont a p++[b] else cont b p
 |.or a b,p=>if IN a p then cont a p else cont b p
 |.rep m a,p=>cont a p++more m a
def ct(t:Tr)(p:Nat):List Tr:=if p=0 then [t] else cont t p
def dF:Tr->Nat->List (List Tr)
 |.one _ l,c=>if l.contains c then [[]] else []
 |.or a b,c=>dF a c++dF b c
 |.row a b,c=>(dF a c).map (·++[b])++if null a then dF b c else []
 |.rep m a,c=>(dF a c).map (·++more m a)
def dR:List Tr->Nat->List (List Tr)
 |[],_=>[]
 |t::K,c=>(dF t c).map (·++K)++if null t then dR K c else []
noncomputable def size:Tr->Nat
 |.one _ _=>1
 |.row a b=>size a+size b
 |.or a b=>size a+size b
 |.rep _ a=>size a
noncomputable def bS:Tr->Nat
 |.one _ _=>0
 |.row a b=>max (bS a) (bS b)+1
 |.or a b=>max (bS a) (bS b)+1
 |.rep _ a=>bS a+1
def n6:Nat->Tr->Prop
 |n,.one k _=>k=n
 |n,.row a b=>n6 n a/\n6 (n+size a) b
 |n,.or a b=>n6 n a/\n6 (n+size a) b
 |n,.rep _ a=>n6 n a
noncomputable def mU:Tr->List (List Nat)
 |.one _ l=>[l]
 |.row a b=>mU a++mU b
 |.or a b=>mU a++mU b
 |.rep _ a=>mU a
end
theorem fU:∀t,(mU t).length=size t
 |.one _ _=>rfl
 |.row a b=>by simp[mU,size,fU a,fU b]
 |.or a b=>by simp[mU,size,fU a,fU b]
 |.rep _ a=>by simp[mU,size,fU a]
theorem fg:∀{t n p},n6 n t->(IN t p=true↔n<=p/\p<n+size t)
 |.one k l,n,p,h=>by
  have h:k=n:=h;subst h;dsimp[IN,size,beq_iff_eq];omega
 |.row a b,n,p,h=>by
  dsimp[IN,size,bu,fg h.1,fg h.2];omega
 |.or a b,n,p,h=>by
  dsimp[IN,size,bu,fg h.1,fg h.2];omega
 |.rep m a,n,p,h=>fg (t:=a) h
theorem oU:∀{t n p},n6 n t->IN t p=true->(mU t)[p-n]?=some (sgn t p)
 |.one k l,n,p,h,i=>by
  have h:k=n:=h;subst h;have:p=k:=by simpa[IN] using i
  simp[this,mU,sgn]
 |.row a b,n,p,h,i=>by
  have e1:=fg (p:=p) h.1;have e2:=fg (p:=p) h.2;have l1:=fU a;dsimp[mU,sgn];by_cases z:IN a p=true
  .rw[if_pos z,ah (by have:=e1.mp z;omega)];erw[oU h.1 z]
  .have z2:IN b p=true:=by simpa[IN,z] using i
   have:=e2.mp z2;rw[if_neg z,aw ∅,<-oU h.2 z2]
   congr 1;omega
 |.or a b,n,p,h,i=>by
  have e1:=fg (p:=p) h.1;have e2:=fg (p:=p) h.2;have l1:=fU a;dsimp[mU,sgn];by_cases z:IN a p=true
  .rw[if_pos z,ah (by have:=e1.mp z;omega)];erw[oU h.1 z]
  .have z2:IN b p=true:=by simpa[IN,z] using i
   have:=e2.mp z2;rw[if_neg z,aw ∅,<-oU h.2 z2]
   congr 1;omega
 |.rep m a,n,p,h,i=>oU (t:=a) h i
theorem fZ(h:n6 n a/\n6 (n+size a) b)(i:IN b p=true):¬IN a p=true:=λz=>by
 have:=(fg h.1).mp z;have:=(fg h.2).mp i;omega
theorem jh:∀{t p},FS t p=true->IN t p=true
 |.one k l,p,h=>h
 |.row a b,p,h=>by
  dsimp[FS,bu,aj] at h;dsimp[IN,bu];erw[h.imp jh λz=>jh z.2]
 |.or a b,p,h=>by
  dsimp[FS,bu] at h;dsimp[IN,bu];erw[h.imp jh jh]
 |.rep m a,p,h=>jh (t:=a) h
theorem lX:∀{K L:List Tr}{p:Nat},nZ (K++L) p=(nZ K p||(dU K&&nZ L p))
 |[],L,p=>by simp[nZ,dU]
 |t::K,L,p=>by
  dsimp[nW,nZ,lX,dU,bQ];cases null t<;>cases FS t p<;>simp
theorem Dg:∀{K L:List Tr}{c:Nat},dR (K++L) c=(dR K c).map (·++L)++if dU K then dR L c else []
 |[],L,c=>by simp[dR,dU]
 |t::K,L,c=>by
  dsimp[nW,dR,Dg,dU,bQ];by_cases z:null t=true<;>simp[z,dU,aK,dk]
theorem vO:dU (K++L)=(dU K&&dU L):=by simp[dU]
theorem JB:nZ (more m a) p=true->FS a p=true:=by
 cases m<;>simp[more,nZ,FS]
theorem fB:∀{t q p},nZ (cont t q) p=true->IN t p=true
 |.one k l,q,p,h=>by simp[cont,nZ] at h
 |.row a b,q,p,h=>by
  dsimp[cont] at h;dsimp[IN,bu];split at h
  .rw[lX] at h
   dsimp[bu,aj] at h;rcases h with h|⟨_,h⟩
   .erw[.inl (fB h)]
   .exact .inr (jh (by simpa[nZ] using h))
  .erw[.inr (fB h)]
 |.or a b,q,p,h=>by
  dsimp[cont] at h;dsimp[IN,bu];split at h
  .erw[.inl (fB h)]
  .erw[.inr (fB h)]
 |.rep m a,q,p,h=>by
  dsimp[cont] at h;rw[lX] at h;dsimp[bu,aj] at h;rcases h with h|⟨_,h⟩
  .erw[fB (t:=a) h]
  .erw[jh (t:=a) (JB h)]
theorem iR:∀{t n c x},n6 n t->(x∈dF t c↔∃p,FS t p=true/\c∈sgn t p/\x=cont t p)
 |.one k l,n,c,x,h=>by
  dsimp[dF,FS,sgn,cont,beq_iff_eq];by_cases z:c∈l
  .simp[z]
  .simp[z]
 |.row a b,n,c,x,h=>by
  dsimp[dF,aL,bG,FS,bu,aj];constructor
  .rintro(⟨y,hy,rfl⟩|hy)
   .let#[p,h1,h2,rfl]:=(iR h.1).mp hy
    have i:=jh h1;exact#[p,.inl h1,by dsimp[sgn,if_pos i];erw[h2],by dsimp[cont,if_pos i]]
   .split at hy
    .rename_i z
     let#[p,h1,h2,rfl]:=(iR h.2).mp hy;have i:=fZ h (jh h1);exact#[p,.inr #[z,h1],by dsimp[sgn,if_neg i];erw[h2],by dsimp[cont,if_neg i]]
    .simp at hy
  .rintro⟨p,h1|⟨z,h1⟩,h2,rfl⟩
   .have i:=jh h1
    dsimp[sgn,if_pos i] at h2;erw[.inl #[_,(iR h.1).mpr #[p,h1,h2,rfl],by dsimp[cont,if_pos i]]]
   .have i:=fZ h (jh h1)
    dsimp[sgn,if_neg i] at h2;rw[if_pos z]
    erw[.inr ((iR h.2).mpr #[p,h1,h2,by dsimp[cont,if_neg i]])]
 |.or a b,n,c,x,h=>by
  dsimp[dF,aL,FS,bu];constructor
  .rintro(hy|hy)
   .let#[p,h1,h2,rfl]:=(iR h.1).mp hy
    have i:=jh h1;exact#[p,.inl h1,by dsimp[sgn,if_pos i];erw[h2],by dsimp[cont,if_pos i]]
   .let#[p,h1,h2,rfl]:=(iR h.2).mp hy
    have i:=fZ h (jh h1);exact#[p,.inr h1,by dsimp[sgn,if_neg i];erw[h2],by dsimp[cont,if_neg i]]
  .rintro⟨p,h1|h1,h2,rfl⟩
   .have i:=jh h1
    dsimp[sgn,if_pos i] at h2;erw[.inl ((iR h.1).mpr #[p,h1,h2,by dsimp[cont,if_pos i]])]
   .have i:=fZ h (jh h1)
    dsimp[sgn,if_neg i] at h2;erw[.inr ((iR h.2).mpr #[p,h1,h2,by dsimp[cont,if_neg i]])]
 |.rep m a,n,c,x,h=>by
  dsimp[dF,bG,FS,sgn,cont];constructor
  .rintro⟨y,hy,rfl⟩
   let#[p,h1,h2,rfl]:=(iR (t:=a) h).mp hy;exact#[p,h1,h2,rfl]
  .rintro⟨p,h1,h2,rfl⟩
   exact#[_,(iR (t:=a) h).mpr #[p,h1,h2,rfl],rfl]
theorem za:dR [t] c=dF t c:=by simp[dR]
theorem oV:∀{t n c x q},n6 n t->(x∈dR (cont t q) c↔∃p,nZ (cont t q) p=true/\c∈sgn t p/\x=cont t p)
 |.one k l,n,c,x,q,h=>by simp[cont,dR,nZ]
 |.row a b,n,c,x,q,h=>by
  by_cases z:IN a q=true
  .have e:cont (.row a b) q=cont a q++[b]:=by dsimp[cont,if_pos z]
   rw[e,Dg,za]
   dsimp[lX,aL,bG,bu,aj];constructor
   .rintro(⟨y,hy,rfl⟩|hy)
    .let#[p,h1,h2,rfl]:=(oV h.1).mp hy
     have i:=fB h1;exact#[p,.inl h1,by dsimp[sgn,if_pos i];erw[h2],by dsimp[cont,if_pos i]]
    .split at hy
     .rename_i z
      let#[p,h1,h2,rfl]:=(iR h.2).mp hy;have i:=fZ h (jh h1);exact#[p,.inr #[z,by simp[nZ,h1]],by dsimp[sgn,if_neg i];erw[h2],by dsimp[cont,if_neg i]]
     .simp at hy
   .rintro⟨p,h1|⟨z,h1⟩,h2,rfl⟩
    .have i:=fB h1
     dsimp[sgn,if_pos i] at h2;erw[.inl #[_,(oV h.1).mpr #[p,h1,h2,rfl],by dsimp[cont,if_pos i]]]
    .have h1:FS b p=true:=by simpa[nZ] using h1
     have i:=fZ h (jh h1);dsimp[sgn,if_neg i] at h2;rw[if_pos z]
     erw[.inr ((iR h.2).mpr #[p,h1,h2,by dsimp[cont,if_neg i]])]
  .have e:cont (.row a b) q=cont b q:=by dsimp[cont,if_neg z]
   rw[e,oV h.2]
   constructor
   .rintro⟨p,h1,h2,rfl⟩
    have i:=fZ h (fB h1);exact#[p,h1,by dsimp[sgn,if_neg i];erw[h2],by dsimp[cont,if_neg i]]
   .rintro⟨p,h1,h2,rfl⟩
    have i:=fZ h (fB h1);dsimp[sgn,if_neg i] at h2;exact#[p,h1,h2,by dsimp[cont,if_neg i]]
 |.or a b,n,c,x,q,h=>by
  by_cases z:IN a q=true
  .have e:cont (.or a b) q=cont a q:=by dsimp[cont,if_pos z]
   rw[e,oV h.1]
   constructor
   .rintro⟨p,h1,h2,rfl⟩
    have i:=fB h1;exact#[p,h1,by dsimp[sgn,if_pos i];erw[h2],by dsimp[cont,if_pos i]]
   .rintro⟨p,h1,h2,rfl⟩
    have i:=fB h1;dsimp[sgn,if_pos i] at h2;exact#[p,h1,h2,by dsimp[cont,if_pos i]]
  .have e:cont (.or a b) q=cont b q:=by dsimp[cont,if_neg z]
   rw[e,oV h.2]
   constructor
   .rintro⟨p,h1,h2,rfl⟩
    have i:=fZ h (fB h1);exact#[p,h1,by dsimp[sgn,if_neg i];erw[h2],by dsimp[cont,if_neg i]]
   .rintro⟨p,h1,h2,rfl⟩
    have i:=fZ h (fB h1);dsimp[sgn,if_neg i] at h2;exact#[p,h1,h2,by dsimp[cont,if_neg i]]
 |.rep m a,n,c,x,q,h=>by
  have hm:x∈dR (more m a) c↔∃p,nZ (more m a) p=true/\c∈sgn a p/\x=cont (.rep m a) p:=by
   cases m with
   |may=>simp[more,dR,nZ]
   |star=>
    show x∈dR [.rep .star a] c↔_
    rw[za,iR (t:=.rep .star a) h]
    simp[more,nZ,FS,sgn]
   |plus=>
    show x∈dR [.rep .star a] c↔_
    rw[za,iR (t:=.rep .star a) h]
    simp[more,nZ,FS,sgn,cont]
  dsimp[cont,Dg,lX,aL,bG,bu,aj,sgn];constructor
  .rintro(⟨y,hy,rfl⟩|hy)
   .let#[p,h1,h2,rfl]:=(oV (t:=a) h).mp hy
    exact#[p,.inl h1,h2,rfl]
   .split at hy
    .rename_i z
     let#[p,h1,h2,rfl]:=hm.mp hy;exact#[p,.inr #[z,h1],h2,rfl]
    .simp at hy
  .rintro⟨p,h1|⟨z,h1⟩,h2,rfl⟩
   .erw[.inl #[_,(oV (t:=a) h).mpr #[p,h1,h2,rfl],rfl]]
   .rw[if_pos z]
    erw[.inr (hm.mpr #[p,h1,h2,rfl])]
def nQ:Mk->List Nat
 |.star=>k9
 |.plus=>oS
 |.may=>kq
def enc:Tr->U
 |.one _ l=>.tup [.str Nj,.str l]
 |.row a b=>.tup [.str Dc,.tup [enc a,enc b]]
 |.or a b=>.tup [.str SY,.tup [enc a,enc b]]
 |.rep m a=>.tup [.str (nQ m),enc a]
def cQ(K:List Tr):U:=.tup (K.map enc)
def Nt(K:List Tr):U:=.tup [.str Dc,cQ K]
theorem xR(h:nZ (ct t q) p=true):IN t p=true:=by
 unfold ct at h;split at h
 .dsimp[nZ,bu,aj,ag,and_false,or_false] at h
  erw[jh h]
 .erw[fB h]
theorem zb(h:n6 n t)(n0:0<n)(i:IN t p=true):p≠0:=by
 have:=(fg h).mp i;omega
theorem JC(h:n6 n t)(n0:0<n):x∈dR (ct t q) c↔∃p,nZ (ct t q) p=true/\c∈sgn t p/\x=ct t p:=by
 have key:∀p,nZ (ct t q) p=true->ct t p=cont t p:=λp hp=>by
  unfold ct;rw[if_neg (zb h n0 (xR hp))]
 have e:x∈dR (ct t q) c↔∃p,nZ (ct t q) p=true/\c∈sgn t p/\x=cont t p:=by
  unfold ct;split
  .rw[za,iR h]
   simp[nZ]
  .erw[oV h]
 rw[e]
 constructor
 .rintro⟨p,h1,h2,h3⟩;exact#[p,h1,h2,h3.trans (key p h1).symm]
 .rintro⟨p,h1,h2,h3⟩;exact#[p,h1,h2,h3.trans (key p h1)]
def Bd(t:Tr)(c:Nat)(H:Nat->Prop):Nat->Prop:=λp=>∃q,H q/\nZ (ct t q) p=true/\c∈sgn t p
def hs(t:Tr)(w:List Nat):Nat->Prop:=w.foldl (λH c=>Bd t c H) (λp=>p=0)
def En(t:Tr)(H:Nat->Prop):Prop:=∃p,H p/\dU (ct t p)=true
theorem rS:hs t (w++[c])=Bd t c (hs t w):=by unfold hs;rw[fj];rfl
theorem Vp(h:hs t w p):p=0\/IN t p=true:=by
 by_cases z:w=[]
 .subst z;erw[.inl h]
 .rw[<-List.dropLast_concat_getLast z,rS] at h
  let#[q,_,h,_]:=h;erw[.inr (xR h)]
theorem take_snoc{w:List Nat}{k c:Nat}(h:w[k]?=some c):w.take (k+1)=w.take k++[c]:=by
 rw[jB,h];rfl
def Ru(t:Tr)(H:Nat->Prop)(X:List U):Prop:=(∀x,x∈X↔∃p,H p/\x=cQ (ct t p))/\X.Nodup
theorem F7(t:Tr):Ru t (hs t []) [cQ [t]]:=by
 refine#[λx=>?_,by simp];dsimp[hs,fG,bC,exists_eq_left]
 rfl
section
variable{S:bJ}{Q:KU}{a b p:Nat}
theorem CN:km .bor (.int (a:Nat)) (.int (b:Nat)) S Q=Q (.int ((a|||b:Nat):Int)) S:=by
 rw[Qe,eq_true (show(0:Int)<=a/\(0:Int)<=b from #[∅,∅]),true_and];rfl
theorem uw:km .band (.int (a:Nat)) (.int (b:Nat)) S Q=Q (.int ((a&&&b:Nat):Int)) S:=by
 rw[Mi,eq_true (show(0:Int)<=a/\(0:Int)<=b from #[∅,∅]),true_and];rfl
theorem Xt:km .band (.int (a:Nat)) (.int 1) S Q=Q (.int ((a&&&1:Nat):Int)) S:=uw (b:=1)
theorem Rv:km .shl (.int 1) (.int (p:Nat)) S Q=(p<=1000/\Q (.int ((1<<<p:Nat):Int)) S):=by
 rw[Qf]
 have e:(1:Int)*(2:Int)^((p:Int).toNat)=((1<<<p:Nat):Int):=by
  rw[t4];simp
 rw[e]
 erw[propext #[λh=>#[∅,h.2],λh=>#[∅,h.2]]]
theorem ZA:km .shr (.int (a:Nat)) (.int (p:Nat)) S Q=Q (.int ((a>>>p:Nat):Int)) S:=by
 rw[Qg,eq_true (show(0:Int)<=a/\(0:Int)<=p from #[∅,∅]),true_and]
 have e:(a:Int)/(2:Int)^((p:Int).toNat)=((a>>>p:Nat):Int):=by
  rw[Nat.shiftRight_eq_div_pow];simp
 rw[e]
theorem aa2:rq .sum [.loc n] S Q=(∃is:List Int,S[n]?=some (.lst (is.map .int))/\Q (.int is.sum) S):=rfl
end
theorem Vq:(((a>>>p&&&1:Nat):Int) !=0)=a.testBit p:=by
 unfold Nat.testBit;rw[Nat.and_comm]
 by_cases h:1&&&a>>>p=0
 .simp[h]
 .have:¬(((1&&&a>>>p:Nat):Int)=0):=∅
  rw[bne_iff_ne.mpr this,bne_iff_ne.mpr h]
theorem zc{a:Nat}:((a:Int) !=0)=true↔∃p,a.testBit p=true:=by
 constructor
 .intro h
  have:a≠0:=by
   have:=bne_iff_ne.mp h;omega
  erw[v7 this]
 .rintro⟨p,h⟩
  rwa[bne_iff_ne.mpr λz=>?_]
  have:a=0:=∅
  subst this;simp at h
theorem Rx(h:b.testBit p=true):p<tO b:=by
 have g:=Nat.ge_two_pow_of_testBit h;have b0:b≠0:=by
  have:0<2^p:=Nat.two_pow_pos p;omega
 unfold tO;rw[if_neg b0]
 have:=(Nat.le_log2 b0).mpr g;omega
theorem bits_le(h:b<2^n):tO b<=n:=by
 unfold tO;split
 .omega
 .rename_i z
  have:=(Nat.log2_lt z).mpr h;omega
theorem jI(h:∀p,b.testBit p=true->p<n):b<2^n:=Lb λz=>by
 let#[i,hi,ti]:=Nat.exists_ge_and_testBit_of_ge_two_pow z;have:=h i ti;omega
def Dh(b:Nat):List Nat:=(bX (tO b)).filter b.testBit
theorem lg:p∈Dh b↔b.testBit p=true:=by
 unfold Dh;rw[eU,lE]
 exact#[λh=>h.2,λh=>#[Rx h,h]]
noncomputable abbrev aU(n:Nat):U:=.int (n:Nat)
theorem iF{g:bJ->Prop}{c:U->bJ->(Bool->bJ->Prop)->Prop}{e:U->bJ->KU->Prop}{Q:List U->bJ->Prop}(l:List U)(I:Nat->List U->bJ->Prop)(hg:∀i acc S,i<=l.length->I i acc S->g S/\acc.length<16500000)
  (h:∀i u acc S(k:List U->bJ->Prop),l[i]?=some u->I i acc S->(∀acc' S',I (i+1) acc' S'->k acc' S')->c u S λb S1=>if b=true then e u S1 λv S2=>k (acc++[v]) S2 else k acc S1) (hf:∀acc S,I l.length acc S->Q acc S){S:bJ} (h0:I 0 [] S):nY g c e Q l [] S:=by
 have key:∀n i acc S,i+n=l.length->I i acc S->nY g c e Q (l.drop i) acc S:=by
  intro n;induction n with
  |zero=>
   intro i acc S e hi;rw[jA ∅]
   have ei:i=l.length:=∅
   subst ei;exact#[(hg _ _ _ (aq _) hi).1,(hg _ _ _ (aq _) hi).2,hf _ _ hi]
  |succ n ih=>
   intro i acc S e hi;have hl:i<l.length:=∅
   rw[eT hl]
   exact#[(hg _ _ _ ∅ hi).1,(hg _ _ _ ∅ hi).2,h i _ acc S _ (aa hl) hi λacc' S' h'=>ih (i+1) acc' S' ∅ h']
 erw[key l.length 0 [] S ∅ h0]
theorem xS{g:bJ->Prop}{c:U->bJ->(Bool->bJ->Prop)->Prop}{e:U->bJ->KU->Prop}{Q:List U->bJ->Prop}{S:bJ}(l:List U)(p:U->Bool)(f:U->U)(hg:g S)(hl:l.length<16500000)
  (h:∀u k,u∈l->((p u=true->k true S)/\(p u=false->k false S)->c u S k)) (he:∀u k,u∈l->p u=true->k (f u) S->e u S k) (q:Q ((l.filter p).map f) S):nY g c e Q l [] S:=by
 rwa[iF l (λi acc S'=>S'=S/\acc=((l.take i).filter p).map f) (λi acc S' hi h=>#[h.1▸hg,?_]) (λi u acc S' k hu hi hk=>?_) (λacc S' h=>?_) #[rfl,rfl]]
 .rw[h.2,ak]
  have:=B3 p (l.take i);rw[dC] at this;omega
 .let#[rfl,rfl]:=hi
  have hm:=af hu;have et:l.take (i+1)=l.take i++[u]:=by rw[jB,hu];rfl
  rwa[h u _ hm #[λz=>?_,λz=>?_]]
  .rw[if_pos rfl]
   erw[he u _ hm z (hk _ _ #[rfl,by rw[et,GG,aK,List.filter_cons_of_pos z];rfl])]
  .rw[if_neg (by simp)]
   erw[hk _ _ #[rfl,by rw[et,GG,List.filter_cons_of_neg (by simp[z])];simp]]
 .let#[rfl,rfl]:=h
  rw[bY];erw[q]
theorem d6{α β:Type}{l:List α}{f:α->β}{i:Nat}{u:β}(h:(l.map f)[i]?=some u):∃a,l[i]?=some a/\f a=u:=by
 rw[aB] at h;erw[ar.mp h]
theorem GN{α:Type}{l:List α}{i:Nat}{a:α}(h:l[i]?=some a):l.take (i+1)=l.take i++[a]:=by rw[jB,h];rfl
theorem _root_.Lake.PL.Ext.st{S S':bJ}{n:Nat}{o:SO}(x:Ext S S')(h:S.length<=n):Ext S (S'.set n o):=
 #[by rw[cu];erw[x.1],λk hk=>by rw[ao (du (av hk h))];erw[x.2 k hk]]
end PL.lQ
open PL.lQ
local macro_rules | `(tactic| walk_at "qpk") => do let a:=((wN0++" Io aaJ aaN US UT aaO YR aaQ Yw aa2 CN uw Xt Rv ZA Yx aap Xj Yy getD_some kR aaE YJ aar aaP YS YT aaq YA Yz YB Int.toNat_natCast Bool.false_eq_true if_false if_true Bool.not_true Bool.not_false").splitOn " ").toArray.map fun s=>Lean.mkIdent s.toName;`(tactic| simp only [$[$a:ident],*])
local macro_rules | `(tactic| walk_at "pk") => `(tactic| ((try refine Rest.go ?_); walk_at "qpk"; repeat ((refine Rest.go ?_); walk_at "qpk")))
namespace PL.lQ
def Be:Spec:=λus S Q=>∃b:Nat,us=[aU b]/\b<2^100/\∀n S',Ext S S'->S.length<=n->S'[n]?=some (.lst ((Dh b).map aU))->Q (.loc n) S'
theorem Ry(Γ:bZ):Keeps Γ pG 0 Be:=by
 rintro us S Q ⟨b,rfl,hb,q⟩;unfold pG;room;have hl:=bits_le hb;refine#[∅,∅,∅,?_];refine xS (S:=S) _ (λu=>match u with|.int i=>b.testBit i.toNat|_=>false) id trivial (by simp;omega) (λu k hu h=>?_) (λu k _ _ h=>h) ?_
 .let#[p,_,rfl]:=bG.mp hu
  room;rw[Vq]
  cases z:b.testBit p with
  |true=>erw[h.1 z]
  |false=>erw[h.2 z]
 .rwa[q _ _ (Ext.app _) (aq _) ?_]
  have:((bX (tO b)).map λk=>U.int (k:Nat)).filter (λu=>match u with|.int i=>b.testBit i.toNat|_=>false)=(Dh b).map aU:=by
   rw[List.filter_map];rfl
  rw[List.map_id,this];simp
def KY(e:Bool)(F Z:Nat):SO:=.ins "Part" [("empty",.bl e),("firsts",aU F),("lasts",aU Z)]
section
variable{S:bJ}{p F Z:Nat}{e:Bool}{r:U->Prop}(h:S[p]?=some (KY e F Z))
include h
theorem F8:om (.loc p) "empty" S r=r (.bl e):=by rw[iC,h];rfl
theorem Bf:om (.loc p) "firsts" S r=r (aU F):=by rw[iC,h];rfl
theorem Bg:om (.loc p) "lasts" S r=r (aU Z):=by rw[iC,h];rfl
end
def zd:Spec:=λus S Q=>∃p e F Z,us=[.loc p,.bl e,aU F,aU Z]/\S[p]?=some (.ins "Part" [])/\Q .bV (S.set p (KY e F Z))
theorem Vr(Γ:bZ):Keeps Γ lS 0 zd:=by
 rintro us S Q ⟨p,e,F,Z,rfl,h,q⟩;unfold lS;room;rw[h]
 dsimp[bN];refine#[by simp,?_];have g1:=gs (o':=SO.ins "Part" (gX "empty" (U.bl e) [])) h;room;rw[g1]
 dsimp[bN];refine#[by simp[gX],?_];have g2:=gs (o':=SO.ins "Part" (gX "firsts" (aU F) (gX "empty" (U.bl e) []))) g1;room;rw[g2]
 dsimp[bN];refine#[by simp[gX],?_];room;rw[tH,tH]
 erw[q]
theorem qc{Γ:bZ}(h1:Γ "Part.__init__"=zd){e:Bool}{F Z:Nat}{S:bJ}{R:KU}(q:∀S',Ext S S'->S'[S.length]?=some (KY e F Z)->R .bV S'):
  Γ "Part.__init__" [.loc S.length,.bl e,aU F,aU Z] (S++[.ins "Part" []]) R:=by
 have g:(S++[SO.ins "Part" []])[S.length]?=some (.ins "Part" []):=by simp
 rwa[ca h1 #[S.length,e,F,Z,rfl,g,q _ #[by simp,λn hn=>?_] (gs g)]];rw[ao ∅,ah hn]
def qC(f:Bool->Nat->Nat->Bool->Nat->Nat->Bool×Nat×Nat):Spec:=λus S Q=>∃p1 e1 F1 Z1 p2 e2 F2 Z2,us=[.loc p1,.loc p2]/\S[p1]?=some (KY e1 F1 Z1)/\S[p2]?=some (KY e2 F2 Z2) /\
 ∀S',Ext S S'->S'[S.length]?=some (KY (f e1 F1 Z1 e2 F2 Z2).1 (f e1 F1 Z1 e2 F2 Z2).2.1 (f e1 F1 Z1 e2 F2 Z2).2.2)->Q (.loc S.length) S'
noncomputable def sY(e1:Bool)(F1 Z1:Nat)(e2:Bool)(F2 Z2:Nat):Bool×Nat×Nat:=(e1&&e2,if e1 then F1|||F2 else F1,if e2 then Z1|||Z2 else Z2)
noncomputable def Vs(e1:Bool)(F1 Z1:Nat)(e2:Bool)(F2 Z2:Nat):Bool×Nat×Nat:=(e1||e2,F1|||F2,Z1|||Z2)
theorem Rz(Γ:bZ)(h1:Γ "Part.__init__"=zd):Keeps Γ fQ 2 (qC sY):=by
 rintro us S Q ⟨p1,e1,F1,Z1,p2,e2,F2,Z2,rfl,g1,g2,q⟩;unfold fQ;room;cases e1<;>cases e2<;>(repeat first|room|dsimp[F8 g1,F8 g2,Bf g1,Bf g2,Bg g1,Bg g2])
 .erw[qc h1 λS' x g=>#[rfl,q S' x g]]
 .erw[qc h1 λS' x g=>#[rfl,q S' x g]]
 .erw[qc h1 λS' x g=>#[rfl,q S' x g]]
 .erw[qc h1 λS' x g=>#[rfl,q S' x g]]
theorem Vt(Γ:bZ)(h1:Γ "Part.__init__"=zd):Keeps Γ i9 0 (qC Vs):=by
 rintro us S Q ⟨p1,e1,F1,Z1,p2,e2,F2,Z2,rfl,g1,g2,q⟩;unfold i9;cases e1<;>(repeat first|room|dsimp[F8 g1,F8 g2,Bf g1,Bf g2,Bg g1,Bg g2])
 .erw[qc h1 λS' x g=>#[rfl,q S' x g]]
 .erw[qc h1 λS' x g=>#[rfl,q S' x g]]
structure rT(S:bJ)(L:Nat)(sg:List (List Nat))(bh en:List Nat):Prop where
 o:S[L]?=some (.ins "Layout" [("signs",.loc (L+1)),("behind",.loc (L+2)),("ends",.loc (L+3))])
 s:S[L+1]?=some (.lst (sg.map .str))
 b:S[L+2]?=some (.lst (bh.map aU))
 e:S[L+3]?=some (.lst (en.map aU))
def Fr(L:Nat)(S S':bJ):Prop:=S.length<=S'.length/\∀n,n<S.length->n<=L\/L+4<=n->S'[n]?=S[n]?
section
variable{S S1 S2:bJ}{L:Nat}{sg:List (List Nat)}{bh en:List Nat}{r:U->Prop}{q:KU}
theorem Fr.refl:Fr L S S:=#[aq _,λ_ _ _=>rfl]
theorem Fr.trans(a:Fr L S S1)(b:Fr L S1 S2):Fr L S S2:=#[aH a.1 b.1,λn h z=>(b.2 n (av h a.1) z).trans (a.2 n h z)]
theorem Ext.fr(a:Ext S S1):Fr L S S1:=#[a.1,λn h _=>a.2 n h]
theorem Fr.get(a:Fr L S S1){n:Nat}{o:SO}(h:S[n]?=some o)(z:L+4<=n):S1[n]?=some o:=(a.2 n (aN h) (.inr z)).trans h
theorem Fr.set(a:Fr L S S1){n:Nat}{o:SO}(h1:L<n)(h2:n<L+4):Fr L S (S1.set n o):=#[by rw[cu];erw[a.1],λm h z=>by rw[ao ∅];erw[a.2 m h z]]
variable(h:rT S L sg bh en)
include h
theorem rT.ext(x:Ext S S1):rT S1 L sg bh en:=#[x.get h.o,x.get h.s,x.get h.b,x.get h.e]
theorem rT.len:L+4<=S.length:=aN h.e
theorem JD:om (.loc L) "signs" S r=r (.loc (L+1)):=by rw[iC,h.o];rfl
theorem JE:om (.loc L) "behind" S r=r (.loc (L+2)):=by rw[iC,h.o];rfl
theorem RA:om (.loc L) "ends" S r=r (.loc (L+3)):=by rw[iC,h.o];rfl
theorem rT.ZC:rT (S.set (L+1) (.lst (sg'.map .str))) L sg' bh en:=
 #[by rw[ao ∅];erw[h.o],gs h.s,by rw[ao ∅];erw[h.b],by rw[ao ∅];erw[h.e]]
theorem rT.setB:rT (S.set (L+2) (.lst (bh'.map aU))) L sg bh' en:=
 #[by rw[ao ∅];erw[h.o],by rw[ao ∅];erw[h.s],gs h.b,by rw[ao ∅];erw[h.e]]
theorem rT.ZD:rT (S.set (L+3) (.lst (en'.map aU))) L sg bh en':=
 #[by rw[ao ∅];erw[h.o],by rw[ao ∅];erw[h.s],by rw[ao ∅];erw[h.b],gs h.e]
end
noncomputable def RB:Spec:=λus S Q=>∃L,us=[.loc L]/\S[L]?=some (.ins "Layout" [])/\S.length=L+1/\∀S',(∀n,n<L->S'[n]?=S[n]?)->rT S' L [[]] [0] []->Q .bV S'
theorem Vu(Γ:bZ):Keeps Γ jV 0 RB:=by
 rintro us S Q ⟨L,rfl,h,hl,q⟩;unfold jV;room;refine#[by simp,?_];have g0:(S++[SO.lst [U.str []]])[L]?=some (.ins "Layout" []):=by rw[ah ∅];erw[h]
 rw[g0]
 dsimp[bN];refine#[by simp,?_];have g1:=gs (o':=SO.ins "Layout" (gX "signs" (U.loc S.length) [])) g0;room;refine#[by simp,?_];rw[ah (by simp;omega),g1]
 dsimp[bN];refine#[by simp[gX],?_];room;refine#[by simp,?_];rw[ah (by simp;omega),gs (by rw[ah (by simp;omega)];erw[g1])]
 dsimp[bN];refine#[by simp[gX],?_];room;rwa[q _ (λn hn=>?_) #[?_,?_,?_,?_]]
 .simp[iq,jz,hl,du hn,bf hn,bf (bf hn),bf (bf (bf hn))]
 .rw[bM (by simp;omega)]
  simp[gX,hl]
 .rw[ao ∅]
  simp[iq,jz,hl]
 .rw[ao ∅]
  simp[iq,jz,hl]
 .rw[ao ∅]
  simp[iq,jz,hl]
noncomputable def RC:Spec:=λus S Q=>∃L sg bh en,us=[.loc L]/\rT S L sg bh en/\sg.length<=1000/\Q (.int (sg.length-1:Int)) S
theorem Vv(Γ:bZ):Keeps Γ gw 0 RC:=by
 rintro us S Q ⟨L,sg,bh,en,rfl,h,hl,q⟩;unfold gw;room;rw[JD h,lL h.s]
 dsimp[bg,ak];exact#[∅,q]
theorem uC{l:List Nat}{k B:Nat}{r:U->Prop}(h:l[k]?=some B)(z:r (aU B)):opt ((l.map aU)[k]?) r:=by
 rw[aB,h];erw[z]
def RD:Spec:=λus S Q=>∃L sg bh en p e F Z B bt,us=[.loc L,.loc p]/\rT S L sg bh en/\bh=B::bt/\S[p]?=some (KY e F Z)/\L+4<=p/\en.length<=1000/\∀S',Fr L S S'->rT S' L sg ((B|||F)::bt) (en++[Z])->Q .bV S'
theorem Vw(Γ:bZ):Keeps Γ fq 0 RD:=by
 rintro us S Q ⟨L,sg,bh,en,p,e,F,Z,B,bt,rfl,h,rfl,hp,pl,hn,q⟩;unfold fq;room;rw[JE h]
 room;rw[h.b]
 dsimp[aD];refine#[E4 _,?_];dsimp[Int.toNat_zero];rwa[uC (B:=B) rfl ?_];rw[Bf hp]
 room;rw[h.b]
 dsimp[aD];refine#[by simp,?_];have h1:=h.setB (bh':=(B|||F)::bt);have e1:(dg aU (B::bt)).set 0 (U.int ((B|||F:Nat):Int))=dg aU ((B|||F)::bt):=by simp
 rw[e1]
 have f1:=(Fr.refl (L:=L) (S:=S)).set (n:=L+2) (o:=.lst (dg aU ((B|||F)::bt))) ∅ ∅;have hp1:=f1.get hp pl;generalize S.set (L+2) (.lst (dg aU ((B|||F)::bt)))=S1 at h1 f1 hp1;room;rw[RA h1]
 room;rw[h1.e]
 dsimp[aD];room;rw[Bg hp1]
 refine#[by simp;omega,?_];room;have e2:dg aU en++[aU Z]=dg aU (en++[Z]):=by simp
 rw[e2]
 erw[q _ (f1.set ∅ ∅) h1.ZD]
def Vx(Z F:Nat)(bh bh':List Nat):Prop:=bh'.length=bh.length/\∀(q B:Nat),bh[q]?=some B->∃B',bh'[q]?=some B'/\∀r,B'.testBit r=(B.testBit r||(Z.testBit q&&F.testBit r))
def JF:Spec:=λus S Q=>∃L sg bh en Z F,us=[.loc L,aU Z,aU F]/\rT S L sg bh en/\bh.length<=100/\(∀p,Z.testBit p=true->p<bh.length)/\∀S' bh',Fr L S S'->rT S' L sg bh' en->Vx Z F bh bh'->Q .bV S'
theorem Vy(Γ:bZ)(h1:Γ "members"=Be):Keeps Γ jW 1 JF:=by
 rintro us S Q ⟨L,sg,bh,en,Z,F,rfl,h,hl,hz,q⟩;unfold jW;room;rwa[ca h1 #[Z,rfl,av (jI hz) (bw ∅ hl),λn S1 x1 hn g1=>?_]];room;rw[g1]
 dsimp[aD];have hln:=h.len;refine cx (λi env S2=>∃bh2 x3,env=[some (.loc L),some (aU Z),some (aU F),x3]/\Fr L S1 S2/\rT S2 L sg bh2 en/\bh2.length=bh.length/\∀(q B:Nat),bh[q]?=some B->∃B',bh2[q]?=some B'/\∀r,B'.testBit r=(B.testBit r||(decide (q∈(Dh Z).take i)&&F.testBit r)))
  (λi env S2 h9=>by let#[_,_,_,f,_]:=h9;erw[f.get g1 ∅]) _ ?_ ?_ #[bh,none,rfl,.refl,h.ext x1,rfl,λq B e=>#[B,e,λr=>by simp]]
 .rintro i u env S2 K hu ⟨bh2,x3,rfl,f2,h2,l2,inv⟩ hK
  let#[p,hp,rfl]:=d6 hu;have pz:=lg.mp (af hp);have pl:=hz p pz;let#[B',e',b']:=inv p _ (aa pl);room;rw[JE h2]
  room;rw[h2.b]
  dsimp[aD];refine#[∅,uC e' ?_];room;rw[h2.b]
  dsimp[aD];refine#[by simp;omega,?_];have ee:(dg aU bh2).set p (U.int ((B'|||F:Nat):Int))=dg aU (bh2.set p (B'|||F)):=by rw[List.map_set]
  rw[ee]
  room;rwa[hK _ _ #[_,_,rfl,f2.set ∅ ∅,h2.setB,by simp[l2],λq B e=>?_]];have et:=GN hp;rw[et]
  by_cases z:q=p
  .subst z
   rw[aa pl] at e;injection e with e;subst e
   refine#[B'|||F,by rw[bM ∅],λr=>?_];rw[cK,b']
   dsimp[aL,bC,or_true,decide_true,zS];cases bh[q].testBit r<;>cases F.testBit r<;>simp
  .let#[B2,e2,b2]:=inv q B e
   refine#[B2,by rw[ao (cR z)];erw[e2],λr=>?_];rw[b2]
   simp[z]
 .rintro env S2 ⟨bh2,x3,rfl,f2,h2,l2,inv⟩
  room;rwa[q _ _ (Ext.fr x1 |>.trans f2) h2 #[l2,λq B e=>?_]];let#[B',e',b']:=inv q B e;refine#[B',e',λr=>?_];rw[b',ak,bY]
  congr 2
  by_cases z:Z.testBit q=true
  .rw[z];erw[decide_eq_true (lg.mpr z)]
  .rw[fH _ |>.mp z];erw[decide_eq_false λm=>z (lg.mp m)]
structure uk(t:Tr)(bh:List Nat)(F Z:Nat)(bh':List Nat):Prop where
 f:∀p,F.testBit p=FS t p
 z:∀p,Z.testBit p=(IN t p&&dU (cont t p))
 len:bh'.length=bh.length+size t
 old:∀q,q<bh.length->bh'[q]?=bh[q]?
 new:∀q,IN t q=true->∃B:Nat,bh'[q]?=some B/\∀p,B.testBit p=nZ (cont t q) p
def gU(D:Tr->U->Prop):Spec:=λus S Q=>∃L sg bh en t u,us=[.loc L,u]/\D t u/\rT S L sg bh en/\n6 sg.length t/\bh.length=sg.length/\sg.length+size t<=100 /\
 ∀S' p F Z bh',Fr L S S'->L+4<=p->S'[p]?=some (KY (null t) F Z)->rT S' L (sg++mU t) bh' en->uk t bh F Z bh'->Q (.loc p) S'
theorem rV:(1<<<n).testBit p=(p==n):=by
 rw[t4,Nat.testBit_two_pow]
 by_cases z:n=p
 .subst z;simp
 .rw[decide_eq_false z]
  have:¬p=n:=λe=>z e.symm
  simp[this]
theorem Vz(Γ:bZ)(h1:Γ "Part.__init__"=zd):Keeps Γ fS 1 (gU λt u=>∃n l,t=.one n l/\u=.str l):=by
 rintro us S Q ⟨L,sg,bh,en,t,u,rfl,⟨n,l,rfl,rfl⟩,h,hp,hb,hl,q⟩;have hp:n=sg.length:=hp;subst hp;have hl:sg.length+1<=100:=hl;unfold fS;room;rw[JD h,lL h.s]
 dsimp[bg,ak,Rv];refine#[∅,∅,?_];room;rw[JD h]
 room;rw[h.s]
 dsimp[aD,true_and];refine#[by simp;omega,?_];have e1:dg U.str sg++[U.str l]=dg U.str (sg++[l]):=by simp
 rw[e1]
 have h2:=h.ZC (sg':=sg++[l]);have f2:=(Fr.refl (L:=L) (S:=S)).set (n:=L+1) (o:=.lst (dg U.str (sg++[l]))) ∅ ∅;generalize S.set (L+1) (.lst (dg U.str (sg++[l])))=S2 at h2 f2;room;rw[JE h2]
 room;rw[h2.b]
 dsimp[aD,true_and];refine#[by simp;omega,?_];have e2:dg aU bh++[U.int 0]=dg aU (bh++[0]):=by simp
 rw[e2]
 have h3:=h2.setB (bh':=bh++[0]);have f3:=f2.set (n:=L+2) (o:=.lst (dg aU (bh++[0]))) ∅ ∅;generalize S2.set (L+2) (.lst (dg aU (bh++[0])))=S3 at h3 f3;room;rwa[qc h1 λS4 x4 g4=>#[rfl,?_]]
 have:=h3.len;rwa[q S4 _ _ _ _ (f3.trans (Ext.fr x4)) ∅ g4 (h3.ext x4) #[λp=>rV,λp=>?_,by simp[size],λq hq=>ah hq,λq hq=>?_]]
 .rw[rV];simp[IN,cont,dU]
 .have:q=sg.length:=by simpa[IN] using hq
  subst this;refine#[0,by rw[aw ∅,hb];simp,λp=>by simp[cont,nZ]]
def Tu(d:Nat)(t:Tr)(u:U):Prop:=bS t<d/\u=enc t
noncomputable def VA:dh:=#v[.set 4 (.cL "Layout" "lay" "Layout.lay" @0 #v[@3]),.ex (.cL "Layout" "link" "Layout.link" @0 #v[.fld @2 "lasts",.fld @4 "firsts"]),.set 2 (.call "one_behind_other" #v[@2,@4])]
theorem Bh(Γ:bZ)(h2:Γ "Layout.lay"=gU (Tu d))(h3:Γ "Layout.link"=JF)(h4:Γ "one_behind_other"=qC sY)
  (da:bS a<d) (h:rT S L sg bh en) (hp:n6 sg.length a) (hb:bh.length=sg.length) (hl:sg.length+size a<=100) (g:S[pw]?=some (KY e0 F0 Z0)) (pl:L+4<=pw) (hz:∀p,Z0.testBit p=true->p<bh.length)
  (q:∀S' p F Z bh1 bh2 x,Fr L S S'->L+4<=p->S'[p]?=some (KY (sY e0 F0 Z0 (null a) F Z).1 (sY e0 F0 Z0 (null a) F Z).2.1 (sY e0 F0 Z0 (null a) F Z).2.2)->rT S' L (sg++mU a) bh2 en->uk a bh F Z bh1->Vx Z0 F bh1 bh2 ->
   D.nx [some (.loc L),some v1,some (.loc p),some (enc a),x] S'):Rest Γ VA D [some (.loc L),some v1,some (.loc pw),some (enc a),x4] S:=by
 unfold VA;room;rw[h.o,bN]
 refine#[#[rfl,rfl],?_];rwa[ca h2 #[L,sg,bh,en,a,_,rfl,#[da,rfl],h,hp,hb,hl,λS1 p F Z bh1 f1 pl1 g1 la1 r1=>?_]];have g0:=f1.get g pl;room;rw[la1.o,bN]
 refine#[#[rfl,rfl],?_];rw[Bg g0,Bf g1]
 rwa[ca h3 #[L,_,bh1,en,Z0,F,rfl,la1,by rw[r1.len];omega,λp hp=>by rw[r1.len];have:=hz p hp;omega,λS2 bh2 f2 la2 lk=>?_]];room;rwa[ca h4 #[pw,e0,F0,Z0,p,null a,F,Z,rfl,f2.get g0 pl,f2.get g1 pl1,λS3 x3 g3=>?_]];room;have:=la2.len;erw[q _ _ F Z bh1 bh2 _ ((f1.trans f2).trans (Ext.fr x3)) ∅ g3 (la2.ext x3) r1 lk]
theorem VB:sY true 0 0 e F Z=(e,F,Z):=by
 unfold sY;rw[v8,v8]
 cases e<;>rfl
theorem ZE:Vs false 0 0 e F Z=(e,F,Z):=by
 unfold Vs;rw[v8,v8];rfl
theorem Nu(hp:n6 n a/\n6 (n+size a) b)(hb:bh.length=n)(ra:uk a bh Fa Za bh1)(lk2:Vx 0 Fa bh1 bh2)(rb:uk b bh2 Fb Zb bh3)(lk4:Vx Za Fb bh3 bh4):
  uk (.row a b) bh (sY (null a) Fa Za (null b) Fb Zb).2.1 (sY (null a) Fa Za (null b) Fb Zb).2.2 bh4:=by
 have l1:=ra.len;have l2:=rb.len;have l3:=lk2.1;have l4:=lk4.1;have e12:∀q,q<bh1.length->bh2[q]?=bh1[q]?:=λq hq=>by
  let#[B',e1,e2]:=lk2.2 q _ (aa hq);rw[e1,aa hq]
  congr 1
  erw[iw λr=>by simp[e2]]
 have e14:∀q B,q<bh1.length->bh1[q]?=some B->∃B',bh4[q]?=some B'/\∀r,B'.testBit r=(B.testBit r||(Za.testBit q&&Fb.testBit r)):=λq B hq e=>lk4.2 q B (by rw[rb.old q ∅,e12 q hq];erw[e])
 refine#[λp=>?_,λp=>?_,by dsimp[size];omega,λq hq=>?_,λq hq=>?_]
 .dsimp[sY,FS]
  cases null a<;>simp[cK,ra.f,rb.f]
 .dsimp[sY,IN,cont]
  by_cases z:IN a p=true
  .have z2:IN b p=false:=by
    cases e:IN b p with
    |false=>rfl
    |true=>erw[absurd z (fZ hp e)]
   have nb:dU [b]=null b:=by simp[dU]
   dsimp[vO,nb,if_pos z];cases null b<;>simp[cK,ra.z,rb.z,z,z2]
  .have z:IN a p=false:=by simpa using z
   cases null b<;>simp[cK,ra.z,rb.z,z]
 .let#[B',h1,h2]:=e14 q _ ∅ ((ra.old q hq).trans (aa hq))
  rw[h1,aa hq]
  congr 1
  rwa[iw λr=>?_]
  have:IN a q=false:=by
   cases e:IN a q with
   |false=>rfl
   |true=>have:=(fg hp.1).mp e;omega
  rw[h2,ra.z,this];simp
 .by_cases z:IN a q=true
  .let#[B,h1,h2]:=ra.new q z
   have:=(fg hp.1).mp z;let#[B',h3,h4]:=e14 q B ∅ h1;refine#[B',h3,λp=>?_];have ec:cont (.row a b) q=cont a q++[b]:=by dsimp[cont,if_pos z]
   rw[ec,lX,h4,h2,ra.z,rb.f,z]
   simp[nZ]
  .have z2:IN b q=true:=by simpa[IN,z] using hq
   let#[B,h1,h2]:=rb.new q z2;let#[B',h3,h4]:=lk4.2 q B h1;refine#[B',h3,λp=>?_];have z:IN a q=false:=by simpa using z
   rw[h4,ra.z,z,h2]
   simp[cont,z]
theorem VC(Γ:bZ)(d:Nat)(h1:Γ "Part.__init__"=zd)(h2:Γ "Layout.lay"=gU (Tu d))(h3:Γ "Layout.link"=JF)(h4:Γ "one_behind_other"=qC sY):
  Keeps Γ gZ 3 (gU λt u=>∃a b,t=.row a b/\bS a<d/\bS b<d/\u=.tup [enc a,enc b]):=by
 rintro us S Q ⟨L,sg,bh,en,t,u,rfl,⟨a,b,rfl,da,db,rfl⟩,h,hp,hb,hl,q⟩;have hl:sg.length+(size a+size b)<=100:=hl;have hp:n6 sg.length a/\n6 (sg.length+size a) b:=hp;have ll:=fU a;unfold gZ;room;rwa[qc h1 (F:=0) (Z:=0) λS1 x1 g1=>#[rfl,?_]]
 have p1:L+4<=S.length:=h.len;have h':=h.ext x1;generalize S.length=pw at g1 p1;room;refine#[by simp,?_];dsimp[vk];refine#[trivial,Bh Γ h2 h3 h4 da h' hp.1 hb ∅ g1 p1 (by simp) λS2 p2 Fa Za bh1 bh2 x f2 pl2 g2 la2 ra lk2=>?_];rw[VB] at g2;refine#[trivial,Bh Γ h2 h3 h4 db la2 (by rw[az,ll];erw[hp.2]) (by rw[lk2.1,ra.len,hb];simp[ll]) (by simp;omega) g2 pl2 (λp hp'=>?_) λS3 p3 Fb Zb bh3 bh4 x' f3 pl3 g3 la3 rb lk4=>#[trivial,?_]]
 .rw[ra.z,aj] at hp'
  have:=(fg hp.1).mp hp'.1;rw[lk2.1,ra.len];omega
 .room
  exact q _ _ _ _ _ ((Ext.fr x1 |>.trans f2).trans f3) pl3 g3 (by rw[bP] at la3;erw[la3]) (Nu hp hb ra lk2 rb lk4)
theorem RE(hp:n6 n a/\n6 (n+size a) b)(hb:bh.length=n)(ra:uk a bh Fa Za bh1)(rb:uk b bh1 Fb Zb bh2):uk (.or a b) bh (Fa|||Fb) (Za|||Zb) bh2:=by
 have l1:=ra.len;have l2:=rb.len;refine#[λp=>by rw[cK,ra.f,rb.f];rfl,λp=>?_,by dsimp[size];omega,λq hq=>(rb.old q ∅).trans (ra.old q hq),λq hq=>?_]
 .rw[cK,ra.z,rb.z]
  dsimp[IN,cont];by_cases z:IN a p=true
  .have z2:IN b p=false:=by
    cases e:IN b p with
    |false=>rfl
    |true=>erw[absurd z (fZ hp e)]
   simp[z,z2]
  .have z:IN a p=false:=by simpa using z
   simp[z]
 .by_cases z:IN a q=true
  .let#[B,h1,h2]:=ra.new q z
   have:=(fg hp.1).mp z;exact#[B,(rb.old q ∅).trans h1,λp=>by rw[h2];simp[cont,z]]
  .have z2:IN b q=true:=by simpa[IN,z] using hq
   let#[B,h1,h2]:=rb.new q z2;exact#[B,h1,λp=>by rw[h2];simp[cont,z]]
theorem VD(Γ:bZ)(d:Nat)(h1:Γ "Part.__init__"=zd)(h2:Γ "Layout.lay"=gU (Tu d))(h4:Γ "one_or_other"=qC Vs):
  Keeps Γ fu 2 (gU λt u=>∃a b,t=.or a b/\bS a<d/\bS b<d/\u=.tup [enc a,enc b]):=by
 rintro us S Q ⟨L,sg,bh,en,t,u,rfl,⟨a,b,rfl,da,db,rfl⟩,h,hp,hb,hl,q⟩;have hl:sg.length+(size a+size b)<=100:=hl;have hp:n6 sg.length a/\n6 (sg.length+size a) b:=hp;have ll:=fU a;unfold fu;room;rwa[qc h1 (F:=0) (Z:=0) λS1 x1 g1=>#[rfl,?_]]
 have p1:L+4<=S.length:=h.len;have h':=h.ext x1;generalize S.length=pw at g1 p1;room;refine#[by simp,?_];dsimp[vk];refine#[trivial,?_];room;rw[h'.o,bN]
 refine#[#[rfl,rfl],?_];rwa[ca h2 #[L,sg,bh,en,a,_,rfl,#[da,rfl],h',hp.1,hb,∅,λS2 p2 Fa Za bh1 f2 pl2 g2 la2 ra=>?_]];rwa[ca h4 #[pw,_,_,_,p2,_,_,_,rfl,f2.get g1 p1,g2,λS3 x3 g3=>?_]];rw[ZE] at g3;have la3:=la2.ext x3;have p3:=la2.len;generalize S2.length=p3' at g3 p3;room;rw[la3.o,bN]
 refine#[#[rfl,rfl],?_];rwa[ca h2 #[L,_,bh1,en,b,_,rfl,#[db,rfl],la3,by rw[az,ll];erw[hp.2],by rw[ra.len,hb];simp[ll],by simp;omega,λS4 p4 Fb Zb bh2 f4 pl4 g4 la4 rb=>?_]];rwa[ca h4 #[p3',_,_,_,p4,_,_,_,rfl,f4.get g3 p3,g4,λS5 x5 g5=>?_]];have p5:=la4.len;room;exact q _ _ _ _ _ (((((Ext.fr x1).trans f2).trans (Ext.fr x3)).trans f4).trans (Ext.fr x5)) p5 g5 (by have:=la4.ext x5;rw[bP] at this;erw[this]) (RE hp hb ra rb)
noncomputable def F9:Mk->Bool
 |.may=>false
 |_=>true
noncomputable def Ga:Mk->Bool
 |.plus=>false
 |_=>true
structure Ow(t:Tr)(ms:List Mk)(a:Tr):Prop where
 fs:∀p,FS t p=FS a p
 nl:null t=(null a||ms.any Ga)
 ZF:∀p,IN t p=IN a p
 ct:∀p,∃R,cont t p=cont a p++R/\dU R=true/\∀r,nZ R r=(ms.any F9&&FS a r)
 sz:size t=size a
 lv:mU t=mU a
 pl:∀n,n6 n t->n6 n a
theorem Ow.zero(t:Tr):Ow t [] t:=#[λ_=>rfl,by simp,λ_=>rfl,λp=>#[[],by simp,rfl,λr=>by simp[nZ]],rfl,rfl,λ_ h=>h]
theorem Ow.next(h:Ow t ms (.rep m a)):Ow t (ms++[m]) a:=by
 refine#[h.fs,?_,h.ZF,λp=>?_,h.sz,h.lv,h.pl]
 .rw[h.nl]
  cases m<;>simp[null,Ga]
 .let#[R,h1,h2,h3]:=h.ct p
  refine#[more m a++R,by rw[h1];simp[cont],?_,λr=>?_]
  .rw[vO,h2];cases m<;>simp[more,dU,null]
  .rw[lX,h3]
   cases m<;>simp[more,nZ,FS,dU,null,F9]
theorem Eu(k:Ow t ms a)(hp:n6 n a)(hb:bh.length=n)(ra:uk a bh F Z bh1)
  (lk:if ms.any F9=true then Vx Z F bh1 bh2 else bh2=bh1):uk t bh F Z bh2:=by
 have eZ:∀p,dU (cont t p)=dU (cont a p):=λp=>by
  let#[R,h1,h2,_]:=k.ct p;rw[h1,vO,h2,qR]
 have l1:=ra.len;have key:∀(q B:Nat),bh1[q]?=some B->∃B',bh2[q]?=some B'/\∀r,B'.testBit r=(B.testBit r||(ms.any F9&&(Z.testBit q&&F.testBit r))):=λq B e=>by
  split at lk
  .rename_i z
   let#[B',e1,e2]:=lk.2 q B e;exact#[B',e1,λr=>by rw[e2,z,zS]]
  .rename_i z
   subst lk;exact#[B,e,λr=>by simp[fH _ |>.mp z]]
 have l2:bh2.length=bh1.length:=by
  split at lk
  .erw[lk.1]
  .rw[lk]
 refine#[λp=>by rw[ra.f,k.fs],λp=>by rw[ra.z,k.ZF,eZ],by rw[l2,l1,k.sz],λq hq=>?_,λq hq=>?_]
 .let#[B',h1,h2]:=key q _ ((ra.old q hq).trans (aa hq))
  rw[h1,aa hq]
  congr 1
  rwa[iw λr=>?_]
  have:IN a q=false:=by
   cases e:IN a q with
   |false=>rfl
   |true=>have:=(fg hp).mp e;omega
  rw[h2,ra.z,this];simp
 .rw[k.ZF] at hq
  let#[B,h1,h2]:=ra.new q hq;let#[B',h3,h4]:=key q B h1;refine#[B',h3,λp=>?_];let#[R,e1,e2,e3]:=k.ct q;rw[h4,h2,e1,lX,e3,ra.z,ra.f,hq,zS]
  cases nZ (cont a q) p<;>cases dU (cont a q)<;>cases FS a p<;>simp
theorem in3:rn (.str k) [.str k9,.str oS,.str kq] q=q (k9==k||(oS==k||kq==k)):=by
 have:=anyS (a:=k) (l:=[k9,oS,kq]) (q:=q);simpa using this
theorem JG(ms:List Mk)(a b:List Nat):(ms.any λm=>nQ m==a||nQ m==b)=(((ms.map nQ).any (·==a))||((ms.map nQ).any (·==b))):=by
 induction ms with
 |nil=>rfl
 |cons m ms ih=>
  rw[cJ,ay,cJ,cJ,ih]
  cases (nQ m==a)<;>cases (nQ m==b)<;>simp
theorem RF(ms:List Mk):ms.any F9=(((ms.map nQ).any (·==k9))||((ms.map nQ).any (·==oS))):=by
 rw[<-JG]
 congr 1;funext m
 cases m<;>rfl
theorem RG(ms:List Mk):ms.any Ga=(((ms.map nQ).any (·==k9))||((ms.map nQ).any (·==kq))):=by
 rw[<-JG]
 congr 1;funext m
 cases m<;>rfl
theorem Nv(m:Mk):(k9==nQ m||(oS==nQ m||kq==nQ m))=true:=by cases m<;>rfl
noncomputable def Xu:dh:=#v[.set 5 (.or (.fld @4 "empty") (.or (.cmp .isin ↑[115,116,97,114] @2) (.cmp .isin ↑[109,97,121,98,101] @2))),.ret (.mk "Part" "Part.__init__" #v[@5,.fld @4 "firsts",.fld @4 "lasts"])]
noncomputable def ZG:dh:=#v[.ex (.cL "Layout" "link" "Layout.link" @0 #v[.fld @4 "lasts",.fld @4 "firsts"])]
def ZH:dh:=(.cons (.set 4 (.cL "Layout" "lay" "Layout.lay" @0 #v[@3])) (.cons (.ifs (.or (.cH (.cmp .isin ↑[115,116,97,114] @2)) (.cH (.cmp .isin ↑[112,108,117,115] @2))) ZG .nil) Xu))
theorem VE(Γ:bZ)(d:Nat)(hd:d<=100)(h1:Γ "Part.__init__"=zd)(h2:Γ "Layout.lay"=gU (Tu d))(h3:Γ "Layout.link"=JF):
  Keeps Γ fw 4 (gU λt u=>∃m a,t=.rep m a/\bS a<d/\u=enc t):=by
 rintro us S Q ⟨L,sg,bh,en,t,u,rfl,⟨m0,a0,et,da,rfl⟩,h,hp,hb,hl,q⟩;have sl:=h.len;have fin:∀(ms:List Mk)(a:Tr)(S2:bJ),Ow t ms a->bS a<d->(∀n,n<S.length->S2[n]?=S[n]?)->S2[S.length]?=some (.lst (ms.map λm=>U.str (nQ m)))->Rest Γ ZH #[λ_ S1=>Q .bV S1,Q] [some (.loc L),some (enc t),some (.loc S.length),some (enc a),none,none] S2:=by
  intro ms a S2 mk da e2 g2;have x2:Ext S S2:=#[bA (aN g2),e2]
  have la:=h.ext x2;have sz:=mk.sz;have hpa:=mk.pl _ hp;unfold ZH;room;rw[la.o,bN]
  refine#[#[rfl,rfl],?_];rwa[ca h2 #[L,sg,bh,en,a,_,rfl,#[da,rfl],la,hpa,hb,∅,λS3 p F Z bh1 f3 pl3 g3 la3 ra=>?_]];have gm:∀S4,Fr L S3 S4->S4[S.length]?=some (.lst ((ms.map nQ).map .str)):=λS4 f4=>by rw[bz];erw[f4.get (f3.get g2 sl) sl]
  have fin2:∀S4 bh2,Fr L S3 S4->rT S4 L (sg++mU a) bh2 en->uk t bh F Z bh2->Rest Γ Xu #[λ_ S1=>Q .bV S1,Q] [some (.loc L),some (enc t),some (.loc S.length),some (enc a),some (.loc p),none] S4:=by
   intro S4 bh2 f4 la4 r4;have g4:=f4.get g3 pl3;have en4:∀e,e=null t->Rest Γ (.cons (.ret (.mk "Part" "Part.__init__" (.cons @5 (.cons (.fld @4 "firsts") (.cons (.fld @4 "lasts") .nil))))) .nil) #[λ_ S1=>Q .bV S1,Q] [some (.loc L),some (enc t),some (.loc S.length),some (enc a),some (.loc p),some (.bl e)] S4:=by
    rintro e rfl;room;rw[Bf g4,Bg g4]
    rwa[qc h1 λS5 x5 g5=>#[rfl,?_]]
    erw[q _ _ _ _ _ (((Ext.fr x2).trans f3).trans (f4.trans (Ext.fr x5))) la4.len g5 (by rw[mk.lv];exact la4.ext x5) r4]
   have nl:=mk.nl;rw[RG] at nl;unfold Xu;room;rw[F8 g4]
   room;rw[gm S4 f4]
   dsimp[aD,anyS,H0];cases e1:null a<;>cases e2:(ms.map nQ).any (·==k9)<;>dsimp[e1,e2,ag,if_false,if_true,aD,anyS]<;>refine en4 _ ?_<;>rw[nl,e1,e2]<;>simp
  have hs:=RF ms;have lnk:ms.any F9=true->Rest Γ ZG #[λen S4=>Rest Γ Xu #[λ_ S1=>Q .bV S1,Q] en S4,Q] [some (.loc L),some (enc t),some (.loc S.length),some (enc a),some (.loc p),none] S3:=by
   intro z;unfold ZG;room;rw[la3.o,bN]
   refine#[#[rfl,rfl],?_];rw[Bg g3,Bf g3]
   rwa[ca h3 #[L,_,bh1,en,Z,F,rfl,la3,by rw[ra.len];omega,λp hp'=>?_,λS4 bh2 f4 la4 lk=>?_]]
   .rw[ra.z,aj] at hp'
    have:=(fg hpa).mp hp'.1;rw[ra.len];omega
   .erw[Rest.go (fin2 S4 bh2 f4 la4 (Eu mk hpa hb ra (by rw[if_pos z];exact lk)))]
  room;rw[gm S3 .refl]
  dsimp[aD,anyS];cases e1:(ms.map nQ).any (·==k9)<;>cases e2:(ms.map nQ).any (·==oS)<;>rw[e1,e2] at hs<;>dsimp[e1,e2,ag,if_false,if_true,aD,anyS]
  .erw[Rest.go (fin2 S3 bh1 .refl la3 (Eu mk hpa hb ra (by rw[if_neg (by simp[hs])])))]
  .erw[lnk hs]
  .erw[lnk hs]
  .erw[lnk hs]
 unfold fw;room;refine#[by simp,?_];room;have x0:Ext S (S++[SO.lst []]):=Ext.app _;have g0:(S++[SO.lst []])[S.length]?=some (.lst (([]:List Mk).map λm=>U.str (nQ m))):=by simp
 have dt:bS t<=d:=by rw[et];erw[da]
 refine#[bS t+1,nP (λn env S2=>∃ms a,n=bS a/\Ow t ms a/\(a=t\/bS a<d)/\ms.length+bS a<=200/\env=[some (.loc L),some (enc t),some (.loc S.length),some (enc a),none,none]/\(∀n,n<S.length->S2[n]?=S[n]?)/\S2[S.length]?=some (.lst (ms.map λm=>U.str (nQ m)))) ?_ _ (bS t) _ _ ∅ #[[],t,rfl,.zero t,.inl rfl,by simp;omega,rfl,x0.2,g0]];rintro n env S2 K ⟨ms,a,rfl,mk,hda,hms,rfl,e2,g2⟩ hK;have out:(∀m a',a≠.rep m a')->bS a<d:=λz=>by
  rcases hda with rfl|z2
  .erw[absurd et (z m0 a0)]
  .erw[z2]
 have stop:∀k x,enc a=.tup [.str k,x]->(k9==k||(oS==k||kq==k))=false->bS a<d->WT Γ (.cH (.cmp .isin (.ix @3 ↑0) (.tup (.cons ↑[115,116,97,114] (.cons ↑[112,108,117,115] (.cons ↑[109,97,121,98,101] .nil)))))) [some (.loc L),some (enc t),some (.loc S.length),some (enc a),none,none] S2
   (λt1 S1=>if t1=true then Rest Γ (.cons (.ex (.jt .append @2 (.cons (.ix @3 ↑0) .nil))) (.cons (.set 3 (.ix @3 ↑1)) .nil)) #[K,Q] [some (.loc L),some (enc t),some (.loc S.length),some (enc a),none,none] S1 else Rest Γ ZH #[λ_ S1=>Q .bV S1,Q] [some (.loc L),some (enc t),some (.loc S.length),some (enc a),none,none] S1):=by
  intro k x ek ek2 da;have:=fin ms a S2 mk da e2 g2;rw[ek] at this ⊢;room;rw[qx,bg]
  refine#[by simp,by simp,?_];rw[in3,ek2]
  erw[this]
 cases a with
 |one k l=>erw[stop _ _ rfl rfl (out λ_ _ z=>nomatch z)]
 |row a b=>erw[stop _ _ rfl rfl (out λ_ _ z=>nomatch z)]
 |or a b=>erw[stop _ _ rfl rfl (out λ_ _ z=>nomatch z)]
 |rep m a=>
  have ek:enc (.rep m a)= .tup [.str (nQ m),enc a]:=rfl;have dr:bS (.rep m a)=bS a+1:=rfl;rw[ek]
  room;rw[qx,bg]
  refine#[by simp,by simp,?_];rw[in3,Nv]
  room;rw[g2]
  dsimp[aD,qx,me,bg];refine#[trivial,by simp,by simp;omega,?_];room;dsimp[me,bg];refine#[by simp,?_];try room
  refine hK (bS a) _ _ ∅ #[ms++[m],a,rfl,mk.next,.inr (by rcases hda with rfl|z<;>omega),by simp;omega,rfl,λn hn=>?_,by rw[gs g2];simp];rw[ao ∅];exact e2 n hn
section
variable{Γ:bZ}{D:Ends}{env:Env}{S:bJ}{i:Nat}{k k':List Nat}{x:U}{a b ss:dh}
theorem rW(h:env[i]?=some (some (.tup [.str k,x])))(e:(k==k')=true)(q:Rest Γ a #[λen S1=>Rest Γ ss D en S1,D.rt] env S):Rest Γ (.cons (.ifs (.cH (.cmp .eq (.ix (.var i) ↑0) (.lit (.str k')))) a b) ss) D env S:=by
 room;rw[h]
 dsimp[xv,DZ,qx,bg,Od,UJ,e,if_true];exact#[by simp,q]
theorem ji(h:env[i]?=some (some (.tup [.str k,x])))(e:(k==k')=false)(q:Rest Γ ss D env S):Rest Γ (.cons (.ifs (.cH (.cmp .eq (.ix (.var i) ↑0) (.lit (.str k')))) a .nil) ss) D env S:=by
 room;rw[h]
 dsimp[xv,DZ,qx,bg,Od,UJ,e,ag,if_false];exact#[by simp,q]
end
theorem RH(Γ:bZ)(d:Nat)(h1:Γ "Layout.lay_place"=gU λt u=>∃n l,t=.one n l/\u=.str l)(h2:Γ "Layout.lay_row"=gU λt u=>∃a b,t=.row a b/\bS a<d/\bS b<d/\u=.tup [enc a,enc b])
  (h3:Γ "Layout.lay_choice"=gU λt u=>∃a b,t=.or a b/\bS a<d/\bS b<d/\u=.tup [enc a,enc b]) (h4:Γ "Layout.lay_repeat"=gU λt u=>∃m a,t=.rep m a/\bS a<d/\u=enc t):Keeps Γ kH 0 (gU (Tu (d+1))):=by
 rintro us S Q ⟨L,sg,bh,en,t,u,rfl,⟨dt,rfl⟩,h,hp,hb,hl,q⟩;unfold kH;cases t with
 |one n l=>
  rwa[rW rfl rfl ?_];dsimp[enc];room;rw[h.o,bN,me]
  exact#[#[rfl,rfl],by simp,ca h1 #[L,sg,bh,en,_,_,rfl,#[n,l,rfl,rfl],h,hp,hb,hl,q]]
 |row a b=>
  have dt:max (bS a) (bS b)+1<d+1:=dt;rwa[ji rfl rfl (rW rfl rfl ?_)];dsimp[enc];room;rw[h.o,bN,me]
  exact#[#[rfl,rfl],by simp,ca h2 #[L,sg,bh,en,_,_,rfl,#[a,b,rfl,∅,∅,rfl],h,hp,hb,hl,q]]
 |or a b=>
  have dt:max (bS a) (bS b)+1<d+1:=dt;rwa[ji rfl rfl (ji rfl rfl (rW rfl rfl ?_))];dsimp[enc];room;rw[h.o,bN,me]
  exact#[#[rfl,rfl],by simp,ca h3 #[L,sg,bh,en,_,_,rfl,#[a,b,rfl,∅,∅,rfl],h,hp,hb,hl,q]]
 |rep m a=>
  have dt:bS a+1<d+1:=dt;have k1:(nQ m==Nj)=false/\(nQ m==Dc)=false/\(nQ m==SY)=false:=by cases m<;>exact#[rfl,rfl,rfl]
  rwa[ji rfl k1.1 (ji rfl k1.2.1 (ji rfl k1.2.2 ?_))];room;rw[h.o,bN]
  exact#[#[rfl,rfl],ca h4 #[L,sg,bh,en,_,_,rfl,#[m,a,rfl,∅,rfl],h,hp,hb,hl,q]]
noncomputable def mi(f:List Nat->Bool)(sg:List (List Nat))(p:Nat):Bool:=((sg[p]?).map f).getD false
theorem xT(f:List Nat->Bool)(sg:List (List Nat))(hg:g S)(hl:sg.length<=100)
  (hc:∀(i:Nat)l k,k (f l) S->c (.tup [aU i,.str l]) S k) (he:∀(i:Nat)l k,i<=100->k (aU (1<<<i)) S->e (.tup [aU i,.str l]) S k)
  (q:∀(is:List Int)(b:Nat),is.sum=b->(∀p,b.testBit p=mi f sg p)->Q (is.map .int) S):nY g c e Q ((sg.map U.str).mapIdx λi u=>.tup [.int (i:Nat),u]) [] S:=by
 rwa[iF _ (λi acc S'=>S'=S/\∃(is:List Int)(b:Nat),acc=is.map .int/\is.sum=b/\b<2^i/\is.length<=i/\∀p,b.testBit p=(decide (p<i)&&mi f sg p)) (λi acc S' hi h=>?_) (λi u acc S' k hu hi hk=>?_) (λacc S' h=>?_) #[rfl,[],0,rfl,rfl,by simp,by simp,by simp]]
 .let#[rfl,is,b,rfl,_,_,hl',_]:=h
  simp at hi;exact#[hg,by simp;omega]
 .let#[rfl,is,b,rfl,h1,h2,h3,h4]:=hi
  dsimp[fh,aB] at hu;cases es:sg[i]? with
  |none=>rw[es] at hu;simp at hu
  |some l=>
   rw[es] at hu;dsimp[kr,pO] at hu;subst hu;have il:=(ae.mp es).1;have hi:mi f sg i=f l:=by unfold mi;rw[es];rfl
   rwa[hc i l _ ?_];cases z:f l with
   |false=>
    rw[if_neg (by simp)]
    rwa[hk _ _ #[rfl,is,b,rfl,h1,by rw[gh];omega,∅,λp=>?_]];rw[h4]
    by_cases zp:p=i
    .subst zp;simp[hi,z]
    .have:(p<i)↔(p<i+1):=∅
     dsimp[this]
   |true=>
    rw[if_pos rfl]
    rwa[he i l _ ∅ (hk _ _ #[rfl,is++[((1<<<i:Nat):Int)],2^i+b,by simp,?_,by rw[gh];omega,by simp;omega,λp=>?_])]
    .rw[Lc,h1,t4];simp;omega
    .by_cases zp:p=i
     .subst zp
      rw[Nat.testBit_two_pow_add_eq,B4 h2];simp[hi,z]
     .by_cases zl:p<i
      .rw[Nat.testBit_two_pow_add_gt zl,h4]
       simp[zl,bf zl]
      .rw[B4 (av (show 2^i+b<2^(i+1) by rw[gh];omega) (bw ∅ ∅))]
       have:¬p<i+1:=∅
       simp[this]
 .let#[rfl,is,b,rfl,h1,_,_,h4]:=h
  rwa[q is b h1 λp=>?_]
  rw[h4]
  dsimp[lH,ak];by_cases z:p<sg.length
  .simp[z]
  .unfold mi
   rw[cV ∅];simp
theorem vP(h:mi f sg p=true):∃l,sg[p]?=some l/\f l=true:=by
 unfold mi at h;cases e:sg[p]? with
 |none=>rw[e] at h;simp at h
 |some l=>rw[e] at h;exact#[l,rfl,h]
def Oy:Spec:=λus S Q=>∃L sg bh en c,us=[.loc L,.str [c]]/\rT S L sg bh en/\sg.length<=100/\∀(b:Nat)S',Ext S S'->(∀p,b.testBit p=mi (·.contains c) sg p)->Q (aU b) S'
theorem RI(Γ:bZ):Keeps Γ fT 0 Oy:=by
 rintro us S Q ⟨L,sg,bh,en,c,rfl,h,hl,q⟩;unfold fT;room;rw[JD h]
 room;rw[h.s,aD]
 rwa[xT (·.contains c) sg h.s hl (λi l k z=>?_) (λi l k hi z=>?_) λis b e hb=>?_]
 .room
  erw[z]
 .room
  exact#[∅,z]
 .exact#[is,by simp,by rw[e];erw[q b _ (Ext.app _) hb]]
noncomputable def ze(l:List Nat):Bool:=!(l==[])
def wt(sg:List (List Nat))(bh en:List Nat)(P:Nat->Prop):Prop:=(∀(Z p:Nat),Z∈en->Z.testBit p=true->mi ze sg p=true->P p)/\∀(q B p:Nat),mi ze sg q=true->bh[q]?=some B->B.testBit p=true->P p->P q
structure GO(sg:List (List Nat))(bh en:List Nat)(u:Nat):Prop where
 e:∀(Z p:Nat),Z∈en->Z.testBit p=true->mi ze sg p=true->u.testBit p=true
 b:∀(q B p:Nat),mi ze sg q=true->bh[q]?=some B->B.testBit p=true->u.testBit p=true->u.testBit q=true
 m:∀P,wt sg bh en P->∀p,u.testBit p=true->P p
def VF:Spec:=λus S Q=>∃L sg bh en,us=[.loc L]/\rT S L sg bh en/\sg.length<=100/\bh.length=sg.length/\∀(u:Nat)S',Ext S S'->GO sg bh en u->Q (aU u) S'
theorem VG(Γ:bZ)(h1:Γ "members"=Be):Keeps Γ iK 5 VF:=by
 rintro us S Q ⟨L,sg,bh,en,rfl,h,hl,hb,q⟩;unfold iK;room;rw[JD h]
 room;rw[h.s,aD]
 rwa[xT ze sg h.s hl (λi l k z=>?_) (λi l k hi z=>?_) λis T e hT=>#[is,by simp,?_]]
 .room
  erw[z]
 .room
  exact#[∅,z]
 rw[e]
 have x0:Ext S (S++[SO.lst (is.map U.int)]):=Ext.app _;have h':=h.ext x0;generalize S++[SO.lst (is.map U.int)]=S0 at x0 h';have Tlt:∀p,T.testBit p=true->p<sg.length:=λp hp=>by
  rw[hT] at hp;let#[l,e,_]:=vP hp;exact(ae.mp e).1
 have Tl:T<2^sg.length:=jI Tlt;room;rw[RA h']
 room;rw[h'.e,aD]
 refine cx (λi env S2=>S2=S0/\∃(gr:Nat)(x3:Option U),env=[some (.loc L),some (aU T),some (aU gr),x3,none,none]/\gr<2^sg.length/\(∀(Z p:Nat),Z∈en.take i->Z.testBit p=true->T.testBit p=true->gr.testBit p=true)/\∀P,wt sg bh en P->∀p,gr.testBit p=true->P p) (λi env S2 z=>z.1▸h'.e) _ ?_ ?_ #[rfl,0,none,rfl,Nat.two_pow_pos _,by simp,λP _ p z=>by simp at z]
 .rintro i u env S2 K hu ⟨rfl,gr,x3,rfl,hgr,inv,only⟩ hK
  let#[Z,hZ,rfl]:=d6 hu;room;have et:=GN hZ;rwa[hK _ _ #[rfl,gr|||(Z&&&T),_,rfl,KI hgr (jI λp hp=>?_),λZ' p m h1 h2=>?_,λP cl p hp=>?_]]
  .rw[bB,aj] at hp;erw[Tlt p hp.2]
  .rw[et] at m
   rw[cK,bB]
   rcases aL.mp m with m|m
   .rw[inv Z' p m h1 h2];rfl
   .simp at m;subst m;rw[h1,h2];simp
  .rw[cK,bB,bu,aj] at hp
   rcases hp with hp|⟨z1,z2⟩
   .erw[only P cl p hp]
   .erw[cl.1 Z p (af hZ) z1 (by rw[<-hT];exact z2)]
 .rintro env S2 ⟨rfl,gr,x3,rfl,hgr,inv,only⟩
  room;rw[ak,bY] at inv;have out:∀{S3:bJ}{u:Nat},Ext S S3->(∀p,gr.testBit p=true->u.testBit p=true)->(∀(q B p:Nat),T.testBit q=true->bh[q]?=some B->B.testBit p=true->u.testBit p=true->u.testBit q=true)->(∀P,wt sg bh en P->∀p,u.testBit p=true->P p)->Q (aU u) S3:=λx3 a b c=>
   q _ _ x3 #[λZ p m z1 z2=>a p (inv Z p m z1 (by rw[hT];erw[z2])),λq B p z1=>b q B p (by rw[hT];erw[z1]),c]
  refine#[2^sg.length+1,nP (λn env S3=>∃(g2 u:Nat)(x3 x5:Option U),n=2^sg.length-u/\env=[some (.loc L),some (aU T),some (aU g2),x3,some (aU u),x5]/\Ext S S3/\rT S3 L sg bh en/\u<=g2/\g2<2^sg.length/\(∀p,gr.testBit p=true->g2.testBit p=true) /\
   (∀(q B p:Nat),T.testBit q=true->bh[q]?=some B->B.testBit p=true->u.testBit p=true->g2.testBit q=true)/\∀P,wt sg bh en P->∀p,g2.testBit p=true->P p) ?_ _ (2^sg.length) _ _ ∅ #[gr,0,x3,none,∅,rfl,x0,h',∅,hgr,λ_ z=>z,λq B p _ _ _ z=>by simp at z,only]]
  rintro n env S3 K ⟨g2,u,x3,x5,rfl,rfl,x3',h3,hu,hg,ia,ib,ic⟩ hK;room;by_cases z:g2=u
  .subst z
   dsimp[beq_self_eq_true,a9,ag,if_false];room;erw[out x3' ia ib ic]
  .have:((g2:Int)== (u:Int))=false:=by
    rw[beq_eq_false_iff_ne];omega
   dsimp[this,bK,if_true];room;rwa[ca h1 #[T,rfl,av Tl (bw ∅ hl),λm S4 x4 hm g4=>?_]];room;rw[g4,aD]
   have h4:=h3.ext x4;refine cx (λi env S5=>S5=S4/\∃(g3:Nat)(x5:Option U),env=[some (.loc L),some (aU T),some (aU g3),x3,some (aU g2),x5]/\g2<=g3/\g3<2^sg.length/\(∀p,g2.testBit p=true->g3.testBit p=true) /\
    (∀(q B p:Nat),q∈(Dh T).take i->bh[q]?=some B->B.testBit p=true->g2.testBit p=true->g3.testBit q=true)/\∀P,wt sg bh en P->∀p,g3.testBit p=true->P p) (λi env S5 z=>z.1▸g4) _ ?_ ?_ #[rfl,g2,x5,rfl,aq _,hg,λ_ z=>z,by simp,ic]
   .rintro i v env S5 K' hv ⟨rfl,g3,x5,rfl,j1,j2,j3,j4,j5⟩ hK'
    let#[p,hp,rfl]:=d6 hv;have pT:=lg.mp (af hp);have pl:=Tlt p pT;have et:=GN hp;room;rw[JE h4]
    room;rw[h4.b,aD,jN]
    rwa[uC (aa ∅) ?_];room;by_cases w:(((bh[p]'∅&&&g2:Nat):Int) !=0)=true
    .rw[if_pos w]
     room;refine#[∅,?_];try room
     rwa[hK' _ _ #[rfl,g3|||1<<<p,_,rfl,aH j1 Nat.left_le_or,KI j2 (jI λr hr=>?_),λr hr=>by rw[cK,j3 r hr];rfl,λq B r m e1 e2 e3=>?_,λP cl r hr=>?_]]
     .rw[rV] at hr;have:=eq_of_beq hr;omega
     .rw[et] at m
      rw[cK,rV]
      rcases aL.mp m with m|m
      .rw[j4 q B r m e1 e2 e3];rfl
      .simp at m;subst m;simp
     .rw[cK,rV,bu] at hr
      rcases hr with hr|hr
      .erw[j5 P cl r hr]
      .have:=eq_of_beq hr
       subst this;let#[s,hs]:=zc.mp w;rw[bB,aj] at hs;erw[cl.2 _ _ s (by rw[<-hT];exact pT) (aa ∅) hs.1 (ic P cl s hs.2)]
    .rw[if_neg w]
     room;rwa[hK' _ _ #[rfl,g3,_,rfl,j1,j2,j3,λq B r m e1 e2 e3=>?_,j5]];rw[et] at m;rcases aL.mp m with m|m
     .erw[j4 q B r m e1 e2 e3]
     .simp at m;subst m
      rwa[absurd (zc.mpr #[r,?_]) w];rw[aa ∅] at e1;injection e1 with e1
      rw[e1,bB,e2,e3];rfl
   .rintro env S5 ⟨rfl,g3,x5,rfl,j1,j2,j3,j4,j5⟩
    rw[ak,bY] at j4;room;erw[hK (2^sg.length-g2) _ _ ∅ #[g3,g2,_,_,rfl,rfl,x3'.trans x4,h4,j1,j2,λp hp=>j3 p (ia p hp),λq B p z1=>j4 q B p (lg.mpr z1),j5]]
noncomputable def kc(f:List Nat->Bool):List (List Nat)->Nat
 |[]=>0
 |l::r=>(if f l=true then 1 else 0)+2*kc f r
theorem mK:∀{sg:List (List Nat)}{p:Nat},(kc f sg).testBit p=mi f sg p
 |[],p=>by simp[kc,mi]
 |l::r,0=>by
  unfold kc mi;rw[Nat.testBit_zero]
  cases z:f l<;>simp[z]<;>omega
 |l::r,p+1=>by
  unfold kc;have e:((if f l=true then 1 else 0)+2*kc f r)/2=kc f r:=by split<;>omega
  rw[Nat.testBit_succ,e,mK]
  rfl
section
variable{S S1 S2:bJ}{r n:Nat}{o:SO}
theorem ou(a:Old r S S1)(h:S[n]?=some o)(ne:n≠r):S1[n]?=some o:=(a.2 n (aN h) ne).trans h
theorem VH(a:Old r S S1)(b:Ext S1 S2):Old r S S2:=a.trans (Ext.old b)
theorem Gb{c f:String}{fs:List (String×U)}{v:U}{K:bJ->Prop}(h:S[r]?=some (.ins c fs))(hl:fs.length<100)(q:∀S',Old r S S'->S'.length=S.length->S'[r]?=some (.ins c (gX f v fs))->K S'):
  qw S[r]? λc fs=>fs.length<100/\K (S.set r (.ins c (gX f v fs))):=by
 rw[h,bN]
 exact#[hl,q _ (lC.set h).old (by simp) (gs h)]
end
structure JH(S:bJ)(P:Nat)(bh en:List Nat)(tk:Nat->Nat):Prop where
 o:∃b e k,S[P]?=some (.ins "Places" [("behind",.loc b),("ends",.loc e),("takers",.loc k)])/\S[b]?=some (.lst (bh.map aU))/\S[e]?=some (.lst (en.map aU))/\S[k]?=some (.eI (SG.map λc=>(.str [c],aU (tk c))))
theorem JH.ext{S S':bJ}{P:Nat}{bh en:List Nat}{tk:Nat->Nat}(h:JH S P bh en tk)(x:Ext S S'):JH S' P bh en tk:=by
 let#[b,e,k,h1,h2,h3,h4]:=h.o;exact#[b,e,k,x.get h1,x.get h2,x.get h3,x.get h4]
def JI:Spec:=λus S Q=>∃P L sg bh en,us=[.loc P,.loc L]/\S[P]?=some (.ins "Places" [])/\S.length=P+1/\rT S L sg bh en/\sg.length<=100/\bh.length=sg.length/\en.length<=100 /\
 ∀u S',GO sg bh en u->(∀n,n<P->S'[n]?=S[n]?)->JH S' P (bh.map (·&&&u)) en (λc=>kc (·.contains c) sg)->Q .bV S'
theorem Oz:(SG.map λc=>[c]).Nodup:=⋯
theorem VI(Γ:bZ)(h1:Γ "useful_places"=VF)(h2:Γ "places_that_take"=Oy):Keeps Γ jX 1 JI:=by
 rintro us S Q ⟨P,L,sg,bh,en,rfl,hP,hs,h,hl,hb,he,q⟩;unfold jX;have nd:=Oz;generalize hG:SG=G at nd;have gl:G.length=95:=by rw[<-hG];rfl
 room;refine ca h1 #[L,sg,bh,en,rfl,h,hl,hb,λu S1 x1 hu=>?_];have la:=h.ext x1;have hP1:=x1.get hP;have ne:L+4<=P:=by
  have:=h.len;have n0:¬L=P:=λz=>by rw[z] at h;rw[h.o] at hP;simp at hP
  have n1:¬L+1=P:=λz=>by rw[<-z,h.s] at hP;simp at hP
  have n2:¬L+2=P:=λz=>by rw[<-z,h.b] at hP;simp at hP
  have n3:¬L+3=P:=λz=>by rw[<-z,h.e] at hP;simp at hP
  omega
 room;rw[JE la]
 room;rw[la.b,aD]
 refine xS (S:=S1) _ (λ_=>true) (λv=>match v with|.int i=>aU (i.toNat&&&u)|v=>v) la.b (by simp;omega) (λv k _ z=>z.1 rfl) (λv k hv _ z=>?_) ?_
 .let#[B,_,rfl]:=bG.mp hv
  room;erw[z]
 have e1:(List.filter (λ_=>true) (bh.map aU)).map (λv=>match v with|.int i=>aU (i.toNat&&&u)|v=>v)=(bh.map (·&&&u)).map aU:=by
  rw[List.filter_eq_self.mpr (λ_ _=>rfl),bz,bz];rfl
 rw[e1]
 have x2:Ext S1 (S1++[SO.lst ((bh.map (·&&&u)).map aU)]):=Ext.app _;have g2:(S1++[SO.lst ((bh.map (·&&&u)).map aU)])[S1.length]?=some (.lst ((bh.map (·&&&u)).map aU)):=by simp
 have n2:S1.length≠P:=by have:=x1.1;omega
 generalize S1.length=b at g2 n2;generalize S1++[SO.lst ((bh.map (·&&&u)).map aU)]=S2 at g2 x2;rwa[Gb (x2.get hP1) (by simp) λS3 o3 l3 hP3=>?_]
 have la3:rT S3 L sg bh en:=by
  have:=la.ext x2;exact#[ou o3 this.o ∅,ou o3 this.s ∅,ou o3 this.b ∅,ou o3 this.e ∅]
 have g3:=ou o3 g2 n2;have o13:=(Ext.old (r:=P) (x1.trans x2)).trans o3;room;rw[RA la3]
 room;rw[la3.e,aD]
 have x4:Ext S3 (S3++[SO.lst (en.map aU)]):=Ext.app _;have g4:(S3++[SO.lst (en.map aU)])[S3.length]?=some (.lst (en.map aU)):=by simp
 have n4:S3.length≠P:=by have:=o13.1;omega
 generalize S3.length=e at g4 n4;generalize S3++[SO.lst (en.map aU)]=S4 at g4 x4;rwa[Gb (x4.get hP3) (by simp[gX]) λS5 o5 l5 hP5=>?_]
 have la5:rT S5 L sg bh en:=by
  have:=la3.ext x4;exact#[ou o5 this.o ∅,ou o5 this.s ∅,ou o5 this.b ∅,ou o5 this.e ∅]
 have o15:=(VH o13 x4).trans o5;have g35:=ou o5 (x4.get g3) n2;have g45:=ou o5 g4 n4;room;rwa[iF _ (λi acc S6=>i<=G.length/\Ext S5 S6/\acc=(G.take i).map λc=>.tup [.str [c],aU (kc (·.contains c) sg)]) (λi acc S6 hi z=>#[trivial,?_]) (λi v acc S6 k hv hi hk=>?_) (λacc S6 z=>?_) #[∅,.refl,rfl]]
 .rw[z.2.2];simp;omega
 .let#[_,x6,rfl]:=hi
  let#[c,hc,rfl]:=d6 hv;have et:=GN hc;room;rwa[ca h2 #[L,sg,bh,en,c,rfl,la5.ext x6,hl,λb S7 x7 hb=>#[by simp,?_]]];have eb:b=kc (·.contains c) sg:=iw λp=>by rw[hb,mK]
  subst eb;erw[hk _ _ #[(ae.mp hc).1,x6.trans x7,by rw[et,aK];rfl]]
 let#[_,x6,rfl]:=z;rw[ak,bY]
 refine#[G.map λc=>([c],aU (kc (·.contains c) sg)),by simp[dk],by rw[bz];erw[nd],?_];rw[bz]
 have x7:Ext S6 (S6++[SO.lst (G.map λc=>.tup [.str [c],aU (kc (·.contains c) sg)])]++[SO.eI (G.map ((λp=>(U.str p.1,p.2))∘λc=>([c],aU (kc (·.contains c) sg))))]):=(Ext.app _).trans (Ext.app _);have g7:(S6++[SO.lst (G.map λc=>.tup [.str [c],aU (kc (·.contains c) sg)])]++[SO.eI (G.map ((λp=>(U.str p.1,p.2))∘λc=>([c],aU (kc (·.contains c) sg))))])[(S6++[SO.lst (G.map λc=>.tup [.str [c],aU (kc (·.contains c) sg)])]).length]?=some (.eI (G.map λc=>(.str [c],aU (kc (·.contains c) sg)))):=by
  rw[aw (aq _),bR];rfl
 have n7:(S6++[SO.lst (G.map λc=>.tup [.str [c],aU (kc (·.contains c) sg)])]).length≠P:=by
  have:=o15.1;have:=x6.1;rw[az];omega
 generalize (S6++[SO.lst (G.map λc=>.tup [.str [c],aU (kc (·.contains c) sg)])]).length=k at g7 n7;generalize S6++[SO.lst (G.map λc=>.tup [.str [c],aU (kc (·.contains c) sg)])]++[SO.eI (G.map ((λp=>(U.str p.1,p.2))∘λc=>([c],aU (kc (·.contains c) sg))))]=S7 at g7 x7;rwa[Gb ((x6.trans x7).get hP5) (by simp[gX]) λS8 o8 l8 hP8=>?_]
 room;subst hG;erw[q u S8 hu (λn hn=>((VH o15 (x6.trans x7)).trans o8).2 n ∅ ∅) #[b,e,k,hP8,ou o8 ((x6.trans x7).get g35) n2,ou o8 ((x6.trans x7).get g45) n4,ou o8 g7 n7]]
def RJ(bh:List Nat)(h r:Nat):Prop:=∀p,r.testBit p=true↔∃q B,h.testBit q=true/\bh[q]?=some B/\B.testBit p=true
def JJ:Spec:=λus S Q=>∃P bh en tk h,us=[.loc P,aU h]/\JH S P bh en tk/\bh.length<=100/\(∀p,h.testBit p=true->p<bh.length)/\∀r S',RJ bh h r->Ext S S'->Q (aU r) S'
theorem VJ(Γ:bZ)(h1:Γ "members"=Be):Keeps Γ iL 2 JJ:=by
 rintro us S Q ⟨P,bh,en,tk,h,rfl,pa,hl,hh,q⟩;unfold iL;room;rwa[ca h1 #[h,rfl,av (jI hh) (bw ∅ hl),λn S1 x1 hn g1=>?_]];let#[b,e,k,o,gb,_,_]:=(pa.ext x1).o;have fb:∀{r},om (.loc P) "behind" S1 r=r (.loc b):=by intro r;rw[iC,o];rfl
 room;rw[g1,aD]
 rwa[cx (λi env S2=>S2=S1/\∃(r:Nat)(x3:Option U),env=[some (.loc P),some (aU h),some (aU r),x3]/\∀p,r.testBit p=true↔∃q B,q∈(Dh h).take i/\bh[q]?=some B/\B.testBit p=true) (λi env S2 z=>z.1▸g1) _ ?_ ?_ #[rfl,0,none,rfl,by simp]]
 .rintro i u env S2 K hu ⟨rfl,r,x3,rfl,inv⟩ hK
  let#[p,hp,rfl]:=d6 hu;have pl:=hh p (lg.mp (af hp));have et:=GN hp;room;rw[fb]
  room;rw[gb,aD,jN]
  rwa[uC (aa pl) ?_];room;rwa[hK _ _ #[rfl,_,_,rfl,λp'=>?_]];rw[cK,bu,inv,et]
  constructor
  .rintro(⟨q,B,m,e1,e2⟩|e2)
   .exact#[q,B,bp _ m,e1,e2]
   .exact#[p,_,ba _ (by simp),aa pl,e2]
  .rintro⟨q,B,m,e1,e2⟩
   rcases aL.mp m with m|m
   .erw[.inl #[q,B,m,e1,e2]]
   .simp at m;subst m
    rw[aa pl] at e1;injection e1 with e1
    erw[.inr (by rw[e1];exact e2)]
 .rintro env S2 ⟨rfl,r,x3,rfl,inv⟩
  room;rwa[q r _ (λp=>?_) x1];rw[inv,ak,bY]
  dsimp[lg]
def Ov(h:Nat)(en:List Nat)(i:Nat):Prop:=∃Z,en[i]?=some Z/\∃p,h.testBit p=true/\Nat.testBit Z p=true
def uN:Option Nat->U
 |none=>.bV
 |some i=>aU i
def Xv(h:Nat)(en:List Nat):Option Nat->Prop
 |none=>∀i,¬Ov h en i
 |some i=>Ov h en i/\∀i',i'<i->¬Ov h en i'
def JK:Spec:=λus S Q=>∃P bh en tk h,us=[.loc P,aU h]/\JH S P bh en tk/\∀r,Xv h en r->Q (uN r) S
theorem VL(Γ:bZ):Keeps Γ fA 2 JK:=by
 rintro us S Q ⟨P,bh,en,tk,h,rfl,pa,q⟩;unfold fA;let#[b,e,k,o,_,ge,_]:=pa.o;have fe:∀{r},om (.loc P) "ends" S r=r (.loc e):=by intro r;rw[iC,o];rfl
 room;rw[fe]
 room;rw[ge,aD]
 rwa[cx (λi env S2=>S2=S/\∃(x2 x3:Option U),env=[some (.loc P),some (aU h),x2,x3]/\∀i',i'<i->¬Ov h en i') (λi env S2 z=>z.1▸ge) _ ?_ ?_ #[rfl,none,none,rfl,by simp]]
 .rintro i u env S2 K hu ⟨rfl,x2,x3,rfl,inv⟩ hK
  dsimp[fh,aB,o9] at hu;let#[Z,hZ,rfl]:=ar.mp hu;dsimp[dk];room;by_cases w:(((h&&&Z:Nat):Int) !=0)=true
  .rw[if_pos w]
   room;let#[p,hp]:=zc.mp w;rw[bB,aj] at hp;erw[q (some i) #[#[Z,hZ,p,hp.1,hp.2],inv]]
  .rw[if_neg w]
   room;rwa[hK _ _ #[rfl,_,_,rfl,λi' hi=>?_]];by_cases z:i'=i
   .subst z
    rintro⟨Z',e1,p,e2,e3⟩;rw[hZ] at e1;injection e1 with e1;subst e1
    erw[w (zc.mpr #[p,by rw[bB,e2,e3];rfl])]
   .erw[inv i' ∅]
 .rintro env S2 ⟨rfl,x2,x3,rfl,inv⟩
  room;rwa[q none λi ov=>?_]
  let#[Z,e1,_]:=ov;exact inv i (by have:=(ae.mp e1).1;simpa using this) #[Z,e1,‹_›]
structure zf(ts:List Tr)(sg:List (List Nat))(bh en:List Nat):Prop where
 len:bh.length=sg.length
 Gd:en.length=ts.length
 dis:∀(i j:Nat)t t' p,ts[i]?=some t->ts[j]?=some t'->IN t p=true->IN t' p=true->i=j
 pos:∀t∈ts,∃n,0<n/\n6 n t
 sgn:∀t∈ts,∀p,IN t p=true->sg[p]?=some (sgn t p)
 b0:∃B,bh[0]?=some B/\∀p,B.testBit p=true↔∃t∈ts,FS t p=true
 b:∀t∈ts,∀q,IN t q=true->∃B,bh[q]?=some B/\∀p,B.testBit p=nZ (cont t q) p
 e:∀(i:Nat)t,ts[i]?=some t->∃Z,en[i]?=some Z/\∀p,Z.testBit p=(IN t p&&dU (cont t p))
 nl:∀t∈ts,null t=false
section
variable{ts:List Tr}{sg:List (List Nat)}{bh en:List Nat}{u r r' c:Nat}{w:List Nat}
def OA(ts:List Tr)(u:Nat)(w:List Nat)(r:Nat):Prop:=∀p,r.testBit p=true↔(∃t∈ts,∃q,hs t w q/\nZ (ct t q) p=true)/\u.testBit p=true
theorem rX{q B:Nat}(h:(bh.map (·&&&u))[q]?=some B):∃B',bh[q]?=some B'/\B=B'&&&u:=by
 rw[aB] at h;let#[B',h1,h2]:=ar.mp h;exact#[B',h1,h2.symm]
theorem ct0:ct t 0=[t]:=rfl
theorem Ta(h:p≠0):ct t p=cont t p:=by unfold ct;rw[if_neg h]
theorem VM:nZ [t] p=FS t p:=by simp[nZ]
theorem Ge(A:zf ts sg bh en)(h:RJ (bh.map (·&&&u)) 1 r):OA ts u [] r:=by
 intro p;let#[B,e0,b0]:=A.b0;rw[h p]
 constructor
 .rintro⟨q,B',h1,h2,h3⟩
  have q0:=gJ.mp h1;subst q0;let#[B2,e2,rfl]:=rX h2;rw[e0] at e2;injection e2 with e2;subst e2
  rw[bB,aj,b0] at h3;let#[#[t,m,f],z]:=h3;exact#[#[t,m,0,rfl,by rw[ct0,VM];erw[f]],z]
 .rintro⟨⟨t,m,q,hq,f⟩,z⟩
  have hq:q=0:=hq;subst hq;rw[ct0,VM] at f;exact#[0,B&&&u,rfl,by rw[aB,e0];rfl,by rw[bB,(b0 p).mpr #[t,m,f],z];rfl]
theorem rY(A:zf ts sg bh en)(h:OA ts u w r)(p:Nat):(r&&&kc (·.contains c) sg).testBit p=true↔(∃t∈ts,hs t (w++[c]) p)/\u.testBit p=true:=by
 rw[bB,aj,h p,mK]
 constructor
 .rintro⟨⟨⟨t,m,q,hq,f⟩,z⟩,k⟩
  let#[l,e1,e2]:=vP k;rw[A.sgn t m p (xR f)] at e1;injection e1 with e1;subst e1
  exact#[#[t,m,by rw[rS];exact#[q,hq,f,gE.mp e2]],z]
 .rintro⟨⟨t,m,hq⟩,z⟩
  rw[rS] at hq;let#[q,hq,f,k]:=hq;refine#[#[#[t,m,q,hq,f],z],?_];unfold mi;rw[A.sgn t m p (xR f)]
  erw[gE.mpr k]
theorem pJ(A:zf ts sg bh en)(m:t∈ts)(h:hs t (w++[c]) p):IN t p=true/\p≠0/\mi ze sg p=true:=by
 rw[rS] at h;let#[q,_,f,k]:=h;have i:=xR f;let#[n,n0,pl]:=A.pos t m;refine#[i,zb pl n0 i,?_];unfold mi;rw[A.sgn t m p i]
 show ze (sgn t p)=true
 unfold ze;cases e:lQ.sgn t p with
 |nil=>rw[e] at k;simp at k
 |cons a l=>rfl
theorem JL(A:zf ts sg bh en)(U:GO sg bh en u)(m:t∈ts)(h:hs t (w++[c]) q)(f:nZ (ct t q) p=true)(z:u.testBit p=true):u.testBit q=true:=by
 let#[i,q0,k]:=pJ A m h;let#[B,e1,e2]:=A.b t m q i;rw[Ta q0] at f;erw[U.b q B p k e1 (by rw[e2];exact f) z]
theorem vQ(A:zf ts sg bh en)(U:GO sg bh en u)(h:OA ts u w r)(hr:RJ (bh.map (·&&&u)) (r&&&kc (·.contains c) sg) r'):OA ts u (w++[c]) r':=by
 intro p;rw[hr p]
 constructor
 .rintro⟨q,B',h1,h2,h3⟩
  let#[#[t,m,hq],_]:=(rY A h q).mp h1;let#[i,q0,_]:=pJ A m hq;let#[B2,e2,rfl]:=rX h2;let#[B,e1,b1]:=A.b t m q i;rw[e1] at e2;injection e2 with e2;subst e2
  rw[bB,aj,b1] at h3;exact#[#[t,m,q,hq,by rw[Ta q0];erw[h3.1]],h3.2]
 .rintro⟨⟨t,m,q,hq,f⟩,z⟩
  have uq:=JL A U m hq f z;let#[i,q0,_]:=pJ A m hq;let#[B,e1,b1]:=A.b t m q i;rw[Ta q0] at f;exact#[q,B&&&u,(rY A h q).mpr #[#[t,m,hq],uq],by rw[aB,e1];rfl,by rw[bB,b1,f,z];rfl]
theorem Nw(A:zf ts sg bh en)(U:GO sg bh en u)(m:t∈ts)(h:hs t (w++[c]) p)(n:dU (ct t p)=true):u.testBit p=true:=by
 let#[i,p0,k]:=pJ A m h;rw[Ta p0] at n;let#[j,ej]:=bq m;let#[Z,e1,e2]:=A.e j t ej;erw[U.e Z p (af e1) (by rw[e2,i,n];rfl) k]
theorem JM(A:zf ts sg bh en)(U:GO sg bh en u)(h:OA ts u w r)(i:Nat):Ov (r&&&kc (·.contains c) sg) en i↔∃t,ts[i]?=some t/\En t (hs t (w++[c])):=by
 constructor
 .rintro⟨Z,e1,p,h1,h2⟩
  have hi:i<ts.length:=by rw[<-A.Gd];exact(ae.mp e1).1
  let#[Z',e2,b2]:=A.e i _ (aa hi);rw[e1] at e2;injection e2 with e2;subst e2
  rw[b2,aj] at h2;let#[#[t,m,hq],_]:=(rY A h p).mp h1;let#[ip,p0,_]:=pJ A m hq;let#[j,ej]:=bq m;have:=A.dis i j _ t p (aa hi) ej h2.1 ip;subst this;rw[aa hi] at ej;injection ej with ej;subst ej
  exact#[_,aa hi,p,hq,by rw[Ta p0];erw[h2.2]]
 .rintro⟨t,ei,p,hq,n⟩
  have m:=af ei;let#[Z,e1,e2]:=A.e i t ei;let#[ip,p0,_]:=pJ A m hq;have up:=Nw A U m hq n;rw[Ta p0] at n;exact#[Z,e1,p,(rY A h p).mpr #[#[t,m,hq],up],by rw[e2,ip,n];rfl]
end
def gV(ts:List Tr):Nat:=(ts.map size).sum
def Nx:Nat->List Tr->Prop
 |_,[]=>True
 |n,t::ts=>n6 n t/\Nx (n+size t) ts
theorem zg:∀{ts:List Tr}{n i:Nat}{t:Tr},Nx n ts->ts[i]?=some t->n6 (n+gV (ts.take i)) t
 |[],n,i,t,h,e=>by simp at e
 |a::ts,n,0,t,h,e=>by
  have:a=t:=by simpa using e
  subst this;erw[h.1]
 |a::ts,n,i+1,t,h,e=>by
  have:=zg (i:=i) h.2 (by simpa using e);simpa[gV,Nat.add_assoc] using this
theorem Ny:zf [] [[]] [0] []:=
 #[rfl,rfl,λi j t t' p h=>by simp at h,λt h=>by simp at h,λt h=>by simp at h,#[0,rfl,λp=>by simp],λt h=>by simp at h,λi t h=>by simp at h,λt h=>by simp at h]
theorem JN(A:zf ts sg bh en)(s0:0<sg.length)(hp:n6 sg.length t)(nt:null t=false)(l:uk t bh F Z (B::bt)):zf (ts++[t]) (sg++mU t) ((B|||F)::bt) (en++[Z]):=by
 have lt:∀t'∈ts,∀p,IN t' p=true->p<sg.length:=λt' m p i=>(ae.mp (A.sgn t' m p i)).1
 have ge:∀p,IN t p=true->sg.length<=p/\p<sg.length+size t:=λp i=>(fg hp).mp i
 have ll:=fU t;have l1:=l.len;have l2:=A.len;have bs:∀(q C:Nat),0<q->(B::bt)[q]?=some C->((B|||F)::bt)[q]?=some C:=λq C h e=>by
  cases q with
  |zero=>omega
  |succ q=>erw[e]
 have mem:∀{t'},t'∈ts++[t]->t'∈ts\/t'=t:=λh=>by simpa using h
 have at_:∀{i:Nat}{t'},(ts++[t])[i]?=some t'->ts[i]?=some t'\/(i=ts.length/\t'=t):=λ{i t'}h=>by
  rw[iq] at h;split at h
  .erw[.inl h]
  .rename_i z
   have il:i=ts.length:=by
    have:=(ae.mp h).1;simp at this;omega
   subst il;simp at h;erw[.inr #[rfl,h.symm]]
 refine#[?_,?_,?_,?_,?_,?_,?_,?_,?_]
 .rw[az,ll]
  dsimp[aZ] at l1 ⊢;omega
 .simp[A.Gd]
 .intro i j t1 t2 p e1 e2 i1 i2
  rcases at_ e1 with f1|⟨f1,g1⟩<;>rcases at_ e2 with f2|⟨f2,g2⟩
  .erw[A.dis i j _ _ p f1 f2 i1 i2]
  .have:=lt _ (af f1) p i1;rw[g2] at i2;have:=ge p i2;omega
  .have:=lt _ (af f2) p i2;rw[g1] at i1;have:=ge p i1;omega
  .omega
 .intro t' m
  rcases mem m with m|rfl
  .erw[A.pos t' m]
  .exact#[_,s0,hp]
 .intro t' m p i
  rcases mem m with m|rfl
  .rw[ah (lt t' m p i)];erw[A.sgn t' m p i]
  .rw[aw (ge p i).1];erw[oU hp i]
 .let#[B',e,b]:=A.b0
  have:=l.old 0 ∅;rw[e] at this;have eB:B=B':=by simpa using this
  subst eB;refine#[B|||F,rfl,λp=>?_];rw[cK,bu,b,l.f]
  constructor
  .rintro(⟨t',m,f⟩|f)
   .exact#[t',by simp[m],f]
   .exact#[t,by simp,f]
  .rintro⟨t',m,f⟩
   rcases mem m with m|rfl
   .erw[.inl #[t',m,f]]
   .erw[.inr f]
 .intro t' m q i
  rcases mem m with m|rfl
  .let#[C,e,b]:=A.b t' m q i
   have ql:=lt t' m q i;let#[n,n0,pl]:=A.pos t' m;have q0:=zb pl n0 i;exact#[C,bs q C ∅ ((l.old q ∅).trans e),b]
  .let#[C,e,b]:=l.new q i
   have:=ge q i;exact#[C,bs q C ∅ e,b]
 .intro i t' e
  rcases at_ e with e|⟨rfl,rfl⟩
  .let#[Z',e1,b]:=A.e i t' e
   exact#[Z',by rw[ah (ae.mp e1).1];erw[e1],b]
  .exact#[Z,by rw[<-A.Gd];simp,l.z]
 .intro t' m
  rcases mem m with m|rfl
  .erw[A.nl t' m]
  .erw[nt]
def VN:Spec:=λus S Q=>∃x v t r,us=[.str x,v]/\x.length<=1000/\vH x=.ok (t,r)/\∀S',Ext S S'->Q t S'
theorem VO(Γ:bZ)(h1:Γ "read"=Dd):Keeps Γ pF 1 VN:=by
 rintro us S Q ⟨x,v,t,r,rfl,hl,hr,q⟩;unfold pF;room;rwa[ca h1 #[x,rfl,hl,?_]];rw[hr]
 erw[q]
def Rls(ts:List Tr)(xs:List (List Nat)):Prop:=xs.length=ts.length/\∀(i:Nat)t x,ts[i]?=some t->xs[i]?=some x->x.length<=1000/\∃r,vH x=.ok (enc t,r)
structure Bj(ts:List Tr):Prop where
 len:ts.length<=4
 pl:Nx 1 ts
 nl:∀t∈ts,null t=false
 dp:∀t∈ts,bS t<4
 sz:gV ts<=24
theorem size_take(e:ts[i]?=some t):gV (ts.take (i+1))=gV (ts.take i)+size t/\gV (ts.take (i+1))<=gV ts:=by
 have h1:=GN e;refine#[by rw[h1];simp[gV],?_];have:gV ts=gV (ts.take (i+1))+gV (ts.drop (i+1)):=by
  unfold gV;rw[<-Lc,<-aK,pb]
 omega
def VP:Spec:=λus S Q=>∃n xs ts M,us=[.loc n,aU M]/\S[n]?=some (.lst (xs.map .str))/\Rls ts xs/\Bj ts/\gV ts<=M/\∀P u sg bh en S',JH S' P (bh.map (·&&&u)) en (λc=>kc (·.contains c) sg)->zf ts sg bh en->GO sg bh en u->sg.length=1+gV ts->Ext S S'->Q (.loc P) S'
theorem VQ(Γ:bZ)(h1:Γ "Layout.__init__"=RB)(h2:Γ "Layout.lay"=gU (Tu 4))(h3:Γ "tree_of"=VN)(h4:Γ "Layout.how_many"=RC)(h5:Γ "Layout.close_rule"=RD)(h6:Γ "Places.__init__"=JI):Keeps Γ lR 4 VP:=by
 rintro us S Q ⟨n,xs,ts,M,rfl,gn,hR,hT,hM,q⟩;unfold lR;have gL:(S++[SO.ins "Layout" []])[S.length]?=some (.ins "Layout" []):=by simp
 have nS:=aN gn;room;rwa[ca h1 #[S.length,rfl,gL,by simp,λS1 e1 la1=>#[rfl,?_]]];have x1:∀n,n<S.length->S1[n]?=S[n]?:=λn hn=>by rw[e1 n hn,ah hn]
 have gn1:S1[n]?=some (.lst (xs.map .str)):=by rw[x1 n nS];erw[gn]
 have xl:xs.length<=4:=by rw[hR.1];erw[hT.len]
 room;dsimp[SS];rw[gn1,aD]
 have ec:sQ (xs.map U.str) none (some 6)=xs.map U.str:=by
  unfold sQ;dsimp[mQ,fE,Int.toNat_zero,Nat.zero_min,lG,Nat.sub_zero,ak];rw[Ld (by show xs.length<=6;omega)]
  erw[gf (by simp)]
 rw[ec]
 refine#[#[λi e=>(by cases e),λi e=>(by injection e with e;omega)],?_];have x2:Ext S1 (S1++[SO.lst (xs.map U.str)]):=Ext.app _;have g2:(S1++[SO.lst (xs.map U.str)])[S1.length]?=some (.lst (xs.map .str)):=by simp
 have l1:=la1.len;generalize S1.length=m at g2 l1;generalize S1++[SO.lst (xs.map U.str)]=S2 at g2 x2;room;rw[g2,aD]
 refine cx (λi env S3=>∃(sg:List (List Nat))(bh en:List Nat)(x3 x4 x5:Option U),env=[some (.loc n),some (aU M),some (.loc S.length),x3,x4,x5]/\Fr S.length S2 S3/\rT S3 S.length sg bh en/\zf (ts.take i) sg bh en/\sg.length=1+gV (ts.take i)/\i<=ts.length) (λi env S3 h9=>by let#[_,_,_,_,_,_,_,f,_]:=h9;exact f.get g2 l1) _ ?_ ?_
  #[[[]],[0],[],none,none,none,rfl,.refl,la1.ext x2,Ny,rfl,∅]
 .rintro i u env S3 K hu ⟨sg,bh,en,x3,x4,x5,rfl,f3,la3,A,hsg,hi⟩ hK
  dsimp[fh,aB,o9] at hu;let#[x,hx,rfl]:=ar.mp hu;have il:i<ts.length:=by rw[<-hR.1];exact(ae.mp hx).1
  have ht:ts[i]?=some ts[i]:=aa il;have hm:ts[i]∈ts:=cC il;generalize ts[i]=t at ht hm;let#[xle,r,hr]:=hR.2 i t x ht hx;have pt:=zg hT.pl ht;rw[<-hsg] at pt;let#[s1,s2]:=size_take ht;have sz:=hT.sz;have nt:=hT.nl t hm;dsimp[dk];room;rw[la3.o,bN]
  refine#[#[rfl,rfl],ca h3 #[x,_,enc t,r,rfl,xle,hr,λS4 x4=>?_]];have la4:=la3.ext x4;rwa[ca h2 #[S.length,sg,bh,en,t,_,rfl,#[hT.dp t hm,rfl],la4,pt,A.len,∅,λS5 p F Z bh' f5 pl5 g5 la5 lr=>?_]];rw[nt] at g5;room;rw[F8 g5]
  room;rw[la5.o,bN]
  refine#[#[rfl,rfl],ca h4 #[S.length,_,bh',en,rfl,la5,by rw[az,fU];omega,?_]];have:¬((M:Int)<(((sg++mU t).length:Nat):Int)-1):=by rw[az,fU];omega
  room;dsimp[this,decide_false,ag,if_false];room;rw[la5.o,bN]
  have bl:=lr.len;cases bh' with
  |nil=>have:=A.len;simp at bl;omega
  |cons B bt=>
   refine#[#[rfl,rfl],ca h5 #[S.length,_,_,en,p,false,F,Z,B,bt,rfl,la5,rfl,g5,pl5,by rw[A.Gd];simp;have:=hT.len;omega,λS6 f6 la6=>?_]];room;have et:=GN ht;rwa[hK _ _ #[_,_,_,_,_,_,rfl,((f3.trans (Ext.fr x4)).trans f5).trans f6,la6,by rw[et];erw[JN A ∅ pt nt lr],by rw[az,fU,s1];omega,il]]
 .rintro env S3 ⟨sg,bh,en,x3,x4,x5,rfl,f3,la3,A,hsg,hi⟩
  rw[lH,ak,hR.1,bY] at A hsg;have gn3:S3[n]?=some (.lst (xs.map .str)):=by
   rw[f3.2 n (by have:=x2.1;have:=aN gn1;omega) (.inl ∅),x2.2 n (aN gn1)];erw[gn1]
  room;rw[lL gn3]
  dsimp[bg,ak];have:¬((6:Int)<(xs.length:Int)):=∅
  refine#[∅,?_];dsimp[this,decide_false,ag,if_false];room;have gP:(S3++[SO.ins "Places" []])[S3.length]?=some (.ins "Places" []):=by simp
  have sz:=hT.sz;have sl3:=la3.len;rwa[ca h6 #[S3.length,S.length,sg,bh,en,rfl,gP,by simp,la3.ext (Ext.app _),∅,A.len,by rw[A.Gd];have:=hT.len;omega,λu S4 hu e4 pa=>#[rfl,?_]]];let#[_,_,_,oP,_]:=pa.o;rwa[q _ u sg bh en S4 pa A hu hsg #[?_,λn hn=>?_]]
  .have:=aN oP;omega
  .have:=x2.1
   have:=la1.len;rw[e4 n ∅,ah ∅,f3.2 n ∅ (.inl ∅),x2.2 n ∅];erw[x1 n hn]
noncomputable def er:Tr->Tr
 |.one _ l=>.one 0 l
 |.row a b=>.row (er a) (er b)
 |.or a b=>.or (er a) (er b)
 |.rep m a=>.rep m (er a)
theorem sZ:∀t,enc (er t)=enc t
 |.one _ l=>rfl
 |.row a b=>by dsimp[er,enc,sZ a,sZ b]
 |.or a b=>by dsimp[er,enc,sZ a,sZ b]
 |.rep m a=>by dsimp[er,enc,sZ a]
theorem lY:∀t,null (er t)=null t
 |.one _ l=>rfl
 |.row a b=>by dsimp[er,null,lY a,lY b]
 |.or a b=>by dsimp[er,null,lY a,lY b]
 |.rep m a=>by cases m<;>dsimp[er,null,lY a]
theorem Nz:more m (er a)=(more m a).map er:=by cases m<;>rfl
theorem xU:∀t c,dF (er t) c=(dF t c).map (dg er)
 |.one _ l,c=>by dsimp[er,dF];split<;>rfl
 |.row a b,c=>by
  dsimp[er,dF,xU a,xU b,lY,aK,bz]
  congr 1
  .congr 1;funext x;simp
  .split<;>rfl
 |.or a b,c=>by dsimp[er,dF,xU a,xU b,aK]
 |.rep m a,c=>by
  dsimp[er,dF,xU a,Nz,bz]
  congr 1;funext x;simp
theorem OB:∀(K:List Tr)c,dR (K.map er) c=(dR K c).map (dg er)
 |[],c=>rfl
 |t::K,c=>by
  dsimp[ay,dR,xU,OB K,lY,aK,bz]
  congr 1
  .congr 1;funext x;simp
  .split<;>rfl
theorem zh(K:List Tr):cQ (K.map er)=cQ K:=by
 unfold cQ;rw[bz]
 congr 2;funext t
 erw[sZ t]
theorem eqT(h:nv (.tup [.str k,x]) (.tup [.str k',y])=true):k=k'/\nv x y=true:=by
 have h:((k==k')&&(nv x y&&true))=true:=h;rw[qR,aj] at h;exact#[eq_of_beq h.1,h.2]
theorem eqQ(h:nv (.tup [x,x']) (.tup [y,y'])=true):nv x y=true/\nv x' y'=true:=by
 have h:(nv x y&&(nv x' y'&&true))=true:=h;rw[qR,aj] at h;erw[h]
theorem NA(h:nv x y=true):nv (.tup [.str k,x]) (.tup [.str k,y])=true:=by
 show((k==k)&&(nv x y&&true))=true
 rw[h];simp
theorem VR(h:nv x y=true)(h':nv x' y'=true):nv (.tup [x,x']) (.tup [y,y'])=true:=by
 show(nv x y&&(nv x' y'&&true))=true
 rw[h,h'];rfl
theorem qd(m:Mk):nQ m≠Nj/\nQ m≠Dc/\nQ m≠SY:=by cases m<;>decide
theorem mk_inj(h:nQ m=nQ m'):m=m':=by
 revert h
 cases m<;>cases m'<;>first|exact λ_=>rfl|exact λh=>absurd h ⋯
theorem tf:∀a b,nv (enc a) (enc b)=true->er a=er b
 |.one _ l,.one _ l',h=>by
  have:l=l':=eq_of_beq (show(l==l')=true from (eqT h).2);rw[this];rfl
 |.one _ _,.row _ _,h=>absurd (eqT h).1 ⋯
 |.one _ _,.or _ _,h=>absurd (eqT h).1 ⋯
 |.one _ _,.rep m _,h=>absurd (eqT h).1.symm (qd m).1
 |.row _ _,.one _ _,h=>absurd (eqT h).1 ⋯
 |.row a1 a2,.row b1 b2,h=>by
  have h:=eqQ (eqT h).2;dsimp[er,tf a1 b1 h.1,tf a2 b2 h.2]
 |.row _ _,.or _ _,h=>absurd (eqT h).1 ⋯
 |.row _ _,.rep m _,h=>absurd (eqT h).1.symm (qd m).2.1
 |.or _ _,.one _ _,h=>absurd (eqT h).1 ⋯
 |.or _ _,.row _ _,h=>absurd (eqT h).1 ⋯
 |.or a1 a2,.or b1 b2,h=>by
  have h:=eqQ (eqT h).2;dsimp[er,tf a1 b1 h.1,tf a2 b2 h.2]
 |.or _ _,.rep m _,h=>absurd (eqT h).1.symm (qd m).2.2
 |.rep m _,.one _ _,h=>absurd (eqT h).1 (qd m).1
 |.rep m _,.row _ _,h=>absurd (eqT h).1 (qd m).2.1
 |.rep m _,.or _ _,h=>absurd (eqT h).1 (qd m).2.2
 |.rep m a,.rep m' b,h=>by
  have e:=mk_inj (eqT h).1;subst e;dsimp[er,tf a b (eqT h).2]
theorem mM:∀a,nv (enc a) (enc a)=true
 |.one _ l=>NA (show(l==l)=true by simp)
 |.row a b=>NA (VR (mM a) (mM b))
 |.or a b=>NA (VR (mM a) (mM b))
 |.rep m a=>NA (mM a)
theorem zi:∀K L:List Tr,wy (K.map enc) (L.map enc)=true->K.map er=L.map er
 |[],[],_=>rfl
 |[],_::_,h=>by simp[wy] at h
 |_::_,[],h=>by simp[wy] at h
 |a::K,b::L,h=>by
  dsimp[ay,wy,aj] at h ⊢;rw[tf a b h.1,zi K L h.2]
theorem xV:∀K:List Tr,wy (K.map enc) (K.map enc)=true
 |[]=>rfl
 |a::K=>by simp[wy,mM a,xV K]
theorem zj:nv (cQ K) (cQ L)=true↔cQ K=cQ L:=by
 constructor
 .intro h
  rw[<-zh K,<-zh L,zi K L h]
 .intro h
  rw[<-h];erw[xV K]
theorem OC(h:cQ K=cQ L):K.map er=L.map er:=zi K L (zj.mpr h)
theorem JO(M:List Tr):dU (M.map er)=dU M:=by unfold dU;rw[BK];congr 1;funext t;erw[lY t]
theorem RK(h:cQ K=cQ L):(dR K c).map cQ=(dR L c).map cQ:=by
 have key:∀M:List Tr,(dR (M.map er) c).map cQ=(dR M c).map cQ:=λM=>by
  rw[OB,bz];congr 1;funext x;erw[zh x]
 rw[<-key K,<-key L,OC h]
theorem xW:∀t,vi (enc t)=true
 |.one _ l=>rfl
 |.row a b=>by simp[enc,vi,kE,xW a,xW b]
 |.or a b=>by simp[enc,vi,kE,xW a,xW b]
 |.rep m a=>by simp[enc,vi,kE,xW a]
theorem edh{x y a b:Nat}(h1:x<=2*a+1)(h2:y<=2*b+1):max 0 (max (max x (max y 0)+1) 0)+1<=2*(max a b+1)+1:=∅
theorem pK:∀t,dep (enc t)<=2*bS t+1
 |.one _ l=>by simp[enc,dep,oj]
 |.row a b=>by
  dsimp[enc,dep,oj,bS];erw[edh (pK a) (pK b)]
 |.or a b=>by
  dsimp[enc,dep,oj,bS];erw[edh (pK a) (pK b)]
 |.rep m a=>by
  have:=pK a;dsimp[enc,dep,oj,bS];omega
theorem Di:∀K:List Tr,kE (K.map enc)=true
 |[]=>rfl
 |t::K=>by simp[kE,xW t,Di K]
theorem Bk:∀K:List Tr,(∀t∈K,bS t<=d)->oj (K.map enc)<=2*d+1
 |[],_=>by simp[oj]
 |t::K,h=>by
  have h1:=pK t;have h2:=h t (aQ ..);have h3:=Bk K λt m=>h t (aA _ m)
  dsimp[ay,oj];omega
def jj(K:List Tr):Nat:=(K.map size).sum
theorem vR:jj (K++L)=jj K+jj L:=by simp[jj]
theorem clm{A B X Y:Nat}:A*X<=A*max X Y/\B*Y<=B*max X Y/\(A+B)*(max X Y+1)=A*max X Y+B*max X Y+A+B:=#[qS _ (Nat.le_max_left ..),qS _ (K8 ..),by rw[Nat.mul_add,Nat.add_mul];omega]
theorem mN:∀t p,(cont t p).length<=bS t/\(∀x∈cont t p,bS x<=bS t)/\jj (cont t p)<=size t*bS t
 |.one _ _,p=>by simp[cont,bS,jj]
 |.row a b,p=>by
  have ha:=mN a p;have hb:=mN b p;let#[m1,m2,m3]:=@clm (size a) (size b) (bS a) (bS b);dsimp[cont,bS,size];split
  .refine#[by simp;omega,λx hx=>?_,?_]
   .rcases aL.mp hx with h|h
    .have:=ha.2.1 x h;omega
    .simp at h;subst h;omega
   .rw[vR,m3]
    have:jj [b]=size b:=by simp[jj]
    omega
  .exact#[∅,λx hx=>by have:=hb.2.1 x hx;omega,by rw[m3];omega]
 |.or a b,p=>by
  have ha:=mN a p;have hb:=mN b p;let#[m1,m2,m3]:=@clm (size a) (size b) (bS a) (bS b);dsimp[cont,bS,size];split
  .exact#[∅,λx hx=>by have:=ha.2.1 x hx;omega,by rw[m3];omega]
  .exact#[∅,λx hx=>by have:=hb.2.1 x hx;omega,by rw[m3];omega]
 |.rep m a,p=>by
  have ha:=mN a p;have m3:size a*(bS a+1)=size a*bS a+size a:=by rw[Nat.mul_add];omega
  dsimp[cont,bS,size];refine#[?_,λx hx=>?_,?_]
  .cases m<;>simp[more]<;>omega
  .rcases aL.mp hx with h|h
   .have:=ha.2.1 x h;omega
   .cases m<;>simp[more] at h<;>subst h<;>simp[bS]
  .rw[vR,m3]
   have:jj (more m a)<=size a:=by cases m<;>simp[more,jj,size]
   omega
theorem Dj(h:bS t<4)(hs:size t<=100):(ct t p).length<=4/\(∀x∈ct t p,bS x<4)/\jj (ct t p)<=400:=by
 unfold ct;split
 .exact#[by simp,by simpa using h,by simp[jj];omega]
 .have:=mN t p
  have m:size t*bS t<=100*4:=yk hs ∅;exact#[∅,λx hx=>by have:=this.2.1 x hx;omega,∅]
theorem mj:∀t c,(dF t c).length<=size t/\∀x∈dF t c,x.length<=bS t
 |.one _ l,c=>by dsimp[dF];split<;>simp[size]
 |.row a b,c=>by
  have ha:=mj a c;have hb:=mj b c;dsimp[dF,size,bS];refine#[by rw[az,ak];split<;>(try simp)<;>omega,λx hx=>?_];rcases aL.mp hx with h|h
  .let#[y,hy,rfl]:=bG.mp h
   have:=ha.2 y hy;simp;omega
  .split at h
   .have:=hb.2 x h;omega
   .simp at h
 |.or a b,c=>by
  have ha:=mj a c;have hb:=mj b c;dsimp[dF,size,bS];refine#[by simp;omega,λx hx=>?_];rcases aL.mp hx with h|h
  .have:=ha.2 x h;omega
  .have:=hb.2 x h;omega
 |.rep m a,c=>by
  have ha:=mj a c;dsimp[dF,size,bS];refine#[by simp;omega,λx hx=>?_];let#[y,hy,rfl]:=bG.mp hx;have:=ha.2 y hy;cases m<;>simp[more]<;>omega
theorem JP:∀(K:List Tr)c,(dR K c).length<=jj K
 |[],c=>by simp[dR]
 |t::K,c=>by
  have h1:=(mj t c).1;have h2:=JP K c;dsimp[dR,jj,ay,zR,az,ak] at h2 ⊢;split<;>(try simp)<;>omega
theorem gB{g:bJ->Prop}{c:U->bJ->(Bool->bJ->Prop)->Prop}{e:U->bJ->KU->Prop}{Q:List U->bJ->Prop}{S:bJ}(l vs:List U)(hv:vs.length=l.length)(hl:l.length<16500000)(hg:∀S',Ext S S'->g S')(hc:∀u S' k,k true S'->c u S' k)
  (he:∀(i:Nat)u v,l[i]?=some u->vs[i]?=some v->∀S' k,Ext S S'->(∀S2,Ext S' S2->k v S2)->e u S' k) (q:∀S',Ext S S'->Q vs S'):nY g c e Q l [] S:=by
 rwa[iF l (λi acc S'=>Ext S S'/\acc=vs.take i) (λi acc S' hi h=>#[hg _ h.1,?_]) (λi u acc S' k hu hi hk=>?_) (λacc S' h=>?_) #[.refl,rfl]]
 .rw[h.2,dC];omega
 .let#[x,rfl]:=hi
  have il:i<vs.length:=by rw[hv];exact(ae.mp hu).1
  rwa[hc _ _ _ ?_];rw[if_pos rfl]
  rwa[he i u _ hu (aa il) S' _ x λS2 x2=>hk _ _ #[x.trans x2,?_]]
  rw[jB,aa il];rfl
 .let#[x,rfl]:=h
  rw[<-hv,bY];erw[q S' x]
def Xw(f:Tr->Bool)(fR:List Tr->Bool)(d:Nat):Spec:=λus S Q=>∃u,us=[u]/\((∃t,u=enc t/\bS t<d/\∀S',Ext S S'->Q (.bl (f t)) S')\/∃K,u=Nt K/\0<d/\(∀t∈K,bS t+1<d)/\K.length<=1000/\∀S',Ext S S'->Q (.bl (fR K)) S')
def zk:Nat->Spec:=Xw null dU
theorem zm{K:List Tr}{f:Tr->U}{i:Nat}{u v:U}(hu:(K.map enc)[i]?=some u)(hv:(K.map f)[i]?=some v):∃t,t∈K/\u=enc t/\v=f t:=by
 rw[aB] at hu hv;let#[t,e,rfl]:=ar.mp hu;rw[e] at hv;exact#[t,af e,rfl,(aF hv).symm]
section
variable{Γ:bZ}{N:String}{d:Nat}{f:Tr->Bool}{fR:List Tr->Bool}{S:bJ}{Q:KU}{k:U}{K:List Tr}
theorem Ew(h1:Γ N=Xw f fR d)(hK:∀t∈K,bS t<d)(hl:K.length<=1000)(q:∀S',Ext S S'->Q (.bl (K.all f)) S'):
  WE Γ (.blt .all (.cons (.comp false (.call N (.cons @0 .nil)) (.val (.ix @0 ↑1)) (.cH (.lit (.bl true))) []) .nil)) [some (.tup [k,.tup (K.map enc)])] S Q:=by
 room;dsimp[me,bg];refine#[by simp,by simp;omega,?_];rwa[gB _ (K.map λt=>.bl (f t)) (by simp) (by simp;omega) (λ_ _=>trivial) (λu S' k h=>h) (λi u v hu hv S' k x hk=>?_) λS' x=>?_]
 .let#[t,m,rfl,rfl]:=zm hu hv
  erw[ca h1 #[_,rfl,.inl #[t,rfl,hK t m,hk]]]
 .exact#[K.map f,by simp,by rw[show(K.map f).all id=K.all f by rw[BK];rfl];erw[q _ (x.trans (Ext.app _))]]
theorem NB(h1:Γ N=Xw f fR d)(hK:∀t∈K,bS t<d)(hl:K.length<=1000)(q:∀S',Ext S S'->Q (.bl (K.any f)) S'):
  WE Γ (.blt .any (.cons (.comp false (.call N (.cons @0 .nil)) (.val (.ix @0 ↑1)) (.cH (.lit (.bl true))) []) .nil)) [some (.tup [k,.tup (K.map enc)])] S Q:=by
 room;dsimp[me,bg];refine#[by simp,by simp;omega,?_];rwa[gB _ (K.map λt=>.bl (f t)) (by simp) (by simp;omega) (λ_ _=>trivial) (λu S' k h=>h) (λi u v hu hv S' k x hk=>?_) λS' x=>?_]
 .let#[t,m,rfl,rfl]:=zm hu hv
  erw[ca h1 #[_,rfl,.inl #[t,rfl,hK t m,hk]]]
 .exact#[K.map f,by simp,by rw[show(K.map f).any id=K.any f by rw[BM];rfl];erw[q _ (x.trans (Ext.app _))]]
end
theorem dp2(h:max (bS a) (bS b)+1<d+1)(m:t∈[a,b]):bS t<d:=by
 rcases aR.mp m with rfl|m
 .omega
 .simp at m;subst m;omega
theorem rr(h:WE Γ e env S (λv S1=>D.rt v S1)):Rest Γ #v[.ret e] D env S:=h
theorem VS(Γ:bZ)(d:Nat)(h1:Γ "_law_nothing"=zk d):Keeps Γ ja 0 (zk (d+1)):=by
 rintro us S Q ⟨u,rfl,h⟩;unfold ja;rcases h with⟨t,rfl,dt,q⟩|⟨K,rfl,-,dK,hl,q⟩
 .cases t with
  |one n l=>erw[rW rfl rfl (q S .refl)]
  |row a b=>exact ji rfl rfl (rW rfl rfl (rr (Ew (K:=[a,b]) h1 (λt m=>dp2 dt m) (by simp) λS' x=>by have:=q S' x;simpa[null] using this)))
  |or a b=>exact ji rfl rfl (ji rfl rfl (rW rfl rfl (rr (NB (K:=[a,b]) h1 (λt m=>dp2 dt m) (by simp) λS' x=>by have:=q S' x;simpa[null] using this))))
  |rep m a=>
   have dt:bS a+1<d+1:=dt;have k1:=qd m;refine ji rfl (beq_eq_false_iff_ne.mpr k1.1) (ji rfl (beq_eq_false_iff_ne.mpr k1.2.1) (ji rfl (beq_eq_false_iff_ne.mpr k1.2.2) ?_));unfold enc;room;dsimp[qx,me,bg];refine#[by simp,by simp,?_];have e2:∀q:Bool->Prop,rn (.str (nQ m)) [.str k9,.str kq] q=q (Ga m):=λq=>by
    have:=anyS (a:=nQ m) (l:=[k9,kq]) (q:=q);cases m<;>simpa[Ga,nQ] using this
   rw[e2]
   cases m<;>dsimp[Ga,H0,ag,if_false,if_true]
   .erw[q S .refl]
   .exact#[by simp,ca h1 #[_,rfl,.inl #[a,rfl,∅,q]]]
   .erw[q S .refl]
 .erw[ji rfl rfl (rW rfl rfl (rr (Ew h1 (λt m=>by have:=dK t m;omega) hl q)))]
theorem xX{α:Type}{x:List α}{a:Nat}:sQ x (some (a:Nat)) none=x.drop a:=by
 unfold sQ;dsimp[fE,mQ,jE,Nat.min_self];by_cases h:a<=x.length
 .rw[Nat.min_eq_left h,gf (by simp)]
 .rw[Ld ∅,KC,jA ∅];simp
def Dk(d:Nat):Spec:=λus S Q=>∃u c,us=[u,.str [c]]/\((∃t,u=enc t/\bS t<d/\size t<=1000/\∀n S',Ext S S'->S.length<=n->S'[n]?=some (.lst ((dF t c).map cQ))->Q (.loc n) S') \/
 ∃K,u=Nt K/\0<d/\(∀t∈K,bS t+1<d)/\K.length<=1000/\jj K<=1000/\∀n S',Ext S S'->S.length<=n->S'[n]?=some (.lst ((dR K c).map cQ))->Q (.loc n) S')
noncomputable def pBr:dh:=#v[.set 2 (.lst .nil),.fP (.name 4) (.range (.blt .len #v[.ix @0 ↑1])) #v[.set 2 (.bin .add @2 (.comp false (.bin .add @0 (.sl (.ix @1 ↑1) (.e (.bin .add @2 ↑1)) .no)) (.val (.call "_law_behind" #v[.ix (.ix @0 ↑1) @4,@1])) (.cH (.lit (.bl true))) [0,4])),.ifs (.not (.cH (.call "_law_nothing" #v[.ix (.ix @0 ↑1) @4]))) #v[.ret @2] .nil],.ret @2]
theorem JQ{K:List Tr}{t:Tr}(m:t∈K):size t<=jj K:=by
 let#[a,b,rfl]:=GH m;rw[vR]
 simp[jj];omega
theorem JR{Γ:bZ}{d:Nat}(hd:d<=100)(h1:Γ "_law_behind"=Dk d)(h2:Γ "_law_nothing"=zk d){S:bJ}{Q:KU}{D:Ends}(hD:D.rt=Q){K:List Tr}{c:Nat}(hK:∀t∈K,bS t<d)(hl:K.length<=1000)(hs:jj K<=1000)
  (q:∀n S',Ext S S'->S.length<=n->S'[n]?=some (.lst ((dR K c).map cQ))->Q (.loc n) S'):Rest Γ pBr D [some (Nt K),some (.str [c]),none,none,none,none] S:=by
 subst hD;unfold pBr Nt;room;refine#[by simp,?_];have x0:Ext S (S++[SO.lst []]):=Ext.app _;have g0:(S++[SO.lst []])[S.length]?=some (.lst ((([]:List (List Tr))).map cQ)):=by simp
 generalize S++[SO.lst []]=S0 at x0 g0;room;dsimp[me,bg];have el:∀S,mH S (cQ K)=some K.length:=λS=>by simp[cQ,mH]
 rw[el,bg]
 refine#[by simp,∅,∅,∅,?_];rwa[cx (λi env S1=>∃(acc:List (List Tr))(m:Nat)(x4:Option U),env=[some (.tup [.str [114,111,119],cQ K]),some (.str [c]),some (.loc m),none,x4,none]/\Ext S S1/\S.length<=m/\S1[m]?=some (.lst (acc.map cQ))/\acc++dR (K.drop i) c=dR K c) (λ_ _ _ _=>trivial) _ ?_ ?_ #[[],S.length,none,rfl,x0,aq _,g0,rfl]]
 .rintro i u env S1 K' hu ⟨acc,m,x4,rfl,x1,ml,g1,inv⟩ hK'
  let#[rfl,hi]:=jf hu;have hi:i<K.length:=by simpa using hi
  have ht:K[i]?=some K[i]:=aa hi;have hd':K.drop i=K[i]::K.drop (i+1):=eT hi;have hm:K[i]∈K:=cC hi;generalize K[i]=t at ht hd' hm;have tl:=hK t hm;have ts:=JQ hm;have ai:∀{r:U->Prop},opt (sP (K.map enc) ((i:Nat):Int)) r=r (enc t):=λ{r}=>by rw[jN,aB,ht];rfl
  have bl:=JP K c;rw[<-inv,az] at bl;rw[hd',dR] at inv;have fl:=mj t c;room;dsimp[me,bg];unfold cQ;dsimp[DZ,ai,ak];refine#[by simp,∅,ca h1 #[_,c,rfl,.inl #[t,rfl,tl,∅,λn S2 x2 nl g2=>?_]]];room;rw[g2,aD]
  rwa[gB (S:=S2) _ (((dF t c).map (·++K.drop (i+1))).map cQ) (by simp) (by simp;omega) (λS' x=>x.get g2) (λu S' k h=>h) (λj u v hu hv S' k x hk=>?_) λS3 x3=>?_]
  .let#[y,e,rfl]:=d6 hu
   rw[aB,aB,e] at hv;have hv:=aF hv;subst hv;have yl:=fl.2 y (af e);refine#[by simp,?_];have e1:((i:Int)+1)=((i+1:Nat):Int):=∅
   dsimp[SS,e1,xX];refine#[#[λi e=>(by injection e with e;omega),λi e=>(by cases e)],#[by simp;omega,?_,by simp],?_]
   .intro z
    have:=congrArg cG z;simp at this;rw[this] at hi;simp at hi
   .unfold cQ
    rw[Qc]
    refine#[by simp;omega,?_];have:dg enc y++List.drop (i+1) (dg enc K)=dg enc (y++List.drop (i+1) K):=by simp[List.map_drop]
    rw[this]
    erw[hk S' .refl]
  .have x13:Ext S1 S3:=x2.trans x3
   generalize hW:((dF t c).map (·++K.drop (i+1)))=W at inv;have wl:W.length<=1000:=by rw[<-hW];simp;omega
   rw[ah (aN (x13.get g1)),x13.get g1,aD]
   rw[aw (aq _),bR]
   dsimp[Af,aD];refine#[by simp;omega,?_];have x4:Ext S3 (S3++[SO.lst (W.map cQ)]++[SO.lst (acc.map cQ++W.map cQ)]):=(Ext.app _).trans (Ext.app _);have g4:(S3++[SO.lst (W.map cQ)]++[SO.lst (acc.map cQ++W.map cQ)])[(S3++[SO.lst (W.map cQ)]).length]?=some (.lst ((acc++W).map cQ)):=by
    rw[aw (aq _),bR,aK];rfl
   have l4:S.length<=(S3++[SO.lst (W.map cQ)]).length:=by have:=(x1.trans x13).1;rw[az];omega
   generalize (S3++[SO.lst (W.map cQ)]).length=m4 at g4 l4;generalize S3++[SO.lst (W.map cQ)]++[SO.lst (acc.map cQ++W.map cQ)]=S4 at x4 g4;room;dsimp[me,bg,DZ,ai,ak];refine#[by simp,∅,ca h2 #[_,rfl,.inl #[t,rfl,tl,λS5 x5=>?_]]];room;have xx:Ext S S5:=(x1.trans x13).trans (x4.trans x5);cases nt:null t with
   |false=>
    rw[nt] at inv;dsimp[bK,if_true];room;refine q m4 S5 xx l4 (by rw[<-inv];simp;have:=x5.get g4;simpa using this)
   |true=>
    rw[nt] at inv;dsimp[a9,ag,if_false];room;erw[hK' _ _ #[acc++W,m4,_,rfl,xx,l4,x5.get g4,by rw[<-inv];simp]]
 .rintro env S1 ⟨acc,m,x4,rfl,x1,ml,g1,inv⟩
  room;have:K.drop (dg (λk=>U.int ((k:Nat):Int)) (bX K.length)).length=[]:=jA (by simp);rw[this,dR,cq] at inv;erw[q m S1 x1 ml (by rw[<-inv];exact g1)]
theorem VT(Γ:bZ)(d:Nat)(hd:d<=100)(h1:Γ "_law_behind"=Dk d)(h2:Γ "_law_nothing"=zk d):Keeps Γ jY 4 (Dk (d+1)):=by
 rintro us S Q ⟨u,c,rfl,h⟩;unfold jY;rcases h with⟨t,rfl,dt,sz,q⟩|⟨K,rfl,-,dK,hl,hs,q⟩
 .cases t with
  |one n l=>
   rwa[rW rfl rfl ?_];unfold enc;room;dsimp[me,bg];refine#[by simp,?_];room;by_cases z:l.contains c=true
   .rw[if_pos z]
    refine#[by simp,by simp,q _ _ (Ext.app _) (aq _) ?_];have e:dF (.one n l) c=[[]]:=by dsimp[dF,if_pos z]
    rw[e];simp[cQ]
   .rw[if_neg z]
    refine#[by simp,q _ _ (Ext.app _) (aq _) ?_];have e:dF (.one n l) c=[]:=by dsimp[dF,if_neg z]
    rw[e];simp
  |row a b=>
   have dt:max (bS a) (bS b)+1<d+1:=dt;have sz:size a+size b<=1000:=sz;rwa[ji rfl rfl (ji rfl rfl (rW rfl rfl ?_))];rwa[JR (K:=[a,b]) hd h1 h2 rfl (λt m=>?_) (by simp) (by simp[jj];omega) λn S' x nl g=>q n S' x nl ?_]
   .rcases aR.mp m with rfl|m
    .omega
    .simp at m;subst m;omega
   .rw[g];simp[dR,dF]
  |or a b=>
   have dt:max (bS a) (bS b)+1<d+1:=dt;have sz:size a+size b<=1000:=sz;have la:=mj a c;have lb:=mj b c;rwa[ji rfl rfl (rW rfl rfl ?_)];unfold enc;room;refine#[by simp,?_];have g0:(S++[SO.lst []])[S.length]?=some (.lst []):=by simp
   have x0:Ext S (S++[SO.lst []]):=Ext.app _;generalize S.length=m0 at g0;generalize S++[SO.lst []]=S0 at g0 x0;room;dsimp[me,bg,YD,vk];refine#[by simp,by simp,trivial,?_];room;rwa[ca h1 #[_,c,rfl,.inl #[a,rfl,∅,∅,λn S1 x1 nl g1=>?_]]];room;rw[x1.get g0,g1]
   dsimp[aD,i0];refine#[by simp;omega,?_];have g2:(S1++[SO.lst ((dF a c).map cQ)])[S1.length]?=some (.lst ((dF a c).map cQ)):=by simp
   have x2:Ext S1 (S1++[SO.lst ((dF a c).map cQ)]):=Ext.app _;generalize S1.length=m2 at g2;generalize S1++[SO.lst ((dF a c).map cQ)]=S2 at g2 x2;room;rwa[ca h1 #[_,c,rfl,.inl #[b,rfl,∅,∅,λn3 S3 x3 nl3 g3=>?_]]];room;rw[x3.get g2,g3]
   dsimp[aD];refine#[by simp;omega,?_];room;have xx:=((x0.trans x1).trans x2).trans x3;erw[q _ _ (xx.trans (Ext.app _)) xx.1 (by simp[dF])]
  |rep m a=>
   have dt:bS a+1<d+1:=dt;have sz:size a<=1000:=sz;have k1:=qd m;have la:=mj a c;refine ji rfl (beq_eq_false_iff_ne.mpr k1.1) (ji rfl (beq_eq_false_iff_ne.mpr k1.2.2) (ji rfl (beq_eq_false_iff_ne.mpr k1.2.1) ?_));have go:Rest Γ (.cons (.ret (.comp false (.bin .add @0 @1) (.val (.call "_law_behind" (.cons (.ix @0 ↑1) (.cons @1 .nil)))) (.cH (.lit (.bl true))) [5])) .nil) #[λ_ S1=>Q .bV S1,Q] [some (enc (.rep m a)),some (.str [c]),none,none,none,some (cQ (more m a))] S:=by
    unfold enc;room;dsimp[me,bg];refine#[by simp,ca h1 #[_,c,rfl,.inl #[a,rfl,∅,∅,λn S1 x1 nl g1=>?_]]];room;rw[g1,aD]
    rwa[gB (S:=S1) _ (((dF a c).map (·++more m a)).map cQ) (by simp) (by simp;omega) (λS' x=>x.get g1) (λu S' k h=>h) (λj u v hu hv S' k x hk=>?_) λS3 x3=>?_]
    .let#[y,e,rfl]:=d6 hu
     rw[aB,aB,e] at hv;have hv:=aF hv;subst hv;have yl:=la.2 y (af e);unfold cQ;room;have ml:(more m a).length<=1:=by cases m<;>simp[more]
     refine#[by simp;omega,?_];have:=hk S' .refl;unfold cQ at this;simpa using this
    .have x13:=x1.trans x3
     erw[q _ _ (x13.trans (Ext.app _)) x13.1 (by simp[dF])]
   have ek:enc (.rep m a)= .tup [.str (nQ m),enc a]:=rfl;rw[ek] at go ⊢;room;dsimp[qx,me,bg];refine#[by simp,?_];room;cases m with
   |may=>
    rw[if_pos (by simp[nQ])]
    exact#[by simp,go]
   |star=>
    rw[if_neg (by simp[nQ])]
    exact#[by simp,by simp,by simp,go]
   |plus=>
    rw[if_neg (by simp[nQ])]
    exact#[by simp,by simp,by simp,go]
 .erw[ji rfl rfl (ji rfl rfl (rW rfl rfl (JR hd h1 h2 rfl (λt m=>by have:=dK t m;omega) hl hs q)))]
def VU:Spec:=λus S Q=>∃n c X t H n0,us=[.loc n,.str [c]]/\S[n]?=some (.lst X)/\Ru t H X/\n6 n0 t/\0<n0/\bS t<4/\size t<=100/\X.length<=1000/\∀m Y S',Ext S S'->S'[m]?=some (.lst Y)->Ru t (Bd t c H) Y->Q (.loc m) S'
theorem vS{α:Type}:∀{l l':List α},l.Nodup->(∀x∈l,x∈l')->l.length<=l'.length
 |[],_,_,_=>by simp
 |a::l,l',nd,h=>by
  let#[s,t,rfl]:=GH (h a (aQ ..));rw[eY] at nd;have:=vS (l':=s++t) nd.2 λx m=>by
   have hx:=h x (aA _ m);dsimp[aL,aR] at hx ⊢;rcases hx with z|z|z
   .erw[.inl z]
   .subst z;erw[absurd m nd.1]
   .erw[.inr z]
  dsimp[az,aZ] at this ⊢;omega
def Xx(t:Tr)(c:Nat)(H:Nat->Prop)(y:U):Prop:=∃p,Bd t c H p/\y=cQ (ct t p)
theorem OD{t:Tr}{c:Nat}{H:Nat->Prop}(dt:bS t<4)(sz:size t<=100):∀{Y:List U},(∀y∈Y,Xx t c H y)->kE Y=true/\oj Y<=100
 |[],_=>#[rfl,by simp[oj]]
 |y::Y,h=>by
  let#[p,_,rfl]:=h y (aQ ..);let#[i1,i2]:=OD dt sz λz m=>h z (aA _ m)
  have e2:=Bk (d:=3) (ct t p) λx m=>KJ ((Dj (p:=p) dt sz).2.1 x m)
  constructor
  .show(kE _&&kE Y)=true
   rw[Di (ct t p),i1];rfl
  .erw[Nat.max_le.mpr #[aH (oa e2) ⋯,i2]]
theorem VW{t:Tr}{c n0:Nat}{H:Nat->Prop}(pl:n6 n0 t)(sz:size t<=100){Y:List U}(nd:Y.Nodup)(h:∀y∈Y,Xx t c H y):Y.length<=100:=by
 have:=vS (l':=(List.range' n0 (size t)).map λp=>cQ (ct t p)) nd λy m=>by
  let#[p,#[q,_,f,_],rfl]:=h y m;erw[bG.mpr #[p,Hg.mpr ((fg pl).mp (xR f)),rfl]]
 rw[ak,List.length_range'] at this;erw[aH this sz]
theorem VX(Γ:bZ)(h1:Γ "_law_behind"=Dk 5):Keeps Γ kI 3 VU:=by
 rintro us S Q ⟨n,c,X,t,H,n0,rfl,g,rp,pl,n1,dt,sz,hX,q⟩;unfold kI;room;refine#[by simp,?_];have x0:Ext S (S++[SO.lst []]):=Ext.app _;have g0:(S++[SO.lst []])[S.length]?=some (.lst []):=by simp
 room;rw[x0.get g,aD]
 have nS:=aN g;rwa[cx (λi env S1=>∃(Y:List U)(x3 x4:Option U),env=[some (.loc n),some (.str [c]),some (.loc S.length),x3,x4]/\Ext S S1/\S1[S.length]?=some (.lst Y)/\Y.Nodup/\(∀y∈Y,Xx t c H y)/\∀(j:Nat)p,j<i->X[j]?=some (cQ (ct t p))->∀y∈dR (ct t p) c,cQ y∈Y) (λi env S1 h9=>by let#[_,_,_,_,x,_]:=h9;erw[x.get g]) _ ?_ ?_ #[[],none,none,rfl,x0,g0,by simp,by simp,∅]]
 .rintro i u env S1 K hu ⟨Y,x3,x4,rfl,x1,g1,nd,hP,inv⟩ hK
  let#[p,hp,rfl]:=(rp.1 u).mp (af hu);let#[l1,l2,l3]:=Dj (p:=p) dt sz;room;refine#[by simp,ca h1 #[_,c,rfl,.inr #[ct t p,rfl,∅,λx m=>by have:=l2 x m;omega,∅,∅,λm S2 x2 ml g2=>?_]]];have ml:S.length<m:=av (aN g1) ml;room;rw[g2,aD]
  rwa[cx (λj env S3=>∃(Z:List U)(x4:Option U),env=[some (.loc n),some (.str [c]),some (.loc S.length),some (cQ (ct t p)),x4]/\Ext S S3/\S3[m]?=some (.lst ((dR (ct t p) c).map cQ))/\S3[S.length]?=some (.lst Z)/\Z.Nodup/\(∀y∈Z,Xx t c H y)/\(∀y∈Y,y∈Z)/\∀k y,k<j->(dR (ct t p) c)[k]?=some y->cQ y∈Z) (λj env S3 h9=>by let#[_,_,_,_,g,_]:=h9;erw[g]) _ ?_ ?_ #[Y,x4,rfl,x1.trans x2,g2,x2.get g1,nd,hP,λ_ h=>h,∅]]
  .rintro j u env S3 K' hu ⟨Z,x4,rfl,x3,g3,gz,nd,hP,hY,inv'⟩ hK'
   let#[y,hy,rfl]:=d6 hu;let#[p',f1,f2,rfl]:=(JC pl n1).mp (af hy);have st:Bd t c H p':=#[p,hp,f1,f2]
   have zl:=VW pl sz nd hP;have fz:=OD dt sz hP;have eb:(Z.any λw=>nv w (cQ (ct t p')))=true↔cQ (ct t p')∈Z:=by
    rw[ke]
    constructor
    .rintro⟨w,m,e⟩
     let#[p2,_,rfl]:=hP w m;rw[zj.mp e] at m;erw[m]
    .intro m;exact#[_,m,zj.mpr rfl]
   have ev:cQ (ct t p')= .tup ((ct t p').map enc):=rfl;rw[ev] at eb ⊢;room;rw[gz,aD]
   refine#[#[Di _,fz.1,fz.2],?_];by_cases z:(Z.any λw=>nv w (.tup ((ct t p').map enc)))=true
   .rw[z]
    dsimp[a9,ag,if_false];room;rwa[hK' _ _ #[Z,_,rfl,x3,g3,gz,nd,hP,hY,λk y hk ey=>?_]];by_cases e:k=j
    .subst e;rw[hy] at ey;cases ey;erw[eb.mp z]
    .erw[inv' k y ∅ ey]
   .rw[fH _ |>.mp z]
    dsimp[bK,if_true];room;rw[gz,aD]
    refine#[trivial,gg zl ⋯,?_];room;have nz:¬U.tup ((ct t p').map enc)∈Z:=λm=>z (eb.mpr m)
    rwa[hK' _ _ #[Z++[.tup ((ct t p').map enc)],_,rfl,x3.st (aq _),by rw[ao (aY ml)];erw[g3],gs gz,?_,λy m=>?_,λy m=>bp _ (hY y m),λk y hk ey=>?_]]
    .rw[dq]
     exact#[nd,by simp,λa ma b mb e=>by simp at mb;subst mb;subst e;erw[nz ma]]
    .rcases aL.mp m with m|m
     .erw[hP y m]
     .simp at m;exact#[p',st,m]
    .by_cases e:k=j
     .subst e;rw[hy] at ey;cases ey;erw[ba _ (by simp[cQ])]
     .erw[bp _ (inv' k y ∅ ey)]
  .rintro env S3 ⟨Z,x4,rfl,x3,g3,gz,nd,hP,hY,inv'⟩
   room;rwa[hK _ _ #[Z,_,_,rfl,x3,gz,nd,hP,λj p2 hj ej y my=>?_]];by_cases e:j=i
   .subst e
    rw[hu] at ej;have e2:=RK (c:=c) (aF ej);have:cQ y∈(dR (ct t p2) c).map cQ:=bG.mpr #[y,my,rfl];rw[<-e2] at this;let#[y2,m2,e3]:=bG.mp this;let#[k,hk]:=bq m2;rw[<-e3]
    exact inv' k y2 (by have:=(ae.mp hk).1;simpa using this) hk
   .erw[hY _ (inv j p2 ∅ ej y my)]
 .rintro env S1 ⟨Y,x3,x4,rfl,x1,g1,nd,hP,inv⟩
  room;rwa[q _ Y S1 x1 g1 #[λy=>#[λm=>hP y m,?_],nd]];rintro⟨p,⟨q',hq,f1,f2⟩,rfl⟩;let#[j,hj]:=bq ((rp.1 _).mpr #[q',hq,rfl]);erw[inv j q' (ae.mp hj).1 hj _ ((JC pl n1).mpr #[p,f1,f2,rfl])]
def VY:Spec:=λus S Q=>∃n X t H,us=[.loc n]/\S[n]?=some (.lst X)/\Ru t H X/\bS t<4/\size t<=100/\X.length<=1000/\∀b S',(b=true↔En t H)->Ext S S'->Q (.bl b) S'
theorem any_rows(h1:Γ N=Xw f fR 5)(key:∀M:List Tr,fR (M.map er)=fR M)(g:S[n]?=some (.lst X))(rp:Ru t H X)(dt:bS t<4)(sz:size t<=100)(hl:X.length<=1000)(q:∀b S',(b=true↔∃p,H p/\fR (ct t p)=true)->Ext S S'->Q (.bl b) S'):
  WE Γ (.blt .any (.cons (.comp false (.call N (.cons (.tup (.cons ↑[114,111,119] (.cons @0 .nil))) .nil)) (.val @0) (.cH (.lit (.bl true))) []) .nil)) [some (.loc n)] S Q:=by
 room;rw[g,aD]
 rwa[iF X (λi acc S1=>Ext S S1/\∃bs:List Bool,acc=bs.map .bl/\bs.length=i/\∀(j:Nat)p,j<i->X[j]?=some (cQ (ct t p))->bs[j]?=some (fR (ct t p))) (λi acc S1 hi h9=>by let#[x,bs,e1,e2,_]:=h9;exact#[x.get g,by rw[e1,ak];omega]) (λi u acc S1 k hu hi hk=>?_) (λacc S1 h=>?_) #[.refl,[],rfl,rfl,∅]]
 .let#[x,bs,rfl,e2,inv]:=hi
  let#[p,hp,rfl]:=(rp.1 u).mp (af hu);let#[l1,l2,l3]:=Dj (p:=p) dt sz;room;refine#[by simp,ca h1 #[_,rfl,.inr #[ct t p,rfl,∅,λy m=>by have:=l2 y m;omega,∅,λS2 x2=>?_]]];rwa[hk _ _ #[x.trans x2,bs++[fR (ct t p)],by simp,by simp[e2],λj p2 hj ej=>?_]];by_cases z:j=i
  .subst z
   rw[hu] at ej;rw[aw ∅,e2,bR,<-key,OC (aF ej),key];rfl
  .rw[ah ∅];erw[inv j p2 ∅ ej]
 .let#[x,bs,rfl,e2,inv]:=h
  refine#[bs,by simp,q _ _ ?_ (x.trans (Ext.app _))];rw[ke]
  constructor
  .rintro⟨b,m,hb⟩
   let#[j,hj]:=bq m;have jl:j<X.length:=by rw[<-e2];exact(ae.mp hj).1
   let#[p,hp,e]:=(rp.1 _).mp (cC jl);have:=inv j p jl (by rw[aa jl,e]);rw[hj] at this;have:=aF this;exact#[p,hp,by rw[<-this];erw[hb]]
  .rintro⟨p,hp,hn⟩
   let#[j,hj]:=bq ((rp.1 _).mpr #[p,hp,rfl]);have:=inv j p (ae.mp hj).1 hj;exact#[_,af this,by rw[hn];rfl]
theorem VZ(Γ:bZ)(h1:Γ "_law_nothing"=zk 5):Keeps Γ oO 0 VY:=by
 rintro us S Q ⟨n,X,t,H,rfl,g,rp,dt,sz,hl,q⟩;erw[rr (any_rows h1 JO g rp dt sz hl q)]
theorem Ey(pl:n6 n0 t)(h:Ru t (hs t w) X):X.length<=size t+1:=by
 have:=vS (l':=(0::List.range' n0 (size t)).map λp=>cQ (ct t p)) h.2 λy m=>by
  let#[p,hp,rfl]:=(h.1 y).mp m;rwa[bG.mpr #[p,?_,rfl]];rcases Vp hp with z|z
  .subst z;simp
  .erw[aA _ (Hg.mpr ((fg pl).mp z))]
 simpa using this
theorem RL(h:Bj ts)(m:t∈ts):∃n,n6 n t/\0<n/\size t<=100/\bS t<4:=by
 let#[i,e]:=bq m;have:=size_take e;have:=h.sz;exact#[_,zg h.pl e,∅,∅,h.dp t m]
noncomputable def zV(m:List Nat)(c:Nat):List Nat:=if m.contains c=true then [92,c] else [c]
theorem Dl(m:List Nat)(c:Nat):(zV m c).length<=2:=by unfold zV;split<;>simp
def Tc(R:List Nat):List Nat:=zV MW (R.headD 0)++[45]++zV MW (R.getLastD 0)
def OE(R:List Nat):List (List Nat):=if (R.map (zV MW)).flatten.length<=(Tc R).length then R.map (zV MW) else [Tc R]
def ZI(st:List (List Nat)×List Nat)(c:Nat):List (List Nat)×List Nat:=if iP (st.2++[c]) SG=true then(st.1,st.2++[c]) else(st.1++[st.2],[c])
def Td(l:List Nat):List (List Nat):=(l.foldl ZI ([],[])).1++[(l.foldl ZI ([],[])).2]
def Gf(l:List Nat):List (List Nat):=(Td l).flatMap OE
noncomputable def RM:List (List Nat)->List Nat
 |[]=>[]
 |x::r=>if [94].isPrefixOf x=true then(if r.isEmpty=true then 92::x else r.flatten++x) else(x::r).flatten
def Te(l:List Nat):List (List Nat):=(if l==[] then [] else [[91]++RM (Gf l)++[93]])++if l==SG then [] else [[91,94]++(Gf (dO l)).flatten++[93]]
noncomputable def ZJ:List (List Nat)->List Nat
 |[]=>[]
 |t::ts=>ts.foldl (λb x=>if x.length<b.length then x else b) t
def KZ(l:List Nat):List Nat:=if l.length=1 then zV MO (l.headD 0) else ZJ (Te l)
def Gg(l:List Nat):Bool:=decide (l.length<=95)&&((Td l).all λR=>!(R==[])&&decide (R.length<=95))&&decide ((Td l).length<=100)&&decide ((Gf l).length<=200)&&decide ((Gf l).flatten.length<=400) && !(Gf l==[])
def RO:Spec:=λus S Q=>∃c m,us=[.str [c],.str m]/\Q (.str (zV m c)) S
theorem V0(Γ:bZ):Keeps Γ lN 0 RO:=by
 rintro us S Q ⟨c,m,rfl,q⟩;unfold lN;room;unfold zV at q;by_cases z:m.contains c=true
 .rw[if_pos z] at q ⊢
  exact#[by simp,q]
 .rw[if_neg z] at q ⊢
  erw[q]
theorem tj:∀ts:List (List Nat),lK [] ts=ts.flatten
 |[]=>rfl
 |[x]=>by simp[lK]
 |x::y::r=>by
  rw[lK,tj (y::r)]
  .simp
  .simp
theorem zo(ts:List (List Nat)):(ts.map cG).sum+ts.length*([]:List Nat).length=ts.flatten.length:=by rw[List.length_flatten];simp
def V1:Spec:=λus S Q=>∃R,us=[.str R]/\R≠[]/\R.length<=95/\∀n S',Ext S S'->S'[n]?=some (.lst ((OE R).map .str))->Q (.loc n) S'
theorem JS(m:List Nat):∀R:List Nat,(R.map (zV m)).flatten.length<=2*R.length
 |[]=>by simp
 |c::r=>by
  have:=JS m r;have:=Dl m c;rw[ay,mz,az,aZ];omega
theorem V2(Γ:bZ)(h1:Γ "sign_text"=RO):Keeps Γ lO 2 V1:=by
 rintro us S Q ⟨R,rfl,ne,hl,q⟩;unfold lO;have f2:=JS MW R;room;rwa[gB (S:=S) _ ((R.map (zV MW)).map .str) (by simp) (by simp;omega) (λ_ _=>trivial) (λu S' k h=>h) (λi u v hu hv S' k x hk=>?_) λS1 x1=>?_]
 .let#[c,e,rfl]:=d6 hu
  rw[aB,aB,e] at hv;cases hv;erw[ca h1 #[c,MW,rfl,hk S' .refl]]
 have g2:(S1++[SO.lst ((R.map (zV MW)).map U.str)])[S1.length]?=some (.lst ((R.map (zV MW)).map U.str)):=by simp
 have x2:Ext S (S1++[SO.lst ((R.map (zV MW)).map U.str)]):=x1.trans (Ext.app _);generalize S1.length=m at g2;generalize S1++[SO.lst ((R.map (zV MW)).map U.str)]=S2 at g2 x2;have t1:=Dl MW (R.headD 0);have t2:=Dl MW (R.getLastD 0);have wl:(Tc R).length<=5:=by unfold Tc;rw[az,az];dsimp[aZ,dM];omega
 have e0:sP R 0=some (R.headD 0):=by
  cases R with
  |nil=>erw[absurd rfl ne]
  |cons a r=>erw[qx]
 have el:sP R (-1)=some (R.getLastD 0):=by
  have:0<R.length:=E5.mpr ne;unfold sP P5;rw[if_neg ∅,if_pos ∅]
  dsimp[GI];rw[List.getLastD_eq_getLast?,List.getLast?_eq_getElem?]
  have e:((-1:Int)+(R.length:Int)).toNat=R.length-1:=∅
  rw[e,aa ∅]
  rfl
 room;rw[e0,el]
 dsimp[bg];refine#[∅,ca h1 #[_,MW,rfl,#[by rw[gC];omega,∅,ca h1 #[_,MW,rfl,#[by rw[az,gC];omega,?_]]]]];have ew:zV MW (R.headD 0)++[45]++zV MW (R.getLastD 0)=Tc R:=rfl;rw[ew]
 room;refine#[_,g2,by rw[zo];omega,?_];rw[tj]
 refine#[∅,∅,?_];unfold OE at q;by_cases z:(R.map (zV MW)).flatten.length<=(Tc R).length
 .rw[if_pos z] at q
  rw[if_pos (by simpa using z)]
  erw[q _ _ x2 g2]
 .rw[if_neg z] at q
  rw[if_neg (by simpa using z)]
  exact#[by simp,q _ _ (x2.trans (Ext.app _)) (by simp)]
def V3:Spec:=λus S Q=>∃l,us=[.str l]/\l.length<=95/\∀n S',Ext S S'->S.length<=n->S'[n]?=some (.lst ((Td l).map .str))->Q (.loc n) S'
theorem V4(Γ:bZ):Keeps Γ yN 3 V3:=by
 rintro us S Q ⟨l,rfl,hl,q⟩;unfold Td ZI at q;unfold yN;generalize hG:SG=G at q ⊢;room;refine#[by simp,?_];have x0:Ext S (S++[SO.lst []]):=Ext.app _;have g0:(S++[SO.lst []])[S.length]?=some (.lst []):=by simp
 room;have keep:∀{S1:bJ}{o:SO},Ext S S1->Ext S (S1.set S.length o):=λx=>(x.st ∅)
 rwa[cx (λi env S1=>∃(st:List (List Nat)×List Nat)(x3:Option U),env=[some (.str l),some (.loc S.length),some (.str st.2),x3]/\S1[S.length]?=some (.lst (st.1.map .str))/\Ext S S1/\st.1.length<=i/\st.2.length<=i/\i<=l.length/\st=(l.take i).foldl (λst c=>if iP (st.2++[c]) G=true then(st.1,st.2++[c]) else(st.1++[st.2],[c])) ([],[])) (λ_ _ _ _=>trivial) _ ?_ ?_ #[([],[]),none,rfl,g0,x0,by simp,by simp,∅,rfl]]
 .rintro i u env S1 K hu ⟨st,x3,rfl,g1,x1,l1,l2,hi,e⟩ hK
  let#[c,hc,rfl]:=d6 hu;have il:=(ae.mp hc).1;have et:=GN hc;room;refine#[by simp;omega,?_];show(if (!iP (st.2++[c]) G)=true then _ else _)
  by_cases z:iP (st.2++[c]) G=true
  .rw[z]
   dsimp[a9,ag,if_false];room;refine#[by simp;omega,?_];room;rwa[hK _ _ #[(st.1,st.2++[c]),_,rfl,g1,x1,by simp;omega,by simp;omega,il,?_]];rw[et,fj,<-e]
   dsimp[gu,fG,if_pos z]
  .rw[fH _ |>.mp z]
   dsimp[bK,if_true];room;rw[g1,aD]
   refine#[trivial,by simp;omega,?_];room;refine#[by simp,?_];room;rwa[hK _ _ #[(st.1++[st.2],[c]),_,rfl,by rw[gs g1];simp,keep x1,by simp;omega,by simp,il,?_]];rw[et,fj,<-e]
   dsimp[gu,fG,if_neg z]
 .rintro env S1 ⟨st,x3,rfl,g1,x1,l1,l2,hi,e⟩
  room;rw[g1,aD]
  rw[ak] at l1 e;rw[bY] at e;refine#[trivial,by simp;omega,?_];room;erw[q _ _ (keep x1) (aq _) (by rw[gs g1,<-e];simp)]
def V5:Spec:=λus S Q=>∃l,us=[.str l]/\Gg l=true/\∀n S',Ext S S'->S'[n]?=some (.lst ((Gf l).map .str))->Q (.loc n) S'
theorem Ez{α β:Type}(f:α->List β):∀(l:List α)(i:Nat),((l.take i).flatMap f).length<=(l.flatMap f).length
 |[],i=>by simp
 |a::l,0=>by simp
 |a::l,i+1=>by
  have:=Ez f l i;rw[EZ,Hh,Hh,az,az];omega
theorem V6(Γ:bZ)(h1:Γ "runs"=V3)(h2:Γ "run_items"=V1):Keeps Γ jU 2 V5:=by
 rintro us S Q ⟨l,rfl,ok,q⟩;unfold Gg at ok;dsimp[aj,decide_eq_true_eq] at ok;let#[#[#[#[#[o1,o2],o3],o4],o5],o6]:=ok;rw[cB] at o2;unfold Gf at q o4;unfold jU;room;refine#[by simp,?_];have x0:Ext S (S++[SO.lst []]):=Ext.app _;have g0:(S++[SO.lst []])[S.length]?=some (.lst []):=by simp
 have l0:(S++[SO.lst []]).length=S.length+1:=by simp
 generalize S++[SO.lst []]=S1 at x0 g0 l0;room;rwa[ca h1 #[l,rfl,o1,λn S2 x2 nl g2=>?_]];generalize Td l=Rs at o2 o3 o4 q g2;room;rw[g2,aD]
 refine cx (λi env S3=>∃x,env=[some (.str l),some (.loc S.length),x]/\S3[S.length]?=some (.lst (((Rs.take i).flatMap OE).map .str))/\S3[n]?=some (.lst (Rs.map .str))/\Ext S S3) (λi env S3 h9=>by let#[_,_,_,h,_]:=h9;erw[h]) _ ?_ ?_ #[none,rfl,by simpa using x2.get g0,g2,x0.trans x2]
 .rintro i u env S3 K hu ⟨x,rfl,g3,g4,x3⟩ hK
  let#[R,hc,rfl]:=d6 hu;have hR:=o2 R (af hc);dsimp[aj,decide_eq_true_eq,gI,beq_eq_false_iff_ne] at hR;have tk:(Rs.take (i+1)).flatMap OE=(Rs.take i).flatMap OE++OE R:=by rw[jB,hc];simp
  have tl:=Ez OE Rs (i+1);rw[tk,az] at tl;room;rw[g3,aD]
  refine#[trivial,ca h2 #[R,rfl,hR.1,hR.2,λm S4 x4 g5=>?_]];room;rw[x4.get g3,g5,aD,aD]
  refine#[by rw[ak,ak];omega,?_];room;rwa[hK _ _ #[_,rfl,by rw[gs (x4.get g3),tk];simp,?_,?_]]
  .rw[ao ∅];erw[x4.get g4]
  .have:=x3.trans x4
   exact(this.st ∅)
 .rintro env S3 ⟨x,rfl,g3,g4,x3⟩
  rw[ak,bY] at g3;room;erw[q _ _ x3 g3]
theorem OF(x:List Nat)(r:List (List Nat)):RM (x::r)=if [94].isPrefixOf x=true then(if r.isEmpty=true then 92::x else r.flatten++x) else(x::r).flatten:=rfl
def V7:Spec:=λus S Q=>∃n its,us=[.loc n]/\S[n]?=some (.lst (its.map .str))/\its≠[]/\its.length<=200/\its.flatten.length<=400/\∀S',Ext S S'->Q (.str (RM its)) S'
theorem V8(Γ:bZ):Keeps Γ pE 0 V7:=by
 rintro us S Q ⟨n,its,rfl,g,ne,hl,hf,q⟩;unfold pE;cases its with
 |nil=>erw[absurd rfl ne]
 |cons x r=>
  rw[mz,az] at hf;dsimp[aZ] at hl;have a0:∀{R:U->Prop},opt (sP ((x::r).map U.str) 0) R=R (.str x):=by intro R;rw[ay,qx];rfl
  room;rw[g,aD]
  rw[a0]
  room;rw[OF] at q;by_cases z:[94].isPrefixOf x=true
  .rw[if_pos z] at q
   rw[z]
   dsimp[a9,ag,if_false];room;rw[lL g]
   dsimp[bg,ak,aZ];refine#[∅,?_];cases r with
   |nil=>
    have q:∀S',Ext S S'->Q (.str (92::x)) S':=q;rw[if_pos (by simp)]
    room;rw[g,aD]
    rw[a0]
    room;exact#[by simp at hf ⊢;omega,q S .refl]
   |cons y r=>
    rw[if_neg (by simp)] at q;rw[if_neg (by simp;omega)]
    room;dsimp[SS];rw[g,aD]
    have ec:sQ ((x::y::r).map U.str) (some 1) none=(y::r).map U.str:=xX (a:=1);rw[ec]
    refine#[#[λi e=>(by injection e with e;omega),λi e=>(by cases e)],y::r,by simp,by rw[zo];omega,?_];rw[tj]
    show getL (S++_)[n]? _
    rw[(Ext.app _:Ext S _).get g,aD,a0]
    room;exact#[∅,q _ (Ext.app _)]
  .rw[if_neg z] at q
   rw[fH _ |>.mp z]
   dsimp[bK,if_true];room;refine#[x::r,g,by rw[zo,mz,az];omega,?_];rw[tj]
   erw[q S .refl]
theorem RP(its:List (List Nat)):(RM its).length<=its.flatten.length+1:=by
 cases its with
 |nil=>simp[RM]
 |cons x r=>
  rw[OF]
  split
  .split
   .rename_i z;have:r=[]:=by simpa using z
    subst this;simp
   .simp;omega
  .simp
def RQ(l:List Nat):Bool:=(l==[]||Gg l)&&(l==SG||Gg (dO l))
def V9:Spec:=λus S Q=>∃l,us=[.str l]/\RQ l=true/\∀n S',Ext S S'->S'[n]?=some (.lst ((Te l).map .str))->Q (.loc n) S'
theorem Bl(h:Gg l=true):(Gf l).length<=200/\(Gf l).flatten.length<=400/\Gf l≠[]:=by
 unfold Gg at h;dsimp[aj,decide_eq_true_eq,gI,beq_eq_false_iff_ne] at h;exact#[h.1.1.2,h.1.2,h.2]
def pCt:dh:=#v[.ifs (.cH (.cmp .ne @0 (.lit (.str SG)))) #v[.ex (.jt .append @1 #v[.bin .add (.bin .add ↑[91,94] (.jt .join (.lit (.str [])) #v[.call "class_items" #v[.call "all_but" #v[@0]]])) ↑[93]])] .nil,.ret @1]
theorem Wa(Γ:bZ)(h1:Γ "class_items"=V5)(h2:Γ "guarded"=V7)(h3:Γ "all_but"=spT dO):Keeps Γ jT 1 V9:=by
 rintro us S Q ⟨l,rfl,ok,q⟩;unfold RQ at ok;rw[aj,bu,bu] at ok;have keep:∀{S1:bJ}{o:SO},Ext S S1->Ext S (S1.set S.length o):=λx=>(x.st ∅)
 have fin:∀S1 acc,Ext S S1->S1[S.length]?=some (.lst (acc.map .str))->acc.length<=10->acc=(if l==[] then [] else [[91]++RM (Gf l)++[93]])->Rest Γ pCt #[λ_ S1=>Q .bV S1,Q] [some (.str l),some (.loc S.length)] S1:=by
  intro S1 acc x1 g1 al ea;unfold Te at q;rw[<-ea] at q;unfold pCt;have ok2:=ok.2;generalize SG=G at q ok2;room;by_cases z:(l==G)=true
  .rw[z]
   rw[if_pos z,cq] at q;dsimp[a9,ag,if_false];room;erw[q _ _ x1 g1]
  .rw[fH _ |>.mp z]
   rw[if_neg z] at q;dsimp[bK,if_true];have ck:=ok2.resolve_left z;let#[f1,f2,f3]:=Bl ck;room;rw[g1,aD]
   refine#[trivial,ca h3 #[l,rfl,λS2 x2=>ca h1 #[_,rfl,ck,λn S3 x3 g3=>#[_,g3,by rw[zo];omega,?_]]]];rw[tj]
   refine#[by dsimp[aZ,dM];omega,by rw[az];dsimp[aZ,dM];omega,?_];show getL S3[S.length]? _;rw[(x2.trans x3).get g1,aD]
   refine#[by rw[ak];omega,?_];room;erw[q _ _ (keep (x1.trans (x2.trans x3))) (by rw[gs ((x2.trans x3).get g1)];simp)]
 unfold jT;room;refine#[by simp,?_];have x0:Ext S (S++[SO.lst []]):=Ext.app _;have g0:(S++[SO.lst []])[S.length]?=some (.lst []):=by simp
 generalize S++[SO.lst []]=S0 at x0 g0;room;by_cases z:(l==[])=true
 .rw[z]
  dsimp[a9,ag,if_false];erw[Rest.go (fin S0 [] x0 g0 (by simp) (by rw[if_pos z]))]
 .rw[fH _ |>.mp z]
  dsimp[bK,if_true];have ck:=ok.1.resolve_left z;let#[f1,f2,f3]:=Bl ck;have gl:=RP (Gf l);room;rw[g0,aD]
  refine#[trivial,ca h1 #[l,rfl,ck,λn S2 x2 g2=>ca h2 #[n,_,rfl,g2,f3,f1,f2,λS3 x3=>?_]]];room;refine#[by dsimp[aZ,dM];omega,by dsimp[aZ,dM];omega,?_];rw[(x2.trans x3).get g0,aD]
  refine#[by simp,?_];erw[Rest.go (fin _ [[91]++RM (Gf l)++[93]] (keep (x0.trans (x2.trans x3))) (by rw[gs ((x2.trans x3).get g0)];simp) (by simp) (by rw[if_neg z]))]
abbrev CL:List (List Nat):=[[97],[98],[99],[97,98],[98,99],SG,[48],[]]
theorem JT:∀l∈CL,l.length=1\/(RQ l=true/\(l==dO [10])=false/\Te l≠[]/\(Te l).all (λx=>decide (x.length<=1000))=true):=by
 decide +kernel
def NC:Spec:=λus S Q=>∃l,us=[.str l]/\l∈CL/\∀S',Ext S S'->Q (.str (KZ l)) S'
theorem Wb(Γ:bZ)(h1:Γ "sign_text"=RO)(h2:Γ "all_but"=spT dO)(h3:Γ "class_texts"=V9):Keeps Γ kG 0 NC:=by
 rintro us S Q ⟨l,rfl,hl,q⟩;have fa:=JT l hl;have ll:l.length<=95:=by
  have:∀l∈CL,l.length<=95:=⋯
  erw[this l hl]
 unfold kG;unfold KZ at q;room;refine#[∅,?_];by_cases z:l.length=1
 .rw[if_pos z] at q
  rw[if_pos (by rw[z];rfl)]
  obtain⟨c,rfl⟩:∃c,l=[c]:=jw.mp z;room;erw[ca h1 #[c,MO,rfl,q S .refl]]
 .rw[if_neg z] at q
  rw[if_neg (by simp;omega)]
  let#[f1,f2,f3,f4]:=fa.resolve_left z;room;rwa[ca h2 #[_,rfl,λS1 x1=>?_]];room;rw[f2]
  dsimp[ag,if_false];room;rwa[ca h3 #[l,rfl,f1,λn S2 x2 g2=>?_]];cases e:Te l with
  |nil=>erw[absurd e f3]
  |cons t ts=>
   rw[e] at g2 q f4;refine#[t,ts,g2,λu hu=>?_,q S2 (x1.trans x2)];have:=cB.mp f4 u hu;simp at this;omega
theorem RS:∀l∈CL,(KZ l).length<=10:=by decide +kernel
theorem uD:KZ [97,98]=[91,97,98,93]/\KZ [98,99]=[91,98,99,93]/\KZ SG=[91,10,45,126,93]/\KZ []=[91,94,10,45,126,93]:=by decide +kernel
set_option maxRecDepth 100000 in
theorem ND(h:l∈CL)(br:Option (List Nat->PR U)):vK br (KZ l) (Nk l):=by
 intro rest;dsimp[aR,cv,or_false] at h;rcases h with rfl|rfl|rfl|rfl|rfl|rfl|rfl|rfl
 .rfl
 .rfl
 .rfl
 .rw[uD.1];rfl
 .rw[uD.2.1];rfl
 .rw[uD.2.2.1];rfl
 .rfl
 .rw[uD.2.2.2];rfl
def num:Nat->Tr->Tr
 |n,.one _ l=>.one n l
 |n,.row a b=>.row (num n a) (num (n+size a) b)
 |n,.or a b=>.or (num n a) (num (n+size a) b)
 |n,.rep m a=>.rep m (num n a)
theorem tm:∀t n,enc (num n t)=enc t/\size (num n t)=size t/\bS (num n t)=bS t/\null (num n t)=null t/\mU (num n t)=mU t/\n6 n (num n t)
 |.one _ l,n=>#[rfl,rfl,rfl,rfl,rfl,rfl]
 |.row a b,n=>by
  let#[a1,a2,a3,a4,a5,a6]:=tm a n;let#[b1,b2,b3,b4,b5,b6]:=tm b (n+size a);dsimp[num,enc,size,bS,null,mU,n6,a1,a2,a3,a4,a5,b1,b2,b3,b4,b5];exact#[trivial,trivial,trivial,trivial,trivial,a6,b6]
 |.or a b,n=>by
  let#[a1,a2,a3,a4,a5,a6]:=tm a n;let#[b1,b2,b3,b4,b5,b6]:=tm b (n+size a);dsimp[num,enc,size,bS,null,mU,n6,a1,a2,a3,a4,a5,b1,b2,b3,b4,b5];exact#[trivial,trivial,trivial,trivial,trivial,a6,b6]
 |.rep m a,n=>by
  let#[a1,a2,a3,a4,a5,a6]:=tm a n;cases m<;>dsimp[num,enc,size,bS,null,mU,n6,a1,a2,a3,a4,a5]<;>exact#[trivial,trivial,trivial,trivial,trivial,a6]
def wD:Nat->List Tr->List Tr
 |_,[]=>[]
 |n,t::ts=>num n t::wD (n+size t) ts
theorem EA:∀ts n,(wD n ts).map enc=ts.map enc/\Nx n (wD n ts)/\gV (wD n ts)=gV ts/\∀t∈wD n ts,∃t'∈ts,bS t=bS t'/\null t=null t'/\mU t=mU t'
 |[],n=>#[rfl,trivial,rfl,by simp[wD]]
 |t::ts,n=>by
  let#[a1,a2,a3,a4,a5,a6]:=tm t n;let#[b1,b2,b3,b4]:=EA ts (n+size t);refine#[by dsimp[wD,ay,a1,b1],#[a6,by rw[a2];erw[b2]],by dsimp[gV] at b3 ⊢;dsimp[wD,ay,zR,a2,b3],λt' m=>?_];rcases aR.mp m with rfl|m
  .exact#[t,aQ ..,a3,a4,a5]
  .let#[t2,m2,h]:=b4 t' m
   exact#[t2,aA _ m2,h]
def tq(t:Tr):Prop:=∀l∈mU t,l∈CL
theorem lh:∀t,size t<=2^bS t
 |.one _ _=>by simp[size,bS]
 |.row a b=>by
  have h1:=lh a;have h2:=lh b;have p1:2^bS a<=2^max (bS a) (bS b):=bw ∅ ∅;have p2:2^bS b<=2^max (bS a) (bS b):=bw ∅ ∅;dsimp[size,bS,gh];omega
 |.or a b=>by
  have h1:=lh a;have h2:=lh b;have p1:2^bS a<=2^max (bS a) (bS b):=bw ∅ ∅;have p2:2^bS b<=2^max (bS a) (bS b):=bw ∅ ∅;dsimp[size,bS,gh];omega
 |.rep m a=>by
  have h1:=lh a;dsimp[size,bS,gh];omega
def NF(D:Nat):Spec:=λus S Q=>∃(ns:List Int)(b:Int)(d:Nat),us=[.rm ns,.int b,aU d]/\ns.length<=1000/\d<D/\∀t S',bS t<=d->tq t->Ext S S'->Q (enc t) S'
theorem JU(Γ:bZ)(D:Nat)(h1:Γ "_law_mix"=so.tU)(h2:Γ "_law_all"=so.Bb)(h3:Γ "_law_small"=NF D):Keeps Γ kJ 3 (NF (D+1)):=by
 rintro us S Q ⟨ns,b,d,rfl,hl,hd,q⟩;unfold kJ;room;refine ca h1 #[ns,b,rfl,hl,λm m0 m1=>?_];room;refine#[∅,?_];room;have leaf:Rest Γ (.cons (.ret (.tup (.cons ↑[111,110,101] (.cons (.ix (.lst (.cons ↑[97] (.cons ↑[98] (.cons ↑[99] (.cons ↑[97,98] (.cons ↑[98,99] (.cons (.call "_law_all" .nil) (.cons ↑[97] (.cons ↑[98] (.cons ↑[48] (.cons (.lit (.str [])) .nil))))))))))) (.bin .mod (.bin .fdiv @3 ↑9) ↑10)) .nil)))) .nil) #[λ_ S1=>Q .bV S1,Q] [some (.rm ns),some (.int b),some (aU d),some (.int m),some (.int (m%9)),none] S:=by
  room;rwa[ca h2 #[rfl,λG hG=>?_]];refine#[by simp,∅,∅,?_];have gl:(S++[SO.lst [U.str [97],U.str [98],U.str [99],U.str [97,98],U.str [98,99],U.str G,U.str [97],U.str [98],U.str [48],U.str []]])[S.length]?=some (.lst ([[97],[98],[99],[97,98],[98,99],G,[97],[98],[48],[]].map U.str)):=by simp
  rw[gl,aD]
  rwa[sX (kT _ ∅) (by simp;erw[i6 _ ∅]) λu hu=>?_]
  let#[l,ml,rfl]:=bG.mp hu;refine#[by simp,q (.one 0 l) _ (b8 _) (λl' m'=>?_) (Ext.app _)];have:l'=l:=by simpa[mU] using m'
  subst this;rw[hG] at ml
  revert ml
  dsimp[aR];rintro(h|h|h|h|h|h|h|h|h|h|h)<;>simp_all
 by_cases z:d=0\/m%9<4
 .have z1:((d:Int)== 0)=true\/(((d:Int)== 0)=false/\decide (m%9<4)=true):=by
   by_cases y:d=0
   .subst y;erw[.inl rfl]
   .rwa[.inr #[by rw[beq_eq_false_iff_ne];omega,decide_eq_true ∅]]
  rcases z1 with z1|⟨z1,z2⟩
  .dsimp[z1,if_true];erw[leaf]
  .dsimp[z1,z2,ag,if_false,if_true];erw[leaf]
 .have z1:((d:Int)== 0)=false:=by rw[beq_eq_false_iff_ne];omega
  have z2:decide (m%9<4)=false:=decide_eq_false ∅;obtain⟨d,rfl⟩:∃d',d=d'+1:=#[d-1,∅]
  have ed:(((d+1:Nat):Int)-1)=(d:Int):=∅
  dsimp[z1,z2,ag,if_false];room;by_cases y:m%9<7
  .dsimp[y,decide_true,if_true]
   room;refine#[∅,∅,?_];refine iF _ (λi acc S1=>Ext S S1/\∃l:List Tr,acc=l.map enc/\l.length=i/\∀t∈l,bS t<=d/\tq t) (λi acc S1 hi h9=>by let#[x,l,e1,e2,_]:=h9;exact#[trivial,by rw[e1,ak];simp at hi;omega]) (λi u acc S1 k hu hi hk=>?_) (λacc S1 h=>?_) #[.refl,[],rfl,rfl,by simp]
   .let#[x1,l,rfl,e2,inv]:=hi
    let#[rfl,_]:=jf (n:=2) hu;room;rw[ed]
    refine#[.inl ∅,ca h3 #[ns,_,d,rfl,hl,∅,λt S2 dt lt x2=>hk _ _ #[x1.trans x2,l++[t],by simp,by simp[e2],λt' m'=>?_]]];rcases aL.mp m' with m'|m'
    .erw[inv t' m']
    .simp at m';subst m';exact#[dt,lt]
   .let#[x1,l,rfl,e2,inv]:=h
    have e2:l.length=2:=e2;obtain⟨a,b,rfl⟩:∃a b,l=[a,b]:=by
     match l,e2 with
     |[a,b],_=>exact#[a,b,rfl]
    have ia:=inv a (by simp);have ib:=inv b (by simp);have g2:(S1++[SO.lst ([a,b].map enc)])[S1.length]?=some (.lst [enc a,enc b]):=by simp
    have x2:Ext S (S1++[SO.lst ([a,b].map enc)]):=x1.trans (Ext.app _);generalize S1.length=m2 at g2;generalize S1++[SO.lst ([a,b].map enc)]=S2 at g2 x2;room;refine#[by simp,?_];have gl:(S2++[SO.lst [U.str [114,111,119],U.str [111,114],U.str [114,111,119]]])[S2.length]?=some (.lst [U.str [114,111,119],U.str [111,114],U.str [114,111,119]]):=by simp
    rw[gl,aD,(Ext.app _:Ext S2 _).get g2]
    rwa[sX ∅ (by simp;omega) λu hu=>#[by simp,?_]]
    have lv:∀l∈mU a++mU b,l∈CL:=λl hl=>(aL.mp hl).elim (ia.2 l) (ib.2 l)
    dsimp[aR,cv,or_false] at hu;have dd:max (bS a) (bS b)+1<=d+1:=∅
    rcases hu with rfl|rfl|rfl
    .erw[q (.row a b) _ dd lv (x2.trans (Ext.app _))]
    .erw[q (.or a b) _ dd lv (x2.trans (Ext.app _))]
    .erw[q (.row a b) _ dd lv (x2.trans (Ext.app _))]
  .dsimp[y,decide_false,ag,if_false]
   room;refine#[by simp,∅,∅,?_];have gl:(S++[SO.lst [U.str [115,116,97,114],U.str [112,108,117,115],U.str [109,97,121,98,101]]])[S.length]?=some (.lst [U.str [115,116,97,114],U.str [112,108,117,115],U.str [109,97,121,98,101]]):=by simp
   rw[gl,aD]
   rwa[sX (kT _ ∅) (by simp;erw[i6 _ ∅]) λu hu=>?_]
   rw[ed]
   refine#[.inl ∅,ca h3 #[ns,_,d,rfl,hl,∅,λt S2 dt lt x2=>#[by simp,?_]]];have xx:Ext S S2:=(Ext.app _).trans x2;have dd:bS t+1<=d+1:=∅
   dsimp[aR,cv,or_false] at hu;rcases hu with rfl|rfl|rfl
   .erw[q (.rep .star t) _ dd lt xx]
   .erw[q (.rep .plus t) _ dd lt xx]
   .erw[q (.rep .may t) _ dd lt xx]
def RT:Spec:=λus S Q=>∃(ns:List Int)(bs k:Int)(dp:Nat),us=[.rm ns,.int bs,.int k,.int dp]/\dp<=2/\ns.length<=1000/\0<=k/\k<=4/\∀ts n S',Bj ts->(∀t∈ts,tq t)->(gV ts:Int)<=5*k->(ts.length:Int)=k/\(dp<=1->∀t∈ts,size t<=2/\bS t<=2)->Ext S S'->S'[n]?=some (.lst (ts.map enc))->Q (.loc n) S'
theorem RV:∀{t:Tr},bS t<=1->null t=true->size t=1
 |.one _ _,_,h=>by cases h
 |.row a b,d,h=>by
  have:bS a=0:=by dsimp[bS] at d;omega
  cases a<;>first| (simp[null] at h;done)| (simp[bS] at this;done)
 |.or a b,d,h=>by
  have h1:bS a=0:=by dsimp[bS] at d;omega
  have h2:bS b=0:=by dsimp[bS] at d;omega
  cases a<;>first| (simp[bS] at h1;done)| (cases b<;>first| (simp[bS] at h2;done)| (simp[null] at h;done))
 |.rep m a,d,h=>by
  have h1:bS a=0:=by dsimp[bS] at d;omega
  cases a<;>first|rfl| (simp[bS] at h1;done)
theorem Wc(Γ:bZ)(h1:Γ "_law_small"=NF 3)(h2:Γ "_law_nothing"=zk 5):Keeps Γ kK 3 RT:=by
 rintro us S Q ⟨ns,bs,k,dp,rfl,hdp,hl,k0,k4,q⟩;unfold kK;room;refine#[by simp,?_];have x0:Ext S (S++[SO.lst []]):=Ext.app _;have g0:(S++[SO.lst []])[S.length]?=some (.lst []):=by simp
 room;refine#[∅,∅,?_];rwa[cx (λi env S1=>∃(l:List Tr)(x5 x6:Option U),env=[some (.rm ns),some (.int bs),some (.int k),some (.int dp),some (.loc S.length),x5,x6]/\Ext S S1/\S1[S.length]?=some (.lst (l.map enc))/\l.length=i/\gV l<=5*i/\∀t∈l,bS t<4/\null t=false/\tq t/\(dp<=1->size t<=2/\bS t<=2)) (λ_ _ _ _=>trivial) _ ?_ ?_ #[[],none,none,rfl,x0,g0,rfl,by simp[gV],by simp]]
 .rintro i u env S1 K hu ⟨l,x5,x6,rfl,x1,g1,ll,sl,inv⟩ hK
  let#[rfl,hi]:=jf hu;room;refine#[.inl ∅,ca h1 #[ns,_,dp,rfl,hl,∅,λt S2 dt lt x2=>?_]];have st:size t<=4:=aH (lh t) (bw (n:=2) (j:=2) ∅ (aH dt hdp));have g2:=x2.get g1;room;refine ca h2 #[_,rfl,.inl #[t,rfl,∅,λS3 x3=>?_]];have g3:=x3.get g2;have fin:∀(t':Tr)(x5 x6:Option U),bS t'<4->null t'=false->tq t'->size t'<=5->(dp<=1->size t'<=2/\bS t'<=2)->x6=some (enc t')->Rest Γ (.cons (.ex (.jt .append @4 (.cons @6 .nil))) .nil) #[K,Q] [some (.rm ns),some (.int bs),some (.int k),some (.int dp),some (.loc S.length),x5,x6] S3:=by
   rintro t' x5 x6 d1 d2 d3 d4 d5 rfl;room;rw[g3,aD]
   refine#[trivial,by simp;omega,?_];room;have x13:=(x1.trans x2).trans x3;refine hK _ _ #[l++[t'],_,_,rfl,(x13.st ∅),by rw[gs g3];simp,by simp[ll],by simp[gV] at sl ⊢;omega,λt2 m2=>?_];rcases aL.mp m2 with m2|m2
   .erw[inv t2 m2]
   .simp at m2;subst m2;exact#[d1,d2,d3,d5]
  room;cases nt:null t with
  |false=>
   dsimp[ag,if_false];erw[fin t _ _ ∅ nt lt ∅ (λh=>#[aH (lh t) (bw (n:=2) (j:=1) ∅ (aH dt h)),∅]) rfl]
  |true=>
   dsimp[if_true];room;refine#[∅,by simp,?_];rwa[sX (kT _ ∅) (by simp;erw[i6 _ ∅]) λc hc=>#[by simp,by simp,by simp,?_]]
   rwa[fin (.row (.one 0 [c]) t) _ _ ?_ (by simp[null]) (λl hl=>?_) (by dsimp[size];omega) (λh=>#[by dsimp[size];rw[RV (aH dt h) nt];decide,by show max 0 (bS t)+1<=2;omega]) rfl]
   .show max 0 (bS t)+1<4;omega
   .rcases aL.mp hl with h|h
    .have:l=[c]:=by simpa[mU] using h
     subst this;dsimp[aR,cv,or_false] at hc;rcases hc with rfl|rfl|rfl<;>simp
    .erw[lt l h]
 .rintro env S1 ⟨l,x5,x6,rfl,x1,g1,ll,sl,inv⟩
  room;have ll2:=ll;have ll:l.length<=4:=by rw[ll];simp;omega
  let#[e1,e2,e3,e4]:=EA l 1;have el:(wD 1 l).length=l.length:=by have:=congrArg cG e1;simpa using this
  have ll':(l.length:Int)=k:=by rw[ll2];dsimp[ak,jx];omega
  refine q (wD 1 l) _ S1 #[∅,e2,λt m=>?_,λt m=>?_,by rw[e3];dsimp[ak,jx] at sl;omega] (λt m=>?_) (by rw[e3];dsimp[ak,jx] at sl;omega) #[by rw[el];erw[ll'],λh t m=>?_] x1 (by rw[e1];erw[g1])
  .let#[t',m',h]:=e4 t m;rw[h.2.1];exact(inv t' m').2.1
  .let#[t',m',h]:=e4 t m;rw[h.1];exact(inv t' m').1
  .let#[t',m',h]:=e4 t m
   intro l hl;rw[h.2.2] at hl;exact(inv t' m').2.2.1 l hl
  .let#[t',m',z]:=e4 t m
   have:=(inv t' m').2.2.2 h;rw[<-fU,z.2.2,fU,z.1];erw[this]
def JV:Spec:=λus S Q=>∃(ns:List Int)(b k:Int),us=[.rm ns,.int b,.int k]/\ns.length<=1000/\0<=k/\k<=12/\∀x S',(∀c∈x,c∈SG)->x.length<=12->Ext S S'->Q (.str x) S'
theorem Wd(Γ:bZ)(h1:Γ "_law_mix"=so.tU):Keeps Γ lT 0 JV:=by
 rintro us S Q ⟨ns,b,k,rfl,hl,k0,k10,q⟩;unfold lT;room;refine#[∅,∅,?_];refine iF _ (λi acc S1=>S1=S/\∃x:List Nat,acc=(x.map λc=>[c]).map U.str/\x.length=i/\∀c∈x,c∈SG) (λi acc S1 hi h9=>by let#[x,l,e1,e2,_]:=h9;exact#[trivial,by rw[e1];simp at hi ⊢;omega]) (λi u acc S1 k' hu hi hk=>?_) (λacc S1 h=>?_) #[rfl,[],rfl,rfl,by simp]
 .let#[rfl,x,rfl,e2,inv]:=hi
  let#[rfl,hi]:=jf hu;room;rwa[ca h1 #[ns,_,rfl,hl,λm m0 m1=>?_]];room;refine#[∅,by simp,?_];rwa[sX (kT _ ∅) (by simp;erw[i6 _ ∅]) λc hc=>hk _ _ #[rfl,x++[c],by simp,by simp[e2],λc' m'=>?_]]
  rcases aL.mp m' with m'|m'
  .erw[inv c' m']
  .simp at m';subst m'
   have:∀c∈[97,97,98,98,99,48,97,10,98,97,98],c∈SG:=⋯
   erw[this _ hc]
 .let#[rfl,x,rfl,e2,inv]:=h
  have xl:x.length<=12:=by rw[e2];simp;omega
  refine#[x.map λc=>[c],by simp,?_,?_]
  .have:∀l:List Nat,((l.map λc=>[c]).map cG).sum=l.length:=λl=>by induction l with
    |nil=>rfl
    |cons a l ih=>simp at ih ⊢;omega
   rw[this];simp;omega
  .have e:∀l:List Nat,(l.map λc=>[c]).flatten=l:=λl=>by induction l with
    |nil=>rfl
    |cons a l ih=>rw[ay,mz,ih];rfl
   rw[tj,e]
   erw[q x _ inv xl (Ext.app _)]
noncomputable def RW:Mk->Nat
 |.star=>42
 |.plus=>43
 |.may=>63
def tx:Tr->List Nat×List Nat
 |.one _ l=>(KZ l,KZ l)
 |.rep m a=>((tx a).1++[RW m],(tx a).1++[RW m])
 |.row a b=>(40::((tx a).1++(tx b).1++[41]),(tx a).1++(tx b).1)
 |.or a b=>(40::((tx a).2++124::(tx b).2++[41]),40::((tx a).2++124::(tx b).2++[41]))
def wr:Tr->List Nat
 |.or a b=>(tx a).2++124::(tx b).2
 |t=>(tx t).2
theorem dv:∀t,tq t->(tx t).1.length+3<=13*2^bS t/\(tx t).2.length<=(tx t).1.length/\(wr t).length<=(tx t).1.length
 |.one _ l,h=>by
  have:=RS l (h l (by simp[mU]));dsimp[tx,wr,bS];omega
 |.rep m a,h=>by
  have:=dv a h;dsimp[tx,wr,bS,gh,az,gC];omega
 |.row a b,h=>by
  have h1:=dv a λl m=>h l (bp _ m)
  have h2:=dv b λl m=>h l (ba _ m)
  have p1:2^bS a<=2^max (bS a) (bS b):=bw ∅ ∅;have p2:2^bS b<=2^max (bS a) (bS b):=bw ∅ ∅;dsimp[tx,wr,bS,gh,az,aZ,dM];omega
 |.or a b,h=>by
  have h1:=dv a λl m=>h l (bp _ m)
  have h2:=dv b λl m=>h l (ba _ m)
  have p1:2^bS a<=2^max (bS a) (bS b):=bw ∅ ∅;have p2:2^bS b<=2^max (bS a) (bS b):=bw ∅ ∅;dsimp[tx,wr,bS,gh,az,aZ,dM];omega
theorem lj(h:tq t)(d:bS t<4):(tx t).1.length<=200/\(tx t).2.length<=200/\(wr t).length<=200:=by
 have:=dv t h;have p:2^bS t<=2^3:=bw ∅ ∅;omega
section
variable{br:Option (List Nat->PR U)}{x:List Nat}{t:U}
theorem rZ(h:vL br x t):vM br x t:=#[[t],by simp,by have:=rR.cons h .nil;rwa [cq] at this,rfl]
theorem zq(h:vM br x t):F6 br x t:=#[x,[],t,[],by simp,h,.nil,rfl]
theorem vT(h:vK br x t):vL br x t:=#[x,t,[],by simp,h,by simp,rfl]
end
theorem pM:∀t k,tq t->bS t<=k->vL (tR k) (tx t).1 (enc t)/\vM (tR k) (tx t).2 (enc t)/\F6 (tR k) (wr t) (enc t)
 |.one _ l,k,h,d=>by
  have a:=vT (ND (h l (by simp[mU])) (tR k));exact#[a,rZ a,zq (rZ a)]
 |.rep m a,k,h,d=>by
  have d:bS a+1<=k:=d;let#[x,ta,ms,e,ia,hm,et]:=(pM a k h ∅).1;have r:vL (tR k) ((tx a).1++[RW m]) (enc (.rep m a)):=by
   refine#[x,ta,ms++[RW m],by rw[e,bP],ia,λc hc=>?_,?_]
   .rcases aL.mp hc with h|h
    .erw[hm c h]
    .simp at h;subst h;cases m<;>decide
   .unfold Nq
    rw[fj]
    show enc (.rep m a)=Jt (RW m) (Nq ta ms)
    rw[<-et]
    cases m<;>rfl
  exact#[r,rZ r,zq (rZ r)]
 |.row a b,k,h,d=>by
  have d:max (bS a) (bS b)+1<=k:=d;have key:∀k,max (bS a) (bS b)<=k->vM (tR k) ((tx a).1++(tx b).1) (enc (.row a b)):=λk hk=>by
   have h1:=(pM a k (λl m=>h l (bp _ m)) ∅).1;have h2:=(pM b k (λl m=>h l (ba _ m)) ∅).1;exact#[[enc a,enc b],by simp,by have:=rR.cons h1 (rR.cons h2 .nil);rwa [cq] at this,rfl]
  obtain⟨k,rfl⟩:∃k',k=k'+1:=#[k-1,∅]
  have r:=vT (Et (zq (key k ∅)));exact#[r,key _ ∅,zq (key _ ∅)]
 |.or a b,k,h,d=>by
  have d:max (bS a) (bS b)+1<=k:=d;have key:∀k,max (bS a) (bS b)<=k->F6 (tR k) ((tx a).2++124::(tx b).2) (enc (.or a b)):=λk hk=>by
   have h1:=(pM a k (λl m=>h l (bp _ m)) ∅).2.1;have h2:=(pM b k (λl m=>h l (ba _ m)) ∅).2.1;exact#[(tx a).2,124::(tx b).2,enc a,[enc b],rfl,h1,by have:=vN.cons h2 .nil;rwa [cq] at this,rfl]
  obtain⟨k,rfl⟩:∃k',k=k'+1:=#[k-1,∅]
  have r:=vT (Et (key k ∅));exact#[r,rZ r,key _ ∅]
theorem NG(h:tq t)(d:bS t<4):vH (wr t)= .ok (enc t,[]):=Nr (pM t 6 h ∅).2.2
def EB(D:Tr->Prop)(f:Tr->List Nat):Spec:=λus S Q=>∃t,us=[enc t]/\D t/\tq t/\bS t<4/\∀S',Ext S S'->Q (.str (f t)) S'
def Bm:Tr->Prop
 |.row _ _=>True
 |.or _ _=>True
 |_=>False
def JW:Tr->Prop
 |.rep _ _=>False
 |_=>True
theorem RX(Γ:bZ)(k:Nat)(D:Tr->Prop)(hD:∀t,bS t<=k->Bm t->D t)(h1:Γ "place_text"=NC)(h2:Γ "written"=EB D wr):Keeps Γ lM 0 (EB (λt=>bS t<=k/\JW t) λt=>(tx t).1):=by
 rintro us S Q ⟨t,rfl,⟨dt,nr⟩,lt,d4,q⟩;have q:∀S',Ext S S'->Q (.str (tx t).1) S':=q;unfold lM;have sm:=lj lt d4;have go:Bm t->(tx t).1=40::(wr t++[41])->Rest Γ (.cons (.ret (.bin .add (.bin .add ↑[40] (.call "written" (.cons @0 .nil))) ↑[41])) .nil) #[λ_ S1=>Q .bV S1,Q] [some (enc t)] S:=by
  intro ro e;room;rwa[ca h2 #[t,rfl,hD t dt ro,lt,d4,λS1 x1=>?_]];room;refine#[by simp;omega,by simp;omega,?_];rw[<-e]
  erw[q S1 x1]
 cases t with
 |one n l=>
  rwa[rW rfl rfl ?_];unfold enc;room;dsimp[me,bg];exact#[by simp,ca h1 #[l,rfl,lt l (by simp[mU]),q]]
 |row a b=>erw[ji rfl rfl (go trivial (by simp[tx,wr]))]
 |or a b=>erw[ji rfl rfl (go trivial (by simp[tx,wr]))]
 |rep m a=>erw[nr.elim]
noncomputable abbrev Xy:List (List Nat×List Nat):=[([115,116,97,114],[42]),([112,108,117,115],[43]),([109,97,121,98,101],[63])]
theorem RY(Γ:bZ)(k:Nat)(hk:k<=10)(h1:Γ "atom_text"=EB (λt=>bS t<=k/\JW t) λt=>(tx t).1):Keeps Γ jS 2 (EB (λt=>bS t<=k) λt=>(tx t).1):=by
 rintro us S Q ⟨t,rfl,dt,lt,d4,q⟩;have q:∀S',Ext S S'->Q (.str (tx t).1) S':=q;unfold jS;have sm:=lj lt d4;room;refine#[bS t+1,nP (λn env S1=>S1=S/\∃a ms,n=bS a/\bS a<=bS t/\tq a/\ms.length+bS a<=bS t/\(tx t).1=(tx a).1++ms/\env=[some (enc t),some (.str ms),some (enc a)]) ?_ _ (bS t) _ _ ∅ #[rfl,t,[],rfl,aq _,lt,by simp,by simp,rfl]];rintro n env S1 K ⟨rfl,a,ms,rfl,da,la,ml,e,rfl⟩ hK;have stop:∀kk x,enc a=.tup [.str kk,x]->(Xy.lookup kk).isSome=false->JW a->WT Γ (.cH (.cmp .isin (.ix @2 ↑0) (.lit (.tab Xy)))) [some (enc t),some (.str ms),some (enc a)] S1
   (λt1 S2=>if t1=true then Rest Γ (.cons (.set 1 (.bin .add (.ix (.lit (.tab Xy)) (.ix @2 ↑0)) @1)) (.cons (.set 2 (.ix @2 ↑1)) .nil)) #[K,Q] [some (enc t),some (.str ms),some (enc a)] S2 else Rest Γ (.cons (.ret (.bin .add (.call "atom_text" (.cons @2 .nil)) @1)) .nil) #[λ_ S1=>Q .bV S1,Q] [some (enc t),some (.str ms),some (enc a)] S2):=by
  intro kk x ek el nr;have fin:Rest Γ (.cons (.ret (.bin .add (.call "atom_text" (.cons @2 .nil)) @1)) .nil) #[λ_ S1=>Q .bV S1,Q] [some (enc t),some (.str ms),some (enc a)] S1:=by
   room;rwa[ca h1 #[a,rfl,#[∅,nr],la,∅,λS2 x2=>?_]];room;rw[<-e]
   refine#[?_,q S2 x2];rw[e,az] at sm;omega
  rw[ek] at fin ⊢;room;rw[qx,bg,AR,el]
  exact#[by simp,fin]
 cases a with
 |one n l=>erw[stop _ _ rfl rfl trivial]
 |row a b=>erw[stop _ _ rfl rfl trivial]
 |or a b=>erw[stop _ _ rfl rfl trivial]
 |rep m a=>
  have dr:bS (.rep m a)=bS a+1:=rfl;have ek:enc (.rep m a)= .tup [.str (nQ m),enc a]:=rfl;rw[ek]
  have el:Xy.lookup (nQ m)=some [RW m]:=by cases m<;>rfl
  room;rw[qx,bg,AR,el]
  refine#[by simp,?_];dsimp[qF,if_true];room;dsimp[qx,bg,yE,el];room;refine#[by simp,by simp;omega,?_];room;dsimp[me,bg];refine#[by simp,?_];try room
  erw[hK (bS a) _ _ ∅ #[rfl,a,RW m::ms,rfl,∅,la,by simp;omega,by rw[e];simp[tx],rfl]]
def NH:Tr->Prop
 |.row _ _=>True
 |_=>False
theorem two_get{a b:Tr}{f:Tr->List Nat}{i:Nat}{u v:U}(hu:[enc a,enc b][i]?=some u)(hv:[U.str (f a),U.str (f b)][i]?=some v):∃t,(t=a\/t=b)/\u=enc t/\v=.str (f t):=by
 let#[t,m,h1,h2]:=zm (K:=[a,b]) (f:=λt=>.str (f t)) hu hv;exact#[t,by simpa using m,h1,h2]
theorem RZ(Γ:bZ)(k:Nat)(h1:Γ "repeat_text"=EB (λt=>bS t<=k) λt=>(tx t).1):Keeps Γ nB 0 (EB (λt=>bS t<=k\/(NH t/\bS t<=k+1)) λt=>(tx t).2):=by
 rintro us S Q ⟨t,rfl,dt,lt,d4,q⟩;have q:∀S',Ext S S'->Q (.str (tx t).2) S':=q;unfold nB;have go:¬NH t->(tx t).2=(tx t).1->Rest Γ (.cons (.ret (.call "repeat_text" (.cons @0 .nil))) .nil) #[λ_ S1=>Q .bV S1,Q] [some (enc t)] S:=by
  intro nr e;room;rw[e] at q;erw[ca h1 #[t,rfl,dt.resolve_right λz=>nr z.1,lt,d4,q]]
 cases t with
 |one n l=>erw[ji rfl rfl (go (λz=>z) rfl)]
 |rep m a=>erw[ji rfl (beq_eq_false_iff_ne.mpr (qd m).2.1) (go (λz=>z) rfl)]
 |or a b=>erw[ji rfl rfl (go (λz=>z) rfl)]
 |row a b=>
  have dt:max (bS a) (bS b)+1<=k+1:=by rcases dt with z|z;erw[mS z];erw[z.2]
  have d4:max (bS a) (bS b)+1<4:=d4;have lo:∀t,t=a\/t=b->tq t/\bS t<=k/\bS t<4:=by
   rintro t (rfl|rfl)
   .exact#[λl m=>lt l (bp _ m),∅,∅]
   .exact#[λl m=>lt l (ba _ m),∅,∅]
  have sa:=(lj (lo a (.inl rfl)).1 (lo a (.inl rfl)).2.2).1;have sb:=(lj (lo b (.inr rfl)).1 (lo b (.inr rfl)).2.2).1;rwa[rW rfl rfl ?_];unfold enc;room;dsimp[me,bg];refine#[by simp,by simp,?_];rwa[gB (S:=S) _ [.str (tx a).1,.str (tx b).1] (by simp) (by simp) (λ_ _=>trivial) (λu S' k h=>h) (λi u v hu hv S' k x hk=>?_) λS1 x1=>?_]
  .let#[t,m,rfl,rfl]:=two_get (f:=λt=>(tx t).1) hu hv
   let#[l1,l2,l3]:=lo t m;erw[ca h1 #[t,rfl,l2,l1,l3,hk]]
  .refine#[[(tx a).1,(tx b).1],by simp,by simp;omega,?_]
   have e:lK [] [(tx a).1,(tx b).1]=(tx (.row a b)).2:=by simp[lK,tx]
   rw[e]
   erw[q _ (x1.trans (Ext.app _))]
theorem R6(Γ:bZ)(k:Nat)(h1:Γ "row_text"=EB (λt=>bS t<=k\/(NH t/\bS t<=k+1)) λt=>(tx t).2):Keeps Γ pD 0 (EB (λt=>bS t<=k\/(Bm t/\bS t<=k+1)) wr):=by
 rintro us S Q ⟨t,rfl,dt,lt,d4,q⟩;unfold pD;have go:(Bm t->NH t)->wr t=(tx t).2->Rest Γ (.cons (.ret (.call "row_text" (.cons @0 .nil))) .nil) #[λ_ S1=>Q .bV S1,Q] [some (enc t)] S:=by
  intro nr e;room;rw[e] at q;erw[ca h1 #[t,rfl,dt.imp_right λz=>#[nr z.1,z.2],lt,d4,q]]
 cases t with
 |one n l=>erw[ji rfl rfl (go (λz=>z) rfl)]
 |rep m a=>erw[ji rfl (beq_eq_false_iff_ne.mpr (qd m).2.2) (go (λz=>z) rfl)]
 |row a b=>erw[ji rfl rfl (go (λz=>z) rfl)]
 |or a b=>
  have dt:max (bS a) (bS b)+1<=k+1:=by rcases dt with z|z;erw[mS z];erw[z.2]
  have d4:max (bS a) (bS b)+1<4:=d4;have lo:∀t,t=a\/t=b->tq t/\bS t<=k/\bS t<4:=by
   rintro t (rfl|rfl)
   .exact#[λl m=>lt l (bp _ m),∅,∅]
   .exact#[λl m=>lt l (ba _ m),∅,∅]
  have sa:=(lj (lo a (.inl rfl)).1 (lo a (.inl rfl)).2.2).2.1;have sb:=(lj (lo b (.inr rfl)).1 (lo b (.inr rfl)).2.2).2.1;rwa[rW rfl rfl ?_];unfold enc;room;dsimp[me,bg];refine#[by simp,by simp,?_];rwa[gB (S:=S) _ [.str (tx a).2,.str (tx b).2] (by simp) (by simp) (λ_ _=>trivial) (λu S' k h=>h) (λi u v hu hv S' k x hk=>?_) λS1 x1=>?_]
  .let#[t,m,rfl,rfl]:=two_get (f:=λt=>(tx t).2) hu hv
   let#[l1,l2,l3]:=lo t m;erw[ca h1 #[t,rfl,.inl l2,l1,l3,hk]]
  .refine#[[(tx a).2,(tx b).2],by simp,by simp;omega,?_]
   have e:lK [124] [(tx a).2,(tx b).2]=wr (.or a b):=by simp[lK,wr]
   rw[e]
   erw[q _ (x1.trans (Ext.app _))]
end PL.lQ
namespace PL.ug
section
variable{κ:Type}[BEq κ][LawfulBEq κ]
noncomputable def lD(seen:List κ):List κ->List Nat
 |[]=>[]
 |k::r=>if k∈seen then seen.idxOf k::lD seen r else seen.length::lD (seen++[k]) r
noncomputable def sn(seen:List κ):List κ->List κ
 |[]=>seen
 |k::r=>sn (if k∈seen then seen else seen++[k]) r
theorem lZ:∀(ks:List κ)(seen:List κ),(lD seen ks).length=ks.length
 |[],_=>rfl
 |k::r,seen=>by unfold lD;split<;>simp[lZ r]
theorem vU:∀(ks:List κ)(seen:List κ),(sn seen ks).length<=seen.length+ks.length
 |[],_=>by simp[sn]
 |k::r,seen=>by
  unfold sn;split
  .have:=vU r seen;simp;omega
  .have:=vU r (seen++[k]);simp at this ⊢;omega
theorem JX{κ':Type}[BEq κ'][LawfulBEq κ'](f:κ->κ')(hf:∀a b,f a=f b->a=b)(k:κ):∀l:List (κ×U),(l.map λp=>(f p.1,p.2)).lookup (f k)=l.lookup k
 |[]=>rfl
 | (a,v)::r=>by
  rw[ay,aO,aO,JX f hf k r]
  by_cases h:k=a
  .subst h;simp
  .rw[show(k==a)=false by simp[h],show(f k==f a)=false from beq_eq_false_iff_ne.mpr λe=>h (hf _ _ e)]
theorem zr:∀(ks:List κ)(seen:List κ),∃m,sn seen ks=seen++m
 |[],seen=>#[[],by simp[sn]]
 |k::r,seen=>by
  unfold sn;split
  .erw[zr r seen]
  .let#[m,e]:=zr r (seen++[k])
   exact#[k::m,by rw[e];simp]
theorem JY:∀(ks:List κ)(seen:List κ),seen.Nodup->(sn seen ks).Nodup
 |[],_,h=>h
 |k::r,seen,h=>by
  unfold sn;split
  .erw[JY r seen h]
  .rename_i hk
   rwa[JY r _ ?_];rw[dq]
   exact#[h,by simp,λx hx y hy=>by rw[bC.mp hy];erw[λe=>hk (e▸hx)]]
theorem nU{k:κ}{a b:List κ}(h:k∈a):(a++b).idxOf k=a.idxOf k:=by
 rw[jC,if_pos h]
theorem tw:∀(ks:List κ)(seen:List κ),lD seen ks=ks.map λk=>(sn seen ks).idxOf k
 |[],_=>rfl
 |k::r,seen=>by
  unfold lD sn;split
  .rename_i hk
   let#[m,e]:=zr r seen;rw[ay,tw r seen,e,nU hk]
  .rename_i hk
   let#[m,e]:=zr r (seen++[k]);rw[ay,tw r (seen++[k]),e]
   congr 1
   rw[nU (by simp),jC,if_neg hk]
   simp
theorem vV:∀(ks:List κ)(seen:List κ)(k:κ),k∈sn seen ks↔k∈seen\/k∈ks
 |[],_,_=>by simp[sn]
 |x::r,seen,k=>by
  unfold sn;rw[vV r]
  split
  .rename_i hk
   constructor
   .rintro(h|h)
    .erw[.inl h]
    .erw[.inr (aA _ h)]
   .rintro(h|h)
    .erw[.inl h]
    .rcases aR.mp h with rfl|h
     .erw[.inl hk]
     .erw[.inr h]
  .simp[or_assoc]
def dz(seen:List κ)(n:Nat):List (κ×U):=(seen.zipIdx n).map λp=>(p.1,aU p.2)
theorem JZ(a:List κ)(k:κ)(n:Nat):dz (a++[k]) n=dz a n++[(k,aU (n+a.length))]:=by
 unfold dz;rw[List.zipIdx_append,aK];simp
theorem zt(a:List κ)(n:Nat):(dz a n).length=a.length:=by simp[dz]
theorem zu:∀(a:List κ)(k:κ)(n:Nat),(dz a n).lookup k=if k∈a then some (aU (n+a.idxOf k)) else none
 |[],k,n=>rfl
 |x::a,k,n=>by
  have e:dz (x::a) n=(x,aU n)::dz a (n+1):=rfl;rw[e,aO]
  by_cases h:k=x
  .subst h;simp
  .have h1:(k==x)=false:=by simp[h]
   rw[h1,zu a k (n+1)]
   by_cases hk:k∈a
   .rw[if_pos hk,if_pos (aA _ hk),List.idxOf_cons,show(x==k)=false by simp[cR h]]
    dsimp[cond_false]
    congr 2
    omega
   .rw[if_neg hk,if_neg (by simp[h,hk])]
end
theorem R7(o:Option Nat):nq (uN o)=true:=by cases o<;>rfl
theorem We(a b:Option Nat):SR (uN a) (uN b)=(a==b):=by
 cases a<;>cases b<;>first|rfl|skip
 rename_i x y;show((x:Int)== (y:Int))=(some x==some y);by_cases h:x=y
 .subst h;simp
 .rw[show((x:Int)== (y:Int))=false from beq_eq_false_iff_ne.mpr λe=>h (lA e),show(some x==some y)=false from beq_eq_false_iff_ne.mpr λe=>h (aF e)]
theorem J0(k:Option Nat):∀(l:List (Option Nat×U)),vh (uN k) (l.map λp=>(uN p.1,p.2))=l.lookup k
 |[]=>rfl
 | (a,v)::r=>by
  rw[ay,aO]
  unfold vh;rw[We,J0 k r]
  by_cases h:a=k
  .subst h;simp
  .have h1:(a==k)=false:=by simp[h]
   have h2:(k==a)=false:=by simp[cR h]
   rw[h1,h2];rfl
section
variable{κ β:Type}[BEq κ][LawfulBEq κ][BEq β][LawfulBEq β]{ks:List κ}
theorem EC{l:List κ}{a b:κ}(ha:a∈l)(h:l.idxOf a=l.idxOf b):a=b:=by
 have la:=bD ha;have e:=eG la;have lb:l.idxOf b<l.length:=∅
 rw[<-e,<-eG lb]
 congr 1
theorem uE{i j:Nat}{a b:κ}(hi:ks[i]?=some a)(hj:ks[j]?=some b):(lD [] ks)[i]?=(lD [] ks)[j]?↔a=b:=by
 rw[tw,aB,aB,hi,hj]
 constructor
 .intro h
  erw[EC ((vV ks [] a).mpr (.inr (af hi))) (aF h)]
 .intro h;rw[h]
theorem zw:∀(ks:List κ)(seen:List κ)(i v:Nat),(lD seen ks)[i]?=some (v+1)->v<seen.length\/∃p,p<i/\(lD seen ks)[p]?=some v
 |[],_,i,v,h=>by simp[lD] at h
 |k::r,seen,0,v,h=>by
  unfold lD at h;split at h
  .rename_i hk
   have:=bD hk;have:seen.idxOf k=v+1:=by simpa using h
   omega
  .have:seen.length=v+1:=by simpa using h
   omega
 |k::r,seen,i+1,v,h=>by
  unfold lD at h ⊢;split at h
  .rename_i hk
   rw[if_pos hk]
   rcases zw r seen i v (by simpa using h) with z|⟨p,hp,e⟩
   .erw[.inl z]
   .exact .inr #[p+1,∅,by simpa using e]
  .rename_i hk
   rw[if_neg hk]
   rcases zw r (seen++[k]) i v (by simpa using h) with z|⟨p,hp,e⟩
   .rw[az] at z
    by_cases y:v<seen.length
    .erw[.inl y]
    .have:seen.length=v:=by simp at z;omega
     erw[.inr #[0,∅,by simp[this]]]
   .exact .inr #[p+1,∅,by simpa using e]
theorem NI(hm:m∈lD [] ks)(h:∀j∈lD [] ks,j<=m):m+1=(sn [] ks).length:=by
 rw[tw] at hm h;let#[k,hk,rfl]:=bG.mp hm;have l1:=bD ((vV ks [] k).mpr (.inr hk));have ll:(sn [] ks).length-1<(sn [] ks).length:=∅
 have e:=(JY ks [] (by simp)).idxOf_getElem _ ll;have m2:=(vV ks [] _).mp (cC ll);have:=h _ (bG.mpr #[_,m2.resolve_left (by simp),rfl]);rw[e] at this;omega
def Wf(ps:List (κ×β)):Prop:=∀x∈ps,∀y∈ps,x.1=y.1->x.2=y.2
theorem Bn:∀(ps:List (κ×β))(A:List κ)(B:List β),Wf ps->(∀x∈ps,x.1∈A->x.2∈B)->(sn B (ps.map (·.2))).length+A.length<=(sn A (ps.map (·.1))).length+B.length
 |[],A,B,_,_=>by simp[sn];omega
 |x::ps,A,B,hc,hA=>by
  have c':Wf ps:=λy hy z hz=>hc y (aA _ hy) z (aA _ hz)
  rw[ay,ay]
  unfold sn;by_cases h1:x.1∈A
  .have h2:=hA x (aQ ..) h1
   rw[if_pos h1,if_pos h2]
   erw[Bn ps A B c' λy hy=>hA y (aA _ hy)]
  .have nx:∀y∈ps,y.1∈A++[x.1]->y.2∈B\/y.2=x.2:=λy hy m=>by
    rcases aL.mp m with m|m
    .erw[.inl (hA y (aA _ hy) m)]
    .exact .inr (hc y (aA _ hy) x (aQ ..) (by simpa using m))
   rw[if_neg h1]
   by_cases h2:x.2∈B
   .rw[if_pos h2]
    have:=Bn ps (A++[x.1]) B c' λy hy m=>(nx y hy m).elim id λe=>e▸h2
    simp at this ⊢;omega
   .rw[if_neg h2]
    have:=Bn ps (A++[x.1]) (B++[x.2]) c' λy hy m=>by
     rcases nx y hy m with z|z
     .simp[z]
     .simp[z]
    simp at this ⊢;omega
theorem Dm:∀(ps:List (κ×β))(A:List κ)(B:List β),Wf ps->A.length=B.length->(∀x∈ps,x.1∈A->x.2∈B/\A.idxOf x.1=B.idxOf x.2)->(sn B (ps.map (·.2))).length=(sn A (ps.map (·.1))).length->lD A (ps.map (·.1))=lD B (ps.map (·.2))
 |[],A,B,_,_,_,_=>rfl
 |x::ps,A,B,hc,hl,hA,he=>by
  have c':Wf ps:=λy hy z hz=>hc y (aA _ hy) z (aA _ hz)
  rw[ay,ay] at he ⊢;unfold sn at he;unfold lD;by_cases h1:x.1∈A
  .let#[h2,h3]:=hA x (aQ ..) h1
   rw[if_pos h1,if_pos h2] at he ⊢;rw[h3,Dm ps A B c' hl (λy hy=>hA y (aA _ hy)) he]
  .have nx:∀y∈ps,y.1∈A++[x.1]->y.1∈A\/(y.1=x.1/\y.2=x.2):=λy hy m=>by
    rcases aL.mp m with m|m
    .erw[.inl m]
    .have e:y.1=x.1:=by simpa using m
     erw[.inr #[e,hc y (aA _ hy) x (aQ ..) e]]
   rw[if_neg h1] at he ⊢;by_cases h2:x.2∈B
   .rw[if_pos h2] at he
    have:=Bn ps (A++[x.1]) B c' λy hy m=>by
     rcases nx y hy m with z|z
     .exact(hA y (aA _ hy) z).1
     .rw[z.2];erw[h2]
    simp at this;omega
   .rw[if_neg h2] at he ⊢
    rw[hl,Dm ps (A++[x.1]) (B++[x.2]) c' (by simp[hl]) (λy hy m=>?_) he]
    rcases nx y hy m with z|z
    .let#[z1,z2]:=hA y (aA _ hy) z
     exact#[by simp[z1],by rw[nU z,nU z1,z2]]
    .rw[z.1,z.2]
     exact#[by simp,by rw[jC,if_neg h1,jC,if_neg h2];simp[hl]]
theorem J1{a:List κ}{b:List β}(h:∀(i j:Nat) (x y:κ) (u v:β),a[i]?=some x->a[j]?=some y->b[i]?=some u->b[j]?=some v->x=y->u=v):Wf (a.zip b):=by
 intro x hx y hy e;let#[i,hi]:=bq hx;let#[j,hj]:=bq hy;rw[List.getElem?_zip_eq_some] at hi hj;erw[h i j _ _ _ _ hi.1 hj.1 hi.2 hj.2 e]
theorem Dn{a:List κ}{b:List β}(hl:a.length=b.length)(h:∀(i j:Nat) (x y:κ) (u v:β),a[i]?=some x->a[j]?=some y->b[i]?=some u->b[j]?=some v->x=y->u=v):(sn [] b).length<=(sn [] a).length:=by
 have:=Bn (a.zip b) [] [] (J1 h) (by simp);rw[KL ∅,KN ∅] at this;simpa using this
theorem ED{a:List κ}{b:List β}(hl:a.length=b.length)(h:∀(i j:Nat) (x y:κ) (u v:β),a[i]?=some x->a[j]?=some y->b[i]?=some u->b[j]?=some v->x=y->u=v)(he:(sn [] b).length=(sn [] a).length):lD [] a=lD [] b:=by
 have:=Dm (a.zip b) [] [] (J1 h) rfl (by simp);rw[KL ∅,KN ∅] at this;erw[this he]
theorem EE(ks:List κ):lD [] (lD [] ks)=lD [] ks:=by
 have l:=lZ ks [];have h1:∀(i j:Nat)(x y:κ)(u v:Nat),ks[i]?=some x->ks[j]?=some y->(lD [] ks)[i]?=some u->(lD [] ks)[j]?=some v->x=y->u=v:=λi j x y u v hi hj hu hv e=>by
  have:=(uE hi hj).mpr e;rw[hu,hv] at this;erw[aF this]
 have h2:∀(i j:Nat)(x y:Nat)(u v:κ),(lD [] ks)[i]?=some x->(lD [] ks)[j]?=some y->ks[i]?=some u->ks[j]?=some v->x=y->u=v:=λi j x y u v hi hj hu hv e=>by
  refine(uE hu hv).mp ?_;rw[hi,hj,e]
 exact(ED l.symm h1 (wm (Dn l.symm h1) (Dn l h2))).symm
end
def Ka(p:Nat×List Nat):U:=.tup [aU p.1,.tup (p.2.map aU)]
theorem uF{κ:Type}[BEq κ][LawfulBEq κ]:∀(ks:List κ)(k:κ)(seen:List κ),sn seen (ks++[k])=if k∈sn seen ks then sn seen ks else sn seen ks++[k]
 |[],k,seen=>rfl
 |x::r,k,seen=>by
  rw[nW]
  unfold sn;erw[uF r k _]
theorem Kb{κ:Type}[BEq κ][LawfulBEq κ](ks:List κ)(k:κ):lD [] (ks++[k])=lD [] ks++[(sn [] (ks++[k])).idxOf k]:=by
 rw[tw,tw,aK,uF]
 congr 1
 rwa[qI λx hx=>?_]
 split
 .rfl
 .erw[nU ((vV ks [] x).mpr (.inr hx))]
noncomputable def wF(p:Nat×List Nat):Int×List Int:=((p.1:Int),p.2.map λ(n:Nat)=>(n:Int))
theorem Kc(a b:Nat×List Nat)(h:wF a=wF b):a=b:=by
 let#[h1,h2]:=zX h;erw[wJ (lA h1) ((sh λ_ _ e=>lA e).mp h2)]
theorem Kd(p:Nat×List Nat):Ka p=.tup [.int (wF p).1,.tup ((wF p).2.map .int)]:=by
 unfold Ka wF;rw[bz];rfl
def Ke:Spec:=λus S Q=>∃u,us=[u]/\((∃ks:List (Option Nat),u=.tup (ks.map uN)/\ks.length<=9000/\∀m S',Ext S S'->S.length<=m->S'[m]?=some (.lst ((lD [] ks).map aU))->Q (.loc m) S') \/
 ∃n,∃ks:List (Nat×List Nat),u=.loc n/\S[n]?=some (.lst (ks.map Ka))/\ks.length<=9000/\∀m S',Ext S S'->S.length<=m->S'[m]?=some (.lst ((lD [] ks).map aU))->Q (.loc m) S')
theorem Kf{κ:Type}[BEq κ][LawfulBEq κ](f:κ->U)(D:List (κ×U)->SO)(hD:∀(S:bJ) (n:Nat) kvs k (d:U) (Q:KU),S[n]?=some (D kvs)->kvs.length<=9000->(match kvs.lookup k with|some v=>Q v S|none=>Q d (S.set n (D (kvs++[(k,d)]))))->p7 S n (f k) d Q)(hL:∀(S:bJ) (n:Nat) kvs,S[n]?=some (D kvs)->ue .oh (.loc n) S/\mH S (.loc n)=some kvs.length)
  {g:bJ->Prop}{S:bJ}{Q:List U->bJ->Prop}{ks:List κ} (hl:ks.length<=9000) (hg:∀S',Ext S S'->g S') (q:∀S',Ext S S'->Q ((lD [] ks).map aU) S'):nY g (λ_ S2 k=>k true S2) (λu S2 k=>ue .oh (.loc S.length) S2/\opt (mH S2 (.loc S.length)) λn=>n<=16500000/\p7 S2 S.length u (.int n) k) Q (ks.map f) [] (S++[D []]):=by
 rwa[iF _ (λi acc S'=>Ext S S'/\S'[S.length]?=some (D (dz (sn [] (ks.take i)) 0))/\acc=(lD [] (ks.take i)).map aU) (λi acc S' hi h=>#[hg _ h.1,?_]) (λi u acc S' k hu hI hk=>?_) (λacc S' hI=>?_) #[Ext.app _,by simp[sn,dz],rfl]]
 .rw[h.2.2,ak,lZ,dC];omega
 .let#[x,e,rfl]:=hI
  let#[k0,hk0,rfl]:=d6 hu;have tk:=GN hk0;have ln:(sn [] (ks.take i)).length<=9000:=by have:=vU (ks.take i) [];simp at this;omega
  have nt:(lD [] (ks.take (i+1))).map aU=(lD [] (ks.take i)).map aU++[aU ((sn [] (ks.take (i+1))).idxOf k0)]:=by rw[tk,Kb,aK];rfl
  rw[if_pos rfl,(hL _ _ _ e).2]
  refine#[(hL _ _ _ e).1,by rw[zt];omega,hD _ _ _ _ _ _ e (by rw[zt];erw[ln]) ?_];rw[zu,zt]
  by_cases hm:k0∈sn [] (ks.take i)
  .have es:sn [] (ks.take (i+1))=sn [] (ks.take i):=by rw[tk,uF,if_pos hm]
   rw[if_pos hm,oG]
   erw[hk _ _ #[x,by rw[es];exact e,by rw[nt,es]]]
  .have es:sn [] (ks.take (i+1))=sn [] (ks.take i)++[k0]:=by rw[tk,uF,if_neg hm]
   rw[if_neg hm]
   refine hk _ _ #[#[by simpa using x.1,λn hn=>?_],?_,?_]
   .rw[ao ∅];erw[x.2 n hn]
   .rw[bM (ae.mp e).1,es,JZ,oG]
   .rw[nt,es,jC,if_neg hm];simp
 .let#[x,e,rfl]:=hI
  rw[show ks.take (ks.map f).length=ks by simp]
  erw[q _ x]
theorem R8(Γ:bZ):Keeps Γ nI 1 Ke:=by
 rintro us S Q ⟨u,rfl,h⟩;unfold nI;rcases h with⟨ks,rfl,hl,q⟩|⟨n,ks,rfl,g,hl,q⟩
 .room
  rw[vp]
  refine#[⋯,.inl ?_];room;refine#[by simp;omega,Kf uN (λl=>.eI (l.map λp=>(uN p.1,p.2))) (λS n kvs k d Q e l h=>?_) (λS n kvs e=>#[?_,by dsimp[mH,e,ak]]) hl (λ_ _=>trivial) λS' x=>q _ _ (x.trans (Ext.app _)) x.1 (by simp)]
  .unfold p7
   rw[e]
   refine#[#[R7 _,by rw[ak];omega],?_];rw[aK] at h;rw[J0]
   erw[h]
  .show(match S[n]? with|some (.eI _)=>True|some (.ur _)=>True|some (.xt _)=>True|_=>False)
   rw[e];trivial
 .room
  rw[vp]
  refine#[⋯,.inr (.inr ?_)];room;rw[ah (aN g),g]
  dsimp[aD];rwa[Kf Ka (λl=>.xt (l.map λp=>(wF p.1,p.2))) (λS n kvs k d Q e l h=>?_) (λS n kvs e=>#[?_,by dsimp[mH,e,ak]]) hl (λS' x=>x.get g) λS' x=>q _ _ (x.trans (Ext.app _)) x.1 (by simp)]
  .unfold p7
   rw[e]
   refine#[_,_,Kd k,by rw[ak];omega,?_];rw[show((wF k).1,(wF k).2)=wF k from rfl,JX wF Kc]
   rw[aK] at h;erw[h]
  .show(match S[n]? with|some (.eI _)=>True|some (.ur _)=>True|some (.xt _)=>True|_=>False)
   rw[e];trivial
structure Rw(S:bJ)(n:Nat)(ls:List Nat)(g:Nat->Nat->Nat):Prop where
 l:S[n]?=some (.lst (ls.map .loc))
 d:∀(j m:Nat),ls[j]?=some m->S[m]?=some (SO.eI (SG.map λc=>(.str [c],aU (g j c))))
theorem Rw.ext{S S':bJ}{n:Nat}{ls:List Nat}{g:Nat->Nat->Nat}(h:Rw S n ls g)(x:Ext S S'):Rw S' n ls g:=#[x.get h.l,λj m e=>x.get (h.d j m e)]
theorem zx{f:Nat->U}{c:Nat}:∀{l:List Nat},c∈l->vh (.str [c]) (l.map λc=>(U.str [c],f c))=some (f c)
 |x::l,h=>by
  rw[ay]
  unfold vh;by_cases e:x=c
  .subst e;rw[if_pos (by simp[SR])]
  .rw[if_neg (by simp[SR,e])]
   rcases aR.mp h with z|z
   .erw[absurd z.symm e]
   .erw[zx z]
theorem Bo{κ:Type}[BEq κ][LawfulBEq κ]{f:Nat->κ}{h:Nat->U}{k:κ}:∀l:List Nat,(∃c∈l,f c=k/\(l.map λc=>(f c,h c)).lookup k=some (h c))\/(l.map λc=>(f c,h c)).lookup k=none
 |[]=>.inr rfl
 |x::l=>by
  rw[ay,aO]
  by_cases e:k=f x
  .erw[.inl #[x,aQ ..,e.symm,by simp[e]]]
  .rw[show(k==f x)=false by simp[e]]
   rcases Bo (f:=f) (h:=h) (k:=k) l with⟨c,m,z⟩|z
   .erw[.inl #[c,aA _ m,z]]
   .erw[.inr z]
def OG:Spec:=λus S Q=>∃n ls g,us=[.loc n]/\Rw S n ls g/\ls.length<=9000/\∀(m:Nat)(S':bJ)(sg:List Nat),Ext S S'->S.length<=m->S'[m]?=some (.lst (sg.map λc=>.str [c]))->sg.length<=95->(∀c∈sg,c∈SG)->(∀c∈SG,∃c'∈sg,∀j,j<ls.length->g j c'=g j c)->Q (.loc m) S'
theorem R9(Γ:bZ):Keeps Γ iM 2 OG:=by
 rintro us S Q ⟨n,ls,g,rfl,rw0,hl,q⟩;let#[r1,r2]:=rw0;unfold iM;have gl:SG.length=95:=rfl;generalize SG=G at *;room;rw[vp]
 refine#[⋯,.inr (.inl ?_)];room
 let ky:Nat->List Int:=λc=>(bX ls.length).map λj=>((g j c:Nat):Int)
 rwa[cx (λi env S1=>∃(sg:List Nat)(x2:Option U),env=[some (.loc n),some (.loc S.length),x2]/\Ext S S1/\S1[S.length]?=some (.ur (sg.map λc=>(ky c,.str [c])))/\sg.length<=i/\(∀c∈sg,c∈G)/\∀c∈G.take i,∃c'∈sg,ky c'=ky c) (λ_ _ _ _=>trivial) _ ?_ ?_ #[[],none,rfl,Ext.app _,by simp,by simp,by simp,by simp]]
 .rintro i u env S1 K hu ⟨sg,x2,rfl,x1,g1,sl,hs,inv⟩ hK
  let#[c,hc,rfl]:=d6 hu;have cm:=af hc;have il:i<95:=by have:=(ae.mp hc).1;omega
  have et:=GN hc;room;refine#[by show(match S1[S.length]? with|some (.eI _)=>True|some (.ur _)=>True|some (.xt _)=>True|_=>False);rw[g1];trivial,?_];rw[x1.get r1,aD]
  rwa[gB (S:=S1) _ ((ky c).map .int) (by simp[ky]) (by simp;omega) (λS' x=>x.get (x1.get r1)) (λu S' k h=>h) (λj u v hu hv S2 k x hk=>?_) λS2 x=>?_]
  .let#[m,hm,rfl]:=d6 hu
   have jl:=(ae.mp hm).1;rw[aB,aB,iG jl] at hv;have hv:aU (g j c)=v:=by simpa using hv
   subst hv;room;rw[(x1.trans x).get (r2 j m hm)]
   rw[kR]
   refine#[rfl,?_];rw[zx cm]
   erw[hk S2 .refl]
  .rw[aw (aq _),bR]
   dsimp[Af,aD];have x2:=x.trans (Ext.app [SO.lst ((ky c).map U.int)]);have g2:=x2.get g1;generalize S2++[SO.lst ((ky c).map U.int)]=S3 at x2 g2;show p7 S3 S.length _ _ _;unfold p7;rw[g2]
   refine#[ky c,rfl,by simp;omega,?_];rcases Bo (f:=ky) (h:=λc=>U.str [c]) (k:=ky c) sg with⟨c',m',e',z⟩|z
   .rw[z]
    room;rwa[hK _ _ #[sg,_,rfl,x1.trans x2,g2,∅,hs,λd hd=>?_]];rw[et] at hd;rcases aL.mp hd with hd|hd
    .erw[inv d hd]
    .have:d=c:=by simpa using hd
     subst this;exact#[c',m',e']
   .rw[z]
    room;have x13:=x1.trans x2;rwa[hK _ _ #[sg++[c],_,rfl,(x13.st ∅),by rw[gs g2];simp,by simp;omega,λd hd=>?_,λd hd=>?_]]
    .rcases aL.mp hd with hd|hd
     .erw[hs d hd]
     .have:d=c:=by simpa using hd
      subst this;erw[cm]
    .rw[et] at hd
     rcases aL.mp hd with hd|hd
     .let#[c',m',e']:=inv d hd
      exact#[c',by simp[m'],e']
     .have:d=c:=by simpa using hd
      subst this;exact#[d,by simp,rfl]
 .rintro env S1 ⟨sg,x2,rfl,x1,g1,sl,hs,inv⟩
  rw[ak,gl] at sl;rw[ak,bY] at inv;room;refine#[by show(match S1[S.length]? with|some (.ur _)=>True|_=>False);rw[g1];trivial,?_];show(match S1[S.length]? with|some (.ur kvs)=>Q (.loc S1.length) (S1++[.lst (kvs.map (·.2))])|_=>False)
  rw[g1]
  rwa[q _ _ sg (x1.trans (Ext.app _)) x1.1 (by simp) sl hs λc hc=>?_]
  let#[c',m',e']:=inv c hc;refine#[c',m',λj hj=>?_];have:=congrArg (·[j]?) e';dsimp[ky,aB,iG hj] at this;have:((g j c':Nat):Int)=(g j c:Nat):=by simpa using this
  omega
def dI(G:List Nat)(f:Nat->Option Nat):List (List Nat×U):=G.filterMap λc=>(f c).map λk=>([c],aU k)
noncomputable def sD(ps:List (List Nat×U)):List (U×U):=ps.map λp=>(U.str p.1,p.2)
theorem EF(a:List Nat):∀ps,vh (.str a) (sD ps)=ps.lookup a
 |[]=>rfl
 | (b,v)::r=>by
  have ih:=EF a r;show(if (b==a)=true then some v else vh (.str a) (sD r))=_;rw[aO,ih]
  by_cases h:b=a
  .subst h;simp
  .rw[if_neg (by simp[h]),show(a==b)=false by simp[cR h]]
theorem vW(f:Nat->Option Nat)(c:Nat):∀G:List Nat,(dI G f).lookup [c]=if c∈G then(f c).map aU else none
 |[]=>rfl
 |x::G=>by
  have ih:=vW f c G;unfold dI at ih ⊢;rw[cj]
  by_cases e:c=x
  .subst e
   cases h:f c with
   |none=>rw[h] at ih;dsimp[um,ih];simp
   |some k=>simp
  .have e1:(([c]:List Nat)== [x])=false:=by simp[e]
   cases h:f x with
   |none=>dsimp[um,ih,aR,e,false_or]
   |some k=>dsimp[kr,aO,e1,ih,aR,e,false_or]
structure Rp(S:bJ)(n:Nat)(ls:List Nat)(go:Nat->Nat->Option Nat):Prop where
 l:S[n]?=some (.lst (ls.map .loc))
 d:∀(j m:Nat),ls[j]?=some m->S[m]?=some (SO.eI (sD (dI SG (go j))))
 z:∀(j c:Nat),ls.length<=j->go j c=none
theorem Rp.ext{S S':bJ}{n:Nat}{ls:List Nat}{go:Nat->Nat->Option Nat}(h:Rp S n ls go)(x:Ext S S'):Rp S' n ls go:=#[x.get h.l,λj m e=>x.get (h.d j m e),h.z]
noncomputable def gN(N:Nat)(go:Nat->Nat->Option Nat)(j c:Nat):Nat:=(go j c).getD N
def Wg:Spec:=λus S Q=>∃n ls go,us=[.loc n]/\Rp S n ls go/\ls.length<=9000/\∀(m:Nat)(S':bJ)(ms:List Nat),Ext S S'->ms.length=ls.length+1->Rw S' m ms (gN ls.length go)->Q (.loc m) S'
theorem Sa{Γ:bZ}{S:bJ}{d N:Nat}{f:Nat->Option Nat}{k:KU}(hd:S[d]?=some (.eI (sD (dI SG f))))(q:∀m S',Ext S S'->S'[m]?=some (.eI (SG.map λc=>(.str [c],aU ((f c).getD N))))->k (.loc m) S'):WE Γ YZ [some (.loc d),some (aU N)] S k:=by
 unfold YZ;have nd:=Oz;have gl:SG.length=95:=rfl;generalize SG=G at *;room;rwa[gB (S:=S) _ (G.map λc=>.tup [.str [c],aU ((f c).getD N)]) (by simp) (by simp;omega) (λS' x=>trivial) (λu S' k h=>h) (λj u v hu hv S2 k x' hk=>?_) λS2 x'=>?_]
 .rw[aB] at hu hv
  let#[c,hc,rfl]:=ar.mp hu;rw[hc] at hv;have hv:U.tup [.str [c],aU ((f c).getD N)]=v:=by simpa using hv
  subst hv;room;rw[x'.get hd]
  dsimp[getD_some,kR,true_and];refine#[dI G f,rfl,by simp,?_];rw[vW,if_pos (af hc)]
  have:((f c).map aU).getD (aU N)=aU ((f c).getD N):=by cases f c<;>rfl
  rw[this]
  erw[hk S2 .refl]
 .refine#[G.map λc=>([c],aU ((f c).getD N)),by simp[dk],by rw[bz];erw[nd],?_]
  rw[bz]
  erw[q _ _ (x'.trans ((Ext.app _).trans (Ext.app _))) (by rw[aw (aq _),bR];rfl)]
theorem Wh(Γ:bZ):Keeps Γ jb 1 Wg:=by
 rintro us S Q ⟨n,ls,go,rfl,⟨r1,r2,r3⟩,hl,q⟩;unfold jb;room;rw[lL r1]
 dsimp[bg,ak];refine#[∅,?_];room;rw[vp]
 refine#[⋯,.inl #[by simp,?_]];have x0:Ext S (S++[SO.eI []]++[SO.lst [U.loc S.length]]):=(Ext.app _).trans (Ext.app _);have g0:(S++[SO.eI []]++[SO.lst [U.loc S.length]])[(S++[SO.eI []]).length]?=some (.lst [U.loc S.length]):=by
  rw[aw (aq _),bR];rfl
 have d0:(S++[SO.eI []]++[SO.lst [U.loc S.length]])[S.length]?=some (.eI []):=(Ext.app _).get (by simp);generalize (S++[SO.eI []]).length=n0 at g0;generalize S++[SO.eI []]++[SO.lst [U.loc S.length]]=S0 at x0 g0 d0;rw[x0.get r1,g0]
 dsimp[aD];refine#[by simp;omega,?_];have x1:Ext S (S0++[SO.lst (ls.map U.loc++[U.loc S.length])]):=x0.trans (Ext.app _);have g1:(S0++[SO.lst (ls.map U.loc++[U.loc S.length])])[S0.length]?=some (.lst ((ls++[S.length]).map U.loc)):=by simp
 have d1:=(Ext.app [SO.lst (ls.map U.loc++[U.loc S.length])]).get d0;generalize S0.length=n1 at g1;generalize S0++[SO.lst (ls.map U.loc++[U.loc S.length])]=S1 at x1 g1 d1;rw[g1,aD]
 have rd:∀(j d:Nat),(ls++[S.length])[j]?=some d->S1[d]?=some (.eI (sD (dI SG (go j)))):=λj d h=>by
  by_cases hj:j<ls.length
  .rw[ah hj] at h
   erw[x1.get (r2 j d h)]
  .have:=(ae.mp h).1
   have ej:j=ls.length:=by simp at this;omega
   subst ej;have:S.length=d:=by simpa using h
   subst this;have:dI SG (go ls.length)= []:=by
    unfold dI;rw[List.filterMap_eq_nil_iff]
    intro c _;rw[r3 _ c (aq _)];rfl
   rw[this];erw[d1]
 refine iF _ (λi acc S'=>Ext S1 S'/\∃ms:List Nat,acc=ms.map .loc/\ms.length=i/\∀(j d:Nat),ms[j]?=some d->S'[d]?=some (SO.eI (SG.map λc=>(.str [c],aU (gN ls.length go j c))))) (λi acc S' hi h9=>by let#[x,ms,e1,e2,_]:=h9;exact#[x.get g1,by rw[e1];simp at hi ⊢;omega]) (λi u acc S' k hu hi hk=>?_) (λacc S' hI=>?_) #[.refl,[],rfl,rfl,by simp]
 .let#[x,ms,rfl,e2,inv]:=hi
  let#[d,hd,rfl]:=d6 hu;rw[if_pos rfl]
  rwa[Sa (x.get (rd i d hd)) λm S2 x2 g2=>hk _ _ #[x.trans x2,ms++[m],by rw[aK];rfl,by simp[e2],λj d hj=>?_]]
  by_cases hlt:j<ms.length
  .rw[ah hlt] at hj
   erw[x2.get (inv j d hj)]
  .have:=(ae.mp hj).1
   have ej:j=ms.length:=by simp at this;omega
   subst ej;have:m=d:=by simpa using hj
   rw[<-this,e2]
   erw[g2]
 .let#[x,ms,rfl,e2,inv]:=hI
  have e2:ms.length=ls.length+1:=by simpa using e2
  erw[q _ _ ms ((x1.trans x).trans (Ext.app _)) e2 #[by simp,λj d h=>(Ext.app _).get (inv j d h)]]
noncomputable def pk(b:List Nat)(g:Nat->Nat->Nat)(sg:List Nat)(N:Nat):List (Nat×List Nat):=(bX N).map λj=>(b.getD j 0,sg.map λc=>b.getD (g j c) 0)
theorem zy{b:List Nat}{j:Nat}{r:U->Prop}(h:j<b.length)(z:r (aU (b.getD j 0))):opt (sP (b.map aU) ((j:Nat):Int)) r:=by
 rw[jN,aB,aa h]
 rw[aE,aa h] at z;erw[z]
theorem Sb{Γ:bZ}{S:bJ}{nb nr ns m d:Nat}{b sg:List Nat}{f:Nat->Nat}{x4:U}{k:KU}(hb:S[nb]?=some (.lst (b.map aU)))(hs:S[ns]?=some (.lst (sg.map λc=>.str [c])))(hd:S[d]?=some (.eI (SG.map λc=>(.str [c],aU (f c)))))(sl:sg.length<=95)(hg:∀c∈sg,c∈SG/\f c<b.length)
  (q:∀m S',Ext S S'->S'[m]?=some (.lst ((sg.map λc=>b.getD (f c) 0).map aU))->k (.loc m) S'):WE Γ Y0 [some (.loc nb),some (.loc nr),some (.loc ns),some (.loc m),some x4,some (.loc d)] S k:=by
 unfold Y0;room;rw[hs,aD]
 rwa[gB (S:=S) _ ((sg.map λc=>b.getD (f c) 0).map aU) (by simp) (by simp;omega) (λS' x=>x.get hs) (λu S' k h=>h) (λj u v hu hv S2 k x' hk=>?_) λS2 x'=>?_]
 .let#[c,hc,rfl]:=d6 hu
  rw[aB,aB,hc] at hv;have hv:aU (b.getD (f c) 0)=v:=by simpa using hv
  subst hv;let#[h1,h2]:=hg c (af hc);rw[x'.get hd,kR,zx h1,bg]
  refine#[rfl,?_];show getL S2[nb]? _;rw[x'.get hb,aD]
  erw[zy h2 (hk S2 .refl)]
 .erw[q _ _ (x'.trans (Ext.app _)) (by simp)]
def OH:Spec:=λus S Q=>∃nb nr ns ls b sg g,us=[.loc nb,.loc nr,.loc ns]/\S[nb]?=some (.lst (b.map aU))/\Rw S nr ls g/\S[ns]?=some (.lst (sg.map λc=>.str [c]))/\ls.length<=9000/\b.length=ls.length/\sg.length<=95/\(∀c∈sg,c∈SG/\∀j,j<ls.length->g j c<ls.length) /\
 ∀m S',Ext S S'->S.length<=m->S'[m]?=some (.lst ((lD [] (pk b g sg ls.length)).map aU))->Q (.loc m) S'
theorem Sd(Γ:bZ)(h1:Γ "numbered"=Ke):Keeps Γ rF 3 OH:=by
 rintro us S Q ⟨nb,nr,ns,ls,b,sg,g,rfl,hb,R,hs,hl,bl,sl,hg,q⟩;unfold rF;room;refine#[by simp,?_];room;have x0:Ext S (S++[SO.lst []]):=Ext.app _;rw[x0.get R.l,aD]
 rwa[cx (λi env S1=>∃(x4 x5:Option U),env=[some (.loc nb),some (.loc nr),some (.loc ns),some (.loc S.length),x4,x5]/\Ext S S1/\S1[S.length]?=some (.lst ((pk b g sg i).map Ka))/\i<=ls.length) (λi env S1 h9=>by let#[_,_,_,x,_]:=h9;erw[x.get R.l]) _ ?_ ?_ #[none,none,rfl,x0,by simp[pk],∅]]
 .rintro i u env S1 K hu ⟨x4,x5,rfl,x1,g1,il⟩ hK
  dsimp[fh,aB,o9] at hu;let#[d,hd,rfl]:=ar.mp hu;have hi:=(ae.mp hd).1;dsimp[dk];room;rw[g1,x1.get hb]
  dsimp[aD];refine#[trivial,zy ∅ ?_];rwa[Sb (x1.get hb) (x1.get hs) (x1.get (R.d i d hd)) sl (λc hc=>#[(hg c hc).1,by rw[bl];exact(hg c hc).2 i hi]) λm S2 x2 g2=>?_]
  room;rw[g2,aD]
  refine#[by simp,?_];rw[x2.get g1,aD]
  refine#[by simp[pk];omega,?_];room;have x12:=x1.trans x2;rwa[hK _ _ #[_,_,rfl,(x12.st ∅),?_,hi]];rw[gs (x2.get g1)]
  unfold pk;rw[List.range_succ,aK,aK]
  rfl
 .rintro env S1 ⟨x4,x5,rfl,x1,g1,il⟩
  rw[lH,ak] at g1;room;erw[ca h1 #[_,rfl,.inr #[_,_,rfl,g1,by simp[pk];omega,λm S2 x2 ml g2=>q m S2 (x1.trans x2) (aH x1.1 ml) g2]]]
def Eqv(told:List (Option Nat))(g:Nat->Nat->Nat):Nat->Nat->Nat->Prop
 |0,i,j=>told[i]?=told[j]?
 |k+1,i,j=>Eqv told g k i j/\∀c∈SG,Eqv told g k (g i c) (g j c)
structure GQ(told:List (Option Nat))(g:Nat->Nat->Nat)(k:Nat)(b:List Nat):Prop where
 len:b.length=told.length
 fx:lD [] b=b
 iff:∀i j,i<told.length->j<told.length->(b.getD i 0=b.getD j 0↔Eqv told g k i j)
theorem gd{b:List Nat}{i:Nat}(h:i<b.length):b[i]?=some (b.getD i 0):=by
 rw[aE,aa h];rfl
theorem Kg{a b:List Nat}{i j:Nat}(hi:i<b.length)(hj:j<b.length):b.getD i 0=b.getD j 0↔b[i]?=b[j]?:=by
 rw[gd hi,gd hj];simp
theorem Wi{told:List (Option Nat)}{g:Nat->Nat->Nat}:GQ told g 0 (lD [] told):=by
 refine#[lZ told [],EE told,λi j hi hj=>?_];rw[Kg (a:=[]) (by rw[lZ];erw[hi]) (by rw[lZ];erw[hj]),uE (aa hi) (aa hj)]
 unfold Eqv;rw[aa hi,aa hj]
 simp
theorem OI(h:i<N):(pk b g sg N)[i]?=some (b.getD i 0,sg.map λc=>b.getD (g i c) 0):=by
 unfold pk;rw[aB,iG h];rfl
theorem Wj{told:List (Option Nat)}{g:Nat->Nat->Nat}{k:Nat}{b sg:List Nat}(h:GQ told g k b)(hc:∀j c,j<told.length->c∈SG->g j c<told.length)(h1:∀c∈sg,c∈SG)(h2:∀c∈SG,∃c'∈sg,∀j,j<told.length->g j c'=g j c):GQ told g (k+1) (lD [] (pk b g sg told.length)):=by
 have l1:(lD [] (pk b g sg told.length)).length=told.length:=by rw[lZ];simp[pk]
 refine#[l1,EE _,λi j hi hj=>?_];rw[Kg (a:=[]) ∅ ∅,uE (OI hi) (OI hj),Prod.mk.injEq,h.iff i j hi hj]
 show _↔Eqv told g k i j/\∀c∈SG,Eqv told g k (g i c) (g j c)
 rwa[and_congr_right λ_=>?_]
 rw[tI]
 constructor
 .intro z c hcm
  let#[c',m',e']:=h2 c hcm;rw[<-e' i hi,<-e' j hj]
  exact(h.iff _ _ (hc i c' hi (h1 c' m')) (hc j c' hj (h1 c' m'))).mp (z c' m')
 .intro z c hcm
  exact(h.iff _ _ (hc i c hi (h1 c hcm)) (hc j c hj (h1 c hcm))).mpr (z c (h1 c hcm))
theorem EG{told:List (Option Nat)}{g:Nat->Nat->Nat}{k m:Nat}{b:List Nat}(h:GQ told g k b)(h1:m∈b)(h2:∀j∈b,j<=m):m+1=(sn [] b).length:=by
 have:=h.fx;rw[<-this] at h1 h2;erw[NI h1 h2]
theorem Se{told:List (Option Nat)}{g:Nat->Nat->Nat}{k:Nat}{a b:List Nat}(ha:GQ told g (k+1) a)(hb:GQ told g k b):(sn [] b).length<=(sn [] a).length/\((sn [] b).length=(sn [] a).length->a=b):=by
 have h:∀(i j:Nat)(x y u v:Nat),a[i]?=some x->a[j]?=some y->b[i]?=some u->b[j]?=some v->x=y->u=v:=by
  intro i j x y u v e1 e2 e3 e4 e;have l1:=(ae.mp e1).1;have l2:=(ae.mp e2).1;have la:=ha.len;have lb:=hb.len;have z:=(ha.iff i j ∅ ∅).mp (by rw[aE,aE,e1,e2,e]);have:=(hb.iff i j ∅ ∅).mpr z.1;rw[aE,aE,e3,e4] at this;erw[this]
 have l:a.length=b.length:=by rw[ha.len,hb.len]
 refine#[Dn l h,λe=>?_];have:=ED l h e;rw[ha.fx,hb.fx] at this;erw[this]
theorem EH{S:bJ}{n:Nat}{b:List Nat}{Q:KU}(h:S[n]?=some (.lst (b.map aU)))(b0:0<b.length)(q:∀m∈b,(∀j∈b,j<=m)->Q (aU m) S):rq .max [.loc n] S Q:=by
 cases b with
 |nil=>simp at b0
 |cons x b=>
  refine#[(x:Int),b.map λ(n:Nat)=>(n:Int),by rw[h];simp,λm hm hj=>?_];have e:((x:Int)::b.map λ(n:Nat)=>(n:Int))=(x::b).map λ(n:Nat)=>(n:Int):=rfl
  rw[e] at hm hj;let#[y,hy,rfl]:=bG.mp hm;rwa[q y hy λj m=>?_]
  have:=hj _ (bG.mpr #[j,m,rfl]);omega
theorem zz{α:Type}{l:List α}{x:α}:sP (l++[x]) (-1)=some x:=by
 unfold sP P5;rw[if_neg ∅,if_pos (by simp;omega)]
 have:((-1:Int)+((l++[x]).length:Nat)).toNat=l.length:=by rw[az];simp;omega
 rw[this];simp
structure ZK(told:List (Option Nat))(g:Nat->Nat->Nat)(S:bJ)(fs:List Nat):Prop where
 r:∀(k n:Nat),fs[k]?=some n->∃b,S[n]?=some (.lst (b.map aU))/\GQ told g k b
 ne:fs≠[]
 st:∀i j,i<told.length->j<told.length->Eqv told g (fs.length-1) i j->Eqv told g fs.length i j
 le:fs.length<=told.length+1
def Wk:Spec:=λus S Q=>∃nr ls g told,us=[.tup (told.map uN),.loc nr]/\Rw S nr ls g/\told.length=ls.length/\0<ls.length/\ls.length<=9000/\(∀j c,j<told.length->c∈SG->g j c<told.length)/\∀F fs S',Ext S S'->S'[F]?=some (.lst (fs.map .loc))->ZK told g S' fs->Q (.loc F) S'
structure Wl(told:List (Option Nat))(g:Nat->Nat->Nat)(L:Nat)(S3:bJ)(fs:List Nat)(m:Nat)(b:List Nat):Prop where
 f:S3[L]?=some (.lst ((fs++[m]).map .loc))
 v:S3[m]?=some (.lst (b.map aU))
 r:GQ told g fs.length b
 a:∀(k n:Nat),(fs++[m])[k]?=some n->n≠L/\∃b,S3[n]?=some (.lst (b.map aU))/\GQ told g k b
 l:fs.length<=(sn [] b).length/\(sn [] b).length<=told.length
theorem Wl.push{told:List (Option Nat)}{g:Nat->Nat->Nat}{L m m':Nat}{S3 S4:bJ}{fs b a':List Nat}(a:Wl told g L S3 fs m b)(x:Ext S3 S4)(ml:S3.length<=m')(g4:S4[m']?=some (.lst (a'.map aU)))(ra:GQ told g (fs.length+1) a')(lt:(sn [] b).length<(sn [] a').length):Wl told g L (S4.set L (.lst ((fs++[m]).map .loc++[.loc m']))) (fs++[m]) m' a':=by
 have ne:m'≠L:=du (av (aN a.f) ml);have gs':∀n o,n≠L->S4[n]?=some o->(S4.set L (.lst ((fs++[m]).map .loc++[.loc m'])))[n]?=some o:=λn o ne e=>by rw[ao (cR ne)];erw[e]
 have le:(fs++[m]).length=fs.length+1:=by simp
 have sl:=vU a' [];refine#[by rw[gs (x.get a.f)];simp,gs' _ _ ne g4,by rw[le];erw[ra],λk n e=>?_,by rw[le];erw[gg a.l.1 lt],?_]
 .by_cases hk:k<(fs++[m]).length
  .rw[ah hk] at e
   let#[ne,b',e1,e2]:=a.a k n e;exact#[ne,b',gs' _ _ ne (x.get e1),e2]
  .have:=aN e
   rw[az] at this;have ek:k=(fs++[m]).length:=wm (KJ this) (fM hk);subst ek;have:m'=n:=by simpa using e
   subst this;exact#[ne,a',gs' _ _ ne g4,by rw[le];erw[ra]]
 .rw[ra.len] at sl;simpa using sl
theorem Wm(Γ:bZ)(h1:Γ "telling_signs"=OG)(h2:Γ "numbered"=Ke)(h3:Γ "parted"=OH):Keeps Γ rE 3 Wk:=by
 rintro us S Q ⟨nr,ls,g,told,rfl,R,tl,l0,hl,hg,q⟩;unfold rE;room;rwa[ca h1 #[nr,ls,g,rfl,R,hl,λns S1 sg x1 nsl g1 sl s1 s2=>?_]];rw[<-tl] at s2 hl l0;room;rwa[ca h2 #[_,rfl,.inl #[told,rfl,hl,λn0 S2 x2 nl2 g2=>#[by simp,?_]]]];have x12:=x1.trans x2;have gs2:=x2.get g1;room;have r0:GQ told g 0 (lD [] told):=Wi;have sn0:=vU (lD [] told) [];rw[lZ] at sn0;have I0:Wl told g S2.length (S2++[SO.lst [U.loc n0]]) [] n0 (lD [] told):=#[by simp,(Ext.app _).get g2,r0,λk n e=>?_,b8 _,by simpa using sn0]
 .refine#[told.length+1,nP (λN env S3=>∃(fs:List Nat)(m:Nat)(b:List Nat)(x4:Option U),N=told.length-(sn [] b).length/\env=[some (.tup (told.map uN)),some (.loc nr),some (.loc ns),some (.loc S2.length),x4]/\Ext S2 S3/\Wl told g S2.length S3 fs m b) ?_ _ (told.length-(sn [] (lD [] told)).length) _ _ (t6 (Nat.sub_le _ _)) #[[],n0,_,none,rfl,rfl,Ext.app _,I0]]
  rintro N env S3 K ⟨fs,m,b,x4,rfl,rfl,x3,I⟩ hK;let#[g3,gm,rb,inv,fl,snl]:=id I;room;rw[g3,aD,aK]
  rw[show [m].map U.loc=[.loc m] from rfl,zz,bg]
  refine ca h3 #[m,nr,ns,ls,b,sg,g,rfl,gm,R.ext (x12.trans x3),x3.get gs2,tl▸hl,by rw[rb.len,tl],sl,λc hc=>#[s1 c hc,λj hj=>by rw[<-tl] at hj ⊢;erw[hg j c hj (s1 c hc)]],λm' S4 x4 ml' g4=>?_];rw[<-tl] at g4;have ra:=Wj rb hg s1 s2;generalize lD [] (pk b g sg told.length)=a at g4 ra;let#[le,eqn]:=Se ra rb;room;rwa[EH g4 (ra.len▸l0) λma h1a h2a=>?_]
  have ea:=EG ra h1a h2a;rw[x4.get g3,aD,aK,show [m].map U.loc=[.loc m] from rfl,zz,bg]
  rwa[EH (x4.get gm) (rb.len▸l0) λmb h1b h2b=>?_]
  have eb:=EG rb h1b h2b;room;by_cases z:ma=mb
  .have:((ma:Int)== (mb:Int))=true:=by rw[beq_iff_eq,z]
   dsimp[this,if_true];have e:=eqn (by rw[<-ea,<-eb,z]);subst e;room;rwa[q _ (fs++[m]) S4 ((x12.trans x3).trans x4) (x4.get g3) #[λk n e=>?_,by simp,λi j hi hj h=>?_,by rw[az];erw[oa (aH fl snl)]]]
   .let#[_,b,e1,e2]:=inv k n e
    exact#[b,x4.get e1,e2]
   .rw[az] at h ⊢
    exact(ra.iff i j hi hj).mp ((rb.iff i j hi hj).mpr h)
  .have:((ma:Int)== (mb:Int))=false:=by rw[beq_eq_false_iff_ne];erw[λy=>z (lA y)]
   dsimp[this,ag,if_false];room;rw[x4.get g3,aD]
   have lt:(sn [] b).length<(sn [] a).length:=Hi le λy=>z (by rw[<-ea,<-eb] at y;exact(mR y).symm)
   have I4:=I.push x4 ml' g4 ra lt;refine#[trivial,by rw[ak,az];exact gg (oa (aH fl (aH snl hl))) ⋯,?_];try room
   have x34:=x3.trans x4;erw[hK (told.length-(sn [] a).length) _ _ (Nat.sub_lt_sub_left (av lt I4.l.2) lt) #[fs++[m],m',a,_,rfl,rfl,#[by rw[cu];exact x34.1,λn hn=>by rw[ao (du hn)];exact x34.2 n hn],I4]]
 .have:=aN e
  have ek:k=0:=by simp at this;erw[this]
  subst ek;have:n0=n:=by simpa using e
  subst this;exact#[aY (aN g2),_,(Ext.app _).get g2,r0]
def Gh(k:Nat)(told:List (Option Nat))(R:Nat):SO:=.ins "Table" [("takes",.loc k),("told",.tup (told.map uN)),("rows",.loc R)]
structure vX(S:bJ)(T:Nat)(told:List (Option Nat))(ls:List Nat)(go:Nat->Nat->Option Nat):Prop where
 o:∃k R,S[T]?=some (Gh k told R)/\S[k]?=some (.lst (told.map uN))/\Rp S R ls go
 ll:ls.length=told.length
 sz:told.length<=4000
 cl:∀j c k,c∈SG->go j c=some k->k<told.length
theorem vX.ext(h:vX S T told ls go)(x:Ext S S'):vX S' T told ls go:=by
 let#[k,R,h1,h2,h3]:=h.o;exact#[#[k,R,x.get h1,x.get h2,h3.ext x],h.ll,h.sz,h.cl]
def NJ:Spec:=λus S Q=>∃T a R told,us=[.loc T,.loc a,.loc R]/\S[T]?=some (.ins "Table" [])/\S[a]?=some (.lst (told.map uN))/\∀k S',Old T S S'->S'[T]?=some (Gh k told R)->S'[k]?=some (.lst (told.map uN))->Q .bV S'
theorem Wn(Γ:bZ):Keeps Γ kL 0 NJ:=by
 rintro us S Q ⟨T,a,R,told,rfl,hT,ha,q⟩;unfold kL;have ne:a≠T:=λz=>by rw[z,hT] at ha;cases ha
 room;rw[ha,aD]
 have x1:Ext S (S++[SO.lst (told.map uN)]):=Ext.app _;have g1:(S++[SO.lst (told.map uN)])[S.length]?=some (.lst (told.map uN)):=by simp
 have n1:S.length≠T:=du (aN hT);generalize S.length=k at g1 n1;generalize S++[SO.lst (told.map uN)]=S1 at x1 g1;rwa[Gb (x1.get hT) (by simp) λS2 o2 l2 g2=>?_]
 room;rw[ou o2 (x1.get ha) ne,aD]
 rwa[Gb g2 (by simp[gX]) λS3 o3 l3 g3=>?_]
 room;rwa[Gb g3 (by simp[gX]) λS4 o4 l4 g4=>?_]
 room;erw[q k S4 (((Ext.old x1).trans o2).trans (o3.trans o4)) g4 (ou o4 (ou o3 (ou o2 g1 n1) n1) n1)]
def zA:Spec:=λus S Q=>∃T told ls go j c,us=[.loc T,aU j,.str [c]]/\vX S T told ls go/\j<told.length/\c∈SG/\Q (uN (go j c)) S
theorem Sf(h:S[T]?=some (Gh k told R)):om (.loc T) "rows" S r=r (.loc R):=by rw[iC,h];rfl
theorem NK(h:S[T]?=some (Gh k told R)):om (.loc T) "told" S r=r (.tup (told.map uN)):=by rw[iC,h];rfl
theorem at_of{α:Type}{f:α->U}{l:List α}{j:Nat}{a:α}{r:U->Prop}(h:l[j]?=some a)(z:r (f a)):opt (sP (l.map f) ((j:Nat):Int)) r:=by
 rw[jN,aB,h];erw[z]
theorem Wo(Γ:bZ):Keeps Γ kM 0 zA:=by
 rintro us S Q ⟨T,told,ls,go,j,c,rfl,h,hj,hc,q⟩;unfold kM;let#[k,R,h1,h2,h3]:=h.o;have hl:=h.ll;room;rw[Sf h1]
 room;rw[h3.l,aD]
 have hd:=aa (show j<ls.length by omega);have dd:=h3.d j _ hd;rwa[at_of hd ?_];refine#[by show iV S[_]? _;rw[dd];trivial,?_];show iV S[_]? _;rw[dd]
 refine#[rfl,?_];rw[EF,vW,if_pos hc]
 cases e:go j c<;>rw[e] at q<;>exact q
noncomputable def An(go:Nat->Nat->Option Nat)(x:List Nat):Option Nat:=x.foldl (λs c=>s.bind λj=>go j c) (some 0)
theorem Bp:An go (x++[c])=(An go x).bind λj=>go j c:=by unfold An;rw[fj];rfl
theorem Kh(h:An go (x.take k)=none):An go x=none:=by
 have:∀y:List Nat,y.foldl (λs c=>s.bind λj=>go j c) (none:Option Nat)=none:=λy=>by
  induction y with
  |nil=>rfl
  |cons a y ih=>erw[ih]
 rw[<-pb k x]
 unfold An at h ⊢;rw[fj,h,this]
theorem Ki(h:vX S T told ls go)(h0:0<told.length):∀(x:List Nat),(∀c∈x,c∈SG)->An go x=some j->j<told.length:=by
 intro x hx e;rcases j9 x with rfl|⟨y,c,rfl⟩
 .have:0=j:=by simpa[An] using e
  omega
 .rw[kb,Bp] at e
  let#[i,_,e]:=au.mp e;erw[h.cl i c j (hx c (by simp)) e]
def fst(told:List (Option Nat))(go:Nat->Nat->Option Nat)(x:List Nat):Option Nat:=(An go x).bind λj=>told.getD j none
def Kj:Spec:=λus S Q=>∃T told ls go x,us=[.loc T,.str x]/\vX S T told ls go/\0<told.length/\(∀c∈x,c∈SG)/\Q (uN (fst told go x)) S
theorem Wq(Γ:bZ)(h1:Γ "Table.goes"=zA):Keeps Γ jZ 2 Kj:=by
 rintro us S Q ⟨T,told,ls,go,x,rfl,h,h0,hx,q⟩;unfold jZ;let#[k,R,hT,h2,h3]:=h.o;room;rwa[cx (λi env S1=>S1=S/\∃(j:Nat)(x3:Option U),env=[some (.loc T),some (.str x),some (aU j),x3]/\An go (x.take i)=some j) (λ_ _ _ _=>trivial) _ ?_ ?_ #[rfl,0,none,rfl,rfl]]
 .rintro i u env S1 K hu ⟨rfl,j,x3,rfl,inv⟩ hK
  let#[c,hc,rfl]:=d6 hu;have jl:=Ki h h0 _ (λc m=>hx c (List.mem_of_mem_take m)) inv;have tn:An go (x.take (i+1))=go j c:=by rw[take_snoc hc,Bp,inv];rfl
  room;have hT':=hT;unfold Gh at hT';rw[hT',bN]
  refine#[#[rfl,rfl],ca h1 #[T,told,ls,go,j,c,rfl,h,jl,hx c (af hc),?_]];room;cases e:go j c with
  |none=>
   rw[e] at tn;dsimp[uN,kz,if_true];room;unfold fst at q;rw[Kh tn] at q;erw[q]
  |some j'=>
   rw[e] at tn;dsimp[uN,kz,ag,if_false];room;erw[hK _ _ #[rfl,j',_,rfl,tn]]
 .rintro env S1 ⟨rfl,j,x3,rfl,inv⟩
  rw[ak,bY] at inv;have jl:=Ki h h0 _ hx inv;have sz:=h.sz;room;rw[NK hT]
  room;refine#[by simp;omega,at_of (aa jl) ?_];unfold fst at q;rw[inv] at q;have:told.getD j none=told[j]:=by rw[aE,aa jl];rfl
  rw[GI,this] at q;erw[q]
theorem EI{S S':bJ}{o:SO}(h:Old S.length (S++[o]) S'):Ext S S':=by
 have l:=h.1;rw[az] at l;exact#[aH (og _ _) l,λn hn=>by rw[h.2 n (by rw[az];erw[av hn (og _ _)]) (aY hn),ah hn]]
section
variable{tk:Nat->Nat}{Ls G:List Nat}{r h c:Nat}
noncomputable def gz(tk:Nat->Nat)(Ls:List Nat)(r c:Nat):Option Nat:=if r&&&tk c=0 then none else some (Ls.idxOf (r&&&tk c))
theorem Sg(z:r&&&tk c=0\/r&&&tk c∈Ls):gz tk (Ls++[h]) r c=gz tk Ls r c:=by
 unfold gz;rcases z with z|z
 .rw[if_pos z,if_pos z]
 .rw[nU z]
theorem Bq(z:∀c∈G,r&&&tk c=0\/r&&&tk c∈Ls):dI G (gz tk (Ls++[h]) r)=dI G (gz tk Ls r):=by
 unfold dI;induction G with
 |nil=>rfl
 |cons x G ih=>rw[cj,cj,Sg (z x (aQ ..)),ih λc m=>z c (aA _ m)]
theorem NL(e:f c=none):dI (G++[c]) f=dI G f:=by
 unfold dI;rw[B5];simp[e]
theorem NM(e:f c=some k):sD (dI (G++[c]) f)=sD (dI G f)++[(.str [c],aU k)]:=by
 unfold dI sD;rw[B5,aK];simp[e]
def nz(Ls:List Nat):List (U×U):=(dz Ls 0).map λp=>(aU p.1,p.2)
theorem Sh:(nz Ls).length=Ls.length:=by unfold nz;rw[ak,zt]
theorem Si:nz (Ls++[h])=nz Ls++[(aU h,aU Ls.length)]:=by unfold nz;rw[JZ,aK,oG];rfl
theorem zB:vh (aU h) (nz Ls)=if h∈Ls then some (aU (Ls.idxOf h)) else none:=by
 have e:nz Ls=((dz Ls 0).map λp=>(some p.1,p.2)).map λp=>(uN p.1,p.2):=by unfold nz;rw[bz];rfl
 have:=J0 (some h) ((dz Ls 0).map λp=>(some p.1,p.2));rw[e,show aU h=uN (some h) from rfl,this,JX some (λ_ _=>aF),zu,oG]
end
structure Br(S S1:bJ)(tk:Nat->Nat)(Ls rs ds:List Nat):Prop where
 x:Ext S S1
 l:S1[S.length]?=some (.lst (Ls.map aU))
 n:S1[S.length+1]?=some (.eI (nz Ls))
 r:S1[S.length+2]?=some (.lst (ds.map .loc))
 d:∀(j d r:Nat),ds[j]?=some d->rs[j]?=some r->S.length+3<=d/\S1[d]?=some (.eI (sD (dI SG (gz tk Ls r))))
 m:∀r∈rs,∀c∈SG,r&&&tk c=0\/r&&&tk c∈Ls
 nd:Ls.Nodup
theorem Br.set(h:Br S S1 tk Ls rs ds)(hd:S.length+3<=d0)(hn:∀(j r:Nat),rs[j]?=some r->ds[j]?≠some d0):Br S (S1.set d0 o) tk Ls rs ds:=by
 have e:∀(n:Nat)(o':SO),n≠d0->S1[n]?=some o'->(S1.set d0 o)[n]?=some o':=λn o' ne g=>by rw[ao (cR ne)];erw[g]
 exact#[#[by rw[cu];erw[h.x.1],λn hn=>by rw[ao ∅];erw[h.x.2 n hn]],e _ _ ∅ h.l,e _ _ ∅ h.n,e _ _ ∅ h.r,λj d r h1 h2=>#[(h.d j d r h1 h2).1,e _ _ (λz=>hn j r h2 (z▸h1)) (h.d j d r h1 h2).2],h.m,h.nd]
theorem Br.ext(h:Br S S1 tk Ls rs ds)(x:Ext S1 S2):Br S S2 tk Ls rs ds:=
 #[h.x.trans x,x.get h.l,x.get h.n,x.get h.r,λj d r h1 h2=>#[(h.d j d r h1 h2).1,x.get (h.d j d r h1 h2).2],h.m,h.nd]
theorem Br.more(a:Br S S1 tk Ls rs ds)(hn:h∉Ls):Br S ((S1.set (S.length+1) (.eI (nz Ls++[(aU h,aU Ls.length)]))).set S.length (.lst (Ls.map aU++[aU h]))) tk (Ls++[h]) rs ds:=by
 have e:∀(n:Nat)(o o1 o2:SO),n≠S.length->n≠S.length+1->S1[n]?=some o->((S1.set (S.length+1) o1).set S.length o2)[n]?=some o:=λn o o1 o2 n1 n2 g=>by rw[ao (cR n1),ao (cR n2)];erw[g]
 have l1:=aN a.n;refine#[#[by rw[cu,cu];erw[a.x.1],λn hn=>by rw[ao ∅,ao ∅];erw[a.x.2 n hn]],?_,?_,e _ _ _ _ ∅ ∅ a.r,λj d r h1 h2=>?_,λr m c hc=>?_,?_]
 .rw[bM (by rw[cu];omega)];simp
 .rw[ao ∅,bM l1,Si]
 .let#[z1,z2]:=a.d j d r h1 h2
  exact#[z1,by rw[Bq (a.m r (af h2))];erw[e _ _ _ _ ∅ ∅ z2]]
 .rcases a.m r m c hc with z|z
  .erw[.inl z]
  .erw[.inr (by simp[z])]
 .rw[dq]
  exact#[a.nd,by simp,λx hx y hy=>by rw[bC.mp hy];erw[λz=>hn (z▸hx)]]
theorem zC:SG.Nodup:=⋯
theorem Wr(Γ:bZ){S S1:bJ}{P r d0 m c:Nat}{bh en Ls rs ds:List Nat}{tk:Nat->Nat}{x7:Option U}{K:Env->bJ->Prop}{Q:KU}(pa:JH S P bh en tk)(I:Br S S1 tk Ls rs ds)(g0:S1[d0]?=some (.eI (sD (dI (SG.take m) (gz tk Ls r)))))(hd0:S.length+3<=d0)(hds:∀(j r:Nat),rs[j]?=some r->ds[j]?≠some d0)(hc:SG[m]?=some c)(hm:∀c∈SG.take m,r&&&tk c=0\/r&&&tk c∈Ls)(lt:Ls.length<=4000)
  (q:∀Ls' S2,Br S S2 tk Ls' rs ds->S2[d0]?=some (.eI (sD (dI (SG.take (m+1)) (gz tk Ls' r))))->(∀c∈SG.take (m+1),r&&&tk c=0\/r&&&tk c∈Ls')->(Ls'=Ls\/(r&&&tk c≠0/\Ls'=Ls++[r&&&tk c]))->K [some (.loc P),some (.loc S.length),some (.loc (S.length+1)),some (.loc (S.length+2)),some (aU r),some (.loc d0),some (.str [c]),some (aU (r&&&tk c))] S2):
  Rest Γ YU #[K,Q] [some (.loc P),some (.loc S.length),some (.loc (S.length+1)),some (.loc (S.length+2)),some (aU r),some (.loc d0),some (.str [c]),x7] S1:=by
 let#[b,e,k,oP,_,_,gk]:=(pa.ext I.x).o;have fk:∀{R},om (.loc P) "takers" S1 R=R (.loc k):=by intro R;rw[iC,oP];rfl
 have cm:=af hc;have et:=GN hc;have nm:c∉SG.take m:=λz=>by
  let#[i,hi]:=bq z;have il:=(ae.mp hi).1;rw[dC] at il;rw[zJ ∅] at hi;have:=(List.getElem?_inj ∅ zC).mp (hi.trans hc.symm);omega
 rw[et] at q;have rl:(sD (dI (SG.take m) (gz tk Ls r))).length<16500000:=by
  have:(dI (SG.take m) (gz tk Ls r)).length<=(SG.take m).length:=List.length_filterMap_le ..;rw[dC] at this;have gl:SG.length=95:=rfl;unfold sD;rw[ak];omega
 have dn:∀f:Nat->Option Nat,vh (.str [c]) (sD (dI (SG.take m) f))=none:=λf=>by rw[EF,vW,if_neg nm]
 unfold YU;room;rw[fk]
 room;rw[gk,kR,zx cm,bg]
 refine#[rfl,?_];rw[uw]
 generalize hh:r&&&tk c=h at *;have go2:∀(Ls':List Nat)(S2:bJ),Br S S2 tk Ls' rs ds->S2[d0]?=some (.eI (sD (dI (SG.take m) (gz tk Ls' r))))->sD (dI (SG.take m) (gz tk Ls' r))=sD (dI (SG.take m) (gz tk Ls r))->(∀c∈SG.take m,r&&&tk c=0\/r&&&tk c∈Ls')->(Ls'=Ls\/Ls'=Ls++[h])->h≠0->h∈Ls'->Rest Γ Xm #[K,Q] [some (.loc P),some (.loc S.length),some (.loc (S.length+1)),some (.loc (S.length+2)),some (aU r),some (.loc d0),some (.str [c]),some (aU h)] S2:=by
  intro Ls' S2 I2 g2 e2 m2 l2 h0 hl;have:((h:Int)== 0)=false:=by rw[beq_eq_false_iff_ne];omega
  unfold Xm;room;dsimp[this,bK,if_true];room;rw[I2.n,kR,zB,if_pos hl,bg]
  refine#[rfl,?_];rw[g2,getD_some]
  refine#[#[rfl,dn _,by rw[e2];erw[rl]],?_];room;rwa[q Ls' _ (I2.set hd0 hds) ?_ (λc' hc'=>?_) (l2.imp id λe=>#[h0,e])]
  .rw[gs g2,NM (k:=Ls'.idxOf h) (by unfold gz;rw[hh,if_neg h0])]
  .rcases aL.mp hc' with z|z
   .erw[m2 c' z]
   .have:c'=c:=by simpa using z
    subst this;erw[.inr (by rw[hh];exact hl)]
 room;by_cases z:h=0
 .subst z
  have z0:(((0:Nat):Int)== 0)=true:=rfl;dsimp[z0,a9,ag,if_false];unfold Xm;room;rwa[q Ls _ I (by rw[NL (by unfold gz;rw[hh,if_pos rfl])];erw[g0]) (λc' hc'=>?_) (.inl rfl)];rcases aL.mp hc' with z|z
  .erw[hm c' z]
  .have:c'=c:=by simpa using z
   subst this;erw[.inl hh]
 .have z':((h:Int)== 0)=false:=by rw[beq_eq_false_iff_ne];omega
  dsimp[z',bK,if_true];rw[I.n,kR,zB]
  refine#[rfl,?_];by_cases y:h∈Ls
  .rw[if_pos y]
   dsimp[Option.isNone_some,ag,if_false];erw[Rest.go (go2 Ls S1 I g0 rfl hm (.inl rfl) z y)]
  .rw[if_neg y]
   dsimp[Option.isNone_none,if_true];room;rw[lL I.l,bg,ak]
   refine#[∅,?_];rw[I.n,getD_some]
   refine#[#[rfl,by rw[zB,if_neg y],by rw[Sh];omega],?_];have l1:(S1.set (S.length+1) (.eI (nz Ls++[(aU h,aU Ls.length)])))[S.length]?=some (.lst (Ls.map aU)):=by rw[ao ∅];erw[I.l]
   room;rw[l1,aD]
   refine#[trivial,by simp;omega,?_];have eq:=Bq (h:=h) hm;rwa[Rest.go (go2 (Ls++[h]) _ (I.more y) ?_ (by rw[eq]) (λc' m'=>(hm c' m').imp id λz=>by simp[z]) (.inr rfl) z (by simp))];rw[eq,ao ∅,ao ∅]
   erw[g0]
theorem Br.push{S S1:bJ}{tk:Nat->Nat}{Ls rs ds:List Nat}{d0 r:Nat}(a:Br S S1 tk Ls rs ds)(g0:S1[d0]?=some (.eI (sD (dI SG (gz tk Ls r)))))(hd:S.length+3<=d0)(hm:∀c∈SG,r&&&tk c=0\/r&&&tk c∈Ls)(hl:ds.length=rs.length):Br S (S1.set (S.length+2) (.lst (ds.map .loc++[.loc d0]))) tk Ls (rs++[r]) (ds++[d0]):=by
 have e:∀(n:Nat)(o o':SO),n≠S.length+2->S1[n]?=some o'->(S1.set (S.length+2) o)[n]?=some o':=λn o o' ne g=>by rw[ao (cR ne)];erw[g]
 refine#[#[by rw[cu];erw[a.x.1],λn hn=>by rw[ao ∅];erw[a.x.2 n hn]],e _ _ _ ∅ a.l,e _ _ _ ∅ a.n,by rw[gs a.r];simp,λj d r' h1 h2=>?_,λr' m=>?_,a.nd]
 .by_cases hj:j<ds.length
  .rw[ah hj] at h1
   rw[ah ∅] at h2;let#[z1,z2]:=a.d j d r' h1 h2;exact#[z1,e _ _ _ ∅ z2]
  .have:=(ae.mp h1).1
   have ej:j=ds.length:=by simp at this;omega
   subst ej;have e1:d0=d:=by simpa using h1
   have e2:r=r':=by rw[hl] at h2;simpa using h2
   subst e1;subst e2;exact#[hd,e _ _ _ ∅ g0]
 .rcases aL.mp m with m|m
  .erw[a.m r' m]
  .have:r'=r:=by simpa using m
   subst this;erw[hm]
def wa(tk:Nat->Nat)(Ls rs:List Nat)(j c:Nat):Option Nat:=(rs[j]?).bind λr=>gz tk Ls r c
theorem vY(h:rs[j]?=some r):wa tk Ls rs j=gz tk Ls r:=by
 funext c;unfold wa;rw[h];rfl
structure Sj(bh en:List Nat)(tk:Nat->Nat)(lots rs:List Nat)(told:List (Option Nat)):Prop where
 z:lots[0]?=some 1
 t:∀(j h:Nat),lots[j]?=some h->∃o,told[j]?=some o/\Xv h en o
 len:told.length=lots.length
 b:∀(j h:Nat),lots[j]?=some h->∃r,rs[j]?=some r/\RJ bh h r
 m:∀r∈rs,∀c∈SG,r&&&tk c=0\/r&&&tk c∈lots
 rl:rs.length<=lots.length
structure DC(bh:List Nat)(D:Nat->Prop):Prop where
 l:bh.length<=11
 c:∀(q B p:Nat),D q->bh[q]?=some B->B.testBit p=true->D p
 b:∀p,D p->p<bh.length
def Tf(i c i' c':Nat):Prop:=i<i'\/(i=i'/\SG.idxOf c<SG.idxOf c')
theorem EJ(h:¬Tf i c i' c'):i'<i\/(i'=i/\SG.idxOf c'<=SG.idxOf c):=by
 unfold Tf at h;omega
structure Xz(tk:Nat->Nat)(D:Nat->Prop)(lots rs:List Nat):Prop where
 p:∀j,0<j->j<lots.length->∃i r c,i<j/\rs[i]?=some r/\c∈SG/\lots[j]?=some (r&&&tk c)/\r&&&tk c≠0/\wa tk lots rs i c=some j/\∀i' c' k,c'∈SG->wa tk lots rs i' c'=some k->j<k->Tf i c i' c'
 d:∀h∈lots,∀p,h.testBit p=true->D p
def Sk:Spec:=λus S Q=>∃P bh en tk,∃D:Nat->Prop,us=[.loc P]/\JH S P bh en tk/\DC bh D/\D 0 /\
 ∀T told ls lots rs S',vX S' T told ls (wa tk lots rs)->(∀d∈ls,S.length<=d)->Ext S S'->Sj bh en tk lots rs told->Xz tk D lots rs->Q (.loc T) S'
theorem r6{α:Type}{l:List α}{x y:α}{k:Nat}(h:(l++[x])[k]?=some y):l[k]?=some y\/(k=l.length/\x=y):=by
 by_cases z:k<l.length
 .rw[ah z] at h;erw[.inl h]
 .have:=aN h
  have e:k=l.length:=by simp at this;omega
  subst e;exact .inr #[rfl,by simpa using h]
structure Ws(S S1:bJ)(tk:Nat->Nat)(bh:List Nat)(D:Nat->Prop)(Ls rs ds:List Nat):Prop where
 s:Br S S1 tk Ls rs ds
 dl:ds.length=rs.length
 le:ds.length<=Ls.length
 z:Ls[0]?=some 1
 d:∀h∈Ls,∀p,h.testBit p=true->D p
 b:∀(j r:Nat),rs[j]?=some r->∃h,Ls[j]?=some h/\RJ bh h r
 p:∀(j h:Nat),0<j->Ls[j]?=some h->∃i r c,i<j/\rs[i]?=some r/\c∈SG/\h=r&&&tk c/\h≠0/\∀i' r' c',rs[i']?=some r'->c'∈SG->¬Tf i c i' c'->r'&&&tk c'=0\/r'&&&tk c'∈Ls.take (j+1)
theorem r8{bh L:List Nat}{D:Nat->Prop}(C:DC bh D)(nd:L.Nodup)(hL:∀h∈L,∀p,h.testBit p=true->D p):L.length<=2048:=by
 have:=vS (l':=bX 2048) nd λx hx=>lE.mpr (av (jI λp hp=>C.b p (hL x hx p hp)) (show 2^bh.length<=2048 from bw (n:=2) (j:=11) ⋯ C.l))
 simpa using this
theorem Sl(Γ:bZ)(h1:Γ "Places.beyond"=JJ){S S1:bJ}{P:Nat}{bh en Ls rs ds:List Nat}{tk:Nat->Nat}{D:Nat->Prop}{x4 x5 x6 x7:Option U}{K:Env->bJ->Prop}{Q:KU}(pa:JH S P bh en tk)(C:DC bh D)(J:Ws S S1 tk bh D Ls rs ds)(dl:ds.length<Ls.length)
  (q:∀Ls rs ds' S2 x4 x5 x6 x7,Ws S S2 tk bh D Ls rs ds'->ds'.length=ds.length+1->K [some (.loc P),some (.loc S.length),some (.loc (S.length+1)),some (.loc (S.length+2)),x4,x5,x6,x7] S2):
  Rest Γ YV #[K,Q] [some (.loc P),some (.loc S.length),some (.loc (S.length+1)),some (.loc (S.length+2)),x4,x5,x6,x7] S1:=by
 let#[I,hl,hle,hz,hD,hb,hp]:=J;have hh:=aa dl;generalize Ls[ds.length]=h at hh;have lb:=r8 C I.nd hD;let#[b,e,k,oP,_]:=(pa.ext I.x).o;unfold YV;room;rw[oP,bN,I.l,lL I.r]
 dsimp[bg,aD,ak];refine#[#[trivial,rfl],∅,at_of hh ?_];refine ca h1 #[P,bh,en,tk,h,rfl,pa.ext I.x,aH C.l ⋯,λp hp=>C.b p (hD h (af hh) p hp),λr S2 hr x2=>?_];have Dr:∀p,r.testBit p=true->D p:=λp hp=>by
  let#[q,B,z1,z2,z3]:=(hr p).mp hp;erw[C.c q B p (hD h (af hh) q z1) z2 z3]
 room;rw[vp]
 refine#[⋯,.inl ?_];have I3:=I.ext (x2.trans (Ext.app [SO.eI []]));have g3:(S2++[SO.eI []])[S2.length]?=some (.eI (sD (dI (SG.take 0) (gz tk Ls r)))):=by simp;rfl
 have d3:S.length+3<=S2.length:=by have:=aN I.r;have:=x2.1;omega
 have n3:∀(j r:Nat),rs[j]?=some r->ds[j]?≠some S2.length:=λj r hj z=>by
  have:=aN (I.d j _ r z hj).2;have:=x2.1;omega
 generalize S2.length=d0 at g3 d3 n3;generalize S2++[SO.eI []]=S3 at I3 g3;have sgl:SG.length=95:=rfl;have sit:∀(i:Nat)(u:U),(SG.map λc=>U.str [c])[i]?=some u->∃c,SG[i]?=some c/\u=.str [c]:=λi u hu=>by
  let#[c,hc,rfl]:=d6 hu;exact#[c,hc,rfl]
 have sl:(SG.map λc=>U.str [c]).length=95:=rfl;rwa[Rest.go ?_];rw[Io,UT,UR,w_lit,v_s]
 generalize hM:(SG.map λc=>U.str [c])=M at sit sl;rwa[cx (λm env S4=>∃(Ls':List Nat)(x6 x7:Option U),env=[some (.loc P),some (.loc S.length),some (.loc (S.length+1)),some (.loc (S.length+2)),some (aU r),some (.loc d0),x6,x7]/\Br S S4 tk Ls' rs ds/\S4[d0]?=some (.eI (sD (dI (SG.take m) (gz tk Ls' r))))/\(∀c∈SG.take m,r&&&tk c=0\/r&&&tk c∈Ls')/\(∃s,Ls'=Ls++s/\∀(k h:Nat),s[k]?=some h->∃m' c,SG[m']?=some c/\h=r&&&tk c/\h≠0/\∀c'∈SG.take (m'+1),r&&&tk c'=0\/r&&&tk c'∈Ls++s.take (k+1))/\∀h∈Ls',∀p,h.testBit p=true->D p) (λ_ _ _ _=>trivial) M ?_ ?_ #[Ls,x6,x7,rfl,I3,g3,by simp,#[[],by simp,λk h m=>nomatch m],hD]]
 .rintro m u env S4 K' hu ⟨Ls',x6,x7,rfl,I4,g4,m4,⟨s,es,ps⟩,D4⟩ hK
  let#[c,hc,rfl]:=sit m u hu;rwa[Wr Γ pa I4 g4 d3 n3 hc m4 (aH (r8 C I4.nd D4) ⋯) λLs2 S5 I5 g5 m5 l5=>hK _ _ #[Ls2,_,_,rfl,I5,g5,m5,?_,?_]]
  .rcases l5 with rfl|⟨nz,rfl⟩
   .exact#[s,es,ps]
   .refine#[s++[_],by rw[es,bP],λk h' m'=>?_]
    rcases r6 m' with m'|⟨rfl,rfl⟩
    .let#[m1,c1,e1,e2,e3,e4]:=ps k h' m'
     exact#[m1,c1,e1,e2,e3,by rw[uP (aN m')];erw[e4]]
    .refine#[m,c,hc,rfl,nz,?_]
     rw[show(s++[r&&&tk c]).take (s.length+1)=s++[r&&&tk c] from gf (by simp),<-bP,<-es];erw[m5]
  .rcases l5 with rfl|⟨nz,rfl⟩
   .erw[D4]
   .intro h' m' p hp
    rcases aL.mp m' with m'|m'
    .erw[D4 h' m' p hp]
    .have:h'=r&&&tk c:=by simpa using m'
     subst this;rw[bB,aj] at hp;erw[Dr p hp.1]
 .rintro env S4 ⟨Ls',x6,x7,rfl,I4,g4,m4,hs,D4⟩
  have et:SG.take M.length=SG:=by rw[sl];rfl
  rw[et] at g4 m4;room;rw[I4.r,aD]
  dsimp[true_and];refine#[by simp;omega,?_];try room
  let#[s,es,ps]:=hs;rwa[q Ls' _ _ _ _ _ _ _ #[I4.push g4 d3 m4 hl,by simp[hl],by rw[es,az,az];erw[aH dl (og _ _)],by rw[es,ah (gg (b8 _) dl)];erw[hz],D4,λj r' hj=>?_,λj h' j0 hj=>?_] (by simp)]
  .rcases r6 hj with hj|⟨rfl,rfl⟩
   .let#[h,e1,e2]:=hb j r' hj
    exact#[h,by rw[es,ah (aN e1)];erw[e1],e2]
   .exact#[h,by rw[es,<-hl,ah dl];erw[hh],hr]
  .rw[es] at hj
   by_cases z:j<Ls.length
   .rw[ah z] at hj
    let#[i,r',c,e1,e2,e3,e4,e5,e6]:=hp j h' j0 hj;refine#[i,r',c,e1,by rw[ah (aN e2)];exact e2,e3,e4,e5,λi1 r1 c1 f1 f2 f3=>?_];have:=aN e2;rw[ah (by rcases EJ f3 with y|y<;>omega)] at f1;rw[es,uP z]
    erw[e6 i1 r1 c1 f1 f2 f3]
   .rw[aw (fM z)] at hj
    let#[m',c,cm,e1,e2,e3]:=ps _ h' hj;refine#[rs.length,r,c,∅,by simp,af cm,e1,e2,λi1 r1 c1 f1 f2 f3=>?_];rw[es,List.take_append,gf ∅,show j+1-Ls.length=j-Ls.length+1 by omega]
    rcases r6 f1 with f1|⟨rfl,rfl⟩
    .exact(I.m r1 (af f1) c1 f2).imp id (bp _)
    .rwa[e3 c1 (List.mem_take_iff_getElem.mpr ?_)]
     rcases EJ f3 with y|⟨_,y⟩
     .erw[absurd y (cD _)]
     .have l1:=bD f2
      have l2:=aN cm;have:SG.idxOf c=m':=by rw[<-(ae.mp cm).2];erw[zC.idxOf_getElem _ l2]
      exact#[SG.idxOf c1,∅,eG l1]
theorem Sn(Γ:bZ)(h2:Γ "Places.first_rule"=JK)(h3:Γ "Table.__init__"=NJ)(pa:JH S P bh en tk)(C:DC bh D)(J:Ws S S1 tk bh D Ls rs ds)(el:Ls.length<=ds.length)
  (q:∀T told ls lots rs S',vX S' T told ls (wa tk lots rs)->(∀d∈ls,S.length<=d)->Ext S S'->Sj bh en tk lots rs told->Xz tk D lots rs->F.rt (.loc T) S'):
  Rest Γ YW F [some (.loc P),some (.loc S.length),some (.loc (S.length+1)),some (.loc (S.length+2)),x4,x5,x6,x7] S1:=by
 let#[I,hl,hle,hz,hD,inv,hp]:=J;have lb:=r8 C I.nd hD;have pa1:=pa.ext I.x;let#[b,e,k,oP,_]:=pa1.o;have rat:∀{j:Nat},j<Ls.length->rs[j]?=some (rs.getD j 0):=λ{j}h=>by rw[aE,aa (hl▸av h el)];rfl
 unfold YW;room;rw[I.l,aD]
 rwa[iF (Ls.map aU) (λi acc S2=>S2=S1/\∃told:List (Option Nat),acc=told.map uN/\told.length=i/\∀(j h:Nat),j<i->Ls[j]?=some h->∃o,told[j]?=some o/\Xv h en o) (λi acc S2 hi h9=>?_) (λi u acc S2 k hu hi hk=>?_) (λacc S2 hI=>?_) #[rfl,[],rfl,rfl,λj h hj=>absurd hj (cZ j)]]
 .let#[x,told,e1,e2,_]:=h9
  rw[ak] at hi;exact#[x▸I.l,by rw[e1,ak];omega]
 .let#[rfl,told,rfl,e2,inv2]:=hi
  let#[h,hh,rfl]:=d6 hu;rw[if_pos rfl,oP,bN]
  refine#[#[rfl,rfl],ca h2 #[P,bh,en,tk,h,rfl,pa1,λo ho=>hk _ _ #[rfl,told++[o],by simp,by simp[e2],λj h' hj hh'=>?_]]];rcases fD.mp hj with y|y
  .let#[o',z1,z2]:=inv2 j h' y hh'
   exact#[o',by rw[ah (e2▸y)];erw[z1],z2]
  .subst y
   rw[hh] at hh';cases hh';exact#[o,by rw[<-e2];simp,ho]
 .let#[rfl,told,rfl,e2,inv2]:=hI
  rw[ak] at e2 inv2;have x3:Ext S2 (S2++[SO.lst (told.map uN)]):=Ext.app _;have g3:(S2++[SO.lst (told.map uN)])[S2.length]?=some (.lst (told.map uN)):=by simp
  have I3:=I.ext x3;generalize S2.length=a at g3;generalize S2++[SO.lst (told.map uN)]=S3 at I3 g3;rwa[ca h3 #[S3.length,a,_,told,rfl,wo,(Ext.app _).get g3,λk' S4 o4 gT gk=>#[rfl,?_]]];have y4:Ext S3 S4:=EI o4;rwa[q _ told ds Ls rs S4 #[#[k',_,gT,gk,y4.get I3.r,λj d hj=>?_,λj c hj=>?_],∅,∅,λj c k hc e=>?_] (λd m=>?_) (I3.x.trans y4) #[hz,λj h hj=>inv2 j h (aN hj) hj,e2,λj h hj=>?_,I.m,hl▸hle] #[λj j0 jl=>?_,hD]]
  .have hr:=rat (av (aN hj) hle)
   rw[vY hr]
   erw[y4.get (I3.d j d _ hj hr).2]
  .unfold wa;rw[cV (hl▸hj)];rfl
  .unfold wa at e
   let#[r,hr,e]:=au.mp e;unfold gz at e;split at e
   .cases e
   .rename_i z
    cases e;rw[e2]
    erw[bD ((I.m r (af hr) c hc).resolve_left z)]
  .let#[j,hj]:=bq m
   erw[aH (og _ 3) (I.d j d _ hj (rat (av (aN hj) hle))).1]
  .have hr:=rat (aN hj)
   let#[h',e1,e2]:=inv j _ hr;rw[hj] at e1;cases e1;exact#[_,hr,e2]
  .have hj:=aa jl
   let#[i,r,c,z1,z2,z3,z4,z5,z6]:=hp j _ j0 hj;rw[z4] at hj z5;refine#[i,r,c,z1,z2,z3,hj,z5,?_,λi' c' k f1 f2 f3=>kU λf4=>?_]
   .rw[vY z2]
    unfold gz;rw[if_neg z5,<-(ae.mp hj).2,List.Nodup.idxOf_getElem I.nd]
   .let#[r',hr,e]:=au.mp f2
    unfold gz at e;split at e
    .cases e
    .rename_i z
     cases e;have:=bD ((z6 i' r' c' hr f1 f4).resolve_left z);have ep:=nU (b:=Ls.drop (j+1)) ((z6 i' r' c' hr f1 f4).resolve_left z);rw[pb] at ep;rw[dC] at this;omega
theorem Wt(Γ:bZ)(h1:Γ "Places.beyond"=JJ)(h2:Γ "Places.first_rule"=JK)(h3:Γ "Table.__init__"=NJ):Keeps Γ rD 7 Sk:=by
 rintro us S Q ⟨P,bh,en,tk,D,rfl,pa,C,D0,q⟩;unfold rD;room;refine#[by simp,?_];room;rw[show ∀env S' Q',WE Γ (.eI (.cons ↑1 .nil) (.cons ↑0 .nil)) env S' Q'=([U.int 1].length<=100/\nq (.int 1)=true/\∃v,[U.int 0]=[v]/\Q' (.loc S'.length) (S'++[.eI [(.int 1,v)]])) from λ_ _ _=>rfl]
 refine#[by simp,rfl,_,rfl,?_];room;refine#[by simp,?_];have ls0:(S++[SO.lst [U.int 1]]).length=S.length+1:=by simp
 have ls1:(S++[SO.lst [U.int 1]]++[SO.eI [(U.int 1,U.int 0)]]).length=S.length+2:=by simp
 have I0:Ws S (S++[SO.lst [U.int 1]]++[SO.eI [(U.int 1,U.int 0)]]++[SO.lst []]) tk bh D [1] [] []:=by
  refine#[#[((Ext.app _).trans (Ext.app _)).trans (Ext.app _),?_,?_,?_,by simp,by simp,by simp],rfl,by simp,rfl,λh m p hp=>?_,by simp,λj h j0 hj=>?_]
  .exact((Ext.app _).trans (Ext.app _)).get (show(S++[SO.lst [U.int 1]])[S.length]?=_ by simp)
  .exact(Ext.app _).get (show(S++[SO.lst [U.int 1]]++[SO.eI [(U.int 1,U.int 0)]])[S.length+1]?=_ by rw[<-ls0,aw (aq _),bR];rfl)
  .rw[<-ls1,aw (aq _),bR];rfl
  .have:h=1:=by simpa using m
   subst this;rw[gJ.mp hp]
   erw[D0]
  .have:=aN hj
   simp at this;omega
 rw[ls0,ls1]
 generalize S++[SO.lst [U.int 1]]++[SO.eI [(U.int 1,U.int 0)]]++[SO.lst []]=S0 at I0;rwa[Rest.go ?_];rw[Io,US]
 refine#[2050,nP (λN env S1=>∃(Ls rs ds:List Nat)(x4 x5 x6 x7:Option U),N=2048-ds.length/\env=[some (.loc P),some (.loc S.length),some (.loc (S.length+1)),some (.loc (S.length+2)),x4,x5,x6,x7]/\Ws S S1 tk bh D Ls rs ds) ?_ _ 2048 _ _ ⋯ #[[1],[],[],none,none,none,none,rfl,rfl,I0]];rintro N env S1 K ⟨Ls,rs,ds,x4,x5,x6,x7,rfl,rfl,J⟩ hK;have lb:=r8 C J.s.nd J.d;have dl:=J.le;room;rw[lL J.s.r,lL J.s.l]
 dsimp[bg,ak];refine#[∅,∅,?_];by_cases z:ds.length<Ls.length
 .have:((ds.length:Int)<(Ls.length:Int)):=t8.mpr z
  dsimp[this,decide_true,if_true];erw[Sl Γ h1 pa C J z λLs' rs' ds' S2 x4 x5 x6 x7 J2 e=>hK (2048-ds'.length) _ _ ∅ #[Ls',rs',ds',x4,x5,x6,x7,rfl,rfl,J2]]
 .have:¬((ds.length:Int)<(Ls.length:Int)):=λy=>z (t8.mp y)
  dsimp[this,decide_false,ag,if_false];erw[Sn Γ h2 h3 pa C J (fM z) q]
section
variable{S S1 S2:bJ}{X:List Nat}
def Kp(X:List Nat)(S S1:bJ):Prop:=S.length<=S1.length/\∀n,n<S.length->n∉X->S1[n]?=S[n]?
theorem Kp.refl:Kp X S S:=#[aq _,λ_ _ _=>rfl]
theorem Kp.trans(a:Kp X S S1)(b:Kp X S1 S2):Kp X S S2:=#[aH a.1 b.1,λn h ne=>(b.2 n (av h a.1) ne).trans (a.2 n h ne)]
theorem Ext.kp(a:Ext S S1):Kp X S S1:=#[a.1,λn h _=>a.2 n h]
theorem Kp.set(m:n∈X):Kp X S (S.set n o):=#[by rw[cu];erw[aq _],λk _ ne=>by rw[ao λ(z:n=k)=>ne (by rw[<-z];erw[m])]]
theorem Kp.get(a:Kp X S S1)(h:S[n]?=some o)(m:n∉X):S1[n]?=some o:=(a.2 n (aN h) m).trans h
end
theorem EK(f:Nat->Option Nat)(h:Nat->Nat):∀G:List Nat,∃ps:List (Nat×Nat),dI G f=ps.map (λp=>([p.1],aU p.2))/\dI G (λc=>(f c).map h)=ps.map (λp=>([p.1],aU (h p.2)))/\(∀p∈ps,p.1∈G/\f p.1=some p.2)/\(G.Nodup->(ps.map (·.1)).Nodup)/\ps.length<=G.length
 |[]=>#[[],rfl,rfl,by simp,by simp,by simp]
 |x::G=>by
  let#[ps,h1,h2,h3,h4,h5]:=EK f h G;unfold dI at h1 h2 ⊢;cases e:f x with
  |none=>exact#[ps,by simp[e,h1],by rw[cj];dsimp[e,um];erw[h2],λp m=>#[aA _ (h3 p m).1,(h3 p m).2],λnd=>h4 (eY.mp nd).2,by simp;omega]
  |some k=>
   refine#[(x,k)::ps,by simp[e,h1],by rw[cj];dsimp[e,kr,ay];rw[h2],λp m=>?_,λnd=>?_,by simp;omega]
   .rcases aR.mp m with rfl|m
    .exact#[aQ ..,e]
    .exact#[aA _ (h3 p m).1,(h3 p m).2]
   .let#[n1,n2]:=eY.mp nd
    rw[ay,eY]
    refine#[λz=>?_,h4 n2];let#[p,m,e']:=bG.mp z;have:=(h3 p m).1;rw[show p.1=x from e'] at this;erw[n1 this]
theorem So{Γ:bZ}{S:bJ}{T nb A R d:Nat}{b:List Nat}{f:Nat->Option Nat}{x4:U}{k:KU}(hb:S[nb]?=some (.lst (b.map aU)))(hd:S[d]?=some (.eI (sD (dI SG f)))\/S[d]?=some (.vf (sD (dI SG f))))(hf:∀c k,c∈SG->f c=some k->k<b.length)
  (q:∀m S',Ext (S.set d (.vf (sD (dI SG f)))) S'->S.length<=m->S'[m]?=some (.eI (sD (dI SG λc=>(f c).map λk=>b.getD k 0)))->k (.loc m) S'):WE Γ YX [some (.loc T),some (.loc nb),some (.loc A),some (.loc R),some x4,some (.loc d)] S k:=by
 unfold YX;have gl:SG.length=95:=rfl;have nd:=zC;let#[ps,e1,e2,e3,e4,e5]:=EK f (λk=>b.getD k 0) SG;have lk:∀p∈ps,vh (.str [p.1]) (sD (dI SG f))=some (aU p.2):=λp m=>by rw[EF,vW,if_pos (e3 p m).1,(e3 p m).2];rfl
 have kp:∀p∈ps,p.2<b.length:=λp m=>hf p.1 p.2 (e3 p m).1 (e3 p m).2
 rw[e2] at q;have ey:(sD (dI SG f)).map (·.1)=ps.map λp=>U.str [p.1]:=by rw[e1];unfold sD;simp[dk]
 have nd':=e4 nd;generalize dI SG f=rw0 at *;room;have e0:∀R,iV S[d]? R=R (sD rw0):=λR=>by rcases hd with h|h<;>rw[h]<;>rfl
 rw[e0,ey]
 have dl:d<S.length:=by rcases hd with h|h<;>exact aN h
 have nbd:nb≠d:=λz=>by rcases hd with h|h<;>rw[<-z,hb] at h<;>cases h
 have g1:(S.set d (.vf (sD rw0)))[d]?=some (.vf (sD rw0)):=bM dl;have b1:(S.set d (.vf (sD rw0)))[nb]?=some (.lst (b.map aU)):=by rw[ao (cR nbd)];erw[hb]
 have l1:(S.set d (.vf (sD rw0))).length=S.length:=cu;generalize S.set d (.vf (sD rw0))=S1 at g1 b1 q l1;rwa[gB (S:=S1) _ (ps.map λp=>.tup [.str [p.1],aU (b.getD p.2 0)]) (by simp) (by simp;omega) (λS' x=>x.get g1) (λu S' k h=>h) (λj u v hu hv S2 k x' hk=>?_) λS2 x'=>?_]
 .rw[aB] at hu hv
  let#[p,hp,rfl]:=ar.mp hu;rw[hp] at hv;have hv:U.tup [.str [p.1],aU (b.getD p.2 0)]=v:=by simpa using hv
  subst hv;have m:=af hp;rw[x'.get g1]
  refine#[rfl,?_];rw[lk p m]
  show getL S2[nb]? _
  rw[x'.get b1,aD]
  erw[zy (kp p m) #[by simp,hk S2 .refl]]
 .refine#[ps.map λp=>([p.1],aU (b.getD p.2 0)),by simp[dk],?_,?_]
  .have:=nd'
   rw[bz]
   show(ps.map λp=>[p.1]).Nodup
   have e:(ps.map λp=>[p.1])=(ps.map (·.1)).map λc=>[c]:=by rw[bz];rfl
   rw[e]
   erw[wW _ (λa b h z=>h (List.cons.inj z).1) nd']
  .erw[q _ _ (x'.trans ((Ext.app _).trans (Ext.app _))) (by have:=x'.1;rw[az];omega) (by rw[aw (aq _),bR];rfl)]
structure K0(told:List (Option Nat))(go:Nat->Nat->Option Nat)(told':List (Option Nat))(go':Nat->Nat->Option Nat)(b reps:List Nat):Prop where
 k:∃m,GQ (told++[none]) (gN told.length go) m b/\∀i j,i<(told++[none]).length->j<(told++[none]).length->Eqv (told++[none]) (gN told.length go) m i j->Eqv (told++[none]) (gN told.length go) (m+1) i j
 a:∀p,p<told.length->b.getD p 0<reps.length
 len:told'.length=reps.length
 r:∀(r p:Nat),reps[r]?=some p->p<told.length/\b.getD p 0=r/\∀p',p'<p->b.getD p' 0<r
 t:∀(r p:Nat),reps[r]?=some p->told'.getD r none=told.getD p none/\∀c,go' r c=(go p c).map λk=>b.getD k 0
noncomputable def Th(go:Nat->Nat->Option Nat)(b reps:List Nat)(r c:Nat):Option Nat:=(reps[r]?).bind λp=>(go p c).map λk=>b.getD k 0
theorem Kk(h:reps[r]?=some p):Th go b reps r=λc=>(go p c).map λk=>b.getD k 0:=by
 funext c;unfold Th;rw[h];rfl
noncomputable def Sq:Spec:=λus S Q=>∃T told ls go B,us=[.loc T]/\vX S T told ls go/\0<told.length/\(∀d∈ls,B<=d)/\B<=S.length/\∀T' told' ls' go' b reps S',vX S' T' told' ls' go'->(∀n,n<B->S'[n]?=S[n]?)->S.length<=S'.length/\(∀d∈ls',S.length<=d)->K0 told go told' go' b reps->Q (.loc T') S'
structure NN(S3 S4:bJ)(L:Nat)(told:List (Option Nat))(ls:List Nat)(go:Nat->Nat->Option Nat)(b reps ds:List Nat)(i:Nat):Prop where
 k:Kp (L::(L+1)::ls) S3 S4
 a:S4[L]?=some (.lst ((reps.map λp=>told.getD p none).map uN))
 r:S4[L+1]?=some (.lst (ds.map .loc))
 dl:ds.length=reps.length
 od:∀(j d:Nat),ls[j]?=some d->S4[d]?=some (.eI (sD (dI SG (go j))))\/S4[d]?=some (.vf (sD (dI SG (go j))))
 nw:∀(r d p:Nat),ds[r]?=some d->reps[r]?=some p->S3.length<=d/\S4[d]?=some (.eI (sD (dI SG λc=>(go p c).map λk=>b.getD k 0)))
 ib:∀p,p<i->b.getD p 0<reps.length
 ir:∀(r p:Nat),reps[r]?=some p->p<i/\b.getD p 0=r/\∀p',p'<p->b.getD p' 0<r
 rl:reps.length<=i
section
variable{S3 S4 S6:bJ}{L i d m:Nat}{told:List (Option Nat)}{ls b reps ds:List Nat}{go:Nat->Nat->Option Nat}
theorem NN.old(a:NN S3 S4 L told ls go b reps ds i)(h:b.getD i 0<reps.length):NN S3 S4 L told ls go b reps ds (i+1):=
 #[a.k,a.a,a.r,a.dl,a.od,a.nw,λp hp=>(fD.mp hp).elim (a.ib p) λe=>e▸h,λr p e=>#[bf (a.ir r p e).1,(a.ir r p e).2],mS a.rl]
theorem NN.push(a:NN S3 S4 L told ls go b reps ds i)(hz:b.getD i 0=reps.length)(hd:ls[i]?=some d)(lo:∀(j d:Nat),ls[j]?=some d->d<L/\S3[d]?=some (.eI (sD (dI SG (go j)))))(l3:S3.length=L+2)
  (x6:Ext ((S4.set L (.lst (((reps++[i]).map λp=>told.getD p none).map uN))).set d (.vf (sD (dI SG (go i))))) S6) (ml:S4.length<=m) (g6:S6[m]?=some (.eI (sD (dI SG λc=>(go i c).map λk=>b.getD k 0)))):
  NN S3 (S6.set (L+1) (.lst (ds.map .loc++[.loc m]))) L told ls go b (reps++[i]) (ds++[m]) (i+1):=by
 have dL:=(lo i d hd).1;have lr:=aN a.r;have lk:=a.k.1;have get:∀(n:Nat)(o:SO),n≠L->n≠L+1->n≠d->S4[n]?=some o->(S6.set (L+1) (.lst (ds.map .loc++[.loc m])))[n]?=some o:=λn o h1 h2 h3 e=>by
  rw[ao (cR h2)]
  erw[x6.get (by rw[ao (cR h3),ao (cR h1)];exact e)]
 have g1:S6[L+1]?=some (.lst (ds.map .loc)):=x6.get (by rw[ao (aY (bf dL)),ao (aY (dj L))];erw[a.r]);have mX:d∈L::(L+1)::ls:=by simp[af hd]
 refine#[(a.k.trans ((Kp.set (by simp)).trans (Kp.set mX))).trans ((Ext.kp x6).trans (Kp.set (by simp))),?_,by rw[gs g1];simp,by simp[a.dl],λj d' hj=>?_,λr d' p e1 e2=>?_,λp hp=>?_,λr p e=>?_,by rw[az];erw[oa a.rl]]
 .rw[ao (du (dj L))]
  erw[x6.get (by rw[ao (aY dL)];exact gs a.a)]
 .by_cases y:d'=d
  .subst y
   have e:sD (dI SG (go j))=sD (dI SG (go i)):=by
    have:=(lo j d' hj).2;rw[(lo i d' hd).2] at this;injection this with this;injection this with this
    erw[this.symm]
   rw[e,ao (du (bf dL))]
   erw[.inr (x6.get (bM (by rw[cu];exact jD dL (Nat.lt_of_succ_lt lr))))]
  .have dl:=(lo j d' hj).1
   have ne:=aY dl;exact(a.od j d' hj).imp (get _ _ ne (aY (bf dl)) y) (get _ _ ne (aY (bf dl)) y)
 .rcases r6 e1 with e1|⟨rfl,rfl⟩
  .have hr:=aN e1
   rw[ah (a.dl▸hr)] at e2;let#[z1,z2]:=a.nw r d' p e1 e2;rw[l3] at z1;exact#[l3▸z1,get _ _ (du (av (bf (dj L)) z1)) (du z1) (du (av (bf (bf dL)) z1)) z2]
  .have f2:i=p:=by rw[a.dl] at e2;simpa using e2
   subst f2;exact#[aH lk ml,by rw[ao (aY (av lr ml))];erw[g6]]
 .rw[az]
  rcases fD.mp hp with y|y
  .erw[bf (a.ib p y)]
  .rw[y,hz];erw[dj _]
 .rcases r6 e with e|⟨rfl,rfl⟩
  .let#[z1,z2]:=a.ir r p e
   exact#[bf z1,z2]
  .exact#[dj _,hz,a.ib]
end
theorem NO(Γ:bZ)(a:NN S3 S4 L told ls go b reps ds i)(gT:S4[T]?=some (Gh kk told R))(gm:S4[m]?=some (.lst (b.map aU)))(mL:m≠L)(hd:ls[i]?=some d)(lo:∀(j d:Nat),ls[j]?=some d->d<L/\S3[d]?=some (.eI (sD (dI SG (go j)))))(l3:S3.length=L+2)(hb:i<b.length)(le:b.getD i 0<=reps.length)(r4:i<=4000)(tl:told.length<=4000)(cl:∀c k,c∈SG->go i c=some k->k<b.length)(ht:told[i]?=some (told.getD i none))
  (q:∀reps ds S',NN S3 S' L told ls go b reps ds (i+1)->K [some (.loc T),some (.loc m),some (.loc L),some (.loc (L+1)),some (aU i),some (.loc d)] S'):
  Rest Γ YY #[K,Q] [some (.loc T),some (.loc m),some (.loc L),some (.loc (L+1)),some (aU i),some (.loc d)] S4:=by
 unfold YY;have rl:=a.rl;have dl:=a.dl;room;rw[gm,aD]
 rwa[zy hb ?_];rw[lL a.r]
 dsimp[bg,ak];refine#[∅,?_];try room
 by_cases z:b.getD i 0=reps.length
 .have z':(((b.getD i 0:Nat):Int)== (ds.length:Int))=true:=by rw[beq_iff_eq,z,dl]
  dsimp[z',if_true];room;rw[a.a,aD,NK gT]
  room;refine#[by rw[ak];omega,at_of ht #[by rw[ak,ak];omega,?_]];have dL:=lo i d hd;have eA:(reps.map λp=>told.getD p none).map uN++[uN (told.getD i none)]=((reps++[i]).map λp=>told.getD p none).map uN:=by rw[aK,aK];rfl
  rw[eA]
  have g1:(S4.set L (.lst (((reps++[i]).map λp=>told.getD p none).map uN)))[L+1]?=some (.lst (ds.map .loc)):=by rw[ao (aY (dj L))];erw[a.r]
  have g2:∀{n:Nat}{o:SO},n≠L->S4[n]?=some o->(S4.set L (.lst (((reps++[i]).map λp=>told.getD p none).map uN)))[n]?=some o:=λ{n o}h e=>by rw[ao (cR h)];erw[e]
  room;rw[g1,aD]
  refine#[trivial,So (g2 mL gm) ((a.od i d hd).imp (g2 (aY dL.1)) (g2 (aY dL.1))) cl λm6 S6 x6 m6l g6=>?_];rw[cu] at m6l;have g6':S6[L+1]?=some (.lst (ds.map .loc)):=x6.get (by rw[ao (aY (bf dL.1))];erw[g1]);rw[g6',aD]
  refine#[by rw[ak];omega,?_];try room
  erw[q _ _ _ (a.push z hd lo l3 x6 m6l g6)]
 .have z':(((b.getD i 0:Nat):Int)== (ds.length:Int))=false:=by rw[beq_eq_false_iff_ne];omega
  dsimp[z',ag,if_false];room;erw[q _ _ _ (a.old (Hi le z))]
theorem Wu(Γ:bZ)(h1:Γ "rounds"=Wk)(h2:Γ "with_nowhere"=Wg)(h3:Γ "Table.__init__"=NJ):Keeps Γ nH 5 Sq:=by
 rintro us S Q ⟨T,told,ls,go,B,rfl,h,h0,hB,hBl,q⟩;unfold nH;let#[kk,R,hT,hk,hR]:=h.o;have hl:=h.ll;have sz:=h.sz;room;rw[NK hT]
 room;refine#[by simp,by simp;omega,?_];rw[Sf hT]
 rwa[ca h2 #[R,ls,go,rfl,hR,∅,λnr S1 ms x1 ml Rw1=>?_]];have eN:(told++[none]).length=told.length+1:=by simp
 rwa[ca h1 #[nr,ms,gN ls.length go,told++[none],by rw[aK];rfl,Rw1,∅,∅,∅,λj c hj hc=>?_,λF fs S2 x2 gF Rs=>?_]]
 .unfold gN
  cases e:go j c with
  |none=>show ls.length<_;omega
  |some k=>have:=h.cl j c k hc e;show k<_;omega
 have x12:=x1.trans x2;obtain⟨fs0,m,rfl⟩:∃fs0 m,fs=fs0++[m]:=by
  rcases j9 fs with z|⟨a,b,z⟩
  .erw[absurd z Rs.ne]
  .exact#[a,b,by rw[z,kb]]
 let#[b,gm,rb]:=Rs.r fs0.length m (by simp);have st:=Rs.st;rw[hl,show(fs0++[m]).length=fs0.length+1 by simp] at st;rw[hl] at rb;room;rw[gF,aD,aK,show [m].map U.loc=[.loc m] from rfl,zz,bg]
 room;refine#[by simp,?_];room;refine#[by simp,?_];have bl:=rb.len;rw[eN] at bl;have nX:∀(n:Nat)(o:SO),S2[n]?=some o->(∀j,o≠.eI (sD (dI SG (go j))))->n∉S2.length::(S2.length+1)::ls:=λn o hn ho z=>by
  have:=aN hn;rcases aR.mp z with z|z
  .omega
  .rcases aR.mp z with z|z
   .omega
   .let#[j,hj]:=bq z
    have:=x12.get (hR.d j n hj);rw[hn] at this;erw[ho j (aF this)]
 have nT:=nX T _ (x12.get hT) (by intro j;unfold Gh;intro z;cases z);have nR:=nX R _ (x12.get hR.l) (by intro j z;cases z);have nm:=nX m _ gm (by intro j z;cases z);have ls0:(S2++[SO.lst []]).length=S2.length+1:=by simp
 have y3:Ext S2 (S2++[SO.lst []]++[SO.lst []]):=(Ext.app _).trans (Ext.app _);have gA:(S2++[SO.lst []]++[SO.lst []])[S2.length]?=some (.lst []):=(Ext.app _).get (by simp);have gR:(S2++[SO.lst []]++[SO.lst []])[S2.length+1]?=some (.lst []):=by rw[<-ls0,aw (aq _),bR];rfl
 rw[ls0]
 have l3:(S2++[SO.lst []]++[SO.lst []]).length=S2.length+2:=by simp
 generalize S2++[SO.lst []]++[SO.lst []]=S3 at y3 gA gR l3;have x3:=x12.trans y3;room;rw[Sf (x3.get hT)]
 room;rw[x3.get hR.l,aD]
 have fst':=zw b [];rw[rb.fx] at fst';have lo:∀(j d:Nat),ls[j]?=some d->d<S2.length/\S3[d]?=some (.eI (sD (dI SG (go j)))):=λj d e=>#[aN (x12.get (hR.d j d e)),x3.get (hR.d j d e)]
 rwa[cx (λi env S4=>∃(reps ds:List Nat)(x4 x5:Option U),env=[some (.loc T),some (.loc m),some (.loc S2.length),some (.loc (S2.length+1)),x4,x5]/\NN S3 S4 S2.length told ls go b reps ds i) (λi env S4 h9=>?_) _ ?_ ?_ #[[],[],none,none,rfl,.refl,gA,gR,rfl,λj d e=>.inl (lo j d e).2,by simp,λp hp=>absurd hp (cZ p),by simp,aq _]]
 .let#[_,_,_,_,_,a]:=h9
  erw[a.k.get (x3.get hR.l) nR]
 .rintro i u env S4 K hu ⟨reps,ds,x4,x5,rfl,a⟩ hK
  dsimp[fh,aB,o9] at hu;let#[d,hd,rfl]:=ar.mp hu;have hi:=aN hd;have ht:told[i]?=some (told.getD i none):=by rw[aE,aa (hl▸hi)];rfl
  dsimp[dk,Mb];rwa[NO Γ a (a.k.get (x3.get hT) nT) (a.k.get (y3.get gm) nm) (aY (aN gm)) hd lo l3 ∅ ?_ ∅ sz (λc k hc e=>jD (h.cl i c k hc e) ∅) ht λreps ds S' a'=>hK _ _ #[reps,ds,_,_,rfl,a']]
  have gi:=gd (b:=b) (i:=i) ∅;have ib:=a.ib
  clear a hK lo
  cases e:b.getD i 0 with
  |zero=>erw[b8 _]
  |succ v=>
   rw[e] at gi;rcases fst' i v gi with z|⟨p,hp,e'⟩
   .erw[absurd z (cZ v)]
   .have:=ib p hp
    rw[aE,e'] at this;erw[this]
 .rintro env S4 ⟨reps,ds,x4,x5,rfl,a⟩
  obtain⟨k4,gA4,gR4,dl,-,nw,ib,ir,rl⟩:=a;rw[lH,ak,hl] at ib ir rl;room;refine ca h3 #[S4.length,_,_,_,rfl,wo,(Ext.app _).get gA4,λk' S5 o5 gT gk=>#[rfl,?_]];have y5:Ext S4 S5:=EI o5;have t':∀(r p:Nat),reps[r]?=some p->(reps.map λp=>told.getD p none).getD r none=told.getD p none/\∀c,Th go b reps r c=(go p c).map λk=>b.getD k 0:=λr p e=>by
   refine#[by rw[aE,aB,e];rfl,λc=>by rw[Kk e]]
  rwa[q _ (reps.map λp=>told.getD p none) ds (Th go b reps) b reps S5 #[#[k',_,gT,gk,y5.get gR4,λj d hj=>?_,λj c hj=>?_],by rw[ak];erw[dl],by rw[ak];omega,λj c k hc e=>?_] (λn hn=>?_) #[aH x3.1 (aH k4.1 y5.1),λd m=>let ⟨j,hj⟩:=bq m;aH x3.1 (nw j d _ hj (aa (show j<reps.length from dl▸aN hj))).1] #[#[fs0.length,rb,st],ib,by simp,ir,t']]
  .have hr:=aa (show j<reps.length from dl▸aN hj)
   rw[Kk hr]
   erw[y5.get (nw j d _ hj hr).2]
  .unfold Th;rw[cV (dl▸hj)];rfl
  .unfold Th at e
   let#[p,hp,e]:=au.mp e;let#[v,hv,e]:=ar.mp e;subst e;rw[ak]
   erw[ib v (h.cl p c v hc hv)]
  .have nS:n<S.length:=av hn hBl
   have n2:=av nS x12.1;have n3:=av nS x3.1;rw[y5.2 n (av n3 k4.1),k4.2 n n3 (λz=>?_),x3.2 n nS]
   rcases aR.mp z with z|z
   .erw[aY n2 z]
   .rcases aR.mp z with z|z
    .erw[aY (bf n2) z]
    .erw[Nat.not_le_of_lt hn (hB n z)]
def GU(ts:List Tr)(w:List Nat):Option Nat->Prop
 |none=>∀(i:Nat)t,ts[i]?=some t->¬En t (hs t w)
 |some i=>(∃t,ts[i]?=some t/\En t (hs t w))/\∀(i':Nat)t,i'<i->ts[i']?=some t->¬En t (hs t w)
theorem NP(h:GU ts w o)(h':GU ts w o'):o=o':=by
 cases o with
 |none=>
  cases o' with
  |none=>rfl
  |some i=>let#[#[t,e,z],_]:=h';erw[absurd z (h i t e)]
 |some i=>
  let#[#[t,e,z],n]:=h;cases o' with
  |none=>erw[absurd z (h' i t e)]
  |some j=>
   let#[#[t',e',z'],n']:=h';rcases KA i j with y|y|y
   .erw[absurd z (n' i t y e)]
   .rw[y]
   .erw[absurd z' (n j t' y e')]
def tot(N:Nat)(go:Nat->Nat->Option Nat)(w:List Nat):Nat:=w.foldl (gN N go) 0
theorem Bs:tot N go (w++[c])=gN N go (tot N go w) c:=by unfold tot;rw[fj];rfl
theorem OJ:RJ bh 0 0:=λp=>by simp
section
variable{ts:List Tr}{sg:List (List Nat)}{bh en lots rs:List Nat}{u:Nat}{told:List (Option Nat)}
abbrev mV(sg:List (List Nat)):Nat->Nat:=λc=>kc (·.contains c) sg
def Lv(told:List (Option Nat))(go:Nat->Nat->Option Nat)(j:Nat):Prop:=∃w:List Nat,(∀c∈w,c∈SG)/\(told++[none]).getD (w.foldl (gN told.length go) j) none≠none
theorem NQ(A:zf ts sg bh en)(U:GO sg bh en u)(P:Sj (bh.map (·&&&u)) en (mV sg) lots rs told)(hS:∀t∈ts,∀l∈mU t,∀c∈l,c∈SG)(hp:u.testBit p=true)(m:t∈ts)(i:IN t p=true)(hj:lots[j]?=some h)(hh:h.testBit p=true):Lv told (wa (mV sg) lots rs) j:=by
 have sgs:∀{p:Nat}{t:Tr},t∈ts->IN t p=true->mi ze sg p=true->∃c∈SG,(mV sg c).testBit p=true:=λ{p t}m i e=>by
  let#[l,e1,e2]:=vP e;have e3:=A.sgn t m p i;rw[e1] at e3;cases e3;let#[n,_,pl]:=A.pos t m;have hl:=af (oU pl i);cases z:lQ.sgn t p with
  |nil=>rw[z] at e2;cases e2
  |cons c l=>
   refine#[c,hS t m _ hl c (by rw[z];simp),?_];rw[mK]
   unfold mi;rw[e1,z];simp
 refine((U.m (λp=>u.testBit p=true/\∀t∈ts,IN t p=true->(∃c∈SG,(mV sg c).testBit p=true)/\∀j h,lots[j]?=some h->h.testBit p=true->Lv told (wa (mV sg) lots rs) j) #[λZ p hZ hz e=>#[U.e Z p hZ hz e,λt m i=>#[sgs m i e,λj h hj hh=>?_]],λq B p e hB hb ih=>#[U.b q B p e hB hb ih.1,λt m i=>#[sgs m i e,λj h hj hh=>?_]]] p hp).2 t m i).2 j h hj hh
 .let#[o,e1,f]:=P.t j h hj
  refine#[[],λc m=>(cv m).elim,?_];show(told++[none]).getD j none≠none;rw[aE,ah (aN e1),e1]
  rintro rfl;let#[k,ek]:=bq hZ;erw[f k #[Z,ek,p,hh,hz]]
 .let#[B',e1,b1]:=A.b t m q i
  rw[hB] at e1;cases e1;have ip:=fB ((b1 p).symm.trans hb);let#[#[c,cm,tc],lv]:=ih.2 t m ip;let#[r,hr,Sr]:=P.b j h hj;have rp:r.testBit p=true:=(Sr p).mpr #[q,B&&&u,hh,by rw[aB,hB];rfl,by rw[bB,hb,ih.1];rfl];have hp':(r&&&mV sg c).testBit p=true:=by rw[bB,rp,tc];rfl
  have nz:r&&&mV sg c≠0:=λz=>by rw[z] at hp';simp at hp'
  have hm:=(P.m r (af hr) c cm).resolve_left nz;have hk:=bD hm;let#[w,hw,e]:=lv _ _ (show lots[lots.idxOf (r&&&mV sg c)]?=some (r&&&mV sg c) by rw[aa hk,eG hk]) hp';refine#[c::w,λx hx=>(aR.mp hx).elim (λz=>z▸cm) (hw x),?_];rw[gu]
  have:gN told.length (wa (mV sg) lots rs) j c=lots.idxOf (r&&&mV sg c):=by
   unfold gN;rw[vY hr]
   unfold gz;rw[if_neg nz];rfl
  rw[this];erw[e]
theorem Dp(A:zf ts sg bh en)(hq:q=0\/∃t∈ts,IN t q=true)(e:bh[q]?=some B)(hp:B.testBit p=true):∃t∈ts,IN t p=true:=by
 rcases hq with rfl|⟨t,m,i⟩
 .let#[B0,e0,f0]:=A.b0
  rw[e] at e0;cases e0;let#[t,m,f]:=(f0 p).mp hp;exact#[t,m,jh f]
 .let#[B0,e0,f0]:=A.b t m q i
  rw[e] at e0;cases e0;exact#[t,m,fB ((f0 p).symm.trans hp)]
theorem Bt(A:zf ts sg bh en)(U:GO sg bh en u)(P:Sj (bh.map (·&&&u)) en (mV sg) lots rs told)(R:Xz (mV sg) (λp=>p=0\/∃t∈ts,IN t p=true) lots rs)(hS:∀t∈ts,∀l∈mU t,∀c∈l,c∈SG)(j:Nat)(j0:0<j)(jl:j<told.length):Lv told (wa (mV sg) lots rs) j:=by
 let#[i,r,c,il,hr,cm,hj,nz,_]:=R.p j j0 (by rw[<-P.len];erw[jl]);let#[p,hp]:=v7 nz;have hp2:=hp;rw[bB,aj] at hp2;have li:i<lots.length:=by rw[<-P.len];omega
 have hi:=aa li;let#[r',e1,Sr]:=P.b i _ hi;rw[hr] at e1;cases e1;let#[q,B,hq,hB,hb]:=(Sr p).mp hp2.1;let#[B',eB,rfl]:=rX hB;rw[bB,aj] at hb;have⟨t,m,ip⟩:∃t∈ts,IN t p=true:=Dp A (R.d _ (af hi) q hq) eB hb.1;erw[NQ A U P hS hb.2 m ip hj hp]
theorem Bu(A:zf ts sg bh en)(U:GO sg bh en u)(P:Sj (bh.map (·&&&u)) en (mV sg) lots rs told)(gz0:∀j c,told.length<=j->wa (mV sg) lots rs j c=none):∀(n:Nat)(w:List Nat),w.length=n->(∀c∈w,c∈SG)->(∃r,rs[tot told.length (wa (mV sg) lots rs) w]?=some r/\OA ts u w r)\/(tot told.length (wa (mV sg) lots rs) w=told.length/\OA ts u w 0)
 |0,w,hn,_=>by
  rw[Ag.mp hn]
  let#[r,h1,h2]:=P.b 0 1 P.z;erw[.inl #[r,h1,Ge A h2]]
 |n+1,w,hn,hw=>by
  rcases j9 w with rfl|⟨w,c,rfl⟩
  .simp at hn
  rw[kb] at hn hw ⊢;have cm:c∈SG:=hw c (by simp);rw[Bs]
  rcases Bu A U P gz0 n w (by simpa using hn) (λc m=>hw c (by simp[m])) with⟨r,h1,h2⟩|⟨h1,h2⟩
  .unfold gN
   rw[vY h1]
   unfold gz;by_cases z:r&&&mV sg c=0
   .rw[if_pos z]
    erw[.inr #[rfl,vQ A U h2 (show RJ _ (r&&&mV sg c) 0 by rw[z];exact OJ)]]
   .rw[if_neg z]
    have hm:=(P.m r (af h1) c cm).resolve_left z;have hk:=bD hm;have e:lots[lots.idxOf (r&&&mV sg c)]?=some (r&&&mV sg c):=by rw[aa hk,eG hk]
    let#[r',e1,e2]:=P.b _ _ e;erw[.inl #[r',e1,vQ A U h2 e2]]
  .rwa[.inr #[?_,vQ A U h2 (by rw[Nat.zero_and];erw[OJ])]]
   unfold gN;rw[h1,gz0 _ c (aq _)];rfl
theorem Wv:¬Ov 0 en i:=λ⟨_,_,p,h,_⟩=>by simp at h
theorem Dq(A:zf ts sg bh en)(U:GO sg bh en u)(h:OA ts u w r)(f:Xv (r&&&mV sg c) en o):GU ts (w++[c]) o:=by
 have k:=JM (c:=c) A U h;cases o with
 |none=>erw[λi t e z=>f i ((k i).mpr #[t,e,z])]
 |some i=>exact#[(k i).mp f.1,λi' t hi e z=>f.2 i' hi ((k i').mpr #[t,e,z])]
theorem Gi(A:zf ts sg bh en)(U:GO sg bh en u)(P:Sj (bh.map (·&&&u)) en (mV sg) lots rs told)(gz0:∀j c,told.length<=j->wa (mV sg) lots rs j c=none)(w:List Nat)(hw:∀c∈w,c∈SG):GU ts w ((told++[none]).getD (tot told.length (wa (mV sg) lots rs) w) none):=by
 have nn:(told++[none]).getD told.length none=none:=by rw[aE];simp
 have tt:∀{k:Nat}{o:Option Nat},told[k]?=some o->(told++[none]).getD k none=o:=λ{k o}e=>by rw[aE,ah (aN e),e];rfl
 rcases j9 w with rfl|⟨w,c,rfl⟩
 .let#[o,e1,e2]:=P.t 0 1 P.z
  rw[show tot told.length (wa (mV sg) lots rs) []=0 from rfl,tt e1]
  cases o with
  |none=>
   rintro i t e ⟨p,hp,z⟩;have hp:p=0:=hp;subst hp;have:=A.nl t (af e);have z:dU [t]=true:=z;simp[dU,this] at z
  |some i=>
   let#[Z,f1,p,f2,f3]:=e2.1;have p0:=gJ.mp f2;subst p0;have il:i<ts.length:=by rw[<-A.Gd];erw[aN f1]
   let#[Z',g1,g2]:=A.e i _ (aa il);rw[f1] at g1;cases g1;rw[g2,aj] at f3;let#[n,n0,pl]:=A.pos _ (cC il);erw[absurd rfl (zb pl n0 f3.1)]
 .rw[kb] at hw ⊢
  have cm:c∈SG:=hw c (by simp);rw[Bs]
  rcases Bu A U P gz0 _ w rfl (λc m=>hw c (by simp[m])) with⟨r,h1,h2⟩|⟨h1,h2⟩
  .unfold gN
   rw[vY h1]
   unfold gz;by_cases z:r&&&mV sg c=0
   .rw[if_pos z]
    show GU ts _ ((told++[none]).getD told.length none)
    rw[nn]
    erw[Dq (r:=r) A U h2 (o:=none) (by rw[z];exact λi=>Wv)]
   .rw[if_neg z]
    have hm:=(P.m r (af h1) c cm).resolve_left z;have hk:=bD hm;have e:lots[lots.idxOf (r&&&mV sg c)]?=some (r&&&mV sg c):=by rw[aa hk,eG hk]
    let#[o,e1,e2]:=P.t _ _ e;show GU ts _ ((told++[none]).getD (lots.idxOf (r&&&mV sg c)) none);rw[tt e1]
    erw[Dq A U h2 e2]
  .unfold gN
   rw[h1,gz0 _ c (aq _)]
   show GU ts _ ((told++[none]).getD told.length none)
   rw[nn]
   erw[Dq (r:=0) A U h2 (o:=none) (by rw[Nat.zero_and];exact λi=>Wv)]
end
section
variable{told told':List (Option Nat)}{go go':Nat->Nat->Option Nat}{b reps:List Nat}
theorem OK:∀{m i j:Nat},Eqv told g m i j->told[i]?=told[j]?
 |0,_,_,h=>h
 |m+1,_,_,h=>OK h.1
theorem Bv(M:K0 told go told' go' b reps)(cl:∀j c k,c∈SG->go j c=some k->k<told.length)(hi:i<=told.length)(hj:j<=told.length)(e:b.getD i 0=b.getD j 0):(told++[none])[i]?=(told++[none])[j]?/\∀c∈SG,b.getD (gN told.length go i c) 0=b.getD (gN told.length go j c) 0:=by
 let#[m,R,st]:=M.k;have hN:(told++[none]).length=told.length+1:=by simp
 have hq:=(R.iff i j ∅ ∅).mp e;refine#[OK hq,λc hc=>?_];have le:∀i,gN told.length go i c<(told++[none]).length:=λi=>by
  unfold gN;cases z:go i c with
  |none=>show told.length<_;omega
  |some k=>have:=cl i c k hc z;show k<_;omega
 exact(R.iff _ _ (le i) (le j)).mpr ((st i j ∅ ∅ hq).2 c hc)
theorem zD(M:K0 told go told' go' b reps)(cl:∀j c k,c∈SG->go j c=some k->k<told.length)(z0:∀j c,told.length<=j->go j c=none):∀(w:List Nat)(i:Nat),(∀c∈w,c∈SG)->i<=told.length->b.getD i 0=b.getD told.length 0->(told++[none]).getD (w.foldl (gN told.length go) i) none=none
 |[],i,_,hi,e=>by
  have:=(Bv M cl hi (aq _) e).1;show(told++[none]).getD i none=none;rw[aE,this];simp
 |c::w,i,hw,hi,e=>by
  have cm:=hw c (by simp);have:=(Bv M cl hi (aq _) e).2 c cm;rw[show gN told.length go told.length c=told.length by unfold gN;rw[z0 _ c (aq _)];rfl] at this;rwa[zD M cl z0 w _ (λx hx=>hw x (aA _ hx)) ?_ this];unfold gN;cases z:go i c with
  |none=>erw[aq _]
  |some k=>erw[bA (cl i c k cm z)]
def Ss(n:Nat)(go:Nat->Nat->Option Nat):Prop:=∀j,0<j->j<n->∃i c,i<j/\c∈SG/\go i c=some j/\∀i' c' k,i'<n->c'∈SG->go i' c'=some k->j<k->Tf i c i' c'
theorem OL(M:K0 told go told' go' b reps)(h0:0<told.length):b.getD 0 0=0:=by
 have l0:0<reps.length:=gg (b8 _) (M.a 0 h0);have e0:=aa l0;let#[_,q2,q3]:=M.r 0 _ e0;generalize reps[0]=q at q2 q3;by_cases y:0<q
 .erw[absurd (q3 0 y) (cZ _)]
 .have:q=0:=∅
  subst this;erw[q2]
theorem EL(M:K0 told go told' go' b reps)(h0:0<told.length)(r0:0<r)(hp:reps[r]?=some p):0<p:=by
 rwa[Nat.pos_of_ne_zero λz=>?_]
 subst z;have:=(M.r r 0 hp).2.1;rw[OL M h0] at this;omega
theorem NR(M:K0 told go told' go' b reps)(cl:∀j c k,c∈SG->go j c=some k->k<told.length)(z0:∀j c,told.length<=j->go j c=none)(h0:0<told.length)(rc:Ss told.length go)(lv:∀j,0<j->j<told.length->Lv told go j):Ss told'.length go':=by
 intro r r0 rl;rw[M.len] at rl ⊢;have hp:=aa rl;let#[p1,p2,p3]:=M.r r _ hp;generalize reps[r]=p at hp p1 p2 p3;have p0:=EL M h0 r0 hp;let#[i,c,il,cm,e,er]:=rc p p0 p1;have bi:=p3 i il;have hi:=aa (jD bi rl);let#[q1,q2,_]:=M.r _ _ hi;have tg:=(M.t _ _ hi).2 c;generalize reps[b.getD i 0]=q at hi q1 q2 tg;have eb:=(Bv M cl (bA (jD il p1)) (bA q1) q2.symm).2 c cm;have ei:gN told.length go i c=p:=by unfold gN;rw[e];rfl
 rw[ei] at eb;refine#[b.getD i 0,c,bi,cm,?_,λi' c' k hi' cm' e' rk=>?_]
 .rw[tg]
  cases z:go q c with
  |none=>
   have en:gN told.length go q c=told.length:=by unfold gN;rw[z];rfl
   rw[en] at eb;let#[w,hw,ne]:=lv p p0 p1;erw[absurd (zD M cl z0 w p hw (bA p1) eb) ne]
  |some k=>
   have en:gN told.length go q c=k:=by unfold gN;rw[z];rfl
   rw[en] at eb;show some (b.getD k 0)=some r;rw[<-eb,p2]
 .have hq:=aa hi'
  let#[s1,s2,s3]:=M.r _ _ hq;rw[(M.t _ _ hq).2 c'] at e';generalize reps[i']=q' at s1 s2 s3 e';let#[k',f1,rfl]:=ar.mp e';have pk:p<k':=Lb λz=>by
   rcases Nat.lt_or_eq_of_le z with z|z
   .have:=p3 k' z;omega
   .rw[z] at rk;omega
  rcases er q' c' k' s1 cm' f1 pk with y|⟨y,y'⟩
  .erw[.inl (s3 i y)]
  .erw[.inr #[by rw[y];exact s2,y']]
def Tl(told:List (Option Nat))(go:Nat->Nat->Option Nat)(i:Nat)(w:List Nat):Option Nat:=(told++[none]).getD (w.foldl (gN told.length go) i) none
theorem Ds(h:i<l.length):(l++[none]).getD i none=l.getD i none:=by rw[aE,ah h,<-aE]
theorem zE(z0:∀j c,told.length<=j->go j c=none):∀w:List Nat,Tl told go told.length w=none
 |[]=>by unfold Tl;rw[fG,aE];simp
 |c::w=>by
  have e:gN told.length go told.length c=told.length:=by unfold gN;rw[z0 _ c (aq _)];rfl
  unfold Tl;rw[gu,e]
  erw[zE z0 w]
theorem mO(M:K0 told go told' go' b reps)(cl:∀j c k,c∈SG->go j c=some k->k<told.length)(z0:∀j c,told.length<=j->go j c=none)(z0':∀j c,told'.length<=j->go' j c=none):∀(w:List Nat)(i:Nat),(∀c∈w,c∈SG)->i<told.length->Tl told' go' (b.getD i 0) w=Tl told go i w
 |[],i,_,hi=>by
  have hp:=aa (M.a i hi);let#[p1,p2,_]:=M.r _ _ hp;have:=(Bv M cl (bA p1) (bA hi) p2).1;have tt:=(M.t _ _ hp).1;show(told'++[none]).getD (b.getD i 0) none=(told++[none]).getD i none;rw[Ds (by rw[M.len];erw[M.a i hi]),tt,<-Ds p1,aE,this,<-aE]
 |c::w,i,hw,hi=>by
  have cm:=hw c (aQ ..);have hw':∀x∈w,x∈SG:=λx hx=>hw x (aA _ hx)
  have ha:=M.a i hi;have hp:=aa ha;let#[p1,p2,_]:=M.r _ _ hp;have tg:=(M.t _ _ hp).2 c;generalize reps[b.getD i 0]=p at hp p1 p2 tg;have eb:=(Bv M cl (bA p1) (bA hi) p2).2 c cm;have far:∀{k:Nat},k<=told.length->b.getD k 0=b.getD told.length 0->Tl told go k w=none:=λh e=>zD M cl z0 w _ hw' h e
  have gl:gN told.length go i c<told.length\/gN told.length go i c=told.length:=by
   unfold gN;cases z:go i c with
   |none=>erw[.inr rfl]
   |some k=>erw[.inl (cl i c k cm z)]
  show Tl told' go' (gN told'.length go' (b.getD i 0) c) w=Tl told go (gN told.length go i c) w
  cases z:go p c with
  |none=>
   have e1:gN told'.length go' (b.getD i 0) c=told'.length:=by unfold gN;rw[tg,z];rfl
   have e2:gN told.length go p c=told.length:=by unfold gN;rw[z];rfl
   rw[e2] at eb;rw[e1,zE z0',far ∅ eb.symm]
  |some k=>
   have e1:gN told'.length go' (b.getD i 0) c=b.getD k 0:=by unfold gN;rw[tg,z];rfl
   have e2:gN told.length go p c=k:=by unfold gN;rw[z];rfl
   have kl:=cl p c k cm z;rw[e2] at eb;rw[e1]
   rcases gl with y|y
   .rw[eb];erw[mO M cl z0 z0' w _ hw' y]
   .rw[mO M cl z0 z0' w k hw' kl,y,zE z0,far (bA kl) (by rw[eb,y])]
theorem Su(z0:∀j c,told.length<=j->go j c=none)(w:List Nat):fst told go w=Tl told go 0 w:=by
 have h:∀(w:List Nat)(s:Option Nat),w.foldl (gN told.length go) (s.getD told.length)=(w.foldl (λs c=>s.bind λj=>go j c) s).getD told.length:=λw=>by
  induction w with
  |nil=>erw[λs=>rfl]
  |cons c w ih=>
   intro s;rw[gu,gu,<-ih]
   congr 1
   cases s with
   |none=>unfold gN;rw[show go (none.getD told.length) c=none from z0 _ c (aq _)];rfl
   |some j=>rfl
 have:=h w (some 0);unfold Tl fst An;rw[show w.foldl (gN told.length go) 0=_ from this]
 cases w.foldl (λs c=>s.bind λj=>go j c) (some 0) with
 |none=>rw[aE];simp
 |some j=>
  show told.getD j none=(told++[none]).getD j none
  rw[aE,aE]
  by_cases y:j<told.length
  .rw[ah y]
  .rw[aw ∅,cV ∅]
   cases j-told.length<;>rfl
theorem Gj(M:K0 told go told' go' b reps)(cl:∀j c k,c∈SG->go j c=some k->k<told.length)(z0:∀j c,told.length<=j->go j c=none)(z0':∀j c,told'.length<=j->go' j c=none)(h0:0<told.length)(w:List Nat)(hw:∀c∈w,c∈SG):fst told' go' w=(told++[none]).getD (tot told.length go w) none:=by
 rw[Su z0',<-OL M h0]
 erw[mO M cl z0 z0' w 0 hw h0]
def Mnl(told:List (Option Nat))(go:Nat->Nat->Option Nat):Prop:=∀i j,i<told.length->j<told.length->(∀w:List Nat,(∀c∈w,c∈SG)->Tl told go i w=Tl told go j w)->i=j
theorem Dt(cl:∀j c k,c∈SG->go j c=some k->k<told.length):∀(k i j:Nat),i<=told.length->j<=told.length->(∀w:List Nat,(∀c∈w,c∈SG)->Tl told go i w=Tl told go j w)->Eqv (told++[none]) (gN told.length go) k i j
 |0,i,j,hi,hj,h=>by
  have:=h [] (λc m=>nomatch m);unfold Tl at this;rw[fG,fG,aE,aE] at this;have hN:(told++[none]).length=told.length+1:=by simp
  show(told++[none])[i]?=(told++[none])[j]?
  rw[aa ∅,aa ∅] at this ⊢;erw[congrArg some this]
 |k+1,i,j,hi,hj,h=>by
  have le:∀{c i:Nat},c∈SG->gN told.length go i c<=told.length:=λ{c i}m=>by
   unfold gN;cases z:go i c with
   |none=>erw[aq _]
   |some k=>erw[bA (cl i c k m z)]
  exact#[Dt cl k i j hi hj h,λc m=>Dt cl k _ _ (le m) (le m) λw hw=>h (c::w) λx hx=>(aR.mp hx).elim (λz=>z▸m) (hw x)]
theorem NS(M:K0 told go told' go' b reps)(cl:∀j c k,c∈SG->go j c=some k->k<told.length)(z0:∀j c,told.length<=j->go j c=none)(z0':∀j c,told'.length<=j->go' j c=none):Mnl told' go':=by
 intro i j hi hj h;rw[M.len] at hi hj;let#[p1,p2,_]:=M.r _ _ (aa hi);let#[q1,q2,_]:=M.r _ _ (aa hj);generalize reps[i]=p at p1 p2;generalize reps[j]=q at q1 q2;let#[m,R,_]:=M.k;have hN:(told++[none]).length=told.length+1:=by simp
 rw[<-p2,<-q2]
 refine(R.iff p q ∅ ∅).mpr (Dt cl m p q (bA p1) (bA q1) λw hw=>?_);rw[<-mO M cl z0 z0' w p hw p1,<-mO M cl z0 z0' w q hw q1,p2,q2]
 erw[h w hw]
theorem Kl(M:K0 told go told' go' b reps)(cl:∀j c k,c∈SG->go j c=some k->k<told.length)(z0:∀j c,told.length<=j->go j c=none)(z0':∀j c,told'.length<=j->go' j c=none)(h0:0<told.length)(lv:∀j,0<j->j<told.length->Lv told go j)(r:Nat)(r0:0<r)(rl:r<told'.length):Lv told' go' r:=by
 rw[M.len] at rl;have hp:=aa rl;let#[p1,p2,_]:=M.r _ _ hp;let#[w,hw,e]:=lv _ (EL M h0 r0 hp) p1;have:=mO M cl z0 z0' w _ hw p1;rw[p2] at this;exact#[w,hw,λz=>e (this.symm.trans z)]
end
section
variable{ts:List Tr}{sg:List (List Nat)}{bh en lots rs:List Nat}{u:Nat}{told:List (Option Nat)}
theorem Km(A:zf ts sg bh en)(P:Sj (bh.map (·&&&u)) en (mV sg) lots rs told)(R:Xz (mV sg) (λp=>p=0\/∃t∈ts,IN t p=true) lots rs)(hrs:rs.length<=lots.length)(hL:∀t∈ts,∀l∈mU t,l.contains c=l.contains c')(j:Nat):wa (mV sg) lots rs j c=wa (mV sg) lots rs j c':=by
 unfold wa;cases hr:rs[j]? with
 |none=>rfl
 |some r=>
  show gz (mV sg) lots r c=gz (mV sg) lots r c'
  have hj:=aa (av (aN hr) hrs);let#[r',e1,Sr]:=P.b j _ hj;rw[hr] at e1;cases e1;have e:r&&&mV sg c=r&&&mV sg c':=by
   rwa[iw λp=>?_]
   rw[bB,bB]
   cases hb:r.testBit p with
   |false=>rfl
   |true=>
    let#[q,B,hq,hB,hp]:=(Sr p).mp hb;let#[B',eB,rfl]:=rX hB;rw[bB,aj] at hp;have⟨t,m,ip⟩:∃t∈ts,IN t p=true:=Dp A (R.d _ (af hj) q hq) eB hp.1;rw[mK,mK]
    unfold mi;rw[A.sgn t m p ip]
    let#[n,_,pl]:=A.pos t m;show(true&&(lQ.sgn t p).contains c)=(true&&(lQ.sgn t p).contains c');rw[hL t m _ (af (oU pl ip))]
  unfold gz;rw[e]
end
structure ZL(told:List (Option Nat))(go:Nat->Nat->Option Nat):Prop where
 r:Ss told.length go
 l:∀j,0<j->j<told.length->Lv told go j
 m:Mnl told go
def Ww:Spec:=λus S Q=>∃n xs ts,us=[.loc n]/\S[n]?=some (.lst (xs.map .str))/\Rls ts xs/\Bj ts/\gV ts<=10/\∀T told ls go S',vX S' T told ls go->0<told.length->(∀w,(∀c∈w,c∈SG)->GU ts w (fst told go w))->Ext S S'->(∀d∈ls,S.length<=d)->((∀t∈ts,∀l∈mU t,∀c∈l,c∈SG)->ZL told go)->(∀c c',(∀t∈ts,∀l∈mU t,l.contains c=l.contains c')->∀j,go j c=go j c')->Q (.loc T) S'
theorem Wx(Γ:bZ)(h1:Γ "places_of"=VP)(h2:Γ "spread"=Sk)(h3:Γ "smallest"=Sq):Keeps Γ nG 0 Ww:=by
 rintro us S Q ⟨n,xs,ts,rfl,gn,hR,hT,hs,q⟩;unfold nG;room;rwa[ca h1 #[n,xs,ts,10,rfl,gn,hR,hT,hs,λP u sg bh en S1 pp A U l x1=>?_]];have al:=A.len;have b0:0<bh.length:=∅
 rwa[ca h2 #[P,_,en,_,λp=>p=0\/∃t∈ts,IN t p=true,rfl,pp,#[by rw[ak];omega,λq B p hq hB hp=>.inr ?_,λp hp=>?_],.inl rfl,λT told ls lots rs S2 tb dl x2 sp rc=>?_]]
 .let#[B',e,rfl]:=rX hB
  rw[bB,aj] at hp;erw[Dp A hq e hp.1]
 .rw[ak]
  rcases hp with rfl|⟨t,m,i⟩
  .erw[b0]
  .rw[al];erw[aN (A.sgn t m p i)]
 have t0:0<told.length:=by rw[sp.len];erw[aN sp.z]
 let#[_,_,_,_,rp]:=tb.o;have ll:=tb.ll;rwa[ca h3 #[T,told,ls,_,S1.length,rfl,tb,t0,dl,x2.1,λT' told' ls' go' b reps S3 tb' k3 #[l3,l4] M=>?_]];have z0:∀j c,told.length<=j->wa (mV sg) lots rs j c=none:=λj c hj=>rp.z j c ∅
 have z0':∀j c,told'.length<=j->go' j c=none:=λj c hj=>by
  let#[_,_,_,_,rp']:=tb'.o;erw[rp'.z j c (by rw[tb'.ll];exact hj)]
 rwa[q T' told' ls' go' S3 tb' ?_ (λw hw=>?_) #[by have:=x1.1;have:=x2.1;omega,λn hn=>?_] (λd m=>aH (aH x1.1 x2.1) (l4 d m)) (λhS=>#[NR M tb.cl z0 t0 (λj j0 jl=>?_) (Bt A U sp rc hS),Kl M tb.cl z0 z0' t0 (Bt A U sp rc hS),NS M tb.cl z0 z0']) λc c' hL j=>?_]
 .rw[M.len]
  have:=M.a 0 t0;omega
 .rw[Gj M tb.cl z0 z0' t0 w hw]
  erw[Gi A U sp z0 w hw]
 .have:=x1.1
  rw[k3 n ∅,x2.2 n ∅,x1.2 n hn]
 .let#[i,_,c,e1,_,e2,_,_,e3,e4]:=rc.p j j0 (by rw[<-sp.len];erw[jl])
  exact#[i,c,e1,e2,e3,λi' c' k _=>e4 i' c' k]
 .by_cases y:j<told'.length
  .have hp:=aa (show j<reps.length from M.len▸y)
   rw[(M.t _ _ hp).2,(M.t _ _ hp).2,Km A sp rc sp.rl hL]
  .rw[z0' j c ∅,z0' j c' ∅]
def Kn:Spec:=λus S Q=>∃n x ts,us=[.loc n,.str x]/\S[n]?=some (.lst (ts.map enc))/\Bj ts/\x.length<=1000/\∀o S',GU ts x o->Ext S S'->Q (uN o) S'
theorem Wy(Γ:bZ)(h1:Γ "_law_rests"=VU)(h2:Γ "_law_ends"=VY):Keeps Γ kN 3 Kn:=by
 rintro us S Q ⟨n,x,ts,rfl,gn,hT,hx,q⟩;unfold kN;have tl:=hT.len;room;rw[lL gn]
 dsimp[bg,ak,Ma,jE];refine#[∅,∅,∅,?_];rwa[cx (λi env S1=>∃(x2 x3 x4:Option U),env=[some (.loc n),some (.str x),x2,x3,x4]/\Ext S S1/\∀(j:Nat)t,j<i->ts[j]?=some t->¬En t (hs t x)) (λ_ _ _ _=>trivial) _ ?_ ?_ #[none,none,none,rfl,.refl,∅]]
 .rintro i u env S1 K hu ⟨x2,x3,x4,rfl,x1,inv⟩ hK
  let#[rfl,hi]:=jf hu;have et:=aa hi;have hm:=cC hi;generalize ts[i]=t at et hm;let#[n0,pl,n1,sz,dt]:=RL hT hm;room;rw[x1.get gn,aD]
  rwa[at_of et #[by simp,by simp,?_]];have xa:Ext S (S1++[SO.lst [U.tup [enc t]]]):=x1.trans (Ext.app _);have ga:(S1++[SO.lst [U.tup [enc t]]])[S1.length]?=some (.lst [cQ [t]]):=by simp;rfl
  generalize S1.length=m0 at ga;generalize S1++[SO.lst [U.tup [enc t]]]=S2 at xa ga;room;rwa[cx (λk env S3=>∃(m:Nat)(X:List U)(x4:Option U),env=[some (.loc n),some (.str x),some (aU i),some (.loc m),x4]/\Ext S S3/\S3[m]?=some (.lst X)/\Ru t (hs t (x.take k)) X) (λ_ _ _ _=>trivial) _ ?_ ?_ #[m0,_,x4,rfl,xa,ga,F7 t]]
  .rintro k u env S3 K' hu ⟨m,X,x4,rfl,x3,g3,r3⟩ hK'
   let#[c,hc,rfl]:=d6 hu;have Xl:=Ey pl r3;room;rwa[ca h1 #[m,c,X,t,_,n0,rfl,g3,r3,pl,n1,dt,sz,∅,λm' Y S4 x4 g4 r4=>?_]];room;erw[hK' _ _ #[m',Y,_,rfl,x3.trans x4,g4,by rw[take_snoc hc,rS];exact r4]]
  .rintro env S3 ⟨m,X,x4,rfl,x3,g3,r3⟩
   rw[ak,bY] at r3;have Xl:=Ey pl r3;room;rwa[ca h2 #[m,X,t,_,rfl,g3,r3,dt,sz,∅,λb S4 hb x4=>?_]];room;cases b with
   |true=>
    rw[if_pos rfl]
    room;erw[q (some i) S4 #[#[t,et,hb.mp rfl],inv] (x3.trans x4)]
   |false=>
    rw[if_neg (by simp)]
    room;rwa[hK _ _ #[_,_,_,rfl,x3.trans x4,λj t' hj e z=>?_]];by_cases y:j=i
    .subst y
     rw[et] at e;cases e;have:=hb.mpr z;simp at this
    .erw[inv j t' ∅ e z]
 .rintro env S1 ⟨x2,x3,x4,rfl,x1,inv⟩
  room;exact q none S1 (λi t e=>inv i t (by have:=aN e;simpa using this) e) x1
theorem Wz:gO .ne (uN o) (uN o) S q=q false:=by
 cases o with
 |none=>unfold uN;dsimp[Of,UH,UK,true_and];rfl
 |some i=>unfold uN;dsimp[Oe,UG,UI,true_and,beq_self_eq_true,a9]
open PL.D1
noncomputable def Gk:Spec:=λus S Q=>∃n:Int,us=[.int n]/\Q (.bl true) S
theorem WA(Γ:bZ):Keeps Γ kP 0 Gk:=by
 rintro us S Q ⟨n,rfl,q⟩;unfold kP;room;erw[q]
def NT:Spec:=λus S Q=>∃(T k R:Nat)(told:List (Option Nat)),us=[.loc T]/\S[T]?=some (Gh k told R)/\told.length<=4000/\Q (aU told.length) S
theorem WB(Γ:bZ):Keeps Γ kO 0 NT:=by
 rintro us S Q ⟨T,k,R,told,rfl,h,hl,q⟩;unfold kO;room;rw[NK h]
 room;rw[ak]
 exact#[∅,q]
structure Du(go:Nat->Nat->Option Nat)(n i m f:Nat):Prop where
 p:0<f
 l:f<=n
 s:∀i' c' k,i'<n->c'∈SG->(i'<i\/(i'=i/\SG.idxOf c'<m))->go i' c'=some k->k<f
section
variable{go:Nat->Nat->Option Nat}{n i m f c k:Nat}
theorem Ko(hc:SG[m]?=some c):SG.idxOf c=m:=by
 rw[<-(ae.mp hc).2];erw[zC.idxOf_getElem _ (aN hc)]
theorem Du.le(I:Du go n i m f)(rc:Ss n go)(hi:i<n)(hc:SG[m]?=some c)(e:go i c=some k)(kn:k<n):k<=f:=by
 rwa[fM λz=>?_]
 let#[i',c',h1,h2,h3,h4]:=rc f I.p (jD z kn);have:=h4 i c k hi (af hc) e z;unfold Tf at this;rw[Ko hc] at this;erw[cD _ (I.s i' c' f ∅ h2 this h3)]
theorem Du.next(I:Du go n i m f)(hc:SG[m]?=some c)(h1:f<=f')(h2:f'<=n)(h:∀k,go i c=some k->k<f'):Du go n i (m+1) f':=by
 refine#[av I.p h1,h2,λi' c' k hn hm h3 e=>?_];rcases h3 with h3|⟨rfl,h3⟩
 .erw[av (I.s i' c' k hn hm (.inl h3) e) h1]
 .rcases fD.mp h3 with y|y
  .erw[av (I.s i' c' k hn hm (.inr #[rfl,y]) e) h1]
  .have:c'=c:=EC hm (by rw[y,Ko hc])
   subst this;erw[h k e]
theorem Du.row(I:Du go n i 95 f):Du go n (i+1) 0 f:=
 #[I.p,I.l,λi' c' k hn hm h3 e=>I.s i' c' k hn hm (by have:=bD hm;have:SG.length=95:=rfl;omega) e]
theorem Du.fin(I:Du go n n 0 f)(rc:Ss n go):f=n:=by
 rwa[wm I.l (fM λz=>?_)];let#[i',c',h1,h2,h3,_]:=rc f I.p z;erw[cD _ (I.s i' c' f ∅ h2 (.inl ∅) h3)]
end
theorem WC(Γ:bZ)(h1:Γ "_law_whole"=Gk)(h2:Γ "Table.goes"=zA)(tb:vX S T told ls go)(rc:Ss told.length go)(hi:i<told.length)(hc:SG[m]?=some c)(I:Du go told.length i m f)
  (q:∀f' x5,Du go told.length i (m+1) f'->K [some (.loc T),some (aU told.length),some (aU f'),some (aU i),some (.str [c]),x5] S):
  Rest Γ Y1 #[K,Q] [some (.loc T),some (aU told.length),some (aU f),some (aU i),some (.str [c]),x5] S:=by
 let#[k,R,oT,gk,rp]:=tb.o;unfold Gh at oT;have cm:=af hc;unfold Y1;room;rw[oT,bN]
 refine#[#[rfl,rfl],ca h2 #[T,told,ls,go,i,c,rfl,tb,hi,cm,?_]];unfold pNj;room;cases e:go i c with
 |none=>
  dsimp[uN,kz,a9,ag,if_false];room;exact q f _ (I.next hc (aq _) I.l λk e'=>by rw[e] at e';cases e')
 |some k=>
  have kn:=tb.cl i c k cm e;have kf:=I.le rc hi hc e kn;have fl:=I.l;dsimp[uN,kz,bK,if_true];room;rwa[ca h1 #[_,rfl,?_]];have e1:((0:Int)<=(k:Int)):=∅
  have e2:((k:Int)<=(f:Int)):=∅
  have e3:¬((told.length:Int)<(f:Int)):=∅
  dsimp[e1,e2,e3,decide_true,decide_false,a9,ag,if_true,if_false];room;by_cases z:k=f
  .have z':((k:Int)== (f:Int))=true:=by rw[beq_iff_eq,z]
   dsimp[z',if_true];exact q (f+1) _ (I.next hc (jk _) ∅ λk' e'=>by rw[e] at e';cases e';omega)
  .have z':((k:Int)== (f:Int))=false:=by rw[beq_eq_false_iff_ne];omega
   dsimp[z',ag,if_false,Int.add_zero];exact q f _ (I.next hc (aq _) I.l λk' e'=>by rw[e] at e';cases e';omega)
def Sv:Spec:=λus S Q=>∃T told ls go,us=[.loc T,aU told.length]/\vX S T told ls go/\0<told.length/\Ss told.length go/\Q (.bl true) S
theorem WD(Γ:bZ)(h1:Γ "_law_whole"=Gk)(h2:Γ "Table.goes"=zA)(h3:Γ "_law_all"=so.Bb):Keeps Γ iN 4 Sv:=by
 rintro us S Q ⟨T,told,ls,go,rfl,tb,t0,rc,q⟩;unfold iN;have sz:=tb.sz;room;refine#[∅,∅,?_];rwa[cx (λi env S1=>S1=S/\∃(f:Nat)(x3 x4 x5:Option U),env=[some (.loc T),some (aU told.length),some (aU f),x3,x4,x5]/\Du go told.length i 0 f) (λ_ _ _ _=>trivial) _ ?_ ?_ #[rfl,1,none,none,none,rfl,⋯,t0,λi' c' k _ _ h=>∅]]
 .rintro i u env S1 K hu ⟨rfl,f,x3,x4,x5,rfl,I⟩ hK
  let#[rfl,hi]:=jf hu;unfold pNo;room;rwa[ca h3 #[rfl,λG hG=>?_]];room;rwa[cx (λm env S2=>S2=S1/\∃(f:Nat)(x4 x5:Option U),env=[some (.loc T),some (aU told.length),some (aU f),some (aU i),x4,x5]/\Du go told.length i m f) (λ_ _ _ _=>trivial) _ ?_ ?_ #[rfl,f,x4,x5,rfl,I]]
  .rintro m u env S2 K' hu ⟨rfl,f,x4,x5,rfl,I⟩ hK'
   let#[c,hc,rfl]:=d6 hu;rw[hG] at hc;erw[WC Γ h1 h2 tb rc hi hc I λf' x5 I'=>hK' _ _ #[rfl,f',_,_,rfl,I']]
  .rintro env S2 ⟨rfl,f,x4,x5,rfl,I⟩
   rw[ak,hG] at I;room;erw[hK _ _ #[rfl,f,_,_,_,rfl,Du.row I]]
 .rintro env S1 ⟨rfl,f,x3,x4,x5,rfl,I⟩
  rw[ak,jx] at I;have:=I.fin rc;subst this;room;dsimp[beq_self_eq_true];erw[q]
noncomputable abbrev AB:List Nat:=[97,98,99,48,100]
def tu(told:List (Option Nat))(x:Nat):U:=uN (if x<told.length then some x else none)
def ow(told:List (Option Nat))(p:Nat×Nat):U:=.tup [tu told p.1,tu told p.2]
theorem OM(a b:Option Nat):nv (uN a) (uN b)=decide (a=b):=by
 cases a<;>cases b<;>first|rfl|skip
 rename_i x y;show((x:Int)== (y:Int))=decide (some x=some y);by_cases h:x=y
 .subst h;simp
 .rw[show((x:Int)== (y:Int))=false from beq_eq_false_iff_ne.mpr λe=>h (lA e)]
  simp[h]
theorem ON(a:Option Nat):vi (uN a)=true/\dep (uN a)=0:=by cases a<;>exact#[rfl,rfl]
section
variable{told:List (Option Nat)}{go:Nat->Nat->Option Nat}
theorem OO(hx:x<=told.length)(hy:y<=told.length):nv (tu told x) (tu told y)=decide (x=y):=by
 unfold tu;rw[OM]
 refine decide_eq_decide.mpr #[λh=>?_,λh=>by rw[h]];split at h<;>split at h<;>first|omega|exact aF h|exact nomatch h
theorem uG:∀K:List (Nat×Nat),kE (K.map (ow told))=true/\oj (K.map (ow told))<=1
 |[]=>#[rfl,b8 _]
 |p::K=>by
  let#[h1,h2]:=uG K;let#[a1,a2]:=ON (if p.1<told.length then some p.1 else none);let#[b1,b2]:=ON (if p.2<told.length then some p.2 else none);constructor
  .show((vi (tu told p.1)&&(vi (tu told p.2)&&true))&&kE (K.map (ow told)))=true
   unfold tu;rw[a1,b1,h1];rfl
  .show max (max (dep (tu told p.1)) (max (dep (tu told p.2)) 0)+1) (oj (K.map (ow told)))<=1
   unfold tu;rw[a2,b2];erw[Nat.max_le.mpr #[aq _,h2]]
theorem EM(h1:p.1<=told.length)(h2:p.2<=told.length):∀K:List (Nat×Nat),(∀p∈K,p.1<=told.length/\p.2<=told.length)->(K.map (ow told)).any (λy=>nv y (ow told p))=decide (p∈K)
 |[],_=>rfl
 |x::K,h=>by
  let#[x1,x2]:=h x (aQ ..);rw[ay,cJ,EM h1 h2 K λp m=>h p (aA _ m)]
  have:nv (ow told x) (ow told p)=decide (p=x):=by
   show(nv (tu told x.1) (tu told p.1)&&(nv (tu told x.2) (tu told p.2)&&true))=_
   rw[OO x1 h1,OO x2 h2,qR,<-Bool.decide_and]
   erw[decide_eq_decide.mpr #[λh=>(wJ h.1 h.2).symm,λh=>h▸#[rfl,rfl]]]
  rw[this,<-Bool.decide_or]
  erw[decide_eq_decide.mpr aR.symm]
def XA(go:Nat->Nat->Option Nat):Prop:=∀c∈SG,∃c'∈AB,∀j,go j c=go j c'
abbrev Bd(told:List (Option Nat))(go:Nat->Nat->Option Nat)(p:Nat×Nat)(c:Nat):Nat×Nat:=(gN told.length go p.1 c,gN told.length go p.2 c)
def WG(told:List (Option Nat))(go:Nat->Nat->Option Nat)(K:List (Nat×Nat))(p:Nat×Nat):Prop:=Tl told go p.1 []=Tl told go p.2 []/\∀c∈AB,Bd told go p c∈K\/gN told.length go p.1 c=gN told.length go p.2 c
theorem bis(lk:XA go)(h:∀p∈K,WG told go K p):∀(w:List Nat)(p:Nat×Nat),(∀c∈w,c∈SG)->p∈K->Tl told go p.1 w=Tl told go p.2 w
 |[],p,_,m=>(h p m).1
 |c::w,p,hw,m=>by
  let#[c',m',e]:=lk c (hw c (aQ ..));have eg:∀j,gN told.length go j c=gN told.length go j c':=λj=>by unfold gN;rw[e]
  show Tl told go (gN told.length go p.1 c) w=Tl told go (gN told.length go p.2 c) w
  rw[eg,eg]
  rcases(h p m).2 c' m' with y|y
  .erw[bis lk h w _ (λx hx=>hw x (aA _ hx)) y]
  .rw[y]
structure Ti(told:List (Option Nat))(go:Nat->Nat->Option Nat)(p0:Nat×Nat)(K:List (Nat×Nat))(a:Nat):Prop where
 z:p0∈K
 nd:K.Nodup
 ok:∀p∈K,p.1<=told.length/\p.2<=told.length
 d:∀(k:Nat)p,k<a->K[k]?=some p->WG told go K p
 le:a<=K.length
theorem Ti.len(I:Ti told go p0 K a):K.length<=(told.length+1)*(told.length+1):=by
 have:=vS (l':=(bX ((told.length+1)*(told.length+1))).map λx=>(x/(told.length+1),x%(told.length+1))) I.nd λp m=>?_
 .simpa using this
 .let#[h1,h2]:=I.ok p m
  have h3:(told.length+1)*p.1<=(told.length+1)*told.length:=qS _ h1;rwa[bG.mpr #[(told.length+1)*p.1+p.2,lE.mpr (by rw[Nat.mul_succ];omega),wJ ?_ ?_]]
  .show((told.length+1)*p.1+p.2)/(told.length+1)=p.1
   rw[Nat.mul_add_div (Nat.succ_pos _),Nat.div_eq_of_lt (t6 h2),B1]
  .show((told.length+1)*p.1+p.2)%(told.length+1)=p.2
   rw[Nat.mul_add_mod,Nat.mod_eq_of_lt (t6 h2)]
theorem WG.more(h:WG told go K p):WG told go (K++s) p:=#[h.1,λc m=>(h.2 c m).imp (bp _) id]
end
section
variable{told:List (Option Nat)}{go:Nat->Nat->Option Nat}{ls:List Nat}{S:bJ}{T:Nat}
theorem WH(h1:a=b->q false)(h2:a≠b->q true):gO .ne (uN a) (uN b) S q:=by
 have e:∀a b:Option Nat,gO .ne (uN a) (uN b) S q=q !(decide (a=b)):=λa b=>by
  cases a<;>cases b<;>unfold uN<;>dsimp[Of,Oe,UH,UG,UK,Yu,Yt,UI,true_and]<;>first|rfl|skip
  rename_i x y;have:=OM (some x) (some y);rw[show((x:Int)== (y:Int))=decide (some x=some y) from this]
 rw[e]
 by_cases z:a=b
 .rw[decide_eq_true z];erw[h1 z]
 .rw[decide_eq_false z];erw[h2 z]
theorem OP(tb:vX S T told ls go)(cm:c∈SG):gN told.length go x c<=told.length:=by
 unfold gN;cases z:go x c with
 |none=>erw[aq _]
 |some k=>erw[bA (tb.cl x c k cm z)]
theorem WJ(tb:vX S T told ls go)(j c:Nat)(h:told.length<=j):go j c=none:=by
 let#[_,_,_,_,rp]:=tb.o;erw[rp.z j c (by rw[tb.ll];exact h)]
theorem Kq(h:S[T]?=some (Gh k told R)):om (.loc T) "takes" S r=r (.loc k):=by rw[iC,h];rfl
theorem two_at{a b:Nat}{f:Nat->U}{j:Nat}{u v:U}(h1:[tu told a,tu told b][j]?=some u)(h2:[f a,f b][j]?=some v):∃x,(x=a\/x=b)/\u=tu told x/\v=f x:=by
 rcases j with _|_|j
 .cases h1;cases h2;exact#[a,.inl rfl,rfl,rfl]
 .cases h1;cases h2;exact#[b,.inr rfl,rfl,rfl]
 .cases h1
theorem WK{Γ:bZ}{p:Nat×Nat}{y1 y2 y3 y4 y6 y7 y8:Option U}{q:KU}(tb:vX S T told ls go)(h1:p.1<=told.length)(h2:p.2<=told.length)
  (k:∀n S',Ext S S'->S'[n]?=some (.lst [uN (Tl told go p.1 []),uN (Tl told go p.2 [])])->q (.loc n) S'):WE Γ Y2 [some (.loc T),y1,y2,y3,y4,some (ow told p),y6,y7,y8] S q:=by
 unfold Y2;let#[kk,R,oT,gk,rp]:=tb.o;have en:Tl told go told.length []=none:=by unfold Tl;rw[fG,aE];simp
 room;unfold ow;rw[YD]
 refine#[by simp,gB (S:=S) _ [uN (Tl told go p.1 []),uN (Tl told go p.2 [])] rfl (by simp) (λ_ _=>trivial) (λu S' k h=>h) (λj u v hu hv S2 k2 x2 hk=>?_) λS2 x2=>k _ _ (x2.trans (Ext.app _)) (by simp)];let#[x,hx,rfl,rfl]:=two_at (f:=λx=>uN (Tl told go x [])) hu hv;have xl:x<=told.length:=by rcases hx with rfl|rfl<;>assumption
 unfold tu;by_cases z:x<told.length
 .rw[if_pos z]
  dsimp[uN,kz,ag,if_false];rw[Kq (x2.get oT),UN,x2.get gk,aD]
  refine at_of (aa z) ?_;have:Tl told go x []=told[x]:=by
   unfold Tl;rw[fG,Ds z,aE,aa z];rfl
  rw[<-this]
  erw[hk S2 .refl]
 .have:x=told.length:=∅
  subst this;rw[if_neg z]
  dsimp[uN,kz,if_true];rw[en] at hk;erw[hk S2 .refl]
theorem WL{Γ:bZ}(h3:Γ "Table.goes"=zA){p:Nat×Nat}{c:Nat}{y1 y2 y3 y4 y6 y8:Option U}{q:KU}(tb:vX S T told ls go)(h1:p.1<=told.length)(h2:p.2<=told.length)(cm:c∈SG)
  (k:∀n S',Ext S S'->S'[n]?=some (.lst [tu told (gN told.length go p.1 c),tu told (gN told.length go p.2 c)])->q (.loc n) S'):WE Γ Y3 [some (.loc T),y1,y2,y3,y4,some (ow told p),y6,some (.str [c]),y8] S q:=by
 unfold Y3;let#[kk,R,oT,gk,rp]:=tb.o;unfold Gh at oT;room;unfold ow;rw[YD]
 refine#[by simp,gB (S:=S) _ [tu told (gN told.length go p.1 c),tu told (gN told.length go p.2 c)] rfl (by simp) (λ_ _=>trivial) (λu S' k h=>h) (λj u v hu hv S2 k2 x2 hk=>?_) λS2 x2=>k _ _ (x2.trans (Ext.app _)) (by simp)];let#[x,hx,rfl,rfl]:=two_at (f:=λx=>tu told (gN told.length go x c)) hu hv;have xl:x<=told.length:=by rcases hx with rfl|rfl<;>assumption
 by_cases z:x<told.length
 .have e:tu told (gN told.length go x c)=uN (go x c):=by
   unfold tu gN;cases e:go x c with
   |none=>rw[if_neg (show ¬(none:Option Nat).getD told.length<told.length from cD _)]
   |some k=>rw[if_pos (show(some k).getD told.length<told.length from tb.cl x c k cm e)];rfl
  rw[e] at hk;unfold tu;rw[if_pos z]
  dsimp[uN,kz,ag,if_false];rw[x2.get oT,bN]
  exact#[#[rfl,rfl],ca h3 #[T,told,ls,go,x,c,rfl,tb.ext x2,z,cm,hk S2 .refl]]
 .have:x=told.length:=∅
  subst this;have e:gN told.length go told.length c=told.length:=by unfold gN;rw[WJ tb _ c (aq _)];rfl
  rw[e] at hk;unfold tu at hk ⊢;rw[if_neg z] at hk ⊢;dsimp[uN,kz,if_true] at hk ⊢;erw[hk S2 .refl]
end
theorem ZM:∀c∈AB,c∈SG:=⋯
structure NU(told:List (Option Nat))(go:Nat->Nat->Option Nat)(S S1:bJ)(p0:Nat×Nat)(K:List (Nat×Nat))(a:Nat):Prop where
 x:Ext S S1
 g:S1[S.length]?=some (.lst (K.map (ow told)))
 i:Ti told go p0 K a
section
variable{told:List (Option Nat)}{go:Nat->Nat->Option Nat}{ls:List Nat}{S S1:bJ}{T:Nat}{p0 p:Nat×Nat}{K:List (Nat×Nat)}{a m c:Nat}
theorem Ti.add(I:Ti told go p0 K a)(hn:p'∉K)(h1:p'.1<=told.length)(h2:p'.2<=told.length):Ti told go p0 (K++[p']) a:=by
 refine#[bp _ I.z,?_,λp m=>?_,λk p hk e=>?_,aH I.le (by simp)]
 .rw[dq]
  exact#[I.nd,by simp,λx hx y hy=>by rw[bC.mp hy];erw[λz=>hn (z▸hx)]]
 .rcases aL.mp m with m|m
  .erw[I.ok p m]
  .rw[bC.mp m];exact#[h1,h2]
 .rw[ah (av hk I.le)] at e
  exact(I.d k p hk e).more
theorem WM(h3:Γ "Table.goes"=zA)(tb:vX S T told ls go)(J:NU told go S S1 p0 K a)(hp:K[a]?=some p)(hc:AB[m]?=some c)(hd:∀c∈AB.take m,Bd told go p c∈K\/gN told.length go p.1 c=gN told.length go p.2 c)
  (q:∀K' S2 y8,NU told go S S2 p0 K' a->K'[a]?=some p->(∀c∈AB.take (m+1),Bd told go p c∈K'\/gN told.length go p.1 c=gN told.length go p.2 c)->N [some (.loc T),y1,y2,some (.loc S.length),y4,some (ow told p),y6,some (.str [c]),y8] S2):
  Rest Γ Y4 #[N,Q] [some (.loc T),y1,y2,some (.loc S.length),y4,some (ow told p),y6,some (.str [c]),y8] S1:=by
 have cm:=ZM c (af hc);let#[o1,o2]:=J.i.ok p (af hp);have g1:=OP tb (x:=p.1) cm;have g2:=OP tb (x:=p.2) cm;have kl:=J.i.len;have tl:=tb.sz;have et:=GN hc;unfold Y4;room;rwa[WL h3 (tb.ext J.x) o1 o2 cm λn S2 x2 gn=>?_]
 rw[Mn,gn,aD]
 have dn:∀{K':List (Nat×Nat)},(∀x∈K,x∈K')->(Bd told go p c∈K'\/gN told.length go p.1 c=gN told.length go p.2 c)->∀c∈AB.take (m+1),Bd told go p c∈K'\/gN told.length go p.1 c=gN told.length go p.2 c:=λsub h c' m'=>by
  rw[et] at m';rcases aL.mp m' with m'|m'
  .exact(hd c' m').imp (sub _) id
  .rw[bC.mp m'];erw[h]
 have J2:NU told go S S2 p0 K a:=#[J.x.trans x2,x2.get J.g,J.i]
 unfold pAj;room;rw[J2.g,aD]
 refine#[#[(uG [Bd told go p c]).1 |> λh=>by rw[ay] at h;exact(aj _ _▸h).1,(uG K).1,aH (uG K).2 ⋯],?_];rw[show U.tup [tu told (gN told.length go p.1 c),tu told (gN told.length go p.2 c)]=ow told (Bd told go p c) from rfl,EM (p:=Bd told go p c) g1 g2 K J.i.ok]
 by_cases z:Bd told go p c∈K
 .rw[decide_eq_true z]
  dsimp[a9,ag,if_false];room;erw[q K S2 _ J2 hp (dn (λ_ h=>h) (.inl z))]
 .rw[decide_eq_false z]
  dsimp[bK,if_true];dsimp[qx,me,bg];refine#[by simp,by simp,WH (λe=>?_) λe=>?_]
  .dsimp[ag,if_false]
   room;refine q K S2 _ J2 hp (dn (λ_ h=>h) (.inr ?_));split at e<;>split at e<;>first|omega|exact aF e|exact nomatch e
  .dsimp[if_true]
   room;rw[J2.g,aD]
   refine#[trivial,?_,?_]
   .rw[ak]
    have:(told.length+1)*(told.length+1)<=4001*4001:=yk ∅ ∅;omega
   .room
    rwa[q (K++[Bd told go p c]) _ _ #[?_,?_,J.i.add z g1 g2] (by rw[ah (aN hp)];erw[hp]) (dn (λ_ h=>bp _ h) (.inl (by simp)))]
    .exact#[by rw[cu];erw[J2.x.1],λn hn=>by rw[ao ∅];erw[J2.x.2 n hn]]
    .rw[gs J2.g,aK];rfl
theorem Sw(h3:Γ "Table.goes"=zA)(tb:vX S T told ls go)(J:NU told go S S1 p0 K a)(hp:K[a]?=some p)(qt:∀S',Ext S S'->Q (.bl true) S')
  (q:∀K' S2 y5 y6 y7 y8,NU told go S S2 p0 K' (a+1)->N [some (.loc T),y1,y2,some (.loc S.length),some (aU (a+1)),y5,y6,y7,y8] S2):
  Rest Γ Y5 #[N,Q] [some (.loc T),y1,y2,some (.loc S.length),some (aU a),y5,y6,y7,y8] S1:=by
 let#[o1,o2]:=J.i.ok p (af hp);unfold Y5;room;rw[J.g,aD]
 rwa[at_of hp ?_];room;rwa[WK (tb.ext J.x) o1 o2 λn S2 x2 gn=>?_]
 have J2:NU told go S S2 p0 K a:=#[J.x.trans x2,x2.get J.g,J.i]
 room;rw[gn,aD,qx,bg,aD,me,bg]
 rwa[WH (λe=>?_) λe=>?_]
 .dsimp[ag,if_false]
  unfold pAs;room;rwa[cx (λm env S3=>∃(K':List (Nat×Nat))(y7 y8:Option U),env=[some (.loc T),y1,y2,some (.loc S.length),some (aU (a+1)),some (ow told p),some (.loc n),y7,y8]/\NU told go S S3 p0 K' a/\K'[a]?=some p/\∀c∈AB.take m,Bd told go p c∈K'\/gN told.length go p.1 c=gN told.length go p.2 c) (λ_ _ _ _=>trivial) (AB.map λc=>U.str [c]) ?_ ?_ #[K,y7,y8,rfl,J2,hp,by simp]]
  .rintro m u env S3 N' hu ⟨K',y7,y8,rfl,J3,hp3,hd⟩ hK
   let#[c,hc,rfl]:=d6 hu;erw[WM h3 tb J3 hp3 hc hd λK2 S4 y8 J4 hp4 hd4=>hK _ _ #[K2,_,_,rfl,J4,hp4,hd4]]
  .rintro env S3 ⟨K',y7,y8,rfl,J3,hp3,hd⟩
   room;rwa[q K' S3 _ _ _ _ #[J3.x,J3.g,J3.i.z,J3.i.nd,J3.i.ok,λk p' hk e'=>?_,aN hp3]];rcases fD.mp hk with y|y
   .erw[J3.i.d k p' y e']
   .rw[y,hp3] at e';cases e'
    exact#[e,hd]
 .dsimp[if_true]
  room;erw[qt S2 J2.x]
end
def NV:Spec:=λus S Q=>∃T told ls go x y,us=[.loc T,tu told x,tu told y]/\vX S T told ls go/\x<=told.length/\y<=told.length/\XA go/\(∃w:List Nat,(∀c∈w,c∈SG)/\Tl told go x w≠Tl told go y w)/\∀S',Ext S S'->Q (.bl true) S'
theorem WN(Γ:bZ)(h3:Γ "Table.goes"=zA):Keeps Γ kQ 6 NV:=by
 rintro us S Q ⟨T,told,ls,go,x,y,rfl,tb,hx,hy,lk,⟨w,hw,ne⟩,q⟩;unfold kQ;room;refine#[by simp,by simp,?_];have I0:NU told go S (S++[SO.lst [U.tup [tu told x,tu told y]]]) (x,y) [(x,y)] 0:=#[Ext.app _,by simp[ow],by simp,by simp,λp m=>by rw[bC.mp m];exact#[hx,hy],λk p hk=>absurd hk (cZ _),b8 _]
 generalize S++[SO.lst [U.tup [tu told x,tu told y]]]=S0 at I0;have tl:=tb.sz;have sq:(told.length+1)*(told.length+1)<=4001*4001:=yk ∅ ∅;room;refine#[16008003,nP (λN env S1=>∃(K:List (Nat×Nat))(a:Nat)(y5 y6 y7 y8:Option U),N=16008002-a/\env=[some (.loc T),some (tu told x),some (tu told y),some (.loc S.length),some (aU a),y5,y6,y7,y8]/\NU told go S S1 (x,y) K a) ?_ _ 16008002 _ _ ⋯ #[[(x,y)],0,none,none,none,none,rfl,rfl,I0]];rintro N env S1 K' ⟨K,a,y5,y6,y7,y8,rfl,rfl,J⟩ hK;have kl:=J.i.len;have al:=J.i.le;room;rw[lL J.g]
 dsimp[bg,ak];refine#[∅,?_];by_cases z:a<K.length
 .have:((a:Int)<(K.length:Int)):=t8.mpr z
  dsimp[this,decide_true,if_true];erw[Sw h3 tb J (aa z) q λK2 S2 y5 y6 y7 y8 J2=>hK (16008002-(a+1)) _ _ ∅ #[K2,a+1,y5,y6,y7,y8,rfl,rfl,J2]]
 .have:¬((a:Int)<(K.length:Int)):=λy=>z (t8.mp y)
  dsimp[this,decide_false,ag,if_false];rwa[absurd (bis lk (K:=K) (λp m=>?_) w (x,y) hw J.i.z) ne];let#[k,hk]:=bq m;erw[J.i.d k p (by have:=aN hk;omega) hk]
theorem clS:∀l∈CL,∀c∈l,c∈SG:=by decide +kernel
theorem clL:∀c∈SG,∃c'∈AB,∀l∈CL,l.contains c=l.contains c':=by decide +kernel
theorem Kr(h:x<told.length):tu told x=aU x:=by unfold tu;rw[if_pos h];rfl
theorem WQ:tu told told.length=.bV:=by unfold tu;rw[if_neg (cD _)];rfl
section
variable{told:List (Option Nat)}{go:Nat->Nat->Option Nat}{ls:List Nat}{S:bJ}{T nt:Nat}{ts:List Tr}
theorem ZN(Γ:bZ)(h1:Γ "_law_apart"=NV)(tb:vX S T told ls go)(mn:ZL told go)(lk:XA go)(q:∀S',D.rt (.bl true) S'):
  Rest Γ Y6 D [y0,y1,some (.loc T),some (aU told.length),y4,y5,y6,y7,y8,y9] S:=by
 unfold Y6;have sz:=tb.sz;room;refine#[∅,∅,?_];rwa[cx (λi env S1=>∃(y8 y9:Option U),env=[y0,y1,some (.loc T),some (aU told.length),y4,y5,y6,y7,y8,y9]/\Ext S S1) (λ_ _ _ _=>trivial) _ ?_ ?_ #[y8,y9,rfl,.refl]]
 .rintro i u env S1 K hu ⟨y8,y9,rfl,x1⟩ hK
  let#[rfl,hi]:=jf hu;have fin:∀S2,Ext S S2->Rest Γ (.cons (.fP (.name 9) (.range @8) (.cons (.ifs (.not (.cH (.call "_law_apart" (.cons @2 (.cons @8 (.cons @9 .nil)))))) (.cons (.ret (.lit (.bl false))) .nil) .nil) .nil)) .nil) #[K,D.rt] [y0,y1,some (.loc T),some (aU told.length),y4,y5,y6,y7,some (aU i),y9] S2:=λS2 x2=>by
   room;refine#[∅,∅,?_];rwa[cx (λj env S1=>∃(y9:Option U),env=[y0,y1,some (.loc T),some (aU told.length),y4,y5,y6,y7,some (aU i),y9]/\Ext S S1) (λ_ _ _ _=>trivial) _ ?_ ?_ #[y9,rfl,x2]]
   .rintro j u env S3 K' hu ⟨y9,rfl,x3⟩ hK'
    let#[rfl,hj]:=jf hu;have jl:=jD hj hi;room;rwa[ca h1 #[T,told,ls,go,i,j,by rw[Kr hi,Kr jl],tb.ext x3,bA hi,bA jl,lk,?_,λS4 x4=>?_]]
    .rwa[kU λh=>absurd (mn.m i j hi jl λw hw=>kU λe=>h #[w,hw,e]) ∅]
    .dsimp[a9,ag,if_false]
     room;erw[hK' _ _ #[_,rfl,x3.trans x4]]
   .rintro env S3 ⟨y9,rfl,x3⟩
    room;erw[hK _ _ #[_,_,rfl,x3]]
  unfold pLa;room;by_cases z:0<i
  .have z':((0:Int)<(i:Int)):=∅
   dsimp[z',decide_true,if_true];rwa[ca h1 #[T,told,ls,go,i,told.length,by rw[Kr hi,WQ],tb.ext x1,bA hi,aq _,lk,?_,λS4 x4=>?_]]
   .let#[w,hw,e]:=mn.l i z hi
    exact#[w,hw,by rw[zE (WJ tb)];erw[e]]
   .dsimp[a9,ag,if_false]
    erw[Rest.go (fin S4 (x1.trans x4))]
  .have z':¬((0:Int)<(i:Int)):=∅
   dsimp[z',decide_false,ag,if_false];erw[Rest.go (fin S1 x1)]
 .rintro env S1 ⟨y8,y9,rfl,x1⟩
  room;erw[q S1]
theorem ZO(Γ:bZ)(h1:Γ "_law_mix"=so.tU)(h3:Γ "_law_text"=JV)(h7:Γ "Table.first"=Kj)(h8:Γ "_law_first"=Kn)(h9:Γ "_law_whole"=Gk)(hl:ns.length<=63)(tb:vX S T told ls go)(t0:0<told.length)(hf:∀w,(∀c∈w,c∈SG)->GU ts w (fst told go w))(gn:S[nt]?=some (.lst (ts.map enc)))(hT:Bj ts)
  (q:∀S' y5 y6 y7,Ext S S'->N [some (.rm ns),some (.loc nt),some (.loc T),y3,some (aU k),y5,y6,y7,y8,y9] S'):
  Rest Γ Y7 #[N,Q] [some (.rm ns),some (.loc nt),some (.loc T),y3,some (aU k),y5,y6,y7,y8,y9] S:=by
 unfold Y7;room;rwa[ca h1 #[ns,_,rfl,∅,λm m0 m1=>#[∅,?_]]];rwa[ca h3 #[ns,_,_,rfl,∅,∅,∅,λx S1 hx xl x1=>?_]];room;rwa[ca h8 #[nt,x,ts,rfl,x1.get gn,hT,∅,λo S2 ho x2=>?_]];have x12:=x1.trans x2;have tb2:=tb.ext x12;let#[kk,R,oT,gk,rp]:=tb2.o;unfold Gh at oT;room;rw[oT,bN]
 refine#[#[rfl,rfl],ca h7 #[T,told,ls,go,x,rfl,tb2,t0,hx,?_]];have eo:=NP ho (hf x hx);rw[<-eo]
 room;dsimp[Wz,ag,if_false];have fin:=q S2 (some (.str x)) (some (uN o)) (some (uN o)) x12;cases o with
 |none=>
  dsimp[uN,kz,a9,ag,if_false] at fin ⊢;room;erw[fin]
 |some i=>
  dsimp[uN,kz,bK,if_true] at fin ⊢;rwa[ca h9 #[_,rfl,?_]];dsimp[a9,ag,if_false];room;erw[fin]
theorem Sx(hT:Bj ts)(t0:0<told.length)(hf:∀w,(∀c∈w,c∈SG)->GU ts w (fst told go w)):told[0]?=some none:=by
 have h:=hf [] λc m=>nomatch m
 have e:=aa t0;have ef:fst told go []=told[0]:=by
  show told.getD 0 none=_
  rw[aE,e];rfl
 rw[ef] at h;rw[e]
 generalize told[0]=o at h;cases o with
 |none=>rfl
 |some i=>
  let#[#[t,e,p,hp,z],_]:=h;have hp:p=0:=hp;subst hp;have:=hT.nl t (af e);have z:dU [t]=true:=z;simp[dU,this] at z
theorem ZP(Γ:bZ)(h1:Γ "_law_mix"=so.tU)(h3:Γ "_law_text"=JV)(h7:Γ "Table.first"=Kj)(h8:Γ "_law_first"=Kn)(h9:Γ "_law_whole"=Gk)(ha:Γ "Table.size"=NT)(hb:Γ "_law_numbered"=Sv)(hc:Γ "_law_apart"=NV)(hl:ns.length<=63)(tb:vX S T told ls go)(t0:0<told.length)(hf:∀w,(∀c∈w,c∈SG)->GU ts w (fst told go w))(mn:ZL told go)(lk:XA go)(gn:S[nt]?=some (.lst (ts.map enc)))(hT:Bj ts)(q:∀S',D.rt (.bl true) S'):
  Rest Γ Y8 D [some (.rm ns),some (.loc nt),some (.loc T),y3,y4,y5,y6,y7,y8,y9] S:=by
 let#[kk,R,oT,gk,rp]:=tb.o;have oT':=oT;unfold Gh at oT';have sz:=tb.sz;unfold Y8;room;rw[oT',bN]
 refine#[#[rfl,rfl],ca ha #[T,kk,R,told,rfl,oT,sz,?_]];room;rwa[ca h9 #[_,rfl,?_]];dsimp[a9,ag,if_false];rw[Kq oT]
 room;rw[lL gk]
 dsimp[bg,ak];refine#[∅,?_];dsimp[beq_self_eq_true,a9,ag,if_false];rw[Kq oT]
 room;rw[gk,aD]
 rwa[at_of (j:=0) (Sx hT t0 hf) ?_];dsimp[uN,kz,a9,ag,if_false];room;rwa[ca hb #[T,told,ls,go,rfl,tb,t0,mn.r,?_]];dsimp[a9,ag,if_false];unfold pLc;room;refine#[∅,∅,?_];rwa[cx (λi env S1=>Ext S S1/\∃(y4 y5 y6 y7:Option U),env=[some (.rm ns),some (.loc nt),some (.loc T),some (aU told.length),y4,y5,y6,y7,y8,y9]) (λ_ _ _ _=>trivial) _ ?_ ?_ #[.refl,y4,y5,y6,y7,rfl]]
 .rintro i u env S1 K hu ⟨x1,y4,y5,y6,y7,rfl⟩ hK
  let#[rfl,hi]:=jf (n:=6) hu;erw[ZO Γ h1 h3 h7 h8 h9 hl (tb.ext x1) t0 hf (x1.get gn) hT λS2 y5 y6 y7 x2=>hK _ _ #[x1.trans x2,_,_,_,_,rfl]]
 .rintro env S1 ⟨x1,y4,y5,y6,y7,rfl⟩
  erw[ZN Γ hc (tb.ext x1) mn lk q]
end
noncomputable def ZQ:Spec:=λus _ Q=>∃ns:List Int,us=[.rm ns]/\ns.length<=63/\∀S',Q (.bl true) S'
theorem Ks(Γ:bZ)(h1:Γ "_law_mix"=so.tU)(h2:Γ "_law_trees"=RT)(h3:Γ "_law_text"=JV)(h4:Γ "written"=EB (λt=>bS t<=3\/(Bm t/\bS t<=3+1)) wr)(h5:Γ "table_of"=Ww)(h7:Γ "Table.first"=Kj)(h8:Γ "_law_first"=Kn)(h9:Γ "_law_whole"=Gk)(ha:Γ "Table.size"=NT)(hb:Γ "_law_numbered"=Sv)(hc:Γ "_law_apart"=NV):Keeps Γ PL.D1.D3 9 ZQ:=by
 rintro us S Q ⟨ns,rfl,hl,q⟩;unfold PL.D1.D3;room;rwa[ca h1 #[ns,50,rfl,∅,λm m0 m1=>#[∅,?_]]];rwa[ca h2 #[ns,0,_,2,rfl,⋯,∅,∅,∅,λts nt S2 hT hV hz _ x1 g2=>?_]];have tl:=hT.len;room;rw[g2,aD]
 rwa[gB (S:=S2) (ts.map enc) (ts.map λt=>.str (wr t)) (by simp) (by simp;omega) (λS' x=>x.get g2) (λu S' k h=>h) (λj u v hu hv S3 k x3 hk=>?_) λS3 x3=>?_]
 .let#[t,et,rfl]:=d6 hu
  rw[aB,et] at hv;cases hv;have mt:=af et;have d4:=hT.dp t mt;erw[ca h4 #[t,rfl,.inl ∅,hV t mt,d4,λS4 x4=>hk S4 x4]]
 have x4:Ext S2 (S3++[SO.lst (ts.map λt=>.str (wr t))]):=x3.trans (Ext.app _);have g4:(S3++[SO.lst (ts.map λt=>U.str (wr t))])[S3.length]?=some (.lst ((ts.map wr).map U.str)):=by simp
 generalize S3.length=n4 at g4;generalize S3++[SO.lst (ts.map λt=>U.str (wr t))]=S4 at g4 x4;rwa[ca h5 #[n4,ts.map wr,ts,rfl,g4,#[by simp,λj t y e1 e2=>?_],hT,∅,λT told ls go S5 tb t0 hf x5 _ mn lk=>?_]]
 .rw[aB,e1] at e2
  cases e2;have mt:=af e1;have d4:=hT.dp t mt;exact#[by have:=(lj (hV t mt) d4).2.2;omega,[],NG (hV t mt) d4]
 rwa[ZP (D:=#[_,Q]) Γ h1 h3 h7 h8 h9 ha hb hc hl tb t0 hf (mn λt m l hl'=>clS l (hV t m l hl')) (λc cm=>?_) ((x4.trans x5).get g2) hT q];let#[c',m',h]:=clL c cm;exact#[c',m',lk c c' λt m l hl'=>h l (hV t m l hl')]
end PL.ug
end
namespace L2
open PySem PySem.Spec PyProof.Rows PySem.W
open PL (U SO bJ KU bZ)
noncomputable def wG:PL.Spec:=λ_ _ _=>False
noncomputable def Gm(Γ:bZ)(x:String)(sp:PL.Spec):bZ:=λy=>if y=x then sp else Γ y
def Role(c:Ctx)(T:Tab)(x:String)(f:Addr):Prop:=
 (x∈T.fns/\c.mg (nm x)=some (.ref f))\/(∃p∈T.qz,x=p.2++"."++p.1/\∃C,c.cls p.2=some C/\Meth c.K C (nm p.1) f)\/(∃y∈T.qy,x=y++".__init__"/\∃C,c.cls y=some C/\Mk c.K C f)
theorem FnAt.mono(F:FnAt c j f sp)(h:j<=k):FnAt c k f sp:=by
 let#[fd,ps,F,B]:=F;exact#[fd,ps,F.mono h,B]
theorem bH:Gm Γ x sp x=sp:=if_pos rfl
theorem uH(h:y≠x):Gm Γ x sp y=Γ y:=if_neg h
theorem gy.add(G:gy c T Γ k)(h:k<=k')(F:∀f,Role c T x f->FnAt c k' f sp):gy c T (Gm Γ x sp) k':=by
 refine#[λy hy=>?_,λp hp=>?_,λy hy=>?_]
 .let#[f,hm,kp,A]:=G.fns y hy
  refine#[f,hm,kp,?_];by_cases e:y=x
  .subst e;rw[bH];erw[F f (.inl #[hy,hm])]
  .rw[uH e];erw[A.mono h]
 .let#[C,f,hc,hm,A]:=G.SX p hp
  refine#[C,f,hc,hm,?_];by_cases e:p.2++"."++p.1=x
  .rw[e,bH];erw[F f (.inr (.inl #[p,hp,e.symm,C,hc,hm]))]
  .rw[uH e];erw[A.mono h]
 .let#[C,f,hc,hg,hm,A]:=G.cls y hy
  refine#[C,f,hc,hg,hm,?_];by_cases e:y++".__init__"=x
  .rw[e,bH];erw[F f (.inr (.inr #[y,hy,e.symm,C,hc,hm]))]
  .rw[uH e];erw[A.mono h]
theorem NW(hm:c.mg (nm x)=some (.ref f0))(h2:(T.qz.all λp=>p.2++"."++p.1 !=x)=true)(h3:(T.qy.all λy=>y++".__init__" !=x)=true)(R:Role c T x f):f=f0:=by
 rcases R with⟨_,e⟩|⟨p,hp,e,_⟩|⟨y,hy,e,_⟩
 .rw[hm] at e;cases e;rfl
 .have:=cB.mp h2 p hp
  rw[e] at this;simp at this
 .have:=cB.mp h3 y hy
  rw[e] at this;simp at this
theorem NX(hc:c.cls cl=some C)(hm:Meth c.K C (nm m) f0)(h1:T.fns.contains (cl++"."++m)=false)(h2:(T.qz.all λp=>p.2++"."++p.1 !=cl++"."++m||(p.1==m&&p.2==cl))=true)(h3:(T.qy.all λy=>y++".__init__" !=cl++"."++m)=true)(R:Role c T (cl++"."++m) f):f=f0:=by
 rcases R with⟨h,_⟩|⟨p,hp,e,C',hc',hm'⟩|⟨y,hy,e,_⟩
 .erw[absurd (gE.mpr h) (by rw[h1];simp)]
 .have:=cB.mp h2 p hp
  rw[e] at this;simp at this;let#[e1,e2]:=this;rw[e2,hc] at hc';cases hc';rw[e1] at hm';have:=hm.at_.symm.trans hm'.at_;cases this;rfl
 .have:=cB.mp h3 y hy
  rw[e] at this;simp at this
theorem NY(hc:c.cls cl=some C)(hm:Mk c.K C f0)(h1:T.fns.contains (cl++".__init__")=false)(h2:(T.qz.all λp=>p.2++"."++p.1 !=cl++".__init__")=true)(h3:(T.qy.all λy=>y++".__init__" !=cl++".__init__"||y==cl)=true)(R:Role c T (cl++".__init__") f):f=f0:=by
 rcases R with⟨h,_⟩|⟨p,hp,e,C',hc',hm'⟩|⟨y,hy,e,C',hc',hm'⟩
 .erw[absurd (gE.mpr h) (by rw[h1];simp)]
 .have:=cB.mp h2 p hp
  rw[e] at this;simp at this
 .have:=cB.mp h3 y hy
  rw[e] at this;simp at this;rw[this,hc] at hc';cases hc';have:=hm.init.symm.trans hm'.init;cases this;rfl
theorem WR(B:Binds c.K fd ps []):FnAt c k f wG:=
 #[fd,ps,#[λvs H Q E h=>by let#[us,ρ,S0,QU,r,R,w,q]:=h;erw[w.elim],λA outer s H args us vs Q E hr he hb hv hs=>by let#[us,ρ,S0,QU,r,R,w,q]:=hs;erw[w.elim]],B]
structure Df(c:Ctx)(T:Tab)(st:Stmt)(f:Addr)(N ps:List Str)(b:PL.dh)(m:Nat):Prop where
 fn:∃x qual fd,KO c.K x qual st f fd/\Binds c.K fd ps []
 sc:lI N ps (bU st)
 tx:∃n,KS T n #[(bU st).names,N,true] (fO st)=some b
 hm:N.length=ps.length+m
theorem Df.ok{c:Ctx}{T:Tab}{Γ:bZ}{st:Stmt}{f:Addr}{N ps:List Str}{b:PL.dh}{m k kx:Nat}{sp:PL.Spec}(D:Df c T st f N ps b m)(B:Base c T kx)(hkx:kx<=k)(G:gy c T Γ k)(hk:PL.Keeps Γ b m sp)(hl:∀us S Q,sp us S Q->us.length=ps.length):FnAt c (k+2) f sp:=by
 let#[x,qual,fd,F,Bi]:=D.fn;let#[n,hc]:=D.tx;exact#[fd,ps,Oo F D.sc B hkx G hc hk D.hm hl,Bi]
theorem Df.up{c:Ctx}{T:Tab}{Γ:bZ}{st:Stmt}{f:Addr}{N ps:List Str}{b:PL.dh}{m k kx:Nat}{x:String}{sp:PL.Spec}(D:Df c T st f N ps b m)(R:∀g,Role c T x g->g=f)(B:Base c T kx)(hkx:kx<=k)(G:gy c T Γ k)(hk:PL.Keeps Γ b m sp)(hl:∀us S Q,sp us S Q->us.length=ps.length):gy c T (Gm Γ x sp) (k+2):=
 G.add ∅ λg r=>by rw[R g r];erw[D.ok B hkx G hk hl]
def eS(Γ Γ':bZ)(l:List String):Prop:=∀x,x∉l->Γ' x=Γ x
theorem eS.refl(Γ:bZ)(l:List String):eS Γ Γ l:=λ_ _=>rfl
theorem eS.up(h:eS Γ Γ' l)(m:x∈l):eS Γ (Gm Γ' x sp) l:=λy hy=>(uH (λe=>hy (by rw[e];erw[m]))).trans (h y hy)
theorem gy.none(h1:∀x∈T.fns,∃f,c.mg (nm x)=some (.ref f)/\Hd c.K (.ref f)=true/\FnAt c k f wG)(h2:∀p∈T.qz,∃C f,c.cls p.2=some C/\Meth c.K C (nm p.1) f/\FnAt c k f wG)
  (h3:∀x∈T.qy,∃C f,c.cls x=some C/\c.mg (nm x)=some (.ref C)/\Mk c.K C f/\FnAt c k f wG):gy c T (λ_=>wG) k:=#[h1,h2,h3]
open PL (U SO bJ KU bZ)
def RN:List String:=["in_order","all_but","is_ahead","stretch","read","joined","Reader.__init__","Reader.sees","Reader.passes","Reader.choice","Reader.row","Reader.repeat","Reader.atom","Reader.bracket","Reader.sign_class","Reader.item","Reader.written_sign"]
structure f9(c:Ctx)(T:Tab)(x:String)(n m:Nat)(b:PL.dh):Prop where
 ex:∃st f N ps,Df c T st f N ps b m/\ps.length=n/\∀g,Role c T x g->g=f
structure GS(c:Ctx)(T:Tab)(kx:Nat)(Γ:bZ)(k:Nat):Prop where
 le:kx<=k
 ok:gy c T Γ k
theorem f9.up(D:f9 c T x n m b)(B:Base c T kx)(G:GS c T kx Γ k)(hk:PL.Keeps Γ b m sp)(hl:∀us S Q,sp us S Q->us.length=n):GS c T kx (Gm Γ x sp) (k+2):=by
 let#[st,f,N,ps,D0,e,R]:=D.ex;exact#[Nat.le_add_right_of_le G.le,L2.Df.up D0 R B G.le G.ok hk (λus S Q h=>(hl us S Q h).trans e.symm)]
structure Gn(c:Ctx)(T:Tab):Prop where
 Rk:f9 c T "in_order" 1 0 PL.ny
 C9:f9 c T "all_but" 1 0 PL.pB
 ahead:f9 c T "is_ahead" 2 0 PL.nA
 Jp:f9 c T "stretch" 2 0 PL.pC
 read:f9 c T "read" 1 2 PL.yM
 joined:f9 c T "joined" 2 0 PL.rC
 init:f9 c T "Reader.__init__" 2 0 PL.jO
 sees:f9 c T "Reader.sees" 2 0 PL.jP
 passes:f9 c T "Reader.passes" 2 0 PL.iH
 choice:f9 c T "Reader.choice" 1 1 PL.iI
 row:f9 c T "Reader.row" 1 1 PL.kF
 repeat_:f9 c T "Reader.repeat" 1 1 PL.iJ
 atom:f9 c T "Reader.atom" 1 0 PL.jQ
 bracket:f9 c T "Reader.bracket" 1 1 PL.gY
 cls:f9 c T "Reader.sign_class" 1 2 PL.fm
 item:f9 c T "Reader.item" 1 3 PL.jR
 ws:f9 c T "Reader.written_sign" 2 1 PL.d8
theorem tW(us:List U)(S:bJ)(Q:KU)(h:PL.zU args p d us S Q):us.length=args.length+1:=by
 let#[r,x,rest,rfl,_]:=h;rfl
theorem len_T(us:List U)(S:bJ)(Q:KU)(h:PL.spT f us S Q):us.length=1:=by
 let#[l,rfl,_]:=h;rfl
theorem Bw(R:Gn c T)(B:Base c T kx)(G:GS c T kx Γ k):∃Γ',GS c T kx Γ' (k+16)/\eS Γ Γ' RN/\PL.GR Γ'/\Γ' "joined"=PL.k8/\Γ' "Reader.__init__"=PL.nO:=by
 have g1:=R.Rk.up B G (PL.A5 _) len_T;have g2:=R.C9.up B g1 (PL.vC _) len_T;have g3:=R.ahead.up B g2 (PL.A6 _) (λus S Q h=>by let#[a,b,rfl,_]:=h;rfl);have g4:=R.Jp.up B g3 (PL.C8 _) (λus S Q h=>by let#[a,b,rfl,_]:=h;rfl);have g5:=R.joined.up B g4 (PL.FZ _) (λus S Q h=>by let#[a,b,t,rfl,_]:=h;rfl);have g6:=R.init.up B g5 (PL.Jx _) (λus S Q h=>by let#[a,b,rfl,_]:=h;rfl);have g7:=R.sees.up B g6 (PL.Nd _) (λus S Q h=>by let#[a,b,_,_,_,rfl,_]:=h;rfl);have g8:=R.passes.up B g7 (PL.Nf _ bH) (λus S Q h=>by let#[l,d,h]:=h;exact tW _ _ _ h);refine#[_,g8,?_,#[rfl,rfl,rfl,rfl,rfl,rfl],rfl,rfl];refine eS.up (eS.up (eS.up (eS.up (eS.up (eS.up (eS.up (eS.up (eS.refl _ _) ?_) ?_) ?_) ?_) ?_) ?_) ?_) ?_<;>decide
theorem WU(k d:Nat)(h:d+k=6)(hc:∀j,k=j+1->Γ "Reader.choice"=PL.zU [] (PL.hJ (PL.tR j)) (d+1)):PL.Vn Γ (PL.tR k) d:=by
 cases k with
 |zero=>erw[.inl #[rfl,∅]]
 |succ j=>erw[.inr #[_,rfl,∅,PL.sV (j+1),hc j rfl]]
theorem tX(R:Gn c T)(B:Base c T kx)(G:GS c T kx Γ k)(Sm:eS Γ0 Γ RN)(gr:PL.GR Γ)(gj:Γ "joined"=PL.k8)(gi:Γ "Reader.__init__"=PL.nO)(n d:Nat)(hd:d+n=6)
  (hc:∀j,n=j+1->Γ "Reader.choice"=PL.zU [] (PL.hJ (PL.tR j)) (d+1)):
  ∃Γ',GS c T kx Γ' (k+16)/\eS Γ0 Γ' RN/\PL.GR Γ'/\Γ' "joined"=PL.k8/\Γ' "Reader.__init__"=PL.nO/\Γ' "Reader.choice"=PL.zU [] (PL.hJ (PL.tR n)) d:=by
 let#[e1,e2,e3,e4,e5,e6]:=gr;have hbo:=PL.sV n;have g1:=R.bracket.up B G (PL.Vo _ #[e1,e2,e3,e4,e5,e6] (PL.tR n) d (WU n d hd hc)) (λus S Q h=>by let#[a,b,_,rfl,_]:=h;rfl);have g2:=R.ws.up B g1 (PL.Jq _ #[e1,e2,e3,e4,e5,e6] d) (λus S Q h=>by let#[m,h]:=h;exact tW _ _ _ h);have g3:=R.item.up B g2 (PL.Nh _ d #[#[e1,e2,e3,e4,e5,e6],rfl]) tW;have g4:=R.cls.up B g3 (PL.Rl _ d #[#[#[e1,e2,e3,e4,e5,e6],rfl],rfl]) tW;have g5:=R.atom.up B g4 (PL.Nl _ (PL.tR n) d #[#[#[#[e1,e2,e3,e4,e5,e6],rfl],rfl],rfl,rfl]) tW;have g6:=R.repeat_.up B g5 (PL.F3 _ (PL.tR n) d hbo #[#[#[#[#[e1,e2,e3,e4,e5,e6],rfl],rfl],rfl,rfl],rfl]) tW;have g7:=R.row.up B g6 (PL.Ro _ (PL.tR n) d hbo #[#[#[#[#[#[e1,e2,e3,e4,e5,e6],rfl],rfl],rfl,rfl],rfl],rfl,gj]) tW;have g8:=R.choice.up B g7 (PL.F4 _ (PL.tR n) d hbo #[#[#[#[#[#[#[e1,e2,e3,e4,e5,e6],rfl],rfl],rfl,rfl],rfl],rfl,gj],rfl]) tW;refine#[_,g8,?_,#[e1,e2,e3,e4,e5,e6],gj,gi,rfl];refine eS.up (eS.up (eS.up (eS.up (eS.up (eS.up (eS.up (eS.up Sm ?_) ?_) ?_) ?_) ?_) ?_) ?_) ?_<;>decide
theorem vZ(R:Gn c T)(B:Base c T kx)(G:GS c T kx Γ k)(Sm:eS Γ0 Γ RN)(gr:PL.GR Γ)(gj:Γ "joined"=PL.k8)(gi:Γ "Reader.__init__"=PL.nO):
  ∀(n d:Nat),d+n=6->∃Γ',GS c T kx Γ' (k+16*(n+1))/\eS Γ0 Γ' RN/\PL.GR Γ'/\Γ' "joined"=PL.k8/\Γ' "Reader.__init__"=PL.nO/\Γ' "Reader.choice"=PL.zU [] (PL.hJ (PL.tR n)) d
 |0,d,h=>tX R B G Sm gr gj gi 0 d h (λj e=>∅)
 |n+1,d,h=>by
  let#[Γ1,G1,S1,r1,j1,i1,c1]:=vZ R B G Sm gr gj gi n (d+1) ∅;let#[Γ2,G2,z]:=tX R B G1 S1 r1 j1 i1 (n+1) d h (λj e=>by cases e;erw[c1]);exact#[Γ2,G2,z]
theorem Dw(R:Gn c T)(B:Base c T kx)(G:GS c T kx Γ k):∃Γ',GS c T kx Γ' (k+130)/\eS Γ Γ' RN/\Γ' "read"=PL.Dd/\Γ' "all_but"=PL.spT PL.dO:=by
 let#[Γ1,G1,S1,r1,j1,i1]:=Bw R B G;let#[Γ2,G2,S2,r2,j2,i2,c2]:=vZ R B G1 S1 r1 j1 i1 6 0 rfl;have g:=R.read.up B G2 (PL.Nm _ i2 c2) (λus S Q h=>by let#[x,rfl,_]:=h;rfl);exact#[_,g,eS.up S2 ⋯,bH,r2.C9]
open PL (U SO bJ KU bZ)
structure oW where
 x:String
 q:String
 cl:String
 st:Stmt
 N:List Str
 ps:List Str
 b:PL.dh
def Gs(K:Frag)(x qual:Str)(st:Stmt)(f:Addr):Prop:=∃(oc:Value)(od:Option Addr)(kV dc pm:Value)(an:Option Addr)(cd ct:Value)(sl:Array (Option Value)),
 K.lookup f=some #[oc,od,.func (fnOf x qual (lJ st) (fO st) (bU st) .none kV dc pm an cd ct),sl]/\codeIn K cd qual=true/\Hd K (.ref f)=true
theorem Gs.fn{K:Frag}{x qual:Str}{st:Stmt}{f:Addr}(h:Gs K x qual st f):∃fd,KO K x qual st f fd/\Hd K (.ref f)=true:=by
 let#[oc,od,kV,dc,pm,an,cd,ct,sl,h1,h2,h3]:=h;exact#[_,HM h1 h2 h3,h3]
inductive Bx(K:Frag)(CA:List (String×Addr)):oW->Prop
 |fn{q:String}{st:Stmt}{N ps:List Str}{b:PL.dh}{f:Addr}:nsIn K bI (b9 q)=some (some (.ref f))->Gs K (b9 q) (b9 q) st f->Bx K CA #[q,q,"",st,N,ps,b]
 |mt{x q cl:String}{st:Stmt}{N ps:List Str}{b:PL.dh}{f C:Addr}:(cl=="")=false->CA.lookup cl=some C->findIn K (.ref C) (b9 q)=some (some (.ref f))->isFn K (.ref f)=true->Gs K (b9 q) (b9 x) st f->Bx K CA #[x,q,cl,st,N,ps,b]
def zF(r:oW):Prop:=∀(x qual:Str)(kV dc pm:Value)(an:Option Addr)(cd ct:Value)(us:List Value),us.length=r.ps.length->K5 (fnOf x qual (lJ r.st) (fO r.st) (bU r.st) .none kV dc pm an cd ct) #[us,[]]=pure (r.ps.zip us)
abbrev Kt(r:oW)(us:List Value):Prop:=∀(x qual:Str)(kV dc pm:Value)(an:Option Addr)(cd ct:Value),K5 (fnOf x qual (lJ r.st) (fO r.st) (bU r.st) .none kV dc pm an cd ct) #[us,[]]=pure (r.ps.zip us)
theorem Sy{α:Type}{l:List α}{n:Nat}(h:l.length=n+1):∃a r,l=a::r/\r.length=n:=by
 cases l with
 |nil=>erw[absurd h (Nat.succ_ne_zero n).symm]
 |cons a r=>exact#[a,r,rfl,mR h]
theorem ln1{α:Type}{l:List α}(h:l.length=1):∃a,l=[a]:=jw.mp h
theorem ln2{α:Type}{l:List α}(h:l.length=2):∃a b,l=[a,b]:=by
 let#[a,r,rfl,k]:=Sy h;let#[b,rfl]:=ln1 k;exact#[a,b,rfl]
theorem ln3{α:Type}{l:List α}(h:l.length=3):∃a b c,l=[a,b,c]:=by
 let#[a,r,rfl,k]:=Sy h;let#[b,c,rfl]:=ln2 k;exact#[a,b,c,rfl]
theorem bd0{r:oW}(e:r.ps.length=0)(h:Kt r []):zF r:=λx q a b c d f g us hl=>by
 rw[e] at hl;obtain rfl:=Ag.mp hl;erw[h x q a b c d f g]
theorem bd1{r:oW}(e:r.ps.length=1)(h:∀a,Kt r [a]):zF r:=λx q a b c d f g us hl=>by
 let#[u,rfl]:=ln1 (hl.trans e);erw[h u x q a b c d f g]
theorem bd2{r:oW}(e:r.ps.length=2)(h:∀a b,Kt r [a,b]):zF r:=λx q a b c d f g us hl=>by
 let#[u,v,rfl]:=ln2 (hl.trans e);erw[h u v x q a b c d f g]
theorem bd3{r:oW}(e:r.ps.length=3)(h:∀a b c,Kt r [a,b,c]):zF r:=λx q a b c d f g us hl=>by
 let#[u,v,w,rfl]:=ln3 (hl.trans e);erw[h u v w x q a b c d f g]
theorem bd4{r:oW}(e:r.ps.length=4)(h:∀a b c d,Kt r [a,b,c,d]):zF r:=λx q a b c d f g us hl=>by
 let#[u,s,rfl,k]:=Sy (hl.trans e);let#[v,w,z,rfl]:=ln3 k;erw[h u v w z x q a b c d f g]
def Gu(r:oW):Bool:=(bU r.st).kind==.function && !(bU r.st).isCoroutine && !(bU r.st).isGenerator&&decide r.N.Nodup&&r.N.take r.ps.length==r.ps&&(r.ps.all λx=>(bU r.st).names.lookup x==some .local||(bU r.st).names.lookup x==some .cell)&&((bU r.st).names.all λy=>y.2 !=.free)&&decide (r.ps.length<=r.N.length)
theorem Gu.sc{r:oW}(h:Gu r=true):lI r.N r.ps (bU r.st)/\r.ps.length<=r.N.length:=by
 unfold Gu at h;dsimp[aj,cB,decide_eq_true_eq,bu,beq_iff_eq,gI,bne_iff_ne] at h;let#[#[#[#[#[#[#[h1,h2],h3],h4],h5],h6],h7],h8]:=h;exact#[#[h1,h2,h3,h4,h5,h6,h7],h8]
noncomputable def Sz(T:Tab)(r:oW):Bool:=
 if r.cl=="" then(T.qz.all λp=>p.2++"."++p.1 !=r.x)&&(T.qy.all λy=>y++".__init__" !=r.x)
 else !(T.fns.contains r.x)&&r.x==r.cl++"."++r.q&&if r.q=="__init__" then(T.qz.all λp=>p.2++"."++p.1 !=r.x)&&(T.qy.all λy=>y++".__init__" !=r.x||y==r.cl)
  else(T.qz.all λp=>p.2++"."++p.1 !=r.x||(p.1==r.q&&p.2==r.cl))&&(T.qy.all λy=>y++".__init__" !=r.x)
noncomputable def Ku(rows:List oW):List String:=(rows.filter λr=>r.cl=="").map (·.x)
noncomputable def Kv(rows:List oW):List (String×String):=(rows.filter λr=>r.cl !=""&&r.q !="__init__").map λr=>(r.q,r.cl)
structure NZ(K:Frag)(p:String×Addr)(fl:List String):Prop where
 ns:nsIn K bI (b9 p.1)=some (some (.ref p.2))
 cl:wt K p.2
 ms:makesIn K p.2=true
 kp:Hd K (.ref p.2)=true
 na:fl.map (λf=>findIn K (.ref p.2) (b9 f))=fl.map λ_=>some none
theorem r9{α:Type}{x:String}{a:α}:∀{l:List (String×α)},l.lookup x=some a->(x,a)∈l
 | (k,v)::l,h=>by
  rw[aO] at h;split at h
  .rename_i e
   have e:x=k:=eq_of_beq e;cases h;subst e;erw[aQ ..]
  .erw[aA _ (r9 h)]
theorem WV{K:Frag}{C:Addr}{fl:List String}(h:fl.map (λf=>findIn K (.ref C) (b9 f))=fl.map λ_=>some none):∀f∈fl,l9 K C (nm f):=λf m=>tI.mp h f m
section
variable{c:Ctx}{T:Tab}{rows:List oW}{CA:List (String×Addr)}{h:Heap}{fl:List String}
theorem N0(X:c.K.In h)(G:h.Ns bI c.mg)(hc:c.cls=λx=>CA.lookup x)(hC:∀p∈CA,NZ c.K p fl)(R:∀r∈rows,Bx c.K CA r)(bd:∀r∈rows,zF r)(sc:rows.all Gu=true)(rl:rows.all (Sz T)=true)
  (tx:rows.map (λr=>KS T 60 #[(bU r.st).names,r.N,true] (fO r.st))=rows.map λr=>some r.b) (i:Nat) (r:oW) (e:rows[i]?=some r):f9 c T r.x r.ps.length (r.N.length-r.ps.length) r.b:=by
 have m:=af e;let#[s1,s2]:=(cB.mp sc r m |> Gu.sc)
 have t:=tI.mp tx r m;have b:=bd r m;have rr:=cB.mp rl r m;have ln:r.N.length=r.ps.length+(r.N.length-r.ps.length):=∅
 cases R r m with
 |fn h1 h2=>
  let#[fd,F,kp]:=h2.fn;refine#[#[_,_,_,_,#[#[_,_,fd,F,F.binds λkV dc pm an cd ct us hl=>b _ _ kV dc pm an cd ct us hl],s1,#[60,t],ln],rfl,λg ro=>?_]];have rr:((T.qz.all λp=>p.2++"."++p.1 !=_)&&(T.qy.all λy=>y++".__init__" !=_))=true:=rr;rw[aj] at rr;erw[NW (qK X G h1) rr.1 rr.2 ro]
 |@mt x q cl st N ps b' f C hn h0 h1 h2 h3=>
  let#[fd,F,kp]:=h3.fn;refine#[#[_,_,_,_,#[#[_,_,fd,F,F.binds λkV dc pm an cd ct us hl=>b _ _ kV dc pm an cd ct us hl],s1,#[60,t],ln],rfl,λg ro=>?_]];unfold Sz at rr;dsimp[hn,ag,if_false,aj,gI,beq_iff_eq] at rr;let#[#[r1,r2],r3]:=rr;have hcl:c.cls cl=some C:=by rw[hc];erw[h0]
  have cm:=hC _ (r9 h0);subst r2;by_cases z:q="__init__"
  .subst z
   dsimp[if_true,aj] at r3;have e:cl++"."++"__init__"=cl++".__init__":=by rw[String.append_assoc];rfl
   have ro:Role c T (cl++"."++"__init__") g:=ro;rw[e] at r1 r3 ro;erw[NY (cl:=cl) hcl #[cm.ms,h1,h2,cm.kp] r1 r3.1 r3.2 ro]
  .rw[if_neg z,aj] at r3
   erw[NX (m:=q) (cl:=cl) hcl #[h1,h2,kp] r1 r3.1 r3.2 ro]
theorem Dx{r:oW}{f:Addr}{x qual:Str}{k:Nat}(b:zF r)(h:Gs c.K x qual r.st f):FnAt c k f wG:=by
 let#[fd,F,kp]:=h.fn;erw[WR (F.binds λkV dc pm an cd ct us hl=>b _ _ kV dc pm an cd ct us hl)]
theorem SA{k:Nat}(X:c.K.In h)(G:h.Ns bI c.mg)(hc:c.cls=λx=>CA.lookup x)(hC:∀p∈CA,NZ c.K p fl)(R:∀r∈rows,Bx c.K CA r)(bd:∀r∈rows,zF r)
  (t1:T.fns=Ku rows) (t2:T.qz=Kv rows) (t3:∀x∈T.qy,∃r∈rows,r.cl=x/\r.q="__init__"/\(x=="")=false):gy c T (λ_=>wG) k:=by
 rwa[gy.none (λx hx=>?_) (λp hp=>?_) (λx hx=>?_)]
 .rw[t1] at hx
  let#[r,hr,rfl]:=bG.mp hx;let#[m,e]:=eU.mp hr;have b:=bd r m;cases R r m with
  |@fn q st N ps b' f h1 h2=>
   let#[fd,F,kp]:=h2.fn;exact#[f,qK X G h1,kp,Dx b h2]
  |mt hn=>erw[absurd e (by show ¬(_=="")=true;rw[hn];simp)]
 .rw[t2] at hp
  let#[r,hr,rfl]:=bG.mp hp;let#[m,e]:=eU.mp hr;have b:=bd r m;cases R r m with
  |fn h1 h2=>simp at e
  |@mt x q cl st N ps b' f C hn h0 h1 h2 h3=>
   let#[fd,F,kp]:=h3.fn;exact#[C,f,by rw[hc];erw[h0],#[h1,h2,kp],Dx b h3]
 .let#[r,m,rfl,eq,ne]:=t3 x hx
  have b:=bd r m;cases R r m with
  |fn h1 h2=>simp at ne
  |@mt x q cl st N ps b' f C hn h0 h1 h2 h3=>
   have eq:q="__init__":=eq;subst eq;have cm:=hC _ (r9 h0);exact#[C,f,by rw[hc];erw[h0],qK X G cm.ns,#[cm.ms,h1,h2,cm.kp],Dx b h3]
theorem SD(hc:c.cls=λx=>CA.lookup x)(hC:∀p∈CA,NZ c.K p fl)(x:String)(C:Addr)(h:c.cls x=some C):wt c.K C/\∀f∈fl,l9 c.K C (nm f):=by
 rw[hc] at h;have:=hC _ (r9 h);exact#[this.cl,WV this.na]
end
theorem uI{c:Ctx}{x:String}{s:Str}{t:Tok}{l:List Nat}(h:c.mg (nm x)=some (.str s t))(e:s=tx l):∃v u,c.mg (nm x)=some u/\RelV v u/\∀ρ H,Rep c ρ H (.str l) v:=
 #[.str (tx l),_,h,#[t,by rw[e]],λ_ _=>bE.mpr rfl]
theorem By{K:Frag}{a:Addr}:∀(kvs:List (Str×Str)),(∀p∈kvs,∃t,nsIn K a p.1=some (some (.str p.2 t)))->∀k v,(kvs.map λp=>(p.1,V.str p.2)).lookup k=some v->∃u,RelV v u/\nsIn K a k=some (some u)
 |[],_,k,v,h=>by simp at h
 |p::r,hp,k,v,h=>by
  rw[ay,aO] at h;split at h
  .rename_i e
   have e:k=p.1:=eq_of_beq e;cases h;let#[t,z]:=hp p (aQ ..);exact#[_,#[t,rfl],by rw[e];erw[z]]
  .erw[By r (λq hq=>hp q (aA _ hq)) k v h]
noncomputable def Gv:Value->Option Str
 |.str s _=>some s
 |_=>none
theorem EN(k:Str):∀(es:List pS)(ks:List Str),es.map (λe=>Gv e.key)=ks.map some->k∉ks->es.find? (·.key.isStr k)=none/\es.any (·.refKey)=false
 |[],_,_,_=>#[rfl,rfl]
 |e::r,[],h,_=>by cases h
 |⟨hs,ky,vl⟩::r,q::ks,h,n=>by
  rw[ay,ay,dE] at h;let#[i,j]:=EN k r ks h.2 λz=>n (aA _ z)
  have h1:Gv ky=some q:=h.1;cases ky with
  |str s t=>
   have e:s=q:=aF h1;subst e;have ne:(s==k)=false:=by
    rw[beq_eq_false_iff_ne];erw[λz=>n (z▸aQ ..)]
   exact#[by rw[dJ];show(match (s==k) with|true=>_|false=>_)=_;rw[ne];erw[i],by rw[cJ,j];rfl]
  |_=>cases h1
theorem N1{c:Ctx}{x:String}{a:Addr}{es:Array pS}{n:Nat}{kvs:List (List Nat×List Nat)}(h:c.mg (nm x)=some (.ref a))(l:c.K.lookup a=some #[.type "dict",none,.dict es n,#[]])(kl:BJ c.w.params es.toList)
  (ky:es.toList.map (λe=>Gv e.key)=(kvs.map λp=>tx p.1).map some) (ns:(a==b7)=false)
  (hk:∀p∈kvs,∃t,nsIn c.K a (tx p.1)=some (some (.str (tx p.2) t))):∃v u,c.mg (nm x)=some u/\RelV v u/\∀ρ H,Rep c ρ H (.tab kvs) v:=by
 refine#[.ref a,_,h,rfl,λρ H=>uz.mpr #[a,rfl,#[es,n,l,kl],λk v e=>?_,λk e=>?_,ns]]
 .rwa[By (kvs.map λp=>(tx p.1,tx p.2)) ?_ k v (by rw[bz];erw[e])]
  intro p hp;let#[q,hq,rfl]:=bG.mp hp;erw[hk q hq]
 .have nm:k∉kvs.map λp=>tx p.1:=λz=>by
   let#[q,hq,rfl]:=bG.mp z;have:=List.lookup_eq_none_iff.mp e (tx q.1,V.str (tx q.2)) (bG.mpr #[q,hq,rfl]);simp at this
  let#[i,j]:=EN k _ _ ky nm;unfold nsIn;rw[l]
  show(match es.toList.find? (·.key.isStr k) with|some e=>some (some e.val)|none=>if es.toList.any (·.refKey) then none else some none)=some none
  rw[i,j]
  rfl
theorem WW{c:Ctx}{x:String}{a:Addr}{es:Array pS}{n:Nat}{z0 z1 z2 k0 k1 k2:Str}{t0 t1 t2:Tok}{l0 l1 l2 m0 m1 m2:List Nat}(h:c.mg (nm x)=some (.ref a))(l:c.K.lookup a=some #[.type "dict",none,.dict es n,#[]])(kl:BJ c.w.params es.toList)
  (ky:es.toList.map (λe=>Gv e.key)= [some k0,some k1,some k2]) (ns:(a==b7)=false) (c0:k0=tx l0) (c1:k1=tx l1) (c2:k2=tx l2)
  (r0:nsIn c.K a k0=some (some (.str z0 t0))) (e0:z0=tx m0) (r1:nsIn c.K a k1=some (some (.str z1 t1))) (e1:z1=tx m1) (r2:nsIn c.K a k2=some (some (.str z2 t2))) (e2:z2=tx m2):
  ∃v u,c.mg (nm x)=some u/\RelV v u/\∀ρ H,Rep c ρ H (.tab [(l0,m0),(l1,m1),(l2,m2)]) v:=by
 subst c0 c1 c2 e0 e1 e2;rwa[N1 h l kl ky ns ?_];erw[aW.mpr #[#[t0,r0],aW.mpr #[#[t1,r1],aW.mpr #[#[t2,r2],λ_ h=>(cv h).elim]]]]
open PL (U SO bJ KU bZ)
theorem gy.mono(G:gy c T Γ j)(h:j<=k):gy c T Γ k:=
 #[λx hx=>let ⟨f,a,b,d⟩:=G.fns x hx;#[f,a,b,d.mono h],λp hp=>let ⟨C,f,a,b,d⟩:=G.SX p hp;#[C,f,a,b,d.mono h],λx hx=>let ⟨C,f,a,b,e,d⟩:=G.cls x hx;#[C,f,a,b,e,d.mono h]]
theorem gy.mix(G1:gy c T Γ1 k)(G2:gy c T Γ2 k)(h:∀x,Γ x=Γ1 x\/Γ x=Γ2 x):gy c T Γ k:=by
 refine#[λx hx=>?_,λp hp=>?_,λx hx=>?_]
 .rcases h x with e|e<;>rw[e]
  .erw[G1.fns x hx]
  .erw[G2.fns x hx]
 .rcases h (p.2++"."++p.1) with e|e<;>rw[e]
  .erw[G1.SX p hp]
  .erw[G2.SX p hp]
 .rcases h (x++".__init__") with e|e<;>rw[e]
  .erw[G1.cls x hx]
  .erw[G2.cls x hx]
theorem GS.mono(G:GS c T kx Γ j)(h:j<=k):GS c T kx Γ k:=#[aH G.le h,gy.mono G.ok h]
structure SE(c:Ctx)(T:Tab):Prop where
 written:f9 c T "written" 1 0 PL.pD
 row:f9 c T "row_text" 1 0 PL.nB
 rep:f9 c T "repeat_text" 1 2 PL.jS
 atom:f9 c T "atom_text" 1 0 PL.lM
 place:f9 c T "place_text" 1 0 PL.kG
 sign:f9 c T "sign_text" 2 0 PL.lN
 texts:f9 c T "class_texts" 1 1 PL.jT
 guarded:f9 c T "guarded" 1 0 PL.pE
 items:f9 c T "class_items" 1 2 PL.jU
 runs:f9 c T "runs" 1 3 PL.yN
 ZR:f9 c T "run_items" 1 2 PL.lO
open PL.lQ in
structure zG(c:Ctx)(T:Tab):Prop where
 po:f9 c T "places_of" 2 4 lR
 to:f9 c T "tree_of" 2 1 pF
 mem:f9 c T "members" 1 0 pG
 pt:f9 c T "Part.__init__" 4 0 lS
 beh:f9 c T "one_behind_other" 2 2 fQ
 or_:f9 c T "one_or_other" 2 0 i9
 li:f9 c T "Layout.__init__" 1 0 jV
 hm:f9 c T "Layout.how_many" 1 0 gw
 cr:f9 c T "Layout.close_rule" 2 0 fq
 lk:f9 c T "Layout.link" 3 1 jW
 lay:f9 c T "Layout.lay" 2 0 kH
 lp:f9 c T "Layout.lay_place" 2 1 fS
 lr:f9 c T "Layout.lay_row" 2 3 gZ
 lc:f9 c T "Layout.lay_choice" 2 2 fu
 lq:f9 c T "Layout.lay_repeat" 2 4 fw
 us:f9 c T "useful_places" 1 5 iK
 ptt:f9 c T "places_that_take" 2 0 fT
 pi:f9 c T "Places.__init__" 2 1 jX
 Sr:f9 c T "Places.beyond" 2 2 iL
 fr:f9 c T "Places.first_rule" 2 2 fA
open PL.lQ in
structure Dy(c:Ctx)(T:Tab):Prop where
 cell:f9 c T "_law_cell" 2 0 PL.so.lP
 mix:f9 c T "_law_mix" 2 1 PL.so.nE
 all:f9 c T "_law_all" 0 1 PL.so.nF
 no:f9 c T "_law_nothing" 1 0 ja
 be:f9 c T "_law_behind" 2 4 jY
 re:f9 c T "_law_rests" 2 3 kI
 ed:f9 c T "_law_ends" 1 0 oO
 f1:f9 c T "_law_first" 2 3 PL.ug.kN
 sm:f9 c T "_law_small" 3 3 kJ
 tr:f9 c T "_law_trees" 4 3 kK
 tx:f9 c T "_law_text" 3 0 lT
 wh:f9 c T "_law_whole" 1 0 PL.D1.kP
 nb:f9 c T "_law_numbered" 2 4 PL.D1.iN
 ap:f9 c T "_law_apart" 3 6 PL.D1.kQ
open PL.ug in
structure WX(c:Ctx)(T:Tab):Prop where
 tb:f9 c T "table_of" 1 0 nG
 ti:f9 c T "Table.__init__" 3 0 kL
 go:f9 c T "Table.goes" 3 0 kM
 fi:f9 c T "Table.first" 2 2 jZ
 sz:f9 c T "Table.size" 1 0 PL.D1.kO
 sp:f9 c T "spread" 1 7 rD
 st:f9 c T "smallest" 1 5 nH
 wn:f9 c T "with_nowhere" 1 1 jb
 ro:f9 c T "rounds" 2 3 rE
 pa:f9 c T "parted" 3 3 rF
 nu:f9 c T "numbered" 1 1 nI
 te:f9 c T "telling_signs" 1 2 iM
open PL PL.lQ in
theorem Bz(us:List U)(S:bJ)(Q:KU)(h:EB D f us S Q):us.length=1:=by
 let#[_,rfl,_]:=h;rfl
open PL PL.lQ in
theorem xY(us:List U)(S:bJ)(Q:KU)(h:gU D us S Q):us.length=2:=by
 let#[_,_,_,_,_,_,rfl,_]:=h;rfl
open PL PL.lQ in
theorem uJ(W:SE c T)(B:Base c T kx)(G:GS c T kx Γ j)(k:Nat)(hk:k<=10)(D:Tr->Prop)(hD:∀t,bS t<=k->Bm t->D t)(hp:Γ "place_text"=NC)(hw:Γ "written"=EB D wr):
  ∃Γ',GS c T kx Γ' (j+8)/\Γ' "place_text"=NC/\Γ' "written"=EB (λt=>bS t<=k\/(Bm t/\bS t<=k+1)) wr:=by
 have g1:=W.atom.up B G (RX _ k D hD hp hw) Bz;have g2:=W.rep.up B g1 (RY _ k hk bH) Bz;have g3:=W.row.up B g2 (RZ _ k bH) Bz;have g4:=W.written.up B g3 (R6 _ k bH) Bz;exact#[_,g4,hp,bH]
open PL PL.lQ in
theorem WY(R:Gn c T)(W:SE c T)(B:Base c T kx)(G:GS c T kx Γ j):∃Γ',GS c T kx Γ' (j+50)/\Γ' "written"=EB (λt=>bS t<=3\/(Bm t/\bS t<=3+1)) wr:=by
 have a0:=R.C9.up B G (vC _) len_T;have a1:=W.sign.up B a0 (V0 _) (λus S Q h=>by let#[_,_,rfl,_]:=h;rfl);have a2:=W.ZR.up B a1 (V2 _ bH) (λus S Q h=>by let#[_,rfl,_]:=h;rfl);have a3:=W.runs.up B a2 (V4 _) (λus S Q h=>by let#[_,rfl,_]:=h;rfl);have a4:=W.items.up B a3 (V6 _ rfl rfl) (λus S Q h=>by let#[_,rfl,_]:=h;rfl);have a5:=W.guarded.up B a4 (V8 _) (λus S Q h=>by let#[_,_,rfl,_]:=h;rfl);have a6:=W.texts.up B a5 (Wa _ rfl rfl rfl) (λus S Q h=>by let#[_,rfl,_]:=h;rfl);have a7:=W.place.up B a6 (Wb _ rfl rfl rfl) (λus S Q h=>by let#[_,rfl,_]:=h;rfl);have a8:=W.written.up B a7 (sp:=EB (λ_=>False) wr) (λus S Q h=>by let#[_,_,h,_]:=h;exact h.elim) Bz;let#[Γ1,G1,p1,w1]:=uJ W B a8 0 ∅ _ (λt d r=>by cases t<;>first|exact r.elim|exact absurd d (Nat.not_succ_le_zero _)) rfl bH;obtain⟨Γ2,G2,p2,w2⟩:=uJ W B G1 1 ∅ _ (λt d r=>.inr #[r,d]) p1 w1;obtain⟨Γ3,G3,p3,w3⟩:=uJ W B G2 2 ∅ _ (λt d r=>.inr #[r,d]) p2 w2;obtain⟨Γ4,G4,p4,w4⟩:=uJ W B G3 3 ∅ _ (λt d r=>.inr #[r,d]) p3 w3;exact#[Γ4,G4,w4]
section
open PL PL.lQ
structure GP(Γ:bZ):Prop where
 mem:Γ "members"=Be
 pt:Γ "Part.__init__"=zd
 beh:Γ "one_behind_other"=qC sY
 or_:Γ "one_or_other"=qC Vs
 li:Γ "Layout.__init__"=RB
 hm:Γ "Layout.how_many"=RC
 cr:Γ "Layout.close_rule"=RD
 lk:Γ "Layout.link"=JF
 lp:Γ "Layout.lay_place"=gU λt u=>∃n l,t=.one n l/\u=.str l
variable{c:Ctx}{T:Tab}{Γ:bZ}{j kx:Nat}
theorem N2(P:zG c T)(B:Base c T kx)(G:GS c T kx Γ j):∃Γ',GS c T kx Γ' (j+20)/\GP Γ'/\Γ' "Layout.lay"=gU (Tu 0):=by
 have g1:=P.mem.up B G (Ry _) (λus S Q h=>by let#[_,rfl,_]:=h;rfl);have g2:=P.pt.up B g1 (Vr _) (λus S Q h=>by let#[_,_,_,_,rfl,_]:=h;rfl);have g3:=P.beh.up B g2 (Rz _ bH) (λus S Q h=>by let#[_,_,_,_,_,_,_,_,rfl,_]:=h;rfl);have g4:=P.or_.up B g3 (Vt _ rfl) (λus S Q h=>by let#[_,_,_,_,_,_,_,_,rfl,_]:=h;rfl);have g5:=P.li.up B g4 (Vu _) (λus S Q h=>by let#[_,rfl,_]:=h;rfl);have g6:=P.hm.up B g5 (Vv _) (λus S Q h=>by let#[_,_,_,_,rfl,_]:=h;rfl);have g7:=P.cr.up B g6 (Vw _) (λus S Q h=>by let#[_,_,_,_,_,_,_,_,_,_,rfl,_]:=h;rfl);have g8:=P.lk.up B g7 (Vy _ rfl) (λus S Q h=>by let#[_,_,_,_,_,_,rfl,_]:=h;rfl);have g9:=P.lp.up B g8 (Vz _ rfl) xY;have ga:=P.lay.up B g9 (sp:=gU (Tu 0)) (λus S Q h=>by let#[_,_,_,_,_,_,_,h,_]:=h;erw[absurd h.1 (cZ _)]) xY;exact#[_,ga,#[rfl,rfl,rfl,rfl,rfl,rfl,rfl,rfl,rfl],bH]
theorem sd(P:zG c T)(B:Base c T kx)(G:GS c T kx Γ j)(g:GP Γ)(d:Nat)(hd:d<=100)(hl:Γ "Layout.lay"=gU (Tu d)):∃Γ',GS c T kx Γ' (j+8)/\GP Γ'/\Γ' "Layout.lay"=gU (Tu (d+1)):=by
 let#[e1,e2,e3,e4,e5,e6,e7,e8,e9]:=g;have g1:=P.lr.up B G (VC _ d e2 hl e8 e3) xY;have g2:=P.lc.up B g1 (VD _ d e2 hl e4) xY;have g3:=P.lq.up B g2 (VE _ d hd e2 hl e8) xY;have g4:=P.lay.up B g3 (RH _ d e9 rfl rfl rfl) xY;exact#[_,g4,#[e1,e2,e3,e4,e5,e6,e7,e8,e9],bH]
theorem WZ(P:zG c T)(B:Base c T kx)(G:GS c T kx Γ j):∃Γ',GS c T kx Γ' (j+75)/\GP Γ'/\Γ' "Layout.lay"=gU (Tu 4)/\Γ' "Places.__init__"=JI/\Γ' "Places.beyond"=JJ/\Γ' "Places.first_rule"=JK:=by
 let#[Γ0,G0,p0,l0]:=N2 P B G;let#[Γ1,G1,p1,l1]:=sd P B G0 p0 0 ∅ l0;let#[Γ2,G2,p2,l2]:=sd P B G1 p1 1 ∅ l1;let#[Γ3,G3,p3,l3]:=sd P B G2 p2 2 ∅ l2;let#[Γ4,G4,p4,l4]:=sd P B G3 p3 3 ∅ l3;let#[e1,e2,e3,e4,e5,e6,e7,e8,e9]:=p4;have g1:=P.us.up B G4 (VG _ e1) (λus S Q h=>by let#[_,_,_,_,rfl,_]:=h;rfl);have g2:=P.ptt.up B g1 (RI _) (λus S Q h=>by let#[_,_,_,_,_,rfl,_]:=h;rfl);have g3:=P.pi.up B g2 (VI _ rfl bH) (λus S Q h=>by let#[_,_,_,_,_,rfl,_]:=h;rfl);have g4:=P.Sr.up B g3 (VJ _ e1) (λus S Q h=>by let#[_,_,_,_,_,rfl,_]:=h;rfl);have g5:=P.fr.up B g4 (VL _) (λus S Q h=>by let#[_,_,_,_,_,rfl,_]:=h;rfl);exact#[_,g5.mono ∅,#[e1,e2,e3,e4,e5,e6,e7,e8,e9],l4,rfl,rfl,bH]
open PL.ug in
theorem W0(W:WX c T)(B:Base c T kx)(G:GS c T kx Γ j)(h1:Γ "Places.beyond"=JJ)(h2:Γ "Places.first_rule"=JK)(g:GP Γ)(h3:Γ "Layout.lay"=gU (Tu 4))(h4:Γ "Places.__init__"=JI):∃Γ',GS c T kx Γ' (j+25)/\GP Γ'/\Γ' "Layout.lay"=gU (Tu 4)/\Γ' "Places.__init__"=JI/\Γ' "spread"=Sk/\Γ' "smallest"=Sq/\Γ' "Table.first"=Kj/\Γ' "Table.goes"=zA/\Γ' "Table.size"=NT:=by
 let#[e1,e2,e3,e4,e5,e6,e7,e8,e9]:=g;have g1:=W.nu.up B G (R8 _) (λus S Q h=>by let#[_,rfl,_]:=h;rfl);have g2:=W.te.up B g1 (R9 _) (λus S Q h=>by let#[_,_,_,rfl,_]:=h;rfl);have g3:=W.wn.up B g2 (Wh _) (λus S Q h=>by let#[_,_,_,rfl,_]:=h;rfl);have g4:=W.pa.up B g3 (Sd _ rfl) (λus S Q h=>by let#[_,_,_,_,_,_,_,rfl,_]:=h;rfl);have g5:=W.ro.up B g4 (Wm _ rfl rfl bH) (λus S Q h=>by let#[_,_,_,_,rfl,_]:=h;rfl);have g6:=W.ti.up B g5 (Wn _) (λus S Q h=>by let#[_,_,_,_,rfl,_]:=h;rfl);have g7:=W.go.up B g6 (Wo _) (λus S Q h=>by let#[_,_,_,_,_,_,rfl,_]:=h;rfl);have g8:=W.fi.up B g7 (Wq _ bH) (λus S Q h=>by let#[_,_,_,_,_,rfl,_]:=h;rfl);have g8:=W.sz.up B g8 (WB _) (λus S Q h=>by let#[_,_,_,_,rfl,_]:=h;rfl);have g9:=W.sp.up B g8 (Wt _ h1 h2 rfl) (λus S Q h=>by let#[_,_,_,_,_,rfl,_]:=h;rfl);have ga:=W.st.up B g9 (Wu _ rfl rfl rfl) (λus S Q h=>by let#[_,_,_,_,_,rfl,_]:=h;rfl);exact#[_,ga.mono ∅,#[e1,e2,e3,e4,e5,e6,e7,e8,e9],h3,h4,rfl,bH,rfl,rfl,rfl]
theorem se(L:Dy c T)(B:Base c T kx)(G:GS c T kx Γ j)(d:Nat)(hd:d<=100)(h1:Γ "_law_nothing"=zk d)(h2:Γ "_law_behind"=Dk d):∃Γ',GS c T kx Γ' (j+4)/\Γ' "_law_nothing"=zk (d+1)/\Γ' "_law_behind"=Dk (d+1):=by
 have g1:=L.be.up B G (VT _ d hd h2 h1) (λus S Q h=>by let#[_,_,rfl,_]:=h;rfl);have g2:=L.no.up B g1 (VS _ d h1) (λus S Q h=>by let#[_,rfl,_]:=h;rfl);exact#[_,g2,bH,rfl]
theorem W2(L:Dy c T)(B:Base c T kx)(G:GS c T kx Γ j):∃Γ',GS c T kx Γ' (j+60)/\Γ' "_law_mix"=so.tU/\Γ' "_law_trees"=RT/\Γ' "_law_text"=JV/\Γ' "_law_first"=PL.ug.Kn/\Γ' "_law_all"=so.Bb:=by
 have a1:=L.no.up B G (sp:=zk 0) (λus S Q h=>by
  obtain⟨_,_,⟨_,_,h,_⟩|⟨_,_,h,_⟩⟩:=h
  .erw[absurd h (cZ _)]
  .erw[absurd h (cZ _)]) (λus S Q h=>by let#[_,rfl,_]:=h;rfl)
 have a2:=L.be.up B a1 (sp:=Dk 0) (λus S Q h=>by
  obtain⟨_,_,_,⟨_,_,h,_⟩|⟨_,_,h,_⟩⟩:=h
  .erw[absurd h (cZ _)]
  .erw[absurd h (cZ _)]) (λus S Q h=>by let#[_,_,rfl,_]:=h;rfl)
 let#[Γ1,G1,n1,b1]:=se L B a2 0 ∅ rfl bH;let#[Γ2,G2,n2,b2]:=se L B G1 1 ∅ n1 b1;let#[Γ3,G3,n3,b3]:=se L B G2 2 ∅ n2 b2;let#[Γ4,G4,n4,b4]:=se L B G3 3 ∅ n3 b3;let#[Γ5,G5,n5,b5]:=se L B G4 4 ∅ n4 b4;have c1:=L.cell.up B G5 (sp:=so.De) (so.Np _) (λus S Q h=>by let#[_,_,rfl,_]:=h;rfl);have c2:=L.mix.up B c1 (sp:=so.tU) (so.Rr _ bH) (λus S Q h=>by let#[_,_,rfl,_]:=h;rfl);have c3:=L.all.up B c2 (sp:=so.Bb) (so.Rt _) (λus S Q h=>by let#[rfl,_]:=h;rfl);have c4:=L.sm.up B c3 (sp:=NF 0) (λus S Q h=>by let#[_,_,_,_,_,h,_]:=h;erw[absurd h (cZ _)]) (λus S Q h=>by let#[_,_,_,rfl,_]:=h;rfl);have c5:=L.sm.up B c4 (JU _ 0 rfl rfl bH) (λus S Q h=>by let#[_,_,_,rfl,_]:=h;rfl);have c6:=L.sm.up B c5 (JU _ 1 rfl rfl bH) (λus S Q h=>by let#[_,_,_,rfl,_]:=h;rfl);have c7:=L.sm.up B c6 (JU _ 2 rfl rfl bH) (λus S Q h=>by let#[_,_,_,rfl,_]:=h;rfl);have c8:=L.tr.up B c7 (Wc _ bH n5) (λus S Q h=>by let#[_,_,_,_,rfl,_]:=h;rfl);have c9:=L.tx.up B c8 (Wd _ rfl) (λus S Q h=>by let#[_,_,_,rfl,_]:=h;rfl);have cc:=L.re.up B c9 (VX _ b5) (λus S Q h=>by let#[_,_,_,_,_,_,rfl,_]:=h;rfl);have cd:=L.ed.up B cc (VZ _ n5) (λus S Q h=>by let#[_,_,_,_,rfl,_]:=h;rfl);have ce:=L.f1.up B cd (PL.ug.Wy _ rfl bH) (λus S Q h=>by let#[_,_,_,rfl,_]:=h;rfl);exact#[_,ce.mono ∅,rfl,rfl,rfl,bH,rfl]
theorem zH(l:List String)(G1:GS c T kx Γ1 j)(G2:GS c T kx Γ2 j):GS c T kx (λx=>if x∈l then Γ1 x else Γ2 x) j:=#[G1.le,gy.mix G1.ok G2.ok λx=>by
 by_cases h:x∈l
 .erw[.inl (if_pos h)]
 .erw[.inr (if_neg h)]]
theorem Kw{xs qual:Str}{st:Stmt}{f:Addr}{fd:fF}{N ps:List Str}(R:Gn c T)(W:SE c T)(P:zG c T)(Tb:WX c T)(L:Dy c T)(F:KO c.K xs qual st f fd)(S:lI N ps (bU st))(tx:KS T 60 #[(bU st).names,N,true] (fO st)=some PL.D1.D3)(hm:N.length=ps.length+9)(hp:ps.length=1)(B:Base c T 1)(G:gy c T (λ_=>wG) 1):jq c.P c.w c.K c.mg c.base Cs 200 f fd ps (lift c C5):=by
 have G:GS c T 1 (λ_=>wG) 1:=#[aq _,G]
 obtain⟨Γr,Gr,-,hr,-⟩:=Dw R B G;let#[Γw,Gw,hw]:=WY R W B G;let#[Γq,Gq,gq,ql,qi,qb,qf]:=WZ P B G;let#[Γp,Gp,gp,pl,pi,ps1,pt,pf,pg,pz]:=W0 Tb B Gq qb qf gq ql qi;let#[Γl,Gl,l1,l2,l3,l4,l5]:=W2 L B G;let#[e1,e2,e3,e4,e5,e6,e7,e8,e9]:=gp;have m1:=zH ["read"] Gr (Gp.mono (k:=1+130) ∅);have g1:=P.to.up B m1 (VO _ hr) (λus S Q h=>by let#[_,_,_,_,rfl,_]:=h;rfl);have g2:=P.po.up B g1 (VQ _ e5 pl bH e6 e7 pi) (λus S Q h=>by let#[_,_,_,_,rfl,_]:=h;rfl);have g4:=Tb.tb.up B g2 (PL.ug.Wx _ bH ps1 pt) (λus S Q h=>by let#[_,_,_,rfl,_]:=h;rfl);have m2:=zH ["written"] (Gw.mono (k:=139) ∅) (g4.mono ∅);have m3:=zH ["_law_mix","_law_trees","_law_text","_law_first","_law_all"] (Gl.mono (k:=139) ∅) m2;have n1:=L.wh.up B m3 (PL.ug.WA _) (λus S Q h=>by let#[_,rfl,_]:=h;rfl);have n2:=L.nb.up B n1 (PL.ug.WD _ bH pg l5) (λus S Q h=>by let#[_,_,_,_,rfl,_]:=h;rfl);have n3:=L.ap.up B n2 (PL.ug.WN _ pg) (λus S Q h=>by let#[_,_,_,_,_,_,rfl,_]:=h;rfl);have h:=Oo F S B n3.le n3.ok tx (sp:=C5) (PL.ug.Ks _ l1 l2 l3 hw rfl pf l4 rfl pz rfl bH) hm (λus S Q h=>by let#[_,rfl,_]:=h;erw[hp.symm]);erw[h.mono ∅]
end
end L2
section
set_option autoImplicit false
namespace Dz
open PySem PySem.Spec PyProof.Rows PySem.W L2
noncomputable def top(i:Nat):Stmt:=PySem.Challenge.pw_tokenwright_k20_whole_tables.main.body.getD i (.Pass #[0,0,0,0])
def rows:List oW:=
 #["in_order","in_order","",top 9,["signs"],["signs"],PL.ny]::
 #["all_but","all_but","",top 10,["signs"],["signs"],PL.pB]::
 #["is_ahead","is_ahead","",top 11,["one","other"],["one","other"],PL.nA]::
 #["stretch","stretch","",top 12,["first","last"],["first","last"],PL.pC]::
 #["read","read","",top 17,["text","reader","tree"],["text"],PL.yM]::
 #["joined","joined","",top 18,["kind","trees"],["kind","trees"],PL.rC]::
 #["Reader.__init__","__init__","Reader",inClass (top 19) 0,["self","text"],["self","text"],PL.jO]::
 #["Reader.sees","sees","Reader",inClass (top 19) 1,["self","signs"],["self","signs"],PL.jP]::
 #["Reader.passes","passes","Reader",inClass (top 19) 2,["self","signs"],["self","signs"],PL.iH]::
 #["Reader.choice","choice","Reader",inClass (top 19) 3,["self","trees"],["self"],PL.iI]::
 #["Reader.row","row","Reader",inClass (top 19) 4,["self","trees"],["self"],PL.kF]::
 #["Reader.repeat","repeat","Reader",inClass (top 19) 5,["self","tree"],["self"],PL.iJ]::
 #["Reader.atom","atom","Reader",inClass (top 19) 6,["self"],["self"],PL.jQ]::
 #["Reader.bracket","bracket","Reader",inClass (top 19) 7,["self","tree"],["self"],PL.gY]::
 #["Reader.sign_class","sign_class","Reader",inClass (top 19) 8,["self","turned","taken"],["self"],PL.fm]::
 #["Reader.item","item","Reader",inClass (top 19) 9,["self","first","second_at","second"],["self"],PL.jR]::
 #["Reader.written_sign","written_sign","Reader",inClass (top 19) 10,["self","marked","sign"],["self","marked"],PL.d8]::
 #["written","written","",top 46,["tree"],["tree"],PL.pD]::
 #["row_text","row_text","",top 47,["tree"],["tree"],PL.nB]::
 #["repeat_text","repeat_text","",top 48,["tree","marks","inner"],["tree"],PL.jS]::
 #["atom_text","atom_text","",top 49,["tree"],["tree"],PL.lM]::
 #["place_text","place_text","",top 50,["signs"],["signs"],PL.kG]::
 #["sign_text","sign_text","",top 51,["sign","marked"],["sign","marked"],PL.lN]::
 #["class_texts","class_texts","",top 52,["signs","texts"],["signs"],PL.jT]::
 #["guarded","guarded","",top 53,["items"],["items"],PL.pE]::
 #["class_items","class_items","",top 54,["signs","items","run"],["signs"],PL.jU]::
 #["runs","runs","",top 55,["signs","found","run","sign"],["signs"],PL.yN]::
 #["run_items","run_items","",top 56,["run","singles","whole"],["run"],PL.lO]::
 #["places_of","places_of","",top 23,["rules","most","layout","number","rule","part"],["rules","most"],PL.lQ.lR]::
 #["tree_of","tree_of","",top 24,["rule","number","fault"],["rule","number"],PL.lQ.pF]::
 #["members","members","",top 25,["bits"],["bits"],PL.lQ.pG]::
 #["Part.__init__","__init__","Part",inClass (top 26) 0,["self","empty","firsts","lasts"],["self","empty","firsts","lasts"],PL.lQ.lS]::
 #["one_behind_other","one_behind_other","",top 27,["one","other","firsts","lasts"],["one","other"],PL.lQ.fQ]::
 #["one_or_other","one_or_other","",top 28,["one","other"],["one","other"],PL.lQ.i9]::
 #["Layout.__init__","__init__","Layout",inClass (top 29) 0,["self"],["self"],PL.lQ.jV]::
 #["Layout.how_many","how_many","Layout",inClass (top 29) 1,["self"],["self"],PL.lQ.gw]::
 #["Layout.close_rule","close_rule","Layout",inClass (top 29) 2,["self","part"],["self","part"],PL.lQ.fq]::
 #["Layout.link","link","Layout",inClass (top 29) 3,["self","lasts","firsts","place"],["self","lasts","firsts"],PL.lQ.jW]::
 #["Layout.lay","lay","Layout",inClass (top 29) 4,["self","tree"],["self","tree"],PL.lQ.kH]::
 #["Layout.lay_place","lay_place","Layout",inClass (top 29) 5,["self","signs","place"],["self","signs"],PL.lQ.fS]::
 #["Layout.lay_row","lay_row","Layout",inClass (top 29) 6,["self","trees","whole","tree","part"],["self","trees"],PL.lQ.gZ]::
 #["Layout.lay_choice","lay_choice","Layout",inClass (top 29) 7,["self","trees","whole","tree"],["self","trees"],PL.lQ.fu]::
 #["Layout.lay_repeat","lay_repeat","Layout",inClass (top 29) 8,["self","tree","marks","inner","part","empty"],["self","tree"],PL.lQ.fw]::
 #["useful_places","useful_places","",top 30,["layout","takes_some","grown","lasts","useful","place"],["layout"],PL.lQ.iK]::
 #["places_that_take","places_that_take","",top 31,["layout","sign"],["layout","sign"],PL.lQ.fT]::
 #["Places.__init__","__init__","Places",inClass (top 32) 0,["self","layout","useful"],["self","layout"],PL.lQ.jX]::
 #["Places.beyond","beyond","Places",inClass (top 32) 1,["self","held","reached","place"],["self","held"],PL.lQ.iL]::
 #["Places.first_rule","first_rule","Places",inClass (top 32) 2,["self","held","number","lasts"],["self","held"],PL.lQ.fA]::
 #["table_of","table_of","",top 35,["rules"],["rules"],PL.ug.nG]::
 #["Table.__init__","__init__","Table",inClass (top 36) 0,["self","told","rows"],["self","told","rows"],PL.ug.kL]::
 #["Table.goes","goes","Table",inClass (top 36) 2,["self","state","sign"],["self","state","sign"],PL.ug.kM]::
 #["Table.first","first","Table",inClass (top 36) 3,["self","text","state","sign"],["self","text"],PL.ug.jZ]::
 #["Table.size","size","Table",inClass (top 36) 1,["self"],["self"],PL.D1.kO]::
 #["spread","spread","",top 37,["places","lots","numbers","rows","reach","row","sign","held"],["places"],PL.ug.rD]::
 #["smallest","smallest","",top 38,["table","blocks","told","rows","state","row"],["table"],PL.ug.nH]::
 #["with_nowhere","with_nowhere","",top 39,["rows","nowhere"],["rows"],PL.ug.jb]::
 #["rounds","rounds","",top 40,["told","rows","signs","found","finer"],["told","rows"],PL.ug.rE]::
 #["parted","parted","",top 41,["blocks","rows","signs","keys","state","row"],["blocks","rows","signs"],PL.ug.rF]::
 #["numbered","numbered","",top 42,["keys","numbers"],["keys"],PL.ug.nI]::
 #["telling_signs","telling_signs","",top 43,["rows","firsts","sign"],["rows"],PL.ug.iM]::
 #["_law_cell","_law_cell","",top 58,["_law_script","_law_k"],["_law_script","_law_k"],PL.so.lP]::
 #["_law_mix","_law_mix","",top 59,["_law_script","_law_k","_law_number"],["_law_script","_law_k"],PL.so.nE]::
 #["_law_all","_law_all","",top 62,["_law_low"],[],PL.so.nF]::
 #["_law_nothing","_law_nothing","",top 63,["_law_tree"],["_law_tree"],PL.lQ.ja]::
 #["_law_behind","_law_behind","",top 64,["_law_tree","_law_sign","_law_found","_law_part","_law_k","_law_more_here"],["_law_tree","_law_sign"],PL.lQ.jY]::
 #["_law_rests","_law_rests","",top 65,["_law_rows","_law_sign","_law_found","_law_row","_law_rest"],["_law_rows","_law_sign"],PL.lQ.kI]::
 #["_law_ends","_law_ends","",top 66,["_law_rows"],["_law_rows"],PL.lQ.oO]::
 #["_law_first","_law_first","",top 69,["_law_trees_here","_law_text_here","_law_k","_law_rows","_law_sign"],["_law_trees_here","_law_text_here"],PL.ug.kN]::
 #["_law_small","_law_small","",top 72,["_law_script","_law_base","_law_deep","_law_number","_law_way","_law_parts"],["_law_script","_law_base","_law_deep"],PL.lQ.kJ]::
 #["_law_trees","_law_trees","",top 73,["_law_script","_law_base","_law_many","_law_deep","_law_found","_law_k","_law_tree"],["_law_script","_law_base","_law_many","_law_deep"],PL.lQ.kK]::
 #["_law_text","_law_text","",top 74,["_law_script","_law_base","_law_many"],["_law_script","_law_base","_law_many"],PL.lQ.lT]::
 #["_law_whole","_law_whole","",top 60,["_law_found"],["_law_found"],PL.D1.kP]::
 #["_law_numbered","_law_numbered","",top 75,["_law_table","_law_many","_law_found","_law_state","_law_sign","_law_to"],["_law_table","_law_many"],PL.D1.iN]::
 #["_law_apart","_law_apart","",top 76,["_law_table","_law_one_here","_law_other","_law_known","_law_at","_law_pair","_law_takes","_law_sign","_law_behind_here"],["_law_table","_law_one_here","_law_other"],PL.D1.kQ]::[]
def T:Tab where
 const:=[("SIGNS",.str PL.SG),("MARKED_OUTSIDE",.str [46,124,40,41,91,93,42,43,63,92]),("MARKED_WITHIN",.str [93,45,92]),("DEEPEST",.int 6),("REPEATS",.tab [([42],[115,116,97,114]),([43],[112,108,117,115]),([63],[109,97,121,98,101])]),("BEHIND_BACKSLASH",.str [46,124,40,41,91,93,42,43,63,92,45,94,110]),("MOST_RULES",.int 6),("AHEAD",.int 1),("MOST_PLACES",.int 10),("MARKS",.tab [([115,116,97,114],[42]),([112,108,117,115],[43]),([109,97,121,98,101],[63])])]
 fns:=Ku rows
 qy:=["Reader","Part","Layout","Places","Table"]
 qz:=Kv rows
 yO:=["text","at","depth","rule","empty","firsts","lasts","signs","behind","ends","takers","takes","told","rows"]
 iQ:=["len","tuple","list","int","bool","dict","sum","min","max","all","any","isinstance","range","enumerate"]
theorem ZS:rows.all Gu=true:=by decide +kernel
theorem ZT:rows.all (Sz T)=true:=by decide +kernel
theorem ZU:rows.map (λr=>KS T 60 #[(bU r.st).names,r.N,true] (fO r.st))=rows.map λr=>some r.b:=by kernel_rfl
theorem W3:∀r∈rows,zF r:=by
 unfold rows
 repeat' refine aW.mpr #[?_,?_]
 all_goals first|exact λ_ h=>(cv h).elim|exact bd1 rfl λ_ _ _ _ _ _ _ _ _=>rfl|exact bd2 rfl λ_ _ _ _ _ _ _ _ _ _=>rfl|exact bd3 rfl λ_ _ _ _ _ _ _ _ _ _ _=>rfl|exact bd0 rfl λ_ _ _ _ _ _ _ _=>rfl|exact bd4 rfl λ_ _ _ _ _ _ _ _ _ _ _ _=>rfl
abbrev sL:Stmt:=top 77
theorem SF:lI ["_law_script","_law_trees_here","_law_table","_law_many","_law_k","_law_text_here","_law_due","_law_found","_law_one_here","_law_other"] ["_law_script"] (bU sL):=#[rfl,rfl,rfl,by decide +kernel,rfl,by decide +kernel,by decide +kernel]
theorem SH:KS T 60 #[(bU sL).names,["_law_script","_law_trees_here","_law_table","_law_many","_law_k","_law_text_here","_law_due","_law_found","_law_one_here","_law_other"],true] (fO sL)=some PL.D1.D3:=by kernel_rfl
end Dz
end
section
set_option autoImplicit true
namespace Dz
open PySem PySem.Spec PyProof.Rows PySem.W L2
theorem all_mk{l:Ha}{w:cy}{K:Frag}{h:Heap}{mg:Str->Option Value}{fa:Addr}(X:K.In h)(G:h.Ns bI mg)(hfa:mg "law"=some (.ref fa))
  (a_law:nsIn K bI "law"=some (some (.ref fl)))
  (f_law:Gs K "law" "law" sL fl)
  (hC:∀p∈([("Reader",C_Reader),("Part",C_Part),("Layout",C_Layout),("Places",C_Places),("Table",C_Table)]:List (String×Addr)),NZ K p T.yO)
  (hR:∀r∈rows,Bx K [("Reader",C_Reader),("Part",C_Part),("Layout",C_Layout),("Places",C_Places),("Table",C_Table)] r)
  (a_SIGNS:nsIn K bI "SIGNS"=some (some (.str z_SIGNS t_SIGNS)))
  (e_SIGNS:z_SIGNS=tx PL.SG)
  (a_MARKED_OUTSIDE:nsIn K bI "MARKED_OUTSIDE"=some (some (.str z_MARKED_OUTSIDE t_MARKED_OUTSIDE)))
  (e_MARKED_OUTSIDE:z_MARKED_OUTSIDE=tx [46,124,40,41,91,93,42,43,63,92])
  (a_MARKED_WITHIN:nsIn K bI "MARKED_WITHIN"=some (some (.str z_MARKED_WITHIN t_MARKED_WITHIN)))
  (e_MARKED_WITHIN:z_MARKED_WITHIN=tx [93,45,92])
  (a_DEEPEST:nsIn K bI "DEEPEST"=some (some (.int 6 t_DEEPEST)))
  (a_REPEATS:nsIn K bI "REPEATS"=some (some (.ref r_REPEATS)))
  (l_REPEATS:K.lookup r_REPEATS=some #[.type "dict",none,.dict es_REPEATS ec_REPEATS,#[]])
  (kl_REPEATS:BJ w.params es_REPEATS.toList)
  (ky_REPEATS:es_REPEATS.toList.map (λe=>Gv e.key)= [some ("*":Str),some ("+":Str),some ("?":Str)])
  (sm_REPEATS:(r_REPEATS==b7)=false)
  (r_REPEATS0:nsIn K r_REPEATS "*"=some (some (.str z_REPEATS0 t_REPEATS0)))
  (re_REPEATS0:z_REPEATS0=tx [115,116,97,114])
  (r_REPEATS1:nsIn K r_REPEATS "+"=some (some (.str z_REPEATS1 t_REPEATS1)))
  (re_REPEATS1:z_REPEATS1=tx [112,108,117,115])
  (r_REPEATS2:nsIn K r_REPEATS "?"=some (some (.str z_REPEATS2 t_REPEATS2)))
  (re_REPEATS2:z_REPEATS2=tx [109,97,121,98,101])
  (a_BEHIND_BACKSLASH:nsIn K bI "BEHIND_BACKSLASH"=some (some (.str z_BEHIND_BACKSLASH t_BEHIND_BACKSLASH)))
  (e_BEHIND_BACKSLASH:z_BEHIND_BACKSLASH=tx [46,124,40,41,91,93,42,43,63,92,45,94,110])
  (a_MOST_RULES:nsIn K bI "MOST_RULES"=some (some (.int 6 t_MOST_RULES)))
  (a_AHEAD:nsIn K bI "AHEAD"=some (some (.int 1 t_AHEAD)))
  (a_MOST_PLACES:nsIn K bI "MOST_PLACES"=some (some (.int 10 t_MOST_PLACES)))
  (a_MARKS:nsIn K bI "MARKS"=some (some (.ref r_MARKS)))
  (l_MARKS:K.lookup r_MARKS=some #[.type "dict",none,.dict es_MARKS ec_MARKS,#[]])
  (kl_MARKS:BJ w.params es_MARKS.toList)
  (ky_MARKS:es_MARKS.toList.map (λe=>Gv e.key)= [some ("star":Str),some ("plus":Str),some ("maybe":Str)])
  (sm_MARKS:(r_MARKS==b7)=false)
  (r_MARKS0:nsIn K r_MARKS "star"=some (some (.str z_MARKS0 t_MARKS0)))
  (re_MARKS0:z_MARKS0=tx [42])
  (r_MARKS1:nsIn K r_MARKS "plus"=some (some (.str z_MARKS1 t_MARKS1)))
  (re_MARKS1:z_MARKS1=tx [43])
  (r_MARKS2:nsIn K r_MARKS "maybe"=some (some (.str z_MARKS2 t_MARKS2)))
  (re_MARKS2:z_MARKS2=tx [63])
  (hz:∀b∈T.iQ,nsIn K bI (b9 b)=some none)
  : ∃fd:fF,(∀(s:aC)(v:Value),BE s fd #[[v],[]] [("_law_script",v)])/\∀base:Heap,K.In base->base.Ns bI mg->jq l.prog w K mg base Cs 200 fa fd ["_law_script"] (yV K):=by
 have e:=hfa.symm.trans (qK X G a_law);cases e;let#[oc,od,kV,dc,pm,an,cd,ct,sl,h1,h2,h3]:=f_law;refine#[fnOf "law" "law" (lJ sL) (fO sL) (bU sL) .none kV dc pm an cd ct,λs v=>.of_eq rfl,λbase _ _=>?_]
 let c:L2.Ctx:=#[l.prog,w,K,mg,base,λx=>([("Reader",C_Reader),("Part",C_Part),("Layout",C_Layout),("Places",C_Places),("Table",C_Table)]:List (String×Addr)).lookup x]
 have hT:IV c T:=by
  refine#[?_,λx hx=>mg_none_of X G (hz x hx),SD rfl hC]
  .exact(aW.mpr #[uI (qK X G a_SIGNS) e_SIGNS,(aW.mpr #[uI (qK X G a_MARKED_OUTSIDE) e_MARKED_OUTSIDE,(aW.mpr #[uI (qK X G a_MARKED_WITHIN) e_MARKED_WITHIN,(aW.mpr #[#[.int 6,_,qK X G a_DEEPEST,#[t_DEEPEST,rfl],λ_ _=>aP.mpr rfl],(aW.mpr #[WW (qK X G a_REPEATS) l_REPEATS kl_REPEATS ky_REPEATS sm_REPEATS (by kernel_rfl:("*":Str)=tx [42]) (by kernel_rfl:("+":Str)=tx [43]) (by kernel_rfl:("?":Str)=tx [63]) r_REPEATS0 re_REPEATS0 r_REPEATS1 re_REPEATS1 r_REPEATS2 re_REPEATS2,(aW.mpr #[uI (qK X G a_BEHIND_BACKSLASH) e_BEHIND_BACKSLASH,(aW.mpr #[#[.int 6,_,qK X G a_MOST_RULES,#[t_MOST_RULES,rfl],λ_ _=>aP.mpr rfl],(aW.mpr #[#[.int 1,_,qK X G a_AHEAD,#[t_AHEAD,rfl],λ_ _=>aP.mpr rfl],(aW.mpr #[#[.int 10,_,qK X G a_MOST_PLACES,#[t_MOST_PLACES,rfl],λ_ _=>aP.mpr rfl],(aW.mpr #[WW (qK X G a_MARKS) l_MARKS kl_MARKS ky_MARKS sm_MARKS (by kernel_rfl:("star":Str)=tx [115,116,97,114]) (by kernel_rfl:("plus":Str)=tx [112,108,117,115]) (by kernel_rfl:("maybe":Str)=tx [109,97,121,98,101]) r_MARKS0 re_MARKS0 r_MARKS1 re_MARKS1 r_MARKS2 re_MARKS2,(λ_ h=>(cv h).elim)])])])])])])])])])])
 have hB:Base c T 1:=#[hT]
 have G0:gy c T (λ_=>wG) 1:=SA X G rfl hC hR W3 rfl rfl (aW.mpr #[#[rows[6],cC _,rfl,rfl,rfl],(aW.mpr #[#[rows[31],cC _,rfl,rfl,rfl],(aW.mpr #[#[rows[34],cC _,rfl,rfl,rfl],(aW.mpr #[#[rows[45],cC _,rfl,rfl,rfl],(aW.mpr #[#[rows[49],cC _,rfl,rfl,rfl],(λ_ h=>(cv h).elim)])])])])]);have R:=N0 (c:=c) X G rfl hC hR W3 ZS ZT ZU;erw[Nc (Kw #[R 0 _ rfl,R 1 _ rfl,R 2 _ rfl,R 3 _ rfl,R 4 _ rfl,R 5 _ rfl,R 6 _ rfl,R 7 _ rfl,R 8 _ rfl,R 9 _ rfl,R 10 _ rfl,R 11 _ rfl,R 12 _ rfl,R 13 _ rfl,R 14 _ rfl,R 15 _ rfl,R 16 _ rfl] #[R 17 _ rfl,R 18 _ rfl,R 19 _ rfl,R 20 _ rfl,R 21 _ rfl,R 22 _ rfl,R 23 _ rfl,R 24 _ rfl,R 25 _ rfl,R 26 _ rfl,R 27 _ rfl] #[R 28 _ rfl,R 29 _ rfl,R 30 _ rfl,R 31 _ rfl,R 32 _ rfl,R 33 _ rfl,R 34 _ rfl,R 35 _ rfl,R 36 _ rfl,R 37 _ rfl,R 38 _ rfl,R 39 _ rfl,R 40 _ rfl,R 41 _ rfl,R 42 _ rfl,R 43 _ rfl,R 44 _ rfl,R 45 _ rfl,R 46 _ rfl,R 47 _ rfl] #[R 48 _ rfl,R 49 _ rfl,R 50 _ rfl,R 51 _ rfl,R 52 _ rfl,R 53 _ rfl,R 54 _ rfl,R 55 _ rfl,R 56 _ rfl,R 57 _ rfl,R 58 _ rfl,R 59 _ rfl] #[R 60 _ rfl,R 61 _ rfl,R 62 _ rfl,R 63 _ rfl,R 64 _ rfl,R 65 _ rfl,R 66 _ rfl,R 67 _ rfl,R 68 _ rfl,R 69 _ rfl,R 70 _ rfl,R 71 _ rfl,R 72 _ rfl,R 73 _ rfl] (HM h1 h2 h3) SF SH rfl rfl hB G0)]
theorem walk{l:Ha}{q:bO}{loose:List Str}{XP:(Str->Option Value)->Heap->Prop}{YP:cy->Heap->Prop}{d:DefRec}{K:Params->Frag}(hn:l.most=some 63)(hdf:d.params.defaults=[])
  (hY:∀(w:cy)(h:Heap),YP w h->(K w.params).In h)
  (F:∀(w:cy)(mg:Str->Option Value)(fa:Addr)(h:Heap),(K w.params).In h->h.Ns bI mg->mg d.name=some (.ref fa) ->
   ∃fd:fF,(∀(s:aC)(u:Value),BE s fd #[[u],[]] [("_law_script",u)])/\∀base:Heap,(K w.params).In base->base.Ns bI mg->jq l.prog w (K w.params) mg base Cs 200 fa fd ["_law_script"] (yV (K w.params))):
  WalkO q loose XP YP l.row.toRowW d [] (λf vs=>EV f vs):=
 L2.LP (n:=63) (k:=200) (x:="_law_script") (CX:=λ_=>Cs) (sp:=λw=>yV (K w.params)) hn ⋯ hdf #[rfl,⋯,⋯] hY F (λ_ _ a ns hl o hS=>#[a,ns,rfl,hl,Jj o hS,λ_=>rfl]) λ_ _ _ _ _ z=>z
end Dz
end
end Lake
end
section
open Lake
structure PySem.W.Fast:Prop where(tw9165082937492214450 tw16686865562769542452 tw9718898372919686043 tw16372438503340321587 tw11943269320686685140 tw15314384636871780515 tw6484013781188719950 tw7503255660497399554 tw2814084460064235087 tw11895404190560733228 tw1830280123636080683 tw1884956358501243984 tw10718009038069387640 tw11415032878666293679 tw6241414178156787660 tw2593454051040243611 tw6354453899345117532 tw1927625341975312396 tw5306597761134140262 tw3608343079513686435 tw14135617905481178709 tw13686353003351295 tw13658369195108861138 tw1647325634121416489 tw15713187192928964829 tw16930239406367136650 tw16127200009645061580 tw7511860743723449386 tw4809576561086549232 tw15801512593374747724 tw11252197347116255075 tw15597416760519857379 tw15506316309825938754 tw17248571533099257550 tw12802436013230237341 tw13408148985700429797 tw9437011800025236422 tw9483501344078396654 tw13580149871079270041 tw4269601009161450008 tw9846705137381246705 tw14196188863515373844 tw8131658582705256202 tw3139237604488089555 tw1696069726654361377 tw16955701585586391356 tw16600841180578328382 tw9874727522310043955 tw3088991891915585035 tw12664230877352182828 tw6188067926331422927 tw1801997325245903278 tw9439917615029990794 tw10972963619646525513 tw6418360575165921918 tw10050064426631136752 tw9738356162148500318 tw12465299252716074475 tw7809837893221560163 tw1465754737561379193 tw17711318384768642509 tw1165089715392117203 tw16899401750038545134 tw2049696774996048141 tw17814664533035164642 tw8922482487862498055 tw10053231708021085528 tw1024723635714105783 tw5006477461855658583 tw3596729393220458735 tw411242523965336889 tw6698233870178437920 tw4674534815270030124 tw11004767733331969874 tw13012686020032637042 tw4476173077003378860 tw2394510879293950329 tw5377095599593848767 tw4867122421809730864 tw2749582316084471318 tw8535004861021633092 tw10253678679794287458 tw16700638508692659296 tw2381611846165567412 tw1906225719863396033 tw17183452489839738565 tw7722345601327934189 tw14193297702133788905 tw10940140404492806444 tw10849792915434018394 tw6275713060151177224 tw14442162216362174666 tw17569963155410357449 tw11187088262495252382 tw4970236288151043317 tw11110216721947561539 tw15915488711164528282 tw268583235111948418 tw16860161896583638208 tw8336110802739390470 tw3330920760901757107 tw1774942266387594158 tw12666579620033766288 tw10511790031650612910 tw15612785707556002223 tw10254173981899165924 tw7960734416712332643 tw7435265964344683462 tw5707922056659037389 tw862071544996273699 tw3725635859527310929 tw16853958791734390365 tw15057292356555673812 tw12473404441195114608 tw14263161635098350372 tw14711980877255525891 tw11660739554572066709 tw12991403567818073238 tw16649281343976101226 tw1040385473036881458 tw17792376955866659231 tw3696800084974270047 tw13273783519288389094 tw15931042223358043894 tw12032454210647964786 tw4749206967223714649 tw13909926611869405701 tw6190996033369099443 tw13050819519560792864 tw17315833591180645706 tw3232174677558178993 tw7962433884604310078 tw3299105840865790260 tw13449136840087267404 tw17057701671779643184 tw365314976948927303 tw10404972259660911205 tw14951072020870374071 tw16062519095435794776 tw12987462010534690976 tw3346333720404058000 tw14428400490773952698 tw11694421618089149092 tw4529087175204069689 tw4045746394817249696 tw732292622239618962 tw6965514037860469331 tw7092921138555840868 tw18262364086955687555 tw9186985618822945567 tw9473323830917880495 tw1487286873858055878 tw7300331382907078101 tw4211537690626303817 tw527788780630604591 tw18152035087993476714 tw13997580968012361999 tw8015123452995080433 tw9196006682706754093 tw2482338972874382344 tw2129911197559805777 tw13596387953850211888 tw16532900284986973344 tw10409021131381211743 tw4598647265076385188 tw1351930609428031896 tw6661782576726053897 tw17945295017610672668 tw13905010111431624500 tw951796519465742457 tw2945986238432166829 tw10053475158987757840 tw8055162209741368569 tw3345606867184717187 tw1692408231891361747 tw1699434217142799998 tw5139538398210911372 tw16071128280951348742 tw2533101130264614891 tw14358967315526112440 tw11759060906208242421 tw17483255451415437935 tw4314215635253419473 tw14916592487617012783 tw4269907653832369420 tw883543463724250969 tw14873412118131302483 tw5932057922209406232 tw252179621456709139 tw3907380519593072871 tw11463621485546272805 tw8483575071898207585 tw18320922671810407751 tw5291642829444400103 tw16839929376372287155 tw13016879249330798025 tw4744938687953168802 tw12986433785820072115 tw15999722349168605518 tw8811778046002960961 tw10106149671631666083 tw2529621733515793730 tw8637454531553437206 tw6847633560334559547 tw6660258855690212455 tw8638494964144530930 tw12963677520982940983 tw7749498696463017839 tw14410880179543322654 tw421048335888726704 tw4223355367576023971 tw14782778311612982384 tw16849546076033610861 tw5251304518239492704 tw1426532743100493777 tw682334818509457663 tw10910501411457510602 tw11889560309689293383 tw9463886444326969055 tw5765488369564707151 tw13538915769645320019 tw1142788909733105334 tw15118914921841040534 tw2456672341225071597 tw14216002701861156544 tw18196521129092002438 tw15488572824720428016 tw13912405069576332325 tw17580297985734688557 tw3218777510558142303 tw8029090807865765142 tw16992208114128895616 tw14659309210735392865 tw2917333955405960639 tw16087669639537601782 tw13512148079583098635 tw12783490321988473919 tw10240068283656851807 tw5126846790922546669 tw12223740331963452934 tw8110237569045356301 tw11780144041570905996 tw3639942495207317610 tw4632046861120817738 tw16113085807650756574 tw928025848619928302 tw12201233362600774935 tw17413853019835062666 tw16701177173271896426 tw4659725793374019677 tw11824917422444862422 tw10890149356816481272 tw9437217465521475691 tw6010454519365880935 tw17389939822052417674 tw6170733447845750258 tw13168500664465775065 tw8068455315018074181 tw17080235179513179740 tw4025674219825521896 tw9683750900739976783 tw9920302814983234713 tw15767337690335842873 tw3936464152823426058 tw11162503739586561200 tw11613090661374278558 tw7668835958402484046 tw1432664198534740122 tw17816536376525449169 tw9721606470314027379 tw7352349284645151776 tw6152160300454662386 tw2322626960641666593 tw1847323542535357350 tw16076675042962441118 tw15101589051383167557 tw13626234357997639627 tw4250138354599786651 tw4659166405798830887 tw3624725307512304477 tw1263957696947853140 tw16835818793964377378 tw13285661486137572840 tw2624946215263933699 tw16251159753252286367 tw3677830838271197109 tw1688695578886425729 tw3753261961079520382 tw16505149370135503107 tw11411433918219786411 tw10221814850019805339 tw5857728986039453852 tw15280840213844089750 tw14892487134871596287 tw17595584182150621565 tw1332357491236284584 tw16461237334099771617 tw986615193410408851 tw9427659166478361539 tw9331159148595194269 tw7559108200282632509 tw6155801309346357022 tw4744920309297576860 tw378795324497276902 tw3671890702120546275 tw3397035754562777024 tw199558087210168967 tw1845705025418260449 tw14396025208184024866 tw14346536587287737520 tw14289341823105202602 tw12865563209043465999 tw11551220157901266292 tw11196084364441405453 tw10859823274207328102 tw1573782869835488076 tw15210030438292804034 tw11334310318146857787 tw17681618043638681270 tw17211404939315934161 tw15309750055275341822 tw12808766399414044116 tw8219829345230679756 tw812881393025329633 tw8039393642035736986 tw4225381608143887972 tw2552473063446739302 tw17469235563860188408 tw16877545917616613650 tw15724511135136874685 tw13438136281759383137 tw12437949835166075839 tw15478176124138572638 tw129396434474769897 tw8953303190381894160 tw11659504868864910653 tw8734638645990651080 tw5675734748851680335 tw12863930524944908685 tw10674728528252731213 tw6460758513715958436 tw3882426504495732692 tw5627046334707886417 tw13954592688769879833 tw12820752863485090712 tw9195498224220929246 tw9026216245475374774 tw827391531689378659 tw8185687176124105471 tw7474918171440888350 tw5190502490733341676 tw3153895843918190412 tw2165195207857877702 tw16120291302010270616 tw13801482236006429080 tw3687040633073462461 tw2115432443598578050 tw15977067343080347778 tw9633531753074932037 tw9188108352643684587 tw8662605717746377439 tw7968215877328460416 tw7627449043915741607 tw7412351823891931532 tw6691540661815020273 tw6090652234814540595 tw6076488363653221078 tw600102832106496205 tw4279355317251044359 tw2996704528417456601 tw2681772584467165217 tw249079964149392020 tw18384423387283012327 tw18202859761856675427 tw15819457389322335548 tw13636020191564613398 tw11934548028899567714 tw10150776852264223292 tw10015589103693143434 tw4869962508507350249 tw5979574811862488561:True)
open PySem PySem.W PyProof.Rows
set_option maxRecDepth 100000 in
set_option maxHeartbeats 0 in
theorem PySem.Challenge.cw_tokenwright_k20_whole_tables_holds : PySem.Challenge.rw_tokenwright_k20_whole_tables.Holds := by
 w_on;o_law;k_head;(case hw=>w_witness2)
 k_fill
 refine Dz.walk (l:=PySem.Challenge.rw_tokenwright_k20_whole_tables) rfl rfl (fun w h Y=>PySem.W.kIn_of Y) ?F
 case F=>
  intro w mg fa h KX G hmg;refine' Dz.all_mk KX G hmg ?a_law ?f_law ?hC ?hR ?a_SIGNS ?e_SIGNS ?a_MARKED_OUTSIDE ?e_MARKED_OUTSIDE ?a_MARKED_WITHIN ?e_MARKED_WITHIN ?a_DEEPEST ?a_REPEATS ?l_REPEATS ?kl_REPEATS ?ky_REPEATS ?sm_REPEATS ?r_REPEATS0 ?re_REPEATS0 ?r_REPEATS1 ?re_REPEATS1 ?r_REPEATS2 ?re_REPEATS2 ?a_BEHIND_BACKSLASH ?e_BEHIND_BACKSLASH ?a_MOST_RULES ?a_AHEAD ?a_MOST_PLACES ?a_MARKS ?l_MARKS ?kl_MARKS ?ky_MARKS ?sm_MARKS ?r_MARKS0 ?re_MARKS0 ?r_MARKS1 ?re_MARKS1 ?r_MARKS2 ?re_MARKS2 ?hz
  (case a_law=>k_is)
  (case f_law=>exact⟨_,_,_,_,_,_,_,_,_,by k_is,by k_is,by k_is⟩)
  (case hC=>(repeat' refine aW.mpr ⟨?_,?_⟩);all_goals first | exact fun _ h=>(cv h).elim | exact⟨(by(try dsimp only);k_is),⟨(by(try dsimp only);k_is),(by(try dsimp only);k_is),(by(try dsimp only);k_is),(by(try dsimp only);k_is)⟩,(by(try dsimp only);k_is),(by(try dsimp only);k_is),(by kernel_rfl)⟩)
  (case hR=>unfold Dz.rows;(repeat' refine aW.mpr ⟨?_,?_⟩);all_goals first | exact fun _ h=>(cv h).elim | exact .fn (by k_is) ⟨_,_,_,_,_,_,_,_,_,by k_is,by k_is,by k_is⟩ | exact .mt rfl rfl (by k_is) (by k_is) ⟨_,_,_,_,_,_,_,_,_,by k_is,by k_is,by k_is⟩)
  (case a_SIGNS=>k_is)
  (case e_SIGNS=>kernel_rfl)
  (case a_MARKED_OUTSIDE=>k_is)
  (case e_MARKED_OUTSIDE=>kernel_rfl)
  (case a_MARKED_WITHIN=>k_is)
  (case e_MARKED_WITHIN=>kernel_rfl)
  (case a_DEEPEST=>k_is)
  (case a_REPEATS=>k_is)
  (case l_REPEATS=>k_is)
  (case kl_REPEATS=>exact⟨⟨_,_,rfl,rfl⟩,⟨⟨_,_,rfl,rfl⟩,⟨⟨_,_,rfl,rfl⟩,trivial⟩⟩⟩)
  (case ky_REPEATS=>kernel_rfl)
  (case sm_REPEATS=>kernel_rfl)
  (case r_REPEATS0=>k_is)
  (case re_REPEATS0=>kernel_rfl)
  (case r_REPEATS1=>k_is)
  (case re_REPEATS1=>kernel_rfl)
  (case r_REPEATS2=>k_is)
  (case re_REPEATS2=>kernel_rfl)
  (case a_BEHIND_BACKSLASH=>k_is)
  (case e_BEHIND_BACKSLASH=>kernel_rfl)
  (case a_MOST_RULES=>k_is)
  (case a_AHEAD=>k_is)
  (case a_MOST_PLACES=>k_is)
  (case a_MARKS=>k_is)
  (case l_MARKS=>k_is)
  (case kl_MARKS=>exact⟨⟨_,_,rfl,rfl⟩,⟨⟨_,_,rfl,rfl⟩,⟨⟨_,_,rfl,rfl⟩,trivial⟩⟩⟩)
  (case ky_MARKS=>kernel_rfl)
  (case sm_MARKS=>kernel_rfl)
  (case r_MARKS0=>k_is)
  (case re_MARKS0=>kernel_rfl)
  (case r_MARKS1=>k_is)
  (case re_MARKS1=>kernel_rfl)
  (case r_MARKS2=>k_is)
  (case re_MARKS2=>kernel_rfl)
  (case hz=>unfold Dz.T;(repeat' refine aW.mpr ⟨?_,?_⟩);all_goals first | exact fun _ h=>(cv h).elim | k_is)
end
