import PyProof.Rows.All
import Wide.All
import OpenK.AllK
import Wide.FinOn
import PyProof.EqAt
import PyProof.EqKinds
import PyProof.TupleCall
import PyProof.NeKinds
import KE.KMinBuiltin
import Lean
import PySem.Challenge.RW_tokenwright_k22_tables_gone_through
open Array renaming getElem?_eq_some_iff->gS,getElem?_eq_getElem->iz,length_toList->p6,forIn_toList->qB,toList->zO,getElem?_eq_none->zR
open Bool renaming and_eq_true->aj,false_eq_true->ak,false_ne_true->aS,or_eq_true->bu,not_true->bz,not_false->bM,eq_iff_iff->dy,not_eq_true->fF,not_eq_true'->gB,true_and->zE,and_true->zF,not_eq_false->GF,noConfusion->J1
open False renaming elim->aL
open ForInStep renaming yield->eJ
open Function renaming comp_def->dk
open Iff renaming rfl->km
open Int renaming emod_lt_of_pos->fY,toNat_natCast->gK,emod_nonneg->i5,fdiv_eq_ediv_of_nonneg->xO,not_lt->xY,toNat_zero->ya,eq_ofNat_of_zero_le->Bl,le_refl->EF
open Int.ofNat renaming inj->oS
open List renaming getElem?_eq_getElem->aa,getElem?_eq_some_iff->ae,getElem?_set_ne->af,getElem?_append_left->ag,length_map->ah,mem_of_getElem?->ao,getElem?_append_right->aw,length_append->ax,map_cons->ay,mem_cons_of_mem->aB,getElem?_map->aC,size_toArray->aF,mem_append->aI,map_append->aJ,lookup_cons->aN,mem_cons_self->aO,mem_cons->aR,getD_eq_getElem?_getD->aT,forall_mem_cons->aU,length_cons->aW,mem_append_right->a9,map_map->bq,getElem?_of_mem->bA,mem_map->bB,suffix_refl->bE,getElem?_set_self->bF,mem_append_left->bI,all_cons->bK,take_length->bP,append_assoc->bQ,mem_singleton->bS,append_nil->bX,range->cf,filterMap_cons->cg,length_set->cq,getElem_mem->cu,not_mem_nil->cy,all_eq_true->cz,idxOf_lt_length_of_mem->cC,length->cD,any_cons->cU,suffix_cons->dg,map->dh,getElem?_eq_none->dD,length_take->dE,replicate->dH,nodup_append->dM,find?_cons->dQ,length_nil->dS,take_of_length_le->d6,drop_eq_getElem_cons->eT,mem_filter->eU,nodup_cons->eV,getElem?_mapIdx->fm,foldl_append->fq,lookup->fS,eq_nil_of_length_eq_zero->fV,length_singleton->gh,contains_iff_mem->gv,eq_nil_or_concat->gw,concat_eq_append->gx,getElem?_append->iq,getElem?_range->iG,nil_append->iZ,getElem_idxOf->i4,map_nil->jt,length_eq_one_iff->ju,drop_zero->jv,getElem?_set->jw,drop_of_length_le->jx,take_add_one->jz,idxOf_append->jA,any_eq_true->kb,mem_filterMap->lj,length_mapIdx->lu,flatten_cons->l9,prefix_iff_eq_take->nk,cons_append->nq,length_eq_zero_iff->nv,forIn_cons->oh,lookup_cons_self->oO,mem_range->pO,getElem_of_mem->qy,map_congr_left->qz,filterMap_map->rQ,map_inj_right->rR,set_cons_succ->rS,set_cons_zero->rT,length_range->sU,set_set->sV,map_inj_left->sX,of_mem_zip->vN,foldl_cons->vO,getElem?_concat_length->vX,forIn_nil->wm,nodup_nil->wy,isPrefixOf_iff_prefix->wB,foldl_nil->wF,mem_of_find?_eq_some->xZ,getElem?_take_of_lt->zw,sum_cons->zD,getElem?_replicate->zP,getElem?_cons_zero->zV,range_succ_eq_map->Bk,all_map->Bn,any_map->Bp,length_filter_le->BC,take_append_drop->BE,filterMap_append->BF,drop_eq_nil_iff->Dg,mem_of_mem_take->Dh,take_succ_cons->EB,replicate_succ->EC,drop_succ_cons->ED,length_pos_iff->EG,lookup_append->Gb,filter_append->Gd,append_of_mem->Gf,isEmpty_cons->GG,mem_range'_1->GH,flatMap_cons->GI,getElem_inj->JV,length_drop->JX,drop_length->JZ,filter_cons->J4,map_fst_zip->Kb,map_snd_zip->Kc,find?_some->Kt,sum_append->Kv
open List.IsSuffix renaming trans->mF
open List.Pairwise renaming nil->wx,map->wC
open List.cons renaming injEq->dG
open Nat renaming le_refl->ar,lt_of_lt_of_le->az,le_trans->aP,ne_of_lt->aX,lt_succ_of_lt->bc,pow_le_pow_right->bw,sub_self->bH,zero_le->cw,testBit_and->cG,le_of_lt->cY,ne_of_gt->cZ,lt_succ_self->dj,testBit_or->dq,not_lt_zero->dX,lt_irrefl->eh,pow_succ->fZ,testBit_one_eq_true_iff_self_eq_zero->gC,not_lt->i8,le_succ->kr,eq_of_testBit_eq->kz,lt_of_le_of_lt->lO,le_succ_of_le->mz,lt_succ_iff_lt_or_eq->mG,le_of_not_lt->nG,le_add_right->nI,zero_add->oo,one_shiftLeft->tO,min_eq_right->uC,zero_or->vP,min_eq_left->vW,le_of_eq->Bv,lt_trans->Bw,lt_or_ge->By,testBit_lt_two_pow->BD,mul_le_mul_left->Ge,lt_of_le_of_ne->GJ,lt_trichotomy->JY,or_lt_two_pow->Ka,le_max_right->Kr,succ_le_succ->Kw
open Nat.succ renaming inj->mw
open Ne renaming symm->cA
open Option renaming map_eq_some_iff->au,bind_eq_some_iff->aA,bind_eq_bind->aK,getD_some->d7,getD_none->jO,map_some->kj,map_map->oR,isSome_some->qv,bind_some->sW,map_none->tZ,isSome_iff_exists->wo,isSome_map->Ey
open Option.some renaming inj->aH,injEq->pG
open Prod renaming fst->De
open Prod.mk renaming inj->zL
open PyProof.Rows renaming slot_tuple_getitem->iR,callWith_type1->jK,AllBare->n6,envOfC->p8,subscriptTail->Et,subscriptTail_builtinR->Gv,IntsAre->Gz
open PyProof.Rows.IsTup renaming new->Gs
open PyProof.Rows.LSm renaming kept_iter->zT
open PySem renaming wpAny_bind->ab,Shared->aq,wpAny_pure->av,model->bb,Program->bf,mainGlobals->bC,compareOp->bD,World->bJ,starEach->bR,sysModules->bY,wpAny_mono->bZ,binaryOp->cB,Around->cF,mem_of_lookup->cP,wpAny_truthy_bool->cV,wpAny_newObj_type->cX,FuncData->dW,cLine->eP,wpAny_Call_Name_kw->eY,wpAny_holding->fI,Scope->fQ,wpAny_typeNameOfWhole_valiter->gu,tupleKind_room_in1->gy,Operator->gO,wpAny_passesOwn->gQ,swapsWith->hU,inplaceOp->ic,attributeBase->ig,DictEntry->ij,backTo->iw,wpAny_dictEntries->iy,dictSetDefault->iN,wpAny_call_entry->iW,cellsFrom->iY,rawInt->jD,sizeLine_eq->jL,wpAny_field->jM,wpAny_callSpecial?_slot->jN,keywordEach->jP,wpAny_pyIter_list->kc,valueAt->k7,sliceBounds->k8,call_meetsIn->l7,tupleKind->mv,wpAny_setField->mC,getItem->n8,Keyword->oa,wpAny_isInstance->pF,wpAny_rule->pX,bootBuiltins->pY,codeAny->p7,wpAny_execs_nil->qt,letOwnedTupleGo->qu,atKey->qw,isSubtype_tuple_tuple->qC,wpAny_notOrdered_dict->qF,wpAny_isOneOf_valiter->qG,wpAny_tupleItemsOf->uw,assignEach->uz,stored->uB,wpAny_assign_Name->vR,callerA->vT,codeAny_mono->vU,assign->xM,pyNext->xN,noFill_tuple_add->xR,IsPart->xS,CmpOp->zt,subscripted->zx,wpAny_specialOf->zM,Within->zN,size_of_entries->zQ,wpAny_dictEpoch->zU,intKind->Bf,BindsTo->Bh,wpAny_seqItems->Bs,entryOfKey->Bt,builtinsNs->Bu,newFunctionEnv->Bx,methodCallForm->BA,seq_tuple_add->Es,call->Ew,wpAny_standAt->Ez,wpAny_comprehension_free->EA,eqIsQuiet->F4,PassesOwn->F5,bindL->F7,bindC->F8,noteFrame->Ga,wpAny_pyNext_list_item->Gk,concat_meets->Gm,wpAny_typeOf->Gn,seqIndex_neg->Gu,Params->Gy,relabel->GD,wpAny_pyNext_list_end->JW,wpAny_mkInt->Kl,wpAny_loadName_local->Km,bindArgs->Kn,seqIndex_of->Ko,wpAny_updateDictKeys->Kq,boot_len->Ks
open PySem.Around renaming in1_units->sS,under->zu,under_plainId->Bo
open PySem.Calls renaming spliced_cons->iX,callWith_builtin->jo,spliced_nil->lX,evalArgs_plain->pI,Name_function_global->vQ
open PySem.Code renaming isFrame->Bg
open PySem.EntryCells renaming newEntry->xX
open PySem.Expr renaming Name->J0
open PySem.F renaming slot_dict_valueiterator_next->cH,slot_dict_get->eD,plainAttrs_dict->iS,entry_dict_get->i6,args_tuple_add_2->lN,entry_tuple_add->l6,slot_tuple_add->mB,plainAttrs_str->mE,slot_list_getattribute->nH,args_dict_valueiterator_next_1->oq,entry_dict_valueiterator_next->oQ,slot_tuple_eq->pN,slot_dict_values_iter->sT,slot_dict_setdefault->tN,slot_dict_values->vV,args_dict_get_2->wz,args_dict_get_3->wA,plainAttrs_list->wD,type_dict_get->zA,slot_dict_len->zC
open PySem.Heap renaming get?_push_of_some->aE,lt_size->aM,get?_push_size->aY,get?_update_self->dC,SameBut->fX,size_push->ie,get?_update_other->n9
open PySem.Heap.DictOf renaming new->Bj
open PySem.Heap.SameBut renaming update->eQ
open PySem.NameKind renaming free->bN,cell->fU
open PySem.Obj renaming data_mapFields->i7,data_mapDictKeys->kq,mapFields->mD,isFreed_of_fields->pJ,mapSeq->rW,isFreed_of_dict->F9
open PySem.SeqAt renaming EqAt->vS,notIn_listAt->Eu
open PySem.SeqAt.EqAt renaming same->jJ,int_none->nV,str_none->nW,none_int->nY,none_str->nZ,int_str->oM,str_int->oN,none_bool->wq,bool_none->wt,bool_bool->wu,bool_int->xT,bool_str->xU,int_bool->xV,str_bool->xW,int_int->zy,str_str->zz,of_refs->zB
open PySem.SeqAt.RcAt renaming tuples->zS
open PySem.Str renaming ofString->b7,length->Gx
open PySem.Value renaming ref->bg,none->cj,bool->j7,int->k5,str->k6,isInt->Br
open PySem.W renaming Frag->aG,emptyDict->cM,instObj->dJ,findIn->d8,fnOf->ko,plainGet->lZ,lookIn->oj,keepIn->om,plainGet_of->pH,mg_of->qA,methodObj->qD,hasDictIn->qE,takerIn->tM,codeIn->uA,isFn->xP,cellsFrom_some->xQ,pyHash_slot->Be,KeysLit->Bm,keepIn->Bz,plainOver->Dd,handedIn->Er,makesIn->F6,OpenLaw->GB,callWith_K0->Ku
open PySem.Walks renaming list->EE
open Sum renaming inr->i3,inl->wk
open Sum.inl renaming inj->zK
open Sum.inr renaming inj->sR
open True renaming intro->eI
set_option linter.all false
set_option Elab.async false
set_option maxRecDepth 100000
set_option maxHeartbeats 4000000
set_option genSizeOf false
set_option bootstrap.genMatcherCode false
set_option compiler.extract_closed false
noncomputable section
section
local macro_rules | `(#[$x,$xs,*]) => `(⟨$x,$xs,*⟩) | `(#[$x]) => `(⟨$x⟩)
local macro_rules | `(∅) => `(by omega)
local macro_rules | `(⋯) => `(by decide)
local macro_rules | `(tactic| room) => `(tactic| walk_at "pk")
local macro_rules | `(#v[$x]) => `(.cons $x .nil) | `(#v[$x,$xs,*]) => `(.cons $x #v[$xs,*])
local macro_rules | `(@$n:num) => `(.var $n)
local macro_rules | `(↑$n:num) => `(.lit (.int $n))
local macro_rules | `(↑[$n,*]) => `(.lit (.str [$n,*]))
local macro_rules|`(tactic|let $p:term:=$e)=>do
 let rec g(n:Nat)(s:Lean.Term):Lean.MacroM (Lean.TSyntax `rcasesPat):=match n with
  |0=>Lean.Macro.throwUnsupported
  |n+1=>match s with
   |`(#[$xs,*])=>do let ps<-xs.getElems.mapM (g n);`(rcasesPat|⟨$[$ps:rcasesPat],*⟩)
   |`(_)=>`(rcasesPat|_)
   |`($x:ident)=>`(rcasesPat|$x:ident)
   |_=>Lean.Macro.throwUnsupported
 let q<-g 9 p;`(tactic|obtain $q:rcasesPat:=$e)
local macro_rules|`(tactic|erw[$t:term])=>`(tactic|exact $t)
local macro_rules|`(tactic|rwa[$t:term])=>`(tactic|refine $t)
local macro_rules|`(tactic|dsimp [$xs,*] $[$l:location]?)=>`(tactic|simp only [$xs,*] $[$l]?)
set_option hygiene false in
local macro_rules|`(tactic|z_go)=>`(tactic|refine#[env,ρ,S,_,EU,he,R,w,λu S1 v H1 ρ1 w1 st1 R1 r1=>?_,qx])
set_option hygiene false in
local macro_rules|`(tactic|x_go)=>`(tactic|intro pZ s σ H x y v u Q I rx ry h)
set_option hygiene false in
local macro_rules|`(tactic|kd_p)=>`(tactic|rintro σ H Q ⟨env,ρ,S,QU,EU,he,R,w,q,qx⟩)
set_option hygiene false in
local macro_rules|`(tactic|w_up)=>`(tactic|intro X hP hw hK hc i pZ s σ H E I hf st hg)
set_option hygiene false in
local macro_rules|`(tactic|k_ne)=>`(tactic|intro pZ s σ H xs us Q I r h)
set_option hygiene false in
local macro_rules|`(tactic|k_go)=>`(tactic|intro pZ s σ H Q I h)
namespace Lake
namespace L2
open PySem PySem.Spec PyProof.Rows
abbrev Key:=Sum Int (Option Str)
noncomputable def wG:Key->Value->Bool
 |.inl k,v=>Br k v
 |.inr (some x),v=>Value.isStrOf x v
 |.inr none,v=>v==cj
noncomputable def Wl(w:bJ):Key->Int
 |.inl k=>hashInt k
 |.inr (some x)=>hashStr w x
 |.inr none=>reduceHash 0xFCA86420
theorem fG:∀{k:Key}{v:Value},wG k v=true->(∃i t,k=wk i/\v=k5 i t)\/(∃x t,k=i3 (some x)/\v=k6 x t)\/(k=i3 none/\v=cj)
 |.inl i,v,h=>by
  let#[t,e]:=Value.isInt_shape (k:=i) (v:=v) h;erw[.inl #[i,t,rfl,e]]
 |.inr (some x),v,h=>by
  let#[t,e]:=Value.isStrOf_shape (x:=x) (v:=v) h;erw[.inr (.inl #[x,t,rfl,e])]
 |.inr none,v,h=>.inr (.inr #[rfl,eq_of_beq h])
theorem EH(i:Int)(t:Tok):wG (.inl i) (.int i t)=true:=by simp[wG,Br]
theorem EI(x:Str)(t:Tok):wG (.inr (some x)) (.str x t)=true:=by simp[wG,Value.isStrOf]
theorem GK{α:Type}[DecidableEq α]{β:Type}[DecidableEq β](f:α->β)(hf:∀a b,f a=f b->a=b)(a b:α):decide (f a=f b)=decide (a=b):=decide_eq_decide.mpr #[hf a b,λe=>e▸rfl]
theorem EJ{prog:bf}{w:bJ}{A:cF}{E:Value->aq->Prop}{s:aq}{Q:Int->aq->Prop}(h:Q (reduceHash 0xFCA86420) {s with toks:=s.toks+1}):wpAny (bb prog w) A (pyHash .none) Q E s:=by
 unfold pyHash;erw[Be (T:="NoneType") rfl F.slot_NoneType_hash F.entry_NoneType_hash (F.args_NoneType_hash_1 _) (beq_builtin_none _) (.inl rfl) (ab (av (ab (Kl (av #[_,_,rfl,h])))))]
noncomputable def cR(prog:bf)(w:bJ):PySem.KeyKind prog w Key where
 is:=wG
 hash:=Wl w
 inj:=λv a b ha hb=>by
  rcases fG ha with⟨i,t,rfl,rfl⟩|⟨x,t,rfl,rfl⟩|⟨rfl,rfl⟩<;>rcases fG hb with⟨j,u,rfl,e⟩|⟨y,u,rfl,e⟩|⟨rfl,e⟩<;>cases e<;>rfl
 byValue:=λk v h=>by
  rcases fG h with⟨i,t,rfl,rfl⟩|⟨x,t,rfl,rfl⟩|⟨rfl,rfl⟩<;>rfl
 pyHash:=λhv h=>by
  rcases fG hv with⟨i,t,rfl,rfl⟩|⟨x,t,rfl,rfl⟩|⟨rfl,rfl⟩
  .erw[wpAny_pyHash_int h]
  .erw[wpAny_pyHash_str h]
  .erw[EJ h]
 eqBool:=λhu hv h=>by
  rcases fG hu with⟨i,t,rfl,rfl⟩|⟨x,t,rfl,rfl⟩|⟨rfl,rfl⟩<;>rcases fG hv with⟨j,u,rfl,rfl⟩|⟨y,u,rfl,rfl⟩|⟨rfl,rfl⟩
  .rw[GK wk (λ_ _ e=>zK e)] at h;erw[wpAny_eqBool_int (by rw[show(i==j)=decide (i=j) from rfl];exact h)]
  .erw[oM i t y u _ _ _ _ h]
  .erw[nV i t _ _ _ _ h]
  .erw[oN x t j u _ _ _ _ h]
  .rw[GK (λz=>i3 (some z)) (λ_ _ e=>aH (sR e))] at h;erw[wpAny_eqBool_str h]
  .erw[nW x t _ _ _ _ h]
  .erw[nY j u _ _ _ _ h]
  .erw[nZ y u _ _ _ _ h]
  .erw[jJ _ _ _ _ _ h]
 «strs»:=λk x t v h=>by
  rcases fG h with⟨i,u,rfl,e⟩|⟨y,u,rfl,e⟩|⟨rfl,e⟩
  .erw[nomatch e]
  .cases e
   cases v<;>rfl
  .erw[nomatch e]
section
variable{prog:bf}{w:bJ}
abbrev lP:=Int×List Int
def IsPair(prog:bf)(w:bJ)(h:Heap)(k:lP)(a:Addr):Prop:=∃t c n o,h.get? a=some o/\o.cls=.type "tuple"/\o.data=.seq (List.toArray [.int k.1 t,.ref c]) n/\IsTupleKey (Bf prog w) h k.2 c
noncomputable def uD(prog:bf)(w:bJ)(k:lP):Int:=reduceHash (Builtin.Tuple.tupleHashOf [hashInt k.1,tupleKeyHash (Bf prog w) k.2])
variable{A:cF}{E:Value->aq->Prop}{s:aq}
theorem zW{k:lP}{a:Addr}{Q:Int->aq->Prop}(hu:A.units+1<eP)(hk:IsPair prog w s.heap k a)(h:Q (uD prog w k) {s with toks:=s.toks+(k.2.length+3)}):
  wpAny (bb prog w) A (pyHash (.ref a)) Q E s:=by
 let#[t,c,n,o,ho,hc,hd,hi]:=hk;have hT:s.TypeIs (.ref a) "tuple":=#[o,ho,hc]
 unfold pyHash;rwa[Be (T:="tuple") hT F.slot_tuple_hash F.entry_tuple_hash (F.args_tuple_hash_1 _) (beq_builtin_none _) (.inr ∅) ?_];show wpAny _ _ (Builtin.Tuple.tupleItemsOf (.ref a)>>=_) _ _ s;rwa[ab (uw ho hd ?_)];rwa[ab ?_];rw[<-qB]
 dsimp[oh,wm];rwa[ab (ab (wpAny_pyHash_int ?_))];refine av (ab (ab (wpAny_pyHash_tuple (s:={s with toks:=s.toks+1}) (by dsimp[sS];omega) hi (av (av ?_)))));rwa[ab (Kl (av #[_,_,rfl,?_]))];have e:s.toks+1+(k.2.length+1)+1=s.toks+(k.2.length+3):=∅
 have h:Q _ _:=h;rw[<-e] at h;simpa[uD] using h
theorem IsPair.inj{h:Heap}{a:Addr}{x y:lP}(hx:IsPair prog w h x a)(hy:IsPair prog w h y a):x=y:=by
 let#[t,c,n,o,ho,hc,hd,hi]:=hx;let#[t',c',n',o',ho',hc',hd',hi']:=hy;obtain rfl:o=o':=aH (ho.symm.trans ho');rw[hd] at hd';injection hd' with h1 _
 injection h1 with h1
 injection h1 with h1 h2
 injection h1 with h1 _
 injection h2 with h2 _
 injection h2 with h2
 subst h2;erw[Prod.ext h1 (hi.inj hi')]
theorem zX{x y:lP}{a b:Addr}{Q:Bool->aq->Prop}(hu:A.units+1<eP)(hx:IsPair prog w s.heap x a)(hy:IsPair prog w s.heap y b)(h:Q (decide (x=y)) s):
  wpAny (bb prog w) A (eqBool (.ref a) (.ref b)) Q E s:=by
 unfold eqBool;rwa[fI ?_];show wpAny _ _ (if (bg a==bg b)=true then _ else _) Q E s;by_cases hab:(bg a==bg b)=true
 .rw[if_pos hab]
  have e:a=b:=by have:=eq_of_beq hab;injection this
  subst e;obtain rfl:=hx.inj hy;exact ab (pX (av (by simpa using h)))
 .rw[if_neg hab]
  let#[t,c,n,o,ho,hc,hd,hi]:=hx;let#[t',c',n',o',ho',hc',hd',hi']:=hy;have hT:s.TypeIs (.ref a) "tuple":=#[o,ho,hc]
  have hT':s.TypeIs (.ref b) "tuple":=#[o',ho',hc']
  refine ab (wpAny_richCompare_same_room (op:=.Eq) hT hT' pN
   (iW pN hT F.entry_tuple_eq ?_ (F.args_tuple_eq_2 _ _)) ∅)
  show wpAny _ _ (isInstance (.ref b) (.type "tuple")>>=_) _ _ s
  rwa[ab (pF hT' qC ?_)];dsimp[bz,ak,if_false];rwa[ab (uw ho hd ?_)];rwa[ab (uw ho' hd' ?_)];rwa[ab ?_];dsimp[List.zip_cons_cons,List.zip_nil_right,oh,wm];rwa[ab (ab (wpAny_eqBool_int ?_))];let#[x1,x2]:=x;let#[y1,y2]:=y;by_cases e1:x1=y1
  .subst e1
   dsimp[BEq.rfl,bz,ak,if_false];rwa[av (ab (ab (wpAny_eqBool_tuple (by dsimp[sS];omega) hi hi' ?_)))];by_cases e2:x2=y2
   .subst e2
    dsimp[decide_true,bz,ak,if_false] at h ⊢;erw[av (av (av #[_,rfl,(λz=>nomatch z),cV h]))]
   .have e3:decide ((x1,x2)=(x1,y2))=false:=decide_eq_false λz=>e2 (zL z).2
    rw[e3] at h;dsimp[decide_eq_false e2,bM,if_true];erw[ab (av (av (av (av #[_,rfl,(λz=>nomatch z),cV h]))))]
  .have e3:decide ((x1,x2)=(y1,y2))=false:=decide_eq_false λz=>e1 (zL z).1
   rw[e3] at h;have e4:(x1==y1)=false:=beq_eq_false_iff_ne.mpr e1;dsimp[e4,bM,if_true];erw[ab (av (av (av (av #[_,rfl,(λz=>nomatch z),cV h]))))]
theorem BG{ks:List Int}{a:Addr}{n:Nat}{Q:Bool->aq->Prop}(hk:IsTupleKey (Bf prog w) s.heap ks a)(h:Q true s):wpAny (bb prog w) A (F4 (n+1) (.ref a)) Q E s:=by
 have hT:=hk.typeIs;let#[o,items,m,ho,_,hd,hi]:=hk;unfold F4;rwa[ab (zM hT pN.lookup (ab (pF hT qC ?_)))];dsimp[bz,ak,if_false];rwa[ab (Bs ho hd (ab ?_))];rw[<-qB]
 rwa[wpAny_forIn_list _ (λl r s'=>r.1=none/\s'=s/\∀v∈l,carriedByValue v=true) _ ?_ ?_ _ _ #[rfl,rfl,hi.byValue]]
 .rintro v l r s' ⟨hr,rfl,z⟩
  rw[eqIsQuiet_byValue _ (z v aO)]
  erw[ab (av (av #[rfl,rfl,λu hu=>z u (aB _ hu)]))]
 .rintro⟨r1,r2⟩ s' ⟨hr,rfl,_⟩
  cases hr;erw[av h]
theorem BH{k:lP}{a:Addr}{Q:Bool->aq->Prop}(hk:IsPair prog w s.heap k a)(h:Q true s):wpAny (bb prog w) A (F4 8 (.ref a)) Q E s:=by
 let#[t,c,n,o,ho,hc,hd,hi]:=hk;have hT:s.TypeIs (.ref a) "tuple":=#[o,ho,hc]
 unfold F4;rwa[ab (zM hT pN.lookup ?_)];show wpAny _ _ (isInstance (.ref a) (.type "tuple")>>=_) _ _ s;rwa[ab (pF hT qC ?_)];dsimp[bz,ak,if_false];rwa[ab (Bs ho hd ?_)];rwa[ab ?_];show wpAny _ _ (forIn (List.toArray [k5 k.1 t,.ref c]) _ _) _ _ s;rw[<-qB]
 dsimp[oh,wm];rw[eqIsQuiet_byValue 7 (v:=.int k.1 t) rfl]
 erw[ab (ab (av (av (ab (ab (BG hi (av (av (av h)))))))))]
theorem IsPair.keeps{h h':Heap}{k:lP}{a d:Addr}{o:Obj}{es ep}(x:IsPair prog w h k a)(ho:h.get? d=some o)(hd:o.data=.dict es ep)(hs:fX d h h'):IsPair prog w h' k a:=by
 let#[t,c,n,o',ho',hc,hd',hi]:=x;refine#[t,c,n,o',(hs.2 a ?_).trans ho',hc,hd',hi.keeps ho hd hs];rintro rfl;obtain rfl:o'=o:=aH (ho'.symm.trans ho);rw[hd] at hd';erw[nomatch hd']
noncomputable def qH(prog:bf)(w:bJ):HeapKind prog w lP where
 is:=IsPair prog w
 hash:=uD prog w
 draws:=λk=>k.2.length+3
 room:=λA=>A.units+1<eP
 inj:=λhx hy=>hx.inj hy
 keeps:=λx ho hd hs=>x.keeps ho hd hs
 pyHash:=λhu hk h=>zW hu hk h
 eqBool:=λhu hx hy h=>zX hu hx hy h
 quiet:=λhk h=>BH hk h
end
theorem zY(prog:bf)(w:bJ)(i:Int)(t:Tok):(cR prog w).is (.inl i) (.int i t)=true:=EH i t
theorem zZ(prog:bf)(w:bJ)(x:Str)(t:Tok):(cR prog w).is (.inr (some x)) (.str x t)=true:=EI x t
inductive V where
 |bV|bl (b:Bool)|int (i:Int)|str (x:Str)|Bq (b:Array UInt8)|VN (b:UInt64)|ref (a:Addr)|ty (n:String)
 deriving DecidableEq
def RelV:V->Value->Prop
 |.bV,u=>u=cj
 |.bl b,u=>u=j7 b
 |.int i,u=>∃t,u=k5 i t
 |.str x,u=>∃t,u=k6 x t
 |.Bq b,u=>∃t,u=Value.bytes b t
 |.VN b,u=>∃t,u=Value.float b t
 |.ref a,u=>u=bg a
 |.ty n,u=>u=Value.type n
abbrev Vals:List V->List Value->Prop:=Paired RelV
theorem Vals.length{xs:List V}{us:List Value}(r:Vals xs us):xs.length=us.length:=Paired.length r
theorem Vals.get:∀{xs:List V}{us:List Value}{i:Nat}{x:V},Vals xs us->xs[i]?=some x->∃u,us[i]?=some u/\RelV x u
 |_,_,_,_,.nil,e=>by simp at e
 |_,_,0,_,.cons r _,e=>by simp at e;subst e;exact#[_,rfl,r]
 |_,_,i+1,x,.cons _ t,e=>by
  let#[u,h1,h2]:=Vals.get (i:=i) (x:=x) t (by simpa using e);exact#[u,by simpa using h1,h2]
theorem Vals.set{x:V}{u:Value}(r:RelV x u):∀{xs:List V}{us:List Value}(i:Nat),Vals xs us->Vals (xs.set i x) (us.set i u)
 |_,_,_,.nil=>.nil
 |_,_,0,.cons _ t=>.cons r t
 |_,_,i+1,.cons q t=>.cons q (Vals.set r i t)
theorem Vals.append:∀{xs ys:List V}{us ws:List Value},Vals xs us->Vals ys ws->Vals (xs++ys) (us++ws)
 |_,_,_,_,.nil,s=>s
 |_,_,_,_,.cons r t,s=>.cons r (Vals.append t s)
theorem Vals.take:∀{xs:List V}{us:List Value}(n:Nat),Vals xs us->Vals (xs.take n) (us.take n)
 |_,_,0,_=>.nil
 |_,_,_+1,.nil=>.nil
 |_,_,n+1,.cons r t=>.cons r (Vals.take n t)
theorem Vals.drop:∀{xs:List V}{us:List Value}(n:Nat),Vals xs us->Vals (xs.drop n) (us.drop n)
 |_,_,0,r=>r
 |_,_,_+1,.nil=>.nil
 |_,_,n+1,.cons _ t=>Vals.drop n t
def mH:Option V->Option Value->Prop
 |some v,some u=>RelV v u
 |none,none=>True
 |_,_=>False
def KV{κ:Type}:List (κ×V)->List (κ×Value)->Prop:=Paired λ(p:κ×V)(q:κ×Value)=>p.1=q.1/\RelV p.2 q.2
noncomputable def kV:Key->V
 |.inl i=>.int i
 |.inr (some x)=>.str x
 |.inr none=>.bV
inductive HO where
 |lst (xs:List V)
 |tup (xs:List V)
 |dK (kvs:List (Key×V))|dT (kvs:List (List Key×V))|dP (kvs:List (lP×V))
 |set (S:Int->Bool) (n:Nat)
 |ins (C dx:Addr) (fs:List (Str×V))
 |own (x:Addr)
 |xd (fs:List (Str×V))
 |met (f x:Addr)
 |Wm (lo hi:Int)
 |rV (o:Obj) (u:HO)
 |NT (ps:Array Value)
 |ext (φ:Heap->Prop)
abbrev Hp:=Addr->Option HO
noncomputable def upd(H:Hp)(a:Addr)(o:HO):Hp:=λb=>if b=a then some o else H b
theorem cb{H:Hp}{a:Addr}{o:HO}:upd H a o a=some o:=by unfold upd;rw[if_pos rfl]
theorem b8{H:Hp}{a b:Addr}{o:HO}(h:b≠a):upd H a o b=H b:=by unfold upd;rw[if_neg h]
theorem RQ{H:Hp}{a b:Addr}{o u:HO}(h:H a=some o)(h':H b=some u)(d:o≠u):a≠b:=by
 intro e;subst e;rw[h] at h';erw[d (aH h')]
theorem dB{H:Hp}{a b:Addr}{o:HO}(h:H a=some o)(h':H b=none):a≠b:=by
 intro e;subst e;rw[h] at h';cases h'
section
variable(P:bf)(w:bJ)
def dN(H:Hp)(h:Heap)(a:Addr):HO->Prop
 |.lst xs=>xs.length<=sizeLine/\∃(its:List Value)(n:Nat),Vals xs its/\h.get? a=some {cls:=.type "list",data:=.seq its.toArray n}
 |.tup xs=>xs.length<=sizeLine/\∃its:List Value,Vals xs its/\IsTup h a its.toArray
 |.dK kvs=>kvs.length<=sizeLine/\(a==bY)=false/\∃vs,KV kvs vs/\h.DictOf (cR P w) a vs
 |.dT kvs=>kvs.length<=sizeLine/\(a==bY)=false/\∃xs:List (List Key×Addr×Value),
   Paired (λ(p:List Key×V)(q:List Key×Addr×Value)=>p.1=q.1/\H q.2.1=some (.tup (p.1.map kV))/\RelV p.2 q.2.2) kvs xs /\
   ∃o es ep,h.get? a=some o/\o.ExactDict/\o.data=.dict es ep/\es.toList=xs.map (Bt (mv (cR P w)))/\(xs.map (·.1)).Nodup
 |.dP kvs=>kvs.length<=sizeLine/\(a==bY)=false/\∃xs:List (lP×Addr×Value),
   Paired (λ(p:lP×V)(q:lP×Addr×Value)=>p.1=q.1/\(∃c,H q.2.1=some (.tup [.int p.1.1,.ref c])/\H c=some (.tup (p.1.2.map .int)))/\RelV p.2 q.2.2) kvs xs /\
   ∃o es ep,h.get? a=some o/\o.ExactDict/\o.data=.dict es ep/\es.toList=xs.map (Bt (qH P w))/\(xs.map (·.1)).Nodup
 |.set S n=>h.SetOf (Bf P w) a S n
 |.ins C dx fs=>H dx=some (.own a)/\fs.length<=1000/\dx≠a/\h.get? a=some (dJ C dx) /\
   ∃mA,h.Ns1 dx mA/\(∀f,mH (fs.lookup f) (mA f))/\zN mA (fs.map (·.1))
 |.own _=>∃o,h.get? a=some o
 |.xd fs=>∃mA,h.Ns1 a mA/\∀f,mH (fs.lookup f) (mA f)
 |.Wm lo hi=>∃t u v,h.get? a=some {cls:=.type "range",data:=.fields (List.toArray [.int lo t,.int hi u,.int 1 v])}
 |.rV o u=>h.get? a=some o/\dN H h a u
 |.NT ps=>h.get? a=some {cls:=.none,data:=.fields ps}
 |.met f x=>h.get? a=some (qD (.ref f) (.ref x))
 |.ext φ=>φ h/\(∃o,h.get? a=some o)/\∀h1 h2:Heap,φ h1->(∀o,h1.get? a=some o->h2.get? a=some o)->φ h2
def nJ(H:Hp)(h:Heap):Prop:=∀a o,H a=some o->dN P w H h a o
end
section
variable{P:bf}{w:bJ}{H H':Hp}{h h':Heap}{a:Addr}{o:HO}
theorem dN.lt(x:dN P w H h a o):a<h.objs.size:=by
 cases o with
 |lst xs=>let#[_,_,_,_,e]:=x;erw[aM e]
 |tup xs=>let#[_,_,_,p]:=x;erw[p.lt]
 |dK kvs=>let#[_,_,_,_,o,_,_,e,_]:=x;erw[aM e]
 |dT kvs=>let#[_,_,_,_,o,_,_,e,_]:=x;erw[aM e]
 |dP kvs=>let#[_,_,_,_,o,_,_,e,_]:=x;erw[aM e]
 |set S n=>let#[o,_,_,_,e,_]:=x;erw[aM e]
 |ins C dx fs=>let#[_,_,_,e,_]:=x;erw[aM e]
 |own y=>let#[_,e]:=x;erw[aM e]
 |xd fs=>let#[_,#[_,_,_,e,_],_]:=x;erw[aM e]
 |Wm lo hi=>let#[_,_,_,e]:=x;erw[aM e]
 |rV ob u=>let#[e,_]:=x;erw[aM e]
 |NT ps=>erw[aM (show h.get? a=some _ from x)]
 |met f y=>erw[aM (show h.get? a=some _ from x)]
 |ext φ=>let#[_,#[_,e],_]:=x;erw[aM e]
theorem Paired.EK{α β:Type}{F G:α->β->Prop}:∀{l₁:List α}{l₂:List β},Paired F l₁ l₂->(∀a b,F a b->G a b)->Paired G l₁ l₂
 |_,_,.nil,_=>.nil
 |_,_,.cons r t,f=>.cons (f _ _ r) (Paired.EK t f)
theorem dN.z4(x:dN P w H h a o)(k:∀b u,(b=a\/H b=some (.own a))->h.get? b=some u->h'.get? b=some u)
  (ho:∀b,H b=some (.own a)->H' b=some (.own a)) (ht:∀b xs,H b=some (.tup xs)->H' b=some (.tup xs)):dN P w H' h' a o:=by
 induction o with
 |lst xs=>let#[z,its,n,r,e]:=x;exact#[z,its,n,r,k _ _ (.inl rfl) e]
 |tup xs=>let#[z,its,r,ob,e,c]:=x;exact#[z,its,r,ob,k _ _ (.inl rfl) e,c]
 |dK kvs=>let#[z,y,vs,r,ob,es,ep,e,c]:=x;exact#[z,y,vs,r,ob,es,ep,k _ _ (.inl rfl) e,c]
 |dT kvs=>
  let#[z,y,xs,r,ob,es,ep,e,c]:=x;exact#[z,y,xs,Paired.EK r λp q z=>#[z.1,ht _ _ z.2.1,z.2.2],ob,es,ep,k _ _ (.inl rfl) e,c]
 |dP kvs=>
  let#[z,y,xs,r,ob,es,ep,e,c]:=x;exact#[z,y,xs,Paired.EK r λp q z=>#[z.1,let ⟨c,e1,e2⟩:=z.2.1;#[c,ht _ _ e1,ht _ _ e2],z.2.2],ob,es,ep,k _ _ (.inl rfl) e,c]
 |set S n=>let#[ob,es,ep,t,e,c]:=x;exact#[ob,es,ep,t,k _ _ (.inl rfl) e,c]
 |ins C dx fs=>
  let#[d,z,ne,e,mA,#[od,es,ep,e2,c],r]:=x;exact#[ho _ d,z,ne,k _ _ (.inl rfl) e,mA,#[od,es,ep,k _ _ (.inr d) e2,c],r]
 |own y=>let#[ob,e]:=x;exact#[ob,k _ _ (.inl rfl) e]
 |xd fs=>let#[mA,#[od,es,ep,e,c],r]:=x;exact#[mA,#[od,es,ep,k _ _ (.inl rfl) e,c],r]
 |Wm lo hi=>let#[t,u,v,e]:=x;exact#[t,u,v,k _ _ (.inl rfl) e]
 |rV ob u ih=>let#[e,q]:=x;exact#[k _ _ (.inl rfl) e,ih q]
 |NT ps=>
  have e:h.get? a=some {cls:=.none,data:=.fields ps}:=x;show h'.get? a=some {cls:=.none,data:=.fields ps};erw[k a _ (.inl rfl) e]
 |met f y=>
  have e:h.get? a=some (qD (.ref f) (.ref y)):=x;show h'.get? a=some (qD (.ref f) (.ref y));erw[k a _ (.inl rfl) e]
 |ext φ=>let#[p,#[o,e],st]:=x;exact#[st _ _ p λo q=>k _ _ (.inl rfl) q,#[o,k _ _ (.inl rfl) e],st]
theorem nJ.lt(x:nJ P w H h)(e:H a=some o):a<h.objs.size:=(x a o e).lt
theorem nJ.fresh(x:nJ P w H h)(e:h.objs.size<=a):H a=none:=by
 cases q:H a with
 |none=>rfl
 |some u=>erw[absurd (az (x.lt q) e) (eh _)]
theorem nJ.kept(x:nJ P w H h)(k:∀b u,h.get? b=some u->h'.get? b=some u):nJ P w H h':=λa o e=>
 (x a o e).z4 (λb u _ q=>k b u q) (λ_ q=>q) λ_ _ q=>q
theorem nJ.laid(x:nJ P w H h)(k:∀b u,h.get? b=some u->h'.get? b=some u)(hp:h.objs.size<=a)(new:dN P w (upd H a o) h' a o):nJ P w (upd H a o) h':=λb u e=>by
 have hn:=x.fresh hp;by_cases hb:b=a
 .subst hb;rw[cb] at e;cases e;erw[new]
 .rw[b8 hb] at e
  exact(x b u e).z4 (λc v _ q=>k c v q) (λc q=>by rw[b8 (dB q hn)];erw[q]) λc xs q=>by rw[b8 (dB q hn)];erw[q]
end
def Rd(H:Hp)(a:Addr)(u:HO):Prop:=H a=some u\/∃o,H a=some (.rV o u)
theorem Rd.ok{P:bf}{w:bJ}{H:Hp}{h:Heap}{a:Addr}{u:HO}(r:Rd H a u)(x:nJ P w H h):dN P w H h a u:=by
 rcases r with r|⟨o,r⟩
 .erw[x a u r]
 .let#[_,q]:=x a _ r
  erw[q]
def Rv:Option HO->Prop
 |some (.lst _)=>True
 |some (.dK _)=>True
 |some (.dT _)=>True
 |some (.dP _)=>True
 |some (.set _ _)=>True
 |some (.ins _ _ _)=>True
 |some (.ext _)=>True
 |_=>False
section
variable{P:bf}{w:bJ}{H:Hp}{h h':Heap}{x e:Addr}{o':HO}
theorem nJ.write(ok:nJ P w H h)(mu:Rv (H x))(he:e=x\/H e=some (.own x))(k:∀b u,b≠e->h.get? b=some u->h'.get? b=some u)(heo:∃u,h'.get? e=some u)
  (new:dN P w (upd H x o') h' x o'):nJ P w (upd H x o') h':=λb u q=>by
 have nown:∀c y,H c=some (.own y)->c≠x:=λc y r z=>by subst z;rw[r] at mu;erw[mu]
 have ntup:∀c xs,H c=some (.tup xs)->c≠x:=λc xs r z=>by subst z;rw[r] at mu;erw[mu]
 by_cases hb:b=x
 .subst hb;rw[cb] at q;cases q;erw[new]
 .rw[b8 hb] at q
  by_cases hbe:b=e
  .have q':H b=some (.own x):=by
    rcases he with z|z
    .erw[absurd (hbe.trans z) hb]
    .rw[hbe];erw[z]
   rw[q] at q';cases q';let#[v,hv]:=heo;exact#[v,by rw[hbe];erw[hv]]
  .refine(ok b u q).z4 (λc v hc r=>k c v ?_ r) (λc r=>by rw[b8 (nown c b r)];erw[r]) λc xs r=>by rw[b8 (ntup c xs r)];erw[r]
   rcases hc with rfl|hc
   .erw[hbe]
   .rintro rfl
    rcases he with z|z
    .erw[nown c b hc z]
    .rw[hc] at z;cases z;erw[hb rfl]
end
structure Un(fs ex:List Addr)(H H':Hp)(h h':Heap):Prop where
 keep:∀b o,h.get? b=some o->H b=none->b∉fs->b∉ex->h'.get? b=some o
 slot:∀b o,h.get? b=some o->H b=none->b∈fs->b∉ex->∃sl,h'.get? b=some {o with slots:=sl}
 free:∀b o,h.get? b=some o->H b=none->b∉ex->H' b=none
 there:∀b o,h.get? b=some o->b∉ex->∃o',h'.get? b=some o'
 z5:∀b xs,H b=some (.tup xs)->H' b=some (.tup xs)
 yb:∀b o u,H b=some (.rV o u)->H' b=some (.rV o u)
 z6:∀b ps,H b=some (.NT ps)->∃more,H' b=some (.NT (ps++more))
section
variable{fs fs' ex ex':List Addr}{H H1 H2:Hp}{h h1 h2 h':Heap}{a x e:Addr}{o:HO}
theorem Un.any(u:Un fs ex H H1 h h1){b:Addr}{ob:Obj}(q:h.get? b=some ob)(n:H b=none)(hx:b∉ex):∃sl,h1.get? b=some {ob with slots:=sl}:=by
 by_cases hb:b∈fs
 .erw[u.slot b ob q n hb hx]
 .exact#[ob.slots,u.keep b ob q n hb hx]
theorem Un.kept(k:∀b u,h.get? b=some u->h'.get? b=some u):Un fs ex H H h h':=
 #[λb ob q _ _ _=>k b ob q,λb ob q _ _ _=>#[ob.slots,k b ob q],λ_ _ _ n _=>n,λb ob q _=>#[ob,k b ob q],λ_ _ q=>q,λ_ _ _ q=>q,λ_ ps q=>#[#[],by rw[q];simp]]
theorem Un.refl:Un fs ex H H h h:=Un.kept λ_ _ q=>q
theorem Un.laid(k:∀b u,h.get? b=some u->h'.get? b=some u)(hp:h.objs.size<=a)(hn:H a=none):Un fs ex H (upd H a o) h h' where
 keep:=λb u q _ _ _=>k b u q
 slot:=λb u q _ _ _=>#[u.slots,k b u q]
 free:=λb u q n _=>by rw[b8 (aX (az (aM q) hp))];erw[n]
 there:=λb u q _=>#[u,k b u q]
 z5:=λb xs q=>by rw[b8 (dB q hn)];erw[q]
 yb:=λb u xs q=>by rw[b8 (dB q hn)];erw[q]
 z6:=λb ps q=>#[#[],by rw[b8 (dB q hn),q];simp]
theorem Un.write(mu:Rv (H x))(he:e=x\/H e=some (.own x))(k:∀b u,b≠e->h.get? b=some u->h'.get? b=some u)(heo:∃u,h'.get? e=some u):Un fs ex H (upd H x o) h h':=by
 have hx:∀b,H b=none->b≠x:=λb n z=>by subst z;rw[n] at mu;erw[mu]
 have hb:∀b,H b=none->b≠e:=λb n z=>by
  subst z;rcases he with r|r
  .erw[hx b n r]
  .rw[n] at r;cases r
 have hm:∀b u,H b=some u->¬Rv (some u)->b≠x:=λb u q nm z=>by subst z;rw[q] at mu;erw[nm mu]
 refine#[λb u q n _ _=>k b u (hb b n) q,λb u q n _ _=>#[u.slots,k b u (hb b n) q],λb u q n _=>by rw[b8 (hx b n)];exact n,λb u q _=>?_,
  λb xs q=>by rw[b8 (hm b _ q λz=>z)];erw[q],λb u xs q=>by rw[b8 (hm b _ q λz=>z)];erw[q],λb ps q=>#[#[],by rw[b8 (hm b _ q λz=>z),q];simp]]
 by_cases hbe:b=e
 .subst hbe;erw[heo]
 .exact#[u,k b u hbe q]
end
noncomputable def sY(h:Heap)(H:Hp):List Addr:=(cf h.objs.size).filter λa=>(H a).isSome
noncomputable def yc(h:Heap)(H:Hp):Heap:=PySem.W.hideAll h (sY h H)
theorem EL(h:Heap)(H:Hp):(yc h H).objs.size=h.objs.size:=PySem.W.hideAll_size _ _
theorem GL{h:Heap}{H:Hp}{b:Addr}{o:Obj}(e:h.get? b=some o)(n:H b=none):(yc h H).get? b=some o:=
 PySem.W.hideAll_get _ e λhm=>by
  have q:(H b).isSome=true:=(eU.mp hm).2;rw[n] at q;simp at q
theorem Kx{h:Heap}{H:Hp}{b:Addr}{o:Obj}(e:(yc h H).get? b=some o):h.get? b=some o/\H b=none:=by
 have e':h.get? b=some o:=PySem.W.of_hideAll (sY h H) e;refine#[e',?_];cases q:H b with
 |none=>rfl
 |some x=>
  have hm:b∈sY h H:=eU.mpr #[pO.mpr (aM e'),by simp[q]];have z:(yc h H).get? b=none:=PySem.W.hideAll_none (sY h H) hm;rw[z] at e;cases e
noncomputable def oU(g h:Heap)(L:Addr):List (Addr×Obj):=(cf h.objs.size).filterMap λa=>if a=L\/(g.get? a).isSome=true then none else(h.get? a).map λo=>(a,o)
theorem z7{g h:Heap}{L a:Addr}{o:Obj}(h1:a≠L)(h2:g.get? a=none)(h3:h.get? a=some o):(a,o)∈oU g h L:=
 lj.mpr #[a,pO.mpr (aM h3),by simp[h1,h2,h3]]
theorem uE{g h:Heap}{L:Addr}{p:Addr×Obj}(hp:p∈oU g h L):p.1≠L/\g.get? p.1=none/\h.get? p.1=some p.2:=by
 let#[b,_,e]:=lj.mp hp;split at e
 .cases e
 .rename_i hn
  cases q:h.get? b with
  |none=>rw[q] at e;simp at e
  |some u=>
   rw[q] at e;dsimp[kj,pG] at e;subst e;refine#[λz=>hn (.inl z),?_,q];show g.get? b=none;cases r:g.get? b with
   |none=>rfl
   |some v=>exact(hn (.inr (by simp[r]))).elim
noncomputable def rest(g h:Heap)(L d:Addr):List (Addr×Obj):=(oU g h L).filter λp=>decide (p.1≠d)
theorem GN{g h:Heap}{L:Addr}:News g L h (oU g h L):=λp hp=>let ⟨a,b,c⟩:=uE hp;#[c,a,b]
structure Mod(K:aG)(mg:Str->Option Value)(base:Heap):Prop where
 RS:K.In base
 glob:base.Ns bC mg
 blt:∃mb,base.Ns Bu mb/\∀x:Str,x≠"__name__"->mb x=pY x
 nolimit:base.NoLimit
structure Cx where
 prog:bf
 w:bJ
 K:aG
 mg:Str->Option Value
 base:Heap
 A:cF
 N:List Str
 s₀:aq
 H₀:Hp
 env:Env
 outer:List Env
 stack:List Env
 ex:List Addr
 fn:Str->Bool
 calm:Bool
 pn:List (Addr×Obj)
 xe:Value->aq->Prop
noncomputable def vY(l:List Env):List Addr:=l.filterMap (·.frame)
noncomputable abbrev Cx.fs(X:Cx):List Addr:=vY X.outer
def RT(sc:fQ)(x:Str):Prop:=sc.names.lookup x=some .local\/sc.names.lookup x=some .cell\/sc.names.lookup x=some .free
def Loc(sc:fQ)(x:Str):Prop:=sc.names.lookup x=some .local\/sc.names.lookup x=some .cell
def Look(env:Env)(h:Heap)(m:Str->Option Value)(x:Str)(u:Value):Prop:=
 (env.kindOf x=some .local/\m x=some u)\/((env.kindOf x=some .cell\/env.kindOf x=some .free)/\∃c,env.cells.lookup x=some c/\h.IsCell c (some u))
structure Cx.Ok(X:Cx):Prop where
 mod:Mod X.K X.mg X.base
 kind:X.env.scope.kind=.function
 glob:X.env.globals=bC
 blt:X.env.builtins=Bu
 above:X.s₀.heap.objs.size<=X.env.locals
 inj:∀x y c,X.env.cells.lookup x=some c->X.env.cells.lookup y=some c->x=y
 has:∀x,(X.env.kindOf x=some .cell\/X.env.kindOf x=some .free)->∃c,X.env.cells.lookup x=some c
 NU:∀x c,X.fn x=true->X.env.cells.lookup x=some c->X.s₀.heap.objs.size<=c
 hd:X.calm=true->X.A.handled=none
 frames:X.A.frames=some X.stack
 GO:X.stack=X.outer\/(X.stack=X.env::X.outer/\X.env.frame=some X.env.locals)
 VO:∀b∈X.ex,b≠X.env.locals/\∀x c,X.env.cells.lookup x=some c->c≠b
 bs:∀b o,X.base.get? b=some o->X.s₀.heap.get? b=some o/\X.H₀ b=none
 GQ:X.base.objs.size<=X.s₀.heap.objs.size
 BI:∀b o,X.base.get? b=some o->b∉X.ex
 EM:∀b∈X.ex,b∉X.fs
 qI:X.s₀.heap.FunFrames X.base X.outer
 Ky:∀b∈X.fs,X.H₀ b=none
structure Inv(X:Cx)(pZ:List (Addr×Obj))(σ:List (Option V))(H:Hp)(s:aq):Prop where
 ok:X.Ok
 os:s.os=X.s₀.os
 bare:n6 s.gens
 base:Un X.fs X.ex X.H₀ H X.s₀.heap s.heap
 loc:∃m,s.heap.Ns X.env.locals m/\∀(i:Nat)(x:Str)(v:V),X.N[i]?=some x->σ[i]?=some (some v)->RT X.env.scope x->∃u,RelV v u/\Look X.env s.heap m x u
 cell:∀x c,X.env.cells.lookup x=some c->∃v,s.heap.IsCell c v
 free:H X.env.locals=none
 ny:∀x c,X.env.cells.lookup x=some c->H c=none
 pin:∀p∈X.pn++pZ,s.heap.get? p.1=some p.2/\H p.1=none/\p.1≠X.env.locals/\p.1∉X.fs/\∀v,p.2.data≠.cell v
 du:nJ X.prog X.w H s.heap
 len:σ.length=X.N.length
section
variable{X:Cx}{pZ:List (Addr×Obj)}{σ:List (Option V)}{H H':Hp}{s:aq}{h':Heap}
theorem Cx.Ok.Wn(ok:X.Ok){b:Addr}{o:Obj}(e:X.base.get? b=some o):b∉X.fs:=λhb=>by
 have:=(ok.qI.mem hb).1;rw[e] at this;cases this
theorem Inv.bs(I:Inv X pZ σ H s):∀b o,X.base.get? b=some o->s.heap.get? b=some o/\H b=none:=λb o e=>
 #[I.base.keep b o (I.ok.bs b o e).1 (I.ok.bs b o e).2 (I.ok.Wn e) (I.ok.BI b o e),I.base.free b o (I.ok.bs b o e).1 (I.ok.bs b o e).2 (I.ok.BI b o e)]
theorem Inv.bk(I:Inv X pZ σ H s):∀b o,X.base.get? b=some o->s.heap.get? b=some o:=λb o e=>(I.bs b o e).1
theorem Inv.mod(I:Inv X pZ σ H s):Mod X.K X.mg X.base:=I.ok.mod
theorem Inv.zG(I:Inv X pZ σ H s):X.K.In s.heap:=I.ok.mod.RS.keeps I.bk
theorem Inv.fr(I:Inv X pZ σ H s):∃m,Fr X.base X.env.locals s.heap m:=
 let ⟨m,hn,_⟩:=I.loc
 #[m,hn,I.bk,aP I.ok.GQ I.ok.above]
theorem Inv.lt(I:Inv X pZ σ H s):X.env.locals<s.heap.objs.size:=let ⟨_,hn,_⟩:=I.loc;hn.lt
theorem Inv.sz(I:Inv X pZ σ H s):X.s₀.heap.objs.size<=s.heap.objs.size:=aP I.ok.above (cY I.lt)
theorem Inv.Wo(I:Inv X pZ σ H s){a:Addr}(h:s.heap.objs.size<=a):a∉X.fs:=λhb=>by
 let#[_,o,ho,_]:=I.ok.qI.mem hb;erw[absurd (az (aM ho) (aP I.sz h)) (eh _)]
theorem Inv.NV(I:Inv X pZ σ H s):∀x c,X.env.cells.lookup x=some c->c≠X.env.locals:=λx c e z=>by
 let#[v,o,ho,hd]:=I.cell x c e;let#[m,#[o',es,ep,ho',hd',_],_]:=I.loc;rw[z,ho'] at ho;cases ho;rw[hd'] at hd;cases hd
theorem Inv.qI(I:Inv X pZ σ H s):s.heap.FunFrames X.base X.outer:=by
 have all:∀(l:List Env),(∀b∈vY l,b∈X.fs)->X.s₀.heap.FunFrames X.base l->s.heap.FunFrames X.base l:=by
  intro l;induction l with
  |nil=>intro _ _;trivial
  |cons env r ih=>
   intro hs hl;let#[hk,#[L,o,hf,hn,ho,hd],hr]:=hl;have hL:L∈X.fs:=hs L (by unfold vY;rw[cg,hf];erw[aO]);let#[sl,e]:=I.base.slot L o ho (I.ok.Ky L hL) hL λz=>I.ok.EM L z hL
   exact#[hk,#[L,_,hf,hn,e,hd],ih (λb hb=>hs b (by unfold vY;rw[cg,hf];erw[aB _ hb])) hr]
 erw[all X.outer (λ_ hb=>hb) I.ok.qI]
theorem Inv.stack(I:Inv X pZ σ H s):s.heap.FunFrames X.base X.stack:=by
 rcases I.ok.GO with e|⟨e,hf⟩
 .rw[e];erw[I.qI]
 .rw[e]
  let#[m,hn,_]:=I.loc;rwa[.cons (by rw[I.ok.kind];decide) hf hn ?_ I.qI];erw[Heap.get?_none_of_le (aP I.ok.GQ I.ok.above)]
theorem Inv.uF(I:Inv X pZ σ H s):∀b∈vY X.stack,b∈X.env.locals::X.fs:=λb hb=>by
 rcases I.ok.GO with e|⟨e,hf⟩
 .rw[e] at hb;erw[aB _ hb]
 .rw[e] at hb
  unfold vY at hb;rw[cg,hf] at hb;erw[hb]
theorem Inv.yd(I:Inv X pZ σ H s):∀b∈vY X.stack,H b=none:=λb hb=>by
 rcases aR.mp (I.uF b hb) with e|hb
 .rw[e];erw[I.free]
 .let#[_,o,ho,_]:=I.ok.qI.mem hb
  erw[I.base.free b o ho (I.ok.Ky b hb) λz=>I.ok.EM b z hb]
theorem Inv.step{g':Array GenState}{t':Nat}{d':Drawn}{ch:List Addr}(I:Inv X pZ σ H s)
  (hch:∀b∈ch,(b∈X.ex\/X.s₀.heap.objs.size<=b)/\b≠X.env.locals/\(∀x c,X.env.cells.lookup x=some c->c≠b)/\∀p∈X.pn++pZ,p.1≠b)
  (keep:∀b o,b≠X.env.locals->b∉X.fs->b∉ch->s.heap.get? b=some o->H b=none->h'.get? b=some o)
  (slot:∀b o,b≠X.env.locals->b∈X.fs->b∉ch->s.heap.get? b=some o->H b=none->∃sl,h'.get? b=some {o with slots:=sl}) (free:∀b o,b∉ch->s.heap.get? b=some o->H b=none->H' b=none)
  (there:∀b o,b∉ch->s.heap.get? b=some o->∃o',h'.get? b=some o')
  (z5:∀b xs,H b=some (.tup xs)->H' b=some (.tup xs)) (yb:∀b o u,H b=some (.rV o u)->H' b=some (.rV o u)) (z6:∀b ps,H b=some (.NT ps)->∃more,H' b=some (.NT (ps++more)))
  (ns:∀m,s.heap.Ns X.env.locals m->h'.Ns X.env.locals m) (du:nJ X.prog X.w H' h') (hg:n6 g'):
  Inv X pZ σ H' {s with heap:=h',gens:=g',drawn:=d',toks:=t'}:=by
 have neL:∀b o,X.s₀.heap.get? b=some o->b≠X.env.locals:=λb o e=>aX (az (aM e) I.ok.above)
 have neC:∀b o,X.s₀.heap.get? b=some o->b∉X.ex->b∉ch:=λb o e hx hb=>by
  rcases(hch b hb).1 with z|z
  .erw[hx z]
  .erw[absurd (az (aM e) z) (eh _)]
 have cellK:∀x c,X.env.cells.lookup x=some c->∀v,s.heap.IsCell c v->h'.IsCell c v:=λx c e v #[o,ho,hd]=>by
  have nch:c∉ch:=λz=>(hch c z).2.2.1 x c e rfl
  by_cases hc:c∈X.fs
  .let#[sl,q]:=slot c o (I.NV x c e) hc nch ho (I.ny x c e)
   exact#[_,q,hd]
  .exact#[o,keep c o (I.NV x c e) hc nch ho (I.ny x c e),hd]
 refine#[I.ok,I.os,hg,#[λb o e n hb hx=>?_,λb o e n hb hx=>?_,λb o e n hx=>?_,λb o e hx=>?_,λb xs e=>z5 b xs (I.base.z5 b xs e),λb o xs e=>yb b o xs (I.base.yb b o xs e),λb ps e=>?_],?_,λx c e=>?_,?_,λx c e=>?_,λp hp=>?_,du,I.len]
 .erw[keep b o (neL b o e) hb (neC b o e hx) (I.base.keep b o e n hb hx) (I.base.free b o e n hx)]
 .let#[sl,e1]:=I.base.slot b o e n hb hx
  let#[sl',e2]:=slot b _ (neL b o e) hb (neC b o e hx) e1 (I.base.free b o e n hx);exact#[sl',e2]
 .let#[o',e1]:=I.base.there b o e hx
  erw[free b o' (neC b o e hx) e1 (I.base.free b o e n hx)]
 .let#[o',e1]:=I.base.there b o e hx
  erw[there b o' (neC b o e hx) e1]
 .let#[m1,e1]:=I.base.z6 b ps e
  let#[m2,e2]:=z6 b _ e1;exact#[m1++m2,by rw[e2,Array.append_assoc]]
 .let#[m,hn,hl]:=I.loc
  refine#[m,ns m hn,λi x v e1 e2 e3=>?_];let#[u,r,l]:=hl i x v e1 e2 e3;refine#[u,r,?_];rcases l with l|⟨k,c,e,z⟩
  .erw[.inl l]
  .erw[.inr #[k,c,e,cellK x c e _ z]]
 .let#[v,z]:=I.cell x c e
  exact#[v,cellK x c e v z]
 .let#[m,#[o,_,_,ho,_],_]:=I.loc
  erw[free _ o (λz=>(hch _ z).2.1 rfl) ho I.free]
 .let#[v,o,ho,hd]:=I.cell x c e
  erw[free c o (λz=>(hch c z).2.2.1 x c e rfl) ho (I.ny x c e)]
 .let#[e,n,ne,nf,d]:=I.pin p hp
  have nch:p.1∉ch:=λz=>(hch p.1 z).2.2.2 p hp rfl
  exact#[keep p.1 p.2 ne nf nch e n,free p.1 p.2 nch e n,ne,nf,d]
theorem Inv.un{t':Nat}(I:Inv X pZ σ H s)(u:Un X.fs [] H H' s.heap h')(du:nJ X.prog X.w H' h'):Inv X pZ σ H' {s with heap:=h',toks:=t'}:=by
 let#[m,#[o,es,ep,ho,r],_]:=id I.loc;let#[sl,hL]:=u.any ho I.free (by simp);exact I.step (g':=s.gens) (d':=s.drawn) (ch:=[]) (λ_ z=>nomatch z) (λb o _ hb _ e n=>u.keep b o e n hb (by simp)) (λb o _ hb _ e n=>u.slot b o e n hb (by simp)) (λb o _ e n=>u.free b o e n (by simp)) (λb o _ e=>u.there b o e (by simp)) u.z5 u.yb u.z6 (λm' hm=>by
  let#[o',es',ep',ho',r']:=hm;rw[ho] at ho';cases ho';exact#[_,es',ep',hL,r']) du I.bare
theorem Inv.call{g':Array GenState}{t':Nat}{d':Drawn}{ch:List Addr}(I:Inv X pZ σ H s)(u:Un (vY X.stack) ch H H' s.heap h')(du:nJ X.prog X.w H' h')(hg:n6 g')
  (hch:∀b∈ch,(b∈X.ex\/X.s₀.heap.objs.size<=b)/\b≠X.env.locals/\(∀x c,X.env.cells.lookup x=some c->c≠b)/\∀p∈X.pn++pZ,p.1≠b):
  Inv X pZ σ H' {s with heap:=h',gens:=g',drawn:=d',toks:=t'}:=by
 let#[m,#[o,es,ep,ho,r],_]:=id I.loc;let#[sl,hL]:=u.any ho I.free λz=>(hch _ z).2.1 rfl
 exact I.step (ch:=ch) hch (λb o hL hb hc e n=>u.keep b o e n (λz=>(aR.mp (I.uF b z)).elim hL hb) hc) (λb o _ _ hc e n=>u.any e n hc) (λb o hc e n=>u.free b o e n hc) (λb o hc e=>u.there b o e hc) u.z5 u.yb u.z6 (λm' hm=>by
  let#[o',es',ep',ho',r']:=hm;rw[ho] at ho';cases ho';exact#[_,es',ep',hL,r']) du hg
theorem Inv.turned{t':Nat}{it:Addr}(I:Inv X pZ σ H s)(k:∀b o,b≠it->s.heap.get? b=some o->h'.get? b=some o)(hn:H it=none)(hL:it≠X.env.locals)
  (h1:it∈X.ex\/X.s₀.heap.objs.size<=it) (h2:∀x c,X.env.cells.lookup x=some c->c≠it) (h3:∀p∈X.pn++pZ,p.1≠it):Inv X pZ σ H {s with heap:=h',toks:=t'}:=by
 have nit:∀b u,H b=some u->b≠it:=λb u e z=>by rw[z,hn] at e;cases e
 refine I.step (g':=s.gens) (d':=s.drawn) (ch:=[it]) (λb hb=>?_) (λb o _ _ hc e _=>k b o (λz=>hc (by simp[z])) e) (λb o _ _ hc e _=>#[o.slots,k b o (λz=>hc (by simp[z])) e]) (λ_ _ _ _ n=>n)
  (λb o hc e=>#[o,k b o (λz=>hc (by simp[z])) e]) (λ_ _ e=>e) (λ_ _ _ e=>e) (λb ps e=>#[#[],by rw[e];simp]) (λm hm=>?_) (λb u e=>?_) I.bare
 .have e:b=it:=by simpa using hb
  subst e;exact#[h1,hL,h2,h3]
 .let#[o,es,ep,ho,r]:=hm
  exact#[o,es,ep,k _ o (cA hL) ho,r]
 .refine(I.du b u e).z4 (λc v hc q=>k c v ?_ q) (λ_ q=>q) λ_ _ q=>q
  rcases hc with z|z
  .rw[z];erw[nit b u e]
  .erw[nit c _ z]
theorem Inv.tok(I:Inv X pZ σ H s)(t:Nat):Inv X pZ σ H {s with toks:=t}:=I.un (h':=s.heap) (t':=t) Un.refl I.du
theorem Inv.kept{t':Nat}(I:Inv X pZ σ H s)(k:∀b u,s.heap.get? b=some u->h'.get? b=some u):Inv X pZ σ H {s with heap:=h',toks:=t'}:=I.un (Un.kept k) (I.du.kept k)
theorem Inv.laid{a:Addr}{o:HO}{t':Nat}(I:Inv X pZ σ H s)(k:∀b u,s.heap.get? b=some u->h'.get? b=some u)(hp:s.heap.objs.size<=a)(new:dN X.prog X.w (upd H a o) h' a o):
  Inv X pZ σ (upd H a o) {s with heap:=h',toks:=t'}:=I.un (Un.laid k hp (I.du.fresh hp)) (I.du.laid k hp new)
theorem Inv.write{x e:Addr}{o:HO}{t':Nat}(I:Inv X pZ σ H s)(mu:Rv (H x))(he:e=x\/H e=some (.own x))(k:∀b u,b≠e->s.heap.get? b=some u->h'.get? b=some u)(heo:∃u,h'.get? e=some u)
  (new:dN X.prog X.w (upd H x o) h' x o):Inv X pZ σ (upd H x o) {s with heap:=h',toks:=t'}:=I.un (Un.write mu he k heo) (I.du.write mu he k heo new)
theorem Inv.Di{pins':List (Addr×Obj)}(I:Inv X pZ σ H s)(h:∀p∈pins',s.heap.get? p.1=some p.2/\H p.1=none/\p.1≠X.env.locals/\p.1∉X.fs/\∀v,p.2.data≠.cell v):Inv X pins' σ H s:=
 #[I.ok,I.os,I.bare,I.base,I.loc,I.cell,I.free,I.ny,λp hp=>(aI.mp hp).elim (λz=>I.pin p (bI _ z)) (h p),I.du,I.len]
theorem z8{N:List Str}(hN:N.Nodup){i j:Nat}{x:Str}(a:N[i]?=some x)(b:N[j]?=some x):i=j:=by
 let#[h1,e1]:=ae.mp a;let#[h2,e2]:=ae.mp b;exact(JV hN).mp (e1.trans e2.symm)
theorem wH{M:Model}{A:cF}{E:Value->aq->Prop}{i:Nat}{x:Str}{v:V}{u:Value}{Q:Unit->aq->Prop}(I:Inv X pZ σ H s)(hN:X.N.Nodup)(hi:X.N[i]?=some x)(hx:Loc X.env.scope x)(r:RelV v u)
  (h:∀s',Inv X pZ (σ.set i (some v)) H s'->(∃a,fX a s.heap s'.heap/\(a=X.env.locals\/X.env.cells.lookup x=some a))->Q () s') (hf:X.fn x=true\/X.env.scope.names.lookup x=some .local:=by first|exact .inl rfl|exact .inr rfl|assumption):wpAny M A (storeName X.env x u) Q E s:=by
 let#[m,hn,hl]:=id I.loc;have hcls:(X.env.scope.kind==.class||(X.env.scope.kind==.module&&X.env.locals !=X.env.globals))=false:=by rw[I.ok.kind];rfl
 have hiσ:i<σ.length:=by rw[I.len];exact(ae.mp hi).1
 have NV:=I.NV;have tracked:∀{a:Addr}{h':Heap},(∃o,s.heap.get? a=some o/\H a=none)->fX a s.heap h'->nJ X.prog X.w H h':=λ{a h'}ha hs b ob e=>by
  let#[_,_,hfree]:=ha;refine(I.du b ob e).z4 (λc w' hc q=>(hs.2 c ?_).trans q) (λ_ q=>q) λ_ _ q=>q
  rintro rfl;rcases hc with rfl|hc
  .rw[hfree] at e;cases e
  .rw[hfree] at hc;cases hc
 rcases hx with hk|hk
 .rwa[wpAny_storeName_local hk hn (λh' hn' hs=>?_) hcls]
  let#[oL,_,_,hoL,_]:=id hn;refine h _ #[I.ok,I.os,I.bare,#[λb o e n hb hx=>?_,λb o e n hb hx=>?_,I.base.free,λb o e hx=>?_,I.base.z5,I.base.yb,I.base.z6],#[_,hn',λj y v' e1 e2 e3=>?_],λy c e=>?_,I.free,I.ny,λp hp=>?_,tracked #[oL,hoL,I.free] hs,by simpa using I.len] #[_,hs,.inl rfl]
  .exact(hs.2 b (aX (az (aM e) I.ok.above))).trans (I.base.keep b o e n hb hx)
  .let#[sl,e1]:=I.base.slot b o e n hb hx
   exact#[sl,(hs.2 b (aX (az (aM e) I.ok.above))).trans e1]
  .let#[o',e1]:=I.base.there b o e hx
   exact#[o',(hs.2 b (aX (az (aM e) I.ok.above))).trans e1]
  .by_cases hj:j=i
   .subst hj
    rw[hi] at e1;cases e1;rw[bF hiσ] at e2;cases e2;exact#[u,r,.inl #[hk,by simp]]
   .rw[af (cA hj)] at e2
    let#[u',r',q]:=hl j y v' e1 e2 e3;refine#[u',r',?_];rcases q with⟨k,e⟩|⟨k,c,e,z⟩
    .rwa[.inl #[k,?_]]
     have:y≠x:=λe=>hj (z8 hN e1 (e▸hi))
     simp[this,e]
    .erw[.inr #[k,c,e,z.sameBut hs (NV y c e)]]
  .let#[w',z]:=I.cell y c e
   exact#[w',z.sameBut hs (NV y c e)]
  .let#[e,n,ne,nf,d]:=I.pin p hp
   exact#[(hs.2 p.1 ne).trans e,n,ne,nf,d]
 .have hfn:X.fn x=true:=by
   rcases hf with z|z
   .erw[z]
   .rw[z] at hk;cases hk
  let#[c,hc]:=I.ok.has x (.inl hk);let#[w',z]:=I.cell x c hc;rwa[wpAny_storeName_cell I.ok.kind hk hc z (λh' hc' hs=>?_)];let#[oc,hoc,hocd]:=id z;refine h {s with heap:=h'} #[I.ok,I.os,I.bare,#[λb o e n hb hx=>?_,λb o e n hb hx=>?_,I.base.free,λb o e hx=>?_,I.base.z5,I.base.yb,I.base.z6],#[m,hn.sameBut hs (cA (NV x c hc)),λj y v' e1 e2 e3=>?_],λy c' e=>?_,I.free,I.ny,λp hp=>?_,tracked #[oc,hoc,I.ny x c hc] hs,by simpa using I.len] #[c,hs,.inr hc]
  .exact(hs.2 b (aX (az (aM e) (I.ok.NU x c hfn hc)))).trans (I.base.keep b o e n hb hx)
  .let#[sl,e1]:=I.base.slot b o e n hb hx
   exact#[sl,(hs.2 b (aX (az (aM e) (I.ok.NU x c hfn hc)))).trans e1]
  .let#[o',e1]:=I.base.there b o e hx
   exact#[o',(hs.2 b (aX (az (aM e) (I.ok.NU x c hfn hc)))).trans e1]
  .by_cases hj:j=i
   .subst hj
    rw[hi] at e1;cases e1;rw[bF hiσ] at e2;cases e2;exact#[u,r,.inr #[.inl hk,c,hc,hc']]
   .rw[af (cA hj)] at e2
    let#[u',r',q]:=hl j y v' e1 e2 e3;refine#[u',r',?_];rcases q with q|⟨k,c',e,z'⟩
    .erw[.inl q]
    .rwa[.inr #[k,c',e,z'.sameBut hs ?_]]
     rintro rfl;erw[hj (z8 hN e1 (I.ok.inj _ _ _ e hc▸hi))]
  .by_cases hcc:c'=c
   .subst hcc;exact#[_,hc']
   .let#[w2,z2]:=I.cell y c' e
    exact#[w2,z2.sameBut hs hcc]
  .let#[e,n,ne,nf,d]:=I.pin p hp
   refine#[(hs.2 p.1 ?_).trans e,n,ne,nf,d];intro q;rw[q,hoc] at e;have q':oc=p.2:=aH e;erw[d w' (by rw[<-q'];exact hocd)]
theorem qJ{M:Model}{A:cF}{E:Value->aq->Prop}{i:Nat}{x:Str}{v:V}{u:Value}{Q:Unit->aq->Prop}(I:Inv X pZ σ H s)(hN:X.N.Nodup)(hi:X.N[i]?=some x)(hx:Loc X.env.scope x)(r:RelV v u)
  (h:∀s',Inv X pZ (σ.set i (some v)) H s'->Q () s') (hf:X.fn x=true\/X.env.scope.names.lookup x=some .local:=by first|exact .inl rfl|exact .inr rfl|assumption):wpAny M A (storeName X.env x u) Q E s:=
 wH I hN hi hx r (λs' I' _=>h s' I') hf
theorem Inv.Ni{s':aq}{ch:List Addr}(I:Inv X pZ σ H s)(ho:s'.os=s.os)(u:Un (vY X.stack) ch H H' s.heap s'.heap)(du:nJ X.prog X.w H' s'.heap)(hg:n6 s'.gens)
  (hch:∀b∈ch,(b∈X.ex\/X.s₀.heap.objs.size<=b)/\b≠X.env.locals/\(∀x c,X.env.cells.lookup x=some c->c≠b)/\∀p∈X.pn++pZ,p.1≠b):Inv X pZ σ H' s':=by
 let#[h',g',d',t',o']:=s';have e:o'=s.os:=ho;subst e;erw[I.call (g':=g') (t':=t') (d':=d') u du hg hch]
end
abbrev XK:=Value->Option Addr->Hp->Prop
abbrev St:=List (Option V)
abbrev VK:=V->Hp->Prop
abbrev TE:=St->Hp->VK->Prop
abbrev TT:=St->Hp->(Bool->Hp->Prop)->Prop
abbrev TA:=St->Hp->(List V->Hp->Prop)->Prop
structure Ends where
 nx:St->Hp->Prop
 rt:VK
 bk:St->Hp->Prop:=λ_ _=>False
 ct:St->Hp->Prop:=λ_ _=>False
abbrev TS:=Ends->St->Hp->Prop
def EP(X:Cx)(pZ:List (Addr×Obj))(σ:St)(Q:VK)(u:Value)(s':aq):Prop:=∃v H',Inv X pZ σ H' s'/\RelV v u/\Q v H'
def TP(X:Cx)(pZ:List (Addr×Obj))(σ:St)(Q:Bool->Hp->Prop)(b:Bool)(s':aq):Prop:=∃H',Inv X pZ σ H' s'/\Q b H'
def AP(X:Cx)(pZ:List (Addr×Obj))(σ:St)(Q:List V->Hp->Prop)(us:List Value)(s':aq):Prop:=∃vs H',Inv X pZ σ H' s'/\Vals vs us/\Q vs H'
def SP(X:Cx)(pZ:List (Addr×Obj))(D:Ends)(f:Flow)(s':aq):Prop:=
 match f with
 |.next=>∃σ' H',Inv X pZ σ' H' s'/\D.nx σ' H'
 |.brk=>∃σ' H',Inv X pZ σ' H' s'/\D.bk σ' H'
 |.cont=>∃σ' H',Inv X pZ σ' H' s'/\D.ct σ' H'
 |.ret u=>∃v σ' H',Inv X pZ σ' H' s'/\RelV v u/\D.rt v H'
def PE(X:Cx)(e:Expr)(t:TE):Prop:=
 ∀(pZ:List (Addr×Obj))(s:aq)(σ:St)(H:Hp)(Q:VK),Inv X pZ σ H s->t σ H Q->wpAny (bb X.prog X.w) X.A (eval e X.env) (EP X pZ σ Q) X.xe s
def PT(X:Cx)(e:Expr)(t:TT):Prop:=
 ∀(pZ:List (Addr×Obj))(s:aq)(σ:St)(H:Hp)(Q:Bool->Hp->Prop),Inv X pZ σ H s->t σ H Q->wpAny (bb X.prog X.w) X.A (isTrue e X.env (eval e X.env)) (TP X pZ σ Q) X.xe s
def PW(X:Cx)(e:Expr)(t:TT):Prop:=
 ∀(whole:Sem Value)(pZ:List (Addr×Obj))(s:aq)(σ:St)(H:Hp)(Q:Bool->Hp->Prop),Inv X pZ σ H s->t σ H Q->wpAny (bb X.prog X.w) X.A (isTrue e X.env whole) (TP X pZ σ Q) X.xe s
theorem PW.pt{X:Cx}{e:Expr}{t:TT}(h:PW X e t):PT X e t:=h _
def PA(X:Cx)(es:List Expr)(t:TA):Prop:=
 ∀(pos:Pos)(pZ:List (Addr×Obj))(s:aq)(σ:St)(H:Hp)(Q:List V->Hp->Prop),Inv X pZ σ H s->t σ H Q->wpAny (bb X.prog X.w) X.A (spliced (iw pos (bR es X.env))) (AP X pZ σ Q) X.xe s
def PS(X:Cx)(st:Stmt)(t:TS):Prop:=
 ∀(pZ:List (Addr×Obj))(s:aq)(σ:St)(H:Hp)(D:Ends),Inv X pZ σ H s->t D σ H->wpAny (bb X.prog X.w) X.A (exec st X.env) (SP X pZ D) X.xe s
def vZ(X:Cx)(st:List Stmt)(t:TS):Prop:=
 ∀(pZ:List (Addr×Obj))(s:aq)(σ:St)(H:Hp)(D:Ends),Inv X pZ σ H s->t D σ H->wpAny (bb X.prog X.w) X.A (execs st X.env) (SP X pZ D) X.xe s
theorem eO{α:Type}{t:Sem α}{Q Q':α->aq->Prop}{M:Model}{A:cF}{E:Value->aq->Prop}{s:aq}(h:wpAny M A t Q E s)(hQ:∀a s,Q a s->Q' a s):wpAny M A t Q' E s:=bZ h hQ λ_ _ x=>x
section
variable{X:Cx}
def Wq(i:Nat):TE:=λσ H Q=>∃v,σ[i]?=some (some v)/\Q v H
def tC(v:V):TE:=λ_ H Q=>Q v H
theorem NW{i:Nat}{x:Str}{pos:Pos}(hN:X.N[i]?=some x)(hv:RT X.env.scope x)(hd:(x==("__debug__":Str))=false:=by decide)(hcd:(x==("__classdict__":Str))=false:=by decide):PE X (.Name x pos) (Wq i):=by
 k_go;let#[v,e,h]:=h;let#[m,hn,hl]:=I.loc;let#[u,r,l]:=hl i x v hN e hv;have fin:EP X pZ σ Q u s:=#[v,H,I,r,h]
 rcases l with⟨hk,hm⟩|⟨hk,c,hc,hcell⟩
 .erw[wpAny_Name (Km I.ok.kind hk hn hm fin) hd]
 .rcases hk with hk|hk
  .erw[wpAny_Name (wpAny_loadName_cell I.ok.kind hk hc hcell fin) hd]
  .erw[wpAny_Name (wpAny_loadName_free I.ok.kind hk hc hcell fin hcd) hd]
theorem NX{i j pos}:PE X (.Constant (.int i) j pos) (tC (.int i)):=λ_ _ _ H _ I h=>wpAny_Constant_int #[.int i,H,I.tok _,#[_,rfl],h]
theorem RV{b j pos}:PE X (.Constant (.bool b) j pos) (tC (.bl b)):=λ_ _ _ H _ I h=>Constant_bool #[.bl b,H,I,rfl,h]
theorem NY{j pos}:PE X (.Constant .none j pos) (tC .bV):=λ_ _ _ H _ I h=>Constant_none #[.bV,H,I,rfl,h]
theorem NZ{x j pos}:PE X (.Constant (.str x) j pos) (tC (.str x)):=λ_ _ _ H _ I h=>Calls.Constant_str #[.str x,H,I.tok _,#[_,rfl],h]
def Gl(X:Cx)(x:Str):Prop:=X.env.kindOf x=some .globalImplicit
theorem qK{E:Value->aq->Prop}{pZ:List (Addr×Obj)}{s:aq}{σ:St}{H:Hp}{x:Str}{u:Value}{pos:Pos}{Q:Value->aq->Prop}(I:Inv X pZ σ H s)(hg:Gl X x)(hm:X.mg x=some u)(h:Q u s)
  (hd:(x==("__debug__":Str))=false:=by decide):wpAny (bb X.prog X.w) X.A (eval (.Name x pos) X.env) Q E s:=
 vQ I.ok.kind hg (Calls.loadGlobal_global (by rw[I.ok.glob];erw[I.mod.glob.keeps I.bk]) hm h) hd
theorem rX{E:Value->aq->Prop}{pZ:List (Addr×Obj)}{s:aq}{σ:St}{H:Hp}{x:Str}{u:Value}{pos:Pos}{Q:Value->aq->Prop}(I:Inv X pZ σ H s)(hg:Gl X x)(hm:X.mg x=none)(hv:pY x=some u)(h:Q u s)
  (hn:x≠"__name__":=by decide) (hd:(x==("__debug__":Str))=false:=by decide):wpAny (bb X.prog X.w) X.A (eval (.Name x pos) X.env) Q E s:=by
 let#[mb,h1,h2]:=I.mod.blt;erw[vQ I.ok.kind hg (Calls.loadGlobal_builtin (by rw[I.ok.glob];exact I.mod.glob.keeps I.bk) hm (by rw[I.ok.blt];exact h1.keeps I.bk) ((h2 x hn).trans hv) h) hd]
theorem Kz{x:Str}{v:V}{u:Value}{pos:Pos}(hg:Gl X x)(hm:X.mg x=some u)(r:RelV v u)(hd:(x==("__debug__":Str))=false:=by decide):PE X (.Name x pos) (tC v):=
 λ_ _ _ H _ I h=>qK I hg hm #[v,H,I,r,h] hd
variable{a b:Expr}{ta tb:TE}{pos:Pos}
variable{tA tB':TT}{rest:List Expr}
def Wr(t u:TT):TT:=λσ H Q=>t σ H λc H1=>if c=true then u σ H1 Q else Q false H1
def ZV(t u:TT):TT:=λσ H Q=>t σ H λc H1=>if c=true then Q true H1 else u σ H1 Q
def Ws(t:TT):TT:=λσ H Q=>t σ H λc H1=>Q (!c) H1
theorem KA(ha:PT X a tA):PW X (.BoolOp .And [a] pos) tA:=by
 intro wh pZ s σ H Q I h;rwa[isTrue_and (eO (ha pZ s σ H Q I h) λc s1 e=>?_)];cases c with
 |true=>erw[isTrue_and_nil e]
 |false=>erw[e]
theorem N0(ha:PT X a tA):PW X (.BoolOp .Or [a] pos) tA:=by
 intro wh pZ s σ H Q I h;rwa[isTrue_or (eO (ha pZ s σ H Q I h) λc s1 e=>?_)];cases c with
 |false=>erw[isTrue_or_nil e]
 |true=>erw[e]
theorem N1(ha:PT X a tA)(hb:PW X (.BoolOp .And (b::rest) pos) tB'):PW X (.BoolOp .And (a::b::rest) pos) (Wr tA tB'):=by
 intro wh pZ s σ H Q I h;rwa[isTrue_and (eO (ha pZ s σ H _ I h) λc s1 h9=>?_)];let#[H1,I1,q1]:=h9;cases c with
 |true=>erw[hb wh pZ s1 σ H1 Q I1 q1]
 |false=>exact#[H1,I1,q1]
theorem RW(ha:PT X a tA)(hb:PW X (.BoolOp .Or (b::rest) pos) tB'):PW X (.BoolOp .Or (a::b::rest) pos) (ZV tA tB'):=by
 intro wh pZ s σ H Q I h;rwa[isTrue_or (eO (ha pZ s σ H _ I h) λc s1 h9=>?_)];let#[H1,I1,q1]:=h9;cases c with
 |true=>exact#[H1,I1,q1]
 |false=>erw[hb wh pZ s1 σ H1 Q I1 q1]
theorem N2(ha:PT X a tA):PT X (.UnaryOp .Not a pos) (Ws tA):=by
 k_go;erw[isTrue_not (ha pZ s σ H (λc H1=>Q (!c) H1) I h)]
def RX(ta tb:TE):TE:=λσ H Q=>ta σ H λx H1=>∃c,x=.bl c/\if c=true then tb σ H1 Q else Q (.bl false) H1
def Wt(ta tb:TE):TE:=λσ H Q=>ta σ H λx H1=>∃c,x=.bl c/\if c=true then Q (.bl true) H1 else tb σ H1 Q
def RY(ta:TE):TE:=λσ H Q=>ta σ H λx H1=>∃c,x=.bl c/\Q (.bl (!c)) H1
theorem N3{op}{t:TE}(h:PE X a t):PE X (.BoolOp op [a] pos) t:=λpZ s σ H Q I hw=>BoolOp_one (h pZ s σ H Q I hw)
theorem N4(ha:PE X a ta)(hb:PE X (.BoolOp .And (b::rest) pos) tb):PE X (.BoolOp .And (a::b::rest) pos) (RX ta tb):=by
 k_go;rwa[BoolOp_and (eO (ha pZ s σ H _ I h) λv s1 h9=>?_)];let#[x,H1,I1,r1,q1]:=h9;let#[c,rfl,q1]:=q1;cases r1;rwa[cV ?_];cases c with
 |true=>erw[hb pZ s1 σ H1 Q I1 q1]
 |false=>exact#[.bl false,H1,I1,rfl,q1]
theorem RZ(ha:PE X a ta)(hb:PE X (.BoolOp .Or (b::rest) pos) tb):PE X (.BoolOp .Or (a::b::rest) pos) (Wt ta tb):=by
 k_go;rwa[BoolOp_or (eO (ha pZ s σ H _ I h) λv s1 h9=>?_)];let#[x,H1,I1,r1,q1]:=h9;let#[c,rfl,q1]:=q1;cases r1;rwa[cV ?_];cases c with
 |false=>erw[hb pZ s1 σ H1 Q I1 q1]
 |true=>exact#[.bl true,H1,I1,rfl,q1]
theorem N5(ha:PE X a ta):PE X (.UnaryOp .Not a pos) (RY ta):=by
 k_go;rwa[UnaryOp_ (eO (ha pZ s σ H _ I h) λv s1 h9=>?_)];let#[x,H1,I1,r1,q1]:=h9;let#[c,rfl,q1]:=q1;cases r1;erw[not_of (cV #[.bl (!c),H1,I1,rfl,q1])]
def ZW(t:TT)(ta tb:TE):TE:=λσ H Q=>t σ H λc H1=>if c=true then ta σ H1 Q else tb σ H1 Q
theorem GU{c:Expr}(hc:PT X c tA)(ha:PE X a ta)(hb:PE X b tb):PE X (.IfExp c a b pos) (ZW tA ta tb):=by
 k_go;rwa[wpAny_IfExp (eO (hc pZ s σ H _ I h) λd s1 h9=>?_)];let#[H1,I1,q1]:=h9;cases d with
 |true=>erw[ha pZ s1 σ H1 Q I1 q1]
 |false=>erw[hb pZ s1 σ H1 Q I1 q1]
end
def iT(K:aG)(H:Hp)(a:Addr)(xs:List V):Prop:=
 Rd H a (.lst xs) \/
  ∃(o:Obj)(its:Array Value)(n:Nat),K.lookup a=some o/\o.cls=.type "list"/\o.dict=none/\o.data=.seq its n/\its.size<=sizeLine/\Vals xs its.toList
def lY(K:aG)(H:Hp)(a:Addr)(xs:List V):Prop:=
 Rd H a (.tup xs) \/
  ∃(o:Obj)(its:Array Value)(n:Nat),K.lookup a=some o/\o.cls=.type "tuple"/\o.data=.seq its n/\its.size<=sizeLine/\Vals xs its.toList
noncomputable def Wu:Value->Option V
 |.none=>some .bV
 |.bool b=>some (.bl b)
 |.int i _=>some (.int i)
 |.str x _=>some (.str x)
 |.bytes b _=>some (.Bq b)
 |.float b _=>some (.VN b)
 |.ref a=>some (.ref a)
 |.type n=>some (.ty n)
 |_=>none
theorem RelV.abs{x:V}{u:Value}(r:RelV x u):Wu u=some x:=by
 cases x with
 |bV=>cases r;rfl
 |bl _=>cases r;rfl
 |int _=>let#[t,rfl]:=r;rfl
 |str _=>let#[t,rfl]:=r;rfl
 |Bq _=>let#[t,rfl]:=r;rfl
 |VN _=>let#[t,rfl]:=r;rfl
 |ref _=>cases r;rfl
 |ty _=>cases r;rfl
theorem RelV.inj{x y:V}{u:Value}(r:RelV x u)(q:RelV y u):x=y:=aH (r.abs.symm.trans q.abs)
theorem Vals.inj:∀{xs ys:List V}{us:List Value},Vals xs us->Vals ys us->xs=ys
 |_,_,_,.nil,.nil=>rfl
 |_,_,_,.cons r t,.cons r' t'=>by rw[r.inj r',Vals.inj t t']
section
variable{X:Cx}{pZ:List (Addr×Obj)}{σ:St}{H:Hp}{s:aq}{a:Addr}{xs ys:List V}
theorem iT.of{K:aG}(h:H a=some (.lst xs)):iT K H a xs:=.inl (.inl h)
theorem lY.of{K:aG}(h:H a=some (.tup xs)):lY K H a xs:=.inl (.inl h)
theorem Inv.list(I:Inv X pZ σ H s)(h:iT X.K H a xs):∃its:List Value,Vals xs its/\PlainL s.heap a its.toArray/\xs.length<=sizeLine:=by
 rcases h with h|⟨o,its,n,hk,hc,hd,hs,hz,r⟩
 .let#[z,its,n,r,e]:=h.ok I.du
  exact#[its,r,#[_,n,e,rfl,rfl,rfl],z]
 .refine#[its.toList,r,#[o,n,I.zG a o hk,hc,hd,by simpa using hs],?_]
  have e:=r.length;dsimp[p6] at e;omega
theorem Inv.tuple(I:Inv X pZ σ H s)(h:lY X.K H a xs):∃its:List Value,Vals xs its/\IsTup s.heap a its.toArray/\xs.length<=sizeLine:=by
 rcases h with h|⟨o,its,n,hk,hc,hs,hz,r⟩
 .let#[z,its,r,p]:=h.ok I.du
  exact#[its,r,p,z]
 .refine#[its.toList,r,#[o,I.zG a o hk,hc,n,by simpa using hs],?_]
  have e:=r.length;dsimp[p6] at e;omega
theorem Inv.uG(I:Inv X pZ σ H s)(h:iT X.K H a xs)(h':iT X.K H a ys):xs=ys:=by
 let#[its,r,#[o,n,e,_,_,d],_]:=I.list h;let#[its',r',#[o',n',e',_,_,d'],_]:=I.list h';rw[e] at e';cases e';rw[d] at d';injection d' with d1 _
 have:its=its':=by simpa using congrArg zO d1
 subst this;erw[r.inj r']
theorem Inv.wI(I:Inv X pZ σ H s)(h:lY X.K H a xs)(h':lY X.K H a ys):xs=ys:=by
 let#[its,r,#[o,e,_,n,d],_]:=I.tuple h;let#[its',r',#[o',e',_,n',d'],_]:=I.tuple h';rw[e] at e';cases e';rw[d] at d';injection d' with d1 _
 have:its=its':=by simpa using congrArg zO d1
 subst this;erw[r.inj r']
end
section
variable{X:Cx}{st:Stmt}{rest:List Stmt}{t u:TS}{e:Expr}{te:TE}{pos:Pos}
def R6:TS:=λD σ H=>D.nx σ H
def Wv(t u:TS):TS:=λD σ H=>t {D with nx:=u D} σ H
theorem KC:vZ X [] R6:=λ_ _ σ H _ I h=>qt #[σ,H,I,h]
theorem GV(h1:PS X st t)(h2:vZ X rest u):vZ X (st::rest) (Wv t u):=by
 intro pZ s σ H D I h;refine wpAny_execs_cons (eO (h1 pZ s σ H {D with nx:=u D} I h) λf s1 q=>?_);cases f with
 |next=>
  let#[σ',H',I',q]:=q;erw[h2 pZ s1 σ' H' D I' q]
 |ret v=>erw[q]
 |brk=>erw[q]
 |cont=>erw[q]
theorem Inv.quiet{pZ:List (Addr×Obj)}{σ:St}{H:Hp}{s:aq}(I:Inv X pZ σ H s):interactive X.env=false:=by simp[interactive,I.ok.kind]
def R7(te:TE):TS:=λD σ H=>te σ H λ_ H1=>D.nx σ H1
theorem KD(he:PE X e te)(hs:hU e none pos.line X.env=pure false:=by rfl):PS X (.Expr e pos) (R7 te):=by
 intro pZ s σ H D I h;rwa[wpAny_Expr_any (eO (he pZ s σ H _ I h) λv s1 h9=>?_) I.quiet hs];let#[x,H1,I1,r1,q1]:=h9;exact#[σ,H1,I1,q1]
def Ww(te:TE):TS:=λD σ H=>te σ H D.rt
theorem N6(he:PE X e te):PS X (.Return (some e) pos) (Ww te):=by
 intro pZ s σ H D I h;rwa[wpAny_Return_some (eO (he pZ s σ H _ I h) λv s1 h9=>?_)];let#[x,H1,I1,r1,q1]:=h9;exact#[x,σ,H1,I1,r1,q1]
def Wx(c:TT)(t u:TS):TS:=λD σ H=>c σ H λb H1=>if b=true then t D σ H1 else u D σ H1
theorem R8{c:Expr}{a b:List Stmt}{tc:TT}(hc:PT X c tc)(ha:vZ X a t)(hb:vZ X b u):PS X (.If c a b pos) (Wx tc t u):=by
 intro pZ s σ H D I h;rwa[wpAny_If (eO (hc pZ s σ H _ I h) λd s1 h9=>?_)];let#[H1,I1,q1]:=h9;cases d with
 |true=>erw[ha pZ s1 σ H1 D I1 q1]
 |false=>erw[hb pZ s1 σ H1 D I1 q1]
end
abbrev TG:=V->St->Hp->(St->Hp->Prop)->Prop
abbrev N7:=List V->St->Hp->(St->Hp->Prop)->Prop
def PG(X:Cx)(target:Expr)(t:TG):Prop:=
 ∀(pZ:List (Addr×Obj))(s:aq)(σ:St)(H:Hp)(v:V)(u:Value)(Q:St->Hp->Prop),Inv X pZ σ H s->RelV v u->t v σ H Q ->
  wpAny (bb X.prog X.w) X.A (xM target X.env u) (λ_ s'=>∃σ' H',Inv X pZ σ' H' s'/\Q σ' H') X.xe s
def VP(X:Cx)(ts:List Expr)(t:N7):Prop:=
 ∀(pZ:List (Addr×Obj))(s:aq)(σ:St)(H:Hp)(vs:List V)(us:List Value)(Q:St->Hp->Prop),Inv X pZ σ H s->Vals vs us->t vs σ H Q ->
  wpAny (bb X.prog X.w) X.A (assignInOrder ((uz ts X.env).map (·.2)) us) (λ_ s'=>∃σ' H',Inv X pZ σ' H' s'/\Q σ' H') X.xe s
abbrev N8:=V->V->V->Hp->(Hp->Prop)->Prop
def R9(X:Cx)(t:N8):Prop:=
 ∀(pZ:List (Addr×Obj))(s:aq)(σ:St)(H:Hp)(o i v:V)(ov iv u:Value)(Q:Hp->Prop),Inv X pZ σ H s->RelV o ov->RelV i iv->RelV v u->t o i v H Q ->
  wpAny (bb X.prog X.w) X.A (setItem ov iv u) (λ_ s'=>∃H',Inv X pZ σ H' s'/\Q H') X.xe s
abbrev Sa:=V->V->Hp->VK->Prop
def YF(X:Cx)(op:gO)(t:Sa):Prop:=
 ∀(pZ:List (Addr×Obj))(s:aq)(σ:St)(H:Hp)(x y:V)(v u:Value)(Q:VK),Inv X pZ σ H s->RelV x v->RelV y u->t x y H Q ->
  wpAny (bb X.prog X.w) X.A (ic op v u) (EP X pZ σ Q) X.xe s
section
variable{X:Cx}{pos:Pos}
def wJ(i:Nat):TG:=λv σ H Q=>Q (σ.set i (some v)) H
theorem qL{i:Nat}{x:Str}(hN:X.N.Nodup)(hi:X.N[i]?=some x)(hx:Loc X.env.scope x)(hf:X.fn x=true\/X.env.scope.names.lookup x=some .local:=by first|exact .inl rfl|exact .inr rfl|assumption):PG X (.Name x pos) (wJ i):=by
 intro pZ s σ H v u Q I r h;erw[vR (qJ I hN hi hx r (λs' I'=>#[_,H,I',h]) hf)]
noncomputable def Wy:N7:=λvs σ H Q=>vs=[]/\Q σ H
noncomputable def Sb(t:TG)(u:N7):N7:=λvs σ H Q=>∃v r,vs=v::r/\t v σ H λσ' H'=>u r σ' H' Q
theorem Dj:VP X [] Wy:=by
 intro pZ s σ H vs us Q I r h;let#[e,h]:=h;subst e;cases r;erw[assignInOrder_nil #[σ,H,I,h]]
theorem qM{e:Expr}{es:List Expr}{t:TG}{u:N7}(h1:PG X e t)(h2:VP X es u)
  (hs:(uz (e::es) X.env).map (·.2)=xM e X.env::(uz es X.env).map (·.2):=by rfl):VP X (e::es) (Sb t u):=by
 intro pZ s σ H vs us Q I r h;let#[v,vr,e1,h]:=h;subst e1;cases r with
 |cons r rr=>
  rw[hs]
  rwa[assignInOrder_cons (eO (h1 pZ s σ H _ _ _ I r h) λ_ s1 h9=>?_)];let#[σ1,H1,I1,q1]:=h9;erw[h2 pZ s1 σ1 H1 _ _ Q I1 rr q1]
def Wz(K:aG)(n:Nat)(t:N7):TG:=λv σ H Q=>∃a xs,v=.ref a/\lY K H a xs/\xs.length=n/\t xs σ H Q
theorem GX{es:List Expr}{k:Nat}{t:N7}{n:Nat}(hc:X.calm=true)(h:VP X es t)
  (hn:(uz es X.env).length=n:=by rfl) (hst:(uz es X.env).findIdx? (·.1)=none:=by rfl):PG X (.Tuple es k pos) (Wz X.K n t):=by
 intro pZ s σ H v u Q I r hw;let#[a,xs,e1,hq,hl,hw]:=hw;subst e1;cases r;let#[its,rv,ht,hz]:=I.tuple hq;rwa[assign_Tuple_tuple (I.ok.hd hc) ht (by simp[hn,<-hl,rv.length]) hst λh' hx=>?_]
 have I1:Inv X pZ σ H {s with heap:=h'}:=I.kept (t':=s.toks) λb o e=>hx b o (aX (aM e)) e
 exact h pZ _ σ H xs _ Q I1 (by simpa using rv) hw
def Sd(te:TE)(g:TG):TS:=λD σ H=>te σ H λx H1=>g x σ H1 D.nx
theorem GY{i:Nat}{x:Str}{e:Expr}{te:TE}{pos':Pos}(hN:X.N.Nodup)(hi:X.N[i]?=some x)(hx:Loc X.env.scope x)(he:PE X e te)(hs:hU e (some (.Name x pos')) pos.line X.env=pure false:=by rfl)(hf:X.fn x=true\/X.env.scope.names.lookup x=some .local:=by first|exact .inl rfl|exact .inr rfl|assumption):
  PS X (.Assign [.Name x pos'] e pos) (Sd te (wJ i)):=by
 intro pZ s σ H D I h;rwa[wpAny_Assign_Name (eO (he pZ s σ H _ I h) λv s1 h9=>?_) hs];let#[y,H1,I1,r1,q1]:=h9;erw[qJ I1 hN hi hx r1 (λs2 I2=>#[_,H1,I2,q1]) hf]
def WA(i:Nat)(te:TE)(ti:Sa):TS:=λD σ H=>∃x,σ[i]?=some (some x)/\te σ H λy H1=>ti x y H1 λz H2=>D.nx (σ.set i (some z)) H2
theorem N9{i:Nat}{x:Str}{e:Expr}{te:TE}{op:gO}{ti:Sa}{pos':Pos}(hN:X.N.Nodup)(hi:X.N[i]?=some x)(hx:Loc X.env.scope x)(he:PE X e te)(ho:YF X op ti)(hf:X.fn x=true\/X.env.scope.names.lookup x=some .local:=by first|exact .inl rfl|exact .inr rfl|assumption):
  PS X (.AugAssign (.Name x pos') op e pos) (WA i te ti):=by
 intro pZ s σ H D I h;let#[v,e1,h]:=h;let#[m,hn,hl]:=I.loc;have vis:RT X.env.scope x:=by rcases hx with k|k;erw[.inl k];erw[.inr (.inl k)]
 let#[u,r,l]:=hl i x v hi e1 vis;refine wpAny_AugAssign_Name ?_;have go:wpAny (bb X.prog X.w) X.A (eval e X.env) (λw s₂=>wpAny (bb X.prog X.w) X.A (ic op u w) (λr s₃=>wpAny (bb X.prog X.w) X.A (storeName X.env x r) (λ_=>SP X pZ D .next) X.xe s₃) X.xe s₂) X.xe s:=by
  rwa[eO (he pZ s σ H _ I h) λw s1 h9=>?_]
  let#[y,H1,I1,r1,q1]:=h9;rwa[eO (ho pZ s1 σ H1 v y u w _ I1 r r1 q1) λz s2 h9=>?_]
  let#[zv,H2,I2,r2,q2]:=h9;erw[qJ I2 hN hi hx r2 (λs3 I3=>#[_,H2,I3,q2]) hf]
 rcases l with⟨hk,hm⟩|⟨hk,c,hc,hcell⟩
 .erw[Km I.ok.kind hk hn hm go]
 .rcases hk with hk|hk
  .erw[wpAny_loadName_cell I.ok.kind hk hc hcell go]
  .rcases hx with k|k
   .have:X.env.scope.names.lookup x=some .free:=hk
    rw[k] at this;cases this
   .have:X.env.scope.names.lookup x=some .free:=hk
    rw[k] at this;cases this
def Se(to ti te:TE)(tget:V->V->Hp->VK->Prop)(tip:Sa)(tset:N8):TS:=λD σ H=>to σ H λo H1=>ti σ H1 λi H2=>tget o i H2 λx H3=>te σ H3 λy H4=>tip x y H4 λz H5=>tset o i z H5 λH6=>D.nx σ H6
def Sf(X:Cx)(t:V->V->Hp->VK->Prop):Prop:=
 ∀(pZ:List (Addr×Obj))(s:aq)(σ:St)(H:Hp)(o i:V)(ov iv:Value)(Q:VK),Inv X pZ σ H s->RelV o ov->RelV i iv->t o i H Q ->
  wpAny (bb X.prog X.w) X.A (n8 ov iv) (EP X pZ σ Q) X.xe s
theorem KG{o i e:Expr}{to ti te:TE}{tget:V->V->Hp->VK->Prop}{tip:Sa}{tset:N8}{op:gO}{tpos:Pos}(ho:PE X o to)(hi:PE X i ti)(hg:Sf X tget)(he:PE X e te)(hp:YF X op tip)(hs:R9 X tset)
  (ha:∀ov iv new,augStore i ov iv new=(do holding [new,ov,iv] (setItem ov iv new);release [new,ov,iv] [];pure .next):=by intros;rfl):PS X (.AugAssign (.Subscript o i tpos) op e pos) (Se to ti te tget tip tset):=by
 intro pZ s σ H D I h;rwa[wpAny_AugAssign_SubscriptAny (eO (ho pZ s σ H _ I h) λov s1 h9=>?_) ha];let#[x1,H1,I1,r1,q1]:=h9;rwa[eO (hi pZ s1 σ H1 _ I1 q1) λiv s2 h9=>?_]
 let#[x2,H2,I2,r2,q2]:=h9;rwa[eO (hg pZ s2 σ H2 x1 x2 ov iv _ I2 r1 r2 q2) λold s3 h9=>?_]
 let#[x3,H3,I3,r3,q3]:=h9;rwa[eO (he pZ s3 σ H3 _ I3 q3) λv s4 h9=>?_]
 let#[x4,H4,I4,r4,q4]:=h9;rwa[eO (hp pZ s4 σ H4 x3 x4 old v _ I4 r3 r4 q4) λnew s5 h9=>?_]
 let#[x5,H5,I5,r5,q5]:=h9;rwa[eO (hs pZ s5 σ H5 x1 x2 x5 ov iv new _ I5 r1 r2 r5 q5) λ_ s6 h9=>?_]
 let#[H6,I6,q6]:=h9;exact#[σ,H6,I6,q6]
end
section
variable{X:Cx}{pos:Pos}
def Oa(c:TT)(tb:TS):TS:=λD σ H=>∃W:Nat->St->Hp->Prop,(∃m,W m σ H)/\∀m σ H,W m σ H ->
 c σ H λb H1=>if b=true then ∃N:St->Hp->Prop,(∀σ' H',N σ' H'->∃m',m'<m/\W m' σ' H')/\tb {D with nx:=N,ct:=N,bk:=D.nx} σ H1 else D.nx σ H1
theorem GZ{c:Expr}{body:List Stmt}{tc:TT}{tb:TS}(hp:F5 (bb X.prog X.w) X.A X.env X.xe)(hc:PT X c tc)(hb:vZ X body tb):PS X (.While c body [] pos) (Oa tc tb):=by
 intro pZ s σ H D I h;let#[W,#[m0,w0],turn]:=h;rwa[wpAny_While (codeAny_whileLoop (λn s'=>∃σ' H',Inv X pZ σ' H' s'/\W n σ' H') ?_ m0 #[σ,H,I,w0])];rintro n s1 ⟨σ1,H1,I1,w1⟩;rwa[gQ hp (eO (hc pZ s1 σ1 H1 _ I1 (turn n σ1 H1 w1)) λb s2 h9=>?_)];let#[H2,I2,q2]:=h9;cases b with
 |true=>
  let#[N,hN,q2]:=q2;rw[if_pos rfl]
  rwa[gQ hp (eO (hb pZ s2 σ1 H2 _ I2 q2) λf s3 q3=>?_)];cases f with
  |next=>
   let#[σ3,H3,I3,n3]:=q3;let#[m',hm,w3]:=hN σ3 H3 n3;exact#[m',hm,σ3,H3,I3,w3]
  |cont=>
   let#[σ3,H3,I3,n3]:=q3;let#[m',hm,w3]:=hN σ3 H3 n3;exact#[m',hm,σ3,H3,I3,w3]
  |brk=>erw[q3]
  |ret v=>erw[q3]
 |false=>
  rw[if_neg aS]
  erw[qt #[σ1,H2,I2,q2]]
end
structure It where
 go:Nat->Hp->Prop
 Sg:Nat->Hp->V->Hp->Prop
 stop:Nat->Hp->Prop
def p9(X:Cx)(pZ:List (Addr×Obj))(H:Hp)(b:Addr):Prop:=
 H b=none/\b≠X.env.locals/\b∉X.fs/\(b∈X.ex\/X.s₀.heap.objs.size<=b)/\(∀x c,X.env.cells.lookup x=some c->c≠b)/\∀p∈X.pn++pZ,p.1≠b
theorem Inv.BJ{X:Cx}{pZ:List (Addr×Obj)}{σ:St}{H H':Hp}{s:aq}{b:Addr}(I:Inv X pZ σ H s)(hb:s.heap.objs.size<=b)(hn:H' b=none):p9 X pZ H' b:=by
 refine#[hn,cZ (az I.lt hb),I.Wo hb,.inr (aP I.sz hb),λx c e z=>?_,λp hp z=>?_]
 .let#[v,q]:=I.cell x c e
  erw[absurd (az q.lt (by rw[z];exact hb)) (eh _)]
 .erw[absurd (az (aM (I.pin p hp).1) (by rw[z];exact hb)) (eh _)]
structure Turn(P:bf)(w:bJ)(K:aG)(tg:Expr)(J:It)(fp:List Addr)(it:Addr)(tn:Nat->Heap->Prop):Prop where
 mem:it∈fp
 obj:∀i h,tn i h->∀b∈fp,∃o,h.get? b=some o/\∀v,o.data≠.cell v
 keep:∀i h h',tn i h->(∀b∈fp,∀o,h.get? b=some o->h'.get? b=some o)->tn i h'
 item:∀(X:Cx),X.prog=P->X.w=w->X.K=K->X.calm=true->∀(i:Nat)(pZ:List (Addr×Obj))(s:aq)(σ:St)(H:Hp)(E:Value->aq->Prop),Inv X pZ σ H s->(∀b∈fp,p9 X pZ H b)->tn i s.heap->J.go i H ->
  wpAny (bb P w) X.A (xN (.ref it)) (λr s1=>∃u,r=some u /\
   wpAny (bb P w) X.A (qu tg (.ref it) u) (λ_ s2=>∃x H',Inv X pZ σ H' s2/\RelV x u/\J.Sg i H x H'/\tn (i+1) s2.heap/\∀b∈fp,H' b=none) E s1) E s
 done:∀(X:Cx),X.prog=P->X.w=w->X.K=K->X.calm=true->∀(i:Nat)(pZ:List (Addr×Obj))(s:aq)(σ:St)(H:Hp)(E:Value->aq->Prop),Inv X pZ σ H s->(∀b∈fp,p9 X pZ H b)->tn i s.heap->J.stop i H ->
  wpAny (bb P w) X.A (xN (.ref it)) (λr s1=>r=none/\Inv X pZ σ H s1) E s
 self:∀(A:cF)(i:Nat)(s:aq)(Q:Value->aq->Prop)(E:Value->aq->Prop),tn i s.heap->Q (.ref it) s->wpAny (bb P w) A (pyIter (.ref it)) Q E s
abbrev TI:=St->Hp->(It->Hp->Prop)->Prop
def WB(X:Cx)(pZ:List (Addr×Obj))(σ:St)(tg:Expr)(R:It->Hp->Prop)(itv:Value)(s2:aq):Prop:=
 ∃(it:Addr)(fp:List Addr)(tn:Nat->Heap->Prop)(J:It)(H':Hp),itv=.ref it/\Inv X pZ σ H' s2/\Turn X.prog X.w X.K tg J fp it tn/\tn 0 s2.heap/\(∀b∈fp,p9 X pZ H' b)/\R J H'
def PI(X:Cx)(tg iter:Expr)(wi:TI):Prop:=
 ∀(pZ:List (Addr×Obj))(s:aq)(σ:St)(H:Hp)(R:It->Hp->Prop),Inv X pZ σ H s->wi σ H R ->
  wpAny (bb X.prog X.w) X.A (eval iter X.env) (λv s1=>wpAny (bb X.prog X.w) X.A (pyIter v) (WB X pZ σ tg R) X.xe s1) X.xe s
theorem z9{M:Model}{A:cF}{E:Value->aq->Prop}{s:aq}{tg:Expr}{it:Addr}{u:Value}{o:Obj}{n:String}{vs:Array Value}{Q:Unit->aq->Prop}(ho:s.heap.get? it=some o)(hc:o.cls=.type n)(hd:o.data=.fields vs)
    (hn:["enumerate","zip","dict_itemiterator","dict_reverseitemiterator","odict_iterator","itertools.zip_longest","itertools.pairwise"].contains n=false) (hQ:Q () s):wpAny M A (qu tg (.ref it) u) Q E s:=by
  unfold qu;cases tg<;>first
    |exact av hQ
    | (cases u<;>first
        |exact av hQ
        | (refine ab (wpAny_load ho ?_)
           rw[hc,hd]
           show wpAny M A (if (["enumerate","zip","dict_itemiterator","dict_reverseitemiterator","odict_iterator","itertools.zip_longest","itertools.pairwise"].contains n&&vs[0]?==some (jD _))=true then _ else _) Q E s
           rw[if_neg (by intro h;rw[hn,Bool.false_and] at h;cases h)]
           erw[av hQ]))
def WC(K:aG)(a:Addr):It:=
 #[λi H=>∃xs x,iT K H a xs/\xs[i]?=some x,λi H x H'=>H'=H/\∀xs,iT K H a xs->xs[i]?=some x,λi H=>∃xs,iT K H a xs/\xs.length<=i]
def WD(K:aG)(a:Addr):It:=
 #[λi H=>∃xs x,lY K H a xs/\xs[i]?=some x,λi H x H'=>H'=H/\∀xs,lY K H a xs->xs[i]?=some x,λi H=>∃xs,lY K H a xs/\xs.length<=i]
def VQ(lo:Int)(n:Nat):It:=#[λi _=>i<n,λi H x H'=>H'=H/\x=.int (lo+i),λi _=>n<=i]
theorem EN{P:bf}{w:bJ}{K:aG}{tg:Expr}(a it:Addr):Turn P w K tg (WC K a) [it] it (λi h=>h.IsListIter it a i) where
 mem:=by simp
 obj:=λi h st b hb=>by
  have e:b=it:=by simpa using hb
  subst e;let#[o,e,c,d]:=st;exact#[o,e,λv z=>by rw[d] at z;cases z]
 keep:=λi h h' st k=>st.at λo e=>k it (by simp) o e
 item:=by
  w_up;subst hP hw hK;let#[xs,x,hq,hx]:=hg;let#[its,rv,p,hz]:=I.list hq;let#[u,hu,ru]:=rv.get hx;let#[f0,f1,f2,f3,f4,f5]:=hf it (by simp);refine Gk st p.isList (x:=u) (by simpa using hu) λh' st' sb=>?_
  have I1:Inv X pZ σ H {s with heap:=h'}:=I.turned (t':=s.toks) (λb o hb e=>(sb.2 b hb).trans e) f0 f1 f3 f4 f5;let#[o,e,c,d]:=id st';exact#[u,rfl,z9 (s:={s with heap:=h'}) e c d ⋯ #[x,H,I1,ru,#[rfl,λys hy=>by rw[I.uG hy hq];erw[hx]],st',λb hb=>(hf b hb).1]]
 done:=by
  w_up;subst hP hw hK;let#[xs,hq,hx]:=hg;let#[its,rv,p,hz]:=I.list hq;let#[f0,f1,f2,f3,f4,f5]:=hf it (by simp);have hl:=rv.length;erw[JW (I.ok.hd hc) st p.isList (by simp;omega) λh' eb=>#[rfl,I.turned (t':=s.toks) (λb o hb e=>eb b o hb e) f0 f1 f3 f4 f5]]
 self:=λ_ _ _ _ _ st h=>wpAny_pyIter_listiter st h
theorem BK{P:bf}{w:bJ}{K:aG}{tg:Expr}(a it:Addr):Turn P w K tg (WD K a) [it] it (λi h=>h.IsTupleIter it a i) where
 mem:=by simp
 obj:=λi h st b hb=>by
  have e:b=it:=by simpa using hb
  subst e;let#[o,e,c,d]:=st;exact#[o,e,λv z=>by rw[d] at z;cases z]
 keep:=λi h h' st k=>st.at λo e=>k it (by simp) o e
 item:=by
  w_up;subst hP hw hK;let#[xs,x,hq,hx]:=hg;let#[its,rv,p,hz]:=I.tuple hq;let#[u,hu,ru]:=rv.get hx;let#[f0,f1,f2,f3,f4,f5]:=hf it (by simp);refine wpAny_pyNext_tuple_item st (show s.heap.IsTuple a its.toArray from p) (x:=u) (by simpa using hu) λh' st' sb=>?_
  have I1:Inv X pZ σ H {s with heap:=h'}:=I.turned (t':=s.toks) (λb o hb e=>(sb.2 b hb).trans e) f0 f1 f3 f4 f5;let#[o,e,c,d]:=id st';exact#[u,rfl,z9 (s:={s with heap:=h'}) e c d ⋯ #[x,H,I1,ru,#[rfl,λys hy=>by rw[I.wI hy hq];erw[hx]],st',λb hb=>(hf b hb).1]]
 done:=by
  w_up;subst hP hw hK;let#[xs,hq,hx]:=hg;let#[its,rv,p,hz]:=I.tuple hq;let#[f0,f1,f2,f3,f4,f5]:=hf it (by simp);have hl:=rv.length;erw[wpAny_pyNext_tuple_end (I.ok.hd hc) st (show s.heap.IsTuple a its.toArray from p) (by simp;omega) λh' eb=>#[rfl,I.turned (t':=s.toks) (λb o hb e=>eb b o hb e) f0 f1 f3 f4 f5]]
 self:=λ_ _ _ _ _ st h=>wpAny_pyIter_tupleiter st h
theorem BL{P:bf}{w:bJ}{K:aG}{tg:Expr}(it:Addr)(lo:Int)(n:Nat):Turn P w K tg (VQ lo n) [it] it (λi h=>IsRangeIter h it (lo+(i:Nat)*1) ((n:Int)-(i:Nat)) 1) where
 mem:=by simp
 obj:=λi h st b hb=>by
  have e:b=it:=by simpa using hb
  subst e;exact#[_,st,λv z=>by
   have z':Data.fields _=Data.cell v:=z;cases z']
 keep:=λi h h' st k=>k it (by simp) _ st
 item:=by
  w_up;subst hP hw hK;let#[f0,f1,f2,f3,f4,f5]:=hf it (by simp);have W:=Walks.range (prog:=X.prog) (w:=X.w) (I.ok.hd hc) it lo 1 n;rwa[W.item i s _ _ hg st λv h' tk hv st' kk=>?_]
  let#[t,rfl]:=hv;have I1:Inv X pZ σ H {s with heap:=h',toks:=tk}:=I.turned (λb o hb e=>kk b o (by simpa using hb) e) f0 f1 f3 f4 f5;refine#[_,rfl,z9 (s:={s with heap:=h',toks:=tk}) (n:="range_iterator") st' rfl rfl ⋯ #[.int (lo+i),H,I1,#[t,?_],#[rfl,rfl],st',λb hb=>(hf b hb).1]];rw[Int.mul_one]
 done:=by
  w_up;subst hP hw hK;let#[f0,f1,f2,f3,f4,f5]:=hf it (by simp);erw[wpAny_pyNext_range_end (I.ok.hd hc) st (by have:n<=i:=hg;omega) λh' eb=>#[rfl,I.turned (t':=s.toks) (λb o hb e=>eb b o hb e) f0 f1 f3 f4 f5]]
 self:=λ_ _ _ _ _ st h=>wpAny_pyIter_rangeiter st h
section
variable{X:Cx}{tg:Expr}
theorem G6{pZ:List (Addr×Obj)}{σ:St}{H:Hp}{s:aq}{R:It->Hp->Prop}{E:Value->aq->Prop}{lo hi:Int}{t u v:Tok}{tk:Nat}(I:Inv X pZ σ H s)(h1:-(2^62)<=lo)(h2:lo<2^62)(h3:-(2^62)<=hi)(h4:hi<2^62)
  (q:R (VQ lo (hi-lo).toNat) H):wpAny (bb X.prog X.w) X.A (pyIter (.ref s.heap.objs.size)) (WB X pZ σ tg R) E {s with heap:=s.heap.push {cls:=.type "range",data:=.fields (List.toArray [.int lo t,.int hi u,.int 1 v])},toks:=tk}:=by
 rwa[wpAny_pyIter_range (IsRange.new ..) (small_one h1 h2 h3 h4) ?_];have I1:Inv X pZ σ H {s with heap:=s.heap.push {cls:=.type "range",data:=.fields (List.toArray [.int lo t,.int hi u,.int 1 v])},toks:=tk}:=I.kept λb o e=>aE _ e
 refine#[(s.heap.push {cls:=.type "range",data:=.fields (List.toArray [.int lo t,.int hi u,.int 1 v])}).objs.size,[(s.heap.push {cls:=.type "range",data:=.fields (List.toArray [.int lo t,.int hi u,.int 1 v])}).objs.size],_,_,H,rfl,
  I1.kept (t':=tk) λb o e=>aE _ e,BL _ lo (hi-lo).toNat,?_,λb hb=>?_,q]
 .have e1:lo+((0:Nat):Int)*1=lo:=by simp
  have e2:(((hi-lo).toNat:Nat):Int)-((0:Nat):Int)=Builtin.Range.rangeSize lo hi 1:=by rw[rangeSize_one];split<;>omega
  show IsRangeIter _ _ (lo+((0:Nat):Int)*1) ((((hi-lo).toNat:Nat):Int)-((0:Nat):Int)) 1
  rw[e1,e2]
  erw[aY _ rfl]
 .have e:b=(s.heap.push {cls:=.type "range",data:=.fields (List.toArray [.int lo t,.int hi u,.int 1 v])}).objs.size:=by simpa using hb
  subst e;erw[I1.BJ (ar _) (I1.du.fresh (ar _))]
noncomputable def Sh(ta:TA):TI:=λσ H R=>ta σ H λvs H1=>∃j:Int,vs=[.int j]/\-(2^62)<=j/\j<2^62/\R (VQ 0 j.toNat) H1
theorem EO{a:Expr}{ta:TA}{p pos:Pos}(hg:Gl X "range")(hm:X.mg "range"=none)(ha:PA X [a] ta)(hs:bR [a] X.env=[(false,eval a X.env)]:=by rfl):PI X tg (.Call (.Name "range" p) [a] [] pos) (Sh ta):=by
 intro pZ s σ H R I h;rwa[Call_ (rX I hg hm boot_range (jK (eO (ha pos pZ s σ H _ I h) λus s1 h9=>?_) hs rfl))];let#[vs,H1,I1,r1,q1]:=h9;let#[j,e,q1,q2,q]:=q1;subst e;cases r1 with
 |cons r rr=>
  cases rr;let#[t,rfl]:=r;exact call_range_1 (G6 I1 ∅ ∅ q1 q2 (by simpa using q))
def WG(wi:TI)(g:TG)(tb:TS):TS:=λD σ H=>wi σ H λJ H1=>∃W:Nat->Nat->St->Hp->Prop,(∃m,W 0 m σ H1)/\∀i m σ H,W i m σ H ->
 (J.stop i H/\D.nx σ H)\/(J.go i H/\∃N:St->Hp->Prop,(∀σ' H',N σ' H'->∃m',m'<m/\W (i+1) m' σ' H')/\∀x H',J.Sg i H x H'->g x σ H' λσ2 H2=>tb {D with nx:=N,ct:=N,bk:=D.nx} σ2 H2)
noncomputable def rY(fp:List Addr)(h:Heap):List (Addr×Obj):=fp.filterMap λb=>(h.get? b).map λo=>(b,o)
theorem mI{fp:List Addr}{h:Heap}{b:Addr}{o:Obj}(hb:b∈fp)(e:h.get? b=some o):(b,o)∈rY fp h:=lj.mpr #[b,hb,by rw[e];rfl]
theorem ER{fp:List Addr}{h:Heap}{p:Addr×Obj}(hp:p∈rY fp h):p.1∈fp/\h.get? p.1=some p.2:=by
 let#[b,hb,e]:=lj.mp hp;cases q:h.get? b with
 |none=>rw[q] at e;cases e
 |some o=>
  rw[q] at e;have e':(b,o)=p:=aH e;subst e';exact#[hb,q]
theorem Inv.pinned{pZ:List (Addr×Obj)}{σ:St}{H:Hp}{s:aq}{fp:List Addr}(I:Inv X pZ σ H s)(hf:∀b∈fp,p9 X pZ H b)(ho:∀b∈fp,∃o,s.heap.get? b=some o/\∀v,o.data≠.cell v):Inv X (pZ++rY fp s.heap) σ H s:=
 I.Di λp hp=>(aI.mp hp).elim (λz=>I.pin p (a9 _ z)) λz=>by
  let#[hb,e]:=ER z;let#[f0,f1,f2,_]:=hf p.1 hb;let#[o,e',d]:=ho p.1 hb;rw[e] at e';cases e';exact#[e,f0,f1,f2,d]
theorem Inv.qN{pZ pl:List (Addr×Obj)}{σ:St}{H:Hp}{s:aq}(I:Inv X (pZ++pl) σ H s):Inv X pZ σ H s:=I.Di λp hp=>I.pin p (a9 _ (bI _ hp))
theorem Ob{iter:Expr}{body:List Stmt}{wi:TI}{g:TG}{tb:TS}{pos:Pos}(hp:F5 (bb X.prog X.w) X.A X.env X.xe)(hc:X.calm=true)(hi:PI X tg iter wi)(hg:PG X tg g)(hb:vZ X body tb)
  (hs:∀x,foldedSetIterable iter X.env x=pure x:=by intro _;rfl):PS X (.For tg iter body [] pos) (WG wi g tb):=by
 intro pZ s σ H D I h;rwa[wpAny_For (eO (hi pZ s σ H _ I h) λv s1 h1=>eO h1 λitv s2 h2=>?_) hs];let#[it,fp,tn,J,H2,e,I2,T,st2,f2,W,#[m0,w0],turn]:=h2;subst e;have stat:∀{H':Hp},(∀b∈fp,H' b=none)->∀b∈fp,p9 X pZ H' b:=λhn b hb=>#[hn b hb,(f2 b hb).2]
 rwa[codeAny_forLoop_any (λn s'=>∃i σ' H',Inv X pZ σ' H' s'/\tn i s'.heap/\(∀b∈fp,H' b=none)/\W i n σ' H') ?_ m0 #[0,σ,H2,I2,st2,λb hb=>(f2 b hb).1,w0]];rintro n s3 ⟨i,σ3,H3,I3,st3,fr3,w3⟩;rcases turn i n σ3 H3 w3 with⟨stop,qn⟩|⟨go,N,hN,step⟩
 .rwa[gQ hp (eO (T.done X rfl rfl rfl hc i pZ s3 σ3 H3 X.xe I3 (stat fr3) st3 stop) λr s4 h9=>?_)]
  let#[hr,I4]:=h9;subst hr;erw[qt #[σ3,H3,I4,qn]]
 .rwa[gQ hp (eO (T.item X rfl rfl rfl hc i pZ s3 σ3 H3 X.xe I3 (stat fr3) st3 go) λr s4 h9=>?_)]
  let#[u,hr,h4]:=h9;subst hr;refine gQ hp (eO h4 λ_ s5 h9=>?_);let#[x,H5,I5,r5,y5,st5,fr5]:=h9;have I5':=I5.pinned (stat fr5) (T.obj _ _ st5);refine gQ hp (eO (hg _ s5 σ3 H5 x u _ I5' r5 (step x H5 y5)) λ_ s6 h9=>?_);let#[σ6,H6,I6,q6]:=h9;refine gQ hp (eO (hb _ s6 σ6 H6 _ I6 q6) λf s7 q7=>?_);have again:∀{σ7:St}{H7:Hp},Inv X (pZ++rY fp s5.heap) σ7 H7 s7->N σ7 H7->∃m,m<n/\∃i σ' H',Inv X pZ σ' H' s7/\tn i s7.heap/\(∀b∈fp,H' b=none)/\W i m σ' H':=λ{σ7 H7}I7 n7=>by
   let#[m',hm,w7]:=hN σ7 H7 n7;refine#[m',hm,i+1,σ7,H7,I7.qN,T.keep _ _ _ st5 λb hb o e=>(I7.pin (b,o) (a9 _ (a9 _ (mI hb e)))).1,λb hb=>?_,w7];let#[o,e,d]:=T.obj _ _ st5 b hb;exact(I7.pin (b,o) (a9 _ (a9 _ (mI hb e)))).2.1
  cases f with
  |next=>let#[σ7,H7,I7,n7]:=q7;erw[again I7 n7]
  |cont=>let#[σ7,H7,I7,n7]:=q7;erw[again I7 n7]
  |brk=>let#[σ7,H7,I7,q7]:=q7;exact#[σ7,H7,I7.qN,q7]
  |ret v=>let#[x7,σ7,H7,I7,r7,q7]:=q7;exact#[x7,σ7,H7,I7.qN,r7,q7]
end
abbrev R2:=V->V->Hp->VK->Prop
def gM(X:Cx)(f:Value->Value->Sem Value)(r:R2):Prop:=
 ∀(pZ:List (Addr×Obj))(s:aq)(σ:St)(H:Hp)(x y:V)(v u:Value)(Q:VK),Inv X pZ σ H s->RelV x v->RelV y u->r x y H Q ->
  wpAny (bb X.prog X.w) X.A (f v u) (EP X pZ σ Q) X.xe s
def WH(X:Cx)(f:Value->Sem Value)(r:V->Hp->VK->Prop):Prop:=
 ∀(pZ:List (Addr×Obj))(s:aq)(σ:St)(H:Hp)(x:V)(v:Value)(Q:VK),Inv X pZ σ H s->RelV x v->r x H Q ->
  wpAny (bb X.prog X.w) X.A (f v) (EP X pZ σ Q) X.xe s
def iA(X:Cx)(f:Value)(r:List V->Hp->VK->Prop):Prop:=
 ∀(pZ:List (Addr×Obj))(s:aq)(σ:St)(H:Hp)(xs:List V)(us:List Value)(Q:VK),Inv X pZ σ H s->Vals xs us->r xs H Q ->
  wpAny (bb X.prog X.w) X.A (call f us) (EP X pZ σ Q) X.xe s
def WJ(X:Cx)(r:V->Hp->(Bool->Hp->Prop)->Prop):Prop:=
 ∀(pZ:List (Addr×Obj))(s:aq)(σ:St)(H:Hp)(x:V)(v:Value)(Q:Bool->Hp->Prop),Inv X pZ σ H s->RelV x v->r x H Q ->
  wpAny (bb X.prog X.w) X.A (truthy v) (TP X pZ σ Q) X.xe s
def VR(r:R2)(ta tb:TE):TE:=λσ H Q=>ta σ H λx H1=>tb σ H1 λy H2=>r x y H2 Q
def ZX(r:V->Hp->VK->Prop)(ta:TE):TE:=λσ H Q=>ta σ H λx H1=>r x H1 Q
noncomputable def rI(C:Int->Int->Prop)(g:Int->Int->V):R2:=λx y H Q=>∃i j,x=.int i/\y=.int j/\C i j/\Q (g i j) H
noncomputable def ES(g:Int->Int->V):R2:=λx y H Q=>∃i j,x=.int i/\y=.int j/\Q (g i j) H
def rU(g:Int->V):V->Hp->VK->Prop:=λx H Q=>∃i,x=.int i/\Q (g i) H
section
variable{X:Cx}{a b c:Expr}{ta tb tc:TE}{pos:Pos}
theorem Oc(ha:PE X a ta)(hb:PE X b tb){pZ:List (Addr×Obj)}{s:aq}{σ:St}{H:Hp}{R:V->V->Hp->Prop}(I:Inv X pZ σ H s)
  (h:ta σ H λx H1=>tb σ H1 λy H2=>R x y H2){Q:Value->aq->Prop}{f:Value->Value->Sem Value}
  (hf:∀v u s2 x y H2,Inv X pZ σ H2 s2->RelV x v->RelV y u->R x y H2->wpAny (bb X.prog X.w) X.A (f v u) Q X.xe s2):
  wpAny (bb X.prog X.w) X.A (eval a X.env) (λv s₁=>wpAny (bb X.prog X.w) X.A (eval b X.env) (λu s₂=>wpAny (bb X.prog X.w) X.A (f v u) Q X.xe s₂) X.xe s₁) X.xe s:=by
 rwa[eO (ha pZ s σ H _ I h) λv s1 h9=>?_]
 let#[x,H1,I1,r1,q1]:=h9;rwa[eO (hb pZ s1 σ H1 _ I1 q1) λu s2 h9=>?_]
 let#[y,H2,I2,r2,q2]:=h9;erw[hf v u s2 x y H2 I2 r1 r2 q2]
theorem Si{op:gO}{r:R2}(ho:gM X (cB op) r)(ha:PE X a ta)(hb:PE X b tb):PE X (.BinOp a op b pos) (VR r ta tb):=by
 k_go;erw[wpAny_BinOp (Oc ha hb I h λv u s2 x y H2 I2 rx ry q=>ho pZ s2 σ H2 x y v u Q I2 rx ry q)]
theorem Sj{op:UnaryOp}{r:V->Hp->VK->Prop}(ho:WH X (unaryOp op) r)(ha:PE X a ta):PE X (.UnaryOp op a pos) (ZX r ta):=by
 k_go;rwa[UnaryOp_ (eO (ha pZ s σ H _ I h) λv s1 h9=>?_)];let#[x,H1,I1,r1,q1]:=h9;erw[ho pZ s1 σ H1 x v Q I1 r1 q1]
theorem Sk{f:Value->Value->Sem Value}{C:Int->Int->Prop}{g:Int->Int->Int}
  (rule:∀(i j:Int)(t u:Tok)(s:aq)(Q:Value->aq->Prop)(E:Value->aq->Prop),C i j->Q (.int (g i j) s.toks) {s with toks:=s.toks+1}->wpAny (bb X.prog X.w) X.A (f (.int i t) (.int j u)) Q E s):
  gM X f (rI C λi j=>.int (g i j)):=by
 x_go;let#[i,j,rfl,rfl,hc,q]:=h;let#[t,rfl]:=rx;let#[t',rfl]:=ry;erw[rule i j t t' s _ _ hc #[.int (g i j),H,I.tok _,#[_,rfl],q]]
theorem BM{f:Value->Value->Sem Value}{g:Int->Int->Int}
  (rule:∀(i j:Int)(t u:Tok)(s:aq)(Q:Value->aq->Prop)(E:Value->aq->Prop),Q (.int (g i j) s.toks) {s with toks:=s.toks+1}->wpAny (bb X.prog X.w) X.A (f (.int i t) (.int j u)) Q E s):
  gM X f (ES λi j=>.int (g i j)):=by
 x_go;let#[i,j,rfl,rfl,q]:=h;let#[t,rfl]:=rx;let#[t',rfl]:=ry;erw[rule i j t t' s _ _ #[.int (g i j),H,I.tok _,#[_,rfl],q]]
theorem KH{f:Value->Value->Sem Value}{g:Int->Int->Bool}
  (rule:∀(i j:Int)(t u:Tok)(s:aq)(Q:Value->aq->Prop)(E:Value->aq->Prop),Q (.bool (g i j)) s->wpAny (bb X.prog X.w) X.A (f (.int i t) (.int j u)) Q E s):
  gM X f (ES λi j=>.bl (g i j)):=by
 x_go;let#[i,j,rfl,rfl,q]:=h;let#[t,rfl]:=rx;let#[t',rfl]:=ry;erw[rule i j t t' s _ _ #[.bl (g i j),H,I,rfl,q]]
def WK(i j:Int):Prop:=0<j/\j<1073741824
def WL(i j:Int):Prop:=0<=j/\j<=1000000/\i.natAbs<2^64
def Od(i j:Int):Prop:=(-(2^64)<i/\i<2^64)\/(-(2^64)<j/\j<2^64)
theorem Od.ok{i j:Int}(h:Od i j):IntMulOk i j:=by
 rcases h with⟨h1,h2⟩|⟨h1,h2⟩
 .erw[.of_left (intBits_le_64 h1 h2)]
 .erw[.of_right (intBits_le_64 h1 h2)]
theorem two_pow_nn(k:Nat):(0:Int)<=2^k:=by
 rw[two_pow_cast]
 erw[Int.natCast_nonneg _]
theorem Oe:gM X (cB .Add) (ES λi j=>.int (i+j)):=BM λ_ _ _ _ _ _ _ q=>add_int q
theorem Of:gM X (cB .Sub) (ES λi j=>.int (i-j)):=BM λ_ _ _ _ _ _ _ q=>sub_int q
theorem Og:gM X (cB .Mult) (rI Od λi j=>.int (i*j)):=Sk λ_ _ _ _ _ _ _ hc q=>mul_int q hc.ok
theorem KI:gM X (cB .FloorDiv) (rI WK λi j=>.int (i/j)):=Sk λi j _ _ _ _ _ hc q=>by
 have h1:(0:Int)<j:=hc.1;have h2:j<1073741824:=hc.2;erw[floordiv_int ∅ (by rw[xO i ∅];exact q) (.inl (PyProof.noPylong_small ∅))]
theorem Oh:gM X (cB .Mod) (rI (λ_ j=>0<j) λi j=>.int (i%j)):=Sk λi j _ _ _ _ _ hc q=>by
 have h1:(0:Int)<j:=hc;erw[mod_int' ∅ (by rw[Int.fmod_eq_emod_of_nonneg i ∅];exact q)]
theorem Oi:gM X (cB .LShift) (rI WL λi j=>.int (i*2^j.toNat)):=Sk λ_ _ _ _ _ _ _ hc q=>lshift_int_small hc.1 hc.2.1 hc.2.2 q
theorem Oj:gM X (cB .RShift) (rI (λ_ j=>0<=j) λi j=>.int (i/2^j.toNat)):=Sk λi j _ _ _ _ _ hc q=>
 rshift_int hc (by rw[xO i (two_pow_nn _)];erw[q])
theorem Ol:gM X (cB .BitAnd) (ES λi j=>.int (Builtin.bitAnd i j)):=BM λ_ _ _ _ _ _ _ q=>and_int q
theorem Sl:gM X (cB .BitOr) (ES λi j=>.int (Builtin.bitOr i j)):=BM λ_ _ _ _ _ _ _ q=>or_int q
theorem KJ:gM X (ic .Add) (ES λi j=>.int (i+j)):=BM λ_ _ _ _ _ _ _ q=>iadd_int q
theorem KL:gM X (ic .Sub) (ES λi j=>.int (i-j)):=BM λ_ _ _ _ _ _ _ q=>isub_int q
theorem Om:gM X (ic .BitOr) (ES λi j=>.int (Builtin.bitOr i j)):=BM λ_ _ _ _ _ _ _ q=>ior_int q
theorem ZY{f:Value->Sem Value}{g:Int->Int}
  (rule:∀(i:Int)(t:Tok)(s:aq)(Q:Value->aq->Prop)(E:Value->aq->Prop),Q (.int (g i) s.toks) {s with toks:=s.toks+1}->wpAny (bb X.prog X.w) X.A (f (.int i t)) Q E s):
  WH X f (rU λi=>.int (g i)):=by
 intro pZ s σ H x v Q I rx h;let#[i,rfl,q]:=h;let#[t,rfl]:=rx;erw[rule i t s _ _ #[.int (g i),H,I.tok _,#[_,rfl],q]]
theorem Oo:WH X (unaryOp .USub) (rU λi=>.int (-i)):=ZY λ_ _ _ _ _ q=>neg_int q
end
noncomputable def Oq:V->V->Bool
 |.bV,.bV=>true|.bV,.int _=>true|.int _,.bV=>true|.bV,.bl _=>true|.bl _,.bV=>true|.bV,.str _=>true|.str _,.bV=>true
 |.int _,.int _=>true|.bl _,.bl _=>true|.str _,.str _=>true|.Bq _,.Bq _=>true
 |.int _,.str _=>true|.str _,.int _=>true|.bl _,.str _=>true|.str _,.bl _=>true
 |_,_=>false
noncomputable def ZZ:R2:=λx y H Q=>Oq x y=true/\Q (.bl (decide (x=y))) H
noncomputable def Z3:R2:=λx y H Q=>Oq x y=true/\Q (.bl (!decide (x=y))) H
theorem ye{i j:Int}:decide (V.int i=V.int j)=(i==j):=by
 rw[dy]
 simp
theorem BN{i j:Bool}:decide (V.bl i=V.bl j)=(i==j):=by
 rw[dy]
 simp
theorem Dk{i j:Str}:decide (V.str i=V.str j)=(i==j):=by
 rw[dy]
 simp
theorem Dl{i j:Array UInt8}:decide (V.Bq i=V.Bq j)=(i.toList==j.toList):=by
 rw[dy]
 cases i;cases j;simp
section
variable{X:Cx}{a b c:Expr}{ta tb tc:TE}{pos:Pos}
theorem cJ{pZ:List (Addr×Obj)}{σ:St}{H:Hp}{s:aq}{Q:VK}{k k':Bool}(I:Inv X pZ σ H s)(q:Q (.bl k) H)(e:k=k'):EP X pZ σ Q (.bool k') s:=by
 subst e;exact#[.bl k,H,I,rfl,q]
theorem Sn:gM X (bD .Eq) ZZ:=by
 x_go;let#[hs,q]:=h;cases x with
 |bV=>
  cases rx;cases y with
  |bV=>cases ry;erw[PySem.EqNone.eq_none_none (cJ I q (by simp))]
  |bl j=>cases ry;erw[PySem.EqNone.eq_none_bool (cJ I q (by simp))]
  |int j=>let#[t',rfl]:=ry;erw[PySem.EqNone.eq_none_int (cJ I q (by simp))]
  |str j=>let#[t',rfl]:=ry;erw[PySem.EqNone.eq_none_str (cJ I q (by simp))]
  |_=>erw[absurd (show false=true from hs) aS]
 |bl i=>
  cases rx;cases y with
  |bV=>cases ry;erw[PySem.EqNone.eq_bool_none (cJ I q (by simp))]
  |bl j=>cases ry;erw[eq_bool (cJ I q BN)]
  |str j=>let#[t',rfl]:=ry;erw[PySem.EqMixed.eq_bool_str (cJ I q (by simp))]
  |_=>erw[absurd (show false=true from hs) aS]
 |int i=>
  let#[t,rfl]:=rx;cases y with
  |bV=>cases ry;erw[PySem.EqNone.eq_int_none (cJ I q (by simp))]
  |int j=>let#[t',rfl]:=ry;erw[eq_int (cJ I q ye)]
  |str j=>let#[t',rfl]:=ry;erw[PySem.EqMixed.eq_int_str (cJ I q (by simp))]
  |_=>erw[absurd (show false=true from hs) aS]
 |str i=>
  let#[t,rfl]:=rx;cases y with
  |bV=>cases ry;erw[PySem.EqNone.eq_str_none (cJ I q (by simp))]
  |bl j=>cases ry;erw[PySem.EqMixed.eq_str_bool (cJ I q (by simp))]
  |int j=>let#[t',rfl]:=ry;erw[PySem.EqMixed.eq_str_int (cJ I q (by simp))]
  |str j=>let#[t',rfl]:=ry;erw[eq_str (cJ I q Dk)]
  |_=>erw[absurd (show false=true from hs) aS]
 |Bq i=>
  let#[t,rfl]:=rx;cases y with
  |Bq j=>let#[t',rfl]:=ry;erw[PySem.W.eq_bytes (cJ I q Dl)]
  |_=>erw[absurd (show false=true from hs) aS]
 |_=>cases y<;>exact absurd (show false=true from hs) aS
theorem So:gM X (bD .NotEq) Z3:=by
 x_go;let#[hs,q]:=h;cases x with
 |bV=>
  cases rx;cases y with
  |bV=>cases ry;erw[PySem.EqNone.ne_none_none (cJ I q (by simp))]
  |bl j=>cases ry;erw[PySem.EqNone.ne_none_bool (cJ I q (by simp))]
  |int j=>let#[t',rfl]:=ry;erw[PySem.EqNone.ne_none_int (cJ I q (by simp))]
  |str j=>let#[t',rfl]:=ry;erw[PySem.EqNone.ne_none_str (cJ I q (by simp))]
  |_=>erw[absurd (show false=true from hs) aS]
 |bl i=>
  cases rx;cases y with
  |bV=>cases ry;erw[PySem.EqNone.ne_bool_none (cJ I q (by simp))]
  |bl j=>cases ry;erw[ne_bool (cJ I q (congrArg not BN))]
  |str j=>let#[t',rfl]:=ry;erw[PySem.EqMixed.ne_bool_str (cJ I q (by simp))]
  |_=>erw[absurd (show false=true from hs) aS]
 |int i=>
  let#[t,rfl]:=rx;cases y with
  |bV=>cases ry;erw[PySem.EqNone.ne_int_none (cJ I q (by simp))]
  |int j=>let#[t',rfl]:=ry;erw[ne_int (cJ I q (congrArg not ye))]
  |str j=>let#[t',rfl]:=ry;erw[PySem.EqMixed.ne_int_str (cJ I q (by simp))]
  |_=>erw[absurd (show false=true from hs) aS]
 |str i=>
  let#[t,rfl]:=rx;cases y with
  |bV=>cases ry;erw[PySem.EqNone.ne_str_none (cJ I q (by simp))]
  |bl j=>cases ry;erw[PySem.EqMixed.ne_str_bool (cJ I q (by simp))]
  |int j=>let#[t',rfl]:=ry;erw[PySem.EqMixed.ne_str_int (cJ I q (by simp))]
  |str j=>let#[t',rfl]:=ry;erw[ne_str (cJ I q (congrArg not Dk))]
  |_=>erw[absurd (show false=true from hs) aS]
 |Bq i=>
  let#[t,rfl]:=rx;cases y with
  |Bq j=>let#[t',rfl]:=ry;erw[PySem.W.ne_bytes (cJ I q (congrArg not Dl))]
  |_=>erw[absurd (show false=true from hs) aS]
 |_=>cases y<;>exact absurd (show false=true from hs) aS
theorem Sq:gM X (bD .Lt) (ES λi j=>.bl (decide (i<j))):=KH λ_ _ _ _ _ _ _ q=>lt_int q
theorem Sr:gM X (bD .LtE) (ES λi j=>.bl (decide (i<=j))):=KH λ_ _ _ _ _ _ _ q=>le_int q
theorem Ss:gM X (bD .Gt) (ES λi j=>.bl (decide (j<i))):=KH λ_ _ _ _ _ _ _ q=>gt_int q
theorem Su:gM X (bD .GtE) (ES λi j=>.bl (decide (j<=i))):=KH λ_ _ _ _ _ _ _ q=>ge_int q
theorem ET:gM X (bD .In) (λx y H Q=>∃i j,x=.str i/\y=.str j/\Q (.bl (!(Builtin.Str.occurrences j i 0 j.length 1).isEmpty)) H):=by
 x_go;let#[i,j,rfl,rfl,q]:=h;let#[t,rfl]:=rx;let#[t',rfl]:=ry;erw[in_str (cJ I q rfl)]
theorem Ot:gM X (bD .Is) (λx y H Q=>y=.bV/\Q (.bl (decide (x=.bV))) H):=by
 x_go;let#[rfl,q]:=h;cases ry;refine is_none_gen (cJ I q ?_);cases x<;>first
  | (cases rx;rfl)
  | (let#[t,rfl]:=rx;rfl)
theorem KN:gM X (bD .IsNot) (λx y H Q=>y=.bV/\Q (.bl (!decide (x=.bV))) H):=by
 x_go;let#[rfl,q]:=h;cases ry;refine isnot_none_gen (cJ I q ?_);cases x<;>first
  | (cases rx;rfl)
  | (let#[t,rfl]:=rx;rfl)
theorem KO{op:zt}{r:R2}(ho:gM X (bD op) r)(ha:PE X a ta)(hb:PE X b tb)(hm:behindInMarks op b=false):PE X (.Compare a [op] [b] pos) (VR r ta tb):=by
 k_go;erw[wpAny_Compare1 (Oc ha hb I h λv u s2 x y H2 I2 rx ry q=>ho pZ s2 σ H2 x y v u Q I2 rx ry q) hm]
def Sv(t:TE):TT:=λσ H Q=>t σ H λx H'=>∃k,x=.bl k/\Q k H'
theorem KQ{op:zt}{r:R2}(ho:gM X (bD op) r)(ha:PE X a ta)(hb:PE X b tb)(hm:behindInMarks op b=false):PT X (.Compare a [op] [b] pos) (Sv (VR r ta tb)):=by
 intro pZ s σ H Q I h;refine wpAny_isTrue_Compare1 (eO (ha pZ s σ H _ I h) λv s1 #[x,H1,I1,r1,q1]=>eO (hb pZ s1 σ H1 _ I1 q1) λu s2 #[y,H2,I2,r2,q2]=>
  eO (ho pZ s2 σ H2 x y v u _ I2 r1 r2 q2) λc s3 #[z,H3,I3,r3,k,e,q3]=>?_) hm
 subst e;cases r3;erw[cV #[H3,I3,q3]]
def Ou(K:aG)(x:V)(H:Hp)(k:Bool):Prop:=
 match x with
 |.bV=>k=false
 |.bl b=>k=b
 |.int i=>k=(i !=0)
 |.str y=>y.length<=sizeLine/\k=((y.length:Int) !=0)
 |.Bq y=>y.size<=sizeLine/\k=((y.size:Int) !=0)
 |.ref p=>(∃xs,iT K H p xs/\k = !xs.isEmpty)\/(∃xs,lY K H p xs/\k = !xs.isEmpty)\/∃kvs,H p=some (.dK kvs)/\k = !kvs.isEmpty
 |_=>False
theorem BO{κ:Type}{kvs:List (κ×V)}{vs:List (κ×Value)}(r:KV kvs vs):(!vs.isEmpty)= !kvs.isEmpty:=by
 cases r<;>rfl
theorem uH{xs:List V}{its:List Value}(r:Vals xs its):(!its.toArray.isEmpty)= !xs.isEmpty:=by
 cases r<;>simp
theorem ou:(sizeLine:Nat)<2^63:=by rw[jL];decide
theorem Ow:WJ X (λx H Q=>∃k,Ou X.K x H k/\Q k H):=by
 intro pZ s σ H x v Q I rx h;let#[k,e,q]:=h;have hl:=ou;have hs:sizeLine=16777216:=jL;cases x with
 |bV=>
  cases rx;have e':k=false:=e;subst e';erw[truthy_none #[H,I,q]]
 |bl b=>
  cases rx;have e':k=b:=e;subst e';erw[cV #[H,I,q]]
 |int i=>
  let#[t,rfl]:=rx;have e':k=(i !=0):=e;subst e';erw[PySem.P.truthy_int #[H,I,q]]
 |str y=>
  let#[t,rfl]:=rx;obtain⟨hy,e'⟩:y.length<=sizeLine/\k=((y.length:Int) !=0):=e;subst e';erw[PySem.P.truthy_str ∅ #[H,I.tok _,q]]
 |Bq y=>
  let#[t,rfl]:=rx;obtain⟨hy,e'⟩:y.size<=sizeLine/\k=((y.size:Int) !=0):=e;subst e';erw[PySem.W.truthy_bytes ∅ #[H,I.tok _,q]]
 |ref p=>
  cases rx;have e':(∃xs,iT X.K H p xs/\k = !xs.isEmpty)\/(∃xs,lY X.K H p xs/\k = !xs.isEmpty)\/∃kvs,H p=some (.dK kvs)/\k = !kvs.isEmpty:=e;rcases e' with⟨xs,hx,e'⟩|⟨xs,hx,e'⟩|⟨kvs,hx,e'⟩
  .subst e'
   let#[its,r,pl,hz]:=I.list hx;have hlen:=r.length;erw[wpAny_truthy_list pl.isList (by dsimp[aF];omega) #[H,I.tok _,by rw[uH r];exact q]]
  .subst e'
   let#[its,r,pl,hz]:=I.tuple hx;have hlen:=r.length;erw[truthy_tuple pl (by dsimp[aF];omega) #[H,I.tok _,by rw[uH r];exact q]]
  .subst e'
   obtain⟨hz,hS,vs,r,m⟩:kvs.length<=sizeLine/\(p==bY)=false/\∃vs,KV kvs vs/\s.heap.DictOf (cR X.prog X.w) p vs:=I.du p _ hx;have hlen:kvs.length=vs.length:=Paired.length r;erw[wpAny_truthy_dict hS m ∅ #[H,I.tok _,by rw[BO r];exact q]]
 |_=>exact(show False from e).elim
theorem G7(ha:PE X a ta)(he:∀whole,isTrue a X.env whole=(do let v <-whole;standAt a.pos;holding [v] (truthy v))):
  PT X a (λσ H Q=>ta σ H λx H'=>∃k,Ou X.K x H' k/\Q k H'):=by
 k_go;rwa[isTrue_plain (eO (ha pZ s σ H _ I h) λv s1 h9=>?_) (he _)];let#[x,H1,I1,r1,q1]:=h9;erw[Ow pZ s1 σ H1 x v Q I1 r1 q1]
theorem BP:gM X (cB .Add) (λx y H Q=>∃i j,x=.str i/\y=.str j/\i.length+j.length<=sizeLine/\Q (.str (i++j)) H):=by
 x_go;let#[i,j,rfl,rfl,hz,q]:=h;let#[t,rfl]:=rx;let#[t',rfl]:=ry;erw[add_str (λt' tk=>#[.str (i++j),H,I.tok _,#[_,rfl],q]) hz]
theorem Aa:gM X (ic .Add) (λx y H Q=>∃i j,x=.str i/\y=.str j/\i.length+j.length<=sizeLine/\Q (.str (i++j)) H):=by
 x_go;let#[i,j,rfl,rfl,hz,q]:=h;let#[t,rfl]:=rx;let#[t',rfl]:=ry;erw[iadd_str (λt' tk=>#[.str (i++j),H,I.tok _,#[_,rfl],q]) hz]
theorem vals1{x:V}{us:List Value}(r:Vals [x] us):∃u,us=[u]/\RelV x u:=by
 cases r with
 |cons r1 r2=>cases r2;exact#[_,rfl,r1]
def Sw(K:aG)(x:V)(H:Hp)(n:Nat):Prop:=
 match x with
 |.str y=>y.length<=sizeLine/\n=y.length
 |.Bq y=>y.size<=sizeLine/\n=y.size
 |.ref p=>(∃xs,iT K H p xs/\n=xs.length)\/∃xs,lY K H p xs/\n=xs.length
 |_=>False
theorem G8:iA X (.builtin "len") (λxs H Q=>∃x n,xs=[x]/\Sw X.K x H n/\Q (.int n) H):=by
 k_ne;let#[x,n,rfl,e,q]:=h;let#[u,rfl,rx]:=vals1 r;have hl:=ou;have hs:sizeLine=16777216:=jL;cases x with
 |str y=>
  let#[t,rfl]:=rx;obtain⟨hy,e'⟩:y.length<=sizeLine/\n=y.length:=e;subst e';erw[len_str ∅ #[.int _,H,I.tok _,#[_,rfl],q]]
 |Bq y=>
  let#[t,rfl]:=rx;obtain⟨hy,e'⟩:y.size<=sizeLine/\n=y.size:=e;subst e';erw[PySem.W.len_bytes ∅ #[.int _,H,I.tok _,#[_,rfl],q]]
 |ref p=>
  cases rx;have e':(∃xs,iT X.K H p xs/\n=xs.length)\/∃xs,lY X.K H p xs/\n=xs.length:=e;rcases e' with⟨xs,hx,e'⟩|⟨xs,hx,e'⟩
  .subst e'
   let#[its,r',pl,hz]:=I.list hx;have hlen:=r'.length;erw[Calls.call_len_list pl.isList (by dsimp[aF];omega) #[.int xs.length,H,I.tok _,#[_,by dsimp[aF];rw[hlen]],q]]
  .subst e'
   let#[its,r',pl,hz]:=I.tuple hx;have hlen:=r'.length;erw[len_tuple pl (by dsimp[aF];omega) #[.int xs.length,H,I.tok _,#[_,by dsimp[aF];rw[hlen]],q]]
 |_=>exact(show False from e).elim
end
structure BQ(h:Heap)(x dx C:Addr)(mA:Str->Option Value):Prop where
 obj:h.get? x=some (dJ C dx)
 ns:h.Ns1 dx mA
 ne:dx≠x
theorem EV{h:Heap}{dx:Addr}{mA:Str->Option Value}(n:h.Ns1 dx mA):∃od,h.get? dx=some od/\∀name,oj name od=some (mA name):=by
 let#[o,es,ep,ho,hd,hk,_,hm]:=n;refine#[o,ho,λname=>?_];have e:=hm name;unfold nsFind findBy at e;rw[<-Array.find?_toList] at e;unfold oj;rw[hd]
 dsimp only;split
 .rename_i y q
  rw[q] at e;erw[congrArg some e]
 .rename_i q
  rw[q] at e;have a:es.toList.any (·.refKey)=false:=by
   rw[List.any_eq_false]
   intro y hy;let#[z,t,hkey]:=hk y (Array.mem_toList_iff.mp hy);simp[DictEntry.refKey,hkey]
  have a':¬es.toList.any (·.refKey)=true:=by rw[a];erw[aS]
  rw[if_neg a']
  erw[congrArg some e]
theorem BQ.look{h:Heap}{x dx C:Addr}{mA:Str->Option Value}(I:BQ h x dx C mA):∃od,PySem.W.InstAt h x (dJ C dx) C (some od)/\∀name,oj name od=some (mA name):=
 let ⟨od,ho,hl⟩:=EV I.ns
 #[od,#[I.obj,rfl,rfl,ho],hl]
section
variable{prog:bf}{w:bJ}{A:cF}{E:Value->aq->Prop}{s:aq}{K:aG}{x dx C f:Addr}{mA:Str->Option Value}{name:Str}{v:Value}
theorem get_map{expr:Bool}{Q:Value->aq->Prop}(X:K.In s.heap)(I:BQ s.heap x dx C mA)(hg:lZ K C name=true)(hh:qE K C=true)
  (ha:d8 K (.ref C) name=some none) (hv:mA name=some v) (hv':Er v=true) (h:Q v {s with toks:=s.toks+1}):
  wpAny (bb prog w) A (getAttr (.ref x) name expr) Q E s:=by
 let#[od,J,hl]:=I.look;erw[PySem.W.get_value X J (pH hg).1 (PySem.W.findObj_own hh ha rfl (by rw[hl,hv])) hv' h]
theorem G9{pl:Sem Bool}{Q:Value×List Value->aq->Prop}(X:K.In s.heap)(I:BQ s.heap x dx C mA)(hg:lZ K C name=true)
  (hf:d8 K (.ref C) name=some (some (.ref f))) (ht:xP K (.ref f)=true) (hv:mA name=none) (h:Q (.ref f,[.ref x]) s):
  wpAny (bb prog w) A (getMethod (.ref x) name pl) Q E s:=by
 let#[od,J,hl]:=I.look;erw[PySem.W.method_fn X J (pH hg).1 (pH hg).2 hf (beq_iff_eq.mp ht) (by show(oj name od).map (·.isSome)=some false;rw[hl,hv];rfl) h]
theorem KR{ns:List Str}{Q:Unit->aq->Prop}(X:K.In s.heap)(I:BQ s.heap x dx C mA)
  (hs:d8 K (.ref C) "__setattr__"=some (some (.builtin "object.__setattr__"))) (hp:Dd K C=true) (ht:tM K C name=some none) (hh:qE K C=true)
  (hw:zN mA ns) (hsz:ns.length<=sizeLine)
  (h:∀h',BQ h' x dx C (λy=>if y=name then some v else mA y)->fX dx s.heap h'->Q () {s with heap:=h',toks:=s.toks+2}):
  wpAny (bb prog w) A (setAttr (.ref x) name v) Q E s:=by
 let#[od,J,hl]:=I.look;refine PySem.W.set_plain X J hs (PySem.W.osa_open (s:={s with toks:=s.toks+1}) (r:=none) X J hp ht λb=>?_);let#[cd,hc,hd']:=PySem.W.any_some hh;have hx:s.heap.get? x=some #[.ref C,some dx,.plain,#[]]:=I.obj;refine ab (av (ab (ab (wpAny_loadPart hx (ab (PySem.W.Looks.here (s:={s with toks:=s.toks+1}) (PySem.W.looks_clsIn X hc) ?_))))));rw[hd']
 rwa[av (a:=some dx) (ab (av (ab ?_)))];refine wpAny_nsSet1 (s:={s with toks:=s.toks+1}) I.ns λh' hn2 hs2=>?_
 let#[oD,esD,epD,hoD,hdD,hcD]:=hn2.count (PySem.Within.cons name v hw);rwa[ab (wpAny_lookBehind hoD (by rw[hdD];erw[pastItsLine_dict (aP hcD (by rw[aW];omega))]) ?_)];erw[av (h _ #[(hs2.2 _ (cA I.ne)).trans I.obj,hn2,I.ne] hs2)]
theorem Ha{R:Result->aq->Prop}{vs:List Value}{kw:List (Str×Value)}(X:K.In s.heap)(hm:F6 K C=true)
  (hi:d8 K (.ref C) "__init__"=some (some (.ref f))) (hf:PySem.W.typeIn K (.ref f)=some (.type "function"))
  (h:p7 (bb prog w) (A.under (.builtin "type.__call__" #[.ref C::vs,kw])) (.call (.ref f) #[.ref (s.heap.objs.size+1)::vs,kw]) (PySem.W.InitBack (s.heap.objs.size+1) R)
   {s with heap:=(s.heap.push cM).push (dJ C s.heap.objs.size)}):
  p7 (bb prog w) A (.call (.ref C) #[vs,kw]) R s:=by
 let#[hh,g,d,t,os]:=s;erw[PySem.W.make_core (PySem.W.makes_of X hm) (PySem.W.looks_findIn X hi) (λself=>PySem.W.bind_fn X self hf) (.inl rfl) h]
end
noncomputable def ke(f:Str)(v:V):List (Str×V)->List (Str×V)
 |[]=>[(f,v)]
 | (g,x)::r=>if g=f then(g,v)::r else(g,x)::ke f v r
theorem sZ(f g:Str)(v:V):∀fs:List (Str×V),(ke f v fs).lookup g=if g=f then some v else fs.lookup g
 |[]=>by
  show fS g [(f,v)]=_
  by_cases h:g=f
  .have hb:(g==f)=true:=beq_iff_eq.mpr h
   dsimp[fS,hb,if_pos h]
  .have hb:(g==f)=false:=beq_eq_false_iff_ne.mpr h
   dsimp[fS,hb,if_neg h]
 | (k,x)::r=>by
  have ih:=sZ f g v r;rw[show ke f v ((k,x)::r)=(if k=f then(k,v)::r else(k,x)::ke f v r) from rfl]
  by_cases hk:k=f
  .rw[if_pos hk]
   by_cases h:g=k
   .have hb:(g==k)=true:=beq_iff_eq.mpr h
    dsimp[fS,hb,if_pos (h.trans hk)]
   .have hb:(g==k)=false:=beq_eq_false_iff_ne.mpr h
    dsimp[fS,hb,if_neg (λe:g=f=>h (e.trans hk.symm))]
  .rw[if_neg hk]
   by_cases h:g=k
   .have hb:(g==k)=true:=beq_iff_eq.mpr h
    dsimp[fS,hb,if_neg (λe:g=f=>hk (h.symm.trans e))]
   .have hb:(g==k)=false:=beq_eq_false_iff_ne.mpr h
    dsimp[fS,hb];erw[ih]
theorem rZ(f:Str)(v:V):∀fs:List (Str×V),f∈(ke f v fs).map (·.1)/\∀g,g∈fs.map (·.1)->g∈(ke f v fs).map (·.1)
 |[]=>#[by simp[ke],λg h=>by simp at h]
 | (k,x)::r=>by
  let#[i1,i2]:=rZ f v r;rw[show ke f v ((k,x)::r)=(if k=f then(k,v)::r else(k,x)::ke f v r) from rfl]
  by_cases hk:k=f
  .rw[if_pos hk]
   subst hk;exact#[by simp,λg h=>by simpa using h]
  .rw[if_neg hk]
   refine#[?_,λg h=>?_]
   .rw[ay]
    erw[aB _ i1]
   .rw[ay] at h ⊢
    rcases aR.mp h with e|e
    .erw[aR.mpr (.inl e)]
    .erw[aB _ (i2 g e)]
theorem tf(f:Str)(v:V):∀fs:List (Str×V),(ke f v fs).length<=fs.length+1
 |[]=>by simp[ke]
 | (k,x)::r=>by
  have ih:=tf f v r;rw[show ke f v ((k,x)::r)=(if k=f then(k,v)::r else(k,x)::ke f v r) from rfl]
  by_cases hk:k=f
  .rw[if_pos hk,aW,aW];omega
  .rw[if_neg hk,aW,aW];omega
theorem mH.some_of{v:V}{o:Option Value}(r:mH (some v) o):∃u,o=some u/\RelV v u:=by
 cases o with
 |none=>exact(show False from r).elim
 |some u=>exact#[u,rfl,r]
theorem mH.none_of{o:Option Value}(r:mH none o):o=none:=by
 cases o with
 |none=>rfl
 |some u=>exact(show False from r).elim
theorem EW{v:V}{u:Value}(r:RelV v u):Er u=true:=by
 cases v with
 |bV=>cases (show u=cj from r);rfl
 |bl b=>cases (show u=j7 b from r);rfl
 |int i=>let#[t,e]:=(show ∃t,u=k5 i t from r);cases e;rfl
 |str x=>let#[t,e]:=(show ∃t,u=k6 x t from r);cases e;rfl
 |Bq b=>let#[t,e]:=(show ∃t,u=Value.bytes b t from r);cases e;rfl
 |VN b=>let#[t,e]:=(show ∃t,u=Value.float b t from r);cases e;rfl
 |ref a=>cases (show u=bg a from r);rfl
 |ty n=>cases (show u=Value.type n from r);rfl
section
variable{P:bf}{w:bJ}{H H':Hp}{h h':Heap}{a C dx:Addr}{fs fs':List (Str×V)}
theorem yf(du:nJ P w H h)(e:H a=some (.ins C dx fs)):∃mA,BQ h a dx C mA/\(∀f,mH (fs.lookup f) (mA f))/\zN mA (fs.map (·.1))/\fs.length<=1000/\H dx=some (.own a):=by
 let#[d,z,ne,ob,mA,n,r,q]:=(show dN P w H h a (.ins C dx fs) from du a _ e)
 exact#[mA,#[ob,n,ne],r,q,z,d]
end
structure EX(K:aG)(C:Addr):Prop where
 pg:lZ K C Str.empty=true
 hd:qE K C=true
 po:Dd K C=true
 sa:d8 K (.ref C) "__setattr__"=some (some (.builtin "object.__setattr__"))
theorem EX.get{K:aG}{C:Addr}(c:EX K C)(f:Str):lZ K C f=true:=c.pg
def lQ(K:aG)(C:Addr)(f:Str):Prop:=d8 K (.ref C) f=some none
theorem lQ.Sx{K:aG}{C:Addr}{f:Str}(n:lQ K C f):tM K C f=some none:=by
 unfold tM;rw[show d8 K (.ref C) f=some none from n]
 rfl
structure Meth(K:aG)(C:Addr)(m:Str)(f:Addr):Prop where
 at_:d8 K (.ref C) m=some (some (.ref f))
 fn:xP K (.ref f)=true
 kp:om K (.ref f)=true
section
variable{X:Cx}{pZ:List (Addr×Obj)}{σ:St}{H:Hp}{s:aq}{a C dx:Addr}{fs:List (Str×V)}{f:Str}{v:V}{A:cF}{E:Value->aq->Prop}
theorem uI{b:Bool}{Q:Value->aq->Prop}(I:Inv X pZ σ H s)(e:H a=some (.ins C dx fs))(c:EX X.K C)(n:lQ X.K C f)(l:fs.lookup f=some v)
  (h:∀u s',Inv X pZ σ H s'->RelV v u->Q u s'):wpAny (bb X.prog X.w) A (getAttr (.ref a) f b) Q E s:=by
 let#[mA,O,r,_,_,_]:=yf I.du e;let#[u,hu,ru]:=mH.some_of (v:=v) (o:=mA f) (by rw[<-l];erw[r f]);erw[get_map I.zG O (c.get f) c.hd n hu (EW ru) (h u _ (I.tok _) ru)]
theorem uJ{m:Str}{g:Addr}{pl:Sem Bool}{Q:Value×List Value->aq->Prop}(I:Inv X pZ σ H s)(e:H a=some (.ins C dx fs))(c:EX X.K C)(k:Meth X.K C m g)(l:fs.lookup m=none)
  (h:Q (.ref g,[.ref a]) s):wpAny (bb X.prog X.w) A (getMethod (.ref a) m pl) Q E s:=by
 let#[mA,O,r,_,_,_]:=yf I.du e;have hn:mA m=none:=mH.none_of (by rw[<-l];erw[r m]);erw[G9 I.zG O (c.get m) k.at_ k.fn hn h]
theorem uK{y:V}{u:Value}{Q:Unit->aq->Prop}(I:Inv X pZ σ H s)(e:H a=some (.ins C dx fs))(c:EX X.K C)(n:lQ X.K C f)(hl:fs.length<1000)(ry:RelV y u)
  (h:∀s',Inv X pZ σ (upd H a (.ins C dx (ke f y fs))) s'->Q () s'):wpAny (bb X.prog X.w) A (setAttr (.ref a) f u) Q E s:=by
 let#[mA,O,r,wi,_,ho]:=yf I.du e;have hz:(fs.map (·.1)).length<=sizeLine:=by rw[ah,jL];omega
 rwa[KR I.zG O c.sa c.po n.Sx c.hd wi hz λh' O' sb=>h _ ?_]
 have hd:∃o,h'.get? dx=some o:=let ⟨o,_,_,e',_⟩:=O'.ns;#[o,e'];rwa[I.write (x:=a) (e:=dx) (by rw[e];erw[eI]) (.inr ho) (λb q hb z=>(sb.2 b hb).trans z) hd ?_];refine#[by rw[b8 O.ne];erw[ho],?_,O.ne,O'.obj,_,O'.ns,λg=>?_,λg hg=>?_]
 .have:=tf f y fs;omega
 .show mH ((ke f y fs).lookup g) (if g=f then some u else mA g)
  rw[sZ]
  by_cases q:g=f
  .rw[if_pos q,if_pos q];erw[ry]
  .rw[if_neg q,if_neg q];erw[r g]
 .by_cases q:g=f
  .rw[q];exact(rZ f y fs).1
  .refine(rZ f y fs).2 g (wi g λz=>hg ?_)
   show(if g=f then some u else mA g)=none
   rw[if_neg q];erw[z]
theorem Inv.made(I:Inv X pZ σ H s):Inv X pZ σ (upd (upd H s.heap.objs.size (.own (s.heap.objs.size+1))) (s.heap.objs.size+1) (.ins C s.heap.objs.size []))
  {s with heap:=(s.heap.push cM).push (dJ C s.heap.objs.size)}:=by
 have e1:(s.heap.push cM).get? s.heap.objs.size=some cM:=aY s.heap rfl;have e2:((s.heap.push cM).push (dJ C s.heap.objs.size)).get? (s.heap.objs.size+1)=some (dJ C s.heap.objs.size):=by
  have:=aY (s.heap.push cM) (o:=dJ C s.heap.objs.size) rfl
  rwa [ie] at this
 have e3:(s.heap.push cM).Ns s.heap.objs.size (λ_=>none):=#[cM,#[],_,e1,rfl,(λe he=>absurd he (by simp)),λ_=>rfl]
 have I1:=I.laid (a:=s.heap.objs.size) (o:=.own (s.heap.objs.size+1)) (h':=s.heap.push cM) (t':=s.toks) (λb u q=>aE _ q) (ar _) #[_,e1];rwa[I1.laid (a:=s.heap.objs.size+1) (o:=.ins C s.heap.objs.size []) (t':=s.toks) (λb u q=>aE _ q) (Bv (ie _ _)) ?_];have ne:s.heap.objs.size≠s.heap.objs.size+1:=aX (dj _);refine#[by rw[b8 ne,cb],cw _,ne,e2,λ_=>none,(Heap.Ns1.of_empty e3).at λo q=>aE _ q,λ_=>eI,λy hy=>absurd rfl hy]
theorem KS{prog:bf}{w:bJ}{env:Env}{e:Expr}{f:Str}{pos:Pos}{s:aq}{Q:Value->aq->Prop}(hb:ig e f env (eval e env)=eval e env)
  (h:wpAny (bb prog w) A (eval e env) (λo s₁=>wpAny (bb prog w) A (getAttr o f true) Q E s₁) E s):wpAny (bb prog w) A (eval (.Attribute e f pos) env) Q E s:=
 Attribute_any_ h (by rw[arm_eval_Attribute,hb])
end
def WM(K:aG)(ta:TE)(f:Str):TE:=λσ H Q=>ta σ H λx H1=>∃a C dx fs v,x=.ref a/\H1 a=some (.ins C dx fs)/\EX K C/\lQ K C f/\fs.lookup f=some v/\Q v H1
def WN(K:aG)(ta tv:TE)(f:Str):TS:=λD σ H=>tv σ H λy H1=>ta σ H1 λx H2=>∃a C dx fs,x=.ref a/\H2 a=some (.ins C dx fs)/\EX K C/\lQ K C f/\fs.length<1000 /\
 D.nx σ (upd H2 a (.ins C dx (ke f y fs)))
def WQ(X:Cx)(op:gO)(rd:V->V->Hp->VK->Prop):Prop:=
 ∀(pZ:List (Addr×Obj))(s:aq)(σ:St)(H:Hp)(x y:V)(u v:Value)(Q:VK),Inv X pZ σ H s->RelV x u->RelV y v->rd x y H Q->wpAny (bb X.prog X.w) X.A (ic op u v) (EP X pZ σ Q) X.xe s
def KW(K:aG)(ta tv:TE)(rd:V->V->Hp->VK->Prop)(f:Str):TS:=λD σ H=>ta σ H λx H1=>∃a C dx fs v,x=.ref a/\H1 a=some (.ins C dx fs)/\EX K C/\lQ K C f/\fs.lookup f=some v /\
 tv σ H1 λy H2=>rd v y H2 λz H3=>∃dx' fs',H3 a=some (.ins C dx' fs')/\fs'.length<1000/\D.nx σ (upd H3 a (.ins C dx' (ke f z fs')))
section
variable{X:Cx}{o e value:Expr}{f:Str}{pos pos' tpos:Pos}{ta tv:TE}
theorem Oy(he:PE X e ta)(hb:ig e f X.env (eval e X.env)=eval e X.env):PE X (.Attribute e f pos) (WM X.K ta f):=by
 k_go;rwa[KS hb (eO (he pZ s σ H _ I h) λu s1 h9=>?_)];let#[x,H1,I1,rx,a,C,dx,fs,v,ex,ea,c,n,l,q]:=h9;subst ex;obtain rfl:u=bg a:=rx;erw[uI I1 ea c n l λu' s2 I2 ru=>#[v,H1,I2,ru,q]]
theorem Oz(ha:PE X o ta)(hv:PE X value tv)(hs:hU value (some (.Attribute o f pos')) pos.line X.env=pure false):PS X (.Assign [.Attribute o f pos'] value pos) (WN X.K ta tv f):=by
 intro pZ s σ H D I h;rwa[plainObj_wpAny_Assign_Attribute (eO (hv pZ s σ H _ I h) λu s1 h9=>?_) hs];let#[y,H1,I1,ry,q]:=h9;rwa[eO (ha pZ s1 σ H1 _ I1 q) λov s2 h9=>?_]
 let#[x,H2,I2,rx,a,C,dx,fs,ex,ea,c,n,l,q2]:=h9;subst ex;obtain rfl:ov=bg a:=rx;erw[uK I2 ea c n l ry λs3 I3=>#[σ,_,I3,q2]]
theorem EY{op:gO}{rd:V->V->Hp->VK->Prop}(ha:PE X o ta)(hv:PE X value tv)(hop:WQ X op rd):PS X (.AugAssign (.Attribute o f tpos) op value pos) (KW X.K ta tv rd f):=by
 intro pZ s σ H D I h;rwa[wpAny_AugAssign_AttributeAny (eO (ha pZ s σ H _ I h) λov s1 h9=>?_)];let#[x,H1,I1,rx,a,C,dx,fs,v,ex,ea,c,n,l,q]:=h9;subst ex;obtain rfl:ov=bg a:=rx;rwa[uI I1 ea c n l λu s2 I2 ru=>eO (hv pZ s2 σ H1 _ I2 q) λw3 s3 h9=>?_]
 let#[y,H2,I3,ry,q3]:=h9;rwa[eO (hop pZ s3 σ H2 v y u w3 _ I3 ru ry q3) λw4 s4 h9=>?_]
 let#[z,H3,I4,rz,dx',fs',ea',l',q4]:=h9;erw[uK I4 ea' c n l' rz λs5 I5=>#[σ,_,I5,q4]]
end
structure kf(k:Nat)(A:cF):Prop where
 hd:A.handled=none
 dp:A.depth+3*k+5<recursionLimit
 un:A.units+16*k+200<eP
theorem kf.mono{j k:Nat}{A:cF}(r:kf k A)(h:j<=k):kf j A:=#[r.hd,by have:=r.dp;omega,by have:=r.un;omega]
theorem kf.deeper{k:Nat}{A:cF}(r:kf (k+1) A)(env:Env):kf k (A.deeper env):=
 #[r.hd,by have:=r.dp;show A.depth+1+3*k+5<_;omega,by have:=r.un;show A.units+3+16*k+200<_;omega]
theorem BR{A:cF}{C:Addr}{us:List Value}{kw:List (Str×Value)}:(A.under (.builtin "type.__call__" #[.ref C::us,kw])).depth=A.depth+1:=by
 first|rfl|simp[zu,Code.weight,Code.isCreation,Code.isGuard,Code.isCaller,Code.frames,Bg,guardIds]
theorem BS{A:cF}{C:Addr}{us:List Value}{kw:List (Str×Value)}:(A.under (.builtin "type.__call__" #[.ref C::us,kw])).units=A.units+1:=by
 first|rfl|simp[zu,Code.cUnits,Code.frames,Bg]
theorem kf.make{k:Nat}{A:cF}(r:kf (k+1) A)(C:Addr)(us:List Value)(kw:List (Str×Value)):kf k (A.under (.builtin "type.__call__" #[.ref C::us,kw])):=
 #[r.hd,by have:=r.dp;rw[BR];omega,by have:=r.un;rw[BS];omega]
theorem kf.depth{k:Nat}{A:cF}(r:kf k A):A.depth<recursionLimit:=by have:=r.dp;omega
def WR:TA:=λ_ H Q=>Q [] H
def Sy(ta:TE)(tr:TA):TA:=λσ H Q=>ta σ H λx H1=>tr σ H1 λxs H2=>Q (x::xs) H2
section
variable{X:Cx}{e:Expr}{es:List Expr}{te:TE}{t:TA}{pos:Pos}
theorem yg:PA X [] WR:=λ_ _ _ _ H Q I h=>lX #[[],H,I,.nil,h]
theorem t4(ha:PE X e te)(hr:PA X es t)(hs:bR (e::es) X.env=(false,eval e X.env)::bR es X.env:=by rfl):PA X (e::es) (Sy te t):=by
 intro pos pZ s σ H Q I h;rw[hs]
 show wpAny _ _ (spliced ((false,eval e X.env)::iw pos (bR es X.env))) _ _ s
 rwa[iX (eO (ha pZ s σ H _ I h) λu s1 h9=>?_)];let#[x,H1,I1,r1,q1]:=h9;rwa[eO (hr pos pZ s1 σ H1 _ I1 q1) λus s2 h9=>?_]
 let#[xs,H2,I2,r2,q2]:=h9;exact#[x::xs,H2,I2,.cons r1 r2,q2]
def WU(t:TA):TE:=λσ H Q=>t σ H λxs H1=>xs.length<=sizeLine/\∀p,H1 p=none->Q (.ref p) (upd H1 p (.tup xs))
def WV(t:TA):TE:=λσ H Q=>t σ H λxs H1=>xs.length<=sizeLine/\∀p,H1 p=none->Q (.ref p) (upd H1 p (.lst xs))
theorem OA{x1}(h:PA X es t):PE X (.Tuple es x1 pos) (WU t):=by
 intro pZ s σ H Q I hq;rwa[wpAny_Tuple_spliced (eO (h pos pZ s σ H _ I hq) λus s1 h9=>?_)];let#[xs,H1,I1,r,z,q]:=h9;refine#[by rw[<-r.length];erw[z],?_];have hf:H1 s1.heap.objs.size=none:=I1.du.fresh (ar _);refine#[.ref s1.heap.objs.size,upd H1 s1.heap.objs.size (.tup xs),I1.laid (t':=s1.toks) (λb u e=>aE _ e) (ar _) ?_,rfl,q _ hf];exact#[z,us,r,#[_,aY _ rfl,rfl,_,rfl]]
theorem OB(h:PA X es t):PE X (.List es pos) (WV t):=by
 intro pZ s σ H Q I hq;rwa[wpAny_List_spliced (eO (h pos pZ s σ H _ I hq) λus s1 h9=>?_)];let#[xs,H1,I1,r,z,q]:=h9;refine#[by rw[<-r.length];erw[z],?_];have hf:H1 s1.heap.objs.size=none:=I1.du.fresh (ar _);refine#[.ref s1.heap.objs.size,upd H1 s1.heap.objs.size (.lst xs),I1.laid (t':=s1.toks) (λb u e=>aE _ e) (ar _) ?_,rfl,q _ hf];exact#[z,us,0,r,aY _ rfl]
end
abbrev Sp:=List V->Hp->VK->XK->Prop
abbrev Hb:=List Env->Hp->aq->XK->Value->aq->Prop
structure BU(P:bf)(w:bJ)(K:aG)(mg:Str->Option Value)(base:Heap)(A:cF)(outer:List Env)(s:aq)(H:Hp):Prop where
 frames:A.frames=some outer
 mod:Mod K mg base
 bs:∀b o,base.get? b=some o->s.heap.get? b=some o/\H b=none
 GQ:base.objs.size<=s.heap.objs.size
 qI:s.heap.FunFrames base outer
 Ky:∀b∈vY outer,H b=none
 du:nJ P w H s.heap
 bare:n6 s.gens
def CE(outer:List Env)(P:bf)(w:bJ)(H:Hp)(s:aq)(Q:VK)(u:Value)(s':aq):Prop:=
 ∃v H',s'.os=s.os/\n6 s'.gens/\Un (vY outer) [] H H' s.heap s'.heap/\nJ P w H' s'.heap/\RelV v u/\Q v H'
def CR(CX:Hb)(outer:List Env)(P:bf)(w:bJ)(H:Hp)(s:aq)(Q:VK)(E:XK)(r:Result)(s':aq):Prop:=
 match r with
 |.ok (.ret u)=>CE outer P w H s Q u s'
 |.ok _=>False
 |.error e=>CX outer H s E e s'
structure kg(P:bf)(w:bJ)(K:aG)(mg:Str->Option Value)(base:Heap)(CX:Hb)(k:Nat)(f:Addr)(fd:dW)(ps:List Str)(sp:Sp):Prop where
 len:∀vs H Q E,sp vs H Q E->vs.length=ps.length
 run:∀(A:cF)(outer:List Env)(s:aq)(H:Hp)(args:Args)(us:List Value)(vs:List V)(Q:VK)(E:XK),kf k A->BU P w K mg base A outer s H->Bh s fd args (ps.zip us)->Vals vs us->sp vs H Q E ->
  p7 (bb P w) A (.call (.ref f) args) (CR CX outer P w H s Q E) s
theorem kg.mono{P:bf}{w:bJ}{K:aG}{mg:Str->Option Value}{base:Heap}{CX:Hb}{j k:Nat}{f:Addr}{fd:dW}{ps:List Str}{sp:Sp}(F:kg P w K mg base CX j f fd ps sp)(h:j<=k):
  kg P w K mg base CX k f fd ps sp:=#[F.len,λA outer s H args us vs Q E hr=>F.run A outer s H args us vs Q E (hr.mono h)]
theorem kg.imp{P:bf}{w:bJ}{K:aG}{mg:Str->Option Value}{base:Heap}{CX:Hb}{k:Nat}{f:Addr}{fd:dW}{ps:List Str}{sp sp':Sp}(F:kg P w K mg base CX k f fd ps sp)
  (h:∀vs H Q E,sp' vs H Q E->sp vs H Q E):kg P w K mg base CX k f fd ps sp':=
 #[λvs H Q E q=>F.len vs H Q E (h _ _ _ _ q),λA outer s H args us vs Q E hr he hb hv hs=>F.run A outer s H args us vs Q E hr he hb hv (h _ _ _ _ hs)]
theorem BU.make{P:bf}{w:bJ}{K:aG}{mg:Str->Option Value}{base:Heap}{A:cF}{outer:List Env}{s:aq}{H:Hp}(e:BU P w K mg base A outer s H)(C:Addr)(us:List Value)(kw:List (Str×Value)):
  BU P w K mg base (A.under (.builtin "type.__call__" #[.ref C::us,kw])) outer s H:=#[by first|exact e.frames| (simpa[zu,Code.envs,Bg,pushEnvs] using e.frames),e.mod,e.bs,e.GQ,e.qI,e.Ky,e.du,e.bare]
section
variable{X:Cx}{pZ:List (Addr×Obj)}{σ:St}{H:Hp}{s s':aq}
theorem Inv.Sz(I:Inv X pZ σ H s):BU X.prog X.w X.K X.mg X.base X.A X.stack s H:=
 #[I.ok.frames,I.ok.mod,I.bs,aP I.ok.GQ I.sz,I.stack,I.yd,I.du,I.bare]
theorem Inv.after{Q:VK}{u:Value}(I:Inv X pZ σ H s)(h:CE X.stack X.prog X.w H s Q u s'):EP X pZ σ Q u s':=by
 let#[v,H',os,bare,un,du,r,q]:=h;let#[hh,g,d,t,os']:=s';obtain rfl:os'=s.os:=os;exact#[v,H',I.call (h':=hh) (g':=g) (d':=d) (t':=t) (ch:=[]) un du bare (λb z=>absurd z (by simp)),r,q]
end
def Binds(K:aG)(fd:dW)(ps:List Str)(ds:List Value):Prop:=
 ∀(s:aq)(us:List Value),K.In s.heap->(us++ds).length=ps.length->Bh s fd #[us,[]] (ps.zip (us++ds))
theorem Binds.all{K:aG}{fd:dW}{ps:List Str}(h:∀us:List Value,us.length=ps.length->Kn fd #[us,[]]=pure (ps.zip us)):Binds K fd ps []:=λs us _ hl=>by
 rw[bX] at hl ⊢;erw[.of_eq (h us hl)]
section
variable{X:Cx}{CX:Hb}{k:Nat}{f C:Addr}{fd:dW}{ps:List Str}{sp:Sp}{dvs:List V}{ds:List Value}{E:XK}{x m:Str}{p pos apos:Pos}{e o:Expr}{es:List Expr}{ta:TE}{t:TA}
structure Mk(K:aG)(C f:Addr):Prop where
 makes:F6 K C=true
 init:d8 K (.ref C) "__init__"=some (some (.ref f))
 fn:xP K (.ref f)=true
 kp:om K (.ref C)=true
end
structure lx(N P:List Str)(sc:fQ):Prop where
 kind:sc.kind=.function
 co:sc.isCoroutine=false
 gen:sc.isGenerator=false
 nd:N.Nodup
 pre:N.take P.length=P
 par:∀x∈P,sc.names.lookup x=some .local\/sc.names.lookup x=some .cell
 OC:∀y∈sc.names,y.2≠.free
theorem wK{kindOf:Str->Option NameKind}{x:Str}:∀{binds:List (Str×Value)}{m:Str->Option Value},(∀v,(x,v)∉binds)->F7 kindOf binds m x=m x
 |[],_,_=>rfl
 | (n,v)::r,m,h=>by
  unfold F7;rw[wK λw hw=>h w (aB _ hw)]
  split
  .have:x≠n:=by rintro rfl;erw[h v aO]
   simp[this]
  .rfl
theorem wL{kindOf:Str->Option NameKind}{x:Str}:∀{binds:List (Str×Value)}{m:Str->Option Value},(∀v,(x,v)∉binds)->F8 kindOf binds m x=m x
 |[],_,_=>rfl
 | (n,v)::r,m,h=>by
  unfold F8;rw[wL λw hw=>h w (aB _ hw)]
  split
  .rfl
  .have:x≠n:=by rintro rfl;erw[h v aO]
   simp[this]
theorem wM{kindOf:Str->Option NameKind}{x:Str}{v:Value}:∀{P:List Str}{vs:List Value}{i:Nat}{m:Str->Option Value},P.Nodup->P[i]?=some x->vs[i]?=some v->kindOf x=some .local ->
  F7 kindOf (P.zip vs) m x=some v
 |[],_,_,_,_,h,_,_=>by simp at h
 |_::_,[],_,_,_,_,h,_=>by simp at h
 |p::P,w::vs,0,m,nd,h1,h2,hk=>by
  simp at h1 h2;subst h1;subst h2;show F7 kindOf ((p,w)::P.zip vs) m p=_;unfold F7;rw[wK λv hv=>(eV.mp nd).1 (vN hv).1,if_pos hk]
  simp
 |p::P,w::vs,i+1,m,nd,h1,h2,hk=>by
  show F7 kindOf ((p,w)::P.zip vs) m x=_
  unfold F7;exact wM (i:=i) (eV.mp nd).2 (by simpa using h1) (by simpa using h2) hk
theorem wN{kindOf:Str->Option NameKind}{x:Str}{v:Value}:∀{P:List Str}{vs:List Value}{i:Nat}{m:Str->Option Value},P.Nodup->P[i]?=some x->vs[i]?=some v->kindOf x≠some .local ->
  F8 kindOf (P.zip vs) m x=some v
 |[],_,_,_,_,h,_,_=>by simp at h
 |_::_,[],_,_,_,_,h,_=>by simp at h
 |p::P,w::vs,0,m,nd,h1,h2,hk=>by
  simp at h1 h2;subst h1;subst h2;show F8 kindOf ((p,w)::P.zip vs) m p=_;unfold F8;rw[wL λv hv=>(eV.mp nd).1 (vN hv).1,if_neg hk]
  simp
 |p::P,w::vs,i+1,m,nd,h1,h2,hk=>by
  show F8 kindOf ((p,w)::P.zip vs) m x=_
  unfold F8;exact wN (i:=i) (eV.mp nd).2 (by simpa using h1) (by simpa using h2) hk
noncomputable def start(N:List Str)(vs:List V):St:=vs.map some++dH (N.length-vs.length) none
noncomputable def Ab(CX:Hb)(P:bf)(w:bJ)(K:aG)(mg:Str->Option Value)(base:Heap)(N:List Str)(qual:Str)(scope:fQ)(f:Addr)(cd:Value)(A:cF)(outer:List Env)(s:aq)(H:Hp)(E:XK):Cx where
 prog:=P
 w:=w
 K:=K
 mg:=mg
 base:=base
 A:=A.deeper (p8 qual scope s.heap.objs.size f cd)
 N:=N
 s₀:=s
 H₀:=H
 env:=p8 qual scope s.heap.objs.size f cd
 outer:=outer
 stack:=p8 qual scope s.heap.objs.size f cd::outer
 ex:=[]
 calm:=true
 fn:=λ_=>true
 pn:=[]
 xe:=λe s'=>wpAny (bb P w) (A.deeper (p8 qual scope s.heap.objs.size f cd)) (leaving (p8 qual scope s.heap.objs.size f cd) e) (λ_ s''=>CX outer H s E e s'') (λe' s''=>CX outer H s E e' s'') s'
theorem Ac{sc:fQ}{n:Nat}{x:Str}(h:sc.names.lookup x=some .cell):∃c,(iY n sc.names []).lookup x=some c:=by
 have q:=xQ sc.names n [] (.inl h);erw[wo.mp q]
theorem EZ{CX:Hb}{P:bf}{w:bJ}{K:aG}{mg:Str->Option Value}{base:Heap}{N ps:List Str}{qual:Str}{scope:fQ}{f:Addr}{cd:Value}{A:cF}{outer:List Env}{s s1:aq}{H:Hp}{E:XK}{us:List Value}{vs:List V}
  (S:lx N ps scope) (hd:A.handled=none) (e0:BU P w K mg base A outer s H) (hl:vs.length=ps.length) (r:Vals vs us)
  (x:InCallC s s.heap.objs.size (F7 (p8 qual scope s.heap.objs.size f cd).kindOf (ps.zip us) λ_=>none) (iY (s.heap.objs.size+1) scope.names []) (F8 (p8 qual scope s.heap.objs.size f cd).kindOf (ps.zip us) λ_=>none) s1):
  Inv (Ab CX P w K mg base N qual scope f cd A outer s H E) [] (start N vs) H s1:=by
 have hpl:ps.length<=N.length:=by have:=congrArg cD S.pre;rw[dE] at this;omega
 let#[h1,tk,rfl,hk]:=x.done;have noA:∀b:Addr,b∉(Ab CX P w K mg base N qual scope f cd A outer s H E).ex:=λb z=>absurd (show b∈([]:List Addr) from z) (by simp)
 refine#[#[e0.mod,S.kind,rfl,rfl,ar _,λy z c h1 h2=>?_,λy hy=>?_,λy c _ h=>?_,λ_=>hd,Around.frames_deeper e0.frames,.inr #[rfl,rfl],λb z=>absurd z (noA b),e0.bs,e0.GQ,λb _ _=>noA b,λb z=>absurd z (noA b),e0.qI,e0.Ky],
  rfl,e0.bare,Un.kept hk,#[_,x.toInCall.ns,λi y v h1 h2 h3=>?_],λy c h=>#[_,x.cell y c h],e0.du.fresh (ar _),λy c h=>?_,λp hp=>absurd (show p∈([]:List (Addr×Obj)) from hp) (by simp),e0.du.kept hk,?_]
 .erw[name_of_addr x.apart (cP h1) (cP h2)]
 .have hy:scope.names.lookup y=some .cell\/scope.names.lookup y=some .free:=hy
  rcases hy with hy|hy
  .erw[Ac hy]
  .erw[absurd rfl (S.OC _ (cP hy))]
 .erw[cY (x.above y c (cP h))]
 .have hi:i<vs.length:=by
   unfold start at h2;by_cases hi:i<vs.length
   .erw[hi]
   .rw[aw (by simpa using hi)] at h2
    rw[zP] at h2;split at h2<;>cases h2
  have ha:vs[i]?=some v:=by
   unfold start at h2;rw[ag (by simpa using hi),aC] at h2;cases e:vs[i]? with
   |none=>rw[e] at h2;cases h2
   |some a=>rw[e] at h2;cases h2;rfl
  let#[u,hu,rv]:=r.get ha;have hp:ps[i]?=some y:=by
   rw[<-S.pre,zw ∅];erw[h1]
  have ndP:ps.Nodup:=by rw[<-S.pre];erw[S.nd.sublist (List.take_sublist _ _)]
  refine#[u,rv,?_];rcases S.par y (ao hp) with k|k
  .erw[.inl #[k,wM ndP hp hu k]]
  .let#[c,e]:=Ac (n:=s.heap.objs.size+1) k
   rwa[.inr #[.inl k,c,e,?_]];have q:=x.cell y c e;rw[wN ndP hp hu (by show scope.names.lookup y≠_;rw[k];decide)] at q;erw[q]
 .erw[e0.du.fresh (cY (x.above y c (cP h)))]
 .unfold start
  show _=N.length
  rw[ax,ah,List.length_replicate]
  omega
theorem SA{CX:Hb}{P:bf}{w:bJ}{K:aG}{mg:Str->Option Value}{base:Heap}{k:Nat}{f:Addr}{name qual:Str}{params:Arguments}{body:List Stmt}{scope:fQ}{dV kV doc pm cdv ct oc:Value}{an od:Option Addr}
  {osl:Array (Option Value)}{N ps:List Str}{sp:Sp} (lk:K.lookup f=some #[oc,od,.func (ko name qual params body scope dV kV doc pm an cdv ct),osl]) (hcd:uA K cdv qual=true) (S:lx N ps scope)
  (len:∀vs H Q E,sp vs H Q E->vs.length=ps.length)
  (hbody:∀(A:cF)(outer:List Env)(s:aq)(H:Hp)(vs:List V)(Q:VK)(E:XK),kf k (A.deeper (p8 qual scope s.heap.objs.size f cdv))->sp vs H Q E ->
   ∃t,vZ (Ab CX P w K mg base N qual scope f cdv A outer s H E) body t/\t {nx:=λ_ H'=>Q .bV H',rt:=Q} (start N vs) H):
  kg P w K mg base CX (k+1) f (ko name qual params body scope dV kV doc pm an cdv ct) ps sp:=by
 refine#[len,λA outer s H args us vs Q E hr e0 hb r hsp=>?_];have hl:=len _ _ _ _ hsp;have KX:K.In s.heap:=e0.mod.RS.keeps λb o e=>(e0.bs b o e).1
 have lim:s.heap.NoLimit:=e0.mod.nolimit.keeps λb o e=>(e0.bs b o e).1
 have hkind:∀y∈ps.zip us,scope.names.lookup y.1=some .local\/(scope.names.lookup y.1=some .cell/\((iY (s.heap.objs.size+1) scope.names []).lookup y.1).isSome=true):=λ⟨n,v⟩ hy=>by
  rcases S.par n (vN hy).1 with q|q
  .erw[.inl q]
  .erw[.inr #[q,xQ _ _ _ (.inl q)]]
 rwa[codeAny_call_function hr.depth (KX _ _ lk) rfl S.co S.gen rfl (PySem.W.codeRec_of KX hcd) (hb _ _ _ _ ?_)];rwa[wpAny_newFunctionEnv_cells S.kind hkind λenv he s1 x=>?_]
 subst he;refine#[lim.keeps x.toInCall.keep,codeAny_func ?_];let#[t,ht,hq]:=hbody A outer s H vs Q E (hr.deeper _) hsp;have I:Inv (Ab CX P w K mg base N qual scope f cdv A outer s H E) [] (start N vs) H s1:=EZ S hr.hd e0 hl r x;rwa[bZ (ht [] s1 (start N vs) H _ I hq) (λfl s' hs=>?_) λe s' hs=>hs]
 have fin:∀{σ':St}{H':Hp}{v:V}{u:Value},Inv (Ab CX P w K mg base N qual scope f cdv A outer s H E) [] σ' H' s'->RelV v u->Q v H'->CE outer P w H s Q u s':=
  λ{σ' H' v u}J rv q=>#[v,H',J.os,J.bare,J.base,J.du,rv,q]
 cases fl with
 |ret u=>
  let#[v,σ',H',J,rv,q]:=hs;erw[fin J rv q]
 |next=>
  let#[σ',H',J,q]:=hs;erw[fin (v:=V.bV) (u:=cj) J rfl q]
 |brk=>
  let#[_,_,_,q]:=hs;erw[aL q]
 |cont=>
  let#[_,_,_,q]:=hs;erw[aL q]
section
variable{X:Cx}{x:Str}{p pos:Pos}{e:Expr}{es:List Expr}{t:TA}{id T:String}{r:List V->Hp->VK->Prop}
def WW(r:List V->Hp->VK->Prop)(t:TA):TE:=λσ H Q=>t σ H λvs H1=>r vs H1 Q
theorem ow(hc:iA X (.builtin id) r)(hg:Gl X x)(hm:X.mg x=none)(hv:pY x=some (.builtin id))(ha:PA X (e::es) t)(hn:x≠"__name__":=by decide)(hdb:(x==("__debug__":Str))=false:=by decide)
  (he:bR (e::es) X.env=(false,eval e X.env)::bR es X.env:=by rfl) (hpl:(iw pos (bR es X.env)).any (·.1)=false:=by rfl):PE X (.Call (.Name x p) (e::es) [] pos) (WW r t):=by
 k_go;rwa[eY (rX I hg hm hv ?_ hn hdb)];rwa[PyProof.Rows.callWith_builtin1 (eO (ha pos pZ s σ H _ I h) λus s1 h9=>?_) he hpl];let#[vs,H1,I1,r1,q1]:=h9;erw[hc pZ s1 σ H1 vs us Q I1 r1 q1]
theorem oV(hc:iA X (.type T) r)(hg:Gl X x)(hm:X.mg x=none)(hv:pY x=some (.type T))(ha:PA X (e::es) t)(hn:x≠"__name__":=by decide)(hdb:(x==("__debug__":Str))=false:=by decide)
  (he:bR (e::es) X.env=(false,eval e X.env)::bR es X.env:=by rfl) (hpl:(iw pos (bR es X.env)).any (·.1)=false:=by rfl):PE X (.Call (.Name x p) (e::es) [] pos) (WW r t):=by
 k_go;rwa[eY (rX I hg hm hv ?_ hn hdb)];rwa[jK (eO (ha pos pZ s σ H _ I h) λus s1 h9=>?_) he hpl];let#[vs,H1,I1,r1,q1]:=h9;erw[hc pZ s1 σ H1 vs us Q I1 r1 q1]
end
end L2
namespace HT
open PySem PyProof.Rows
section
variable{prog:bf}{w:bJ}{A:cF}{E:Value->aq->Prop}{s:aq}
theorem KY{t b:Addr}{vs ws:List Value}{Q:Value->aq->Prop}(ht:IsTup s.heap t vs.toArray)(hb:IsTup s.heap b ws.toArray)(hv:vs≠[])
  (h1:ws=[]->Q (.ref t) s) (h2:ws≠[]->Q (.ref s.heap.objs.size) {s with heap:=s.heap.push {cls:=.type "tuple",data:=.seq (vs++ws).toArray} })
  (hsz:vs.length+ws.length<=sizeLine):wpAny (bb prog w) A (cB .Add (.ref t) (.ref b)) Q E s:=by
 let#[#[cls,dd,data,sl],ho,hc,n,hd]:=id ht;let#[#[cls2,dd2,data2,sl2],ho2,hc2,n2,hd2]:=id hb;simp only at hc hd hc2 hd2;subst hc hd hc2 hd2;have e:vs.toArray++ws.toArray=(vs++ws).toArray:=by simp
 by_cases hw:ws=[]
 .exact Gm #[_,ho,rfl] #[_,ho2,rfl] xR Es mB l6 (lN _ _)
   (tuple_addW1 t b vs.toArray ws.toArray n n2 dd dd2 sl sl2 (by simpa using hv) (by simp[hw])) #[ho,ho2,h1 hw]
 .refine Gm #[_,ho,rfl] #[_,ho2,rfl] xR Es mB l6 (lN _ _)
   (tuple_addW2 t b vs.toArray ws.toArray n n2 dd dd2 sl sl2 (by simpa using hv) (by simpa using hw) (by rw[aF,aF];erw[hsz])) #[ho,ho2,?_]
  rw[e]
  erw[h2 hw]
noncomputable def jq(n d:Nat):Option Int->Nat
 |none=>d
 |some v=>if v<0 then(v+(n:Int)).toNat else min v.toNat n
theorem OD(n d:Nat)(hd:d<=n)(o:Option Int):jq n d o<=n:=by
 cases o with
 |none=>erw[hd]
 |some v=>
  show(if v<0 then(v+(n:Int)).toNat else min v.toNat n)<=n
  by_cases hv:v<0
  .rw[if_pos hv];omega
  .rw[if_neg hv];erw[Nat.min_le_right _ _]
theorem Dm(v:Int)(n d:Nat):(if v<0 then max (v+(n:Int)) 0 else min v (n:Int))=((jq n d (some v):Nat):Int):=by
 show(if v<0 then max (v+(n:Int)) 0 else min v (n:Int))=(((if v<0 then(v+(n:Int)).toNat else min v.toNat n):Nat):Int)
 by_cases hv:v<0
 .dsimp[if_pos hv];omega
 .dsimp[if_neg hv];omega
theorem BV(lo hi:Option Int)(n:Nat):Builtin.Slice.sliceAdjust lo hi 1 (n:Int)=(((jq n 0 lo:Nat):Int),((jq n n hi:Nat):Int)):=by
 have h1:¬((1:Int)<0):=∅
 unfold Builtin.Slice.sliceAdjust;dsimp[h1,if_false];rwa[Prod.ext ?_ ?_]
 .cases lo with
  |none=>rfl
  |some v=>erw[Dm v n 0]
 .cases hi with
  |none=>rfl
  |some v=>erw[Dm v n n]
theorem BW(i j:Nat):Builtin.Slice.slicePlaces (i:Int) (j:Int) 1=j-i:=by
 unfold Builtin.Slice.slicePlaces;have h1:(1:Int)>0:=∅
 dsimp[h1,if_true,Int.ediv_one];split<;>omega
theorem uL{v:Value}{o:Option Int}{Q:Option Int->aq->Prop}(p:xS v o)(h:Q o s):wpAny (bb prog w) A (Builtin.Slice.slicePartIndex v) Q E s:=by
 cases p with
 |none=>erw[slicePart_none h]
 |int i t=>erw[slicePart_int h]
theorem r6{sl:Addr}{vl vu:Value}{lo hi:Option Int}{n:Nat}{Q:Int×Int×Nat->aq->Prop}(hs:s.heap.IsSliceOf sl vl vu .none)(pl:xS vl lo)(pu:xS vu hi)
  (h:Q (((jq n 0 lo:Nat):Int),1,jq n n hi-jq n 0 lo) s):wpAny (bb prog w) A (Builtin.Slice.sliceApplied (.ref sl) (pure (n:Int))) Q E s:=by
 let#[os,hos,hcs,hds]:=id hs;unfold Builtin.Slice.sliceApplied Builtin.Slice.sliceFields;rwa[ab (ab (jM hos hds (x:=vl) rfl (ab (jM hos hds (x:=vu) rfl (ab (jM hos hds (x:=.none) rfl (av ?_)))))))];rwa[ab (slicePart_none ?_)];show wpAny _ _ (if ((1:Int)== 0)=true then _ else _) _ _ s;rw[if_neg ⋯]
 rwa[ab (uL pl (ab (uL pu (ab (av ?_)))))];show wpAny _ _ (match Builtin.Slice.sliceAdjust lo hi 1 (n:Int) with| (lo,hi)=>pure (lo,(1:Int),Builtin.Slice.slicePlaces lo hi 1)) _ _ s;rw[BV lo hi n]
 show wpAny _ _ (pure (((jq n 0 lo:Nat):Int),(1:Int),Builtin.Slice.slicePlaces ((jq n 0 lo:Nat):Int) ((jq n n hi:Nat):Int) 1)) _ _ s
 rw[BW]
 erw[av h]
theorem Hc(xs:Array Value)(i k:Nat):((cf k).filterMap λ(m:Nat)=>xs[((i:Int)+(m:Int)*1).toNat]?).toArray=((xs.toList.drop i).take k).toArray:=by
 have e:(λ(m:Nat)=>xs[((i:Int)+(m:Int)*1).toNat]?)=λm=>xs[i+m]?:=by
  funext m
  have:((i:Int)+(m:Int)*1).toNat=i+m:=∅
  rw[this]
 rw[e]
 have:=pick_run xs i k;rw[rQ] at this;have e2:((λx=>xs[x]?)∘λx=>i+x)=λm=>xs[i+m]?:=rfl
 rw[e2] at this;rw[this]
theorem qO{t sl:Addr}{items:Array Value}{vl vu:Value}{lo hi:Option Int}{Q:Value->aq->Prop}(ht:IsTup s.heap t items)(hs:s.heap.IsSliceOf sl vl vu .none)(pl:xS vl lo)(pu:xS vu hi)
  (hw:¬(jq items.size 0 lo=0/\jq items.size items.size hi=items.size))
  (h:Q (.ref s.heap.objs.size) {s with heap:=s.heap.push {cls:=.type "tuple",data:=.seq ((items.toList.drop (jq items.size 0 lo)).take (jq items.size items.size hi-jq items.size 0 lo)).toArray} })
  (hsz:items.size<=sizeLine):wpAny (bb prog w) A (n8 (.ref t) (.ref sl)) Q E s:=by
 have htake:sizeOk (.seq ((items.toList.drop (jq items.size 0 lo)).take (jq items.size items.size hi-jq items.size 0 lo)).toArray):=by
  show((items.toList.drop (jq items.size 0 lo)).take (jq items.size items.size hi-jq items.size 0 lo)).toArray.size<=sizeLine
  rw[aF,dE,JX,p6]
  omega
 have hj:jq items.size items.size hi<=items.size:=OD _ _ (ar _) hi;let#[os,hos,hcs,hds]:=id hs;have hTs:s.TypeIs (.ref sl) "slice":=#[os,hos,hcs]
 unfold n8;try with_reducible refine fI ?_
 first|refine ab (av ?_)|skip
 refine ab (wpAny_sequenceKey ht.typeIs ⋯ ?_);refine ab (jN (name:=b7 "__getitem__") ht.typeIs iR
  (iW iR ht.typeIs entry_tuple_getitem ?_ (args_tuple_getitem _ _)))
 show wpAny _ _ (Builtin.Tuple.tupleItemsOf (.ref t)>>=_) _ _ s
 rwa[ab (tupleItemsOf_ ht ?_)];rwa[ab (Gn hTs ?_)];rw[if_pos ⋯]
 refine ab (r6 hs pl pu ?_);have hno:¬((((jq items.size 0 lo:Nat):Int)== 0&&(1:Int)== 1&&(jq items.size items.size hi-jq items.size 0 lo)== items.size)=true):=by
  intro q;rw[aj,aj] at q;have q1:((jq items.size 0 lo:Nat):Int)=0:=eq_of_beq q.1.1;have q2:jq items.size items.size hi-jq items.size 0 lo=items.size:=eq_of_beq q.2;erw[hw #[∅,∅]]
 show wpAny _ _ (if (((jq items.size 0 lo:Nat):Int)== 0&&(1:Int)== 1&&(jq items.size items.size hi-jq items.size 0 lo)== items.size)=true then _ else _) _ _ s
 rw[if_neg hno,Hc]
 first
  |exact ab (m:=Builtin.Tuple.tupleExact _) (cX (av #[_,rfl,av h]) htake)
  |exact ab (m:=Builtin.Tuple.tupleExact _) (cX (ab (av (av #[_,rfl,av h]))) htake)
  |exact ab (ab (m:=Builtin.Tuple.tupleExact _) (cX (av (av #[_,rfl,av h])) htake))
  |exact ab (ab (m:=Builtin.Tuple.tupleExact _) (cX (av #[_,rfl,av h]) htake))
end
end HT
namespace L2
open PySem PySem.Spec PyProof.Rows
abbrev TO:=St->Hp->(Option Int->Hp->Prop)->Prop
def PO(X:Cx)(e:Option Expr)(t:TO):Prop:=
 ∀(pZ:List (Addr×Obj))(s:aq)(σ:St)(H:Hp)(Q:Option Int->Hp->Prop),Inv X pZ σ H s->t σ H Q ->
  wpAny (bb X.prog X.w) X.A (evalPart e X.env) (λu s'=>∃o H',Inv X pZ σ H' s'/\xS u o/\Q o H') X.xe s
noncomputable def KZ:TO:=λ_ H Q=>Q none H
noncomputable def SD(t:TE):TO:=λσ H Q=>t σ H λx H1=>∃i,x=.int i/\Q (some i) H1
section
variable{X:Cx}{e:Expr}{te:TE}{lo hi:Option Expr}{tl th:TO}{pos p2:Pos}
theorem K0:PO X none KZ:=by
 k_go;rw[evalPart_none]
 erw[av #[none,H,I,.none,h]]
theorem K1(h:PE X e te):PO X (some e) (SD te):=by
 intro pZ s σ H Q I hw;rw[evalPart_some]
 rwa[eO (h pZ s σ H _ I hw) λu s1 h9=>?_]
 let#[x,H1,I1,r1,q1]:=h9;let#[i,rfl,q]:=q1;let#[t,rfl]:=r1;exact#[some i,H1,I1,.int i t,q]
def SE(X:Cx)(r:V->Option Int->Option Int->Hp->VK->Prop):Prop:=
 ∀(pZ:List (Addr×Obj))(s:aq)(σ:St)(H:Hp)(x:V)(v vl vu:Value)(lo hi:Option Int)(sl:Addr)(Q:VK),Inv X pZ σ H s->RelV x v->s.heap.IsSliceOf sl vl vu .none->xS vl lo->xS vu hi->r x lo hi H Q ->
  ∃T id,typeLookup (.type T) "__getitem__"=pure (some (.builtin id))/\s.TypeIs v T/\wpAny (bb X.prog X.w) X.A (n8 v (.ref sl)) (EP X pZ σ Q) X.xe s
def Z4(r:V->Option Int->Option Int->Hp->VK->Prop)(te:TE)(tl th:TO):TE:=λσ H Q=>te σ H λx H1=>tl σ H1 λl H2=>th σ H2 λu H3=>r x l u H3 Q
theorem Hd{r:V->Option Int->Option Int->Hp->VK->Prop}(hr:SE X r)(he:PE X e te)(hl:PO X lo tl)(hu:PO X hi th):PE X (.Subscript e (.Slice lo hi none p2) pos) (Z4 r te tl th):=by
 k_go;rwa[Subscript_ (eO (he pZ s σ H _ I h) λv s1 h9=>?_)];let#[x,H1,I1,r1,q1]:=h9;rwa[wpAny_Slice (eO (hl pZ s1 σ H1 _ I1 q1) λvl s2 h9=>?_)];let#[l,H2,I2,pl,q2]:=h9;rwa[eO (hu pZ s2 σ H2 _ I2 q2) λvu s3 h9=>?_]
 let#[u,H3,I3,pu,q3]:=h9;rw[evalPart_none]
 rwa[av ?_];have I4:Inv X pZ σ H3 {s3 with heap:=s3.heap.push {cls:=.type "slice",data:=.fields (List.toArray [vl,vu,.none])} }:=I3.kept (t':=s3.toks) λb ob q=>aE _ q
 let#[T,id,hT,ht,hg]:=hr pZ {s3 with heap:=s3.heap.push {cls:=.type "slice",data:=.fields (List.toArray [vl,vu,.none])} } σ H3 x v vl vu l u s3.heap.objs.size Q I4 r1 (Heap.IsSliceOf.new ..) pl pu q3;show wpAny (bb X.prog X.w) X.A (Et e (.Slice lo hi none p2) v (.ref s3.heap.objs.size)) (EP X pZ σ Q) X.xe {s3 with heap:=s3.heap.push {cls:=.type "slice",data:=.fields (List.toArray [vl,vu,.none])} };erw[tail_any (ops:=[.ref s3.heap.objs.size,v]) ht hT hg (by with_unfolding_all rfl)]
noncomputable def Ad(xs:List V)(lo hi:Option Int):List V:=(xs.drop (HT.jq xs.length 0 lo)).take (HT.jq xs.length xs.length hi-HT.jq xs.length 0 lo)
theorem tj(xs:List V)(lo hi:Option Int):(Ad xs lo hi).length<=xs.length:=by
 unfold Ad;rw[dE,JX]
 omega
def WX(K:aG):V->Option Int->Option Int->Hp->VK->Prop:=λx lo hi H Q=>∃a xs,x=.ref a/\lY K H a xs /\
 ¬(HT.jq xs.length 0 lo=0/\HT.jq xs.length xs.length hi=xs.length)/\∀p,H p=none->Q (.ref p) (upd H p (.tup (Ad xs lo hi)))
theorem OE:SE X (WX X.K):=by
 intro pZ s σ H x v vl vu lo hi sl Q I rx hs pl pu h;let#[a,xs,rfl,hx,hw,q]:=h;cases rx;let#[its,r,ht,hz]:=I.tuple hx;have hlen:its.toArray.size=xs.length:=by rw[aF];erw[r.length.symm]
 refine#["tuple",_,iR.lookup,ht.typeIs,?_];rwa[HT.qO ht hs pl pu (by rw[hlen];erw[hw]) ?_ (by rw[hlen];erw[hz])];rw[hlen]
 refine#[.ref s.heap.objs.size,_,I.laid (t':=s.toks) (o:=.tup (Ad xs lo hi)) (λb ob q=>aE _ q) (ar _) ?_,rfl,q _ (I.du.fresh (ar _))];exact#[aP (tj xs lo hi) hz,_,(r.drop (HT.jq xs.length 0 lo)).take (HT.jq xs.length xs.length hi-HT.jq xs.length 0 lo),Gs _ _]
noncomputable def SF(K:aG):R2:=λx y H Q=>∃a b xs ys,x=.ref a/\y=.ref b/\lY K H a xs/\lY K H b ys/\xs≠[]/\xs.length+ys.length<=sizeLine /\
 (ys=[]->Q (.ref a) H)/\(ys≠[]->∀p,H p=none->Q (.ref p) (upd H p (.tup (xs++ys))))
theorem Vals.yh{xs:List V}{us:List Value}(r:Vals xs us):us=[]↔xs=[]:=by
 cases r with
 |nil=>simp
 |cons _ _=>simp
theorem K2:gM X (cB .Add) (SF X.K):=by
 x_go;let#[a,b,xs,ys,rfl,rfl,ha,hb,hx,hz,q1,q2]:=h;cases rx;cases ry;let#[its,r1,p1,_]:=I.tuple ha;let#[its2,r2,p2,_]:=I.tuple hb;rwa[HT.KY p1 p2 (λz=>hx (r1.yh.mp z)) (λz=>#[.ref a,H,I,rfl,q1 (r2.yh.mp z)]) (λz=>?_) (by rw[<-r1.length,<-r2.length];erw[hz])];refine#[.ref s.heap.objs.size,_,I.laid (t':=s.toks) (o:=.tup (xs++ys)) (λb ob q=>aE _ q) (ar _) ?_,rfl,q2 (λw=>z (r2.yh.mpr w)) _ (I.du.fresh (ar _))];exact#[by rw[ax];erw[hz],_,r1.append r2,Gs _ _]
end
noncomputable def OF(n:Nat)(i:Int):Option Nat:=if 0<=i then(if i<n then some i.toNat else none) else if -(n:Int)<=i then some (i+n).toNat else none
noncomputable def OG{α:Type}(xs:List α)(i:Int):Option α:=(OF xs.length i).bind λj=>xs[j]?
theorem Dn{n:Nat}{i:Int}{j:Nat}(h:OF n i=some j):seqIndex? i n=some j/\j<n/\-(n:Int)<=i/\i<n:=by
 unfold OF at h;by_cases h0:0<=i
 .rw[if_pos h0] at h
  by_cases h1:i<n
  .rw[if_pos h1] at h
   have e:i.toNat=j:=aH h;exact#[by rw[Ko h0 h1,e],∅,∅,h1]
  .rw[if_neg h1] at h;cases h
 .rw[if_neg h0] at h
  by_cases h1:-(n:Int)<=i
  .rw[if_pos h1] at h
   have e:(i+n).toNat=j:=aH h;exact#[by rw[Gu ∅ h1,e],∅,h1,∅]
  .rw[if_neg h1] at h;cases h
theorem yi{α:Type}{xs:List α}{i:Int}{v:α}(h:OG xs i=some v):∃j,seqIndex? i xs.length=some j/\xs[j]?=some v/\j<xs.length/\-(xs.length:Int)<=i/\i<xs.length:=by
 unfold OG at h;cases e:OF xs.length i with
 |none=>rw[e] at h;cases h
 |some j=>
  rw[e] at h;let#[h1,h2,h3,h4]:=Dn e;exact#[j,h1,h,h2,h3,h4]
def Dp(b:Expr):Prop:=∀o i,zx b false o i=operate [o,i] (n8 o i)
def Rx(X:Cx)(r:R2):Prop:=
 ∀(value slice:Expr)(pZ:List (Addr×Obj))(s:aq)(σ:St)(H:Hp)(x y:V)(v u:Value)(Q:VK),Inv X pZ σ H s->RelV x v->RelV y u->r x y H Q ->
  zx slice false v u=operate [v,u] (n8 v u)->wpAny (bb X.prog X.w) X.A (Et value slice v u) (EP X pZ σ Q) X.xe s
def BX(X:Cx)(id:String)(r:V->List V->Hp->VK->Prop):Prop:=
 ∀(pZ:List (Addr×Obj))(s:aq)(σ:St)(H:Hp)(x:V)(xs:List V)(v:Value)(us:List Value)(Q:VK),Inv X pZ σ H s->RelV x v->Vals xs us->r x xs H Q ->
  wpAny (bb X.prog X.w) X.A (call (.builtin id) (v::us)) (EP X pZ σ Q) X.xe s
section
variable{X:Cx}{a b:Expr}{ta tb:TE}{pos:Pos}
theorem SH{r:R2}(hr:Rx X r)(ha:PE X a ta)(hb:PE X b tb)(hs:Dp b):PE X (.Subscript a b pos) (VR r ta tb):=by
 k_go;erw[Subscript_ (Oc ha hb I h λv u s2 x y H2 I2 rx ry q=>hr a b pZ s2 σ H2 x y v u Q I2 rx ry q (hs _ _))]
noncomputable def WY(K:aG):R2:=λx y H Q=>∃p xs i v,x=.ref p/\y=.int i/\iT K H p xs/\OG xs i=some v/\Q v H
noncomputable def WZ(K:aG):R2:=λx y H Q=>∃p xs i v,x=.ref p/\y=.int i/\lY K H p xs/\OG xs i=some v/\Q v H
noncomputable def W0:R2:=λx y H Q=>∃z i c,x=.str z/\y=.int i/\z.length<=sizeLine/\OG z.cps.toList i=some c/\Q (.str #[(List.toArray [c])]) H
theorem Dq:Rx X (WY X.K):=by
 intro value slice pZ s σ H x y v u Q I rx ry h hs;let#[p,xs,i,z,rfl,rfl,hq,he,q]:=h;cases rx;let#[t,rfl]:=ry;let#[its,r,pl,hz]:=I.list hq;let#[j,h1,h2,h3,h4,h5]:=yi he;let#[w,ew,rw']:=r.get h2;have hl:=r.length;have hn:=ou;have fin:EP X pZ σ Q w s:=#[z,H,I,rw',q]
 by_cases h0:0<=i
 .have hj:i.toNat=j:=by
   rw[Ko h0 h5] at h1;erw[aH h1]
  exact item_listR pl.isList h0 ∅ (by rw[hj];simpa using ew) fin hs
 .have hj:(i+(its.toArray.size:Int)).toNat=j:=by
   rw[Gu ∅ h4] at h1;rw[aF,<-hl]
   erw[aH h1]
  exact Gv (x:=w) pl.isList.typeIs slot_list_getitem.lookup
   (wpAny_getItem_list_neg (Q:=λr s'=>r=w/\EP X pZ σ Q r s') pl.isList ∅ (by rw[aF]<;>omega) ∅ (by rw[hj];simpa using ew) #[rfl,fin]) hs
theorem OH:Rx X (WZ X.K):=by
 intro value slice pZ s σ H x y v u Q I rx ry h hs;let#[p,xs,i,z,rfl,rfl,hq,he,q]:=h;cases rx;let#[t,rfl]:=ry;let#[its,r,pl,hz]:=I.tuple hq;let#[j,h1,h2,h3,h4,h5]:=yi he;let#[w,ew,rw']:=r.get h2;have hl:=r.length;have hn:=ou;have fin:EP X pZ σ Q w s:=#[z,H,I,rw',q]
 exact Gv (x:=w) pl.typeIs slot_tuple_getitem.lookup
  (getItem_tuple (j:=j) (Q:=λr s'=>r=w/\EP X pZ σ Q r s') pl ∅ ∅ (by rw[aF,<-hl];erw[h1]) (by simpa using ew) #[rfl,fin]) hs
theorem OI:Rx X W0:=by
 intro value slice pZ s σ H x y v u Q I rx ry h hs;let#[z,i,c,rfl,rfl,hz,he,q]:=h;let#[t,rfl]:=rx;let#[t',rfl]:=ry;let#[j,h1,h2,h3,h4,h5]:=yi he;have hl:z.cps.toList.length=z.length:=by simp[Gx]
 rw[hl] at h1 h4 h5;have hn:=ou;exact tail_any (typeIs_str s z t) slot_str_getitem.lookup (getItem_str (c:=c) (by
  have e1:decide (i < -(2^63:Int))=false:=decide_eq_false ∅;have e2:decide (i≥2^63)=false:=decide_eq_false ∅;rw[e1,e2,Bool.or_false]) (by rw[h1];simpa using h2) #[.str #[(List.toArray [c])],H,I.tok _,#[_,rfl],q]) hs
theorem BY(its:List Value)(n j:Nat)(u:Value):rW (·.setIfInBounds j u) {cls:=.type "list",data:=.seq its.toArray n}= {cls:=.type "list",data:=.seq (its.set j u).toArray n}:=by
 simp[rW]
theorem Inv.lst{pZ:List (Addr×Obj)}{σ:St}{H:Hp}{s:aq}{p:Addr}{xs:List V}(I:Inv X pZ σ H s)(h:H p=some (.lst xs)):
  ∃(its:List Value)(n:Nat),Vals xs its/\s.heap.get? p=some {cls:=.type "list",data:=.seq its.toArray n}/\xs.length<=sizeLine:=by
 let#[z,its,n,r,e]:=I.du p _ h;exact#[its,n,r,e,z]
theorem Inv.OJ{pZ:List (Addr×Obj)}{σ:St}{H:Hp}{s:aq}{p:Addr}{xs ys:List V}{its its':List Value}{n n':Nat}{f:Obj->Obj}(I:Inv X pZ σ H s)(h:H p=some (.lst xs))
  (ho:s.heap.get? p=some {cls:=.type "list",data:=.seq its.toArray n}) (hf:f {cls:=.type "list",data:=.seq its.toArray n}= {cls:=.type "list",data:=.seq its'.toArray n'}) (r:Vals ys its') (hz:ys.length<=sizeLine) (t:Nat):
  Inv X pZ σ (upd H p (.lst ys)) {s with heap:=s.heap.update p f,toks:=t}:=by
 have e:(s.heap.update p f).get? p=some {cls:=.type "list",data:=.seq its'.toArray n'}:=by
  rw[dC f ho (by rw[hf]<;>rfl),hf]
 rwa[I.write (x:=p) (e:=p) (by rw[h];trivial) (.inl rfl) (λb u hb q=>(n9 _ _ (cA hb)).trans q) #[_,e] ?_];exact#[hz,its',n',r,e]
def SI:V->V->V->Hp->(Hp->Prop)->Prop:=λo i v H Q=>∃p xs k j,o=.ref p/\i=.int k/\H p=some (.lst xs)/\OF xs.length k=some j/\Q (upd H p (.lst (xs.set j v)))
theorem set_list:R9 X SI:=by
 intro pZ s σ H o i v ov iv u Q I ro ri rv h;let#[p,xs,k,j,rfl,rfl,hp,hj,q]:=h;cases ro;let#[t,rfl]:=ri;let#[its,n,r,ho,hz]:=I.lst hp;let#[h1,h2,h3,h4]:=Dn hj;have hl:=r.length;have hn:=ou;have I':Inv X pZ σ (upd H p (.lst (xs.set j v))) {s with heap:=s.heap.update p (rW (·.setIfInBounds j u))}:=
  I.OJ hp ho (BY its n j u) (r.set rv j) (by rw[cq];erw[hz]) s.toks
 by_cases h0:0<=k
 .have hk:k.toNat=j:=by
   rw[Ko h0 h4] at h1;erw[aH h1]
  erw[PySem.W.ki_setAt ho h0 ∅ (by rw[aF,<-hl];exact h4) (by rw[hk];exact#[_,I',q])]
 .have hk:(k+(its.toArray.size:Int)).toNat=j:=by
   rw[Gu ∅ h3] at h1;rw[aF,<-hl]
   erw[aH h1]
  erw[PySem.W.ki_setBack ho ∅ (by rw[aF,<-hl];exact h3) ∅ (by rw[hk];exact#[_,I',q])]
theorem yj(lo hi:Option Int)(n:Nat):(k8 lo hi none n).1=((HT.jq n 0 lo:Nat):Int)/\(k8 lo hi none n).2.1=((HT.jq n n hi:Nat):Int)/\(k8 lo hi none n).2.2=1:=by
 refine#[?_,?_,rfl]
 .cases lo with
  |none=>simp[k8,HT.jq]
  |some i=>
   dsimp[k8,HT.jq,jO,show(1:Int)>0 by decide,if_true];by_cases h:i<0
   .dsimp[h,if_true]<;>omega
   .dsimp[h,if_false]<;>omega
 .cases hi with
  |none=>simp[k8,HT.jq]
  |some i=>
   dsimp[k8,HT.jq,jO,show(1:Int)>0 by decide,if_true];by_cases h:i<0
   .dsimp[h,if_true]<;>omega
   .dsimp[h,if_false]<;>omega
theorem v5(its:List Value)(lo hi:Option Int):slicePick its.toArray lo hi none=((its.drop (HT.jq its.length 0 lo)).take (HT.jq its.length its.length hi-HT.jq its.length 0 lo)).toArray:=by
 let#[h1,h2,h3]:=yj lo hi its.toArray.size;unfold slicePick;rw[h1,h2,h3]
 dsimp[sliceRange_one,pick_run,aF]<;>rfl
def W2(K:aG):V->Option Int->Option Int->Hp->VK->Prop:=λx lo hi H Q=>∃a xs,x=.ref a/\iT K H a xs/\∀p,H p=none->Q (.ref p) (upd H p (.lst (Ad xs lo hi)))
theorem K3:SE X (W2 X.K):=by
 intro pZ s σ H x v vl vu lo hi sl Q I rx hs pl pu h;let#[a,xs,rfl,hx,q]:=h;cases rx;let#[its,r,ht,hz]:=I.list hx;have hlen:=r.length;refine#["list",_,slot_list_getitem.lookup,ht.isList.typeIs,?_];refine wpAny_getItem_list_slice ht.isList hs pl pu .none (by simp) ?_ (by rw[aF]<;>omega);rw[v5,<-hlen]
 refine#[.ref s.heap.objs.size,_,I.laid (t':=s.toks) (o:=.lst (Ad xs lo hi)) (λb ob q=>aE _ q) (ar _) ?_,rfl,q _ (I.du.fresh (ar _))];exact#[aP (tj xs lo hi) hz,_,0,(r.drop (HT.jq xs.length 0 lo)).take (HT.jq xs.length xs.length hi-HT.jq xs.length 0 lo),aY _ rfl]
noncomputable def pP:V->Bool
 |.bV=>true
 |.bl _=>true
 |.int _=>true
 |.str _=>true
 |_=>false
noncomputable def K4:V->V->Bool
 |.bV,.bV=>true
 |.bl a,.bl b=>a==b
 |.bl a,.int b=>(if a then 1 else 0)== b
 |.int a,.bl b=>a==(if b then 1 else 0)
 |.int a,.int b=>a==b
 |.str a,.str b=>a==b
 |_,_=>false
theorem OK{A:cF}{s:aq}{y x:V}{u v:Value}(ry:RelV y u)(rx:RelV x v)(fy:pP y=true)(fx:pP x=true):vS A s u v (K4 y x):=by
 cases y with
 |bV=>
  cases ry;cases x with
  |bV=>cases rx;erw[jJ _]
  |bl b=>cases rx;erw[wq b]
  |int b=>let#[t,rfl]:=rx;erw[nY b t]
  |str b=>let#[t,rfl]:=rx;erw[nZ b t]
  |_=>erw[absurd (show false=true from fx) aS]
 |bl a=>
  cases ry;cases x with
  |bV=>cases rx;erw[wt a]
  |bl b=>cases rx;erw[wu a b]
  |int b=>let#[t,rfl]:=rx;erw[xT a b t]
  |str b=>let#[t,rfl]:=rx;erw[xU a b t]
  |_=>erw[absurd (show false=true from fx) aS]
 |int a=>
  let#[t',rfl]:=ry;cases x with
  |bV=>cases rx;erw[nV a t']
  |bl b=>cases rx;erw[xV a t' b]
  |int b=>let#[t,rfl]:=rx;erw[zy a t' b t]
  |str b=>let#[t,rfl]:=rx;erw[oM a t' b t]
  |_=>erw[absurd (show false=true from fx) aS]
 |str a=>
  let#[t',rfl]:=ry;cases x with
  |bV=>cases rx;erw[nW a t']
  |bl b=>cases rx;erw[xW a t' b]
  |int b=>let#[t,rfl]:=rx;erw[oN a t' b t]
  |str b=>let#[t,rfl]:=rx;erw[zz a t' b t]
  |_=>erw[absurd (show false=true from fx) aS]
 |_=>erw[absurd (show false=true from fy) aS]
noncomputable def BZ(x:V)(u:Value):Bool:=match u with
 |.none=>K4 .bV x
 |.bool b=>K4 (.bl b) x
 |.int i _=>K4 (.int i) x
 |.str z _=>K4 (.str z) x
 |_=>false
theorem He{x y:V}{u:Value}(r:RelV y u)(f:pP y=true):BZ x u=K4 y x:=by
 cases y with
 |bV=>cases r;rfl
 |bl b=>cases r;rfl
 |int i=>let#[t,rfl]:=r;rfl
 |str z=>let#[t,rfl]:=r;rfl
 |_=>erw[absurd (show false=true from f) aS]
theorem qP{x:V}:∀{xs:List V}{us:List Value},Vals xs us->xs.all pP=true->us.any (BZ x)=xs.any λy=>K4 y x
 |_,_,.nil,_=>rfl
 |y::xs,u::us,.cons r t,f=>by
  rw[bK,aj] at f;rw[cU,cU,He r f.1,qP t f.2]
theorem ox{A:cF}{s:aq}{x:V}{v:Value}(rx:RelV x v)(fx:pP x=true):∀{xs:List V}{us:List Value},Vals xs us->xs.all pP=true->∀u∈us,vS A s u v (BZ x u)
 |_,_,.nil,_=>λu hu=>by cases hu
 |y::xs,u::us,.cons r t,f=>λu' hu=>by
  rw[bK,aj] at f;rcases aR.mp hu with rfl|hu
  .rw[He r f.1];erw[OK r rx f.1 fx]
  .erw[ox rx fx t f.2 u' hu]
noncomputable def VS(x:V)(xs:List V):Bool:=xs.any λy=>K4 y x
noncomputable def YG(K:aG)(neg:Bool):R2:=λx y H Q=>∃p xs,y=.ref p/\(iT K H p xs\/lY K H p xs)/\pP x=true/\xs.all pP=true/\Q (.bl (if neg then !VS x xs else VS x xs)) H
theorem wO:gM X (bD .In) (YG X.K false):=by
 x_go;let#[p,xs,rfl,hq,fx,fs,q]:=h;cases ry;rcases hq with hq|hq
 .let#[its,r,pl,hz]:=I.list hq
  refine SeqAt.in_listAt (BZ x) pl.isList (λw hw=>ox rx fx r fs w (by simpa using hw)) #[.bl _,H,I,rfl,?_];rw[show its.toArray.any (BZ x)=its.any (BZ x) by simp,qP r fs]
  erw[q]
 .let#[its,r,pl,hz]:=I.tuple hq
  refine SeqAt.in_tupleAt (BZ x) pl (λw hw=>ox rx fx r fs w (by simpa using hw)) #[.bl _,H,I,rfl,?_];rw[show its.toArray.any (BZ x)=its.any (BZ x) by simp,qP r fs]
  erw[q]
theorem qQ:gM X (bD .NotIn) (YG X.K true):=by
 x_go;let#[p,xs,rfl,hq,fx,fs,q]:=h;cases ry;rcases hq with hq|hq
 .let#[its,r,pl,hz]:=I.list hq
  refine Eu (BZ x) pl.isList (λw hw=>ox rx fx r fs w (by simpa using hw)) #[.bl _,H,I,rfl,?_];rw[show its.toArray.any (BZ x)=its.any (BZ x) by simp,qP r fs]
  erw[q]
 .let#[its,r,pl,hz]:=I.tuple hq
  refine SeqAt.notIn_tupleAt (BZ x) pl (λw hw=>ox rx fx r fs w (by simpa using hw)) #[.bl _,H,I,rfl,?_];rw[show its.toArray.any (BZ x)=its.any (BZ x) by simp,qP r fs]
  erw[q]
theorem yk:gM X (bD .NotIn) (λx y H Q=>∃i j,x=.str i/\y=.str j/\Q (.bl (!(!(Builtin.Str.occurrences j i 0 j.length 1).isEmpty))) H):=by
 x_go;let#[i,j,rfl,rfl,q]:=h;let#[t,rfl]:=rx;let#[t',rfl]:=ry;erw[notIn_str #[.bl _,H,I,rfl,q]]
theorem qR:iA X (.type "list") (λxs H Q=>∃p ys,xs=[.ref p]/\(iT X.K H p ys\/lY X.K H p ys)/\∀l,H l=none->Q (.ref l) (upd H l (.lst ys))):=by
 k_ne;let#[p,ys,rfl,hq,q]:=h;let#[u,rfl,rx]:=vals1 r;cases rx;have fin:∀(its:List Value),Vals ys its->ys.length<=sizeLine->∀(h':Heap)(c':Nat),(∀b o',s.heap.get? b=some o'->h'.get? b=some o') ->
   h'.get? s.heap.objs.size=some {cls:=.type "list",dict:=none,data:=.seq its.toArray c',slots:=#[]}->EP X pZ σ Q (.ref s.heap.objs.size) {s with heap:=h'}:=λits r' hz h' c' kp e=>
  #[.ref s.heap.objs.size,_,I.laid (t':=s.toks) kp (ar _) (show dN X.prog X.w _ h' _ (.lst ys) from #[hz,its,c',r',e]),rfl,q _ (I.du.fresh (ar _))]
 rcases hq with hq|hq
 .let#[its,r',pl,hz]:=I.list hq
  have hlen:=r'.length;let#[o,ho,hc,n,hd]:=pl.isList;exact call_list_seq p (.inl rfl) ho hc hd (λh' c' kp e=>fin its r' hz h' c' kp e) (by dsimp[aF]<;>omega)
 .let#[its,r',pl,hz]:=I.tuple hq
  have hlen:=r'.length;let#[o,ho,hc,n,hd]:=pl;exact call_list_seq p (.inr rfl) ho hc hd (λh' c' kp e=>fin its r' hz h' c' kp e) (by dsimp[aF]<;>omega)
theorem v7:iA X (.type "tuple") (λxs H Q=>∃p ys,xs=[.ref p]/\((iT X.K H p ys/\∀l,H l=none->Q (.ref l) (upd H l (.tup ys)))\/(lY X.K H p ys/\Q (.ref p) H))):=by
 k_ne;let#[p,ys,rfl,h]:=h;let#[u,rfl,rx]:=vals1 r;cases rx;rcases h with⟨hq,q⟩|⟨hq,q⟩
 .let#[its,r',pl,hz]:=I.list hq
  have hlen:=r'.length;refine call_tuple_list pl.isList (λh' kp=>?_) (by dsimp[aF]<;>omega);have I1:Inv X pZ σ H {s with heap:=h'}:=I.kept (t':=s.toks) kp;have I2:Inv X pZ σ (upd H h'.objs.size (.tup ys)) {s with heap:=h'.push {cls:=.type "tuple",data:=.seq its.toArray} }:=
   I1.laid (t':=s.toks) (λb o e=>aE _ e) (ar _) (show dN X.prog X.w _ _ _ (.tup ys) from #[hz,its,r',Gs _ _])
  exact#[.ref h'.objs.size,_,I2,rfl,q _ (I1.du.fresh (ar _))]
 .let#[its,r',pl,hz]:=I.tuple hq
  erw[call_tuple_same pl #[.ref p,H,I,rfl,q]]
def VT(K:aG)(T:String)(x:V)(H:Hp):Prop:=match x with
 |.str _=>T="str"
 |.int _=>T="int"
 |.ref p=>(T="list"/\∃xs,iT K H p xs)\/(T="tuple"/\∃o,K.lookup p=some o/\o.cls=.type "tuple"/\o.dict=none) \/
   (T="dict"/\((∃kvs,H p=some (.dK kvs))\/(∃kvs,H p=some (.dT kvs))\/∃kvs,H p=some (.dP kvs)))\/(T="set"/\∃S n,H p=some (.set S n))
 |_=>False
theorem Hf{pZ:List (Addr×Obj)}{σ:St}{H:Hp}{s:aq}{T:String}{x:V}{v:Value}(I:Inv X pZ σ H s)(r:RelV x v)(ty:VT X.K T x H):
  s.TypeIs v T/\∀a,v=.ref a->∃ob,s.heap.get? a=some ob/\ob.dict=none:=by
 cases x with
 |str z=>
  let#[t,rfl]:=r;cases (show T="str" from ty);exact#[typeIs_str s z t,λ_ e=>nomatch e]
 |int i=>
  let#[t,rfl]:=r;cases (show T="int" from ty);exact#[typeIs_int s i t,λ_ e=>nomatch e]
 |ref p=>
  cases r;rcases ty with⟨rfl,xs,hq⟩|⟨rfl,o,hk,hc,hd⟩|⟨rfl,hk⟩|⟨rfl,S,n,hk⟩
  .let#[its,_,pl,_]:=I.list hq
   refine#[pl.isList.typeIs,λa e=>?_];cases e;let#[o,n,e,c,hd,_]:=pl;exact#[o,e,hd]
  .refine#[#[o,I.zG p o hk,hc],λa e=>?_]
   cases e;exact#[o,I.zG _ o hk,hd]
  .have z:∃o,s.heap.get? p=some o/\o.ExactDict:=by
    rcases hk with⟨kvs,hk⟩|⟨kvs,hk⟩|⟨kvs,hk⟩<;>(obtain⟨_,_,_,_,o,_,_,e,ex,_⟩:=I.du p _ hk;exact#[o,e,ex])
   let#[o,e,ex]:=z;refine#[#[o,e,ex.1],λa e2=>?_];cases e2;exact#[o,e,ex.2.1]
  .let#[o,_,_,_,e,ex,_]:=I.du p _ hk
   refine#[#[o,e,ex.1],λa e2=>?_];cases e2;exact#[o,e,ex.2.1]
 |_=>erw[aL ty]
def W3(K:aG)(T:String)(r:V->List V->Hp->VK->Prop)(to:TE):TE:=λσ H Q=>to σ H λx H1=>VT K T x H1/\r x [] H1 Q
def YH(K:aG)(T:String)(r:V->List V->Hp->VK->Prop)(to:TE)(t:TA):TE:=λσ H Q=>to σ H λx H1=>VT K T x H1/\t σ H1 λxs H2=>r x xs H2 Q
variable{o e:Expr}{es:List Expr}{to:TE}{t:TA}{name:Str}{apos cpos:Pos}{T id:String}{r:V->List V->Hp->VK->Prop}
theorem Hg(pa:PlainAttrs T)(slot:Slot T name id)(hty:typeOf (.builtin id)=pure (.type "method_descriptor"))(hm:BX X id r)(ho:PE X o to)
  (hbase:ig o name X.env (eval o X.env)=eval o X.env:=by rfl) (hline:(apos.endLine==cpos.line)=true:=by rfl):PE X (.Call (.Attribute o name apos) [] [] cpos) (W3 X.K T r to):=by
 k_go;rwa[wpAny_Call_method0_late hbase hline (eO (ho pZ s σ H _ I h) λv s1 h9=>?_)];let#[x,H1,I1,r1,ty,q1]:=h9;let#[h1,h2]:=Hf I1 r1 ty;exact#[T,id,pa,slot,hty,h1,h2,jo rfl (PySem.evalArgs_none (hm pZ s1 σ H1 x [] v [] Q I1 r1 .nil q1))]
theorem wQ(pa:PlainAttrs T)(slot:Slot T name id)(hty:typeOf (.builtin id)=pure (.type "method_descriptor"))(hm:BX X id r)(ho:PE X o to)(ha:PA X (e::es) t)
  (hbase:ig o name X.env (eval o X.env)=eval o X.env:=by rfl)
  (hfew:((iw cpos (bR (e::es) X.env)).all (λx=>!x.1)&&(backToKw cpos (jP [] X.env)).all (λx=>x.1.isSome)
   && decide ((e::es).length+([]:List oa).length+(if ([]:List oa).isEmpty then 0 else 1)<30))=true:=by rfl)
  (hline:(apos.endLine==cpos.line)=true:=by rfl) (hs:bR (e::es) X.env=(false,eval e X.env)::bR es X.env:=by rfl) (hplain:(iw cpos (bR es X.env)).any (·.1)=false:=by rfl):
  PE X (.Call (.Attribute o name apos) (e::es) [] cpos) (YH X.K T r to t):=by
 k_go;refine wpAny_Call_method_late hbase hfew hline rfl (eO (ho pZ s σ H _ I h) λv s1 h9=>?_);let#[x,H1,I1,r1,ty,q1]:=h9;let#[h1,h2]:=Hf I1 r1 ty;refine#[T,id,pa,slot,hty,h1,h2,?_];have hA:=ha cpos pZ s1 σ H1 _ I1 q1;rw[hs] at hA ⊢;refine jo (by show(false||(iw cpos (bR es X.env)).any (·.1))=false;rw[hplain]<;>rfl) (pI ?_);refine eO hA λus s2 h9=>?_
 let#[vs,H2,I2,r2,q2]:=h9;erw[hm pZ s2 σ H2 x vs v us Q I2 r1 r2 q2]
end
def YI(X:Cx)(id:String)(r:V->List V->Hp->VK->Prop):Prop:=
 ∀(pZ:List (Addr×Obj))(s:aq)(σ:St)(H:Hp)(x:V)(xs:List V)(v:Value)(us:List Value)(Q:VK),Inv X pZ σ H s->RelV x v->Vals xs us->r x xs H Q ->
  wpAny (bb X.prog X.w) X.A (call (.builtin id) (v::us)) (EP X pZ σ Q) X.xe s
theorem Vals.one:∀{x:V}{us:List Value},Vals [x] us->∃u,us=[u]/\RelV x u
 := by
 intro _ _ h;cases h with|cons r q=>cases q;exact#[_,rfl,r]
theorem Vals.two:∀{x y:V}{us:List Value},Vals [x,y] us->∃u v,us=[u,v]/\RelV x u/\RelV y v
 := by
 intro _ _ _ h;cases h with|cons r q=>cases q with|cons q q'=>cases q';exact#[_,_,rfl,r,q]
section
variable{X:Cx}{pZ:List (Addr×Obj)}{σ:St}{H:Hp}{s:aq}{l b:Addr}{xs ys zs:List V}
theorem Inv.SJ{its its':List Value}{n:Nat}{f:Array Value->Array Value}{t':Nat}(I:Inv X pZ σ H s)(hH:H l=some (.lst xs))
  (e:s.heap.get? l=some {cls:=.type "list",data:=.seq its.toArray n}) (hf:f its.toArray=its'.toArray) (hv:Vals ys its') (hz:ys.length<=sizeLine):
  Inv X pZ σ (upd H l (.lst ys)) {s with heap:=s.heap.update l (rW f),toks:=t'}:=by
 have q:=PySem.IsL.update e f;rw[hf] at q;rwa[I.write (x:=l) (e:=l) (by rw[hH];erw[trivial]) (.inl rfl) (λb' u hb hu=>(n9 s.heap (rW f) (cA hb)).trans hu) #[_,q] ?_];exact#[hz,its',_,hv,q]
theorem Inv.SK{its:List Value}{t':Nat}(I:Inv X pZ σ H s)(hv:Vals ys its)(hz:ys.length<=sizeLine):
  Inv X pZ σ (upd H s.heap.objs.size (.lst ys)) {s with heap:=s.heap.push {cls:=.type "list",data:=.seq its.toArray},toks:=t'}:=
 I.laid (λ_ _ q=>aE _ q) (ar _) #[hz,its,0,hv,aY _ rfl]
theorem Inv.fresh(I:Inv X pZ σ H s):H s.heap.objs.size=none:=I.du.fresh (ar _)
theorem Inv.E0(I:Inv X pZ σ H s)(hH:H l=some (.lst xs)):xs.length<=sizeLine/\∃(its:List Value)(n:Nat),Vals xs its/\xs.length=its.length/\s.heap.get? l=some {cls:=.type "list",data:=.seq its.toArray n}:=by
 let#[z,its,n,r,e]:=I.du l _ hH;exact#[z,its,n,r,r.length,e]
theorem Hh{n:Nat}(h:n<=sizeLine):Builtin.List.listTooLong n=false:=by
 unfold Builtin.List.listTooLong;erw[decide_eq_false ∅]
end
section
variable{X:Cx}
def K5:V->List V->Hp->VK->Prop:=λx vs H Q=>∃l xs y,x=.ref l/\vs=[y]/\H l=some (.lst xs)/\xs.length<sizeLine/\Q .bV (upd H l (.lst (xs++[y])))
theorem r8:YI X "list.append" K5:=by
 intro pZ s σ H x vs v us Q I rx rv h;let#[l,xs,y,rfl,rfl,hH,hz,q]:=h;cases rx;let#[u,rfl,ru]:=rv.one;let#[z,its,n,r,hl,e]:=I.E0 hH;rwa[call_meets F.slot_list_append #[_,e,rfl] F.entry_list_append (F.args_list_append_2 _ _) (PySem.list_append l its.toArray n u (by rw[aF];omega)) #[e,?_]];refine#[.bV,_,I.SJ (its':=its++[u]) hH e (by simp) (r.append (.cons ru .nil)) ?_,rfl,q];rw[ax,gh]
 omega
def K6:V->List V->Hp->VK->Prop:=λx vs H Q=>∃l b xs zs,x=.ref l/\vs=[.ref b]/\H l=some (.lst xs)/\H b=some (.lst zs)/\xs.length+zs.length<=sizeLine/\Q .bV (upd H l (.lst (xs++zs)))
theorem wR:YI X "list.extend" K6:=by
 intro pZ s σ H x vs v us Q I rx rv h;let#[l,b,xs,zs,rfl,rfl,hH,hB,hz,q]:=h;cases rx;let#[u,rfl,ru]:=rv.one;cases ru;let#[z,its,n,r,hl,e]:=I.E0 hH;let#[z2,its2,n2,r2,hl2,e2]:=I.E0 hB;have hsz:its.toArray.size+its2.toArray.size<=sizeLine:=by rw[aF,aF];omega
 have hlong:¬(!its.toArray.isEmpty&&Builtin.List.listTooLong (its.toArray.size+its2.toArray.size))=true:=by
  rw[Hh hsz,Bool.and_false]
  erw[aS]
 refine call_meets F.slot_list_extend #[_,e,rfl] F.entry_list_extend (F.args_list_extend_2 _ _)
  (AutoSeq1.list_extend_list_list_0 l its.toArray n b its2.toArray n2 hlong (by rw[aF];omega) ∅) #[e,e2,?_]
 refine#[.bV,_,I.SJ (its':=its++its2) hH e (by simp) (r.append r2) ?_,rfl,q];rw[ax]
 omega
noncomputable def W4:R2:=λx y H Q=>∃l b xs zs,x=.ref l/\y=.ref b/\H l=some (.lst xs)/\H b=some (.lst zs)/\xs.length+zs.length<=sizeLine/\∀p,H p=none->Q (.ref p) (upd H p (.lst (xs++zs)))
theorem OL:gM X (cB .Add) W4:=by
 x_go;let#[l,b,xs,zs,rfl,rfl,hH,hB,hz,q]:=h;cases rx;cases ry;let#[z,its,n,r,hl,e]:=I.E0 hH;let#[z2,its2,n2,r2,hl2,e2]:=I.E0 hB;rwa[PySem.P.add_list e e2 ?_ (by rw[aF,aF];omega)];have ea:its.toArray++its2.toArray=(its++its2).toArray:=by simp
 rw[ea]
 exact#[.ref _,_,I.SK (t':=s.toks) (r.append r2) (by rw[ax];omega),rfl,q _ I.fresh]
end
end L2
namespace YJ
open PySem PySem.W PySem.Calls PyProof.Rows
theorem tP{P:Gy}{h:Heap}:∀(ns:List Int)(vs:List Value),WellAll P h vs (ns.map WData.int)->Gz vs ns:=by
 intro ns;induction ns with
 |nil=>
  intro vs w;rw[jt] at w;cases w;erw[.nil]
 |cons n ns ih=>
  intro vs w;rw[ay] at w;cases w with
  |cons a b=>
   cases a;erw[.cons _ _ (ih _ b)]
theorem E1{l:GB}{n:Nat}(hn:l.most=some n){P:Gy}{h:Heap}{args:List WData}{vals:List Value}
  (hpre:l.row.toRowW.claim.pre args=true) (hwl:WellAll P h vals args):
  ∃a vs ns,vals=[bg a]/\args=[WData.list (ns.map WData.int)]/\h.get? a=some {cls:=.type "list",data:=.seq vs.toArray}/\Gz vs ns/\ns.length<=n:=by
 have hsh:WShape.hasAll [] args [.list .int]=true:=(pre_splitW hpre).1;have hc:l.pre.holds [] {args:=args}= true:=(pre_splitW hpre).2;let#[d,r,rfl,h1,h2]:=hasAllW_cons hsh;obtain rfl:=hasAllW_nil h2;let#[xs,rfl,h3]:=hasW_list h1;let#[ns,rfl]:=items_int h3;have hlen:ns.length<=n:=by
  unfold OpenLaw.pre at hc;have h4:(WTm.not (.lt (.lit (.int (n:Int))) (.len (.arg 0)))).holds [] {args:=[.list (ns.map .int)]}= true:=by
   have h4:=(holds_andW hc).1;rw[hn] at h4;erw[h4]
  have h5:=condW_of h4 (w_not (w_lt w_lit (w_len_list (w_arg rfl))));rw[ah] at h5;rwa[nG λq=>?_]
  have q':(n:Int)<((ns.length:Nat):Int):=∅
  first
   | (rw[decide_eq_true q'] at h5;erw[absurd h5 ⋯])
   | (simp at h5;omega)
 cases hwl with
 |cons w1 w2=>
  cases w2;cases w1 with
  |list ho hall=>exact#[_,_,ns,rfl,rfl,ho,tP ns _ hall,hlen]
theorem E2(l:GB)(args:List WData):l.row.toRowW.claim.post args (.bool true) args=true:=
 postW_of (r:=l.row.toRowW) (X:=(true==true))
  (show WShape.has [] (.bool true) .bool=true by first|rfl|decide|simp[WShape.has,WShape.arms,WShape.armsAll])
  (show(WTm.eq .res (.lit (.bool true))).value [] {args:=args,res:=some (.bool true),after:=args}= some (.bool (true==true)) from w_eq_bool (w_res rfl) w_lit) rfl
theorem Ae{l:GB}{n:Nat}{q:bf}{loose:List Str}{XP:(Str->Option Value)->Heap->Prop}{YP:bJ->Heap->Prop}{d:DefRec}
  (hn:l.most=some n) (hdf:d.params.defaults=[])
  (call:∀(w:bJ)(s₀ s₁:aq)(mg mb:Str->Option Value)(fa:Addr)(o:Obj)(pm cd doc:Value)(a:Addr)(vs:List Value)(ns:List Int),
   Ground q loose [] XP w s₀ mg mb s₁.heap->YP w s₁.heap ->
   s₁.heap.get? fa=some o->o.data=.func (docDef d.name d.params d.body d.scope pm cd doc)->s₁.heap.CodeRec cd d.name->mg d.name=some (.ref fa) ->
   s₁.heap.get? a=some {cls:=.type "list",data:=.seq vs.toArray}->Gz vs ns->ns.length<=n->s₁.gens = #[] ->
   p7 (bb l.prog w) vT (.call (.ref fa) #[[.ref a],[]]) (λr s'=>r=.ok (.ret (.bool true))/\OldK s₁.heap s'.heap/\s'.os=s₁.os/\n6 s'.gens) s₁):
  WalkO q loose XP YP l.row.toRowW d [] (λf vs=>Ew f vs):=by
 intro w s₀ s₁ mg mb G Y fa o pm cd doc dV kV ho hd hcd hD hmg hg args vals as hpre hlay hrd hwl hlo;obtain rfl:dV=.none:=Dflts.none hD hdf;obtain rfl:kV=.none:=Dflts.noKw hD;let#[a,vs,ns,rfl,rfl,hobj,hints,hlen]:=E1 hn hpre hwl;rwa[enter_call (vU (call w s₀ s₁ mg mb fa o pm cd doc a vs ns G Y ho (fd_plain hd) hcd hmg hobj hints hlen hg) λr s' hq=>?_)];let#[rfl,h2,h3,h4]:=hq;exact#[.inl #[.bool true,.bool true,[],rfl,λ_=>rfl,.bool true,E2 l _,λ_=>#[wx,λ_ hm=>(nomatch hm)]],h2,h3,h4]
end YJ
namespace L2
open PySem PySem.Spec PyProof.Rows
theorem wU:∀{vs:List Value}{ns:List Int},Gz vs ns->Vals (ns.map V.int) vs
 |_,_,.nil=>.nil
 |_,_,.cons n t h=>.cons #[t,rfl] (wU h)
def K7(H:Hp):Prop:=∀b,H b=none\/∃o xs,H b=some (.rV o (.lst xs))
theorem Hi{P:bf}{w:bJ}{K:aG}{mg mb:Str->Option Value}{CX:Hb}{k:Nat}{fa a:Addr}{fd:dW}{x:Str}{sp:Sp}{s₁:aq}{vs:List Value}{ns:List Int}
  (KX:K.In s₁.heap) (hns:s₁.heap.Ns bC mg) (hb:s₁.heap.Ns Bu mb) (hbb:∀x:Str,x≠"__name__"->mb x=pY x) (hlim:s₁.heap.NoLimit) (hg:s₁.gens = #[])
  (ha:s₁.heap.get? a=some {cls:=.type "list",data:=.seq vs.toArray}) (hi:Gz vs ns) (hl:ns.length<=sizeLine) (hr:kf k vT)
  (F:∀base:Heap,K.In base->base.Ns bC mg->kg P w K mg base CX k fa fd [x] sp) (hbind:∀(s:aq)(u:Value),Bh s fd #[[u],[]] [(x,u)])
  (hsp:∀H:Hp,K7 H->iT K H a (ns.map V.int)->sp [.ref a] H (λv _=>v=.bl true) λ_ _ _=>False)
  (hCX:∀H e s',CX [] H s₁ (λ_ _ _=>False) e s'->False):
  p7 (bb P w) vT (.call (.ref fa) #[[.ref a],[]]) (λr s'=>r=.ok (.ret (.bool true))/\OldK s₁.heap s'.heap/\s'.os=s₁.os/\n6 s'.gens) s₁:=by
 have rv:=wU hi;have lenV:=hi.length;have core:∀H:Hp,K7 H->iT K H a (ns.map V.int)->nJ P w H s₁.heap->(∀b,H b≠none->b=a)->(H a≠none->K.lookup a=none) ->
   p7 (bb P w) vT (.call (.ref fa) #[[.ref a],[]]) (λr s'=>r=.ok (.ret (.bool true))/\OldK s₁.heap s'.heap/\s'.os=s₁.os/\n6 s'.gens) s₁:=by
  intro H hO hS du hA hK;have fJ:∀{b:Addr}{o:Obj},s₁.heap.get? b=some o->H b=none->(yc s₁.heap H).get? b=some o:=λe n=>GL e n
  have noA:∀{b:Addr}{o:Obj}{es:Array ij}{ep:Nat},s₁.heap.get? b=some o->o.data=.dict es ep->H b=none:=λ{b o es ep}e d=>by
   cases q:H b with
   |none=>rfl
   |some u=>
    have e':b=a:=hA b (by rw[q];simp);subst e';rw[ha] at e;cases e;have d':Data.seq vs.toArray _=Data.dict es ep:=d;cases d'
  have nsK:∀{b:Addr}{m:Str->Option Value},s₁.heap.Ns b m->(yc s₁.heap H).Ns b m:=λ{b m} ⟨o,es,ep,e,d,r⟩=>#[o,es,ep,fJ e (noA e d),d,r]
  have hKb:K.In (yc s₁.heap H):=λb o e=>fJ (KX b o e) (by
   cases q:H b with
   |none=>rfl
   |some u=>
    have e':b=a:=hA b (by rw[q];simp);subst e';rw[hK (by rw[q];simp)] at e;cases e)
  have hM:Mod K mg (yc s₁.heap H):=#[hKb,nsK hns,#[mb,nsK hb,hbb],let ⟨mc,h1,h2⟩:=hlim;#[mc,nsK h1,h2]]
  have e0:BU P w K mg (yc s₁.heap H) vT [] s₁ H:=#[rfl,hM,λb o e=>Kx e,Bv (EL _ _),trivial,λb hb=>absurd (show b∈([]:List Addr) from hb) (by simp),du,.of_eq hg]
  rwa[vU ((F _ hKb (nsK hns)).run vT [] s₁ H #[[.ref a],[]] [.ref a] [.ref a] _ _ hr e0 (hbind s₁ (.ref a)) (.cons rfl .nil) (hsp H hO hS)) λr s' h=>?_]
  cases r with
  |error e=>exact(hCX H e s' h).elim
  |ok fl=>
   cases fl with
   |next=>erw[aL h]
   |brk=>erw[aL h]
   |cont=>erw[aL h]
   |ret u=>
    let#[v,H',os,bare,un,hok',r',q]:=h;have q':v=.bl true:=q;subst q';obtain rfl:u=j7 true:=r';refine#[rfl,OldK.of_keep λb o e=>?_,os,bare];cases q:H b with
    |none=>erw[un.keep b o e q (by intro z;exact absurd (show b∈([]:List Addr) from z) (by simp)) (by simp)]
    |some u=>
     rcases hO b with z|⟨ob,xs,z⟩
     .rw[q] at z;cases z
     .have z2:=un.yb b ob _ z
      let#[e1,_]:=du b _ z;let#[e2,_]:=hok' b _ z2;rw[e] at e1;cases e1;erw[e2]
 cases hk:K.lookup a with
 |some o=>
  have e:=KX a o hk;rw[ha] at e;cases e;refine core (λ_=>none) (λ_=>.inl rfl) (.inr #[_,vs.toArray,_,hk,rfl,rfl,rfl,by rw[aF,lenV];erw[hl],by simpa using rv]) (λb u z=>by have z':(none:Option HO)=some u:=z;cases z') (λb z=>absurd rfl z) λz=>absurd rfl z
 |none=>
  rwa[core (λb=>if b=a then some (.rV {cls:=.type "list",data:=.seq vs.toArray} (.lst (ns.map V.int))) else none) (λb=>?_) (.inl (.inr #[{cls:=.type "list",data:=.seq vs.toArray},if_pos rfl])) (λb u z=>?_) (λb z=>?_) λ_=>hk]
  .by_cases hb:b=a
   .erw[.inr #[_,_,if_pos hb]]
   .erw[.inl (if_neg hb)]
  .by_cases hb:b=a
   .have z':=(if_pos hb).symm.trans z
    cases z';subst hb;exact#[ha,by rw[ah];erw[hl],vs,_,rv,ha]
   .have z':=(if_neg hb).symm.trans z
    cases z'
  .by_cases hb:b=a
   .erw[hb]
   .erw[absurd (if_neg hb) z]
theorem K8{l:PySem.W.OpenLaw}{n k:Nat}{q:bf}{loose:List Str}{XP:(Str->Option Value)->Heap->Prop}{YP:bJ->Heap->Prop}{d:DefRec}{K:Gy->aG}{CX:bJ->Hb}{sp:bJ->Sp}{x:Str}
  (hn:l.most=some n) (hn2:n<=sizeLine) (hdf:d.params.defaults=[]) (hr:kf k vT)
  (hY:∀(w:bJ)(h:Heap),YP w h->(K w.params).In h)
  (F:∀(w:bJ)(mg:Str->Option Value)(fa:Addr)(h:Heap),(K w.params).In h->h.Ns bC mg->mg d.name=some (.ref fa) ->
   ∃fd:dW,(∀(s:aq)(u:Value),Bh s fd #[[u],[]] [(x,u)]) /\
    ∀base:Heap,(K w.params).In base->base.Ns bC mg->kg l.prog w (K w.params) mg base (CX w) k fa fd [x] (sp w))
  (hsp:∀(w:bJ)(H:Hp)(a:Addr)(ns:List Int),ns.length<=n->K7 H->iT (K w.params) H a (ns.map V.int)->sp w [.ref a] H (λv _=>v=.bl true) λ_ _ _=>False)
  (hCX:∀(w:bJ)(H:Hp)(s:aq)(e:Value)(s':aq),CX w [] H s (λ_ _ _=>False) e s'->False):
  PySem.W.WalkO q loose XP YP l.row.toRowW d [] (λf vs=>Ew f vs):=by
 rwa[YJ.Ae hn hdf λw s₀ s₁ mg mb fa o pm cd doc a vs ns G Y ho hd hcd hmg hobj hints hlen hg=>?_]
 have KX:=hY w _ Y;let#[fd,hb,hF]:=F w mg fa _ KX G.T.g hmg;erw[Hi KX G.T.g G.T.b G.T.builtins G.T.nolimit hg hobj hints (aP hlen hn2) hr hF hb (λH hO hS=>hsp w H a ns hlen hO hS) λH e s'=>hCX w H s₁ e s']
noncomputable def inClass(s:Stmt)(j:Nat):Stmt:=match s with
 |.ClassDef _ _ _ body _ _ _ _ _ _ _=>body.getD j (.Pass #[0,0,0,0])
 |_=>.Pass #[0,0,0,0]
noncomputable def ly(s:Stmt):Arguments:=match s with
 |.FunctionDef _ a _ _ _ _ _ _ _ _=>a
 |_=>{posonlyargs:=[],args:=[],vararg:=none,kwonlyargs:=[],kw_defaults:=[],kwarg:=none,defaults:=[]}
noncomputable def fK(s:Stmt):List Stmt:=match s with
 |.FunctionDef _ _ b _ _ _ _ _ _ _=>b
 |_=>[]
noncomputable def bO(s:Stmt):fQ:=match s with
 |.FunctionDef _ _ _ _ _ _ sc _ _ _=>sc
 |_=>{kind:=.function,names:=[],isGenerator:=false,isCoroutine:=false}
structure Kd(K:aG)(x qual:Str)(st:Stmt)(f:Addr)(fd:dW):Prop where
 ex:∃(oc:Value)(od:Option Addr)(kV doc pm:Value)(an:Option Addr)(cdv ct:Value)(osl:Array (Option Value)),
  fd=ko x qual (ly st) (fK st) (bO st) .none kV doc pm an cdv ct/\K.lookup f=some #[oc,od,.func fd,osl]/\uA K cdv qual=true
 kp:om K (.ref f)=true
section
variable{P:bf}{w:bJ}{K:aG}{mg:Str->Option Value}{base:Heap}
theorem Kd.binds{x qual:Str}{st:Stmt}{f:Addr}{fd:dW}{ps:List Str}(F:Kd K x qual st f fd)
  (h:∀(kV doc pm:Value)(an:Option Addr)(cdv ct:Value)(us:List Value),us.length=ps.length->Kn (ko x qual (ly st) (fK st) (bO st) .none kV doc pm an cdv ct) #[us,[]]=pure (ps.zip us)):Binds K fd ps []:=by
 let#[oc,od,kV,doc,pm,an,cdv,ct,osl,rfl,lk,hcd]:=F.ex;erw[.all (h kV doc pm an cdv ct)]
theorem Hj{x qual:Str}{st:Stmt}{f:Addr}{oc:Value}{od an:Option Addr}{osl:Array (Option Value)}{kV doc pm cdv ct:Value}(l:K.lookup f=some #[oc,od,.func (ko x qual (ly st) (fK st) (bO st) .none kV doc pm an cdv ct),osl])
  (c:uA K cdv qual=true) (k:om K (.ref f)=true):Kd K x qual st f (ko x qual (ly st) (fK st) (bO st) .none kV doc pm an cdv ct):=#[#[oc,od,kV,doc,pm,an,cdv,ct,osl,rfl,l,c],k]
end
section
variable{κ:Type}[DecidableEq κ]
noncomputable def jr(kvs:List (κ×V))(k:κ):Option V:=(kvs.find? λkv=>decide (kv.1=k)).map (·.2)
noncomputable def putK(kvs:List (κ×V))(k:κ)(v:V):List (κ×V):=
 if (kvs.any λkv=>decide (kv.1=k))=true then kvs.map (λkv=>if kv.1=k then(kv.1,v) else kv) else kvs++[(k,v)]
theorem kL{p:κ×V}{r:List (κ×V)}{k:κ}(e:p.1=k):jr (p::r) k=some p.2:=by simp[jr,dQ,e]
theorem kM{p:κ×V}{r:List (κ×V)}{k:κ}(e:¬p.1=k):jr (p::r) k=jr r k:=by simp[jr,dQ,e]
theorem uM(k:κ):∀kvs:List (κ×V),(kvs.any λkv=>decide (kv.1=k))=(jr kvs k).isSome
 |[]=>rfl
 |p::r=>by
  rw[cU]
  by_cases e:p.1=k
  .dsimp[kL e,decide_eq_true e,Bool.true_or,qv]
  .rw[kM e,decide_eq_false e,Bool.false_or];erw[uM k r]
theorem oy(kvs:List (κ×V))(k:κ)(v:V):(putK kvs k v).length<=kvs.length+1:=by
 unfold putK;split
 .rw[ah];omega
 .rw[ax,aW,dS];omega
theorem Af{kvs:List (κ×V)}{k:κ}(v:V)(h:jr kvs k=none):putK kvs k v=kvs++[(k,v)]:=by
 unfold putK;rw[uM,h]
 erw[if_neg ⋯]
theorem mH.r9{o:Option V}{u:Option Value}(r:mH o u):o.isSome=u.isSome:=by
 cases o with
 |none=>cases u with
  |none=>rfl
  |some _=>exact(show False from r).elim
 |some _=>cases u with
  |none=>exact(show False from r).elim
  |some _=>rfl
theorem mH.getD{o:Option V}{u:Option Value}{d:V}{d':Value}(r:mH o u)(rd:RelV d d'):RelV (o.getD d) (u.getD d'):=by
 cases o with
 |none=>cases u with
  |none=>erw[rd]
  |some _=>exact(show False from r).elim
 |some _=>cases u with
  |none=>exact(show False from r).elim
  |some _=>erw[r]
theorem KV.val{kvs:List (κ×V)}{vs:List (κ×Value)}(r:KV kvs vs)(k:κ):mH (jr kvs k) (k7 vs k):=by
 unfold KV at r;induction r with
 |nil=>erw[eI]
 |@cons p q ps qs h t ih=>
  let#[h1,h2]:=h;by_cases e:p.1=k
  .have e':q.1=k:=h1.symm.trans e
   have b:k7 (q::qs) k=some q.2:=by simp[k7,dQ,e']
   rw[kL e,b];erw[h2]
  .have e':¬q.1=k:=λz=>e (h1.trans z)
   have b:k7 (q::qs) k=k7 qs k:=by simp[k7,dQ,e']
   rw[kM e,b];erw[ih]
theorem KV.any{kvs:List (κ×V)}{vs:List (κ×Value)}(r:KV kvs vs)(k:κ):(kvs.any λkv=>decide (kv.1=k))=vs.any λkv=>decide (kv.1=k):=by
 unfold KV at r;induction r with
 |nil=>rfl
 |cons h t ih=>rw[cU,cU,ih,h.1]
theorem KV.OM{kvs:List (κ×V)}{vs:List (κ×Value)}(r:KV kvs vs)(k:κ){y:V}{u:Value}(ry:RelV y u):
  KV (kvs.map λkv=>if kv.1=k then(kv.1,y) else kv) (vs.map λkv=>if kv.1=k then(kv.1,u) else kv):=by
 unfold KV at r ⊢;induction r with
 |nil=>erw[.nil]
 |@cons p q ps qs h t ih=>
  rw[ay,ay]
  rwa[.cons ?_ ih];let#[h1,h2]:=h;by_cases e:p.1=k
  .rw[if_pos e,if_pos (h1.symm.trans e)];exact#[h1,ry]
  .rw[if_neg e,if_neg (λz=>e (h1.trans z))];exact#[h1,h2]
theorem KV.put{kvs:List (κ×V)}{vs:List (κ×Value)}(r:KV kvs vs)(k:κ){y:V}{u:Value}(ry:RelV y u):KV (putK kvs k y) (uB vs k u):=by
 unfold putK uB;rw[r.any k]
 by_cases e:(vs.any λkv=>decide (kv.1=k))=true
 .rw[if_pos e,if_pos e];erw[r.OM k ry]
 .rw[if_neg e,if_neg e];erw[Paired.snoc r #[rfl,ry]]
theorem KV.keys{kvs:List (κ×V)}{vs:List (κ×Value)}(r:KV kvs vs):kvs.map (·.1)=vs.map (·.1):=by
 unfold KV at r;induction r with
 |nil=>rfl
 |cons h t ih=>rw[ay,ay,ih,h.1]
theorem KV.length{kvs:List (κ×V)}{vs:List (κ×Value)}(r:KV kvs vs):kvs.length=vs.length:=Paired.length r
end
theorem qS{P:bf}{w:bJ}{k:Key}{u:Value}(r:RelV (kV k) u):(cR P w).is k u=true:=by
 rcases k with i|_|x
 .let#[t,e]:=(show ∃t,u=k5 i t from r);subst e;erw[zY P w i t]
 .cases (show u=cj from r);rfl
 .let#[t,e]:=(show ∃t,u=k6 x t from r);subst e;erw[zZ P w x t]
theorem ON{a b:Key}(e:kV a=kV b):a=b:=by
 rcases a with i|_|x<;>rcases b with j|_|y<;>cases e<;>rfl
theorem wV{P:bf}{w:bJ}:∀{ks:List Key}{us:List Value},Vals (ks.map kV) us->ItemsAre (cR P w) ks us
 |[],_,r=>by rw[jt] at r;cases r;erw[.nil]
 |k::ks,_,r=>by
  rw[ay] at r;cases r with
  |cons h t=>erw[.cons (qS h) (wV t)]
abbrev KT(H:Hp):List (List Key×V)->List (List Key×Addr×Value)->Prop:=Paired λp q=>p.1=q.1/\H q.2.1=some (.tup (p.1.map kV))/\RelV p.2 q.2.2
theorem KT.val{H:Hp}{kvs:List (List Key×V)}{xs:List (List Key×Addr×Value)}(r:KT H kvs xs)(k:List Key):mH (jr kvs k) ((qw xs k).map (·.2)):=by
 induction r with
 |nil=>erw[eI]
 |@cons p q ps qs h t ih=>
  let#[h1,_,h2]:=h;by_cases e:p.1=k
  .have e':q.1=k:=h1.symm.trans e
   have b:qw (q::qs) k=some q.2:=by simp[qw,dQ,e']
   rw[kL e,b];erw[h2]
  .have e':¬q.1=k:=λz=>e (h1.trans z)
   have b:qw (q::qs) k=qw qs k:=by simp[qw,dQ,e']
   rw[kM e,b];erw[ih]
theorem KT.OM{H:Hp}{kvs:List (List Key×V)}{xs:List (List Key×Addr×Value)}(r:KT H kvs xs)(k:List Key){y:V}{u:Value}(ry:RelV y u):
  KT H (kvs.map λkv=>if kv.1=k then(kv.1,y) else kv) (xs.map (putAt k u)):=by
 induction r with
 |nil=>erw[.nil]
 |@cons p q ps qs h t ih=>
  rw[ay,ay]
  rwa[.cons ?_ ih];let#[h1,h2,h3]:=h;unfold putAt;by_cases e:p.1=k
  .rw[if_pos e,if_pos (h1.symm.trans e)];exact#[h1,h2,ry]
  .rw[if_neg e,if_neg (λz=>e (h1.trans z))];exact#[h1,h2,h3]
theorem KT.put{H:Hp}{kvs:List (List Key×V)}{xs:List (List Key×Addr×Value)}(r:KT H kvs xs)(k:List Key){b:Addr}{y:V}{u:Value}(hb:H b=some (.tup (k.map kV)))(ry:RelV y u):
  KT H (putK kvs k y) (storedH xs k b u):=by
 have e:(kvs.any λkv=>decide (kv.1=k))=(qw xs k).isSome:=by
  rw[uM,(r.val k).r9,Ey]
 unfold putK storedH;rw[e]
 by_cases q:(qw xs k).isSome=true
 .rw[if_pos q,if_pos q];erw[r.OM k ry]
 .rw[if_neg q,if_neg q];erw[Paired.snoc r #[rfl,hb,ry]]
theorem KT.keeps{H H':Hp}{kvs:List (List Key×V)}{xs:List (List Key×Addr×Value)}(r:KT H kvs xs)(ht:∀b ys,H b=some (.tup ys)->H' b=some (.tup ys)):KT H' kvs xs:=
 Paired.EK r λ_ _ z=>#[z.1,ht _ _ z.2.1,z.2.2]
section
variable{P:bf}{w:bJ}{H:Hp}{h:Heap}{a:Addr}
theorem Nj{u:HO}(ok:nJ P w H h)(e:Rd H a u):dN P w H h a u:=e.ok ok
theorem tm{kvs:List (Key×V)}(ok:nJ P w H h)(e:Rd H a (.dK kvs)):kvs.length<=sizeLine/\(a==bY)=false/\∃vs,KV kvs vs/\h.DictOf (cR P w) a vs:=
 show dN P w H h a (.dK kvs) from Nj ok e
theorem Hk{kvs:List (Key×V)}(ok:nJ P w H h)(e:H a=some (.dK kvs)):kvs.length<=sizeLine/\(a==bY)=false/\∃vs,KV kvs vs/\h.DictOf (cR P w) a vs:=tm ok (.inl e)
theorem qa{ks:List Key}(ok:nJ P w H h)(e:H a=some (.tup (ks.map kV))):(mv (cR P w)).is h ks a:=by
 let#[_,its,r,o,h1,h2,n,h3]:=(show dN P w H h a (.tup (ks.map kV)) from ok a _ e)
 exact#[o,its.toArray,n,h1,h2,h3,by simpa using wV r]
theorem uO{kvs:List (List Key×V)}(ok:nJ P w H h)(e:Rd H a (.dT kvs)):kvs.length<=sizeLine/\(a==bY)=false /\
  ∃xs,KT H kvs xs/\h.DictOfH (mv (cR P w)) a xs:=by
 let#[z,y,xs,r,o,es,ep,h1,h2,h3,h4,h5]:=(show dN P w H h a (.dT kvs) from Nj ok e)
 refine#[z,y,xs,r,o,es,ep,h1,h2,h3,h4,λx hx=>?_,h5];have all:∀{l:List (List Key×V)}{m:List (List Key×Addr×Value)},KT H l m->∀x∈m,(mv (cR P w)).is h x.1 x.2.1:=by
  intro l m q;induction q with
  |nil=>intro x hx;erw[nomatch hx]
  |@cons p q ps qs hq t ih=>
   intro x hx;rcases aR.mp hx with e|hx
   .subst e
    erw[qa ok (by rw[<-hq.1];exact hq.2.1)]
   .erw[ih x hx]
 erw[all r x hx]
theorem Ds{kvs:List (List Key×V)}(ok:nJ P w H h)(e:H a=some (.dT kvs)):kvs.length<=sizeLine/\(a==bY)=false /\
  ∃xs,KT H kvs xs/\h.DictOfH (mv (cR P w)) a xs:=uO ok (.inl e)
end
def sd(H:Hp)(a:Addr)(y:V)(r:Option V):Prop:=
 (∃kvs k,Rd H a (.dK kvs)/\y=kV k/\r=jr kvs k)\/∃kvs k b,Rd H a (.dT kvs)/\y=.ref b/\H b=some (.tup (k.map kV))/\r=jr kvs k
def SM(H:Hp)(a:Addr)(y v:V)(H':Hp):Prop:=
 (∃kvs k,H a=some (.dK kvs)/\y=kV k/\kvs.length<sizeLine/\H'=upd H a (.dK (putK kvs k v))) \/
 ∃kvs k b,H a=some (.dT kvs)/\y=.ref b/\H b=some (.tup (k.map kV))/\kvs.length<sizeLine/\H'=upd H a (.dT (putK kvs k v))
theorem sd.k{H:Hp}{a:Addr}{kvs:List (Key×V)}{k:Key}(e:H a=some (.dK kvs)):sd H a (kV k) (jr kvs k):=.inl #[kvs,k,.inl e,rfl,rfl]
section
variable{X:Cx}{pZ:List (Addr×Obj)}{σ:St}{H:Hp}{s:aq}{a:Addr}{y v:V}{u r:Value}{o:Option V}{A:cF}{E:Value->aq->Prop}
theorem Inv.big(I:Inv X pZ σ H s):bY<s.heap.objs.size:=by
 have h:bC<s.heap.objs.size:=(I.mod.glob.keeps I.bk).lt;erw[Bw ⋯ h]
theorem E3{Q:Value->aq->Prop}(hu:A.units+1<eP)(I:Inv X pZ σ H s)(g:sd H a y (some v))(ry:RelV y u)(h:∀w' s',Inv X pZ σ H s'->RelV v w'->Q w' s'):
  wpAny (bb X.prog X.w) A (n8 (.ref a) u) Q E s:=by
 rcases g with⟨kvs,k,e,ey,l⟩|⟨kvs,k,b,e,ey,eb,l⟩
 .subst ey
  let#[z,hd,vs,rel,dd]:=tm I.du e;let#[w',hw,rw']:=mH.some_of (v:=v) (o:=k7 vs k) (by rw[l];erw[rel.val k]);erw[wpAny_getItem_of (qS ry) dd.mapOf hw (h w' _ (I.tok _) rw')]
 .subst ey
  cases (show u=bg b from ry);let#[z,hd,xs,rel,dd]:=uO I.du e;let#[w',hw,rw']:=mH.some_of (v:=v) (o:=(qw xs k).map (·.2)) (by rw[l];erw[rel.val k]);let#[p,hp,hp2]:=au.mp hw;rwa[wpAny_getItem_heap (gy hu) (qa I.du eb) dd hp ?_];rw[hp2]
  erw[h w' _ (I.tok _) rw']
theorem K9{Q:Value->aq->Prop}(hu:A.units+1<eP)(I:Inv X pZ σ H s)(g:sd H a y o)(ry:RelV y u)(h:∀s',Inv X pZ σ H s'->Q (.bool (!o.isSome)) s'):
  wpAny (bb X.prog X.w) A (bD .NotIn u (.ref a)) Q E s:=by
 rcases g with⟨kvs,k,e,ey,l⟩|⟨kvs,k,b,e,ey,eb,l⟩
 .subst ey
  let#[z,hd,vs,rel,dd]:=tm I.du e;rwa[wpAny_notIn_of (qS ry) hd dd.mapOf ?_];rw[<-(rel.val k).r9,<-l]
  erw[h _ (I.tok _)]
 .subst ey
  cases (show u=bg b from ry);let#[z,hd,xs,rel,dd]:=uO I.du e;rwa[wpAny_notIn_heap (gy hu) (qa I.du eb) hd dd ?_];have q:=(rel.val k).r9;rw[Ey] at q;rw[<-q,<-l]
  erw[h _ (I.tok _)]
theorem oW{h':Heap}{t':Nat}{ob:HO}(I:Inv X pZ σ H s)(mu:Rv (H a))(hs:fX a s.heap h')(he:∃q,h'.get? a=some q)(new:dN X.prog X.w (upd H a ob) h' a ob):
  Inv X pZ σ (upd H a ob) {s with heap:=h',toks:=t'}:=
 I.write (x:=a) (e:=a) mu (.inl rfl) (λb q hb z=>(hs.2 b hb).trans z) he new
theorem ym{P:bf}{w:bJ}{H':Hp}{h':Heap}{kvs:List (Key×V)}{vs:List (Key×Value)}(z:kvs.length<=sizeLine)(hd:(a==bY)=false)(rel:KV kvs vs)(dd:h'.DictOf (cR P w) a vs):
  dN P w H' h' a (.dK kvs):=#[z,hd,vs,rel,dd]
theorem E4{H':Hp}{Q:Unit->aq->Prop}(hu:A.units+1<eP)(I:Inv X pZ σ H s)(g:SM H a y v H')(ry:RelV y u)(rv:RelV v r)(h:∀s',Inv X pZ σ H' s'->Q () s'):
  wpAny (bb X.prog X.w) A (setItem (.ref a) u r) Q E s:=by
 rcases g with⟨kvs,k,e,ey,l,eH⟩|⟨kvs,k,b,e,ey,eb,l,eH⟩
 .subst ey eH
  let#[z,hd,vs,rel,dd]:=Hk I.du e;have hz:vs.length<=sizeLine:=by rw[<-rel.length];erw[z]
  have hl:(putK kvs k v).length<=sizeLine:=by have:=oy kvs k v;omega
  rwa[wpAny_setItem_pairs (hsz:=hz) (qS ry) dd λh' dd' hs=>h _ ?_]
  have he:∃q,h'.get? a=some q:=let ⟨q,_,_,hq,_⟩:=dd';#[q,hq];erw[oW I (by rw[e];exact eI) hs he (ym hl hd (rel.put k rv) dd')]
 .subst ey eH
  cases (show u=bg b from ry);let#[z,hd,xs,rel,dd]:=Ds I.du e;have hz:xs.length<=sizeLine:=by rw[<-Paired.length rel];erw[z]
  have hl:(putK kvs k v).length<=sizeLine:=by have:=oy kvs k v;omega
  rwa[wpAny_setItem_heap (hsz:=hz) (gy hu) (qa I.du eb) dd λh' dd' hs=>h _ ?_]
  let#[q,es,ep,hq,h2,h3,h4,_,h5]:=dd';rwa[oW I (by rw[e];erw[eI]) hs #[q,hq] #[hl,hd,_,(rel.put k eb rv).keeps λc ys ec=>?_,q,es,ep,hq,h2,h3,h4,h5]];rw[b8 (RQ ec e (λz=>nomatch z))]
  erw[ec]
end
section
variable{X:Cx}{pZ:List (Addr×Obj)}{σ:St}{H:Hp}{s:aq}{a:Addr}{kvs:List (Key×V)}{k:Key}{u:Value}{A:cF}{E:Value->aq->Prop}
theorem SN{Q:Value->aq->Prop}(I:Inv X pZ σ H s)(e:Rd H a (.dK kvs))(h:∀t s',Inv X pZ σ H s'->Q (.int kvs.length t) s'):wpAny (bb X.prog X.w) A (call (.builtin "len") [.ref a]) Q E s:=by
 let#[z,hd,vs,rel,dd]:=tm I.du e;refine call_len_dict hd dd (by rw[<-rel.length];rw[jL] at z;omega) ?_;rw[<-rel.length]
 erw[h _ _ (I.tok _)]
end
def SQ(i:Expr):Prop:=∀ov iv,zx i false ov iv=operate [ov,iv] (n8 ov iv)
theorem La{prog:bf}{w:bJ}{A:cF}{E:Value->aq->Prop}{s:aq}{env:Env}{value slice:Expr}{pos:Pos}{T id:String}{Q:Value->aq->Prop}
  (hl:typeLookup (.type T) "__getitem__"=pure (some (.builtin id))) (hs:SQ slice)
  (h:wpAny (bb prog w) A (eval value env) (λo s₁=>wpAny (bb prog w) A (eval slice env) (λi s₂=>s₂.TypeIs o T/\wpAny (bb prog w) A (n8 o i) Q E s₂) E s₁) E s):
  wpAny (bb prog w) A (eval (.Subscript value slice pos) env) Q E s:=by
 rwa[Subscript_ (bZ h (λo s₁ h₁=>bZ h₁ (λi s₂ h₂=>?_) λ_ _ x=>x) λ_ _ x=>x)];let#[hT,h₂]:=h₂;unfold Et;rwa[ab ?_];rw[getitemInPython_of_ne hT.not_modules]
 refine ab (zM hT hl ?_);have fin:wpAny (bb prog w) A (zx slice false o i) (λr s₃=>wpAny (bb prog w) A (letTemporaryGo value o r>>=λ_=>pure r) Q E s₃) E s₂:=by
  rw[hs o i]
  erw[wpAny_operating (bZ h₂ (λr s₃ h₃=>ab (wpAny_letTemporaryGo (av h₃))) λ_ _ x=>x)]
 first
  |exact av (ab fin)
  |exact ab (av (ab fin))
  |exact ab fin
theorem Ag{X:Cx}{pZ:List (Addr×Obj)}{σ:St}{H:Hp}{s:aq}{a:Addr}{y:V}{o:Option V}(I:Inv X pZ σ H s)(g:sd H a y o):s.TypeIs (.ref a) "dict":=by
 rcases g with⟨kvs,k,e,_,_⟩|⟨kvs,k,b,e,_,_,_⟩
 .let#[_,_,vs,_,dd]:=tm I.du e
  erw[dd.typeIs]
 .let#[_,_,xs,_,dd]:=uO I.du e
  erw[dd.typeIs]
def SR(td ty:TE):TE:=λσ H Q=>td σ H λx H1=>ty σ H1 λy H2=>∃a v,x=.ref a/\sd H2 a y (some v)/\Q v H2
def SS(td ty tv:TE):TS:=λD σ H=>tv σ H λv H1=>td σ H1 λx H2=>ty σ H2 λy H3=>∃a H4,x=.ref a/\SM H3 a y v H4/\D.nx σ H4
section
variable{X:Cx}{o i e value:Expr}{pos pos' tpos:Pos}{td ty tv:TE}
theorem Lb(hu:X.A.units+1<eP)(ho:PE X o td)(hi:PE X i ty)(hs:SQ i):PE X (.Subscript o i pos) (SR td ty):=by
 k_go;rwa[La PySem.F.slot_dict_getitem.lookup hs (eO (ho pZ s σ H _ I h) λu s1 h9=>?_)];let#[x,H1,I1,rx,q1]:=h9;rwa[eO (hi pZ s1 σ H1 _ I1 q1) λiv s2 h9=>?_]
 let#[y,H2,I2,ry,a,v,ex,g,q2]:=h9;subst ex;obtain rfl:u=bg a:=rx;exact#[Ag I2 g,E3 hu I2 g ry λw' s3 I3 rw'=>#[v,H2,I3,rw',q2]]
theorem Lc(hu:X.A.units+1<eP)(ho:PE X o td)(hi:PE X i ty)(hv:PE X value tv)(hs:hU value (some (.Subscript o i pos')) pos.line X.env=pure false):
  PS X (.Assign [.Subscript o i pos'] value pos) (SS td ty tv):=by
 intro pZ s σ H D I h;rwa[wpAny_Assign_Subscript (eO (hv pZ s σ H _ I h) λr s1 h9=>?_) hs];let#[v,H1,I1,rv,q1]:=h9;rwa[eO (ho pZ s1 σ H1 _ I1 q1) λu s2 h9=>?_]
 let#[x,H2,I2,rx,q2]:=h9;rwa[eO (hi pZ s2 σ H2 _ I2 q2) λiv s3 h9=>?_]
 let#[y,H3,I3,ry,a,H4,ex,g,q3]:=h9;subst ex;obtain rfl:u=bg a:=rx;erw[E4 hu I3 g ry rv λs4 I4=>#[σ,H4,I4,q3]]
end
theorem Ah{P:bf}{w:bJ}{H:Hp}(h:Heap)(hb:bY<h.objs.size):dN P w H (h.push {cls:=.type "dict",data:=.dict #[]}) h.objs.size (.dK []):=
 #[cw _,beq_eq_false_iff_ne.mpr (cA (aX hb)),[],.nil,Bj h]
theorem Hl{P:bf}{w:bJ}{H:Hp}(h:Heap)(hb:bY<h.objs.size):dN P w H (h.push {cls:=.type "dict",data:=.dict #[]}) h.objs.size (.dT []):=
 #[cw _,beq_eq_false_iff_ne.mpr (cA (aX hb)),[],.nil,_,#[],0,aY _ rfl,#[rfl,rfl,rfl],rfl,rfl,wy]
def B1:List (TE×TE)->St->Hp->(List (V×V)->Hp->Prop)->Prop
 |[],_,H,Q=>Q [] H
 | (tk,tv)::r,σ,H,Q=>tk σ H λx H1=>tv σ H1 λy H2=>B1 r σ H2 λps H3=>Q ((x,y)::ps) H3
abbrev VV:List (V×V)->List (Value×Value)->Prop:=Paired λp q=>RelV p.1 q.1/\RelV p.2 q.2
def VU(X:Cx)(pos:Pos)(keys:List (Option Expr))(values:List Expr)(trs:List (TE×TE)):Prop:=
 ∀(pZ:List (Addr×Obj))(s:aq)(σ:St)(H:Hp)(Q:List (V×V)->Hp->Prop),Inv X pZ σ H s->B1 trs σ H Q ->
  wpAny (bb X.prog X.w) X.A (evalPairs (pairTrees keys values X.env pos)) (λvs s'=>∃ps H',Inv X pZ σ H' s'/\VV ps vs/\Q ps H') X.xe s
theorem Ld{X:Cx}{pos:Pos}:VU X pos [] [] []:=λpZ s σ H Q I h=>pairTrees_nil_walk #[[],H,I,.nil,h]
theorem Hm{X:Cx}{pos:Pos}{k v:Expr}{ks:List (Option Expr)}{vs:List Expr}{tk tv:TE}{trs:List (TE×TE)}(hk:PE X k tk)(hv:PE X v tv)(hr:VU X pos ks vs trs):
  VU X pos (some k::ks) (v::vs) ((tk,tv)::trs):=λpZ s σ H Q I h=>
 pairTrees_cons_walk (eO (hk pZ s σ H _ I h) λu s1 #[x,H1,I1,rx,q1]=>eO (hv pZ s1 σ H1 _ I1 q1) λw2 s2 #[y,H2,I2,ry,q2]=>
  eO (hr pZ s2 σ H2 _ I2 q2) λws s3 #[ps,H3,I3,rel,q3]=>#[(x,y)::ps,H3,I3,.cons #[rx,ry] rel,q3])
noncomputable def uP(kvs more:List (Key×V)):List (Key×V):=more.foldl (λacc kv=>putK acc kv.1 kv.2) kvs
theorem KV.merge:∀{more:List (Key×V)}{rs:List (Key×Value)}{kvs:List (Key×V)}{vs:List (Key×Value)},KV more rs->KV kvs vs->KV (uP kvs more) (merged vs rs):=by
 intro more rs kvs vs r;unfold KV at r;induction r generalizing kvs vs with
 |nil=>intro q;erw[q]
 |@cons p q ps qs h t ih=>
  intro r0;have e:KV (putK kvs p.1 p.2) (uB vs q.1 q.2):=by
   have:=r0.put p.1 h.2;rw[<-h.1];erw[this]
  erw[ih e]
theorem pQ:∀(more kvs:List (Key×V)),(uP kvs more).length<=kvs.length+more.length
 |[],kvs=>by show kvs.length<=kvs.length+0;omega
 |p::r,kvs=>by
  have h1:=pQ r (putK kvs p.1 p.2);have h2:=oy kvs p.1 p.2;show(uP (putK kvs p.1 p.2) r).length<=_;rw[aW];omega
theorem uQ{P:bf}{w:bJ}:∀{kvs:List (Key×V)}{ws:List (Value×Value)},VV (kvs.map λkv=>(kV kv.1,kv.2)) ws->∃rs,Carries (cR P w) ws rs/\KV kvs rs
 |[],_,r=>by rw[jt] at r;cases r;exact#[[],eI,.nil]
 |p::kvs,_,r=>by
  rw[ay] at r;cases r with
  |@cons a b as bs h t=>
   let#[rs,c,q]:=uQ (P:=P) (w:=w) t;let#[b1,b2]:=b;exact#[(p.1,b2)::rs,#[qS h.1,rfl,c],.cons #[rfl,h.2] q]
def SU(trs:List (TE×TE)):TE:=λσ H Q=>∀p,H p=none->B1 trs σ (upd H p (.dK [])) λps H2=>H2 p=some (.dK [])/\∃kvs:List (Key×V),ps=kvs.map (λkv=>(kV kv.1,kv.2))/\kvs.length<=15/\Q (.ref p) (upd H2 p (.dK (uP [] kvs)))
theorem Le{X:Cx}{pos:Pos}{keys:List (Option Expr)}{values:List Expr}{trs:List (TE×TE)}(h:VU X pos keys values trs)(hall:keys.all (·.isSome)=true)(hl:keys.length=values.length)(h0:keys≠[])
  (h15:keys.length<=15):PE X (.Dict keys values pos) (SU trs):=by
 intro pZ s σ H Q I q;have hn:=I.du.fresh (ar s.heap.objs.size);have I1:=I.laid (a:=s.heap.objs.size) (o:=.dK []) (h':=s.heap.push {cls:=.type "dict",data:=.dict #[]}) (t':=s.toks) (λ_ _ q=>aE _ q) (ar _) (Ah s.heap I.big);refine wpAny_Dict_walk (knd:=cR X.prog X.w) hall hl h0 h15 (eO (h pZ _ σ _ _ I1 (q _ hn)) λws s2 h9=>?_);let#[ps,H2,I2,rel,e,kvs,ep,lk,q2]:=h9;subst ep;let#[rs,c,rk]:=uQ (P:=X.prog) (w:=X.w) rel;let#[z,hd,vs0,r0,dd]:=Hk I2.du e;cases r0;refine#[rs,c,dd,λh' dd' hs=>#[.ref s.heap.objs.size,_,?_,rfl,q2]];have hz:(uP [] kvs).length<=sizeLine:=by
  have h1:=pQ kvs [];rw[dS] at h1;rw[jL];omega
 have he:∃q,h'.get? s.heap.objs.size=some q:=let ⟨q,_,_,hq,_⟩:=dd';#[q,hq];erw[oW I2 (by rw[e];exact eI) hs he (ym hz hd (rk.merge .nil) dd')]
structure M1(X:Cx)(o:Expr)(m:Str)(apos:Pos)(e:Expr)(cpos:Pos):Prop where
 base:ig o m X.env (eval o X.env)=eval o X.env
 W5:((iw cpos (bR [e] X.env)).all (λx=>!x.1)&&(backToKw cpos (jP [] X.env)).all (λx=>x.1.isSome)
  && decide (([e]:List Expr).length+([]:List oa).length+(if ([]:List oa).isEmpty then 0 else 1)<30))=true
 line:(apos.endLine==cpos.line)=true
 trees:iw cpos (bR [e] X.env)= [(false,eval e X.env)]
structure M2(X:Cx)(o:Expr)(m:Str)(apos:Pos)(e f:Expr)(cpos:Pos):Prop where
 base:ig o m X.env (eval o X.env)=eval o X.env
 W5:((iw cpos (bR [e,f] X.env)).all (λx=>!x.1)&&(backToKw cpos (jP [] X.env)).all (λx=>x.1.isSome)
  && decide (([e,f]:List Expr).length+([]:List oa).length+(if ([]:List oa).isEmpty then 0 else 1)<30))=true
 line:(apos.endLine==cpos.line)=true
 trees:iw cpos (bR [e,f] X.env)= [(false,eval e X.env),(false,eval f X.env)]
def W6(H:Hp)(a:Addr):Prop:=(∃kvs,Rd H a (.dK kvs))\/∃kvs,Rd H a (.dT kvs)
theorem Hn{X:Cx}{pZ:List (Addr×Obj)}{σ:St}{H:Hp}{s:aq}{a:Addr}(I:Inv X pZ σ H s)(d:W6 H a):
  s.TypeIs (.ref a) "dict"/\(∀b,bg a=.ref b->∃ob,s.heap.get? b=some ob/\ob.dict=none)/\(a==bY)=false:=by
 rcases d with⟨kvs,e⟩|⟨kvs,e⟩
 .let#[_,hd,vs,_,dd]:=tm I.du e
  refine#[dd.typeIs,λb q=>?_,hd];cases q;let#[ob,_,_,h1,h2,_]:=dd;exact#[ob,h1,h2.2.1]
 .let#[_,hd,xs,_,dd]:=uO I.du e
  refine#[dd.typeIs,λb q=>?_,hd];cases q;let#[ob,_,_,h1,h2,_]:=dd;exact#[ob,h1,h2.2.1]
section
variable{X:Cx}{pZ:List (Addr×Obj)}{σ:St}{H:Hp}{s:aq}{a:Addr}{y d:V}{u r:Value}{o:Option V}{A:cF}{E:Value->aq->Prop}
theorem OO{Q:Value->aq->Prop}(hu:A.units+1<eP)(I:Inv X pZ σ H s)(g:sd H a y o)(ry:RelV y u)(h:∀w' s',Inv X pZ σ H s'->RelV (o.getD .bV) w'->Q w' s'):
  wpAny (bb X.prog X.w) A (call (.builtin "dict.get") [.ref a,u]) Q E s:=by
 rcases g with⟨kvs,k,e,ey,l⟩|⟨kvs,k,b,e,ey,eb,l⟩
 .subst ey
  let#[z,hd,vs,rel,dd]:=tm I.du e;rwa[l7 eD dd.typeIs i6 (wz _ _) (meets_dict_get (cR X.prog X.w) a (qS ry) hd) #[_,dd.mapOf,h _ _ (I.tok _) ?_]];rw[l]
  exact(rel.val k).getD rfl
 .subst ey
  cases (show u=bg b from ry);let#[z,hd,xs,rel,dd]:=uO I.du e;rwa[l7 eD dd.typeIs i6 (wz _ _) (meetsH_dict_get (mv (cR X.prog X.w)) a b hd) #[gy hu,k,xs,qa I.du eb,dd,h _ _ (I.tok _) ?_]];rw[l]
  exact(rel.val k).getD rfl
theorem OP{Q:Value->aq->Prop}(hu:A.units+1<eP)(I:Inv X pZ σ H s)(g:sd H a y o)(ry:RelV y u)(rd:RelV d r)(h:∀w' s',Inv X pZ σ H s'->RelV (o.getD d) w'->Q w' s'):
  wpAny (bb X.prog X.w) A (call (.builtin "dict.get") [.ref a,u,r]) Q E s:=by
 rcases g with⟨kvs,k,e,ey,l⟩|⟨kvs,k,b,e,ey,eb,l⟩
 .subst ey
  let#[z,hd,vs,rel,dd]:=tm I.du e;rwa[l7 eD dd.typeIs i6 (wA _ _ _) (meets_dict_get_default (cR X.prog X.w) a (qS ry) hd r) #[_,dd.mapOf,h _ _ (I.tok _) ?_]];rw[l]
  exact(rel.val k).getD rd
 .subst ey
  cases (show u=bg b from ry);let#[z,hd,xs,rel,dd]:=uO I.du e;rwa[l7 eD dd.typeIs i6 (wA _ _ _) (meetsH_dict_get_default (mv (cR X.prog X.w)) a b hd r) #[gy hu,k,xs,qa I.du eb,dd,h _ _ (I.tok _) ?_]];rw[l]
  exact(rel.val k).getD rd
end
def OQ(td ty:TE):TE:=λσ H Q=>td σ H λx H1=>∃a,x=.ref a/\W6 H1 a/\ty σ H1 λy H2=>∃o,sd H2 a y o/\Q (o.getD .bV) H2
def OR(td ty tx:TE):TE:=λσ H Q=>td σ H λx H1=>∃a,x=.ref a/\W6 H1 a/\ty σ H1 λy H2=>tx σ H2 λz H3=>∃o,sd H3 a y o/\Q (o.getD z) H3
section
variable{X:Cx}{o e f:Expr}{apos cpos:Pos}{td ty tx:TE}
theorem Ho(hu:X.A.units+1<eP)(ho:PE X o td)(he:PE X e ty)(m:M1 X o "get" apos e cpos):PE X (.Call (.Attribute o "get" apos) [e] [] cpos) (OQ td ty):=by
 k_go;rwa[wpAny_Call_method m.base m.W5 m.line iS eD zA (eO (ho pZ s σ H _ I h) λu s1 h9=>?_)];let#[x,H1,I1,rx,a,ex,d,q1]:=h9;subst ex;obtain rfl:u=bg a:=rx;let#[t1,t2,_]:=Hn I1 d;refine#[t1,t2,?_];rw[m.trees]
 rwa[jo rfl (pI (iX (eO (he pZ s1 σ H1 _ I1 q1) λiv s2 h9=>?_)))];let#[y,H2,I2,ry,ov,g,q2]:=h9;rwa[lX ?_];erw[OO hu I2 g ry λw' s3 I3 rw'=>#[_,H2,I3,rw',q2]]
theorem Hq(hu:X.A.units+1<eP)(ho:PE X o td)(he:PE X e ty)(hf:PE X f tx)(m:M2 X o "get" apos e f cpos):PE X (.Call (.Attribute o "get" apos) [e,f] [] cpos) (OR td ty tx):=by
 k_go;rwa[wpAny_Call_method m.base m.W5 m.line iS eD zA (eO (ho pZ s σ H _ I h) λu s1 h9=>?_)];let#[x,H1,I1,rx,a,ex,d,q1]:=h9;subst ex;obtain rfl:u=bg a:=rx;let#[t1,t2,_]:=Hn I1 d;refine#[t1,t2,?_];rw[m.trees]
 refine jo rfl (pI (iX (eO (he pZ s1 σ H1 _ I1 q1) λiv s2 #[y,H2,I2,ry,q2]=>
  iX (eO (hf pZ s2 σ H2 _ I2 q2) λfv s3 #[z,H3,I3,rz,ov,g,q3]=>lX ?_))))
 erw[OP hu I3 g ry rz λw' s4 I4 rw'=>#[_,H3,I4,rw',q3]]
end
section
variable{X:Cx}
theorem E5:iA X (.builtin "len") (λxs H Q=>∃a kvs,xs=[V.ref a]/\H a=some (.dK kvs)/\Q (.int kvs.length) H):=by
 k_ne;let#[a,kvs,rfl,ha,q]:=h;let#[u,rfl,ru]:=vals1 r;cases ru;erw[SN I (.inl ha) λt s' I'=>#[.int kvs.length,H,I',#[t,rfl],q]]
end
open PySem.W
section
variable{prog:bf}{w:bJ}{K:Type}[DecidableEq K]{A:cF}{E:Value->aq->Prop}{s:aq}
theorem B3{knd:KeyKind prog w K}{d:Addr}{kvs:List (K×Value)}{k:K}{key v:Value}{Q:Value->aq->Prop}(hkey:knd.is k key=true)(hm:s.heap.DictOf knd d kvs)(hsz:kvs.length<=sizeLine)
  (h1:∀x t',k7 kvs k=some x->Q x {s with toks:=t'})
  (h2:∀h' t',k7 kvs k=none->h'.DictOf knd d (uB kvs k v)->fX d s.heap h'->Q v {s with heap:=h',toks:=t'}):
  wpAny (bb prog w) A (iN d key v) Q E s:=by
 have mo:s.heap.MapOf knd d (k7 kvs):=hm.mapOf;let#[o,es,ep,ho,hc,hd,hk,hp,hn]:=hm;let#[o',es',ep',ho',_,hd',_,hf]:=mo;obtain rfl:o=o':=aH (ho.symm.trans ho');rw[hd] at hd';injection hd' with e1 _
 subst e1;have hes:es.size<=sizeLine:=by
  have e1:=hp.length;have e2:es.toList.length=es.size:=by simp
  omega
 unfold iN;refine fI (ab (knd.pyHash hkey ?_));refine ab (wpAny_dictFind_of (s:={s with toks:=s.toks+1}) hkey ho hd hk ?_);have hidx:(es.findIdx? λe=>knd.is k e.key)=kvs.findIdx? λkv=>decide (kv.1=k):=by
  rw[<-hp.findIdx k];let#[l]:=es;simp
 have hv:k7 kvs k=((es.findIdx? λe=>knd.is k e.key).bind λi=>es[i]?).map (·.val):=by
  rw[<-hf k,findBy_of_findIdx?]
  cases es.findIdx? λe=>knd.is k e.key<;>rfl
 cases hi:es.findIdx? λe=>knd.is k e.key with
 |some i=>
  rw[hi] at hv;refine ab (iy (s:={s with toks:=s.toks+1}) ho hd ?_);have hlt:i<es.size:=(Array.findIdx?_eq_some_iff_findIdx_eq.mp hi).1;have hv:k7 kvs k=(es[i]?).map (·.val):=hv;rw[iz hlt] at hv ⊢;erw[ab (pX (av (h1 _ _ hv)))]
 |none=>
  rw[hi] at hv;have hnot:k∉kvs.map (·.1):=not_mem_of_findIdx_none (hidx▸hi);have hany:¬(kvs.any λkv=>decide (kv.1=k))=true:=by
   rw[kb];rintro⟨kv,hkv,he⟩;erw[hnot (bB.mpr #[kv,hkv,of_decide_eq_true he])]
  refine ab (pX (ab (Kq (hz:=hes) (s:={s with toks:=s.toks+1}) ho hd (av (h2 _ _ hv #[_,_,ep+1,dC _ ho (F9 (kq hd _)),
   hc.mapDictKeys _,kq hd _,hk.push hkey _,?_,?_] (eQ ..))))))
  .rw[uB,if_neg hany]
   have:=hp.append hkey (knd.hash k) v;let#[l]:=es;simpa using this
  .rw[uB,if_neg hany,aJ,dM]
   refine#[hn,by simp,λa ha b hb=>?_];dsimp[ay,jt,bS] at hb;subst hb;erw[λe=>hnot (e▸ha)]
theorem wW{knd:HeapKind prog w K}{d a:Addr}{xs:List (K×Addr×Value)}{k:K}{v:Value}{Q:Value->aq->Prop}(hu:knd.room A)(hkey:knd.is s.heap k a)(hm:s.heap.DictOfH knd d xs)(hsz:xs.length<=sizeLine)
  (h1:∀x t',(qw xs k).map (·.2)=some x->Q x {s with toks:=t'})
  (h2:∀h' t',qw xs k=none->h'.DictOfH knd d (xs++[(k,a,v)])->fX d s.heap h'->Q v {s with heap:=h',toks:=t'}):
  wpAny (bb prog w) A (iN d (.ref a) v) Q E s:=by
 let#[o,es,ep,ho,hc,hd,he,his,hn]:=hm;unfold iN;rwa[fI (ab (knd.pyHash hu hkey ?_))];refine ab (wpAny_dictFind_heap (s:={s with toks:=s.toks+knd.draws k}) hu hkey ho hd he his hn ?_ ?_)
 .intro hno
  have hnot:k∉xs.map (·.1):=not_mem_keys_of_get hno;refine ab (pX (ab (Kq (hz:=by have e:=zQ he;omega) (s:={s with toks:=s.toks+knd.draws k}) ho hd (av (h2 _ _ (atKey_none_of_get hno) #[_,_,ep+1,dC _ ho (F9 (kq hd _)),
   hc.mapDictKeys _,kq hd _,?_,?_,?_] (eQ ..))))))
  .simp[he,Bt]
  .intro x hx
   rcases aI.mp hx with hx|hx
   .erw[knd.keeps (his x hx) ho hd (eQ ..)]
   .dsimp[bS] at hx
    subst hx;erw[knd.keeps hkey ho hd (eQ ..)]
  .rw[aJ,dM]
   refine#[hn,by simp,λx hx y hy=>?_];dsimp[ay,jt,bS] at hy;subst hy;erw[λe=>hnot (e▸hx)]
 .intro j p hj
  refine ab (iy (s:={s with toks:=s.toks+knd.draws k}) ho hd ?_);rw[entry_at he j,hj]
  erw[ab (pX (av (h1 _ _ (by rw[atKey_of_get hn hj];rfl))))]
theorem se{a:Addr}{u r:Value}{Q:Value->aq->Prop}(hT:s.TypeIs (.ref a) "dict")(hd:(a==bY)=false)(h:wpAny (bb prog w) A.in1 (iN a u r) Q E s):
  wpAny (bb prog w) A (call (.builtin "dict.setdefault") [.ref a,u,r]) Q E s:=by
 refine l7 (S:=λA R s=>s.TypeIs (.ref a) "dict"/\wpAny (bb prog w) A.in1 (iN a u r) (λv s'=>R (.ok (.ret v)) s') (λe s'=>R (.error e) s') s)
  tN hT PySem.F.entry_dict_setdefault (PySem.F.args_dict_setdefault_3 _ _ _) (.of_wp λA R s h=>?_) #[hT,h]
 unfold Builtin.«dict.setdefault»;rwa[ab ?_];unfold Builtin.Dict.keyAndDefault;rwa[ab (qF h.1 (av ?_))];show wpAny _ _ (if (a==bY)=true then _ else(iN a u r>>=_)) _ _ s;rw[if_neg (by rw[hd];erw[aS])]
 erw[ab (bZ h.2 (λv s' q=>av #[v,rfl,q]) λ_ _ q=>q)]
end
section
variable{X:Cx}
abbrev KP(H:Hp):List (lP×V)->List (lP×Addr×Value)->Prop:=Paired λp q=>p.1=q.1/\(∃c,H q.2.1=some (.tup [.int p.1.1,.ref c])/\H c=some (.tup (p.1.2.map .int)))/\RelV p.2 q.2.2
theorem Ai{P:bf}{w:bJ}:∀{ks:List Int}{us:List Value},Vals (ks.map .int) us->ItemsAre (Bf P w) ks us
 |[],_,r=>by rw[jt] at r;cases r;erw[.nil]
 |k::ks,_,r=>by
  rw[ay] at r;cases r with
  |cons h t=>
   let#[t',e]:=h;erw[.cons (by rw[e];simp[Bf,Br]) (Ai t)]
theorem Dt{P:bf}{w:bJ}{H:Hp}{h:Heap}{a c:Addr}{k:lP}(ok:nJ P w H h)(e:H a=some (.tup [.int k.1,.ref c]))(e2:H c=some (.tup (k.2.map .int))):(qH P w).is h k a:=by
 let#[_,its,r,o,h1,h2,n,h3]:=(show dN P w H h a (.tup [.int k.1,.ref c]) from ok a _ e)
 let#[_,jts,r',o',g1,g2,n',g3]:=(show dN P w H h c (.tup (k.2.map .int)) from ok c _ e2)
 cases r with
 |cons r1 r2=>
  let#[t,e]:=r1;cases r2 with
  |cons r3 r4=>
   cases r4;cases (show _=bg c from r3);subst e;exact#[t,c,n,o,h1,h2,h3,o',jts.toArray,n',g1,g2,g3,by simpa using Ai r']
theorem Nk{P:bf}{w:bJ}{H:Hp}{h:Heap}{a:Addr}{kvs:List (lP×V)}(ok:nJ P w H h)(e:H a=some (.dP kvs)):kvs.length<=sizeLine/\(a==bY)=false /\
  ∃xs,KP H kvs xs/\h.DictOfH (qH P w) a xs:=by
 let#[z,y,xs,r,o,es,ep,h1,h2,h3,h4,h5]:=(show dN P w H h a (.dP kvs) from ok a _ e)
 refine#[z,y,xs,r,o,es,ep,h1,h2,h3,h4,λx hx=>?_,h5];have all:∀{l:List (lP×V)}{m:List (lP×Addr×Value)},KP H l m->∀x∈m,(qH P w).is h x.1 x.2.1:=by
  intro l m q;induction q with
  |nil=>intro x hx;erw[nomatch hx]
  |@cons p q ps qs hq t ih=>
   intro x hx;rcases aR.mp hx with e|hx
   .subst e
    let#[e1,#[c,e2,e3],_]:=hq;rw[<-e1]
    erw[Dt ok e2 e3]
   .erw[ih x hx]
 erw[all r x hx]
theorem KP.val{H:Hp}{kvs:List (lP×V)}{xs:List (lP×Addr×Value)}(r:KP H kvs xs)(k:lP):mH (jr kvs k) ((qw xs k).map (·.2)):=by
 induction r with
 |nil=>erw[eI]
 |@cons p q ps qs hq t ih=>
  by_cases e:p.1=k
  .have e':q.1=k:=hq.1▸e
   rw[kL e]
   dsimp[qw,dQ,e',decide_true];erw[hq.2.2]
  .have e':¬q.1=k:=hq.1▸e
   rw[kM e]
   simpa[qw,dQ,e'] using ih
def W7(H:Hp)(a:Addr)(y d r:V)(H':Hp):Prop:=
 (∃kvs k,H a=some (.dK kvs)/\y=kV k/\kvs.length<sizeLine/\((jr kvs k=some r/\H'=H)\/(jr kvs k=none/\r=d/\H'=upd H a (.dK (kvs++[(k,d)]))))) \/
 (∃kvs k b,H a=some (.dT kvs)/\y=.ref b/\H b=some (.tup (k.map kV))/\kvs.length<sizeLine/\((jr kvs k=some r/\H'=H)\/(jr kvs k=none/\r=d/\H'=upd H a (.dT (kvs++[(k,d)]))))) \/
 ∃kvs k b c,H a=some (.dP kvs)/\y=.ref b/\H b=some (.tup [.int k.1,.ref c])/\H c=some (.tup (k.2.map .int))/\kvs.length<sizeLine/\((jr kvs k=some r/\H'=H)\/(jr kvs k=none/\r=d/\H'=upd H a (.dP (kvs++[(k,d)]))))
theorem oz{α β:Type}{F:α->β->Prop}:∀{l:List α}{m:List β}{a:α}{b:β},Paired F l m->F a b->Paired F (l++[a]) (m++[b])
 |_,_,_,_,.nil,f=>.cons f .nil
 |_,_,_,_,.cons r t,f=>.cons r (oz t f)
theorem Lf(hu:X.A.units+2<eP):BX X "dict.setdefault" (λx xs H Q=>∃a y d r H',x=.ref a/\xs=[y,d]/\W7 H a y d r H'/\Q r H'):=by
 intro pZ s σ H x xs v us Q I rx rs h;let#[a,y,d,r,H',rfl,rfl,g,q]:=h;let#[u,ud,rfl,ry,rd]:=rs.two;cases (show v=bg a from rx);rcases g with⟨kvs,k,e,rfl,l,g⟩|⟨kvs,k,b,e,rfl,eb,l,g⟩|⟨kvs,k,b,c,e,rfl,eb,ec,l,g⟩
 .let#[z,hd,vs,rel,dd]:=Hk I.du e
  have rv:=rel.val k;rwa[se dd.typeIs hd (B3 (qS ry) dd (by rw[<-rel.length];erw[z]) (λx t' hx=>?_) λh' t' hn dd' hs=>?_)]
  .rw[hx] at rv
   rcases g with⟨g1,rfl⟩|⟨g1,_⟩
   .rw[g1] at rv;exact#[r,H',I.tok _,rv,q]
   .rw[g1] at rv;erw[rv.elim]
  .rw[hn] at rv
   rcases g with⟨g1,rfl⟩|⟨g1,rfl,rfl⟩
   .rw[g1] at rv;erw[rv.elim]
   .have e2:putK kvs k r=kvs++[(k,r)]:=Af r g1
    have he:∃q,h'.get? a=some q:=let ⟨q,_,_,hq,_⟩:=dd';#[q,hq];exact#[r,_,oW I (by rw[e];erw[eI]) hs he (ym (by simp;omega) hd (e2▸rel.put k rd) dd'),rd,q]
 .cases (show u=bg b from ry)
  let#[z,hd,ws,rel,dd]:=Ds I.du e;have rv:=rel.val k;rwa[se dd.typeIs hd (wW (gy ∅) (qa I.du eb) dd (by rw[<-Paired.length rel];erw[z]) (λx t' hx=>?_) λh' t' hn dd' hs=>?_)]
  .rw[hx] at rv
   rcases g with⟨g1,rfl⟩|⟨g1,_⟩
   .rw[g1] at rv;exact#[r,H',I.tok _,rv,q]
   .rw[g1] at rv;erw[rv.elim]
  .rw[hn] at rv
   rcases g with⟨g1,rfl⟩|⟨g1,rfl,rfl⟩
   .rw[g1] at rv;erw[rv.elim]
   .let#[o,es,ep,hq,h2,h3,h4,_,h5]:=dd'
    have nt:∀b ys,H b=some (.tup ys)->b≠a:=λb ys eq z=>by rw[z,e] at eq;cases eq
    refine#[r,upd H a (.dT (kvs++[(k,r)])),oW (ob:=.dT (kvs++[(k,r)])) I (by rw[e];erw[eI]) hs #[o,hq] #[by simp;omega,hd,ws++[(k,b,ud)],oz (Paired.EK rel λp q z=>#[z.1,?_,z.2.2]) #[rfl,?_,rd],o,es,ep,hq,h2,h3,h4,h5],rd,q]
    .rw[b8 (nt _ _ z.2.1)];erw[z.2.1]
    .rw[b8 (nt _ _ eb)];erw[eb]
 .cases (show u=bg b from ry)
  let#[z,hd,ws,rel,dd]:=Nk I.du e;have rv:=rel.val k;rwa[se dd.typeIs hd (wW (show X.A.in1.units+1<eP by dsimp[sS];omega) (Dt I.du eb ec) dd (by rw[<-Paired.length rel];erw[z]) (λx t' hx=>?_) λh' t' hn dd' hs=>?_)]
  .rw[hx] at rv
   rcases g with⟨g1,rfl⟩|⟨g1,_⟩
   .rw[g1] at rv;exact#[r,H',I.tok _,rv,q]
   .rw[g1] at rv;erw[rv.elim]
  .rw[hn] at rv
   rcases g with⟨g1,rfl⟩|⟨g1,rfl,rfl⟩
   .rw[g1] at rv;erw[rv.elim]
   .let#[o,es,ep,hq,h2,h3,h4,_,h5]:=dd'
    have nt:∀b ys,H b=some (.tup ys)->b≠a:=λb ys eq z=>by rw[z,e] at eq;cases eq
    refine#[r,upd H a (.dP (kvs++[(k,r)])),oW (ob:=.dP (kvs++[(k,r)])) I (by rw[e];erw[eI]) hs #[o,hq] #[by simp;omega,hd,ws++[(k,b,ud)],oz (Paired.EK rel λp q z=>#[z.1,?_,z.2.2]) #[rfl,#[c,?_,?_],rd],o,es,ep,hq,h2,h3,h4,h5],rd,q]
    .let#[c,e1,e2]:=z.2.1
     exact#[c,by rw[b8 (nt _ _ e1)];erw[e1],by rw[b8 (nt _ _ e2)];erw[e2]]
    .rw[b8 (nt _ _ eb)];erw[eb]
    .rw[b8 (nt _ _ ec)];erw[ec]
end
theorem OS{P:bf}{w:bJ}{k:Key}{u:Value}(h:(cR P w).is k u=true):RelV (kV k) u:=by
 rcases fG h with⟨i,t,rfl,rfl⟩|⟨x,t,rfl,rfl⟩|⟨rfl,rfl⟩
 .exact#[t,rfl]
 .exact#[t,rfl]
 .rfl
def Ry(a:Addr)(o:Obj)(kvs:List (Key×V)):It:=
 #[λi H=>H a=some (.rV o (.dK kvs))/\i<kvs.length,λi H x H'=>H'=H/\∃k v,kvs[i]?=some (k,v)/\x=kV k,λi H=>H a=some (.rV o (.dK kvs))/\kvs.length<=i]
theorem B4{P:bf}{w:bJ}{H:Hp}{h:Heap}{a:Addr}{o:Obj}{es:Array ij}{ep:Nat}{kvs:List (Key×V)}(ok:nJ P w H h)(e:H a=some (.rV o (.dK kvs)))(hd:o.data=.dict es ep):
  (a==bY)=false/\∃vs,KV kvs vs/\h.DictAt (cR P w) a vs ep:=by
 let#[ho,z,y,vs,rel,o',es',ep',h1,h2,h3,h4]:=(show dN P w H h a (.rV o (.dK kvs)) from ok a _ e)
 rw[ho] at h1;cases h1;rw[hd] at h3;cases h3;exact#[y,vs,rel,o,es,ho,h2,hd,h4]
theorem E6{P:bf}{w:bJ}{K:aG}{tg:Expr}(a it:Addr){o:Obj}{es:Array ij}{ep:Nat}(hd:o.data=.dict es ep)(kvs:List (Key×V)):
  Turn P w K tg (Ry a o kvs) [it] it (λi h=>h.IsKeyIter it a i kvs.length ep) where
 mem:=by simp
 obj:=λi h st b hb=>by
  have e:b=it:=by simpa using hb
  subst e;let#[o,e,c,d]:=st;exact#[o,e,λv z=>by rw[d] at z;cases z]
 keep:=λi h h' st k=>by
  let#[o,e,r]:=st;exact#[o,k it (by simp) o e,r]
 item:=by
  w_up;subst hP hw hK;let#[hq,hl]:=hg;let#[_,vs,rel,da]:=B4 I.du hq hd;let#[f0,f1,f2,f3,f4,f5]:=hf it (by simp);have hlen:=rel.length;have hk:=congrArg (λl=>l[i]?) rel.keys;dsimp[aC] at hk;let#[k,v]:=vs[i]'∅;have e1:vs[i]?=some vs[i]:=aa ∅;have e2:kvs[i]?=some kvs[i]:=aa hl;rw[e1,e2] at hk;have hk:kvs[i].1=vs[i].1:=aH hk;rw[hlen] at st;rwa[wpAny_pyNext_dict_item st da (k:=vs[i].1) (v:=vs[i].2) e1 λkey h' ik st' sb=>?_]
  have I1:Inv X pZ σ H {s with heap:=h'}:=I.turned (t':=s.toks) (λb o hb e=>(sb.2 b hb).trans e) f0 f1 f3 f4 f5;let#[o',e,c,d]:=id st';exact#[key,rfl,z9 (s:={s with heap:=h'}) e c d ⋯ #[kV vs[i].1,H,I1,OS ik,#[rfl,vs[i].1,kvs[i].2,by rw[e2,<-hk],rfl],by rw[hlen];erw[st'],λb hb=>(hf b hb).1]]
 done:=by
  w_up;subst hP hw hK;let#[hq,hl]:=hg;let#[_,vs,rel,da]:=B4 I.du hq hd;let#[f0,f1,f2,f3,f4,f5]:=hf it (by simp);have hlen:=rel.length;rw[hlen] at st;erw[wpAny_pyNext_dict_end (I.ok.hd hc) st da (dD ∅) λh' eb=>#[rfl,I.turned (t':=s.toks) (λb o hb e=>eb b o hb e) f0 f1 f3 f4 f5]]
 self:=λ_ _ _ _ _ st h=>wpAny_pyIter_keyiter st h
section
variable{X:Cx}
theorem Inv.freeze{pZ:List (Addr×Obj)}{σ:St}{H:Hp}{s:aq}{a:Addr}{u:HO}{o:Obj}(I:Inv X pZ σ H s)(e:H a=some u)(mu:Rv (some u))(ho:s.heap.get? a=some o)(k:dN X.prog X.w (upd H a (.rV o u)) s.heap a u):
  Inv X pZ σ (upd H a (.rV o u)) s:=
 I.write (x:=a) (e:=a) (h':=s.heap) (t':=s.toks) (by rw[e];erw[mu]) (.inl rfl) (λb u _ q=>q) #[o,ho] #[ho,k]
noncomputable def SV(tl:TE):TI:=λσ H R=>tl σ H λx H1=>∃a kvs,x=.ref a/\((H1 a=some (.dK kvs)/\∀o,R (Ry a o kvs) (upd H1 a (.rV o (.dK kvs))))\/∃o,H1 a=some (.rV o (.dK kvs))/\R (Ry a o kvs) H1)
theorem Lg{tg l:Expr}{tl:TE}(hl:PE X l tl):PI X tg l (SV tl):=by
 intro pZ s σ H R I h;rwa[eO (hl pZ s σ H _ I h) λv s1 h9=>?_]
 let#[x,H1,I1,r1,a,kvs,rfl,q]:=h9;cases (show v=bg a from r1);obtain⟨o,H2,I2,e2,q2⟩:∃o H2,Inv X pZ σ H2 s1/\H2 a=some (.rV o (.dK kvs))/\R (Ry a o kvs) H2:=by
  rcases q with⟨e,q⟩|⟨o,e,q⟩
  .have k:=(show dN X.prog X.w H1 s1.heap a (.dK kvs) from I1.du a _ e)
   let#[_,_,_,_,o,_,_,ho,_]:=id k;exact#[o,_,I1.freeze e eI ho k,cb,q o]
  .exact#[o,H1,I1,e,q]
 obtain⟨es,ep,hd⟩:∃es ep,o.data=.dict es ep:=by
  let#[ho,_,_,_,_,o',es,ep,h1,_,h3,_]:=(show dN X.prog X.w H2 s1.heap a (.rV o (.dK kvs)) from I2.du a _ e2)
  rw[ho] at h1;cases h1;exact#[es,ep,h3]
 let#[lo,vs,rel,da]:=B4 I2.du e2 hd;rwa[wpAny_pyIter_dict lo da ?_];refine#[s1.heap.objs.size,[s1.heap.objs.size],_,Ry a o kvs,H2,rfl,I2.kept (t':=s1.toks) λb o e=>aE _ e,E6 a _ hd kvs,#[_,aY _ rfl,rfl,by rw[rel.length];rfl],λc hc=>?_,q2];have e:c=s1.heap.objs.size:=by simpa using hc
 subst e;erw[I2.BJ (ar _) (I2.du.fresh (ar _))]
end
def Gg(h:Heap)(e:Addr)(c:Value)(dx:Option Addr):Option (Addr×Value)->Prop
 |none=>∃vs sl,h.get? e=some #[c,dx,.fields vs,sl]/\vs[1]?=some .none
 |some (T,fl)=>∃vs sl,h.get? e=some #[c,dx,.fields vs,sl]/\vs[1]?=some (.ref T)/\T≠e/\∃oT ts,h.get? T=some oT/\oT.data=.fields ts/\ts[3]?=some fl
structure j8(fs ch:List Addr)(h h':Heap):Prop where
 keep:∀b o,h.get? b=some o->b∉fs->b∉ch->h'.get? b=some o
 slot:∀b o,h.get? b=some o->b∈fs->b∉ch->∃sl,h'.get? b=some {o with slots:=sl}
 there:∀b o,h.get? b=some o->∃o',h'.get? b=some o'
theorem j8.trans{fs ch:List Addr}{h1 h2 h3:Heap}(x:j8 fs ch h1 h2)(y:j8 fs ch h2 h3):j8 fs ch h1 h3:=
 #[λb o e n m=>y.keep b o (x.keep b o e n m) n m,λb o e n m=>by
  let#[s1,q1]:=x.slot b o e n m;let#[s2,q2]:=y.slot b _ q1 n m;exact#[s2,q2],λb o e=>by
  let#[o1,q1]:=x.there b o e;erw[y.there b o1 q1]]
theorem j8.mono{fs fs' ch ch':List Addr}{h h':Heap}(x:j8 fs ch h h')(a:∀b∈fs,b∈fs')(c:∀b∈ch,b∈ch'):j8 fs' ch' h h':=
 #[λb o e n m=>x.keep b o e (λz=>n (a b z)) λz=>m (c b z),λb o e n m=>by
  by_cases z:b∈fs
  .erw[x.slot b o e z λy=>m (c b y)]
  .exact#[o.slots,x.keep b o e z λy=>m (c b y)],x.there]
theorem iO{h:Heap}{a b:Addr}{f:Obj->Obj}{o:Obj}(e:h.get? b=some o)(n:b≠a):(h.update a f).get? b=some o:=by
 rw[n9 h f (cA n)]
 erw[e]
theorem mJ{fs:List Addr}{h:Heap}{a:Addr}{o:Obj}{f:Obj->Obj}(e:h.get? a=some o)(hf:(f o).isFreed=false):j8 fs [a] h (h.update a f):=
 #[λb o' q _ m=>iO q λz=>m (by simp[z]),λb o' q _ m=>#[o'.slots,iO q λz=>m (by simp[z])],λb o' q=>by
  by_cases z:b=a
  .subst z;exact#[_,dC f e hf]
  .exact#[o',iO q z]]
theorem B5{fs ch:List Addr}{h:Heap}(o:Obj):j8 fs ch h (h.push o):=
 #[λb _ q _ _=>aE o q,λb o' q _ _=>#[o'.slots,aE o q],λb o' q=>#[o',aE o q]]
section
variable{M:Model}{A:cF}{E:Value->aq->Prop}{s:aq}{base:Heap}{env:Env}{outer:List Env}{L e:Addr}{c:Value}{dx:Option Addr}{Q:Unit->aq->Prop}
theorem Hr{vs:Array Value}{sl:Array (Option Value)}{head:Value}{b:Bool}(hfr:A.frames=some (env::outer))(hl:s.heap.FunFrames base (env::outer))(hf:env.frame=some L)
  (he:s.heap.get? e=some #[c,dx,.fields vs,sl]) (hsz:1<vs.size)
  (q:∀h' T,j8 (vY (env::outer)) [e] s.heap h'->s.heap.objs.size<=T->Gg h' e c dx (some (T,jD L))->Q () {s with heap:=h'}):
  wpAny M A (do let a <-frameOf env;let pl <-entryPlaceOf L b;let t <-xX head a .none (jD L) .none pl;setField (.ref e) 1 t) Q E s:=by
 have ne:e∉vY (env::outer):=λhm=>by
  let#[_,o,ho,hnf]:=hl.mem hm;rw[he] at ho;cases ho;erw[hnf vs rfl]
 rwa[ab (wpAny_frameOf_fun hfr hl hf λh1 k1=>ab (wpAny_entryPlaceOf λpl hpl=>?_))];unfold xX newFields;rwa[ab (cX ?_ (hpl.sizeOk5 _ _ _ _ _))];have e1:h1.get? e=some #[c,dx,.fields vs,sl]:=(k1.2.1 e ne).trans he;have kk:j8 (vY (env::outer)) [e] s.heap h1:=#[λb o z n _=>(k1.2.1 b n).trans z,λb o z _ _=>k1.2.2 b o z,λb o z=>let ⟨_,z'⟩:=k1.2.2 b o z;#[_,z']]
 generalize htb:({cls:=.type "traceback",dict:=none,data:=.fields ([head,.ref L,.none,jD L,.none]++(if pl.isEmpty then dH 6 cj else pl)).toArray}:Obj)=tb;have e2:(h1.push tb).get? e=some #[c,dx,.fields vs,sl]:=aE tb e1;rwa[mC e2 rfl hsz (q _ h1.objs.size ((kk.trans (B5 tb)).trans (mJ e2 rfl)) ?_ ?_)]
 .rw[k1.1]
  erw[ar _]
 .have nT:h1.objs.size≠e:=cZ (aM e1)
  refine#[_,_,dC _ e2 rfl,by simp[hsz],nT,tb,_,iO (aY h1 (by rw[<-htb];rfl)) nT,by rw[<-htb],?_]
  first| (simp;done)| (rcases hpl with rfl|⟨_,_,_,_,_,_,_,rfl⟩<;>simp)
theorem Nl{tb:Option Addr}(hfr:A.frames=some (env::outer))(hl:s.heap.FunFrames base (env::outer))(hf:env.frame=some L)(x:Gg s.heap e c dx (tb.map λT=>(T,cj)))
  (q:∀h' T,j8 (vY (env::outer)) (e::tb.toList) s.heap h'->s.heap.objs.size<=T->Gg h' e c dx (some (T,jD L))->Q () {s with heap:=h'}):
  wpAny M A (Ga (.ref e) env) Q E s:=by
 unfold Ga;dsimp[hf];cases tb with
 |none=>
  let#[vs,sl,he,h1]:=x;rwa[ab (jM he rfl h1 ?_)];rw[if_neg ⋯]
  erw[Hr hfr hl hf he (gS.mp h1).1 q]
 |some T=>
  let#[vs,sl,he,h1,nT,oT,ts,hT,hd,h3]:=x;rwa[ab (jM he rfl h1 ?_)];rw[if_pos (show(bg T !=cj)=true by simp)]
  rwa[ab (jM hT hd h3 ?_)];rw[if_neg (show ¬((cj==jD L)=true) by simp[jD])]
  rwa[ab (mC hT hd (gS.mp h3).1 ?_)];have kT:j8 (vY (env::outer)) [T] s.heap (s.heap.update T (mD (·.setIfInBounds 3 cj))):=mJ hT (pJ (i7 hd _));have e2:=iO (f:=mD (·.setIfInBounds 3 cj)) he (cA nT);rwa[Hr hfr (hl.of_keeps λb o hb hnf=>?_) hf e2 (gS.mp h1).1 λh' T' k n z=>?_]
  .have nb:b≠T:=λz=>by rw[z,hT] at hb;cases hb;erw[hnf ts hd]
   exact#[o,iO hb nb,rfl]
  .rwa[q h' T' ((kT.mono (λ_ y=>y) (by simp)).trans (k.mono (λ_ y=>y) (by simp))) ?_ z]
   rw[Heap.size_after_update] at n;erw[n]
theorem SW{T:Addr}{fl:Value}(x:Gg s.heap e c dx (some (T,fl)))(q:∀h',j8 [] [T] s.heap h'->Gg h' e c dx (some (T,.none))->Q () {s with heap:=h'}):wpAny M A (setFlight (.ref e) none) Q E s:=by
 let#[vs,sl,he,h1,nT,oT,ts,hT,hd,h3]:=x;have sz:=(gS.mp h3).1;unfold setFlight;rwa[ab (jM he rfl h1 ?_)];rw[if_pos (show(bg T !=cj)=true by simp)]
 have fr:=pJ (i7 hd (·.setIfInBounds 3 cj));rwa[mC hT hd sz (q _ (mJ hT fr) #[vs,sl,iO he (cA nT),h1,nT,_,_,dC _ hT fr,i7 hd _,by simp[sz]])]
theorem OT{tb:Option Addr}(hfr:A.frames=some (env::outer))(hl:s.heap.FunFrames base (env::outer))(hf:env.frame=some L)(x:Gg s.heap e c dx (tb.map λT=>(T,cj)))
  (q:∀h' T,j8 (vY (env::outer)) (e::tb.toList) s.heap h'->s.heap.objs.size<=T->Gg h' e c dx (some (T,.none))->Q () {s with heap:=h'}):
  wpAny M A (leaving env (.ref e)) Q E s:=by
 unfold leaving;rwa[ab (Nl hfr hl hf x λh1 T k1 n1 x1=>?_)];refine SW (s:={s with heap:=h1}) x1 λh2 k2 x2=>q h2 T ?_ n1 x2
 refine#[λb o z n m=>?_,λb o z n m=>?_,λb o z=>?_]
 .exact k2.keep b o (k1.keep b o z n m) (by simp) λy=>by
   have y':b=T:=by simpa using y
   rw[y'] at z;erw[absurd (aM z) (i8.mpr n1)]
 .let#[sl,z1]:=k1.slot b o z n m
  refine#[sl,k2.keep b _ z1 (by simp) λy=>?_];have y':b=T:=by simpa using y
  rw[y'] at z;erw[absurd (aM z) (i8.mpr n1)]
 .let#[o1,z1]:=k1.there b o z
  erw[k2.there b o1 z1]
end
noncomputable def tQ(P:bf)(w:bJ):Hb:=λouter H s E e s'=>∃(a T:Addr)(c:Value)(dx:Option Addr)(H':Hp),e=.ref a/\s'.os=s.os/\n6 s'.gens/\Un (vY outer) [] H H' s.heap s'.heap/\nJ P w H' s'.heap /\
 Gg s'.heap a c dx (some (T,.none))/\(H' a=none/\H' T=none)/\(s.heap.objs.size<=a/\s.heap.objs.size<=T)/\E c dx H'
theorem nJ.yn{P:bf}{w:bJ}{H:Hp}{h h':Heap}{fs ch:List Addr}(x:nJ P w H h)(k:j8 fs ch h h')(hf:∀b∈fs,H b=none)(hc:∀b∈ch,H b=none):nJ P w H h':=λa o e=>by
 have nf:∀b u,H b=some u->b∉fs/\b∉ch:=λb u q=>#[λz=>(by rw[hf b z] at q;cases q),λz=>(by rw[hc b z] at q;cases q)]
 refine(x a o e).z4 (λb u hb q=>?_) (λ_ q=>q) λ_ _ q=>q
 rcases hb with rfl|hb
 .erw[k.keep b u q (nf b _ e).1 (nf b _ e).2]
 .erw[k.keep b u q (nf b _ hb).1 (nf b _ hb).2]
def Du(X:Cx)(pZ:List (Addr×Obj))(H:Hp)(b:Addr):Prop:=H b=none/\X.s₀.heap.objs.size<=b/\b≠X.env.locals/\(∀x c,X.env.cells.lookup x=some c->c≠b)/\∀p∈X.pn++pZ,p.1≠b
theorem Inv.OU{X:Cx}{pZ:List (Addr×Obj)}{σ:St}{H:Hp}{s:aq}{b:Addr}(I:Inv X pZ σ H s)(hb:s.heap.objs.size<=b):Du X pZ H b:=by
 have no:∀o,¬s.heap.get? b=some o:=λo e=>absurd (aM e) (i8.mpr hb)
 refine#[I.du.fresh hb,aP I.sz hb,λe=>?_,λx c e z=>?_,λp hp z=>?_]
 .erw[absurd I.lt (i8.mpr (e▸hb))]
 .let#[v,o,ho,_]:=I.cell x c e
  rw[z] at ho;erw[no o ho]
 .have:=(I.pin p hp).1
  rw[z] at this;erw[no _ this]
theorem Inv.yn{X:Cx}{pZ:List (Addr×Obj)}{σ:St}{H:Hp}{s:aq}{h':Heap}{ch:List Addr}(I:Inv X pZ σ H s)(k:j8 (vY X.stack) ch s.heap h')(hc:∀b∈ch,Du X pZ H b):Inv X pZ σ H {s with heap:=h'}:=by
 have any:∀b o,b∉ch->s.heap.get? b=some o->∃sl,h'.get? b=some {o with slots:=sl}:=λb o n e=>by
  by_cases z:b∈vY X.stack
  .erw[k.slot b o e z n]
  .exact#[o.slots,k.keep b o e z n]
 refine I.step (g':=s.gens) (t':=s.toks) (d':=s.drawn) (ch:=ch) (λb m=>#[.inr (hc b m).2.1,(hc b m).2.2.1,(hc b m).2.2.2.1,(hc b m).2.2.2.2]) (λb o nl nf nc e _=>k.keep b o e (λz=>?_) nc) (λb o _ _ nc e _=>any b o nc e) (λ_ _ _ _ n=>n)
  (λb o nc e=>let ⟨_,q⟩:=any b o nc e;#[_,q]) (λ_ _ e=>e) (λ_ _ _ e=>e) (λb ps e=>#[#[],by rw[e];simp]) (λm hm=>?_) (I.du.yn k I.yd λb m=>(hc b m).1) I.bare
 .rcases aR.mp (I.uF b z) with q|q
  .erw[nl q]
  .erw[nf q]
 .let#[o,es,ep,ho,r]:=hm
  let#[sl,q]:=any _ o (λz=>(hc _ z).2.2.1 rfl) ho;exact#[_,es,ep,q,r]
def SX(X:Cx)(E:XK):Prop:=∀(pZ:List (Addr×Obj))(σ:St)(H:Hp)(s:aq)(a:Addr)(tb:Option Addr)(c:Value)(dx:Option Addr),Inv X pZ σ H s->Gg s.heap a c dx (tb.map λT=>(T,cj)) ->
 (∀b∈a::tb.toList,Du X pZ H b)->E c dx H->X.xe (.ref a) s
theorem tQ.inv{X:Cx}{E:XK}{pZ:List (Addr×Obj)}{σ:St}{H:Hp}{s:aq}{e:Value}{s':aq}(I:Inv X pZ σ H s)(h:tQ X.prog X.w X.stack H s E e s'):
  ∃a T c dx H',e=.ref a/\Inv X pZ σ H' s'/\Gg s'.heap a c dx (some (T,.none))/\(∀b∈[a,T],Du X pZ H' b)/\E c dx H':=by
 let#[a,T,c,dx,H',rfl,os,bare,un,du,x,#[ha,hT],#[fa,fT],q]:=h;have I':Inv X pZ σ H' s':=I.Ni (ch:=[]) os un du bare (λb z=>absurd z (by simp));refine#[a,T,c,dx,H',rfl,I',x,λb m=>?_,q];rcases aR.mp m with e|m
 .subst e;exact#[ha,(I.OU fa).2]
 .have e:b=T:=by simpa using m
  subst e;exact#[hT,(I.OU fT).2]
theorem Hs{P:bf}{w:bJ}{K:aG}{mg:Str->Option Value}{base:Heap}{N:List Str}{qual:Str}{scope:fQ}{f:Addr}{cd:Value}{A:cF}{outer:List Env}{s:aq}{H:Hp}{E:XK}:
  SX (Ab (tQ P w) P w K mg base N qual scope f cd A outer s H E) E:=by
 intro pZ σ H1 s1 a tb c dx I x fr q;show wpAny _ _ (leaving _ (.ref a)) _ _ s1;have hL:(p8 qual scope s.heap.objs.size f cd).frame=some s.heap.objs.size:=rfl;rwa[OT (base:=base) (L:=s.heap.objs.size) I.ok.frames I.stack hL x λh' T' k n x'=>?_]
 have I':=I.yn k fr;have fa:s.heap.objs.size<=a:=(fr a aO).2.1;have sz:s.heap.objs.size<=s1.heap.objs.size:=I.sz;refine#[a,T',c,dx,H1,rfl,I.os,I.bare,?_,I'.du,x',#[(fr a aO).1,I.du.fresh n],#[fa,aP sz n],q];erw[I'.base]
theorem Kd.Z5{P:bf}{w:bJ}{K:aG}{mg:Str->Option Value}{base:Heap}{x qual:Str}{st:Stmt}{f:Addr}{fd:dW}{N ps:List Str}{k:Nat}{sp:Sp}(F:Kd K x qual st f fd)(S:lx N ps (bO st))(len:∀vs H Q E,sp vs H Q E->vs.length=ps.length)
  (hbody:∀(cdv:Value)(A:cF)(outer:List Env)(s:aq)(H:Hp)(vs:List V)(Q:VK)(E:XK),kf k (A.deeper (p8 qual (bO st) s.heap.objs.size f cdv))->sp vs H Q E ->
   ∃t,vZ (Ab (tQ P w) P w K mg base N qual (bO st) f cdv A outer s H E) (fK st) t/\t {nx:=λ_ H'=>Q .bV H',rt:=Q} (start N vs) H):kg P w K mg base (tQ P w) (k+1) f fd ps sp:=by
 let#[oc,od,kV,doc,pm,an,cdv,ct,osl,rfl,lk,hcd]:=F.ex;erw[SA lk hcd S len λA outer s H vs Q E hr hsp=>hbody cdv A outer s H vs Q E hr hsp]
open Builtin Builtin.ObjectAttr
noncomputable abbrev YK:List Value:=[.type "ValueError",.type "Exception",.type "BaseException",.type "object"]
def XE(X:Cx)(pZ:List (Addr×Obj))(σ:St)(E:XK)(ex:Value)(s':aq):Prop:=
 ∃(a:Addr)(tb:Option Addr)(c:Value)(dx:Option Addr)(H':Hp),ex=.ref a/\Inv X pZ σ H' s'/\Gg s'.heap a c dx (tb.map λT=>(T,cj))/\(∀b∈a::tb.toList,Du X pZ H' b)/\E c dx H'
def SY(X:Cx)(pZ:List (Addr×Obj))(E:St->XK)(ex:Value)(s':aq):Prop:=∃σ',XE X pZ σ' (E σ') ex s'
def dU(X:Cx)(e:Expr)(t:XK->TE):Prop:=
 ∀(pZ:List (Addr×Obj))(s:aq)(σ:St)(H:Hp)(Q:VK)(E:XK),Inv X pZ σ H s->t E σ H Q->wpAny (bb X.prog X.w) X.A (eval e X.env) (EP X pZ σ Q) (XE X pZ σ E) s
section
variable{X:Cx}{st:Stmt}{rest:List Stmt}{e:Expr}{es:List Expr}{pos p apos:Pos}
section
variable{k:Nat}{f C:Addr}{fd:dW}{ps:List Str}{sp:Sp}{dvs:List V}{ds:List Value}{x m:Str}{o:Expr}{ta:TE}{t:TA}
theorem t6{pZ:List (Addr×Obj)}{σ:St}{H:Hp}{s:aq}{Q:VK}{E:XK}{us:List Value}{vs:List V}(F:kg X.prog X.w X.K X.mg X.base (tQ X.prog X.w) k f fd ps sp)(hr:kf k X.A)(hb:Binds X.K fd ps ds)(hd:Vals dvs ds)
  (I:Inv X pZ σ H s) (r:Vals vs us) (h:sp (vs++dvs) H Q E):wpAny (bb X.prog X.w) X.A (call (.ref f) us) (EP X pZ σ Q) (XE X pZ σ E) s:=by
 have r2:Vals (vs++dvs) (us++ds):=r.append hd;have hl:(us++ds).length=ps.length:=by rw[<-r2.length];erw[F.len _ _ _ _ h]
 rwa[wpAny_call (vU (F.run X.A X.stack s H #[us,[]] (us++ds) (vs++dvs) Q E hr I.Sz (hb s us I.zG hl) r2 h) λr s' hq=>?_)];cases r with
 |error e=>
  let#[a,T,c,dx,H',e1,I',x,fr,q]:=tQ.inv I hq;exact#[a,some T,c,dx,H',e1,I',x,fr,q]
 |ok fl=>
  cases fl with
  |ret u=>erw[I.after hq]
  |next=>erw[aL hq]
  |brk=>erw[aL hq]
  |cont=>erw[aL hq]
end
end
noncomputable def pK(env:Env):List (Str×NameKind)->List (Str×Addr)->List (Str×Addr)
 |[],acc=>acc
 | (n,k)::r,acc=>pK env r (if k=.free then(n,(env.cells.lookup n).getD 0)::acc else acc)
theorem uR{env:Env}{scope:fQ}(h:∀n,(n,bN)∈scope.names->∃c,env.cells.lookup n=some c):closureFor scope env=pure (pK env scope.names []):=by
 have all:∀(l:List (Str×NameKind))(acc:List (Str×Addr)),(∀n,(n,bN)∈l->∃c,env.cells.lookup n=some c) ->
   (forIn (m:=Sem) l acc λ(x:Str×NameKind)(cs:List (Str×Addr))=>if (x.2==.free)=true then do let c <-cellOf env x.1;pure (eJ ((x.1,c)::cs)) else pure (eJ cs))=pure (pK env l acc):=by
  intro l;induction l with
  |nil=>intro acc _;rfl
  |cons p r ih=>
   intro acc hl;let#[n,k]:=p;rw[oh]
   have hr:∀m,(m,bN)∈r->∃c,env.cells.lookup m=some c:=λm hm=>hl m (aB _ hm)
   by_cases hk:k=.free
   .subst hk
    let#[c,hc]:=hl n aO;have e:cellOf env n=pure c:=by unfold cellOf;rw[hc]
    show(do let x <-(if (bN==bN)=true then do let c <-cellOf env n;pure (eJ ((n,c)::acc)) else pure (eJ acc));_)=_
    rw[if_pos ⋯,e]
    show(forIn (m:=Sem) r ((n,c)::acc) _)=_
    rw[ih _ hr]
    show _=pure (pK env r (if bN=bN then(n,(env.cells.lookup n).getD 0)::acc else acc))
    rw[if_pos rfl,hc]
    rfl
   .have hb:(k==bN)=false:=by simpa using hk
    show(do let x <-(if (k==bN)=true then do let c <-cellOf env n;pure (eJ ((n,c)::acc)) else pure (eJ acc));_)=_
    rw[hb,if_neg ⋯]
    show(forIn (m:=Sem) r acc _)=_
    rw[ih _ hr]
    show _=pure (pK env r (if k=bN then(n,(env.cells.lookup n).getD 0)::acc else acc))
    rw[if_neg hk]
 have:=all scope.names [] h;unfold closureFor;simpa using this
theorem tq{env:Env}:∀(l:List (Str×NameKind))(acc:List (Str×Addr))(y:Str)(c:Addr),(pK env l acc).lookup y=some c->(c=(env.cells.lookup y).getD 0/\(y,bN)∈l)\/acc.lookup y=some c
 |[],acc,y,c,h=>.inr h
 | (n,k)::r,acc,y,c,h=>by
  rcases tq r _ y c h with⟨e,m⟩|q
  .erw[.inl #[e,aB _ m]]
  .by_cases hk:k=.free
   .rw[if_pos hk] at q
    by_cases e:y=n
    .subst e
     subst hk;rw[oO] at q;cases q;erw[.inl #[rfl,aO]]
    .rw[aN,show(y==n)=false by simpa using e] at q
     erw[.inr q]
   .rw[if_neg hk] at q
    erw[.inr q]
theorem Aj{env:Env}:∀(l:List (Str×NameKind))(acc:List (Str×Addr))(y:Str),(∃c,acc.lookup y=some c)->∃c,(pK env l acc).lookup y=some c
 |[],_,_,h=>h
 | (n,k)::r,acc,y,h=>by
  rwa[Aj r _ y ?_];by_cases hk:k=.free
  .rw[if_pos hk]
   by_cases e:y=n
   .subst e;exact#[_,oO]
   .rw[aN,show(y==n)=false by simpa using e];erw[h]
  .rw[if_neg hk];erw[h]
theorem uS{env:Env}:∀(l:List (Str×NameKind))(acc:List (Str×Addr))(y:Str),(y,bN)∈l->∃c,(pK env l acc).lookup y=some c
 | (n,k)::r,acc,y,h=>by
  rcases aR.mp h with e|m
  .have e1:y=n:=congrArg De e
   have e2:bN=k:=congrArg Prod.snd e;subst e1;rwa[Aj r _ y ?_];rw[if_pos e2.symm]
   exact#[_,oO]
  .erw[uS r _ y m]
theorem qc:∀(l:List (Str×NameKind))(n:Nat)(acc:List (Str×Addr)),iY n l acc=iY n l []++acc
 |[],_,_=>rfl
 | (y,k)::r,n,acc=>by
  unfold iY;split
  .rw[qc r _ ((y,n)::acc),qc r _ [(y,n)]];simp
  .erw[qc r n acc]
theorem yo:∀(l:List (Str×NameKind))(n:Nat)(y:Str)(c:Addr),(y,c)∈iY n l []->(y,fU)∈l
 | (z,k)::r,n,y,c,h=>by
  unfold iY at h;split at h
  .rename_i hk
   rw[qc] at h;rcases aI.mp h with h|h
   .erw[aB _ (yo r _ y c h)]
   .cases bS.mp h
    rw[beq_iff_eq.mp hk];erw[aO]
  .erw[aB _ (yo r n y c h)]
theorem yp:∀(l:List (Str×NameKind))(n:Nat)(y:Str),(y,fU)∈l->∃c,(y,c)∈iY n l []
 | (z,k)::r,n,y,h=>by
  unfold iY;rcases aR.mp h with e|h
  .cases e
   rw[if_pos (show(fU==fU)=true from rfl),qc]
   exact#[n,a9 _ aO]
  .split
   .let#[c,q]:=yp r (n+1) y h
    rw[qc];exact#[c,bI _ q]
   .erw[yp r n y h]
theorem lR{α:Type}:∀{l:List (Str×α)}{y:Str}{c:α},(y,c)∈l->∃c',l.lookup y=some c'
 | (z,d)::r,y,c,h=>by
  rw[aN]
  cases e:y==z with
  |true=>exact#[d,rfl]
  |false=>
   rcases aR.mp h with q|q
   .cases q;simp at e
   .erw[lR q]
noncomputable def sf(scope:fQ)(C:Addr):List (Str×Addr):=iY (C+1) scope.names []
noncomputable def Cx.uT(X:Cx)(scope:fQ)(C:Addr)(N:List Str)(s₀:aq)(H₀:Hp)(ex:List Addr):Cx:=
 {X with N:=N,s₀:=s₀,H₀:=H₀,env:=compEnvC scope (sf scope C++pK X.env scope.names []) C X.env,outer:=X.stack,stack:=X.stack,ex:=ex,fn:=λy=>scope.names.lookup y==some .cell,pn:=[],xe:=λ_ _=>False}
structure Ak(X:Cx)(scope:fQ)(x:List Str):Prop where
 kind:scope.kind=.function
 nc:∀y∈scope.names,y.2=.cell->scope.names.lookup y.1=some .cell
 lo:∀y∈scope.names,y.2=.local->scope.names.lookup y.1=some .local
 fr:∀y∈scope.names,y.2=.free->X.env.scope.names.lookup y.1=some .cell
 nm:∀y∈x,scope.names.lookup y=some .local\/scope.names.lookup y=some .cell
 nd:x.Nodup
 lk:∀y,scope.names.lookup y=some .free->(y,bN)∈scope.names
theorem gD{env : Env} : ∀(names : List (Str×NameKind))(x : Str)(k : NameKind),
    (names.map λ(n, k) => if (k==bN&&env.scope.kind==.function&&env.kindOf n==some .cell) then (n, fU) else (n, k)).lookup x=some k -> names.lookup x=some k \/ (k=.cell /\ names.lookup x=some .free)
  |[], _, _, h => by cases h
  | (n, k0)::r, x, k, h => by
    rw [ay] at h;dsimp only at h;by_cases hc : (k0==bN&&env.scope.kind==.function&&env.kindOf n==some .cell)=true
    · rw [if_pos hc] at h
      dsimp[aj, beq_iff_eq] at hc;by_cases e : (x==n)=true
      · rw [aN, e] at h
        cases h;rwa[.inr #[rfl, ?_]];rw [aN, e, hc.1.1]
      · have e' : (x==n)=false := by simpa using e
        rw [aN, e'] at h;rw [aN, e'];erw[gD r x k h]
    · rw [if_neg hc] at h
      by_cases e : (x==n)=true
      · rw [aN, e] at h
        cases h;rwa[.inl ?_];rw [aN, e]
      · have e' : (x==n)=false := by simpa using e
        rw [aN, e'] at h;rw [aN, e'];erw[gD r x k h]
section
variable{X:Cx}{pZ:List (Addr×Obj)}{σ:St}{H:Hp}{s:aq}{scope:fQ}{x:List Str}
theorem Ak.cells(B:Ak X scope x)(ok:X.Ok):∀n,(n,bN)∈scope.names->∃c,X.env.cells.lookup n=some c:=λn hn=>ok.has n (.inl (B.fr _ hn rfl))
theorem Ak.cl(B:Ak X scope x)(ok:X.Ok){y:Str}{c:Addr}(h:(pK X.env scope.names []).lookup y=some c):X.env.cells.lookup y=some c/\X.env.scope.names.lookup y=some .cell:=by
 rcases tq _ _ _ _ h with⟨e,m⟩|q
 .let#[c',hc']:=B.cells ok y m
  rw[hc'] at e;rw[e]
  exact#[hc',B.fr _ m rfl]
 .cases q
theorem qd(B:Ak X scope x){C:Addr}{y:Str}{c:Addr}(h:(sf scope C++pK X.env scope.names []).lookup y=some c):
  ((y,c)∈sf scope C/\scope.names.lookup y=some .cell)\/((sf scope C).lookup y=none/\(pK X.env scope.names []).lookup y=some c):=by
 rw[Gb] at h;cases q:(sf scope C).lookup y with
 |some d=>rw[q] at h;cases h;have m:=cP q;erw[.inl #[m,B.nc _ (yo _ _ _ _ m) rfl]]
 |none=>rw[q] at h;erw[.inr #[rfl,h]]
theorem Al(B:Ak X scope x){C:Addr}{y:Str}{c:Addr}(hf:scope.names.lookup y=some .free)(h:(pK X.env scope.names []).lookup y=some c):(sf scope C++pK X.env scope.names []).lookup y=some c:=by
 rw[Gb]
 cases q:(sf scope C).lookup y with
 |some d=>have z:=B.nc _ (yo _ _ _ _ (cP q)) rfl;rw[hf] at z;cases z
 |none=>erw[h]
theorem Am{α:Type}{l:List (Str×α)}(h:l.Pairwise λx y=>x.2≠y.2):∀{a b:Str×α},a∈l->b∈l->a.2=b.2->a=b:=by
 induction h with
 |nil=>intro a b h;erw[nomatch h]
 |cons q _ ih=>
  intro a b ha hb e;rcases aR.mp ha with ea|ha'<;>rcases aR.mp hb with eb|hb'
  .rw[ea,eb]
  .subst ea;erw[absurd e (q _ hb')]
  .subst eb;erw[absurd e.symm (q _ ha')]
  .erw[ih ha' hb' e]
theorem Inv.block{C:Addr}{h':Heap}{t':Nat}{ex:List Addr}{N:List Str}{τ:St}(I:Inv X pZ σ H s)(B:Ak X scope x)(hC:C=s.heap.objs.size)(hns:h'.Ns C λ_=>none)(oc:CellsOk h' (C+1) (sf scope C))
  (kp:∀b o,s.heap.get? b=some o->h'.get? b=some o) (hex:∀b∈ex,p9 X pZ H b/\b<s.heap.objs.size) (hl:τ.length=N.length)
  (hτ:∀(i:Nat)(y:Str)(v:V),N[i]?=some y->τ[i]?=some (some v)->scope.names.lookup y=some .free/\∃j:Nat,X.N[j]?=some y/\σ[j]?=some (some v)):
  Inv (X.uT scope C N s H ex) [] τ H {s with heap:=h',toks:=t'}:=by
 have ok:=I.ok;have cleq:∀y c,(X.uT scope C N s H ex).env.cells.lookup y=some c->((y,c)∈sf scope C/\h'.IsCell c none/\C<c)\/(X.env.cells.lookup y=some c/\X.env.scope.names.lookup y=some .cell):=λy c e=>by
  rcases qd B e with q|q
  .erw[.inl #[q.1,oc.empty y c q.1]]
  .erw[.inr (B.cl ok q.2)]
 have old:∀y c,X.env.cells.lookup y=some c->c<C:=λy c e=>by
  let#[v,q]:=I.cell y c e;rw[hC];erw[q.lt]
 have hfr:H C=none:=by rw[hC];erw[I.du.fresh (ar _)]
 refine#[#[ok.mod,B.kind,ok.glob,ok.blt,Bv hC.symm,λy z c h1 h2=>?_,λy hy=>?_,λy c z e=>?_,ok.hd,ok.frames,.inl rfl,λb hb=>?_,λb o e=>I.bs b o e,aP ok.GQ I.sz,λb o e hb=>?_,λb hb=>?_,I.stack,I.yd],
  rfl,I.bare,Un.kept kp,#[_,hns,λi y v e1 e2 e3=>?_],λy c e=>?_,hfr,λy c e=>?_,λp hp=>absurd (show p∈([]:List (Addr×Obj)) from hp) (by simp),I.du.kept kp,hl]
 .rcases cleq y c h1 with⟨m1,_,l1⟩|q1<;>rcases cleq z c h2 with⟨m2,_,l2⟩|q2
  .erw[congrArg De (Am oc.apart m1 m2 rfl)]
  .erw[absurd (old z c q2.1) (i8.mpr (cY l1))]
  .erw[absurd (old y c q1.1) (i8.mpr (cY l2))]
  .erw[ok.inj y z c q1.1 q2.1]
 .have own:(y,fU)∈scope.names->∃c,(X.uT scope C N s H ex).env.cells.lookup y=some c:=λm=>by
   let#[c,q]:=yp _ (C+1) _ m;erw[lR (bI _ q)]
  have OU:scope.names.lookup y=some .free->∃c,(X.uT scope C N s H ex).env.cells.lookup y=some c:=λm=>by
   let#[c,q]:=uS (env:=X.env) scope.names [] y (B.lk y m);exact#[c,Al B m q]
  rcases hy with h|h
  .rcases gD (env:=X.env) scope.names y .cell h with q|q
   .erw[own (cP q)]
   .erw[OU q.2]
  .rcases gD (env:=X.env) scope.names y .free h with q|q
   .erw[OU q]
   .erw[absurd q.1 ⋯]
 .rcases cleq y c e with q|q
  .show s.heap.objs.size<=c
   rw[<-hC];erw[cY q.2.2]
  .have z:scope.names.lookup y=some .cell:=beq_iff_eq.mp z
   rcases qd B e with w|w
   .erw[absurd (old y c q.1) (i8.mpr (cY (oc.empty y c w.1).2))]
   .let#[d,m]:=yp _ (C+1) _ (cP z)
    let#[d',m']:=lR m;rw[show(sf scope C).lookup y=some d' from m'] at w;cases w.1
 .refine#[λz=>?_,λy c e z=>?_]
  .have:=(hex b hb).2
   rw[z,show(X.uT scope C N s H ex).env.locals=C from rfl,hC] at this;erw[absurd this (eh _)]
  .rcases cleq y c e with q|q
   .have:=(hex b hb).2
    rw[<-z,<-hC] at this;erw[absurd this (i8.mpr (cY q.2.2))]
   .exact(hex b hb).1.2.2.2.2.1 y c q.1 z
 .let#[f0,f1,f2,f3,f4,f5]:=(hex b hb).1
  rcases f3 with z|z
  .erw[ok.BI b o e z]
  .erw[absurd (az (aM (ok.bs b o e).1) z) (eh _)]
 .let#[f0,f1,f2,_]:=(hex b hb).1
  intro z;rcases aR.mp (I.uF b z) with q|q
  .erw[f1 q]
  .erw[f2 q]
 .let#[hf,j,hj,hv]:=hτ i y v e1 e2
  let#[m,_,hlk]:=I.loc;have hcell:=B.fr _ (B.lk y hf) rfl;let#[u,r,l]:=hlk j y v hj hv (.inr (.inl hcell));refine#[u,r,.inr #[?_,?_]]
  .show(GD scope X.env).names.lookup y=some .cell\/(GD scope X.env).names.lookup y=some .free
   have:=e3;rcases this with q|q|q
   .rcases gD (env:=X.env) scope.names y .local q with z|z
    .rw[hf] at z;cases z
    .erw[absurd z.1 ⋯]
   .erw[.inl q]
   .erw[.inr q]
  .rcases l with⟨k,_⟩|⟨_,c,hc,z⟩
   .have k':X.env.scope.names.lookup y=some .local:=k
    rw[hcell] at k';cases k'
   .let#[c',hc']:=uS (env:=X.env) scope.names [] y (B.lk y hf)
    have hc2:=(B.cl ok hc').1;rw[hc] at hc2;cases hc2;let#[o,ho,hd]:=z;exact#[c,Al B hf hc',#[o,kp _ _ ho,hd]]
 .rcases cleq y c e with q|q
  .exact#[none,q.2.1]
  .let#[v,o,ho,hd]:=I.cell y c q.1
   exact#[v,o,kp _ _ ho,hd]
 .rcases cleq y c e with q|q
  .erw[I.du.fresh (by rw[<-hC];exact cY q.2.2)]
  .erw[I.ny y c q.1]
theorem Inv.Lh{C:Addr}{ex:List Addr}{N:List Str}{τ:St}{H':Hp}{s':aq}(I:Inv X pZ σ H s)(J:Inv (X.uT scope C N s H ex) [] τ H' s')(hex:∀b∈ex,p9 X pZ H b):Inv X pZ σ H' s':=
 I.Ni (ch:=ex) J.os J.base J.du J.bare λb hb=>#[(hex b hb).2.2.2.1,(hex b hb).2.1,(hex b hb).2.2.2.2.1,(hex b hb).2.2.2.2.2]
end
def Li(X:Cx)(ifs:List Expr)(t:TT):Prop:=
 ∀(pZ:List (Addr×Obj))(s:aq)(σ:St)(H:Hp)(Q:Bool->Hp->Prop),Inv X pZ σ H s->t σ H Q ->
  wpAny (bb X.prog X.w) X.A (forIn ifs true λc r=>if r=true then do let ok <-isTrue c X.env (eval c X.env);pure (eJ ok) else pure (eJ r)) (TP X pZ σ Q) X.xe s
def Ta:TT:=λ_ H Q=>Q true H
theorem Lj{X:Cx}:Li X [] Ta:=λ_ _ _ H _ I q=>wpAny_tests_nil #[H,I,q]
theorem Lk{X:Cx}{c:Expr}{t:TT}(h:PT X c t):Li X [c] t:=λpZ s σ H Q I q=>wpAny_tests_one (h pZ s σ H Q I q)
noncomputable def gE(σ:St)(ci:List Nat):St:=ci.map λj=>(σ[j]?).join
def Tc(K:Frag)(pr:Bool)(y:V)(H:Hp)(k:St->Prop):Prop:=match pr with
 |false=>k [some y]
 |true=>∃p a b,y=.ref p/\lY K H p [a,b]/\k [some a,some b]
abbrev Nm(bd:V->Hp->(St->Prop)->Prop)(J:It)(D:Addr)(tc:TT)(te:TE)(caps:St)(R:Hp->Prop)(H1:Hp):Prop:=
 ∃W:Nat->Nat->List V->Hp->Prop,(∃m,W 0 m [] (upd H1 D (.lst [])))/\∀i m acc H2,W i m acc H2->H2 D=some (.lst acc)/\acc.length<sizeLine /\
  ((J.stop i H2/\R H2)\/(J.go i H2/\∀y H3,J.Sg i H2 y H3->bd y H3 λτ=>tc (τ++caps) H3 λb H4=>
   if b=true then te (τ++caps) H4 λz H5=>H5 D=some (.lst acc)/\∃m',m'<m/\W (i+1) m' (acc++[z]) (upd H5 D (.lst (acc++[z]))) else ∃m',m'<m/\W (i+1) m' acc H4))
def Ht(bd:V->Hp->(St->Prop)->Prop)(wi:TI)(ci:List Nat)(tc:TT)(te:TE):TE:=λσ H Q=>wi σ H λJ H1=>∀D,H1 D=none->Nm bd J D tc te (gE σ ci) (λH2=>Q (.ref D) H2) H1
structure yq(X:Cx)(scope:fQ)(cn:List Str)(ci:List Nat):Prop where
 len:ci.length=cn.length
 at_:∀(k:Nat)(y:Str),cn[k]?=some y->∃j:Nat,ci[k]?=some j/\X.N[j]?=some y
 fr:∀y∈cn,scope.names.lookup y=some .free
section
variable{X:Cx}{pZ:List (Addr×Obj)}{σ:St}{H:Hp}{s:aq}{scope:fQ}{x:List Str}
theorem Ll{M:Model}{A:cF}{E:Value->aq->Prop}{s:aq}{scope:fQ}{globals:Addr}{cl:List (Str×Addr)}{qual:Str}{env:Env}{Q:Env->aq->Prop}
  (hQ:Q (newEnv scope s.heap.objs.size globals (sf scope s.heap.objs.size++cl) qual none .none (some env) Bu) {s with heap:=pushCells (s.heap.push {cls:=.type "dict",data:=.dict #[]}) scope.names}):
  wpAny M A (Bx scope globals cl [] qual none .none (some env)) Q E s:=by
 dsimp[Bx,qv,if_true];refine ab (wpAny_alloc ?_);refine ab (wpAny_layCells _ (λname kind cells=>by cases hkc:kind==fU<;>simp[hkc]) _ _ _ _ ?_);rw[show({s with heap:=s.heap.push {cls:=.type "dict",data:=.dict #[]} }:aq).heap.objs.size=s.heap.objs.size+1 from ie ..,qc]
 erw[ab (av (av hQ))]
theorem sh{cn:List Str}{X:Cx}{scope:fQ}{ci:List Nat}(cp:yq X scope cn ci)(B:Ak X scope x)(hn:cn.Nodup):(x++cn).Nodup:=
 dM.mpr #[B.nd,hn,λy hy z hz e=>(by
  subst e;have q:=cp.fr y hz;rcases B.nm y hy with z|z<;>(rw[z] at q;cases q))]
def Rz(X:Cx)(tg:Expr)(scope:fQ)(x cn:List Str)(bd:V->Hp->(St->Prop)->Prop):Prop:=
 ∀(C:Addr)(s₀:aq)(H₀:Hp)(ex:List Addr)(pZ:List (Addr×Obj))(s:aq)(τ caps:St)(H:Hp)(v:V)(u:Value)(k:St->Prop),Inv (X.uT scope C (x++cn) s₀ H₀ ex) pZ (τ++caps) H s->τ.length=x.length->RelV v u->bd v H k ->
  wpAny (bb X.prog X.w) X.A (xM tg (X.uT scope C (x++cn) s₀ H₀ ex).env u) (λ_ s'=>∃τ',τ'.length=x.length/\Inv (X.uT scope C (x++cn) s₀ H₀ ex) pZ (τ'++caps) H s'/\k τ') (λ_ _=>False) s
theorem mK{env : Env}{k : NameKind}(hk : k≠.free) : ∀{names : List (Str×NameKind)}{x : Str}, names.lookup x=some k ->
    (names.map λ(n, k) => if (k==bN&&env.scope.kind==.function&&env.kindOf n==some .cell) then (n, fU) else (n, k)).lookup x=some k
  | (n, k')::r, x, h => by
    rw [ay];dsimp only;rw [aN] at h;cases e : x==n with
    |true =>
      rw [e] at h; cases h;rw [if_neg (by simp [hk]), aN, e]
    |false =>
      rw [e] at h;split <;> (rw [aN, e]; exact mK hk h)
theorem Ak.loc(B:Ak X scope x){C:Addr}{N:List Str}{s₀:aq}{H₀:Hp}{ex:List Addr}{y:Str}(hy:y∈x):
  Loc (X.uT scope C N s₀ H₀ ex).env.scope y/\((X.uT scope C N s₀ H₀ ex).fn y=true\/(X.uT scope C N s₀ H₀ ex).env.scope.names.lookup y=some .local):=by
 rcases B.nm y hy with z|z
 .have q:=mK (env:=X.env) (k:=.local) (by intro e;cases e) z
  exact#[.inl q,.inr q]
 .exact#[.inr (mK (env:=X.env) (k:=.cell) (by intro e;cases e) z),.inl (beq_iff_eq.mpr z)]
theorem W8{α:Type}{l:List α}(h:l.length=2):∃a b,l=[a,b]:=by
 cases l with
 |nil=>cases h
 |cons a t=>let#[b,e]:=ju.mp (mw h);exact#[a,b,by rw[e]]
theorem Hu{y:Str}{py:Pos}{cn:List Str}{ci:List Nat}(B:Ak X scope [y])(cp:yq X scope cn ci)(hnd:cn.Nodup):Rz X (.Name y py) scope [y] cn (Tc X.K false):=by
 intro C s₀ H₀ ex pZ s τ caps H v u k I hl r h;have hx:=B.loc (C:=C) (N:=[y]++cn) (s₀:=s₀) (H₀:=H₀) (ex:=ex) (y:=y) (by simp);let#[o,rfl]:=ju.mp hl;erw[vR (qJ I (sh cp B hnd) (i:=0) rfl hx.1 r (λs8 J8=>#[[some v],rfl,J8,h]) hx.2)]
theorem Hv{y z:Str}{py pz pt:Pos}{n:Nat}{cn:List Str}{ci:List Nat}(B:Ak X scope [y,z])(cp:yq X scope cn ci)(hnd:cn.Nodup)(hc:X.calm=true):Rz X (.Tuple [.Name y py,.Name z pz] n pt) scope [y,z] cn (Tc X.K true):=by
 intro C s₀ H₀ ex pZ s τ caps H v u k I hl r h;have hy:=B.loc (C:=C) (N:=[y,z]++cn) (s₀:=s₀) (H₀:=H₀) (ex:=ex) (y:=y) (by simp);have hz:=B.loc (C:=C) (N:=[y,z]++cn) (s₀:=s₀) (H₀:=H₀) (ex:=ex) (y:=z) (by simp);have nd:=sh cp B hnd;let#[p,a,b,e,hq,q]:=h;let#[o,o',rfl]:=W8 hl;rwa[bZ (GX (X:=X.uT scope C ([y,z]++cn) s₀ H₀ ex) (pos:=pt) (k:=n) hc (qM (qL (i:=0) (pos:=py) nd rfl hy.1 hy.2) (qM (qL (i:=1) (pos:=pz) nd rfl hz.1 hz.2) Dj)) rfl rfl pZ s _ H v u (λσ' H'=>H'=H/\σ'=[some a,some b]++caps) I r ?_) (λ_ s' #[σ',H',I',e1,e2]=>?_) λ_ _ z=>z]
 .exact#[p,[a,b],e,hq,rfl,a,[b],rfl,b,[],rfl,rfl,rfl,rfl]
 .subst e1 e2
  exact#[[some a,some b],rfl,I',q]
theorem An{elt iter tg:Expr}{bd:V->Hp->(St->Prop)->Prop}{pos:Pos}{ifs:List Expr}{it:Addr}{fp:List Addr}{tn:Nat->Heap->Prop}{J:It}{tc:TT}{te:TE}{cn:List Str}{ci:List Nat}{RR:Value->Addr->Result->aq->Prop}{Rq:Addr->Hp->Prop}{E:Value->aq->Prop}
  (I:Inv X pZ σ H s) (B:Ak X scope x) (cp:yq X scope cn ci) (hnd:cn.Nodup) (hcalm:X.calm=true) (ht:Rz X tg scope x cn bd) (T:Turn X.prog X.w X.K tg J fp it tn) (t0:tn 0 s.heap) (hf:∀b∈fp,p9 X pZ H b)
  (hc:∀C s₀ H₀ ex,Li (X.uT scope C (x++cn) s₀ H₀ ex) ifs tc) (he:∀C s₀ H₀ ex,PE (X.uT scope C (x++cn) s₀ H₀ ex) elt te)
  (h:∀D,H D=none->Nm bd J D tc te (gE σ ci) (Rq D) H)
  (fin:∀C D H5 s5,Inv X pZ σ H5 s5->Rq D H5->(∃m,s5.heap.Ns C m)->Du X pZ H5 C->RR (.ref D) C (.ok .next) s5):
  wpAny (bb X.prog X.w) X.A (newList []) (λacc s₃=>wpAny (bb X.prog X.w) X.A (Bx scope X.env.globals (pK X.env scope.names []) [] X.env.qual none .none (some X.env)) (λcenv s₄=>
   p7 (bb X.prog X.w) X.A (.compStart (.ListComp elt [#[tg,iter,ifs,0]] scope pos) 0 (.ref it) acc {cenv with scope:=GD scope X.env}) (RR acc cenv.locals) s₄) E s₃) E s:=by
 have ok:=I.ok;let#[W,#[m0,w0],turn]:=h s.heap.objs.size (I.du.fresh (ar _));generalize hD:s.heap.objs.size=D at turn w0;refine cX ?_;have I2:Inv X pZ σ (upd H D (.lst [])) {s with heap:=s.heap.push {cls:=.type "list",dict:=none,data:=.seq ([]:List Value).toArray} }:=by
  have:=I.SK (its:=[]) (ys:=[]) (t':=s.toks) .nil (cw _);rw[hD] at this;erw[this]
 generalize hH2:s.heap.push {cls:=.type "list",dict:=none,data:=.seq ([]:List Value).toArray}= h2 at I2 ⊢;have k2:∀b o,s.heap.get? b=some o->h2.get? b=some o:=λb o e=>by rw[<-hH2];erw[aE _ e]
 have sz2:h2.objs.size=s.heap.objs.size+1:=by rw[<-hH2,ie]
 have fpl:∀b∈fp,b<s.heap.objs.size:=λb hb=>by
  let#[o,e,_]:=T.obj _ _ t0 b hb;erw[aM e]
 have nD:∀b∈fp,b≠D:=λb hb=>by rw[<-hD];erw[aX (fpl b hb)]
 have hf2:∀b∈fp,p9 X pZ (upd H D (.lst [])) b:=λb hb=>#[by rw[b8 (nD b hb)];exact(hf b hb).1,(hf b hb).2]
 have t2:tn 0 h2:=T.keep _ _ _ t0 λb _ o e=>k2 b o e
 show wpAny _ _ _ _ _ {s with heap:=h2}
 rwa[Ll ?_];generalize hH3:pushCells (h2.push {cls:=.type "dict",data:=.dict #[]}) scope.names=h3;have kp3:∀b o,h2.get? b=some o->h3.get? b=some o:=λb o e=>by rw[<-hH3];erw[pushCells_keeps _ _ b o (aE _ e)]
 have ns3:h3.Ns h2.objs.size λ_=>none:=by rw[<-hH3];exact(Heap.Ns.new h2 (.type "dict")).keeps (pushCells_keeps _ _)
 have oc3:CellsOk h3 (h2.objs.size+1) (sf scope h2.objs.size):=by
  have:=cellsFrom_ok scope.names (h2.push {cls:=.type "dict",data:=.dict #[]}) (h2.objs.size+1) [] #[λ_ _ hm=>(nomatch hm),wx] (by rw[ie];erw[ar _]);rw[ie,hH3] at this;erw[this]
 have hl:((x.map λ_=>none)++gE σ ci:St).length=(x++cn).length:=by
  rw[ax,ax,ah,gE,ah,cp.len]
 have J3:Inv (X.uT scope h2.objs.size (x++cn) {s with heap:=h2} (upd H D (.lst [])) fp) [] ((x.map λ_=>none)++gE σ ci) (upd H D (.lst [])) {s with heap:=h3,toks:=s.toks+0}:=
  I2.block (s:={s with heap:=h2}) (h':=h3) (t':=s.toks+0) (N:=x++cn) B rfl ns3 oc3 kp3 (λb hb=>#[hf2 b hb,by rw[sz2];exact bc (fpl b hb)]) hl (λi y v e1 e2=>by
   by_cases lt:i<x.length
   .rw[ag (by simpa using lt),aC,aa lt] at e2
    cases e2
   .have e1':cn[i-x.length]?=some y:=by rw[aw ∅] at e1;erw[e1]
    have e2':(gE σ ci)[i-x.length]?=some (some v):=by rw[aw (by simpa using lt),ah] at e2;erw[e2]
    refine#[cp.fr y (ao e1'),?_];let#[j,hj,hy]:=cp.at_ _ y e1';refine#[j,hy,?_];rw[gE,aC,hj] at e2';have e3:(σ[j]?).join=some v:=aH e2';cases q:σ[j]? with
    |none=>rw[q] at e3;cases e3
    |some w=>rw[q] at e3;erw[congrArg some e3])
 generalize hY:X.uT scope h2.objs.size (x++cn) {s with heap:=h2} (upd H D (.lst [])) fp=Y at J3;have ePr:Y.prog=X.prog:=by rw[<-hY];rfl
 have eW:Y.w=X.w:=by rw[<-hY];rfl
 have eK:Y.K=X.K:=by rw[<-hY];rfl
 have eC:Y.calm=true:=by rw[<-hY];erw[hcalm]
 have eA:Y.A=X.A:=by rw[<-hY];rfl
 have eE:Y.env=compEnvC scope (sf scope h2.objs.size++pK X.env scope.names []) h2.objs.size X.env:=by rw[<-hY];rfl
 have hPc:Li Y ifs tc:=by rw[<-hY];erw[hc _ _ _ _]
 have hPe:PE Y elt te:=by rw[<-hY];erw[he _ _ _ _]
 have eN:Y.N=x++cn:=by rw[<-hY];rfl
 have eX:Y.xe=λ_ _=>False:=by rw[<-hY];rfl
 have TY:Turn Y.prog Y.w Y.K tg J fp it tn:=by rw[ePr,eW,eK];erw[T]
 have fpY:∀{H':Hp},(∀b∈fp,H' b=none)->∀b∈fp,p9 Y [] H' b:=λhn b hb=>by
  let#[f0,f1,f2,f3,f4,f5]:=hf2 b hb;have lt2:b<h2.objs.size:=by rw[sz2];erw[bc (fpl b hb)]
  refine#[hn b hb,λz=>?_,λz=>?_,.inl (by rw[<-hY];erw[hb]),λy c e=>?_,λp hp=>?_]
  .have z':b=h2.objs.size:=by rw[eE] at z;erw[z]
   erw[absurd lt2 (by rw[z'];exact eh _)]
  .have z':b∈vY X.stack:=by rw[<-hY] at z;erw[z]
   rcases aR.mp (I.uF b z') with q|q
   .erw[f1 q]
   .erw[f2 q]
  .rw[eE] at e
   rcases qd B e with q|q
   .intro z
    have:=(oc3.empty y c q.1).2;rw[z] at this;erw[absurd lt2 (i8.mpr (cY this))]
   .erw[f4 y c (B.cl ok q.2).1]
  .have:p∈([]:List (Addr×Obj)):=by rw[<-hY] at hp;erw[hp]
   erw[absurd this (by simp)]
 have loop:∀s4:aq,s4={s with heap:=h3,toks:=s.toks+0}->p7 (bb X.prog X.w) X.A (.compLoop (.ListComp elt [#[tg,iter,ifs,0]] scope pos) 0 (.ref it) (.ref D) Y.env) (RR (.ref D) h2.objs.size) s4:=by
  rintro s4 rfl;rwa[codeAny_loop rfl (λn s'=>∃i acc τ H',τ.length=x.length/\Inv Y [] (τ++gE σ ci) H' s'/\tn i s'.heap/\(∀b∈fp,H' b=none)/\W i n acc H') ?_ m0 #[0,[],x.map λ_=>none,_,by simp,J3,T.keep _ _ _ t2 λb _ o e=>kp3 b o e,λb hb=>(hf2 b hb).1,w0]];rintro n s5 ⟨i,acc,τ,H5,hτ,J5,t5,f5,w5⟩;let#[hD5,hz5,alt]:=turn i n acc H5 w5;show wpAny _ X.A ((compTurn (.ListComp elt [#[tg,iter,ifs,0]] scope pos) 0 (.ref it) (.ref D) Y.env).onRaise (λx=>do Ga x Y.env;theTreesLotGoes x)) _ _ s5;rwa[wpAny_noted ?_];rw[compTurn_list,<-eA]
  rcases alt with⟨stop,q5⟩|⟨go,step⟩
  .rwa[ab (Ez (ab ?_))]
   rw[<-ePr,<-eW]
   rwa[eO (TY.done Y rfl rfl rfl eC i [] s5 _ H5 _ J5 (fpY f5) t5 stop) λr s6 h9=>?_]
   let#[hr,J6]:=h9;subst hr;rwa[av ?_];have J6':Inv (X.uT scope h2.objs.size (x++cn) {s with heap:=h2} (upd H D (.lst [])) fp) [] (τ++gE σ ci) H5 s6:=by rw[hY];erw[J6]
   have I6:=I2.Lh J6' hf2;let#[m6,ns6,_]:=J6'.loc;have fC:=I2.OU (b:=h2.objs.size) (ar _);erw[fin h2.objs.size D H5 s6 I6 q5 #[m6,ns6] #[J6'.free,fC.2]]
  .rwa[ab (Ez (ab ?_))]
   rw[<-ePr,<-eW]
   rwa[eO (TY.item Y rfl rfl rfl eC i [] s5 _ H5 _ J5 (fpY f5) t5 go) λr s6 h9=>?_]
   let#[u,hr,h6]:=h9;subst hr;rwa[ab ?_];rw[eA,<-eA]
   rwa[eO h6 λ_ s7 h9=>?_]
   let#[y,H7,J7,r7,y7,t7,f7]:=h9;have J7':=J7.pinned (fpY f7) (T.obj _ _ t7);have noE:∀{α:Type}{t:Sem α}{Q:α->aq->Prop}{E:Value->aq->Prop}{s:aq},wpAny (bb Y.prog Y.w) Y.A t Q Y.xe s->wpAny (bb Y.prog Y.w) Y.A t Q E s:=λh=>bZ h (λ_ _ z=>z) λ_ _ z=>by rw[eX] at z;erw[z.elim]
   have ht':wpAny (bb Y.prog Y.w) Y.A (xM tg Y.env u) (λ_ s8=>∃τ',τ'.length=x.length/\Inv Y ([]++rY fp s7.heap) (τ'++gE σ ci) H7 s8/\tc (τ'++gE σ ci) H7 λb H4=>
     if b=true then te (τ'++gE σ ci) H4 λz H5=>H5 D=some (.lst acc)/\∃m',m'<n/\W (i+1) m' (acc++[z]) (upd H5 D (.lst (acc++[z]))) else ∃m',m'<n/\W (i+1) m' acc H4) (λ_ _=>False) s7:=by
    have st:=step y H7 y7;subst hY;erw[ht _ _ _ _ _ s7 τ _ H7 y u _ J7' hτ r7 st]
   refine ab (bZ ht' (λ_ s8 h9=>?_) λ_ _ z=>z.elim);let#[τ',hτ',J8',q8]:=h9;refine ab (noE (eO (hPc _ s8 _ H7 _ J8' q8) λb s9 h9=>?_));let#[H9,J9,q9]:=h9;have again:∀{acc':List V}{H':Hp}{s':aq},Inv Y ([]++rY fp s7.heap) (τ'++gE σ ci) H' s'->(∃m',m'<n/\W (i+1) m' acc' H')->∃m,m<n/\∃i acc τ H',τ.length=x.length/\Inv Y [] (τ++gE σ ci) H' s'/\tn i s'.heap/\(∀b∈fp,H' b=none)/\W i m acc H':=λ{acc' H' s'}J' ⟨m',lt,w'⟩=>by
    refine#[m',lt,i+1,acc',τ',H',hτ',J'.qN,T.keep _ _ _ t7 λb hb o e=>(J'.pin (b,o) (a9 _ (a9 _ (mI hb e)))).1,λb hb=>?_,w'];let#[o,e,d]:=T.obj _ _ t7 b hb;exact(J'.pin (b,o) (a9 _ (a9 _ (mI hb e)))).2.1
   cases b with
   |false=>erw[av #[rfl,again J9 q9]]
   |true=>
    rwa[ab (ab (noE (eO (hPe _ s9 _ H9 _ J9 q9) λv s10 h9=>?_)))];let#[z,H10,J10,r10,hD10,q10]:=h9;rwa[ab (noE (eO (r8 _ s10 _ H10 (.ref D) [z] (.ref D) [v] (λ_ H11=>H11=upd H10 D (.lst (acc++[z]))) J10 rfl (.cons r10 .nil) #[D,acc,z,rfl,rfl,hD10,hz5,rfl]) λv11 s11 h9=>?_))];let#[z11,H11,J11,_,e11]:=h9;subst e11;erw[av (av #[rfl,again J11 q10])]
 rw[eE] at loop;subst hD;erw[codeAny_compStart_list (loop _ rfl) (T.self _ 0 _ _ _ (T.keep _ _ _ t2 λb _ o e=>kp3 b o e) (loop _ rfl))]
theorem Lm{elt iter tg:Expr}{bd:V->Hp->(St->Prop)->Prop}{pos:Pos}{ifs:List Expr}{wi:TI}{tc:TT}{te:TE}{cn:List Str}{ci:List Nat}(B:Ak X scope x)(cp:yq X scope cn ci)(hnd:cn.Nodup)(hcalm:X.calm=true)(ht:Rz X tg scope x cn bd)(hi:PI X tg iter wi)
  (hc:∀C s₀ H₀ ex,Li (X.uT scope C (x++cn) s₀ H₀ ex) ifs tc) (he:∀C s₀ H₀ ex,PE (X.uT scope C (x++cn) s₀ H₀ ex) elt te) (hs:∀x,foldedSetIterable iter X.env x=pure x:=by intro _;rfl):
  PE X (.ListComp elt [#[tg,iter,ifs,0]] scope pos) (Ht bd wi ci tc te):=by
 k_go;rw[eval_ListComp]
 rwa[EA (use:=none) rfl hs (uR (B.cells I.ok)) B.kind B.lo (eO (hi pZ s σ H _ I h) λv s1 h1=>eO h1 λitv s2 h2=>?_)];let#[it,fp,tn,J,H2,e,I2,T,t2,f2,q]:=h2;subst e;rwa[An (RR:=λacc C=>compPost (bb X.prog X.w) X.A X.xe none (EP X pZ σ Q) acc C) (Rq:=λD H2=>Q (.ref D) H2) I2 B cp hnd hcalm ht T t2 f2 hc he q λC D H5 s5 I5 q5 hn fC=>?_]
 let#[m,hm]:=hn;refine#[m,hm,λh' sb=>#[.ref D,H5,?_,rfl,q5]];erw[I5.turned (it:=C) (t':=s5.toks) (λb o hb e=>(sb.2 b hb).trans e) fC.1 fC.2.2.1 (.inr fC.2.1) fC.2.2.2.1 fC.2.2.2.2]
theorem B6{elt iter tg:Expr}{bd:V->Hp->(St->Prop)->Prop}{py pos spos:Pos}{ifs:List Expr}{wi:TI}{tc:TT}{te:TE}{cn:List Str}{ci:List Nat}{i:Nat}{y:Str}(B:Ak X scope x)(cp:yq X scope cn ci)(hnd:cn.Nodup)(hcalm:X.calm=true)(ht:Rz X tg scope x cn bd)(hi:PI X tg iter wi)
  (hc:∀C s₀ H₀ ex,Li (X.uT scope C (x++cn) s₀ H₀ ex) ifs tc) (he:∀C s₀ H₀ ex,PE (X.uT scope C (x++cn) s₀ H₀ ex) elt te) (hN:X.N.Nodup) (hy:X.N[i]?=some y) (hk:X.env.scope.names.lookup y=some .local)
  (hsw:hU (.ListComp elt [#[tg,iter,ifs,0]] scope pos) (some (.Name y py)) spos.line X.env=pure true) (hs:∀x,foldedSetIterable iter X.env x=pure x:=by intro _;rfl):
  PS X (.Assign [.Name y py] (.ListComp elt [#[tg,iter,ifs,0]] scope pos) spos) (Sd (Ht bd wi ci tc te) (wJ i)):=by
 intro pZ s σ H D I h;rw[exec_Assign_Name_used _ _ _ _ hsw]
 refine ab (Ez (ab ?_));show wpAny _ X.A (do let _ <-comprehension (.ListComp elt [#[tg,iter,ifs,0]] scope pos) scope X.env _ (newList []) false (eval iter X.env) (some (xM (.Name y py) X.env))) _ _ s;refine ab (bZ (EA (use:=some (xM (.Name y py) X.env)) (Q:=λ_ s'=>SP X pZ D .next s') rfl hs (uR (B.cells I.ok)) B.kind B.lo (eO (hi pZ s σ H _ I h) λv s1 h1=>eO h1 λitv s2 h2=>?_))
  (λ_ s' hq=>av (av hq)) λ_ _ e=>e)
 let#[it,fp,tn,J,H2,e,I2,T,t2,f2,q]:=h2;subst e;rwa[An (RR:=λacc C=>compPost (bb X.prog X.w) X.A X.xe (some (xM (.Name y py) X.env)) (λ_ s'=>SP X pZ D .next s') acc C) (Rq:=λD' H2=>(wJ i) (.ref D') σ H2 D.nx) I2 B cp hnd hcalm ht T t2 f2 hc he q λC D' H5 s5 I5 q5 hn fC=>?_]
 let#[m,hm]:=hn;show wpAny _ X.A (xM (.Name y py) X.env (.ref D')) _ _ _;refine vR (wH (v:=.ref D') I5 hN hy (.inl hk) rfl (λs6 I6 sb6=>?_) (.inr hk));let#[a,sb,ha]:=sb6;have nC:C≠a:=by
  rcases ha with z|z
  .rw[z];erw[fC.2.2.1]
  .intro w;erw[fC.2.2.2.1 y a z w.symm]
 refine#[m,hm.sameBut sb nC,λh' sb'=>#[_,H5,?_,q5]];erw[I6.turned (it:=C) (t':=s6.toks) (λb o hb e=>(sb'.2 b hb).trans e) fC.1 fC.2.2.1 (.inr fC.2.1) fC.2.2.2.1 fC.2.2.2.2]
def Td(z:Str):It:=#[λi _=>i<z.cps.size,λi H x H'=>H'=H/\∃c,z.cps[i]?=some c/\x=.str #[(List.toArray [c])],λi _=>z.cps.size<=i]
theorem Hw{P:bf}{w:bJ}{K:Frag}{tg:Expr}(it:Addr)(z:Str)(t:Tok)(b:Bool):Turn P w K tg (Td z) [it] it (λi h=>h.IsStrIter it (if b then "str_ascii_iterator" else "str_iterator") z t i) where
 mem:=by simp
 obj:=λi h st c hc=>by
  have e:c=it:=by simpa using hc
  subst e;let#[o,e,_,d]:=st;exact#[o,e,λv q=>by rw[d] at q;cases q]
 keep:=λi h h' st k=>by
  let#[o,e,c,d]:=st;exact#[o,k it (by simp) o e,c,d]
 item:=by
  w_up;subst hP hw hK;let#[f0,f1,f2,f3,f4,f5]:=hf it (by simp);have hx:z.cps[i]?=some (z.cps[i]'hg):=iz hg;have done:∀h',h'.IsStrIter it (if b then "str_ascii_iterator" else "str_iterator") z t (i+1)->fX it s.heap h' ->
    ∃u,(some (k6 #[(List.toArray [z.cps[i]'hg])] s.toks):Option Value)=some u/\wpAny (bb X.prog X.w) X.A (qu tg (.ref it) u) (λ_ s2=>∃x H',Inv X pZ σ H' s2/\RelV x u/\(Td z).Sg i H x H'/\s2.heap.IsStrIter it (if b then "str_ascii_iterator" else "str_iterator") z t (i+1)/\∀b∈[it],H' b=none) E {s with heap:=h',toks:=s.toks+1}:=λh' st' sb=>by
   have I1:Inv X pZ σ H {s with heap:=h',toks:=s.toks+1}:=I.turned (t':=s.toks+1) (λb o hb e=>(sb.2 b hb).trans e) f0 f1 f3 f4 f5;let#[o,e,c,d]:=id st';exact#[_,rfl,z9 (s:={s with heap:=h',toks:=s.toks+1}) e c d (by cases b<;>decide) #[.str #[(List.toArray [z.cps[i]'hg])],H,I1,#[_,rfl],#[rfl,_,hx,rfl],st',λb hb=>(hf b hb).1]]
  cases b with
  |true=>erw[wpAny_pyNext_ascii_item st hx λh' st' sb=>done h' st' sb]
  |false=>erw[wpAny_pyNext_wide_item st hx λh' st' sb=>done h' st' sb]
 done:=by
  w_up;subst hP hw hK;let#[f0,f1,f2,f3,f4,f5]:=hf it (by simp);have hx:z.cps[i]?=none:=zR hg;cases b with
  |true=>erw[wpAny_pyNext_ascii_end (I.ok.hd hc) st hx λh' eb=>#[rfl,I.turned (t':=s.toks) (λb o hb e=>eb b o hb e) f0 f1 f3 f4 f5]]
  |false=>erw[wpAny_pyNext_wide_end (I.ok.hd hc) st hx λh' eb=>#[rfl,I.turned (t':=s.toks) (λb o hb e=>eb b o hb e) f0 f1 f3 f4 f5]]
 self:=λA i s Q E st h=>by
  cases b with
  |true=>erw[wpAny_pyIter_striter_ascii st h]
  |false=>erw[wpAny_pyIter_striter_wide st h]
end
noncomputable abbrev tx(l:List Nat):Str:=#[l.toArray]
theorem Te(z:Str):z=tx z.cps.toList:=by
 let#[a]:=z;simp
theorem yr(a b:List Nat):tx a++tx b=tx (a++b):=by
 show Str.mk (a.toArray++b.toArray)=Str.mk (a++b).toArray
 simp
theorem dv(a:List Nat):(tx a).length=a.length:=by simp[Gx]
theorem qe{a b:List Nat}(h:tx a=tx b):a=b:=by
 have:=congrArg (λz:Str=>z.cps.toList) h;simpa using this
theorem Nn{a b:List Nat}:(tx a=tx b)↔a=b:=#[qe,λh=>by rw[h]]
theorem Dw{a b:List Nat}:(V.str (tx a)=V.str (tx b))↔a=b:=#[λh=>qe (V.str.inj h),λh=>by rw[h]]
section
variable{X:Cx}
theorem E7:gM X (cB .Add) (λx y H Q=>∃a b,x=.str (tx a)/\y=.str (tx b)/\a.length+b.length<=sizeLine/\Q (.str (tx (a++b))) H):=by
 x_go;let#[a,b,rfl,rfl,hz,q]:=h;rwa[BP pZ s σ H _ _ v u Q I rx ry #[tx a,tx b,rfl,rfl,by rw[dv,dv];erw[hz],?_]];rw[yr]
 erw[q]
theorem B7:gM X (ic .Add) (λx y H Q=>∃a b,x=.str (tx a)/\y=.str (tx b)/\a.length+b.length<=sizeLine/\Q (.str (tx (a++b))) H):=by
 x_go;let#[a,b,rfl,rfl,hz,q]:=h;rwa[Aa pZ s σ H _ _ v u Q I rx ry #[tx a,tx b,rfl,rfl,by rw[dv,dv];erw[hz],?_]];rw[yr]
 erw[q]
theorem Ln{l:List Nat}{c:Nat}(h:c∈l):Txt.find (tx l) (tx [c])=((l.idxOf c:Nat):Int)/\(Builtin.Str.occurrences (tx l) (tx [c]) 0 (tx l).length 1).isEmpty=false:=by
 have h2:(!(Builtin.Str.occurrences (tx l) #[(List.toArray [c])] 0 (tx l).length 1).isEmpty)=true:=by rw[StrLaws.found_one];simpa using h
 refine#[?_,by simpa using h2];have at_iff:∀i,StrLaws.At (tx l) (tx [c]) (tx l).length i↔l[i]?=some c:=λi=>by
  have:=StrLaws.subAt_one (tx l) c i;simpa[StrLaws.At] using this
 rcases find_whole (tx l) (tx [c]) with⟨_,no⟩|⟨i,e,hi,lo⟩
 .let#[j,hj,ej]:=qy h
  erw[absurd ((at_iff j).mpr (by rw[aa hj,ej])) (no j)]
 .rw[e]
  have hi':=(at_iff i).mp hi;let#[hlt,ei]:=ae.mp hi';have e1:l.idxOf c=i:=by
   have hk:=cC h;rcases JY (l.idxOf c) i with q|q|q
   .erw[absurd ((at_iff _).mpr (by rw[aa hk,i4])) (lo _ q)]
   .erw[q]
   .have:=List.not_of_lt_findIdx (p:=(·==c)) (xs:=l) (i:=i) q
    simp[ei] at this
  rw[e1]
def OV:V->List V->Hp->VK->Prop:=λx xs H Q=>∃l c,x=.str (tx l)/\xs=[.str (tx [c])]/\c∈l/\Q (.int ((l.idxOf c:Nat):Int)) H
theorem Ao(hA:X.A.handled=none):BX X "str.index" OV:=by
 intro pZ s σ H x xs v us Q I rx rs h;let#[l,c,rfl,rfl,hc,q]:=h;let#[t,rfl]:=rx;let#[u,rfl,t',rfl]:=vals1 rs;let#[e,ne]:=Ln hc;rwa[index_or hA (λz w=>?_) λ_ _=>#[.int _,H,I.tok _,#[_,rfl],by rw[e];erw[q]]]
 rw[ne] at w;cases w
end
noncomputable def uU(sep:List Nat):List (List Nat)->List Nat
 |[]=>[]
 |[x]=>x
 |x::r=>x++sep++uU sep r
theorem Lo(sep:List Nat):∀ts:List (List Nat),Txt.join (tx sep) (ts.map tx)=tx (uU sep ts):=by
 intro ts;show Builtin.Str.glued (tx sep) (ts.map tx)=_;rw[StrLaws.glued_eq_join]
 induction ts with
 |nil=>rfl
 |cons a r ih=>
  cases r with
  |nil=>rfl
  |cons b r=>
   show tx a++tx sep++Str.join (tx sep) ((b::r).map tx)=tx (a++sep++uU sep (b::r))
   rw[ih,yr,yr]
theorem uV:∀{ts:List (List Nat)}{us:List Value},Vals (ts.map λt=>V.str (tx t)) us->StrsAre us (ts.map tx)
 |[],_,.nil=>.nil
 |a::ts,_,.cons (b:=u) r h=>by
  let#[t,e]:=(show ∃t,u=k6 (tx a) t from r)
  subst e;erw[.cons _ _ (uV h)]
section
variable{X:Cx}
def rJoin(K:Frag):V->List V->Hp->VK->Prop:=λx xs H Q=>∃sep ts p,x=.str (tx sep)/\xs=[.ref p]/\iT K H p (ts.map λt=>V.str (tx t))/\(ts.map cD).sum+ts.length*sep.length<=1000000/\Q (.str (tx (uU sep ts))) H
theorem Dx:BX X "str.join" (rJoin X.K):=by
 intro pZ s σ H x xs v us Q I rx rs h;let#[sep,ts,p,rfl,rfl,hl,hz,q]:=h;let#[t,rfl]:=rx;let#[u,rfl,ru]:=vals1 rs;cases ru;let#[its,r,pl,_]:=I.list hl;refine join_list pl.isList (ys:=ts.map tx) (by simpa using uV r) ?_ λt' k=>#[.str (tx (uU sep ts)),H,I.tok k,#[t',by rw[Lo]],q]
 have e:((ts.map tx).map (·.length)).sum=(ts.map cD).sum:=by
  congr 1
  rw[bq]
  erw[qz λa _=>dv a]
 rw[e,ah,dv]
 omega
theorem uW{f g:Nat->Option Nat}:∀{l:List Nat},(∀k∈l,f k=g k)->l.filterMap f=l.filterMap g
 |[],_=>rfl
 |a::l,h=>by
  rw[cg,cg,h a aO,uW λk hk=>h k (aB _ hk)]
theorem md(l:List Nat):∀(n i:Nat),i+n<=l.length->(cf n).filterMap (λk=>l[i+k]?)=(l.drop i).take n
 |0,i,_=>by simp
 |n+1,i,h=>by
  rw[Bk,cg,rQ]
  have hi:i<l.length:=∅
  have e:l[i+0]?=some l[i]:=by simp[hi]
  rw[e,eT hi,EB]
  have:=md l n (i+1) ∅;rw[<-this]
  show l[i]::_=l[i]::_
  congr 1
  rwa[uW λk _=>?_]
  show l[i+(k+1)]?=l[i+1+k]?
  rw[show i+(k+1)=i+1+k by omega]
noncomputable def B8(l:List Nat)(i j:Nat):List Nat:=(l.drop i).take (j-i)
theorem Dy{b:Int}{n:Nat}(h:0<=b):max 0 (min b (n:Int))=((min b.toNat n:Nat):Int):=by
 let#[k,rfl]:=Bl h;rw[Int.max_eq_right (Int.le_min.mpr #[h,Int.ofNat_nonneg n])]
 rw[gK];omega
theorem Hx(l:List Nat)(lo hi:Option Int)(i j:Nat)(hlo:lo=none/\i=0\/∃a:Int,lo=some a/\0<=a/\i=min a.toNat l.length)(hhi:hi=none/\j=l.length\/∃b:Int,hi=some b/\0<=b/\j=min b.toNat l.length):
  Txt.slice (tx l) lo hi=tx (B8 l i j):=by
 have hi':i<=l.length:=by rcases hlo with⟨_,e⟩|⟨a,_,_,e⟩<;>omega
 have hj':j<=l.length:=by rcases hhi with⟨_,e⟩|⟨b,_,_,e⟩<;>omega
 have key:Builtin.Str.strSliceIndices lo hi 1 l.length=(cf (j-i)).map λk=>i+k:=by
  have e0:Builtin.Str.strSliceIndices lo hi 1 l.length=sliceRange (i:Int) (j:Int) 1:=by
   unfold Builtin.Str.strSliceIndices;rcases hlo with⟨rfl,rfl⟩|⟨a,rfl,h0,rfl⟩<;>rcases hhi with⟨rfl,rfl⟩|⟨b,rfl,h1,rfl⟩
   .rfl
   .dsimp[xY.mpr h1,if_false,show(1:Int)>0 by decide,if_true,Dy h1]
    rfl
   .dsimp[xY.mpr h0,if_false,show(1:Int)>0 by decide,if_true,Dy h0]
   .dsimp[xY.mpr h0,xY.mpr h1,if_false,show(1:Int)>0 by decide,if_true,Dy h0,Dy h1]
  rw[e0]
  unfold sliceRange;dsimp[show(1:Int)>0 by decide,if_true,Int.ediv_one];have e3:(if (i:Int)<(j:Int) then(j:Int)-i+1-1 else 0).toNat=j-i:=by split<;>omega
  rw[e3]
  rwa[qz λk _=>?_]
  omega
 have len:(tx l).length=l.length:=dv l;unfold Txt.slice;rw[len,key]
 have e4:((cf (j-i)).map λk=>i+k).length=j-i:=by simp
 rw[e4]
 by_cases hw:j-i=l.length
 .rw[if_pos (by simp[hw])]
  have:B8 l i j=l:=by
   unfold B8;have:i=0:=∅
   subst this;rw[hw,jv,bP]
  rw[this]
 .rw[if_neg (by simp[hw])]
  show tx _=tx _
  congr 1
  rw[rQ]
  by_cases hij:i<=j
  .have:=md l (j-i) i ∅
   unfold B8;rw[<-this]
   rwa[uW λk _=>?_]
   simp
  .have:j-i=0:=∅
   unfold B8;rw[this]
   simp
def W9:V->Option Int->Option Int->Hp->VK->Prop:=λx lo hi H Q=>∃l i j,x=.str (tx l)/\l.length<=sizeLine/\(lo=none/\i=0\/∃a:Int,lo=some a/\0<=a/\i=min a.toNat l.length)/\(hi=none/\j=l.length\/∃b:Int,hi=some b/\0<=b/\j=min b.toNat l.length)/\Q (.str (tx (B8 l i j))) H
theorem Tf:SE X W9:=by
 intro pZ s σ H x v vl vu lo hi sl Q I rx hs pl pu h;let#[l,i,j,rfl,hz,h1,h2,q]:=h;let#[t,rfl]:=rx;refine#["str",_,F.slot_str_getitem.lookup,typeIs_str _ _ _,?_];have fin:∀(a b:Option (Int×Tok)),vl=partValue a->vu=partValue b->lo=a.map (·.1)->hi=b.map (·.1)->wpAny (bb X.prog X.w) X.A (n8 (.str (tx l) t) (.ref sl)) (EP X pZ σ Q) X.xe s:=λa b e1 e2 e3 e4=>by
  refine wpAny_getItem_str_slice (l:=a) (u:=b) (st:=none) (by rw[e1,e2] at hs;erw[hs]) rfl ?_;rwa[post_val_or_str #[aP (Txt.slice_le (tx l) _ _) (by rw[dv];erw[hz]),λt' k=>#[.str (tx (B8 l i j)),H,I.tok k,#[t',?_],q]]];have:=Hx l lo hi i j h1 h2;rw[e3,e4] at this;rw[<-this]
  rfl
 cases pl with
 |none=>
  cases pu with
  |none=>erw[fin none none rfl rfl rfl rfl]
  |int b u=>erw[fin none (some (b,u)) rfl rfl rfl rfl]
 |int a u=>
  cases pu with
  |none=>erw[fin (some (a,u)) none rfl rfl rfl rfl]
  |int b u2=>erw[fin (some (a,u)) (some (b,u2)) rfl rfl rfl rfl]
theorem OW(c:Nat)(n:Nat):Txt.mul (tx [c]) (n:Int)=tx (dH n c):=by
 unfold Txt.mul;by_cases h:(n:Int)<1
 .rw[if_pos h]
  have:n=0:=∅
  subst this
  rfl
 .rw[if_neg h]
  by_cases h1:n=1
  .subst h1
   rfl
  .rw[if_neg (by simp[Gx];omega)]
   show Str.mk _=Str.mk _
   congr 1
   have all:∀(m:Nat)(acc:List Nat),List.foldl (λx1 x2=>x1++x2) acc.toArray (dH m ((List.toArray [c]):Array Nat))=(acc++dH m c).toArray:=by
    intro m;induction m with
    |zero=>intro acc;simp
    |succ m ih=>
     intro acc;rw[EC,vO]
     have:acc.toArray ++ (List.toArray [c])=(acc++[c]).toArray:=by simp
     rw[this,ih,EC]
     simp
   have:=all n [];simpa using this
noncomputable def Th:R2:=λx y H Q=>∃c n:Nat,x=.str (tx [c])/\y=.int (n:Int)/\n<=1000/\Q (.str (tx (dH n c))) H
theorem E8:gM X (cB .Mult) Th:=by
 x_go;let#[c,n,rfl,rfl,hn,q]:=h;let#[t,rfl]:=rx;let#[t',rfl]:=ry;rwa[SB.mul #[by simp;omega,λh1 h2=>?_,λh1 h2=>?_] λt' k=>#[.str _,H,I.tok k,#[t',by rw[OW]],q]]
 .rw[dv]
  have:(n:Int)<=1000:=∅
  have h3:(1:Int)<=(2^63-1)/(n:Int):=by
   rw[Int.le_ediv_iff_mul_le ∅]
   omega
  show ¬(1:Int)>_
  omega
 .rw[dv]
  show Builtin.Str.tooLong (1*n)=false
  unfold Builtin.Str.tooLong;simp
  rw[jL]
  omega
end
section
variable{X:Cx}{pZ:List (Addr×Obj)}{σ:St}{H:Hp}{s:aq}{a C d:Addr}{fs:List (Str×V)}{f:Str}{v:V}
structure OX(K:Frag)(P:Gy)(a:Addr)(kvs:List (Str×V)):Prop where
 ex:∃es n,K.lookup a=some #[.type "dict",none,.dict es n,#[]]/\Bm P es.toList
 at_:∀k v,kvs.lookup k=some v->∃u,RelV v u/\nsIn K a k=some (some u)
 no:∀k,kvs.lookup k=none->nsIn K a k=some none
 ns:(a==bY)=false
noncomputable def Xa(K:Frag)(P:Gy):R2:=λx y H Q=>∃a kvs k v,x=.ref a/\y=.str k/\OX K P a kvs/\kvs.lookup k=some v/\Q v H
theorem yt:Rx X (Xa X.K X.w.params):=by
 intro value slice pZ s σ H x y v u Q I rx ry h hs;let#[a,kvs,k,z,rfl,rfl,T,e,q]:=h;cases rx;let#[t,rfl]:=ry;let#[es,n,lk,kl]:=T.ex;let#[w,rw',ew]:=T.at_ k z e;have hm:=mapOf_K (prog:=X.prog) (w:=X.w) I.zG lk kl;erw[tail_any hm.typeIs slot_dict_getitem.lookup (wpAny_getItem_of (strKind_is X.prog X.w k t) hm (find_K lk ew) #[z,H,I.tok _,rw',q]) hs]
end
inductive Dv where
 |bV|bl (b:Bool)|int (i:Int)|str (l:List Nat)|tup (ds:List Dv)|lst (ds:List Dv)
mutual
noncomputable def Dv.depth:Dv->Nat
 |.tup ds=>Dv.jE ds+1
 |.lst ds=>Dv.jE ds+1
 |_=>0
noncomputable def Dv.jE:List Dv->Nat
 |[]=>0
 |d::ds=>max d.depth (Dv.jE ds)
end
mutual
noncomputable def og:Dv->Dv->Bool
 |.bV,.bV=>true
 |.bl a,.bl b=>a==b
 |.bl a,.int b=>(if a then 1 else 0)== b
 |.int a,.bl b=>a==(if b then 1 else 0)
 |.int a,.int b=>a==b
 |.str a,.str b=>a==b
 |.tup xs,.tup ys=>oA xs ys
 |.lst xs,.lst ys=>oA xs ys
 |_,_=>false
noncomputable def oA:List Dv->List Dv->Bool
 |[],[]=>true
 |x::xs,y::ys=>og x y&&oA xs ys
 |_,_=>false
end
mutual
noncomputable def gf(K:Frag)(H:Hp):V->Dv->Prop
 |v,.bV=>v=.bV
 |v,.bl b=>v=.bl b
 |v,.int i=>v=.int i
 |v,.str l=>v=.str (tx l)
 |v,.tup ds=>∃a vs,v=.ref a/\lY K H a vs/\iB K H vs ds
 |v,.lst ds=>∃a vs,v=.ref a/\iT K H a vs/\iB K H vs ds
noncomputable def iB(K:Frag)(H:Hp):List V->List Dv->Prop
 |[],[]=>True
 |v::vs,d::ds=>gf K H v d/\iB K H vs ds
 |_,_=>False
end
theorem iB.len{K:Frag}{H:Hp}:∀{vs:List V}{ds:List Dv},iB K H vs ds->vs.length=ds.length
 |[],[],_=>rfl
 |_::vs,_::ds,h=>by
  unfold iB at h;rw[aW,aW,iB.len h.2]
 |[],_::_,h=>by unfold iB at h;erw[h.elim]
 |_::_,[],h=>by unfold iB at h;erw[h.elim]
theorem iB.get{K:Frag}{H:Hp}:∀{vs:List V}{ds:List Dv}{i:Nat}{v:V}{d:Dv},iB K H vs ds->vs[i]?=some v->ds[i]?=some d->gf K H v d
 |v::vs,d::ds,0,_,_,h,e1,e2=>by
  unfold iB at h;simp at e1 e2;subst e1 e2;erw[h.1]
 |v::vs,d::ds,i+1,_,_,h,e1,e2=>by
  unfold iB at h;exact iB.get (i:=i) h.2 (by simpa using e1) (by simpa using e2)
 |[],_,_,_,_,_,e1,_=>by simp at e1
 |_,[],_,_,_,_,_,e2=>by simp at e2
mutual
theorem uX:∀d:Dv,og d d=true
 |.bV=>by unfold og;rfl
 |.bl b=>by unfold og;simp
 |.int i=>by unfold og;simp
 |.str l=>by unfold og;simp
 |.tup ds=>by unfold og;erw[si ds]
 |.lst ds=>by unfold og;erw[si ds]
theorem si:∀ds:List Dv,oA ds ds=true
 |[]=>by unfold oA;rfl
 |d::ds=>by unfold oA;rw[uX d,si ds];rfl
end
theorem mM:∀(xs ys:List Dv)(e:Nat->Bool),(∀i x y,xs[i]?=some x->ys[i]?=some y->e i=og x y)->((cf (min xs.length ys.length)).all e&&xs.length==ys.length)=oA xs ys
 |[],[],e,_=>by unfold oA;simp
 |[],y::ys,e,_=>by unfold oA;simp
 |x::xs,[],e,_=>by unfold oA;simp
 |x::xs,y::ys,e,h=>by
  have ih:=mM xs ys (λi=>e (i+1)) λi a b h1 h2=>h (i+1) a b (by simpa using h1) (by simpa using h2)
  unfold oA;rw[<-ih,<-h 0 x y rfl rfl]
  rw[aW,aW,Nat.succ_min_succ,Bk,bK,Bn]
  have:(xs.length+1==ys.length+1)=(xs.length==ys.length):=by simp
  rw[this,Bool.and_assoc]
  rfl
section
variable{X:Cx}{pZ:List (Addr×Obj)}{σ:St}{H:Hp}{s:aq}
mutual
theorem gf.inj(I:Inv X pZ σ H s):∀{d d':Dv}{v:V},gf X.K H v d->gf X.K H v d'->d=d'
 |.bV,d',v,h,h'=>by
  unfold gf at h;subst h;cases d'<;>unfold gf at h'<;>first|rfl| (cases h';done)| (obtain⟨_,_,z,_⟩:=h';cases z)
 |.bl b,d',v,h,h'=>by
  unfold gf at h;subst h;cases d'<;>unfold gf at h'<;>first| (cases h';rfl)| (cases h';done)| (obtain⟨_,_,z,_⟩:=h';cases z)
 |.int b,d',v,h,h'=>by
  unfold gf at h;subst h;cases d'<;>unfold gf at h'<;>first| (cases h';rfl)| (cases h';done)| (obtain⟨_,_,z,_⟩:=h';cases z)
 |.str l,d',v,h,h'=>by
  unfold gf at h;subst h;cases d'<;>unfold gf at h'<;>first| (rw[Dw.mp h'])| (cases h';done)| (obtain⟨_,_,z,_⟩:=h';cases z)
 |.tup ds,d',v,h,h'=>by
  unfold gf at h;let#[a,vs,rfl,hq,hd]:=h;cases d' with
  |tup ds'=>
   unfold gf at h';let#[a',vs',e,hq',hd']:=h';cases e;rw[I.wI hq' hq] at hd';rw[iB.inj I hd hd']
  |lst ds'=>
   unfold gf at h';let#[a',vs',e,hq',hd']:=h';cases e;exfalso;let#[its,_,#[o,e1,c1,_],_]:=I.tuple hq;let#[its',_,#[o',n',e2,c2,_,_],_]:=I.list hq';rw[e1] at e2;cases e2;rw[c1] at c2;injection c2 with c2
   erw[absurd c2 ⋯]
  |_=>unfold gf at h';cases h'
 |.lst ds,d',v,h,h'=>by
  unfold gf at h;let#[a,vs,rfl,hq,hd]:=h;cases d' with
  |lst ds'=>
   unfold gf at h';let#[a',vs',e,hq',hd']:=h';cases e;rw[I.uG hq' hq] at hd';rw[iB.inj I hd hd']
  |tup ds'=>
   unfold gf at h';let#[a',vs',e,hq',hd']:=h';cases e;exfalso;let#[its,_,#[o,e1,c1,_],_]:=I.tuple hq';let#[its',_,#[o',n',e2,c2,_,_],_]:=I.list hq;rw[e1] at e2;cases e2;rw[c1] at c2;injection c2 with c2
   erw[absurd c2 ⋯]
  |_=>unfold gf at h';cases h'
theorem iB.inj(I:Inv X pZ σ H s):∀{ds ds':List Dv}{vs:List V},iB X.K H vs ds->iB X.K H vs ds'->ds=ds'
 |[],[],_,_,_=>rfl
 |[],_::_,[],_,h'=>by unfold iB at h';erw[h'.elim]
 |[],_::_,_::_,h,_=>by unfold iB at h;erw[h.elim]
 |_::_,[],[],h,_=>by unfold iB at h;erw[h.elim]
 |_::_,[],_::_,_,h'=>by unfold iB at h';erw[h'.elim]
 |d::ds,d'::ds',[],h,_=>by unfold iB at h;erw[h.elim]
 |d::ds,d'::ds',v::vs,h,h'=>by
  unfold iB at h h';rw[gf.inj I h.1 h'.1,iB.inj I h.2 h'.2]
end
theorem me:∀{ds:List Dv}{i:Nat}{d:Dv},ds[i]?=some d->d.depth<=Dv.jE ds
 |d::ds,0,_,h=>by
  simp at h;subst h;unfold Dv.jE;erw[Nat.le_max_left _ _]
 |d::ds,i+1,_,h=>by
  have:=me (ds:=ds) (i:=i) (by simpa using h);unfold Dv.jE;erw[aP this (Kr _ _)]
 |[],_,_,h=>by simp at h
theorem B9(I:Inv X pZ σ H s):∀(n:Nat){A:cF}{d d':Dv}{x y:V}{u v:Value},d.depth<=n->A.units+n<eP->gf X.K H x d->gf X.K H y d'->RelV x u->RelV y v->vS A s u v (og d d'):=by
 intro n;induction n with
 |zero=>
  intro A d d' x y u v hn hu hx hy rx ry;cases d with
  |tup ds=>unfold Dv.depth at hn;omega
  |lst ds=>unfold Dv.depth at hn;omega
  |bV=>
   unfold gf at hx;subst hx;cases rx;cases d'<;>unfold gf at hy
   .subst hy;cases ry;erw[jJ _]
   .subst hy;cases ry;erw[wq _]
   .subst hy;let#[t,rfl]:=ry;erw[nY _ _]
   .subst hy;let#[t,rfl]:=ry;erw[nZ _ _]
   .let#[a,vs,rfl,hq,_]:=hy;cases ry;let#[its,_,p,_]:=I.tuple hq;erw[SeqAt.EqAt.none_tuple p ∅]
   .let#[a,vs,rfl,hq,_]:=hy;cases ry;let#[its,_,p,_]:=I.list hq;erw[SeqAt.EqAt.none_list p.isList ∅]
  |bl b=>
   unfold gf at hx;subst hx;cases rx;cases d'<;>unfold gf at hy
   .subst hy;cases ry;erw[wt _]
   .subst hy;cases ry;erw[wu _ _]
   .subst hy;let#[t,rfl]:=ry;erw[xT _ _ _]
   .subst hy;let#[t,rfl]:=ry;erw[xU _ _ _]
   .let#[a,vs,rfl,hq,_]:=hy;cases ry;let#[its,_,p,_]:=I.tuple hq;erw[SeqAt.EqAt.bool_tuple _ p ∅]
   .let#[a,vs,rfl,hq,_]:=hy;cases ry;let#[its,_,p,_]:=I.list hq;erw[SeqAt.EqAt.bool_list _ p.isList ∅]
  |int i=>
   unfold gf at hx;subst hx;let#[t0,rfl]:=rx;cases d'<;>unfold gf at hy
   .subst hy;cases ry;erw[nV _ _]
   .subst hy;cases ry;erw[xV _ _ _]
   .subst hy;let#[t,rfl]:=ry;erw[zy _ _ _ _]
   .subst hy;let#[t,rfl]:=ry;erw[oM _ _ _ _]
   .let#[a,vs,rfl,hq,_]:=hy;cases ry;let#[its,_,p,_]:=I.tuple hq;erw[SeqAt.EqAt.int_tuple _ _ p ∅]
   .let#[a,vs,rfl,hq,_]:=hy;cases ry;let#[its,_,p,_]:=I.list hq;erw[SeqAt.EqAt.int_list _ _ p.isList ∅]
  |str l=>
   unfold gf at hx;subst hx;let#[t0,rfl]:=rx;cases d' with
   |bV=>unfold gf at hy;subst hy;cases ry;erw[nW _ _]
   |bl b=>unfold gf at hy;subst hy;cases ry;erw[xW _ _ _]
   |int i=>unfold gf at hy;subst hy;let#[t,rfl]:=ry;erw[oN _ _ _ _]
   |str l'=>
    unfold gf at hy;subst hy;let#[t,rfl]:=ry;have e:(tx l==tx l')=og (.str l) (.str l'):=by
     unfold og;rw[dy,beq_iff_eq,beq_iff_eq]
     erw[Nn]
    rw[<-e]
    erw[zz _ _ _ _]
   |tup ds=>unfold gf at hy;let#[a,vs,rfl,hq,_]:=hy;cases ry;let#[its,_,p,_]:=I.tuple hq;erw[SeqAt.EqAt.str_tuple _ _ p ∅]
   |lst ds=>unfold gf at hy;let#[a,vs,rfl,hq,_]:=hy;cases ry;let#[its,_,p,_]:=I.list hq;erw[SeqAt.EqAt.str_list _ _ p.isList ∅]
 |succ n ih=>
  intro A d d' x y u v hn hu hx hy rx ry;have items:∀{vs vs':List V}{ds ds':List Dv}{its its':List Value},Dv.jE ds<=n->iB X.K H vs ds->iB X.K H vs' ds'->Vals vs its->Vals vs' its' ->
    ∃e:Nat->Bool,(∀j(h1:j<its.toArray.size)(h2:j<its'.toArray.size),vS A.in1 s its.toArray[j] its'.toArray[j] (e j))/\((cf (min its.toArray.size its'.toArray.size)).all e&&its.toArray.size==its'.toArray.size)=oA ds ds':=by
   intro vs vs' ds ds' its its' hd h1 h2 r1 r2;have l1:=h1.len;have l2:=h2.len;have m1:=r1.length;have m2:=r2.length;refine#[λj=>match ds[j]?,ds'[j]? with|some a,some b=>og a b|_,_=>true,λj k1 k2=>?_,?_]
   .rw[aF] at k1 k2
    have j1:j<ds.length:=∅
    have j2:j<ds'.length:=∅
    have i1:j<vs.length:=∅
    have i2:j<vs'.length:=∅
    have e1:ds[j]?=some ds[j]:=aa j1;have e2:ds'[j]?=some ds'[j]:=aa j2;have f1:vs[j]?=some vs[j]:=aa i1;have f2:vs'[j]?=some vs'[j]:=aa i2;let#[w1,g1,q1]:=r1.get f1;let#[w2,g2,q2]:=r2.get f2;have a1:its.toArray[j]=w1:=by
     let#[_,z]:=ae.mp g1;simpa using z
    have a2:its'.toArray[j]=w2:=by
     let#[_,z]:=ae.mp g2;simpa using z
    rw[a1,a2]
    dsimp only;rw[e1,e2]
    erw[ih (aP (me e1) hd) (by show A.units+1+n<eP;omega) (h1.get f1 e1) (h2.get f2 e2) q1 q2]
   .rw[aF,aF,<-m1,<-m2,l1,l2]
    rwa[mM ds ds' _ λi a b h1 h2=>?_]
    rw[h1,h2]
  by_cases hz:d.depth<=n
  .erw[ih hz ∅ hx hy rx ry]
  .cases d with
   |bV=>unfold Dv.depth at hz;omega
   |bl b=>unfold Dv.depth at hz;omega
   |int b=>unfold Dv.depth at hz;omega
   |str b=>unfold Dv.depth at hz;omega
   |tup ds=>
    have hx0:=hx;unfold gf at hx;let#[a,vs,rfl,hq,hd]:=hx;cases rx;let#[its,r1,p,_]:=I.tuple hq;unfold Dv.depth at hn;cases d' with
    |bV=>unfold gf at hy;subst hy;cases ry;erw[SeqAt.EqAt.tuple_none p ∅]
    |bl b=>unfold gf at hy;subst hy;cases ry;erw[SeqAt.EqAt.tuple_bool _ p ∅]
    |int i=>unfold gf at hy;subst hy;let#[t,rfl]:=ry;erw[SeqAt.EqAt.tuple_int _ _ p ∅]
    |str l'=>unfold gf at hy;subst hy;let#[t,rfl]:=ry;erw[SeqAt.EqAt.tuple_str _ _ p ∅]
    |lst ds'=>unfold gf at hy;let#[a',vs',rfl,hq',_]:=hy;cases ry;let#[its',_,p',_]:=I.list hq';erw[SeqAt.EqAt.tuple_list p p'.isList ∅]
    |tup ds'=>
     have hy0:=hy;unfold gf at hy;let#[a',vs',rfl,hq',hd']:=hy;cases ry;let#[its',r2,p',_]:=I.tuple hq';by_cases e:a=a'
     .subst e
      rw[gf.inj I hx0 hy0,uX]
      erw[jJ _]
     .let#[f,hf,ef]:=items ∅ hd hd' r1 r2
      unfold og;rw[<-ef]
      erw[zB e (zS p p' ∅ hf)]
   |lst ds=>
    have hx0:=hx;unfold gf at hx;let#[a,vs,rfl,hq,hd]:=hx;cases rx;let#[its,r1,p,_]:=I.list hq;unfold Dv.depth at hn;cases d' with
    |bV=>unfold gf at hy;subst hy;cases ry;erw[SeqAt.EqAt.list_none p.isList ∅]
    |bl b=>unfold gf at hy;subst hy;cases ry;erw[SeqAt.EqAt.list_bool _ p.isList ∅]
    |int i=>unfold gf at hy;subst hy;let#[t,rfl]:=ry;erw[SeqAt.EqAt.list_int _ _ p.isList ∅]
    |str l'=>unfold gf at hy;subst hy;let#[t,rfl]:=ry;erw[SeqAt.EqAt.list_str _ _ p.isList ∅]
    |tup ds'=>unfold gf at hy;let#[a',vs',rfl,hq',_]:=hy;cases ry;let#[its',_,p',_]:=I.tuple hq';erw[SeqAt.EqAt.list_tuple p.isList p' ∅]
    |lst ds'=>
     have hy0:=hy;unfold gf at hy;let#[a',vs',rfl,hq',hd']:=hy;cases ry;let#[its',r2,p',_]:=I.list hq';by_cases e:a=a'
     .subst e
      rw[gf.inj I hx0 hy0,uX]
      erw[jJ _]
     .let#[f,hf,ef]:=items ∅ hd hd' r1 r2
      unfold og;rw[<-ef]
      rwa[zB e ?_];by_cases el:its.toArray.size=its'.toArray.size
      .have:((cf (min its.toArray.size its'.toArray.size)).all f&&its.toArray.size==its'.toArray.size)=(cf its.toArray.size).all f:=by
        rw[el,Nat.min_self]
        simp
       rw[this]
       erw[SeqAt.RcAt.lists p.isList p'.isList el ∅ hf]
      .have:((cf (min its.toArray.size its'.toArray.size)).all f&&its.toArray.size==its'.toArray.size)=false:=by
        have:(its.toArray.size==its'.toArray.size)=false:=by simpa using el
        rw[this,Bool.and_false]
       rw[this]
       exact SeqAt.RcAt.lists_lengths p.isList p'.isList (by simpa using el) ∅
noncomputable def Xb(K:Frag):R2:=λx y H Q=>∃ds d',gf K H x (.tup ds)/\gf K H y d'/\Dv.jE ds<=100/\Q (.bl (og (.tup ds) d')) H
theorem OY(hu:X.A.units+200<eP):gM X (bD .Eq) (Xb X.K):=by
 intro pZ s σ H x y u v Q I rx ry h;let#[ds,d',hx,hy,hz,q]:=h;have fin:∀b,b=og (.tup ds) d'->EP X pZ σ Q (.bool b) s:=λb e=>by rw[e];exact#[.bl _,H,I,rfl,q]
 have hx0:=hx;unfold gf at hx;let#[a,vs,rfl,hq,hd]:=hx;cases rx;let#[its,r1,p,_]:=I.tuple hq;cases d' with
 |bV=>unfold gf at hy;subst hy;cases ry;erw[SeqAt.RcAt.tuple_none p ∅ _ _ _ _ (fin _ (by unfold og;rfl))]
 |bl b=>unfold gf at hy;subst hy;cases ry;erw[SeqAt.RcAt.tuple_bool _ p ∅ _ _ _ _ (fin _ (by unfold og;rfl))]
 |int i=>unfold gf at hy;subst hy;let#[t,rfl]:=ry;erw[SeqAt.RcAt.tuple_int _ _ p ∅ _ _ _ _ (fin _ (by unfold og;rfl))]
 |str l'=>unfold gf at hy;subst hy;let#[t,rfl]:=ry;erw[SeqAt.RcAt.tuple_str _ _ p ∅ _ _ _ _ (fin _ (by unfold og;rfl))]
 |lst ds'=>unfold gf at hy;let#[a',vs',rfl,hq',_]:=hy;cases ry;let#[its',_,p',_]:=I.list hq';erw[SeqAt.RcAt.tuple_list p p'.isList ∅ _ _ _ _ (fin _ (by unfold og;rfl))]
 |tup ds'=>
  unfold gf at hy;let#[a',vs',rfl,hq',hd']:=hy;cases ry;let#[its',r2,p',_]:=I.tuple hq';have l1:=hd.len;have l2:=hd'.len;have m1:=r1.length;have m2:=r2.length;refine zS (e:=λj=>match ds[j]?,ds'[j]? with|some a,some b=>og a b|_,_=>true) p p' ∅ (λj k1 k2=>?_) _ _ _ _ (fin _ ?_)
  .rw[aF] at k1 k2
   have e1:ds[j]?=some (ds[j]'∅):=aa _;have e2:ds'[j]?=some (ds'[j]'∅):=aa _;have f1:vs[j]?=some (vs[j]'∅):=aa _;have f2:vs'[j]?=some (vs'[j]'∅):=aa _;let#[w1,g1,q1]:=r1.get f1;let#[w2,g2,q2]:=r2.get f2;have a1:its.toArray[j]=w1:=by
    let#[_,z]:=ae.mp g1;simpa using z
   have a2:its'.toArray[j]=w2:=by
    let#[_,z]:=ae.mp g2;simpa using z
   rw[a1,a2,e1,e2]
   erw[B9 I 100 (aP (me e1) hz) (by show X.A.units+1+100<eP;omega) (hd.get f1 e1) (hd'.get f2 e2) q1 q2]
  .rw[aF,aF,<-m1,<-m2,l1,l2]
   rw[show og (.tup ds) (.tup ds')=oA ds ds' from by unfold og;rfl]
   rwa[mM ds ds' _ λi a b h1 h2=>?_]
   rw[h1,h2]
end
end L2
namespace PL
theorem _root_.Lake.L2.ff{P:Prop}(h:false=true):P:=by cases h
theorem _root_.Lake.L2.nn{α:Type}{x:α}{P:Prop}(h:(none:Option α)=some x):P:=by cases h
inductive U where
 |bV|bl (b:Bool)|int (i:Int)|str (l:List Nat)|tup (us:List U)|loc (n:Nat)
 |sj (ns:List Int)|tab (kvs:List (List Nat×List Nat))
instance:Inhabited U:=#[.bV]
inductive SO where
 |lst (us:List U)|eL (kvs:List (U×U))|ins (c:String) (fs:List (String×U))
 |uY (kvs:List (U×U))|t8 (kvs:List (List Int×U))|wX (kvs:List ((Int×List Int)×U))
structure Xn where
 c:String
 us:List U
abbrev Env:=List (Option U)
abbrev bj:=List SO
abbrev KU:=U->bj->Prop
abbrev KX:=Xn->bj->Prop
abbrev Spec:=List U->bj->KU->KX->Prop
abbrev bT:=String->Spec
inductive t9 where|add|sub|mul|fdiv|mod|band|bor|shl|shr
inductive Gh where|eq|ne|lt|le|gt|ge|isin|nA|Ke|Ca|Cb
inductive RA where|len|tuple|list|sum|all|any|int|dict|uZ|max
inductive Lp where|join|index|startswith|append|extend|get|mN|nK|vals
mutual
inductive Ex where
 |var (i:Nat)|lit (u:U)
 |bin (o:t9) (a b:Ex)|neg (a:Ex)|not (a:Ex)|and (a b:Ex)|or (a b:Ex)
 |cmp (o:Gh) (a b:Ex)|Cc (c:Tx) (a b:Ex)
 |call (f:String) (as:tw)|mk (c q:String) (as:tw)|cK (c m q:String) (o:Ex) (as:tw)
 |blt (f:RA) (as:tw)|jB (m:Lp) (o:Ex) (as:tw)
 |fld (o:Ex) (f:String)|ix (o i:Ex)|sl (o:Ex) (lo hi:Ox)
 |tup (as:tw)|lst (as:tw)|eL (ks vs:tw)
 |comp (pr:Bool) (e:Ex) (it:It) (c:Tx) (ci:List Nat)
 |Lq (o k:Ex)
inductive tw where|nil|cons (e:Ex) (es:tw)
inductive It where|val (e:Ex)|range (e:Ex)|enum (e:Ex)|keys (e:Ex)
inductive Ox where|no|e (a:Ex)
inductive Tx where|de (e:Ex)|not (t:Tx)|and (a b:Tx)|or (a b:Tx)
end
inductive Tg where|name (i:Nat)|pair (i j:Nat)
set_option genInjectivity false in
mutual
inductive Sm where
 |set (i:Nat) (e:Ex)|mO (o:Ex) (f:String) (e:Ex)|nK (o k e:Ex)
 |aug (i:Nat) (p:t9) (e:Ex)|Cd (o:Ex) (f:String) (p:t9) (e:Ex)|E9 (o i:Ex) (p:t9) (e:Ex)
 |ex (e:Ex)|ret (e:Ex)|ifs (c:Tx) (a b:dm)|Ce (c:Tx) (b:dm)|gU (t:Tg) (it:It) (b:dm)
 |RB (b:dm)
inductive dm where|nil|cons (s:Sm) (ss:dm)
end
section
variable{α:Type}
def opt(o:Option α)(Q:α->Prop):Prop:=match o with|some a=>Q a|none=>False
def yu(o:Option (Option U))(Q:U->Prop):Prop:=match o with|some (some u)=>Q u|_=>False
def getL(o:Option SO)(Q:List U->Prop):Prop:=match o with|some (.lst us)=>Q us|_=>False
def getD(o:Option SO)(Q:List (U×U)->Prop):Prop:=match o with|some (.eL kvs)=>Q kvs|_=>False
def qg(o:Option SO)(Q:String->List (String×U)->Prop):Prop:=match o with|some (.ins c fs)=>Q c fs|_=>False
def Np(x:U)(Q:Bool->Prop):Prop:=match x with|.bl b=>Q b|_=>False
def lS(x:U)(Q:Int->Prop):Prop:=match x with|.int i=>Q i|_=>False
def ua(x:U)(Q:Nat->Prop):Prop:=match x with|.loc n=>Q n|_=>False
def Nq(x:U)(Q:U->U->Prop):Prop:=match x with|.tup [a,b]=>Q a b|_=>False
@[simp] theorem bp{a:α}{Q:α->Prop}:opt (some a) Q=Q a:=rfl
@[simp] theorem Ti{Q:α->Prop}:opt none Q=False:=rfl
@[simp] theorem wY{u:U}{Q:U->Prop}:yu (some (some u)) Q=Q u:=rfl
@[simp] theorem aD{us:List U}{Q:List U->Prop}:getL (some (.lst us)) Q=Q us:=rfl
@[simp] theorem getD_some{us:List (U×U)}{Q:List (U×U)->Prop}:getD (some (.eL us)) Q=Q us:=rfl
@[simp] theorem bL{c:String}{fs:List (String×U)}{Q:String->List (String×U)->Prop}:qg (some (.ins c fs)) Q=Q c fs:=rfl
@[simp] theorem Hy{b:Bool}{Q:Bool->Prop}:Np (.bl b) Q=Q b:=rfl
@[simp] theorem Lr{i:Int}{Q:Int->Prop}:lS (.int i) Q=Q i:=rfl
@[simp] theorem VW{n:Nat}{Q:Nat->Prop}:ua (.loc n) Q=Q n:=rfl
@[simp] theorem Lu{a b:U}{Q:U->U->Prop}:Nq (.tup [a,b]) Q=Q a b:=rfl
theorem i9{o:Option α}{Q:α->Prop}:opt o Q↔∃a,o=some a/\Q a:=by cases o<;>simp[opt]
theorem Ap{o:Option (Option U)}{Q:U->Prop}:yu o Q↔∃a,o=some (some a)/\Q a:=by
 rcases o with _|_|a<;>simp[yu]
theorem df{o:Option SO}{Q:List U->Prop}:getL o Q↔∃a,o=some (.lst a)/\Q a:=
 #[λw=>by rcases o with _|a|a|a|a|a|a<;>first|exact#[_,rfl,w]|exact aL w,by rintro⟨b,rfl,w⟩;exact w]
theorem Aq{o:Option SO}{Q:List (U×U)->Prop}:getD o Q↔∃a,o=some (.eL a)/\Q a:=
 #[λw=>by rcases o with _|a|a|a|a|a|a<;>first|exact#[_,rfl,w]|exact aL w,by rintro⟨b,rfl,w⟩;exact w]
theorem mf{o:Option SO}{Q:String->List (String×U)->Prop}:qg o Q↔∃c fs,o=some (.ins c fs)/\Q c fs:=
 #[λw=>by rcases o with _|a|a|a|a|a|a<;>first|exact#[_,_,rfl,w]|exact aL w,by rintro⟨b,c,rfl,w⟩;exact w]
theorem yw{x:U}{Q:Bool->Prop}:Np x Q↔∃b,x=.bl b/\Q b:=#[λw=>by cases x<;>first|exact#[_,rfl,w]|exact aL w,by rintro⟨b,rfl,w⟩;exact w]
theorem fu{x:U}{Q:Int->Prop}:lS x Q↔∃b,x=.int b/\Q b:=#[λw=>by cases x<;>first|exact#[_,rfl,w]|exact aL w,by rintro⟨b,rfl,w⟩;exact w]
theorem ja{x:U}{Q:Nat->Prop}:ua x Q↔∃b,x=.loc b/\Q b:=#[λw=>by cases x<;>first|exact#[_,rfl,w]|exact aL w,by rintro⟨b,rfl,w⟩;exact w]
theorem Dz{x:U}{Q:U->U->Prop}:Nq x Q↔∃a b,x=.tup [a,b]/\Q a b:=by
 refine#[λw=>?_,by rintro⟨a,b,rfl,w⟩;exact w];cases x<;>first|exact aL w|skip
 rename_i us;rcases us with _|⟨a,_|⟨b,_|_⟩⟩<;>first|exact aL w|exact#[_,_,rfl,w]
end
def iU(o:Option SO)(Q:List (U×U)->Prop):Prop:=match o with|some (.eL kvs)=>Q kvs|some (.uY kvs)=>Q kvs|_=>False
theorem kJ{us:List (U×U)}{Q:List (U×U)->Prop}:iU (some (.eL us)) Q=Q us:=rfl
theorem iV{o:Option SO}{Q:List (U×U)->Prop}:iU o Q↔∃a,(o=some (.eL a)\/o=some (.uY a))/\Q a:=
 #[λw=>by rcases o with _|a|a|a|a|a|a<;>first|exact#[_,.inl rfl,w]|exact#[_,.inr rfl,w]|exact aL w,by rintro⟨b,rfl|rfl,w⟩<;>exact w]
noncomputable def mP:U->Bool
 |.bV=>true|.int _=>true|.str _=>true
 |_=>false
noncomputable def RC:U->U->Bool
 |.bV,.bV=>true
 |.int a,.int b=>a==b
 |.str a,.str b=>a==b
 |_,_=>false
noncomputable def u5(k:U):List (U×U)->Option U
 |[]=>none
 | (a,v)::r=>if RC a k=true then some v else u5 k r
mutual
noncomputable def wZ:U->Bool
 |.bV=>true|.bl _=>true|.int _=>true|.str _=>true
 |.tup us=>k9 us
 |_=>false
noncomputable def k9:List U->Bool
 |[]=>true
 |u::us=>wZ u&&k9 us
end
mutual
noncomputable def dep:U->Nat
 |.tup us=>nM us+1
 |_=>0
noncomputable def nM:List U->Nat
 |[]=>0
 |u::us=>max (dep u) (nM us)
end
mutual
noncomputable def oX:U->U->Bool
 |.bV,.bV=>true
 |.bl a,.bl b=>a==b
 |.bl a,.int b=>(if a then 1 else 0)== b
 |.int a,.bl b=>a==(if b then 1 else 0)
 |.int a,.int b=>a==b
 |.str a,.str b=>a==b
 |.tup as,.tup bs=>v8 as bs
 |_,_=>false
noncomputable def v8:List U->List U->Bool
 |[],[]=>true
 |x::xs,y::ys=>oX x y&&v8 xs ys
 |_,_=>false
end
noncomputable def Hz:U->U->Bool
 |.tup _,_=>true
 |.bV,.bV=>true|.bV,.int _=>true|.bV,.bl _=>true|.bV,.str _=>true
 |.int _,.bV=>true|.int _,.int _=>true|.int _,.str _=>true
 |.bl _,.bV=>true|.bl _,.bl _=>true|.bl _,.str _=>true
 |.str _,.bV=>true|.str _,.int _=>true|.str _,.bl _=>true|.str _,.str _=>true
 |_,_=>false
def u6(x y:U)(Q:Bool->Prop):Prop:=(Hz x y=true/\wZ x=true/\wZ y=true/\dep x<=100)/\Q (oX x y)
noncomputable def HA:U->Bool
 |.tup _=>false
 |_=>true
noncomputable def Ar:U->U->Bool
 |.tup _,.tup _=>true
 |.tup _,_=>false
 |_,_=>true
noncomputable def flat:U->Bool
 |.bV=>true|.bl _=>true|.int _=>true|.str _=>true
 |_=>false
def qT(x:U)(us:List U)(Q:Bool->Prop):Prop:=(flat x=true/\us.all flat=true)/\Q (us.any λy=>oX y x)
noncomputable def iP:List Nat->List Nat->Bool
 |a,[]=>a.isEmpty
 |a,b::bs=>a.isPrefixOf (b::bs)||iP a bs
noncomputable def mh(S:bj):U->Option Nat
 |.str l=>some l.length
 |.tup us=>some us.length
 |.sj ns=>some ns.length
 |.loc n=>match S[n]? with
  |some (.lst us)=>some us.length
  |some (.eL kvs)=>some kvs.length
  |some (.wX kvs)=>some kvs.length
  |_=>none
 |_=>none
noncomputable def u7(S:bj):U->Option Bool
 |.bV=>some false
 |.bl b=>some b
 |.int i=>some (i !=0)
 |.str _=>none
 |.loc n=>match S[n]? with
  |some (.wX _)=>none
  |_=>(mh S (.loc n)).map λn=>n !=0
 |u=>(mh S u).map λn=>n !=0
noncomputable def OZ(n:Nat)(i:Int):Option Nat:=if 0<=i then(if i<n then some i.toNat else none) else if -(n:Int)<=i then some (i+n).toNat else none
noncomputable def sk{α:Type}(xs:List α)(i:Int):Option α:=(OZ xs.length i).bind λj=>xs[j]?
noncomputable def qh{α:Type}(xs:List α)(lo hi:Option Int):List α:=(xs.drop (min (lo.getD 0).toNat xs.length)).take (min (hi.getD xs.length).toNat xs.length-min (lo.getD 0).toNat xs.length)
def Nr(x:U)(Q:List Nat->Prop):Prop:=match x with|.str a=>Q a|_=>False
def VX(x:U)(Q:Prop):Prop:=match x with|.bV=>Q|_=>False
def YL(x:U)(Q:List U->Prop):Prop:=match x with|.tup a=>Q a|_=>False
theorem oY{x:U}{Q:List Nat->Prop}:Nr x Q↔∃b,x=.str b/\Q b:=#[λw=>by cases x<;>first|exact#[_,rfl,w]|exact aL w,by rintro⟨b,rfl,w⟩;exact w]
theorem Lv{x:U}{Q:List U->Prop}:YL x Q↔∃b,x=.tup b/\Q b:=#[λw=>by cases x<;>first|exact#[_,rfl,w]|exact aL w,by rintro⟨b,rfl,w⟩;exact w]
theorem kN{x y:U}{P:Int->Int->Prop}(w:lS x λi=>lS y (P i)):∃i j,x=.int i/\y=.int j/\P i j:=by
 let#[i,e,w]:=fu.mp w;let#[j,e',w]:=fu.mp w;exact#[i,j,e,e',w]
def kh(o:t9)(x y:U)(S:bj)(Q:KU):Prop:=
 match o with
 |.add=>match x with
  |.int i=>lS y λj=>Q (.int (i+j)) S
  |.str a=>Nr y λb=>a.length+b.length<=1000000/\Q (.str (a++b)) S
  |.tup a=>YL y λb=>a.length+b.length<=1000000/\Q (.tup (a++b)) S
  |.loc m=>ua y λn=>getL S[m]? λa=>getL S[n]? λb=>a.length+b.length<=1000000/\Q (.loc S.length) (S++[.lst (a++b)])
  |_=>False
 |.sub=>lS x λi=>lS y λj=>Q (.int (i-j)) S
 |.mul=>match x with
  |.int i=>lS y λj=>((-(2^64)<i/\i<2^64)\/(-(2^64)<j/\j<2^64))/\Q (.int (i*j)) S
  |.str a=>lS y λj=>∃c,a=[c]/\0<=j/\j<=1000/\Q (.str (dH j.toNat c)) S
  |_=>False
 |.fdiv=>lS x λi=>lS y λj=>(0<j/\j<1073741824)/\Q (.int (i/j)) S
 |.mod=>lS x λi=>lS y λj=>0<j/\Q (.int (i%j)) S
 |.band=>lS x λi=>lS y λj=>(0<=i/\0<=j)/\Q (.int ((i.toNat&&&j.toNat:Nat):Int)) S
 |.bor=>lS x λi=>lS y λj=>(0<=i/\0<=j)/\Q (.int ((i.toNat|||j.toNat:Nat):Int)) S
 |.shl=>lS x λi=>lS y λj=>(0<=i/\i<1000/\0<=j/\j<=1000)/\Q (.int (i*2^j.toNat)) S
 |.shr=>lS x λi=>lS y λj=>(0<=i/\0<=j)/\Q (.int (i/2^j.toNat)) S
def yx(o:t9)(x y:U)(S:bj)(Q:KU):Prop:=
 match x with
 |.int i=>kh o (.int i) y S Q
 |.str a=>kh o (.str a) y S Q
 |_=>False
noncomputable def oB(x:U):Bool:=match x with|.bV=>true|_=>false
def VY(x y:U)(Q:Bool->Prop):Prop:=Ar x y=true/\u6 x y λb=>Q !b
def Xc(x:U)(us:List U)(Q:Bool->Prop):Prop:=match x with
 |.tup xs=>(k9 xs=true/\k9 us=true/\nM us<=100)/\Q !(us.any λy=>oX y (.tup xs))
 |x=>qT x us λb=>Q !b
def i0(o:Gh)(x y:U)(S:bj)(Q:Bool->Prop):Prop:=
 match o with
 |.eq=>u6 x y Q
 |.ne=>VY x y Q
 |.lt=>lS x λi=>lS y λj=>Q (decide (i<j))
 |.le=>lS x λi=>lS y λj=>Q (decide (i<=j))
 |.gt=>lS x λi=>lS y λj=>Q (decide (j<i))
 |.ge=>lS x λi=>lS y λj=>Q (decide (j<=i))
 |.isin=>match y with
  |.str b=>Nr x λa=>Q (iP a b)
  |.tab kvs=>Nr x λa=>Q (kvs.lookup a).isSome
  |.tup us=>qT x us Q
  |.loc n=>getL S[n]? λus=>qT x us Q
  |_=>False
 |.nA=>match y with
  |.str b=>Nr x λa=>Q !(iP a b)
  |.tup us=>qT x us λb=>Q !b
  |.loc n=>getL S[n]? λus=>Xc x us Q
  |_=>False
 |.Ke=>VX y (Q (oB x))
 |.Ca=>VX y (Q !(oB x))
 |.Cb=>ua y λn=>iU S[n]? λkvs=>mP x=true/\Q (u5 x kvs).isNone
def Kf(x y:U)(S:bj)(Q:U->Prop):Prop:=
 match x with
 |.str l=>lS y λi=>l.length<=1000000/\opt (sk l i) λc=>Q (.str [c])
 |.tup us=>lS y λi=>us.length<=1000000/\opt (sk us i) Q
 |.sj ns=>lS y λi=>ns.length<=1000000/\opt (sk ns i) λn=>Q (.int n)
 |.loc n=>lS y λi=>getL S[n]? λus=>opt (sk us i) Q
 |.tab kvs=>Nr y λk=>opt (kvs.lookup k) λv=>Q (.str v)
 |_=>False
def O0(x y:U)(S:bj)(Q:U->Prop):Prop:=ua x λn=>iU S[n]? λkvs=>mP y=true/\opt (u5 y kvs) Q
def Nt(x:U)(lo hi:Option Int)(S:bj)(Q:KU):Prop:=
 ((∀i,lo=some i->0<=i)/\∀i,hi=some i->0<=i)/\match x with
 |.str l=>l.length<=1000000/\Q (.str (qh l lo hi)) S
 |.tup us=>(us.length<=1000000/\us≠[]/\0<lo.getD 0)/\Q (.tup (qh us lo hi)) S
 |.loc n=>getL S[n]? λus=>Q (.loc S.length) (S++[.lst (qh us lo hi)])
 |_=>False
noncomputable def lz(sep:List Nat):List (List Nat)->List Nat
 |[]=>[]
 |[x]=>x
 |x::r=>x++sep++lz sep r
noncomputable def tB(n:Nat):Nat:=if n=0 then 0 else n.log2+1
def so(f:RA)(us:List U)(S:bj)(Q:KU):Prop:=
 match f,us with
 |.len,[x]=>opt (mh S x) λn=>n<=1000000/\Q (.int n) S
 |.tuple,[.loc n]=>getL S[n]? λus=>Q (.tup us) S
 |.list,[.loc n]=>getL S[n]? λus=>Q (.loc S.length) (S++[.lst us])
 |.list,[.tup us]=>us.length<=1000000/\Q (.loc S.length) (S++[.lst us])
 |.all,[.loc n]=>∃bs:List Bool,S[n]?=some (.lst (bs.map .bl))/\Q (.bl (bs.all id)) S
 |.any,[.loc n]=>∃bs:List Bool,S[n]?=some (.lst (bs.map .bl))/\Q (.bl (bs.any id)) S
 |.sum,[.loc n]=>∃is:List Int,S[n]?=some (.lst (is.map .int))/\Q (.int is.sum) S
 |.dict,[.loc n]=>∃ps:List (List Nat×U),S[n]?=some (.lst (ps.map λp=>.tup [.str p.1,p.2]))/\(ps.map (·.1)).Nodup/\Q (.loc S.length) (S++[.eL (ps.map λp=>(.str p.1,p.2))])
 |.max,[.loc n]=>∃(i:Int)(is:List Int),S[n]?=some (.lst ((i::is).map .int))/\∀m∈i::is,(∀j∈i::is,j<=m)->Q (.int m) S
 |.uZ,[.loc n]=>∃t ts,S[n]?=some (.lst ((t::ts).map .str))/\(∀u∈t::ts,u.length<=1000000)/\Q (.str (ts.foldl (λb x=>if x.length<b.length then x else b) t)) S
 |_,_=>False
def YM{κ:Type}[BEq κ](kvs:List (κ×U))(k:κ)(f:List (κ×U)->SO)(S:bj)(n:Nat)(d:U)(Q:KU):Prop:=
 kvs.length<1000000/\match kvs.lookup k with
  |some v=>Q v S
  |none=>Q d (S.set n (f (kvs++[(k,d)])))
def pR(S:bj)(n:Nat)(k d:U)(Q:KU):Prop:=
 match S[n]? with
 |some (.eL kvs)=>(mP k=true/\kvs.length<1000000)/\match u5 k kvs with
  |some v=>Q v S
  |none=>Q d (S.set n (.eL (kvs++[(k,d)])))
 |some (.t8 kvs)=>∃ks,k=.tup (ks.map .int)/\YM kvs ks .t8 S n d Q
 |some (.wX kvs)=>∃b ks,k=.tup [.int b,.tup (ks.map .int)]/\YM kvs (b,ks) .wX S n d Q
 |_=>False
def qU(m:Lp)(x:U)(us:List U)(S:bj)(Q:KU):Prop:=
 match m,x,us with
 |.join,.str sep,[.loc n]=>∃ts:List (List Nat),S[n]?=some (.lst (ts.map .str))/\(ts.map cD).sum+ts.length*sep.length<=1000000/\Q (.str (lz sep ts)) S
 |.index,.str l,[.str k]=>∃c,k=[c]/\c∈l/\Q (.int (l.idxOf c:Nat)) S
 |.startswith,.str l,[.str k]=>Q (.bl (k.isPrefixOf l)) S
 |.mN,.int i,[]=>0<=i/\Q (.int (tB i.toNat:Nat)) S
 |.get,.loc n,[.str k,d]=>getD S[n]? λkvs=>∃ps:List (List Nat×U),kvs=(ps.map λp=>(U.str p.1,p.2))/\Q ((ps.lookup k).getD d) S
 |.get,.loc n,[k]=>iU S[n]? λkvs=>mP k=true/\Q ((u5 k kvs).getD .bV) S
 |.nK,.loc n,[k,d]=>pR S n k d Q
 |.vals,.loc n,[]=>match S[n]? with
  |some (.t8 kvs)=>Q (.loc S.length) (S++[.lst (kvs.map (·.2))])
  |_=>False
 |.append,.loc n,[u]=>getL S[n]? λus=>us.length<1000000/\Q .bV (S.set n (.lst (us++[u])))
 |.extend,.loc n,[.loc m]=>getL S[n]? λus=>getL S[m]? λws=>us.length+ws.length<=1000000/\Q .bV (S.set n (.lst (us++ws)))
 |_,_,_=>False
def tR(m:Lp)(x:U)(S:bj):Prop:=
 match m,x with
 |.join,.str _=>True|.index,.str _=>True|.startswith,.str _=>True
 |.append,.loc n=>getL S[n]? λ_=>True
 |.extend,.loc n=>getL S[n]? λ_=>True
 |.get,.loc n=>iU S[n]? λ_=>True
 |.nK,.loc n=>match S[n]? with|some (.eL _)=>True|some (.t8 _)=>True|some (.wX _)=>True|_=>False
 |.vals,.loc n=>match S[n]? with|some (.t8 _)=>True|_=>False
 |.mN,.int _=>True
 |_,_=>False
noncomputable def gV(f:String)(v:U):List (String×U)->List (String×U)
 |[]=>[(f,v)]
 | (g,x)::r=>if g=f then(g,v)::r else(g,x)::gV f v r
def nN(x:U)(f:String)(S:bj)(Q:U->Prop):Prop:=
 match x with
 |.loc n=>qg S[n]? λ_ fs=>opt (fs.lookup f) Q
 |_=>False
def u9(g:bj->Prop)(turn:U->Env->bj->(Env->bj->Prop)->Prop)(fin:Env->bj->Prop):List U->Env->bj->Prop
 |[],env,S=>g S/\fin env S
 |u::us,env,S=>g S/\turn u env S (u9 g turn fin us)
def nB(g:bj->Prop)(c:U->bj->(Bool->bj->Prop)->Prop)(e:U->bj->KU->Prop)(Q:List U->bj->Prop):List U->List U->bj->Prop
 |[],acc,S=>g S/\acc.length<1000000/\Q acc S
 |u::us,acc,S=>g S/\acc.length<1000000/\c u S λb S1=>if b=true then e u S1 λv S2=>nB g c e Q us (acc++[v]) S2 else nB g c e Q us acc S1
def yy(c:Env->bj->(Bool->bj->Prop)->Prop)(b:Env->bj->(Env->bj->Prop)->Prop)(fin:Env->bj->Prop):Nat->Env->bj->Prop
 |0,_,_=>False
 |n+1,env,S=>c env S λt S1=>if t=true then b env S1 (yy c b fin n) else fin env S1
def HB(x:U)(S:bj)(R:List U->(bj->Prop)->Prop):Prop:=
 match x with
 |.str l=>R (l.map λc=>.str [c]) (λ_=>True)
 |.tup us=>us.length<=1000000/\R us (λ_=>True)
 |.loc n=>getL S[n]? λus=>R us (λS'=>S'[n]?=some (.lst us))
 |_=>False
noncomputable def mi(env:Env)(ci:List Nat):Env:=ci.map λj=>(env[j]?).join
def pS(pr:Bool)(u:U)(caps:Env)(k:Env->Prop):Prop:=
 match pr with
 |false=>k (some u::caps)
 |true=>Nq u λa b=>k (some a::some b::caps)
mutual
noncomputable def WE(Γ:bT):Ex->Env->bj->KU->KX->Prop
 |.var i,env,S,Q,_=>yu env[i]? λu=>Q u S
 |.lit u,_,S,Q,_=>Q u S
 |.bin o a b,env,S,Q,E=>WE Γ a env S (λx S1=>WE Γ b env S1 (λy S2=>kh o x y S2 Q) E) E
 |.neg a,env,S,Q,E=>WE Γ a env S (λx S1=>lS x λi=>Q (.int (-i)) S1) E
 |.not a,env,S,Q,E=>WE Γ a env S (λx S1=>Np x λb=>Q (.bl !b) S1) E
 |.and a b,env,S,Q,E=>WE Γ a env S (λx S1=>Np x λc=>if c=true then WE Γ b env S1 Q E else Q (.bl false) S1) E
 |.or a b,env,S,Q,E=>WE Γ a env S (λx S1=>Np x λc=>if c=true then Q (.bl true) S1 else WE Γ b env S1 Q E) E
 |.cmp o a b,env,S,Q,E=>WE Γ a env S (λx S1=>WE Γ b env S1 (λy S2=>i0 o x y S2 λr=>Q (.bl r) S2) E) E
 |.Cc c a b,env,S,Q,E=>WT Γ c env S (λt S1=>if t=true then WE Γ a env S1 Q E else WE Γ b env S1 Q E) E
 |.call f as,env,S,Q,E=>v9 Γ as env S (λus S1=>Γ f us S1 Q E) E
 |.mk c q as,env,S,Q,E=>v9 Γ as env S (λus S1=>Γ q (.loc S1.length::us) (S1++[.ins c []]) (λv S2=>v=.bV/\Q (.loc S1.length) S2) E) E
 |.cK c m q o as,env,S,Q,E=>WE Γ o env S (λx S1=>ua x λn=>qg S1[n]? λc' fs=>(c'=c/\fs.lookup m=none)/\v9 Γ as env S1 (λus S2=>Γ q (x::us) S2 Q E) E) E
 |.blt f as,env,S,Q,E=>v9 Γ as env S (λus S1=>so f us S1 Q) E
 |.jB m o as,env,S,Q,E=>WE Γ o env S (λx S1=>tR m x S1/\v9 Γ as env S1 (λus S2=>qU m x us S2 Q) E) E
 |.fld o f,env,S,Q,E=>WE Γ o env S (λx S1=>nN x f S1 λv=>Q v S1) E
 |.ix o i,env,S,Q,E=>WE Γ o env S (λx S1=>WE Γ i env S1 (λy S2=>Kf x y S2 λv=>Q v S2) E) E
 |.sl o lo hi,env,S,Q,E=>WE Γ o env S (λx S1=>WO Γ lo env S1 (λl S2=>WO Γ hi env S2 (λh S3=>Nt x l h S3 Q) E) E) E
 |.tup as,env,S,Q,E=>v9 Γ as env S (λus S1=>us.length<=1000000/\Q (.tup us) S1) E
 |.lst as,env,S,Q,E=>v9 Γ as env S (λus S1=>us.length<=1000000/\Q (.loc S1.length) (S1++[.lst us])) E
 |.eL ks vs,env,S,Q,E=>v9 Γ ks env S (λus S1=>v9 Γ vs env S1 (λws S2=>us.length<=100/\match us with
   |[]=>Q (.loc S2.length) (S2++[.eL []])\/Q (.loc S2.length) (S2++[.t8 []])\/Q (.loc S2.length) (S2++[.wX []])
   |[k]=>mP k=true/\∃v,ws=[v]/\Q (.loc S2.length) (S2++[.eL [(k,v)]])
   |_=>False) E) E
 |.comp pr e it c ci,env,S,Q,E=>WI Γ it env S (λus g S1=>nB g (λu S2 k=>pS pr u (mi env ci) λen=>WT Γ c en S2 k λ_ _=>False)
   (λu S2 k=>pS pr u (mi env ci) λen=>WE Γ e en S2 k λ_ _=>False) (λacc S3=>Q (.loc S3.length) (S3++[.lst acc])) us [] S1) E
 |.Lq o k,env,S,Q,E=>WE Γ o env S (λx S1=>WE Γ k env S1 (λy S2=>O0 x y S2 λv=>Q v S2) E) E
noncomputable def v9(Γ:bT):tw->Env->bj->(List U->bj->Prop)->KX->Prop
 |.nil,_,S,Q,_=>Q [] S
 |.cons e es,env,S,Q,E=>WE Γ e env S (λx S1=>v9 Γ es env S1 (λxs S2=>Q (x::xs) S2) E) E
noncomputable def WO(Γ:bT):Ox->Env->bj->(Option Int->bj->Prop)->KX->Prop
 |.no,_,S,Q,_=>Q none S
 |.e a,env,S,Q,E=>WE Γ a env S (λx S1=>lS x λj=>Q (some j) S1) E
noncomputable def WI(Γ:bT):It->Env->bj->(List U->(bj->Prop)->bj->Prop)->KX->Prop
 |.val e,env,S,R,E=>WE Γ e env S (λx S1=>HB x S1 λus g=>R us g S1) E
 |.range e,env,S,R,E=>WE Γ e env S (λx S1=>lS x λn=>n<=1000000/\-(1000000:Int)<=n/\R ((cf n.toNat).map λk=>.int (k:Nat)) (λ_=>True) S1) E
 |.enum e,env,S,R,E=>WE Γ e env S (λx S1=>ua x λn=>getL S1[n]? λus=>R (us.mapIdx λi u=>.tup [.int (i:Nat),u]) (λS'=>S'[n]?=some (.lst us)) S1) E
 |.keys e,env,S,R,E=>WE Γ e env S (λx S1=>ua x λn=>iU S1[n]? λkvs=>R (kvs.map (·.1)) (λS'=>S'[n]?=some (.uY kvs)) (S1.set n (.uY kvs))) E
noncomputable def WT(Γ:bT):Tx->Env->bj->(Bool->bj->Prop)->KX->Prop
 |.de e,env,S,Q,E=>WE Γ e env S (λx S1=>opt (u7 S1 x) λb=>Q b S1) E
 |.not t,env,S,Q,E=>WT Γ t env S (λb S1=>Q (!b) S1) E
 |.and a b,env,S,Q,E=>WT Γ a env S (λc S1=>if c=true then WT Γ b env S1 Q E else Q false S1) E
 |.or a b,env,S,Q,E=>WT Γ a env S (λc S1=>if c=true then Q true S1 else WT Γ b env S1 Q E) E
end
structure Ends where
 nx:Env->bj->Prop
 rt:KU
 ex:Env->KX
mutual
noncomputable def WS(Γ:bT):Sm->Ends->Env->bj->Prop
 |.set i e,D,env,S=>WE Γ e env S (λu S1=>D.nx (env.set i (some u)) S1) (D.ex env)
 |.mO o f e,D,env,S=>WE Γ e env S (λu S1=>WE Γ o env S1 (λx S2=>ua x λn=>qg S2[n]? λc fs=>fs.length<100/\D.nx env (S2.set n (.ins c (gV f u fs)))) (D.ex env)) (D.ex env)
 |.nK o k e,D,env,S=>WE Γ e env S (λu S1=>WE Γ o env S1 (λx S2=>WE Γ k env S2 (λy S3=>ua x λn=>getD S3[n]? λkvs=>(mP y=true/\u5 y kvs=none/\kvs.length<1000000)/\D.nx env (S3.set n (.eL (kvs++[(y,u)])))) (D.ex env)) (D.ex env)) (D.ex env)
 |.aug i p e,D,env,S=>yu env[i]? λx=>WE Γ e env S (λy S1=>yx p x y S1 λz S2=>D.nx (env.set i (some z)) S2) (D.ex env)
 |.Cd o f p e,D,env,S=>WE Γ o env S (λx S1=>ua x λn=>qg S1[n]? λc fs=>opt (fs.lookup f) λv=>
   WE Γ e env S1 (λy S2=>yx p v y S2 λz S3=>qg S3[n]? λc' fs'=>c'=c/\fs'.length<100/\D.nx env (S3.set n (.ins c (gV f z fs')))) (D.ex env)) (D.ex env)
 |.E9 o i p e,D,env,S=>WE Γ o env S (λx S1=>WE Γ i env S1 (λy S2=>ua x λn=>lS y λk=>getL S2[n]? λus=>0<=k/\opt (us[k.toNat]?) λv=>
   WE Γ e env S2 (λz S3=>yx p v z S3 λr S4=>getL S4[n]? λus'=>k.toNat<us'.length/\D.nx env (S4.set n (.lst (us'.set k.toNat r)))) (D.ex env)) (D.ex env)) (D.ex env)
 |.ex e,D,env,S=>WE Γ e env S (λ_ S1=>D.nx env S1) (D.ex env)
 |.ret e,D,env,S=>WE Γ e env S D.rt (D.ex env)
 |.ifs c a b,D,env,S=>WT Γ c env S (λt S1=>if t=true then tU Γ a D env S1 else tU Γ b D env S1) (D.ex env)
 |.Ce c b,D,env,S=>∃n,yy (λen S1 k=>WT Γ c en S1 k (D.ex en)) (λen S1 k=>tU Γ b {D with nx:=k} en S1) D.nx n env S
 |.gU t it b,D,env,S=>WI Γ it env S (λus g S1=>u9 g (λu en S2 k=>match t with
   |.name i=>tU Γ b {D with nx:=k} (en.set i (some u)) S2
   |.pair i j=>Nq u λx y=>tU Γ b {D with nx:=k} ((en.set i (some x)).set j (some y)) S2) D.nx us env S1) (D.ex env)
 |.RB b,D,env,S=>tU Γ b {D with ex:=λ_ _ _=>False} env S
noncomputable def tU(Γ:bT):dm->Ends->Env->bj->Prop
 |.nil,D,env,S=>D.nx env S
 |.cons s ss,D,env,S=>WS Γ s {D with nx:=λen S1=>tU Γ ss D en S1} env S
end
end PL
namespace L2
open PySem PySem.Spec PyProof.Rows PySem.W
open Builtin Builtin.Str
theorem DA{a:List Nat}:∀{b:List Nat},PL.iP a b=true↔∃i,i+a.length<=b.length/\(b.drop i).take a.length=a
 |[]=>by
  unfold PL.iP;rw[List.isEmpty_iff]
  constructor
  .rintro rfl;exact#[0,ar _,rfl]
  .rintro⟨i,h,_⟩
   erw[fV (by have h:i+a.length<=0:=h;omega)]
 |x::b=>by
  unfold PL.iP;rw[bu,DA (b:=b),wB]
  constructor
  .rintro(h|⟨i,h1,h2⟩)
   .refine#[0,by have:=h.length_le;omega,?_]
    rw[jv];exact(nk.mp h).symm
   .exact#[i+1,by simp;omega,by rw[ED];erw[h2]]
  .rintro⟨i,h1,h2⟩
   cases i with
   |zero=>rw[jv] at h2;erw[.inl (nk.mpr h2.symm)]
   |succ i=>rw[ED] at h2;exact .inr #[i,by simp at h1;omega,h2]
theorem As(a b:List Nat):(!(occurrences (tx b) (tx a) 0 (tx b).length 1).isEmpty)=PL.iP a b:=by
 rw[dy,StrLaws.found_iff,DA]
 rwa[exists_congr λi=>?_]
 rw[dv,dv]
 rwa[and_congr_right λh=>?_]
 rw[StrLaws.subAt_eq,beq_iff_eq]
 simp[dv]
section
variable{X:Cx}
theorem Fc:gM X (bD .In) (λx y H Q=>∃a b,x=.str (tx a)/\y=.str (tx b)/\Q (.bl (PL.iP a b)) H):=by
 x_go;let#[a,b,rfl,rfl,q]:=h;rwa[ET pZ s σ H _ _ v u Q I rx ry #[tx a,tx b,rfl,rfl,?_]];rw[As]
 erw[q]
theorem yz:gM X (bD .NotIn) (λx y H Q=>∃a b,x=.str (tx a)/\y=.str (tx b)/\Q (.bl (!PL.iP a b)) H):=by
 x_go;let#[a,b,rfl,rfl,q]:=h;rwa[yk pZ s σ H _ _ v u Q I rx ry #[tx a,tx b,rfl,rfl,?_]];rw[As]
 erw[q]
theorem xc:BX X "str.startswith" (λx xs H Q=>∃a b,x=.str (tx a)/\xs=[.str (tx b)]/\Q (.bl (b.isPrefixOf a)) H):=by
 intro pZ s σ H x xs v us Q I rx rs h;let#[a,b,rfl,rfl,q]:=h;let#[t,rfl]:=rx;let#[u,rfl,t',rfl]:=vals1 rs;rwa[SC.startswith #[.bl _,H,I,?_,q]];show j7 (Txt.startswith (tx a) (tx b))=j7 (b.isPrefixOf a)
 congr 1
 unfold Txt.startswith;rw[dy,aj,decide_eq_true_eq,StrLaws.subAt_eq,beq_iff_eq,wB,nk,dv,dv]
 dsimp[jv,dv,oo];constructor
 .rintro⟨_,h⟩;erw[h.symm]
 .intro h
  refine#[?_,h.symm];have:=congrArg cD h;simp at this;omega
theorem va:∀{bs:List Bool}{us:List Value},Vals (bs.map V.bl) us->us=bs.map j7
 |[],_,.nil=>rfl
 |b::bs,_,.cons r h=>by
  cases r;rw[va h];rfl
theorem Cf(hc:X.calm=true):iA X (.builtin "all") (λxs H Q=>∃p,∃bs:List Bool,xs=[.ref p]/\iT X.K H p (bs.map V.bl)/\Q (.bl (bs.all id)) H):=by
 k_ne;let#[p,bs,rfl,hl,q]:=h;let#[u,rfl,ru]:=vals1 r;cases ru;let#[its,r,pl,_]:=I.list hl;have hl:=pl.isList;have hits:=va r;have hlt:p<s.heap.objs.size:=by let#[_,e,_]:=hl;erw[aM e]
 refine call_all_walk (kc hl ?_);refine#[s.heap.objs.size,[s.heap.objs.size,p],[s.heap.objs.size],its.toArray.size,_,_,λi=>(bs[i]?).getD true,rfl,EE (A:=X.A.in1) (I.ok.hd hc) _ p (aX hlt) its.toArray,
  #[#[_,aY _ rfl,rfl,rfl],hl.push _],λi v s' Q' E' hP hQ=>?_,λh' tk hk=>?_]
 .have hP:its[i]?=some v:=by simpa using hP
  rw[hits,aC] at hP;cases e:bs[i]? with
  |none=>rw[e] at hP;cases hP
  |some b=>
   rw[e] at hP;have hQ:Q' ((bs[i]?).getD true) s':=hQ;rw[e] at hQ;cases hP;erw[cV hQ]
 .have e:((cf its.toArray.size).all λi=>(bs[i]?).getD true)=bs.all id:=by
   rw[aF,hits,ah];erw[LSm.range_all bs]
  rw[e]
  exact#[.bl _,H,I.kept (zT hk),rfl,q]
theorem DB:∀{is:List Int}{us:List Value},Vals (is.map V.int) us->∃ps:List (Int×Tok),us=ps.map (λp=>k5 p.1 p.2)/\ps.map (·.1)=is
 |[],_,.nil=>#[[],rfl,rfl]
 |i::is,_,.cons (b:=u) r h=>by
  let#[t,e]:=(show ∃t,u=k5 i t from r)
  subst e;let#[ps,e1,e2]:=DB h;exact#[(i,t)::ps,by rw[e1];rfl,by rw[ay,e2]]
theorem Cg(hc:X.calm=true):iA X (.builtin "sum") (λxs H Q=>∃p,∃is:List Int,xs=[.ref p]/\iT X.K H p (is.map V.int)/\Q (.int is.sum) H):=by
 k_ne;let#[p,is,rfl,hl,q]:=h;let#[u,rfl,ru]:=vals1 r;cases ru;let#[its,r,pl,_]:=I.list hl;let#[ps,e1,e2]:=DB r;have hl:s.heap.IsList p (intItems ps.toArray):=by
  have:=pl.isList;rw[e1] at this;simpa[intItems] using this
 rwa[sum_intListG (I.ok.hd hc) hl λh' tk t' hk=>#[.int is.sum,H,I.kept hk,#[t',?_],q]]
 rw[preSum_eq,d6 (by simp)]
 simp[e2]
theorem O1(hu:X.A.units+200<eP):gM X (bD .NotEq) (λx y H Q=>∃ds ds',gf X.K H x (.tup ds)/\gf X.K H y (.tup ds')/\Dv.jE ds<=100/\Q (.bl (!oA ds ds')) H):=by
 intro pZ s σ H x y u v Q I rx ry h;let#[ds,ds',hx,hy,hz,q]:=h;unfold gf at hx hy;let#[a,vs,rfl,hq,hd]:=hx;let#[a',vs',rfl,hq',hd']:=hy;cases rx;cases ry;let#[its,r1,p,_]:=I.tuple hq;let#[its',r2,p',_]:=I.tuple hq';have l1:=hd.len;have l2:=hd'.len;have m1:=r1.length;have m2:=r2.length;refine SeqAt.RcNeAt.tuples (e:=λj=>match ds[j]?,ds'[j]? with|some a,some b=>og a b|_,_=>true) p p' ∅ (λj k1 k2=>?_) _ _ _ _ #[.bl _,H,I,?_,q]
 .rw[aF] at k1 k2
  have e1:ds[j]?=some (ds[j]'∅):=aa _;have e2:ds'[j]?=some (ds'[j]'∅):=aa _;have f1:vs[j]?=some (vs[j]'∅):=aa _;have f2:vs'[j]?=some (vs'[j]'∅):=aa _;let#[w1,g1,q1]:=r1.get f1;let#[w2,g2,q2]:=r2.get f2;have a1:its.toArray[j]=w1:=by
   let#[_,z]:=ae.mp g1;simpa using z
  have a2:its'.toArray[j]=w2:=by
   let#[_,z]:=ae.mp g2;simpa using z
  rw[a1,a2,e1,e2]
  erw[B9 I 100 (aP (me e1) hz) (by show X.A.units+1+100<eP;omega) (hd.get f1 e1) (hd'.get f2 e2) q1 q2]
 .show j7 _=j7 _
  congr 2
  rw[aF,aF,<-m1,<-m2,l1,l2]
  rwa[mM ds ds' _ λi a b h1 h2=>?_]
  rw[h1,h2]
theorem HC:gM X (bD .In) (λx y H Q=>∃a k r,x=.str k/\y=.ref a/\(∃es n,X.K.lookup a=some #[.type "dict",none,.dict es n,#[]]/\Bm X.w.params es.toList)/\(a==bY)=false/\nsIn X.K a k=some r/\Q (.bl r.isSome) H):=by
 x_go;let#[a,k,r,rfl,rfl,#[es,n,lk,kl],lo,e,q]:=h;let#[t,rfl]:=rx;cases ry;erw[wpAny_in_of (strKind_is X.prog X.w k t) lo (mapOf_K (prog:=X.prog) (w:=X.w) I.zG lk kl) (by rw[find_K lk e];exact#[.bl _,H,I.tok _,rfl,q])]
end
section
variable{X:Cx}{pZ:List (Addr×Obj)}{σ:List (Option V)}{H:Hp}{s:aq}{h':Heap}
theorem Inv.O2{t':Nat}{m:Str->Option Value}(I:Inv X pZ σ H s)(k:∀b o,b≠X.env.locals->s.heap.get? b=some o->h'.get? b=some o)(h1:s.heap.Ns X.env.locals m)(h2:h'.Ns X.env.locals m):Inv X pZ σ H {s with heap:=h',toks:=t'}:=by
 have nL:∀b u,H b=some u->b≠X.env.locals:=λb u e z=>by rw[z,I.free] at e;cases e
 refine I.step (g':=s.gens) (d':=s.drawn) (ch:=[]) (λ_ z=>nomatch z) (λb o hL _ _ e _=>k b o hL e) (λb o hL _ _ e _=>#[o.slots,k b o hL e]) (λ_ _ _ _ n=>n)
  (λb o _ e=>?_) (λ_ _ e=>e) (λ_ _ _ e=>e) (λb ps e=>#[#[],by rw[e];simp]) (λm' hm=>?_) (λb u e=>?_) I.bare
 .by_cases z:b=X.env.locals
  .let#[o',_,_,ho,_]:=h2
   exact#[o',by rw[z];erw[ho]]
  .exact#[o,k b o z e]
 .rw[hm.eq_nsMap,<-h1.eq_nsMap];erw[h2]
 .refine(I.du b u e).z4 (λc v hc q=>k c v ?_ q) (λ_ q=>q) λ_ _ q=>q
  rcases hc with z|z
  .rw[z];erw[nL b u e]
  .erw[nL c _ z]
end
section
variable{X:Cx}
noncomputable def Au(t:List Nat)(ts:List (List Nat)):List Nat:=ts.foldl (λb x=>if x.length<b.length then x else b) t
theorem DD:∀{ts:List (List Nat)}{us:List Value},Vals (ts.map λt=>V.str (tx t)) us->us.length=ts.length/\∀(i:Nat)v,us[i]?=some v->∃t k,ts[i]?=some t/\v=k6 (tx t) k
 |[],_,.nil=>#[rfl,λi v h=>by simp at h]
 |t::ts,_,.cons (b:=u) r h=>by
  let#[k,e]:=(show ∃k,u=k6 (tx t) k from r)
  subst e;let#[e1,e2]:=DD h;refine#[by simp[e1],λi v q=>?_];cases i with
  |zero=>simp at q;exact#[t,k,rfl,q.symm]
  |succ i=>exact e2 i v (by simpa using q)
theorem ub(b:List Nat):∀(ts:List (List Nat))(i:Nat)(t:List Nat),(b::ts)[i]?=some t->(∀j u,(b::ts)[j]?=some u->t.length<=u.length/\(j<i->t.length<u.length))->Au b ts=t
 |[],i,t,h,_=>by
  cases i with
  |zero=>simp at h;erw[h]
  |succ i=>simp at h
 |x::ts,i,t,h,m=>by
  show Au (if x.length<b.length then x else b) ts=t
  have mb:=m 0 b rfl;have mx:=m 1 x rfl;by_cases z:x.length<b.length
  .rw[if_pos z]
   cases i with
   |zero=>simp at h;subst h;omega
   |succ i=>
    refine ub x ts i t (by simpa using h) λj u hj=>?_
    have:=m (j+1) u (by simpa using hj);exact#[this.1,λq=>this.2 ∅]
  .rw[if_neg z]
   cases i with
   |zero=>
    simp at h;subst h;rwa[ub b ts 0 b rfl λj u hj=>#[?_,λq=>∅]]
    cases j with
    |zero=>simp at hj;subst hj;erw[ar _]
    |succ j=>exact(m (j+2) u (by simpa using hj)).1
   |succ i=>
    cases i with
    |zero=>simp at h;subst h;have:=mb.2 ∅;omega
    |succ i=>
     refine ub b ts (i+1) t (by simpa using h) λj u hj=>?_
     cases j with
     |zero=>simp at hj;subst hj;exact#[mb.1,λ_=>mb.2 ∅]
     |succ j=>
      have:=m (j+2) u (by simpa using hj);exact#[this.1,λq=>this.2 ∅]
theorem Av{pZ:List (Addr×Obj)}{s:aq}{σ:St}{H:Hp}{Q:VK}{p:Addr}{t:List Nat}{ts:List (List Nat)}(hc:X.calm=true)(I:Inv X pZ σ H s)(hl:iT X.K H p ((t::ts).map λt=>V.str (tx t)))
  (hz:∀u∈t::ts,u.length<=1000000) (q:Q (.str (tx (Au t ts))) H){E:Value->aq->Prop}:
  wpAny (bb X.prog X.w) X.A (call (.builtin "min") [.ref p] [(b7 "key",.builtin "len")]) (EP X pZ σ Q) E s:=by
 let#[its,r,pl,_]:=I.list hl;let#[e1,e2]:=DD r;let#[m,F]:=I.fr;have kp:∀h,Fr X.base X.env.locals h m->News X.base X.env.locals h (oU X.base s.heap X.env.locals)->∀b o,b≠X.env.locals->s.heap.get? b=some o->h.get? b=some o:=λh F' N' b o hb e=>by
  cases z:X.base.get? b with
  |some o'=>have:=I.bk b o' z;rw[e] at this;cases this;erw[F'.keep b _ z]
  |none=>exact(N' (b,o) (z7 hb z e)).1
 let#[ol,hol,hc1,n1,hd1]:=pl.isList;have pL:p≠X.env.locals:=λe=>by
  let#[o',es,ep,ho',hd',_]:=F.ns;rw[<-e,hol] at ho';cases ho';rw[hd1] at hd';cases hd'
 rwa[kmb_min (kid:="len") (vs:=its) (news:=oU X.base s.heap X.env.locals) (λi=>(((t::ts)[i]?).getD []).length) (I.ok.hd hc) F GN (λh F' N'=>?_) (by rw[e1];simp) (λi v hv h tk own F' N'=>?_) (λi v h' tk' hv hb F' N'=>?_)]
 .exact#[ol,kp h F' N' p ol pL hol,hc1,n1,hd1]
 .let#[u,k,hu,rfl]:=e2 i v hv
  have hn:=ou;have hu':=hz u (ao hu);rwa[len_str (by rw[dv];omega) ?_];rw[hu,d7,dv]
  erw[KskEnd.intro F' N' λp hp=>hp]
 .let#[u,k,hu,rfl]:=e2 i v hv
  have eb:Au t ts=u:=ub t ts i u hu λj w hj=>by
   have hj':j<its.length:=by rw[e1];exact(ae.mp hj).1
   have:=hb j hj';rw[hu,hj] at this;dsimp[d7] at this;exact#[∅,λq=>by have:=this.2 q;omega]
  rw[eb] at q;refine#[.str (tx u),H,?_,#[k,rfl],q];rwa[I.O2 (λb o hb e=>?_) F.ns F'.ns];erw[kp h' F' N' b o hb e]
theorem Fd{e:Expr}{p pl kp pos:Pos}{te:TE}(hc:X.calm=true)(hg:Gl X "min")(hm:X.mg "min"=none)(hg2:Gl X "len")(hm2:X.mg "len"=none)(ha:PE X e te)(hs:bR [e] X.env=[(false,eval e X.env)]:=by rfl):
  PE X (.Call (.Name "min" p) [e] [#[some "key",.Name "len" pl,kp]] pos) (λσ H Q=>te σ H λv H1=>∃a t ts,v=.ref a/\iT X.K H1 a ((t::ts).map λt=>V.str (tx t))/\(∀u∈t::ts,u.length<=1000000)/\Q (.str (tx (Au t ts))) H1):=by
 k_go;rwa[eY (rX I hg hm boot_min ?_)];rwa[callWith_kw (e:=e) (rest:=[]) ?_ (by rw[hs];rfl) (by rw[hs];rfl)];rw[hs]
 rwa[iX (eO (ha pZ s σ H _ I h) λu s1 h9=>?_)];let#[x,H1,I1,r1,a,t,ts,e2,hl,hz,q]:=h9;rwa[lX ?_];subst e2;cases r1;rwa[kws_cons (rX I1 hg2 hm2 Ks (kws_nil ?_))];erw[Av hc I1 hl hz q]
end
section
variable{X:Cx}{pZ:List (Addr×Obj)}{σ:St}{H:Hp}{s:aq}
theorem Inv.Lw{ch:List Addr}{h':Heap}{t':Nat}{a:Addr}{o:HO}(I:Inv X pZ σ H s)(k:∀b u,b∉ch->s.heap.get? b=some u->h'.get? b=some u)(hf:∀b∈ch,p9 X pZ H b)(hp:s.heap.objs.size<=a)
  (new:dN X.prog X.w (upd H a o) h' a o):Inv X pZ σ (upd H a o) {s with heap:=h',toks:=t'}:=by
 have hn:=I.du.fresh hp;have na:∀b u,s.heap.get? b=some u->b≠a:=λb u e z=>absurd (az (aM e) hp) (by rw[z];erw[eh _])
 have nt:∀b u,H b=some u->b∉ch:=λb u e z=>by rw[(hf b z).1] at e;cases e
 have tr:∀b u,H b=some u->upd H a o b=some u:=λb u e=>by rw[b8 (dB e hn)];erw[e]
 refine I.step (g':=s.gens) (d':=s.drawn) (ch:=ch) (λb hb=>?_) (λb u _ _ hc e _=>k b u hc e) (λb u _ _ hc e _=>#[u.slots,k b u hc e]) (λb u _ e n=>by rw[b8 (na b u e)];exact n)
  (λb u hc e=>#[u,k b u hc e]) (λb _ e=>tr b _ e) (λb _ _ e=>tr b _ e) (λb ps e=>#[#[],by rw[tr b _ e];simp]) (λm hm=>?_) (λb u e=>?_) I.bare
 .let#[f0,f1,f2,f3,f4,f5]:=hf b hb
  exact#[f3,f1,f4,f5]
 .let#[q,es,ep,ho,r]:=hm
  exact#[q,es,ep,k _ q (λz=>(hf _ z).2.1 rfl) ho,r]
 .by_cases hb:b=a
  .subst hb;rw[cb] at e;cases e;erw[new]
  .rw[b8 hb] at e
   refine(I.du b u e).z4 (λc v hc q=>k c v ?_ q) (λc q=>tr c _ q) λc xs q=>tr c _ q
   rcases hc with z|z
   .rw[z];erw[nt b u e]
   .erw[nt c _ z]
def VZ(K:aG)(a:Addr):It:=
 #[λi H=>∃xs x,iT K H a xs/\xs[i]?=some x,λi H y H'=>∃p x,H p=none/\y=.ref p/\H'=upd H p (.tup [.int i,x])/\∀xs,iT K H a xs->xs[i]?=some x,λi H=>∃xs,iT K H a xs/\xs.length<=i]
theorem Fe{P:bf}{w:bJ}{K:aG}{es:List Expr}{k:Nat}{pos:Pos}(a e it:Addr)(hne:e≠it):
  Turn P w K (.Tuple es k pos) (VZ K a) [e,it] e (λi h=>(∃old,IsEnum h e it i old)/\h.IsListIter it a i) where
 mem:=by simp
 obj:=λi h st b hb=>by
  let#[#[old,h1],o,h2,c,d]:=st;rcases aR.mp hb with rfl|hb
  .exact#[_,h1,λv z=>by cases z]
  .have e:b=it:=by simpa using hb
   subst e;exact#[o,h2,λv z=>by rw[d] at z;cases z]
 keep:=λi h h' st k=>by
  let#[#[old,h1],h2]:=st;exact#[#[old,k e (by simp) _ h1],h2.at λo q=>k it (by simp) o q]
 item:=by
  w_up;subst hP hw hK;let#[xs,x,hq,hx]:=hg;let#[its,rv,p,hz]:=I.list hq;let#[u,hu,ru]:=rv.get hx;let#[#[old,h1],h2]:=st;refine wpAny_pyNext_enum_item h1 h2 p.isList (x:=u) (by simpa using hu) hne λh' ho hit' hT hsz hk=>?_
  refine#[_,rfl,wpAny_letOwnedTupleGo_enum ho λh'' he'' sb=>?_];have hel:e<s.heap.objs.size:=aM h1;have nT:s.heap.objs.size≠e:=cZ hel;have k2:∀b v,b∉[e,it]->s.heap.get? b=some v->h''.get? b=some v:=λb v hb q=>by
   dsimp[aR,cy,or_false,not_or] at hb;exact(sb.2 b hb.1).trans (hk b v hb.1 hb.2 q)
  have hfr:=I.fresh;refine#[.ref s.heap.objs.size,upd H s.heap.objs.size (.tup [.int i,x]),I.Lw (t':=s.toks+1) (h':=h'') k2 hf (ar _) ?_,rfl,#[_,x,hfr,rfl,rfl,λys hy=>by rw[I.uG hy hq];erw[hx]],?_,λb hb=>?_]
  .exact#[show 2<=sizeLine by decide,[.int i s.toks,u],.cons #[_,rfl] (.cons ru .nil),_,(sb.2 _ nT).trans hT,rfl,_,rfl]
  .exact#[#[u,by simpa using he''],hit'.at λo q=>(sb.2 it hne.symm).trans q]
  .rw[b8]
   .exact(hf b hb).1
   .intro z
    let#[f0,_]:=hf b hb;rcases aR.mp hb with q|hb
    .erw[nT (z▸q.symm▸rfl)]
    .have q:b=it:=by simpa using hb
     let#[o,h3,_]:=h2;have:=aM h3;rw[<-q,z] at this;erw[eh _ this]
 done:=by
  w_up;subst hP hw hK;let#[xs,hq,hx]:=hg;let#[its,rv,p,hz]:=I.list hq;let#[#[old,h1],h2]:=st;have hl:=rv.length;let#[f0,f1,f2,f3,f4,f5]:=hf it (by simp);erw[wpAny_pyNext_enum_end (I.ok.hd hc) h1 h2 p.isList (by simp;omega) λh' eb=>#[rfl,I.turned (t':=s.toks) (λb o hb e=>eb b o hb e) f0 f1 f3 f4 f5]]
 self:=λ_ _ _ _ _ st h=>by
  let#[#[old,h1],h2]:=st;erw[wpAny_pyIter_enum h1 h]
noncomputable def Tj(K:aG)(ta:TA):TI:=λσ H R=>ta σ H λvs H1=>∃a,vs=[.ref a]/\(∃xs,iT K H1 a xs)/\R (VZ K a) H1
theorem Lx{X:Cx}{a:Expr}{ta:TA}{p pos:Pos}{es:List Expr}{k:Nat}{tp:Pos}(hg:Gl X "enumerate")(hm:X.mg "enumerate"=none)(ha:PA X [a] ta)(hs:bR [a] X.env=[(false,eval a X.env)]:=by rfl):
  PI X (.Tuple es k tp) (.Call (.Name "enumerate" p) [a] [] pos) (Tj X.K ta):=by
 intro pZ s σ H R I h;rwa[Call_ (rX I hg hm boot_enumerate (jK (eO (ha pos pZ s σ H _ I h) λus s1 h9=>?_) hs rfl))];let#[vs,H1,I1,r1,q1]:=h9;let#[l,e,#[xs,hq],q]:=q1;subst e;cases r1 with
 |cons r rr=>
  cases rr;cases r;let#[its,rv,p,hz]:=I1.list hq;rwa[call_enumerate_list p.isList λh' hE hI hsz hk=>wpAny_pyIter_enum hE ?_]
  have I2:Inv X pZ σ H1 {s1 with heap:=h'}:=I1.kept (t':=s1.toks) λb o e=>hk b o e
  refine#[_,[s1.heap.objs.size+1,s1.heap.objs.size],_,VZ X.K l,H1,rfl,I2,Fe l _ _ (Nat.succ_ne_self _),#[#[_,hE],hI],λb hb=>?_,q];rcases aR.mp hb with e|hb
  .subst e
   erw[I1.BJ (kr _) (I1.du.fresh (kr _))]
  .have e:b=s1.heap.objs.size:=by simpa using hb
   subst e;erw[I1.BJ (ar _) (I1.du.fresh (ar _))]
end
theorem yA:typeLookup (.type "list") "keys"=pure none:=by rw[typeLookup_type,builtinLookup_eq_fast];kernel_rfl
theorem oZ:plainId "dict.update.loop"=true:=by decide +kernel
theorem xf:entryFor table "dict.update.loop"=some Builtin.«dict.update.loop»:=entryFor_of_tree (by kernel_rfl)
section
variable{prog:bf}{w:bJ}{A:cF}{E:Value->aq->Prop}{s:aq}{a l it D:Addr}{its:Array Value}{n:Nat}{K:Type}[DecidableEq K]{knd:KeyKind prog w K}
theorem Ff{Q:Option Value->aq->Prop}(hx:s.heap.get? a=some {cls:=.type "list",data:=.seq its n})(hA:A.handled=none)
  (hq:∀h' t',(∀b o,s.heap.get? b=some o->h'.get? b=some o)->Q none {s with heap:=h',toks:=t'}):wpAny (bb prog w) A (getAttr? (.ref a) "keys") Q E s:=by
 let#[h,g,d,t,os]:=s;have hT:(#[h,g,d,t,os]:aq).TypeIs (.ref a) "list":=#[_,hx,rfl]
 have f1:=sub_AttributeError;have f3:=nH.lookup;have f4:=nH.bind (.ref a);have f5:=am_list_getattr_none;unfold getAttr? getAttrBy? getAttrBy
 repeat (any_goals (first|assumption| ((with_reducible show wpAny _ _ (call (Value.builtin "list.__getattribute__") _ _) _ _ _);refine call_meets nH (show Shared.TypeIs _ _ "list" from #[_,hx,rfl]) am_entry_list_getattribute (F.args_list_getattribute_2 _ _) (meets_getattribute_miss_list a its n #[] "keys" _ yA (by decide +kernel)) #[hx,hA,λh' tk' e hx'=>?_])|wp_step))
 let#[t',u',he]:=hx'.there;show wpAny _ _ (getattributeRaised _ _ _ _ _ _ _) _ _ _;unfold getattributeRaised
 repeat (any_goals (first|assumption|wp_step))
 erw[hq _ _ hx'.keeps]
theorem sr{h:Heap}{a b:Addr}{o u:Obj}(ha:h.get? a=some o)(hb:h.get? b=some u)(n:o.cls≠u.cls):a≠b:=λe=>by
 rw[e,hb] at ha;cases ha;erw[n rfl]
theorem Fg{R:Result->aq->Prop}{more:List (K×Value)}{res:Value}(hh:A.handled=none)(hz:its.size=more.length):∀(k i:Nat)(s:aq)(acc:List (K×Value)),more.length-i=k->i<=more.length->s.heap.IsListIter it l i->s.heap.IsList l its ->
  (∀(j:Nat)(kk:K)(v:Value),more[j]?=some (kk,v)->∃T key,its[j]?=some (.ref T)/\s.heap.IsTuple T (List.toArray [key,v])/\knd.is kk key=true)->s.heap.DictOf knd D acc->acc.length+k<=sizeLine ->
  (∀h' t',h'.DictOf knd D (merged acc (more.drop i))->(∀b o,b≠D->b≠it->s.heap.get? b=some o->h'.get? b=some o)->R (.ok (.ret res)) {s with heap:=h',toks:=t'}) ->
  p7 (bb prog w) A (.builtin "dict.update.loop" #[[bg D,bg it,jD i,res],[]]) R s:=by
 intro k;induction k with
 |zero=>
  intro i s acc hk hi hit hl hp hd hs hR;have hin:i=more.length:=∅
  rwa[codeAny_builtin xf ?_];rw[Bo oZ _]
  show wpAny _ A.in1 (xN (.ref it)>>=_) _ _ s
  let#[oi,hoi,ci,di]:=id hit;let#[od,es,ep,hod,hcd,r]:=id hd;have nd:D≠it:=sr hod hoi (by rw[hcd.1,ci];decide);rwa[ab (JW hh hit hl (by rw[hin,<-hz];simp) λh' eb=>?_)];rwa[ab (av (av ?_))];rwa[hR h' s.toks ?_ λb o _ hb e=>eb b o hb e]
  rw[hin,JZ]
  exact#[od,es,ep,eb D od nd hod,hcd,r]
 |succ k ih=>
  intro i s acc hk hi hit hl hp hd hs hR;have lt:i<more.length:=∅
  obtain⟨⟨kk,v⟩,hkv⟩:∃p,more[i]?=some p:=#[_,aa lt]
  let#[T,key,hT,ht,hk']:=hp i kk v hkv;rwa[codeAny_builtin xf ?_];rw[Bo oZ _]
  show wpAny _ A.in1 (xN (.ref it)>>=_) _ _ s
  let#[oi,hoi,ci,di]:=id hit;let#[od,es,ep,hod,hcd,r]:=id hd;let#[ol,hol,cl,dl]:=id hl;have nd:D≠it:=sr hod hoi (by rw[hcd.1,ci];decide);have nl:l≠it:=sr hol hoi (by rw[cl,ci];decide);have nld:l≠D:=sr hol hod (by rw[cl,hcd.1];decide);have nt:∀{T:Addr}{vs:Array Value},s.heap.IsTuple T vs->T≠it/\T≠D:=λ⟨ot,hot,ct,_⟩=>#[sr hot hoi (by rw[ct,ci];decide),sr hot hod (by rw[ct,hcd.1];decide)]
  rwa[ab (Gk hit hl hT λh1 hit1 sb1=>?_)];let#[ot,hot,ct,nn,dt]:=id ht;have hot1:h1.get? T=some ot:=(sb1.2 T (nt ht).1).trans hot;rwa[ab (fI (ab (wpAny_tryCatch ?_)))];unfold Builtin.Dict.pairItems;rwa[ab (Gn (T:="tuple") #[ot,hot1,ct] ?_)];rw[if_pos ⋯]
  rwa[ab (Bs hot1 dt (av ?_))];show wpAny _ A.in1 (holding [key,v] (dictSet D key v)) _ _ _;rwa[fI (fI (ab (knd.pyHash hk' ?_)))];have hd1:h1.DictOf knd D acc:=#[od,es,ep,(sb1.2 D nd).trans hod,hcd,r]
  rwa[wpAny_dictSetHashed_pairs hk' hd1 (λh2 hd2 sb2=>av #[plainId_quiet oZ _,?_]) ∅];have kp:∀b o,b≠D->b≠it->s.heap.get? b=some o->h2.get? b=some o:=λb o n1 n2 e=>(sb2.2 b n1).trans ((sb1.2 b n2).trans e)
  have e1:(jD ((i:Int)+1))=jD ((i+1:Nat):Int):=by push_cast;rfl
  rw[e1]
  refine ih (i+1) _ (uB acc kk v) ∅ lt (hit1.at λo e=>(sb2.2 it nd.symm).trans e) #[ol,kp l ol nld nl hol,cl,dl] (λj kk v e=>?_) hd2 ?_ λh' t' hd' kp'=>?_
  .let#[T,key,q1,#[ot,hot,r],q3]:=hp j kk v e
   exact#[T,key,q1,#[ot,kp T ot (nt #[ot,hot,r]).2 (nt #[ot,hot,r]).1 hot,r],q3]
  .have:(uB acc kk v).length<=acc.length+1:=by
    unfold uB;split
    .rw[ah];omega
    .rw[ax];simp
   omega
  .rwa[hR h' t' ?_ λb o n1 n2 e=>kp' b o n1 n2 (kp b o n1 n2 e)]
   rw[eT lt]
   have:more[i]=(kk,v):=by rw[aa lt] at hkv;erw[aH hkv]
   rw[this]
   erw[hd']
theorem Ci{more:List (K×Value)}{Q:Value->aq->Prop}(hh:A.handled=none)(hl:s.heap.get? l=some {cls:=.type "list",data:=.seq its n})(hz:its.size=more.length)(hm:more.length<=sizeLine)
  (hp:∀(j:Nat)(kk:K)(v:Value),more[j]?=some (kk,v)->∃T key,its[j]?=some (.ref T)/\s.heap.IsTuple T (List.toArray [key,v])/\knd.is kk key=true)
  (h:∀h' t',h'.DictOf knd s.heap.objs.size (merged [] more)->(∀b o,s.heap.get? b=some o->h'.get? b=some o)->Q (.ref s.heap.objs.size) {s with heap:=h',toks:=t'}):
  wpAny (bb prog w) A (call (.type "dict") [.ref l]) Q E s:=by
 refine callType_codes (Q₁:=λobj s₁=>obj=.ref s.heap.objs.size/\s₁={s with heap:=s.heap.push {cls:=.type "dict",data:=.dict #[]} }) F.kt_called_dict (F.kt_typeCall_dict_1 _) F.entry_dict_init (kt_code_dict_new _ #[rfl,rfl]) ?_;rintro obj s₁ ⟨rfl,rfl⟩;have hnew:(s.heap.push {cls:=.type "dict",data:=.dict #[]}).DictOf knd s.heap.objs.size []:=Bj s.heap;have kp:∀b o,s.heap.get? b=some o->(s.heap.push {cls:=.type "dict",data:=.dict #[]}).get? b=some o:=λb o e=>aE _ e
 generalize s.heap.push {cls:=.type "dict",data:=.dict #[]}= h1 at hnew kp;refine#[hnew.typeIs,F.args_dict_init_2 _ _,?_];unfold Builtin.«dict.__init__»;rwa[ab ?_];unfold Builtin.Dict.selfAndRest;rwa[ab (qF hnew.typeIs ?_)];show wpAny _ _ (pure (s.heap.objs.size,[bg l])) _ _ _;rwa[av ?_];show wpAny _ _ (Builtin.Dict.updateFrom "dict.__init__" s.heap.objs.size (.ref l) [] .none) _ _ _;unfold Builtin.Dict.updateFrom;rwa[ab (Gn (T:="list") #[_,kp l _ hl,rfl] ?_)];rw[if_pos ⋯]
 rwa[ab (Ff (kp l _ hl) hh λh2 t2 k2=>?_)];rw[if_pos (by rfl)]
 refine ab (pX ?_);have hl2:=k2 l _ (kp l _ hl);refine ab (kc #[_,hl2,rfl,_,rfl] (av #[plainId_quiet oZ _,?_]));have nD:s.heap.objs.size<h2.objs.size:=by
  let#[od,_,_,hod,_]:=hnew;erw[aM (k2 _ _ hod)]
 have kp3:∀b o,s.heap.get? b=some o->(h2.push {cls:=.type "list_iterator",data:=.fields (List.toArray [.ref l,.int 0 0])}).get? b=some o:=λb o e=>aE _ (k2 b o (kp b o e))
 refine Fg (A:=A.in1) (knd:=knd) (its:=its) (l:=l) hh hz more.length 0 _ [] ∅ (cw _) ?_ ?_ (λj kk v e=>?_) ?_ (by simpa using hm) λh' t' hd' kp'=>?_
 .exact#[_,aY _ rfl,rfl,rfl]
 .exact#[{cls:=.type "list",data:=.seq its n},aE _ hl2,rfl,n,rfl]
 .let#[T,key,q1,#[ot,hot,r],q3]:=hp j kk v e
  exact#[T,key,q1,#[ot,kp3 T ot hot,r],q3]
 .let#[od,es,ep,hod,r]:=hnew
  exact#[od,es,ep,aE _ (k2 _ _ hod),r]
 .refine#[rfl,h h' t' hd' λb o e=>kp' b o ?_ ?_ (kp3 b o e)]
  .erw[aX (aM e)]
  .erw[aX (aM (k2 b o (kp b o e)))]
end
section
variable{X:Cx}{pZ:List (Addr×Obj)}{σ:St}{H:Hp}{s:aq}
abbrev O3(H:Hp)(v:V)(kv:Key×V):Prop:=∃T,v=.ref T/\H T=some (.tup [kV kv.1,kv.2])
theorem Ly(I:Inv X pZ σ H s):∀{vs:List V}{kvs:List (Key×V)}{its:List Value},Paired (O3 H) vs kvs->Vals vs its->∃more,KV kvs more/\its.length=more.length /\
  ∀(j:Nat)(kk:Key)(v:Value),more[j]?=some (kk,v)->∃T key,its[j]?=some (.ref T)/\s.heap.IsTuple T (List.toArray [key,v])/\(cR X.prog X.w).is kk key=true
 := by
 intro vs kvs its hp hv;induction hp generalizing its with
 |nil=>cases hv;exact#[[],.nil,rfl,λj kk v e=>by cases e]
 |cons ha hr ih=>
  rename_i b _ _;let#[k,x]:=b;let#[T,e,hT]:=ha;cases hv with|cons r rr=>?_
  subst e;cases r;let#[more,h1,h2,h3]:=ih rr;let#[z,its',rv,p]:=I.du T _ hT;cases rv with
  |cons r1 rr1=>
   rename_i ku us';cases rr1 with
   |cons r2 rr2=>
    rename_i xu _;cases rr2;refine#[(k,xu)::more,.cons #[rfl,r2] h1,by simp[h2],λj kk v e=>?_];cases j with
    |zero=>
     simp at e;let#[rfl,rfl]:=e;exact#[T,ku,rfl,p,qS r1]
    |succ j=>simpa using h3 j kk v (by simpa using e)
theorem Cj(hA:X.A.handled=none):iA X (.type "dict") (λxs H Q=>∃a vs kvs,xs=[.ref a]/\H a=some (.lst vs)/\Paired (O3 H) vs kvs/\(kvs.map (·.1)).Nodup/\∀p,H p=none->Q (.ref p) (upd H p (.dK kvs))):=by
 intro pZ s σ H xs us Q I rv h;let#[a,vs,kvs,rfl,hH,hp,hn,q]:=h;let#[u,rfl,ru]:=rv.one;cases ru;let#[z,its,n,r,hl,e]:=I.E0 hH;let#[more,h1,h2,h3]:=Ly I hp r;have hk:=h1.keys;refine Ci (knd:=cR X.prog X.w) (more:=more) hA e (by simpa using h2) (by rw[<-h2,<-hl];erw[z]) (λj kk v ej=>?_) λh' t' hd kp=>?_
 .let#[T,key,q1,q2,q3]:=h3 j kk v ej
  exact#[T,key,by simpa using q1,q2,q3]
 .rw[merged_nil_of_nodup more (by rw[<-hk];erw[hn])] at hd
  have hf:=I.fresh;refine#[.ref s.heap.objs.size,_,I.laid (t':=t') kp (ar _) (ym (kvs:=kvs) (by rw[h1.length,<-h2,<-hl];erw[z]) ?_ h1 hd),rfl,q _ hf];have:=I.big;erw[beq_eq_false_iff_ne.mpr (cZ this)]
end
section
variable{X:Cx}
theorem uc{i j:Int}(hi:0<=i)(hj:0<=j):Builtin.bitAnd i j=((i.toNat&&&j.toNat:Nat):Int):=by
 unfold Builtin.bitAnd;rw[decide_eq_true hi,decide_eq_true hj]
theorem Ck{i j:Int}(hi:0<=i)(hj:0<=j):Builtin.bitOr i j=((i.toNat|||j.toNat:Nat):Int):=by
 unfold Builtin.bitOr Builtin.bitAnd Builtin.bitNot;rw[decide_eq_false ∅,decide_eq_false ∅,show -(-i-1)-1=i by omega,show -(-j-1)-1=j by omega]
 dsimp only;omega
theorem Fh:BX X "int.bit_length" (λx xs H Q=>∃i:Nat,x=.int i/\xs=[]/\Q (.int (if i=0 then 0 else i.log2+1:Nat)) H):=by
 intro pZ s σ H x xs v us Q I rx rs h;let#[i,rfl,rfl,q]:=h;let#[t,rfl]:=rx;cases rs;refine call_int_bit_length #[.int _,H,I.tok _,#[_,rfl],?_];have:Builtin.Int.intBits i=if i=0 then 0 else i.log2+1:=by
  unfold Builtin.Int.intBits;by_cases e:i=0
  .subst e;rfl
  .rw[if_neg e,if_neg (by simpa using e)];rfl
 rw[this]
 erw[q]
theorem HD:gM X (cB .Add) (λx y H Q=>∃a b ys,x=.ref a/\y=.ref b/\lY X.K H a []/\lY X.K H b ys/\Q (.ref b) H):=by
 x_go;let#[a,b,ys,rfl,rfl,ha,hb,q]:=h;cases rx;cases ry;let#[its,r1,p1,_]:=I.tuple ha;let#[its2,r2,p2,_]:=I.tuple hb;cases r1;let#[#[cls,dd,data,sl],ho,hc,n,hd]:=id p1;let#[#[cls2,dd2,data2,sl2],ho2,hc2,n2,hd2]:=id p2;simp only at hc hd hc2 hd2;subst hc hd hc2 hd2;exact Gm #[_,ho,rfl] #[_,ho2,rfl] xR Es mB l6 (lN _ _)
  (tuple_addW0 a b _ _ n n2 dd dd2 sl sl2 (by simp)) #[ho,ho2,#[.ref b,H,I,rfl,q]]
theorem Cm(hc:X.calm=true):iA X (.builtin "any") (λxs H Q=>∃p,∃bs:List Bool,xs=[.ref p]/\iT X.K H p (bs.map V.bl)/\Q (.bl (bs.any id)) H):=by
 k_ne;let#[p,bs,rfl,hl,q]:=h;let#[u,rfl,ru]:=vals1 r;cases ru;let#[its,r,pl,_]:=I.list hl;have hl:=pl.isList;have hits:=va r;have hlt:p<s.heap.objs.size:=by let#[_,e,_]:=hl;erw[aM e]
 refine call_any_walk (kc hl ?_);refine#[s.heap.objs.size,[s.heap.objs.size,p],[s.heap.objs.size],its.toArray.size,_,_,λi=>(bs[i]?).getD false,rfl,EE (A:=X.A.in1) (I.ok.hd hc) _ p (aX hlt) its.toArray,
  #[#[_,aY _ rfl,rfl,rfl],hl.push _],λi v s' Q' E' hP hQ=>?_,λh' tk hk=>?_]
 .have hP:its[i]?=some v:=by simpa using hP
  rw[hits,aC] at hP;cases e:bs[i]? with
  |none=>rw[e] at hP;cases hP
  |some b=>
   rw[e] at hP;have hQ:Q' ((bs[i]?).getD false) s':=hQ;rw[e] at hQ;cases hP;erw[cV hQ]
 .have e:((cf its.toArray.size).any λi=>(bs[i]?).getD false)=bs.any id:=by
   rw[aF,hits,ah];erw[LSm.range_any bs]
  rw[e]
  exact#[.bl _,H,I.kept (zT hk),rfl,q]
theorem Fi(hu:X.A.units+200<eP):gM X (bD .NotIn) (λx y H Q=>∃p xs ds d,y=.ref p/\iT X.K H p xs/\iB X.K H xs ds/\gf X.K H x d/\Dv.jE ds<=100/\Q (.bl (!ds.any λe=>og e d)) H):=by
 x_go;let#[p,xs,ds,d,rfl,hq,hd,hx,hz,q]:=h;cases ry;let#[its,r,pl,_]:=I.list hq
 classical
 have l1:=hd.len;have m1:=r.length
 let e:Value->Bool:=λu=>decide (∃(j:Nat)(d':Dv),its[j]?=some u/\ds[j]?=some d'/\og d' d=true)
 have key:∀(j:Nat)(w:Value)(d':Dv),its[j]?=some w->ds[j]?=some d'->e w=og d' d:=λj w d' h1 h2=>by
  have f:∃z,xs[j]?=some z:=#[_,aa (by have:=(ae.mp h2).1;omega)]
  let#[z,hz']:=f;let#[w',g1,q1]:=r.get hz';rw[h1] at g1;cases g1;cases q:og d' d with
  |true=>erw[decide_eq_true #[j,d',h1,h2,q]]
  |false=>
   rwa[decide_eq_false ?_];rintro⟨j2,d2,k1,k2,k3⟩;have f2:∃z,xs[j2]?=some z:=#[_,aa (by have:=(ae.mp k2).1;omega)]
   let#[z2,hz2]:=f2;let#[w2,g2,q2]:=r.get hz2;rw[k1] at g2;cases g2;have ez:=RelV.inj q1 q2;subst ez;have:=gf.inj I (hd.get hz' h2) (hd.get hz2 k2);rw[this,k3] at q;cases q
 rwa[Eu e pl.isList (λw hw=>?_) #[.bl _,H,I,rfl,?_]]
 .let#[j,hj]:=bA (show w∈its by simpa using hw)
  have hjl:=(ae.mp hj).1;have e1:ds[j]?=some (ds[j]'∅):=aa _;have e2:xs[j]?=some (xs[j]'∅):=aa _;let#[w',g1,q1]:=r.get e2;rw[hj] at g1;cases g1;rw[key j w _ hj e1]
  erw[B9 I 100 (aP (me e1) hz) (by show X.A.units+1+100<eP;omega) (hd.get e2 e1) hx q1 rx]
 .have:its.toArray.any e=ds.any λe=>og e d:=by
   rw[List.any_toArray,dy,kb,kb]
   constructor
   .rintro⟨w,hw,h1⟩
    let#[j,d',_,k2,k3]:=of_decide_eq_true h1;exact#[d',ao k2,k3]
   .rintro⟨d',hd',h1⟩
    let#[j,hj]:=bA hd';have hjl:=(ae.mp hj).1;have e1:its[j]?=some (its[j]'∅):=aa _;exact#[_,ao e1,by rw[key j _ d' e1 hj];erw[h1]]
  rw[this]
  erw[q]
end
section
variable{X:Cx}
theorem Aw{val:Nat->Int}:∀k,argBest (λi j=>decide (val j<val i)) k<=k/\∀j,j<=k->val j<=val (argBest (λi j=>decide (val j<val i)) k)
 |0=>#[ar _,λj h=>by rw[Nat.le_zero.mp h];erw[EF _]]
 |k+1=>by
  let#[h1,h2]:=Aw (val:=val) k;unfold argBest;split
  .rename_i hb
   have hb:=of_decide_eq_true hb;refine#[ar _,λj hj=>?_];rcases By k j with z|z
   .rw[show j=k+1 by omega];erw[EF _]
   .erw[Int.le_of_lt (Int.lt_of_le_of_lt (h2 j z) hb)]
  .rename_i hb
   have hb:¬val (argBest _ k)<val (k+1):=λz=>hb (decide_eq_true z)
   refine#[mz h1,λj hj=>?_];rcases By k j with z|z
   .rw[show j=k+1 by omega];omega
   .erw[h2 j z]
theorem DE:∀{is:List Int}{us:List Value},Vals (is.map V.int) us->us.length=is.length/\∀(i:Nat)v,us[i]?=some v->∃t,v=k5 ((is[i]?).getD 0) t
 |[],_,r=>by rw[jt] at r;cases r;exact#[rfl,λi v e=>by simp at e]
 |k::ks,_,r=>by
  rw[ay] at r;cases r with
  |cons h t=>
   let#[h1,h2]:=DE t;refine#[by simp[h1],λi v e=>?_];cases i with
   |zero=>simp at e;subst e;erw[h]
   |succ i=>simp at e ⊢;erw[h2 i v e]
theorem Cn(hc:X.calm=true):iA X (.builtin "max") (λxs H Q=>∃p,∃(i:Int)(is:List Int),xs=[.ref p]/\iT X.K H p ((i::is).map V.int)/\∀m∈i::is,(∀j∈i::is,j<=m)->Q (.int m) H):=by
 k_ne;let#[p,i,is,rfl,hl,q]:=h;let#[u,rfl,ru]:=vals1 r;cases ru;let#[its,r,pl,_]:=I.list hl;have hl:=pl.isList;let#[e1,e2]:=DE r;have hlt:p<s.heap.objs.size:=by let#[_,e,_]:=hl;erw[aM e]
 refine call_max_walk (kc hl ?_);refine#[s.heap.objs.size,[s.heap.objs.size,p],[s.heap.objs.size],its.toArray.size,_,_,_,rfl,EE (A:=X.A.in1) (I.ok.hd hc) _ p (aX hlt) its.toArray,
  #[#[_,aY _ rfl,rfl,rfl],hl.push _],λb hb=>?_,by simp[e1],CmpOf.ints_gt (λk=>((i::is)[k]?).getD 0) (λk v hv=>e2 k v (by simpa using hv)),λv h' tk hP hk=>?_]
 .show b<(s.heap.push _).objs.size
  rw[ie]
  rcases aR.mp hb with z|z
  .rw[z];erw[dj _]
  .rw[bS.mp z];erw[bc hlt]
 .have hn:its.toArray.size-1=is.length:=by simp[e1]
  rw[hn] at hP;let#[b1,b2]:=Aw (val:=λk=>((i::is)[k]?).getD 0) is.length;have get:∀k,k<=is.length->∃m,(i::is)[k]?=some m/\((i::is)[k]?).getD 0=m:=λk hk=>by
   have e:=aa (l:=i::is) (i:=k) (by simp;omega);exact#[_,e,by rw[e];rfl]
  let#[m,g1,g2]:=get _ b1;let#[t,rfl]:=e2 _ v (by simpa using hP);refine#[.int m,H,I.kept (zT hk),#[t,by rw[<-g2]],q m (ao g1) λj hj=>?_];let#[k,hk2,e]:=qy hj;have:=b2 k (by simp at hk2;omega);rw[<-g2]
  have e3:((i::is)[k]?).getD 0=j:=by rw[aa hk2,e];rfl
  rw[<-e3];erw[this]
theorem Fj:iA X (.builtin "len") (λxs H Q=>∃a kvs,xs=[V.ref a]/\H a=some (.dP kvs)/\Q (.int kvs.length) H):=by
 k_ne;let#[a,kvs,rfl,ha,q]:=h;let#[u,rfl,ru]:=vals1 r;cases ru;let#[z,hd,ws,rel,dd]:=Nk I.du ha;have hT:=dd.typeIs;let#[o,es,ep,ho,hc,hdat,he,_]:=dd;have hsz:es.size=kvs.length:=by rw[zQ he,<-Paired.length rel]
 have h63:(kvs.length:Int)<2^63:=by rw[jL] at z;omega
 refine Calls.call_function_entry kind_len plain_len entry_len (args_len1 _) ?_;unfold Builtin.«len»;refine ab (m:=oneArg "len" _) (av ?_);refine ab (m:=callSpecial? (.ref a) (b7 "__len__")) (jN (name:=b7 "__len__") hT zC
  (iW zC hT PySem.F.entry_dict_len ?_ (PySem.F.args_dict_len_1 _)))
 show wpAny _ _ (dictSize a>>=_) _ _ s
 unfold dictSize;rwa[ab (ab (iy ho hdat (av ?_)))];show wpAny _ _ (Builtin.Dict.pendingCount a>>=_) _ _ s;rwa[ab (wpAny_pendingCount_other hd ?_)];rwa[wpAny_ret_mkInt ?_];show wpAny _ _ _ _ _ {s with toks:=s.toks+1};rwa[ab (fI (av ?_))];rwa[ab (wpAny_letGo ?_)];rw[hsz]
 show wpAny _ _ (if ((kvs.length:Nat):Int)<0 then _ else _) _ _ _
 rw[if_neg ∅]
 show wpAny _ _ (if ((kvs.length:Nat):Int)≥2^63 then _ else _) _ _ _
 rw[if_neg ∅]
 erw[ab (Kl (av #[_,rfl,.int kvs.length,H,I.tok _,#[_,rfl],q]))]
theorem HE{P:bf}{w:bJ}{H:Hp}(h:Heap)(hb:bY<h.objs.size):dN P w H (h.push {cls:=.type "dict",data:=.dict #[]}) h.objs.size (.dP []):=
 #[cw _,beq_eq_false_iff_ne.mpr (cA (aX hb)),[],.nil,_,#[],0,aY _ rfl,#[rfl,rfl,rfl],rfl,rfl,wy]
def Tn:TE:=λ_ H Q=>∃o,(o=HO.dK []\/o=.dT []\/o=.dP [])/\∀p,H p=none->Q (.ref p) (upd H p o)
theorem Lz{pos:Pos}:PE X (.Dict [] [] pos) Tn:=λpZ s σ H Q I h=>by
 let#[o,ho,h]:=h;rwa[wpAny_Dict_empty #[.ref s.heap.objs.size,_,I.laid (a:=s.heap.objs.size) (o:=o) (t':=s.toks) (λ_ _ q=>aE _ q) (ar _) ?_,rfl,h _ (I.du.fresh (ar _))]];rcases ho with rfl|rfl|rfl
 .erw[Ah s.heap I.big]
 .erw[Hl s.heap I.big]
 .erw[HE s.heap I.big]
end
section
variable{prog:bf}{w:bJ}{A:cF}{E:Value->aq->Prop}{s:aq}
def Ax(h:Heap)(d:Addr)(es:Array ij)(ep:Nat):Prop:=∃o,h.get? d=some o/\o.data=.dict es ep
theorem Fl{v d:Addr}{es:Array ij}{ep:Nat}{Q:Value->aq->Prop}(hv:s.heap.IsValuesView v d)(hm:Ax s.heap d es ep)
  (hQ:Q (.ref s.heap.objs.size) {s with heap:=s.heap.push {cls:=.type "dict_valueiterator",data:=.fields (List.toArray [.ref d,.int 0 0,.int es.size 0,.int ep 0])} }):
  wpAny (bb prog w) A (pyIter (.ref v)) Q E s:=by
 let#[ov,hov,hcv,hdv]:=id hv;let#[o,ho,hdat]:=hm;rwa[wpAny_pyIter_slot hv.typeIs sT (iW sT hv.typeIs PySem.F.entry_dict_values_iter ?_ (PySem.F.args_dict_values_iter_1 _))];unfold Builtin.«dict_values.__iter__»;rwa[ab (av (ab ?_))];unfold Builtin.Dict_items.dictOf;rwa[ab (jM hov hdv (x:=.ref d) rfl (av (ab ?_)))];unfold Builtin.Dict_items.newIterator;rwa[ab (iy ho hdat (ab (zU ho hdat ?_)))];have hown:Builtin.Dict_items.ownsTuple "dict_valueiterator"=false:=⋯
 dsimp[hown,ak,if_false];rwa[cX (av #[_,rfl,"dict_valueiterator",_,#[_,aY _ rfl,rfl],cH.lookup,?_])];simpa[jD] using hQ
theorem HF{it d:Addr}{i ep:Nat}{es:Array ij}{Q:Option Value->aq->Prop}(hit:s.heap.IsValIter it d i es.size ep)(hm:Ax s.heap d es ep)(hlt:i<es.size)
  (hQ:∀h',h'.IsValIter it d (i+1) es.size ep->fX it s.heap h'->Q (some es[i].val) {s with heap:=h'}):wpAny (bb prog w) A (xN (.ref it)) Q E s:=by
 let#[o,ho,hc,hd]:=id hit;let#[od,hod,hdd]:=id hm;unfold xN;refine ab (wpAny_attempt (jN (name:=b7 "__next__") hit.typeIs cH
  (iW cH hit.typeIs oQ ?_ (oq _))))
 rwa[ab (av (ab (ab ?_)))];rwa[ab (gu hit.typeIs (av ?_))];rwa[ab (wpAny_fieldsOf ho hd ?_)];have hown:Builtin.Dict_items.ownsTuple "dict_valueiterator"=false:=⋯
 dsimp[hown,ak,if_false];show wpAny _ _ (if (bg d==cj)=true then _ else _) _ _ s;rw[if_neg (show ¬((bg d==cj)=true) from aS)]
 rwa[ab (av (ab (iy hod hdd ?_)))];rw[if_neg (by simp)]
 rwa[ab (av (ab (zU hod hdd ?_)))];rw[if_neg (by simp)]
 refine av ?_;dsimp[show ¬((i:Int)<0) from by omega,if_false,gK,iz hlt];refine ab ?_;refine ab (gu hit.typeIs (av ?_));refine ab (qG hit.typeIs ?_);show wpAny _ _ (setField (.ref it) 1 (jD ((i:Int)+1))>>=_) _ _ s;refine ab (mC ho hd (by simp) ?_);have hit':(s.heap.update it (mD (·.setIfInBounds 1 (jD ((i:Int)+1))))).IsValIter it d (i+1) es.size ep:=
  #[_,dC _ ho (pJ (i7 hd _)),(Obj.cls_mapFields ..).trans hc,by rw[i7 hd];simp[jD]]
 rwa[ab (fI ?_)];refine ab (qG (s:={s with heap:=s.heap.update it (mD (·.setIfInBounds 1 (jD ((i:Int)+1))))}) hit'.typeIs ?_);refine ab (qG (s:={s with heap:=s.heap.update it (mD (·.setIfInBounds 1 (jD ((i:Int)+1))))}) hit'.typeIs ?_);show wpAny _ _ (pure es[i].val) _ _ _;erw[av (av #[_,rfl,av (hQ _ hit' (eQ ..))])]
theorem LA{it d:Addr}{i ep:Nat}{es:Array ij}{Q:Option Value->aq->Prop}(hh:A.handled=none)(hit:s.heap.IsValIter it d i es.size ep)(hm:Ax s.heap d es ep)(hge:es.size<=i)
  (hQ:∀h',Heap.ExtBut it s.heap h'->Q none {s with heap:=h'}):wpAny (bb prog w) A (xN (.ref it)) Q E s:=by
 let#[o,ho,hc,hd]:=id hit;let#[od,hod,hdd]:=id hm;unfold xN;refine ab (wpAny_attempt (jN (name:=b7 "__next__") hit.typeIs cH
  (iW cH hit.typeIs oQ ?_ (oq _))))
 rwa[ab (av (ab (ab ?_)))];rwa[ab (gu hit.typeIs (av ?_))];rwa[ab (wpAny_fieldsOf ho hd ?_)];have hown:Builtin.Dict_items.ownsTuple "dict_valueiterator"=false:=⋯
 dsimp[hown,ak,if_false];show wpAny _ _ (if (bg d==cj)=true then _ else _) _ _ s;rw[if_neg (show ¬((bg d==cj)=true) from aS)]
 rwa[ab (av (ab (iy hod hdd ?_)))];rw[if_neg (by simp)]
 rwa[ab (av (ab (zU hod hdd ?_)))];rw[if_neg (by simp)]
 refine av ?_;dsimp[show ¬((i:Int)<0) from by omega,if_false,gK,zR hge];refine ab ?_;refine ab (gu hit.typeIs (av ?_));show wpAny _ _ (setField (.ref it) 0 .none>>=_) _ _ s;refine ab (mC ho hd (by simp) ?_);show wpAny _ _ (newExc (.type "StopIteration") []>>=_) _ _ _;dsimp[newExc,newTuple];refine ab (ab (cX (ab (m:=firstArgMember _ _) (wpAny_of_eq (a:=cj) (by first|rfl| (dsimp[firstArgMember];rfl)) (cX ?_ (by size_fits)))) (by size_fits)));dsimp[raiseNew];refine ab (wpAny_handled ?_);rw[show A.in1.handled=none from hh]
 rwa[ab (av (wpAny_throw ?_))];rwa[ab (pF (T:="StopIteration") (b:=true) #[_,aY _ rfl,rfl] isSubtype_stop (av (hQ _ ?_)))];exact((eQ ..).extBut.push _).push _
theorem Fm(hh:A.handled=none)(I d:Addr)(hne:d≠I)(es:Array ij)(ep:Nat):
  Walks prog w A I [I,d] [I] es.size (λi v=>(es[i]?).map (·.val)=some v) (λi h=>h.IsValIter I d i es.size ep/\Ax h d es ep) where
 sub:=λb hb=>by simp at hb;simp[hb]
 frame:=λ_ _ _ st hk=>#[let ⟨o,e,r⟩:=st.1;#[o,hk I (by simp) o e,r],let ⟨o,e,r⟩:=st.2;#[o,hk d (by simp) o e,r]]
 item:=λi s Q E hi st hQ=>HF st.1 st.2 hi λh' hit' hs'=>
  hQ _ h' s.toks (by rw[iz hi];rfl) #[hit',let ⟨o,e,r⟩:=st.2;#[o,(hs'.2 d hne).trans e,r]] λb o hb e=>hs'.extBut b o (λh=>hb (by simp[h])) e
 done:=λs Q E st hQ=>LA hh st.1 st.2 (ar _) λh' he'=>hQ h' s.toks λb o hb e=>he' b o (λh=>hb (by simp[h])) e
 self:=λ_ _ _ _ st hQ=>wpAny_pyIter_valiter st.1 hQ
theorem HG{r d:Addr}{es:Array ij}{ep:Nat}:KdlSrc prog w "dict_values" r d es.size (λi v=>(es[i]?).map (·.val)=some v) (λh=>h.IsValuesView r d/\Ax h d es ep) where
 type:=λ_ hm=>hm.1.typeIs
 there:=λ_ hm=>#[let ⟨_,ho,_⟩:=hm.1;aM ho,let ⟨_,ho,_⟩:=hm.2;aM ho]
 keep:=λ_ _ hm hk=>#[let ⟨o,ho,x⟩:=hm.1;#[o,hk r (.inl rfl) o ho,x],let ⟨o,ho,x⟩:=hm.2;#[o,hk d (.inr rfl) o ho,x]]
 notList:=⋯
 notTuple:=⋯
 hint:=λ_ _ _ _ hm hq=>kdl_hint_values hm.1.typeIs hq
 iter:=λ_ s hh hm=>#[_,_,(λ_ _ hq=>Fl hm.1 hm.2 hq),Fm hh _ d (let ⟨_,ho,_⟩:=hm.2;aX (aM ho)) es ep,#[#[_,aY _ rfl,rfl,rfl],let ⟨o,ho,x⟩:=hm.2;#[o,aE _ ho,x]]]
end
section
variable{X:Cx}
noncomputable def To(p d:Addr):HO:=.ext λh=>h.IsValuesView p d
theorem Fn:BX X "dict.values" (λx xs H Q=>∃d kvs,x=.ref d/\xs=[]/\H d=some (.dT kvs)/\∀p,H p=none->Q (.ref p) (upd H p (To p d))):=by
 intro pZ s σ H x xs v us Q I rx rs h;let#[d,kvs,rfl,rfl,hd,q]:=h;cases rs;cases (show v=bg d from rx);let#[z,lo,ws,rel,dd]:=Ds I.du hd;refine l7 (S:=λA R s=>s.TypeIs (.ref d) "dict"/\R (.ok (.ret (.ref s.heap.objs.size))) {s with heap:=s.heap.push {cls:=.type "dict_values",data:=.fields (List.toArray [.ref d])} })
  vV dd.typeIs PySem.F.entry_dict_values (PySem.F.args_dict_values_1 _) (.of_wp λA R s h=>?_) #[dd.typeIs,?_]
 .rwa[ab ?_]
  unfold Builtin.Dict.noArgs;rwa[ab (qF h.1 ?_)];show wpAny _ _ (pure d) _ _ s;rwa[av ?_];show wpAny _ _ (Builtin.Dict.showsAll d>>=_) _ _ s;unfold Builtin.Dict.showsAll;rw[if_neg (by rw[lo];erw[aS])]
  erw[ab (av (ab (cX (av #[_,rfl,h.2]))))]
 .refine#[.ref s.heap.objs.size,_,I.laid (a:=s.heap.objs.size) (o:=To s.heap.objs.size d) (t':=s.toks) (λ_ _ q=>aE _ q) (ar _) ?_,rfl,q _ (I.du.fresh (ar _))]
  have e:(s.heap.push {cls:=.type "dict_values",data:=.fields (List.toArray [.ref d])}).get? s.heap.objs.size=some {cls:=.type "dict_values",data:=.fields (List.toArray [.ref d])}:=aY _ rfl;exact#[#[_,e,rfl,rfl],#[_,e],λh1 h2 #[o,ho,r] k=>#[o,k o ho,r]]
theorem Co(hc:X.calm=true):iA X (.type "list") (λxs H Q=>∃p d kvs,xs=[.ref p]/\H p=some (To p d)/\H d=some (.dT kvs)/\∀l,H l=none->Q (.ref l) (upd H l (.lst (kvs.map (·.2))))):=by
 k_ne;let#[p,d,kvs,rfl,hp,hd,q]:=h;let#[u,rfl,ru]:=vals1 r;cases ru;let#[hv,_,_]:=(show dN X.prog X.w H s.heap p (To p d) from I.du p _ hp)
 let#[z,lo,ws,rel,o,es,ep,ho,hx,hdat,he,_]:=Ds I.du hd;have hsz:es.size=kvs.length:=by rw[zQ he,<-Paired.length rel]
 rwa[kdl_call HG (I.ok.hd hc) #[hv,o,ho,hdat] (by rw[hsz];erw[z]) λh' tk acc' c' hk hl hi=>?_]
 have ea:acc'.toList=ws.map (·.2.2):=by
  rwa[List.ext_getElem? λj=>?_]
  rw[Array.getElem?_toList,aC]
  have e3:es[j]?=(ws[j]?).map (Bt (mv (cR X.prog X.w))):=entry_at he j;cases e4:acc'[j]? with
  |some v=>
   have this:(es[j]?).map (·.val)=some v:=hi.2 j v e4;rw[e3] at this;cases e5:ws[j]? with
   |none=>rw[e5] at this;cases this
   |some q=>rw[e5] at this;erw[this.symm]
  |none=>
   have h1:acc'.size<=j:=Array.getElem?_eq_none_iff.mp e4;rw[dD (by rw[<-Paired.length rel,<-hsz,<-hi.1];erw[h1])];rfl
 have vals:∀{l:List (List Key×V)}{m:List (List Key×Addr×Value)},KT H l m->Vals (l.map (·.2)) (m.map (·.2.2)):=by
  intro l m r;induction r with
  |nil=>erw[.nil]
  |cons h _ ih=>erw[.cons h.2.2 ih]
 refine#[.ref s.heap.objs.size,_,I.laid (a:=s.heap.objs.size) (o:=.lst (kvs.map (·.2))) (t':=tk) hk (ar _) #[by rw[ah];erw[z],acc'.toList,c',ea▸vals rel,?_],rfl,q _ (I.du.fresh (ar _))];rw[Array.toArray_toList];erw[hl]
end
end L2
namespace PL
section
variable{S:bj}{Q:KU}{q:Bool->Prop}{r:U->Prop}{i j:Int}{a b:List Nat}{x y:U}{us vs:List U}{m n:Nat}
theorem O4:kh .add (.int i) (.int j) S Q=Q (.int (i+j)) S:=rfl
theorem O5:kh .add (.str a) (.str b) S Q=(a.length+b.length<=1000000/\Q (.str (a++b)) S):=rfl
theorem O6:kh .add (.tup us) (.tup vs) S Q=(us.length+vs.length<=1000000/\Q (.tup (us++vs)) S):=rfl
theorem Xd:kh .add (.loc m) (.loc n) S Q=getL S[m]? λa=>getL S[n]? λb=>a.length+b.length<=1000000/\Q (.loc S.length) (S++[.lst (a++b)]):=rfl
theorem O7:kh .sub (.int i) (.int j) S Q=Q (.int (i-j)) S:=rfl
theorem Xe:kh .mul (.int i) (.int j) S Q=(((-(2^64)<i/\i<2^64)\/(-(2^64)<j/\j<2^64))/\Q (.int (i*j)) S):=rfl
theorem Xf:kh .mul (.str a) (.int j) S Q=(∃c,a=[c]/\0<=j/\j<=1000/\Q (.str (dH j.toNat c)) S):=rfl
theorem V0:kh .fdiv (.int i) (.int j) S Q=((0<j/\j<1073741824)/\Q (.int (i/j)) S):=rfl
theorem Xg:kh .mod (.int i) (.int j) S Q=(0<j/\Q (.int (i%j)) S):=rfl
theorem LB:kh .band (.int i) (.int j) S Q=((0<=i/\0<=j)/\Q (.int ((i.toNat&&&j.toNat:Nat):Int)) S):=rfl
theorem O8:kh .bor (.int i) (.int j) S Q=((0<=i/\0<=j)/\Q (.int ((i.toNat|||j.toNat:Nat):Int)) S):=rfl
theorem O9:kh .shl (.int i) (.int j) S Q=((0<=i/\i<1000/\0<=j/\j<=1000)/\Q (.int (i*2^j.toNat)) S):=rfl
theorem Pa:kh .shr (.int i) (.int j) S Q=((0<=i/\0<=j)/\Q (.int (i/2^j.toNat)) S):=rfl
theorem YN{o:t9}:yx o (.int i) y S Q=kh o (.int i) y S Q:=rfl
theorem YO{o:t9}:yx o (.str a) y S Q=kh o (.str a) y S Q:=rfl
theorem YQ:i0 .eq (.int i) y S q=u6 (.int i) y q:=rfl
theorem Nu:i0 .eq (.str a) y S q=u6 (.str a) y q:=rfl
theorem YR:i0 .eq .bV y S q=u6 .bV y q:=rfl
theorem YS:i0 .eq (.tup us) y S q=u6 (.tup us) y q:=rfl
theorem Tp:i0 .ne (.int i) y S q=(Ar (.int i) y=true/\u6 (.int i) y λb=>q !b):=rfl
theorem YT:i0 .ne (.str a) y S q=(Ar (.str a) y=true/\u6 (.str a) y λb=>q !b):=rfl
theorem Tq:i0 .ne .bV y S q=(Ar .bV y=true/\u6 .bV y λb=>q !b):=rfl
theorem YU:i0 .ne (.tup us) y S q=VY (.tup us) y q:=rfl
theorem Xh:(Ar (.int i) y=true)=True:=eq_true rfl
theorem Z6:(Ar (.str a) y=true)=True:=eq_true rfl
theorem Xi:(Ar .bV y=true)=True:=eq_true rfl
theorem Z7:i0 .lt (.int i) (.int j) S q=q (decide (i<j)):=rfl
theorem Z8:i0 .le (.int i) (.int j) S q=q (decide (i<=j)):=rfl
theorem Z9:i0 .gt (.int i) (.int j) S q=q (decide (j<i)):=rfl
theorem aaa:i0 .ge (.int i) (.int j) S q=q (decide (j<=i)):=rfl
theorem Pb{c:Nat}:∀{b:List Nat},iP [c] b=b.contains c
 |[]=>rfl
 |x::xs=>by
  rw[iP,Pb (b:=xs),List.contains_cons]
  simp[List.isPrefixOf]
theorem LC{k:Nat}:i0 .isin (.str [k]) (.str b) S q=q (b.contains k):=by
 rw[<-Pb];rfl
theorem LD{k:Nat}:i0 .nA (.str [k]) (.str b) S q=q !(b.contains k):=by
 rw[<-Pb];rfl
theorem Ay{kvs:List (List Nat×List Nat)}:i0 .isin (.str a) (.tab kvs) S q=q (kvs.lookup a).isSome:=rfl
theorem Pc:i0 .isin x (.tup us) S q=qT x us q:=rfl
theorem Pd:i0 .nA x (.tup us) S q=qT x us λb=>q !b:=rfl
theorem Pe:i0 .isin x (.loc n) S q=getL S[n]? λus=>qT x us q:=rfl
theorem Xj:i0 .nA (.str a) (.loc n) S q=getL S[n]? λus=>qT (.str a) us λb=>q !b:=rfl
theorem LF:i0 .nA (.tup vs) (.loc n) S q=getL S[n]? λus=>(k9 vs=true/\k9 us=true/\nM us<=100)/\q !(us.any λy=>oX y (.tup vs)):=rfl
theorem Xk:i0 .Ke x .bV S q=q (oB x):=rfl
theorem Pf:i0 .Ca x .bV S q=q (!oB x):=rfl
theorem ew{q:Bool->Prop}{v:Bool}(h1:Hz x y=true)(h2:wZ x=true)(h3:wZ y=true)(h4:dep x<=100)(h:oX x y=v):u6 x y q=q v:=by
 rw[<-h];erw[propext #[λz=>z.2,λz=>#[#[h1,h2,h3,h4],z]]]
theorem Xm:u6 (.int i) (.int j) q=q (i==j):=ew rfl rfl rfl (cw _) rfl
theorem Ts:u6 (.str a) (.str b) q=q (a==b):=ew rfl rfl rfl (cw _) rfl
theorem Xo:u6 .bV .bV q=q true:=ew rfl rfl rfl (cw _) rfl
theorem aab{a b:Bool}:u6 (.bl a) (.bl b) q=q (a==b):=ew rfl rfl rfl (cw _) rfl
theorem aac:u6 (.int i) .bV q=q false:=ew rfl rfl rfl (cw _) rfl
theorem aad:u6 .bV (.int i) q=q false:=ew rfl rfl rfl (cw _) rfl
theorem aae:u6 (.int i) (.str a) q=q false:=ew rfl rfl rfl (cw _) rfl
theorem aaf:u6 (.str a) (.int i) q=q false:=ew rfl rfl rfl (cw _) rfl
theorem Tt(l:List (List Nat)):(l.map U.str).all flat=true:=by simp[flat]
theorem anyS{l:List (List Nat)}:qT (.str a) (l.map .str) q=q (l.any (·==a)):=by
 rwa[propext #[λz=>?_,λz=>#[#[rfl,Tt l],?_]]]
 .have:=z.2;rw[Bp] at this;erw[this]
 .rw[Bp];erw[z]
theorem Tv:Kf (.str a) (.int i) S r=(a.length<=1000000/\opt (sk a i) λc=>r (.str [c])):=rfl
theorem DF:Kf (.tup us) (.int i) S r=(us.length<=1000000/\opt (sk us i) r):=rfl
theorem YV{ns:List Int}:Kf (.sj ns) (.int i) S r=(ns.length<=1000000/\opt (sk ns i) λn=>r (.int n)):=rfl
theorem YW:Kf (.loc n) (.int i) S r=getL S[n]? λus=>opt (sk us i) r:=rfl
theorem yt{kvs:List (List Nat×List Nat)}:Kf (.tab kvs) (.str a) S r=opt (kvs.lookup a) λv=>r (.str v):=rfl
theorem iC{f:String}:nN (.loc n) f S r=qg S[n]? λ_ fs=>opt (fs.lookup f) r:=rfl
theorem YX:mh S (.str a)=some a.length:=rfl
theorem YY:mh S (.tup us)=some us.length:=rfl
theorem YZ{ns:List Int}:mh S (.sj ns)=some ns.length:=rfl
theorem nE(h:S[n]?=some (.lst us)):mh S (.loc n)=some us.length:=by dsimp[mh,h]
theorem Y0{c:Bool}:u7 S (.bl c)=some c:=rfl
theorem Y1:u7 S .bV=some false:=rfl
theorem Y2:u7 S (.int i)=some (i !=0):=rfl
theorem Y3{ns:List Int}:u7 S (.sj ns)=some (ns.length !=0):=rfl
theorem Y4:so .len [x] S Q=opt (mh S x) λn=>n<=1000000/\Q (.int n) S:=rfl
theorem V1:so .tuple [.loc n] S Q=getL S[n]? λus=>Q (.tup us) S:=rfl
theorem Xp:so .list [.loc n] S Q=getL S[n]? λus=>Q (.loc S.length) (S++[.lst us]):=rfl
theorem V2:so .list [.tup us] S Q=(us.length<=1000000/\Q (.loc S.length) (S++[.lst us])):=rfl
theorem Y5:so .all [.loc n] S Q=(∃bs:List Bool,S[n]?=some (.lst (bs.map .bl))/\Q (.bl (bs.all id)) S):=rfl
theorem Y6:so .any [.loc n] S Q=(∃bs:List Bool,S[n]?=some (.lst (bs.map .bl))/\Q (.bl (bs.any id)) S):=rfl
theorem Xq:so .dict [.loc n] S Q=(∃ps:List (List Nat×U),S[n]?=some (.lst (ps.map λp=>.tup [.str p.1,p.2]))/\(ps.map (·.1)).Nodup/\Q (.loc S.length) (S++[.eL (ps.map λp=>(.str p.1,p.2))])):=rfl
theorem Xr:qU .mN (.int i) [] S Q=(0<=i/\Q (.int (tB i.toNat:Nat)) S):=rfl
theorem Y7:qU .get (.loc n) [.str a,x] S Q=getD S[n]? λkvs=>∃ps:List (List Nat×U),kvs=(ps.map λp=>(U.str p.1,p.2))/\Q ((ps.lookup a).getD x) S:=rfl
theorem V3:tR .mN (.int i) S=True:=rfl
theorem Xs:tR .get (.loc n) S=iU S[n]? λ_=>True:=rfl
theorem Xt:qU .get (.loc n) [.str a] S Q=iU S[n]? λkvs=>mP (.str a)=true/\Q ((u5 (.str a) kvs).getD .bV) S:=rfl
theorem Y8:O0 (.loc n) y S r=iU S[n]? λkvs=>mP y=true/\opt (u5 y kvs) r:=rfl
theorem Xu:i0 .Cb x (.loc n) S q=iU S[n]? λkvs=>mP x=true/\q (u5 x kvs).isNone:=rfl
theorem Xv:qU .nK (.loc n) [x,y] S Q=pR S n x y Q:=rfl
theorem Dx:tR .join (.str a) S=True:=rfl
theorem Ao:tR .index (.str a) S=True:=rfl
theorem xc:tR .startswith (.str a) S=True:=rfl
theorem r8:tR .append (.loc n) S=getL S[n]? λ_=>True:=rfl
theorem wR:tR .extend (.loc n) S=getL S[n]? λ_=>True:=rfl
theorem Xw:qU .join (.str a) [.loc n] S Q=(∃ts:List (List Nat),S[n]?=some (.lst (ts.map .str))/\(ts.map cD).sum+ts.length*a.length<=1000000/\Q (.str (lz a ts)) S):=rfl
theorem V4:qU .index (.str a) [.str b] S Q=(∃c,b=[c]/\c∈a/\Q (.int (a.idxOf c:Nat)) S):=rfl
theorem Tw:qU .startswith (.str a) [.str b] S Q=Q (.bl (b.isPrefixOf a)) S:=rfl
theorem Tz:qU .append (.loc n) [x] S Q=getL S[n]? λus=>us.length<1000000/\Q .bV (S.set n (.lst (us++[x]))):=rfl
theorem TB:qU .extend (.loc n) [.loc m] S Q=getL S[n]? λus=>getL S[m]? λws=>us.length+ws.length<=1000000/\Q .bV (S.set n (.lst (us++ws))):=rfl
theorem v_s{R:List U->(bj->Prop)->Prop}:HB (.str a) S R=R (a.map λc=>.str [c]) (λ_=>True):=rfl
theorem v_t{R:List U->(bj->Prop)->Prop}:HB (.tup us) S R=(us.length<=1000000/\R us (λ_=>True)):=rfl
theorem v_l{R:List U->(bj->Prop)->Prop}:HB (.loc n) S R=getL S[n]? λus=>R us (λS'=>S'[n]?=some (.lst us)):=rfl
theorem bind_f{caps:Env}{k:Env->Prop}:pS false x caps k=k (some x::caps):=rfl
theorem Xx{caps:Env}{k:Env->Prop}:pS true x caps k=Nq x λa b=>k (some a::some b::caps):=rfl
theorem jb{α:Type}{xs:List α}{k:Nat}:sk xs (k:Int)=xs[k]?:=by
 unfold sk OZ;rw[if_pos ∅]
 split
 .simp
 .rename_i h
  rw[dD ∅]
  rfl
theorem su{α:Type}{x:α}{xs:List α}:sk (x::xs) 0=some x:=by
 have:=jb (xs:=x::xs) (k:=0);simpa using this
theorem mQ{α:Type}{x y:α}{xs:List α}:sk (x::y::xs) 1=some y:=by
 have:=jb (xs:=x::y::xs) (k:=1);simpa using this
end
theorem vb{α:Type}{o:Option α}{Q Q':α->Prop}(h:∀a,Q a->Q' a)(w:opt o Q):opt o Q':=by
 cases o with
 |none=>erw[w]
 |some a=>erw[h a w]
theorem sv{o:Option SO}{Q Q':List U->Prop}(h:∀a,Q a->Q' a)(w:getL o Q):getL o Q':=by
 let#[a,e,z]:=df.mp w;erw[df.mpr #[a,e,h a z]]
theorem Az{x y:U}{Q Q':Bool->Prop}(h:∀b,Q b->Q' b)(w:u6 x y Q):u6 x y Q':=#[w.1,h _ w.2]
theorem o7{x:U}{us:List U}{Q Q':Bool->Prop}(h:∀b,Q b->Q' b)(w:qT x us Q):qT x us Q':=#[w.1,h _ w.2]
theorem qV{x:U}{Q Q':Int->Prop}(h:∀b,Q b->Q' b)(w:lS x Q):lS x Q':=by
 cases x<;>first|exact h _ w|exact w
theorem vc{x:U}{Q Q':List Nat->Prop}(h:∀b,Q b->Q' b)(w:Nr x Q):Nr x Q':=by
 cases x<;>first|exact h _ w|exact w
theorem AA{x:U}{Q Q':Prop}(h:Q->Q')(w:VX x Q):VX x Q':=by
 cases x<;>first|exact h w|exact w
theorem HH{x y:U}{Q Q':Bool->Prop}(h:∀b,Q b->Q' b)(w:VY x y Q):VY x y Q':=#[w.1,Az (λb z=>h _ z) w.2]
theorem HI{x:U}{us:List U}{Q Q':Bool->Prop}(h:∀b,Q b->Q' b)(w:Xc x us Q):Xc x us Q':=by
 cases x<;>first|exact#[w.1,h _ w.2]|exact o7 (λb z=>h _ z) w
theorem HJ{x:U}{Q Q':Nat->Prop}(h:∀b,Q b->Q' b)(w:ua x Q):ua x Q':=by
 cases x<;>first|exact h _ w|exact w
theorem Cp{o:Option SO}{Q Q':List (U×U)->Prop}(h:∀a,Q a->Q' a)(w:iU o Q):iU o Q':=by
 let#[a,e,z]:=iV.mp w;erw[iV.mpr #[a,e,h a z]]
theorem xg{o:Gh}{x y:U}{S:bj}{Q Q':Bool->Prop}(h:∀b,Q b->Q' b)(w:i0 o x y S Q):i0 o x y S Q':=by
 cases o with
 |eq=>erw[Az h w]
 |ne=>erw[HH h w]
 |isin=>cases y<;>first|exact vc (λ_ z=>h _ z) w|exact o7 h w|exact sv (λ_ z=>o7 h z) w|exact w
 |nA=>cases y<;>first|exact vc (λ_ z=>h _ z) w|exact o7 (λb z=>h _ z) w|exact sv (λ_ z=>HI h z) w|exact w
 |Ke=>erw[AA (h _) w]
 |Ca=>erw[AA (h _) w]
 |Cb=>erw[HJ (λ_ z=>Cp (λ_ z=>#[z.1,h _ z.2]) z) w]
 |_=>erw[qV (λ_ z=>qV (λ_ z=>h _ z) z) w]
theorem HK{x y:U}{S:bj}{Q Q':U->Prop}(h:∀b,Q b->Q' b)(w:Kf x y S Q):Kf x y S Q':=by
 cases x<;>first|exact qV (λ_ z=>#[z.1,vb (λ_ z=>h _ z) z.2]) w|exact qV (λ_ z=>sv (λ_ z=>vb (λ_ z=>h _ z) z) z) w|exact vc (λ_ z=>vb (λ_ z=>h _ z) z) w|exact w
def Keeps(Γ:bT)(b:dm)(k:Nat)(sp:Spec):Prop:=∀us S Q E,sp us S Q E->tU Γ b #[λ_ S1=>Q .bV S1,Q,λ_=>E] (us.map some++dH k none) S
section
variable{Γ:bT}{D:Ends}{env:Env}{S:bj}{i:Nat}{e o:Ex}{c:Tx}{a b ss:dm}{s:Sm}{f:String}
def Rest(Γ:bT)(ss:dm)(D:Ends)(env:Env)(S:bj):Prop:=tU Γ ss D env S
theorem Rest.go(h:tU Γ ss D env S):Rest Γ ss D env S:=h
theorem Y9:tU Γ .nil D env S=D.nx env S:=rfl
theorem Xy:tU Γ (.cons s ss) D env S=WS Γ s #[λen S1=>tU Γ ss D en S1,D.rt,D.ex] env S:=rfl
theorem Zc:WS Γ (.ifs c a b) D env S=WT Γ c env S (λt S1=>if t=true then tU Γ a D env S1 else tU Γ b D env S1) (D.ex env):=rfl
theorem Zd:WS Γ (.Ce c b) D env S=∃n,yy (λen S1 k=>WT Γ c en S1 k (D.ex en)) (λen S1 k=>tU Γ b #[k,D.rt,D.ex] en S1) D.nx n env S:=rfl
theorem Ze:WS Γ (.RB a) D env S=tU Γ a #[D.nx,D.rt,λ_ _ _=>False] env S:=rfl
variable{Q:KU}{E:KX}{e1 e2:Ex}{es ks:tw}{P:List U->bj->Prop}{B:Bool->bj->Prop}{q m:String}{t1 t2:Tx}{O:Option Int->bj->Prop}{R:List U->(bj->Prop)->bj->Prop}
theorem w_var:WE Γ (.var i) env S Q E=yu env[i]? λu=>Q u S:=rfl
theorem w_lit{u:U}:WE Γ (.lit u) env S Q E=Q u S:=rfl
theorem Zf{o:t9}:WE Γ (.bin o e1 e2) env S Q E=WE Γ e1 env S (λx S1=>WE Γ e2 env S1 (λy S2=>kh o x y S2 Q) E) E:=rfl
theorem Zg:WE Γ (.neg e1) env S Q E=WE Γ e1 env S (λx S1=>lS x λi=>Q (.int (-i)) S1) E:=rfl
theorem w_not:WE Γ (.not e1) env S Q E=WE Γ e1 env S (λx S1=>Np x λb=>Q (.bl !b) S1) E:=rfl
theorem w_and:WE Γ (.and e1 e2) env S Q E=WE Γ e1 env S (λx S1=>Np x λc=>if c=true then WE Γ e2 env S1 Q E else Q (.bl false) S1) E:=rfl
theorem w_or:WE Γ (.or e1 e2) env S Q E=WE Γ e1 env S (λx S1=>Np x λc=>if c=true then Q (.bl true) S1 else WE Γ e2 env S1 Q E) E:=rfl
theorem Zh{o:Gh}:WE Γ (.cmp o e1 e2) env S Q E=WE Γ e1 env S (λx S1=>WE Γ e2 env S1 (λy S2=>i0 o x y S2 λr=>Q (.bl r) S2) E) E:=rfl
theorem Zi:WE Γ (.Cc c e1 e2) env S Q E=WT Γ c env S (λt S1=>if t=true then WE Γ e1 env S1 Q E else WE Γ e2 env S1 Q E) E:=rfl
theorem Xz:WE Γ (.call f es) env S Q E=v9 Γ es env S (λus S1=>Γ f us S1 Q E) E:=rfl
theorem w_mk:WE Γ (.mk f q es) env S Q E=v9 Γ es env S (λus S1=>Γ q (.loc S1.length::us) (S1++[.ins f []]) (λv S2=>v=.bV/\Q (.loc S1.length) S2) E) E:=rfl
theorem XA:WE Γ (.cK f m q o es) env S Q E=WE Γ o env S (λx S1=>ua x λn=>qg S1[n]? λc' fs=>(c'=f/\fs.lookup m=none)/\v9 Γ es env S1 (λus S2=>Γ q (x::us) S2 Q E) E) E:=rfl
theorem Zj{b:RA}:WE Γ (.blt b es) env S Q E=v9 Γ es env S (λus S1=>so b us S1 Q) E:=rfl
theorem Zk{b:Lp}:WE Γ (.jB b o es) env S Q E=WE Γ o env S (λx S1=>tR b x S1/\v9 Γ es env S1 (λus S2=>qU b x us S2 Q) E) E:=rfl
theorem w_fld:WE Γ (.fld o f) env S Q E=WE Γ o env S (λx S1=>nN x f S1 λv=>Q v S1) E:=rfl
theorem aai:WE Γ (.ix e1 e2) env S Q E=WE Γ e1 env S (λx S1=>WE Γ e2 env S1 (λy S2=>Kf x y S2 λv=>Q v S2) E) E:=rfl
theorem aaj{lo hi:Ox}:WE Γ (.sl o lo hi) env S Q E=WE Γ o env S (λx S1=>WO Γ lo env S1 (λl S2=>WO Γ hi env S2 (λh S3=>Nt x l h S3 Q) E) E) E:=rfl
theorem Zl:WE Γ (.tup es) env S Q E=v9 Γ es env S (λus S1=>us.length<=1000000/\Q (.tup us) S1) E:=rfl
theorem Zm:WE Γ (.lst es) env S Q E=v9 Γ es env S (λus S1=>us.length<=1000000/\Q (.loc S1.length) (S1++[.lst us])) E:=rfl
theorem XB{pr:Bool}{it:It}{ci:List Nat}:WE Γ (.comp pr e it c ci) env S Q E=WI Γ it env S (λus g S1=>nB g (λu S2 k=>pS pr u (mi env ci) λen=>WT Γ c en S2 k λ_ _=>False)
   (λu S2 k=>pS pr u (mi env ci) λen=>WE Γ e en S2 k λ_ _=>False) (λacc S3=>Q (.loc S3.length) (S3++[.lst acc])) us [] S1) E:=rfl
theorem Zn:v9 Γ .nil env S P E=P [] S:=rfl
theorem XC:v9 Γ (.cons e es) env S P E=WE Γ e env S (λx S1=>v9 Γ es env S1 (λxs S2=>P (x::xs) S2) E) E:=rfl
theorem aak:WO Γ .no env S O E=O none S:=rfl
theorem aal:WO Γ (.e e1) env S O E=WE Γ e1 env S (λx S1=>lS x λj=>O (some j) S1) E:=rfl
theorem TC:WI Γ (.val e) env S R E=WE Γ e env S (λx S1=>HB x S1 λus g=>R us g S1) E:=rfl
theorem Zo:WI Γ (.range e) env S R E=WE Γ e env S (λx S1=>lS x λn=>n<=1000000/\-(1000000:Int)<=n/\R ((cf n.toNat).map λk=>.int (k:Nat)) (λ_=>True) S1) E:=rfl
theorem XD:WI Γ (.enum e) env S R E=WE Γ e env S (λx S1=>ua x λn=>getL S1[n]? λus=>R (us.mapIdx λi u=>.tup [.int (i:Nat),u]) (λS'=>S'[n]?=some (.lst us)) S1) E:=rfl
theorem Zp:WT Γ (.de e) env S B E=WE Γ e env S (λx S1=>opt (u7 S1 x) λb=>B b S1) E:=rfl
theorem XF:WT Γ (.not t1) env S B E=WT Γ t1 env S (λb S1=>B (!b) S1) E:=rfl
theorem XG:WT Γ (.and t1 t2) env S B E=WT Γ t1 env S (λc S1=>if c=true then WT Γ t2 env S1 B E else B false S1) E:=rfl
theorem Zq:WT Γ (.or t1 t2) env S B E=WT Γ t1 env S (λc S1=>if c=true then B true S1 else WT Γ t2 env S1 B E) E:=rfl
theorem HL:tU Γ (.cons s ss) D env S=WS Γ s #[λen S1=>Rest Γ ss D en S1,D.rt,D.ex] env S:=rfl
theorem Zr:tU Γ .nil D env S=D.nx env S:=rfl
theorem Zs:WS Γ (.set i e) D env S=WE Γ e env S (λu S1=>D.nx (env.set i (some u)) S1) (D.ex env):=rfl
theorem Zt{p:t9}:WS Γ (.aug i p e) D env S=yu env[i]? λx=>WE Γ e env S (λy S1=>yx p x y S1 λz S2=>D.nx (env.set i (some z)) S2) (D.ex env):=rfl
theorem aam:WS Γ (.ex e) D env S=WE Γ e env S (λ_ S1=>D.nx env S1) (D.ex env):=rfl
theorem Zu:WS Γ (.ret e) D env S=WE Γ e env S D.rt (D.ex env):=rfl
theorem Zv:WS Γ (.ifs c a b) D env S=WT Γ c env S (λt S1=>if t=true then Rest Γ a D env S1 else Rest Γ b D env S1) (D.ex env):=rfl
theorem TF:WS Γ (.Ce c b) D env S=∃n,yy (λen S1 k=>WT Γ c en S1 k (D.ex en)) (λen S1 k=>Rest Γ b #[k,D.rt,D.ex] en S1) D.nx n env S:=rfl
theorem TH{it:It}:WS Γ (.gU (.name i) it b) D env S=WI Γ it env S (λus g S1=>u9 g (λu en S2 k=>Rest Γ b #[k,D.rt,D.ex] (en.set i (some u)) S2) D.nx us env S1) (D.ex env):=rfl
theorem Zw:WS Γ (.RB a) D env S=Rest Γ a #[D.nx,D.rt,λ_ _ _=>False] env S:=rfl
theorem XH:WS Γ (.mO o f e) D env S=WE Γ e env S (λu S1=>WE Γ o env S1 (λx S2=>ua x λn=>qg S2[n]? λc fs=>fs.length<100/\D.nx env (S2.set n (.ins c (gV f u fs)))) (D.ex env)) (D.ex env):=rfl
theorem XI{p:t9}:WS Γ (.Cd o f p e) D env S=WE Γ o env S (λx S1=>ua x λn=>qg S1[n]? λc fs=>opt (fs.lookup f) λv=>
   WE Γ e env S1 (λy S2=>yx p v y S2 λz S3=>qg S3[n]? λc' fs'=>c'=c/\fs'.length<100/\D.nx env (S3.set n (.ins c (gV f z fs')))) (D.ex env)) (D.ex env):=rfl
theorem XJ{p:t9}{j:Ex}:WS Γ (.E9 o j p e) D env S=WE Γ o env S (λx S1=>WE Γ j env S1 (λy S2=>ua x λn=>lS y λk=>getL S2[n]? λus=>0<=k/\opt (us[k.toNat]?) λv=>
   WE Γ e env S2 (λz S3=>yx p v z S3 λr S4=>getL S4[n]? λus'=>k.toNat<us'.length/\D.nx env (S4.set n (.lst (us'.set k.toNat r)))) (D.ex env)) (D.ex env)) (D.ex env):=rfl
theorem Zx:WE Γ (.Lq e1 e2) env S Q E=WE Γ e1 env S (λx S1=>WE Γ e2 env S1 (λy S2=>O0 x y S2 λv=>Q v S2) E) E:=rfl
theorem vd:WE Γ (.eL .nil .nil) env S Q E=(0<=100/\(Q (.loc S.length) (S++[.eL []])\/Q (.loc S.length) (S++[.t8 []])\/Q (.loc S.length) (S++[.wX []]))):=rfl
theorem XM:WI Γ (.keys e) env S R E=WE Γ e env S (λx S1=>ua x λn=>iU S1[n]? λkvs=>R (kvs.map (·.1)) (λS'=>S'[n]?=some (.uY kvs)) (S1.set n (.uY kvs))) E:=rfl
theorem XO{j:Ex}:WS Γ (.nK o j e) D env S=WE Γ e env S (λu S1=>WE Γ o env S1 (λx S2=>WE Γ j env S2 (λy S3=>ua x λn=>getD S3[n]? λkvs=>(mP y=true/\u5 y kvs=none/\kvs.length<1000000)/\D.nx env (S3.set n (.eL (kvs++[(y,u)])))) (D.ex env)) (D.ex env)) (D.ex env):=rfl
theorem Zy{it:It}{j:Nat}:WS Γ (.gU (.pair i j) it b) D env S=WI Γ it env S (λus g S1=>u9 g (λu en S2 k=>Nq u λx y=>Rest Γ b #[k,D.rt,D.ex] ((en.set i (some x)).set j (some y)) S2) D.nx us env S1) (D.ex env):=rfl
theorem ca{sp:Spec}{us:List U}{Q:KU}{E:KX}(h:Γ f=sp)(k:sp us S Q E):Γ f us S Q E:=by rw[h];erw[k]
end
noncomputable abbrev SG:List Nat:=[10,32,33,34,35,36,38,39,40,41,42,43,44,45,46,47,48,49,50,51,52,53,54,55,56,57,58,59,60,61,62,63,64,65,66,67,68,69,70,71,72,73,74,75,76,77,78,79,80,81,82,83,84,85,86,87,88,89,90,91,92,93,94,95,96,97,98,99,100,101,102,103,104,105,106,107,108,109,110,111,112,113,114,115,116,117,118,119,120,121,122,123,124,125,126]
noncomputable abbrev SG1:List Nat:=[32,33,34,35,36,38,39,40,41,42,43,44,45,46,47,48,49,50,51,52,53,54,55,56,57,58,59,60,61,62,63,64,65,66,67,68,69,70,71,72,73,74,75,76,77,78,79,80,81,82,83,84,85,86,87,88,89,90,91,92,93,94,95,96,97,98,99,100,101,102,103,104,105,106,107,108,109,110,111,112,113,114,115,116,117,118,119,120,121,122,123,124,125,126]
noncomputable def mR:dm:=#v[.ret (.jB .join (.lit (.str [])) #v[.comp false @0 (.val (.lit (.str SG))) (.de (.cmp .isin @0 @1)) [0]])]
noncomputable def o9:dm:=#v[.ret (.jB .join (.lit (.str [])) #v[.comp false @0 (.val (.lit (.str SG))) (.de (.cmp .nA @0 @1)) [0]])]
noncomputable def mS:dm:=#v[.ret (.cmp .lt (.jB .index (.lit (.str SG)) #v[@0]) (.jB .index (.lit (.str SG)) #v[@1]))]
noncomputable def pb:dm:=#v[.ret (.sl (.lit (.str SG)) (.e (.jB .index (.lit (.str SG)) #v[@0])) (.e (.bin .add (.jB .index (.lit (.str SG)) #v[@1]) ↑1)))]
noncomputable def yB:dm:=#v[.set 1 (.mk "Reader" "Reader.__init__" #v[@0]),.set 2 (.cK "Reader" "choice" "Reader.choice" @1 .nil),.ifs (.de (.cmp .lt (.fld @1 "at") (.blt .len #v[@0]))) #v[.ex (.ix (.lit .bV) (.lit .bV))] .nil,.ret @2]
noncomputable def qW:dm:=#v[.ret (.Cc (.de (.cmp .eq (.blt .len #v[@1]) ↑1)) (.ix @1 ↑0) (.tup #v[@0,.blt .tuple #v[@1]]))]
noncomputable def jQ:dm:=#v[.mO @0 "text" @1,.mO @0 "at" ↑0,.mO @0 "depth" ↑0]
noncomputable def jR:dm:=#v[.ret (.and (.cmp .lt (.fld @0 "at") (.blt .len #v[.fld @0 "text"])) (.cmp .isin (.ix (.fld @0 "text") (.fld @0 "at")) @1))]
noncomputable def iH:dm:=#v[.ifs (.not (.de (.cK "Reader" "sees" "Reader.sees" @0 #v[@1]))) #v[.ex (.ix (.lit .bV) (.lit .bV))] .nil,.Cd @0 "at" .add ↑1,.ret (.ix (.fld @0 "text") (.bin .sub (.fld @0 "at") ↑1))]
noncomputable def iI:dm:=#v[.set 1 (.lst #v[.cK "Reader" "row" "Reader.row" @0 .nil]),.Ce (.de (.cK "Reader" "sees" "Reader.sees" @0 #v[↑[124]])) #v[.ex (.cK "Reader" "passes" "Reader.passes" @0 #v[↑[124]]),.ex (.jB .append @1 #v[.cK "Reader" "row" "Reader.row" @0 .nil])],.ret (.call "joined" #v[↑[111,114],@1])]
noncomputable def kA:dm:=#v[.set 1 (.lst #v[.cK "Reader" "repeat" "Reader.repeat" @0 .nil]),.Ce (.and (.de (.cmp .lt (.fld @0 "at") (.blt .len #v[.fld @0 "text"]))) (.not (.de (.cK "Reader" "sees" "Reader.sees" @0 #v[↑[124,41]])))) #v[.ex (.jB .append @1 #v[.cK "Reader" "repeat" "Reader.repeat" @0 .nil])],.ret (.call "joined" #v[↑[114,111,119],@1])]
noncomputable def iJ:dm:=#v[.set 1 (.cK "Reader" "atom" "Reader.atom" @0 .nil),.Ce (.de (.cK "Reader" "sees" "Reader.sees" @0 #v[↑[42,43,63]])) #v[.set 1 (.tup #v[.ix (.lit (.tab [([42],[115,116,97,114]),([43],[112,108,117,115]),([63],[109,97,121,98,101])])) (.cK "Reader" "passes" "Reader.passes" @0 #v[↑[42,43,63]]),@1])],.ret @1]
noncomputable def jS:dm:=#v[.ifs (.de (.cK "Reader" "sees" "Reader.sees" @0 #v[↑[40]])) #v[.ret (.cK "Reader" "bracket" "Reader.bracket" @0 .nil)] .nil,.ifs (.de (.cK "Reader" "sees" "Reader.sees" @0 #v[↑[91]])) #v[.ret (.tup #v[↑[111,110,101],.cK "Reader" "sign_class" "Reader.sign_class" @0 .nil])] .nil,.ifs (.de (.cK "Reader" "sees" "Reader.sees" @0 #v[↑[46]])) #v[.ex (.cK "Reader" "passes" "Reader.passes" @0 #v[↑[46]]),.ret (.tup #v[↑[111,110,101],.call "all_but" #v[↑[10]]])] .nil,.ret (.tup #v[↑[111,110,101],.cK "Reader" "written_sign" "Reader.written_sign" @0 #v[↑[46,124,40,41,91,93,42,43,63,92]]])]
noncomputable def gW:dm:=#v[.ifs (.de (.cmp .eq (.fld @0 "depth") ↑6)) #v[.ex (.ix (.lit .bV) (.lit .bV))] .nil,.ex (.cK "Reader" "passes" "Reader.passes" @0 #v[↑[40]]),.Cd @0 "depth" .add ↑1,.set 1 (.cK "Reader" "choice" "Reader.choice" @0 .nil),.ex (.cK "Reader" "passes" "Reader.passes" @0 #v[↑[41]]),.Cd @0 "depth" .sub ↑1,.ret @1]
noncomputable def fw:dm:=#v[.ex (.cK "Reader" "passes" "Reader.passes" @0 #v[↑[91]]),.set 1 (.cK "Reader" "sees" "Reader.sees" @0 #v[↑[94]]),.ifs (.de @1) #v[.ex (.cK "Reader" "passes" "Reader.passes" @0 #v[↑[94]])] .nil,.set 2 (.cK "Reader" "item" "Reader.item" @0 .nil),.Ce (.not (.de (.cK "Reader" "sees" "Reader.sees" @0 #v[↑[93]]))) #v[.aug 2 .add (.cK "Reader" "item" "Reader.item" @0 .nil)],.ex (.cK "Reader" "passes" "Reader.passes" @0 #v[↑[93]]),.ret (.Cc (.de @1) (.call "all_but" #v[@2]) (.call "in_order" #v[@2]))]
noncomputable def jT:dm:=#v[.set 1 (.cK "Reader" "written_sign" "Reader.written_sign" @0 #v[↑[93,45,92]]),.ifs (.not (.de (.cK "Reader" "sees" "Reader.sees" @0 #v[↑[45]]))) #v[.ret @1] .nil,.ex (.cK "Reader" "passes" "Reader.passes" @0 #v[↑[45]]),.set 2 (.fld @0 "at"),.set 3 (.cK "Reader" "written_sign" "Reader.written_sign" @0 #v[↑[93,45,92]]),.ifs (.de (.call "is_ahead" #v[@3,@1])) #v[.ex (.ix (.lit .bV) (.lit .bV))] .nil,.ret (.call "stretch" #v[@1,@3])]
noncomputable def eF:dm:=#v[.ifs (.not (.de (.cK "Reader" "sees" "Reader.sees" @0 #v[↑[92]]))) #v[.ret (.cK "Reader" "passes" "Reader.passes" @0 #v[.call "all_but" #v[@1]])] .nil,.ex (.cK "Reader" "passes" "Reader.passes" @0 #v[↑[92]]),.set 2 (.cK "Reader" "passes" "Reader.passes" @0 #v[↑[46,124,40,41,91,93,42,43,63,92,45,94,110]]),.ret (.Cc (.de (.cmp .eq @2 ↑[110])) ↑[10] @2)]
noncomputable def pd:dm:=#v[.ifs (.de (.cmp .eq (.ix @0 ↑0) ↑[111,114])) #v[.ret (.jB .join ↑[124] #v[.comp false (.call "row_text" #v[@0]) (.val (.ix @0 ↑1)) (.de (.lit (.bl true))) []])] .nil,.ret (.call "row_text" #v[@0])]
noncomputable def mT:dm:=#v[.ifs (.de (.cmp .eq (.ix @0 ↑0) ↑[114,111,119])) #v[.ret (.jB .join (.lit (.str [])) #v[.comp false (.call "repeat_text" #v[@0]) (.val (.ix @0 ↑1)) (.de (.lit (.bl true))) []])] .nil,.ret (.call "repeat_text" #v[@0])]
noncomputable def jU:dm:=#v[.set 1 (.lit (.str [])),.set 2 @0,.Ce (.de (.cmp .isin (.ix @2 ↑0) (.lit (.tab [([115,116,97,114],[42]),([112,108,117,115],[43]),([109,97,121,98,101],[63])])))) #v[.set 1 (.bin .add (.ix (.lit (.tab [([115,116,97,114],[42]),([112,108,117,115],[43]),([109,97,121,98,101],[63])])) (.ix @2 ↑0)) @1),.set 2 (.ix @2 ↑1)],.ret (.bin .add (.call "atom_text" #v[@2]) @1)]
noncomputable def lA:dm:=#v[.ifs (.de (.cmp .eq (.ix @0 ↑0) ↑[111,110,101])) #v[.ret (.call "place_text" #v[.ix @0 ↑1])] .nil,.ret (.bin .add (.bin .add ↑[40] (.call "written" #v[@0])) ↑[41])]
noncomputable def kB:dm:=#v[.ifs (.de (.cmp .eq (.blt .len #v[@0]) ↑1)) #v[.ret (.call "sign_text" #v[@0,↑[46,124,40,41,91,93,42,43,63,92]])] .nil,.ifs (.de (.cmp .eq @0 (.call "all_but" #v[↑[10]]))) #v[.ret ↑[46]] .nil,.ret (.blt .uZ #v[.call "class_texts" #v[@0]])]
noncomputable def lB:dm:=#v[.ret (.Cc (.de (.cmp .isin @0 @1)) (.bin .add ↑[92] @0) @0)]
noncomputable def jV:dm:=#v[.set 1 (.lst .nil),.ifs (.de (.cmp .ne @0 (.lit (.str [])))) #v[.ex (.jB .append @1 #v[.bin .add (.bin .add ↑[91] (.call "guarded" #v[.call "class_items" #v[@0]])) ↑[93]])] .nil,.ifs (.de (.cmp .ne @0 (.lit (.str SG)))) #v[.ex (.jB .append @1 #v[.bin .add (.bin .add ↑[91,94] (.jB .join (.lit (.str [])) #v[.call "class_items" #v[.call "all_but" #v[@0]]])) ↑[93]])] .nil,.ret @1]
noncomputable def pe:dm:=#v[.ifs (.not (.de (.jB .startswith (.ix @0 ↑0) #v[↑[94]]))) #v[.ret (.jB .join (.lit (.str [])) #v[@0])] .nil,.ifs (.de (.cmp .eq (.blt .len #v[@0]) ↑1)) #v[.ret (.bin .add ↑[92] (.ix @0 ↑0))] .nil,.ret (.bin .add (.jB .join (.lit (.str [])) #v[.sl @0 (.e ↑1) .no]) (.ix @0 ↑0))]
noncomputable def jW:dm:=#v[.set 1 (.lst .nil),.gU (.name 2) (.val (.call "runs" #v[@0])) #v[.ex (.jB .extend @1 #v[.call "run_items" #v[@2]])],.ret @1]
noncomputable def yC:dm:=#v[.set 1 (.lst .nil),.set 2 (.lit (.str [])),.gU (.name 3) (.val @0) #v[.ifs (.de (.cmp .nA (.bin .add @2 @3) (.lit (.str SG)))) #v[.ex (.jB .append @1 #v[@2]),.set 2 (.lit (.str []))] .nil,.aug 2 .add @3],.ex (.jB .append @1 #v[@2]),.ret @1]
noncomputable def lC:dm:=#v[.set 1 (.comp false (.call "sign_text" #v[@0,↑[93,45,92]]) (.val @0) (.de (.lit (.bl true))) []),.set 2 (.bin .add (.bin .add (.call "sign_text" #v[.ix @0 ↑0,↑[93,45,92]]) ↑[45]) (.call "sign_text" #v[.ix @0 (.neg ↑1),↑[93,45,92]])),.ret (.Cc (.de (.cmp .le (.blt .len #v[.jB .join (.lit (.str [])) #v[@1]]) (.blt .len #v[@2]))) @1 (.lst #v[@2]))]
end PL
namespace PL.tD
noncomputable def lD:dm:=#v[.ifs (.de @0) #v[.ret (.ix @0 (.bin .mod @1 (.blt .len #v[@0])))] .nil,.ret ↑0]
noncomputable def mU:dm:=#v[.set 2 (.bin .mod (.bin .add (.call "_law_cell" #v[@0,@1]) (.bin .mul ↑104729 (.bin .add @1 ↑1))) ↑4294967291),.set 2 (.bin .mod (.bin .mul @2 ↑48271) ↑4294967279),.ret (.bin .mod (.bin .add (.bin .mul (.bin .fdiv @2 ↑64) ↑69621) @2) ↑4294967231)]
noncomputable def mV:dm:=#v[.set 0 (.lit (.str SG1)),.ret (.bin .add ↑[10] @0)]
end PL.tD
namespace PL.mj
noncomputable def lE:dm:=#v[.set 2 (.mk "Layout" "Layout.__init__" .nil),.gU (.pair 3 4) (.enum (.sl @0 .no (.e ↑6))) #v[.set 5 (.cK "Layout" "lay" "Layout.lay" @2 #v[.call "tree_of" #v[@4,@3]]),.ifs (.de (.fld @5 "empty")) #v[.ex (.ix (.lit .bV) (.lit .bV))] .nil,.ifs (.de (.cmp .gt (.cK "Layout" "how_many" "Layout.how_many" @2 .nil) @1)) #v[.ex (.ix (.lit .bV) (.lit .bV))] .nil,.ex (.cK "Layout" "close_rule" "Layout.close_rule" @2 #v[@5])],.ifs (.de (.cmp .gt (.blt .len #v[@0]) ↑6)) #v[.ex (.ix (.lit .bV) (.lit .bV))] .nil,.ret (.mk "Places" "Places.__init__" #v[@2])]
noncomputable def ph:dm:=#v[.RB #v[.ret (.call "read" #v[@0])]]
noncomputable def pj:dm:=#v[.ret (.comp false @0 (.range (.jB .mN @0 .nil)) (.de (.bin .band (.bin .shr @1 @0) ↑1)) [0])]
noncomputable def lF:dm:=#v[.mO @0 "empty" @1,.mO @0 "firsts" @2,.mO @0 "lasts" @3]
noncomputable def fL:dm:=#v[.set 2 (.Cc (.de (.fld @0 "empty")) (.bin .bor (.fld @0 "firsts") (.fld @1 "firsts")) (.fld @0 "firsts")),.set 3 (.Cc (.de (.fld @1 "empty")) (.bin .bor (.fld @0 "lasts") (.fld @1 "lasts")) (.fld @1 "lasts")),.ret (.mk "Part" "Part.__init__" #v[.and (.fld @0 "empty") (.fld @1 "empty"),@2,@3])]
noncomputable def jc:dm:=#v[.ret (.mk "Part" "Part.__init__" #v[.or (.fld @0 "empty") (.fld @1 "empty"),.bin .bor (.fld @0 "firsts") (.fld @1 "firsts"),.bin .bor (.fld @0 "lasts") (.fld @1 "lasts")])]
noncomputable def jX:dm:=#v[.mO @0 "signs" (.lst #v[.lit (.str [])]),.mO @0 "behind" (.lst #v[↑0]),.mO @0 "ends" (.lst .nil)]
noncomputable def f9:dm:=#v[.ret (.bin .sub (.blt .len #v[.fld @0 "signs"]) ↑1)]
noncomputable def fA:dm:=#v[.E9 (.fld @0 "behind") ↑0 .bor (.fld @1 "firsts"),.ex (.jB .append (.fld @0 "ends") #v[.fld @1 "lasts"])]
noncomputable def jY:dm:=#v[.gU (.name 3) (.val (.call "members" #v[@1])) #v[.E9 (.fld @0 "behind") @3 .bor @2]]
noncomputable def kC:dm:=#v[.ifs (.de (.cmp .eq (.ix @1 ↑0) ↑[111,110,101])) #v[.ret (.cK "Layout" "lay_place" "Layout.lay_place" @0 #v[.ix @1 ↑1])] .nil,.ifs (.de (.cmp .eq (.ix @1 ↑0) ↑[114,111,119])) #v[.ret (.cK "Layout" "lay_row" "Layout.lay_row" @0 #v[.ix @1 ↑1])] .nil,.ifs (.de (.cmp .eq (.ix @1 ↑0) ↑[111,114])) #v[.ret (.cK "Layout" "lay_choice" "Layout.lay_choice" @0 #v[.ix @1 ↑1])] .nil,.ret (.cK "Layout" "lay_repeat" "Layout.lay_repeat" @0 #v[@1])]
noncomputable def fM:dm:=#v[.set 2 (.bin .shl ↑1 (.blt .len #v[.fld @0 "signs"])),.ex (.jB .append (.fld @0 "signs") #v[@1]),.ex (.jB .append (.fld @0 "behind") #v[↑0]),.ret (.mk "Part" "Part.__init__" #v[.lit (.bl false),@2,@2])]
noncomputable def gX:dm:=#v[.set 2 (.mk "Part" "Part.__init__" #v[.lit (.bl true),↑0,↑0]),.gU (.name 3) (.val @1) #v[.set 4 (.cK "Layout" "lay" "Layout.lay" @0 #v[@3]),.ex (.cK "Layout" "link" "Layout.link" @0 #v[.fld @2 "lasts",.fld @4 "firsts"]),.set 2 (.call "one_behind_other" #v[@2,@4])],.ret @2]
noncomputable def fB:dm:=#v[.set 2 (.mk "Part" "Part.__init__" #v[.lit (.bl false),↑0,↑0]),.gU (.name 3) (.val @1) #v[.set 2 (.call "one_or_other" #v[@2,.cK "Layout" "lay" "Layout.lay" @0 #v[@3]])],.ret @2]
noncomputable def fD:dm:=#v[.set 2 (.lst .nil),.set 3 @1,.Ce (.de (.cmp .isin (.ix @3 ↑0) (.tup #v[↑[115,116,97,114],↑[112,108,117,115],↑[109,97,121,98,101]]))) #v[.ex (.jB .append @2 #v[.ix @3 ↑0]),.set 3 (.ix @3 ↑1)],.set 4 (.cK "Layout" "lay" "Layout.lay" @0 #v[@3]),.ifs (.or (.de (.cmp .isin ↑[115,116,97,114] @2)) (.de (.cmp .isin ↑[112,108,117,115] @2))) #v[.ex (.cK "Layout" "link" "Layout.link" @0 #v[.fld @4 "lasts",.fld @4 "firsts"])] .nil,.set 5 (.or (.fld @4 "empty") (.or (.cmp .isin ↑[115,116,97,114] @2) (.cmp .isin ↑[109,97,121,98,101] @2))),.ret (.mk "Part" "Part.__init__" #v[@5,.fld @4 "firsts",.fld @4 "lasts"])]
noncomputable def iK:dm:=#v[.set 1 (.blt .sum #v[.comp true (.bin .shl ↑1 @0) (.enum (.fld @0 "signs")) (.de (.cmp .ne @1 (.lit (.str [])))) []]),.set 2 ↑0,.gU (.name 3) (.val (.fld @0 "ends")) #v[.aug 2 .bor (.bin .band @3 @1)],.set 4 ↑0,.Ce (.de (.cmp .ne @2 @4)) #v[.set 4 @2,.gU (.name 5) (.val (.call "members" #v[@1])) #v[.ifs (.de (.bin .band (.ix (.fld @0 "behind") @5) @4)) #v[.aug 2 .bor (.bin .shl ↑1 @5)] .nil]],.ret @4]
noncomputable def fN:dm:=#v[.ret (.blt .sum #v[.comp true (.bin .shl ↑1 @0) (.enum (.fld @0 "signs")) (.de (.cmp .isin @2 @1)) [1]])]
noncomputable def jZ:dm:=#v[.set 2 (.call "useful_places" #v[@1]),.mO @0 "behind" (.comp false (.bin .band @0 @1) (.val (.fld @1 "behind")) (.de (.lit (.bl true))) [2]),.mO @0 "ends" (.blt .list #v[.fld @1 "ends"]),.mO @0 "takers" (.blt .dict #v[.comp false (.tup #v[@0,.call "places_that_take" #v[@1,@0]]) (.val (.lit (.str SG))) (.de (.lit (.bl true))) [1]])]
noncomputable def iL:dm:=#v[.set 2 ↑0,.gU (.name 3) (.val (.call "members" #v[@1])) #v[.aug 2 .bor (.ix (.fld @0 "behind") @3)],.ret @2]
noncomputable def fE:dm:=#v[.gU (.pair 2 3) (.enum (.fld @0 "ends")) #v[.ifs (.de (.bin .band @1 @3)) #v[.ret @2] .nil],.ret (.lit .bV)]
noncomputable def jd:dm:=#v[.ifs (.de (.cmp .eq (.ix @0 ↑0) ↑[111,110,101])) #v[.ret (.lit (.bl false))] .nil,.ifs (.de (.cmp .eq (.ix @0 ↑0) ↑[114,111,119])) #v[.ret (.blt .all #v[.comp false (.call "_law_nothing" #v[@0]) (.val (.ix @0 ↑1)) (.de (.lit (.bl true))) []])] .nil,.ifs (.de (.cmp .eq (.ix @0 ↑0) ↑[111,114])) #v[.ret (.blt .any #v[.comp false (.call "_law_nothing" #v[@0]) (.val (.ix @0 ↑1)) (.de (.lit (.bl true))) []])] .nil,.ret (.or (.cmp .isin (.ix @0 ↑0) (.tup #v[↑[115,116,97,114],↑[109,97,121,98,101]])) (.call "_law_nothing" #v[.ix @0 ↑1]))]
noncomputable def j0:dm:=#v[.ifs (.de (.cmp .eq (.ix @0 ↑0) ↑[111,110,101])) #v[.ret (.Cc (.de (.cmp .isin @1 (.ix @0 ↑1))) (.lst #v[.tup .nil]) (.lst .nil))] .nil,.ifs (.de (.cmp .eq (.ix @0 ↑0) ↑[111,114])) #v[.set 2 (.lst .nil),.gU (.name 3) (.val (.ix @0 ↑1)) #v[.set 2 (.bin .add @2 (.call "_law_behind" #v[@3,@1]))],.ret @2] .nil,.ifs (.de (.cmp .eq (.ix @0 ↑0) ↑[114,111,119])) #v[.set 2 (.lst .nil),.gU (.name 4) (.range (.blt .len #v[.ix @0 ↑1])) #v[.set 2 (.bin .add @2 (.comp false (.bin .add @0 (.sl (.ix @1 ↑1) (.e (.bin .add @2 ↑1)) .no)) (.val (.call "_law_behind" #v[.ix (.ix @0 ↑1) @4,@1])) (.de (.lit (.bl true))) [0,4])),.ifs (.not (.de (.call "_law_nothing" #v[.ix (.ix @0 ↑1) @4]))) #v[.ret @2] .nil],.ret @2] .nil,.set 5 (.Cc (.de (.cmp .eq (.ix @0 ↑0) ↑[109,97,121,98,101])) (.tup .nil) (.tup #v[.tup #v[↑[115,116,97,114],.ix @0 ↑1]])),.ret (.comp false (.bin .add @0 @1) (.val (.call "_law_behind" #v[.ix @0 ↑1,@1])) (.de (.lit (.bl true))) [5])]
noncomputable def kD:dm:=#v[.set 2 (.lst .nil),.gU (.name 3) (.val @0) #v[.gU (.name 4) (.val (.call "_law_behind" #v[.tup #v[↑[114,111,119],@3],@1])) #v[.ifs (.de (.cmp .nA @4 @2)) #v[.ex (.jB .append @2 #v[@4])] .nil]],.ret @2]
noncomputable def oC:dm:=#v[.ret (.blt .any #v[.comp false (.call "_law_nothing" #v[.tup #v[↑[114,111,119],@0]]) (.val @0) (.de (.lit (.bl true))) []])]
noncomputable def kE:dm:=#v[.set 3 (.call "_law_mix" #v[@0,@1]),.set 4 (.bin .mod @3 ↑9),.ifs (.or (.de (.cmp .eq @2 ↑0)) (.de (.cmp .lt @4 ↑4))) #v[.ret (.tup #v[↑[111,110,101],.ix (.lst #v[↑[97],↑[98],↑[99],↑[97,98],↑[98,99],.call "_law_all" .nil,↑[97],↑[98],↑[48],.lit (.str [])]) (.bin .mod (.bin .fdiv @3 ↑9) ↑10)])] .nil,.ifs (.de (.cmp .lt @4 ↑7)) #v[.set 5 (.comp false (.call "_law_small" #v[@1,.bin .add (.bin .add (.bin .mul ↑2 @2) ↑1) @0,.bin .sub @3 ↑1]) (.range ↑2) (.de (.lit (.bl true))) [0,1,2]),.ret (.tup #v[.ix (.lst #v[↑[114,111,119],↑[111,114],↑[114,111,119]]) (.bin .sub @4 ↑4),.blt .tuple #v[@5]])] .nil,.ret (.tup #v[.ix (.lst #v[↑[115,116,97,114],↑[112,108,117,115],↑[109,97,121,98,101]]) (.bin .mod (.bin .fdiv @3 ↑9) ↑3),.call "_law_small" #v[@0,.bin .add (.bin .mul ↑2 @1) ↑1,.bin .sub @2 ↑1]])]
noncomputable def kF:dm:=#v[.set 4 (.lst .nil),.gU (.name 5) (.range @2) #v[.set 6 (.call "_law_small" #v[@0,.bin .add @1 (.bin .mul ↑9 @5),@3]),.ifs (.de (.call "_law_nothing" #v[@6])) #v[.set 6 (.tup #v[↑[114,111,119],.tup #v[.tup #v[↑[111,110,101],.ix ↑[97,98,99] (.bin .mod @5 ↑3)],@6]])] .nil,.ex (.jB .append @4 #v[@6])],.ret @4]
noncomputable def lG:dm:=#v[.ret (.jB .join (.lit (.str [])) #v[.comp false (.ix ↑[97,97,98,98,99,48,97,10,98,97,98] (.bin .mod (.call "_law_mix" #v[@1,.bin .add @2 @0]) ↑11)) (.range @2) (.de (.lit (.bl true))) [0,1]])]
end PL.mj
namespace PL.ue
noncomputable def mW:dm:=#v[.ret (.call "smallest" #v[.call "spread" #v[.call "places_of" #v[@0,↑10]]])]
noncomputable def kG:dm:=#v[.mO @0 "takes" (.blt .list #v[@1]),.mO @0 "told" (.blt .tuple #v[@1]),.mO @0 "rows" @2]
noncomputable def kH:dm:=#v[.ret (.jB .get (.ix (.fld @0 "rows") @1) #v[@2])]
noncomputable def j5:dm:=#v[.set 2 ↑0,.gU (.name 3) (.val @1) #v[.set 2 (.cK "Table" "goes" "Table.goes" @0 #v[@2,@3]),.ifs (.de (.cmp .Ke @2 (.lit .bV))) #v[.ret (.lit .bV)] .nil],.ret (.ix (.fld @0 "told") @2)]
noncomputable def V5:dm:=#v[.ifs (.de (.cmp .ne @7 ↑0)) #v[.nK @5 @6 (.Lq @2 @7)] .nil]
noncomputable def XQ:dm:=(.cons (.set 7 (.bin .band @4 (.Lq (.fld @0 "takers") @6))) (.cons (.ifs (.and (.de (.cmp .ne @7 ↑0)) (.de (.cmp .Cb @7 @2))) #v[.nK @2 @7 (.blt .len #v[@1]),.ex (.jB .append @1 #v[@7])] .nil) V5))
noncomputable def XR:dm:=#v[.set 4 (.cK "Places" "beyond" "Places.beyond" @0 #v[.ix @1 (.blt .len #v[@3])]),.set 5 (.eL .nil .nil),.gU (.name 6) (.val (.lit (.str SG))) XQ,.ex (.jB .append @3 #v[@5])]
noncomputable def XS:dm:=#v[.ret (.mk "Table" "Table.__init__" #v[.comp false (.cK "Places" "first_rule" "Places.first_rule" @1 #v[@0]) (.val @1) (.de (.lit (.bl true))) [0],@3])]
noncomputable def qX:dm:=(.cons (.set 1 (.lst #v[↑1])) (.cons (.set 2 (.eL #v[↑1] #v[↑0])) (.cons (.set 3 (.lst .nil)) (.cons (.Ce (.de (.cmp .lt (.blt .len #v[@3]) (.blt .len #v[@1]))) XR) XS))))
noncomputable def XT:Ex:=.blt .dict #v[.comp false (.tup #v[@0,.ix @1 (.Lq @2 @0)]) (.keys @5) (.de (.lit (.bl true))) [1,5]]
noncomputable def XU:dm:=#v[.ifs (.de (.cmp .eq (.ix @1 @4) (.blt .len #v[@3]))) #v[.ex (.jB .append @2 #v[.ix (.fld @0 "told") @4]),.ex (.jB .append @3 #v[XT])] .nil]
noncomputable def mY:dm:=#v[.set 1 (.ix (.call "rounds" #v[.bin .add (.fld @0 "told") (.tup #v[.lit .bV]),.call "with_nowhere" #v[.fld @0 "rows"]]) (.neg ↑1)),.set 2 (.lst .nil),.set 3 (.lst .nil),.gU (.pair 4 5) (.enum (.fld @0 "rows")) XU,.ret (.mk "Table" "Table.__init__" #v[@2,@3])]
noncomputable def XW:Ex:=.blt .dict #v[.comp false (.tup #v[@0,.jB .get @1 #v[@0,@2]]) (.val (.lit (.str SG))) (.de (.lit (.bl true))) [0,1]]
noncomputable def je:dm:=#v[.set 1 (.blt .len #v[@0]),.ret (.comp false XW (.val (.bin .add @0 (.lst #v[.eL .nil .nil]))) (.de (.lit (.bl true))) [1])]
noncomputable def qY:dm:=#v[.set 2 (.call "telling_signs" #v[@1]),.set 3 (.lst #v[.call "numbered" #v[@0]]),.Ce (.de (.lit (.bl true))) #v[.set 4 (.call "parted" #v[.ix @3 (.neg ↑1),@1,@2]),.ifs (.de (.cmp .eq (.blt .max #v[@4]) (.blt .max #v[.ix @3 (.neg ↑1)]))) #v[.ret @3] .nil,.ex (.jB .append @3 #v[@4])]]
noncomputable def XX:Ex:=.comp false (.ix @1 (.Lq @2 @0)) (.val @2) (.de (.lit (.bl true))) [0,5]
noncomputable def qZ:dm:=#v[.set 3 (.lst .nil),.gU (.pair 4 5) (.enum @1) #v[.ex (.jB .append @3 #v[.tup #v[.ix @0 @4,.blt .tuple #v[XX]]])],.ret (.call "numbered" #v[@3])]
noncomputable def mZ:dm:=#v[.set 1 (.eL .nil .nil),.ret (.comp false (.jB .nK @1 #v[@0,.blt .len #v[@1]]) (.val @0) (.de (.lit (.bl true))) [1])]
noncomputable def iM:dm:=#v[.set 1 (.eL .nil .nil),.gU (.name 2) (.val (.lit (.str SG))) #v[.ex (.jB .nK @1 #v[.blt .tuple #v[.comp false (.Lq @0 @1) (.val @0) (.de (.lit (.bl true))) [2]],@2])],.ret (.jB .vals @1 .nil)]
noncomputable def kI:dm:=#v[.gU (.name 2) (.range (.blt .len #v[@0])) #v[.set 3 (.lst #v[.tup #v[.ix @0 @2]]),.gU (.name 4) (.val @1) #v[.set 3 (.call "_law_rests" #v[@3,@4])],.ifs (.de (.call "_law_ends" #v[@3])) #v[.ret @2] .nil],.ret (.lit .bV)]
noncomputable def XY:dm:=#v[.ifs (.or (.de (.cmp .ne @8 @9)) (.or (.de (.cmp .ne (.cmp .Ke @8 (.lit .bV)) (.cmp .Ke @9 (.lit .bV)))) (.de (.cmp .ne @8 (.call "_law_first" #v[@1,.sl @5 .no (.e @7)]))))) #v[.ret (.lit (.bl false))] .nil,.ifs (.and (.de (.cmp .Ca @6 (.lit .bV))) (.de (.cmp .lt @7 (.blt .len #v[@5])))) #v[.set 6 (.cK "Table" "goes" "Table.goes" @2 #v[@6,.ix @5 @7])] .nil]
noncomputable def XZ:dm:=(.cons (.set 8 (.cK "Table" "first" "Table.first" @2 #v[.sl @5 .no (.e @7)])) (.cons (.set 9 (.Cc (.de (.cmp .Ke @6 (.lit .bV))) (.lit .bV) (.ix (.fld @2 "takes") @6))) XY))
noncomputable def V6:dm:=#v[.set 6 ↑0,.gU (.name 7) (.range (.bin .add (.blt .len #v[@5]) ↑1)) XZ]
noncomputable def DG:dm:=#v[.set 1 (.call "_law_trees" #v[@0,↑0,.bin .add ↑1 (.bin .mod (.call "_law_mix" #v[@0,↑50]) ↑2),↑2]),.set 2 (.call "table_of" #v[.comp false (.call "written" #v[@0]) (.val @1) (.de (.lit (.bl true))) []]),.set 3 (.call "_law_all" .nil),.gU (.name 4) (.range ↑4) (.cons (.set 5 (.call "_law_text" #v[@0,.bin .add ↑51 @4,.bin .mod (.call "_law_mix" #v[@0,.bin .add ↑40 @4]) ↑9])) (.cons (.ifs (.de (.cmp .eq (.bin .mod (.call "_law_mix" #v[@0,.bin .add ↑44 @4]) ↑3) ↑0)) #v[.set 5 (.bin .add @5 (.ix @3 (.bin .mod (.call "_law_mix" #v[@0,.bin .add ↑48 @4]) ↑95)))] .nil) V6)),.ret (.lit (.bl true))]
end PL.ue
namespace L2
open PySem
open PL (U SO bj Xn KU KX Spec bT)
structure Tab where
 const:List (String×U)
 fns:List String
 qj:List String
 qk:List (String×String)
 yD:List String
 lT:List String
structure Inf where
 names:List (Str×NameKind)
 N:List Str
 calm:Bool
noncomputable def pick(l:List String)(x:Str):Option String:=l.find? λs=>b7 s==x
noncomputable def AB{α:Type}(l:List (String×α))(x:Str):Option (String×α):=l.find? λs=>b7 s.1==x
noncomputable def d9(x:Str):List Str->Option Nat
 |[]=>none
 |y::ys=>if y=x then some 0 else(d9 x ys).map (·+1)
noncomputable def LG:Option NameKind->Bool
 |some .local=>true
 |some .cell=>true
 |some .free=>true
 |_=>false
noncomputable def Inf.gl(I:Inf)(x:Str):Bool:=I.names.lookup x==some .globalImplicit
noncomputable def TJ:gO->Option PL.t9
 |.Add=>some .add|.Sub=>some .sub|.Mult=>some .mul|.FloorDiv=>some .fdiv|.Mod=>some .mod|.BitAnd=>some .band|.BitOr=>some .bor|.LShift=>some .shl|.RShift=>some .shr|_=>none
noncomputable def X0:zt->Option PL.Gh
 |.Eq=>some .eq|.NotEq=>some .ne|.Lt=>some .lt|.LtE=>some .le|.Gt=>some .gt|.GtE=>some .ge|.In=>some .isin|.NotIn=>some .nA|.Is=>some .Ke|.IsNot=>some .Ca
noncomputable def LH:Expr->Option Str
 |.Name x _=>some x
 |_=>none
theorem TK:∀e,(∃x p,e=J0 x p)\/LH e=none:=by
 intro e;cases e<;>first|exact .inr rfl|exact .inl #[_,_,rfl]
theorem HM{e:Expr}{x:Str}(h:LH e=some x):∃p,e=.Name x p:=by
 rcases TK e with⟨y,p,rfl⟩|e
 .exact#[p,congrArg (J0 · p) (aH h)]
 .erw[nn (e.symm.trans h)]
noncomputable def Zz(e:Expr):Bool:=LH e==some ("sign":Str)||LH e==some ("held":Str)
noncomputable def X1:zt->Bool
 |.NotIn=>true
 |_=>false
noncomputable def RD(op:zt)(b:Expr):Option PL.Gh:=if X1 op&&LH b==some ("numbers":Str) then some .Cb else X0 op
noncomputable def Pg:Expr->Option Expr
 |.Call (.Attribute o m ap) [] [] cp=>if m==("values":Str)&&ap.endLine==cp.line then some o else none
 |_=>none
noncomputable def V7:Expr->Option (Str×Expr)
 |.Call f [a] [] _=>(LH f).map λx=>(x,a)
 |_=>none
theorem TL:∀e,(∃f as ks p,e=Expr.Call f as ks p)\/V7 e=none:=by
 intro e;cases e<;>first|exact .inr rfl|exact .inl #[_,_,_,_,rfl]
theorem Nv{e:Expr}{x:Str}{a:Expr}(h:V7 e=some (x,a)):∃p q,e=.Call (.Name x p) [a] [] q:=by
 rcases TL e with⟨f,as,ks,q,rfl⟩|e
 .cases as with
  |nil=>erw[nn h]
  |cons a as=>cases as with
   |cons=>erw[nn h]
   |nil=>cases ks with
    |cons=>erw[nn h]
    |nil=>
     let#[y,h1,h2]:=au.mp h;cases h2;let#[p,rfl]:=HM h1;exact#[p,q,rfl]
 .erw[nn (e.symm.trans h)]
noncomputable def rf(I : Inf)(names : List (Str×NameKind)) : List (Str×NameKind) := names.map λ(n, k) => if k==bN&&I.names.lookup n==some .cell then (n, .cell) else (n, k)
noncomputable def ve(I:Inf)(sc:fQ)(xs:List Str):Bool:=
 sc.kind==.function&&sc.names.all (λy=>y.2 !=.cell||sc.names.lookup y.1==some .cell)&&sc.names.all (λy=>y.2 !=.local||sc.names.lookup y.1==some .local)&&sc.names.all (λy=>y.2 !=.free||I.names.lookup y.1==some .cell)
  && xs.all (λx=>sc.names.lookup x==some .local||sc.names.lookup x==some .cell)&&decide xs.Nodup
noncomputable def iD(I:Inf)(sc:fQ):List Str:=I.N.filter λy=>sc.names.lookup y==some .free
noncomputable def LI:Expr->Option (List Str)
 |.Name x _=>some [x]
 |.Tuple [a,b] _ _=>(LH a).bind λx=>(LH b).map λy=>[x,y]
 |_=>none
noncomputable def noStar:Expr->Bool
 |.Starred ..=>false
 |_=>true
noncomputable def yE:Expr->Bool
 |.ListComp ..=>false
 |.SetComp ..=>false
 |.DictComp ..=>false
 |_=>true
noncomputable def lH:Expr->Bool
 |.Slice ..=>false
 |_=>true
noncomputable def fO:Expr->Bool
 |.Call (.Name _ _) [] [] _=>false
 |_=>true
noncomputable def Ph:Str->Option PL.RA:=λx=>
 if x==("len":Str) then some .len else if x==("tuple":Str) then some .tuple else if x==("list":Str) then some .list
 else if x==("all":Str) then some .all else if x==("sum":Str) then some .sum else if x==("any":Str) then some .any else if x==("dict":Str) then some .dict else if x==("max":Str) then some .max else none
noncomputable def Pj:Str->Option PL.Lp:=λx=>
 if x==("join":Str) then some .join else if x==("index":Str) then some .index else if x==("append":Str) then some .append else if x==("extend":Str) then some .extend else if x==("startswith":Str) then some .startswith else if x==("setdefault":Str) then some .nK else none
noncomputable def X2:Const->Option U
 |.none=>some .bV
 |.bool b=>some (.bl b)
 |.int i=>some (.int i)
 |.str x=>some (.str x.cps.toList)
 |_=>none
noncomputable def HN(I:Inf)(k:oa):Bool:=match k with
 |⟨kw,v,_⟩=>kw==some ("key":Str)&&(match v with
  |.Name l _=>l==("len":Str)&&I.gl l
  |_=>false)
structure CF where
 e:Inf->Expr->Option PL.Ex
 es:Inf->List Expr->Option PL.tw
 bo:Inf->BoolOp->List Expr->Option PL.Ex
 o:Inf->Option Expr->Option PL.Ox
 i:Inf->Expr->Option PL.It
 n:Inf->Expr->Option PL.It
 t:Inf->Expr->Option PL.Tx
 tb:Inf->BoolOp->List Expr->Option PL.Tx
noncomputable def RE(T:Tab)(F:CF)(I:Inf)(e:Expr):Option PL.Ex:=match e with
  |.Name x _=>match d9 x I.N with
   |some i=>if LG (I.names.lookup x)&&x !=("__debug__":Str)&&x !=("__classdict__":Str) then some (.var i) else none
   |none=>if I.gl x&&x !=("__debug__":Str) then(AB T.const x).map λp=>.lit p.2 else none
  |.Constant c _ _=>(X2 c).map .lit
  |.BinOp a op b _=>do
   let o <-TJ op
   let x <-F.e I a
   let y <-F.e I b
   some (.bin o x y)
  |.UnaryOp op a _=>(match op with
   |.USub=>(F.e I a).map .neg
   |.Not=>(F.e I a).map .not
   |_=>none)
  |.BoolOp op vs _=>F.bo I op vs
  |.Compare a ops bs _=>(match ops with
   |[op]=>(match bs with
    |[b]=>do
     let o <-RD op b
     let x <-F.e I a
     let y <-F.e I b
     some (.cmp o x y)
    |_=>none)
   |_=>none)
  |.IfExp t a b _=>do
   let c <-F.t I t
   let x <-F.e I a
   let y <-F.e I b
   some (.Cc c x y)
  |.Call f args kws cp=>(match f with
   |.Name f _=>(match kws with
    |[]=>if I.gl f&&f !=("__debug__":Str) then
      match Ph f with
      |some b=>(match (match args with|[a]=>Pg a|_=>none) with
       |some o=>if f==("list":Str)&&T.lT.contains "list"&&I.calm&&fO o then(F.e I o).map λx=>.jB .vals x .nil else none
       |none=>if (pick T.lT f).isSome && !args.isEmpty&&I.calm then(F.es I args).map (.blt b) else none)
      |none=>if !I.calm then none else match pick T.fns f with
       |some q=>(F.es I args).map (.call q)
       |none=>match pick T.qj f with
        |some q=>(F.es I args).map (.mk q (q++".__init__"))
        |none=>none
     else none
    |kw::ks=>(match args with
     |[a]=>if ks.isEmpty&&f==("min":Str)&&HN I kw&&I.gl f&&T.lT.contains "min"&&T.lT.contains "len"&&I.calm&&noStar a then(F.e I a).map λx=>.blt .uZ (.cons x .nil) else none
     |_=>none))
   |.Attribute o m ap=>if !(kws.isEmpty&&fO o&&ap.endLine==cp.line&&decide (args.length<20)&&I.calm) then none else
    match AB T.qk m with
    |some (q,k)=>do
     let x <-F.e I o
     let as <-F.es I args
     some (.cK k q (k++"."++q) x as)
    |none=>(match args with
     |[]=>if m==("bit_length":Str) then(F.e I o).map λx=>.jB .mN x .nil else none
     |a::as=>if m==("get":Str) then(match as with
       |[d]=>if noStar a&&noStar d then do
         let x <-F.e I o
         let y <-F.e I a
         let z <-F.e I d
         some (.jB .get x (.cons y (.cons z .nil)))
        else none
       |[]=>if noStar a then do
         let x <-F.e I o
         let y <-F.e I a
         some (.jB .get x (.cons y .nil))
        else none
       |_=>none)
      else match Pj m with
      |some b=>do
       let x <-F.e I o
       let as <-F.es I (a::as)
       some (.jB b x as)
      |none=>none)
   |_=>none)
  |.Attribute o f _=>if !fO o then none else do
   let q <-pick T.yD f
   let x <-F.e I o
   some (.fld x q)
  |.Subscript o i _=>if lH i then do
    let x <-F.e I o
    let y <-F.e I i
    some (if Zz i then .Lq x y else .ix x y)
   else(match i with
   |.Slice lo hi st _=>(match st with
    |none=>do
     let x <-F.e I o
     let a <-F.o I lo
     let b <-F.o I hi
     some (.sl x a b)
    |some _=>none)
   |_=>none)
  |.Dict ks vs _=>(match ks with
   |[]=>(match vs with
    |[]=>some (.eL .nil .nil)
    |_=>none)
   |[some k]=>(match vs with
    |[v]=>do
     let x <-F.e I k
     let y <-F.e I v
     some (.eL (.cons x .nil) (.cons y .nil))
    |_=>none)
   |_=>none)
  |.List es _=>(F.es I es).map .lst
  |.Tuple es _ _=>(F.es I es).map .tup
  |.ListComp elt gs sc _=>(match gs with
   |[g]=>(match g with
    |⟨tg,iter,ifs,as⟩=>match LI tg with
     |some xs=>if ve I sc xs&&I.calm&&as==0 then do
       let it <-(match xs with
        |[_]=>F.i I iter
        |_=>F.n I iter)
       let cn:=iD I sc
       let J:Inf:=#[rf I sc.names,xs++cn,true]
       let c <-(match ifs with
        |[]=>some (PL.Tx.de (.lit (.bl true)))
        |[c]=>F.t J c
        |_=>none)
       let e <-F.e J elt
       let ci <-cn.mapM λy=>d9 y I.N
       some (.comp (xs.length==2) e it c ci)
      else none
     |none=>none)
   |_=>none)
  |_=>none
noncomputable def HP(F:CF)(I:Inf):List Expr->Option PL.tw
 |[]=>some .nil
 |e::es=>if !noStar e then none else do
  let x <-F.e I e
  let xs <-F.es I es
  some (.cons x xs)
noncomputable def HQ(F:CF)(I:Inf)(op:BoolOp):List Expr->Option PL.Ex
 |[]=>none
 |[a]=>F.e I a
 |a::b::r=>do
  let x <-F.e I a
  let y <-F.bo I op (b::r)
  some (match op with|.And=>.and x y|.Or=>.or x y)
noncomputable def V8(F:CF)(I:Inf):Option Expr->Option PL.Ox
 |none=>some .no
 |some e=>(F.e I e).map .e
noncomputable def stI(T:Tab)(F:CF)(I:Inf)(e:Expr):Option PL.It:=match V7 e with
  |some (f,a)=>if f==("range":Str) then(if I.gl f&&T.lT.contains "range" then(F.e I a).map .range else none) else(F.e I e).map .val
  |none=>if LH e==some ("row":Str) then(F.e I e).map .keys else(F.e I e).map .val
noncomputable def stN(T:Tab)(F:CF)(I:Inf)(e:Expr):Option PL.It:=match V7 e with
  |some (f,a)=>if f==("enumerate":Str)&&I.gl f&&T.lT.contains "enumerate"&&noStar a then(F.e I a).map .enum else none
  |none=>none
noncomputable def ZA(F:CF)(I:Inf)(e:Expr):Option PL.Tx:=match e with
  |.UnaryOp .Not a _=>(F.t I a).map .not
  |.BoolOp op vs _=>F.tb I op vs
  |.IfExp ..=>none
  |.Compare a [op] [b] _=>do
   let o <-RD op b
   let x <-F.e I a
   let y <-F.e I b
   some (.de (.cmp o x y))
  |.Compare ..=>none
  |_=>(F.e I e).map .de
noncomputable def HR(F:CF)(I:Inf)(op:BoolOp):List Expr->Option PL.Tx
 |[]=>none
 |[a]=>F.t I a
 |a::b::r=>do
  let x <-F.t I a
  let y <-F.tb I op (b::r)
  some (match op with|.And=>.and x y|.Or=>.or x y)
noncomputable def rg(T:Tab):Nat->CF
 |0=>#[λ_ _=>none,λ_ _=>none,λ_ _ _=>none,λ_ _=>none,λ_ _=>none,λ_ _=>none,λ_ _=>none,λ_ _ _=>none]
 |n+1=>#[RE T (rg T n),HP (rg T n),HQ (rg T n),V8 (rg T n),stI T (rg T n),stN T (rg T n),ZA (rg T n),HR (rg T n)]
noncomputable abbrev cE(T:Tab)(n:Nat):Inf->Expr->Option PL.Ex:=(rg T n).e
noncomputable abbrev RF(T:Tab)(n:Nat):Inf->List Expr->Option PL.tw:=(rg T n).es
noncomputable abbrev V9(T:Tab)(n:Nat):Inf->BoolOp->List Expr->Option PL.Ex:=(rg T n).bo
noncomputable abbrev cO(T:Tab)(n:Nat):Inf->Option Expr->Option PL.Ox:=(rg T n).o
noncomputable abbrev cI(T:Tab)(n:Nat):Inf->Expr->Option PL.It:=(rg T n).i
noncomputable abbrev cN(T:Tab)(n:Nat):Inf->Expr->Option PL.It:=(rg T n).n
noncomputable abbrev cT(T:Tab)(n:Nat):Inf->Expr->Option PL.Tx:=(rg T n).t
noncomputable abbrev Wa(T:Tab)(n:Nat):Inf->BoolOp->List Expr->Option PL.Tx:=(rg T n).tb
section
variable{T:Tab}{n:Nat}{I:Inf}{x:Expr}{xs:List Expr}{p:BoolOp}{y:Option Expr}
theorem TM:cE T 0 I x=none:=rfl
theorem LJ:cE T (n+1) I x=RE T (rg T n) I x:=rfl
theorem Nw:RF T 0 I xs=none:=rfl
theorem HS:RF T (n+1) I xs=HP (rg T n) I xs:=rfl
theorem TN:V9 T 0 I p xs=none:=rfl
theorem HU:V9 T (n+1) I p xs=HQ (rg T n) I p xs:=rfl
theorem X3:cO T 0 I y=none:=rfl
theorem TQ:cO T (n+1) I y=V8 (rg T n) I y:=rfl
theorem X4:cI T 0 I x=none:=rfl
theorem X5:cI T (n+1) I x=stI T (rg T n) I x:=rfl
theorem X6:cN T 0 I x=none:=rfl
theorem X7:cN T (n+1) I x=stN T (rg T n) I x:=rfl
theorem X8:cT T 0 I x=none:=rfl
theorem X9:cT T (n+1) I x=ZA (rg T n) I x:=rfl
theorem TR:Wa T 0 I p xs=none:=rfl
theorem HV:Wa T (n+1) I p xs=HR (rg T n) I p xs:=rfl
end
noncomputable def Ya(T:Tab)(n:Nat)(J:Inf)(ifs:List Expr):Option PL.Tx:=match ifs with
 |[]=>some (PL.Tx.de (.lit (.bl true)))
 |[c]=>cT T n J c
 |_=>none
theorem vf{T:Tab}{n:Nat}{I:Inf}{elt:Expr}{gs:List Comprehension}{sc:fQ}{pos:Pos}{x:PL.Ex}(h:cE T (n+1) I (.ListComp elt gs sc pos)=some x):
  ∃tg iter ifs xs it c ee ci,gs=[#[tg,iter,ifs,0]]/\LI tg=some xs/\(ve I sc xs=true/\I.calm=true)/\((∃y,xs=[y])/\cI T n I iter=some it\/(¬ ∃y,xs=[y])/\cN T n I iter=some it)/\Ya T n #[rf I sc.names,xs++iD I sc,true] ifs=some c /\
   cE T n #[rf I sc.names,xs++iD I sc,true] elt=some ee/\(iD I sc).mapM (λy=>d9 y I.N)=some ci/\x=.comp (xs.length==2) ee it c ci:=by
 rw[LJ] at h
 delta RE at h
 dsimp only at h;split at h
 .rename_i g
  let#[tg,iter,ifs,as]:=g;dsimp only at h;split at h
  .rename_i xs ht
   split at h
   .rename_i hc
    dsimp[aj] at hc;dsimp[aK,aA] at h;let#[it,h1,c,h2,ee,h3,ci,h4,h5]:=h;injection h5 with h5
    have e0:as=0:=eq_of_beq hc.2;subst e0;refine#[tg,iter,ifs,xs,it,c,ee,ci,rfl,ht,hc.1,?_,h2,h3,h4,h5.symm];split at h1
    .erw[.inl #[#[_,rfl],h1]]
    .rename_i hn
     erw[.inr #[λ⟨y,e⟩=>hn y e,h1]]
   .erw[nn h]
  .erw[nn h]
 .erw[nn h]
theorem TU:∀e,(∃x p,e=J0 x p)\/(∃es k q,e=Expr.Tuple es k q)\/LI e=none:=by
 intro e;cases e<;>first|exact .inr (.inr rfl)|exact .inl #[_,_,rfl]|exact .inr (.inl #[_,_,_,rfl])
theorem Cq{tg:Expr}{xs:List Str}(h:LI tg=some xs):(∃x p,tg=.Name x p/\xs=[x])\/∃x y p p' k q,tg=.Tuple [.Name x p,.Name y p'] k q/\xs=[x,y]:=by
 rcases TU tg with⟨x,p,rfl⟩|⟨es,k,q,rfl⟩|e
 .erw[.inl #[x,p,rfl,(aH h).symm]]
 .cases es with
  |nil=>erw[nn h]
  |cons a es=>cases es with
   |nil=>erw[nn h]
   |cons b es=>cases es with
    |cons=>erw[nn h]
    |nil=>
     let#[x,h1,h]:=aA.mp h;let#[y,h2,h3]:=au.mp h;let#[p,rfl]:=HM h1;let#[p',rfl]:=HM h2;erw[.inr #[x,y,p,p',k,q,rfl,h3.symm]]
 .erw[nn (e.symm.trans h)]
open PL (U SO bj Xn KU KX Spec bT)
noncomputable def tV:Option NameKind->Bool
 |some .local=>true
 |some .cell=>true
 |_=>false
noncomputable def Cr:gO->Option PL.t9
 |.Add=>some .add|.Sub=>some .sub|.BitOr=>some .bor|_=>none
structure CG where
 s:Inf->Stmt->Option PL.Sm
 ss:Inf->List Stmt->Option PL.dm
noncomputable def Yb(T:Tab)(F:CF)(G:CG)(I:Inf)(s:Stmt):Option PL.Sm:=match s with
  |.Assign ts e _=>(match ts with
   |[t]=>(match t with
    |.Name x _=>(match d9 x I.N with
     |some i=>if tV (I.names.lookup x) then(F.e I e).map (.set i) else none
     |none=>none)
    |.Attribute o f _=>do
     let q <-pick T.yD f
     let x <-F.e I o
     let y <-F.e I e
     some (.mO x q y)
    |.Subscript o i _=>if lH i&&Zz i then do
      let x <-F.e I o
      let k <-F.e I i
      let y <-F.e I e
      some (.nK x k y)
     else none
    |_=>none)
   |_=>none)
  |.AugAssign t op e _=>(match t with
   |.Name x _=>(match d9 x I.N with
    |some i=>if tV (I.names.lookup x) then do
      let p <-Cr op
      let y <-F.e I e
      some (.aug i p y)
     else none
    |none=>none)
   |.Attribute o f _=>do
    let q <-pick T.yD f
    let p <-Cr op
    let x <-F.e I o
    let y <-F.e I e
    some (.Cd x q p y)
   |.Subscript o i _=>if lH i then do
     let p <-Cr op
     let x <-F.e I o
     let j <-F.e I i
     let y <-F.e I e
     some (.E9 x j p y)
    else none
   |_=>none)
  |.Expr e _=>if yE e then(F.e I e).map .ex else none
  |.Return e _=>(match e with
   |some e=>(F.e I e).map .ret
   |none=>none)
  |.If c a b _=>do
   let c <-F.t I c
   let a <-G.ss I a
   let b <-G.ss I b
   some (.ifs c a b)
  |.While c b el _=>if el.isEmpty then do
    let c <-F.t I c
    let b <-G.ss I b
    some (.Ce c b)
   else none
  |.For tg it b el _=>if !(I.calm&&el.isEmpty) then none else(match LI tg with
   |some xs=>(match xs with
    |[x]=>(match d9 x I.N with
     |some i=>if tV (I.names.lookup x) then do
       let it <-F.i I it
       let b <-G.ss I b
       some (.gU (.name i) it b)
      else none
     |none=>none)
    |[x,y]=>(match d9 x I.N with
     |some i=>(match d9 y I.N with
      |some j=>if tV (I.names.lookup x)&&tV (I.names.lookup y) then do
        let it <-F.n I it
        let b <-G.ss I b
        some (.gU (.pair i j) it b)
       else none
      |none=>none)
     |none=>none)
    |_=>none)
   |none=>none)
  |.Raise _ _ _=>some (.ex (.ix (.lit .bV) (.lit .bV)))
  |.Try b hs el fi _=>(match hs with
   |_::_=>if el.isEmpty&&fi.isEmpty then(G.ss I b).map .RB else none
   |[]=>none)
  |_=>none
noncomputable def LK(G:CG)(I:Inf):List Stmt->Option PL.dm
 |[]=>some .nil
 |s::ss=>do
  let x <-G.s I s
  let xs <-G.ss I ss
  some (.cons x xs)
noncomputable def Fo(T:Tab):Nat->CG
 |0=>#[λ_ _=>none,λ_ _=>none]
 |n+1=>#[Yb T (rg T n) (Fo T n),LK (Fo T n)]
noncomputable abbrev cS(T:Tab)(n:Nat):Inf->Stmt->Option PL.Sm:=(Fo T n).s
noncomputable abbrev Kg(T:Tab)(n:Nat):Inf->List Stmt->Option PL.dm:=(Fo T n).ss
theorem Yc{T:Tab}{I:Inf}{x:Stmt}:cS T 0 I x=none:=rfl
theorem Yd{T:Tab}{n:Nat}{I:Inf}{x:Stmt}:cS T (n+1) I x=Yb T (rg T n) (Fo T n) I x:=rfl
theorem TV{T:Tab}{I:Inf}{x:List Stmt}:Kg T 0 I x=none:=rfl
theorem Nx{T:Tab}{n:Nat}{I:Inf}{x:List Stmt}:Kg T (n+1) I x=LK (Fo T n) I x:=rfl
end L2
section
set_option autoImplicit false
namespace L2
open PySem PySem.Spec PyProof.Rows PySem.W
open PL (U SO bj Xn KU KX Spec bT)
structure Ctx where
 P:bf
 w:bJ
 K:Frag
 mg:Str->Option Value
 base:Heap
 cls:String->Option Addr
noncomputable abbrev nm(s:String):Str:=b7 s
def xh(K:Frag)(H:Hp)(a:Addr)(vs:List V):Prop:=
 (∃o,H a=some (.rV o (.lst vs))) \/
  ∃(o:Obj)(its:Array Value)(n:Nat),K.lookup a=some o/\o.cls=.type "list"/\o.dict=none/\o.data=.seq its n/\its.size<=sizeLine/\Vals vs its.toList
theorem xh.sq{K:Frag}{H:Hp}{a:Addr}{vs:List V}(h:xh K H a vs):iT K H a vs:=by
 rcases h with⟨o,h⟩|h
 .erw[.inl (.inr #[o,h])]
 .erw[.inr h]
section
variable(c:Ctx)(ρ:List Addr)(H:Hp)
mutual
noncomputable def Rep:U->V->Prop
 |.bV,v=>v=.bV
 |.bl b,v=>v=.bl b
 |.int i,v=>v=.int i
 |.str l,v=>v=.str (tx l)
 |.tup us,v=>∃a vs,v=.ref a/\H a=some (.tup vs)/\aV us vs
 |.loc n,v=>∃a,v=.ref a/\ρ[n]?=some a
 |.sj ns,v=>∃a,v=.ref a/\xh c.K H a (ns.map .int)
 |.tab kvs,v=>∃a,v=.ref a/\OX c.K c.w.params a (kvs.map λp=>(tx p.1,V.str (tx p.2)))
noncomputable def aV:List U->List V->Prop
 |[],vs=>vs=[]
 |u::us,vs=>∃v r,vs=v::r/\Rep u v/\aV us r
end
def tW(a:Addr):SO->Prop
 |.lst us=>∃vs,H a=some (.lst vs)/\aV c ρ H us vs
 |.ins x fs=>∃C dx vs,c.cls x=some C/\H a=some (.ins C dx vs)/\vs.map (·.1)=(fs.map (·.1)).map nm/\aV c ρ H (fs.map (·.2)) (vs.map (·.2))
 |.eL kvs=>∃vs,H a=some (.dK vs)/\vs.length=kvs.length/\aV c ρ H (kvs.map (·.1)) (vs.map λp=>kV p.1)/\aV c ρ H (kvs.map (·.2)) (vs.map (·.2))
 |.uY kvs=>∃o vs,H a=some (.rV o (.dK vs))/\vs.length=kvs.length/\aV c ρ H (kvs.map (·.1)) (vs.map λp=>kV p.1)/\aV c ρ H (kvs.map (·.2)) (vs.map (·.2))
 |.t8 kvs=>∃vs,H a=some (.dT vs)/\vs.map (·.1)=kvs.map (λp=>p.1.map wk)/\aV c ρ H (kvs.map (·.2)) (vs.map (·.2))
 |.wX kvs=>∃vs,H a=some (.dP vs)/\vs.map (·.1)=kvs.map (·.1)/\aV c ρ H (kvs.map (·.2)) (vs.map (·.2))
structure cv(S:bj):Prop where
 len:ρ.length=S.length
 nd:ρ.Nodup
 at_:∀(n:Nat)(a:Addr)(o:SO),ρ[n]?=some a->S[n]?=some o->tW c ρ H a o
end
structure gY(ρ:List Addr)(H:Hp)(ρ':List Addr)(H':Hp):Prop where
 pre:∃more,ρ'=ρ++more
 new:∀b∈ρ',b∉ρ->H b=none
 fr:∀b o,H b=some o->b∉ρ->H' b=some o
 fz:∀b o vs,H b=some (.rV o (.dK vs))->H' b=some (.rV o (.dK vs))
section
variable{c:Ctx}{ρ ρ' ρ'':List Addr}{H H' H'':Hp}{S S':bj}
theorem gY.refl:gY ρ H ρ H:=#[#[[],by simp],λ_ h n=>absurd h n,λ_ _ h _=>h,λ_ _ _ h=>h]
theorem gY.trans(a:gY ρ H ρ' H')(b:gY ρ' H' ρ'' H''):gY ρ H ρ'' H'':=by
 let#[m1,e1]:=a.pre;let#[m2,e2]:=b.pre;refine#[#[m1++m2,by rw[e2,e1,bQ]],λx hx nx=>?_,λx o h nx=>?_,λx o vs h=>b.fz x o vs (a.fz x o vs h)]
 .by_cases z:x∈ρ'
  .erw[a.new x z nx]
  .cases q:H x with
   |none=>rfl
   |some o=>erw[absurd (a.fr x o q nx) (by rw[b.new x hx z];simp)]
 .have q:=a.fr x o h nx
  by_cases z:x∈ρ'
  .erw[absurd (a.new x z nx) (by rw[h];simp)]
  .erw[b.fr x o q z]
theorem gY.get(a:gY ρ H ρ' H'){n:Nat}{b:Addr}(h:ρ[n]?=some b):ρ'[n]?=some b:=by
 let#[m,e]:=a.pre;rw[e,ag (by let#[h,_]:=ae.mp h;erw[h])]
 erw[h]
noncomputable def yF:HO->Bool
 |.lst _=>true
 |.ins _ _ _=>true
 |.dK _=>true
 |.dT _=>true
 |.dP _=>true
 |.rV _ (.dK _)=>true
 |_=>false
noncomputable def Pk:HO->Bool
 |.rV _ _=>true
 |_=>false
theorem cv.obj(R:cv c ρ H S){b:Addr}(h:b∈ρ):∃o,H b=some o/\yF o=true:=by
 let#[n,hn,e]:=qy h;have hn':n<S.length:=R.len▸hn;have q:=R.at_ n b S[n] (by rw[aa hn,e]) (aa hn');cases o:S[n] with
 |lst us=>rw[o] at q;let#[vs,h,_]:=q;exact#[_,h,rfl]
 |ins x fs=>rw[o] at q;let#[C,dx,vs,_,h,_]:=q;exact#[_,h,rfl]
 |eL kvs=>rw[o] at q;let#[vs,h,_]:=q;exact#[_,h,rfl]
 |uY kvs=>rw[o] at q;let#[o',vs,h,_]:=q;exact#[_,h,rfl]
 |t8 kvs=>rw[o] at q;let#[vs,h,_]:=q;exact#[_,h,rfl]
 |wX kvs=>rw[o] at q;let#[vs,h,_]:=q;exact#[_,h,rfl]
theorem cv.not(R:cv c ρ H S){b:Addr}{o:HO}(h:H b=some o)(q:yF o=false):b∉ρ:=λz=>by
 let#[o',h',q']:=R.obj z;rw[h] at h';injection h' with e;subst e
 rw[q] at q';erw[J1 q']
theorem cv.HW(R:cv c ρ H S){b:Addr}(h:H b=none):b∉ρ:=λz=>by
 let#[o',h',_]:=R.obj z;rw[h] at h';cases h'
mutual
theorem Rep.iu(p:∃more,ρ'=ρ++more)(k:∀b o,H b=some o->yF o=false->H' b=some o):∀{u:U}{v:V},Rep c ρ H u v->Rep c ρ' H' u v
 |.bV,_,h=>by unfold Rep at h ⊢;erw[h]
 |.bl _,_,h=>by unfold Rep at h ⊢;erw[h]
 |.int _,_,h=>by unfold Rep at h ⊢;erw[h]
 |.str _,_,h=>by unfold Rep at h ⊢;erw[h]
 |.tup us,_,h=>by
  unfold Rep at h ⊢;let#[x,vs,e,hx,hs]:=h;exact#[x,vs,e,k x _ hx rfl,aV.iu p k hs]
 |.loc n,_,h=>by
  unfold Rep at h ⊢;let#[x,e,hx]:=h;let#[m,rfl]:=p;exact#[x,e,by rw[ag (by let#[h,_]:=ae.mp hx;erw[h])];erw[hx]]
 |.sj ns,_,h=>by
  unfold Rep at h ⊢;let#[x,e,hx]:=h;rcases hx with⟨o,hx⟩|hx
  .exact#[x,e,.inl #[o,k x _ hx rfl]]
  .exact#[x,e,.inr hx]
 |.tab _,_,h=>by unfold Rep at h ⊢;erw[h]
theorem aV.iu(p:∃more,ρ'=ρ++more)(k:∀b o,H b=some o->yF o=false->H' b=some o):∀{us:List U}{vs:List V},aV c ρ H us vs->aV c ρ' H' us vs
 |[],_,h=>by unfold aV at h ⊢;erw[h]
 |u::us,_,h=>by
  unfold aV at h ⊢;let#[v,r,e,h1,h2]:=h;exact#[v,r,e,Rep.iu p k h1,aV.iu p k h2]
end
theorem tW.iu(p:∃more,ρ'=ρ++more)(m:∀b o,H b=some o->yF o=false->H' b=some o){b:Addr}{o:SO}(h:tW c ρ H b o)(k:H' b=H b):tW c ρ' H' b o:=by
 cases o with
 |lst us=>let#[vs,h1,h2]:=h;exact#[vs,k.trans h1,h2.iu p m]
 |ins x fs=>let#[C,dx,vs,h0,h1,h2,h3]:=h;exact#[C,dx,vs,h0,k.trans h1,h2,h3.iu p m]
 |eL kvs=>let#[vs,h1,h2,h3,h4]:=h;exact#[vs,k.trans h1,h2,h3.iu p m,h4.iu p m]
 |uY kvs=>let#[o,vs,h1,h2,h3,h4]:=h;exact#[o,vs,k.trans h1,h2,h3.iu p m,h4.iu p m]
 |t8 kvs=>let#[vs,h1,h2,h3]:=h;exact#[vs,k.trans h1,h2,h3.iu p m]
 |wX kvs=>let#[vs,h1,h2,h3]:=h;exact#[vs,k.trans h1,h2,h3.iu p m]
theorem gY.Ye(R:cv c ρ H S)(a:gY ρ H ρ' H'):∀b o,H b=some o->yF o=false->H' b=some o:=λb o h q=>a.fr b o h (R.not h q)
theorem Rep.mono(R:cv c ρ H S)(a:gY ρ H ρ' H'){u:U}{v:V}(h:Rep c ρ H u v):Rep c ρ' H' u v:=h.iu a.pre (a.Ye R)
theorem aV.mono(R:cv c ρ H S)(a:gY ρ H ρ' H'){us:List U}{vs:List V}(h:aV c ρ H us vs):aV c ρ' H' us vs:=h.iu a.pre (a.Ye R)
theorem tW.mono(R:cv c ρ H S)(a:gY ρ H ρ' H'){b:Addr}{o:SO}(h:tW c ρ H b o)(k:H' b=H b):tW c ρ' H' b o:=h.iu a.pre (a.Ye R) k
theorem yG{D:Addr}{o ho:HO}(hD:H D=some o)(q:yF o=true):∀b o,H b=some o->yF o=false->upd H D ho b=some o:=λb o' h z=>by
 rw[b8]
 .erw[h]
 .intro e;subst e;rw[hD] at h;injection h with h;subst h;rw[q] at z;erw[J1 z]
theorem cv.AD(R:cv c ρ H S){D:Addr}{o:HO}(ho:HO)(hD:H D=some o)(q:yF o=true)(n:D∉ρ):cv c ρ (upd H D ho) S:=
 #[R.len,R.nd,λm b o' h1 h2=>(R.at_ m b o' h1 h2).iu #[[],by simp] (yG hD q) (b8 λe=>n (e▸ao h1))]
theorem cv.join(R:cv c ρ H S){D:Addr}{o:SO}(n:D∉ρ)(h:tW c ρ H D o):cv c (ρ++[D]) H (S++[o]):=by
 have p:∃more,ρ++[D]=ρ++more:=#[[D],rfl]
 refine#[by simp[R.len],?_,λm a o' h1 h2=>?_]
 .rw[dM]
  exact#[R.nd,by simp,λx hx y hy=>by rw[bS.mp hy];erw[λe=>n (e▸hx)]]
 .by_cases z:m<ρ.length
  .rw[ag z] at h1
   rw[ag (R.len▸z)] at h2;exact(R.at_ m a o' h1 h2).iu p (λ_ _ h _=>h) rfl
  .have hz:m=ρ.length:=by
    let#[q,_]:=ae.mp h1;simp at q;omega
   subst hz;rw[aw (ar _),bH] at h1;rw[R.len,aw (ar _),bH] at h2;simp at h1 h2;rw[<-h1,<-h2];erw[h.iu p (λ_ _ h _=>h) rfl]
theorem gY.alloc(R:cv c ρ H S){p:Addr}(hp:H p=none)(o:HO):gY ρ H (ρ++[p]) (upd H p o):=by
 refine#[#[[p],rfl],λb hb nb=>?_,λb o h nb=>?_,λb o vs h=>by rw[b8 (dB h hp)];erw[h]]
 .rcases aI.mp hb with h|h
  .erw[absurd h nb]
  .rw[bS.mp h];erw[hp]
 .rw[b8 (dB h hp)];erw[h]
theorem cv.alloc(R:cv c ρ H S){p:Addr}(hp:H p=none){ho:HO}{o:SO}(h:tW c (ρ++[p]) (upd H p ho) p o):cv c (ρ++[p]) (upd H p ho) (S++[o]):=by
 have st:=gY.alloc R hp ho;refine#[by simp[R.len],?_,λn a o' h1 h2=>?_]
 .rw[dM]
  exact#[R.nd,by simp,λx hx y hy=>by rw[bS.mp hy];erw[λe=>R.HW hp (e▸hx)]]
 .by_cases z:n<ρ.length
  .rw[ag z] at h1
   rw[ag (R.len▸z)] at h2;refine(R.at_ n a o' h1 h2).mono R st (b8 λe=>?_);erw[R.HW hp (e▸ao h1)]
  .have hz:n=ρ.length:=by
    let#[q,_]:=ae.mp h1;simp at q;omega
   subst hz;rw[aw (ar _),bH] at h1;rw[R.len,aw (ar _),bH] at h2;simp at h1 h2;rw[<-h1,<-h2];erw[h]
theorem gY.lay(R:cv c ρ H S){p:Addr}(hp:H p=none)(o:HO):gY ρ H ρ (upd H p o):=
 #[#[[],by simp],λ_ h n=>absurd h n,λb _ h _=>by rw[b8 (dB h hp)];erw[h],λb o vs h=>by rw[b8 (dB h hp)];erw[h]]
theorem cv.lay(R:cv c ρ H S){p:Addr}(hp:H p=none)(o:HO):cv c ρ (upd H p o) S:=
 #[R.len,R.nd,λn a o' h1 h2=>(R.at_ n a o' h1 h2).mono R (gY.lay R hp o) (b8 λe=>R.HW hp (e▸ao h1))]
theorem gY.put{a:Addr}{u:HO}(h:a∈ρ)(hu:H a=some u)(nf:Pk u=false)(o:HO):gY ρ H ρ (upd H a o):=
 #[#[[],by simp],λ_ h n=>absurd h n,λb _ q nb=>by rw[b8 (show b≠a from λe=>nb (by rw[e];exact h))];exact q,
  λb o' vs q=>by rw[b8 λe=>by rw[e,hu] at q;injection q with q;rw[q] at nf;cases nf];erw[q]]
theorem cv.put(R:cv c ρ H S){n:Nat}{a:Addr}{ho u:HO}{o:SO}(ha:ρ[n]?=some a)(hu:H a=some u)(nf:Pk u=false)(h:tW c ρ (upd H a ho) a o):cv c ρ (upd H a ho) (S.set n o):=by
 have hm:=ao ha;refine#[by simp[R.len],R.nd,λm b o' h1 h2=>?_];by_cases z:m=n
 .subst z
  rw[ha] at h1;injection h1 with h1;subst h1
  have hl:m<S.length:=R.len▸(ae.mp ha).1;rw[bF hl] at h2;injection h2 with h2;subst h2;erw[h]
 .rw[af (cA z)] at h2
  refine(R.at_ m b o' h1 h2).mono R (gY.put hm hu nf ho) (b8 λe=>z ?_);subst e;let#[l1,e1]:=ae.mp h1;let#[l2,e2]:=ae.mp ha;exact(JV R.nd).mp (e1.trans e2.symm)
theorem aV.len:∀{us:List U}{vs:List V},aV c ρ H us vs->us.length=vs.length
 |[],_,h=>by unfold aV at h;subst h;rfl
 |_::us,_,h=>by
  unfold aV at h;let#[v,r,e,_,h2]:=h;subst e;rw[aW,aW,aV.len h2]
theorem aV.nil:aV c ρ H [] []:=by unfold aV;rfl
theorem aV.cons{u:U}{v:V}{us:List U}{vs:List V}(h:Rep c ρ H u v)(t:aV c ρ H us vs):aV c ρ H (u::us) (v::vs):=by unfold aV;exact#[v,vs,rfl,h,t]
theorem aV.app:∀{us ws:List U}{vs xs:List V},aV c ρ H us vs->aV c ρ H ws xs->aV c ρ H (us++ws) (vs++xs)
 |[],_,_,_,h,k=>by unfold aV at h;subst h;erw[k]
 |u::us,_,_,_,h,k=>by
  unfold aV at h;let#[v,r,e,h1,h2]:=h;subst e;erw[aV.cons h1 (aV.app h2 k)]
theorem aV.get:∀{us:List U}{vs:List V}{n:Nat}{u:U},aV c ρ H us vs->us[n]?=some u->∃v,vs[n]?=some v/\Rep c ρ H u v
 |[],_,_,_,_,e=>by simp at e
 |u::us,_,n,_,h,e=>by
  unfold aV at h;let#[v,r,e',h1,h2]:=h;subst e';cases n with
  |zero=>simp at e;subst e;exact#[v,rfl,h1]
  |succ n=>simp at e ⊢;erw[aV.get h2 e]
theorem aV.take:∀{us:List U}{vs:List V}(n:Nat),aV c ρ H us vs->aV c ρ H (us.take n) (vs.take n)
 |_,_,0,_=>by dsimp[List.take_zero];erw[aV.nil]
 |[],_,_+1,h=>by unfold aV at h;subst h;dsimp[List.take_nil];erw[aV.nil]
 |u::us,_,n+1,h=>by
  unfold aV at h;let#[v,r,e,h1,h2]:=h;subst e;erw[aV.cons h1 (aV.take n h2)]
theorem aV.drop:∀{us:List U}{vs:List V}(n:Nat),aV c ρ H us vs->aV c ρ H (us.drop n) (vs.drop n)
 |_,_,0,h=>h
 |[],_,_+1,h=>by unfold aV at h;subst h;dsimp[List.drop_nil];erw[aV.nil]
 |u::us,_,n+1,h=>by
  unfold aV at h;let#[v,r,e,h1,h2]:=h;subst e;erw[aV.drop n h2]
end
end L2
end
section
set_option autoImplicit false
namespace L2
open PySem PySem.Spec PyProof.Rows PySem.W
open PL (U SO bj Xn KU KX Spec bT)
noncomputable abbrev Cx.at_(X:Cx)(pZ:List (Addr×Obj))(E:St->XK):Cx:={X with pn:=X.pn++pZ,xe:=SY X pZ E}
section
variable{X:Cx}{pZ pins':List (Addr×Obj)}{E:St->XK}{σ:St}{H:Hp}{s:aq}
theorem Cx.Ok.at_(ok:X.Ok):(X.at_ pZ E).Ok:=
 #[ok.mod,ok.kind,ok.glob,ok.blt,ok.above,ok.inj,ok.has,ok.NU,ok.hd,ok.frames,ok.GO,ok.VO,ok.bs,ok.GQ,ok.BI,ok.EM,ok.qI,ok.Ky]
theorem Cx.Ok.oE(ok:(X.at_ pZ E).Ok):X.Ok:=
 #[ok.mod,ok.kind,ok.glob,ok.blt,ok.above,ok.inj,ok.has,ok.NU,ok.hd,ok.frames,ok.GO,ok.VO,ok.bs,ok.GQ,ok.BI,ok.EM,ok.qI,ok.Ky]
theorem Inv.at_(I:Inv X pZ σ H s):Inv (X.at_ pZ E) [] σ H s:=
 #[I.ok.at_,I.os,I.bare,I.base,I.loc,I.cell,I.free,I.ny,λp hp=>I.pin p (by simpa using hp),I.du,I.len]
theorem Inv.oE(I:Inv (X.at_ pZ E) pins' σ H s):Inv X pZ σ H s:=
 #[I.ok.oE,I.os,I.bare,I.base,I.loc,I.cell,I.free,I.ny,λp hp=>I.pin p (aI.mpr (.inl hp)),I.du,I.len]
theorem Du.oE{b:Addr}(h:Du (X.at_ pZ E) pins' H b):Du X pZ H b:=
 #[h.1,h.2.1,h.2.2.1,h.2.2.2.1,λp hp=>h.2.2.2.2 p (aI.mpr (.inl hp))]
theorem XE.oE{e:Value}(h:XE (X.at_ pZ E) pins' σ (E σ) e s):SY X pZ E e s:=by
 let#[a,tb,cl,dx,H',e1,I,x,f,q]:=h;exact#[σ,a,tb,cl,dx,H',e1,I.oE,x,λb hb=>(f b hb).oE,q]
abbrev atS(σ:St)(E:XK):St->XK:=λσ' cl dx H=>σ'=σ/\E cl dx H
theorem vg(σ:St)(E:XK):atS σ E σ=E:=by
 funext cl dx H
 erw[propext #[λh=>h.2,λh=>#[rfl,h]]]
theorem SY.one{e:Value}{E:XK}(h:SY X pZ (atS σ E) e s):XE X pZ σ E e s:=by
 let#[σ',a,tb,cl,dx,H',e1,I,x,f,q,w]:=h;subst q;exact#[a,tb,cl,dx,H',e1,I,x,f,w]
theorem EP.oE{Q:VK}{u:Value}(h:EP (X.at_ pZ E) pins' σ Q u s):EP X pZ σ Q u s:=by
 let#[v,H',I,r,q]:=h;exact#[v,H',I.oE,r,q]
end
def Cs(X:Cx)(e:Expr)(t:XK->TT):Prop:=
 ∀(pZ:List (Addr×Obj))(s:aq)(σ:St)(H:Hp)(Q:Bool->Hp->Prop)(E:XK),Inv X pZ σ H s->t E σ H Q->wpAny (bb X.prog X.w) X.A (isTrue e X.env (eval e X.env)) (TP X pZ σ Q) (XE X pZ σ E) s
def Ct(X:Cx)(es:List Expr)(t:XK->TA):Prop:=
 ∀(pos:Pos)(pZ:List (Addr×Obj))(s:aq)(σ:St)(H:Hp)(Q:List V->Hp->Prop)(E:XK),Inv X pZ σ H s->t E σ H Q->wpAny (bb X.prog X.w) X.A (spliced (iw pos (bR es X.env))) (AP X pZ σ Q) (XE X pZ σ E) s
section
variable{X:Cx}{pZ:List (Addr×Obj)}{e:Expr}{es:List Expr}
theorem PE.imp{t t':TE}(h:PE X e t)(q:∀σ H Q,t' σ H Q->t σ H Q):PE X e t':=λpZ s σ H Q I z=>h pZ s σ H Q I (q σ H Q z)
theorem PT.imp{t t':TT}(h:PT X e t)(q:∀σ H Q,t' σ H Q->t σ H Q):PT X e t':=λpZ s σ H Q I z=>h pZ s σ H Q I (q σ H Q z)
theorem up{t:XK->TE}(h:∀pZ E,PE (X.at_ pZ E) e (λσ H Q=>t (E σ) σ H Q)):dU X e t:=by
 intro pZ s σ H Q E I z;rwa[bZ (h pZ (atS σ E) [] s σ H Q I.at_ (by show t (atS σ E σ) σ H Q;rw[vg];erw[z])) (λu s' q=>q.oE) λu s' q=>q.one]
theorem dn{t:XK->TE}{E:St->XK}(h:dU (X.at_ pZ E) e t):PE (X.at_ pZ E) e (λσ H Q=>t (E σ) σ H Q):=by
 intro pins' s σ H Q I z;erw[bZ (h pins' s σ H Q (E σ) I z) (λu s' q=>q) λu s' q=>q.oE]
theorem Wb{t:XK->TT}(h:∀pZ E,PT (X.at_ pZ E) e (λσ H Q=>t (E σ) σ H Q)):Cs X e t:=by
 intro pZ s σ H Q E I z;rwa[bZ (h pZ (atS σ E) [] s σ H Q I.at_ (by show t (atS σ E σ) σ H Q;rw[vg];erw[z])) (λu s' #[H',I',q]=>#[H',I'.oE,q]) λu s' q=>q.one]
theorem RG{t:XK->TT}{E:St->XK}(h:Cs (X.at_ pZ E) e t):PT (X.at_ pZ E) e (λσ H Q=>t (E σ) σ H Q):=by
 intro pins' s σ H Q I z;erw[bZ (h pins' s σ H Q (E σ) I z) (λu s' q=>q) λu s' q=>q.oE]
theorem ZC{t:XK->TA}(h:∀pZ E,PA (X.at_ pZ E) es (λσ H Q=>t (E σ) σ H Q)):Ct X es t:=by
 intro pos pZ s σ H Q E I z;rwa[bZ (h pZ (atS σ E) pos [] s σ H Q I.at_ (by show t (atS σ E σ) σ H Q;rw[vg];erw[z])) (λu s' #[vs,H',I',r,q]=>#[vs,H',I'.oE,r,q]) λu s' q=>q.one]
theorem AE{t:XK->TA}{E:St->XK}(h:Ct (X.at_ pZ E) es t):PA (X.at_ pZ E) es (λσ H Q=>t (E σ) σ H Q):=by
 intro pos pins' s σ H Q I z;erw[bZ (h pos pins' s σ H Q (E σ) I z) (λu s' q=>q) λu s' q=>q.oE]
end
structure jF(c:Ctx)(ρ:List Addr)(H:Hp)(env:PL.Env)(σ:St):Prop where
 len:env.length=σ.length
 at_:∀(i:Nat)u,env[i]?=some (some u)->∃v,σ[i]?=some (some v)/\Rep c ρ H u v
def ExcAt(_:Ctx)(_:List Addr)(_:Hp)(_:Xn)(_ _:Addr):Prop:=True
section
variable(c:Ctx)(ρ:List Addr)(H:Hp)
def QV(QU:KU)(Q:VK):Prop:=∀u S' v H' ρ',QU u S'->gY ρ H ρ' H'->cv c ρ' H' S'->Rep c ρ' H' u v->Q v H'
def QB(QU:Bool->bj->Prop)(Q:Bool->Hp->Prop):Prop:=∀b S' H' ρ',QU b S'->gY ρ H ρ' H'->cv c ρ' H' S'->Q b H'
def QA(QU:List U->bj->Prop)(Q:List V->Hp->Prop):Prop:=∀us S' vs H' ρ',QU us S'->gY ρ H ρ' H'->cv c ρ' H' S'->aV c ρ' H' us vs->Q vs H'
def QX(EU:KX)(E:XK):Prop:=∀x S' H' ρ' C d,EU x S'->gY ρ H ρ' H'->cv c ρ' H' S'->ExcAt c ρ' H' x C d->E (.ref C) (some d) H'
end
section
variable{c:Ctx}{ρ ρ':List Addr}{H H':Hp}{S:bj}
theorem QV.later{QU:KU}{Q:VK}(q:QV c ρ H QU Q)(a:gY ρ H ρ' H'):QV c ρ' H' QU Q:=λu S' v H2 ρ2 h b R r=>q u S' v H2 ρ2 h (a.trans b) R r
theorem QB.later{QU:Bool->bj->Prop}{Q:Bool->Hp->Prop}(q:QB c ρ H QU Q)(a:gY ρ H ρ' H'):QB c ρ' H' QU Q:=λu S' H2 ρ2 h b R=>q u S' H2 ρ2 h (a.trans b) R
theorem QX.later{EU:KX}{E:XK}(q:QX c ρ H EU E)(a:gY ρ H ρ' H'):QX c ρ' H' EU E:=λx S' H2 ρ2 C d h b R r=>q x S' H2 ρ2 C d h (a.trans b) R r
theorem QV.now{QU:KU}{Q:VK}(q:QV c ρ H QU Q)(R:cv c ρ H S){u:U}{v:V}(h:QU u S)(r:Rep c ρ H u v):Q v H:=q u S v H ρ h .refl R r
theorem jF.later{env:PL.Env}{σ:St}(h:jF c ρ H env σ)(R:cv c ρ H S)(a:gY ρ H ρ' H'):jF c ρ' H' env σ:=
 #[h.len,λi u e=>by let#[v,h1,h2]:=h.at_ i u e;exact#[v,h1,h2.mono R a]]
end
section
variable(c:Ctx)(Γ:bT)
def tE(x:PL.Ex):XK->TE:=λE σ H Q=>∃env ρ S QU EU,jF c ρ H env σ/\cv c ρ H S/\PL.WE Γ x env S QU EU/\QV c ρ H QU Q/\QX c ρ H EU E
def tT(x:PL.Tx):XK->TT:=λE σ H Q=>∃env ρ S QU EU,jF c ρ H env σ/\cv c ρ H S/\PL.WT Γ x env S QU EU/\QB c ρ H QU Q/\QX c ρ H EU E
def Gi(x:PL.tw):XK->TA:=λE σ H Q=>∃env ρ S QU EU,jF c ρ H env σ/\cv c ρ H S/\PL.v9 Γ x env S QU EU/\QA c ρ H QU Q/\QX c ρ H EU E
end
end L2
end
section
set_option autoImplicit false
namespace L2
open PySem PySem.Spec PyProof.Rows PySem.W
open PL (U SO bj Xn KU KX Spec bT)
theorem pU{n:Nat}(h:n<=1000000):n<=sizeLine:=aP h ⋯
section
variable{c:Ctx}{ρ:List Addr}{H:Hp}{S:bj}
theorem eR{v:V}:Rep c ρ H .bV v↔v=.bV:=by unfold Rep;erw[km]
theorem fc{b:Bool}{v:V}:Rep c ρ H (.bl b) v↔v=.bl b:=by unfold Rep;erw[km]
theorem aQ{b:Int}{v:V}:Rep c ρ H (.int b) v↔v=.int b:=by unfold Rep;erw[km]
theorem bx{b:List Nat}{v:V}:Rep c ρ H (.str b) v↔v=.str (tx b):=by unfold Rep;erw[km]
theorem dI{us:List U}{v:V}:Rep c ρ H (.tup us) v↔∃a vs,v=.ref a/\H a=some (.tup vs)/\aV c ρ H us vs:=by unfold Rep;erw[km]
theorem eG{n:Nat}{v:V}:Rep c ρ H (.loc n) v↔∃a,v=.ref a/\ρ[n]?=some a:=by unfold Rep;erw[km]
theorem rh{ns:List Int}{v:V}:Rep c ρ H (.sj ns) v↔∃a,v=.ref a/\xh c.K H a (ns.map .int):=by unfold Rep;erw[km]
theorem uf{kvs:List (List Nat×List Nat)}{v:V}:Rep c ρ H (.tab kvs) v↔∃a,v=.ref a/\OX c.K c.w.params a (kvs.map λp=>(tx p.1,V.str (tx p.2))):=by unfold Rep;erw[km]
theorem cv.lst(R:cv c ρ H S){n:Nat}{us:List U}{v:V}(h:S[n]?=some (.lst us))(r:Rep c ρ H (.loc n) v):∃a vs,v=.ref a/\ρ[n]?=some a/\H a=some (.lst vs)/\aV c ρ H us vs:=by
 let#[a,e,ha]:=eG.mp r;let#[vs,h1,h2]:=R.at_ n a _ ha h;exact#[a,vs,e,ha,h1,h2]
theorem cv.ins(R:cv c ρ H S){n:Nat}{x:String}{fs:List (String×U)}{v:V}(h:S[n]?=some (.ins x fs))(r:Rep c ρ H (.loc n) v):∃a C dx vs,v=.ref a/\ρ[n]?=some a/\c.cls x=some C/\H a=some (.ins C dx vs)/\vs.map (·.1)=(fs.map (·.1)).map nm/\aV c ρ H (fs.map (·.2)) (vs.map (·.2)):=by
 let#[a,e,ha]:=eG.mp r;let#[C,dx,vs,h0,h1,h2,h3]:=R.at_ n a _ ha h;exact#[a,C,dx,vs,e,ha,h0,h1,h2,h3]
theorem QV.Fp{QU:KU}{Q:VK}(q:QV c ρ H QU Q)(R:cv c ρ H S){us:List U}{vs:List V}(r:aV c ρ H us vs)(h:QU (.loc S.length) (S++[.lst us])){p:Addr}(hp:H p=none):Q (.ref p) (upd H p (.lst vs)):=by
 have st:=gY.alloc R hp (.lst vs);have R':cv c (ρ++[p]) (upd H p (.lst vs)) (S++[.lst us]):=R.alloc hp #[vs,cb,r.mono R st];rwa[q _ _ _ _ _ h st R' (eG.mpr #[p,rfl,?_])];rw[<-R.len,aw (ar _),bH];rfl
theorem QV.LL{QU:KU}{Q:VK}(q:QV c ρ H QU Q)(R:cv c ρ H S){us:List U}{vs:List V}(r:aV c ρ H us vs)(h:QU (.tup us) S){p:Addr}(hp:H p=none):Q (.ref p) (upd H p (.tup vs)):=by
 have st:=gY.lay R hp (.tup vs);erw[q _ _ _ _ _ h st (R.lay hp _) (dI.mpr #[p,vs,rfl,cb,r.mono R st])]
end
noncomputable def wa(c:Ctx)(o:PL.t9):R2:=λx y H Q=>∃ux uy ρ S QU,Rep c ρ H ux x/\Rep c ρ H uy y/\cv c ρ H S/\PL.kh o ux uy S QU/\QV c ρ H QU Q
noncomputable def LM:PL.t9->gO
 |.add=>.Add|.sub=>.Sub|.mul=>.Mult|.fdiv=>.FloorDiv|.mod=>.Mod|.band=>.BitAnd|.bor=>.BitOr|.shl=>.LShift|.shr=>.RShift
section
variable{X:Cx}{c:Ctx}
theorem LN:gM X (cB .Add) (wa c .add):=by
 x_go;let#[ux,uy,ρ,S,QU,hx,hy,R,w,q]:=h;cases ux<;>first|exact aL w|skip
 .rename_i i
  let#[j,rfl,w]:=PL.fu.mp w;erw[Oe pZ s σ H x y v u Q I rx ry #[i,j,aQ.mp hx,aQ.mp hy,q.now R w (aQ.mpr rfl)]]
 .rename_i a
  let#[b,rfl,w]:=PL.oY.mp w;erw[E7 pZ s σ H x y v u Q I rx ry #[a,b,bx.mp hx,bx.mp hy,pU w.1,q.now R w.2 (bx.mpr rfl)]]
 .rename_i us
  let#[ws,rfl,w]:=PL.Lv.mp w;let#[a,vs,e1,h1,r1]:=dI.mp hx;let#[b,zs,e2,h2,r2]:=dI.mp hy;let#[w1,w2]:=w;by_cases w0:us=[]
  .subst w0
   have ev:vs=[]:=fV (by rw[<-r1.len];rfl);subst ev;erw[HD pZ s σ H x y v u Q I rx ry #[a,b,zs,e1,e2,lY.of h1,lY.of h2,by rw[<-e2];exact q.now R w2 hy]]
  rwa[K2 pZ s σ H x y v u Q I rx ry #[a,b,vs,zs,e1,e2,lY.of h1,lY.of h2,λe=>w0 ?_,pU (by rw[<-r1.len,<-r2.len];erw[w1]),λe=>?_,λ_ p hp=>?_]]
  .erw[fV (by rw[r1.len,e];rfl)]
  .have e3:ws=[]:=fV (by rw[r2.len,e];rfl)
   subst e3;rw[bX] at w2;rw[<-e1]
   erw[q.now R w2 hx]
  .erw[q.LL R (r1.app r2) w2 hp]
 .rename_i m
  let#[n,rfl,w]:=PL.ja.mp w;let#[us,h1,w1]:=PL.df.mp w;let#[ws,h2,w2,w3]:=PL.df.mp w1;let#[a,vs,e1,_,g1,r1]:=R.lst h1 hx;let#[b,zs,e2,_,g2,r2]:=R.lst h2 hy;erw[OL pZ s σ H x y v u Q I rx ry #[a,b,vs,zs,e1,e2,g1,g2,pU (by rw[<-r1.len,<-r2.len];exact w2),λp hp=>q.Fp R (r1.app r2) w3 hp]]
theorem LO:gM X (cB .Sub) (wa c .sub):=by
 x_go;let#[ux,uy,ρ,S,QU,hx,hy,R,w,q]:=h;let#[i,j,rfl,rfl,w]:=PL.kN w;erw[Of pZ s σ H x y v u Q I rx ry #[i,j,aQ.mp hx,aQ.mp hy,q.now R w (aQ.mpr rfl)]]
theorem LP:gM X (cB .Mult) (wa c .mul):=by
 x_go;let#[ux,uy,ρ,S,QU,hx,hy,R,w,q]:=h;cases ux<;>first|exact aL w|skip
 .rename_i i
  let#[j,rfl,w]:=PL.fu.mp w;erw[Og pZ s σ H x y v u Q I rx ry #[i,j,aQ.mp hx,aQ.mp hy,w.1,q.now R w.2 (aQ.mpr rfl)]]
 .rename_i a
  let#[j,rfl,w]:=PL.fu.mp w;let#[k,e,w0,w1,w2]:=w;subst e;let#[n,rfl]:=Bl w0;exact E8 pZ s σ H x y v u Q I rx ry #[k,n,bx.mp hx,aQ.mp hy,∅,q.now R (by simpa using w2) (bx.mpr rfl)]
theorem HX:gM X (cB .FloorDiv) (wa c .fdiv):=by
 x_go;let#[ux,uy,ρ,S,QU,hx,hy,R,w,q]:=h;let#[i,j,rfl,rfl,w]:=PL.kN w;erw[KI pZ s σ H x y v u Q I rx ry #[i,j,aQ.mp hx,aQ.mp hy,w.1,q.now R w.2 (aQ.mpr rfl)]]
theorem LQ:gM X (cB .Mod) (wa c .mod):=by
 x_go;let#[ux,uy,ρ,S,QU,hx,hy,R,w,q]:=h;let#[i,j,rfl,rfl,w]:=PL.kN w;erw[Oh pZ s σ H x y v u Q I rx ry #[i,j,aQ.mp hx,aQ.mp hy,w.1,q.now R w.2 (aQ.mpr rfl)]]
theorem HY:gM X (cB .BitAnd) (wa c .band):=by
 x_go;let#[ux,uy,ρ,S,QU,hx,hy,R,w,q]:=h;let#[i,j,rfl,rfl,w]:=PL.kN w;erw[Ol pZ s σ H x y v u Q I rx ry #[i,j,aQ.mp hx,aQ.mp hy,by dsimp only;rw[uc w.1.1 w.1.2];exact q.now R w.2 (aQ.mpr rfl)]]
theorem LR:gM X (cB .BitOr) (wa c .bor):=by
 x_go;let#[ux,uy,ρ,S,QU,hx,hy,R,w,q]:=h;let#[i,j,rfl,rfl,w]:=PL.kN w;erw[Sl pZ s σ H x y v u Q I rx ry #[i,j,aQ.mp hx,aQ.mp hy,by dsimp only;rw[Ck w.1.1 w.1.2];exact q.now R w.2 (aQ.mpr rfl)]]
theorem LS:gM X (cB .LShift) (wa c .shl):=by
 x_go;let#[ux,uy,ρ,S,QU,hx,hy,R,w,q]:=h;let#[i,j,rfl,rfl,w]:=PL.kN w;let#[#[w1,w2,w3,w4],w5]:=w;erw[Oi pZ s σ H x y v u Q I rx ry #[i,j,aQ.mp hx,aQ.mp hy,#[w3,∅,∅],q.now R w5 (aQ.mpr rfl)]]
theorem LU:gM X (cB .RShift) (wa c .shr):=by
 x_go;let#[ux,uy,ρ,S,QU,hx,hy,R,w,q]:=h;let#[i,j,rfl,rfl,w]:=PL.kN w;erw[Oj pZ s σ H x y v u Q I rx ry #[i,j,aQ.mp hx,aQ.mp hy,w.1.2,q.now R w.2 (aQ.mpr rfl)]]
noncomputable def Fq(c:Ctx)(o:PL.t9):R2:=λx y H Q=>∃ux uy ρ S QU,Rep c ρ H ux x/\Rep c ρ H uy y/\cv c ρ H S/\PL.yx o ux uy S QU/\QV c ρ H QU Q
theorem HZ:gM X (ic .Add) (Fq c .add):=by
 x_go;let#[ux,uy,ρ,S,QU,hx,hy,R,w,q]:=h;cases ux<;>first|exact aL w|skip
 .rename_i i
  let#[j,rfl,w]:=PL.fu.mp w;erw[KJ pZ s σ H x y v u Q I rx ry #[i,j,aQ.mp hx,aQ.mp hy,q.now R w (aQ.mpr rfl)]]
 .rename_i a
  let#[b,rfl,w]:=PL.oY.mp w;erw[B7 pZ s σ H x y v u Q I rx ry #[a,b,bx.mp hx,bx.mp hy,pU w.1,q.now R w.2 (bx.mpr rfl)]]
theorem H0:gM X (ic .Sub) (Fq c .sub):=by
 x_go;let#[ux,uy,ρ,S,QU,hx,hy,R,w,q]:=h;cases ux<;>first|exact aL w|skip
 rename_i i;let#[j,rfl,w]:=PL.fu.mp w;erw[KL pZ s σ H x y v u Q I rx ry #[i,j,aQ.mp hx,aQ.mp hy,q.now R w (aQ.mpr rfl)]]
theorem H8:gM X (ic .BitOr) (Fq c .bor):=by
 x_go;let#[ux,uy,ρ,S,QU,hx,hy,R,w,q]:=h;cases ux<;>first|exact aL w|skip
 rename_i i;let#[j,rfl,w]:=PL.fu.mp w;erw[Om pZ s σ H x y v u Q I rx ry #[i,j,aQ.mp hx,aQ.mp hy,by dsimp only;rw[Ck w.1.1 w.1.2];exact q.now R w.2 (aQ.mpr rfl)]]
theorem LV{o:PL.t9}:gM X (cB (LM o)) (wa c o):=by
 cases o
 .erw[LN]
 .erw[LO]
 .erw[LP]
 .erw[HX]
 .erw[LQ]
 .erw[HY]
 .erw[LR]
 .erw[LS]
 .erw[LU]
theorem yH{o:PL.t9}(h:o=.add\/o=.sub\/o=.bor):gM X (ic (LM o)) (Fq c o):=by
 rcases h with rfl|rfl|rfl
 .erw[HZ]
 .erw[H0]
 .erw[H8]
noncomputable def tX(c:Ctx)(o:PL.Gh):R2:=λx y H Q=>∃ux uy ρ S,Rep c ρ H ux x/\Rep c ρ H uy y/\cv c ρ H S/\PL.i0 o ux uy S λb=>Q (.bl b) H
end
mutual
noncomputable def js:U->Dv
 |.bV=>.bV
 |.bl b=>.bl b
 |.int i=>.int i
 |.str l=>.str l
 |.tup us=>.tup (fH us)
 |_=>.bV
noncomputable def fH:List U->List Dv
 |[]=>[]
 |u::us=>js u::fH us
end
section
variable{c:Ctx}{ρ:List Addr}{H:Hp}{S:bj}
mutual
theorem pq:∀{u:U}{v:V},PL.wZ u=true->Rep c ρ H u v->gf c.K H v (js u)
 |.bV,_,_,h=>by unfold js gf;erw[eR.mp h]
 |.bl _,_,_,h=>by unfold js gf;erw[fc.mp h]
 |.int _,_,_,h=>by unfold js gf;erw[aQ.mp h]
 |.str _,_,_,h=>by unfold js gf;erw[bx.mp h]
 |.tup us,_,d,h=>by
  unfold js gf;let#[a,vs,e,h1,h2]:=dI.mp h;exact#[a,vs,e,lY.of h1,vh (by unfold PL.wZ at d;erw[d]) h2]
 |.loc _,_,d,_=>by cases d
 |.sj _,_,d,_=>by cases d
 |.tab _,_,d,_=>by cases d
theorem vh:∀{us:List U}{vs:List V},PL.k9 us=true->aV c ρ H us vs->iB c.K H vs (fH us)
 |[],_,_,h=>by unfold aV at h;subst h;unfold fH iB;trivial
 |u::us,_,d,h=>by
  unfold aV at h;let#[v,r,e,h1,h2]:=h;subst e;unfold PL.k9 at d;rw[aj] at d;unfold fH iB;exact#[pq d.1 h1,vh d.2 h2]
end
end
mutual
theorem Pl:∀u:U,PL.wZ u=true->(js u).depth=PL.dep u
 |.bV,_=>by simp[js,Dv.depth,PL.dep]
 |.bl _,_=>by simp[js,Dv.depth,PL.dep]
 |.int _,_=>by simp[js,Dv.depth,PL.dep]
 |.str _,_=>by simp[js,Dv.depth,PL.dep]
 |.tup us,d=>by
  unfold js Dv.depth PL.dep;rw[rj us (by unfold PL.wZ at d;erw[d])]
 |.loc _,d=>by cases d
 |.sj _,d=>by cases d
 |.tab _,d=>by cases d
theorem rj:∀us:List U,PL.k9 us=true->Dv.jE (fH us)=PL.nM us
 |[],_=>by simp[fH,Dv.jE,PL.nM]
 |u::us,d=>by
  unfold PL.k9 at d;rw[aj] at d;unfold fH Dv.jE PL.nM;rw[Pl u d.1,rj us d.2]
end
mutual
theorem DH:∀x y:U,PL.wZ x=true->PL.wZ y=true->PL.oX x y=og (js x) (js y)
 |.tup us,y,d,d'=>by
  cases y with
  |tup ws=>erw[Ia us ws d d']
  |_=>first|rfl|cases d'
 |.loc _,_,d,_|.sj _,_,d,_|.tab _,_,d,_=>by cases d
 |.bV,y,_,d|.bl _,y,_,d|.int _,y,_,d|.str _,y,_,d=>by cases y<;>first|rfl|cases d
theorem Ia:∀xs ys:List U,PL.k9 xs=true->PL.k9 ys=true->PL.v8 xs ys=oA (fH xs) (fH ys)
 |[],y,_,_=>by cases y<;>rfl
 |_::_,[],_,_=>rfl
 |x::xs,y::ys,d,d'=>by
  have d:=(aj _ _).mp d;have d':=(aj _ _).mp d'
  change (PL.oX x y&&PL.v8 xs ys)=(og (js x) (js y)&&oA (fH xs) (fH ys))
  rw[DH x y d.1 d'.1,Ia xs ys d.2 d'.2]
end
theorem Pm{a b:List Nat}:decide (V.str (tx a)=V.str (tx b))=(a==b):=by
 rw[dy]
 simp[Dw]
theorem DI{c:Ctx}{ρ:List Addr}{H:Hp}{x y:U}{v w:V}(t:PL.Hz x y=true)(nt:PL.HA x=true)(hx:Rep c ρ H x v)(hy:Rep c ρ H y w):Oq v w=true/\decide (v=w)=PL.oX x y:=by
 cases x<;>first|exact ff nt|exact ff t| (cases y<;>first|exact ff t| ((first|rw[eR.mp hx]|rw[fc.mp hx]|rw[aQ.mp hx]|rw[bx.mp hx]);(first|rw[eR.mp hy]|rw[fc.mp hy]|rw[aQ.mp hy]|rw[bx.mp hy]);first|exact#[rfl,rfl]|exact#[rfl,BN]|exact#[rfl,ye]|exact#[rfl,Pm]))
section
variable{X:Cx}{c:Ctx}
theorem Pn(hK:X.K=c.K)(hu:X.A.units+200<eP):gM X (bD .Eq) (tX c .eq):=by
 x_go;let#[ux,uy,ρ,S,hx,hy,R,w0]:=h;have go:(PL.u6 ux uy λb=>Q (.bl b) H)->wpAny (bb X.prog X.w) X.A (bD .Eq v u) (EP X pZ σ Q) X.xe s:=by
  intro hh;let#[#[t,d,d',z],w]:=hh;by_cases nt:PL.HA ux=true
  .let#[e1,e2]:=DI t nt hx hy
   erw[Sn pZ s σ H x y v u Q I rx ry #[e1,by rw[e2];exact w]]
  .cases ux<;>first|exact absurd rfl nt|skip
   rename_i us;have g:=pq d hx;unfold js at g;rwa[OY hu pZ s σ H x y v u Q I rx ry #[fH us,js uy,hK▸g,hK▸pq d' hy,?_,?_]]
   .rw[rj us (by unfold PL.wZ at d;erw[d])];unfold PL.dep at z;omega
   .have:=DH (.tup us) uy d d'
    rw[show js (.tup us)= .tup (fH us) from by simp[js]] at this;rw[<-this];erw[w]
 erw[go w0]
theorem Po(hK:X.K=c.K)(hu:X.A.units+200<eP):gM X (bD .NotEq) (tX c .ne):=by
 x_go;let#[ux,uy,ρ,S,hx,hy,R,w0]:=h;let#[nt,#[t,d,d',z],w]:=w0;by_cases nt1:PL.HA ux=true
 .let#[e1,e2]:=DI t nt1 hx hy
  erw[So pZ s σ H x y v u Q I rx ry #[e1,by rw[e2];exact w]]
 .cases ux<;>first|exact absurd rfl nt1|skip
  cases uy<;>first|exact ff nt|skip
  rename_i us us';have g:=pq d hx;have g':=pq d' hy;unfold js at g g';rwa[O1 hu pZ s σ H x y v u Q I rx ry #[fH us,fH us',hK▸g,hK▸g',?_,?_]]
  .rw[rj us (by unfold PL.wZ at d;erw[d])];unfold PL.dep at z;omega
  .have:=DH (.tup us) (.tup us') d d'
   rw[show js (.tup us)= .tup (fH us) from by simp[js],show js (.tup us')= .tup (fH us') from by simp[js]] at this;rw[show oA (fH us) (fH us')=og (.tup (fH us)) (.tup (fH us')) from by unfold og;rfl,<-this];erw[w]
end
end L2
end
section
set_option autoImplicit false
namespace L2
open PySem PySem.Spec PyProof.Rows PySem.W
open PL (U SO bj Xn KU KX Spec bT)
section
variable{X:Cx}{c:Ctx}
theorem Pp:gM X (bD .Lt) (tX c .lt):=by
 x_go;let#[ux,uy,ρ,S,hx,hy,R,w]:=h;let#[i,j,rfl,rfl,w]:=PL.kN w;erw[Sq pZ s σ H x y v u Q I rx ry #[_,_,aQ.mp hx,aQ.mp hy,w]]
theorem Pq:gM X (bD .LtE) (tX c .le):=by
 x_go;let#[ux,uy,ρ,S,hx,hy,R,w]:=h;let#[i,j,rfl,rfl,w]:=PL.kN w;erw[Sr pZ s σ H x y v u Q I rx ry #[_,_,aQ.mp hx,aQ.mp hy,w]]
theorem Pr:gM X (bD .Gt) (tX c .gt):=by
 x_go;let#[ux,uy,ρ,S,hx,hy,R,w]:=h;let#[i,j,rfl,rfl,w]:=PL.kN w;erw[Ss pZ s σ H x y v u Q I rx ry #[_,_,aQ.mp hx,aQ.mp hy,w]]
theorem Pt:gM X (bD .GtE) (tX c .ge):=by
 x_go;let#[ux,uy,ρ,S,hx,hy,R,w]:=h;let#[i,j,rfl,rfl,w]:=PL.kN w;erw[Su pZ s σ H x y v u Q I rx ry #[_,_,aQ.mp hx,aQ.mp hy,w]]
theorem xi{ρ:List Addr}{H:Hp}{u:U}{v:V}(h:Rep c ρ H u v):decide (v=V.bV)=PL.oB u:=by
 cases u with
 |bV=>rw[eR.mp h];rfl
 |bl b=>rw[fc.mp h];rfl
 |int i=>rw[aQ.mp h];rfl
 |str l=>rw[bx.mp h];rfl
 |tup us=>let#[a,vs,e,_]:=dI.mp h;rw[e];rfl
 |loc n=>let#[a,e,_]:=eG.mp h;rw[e];rfl
 |sj ns=>let#[a,e,_]:=rh.mp h;rw[e];rfl
 |tab kvs=>let#[a,e,_]:=uf.mp h;rw[e];rfl
theorem Pu:gM X (bD .Is) (tX c .Ke):=by
 x_go;let#[ux,uy,ρ,S,hx,hy,R,w]:=h;have e:uy=.bV:=by cases uy<;>first|rfl|exact aL w
 subst e;rw[PL.Xk] at w;erw[Ot pZ s σ H x y v u Q I rx ry #[eR.mp hy,by rw[xi hx];exact w]]
theorem Ib:gM X (bD .IsNot) (tX c .Ca):=by
 x_go;let#[ux,uy,ρ,S,hx,hy,R,w]:=h;have e:uy=.bV:=by cases uy<;>first|rfl|exact aL w
 subst e;rw[PL.Pf] at w;erw[KN pZ s σ H x y v u Q I rx ry #[eR.mp hy,by rw[xi hx];exact w]]
theorem oF{ρ:List Addr}{H:Hp}{u:U}{v:V}(f:PL.flat u=true)(h:Rep c ρ H u v):pP v=true:=by
 cases u<;>first|exact ff f| (rw[eR.mp h];rfl)| (rw[fc.mp h];rfl)| (rw[aQ.mp h];rfl)| (rw[bx.mp h];rfl)
theorem LW{ρ:List Addr}{H:Hp}{u u':U}{v v':V}(f:PL.flat u=true)(f':PL.flat u'=true)(h:Rep c ρ H u v)(h':Rep c ρ H u' v'):K4 v v'=PL.oX u u':=by
 cases u<;>first|exact ff f| (cases u'<;>first|exact ff f'| ((first|rw[eR.mp h]|rw[fc.mp h]|rw[aQ.mp h]|rw[bx.mp h]);(first|rw[eR.mp h']|rw[fc.mp h']|rw[aQ.mp h']|rw[bx.mp h']);first|rfl|exact dy.mpr (by rename_i a b;show(tx a==tx b)=true↔(a==b)=true;simp[Nn])))
theorem rm{ρ:List Addr}{H:Hp}{u:U}{v:V}(f:PL.flat u=true)(h:Rep c ρ H u v):∀{us:List U}{vs:List V},us.all PL.flat=true->aV c ρ H us vs->vs.all pP=true/\VS v vs=us.any λy=>PL.oX y u
 |[],_,_,r=>by unfold aV at r;subst r;exact#[rfl,rfl]
 |w::us,_,a,r=>by
  unfold aV at r;let#[x,t,e,h1,h2]:=r;subst e;rw[bK,aj] at a;let#[z1,z2]:=rm f h a.2 h2;refine#[by rw[bK,oF a.1 h1,z1];rfl,?_];unfold VS at z2 ⊢;rw[cU,cU,z2,LW a.1 f h1 h]
theorem lookup_tab{kvs:List (List Nat×List Nat)}{k v:List Nat}(h:kvs.lookup k=some v):(kvs.map λp=>(tx p.1,V.str (tx p.2))).lookup (tx k)=some (V.str (tx v)):=by
 induction kvs with
 |nil=>cases h
 |cons p r ih=>
  let#[a,b]:=p;rw[ay,aN]
  rw[aN] at h;by_cases e:k=a
  .subst e
   simp at h ⊢;erw[h]
  .have e2:(k==a)=false:=by simp[e]
   have e3:(tx k==tx a)=false:=by
    rw[beq_eq_false_iff_ne];erw[λz=>e (qe z)]
   rw[e2] at h;dsimp[e3];erw[ih h]
theorem AF{kvs:List (List Nat×List Nat)}{k:List Nat}(h:kvs.lookup k=none):(kvs.map λp=>(tx p.1,V.str (tx p.2))).lookup (tx k)=none:=by
 induction kvs with
 |nil=>rfl
 |cons p r ih=>
  rw[aN] at h;rw[ay,aN]
  cases z:k==p.1 with
  |true=>rw[z] at h;cases h
  |false=>
   rw[z] at h;have:(tx k==tx p.1)=false:=by
    rw[beq_eq_false_iff_ne] at z ⊢;erw[λe=>z (qe e)]
   rw[this]
   erw[ih h]
theorem Ic{u:U}(hu:PL.wZ u=true):∀{us:List U},PL.k9 us=true->((fH us).any λe=>og e (js u))=us.any λy=>PL.oX y u
 |[],_=>by unfold fH;rfl
 |w::us,d=>by
  unfold PL.k9 at d;rw[aj] at d;unfold fH;rw[cU,cU,Ic hu d.2,DH w u d.1 hu]
theorem Pw(hK:X.K=c.K)(hP:X.w.params=c.w.params):gM X (bD .In) (tX c .isin):=by
 x_go;let#[ux,uy,ρ,S,hx,hy,R,w]:=h;cases uy with
 |str b=>
  let#[a,rfl,w]:=PL.oY.mp w;erw[Fc pZ s σ H x y v u Q I rx ry #[a,b,bx.mp hx,bx.mp hy,w]]
 |tab kvs=>
  let#[k,rfl,w]:=PL.oY.mp w;let#[a,e,h1]:=uf.mp hy;have w:Q (.bl (kvs.lookup k).isSome) H:=w;have ex:=h1.ex;rw[<-hK,<-hP] at ex;cases z:kvs.lookup k with
  |some t=>
   let#[u',_,e2]:=h1.at_ _ _ (lookup_tab z);exact HC pZ s σ H x y v u Q I rx ry #[a,_,some u',bx.mp hx,e,ex,h1.ns,hK▸e2,by rw[z] at w;erw[w]]
  |none=>
   have e2:=h1.no _ (AF z);exact HC pZ s σ H x y v u Q I rx ry #[a,_,none,bx.mp hx,e,ex,h1.ns,hK▸e2,by rw[z] at w;erw[w]]
 |tup us=>
  rw[PL.Pc] at w;let#[#[f,a],w]:=w;let#[p,vs,e,h1,h2]:=dI.mp hy;let#[z1,z2]:=rm f hx a h2;erw[wO pZ s σ H x y v u Q I rx ry #[p,vs,e,.inr (lY.of h1),oF f hx,z1,by rw[z2];exact w]]
 |loc n=>
  rw[PL.Pe] at w;let#[us,g,#[f,a],w]:=PL.df.mp w;let#[p,vs,e,_,h1,h2]:=R.lst g hy;let#[z1,z2]:=rm f hx a h2;erw[wO pZ s σ H x y v u Q I rx ry #[p,vs,e,.inl (iT.of h1),oF f hx,z1,by rw[z2];exact w]]
 |_=>erw[aL w]
theorem Fs(hK:X.K=c.K)(hu:X.A.units+200<eP):gM X (bD .NotIn) (tX c .nA):=by
 x_go;let#[ux,uy,ρ,S,hx,hy,R,w]:=h;cases uy with
 |str b=>
  let#[a,rfl,w]:=PL.oY.mp w;erw[yz pZ s σ H x y v u Q I rx ry #[a,b,bx.mp hx,bx.mp hy,w]]
 |tup us=>
  rw[PL.Pd] at w;let#[#[f,a],w]:=w;let#[p,vs,e,h1,h2]:=dI.mp hy;let#[z1,z2]:=rm f hx a h2;erw[qQ pZ s σ H x y v u Q I rx ry #[p,vs,e,.inr (lY.of h1),oF f hx,z1,by rw[z2];exact w]]
 |loc n=>
  by_cases ht:∃ts,ux=.tup ts
  .let#[ts,rfl]:=ht
   rw[PL.LF] at w;let#[us,g,#[d1,d2,d3],w]:=PL.df.mp w;let#[p,vs,e,_,h1,h2]:=R.lst g hy;have dt:PL.wZ (.tup ts)=true:=by unfold PL.wZ;erw[d1]
   rwa[Fi hu pZ s σ H x y v u Q I rx ry #[p,vs,fH us,js (.tup ts),e,iT.of h1,hK▸vh d2 h2,hK▸pq dt hx,by rw[rj us d2];erw[d3],?_]];rw[Ic dt d2]
   erw[w]
  have w:PL.getL S[n]? λus=>PL.qT ux us λb=>Q (.bl !b) H:=by
   cases ux<;>first|exact w|exact absurd #[_,rfl] ht
  let#[us,g,#[f,a],w]:=PL.df.mp w;let#[p,vs,e,_,h1,h2]:=R.lst g hy;let#[z1,z2]:=rm f hx a h2;erw[qQ pZ s σ H x y v u Q I rx ry #[p,vs,e,.inl (iT.of h1),oF f hx,z1,by rw[z2];exact w]]
 |_=>erw[aL w]
noncomputable def vi:U->Key
 |.int i=>.inl i
 |.str l=>.inr (some (tx l))
 |_=>.inr none
section
variable{ρ:List Addr}{H:Hp}{S:bj}
theorem j6{u:U}{v:V}(hk:PL.mP u=true)(r:Rep c ρ H u v):v=kV (vi u):=by
 cases u<;>first|exact ff hk|skip
 .erw[eR.mp r]
 .erw[aQ.mp r]
 .erw[bx.mp r]
theorem LX{a:U}{b:Key}(r:Rep c ρ H a (kV b)):PL.mP a=true/\vi a=b:=by
 have nr:∀p,kV b≠V.ref p:=λp=>by rcases b with i|_|x<;>exact λe=>nomatch e
 cases a<;>unfold Rep at r
 .rcases b with i|_|x<;>cases r;exact#[rfl,rfl]
 .rcases b with i|_|x<;>cases r
 .rcases b with i|_|x<;>cases r;exact#[rfl,rfl]
 .rcases b with i|_|x<;>cases r;exact#[rfl,rfl]
 .let#[p,_,e,_]:=r;erw[absurd e (nr p)]
 .let#[p,e,_]:=r;erw[absurd e (nr p)]
 .let#[p,e,_]:=r;erw[absurd e (nr p)]
 .let#[p,e,_]:=r;erw[absurd e (nr p)]
theorem DJ{a u:U}(ha:PL.mP a=true)(hu:PL.mP u=true):PL.RC a u=true↔vi a=vi u:=by
 cases a<;>first|exact ff ha| (cases u<;>first|exact ff hu|skip)
 .exact#[λ_=>rfl,λ_=>rfl]
 .exact#[λe=>ff e,λe=>by cases e]
 .exact#[λe=>ff e,λe=>by cases e]
 .exact#[λe=>ff e,λe=>by cases e]
 .exact#[λe=>congrArg wk (eq_of_beq e),λe=>beq_iff_eq.mpr (zK e)]
 .exact#[λe=>ff e,λe=>by cases e]
 .exact#[λe=>ff e,λe=>by cases e]
 .exact#[λe=>ff e,λe=>by cases e]
 .exact#[λe=>by rw[eq_of_beq e],λe=>beq_iff_eq.mpr (qe (aH (sR e)))]
theorem rn{u:U}(hu:PL.mP u=true):∀{kvs:List (U×U)}{vs:List (Key×V)},vs.length=kvs.length->aV c ρ H (kvs.map (·.1)) (vs.map λp=>kV p.1)->aV c ρ H (kvs.map (·.2)) (vs.map (·.2)) ->
  (PL.u5 u kvs=none/\jr vs (vi u)=none)\/∃u' v',PL.u5 u kvs=some u'/\jr vs (vi u)=some v'/\Rep c ρ H u' v':=by
 intro kvs;induction kvs with
 |nil=>intro vs hl _ _;cases vs with|nil=>erw[.inl #[rfl,rfl]]|cons _ _=>cases hl
 |cons p ps ih=>
  intro vs hl h1 h2;let#[a,w]:=p;cases vs with|nil=>cases hl|cons p vs=>?_
  let#[b,y]:=p;dsimp[ay] at h1 h2;unfold aV at h1 h2;let#[v1,r1,e1,p1,q1]:=h1;let#[v2,r2,e2,p2,q2]:=h2;cases e1;cases e2;let#[ka,rfl]:=LX p1;unfold PL.u5;by_cases ek:PL.RC a u=true
  .rw[if_pos ek,kL ((DJ ka hu).mp ek)]
   erw[.inr #[w,y,rfl,rfl,p2]]
  .rw[if_neg ek,kM λz=>ek ((DJ ka hu).mpr z)]
   erw[ih (mw hl) q1 q2]
theorem cv.dd(R:cv c ρ H S){n:Nat}{v:V}{kvs:List (U×U)}(e:S[n]?=some (.eL kvs)\/S[n]?=some (.uY kvs))(r:Rep c ρ H (.loc n) v):
  ∃a vs,v=.ref a/\ρ[n]?=some a/\Rd H a (.dK vs)/\vs.length=kvs.length/\aV c ρ H (kvs.map (·.1)) (vs.map λp=>kV p.1)/\aV c ρ H (kvs.map (·.2)) (vs.map (·.2)):=by
 let#[a,ev,ha]:=eG.mp r;rcases e with e|e
 .let#[vs,h1,h2]:=R.at_ n a _ ha e
  exact#[a,vs,ev,ha,.inl h1,h2]
 .let#[o,vs,h1,h2]:=R.at_ n a _ ha e
  exact#[a,vs,ev,ha,.inr #[o,h1],h2]
end
theorem Ie(hu:X.A.units+200<eP):gM X (bD .NotIn) (tX c .Cb):=by
 x_go;let#[ux,uy,ρ,S,hx,hy,R,w]:=h;let#[n,rfl,w]:=PL.ja.mp (show PL.ua _ _ from w);let#[kvs,e,hk,w]:=PL.iV.mp w;let#[a,vs,rfl,_,g1,g2,g3,g4]:=R.dd e hy;cases (show u=bg a from ry);have g:sd H a x (jr vs (vi ux)):=.inl #[vs,vi ux,g1,j6 hk hx,rfl];rwa[K9 ∅ I g rx λs' I'=>#[.bl _,H,I',rfl,?_]]
 rcases rn hk g2 g3 g4 with⟨l1,l2⟩|⟨u',v',l1,l2,_⟩<;>rw[l1] at w<;>rw[l2]<;>exact w
noncomputable def DK:PL.Gh->zt
 |.eq=>.Eq|.ne=>.NotEq|.lt=>.Lt|.le=>.LtE|.gt=>.Gt|.ge=>.GtE|.isin=>.In|.nA=>.NotIn|.Ke=>.Is|.Ca=>.IsNot|.Cb=>.NotIn
theorem DL(hK:X.K=c.K)(hP:X.w.params=c.w.params)(hu:X.A.units+200<eP)(o:PL.Gh):gM X (bD (DK o)) (tX c o):=by
 cases o
 .erw[Pn hK hu]
 .erw[Po hK hu]
 .erw[Pp]
 .erw[Pq]
 .erw[Pr]
 .erw[Pt]
 .erw[Pw hK hP]
 .erw[Fs hK hu]
 .erw[Pu]
 .erw[Ib]
 .erw[Ie hu]
noncomputable def Yf(c:Ctx):R2:=λx y H Q=>∃ux uy ρ S,Rep c ρ H ux x/\Rep c ρ H uy y/\cv c ρ H S/\PL.Kf ux uy S λu=>∀v,Rep c ρ H u v->Q v H
theorem Cu{ρ:List Addr}{H:Hp}{us:List U}{vs:List V}{i:Int}{u:U}(r:aV c ρ H us vs)(h:PL.sk us i=some u):∃v,OG vs i=some v/\Rep c ρ H u v:=by
 unfold PL.sk at h;unfold OG;have e:OF vs.length i=PL.OZ us.length i:=by rw[r.len];rfl
 rw[e]
 cases q:PL.OZ us.length i with
 |none=>rw[q] at h;cases h
 |some j=>
  rw[q] at h;erw[r.get h]
theorem xj{ρ:List Addr}{H:Hp}:∀{ns:List Int},aV c ρ H (ns.map .int) (ns.map V.int)
 |[]=>aV.nil
 |n::ns=>aV.cons (aQ.mpr rfl) xj
theorem Px(hK:X.K=c.K)(hP:X.w.params=c.w.params):Rx X (Yf c):=by
 intro value slice pZ s σ H x y v u Q I rx ry h hs;let#[ux,uy,ρ,S,hx,hy,R,w]:=h;cases ux<;>first|exact aL w|skip
 .rename_i l
  let#[i,rfl,w]:=PL.fu.mp w;let#[w1,w2]:=w;let#[k,g,w3]:=PL.i9.mp w2;erw[OI value slice pZ s σ H x y v u Q I rx ry #[_,i,k,bx.mp hx,aQ.mp hy,pU (by rw[dv];exact w1),g,w3 _ (bx.mpr rfl)] hs]
 .rename_i us
  let#[i,rfl,w]:=PL.fu.mp w;let#[w1,w2]:=w;let#[k,g,w3]:=PL.i9.mp w2;let#[p,vs,e,h1,h2]:=dI.mp hx;let#[z,e2,r2]:=Cu h2 g;erw[OH value slice pZ s σ H x y v u Q I rx ry #[p,vs,i,z,e,aQ.mp hy,lY.of h1,e2,w3 _ r2] hs]
 .rename_i n
  let#[i,rfl,w]:=PL.fu.mp w;let#[us,g0,w1]:=PL.df.mp w;let#[k,g,w3]:=PL.i9.mp w1;let#[p,vs,e,_,h1,h2]:=R.lst g0 hx;let#[z,e2,r2]:=Cu h2 g;erw[Dq value slice pZ s σ H x y v u Q I rx ry #[p,vs,i,z,e,aQ.mp hy,iT.of h1,e2,w3 _ r2] hs]
 .rename_i ns
  let#[i,rfl,w]:=PL.fu.mp w;let#[w1,w2]:=w;let#[k,g,w3]:=PL.i9.mp w2;let#[p,e,h1]:=rh.mp hx;have g':PL.sk (ns.map U.int) i=some (.int k):=by
   unfold PL.sk at g ⊢;rw[ah]
   cases q:PL.OZ ns.length i with
   |none=>rw[q] at g;erw[nn g]
   |some j=>rw[q] at g;simp at g ⊢;erw[g]
  let#[z,e2,r2]:=Cu (c:=c) (ρ:=ρ) (H:=H) xj g';erw[Dq value slice pZ s σ H x y v u Q I rx ry #[p,_,i,z,e,aQ.mp hy,hK▸h1.sq,e2,w3 _ r2] hs]
 .rename_i kvs
  let#[k,rfl,w]:=PL.oY.mp w;let#[z,g,w3]:=PL.i9.mp w;let#[a,e,h1]:=uf.mp hx;erw[yt value slice pZ s σ H x y v u Q I rx ry #[a,_,_,_,e,bx.mp hy,by rw[hK,hP];exact h1,lookup_tab g,w3 _ (bx.mpr rfl)] hs]
def Yg(c:Ctx):V->Option Int->Option Int->Hp->VK->Prop:=λx lo hi H Q=>∃ux ρ S QU,Rep c ρ H ux x/\cv c ρ H S/\PL.Nt ux lo hi S QU/\QV c ρ H QU Q
theorem Ig{lo:Option Int}{n:Nat}(h:∀i,lo=some i->0<=i):HT.jq n 0 lo=min (lo.getD 0).toNat n:=by
 cases lo with
 |none=>simp[HT.jq]
 |some i=>have:=h i rfl;dsimp[HT.jq,d7];rw[if_neg ∅]
theorem Py{hi:Option Int}{n:Nat}(h:∀i,hi=some i->0<=i):HT.jq n n hi=min (hi.getD n).toNat n:=by
 cases hi with
 |none=>simp[HT.jq]
 |some i=>have:=h i rfl;dsimp[HT.jq,d7];rw[if_neg ∅]
theorem DM{ρ:List Addr}{H:Hp}{us:List U}{vs:List V}{lo hi:Option Int}(h1:∀i,lo=some i->0<=i)(h2:∀i,hi=some i->0<=i)(r:aV c ρ H us vs):aV c ρ H (PL.qh us lo hi) (Ad vs lo hi):=by
 unfold PL.qh Ad;rw[Ig h1,Py h2,<-r.len]
 exact(r.drop _).take _
theorem Pz(hK:X.K=c.K):SE X (Yg c):=by
 intro pZ s σ H x v vl vu lo hi sl Q I rx hs pl pu h;let#[ux,ρ,S,QU,hx,R,#[#[b1,b2],w],q]:=h;cases ux<;>try exact aL w
 .rename_i l
  let#[w1,w2]:=w;rwa[Tf pZ s σ H x v vl vu lo hi sl Q I rx hs pl pu #[l,min (lo.getD 0).toNat l.length,min (hi.getD l.length).toNat l.length,bx.mp hx,pU w1,?_,?_,q.now R w2 (bx.mpr rfl)]]
  .cases lo with
   |none=>erw[.inl #[rfl,by simp]]
   |some a=>erw[.inr #[a,rfl,b1 a rfl,rfl]]
  .cases hi with
   |none=>erw[.inl #[rfl,by simp]]
   |some a=>erw[.inr #[a,rfl,b2 a rfl,rfl]]
 .rename_i us
  let#[#[w1,w0,w3],w2]:=w;let#[a,vs,e,g1,g2]:=dI.mp hx;rwa[OE pZ s σ H x v vl vu lo hi sl Q I rx hs pl pu #[a,vs,e,lY.of g1,λz=>?_,λp hp=>q.LL R (DM b1 b2 g2) w2 hp]];have z1:=z.1;rw[Ig b1,<-g2.len] at z1;have:0<us.length:=EG.mpr w0;omega
 .rename_i n
  let#[us,g0,w1]:=PL.df.mp w;let#[a,vs,e,_,g1,g2]:=R.lst g0 hx;erw[K3 pZ s σ H x v vl vu lo hi sl Q I rx hs pl pu #[a,vs,e,iT.of g1,λp hp=>q.Fp R (DM b1 b2 g2) w1 hp]]
end
end L2
end
section
set_option autoImplicit false
namespace L2
open PySem PySem.Spec PyProof.Rows PySem.W
open PL (U SO bj Xn KU KX Spec bT)
def rq(c:Ctx)(b:PL.RA):List V->Hp->VK->Prop:=λxs H Q=>∃us ρ S QU,aV c ρ H us xs/\cv c ρ H S/\PL.so b us S QU/\QV c ρ H QU Q
def tF(c:Ctx)(m:PL.Lp):V->List V->Hp->VK->Prop:=λx xs H Q=>∃u us ρ S QU,Rep c ρ H u x/\aV c ρ H us xs/\cv c ρ H S/\PL.qU m u us S QU/\QV c ρ H QU Q
section
variable{X:Cx}{c:Ctx}{ρ:List Addr}{H:Hp}{S:bj}
theorem kO{u:U}{vs:List V}(h:aV c ρ H [u] vs):∃v,vs=[v]/\Rep c ρ H u v:=by
 unfold aV at h;let#[v,r,e,h1,h2]:=h;unfold aV at h2;subst h2;exact#[v,e,h1]
theorem DN{u w:U}{vs:List V}(h:aV c ρ H [u,w] vs):∃v z,vs=[v,z]/\Rep c ρ H u v/\Rep c ρ H w z:=by
 unfold aV at h;let#[v,r,e,h1,h2]:=h;let#[z,e2,h3]:=kO h2;subst e2;exact#[v,z,e,h1,h3]
theorem Ih{u:U}{v:V}{n:Nat}(hK:X.K=c.K)(R:cv c ρ H S)(r:Rep c ρ H u v)(h:PL.mh S u=some n)(hn:n<=1000000):Sw X.K v H n\/(∃a kvs,v=.ref a/\H a=some (.dK kvs)/\n=kvs.length)\/∃a kvs,v=.ref a/\H a=some (.dP kvs)/\n=kvs.length:=by
 cases u with
 |str l=>rw[bx.mp r];obtain rfl:=aH h;erw[.inl #[pU (by rw[dv];exact hn),(dv l).symm]]
 |tup us=>
  let#[a,vs,e,h1,h2]:=dI.mp r;obtain rfl:=aH h;rw[e]
  erw[.inl (.inr #[vs,lY.of h1,h2.len])]
 |sj ns=>
  let#[a,e,h1]:=rh.mp r;obtain rfl:=aH h;rw[e]
  erw[.inl (.inl #[_,hK▸h1.sq,by simp])]
 |loc m=>
  unfold PL.mh at h;cases q:S[m]? with
  |none=>dsimp[q] at h;erw[nn h]
  |some o=>
   dsimp[q] at h;cases o with
   |lst us=>
    let#[a,vs,e,_,h1,h2]:=R.lst q r;simp at h;subst h;rw[e]
    erw[.inl (.inl #[vs,iT.of h1,h2.len])]
   |eL kvs=>
    let#[a,e,ha]:=eG.mp r;let#[vs,h1,h2,_]:=R.at_ m a _ ha q;simp at h;subst h;erw[.inr (.inl #[a,vs,e,h1,h2.symm])]
   |wX kvs=>
    let#[a,e,ha]:=eG.mp r;let#[vs,h1,h2,_]:=R.at_ m a _ ha q;simp at h;subst h;exact .inr (.inr #[a,vs,e,h1,by have:=congrArg cD h2;simpa using this.symm])
   |ins x fs=>erw[nn h]
   |uY x=>erw[nn h]
   |t8 x=>erw[nn h]
 |_=>erw[nn h]
theorem LY(hK:X.K=c.K):iA X (.builtin "len") (rq c .len):=by
 k_ne;let#[ux,ρ,S,QU,hx,R,w,q]:=h
 match ux,w with
 |[u],w=>
  let#[n,e,w1,w2]:=PL.i9.mp (show PL.opt _ _ from w);let#[v,e1,r1]:=kO hx;rcases Ih hK R r1 e w1 with l|⟨a,kvs,e2,g,e3⟩|⟨a,kvs,e2,g,e3⟩
  .erw[G8 pZ s σ H xs us Q I r #[v,n,e1,l,q.now R w2 (aQ.mpr rfl)]]
  .erw[E5 pZ s σ H xs us Q I r #[a,kvs,by rw[e1,e2],g,by rw[<-e3];exact q.now R w2 (aQ.mpr rfl)]]
  .erw[Fj pZ s σ H xs us Q I r #[a,kvs,by rw[e1,e2],g,by rw[<-e3];exact q.now R w2 (aQ.mpr rfl)]]
theorem Ft(hK:X.K=c.K):iA X (.type "tuple") (rq c .tuple):=by
 k_ne;let#[ux,ρ,S,QU,hx,R,w,q]:=h
 match ux,w with
 |[.loc n],w=>
  let#[us',e,w1]:=PL.df.mp (show PL.getL _ _ from w);let#[v,e1,r1]:=kO hx;let#[a,vs,e2,_,g1,g2]:=R.lst e r1;erw[v7 pZ s σ H xs us Q I r #[a,vs,by rw[e1,e2],.inl #[iT.of g1,λl hl=>q.LL R g2 w1 hl]]]
theorem Ii(hK:X.K=c.K):iA X (.type "list") (rq c .list):=by
 k_ne;let#[ux,ρ,S,QU,hx,R,w,q]:=h
 match ux,w with
 |[.loc n],w=>
  let#[us',e,w1]:=PL.df.mp (show PL.getL _ _ from w);let#[v,e1,r1]:=kO hx;let#[a,vs,e2,_,g1,g2]:=R.lst e r1;erw[qR pZ s σ H xs us Q I r #[a,vs,by rw[e1,e2],.inl (iT.of g1),λl hl=>q.Fp R g2 w1 hl]]
 |[.tup us'],w=>
  let#[v,e1,r1]:=kO hx;let#[a,vs,e2,g1,g2]:=dI.mp r1;erw[qR pZ s σ H xs us Q I r #[a,vs,by rw[e1,e2],.inr (lY.of g1),λl hl=>q.Fp R g2 w.2 hl]]
theorem qm:∀{bs:List Bool}{vs:List V},aV c ρ H (bs.map .bl) vs->vs=bs.map V.bl
 |[],_,h=>by unfold aV at h;erw[h]
 |t::ts,_,h=>by
  rw[ay] at h;unfold aV at h;let#[v,r,e,h1,h2]:=h;rw[e,fc.mp h1,qm h2];rfl
theorem kP:∀{bs:List Int}{vs:List V},aV c ρ H (bs.map .int) vs->vs=bs.map V.int
 |[],_,h=>by unfold aV at h;erw[h]
 |t::ts,_,h=>by
  rw[ay] at h;unfold aV at h;let#[v,r,e,h1,h2]:=h;rw[e,aQ.mp h1,kP h2];rfl
theorem Ij(hc:X.calm=true):iA X (.builtin "all") (rq c .all):=by
 k_ne;let#[ux,ρ,S,QU,hx,R,w,q]:=h
 match ux,w with
 |[.loc n],w=>
  let#[bs,e,w1]:=w;let#[v,e1,r1]:=kO hx;let#[a,vs,e2,_,g1,g2]:=R.lst e r1;rw[qm g2] at g1;erw[Cf hc pZ s σ H xs us Q I r #[a,bs,by rw[e1,e2],iT.of g1,q.now R w1 (fc.mpr rfl)]]
theorem LZ(hc:X.calm=true):iA X (.builtin "sum") (rq c .sum):=by
 k_ne;let#[ux,ρ,S,QU,hx,R,w,q]:=h
 match ux,w with
 |[.loc n],w=>
  let#[bs,e,w1]:=w;let#[v,e1,r1]:=kO hx;let#[a,vs,e2,_,g1,g2]:=R.lst e r1;rw[kP g2] at g1;erw[Cg hc pZ s σ H xs us Q I r #[a,bs,by rw[e1,e2],iT.of g1,q.now R w1 (aQ.mpr rfl)]]
theorem L0(hc:X.calm=true):iA X (.builtin "max") (rq c .max):=by
 k_ne;let#[ux,ρ,S,QU,hx,R,w,q]:=h
 match ux,w with
 |[.loc n],w=>
  let#[i,is,e,w1]:=w;let#[v,e1,r1]:=kO hx;let#[a,vs,e2,_,g1,g2]:=R.lst e r1;rw[kP g2] at g1;erw[Cn hc pZ s σ H xs us Q I r #[a,i,is,by rw[e1,e2],iT.of g1,λm h1 h2=>q.now R (w1 m h1 h2) (aQ.mpr rfl)]]
theorem Ik(hc:X.calm=true):iA X (.builtin "any") (rq c .any):=by
 k_ne;let#[ux,ρ,S,QU,hx,R,w,q]:=h
 match ux,w with
 |[.loc n],w=>
  let#[bs,e,w1]:=w;let#[v,e1,r1]:=kO hx;let#[a,vs,e2,_,g1,g2]:=R.lst e r1;rw[qm g2] at g1;erw[Cm hc pZ s σ H xs us Q I r #[a,bs,by rw[e1,e2],iT.of g1,q.now R w1 (fc.mpr rfl)]]
theorem vj:∀{ps:List (List Nat×U)}{vs:List V},aV c ρ H (ps.map λp=>.tup [.str p.1,p.2]) vs->∃kvs:List (Key×V),Paired (O3 H) vs kvs/\kvs.map (·.1)=ps.map (λp=>i3 (some (tx p.1)))/\aV c ρ H (ps.map (·.2)) (kvs.map (·.2))
 |[],_,h=>by
  unfold aV at h;subst h;exact#[[],.nil,rfl,aV.nil]
 | (k,u)::ps,_,h=>by
  rw[ay] at h;unfold aV at h;let#[v,r,e,h1,h2]:=h;subst e;let#[kvs,g1,g2,g3]:=vj h2;let#[a,vs,e1,ha,hr]:=dI.mp h1;let#[x,y,e2,r1,r2]:=DN hr;subst e2;rw[bx.mp r1] at ha;exact#[(i3 (some (tx k)),y)::kvs,.cons #[a,e1,ha] g1,by rw[ay,ay,g2],aV.cons r2 g3]
theorem xk:∀{ks:List (List Nat)},aV c ρ H (ks.map .str) (ks.map λk=>kV (i3 (some (tx k))))
 |[]=>aV.nil
 |_::_=>aV.cons (bx.mpr rfl) xk
theorem Il(hA:X.A.handled=none):iA X (.type "dict") (rq c .dict):=by
 k_ne;let#[ux,ρ,S,QU,hx,R,w,q]:=h
 match ux,w with
 |[.loc n],w=>
  let#[ps,e,nd,w1]:=w;let#[v,e1,r1]:=kO hx;let#[a,vs,e2,_,g1,g2]:=R.lst e r1;let#[kvs,k1,k2,k3]:=vj g2;rwa[Cj hA pZ s σ H xs us Q I r #[a,vs,kvs,by rw[e1,e2],g1,k1,?_,λp hp=>?_]]
  .rw[k2,show ps.map (λp=>(i3 (some (tx p.1)):Key))=(ps.map (·.1)).map (λk=>i3 (some (tx k))) by rw[bq];rfl]
   erw[wC _ (λa b h e=>h (qe (aH (sR e)))) nd]
  .have st:=gY.alloc R hp (.dK kvs)
   have e5:kvs.map (λp=>kV p.1)=(ps.map (·.1)).map λk=>kV (i3 (some (tx k))):=by
    rw[show kvs.map (λp=>kV p.1)=(kvs.map (·.1)).map kV by rw[bq];rfl,k2,bq,bq];rfl
   have R':cv c (ρ++[p]) (upd H p (.dK kvs)) (S++[.eL (ps.map λp=>(.str p.1,p.2))]):=R.alloc hp #[kvs,cb,by have:=congrArg cD k2;simpa using this,by
     rw[e5,bq,show(De∘λp:List Nat×U=>(U.str p.1,p.2))=U.str∘De from rfl,<-bq];erw[xk],by
     rw[bq];erw[k3.mono R st]]
   rwa[q _ _ _ _ _ w1 st R' (eG.mpr #[p,rfl,?_])];rw[<-R.len,aw (ar _),bH];rfl
theorem Cv:BX X "int.bit_length" (tF c .mN):=by
 intro pZ s σ H x xs v us Q I rx r h;let#[u,ux,ρ,S,QU,hu,hx,R,w,q]:=h
 match u,ux,w with
 |.int i,[],w=>
  let#[w0,w1]:=w;unfold aV at hx;rwa[Fh pZ s σ H x xs v us Q I rx r #[i.toNat,by rw[aQ.mp hu];congr 1;omega,hx,q.now R w1 (aQ.mpr rfl)]]
theorem L1:∀{ps:List (List Nat×U)}{vs:List (Key×V)}{k:List Nat},vs.length=(ps.map λp=>(U.str p.1,p.2)).length->aV c ρ H ((ps.map λp=>(U.str p.1,p.2)).map (·.1)) (vs.map λp=>kV p.1)->aV c ρ H ((ps.map λp=>(U.str p.1,p.2)).map (·.2)) (vs.map (·.2)) ->
  (ps.lookup k=none/\jr vs (i3 (some (tx k)))=none)\/∃u v,ps.lookup k=some u/\jr vs (i3 (some (tx k)))=some v/\Rep c ρ H u v
 := by
 intro ps;induction ps with
 |nil=>intro vs k hl _ _;cases vs with|nil=>erw[.inl #[rfl,rfl]]|cons _ _=>cases hl
 |cons p ps ih=>
  intro vs k hl h1 h2;let#[a,u]:=p;cases vs with|nil=>cases hl|cons p vs=>?_
  let#[b,y]:=p;dsimp[ay] at h1 h2;unfold aV at h1 h2;let#[v1,r1,e1,p1,q1]:=h1;let#[v2,r2,e2,p2,q2]:=h2;cases e1;cases e2;have eb:b=i3 (some (tx a)):=by
   have:=bx.mp p1;erw[ON (b:=i3 (some (tx a))) this]
  subst eb;by_cases ek:k=a
  .subst ek
   erw[.inr #[u,y,by simp,kL rfl,p2]]
  .have e3:(k==a)=false:=by simp[ek]
   rw[aN,e3,kM (λz=>ek (qe (aH (sR z))).symm)]
   erw[ih (mw hl) q1 q2]
theorem join_eq(sep:List Nat):∀ts:List (List Nat),uU sep ts=PL.lz sep ts
 |[]=>rfl
 |[x]=>rfl
 |x::y::r=>by
  unfold uU PL.lz;rw[join_eq sep (y::r)]
theorem sA:∀{ts:List (List Nat)}{vs:List V},aV c ρ H (ts.map .str) vs->vs=ts.map λt=>V.str (tx t)
 |[],_,h=>by unfold aV at h;erw[h]
 |t::ts,_,h=>by
  rw[ay] at h;unfold aV at h;let#[v,r,e,h1,h2]:=h;rw[e,bx.mp h1,sA h2];rfl
theorem Im(hK:X.K=c.K):BX X "str.join" (tF c .join):=by
 intro pZ s σ H x xs v us Q I rx r h;let#[u,ux,ρ,S,QU,hu,hx,R,w,q]:=h
 match u,ux,w with
 |.str sep,[.loc n],w=>
  let#[ts,e,w1,w2]:=w;let#[z,e1,r1]:=kO hx;let#[a,vs,e2,_,g1,g2]:=R.lst e r1;rw[sA g2] at g1;erw[Dx pZ s σ H x xs v us Q I rx r #[sep,ts,a,bx.mp hu,by rw[e1,e2],iT.of g1,w1,by rw[join_eq];exact q.now R w2 (bx.mpr rfl)]]
theorem Cw:BX X "str.startswith" (tF c .startswith):=by
 intro pZ s σ H x xs v us Q I rx r h;let#[u,ux,ρ,S,QU,hu,hx,R,w,q]:=h
 match u,ux,w with
 |.str l,[.str k],w=>
  let#[z,e1,r1]:=kO hx;erw[xc pZ s σ H x xs v us Q I rx r #[l,k,bx.mp hu,by rw[e1,bx.mp r1],q.now R w (fc.mpr rfl)]]
theorem Fu(hA:X.A.handled=none):BX X "str.index" (tF c .index):=by
 intro pZ s σ H x xs v us Q I rx r h;let#[u,ux,ρ,S,QU,hu,hx,R,w,q]:=h
 match u,ux,w with
 |.str l,[.str k],w=>
  let#[d,e,w1,w2]:=w;subst e;let#[z,e1,r1]:=kO hx;erw[Ao hA pZ s σ H x xs v us Q I rx r #[l,d,bx.mp hu,by rw[e1,bx.mp r1],w1,q.now R w2 (aQ.mpr rfl)]]
theorem QV.putL{QU:KU}{Q:VK}(q:QV c ρ H QU Q)(R:cv c ρ H S){n:Nat}{a:Addr}{us:List U}{vs ws:List V}(ha:ρ[n]?=some a)(hw:H a=some (.lst ws))(r:aV c ρ H us vs)(h:QU .bV (S.set n (.lst us))):Q .bV (upd H a (.lst vs)):=by
 have st:=gY.put (H:=H) (ao ha) hw rfl (.lst vs);erw[q _ _ _ _ _ h st (R.put ha hw rfl #[vs,cb,r.mono R st]) (eR.mpr rfl)]
theorem Cy:BX X "list.append" (tF c .append):=by
 intro pZ s σ H x xs v us Q I rx r h;let#[u,ux,ρ,S,QU,hu,hx,R,w,q]:=h
 match u,ux,w with
 |.loc n,[k],w=>
  let#[us',e,w1,w2]:=PL.df.mp (show PL.getL _ _ from w);let#[z,e1,r1]:=kO hx;let#[a,vs,e2,ha,g1,g2]:=R.lst e hu;rwa[r8 pZ s σ H x xs v us Q I rx r #[a,vs,z,e2,e1,g1,?_,q.putL R ha g1 (g2.app (aV.cons r1 aV.nil)) w2]];rw[<-g2.len];erw[az w1 ⋯]
theorem Cz:BX X "list.extend" (tF c .extend):=by
 intro pZ s σ H x xs v us Q I rx r h;let#[u,ux,ρ,S,QU,hu,hx,R,w,q]:=h
 match u,ux,w with
 |.loc n,[.loc m],w=>
  let#[us',e,w1]:=PL.df.mp (show PL.getL _ _ from w);let#[ws,e',w2,w3]:=PL.df.mp w1;let#[z,e1,r1]:=kO hx;let#[a,vs,e2,ha,g1,g2]:=R.lst e hu;let#[b,zs,e3,hb,g3,g4]:=R.lst e' r1;erw[wR pZ s σ H x xs v us Q I rx r #[a,b,vs,zs,e2,by rw[e1,e3],g1,g3,pU (by rw[<-g2.len,<-g4.len];exact w2),q.putL R ha g1 (g2.app g4) w3]]
theorem DO{κ κ':Type}[BEq κ][LawfulBEq κ][DecidableEq κ'](f:κ->κ')(hf:∀a b,f a=f b->a=b)(k:κ):∀{kvs:List (κ×U)}{vs:List (κ'×V)},vs.map (·.1)=kvs.map (λp=>f p.1)->aV c ρ H (kvs.map (·.2)) (vs.map (·.2)) ->
  (kvs.lookup k=none/\jr vs (f k)=none)\/∃u v,kvs.lookup k=some u/\jr vs (f k)=some v/\Rep c ρ H u v:=by
 intro kvs;induction kvs with
 |nil=>intro vs hk _;cases vs with|nil=>erw[.inl #[rfl,rfl]]|cons _ _=>cases hk
 |cons p ps ih=>
  intro vs hk h2;let#[a,w]:=p;cases vs with|nil=>cases hk|cons p vs=>?_
  let#[b,y]:=p;dsimp[ay,dG] at h2 hk;unfold aV at h2;let#[v2,r2,e2,p2,q2]:=h2;cases e2;let#[rfl,hk]:=hk;by_cases e:k=a
  .subst e
   erw[.inr #[w,y,by simp,kL rfl,p2]]
  .have e3:(k==a)=false:=by simp[e]
   rw[aN,e3,kM λz=>e (hf _ _ z).symm]
   erw[ih hk q2]
theorem QV.PB{QU:KU}{Q:VK}(q:QV c ρ H QU Q)(R:cv c ρ H S){n:Nat}{a:Addr}{u:U}{v:V}{o:SO}{ho hw:HO}(ha:ρ[n]?=some a)(e:H a=some hw)(nf:Pk hw=false)(r:Rep c ρ H u v)(w:QU u (S.set n o))
  (hr:gY ρ H ρ (upd H a ho)->tW c ρ (upd H a ho) a o):Q v (upd H a ho):=by
 have st:=gY.put (H:=H) (ao ha) e nf ho;erw[q _ _ _ _ _ w st (R.put ha e nf (hr st)) (r.mono R st)]
theorem Io(hu:X.A.units+200<eP):BX X "dict.setdefault" (tF c .nK):=by
 intro pZ s σ H x xs v us Q I rx r h;let#[u,ux,ρ,S,QU,hu',hx,R,w,q]:=h
 match u,ux,w with
 |.loc n,[k,d],w=>
  have w:PL.pR S n k d QU:=w;let#[a,e0,ha]:=eG.mp hu';let#[y,z,e1,r1,r2]:=DN hx;rwa[Lf ∅ pZ s σ H x xs v us Q I rx r ?_];unfold PL.pR at w;cases hs:S[n]? with
  |none=>rw[hs] at w;erw[w.elim]
  |some o=>
   rw[hs] at w;cases o with
   |eL kvs=>
    let#[#[hk,hl],w]:=w;let#[vs,g1,g2,g3,g4]:=R.at_ n a _ ha hs;have hl':vs.length<sizeLine:=by rw[g2];erw[az hl ⋯]
    rcases rn hk g2 g3 g4 with⟨l1,l2⟩|⟨u',v',l1,l2,l3⟩
    .rw[l1] at w
     refine#[a,y,z,z,_,e0,e1,.inl #[vs,vi k,g1,j6 hk r1,hl',.inr #[l2,rfl,rfl]],q.PB R ha g1 rfl r2 w λst=>#[_,cb,by simp[g2],?_,?_]]
     .rw[aJ,aJ]
      exact(g3.mono R st).app (aV.cons (show Rep c ρ _ k (kV (vi k)) by rw[<-j6 hk r1];erw[r1.mono R st]) aV.nil)
     .rw[aJ,aJ]
      exact(g4.mono R st).app (aV.cons (r2.mono R st) aV.nil)
    .rw[l1] at w
     exact#[a,y,z,v',H,e0,e1,.inl #[vs,vi k,g1,j6 hk r1,hl',.inl #[l2,rfl]],q.now R w l3]
   |t8 kvs=>
    let#[ks,rfl,hl,w]:=w;let#[vs,g1,g2,g4]:=R.at_ n a _ ha hs;have hl':vs.length<sizeLine:=by
     have:=congrArg cD g2;simp at this;rw[this];erw[az hl ⋯]
    let#[b,ws,e2,hb,hw]:=dI.mp r1;rw[kP hw,show ks.map V.int=(ks.map wk).map kV by rw[bq];rfl] at hb;rcases DO (λl:List Int=>l.map (wk:Int->Key)) (λa b e=>(rR (λ_ _ e=>zK e)).mp e) ks g2 g4 with⟨l1,l2⟩|⟨u',v',l1,l2,l3⟩
    .rw[l1] at w
     refine#[a,y,z,z,_,e0,e1,.inr (.inl #[vs,_,b,g1,e2,hb,hl',.inr #[l2,rfl,rfl]]),q.PB R ha g1 rfl r2 w λst=>#[_,cb,by simp[g2],?_]];rw[aJ,aJ]
     exact(g4.mono R st).app (aV.cons (r2.mono R st) aV.nil)
    .rw[l1] at w
     exact#[a,y,z,v',H,e0,e1,.inr (.inl #[vs,_,b,g1,e2,hb,hl',.inl #[l2,rfl]]),q.now R w l3]
   |wX kvs=>
    let#[i,ks,rfl,hl,w]:=w;let#[vs,g1,g2,g4]:=R.at_ n a _ ha hs;have hl':vs.length<sizeLine:=by
     have:=congrArg cD g2;simp at this;rw[this];erw[az hl ⋯]
    let#[b,ws,e2,hb,hw]:=dI.mp r1;let#[x1,x2,e3,hi,ht]:=DN hw;let#[b2,ws2,e4,hb2,hw2]:=dI.mp ht;rw[kP hw2] at hb2;rw[e3,aQ.mp hi,e4] at hb;rcases DO (λp:Int×List Int=>p) (λa b e=>e) (i,ks) g2 g4 with⟨l1,l2⟩|⟨u',v',l1,l2,l3⟩
    .rw[l1] at w
     refine#[a,y,z,z,_,e0,e1,.inr (.inr #[vs,(i,ks),b,b2,g1,e2,hb,hb2,hl',.inr #[l2,rfl,rfl]]),q.PB R ha g1 rfl r2 w λst=>#[_,cb,by simp[g2],?_]];rw[aJ,aJ]
     exact(g4.mono R st).app (aV.cons (r2.mono R st) aV.nil)
    .rw[l1] at w
     exact#[a,y,z,v',H,e0,e1,.inr (.inr #[vs,(i,ks),b,b2,g1,e2,hb,hb2,hl',.inl #[l2,rfl]]),q.now R w l3]
   |_=>erw[w.elim]
theorem L3{u:U}{v:V}{b:Bool}(hK:X.K=c.K)(R:cv c ρ H S)(r:Rep c ρ H u v)(h:PL.u7 S u=some b):Ou X.K v H b:=by
 cases u with
 |bV=>rw[eR.mp r];exact(aH h).symm
 |bl k=>rw[fc.mp r];exact(aH h).symm
 |int i=>rw[aQ.mp r];exact(aH h).symm
 |str l=>erw[nn h]
 |tup us=>
  let#[a,vs,e,h1,h2]:=dI.mp r;simp[PL.u7,PL.mh] at h;rw[e]
  rwa[.inr (.inl #[vs,lY.of h1,?_])];have:=h2.len;rw[<-h]
  cases us<;>cases vs<;>simp at this ⊢
 |sj ns=>
  let#[a,e,h1]:=rh.mp r;simp[PL.u7,PL.mh] at h;rw[e]
  rwa[.inl #[_,hK▸h1.sq,?_]];rw[<-h]
  cases ns<;>simp
 |loc m=>
  unfold PL.u7 PL.mh at h;cases q:S[m]? with
  |none=>dsimp[q] at h;erw[nn h]
  |some o=>
   dsimp[q] at h;cases o with
   |lst us=>
    let#[a,vs,e,_,h1,h2]:=R.lst q r;simp at h;rw[e]
    rwa[.inl #[vs,iT.of h1,?_]];have:=h2.len;rw[<-h]
    cases us<;>cases vs<;>simp at this ⊢
   |eL kvs=>
    let#[a,e,ha]:=eG.mp r;let#[vs,h1,h2,_]:=R.at_ m a _ ha q;simp at h;rw[e]
    rwa[.inr (.inr #[vs,h1,?_])];rw[<-h]
    cases kvs<;>cases vs<;>simp at h2 ⊢
   |ins x fs=>erw[nn h]
   |uY x=>erw[nn h]
   |t8 x=>erw[nn h]
   |wX x=>erw[nn h]
 |_=>erw[nn h]
end
end L2
end
section
set_option autoImplicit false
namespace L2
open PySem PySem.Spec PyProof.Rows PySem.W
open PL (U SO bj Xn KU KX bT)
structure wb where
 cls:String->Option Addr
noncomputable abbrev Cx.cc(X:Cx)(t:wb):Ctx:=#[X.prog,X.w,X.K,X.mg,X.base,t.cls]
def lift(c:Ctx)(sp:PL.Spec):Sp:=λvs H Q E=>∃us ρ S QU EU,aV c ρ H us vs/\cv c ρ H S/\sp us S QU EU/\QV c ρ H QU Q/\QX c ρ H EU E
def FnAt(c:Ctx)(k:Nat)(f:Addr)(sp:PL.Spec):Prop:=∃fd ps,kg c.P c.w c.K c.mg c.base (tQ c.P c.w) k f fd ps (lift c sp)/\Binds c.K fd ps []
structure Ip(c:Ctx)(T:Tab):Prop where
 const:∀p∈T.const,∃v u,c.mg (nm p.1)=some u/\RelV v u/\∀ρ H,Rep c ρ H p.2 v
 lT:∀x∈T.lT,c.mg (nm x)=none
 cls:∀x C,c.cls x=some C->EX c.K C/\∀f∈T.yD,lQ c.K C (nm f)
structure gc(c:Ctx)(T:Tab)(Γ:bT)(k:Nat):Prop where
 fns:∀x∈T.fns,∃f,c.mg (nm x)=some (.ref f)/\Bz c.K (.ref f)=true/\FnAt c k f (Γ x)
 RH:∀p∈T.qk,∃C f,c.cls p.2=some C/\Meth c.K C (nm p.1) f/\FnAt c k f (Γ (p.2++"."++p.1))
 cls:∀x∈T.qj,∃C f,c.cls x=some C/\c.mg (nm x)=some (.ref C)/\Mk c.K C f/\FnAt c k f (Γ (x++".__init__"))
structure Good(t:wb)(T:Tab)(Γ:bT)(k:Nat)(I:Inf)(X:Cx):Prop where
 tab:Ip (X.cc t) T
 L4:gc (X.cc t) T Γ k
 kind:X.env.scope.kind=.function
 names:X.env.scope.names=I.names
 slots:X.N=I.N
 nd:X.N.Nodup
 calm:I.calm=true->X.calm=true/\kf (k+1) X.A
 units:X.A.units+200<eP
theorem Good.at_{t:wb}{T:Tab}{Γ:bT}{k:Nat}{I:Inf}{X:Cx}{pZ:List (Addr×Obj)}{E:St->XK}(G:Good t T Γ k I X):Good t T Γ k I (X.at_ pZ E):=
 #[G.tab,G.L4,G.kind,G.names,G.slots,G.nd,G.calm,G.units]
def CB(c:Ctx)(ρ:List Addr)(H:Hp)(J:It)(us:List U)(g:bj->Prop):Prop:=
 ∀(i:Nat)(ρ2:List Addr)(H2:Hp)(S2:bj),gY ρ H ρ2 H2->cv c ρ2 H2 S2->g S2 ->
  (∀u,us[i]?=some u->J.go i H2/\∀y H3,J.Sg i H2 y H3->gY ρ2 H2 ρ2 H3/\cv c ρ2 H3 S2/\Rep c ρ2 H3 u y)/\(us.length<=i->J.stop i H2)
def QI(c:Ctx)(ρ:List Addr)(H:Hp)(RU:List U->(bj->Prop)->bj->Prop)(R:It->Hp->Prop):Prop:=
 ∀us g S' H' ρ' J,RU us g S'->gY ρ H ρ' H'->cv c ρ' H' S'->CB c ρ' H' J us g->R J H'
noncomputable def yI(c:Ctx)(Γ:bT)(x:PL.It):XK->TI:=λE σ H R=>∃env ρ S RU EU,jF c ρ H env σ/\cv c ρ H S/\PL.WI Γ x env S RU EU/\QI c ρ H RU R/\QX c ρ H EU E
def QO(c:Ctx)(ρ:List Addr)(H:Hp)(QU:Option Int->bj->Prop)(Q:Option Int->Hp->Prop):Prop:=∀o S' H' ρ',QU o S'->gY ρ H ρ' H'->cv c ρ' H' S'->Q o H'
noncomputable def Wc(c:Ctx)(Γ:bT)(x:PL.Ox):XK->TO:=λE σ H Q=>∃env ρ S QU EU,jF c ρ H env σ/\cv c ρ H S/\PL.WO Γ x env S QU EU/\QO c ρ H QU Q/\QX c ρ H EU E
structure Fv(t:wb)(T:Tab)(Γ:bT)(k n:Nat):Prop where
 fe:∀{I X e x},Good t T Γ k I X->cE T n I e=some x->dU X e (tE (X.cc t) Γ x)
 TX:∀{I X es xs},Good t T Γ k I X->RF T n I es=some xs->Ct X es (Gi (X.cc t) Γ xs)
 Yh:∀{I X op vs x pos},Good t T Γ k I X->V9 T n I op vs=some x->dU X (.BoolOp op vs pos) (tE (X.cc t) Γ x)
 fo:∀{I X oe x},Good t T Γ k I X->cO T n I oe=some x->∀pZ E,PO (X.at_ pZ E) oe (λσ H Q=>Wc (X.cc t) Γ x (E σ) σ H Q)
 fi:∀{I X e x tg},Good t T Γ k I X->cI T n I e=some x->∀pZ E,PI (X.at_ pZ E) tg e (λσ H R=>yI (X.cc t) Γ x (E σ) σ H R)
 fn:∀{I X e x es ek tp},Good t T Γ k I X->cN T n I e=some x->∀pZ E,PI (X.at_ pZ E) (.Tuple es ek tp) e (λσ H R=>yI (X.cc t) Γ x (E σ) σ H R)
 ft:∀{I X e x},Good t T Γ k I X->cT T n I e=some x->Cs X e (tT (X.cc t) Γ x)
 Yi:∀{I X op vs x pos},Good t T Γ k I X->Wa T n I op vs=some x->∀pZ E,PW (X.at_ pZ E) (.BoolOp op vs pos) (λσ H Q=>tT (X.cc t) Γ x (E σ) σ H Q)
section
variable{t:wb}{T:Tab}{Γ:bT}{k n:Nat}{I:Inf}{X:Cx}
theorem fg{x:Str}:∀{l:List Str}{i:Nat},d9 x l=some i->l[i]?=some x
 |[],_,h=>nn h
 |y::ys,i,h=>by
  unfold d9 at h;by_cases e:y=x
  .rw[if_pos e] at h;injection h with h;subst h;subst e;rfl
  .rw[if_neg e] at h
   cases q:d9 x ys with
   |none=>rw[q] at h;cases h
   |some j=>rw[q] at h;simp at h;subst h;simpa using fg q
theorem PC{names:List (Str×NameKind)}{x:Str}{sc:fQ}(h:LG (names.lookup x)=true)(e:sc.names=names):RT sc x:=by
 rw[<-e] at h;unfold RT;cases q:sc.names.lookup x with
 |none=>rw[q] at h;cases h
 |some kd=>rw[q] at h;cases kd<;>simp[LG] at h<;>simp
theorem L5{x:Str}{pos:Pos}{i:Nat}(G:Good t T Γ k I X)(h:d9 x I.N=some i)(hv:LG (I.names.lookup x)=true)(h1:(x==("__debug__":Str))=false)(h2:(x==("__classdict__":Str))=false):dU X (.Name x pos) (tE (X.cc t) Γ (.var i)):=by
 rwa[up λpZ E=>(NW (i:=i) (X:=X.at_ pZ E) (by show X.N[i]?=some x;rw[G.slots];erw[fg h]) (PC hv G.names) h1 h2).imp ?_]
 kd_p;let#[u,e,w]:=PL.Ap.mp (show PL.yu _ _ from w);let#[v,e1,r]:=he.at_ i u e;exact#[v,e1,q.now R w r]
theorem rA{e:Expr}{u:U}{v:V}(h:∀(pZ:List (Addr×Obj)) E,PE (X.at_ pZ E) e (tC v))(r:∀ρ H,Rep (X.cc t) ρ H u v):dU X e (tE (X.cc t) Γ (.lit u)):=by
 rwa[up λpZ E=>(h pZ E).imp ?_]
 kd_p;erw[q.now R w (r ρ H)]
theorem mm{l:List String}{x:Str}{s:String}(h:pick l x=some s):s∈l/\nm s=x:=by
 unfold pick at h;exact#[xZ h,by simpa using Kt h]
theorem xm{α:Type}{l:List (String×α)}{x:Str}{s:String×α}(h:AB l x=some s):s∈l/\nm s.1=x:=by
 unfold AB at h;exact#[xZ h,by simpa using Kt h]
theorem jC(G:Good t T Γ k I X){x:Str}(h:I.gl x=true):Gl X x:=by
 unfold Inf.gl at h;show X.env.scope.names.lookup x=_;rw[G.names]
 simpa using h
theorem Iq{x:Str}{pos:Pos}{p:String×U}(G:Good t T Γ k I X)(hg:I.gl x=true)(h:AB T.const x=some p)(h1:(x==("__debug__":Str))=false):dU X (.Name x pos) (tE (X.cc t) Γ (.lit p.2)):=by
 let#[hm,e]:=xm h;let#[v,u,e1,rv,r]:=G.tab.const p hm;subst e;erw[rA (λpZ E=>Kz (X:=X.at_ pZ E) (jC G hg) e1 rv h1) r]
theorem PD{a b:Expr}{op:gO}{o:PL.t9}{x y:PL.Ex}{pos:Pos}(G:Good t T Γ k I X)(ho:TJ op=some o)(ha:∀pZ E,dU (X.at_ pZ E) a (tE (X.cc t) Γ x))(hb:∀pZ E,dU (X.at_ pZ E) b (tE (X.cc t) Γ y)):dU X (.BinOp a op b pos) (tE (X.cc t) Γ (.bin o x y)):=by
 have e:op=LM o:=by
  cases op<;>first|exact nn ho| (cases ho;rfl)
 rw[e]
 rwa[up λpZ E=>(Si (X:=X.at_ pZ E) (LV (X:=X.at_ pZ E) (c:=X.cc t)) (dn (ha pZ E)) (dn (hb pZ E))).imp ?_]
 kd_p;z_go;refine#[env,ρ1,S1,_,EU,he.later R st1,R1,w1,λu2 S2 v2 H2 ρ2 w2 st2 R2 r2=>?_,qx.later st1];exact#[u,u2,ρ2,S2,QU,r1.mono R1 st2,r2,R2,w2,q.later (st1.trans st2)]
theorem Ir{op:zt}{b:Expr}{o:PL.Gh}(ho:RD op b=some o):op=DK o:=by
 unfold RD at ho;split at ho
 .rename_i hc
  cases op<;>first|exact ff hc| (cases ho;rfl)
 .cases op<;>first|exact nn ho| (cases ho;rfl)
theorem PF{a b:Expr}{op:zt}{o:PL.Gh}{x y:PL.Ex}{pos:Pos}(G:Good t T Γ k I X)(ho:RD op b=some o)(hm:behindInMarks op b=false)(ha:∀pZ E,dU (X.at_ pZ E) a (tE (X.cc t) Γ x))(hb:∀pZ E,dU (X.at_ pZ E) b (tE (X.cc t) Γ y)):dU X (.Compare a [op] [b] pos) (tE (X.cc t) Γ (.cmp o x y)):=by
 have e:op=DK o:=Ir ho;subst e;rwa[up λpZ E=>(KO (X:=X.at_ pZ E) (DL (X:=X.at_ pZ E) (c:=X.cc t) rfl rfl G.units o) (dn (ha pZ E)) (dn (hb pZ E)) hm).imp ?_]
 kd_p;z_go;refine#[env,ρ1,S1,_,EU,he.later R st1,R1,w1,λu2 S2 v2 H2 ρ2 w2 st2 R2 r2=>?_,qx.later st1];refine#[u,u2,ρ2,S2,r1.mono R1 st2,r2,R2,PL.xg (λr h=>?_) w2];exact(q.later (st1.trans st2)).now R2 h (fc.mpr rfl)
theorem L6{a b:Expr}{op:zt}{o:PL.Gh}{x y:PL.Ex}{pos:Pos}(G:Good t T Γ k I X)(ho:RD op b=some o)(hm:behindInMarks op b=false)(ha:∀pZ E,dU (X.at_ pZ E) a (tE (X.cc t) Γ x))(hb:∀pZ E,dU (X.at_ pZ E) b (tE (X.cc t) Γ y)):Cs X (.Compare a [op] [b] pos) (tT (X.cc t) Γ (.de (.cmp o x y))):=by
 have e:op=DK o:=Ir ho;subst e;rwa[Wb λpZ E=>(KQ (X:=X.at_ pZ E) (DL (X:=X.at_ pZ E) (c:=X.cc t) rfl rfl G.units o) (dn (ha pZ E)) (dn (hb pZ E)) hm).imp ?_]
 kd_p;z_go;refine#[env,ρ1,S1,_,EU,he.later R st1,R1,w1,λu2 S2 v2 H2 ρ2 w2 st2 R2 r2=>?_,qx.later st1];refine#[u,u2,ρ2,S2,r1.mono R1 st2,r2,R2,PL.xg (λr h=>#[r,rfl,?_]) w2];exact(q.later (st1.trans st2)) _ _ _ _ h .refl R2
end
end L2
end
section
set_option autoImplicit false
namespace L2
open PySem PySem.Spec PyProof.Rows PySem.W
open PL (U SO bj Xn KU KX bT)
theorem dw{e:Expr}{es:List Expr}{env:Env}(h:noStar e=true):bR (e::es) env=(false,eval e env)::bR es env:=by
 cases e<;>first|rfl|cases h
theorem vk{env:Env}:∀{es:List Expr},es.all noStar=true->bR es env=es.map λe=>(false,eval e env)
 |[],_=>rfl
 |e::es,h=>by
  rw[bK,aj] at h;rw[dw h.1,vk h.2];rfl
theorem fJ{o:Expr}{m:Str}{env:Env}(h:fO o=true):ig o m env (eval o env)=eval o env:=by
 cases o with
 |Call f args kws pos=>
  cases f with
  |Name id p=>
   cases args with
   |nil=>
    cases kws with
    |nil=>cases h
    |cons k ks=>rfl
   |cons a as=>rfl
  |_=>rfl
 |_=>rfl
theorem AG{e:Expr}{tg:Option Expr}{l:Nat}{env:Env}(h:yE e=true):hU e tg l env=pure false:=by
 cases e<;>first|rfl|cases h
theorem iE{pos:Pos}{env:Env}{es:List Expr}(h:es.all noStar=true):(iw pos (bR es env)).any (·.1)=false:=by
 rw[vk h]
 unfold iw;simp
theorem xn{pos:Pos}{env:Env}{es:List Expr}(h:es.all noStar=true)(hn:es.length<20):BA (es.length+([]:List oa).length) (iw pos (bR es env)) (backToKw pos (jP [] env))=true:=by
 rw[vk h]
 have e:jP [] env=[]:=rfl;rw[e]
 unfold BA iw;simp[backToKw]
 omega
theorem xo{o:Expr}{m:Str}{apos pos:Pos}{args:List Expr}{env:Env}(h0:fO o=true)(hst:args.all noStar=true)(hn:args.length<20)(hl:(apos.endLine==pos.line)=true):
  eval (.Call (.Attribute o m apos) args [] pos) env=(do
   let ov <-eval o env
   standAt apos.atName
   let (f,first) <-holding [ov] (getMethod ov m (do return (<-importBound o env).getD true))
   callWith pos f first (iw pos (bR args env)) (backToKw pos (jP [] env))):=by
 change (do
  let ov <-ig o m env (eval o env)
  standAt apos.atName
  methodCall o m apos pos env ov (args.length+[].length) (iw pos (bR args env)) (backToKw pos (jP [] env)))=_
 dsimp[fJ h0,methodCall,xn hst hn,calleeOf,methodCallPos,hl]
 rfl
end L2
end
section
set_option autoImplicit false
namespace L2
open PySem PySem.Spec PyProof.Rows PySem.W
open PL (U SO bj Xn KU KX bT)
section
variable{X:Cx}{k:Nat}{f C:Addr}{fd:dW}{ps:List Str}{sp:Sp}{x m:Str}{p pos apos:Pos}{e o:Expr}{es:List Expr}{ta:XK->TA}{to:XK->TE}
theorem Yj(F:kg X.prog X.w X.K X.mg X.base (tQ X.prog X.w) k f fd ps sp)(hr:kf k X.A)(hg:Gl X x)(hm:X.mg x=some (.ref f))(hk:Bz X.K (.ref f)=true)(hb:Binds X.K fd ps [])(ha:Ct X (e::es) ta)
  (hdb:(x==("__debug__":Str))=false) (he:noStar e=true) (hes:es.all noStar=true):dU X (.Call (.Name x p) (e::es) [] pos) (λE σ H Q=>ta E σ H λvs H1=>sp vs H1 Q E):=by
 intro pZ s σ H Q E I h;rwa[eY (qK I hg hm ?_ hdb)];rwa[callWith_K (h₀:=X.base) I.ok.mod.RS hk (eO (ha pos pZ s σ H _ E I h) λus s1 h9=>?_) (dw he) (iE hes)];let#[vs,H1,I1,r,q]:=h9;refine#[I1.zG,?_];erw[t6 F hr hb .nil I1 r (by rw[bX];exact q)]
theorem TZ(F:kg X.prog X.w X.K X.mg X.base (tQ X.prog X.w) k f fd ps sp)(hr:kf k X.A)(hg:Gl X x)(hm:X.mg x=some (.ref f))(hk:Bz X.K (.ref f)=true)(hb:Binds X.K fd ps [])
  (hdb:(x==("__debug__":Str))=false):dU X (.Call (.Name x p) [] [] pos) (λE σ H Q=>sp [] H Q E):=by
 intro pZ s σ H Q E I h;rwa[eY (qK I hg hm ?_ hdb)];erw[Ku I.zG hk (t6 (us:=[]) (vs:=[]) F hr hb .nil I .nil h)]
theorem Yk(he:dU X o to)(c:EX X.K C)(hm:Meth X.K C m f)(F:kg X.prog X.w X.K X.mg X.base (tQ X.prog X.w) k f fd ps sp)(hr:kf k X.A)(hb:Binds X.K fd ps [])(ha:Ct X (e::es) ta)
  (h0:fO o=true) (hn:(e::es).length<20) (hl:(apos.endLine==pos.line)=true) (hse:noStar e=true) (hes:es.all noStar=true):
  dU X (.Call (.Attribute o m apos) (e::es) [] pos) (λE σ H Q=>to E σ H λx H1=>∃a dx fs,x=.ref a/\H1 a=some (.ins C dx fs)/\fs.lookup m=none/\ta E σ H1 λvs H2=>sp (x::vs) H2 Q E):=by
 intro pZ s σ H Q E I h;refine methodCall_KW (eO (he pZ s σ H _ E I h) λu s1 h9=>?_) (xo h0 (by rw[bK,hse,hes];rfl) hn hl);let#[x,H1,I1,rx,a,dx,fs,ex,ea,l,q]:=h9;subst ex;obtain rfl:u=bg a:=rx;refine uJ I1 ea c hm l ?_;refine callWith_K (first:=[.ref a]) (h₀:=X.base) I.ok.mod.RS hm.kp (eO (ha pos pZ s1 σ H1 _ E I1 q) λus s2 h9=>?_) (dw hse) (iE hes);obtain⟨vs,H2,I2,r,q2⟩:=h9;refine#[I2.zG,?_];exact t6 (us:=.ref a::us) (vs:=.ref a::vs) F hr hb .nil I2 (.cons rfl r) (by rw[bX];exact q2)
theorem T1(he:dU X o to)(c:EX X.K C)(hm:Meth X.K C m f)(F:kg X.prog X.w X.K X.mg X.base (tQ X.prog X.w) k f fd ps sp)(hr:kf k X.A)(hb:Binds X.K fd ps [])
  (h0:fO o=true) (hl:(apos.endLine==pos.line)=true):
  dU X (.Call (.Attribute o m apos) [] [] pos) (λE σ H Q=>to E σ H λx H1=>∃a dx fs,x=.ref a/\H1 a=some (.ins C dx fs)/\fs.lookup m=none/\sp [x] H1 Q E):=by
 intro pZ s σ H Q E I h;refine methodCall_KW (eO (he pZ s σ H _ E I h) λu s1 h9=>?_) (xo h0 rfl ⋯ hl);let#[x,H1,I1,rx,a,dx,fs,ex,ea,l,q]:=h9;subst ex;obtain rfl:u=bg a:=rx;refine uJ I1 ea c hm l ?_;exact Ku (first:=[.ref a]) I1.zG hm.kp (t6 (us:=[.ref a]) (vs:=[.ref a]) F hr hb .nil I1 (.cons rfl .nil) q)
theorem xp{pZ:List (Addr×Obj)}{σ:St}{H:Hp}{s:aq}{Q:VK}{E:XK}{us:List Value}{vs:List V}(M:Mk X.K C f)(F:kg X.prog X.w X.K X.mg X.base (tQ X.prog X.w) k f fd ps sp)(hr:kf (k+1) X.A)(hb:Binds X.K fd ps [])
  (I:Inv X pZ σ H s) (r:Vals vs us) (h:∀x dx,H x=none->H dx=none->dx≠x->sp (.ref x::vs) (upd (upd H dx (.own x)) x (.ins C dx [])) (λv H2=>v=.bV/\Q (.ref x) H2) E):
  wpAny (bb X.prog X.w) X.A (call (.ref C) us) (EP X pZ σ Q) (XE X pZ σ E) s:=by
 have hq:=h (s.heap.objs.size+1) s.heap.objs.size (I.du.fresh (kr _)) (I.du.fresh (ar _)) (aX (dj _));have I2:=Inv.made (C:=C) I;have r2:Vals (V.ref (s.heap.objs.size+1)::vs) (bg (s.heap.objs.size+1)::us):=.cons rfl r;have hl:(bg (s.heap.objs.size+1)::us++([]:List Value)).length=ps.length:=by
  have e:=r2.length;rw[F.len _ _ _ _ hq] at e;rw[bX]
  erw[e.symm]
 have hb2:=hb {s with heap:=(s.heap.push cM).push (dJ C s.heap.objs.size)} (bg (s.heap.objs.size+1)::us) I2.zG hl;rw[bX] at hb2;refine wpAny_call (Ha (f:=f) I.zG M.makes M.init (beq_iff_eq.mp M.fn) (vU (F.run _ X.stack _ _ #[bg (s.heap.objs.size+1)::us,[]] (bg (s.heap.objs.size+1)::us) _ _ E (hr.make C us [])
  (I2.Sz.make C us []) hb2 r2 hq) λr s' hq'=>?_))
 cases r with
 |error e=>
  let#[a,T,c,dx,H',e1,I',x,fr,q]:=tQ.inv I2 hq';exact#[a,some T,c,dx,H',e1,I',x,fr,q]
 |ok fl=>
  cases fl with
  |ret u=>
   let#[v,H',I3,rv,ev,q3]:=I2.after hq';subst ev;exact#[rv,#[V.ref (s.heap.objs.size+1),H',I3,rfl,q3]]
  |next=>erw[aL hq']
  |brk=>erw[aL hq']
  |cont=>erw[aL hq']
theorem Yl(M:Mk X.K C f)(F:kg X.prog X.w X.K X.mg X.base (tQ X.prog X.w) k f fd ps sp)(hr:kf (k+1) X.A)(hg:Gl X x)(hm:X.mg x=some (.ref C))(hb:Binds X.K fd ps [])(ha:Ct X (e::es) ta)
  (hdb:(x==("__debug__":Str))=false) (he:noStar e=true) (hes:es.all noStar=true):dU X (.Call (.Name x p) (e::es) [] pos) (λE σ H Q=>ta E σ H λvs H1=>∀x dx,H1 x=none->H1 dx=none->dx≠x ->
   sp (.ref x::vs) (upd (upd H1 dx (.own x)) x (.ins C dx [])) (λv H2=>v=.bV/\Q (.ref x) H2) E):=by
 intro pZ s σ H Q E I h;rwa[eY (qK I hg hm ?_ hdb)];rwa[callWith_K (h₀:=X.base) I.ok.mod.RS M.kp (eO (ha pos pZ s σ H _ E I h) λus s1 h9=>?_) (dw he) (iE hes)];let#[vs,H1,I1,r,q]:=h9;refine#[I1.zG,?_];erw[xp M F hr hb I1 r q]
theorem T3(M:Mk X.K C f)(F:kg X.prog X.w X.K X.mg X.base (tQ X.prog X.w) k f fd ps sp)(hr:kf (k+1) X.A)(hg:Gl X x)(hm:X.mg x=some (.ref C))(hb:Binds X.K fd ps [])
  (hdb:(x==("__debug__":Str))=false):dU X (.Call (.Name x p) [] [] pos) (λE σ H Q=>∀x dx,H x=none->H dx=none->dx≠x ->
   sp [.ref x] (upd (upd H dx (.own x)) x (.ins C dx [])) (λv H2=>v=.bV/\Q (.ref x) H2) E):=by
 intro pZ s σ H Q E I h;rwa[eY (qK I hg hm ?_ hdb)];erw[Ku I.zG M.kp (xp (us:=[]) (vs:=[]) M F hr hb I .nil h)]
end
theorem dU.imp{X:Cx}{e:Expr}{t t':XK->TE}(h:dU X e t)(q:∀E σ H Q,t' E σ H Q->t E σ H Q):dU X e t':=λpZ s σ H Q E I z=>h pZ s σ H Q E I (q E σ H Q z)
section
variable{t:wb}{T:Tab}{Γ:bT}{k n:Nat}{I:Inf}{X:Cx}
theorem m8:∀{n:Nat}{I:Inf}{es:List Expr}{xs:PL.tw},RF T n I es=some xs->es.all noStar=true
 |0,_,_,_,h=>by rw[Nw] at h;cases h
 |n+1,I,[],_,_=>rfl
 |n+1,I,e::es,_,h=>by
  rw[HS,HP] at h;by_cases z:noStar e=true
  .dsimp[z,bz,ak,if_false,aK,aA] at h
   let#[x,_,xs,h2,_]:=h;rw[bK,z,m8 h2];rfl
  .simp[z] at h
theorem PH(IH:Fv t T Γ k n)(G:Good t T Γ k I X):∀{es:List Expr}{xs:PL.tw},RF T (n+1) I es=some xs->Ct X es (Gi (X.cc t) Γ xs)
 |[],xs,h=>by
  rw[HS,HP] at h;injection h with h;subst h
  rwa[ZC λpZ E=>?_]
  rwa[λpos pins' s σ H Q J z=>yg (X:=X.at_ pZ E) pos pins' s σ H Q J ?_]
  let#[env,ρ,S,QU,EU,he,R,w,q,qx]:=z;erw[q [] S [] H ρ w .refl R aV.nil]
 |e::es,xs,h=>by
  have st:=m8 h;rw[bK,aj] at st;rw[HS,HP] at h;dsimp[st.1,bz,ak,if_false,aK,aA] at h;let#[x,h1,ys,h2,h3]:=h;injection h3 with h3;subst h3
  rwa[ZC λpZ E=>?_]
  have P:=t4 (X:=X.at_ pZ E) (dn (IH.fe G.at_ h1)) (AE (IH.TX G.at_ h2)) (dw st.1);rwa[λpos pins' s σ H Q J z=>P pos pins' s σ H Q J ?_]
  let#[env,ρ,S,QU,EU,he,R,w,q,qx]:=z;z_go;refine#[env,ρ1,S1,_,EU,he.later R st1,R1,w1,λus S2 vs H2 ρ2 w2 st2 R2 r2=>?_,qx.later st1];erw[q _ _ _ _ _ w2 (st1.trans st2) R2 (aV.cons (r1.mono R1 st2) r2)]
theorem PJ{a:Expr}{x:PL.Ex}{pos:Pos}(ha:∀pZ E,dU (X.at_ pZ E) a (tE (X.cc t) Γ x)):dU X (.UnaryOp .USub a pos) (tE (X.cc t) Γ (.neg x)):=by
 rwa[up λpZ E=>(Sj (X:=X.at_ pZ E) Oo (dn (ha pZ E))).imp ?_]
 kd_p;z_go;let#[i,e,w2]:=PL.fu.mp w1;subst e;exact#[i,aQ.mp r1,(q.later st1).now R1 w2 (aQ.mpr rfl)]
theorem PK{a:Expr}{x:PL.Ex}{pos:Pos}(ha:∀pZ E,dU (X.at_ pZ E) a (tE (X.cc t) Γ x)):dU X (.UnaryOp .Not a pos) (tE (X.cc t) Γ (.not x)):=by
 rwa[up λpZ E=>(N5 (X:=X.at_ pZ E) (dn (ha pZ E))).imp ?_]
 kd_p;z_go;let#[i,e,w2]:=PL.yw.mp w1;subst e;exact#[i,fc.mp r1,(q.later st1).now R1 w2 (fc.mpr rfl)]
theorem PM(IH:Fv t T Γ k n)(G:Good t T Γ k I X){op:BoolOp}{pos:Pos}:∀{vs:List Expr}{x:PL.Ex},V9 T (n+1) I op vs=some x->dU X (.BoolOp op vs pos) (tE (X.cc t) Γ x)
 |[],x,h=>by rw[HU,HQ] at h;cases h
 |[a],x,h=>by
  rw[HU,HQ] at h;rwa[up λpZ E=>N3 (X:=X.at_ pZ E) (dn (IH.fe G.at_ h))]
 |a::b::r,y,h=>by
  rw[HU,HQ] at h;dsimp[aK,aA] at h;let#[x,h1,z,h2,h3]:=h;injection h3 with h3;subst h3
  cases op with
  |And=>
   rwa[up λpZ E=>(N4 (X:=X.at_ pZ E) (dn (IH.fe G.at_ h1)) (dn (IH.Yh G.at_ h2))).imp ?_]
   kd_p;z_go;let#[i,e,w2]:=PL.yw.mp w1;subst e;refine#[i,fc.mp r1,?_];cases i with
   |true=>exact#[env,ρ1,S1,QU,EU,he.later R st1,R1,w2,q.later st1,qx.later st1]
   |false=>exact(q.later st1).now R1 w2 (fc.mpr rfl)
  |Or=>
   rwa[up λpZ E=>(RZ (X:=X.at_ pZ E) (dn (IH.fe G.at_ h1)) (dn (IH.Yh G.at_ h2))).imp ?_]
   kd_p;z_go;let#[i,e,w2]:=PL.yw.mp w1;subst e;refine#[i,fc.mp r1,?_];cases i with
   |true=>exact(q.later st1).now R1 w2 (fc.mpr rfl)
   |false=>exact#[env,ρ1,S1,QU,EU,he.later R st1,R1,w2,q.later st1,qx.later st1]
theorem T4{c a b:Expr}{x:PL.Tx}{y z:PL.Ex}{pos:Pos}(hc:∀pZ E,Cs (X.at_ pZ E) c (tT (X.cc t) Γ x))(ha:∀pZ E,dU (X.at_ pZ E) a (tE (X.cc t) Γ y))(hb:∀pZ E,dU (X.at_ pZ E) b (tE (X.cc t) Γ z)):dU X (.IfExp c a b pos) (tE (X.cc t) Γ (.Cc x y z)):=by
 rwa[up λpZ E=>(GU (X:=X.at_ pZ E) (RG (hc pZ E)) (dn (ha pZ E)) (dn (hb pZ E))).imp ?_]
 kd_p;refine#[env,ρ,S,_,EU,he,R,w,λb S1 H1 ρ1 w1 st1 R1=>?_,qx];cases b with
 |true=>exact#[env,ρ1,S1,QU,EU,he.later R st1,R1,w1,q.later st1,qx.later st1]
 |false=>exact#[env,ρ1,S1,QU,EU,he.later R st1,R1,w1,q.later st1,qx.later st1]
theorem PN{es:List Expr}{xs:PL.tw}{j:Nat}{pos:Pos}(ha:∀pZ E,Ct (X.at_ pZ E) es (Gi (X.cc t) Γ xs)):dU X (.Tuple es j pos) (tE (X.cc t) Γ (.tup xs)):=by
 rwa[up λpZ E=>(OA (X:=X.at_ pZ E) (AE (ha pZ E))).imp ?_]
 kd_p;refine#[env,ρ,S,_,EU,he,R,w,λus S1 vs H1 ρ1 w1 st1 R1 r1=>?_,qx];exact#[by rw[<-r1.len];erw[pU w1.1],λp hp=>(q.later st1).LL R1 r1 w1.2 hp]
theorem PQ{es:List Expr}{xs:PL.tw}{pos:Pos}(ha:∀pZ E,Ct (X.at_ pZ E) es (Gi (X.cc t) Γ xs)):dU X (.List es pos) (tE (X.cc t) Γ (.lst xs)):=by
 rwa[up λpZ E=>(OB (X:=X.at_ pZ E) (AE (ha pZ E))).imp ?_]
 kd_p;refine#[env,ρ,S,_,EU,he,R,w,λus S1 vs H1 ρ1 w1 st1 R1 r1=>?_,qx];exact#[by rw[<-r1.len];erw[pU w1.1],λp hp=>(q.later st1).Fp R1 r1 w1.2 hp]
theorem qo{c:Ctx}{ρ:List Addr}{H:Hp}{f:String}{u:U}:∀{fs:List (String×U)}{vs:List (Str×V)},vs.map (·.1)=(fs.map (·.1)).map nm->aV c ρ H (fs.map (·.2)) (vs.map (·.2))->fs.lookup f=some u->(∀a b:String,nm a=nm b->a=b)->∃v,vs.lookup (nm f)=some v/\Rep c ρ H u v
 |[],vs,_,_,h,_=>nomatch h
 | (g,w)::fs,[],e,_,_,_=>by simp at e
 | (g,w)::fs,(a,v)::vs,e,r,h,inj=>by
  dsimp[ay,dG] at e;rw[ay,ay] at r;unfold aV at r;let#[v',r',e',h1,h2]:=r;injection e' with e1 e2
  subst e1;subst e2;rw[aN] at h ⊢;by_cases z:f=g
  .subst z
   simp at h;subst h;have:(nm f==a)=true:=by rw[e.1];simp
   rw[this]
   exact#[v,rfl,h1]
  .have z1:(f==g)=false:=by simp[z]
   rw[z1] at h;have z2:(nm f==a)=false:=by
    rw[e.1]
    dsimp[beq_eq_false_iff_ne,ne_eq];erw[λq=>z (inj _ _ q)]
   rw[z2]
   erw[qo e.2 h2 h inj]
theorem vm(a b:String)(h:nm a=nm b):a=b:=by
 unfold nm at h;rw[Str.ofString_eq_byList] at h;unfold Str.ofStringByList at h;injection h with h
 have h2:=congrArg zO h;dsimp[] at h2;have h3:a.toList=b.toList:=by
  refine(rR (f:=Char.toNat) ?_).mp h2;intro x y e;erw[Char.ext (UInt32.toNat_inj.mp e)]
 erw[String.toList_inj.mp h3]
end
end L2
end
section
set_option autoImplicit false
namespace L2
open PySem PySem.Spec PyProof.Rows PySem.W
open PL (U SO bj Xn KU KX bT)
section
variable{t:wb}{T:Tab}{Γ:bT}{k n:Nat}{I:Inf}{X:Cx}
theorem PU{o:Expr}{f:String}{x:PL.Ex}{pos:Pos}(G:Good t T Γ k I X)(hf:f∈T.yD)(h0:fO o=true)(ho:∀pZ E,dU (X.at_ pZ E) o (tE (X.cc t) Γ x)):dU X (.Attribute o (nm f) pos) (tE (X.cc t) Γ (.fld x f)):=by
 rwa[up λpZ E=>(Oy (X:=X.at_ pZ E) (dn (ho pZ E)) (fJ h0)).imp ?_]
 kd_p;z_go;cases u with
 |loc m=>
  let#[c,fs,e,w2]:=PL.mf.mp (show PL.qg _ _ from w1);let#[u,e2,w3]:=PL.i9.mp w2;let#[a,C,dx,vs,ev,_,hc,ha,hn,hr]:=R1.ins e r1;let#[v',l,r2]:=qo hn hr e2 vm;let#[cl,na]:=G.tab.cls c C hc;exact#[a,C,dx,vs,v',ev,ha,cl,na f hf,l,(q.later st1).now R1 w3 r2]
 |_=>erw[aL w1]
theorem Iu{b:Expr}(h:lH b=true):Dp b:=by
 intro o i;cases b<;>first|rfl|cases h
theorem T5{a b:Expr}{x y:PL.Ex}{pos:Pos}(hs:lH b=true)(ha:∀pZ E,dU (X.at_ pZ E) a (tE (X.cc t) Γ x))(hb:∀pZ E,dU (X.at_ pZ E) b (tE (X.cc t) Γ y)):dU X (.Subscript a b pos) (tE (X.cc t) Γ (.ix x y)):=by
 rwa[up λpZ E=>(SH (X:=X.at_ pZ E) (Px (X:=X.at_ pZ E) (c:=X.cc t) rfl rfl) (dn (ha pZ E)) (dn (hb pZ E)) (Iu hs)).imp ?_]
 kd_p;z_go;refine#[env,ρ1,S1,_,EU,he.later R st1,R1,w1,λu2 S2 v2 H2 ρ2 w2 st2 R2 r2=>?_,qx.later st1];refine#[u,u2,ρ2,S2,r1.mono R1 st2,r2,R2,PL.HK (λr h v3 r3=>?_) w2];exact(q.later (st1.trans st2)).now R2 h r3
theorem T6(IH:Fv t T Γ k n)(G:Good t T Γ k I X):∀{oe:Option Expr}{x:PL.Ox},cO T (n+1) I oe=some x->∀pZ E,PO (X.at_ pZ E) oe (λσ H Q=>Wc (X.cc t) Γ x (E σ) σ H Q)
 |none,x,h,pZ,E=>by
  rw[TQ,V8] at h;injection h with h;subst h
  rwa[λpins' s σ H Q J z=>K0 (X:=X.at_ pZ E) pins' s σ H Q J ?_]
  let#[env,ρ,S,QU,EU,he,R,w,q,qx]:=z;erw[q none S H ρ w .refl R]
 |some e,x,h,pZ,E=>by
  rw[TQ,V8] at h;let#[y,h1,h2]:=au.mp h;subst h2;rwa[λpins' s σ H Q J z=>K1 (X:=X.at_ pZ E) (dn (IH.fe G.at_ h1)) pins' s σ H Q J ?_]
  let#[env,ρ,S,QU,EU,he,R,w,q,qx]:=z;z_go;let#[i,e,w2]:=PL.fu.mp w1;subst e;exact#[i,aQ.mp r1,q _ _ _ _ w2 st1 R1]
theorem T7{a:Expr}{lo hi:Option Expr}{x:PL.Ex}{y z:PL.Ox}{pos p2:Pos}(ha:∀pZ E,dU (X.at_ pZ E) a (tE (X.cc t) Γ x))(hl:∀pZ E,PO (X.at_ pZ E) lo (λσ H Q=>Wc (X.cc t) Γ y (E σ) σ H Q))(hh:∀pZ E,PO (X.at_ pZ E) hi (λσ H Q=>Wc (X.cc t) Γ z (E σ) σ H Q)):dU X (.Subscript a (.Slice lo hi none p2) pos) (tE (X.cc t) Γ (.sl x y z)):=by
 rwa[up λpZ E=>(Hd (X:=X.at_ pZ E) (Pz (X:=X.at_ pZ E) (c:=X.cc t) rfl) (dn (ha pZ E)) (hl pZ E) (hh pZ E)).imp ?_]
 kd_p;z_go;refine#[env,ρ1,S1,_,EU,he.later R st1,R1,w1,λl S2 H2 ρ2 w2 st2 R2=>?_,qx.later st1];have st12:=st1.trans st2;refine#[env,ρ2,S2,_,EU,he.later R st12,R2,w2,λh S3 H3 ρ3 w3 st3 R3=>?_,qx.later st12];exact#[u,ρ3,S3,QU,r1.mono R1 (st2.trans st3),R3,w3,q.later (st12.trans st3)]
end
end L2
end
section
set_option autoImplicit false
namespace L2
open PySem PySem.Spec PyProof.Rows PySem.W
open PL (U SO bj Xn KU KX bT)
section
variable{t:wb}{T:Tab}{Γ:bT}{k n:Nat}{I:Inf}{X:Cx}
theorem PV{f:Str}{p pos:Pos}{b:PL.RA}{s:String}{e:Expr}{es:List Expr}{xs:PL.tw}(G:Good t T Γ k I X)(hg:I.gl f=true)(hb:Ph f=some b)(hp:pick T.lT f=some s)(hcalm:X.calm=true)(hA:X.A.handled=none)(h1:noStar e=true)(h2:es.all noStar=true)
  (ha:∀pZ E,Ct (X.at_ pZ E) (e::es) (Gi (X.cc t) Γ xs)):dU X (.Call (.Name f p) (e::es) [] pos) (tE (X.cc t) Γ (.blt b xs)):=by
 let#[hm,rfl]:=mm hp;have hn:=G.tab.lT s hm;have rd:∀(pZ:List (Addr×Obj))(E:St->XK)(σ:St)(H:Hp)(Q:VK),tE (X.cc t) Γ (.blt b xs) (E σ) σ H Q->WW (rq (X.cc t) b) (λσ H Q=>Gi (X.cc t) Γ xs (E σ) σ H Q) σ H Q:=by
  rintro pZ E σ H Q ⟨env,ρ,S,QU,EU,he,R,w,q,qx⟩;exact#[env,ρ,S,_,EU,he,R,w,λus S1 vs H1 ρ1 w1 st1 R1 r1=>#[us,ρ1,S1,QU,r1,R1,w1,q.later st1],qx]
 have sx:∀(pZ:List (Addr×Obj))(E:St->XK),bR (e::es) (X.at_ pZ E).env=(false,eval e (X.at_ pZ E).env)::bR es (X.at_ pZ E).env:=λ_ _=>dw h1
 have sy:∀(pZ:List (Addr×Obj))(E:St->XK),(iw pos (bR es (X.at_ pZ E).env)).any (·.1)=false:=λ_ _=>iE h2
 unfold Ph at hb;by_cases c1:(nm s==("len":Str))=true
 .rw[if_pos c1] at hb;injection hb with hb;subst hb
  have ef:nm s=("len":Str):=by simpa using c1
  rw[ef] at hg hn ⊢;erw[up λpZ E=>(ow (X:=X.at_ pZ E) (LY rfl) (jC G hg) hn Ks (AE (ha pZ E)) ⋯ ⋯ (sx pZ E) (sy pZ E)).imp (rd pZ E)]
 rw[if_neg c1] at hb;by_cases c2:(nm s==("tuple":Str))=true
 .rw[if_pos c2] at hb;injection hb with hb;subst hb
  have ef:nm s=("tuple":Str):=by simpa using c2
  rw[ef] at hg hn ⊢;erw[up λpZ E=>(oV (X:=X.at_ pZ E) (Ft rfl) (jC G hg) hn (by decide +kernel) (AE (ha pZ E)) ⋯ ⋯ (sx pZ E) (sy pZ E)).imp (rd pZ E)]
 rw[if_neg c2] at hb;by_cases c4:(nm s==("list":Str))=true
 .rw[if_pos c4] at hb;injection hb with hb;subst hb
  have ef:nm s=("list":Str):=by simpa using c4
  rw[ef] at hg hn ⊢;erw[up λpZ E=>(oV (X:=X.at_ pZ E) (Ii rfl) (jC G hg) hn (by decide +kernel) (AE (ha pZ E)) ⋯ ⋯ (sx pZ E) (sy pZ E)).imp (rd pZ E)]
 rw[if_neg c4] at hb;by_cases c7:(nm s==("all":Str))=true
 .rw[if_pos c7] at hb;injection hb with hb;subst hb
  have ef:nm s=("all":Str):=by simpa using c7
  rw[ef] at hg hn ⊢;erw[up λpZ E=>(ow (X:=X.at_ pZ E) (Ij hcalm) (jC G hg) hn (by decide +kernel) (AE (ha pZ E)) ⋯ ⋯ (sx pZ E) (sy pZ E)).imp (rd pZ E)]
 rw[if_neg c7] at hb;by_cases c8:(nm s==("sum":Str))=true
 .rw[if_pos c8] at hb;injection hb with hb;subst hb
  have ef:nm s=("sum":Str):=by simpa using c8
  rw[ef] at hg hn ⊢;erw[up λpZ E=>(ow (X:=X.at_ pZ E) (LZ hcalm) (jC G hg) hn boot_sum (AE (ha pZ E)) ⋯ ⋯ (sx pZ E) (sy pZ E)).imp (rd pZ E)]
 rw[if_neg c8] at hb;by_cases c9:(nm s==("any":Str))=true
 .rw[if_pos c9] at hb;injection hb with hb;subst hb
  have ef:nm s=("any":Str):=by simpa using c9
  rw[ef] at hg hn ⊢;erw[up λpZ E=>(ow (X:=X.at_ pZ E) (Ik hcalm) (jC G hg) hn (by decide +kernel) (AE (ha pZ E)) ⋯ ⋯ (sx pZ E) (sy pZ E)).imp (rd pZ E)]
 rw[if_neg c9] at hb;by_cases c10:(nm s==("dict":Str))=true
 .rw[if_pos c10] at hb;injection hb with hb;subst hb
  have ef:nm s=("dict":Str):=by simpa using c10
  rw[ef] at hg hn ⊢;erw[up λpZ E=>(oV (X:=X.at_ pZ E) (Il hA) (jC G hg) hn (by decide +kernel) (AE (ha pZ E)) ⋯ ⋯ (sx pZ E) (sy pZ E)).imp (rd pZ E)]
 rw[if_neg c10] at hb;by_cases c11:(nm s==("max":Str))=true
 .rw[if_pos c11] at hb;injection hb with hb;subst hb
  have ef:nm s=("max":Str):=by simpa using c11
  rw[ef] at hg hn ⊢;erw[up λpZ E=>(ow (X:=X.at_ pZ E) (L0 hcalm) (jC G hg) hn (by decide +kernel) (AE (ha pZ E)) ⋯ ⋯ (sx pZ E) (sy pZ E)).imp (rd pZ E)]
 rw[if_neg c11] at hb;cases hb
theorem Fw{a:Expr}{x:PL.Ex}{p pl kp pos:Pos}(G:Good t T Γ k I X)(hg:I.gl ("min":Str)=true)(hg2:I.gl ("len":Str)=true)(hb:"min"∈T.lT)(hb2:"len"∈T.lT)(hc:X.calm=true)(h1:noStar a=true)(ha:∀pZ E,dU (X.at_ pZ E) a (tE (X.cc t) Γ x)):
  dU X (.Call (.Name ("min":Str) p) [a] [#[some "key",.Name ("len":Str) pl,kp]] pos) (tE (X.cc t) Γ (.blt .uZ (.cons x .nil))):=by
 rwa[up λpZ E=>(Fd (X:=X.at_ pZ E) hc (jC G hg) (G.tab.lT "min" hb) (jC G hg2) (G.tab.lT "len" hb2) (dn (ha pZ E)) (dw h1)).imp ?_]
 kd_p;z_go;have w1:PL.so .uZ [u] S1 QU:=w1
 match u,w1 with
 |.loc n,w1=>
  let#[t0,ts,e,hz,w2]:=w1;let#[a,vs,e2,_,g1,g2]:=R1.lst e r1;rw[sA g2] at g1;exact#[a,t0,ts,e2,iT.of g1,hz,(q.later st1).now R1 w2 (bx.mpr rfl)]
end
end L2
end
section
set_option autoImplicit false
namespace L2
open PySem PySem.Spec PyProof.Rows PySem.W
open PL (U SO bj Xn KU KX bT)
section
variable{t:wb}{T:Tab}{Γ:bT}{k n:Nat}{I:Inf}{X:Cx}
noncomputable def T8:PL.Lp->String
 |.join=>"str"|.index=>"str"|.startswith=>"str"|.append=>"list"|.extend=>"list"|.mN=>"int"|_=>"dict"
theorem Iv{c:Ctx}{ρ:List Addr}{H:Hp}{S:bj}{b:PL.Lp}{u:U}{v:V}(hb:b=.join\/b=.index\/b=.append\/b=.extend\/b=.startswith\/b=.nK)(R:cv c ρ H S)(r:Rep c ρ H u v)(w:PL.tR b u S):VT c.K (T8 b) v H:=by
 rcases hb with rfl|rfl|rfl|rfl|rfl|rfl
 .cases u<;>first|exact aL w| (rw[bx.mp r];rfl)
 .cases u<;>first|exact aL w| (rw[bx.mp r];rfl)
 .cases u<;>first|exact aL w|skip
  let#[us,e,_]:=PL.df.mp (show PL.getL _ _ from w);let#[a,vs,ev,_,h1,_]:=R.lst e r;rw[ev]
  erw[.inl #[rfl,vs,iT.of h1]]
 .cases u<;>first|exact aL w|skip
  let#[us,e,_]:=PL.df.mp (show PL.getL _ _ from w);let#[a,vs,ev,_,h1,_]:=R.lst e r;rw[ev]
  erw[.inl #[rfl,vs,iT.of h1]]
 .cases u<;>first|exact aL w| (rw[bx.mp r];rfl)
 .cases u<;>first|exact aL w|skip
  rename_i n;let#[a,ev,ha]:=eG.mp r;have w:(match S[n]? with|some (.eL _)=>True|some (.t8 _)=>True|some (.wX _)=>True|_=>False):=w;rw[ev]
  rwa[.inr (.inr (.inl #[rfl,?_]))];cases hs:S[n]? with
  |none=>rw[hs] at w;erw[w.elim]
  |some o=>
   rw[hs] at w;cases o with
   |eL kvs=>let#[vs,h1,_]:=R.at_ n a _ ha hs;erw[.inl #[vs,h1]]
   |t8 kvs=>let#[vs,h1,_]:=R.at_ n a _ ha hs;erw[.inr (.inl #[vs,h1])]
   |wX kvs=>let#[vs,h1,_]:=R.at_ n a _ ha hs;erw[.inr (.inr #[vs,h1])]
   |_=>erw[w.elim]
theorem oG{cpos:Pos}{env:Env}{es:List Expr}(h:es.all noStar=true)(hn:es.length<20):((iw cpos (bR es env)).all (λx=>!x.1)&&(backToKw cpos (jP [] env)).all (λx=>x.1.isSome)
   && decide (es.length+([]:List oa).length+(if ([]:List oa).isEmpty then 0 else 1)<30))=true:=by
 have:=xn (pos:=cpos) (env:=env) h hn;unfold BA at this;erw[this]
theorem PX{m:Str}{o e:Expr}{es:List Expr}{b:PL.Lp}{x:PL.Ex}{xs:PL.tw}{apos cpos:Pos}(G:Good t T Γ k I X)(hb:Pj m=some b)(hA:X.A.handled=none)(h0:fO o=true)(hl:(apos.endLine==cpos.line)=true)(hn:(e::es).length<20)(h1:noStar e=true)(h2:es.all noStar=true)
  (ho:∀pZ E,dU (X.at_ pZ E) o (tE (X.cc t) Γ x)) (ha:∀pZ E,Ct (X.at_ pZ E) (e::es) (Gi (X.cc t) Γ xs)):dU X (.Call (.Attribute o m apos) (e::es) [] cpos) (tE (X.cc t) Γ (.jB b x xs)):=by
 have hst:(e::es).all noStar=true:=by rw[bK,h1,h2];rfl
 have rd:∀(hb':b=.join\/b=.index\/b=.append\/b=.extend\/b=.startswith\/b=.nK)(E:St->XK)(σ:St)(H:Hp)(Q:VK),tE (X.cc t) Γ (.jB b x xs) (E σ) σ H Q->YH X.K (T8 b) (tF (X.cc t) b) (λσ H Q=>tE (X.cc t) Γ x (E σ) σ H Q) (λσ H Q=>Gi (X.cc t) Γ xs (E σ) σ H Q) σ H Q:=by
  rintro hb' E σ H Q ⟨env,ρ,S,QU,EU,he,R,w,q,qx⟩;refine#[env,ρ,S,_,EU,he,R,w,λu S1 v H1 ρ1 w1 st1 R1 r1=>#[Iv (c:=X.cc t) hb' R1 r1 w1.1,?_],qx];exact#[env,ρ1,S1,_,EU,he.later R st1,R1,w1.2,λus S2 vs H2 ρ2 w2 st2 R2 r2=>#[u,us,ρ2,S2,QU,r1.mono R1 st2,r2,R2,w2,q.later (st1.trans st2)],qx.later st1]
 unfold Pj at hb;by_cases c1:(m==("join":Str))=true
 .rw[if_pos c1] at hb;injection hb with hb;subst hb
  have ef:m=("join":Str):=by simpa using c1
  subst ef;erw[up λpZ E=>(wQ (X:=X.at_ pZ E) mE PySem.F.slot_str_join PySem.F.type_str_join (Im rfl) (dn (ho pZ E)) (AE (ha pZ E)) (fJ h0) (oG hst hn) hl (dw h1) (iE h2)).imp (rd (by simp) E)]
 rw[if_neg c1] at hb;by_cases c2:(m==("index":Str))=true
 .rw[if_pos c2] at hb;injection hb with hb;subst hb
  have ef:m=("index":Str):=by simpa using c2
  subst ef;erw[up λpZ E=>(wQ (X:=X.at_ pZ E) mE PySem.F.slot_str_index PySem.F.type_str_index (Fu hA) (dn (ho pZ E)) (AE (ha pZ E)) (fJ h0) (oG hst hn) hl (dw h1) (iE h2)).imp (rd (by simp) E)]
 rw[if_neg c2] at hb;by_cases c3:(m==("append":Str))=true
 .rw[if_pos c3] at hb;injection hb with hb;subst hb
  have ef:m=("append":Str):=by simpa using c3
  subst ef;erw[up λpZ E=>(wQ (X:=X.at_ pZ E) wD PySem.F.slot_list_append PySem.F.type_list_append Cy (dn (ho pZ E)) (AE (ha pZ E)) (fJ h0) (oG hst hn) hl (dw h1) (iE h2)).imp (rd (by simp) E)]
 rw[if_neg c3] at hb;by_cases c4:(m==("extend":Str))=true
 .rw[if_pos c4] at hb;injection hb with hb;subst hb
  have ef:m=("extend":Str):=by simpa using c4
  subst ef;erw[up λpZ E=>(wQ (X:=X.at_ pZ E) wD PySem.F.slot_list_extend PySem.F.type_list_extend Cz (dn (ho pZ E)) (AE (ha pZ E)) (fJ h0) (oG hst hn) hl (dw h1) (iE h2)).imp (rd (by simp) E)]
 rw[if_neg c4] at hb;by_cases c5:(m==("startswith":Str))=true
 .rw[if_pos c5] at hb;injection hb with hb;subst hb
  have ef:m=("startswith":Str):=by simpa using c5
  subst ef;erw[up λpZ E=>(wQ (X:=X.at_ pZ E) mE PySem.F.slot_str_startswith PySem.F.type_str_startswith Cw (dn (ho pZ E)) (AE (ha pZ E)) (fJ h0) (oG hst hn) hl (dw h1) (iE h2)).imp (rd (by simp) E)]
 rw[if_neg c5] at hb;by_cases c6:(m==("setdefault":Str))=true
 .rw[if_pos c6] at hb;injection hb with hb;subst hb
  have ef:m=("setdefault":Str):=by simpa using c6
  subst ef;erw[up λpZ E=>(wQ (X:=X.at_ pZ E) iS tN PySem.F.type_dict_setdefault (Io G.units) (dn (ho pZ E)) (AE (ha pZ E)) (fJ h0) (oG hst hn) hl (dw h1) (iE h2)).imp (rd (by simp) E)]
 rw[if_neg c6] at hb;cases hb
theorem L7{o:Expr}{x:PL.Ex}{apos cpos:Pos}(G:Good t T Γ k I X)(h0:fO o=true)(hl:(apos.endLine==cpos.line)=true)(ho:∀pZ E,dU (X.at_ pZ E) o (tE (X.cc t) Γ x)):
  dU X (.Call (.Attribute o ("bit_length":Str) apos) [] [] cpos) (tE (X.cc t) Γ (.jB .mN x .nil)):=by
 rwa[up λpZ E=>(Hg (X:=X.at_ pZ E) PySem.F.plainAttrs_int PySem.F.slot_int_bit_length PySem.F.type_int_bit_length (Cv (c:=X.cc t)) (dn (ho pZ E)) (fJ h0) hl).imp ?_]
 kd_p;refine#[env,ρ,S,_,EU,he,R,w,λu S1 v H1 ρ1 w1 st1 R1 r1=>#[?_,u,[],ρ1,S1,QU,r1,aV.nil,R1,w1.2,q.later st1],qx];cases u<;>first|exact aL w1.1| (rw[aQ.mp r1];rfl)
theorem PY{o a d:Expr}{x y z:PL.Ex}{apos cpos:Pos}(G:Good t T Γ k I X)(h0:fO o=true)(hl:(apos.endLine==cpos.line)=true)(h1:noStar a=true)(h2:noStar d=true)(ho:∀pZ E,dU (X.at_ pZ E) o (tE (X.cc t) Γ x))
  (ha:∀pZ E,dU (X.at_ pZ E) a (tE (X.cc t) Γ y)) (hd:∀pZ E,dU (X.at_ pZ E) d (tE (X.cc t) Γ z)):dU X (.Call (.Attribute o ("get":Str) apos) [a,d] [] cpos) (tE (X.cc t) Γ (.jB .get x (.cons y (.cons z .nil)))):=by
 have hst:[a,d].all noStar=true:=by rw[bK,bK,h1,h2];rfl
 refine up λpZ E=>(Hq (X:=X.at_ pZ E) (by have:=G.units;show X.A.units+1<eP;omega) (dn (ho pZ E)) (dn (ha pZ E)) (dn (hd pZ E)) #[fJ h0,oG hst (show 2<20 by decide),hl,by
  rw[dw (e:=a) (es:=[d]) h1,dw (e:=d) (es:=[]) h2];rfl]).imp ?_
 kd_p;z_go;let#[w1,w2]:=w1;cases u<;>first|exact aL w1|skip
 rename_i n;let#[kvs,e,_]:=PL.iV.mp (show PL.iU _ _ from w1);let#[a1,vs,e1,ha1,g1,g2,g3,g4]:=R1.dd e r1;refine#[a1,e1,.inl #[vs,g1],env,ρ1,S1,_,EU,he.later R st1,R1,w2,λu2 S2 v2 H2 ρ2 w3 st2 R2 r2=>?_,qx.later st1];refine#[env,ρ2,S2,_,EU,(he.later R st1).later R1 st2,R2,w3,λu3 S3 v3 H3 ρ3 w4 st3 R3 r3=>?_,(qx.later st1).later st2];have r2':=r2.mono R2 st3;cases u2<;>first|exact aL w4|skip
 rename_i k;let#[kvs',e',ps,ep,w5]:=PL.Aq.mp (show PL.getD _ _ from w4);let#[vs',f1,f2,f3,f4]:=R3.at_ n a1 _ (st3.get (st2.get ha1)) e';subst ep;have g:=sd.k (k:=i3 (some (tx k))) f1;rw[bx.mp r2']
 rcases L1 (k:=k) f2 f3 f4 with⟨l1,l2⟩|⟨u',v',l1,l2,l3⟩
 .rw[l2] at g
  rw[l1] at w5;exact#[none,g,(q.later ((st1.trans st2).trans st3)).now R3 w5 r3]
 .rw[l2] at g
  rw[l1] at w5;exact#[some v',g,(q.later ((st1.trans st2).trans st3)).now R3 w5 l3]
theorem L8{o a:Expr}{x y:PL.Ex}{apos cpos:Pos}(G:Good t T Γ k I X)(h0:fO o=true)(hl:(apos.endLine==cpos.line)=true)(h1:noStar a=true)(ho:∀pZ E,dU (X.at_ pZ E) o (tE (X.cc t) Γ x))
  (ha:∀pZ E,dU (X.at_ pZ E) a (tE (X.cc t) Γ y)):dU X (.Call (.Attribute o ("get":Str) apos) [a] [] cpos) (tE (X.cc t) Γ (.jB .get x (.cons y .nil))):=by
 have hst:[a].all noStar=true:=by rw[bK,h1];rfl
 refine up λpZ E=>(Ho (X:=X.at_ pZ E) (by have:=G.units;show X.A.units+1<eP;omega) (dn (ho pZ E)) (dn (ha pZ E)) #[fJ h0,oG hst (show 1<20 by decide),hl,by
  rw[dw (e:=a) (es:=[]) h1];rfl]).imp ?_
 kd_p;z_go;let#[w1,w2]:=w1;cases u<;>first|exact aL w1|skip
 rename_i n;let#[kvs,e,_]:=PL.iV.mp (show PL.iU _ _ from w1);let#[a1,vs,e1,ha1,g1,g2,g3,g4]:=R1.dd e r1;refine#[a1,e1,.inl #[vs,g1],env,ρ1,S1,_,EU,he.later R st1,R1,w2,λu2 S2 v2 H2 ρ2 w3 st2 R2 r2=>?_,qx.later st1];have r1':=r1.mono R1 st2;have w3:PL.qU .get (.loc n) [u2] S2 QU:=w3;have w3:PL.iU S2[n]? λkvs=>PL.mP u2=true/\QU ((PL.u5 u2 kvs).getD .bV) S2:=by cases u2<;>exact w3
 let#[kvs',e',hk,w5]:=PL.iV.mp w3;let#[a2,vs',e2,_,f1,f2,f3,f4]:=R2.dd e' r1';rw[e1] at e2;cases e2;have g:sd H2 a1 v2 (jr vs' (vi u2)):=.inl #[vs',vi u2,f1,j6 hk r2,rfl];rcases rn hk f2 f3 f4 with⟨l1,l2⟩|⟨u',v',l1,l2,l3⟩
 .rw[l2] at g
  rw[l1] at w5;exact#[none,g,(q.later (st1.trans st2)).now R2 w5 (eR.mpr rfl)]
 .rw[l2] at g
  rw[l1] at w5;exact#[some v',g,(q.later (st1.trans st2)).now R2 w5 l3]
theorem PZ{a b:Expr}{x y:PL.Ex}{pos:Pos}(G:Good t T Γ k I X)(hs:lH b=true)(ha:∀pZ E,dU (X.at_ pZ E) a (tE (X.cc t) Γ x))(hb:∀pZ E,dU (X.at_ pZ E) b (tE (X.cc t) Γ y)):dU X (.Subscript a b pos) (tE (X.cc t) Γ (.Lq x y)):=by
 refine up λpZ E=>(Lb (X:=X.at_ pZ E) (by have:=G.units;show X.A.units+1<eP;omega) (dn (ha pZ E)) (dn (hb pZ E)) (by cases b<;>first|exact ff hs| (intro _ _;rfl))).imp ?_
 kd_p;z_go;refine#[env,ρ1,S1,_,EU,he.later R st1,R1,w1,λu2 S2 v2 H2 ρ2 w2 st2 R2 r2=>?_,qx.later st1];let#[n,rfl,w2]:=PL.ja.mp (show PL.ua _ _ from w2);let#[kvs,e,hk,w3]:=PL.iV.mp w2;let#[u',l1,w4]:=PL.i9.mp w3;let#[a1,vs,e1,ha1,g1,g2,g3,g4]:=R2.dd e (r1.mono R1 st2);rcases rn hk g2 g3 g4 with⟨z1,_⟩|⟨u3,v',z1,l2,l3⟩
 .rw[l1] at z1;cases z1
 .rw[l1] at z1;cases z1
  exact#[a1,v',e1,.inl #[vs,vi u2,g1,j6 hk r2,l2.symm],(q.later (st1.trans st2)).now R2 w4 l3]
theorem L9{pos:Pos}:dU X (.Dict [] [] pos) (tE (X.cc t) Γ (.eL .nil .nil)):=by
 rwa[up λpZ E=>(Lz (X:=X.at_ pZ E)).imp ?_]
 kd_p;have w:QU (.loc S.length) (S++[.eL []])\/QU (.loc S.length) (S++[.t8 []])\/QU (.loc S.length) (S++[.wX []]):=w.2;have al:∀{ho:HO}{o:SO},QU (.loc S.length) (S++[o])->(∀p,tW (X.cc t) (ρ++[p]) (upd H p ho) p o)->∀p,H p=none->Q (.ref p) (upd H p ho):=λw z p hp=>by
  rwa[q _ _ _ _ _ w (gY.alloc R hp _) (R.alloc hp (z p)) (eG.mpr #[p,rfl,?_])];rw[<-R.len,aw (ar _),bH];rfl
 rcases w with w|w|w
 .exact#[.dK [],.inl rfl,al w λp=>#[[],cb,rfl,aV.nil,aV.nil]]
 .exact#[.dT [],.inr (.inl rfl),al w λp=>#[[],cb,rfl,aV.nil]]
 .exact#[.dP [],.inr (.inr rfl),al w λp=>#[[],cb,rfl,aV.nil]]
theorem Ma{o:Expr}{x:PL.Ex}{p ap cp pos:Pos}(G:Good t T Γ k I X)(hg:I.gl ("list":Str)=true)(hb:"list"∈T.lT)(hc:X.calm=true)(h0:fO o=true)(hl:(ap.endLine==cp.line)=true)(ho:∀pZ E,dU (X.at_ pZ E) o (tE (X.cc t) Γ x)):
  dU X (.Call (.Name ("list":Str) p) [.Call (.Attribute o ("values":Str) ap) [] [] cp] [] pos) (tE (X.cc t) Γ (.jB .vals x .nil)):=by
 refine up λpZ E=>(oV (X:=X.at_ pZ E) (Co hc) (jC G hg) (G.tab.lT "list" hb) (by decide +kernel)
  (t4 (Hg (X:=X.at_ pZ E) iS vV PySem.F.type_dict_values Fn (dn (ho pZ E)) (fJ h0) hl) yg (dw rfl)) ⋯ ⋯ (dw rfl) rfl).imp ?_
 kd_p;z_go;let#[w1,w2]:=w1;cases u<;>first|exact aL w1|skip
 rename_i n;let#[a,ev,ha]:=eG.mp r1;have w2:PL.qU .vals (.loc n) [] S1 QU:=w2;have w2:(match S1[n]? with|some (.t8 kvs)=>QU (.loc S1.length) (S1++[.lst (kvs.map (·.2))])|_=>False):=w2;cases hs:S1[n]? with
 |none=>rw[hs] at w2;erw[w2.elim]
 |some o=>
  rw[hs] at w2;cases o with
  |t8 kvs=>
   let#[vs,g1,g2,g3]:=R1.at_ n a _ ha hs;refine#[by rw[ev];erw[.inr (.inr (.inl #[rfl,.inr (.inl #[vs,g1])]))],a,vs,ev,rfl,g1,λp hp=>?_];have st2:=gY.lay R1 hp (To p a);exact#[p,a,vs,rfl,cb,by rw[b8 (dB g1 hp)];erw[g1],λl hl=>(q.later (st1.trans st2)).Fp (R1.lay hp _) (g3.mono R1 st2) w2 hl]
  |_=>erw[w2.elim]
theorem Mb{q:String}{p pos:Pos}{e:Expr}{es:List Expr}{xs:PL.tw}(G:Good t T Γ k I X)(hg:I.gl (nm q)=true)(hc:I.calm=true)(hq:q∈T.fns)(hd:(nm q==("__debug__":Str))=false)(h1:noStar e=true)(h2:es.all noStar=true)
  (ha:Ct X (e::es) (Gi (X.cc t) Γ xs)):dU X (.Call (.Name (nm q) p) (e::es) [] pos) (tE (X.cc t) Γ (.call q xs)):=by
 let#[f,hm,hk,fd,ps,F,B]:=G.L4.fns q hq;refine(Yj (k:=k) F ((G.calm hc).2.mono (kr k)) (jC G hg) hm hk B ha hd h1 h2).imp ?_;rintro E σ H Q ⟨env,ρ,S,QU,EU,he,R,w,qq,qx⟩;refine#[env,ρ,S,_,EU,he,R,w,λus S1 vs H1 ρ1 w1 st1 R1 r1=>?_,qx];exact#[us,ρ1,S1,QU,EU,r1,R1,w1,qq.later st1,qx.later st1]
theorem Iw{q:String}{p pos:Pos}(G:Good t T Γ k I X)(hg:I.gl (nm q)=true)(hc:I.calm=true)(hq:q∈T.fns)(hd:(nm q==("__debug__":Str))=false):dU X (.Call (.Name (nm q) p) [] [] pos) (tE (X.cc t) Γ (.call q .nil)):=by
 let#[f,hm,hk,fd,ps,F,B]:=G.L4.fns q hq;refine(TZ (k:=k) F ((G.calm hc).2.mono (kr k)) (jC G hg) hm hk B hd).imp ?_;rintro E σ H Q ⟨env,ρ,S,QU,EU,he,R,w,qq,qx⟩;exact#[[],ρ,S,QU,EU,aV.nil,R,w,qq,qx]
theorem AH{c:Ctx}{ρ:List Addr}{H:Hp}{S:bj}{cn:String}{C x dx:Addr}(R:cv c ρ H S)(hc:c.cls cn=some C)(hx:H x=none)(hd:H dx=none)(ne:dx≠x):
  gY ρ H (ρ++[x]) (upd (upd H dx (.own x)) x (.ins C dx []))/\cv c (ρ++[x]) (upd (upd H dx (.own x)) x (.ins C dx [])) (S++[.ins cn []])/\Rep c (ρ++[x]) (upd (upd H dx (.own x)) x (.ins C dx [])) (.loc S.length) (.ref x):=by
 have R1:=R.lay hd (.own x);have s1:=gY.lay R hd (.own x);have hx1:upd H dx (.own x) x=none:=by rw[b8 (cA ne)];erw[hx]
 have s2:=gY.alloc R1 hx1 (.ins C dx []);refine#[s1.trans s2,R1.alloc hx1 #[C,dx,[],hc,cb,rfl,aV.nil],eG.mpr #[x,rfl,?_]];rw[<-R.len,aw (ar _),bH];rfl
theorem T9{q:String}{p pos:Pos}{e:Expr}{es:List Expr}{xs:PL.tw}(G:Good t T Γ k I X)(hg:I.gl (nm q)=true)(hc:I.calm=true)(hq:q∈T.qj)(hd:(nm q==("__debug__":Str))=false)(h1:noStar e=true)(h2:es.all noStar=true)
  (ha:Ct X (e::es) (Gi (X.cc t) Γ xs)):dU X (.Call (.Name (nm q) p) (e::es) [] pos) (tE (X.cc t) Γ (.mk q (q++".__init__") xs)):=by
 let#[C,f,hC,hm,M,fd,ps,F,B]:=G.L4.cls q hq;refine(Yl (k:=k) M F (G.calm hc).2 (jC G hg) hm B ha hd h1 h2).imp ?_;rintro E σ H Q ⟨env,ρ,S,QU,EU,he,R,w,qq,qx⟩;refine#[env,ρ,S,_,EU,he,R,w,λus S1 vs H1 ρ1 w1 st1 R1 r1=>?_,qx];intro x dx hx hdx ne;let#[s2,R2,r2]:=AH R1 hC hx hdx ne;refine#[_,ρ1++[x],_,_,EU,aV.cons r2 (r1.mono R1 s2),R2,w1,λu S3 v H3 ρ3 w3 st3 R3 r3=>?_,qx.later (st1.trans s2)];let#[rfl,w4]:=w3;exact#[eR.mp r3,qq _ _ _ _ _ w4 ((st1.trans s2).trans st3) R3 (r2.mono R2 st3)]
theorem P0{q:String}{p pos:Pos}(G:Good t T Γ k I X)(hg:I.gl (nm q)=true)(hc:I.calm=true)(hq:q∈T.qj)(hd:(nm q==("__debug__":Str))=false):dU X (.Call (.Name (nm q) p) [] [] pos) (tE (X.cc t) Γ (.mk q (q++".__init__") .nil)):=by
 let#[C,f,hC,hm,M,fd,ps,F,B]:=G.L4.cls q hq;refine(T3 (k:=k) M F (G.calm hc).2 (jC G hg) hm B hd).imp ?_;rintro E σ H Q ⟨env,ρ,S,QU,EU,he,R,w,qq,qx⟩;intro x dx hx hdx ne;let#[s2,R2,r2]:=AH R hC hx hdx ne;refine#[_,ρ++[x],_,_,EU,aV.cons r2 aV.nil,R2,w,λu S3 v H3 ρ3 w3 st3 R3 r3=>?_,qx.later s2];let#[rfl,w4]:=w3;exact#[eR.mp r3,qq _ _ _ _ _ w4 (s2.trans st3) R3 (r2.mono R2 st3)]
theorem lookup_none:∀{fs:List (String×U)}{vs:List (Str×V)}{m:String},vs.map (·.1)=(fs.map (·.1)).map nm->fs.lookup m=none->vs.lookup (nm m)=none
 |[],[],_,_,_=>rfl
 |[],_::_,_,e,_=>by simp at e
 |_::_,[],_,e,_=>by simp at e
 | (g,w)::fs,(a,v)::vs,m,e,h=>by
  dsimp[ay,dG] at e;rw[aN] at h ⊢;by_cases z:m=g
  .subst z;simp at h
  .have z1:(m==g)=false:=by simp[z]
   rw[z1] at h;have z2:(nm m==a)=false:=by
    rw[e.1]
    dsimp[beq_eq_false_iff_ne,ne_eq];erw[λq=>z (vm _ _ q)]
   rw[z2]
   erw[lookup_none e.2 h]
theorem Mc{m q:String}{o e:Expr}{es:List Expr}{x:PL.Ex}{xs:PL.tw}{apos pos:Pos}(G:Good t T Γ k I X)(hc:I.calm=true)(hq:(m,q)∈T.qk)(h0:fO o=true)(hl:(apos.endLine==pos.line)=true)(hn:(e::es).length<20)(h1:noStar e=true)(h2:es.all noStar=true)
  (ho:dU X o (tE (X.cc t) Γ x)) (ha:Ct X (e::es) (Gi (X.cc t) Γ xs)):dU X (.Call (.Attribute o (nm m) apos) (e::es) [] pos) (tE (X.cc t) Γ (.cK q m (q++"."++m) x xs)):=by
 let#[C,f,hC,M,fd,ps,F,B]:=G.L4.RH (m,q) hq;refine(Yk (k:=k) ho (G.tab.cls q C hC).1 M F ((G.calm hc).2.mono (kr k)) B ha h0 hn hl h1 h2).imp ?_;rintro E σ H Q ⟨env,ρ,S,QU,EU,he,R,w,qq,qx⟩;z_go;let#[l,e1,w2]:=PL.ja.mp w1;subst e1;let#[c',fs,e2,#[rfl,e3],w3]:=PL.mf.mp w2;let#[a,C',dx,vs,ev,_,hC',ha',hnn,_]:=R1.ins e2 r1;rw[hC] at hC';injection hC' with hC';subst hC'
 refine#[a,dx,vs,ev,ha',lookup_none hnn e3,?_];refine#[env,ρ1,S1,_,EU,he.later R st1,R1,w3,λus S2 vs2 H2 ρ2 w4 st2 R2 r2=>?_,qx.later st1];exact#[_,ρ2,S2,QU,EU,aV.cons (r1.mono R1 st2) r2,R2,w4,qq.later (st1.trans st2),qx.later (st1.trans st2)]
theorem Iy{m q:String}{o:Expr}{x:PL.Ex}{apos pos:Pos}(G:Good t T Γ k I X)(hc:I.calm=true)(hq:(m,q)∈T.qk)(h0:fO o=true)(hl:(apos.endLine==pos.line)=true)
  (ho:dU X o (tE (X.cc t) Γ x)):dU X (.Call (.Attribute o (nm m) apos) [] [] pos) (tE (X.cc t) Γ (.cK q m (q++"."++m) x .nil)):=by
 let#[C,f,hC,M,fd,ps,F,B]:=G.L4.RH (m,q) hq;refine(T1 (k:=k) ho (G.tab.cls q C hC).1 M F ((G.calm hc).2.mono (kr k)) B h0 hl).imp ?_;rintro E σ H Q ⟨env,ρ,S,QU,EU,he,R,w,qq,qx⟩;z_go;let#[l,e1,w2]:=PL.ja.mp w1;subst e1;let#[c',fs,e2,#[rfl,e3],w3]:=PL.mf.mp w2;let#[a,C',dx,vs,ev,_,hC',ha',hnn,_]:=R1.ins e2 r1;rw[hC] at hC';injection hC' with hC';subst hC'
 refine#[a,dx,vs,ev,ha',lookup_none hnn e3,?_];exact#[_,ρ1,S1,QU,EU,aV.cons r1 aV.nil,R1,w3,qq.later st1,qx.later st1]
end
end L2
end
section
set_option autoImplicit false
namespace L2
open PySem PySem.Spec PyProof.Rows PySem.W
open PL (U SO bj Xn KU KX bT)
theorem P1{X:Cx}{tg l:Expr}{tl:TE}(hl:PE X l tl):PI X tg l (λσ H R=>tl σ H λx H1=>(∃a,x=.ref a/\(∃xs,iT X.K H1 a xs)/\R (WC X.K a) H1)\/(∃a,x=.ref a/\(∃xs,lY X.K H1 a xs)/\R (WD X.K a) H1)\/∃z,x=.str z/\R (Td z) H1):=by
 intro pZ s σ H R I h;rwa[eO (hl pZ s σ H _ I h) λv s1 h9=>?_]
 let#[x,H1,I1,r1,q1]:=h9;rcases q1 with⟨a,e,⟨xs,hq⟩,q⟩|⟨a,e,⟨xs,hq⟩,q⟩|⟨z,e,q⟩
 .subst e
  cases r1;let#[its,rv,p,hz]:=I1.list hq;rwa[kc p.isList ?_];refine#[s1.heap.objs.size,[s1.heap.objs.size],_,_,H1,rfl,I1.kept (t':=s1.toks) λb o e=>aE _ e,EN a _,#[_,aY _ rfl,rfl,rfl],λb hb=>?_,q];have e:b=s1.heap.objs.size:=by simpa using hb
  subst e;erw[I1.BJ (ar _) (I1.du.fresh (ar _))]
 .subst e
  cases r1;let#[its,rv,p,hz]:=I1.tuple hq;rwa[wpAny_pyIter_tuple (show s1.heap.IsTuple a its.toArray from p) ?_];refine#[s1.heap.objs.size,[s1.heap.objs.size],_,_,H1,rfl,I1.kept (t':=s1.toks) λb o e=>aE _ e,BK a _,#[_,aY _ rfl,rfl,rfl],λb hb=>?_,q];have e:b=s1.heap.objs.size:=by simpa using hb
  subst e;erw[I1.BJ (ar _) (I1.du.fresh (ar _))]
 .subst e
  let#[t,rfl]:=r1;have fin:∀(b:Bool)(o:Obj),o={cls:=.type (if b then "str_ascii_iterator" else "str_iterator"),data:=.fields (List.toArray [.str z t,.int 0 0])}->WB X pZ σ tg R (.ref s1.heap.objs.size) {s1 with heap:=s1.heap.push o}:=λb o eo=>by
   refine#[s1.heap.objs.size,[s1.heap.objs.size],_,Td z,H1,rfl,I1.kept (t':=s1.toks) λb o e=>aE _ e,Hw _ z t b,#[_,aY _ (by rw[eo];rfl),by rw[eo],by rw[eo];rfl],λc hc=>?_,q];have e:c=s1.heap.objs.size:=by simpa using hc
   subst e;erw[I1.BJ (ar _) (I1.du.fresh (ar _))]
  cases ha:z.cps.all (·<128)
  .erw[wpAny_pyIter_wide ha (fin false _ rfl)]
  .erw[wpAny_pyIter_ascii ha (fin true _ rfl)]
section
variable{c:Ctx}{ρ:List Addr}{H:Hp}{S:bj}
theorem Md{n:Nat}{us:List U}{a:Addr}(ha:ρ[n]?=some a):CB c ρ H (WC c.K a) us (λS'=>S'[n]?=some (.lst us)):=by
 intro i ρ2 H2 S2 st R g;let#[vs,h1,h2]:=R.at_ n a _ (st.get ha) g;refine#[λu hu=>?_,λhl=>#[vs,iT.of h1,by rw[<-h2.len];erw[hl]]];let#[v,e,r]:=h2.get hu;refine#[#[vs,v,iT.of h1,e],λy H3 h9=>?_];let#[e3,hy]:=h9;subst e3;have:=hy vs (iT.of h1);rw[e] at this;injection this with this;subst this
 exact#[.refl,R,r]
theorem P2{us:List U}{vs:List V}{a:Addr}(R0:cv c ρ H S)(h1:H a=some (.tup vs))(h2:aV c ρ H us vs):CB c ρ H (WD c.K a) us (λ_=>True):=by
 intro i ρ2 H2 S2 st R g;have h1':=st.fr a _ h1 (R0.not h1 rfl);have h2':=h2.mono R0 st;refine#[λu hu=>?_,λhl=>#[vs,lY.of h1',by rw[<-h2'.len];erw[hl]]];let#[v,e,r]:=h2'.get hu;refine#[#[vs,v,lY.of h1',e],λy H3 h9=>?_];let#[e3,hy]:=h9;subst e3;have:=hy vs (lY.of h1');rw[e] at this;injection this with this;subst this
 exact#[.refl,R,r]
theorem P4{l:List Nat}:CB c ρ H (Td (tx l)) (l.map λd=>.str [d]) (λ_=>True):=by
 intro i ρ2 H2 S2 st R g;refine#[λu hu=>?_,λhl=>?_]
 .rw[aC] at hu
  let#[d,e,e2]:=au.mp hu;subst e2;refine#[?_,λy H3 #[e3,d',e4,e5]=>?_]
  .show i<(tx l).cps.size
   have:=(ae.mp e).1;simpa using this
  .subst e3
   have:l[i]?=some d':=by simpa using e4
   rw[e] at this;injection this with this;subst this
   rw[e5]
   exact#[.refl,R,bx.mpr rfl]
 .show(tx l).cps.size<=i
  simpa using hl
theorem Me{n:Nat}{us:List U}{a:Addr}(ha:ρ[n]?=some a):CB c ρ H (VZ c.K a) (us.mapIdx λi u=>.tup [.int (i:Nat),u]) (λS'=>S'[n]?=some (.lst us)):=by
 intro i ρ2 H2 S2 st R g;let#[vs,h1,h2]:=R.at_ n a _ (st.get ha) g;refine#[λu hu=>?_,λhl=>#[vs,iT.of h1,by rw[<-h2.len];simpa using hl]];rw[fm] at hu;let#[u',e0,e1]:=au.mp hu;subst e1;let#[v,e,r]:=h2.get e0;refine#[#[vs,v,iT.of h1,e],λy H3 h9=>?_];let#[p,x,hp,e3,e4,hy]:=h9;have:=hy vs (iT.of h1);rw[e] at this;injection this with this;subst this
 subst e3 e4;have st':=gY.lay R hp (.tup [.int (i:Nat),v]);exact#[st',R.lay hp _,dI.mpr #[p,_,rfl,cb,aV.cons (aQ.mpr rfl) (aV.cons (r.mono R st') aV.nil)]]
theorem DP{n:Nat}{a:Addr}{o:Obj}{kvs:List (U×U)}{vs:List (Key×V)}(ha:ρ[n]?=some a)(h:H a=some (.rV o (.dK vs))):CB c ρ H (Ry a o vs) (kvs.map (·.1)) (λS'=>S'[n]?=some (.uY kvs)):=by
 intro i ρ2 H2 S2 st R g;have e:=st.fz a o vs h;let#[o',vs',h1,h2,h3,_]:=R.at_ n a _ (st.get ha) g;rw[e] at h1;cases h1;refine#[λu hu=>?_,λhl=>#[e,by rw[h2];simpa using hl]];have hi:i<vs.length:=by rw[h2];have:=(ae.mp hu).1;simpa using this
 refine#[#[e,hi],λy H3 h9=>?_];let#[e3,k,v,e4,e5]:=h9;subst e3 e5;let#[v2,e6,r]:=h3.get hu;rw[aC,e4] at e6;cases e6;exact#[.refl,R,r]
theorem Iz{n:Nat}:CB c ρ H (VQ 0 n) ((cf n).map λk=>.int (k:Nat)) (λ_=>True):=by
 intro i ρ2 H2 S2 st R g;refine#[λu hu=>?_,λhl=>?_]
 .rw[aC] at hu
  let#[d,e,e2]:=au.mp hu;subst e2;have hi:=(ae.mp e).1;rw[sU] at hi;rw[iG hi] at e;injection e with e;subst e
  refine#[hi,λy H3 h9=>?_];let#[e3,e4]:=h9;subst e3;subst e4;exact#[.refl,R,aQ.mpr (by simp)]
 .show n<=i
  simpa using hl
end
section
variable{t:wb}{T:Tab}{Γ:bT}{k n:Nat}{I:Inf}{X:Cx}
theorem P5{e tg:Expr}{x:PL.Ex}(h:∀pZ E,dU (X.at_ pZ E) e (tE (X.cc t) Γ x))(pZ:List (Addr×Obj))(E:St->XK):PI (X.at_ pZ E) tg e (λσ H R=>yI (X.cc t) Γ (.val x) (E σ) σ H R):=by
 rwa[λpins' s σ H Q J z=>P1 (X:=X.at_ pZ E) (dn (h pZ E)) pins' s σ H Q J ?_]
 let#[env,ρ,S,RU,EU,he,R,w,q,qx]:=z;z_go;cases u with
 |str l=>rw[bx.mp r1];erw[.inr (.inr #[_,rfl,q _ _ _ _ _ _ w1 st1 R1 P4])]
 |tup us=>
  let#[a,vs,e1,h1,h2]:=dI.mp r1;erw[.inr (.inl #[a,e1,#[vs,lY.of h1],q _ _ _ _ _ _ w1.2 st1 R1 (P2 R1 h1 h2)])]
 |loc m=>
  let#[us,e0,w2]:=PL.df.mp (show PL.getL _ _ from w1);let#[a,vs,e1,ha,h1,h2]:=R1.lst e0 r1;erw[.inl #[a,e1,#[vs,iT.of h1],q _ _ _ _ _ _ w2 st1 R1 (Md ha)]]
 |_=>erw[aL w1]
theorem Mf{e tg:Expr}{x:PL.Ex}(h:∀pZ E,dU (X.at_ pZ E) e (tE (X.cc t) Γ x))(pZ:List (Addr×Obj))(E:St->XK):PI (X.at_ pZ E) tg e (λσ H R=>yI (X.cc t) Γ (.keys x) (E σ) σ H R):=by
 rwa[λpins' s σ H Q J z=>Lg (X:=X.at_ pZ E) (dn (h pZ E)) pins' s σ H Q J ?_]
 let#[env,ρ,S,RU,EU,he,R,w,q,qx]:=z;z_go;let#[n,rfl,w1]:=PL.ja.mp (show PL.ua _ _ from w1);let#[kvs,e,w2]:=PL.iV.mp w1;let#[a,ev,ha]:=eG.mp r1;rcases e with e|e
 .let#[vs,g1,g2,g3,g4]:=R1.at_ n a _ ha e
  refine#[a,vs,ev,.inl #[g1,λo=>?_]];have st2:=gY.put (H:=H1) (ao ha) g1 rfl (.rV o (.dK vs));erw[q _ _ _ _ _ _ w2 (st1.trans st2) (R1.put ha g1 rfl #[o,vs,cb,g2,g3.mono R1 st2,g4.mono R1 st2]) (DP ha cb)]
 .let#[o,vs,g1,g2,g3,g4]:=R1.at_ n a _ ha e
  have es:S1.set n (.uY kvs)=S1:=by
   let#[hl,e2]:=ae.mp e;rw[<-e2];erw[List.set_getElem_self hl]
  rw[es] at w2;exact#[a,vs,ev,.inr #[o,g1,q _ _ _ _ _ _ w2 st1 R1 (DP ha g1)]]
theorem IA{a tg:Expr}{x:PL.Ex}{p pos:Pos}(G:Good t T Γ k I X)(hg:I.gl ("range":Str)=true)(hb:"range"∈T.lT)(h1:noStar a=true)(h:∀pZ E,dU (X.at_ pZ E) a (tE (X.cc t) Γ x))(pZ:List (Addr×Obj))(E:St->XK):
  PI (X.at_ pZ E) tg (.Call (.Name ("range":Str) p) [a] [] pos) (λσ H R=>yI (X.cc t) Γ (.range x) (E σ) σ H R):=by
 rwa[λpins' s σ H Q J z=>EO (X:=X.at_ pZ E) (jC G hg) (G.tab.lT "range" hb) (t4 (dn (h pZ E)) yg (dw h1)) (dw h1) pins' s σ H Q J ?_]
 let#[env,ρ,S,RU,EU,he,R,w,q,qx]:=z;z_go;let#[j,e,w2,w3,w4]:=PL.fu.mp w1;subst e;exact#[j,by rw[aQ.mp r1],∅,∅,q _ _ _ _ _ _ w4 st1 R1 Iz]
theorem Ym{n:Nat}{e:Expr}{x:PL.It}{es:List Expr}{ek:Nat}{tp:Pos}(IH:Fv t T Γ k n)(G:Good t T Γ k I X)(h:cN T (n+1) I e=some x)(pZ:List (Addr×Obj))(E:St->XK):PI (X.at_ pZ E) (.Tuple es ek tp) e (λσ H R=>yI (X.cc t) Γ x (E σ) σ H R):=by
 rw[X7] at h;delta stN at h;split at h
 .rename_i f a hr
  let#[p,cp,rfl]:=Nv hr;split at h
  .rename_i hc
   dsimp[aj] at hc;let#[#[#[c1,c2],c3],c4]:=hc;have ef:f=("enumerate":Str):=by simpa using c1
   subst ef;let#[y,h1,h2]:=au.mp h;subst h2;refine λpins' s σ H Q J z=>Lx (X:=X.at_ pZ E) (jC G c2) (G.tab.lT "enumerate" (by simpa using c3)) (t4 (dn (IH.fe G.at_ h1)) yg (dw c4)) (dw c4) pins' s σ H Q J ?_
   let#[env,ρ,S,RU,EU,he,R,w,q,qx]:=z;z_go;let#[m,e,w2]:=PL.ja.mp w1;subst e;let#[us,e0,w3]:=PL.df.mp w2;let#[b,vs,e1,hb,g1,g2]:=R1.lst e0 r1;subst e1;exact#[b,rfl,#[vs,iT.of g1],q _ _ _ _ _ _ w3 st1 R1 (Me hb)]
  .erw[nn h]
 .erw[nn h]
theorem Mg:∀{n:Nat}{I:Inf}{e:Expr}{x:PL.Ex},cE T n I e=some x->noStar e=true:=by
 intro n I e x h;cases n with
 |zero=>erw[nn h]
 |succ n=>
  cases e<;>first|rfl|exact nn h
theorem Ua(IH:Fv t T Γ k n)(G:Good t T Γ k I X){e tg:Expr}{x:PL.It}(h:cI T (n+1) I e=some x)(pZ:List (Addr×Obj))(E:St->XK):PI (X.at_ pZ E) tg e (λσ H R=>yI (X.cc t) Γ x (E σ) σ H R):=by
 have gen:∀{x:PL.It},(cE T n I e).map PL.It.val=some x->PI (X.at_ pZ E) tg e (λσ H R=>yI (X.cc t) Γ x (E σ) σ H R):=λh=>by
  let#[y,h1,h2]:=au.mp h;subst h2;erw[P5 (λpZ E=>IH.fe G.at_ h1) pZ E]
 rw[X5] at h;delta stI at h;split at h
 .rename_i f a hr
  let#[p,cp,rfl]:=Nv hr;split at h
  .rename_i hf
   split at h
   .rename_i hc
    rw[aj] at hc;let#[y,h1,h2]:=au.mp h;subst h2;have ef:f=("range":Str):=by simpa using hf
    subst ef;exact IA G hc.1 (by simpa using hc.2) (Mg h1) (λpZ E=>IH.fe G.at_ h1) pZ E
   .erw[nn h]
  .erw[gen h]
 .split at h
  .let#[y,h1,h2]:=au.mp h
   subst h2;erw[Mf (λpZ E=>IH.fe G.at_ h1) pZ E]
  .erw[gen h]
end
end L2
end
section
set_option autoImplicit false
namespace L2
open PySem PySem.Spec PyProof.Rows PySem.W
open PL (U SO bj Xn KU KX bT)
section
variable{c:Ctx}{ρ ρ2:List Addr}{H H2:Hp}{S:bj}
theorem gY.Ub(a:gY ρ H ρ2 H2){D:Addr}(h:H D=none):gY ρ H (ρ2++[D]) H2:=by
 let#[m,e]:=a.pre;refine#[#[m++[D],by rw[e,bQ]],λb hb nb=>?_,a.fr,a.fz];rcases aI.mp hb with z|z
 .erw[a.new b z nb]
 .rw[bS.mp z];erw[h]
theorem gY.AD(a:gY ρ H ρ2 H2){D:Addr}(h:H D=none)(o:HO):gY ρ H ρ2 (upd H2 D o):=
 #[a.pre,a.new,λb o' h1 h2=>by rw[b8 (dB h1 h)];erw[a.fr b o' h1 h2],λb o' vs h1=>by rw[b8 (dB h1 h)];erw[a.fz b o' vs h1]]
theorem gY.out(a:gY ρ H ρ2 H2){D:Addr}{o:HO}(h:H D=some o)(n:D∉ρ):D∉ρ2/\H2 D=some o:=by
 refine#[λz=>?_,a.fr D o h n];have:=a.new D z n;rw[h] at this;cases this
theorem IB{env:PL.Env}{σ:St}{ci:List Nat}{us:PL.Env}{ys:St}(he:jF c ρ H env σ)(r:jF c ρ H us ys):jF c ρ H (us++PL.mi env ci) (ys++gE σ ci):=by
 have hl:=r.len;refine#[by simp[PL.mi,gE,hl],λi w e=>?_];by_cases lt:i<us.length
 .rw[ag lt] at e
  rw[ag ∅]
  erw[r.at_ i w e]
 .rw[aw ∅] at e
  rw[aw ∅,<-hl]
  generalize i-us.length=i at e ⊢;unfold PL.mi at e;unfold gE;rw[aC] at e ⊢;cases q:ci[i]? with
  |none=>rw[q] at e;cases e
  |some j=>
   rw[q] at e;dsimp[kj,pG] at e ⊢;cases z:env[j]? with
   |none=>rw[z] at e;cases e
   |some o=>
    rw[z] at e;cases o with
    |none=>cases e
    |some w'=>
     simp at e;subst e;let#[v,e1,r1]:=he.at_ j w' z;exact#[v,by rw[e1];rfl,r1]
theorem Uc{u:U}{y:V}(r:Rep c ρ H u y):jF c ρ H [some u] [some y]:=
 #[rfl,λi w e=>by cases i<;>simp at e;subst e;exact#[y,rfl,r]]
theorem Ud{u u':U}{y y':V}(r:Rep c ρ H u y)(r':Rep c ρ H u' y'):jF c ρ H [some u,some u'] [some y,some y']:=
 #[rfl,λi w e=>by
  match i with
  |0=>simp at e;subst e;exact#[y,rfl,r]
  |1=>simp at e;subst e;exact#[y',rfl,r']
  |i+2=>simp at e]
end
section
variable{t:wb}{T:Tab}{Γ:bT}{k n:Nat}{I:Inf}{X:Cx}
theorem Cs.no{e:Expr}{tt:XK->TT}(h:Cs X e tt)(hx:∀e s,X.xe e s↔False):PT X e (λσ H Q=>tt (λ_ _ _=>False) σ H Q):=by
 intro pZ s σ H Q J z;rwa[bZ (h pZ s σ H Q _ J z) (λ_ _ q=>q) λu s' q=>?_]
 let#[a,tb,cl,dx,H',_,_,_,_,w]:=q;erw[aL w]
theorem dU.no{e:Expr}{tt:XK->TE}(h:dU X e tt)(hx:∀e s,X.xe e s↔False):PE X e (λσ H Q=>tt (λ_ _ _=>False) σ H Q):=by
 intro pZ s σ H Q J z;rwa[bZ (h pZ s σ H Q _ J z) (λ_ _ q=>q) λu s' q=>?_]
 let#[a,tb,cl,dx,H',_,_,_,_,w]:=q;erw[aL w]
theorem mem_lookup:∀{l:List (Str×NameKind)}{y:Str}{k:NameKind},l.lookup y=some k->(y,k)∈l
 |[],_,_,h=>nomatch h
 | (a,b)::l,y,k,h=>by
  rw[aN] at h;by_cases e:y=a
  .subst e;simp at h;subst h;erw[aO]
  .have e2:(y==a)=false:=by simp[e]
   rw[e2] at h;erw[aB _ (mem_lookup h)]
theorem vn{sc:fQ}{x:List Str}(G:Good t T Γ k I X)(h:ve I sc x=true):Ak X sc x:=by
 unfold ve at h;dsimp[aj,cz] at h;let#[#[#[#[#[h1,h2],h3],h4],h5],h6]:=h;refine#[by simpa using h1,λy hy e=>?_,λy hy e=>?_,λy hy e=>?_,λy hy=>by simpa using h5 y hy,of_decide_eq_true h6,λy e=>?_]
 .have:=h2 y hy;rw[e] at this;simpa using this
 .have:=h3 y hy;rw[e] at this;simpa using this
 .have:=h4 y hy;rw[e] at this;rw[G.names];simpa using this
 .erw[mem_lookup e]
theorem DQ{sc:fQ}{ci:List Nat}(G:Good t T Γ k I X)(h:(iD I sc).mapM (λy=>d9 y I.N)=some ci):yq X sc (iD I sc) ci:=by
 have key:∀(l:List Str)(ci:List Nat),l.mapM (λy=>d9 y I.N)=some ci->ci.length=l.length/\∀(k:Nat)(y:Str),l[k]?=some y->∃j:Nat,ci[k]?=some j/\I.N[j]?=some y:=by
  intro l;induction l with
  |nil=>intro ci h;simp at h;subst h;exact#[rfl,λk y e=>by simp at e]
  |cons a l ih=>
   intro ci h;dsimp[List.mapM_cons,aK,aA] at h;let#[j,h1,r,h2,h3]:=h;simp at h3;subst h3;let#[q1,q2]:=ih r h2;refine#[by simp[q1],λk y e=>?_];cases k with
   |zero=>simp at e;subst e;exact#[j,rfl,fg h1]
   |succ k=>simp at e ⊢;erw[q2 k y e]
 let#[q1,q2]:=key _ _ h;refine#[q1,λk y e=>?_,λy hy=>?_]
 .rw[G.slots];erw[q2 k y e]
 .unfold iD at hy
  have:=(eU.mp hy).2;simpa using this
theorem rB{sc:fQ}{x:List Str}{C:Addr}{s₀:aq}{H₀:Hp}{ex:List Addr}{ci:List Nat}(G:Good t T Γ k I X)(hc:I.calm=true)(h:ve I sc x=true)(cp:yq X sc (iD I sc) ci)(hn:(iD I sc).Nodup):
  Good t T Γ k #[rf I sc.names,x++iD I sc,true] (X.uT sc C (x++iD I sc) s₀ H₀ ex):=by
 have B:=vn G h;refine#[G.tab,G.L4,B.kind,?_,rfl,sh cp B hn,λ_=>G.calm hc,G.units];show(GD sc X.env).names=_;unfold GD rf;simp only
 congr 1
 funext p
 let#[a,b]:=p;dsimp[G.kind,Env.kindOf,G.names];simp
theorem xq{pr:Bool}{it:PL.It}{tc:PL.Tx}{e:PL.Ex}{ci:List Nat}{E:XK}{σ:St}{H:Hp}{Q:VK}(z:tE (X.cc t) Γ (.comp pr e it tc ci) E σ H Q):
  Ht (Tc X.K pr) (λσ H R=>yI (X.cc t) Γ it E σ H R) ci (λσ H Q=>tT (X.cc t) Γ tc (λ_ _ _=>False) σ H Q) (λσ H Q=>tE (X.cc t) Γ e (λ_ _ _=>False) σ H Q) σ H Q:=by
 let#[env,ρ,S,QU,EU,he0,R,w,q,qx]:=z;refine#[env,ρ,S,_,EU,he0,R,w,λus g S1 H1 ρ1 J w1 st1 R1 io=>?_,qx];intro D hD;have he1:=he0.later R st1;have D0:D∉ρ1:=R1.HW hD
 let F:=PL.nB g (λu S2 k=>PL.pS pr u (PL.mi env ci) λen=>PL.WT Γ tc en S2 k λ_ _=>False)
   (λu S2 k=>PL.pS pr u (PL.mi env ci) λen=>PL.WE Γ e en S2 k λ_ _=>False) (λacc S3=>QU (.loc S3.length) (S3++[.lst acc]))
 refine#[λi m acc H2=>m+i=us.length/\∃ρ2 S2 accU,gY ρ1 H1 ρ2 H2/\cv (X.cc t) ρ2 H2 S2/\D∉ρ2/\H2 D=some (.lst acc)/\aV (X.cc t) ρ2 H2 accU acc/\F (us.drop i) accU S2,#[us.length,rfl,ρ1,S1,[],gY.lay R1 hD _,R1.lay hD _,D0,cb,aV.nil,w1],?_];rintro i m acc H2 ⟨hm,ρ2,S2,accU,st2,R2,D2,hD2,ra,wc⟩;have hlen:acc.length=accU.length:=ra.len.symm;cases hd:us.drop i with
 |nil=>
  rw[hd] at wc;obtain⟨g2,hl,w2⟩:g S2/\accU.length<1000000/\QU (U.loc S2.length) (S2++[SO.lst accU]):=wc;refine#[hD2,by rw[hlen];erw[az hl ⋯],.inl #[((io i ρ2 H2 S2 st2 R2 g2).2 (Dg.mp hd)),?_]];rwa[q _ _ _ _ _ w2 (st1.trans (st2.Ub hD)) (R2.join D2 #[acc,hD2,ra]) (eG.mpr #[D,rfl,?_])];rw[<-R2.len,aw (ar _),bH];rfl
 |cons u rest=>
  rw[hd] at wc;obtain⟨g2,hl,w0⟩:g S2/\accU.length<1000000/\PL.pS pr u (PL.mi env ci) λen=>PL.WT Γ tc en S2 (λb S3=>if b=true then PL.pS pr u (PL.mi env ci) (λen=>PL.WE Γ e en S3 (λv S4=>F rest (accU++[v]) S4) (λ_ _=>False)) else F rest accU S3) (λ_ _=>False):=wc
  have hu:us[i]?=some u:=by
   have:=congrArg (λl=>l[0]?) hd;simpa using this
  have hr:us.drop (i+1)=rest:=by
   have:=congrArg List.tail hd;simpa using this
  have hi:i<us.length:=(ae.mp hu).1;let#[jg,jy]:=(io i ρ2 H2 S2 st2 R2 g2).1 u hu;refine#[hD2,by rw[hlen];exact az hl ⋯,.inr #[jg,λy H3 hy=>?_]];let#[st3,R3,ry]:=jy y H3 hy;let#[_,hD3]:=st3.out hD2 D2;have ra3:=ra.mono R2 st3;obtain⟨us',τ,rτ,w2,kτ⟩:∃(us':PL.Env)(τ:St),jF (X.cc t) ρ2 H3 us' τ/\PL.WT Γ tc (us'++PL.mi env ci) S2 (λb S3=>if b=true then PL.WE Γ e (us'++PL.mi env ci) S3 (λv S4=>F rest (accU++[v]) S4) (λ_ _=>False) else F rest accU S3) (λ_ _=>False)/\∀k:St->Prop,k τ->Tc X.K pr y H3 k:=by
   cases pr with
   |false=>exact#[[some u],[some y],Uc ry,w0,λk z=>z]
   |true=>
    let#[u1,u2,eu,w2]:=PL.Dz.mp w0;subst eu;let#[a,vs,e1,ha,hr2]:=dI.mp ry;let#[v1,v2,ev,r1,r2]:=DN hr2;subst ev;exact#[[some u1,some u2],[some v1,some v2],Ud r1 r2,w2,λk z=>#[a,v1,v2,e1,lY.of ha,z]]
  have he3:=IB (ci:=ci) (he1.later R1 (st2.trans st3)) rτ;rwa[kτ _ #[_,ρ2,S2,_,_,he3,R3,w2,λb S4 H4 ρ4 w4 st4 R4=>?_,λ_ _ _ _ _ _ z=>aL z]];let#[D4,hD4]:=st4.out hD3 D2;have ra4:=ra3.mono R3 st4;cases b with
  |false=>exact#[m-1,∅,∅,ρ4,S4,accU,(st2.trans st3).trans st4,R4,D4,hD4,ra4,by rw[hr];erw[w4]]
  |true=>
   refine#[_,ρ4,S4,_,_,he3.later R3 st4,R4,w4,λv S5 z H5 ρ5 w5 st5 R5 r5=>?_,λ_ _ _ _ _ _ z=>aL z];let#[D5,hD5]:=st5.out hD4 D4;have ra5:=(ra4.mono R4 st5).app (aV.cons r5 aV.nil);refine#[hD5,m-1,∅,∅,ρ5,S5,accU++[v],(((st2.trans st3).trans st4).trans st5).AD hD _,R5.AD _ hD5 rfl D5,D5,cb,ra5.iu #[[],by simp] (yG hD5 rfl),by rw[hr];erw[w5]]
theorem IC{tg:Expr}{x cn:List Str}{sc:fQ}{ci:List Nat}(ht:LI tg=some x)(B:Ak X sc x)(cp:yq X sc cn ci)(hn:cn.Nodup)(hc:X.calm=true):Rz X tg sc x cn (Tc X.K (x.length==2)):=by
 rcases Cq ht with⟨_,_,rfl,rfl⟩|⟨_,_,_,_,_,_,rfl,rfl⟩
 .erw[Hu B cp hn]
 .erw[Hv B cp hn hc]
theorem Mh{elt iter tg:Expr}{ifs:List Expr}{x:List Str}{pos:Pos}{sc:fQ}{it:PL.It}{tc:PL.Tx}{e:PL.Ex}{ci:List Nat}(G:Good t T Γ k I X)(hc:I.calm=true)(ht:LI tg=some x)(hb:ve I sc x=true)(hci:(iD I sc).mapM (λy=>d9 y I.N)=some ci)
  (hs:∀env v,foldedSetIterable iter env v=pure v) (hi:∀pZ E,PI (X.at_ pZ E) tg iter (λσ H R=>yI (X.cc t) Γ it (E σ) σ H R))
  (hif:∀(X':Cx),Good t T Γ k #[rf I sc.names,x++iD I sc,true] X'->X'.cc t=X.cc t->(∀e s,X'.xe e s↔False)->Li X' ifs (λσ H Q=>tT (X.cc t) Γ tc (λ_ _ _=>False) σ H Q))
  (he:∀(X':Cx),Good t T Γ k #[rf I sc.names,x++iD I sc,true] X'->X'.cc t=X.cc t->dU X' elt (tE (X.cc t) Γ e)):
  dU X (.ListComp elt [#[tg,iter,ifs,0]] sc pos) (tE (X.cc t) Γ (.comp (x.length==2) e it tc ci)):=by
 have hn:(iD I sc).Nodup:=by
  unfold iD;have:=G.nd;rw[G.slots] at this;erw[this.filter _]
 rwa[up λpZ E=>?_]
 have cp:=DQ (X:=X.at_ pZ E) G.at_ hci;refine(Lm (X:=X.at_ pZ E) (wi:=λσ H R=>yI (X.cc t) Γ it (E σ) σ H R) (tc:=λσ H Q=>tT (X.cc t) Γ tc (λ_ _ _=>False) σ H Q) (te:=λσ H Q=>tE (X.cc t) Γ e (λ_ _ _=>False) σ H Q)
  (vn G.at_ hb) cp hn (G.calm hc).1 (IC ht (vn G.at_ hb) cp hn (G.calm hc).1) (hi pZ E) (λC s₀ H₀ ex=>hif _ (rB G.at_ hc hb cp hn) rfl λ_ _=>km) (λC s₀ H₀ ex=>(he _ (rB G.at_ hc hb cp hn) rfl).no λ_ _=>km) (hs _)).imp λσ H Q z=>xq z
theorem Mi{a b:Expr}{x y:PL.Ex}{pos:Pos}(ha:∀pZ E,dU (X.at_ pZ E) a (tE (X.cc t) Γ x))(hb:∀pZ E,dU (X.at_ pZ E) b (tE (X.cc t) Γ y)):dU X (.Dict [some a] [b] pos) (tE (X.cc t) Γ (.eL #v[x] #v[y])):=by
 rwa[up λpZ E=>(Le (X:=X.at_ pZ E) (Hm (dn (ha pZ E)) (dn (hb pZ E)) Ld) rfl rfl (by simp) (show 1<=15 by decide)).imp ?_]
 kd_p;intro p hp;have st0:=gY.lay R hp (.dK []);have R0:=R.lay hp (.dK []);refine#[env,ρ,S,_,EU,he.later R st0,R0,w,λu S1 v H1 ρ1 w1 st1 R1 r1=>?_,qx.later st0];refine#[env,ρ1,S1,_,EU,(he.later R st0).later R0 st1,R1,w1,λu2 S2 v2 H2 ρ2 w2 st2 R2 r2=>?_,(qx.later st0).later st1];obtain⟨_,hk,w',e,w3⟩:([u]:List U).length<=100/\PL.mP u=true/\∃v,[u2]=[v]/\QU (.loc S2.length) (S2++[SO.eL [(u,v)]]):=w2;cases e;let#[p2,hp2]:=(st1.trans st2).out cb (R.HW hp);have im:=yG (ho:=.dK [(vi u,v2)]) hp2 rfl;have k1:=(r1.mono R1 st2).iu (ρ':=ρ2) #[[],by simp] im;have k2:=r2.iu (ρ':=ρ2) #[[],by simp] im;refine#[hp2,[(vi u,v2)],by rw[j6 hk r1];rfl,show 1<=15 by decide,?_];show Q (.ref p) (upd H2 p (.dK [(vi u,v2)]));rwa[q _ _ _ _ _ w3 ((((st0.trans st1).trans st2).AD hp _).Ub hp) ((R2.AD _ hp2 rfl p2).join p2 #[_,cb,rfl,aV.cons (show Rep (X.cc t) ρ2 _ u (kV (vi u)) by rw[<-j6 hk r1];erw[k1]) aV.nil,aV.cons k2 aV.nil]) (eG.mpr #[p,rfl,?_])];rw[<-R2.len,aw (ar _),bH];rfl
end
end L2
end
section
set_option autoImplicit false
namespace L2
open PySem PySem.Spec PyProof.Rows PySem.W
open PL (U SO bj Xn KU KX bT)
section
variable{t:wb}{T:Tab}{Γ:bT}{k n:Nat}{I:Inf}{X:Cx}
theorem P6{e:Expr}{x:PL.Ex}(h:∀pZ E,dU (X.at_ pZ E) e (tE (X.cc t) Γ x))(he:∀env whole,isTrue e env whole=(do let v <-whole;standAt e.pos;holding [v] (truthy v))):Cs X e (tT (X.cc t) Γ (.de x)):=by
 rwa[Wb λpZ E=>(G7 (X:=X.at_ pZ E) (dn (h pZ E)) (he _)).imp ?_]
 kd_p;z_go;let#[b,e1,w2]:=PL.i9.mp w1;exact#[b,L3 (X:=X) rfl R1 r1 e1,q _ _ _ _ w2 st1 R1]
theorem Mj{e:Expr}{x:PL.Tx}{pos:Pos}(h:∀pZ E,Cs (X.at_ pZ E) e (tT (X.cc t) Γ x)):Cs X (.UnaryOp .Not e pos) (tT (X.cc t) Γ (.not x)):=by
 rwa[Wb λpZ E=>(N2 (X:=X.at_ pZ E) (RG (h pZ E))).imp ?_]
 kd_p;exact#[env,ρ,S,_,EU,he,R,w,λb S1 H1 ρ1 w1 st1 R1=>q _ _ _ _ w1 st1 R1,qx]
theorem PW.imp{e:Expr}{t t':TT}(h:PW X e t)(q:∀σ H Q,t' σ H Q->t σ H Q):PW X e t':=λwhole pZ s σ H Q I z=>h whole pZ s σ H Q I (q σ H Q z)
theorem P7(IH:Fv t T Γ k n)(G:Good t T Γ k I X){op:BoolOp}{pos:Pos}:∀{vs:List Expr}{x:PL.Tx},Wa T (n+1) I op vs=some x->∀pZ E,PW (X.at_ pZ E) (.BoolOp op vs pos) (λσ H Q=>tT (X.cc t) Γ x (E σ) σ H Q)
 |[],x,h,_,_=>by rw[HV,HR] at h;cases h
 |[a],x,h,pZ,E=>by
  rw[HV,HR] at h;cases op with
  |And=>erw[KA (RG (IH.ft G.at_ h))]
  |Or=>erw[N0 (RG (IH.ft G.at_ h))]
 |a::b::r,y,h,pZ,E=>by
  rw[HV,HR] at h;dsimp[aK,aA] at h;let#[x,h1,z,h2,h3]:=h;injection h3 with h3;subst h3
  cases op with
  |And=>
   refine(N1 (X:=X.at_ pZ E) (RG (IH.ft G.at_ h1)) (IH.Yi G h2 pZ E)).imp ?_;kd_p;refine#[env,ρ,S,_,EU,he,R,w,λb S1 H1 ρ1 w1 st1 R1=>?_,qx];cases b with
   |true=>exact#[env,ρ1,S1,QU,EU,he.later R st1,R1,w1,q.later st1,qx.later st1]
   |false=>erw[q _ _ _ _ w1 st1 R1]
  |Or=>
   refine(RW (X:=X.at_ pZ E) (RG (IH.ft G.at_ h1)) (IH.Yi G h2 pZ E)).imp ?_;kd_p;refine#[env,ρ,S,_,EU,he,R,w,λb S1 H1 ρ1 w1 st1 R1=>?_,qx];cases b with
   |true=>erw[q _ _ _ _ w1 st1 R1]
   |false=>exact#[env,ρ1,S1,QU,EU,he.later R st1,R1,w1,q.later st1,qx.later st1]
theorem AI{op:zt}{b:Expr}{I:Inf}{x:PL.Ex}{n:Nat}(h:cE T n I b=some x):behindInMarks op b=false:=by
 cases b<;>first|rfl|skip
 cases n with
 |zero=>erw[nn h]
 |succ n=>erw[nn h]
theorem DS{e:Expr}{I:Inf}{x:PL.It}{n:Nat}(h:cI T n I e=some x):∀env v,foldedSetIterable e env v=pure v:=by
 intro env v;cases e<;>first|rfl|skip
 cases n with
 |zero=>erw[nn h]
 |succ n=>
  change ((rg T n).e I _).map PL.It.val=some x at h
  let#[y,h1,_]:=au.mp h
  change cE T n I _=some y at h1
  cases n with
  |zero=>erw[nn h1]
  |succ n=>erw[nn h1]
theorem Ny{e:Expr}{I:Inf}{x:PL.It}{n:Nat}(h:cN T n I e=some x):∀env v,foldedSetIterable e env v=pure v:=by
 intro env v;cases e<;>first|rfl|skip
 cases n with
 |zero=>erw[nn h]
 |succ n=>erw[nn h]
theorem ID(IH:Fv t T Γ k n)(G:Good t T Γ k I X){e:Expr}{x:PL.Tx}(h:((rg T n).e I e).map .de=some x)(he:∀env whole,isTrue e env whole=(do let v <-whole;standAt e.pos;holding [v] (truthy v))):Cs X e (tT (X.cc t) Γ x):=by
 let#[y,h1,h2]:=au.mp h;subst h2;erw[P6 (λpZ E=>IH.fe G.at_ h1) he]
theorem Ue(IH:Fv t T Γ k n)(G:Good t T Γ k I X){e:Expr}{x:PL.Tx}(h:cT T (n+1) I e=some x):Cs X e (tT (X.cc t) Γ x):=by
 rw[X9] at h;cases e with
 |UnaryOp op a pos=>
  cases op with
  |Not=>
   let#[y,h1,h2]:=au.mp h;subst h2;erw[Mj λpZ E=>IH.ft G.at_ h1]
  |_=>erw[ID IH G h λ_ _=>rfl]
 |BoolOp op vs pos=>erw[Wb λpZ E=>(IH.Yi G h pZ E).pt]
 |IfExp=>erw[nn h]
 |Compare a ops bs pos=>
  cases ops with
  |nil=>erw[nn h]
  |cons op ops=>cases ops with
   |cons=>erw[nn h]
   |nil=>cases bs with
    |nil=>erw[nn h]
    |cons b bs=>cases bs with
     |cons=>erw[nn h]
     |nil=>
      let#[o,h1,hb]:=aA.mp h;let#[a,h2,hc]:=aA.mp hb;let#[b,h3,h4]:=aA.mp hc;injection h4 with h4;subst h4
      erw[L6 G h1 (AI h3) (λpZ E=>IH.fe G.at_ h2) (λpZ E=>IH.fe G.at_ h3)]
 |_=>erw[ID IH G h λ_ _=>rfl]
end
end L2
end
section
set_option autoImplicit false
namespace L2
open PySem PySem.Spec PyProof.Rows PySem.W
open PL (U SO bj Xn KU KX bT)
section
variable{t:wb}{T:Tab}{Γ:bT}{k n:Nat}{I:Inf}{X:Cx}
theorem yJ{T:Tab}{I:Inf}{y:PL.tw}:∀{n:Nat},(rg T n).es I []=some y->y=.nil
 |0,h=>by cases h
 |_+1,h=>(aH h).symm
theorem jG{x y:Str}(h:(x !=y)=true):(x==y)=false:=by simpa using h
theorem AJ(IH:Fv t T Γ k n)(G:Good t T Γ k I X){tg iter:Expr}{xs:List Str}{it:PL.It}(ht:LI tg=some xs)(h:(∃y,xs=[y])/\cI T n I iter=some it\/(¬ ∃y,xs=[y])/\cN T n I iter=some it):
  (∀env v,foldedSetIterable iter env v=pure v)/\∀pZ E,PI (X.at_ pZ E) tg iter (λσ H R=>yI (X.cc t) Γ it (E σ) σ H R):=by
 rcases Cq ht with⟨x,p,rfl,rfl⟩|⟨x,y,p,p',kd,q,rfl,rfl⟩<;>rcases h with⟨z,h1⟩|⟨z,h1⟩
 .exact#[DS h1,IH.fi G h1]
 .erw[absurd #[_,rfl] z]
 .let#[y,e]:=z;simp at e
 .exact#[Ny h1,IH.fn G h1]
theorem DT(IH:Fv t T Γ k n){J:Inf}{X':Cx}(G':Good t T Γ k J X')(ec:X'.cc t=X.cc t)(hx:∀e s,X'.xe e s↔False){ifs:List Expr}{c:PL.Tx}(h:Ya T n J ifs=some c):Li X' ifs (λσ H Q=>tT (X.cc t) Γ c (λ_ _ _=>False) σ H Q):=by
 unfold Ya at h;split at h
 .injection h with h;subst h
  intro pZ s σ H Q J z;refine Lj (X:=X') pZ s σ H Q J ?_;let#[env,ρ,S,QU,EU,he,R,w,q,qx]:=z;have w2:QU true S:=by
   have:PL.opt (PL.u7 S (.bl true)) (λb=>QU b S):=w;erw[this]
  erw[q true S H ρ w2 .refl R]
 .have:=(IH.ft G' h).no hx
  rw[ec] at this;erw[Lk this]
 .erw[nn h]
theorem Ml{args:List Expr}{o:Expr}(h:(match args with|[a]=>Pg a|_=>none)=some o):∃ap cp,(ap.endLine==cp.line)=true/\args=[.Call (.Attribute o ("values":Str) ap) [] [] cp]:=by
 split at h
 .rename_i a
  unfold Pg at h;split at h
  .split at h
   .rename_i o' m ap cp hc
    rw[aj] at hc;have e:=eq_of_beq hc.1;subst e;injection h with h;subst h
    exact#[ap,cp,hc.2,rfl]
   .erw[nn h]
  .erw[nn h]
 .erw[nn h]
theorem Ug(IH:Fv t T Γ k n)(G:Good t T Γ k I X){e:Expr}{x:PL.Ex}(h:cE T (n+1) I e=some x):dU X e (tE (X.cc t) Γ x):=by
 have ge:∀{e:Expr}{y:PL.Ex},cE T n I e=some y->∀pZ E,dU (X.at_ pZ E) e (tE (X.cc t) Γ y):=λh pZ E=>IH.fe G.at_ h
 have gA:∀{es:List Expr}{y:PL.tw},RF T n I es=some y->∀pZ E,Ct (X.at_ pZ E) es (Gi (X.cc t) Γ y):=λh pZ E=>IH.TX G.at_ h
 have h0:=h;rw[LJ] at h;cases e with(delta RE at h;try dsimp only at h)
 |Name x' pos=>
  split at h
  .rename_i i hi
   split at h
   .rename_i hc
    dsimp[aj] at hc;injection h with h;subst h
    erw[L5 G hi hc.1.1 (jG hc.1.2) (jG hc.2)]
   .erw[nn h]
  .split at h
   .rename_i hc
    rw[aj] at hc;let#[p,h1,h2]:=au.mp h;subst h2;erw[Iq G hc.1 h1 (jG hc.2)]
   .erw[nn h]
 |Constant c kd pos=>
  let#[u,h1,h2]:=au.mp h;subst h2;cases c with
  |none=>cases h1;erw[rA (v:=.bV) (λpZ E=>NY) λ_ _=>eR.mpr rfl]
  |bool b=>cases h1;erw[rA (v:=.bl _) (λpZ E=>RV) λ_ _=>fc.mpr rfl]
  |int i=>cases h1;erw[rA (v:=.int _) (λpZ E=>NX) λ_ _=>aQ.mpr rfl]
  |str x=>cases h1;erw[rA (v:=.str _) (λpZ E=>NZ) λ_ _=>bx.mpr (by rw[<-Te])]
  |_=>erw[nn h1]
 |BinOp a op b pos=>
  dsimp[aK,aA] at h;let#[o,h1,a,h2,b,h3,h4]:=h;injection h4 with h4;subst h4
  erw[PD G h1 (ge h2) (ge h3)]
 |UnaryOp op a pos=>
  cases op with
  |Not=>let#[y,h1,h2]:=au.mp h;subst h2;erw[PK (ge h1)]
  |USub=>let#[y,h1,h2]:=au.mp h;subst h2;erw[PJ (ge h1)]
  |_=>erw[nn h]
 |BoolOp op vs pos=>erw[IH.Yh G h]
 |Compare a ops bs pos=>
  split at h
  .split at h
   .dsimp[aK,aA] at h
    let#[o,h1,a,h2,b,h3,h4]:=h;injection h4 with h4;subst h4
    erw[PF G h1 (AI h3) (ge h2) (ge h3)]
   .erw[nn h]
  .erw[nn h]
 |IfExp c a b pos=>
  dsimp[aK,aA] at h;let#[o,h1,a,h2,b,h3,h4]:=h;injection h4 with h4;subst h4
  erw[T4 (λpZ E=>IH.ft G.at_ h1) (ge h2) (ge h3)]
 |Call fn args kws cp=>
  cases fn with
  |Name f p=>
   cases kws with
   |nil=>
    dsimp only at h;split at h
    .rename_i hc
     rw[aj] at hc;let#[hg,hd]:=hc;split at h
     .rename_i b hb
      split at h
      .rename_i o' ho'
       split at h
       .rename_i hc
        dsimp[aj] at hc;let#[#[#[hf,hm],hcm],h0']:=hc;have hf:=eq_of_beq hf;subst hf;let#[y,h1,h2]:=au.mp h;subst h2;let#[ap,c2,hl,rfl]:=Ml ho';exact Ma G hg (by simpa using hm) (G.calm hcm).1 h0' hl (ge h1)
       .erw[nn h]
      .split at h
       .rename_i hs
        dsimp[aj,wo] at hs;let#[#[#[s,hp],hs],hcm]:=hs;let#[y,h1,h2]:=au.mp h;subst h2;cases args with
        |nil=>simp at hs
        |cons a as=>
         have st:=m8 h1;rw[bK,aj] at st;erw[PV G hg hb hp (G.calm hcm).1 (G.calm hcm).2.hd st.1 st.2 (gA h1)]
       .erw[nn h]
     .split at h
      .erw[nn h]
      .rename_i hcm
       have hcm:I.calm=true:=by simpa using hcm
       split at h
       .rename_i q hq
        let#[hm,rfl]:=mm hq;let#[y,h1,h2]:=au.mp h;subst h2;cases args with
        |nil=>
         cases yJ h1;erw[Iw G hg hcm hm (jG hd)]
        |cons a as=>
         have st:=m8 h1;rw[bK,aj] at st;erw[Mb G hg hcm hm (jG hd) st.1 st.2 (IH.TX G h1)]
       .split at h
        .rename_i q hq
         let#[hm,rfl]:=mm hq;let#[y,h1,h2]:=au.mp h;subst h2;cases args with
         |nil=>
          cases yJ h1;erw[P0 G hg hcm hm (jG hd)]
         |cons a as=>
          have st:=m8 h1;rw[bK,aj] at st;erw[T9 G hg hcm hm (jG hd) st.1 st.2 (IH.TX G h1)]
        .erw[nn h]
    .erw[nn h]
   |cons kw ks=>
    dsimp only at h;split at h
    .split at h
     .rename_i hc
      dsimp[aj] at hc;let#[#[#[#[#[#[#[q0,q1],q2],q4],q6],q7],q8],q9]:=hc;have q1:=eq_of_beq q1;subst q1;have q0:ks=[]:=by simpa using q0
      subst q0;let#[y,h1,h2]:=au.mp h;subst h2;let#[ka,kv,kp]:=kw;unfold HN at q2;rw[aj] at q2;have e1:=eq_of_beq q2.1;subst e1;have q3:=q2.2;cases kv with
      |Name l lp=>
       have q3:(l==("len":Str)&&I.gl l)=true:=q3;rw[aj] at q3;have e2:=eq_of_beq q3.1;subst e2;exact Fw G q4 q3.2 (by simpa using q6) (by simpa using q7) (G.calm q8).1 q9 (ge h1)
      |_=>cases q3
     .erw[nn h]
    .erw[nn h]
  |Attribute o m ap=>
   dsimp only at h;split at h
   .erw[nn h]
   .rename_i hc
    dsimp[gB,GF,aj] at hc;let#[#[#[#[hk,hc0],hl],hn],hcm]:=hc;have hk:kws=[]:=by simpa using hk
    subst hk;have hn:=of_decide_eq_true hn;split at h
    .rename_i q kk hq
     let#[hm,hq2]:=xm hq;dsimp only at hq2;subst hq2;dsimp[aK,aA] at h;let#[y,h1,as,h2,h3]:=h;injection h3 with h3;subst h3
     cases args with
     |nil=>
      cases yJ h2;erw[Iy G hcm hm hc0 hl (IH.fe G h1)]
     |cons a as'=>
      have st:=m8 h2;rw[bK,aj] at st;erw[Mc G hcm hm hc0 hl hn st.1 st.2 (IH.fe G h1) (IH.TX G h2)]
    .split at h
     .split at h
      .rename_i em
       let#[y,h1,h2]:=au.mp h;subst h2;have em:=eq_of_beq em;subst em;erw[L7 G hc0 hl (ge h1)]
      .erw[nn h]
     .rename_i a as
      split at h
      .rename_i em
       have em:=eq_of_beq em;subst em;split at h
       .rename_i d
        split at h
        .rename_i st
         rw[aj] at st;dsimp[aK,aA] at h;let#[y,h1,z,h2,w,h3,h4]:=h;injection h4 with h4;subst h4
         erw[PY G hc0 hl st.1 st.2 (ge h1) (ge h2) (ge h3)]
        .erw[nn h]
       .split at h
        .rename_i st
         dsimp[aK,aA] at h;let#[y,h1,z,h2,h4]:=h;injection h4 with h4;subst h4
         erw[L8 G hc0 hl st (ge h1) (ge h2)]
        .erw[nn h]
       .erw[nn h]
      .split at h
       .rename_i b hb
        dsimp[aK,aA] at h;let#[y,h1,as',h2,h3]:=h;injection h3 with h3;subst h3
        have st:=m8 h2;rw[bK,aj] at st;erw[PX G hb (G.calm hcm).2.hd hc0 hl hn st.1 st.2 (ge h1) (gA h2)]
       .erw[nn h]
  |_=>erw[nn h]
 |Attribute o f pos=>
  split at h
  .erw[nn h]
  .rename_i hc0
   dsimp[aK,aA] at h;let#[q,h1,y,h2,h3]:=h;injection h3 with h3;subst h3
   let#[hm,rfl]:=mm h1;exact PU G hm (by simpa using hc0) (ge h2)
 |Subscript o i pos=>
  split at h
  .rename_i hs
   dsimp[aK,aA] at h;let#[y,h1,a,h2,h3]:=h;injection h3 with h3;subst h3
   split
   .erw[PZ G hs (ge h1) (ge h2)]
   .erw[T5 hs (ge h1) (ge h2)]
  .split at h
   .split at h
    .dsimp[aK,aA] at h
     let#[y,h1,a,h2,b,h3,h4]:=h;injection h4 with h4;subst h4
     erw[T7 (ge h1) (IH.fo G h2) (IH.fo G h3)]
    .erw[nn h]
   .erw[nn h]
 |Dict ks vs pos=>
  split at h
  .split at h
   .injection h with h;subst h;erw[L9]
   .erw[nn h]
  .split at h
   .dsimp[aK,aA] at h
    let#[y,h1,z,h2,h4]:=h;injection h4 with h4;subst h4
    erw[Mi (ge h1) (ge h2)]
   .erw[nn h]
  .erw[nn h]
 |List es pos=>
  let#[y,h1,h2]:=au.mp h;subst h2;erw[PQ (gA h1)]
 |Tuple es kd pos=>
  let#[y,h1,h2]:=au.mp h;subst h2;erw[PN (gA h1)]
 |ListComp elt gs sc pos=>
  let#[tg,iter,ifs,xs,it,c,ee,ci,rfl,ht,hc,h1,h2,h3,h4,h5]:=vf h0;subst h5;have hi:=AJ IH G ht h1;rwa[Mh G hc.2 ht hc.1 h4 hi.1 hi.2 (λX' G' ec hx=>?_) (λX' G' ec=>?_)]
  .erw[DT IH G' ec hx h2]
  .have:=IH.fe G' h3
   rw[ec] at this;erw[this]
 |_=>erw[nn h]
theorem IE:Fv t T Γ k 0:=by
 constructor
 .intro I X e x _ h;rw[TM] at h;erw[nn h]
 .intro I X e x _ h;rw[Nw] at h;erw[nn h]
 .intro I X op vs x pos _ h;rw[TN] at h;erw[nn h]
 .intro I X e x _ h;rw[X3] at h;erw[nn h]
 .intro I X e x tg _ h;rw[X4] at h;erw[nn h]
 .intro I X e x es ek tp _ h;rw[X6] at h;erw[nn h]
 .intro I X e x _ h;rw[X8] at h;erw[nn h]
 .intro I X op vs x pos _ h;rw[TR] at h;erw[nn h]
theorem yK:∀n,Fv t T Γ k n
 |0=>IE
 |n+1=>
  have IH:=yK n
  #[λG h=>Ug IH G h,λG h=>PH IH G h,λG h=>PM IH G h,λG h=>T6 IH G h,λG h=>Ua IH G h,λG h=>Ym IH G h,λG h=>Ue IH G h,λG h=>P7 IH G h]
end
end L2
end
section
set_option autoImplicit false
namespace L2
open PySem PySem.Spec PyProof.Rows PySem.W
open PL (U SO bj Xn KU KX bT)
structure P8(X:Cx):Prop where
 GO:X.stack=X.env::X.outer
 ZD:X.env.frame=some X.env.locals
def XN(X:Cx)(pZ:List (Addr×Obj))(E:St->XK)(e:Value)(s:aq):Prop:=
 ∃(σ:St)(a T:Addr)(cl:Value)(dx:Option Addr)(H:Hp),e=.ref a/\Inv X pZ σ H s/\Gg s.heap a cl dx (some (T,jD X.env.locals))/\Du X pZ H a/\Du X pZ H T/\E σ cl dx H
def XL(X:Cx)(pZ:List (Addr×Obj))(E:St->XK)(e:Value)(s:aq):Prop:=
 wpAny (bb X.prog X.w) X.A (Ga e X.env) (λ_ s'=>XN X pZ E e s') (λ_ _=>False) s
noncomputable abbrev Cx.al(X:Cx)(pZ:List (Addr×Obj))(E:St->XK):Cx:={X with pn:=X.pn++pZ,xe:=XL X pZ E}
section
variable{X:Cx}{pZ pins':List (Addr×Obj)}{E:St->XK}{σ:St}{H:Hp}{s:aq}
theorem Cx.Ok.al(ok:X.Ok):(X.al pZ E).Ok:=
 #[ok.mod,ok.kind,ok.glob,ok.blt,ok.above,ok.inj,ok.has,ok.NU,ok.hd,ok.frames,ok.GO,ok.VO,ok.bs,ok.GQ,ok.BI,ok.EM,ok.qI,ok.Ky]
theorem Cx.Ok.sC(ok:(X.al pZ E).Ok):X.Ok:=
 #[ok.mod,ok.kind,ok.glob,ok.blt,ok.above,ok.inj,ok.has,ok.NU,ok.hd,ok.frames,ok.GO,ok.VO,ok.bs,ok.GQ,ok.BI,ok.EM,ok.qI,ok.Ky]
theorem Inv.al(I:Inv X pZ σ H s):Inv (X.al pZ E) [] σ H s:=
 #[I.ok.al,I.os,I.bare,I.base,I.loc,I.cell,I.free,I.ny,λp hp=>I.pin p (by simpa using hp),I.du,I.len]
theorem Inv.sC(I:Inv (X.al pZ E) pins' σ H s):Inv X pZ σ H s:=
 #[I.ok.sC,I.os,I.bare,I.base,I.loc,I.cell,I.free,I.ny,λp hp=>I.pin p (aI.mpr (.inl hp)),I.du,I.len]
theorem Du.sC{b:Addr}(h:Du (X.al pZ E) pins' H b):Du X pZ H b:=
 #[h.1,h.2.1,h.2.2.1,h.2.2.2.1,λp hp=>h.2.2.2.2 p (aI.mpr (.inl hp))]
theorem P8.al(f:P8 X):P8 (X.al pZ E):=#[f.GO,f.ZD]
theorem XE.toXL{e:Value}(f:P8 X)(h:XE X pZ σ (E σ) e s):XL X pZ E e s:=by
 let#[a,tb,cl,dx,H',rfl,I,xa,fr,q]:=h;have fr1:X.A.frames=some (X.env::X.outer):=by rw[I.ok.frames,f.GO]
 have fs1:s.heap.FunFrames X.base (X.env::X.outer):=by have:=I.stack;rw[f.GO] at this;erw[this]
 rwa[Nl (base:=X.base) (outer:=X.outer) (L:=X.env.locals) fr1 fs1 f.ZD xa λh2 T2 k2 n2 x2=>?_]
 exact#[σ,a,T2,cl,dx,H',rfl,I.yn (by rw[f.GO];erw[k2]) fr,x2,fr a aO,I.OU n2,q]
theorem XE.sC{e:Value}(f:P8 X)(h:XE (X.al pZ E) pins' σ (E σ) e s):XL X pZ E e s:=by
 let#[a,tb,cl,dx,H',e1,I,x,fr,q]:=h;erw[XE.toXL f #[a,tb,cl,dx,H',e1,I.sC,x,λb hb=>(fr b hb).sC,q]]
theorem Mm:F5 (bb (X.al pZ E).prog (X.al pZ E).w) (X.al pZ E).A (X.al pZ E).env (X.al pZ E).xe:=PassesOwn.looking
end
theorem SP.sC{X:Cx}{pZ pins':List (Addr×Obj)}{E:St->XK}{D:Ends}{f:Flow}{s:aq}(q:SP (X.al pZ E) pins' D f s):SP X pZ D f s:=by
 cases f with
 |next=>let#[σ',H',I',q]:=q;exact#[σ',H',I'.sC,q]
 |brk=>let#[σ',H',I',q]:=q;exact#[σ',H',I'.sC,q]
 |cont=>let#[σ',H',I',q]:=q;exact#[σ',H',I'.sC,q]
 |ret u=>let#[v,σ',H',I',r,q]:=q;exact#[v,σ',H',I'.sC,r,q]
structure Tk(X:Cx)(E:St->XK):Prop where
 tk:∀(pZ:List (Addr×Obj))(σ:St)(s:aq)(e:Value),XE X pZ σ (E σ) e s->X.xe e s
 ps:F5 (bb X.prog X.w) X.A X.env X.xe
theorem Uh{X:Cx}{pZ:List (Addr×Obj)}{E:St->XK}(f:P8 X):Tk (X.al pZ E) E:=#[λ_ _ _ _ h=>h.sC f,Mm]
section
variable{X:Cx}{e:Expr}{E:St->XK}
theorem CC{t:XK->TE}(k:Tk X E)(h:dU X e t):PE X e (λσ H Q=>t (E σ) σ H Q):=by
 intro pins' s σ H Q I z;erw[bZ (h pins' s σ H Q (E σ) I z) (λu s' q=>q) λu s' q=>k.tk _ _ _ _ q]
theorem Ui{t:XK->TT}(k:Tk X E)(h:Cs X e t):PT X e (λσ H Q=>t (E σ) σ H Q):=by
 intro pins' s σ H Q I z;erw[bZ (h pins' s σ H Q (E σ) I z) (λu s' q=>q) λu s' q=>k.tk _ _ _ _ q]
theorem PS.imp{st:Stmt}{t t':TS}(h:PS X st t)(q:∀D σ H,t' D σ H->t D σ H):PS X st t':=λpZ s σ H D I z=>h pZ s σ H D I (q D σ H z)
theorem vZ.imp{st:List Stmt}{t t':TS}(h:vZ X st t)(q:∀D σ H,t' D σ H->t D σ H):vZ X st t':=λpZ s σ H D I z=>h pZ s σ H D I (q D σ H z)
end
theorem Good.al{t:wb}{T:Tab}{Γ:bT}{k:Nat}{I:Inf}{X:Cx}{pZ:List (Addr×Obj)}{E:St->XK}(G:Good t T Γ k I X):Good t T Γ k I (X.al pZ E):=
 #[G.tab,G.L4,G.kind,G.names,G.slots,G.nd,G.calm,G.units]
structure DR(c:Ctx)(ρ:List Addr)(H:Hp)(DU:PL.Ends)(D:Ends)(E:St->XK):Prop where
 nx:∀env' S' σ' H' ρ',DU.nx env' S'->gY ρ H ρ' H'->cv c ρ' H' S'->jF c ρ' H' env' σ'->D.nx σ' H'
 rt:QV c ρ H DU.rt D.rt
 ex:∀env' σ' x S' H' ρ' C d,DU.ex env' x S'->gY ρ H ρ' H'->cv c ρ' H' S'->jF c ρ' H' env' σ'->ExcAt c ρ' H' x C d->E σ' (.ref C) (some d) H'
def tS(c:Ctx)(Γ:bT)(x:PL.Sm):(St->XK)->TS:=λE D σ H=>∃env ρ S DU,jF c ρ H env σ/\cv c ρ H S/\PL.WS Γ x DU env S/\DR c ρ H DU D E
def Kh(c:Ctx)(Γ:bT)(x:PL.dm):(St->XK)->TS:=λE D σ H=>∃env ρ S DU,jF c ρ H env σ/\cv c ρ H S/\PL.tU Γ x DU env S/\DR c ρ H DU D E
section
variable{c:Ctx}{ρ ρ':List Addr}{H H':Hp}{S:bj}{DU:PL.Ends}{D:Ends}{E:St->XK}
theorem DR.later(q:DR c ρ H DU D E)(a:gY ρ H ρ' H'):DR c ρ' H' DU D E:=
 #[λenv' S' σ' H2 ρ2 h b R e=>q.nx env' S' σ' H2 ρ2 h (a.trans b) R e,q.rt.later a,λenv' σ' x S' H2 ρ2 C d h b R e z=>q.ex env' σ' x S' H2 ρ2 C d h (a.trans b) R e z]
theorem DR.qx(q:DR c ρ H DU D E)(R:cv c ρ H S){env:PL.Env}{σ:St}(he:jF c ρ H env σ):QX c ρ H (DU.ex env) (E σ):=
 λx S' H2 ρ2 C d h b R2 z=>q.ex env σ x S' H2 ρ2 C d h b R2 (he.later R b) z
theorem jF.set{env:PL.Env}{σ:St}(he:jF c ρ H env σ){u:U}{v:V}(r:Rep c ρ H u v)(i:Nat):jF c ρ H (env.set i (some u)) (σ.set i (some v)):=by
 refine#[by simp[he.len],λj w e=>?_];by_cases z:j=i
 .subst z
  have hj:j<env.length:=by
   have:=(ae.mp e).1;simpa using this
  rw[bF hj] at e;injection e with e;injection e with e;subst e
  exact#[v,by rw[bF (by rw[<-he.len];erw[hj])],r]
 .rw[af (cA z)] at e ⊢
  erw[he.at_ j w e]
end
end L2
end
section
set_option autoImplicit false
namespace L2
open PySem PySem.Spec PyProof.Rows PySem.W
open PL (U SO bj Xn KU KX bT)
structure iF(t:wb)(T:Tab)(Γ:bT)(k:Nat)(I:Inf)(X:Cx):Prop where
 g:Good t T Γ k I X
 fr:P8 X
 st:∀x,X.fn x=true
section
variable{t:wb}{T:Tab}{Γ:bT}{k n:Nat}{I:Inf}{X:Cx}
theorem iF.al{pZ:List (Addr×Obj)}{E:St->XK}(G:iF t T Γ k I X):iF t T Γ k I (X.al pZ E):=#[G.g.al,G.fr.al,G.st]
variable{E:St->XK}
theorem sE{names:List (Str×NameKind)}{x:Str}{sc:fQ}(h:tV (names.lookup x)=true)(e:sc.names=names):Loc sc x:=by
 rw[<-e] at h;unfold Loc;cases q:sc.names.lookup x with
 |none=>rw[q] at h;cases h
 |some kd=>rw[q] at h;cases kd<;>simp[tV] at h<;>simp
theorem CD{i:Nat}{x:PL.Ex}{D:Ends}{σ:St}{H:Hp}(z:tS (X.cc t) Γ (.set i x) E D σ H):tE (X.cc t) Γ x (E σ) σ H λv H1=>D.nx (σ.set i (some v)) H1:=by
 let#[env,ρ,S,DU,he,R,w,q]:=z;refine#[env,ρ,S,_,_,he,R,w,λu S1 v H1 ρ1 w1 st1 R1 r1=>?_,q.qx R he];erw[q.nx _ _ _ _ _ w1 st1 R1 ((he.later R st1).set r1 i)]
theorem P9{x:Str}{i:Nat}{e:Expr}{y:PL.Ex}{p pos:Pos}(G:iF t T Γ k I X)(K:Tk X E)(h:d9 x I.N=some i)(hl:tV (I.names.lookup x)=true)(hs:∀env,hU e (some (.Name x p)) pos.line env=pure false)
  (hy:dU X e (tE (X.cc t) Γ y)):PS X (.Assign [.Name x p] e pos) (λD σ H=>tS (X.cc t) Γ (.set i y) E D σ H):=by
 refine(GY (X:=X) (i:=i) G.g.nd (by show X.N[i]?=some x;rw[G.g.slots];erw[fg h]) (sE hl G.g.names) (CC K hy) (hs _) (.inl (G.st x))).imp ?_;intro D σ H z;erw[CD z]
theorem Mn{o e:Expr}{f:String}{x y:PL.Ex}{p pos:Pos}(G:iF t T Γ k I X)(K:Tk X E)(hf:f∈T.yD)(hx:dU X o (tE (X.cc t) Γ x))(hy:dU X e (tE (X.cc t) Γ y)):PS X (.Assign [.Attribute o (nm f) p] e pos) (λD σ H=>tS (X.cc t) Γ (.mO x f y) E D σ H):=by
 have hs:∀env,hU e (some (.Attribute o (nm f) p)) pos.line env=pure false:=λenv=>by cases e<;>rfl
 refine(Oz (X:=X) (CC K hx) (CC K hy) (hs _)).imp ?_;rintro D σ H ⟨env,ρ,S,DU,he,R,w,q⟩;refine#[env,ρ,S,_,_,he,R,w,λu S1 v H1 ρ1 w1 st1 R1 r1=>?_,q.qx R he];refine#[env,ρ1,S1,_,_,he.later R st1,R1,w1,λu2 S2 v2 H2 ρ2 w2 st2 R2 r2=>?_,(q.qx R he).later st1];let#[l,e1,w3]:=PL.ja.mp w2;subst e1;let#[c',fs,e2,hlen,w4]:=PL.mf.mp w3;let#[a,C,dx,vs,ev,ha,hC,hH,hn,hr]:=R2.ins e2 r2;let#[cl,na]:=G.g.tab.cls c' C hC;have hlv:vs.length=fs.length:=by have:=congrArg cD hn;simpa using this
 refine#[a,C,dx,vs,ev,hH,cl,na f hf,∅,?_];have st3:=gY.put (H:=H2) (ao ha) hH rfl (.ins C dx (ke (nm f) v vs));have ug:∀{fs:List (String×U)}{vs:List (Str×V)},vs.map (·.1)=(fs.map (·.1)).map nm->aV (X.cc t) ρ2 H2 (fs.map (·.2)) (vs.map (·.2)) ->
   (ke (nm f) v vs).map (·.1)=((PL.gV f u fs).map (·.1)).map nm/\aV (X.cc t) ρ2 H2 ((PL.gV f u fs).map (·.2)) ((ke (nm f) v vs).map (·.2)):=by
  intro fs;induction fs with
  |nil=>
   intro vs hn hr;cases vs with
   |nil=>exact#[rfl,aV.cons (r1.mono R1 st2) aV.nil]
   |cons a b=>simp at hn
  |cons p fs ih=>
   intro vs hn hr;let#[g,w']:=p;cases vs with
   |nil=>simp at hn
   |cons b vs=>
    let#[b1,b2]:=b;dsimp[ay,dG] at hn;rw[ay,ay] at hr;unfold aV at hr;let#[v',r',e',k1,k2]:=hr;injection e' with e1' e2'
    subst e1';subst e2';unfold ke PL.gV;by_cases z:g=f
    .have z2:b1=nm f:=by rw[hn.1,z]
     rw[if_pos z2,if_pos z]
     exact#[by simp[hn.1,hn.2],aV.cons (r1.mono R1 st2) k2]
    .have z2:¬b1=nm f:=λq=>z (vm _ _ (hn.1.symm.trans q))
     rw[if_neg z2,if_neg z]
     let#[m1,m2]:=ih hn.2 k2;exact#[by dsimp[ay,dG];exact#[hn.1,m1],aV.cons k1 m2]
 let#[m1,m2]:=ug hn hr;rwa[q.nx _ _ _ _ _ w4 ((st1.trans st2).trans st3) (R2.put ha hH rfl #[C,dx,_,hC,cb,m1,m2.mono R2 st3]) ((he.later R (st1.trans st2)).later R2 st3)]
theorem Mo{o i e:Expr}{x y z:PL.Ex}{p pos:Pos}(G:iF t T Γ k I X)(K:Tk X E)(hx:dU X o (tE (X.cc t) Γ x))(hi:dU X i (tE (X.cc t) Γ z))(hy:dU X e (tE (X.cc t) Γ y)):PS X (.Assign [.Subscript o i p] e pos) (λD σ H=>tS (X.cc t) Γ (.nK x z y) E D σ H):=by
 have hs:∀env,hU e (some (.Subscript o i p)) pos.line env=pure false:=λenv=>by cases e<;>rfl
 refine(Lc (X:=X) (by have:=G.g.units;omega) (CC K hx) (CC K hi) (CC K hy) (hs _)).imp ?_;rintro D σ H ⟨env,ρ,S,DU,he,R,w,q⟩;refine#[env,ρ,S,_,_,he,R,w,λu S1 v H1 ρ1 w1 st1 R1 r1=>?_,q.qx R he];refine#[env,ρ1,S1,_,_,he.later R st1,R1,w1,λu2 S2 v2 H2 ρ2 w2 st2 R2 r2=>?_,(q.qx R he).later st1];refine#[env,ρ2,S2,_,_,(he.later R st1).later R1 st2,R2,w2,λu3 S3 v3 H3 ρ3 w3 st3 R3 r3=>?_,(q.qx R he).later (st1.trans st2)];let#[n,e1,w3]:=PL.ja.mp w3;subst e1;let#[kvs,e2,#[hk,hn,hl],w4]:=PL.Aq.mp w3;let#[a,ev,ha]:=eG.mp (r2.mono R2 st3);let#[vs,g1,g2,g3,g4]:=R3.at_ n a _ ha e2;have l2:jr vs (vi u3)=none:=by
  rcases rn hk g2 g3 g4 with⟨_,l2⟩|⟨_,_,l1,_⟩
  .erw[l2]
  .rw[hn] at l1;cases l1
 have r1':=r1.mono R1 (st2.trans st3);have st4:=gY.put (H:=H3) (ao ha) g1 rfl (.dK (vs++[(vi u3,v)]));refine#[a,upd H3 a (.dK (vs++[(vi u3,v)])),ev,.inl #[vs,vi u3,g1,j6 hk r3,by rw[g2];erw[az hl ⋯],by rw[Af v l2]],?_];rwa[q.nx _ _ _ _ _ w4 (((st1.trans st2).trans st3).trans st4) (R3.put ha g1 rfl #[_,cb,by simp[g2],?_,?_]) ((he.later R ((st1.trans st2).trans st3)).later R3 st4)]
 .rw[aJ,aJ]
  exact(g3.mono R3 st4).app (aV.cons (show Rep (X.cc t) ρ3 _ u3 (kV (vi u3)) by rw[<-j6 hk r3];erw[r3.mono R3 st4]) aV.nil)
 .rw[aJ,aJ]
  exact(g4.mono R3 st4).app (aV.cons (r1'.mono R3 st4) aV.nil)
theorem Uj{e:Expr}{y:PL.Ex}{pos:Pos}(G:iF t T Γ k I X)(K:Tk X E)(hc:yE e=true)(hy:dU X e (tE (X.cc t) Γ y)):PS X (.Expr e pos) (λD σ H=>tS (X.cc t) Γ (.ex y) E D σ H):=by
 refine(KD (X:=X) (CC K hy) (AG hc)).imp ?_;rintro D σ H ⟨env,ρ,S,DU,he,R,w,q⟩;refine#[env,ρ,S,_,_,he,R,w,λu S1 v H1 ρ1 w1 st1 R1 r1=>?_,q.qx R he];erw[q.nx _ _ _ _ _ w1 st1 R1 (he.later R st1)]
theorem Qa{e:Expr}{y:PL.Ex}{pos:Pos}(G:iF t T Γ k I X)(K:Tk X E)(hy:dU X e (tE (X.cc t) Γ y)):PS X (.Return (some e) pos) (λD σ H=>tS (X.cc t) Γ (.ret y) E D σ H):=by
 refine(N6 (X:=X) (CC K hy)).imp ?_;rintro D σ H ⟨env,ρ,S,DU,he,R,w,q⟩;exact#[env,ρ,S,_,_,he,R,w,q.rt,q.qx R he]
theorem Qb{c:Expr}{a b:List Stmt}{x:PL.Tx}{y z:PL.dm}{pos:Pos}(G:iF t T Γ k I X)(K:Tk X E)(hx:Cs X c (tT (X.cc t) Γ x))(hy:vZ X a (λD σ H=>Kh (X.cc t) Γ y E D σ H))(hz:vZ X b (λD σ H=>Kh (X.cc t) Γ z E D σ H)):PS X (.If c a b pos) (λD σ H=>tS (X.cc t) Γ (.ifs x y z) E D σ H):=by
 refine(R8 (X:=X) (Ui K hx) (hy) (hz)).imp ?_;rintro D σ H ⟨env,ρ,S,DU,he,R,w,q⟩;refine#[env,ρ,S,_,_,he,R,w,λb S1 H1 ρ1 w1 st1 R1=>?_,q.qx R he];cases b with
 |true=>exact#[env,ρ1,S1,DU,he.later R st1,R1,w1,q.later st1]
 |false=>exact#[env,ρ1,S1,DU,he.later R st1,R1,w1,q.later st1]
theorem CH{op:gO}{p:PL.t9}(hp:Cr op=some p):op=LM p/\(p=.add\/p=.sub\/p=.bor):=by cases op<;>first|exact nn hp| (cases hp;exact#[rfl,by simp])
theorem Qc{x:Str}{i:Nat}{op:gO}{p:PL.t9}{e:Expr}{y:PL.Ex}{px pos:Pos}(G:iF t T Γ k I X)(K:Tk X E)(h:d9 x I.N=some i)(hl:tV (I.names.lookup x)=true)(hp:Cr op=some p)(hy:dU X e (tE (X.cc t) Γ y)):PS X (.AugAssign (.Name x px) op e pos) (λD σ H=>tS (X.cc t) Γ (.aug i p y) E D σ H):=by
 have eo:=CH hp;rw[eo.1]
 refine(N9 (X:=X) (i:=i) G.g.nd (by show X.N[i]?=some x;rw[G.g.slots];erw[fg h]) (sE hl G.g.names) (CC K hy) (yH (X:=X) (c:=X.cc t) eo.2) (.inl (G.st x))).imp ?_;rintro D σ H ⟨env,ρ,S,DU,he,R,w,q⟩;let#[u0,e0,w0]:=PL.Ap.mp (show PL.yu _ _ from w);let#[v0,e1,r0]:=he.at_ i u0 e0;refine#[v0,e1,env,ρ,S,_,_,he,R,w0,λu S1 v H1 ρ1 w1 st1 R1 r1=>?_,q.qx R he];refine#[u0,u,ρ1,S1,_,r0.mono R st1,r1,R1,w1,λu2 S2 v2 H2 ρ2 w2 st2 R2 r2=>?_];erw[q.nx _ _ _ _ _ w2 (st1.trans st2) R2 ((he.later R (st1.trans st2)).set r2 i)]
end
end L2
end
section
set_option autoImplicit false
namespace L2
open PySem PySem.Spec PyProof.Rows PySem.W
open PL (U SO bj Xn KU KX bT)
section
variable{t:wb}{T:Tab}{Γ:bT}{k n:Nat}{I:Inf}{X:Cx}{E:St->XK}
theorem ug{c:Ctx}{ρ:List Addr}{H:Hp}{f:String}{u:U}{v:V}(ru:Rep c ρ H u v):∀{fs:List (String×U)}{vs:List (Str×V)},vs.map (·.1)=(fs.map (·.1)).map nm->aV c ρ H (fs.map (·.2)) (vs.map (·.2)) ->
   (ke (nm f) v vs).map (·.1)=((PL.gV f u fs).map (·.1)).map nm/\aV c ρ H ((PL.gV f u fs).map (·.2)) ((ke (nm f) v vs).map (·.2))
 |[],[],_,_=>#[rfl,aV.cons ru aV.nil]
 |[],_::_,hn,_=>by simp at hn
 |_::_,[],hn,_=>by simp at hn
 | (g,w')::fs,(b1,b2)::vs,hn,hr=>by
  dsimp[ay,dG] at hn;rw[ay,ay] at hr;unfold aV at hr;let#[v',r',e',k1,k2]:=hr;injection e' with e1' e2'
  subst e1';subst e2';unfold ke PL.gV;by_cases z:g=f
  .have z2:b1=nm f:=by rw[hn.1,z]
   rw[if_pos z2,if_pos z]
   exact#[by simp[hn.1,hn.2],aV.cons ru k2]
  .have z2:¬b1=nm f:=λq=>z (vm _ _ (hn.1.symm.trans q))
   rw[if_neg z2,if_neg z]
   let#[m1,m2]:=ug ru hn.2 k2;exact#[by dsimp[ay,dG];exact#[hn.1,m1],aV.cons k1 m2]
theorem Mp{o e:Expr}{op:gO}{p:PL.t9}{f:String}{x y:PL.Ex}{tp pos:Pos}(G:iF t T Γ k I X)(K:Tk X E)(hf:f∈T.yD)(hp:Cr op=some p)(hx:dU X o (tE (X.cc t) Γ x))(hy:dU X e (tE (X.cc t) Γ y)):PS X (.AugAssign (.Attribute o (nm f) tp) op e pos) (λD σ H=>tS (X.cc t) Γ (.Cd x f p y) E D σ H):=by
 have eo:=CH hp;rw[eo.1]
 refine(EY (X:=X) (CC K hx) (CC K hy) (rd:=Fq (X.cc t) p) (yH (X:=X) (c:=X.cc t) eo.2)).imp ?_;rintro D σ H ⟨env,ρ,S,DU,he,R,w,q⟩;refine#[env,ρ,S,_,_,he,R,w,λu S1 v H1 ρ1 w1 st1 R1 r1=>?_,q.qx R he];let#[l,e1,w2]:=PL.ja.mp w1;subst e1;let#[c',fs,e2,w3]:=PL.mf.mp w2;let#[u0,e3,w4]:=PL.i9.mp w3;let#[a,C,dx,vs,ev,ha,hC,hH,hn,hr]:=R1.ins e2 r1;let#[cl,na]:=G.g.tab.cls c' C hC;let#[v0,l0,r0]:=qo hn hr e3 vm;refine#[a,C,dx,vs,v0,ev,hH,cl,na f hf,l0,?_];refine#[env,ρ1,S1,_,_,he.later R st1,R1,w4,λu2 S2 v2 H2 ρ2 w5 st2 R2 r2=>?_,(q.qx R he).later st1];refine#[u0,u2,ρ2,S2,_,r0.mono R1 st2,r2,R2,w5,λu3 S3 v3 H3 ρ3 w6 st3 R3 r3=>?_];let#[c'',fs',e4,#[e5,hlen,w7]]:=PL.mf.mp w6;subst e5;have ha3:=(st2.trans st3).get ha;let#[C',dx',vs',hC',hH',hn',hr']:=R3.at_ l a _ ha3 e4;rw[hC] at hC';injection hC' with hC';subst hC'
 have hlv:vs'.length=fs'.length:=by have:=congrArg cD hn';simpa using this
 refine#[dx',vs',hH',∅,?_];have st4:=gY.put (H:=H3) (ao ha3) hH' rfl (.ins C dx' (ke (nm f) v3 vs'));let#[m1,m2]:=ug r3 hn' hr';rwa[q.nx _ _ _ _ _ w7 (((st1.trans st2).trans st3).trans st4) (R3.put ha3 hH' rfl #[C,dx',_,hC,cb,m1,m2.mono R3 st4]) ((he.later R ((st1.trans st2).trans st3)).later R3 st4)]
def Uk(K:Frag):V->V->Hp->VK->Prop:=λo i H Q=>∃p xs k v,o=.ref p/\i=.int k/\H p=some (.lst xs)/\0<=k/\xs[k.toNat]?=some v/\Q v H
theorem Fx:Sf X (Uk X.K):=by
 intro pZ s σ H o i ov iv Q I ro ri h;let#[p,xs,k,v,rfl,rfl,hp,h0,hk,q]:=h;cases ro;let#[t,rfl]:=ri;let#[its,r,pl,hz]:=I.list (.inl (.inl hp));let#[w,ew,rw']:=r.get hk;have hn:=ou;have hl:=(ae.mp hk).1;erw[getItem_listL pl.isList h0 ∅ ew #[v,H,I,rw',q]]
theorem Yn{c:Ctx}{ρ:List Addr}{H:Hp}{us:List U}{vs:List V}{u:U}{v:V}(r:aV c ρ H us vs)(ru:Rep c ρ H u v):∀(j:Nat),aV c ρ H (us.set j u) (vs.set j v):=by
 intro j;induction us generalizing vs j with
 |nil=>cases vs with
  |nil=>erw[r]
  |cons a b=>erw[absurd r.len (by simp)]
 |cons x us ih=>cases vs with
  |nil=>erw[absurd r.len (by simp)]
  |cons a b=>
   unfold aV at r;let#[v',r',e',k1,k2]:=r;injection e' with e1 e2
   subst e1;subst e2;cases j with
   |zero=>erw[aV.cons ru k2]
   |succ j=>erw[aV.cons k1 (ih k2 j)]
theorem Mq{o i e:Expr}{op:gO}{p:PL.t9}{x y z:PL.Ex}{tp pos:Pos}(G:iF t T Γ k I X)(K:Tk X E)(hn:lH i=true)(hp:Cr op=some p)(hx:dU X o (tE (X.cc t) Γ x))(hi:dU X i (tE (X.cc t) Γ y))(hy:dU X e (tE (X.cc t) Γ z)):PS X (.AugAssign (.Subscript o i tp) op e pos) (λD σ H=>tS (X.cc t) Γ (.E9 x y p z) E D σ H):=by
 have eo:=CH hp;rw[eo.1]
 refine(KG (X:=X) (CC K hx) (CC K hi) Fx (CC K hy) (tip:=Fq (X.cc t) p) (yH (X:=X) (c:=X.cc t) eo.2) set_list (λov iv new=>by cases i<;>first|rfl|simp[lH] at hn)).imp ?_;rintro D σ H ⟨env,ρ,S,DU,he,R,w,q⟩;refine#[env,ρ,S,_,_,he,R,w,λu S1 v H1 ρ1 w1 st1 R1 r1=>?_,q.qx R he];refine#[env,ρ1,S1,_,_,he.later R st1,R1,w1,λu2 S2 v2 H2 ρ2 w2 st2 R2 r2=>?_,(q.qx R he).later st1];obtain⟨l,e1,w3⟩:=PL.ja.mp w2;subst e1;obtain⟨j,e2,w4⟩:=PL.fu.mp w3;subst e2;obtain⟨us,e3,h0,w5⟩:=PL.df.mp w4;obtain⟨u0,e4,w6⟩:=PL.i9.mp w5;obtain⟨a,vs,ev,ha,hH,hr⟩:=R2.lst e3 (r1.mono R1 st2);subst ev;obtain⟨v0,l0,r0⟩:=hr.get e4;refine#[a,vs,j,v0,rfl,aQ.mp r2,hH,h0,l0,?_];refine#[env,ρ2,S2,_,_,(he.later R st1).later R1 st2,R2,w6,λu3 S3 v3 H3 ρ3 w7 st3 R3 r3=>?_,(q.qx R he).later (st1.trans st2)];refine#[u0,u3,ρ3,S3,_,r0.mono R2 st3,r3,R3,w7,λu4 S4 v4 H4 ρ4 w8 st4 R4 r4=>?_];obtain⟨us',e5,hj,w9⟩:=PL.df.mp w8;have ha4:=(st3.trans st4).get ha;obtain⟨vs',hH',hr'⟩:=R4.at_ l a _ ha4 e5;refine#[a,vs',j,j.toNat,rfl,aQ.mp r2,hH',?_,?_]
 .unfold OF
  rw[if_pos h0,if_pos (by have:=hr'.len;omega)]
 have st5:=gY.put (H:=H4) (ao ha4) hH' rfl (.lst (vs'.set j.toNat v4));rwa[q.nx _ _ _ _ _ w9 ((((st1.trans st2).trans st3).trans st4).trans st5) (R4.put ha4 hH' rfl #[_,cb,(Yn hr' r4 j.toNat).mono R4 st5]) ((he.later R (((st1.trans st2).trans st3).trans st4)).later R4 st5)]
theorem Qd{c:Expr}{b:List Stmt}{x:PL.Tx}{y:PL.dm}{pos:Pos}(K:Tk X E)(hx:Cs X c (tT (X.cc t) Γ x))(hy:vZ X b (λD σ H=>Kh (X.cc t) Γ y E D σ H)):PS X (.While c b [] pos) (λD σ H=>tS (X.cc t) Γ (.Ce x y) E D σ H):=by
 refine(GZ (X:=X) K.ps (Ui K hx) hy).imp ?_;rintro D σ H ⟨env,ρ,S,DU,he,R,w,q⟩;let#[n0,w0]:=w
 let F:=PL.yy (λen S1 k=>PL.WT Γ x en S1 k (DU.ex en)) (λen S1 k=>PL.tU Γ y {DU with nx:=k} en S1) DU.nx
 refine#[λm σ1 H1=>∃env1 ρ1 S1,gY ρ H ρ1 H1/\cv (X.cc t) ρ1 H1 S1/\jF (X.cc t) ρ1 H1 env1 σ1/\F m env1 S1,#[n0,env,ρ,S,.refl,R,he,w0],?_];rintro m σ1 H1 ⟨env1,ρ1,S1,st1,R1,he1,w1⟩;cases m with
 |zero=>erw[aL w1]
 |succ m=>
  have w1':PL.WT Γ x env1 S1 (λt S1=>if t=true then PL.tU Γ y {DU with nx:=F m} env1 S1 else DU.nx env1 S1) (DU.ex env1):=w1;have q1:=q.later st1;refine#[env1,ρ1,S1,_,_,he1,R1,w1',λb S2 H2 ρ2 w2 st2 R2=>?_,q1.qx R1 he1];cases b with
  |false=>erw[q1.nx _ _ _ _ _ w2 st2 R2 (he1.later R1 st2)]
  |true=>
   refine#[λσ3 H3=>∃env3 ρ3 S3,gY ρ H ρ3 H3/\cv (X.cc t) ρ3 H3 S3/\jF (X.cc t) ρ3 H3 env3 σ3/\F m env3 S3,λσ3 H3 h3=>#[m,dj m,h3],?_];have q2:=q1.later st2;refine#[env1,ρ2,S2,_,he1.later R1 st2,R2,w2,#[λenv' S' σ' H' ρ' h b R' e=>#[env',ρ',S',(st1.trans st2).trans b,R',e,h],q2.rt,q2.ex]]
def IF(Γ:bT)(tt:PL.Tg)(z:PL.dm)(DU:PL.Ends)(u:U)(en:PL.Env)(S:bj)(k:PL.Env->bj->Prop):Prop:=match tt with
 |.name i=>PL.tU Γ z {DU with nx:=k} (en.set i (some u)) S
 |.pair i j=>PL.Nq u λx y=>PL.tU Γ z {DU with nx:=k} ((en.set i (some x)).set j (some y)) S
theorem IG{tt:PL.Tg}{y:PL.It}{z:PL.dm}{DU:PL.Ends}{env:PL.Env}{S:bj}:PL.WS Γ (.gU tt y z) DU env S=PL.WI Γ y env S (λus g S1=>PL.u9 g (IF Γ tt z DU) DU.nx us env S1) (DU.ex env):=by
 cases tt<;>rfl
theorem II{tg it:Expr}{b:List Stmt}{y:PL.It}{z:PL.dm}{pos:Pos}{tt:PL.Tg}{g0:TG}(G:iF t T Γ k I X)(K:Tk X E)(hc:I.calm=true)(hs:∀env v,foldedSetIterable it env v=pure v)
  (hi:PI X tg it (λσ H R=>yI (X.cc t) Γ y (E σ) σ H R)) (hg:PG X tg g0) (hb:vZ X b (λD σ H=>Kh (X.cc t) Γ z E D σ H))
  (hr0:∀{ρ H S env σ u v DU D Q k},jF (X.cc t) ρ H env σ->cv (X.cc t) ρ H S->Rep (X.cc t) ρ H u v->IF Γ tt z DU u env S k->DR (X.cc t) ρ H {DU with nx:=k} D E->(∀σ' H',Kh (X.cc t) Γ z E D σ' H'->Q σ' H')->g0 v σ H Q):
  PS X (.For tg it b [] pos) (λD σ H=>tS (X.cc t) Γ (.gU tt y z) E D σ H):=by
 refine(Ob (X:=X) K.ps (G.g.calm hc).1 hi hg hb (hs _)).imp ?_;rintro D σ H ⟨env,ρ,S,DU,he,R,w,q⟩;rw[IG] at w;refine#[env,ρ,S,_,_,he,R,w,λus g S1 H1 ρ1 J w1 st1 R1 io=>?_,q.qx R he]
 let F:=PL.u9 g (IF Γ tt z DU) DU.nx
 refine#[λj m σ2 H2=>m+j=us.length/\∃env2 ρ2 S2,gY ρ1 H1 ρ2 H2/\cv (X.cc t) ρ2 H2 S2/\jF (X.cc t) ρ2 H2 env2 σ2/\F (us.drop j) env2 S2,#[us.length,rfl,env,ρ1,S1,.refl,R1,he.later R st1,w1],?_];rintro j m σ2 H2 ⟨hm,env2,ρ2,S2,st2,R2,he2,wf⟩;have q2:=q.later (st1.trans st2);cases hd:us.drop j with
 |nil=>
  rw[hd] at wf;obtain⟨g2,w2⟩:g S2/\DU.nx env2 S2:=wf;erw[.inl #[(io j ρ2 H2 S2 st2 R2 g2).2 (Dg.mp hd),q2.nx _ _ _ _ _ w2 .refl R2 he2]]
 |cons u rest=>
  rw[hd] at wf;let#[g2,w2]:=wf;have hu:us[j]?=some u:=by
   have:=congrArg (λl=>l[0]?) hd;simpa using this
  have hr:us.drop (j+1)=rest:=by
   have:=congrArg List.tail hd;simpa using this
  have hj:j<us.length:=(ae.mp hu).1;let#[jg,jy]:=(io j ρ2 H2 S2 st2 R2 g2).1 u hu;rwa[.inr #[jg,λσ3 H3=>∃env3 ρ3 S3,gY ρ1 H1 ρ3 H3/\cv (X.cc t) ρ3 H3 S3/\jF (X.cc t) ρ3 H3 env3 σ3/\F rest env3 S3,λσ3 H3 h3=>#[m-1,∅,∅,by rw[hr];erw[h3]],λyv H3 hy=>?_]];let#[st3,R3,ry]:=jy yv H3 hy;have q3:=q2.later st3;rwa[hr0 (DU:=DU) (k:=F rest) (D:=#[_,_,_,_]) (he2.later R2 st3) R3 ry w2 ?_ λσ' H' h=>h]
  exact#[λenv' S' σ' H' ρ' h b R' e=>#[env',ρ',S',(st2.trans st3).trans b,R',e,h],q3.rt,q3.ex]
theorem Mr{x:Str}{i:Nat}{it:Expr}{b:List Stmt}{y:PL.It}{z:PL.dm}{px pos:Pos}(G:iF t T Γ k I X)(K:Tk X E)(hc:I.calm=true)(h:d9 x I.N=some i)(hl:tV (I.names.lookup x)=true)(hs:∀env v,foldedSetIterable it env v=pure v)
  (hi:PI X (.Name x px) it (λσ H R=>yI (X.cc t) Γ y (E σ) σ H R)) (hb:vZ X b (λD σ H=>Kh (X.cc t) Γ z E D σ H)):PS X (.For (.Name x px) it b [] pos) (λD σ H=>tS (X.cc t) Γ (.gU (.name i) y z) E D σ H):=
 II (tt:=.name i) G K hc hs hi (qL (i:=i) G.g.nd (by rw[G.g.slots];exact fg h) (sE hl G.g.names) (.inl (G.st x))) hb
  λhe R ru w q hq=>hq _ _ #[_,_,_,_,he.set ru i,R,w,q]
theorem Ms{x x2:Str}{i j:Nat}{it:Expr}{b:List Stmt}{y:PL.It}{z:PL.dm}{px px2 pt pos:Pos}{kk:Nat}(G:iF t T Γ k I X)(K:Tk X E)(hc:I.calm=true)(h:d9 x I.N=some i)(hl:tV (I.names.lookup x)=true)(h2:d9 x2 I.N=some j)(hl2:tV (I.names.lookup x2)=true)(hs:∀env v,foldedSetIterable it env v=pure v)
  (hi:PI X (.Tuple [.Name x px,.Name x2 px2] kk pt) it (λσ H R=>yI (X.cc t) Γ y (E σ) σ H R)) (hb:vZ X b (λD σ H=>Kh (X.cc t) Γ z E D σ H)):PS X (.For (.Tuple [.Name x px,.Name x2 px2] kk pt) it b [] pos) (λD σ H=>tS (X.cc t) Γ (.gU (.pair i j) y z) E D σ H):=by
 have p1:PG X (.Name x px) (wJ i):=qL (i:=i) G.g.nd (by rw[G.g.slots];erw[fg h]) (sE hl G.g.names) (.inl (G.st x));have p2:PG X (.Name x2 px2) (wJ j):=qL (i:=j) G.g.nd (by rw[G.g.slots];erw[fg h2]) (sE hl2 G.g.names) (.inl (G.st x2));rwa[II (tt:=.pair i j) G K hc hs hi (GX (n:=2) (G.g.calm hc).1 (qM p1 (qM p2 Dj rfl) rfl) rfl rfl) hb ?_];intro ρ H S env σ u v DU D Q kk he R ru w q hq;let#[a,b',e1,w]:=PL.Dz.mp (show PL.Nq _ _ from w);subst e1;let#[ad,vs,ev,hs',rs]:=dI.mp ru;subst ev;unfold aV at rs;let#[v1,r1,rfl,k1,k2]:=rs;unfold aV at k2;let#[v2,r2,rfl,k3,k4]:=k2;unfold aV at k4;subst k4;exact#[ad,[v1,v2],rfl,.inl (.inl hs'),rfl,v1,[v2],rfl,v2,[],rfl,rfl,hq _ _ #[_,_,_,_,(he.set k1 i).set k3 j,R,w,q]]
end
end L2
end
section
set_option autoImplicit false
namespace L2
open PySem PySem.Spec PyProof.Rows PySem.W
open PL (U SO bj Xn KU KX bT)
section
variable{t:wb}{T:Tab}{Γ:bT}{k n:Nat}{I:Inf}{X:Cx}{E:St->XK}
theorem p9.oE{pZ:List (Addr×Obj)}{H:Hp}{b:Addr}(h:p9 (X.at_ pZ E) [] H b):p9 X pZ H b:=
 #[h.1,h.2.1,h.2.2.1,h.2.2.2.1,h.2.2.2.2.1,λp hp=>h.2.2.2.2.2 p (by simpa using hp)]
theorem IJ{tg it:Expr}{y:PL.It}(K:Tk X E)(h:∀pZ E,PI (X.at_ pZ E) tg it (λσ H R=>yI (X.cc t) Γ y (E σ) σ H R)):PI X tg it (λσ H R=>yI (X.cc t) Γ y (E σ) σ H R):=by
 intro pZ s σ H R J z;have tk:∀e s,SY X pZ E e s->X.xe e s:=λe s #[σ',h]=>K.tk _ _ _ _ h
 rwa[bZ (h pZ E [] s σ H R J.at_ z) (λv s1 q=>bZ q (λitv s2 q2=>?_) tk) tk];let#[ita,fp,tn,Jt,H',e,I',tu,t0,hf,hr]:=q2;exact#[ita,fp,tn,Jt,H',e,I'.oE,tu,t0,λb hb=>(hf b hb).oE,hr]
theorem CI{elt iter tg:Expr}{ifs:List Expr}{x:List Str}{y:Str}{i:Nat}{py pos spos:Pos}{sc:fQ}{it:PL.It}{tc:PL.Tx}{e:PL.Ex}{ci:List Nat}(G:iF t T Γ k I X)(K:Tk X E)(hc:I.calm=true)(ht:LI tg=some x)(hb:ve I sc x=true)(hci:(iD I sc).mapM (λy=>d9 y I.N)=some ci)
  (hs:∀env v,foldedSetIterable iter env v=pure v) (hi:∀pZ E,PI (X.at_ pZ E) tg iter (λσ H R=>yI (X.cc t) Γ it (E σ) σ H R))
  (hif:∀(X':Cx),Good t T Γ k #[rf I sc.names,x++iD I sc,true] X'->X'.cc t=X.cc t->(∀e s,X'.xe e s↔False)->Li X' ifs (λσ H Q=>tT (X.cc t) Γ tc (λ_ _ _=>False) σ H Q))
  (he:∀(X':Cx),Good t T Γ k #[rf I sc.names,x++iD I sc,true] X'->X'.cc t=X.cc t->dU X' elt (tE (X.cc t) Γ e))
  (hy:d9 y I.N=some i) (hk:I.names.lookup y=some .local) (hsw:hU (.ListComp elt [#[tg,iter,ifs,0]] sc pos) (some (.Name y py)) spos.line X.env=pure true):
  PS X (.Assign [.Name y py] (.ListComp elt [#[tg,iter,ifs,0]] sc pos) spos) (λD σ H=>tS (X.cc t) Γ (.set i (.comp (x.length==2) e it tc ci)) E D σ H):=by
 have hn:(iD I sc).Nodup:=by
  unfold iD;have:=G.g.nd;rw[G.g.slots] at this;erw[this.filter _]
 have cp:=DQ G.g hci;refine(B6 (X:=X) (i:=i) (wi:=λσ H R=>yI (X.cc t) Γ it (E σ) σ H R) (tc:=λσ H Q=>tT (X.cc t) Γ tc (λ_ _ _=>False) σ H Q) (te:=λσ H Q=>tE (X.cc t) Γ e (λ_ _ _=>False) σ H Q)
  (vn G.g hb) cp hn (G.g.calm hc).1 (IC ht (vn G.g hb) cp hn (G.g.calm hc).1) (IJ K hi) (λC s₀ H₀ ex=>hif _ (rB G.g hc hb cp hn) rfl λ_ _=>km) (λC s₀ H₀ ex=>(he _ (rB G.g hc hb cp hn) rfl).no λ_ _=>km) G.g.nd (by rw[G.g.slots];erw[fg hy]) (by rw[G.g.names];erw[hk]) hsw (hs _)).imp ?_
 intro D σ H z;erw[xq (CD z)]
theorem Qe{h:ExceptHandler}{hs:List ExceptHandler}{b:List Stmt}{pos:Pos}{xb:PL.dm}(hb:∀pZ E',vZ (X.al pZ E') b (λD σ H=>Kh (X.cc t) Γ xb E' D σ H)):
  PS X (.Try b (h::hs) [] [] pos) (λD σ H=>tS (X.cc t) Γ (.RB xb) E D σ H):=by
 rintro pZ s σ H D I ⟨env,ρ,S,DU,he,R,w,qq⟩;rwa[wpAny_Try_except (bZ (hb pZ (λ_ _ _ _=>False) [] s σ H D I.al #[env,ρ,S,_,he,R,w,#[qq.nx,qq.rt,λ_ _ _ _ _ _ _ _ z=>aL z]]) (λf s1 q=>?_) λex s1 q=>?_)]
 .have q:=q.sC
  cases f with
  |next=>erw[qt q]
  |ret v=>erw[q]
  |brk=>erw[q]
  |cont=>erw[q]
 .rwa[bZ q (λ_ s2 q2=>?_) λ_ _ z=>aL z]
  let#[_,_,_,_,_,_,_,_,_,_,_,k]:=q2;erw[k.elim]
end
end L2
end
section
set_option autoImplicit false
namespace L2
open PySem PySem.Spec PyProof.Rows PySem.W
open PL (U SO bj Xn KU KX bT)
structure Mt(t:wb)(T:Tab)(Γ:bT)(k n:Nat):Prop where
 fs:∀{I X st x E},iF t T Γ k I X->Tk X E->cS T n I st=some x->PS X st (λD σ H=>tS (X.cc t) Γ x E D σ H)
 Nz:∀{I X st x E},iF t T Γ k I X->Tk X E->Kg T n I st=some x->vZ X st (λD σ H=>Kh (X.cc t) Γ x E D σ H)
section
variable{t:wb}{T:Tab}{Γ:bT}{k n:Nat}{I:Inf}{X:Cx}{E:St->XK}
theorem Qf(IH:Mt t T Γ k n)(G:iF t T Γ k I X)(K:Tk X E):∀{st:List Stmt}{x:PL.dm},Kg T (n+1) I st=some x->vZ X st (λD σ H=>Kh (X.cc t) Γ x E D σ H)
 |[],x,h=>by
  rw[Nx,LK] at h;injection h with h;subst h
  refine(KC (X:=X)).imp ?_;rintro D σ H ⟨env,ρ,S,DU,he,R,w,q⟩;erw[q.nx _ _ _ _ _ w .refl R he]
 |s::ss,x,h=>by
  rw[Nx,LK] at h;dsimp[aK,aA] at h;let#[y,h1,ys,h2,h3]:=h;injection h3 with h3;subst h3
  refine(GV (X:=X) (IH.fs G K h1) (IH.Nz G K h2)).imp ?_;rintro D σ H ⟨env,ρ,S,DU,he,R,w,q⟩;refine#[env,ρ,S,_,he,R,w,#[λenv' S' σ' H' ρ' h st R' e=>?_,q.rt,q.ex]];exact#[env',ρ',S',DU,e,R',h,q.later st]
theorem Ul(IH:Mt t T Γ k n)(G:iF t T Γ k I X)(K:Tk X E){st:Stmt}{x:PL.Sm}(h:cS T (n+1) I st=some x):PS X st (λD σ H=>tS (X.cc t) Γ x E D σ H):=by
 have A:=yK (t:=t) (T:=T) (Γ:=Γ) (k:=k) n;rw[Yd] at h;cases st with(delta Yb at h;dsimp only at h)
 |Assign ts e pos=>
  split at h
  .rename_i tg
   cases tg with
   |Name x' px=>
    dsimp only at h;split at h
    .rename_i i hi
     split at h
     .rename_i hl
      let#[y,h1,h2]:=au.mp h;subst h2;by_cases nc:yE e=true
      .erw[P9 G K hi hl (λenv=>AG nc) (A.fe G.g h1)]
      .change cE T n I _=_ at h1
       cases n with
       |zero=>rw[TM] at h1;erw[nn h1]
       |succ n=>
        have A':=yK (t:=t) (T:=T) (Γ:=Γ) (k:=k) n;cases e with
        |ListComp elt gs sc cpos=>
         let#[tg,iter,ifs,xs,it,c,ee,ci,rfl,ht,hc,g1,g2,g3,g4,g5]:=vf h1;subst g5;have hi':=AJ A' G.g ht g1;cases sw:(X.env.blockKind==.function&&X.env.kindOf x'==some .local&&px.line==cpos.line && !(sc.names.any λ(n,k)=>n==x'&&(k==.local||k==.cell))) with
         |true=>
          have hsw:hU (.ListComp elt [#[tg,iter,ifs,0]] sc cpos) (some (.Name x' px)) pos.line X.env=pure true:=by
           show(pure _:Sem Bool)=pure true
           erw[congrArg pure sw]
          have hkl:I.names.lookup x'=some .local:=by
           dsimp[aj] at sw;have:=sw.1.1.2;unfold Env.kindOf at this;rw[G.g.names] at this;simpa using this
          rwa[CI G K hc.2 ht hc.1 g4 hi'.1 hi'.2 (λX' G' ec hx=>DT A' G' ec hx g2) (λX' G' ec=>?_) hi hkl hsw];have:=A'.fe G' g3;rw[ec] at this;erw[this]
         |false=>
          have hsw:hU (.ListComp elt [#[tg,iter,ifs,0]] sc cpos) (some (.Name x' px)) pos.line X.env=pure false:=by
           show(pure _:Sem Bool)=pure false
           erw[congrArg pure sw]
          refine(GY (X:=X) (i:=i) G.g.nd (by rw[G.g.slots];erw[fg hi]) (sE hl G.g.names) (CC K (A.fe G.g h1)) hsw (.inl (G.st x'))).imp ?_;intro D σ H z;erw[CD z]
        |SetComp=>rw[LJ] at h1;unfold RE at h1;erw[nn h1]
        |DictComp=>rw[LJ] at h1;unfold RE at h1;erw[nn h1]
        |_=>erw[absurd rfl nc]
     .erw[nn h]
    .erw[nn h]
   |Attribute o f px=>
    dsimp[aK,aA] at h;let#[q,h1,a,h2,b,h3,h4]:=h;injection h4 with h4;subst h4
    let#[hm,rfl]:=mm h1;erw[Mn G K hm (A.fe G.g h2) (A.fe G.g h3)]
   |Subscript o i px=>
    dsimp only at h;split at h
    .dsimp[aK,aA] at h
     let#[a,h1,b,h2,c,h3,h4]:=h;injection h4 with h4;subst h4
     erw[Mo G K (A.fe G.g h1) (A.fe G.g h2) (A.fe G.g h3)]
    .erw[nn h]
   |_=>erw[nn h]
  .erw[nn h]
 |AugAssign tg op e pos=>
  cases tg with
  |Name x' px=>
   dsimp only at h;split at h
   .rename_i i hi
    split at h
    .rename_i hl
     dsimp[aK,aA] at h;let#[p,h1,y,h2,h3]:=h;injection h3 with h3;subst h3
     erw[Qc G K hi hl h1 (A.fe G.g h2)]
    .erw[nn h]
   .erw[nn h]
  |Attribute o f px=>
   dsimp[aK,aA] at h;let#[q,h1,p,h2,a,h3,b,h4,h5]:=h;injection h5 with h5;subst h5
   let#[hm,rfl]:=mm h1;erw[Mp G K hm h2 (A.fe G.g h3) (A.fe G.g h4)]
  |Subscript o i px=>
   dsimp only at h;split at h
   .rename_i hn
    dsimp[aK,aA] at h;let#[p,h1,a,h2,b,h3,c,h4,h5]:=h;injection h5 with h5;subst h5
    erw[Mq G K hn h1 (A.fe G.g h2) (A.fe G.g h3) (A.fe G.g h4)]
   .erw[nn h]
  |_=>erw[nn h]
 |Expr e pos=>
  split at h
  .rename_i hc
   let#[y,h1,h2]:=au.mp h;subst h2;erw[Uj G K hc (A.fe G.g h1)]
  .erw[nn h]
 |Return e pos=>
  cases e with
  |none=>erw[nn h]
  |some e=>
   let#[y,h1,h2]:=au.mp h;subst h2;erw[Qa G K (A.fe G.g h1)]
 |If c a b pos=>
  dsimp[aK,aA] at h;let#[c,h1,a,h2,b,h3,h4]:=h;injection h4 with h4;subst h4
  erw[Qb G K (A.ft G.g h1) (IH.Nz G K h2) (IH.Nz G K h3)]
 |While c b el pos=>
  split at h
  .rename_i he
   have he:el=[]:=by simpa using he
   subst he;dsimp[aK,aA] at h;let#[c,h1,a,h2,h3]:=h;injection h3 with h3;subst h3
   erw[Qd K (A.ft G.g h1) (IH.Nz G K h2)]
  .erw[nn h]
 |For tg it b el pos=>
  split at h
  .erw[nn h]
  .rename_i hc
   dsimp[gB,GF,aj] at hc;have he:el=[]:=by simpa using hc.2
   subst he;split at h
   .rename_i xs ht
    rcases Cq ht with⟨x,p,rfl,rfl⟩|⟨x,y,p,p',kd,q,rfl,rfl⟩
    .dsimp only at h
     split at h
     .rename_i i hi
      split at h
      .rename_i hl
       dsimp[aK,aA] at h;let#[it,h1,a,h2,h3]:=h;injection h3 with h3;subst h3
       erw[Mr G K hc.1 hi hl (DS h1) (IJ K (A.fi G.g h1)) (IH.Nz G K h2)]
      .erw[nn h]
     .erw[nn h]
    .dsimp only at h
     split at h
     .rename_i i hi
      split at h
      .rename_i j hj
       split at h
       .rename_i hl
        rw[aj] at hl;dsimp[aK,aA] at h;let#[it,h1,a,h2,h3]:=h;injection h3 with h3;subst h3
        erw[Ms G K hc.1 hi hl.1 hj hl.2 (Ny h1) (IJ K (A.fn G.g h1)) (IH.Nz G K h2)]
       .erw[nn h]
      .erw[nn h]
     .erw[nn h]
   .erw[nn h]
 |Raise ex ca pos=>
  injection h with h;subst h
  rintro pZ s σ H D J ⟨env,ρ,S,DU,he,R,w,q⟩;erw[aL w]
 |Try b hs el fi pos=>
  cases hs with
  |nil=>erw[nn h]
  |cons h0 hs=>
   dsimp only at h;split at h
   .rename_i hc
    rw[aj] at hc;let#[he,hf]:=hc;have he:el=[]:=by simpa using he
    have hf:fi=[]:=by simpa using hf
    subst he;subst hf;let#[b,h2,h4]:=au.mp h;subst h4;erw[Qe λpZ E'=>IH.Nz G.al (Uh G.fr) h2]
   .erw[nn h]
 |_=>erw[nn h]
theorem Fy:Mt t T Γ k 0:=by
 constructor
 .intro I X st x E _ _ h;rw[Yc] at h;erw[nn h]
 .intro I X st x E _ _ h;rw[TV] at h;erw[nn h]
theorem AK:∀n,Mt t T Γ k n
 |0=>Fy
 |n+1=>
  have IH:=AK n
  #[λG K h=>Ul IH G K h,λG K h=>Qf IH G K h]
end
end L2
end
section
set_option autoImplicit false
namespace L2
open PySem PySem.Spec PyProof.Rows PySem.W
open PL (U SO bj Xn KU KX bT)
structure Base(c:Ctx)(T:Tab)(kx:Nat):Prop where
 tab:Ip c T
theorem NA{c:Ctx}{T:Tab}{Γ:bT}{k kx n m:Nat}{x qual:Str}{st:Stmt}{f:Addr}{fd:dW}{N ps:List Str}{sp:PL.Spec}{b:PL.dm}(F:Kd c.K x qual st f fd)(S:lx N ps (bO st))
  (B:Base c T kx) (hkx:kx<=k) (G:gc c T Γ k) (hc:Kg T n #[(bO st).names,N,true] (fK st)=some b) (hk:PL.Keeps Γ b m sp) (hm:N.length=ps.length+m) (hl:∀us S Q E,sp us S Q E->us.length=ps.length):
  kg c.P c.w c.K c.mg c.base (tQ c.P c.w) (k+2) f fd ps (lift c sp):=by
 rwa[Kd.Z5 (k:=k+1) F S (λvs H Q E h=>?_) (λcdv A outer s H vs Q E hr h=>?_)]
 .let#[us,ρ,S0,QU,EU,r,R,w,q,qx]:=h
  rw[<-r.len];erw[hl _ _ _ _ w]
 let#[us,ρ,S0,QU,EU,r,R,w,q,qx]:=h
 let t:wb:=#[c.cls]
 let X:=Ab (tQ c.P c.w) c.P c.w c.K c.mg c.base N qual (bO st) f cdv A outer s H E
 have G0:Good t T Γ k #[(bO st).names,N,true] X:=#[B.tab,G,S.kind,rfl,rfl,S.nd,λ_=>#[rfl,hr],by have:=hr.un;show(A.deeper (p8 qual (bO st) s.heap.objs.size f cdv)).units+200<eP;omega]
 have GS:iF t T Γ k #[(bO st).names,N,true] X:=#[G0,#[rfl,rfl],λ_=>rfl]
 have K:Tk X (λ_=>E):=#[λpZ σ s' e z=>by
  let#[a,tb,cl,dx,H',rfl,I,x,fr,q]:=z;erw[Hs pZ σ H' s' a tb cl dx I x fr q],PassesOwn.leaving]
 refine#[_,(AK n).Nz GS K hc,?_];have hlen:us.length=ps.length:=hl _ _ _ _ w;have hvl:vs.length=us.length:=r.len.symm;refine#[us.map some++dH m none,ρ,S0,#[λ_ S1=>QU .bV S1,QU,λ_=>EU],#[?_,λi u e=>?_],R,hk us S0 QU EU w,#[λenv' S' σ' H' ρ' h st R' e=>q _ _ _ _ _ h st R' (eR.mpr rfl),q,λenv' σ' x S' H' ρ' C d h st R' e z=>qx _ _ _ _ _ _ h st R' z]]
 .unfold start
  simp
  omega
 .unfold start
  by_cases z:i<us.length
  .rw[ag (by simpa using z),aC] at e
   let#[u',e1,e2]:=au.mp e;injection e2 with e2;subst e2
   let#[v,e3,r3]:=r.get e1;exact#[v,by rw[ag (by rw[ah,hvl];erw[z]),aC,e3];rfl,r3]
  .rw[aw (by simpa using nG z),zP] at e
   split at e
   .cases e
   .cases e
def CJ:PL.Spec:=λus _ Q _=>∃ns:List Int,us=[.sj ns]/\ns.length<=63/\∀S',Q (.bl true) S'
def yL(K:Frag):Sp:=λvs H Q _=>∃(a:Addr)(ns:List Int),vs=[.ref a]/\ns.length<=63/\xh K H a (ns.map .int)/\∀H',Q (.bl true) H'
theorem Mu{c:Ctx}{k:Nat}{f:Addr}{fd:dW}{ps:List Str}(F:kg c.P c.w c.K c.mg c.base (tQ c.P c.w) k f fd ps (lift c CJ)):kg c.P c.w c.K c.mg c.base (tQ c.P c.w) k f fd ps (yL c.K):=by
 rwa[F.imp λvs H Q E h=>?_]
 let#[a,ns,rfl,hl,hf,q]:=h;refine#[[.sj ns],[],[],λu _=>u=.bl true,λ_ _=>False,aV.cons (rh.mpr #[a,rfl,hf]) aV.nil,#[rfl,wy,λn a o h=>by simp at h],#[ns,rfl,hl,λ_=>rfl],λu S' v H' ρ' e _ _ r=>?_,λ_ _ _ _ _ _ z=>aL z];subst e;rw[fc.mp r]
 erw[q H']
theorem IK{K:Frag}{H:Hp}{a:Addr}{xs:List V}(o:K7 H)(h:iT K H a xs):xh K H a xs:=by
 rcases h with(h|⟨ob,h⟩)|h
 .rcases o a with z|⟨ob,ys,z⟩
  .rw[h] at z;cases z
  .rw[h] at z;cases z
 .erw[.inl #[ob,h]]
 .erw[.inr h]
theorem Qg{P:bf}{w:bJ}{H:Hp}{s s':aq}{e:Value}(h:tQ P w [] H s (λ_ _ _=>False) e s'):False:=by
 let#[a,T,c,dx,H',_,_,_,_,_,_,_,_,z]:=h;erw[z]
end L2
end
section
namespace PL
theorem Wd{a b c:U}:fS "text" [("text",a),("at",b),("depth",c)]=some a:=rfl
theorem ZE{a b c:U}:fS "at" [("text",a),("at",b),("depth",c)]=some b:=rfl
theorem Um{a b c:U}:fS "depth" [("text",a),("at",b),("depth",c)]=some c:=rfl
end PL
open PL
def wN0:="Zs Zt aam Zu XH XI w_var w_lit Zf Zg w_not w_and w_or Zh Zi Xz w_mk XA Zj Zk w_fld aai aaj Zl Zm XB Zn XC aak aal TC Zo XD Zp XF XG Zq O4 O5 O6 Xd O7 Xe Xf V0 Xg YQ Nu YR YS Tp YT Tq YU Z7 Z8 Z9 aaa LC LD Pc Pd Pe Xj LF Xk Pf Xm Ts Xo aab aac aad aae aaf YN YO Tv DF YV YW yt YX YY YZ Y0 Y1 Y2 Y3 Y4 V1 Xp V2 Y5 Y6 Dx Ao xc r8 wR Xw V4 Tw Tz TB v_s v_t v_l bind_f Xx Xh Z6 Xi true_and bp wY aD bL Hy Lr VW Lu List.getElem?_cons_zero List.getElem?_cons_succ List.map_cons List.map_nil List.replicate_zero List.replicate_succ List.cons_append List.nil_append List.append_nil List.set_cons_zero List.set_cons_succ mi Option.join_some"
local macro_rules | `(tactic| walk_at "pl") => do let a:=((wN0++" Y9 Xy Zc Zd Ze iC Wd ZE Um").splitOn " ").toArray.map fun s=>Lean.mkIdent s.toName;`(tactic| simp only [$[$a:ident],*])
namespace PL
noncomputable def lU(x rest:List Nat)(d:Nat):SO:=.ins "Reader" [("text",.str x),("at",.int (x.length-rest.length:Nat)),("depth",.int d)]
def lg(r:Nat)(o:SO)(S S':bj):Prop:=S.length<=S'.length/\S'[r]?=some o/\∀n,n<S.length->n≠r->S'[n]?=S[n]?
def Old(r:Nat)(S S':bj):Prop:=S.length<=S'.length/\∀n,n<S.length->n≠r->S'[n]?=S[n]?
def Ext(S S':bj):Prop:=S.length<=S'.length/\∀n,n<S.length->S'[n]?=S[n]?
noncomputable def cx(l rest:List Nat):Bool:=match rest with|[]=>false|c::_=>l.contains c
def CK:Spec:=λus S Q _=>∃r x rest d l,us=[.loc r,.str l]/\S[r]?=some (lU x rest d)/\rest<:+x/\x.length<=1000/\Q (.bl (cx l rest)) S
section
variable{x rest:List Nat}
theorem IL(h:rest<:+x)(k:Nat):x[x.length-rest.length+k]?=rest[k]?:=by
 let#[p,rfl]:=h;rw[ax,Nat.add_sub_cancel,aw ∅]
 congr 1
 omega
theorem NB(h:rest<:+x):((x.length-rest.length:Nat):Int)<x.length↔rest≠[]:=by
 let#[p,rfl]:=h;cases rest with
 |nil=>simp
 |cons c r=>simp;omega
end
section
variable{S:bj}{r:Nat}{x rest:List Nat}{d:Nat}{q:U->Prop}
theorem yM(h:S[r]?=some (lU x rest d)):nN (.loc r) "text" S q=q (.str x):=by rw[iC,h];rfl
theorem AL(h:S[r]?=some (lU x rest d)):nN (.loc r) "at" S q=q (.int (x.length-rest.length:Nat)):=by rw[iC,h];rfl
theorem IM(h:S[r]?=some (lU x rest d)):nN (.loc r) "depth" S q=q (.int d):=by rw[iC,h];rfl
theorem b9{Q:String->List (String×U)->Prop}(h:S[r]?=some (lU x rest d)):qg S[r]? Q=Q "Reader" [("text",.str x),("at",.int (x.length-rest.length:Nat)),("depth",.int d)]:=by rw[h];rfl
end
theorem Mv(Γ:bT):Keeps Γ jR 0 CK:=by
 rintro us S Q E ⟨r,x,rest,d,l,rfl,hS,hx,hl,q⟩;unfold jR;walk_at "pl";dsimp[<-iC,yM hS,AL hS];walk_at "pl";refine#[∅,?_];rw[jb]
 have h0:=IL hx 0;rw[Nat.add_zero] at h0;rw[h0]
 dsimp[decide_eq_true_eq,NB hx];cases rest with
 |nil=>simpa[cx] using q
 |cons c t=>simp[cx] at q ⊢;exact#[∅,q]
abbrev PR(α:Type):=Except (List Nat) (α×List Nat)
noncomputable def dZ(l rest:List Nat):PR Nat:=match rest with|[]=>.error []|c::r=>if l.contains c then .ok (c,r) else .error (c::r)
noncomputable def mapR{α β:Type}(f:α->β):PR α->PR β|.ok (a,r)=>.ok (f a,r)|.error r=>.error r
noncomputable def bindR{α β:Type}(p:PR α)(f:α->List Nat->PR β):PR β:=match p with|.ok (a,r)=>f a r|.error r=>.error r
noncomputable def nO(c:Nat):U:=.str [c]
def d5(r:Nat)(x:List Nat)(d:Nat)(S:bj)(Q:KU)(E:KX):PR U->Prop
 |.ok (u,r')=>∀S',lg r (lU x r' d) S S'->Q u S'
 |.error r'=>False
def zH(args:List U)(p:List Nat->PR U)(d:Nat):Spec:=λus S Q E=>∃r x rest,us=.loc r::args/\S[r]?=some (lU x rest d)/\rest<:+x/\x.length<=1000/\d5 r x d S Q E (p rest)
def IP:Spec:=λus S Q E=>∃l d,zH [.str l] (λrest=>mapR nO (dZ l rest)) d us S Q E
section
variable{S S1 S2:bj}{r:Nat}{o o':SO}
theorem aZ{α:Type}{l:List α}{n:Nat}{a:α}(h:l[n]?=some a):n<l.length:=(ae.mp h).1
theorem lg.set(h:S[r]?=some o):lg r o' S (S.set r o'):=by
 refine#[by simp,by simp[jw,aZ h],λn hn ne=>?_];rw[af (cA ne)]
theorem lg.refl(h:S[r]?=some o):lg r o S S:=#[ar _,h,λ_ _ _=>rfl]
theorem Old.trans(a:Old r S S1)(b:Old r S1 S2):Old r S S2:=#[aP a.1 b.1,λn h ne=>(b.2 n (az h a.1) ne).trans (a.2 n h ne)]
theorem lg.old(a:lg r o S S1):Old r S S1:=#[a.1,a.2.2]
theorem lg.trans(a:lg r o S S1)(b:lg r o' S1 S2):lg r o' S S2:=#[aP a.1 b.1,b.2.1,(a.old.trans b.old).2]
theorem Ext.old(a:Ext S S1):Old r S S1:=#[a.1,λn h _=>a.2 n h]
theorem Ext.refl:Ext S S:=#[ar _,λ_ _=>rfl]
theorem Ext.trans(a:Ext S S1)(b:Ext S1 S2):Ext S S2:=#[aP a.1 b.1,λn h=>(b.2 n (az h a.1)).trans (a.2 n h)]
theorem Ext.get(a:Ext S S1)(h:S[r]?=some o):S1[r]?=some o:=(a.2 r (aZ h)).trans h
theorem Ext.chg(a:Ext S S1)(h:S[r]?=some o):lg r o S S1:=#[a.1,a.get h,λn h _=>a.2 n h]
theorem Ext.app(l:List SO):Ext S (S++l):=#[by simp,λn h=>ag h]
theorem gs(h:S[r]?=some o):(S.set r o')[r]?=some o':=(lg.set h).2.1
end
theorem sub_len{x t:List Nat}{c:Nat}(h:(c::t)<:+x):((x.length-(c::t).length:Nat):Int)+1=(x.length-t.length:Nat):=by
 let#[p,rfl]:=h;simp
 omega
theorem Qh{x t:List Nat}{z v:U}{d:Nat}(h:z=.int (x.length-t.length:Nat)):SO.ins "Reader" (gV "at" z [("text",.str x),("at",v),("depth",.int d)])=lU x t d:=by subst h;rfl
theorem yN{x t:List Nat}{c:Nat}(h:(c::t)<:+x):t<:+x:=mF (dg c t) h
theorem Mw(Γ:bT)(h1:Γ "Reader.sees"=CK):Keeps Γ iH 0 IP:=by
 rintro us S Q E ⟨l,d,r,x,rest,rfl,hS,hx,hl,q⟩;unfold iH;walk_at "pl";dsimp[b9 hS,h1];walk_at "pl";refine#[rfl,r,x,rest,d,l,rfl,hS,hx,hl,?_];walk_at "pl";dsimp[b9 hS];walk_at "pl";cases rest with
 |nil=>erw[q.elim]
 |cons c t=>
  by_cases e:l.contains c=true
  .dsimp[dZ,e,if_true,mapR,d5] at q
   dsimp[cx,e];have p:=Qh (v:=.int ((x.length-(c::t).length:Nat):Int)) (d:=d) (congrArg U.int (sub_len hx));have g:=gs (o':=lU x t d) hS;dsimp[bz,ak,if_false,O4];dsimp[b9 hS,p];dsimp[<-iC,yM g,AL g,O7,Tv];refine#[trivial,by simp,∅,?_];have e2:((x.length-t.length:Nat):Int)-1=(x.length-(c::t).length:Nat):=by have:=sub_len hx;omega
   have h0:=IL hx 0;rw[Nat.add_zero] at h0;rw[e2,jb,h0]
   erw[q _ (lg.set hS)]
  .dsimp[dZ,e,mapR,d5] at q
   dsimp[cx,e];erw[q.elim]
def Suf{α:Type}(rest:List Nat):PR α->Prop
 |.ok (_,r)=>r<:+rest
 |.error r=>r<:+rest
def lV{α:Type}(rest:List Nat):PR α->Prop
 |.ok (_,r)=>r<:+rest/\r.length<rest.length
 |.error r=>r<:+rest
theorem lV.Qi{α:Type}{rest:List Nat}{p:PR α}(h:lV rest p):Suf rest p:=by
 cases p with
 |ok v=>erw[h.1]
 |error r=>erw[h]
theorem lV.bind{α β:Type}{rest:List Nat}{p:PR α}{f:α->List Nat->PR β}(h:lV rest p)(k:∀a r,p=.ok (a,r)->Suf r (f a r)):lV rest (bindR p f):=by
 cases p with
 |error r=>erw[h]
 |ok v=>
  let#[a,r]:=v;have:=k a r rfl;unfold bindR;dsimp only;cases q:f a r with
  |error r'=>rw[q] at this;erw[this.trans h.1]
  |ok w=>
   let#[b,r']:=w;rw[q] at this;exact#[this.trans h.1,lO this.length_le h.2]
theorem Suf.bind{α β:Type}{rest:List Nat}{p:PR α}{f:α->List Nat->PR β}(h:Suf rest p)(k:∀a r,p=.ok (a,r)->Suf r (f a r)):Suf rest (bindR p f):=by
 cases p with
 |error r=>erw[h]
 |ok v=>
  let#[a,r]:=v;have:=k a r rfl;unfold bindR;dsimp only;cases q:f a r with
  |error r'=>rw[q] at this;erw[this.trans h]
  |ok w=>
   let#[b,r']:=w;rw[q] at this;erw[this.trans h]
theorem gG(l rest:List Nat):lV rest (dZ l rest):=by
 cases rest with
 |nil=>erw[bE _]
 |cons c t=>
  unfold dZ;dsimp only;split
  .exact#[dg c t,by simp]
  .erw[bE _]
theorem d5.bind{α:Type}{toU:α->U}{p:PR α}{f:α->List Nat->PR U}{r d:Nat}{x rest:List Nat}{S S1:bj}{Q Q1:KU}{E:KX}(h:d5 r x d S Q E (bindR p f))(st:lg r (lU x rest d) S S1)
  (k:∀a r1 S2,p=.ok (a,r1)->lg r (lU x r1 d) S S2->d5 r x d S Q E (f a r1)->Q1 (toU a) S2):d5 r x d S1 Q1 E (mapR toU p):=by
 cases p with
 |error r'=>erw[h]
 |ok v=>
  let#[a,r1]:=v;erw[λS' c=>k a r1 S' rfl (st.trans c) h]
theorem Mx{p:PR U}:mapR id p=p:=by
 cases p with
 |ok v=>rfl
 |error r=>rfl
theorem xr{α β:Type}{f:α->β}{p:PR α}:mapR f p=bindR p (λa r=>.ok (f a,r)):=by
 cases p with
 |ok v=>rfl
 |error r=>rfl
theorem lI{g:bj->Prop}{c:U->bj->(Bool->bj->Prop)->Prop}{e:U->bj->KU->Prop}{Q:List U->bj->Prop}(p:Nat->Bool){S:bj}(hg:g S)(hc:∀n k,k (p n) S->c (.str [n]) S k)(he:∀n k,k (.str [n]) S->e (.str [n]) S k):
  ∀(l:List Nat)(acc:List U),acc.length+l.length<1000000->Q (acc++(l.filter p).map nO) S->nB g c e Q (l.map λn=>.str [n]) acc S
 |[],acc,hl,q=>#[hg,by simpa using hl,by simpa using q]
 |n::l,acc,hl,q=>by
  dsimp[aW] at hl;refine#[hg,∅,hc n _ ?_];by_cases h:p n=true
  .rw[if_pos h]
   rwa[he n _ (lI p hg hc he l (acc++[.str [n]]) (by simp;omega) ?_)];rw[J4,if_pos h] at q;simpa[nO] using q
  .rw[if_neg h]
   rwa[lI p hg hc he l acc ∅ ?_];rw[J4,if_neg h] at q;erw[q]
theorem join_ones:∀l:List Nat,lz [] (l.map λn=>[n])=l
 |[]=>rfl
 |[n]=>rfl
 |n::m::l=>by
  have:=join_ones (m::l);dsimp[ay] at this ⊢;dsimp[lz,bX];rw[this];rfl
noncomputable def dY(l:List Nat):List Nat:=SG.filter λc=>!l.contains c
noncomputable def inOrder(l:List Nat):List Nat:=SG.filter λc=>l.contains c
def spT(f:List Nat->List Nat):Spec:=λus S Q _=>∃l,us=[.str l]/\∀S',Ext S S'->Q (.str (f l)) S'
theorem vo:∀l:List Nat,((l.map λn=>[n]).map cD).sum=l.length
 |[]=>rfl
 |n::l=>by rw[ay,ay,zD,vo l];simp;omega
theorem DV(l:List Nat):l.map nO=(l.map λn=>[n]).map U.str:=by
 rw[bq];rfl
theorem DW(p:Nat->Bool):(SG.filter p).length<=95:=aP (BC _ _) ⋯
theorem AM(Γ:bT):Keeps Γ mR 0 (spT inOrder):=by
 rintro us S Q E ⟨l,rfl,q⟩;unfold mR;walk_at "pl";refine lI (λc=>l.contains c) trivial (λn k h=>by rw[LC];exact h) (λn k h=>h) SG [] ⋯ ?_;dsimp[iZ];try walk_at "pl"
 refine#[(inOrder l).map λn=>[n],?_,?_,?_]
 .rw[<-DV];simp[inOrder]
 .have:=DW λc=>l.contains c
  rw[vo];simp[inOrder] at this ⊢;omega
 .rw[join_ones];erw[q _ (Ext.app _)]
theorem vp(Γ:bT):Keeps Γ o9 0 (spT dY):=by
 rintro us S Q E ⟨l,rfl,q⟩;unfold o9;walk_at "pl";refine lI (λc=>!l.contains c) trivial (λn k h=>by rw[LD];exact h) (λn k h=>h) SG [] ⋯ ?_;dsimp[iZ];try walk_at "pl"
 refine#[(dY l).map λn=>[n],?_,?_,?_]
 .rw[<-DV];simp[dY]
 .have:=DW λc=>!l.contains c
  rw[vo];simp[dY] at this ⊢;omega
 .rw[join_ones];erw[q _ (Ext.app _)]
def DX:Spec:=λus S Q _=>∃a b,us=[.str [a],.str [b]]/\a∈SG/\b∈SG/\Q (.bl (decide (SG.idxOf a<SG.idxOf b))) S
theorem AN(Γ:bT):Keeps Γ mS 0 DX:=by
 rintro us S Q E ⟨a,b,rfl,ha,hb,q⟩;unfold mS;walk_at "pl";refine#[a,rfl,ha,b,rfl,hb,?_];simpa using q
noncomputable def kQ(a b:Nat):List Nat:=(SG.drop (SG.idxOf a)).take (SG.idxOf b+1-SG.idxOf a)
def xt:Spec:=λus S Q _=>∃a b,us=[.str [a],.str [b]]/\a∈SG/\b∈SG/\Q (.str (kQ a b)) S
theorem CM{a:Nat}(h:a∈SG):SG.idxOf a<95:=by
 have:=List.idxOf_lt_length_iff.mpr h;simpa using this
theorem CN(Γ:bT):Keeps Γ pb 0 xt:=by
 rintro us S Q E ⟨a,b,rfl,ha,hb,q⟩;unfold pb;walk_at "pl";refine#[a,rfl,ha,?_];refine#[b,rfl,hb,?_];try walk_at "pl"
 have h1:=CM ha;have h2:=CM hb;refine#[#[λi e=>?_,λi e=>?_],⋯,?_]
 .injection e with e;omega
 .injection e with e;omega
 .have e:qh SG (some (SG.idxOf a:Int)) (some ((SG.idxOf b:Int)+1))=kQ a b:=by
   unfold qh kQ;have l:SG.length=95:=⋯
   dsimp[d7,l];have e1:min (((SG.idxOf a:Nat):Int).toNat) 95=SG.idxOf a:=∅
   have e2:min ((((SG.idxOf b:Nat):Int)+1).toNat) 95=SG.idxOf b+1:=∅
   rw[e1,e2]
  show Q (.str (qh SG (some (SG.idxOf a:Int)) (some ((SG.idxOf b:Int)+1)))) S
  rw[e];erw[q]
noncomputable abbrev BB:List Nat:=[46,124,40,41,91,93,42,43,63,92,45,94,110]
noncomputable abbrev MO:List Nat:=[46,124,40,41,91,93,42,43,63,92]
noncomputable abbrev MW:List Nat:=[93,45,92]
noncomputable def kn(m rest:List Nat):PR Nat:=
 match rest with
 |92::r=>bindR (dZ BB r) λs r'=>.ok (if s=110 then 10 else s,r')
 |_=>dZ (dY m) rest
theorem IQ(m r:List Nat):kn m (92::r)=bindR (dZ BB r) λs r'=>.ok (if s=110 then 10 else s,r'):=rfl
theorem AO{m rest:List Nat}(h:cx [92] rest=false):kn m rest=dZ (dY m) rest:=by
 unfold kn;split
 .simp[cx] at h
 .rfl
theorem IS{c:Nat}{rest:List Nat}(h:cx [c] rest=true):∃t,rest=c::t:=by
 cases rest with
 |nil=>simp[cx] at h
 |cons a t=>simp[cx] at h;subst h;exact#[t,rfl]
theorem kK(m rest:List Nat):lV rest (kn m rest):=by
 unfold kn;split
 .rename_i r
  have h:=(gG BB r).bind (f:=λs r'=>(.ok (if s=110 then 10 else s,r'):PR Nat)) λa r' _=>bE _
  cases q:bindR (dZ BB r) λs r'=>(.ok (if s=110 then 10 else s,r'):PR Nat) with
  |error r'=>rw[q] at h;erw[h.trans (dg _ _)]
  |ok v=>rw[q] at h;exact#[h.1.trans (dg _ _),bc h.2]
 .erw[gG _ _]
theorem DY{l rest:List Nat}{c:Nat}{r:List Nat}(h:dZ l rest=.ok (c,r)):c∈l/\rest=c::r:=by
 cases rest with
 |nil=>simp[dZ] at h
 |cons a t=>
  unfold dZ at h;dsimp only at h;split at h
  .rename_i z
   injection h with h;injection h with h1 h2;subst h1;subst h2
   exact#[by simpa using z,rfl]
  .cases h
theorem vq{m rest:List Nat}{c:Nat}{r:List Nat}(h:kn m rest=.ok (c,r)):c∈SG:=by
 unfold kn at h;split at h
 .rename_i t
  cases q:dZ BB t with
  |error r'=>rw[q] at h;cases h
  |ok v=>
   let#[s,r']:=v;rw[q] at h;dsimp[bindR] at h;injection h with h;injection h with h1 h2
   have hs:=(DY q).1;subst h1;split
   .decide
   .have:∀s∈BB,s∈SG:=⋯
    erw[this s hs]
 .have:=(DY h).1
  unfold dY at this;exact(eU.mp this).1
def DZ(d:Nat):Spec:=λus S Q E=>∃m,zH [.str m] (λrest=>mapR nO (kn m rest)) d us S Q E
structure GR(Γ:bT):Prop where
 sees:Γ "Reader.sees"=CK
 pass:Γ "Reader.passes"=IP
 CO:Γ "all_but"=spT dY
 Qj:Γ "in_order"=spT inOrder
 ahead:Γ "is_ahead"=DX
 IT:Γ "stretch"=xt
theorem IU(Γ:bT)(G:GR Γ)(d:Nat):Keeps Γ eF 1 (DZ d):=by
 rintro us S Q E ⟨m,r,x,rest,rfl,hS,hx,hl,q⟩;have q:d5 r x d S Q E (mapR nO (kn m rest)):=q;unfold eF;walk_at "pl";dsimp[b9 hS,G.sees,G.pass];walk_at "pl";refine#[rfl,r,x,rest,d,_,rfl,hS,hx,hl,?_];walk_at "pl";by_cases e:cx [92] rest=true
 .let#[t,rfl]:=IS e
  dsimp[e,bz,ak,if_false];dsimp[b9 hS];refine#[#[by first|trivial|rfl,rfl],[92],d,r,x,_,rfl,hS,hx,hl,?_];have ht:=yN hx;show d5 r x d S _ E (mapR nO (.ok (92,t)));intro S1 c1;try walk_at "pl"
  dsimp[b9 c1.2.1];refine#[#[by first|trivial|rfl,rfl],BB,d,r,x,t,rfl,c1.2.1,ht,hl,?_];rw[IQ] at q;have q':d5 r x d S Q E (bindR (dZ BB t) λs r'=>.ok (nO (if s=110 then 10 else s),r')):=by
   cases z:dZ BB t with
   |error r'=>rw[z] at q;erw[q]
   |ok v=>rw[z] at q;erw[q]
  rwa[q'.bind c1 λa r1 S2 e1 c2 q2=>?_]
  unfold nO;try walk_at "pl"
  dsimp[beq_iff_eq,dG,and_true];have:=q2 S2 c2;unfold nO at this;by_cases z:a=110
  .subst z;simpa using this
  .dsimp[z,if_false] at this ⊢;erw[this]
 .have e:cx [92] rest=false:=by simpa using e
  dsimp[e,bM,if_true];dsimp[b9 hS,G.CO,true_and];refine#[rfl,m,rfl,λS1 x1=>?_];refine#[dY m,d,r,x,rest,rfl,x1.get hS,hx,hl,?_];show d5 r x d S1 Q E (mapR nO (dZ (dY m) rest));rw[AO e] at q;cases z:dZ (dY m) rest with
  |error r'=>rw[z] at q;erw[q]
  |ok v=>rw[z] at q;erw[λS' c=>q S' ((x1.chg hS).trans c)]
end PL
local macro_rules | `(tactic| walk_at "qpf") => do let a:=((wN0++" HL Zr Zv TF TH Zw iC Wd ZE Um").splitOn " ").toArray.map fun s=>Lean.mkIdent s.toName;`(tactic| simp only [$[$a:ident],*])
local macro_rules | `(tactic| walk_at "pf") => `(tactic| ((try refine Rest.go ?_); walk_at "qpf"; repeat ((refine Rest.go ?_); walk_at "qpf")))
namespace PL
noncomputable def kR(first:Nat)(r:List Nat):PR (List Nat):=
 match r with
 |45::r2=>bindR (kn MW r2) λsecond r3=>if SG.idxOf second<SG.idxOf first then .error r2 else .ok (kQ first second,r3)
 |_=>.ok ([first],r)
noncomputable def item(rest:List Nat):PR (List Nat):=bindR (kn MW rest) kR
theorem AQ(f:Nat)(r:List Nat):kR f (45::r)=bindR (kn MW r) λsecond r3=>if SG.idxOf second<SG.idxOf f then .error r else .ok (kQ f second,r3):=rfl
theorem AR{f:Nat}{r:List Nat}(h:cx [45] r=false):kR f r=.ok ([f],r):=by
 unfold kR;split
 .simp[cx] at h
 .rfl
theorem yO(f:Nat)(r:List Nat):Suf r (kR f r):=by
 unfold kR;split
 .rename_i r2
  have h:=(kK MW r2).bind (f:=λsecond r3=>(if SG.idxOf second<SG.idxOf f then .error r2 else .ok (kQ f second,r3):PR (List Nat)));cases q:kn MW r2 with
  |error r'=>have:=kK MW r2;rw[q] at this;erw[this.trans (dg _ _)]
  |ok v=>
   have:=kK MW r2;rw[q] at this;dsimp[bindR];split
   .erw[dg _ _]
   .erw[this.1.trans (dg _ _)]
 .erw[bE _]
theorem rC(rest:List Nat):lV rest (item rest):=(kK MW rest).bind λa r _=>yO a r
theorem jH{α β γ:Type}{g:β->γ}{p:PR α}{f:α->List Nat->PR β}:mapR g (bindR p f)=bindR p λa r=>mapR g (f a r):=by
 cases p with
 |ok v=>rfl
 |error r=>rfl
def IV(d:Nat):Spec:=zH [] (λrest=>mapR U.str (item rest)) d
structure GR2(Γ:bT)(d:Nat):Prop extends GR Γ where
 ws:Γ "Reader.written_sign"=DZ d
theorem My(Γ:bT)(d:Nat)(G:GR2 Γ d):Keeps Γ jT 3 (IV d):=by
 rintro us S Q E ⟨r,x,rest,rfl,hS,hx,hl,q⟩;have q:d5 r x d S Q E (mapR U.str (item rest)):=q;unfold item at q;rw[jH] at q;unfold jT;walk_at "pf";dsimp[b9 hS];refine#[#[by first|trivial|rfl,rfl],ca G.ws #[MW,r,x,rest,rfl,hS,hx,hl,?_]];refine q.bind (lg.refl hS) λa r1 S1 e1 c1 q1=>?_
 have hs:=kK MW rest;rw[e1] at hs;have hx1:=hs.1.trans hx;have g1:=c1.2.1;unfold nO;try walk_at "pf"
 dsimp[b9 g1,true_and];refine#[rfl,ca G.sees #[r,x,r1,d,_,rfl,g1,hx1,hl,?_]];try walk_at "pf"
 by_cases e:cx [45] r1=true
 .let#[t,rfl]:=IS e
  dsimp[e,bz,ak,if_false];walk_at "pf";dsimp[b9 g1,true_and];refine#[rfl,ca G.pass #[[45],d,r,x,_,rfl,g1,hx1,hl,?_]];have ht:=yN hx1;show d5 r x d S1 _ E (mapR nO (.ok (45,t)));intro S2 c2;have g2:=c2.2.1;try walk_at "pf"
  dsimp[<-iC,AL g2];walk_at "pf";dsimp[b9 g2,true_and];refine#[rfl,ca G.ws #[MW,r,x,t,rfl,g2,ht,hl,?_]];rw[AQ,jH] at q1;rwa[q1.bind (c1.trans c2) λb r3 S3 e3 c3 q3=>?_]
  unfold nO;try walk_at "pf"
  have ha:=vq e1;have hb:=vq e3;refine ca G.ahead #[b,a,rfl,hb,ha,?_];try walk_at "pf"
  by_cases z:SG.idxOf b<SG.idxOf a
  .dsimp[z,decide_true,if_true]
   dsimp[z,if_true] at q3;walk_at "pf";erw[q3.elim]
  .dsimp[z,decide_false,ak,if_false]
   dsimp[z,if_false] at q3;walk_at "pf";erw[ca G.IT #[a,b,rfl,ha,hb,q3 S3 c3]]
 .have e:cx [45] r1=false:=by simpa using e
  dsimp[e,bM,if_true];rw[AR e] at q1;walk_at "pf";erw[q1 S1 c1]
noncomputable def kS:Nat->List Nat->List Nat->PR (List Nat)
 |0,_,rest=>.error rest
 |n+1,taken,rest=>if cx [93] rest then .ok (taken,rest) else bindR (item rest) λt r=>kS n (taken++t) r
noncomputable def m9(turned:Bool)(r1:List Nat):PR (List Nat):=
 bindR (item r1) λt r2=>bindR (kS (r2.length+1) t r2) λtaken r3=>bindR (dZ [93] r3) λ_ r4=>.ok (if turned then dY taken else inOrder taken,r4)
noncomputable def clsIn(r0:List Nat):PR (List Nat):=
 match r0 with
 |94::r=>m9 true r
 |_=>m9 false r0
noncomputable def cls(rest:List Nat):PR (List Nat):=bindR (dZ [91] rest) λ_ r0=>clsIn r0
theorem IW{r:List Nat}(h:cx [94] r=false):clsIn r=m9 false r:=by
 unfold clsIn;split
 .simp[cx] at h
 .rfl
theorem vt:∀(n:Nat)(taken rest:List Nat),Suf rest (kS n taken rest)
 |0,_,rest=>bE _
 |n+1,taken,rest=>by
  unfold kS;split
  .erw[bE _]
  .exact(rC rest).Qi.bind λa r _=>vt n _ r
theorem tG(b:Bool)(r:List Nat):Suf r (m9 b r):=
 (rC r).Qi.bind λa r2 _=>(vt _ _ _).bind λt r3 _=>(gG _ _).Qi.bind λ_ r4 _=>bE _
theorem Mz(rest:List Nat):lV rest (cls rest):=by
 refine(gG _ _).bind λa r _=>?_
 unfold clsIn;split
 .rename_i r' hq
  have:=tG true r';cases q:m9 true r' with
  |ok v=>rw[q] at this;erw[mF this (dg _ _)]
  |error v=>rw[q] at this;erw[mF this (dg _ _)]
 .erw[tG false r]
def NC(d:Nat):Spec:=zH [] (λrest=>mapR U.str (cls rest)) d
structure GR3(Γ:bT)(d:Nat):Prop extends GR2 Γ d where
 it:Γ "Reader.item"=IV d
theorem vv{rest t r:List Nat}(h:item rest=.ok (t,r)):t.length<=95:=by
 unfold item at h;cases q:kn MW rest with
 |error r'=>rw[q] at h;cases h
 |ok v=>
  let#[a,r1]:=v;rw[q] at h;dsimp[bindR] at h;unfold kR at h;split at h
  .rename_i r2
   cases q2:kn MW r2 with
   |error r'=>rw[q2] at h;cases h
   |ok v2=>
    rw[q2] at h;dsimp[bindR] at h;split at h
    .cases h
    .injection h with h;injection h with h1 h2;subst h1
     unfold kQ;rwa[aP (List.length_take_le _ _) ?_];have:=CM (vq q2);omega
  .injection h with h;injection h with h1 h2;subst h1;simp
theorem vw{Γ:bT}{d:Nat}(G:GR3 Γ d){r:Nat}{x:List Nat}{S:bj}{E:KX}{fin:Env->bj->Prop}{env:Env}(hl:x.length<=1000)(k1:env[0]?=some (some (.loc r)))
  (cW:Env->bj->(Bool->bj->Prop)->Prop) (bW:Env->bj->(Env->bj->Prop)->Prop)
  (hc:∀taken S1 rest k,S1[r]?=some (lU x rest d)->rest<:+x->k (!cx [93] rest) S1->cW (env.set 2 (some (.str taken))) S1 k)
  (hb:∀taken S1 rest k,taken.length<=900000->S1[r]?=some (lU x rest d)->rest<:+x->d5 r x d S1 (λu S2=>∃t,u=.str t/\t.length<=95/\k (env.set 2 (some (.str (taken++t)))) S2) E (mapR U.str (item rest))->bW (env.set 2 (some (.str taken))) S1 k):
  ∀(n:Nat)(taken rest:List Nat)(S1:bj)(R:List Nat->List Nat->PR U),rest.length<n->taken.length+95*rest.length<=900000->rest<:+x->lg r (lU x rest d) S S1 ->
   (∀t2 r2 S2,lg r (lU x r2 d) S S2->r2<:+x->t2.length<=900000->kS n taken rest=.ok (t2,r2)->fin (env.set 2 (some (.str t2))) S2)->(∀r',kS n taken rest=.error r'->False) ->
   yy cW bW fin n (env.set 2 (some (.str taken))) S1
 |0,_,_,_,_,h,_,_,_,_,_=>∅
 |n+1,taken,rest,S1,R,h,ht,hx,c1,hf,he=>by
  rwa[hc taken S1 rest _ c1.2.1 hx ?_];by_cases e:cx [93] rest=true
  .dsimp[e,bz,ak,if_false]
   erw[hf taken rest S1 c1 hx ∅ (by unfold kS;rw[if_pos e])]
  .have e':cx [93] rest=false:=by simpa using e
   dsimp[e',bM,if_true];rwa[hb taken S1 rest _ ∅ c1.2.1 hx ?_];have hs:=rC rest;cases q:item rest with
   |error r'=>
    erw[he r' (by unfold kS;rw[if_neg e,q];rfl)]
   |ok v=>
    let#[t,r1]:=v;rw[q] at hs;intro S2 c2;refine#[t,rfl,vv q,?_];have hlt:t.length<=95:=vv q;have hE:kS (n+1) taken rest=kS n (taken++t) r1:=by
     conv=>lhs;unfold kS
     rw[if_neg e,q];rfl
    rwa[vw G hl k1 cW bW hc hb n (taken++t) r1 S2 R (by have:=hs.2;omega) (by simp;have:=hs.2;omega) (hs.1.trans hx) (c1.trans c2) (λt2 r2 S3 c3 h3 h4 e3=>hf t2 r2 S3 c3 h3 h4 (by rw[hE];erw[e3])) (λr' e3=>he r' (by rw[hE];erw[e3]))]
theorem Qk(Γ:bT)(d:Nat)(G:GR3 Γ d):Keeps Γ fw 2 (NC d):=by
  rintro us S Q E ⟨r,x,rest,rfl,hS,hx,hl,q⟩;have q:d5 r x d S Q E (mapR U.str (cls rest)):=q;unfold cls at q;rw[jH] at q;unfold fw;walk_at "pf";dsimp[b9 hS];refine#[#[by first|trivial|rfl,rfl],ca G.pass #[[91],d,r,x,rest,rfl,hS,hx,hl,?_]];refine q.bind (lg.refl hS) λa r0 S0 e0 c0 q0=>?_
  have hs0:=gG [91] rest;rw[e0] at hs0;have hx0:=hs0.1.trans hx;have g0:=c0.2.1;walk_at "pf";dsimp[b9 g0,true_and];refine#[rfl,ca G.sees #[r,x,r0,d,_,rfl,g0,hx0,hl,?_]];try walk_at "pf"
  have tail:∀(tb:Bool)(r1:List Nat)(S1:bj),lg r (lU x r1 d) S S1->r1<:+x->d5 r x d S Q E (mapR U.str (m9 tb r1)) ->
      tU Γ (.cons (.set 2 (.cK "Reader" "item" "Reader.item" @0 .nil))
   (.cons (.Ce (.not (.de (.cK "Reader" "sees" "Reader.sees" @0 (.cons ↑[93] .nil)))) (.cons (.aug 2 .add (.cK "Reader" "item" "Reader.item" @0 .nil)) .nil))
   (.cons (.ex (.cK "Reader" "passes" "Reader.passes" @0 (.cons ↑[93] .nil)))
   (.cons (.ret (.Cc (.de @1) (.call "all_but" (.cons @2 .nil)) (.call "in_order" (.cons @2 .nil)))) .nil)))) #[λ_ S1=>Q .bV S1,Q,λ_=>E] [some (.loc r),some (.bl tb),none] S1:=by
    intro tb r1 S1 c1 hx1 q1;unfold m9 at q1;rw[jH] at q1;have g1:=c1.2.1;walk_at "pf";dsimp[b9 g1];refine#[#[by first|trivial|rfl,rfl],ca G.it #[r,x,r1,rfl,g1,hx1,hl,?_]];refine q1.bind c1 λt r2 S2 e2 c2 q2=>?_
    have hs2:=rC r1;rw[e2] at hs2;have hx2:=hs2.1.trans hx1;have hlt:=vv e2;have hr2:r2.length<=1000:=aP hx2.length_le hl;rw[jH] at q2;walk_at "pf";refine#[r2.length+1,vw (S:=S) (E:=E) (env:=[some (.loc r),some (.bl tb),none]) G hl rfl _ _ ?_ ?_ (r2.length+1) t r2 S2 (λ_ _=>.error []) ∅ ∅ hx2 c2 ?_ ?_]
    · intro taken S3 rest3 k g3 hx3 hk
      dsimp[rS,rT];try walk_at "pf"
      dsimp[b9 g3,true_and];refine#[rfl,ca G.sees #[r,x,rest3,d,_,rfl,g3,hx3,hl,?_]];try walk_at "pf"
      erw[hk]
    · intro taken S3 rest3 k htk g3 hx3 hk
      dsimp[rS,rT] at hk ⊢;try walk_at "pf"
      dsimp[b9 g3,true_and];refine#[rfl,ca G.it #[r,x,rest3,rfl,g3,hx3,hl,?_]];show d5 r x d S3 _ E (mapR U.str (item rest3));cases z:item rest3 with
      |error r'=>rw[z] at hk;erw[hk]
      |ok v=>
        let#[t3,r3]:=v;rw[z] at hk;intro S4 c4;let#[t',e',hl',hk']:=hk S4 c4;injection e' with e';subst e'
        rw[O5]
        exact#[∅,Rest.go hk']
    · intro t3 r3 S3 c3 hx3 hl3 e3
      rw[e3] at q2;dsimp[bindR] at q2;have q2:d5 r x d S Q E (mapR U.str (bindR (dZ [93] r3) λ_ r4=>.ok (if tb then dY t3 else inOrder t3,r4))):=q2;rw[jH] at q2;have g3:=c3.2.1;dsimp[rS,rT];try walk_at "pf"
      dsimp[b9 g3,true_and];refine#[rfl,ca G.pass #[[93],d,r,x,r3,rfl,g3,hx3,hl,?_]];rwa[q2.bind c3 λb r4 S4 e4 c4 q4=>?_]
      try walk_at "pf"
      cases tb with
      |true=>erw[ca G.CO #[t3,rfl,λS5 x5=>q4 S5 (c4.trans (x5.chg c4.2.1))]]
      |false=>erw[ca G.Qj #[t3,rfl,λS5 x5=>q4 S5 (c4.trans (x5.chg c4.2.1))]]
    · intro r' e3
      rw[e3] at q2;erw[q2]
  by_cases e:cx [94] r0=true
  · let#[t,rfl]:=IS e
    dsimp[e,if_true];walk_at "pf";dsimp[b9 g0,true_and];refine#[rfl,ca G.pass #[[94],d,r,x,_,rfl,g0,hx0,hl,?_]];show d5 r x d S0 _ E (mapR nO (.ok (94,t)));intro S1 c1;erw[tail true t S1 (c0.trans c1) (yN hx0) q0]
  · have e:cx [94] r0=false:=by simpa using e
    dsimp[e,ak,if_false];rw[IW e] at q0;erw[tail false r0 S0 c0 hx0 q0]
noncomputable def pv(k:List Nat)(ts:List U):U:=match ts with|[t]=>t|_=>.tup [.str k,.tup ts]
def kU:Spec:=λus S Q _=>∃k n ts,us=[.str k,.loc n]/\S[n]?=some (.lst ts)/\ts≠[]/\ts.length<=100000/\Q (pv k ts) S
theorem Fz(Γ:bT):Keeps Γ qW 0 kU:=by
 rintro us S Q E ⟨k,n,ts,rfl,hn,ne,hl,q⟩;unfold qW;walk_at "pl";dsimp[nE hn,hn];walk_at "pl";refine#[∅,?_];cases ts with
 |nil=>erw[absurd rfl ne]
 |cons t ts=>
  cases ts with
  |nil=>
   dsimp[gh];simp[su,pv] at q ⊢;erw[q]
  |cons t2 ts=>
   have h1:((((t::t2::ts).length:Nat):Int)== 1)=false:=by
    dsimp[aW,beq_eq_false_iff_ne];omega
   dsimp[h1,ak,if_false];refine#[by simp,?_];erw[q]
noncomputable abbrev MA:List Nat:=[111,110,101]
noncomputable abbrev kW:List Nat:=[115,116,97,114]
noncomputable abbrev oH:List Nat:=[112,108,117,115]
noncomputable abbrev ki:List Nat:=[109,97,121,98,101]
noncomputable abbrev CP:List Nat:=[114,111,119]
noncomputable abbrev RI:List Nat:=[111,114]
noncomputable def MB(l:List Nat):U:=.tup [.str MA,.str l]
noncomputable def IX(c:Nat)(t:U):U:=.tup [.str (if c=42 then kW else if c=43 then oH else ki),t]
noncomputable def lJ:U->List Nat->U×List Nat
 |t,[]=>(t,[])
 |t,c::r=>if [42,43,63].contains c then lJ (IX c t) r else(t,c::r)
noncomputable def RJ(br:Option (List Nat->PR U))(rest:List Nat):PR U:=
 match br with
 |none=>.error rest
 |some p=>bindR (dZ [40] rest) λ_ r=>bindR (p r) λt r2=>bindR (dZ [41] r2) λ_ r3=>.ok (t,r3)
noncomputable def rD(br:Option (List Nat->PR U))(rest:List Nat):PR U:=
 if cx [40] rest then RJ br rest else if cx [91] rest then mapR MB (cls rest) else if cx [46] rest then bindR (dZ [46] rest) (λ_ r=>.ok (MB (dY [10]),r)) else mapR (λc=>MB [c]) (kn MO rest)
noncomputable def jf(br:Option (List Nat->PR U))(rest:List Nat):PR U:=bindR (rD br rest) λt r=>.ok (lJ t r)
noncomputable def dA(stop:List Nat->Bool)(p:List Nat->PR U):Nat->List U->List Nat->PR (List U)
 |0,_,rest=>.error rest
 |n+1,acc,rest=>if stop rest then .ok (acc,rest) else bindR (p rest) λt r=>dA stop p n (acc++[t]) r
noncomputable def jh(rest:List Nat):Bool:=rest.isEmpty||cx [124,41] rest
noncomputable def stopOr(rest:List Nat):Bool:=!cx [124] rest
noncomputable def wd(br:Option (List Nat->PR U))(rest:List Nat):PR U:=bindR (jf br rest) λt r=>bindR (dA jh (jf br) (r.length+1) [t] r) λts r2=>.ok (pv CP ts,r2)
noncomputable def Ql(br:Option (List Nat->PR U))(rest:List Nat):PR U:=bindR (dZ [124] rest) λ_ r=>wd br r
noncomputable def gZ(br:Option (List Nat->PR U))(rest:List Nat):PR U:=bindR (wd br rest) λt r=>bindR (dA stopOr (Ql br) (r.length+1) [t] r) λts r2=>.ok (pv RI ts,r2)
noncomputable def tH:Nat->Option (List Nat->PR U)
 |0=>none
 |k+1=>some (gZ (tH k))
noncomputable def tI(x:List Nat):PR U:=bindR (gZ (tH 6) x) λt r=>if r=[] then .ok (t,[]) else .error r
theorem AS:∀(t:U)(rest:List Nat),(lJ t rest).2<:+rest
 |t,[]=>bE _
 |t,c::r=>by
  unfold lJ;split
  .exact(AS _ r).trans (dg _ _)
  .erw[bE _]
def nP(br:Option (List Nat->PR U)):Prop:=∀p,br=some p->∀rest,lV rest (p rest)
theorem Qm{br:Option (List Nat->PR U)}(h:nP br)(rest:List Nat):lV rest (RJ br rest):=by
 unfold RJ;cases br with
 |none=>erw[bE _]
 |some p=>exact(gG _ _).bind λa r _=>(h p rfl r).Qi.bind λt r2 _=>(gG _ _).Qi.bind λ_ r3 _=>bE _
theorem lV.map{α β:Type}{rest:List Nat}{p:PR α}{f:α->β}(h:lV rest p):lV rest (mapR f p):=by
 cases p with
 |ok v=>erw[h]
 |error r=>erw[h]
theorem vx{br:Option (List Nat->PR U)}(h:nP br)(rest:List Nat):lV rest (rD br rest):=by
 unfold rD;split
 .erw[Qm h rest]
 .split
  .exact(Mz rest).map
  .split
   .exact(gG _ _).bind λ_ r _=>bE _
   .exact(kK _ _).map
theorem ng{br:Option (List Nat->PR U)}(h:nP br)(rest:List Nat):lV rest (jf br rest):=(vx h rest).bind λt r _=>AS t r
theorem nh{stop:List Nat->Bool}{p:List Nat->PR U}(h:∀rest,lV rest (p rest)):∀(n:Nat)(acc:List U)(rest:List Nat),Suf rest (dA stop p n acc rest)
 |0,_,rest=>bE _
 |n+1,acc,rest=>by
  unfold dA;split
  .erw[bE _]
  .exact(h rest).Qi.bind λa r _=>nh h n _ r
theorem yP{br:Option (List Nat->PR U)}(h:nP br)(rest:List Nat):lV rest (wd br rest):=(ng h rest).bind λt r _=>(nh (ng h) _ _ _).bind λts r2 _=>bE _
theorem IY{br:Option (List Nat->PR U)}(h:nP br)(rest:List Nat):lV rest (Ql br rest):=(gG _ _).bind λ_ r _=>(yP h r).Qi
theorem vy{br:Option (List Nat->PR U)}(h:nP br)(rest:List Nat):lV rest (gZ br rest):=(yP h rest).bind λt r _=>(nh (IY h) _ _ _).bind λts r2 _=>bE _
theorem sF:∀k,nP (tH k)
 |0=>λp e=>nomatch e
 |k+1=>λp e rest=>by injection e with e;subst e;erw[vy (sF k) rest]
theorem d5.ND{α:Type}{toU:α->U}{p:PR α}{f:α->List Nat->PR U}{r d d':Nat}{x rest:List Nat}{S S1:bj}{Q Q1:KU}{E:KX}(h:d5 r x d S Q E (bindR p f))(st:lg r (lU x rest d') S S1)
  (k:∀a r1 S2,p=.ok (a,r1)->lg r (lU x r1 d') S S2->d5 r x d S Q E (f a r1)->Q1 (toU a) S2):d5 r x d' S1 Q1 E (mapR toU p):=by
 cases p with
 |error r'=>erw[h]
 |ok v=>
  let#[a,r1]:=v;erw[λS' c=>k a r1 S' rfl (st.trans c) h]
theorem d5.D1{p:PR U}{f:U->List Nat->PR U}{r d d':Nat}{x rest:List Nat}{S S1:bj}{Q Q1:KU}{E:KX}(h:d5 r x d S Q E (bindR p f))(st:lg r (lU x rest d') S S1)
  (k:∀a r1 S2,p=.ok (a,r1)->lg r (lU x r1 d') S S2->d5 r x d S Q E (f a r1)->Q1 a S2):d5 r x d' S1 Q1 E p:=by
 have:=d5.ND (toU:=id) (Q1:=Q1) h st k;rw[Mx] at this;erw[this]
theorem D3{x t:List Nat}{z:U}{v:Nat}{d':Nat}(h:z=.int (d':Nat)):SO.ins "Reader" (gV "depth" z [("text",.str x),("at",.int (x.length-t.length:Nat)),("depth",.int v)])=lU x t d':=by subst h;rfl
def Uo(br:Option (List Nat->PR U))(d:Nat):Spec:=λus S Q E=>∃r x rest,us=[.loc r]/\S[r]?=some (lU x rest d)/\rest<:+x/\x.length<=1000/\cx [40] rest=true/\d5 r x d S Q E (RJ br rest)
def Up(Γ:bT)(br:Option (List Nat->PR U))(d:Nat):Prop:=
 (br=none/\d=6)\/∃p,br=some p/\d<6/\nP br/\Γ "Reader.choice"=zH [] p (d+1)
theorem Uq(Γ:bT)(G:GR Γ)(br:Option (List Nat->PR U))(d:Nat)(hb:Up Γ br d):Keeps Γ gW 1 (Uo br d):=by
 rintro us S Q E ⟨r,x,rest,rfl,hS,hx,hl,hs,q⟩;unfold gW;walk_at "pf";dsimp[<-iC,IM hS];walk_at "pf";rcases hb with⟨rfl,rfl⟩|⟨p,rfl,hd,hbo,hch⟩
 .have e:((((6:Nat):Int))== 6)=true:=⋯
  dsimp[e,if_true];erw[q.elim]
 .have e:(((d:Nat):Int)== 6)=false:=by dsimp[beq_eq_false_iff_ne];omega
  dsimp[e,ak,if_false];walk_at "pf";dsimp[b9 hS,true_and];refine#[rfl,ca G.pass #[[40],d,r,x,rest,rfl,hS,hx,hl,?_]];unfold RJ at q;rwa[q.bind (lg.refl hS) λa r1 S1 e1 c1 q1=>?_]
  have hs1:=gG [40] rest;rw[e1] at hs1;have hx1:=hs1.1.trans hx;have g1:=c1.2.1;walk_at "pf";dsimp[b9 g1];try walk_at "pf"
  dsimp[b9 g1,D3 (v:=d) (d':=d+1) (t:=r1) (x:=x) (z:=.int ((d:Nat)+1)) rfl];refine#[by first|trivial|rfl,by simp,?_];have c2:lg r (lU x r1 (d+1)) S (S1.set r (lU x r1 (d+1))):=c1.trans (lg.set g1);have g2:=c2.2.1;generalize S1.set r (lU x r1 (d+1))=S2 at c2 g2;walk_at "pf";dsimp[b9 g2,true_and];refine#[rfl,ca hch #[r,x,r1,rfl,g2,hx1,hl,?_]];refine q1.D1 c2 λt r2 S3 e3 c3 q3=>?_
  have hs3:=hbo p rfl r1;rw[e3] at hs3;have hx3:=hs3.1.trans hx1;have g3:=c3.2.1;try walk_at "pf"
  dsimp[b9 g3,true_and];refine#[rfl,ca G.pass #[[41],d+1,r,x,r2,rfl,g3,hx3,hl,?_]];rwa[q3.ND c3 λa r3 S4 e4 c4 q4=>?_]
  have g4:=c4.2.1;walk_at "pf";dsimp[b9 g4];try walk_at "pf"
  dsimp[b9 g4,D3 (v:=d+1) (d':=d) (t:=r3) (x:=x) (z:=.int (((d+1:Nat):Int)-1)) (by congr 1;omega)];refine#[by first|trivial|rfl,by simp,?_];walk_at "pf";exact q4 _ (c4.trans (lg.set g4))
structure GA(Γ:bT)(br:Option (List Nat->PR U))(d:Nat):Prop extends GR3 Γ d where
 cl:Γ "Reader.sign_class"=NC d
 bk:Γ "Reader.bracket"=Uo br d
theorem MC(Γ:bT)(br:Option (List Nat->PR U))(d:Nat)(G:GA Γ br d):Keeps Γ jS 0 (zH [] (rD br) d):=by
 rintro us S Q E ⟨r,x,rest,rfl,hS,hx,hl,q⟩;unfold jS;walk_at "pf";dsimp[b9 hS];refine#[#[by first|trivial|rfl,rfl],ca G.sees #[r,x,rest,d,_,rfl,hS,hx,hl,?_]];try walk_at "pf"
 unfold rD at q;by_cases e1:cx [40] rest=true
 .dsimp[e1,if_true] at q ⊢
  walk_at "pf";dsimp[b9 hS,true_and];exact#[rfl,ca G.bk #[r,x,rest,rfl,hS,hx,hl,e1,q]]
 .have e1':cx [40] rest=false:=by simpa using e1
  dsimp[e1',ak,if_false] at q ⊢;walk_at "pf";dsimp[b9 hS,true_and];refine#[rfl,ca G.sees #[r,x,rest,d,_,rfl,hS,hx,hl,?_]];try walk_at "pf"
  by_cases e2:cx [91] rest=true
  .dsimp[e2,if_true] at q ⊢
   walk_at "pf";dsimp[b9 hS,true_and];refine#[rfl,ca G.cl #[r,x,rest,rfl,hS,hx,hl,?_]];rw[xr] at q;rwa[q.bind (toU:=U.str) (lg.refl hS) λa r1 S1 _ c1 q1=>?_]
   exact#[by simp,q1 S1 c1]
  .have e2':cx [91] rest=false:=by simpa using e2
   dsimp[e2',ak,if_false] at q ⊢;walk_at "pf";dsimp[b9 hS,true_and];refine#[rfl,ca G.sees #[r,x,rest,d,_,rfl,hS,hx,hl,?_]];try walk_at "pf"
   by_cases e3:cx [46] rest=true
   .dsimp[e3,if_true] at q ⊢
    walk_at "pf";dsimp[b9 hS,true_and];refine#[rfl,ca G.pass #[[46],d,r,x,rest,rfl,hS,hx,hl,?_]];rwa[q.bind (lg.refl hS) λa r1 S1 _ c1 q1=>?_]
    walk_at "pf";refine ca G.CO #[[10],rfl,λS2 x2=>?_];try walk_at "pf"
    exact#[by simp,q1 S2 (c1.trans (x2.chg c1.2.1))]
   .have e3':cx [46] rest=false:=by simpa using e3
    dsimp[e3',ak,if_false] at q ⊢;walk_at "pf";dsimp[b9 hS,true_and];refine#[rfl,ca G.ws #[MO,r,x,rest,rfl,hS,hx,hl,?_]];rw[xr] at q;rwa[q.bind (lg.refl hS) λa r1 S1 _ c1 q1=>?_]
    unfold nO;exact#[by simp,q1 S1 c1]
noncomputable def ZF:List (List Nat×List Nat):=[([42],kW),([43],oH),([63],ki)]
theorem IZ{c:Nat}(h:[42,43,63].contains c=true):ZF.lookup [c]=some (if c=42 then kW else if c=43 then oH else ki):=by
 have:c=42\/c=43\/c=63:=by simpa using h
 rcases this with rfl|rfl|rfl<;>rfl
structure GP(Γ:bT)(br:Option (List Nat->PR U))(d:Nat):Prop extends GA Γ br d where
 at_:Γ "Reader.atom"=zH [] (rD br) d
theorem xv{Γ:bT}{r d:Nat}{x:List Nat}{S:bj}{fin:Env->bj->Prop}{e0:Option U}(hl:x.length<=1000)
  (cW:Env->bj->(Bool->bj->Prop)->Prop) (bW:Env->bj->(Env->bj->Prop)->Prop)
  (hc:∀t S1 rest k,S1[r]?=some (lU x rest d)->rest<:+x->k (cx [42,43,63] rest) S1->cW [e0,some t] S1 k)
  (hb:∀t S1 c rest k,S1[r]?=some (lU x (c::rest) d)->(c::rest)<:+x->[42,43,63].contains c=true->(∀S2,lg r (lU x rest d) S1 S2->k [e0,some (IX c t)] S2)->bW [e0,some t] S1 k):
  ∀(rest:List Nat)(t:U)(S1:bj),rest<:+x->lg r (lU x rest d) S S1->(∀S2,lg r (lU x (lJ t rest).2 d) S S2->fin [e0,some (lJ t rest).1] S2)->yy cW bW fin (rest.length+1) [e0,some t] S1
 |[],t,S1,hx,c1,hf=>by
  rwa[hc t S1 [] _ c1.2.1 hx ?_];dsimp[cx,ak,if_false];erw[hf S1 c1]
 |c::rest,t,S1,hx,c1,hf=>by
  rwa[hc t S1 _ _ c1.2.1 hx ?_];by_cases e:[42,43,63].contains c=true
  .dsimp[cx,e,if_true]
   rwa[hb t S1 c rest _ c1.2.1 hx e λS2 c2=>?_]
   refine xv (Γ:=Γ) hl cW bW hc hb rest _ S2 (yN hx) (c1.trans c2) ?_;have:lJ t (c::rest)=lJ (IX c t) rest:=by
    conv=>lhs;unfold lJ
    rw[if_pos e]
   rw[this] at hf;erw[hf]
  .have e':[42,43,63].contains c=false:=by simpa using e
   dsimp[cx,e',ak,if_false];have:lJ t (c::rest)=(t,c::rest):=by
    unfold lJ;rw[if_neg e]
   rw[this] at hf;erw[hf S1 c1]
theorem FA(Γ:bT)(br:Option (List Nat->PR U))(d:Nat)(hbo:nP br)(G:GP Γ br d):Keeps Γ iJ 1 (zH [] (jf br) d):=by
 rintro us S Q E ⟨r,x,rest,rfl,hS,hx,hl,q⟩;unfold iJ;walk_at "pl";dsimp[b9 hS,G.at_];refine#[#[by first|trivial|rfl,rfl],r,x,rest,rfl,hS,hx,hl,?_];unfold jf at q;refine q.D1 (lg.refl hS) λt r1 S1 e1 c1 q1=>?_
 have hs1:=vx hbo rest;rw[e1] at hs1;have hx1:=hs1.1.trans hx;refine#[r1.length+1,xv (Γ:=Γ) (S:=S) hl _ _ ?_ ?_ r1 t S1 hx1 c1 ?_]
 .intro t2 S2 rest2 k g2 hx2 hk
  try walk_at "pl"
  dsimp[b9 g2,G.sees,true_and];refine#[rfl,r,x,rest2,d,_,rfl,g2,hx2,hl,?_];try walk_at "pl"
  erw[hk]
 .intro t2 S2 c rest2 k g2 hx2 hc hk
  try walk_at "pl"
  dsimp[b9 g2,G.pass,true_and];refine#[rfl,[42,43,63],d,r,x,_,rfl,g2,hx2,hl,?_];have e2:dZ [42,43,63] (c::rest2)= .ok (c,rest2):=by unfold dZ;dsimp only;rw[if_pos hc]
  show d5 r x d S2 _ E (mapR nO (dZ [42,43,63] (c::rest2)))
  rw[e2]
  intro S3 c3;unfold nO;rw[yt]
  have:=IZ hc;unfold ZF at this;rw[this,bp]
  exact#[by simp,hk S3 c3]
 .intro S2 c2
  try walk_at "pl"
  erw[q1 S2 c2]
theorem sG{r d n0:Nat}{x:List Nat}{S:bj}{E:KX}{fin:Env->bj->Prop}{env:Env}{stop:List Nat->Bool}{p:List Nat->PR U}(hp:∀rest,lV rest (p rest))
  (cW:Env->bj->(Bool->bj->Prop)->Prop) (bW:Env->bj->(Env->bj->Prop)->Prop) (h0:S.length<=n0) (h1:n0≠r)
  (hc:∀S1 rest k,S1[r]?=some (lU x rest d)->rest<:+x->k (!stop rest) S1->cW env S1 k)
  (hb:∀S1 rest acc k,S1[r]?=some (lU x rest d)->S1[n0]?=some (.lst acc)->acc.length<=2000->rest<:+x->stop rest=false->d5 r x d S1 (λt S2=>k env (S2.set n0 (.lst (acc++[t])))) E (p rest)->bW env S1 k):
  ∀(m:Nat)(acc:List U)(rest:List Nat)(S1:bj),rest.length<m->acc.length+rest.length<=2000->rest<:+x->lg r (lU x rest d) S S1->S1[n0]?=some (.lst acc) ->
   (∀ts r2 S2,dA stop p m acc rest=.ok (ts,r2)->lg r (lU x r2 d) S S2->r2<:+x->S2[n0]?=some (.lst ts)->ts.length<=2000->acc.length<=ts.length->fin env S2)->(∀r',dA stop p m acc rest=.error r'->False) ->
   yy cW bW fin m env S1
 |0,_,_,_,h,_,_,_,_,_,_=>∅
 |m+1,acc,rest,S1,h,ht,hx,c1,hn,hf,he=>by
  rwa[hc S1 rest _ c1.2.1 hx ?_];by_cases e:stop rest=true
  .dsimp[e,bz,ak,if_false]
   erw[hf acc rest S1 (by unfold dA;rw[if_pos e]) c1 hx hn ∅ (ar _)]
  .have e':stop rest=false:=by simpa using e
   dsimp[e',bM,if_true];rwa[hb S1 rest acc _ c1.2.1 hn ∅ hx e' ?_];have hs:=hp rest;cases q:p rest with
   |error r'=>
    erw[he r' (by unfold dA;rw[if_neg e,q];rfl)]
   |ok v=>
    let#[t,r1]:=v;rw[q] at hs;intro S2 c2;have hE:dA stop p (m+1) acc rest=dA stop p m (acc++[t]) r1:=by
     conv=>lhs;unfold dA
     rw[if_neg e,q];rfl
    have hn2:S2[n0]?=some (.lst acc):=(c2.2.2 n0 (aZ hn) h1).trans hn;have c3:lg r (lU x r1 d) S (S2.set n0 (.lst (acc++[t]))):=by
     have c12:=c1.trans c2;refine#[by simpa using c12.1,by rw[af h1];erw[c12.2.1],λm hm ne=>?_];rw[af ∅]
     erw[c12.2.2 m hm ne]
    refine sG hp cW bW h0 h1 hc hb m (acc++[t]) r1 _ (by have:=hs.2;omega) (by simp;have:=hs.2;omega) (hs.1.trans hx) c3 (gs hn2) (λts r2 S3 e3 c4 h3 h4 h5 h6=>hf ts r2 S3 (by rw[hE];erw[e3]) c4 h3 h4 h5 (by simp at h6;omega)) (λr' e3=>he r' (by rw[hE];erw[e3]))
structure GW(Γ:bT)(br:Option (List Nat->PR U))(d:Nat):Prop extends GP Γ br d where
 rp:Γ "Reader.repeat"=zH [] (jf br) d
 jn:Γ "joined"=kU
theorem I8{x rest:List Nat}(h:rest<:+x):decide (((x.length-rest.length:Nat):Int)<x.length)= !rest.isEmpty:=by
 have:=NB h;cases rest with
 |nil=>simp at this ⊢
 |cons a b=>dsimp[ne_eq,reduceCtorEq,not_false_eq_true,iff_true] at this;rw[decide_eq_true this];rfl
theorem Qn(Γ:bT)(br:Option (List Nat->PR U))(d:Nat)(hbo:nP br)(G:GW Γ br d):Keeps Γ kA 1 (zH [] (wd br) d):=by
 rintro us S Q E ⟨r,x,rest,rfl,hS,hx,hl,q⟩;unfold kA;walk_at "pl";dsimp[b9 hS,G.rp];refine#[#[by first|trivial|rfl,rfl],r,x,rest,rfl,hS,hx,hl,?_];unfold wd at q;refine q.D1 (lg.refl hS) λt r1 S1 e1 c1 q1=>?_
 have hs1:=ng hbo rest;rw[e1] at hs1;have hx1:=hs1.1.trans hx;have hr1:r1.length<=1000:=aP hx1.length_le hl;refine#[by simp,?_];have hrl:=aZ hS;have c2:lg r (lU x r1 d) S (S1++[.lst [t]]):=c1.trans ((Ext.app _).chg c1.2.1);have hn:(S1++[SO.lst [t]])[S1.length]?=some (.lst [t]):=by simp
 have hne:S1.length≠r:=by have:=c1.1;omega
 refine#[r1.length+1,sG (S:=S) (E:=E) (n0:=S1.length) (stop:=jh) (p:=jf br) (ng hbo) _ _ c1.1 hne ?_ ?_ (r1.length+1) [t] r1 _ ∅ (by simp;omega) hx1 c2 hn ?_ ?_]
 .intro S2 rest2 k g2 hx2 hk
  try walk_at "pl"
  dsimp[<-iC,yM g2,AL g2];try walk_at "pl"
  refine#[∅,?_];dsimp[I8 hx2];unfold jh at hk;cases rest2 with
  |nil=>simpa using hk
  |cons c t2=>
   dsimp[GG,bM,if_true];dsimp[b9 g2,G.sees,true_and];refine#[rfl,r,x,_,d,_,rfl,g2,hx2,hl,?_];try walk_at "pl"
   simpa using hk
 .intro S2 rest2 acc k g2 hn2 ha hx2 hst hk
  try walk_at "pl"
  dsimp[hn2,b9 g2,G.rp,true_and];try walk_at "pl"
  refine#[rfl,r,x,rest2,rfl,g2,hx2,hl,?_];cases z:jf br rest2 with
  |error r'=>rw[z] at hk;erw[hk]
  |ok v=>
   rw[z] at hk;intro S3 c3;have hn3:S3[S1.length]?=some (.lst acc):=(c3.2.2 _ (aZ hn2) hne).trans hn2;dsimp[hn3];try walk_at "pl"
   exact#[∅,hk S3 c3]
 .intro ts r2 S2 e2 c3 hx2 hn2 hts ht1
  rw[e2] at q1;try walk_at "pl"
  dsimp[G.jn];refine#[CP,S1.length,ts,rfl,hn2,?_,∅,q1 S2 c3];intro z;rw[z] at ht1;simp at ht1
 .intro r' e2
  rw[e2] at q1;erw[q1]
structure GC(Γ:bT)(br:Option (List Nat->PR U))(d:Nat):Prop extends GW Γ br d where
 ZG:Γ "Reader.row"=zH [] (wd br) d
theorem FC(Γ:bT)(br:Option (List Nat->PR U))(d:Nat)(hbo:nP br)(G:GC Γ br d):Keeps Γ iI 1 (zH [] (gZ br) d):=by
 rintro us S Q E ⟨r,x,rest,rfl,hS,hx,hl,q⟩;unfold iI;walk_at "pl";dsimp[b9 hS,G.ZG];refine#[#[by first|trivial|rfl,rfl],r,x,rest,rfl,hS,hx,hl,?_];unfold gZ at q;refine q.D1 (lg.refl hS) λt r1 S1 e1 c1 q1=>?_
 have hs1:=yP hbo rest;rw[e1] at hs1;have hx1:=hs1.1.trans hx;have hr1:r1.length<=1000:=aP hx1.length_le hl;refine#[by simp,?_];have hrl:=aZ hS;have c2:lg r (lU x r1 d) S (S1++[.lst [t]]):=c1.trans ((Ext.app _).chg c1.2.1);have hn:(S1++[SO.lst [t]])[S1.length]?=some (.lst [t]):=by simp
 have hne:S1.length≠r:=by have:=c1.1;omega
 refine#[r1.length+1,sG (S:=S) (E:=E) (n0:=S1.length) (stop:=stopOr) (p:=Ql br) (IY hbo) _ _ c1.1 hne ?_ ?_ (r1.length+1) [t] r1 _ ∅ (by simp;omega) hx1 c2 hn ?_ ?_]
 .intro S2 rest2 k g2 hx2 hk
  try walk_at "pl"
  dsimp[b9 g2,G.sees,true_and];refine#[rfl,r,x,_,d,_,rfl,g2,hx2,hl,?_];try walk_at "pl"
  simpa[stopOr] using hk
 .intro S2 rest2 acc k g2 hn2 ha hx2 hst hk
  try walk_at "pl"
  dsimp[b9 g2,G.pass,true_and];refine#[rfl,[124],d,r,x,rest2,rfl,g2,hx2,hl,?_];unfold Ql at hk;rwa[d5.bind (f:=λ_ r=>wd br r) hk (lg.refl g2) λa r3 S3 e3 c3 q3=>?_]
  have hs3:=gG [124] rest2;rw[e3] at hs3;have hx3:=hs3.1.trans hx2;have g3:=c3.2.1;have hn3:S3[S1.length]?=some (.lst acc):=(c3.2.2 _ (aZ hn2) hne).trans hn2;dsimp[hn3,b9 g3,G.ZG,true_and];try walk_at "pl"
  refine#[rfl,r,x,r3,rfl,g3,hx3,hl,?_];cases z:wd br r3 with
  |error r'=>rw[z] at q3;erw[q3]
  |ok v=>
   rw[z] at q3;intro S4 c4;have hn4:S4[S1.length]?=some (.lst acc):=(c4.2.2 _ (aZ hn3) hne).trans hn3;dsimp[hn4];try walk_at "pl"
   exact#[∅,q3 S4 (c3.trans c4)]
 .intro ts r2 S2 e2 c3 hx2 hn2 hts ht1
  rw[e2] at q1;try walk_at "pl"
  dsimp[G.jn];refine#[RI,S1.length,ts,rfl,hn2,?_,∅,q1 S2 c3];intro z;rw[z] at ht1;simp at ht1
 .intro r' e2
  rw[e2] at q1;erw[q1]
def ni:Spec:=λus S Q _=>∃r x,us=[.loc r,.str x]/\S[r]?=some (.ins "Reader" [])/\Q .bV (S.set r (lU x x 0))
theorem I9(Γ:bT):Keeps Γ jQ 0 ni:=by
 rintro us S Q E ⟨r,x,rfl,hS,q⟩;unfold jQ;walk_at "pl";have hr:=aZ hS;dsimp[hS,bL,gV];refine#[by simp,?_];have g1:=gs (o':=SO.ins "Reader" [("text",U.str x)]) hS;generalize hS1:S.set r (SO.ins "Reader" [("text",U.str x)])=S1 at g1;dsimp[g1,bL];refine#[by simp,?_];have g2:=gs (o':=SO.ins "Reader" (gV "at" (U.int 0) [("text",U.str x)])) g1;generalize hS2:S1.set r (SO.ins "Reader" (gV "at" (U.int 0) [("text",U.str x)]))=S2 at g2;dsimp[g2,bL];refine#[by simp[gV],?_];subst hS2;subst hS1;rw[sV,sV]
 have e:SO.ins "Reader" (gV "depth" (.int 0) (gV "at" (.int 0) [("text",.str x)]))=lU x x 0:=by
  unfold lU;rw[bH]
  rfl
 simpa[<-e] using q
def CQ:Spec:=λus S Q E=>∃x,us=[.str x]/\x.length<=1000/\match tI x with
 |.ok (t,_)=>∀S',Ext S S'->Q t S'
 |.error r=>False
theorem MD(Γ:bT)(h1:Γ "Reader.__init__"=ni)(h2:Γ "Reader.choice"=zH [] (gZ (tH 6)) 0):Keeps Γ yB 2 CQ:=by
 rintro us S Q E ⟨x,rfl,hl,q⟩;unfold yB;walk_at "pl";dsimp[h1,h2];have hn:(S++[SO.ins "Reader" []])[S.length]?=some (.ins "Reader" []):=by simp
 refine#[S.length,x,rfl,hn,rfl,?_];try walk_at "pl"
 have g1:=gs (o':=lU x x 0) hn;have x1:Old S.length S ((S++[SO.ins "Reader" []]).set S.length (lU x x 0)):=by
  refine#[by simp,λn h ne=>?_];rw[af (cA ne),ag h]
 generalize (S++[SO.ins "Reader" []]).set S.length (lU x x 0)=S1 at g1 x1;dsimp[b9 g1,true_and];have toE:∀{S'},Old S.length S S'->Ext S S':=λo=>#[o.1,λn h=>o.2 n h ∅]
 refine#[rfl,S.length,x,x,rfl,g1,bE _,hl,?_];unfold tI at q;cases z:gZ (tH 6) x with
 |error r'=>
  rw[z] at q;erw[q]
 |ok v=>
  let#[t,r1]:=v;have hs:=vy (sF 6) x;rw[z] at q hs;intro S2 c2;have g2:=c2.2.1;dsimp[<-iC,AL g2];try walk_at "pl"
  refine#[∅,?_];dsimp[I8 hs.1];dsimp[bindR] at q;cases r1 with
  |nil=>
   dsimp[List.isEmpty_nil,bz,ak,if_false];try walk_at "pl"
   simp at q;erw[q S2 (toE (x1.trans c2.old))]
  |cons c t2=>
   dsimp[GG,bM,if_true];dsimp[reduceCtorEq,if_false] at q
section
variable{d f c:Nat}{r rest:List Nat}
def hd(rest:List Nat)(l:List Nat):Prop:=cx l rest=true
end
section
variable{α:Type}
theorem ME{l:List α}{i:Int}(h0:0<=i)(h1:i<l.length):∃a,sk l i=some a/\a∈l:=by
 obtain⟨n,rfl⟩:∃n:Nat,i=n:=#[i.toNat,∅]
 have h2:n<l.length:=∅
 exact#[l[n],by rw[jb,aa h2],cu h2]
theorem qp{l:List α}{i:Int}{r:α->Prop}(h0:0<=i)(h1:i<l.length)(h:∀a∈l,r a):opt (sk l i) r:=by
 let#[a,e,m]:=ME h0 h1;rw[e];erw[h a m]
end
namespace tD
def CS:Spec:=λus S Q _=>∃ns k,us=[.sj ns,.int k]/\ns.length<=1000/\∀m,Q (.int m) S
theorem MF(Γ:bT):Keeps Γ lD 0 CS:=by
 rintro us S Q E ⟨ns,k,rfl,hl,q⟩;unfold lD;walk_at "pl";by_cases h:ns.length=0
 .dsimp[h,bne_self_eq_false,ak,if_false]
  try walk_at "pl"
  erw[q 0]
 .have h':(ns.length !=0)=true:=by simpa using h
  dsimp[h',if_true];try walk_at "pl"
  refine#[∅,∅,∅,?_];erw[qp (i5 _ ∅) (fY _ ∅) (λa _=>q a)]
def xw:Spec:=λus S Q _=>∃ns k,us=[.sj ns,.int k]/\ns.length<=1000/\∀m:Int,0<=m->m<4294967231->Q (.int m) S
theorem Qo(Γ:bT)(h1:Γ "_law_cell"=CS):Keeps Γ mU 1 xw:=by
 rintro us S Q E ⟨ns,k,rfl,hl,q⟩;unfold mU;walk_at "pl";dsimp[h1];refine#[ns,k,rfl,hl,λc=>?_];walk_at "pl";refine#[∅,∅,∅,∅,∅,∅,∅,?_];erw[q _ ∅ ∅]
def AU:Spec:=λus S Q _=>us=[]/\∀G,G=SG->Q (.str G) S
theorem Qp(Γ:bT):Keeps Γ mV 1 AU:=by
 rintro us S Q E ⟨rfl,q⟩;unfold mV;walk_at "pl";exact#[⋯,q _ rfl]
end tD
namespace tD
end tD
theorem pA{cW:Env->bj->(Bool->bj->Prop)->Prop}{bW:Env->bj->(Env->bj->Prop)->Prop}{fin:Env->bj->Prop}(I:Nat->Env->bj->Prop)
  (h:∀n env S k,I n env S->(∀m env' S',m<n->I m env' S'->k env' S')->cW env S (λt S1=>if t=true then bW env S1 k else fin env S1)):
  ∀N n env S,n<N->I n env S->yy cW bW fin N env S
 |0,_,_,_,hn,_=>∅
 |N+1,n,env,S,hn,hi=>h n env S _ hi λm env' S' hm hi'=>pA I h N m env' S' ∅ hi'
theorem D6{g:bj->Prop}{turn:U->Env->bj->(Env->bj->Prop)->Prop}{fin:Env->bj->Prop}(I:Nat->Env->bj->Prop)(hg:∀i env S,I i env S->g S)(l:List U)
  (h:∀i u env S k,l[i]?=some u->I i env S->(∀env' S',I (i+1) env' S'->k env' S')->turn u env S k) (hf:∀env S,I l.length env S->fin env S):
  ∀n i env S,i+n=l.length->I i env S->u9 g turn fin (l.drop i) env S
 |0,i,env,S,e,hi=>by
  rw[jx ∅]
  have:i=l.length:=∅
  subst this;exact#[hg _ _ _ hi,hf _ _ hi]
 |n+1,i,env,S,e,hi=>by
  have hlt:i<l.length:=∅
  rw[eT hlt]
  exact#[hg _ _ _ hi,h i _ env S _ (aa hlt) hi λenv' S' hi'=>D6 I hg l h hf n (i+1) env' S' ∅ hi']
theorem cQ{g:bj->Prop}{turn:U->Env->bj->(Env->bj->Prop)->Prop}{fin:Env->bj->Prop}(I:Nat->Env->bj->Prop)(hg:∀i env S,I i env S->g S)(l:List U)
  (h:∀i u env S k,l[i]?=some u->I i env S->(∀env' S',I (i+1) env' S'->k env' S')->turn u env S k) (hf:∀env S,I l.length env S->fin env S)
  {env:Env}{S:bj} (hi:I 0 env S):u9 g turn fin l env S:=D6 I hg l h hf l.length 0 env S ∅ hi
theorem kX{n i:Nat}{u:U}(h:((cf n).map λk=>U.int (k:Nat))[i]?=some u):u=.int i/\i<n:=by
 rw[aC] at h;have hl:i<n:=by
  rcases By i n with z|z
  .erw[z]
  .rw[dD (by simpa using z)] at h;simp at h
 rw[iG hl] at h;simp at h;exact#[h.symm,hl]
namespace tD
end tD
def vz(br:Option (List Nat->PR U))(x:List Nat)(t:U):Prop:=∀rest,rD br (x++rest)= .ok (t,rest)
noncomputable def MG(t:U)(ms:List Nat):U:=ms.foldl (λt c=>IX c t) t
def vA(br:Option (List Nat->PR U))(x:List Nat)(t:U):Prop:=∃a ta ms,x=a++ms/\vz br a ta/\(∀c∈ms,c∈[42,43,63])/\t=MG ta ms
theorem D7:∀(ms:List Nat)(t:U)(rest:List Nat),(∀c∈ms,c∈[42,43,63])->cx [42,43,63] rest=false->lJ t (ms++rest)=(MG t ms,rest)
 |[],t,rest,_,h=>by
  cases rest with
  |nil=>rfl
  |cons c r=>
   have h:[42,43,63].contains c=false:=h;rw[iZ,lJ,h]
   rfl
 |m::ms,t,rest,hm,h=>by
  have e:[42,43,63].contains m=true:=gv.mpr (hm m (aO ..));rw[nq,lJ,if_pos e,D7 ms _ rest (λc hc=>hm c (aB _ hc)) h]
  rfl
theorem Ja{br:Option (List Nat->PR U)}{x:List Nat}{t:U}{rest:List Nat}(h:vA br x t)(hr:cx [42,43,63] rest=false):jf br (x++rest)= .ok (t,rest):=by
 let#[a,ta,ms,rfl,ha,hm,rfl]:=h;unfold jf;rw[bQ,ha (ms++rest)]
 dsimp[bindR];rw[D7 ms ta rest hm hr]
theorem FD{br:Option (List Nat->PR U)}(hb:nP br){x:List Nat}{t:U}(h:vz br x t):∃c r,x=c::r/\c∉[42,43,63,124,41]:=by
 have h0:=h [];have hs:=vx hb (x++[]);rw[h0] at hs;cases x with
 |nil=>have:=hs.2;simp at this
 |cons c r=>
  refine#[c,r,rfl,λhc=>?_];have e1:cx [40] (c::r++[])=false:=(by decide:∀c∈[42,43,63,124,41],[40].contains c=false) c hc;have e2:cx [91] (c::r++[])=false:=(by decide:∀c∈[42,43,63,124,41],[91].contains c=false) c hc;have e3:cx [46] (c::r++[])=false:=(by decide:∀c∈[42,43,63,124,41],[46].contains c=false) c hc;have e4:cx [92] (c::r++[])=false:=(by decide:∀c∈[42,43,63,124,41],[92].contains c=false) c hc;unfold rD at h0;rw[e1,e2,e3] at h0;dsimp[ak,if_false] at h0;rw[AO e4] at h0;have e5:dZ (dY MO) (c::r++[])= .error (c::r++[]):=by
   have hn:(dY MO).contains c=false:=by
    have:c∈MO:=(by decide:∀c∈[42,43,63,124,41],c∈MO) c hc;unfold dY;dsimp[List.contains_eq_mem,decide_eq_false_iff_not];intro q;have:=(eU.mp q).2
    simp_all
   show(if (dY MO).contains c=true then _ else _)=_
   rw[if_neg (by rw[hn];simp)]
   rfl
  rw[e5] at h0;cases h0
theorem AV{br:Option (List Nat->PR U)}(hb:nP br){x:List Nat}{t:U}(h:vA br x t):∃c r,x=c::r/\c∉[42,43,63,124,41]:=by
 let#[a,ta,ms,rfl,ha,hm,rfl]:=h;let#[c,r,rfl,hc]:=FD hb ha;exact#[c,r++ms,rfl,hc]
inductive rE(br:Option (List Nat->PR U)):List Nat->List U->Prop
 |nil:rE br [] []
 |cons{x y:List Nat}{t:U}{ts:List U}:vA br x t->rE br y ts->rE br (x++y) (t::ts)
theorem tJ{br:Option (List Nat->PR U)}(hb:nP br){y:List Nat}{ts:List U}{rest:List Nat}(h:rE br y ts)(hr:jh rest=true):cx [42,43,63] (y++rest)=false:=by
 cases h with
 |nil=>
  cases rest with
  |nil=>rfl
  |cons c r=>
   have:[124,41].contains c=true:=by simpa[jh,cx] using hr
   show [42,43,63].contains c=false
   simp at this ⊢;omega
 |cons a b=>
  let#[c,r,rfl,hc]:=AV hb a;show [42,43,63].contains c=false;simp at hc ⊢;omega
theorem xy{br:Option (List Nat->PR U)}(hb:nP br){rest:List Nat}(hr:jh rest=true):∀{y:List Nat}{ts:List U},rE br y ts->∀(n:Nat)(acc:List U),y.length<n->dA jh (jf br) n acc (y++rest)= .ok (acc++ts,rest)
 |_,_,.nil,n,acc,hn=>by
  cases n with
  |zero=>omega
  |succ n=>rw[dA,iZ,if_pos hr,bX]
 |_,_,.cons (x:=x) (y:=y) (t:=t) (ts:=ts) a b,n,acc,hn=>by
  let#[c,r,rfl,hc]:=AV hb a;cases n with
  |zero=>omega
  |succ n=>
   have hs:jh (c::r++y++rest)=false:=by
    unfold jh;have:[124,41].contains c=false:=by simp at hc ⊢;omega
    show(false||[124,41].contains c)=false
    rw[this];rfl
   rw[dA,if_neg (by rw[hs];simp),bQ,Ja a (tJ hb b hr)]
   dsimp[bindR];rw[xy hb hr b n (acc++[t]) (by simp at hn;omega),bQ]
   rfl
def vB(br:Option (List Nat->PR U))(x:List Nat)(t:U):Prop:=∃ts,ts≠[]/\rE br x ts/\t=pv CP ts
theorem Jb{br:Option (List Nat->PR U)}(hb:nP br){x:List Nat}{t:U}{rest:List Nat}(h:vB br x t)(hr:jh rest=true):wd br (x++rest)= .ok (t,rest):=by
 let#[ts,hn,h,rfl]:=h;cases h with
 |nil=>erw[absurd rfl hn]
 |@cons x y t ts a b=>
  unfold wd;rw[bQ,Ja a (tJ hb b hr)]
  dsimp[bindR];rw[xy hb hr b _ [t] (by simp;omega)]
  rfl
inductive vC(br:Option (List Nat->PR U)):List Nat->List U->Prop
 |nil:vC br [] []
 |cons{x y:List Nat}{t:U}{ts:List U}:vB br x t->vC br y ts->vC br (124::x++y) (t::ts)
def FE(br:Option (List Nat->PR U))(x:List Nat)(t:U):Prop:=∃a b t0 ts,x=a++b/\vB br a t0/\vC br b ts/\t=pv RI (t0::ts)
def Jc(rest:List Nat):Prop:=rest=[]\/∃r,rest=41::r
theorem xA{br:Option (List Nat->PR U)}{y:List Nat}{ts:List U}{rest:List Nat}(h:vC br y ts)(hr:Jc rest):jh (y++rest)=true:=by
 cases h with
 |nil=>rcases hr with rfl|⟨r,rfl⟩<;>rfl
 |cons a b=>rfl
theorem xB{br:Option (List Nat->PR U)}(hb:nP br){rest:List Nat}(hr:Jc rest):∀{y:List Nat}{ts:List U},vC br y ts->∀(n:Nat)(acc:List U),y.length<n->dA stopOr (Ql br) n acc (y++rest)= .ok (acc++ts,rest)
 |_,_,.nil,n,acc,hn=>by
  have e:stopOr rest=true:=by rcases hr with rfl|⟨r,rfl⟩<;>rfl
  cases n with
  |zero=>omega
  |succ n=>rw[dA,iZ,if_pos e,bX]
 |_,_,.cons (x:=x) (y:=y) (t:=t) (ts:=ts) a b,n,acc,hn=>by
  cases n with
  |zero=>omega
  |succ n=>
   have e:Ql br (124::x++y++rest)= .ok (t,y++rest):=by
    unfold Ql;have:dZ [124] (124::x++y++rest)= .ok (124,x++(y++rest)):=by
     rw[bQ];rfl
    rw[this]
    dsimp[bindR];erw[Jb hb a (xA b hr)]
   rw[dA,if_neg (by simp[stopOr,cx]),e]
   dsimp[bindR];rw[xB hb hr b n (acc++[t]) (by simp at hn;omega),bQ]
   rfl
theorem xC{br:Option (List Nat->PR U)}(hb:nP br){x:List Nat}{t:U}{rest:List Nat}(h:FE br x t)(hr:Jc rest):gZ br (x++rest)= .ok (t,rest):=by
 let#[a,b,t0,ts,rfl,ha,hb',rfl]:=h;unfold gZ;rw[bQ,Jb hb ha (xA hb' hr)]
 dsimp[bindR];rw[xB hb hr hb' _ [t0] (by simp;omega)]
 rfl
theorem D8{k:Nat}{x:List Nat}{t:U}(h:FE (tH k) x t):vz (tH (k+1)) (40::(x++[41])) t:=by
 intro rest;unfold rD;rw[if_pos (by rfl)]
 unfold RJ tH;show bindR (dZ [40] (40::(x++[41]++rest))) _=_;have e1:dZ [40] (40::(x++[41]++rest))= .ok (40,x++(41::rest)):=by
  rw[bQ];rfl
 rw[e1]
 dsimp[bindR];rw[xC (sF k) h (.inr #[rest,rfl])]
 rfl
theorem MH{x:List Nat}{t:U}(h:FE (tH 6) x t):tI x=.ok (t,[]):=by
 unfold tI;have:=xC (sF 6) h (rest:=[]) (.inl rfl);rw[bX] at this;rw[this]
 rfl
end PL
namespace PL.mj
inductive Mk where|star|plus|may
inductive Tr where|one (n:Nat) (l:List Nat)|row (a b:Tr)|or (a b:Tr)|rep (m:Mk) (a:Tr)
noncomputable section
noncomputable def null:Tr->Bool
 |.one _ _=>false
 |.row a b=>null a&&null b
 |.or a b=>null a||null b
 |.rep .plus a=>null a
 |.rep _ _=>true
noncomputable def eM(K:List Tr):Bool:=K.all null
noncomputable def FS:Tr->Nat->Bool
 |.one n _,p=>p==n
 |.row a b,p=>FS a p||(null a&&FS b p)
 |.or a b,p=>FS a p||FS b p
 |.rep _ a,p=>FS a p
noncomputable def nF:List Tr->Nat->Bool
 |[],_=>false
 |t::K,p=>FS t p||(null t&&nF K p)
noncomputable def IN:Tr->Nat->Bool
 |.one n _,p=>p==n
 |.row a b,p=>IN a p||IN b p
 |.or a b,p=>IN a p||IN b p
 |.rep _ a,p=>IN a p
noncomputable def sgn:Tr->Nat->List Nat
 |.one _ l,_=>l
 |.row a b,p=>if IN a p then sgn a p else sgn b p
 |.or a b,p=>if IN a p then sgn a p else sgn b p
 |.rep _ a,p=>sgn a p
noncomputable def more:Mk->Tr->List Tr
 |.may,_=>[]
 |_,a=>[.rep .star a]
noncomputable def cont:Tr->Nat->List Tr
 |.one _ _,_=>[]
 |.row a b,p=>if IN a p then cont a p++[b] else cont b p
 |.or a b,p=>if IN a p then cont a p else cont b p
 |.rep m a,p=>cont a p++more m a
noncomputable def ct(t:Tr)(p:Nat):List Tr:=if p=0 then [t] else cont t p
noncomputable def dF:Tr->Nat->List (List Tr)
 |.one _ l,c=>if l.contains c then [[]] else []
 |.or a b,c=>dF a c++dF b c
 |.row a b,c=>(dF a c).map (·++[b])++if null a then dF b c else []
 |.rep m a,c=>(dF a c).map (·++more m a)
noncomputable def dR:List Tr->Nat->List (List Tr)
 |[],_=>[]
 |t::K,c=>(dF t c).map (·++K)++if null t then dR K c else []
noncomputable def size:Tr->Nat
 |.one _ _=>1
 |.row a b=>size a+size b
 |.or a b=>size a+size b
 |.rep _ a=>size a
noncomputable def bU:Tr->Nat
 |.one _ _=>0
 |.row a b=>max (bU a) (bU b)+1
 |.or a b=>max (bU a) (bU b)+1
 |.rep _ a=>bU a+1
def nQ:Nat->Tr->Prop
 |n,.one k _=>k=n
 |n,.row a b=>nQ n a/\nQ (n+size a) b
 |n,.or a b=>nQ n a/\nQ (n+size a) b
 |n,.rep _ a=>nQ n a
noncomputable def oI:Tr->List (List Nat)
 |.one _ l=>[l]
 |.row a b=>oI a++oI b
 |.or a b=>oI a++oI b
 |.rep _ a=>oI a
end
theorem hJ:∀t,(oI t).length=size t
 |.one _ _=>rfl
 |.row a b=>by simp[oI,size,hJ a,hJ b]
 |.or a b=>by simp[oI,size,hJ a,hJ b]
 |.rep _ a=>by simp[oI,size,hJ a]
theorem fh:∀{t n p},nQ n t->(IN t p=true↔n<=p/\p<n+size t)
 |.one k l,n,p,h=>by
  have h:k=n:=h;subst h;dsimp[IN,size,beq_iff_eq];omega
 |.row a b,n,p,h=>by
  dsimp[IN,size,bu,fh h.1,fh h.2];omega
 |.or a b,n,p,h=>by
  dsimp[IN,size,bu,fh h.1,fh h.2];omega
 |.rep m a,n,p,h=>fh (t:=a) h
theorem sH:∀{t n p},nQ n t->IN t p=true->(oI t)[p-n]?=some (sgn t p)
 |.one k l,n,p,h,i=>by
  have h:k=n:=h;subst h;have:p=k:=by simpa[IN] using i
  simp[this,oI,sgn]
 |.row a b,n,p,h,i=>by
  have e1:=fh (p:=p) h.1;have e2:=fh (p:=p) h.2;have l1:=hJ a;dsimp[oI,sgn];by_cases z:IN a p=true
  .rw[if_pos z,ag (by have:=e1.mp z;omega)];erw[sH h.1 z]
  .have z2:IN b p=true:=by simpa[IN,z] using i
   have:=e2.mp z2;rw[if_neg z,aw ∅,<-sH h.2 z2]
   congr 1;omega
 |.or a b,n,p,h,i=>by
  have e1:=fh (p:=p) h.1;have e2:=fh (p:=p) h.2;have l1:=hJ a;dsimp[oI,sgn];by_cases z:IN a p=true
  .rw[if_pos z,ag (by have:=e1.mp z;omega)];erw[sH h.1 z]
  .have z2:IN b p=true:=by simpa[IN,z] using i
   have:=e2.mp z2;rw[if_neg z,aw ∅,<-sH h.2 z2]
   congr 1;omega
 |.rep m a,n,p,h,i=>sH (t:=a) h i
theorem fW{a b:Tr}{n p:Nat}(h:nQ n a/\nQ (n+size a) b)(i:IN b p=true):¬IN a p=true:=λz=>by
 have:=(fh h.1).mp z;have:=(fh h.2).mp i;omega
theorem ji:∀{t p},FS t p=true->IN t p=true
 |.one k l,p,h=>h
 |.row a b,p,h=>by
  dsimp[FS,bu,aj] at h;dsimp[IN,bu];erw[h.imp ji λz=>ji z.2]
 |.or a b,p,h=>by
  dsimp[FS,bu] at h;dsimp[IN,bu];erw[h.imp ji ji]
 |.rep m a,p,h=>ji (t:=a) h
theorem lK:∀{K L:List Tr}{p:Nat},nF (K++L) p=(nF K p||(eM K&&nF L p))
 |[],L,p=>by simp[nF,eM]
 |t::K,L,p=>by
  dsimp[nq,nF,lK,eM,bK];cases null t<;>cases FS t p<;>simp
theorem CT:∀{K L:List Tr}{c:Nat},dR (K++L) c=(dR K c).map (·++L)++if eM K then dR L c else []
 |[],L,c=>by simp[dR,eM]
 |t::K,L,c=>by
  dsimp[nq,dR,CT,eM,bK];by_cases z:null t=true<;>simp[z,eM,aJ,dk]
theorem vD{K L:List Tr}:eM (K++L)=(eM K&&eM L):=by simp[eM]
theorem Jd{m:Mk}{a:Tr}{p:Nat}:nF (more m a) p=true->FS a p=true:=by
 cases m<;>simp[more,nF,FS]
theorem fP:∀{t q p},nF (cont t q) p=true->IN t p=true
 |.one k l,q,p,h=>by simp[cont,nF] at h
 |.row a b,q,p,h=>by
  dsimp[cont] at h;dsimp[IN,bu];split at h
  .rw[lK] at h
   dsimp[bu,aj] at h;rcases h with h|⟨_,h⟩
   .erw[.inl (fP h)]
   .exact .inr (ji (by simpa[nF] using h))
  .erw[.inr (fP h)]
 |.or a b,q,p,h=>by
  dsimp[cont] at h;dsimp[IN,bu];split at h
  .erw[.inl (fP h)]
  .erw[.inr (fP h)]
 |.rep m a,q,p,h=>by
  dsimp[cont] at h;rw[lK] at h;dsimp[bu,aj] at h;rcases h with h|⟨_,h⟩
  .erw[fP (t:=a) h]
  .erw[ji (t:=a) (Jd h)]
theorem iQ:∀{t n c x},nQ n t->(x∈dF t c↔∃p,FS t p=true/\c∈sgn t p/\x=cont t p)
 |.one k l,n,c,x,h=>by
  dsimp[dF,FS,sgn,cont,beq_iff_eq];by_cases z:c∈l
  .simp[z]
  .simp[z]
 |.row a b,n,c,x,h=>by
  dsimp[dF,aI,bB,FS,bu,aj];constructor
  .rintro(⟨y,hy,rfl⟩|hy)
   .let#[p,h1,h2,rfl]:=(iQ h.1).mp hy
    have i:=ji h1;exact#[p,.inl h1,by dsimp[sgn,if_pos i];erw[h2],by dsimp[cont,if_pos i]]
   .split at hy
    .rename_i z
     let#[p,h1,h2,rfl]:=(iQ h.2).mp hy;have i:=fW h (ji h1);exact#[p,.inr #[z,h1],by dsimp[sgn,if_neg i];erw[h2],by dsimp[cont,if_neg i]]
    .simp at hy
  .rintro⟨p,h1|⟨z,h1⟩,h2,rfl⟩
   .have i:=ji h1
    dsimp[sgn,if_pos i] at h2;erw[.inl #[_,(iQ h.1).mpr #[p,h1,h2,rfl],by dsimp[cont,if_pos i]]]
   .have i:=fW h (ji h1)
    dsimp[sgn,if_neg i] at h2;rw[if_pos z]
    erw[.inr ((iQ h.2).mpr #[p,h1,h2,by dsimp[cont,if_neg i]])]
 |.or a b,n,c,x,h=>by
  dsimp[dF,aI,FS,bu];constructor
  .rintro(hy|hy)
   .let#[p,h1,h2,rfl]:=(iQ h.1).mp hy
    have i:=ji h1;exact#[p,.inl h1,by dsimp[sgn,if_pos i];erw[h2],by dsimp[cont,if_pos i]]
   .let#[p,h1,h2,rfl]:=(iQ h.2).mp hy
    have i:=fW h (ji h1);exact#[p,.inr h1,by dsimp[sgn,if_neg i];erw[h2],by dsimp[cont,if_neg i]]
  .rintro⟨p,h1|h1,h2,rfl⟩
   .have i:=ji h1
    dsimp[sgn,if_pos i] at h2;erw[.inl ((iQ h.1).mpr #[p,h1,h2,by dsimp[cont,if_pos i]])]
   .have i:=fW h (ji h1)
    dsimp[sgn,if_neg i] at h2;erw[.inr ((iQ h.2).mpr #[p,h1,h2,by dsimp[cont,if_neg i]])]
 |.rep m a,n,c,x,h=>by
  dsimp[dF,bB,FS,sgn,cont];constructor
  .rintro⟨y,hy,rfl⟩
   let#[p,h1,h2,rfl]:=(iQ (t:=a) h).mp hy;exact#[p,h1,h2,rfl]
  .rintro⟨p,h1,h2,rfl⟩
   exact#[_,(iQ (t:=a) h).mpr #[p,h1,h2,rfl],rfl]
theorem yQ{t:Tr}{c:Nat}:dR [t] c=dF t c:=by simp[dR]
theorem oJ:∀{t n c x q},nQ n t->(x∈dR (cont t q) c↔∃p,nF (cont t q) p=true/\c∈sgn t p/\x=cont t p)
 |.one k l,n,c,x,q,h=>by simp[cont,dR,nF]
 |.row a b,n,c,x,q,h=>by
  by_cases z:IN a q=true
  .have e:cont (.row a b) q=cont a q++[b]:=by dsimp[cont,if_pos z]
   rw[e,CT,yQ]
   dsimp[lK,aI,bB,bu,aj];constructor
   .rintro(⟨y,hy,rfl⟩|hy)
    .let#[p,h1,h2,rfl]:=(oJ h.1).mp hy
     have i:=fP h1;exact#[p,.inl h1,by dsimp[sgn,if_pos i];erw[h2],by dsimp[cont,if_pos i]]
    .split at hy
     .rename_i z
      let#[p,h1,h2,rfl]:=(iQ h.2).mp hy;have i:=fW h (ji h1);exact#[p,.inr #[z,by simp[nF,h1]],by dsimp[sgn,if_neg i];erw[h2],by dsimp[cont,if_neg i]]
     .simp at hy
   .rintro⟨p,h1|⟨z,h1⟩,h2,rfl⟩
    .have i:=fP h1
     dsimp[sgn,if_pos i] at h2;erw[.inl #[_,(oJ h.1).mpr #[p,h1,h2,rfl],by dsimp[cont,if_pos i]]]
    .have h1:FS b p=true:=by simpa[nF] using h1
     have i:=fW h (ji h1);dsimp[sgn,if_neg i] at h2;rw[if_pos z]
     erw[.inr ((iQ h.2).mpr #[p,h1,h2,by dsimp[cont,if_neg i]])]
  .have e:cont (.row a b) q=cont b q:=by dsimp[cont,if_neg z]
   rw[e,oJ h.2]
   constructor
   .rintro⟨p,h1,h2,rfl⟩
    have i:=fW h (fP h1);exact#[p,h1,by dsimp[sgn,if_neg i];erw[h2],by dsimp[cont,if_neg i]]
   .rintro⟨p,h1,h2,rfl⟩
    have i:=fW h (fP h1);dsimp[sgn,if_neg i] at h2;exact#[p,h1,h2,by dsimp[cont,if_neg i]]
 |.or a b,n,c,x,q,h=>by
  by_cases z:IN a q=true
  .have e:cont (.or a b) q=cont a q:=by dsimp[cont,if_pos z]
   rw[e,oJ h.1]
   constructor
   .rintro⟨p,h1,h2,rfl⟩
    have i:=fP h1;exact#[p,h1,by dsimp[sgn,if_pos i];erw[h2],by dsimp[cont,if_pos i]]
   .rintro⟨p,h1,h2,rfl⟩
    have i:=fP h1;dsimp[sgn,if_pos i] at h2;exact#[p,h1,h2,by dsimp[cont,if_pos i]]
  .have e:cont (.or a b) q=cont b q:=by dsimp[cont,if_neg z]
   rw[e,oJ h.2]
   constructor
   .rintro⟨p,h1,h2,rfl⟩
    have i:=fW h (fP h1);exact#[p,h1,by dsimp[sgn,if_neg i];erw[h2],by dsimp[cont,if_neg i]]
   .rintro⟨p,h1,h2,rfl⟩
    have i:=fW h (fP h1);dsimp[sgn,if_neg i] at h2;exact#[p,h1,h2,by dsimp[cont,if_neg i]]
 |.rep m a,n,c,x,q,h=>by
  have hm:x∈dR (more m a) c↔∃p,nF (more m a) p=true/\c∈sgn a p/\x=cont (.rep m a) p:=by
   cases m with
   |may=>simp[more,dR,nF]
   |star=>
    show x∈dR [.rep .star a] c↔_
    rw[yQ,iQ (t:=.rep .star a) h]
    simp[more,nF,FS,sgn]
   |plus=>
    show x∈dR [.rep .star a] c↔_
    rw[yQ,iQ (t:=.rep .star a) h]
    simp[more,nF,FS,sgn,cont]
  dsimp[cont,CT,lK,aI,bB,bu,aj,sgn];constructor
  .rintro(⟨y,hy,rfl⟩|hy)
   .let#[p,h1,h2,rfl]:=(oJ (t:=a) h).mp hy
    exact#[p,.inl h1,h2,rfl]
   .split at hy
    .rename_i z
     let#[p,h1,h2,rfl]:=hm.mp hy;exact#[p,.inr #[z,h1],h2,rfl]
    .simp at hy
  .rintro⟨p,h1|⟨z,h1⟩,h2,rfl⟩
   .erw[.inl #[_,(oJ (t:=a) h).mpr #[p,h1,h2,rfl],rfl]]
   .rw[if_pos z]
    erw[.inr (hm.mpr #[p,h1,h2,rfl])]
noncomputable def nj:Mk->List Nat
 |.star=>kW
 |.plus=>oH
 |.may=>ki
noncomputable def enc:Tr->U
 |.one _ l=>.tup [.str MA,.str l]
 |.row a b=>.tup [.str CP,.tup [enc a,enc b]]
 |.or a b=>.tup [.str RI,.tup [enc a,enc b]]
 |.rep m a=>.tup [.str (nj m),enc a]
noncomputable def cL(K:List Tr):U:=.tup (K.map enc)
noncomputable def MI(K:List Tr):U:=.tup [.str CP,cL K]
theorem xD{t:Tr}{q p:Nat}(h:nF (ct t q) p=true):IN t p=true:=by
 unfold ct at h;split at h
 .dsimp[nF,bu,aj,ak,and_false,or_false] at h
  erw[ji h]
 .erw[fP h]
theorem yR{t:Tr}{n p:Nat}(h:nQ n t)(n0:0<n)(i:IN t p=true):p≠0:=by
 have:=(fh h).mp i;omega
theorem Je{t:Tr}{n c q:Nat}{x:List Tr}(h:nQ n t)(n0:0<n):x∈dR (ct t q) c↔∃p,nF (ct t q) p=true/\c∈sgn t p/\x=ct t p:=by
 have key:∀p,nF (ct t q) p=true->ct t p=cont t p:=λp hp=>by
  unfold ct;rw[if_neg (yR h n0 (xD hp))]
 have e:x∈dR (ct t q) c↔∃p,nF (ct t q) p=true/\c∈sgn t p/\x=cont t p:=by
  unfold ct;split
  .rw[yQ,iQ h]
   simp[nF]
  .erw[oJ h]
 rw[e]
 constructor
 .rintro⟨p,h1,h2,h3⟩;exact#[p,h1,h2,h3.trans (key p h1).symm]
 .rintro⟨p,h1,h2,h3⟩;exact#[p,h1,h2,h3.trans (key p h1)]
def Ur(t:Tr)(c:Nat)(H:Nat->Prop):Nat->Prop:=λp=>∃q,H q/\nF (ct t q) p=true/\c∈sgn t p
def hs(t:Tr)(w:List Nat):Nat->Prop:=w.foldl (λH c=>Ur t c H) (λp=>p=0)
def En(t:Tr)(H:Nat->Prop):Prop:=∃p,H p/\eM (ct t p)=true
theorem rF{t:Tr}{w:List Nat}{c:Nat}:hs t (w++[c])=Ur t c (hs t w):=by unfold hs;rw[fq];rfl
theorem Us{t:Tr}{w:List Nat}{p:Nat}(h:hs t w p):p=0\/IN t p=true:=by
 by_cases z:w=[]
 .subst z;erw[.inl h]
 .rw[<-List.dropLast_concat_getLast z,rF] at h
  let#[q,_,h,_]:=h;erw[.inr (xD h)]
theorem take_snoc{w:List Nat}{k c:Nat}(h:w[k]?=some c):w.take (k+1)=w.take k++[c]:=by
 rw[jz,h];rfl
def Qq(t:Tr)(H:Nat->Prop)(X:List U):Prop:=(∀x,x∈X↔∃p,H p/\x=cL (ct t p))/\X.Nodup
theorem FF(t:Tr):Qq t (hs t []) [cL [t]]:=by
 refine#[λx=>?_,by simp];dsimp[hs,wF,bS,exists_eq_left]
 rfl
section
variable{S:bj}{Q:KU}{a b p:Nat}
theorem Ck:kh .bor (.int (a:Nat)) (.int (b:Nat)) S Q=Q (.int ((a|||b:Nat):Int)) S:=by
 rw[O8,eq_true (show(0:Int)<=a/\(0:Int)<=b from #[∅,∅]),true_and];rfl
theorem uc:kh .band (.int (a:Nat)) (.int (b:Nat)) S Q=Q (.int ((a&&&b:Nat):Int)) S:=by
 rw[LB,eq_true (show(0:Int)<=a/\(0:Int)<=b from #[∅,∅]),true_and];rfl
theorem We:kh .band (.int (a:Nat)) (.int 1) S Q=Q (.int ((a&&&1:Nat):Int)) S:=uc (b:=1)
theorem Qr:kh .shl (.int 1) (.int (p:Nat)) S Q=(p<=1000/\Q (.int ((1<<<p:Nat):Int)) S):=by
 rw[O9]
 have e:(1:Int)*(2:Int)^((p:Int).toNat)=((1<<<p:Nat):Int):=by
  rw[tO];simp
 rw[e]
 erw[propext #[λh=>#[∅,h.2],λh=>#[∅,h.2]]]
theorem Yo:kh .shr (.int (a:Nat)) (.int (p:Nat)) S Q=Q (.int ((a>>>p:Nat):Int)) S:=by
 rw[Pa,eq_true (show(0:Int)<=a/\(0:Int)<=p from #[∅,∅]),true_and]
 have e:(a:Int)/(2:Int)^((p:Int).toNat)=((a>>>p:Nat):Int):=by
  rw[Nat.shiftRight_eq_div_pow];simp
 rw[e]
theorem ZH{n:Nat}:so .sum [.loc n] S Q=(∃is:List Int,S[n]?=some (.lst (is.map .int))/\Q (.int is.sum) S):=rfl
end
theorem Ut{a p:Nat}:(((a>>>p&&&1:Nat):Int) !=0)=a.testBit p:=by
 unfold Nat.testBit;rw[Nat.and_comm]
 by_cases h:1&&&a>>>p=0
 .simp[h]
 .have:¬(((1&&&a>>>p:Nat):Int)=0):=∅
  rw[bne_iff_ne.mpr this,bne_iff_ne.mpr h]
theorem CU{a:Nat}:((a:Int) !=0)=true↔∃p,a.testBit p=true:=by
 constructor
 .intro h
  have:a≠0:=by
   have:=bne_iff_ne.mp h;omega
  erw[Nat.exists_testBit_of_ne_zero this]
 .rintro⟨p,h⟩
  rwa[bne_iff_ne.mpr λz=>?_]
  have:a=0:=∅
  subst this;simp at h
theorem Qs{b p:Nat}(h:b.testBit p=true):p<tB b:=by
 have g:=Nat.ge_two_pow_of_testBit h;have b0:b≠0:=by
  have:0<2^p:=Nat.two_pow_pos p;omega
 unfold tB;rw[if_neg b0]
 have:=(Nat.le_log2 b0).mpr g;omega
theorem bits_le{b n:Nat}(h:b<2^n):tB b<=n:=by
 unfold tB;split
 .omega
 .rename_i z
  have:=(Nat.log2_lt z).mpr h;omega
theorem jI{b n:Nat}(h:∀p,b.testBit p=true->p<n):b<2^n:=Nat.lt_of_not_le λz=>by
 let#[i,hi,ti]:=Nat.exists_ge_and_testBit_of_ge_two_pow z;have:=h i ti;omega
noncomputable def CV(b:Nat):List Nat:=(cf (tB b)).filter b.testBit
theorem kY{b p:Nat}:p∈CV b↔b.testBit p=true:=by
 unfold CV;rw[eU,pO]
 exact#[λh=>h.2,λh=>#[Qs h,h]]
noncomputable abbrev ba(n:Nat):U:=.int (n:Nat)
theorem gH{g:bj->Prop}{c:U->bj->(Bool->bj->Prop)->Prop}{e:U->bj->KU->Prop}{Q:List U->bj->Prop}(l:List U)(I:Nat->List U->bj->Prop)(hg:∀i acc S,i<=l.length->I i acc S->g S/\acc.length<1000000)
  (h:∀i u acc S(k:List U->bj->Prop),l[i]?=some u->I i acc S->(∀acc' S',I (i+1) acc' S'->k acc' S')->c u S λb S1=>if b=true then e u S1 λv S2=>k (acc++[v]) S2 else k acc S1) (hf:∀acc S,I l.length acc S->Q acc S){S:bj} (h0:I 0 [] S):nB g c e Q l [] S:=by
 have key:∀n i acc S,i+n=l.length->I i acc S->nB g c e Q (l.drop i) acc S:=by
  intro n;induction n with
  |zero=>
   intro i acc S e hi;rw[jx ∅]
   have ei:i=l.length:=∅
   subst ei;exact#[(hg _ _ _ (ar _) hi).1,(hg _ _ _ (ar _) hi).2,hf _ _ hi]
  |succ n ih=>
   intro i acc S e hi;have hl:i<l.length:=∅
   rw[eT hl]
   exact#[(hg _ _ _ ∅ hi).1,(hg _ _ _ ∅ hi).2,h i _ acc S _ (aa hl) hi λacc' S' h'=>ih (i+1) acc' S' ∅ h']
 erw[key l.length 0 [] S ∅ h0]
theorem xE{g:bj->Prop}{c:U->bj->(Bool->bj->Prop)->Prop}{e:U->bj->KU->Prop}{Q:List U->bj->Prop}{S:bj}(l:List U)(p:U->Bool)(f:U->U)(hg:g S)(hl:l.length<1000000)
  (h:∀u k,u∈l->((p u=true->k true S)/\(p u=false->k false S)->c u S k)) (he:∀u k,u∈l->p u=true->k (f u) S->e u S k) (q:Q ((l.filter p).map f) S):nB g c e Q l [] S:=by
 rwa[gH l (λi acc S'=>S'=S/\acc=((l.take i).filter p).map f) (λi acc S' hi h=>#[h.1▸hg,?_]) (λi u acc S' k hu hi hk=>?_) (λacc S' h=>?_) #[rfl,rfl]]
 .rw[h.2,ah]
  have:=BC p (l.take i);rw[dE] at this;omega
 .let#[rfl,rfl]:=hi
  have hm:=ao hu;have et:l.take (i+1)=l.take i++[u]:=by rw[jz,hu];rfl
  rwa[h u _ hm #[λz=>?_,λz=>?_]]
  .rw[if_pos rfl]
   erw[he u _ hm z (hk _ _ #[rfl,by rw[et,Gd,aJ,List.filter_cons_of_pos z];rfl])]
  .rw[if_neg (by simp)]
   erw[hk _ _ #[rfl,by rw[et,Gd,List.filter_cons_of_neg (by simp[z])];simp]]
 .let#[rfl,rfl]:=h
  rw[bP];erw[q]
theorem fj{α β:Type}{l:List α}{f:α->β}{i:Nat}{u:β}(h:(l.map f)[i]?=some u):∃a,l[i]?=some a/\f a=u:=by
 rw[aC] at h;erw[au.mp h]
theorem Jf{α:Type}{l:List α}{i:Nat}{a:α}(h:l[i]?=some a):l.take (i+1)=l.take i++[a]:=by rw[jz,h];rfl
theorem _root_.Lake.PL.Ext.st{S S':bj}{n:Nat}{o:SO}(x:Ext S S')(h:S.length<=n):Ext S (S'.set n o):=
 #[by rw[cq];erw[x.1],λk hk=>by rw[af (cZ (az hk h))];erw[x.2 k hk]]
end PL.mj
open PL.mj
local macro_rules | `(tactic| walk_at "qpk") => do let a:=((wN0++" HL Zr Zv TF TH Zw XJ Zy Xq ZH Ck uc We Qr Yo Xr Y7 V3 Xs getD_some kJ Zx XM XO Y8 Xu Xt Xv Int.toNat_natCast Bool.false_eq_true if_false if_true Bool.not_true Bool.not_false").splitOn " ").toArray.map fun s=>Lean.mkIdent s.toName;`(tactic| simp only [$[$a:ident],*])
local macro_rules | `(tactic| walk_at "pk") => `(tactic| ((try refine Rest.go ?_); walk_at "qpk"; repeat ((refine Rest.go ?_); walk_at "qpk")))
namespace PL.mj
def AW:Spec:=λus S Q _=>∃b:Nat,us=[ba b]/\b<2^100/\∀n S',Ext S S'->S.length<=n->S'[n]?=some (.lst ((CV b).map ba))->Q (.loc n) S'
theorem Qt(Γ:bT):Keeps Γ pj 0 AW:=by
 rintro us S Q E ⟨b,rfl,hb,q⟩;unfold pj;room;have hl:=bits_le hb;refine#[∅,∅,∅,?_];refine xE (S:=S) _ (λu=>match u with|.int i=>b.testBit i.toNat|_=>false) id trivial (by simp;omega) (λu k hu h=>?_) (λu k _ _ h=>h) ?_
 .let#[p,_,rfl]:=bB.mp hu
  room;rw[Ut]
  cases z:b.testBit p with
  |true=>erw[h.1 z]
  |false=>erw[h.2 z]
 .rwa[q _ _ (Ext.app _) (ar _) ?_]
  have:((cf (tB b)).map λk=>U.int (k:Nat)).filter (λu=>match u with|.int i=>b.testBit i.toNat|_=>false)=(CV b).map ba:=by
   rw[List.filter_map];rfl
  rw[List.map_id,this];simp
noncomputable def Ki(e:Bool)(F Z:Nat):SO:=.ins "Part" [("empty",.bl e),("firsts",ba F),("lasts",ba Z)]
section
variable{S:bj}{p F Z:Nat}{e:Bool}{r:U->Prop}(h:S[p]?=some (Ki e F Z))
include h
theorem FG:nN (.loc p) "empty" S r=r (.bl e):=by rw[iC,h];rfl
theorem AX:nN (.loc p) "firsts" S r=r (ba F):=by rw[iC,h];rfl
theorem AY:nN (.loc p) "lasts" S r=r (ba Z):=by rw[iC,h];rfl
end
def yS:Spec:=λus S Q _=>∃p e F Z,us=[.loc p,.bl e,ba F,ba Z]/\S[p]?=some (.ins "Part" [])/\Q .bV (S.set p (Ki e F Z))
theorem Uu(Γ:bT):Keeps Γ lF 0 yS:=by
 rintro us S Q E ⟨p,e,F,Z,rfl,h,q⟩;unfold lF;room;rw[h]
 dsimp[bL];refine#[by simp,?_];have g1:=gs (o':=SO.ins "Part" (gV "empty" (U.bl e) [])) h;room;rw[g1]
 dsimp[bL];refine#[by simp[gV],?_];have g2:=gs (o':=SO.ins "Part" (gV "firsts" (ba F) (gV "empty" (U.bl e) []))) g1;room;rw[g2]
 dsimp[bL];refine#[by simp[gV],?_];room;rw[sV,sV]
 erw[q]
theorem pV{Γ:bT}(h1:Γ "Part.__init__"=yS){e:Bool}{F Z:Nat}{S:bj}{R:KU}{E:KX}(q:∀S',Ext S S'->S'[S.length]?=some (Ki e F Z)->R .bV S'):
  Γ "Part.__init__" [.loc S.length,.bl e,ba F,ba Z] (S++[.ins "Part" []]) R E:=by
 have g:(S++[SO.ins "Part" []])[S.length]?=some (.ins "Part" []):=by simp
 rwa[ca h1 #[S.length,e,F,Z,rfl,g,q _ #[by simp,λn hn=>?_] (gs g)]];rw[af ∅,ag hn]
def qr(f:Bool->Nat->Nat->Bool->Nat->Nat->Bool×Nat×Nat):Spec:=λus S Q _=>∃p1 e1 F1 Z1 p2 e2 F2 Z2,us=[.loc p1,.loc p2]/\S[p1]?=some (Ki e1 F1 Z1)/\S[p2]?=some (Ki e2 F2 Z2) /\
 ∀S',Ext S S'->S'[S.length]?=some (Ki (f e1 F1 Z1 e2 F2 Z2).1 (f e1 F1 Z1 e2 F2 Z2).2.1 (f e1 F1 Z1 e2 F2 Z2).2.2)->Q (.loc S.length) S'
noncomputable def sI(e1:Bool)(F1 Z1:Nat)(e2:Bool)(F2 Z2:Nat):Bool×Nat×Nat:=(e1&&e2,if e1 then F1|||F2 else F1,if e2 then Z1|||Z2 else Z2)
noncomputable def Uv(e1:Bool)(F1 Z1:Nat)(e2:Bool)(F2 Z2:Nat):Bool×Nat×Nat:=(e1||e2,F1|||F2,Z1|||Z2)
theorem Qu(Γ:bT)(h1:Γ "Part.__init__"=yS):Keeps Γ fL 2 (qr sI):=by
 rintro us S Q E ⟨p1,e1,F1,Z1,p2,e2,F2,Z2,rfl,g1,g2,q⟩;unfold fL;room;cases e1<;>cases e2<;>(repeat first|room|dsimp[FG g1,FG g2,AX g1,AX g2,AY g1,AY g2])
 .erw[pV h1 λS' x g=>#[rfl,q S' x g]]
 .erw[pV h1 λS' x g=>#[rfl,q S' x g]]
 .erw[pV h1 λS' x g=>#[rfl,q S' x g]]
 .erw[pV h1 λS' x g=>#[rfl,q S' x g]]
theorem Uw(Γ:bT)(h1:Γ "Part.__init__"=yS):Keeps Γ jc 0 (qr Uv):=by
 rintro us S Q E ⟨p1,e1,F1,Z1,p2,e2,F2,Z2,rfl,g1,g2,q⟩;unfold jc;cases e1<;>(repeat first|room|dsimp[FG g1,FG g2,AX g1,AX g2,AY g1,AY g2])
 .erw[pV h1 λS' x g=>#[rfl,q S' x g]]
 .erw[pV h1 λS' x g=>#[rfl,q S' x g]]
structure rG(S:bj)(L:Nat)(sg:List (List Nat))(bh en:List Nat):Prop where
 o:S[L]?=some (.ins "Layout" [("signs",.loc (L+1)),("behind",.loc (L+2)),("ends",.loc (L+3))])
 s:S[L+1]?=some (.lst (sg.map .str))
 b:S[L+2]?=some (.lst (bh.map ba))
 e:S[L+3]?=some (.lst (en.map ba))
def Fr(L:Nat)(S S':bj):Prop:=S.length<=S'.length/\∀n,n<S.length->n<=L\/L+4<=n->S'[n]?=S[n]?
section
variable{S S1 S2:bj}{L:Nat}{sg:List (List Nat)}{bh en:List Nat}{r:U->Prop}{q:KU}
theorem Fr.refl:Fr L S S:=#[ar _,λ_ _ _=>rfl]
theorem Fr.trans(a:Fr L S S1)(b:Fr L S1 S2):Fr L S S2:=#[aP a.1 b.1,λn h z=>(b.2 n (az h a.1) z).trans (a.2 n h z)]
theorem Ext.fr(a:Ext S S1):Fr L S S1:=#[a.1,λn h _=>a.2 n h]
theorem Fr.get(a:Fr L S S1){n:Nat}{o:SO}(h:S[n]?=some o)(z:L+4<=n):S1[n]?=some o:=(a.2 n (aZ h) (.inr z)).trans h
theorem Fr.set(a:Fr L S S1){n:Nat}{o:SO}(h1:L<n)(h2:n<L+4):Fr L S (S1.set n o):=#[by rw[cq];erw[a.1],λm h z=>by rw[af ∅];erw[a.2 m h z]]
variable(h:rG S L sg bh en)
include h
theorem rG.ext(x:Ext S S1):rG S1 L sg bh en:=#[x.get h.o,x.get h.s,x.get h.b,x.get h.e]
theorem rG.len:L+4<=S.length:=aZ h.e
theorem Jg:nN (.loc L) "signs" S r=r (.loc (L+1)):=by rw[iC,h.o];rfl
theorem Jh:nN (.loc L) "behind" S r=r (.loc (L+2)):=by rw[iC,h.o];rfl
theorem Qv:nN (.loc L) "ends" S r=r (.loc (L+3)):=by rw[iC,h.o];rfl
theorem rG.Yp{sg':List (List Nat)}:rG (S.set (L+1) (.lst (sg'.map .str))) L sg' bh en:=
 #[by rw[af ∅];erw[h.o],gs h.s,by rw[af ∅];erw[h.b],by rw[af ∅];erw[h.e]]
theorem rG.setB{bh':List Nat}:rG (S.set (L+2) (.lst (bh'.map ba))) L sg bh' en:=
 #[by rw[af ∅];erw[h.o],by rw[af ∅];erw[h.s],gs h.b,by rw[af ∅];erw[h.e]]
theorem rG.Yq{en':List Nat}:rG (S.set (L+3) (.lst (en'.map ba))) L sg bh en':=
 #[by rw[af ∅];erw[h.o],by rw[af ∅];erw[h.s],by rw[af ∅];erw[h.b],gs h.e]
end
def Qw:Spec:=λus S Q _=>∃L,us=[.loc L]/\S[L]?=some (.ins "Layout" [])/\S.length=L+1/\∀S',(∀n,n<L->S'[n]?=S[n]?)->rG S' L [[]] [0] []->Q .bV S'
theorem Ux(Γ:bT):Keeps Γ jX 0 Qw:=by
 rintro us S Q E ⟨L,rfl,h,hl,q⟩;unfold jX;room;refine#[by simp,?_];have g0:(S++[SO.lst [U.str []]])[L]?=some (.ins "Layout" []):=by rw[ag ∅];erw[h]
 rw[g0]
 dsimp[bL];refine#[by simp,?_];have g1:=gs (o':=SO.ins "Layout" (gV "signs" (U.loc S.length) [])) g0;room;refine#[by simp,?_];rw[ag (by simp;omega),g1]
 dsimp[bL];refine#[by simp[gV],?_];room;refine#[by simp,?_];rw[ag (by simp;omega),gs (by rw[ag (by simp;omega)];erw[g1])]
 dsimp[bL];refine#[by simp[gV],?_];room;rwa[q _ (λn hn=>?_) #[?_,?_,?_,?_]]
 .simp[iq,jw,hl,cZ hn,bc hn,bc (bc hn),bc (bc (bc hn))]
 .rw[bF (by simp;omega)]
  simp[gV,hl]
 .rw[af ∅]
  simp[iq,jw,hl]
 .rw[af ∅]
  simp[iq,jw,hl]
 .rw[af ∅]
  simp[iq,jw,hl]
def Qx:Spec:=λus S Q _=>∃L sg bh en,us=[.loc L]/\rG S L sg bh en/\sg.length<=1000/\Q (.int (sg.length-1:Int)) S
theorem Uy(Γ:bT):Keeps Γ f9 0 Qx:=by
 rintro us S Q E ⟨L,sg,bh,en,rfl,h,hl,q⟩;unfold f9;room;rw[Jg h,nE h.s]
 dsimp[bp,ah];exact#[∅,q]
theorem uh{l:List Nat}{k B:Nat}{r:U->Prop}(h:l[k]?=some B)(z:r (ba B)):opt ((l.map ba)[k]?) r:=by
 rw[aC,h];erw[z]
def Qy:Spec:=λus S Q _=>∃L sg bh en p e F Z B bt,us=[.loc L,.loc p]/\rG S L sg bh en/\bh=B::bt/\S[p]?=some (Ki e F Z)/\L+4<=p/\en.length<=1000/\∀S',Fr L S S'->rG S' L sg ((B|||F)::bt) (en++[Z])->Q .bV S'
theorem Uz(Γ:bT):Keeps Γ fA 0 Qy:=by
 rintro us S Q E ⟨L,sg,bh,en,p,e,F,Z,B,bt,rfl,h,rfl,hp,pl,hn,q⟩;unfold fA;room;rw[Jh h]
 room;rw[h.b]
 dsimp[aD];refine#[EF _,?_];dsimp[ya];rwa[uh (B:=B) rfl ?_];rw[AX hp]
 room;rw[h.b]
 dsimp[aD];refine#[by simp,?_];have h1:=h.setB (bh':=(B|||F)::bt);have e1:(dh ba (B::bt)).set 0 (U.int ((B|||F:Nat):Int))=dh ba ((B|||F)::bt):=by simp
 rw[e1]
 have f1:=(Fr.refl (L:=L) (S:=S)).set (n:=L+2) (o:=.lst (dh ba ((B|||F)::bt))) ∅ ∅;have hp1:=f1.get hp pl;generalize S.set (L+2) (.lst (dh ba ((B|||F)::bt)))=S1 at h1 f1 hp1;room;rw[Qv h1]
 room;rw[h1.e]
 dsimp[aD];room;rw[AY hp1]
 refine#[by simp;omega,?_];room;have e2:dh ba en++[ba Z]=dh ba (en++[Z]):=by simp
 rw[e2]
 erw[q _ (f1.set ∅ ∅) h1.Yq]
def UA(Z F:Nat)(bh bh':List Nat):Prop:=bh'.length=bh.length/\∀(q B:Nat),bh[q]?=some B->∃B',bh'[q]?=some B'/\∀r,B'.testBit r=(B.testBit r||(Z.testBit q&&F.testBit r))
def Ji:Spec:=λus S Q _=>∃L sg bh en Z F,us=[.loc L,ba Z,ba F]/\rG S L sg bh en/\bh.length<=100/\(∀p,Z.testBit p=true->p<bh.length)/\∀S' bh',Fr L S S'->rG S' L sg bh' en->UA Z F bh bh'->Q .bV S'
theorem UB(Γ:bT)(h1:Γ "members"=AW):Keeps Γ jY 1 Ji:=by
 rintro us S Q E ⟨L,sg,bh,en,Z,F,rfl,h,hl,hz,q⟩;unfold jY;room;rwa[ca h1 #[Z,rfl,az (jI hz) (bw ∅ hl),λn S1 x1 hn g1=>?_]];room;rw[g1]
 dsimp[aD];have hln:=h.len;refine cQ (λi env S2=>∃bh2 x3,env=[some (.loc L),some (ba Z),some (ba F),x3]/\Fr L S1 S2/\rG S2 L sg bh2 en/\bh2.length=bh.length/\∀(q B:Nat),bh[q]?=some B->∃B',bh2[q]?=some B'/\∀r,B'.testBit r=(B.testBit r||(decide (q∈(CV Z).take i)&&F.testBit r)))
  (λi env S2 h9=>by let#[_,_,_,f,_]:=h9;erw[f.get g1 ∅]) _ ?_ ?_ #[bh,none,rfl,.refl,h.ext x1,rfl,λq B e=>#[B,e,λr=>by simp]]
 .rintro i u env S2 K hu ⟨bh2,x3,rfl,f2,h2,l2,inv⟩ hK
  let#[p,hp,rfl]:=fj hu;have pz:=kY.mp (ao hp);have pl:=hz p pz;let#[B',e',b']:=inv p _ (aa pl);room;rw[Jh h2]
  room;rw[h2.b]
  dsimp[aD];refine#[∅,uh e' ?_];room;rw[h2.b]
  dsimp[aD];refine#[by simp;omega,?_];have ee:(dh ba bh2).set p (U.int ((B'|||F:Nat):Int))=dh ba (bh2.set p (B'|||F)):=by rw[List.map_set]
  rw[ee]
  room;rwa[hK _ _ #[_,_,rfl,f2.set ∅ ∅,h2.setB,by simp[l2],λq B e=>?_]];have et:=Jf hp;rw[et]
  by_cases z:q=p
  .subst z
   rw[aa pl] at e;injection e with e;subst e
   refine#[B'|||F,by rw[bF ∅],λr=>?_];rw[dq,b']
   dsimp[aI,bS,or_true,decide_true,zE];cases bh[q].testBit r<;>cases F.testBit r<;>simp
  .let#[B2,e2,b2]:=inv q B e
   refine#[B2,by rw[af (cA z)];erw[e2],λr=>?_];rw[b2]
   simp[z]
 .rintro env S2 ⟨bh2,x3,rfl,f2,h2,l2,inv⟩
  room;rwa[q _ _ (Ext.fr x1 |>.trans f2) h2 #[l2,λq B e=>?_]];let#[B',e',b']:=inv q B e;refine#[B',e',λr=>?_];rw[b',ah,bP]
  congr 2
  by_cases z:Z.testBit q=true
  .rw[z];erw[decide_eq_true (kY.mpr z)]
  .rw[fF _ |>.mp z];erw[decide_eq_false λm=>z (kY.mp m)]
structure tY(t:Tr)(bh:List Nat)(F Z:Nat)(bh':List Nat):Prop where
 f:∀p,F.testBit p=FS t p
 z:∀p,Z.testBit p=(IN t p&&eM (cont t p))
 len:bh'.length=bh.length+size t
 old:∀q,q<bh.length->bh'[q]?=bh[q]?
 new:∀q,IN t q=true->∃B:Nat,bh'[q]?=some B/\∀p,B.testBit p=nF (cont t q) p
def gI(D:Tr->U->Prop):Spec:=λus S Q _=>∃L sg bh en t u,us=[.loc L,u]/\D t u/\rG S L sg bh en/\nQ sg.length t/\bh.length=sg.length/\sg.length+size t<=100 /\
 ∀S' p F Z bh',Fr L S S'->L+4<=p->S'[p]?=some (Ki (null t) F Z)->rG S' L (sg++oI t) bh' en->tY t bh F Z bh'->Q (.loc p) S'
theorem ui{n p:Nat}:(1<<<n).testBit p=(p==n):=by
 rw[tO,Nat.testBit_two_pow]
 by_cases z:n=p
 .subst z;simp
 .rw[decide_eq_false z]
  have:¬p=n:=λe=>z e.symm
  simp[this]
theorem UC(Γ:bT)(h1:Γ "Part.__init__"=yS):Keeps Γ fM 1 (gI λt u=>∃n l,t=.one n l/\u=.str l):=by
 rintro us S Q E ⟨L,sg,bh,en,t,u,rfl,⟨n,l,rfl,rfl⟩,h,hp,hb,hl,q⟩;have hp:n=sg.length:=hp;subst hp;have hl:sg.length+1<=100:=hl;unfold fM;room;rw[Jg h,nE h.s]
 dsimp[bp,ah,Qr];refine#[∅,∅,?_];room;rw[Jg h]
 room;rw[h.s]
 dsimp[aD,true_and];refine#[by simp;omega,?_];have e1:dh U.str sg++[U.str l]=dh U.str (sg++[l]):=by simp
 rw[e1]
 have h2:=h.Yp (sg':=sg++[l]);have f2:=(Fr.refl (L:=L) (S:=S)).set (n:=L+1) (o:=.lst (dh U.str (sg++[l]))) ∅ ∅;generalize S.set (L+1) (.lst (dh U.str (sg++[l])))=S2 at h2 f2;room;rw[Jh h2]
 room;rw[h2.b]
 dsimp[aD,true_and];refine#[by simp;omega,?_];have e2:dh ba bh++[U.int 0]=dh ba (bh++[0]):=by simp
 rw[e2]
 have h3:=h2.setB (bh':=bh++[0]);have f3:=f2.set (n:=L+2) (o:=.lst (dh ba (bh++[0]))) ∅ ∅;generalize S2.set (L+2) (.lst (dh ba (bh++[0])))=S3 at h3 f3;room;rwa[pV h1 λS4 x4 g4=>#[rfl,?_]]
 have:=h3.len;rwa[q S4 _ _ _ _ (f3.trans (Ext.fr x4)) ∅ g4 (h3.ext x4) #[λp=>ui,λp=>?_,by simp[size],λq hq=>ag hq,λq hq=>?_]]
 .rw[ui];simp[IN,cont,eM]
 .have:q=sg.length:=by simpa[IN] using hq
  subst this;refine#[0,by rw[aw ∅,hb];simp,λp=>by simp[cont,nF]]
def Tu(d:Nat)(t:Tr)(u:U):Prop:=bU t<d/\u=enc t
noncomputable def UD:dm:=#v[.set 4 (.cK "Layout" "lay" "Layout.lay" @0 #v[@3]),.ex (.cK "Layout" "link" "Layout.link" @0 #v[.fld @2 "lasts",.fld @4 "firsts"]),.set 2 (.call "one_behind_other" #v[@2,@4])]
theorem AZ(Γ:bT){d:Nat}(h2:Γ "Layout.lay"=gI (Tu d))(h3:Γ "Layout.link"=Ji)(h4:Γ "one_behind_other"=qr sI){S:bj}{L:Nat}{sg:List (List Nat)}{bh en:List Nat}{a:Tr}{D:Ends}{v1:U}{x4:Option U}{pw:Nat}{e0:Bool}{F0 Z0:Nat}
  (da:bU a<d) (h:rG S L sg bh en) (hp:nQ sg.length a) (hb:bh.length=sg.length) (hl:sg.length+size a<=100) (g:S[pw]?=some (Ki e0 F0 Z0)) (pl:L+4<=pw) (hz:∀p,Z0.testBit p=true->p<bh.length)
  (q:∀S' p F Z bh1 bh2 x,Fr L S S'->L+4<=p->S'[p]?=some (Ki (sI e0 F0 Z0 (null a) F Z).1 (sI e0 F0 Z0 (null a) F Z).2.1 (sI e0 F0 Z0 (null a) F Z).2.2)->rG S' L (sg++oI a) bh2 en->tY a bh F Z bh1->UA Z0 F bh1 bh2 ->
   D.nx [some (.loc L),some v1,some (.loc p),some (enc a),x] S'):Rest Γ UD D [some (.loc L),some v1,some (.loc pw),some (enc a),x4] S:=by
 unfold UD;room;rw[h.o,bL]
 refine#[#[rfl,rfl],?_];rwa[ca h2 #[L,sg,bh,en,a,_,rfl,#[da,rfl],h,hp,hb,hl,λS1 p F Z bh1 f1 pl1 g1 la1 r1=>?_]];have g0:=f1.get g pl;room;rw[la1.o,bL]
 refine#[#[rfl,rfl],?_];rw[AY g0,AX g1]
 rwa[ca h3 #[L,_,bh1,en,Z0,F,rfl,la1,by rw[r1.len];omega,λp hp=>by rw[r1.len];have:=hz p hp;omega,λS2 bh2 f2 la2 lk=>?_]];room;rwa[ca h4 #[pw,e0,F0,Z0,p,null a,F,Z,rfl,f2.get g0 pl,f2.get g1 pl1,λS3 x3 g3=>?_]];room;have:=la2.len;erw[q _ _ F Z bh1 bh2 _ ((f1.trans f2).trans (Ext.fr x3)) ∅ g3 (la2.ext x3) r1 lk]
theorem UE{e:Bool}{F Z:Nat}:sI true 0 0 e F Z=(e,F,Z):=by
 unfold sI;rw[vP,vP]
 cases e<;>rfl
theorem Yr{e:Bool}{F Z:Nat}:Uv false 0 0 e F Z=(e,F,Z):=by
 unfold Uv;rw[vP,vP];rfl
theorem MJ{a b:Tr}{n Fa Za Fb Zb:Nat}{bh bh1 bh2 bh3 bh4:List Nat}(hp:nQ n a/\nQ (n+size a) b)(hb:bh.length=n)(ra:tY a bh Fa Za bh1)(lk2:UA 0 Fa bh1 bh2)(rb:tY b bh2 Fb Zb bh3)(lk4:UA Za Fb bh3 bh4):
  tY (.row a b) bh (sI (null a) Fa Za (null b) Fb Zb).2.1 (sI (null a) Fa Za (null b) Fb Zb).2.2 bh4:=by
 have l1:=ra.len;have l2:=rb.len;have l3:=lk2.1;have l4:=lk4.1;have e12:∀q,q<bh1.length->bh2[q]?=bh1[q]?:=λq hq=>by
  let#[B',e1,e2]:=lk2.2 q _ (aa hq);rw[e1,aa hq]
  congr 1
  erw[kz λr=>by simp[e2]]
 have e14:∀q B,q<bh1.length->bh1[q]?=some B->∃B',bh4[q]?=some B'/\∀r,B'.testBit r=(B.testBit r||(Za.testBit q&&Fb.testBit r)):=λq B hq e=>lk4.2 q B (by rw[rb.old q ∅,e12 q hq];erw[e])
 refine#[λp=>?_,λp=>?_,by dsimp[size];omega,λq hq=>?_,λq hq=>?_]
 .dsimp[sI,FS]
  cases null a<;>simp[dq,ra.f,rb.f]
 .dsimp[sI,IN,cont]
  by_cases z:IN a p=true
  .have z2:IN b p=false:=by
    cases e:IN b p with
    |false=>rfl
    |true=>erw[absurd z (fW hp e)]
   have nb:eM [b]=null b:=by simp[eM]
   dsimp[vD,nb,if_pos z];cases null b<;>simp[dq,ra.z,rb.z,z,z2]
  .have z:IN a p=false:=by simpa using z
   cases null b<;>simp[dq,ra.z,rb.z,z]
 .let#[B',h1,h2]:=e14 q _ ∅ ((ra.old q hq).trans (aa hq))
  rw[h1,aa hq]
  congr 1
  rwa[kz λr=>?_]
  have:IN a q=false:=by
   cases e:IN a q with
   |false=>rfl
   |true=>have:=(fh hp.1).mp e;omega
  rw[h2,ra.z,this];simp
 .by_cases z:IN a q=true
  .let#[B,h1,h2]:=ra.new q z
   have:=(fh hp.1).mp z;let#[B',h3,h4]:=e14 q B ∅ h1;refine#[B',h3,λp=>?_];have ec:cont (.row a b) q=cont a q++[b]:=by dsimp[cont,if_pos z]
   rw[ec,lK,h4,h2,ra.z,rb.f,z]
   simp[nF]
  .have z2:IN b q=true:=by simpa[IN,z] using hq
   let#[B,h1,h2]:=rb.new q z2;let#[B',h3,h4]:=lk4.2 q B h1;refine#[B',h3,λp=>?_];have z:IN a q=false:=by simpa using z
   rw[h4,ra.z,z,h2]
   simp[cont,z]
theorem UG(Γ:bT)(d:Nat)(h1:Γ "Part.__init__"=yS)(h2:Γ "Layout.lay"=gI (Tu d))(h3:Γ "Layout.link"=Ji)(h4:Γ "one_behind_other"=qr sI):
  Keeps Γ gX 3 (gI λt u=>∃a b,t=.row a b/\bU a<d/\bU b<d/\u=.tup [enc a,enc b]):=by
 rintro us S Q E ⟨L,sg,bh,en,t,u,rfl,⟨a,b,rfl,da,db,rfl⟩,h,hp,hb,hl,q⟩;have hl:sg.length+(size a+size b)<=100:=hl;have hp:nQ sg.length a/\nQ (sg.length+size a) b:=hp;have ll:=hJ a;unfold gX;room;rwa[pV h1 (F:=0) (Z:=0) λS1 x1 g1=>#[rfl,?_]]
 have p1:L+4<=S.length:=h.len;have h':=h.ext x1;generalize S.length=pw at g1 p1;room;refine#[by simp,?_];dsimp[u9];refine#[trivial,AZ Γ h2 h3 h4 da h' hp.1 hb ∅ g1 p1 (by simp) λS2 p2 Fa Za bh1 bh2 x f2 pl2 g2 la2 ra lk2=>?_];rw[UE] at g2;refine#[trivial,AZ Γ h2 h3 h4 db la2 (by rw[ax,ll];erw[hp.2]) (by rw[lk2.1,ra.len,hb];simp[ll]) (by simp;omega) g2 pl2 (λp hp'=>?_) λS3 p3 Fb Zb bh3 bh4 x' f3 pl3 g3 la3 rb lk4=>#[trivial,?_]]
 .rw[ra.z,aj] at hp'
  have:=(fh hp.1).mp hp'.1;rw[lk2.1,ra.len];omega
 .room
  exact q _ _ _ _ _ ((Ext.fr x1 |>.trans f2).trans f3) pl3 g3 (by rw[bQ] at la3;erw[la3]) (MJ hp hb ra lk2 rb lk4)
theorem Qz{a b:Tr}{n Fa Za Fb Zb:Nat}{bh bh1 bh2:List Nat}(hp:nQ n a/\nQ (n+size a) b)(hb:bh.length=n)(ra:tY a bh Fa Za bh1)(rb:tY b bh1 Fb Zb bh2):tY (.or a b) bh (Fa|||Fb) (Za|||Zb) bh2:=by
 have l1:=ra.len;have l2:=rb.len;refine#[λp=>by rw[dq,ra.f,rb.f];rfl,λp=>?_,by dsimp[size];omega,λq hq=>(rb.old q ∅).trans (ra.old q hq),λq hq=>?_]
 .rw[dq,ra.z,rb.z]
  dsimp[IN,cont];by_cases z:IN a p=true
  .have z2:IN b p=false:=by
    cases e:IN b p with
    |false=>rfl
    |true=>erw[absurd z (fW hp e)]
   simp[z,z2]
  .have z:IN a p=false:=by simpa using z
   simp[z]
 .by_cases z:IN a q=true
  .let#[B,h1,h2]:=ra.new q z
   have:=(fh hp.1).mp z;exact#[B,(rb.old q ∅).trans h1,λp=>by rw[h2];simp[cont,z]]
  .have z2:IN b q=true:=by simpa[IN,z] using hq
   let#[B,h1,h2]:=rb.new q z2;exact#[B,h1,λp=>by rw[h2];simp[cont,z]]
theorem UH(Γ:bT)(d:Nat)(h1:Γ "Part.__init__"=yS)(h2:Γ "Layout.lay"=gI (Tu d))(h4:Γ "one_or_other"=qr Uv):
  Keeps Γ fB 2 (gI λt u=>∃a b,t=.or a b/\bU a<d/\bU b<d/\u=.tup [enc a,enc b]):=by
 rintro us S Q E ⟨L,sg,bh,en,t,u,rfl,⟨a,b,rfl,da,db,rfl⟩,h,hp,hb,hl,q⟩;have hl:sg.length+(size a+size b)<=100:=hl;have hp:nQ sg.length a/\nQ (sg.length+size a) b:=hp;have ll:=hJ a;unfold fB;room;rwa[pV h1 (F:=0) (Z:=0) λS1 x1 g1=>#[rfl,?_]]
 have p1:L+4<=S.length:=h.len;have h':=h.ext x1;generalize S.length=pw at g1 p1;room;refine#[by simp,?_];dsimp[u9];refine#[trivial,?_];room;rw[h'.o,bL]
 refine#[#[rfl,rfl],?_];rwa[ca h2 #[L,sg,bh,en,a,_,rfl,#[da,rfl],h',hp.1,hb,∅,λS2 p2 Fa Za bh1 f2 pl2 g2 la2 ra=>?_]];rwa[ca h4 #[pw,_,_,_,p2,_,_,_,rfl,f2.get g1 p1,g2,λS3 x3 g3=>?_]];rw[Yr] at g3;have la3:=la2.ext x3;have p3:=la2.len;generalize S2.length=p3' at g3 p3;room;rw[la3.o,bL]
 refine#[#[rfl,rfl],?_];rwa[ca h2 #[L,_,bh1,en,b,_,rfl,#[db,rfl],la3,by rw[ax,ll];erw[hp.2],by rw[ra.len,hb];simp[ll],by simp;omega,λS4 p4 Fb Zb bh2 f4 pl4 g4 la4 rb=>?_]];rwa[ca h4 #[p3',_,_,_,p4,_,_,_,rfl,f4.get g3 p3,g4,λS5 x5 g5=>?_]];have p5:=la4.len;room;exact q _ _ _ _ _ (((((Ext.fr x1).trans f2).trans (Ext.fr x3)).trans f4).trans (Ext.fr x5)) p5 g5 (by have:=la4.ext x5;rw[bQ] at this;erw[this]) (Qz hp hb ra rb)
noncomputable def FH:Mk->Bool
 |.may=>false
 |_=>true
noncomputable def FI:Mk->Bool
 |.plus=>false
 |_=>true
structure NF(t:Tr)(ms:List Mk)(a:Tr):Prop where
 fs:∀p,FS t p=FS a p
 nl:null t=(null a||ms.any FI)
 Ys:∀p,IN t p=IN a p
 ct:∀p,∃R,cont t p=cont a p++R/\eM R=true/\∀r,nF R r=(ms.any FH&&FS a r)
 sz:size t=size a
 lv:oI t=oI a
 pl:∀n,nQ n t->nQ n a
theorem NF.zero(t:Tr):NF t [] t:=#[λ_=>rfl,by simp,λ_=>rfl,λp=>#[[],by simp,rfl,λr=>by simp[nF]],rfl,rfl,λ_ h=>h]
theorem NF.next{t a:Tr}{ms:List Mk}{m:Mk}(h:NF t ms (.rep m a)):NF t (ms++[m]) a:=by
 refine#[h.fs,?_,h.Ys,λp=>?_,h.sz,h.lv,h.pl]
 .rw[h.nl]
  cases m<;>simp[null,FI]
 .let#[R,h1,h2,h3]:=h.ct p
  refine#[more m a++R,by rw[h1];simp[cont],?_,λr=>?_]
  .rw[vD,h2];cases m<;>simp[more,eM,null]
  .rw[lK,h3]
   cases m<;>simp[more,nF,FS,eM,null,FH]
theorem D9{t a:Tr}{ms:List Mk}{n F Z:Nat}{bh bh1 bh2:List Nat}(k:NF t ms a)(hp:nQ n a)(hb:bh.length=n)(ra:tY a bh F Z bh1)
  (lk:if ms.any FH=true then UA Z F bh1 bh2 else bh2=bh1):tY t bh F Z bh2:=by
 have eZ:∀p,eM (cont t p)=eM (cont a p):=λp=>by
  let#[R,h1,h2,_]:=k.ct p;rw[h1,vD,h2,zF]
 have l1:=ra.len;have key:∀(q B:Nat),bh1[q]?=some B->∃B',bh2[q]?=some B'/\∀r,B'.testBit r=(B.testBit r||(ms.any FH&&(Z.testBit q&&F.testBit r))):=λq B e=>by
  split at lk
  .rename_i z
   let#[B',e1,e2]:=lk.2 q B e;exact#[B',e1,λr=>by rw[e2,z,zE]]
  .rename_i z
   subst lk;exact#[B,e,λr=>by simp[fF _ |>.mp z]]
 have l2:bh2.length=bh1.length:=by
  split at lk
  .erw[lk.1]
  .rw[lk]
 refine#[λp=>by rw[ra.f,k.fs],λp=>by rw[ra.z,k.Ys,eZ],by rw[l2,l1,k.sz],λq hq=>?_,λq hq=>?_]
 .let#[B',h1,h2]:=key q _ ((ra.old q hq).trans (aa hq))
  rw[h1,aa hq]
  congr 1
  rwa[kz λr=>?_]
  have:IN a q=false:=by
   cases e:IN a q with
   |false=>rfl
   |true=>have:=(fh hp).mp e;omega
  rw[h2,ra.z,this];simp
 .rw[k.Ys] at hq
  let#[B,h1,h2]:=ra.new q hq;let#[B',h3,h4]:=key q B h1;refine#[B',h3,λp=>?_];let#[R,e1,e2,e3]:=k.ct q;rw[h4,h2,e1,lK,e3,ra.z,ra.f,hq,zE]
  cases nF (cont a q) p<;>cases eM (cont a q)<;>cases FS a p<;>simp
theorem ZI{k:List Nat}{q:Bool->Prop}:qT (.str k) [.str kW,.str oH,.str ki] q=q (kW==k||(oH==k||ki==k)):=by
 have:=anyS (a:=k) (l:=[kW,oH,ki]) (q:=q);simpa using this
theorem Jj(ms:List Mk)(a b:List Nat):(ms.any λm=>nj m==a||nj m==b)=(((ms.map nj).any (·==a))||((ms.map nj).any (·==b))):=by
 induction ms with
 |nil=>rfl
 |cons m ms ih=>
  rw[cU,ay,cU,cU,ih]
  cases (nj m==a)<;>cases (nj m==b)<;>simp
theorem QC(ms:List Mk):ms.any FH=(((ms.map nj).any (·==kW))||((ms.map nj).any (·==oH))):=by
 rw[<-Jj]
 congr 1;funext m
 cases m<;>rfl
theorem QD(ms:List Mk):ms.any FI=(((ms.map nj).any (·==kW))||((ms.map nj).any (·==ki))):=by
 rw[<-Jj]
 congr 1;funext m
 cases m<;>rfl
theorem MK(m:Mk):(kW==nj m||(oH==nj m||ki==nj m))=true:=by cases m<;>rfl
noncomputable def Wf:dm:=#v[.set 5 (.or (.fld @4 "empty") (.or (.cmp .isin ↑[115,116,97,114] @2) (.cmp .isin ↑[109,97,121,98,101] @2))),.ret (.mk "Part" "Part.__init__" #v[@5,.fld @4 "firsts",.fld @4 "lasts"])]
noncomputable def Yt:dm:=#v[.ex (.cK "Layout" "link" "Layout.link" @0 #v[.fld @4 "lasts",.fld @4 "firsts"])]
noncomputable def Yu:dm:=(.cons (.set 4 (.cK "Layout" "lay" "Layout.lay" @0 #v[@3])) (.cons (.ifs (.or (.de (.cmp .isin ↑[115,116,97,114] @2)) (.de (.cmp .isin ↑[112,108,117,115] @2))) Yt .nil) Wf))
theorem UI(Γ:bT)(d:Nat)(hd:d<=100)(h1:Γ "Part.__init__"=yS)(h2:Γ "Layout.lay"=gI (Tu d))(h3:Γ "Layout.link"=Ji):
  Keeps Γ fD 4 (gI λt u=>∃m a,t=.rep m a/\bU a<d/\u=enc t):=by
 rintro us S Q E ⟨L,sg,bh,en,t,u,rfl,⟨m0,a0,et,da,rfl⟩,h,hp,hb,hl,q⟩;have sl:=h.len;have fin:∀(ms:List Mk)(a:Tr)(S2:bj),NF t ms a->bU a<d->(∀n,n<S.length->S2[n]?=S[n]?)->S2[S.length]?=some (.lst (ms.map λm=>U.str (nj m)))->Rest Γ Yu #[λ_ S1=>Q .bV S1,Q,λ_=>E] [some (.loc L),some (enc t),some (.loc S.length),some (enc a),none,none] S2:=by
  intro ms a S2 mk da e2 g2;have x2:Ext S S2:=#[cY (aZ g2),e2]
  have la:=h.ext x2;have sz:=mk.sz;have hpa:=mk.pl _ hp;unfold Yu;room;rw[la.o,bL]
  refine#[#[rfl,rfl],?_];rwa[ca h2 #[L,sg,bh,en,a,_,rfl,#[da,rfl],la,hpa,hb,∅,λS3 p F Z bh1 f3 pl3 g3 la3 ra=>?_]];have gm:∀S4,Fr L S3 S4->S4[S.length]?=some (.lst ((ms.map nj).map .str)):=λS4 f4=>by rw[bq];erw[f4.get (f3.get g2 sl) sl]
  have fin2:∀S4 bh2,Fr L S3 S4->rG S4 L (sg++oI a) bh2 en->tY t bh F Z bh2->Rest Γ Wf #[λ_ S1=>Q .bV S1,Q,λ_=>E] [some (.loc L),some (enc t),some (.loc S.length),some (enc a),some (.loc p),none] S4:=by
   intro S4 bh2 f4 la4 r4;have g4:=f4.get g3 pl3;have en4:∀e,e=null t->Rest Γ (.cons (.ret (.mk "Part" "Part.__init__" (.cons @5 (.cons (.fld @4 "firsts") (.cons (.fld @4 "lasts") .nil))))) .nil) #[λ_ S1=>Q .bV S1,Q,λ_=>E] [some (.loc L),some (enc t),some (.loc S.length),some (enc a),some (.loc p),some (.bl e)] S4:=by
    rintro e rfl;room;rw[AX g4,AY g4]
    rwa[pV h1 λS5 x5 g5=>#[rfl,?_]]
    erw[q _ _ _ _ _ (((Ext.fr x2).trans f3).trans (f4.trans (Ext.fr x5))) la4.len g5 (by rw[mk.lv];exact la4.ext x5) r4]
   have nl:=mk.nl;rw[QD] at nl;unfold Wf;room;rw[FG g4]
   room;rw[gm S4 f4]
   dsimp[aD,anyS,Hy];cases e1:null a<;>cases e2:(ms.map nj).any (·==kW)<;>dsimp[e1,e2,ak,if_false,if_true,aD,anyS]<;>refine en4 _ ?_<;>rw[nl,e1,e2]<;>simp
  have hs:=QC ms;have lnk:ms.any FH=true->Rest Γ Yt #[λen S4=>Rest Γ Wf #[λ_ S1=>Q .bV S1,Q,λ_=>E] en S4,Q,λ_=>E] [some (.loc L),some (enc t),some (.loc S.length),some (enc a),some (.loc p),none] S3:=by
   intro z;unfold Yt;room;rw[la3.o,bL]
   refine#[#[rfl,rfl],?_];rw[AY g3,AX g3]
   rwa[ca h3 #[L,_,bh1,en,Z,F,rfl,la3,by rw[ra.len];omega,λp hp'=>?_,λS4 bh2 f4 la4 lk=>?_]]
   .rw[ra.z,aj] at hp'
    have:=(fh hpa).mp hp'.1;rw[ra.len];omega
   .erw[Rest.go (fin2 S4 bh2 f4 la4 (D9 mk hpa hb ra (by rw[if_pos z];exact lk)))]
  room;rw[gm S3 .refl]
  dsimp[aD,anyS];cases e1:(ms.map nj).any (·==kW)<;>cases e2:(ms.map nj).any (·==oH)<;>rw[e1,e2] at hs<;>dsimp[e1,e2,ak,if_false,if_true,aD,anyS]
  .erw[Rest.go (fin2 S3 bh1 .refl la3 (D9 mk hpa hb ra (by rw[if_neg (by simp[hs])])))]
  .erw[lnk hs]
  .erw[lnk hs]
  .erw[lnk hs]
 unfold fD;room;refine#[by simp,?_];room;have x0:Ext S (S++[SO.lst []]):=Ext.app _;have g0:(S++[SO.lst []])[S.length]?=some (.lst (([]:List Mk).map λm=>U.str (nj m))):=by simp
 have dt:bU t<=d:=by rw[et];erw[da]
 refine#[bU t+1,pA (λn env S2=>∃ms a,n=bU a/\NF t ms a/\(a=t\/bU a<d)/\ms.length+bU a<=200/\env=[some (.loc L),some (enc t),some (.loc S.length),some (enc a),none,none]/\(∀n,n<S.length->S2[n]?=S[n]?)/\S2[S.length]?=some (.lst (ms.map λm=>U.str (nj m)))) ?_ _ (bU t) _ _ ∅ #[[],t,rfl,.zero t,.inl rfl,by simp;omega,rfl,x0.2,g0]];rintro n env S2 K ⟨ms,a,rfl,mk,hda,hms,rfl,e2,g2⟩ hK;have out:(∀m a',a≠.rep m a')->bU a<d:=λz=>by
  rcases hda with rfl|z2
  .erw[absurd et (z m0 a0)]
  .erw[z2]
 have stop:∀k x,enc a=.tup [.str k,x]->(kW==k||(oH==k||ki==k))=false->bU a<d->WT Γ (.de (.cmp .isin (.ix @3 ↑0) (.tup (.cons ↑[115,116,97,114] (.cons ↑[112,108,117,115] (.cons ↑[109,97,121,98,101] .nil)))))) [some (.loc L),some (enc t),some (.loc S.length),some (enc a),none,none] S2
   (λt1 S1=>if t1=true then Rest Γ (.cons (.ex (.jB .append @2 (.cons (.ix @3 ↑0) .nil))) (.cons (.set 3 (.ix @3 ↑1)) .nil)) #[K,Q,λ_=>E] [some (.loc L),some (enc t),some (.loc S.length),some (enc a),none,none] S1 else Rest Γ Yu #[λ_ S1=>Q .bV S1,Q,λ_=>E] [some (.loc L),some (enc t),some (.loc S.length),some (enc a),none,none] S1) E:=by
  intro k x ek ek2 da;have:=fin ms a S2 mk da e2 g2;rw[ek] at this ⊢;room;rw[su,bp]
  refine#[by simp,by simp,?_];rw[ZI,ek2]
  erw[this]
 cases a with
 |one k l=>erw[stop _ _ rfl rfl (out λ_ _ z=>nomatch z)]
 |row a b=>erw[stop _ _ rfl rfl (out λ_ _ z=>nomatch z)]
 |or a b=>erw[stop _ _ rfl rfl (out λ_ _ z=>nomatch z)]
 |rep m a=>
  have ek:enc (.rep m a)= .tup [.str (nj m),enc a]:=rfl;have dr:bU (.rep m a)=bU a+1:=rfl;rw[ek]
  room;rw[su,bp]
  refine#[by simp,by simp,?_];rw[ZI,MK]
  room;rw[g2]
  dsimp[aD,su,mQ,bp];refine#[trivial,by simp,by simp;omega,?_];room;dsimp[mQ,bp];refine#[by simp,?_];try room
  refine hK (bU a) _ _ ∅ #[ms++[m],a,rfl,mk.next,.inr (by rcases hda with rfl|z<;>omega),by simp;omega,rfl,λn hn=>?_,by rw[gs g2];simp];rw[af ∅];exact e2 n hn
section
variable{Γ:bT}{D:Ends}{env:Env}{S:bj}{i:Nat}{k k':List Nat}{x:U}{a b ss:dm}
theorem rH(h:env[i]?=some (some (.tup [.str k,x])))(e:(k==k')=true)(q:Rest Γ a #[λen S1=>Rest Γ ss D en S1,D.rt,D.ex] env S):Rest Γ (.cons (.ifs (.de (.cmp .eq (.ix (.var i) ↑0) (.lit (.str k')))) a b) ss) D env S:=by
 room;rw[h]
 dsimp[wY,DF,su,bp,Nu,Ts,e,if_true];exact#[by simp,q]
theorem jj(h:env[i]?=some (some (.tup [.str k,x])))(e:(k==k')=false)(q:Rest Γ ss D env S):Rest Γ (.cons (.ifs (.de (.cmp .eq (.ix (.var i) ↑0) (.lit (.str k')))) a .nil) ss) D env S:=by
 room;rw[h]
 dsimp[wY,DF,su,bp,Nu,Ts,e,ak,if_false];exact#[by simp,q]
end
theorem QE(Γ:bT)(d:Nat)(h1:Γ "Layout.lay_place"=gI λt u=>∃n l,t=.one n l/\u=.str l)(h2:Γ "Layout.lay_row"=gI λt u=>∃a b,t=.row a b/\bU a<d/\bU b<d/\u=.tup [enc a,enc b])
  (h3:Γ "Layout.lay_choice"=gI λt u=>∃a b,t=.or a b/\bU a<d/\bU b<d/\u=.tup [enc a,enc b]) (h4:Γ "Layout.lay_repeat"=gI λt u=>∃m a,t=.rep m a/\bU a<d/\u=enc t):Keeps Γ kC 0 (gI (Tu (d+1))):=by
 rintro us S Q E ⟨L,sg,bh,en,t,u,rfl,⟨dt,rfl⟩,h,hp,hb,hl,q⟩;unfold kC;cases t with
 |one n l=>
  rwa[rH rfl rfl ?_];dsimp[enc];room;rw[h.o,bL,mQ]
  exact#[#[rfl,rfl],by simp,ca h1 #[L,sg,bh,en,_,_,rfl,#[n,l,rfl,rfl],h,hp,hb,hl,q]]
 |row a b=>
  have dt:max (bU a) (bU b)+1<d+1:=dt;rwa[jj rfl rfl (rH rfl rfl ?_)];dsimp[enc];room;rw[h.o,bL,mQ]
  exact#[#[rfl,rfl],by simp,ca h2 #[L,sg,bh,en,_,_,rfl,#[a,b,rfl,∅,∅,rfl],h,hp,hb,hl,q]]
 |or a b=>
  have dt:max (bU a) (bU b)+1<d+1:=dt;rwa[jj rfl rfl (jj rfl rfl (rH rfl rfl ?_))];dsimp[enc];room;rw[h.o,bL,mQ]
  exact#[#[rfl,rfl],by simp,ca h3 #[L,sg,bh,en,_,_,rfl,#[a,b,rfl,∅,∅,rfl],h,hp,hb,hl,q]]
 |rep m a=>
  have dt:bU a+1<d+1:=dt;have k1:(nj m==MA)=false/\(nj m==CP)=false/\(nj m==RI)=false:=by cases m<;>exact#[rfl,rfl,rfl]
  rwa[jj rfl k1.1 (jj rfl k1.2.1 (jj rfl k1.2.2 ?_))];room;rw[h.o,bL]
  exact#[#[rfl,rfl],ca h4 #[L,sg,bh,en,_,_,rfl,#[m,a,rfl,∅,rfl],h,hp,hb,hl,q]]
noncomputable def pM(f:List Nat->Bool)(sg:List (List Nat))(p:Nat):Bool:=((sg[p]?).map f).getD false
theorem xF{g:bj->Prop}{c:U->bj->(Bool->bj->Prop)->Prop}{e:U->bj->KU->Prop}{Q:List U->bj->Prop}{S:bj}(f:List Nat->Bool)(sg:List (List Nat))(hg:g S)(hl:sg.length<=100)
  (hc:∀(i:Nat)l k,k (f l) S->c (.tup [ba i,.str l]) S k) (he:∀(i:Nat)l k,i<=100->k (ba (1<<<i)) S->e (.tup [ba i,.str l]) S k)
  (q:∀(is:List Int)(b:Nat),is.sum=b->(∀p,b.testBit p=pM f sg p)->Q (is.map .int) S):nB g c e Q ((sg.map U.str).mapIdx λi u=>.tup [.int (i:Nat),u]) [] S:=by
 rwa[gH _ (λi acc S'=>S'=S/\∃(is:List Int)(b:Nat),acc=is.map .int/\is.sum=b/\b<2^i/\is.length<=i/\∀p,b.testBit p=(decide (p<i)&&pM f sg p)) (λi acc S' hi h=>?_) (λi u acc S' k hu hi hk=>?_) (λacc S' h=>?_) #[rfl,[],0,rfl,rfl,by simp,by simp,by simp]]
 .let#[rfl,is,b,rfl,_,_,hl',_]:=h
  simp at hi;exact#[hg,by simp;omega]
 .let#[rfl,is,b,rfl,h1,h2,h3,h4]:=hi
  dsimp[fm,aC] at hu;cases es:sg[i]? with
  |none=>rw[es] at hu;simp at hu
  |some l=>
   rw[es] at hu;dsimp[kj,pG] at hu;subst hu;have il:=(ae.mp es).1;have hi:pM f sg i=f l:=by unfold pM;rw[es];rfl
   rwa[hc i l _ ?_];cases z:f l with
   |false=>
    rw[if_neg (by simp)]
    rwa[hk _ _ #[rfl,is,b,rfl,h1,by rw[fZ];omega,∅,λp=>?_]];rw[h4]
    by_cases zp:p=i
    .subst zp;simp[hi,z]
    .have:(p<i)↔(p<i+1):=∅
     dsimp[this]
   |true=>
    rw[if_pos rfl]
    rwa[he i l _ ∅ (hk _ _ #[rfl,is++[((1<<<i:Nat):Int)],2^i+b,by simp,?_,by rw[fZ];omega,by simp;omega,λp=>?_])]
    .rw[Kv,h1,tO];simp;omega
    .by_cases zp:p=i
     .subst zp
      rw[Nat.testBit_two_pow_add_eq,BD h2];simp[hi,z]
     .by_cases zl:p<i
      .rw[Nat.testBit_two_pow_add_gt zl,h4]
       simp[zl,bc zl]
      .rw[BD (az (show 2^i+b<2^(i+1) by rw[fZ];omega) (bw ∅ ∅))]
       have:¬p<i+1:=∅
       simp[this]
 .let#[rfl,is,b,rfl,h1,_,_,h4]:=h
  rwa[q is b h1 λp=>?_]
  rw[h4]
  dsimp[lu,ah];by_cases z:p<sg.length
  .simp[z]
  .unfold pM
   rw[dD ∅];simp
theorem A0{f:List Nat->Bool}{sg:List (List Nat)}{p:Nat}(h:pM f sg p=true):∃l,sg[p]?=some l/\f l=true:=by
 unfold pM at h;cases e:sg[p]? with
 |none=>rw[e] at h;simp at h
 |some l=>rw[e] at h;exact#[l,rfl,h]
def NG:Spec:=λus S Q _=>∃L sg bh en c,us=[.loc L,.str [c]]/\rG S L sg bh en/\sg.length<=100/\∀(b:Nat)S',Ext S S'->(∀p,b.testBit p=pM (·.contains c) sg p)->Q (ba b) S'
theorem QF(Γ:bT):Keeps Γ fN 0 NG:=by
 rintro us S Q E ⟨L,sg,bh,en,c,rfl,h,hl,q⟩;unfold fN;room;rw[Jg h]
 room;rw[h.s,aD]
 rwa[xF (·.contains c) sg h.s hl (λi l k z=>?_) (λi l k hi z=>?_) λis b e hb=>?_]
 .room
  erw[z]
 .room
  exact#[∅,z]
 .exact#[is,by simp,by rw[e];erw[q b _ (Ext.app _) hb]]
noncomputable def FJ(l:List Nat):Bool:=!(l==[])
structure Kj(sg:List (List Nat))(bh en:List Nat)(u:Nat):Prop where
 e:∀(Z p:Nat),Z∈en->Z.testBit p=true->pM FJ sg p=true->u.testBit p=true
 b:∀(q B p:Nat),pM FJ sg q=true->bh[q]?=some B->B.testBit p=true->u.testBit p=true->u.testBit q=true
def UJ:Spec:=λus S Q _=>∃L sg bh en,us=[.loc L]/\rG S L sg bh en/\sg.length<=100/\bh.length=sg.length/\∀(u:Nat)S',Ext S S'->Kj sg bh en u->Q (ba u) S'
theorem UK(Γ:bT)(h1:Γ "members"=AW):Keeps Γ iK 5 UJ:=by
 rintro us S Q E ⟨L,sg,bh,en,rfl,h,hl,hb,q⟩;unfold iK;room;rw[Jg h]
 room;rw[h.s,aD]
 rwa[xF FJ sg h.s hl (λi l k z=>?_) (λi l k hi z=>?_) λis T e hT=>#[is,by simp,?_]]
 .room
  erw[z]
 .room
  exact#[∅,z]
 rw[e]
 have x0:Ext S (S++[SO.lst (is.map U.int)]):=Ext.app _;have h':=h.ext x0;generalize S++[SO.lst (is.map U.int)]=S0 at x0 h';have Tlt:∀p,T.testBit p=true->p<sg.length:=λp hp=>by
  rw[hT] at hp;let#[l,e,_]:=A0 hp;exact(ae.mp e).1
 have Tl:T<2^sg.length:=jI Tlt;room;rw[Qv h']
 room;rw[h'.e,aD]
 rwa[cQ (λi env S2=>S2=S0/\∃(gr:Nat)(x3:Option U),env=[some (.loc L),some (ba T),some (ba gr),x3,none,none]/\gr<2^sg.length/\(∀(Z p:Nat),Z∈en.take i->Z.testBit p=true->T.testBit p=true->gr.testBit p=true)) (λi env S2 z=>z.1▸h'.e) _ ?_ ?_ #[rfl,0,none,rfl,Nat.two_pow_pos _,by simp]]
 .rintro i u env S2 K hu ⟨rfl,gr,x3,rfl,hgr,inv⟩ hK
  let#[Z,hZ,rfl]:=fj hu;room;have et:=Jf hZ;rwa[hK _ _ #[rfl,gr|||(Z&&&T),_,rfl,Ka hgr (jI λp hp=>?_),λZ' p m h1 h2=>?_]]
  .rw[cG,aj] at hp;erw[Tlt p hp.2]
  .rw[et] at m
   rw[dq,cG]
   rcases aI.mp m with m|m
   .rw[inv Z' p m h1 h2];rfl
   .simp at m;subst m;rw[h1,h2];simp
 .rintro env S2 ⟨rfl,gr,x3,rfl,hgr,inv⟩
  room;rw[ah,bP] at inv;have out:∀{S3:bj}{u:Nat},Ext S S3->(∀p,gr.testBit p=true->u.testBit p=true)->(∀(q B p:Nat),T.testBit q=true->bh[q]?=some B->B.testBit p=true->u.testBit p=true->u.testBit q=true)->Q (ba u) S3:=λx3 a b=>
   q _ _ x3 #[λZ p m z1 z2=>a p (inv Z p m z1 (by rw[hT];erw[z2])),λq B p z1=>b q B p (by rw[hT];erw[z1])]
  refine#[2^sg.length+1,pA (λn env S3=>∃(g2 u:Nat)(x3 x5:Option U),n=2^sg.length-u/\env=[some (.loc L),some (ba T),some (ba g2),x3,some (ba u),x5]/\Ext S S3/\rG S3 L sg bh en/\u<=g2/\g2<2^sg.length/\(∀p,gr.testBit p=true->g2.testBit p=true) /\
   (∀(q B p:Nat),T.testBit q=true->bh[q]?=some B->B.testBit p=true->u.testBit p=true->g2.testBit q=true)) ?_ _ (2^sg.length) _ _ ∅ #[gr,0,x3,none,∅,rfl,x0,h',∅,hgr,λ_ z=>z,λq B p _ _ _ z=>by simp at z]]
  rintro n env S3 K ⟨g2,u,x3,x5,rfl,rfl,x3',h3,hu,hg,ia,ib⟩ hK;room;by_cases z:g2=u
  .subst z
   dsimp[beq_self_eq_true,bz,ak,if_false];room;erw[out x3' ia ib]
  .have:((g2:Int)== (u:Int))=false:=by
    rw[beq_eq_false_iff_ne];omega
   dsimp[this,bM,if_true];room;rwa[ca h1 #[T,rfl,az Tl (bw ∅ hl),λm S4 x4 hm g4=>?_]];room;rw[g4,aD]
   have h4:=h3.ext x4;refine cQ (λi env S5=>S5=S4/\∃(g3:Nat)(x5:Option U),env=[some (.loc L),some (ba T),some (ba g3),x3,some (ba g2),x5]/\g2<=g3/\g3<2^sg.length/\(∀p,g2.testBit p=true->g3.testBit p=true) /\
    (∀(q B p:Nat),q∈(CV T).take i->bh[q]?=some B->B.testBit p=true->g2.testBit p=true->g3.testBit q=true)) (λi env S5 z=>z.1▸g4) _ ?_ ?_ #[rfl,g2,x5,rfl,ar _,hg,λ_ z=>z,by simp]
   .rintro i v env S5 K' hv ⟨rfl,g3,x5,rfl,j1,j2,j3,j4⟩ hK'
    let#[p,hp,rfl]:=fj hv;have pT:=kY.mp (ao hp);have pl:=Tlt p pT;have et:=Jf hp;room;rw[Jh h4]
    room;rw[h4.b,aD,jb]
    rwa[uh (aa ∅) ?_];room;by_cases w:(((bh[p]'∅&&&g2:Nat):Int) !=0)=true
    .rw[if_pos w]
     room;refine#[∅,?_];try room
     rwa[hK' _ _ #[rfl,g3|||1<<<p,_,rfl,aP j1 Nat.left_le_or,Ka j2 (jI λr hr=>?_),λr hr=>by rw[dq,j3 r hr];rfl,λq B r m e1 e2 e3=>?_]]
     .rw[ui] at hr;have:=eq_of_beq hr;omega
     .rw[et] at m
      rw[dq,ui]
      rcases aI.mp m with m|m
      .rw[j4 q B r m e1 e2 e3];rfl
      .simp at m;subst m;simp
    .rw[if_neg w]
     room;rwa[hK' _ _ #[rfl,g3,_,rfl,j1,j2,j3,λq B r m e1 e2 e3=>?_]];rw[et] at m;rcases aI.mp m with m|m
     .erw[j4 q B r m e1 e2 e3]
     .simp at m;subst m
      rwa[absurd (CU.mpr #[r,?_]) w];rw[aa ∅] at e1;injection e1 with e1
      rw[e1,cG,e2,e3];rfl
   .rintro env S5 ⟨rfl,g3,x5,rfl,j1,j2,j3,j4⟩
    rw[ah,bP] at j4;room;erw[hK (2^sg.length-g2) _ _ ∅ #[g3,g2,_,_,rfl,rfl,x3'.trans x4,h4,j1,j2,λp hp=>j3 p (ia p hp),λq B p z1=>j4 q B p (kY.mpr z1)]]
noncomputable def j9(f:List Nat->Bool):List (List Nat)->Nat
 |[]=>0
 |l::r=>(if f l=true then 1 else 0)+2*j9 f r
theorem vE{f:List Nat->Bool}:∀{sg:List (List Nat)}{p:Nat},(j9 f sg).testBit p=pM f sg p
 |[],p=>by simp[j9,pM]
 |l::r,0=>by
  unfold j9 pM;rw[Nat.testBit_zero]
  cases z:f l<;>simp[z]<;>omega
 |l::r,p+1=>by
  unfold j9;have e:((if f l=true then 1 else 0)+2*j9 f r)/2=j9 f r:=by split<;>omega
  rw[Nat.testBit_succ,e,vE]
  rfl
section
variable{S S1 S2:bj}{r n:Nat}{o:SO}
theorem nU(a:Old r S S1)(h:S[n]?=some o)(ne:n≠r):S1[n]?=some o:=(a.2 n (aZ h) ne).trans h
theorem UL(a:Old r S S1)(b:Ext S1 S2):Old r S S2:=a.trans (Ext.old b)
theorem FK{c f:String}{fs:List (String×U)}{v:U}{K:bj->Prop}(h:S[r]?=some (.ins c fs))(hl:fs.length<100)(q:∀S',Old r S S'->S'.length=S.length->S'[r]?=some (.ins c (gV f v fs))->K S'):
  qg S[r]? λc fs=>fs.length<100/\K (S.set r (.ins c (gV f v fs))):=by
 rw[h,bL]
 exact#[hl,q _ (lg.set h).old (by simp) (gs h)]
end
structure Jk(S:bj)(P:Nat)(bh en:List Nat)(tk:Nat->Nat):Prop where
 o:∃b e k,S[P]?=some (.ins "Places" [("behind",.loc b),("ends",.loc e),("takers",.loc k)])/\S[b]?=some (.lst (bh.map ba))/\S[e]?=some (.lst (en.map ba))/\S[k]?=some (.eL (SG.map λc=>(.str [c],ba (tk c))))
theorem Jk.ext{S S':bj}{P:Nat}{bh en:List Nat}{tk:Nat->Nat}(h:Jk S P bh en tk)(x:Ext S S'):Jk S' P bh en tk:=by
 let#[b,e,k,h1,h2,h3,h4]:=h.o;exact#[b,e,k,x.get h1,x.get h2,x.get h3,x.get h4]
def Jl:Spec:=λus S Q _=>∃P L sg bh en,us=[.loc P,.loc L]/\S[P]?=some (.ins "Places" [])/\S.length=P+1/\rG S L sg bh en/\sg.length<=100/\bh.length=sg.length/\en.length<=100 /\
 ∀u S',Kj sg bh en u->(∀n,n<P->S'[n]?=S[n]?)->Jk S' P (bh.map (·&&&u)) en (λc=>j9 (·.contains c) sg)->Q .bV S'
theorem NH:(SG.map λc=>[c]).Nodup:=⋯
theorem UM(Γ:bT)(h1:Γ "useful_places"=UJ)(h2:Γ "places_that_take"=NG):Keeps Γ jZ 1 Jl:=by
 rintro us S Q E ⟨P,L,sg,bh,en,rfl,hP,hs,h,hl,hb,he,q⟩;unfold jZ;have nd:=NH;generalize hG:SG=G at nd;have gl:G.length=95:=by rw[<-hG];rfl
 room;refine ca h1 #[L,sg,bh,en,rfl,h,hl,hb,λu S1 x1 hu=>?_];have la:=h.ext x1;have hP1:=x1.get hP;have ne:L+4<=P:=by
  have:=h.len;have n0:¬L=P:=λz=>by rw[z] at h;rw[h.o] at hP;simp at hP
  have n1:¬L+1=P:=λz=>by rw[<-z,h.s] at hP;simp at hP
  have n2:¬L+2=P:=λz=>by rw[<-z,h.b] at hP;simp at hP
  have n3:¬L+3=P:=λz=>by rw[<-z,h.e] at hP;simp at hP
  omega
 room;rw[Jh la]
 room;rw[la.b,aD]
 refine xE (S:=S1) _ (λ_=>true) (λv=>match v with|.int i=>ba (i.toNat&&&u)|v=>v) la.b (by simp;omega) (λv k _ z=>z.1 rfl) (λv k hv _ z=>?_) ?_
 .let#[B,_,rfl]:=bB.mp hv
  room;erw[z]
 have e1:(List.filter (λ_=>true) (bh.map ba)).map (λv=>match v with|.int i=>ba (i.toNat&&&u)|v=>v)=(bh.map (·&&&u)).map ba:=by
  rw[List.filter_eq_self.mpr (λ_ _=>rfl),bq,bq];rfl
 rw[e1]
 have x2:Ext S1 (S1++[SO.lst ((bh.map (·&&&u)).map ba)]):=Ext.app _;have g2:(S1++[SO.lst ((bh.map (·&&&u)).map ba)])[S1.length]?=some (.lst ((bh.map (·&&&u)).map ba)):=by simp
 have n2:S1.length≠P:=by have:=x1.1;omega
 generalize S1.length=b at g2 n2;generalize S1++[SO.lst ((bh.map (·&&&u)).map ba)]=S2 at g2 x2;rwa[FK (x2.get hP1) (by simp) λS3 o3 l3 hP3=>?_]
 have la3:rG S3 L sg bh en:=by
  have:=la.ext x2;exact#[nU o3 this.o ∅,nU o3 this.s ∅,nU o3 this.b ∅,nU o3 this.e ∅]
 have g3:=nU o3 g2 n2;have o13:=(Ext.old (r:=P) (x1.trans x2)).trans o3;room;rw[Qv la3]
 room;rw[la3.e,aD]
 have x4:Ext S3 (S3++[SO.lst (en.map ba)]):=Ext.app _;have g4:(S3++[SO.lst (en.map ba)])[S3.length]?=some (.lst (en.map ba)):=by simp
 have n4:S3.length≠P:=by have:=o13.1;omega
 generalize S3.length=e at g4 n4;generalize S3++[SO.lst (en.map ba)]=S4 at g4 x4;rwa[FK (x4.get hP3) (by simp[gV]) λS5 o5 l5 hP5=>?_]
 have la5:rG S5 L sg bh en:=by
  have:=la3.ext x4;exact#[nU o5 this.o ∅,nU o5 this.s ∅,nU o5 this.b ∅,nU o5 this.e ∅]
 have o15:=(UL o13 x4).trans o5;have g35:=nU o5 (x4.get g3) n2;have g45:=nU o5 g4 n4;room;rwa[gH _ (λi acc S6=>i<=G.length/\Ext S5 S6/\acc=(G.take i).map λc=>.tup [.str [c],ba (j9 (·.contains c) sg)]) (λi acc S6 hi z=>#[trivial,?_]) (λi v acc S6 k hv hi hk=>?_) (λacc S6 z=>?_) #[∅,.refl,rfl]]
 .rw[z.2.2];simp;omega
 .let#[_,x6,rfl]:=hi
  let#[c,hc,rfl]:=fj hv;have et:=Jf hc;room;rwa[ca h2 #[L,sg,bh,en,c,rfl,la5.ext x6,hl,λb S7 x7 hb=>#[by simp,?_]]];have eb:b=j9 (·.contains c) sg:=kz λp=>by rw[hb,vE]
  subst eb;erw[hk _ _ #[(ae.mp hc).1,x6.trans x7,by rw[et,aJ];rfl]]
 let#[_,x6,rfl]:=z;rw[ah,bP]
 refine#[G.map λc=>([c],ba (j9 (·.contains c) sg)),by simp[dk],by rw[bq];erw[nd],?_];rw[bq]
 have x7:Ext S6 (S6++[SO.lst (G.map λc=>.tup [.str [c],ba (j9 (·.contains c) sg)])]++[SO.eL (G.map ((λp=>(U.str p.1,p.2))∘λc=>([c],ba (j9 (·.contains c) sg))))]):=(Ext.app _).trans (Ext.app _);have g7:(S6++[SO.lst (G.map λc=>.tup [.str [c],ba (j9 (·.contains c) sg)])]++[SO.eL (G.map ((λp=>(U.str p.1,p.2))∘λc=>([c],ba (j9 (·.contains c) sg))))])[(S6++[SO.lst (G.map λc=>.tup [.str [c],ba (j9 (·.contains c) sg)])]).length]?=some (.eL (G.map λc=>(.str [c],ba (j9 (·.contains c) sg)))):=by
  rw[aw (ar _),bH];rfl
 have n7:(S6++[SO.lst (G.map λc=>.tup [.str [c],ba (j9 (·.contains c) sg)])]).length≠P:=by
  have:=o15.1;have:=x6.1;rw[ax];omega
 generalize (S6++[SO.lst (G.map λc=>.tup [.str [c],ba (j9 (·.contains c) sg)])]).length=k at g7 n7;generalize S6++[SO.lst (G.map λc=>.tup [.str [c],ba (j9 (·.contains c) sg)])]++[SO.eL (G.map ((λp=>(U.str p.1,p.2))∘λc=>([c],ba (j9 (·.contains c) sg))))]=S7 at g7 x7;rwa[FK ((x6.trans x7).get hP5) (by simp[gV]) λS8 o8 l8 hP8=>?_]
 room;subst hG;erw[q u S8 hu (λn hn=>((UL o15 (x6.trans x7)).trans o8).2 n ∅ ∅) #[b,e,k,hP8,nU o8 ((x6.trans x7).get g35) n2,nU o8 ((x6.trans x7).get g45) n4,nU o8 g7 n7]]
def QG(bh:List Nat)(h r:Nat):Prop:=∀p,r.testBit p=true↔∃q B,h.testBit q=true/\bh[q]?=some B/\B.testBit p=true
def Jm:Spec:=λus S Q _=>∃P bh en tk h,us=[.loc P,ba h]/\Jk S P bh en tk/\bh.length<=100/\(∀p,h.testBit p=true->p<bh.length)/\∀r S',QG bh h r->Ext S S'->Q (ba r) S'
theorem UN(Γ:bT)(h1:Γ "members"=AW):Keeps Γ iL 2 Jm:=by
 rintro us S Q E ⟨P,bh,en,tk,h,rfl,pa,hl,hh,q⟩;unfold iL;room;rwa[ca h1 #[h,rfl,az (jI hh) (bw ∅ hl),λn S1 x1 hn g1=>?_]];let#[b,e,k,o,gb,_,_]:=(pa.ext x1).o;have fb:∀{r},nN (.loc P) "behind" S1 r=r (.loc b):=by intro r;rw[iC,o];rfl
 room;rw[g1,aD]
 rwa[cQ (λi env S2=>S2=S1/\∃(r:Nat)(x3:Option U),env=[some (.loc P),some (ba h),some (ba r),x3]/\∀p,r.testBit p=true↔∃q B,q∈(CV h).take i/\bh[q]?=some B/\B.testBit p=true) (λi env S2 z=>z.1▸g1) _ ?_ ?_ #[rfl,0,none,rfl,by simp]]
 .rintro i u env S2 K hu ⟨rfl,r,x3,rfl,inv⟩ hK
  let#[p,hp,rfl]:=fj hu;have pl:=hh p (kY.mp (ao hp));have et:=Jf hp;room;rw[fb]
  room;rw[gb,aD,jb]
  rwa[uh (aa pl) ?_];room;rwa[hK _ _ #[rfl,_,_,rfl,λp'=>?_]];rw[dq,bu,inv,et]
  constructor
  .rintro(⟨q,B,m,e1,e2⟩|e2)
   .exact#[q,B,bI _ m,e1,e2]
   .exact#[p,_,a9 _ (by simp),aa pl,e2]
  .rintro⟨q,B,m,e1,e2⟩
   rcases aI.mp m with m|m
   .erw[.inl #[q,B,m,e1,e2]]
   .simp at m;subst m
    rw[aa pl] at e1;injection e1 with e1
    erw[.inr (by rw[e1];exact e2)]
 .rintro env S2 ⟨rfl,r,x3,rfl,inv⟩
  room;rwa[q r _ (λp=>?_) x1];rw[inv,ah,bP]
  dsimp[kY]
def Ov(h:Nat)(en:List Nat)(i:Nat):Prop:=∃Z,en[i]?=some Z/\∃p,h.testBit p=true/\Nat.testBit Z p=true
noncomputable def uN:Option Nat->U
 |none=>.bV
 |some i=>ba i
def Wg(h:Nat)(en:List Nat):Option Nat->Prop
 |none=>∀i,¬Ov h en i
 |some i=>Ov h en i/\∀i',i'<i->¬Ov h en i'
def Jn:Spec:=λus S Q _=>∃P bh en tk h,us=[.loc P,ba h]/\Jk S P bh en tk/\∀r,Wg h en r->Q (uN r) S
theorem UO(Γ:bT):Keeps Γ fE 2 Jn:=by
 rintro us S Q E ⟨P,bh,en,tk,h,rfl,pa,q⟩;unfold fE;let#[b,e,k,o,_,ge,_]:=pa.o;have fe:∀{r},nN (.loc P) "ends" S r=r (.loc e):=by intro r;rw[iC,o];rfl
 room;rw[fe]
 room;rw[ge,aD]
 rwa[cQ (λi env S2=>S2=S/\∃(x2 x3:Option U),env=[some (.loc P),some (ba h),x2,x3]/\∀i',i'<i->¬Ov h en i') (λi env S2 z=>z.1▸ge) _ ?_ ?_ #[rfl,none,none,rfl,by simp]]
 .rintro i u env S2 K hu ⟨rfl,x2,x3,rfl,inv⟩ hK
  dsimp[fm,aC,oR] at hu;let#[Z,hZ,rfl]:=au.mp hu;dsimp[dk];room;by_cases w:(((h&&&Z:Nat):Int) !=0)=true
  .rw[if_pos w]
   room;let#[p,hp]:=CU.mp w;rw[cG,aj] at hp;erw[q (some i) #[#[Z,hZ,p,hp.1,hp.2],inv]]
  .rw[if_neg w]
   room;rwa[hK _ _ #[rfl,_,_,rfl,λi' hi=>?_]];by_cases z:i'=i
   .subst z
    rintro⟨Z',e1,p,e2,e3⟩;rw[hZ] at e1;injection e1 with e1;subst e1
    erw[w (CU.mpr #[p,by rw[cG,e2,e3];rfl])]
   .erw[inv i' ∅]
 .rintro env S2 ⟨rfl,x2,x3,rfl,inv⟩
  room;rwa[q none λi ov=>?_]
  let#[Z,e1,_]:=ov;exact inv i (by have:=(ae.mp e1).1;simpa using this) #[Z,e1,‹_›]
structure CW(ts:List Tr)(sg:List (List Nat))(bh en:List Nat):Prop where
 len:bh.length=sg.length
 FL:en.length=ts.length
 ZJ:∀(i j:Nat)t t' p,ts[i]?=some t->ts[j]?=some t'->IN t p=true->IN t' p=true->i=j
 pos:∀t∈ts,∃n,0<n/\nQ n t
 sgn:∀t∈ts,∀p,IN t p=true->sg[p]?=some (sgn t p)
 b0:∃B,bh[0]?=some B/\∀p,B.testBit p=true↔∃t∈ts,FS t p=true
 b:∀t∈ts,∀q,IN t q=true->∃B,bh[q]?=some B/\∀p,B.testBit p=nF (cont t q) p
 e:∀(i:Nat)t,ts[i]?=some t->∃Z,en[i]?=some Z/\∀p,Z.testBit p=(IN t p&&eM (cont t p))
 nl:∀t∈ts,null t=false
section
variable{ts:List Tr}{sg:List (List Nat)}{bh en:List Nat}{u r r' c:Nat}{w:List Nat}
def NI(ts:List Tr)(u:Nat)(w:List Nat)(r:Nat):Prop:=∀p,r.testBit p=true↔(∃t∈ts,∃q,hs t w q/\nF (ct t q) p=true)/\u.testBit p=true
theorem yT{q B:Nat}(h:(bh.map (·&&&u))[q]?=some B):∃B',bh[q]?=some B'/\B=B'&&&u:=by
 rw[aC] at h;let#[B',h1,h2]:=au.mp h;exact#[B',h1,h2.symm]
theorem ZK{t:Tr}:ct t 0=[t]:=rfl
theorem RK{t:Tr}{p:Nat}(h:p≠0):ct t p=cont t p:=by unfold ct;rw[if_neg h]
theorem UP{t:Tr}{p:Nat}:nF [t] p=FS t p:=by simp[nF]
theorem FN(A:CW ts sg bh en)(h:QG (bh.map (·&&&u)) 1 r):NI ts u [] r:=by
 intro p;let#[B,e0,b0]:=A.b0;rw[h p]
 constructor
 .rintro⟨q,B',h1,h2,h3⟩
  have q0:=gC.mp h1;subst q0;let#[B2,e2,rfl]:=yT h2;rw[e0] at e2;injection e2 with e2;subst e2
  rw[cG,aj,b0] at h3;let#[#[t,m,f],z]:=h3;exact#[#[t,m,0,rfl,by rw[ZK,UP];erw[f]],z]
 .rintro⟨⟨t,m,q,hq,f⟩,z⟩
  have hq:q=0:=hq;subst hq;rw[ZK,UP] at f;exact#[0,B&&&u,rfl,by rw[aC,e0];rfl,by rw[cG,(b0 p).mpr #[t,m,f],z];rfl]
theorem rJ(A:CW ts sg bh en)(h:NI ts u w r)(p:Nat):(r&&&j9 (·.contains c) sg).testBit p=true↔(∃t∈ts,hs t (w++[c]) p)/\u.testBit p=true:=by
 rw[cG,aj,h p,vE]
 constructor
 .rintro⟨⟨⟨t,m,q,hq,f⟩,z⟩,k⟩
  let#[l,e1,e2]:=A0 k;rw[A.sgn t m p (xD f)] at e1;injection e1 with e1;subst e1
  exact#[#[t,m,by rw[rF];exact#[q,hq,f,gv.mp e2]],z]
 .rintro⟨⟨t,m,hq⟩,z⟩
  rw[rF] at hq;let#[q,hq,f,k]:=hq;refine#[#[#[t,m,q,hq,f],z],?_];unfold pM;rw[A.sgn t m p (xD f)]
  erw[gv.mpr k]
theorem pB(A:CW ts sg bh en){t:Tr}(m:t∈ts){p:Nat}(h:hs t (w++[c]) p):IN t p=true/\p≠0/\pM FJ sg p=true:=by
 rw[rF] at h;let#[q,_,f,k]:=h;have i:=xD f;let#[n,n0,pl]:=A.pos t m;refine#[i,yR pl n0 i,?_];unfold pM;rw[A.sgn t m p i]
 show FJ (sgn t p)=true
 unfold FJ;cases e:mj.sgn t p with
 |nil=>rw[e] at k;simp at k
 |cons a l=>rfl
theorem Jo(A:CW ts sg bh en)(U:Kj sg bh en u){t:Tr}(m:t∈ts){q p:Nat}(h:hs t (w++[c]) q)(f:nF (ct t q) p=true)(z:u.testBit p=true):u.testBit q=true:=by
 let#[i,q0,k]:=pB A m h;let#[B,e1,e2]:=A.b t m q i;rw[RK q0] at f;erw[U.b q B p k e1 (by rw[e2];exact f) z]
theorem vF(A:CW ts sg bh en)(U:Kj sg bh en u)(h:NI ts u w r)(hr:QG (bh.map (·&&&u)) (r&&&j9 (·.contains c) sg) r'):NI ts u (w++[c]) r':=by
 intro p;rw[hr p]
 constructor
 .rintro⟨q,B',h1,h2,h3⟩
  let#[#[t,m,hq],_]:=(rJ A h q).mp h1;let#[i,q0,_]:=pB A m hq;let#[B2,e2,rfl]:=yT h2;let#[B,e1,b1]:=A.b t m q i;rw[e1] at e2;injection e2 with e2;subst e2
  rw[cG,aj,b1] at h3;exact#[#[t,m,q,hq,by rw[RK q0];erw[h3.1]],h3.2]
 .rintro⟨⟨t,m,q,hq,f⟩,z⟩
  have uq:=Jo A U m hq f z;let#[i,q0,_]:=pB A m hq;let#[B,e1,b1]:=A.b t m q i;rw[RK q0] at f;exact#[q,B&&&u,(rJ A h q).mpr #[#[t,m,hq],uq],by rw[aC,e1];rfl,by rw[cG,b1,f,z];rfl]
theorem ML(A:CW ts sg bh en)(U:Kj sg bh en u){t:Tr}(m:t∈ts){p:Nat}(h:hs t (w++[c]) p)(n:eM (ct t p)=true):u.testBit p=true:=by
 let#[i,p0,k]:=pB A m h;rw[RK p0] at n;let#[j,ej]:=bA m;let#[Z,e1,e2]:=A.e j t ej;erw[U.e Z p (ao e1) (by rw[e2,i,n];rfl) k]
theorem Jp(A:CW ts sg bh en)(U:Kj sg bh en u)(h:NI ts u w r)(i:Nat):Ov (r&&&j9 (·.contains c) sg) en i↔∃t,ts[i]?=some t/\En t (hs t (w++[c])):=by
 constructor
 .rintro⟨Z,e1,p,h1,h2⟩
  have hi:i<ts.length:=by rw[<-A.FL];exact(ae.mp e1).1
  let#[Z',e2,b2]:=A.e i _ (aa hi);rw[e1] at e2;injection e2 with e2;subst e2
  rw[b2,aj] at h2;let#[#[t,m,hq],_]:=(rJ A h p).mp h1;let#[ip,p0,_]:=pB A m hq;let#[j,ej]:=bA m;have:=A.ZJ i j _ t p (aa hi) ej h2.1 ip;subst this;rw[aa hi] at ej;injection ej with ej;subst ej
  exact#[_,aa hi,p,hq,by rw[RK p0];erw[h2.2]]
 .rintro⟨t,ei,p,hq,n⟩
  have m:=ao ei;let#[Z,e1,e2]:=A.e i t ei;let#[ip,p0,_]:=pB A m hq;have up:=ML A U m hq n;rw[RK p0] at n;exact#[Z,e1,p,(rJ A h p).mpr #[#[t,m,hq],up],by rw[e2,ip,n];rfl]
end
noncomputable def gJ(ts:List Tr):Nat:=(ts.map size).sum
def MM:Nat->List Tr->Prop
 |_,[]=>True
 |n,t::ts=>nQ n t/\MM (n+size t) ts
theorem yU:∀{ts:List Tr}{n i:Nat}{t:Tr},MM n ts->ts[i]?=some t->nQ (n+gJ (ts.take i)) t
 |[],n,i,t,h,e=>by simp at e
 |a::ts,n,0,t,h,e=>by
  have:a=t:=by simpa using e
  subst this;erw[h.1]
 |a::ts,n,i+1,t,h,e=>by
  have:=yU (i:=i) h.2 (by simpa using e);simpa[gJ,Nat.add_assoc] using this
theorem MN:CW [] [[]] [0] []:=
 #[rfl,rfl,λi j t t' p h=>by simp at h,λt h=>by simp at h,λt h=>by simp at h,#[0,rfl,λp=>by simp],λt h=>by simp at h,λi t h=>by simp at h,λt h=>by simp at h]
theorem Jq{ts:List Tr}{sg:List (List Nat)}{bt en:List Nat}{bh:List Nat}{t:Tr}{B F Z:Nat}(A:CW ts sg bh en)(s0:0<sg.length)(hp:nQ sg.length t)(nt:null t=false)(l:tY t bh F Z (B::bt)):CW (ts++[t]) (sg++oI t) ((B|||F)::bt) (en++[Z]):=by
 have lt:∀t'∈ts,∀p,IN t' p=true->p<sg.length:=λt' m p i=>(ae.mp (A.sgn t' m p i)).1
 have ge:∀p,IN t p=true->sg.length<=p/\p<sg.length+size t:=λp i=>(fh hp).mp i
 have ll:=hJ t;have l1:=l.len;have l2:=A.len;have bs:∀(q C:Nat),0<q->(B::bt)[q]?=some C->((B|||F)::bt)[q]?=some C:=λq C h e=>by
  cases q with
  |zero=>omega
  |succ q=>erw[e]
 have mem:∀{t'},t'∈ts++[t]->t'∈ts\/t'=t:=λh=>by simpa using h
 have at_:∀{i:Nat}{t'},(ts++[t])[i]?=some t'->ts[i]?=some t'\/(i=ts.length/\t'=t):=λ{i t'}h=>by
  rw[iq] at h;split at h
  .erw[.inl h]
  .rename_i z
   have il:i=ts.length:=by
    have:=(ae.mp h).1;simp at this;omega
   subst il;simp at h;erw[.inr #[rfl,h.symm]]
 refine#[?_,?_,?_,?_,?_,?_,?_,?_,?_]
 .rw[ax,ll]
  dsimp[aW] at l1 ⊢;omega
 .simp[A.FL]
 .intro i j t1 t2 p e1 e2 i1 i2
  rcases at_ e1 with f1|⟨f1,g1⟩<;>rcases at_ e2 with f2|⟨f2,g2⟩
  .erw[A.ZJ i j _ _ p f1 f2 i1 i2]
  .have:=lt _ (ao f1) p i1;rw[g2] at i2;have:=ge p i2;omega
  .have:=lt _ (ao f2) p i2;rw[g1] at i1;have:=ge p i1;omega
  .omega
 .intro t' m
  rcases mem m with m|rfl
  .erw[A.pos t' m]
  .exact#[_,s0,hp]
 .intro t' m p i
  rcases mem m with m|rfl
  .rw[ag (lt t' m p i)];erw[A.sgn t' m p i]
  .rw[aw (ge p i).1];erw[sH hp i]
 .let#[B',e,b]:=A.b0
  have:=l.old 0 ∅;rw[e] at this;have eB:B=B':=by simpa using this
  subst eB;refine#[B|||F,rfl,λp=>?_];rw[dq,bu,b,l.f]
  constructor
  .rintro(⟨t',m,f⟩|f)
   .exact#[t',by simp[m],f]
   .exact#[t,by simp,f]
  .rintro⟨t',m,f⟩
   rcases mem m with m|rfl
   .erw[.inl #[t',m,f]]
   .erw[.inr f]
 .intro t' m q i
  rcases mem m with m|rfl
  .let#[C,e,b]:=A.b t' m q i
   have ql:=lt t' m q i;let#[n,n0,pl]:=A.pos t' m;have q0:=yR pl n0 i;exact#[C,bs q C ∅ ((l.old q ∅).trans e),b]
  .let#[C,e,b]:=l.new q i
   have:=ge q i;exact#[C,bs q C ∅ e,b]
 .intro i t' e
  rcases at_ e with e|⟨rfl,rfl⟩
  .let#[Z',e1,b]:=A.e i t' e
   exact#[Z',by rw[ag (ae.mp e1).1];erw[e1],b]
  .exact#[Z,by rw[<-A.FL];simp,l.z]
 .intro t' m
  rcases mem m with m|rfl
  .erw[A.nl t' m]
  .erw[nt]
def UQ:Spec:=λus S Q _=>∃x v t r,us=[.str x,v]/\x.length<=1000/\tI x=.ok (t,r)/\∀S',Ext S S'->Q t S'
theorem UR(Γ:bT)(h1:Γ "read"=CQ):Keeps Γ ph 1 UQ:=by
 rintro us S Q E ⟨x,v,t,r,rfl,hl,hr,q⟩;unfold ph;room;rwa[ca h1 #[x,rfl,hl,?_]];rw[hr]
 erw[q]
def ZL(ts:List Tr)(xs:List (List Nat)):Prop:=xs.length=ts.length/\∀(i:Nat)t x,ts[i]?=some t->xs[i]?=some x->x.length<=1000/\∃r,tI x=.ok (enc t,r)
structure CY(ts:List Tr):Prop where
 len:ts.length<=4
 pl:MM 1 ts
 nl:∀t∈ts,null t=false
 dp:∀t∈ts,bU t<4
 sz:gJ ts<=24
theorem size_take{ts:List Tr}{i:Nat}{t:Tr}(e:ts[i]?=some t):gJ (ts.take (i+1))=gJ (ts.take i)+size t/\gJ (ts.take (i+1))<=gJ ts:=by
 have h1:=Jf e;refine#[by rw[h1];simp[gJ],?_];have:gJ ts=gJ (ts.take (i+1))+gJ (ts.drop (i+1)):=by
  unfold gJ;rw[<-Kv,<-aJ,BE]
 omega
def US:Spec:=λus S Q _=>∃n xs ts M,us=[.loc n,ba M]/\S[n]?=some (.lst (xs.map .str))/\ZL ts xs/\CY ts/\gJ ts<=M/\∀P u sg bh en S',Jk S' P (bh.map (·&&&u)) en (λc=>j9 (·.contains c) sg)->CW ts sg bh en->Kj sg bh en u->sg.length=1+gJ ts->Ext S S'->Q (.loc P) S'
theorem UT(Γ:bT)(h1:Γ "Layout.__init__"=Qw)(h2:Γ "Layout.lay"=gI (Tu 4))(h3:Γ "tree_of"=UQ)(h4:Γ "Layout.how_many"=Qx)(h5:Γ "Layout.close_rule"=Qy)(h6:Γ "Places.__init__"=Jl):Keeps Γ lE 4 US:=by
 rintro us S Q E ⟨n,xs,ts,M,rfl,gn,hR,hT,hM,q⟩;unfold lE;have gL:(S++[SO.ins "Layout" []])[S.length]?=some (.ins "Layout" []):=by simp
 have nS:=aZ gn;room;rwa[ca h1 #[S.length,rfl,gL,by simp,λS1 e1 la1=>#[rfl,?_]]];have x1:∀n,n<S.length->S1[n]?=S[n]?:=λn hn=>by rw[e1 n hn,ag hn]
 have gn1:S1[n]?=some (.lst (xs.map .str)):=by rw[x1 n nS];erw[gn]
 have xl:xs.length<=4:=by rw[hR.1];erw[hT.len]
 room;dsimp[Nt];rw[gn1,aD]
 have ec:qh (xs.map U.str) none (some 6)=xs.map U.str:=by
  unfold qh;dsimp[jO,d7,ya,Nat.zero_min,jv,Nat.sub_zero,ah];rw[uC (by show xs.length<=6;omega)]
  erw[d6 (by simp)]
 rw[ec]
 refine#[#[λi e=>(by cases e),λi e=>(by injection e with e;omega)],?_];have x2:Ext S1 (S1++[SO.lst (xs.map U.str)]):=Ext.app _;have g2:(S1++[SO.lst (xs.map U.str)])[S1.length]?=some (.lst (xs.map .str)):=by simp
 have l1:=la1.len;generalize S1.length=m at g2 l1;generalize S1++[SO.lst (xs.map U.str)]=S2 at g2 x2;room;rw[g2,aD]
 refine cQ (λi env S3=>∃(sg:List (List Nat))(bh en:List Nat)(x3 x4 x5:Option U),env=[some (.loc n),some (ba M),some (.loc S.length),x3,x4,x5]/\Fr S.length S2 S3/\rG S3 S.length sg bh en/\CW (ts.take i) sg bh en/\sg.length=1+gJ (ts.take i)/\i<=ts.length) (λi env S3 h9=>by let#[_,_,_,_,_,_,_,f,_]:=h9;exact f.get g2 l1) _ ?_ ?_
  #[[[]],[0],[],none,none,none,rfl,.refl,la1.ext x2,MN,rfl,∅]
 .rintro i u env S3 K hu ⟨sg,bh,en,x3,x4,x5,rfl,f3,la3,A,hsg,hi⟩ hK
  dsimp[fm,aC,oR] at hu;let#[x,hx,rfl]:=au.mp hu;have il:i<ts.length:=by rw[<-hR.1];exact(ae.mp hx).1
  have ht:ts[i]?=some ts[i]:=aa il;have hm:ts[i]∈ts:=cu il;generalize ts[i]=t at ht hm;let#[xle,r,hr]:=hR.2 i t x ht hx;have pt:=yU hT.pl ht;rw[<-hsg] at pt;let#[s1,s2]:=size_take ht;have sz:=hT.sz;have nt:=hT.nl t hm;dsimp[dk];room;rw[la3.o,bL]
  refine#[#[rfl,rfl],ca h3 #[x,_,enc t,r,rfl,xle,hr,λS4 x4=>?_]];have la4:=la3.ext x4;rwa[ca h2 #[S.length,sg,bh,en,t,_,rfl,#[hT.dp t hm,rfl],la4,pt,A.len,∅,λS5 p F Z bh' f5 pl5 g5 la5 lr=>?_]];rw[nt] at g5;room;rw[FG g5]
  room;rw[la5.o,bL]
  refine#[#[rfl,rfl],ca h4 #[S.length,_,bh',en,rfl,la5,by rw[ax,hJ];omega,?_]];have:¬((M:Int)<(((sg++oI t).length:Nat):Int)-1):=by rw[ax,hJ];omega
  room;dsimp[this,decide_false,ak,if_false];room;rw[la5.o,bL]
  have bl:=lr.len;cases bh' with
  |nil=>have:=A.len;simp at bl;omega
  |cons B bt=>
   refine#[#[rfl,rfl],ca h5 #[S.length,_,_,en,p,false,F,Z,B,bt,rfl,la5,rfl,g5,pl5,by rw[A.FL];simp;have:=hT.len;omega,λS6 f6 la6=>?_]];room;have et:=Jf ht;rwa[hK _ _ #[_,_,_,_,_,_,rfl,((f3.trans (Ext.fr x4)).trans f5).trans f6,la6,by rw[et];erw[Jq A ∅ pt nt lr],by rw[ax,hJ,s1];omega,il]]
 .rintro env S3 ⟨sg,bh,en,x3,x4,x5,rfl,f3,la3,A,hsg,hi⟩
  rw[lu,ah,hR.1,bP] at A hsg;have gn3:S3[n]?=some (.lst (xs.map .str)):=by
   rw[f3.2 n (by have:=x2.1;have:=aZ gn1;omega) (.inl ∅),x2.2 n (aZ gn1)];erw[gn1]
  room;rw[nE gn3]
  dsimp[bp,ah];have:¬((6:Int)<(xs.length:Int)):=∅
  refine#[∅,?_];dsimp[this,decide_false,ak,if_false];room;have gP:(S3++[SO.ins "Places" []])[S3.length]?=some (.ins "Places" []):=by simp
  have sz:=hT.sz;have sl3:=la3.len;rwa[ca h6 #[S3.length,S.length,sg,bh,en,rfl,gP,by simp,la3.ext (Ext.app _),∅,A.len,by rw[A.FL];have:=hT.len;omega,λu S4 hu e4 pa=>#[rfl,?_]]];let#[_,_,_,oP,_]:=pa.o;rwa[q _ u sg bh en S4 pa A hu hsg #[?_,λn hn=>?_]]
  .have:=aZ oP;omega
  .have:=x2.1
   have:=la1.len;rw[e4 n ∅,ag ∅,f3.2 n ∅ (.inl ∅),x2.2 n ∅];erw[x1 n hn]
noncomputable def er:Tr->Tr
 |.one _ l=>.one 0 l
 |.row a b=>.row (er a) (er b)
 |.or a b=>.or (er a) (er b)
 |.rep m a=>.rep m (er a)
theorem sJ:∀t,enc (er t)=enc t
 |.one _ l=>rfl
 |.row a b=>by dsimp[er,enc,sJ a,sJ b]
 |.or a b=>by dsimp[er,enc,sJ a,sJ b]
 |.rep m a=>by dsimp[er,enc,sJ a]
theorem lL:∀t,null (er t)=null t
 |.one _ l=>rfl
 |.row a b=>by dsimp[er,null,lL a,lL b]
 |.or a b=>by dsimp[er,null,lL a,lL b]
 |.rep m a=>by cases m<;>dsimp[er,null,lL a]
theorem MP{m:Mk}{a:Tr}:more m (er a)=(more m a).map er:=by cases m<;>rfl
theorem xG:∀t c,dF (er t) c=(dF t c).map (dh er)
 |.one _ l,c=>by dsimp[er,dF];split<;>rfl
 |.row a b,c=>by
  dsimp[er,dF,xG a,xG b,lL,aJ,bq]
  congr 1
  .congr 1;funext x;simp
  .split<;>rfl
 |.or a b,c=>by dsimp[er,dF,xG a,xG b,aJ]
 |.rep m a,c=>by
  dsimp[er,dF,xG a,MP,bq]
  congr 1;funext x;simp
theorem NJ:∀(K:List Tr)c,dR (K.map er) c=(dR K c).map (dh er)
 |[],c=>rfl
 |t::K,c=>by
  dsimp[ay,dR,xG,NJ K,lL,aJ,bq]
  congr 1
  .congr 1;funext x;simp
  .split<;>rfl
theorem yV(K:List Tr):cL (K.map er)=cL K:=by
 unfold cL;rw[bq]
 congr 2;funext t
 erw[sJ t]
theorem eqT{k k':List Nat}{x y:U}(h:oX (.tup [.str k,x]) (.tup [.str k',y])=true):k=k'/\oX x y=true:=by
 have h:((k==k')&&(oX x y&&true))=true:=h;rw[zF,aj] at h;exact#[eq_of_beq h.1,h.2]
theorem eqQ{x x' y y':U}(h:oX (.tup [x,x']) (.tup [y,y'])=true):oX x y=true/\oX x' y'=true:=by
 have h:(oX x y&&(oX x' y'&&true))=true:=h;rw[zF,aj] at h;erw[h]
theorem MQ{k:List Nat}{x y:U}(h:oX x y=true):oX (.tup [.str k,x]) (.tup [.str k,y])=true:=by
 show((k==k)&&(oX x y&&true))=true
 rw[h];simp
theorem UU{x x' y y':U}(h:oX x y=true)(h':oX x' y'=true):oX (.tup [x,x']) (.tup [y,y'])=true:=by
 show(oX x y&&(oX x' y'&&true))=true
 rw[h,h'];rfl
theorem pW(m:Mk):nj m≠MA/\nj m≠CP/\nj m≠RI:=by cases m<;>decide
theorem mk_inj{m m':Mk}(h:nj m=nj m'):m=m':=by
 revert h
 cases m<;>cases m'<;>first|exact λ_=>rfl|exact λh=>absurd h ⋯
theorem sM:∀a b,oX (enc a) (enc b)=true->er a=er b
 |.one _ l,.one _ l',h=>by
  have:l=l':=eq_of_beq (show(l==l')=true from (eqT h).2);rw[this];rfl
 |.one _ _,.row _ _,h=>absurd (eqT h).1 ⋯
 |.one _ _,.or _ _,h=>absurd (eqT h).1 ⋯
 |.one _ _,.rep m _,h=>absurd (eqT h).1.symm (pW m).1
 |.row _ _,.one _ _,h=>absurd (eqT h).1 ⋯
 |.row a1 a2,.row b1 b2,h=>by
  have h:=eqQ (eqT h).2;dsimp[er,sM a1 b1 h.1,sM a2 b2 h.2]
 |.row _ _,.or _ _,h=>absurd (eqT h).1 ⋯
 |.row _ _,.rep m _,h=>absurd (eqT h).1.symm (pW m).2.1
 |.or _ _,.one _ _,h=>absurd (eqT h).1 ⋯
 |.or _ _,.row _ _,h=>absurd (eqT h).1 ⋯
 |.or a1 a2,.or b1 b2,h=>by
  have h:=eqQ (eqT h).2;dsimp[er,sM a1 b1 h.1,sM a2 b2 h.2]
 |.or _ _,.rep m _,h=>absurd (eqT h).1.symm (pW m).2.2
 |.rep m _,.one _ _,h=>absurd (eqT h).1 (pW m).1
 |.rep m _,.row _ _,h=>absurd (eqT h).1 (pW m).2.1
 |.rep m _,.or _ _,h=>absurd (eqT h).1 (pW m).2.2
 |.rep m a,.rep m' b,h=>by
  have e:=mk_inj (eqT h).1;subst e;dsimp[er,sM a b (eqT h).2]
theorem mn:∀a,oX (enc a) (enc a)=true
 |.one _ l=>MQ (show(l==l)=true by simp)
 |.row a b=>MQ (UU (mn a) (mn b))
 |.or a b=>MQ (UU (mn a) (mn b))
 |.rep m a=>MQ (mn a)
theorem yW:∀K L:List Tr,v8 (K.map enc) (L.map enc)=true->K.map er=L.map er
 |[],[],_=>rfl
 |[],_::_,h=>by simp[v8] at h
 |_::_,[],h=>by simp[v8] at h
 |a::K,b::L,h=>by
  dsimp[ay,v8,aj] at h ⊢;rw[sM a b h.1,yW K L h.2]
theorem xH:∀K:List Tr,v8 (K.map enc) (K.map enc)=true
 |[]=>rfl
 |a::K=>by simp[v8,mn a,xH K]
theorem yX{K L:List Tr}:oX (cL K) (cL L)=true↔cL K=cL L:=by
 constructor
 .intro h
  rw[<-yV K,<-yV L,yW K L h]
 .intro h
  rw[<-h];erw[xH K]
theorem NK{K L:List Tr}(h:cL K=cL L):K.map er=L.map er:=yW K L (yX.mpr h)
theorem Jr(M:List Tr):eM (M.map er)=eM M:=by unfold eM;rw[Bn];congr 1;funext t;erw[lL t]
theorem QH{K L:List Tr}{c:Nat}(h:cL K=cL L):(dR K c).map cL=(dR L c).map cL:=by
 have key:∀M:List Tr,(dR (M.map er) c).map cL=(dR M c).map cL:=λM=>by
  rw[NJ,bq];congr 1;funext x;erw[yV x]
 rw[<-key K,<-key L,NK h]
theorem xI:∀t,wZ (enc t)=true
 |.one _ l=>rfl
 |.row a b=>by simp[enc,wZ,k9,xI a,xI b]
 |.or a b=>by simp[enc,wZ,k9,xI a,xI b]
 |.rep m a=>by simp[enc,wZ,k9,xI a]
theorem ZM{x y a b:Nat}(h1:x<=2*a+1)(h2:y<=2*b+1):max 0 (max (max x (max y 0)+1) 0)+1<=2*(max a b+1)+1:=∅
theorem pC:∀t,dep (enc t)<=2*bU t+1
 |.one _ l=>by simp[enc,dep,nM]
 |.row a b=>by
  dsimp[enc,dep,nM,bU];erw[ZM (pC a) (pC b)]
 |.or a b=>by
  dsimp[enc,dep,nM,bU];erw[ZM (pC a) (pC b)]
 |.rep m a=>by
  have:=pC a;dsimp[enc,dep,nM,bU];omega
theorem CZ:∀K:List Tr,k9 (K.map enc)=true
 |[]=>rfl
 |t::K=>by simp[k9,xI t,CZ K]
theorem A1{d:Nat}:∀K:List Tr,(∀t∈K,bU t<=d)->nM (K.map enc)<=2*d+1
 |[],_=>by simp[nM]
 |t::K,h=>by
  have h1:=pC t;have h2:=h t (aO ..);have h3:=A1 K λt m=>h t (aB _ m)
  dsimp[ay,nM];omega
noncomputable def jk(K:List Tr):Nat:=(K.map size).sum
theorem vG{K L:List Tr}:jk (K++L)=jk K+jk L:=by simp[jk]
theorem ZN{A B X Y:Nat}:A*X<=A*max X Y/\B*Y<=B*max X Y/\(A+B)*(max X Y+1)=A*max X Y+B*max X Y+A+B:=#[Ge _ (Nat.le_max_left ..),Ge _ (Kr ..),by rw[Nat.mul_add,Nat.add_mul];omega]
theorem mq:∀t p,(cont t p).length<=bU t/\(∀x∈cont t p,bU x<=bU t)/\jk (cont t p)<=size t*bU t
 |.one _ _,p=>by simp[cont,bU,jk]
 |.row a b,p=>by
  have ha:=mq a p;have hb:=mq b p;let#[m1,m2,m3]:=@ZN (size a) (size b) (bU a) (bU b);dsimp[cont,bU,size];split
  .refine#[by simp;omega,λx hx=>?_,?_]
   .rcases aI.mp hx with h|h
    .have:=ha.2.1 x h;omega
    .simp at h;subst h;omega
   .rw[vG,m3]
    have:jk [b]=size b:=by simp[jk]
    omega
  .exact#[∅,λx hx=>by have:=hb.2.1 x hx;omega,by rw[m3];omega]
 |.or a b,p=>by
  have ha:=mq a p;have hb:=mq b p;let#[m1,m2,m3]:=@ZN (size a) (size b) (bU a) (bU b);dsimp[cont,bU,size];split
  .exact#[∅,λx hx=>by have:=ha.2.1 x hx;omega,by rw[m3];omega]
  .exact#[∅,λx hx=>by have:=hb.2.1 x hx;omega,by rw[m3];omega]
 |.rep m a,p=>by
  have ha:=mq a p;have m3:size a*(bU a+1)=size a*bU a+size a:=by rw[Nat.mul_add];omega
  dsimp[cont,bU,size];refine#[?_,λx hx=>?_,?_]
  .cases m<;>simp[more]<;>omega
  .rcases aI.mp hx with h|h
   .have:=ha.2.1 x h;omega
   .cases m<;>simp[more] at h<;>subst h<;>simp[bU]
  .rw[vG,m3]
   have:jk (more m a)<=size a:=by cases m<;>simp[more,jk,size]
   omega
theorem C0{t:Tr}{p:Nat}(h:bU t<4)(hs:size t<=100):(ct t p).length<=4/\(∀x∈ct t p,bU x<4)/\jk (ct t p)<=400:=by
 unfold ct;split
 .exact#[by simp,by simpa using h,by simp[jk];omega]
 .have:=mq t p
  have m:size t*bU t<=100*4:=Nat.mul_le_mul hs ∅;exact#[∅,λx hx=>by have:=this.2.1 x hx;omega,∅]
theorem lW:∀t c,(dF t c).length<=size t/\∀x∈dF t c,x.length<=bU t
 |.one _ l,c=>by dsimp[dF];split<;>simp[size]
 |.row a b,c=>by
  have ha:=lW a c;have hb:=lW b c;dsimp[dF,size,bU];refine#[by rw[ax,ah];split<;>(try simp)<;>omega,λx hx=>?_];rcases aI.mp hx with h|h
  .let#[y,hy,rfl]:=bB.mp h
   have:=ha.2 y hy;simp;omega
  .split at h
   .have:=hb.2 x h;omega
   .simp at h
 |.or a b,c=>by
  have ha:=lW a c;have hb:=lW b c;dsimp[dF,size,bU];refine#[by simp;omega,λx hx=>?_];rcases aI.mp hx with h|h
  .have:=ha.2 x h;omega
  .have:=hb.2 x h;omega
 |.rep m a,c=>by
  have ha:=lW a c;dsimp[dF,size,bU];refine#[by simp;omega,λx hx=>?_];let#[y,hy,rfl]:=bB.mp hx;have:=ha.2 y hy;cases m<;>simp[more]<;>omega
theorem Js:∀(K:List Tr)c,(dR K c).length<=jk K
 |[],c=>by simp[dR]
 |t::K,c=>by
  have h1:=(lW t c).1;have h2:=Js K c;dsimp[dR,jk,ay,zD,ax,ah] at h2 ⊢;split<;>(try simp)<;>omega
theorem jm{g:bj->Prop}{c:U->bj->(Bool->bj->Prop)->Prop}{e:U->bj->KU->Prop}{Q:List U->bj->Prop}{S:bj}(l vs:List U)(hv:vs.length=l.length)(hl:l.length<1000000)(hg:∀S',Ext S S'->g S')(hc:∀u S' k,k true S'->c u S' k)
  (he:∀(i:Nat)u v,l[i]?=some u->vs[i]?=some v->∀S' k,Ext S S'->(∀S2,Ext S' S2->k v S2)->e u S' k) (q:∀S',Ext S S'->Q vs S'):nB g c e Q l [] S:=by
 rwa[gH l (λi acc S'=>Ext S S'/\acc=vs.take i) (λi acc S' hi h=>#[hg _ h.1,?_]) (λi u acc S' k hu hi hk=>?_) (λacc S' h=>?_) #[.refl,rfl]]
 .rw[h.2,dE];omega
 .let#[x,rfl]:=hi
  have il:i<vs.length:=by rw[hv];exact(ae.mp hu).1
  rwa[hc _ _ _ ?_];rw[if_pos rfl]
  rwa[he i u _ hu (aa il) S' _ x λS2 x2=>hk _ _ #[x.trans x2,?_]]
  rw[jz,aa il];rfl
 .let#[x,rfl]:=h
  rw[<-hv,bP];erw[q S' x]
def Wh(f:Tr->Bool)(fR:List Tr->Bool)(d:Nat):Spec:=λus S Q _=>∃u,us=[u]/\((∃t,u=enc t/\bU t<d/\∀S',Ext S S'->Q (.bl (f t)) S')\/∃K,u=MI K/\0<d/\(∀t∈K,bU t+1<d)/\K.length<=1000/\∀S',Ext S S'->Q (.bl (fR K)) S')
def yY:Nat->Spec:=Wh null eM
theorem yZ{K:List Tr}{f:Tr->U}{i:Nat}{u v:U}(hu:(K.map enc)[i]?=some u)(hv:(K.map f)[i]?=some v):∃t,t∈K/\u=enc t/\v=f t:=by
 rw[aC] at hu hv;let#[t,e,rfl]:=au.mp hu;rw[e] at hv;exact#[t,ao e,rfl,(aH hv).symm]
section
variable{Γ:bT}{N:String}{d:Nat}{f:Tr->Bool}{fR:List Tr->Bool}{S:bj}{Q:KU}{E:KX}{k:U}{K:List Tr}
theorem Ea(h1:Γ N=Wh f fR d)(hK:∀t∈K,bU t<d)(hl:K.length<=1000)(q:∀S',Ext S S'->Q (.bl (K.all f)) S'):
  WE Γ (.blt .all (.cons (.comp false (.call N (.cons @0 .nil)) (.val (.ix @0 ↑1)) (.de (.lit (.bl true))) []) .nil)) [some (.tup [k,.tup (K.map enc)])] S Q E:=by
 room;dsimp[mQ,bp];refine#[by simp,by simp;omega,?_];rwa[jm _ (K.map λt=>.bl (f t)) (by simp) (by simp;omega) (λ_ _=>trivial) (λu S' k h=>h) (λi u v hu hv S' k x hk=>?_) λS' x=>?_]
 .let#[t,m,rfl,rfl]:=yZ hu hv
  erw[ca h1 #[_,rfl,.inl #[t,rfl,hK t m,hk]]]
 .exact#[K.map f,by simp,by rw[show(K.map f).all id=K.all f by rw[Bn];rfl];erw[q _ (x.trans (Ext.app _))]]
theorem MR(h1:Γ N=Wh f fR d)(hK:∀t∈K,bU t<d)(hl:K.length<=1000)(q:∀S',Ext S S'->Q (.bl (K.any f)) S'):
  WE Γ (.blt .any (.cons (.comp false (.call N (.cons @0 .nil)) (.val (.ix @0 ↑1)) (.de (.lit (.bl true))) []) .nil)) [some (.tup [k,.tup (K.map enc)])] S Q E:=by
 room;dsimp[mQ,bp];refine#[by simp,by simp;omega,?_];rwa[jm _ (K.map λt=>.bl (f t)) (by simp) (by simp;omega) (λ_ _=>trivial) (λu S' k h=>h) (λi u v hu hv S' k x hk=>?_) λS' x=>?_]
 .let#[t,m,rfl,rfl]:=yZ hu hv
  erw[ca h1 #[_,rfl,.inl #[t,rfl,hK t m,hk]]]
 .exact#[K.map f,by simp,by rw[show(K.map f).any id=K.any f by rw[Bp];rfl];erw[q _ (x.trans (Ext.app _))]]
end
theorem ZO{a b t:Tr}{d:Nat}(h:max (bU a) (bU b)+1<d+1)(m:t∈[a,b]):bU t<d:=by
 rcases aR.mp m with rfl|m
 .omega
 .simp at m;subst m;omega
theorem rr{Γ:bT}{e:Ex}{D:Ends}{env:Env}{S:bj}(h:WE Γ e env S (λv S1=>D.rt v S1) (D.ex env)):Rest Γ #v[.ret e] D env S:=h
theorem UW(Γ:bT)(d:Nat)(h1:Γ "_law_nothing"=yY d):Keeps Γ jd 0 (yY (d+1)):=by
 rintro us S Q E ⟨u,rfl,h⟩;unfold jd;rcases h with⟨t,rfl,dt,q⟩|⟨K,rfl,-,dK,hl,q⟩
 .cases t with
  |one n l=>erw[rH rfl rfl (q S .refl)]
  |row a b=>exact jj rfl rfl (rH rfl rfl (rr (Ea (K:=[a,b]) h1 (λt m=>ZO dt m) (by simp) λS' x=>by have:=q S' x;simpa[null] using this)))
  |or a b=>exact jj rfl rfl (jj rfl rfl (rH rfl rfl (rr (MR (K:=[a,b]) h1 (λt m=>ZO dt m) (by simp) λS' x=>by have:=q S' x;simpa[null] using this))))
  |rep m a=>
   have dt:bU a+1<d+1:=dt;have k1:=pW m;refine jj rfl (beq_eq_false_iff_ne.mpr k1.1) (jj rfl (beq_eq_false_iff_ne.mpr k1.2.1) (jj rfl (beq_eq_false_iff_ne.mpr k1.2.2) ?_));unfold enc;room;dsimp[su,mQ,bp];refine#[by simp,by simp,?_];have e2:∀q:Bool->Prop,qT (.str (nj m)) [.str kW,.str ki] q=q (FI m):=λq=>by
    have:=anyS (a:=nj m) (l:=[kW,ki]) (q:=q);cases m<;>simpa[FI,nj] using this
   rw[e2]
   cases m<;>dsimp[FI,Hy,ak,if_false,if_true]
   .erw[q S .refl]
   .exact#[by simp,ca h1 #[_,rfl,.inl #[a,rfl,∅,q]]]
   .erw[q S .refl]
 .erw[jj rfl rfl (rH rfl rfl (rr (Ea h1 (λt m=>by have:=dK t m;omega) hl q)))]
theorem xJ{α:Type}{x:List α}{a:Nat}:qh x (some (a:Nat)) none=x.drop a:=by
 unfold qh;dsimp[d7,jO,gK,Nat.min_self];by_cases h:a<=x.length
 .rw[vW h,d6 (by simp)]
 .rw[uC ∅,JZ,jx ∅];simp
def C1(d:Nat):Spec:=λus S Q _=>∃u c,us=[u,.str [c]]/\((∃t,u=enc t/\bU t<d/\size t<=1000/\∀n S',Ext S S'->S.length<=n->S'[n]?=some (.lst ((dF t c).map cL))->Q (.loc n) S') \/
 ∃K,u=MI K/\0<d/\(∀t∈K,bU t+1<d)/\K.length<=1000/\jk K<=1000/\∀n S',Ext S S'->S.length<=n->S'[n]?=some (.lst ((dR K c).map cL))->Q (.loc n) S')
noncomputable def ZP:dm:=#v[.set 2 (.lst .nil),.gU (.name 4) (.range (.blt .len #v[.ix @0 ↑1])) #v[.set 2 (.bin .add @2 (.comp false (.bin .add @0 (.sl (.ix @1 ↑1) (.e (.bin .add @2 ↑1)) .no)) (.val (.call "_law_behind" #v[.ix (.ix @0 ↑1) @4,@1])) (.de (.lit (.bl true))) [0,4])),.ifs (.not (.de (.call "_law_nothing" #v[.ix (.ix @0 ↑1) @4]))) #v[.ret @2] .nil],.ret @2]
theorem Ju{K:List Tr}{t:Tr}(m:t∈K):size t<=jk K:=by
 let#[a,b,rfl]:=Gf m;rw[vG]
 simp[jk];omega
theorem Jv{Γ:bT}{d:Nat}(hd:d<=100)(h1:Γ "_law_behind"=C1 d)(h2:Γ "_law_nothing"=yY d){S:bj}{Q:KU}{D:Ends}(hD:D.rt=Q){K:List Tr}{c:Nat}(hK:∀t∈K,bU t<d)(hl:K.length<=1000)(hs:jk K<=1000)
  (q:∀n S',Ext S S'->S.length<=n->S'[n]?=some (.lst ((dR K c).map cL))->Q (.loc n) S'):Rest Γ ZP D [some (MI K),some (.str [c]),none,none,none,none] S:=by
 subst hD;unfold ZP MI;room;refine#[by simp,?_];have x0:Ext S (S++[SO.lst []]):=Ext.app _;have g0:(S++[SO.lst []])[S.length]?=some (.lst ((([]:List (List Tr))).map cL)):=by simp
 generalize S++[SO.lst []]=S0 at x0 g0;room;dsimp[mQ,bp];have el:∀S,mh S (cL K)=some K.length:=λS=>by simp[cL,mh]
 rw[el,bp]
 refine#[by simp,∅,∅,∅,?_];rwa[cQ (λi env S1=>∃(acc:List (List Tr))(m:Nat)(x4:Option U),env=[some (.tup [.str [114,111,119],cL K]),some (.str [c]),some (.loc m),none,x4,none]/\Ext S S1/\S.length<=m/\S1[m]?=some (.lst (acc.map cL))/\acc++dR (K.drop i) c=dR K c) (λ_ _ _ _=>trivial) _ ?_ ?_ #[[],S.length,none,rfl,x0,ar _,g0,rfl]]
 .rintro i u env S1 K' hu ⟨acc,m,x4,rfl,x1,ml,g1,inv⟩ hK'
  let#[rfl,hi]:=kX hu;have hi:i<K.length:=by simpa using hi
  have ht:K[i]?=some K[i]:=aa hi;have hd':K.drop i=K[i]::K.drop (i+1):=eT hi;have hm:K[i]∈K:=cu hi;generalize K[i]=t at ht hd' hm;have tl:=hK t hm;have ts:=Ju hm;have ai:∀{r:U->Prop},opt (sk (K.map enc) ((i:Nat):Int)) r=r (enc t):=λ{r}=>by rw[jb,aC,ht];rfl
  have bl:=Js K c;rw[<-inv,ax] at bl;rw[hd',dR] at inv;have fl:=lW t c;room;dsimp[mQ,bp];unfold cL;dsimp[DF,ai,ah];refine#[by simp,∅,ca h1 #[_,c,rfl,.inl #[t,rfl,tl,∅,λn S2 x2 nl g2=>?_]]];room;rw[g2,aD]
  rwa[jm (S:=S2) _ (((dF t c).map (·++K.drop (i+1))).map cL) (by simp) (by simp;omega) (λS' x=>x.get g2) (λu S' k h=>h) (λj u v hu hv S' k x hk=>?_) λS3 x3=>?_]
  .let#[y,e,rfl]:=fj hu
   rw[aC,aC,e] at hv;have hv:=aH hv;subst hv;have yl:=fl.2 y (ao e);refine#[by simp,?_];have e1:((i:Int)+1)=((i+1:Nat):Int):=∅
   dsimp[Nt,e1,xJ];refine#[#[λi e=>(by injection e with e;omega),λi e=>(by cases e)],#[by simp;omega,?_,by simp],?_]
   .intro z
    have:=congrArg cD z;simp at this;rw[this] at hi;simp at hi
   .unfold cL
    rw[O6]
    refine#[by simp;omega,?_];have:dh enc y++List.drop (i+1) (dh enc K)=dh enc (y++List.drop (i+1) K):=by simp[List.map_drop]
    rw[this]
    erw[hk S' .refl]
  .have x13:Ext S1 S3:=x2.trans x3
   generalize hW:((dF t c).map (·++K.drop (i+1)))=W at inv;have wl:W.length<=1000:=by rw[<-hW];simp;omega
   rw[ag (aZ (x13.get g1)),x13.get g1,aD]
   rw[aw (ar _),bH]
   dsimp[zV,aD];refine#[by simp;omega,?_];have x4:Ext S3 (S3++[SO.lst (W.map cL)]++[SO.lst (acc.map cL++W.map cL)]):=(Ext.app _).trans (Ext.app _);have g4:(S3++[SO.lst (W.map cL)]++[SO.lst (acc.map cL++W.map cL)])[(S3++[SO.lst (W.map cL)]).length]?=some (.lst ((acc++W).map cL)):=by
    rw[aw (ar _),bH,aJ];rfl
   have l4:S.length<=(S3++[SO.lst (W.map cL)]).length:=by have:=(x1.trans x13).1;rw[ax];omega
   generalize (S3++[SO.lst (W.map cL)]).length=m4 at g4 l4;generalize S3++[SO.lst (W.map cL)]++[SO.lst (acc.map cL++W.map cL)]=S4 at x4 g4;room;dsimp[mQ,bp,DF,ai,ah];refine#[by simp,∅,ca h2 #[_,rfl,.inl #[t,rfl,tl,λS5 x5=>?_]]];room;have xx:Ext S S5:=(x1.trans x13).trans (x4.trans x5);cases nt:null t with
   |false=>
    rw[nt] at inv;dsimp[bM,if_true];room;refine q m4 S5 xx l4 (by rw[<-inv];simp;have:=x5.get g4;simpa using this)
   |true=>
    rw[nt] at inv;dsimp[bz,ak,if_false];room;erw[hK' _ _ #[acc++W,m4,_,rfl,xx,l4,x5.get g4,by rw[<-inv];simp]]
 .rintro env S1 ⟨acc,m,x4,rfl,x1,ml,g1,inv⟩
  room;have:K.drop (dh (λk=>U.int ((k:Nat):Int)) (cf K.length)).length=[]:=jx (by simp);rw[this,dR,bX] at inv;erw[q m S1 x1 ml (by rw[<-inv];exact g1)]
theorem UX(Γ:bT)(d:Nat)(hd:d<=100)(h1:Γ "_law_behind"=C1 d)(h2:Γ "_law_nothing"=yY d):Keeps Γ j0 4 (C1 (d+1)):=by
 rintro us S Q E ⟨u,c,rfl,h⟩;unfold j0;rcases h with⟨t,rfl,dt,sz,q⟩|⟨K,rfl,-,dK,hl,hs,q⟩
 .cases t with
  |one n l=>
   rwa[rH rfl rfl ?_];unfold enc;room;dsimp[mQ,bp];refine#[by simp,?_];room;by_cases z:l.contains c=true
   .rw[if_pos z]
    refine#[by simp,by simp,q _ _ (Ext.app _) (ar _) ?_];have e:dF (.one n l) c=[[]]:=by dsimp[dF,if_pos z]
    rw[e];simp[cL]
   .rw[if_neg z]
    refine#[by simp,q _ _ (Ext.app _) (ar _) ?_];have e:dF (.one n l) c=[]:=by dsimp[dF,if_neg z]
    rw[e];simp
  |row a b=>
   have dt:max (bU a) (bU b)+1<d+1:=dt;have sz:size a+size b<=1000:=sz;rwa[jj rfl rfl (jj rfl rfl (rH rfl rfl ?_))];rwa[Jv (K:=[a,b]) hd h1 h2 rfl (λt m=>?_) (by simp) (by simp[jk];omega) λn S' x nl g=>q n S' x nl ?_]
   .rcases aR.mp m with rfl|m
    .omega
    .simp at m;subst m;omega
   .rw[g];simp[dR,dF]
  |or a b=>
   have dt:max (bU a) (bU b)+1<d+1:=dt;have sz:size a+size b<=1000:=sz;have la:=lW a c;have lb:=lW b c;rwa[jj rfl rfl (rH rfl rfl ?_)];unfold enc;room;refine#[by simp,?_];have g0:(S++[SO.lst []])[S.length]?=some (.lst []):=by simp
   have x0:Ext S (S++[SO.lst []]):=Ext.app _;generalize S.length=m0 at g0;generalize S++[SO.lst []]=S0 at g0 x0;room;dsimp[mQ,bp,v_t,u9];refine#[by simp,by simp,trivial,?_];room;rwa[ca h1 #[_,c,rfl,.inl #[a,rfl,∅,∅,λn S1 x1 nl g1=>?_]]];room;rw[x1.get g0,g1]
   dsimp[aD,iZ];refine#[by simp;omega,?_];have g2:(S1++[SO.lst ((dF a c).map cL)])[S1.length]?=some (.lst ((dF a c).map cL)):=by simp
   have x2:Ext S1 (S1++[SO.lst ((dF a c).map cL)]):=Ext.app _;generalize S1.length=m2 at g2;generalize S1++[SO.lst ((dF a c).map cL)]=S2 at g2 x2;room;rwa[ca h1 #[_,c,rfl,.inl #[b,rfl,∅,∅,λn3 S3 x3 nl3 g3=>?_]]];room;rw[x3.get g2,g3]
   dsimp[aD];refine#[by simp;omega,?_];room;have xx:=((x0.trans x1).trans x2).trans x3;erw[q _ _ (xx.trans (Ext.app _)) xx.1 (by simp[dF])]
  |rep m a=>
   have dt:bU a+1<d+1:=dt;have sz:size a<=1000:=sz;have k1:=pW m;have la:=lW a c;refine jj rfl (beq_eq_false_iff_ne.mpr k1.1) (jj rfl (beq_eq_false_iff_ne.mpr k1.2.2) (jj rfl (beq_eq_false_iff_ne.mpr k1.2.1) ?_));have go:Rest Γ (.cons (.ret (.comp false (.bin .add @0 @1) (.val (.call "_law_behind" (.cons (.ix @0 ↑1) (.cons @1 .nil)))) (.de (.lit (.bl true))) [5])) .nil) #[λ_ S1=>Q .bV S1,Q,λ_=>E] [some (enc (.rep m a)),some (.str [c]),none,none,none,some (cL (more m a))] S:=by
    unfold enc;room;dsimp[mQ,bp];refine#[by simp,ca h1 #[_,c,rfl,.inl #[a,rfl,∅,∅,λn S1 x1 nl g1=>?_]]];room;rw[g1,aD]
    rwa[jm (S:=S1) _ (((dF a c).map (·++more m a)).map cL) (by simp) (by simp;omega) (λS' x=>x.get g1) (λu S' k h=>h) (λj u v hu hv S' k x hk=>?_) λS3 x3=>?_]
    .let#[y,e,rfl]:=fj hu
     rw[aC,aC,e] at hv;have hv:=aH hv;subst hv;have yl:=la.2 y (ao e);unfold cL;room;have ml:(more m a).length<=1:=by cases m<;>simp[more]
     refine#[by simp;omega,?_];have:=hk S' .refl;unfold cL at this;simpa using this
    .have x13:=x1.trans x3
     erw[q _ _ (x13.trans (Ext.app _)) x13.1 (by simp[dF])]
   have ek:enc (.rep m a)= .tup [.str (nj m),enc a]:=rfl;rw[ek] at go ⊢;room;dsimp[su,mQ,bp];refine#[by simp,?_];room;cases m with
   |may=>
    rw[if_pos (by simp[nj])]
    exact#[by simp,go]
   |star=>
    rw[if_neg (by simp[nj])]
    exact#[by simp,by simp,by simp,go]
   |plus=>
    rw[if_neg (by simp[nj])]
    exact#[by simp,by simp,by simp,go]
 .erw[jj rfl rfl (jj rfl rfl (rH rfl rfl (Jv hd h1 h2 rfl (λt m=>by have:=dK t m;omega) hl hs q)))]
def UY:Spec:=λus S Q _=>∃n c X t H n0,us=[.loc n,.str [c]]/\S[n]?=some (.lst X)/\Qq t H X/\nQ n0 t/\0<n0/\bU t<4/\size t<=100/\X.length<=1000/\∀m Y S',Ext S S'->S'[m]?=some (.lst Y)->Qq t (Ur t c H) Y->Q (.loc m) S'
theorem za{α:Type}:∀{l l':List α},l.Nodup->(∀x∈l,x∈l')->l.length<=l'.length
 |[],_,_,_=>by simp
 |a::l,l',nd,h=>by
  let#[s,t,rfl]:=Gf (h a (aO ..));rw[eV] at nd;have:=za (l':=s++t) nd.2 λx m=>by
   have hx:=h x (aB _ m);dsimp[aI,aR] at hx ⊢;rcases hx with z|z|z
   .erw[.inl z]
   .subst z;erw[absurd m nd.1]
   .erw[.inr z]
  dsimp[ax,aW] at this ⊢;omega
theorem UZ(Γ:bT)(h1:Γ "_law_behind"=C1 5):Keeps Γ kD 3 UY:=by
 rintro us S Q E ⟨n,c,X,t,H,n0,rfl,g,rp,pl,n1,dt,sz,hX,q⟩;unfold kD;room;refine#[by simp,?_];have x0:Ext S (S++[SO.lst []]):=Ext.app _;have g0:(S++[SO.lst []])[S.length]?=some (.lst []):=by simp
 room;rw[x0.get g,aD]
 have nS:=aZ g
 let P:U->Prop:=λy=>∃p,Ur t c H p/\y=cL (ct t p)
 have fd:∀{Y:List U},(∀y∈Y,P y)->k9 Y=true/\nM Y<=100:=by
  intro Y;induction Y with
  |nil=>intro _;exact#[rfl,by simp[nM]]
  |cons y Y ih=>
   intro h;let#[p,_,rfl]:=h y (aO ..);let#[i1,i2]:=ih λz m=>h z (aB _ m)
   have e1:=CZ (ct t p);have e2:=A1 (d:=3) (ct t p) λx m=>by have:=(C0 (p:=p) dt sz).2.1 x m;omega
   constructor
   .show(k9 _&&k9 Y)=true
    rw[e1,i1];rfl
   .show max (nM _+1) (nM Y)<=100
    omega
 have fl:∀{Y:List U},Y.Nodup->(∀y∈Y,P y)->Y.length<=100:=λ{Y}nd h=>by
  have:=za (l':=(List.range' n0 (size t)).map λp=>cL (ct t p)) nd λy m=>by
   let#[p,#[q,_,f,_],rfl]:=h y m;erw[bB.mpr #[p,GH.mpr ((fh pl).mp (xD f)),rfl]]
  simp at this;omega
 rwa[cQ (λi env S1=>∃(Y:List U)(x3 x4:Option U),env=[some (.loc n),some (.str [c]),some (.loc S.length),x3,x4]/\Ext S S1/\S1[S.length]?=some (.lst Y)/\Y.Nodup/\(∀y∈Y,P y)/\∀(j:Nat)p,j<i->X[j]?=some (cL (ct t p))->∀y∈dR (ct t p) c,cL y∈Y) (λi env S1 h9=>by let#[_,_,_,_,x,_]:=h9;erw[x.get g]) _ ?_ ?_ #[[],none,none,rfl,x0,g0,by simp,by simp,∅]]
 .rintro i u env S1 K hu ⟨Y,x3,x4,rfl,x1,g1,nd,hP,inv⟩ hK
  let#[p,hp,rfl]:=(rp.1 u).mp (ao hu);let#[l1,l2,l3]:=C0 (p:=p) dt sz;room;refine#[by simp,ca h1 #[_,c,rfl,.inr #[ct t p,rfl,∅,λx m=>by have:=l2 x m;omega,∅,∅,λm S2 x2 ml g2=>?_]]];have ml:S.length<m:=by have:=aZ g1;omega
  room;rw[g2,aD]
  rwa[cQ (λj env S3=>∃(Z:List U)(x4:Option U),env=[some (.loc n),some (.str [c]),some (.loc S.length),some (cL (ct t p)),x4]/\Ext S S3/\S3[m]?=some (.lst ((dR (ct t p) c).map cL))/\S3[S.length]?=some (.lst Z)/\Z.Nodup/\(∀y∈Z,P y)/\(∀y∈Y,y∈Z)/\∀k y,k<j->(dR (ct t p) c)[k]?=some y->cL y∈Z) (λj env S3 h9=>by let#[_,_,_,_,g,_]:=h9;erw[g]) _ ?_ ?_ #[Y,x4,rfl,x1.trans x2,g2,x2.get g1,nd,hP,λ_ h=>h,∅]]
  .rintro j u env S3 K' hu ⟨Z,x4,rfl,x3,g3,gz,nd,hP,hY,inv'⟩ hK'
   let#[y,hy,rfl]:=fj hu;let#[p',f1,f2,rfl]:=(Je pl n1).mp (ao hy);have st:Ur t c H p':=#[p,hp,f1,f2]
   have zl:=fl nd hP;have fz:=fd hP;have eb:(Z.any λw=>oX w (cL (ct t p')))=true↔cL (ct t p')∈Z:=by
    rw[kb]
    constructor
    .rintro⟨w,m,e⟩
     let#[p2,_,rfl]:=hP w m;rw[yX.mp e] at m;erw[m]
    .intro m;exact#[_,m,yX.mpr rfl]
   have ev:cL (ct t p')= .tup ((ct t p').map enc):=rfl;rw[ev] at eb ⊢;room;rw[gz,aD]
   refine#[#[CZ _,fz.1,fz.2],?_];by_cases z:(Z.any λw=>oX w (.tup ((ct t p').map enc)))=true
   .rw[z]
    dsimp[bz,ak,if_false];room;rwa[hK' _ _ #[Z,_,rfl,x3,g3,gz,nd,hP,hY,λk y hk ey=>?_]];by_cases e:k=j
    .subst e;rw[hy] at ey;cases ey;erw[eb.mp z]
    .erw[inv' k y ∅ ey]
   .rw[fF _ |>.mp z]
    dsimp[bM,if_true];room;rw[gz,aD]
    refine#[trivial,∅,?_];room;have nz:¬U.tup ((ct t p').map enc)∈Z:=λm=>z (eb.mpr m)
    rwa[hK' _ _ #[Z++[.tup ((ct t p').map enc)],_,rfl,#[by rw[cq];erw[x3.1],λk hk=>?_],by rw[af ∅];erw[g3],gs gz,?_,λy m=>?_,λy m=>bI _ (hY y m),λk y hk ey=>?_]]
    .rw[af ∅];erw[x3.2 k hk]
    .rw[dM]
     exact#[nd,by simp,λa ma b mb e=>by simp at mb;subst mb;subst e;erw[nz ma]]
    .rcases aI.mp m with m|m
     .erw[hP y m]
     .simp at m;exact#[p',st,m]
    .by_cases e:k=j
     .subst e;rw[hy] at ey;cases ey;erw[a9 _ (by simp[cL])]
     .erw[bI _ (inv' k y ∅ ey)]
  .rintro env S3 ⟨Z,x4,rfl,x3,g3,gz,nd,hP,hY,inv'⟩
   room;rwa[hK _ _ #[Z,_,_,rfl,x3,gz,nd,hP,λj p2 hj ej y my=>?_]];by_cases e:j=i
   .subst e
    rw[hu] at ej;have e2:=QH (c:=c) (aH ej);have:cL y∈(dR (ct t p2) c).map cL:=bB.mpr #[y,my,rfl];rw[<-e2] at this;let#[y2,m2,e3]:=bB.mp this;let#[k,hk]:=bA m2;rw[<-e3]
    exact inv' k y2 (by have:=(ae.mp hk).1;simpa using this) hk
   .erw[hY _ (inv j p2 ∅ ej y my)]
 .rintro env S1 ⟨Y,x3,x4,rfl,x1,g1,nd,hP,inv⟩
  room;rwa[q _ Y S1 x1 g1 #[λy=>#[λm=>hP y m,?_],nd]];rintro⟨p,⟨q',hq,f1,f2⟩,rfl⟩;let#[j,hj]:=bA ((rp.1 _).mpr #[q',hq,rfl]);erw[inv j q' (ae.mp hj).1 hj _ ((Je pl n1).mpr #[p,f1,f2,rfl])]
def U0:Spec:=λus S Q _=>∃n X t H,us=[.loc n]/\S[n]?=some (.lst X)/\Qq t H X/\bU t<4/\size t<=100/\X.length<=1000/\∀b S',(b=true↔En t H)->Ext S S'->Q (.bl b) S'
theorem any_rows{Γ:bT}{N:String}{f:Tr->Bool}{fR:List Tr->Bool}(h1:Γ N=Wh f fR 5)(key:∀M:List Tr,fR (M.map er)=fR M){n:Nat}{X:List U}{t:Tr}{H:Nat->Prop}{S:bj}{Q:KU}{E:KX}(g:S[n]?=some (.lst X))(rp:Qq t H X)(dt:bU t<4)(sz:size t<=100)(hl:X.length<=1000)(q:∀b S',(b=true↔∃p,H p/\fR (ct t p)=true)->Ext S S'->Q (.bl b) S'):
  WE Γ (.blt .any (.cons (.comp false (.call N (.cons (.tup (.cons ↑[114,111,119] (.cons @0 .nil))) .nil)) (.val @0) (.de (.lit (.bl true))) []) .nil)) [some (.loc n)] S Q E:=by
 room;rw[g,aD]
 rwa[gH X (λi acc S1=>Ext S S1/\∃bs:List Bool,acc=bs.map .bl/\bs.length=i/\∀(j:Nat)p,j<i->X[j]?=some (cL (ct t p))->bs[j]?=some (fR (ct t p))) (λi acc S1 hi h9=>by let#[x,bs,e1,e2,_]:=h9;exact#[x.get g,by rw[e1,ah];omega]) (λi u acc S1 k hu hi hk=>?_) (λacc S1 h=>?_) #[.refl,[],rfl,rfl,∅]]
 .let#[x,bs,rfl,e2,inv]:=hi
  let#[p,hp,rfl]:=(rp.1 u).mp (ao hu);let#[l1,l2,l3]:=C0 (p:=p) dt sz;room;refine#[by simp,ca h1 #[_,rfl,.inr #[ct t p,rfl,∅,λy m=>by have:=l2 y m;omega,∅,λS2 x2=>?_]]];rwa[hk _ _ #[x.trans x2,bs++[fR (ct t p)],by simp,by simp[e2],λj p2 hj ej=>?_]];by_cases z:j=i
  .subst z
   rw[hu] at ej;rw[aw ∅,e2,bH,<-key,NK (aH ej),key];rfl
  .rw[ag ∅];erw[inv j p2 ∅ ej]
 .let#[x,bs,rfl,e2,inv]:=h
  refine#[bs,by simp,q _ _ ?_ (x.trans (Ext.app _))];rw[kb]
  constructor
  .rintro⟨b,m,hb⟩
   let#[j,hj]:=bA m;have jl:j<X.length:=by rw[<-e2];exact(ae.mp hj).1
   let#[p,hp,e]:=(rp.1 _).mp (cu jl);have:=inv j p jl (by rw[aa jl,e]);rw[hj] at this;have:=aH this;exact#[p,hp,by rw[<-this];erw[hb]]
  .rintro⟨p,hp,hn⟩
   let#[j,hj]:=bA ((rp.1 _).mpr #[p,hp,rfl]);have:=inv j p (ae.mp hj).1 hj;exact#[_,ao this,by rw[hn];rfl]
theorem U1(Γ:bT)(h1:Γ "_law_nothing"=yY 5):Keeps Γ oC 0 U0:=by
 rintro us S Q E ⟨n,X,t,H,rfl,g,rp,dt,sz,hl,q⟩;erw[rr (any_rows h1 Jr g rp dt sz hl q)]
theorem Eb{t:Tr}{w:List Nat}{X:List U}{n0:Nat}(pl:nQ n0 t)(h:Qq t (hs t w) X):X.length<=size t+1:=by
 have:=za (l':=(0::List.range' n0 (size t)).map λp=>cL (ct t p)) h.2 λy m=>by
  let#[p,hp,rfl]:=(h.1 y).mp m;rwa[bB.mpr #[p,?_,rfl]];rcases Us hp with z|z
  .subst z;simp
  .erw[aB _ (GH.mpr ((fh pl).mp z))]
 simpa using this
theorem QJ{ts:List Tr}(h:CY ts){t:Tr}(m:t∈ts):∃n,nQ n t/\0<n/\size t<=100/\bU t<4:=by
 let#[i,e]:=bA m;have:=size_take e;have:=h.sz;exact#[_,yU h.pl e,∅,∅,h.dp t m]
noncomputable def zI(m:List Nat)(c:Nat):List Nat:=if m.contains c=true then [92,c] else [c]
theorem C2(m:List Nat)(c:Nat):(zI m c).length<=2:=by unfold zI;split<;>simp
noncomputable def RL(R:List Nat):List Nat:=zI MW (R.headD 0)++[45]++zI MW (R.getLastD 0)
noncomputable def NL(R:List Nat):List (List Nat):=if (R.map (zI MW)).flatten.length<=(RL R).length then R.map (zI MW) else [RL R]
noncomputable def Yv(st:List (List Nat)×List Nat)(c:Nat):List (List Nat)×List Nat:=if iP (st.2++[c]) SG=true then(st.1,st.2++[c]) else(st.1++[st.2],[c])
noncomputable def RM(l:List Nat):List (List Nat):=(l.foldl Yv ([],[])).1++[(l.foldl Yv ([],[])).2]
noncomputable def FO(l:List Nat):List (List Nat):=(RM l).flatMap NL
noncomputable def QK:List (List Nat)->List Nat
 |[]=>[]
 |x::r=>if [94].isPrefixOf x=true then(if r.isEmpty=true then 92::x else r.flatten++x) else(x::r).flatten
noncomputable def RO(l:List Nat):List (List Nat):=(if l==[] then [] else [[91]++QK (FO l)++[93]])++if l==SG then [] else [[91,94]++(FO (dY l)).flatten++[93]]
noncomputable def Yw:List (List Nat)->List Nat
 |[]=>[]
 |t::ts=>ts.foldl (λb x=>if x.length<b.length then x else b) t
noncomputable def Kk(l:List Nat):List Nat:=if l.length=1 then zI MO (l.headD 0) else Yw (RO l)
noncomputable def FP(l:List Nat):Bool:=decide (l.length<=95)&&((RM l).all λR=>!(R==[])&&decide (R.length<=95))&&decide ((RM l).length<=100)&&decide ((FO l).length<=200)&&decide ((FO l).flatten.length<=400) && !(FO l==[])
def QL:Spec:=λus S Q _=>∃c m,us=[.str [c],.str m]/\Q (.str (zI m c)) S
theorem U2(Γ:bT):Keeps Γ lB 0 QL:=by
 rintro us S Q E ⟨c,m,rfl,q⟩;unfold lB;room;unfold zI at q;by_cases z:m.contains c=true
 .rw[if_pos z] at q ⊢
  exact#[by simp,q]
 .rw[if_neg z] at q ⊢
  erw[q]
theorem sN:∀ts:List (List Nat),lz [] ts=ts.flatten
 |[]=>rfl
 |[x]=>by simp[lz]
 |x::y::r=>by
  rw[lz,sN (y::r)]
  .simp
  .simp
theorem zb(ts:List (List Nat)):(ts.map cD).sum+ts.length*([]:List Nat).length=ts.flatten.length:=by rw[List.length_flatten];simp
def U3:Spec:=λus S Q _=>∃R,us=[.str R]/\R≠[]/\R.length<=95/\∀n S',Ext S S'->S'[n]?=some (.lst ((NL R).map .str))->Q (.loc n) S'
theorem Jw(m:List Nat):∀R:List Nat,(R.map (zI m)).flatten.length<=2*R.length
 |[]=>by simp
 |c::r=>by
  have:=Jw m r;have:=C2 m c;rw[ay,l9,ax,aW];omega
theorem U4(Γ:bT)(h1:Γ "sign_text"=QL):Keeps Γ lC 2 U3:=by
 rintro us S Q E ⟨R,rfl,ne,hl,q⟩;unfold lC;have f2:=Jw MW R;room;rwa[jm (S:=S) _ ((R.map (zI MW)).map .str) (by simp) (by simp;omega) (λ_ _=>trivial) (λu S' k h=>h) (λi u v hu hv S' k x hk=>?_) λS1 x1=>?_]
 .let#[c,e,rfl]:=fj hu
  rw[aC,aC,e] at hv;cases hv;erw[ca h1 #[c,MW,rfl,hk S' .refl]]
 have g2:(S1++[SO.lst ((R.map (zI MW)).map U.str)])[S1.length]?=some (.lst ((R.map (zI MW)).map U.str)):=by simp
 have x2:Ext S (S1++[SO.lst ((R.map (zI MW)).map U.str)]):=x1.trans (Ext.app _);generalize S1.length=m at g2;generalize S1++[SO.lst ((R.map (zI MW)).map U.str)]=S2 at g2 x2;have t1:=C2 MW (R.headD 0);have t2:=C2 MW (R.getLastD 0);have wl:(RL R).length<=5:=by unfold RL;rw[ax,ax];dsimp[aW,dS];omega
 have e0:sk R 0=some (R.headD 0):=by
  cases R with
  |nil=>erw[absurd rfl ne]
  |cons a r=>erw[su]
 have el:sk R (-1)=some (R.getLastD 0):=by
  have:0<R.length:=EG.mpr ne;unfold sk OZ;rw[if_neg ∅,if_pos ∅]
  dsimp[sW];rw[List.getLastD_eq_getLast?,List.getLast?_eq_getElem?]
  have e:((-1:Int)+(R.length:Int)).toNat=R.length-1:=∅
  rw[e,aa ∅]
  rfl
 room;rw[e0,el]
 dsimp[bp];refine#[∅,ca h1 #[_,MW,rfl,#[by rw[gh];omega,∅,ca h1 #[_,MW,rfl,#[by rw[ax,gh];omega,?_]]]]];have ew:zI MW (R.headD 0)++[45]++zI MW (R.getLastD 0)=RL R:=rfl;rw[ew]
 room;refine#[_,g2,by rw[zb];omega,?_];rw[sN]
 refine#[∅,∅,?_];unfold NL at q;by_cases z:(R.map (zI MW)).flatten.length<=(RL R).length
 .rw[if_pos z] at q
  rw[if_pos (by simpa using z)]
  erw[q _ _ x2 g2]
 .rw[if_neg z] at q
  rw[if_neg (by simpa using z)]
  exact#[by simp,q _ _ (x2.trans (Ext.app _)) (by simp)]
def U5:Spec:=λus S Q _=>∃l,us=[.str l]/\l.length<=95/\∀n S',Ext S S'->S.length<=n->S'[n]?=some (.lst ((RM l).map .str))->Q (.loc n) S'
theorem U6(Γ:bT):Keeps Γ yC 3 U5:=by
 rintro us S Q E ⟨l,rfl,hl,q⟩;unfold RM Yv at q;unfold yC;generalize hG:SG=G at q ⊢;room;refine#[by simp,?_];have x0:Ext S (S++[SO.lst []]):=Ext.app _;have g0:(S++[SO.lst []])[S.length]?=some (.lst []):=by simp
 room;have keep:∀{S1:bj}{o:SO},Ext S S1->Ext S (S1.set S.length o):=λx=>(x.st ∅)
 rwa[cQ (λi env S1=>∃(st:List (List Nat)×List Nat)(x3:Option U),env=[some (.str l),some (.loc S.length),some (.str st.2),x3]/\S1[S.length]?=some (.lst (st.1.map .str))/\Ext S S1/\st.1.length<=i/\st.2.length<=i/\i<=l.length/\st=(l.take i).foldl (λst c=>if iP (st.2++[c]) G=true then(st.1,st.2++[c]) else(st.1++[st.2],[c])) ([],[])) (λ_ _ _ _=>trivial) _ ?_ ?_ #[([],[]),none,rfl,g0,x0,by simp,by simp,∅,rfl]]
 .rintro i u env S1 K hu ⟨st,x3,rfl,g1,x1,l1,l2,hi,e⟩ hK
  let#[c,hc,rfl]:=fj hu;have il:=(ae.mp hc).1;have et:=Jf hc;room;refine#[by simp;omega,?_];show(if (!iP (st.2++[c]) G)=true then _ else _)
  by_cases z:iP (st.2++[c]) G=true
  .rw[z]
   dsimp[bz,ak,if_false];room;refine#[by simp;omega,?_];room;rwa[hK _ _ #[(st.1,st.2++[c]),_,rfl,g1,x1,by simp;omega,by simp;omega,il,?_]];rw[et,fq,<-e]
   dsimp[vO,wF,if_pos z]
  .rw[fF _ |>.mp z]
   dsimp[bM,if_true];room;rw[g1,aD]
   refine#[trivial,by simp;omega,?_];room;refine#[by simp,?_];room;rwa[hK _ _ #[(st.1++[st.2],[c]),_,rfl,by rw[gs g1];simp,keep x1,by simp;omega,by simp,il,?_]];rw[et,fq,<-e]
   dsimp[vO,wF,if_neg z]
 .rintro env S1 ⟨st,x3,rfl,g1,x1,l1,l2,hi,e⟩
  room;rw[g1,aD]
  rw[ah] at l1 e;rw[bP] at e;refine#[trivial,by simp;omega,?_];room;erw[q _ _ (keep x1) (ar _) (by rw[gs g1,<-e];simp)]
def U7:Spec:=λus S Q _=>∃l,us=[.str l]/\FP l=true/\∀n S',Ext S S'->S'[n]?=some (.lst ((FO l).map .str))->Q (.loc n) S'
theorem Ec{α β:Type}(f:α->List β):∀(l:List α)(i:Nat),((l.take i).flatMap f).length<=(l.flatMap f).length
 |[],i=>by simp
 |a::l,0=>by simp
 |a::l,i+1=>by
  have:=Ec f l i;rw[EB,GI,GI,ax,ax];omega
theorem U8(Γ:bT)(h1:Γ "runs"=U5)(h2:Γ "run_items"=U3):Keeps Γ jW 2 U7:=by
 rintro us S Q E ⟨l,rfl,ok,q⟩;unfold FP at ok;dsimp[aj,decide_eq_true_eq] at ok;let#[#[#[#[#[o1,o2],o3],o4],o5],o6]:=ok;rw[cz] at o2;unfold FO at q o4;unfold jW;room;refine#[by simp,?_];have x0:Ext S (S++[SO.lst []]):=Ext.app _;have g0:(S++[SO.lst []])[S.length]?=some (.lst []):=by simp
 have l0:(S++[SO.lst []]).length=S.length+1:=by simp
 generalize S++[SO.lst []]=S1 at x0 g0 l0;room;rwa[ca h1 #[l,rfl,o1,λn S2 x2 nl g2=>?_]];generalize RM l=Rs at o2 o3 o4 q g2;room;rw[g2,aD]
 refine cQ (λi env S3=>∃x,env=[some (.str l),some (.loc S.length),x]/\S3[S.length]?=some (.lst (((Rs.take i).flatMap NL).map .str))/\S3[n]?=some (.lst (Rs.map .str))/\Ext S S3) (λi env S3 h9=>by let#[_,_,_,h,_]:=h9;erw[h]) _ ?_ ?_ #[none,rfl,by simpa using x2.get g0,g2,x0.trans x2]
 .rintro i u env S3 K hu ⟨x,rfl,g3,g4,x3⟩ hK
  let#[R,hc,rfl]:=fj hu;have hR:=o2 R (ao hc);dsimp[aj,decide_eq_true_eq,gB,beq_eq_false_iff_ne] at hR;have tk:(Rs.take (i+1)).flatMap NL=(Rs.take i).flatMap NL++NL R:=by rw[jz,hc];simp
  have tl:=Ec NL Rs (i+1);rw[tk,ax] at tl;room;rw[g3,aD]
  refine#[trivial,ca h2 #[R,rfl,hR.1,hR.2,λm S4 x4 g5=>?_]];room;rw[x4.get g3,g5,aD,aD]
  refine#[by rw[ah,ah];omega,?_];room;rwa[hK _ _ #[_,rfl,by rw[gs (x4.get g3),tk];simp,?_,?_]]
  .rw[af ∅];erw[x4.get g4]
  .have:=x3.trans x4
   exact(this.st ∅)
 .rintro env S3 ⟨x,rfl,g3,g4,x3⟩
  rw[ah,bP] at g3;room;erw[q _ _ x3 g3]
theorem NM(x:List Nat)(r:List (List Nat)):QK (x::r)=if [94].isPrefixOf x=true then(if r.isEmpty=true then 92::x else r.flatten++x) else(x::r).flatten:=rfl
def U9:Spec:=λus S Q _=>∃n its,us=[.loc n]/\S[n]?=some (.lst (its.map .str))/\its≠[]/\its.length<=200/\its.flatten.length<=400/\∀S',Ext S S'->Q (.str (QK its)) S'
theorem Va(Γ:bT):Keeps Γ pe 0 U9:=by
 rintro us S Q E ⟨n,its,rfl,g,ne,hl,hf,q⟩;unfold pe;cases its with
 |nil=>erw[absurd rfl ne]
 |cons x r=>
  rw[l9,ax] at hf;dsimp[aW] at hl;have a0:∀{R:U->Prop},opt (sk ((x::r).map U.str) 0) R=R (.str x):=by intro R;rw[ay,su];rfl
  room;rw[g,aD]
  rw[a0]
  room;rw[NM] at q;by_cases z:[94].isPrefixOf x=true
  .rw[if_pos z] at q
   rw[z]
   dsimp[bz,ak,if_false];room;rw[nE g]
   dsimp[bp,ah,aW];refine#[∅,?_];cases r with
   |nil=>
    have q:∀S',Ext S S'->Q (.str (92::x)) S':=q;rw[if_pos (by simp)]
    room;rw[g,aD]
    rw[a0]
    room;exact#[by simp at hf ⊢;omega,q S .refl]
   |cons y r=>
    rw[if_neg (by simp)] at q;rw[if_neg (by simp;omega)]
    room;dsimp[Nt];rw[g,aD]
    have ec:qh ((x::y::r).map U.str) (some 1) none=(y::r).map U.str:=xJ (a:=1);rw[ec]
    refine#[#[λi e=>(by injection e with e;omega),λi e=>(by cases e)],y::r,by simp,by rw[zb];omega,?_];rw[sN]
    show getL (S++_)[n]? _
    rw[(Ext.app _:Ext S _).get g,aD,a0]
    room;exact#[∅,q _ (Ext.app _)]
  .rw[if_neg z] at q
   rw[fF _ |>.mp z]
   dsimp[bM,if_true];room;refine#[x::r,g,by rw[zb,l9,ax];omega,?_];rw[sN]
   erw[q S .refl]
theorem QM(its:List (List Nat)):(QK its).length<=its.flatten.length+1:=by
 cases its with
 |nil=>simp[QK]
 |cons x r=>
  rw[NM]
  split
  .split
   .rename_i z;have:r=[]:=by simpa using z
    subst this;simp
   .simp;omega
  .simp
noncomputable def QN(l:List Nat):Bool:=(l==[]||FP l)&&(l==SG||FP (dY l))
def Vb:Spec:=λus S Q _=>∃l,us=[.str l]/\QN l=true/\∀n S',Ext S S'->S'[n]?=some (.lst ((RO l).map .str))->Q (.loc n) S'
theorem A2{l:List Nat}(h:FP l=true):(FO l).length<=200/\(FO l).flatten.length<=400/\FO l≠[]:=by
 unfold FP at h;dsimp[aj,decide_eq_true_eq,gB,beq_eq_false_iff_ne] at h;exact#[h.1.1.2,h.1.2,h.2]
noncomputable def ZQ:dm:=#v[.ifs (.de (.cmp .ne @0 (.lit (.str SG)))) #v[.ex (.jB .append @1 #v[.bin .add (.bin .add ↑[91,94] (.jB .join (.lit (.str [])) #v[.call "class_items" #v[.call "all_but" #v[@0]]])) ↑[93]])] .nil,.ret @1]
theorem Vc(Γ:bT)(h1:Γ "class_items"=U7)(h2:Γ "guarded"=U9)(h3:Γ "all_but"=spT dY):Keeps Γ jV 1 Vb:=by
 rintro us S Q E ⟨l,rfl,ok,q⟩;unfold QN at ok;rw[aj,bu,bu] at ok;have keep:∀{S1:bj}{o:SO},Ext S S1->Ext S (S1.set S.length o):=λx=>(x.st ∅)
 have fin:∀S1 acc,Ext S S1->S1[S.length]?=some (.lst (acc.map .str))->acc.length<=10->acc=(if l==[] then [] else [[91]++QK (FO l)++[93]])->Rest Γ ZQ #[λ_ S1=>Q .bV S1,Q,λ_=>E] [some (.str l),some (.loc S.length)] S1:=by
  intro S1 acc x1 g1 al ea;unfold RO at q;rw[<-ea] at q;unfold ZQ;have ok2:=ok.2;generalize SG=G at q ok2;room;by_cases z:(l==G)=true
  .rw[z]
   rw[if_pos z,bX] at q;dsimp[bz,ak,if_false];room;erw[q _ _ x1 g1]
  .rw[fF _ |>.mp z]
   rw[if_neg z] at q;dsimp[bM,if_true];have ck:=ok2.resolve_left z;let#[f1,f2,f3]:=A2 ck;room;rw[g1,aD]
   refine#[trivial,ca h3 #[l,rfl,λS2 x2=>ca h1 #[_,rfl,ck,λn S3 x3 g3=>#[_,g3,by rw[zb];omega,?_]]]];rw[sN]
   refine#[by dsimp[aW,dS];omega,by rw[ax];dsimp[aW,dS];omega,?_];show getL S3[S.length]? _;rw[(x2.trans x3).get g1,aD]
   refine#[by rw[ah];omega,?_];room;erw[q _ _ (keep (x1.trans (x2.trans x3))) (by rw[gs ((x2.trans x3).get g1)];simp)]
 unfold jV;room;refine#[by simp,?_];have x0:Ext S (S++[SO.lst []]):=Ext.app _;have g0:(S++[SO.lst []])[S.length]?=some (.lst []):=by simp
 generalize S++[SO.lst []]=S0 at x0 g0;room;by_cases z:(l==[])=true
 .rw[z]
  dsimp[bz,ak,if_false];erw[Rest.go (fin S0 [] x0 g0 (by simp) (by rw[if_pos z]))]
 .rw[fF _ |>.mp z]
  dsimp[bM,if_true];have ck:=ok.1.resolve_left z;let#[f1,f2,f3]:=A2 ck;have gl:=QM (FO l);room;rw[g0,aD]
  refine#[trivial,ca h1 #[l,rfl,ck,λn S2 x2 g2=>ca h2 #[n,_,rfl,g2,f3,f1,f2,λS3 x3=>?_]]];room;refine#[by dsimp[aW,dS];omega,by dsimp[aW,dS];omega,?_];rw[(x2.trans x3).get g0,aD]
  refine#[by simp,?_];erw[Rest.go (fin _ [[91]++QK (FO l)++[93]] (keep (x0.trans (x2.trans x3))) (by rw[gs ((x2.trans x3).get g0)];simp) (by simp) (by rw[if_neg z]))]
noncomputable abbrev CL:List (List Nat):=[[97],[98],[99],[97,98],[98,99],SG,[48],[]]
theorem Jx:∀l∈CL,l.length=1\/(QN l=true/\(l==dY [10])=false/\RO l≠[]/\(RO l).all (λx=>decide (x.length<=1000))=true):=by
 decide +kernel
def MS:Spec:=λus S Q _=>∃l,us=[.str l]/\l∈CL/\∀S',Ext S S'->Q (.str (Kk l)) S'
theorem Vd(Γ:bT)(h1:Γ "sign_text"=QL)(h2:Γ "all_but"=spT dY)(h3:Γ "class_texts"=Vb):Keeps Γ kB 0 MS:=by
 rintro us S Q E ⟨l,rfl,hl,q⟩;have fa:=Jx l hl;have ll:l.length<=95:=by
  have:∀l∈CL,l.length<=95:=⋯
  erw[this l hl]
 unfold kB;unfold Kk at q;room;refine#[∅,?_];by_cases z:l.length=1
 .rw[if_pos z] at q
  rw[if_pos (by rw[z];rfl)]
  obtain⟨c,rfl⟩:∃c,l=[c]:=ju.mp z;room;erw[ca h1 #[c,MO,rfl,q S .refl]]
 .rw[if_neg z] at q
  rw[if_neg (by simp;omega)]
  let#[f1,f2,f3,f4]:=fa.resolve_left z;room;rwa[ca h2 #[_,rfl,λS1 x1=>?_]];room;rw[f2]
  dsimp[ak,if_false];room;rwa[ca h3 #[l,rfl,f1,λn S2 x2 g2=>?_]];cases e:RO l with
  |nil=>erw[absurd e f3]
  |cons t ts=>
   rw[e] at g2 q f4;refine#[t,ts,g2,λu hu=>?_,q S2 (x1.trans x2)];have:=cz.mp f4 u hu;simp at this;omega
theorem QP:∀l∈CL,(Kk l).length<=10:=by decide +kernel
theorem uj:Kk [97,98]=[91,97,98,93]/\Kk [98,99]=[91,98,99,93]/\Kk SG=[91,10,45,126,93]/\Kk []=[91,94,10,45,126,93]:=by decide +kernel
set_option maxRecDepth 100000 in
theorem MT{l:List Nat}(h:l∈CL)(br:Option (List Nat->PR U)):vz br (Kk l) (MB l):=by
 intro rest;dsimp[aR,cy,or_false] at h;rcases h with rfl|rfl|rfl|rfl|rfl|rfl|rfl|rfl
 .rfl
 .rfl
 .rfl
 .rw[uj.1];rfl
 .rw[uj.2.1];rfl
 .rw[uj.2.2.1];rfl
 .rfl
 .rw[uj.2.2.2];rfl
noncomputable def num:Nat->Tr->Tr
 |n,.one _ l=>.one n l
 |n,.row a b=>.row (num n a) (num (n+size a) b)
 |n,.or a b=>.or (num n a) (num (n+size a) b)
 |n,.rep m a=>.rep m (num n a)
theorem sO:∀t n,enc (num n t)=enc t/\size (num n t)=size t/\bU (num n t)=bU t/\null (num n t)=null t/\oI (num n t)=oI t/\nQ n (num n t)
 |.one _ l,n=>#[rfl,rfl,rfl,rfl,rfl,rfl]
 |.row a b,n=>by
  let#[a1,a2,a3,a4,a5,a6]:=sO a n;let#[b1,b2,b3,b4,b5,b6]:=sO b (n+size a);dsimp[num,enc,size,bU,null,oI,nQ,a1,a2,a3,a4,a5,b1,b2,b3,b4,b5];exact#[trivial,trivial,trivial,trivial,trivial,a6,b6]
 |.or a b,n=>by
  let#[a1,a2,a3,a4,a5,a6]:=sO a n;let#[b1,b2,b3,b4,b5,b6]:=sO b (n+size a);dsimp[num,enc,size,bU,null,oI,nQ,a1,a2,a3,a4,a5,b1,b2,b3,b4,b5];exact#[trivial,trivial,trivial,trivial,trivial,a6,b6]
 |.rep m a,n=>by
  let#[a1,a2,a3,a4,a5,a6]:=sO a n;cases m<;>dsimp[num,enc,size,bU,null,oI,nQ,a1,a2,a3,a4,a5]<;>exact#[trivial,trivial,trivial,trivial,trivial,a6]
noncomputable def we:Nat->List Tr->List Tr
 |_,[]=>[]
 |n,t::ts=>num n t::we (n+size t) ts
theorem Ed:∀ts n,(we n ts).map enc=ts.map enc/\MM n (we n ts)/\gJ (we n ts)=gJ ts/\∀t∈we n ts,∃t'∈ts,bU t=bU t'/\null t=null t'/\oI t=oI t'
 |[],n=>#[rfl,trivial,rfl,by simp[we]]
 |t::ts,n=>by
  let#[a1,a2,a3,a4,a5,a6]:=sO t n;let#[b1,b2,b3,b4]:=Ed ts (n+size t);refine#[by dsimp[we,ay,a1,b1],#[a6,by rw[a2];erw[b2]],by dsimp[gJ] at b3 ⊢;dsimp[we,ay,zD,a2,b3],λt' m=>?_];rcases aR.mp m with rfl|m
  .exact#[t,aO ..,a3,a4,a5]
  .let#[t2,m2,h]:=b4 t' m
   exact#[t2,aB _ m2,h]
def sP(t:Tr):Prop:=∀l∈oI t,l∈CL
theorem mr:∀t,size t<=2^bU t
 |.one _ _=>by simp[size,bU]
 |.row a b=>by
  have h1:=mr a;have h2:=mr b;have p1:2^bU a<=2^max (bU a) (bU b):=bw ∅ ∅;have p2:2^bU b<=2^max (bU a) (bU b):=bw ∅ ∅;dsimp[size,bU,fZ];omega
 |.or a b=>by
  have h1:=mr a;have h2:=mr b;have p1:2^bU a<=2^max (bU a) (bU b):=bw ∅ ∅;have p2:2^bU b<=2^max (bU a) (bU b):=bw ∅ ∅;dsimp[size,bU,fZ];omega
 |.rep m a=>by
  have h1:=mr a;dsimp[size,bU,fZ];omega
def MU(D:Nat):Spec:=λus S Q _=>∃(ns:List Int)(b:Int)(d:Nat),us=[.sj ns,.int b,ba d]/\ns.length<=1000/\d<D/\∀t S',bU t<=d->sP t->Ext S S'->Q (enc t) S'
theorem Jy(Γ:bT)(D:Nat)(h1:Γ "_law_mix"=tD.xw)(h2:Γ "_law_all"=tD.AU)(h3:Γ "_law_small"=MU D):Keeps Γ kE 3 (MU (D+1)):=by
 rintro us S Q E ⟨ns,b,d,rfl,hl,hd,q⟩;unfold kE;room;refine ca h1 #[ns,b,rfl,hl,λm m0 m1=>?_];room;refine#[∅,?_];room;have leaf:Rest Γ (.cons (.ret (.tup (.cons ↑[111,110,101] (.cons (.ix (.lst (.cons ↑[97] (.cons ↑[98] (.cons ↑[99] (.cons ↑[97,98] (.cons ↑[98,99] (.cons (.call "_law_all" .nil) (.cons ↑[97] (.cons ↑[98] (.cons ↑[48] (.cons (.lit (.str [])) .nil))))))))))) (.bin .mod (.bin .fdiv @3 ↑9) ↑10)) .nil)))) .nil) #[λ_ S1=>Q .bV S1,Q,λ_=>E] [some (.sj ns),some (.int b),some (ba d),some (.int m),some (.int (m%9)),none] S:=by
  room;rwa[ca h2 #[rfl,λG hG=>?_]];refine#[by simp,∅,∅,?_];have gl:(S++[SO.lst [U.str [97],U.str [98],U.str [99],U.str [97,98],U.str [98,99],U.str G,U.str [97],U.str [98],U.str [48],U.str []]])[S.length]?=some (.lst ([[97],[98],[99],[97,98],[98,99],G,[97],[98],[48],[]].map U.str)):=by simp
  rw[gl,aD]
  rwa[qp (i5 _ ∅) (by simp;erw[fY _ ∅]) λu hu=>?_]
  let#[l,ml,rfl]:=bB.mp hu;refine#[by simp,q (.one 0 l) _ (cw _) (λl' m'=>?_) (Ext.app _)];have:l'=l:=by simpa[oI] using m'
  subst this;rw[hG] at ml
  revert ml
  dsimp[aR];rintro(h|h|h|h|h|h|h|h|h|h|h)<;>simp_all
 by_cases z:d=0\/m%9<4
 .have z1:((d:Int)== 0)=true\/(((d:Int)== 0)=false/\decide (m%9<4)=true):=by
   by_cases y:d=0
   .subst y;erw[.inl rfl]
   .rwa[.inr #[by rw[beq_eq_false_iff_ne];omega,decide_eq_true ∅]]
  rcases z1 with z1|⟨z1,z2⟩
  .dsimp[z1,if_true];erw[leaf]
  .dsimp[z1,z2,ak,if_false,if_true];erw[leaf]
 .have z1:((d:Int)== 0)=false:=by rw[beq_eq_false_iff_ne];omega
  have z2:decide (m%9<4)=false:=decide_eq_false ∅;obtain⟨d,rfl⟩:∃d',d=d'+1:=#[d-1,∅]
  have ed:(((d+1:Nat):Int)-1)=(d:Int):=∅
  dsimp[z1,z2,ak,if_false];room;by_cases y:m%9<7
  .dsimp[y,decide_true,if_true]
   room;refine#[∅,∅,?_];refine gH _ (λi acc S1=>Ext S S1/\∃l:List Tr,acc=l.map enc/\l.length=i/\∀t∈l,bU t<=d/\sP t) (λi acc S1 hi h9=>by let#[x,l,e1,e2,_]:=h9;exact#[trivial,by rw[e1,ah];simp at hi;omega]) (λi u acc S1 k hu hi hk=>?_) (λacc S1 h=>?_) #[.refl,[],rfl,rfl,by simp]
   .let#[x1,l,rfl,e2,inv]:=hi
    let#[rfl,_]:=kX (n:=2) hu;room;rw[ed]
    refine#[.inl ∅,ca h3 #[ns,_,d,rfl,hl,∅,λt S2 dt lt x2=>hk _ _ #[x1.trans x2,l++[t],by simp,by simp[e2],λt' m'=>?_]]];rcases aI.mp m' with m'|m'
    .erw[inv t' m']
    .simp at m';subst m';exact#[dt,lt]
   .let#[x1,l,rfl,e2,inv]:=h
    have e2:l.length=2:=e2;obtain⟨a,b,rfl⟩:∃a b,l=[a,b]:=by
     match l,e2 with
     |[a,b],_=>exact#[a,b,rfl]
    have ia:=inv a (by simp);have ib:=inv b (by simp);have g2:(S1++[SO.lst ([a,b].map enc)])[S1.length]?=some (.lst [enc a,enc b]):=by simp
    have x2:Ext S (S1++[SO.lst ([a,b].map enc)]):=x1.trans (Ext.app _);generalize S1.length=m2 at g2;generalize S1++[SO.lst ([a,b].map enc)]=S2 at g2 x2;room;refine#[by simp,?_];have gl:(S2++[SO.lst [U.str [114,111,119],U.str [111,114],U.str [114,111,119]]])[S2.length]?=some (.lst [U.str [114,111,119],U.str [111,114],U.str [114,111,119]]):=by simp
    rw[gl,aD,(Ext.app _:Ext S2 _).get g2]
    rwa[qp ∅ (by simp;omega) λu hu=>#[by simp,?_]]
    have lv:∀l∈oI a++oI b,l∈CL:=λl hl=>(aI.mp hl).elim (ia.2 l) (ib.2 l)
    dsimp[aR,cy,or_false] at hu;have dd:max (bU a) (bU b)+1<=d+1:=∅
    rcases hu with rfl|rfl|rfl
    .erw[q (.row a b) _ dd lv (x2.trans (Ext.app _))]
    .erw[q (.or a b) _ dd lv (x2.trans (Ext.app _))]
    .erw[q (.row a b) _ dd lv (x2.trans (Ext.app _))]
  .dsimp[y,decide_false,ak,if_false]
   room;refine#[by simp,∅,∅,?_];have gl:(S++[SO.lst [U.str [115,116,97,114],U.str [112,108,117,115],U.str [109,97,121,98,101]]])[S.length]?=some (.lst [U.str [115,116,97,114],U.str [112,108,117,115],U.str [109,97,121,98,101]]):=by simp
   rw[gl,aD]
   rwa[qp (i5 _ ∅) (by simp;erw[fY _ ∅]) λu hu=>?_]
   rw[ed]
   refine#[.inl ∅,ca h3 #[ns,_,d,rfl,hl,∅,λt S2 dt lt x2=>#[by simp,?_]]];have xx:Ext S S2:=(Ext.app _).trans x2;have dd:bU t+1<=d+1:=∅
   dsimp[aR,cy,or_false] at hu;rcases hu with rfl|rfl|rfl
   .erw[q (.rep .star t) _ dd lt xx]
   .erw[q (.rep .plus t) _ dd lt xx]
   .erw[q (.rep .may t) _ dd lt xx]
def QQ:Spec:=λus S Q _=>∃(ns:List Int)(k:Int),us=[.sj ns,.int 0,.int k,.int 2]/\ns.length<=1000/\0<=k/\k<=4/\∀ts n S',CY ts->(∀t∈ts,sP t)->(gJ ts:Int)<=5*k->Ext S S'->S'[n]?=some (.lst (ts.map enc))->Q (.loc n) S'
theorem Ve(Γ:bT)(h1:Γ "_law_small"=MU 3)(h2:Γ "_law_nothing"=yY 5):Keeps Γ kF 3 QQ:=by
 rintro us S Q E ⟨ns,k,rfl,hl,k0,k4,q⟩;unfold kF;room;refine#[by simp,?_];have x0:Ext S (S++[SO.lst []]):=Ext.app _;have g0:(S++[SO.lst []])[S.length]?=some (.lst []):=by simp
 room;refine#[∅,∅,?_];rwa[cQ (λi env S1=>∃(l:List Tr)(x5 x6:Option U),env=[some (.sj ns),some (.int 0),some (.int k),some (.int 2),some (.loc S.length),x5,x6]/\Ext S S1/\S1[S.length]?=some (.lst (l.map enc))/\l.length=i/\gJ l<=5*i/\∀t∈l,bU t<4/\null t=false/\sP t) (λ_ _ _ _=>trivial) _ ?_ ?_ #[[],none,none,rfl,x0,g0,rfl,by simp[gJ],by simp]]
 .rintro i u env S1 K hu ⟨l,x5,x6,rfl,x1,g1,ll,sl,inv⟩ hK
  let#[rfl,hi]:=kX hu;room;refine#[.inl ∅,ca h1 #[ns,_,2,rfl,hl,∅,λt S2 dt lt x2=>?_]];have st:size t<=4:=aP (mr t) (bw (n:=2) ∅ dt);have g2:=x2.get g1;room;refine ca h2 #[_,rfl,.inl #[t,rfl,∅,λS3 x3=>?_]];have g3:=x3.get g2;have fin:∀(t':Tr)(x5 x6:Option U),bU t'<4->null t'=false->sP t'->size t'<=5->x6=some (enc t')->Rest Γ (.cons (.ex (.jB .append @4 (.cons @6 .nil))) .nil) #[K,Q,λ_=>E] [some (.sj ns),some (.int 0),some (.int k),some (.int 2),some (.loc S.length),x5,x6] S3:=by
   rintro t' x5 x6 d1 d2 d3 d4 rfl;room;rw[g3,aD]
   refine#[trivial,by simp;omega,?_];room;have x13:=(x1.trans x2).trans x3;refine hK _ _ #[l++[t'],_,_,rfl,(x13.st ∅),by rw[gs g3];simp,by simp[ll],by simp[gJ] at sl ⊢;omega,λt2 m2=>?_];rcases aI.mp m2 with m2|m2
   .erw[inv t2 m2]
   .simp at m2;subst m2;exact#[d1,d2,d3]
  room;cases nt:null t with
  |false=>
   dsimp[ak,if_false];erw[fin t _ _ ∅ nt lt ∅ rfl]
  |true=>
   dsimp[if_true];room;refine#[∅,by simp,?_];rwa[qp (i5 _ ∅) (by simp;erw[fY _ ∅]) λc hc=>#[by simp,by simp,by simp,?_]]
   rwa[fin (.row (.one 0 [c]) t) _ _ ?_ (by simp[null]) (λl hl=>?_) (by dsimp[size];omega) rfl]
   .show max 0 (bU t)+1<4;omega
   .rcases aI.mp hl with h|h
    .have:l=[c]:=by simpa[oI] using h
     subst this;dsimp[aR,cy,or_false] at hc;rcases hc with rfl|rfl|rfl<;>simp
    .erw[lt l h]
 .rintro env S1 ⟨l,x5,x6,rfl,x1,g1,ll,sl,inv⟩
  room;have ll:l.length<=4:=by rw[ll];simp;omega
  let#[e1,e2,e3,e4]:=Ed l 1;have el:(we 1 l).length=l.length:=by have:=congrArg cD e1;simpa using this
  refine q (we 1 l) _ S1 #[∅,e2,λt m=>?_,λt m=>?_,by rw[e3];dsimp[ah,sU] at sl;omega] (λt m=>?_) (by rw[e3];dsimp[ah,sU] at sl;omega) x1 (by rw[e1];erw[g1])
  .let#[t',m',h]:=e4 t m;rw[h.2.1];exact(inv t' m').2.1
  .let#[t',m',h]:=e4 t m;rw[h.1];exact(inv t' m').1
  .let#[t',m',h]:=e4 t m
   intro l hl;rw[h.2.2] at hl;exact(inv t' m').2.2 l hl
def QR:Spec:=λus S Q _=>∃(ns:List Int)(b k:Int),us=[.sj ns,.int b,.int k]/\ns.length<=1000/\0<=k/\k<=12/\∀x S',(∀c∈x,c∈SG)->x.length<=12->Ext S S'->Q (.str x) S'
theorem Vf(Γ:bT)(h1:Γ "_law_mix"=tD.xw):Keeps Γ lG 0 QR:=by
 rintro us S Q E ⟨ns,b,k,rfl,hl,k0,k10,q⟩;unfold lG;room;refine#[∅,∅,?_];refine gH _ (λi acc S1=>S1=S/\∃x:List Nat,acc=(x.map λc=>[c]).map U.str/\x.length=i/\∀c∈x,c∈SG) (λi acc S1 hi h9=>by let#[x,l,e1,e2,_]:=h9;exact#[trivial,by rw[e1];simp at hi ⊢;omega]) (λi u acc S1 k' hu hi hk=>?_) (λacc S1 h=>?_) #[rfl,[],rfl,rfl,by simp]
 .let#[rfl,x,rfl,e2,inv]:=hi
  let#[rfl,hi]:=kX hu;room;rwa[ca h1 #[ns,_,rfl,hl,λm m0 m1=>?_]];room;refine#[∅,by simp,?_];rwa[qp (i5 _ ∅) (by simp;erw[fY _ ∅]) λc hc=>hk _ _ #[rfl,x++[c],by simp,by simp[e2],λc' m'=>?_]]
  rcases aI.mp m' with m'|m'
  .erw[inv c' m']
  .simp at m';subst m'
   have:∀c∈[97,97,98,98,99,48,97,10,98,97,98],c∈SG:=⋯
   erw[this _ hc]
 .let#[rfl,x,rfl,e2,inv]:=h
  have xl:x.length<=12:=by rw[e2];simp;omega
  refine#[x.map λc=>[c],by simp,?_,?_]
  .have:∀l:List Nat,((l.map λc=>[c]).map cD).sum=l.length:=λl=>by induction l with
    |nil=>rfl
    |cons a l ih=>simp at ih ⊢;omega
   rw[this];simp;omega
  .have e:∀l:List Nat,(l.map λc=>[c]).flatten=l:=λl=>by induction l with
    |nil=>rfl
    |cons a l ih=>rw[ay,l9,ih];rfl
   rw[sN,e]
   erw[q x _ inv xl (Ext.app _)]
noncomputable def QS:Mk->Nat
 |.star=>42
 |.plus=>43
 |.may=>63
noncomputable def tx:Tr->List Nat×List Nat
 |.one _ l=>(Kk l,Kk l)
 |.rep m a=>((tx a).1++[QS m],(tx a).1++[QS m])
 |.row a b=>(40::((tx a).1++(tx b).1++[41]),(tx a).1++(tx b).1)
 |.or a b=>(40::((tx a).2++124::(tx b).2++[41]),40::((tx a).2++124::(tx b).2++[41]))
noncomputable def wr:Tr->List Nat
 |.or a b=>(tx a).2++124::(tx b).2
 |t=>(tx t).2
theorem dv:∀t,sP t->(tx t).1.length+3<=13*2^bU t/\(tx t).2.length<=(tx t).1.length/\(wr t).length<=(tx t).1.length
 |.one _ l,h=>by
  have:=QP l (h l (by simp[oI]));dsimp[tx,wr,bU];omega
 |.rep m a,h=>by
  have:=dv a h;dsimp[tx,wr,bU,fZ,ax,gh];omega
 |.row a b,h=>by
  have h1:=dv a λl m=>h l (bI _ m)
  have h2:=dv b λl m=>h l (a9 _ m)
  have p1:2^bU a<=2^max (bU a) (bU b):=bw ∅ ∅;have p2:2^bU b<=2^max (bU a) (bU b):=bw ∅ ∅;dsimp[tx,wr,bU,fZ,ax,aW,dS];omega
 |.or a b,h=>by
  have h1:=dv a λl m=>h l (bI _ m)
  have h2:=dv b λl m=>h l (a9 _ m)
  have p1:2^bU a<=2^max (bU a) (bU b):=bw ∅ ∅;have p2:2^bU b<=2^max (bU a) (bU b):=bw ∅ ∅;dsimp[tx,wr,bU,fZ,ax,aW,dS];omega
theorem kZ{t:Tr}(h:sP t)(d:bU t<4):(tx t).1.length<=200/\(tx t).2.length<=200/\(wr t).length<=200:=by
 have:=dv t h;have p:2^bU t<=2^3:=bw ∅ ∅;omega
section
variable{br:Option (List Nat->PR U)}{x:List Nat}{t:U}
theorem rK(h:vA br x t):vB br x t:=#[[t],by simp,by have:=rE.cons h .nil;rwa [bX] at this,rfl]
theorem zc(h:vB br x t):FE br x t:=#[x,[],t,[],by simp,h,.nil,rfl]
theorem vH(h:vz br x t):vA br x t:=#[x,t,[],by simp,h,by simp,rfl]
end
theorem pD:∀t k,sP t->bU t<=k->vA (tH k) (tx t).1 (enc t)/\vB (tH k) (tx t).2 (enc t)/\FE (tH k) (wr t) (enc t)
 |.one _ l,k,h,d=>by
  have a:=vH (MT (h l (by simp[oI])) (tH k));exact#[a,rK a,zc (rK a)]
 |.rep m a,k,h,d=>by
  have d:bU a+1<=k:=d;let#[x,ta,ms,e,ia,hm,et]:=(pD a k h ∅).1;have r:vA (tH k) ((tx a).1++[QS m]) (enc (.rep m a)):=by
   refine#[x,ta,ms++[QS m],by rw[e,bQ],ia,λc hc=>?_,?_]
   .rcases aI.mp hc with h|h
    .erw[hm c h]
    .simp at h;subst h;cases m<;>decide
   .unfold MG
    rw[fq]
    show enc (.rep m a)=IX (QS m) (MG ta ms)
    rw[<-et]
    cases m<;>rfl
  exact#[r,rK r,zc (rK r)]
 |.row a b,k,h,d=>by
  have d:max (bU a) (bU b)+1<=k:=d;have key:∀k,max (bU a) (bU b)<=k->vB (tH k) ((tx a).1++(tx b).1) (enc (.row a b)):=λk hk=>by
   have h1:=(pD a k (λl m=>h l (bI _ m)) ∅).1;have h2:=(pD b k (λl m=>h l (a9 _ m)) ∅).1;exact#[[enc a,enc b],by simp,by have:=rE.cons h1 (rE.cons h2 .nil);rwa [bX] at this,rfl]
  obtain⟨k,rfl⟩:∃k',k=k'+1:=#[k-1,∅]
  have r:=vH (D8 (zc (key k ∅)));exact#[r,key _ ∅,zc (key _ ∅)]
 |.or a b,k,h,d=>by
  have d:max (bU a) (bU b)+1<=k:=d;have key:∀k,max (bU a) (bU b)<=k->FE (tH k) ((tx a).2++124::(tx b).2) (enc (.or a b)):=λk hk=>by
   have h1:=(pD a k (λl m=>h l (bI _ m)) ∅).2.1;have h2:=(pD b k (λl m=>h l (a9 _ m)) ∅).2.1;exact#[(tx a).2,124::(tx b).2,enc a,[enc b],rfl,h1,by have:=vC.cons h2 .nil;rwa [bX] at this,rfl]
  obtain⟨k,rfl⟩:∃k',k=k'+1:=#[k-1,∅]
  have r:=vH (D8 (key k ∅));exact#[r,rK r,key _ ∅]
theorem MV{t:Tr}(h:sP t)(d:bU t<4):tI (wr t)= .ok (enc t,[]):=MH (pD t 6 h ∅).2.2
def Ee(D:Tr->Prop)(f:Tr->List Nat):Spec:=λus S Q _=>∃t,us=[enc t]/\D t/\sP t/\bU t<4/\∀S',Ext S S'->Q (.str (f t)) S'
def A3:Tr->Prop
 |.row _ _=>True
 |.or _ _=>True
 |_=>False
def Jz:Tr->Prop
 |.rep _ _=>False
 |_=>True
theorem QT(Γ:bT)(k:Nat)(D:Tr->Prop)(hD:∀t,bU t<=k->A3 t->D t)(h1:Γ "place_text"=MS)(h2:Γ "written"=Ee D wr):Keeps Γ lA 0 (Ee (λt=>bU t<=k/\Jz t) λt=>(tx t).1):=by
 rintro us S Q E ⟨t,rfl,⟨dt,nr⟩,lt,d4,q⟩;have q:∀S',Ext S S'->Q (.str (tx t).1) S':=q;unfold lA;have sm:=kZ lt d4;have go:A3 t->(tx t).1=40::(wr t++[41])->Rest Γ (.cons (.ret (.bin .add (.bin .add ↑[40] (.call "written" (.cons @0 .nil))) ↑[41])) .nil) #[λ_ S1=>Q .bV S1,Q,λ_=>E] [some (enc t)] S:=by
  intro ro e;room;rwa[ca h2 #[t,rfl,hD t dt ro,lt,d4,λS1 x1=>?_]];room;refine#[by simp;omega,by simp;omega,?_];rw[<-e]
  erw[q S1 x1]
 cases t with
 |one n l=>
  rwa[rH rfl rfl ?_];unfold enc;room;dsimp[mQ,bp];exact#[by simp,ca h1 #[l,rfl,lt l (by simp[oI]),q]]
 |row a b=>erw[jj rfl rfl (go trivial (by simp[tx,wr]))]
 |or a b=>erw[jj rfl rfl (go trivial (by simp[tx,wr]))]
 |rep m a=>erw[nr.elim]
noncomputable abbrev Wi:List (List Nat×List Nat):=[([115,116,97,114],[42]),([112,108,117,115],[43]),([109,97,121,98,101],[63])]
theorem QW(Γ:bT)(k:Nat)(hk:k<=10)(h1:Γ "atom_text"=Ee (λt=>bU t<=k/\Jz t) λt=>(tx t).1):Keeps Γ jU 2 (Ee (λt=>bU t<=k) λt=>(tx t).1):=by
 rintro us S Q E ⟨t,rfl,dt,lt,d4,q⟩;have q:∀S',Ext S S'->Q (.str (tx t).1) S':=q;unfold jU;have sm:=kZ lt d4;room;refine#[bU t+1,pA (λn env S1=>S1=S/\∃a ms,n=bU a/\bU a<=bU t/\sP a/\ms.length+bU a<=bU t/\(tx t).1=(tx a).1++ms/\env=[some (enc t),some (.str ms),some (enc a)]) ?_ _ (bU t) _ _ ∅ #[rfl,t,[],rfl,ar _,lt,by simp,by simp,rfl]];rintro n env S1 K ⟨rfl,a,ms,rfl,da,la,ml,e,rfl⟩ hK;have stop:∀kk x,enc a=.tup [.str kk,x]->(Wi.lookup kk).isSome=false->Jz a->WT Γ (.de (.cmp .isin (.ix @2 ↑0) (.lit (.tab Wi)))) [some (enc t),some (.str ms),some (enc a)] S1
   (λt1 S2=>if t1=true then Rest Γ (.cons (.set 1 (.bin .add (.ix (.lit (.tab Wi)) (.ix @2 ↑0)) @1)) (.cons (.set 2 (.ix @2 ↑1)) .nil)) #[K,Q,λ_=>E] [some (enc t),some (.str ms),some (enc a)] S2 else Rest Γ (.cons (.ret (.bin .add (.call "atom_text" (.cons @2 .nil)) @1)) .nil) #[λ_ S1=>Q .bV S1,Q,λ_=>E] [some (enc t),some (.str ms),some (enc a)] S2) E:=by
  intro kk x ek el nr;have fin:Rest Γ (.cons (.ret (.bin .add (.call "atom_text" (.cons @2 .nil)) @1)) .nil) #[λ_ S1=>Q .bV S1,Q,λ_=>E] [some (enc t),some (.str ms),some (enc a)] S1:=by
   room;rwa[ca h1 #[a,rfl,#[∅,nr],la,∅,λS2 x2=>?_]];room;rw[<-e]
   refine#[?_,q S2 x2];rw[e,ax] at sm;omega
  rw[ek] at fin ⊢;room;rw[su,bp,Ay,el]
  exact#[by simp,fin]
 cases a with
 |one n l=>erw[stop _ _ rfl rfl trivial]
 |row a b=>erw[stop _ _ rfl rfl trivial]
 |or a b=>erw[stop _ _ rfl rfl trivial]
 |rep m a=>
  have dr:bU (.rep m a)=bU a+1:=rfl;have ek:enc (.rep m a)= .tup [.str (nj m),enc a]:=rfl;rw[ek]
  have el:Wi.lookup (nj m)=some [QS m]:=by cases m<;>rfl
  room;rw[su,bp,Ay,el]
  refine#[by simp,?_];dsimp[qv,if_true];room;dsimp[su,bp,yt,el];room;refine#[by simp,by simp;omega,?_];room;dsimp[mQ,bp];refine#[by simp,?_];try room
  erw[hK (bU a) _ _ ∅ #[rfl,a,QS m::ms,rfl,∅,la,by simp;omega,by rw[e];simp[tx],rfl]]
def MX:Tr->Prop
 |.row _ _=>True
 |_=>False
theorem two_get{a b:Tr}{f:Tr->List Nat}{i:Nat}{u v:U}(hu:[enc a,enc b][i]?=some u)(hv:[U.str (f a),U.str (f b)][i]?=some v):∃t,(t=a\/t=b)/\u=enc t/\v=.str (f t):=by
 let#[t,m,h1,h2]:=yZ (K:=[a,b]) (f:=λt=>.str (f t)) hu hv;exact#[t,by simpa using m,h1,h2]
theorem QY(Γ:bT)(k:Nat)(h1:Γ "repeat_text"=Ee (λt=>bU t<=k) λt=>(tx t).1):Keeps Γ mT 0 (Ee (λt=>bU t<=k\/(MX t/\bU t<=k+1)) λt=>(tx t).2):=by
 rintro us S Q E ⟨t,rfl,dt,lt,d4,q⟩;have q:∀S',Ext S S'->Q (.str (tx t).2) S':=q;unfold mT;have go:¬MX t->(tx t).2=(tx t).1->Rest Γ (.cons (.ret (.call "repeat_text" (.cons @0 .nil))) .nil) #[λ_ S1=>Q .bV S1,Q,λ_=>E] [some (enc t)] S:=by
  intro nr e;room;rw[e] at q;erw[ca h1 #[t,rfl,dt.resolve_right λz=>nr z.1,lt,d4,q]]
 cases t with
 |one n l=>erw[jj rfl rfl (go (λz=>z) rfl)]
 |rep m a=>erw[jj rfl (beq_eq_false_iff_ne.mpr (pW m).2.1) (go (λz=>z) rfl)]
 |or a b=>erw[jj rfl rfl (go (λz=>z) rfl)]
 |row a b=>
  have dt:max (bU a) (bU b)+1<=k+1:=by rcases dt with z|z;erw[mz z];erw[z.2]
  have d4:max (bU a) (bU b)+1<4:=d4;have lo:∀t,t=a\/t=b->sP t/\bU t<=k/\bU t<4:=by
   rintro t (rfl|rfl)
   .exact#[λl m=>lt l (bI _ m),∅,∅]
   .exact#[λl m=>lt l (a9 _ m),∅,∅]
  have sa:=(kZ (lo a (.inl rfl)).1 (lo a (.inl rfl)).2.2).1;have sb:=(kZ (lo b (.inr rfl)).1 (lo b (.inr rfl)).2.2).1;rwa[rH rfl rfl ?_];unfold enc;room;dsimp[mQ,bp];refine#[by simp,by simp,?_];rwa[jm (S:=S) _ [.str (tx a).1,.str (tx b).1] (by simp) (by simp) (λ_ _=>trivial) (λu S' k h=>h) (λi u v hu hv S' k x hk=>?_) λS1 x1=>?_]
  .let#[t,m,rfl,rfl]:=two_get (f:=λt=>(tx t).1) hu hv
   let#[l1,l2,l3]:=lo t m;erw[ca h1 #[t,rfl,l2,l1,l3,hk]]
  .refine#[[(tx a).1,(tx b).1],by simp,by simp;omega,?_]
   have e:lz [] [(tx a).1,(tx b).1]=(tx (.row a b)).2:=by simp[lz,tx]
   rw[e]
   erw[q _ (x1.trans (Ext.app _))]
theorem QZ(Γ:bT)(k:Nat)(h1:Γ "row_text"=Ee (λt=>bU t<=k\/(MX t/\bU t<=k+1)) λt=>(tx t).2):Keeps Γ pd 0 (Ee (λt=>bU t<=k\/(A3 t/\bU t<=k+1)) wr):=by
 rintro us S Q E ⟨t,rfl,dt,lt,d4,q⟩;unfold pd;have go:(A3 t->MX t)->wr t=(tx t).2->Rest Γ (.cons (.ret (.call "row_text" (.cons @0 .nil))) .nil) #[λ_ S1=>Q .bV S1,Q,λ_=>E] [some (enc t)] S:=by
  intro nr e;room;rw[e] at q;erw[ca h1 #[t,rfl,dt.imp_right λz=>#[nr z.1,z.2],lt,d4,q]]
 cases t with
 |one n l=>erw[jj rfl rfl (go (λz=>z) rfl)]
 |rep m a=>erw[jj rfl (beq_eq_false_iff_ne.mpr (pW m).2.2) (go (λz=>z) rfl)]
 |row a b=>erw[jj rfl rfl (go (λz=>z) rfl)]
 |or a b=>
  have dt:max (bU a) (bU b)+1<=k+1:=by rcases dt with z|z;erw[mz z];erw[z.2]
  have d4:max (bU a) (bU b)+1<4:=d4;have lo:∀t,t=a\/t=b->sP t/\bU t<=k/\bU t<4:=by
   rintro t (rfl|rfl)
   .exact#[λl m=>lt l (bI _ m),∅,∅]
   .exact#[λl m=>lt l (a9 _ m),∅,∅]
  have sa:=(kZ (lo a (.inl rfl)).1 (lo a (.inl rfl)).2.2).2.1;have sb:=(kZ (lo b (.inr rfl)).1 (lo b (.inr rfl)).2.2).2.1;rwa[rH rfl rfl ?_];unfold enc;room;dsimp[mQ,bp];refine#[by simp,by simp,?_];rwa[jm (S:=S) _ [.str (tx a).2,.str (tx b).2] (by simp) (by simp) (λ_ _=>trivial) (λu S' k h=>h) (λi u v hu hv S' k x hk=>?_) λS1 x1=>?_]
  .let#[t,m,rfl,rfl]:=two_get (f:=λt=>(tx t).2) hu hv
   let#[l1,l2,l3]:=lo t m;erw[ca h1 #[t,rfl,.inl l2,l1,l3,hk]]
  .refine#[[(tx a).2,(tx b).2],by simp,by simp;omega,?_]
   have e:lz [124] [(tx a).2,(tx b).2]=wr (.or a b):=by simp[lz,wr]
   rw[e]
   erw[q _ (x1.trans (Ext.app _))]
end PL.mj
namespace PL.ue
section
variable{κ:Type}[BEq κ][LawfulBEq κ]
noncomputable def lh(seen:List κ):List κ->List Nat
 |[]=>[]
 |k::r=>if k∈seen then seen.idxOf k::lh seen r else seen.length::lh (seen++[k]) r
noncomputable def sn(seen:List κ):List κ->List κ
 |[]=>seen
 |k::r=>sn (if k∈seen then seen else seen++[k]) r
theorem lM:∀(ks:List κ)(seen:List κ),(lh seen ks).length=ks.length
 |[],_=>rfl
 |k::r,seen=>by unfold lh;split<;>simp[lM r]
theorem vI:∀(ks:List κ)(seen:List κ),(sn seen ks).length<=seen.length+ks.length
 |[],_=>by simp[sn]
 |k::r,seen=>by
  unfold sn;split
  .have:=vI r seen;simp;omega
  .have:=vI r (seen++[k]);simp at this ⊢;omega
theorem JA{κ':Type}[BEq κ'][LawfulBEq κ'](f:κ->κ')(hf:∀a b,f a=f b->a=b)(k:κ):∀l:List (κ×U),(l.map λp=>(f p.1,p.2)).lookup (f k)=l.lookup k
 |[]=>rfl
 | (a,v)::r=>by
  rw[ay,aN,aN,JA f hf k r]
  by_cases h:k=a
  .subst h;simp
  .rw[show(k==a)=false by simp[h],show(f k==f a)=false from beq_eq_false_iff_ne.mpr λe=>h (hf _ _ e)]
theorem zd:∀(ks:List κ)(seen:List κ),∃m,sn seen ks=seen++m
 |[],seen=>#[[],by simp[sn]]
 |k::r,seen=>by
  unfold sn;split
  .erw[zd r seen]
  .let#[m,e]:=zd r (seen++[k])
   exact#[k::m,by rw[e];simp]
theorem JB:∀(ks:List κ)(seen:List κ),seen.Nodup->(sn seen ks).Nodup
 |[],_,h=>h
 |k::r,seen,h=>by
  unfold sn;split
  .erw[JB r seen h]
  .rename_i hk
   rwa[JB r _ ?_];rw[dM]
   exact#[h,by simp,λx hx y hy=>by rw[bS.mp hy];erw[λe=>hk (e▸hx)]]
theorem pE{k:κ}{a b:List κ}(h:k∈a):(a++b).idxOf k=a.idxOf k:=by
 rw[jA,if_pos h]
theorem sQ:∀(ks:List κ)(seen:List κ),lh seen ks=ks.map λk=>(sn seen ks).idxOf k
 |[],_=>rfl
 |k::r,seen=>by
  unfold lh sn;split
  .rename_i hk
   let#[m,e]:=zd r seen;rw[ay,sQ r seen,e,pE hk]
  .rename_i hk
   let#[m,e]:=zd r (seen++[k]);rw[ay,sQ r (seen++[k]),e]
   congr 1
   rw[pE (by simp),jA,if_neg hk]
   simp
theorem vJ:∀(ks:List κ)(seen:List κ)(k:κ),k∈sn seen ks↔k∈seen\/k∈ks
 |[],_,_=>by simp[sn]
 |x::r,seen,k=>by
  unfold sn;rw[vJ r]
  split
  .rename_i hk
   constructor
   .rintro(h|h)
    .erw[.inl h]
    .erw[.inr (aB _ h)]
   .rintro(h|h)
    .erw[.inl h]
    .rcases aR.mp h with rfl|h
     .erw[.inl hk]
     .erw[.inr h]
  .simp[or_assoc]
noncomputable def dz(seen:List κ)(n:Nat):List (κ×U):=(seen.zipIdx n).map λp=>(p.1,ba p.2)
theorem JC(a:List κ)(k:κ)(n:Nat):dz (a++[k]) n=dz a n++[(k,ba (n+a.length))]:=by
 unfold dz;rw[List.zipIdx_append,aJ];simp
theorem ze(a:List κ)(n:Nat):(dz a n).length=a.length:=by simp[dz]
theorem zf:∀(a:List κ)(k:κ)(n:Nat),(dz a n).lookup k=if k∈a then some (ba (n+a.idxOf k)) else none
 |[],k,n=>rfl
 |x::a,k,n=>by
  have e:dz (x::a) n=(x,ba n)::dz a (n+1):=rfl;rw[e,aN]
  by_cases h:k=x
  .subst h;simp
  .have h1:(k==x)=false:=by simp[h]
   rw[h1,zf a k (n+1)]
   by_cases hk:k∈a
   .rw[if_pos hk,if_pos (aB _ hk),List.idxOf_cons,show(x==k)=false by simp[cA h]]
    dsimp[cond_false]
    congr 2
    omega
   .rw[if_neg hk,if_neg (by simp[h,hk])]
end
theorem Q0(o:Option Nat):mP (uN o)=true:=by cases o<;>rfl
theorem Vg(a b:Option Nat):RC (uN a) (uN b)=(a==b):=by
 cases a<;>cases b<;>first|rfl|skip
 rename_i x y;show((x:Int)== (y:Int))=(some x==some y);by_cases h:x=y
 .subst h;simp
 .rw[show((x:Int)== (y:Int))=false from beq_eq_false_iff_ne.mpr λe=>h (oS e),show(some x==some y)=false from beq_eq_false_iff_ne.mpr λe=>h (aH e)]
theorem JD(k:Option Nat):∀(l:List (Option Nat×U)),u5 (uN k) (l.map λp=>(uN p.1,p.2))=l.lookup k
 |[]=>rfl
 | (a,v)::r=>by
  rw[ay,aN]
  unfold u5;rw[Vg,JD k r]
  by_cases h:a=k
  .subst h;simp
  .have h1:(a==k)=false:=by simp[h]
   have h2:(k==a)=false:=by simp[cA h]
   rw[h1,h2];rfl
section
variable{κ β:Type}[BEq κ][LawfulBEq κ][BEq β][LawfulBEq β]{ks:List κ}
theorem MY{l:List κ}{a b:κ}(ha:a∈l)(h:l.idxOf a=l.idxOf b):a=b:=by
 have la:=cC ha;have e:=i4 la;have lb:l.idxOf b<l.length:=∅
 rw[<-e,<-i4 lb]
 congr 1
theorem uk{i j:Nat}{a b:κ}(hi:ks[i]?=some a)(hj:ks[j]?=some b):(lh [] ks)[i]?=(lh [] ks)[j]?↔a=b:=by
 rw[sQ,aC,aC,hi,hj]
 constructor
 .intro h
  erw[MY ((vJ ks [] a).mpr (.inr (ao hi))) (aH h)]
 .intro h;rw[h]
theorem um:∀(ks:List κ)(seen:List κ)(i v:Nat),(lh seen ks)[i]?=some (v+1)->v<seen.length\/∃p,p<i/\(lh seen ks)[p]?=some v
 |[],_,i,v,h=>by simp[lh] at h
 |k::r,seen,0,v,h=>by
  unfold lh at h;split at h
  .rename_i hk
   have:=cC hk;have:seen.idxOf k=v+1:=by simpa using h
   omega
  .have:seen.length=v+1:=by simpa using h
   omega
 |k::r,seen,i+1,v,h=>by
  unfold lh at h ⊢;split at h
  .rename_i hk
   rw[if_pos hk]
   rcases um r seen i v (by simpa using h) with z|⟨p,hp,e⟩
   .erw[.inl z]
   .exact .inr #[p+1,∅,by simpa using e]
  .rename_i hk
   rw[if_neg hk]
   rcases um r (seen++[k]) i v (by simpa using h) with z|⟨p,hp,e⟩
   .rw[ax] at z
    by_cases y:v<seen.length
    .erw[.inl y]
    .have:seen.length=v:=by simp at z;omega
     erw[.inr #[0,∅,by simp[this]]]
   .exact .inr #[p+1,∅,by simpa using e]
theorem MZ{m:Nat}(hm:m∈lh [] ks)(h:∀j∈lh [] ks,j<=m):m+1=(sn [] ks).length:=by
 rw[sQ] at hm h;let#[k,hk,rfl]:=bB.mp hm;have l1:=cC ((vJ ks [] k).mpr (.inr hk));have ll:(sn [] ks).length-1<(sn [] ks).length:=∅
 have e:=(JB ks [] (by simp)).idxOf_getElem _ ll;have m2:=(vJ ks [] _).mp (cu ll);have:=h _ (bB.mpr #[_,m2.resolve_left (by simp),rfl]);rw[e] at this;omega
def Vh(ps:List (κ×β)):Prop:=∀x∈ps,∀y∈ps,x.1=y.1->x.2=y.2
theorem A4:∀(ps:List (κ×β))(A:List κ)(B:List β),Vh ps->(∀x∈ps,x.1∈A->x.2∈B)->(sn B (ps.map (·.2))).length+A.length<=(sn A (ps.map (·.1))).length+B.length
 |[],A,B,_,_=>by simp[sn];omega
 |x::ps,A,B,hc,hA=>by
  have c':Vh ps:=λy hy z hz=>hc y (aB _ hy) z (aB _ hz)
  rw[ay,ay]
  unfold sn;by_cases h1:x.1∈A
  .have h2:=hA x (aO ..) h1
   rw[if_pos h1,if_pos h2]
   erw[A4 ps A B c' λy hy=>hA y (aB _ hy)]
  .have nx:∀y∈ps,y.1∈A++[x.1]->y.2∈B\/y.2=x.2:=λy hy m=>by
    rcases aI.mp m with m|m
    .erw[.inl (hA y (aB _ hy) m)]
    .exact .inr (hc y (aB _ hy) x (aO ..) (by simpa using m))
   rw[if_neg h1]
   by_cases h2:x.2∈B
   .rw[if_pos h2]
    have:=A4 ps (A++[x.1]) B c' λy hy m=>(nx y hy m).elim id λe=>e▸h2
    simp at this ⊢;omega
   .rw[if_neg h2]
    have:=A4 ps (A++[x.1]) (B++[x.2]) c' λy hy m=>by
     rcases nx y hy m with z|z
     .simp[z]
     .simp[z]
    simp at this ⊢;omega
theorem C3:∀(ps:List (κ×β))(A:List κ)(B:List β),Vh ps->A.length=B.length->(∀x∈ps,x.1∈A->x.2∈B/\A.idxOf x.1=B.idxOf x.2)->(sn B (ps.map (·.2))).length=(sn A (ps.map (·.1))).length->lh A (ps.map (·.1))=lh B (ps.map (·.2))
 |[],A,B,_,_,_,_=>rfl
 |x::ps,A,B,hc,hl,hA,he=>by
  have c':Vh ps:=λy hy z hz=>hc y (aB _ hy) z (aB _ hz)
  rw[ay,ay] at he ⊢;unfold sn at he;unfold lh;by_cases h1:x.1∈A
  .let#[h2,h3]:=hA x (aO ..) h1
   rw[if_pos h1,if_pos h2] at he ⊢;rw[h3,C3 ps A B c' hl (λy hy=>hA y (aB _ hy)) he]
  .have nx:∀y∈ps,y.1∈A++[x.1]->y.1∈A\/(y.1=x.1/\y.2=x.2):=λy hy m=>by
    rcases aI.mp m with m|m
    .erw[.inl m]
    .have e:y.1=x.1:=by simpa using m
     erw[.inr #[e,hc y (aB _ hy) x (aO ..) e]]
   rw[if_neg h1] at he ⊢;by_cases h2:x.2∈B
   .rw[if_pos h2] at he
    have:=A4 ps (A++[x.1]) B c' λy hy m=>by
     rcases nx y hy m with z|z
     .exact(hA y (aB _ hy) z).1
     .rw[z.2];erw[h2]
    simp at this;omega
   .rw[if_neg h2] at he ⊢
    rw[hl,C3 ps (A++[x.1]) (B++[x.2]) c' (by simp[hl]) (λy hy m=>?_) he]
    rcases nx y hy m with z|z
    .let#[z1,z2]:=hA y (aB _ hy) z
     exact#[by simp[z1],by rw[pE z,pE z1,z2]]
    .rw[z.1,z.2]
     exact#[by simp,by rw[jA,if_neg h1,jA,if_neg h2];simp[hl]]
theorem JE{a:List κ}{b:List β}(h:∀(i j:Nat) (x y:κ) (u v:β),a[i]?=some x->a[j]?=some y->b[i]?=some u->b[j]?=some v->x=y->u=v):Vh (a.zip b):=by
 intro x hx y hy e;let#[i,hi]:=bA hx;let#[j,hj]:=bA hy;rw[List.getElem?_zip_eq_some] at hi hj;erw[h i j _ _ _ _ hi.1 hj.1 hi.2 hj.2 e]
theorem C4{a:List κ}{b:List β}(hl:a.length=b.length)(h:∀(i j:Nat) (x y:κ) (u v:β),a[i]?=some x->a[j]?=some y->b[i]?=some u->b[j]?=some v->x=y->u=v):(sn [] b).length<=(sn [] a).length:=by
 have:=A4 (a.zip b) [] [] (JE h) (by simp);rw[Kb ∅,Kc ∅] at this;simpa using this
theorem Ef{a:List κ}{b:List β}(hl:a.length=b.length)(h:∀(i j:Nat) (x y:κ) (u v:β),a[i]?=some x->a[j]?=some y->b[i]?=some u->b[j]?=some v->x=y->u=v)(he:(sn [] b).length=(sn [] a).length):lh [] a=lh [] b:=by
 have:=C3 (a.zip b) [] [] (JE h) rfl (by simp);rw[Kb ∅,Kc ∅] at this;erw[this he]
theorem Eg(ks:List κ):lh [] (lh [] ks)=lh [] ks:=by
 have l:=lM ks [];have h1:∀(i j:Nat)(x y:κ)(u v:Nat),ks[i]?=some x->ks[j]?=some y->(lh [] ks)[i]?=some u->(lh [] ks)[j]?=some v->x=y->u=v:=λi j x y u v hi hj hu hv e=>by
  have:=(uk hi hj).mpr e;rw[hu,hv] at this;erw[aH this]
 have h2:∀(i j:Nat)(x y:Nat)(u v:κ),(lh [] ks)[i]?=some x->(lh [] ks)[j]?=some y->ks[i]?=some u->ks[j]?=some v->x=y->u=v:=λi j x y u v hi hj hu hv e=>by
  refine(uk hu hv).mp ?_;rw[hi,hj,e]
 exact(Ef l.symm h1 (Nat.le_antisymm (C4 l.symm h1) (C4 l h2))).symm
end
noncomputable def JF(p:Nat×List Nat):U:=.tup [ba p.1,.tup (p.2.map ba)]
theorem uo{κ:Type}[BEq κ][LawfulBEq κ]:∀(ks:List κ)(k:κ)(seen:List κ),sn seen (ks++[k])=if k∈sn seen ks then sn seen ks else sn seen ks++[k]
 |[],k,seen=>rfl
 |x::r,k,seen=>by
  rw[nq]
  unfold sn;erw[uo r k _]
theorem JG{κ:Type}[BEq κ][LawfulBEq κ](ks:List κ)(k:κ):lh [] (ks++[k])=lh [] ks++[(sn [] (ks++[k])).idxOf k]:=by
 rw[sQ,sQ,aJ,uo]
 congr 1
 rwa[qz λx hx=>?_]
 split
 .rfl
 .erw[pE ((vJ ks [] x).mpr (.inr hx))]
noncomputable def wg(p:Nat×List Nat):Int×List Int:=((p.1:Int),p.2.map λ(n:Nat)=>(n:Int))
theorem JH(a b:Nat×List Nat)(h:wg a=wg b):a=b:=by
 let#[h1,h2]:=zL h;erw[Prod.ext (oS h1) ((rR λ_ _ e=>oS e).mp h2)]
theorem JI(p:Nat×List Nat):JF p=.tup [.int (wg p).1,.tup ((wg p).2.map .int)]:=by
 unfold JF wg;rw[bq];rfl
def JJ:Spec:=λus S Q _=>∃u,us=[u]/\((∃ks:List (Option Nat),u=.tup (ks.map uN)/\ks.length<=5000/\∀m S',Ext S S'->S.length<=m->S'[m]?=some (.lst ((lh [] ks).map ba))->Q (.loc m) S') \/
 ∃n,∃ks:List (Nat×List Nat),u=.loc n/\S[n]?=some (.lst (ks.map JF))/\ks.length<=5000/\∀m S',Ext S S'->S.length<=m->S'[m]?=some (.lst ((lh [] ks).map ba))->Q (.loc m) S')
theorem JK{κ:Type}[BEq κ][LawfulBEq κ](f:κ->U)(D:List (κ×U)->SO)(hD:∀(S:bj) (n:Nat) kvs k (d:U) (Q:KU),S[n]?=some (D kvs)->kvs.length<=5000->(match kvs.lookup k with|some v=>Q v S|none=>Q d (S.set n (D (kvs++[(k,d)]))))->pR S n (f k) d Q)(hL:∀(S:bj) (n:Nat) kvs,S[n]?=some (D kvs)->tR .nK (.loc n) S/\mh S (.loc n)=some kvs.length)
  {g:bj->Prop}{S:bj}{Q:List U->bj->Prop}{ks:List κ} (hl:ks.length<=5000) (hg:∀S',Ext S S'->g S') (q:∀S',Ext S S'->Q ((lh [] ks).map ba) S'):nB g (λ_ S2 k=>k true S2) (λu S2 k=>tR .nK (.loc S.length) S2/\opt (mh S2 (.loc S.length)) λn=>n<=1000000/\pR S2 S.length u (.int n) k) Q (ks.map f) [] (S++[D []]):=by
 rwa[gH _ (λi acc S'=>Ext S S'/\S'[S.length]?=some (D (dz (sn [] (ks.take i)) 0))/\acc=(lh [] (ks.take i)).map ba) (λi acc S' hi h=>#[hg _ h.1,?_]) (λi u acc S' k hu hI hk=>?_) (λacc S' hI=>?_) #[Ext.app _,by simp[sn,dz],rfl]]
 .rw[h.2.2,ah,lM,dE];omega
 .let#[x,e,rfl]:=hI
  let#[k0,hk0,rfl]:=fj hu;have tk:=Jf hk0;have ln:(sn [] (ks.take i)).length<=5000:=by have:=vI (ks.take i) [];simp at this;omega
  have nt:(lh [] (ks.take (i+1))).map ba=(lh [] (ks.take i)).map ba++[ba ((sn [] (ks.take (i+1))).idxOf k0)]:=by rw[tk,JG,aJ];rfl
  rw[if_pos rfl,(hL _ _ _ e).2]
  refine#[(hL _ _ _ e).1,by rw[ze];omega,hD _ _ _ _ _ _ e (by rw[ze];erw[ln]) ?_];rw[zf,ze]
  by_cases hm:k0∈sn [] (ks.take i)
  .have es:sn [] (ks.take (i+1))=sn [] (ks.take i):=by rw[tk,uo,if_pos hm]
   rw[if_pos hm,oo]
   erw[hk _ _ #[x,by rw[es];exact e,by rw[nt,es]]]
  .have es:sn [] (ks.take (i+1))=sn [] (ks.take i)++[k0]:=by rw[tk,uo,if_neg hm]
   rw[if_neg hm]
   refine hk _ _ #[#[by simpa using x.1,λn hn=>?_],?_,?_]
   .rw[af ∅];erw[x.2 n hn]
   .rw[bF (ae.mp e).1,es,JC,oo]
   .rw[nt,es,jA,if_neg hm];simp
 .let#[x,e,rfl]:=hI
  rw[show ks.take (ks.map f).length=ks by simp]
  erw[q _ x]
theorem Q2(Γ:bT):Keeps Γ mZ 1 JJ:=by
 rintro us S Q E ⟨u,rfl,h⟩;unfold mZ;rcases h with⟨ks,rfl,hl,q⟩|⟨n,ks,rfl,g,hl,q⟩
 .room
  rw[vd]
  refine#[⋯,.inl ?_];room;refine#[by simp;omega,JK uN (λl=>.eL (l.map λp=>(uN p.1,p.2))) (λS n kvs k d Q e l h=>?_) (λS n kvs e=>#[?_,by dsimp[mh,e,ah]]) hl (λ_ _=>trivial) λS' x=>q _ _ (x.trans (Ext.app _)) x.1 (by simp)]
  .unfold pR
   rw[e]
   refine#[#[Q0 _,by rw[ah];omega],?_];rw[aJ] at h;rw[JD]
   erw[h]
  .show(match S[n]? with|some (.eL _)=>True|some (.t8 _)=>True|some (.wX _)=>True|_=>False)
   rw[e];trivial
 .room
  rw[vd]
  refine#[⋯,.inr (.inr ?_)];room;rw[ag (aZ g),g]
  dsimp[aD];rwa[JK JF (λl=>.wX (l.map λp=>(wg p.1,p.2))) (λS n kvs k d Q e l h=>?_) (λS n kvs e=>#[?_,by dsimp[mh,e,ah]]) hl (λS' x=>x.get g) λS' x=>q _ _ (x.trans (Ext.app _)) x.1 (by simp)]
  .unfold pR
   rw[e]
   refine#[_,_,JI k,by rw[ah];omega,?_];rw[show((wg k).1,(wg k).2)=wg k from rfl,JA wg JH]
   rw[aJ] at h;erw[h]
  .show(match S[n]? with|some (.eL _)=>True|some (.t8 _)=>True|some (.wX _)=>True|_=>False)
   rw[e];trivial
structure Rw(S:bj)(n:Nat)(ls:List Nat)(g:Nat->Nat->Nat):Prop where
 l:S[n]?=some (.lst (ls.map .loc))
 d:∀(j m:Nat),ls[j]?=some m->S[m]?=some (SO.eL (SG.map λc=>(.str [c],ba (g j c))))
theorem Rw.ext{S S':bj}{n:Nat}{ls:List Nat}{g:Nat->Nat->Nat}(h:Rw S n ls g)(x:Ext S S'):Rw S' n ls g:=#[x.get h.l,λj m e=>x.get (h.d j m e)]
theorem zg{f:Nat->U}{c:Nat}:∀{l:List Nat},c∈l->u5 (.str [c]) (l.map λc=>(U.str [c],f c))=some (f c)
 |x::l,h=>by
  rw[ay]
  unfold u5;by_cases e:x=c
  .subst e;rw[if_pos (by simp[RC])]
  .rw[if_neg (by simp[RC,e])]
   rcases aR.mp h with z|z
   .erw[absurd z.symm e]
   .erw[zg z]
theorem A5{κ:Type}[BEq κ][LawfulBEq κ]{f:Nat->κ}{h:Nat->U}{k:κ}:∀l:List Nat,(∃c∈l,f c=k/\(l.map λc=>(f c,h c)).lookup k=some (h c))\/(l.map λc=>(f c,h c)).lookup k=none
 |[]=>.inr rfl
 |x::l=>by
  rw[ay,aN]
  by_cases e:k=f x
  .erw[.inl #[x,aO ..,e.symm,by simp[e]]]
  .rw[show(k==f x)=false by simp[e]]
   rcases A5 (f:=f) (h:=h) (k:=k) l with⟨c,m,z⟩|z
   .erw[.inl #[c,aB _ m,z]]
   .erw[.inr z]
def NN:Spec:=λus S Q _=>∃n ls g,us=[.loc n]/\Rw S n ls g/\ls.length<=5000/\∀(m:Nat)(S':bj)(sg:List Nat),Ext S S'->S.length<=m->S'[m]?=some (.lst (sg.map λc=>.str [c]))->sg.length<=95->(∀c∈sg,c∈SG)->(∀c∈SG,∃c'∈sg,∀j,j<ls.length->g j c'=g j c)->Q (.loc m) S'
theorem Q3(Γ:bT):Keeps Γ iM 2 NN:=by
 rintro us S Q E ⟨n,ls,g,rfl,rw0,hl,q⟩;let#[r1,r2]:=rw0;unfold iM;have gl:SG.length=95:=rfl;generalize SG=G at *;room;rw[vd]
 refine#[⋯,.inr (.inl ?_)];room
 let ky:Nat->List Int:=λc=>(cf ls.length).map λj=>((g j c:Nat):Int)
 rwa[cQ (λi env S1=>∃(sg:List Nat)(x2:Option U),env=[some (.loc n),some (.loc S.length),x2]/\Ext S S1/\S1[S.length]?=some (.t8 (sg.map λc=>(ky c,.str [c])))/\sg.length<=i/\(∀c∈sg,c∈G)/\∀c∈G.take i,∃c'∈sg,ky c'=ky c) (λ_ _ _ _=>trivial) _ ?_ ?_ #[[],none,rfl,Ext.app _,by simp,by simp,by simp,by simp]]
 .rintro i u env S1 K hu ⟨sg,x2,rfl,x1,g1,sl,hs,inv⟩ hK
  let#[c,hc,rfl]:=fj hu;have cm:=ao hc;have il:i<95:=by have:=(ae.mp hc).1;omega
  have et:=Jf hc;room;refine#[by show(match S1[S.length]? with|some (.eL _)=>True|some (.t8 _)=>True|some (.wX _)=>True|_=>False);rw[g1];trivial,?_];rw[x1.get r1,aD]
  rwa[jm (S:=S1) _ ((ky c).map .int) (by simp[ky]) (by simp;omega) (λS' x=>x.get (x1.get r1)) (λu S' k h=>h) (λj u v hu hv S2 k x hk=>?_) λS2 x=>?_]
  .let#[m,hm,rfl]:=fj hu
   have jl:=(ae.mp hm).1;rw[aC,aC,iG jl] at hv;have hv:ba (g j c)=v:=by simpa using hv
   subst hv;room;rw[(x1.trans x).get (r2 j m hm)]
   rw[kJ]
   refine#[rfl,?_];rw[zg cm]
   erw[hk S2 .refl]
  .rw[aw (ar _),bH]
   dsimp[zV,aD];have x2:=x.trans (Ext.app [SO.lst ((ky c).map U.int)]);have g2:=x2.get g1;generalize S2++[SO.lst ((ky c).map U.int)]=S3 at x2 g2;show pR S3 S.length _ _ _;unfold pR;rw[g2]
   refine#[ky c,rfl,by simp;omega,?_];rcases A5 (f:=ky) (h:=λc=>U.str [c]) (k:=ky c) sg with⟨c',m',e',z⟩|z
   .rw[z]
    room;rwa[hK _ _ #[sg,_,rfl,x1.trans x2,g2,∅,hs,λd hd=>?_]];rw[et] at hd;rcases aI.mp hd with hd|hd
    .erw[inv d hd]
    .have:d=c:=by simpa using hd
     subst this;exact#[c',m',e']
   .rw[z]
    room;have x13:=x1.trans x2;rwa[hK _ _ #[sg++[c],_,rfl,(x13.st ∅),by rw[gs g2];simp,by simp;omega,λd hd=>?_,λd hd=>?_]]
    .rcases aI.mp hd with hd|hd
     .erw[hs d hd]
     .have:d=c:=by simpa using hd
      subst this;erw[cm]
    .rw[et] at hd
     rcases aI.mp hd with hd|hd
     .let#[c',m',e']:=inv d hd
      exact#[c',by simp[m'],e']
     .have:d=c:=by simpa using hd
      subst this;exact#[d,by simp,rfl]
 .rintro env S1 ⟨sg,x2,rfl,x1,g1,sl,hs,inv⟩
  rw[ah,gl] at sl;rw[ah,bP] at inv;room;refine#[by show(match S1[S.length]? with|some (.t8 _)=>True|_=>False);rw[g1];trivial,?_];show(match S1[S.length]? with|some (.t8 kvs)=>Q (.loc S1.length) (S1++[.lst (kvs.map (·.2))])|_=>False)
  rw[g1]
  rwa[q _ _ sg (x1.trans (Ext.app _)) x1.1 (by simp) sl hs λc hc=>?_]
  let#[c',m',e']:=inv c hc;refine#[c',m',λj hj=>?_];have:=congrArg (·[j]?) e';dsimp[ky,aC,iG hj] at this;have:((g j c':Nat):Int)=(g j c:Nat):=by simpa using this
  omega
noncomputable def dO(G:List Nat)(f:Nat->Option Nat):List (List Nat×U):=G.filterMap λc=>(f c).map λk=>([c],ba k)
noncomputable def sD(ps:List (List Nat×U)):List (U×U):=ps.map λp=>(U.str p.1,p.2)
theorem Eh(a:List Nat):∀ps,u5 (.str a) (sD ps)=ps.lookup a
 |[]=>rfl
 | (b,v)::r=>by
  have ih:=Eh a r;show(if (b==a)=true then some v else u5 (.str a) (sD r))=_;rw[aN,ih]
  by_cases h:b=a
  .subst h;simp
  .rw[if_neg (by simp[h]),show(a==b)=false by simp[cA h]]
theorem vK(f:Nat->Option Nat)(c:Nat):∀G:List Nat,(dO G f).lookup [c]=if c∈G then(f c).map ba else none
 |[]=>rfl
 |x::G=>by
  have ih:=vK f c G;unfold dO at ih ⊢;rw[cg]
  by_cases e:c=x
  .subst e
   cases h:f c with
   |none=>rw[h] at ih;dsimp[tZ,ih];simp
   |some k=>simp
  .have e1:(([c]:List Nat)== [x])=false:=by simp[e]
   cases h:f x with
   |none=>dsimp[tZ,ih,aR,e,false_or]
   |some k=>dsimp[kj,aN,e1,ih,aR,e,false_or]
structure Rp(S:bj)(n:Nat)(ls:List Nat)(go:Nat->Nat->Option Nat):Prop where
 l:S[n]?=some (.lst (ls.map .loc))
 d:∀(j m:Nat),ls[j]?=some m->S[m]?=some (SO.eL (sD (dO SG (go j))))
 z:∀(j c:Nat),ls.length<=j->go j c=none
theorem Rp.ext{S S':bj}{n:Nat}{ls:List Nat}{go:Nat->Nat->Option Nat}(h:Rp S n ls go)(x:Ext S S'):Rp S' n ls go:=#[x.get h.l,λj m e=>x.get (h.d j m e),h.z]
noncomputable def gN(N:Nat)(go:Nat->Nat->Option Nat)(j c:Nat):Nat:=(go j c).getD N
def Vi:Spec:=λus S Q _=>∃n ls go,us=[.loc n]/\Rp S n ls go/\ls.length<=5000/\∀(m:Nat)(S':bj)(ms:List Nat),Ext S S'->ms.length=ls.length+1->Rw S' m ms (gN ls.length go)->Q (.loc m) S'
theorem Q4{Γ:bT}{S:bj}{d N:Nat}{f:Nat->Option Nat}{k:KU}{E:KX}(hd:S[d]?=some (.eL (sD (dO SG f))))(q:∀m S',Ext S S'->S'[m]?=some (.eL (SG.map λc=>(.str [c],ba ((f c).getD N))))->k (.loc m) S'):WE Γ XW [some (.loc d),some (ba N)] S k E:=by
 unfold XW;have nd:=NH;have gl:SG.length=95:=rfl;generalize SG=G at *;room;rwa[jm (S:=S) _ (G.map λc=>.tup [.str [c],ba ((f c).getD N)]) (by simp) (by simp;omega) (λS' x=>trivial) (λu S' k h=>h) (λj u v hu hv S2 k x' hk=>?_) λS2 x'=>?_]
 .rw[aC] at hu hv
  let#[c,hc,rfl]:=au.mp hu;rw[hc] at hv;have hv:U.tup [.str [c],ba ((f c).getD N)]=v:=by simpa using hv
  subst hv;room;rw[x'.get hd]
  dsimp[getD_some,kJ,true_and];refine#[dO G f,rfl,by simp,?_];rw[vK,if_pos (ao hc)]
  have:((f c).map ba).getD (ba N)=ba ((f c).getD N):=by cases f c<;>rfl
  rw[this]
  erw[hk S2 .refl]
 .refine#[G.map λc=>([c],ba ((f c).getD N)),by simp[dk],by rw[bq];erw[nd],?_]
  rw[bq]
  erw[q _ _ (x'.trans ((Ext.app _).trans (Ext.app _))) (by rw[aw (ar _),bH];rfl)]
theorem Vj(Γ:bT):Keeps Γ je 1 Vi:=by
 rintro us S Q E ⟨n,ls,go,rfl,⟨r1,r2,r3⟩,hl,q⟩;unfold je;room;rw[nE r1]
 dsimp[bp,ah];refine#[∅,?_];room;rw[vd]
 refine#[⋯,.inl #[by simp,?_]];have x0:Ext S (S++[SO.eL []]++[SO.lst [U.loc S.length]]):=(Ext.app _).trans (Ext.app _);have g0:(S++[SO.eL []]++[SO.lst [U.loc S.length]])[(S++[SO.eL []]).length]?=some (.lst [U.loc S.length]):=by
  rw[aw (ar _),bH];rfl
 have d0:(S++[SO.eL []]++[SO.lst [U.loc S.length]])[S.length]?=some (.eL []):=(Ext.app _).get (by simp);generalize (S++[SO.eL []]).length=n0 at g0;generalize S++[SO.eL []]++[SO.lst [U.loc S.length]]=S0 at x0 g0 d0;rw[x0.get r1,g0]
 dsimp[aD];refine#[by simp;omega,?_];have x1:Ext S (S0++[SO.lst (ls.map U.loc++[U.loc S.length])]):=x0.trans (Ext.app _);have g1:(S0++[SO.lst (ls.map U.loc++[U.loc S.length])])[S0.length]?=some (.lst ((ls++[S.length]).map U.loc)):=by simp
 have d1:=(Ext.app [SO.lst (ls.map U.loc++[U.loc S.length])]).get d0;generalize S0.length=n1 at g1;generalize S0++[SO.lst (ls.map U.loc++[U.loc S.length])]=S1 at x1 g1 d1;rw[g1,aD]
 have rd:∀(j d:Nat),(ls++[S.length])[j]?=some d->S1[d]?=some (.eL (sD (dO SG (go j)))):=λj d h=>by
  by_cases hj:j<ls.length
  .rw[ag hj] at h
   erw[x1.get (r2 j d h)]
  .have:=(ae.mp h).1
   have ej:j=ls.length:=by simp at this;omega
   subst ej;have:S.length=d:=by simpa using h
   subst this;have:dO SG (go ls.length)= []:=by
    unfold dO;rw[List.filterMap_eq_nil_iff]
    intro c _;rw[r3 _ c (ar _)];rfl
   rw[this];erw[d1]
 refine gH _ (λi acc S'=>Ext S1 S'/\∃ms:List Nat,acc=ms.map .loc/\ms.length=i/\∀(j d:Nat),ms[j]?=some d->S'[d]?=some (SO.eL (SG.map λc=>(.str [c],ba (gN ls.length go j c))))) (λi acc S' hi h9=>by let#[x,ms,e1,e2,_]:=h9;exact#[x.get g1,by rw[e1];simp at hi ⊢;omega]) (λi u acc S' k hu hi hk=>?_) (λacc S' hI=>?_) #[.refl,[],rfl,rfl,by simp]
 .let#[x,ms,rfl,e2,inv]:=hi
  let#[d,hd,rfl]:=fj hu;rw[if_pos rfl]
  rwa[Q4 (x.get (rd i d hd)) λm S2 x2 g2=>hk _ _ #[x.trans x2,ms++[m],by rw[aJ];rfl,by simp[e2],λj d hj=>?_]]
  by_cases hlt:j<ms.length
  .rw[ag hlt] at hj
   erw[x2.get (inv j d hj)]
  .have:=(ae.mp hj).1
   have ej:j=ms.length:=by simp at this;omega
   subst ej;have:m=d:=by simpa using hj
   rw[<-this,e2]
   erw[g2]
 .let#[x,ms,rfl,e2,inv]:=hI
  have e2:ms.length=ls.length+1:=by simpa using e2
  erw[q _ _ ms ((x1.trans x).trans (Ext.app _)) e2 #[by simp,λj d h=>(Ext.app _).get (inv j d h)]]
noncomputable def pk(b:List Nat)(g:Nat->Nat->Nat)(sg:List Nat)(N:Nat):List (Nat×List Nat):=(cf N).map λj=>(b.getD j 0,sg.map λc=>b.getD (g j c) 0)
theorem zh{b:List Nat}{j:Nat}{r:U->Prop}(h:j<b.length)(z:r (ba (b.getD j 0))):opt (sk (b.map ba) ((j:Nat):Int)) r:=by
 rw[jb,aC,aa h]
 rw[aT,aa h] at z;erw[z]
theorem Q5{Γ:bT}{S:bj}{nb nr ns m d:Nat}{b sg:List Nat}{f:Nat->Nat}{x4:U}{k:KU}{E:KX}(hb:S[nb]?=some (.lst (b.map ba)))(hs:S[ns]?=some (.lst (sg.map λc=>.str [c])))(hd:S[d]?=some (.eL (SG.map λc=>(.str [c],ba (f c)))))(sl:sg.length<=95)(hg:∀c∈sg,c∈SG/\f c<b.length)
  (q:∀m S',Ext S S'->S'[m]?=some (.lst ((sg.map λc=>b.getD (f c) 0).map ba))->k (.loc m) S'):WE Γ XX [some (.loc nb),some (.loc nr),some (.loc ns),some (.loc m),some x4,some (.loc d)] S k E:=by
 unfold XX;room;rw[hs,aD]
 rwa[jm (S:=S) _ ((sg.map λc=>b.getD (f c) 0).map ba) (by simp) (by simp;omega) (λS' x=>x.get hs) (λu S' k h=>h) (λj u v hu hv S2 k x' hk=>?_) λS2 x'=>?_]
 .let#[c,hc,rfl]:=fj hu
  rw[aC,aC,hc] at hv;have hv:ba (b.getD (f c) 0)=v:=by simpa using hv
  subst hv;let#[h1,h2]:=hg c (ao hc);rw[x'.get hd,kJ,zg h1,bp]
  refine#[rfl,?_];show getL S2[nb]? _;rw[x'.get hb,aD]
  erw[zh h2 (hk S2 .refl)]
 .erw[q _ _ (x'.trans (Ext.app _)) (by simp)]
def NO:Spec:=λus S Q _=>∃nb nr ns ls b sg g,us=[.loc nb,.loc nr,.loc ns]/\S[nb]?=some (.lst (b.map ba))/\Rw S nr ls g/\S[ns]?=some (.lst (sg.map λc=>.str [c]))/\ls.length<=5000/\b.length=ls.length/\sg.length<=95/\(∀c∈sg,c∈SG/\∀j,j<ls.length->g j c<ls.length) /\
 ∀m S',Ext S S'->S.length<=m->S'[m]?=some (.lst ((lh [] (pk b g sg ls.length)).map ba))->Q (.loc m) S'
theorem Q6(Γ:bT)(h1:Γ "numbered"=JJ):Keeps Γ qZ 3 NO:=by
 rintro us S Q E ⟨nb,nr,ns,ls,b,sg,g,rfl,hb,R,hs,hl,bl,sl,hg,q⟩;unfold qZ;room;refine#[by simp,?_];room;have x0:Ext S (S++[SO.lst []]):=Ext.app _;rw[x0.get R.l,aD]
 rwa[cQ (λi env S1=>∃(x4 x5:Option U),env=[some (.loc nb),some (.loc nr),some (.loc ns),some (.loc S.length),x4,x5]/\Ext S S1/\S1[S.length]?=some (.lst ((pk b g sg i).map JF))/\i<=ls.length) (λi env S1 h9=>by let#[_,_,_,x,_]:=h9;erw[x.get R.l]) _ ?_ ?_ #[none,none,rfl,x0,by simp[pk],∅]]
 .rintro i u env S1 K hu ⟨x4,x5,rfl,x1,g1,il⟩ hK
  dsimp[fm,aC,oR] at hu;let#[d,hd,rfl]:=au.mp hu;have hi:=(ae.mp hd).1;dsimp[dk];room;rw[g1,x1.get hb]
  dsimp[aD];refine#[trivial,zh ∅ ?_];rwa[Q5 (x1.get hb) (x1.get hs) (x1.get (R.d i d hd)) sl (λc hc=>#[(hg c hc).1,by rw[bl];exact(hg c hc).2 i hi]) λm S2 x2 g2=>?_]
  room;rw[g2,aD]
  refine#[by simp,?_];rw[x2.get g1,aD]
  refine#[by simp[pk];omega,?_];room;have x12:=x1.trans x2;rwa[hK _ _ #[_,_,rfl,(x12.st ∅),?_,hi]];rw[gs (x2.get g1)]
  unfold pk;rw[List.range_succ,aJ,aJ]
  rfl
 .rintro env S1 ⟨x4,x5,rfl,x1,g1,il⟩
  rw[lu,ah] at g1;room;erw[ca h1 #[_,rfl,.inr #[_,_,rfl,g1,by simp[pk];omega,λm S2 x2 ml g2=>q m S2 (x1.trans x2) (aP x1.1 ml) g2]]]
def Eqv(told:List (Option Nat))(g:Nat->Nat->Nat):Nat->Nat->Nat->Prop
 |0,i,j=>told[i]?=told[j]?
 |k+1,i,j=>Eqv told g k i j/\∀c∈SG,Eqv told g k (g i c) (g j c)
structure Gj(told:List (Option Nat))(g:Nat->Nat->Nat)(k:Nat)(b:List Nat):Prop where
 len:b.length=told.length
 fx:lh [] b=b
 iff:∀i j,i<told.length->j<told.length->(b.getD i 0=b.getD j 0↔Eqv told g k i j)
theorem gd{b:List Nat}{i:Nat}(h:i<b.length):b[i]?=some (b.getD i 0):=by
 rw[aT,aa h];rfl
theorem JL{a b:List Nat}{i j:Nat}(hi:i<b.length)(hj:j<b.length):b.getD i 0=b.getD j 0↔b[i]?=b[j]?:=by
 rw[gd hi,gd hj];simp
theorem Vk{told:List (Option Nat)}{g:Nat->Nat->Nat}:Gj told g 0 (lh [] told):=by
 refine#[lM told [],Eg told,λi j hi hj=>?_];rw[JL (a:=[]) (by rw[lM];erw[hi]) (by rw[lM];erw[hj]),uk (aa hi) (aa hj)]
 unfold Eqv;rw[aa hi,aa hj]
 simp
theorem NP{b sg:List Nat}{g:Nat->Nat->Nat}{N i:Nat}(h:i<N):(pk b g sg N)[i]?=some (b.getD i 0,sg.map λc=>b.getD (g i c) 0):=by
 unfold pk;rw[aC,iG h];rfl
theorem Vl{told:List (Option Nat)}{g:Nat->Nat->Nat}{k:Nat}{b sg:List Nat}(h:Gj told g k b)(hc:∀j c,j<told.length->c∈SG->g j c<told.length)(h1:∀c∈sg,c∈SG)(h2:∀c∈SG,∃c'∈sg,∀j,j<told.length->g j c'=g j c):Gj told g (k+1) (lh [] (pk b g sg told.length)):=by
 have l1:(lh [] (pk b g sg told.length)).length=told.length:=by rw[lM];simp[pk]
 refine#[l1,Eg _,λi j hi hj=>?_];rw[JL (a:=[]) ∅ ∅,uk (NP hi) (NP hj),Prod.mk.injEq,h.iff i j hi hj]
 show _↔Eqv told g k i j/\∀c∈SG,Eqv told g k (g i c) (g j c)
 rwa[and_congr_right λ_=>?_]
 rw[sX]
 constructor
 .intro z c hcm
  let#[c',m',e']:=h2 c hcm;rw[<-e' i hi,<-e' j hj]
  exact(h.iff _ _ (hc i c' hi (h1 c' m')) (hc j c' hj (h1 c' m'))).mp (z c' m')
 .intro z c hcm
  exact(h.iff _ _ (hc i c hi (h1 c hcm)) (hc j c hj (h1 c hcm))).mpr (z c (h1 c hcm))
theorem Ei{told:List (Option Nat)}{g:Nat->Nat->Nat}{k m:Nat}{b:List Nat}(h:Gj told g k b)(h1:m∈b)(h2:∀j∈b,j<=m):m+1=(sn [] b).length:=by
 have:=h.fx;rw[<-this] at h1 h2;erw[MZ h1 h2]
theorem Q7{told:List (Option Nat)}{g:Nat->Nat->Nat}{k:Nat}{a b:List Nat}(ha:Gj told g (k+1) a)(hb:Gj told g k b):(sn [] b).length<=(sn [] a).length/\((sn [] b).length=(sn [] a).length->a=b):=by
 have h:∀(i j:Nat)(x y u v:Nat),a[i]?=some x->a[j]?=some y->b[i]?=some u->b[j]?=some v->x=y->u=v:=by
  intro i j x y u v e1 e2 e3 e4 e;have l1:=(ae.mp e1).1;have l2:=(ae.mp e2).1;have la:=ha.len;have lb:=hb.len;have z:=(ha.iff i j ∅ ∅).mp (by rw[aT,aT,e1,e2,e]);have:=(hb.iff i j ∅ ∅).mpr z.1;rw[aT,aT,e3,e4] at this;erw[this]
 have l:a.length=b.length:=by rw[ha.len,hb.len]
 refine#[C4 l h,λe=>?_];have:=Ef l h e;rw[ha.fx,hb.fx] at this;erw[this]
theorem Ej{S:bj}{n:Nat}{b:List Nat}{Q:KU}(h:S[n]?=some (.lst (b.map ba)))(b0:0<b.length)(q:∀m∈b,(∀j∈b,j<=m)->Q (ba m) S):so .max [.loc n] S Q:=by
 cases b with
 |nil=>simp at b0
 |cons x b=>
  refine#[(x:Int),b.map λ(n:Nat)=>(n:Int),by rw[h];simp,λm hm hj=>?_];have e:((x:Int)::b.map λ(n:Nat)=>(n:Int))=(x::b).map λ(n:Nat)=>(n:Int):=rfl
  rw[e] at hm hj;let#[y,hy,rfl]:=bB.mp hm;rwa[q y hy λj m=>?_]
  have:=hj _ (bB.mpr #[j,m,rfl]);omega
theorem zi{α:Type}{l:List α}{x:α}:sk (l++[x]) (-1)=some x:=by
 unfold sk OZ;rw[if_neg ∅,if_pos (by simp;omega)]
 have:((-1:Int)+((l++[x]).length:Nat)).toNat=l.length:=by rw[ax];simp;omega
 rw[this];simp
structure Yx(told:List (Option Nat))(g:Nat->Nat->Nat)(S:bj)(fs:List Nat):Prop where
 r:∀(k n:Nat),fs[k]?=some n->∃b,S[n]?=some (.lst (b.map ba))/\Gj told g k b
 ne:fs≠[]
 st:∀i j,i<told.length->j<told.length->Eqv told g (fs.length-1) i j->Eqv told g fs.length i j
def Vm:Spec:=λus S Q _=>∃nr ls g told,us=[.tup (told.map uN),.loc nr]/\Rw S nr ls g/\told.length=ls.length/\0<ls.length/\ls.length<=5000/\(∀j c,j<told.length->c∈SG->g j c<told.length)/\∀F fs S',Ext S S'->S'[F]?=some (.lst (fs.map .loc))->Yx told g S' fs->Q (.loc F) S'
structure Vn(told:List (Option Nat))(g:Nat->Nat->Nat)(L:Nat)(S3:bj)(fs:List Nat)(m:Nat)(b:List Nat):Prop where
 f:S3[L]?=some (.lst ((fs++[m]).map .loc))
 v:S3[m]?=some (.lst (b.map ba))
 r:Gj told g fs.length b
 a:∀(k n:Nat),(fs++[m])[k]?=some n->n≠L/\∃b,S3[n]?=some (.lst (b.map ba))/\Gj told g k b
 l:fs.length<=(sn [] b).length/\(sn [] b).length<=told.length
theorem Vn.push{told:List (Option Nat)}{g:Nat->Nat->Nat}{L m m':Nat}{S3 S4:bj}{fs b a':List Nat}(a:Vn told g L S3 fs m b)(x:Ext S3 S4)(ml:S3.length<=m')(g4:S4[m']?=some (.lst (a'.map ba)))(ra:Gj told g (fs.length+1) a')(lt:(sn [] b).length<(sn [] a').length):Vn told g L (S4.set L (.lst ((fs++[m]).map .loc++[.loc m']))) (fs++[m]) m' a':=by
 have ne:m'≠L:=cZ (az (aZ a.f) ml);have gs':∀n o,n≠L->S4[n]?=some o->(S4.set L (.lst ((fs++[m]).map .loc++[.loc m'])))[n]?=some o:=λn o ne e=>by rw[af (cA ne)];erw[e]
 have le:(fs++[m]).length=fs.length+1:=by simp
 have sl:=vI a' [];refine#[by rw[gs (x.get a.f)];simp,gs' _ _ ne g4,by rw[le];erw[ra],λk n e=>?_,by rw[le];erw[lO a.l.1 lt],?_]
 .by_cases hk:k<(fs++[m]).length
  .rw[ag hk] at e
   let#[ne,b',e1,e2]:=a.a k n e;exact#[ne,b',gs' _ _ ne (x.get e1),e2]
  .have:=aZ e
   rw[ax] at this;have ek:k=(fs++[m]).length:=Nat.le_antisymm (Nat.le_of_lt_succ this) (nG hk);subst ek;have:m'=n:=by simpa using e
   subst this;exact#[ne,a',gs' _ _ ne g4,by rw[le];erw[ra]]
 .rw[ra.len] at sl;simpa using sl
theorem Vo(Γ:bT)(h1:Γ "telling_signs"=NN)(h2:Γ "numbered"=JJ)(h3:Γ "parted"=NO):Keeps Γ qY 3 Vm:=by
 rintro us S Q E ⟨nr,ls,g,told,rfl,R,tl,l0,hl,hg,q⟩;unfold qY;room;rwa[ca h1 #[nr,ls,g,rfl,R,hl,λns S1 sg x1 nsl g1 sl s1 s2=>?_]];rw[<-tl] at s2 hl l0;room;rwa[ca h2 #[_,rfl,.inl #[told,rfl,hl,λn0 S2 x2 nl2 g2=>#[by simp,?_]]]];have x12:=x1.trans x2;have gs2:=x2.get g1;room;have r0:Gj told g 0 (lh [] told):=Vk;have sn0:=vI (lh [] told) [];rw[lM] at sn0;have I0:Vn told g S2.length (S2++[SO.lst [U.loc n0]]) [] n0 (lh [] told):=#[by simp,(Ext.app _).get g2,r0,λk n e=>?_,cw _,by simpa using sn0]
 .refine#[told.length+1,pA (λN env S3=>∃(fs:List Nat)(m:Nat)(b:List Nat)(x4:Option U),N=told.length-(sn [] b).length/\env=[some (.tup (told.map uN)),some (.loc nr),some (.loc ns),some (.loc S2.length),x4]/\Ext S2 S3/\Vn told g S2.length S3 fs m b) ?_ _ (told.length-(sn [] (lh [] told)).length) _ _ (Nat.lt_succ_of_le (Nat.sub_le _ _)) #[[],n0,_,none,rfl,rfl,Ext.app _,I0]]
  rintro N env S3 K ⟨fs,m,b,x4,rfl,rfl,x3,I⟩ hK;let#[g3,gm,rb,inv,fl,snl]:=id I;room;rw[g3,aD,aJ]
  rw[show [m].map U.loc=[.loc m] from rfl,zi,bp]
  refine ca h3 #[m,nr,ns,ls,b,sg,g,rfl,gm,R.ext (x12.trans x3),x3.get gs2,tl▸hl,by rw[rb.len,tl],sl,λc hc=>#[s1 c hc,λj hj=>by rw[<-tl] at hj ⊢;erw[hg j c hj (s1 c hc)]],λm' S4 x4 ml' g4=>?_];rw[<-tl] at g4;have ra:=Vl rb hg s1 s2;generalize lh [] (pk b g sg told.length)=a at g4 ra;let#[le,eqn]:=Q7 ra rb;room;rwa[Ej g4 (ra.len▸l0) λma h1a h2a=>?_]
  have ea:=Ei ra h1a h2a;rw[x4.get g3,aD,aJ,show [m].map U.loc=[.loc m] from rfl,zi,bp]
  rwa[Ej (x4.get gm) (rb.len▸l0) λmb h1b h2b=>?_]
  have eb:=Ei rb h1b h2b;room;by_cases z:ma=mb
  .have:((ma:Int)== (mb:Int))=true:=by rw[beq_iff_eq,z]
   dsimp[this,if_true];have e:=eqn (by rw[<-ea,<-eb,z]);subst e;room;rwa[q _ (fs++[m]) S4 ((x12.trans x3).trans x4) (x4.get g3) #[λk n e=>?_,by simp,λi j hi hj h=>?_]]
   .let#[_,b,e1,e2]:=inv k n e
    exact#[b,x4.get e1,e2]
   .rw[ax] at h ⊢
    exact(ra.iff i j hi hj).mp ((rb.iff i j hi hj).mpr h)
  .have:((ma:Int)== (mb:Int))=false:=by rw[beq_eq_false_iff_ne];erw[λy=>z (oS y)]
   dsimp[this,ak,if_false];room;rw[x4.get g3,aD]
   have lt:(sn [] b).length<(sn [] a).length:=GJ le λy=>z (by rw[<-ea,<-eb] at y;exact(mw y).symm)
   have I4:=I.push x4 ml' g4 ra lt;refine#[trivial,by rw[ah,ax];exact lO (Kw (aP fl (aP snl hl))) ⋯,?_];try room
   have x34:=x3.trans x4;erw[hK (told.length-(sn [] a).length) _ _ (Nat.sub_lt_sub_left (az lt I4.l.2) lt) #[fs++[m],m',a,_,rfl,rfl,#[by rw[cq];exact x34.1,λn hn=>by rw[af (cZ hn)];exact x34.2 n hn],I4]]
 .have:=aZ e
  have ek:k=0:=by simp at this;erw[this]
  subst ek;have:n0=n:=by simpa using e
  subst this;exact#[aX (aZ g2),_,(Ext.app _).get g2,r0]
noncomputable def M0(k:Nat)(told:List (Option Nat))(R:Nat):SO:=.ins "Table" [("takes",.loc k),("told",.tup (told.map uN)),("rows",.loc R)]
structure FQ(S:bj)(T:Nat)(told:List (Option Nat))(ls:List Nat)(go:Nat->Nat->Option Nat):Prop where
 o:∃k R,S[T]?=some (M0 k told R)/\S[k]?=some (.lst (told.map uN))/\Rp S R ls go
 ll:ls.length=told.length
 sz:told.length<=4000
 cl:∀j c k,c∈SG->go j c=some k->k<told.length
theorem FQ.ext{S S':bj}{T:Nat}{told:List (Option Nat)}{ls:List Nat}{go:Nat->Nat->Option Nat}(h:FQ S T told ls go)(x:Ext S S'):FQ S' T told ls go:=by
 let#[k,R,h1,h2,h3]:=h.o;exact#[#[k,R,x.get h1,x.get h2,h3.ext x],h.ll,h.sz,h.cl]
def M3:Spec:=λus S Q _=>∃T a R told,us=[.loc T,.loc a,.loc R]/\S[T]?=some (.ins "Table" [])/\S[a]?=some (.lst (told.map uN))/\∀k S',Old T S S'->S'[T]?=some (M0 k told R)->S'[k]?=some (.lst (told.map uN))->Q .bV S'
theorem Vp(Γ:bT):Keeps Γ kG 0 M3:=by
 rintro us S Q E ⟨T,a,R,told,rfl,hT,ha,q⟩;unfold kG;have ne:a≠T:=λz=>by rw[z,hT] at ha;cases ha
 room;rw[ha,aD]
 have x1:Ext S (S++[SO.lst (told.map uN)]):=Ext.app _;have g1:(S++[SO.lst (told.map uN)])[S.length]?=some (.lst (told.map uN)):=by simp
 have n1:S.length≠T:=cZ (aZ hT);generalize S.length=k at g1 n1;generalize S++[SO.lst (told.map uN)]=S1 at x1 g1;rwa[FK (x1.get hT) (by simp) λS2 o2 l2 g2=>?_]
 room;rw[nU o2 (x1.get ha) ne,aD]
 rwa[FK g2 (by simp[gV]) λS3 o3 l3 g3=>?_]
 room;rwa[FK g3 (by simp[gV]) λS4 o4 l4 g4=>?_]
 room;erw[q k S4 (((Ext.old x1).trans o2).trans (o3.trans o4)) g4 (nU o4 (nU o3 (nU o2 g1 n1) n1) n1)]
def FR:Spec:=λus S Q _=>∃T told ls go j c,us=[.loc T,ba j,.str [c]]/\FQ S T told ls go/\j<told.length/\c∈SG/\Q (uN (go j c)) S
theorem Q8{S:bj}{T k R:Nat}{told:List (Option Nat)}{r:U->Prop}(h:S[T]?=some (M0 k told R)):nN (.loc T) "rows" S r=r (.loc R):=by rw[iC,h];rfl
theorem Q9{S:bj}{T k R:Nat}{told:List (Option Nat)}{r:U->Prop}(h:S[T]?=some (M0 k told R)):nN (.loc T) "told" S r=r (.tup (told.map uN)):=by rw[iC,h];rfl
theorem Yy{S:bj}{T k R:Nat}{told:List (Option Nat)}{r:U->Prop}(h:S[T]?=some (M0 k told R)):nN (.loc T) "takes" S r=r (.loc k):=by rw[iC,h];rfl
theorem at_of{α:Type}{f:α->U}{l:List α}{j:Nat}{a:α}{r:U->Prop}(h:l[j]?=some a)(z:r (f a)):opt (sk (l.map f) ((j:Nat):Int)) r:=by
 rw[jb,aC,h];erw[z]
theorem Vq(Γ:bT):Keeps Γ kH 0 FR:=by
 rintro us S Q E ⟨T,told,ls,go,j,c,rfl,h,hj,hc,q⟩;unfold kH;let#[k,R,h1,h2,h3]:=h.o;have hl:=h.ll;room;rw[Q8 h1]
 room;rw[h3.l,aD]
 have hd:=aa (show j<ls.length by omega);have dd:=h3.d j _ hd;rwa[at_of hd ?_];refine#[by show iU S[_]? _;rw[dd];trivial,?_];show iU S[_]? _;rw[dd]
 refine#[rfl,?_];rw[Eh,vK,if_pos hc]
 cases e:go j c<;>rw[e] at q<;>exact q
noncomputable def sY(go:Nat->Nat->Option Nat)(x:List Nat):Option Nat:=x.foldl (λs c=>s.bind λj=>go j c) (some 0)
theorem rL{go:Nat->Nat->Option Nat}{x:List Nat}{c:Nat}:sY go (x++[c])=(sY go x).bind λj=>go j c:=by unfold sY;rw[fq];rfl
theorem A6{go:Nat->Nat->Option Nat}{x:List Nat}{k:Nat}(h:sY go (x.take k)=none):sY go x=none:=by
 have:∀y:List Nat,y.foldl (λs c=>s.bind λj=>go j c) (none:Option Nat)=none:=λy=>by
  induction y with
  |nil=>rfl
  |cons a y ih=>erw[ih]
 rw[<-BE k x]
 unfold sY at h ⊢;rw[fq,h,this]
theorem zj{S:bj}{T j:Nat}{told:List (Option Nat)}{ls:List Nat}{go:Nat->Nat->Option Nat}(h:FQ S T told ls go)(h0:0<told.length):∀(x:List Nat),(∀c∈x,c∈SG)->sY go x=some j->j<told.length:=by
 intro x hx e;rcases gw x with rfl|⟨y,c,rfl⟩
 .have:0=j:=by simpa[sY] using e
  omega
 .rw[gx,rL] at e
  let#[i,_,e]:=aA.mp e;erw[h.cl i c j (hx c (by simp)) e]
noncomputable def fst(told:List (Option Nat))(go:Nat->Nat->Option Nat)(x:List Nat):Option Nat:=(sY go x).bind λj=>told.getD j none
def JM:Spec:=λus S Q _=>∃T told ls go x,us=[.loc T,.str x]/\FQ S T told ls go/\0<told.length/\(∀c∈x,c∈SG)/\Q (uN (fst told go x)) S
theorem Vr(Γ:bT)(h1:Γ "Table.goes"=FR):Keeps Γ j5 2 JM:=by
 rintro us S Q E ⟨T,told,ls,go,x,rfl,h,h0,hx,q⟩;unfold j5;let#[k,R,hT,h2,h3]:=h.o;room;rwa[cQ (λi env S1=>S1=S/\∃(j:Nat)(x3:Option U),env=[some (.loc T),some (.str x),some (ba j),x3]/\sY go (x.take i)=some j) (λ_ _ _ _=>trivial) _ ?_ ?_ #[rfl,0,none,rfl,rfl]]
 .rintro i u env S1 K hu ⟨rfl,j,x3,rfl,inv⟩ hK
  let#[c,hc,rfl]:=fj hu;have jl:=zj h h0 _ (λc m=>hx c (Dh m)) inv;have tn:sY go (x.take (i+1))=go j c:=by rw[take_snoc hc,rL,inv];rfl
  room;have hT':=hT;unfold M0 at hT';rw[hT',bL]
  refine#[#[rfl,rfl],ca h1 #[T,told,ls,go,j,c,rfl,h,jl,hx c (ao hc),?_]];room;cases e:go j c with
  |none=>
   rw[e] at tn;dsimp[uN,oB,if_true];room;unfold fst at q;rw[A6 tn] at q;erw[q]
  |some j'=>
   rw[e] at tn;dsimp[uN,oB,ak,if_false];room;erw[hK _ _ #[rfl,j',_,rfl,tn]]
 .rintro env S1 ⟨rfl,j,x3,rfl,inv⟩
  rw[ah,bP] at inv;have jl:=zj h h0 _ hx inv;have sz:=h.sz;room;rw[Q9 hT]
  room;refine#[by simp;omega,at_of (aa jl) ?_];unfold fst at q;rw[inv] at q;have:told.getD j none=told[j]:=by rw[aT,aa jl];rfl
  rw[sW,this] at q;erw[q]
theorem Ek{S S':bj}{o:SO}(h:Old S.length (S++[o]) S'):Ext S S':=by
 have l:=h.1;rw[ax] at l;exact#[aP (nI _ _) l,λn hn=>by rw[h.2 n (by rw[ax];erw[az hn (nI _ _)]) (aX hn),ag hn]]
section
variable{tk:Nat->Nat}{Ls G:List Nat}{r h c:Nat}
noncomputable def gz(tk:Nat->Nat)(Ls:List Nat)(r c:Nat):Option Nat:=if r&&&tk c=0 then none else some (Ls.idxOf (r&&&tk c))
theorem Ra(z:r&&&tk c=0\/r&&&tk c∈Ls):gz tk (Ls++[h]) r c=gz tk Ls r c:=by
 unfold gz;rcases z with z|z
 .rw[if_pos z,if_pos z]
 .rw[pE z]
theorem A7(z:∀c∈G,r&&&tk c=0\/r&&&tk c∈Ls):dO G (gz tk (Ls++[h]) r)=dO G (gz tk Ls r):=by
 unfold dO;induction G with
 |nil=>rfl
 |cons x G ih=>rw[cg,cg,Ra (z x (aO ..)),ih λc m=>z c (aB _ m)]
theorem M4{f:Nat->Option Nat}(e:f c=none):dO (G++[c]) f=dO G f:=by
 unfold dO;rw[BF];simp[e]
theorem M5{f:Nat->Option Nat}{k:Nat}(e:f c=some k):sD (dO (G++[c]) f)=sD (dO G f)++[(.str [c],ba k)]:=by
 unfold dO sD;rw[BF,aJ];simp[e]
noncomputable def nz(Ls:List Nat):List (U×U):=(dz Ls 0).map λp=>(ba p.1,p.2)
theorem Rb:(nz Ls).length=Ls.length:=by unfold nz;rw[ah,ze]
theorem Rc:nz (Ls++[h])=nz Ls++[(ba h,ba Ls.length)]:=by unfold nz;rw[JC,aJ,oo];rfl
theorem zk:u5 (ba h) (nz Ls)=if h∈Ls then some (ba (Ls.idxOf h)) else none:=by
 have e:nz Ls=((dz Ls 0).map λp=>(some p.1,p.2)).map λp=>(uN p.1,p.2):=by unfold nz;rw[bq];rfl
 have:=JD (some h) ((dz Ls 0).map λp=>(some p.1,p.2));rw[e,show ba h=uN (some h) from rfl,this,JA some (λ_ _=>aH),zf,oo]
end
structure A8(S S1:bj)(tk:Nat->Nat)(Ls rs ds:List Nat):Prop where
 x:Ext S S1
 l:S1[S.length]?=some (.lst (Ls.map ba))
 n:S1[S.length+1]?=some (.eL (nz Ls))
 r:S1[S.length+2]?=some (.lst (ds.map .loc))
 d:∀(j d r:Nat),ds[j]?=some d->rs[j]?=some r->S.length+3<=d/\S1[d]?=some (.eL (sD (dO SG (gz tk Ls r))))
 m:∀r∈rs,∀c∈SG,r&&&tk c=0\/r&&&tk c∈Ls
 nd:Ls.Nodup
theorem A8.set{S S1:bj}{tk:Nat->Nat}{Ls rs ds:List Nat}{d0:Nat}{o:SO}(h:A8 S S1 tk Ls rs ds)(hd:S.length+3<=d0)(hn:∀(j r:Nat),rs[j]?=some r->ds[j]?≠some d0):A8 S (S1.set d0 o) tk Ls rs ds:=by
 have e:∀(n:Nat)(o':SO),n≠d0->S1[n]?=some o'->(S1.set d0 o)[n]?=some o':=λn o' ne g=>by rw[af (cA ne)];erw[g]
 exact#[#[by rw[cq];erw[h.x.1],λn hn=>by rw[af ∅];erw[h.x.2 n hn]],e _ _ ∅ h.l,e _ _ ∅ h.n,e _ _ ∅ h.r,λj d r h1 h2=>#[(h.d j d r h1 h2).1,e _ _ (λz=>hn j r h2 (z▸h1)) (h.d j d r h1 h2).2],h.m,h.nd]
theorem A8.ext{S S1 S2:bj}{tk:Nat->Nat}{Ls rs ds:List Nat}(h:A8 S S1 tk Ls rs ds)(x:Ext S1 S2):A8 S S2 tk Ls rs ds:=
 #[h.x.trans x,x.get h.l,x.get h.n,x.get h.r,λj d r h1 h2=>#[(h.d j d r h1 h2).1,x.get (h.d j d r h1 h2).2],h.m,h.nd]
theorem A8.more{S S1:bj}{tk:Nat->Nat}{Ls rs ds:List Nat}{h:Nat}(a:A8 S S1 tk Ls rs ds)(hn:h∉Ls):A8 S ((S1.set (S.length+1) (.eL (nz Ls++[(ba h,ba Ls.length)]))).set S.length (.lst (Ls.map ba++[ba h]))) tk (Ls++[h]) rs ds:=by
 have e:∀(n:Nat)(o o1 o2:SO),n≠S.length->n≠S.length+1->S1[n]?=some o->((S1.set (S.length+1) o1).set S.length o2)[n]?=some o:=λn o o1 o2 n1 n2 g=>by rw[af (cA n1),af (cA n2)];erw[g]
 have l1:=aZ a.n;refine#[#[by rw[cq,cq];erw[a.x.1],λn hn=>by rw[af ∅,af ∅];erw[a.x.2 n hn]],?_,?_,e _ _ _ _ ∅ ∅ a.r,λj d r h1 h2=>?_,λr m c hc=>?_,?_]
 .rw[bF (by rw[cq];omega)];simp
 .rw[af ∅,bF l1,Rc]
 .let#[z1,z2]:=a.d j d r h1 h2
  exact#[z1,by rw[A7 (a.m r (ao h2))];erw[e _ _ _ _ ∅ ∅ z2]]
 .rcases a.m r m c hc with z|z
  .erw[.inl z]
  .erw[.inr (by simp[z])]
 .rw[dM]
  exact#[a.nd,by simp,λx hx y hy=>by rw[bS.mp hy];erw[λz=>hn (z▸hx)]]
theorem JN:SG.Nodup:=⋯
theorem Vs(Γ:bT){S S1:bj}{P r d0 m c:Nat}{bh en Ls rs ds:List Nat}{tk:Nat->Nat}{x7:Option U}{K:Env->bj->Prop}{Q:KU}{E:Env->KX}(pa:Jk S P bh en tk)(I:A8 S S1 tk Ls rs ds)(g0:S1[d0]?=some (.eL (sD (dO (SG.take m) (gz tk Ls r)))))(hd0:S.length+3<=d0)(hds:∀(j r:Nat),rs[j]?=some r->ds[j]?≠some d0)(hc:SG[m]?=some c)(hm:∀c∈SG.take m,r&&&tk c=0\/r&&&tk c∈Ls)(lt:Ls.length<=4000)
  (q:∀Ls' S2,A8 S S2 tk Ls' rs ds->S2[d0]?=some (.eL (sD (dO (SG.take (m+1)) (gz tk Ls' r))))->(∀c∈SG.take (m+1),r&&&tk c=0\/r&&&tk c∈Ls')->(Ls'=Ls\/Ls'=Ls++[r&&&tk c])->K [some (.loc P),some (.loc S.length),some (.loc (S.length+1)),some (.loc (S.length+2)),some (ba r),some (.loc d0),some (.str [c]),some (ba (r&&&tk c))] S2):
  Rest Γ XQ #[K,Q,E] [some (.loc P),some (.loc S.length),some (.loc (S.length+1)),some (.loc (S.length+2)),some (ba r),some (.loc d0),some (.str [c]),x7] S1:=by
 let#[b,e,k,oP,_,_,gk]:=(pa.ext I.x).o;have fk:∀{R},nN (.loc P) "takers" S1 R=R (.loc k):=by intro R;rw[iC,oP];rfl
 have cm:=ao hc;have et:=Jf hc;have nm:c∉SG.take m:=λz=>by
  let#[i,hi]:=bA z;have il:=(ae.mp hi).1;rw[dE] at il;rw[zw ∅] at hi;have:=(List.getElem?_inj ∅ JN).mp (hi.trans hc.symm);omega
 rw[et] at q;have rl:(sD (dO (SG.take m) (gz tk Ls r))).length<1000000:=by
  have:(dO (SG.take m) (gz tk Ls r)).length<=(SG.take m).length:=List.length_filterMap_le ..;rw[dE] at this;have gl:SG.length=95:=rfl;unfold sD;rw[ah];omega
 have dn:∀f:Nat->Option Nat,u5 (.str [c]) (sD (dO (SG.take m) f))=none:=λf=>by rw[Eh,vK,if_neg nm]
 unfold XQ;room;rw[fk]
 room;rw[gk,kJ,zg cm,bp]
 refine#[rfl,?_];rw[uc]
 generalize hh:r&&&tk c=h at *;have go2:∀(Ls':List Nat)(S2:bj),A8 S S2 tk Ls' rs ds->S2[d0]?=some (.eL (sD (dO (SG.take m) (gz tk Ls' r))))->sD (dO (SG.take m) (gz tk Ls' r))=sD (dO (SG.take m) (gz tk Ls r))->(∀c∈SG.take m,r&&&tk c=0\/r&&&tk c∈Ls')->(Ls'=Ls\/Ls'=Ls++[h])->h≠0->h∈Ls'->Rest Γ V5 #[K,Q,E] [some (.loc P),some (.loc S.length),some (.loc (S.length+1)),some (.loc (S.length+2)),some (ba r),some (.loc d0),some (.str [c]),some (ba h)] S2:=by
  intro Ls' S2 I2 g2 e2 m2 l2 h0 hl;have:((h:Int)== 0)=false:=by rw[beq_eq_false_iff_ne];omega
  unfold V5;room;dsimp[this,bM,if_true];room;rw[I2.n,kJ,zk,if_pos hl,bp]
  refine#[rfl,?_];rw[g2,getD_some]
  refine#[#[rfl,dn _,by rw[e2];erw[rl]],?_];room;rwa[q Ls' _ (I2.set hd0 hds) ?_ (λc' hc'=>?_) l2]
  .rw[gs g2,M5 (k:=Ls'.idxOf h) (by unfold gz;rw[hh,if_neg h0])]
  .rcases aI.mp hc' with z|z
   .erw[m2 c' z]
   .have:c'=c:=by simpa using z
    subst this;erw[.inr (by rw[hh];exact hl)]
 room;by_cases z:h=0
 .subst z
  have z0:(((0:Nat):Int)== 0)=true:=rfl;dsimp[z0,bz,ak,if_false];unfold V5;room;rwa[q Ls _ I (by rw[M4 (by unfold gz;rw[hh,if_pos rfl])];erw[g0]) (λc' hc'=>?_) (.inl rfl)];rcases aI.mp hc' with z|z
  .erw[hm c' z]
  .have:c'=c:=by simpa using z
   subst this;erw[.inl hh]
 .have z':((h:Int)== 0)=false:=by rw[beq_eq_false_iff_ne];omega
  dsimp[z',bM,if_true];rw[I.n,kJ,zk]
  refine#[rfl,?_];by_cases y:h∈Ls
  .rw[if_pos y]
   dsimp[Option.isNone_some,ak,if_false];erw[Rest.go (go2 Ls S1 I g0 rfl hm (.inl rfl) z y)]
  .rw[if_neg y]
   dsimp[Option.isNone_none,if_true];room;rw[nE I.l,bp,ah]
   refine#[∅,?_];rw[I.n,getD_some]
   refine#[#[rfl,by rw[zk,if_neg y],by rw[Rb];omega],?_];have l1:(S1.set (S.length+1) (.eL (nz Ls++[(ba h,ba Ls.length)])))[S.length]?=some (.lst (Ls.map ba)):=by rw[af ∅];erw[I.l]
   room;rw[l1,aD]
   refine#[trivial,by simp;omega,?_];have eq:=A7 (h:=h) hm;rwa[Rest.go (go2 (Ls++[h]) _ (I.more y) ?_ (by rw[eq]) (λc' m'=>(hm c' m').imp id λz=>by simp[z]) (.inr rfl) z (by simp))];rw[eq,af ∅,af ∅]
   erw[g0]
theorem A8.push{S S1:bj}{tk:Nat->Nat}{Ls rs ds:List Nat}{d0 r:Nat}(a:A8 S S1 tk Ls rs ds)(g0:S1[d0]?=some (.eL (sD (dO SG (gz tk Ls r)))))(hd:S.length+3<=d0)(hm:∀c∈SG,r&&&tk c=0\/r&&&tk c∈Ls)(hl:ds.length=rs.length):A8 S (S1.set (S.length+2) (.lst (ds.map .loc++[.loc d0]))) tk Ls (rs++[r]) (ds++[d0]):=by
 have e:∀(n:Nat)(o o':SO),n≠S.length+2->S1[n]?=some o'->(S1.set (S.length+2) o)[n]?=some o':=λn o o' ne g=>by rw[af (cA ne)];erw[g]
 refine#[#[by rw[cq];erw[a.x.1],λn hn=>by rw[af ∅];erw[a.x.2 n hn]],e _ _ _ ∅ a.l,e _ _ _ ∅ a.n,by rw[gs a.r];simp,λj d r' h1 h2=>?_,λr' m=>?_,a.nd]
 .by_cases hj:j<ds.length
  .rw[ag hj] at h1
   rw[ag ∅] at h2;let#[z1,z2]:=a.d j d r' h1 h2;exact#[z1,e _ _ _ ∅ z2]
  .have:=(ae.mp h1).1
   have ej:j=ds.length:=by simp at this;omega
   subst ej;have e1:d0=d:=by simpa using h1
   have e2:r=r':=by rw[hl] at h2;simpa using h2
   subst e1;subst e2;exact#[hd,e _ _ _ ∅ g0]
 .rcases aI.mp m with m|m
  .erw[a.m r' m]
  .have:r'=r:=by simpa using m
   subst this;erw[hm]
noncomputable def FT(tk:Nat->Nat)(Ls rs:List Nat)(j c:Nat):Option Nat:=(rs[j]?).bind λr=>gz tk Ls r c
theorem C5{tk:Nat->Nat}{Ls rs:List Nat}{j r:Nat}(h:rs[j]?=some r):FT tk Ls rs j=gz tk Ls r:=by
 funext c;unfold FT;rw[h];rfl
structure Wj(bh en:List Nat)(tk:Nat->Nat)(lots rs:List Nat)(told:List (Option Nat)):Prop where
 z:lots[0]?=some 1
 t:∀(j h:Nat),lots[j]?=some h->∃o,told[j]?=some o/\Wg h en o
 len:told.length=lots.length
 b:∀(j h:Nat),lots[j]?=some h->∃r,rs[j]?=some r/\QG bh h r
 m:∀r∈rs,∀c∈SG,r&&&tk c=0\/r&&&tk c∈lots
structure DC(bh:List Nat)(D:Nat->Prop):Prop where
 l:bh.length<=11
 c:∀(q B p:Nat),D q->bh[q]?=some B->B.testBit p=true->D p
 b:∀p,D p->p<bh.length
def Rf:Spec:=λus S Q _=>∃P bh en tk,∃D:Nat->Prop,us=[.loc P]/\Jk S P bh en tk/\DC bh D/\D 0 /\
 ∀T told ls lots rs S',FQ S' T told ls (FT tk lots rs)->(∀d∈ls,S.length<=d)->Ext S S'->Wj bh en tk lots rs told->Q (.loc T) S'
theorem zm{α:Type}{l:List α}{x y:α}{k:Nat}(h:(l++[x])[k]?=some y):l[k]?=some y\/(k=l.length/\x=y):=by
 by_cases z:k<l.length
 .rw[ag z] at h;erw[.inl h]
 .have:=aZ h
  have e:k=l.length:=by simp at this;omega
  subst e;exact .inr #[rfl,by simpa using h]
structure Vt(S S1:bj)(tk:Nat->Nat)(bh:List Nat)(D:Nat->Prop)(Ls rs ds:List Nat):Prop where
 s:A8 S S1 tk Ls rs ds
 dl:ds.length=rs.length
 le:ds.length<=Ls.length
 z:Ls[0]?=some 1
 d:∀h∈Ls,∀p,h.testBit p=true->D p
 b:∀(j r:Nat),rs[j]?=some r->∃h,Ls[j]?=some h/\QG bh h r
theorem rM{bh L:List Nat}{D:Nat->Prop}(C:DC bh D)(nd:L.Nodup)(hL:∀h∈L,∀p,h.testBit p=true->D p):L.length<=2048:=by
 have:=za (l':=cf 2048) nd λx hx=>pO.mpr (az (jI λp hp=>C.b p (hL x hx p hp)) (show 2^bh.length<=2048 from bw (n:=2) (j:=11) ⋯ C.l))
 simpa using this
theorem Rg(Γ:bT)(h1:Γ "Places.beyond"=Jm){S S1:bj}{P:Nat}{bh en Ls rs ds:List Nat}{tk:Nat->Nat}{D:Nat->Prop}{x4 x5 x6 x7:Option U}{K:Env->bj->Prop}{Q:KU}{E:Env->KX}(pa:Jk S P bh en tk)(C:DC bh D)(J:Vt S S1 tk bh D Ls rs ds)(dl:ds.length<Ls.length)
  (q:∀Ls rs ds' S2 x4 x5 x6 x7,Vt S S2 tk bh D Ls rs ds'->ds'.length=ds.length+1->K [some (.loc P),some (.loc S.length),some (.loc (S.length+1)),some (.loc (S.length+2)),x4,x5,x6,x7] S2):
  Rest Γ XR #[K,Q,E] [some (.loc P),some (.loc S.length),some (.loc (S.length+1)),some (.loc (S.length+2)),x4,x5,x6,x7] S1:=by
 let#[I,hl,hle,hz,hD,hb]:=J;have hh:=aa dl;generalize Ls[ds.length]=h at hh;have lb:=rM C I.nd hD;let#[b,e,k,oP,_]:=(pa.ext I.x).o;unfold XR;room;rw[oP,bL,I.l,nE I.r]
 dsimp[bp,aD,ah];refine#[#[trivial,rfl],∅,at_of hh ?_];refine ca h1 #[P,bh,en,tk,h,rfl,pa.ext I.x,aP C.l ⋯,λp hp=>C.b p (hD h (ao hh) p hp),λr S2 hr x2=>?_];have Dr:∀p,r.testBit p=true->D p:=λp hp=>by
  let#[q,B,z1,z2,z3]:=(hr p).mp hp;erw[C.c q B p (hD h (ao hh) q z1) z2 z3]
 room;rw[vd]
 refine#[⋯,.inl ?_];have I3:=I.ext (x2.trans (Ext.app [SO.eL []]));have g3:(S2++[SO.eL []])[S2.length]?=some (.eL (sD (dO (SG.take 0) (gz tk Ls r)))):=by simp;rfl
 have d3:S.length+3<=S2.length:=by have:=aZ I.r;have:=x2.1;omega
 have n3:∀(j r:Nat),rs[j]?=some r->ds[j]?≠some S2.length:=λj r hj z=>by
  have:=aZ (I.d j _ r z hj).2;have:=x2.1;omega
 generalize S2.length=d0 at g3 d3 n3;generalize S2++[SO.eL []]=S3 at I3 g3;have sgl:SG.length=95:=rfl;have sit:∀(i:Nat)(u:U),(SG.map λc=>U.str [c])[i]?=some u->∃c,SG[i]?=some c/\u=.str [c]:=λi u hu=>by
  let#[c,hc,rfl]:=fj hu;exact#[c,hc,rfl]
 have sl:(SG.map λc=>U.str [c]).length=95:=rfl;rwa[Rest.go ?_];rw[HL,TH,TC,w_lit,v_s]
 generalize hM:(SG.map λc=>U.str [c])=M at sit sl;rwa[cQ (λm env S4=>∃(Ls':List Nat)(x6 x7:Option U),env=[some (.loc P),some (.loc S.length),some (.loc (S.length+1)),some (.loc (S.length+2)),some (ba r),some (.loc d0),x6,x7]/\A8 S S4 tk Ls' rs ds/\S4[d0]?=some (.eL (sD (dO (SG.take m) (gz tk Ls' r))))/\(∀c∈SG.take m,r&&&tk c=0\/r&&&tk c∈Ls')/\(∃s,Ls'=Ls++s)/\∀h∈Ls',∀p,h.testBit p=true->D p) (λ_ _ _ _=>trivial) M ?_ ?_ #[Ls,x6,x7,rfl,I3,g3,by simp,#[[],by simp],hD]]
 .rintro m u env S4 K' hu ⟨Ls',x6,x7,rfl,I4,g4,m4,⟨s,es⟩,D4⟩ hK
  let#[c,hc,rfl]:=sit m u hu;rwa[Vs Γ pa I4 g4 d3 n3 hc m4 (aP (rM C I4.nd D4) ⋯) λLs2 S5 I5 g5 m5 l5=>hK _ _ #[Ls2,_,_,rfl,I5,g5,m5,?_,?_]]
  .rcases l5 with rfl|rfl
   .exact#[s,es]
   .exact#[s++[_],by rw[es,bQ]]
  .rcases l5 with rfl|rfl
   .erw[D4]
   .intro h' m' p hp
    rcases aI.mp m' with m'|m'
    .erw[D4 h' m' p hp]
    .have:h'=r&&&tk c:=by simpa using m'
     subst this;rw[cG,aj] at hp;erw[Dr p hp.1]
 .rintro env S4 ⟨Ls',x6,x7,rfl,I4,g4,m4,hs,D4⟩
  have et:SG.take M.length=SG:=by rw[sl];rfl
  rw[et] at g4 m4;room;rw[I4.r,aD]
  dsimp[true_and];refine#[by simp;omega,?_];try room
  let#[s,es]:=hs;rwa[q Ls' _ _ _ _ _ _ _ #[I4.push g4 d3 m4 hl,by simp[hl],by rw[es,ax,ax];erw[aP dl (nI _ _)],by rw[es,ag (lO (cw _) dl)];erw[hz],D4,λj r' hj=>?_] (by simp)];rcases zm hj with hj|⟨rfl,rfl⟩
  .let#[h,e1,e2]:=hb j r' hj
   exact#[h,by rw[es,ag (aZ e1)];erw[e1],e2]
  .exact#[h,by rw[es,<-hl,ag dl];erw[hh],hr]
theorem Rh(Γ:bT)(h2:Γ "Places.first_rule"=Jn)(h3:Γ "Table.__init__"=M3){S S1:bj}{P:Nat}{bh en Ls rs ds:List Nat}{tk:Nat->Nat}{D:Nat->Prop}{x4 x5 x6 x7:Option U}{F:Ends}(pa:Jk S P bh en tk)(C:DC bh D)(J:Vt S S1 tk bh D Ls rs ds)(el:Ls.length<=ds.length)
  (q:∀T told ls lots rs S',FQ S' T told ls (FT tk lots rs)->(∀d∈ls,S.length<=d)->Ext S S'->Wj bh en tk lots rs told->F.rt (.loc T) S'):
  Rest Γ XS F [some (.loc P),some (.loc S.length),some (.loc (S.length+1)),some (.loc (S.length+2)),x4,x5,x6,x7] S1:=by
 let#[I,hl,hle,hz,hD,inv]:=J;have lb:=rM C I.nd hD;have pa1:=pa.ext I.x;let#[b,e,k,oP,_]:=pa1.o;have rat:∀{j:Nat},j<Ls.length->rs[j]?=some (rs.getD j 0):=λ{j}h=>by rw[aT,aa (hl▸az h el)];rfl
 unfold XS;room;rw[I.l,aD]
 rwa[gH (Ls.map ba) (λi acc S2=>S2=S1/\∃told:List (Option Nat),acc=told.map uN/\told.length=i/\∀(j h:Nat),j<i->Ls[j]?=some h->∃o,told[j]?=some o/\Wg h en o) (λi acc S2 hi h9=>?_) (λi u acc S2 k hu hi hk=>?_) (λacc S2 hI=>?_) #[rfl,[],rfl,rfl,λj h hj=>absurd hj (dX j)]]
 .let#[x,told,e1,e2,_]:=h9
  rw[ah] at hi;exact#[x▸I.l,by rw[e1,ah];omega]
 .let#[rfl,told,rfl,e2,inv2]:=hi
  let#[h,hh,rfl]:=fj hu;rw[if_pos rfl,oP,bL]
  refine#[#[rfl,rfl],ca h2 #[P,bh,en,tk,h,rfl,pa1,λo ho=>hk _ _ #[rfl,told++[o],by simp,by simp[e2],λj h' hj hh'=>?_]]];rcases mG.mp hj with y|y
  .let#[o',z1,z2]:=inv2 j h' y hh'
   exact#[o',by rw[ag (e2▸y)];erw[z1],z2]
  .subst y
   rw[hh] at hh';cases hh';exact#[o,by rw[<-e2];simp,ho]
 .let#[rfl,told,rfl,e2,inv2]:=hI
  rw[ah] at e2 inv2;have x3:Ext S2 (S2++[SO.lst (told.map uN)]):=Ext.app _;have g3:(S2++[SO.lst (told.map uN)])[S2.length]?=some (.lst (told.map uN)):=by simp
  have I3:=I.ext x3;generalize S2.length=a at g3;generalize S2++[SO.lst (told.map uN)]=S3 at I3 g3;rwa[ca h3 #[S3.length,a,_,told,rfl,vX,(Ext.app _).get g3,λk' S4 o4 gT gk=>#[rfl,?_]]];have y4:Ext S3 S4:=Ek o4;rwa[q _ told ds Ls rs S4 #[#[k',_,gT,gk,y4.get I3.r,λj d hj=>?_,λj c hj=>?_],∅,∅,λj c k hc e=>?_] (λd m=>?_) (I3.x.trans y4) #[hz,λj h hj=>inv2 j h (aZ hj) hj,e2,λj h hj=>?_,I.m]]
  .have hr:=rat (az (aZ hj) hle)
   rw[C5 hr]
   erw[y4.get (I3.d j d _ hj hr).2]
  .unfold FT;rw[dD (hl▸hj)];rfl
  .unfold FT at e
   let#[r,hr,e]:=aA.mp e;unfold gz at e;split at e
   .cases e
   .rename_i z
    cases e;rw[e2]
    erw[cC ((I.m r (ao hr) c hc).resolve_left z)]
  .let#[j,hj]:=bA m
   erw[aP (nI _ 3) (I.d j d _ hj (rat (az (aZ hj) hle))).1]
  .have hr:=rat (aZ hj)
   let#[h',e1,e2]:=inv j _ hr;rw[hj] at e1;cases e1;exact#[_,hr,e2]
theorem Vu(Γ:bT)(h1:Γ "Places.beyond"=Jm)(h2:Γ "Places.first_rule"=Jn)(h3:Γ "Table.__init__"=M3):Keeps Γ qX 7 Rf:=by
 rintro us S Q E ⟨P,bh,en,tk,D,rfl,pa,C,D0,q⟩;unfold qX;room;refine#[by simp,?_];room;rw[show ∀env S' Q' E',WE Γ (.eL (.cons ↑1 .nil) (.cons ↑0 .nil)) env S' Q' E'=([U.int 1].length<=100/\mP (.int 1)=true/\∃v,[U.int 0]=[v]/\Q' (.loc S'.length) (S'++[.eL [(.int 1,v)]])) from λ_ _ _ _=>rfl]
 refine#[by simp,rfl,_,rfl,?_];room;refine#[by simp,?_];have ls0:(S++[SO.lst [U.int 1]]).length=S.length+1:=by simp
 have ls1:(S++[SO.lst [U.int 1]]++[SO.eL [(U.int 1,U.int 0)]]).length=S.length+2:=by simp
 have I0:Vt S (S++[SO.lst [U.int 1]]++[SO.eL [(U.int 1,U.int 0)]]++[SO.lst []]) tk bh D [1] [] []:=by
  refine#[#[((Ext.app _).trans (Ext.app _)).trans (Ext.app _),?_,?_,?_,by simp,by simp,by simp],rfl,by simp,rfl,λh m p hp=>?_,by simp]
  .exact((Ext.app _).trans (Ext.app _)).get (show(S++[SO.lst [U.int 1]])[S.length]?=_ by simp)
  .exact(Ext.app _).get (show(S++[SO.lst [U.int 1]]++[SO.eL [(U.int 1,U.int 0)]])[S.length+1]?=_ by rw[<-ls0,aw (ar _),bH];rfl)
  .rw[<-ls1,aw (ar _),bH];rfl
  .have:h=1:=by simpa using m
   subst this;rw[gC.mp hp]
   erw[D0]
 rw[ls0,ls1]
 generalize S++[SO.lst [U.int 1]]++[SO.eL [(U.int 1,U.int 0)]]++[SO.lst []]=S0 at I0;rwa[Rest.go ?_];rw[HL,TF]
 refine#[2050,pA (λN env S1=>∃(Ls rs ds:List Nat)(x4 x5 x6 x7:Option U),N=2048-ds.length/\env=[some (.loc P),some (.loc S.length),some (.loc (S.length+1)),some (.loc (S.length+2)),x4,x5,x6,x7]/\Vt S S1 tk bh D Ls rs ds) ?_ _ 2048 _ _ ⋯ #[[1],[],[],none,none,none,none,rfl,rfl,I0]];rintro N env S1 K ⟨Ls,rs,ds,x4,x5,x6,x7,rfl,rfl,J⟩ hK;have lb:=rM C J.s.nd J.d;have dl:=J.le;room;rw[nE J.s.r,nE J.s.l]
 dsimp[bp,ah];refine#[∅,∅,?_];by_cases z:ds.length<Ls.length
 .have:((ds.length:Int)<(Ls.length:Int)):=Int.ofNat_lt.mpr z
  dsimp[this,decide_true,if_true];erw[Rg Γ h1 pa C J z λLs' rs' ds' S2 x4 x5 x6 x7 J2 e=>hK (2048-ds'.length) _ _ ∅ #[Ls',rs',ds',x4,x5,x6,x7,rfl,rfl,J2]]
 .have:¬((ds.length:Int)<(Ls.length:Int)):=λy=>z (Int.ofNat_lt.mp y)
  dsimp[this,decide_false,ak,if_false];erw[Rh Γ h2 h3 pa C J (nG z) q]
section
variable{S S1 S2:bj}{X:List Nat}
def Kp(X:List Nat)(S S1:bj):Prop:=S.length<=S1.length/\∀n,n<S.length->n∉X->S1[n]?=S[n]?
theorem Kp.refl:Kp X S S:=#[ar _,λ_ _ _=>rfl]
theorem Kp.trans(a:Kp X S S1)(b:Kp X S1 S2):Kp X S S2:=#[aP a.1 b.1,λn h ne=>(b.2 n (az h a.1) ne).trans (a.2 n h ne)]
theorem Ext.kp(a:Ext S S1):Kp X S S1:=#[a.1,λn h _=>a.2 n h]
theorem Kp.set{n:Nat}{o:SO}(m:n∈X):Kp X S (S.set n o):=#[by rw[cq];erw[ar _],λk _ ne=>by rw[af λ(z:n=k)=>ne (by rw[<-z];erw[m])]]
theorem Kp.get{n:Nat}{o:SO}(a:Kp X S S1)(h:S[n]?=some o)(m:n∉X):S1[n]?=some o:=(a.2 n (aZ h) m).trans h
end
theorem El(f:Nat->Option Nat)(h:Nat->Nat):∀G:List Nat,∃ps:List (Nat×Nat),dO G f=ps.map (λp=>([p.1],ba p.2))/\dO G (λc=>(f c).map h)=ps.map (λp=>([p.1],ba (h p.2)))/\(∀p∈ps,p.1∈G/\f p.1=some p.2)/\(G.Nodup->(ps.map (·.1)).Nodup)/\ps.length<=G.length
 |[]=>#[[],rfl,rfl,by simp,by simp,by simp]
 |x::G=>by
  let#[ps,h1,h2,h3,h4,h5]:=El f h G;unfold dO at h1 h2 ⊢;cases e:f x with
  |none=>exact#[ps,by simp[e,h1],by rw[cg];dsimp[e,tZ];erw[h2],λp m=>#[aB _ (h3 p m).1,(h3 p m).2],λnd=>h4 (eV.mp nd).2,by simp;omega]
  |some k=>
   refine#[(x,k)::ps,by simp[e,h1],by rw[cg];dsimp[e,kj,ay];rw[h2],λp m=>?_,λnd=>?_,by simp;omega]
   .rcases aR.mp m with rfl|m
    .exact#[aO ..,e]
    .exact#[aB _ (h3 p m).1,(h3 p m).2]
   .let#[n1,n2]:=eV.mp nd
    rw[ay,eV]
    refine#[λz=>?_,h4 n2];let#[p,m,e']:=bB.mp z;have:=(h3 p m).1;rw[show p.1=x from e'] at this;erw[n1 this]
theorem Ri{Γ:bT}{S:bj}{T nb A R d:Nat}{b:List Nat}{f:Nat->Option Nat}{x4:U}{k:KU}{E:KX}(hb:S[nb]?=some (.lst (b.map ba)))(hd:S[d]?=some (.eL (sD (dO SG f)))\/S[d]?=some (.uY (sD (dO SG f))))(hf:∀c k,c∈SG->f c=some k->k<b.length)
  (q:∀m S',Ext (S.set d (.uY (sD (dO SG f)))) S'->S.length<=m->S'[m]?=some (.eL (sD (dO SG λc=>(f c).map λk=>b.getD k 0)))->k (.loc m) S'):WE Γ XT [some (.loc T),some (.loc nb),some (.loc A),some (.loc R),some x4,some (.loc d)] S k E:=by
 unfold XT;have gl:SG.length=95:=rfl;have nd:=JN;let#[ps,e1,e2,e3,e4,e5]:=El f (λk=>b.getD k 0) SG;have lk:∀p∈ps,u5 (.str [p.1]) (sD (dO SG f))=some (ba p.2):=λp m=>by rw[Eh,vK,if_pos (e3 p m).1,(e3 p m).2];rfl
 have kp:∀p∈ps,p.2<b.length:=λp m=>hf p.1 p.2 (e3 p m).1 (e3 p m).2
 rw[e2] at q;have ey:(sD (dO SG f)).map (·.1)=ps.map λp=>U.str [p.1]:=by rw[e1];unfold sD;simp[dk]
 have nd':=e4 nd;generalize dO SG f=rw0 at *;room;have e0:∀R,iU S[d]? R=R (sD rw0):=λR=>by rcases hd with h|h<;>rw[h]<;>rfl
 rw[e0,ey]
 have dl:d<S.length:=by rcases hd with h|h<;>exact aZ h
 have nbd:nb≠d:=λz=>by rcases hd with h|h<;>rw[<-z,hb] at h<;>cases h
 have g1:(S.set d (.uY (sD rw0)))[d]?=some (.uY (sD rw0)):=bF dl;have b1:(S.set d (.uY (sD rw0)))[nb]?=some (.lst (b.map ba)):=by rw[af (cA nbd)];erw[hb]
 have l1:(S.set d (.uY (sD rw0))).length=S.length:=cq;generalize S.set d (.uY (sD rw0))=S1 at g1 b1 q l1;rwa[jm (S:=S1) _ (ps.map λp=>.tup [.str [p.1],ba (b.getD p.2 0)]) (by simp) (by simp;omega) (λS' x=>x.get g1) (λu S' k h=>h) (λj u v hu hv S2 k x' hk=>?_) λS2 x'=>?_]
 .rw[aC] at hu hv
  let#[p,hp,rfl]:=au.mp hu;rw[hp] at hv;have hv:U.tup [.str [p.1],ba (b.getD p.2 0)]=v:=by simpa using hv
  subst hv;have m:=ao hp;rw[x'.get g1]
  refine#[rfl,?_];rw[lk p m]
  show getL S2[nb]? _
  rw[x'.get b1,aD]
  erw[zh (kp p m) #[by simp,hk S2 .refl]]
 .refine#[ps.map λp=>([p.1],ba (b.getD p.2 0)),by simp[dk],?_,?_]
  .have:=nd'
   rw[bq]
   show(ps.map λp=>[p.1]).Nodup
   have e:(ps.map λp=>[p.1])=(ps.map (·.1)).map λc=>[c]:=by rw[bq];rfl
   rw[e]
   erw[wC _ (λa b h z=>h (List.cons.inj z).1) nd']
  .erw[q _ _ (x'.trans ((Ext.app _).trans (Ext.app _))) (by have:=x'.1;rw[ax];omega) (by rw[aw (ar _),bH];rfl)]
structure Wk(told:List (Option Nat))(go:Nat->Nat->Option Nat)(told':List (Option Nat))(go':Nat->Nat->Option Nat)(b reps:List Nat):Prop where
 k:∃m,Gj (told++[none]) (gN told.length go) m b/\∀i j,i<(told++[none]).length->j<(told++[none]).length->Eqv (told++[none]) (gN told.length go) m i j->Eqv (told++[none]) (gN told.length go) (m+1) i j
 a:∀p,p<told.length->b.getD p 0<reps.length
 len:told'.length=reps.length
 r:∀(r p:Nat),reps[r]?=some p->p<told.length/\b.getD p 0=r/\∀p',p'<p->b.getD p' 0<r
 t:∀(r p:Nat),reps[r]?=some p->told'.getD r none=told.getD p none/\∀c,go' r c=(go p c).map λk=>b.getD k 0
noncomputable def RP(go:Nat->Nat->Option Nat)(b reps:List Nat)(r c:Nat):Option Nat:=(reps[r]?).bind λp=>(go p c).map λk=>b.getD k 0
theorem JO{go:Nat->Nat->Option Nat}{b reps:List Nat}{r p:Nat}(h:reps[r]?=some p):RP go b reps r=λc=>(go p c).map λk=>b.getD k 0:=by
 funext c;unfold RP;rw[h];rfl
def Rj:Spec:=λus S Q _=>∃T told ls go B,us=[.loc T]/\FQ S T told ls go/\0<told.length/\(∀d∈ls,B<=d)/\B<=S.length/\∀T' told' ls' go' b reps S',FQ S' T' told' ls' go'->(∀n,n<B->S'[n]?=S[n]?)->S.length<=S'.length->Wk told go told' go' b reps->Q (.loc T') S'
structure M6(S3 S4:bj)(L:Nat)(told:List (Option Nat))(ls:List Nat)(go:Nat->Nat->Option Nat)(b reps ds:List Nat)(i:Nat):Prop where
 k:Kp (L::(L+1)::ls) S3 S4
 a:S4[L]?=some (.lst ((reps.map λp=>told.getD p none).map uN))
 r:S4[L+1]?=some (.lst (ds.map .loc))
 dl:ds.length=reps.length
 od:∀(j d:Nat),ls[j]?=some d->S4[d]?=some (.eL (sD (dO SG (go j))))\/S4[d]?=some (.uY (sD (dO SG (go j))))
 nw:∀(r d p:Nat),ds[r]?=some d->reps[r]?=some p->S3.length<=d/\S4[d]?=some (.eL (sD (dO SG λc=>(go p c).map λk=>b.getD k 0)))
 ib:∀p,p<i->b.getD p 0<reps.length
 ir:∀(r p:Nat),reps[r]?=some p->p<i/\b.getD p 0=r/\∀p',p'<p->b.getD p' 0<r
 rl:reps.length<=i
section
variable{S3 S4 S6:bj}{L i d m:Nat}{told:List (Option Nat)}{ls b reps ds:List Nat}{go:Nat->Nat->Option Nat}
theorem M6.old(a:M6 S3 S4 L told ls go b reps ds i)(h:b.getD i 0<reps.length):M6 S3 S4 L told ls go b reps ds (i+1):=
 #[a.k,a.a,a.r,a.dl,a.od,a.nw,λp hp=>(mG.mp hp).elim (a.ib p) λe=>e▸h,λr p e=>#[bc (a.ir r p e).1,(a.ir r p e).2],mz a.rl]
theorem M6.push(a:M6 S3 S4 L told ls go b reps ds i)(hz:b.getD i 0=reps.length)(hd:ls[i]?=some d)(lo:∀(j d:Nat),ls[j]?=some d->d<L/\S3[d]?=some (.eL (sD (dO SG (go j)))))(l3:S3.length=L+2)
  (x6:Ext ((S4.set L (.lst (((reps++[i]).map λp=>told.getD p none).map uN))).set d (.uY (sD (dO SG (go i))))) S6) (ml:S4.length<=m) (g6:S6[m]?=some (.eL (sD (dO SG λc=>(go i c).map λk=>b.getD k 0)))):
  M6 S3 (S6.set (L+1) (.lst (ds.map .loc++[.loc m]))) L told ls go b (reps++[i]) (ds++[m]) (i+1):=by
 have dL:=(lo i d hd).1;have lr:=aZ a.r;have lk:=a.k.1;have get:∀(n:Nat)(o:SO),n≠L->n≠L+1->n≠d->S4[n]?=some o->(S6.set (L+1) (.lst (ds.map .loc++[.loc m])))[n]?=some o:=λn o h1 h2 h3 e=>by
  rw[af (cA h2)]
  erw[x6.get (by rw[af (cA h3),af (cA h1)];exact e)]
 have g1:S6[L+1]?=some (.lst (ds.map .loc)):=x6.get (by rw[af (aX (bc dL)),af (aX (dj L))];erw[a.r]);have mX:d∈L::(L+1)::ls:=by simp[ao hd]
 refine#[(a.k.trans ((Kp.set (by simp)).trans (Kp.set mX))).trans ((Ext.kp x6).trans (Kp.set (by simp))),?_,by rw[gs g1];simp,by simp[a.dl],λj d' hj=>?_,λr d' p e1 e2=>?_,λp hp=>?_,λr p e=>?_,by rw[ax];erw[Kw a.rl]]
 .rw[af (cZ (dj L))]
  erw[x6.get (by rw[af (aX dL)];exact gs a.a)]
 .by_cases y:d'=d
  .subst y
   have e:sD (dO SG (go j))=sD (dO SG (go i)):=by
    have:=(lo j d' hj).2;rw[(lo i d' hd).2] at this;injection this with this;injection this with this
    erw[this.symm]
   rw[e,af (cZ (bc dL))]
   erw[.inr (x6.get (bF (by rw[cq];exact Bw dL (Nat.lt_of_succ_lt lr))))]
  .have dl:=(lo j d' hj).1
   have ne:=aX dl;exact(a.od j d' hj).imp (get _ _ ne (aX (bc dl)) y) (get _ _ ne (aX (bc dl)) y)
 .rcases zm e1 with e1|⟨rfl,rfl⟩
  .have hr:=aZ e1
   rw[ag (a.dl▸hr)] at e2;let#[z1,z2]:=a.nw r d' p e1 e2;rw[l3] at z1;exact#[l3▸z1,get _ _ (cZ (az (bc (dj L)) z1)) (cZ z1) (cZ (az (bc (bc dL)) z1)) z2]
  .have f2:i=p:=by rw[a.dl] at e2;simpa using e2
   subst f2;exact#[aP lk ml,by rw[af (aX (az lr ml))];erw[g6]]
 .rw[ax]
  rcases mG.mp hp with y|y
  .erw[bc (a.ib p y)]
  .rw[y,hz];erw[dj _]
 .rcases zm e with e|⟨rfl,rfl⟩
  .let#[z1,z2]:=a.ir r p e
   exact#[bc z1,z2]
  .exact#[dj _,hz,a.ib]
end
theorem M7(Γ:bT){S3 S4:bj}{L i d m T kk R:Nat}{told:List (Option Nat)}{ls b reps ds:List Nat}{go:Nat->Nat->Option Nat}{K:Env->bj->Prop}{Q:KU}{E:Env->KX}(a:M6 S3 S4 L told ls go b reps ds i)(gT:S4[T]?=some (M0 kk told R))(gm:S4[m]?=some (.lst (b.map ba)))(mL:m≠L)(hd:ls[i]?=some d)(lo:∀(j d:Nat),ls[j]?=some d->d<L/\S3[d]?=some (.eL (sD (dO SG (go j)))))(l3:S3.length=L+2)(hb:i<b.length)(le:b.getD i 0<=reps.length)(r4:i<=4000)(tl:told.length<=4000)(cl:∀c k,c∈SG->go i c=some k->k<b.length)(ht:told[i]?=some (told.getD i none))
  (q:∀reps ds S',M6 S3 S' L told ls go b reps ds (i+1)->K [some (.loc T),some (.loc m),some (.loc L),some (.loc (L+1)),some (ba i),some (.loc d)] S'):
  Rest Γ XU #[K,Q,E] [some (.loc T),some (.loc m),some (.loc L),some (.loc (L+1)),some (ba i),some (.loc d)] S4:=by
 unfold XU;have rl:=a.rl;have dl:=a.dl;room;rw[gm,aD]
 rwa[zh hb ?_];rw[nE a.r]
 dsimp[bp,ah];refine#[∅,?_];try room
 by_cases z:b.getD i 0=reps.length
 .have z':(((b.getD i 0:Nat):Int)== (ds.length:Int))=true:=by rw[beq_iff_eq,z,dl]
  dsimp[z',if_true];room;rw[a.a,aD,Q9 gT]
  room;refine#[by rw[ah];omega,at_of ht #[by rw[ah,ah];omega,?_]];have dL:=lo i d hd;have eA:(reps.map λp=>told.getD p none).map uN++[uN (told.getD i none)]=((reps++[i]).map λp=>told.getD p none).map uN:=by rw[aJ,aJ];rfl
  rw[eA]
  have g1:(S4.set L (.lst (((reps++[i]).map λp=>told.getD p none).map uN)))[L+1]?=some (.lst (ds.map .loc)):=by rw[af (aX (dj L))];erw[a.r]
  have g2:∀{n:Nat}{o:SO},n≠L->S4[n]?=some o->(S4.set L (.lst (((reps++[i]).map λp=>told.getD p none).map uN)))[n]?=some o:=λ{n o}h e=>by rw[af (cA h)];erw[e]
  room;rw[g1,aD]
  refine#[trivial,Ri (g2 mL gm) ((a.od i d hd).imp (g2 (aX dL.1)) (g2 (aX dL.1))) cl λm6 S6 x6 m6l g6=>?_];rw[cq] at m6l;have g6':S6[L+1]?=some (.lst (ds.map .loc)):=x6.get (by rw[af (aX (bc dL.1))];erw[g1]);rw[g6',aD]
  refine#[by rw[ah];omega,?_];try room
  erw[q _ _ _ (a.push z hd lo l3 x6 m6l g6)]
 .have z':(((b.getD i 0:Nat):Int)== (ds.length:Int))=false:=by rw[beq_eq_false_iff_ne];omega
  dsimp[z',ak,if_false];room;erw[q _ _ _ (a.old (GJ le z))]
theorem Vv(Γ:bT)(h1:Γ "rounds"=Vm)(h2:Γ "with_nowhere"=Vi)(h3:Γ "Table.__init__"=M3):Keeps Γ mY 5 Rj:=by
 rintro us S Q E ⟨T,told,ls,go,B,rfl,h,h0,hB,hBl,q⟩;unfold mY;let#[kk,R,hT,hk,hR]:=h.o;have hl:=h.ll;have sz:=h.sz;room;rw[Q9 hT]
 room;refine#[by simp,by simp;omega,?_];rw[Q8 hT]
 rwa[ca h2 #[R,ls,go,rfl,hR,∅,λnr S1 ms x1 ml Rw1=>?_]];have eN:(told++[none]).length=told.length+1:=by simp
 rwa[ca h1 #[nr,ms,gN ls.length go,told++[none],by rw[aJ];rfl,Rw1,∅,∅,∅,λj c hj hc=>?_,λF fs S2 x2 gF Rs=>?_]]
 .unfold gN
  cases e:go j c with
  |none=>show ls.length<_;omega
  |some k=>have:=h.cl j c k hc e;show k<_;omega
 have x12:=x1.trans x2;obtain⟨fs0,m,rfl⟩:∃fs0 m,fs=fs0++[m]:=by
  rcases gw fs with z|⟨a,b,z⟩
  .erw[absurd z Rs.ne]
  .exact#[a,b,by rw[z,gx]]
 let#[b,gm,rb]:=Rs.r fs0.length m (by simp);have st:=Rs.st;rw[hl,show(fs0++[m]).length=fs0.length+1 by simp] at st;rw[hl] at rb;room;rw[gF,aD,aJ,show [m].map U.loc=[.loc m] from rfl,zi,bp]
 room;refine#[by simp,?_];room;refine#[by simp,?_];have bl:=rb.len;rw[eN] at bl;have nX:∀(n:Nat)(o:SO),S2[n]?=some o->(∀j,o≠.eL (sD (dO SG (go j))))->n∉S2.length::(S2.length+1)::ls:=λn o hn ho z=>by
  have:=aZ hn;rcases aR.mp z with z|z
  .omega
  .rcases aR.mp z with z|z
   .omega
   .let#[j,hj]:=bA z
    have:=x12.get (hR.d j n hj);rw[hn] at this;erw[ho j (aH this)]
 have nT:=nX T _ (x12.get hT) (by intro j;unfold M0;intro z;cases z);have nR:=nX R _ (x12.get hR.l) (by intro j z;cases z);have nm:=nX m _ gm (by intro j z;cases z);have ls0:(S2++[SO.lst []]).length=S2.length+1:=by simp
 have y3:Ext S2 (S2++[SO.lst []]++[SO.lst []]):=(Ext.app _).trans (Ext.app _);have gA:(S2++[SO.lst []]++[SO.lst []])[S2.length]?=some (.lst []):=(Ext.app _).get (by simp);have gR:(S2++[SO.lst []]++[SO.lst []])[S2.length+1]?=some (.lst []):=by rw[<-ls0,aw (ar _),bH];rfl
 rw[ls0]
 have l3:(S2++[SO.lst []]++[SO.lst []]).length=S2.length+2:=by simp
 generalize S2++[SO.lst []]++[SO.lst []]=S3 at y3 gA gR l3;have x3:=x12.trans y3;room;rw[Q8 (x3.get hT)]
 room;rw[x3.get hR.l,aD]
 have fst':=um b [];rw[rb.fx] at fst';have lo:∀(j d:Nat),ls[j]?=some d->d<S2.length/\S3[d]?=some (.eL (sD (dO SG (go j)))):=λj d e=>#[aZ (x12.get (hR.d j d e)),x3.get (hR.d j d e)]
 rwa[cQ (λi env S4=>∃(reps ds:List Nat)(x4 x5:Option U),env=[some (.loc T),some (.loc m),some (.loc S2.length),some (.loc (S2.length+1)),x4,x5]/\M6 S3 S4 S2.length told ls go b reps ds i) (λi env S4 h9=>?_) _ ?_ ?_ #[[],[],none,none,rfl,.refl,gA,gR,rfl,λj d e=>.inl (lo j d e).2,by simp,λp hp=>absurd hp (dX p),by simp,ar _]]
 .let#[_,_,_,_,_,a]:=h9
  erw[a.k.get (x3.get hR.l) nR]
 .rintro i u env S4 K hu ⟨reps,ds,x4,x5,rfl,a⟩ hK
  dsimp[fm,aC,oR] at hu;let#[d,hd,rfl]:=au.mp hu;have hi:=aZ hd;have ht:told[i]?=some (told.getD i none):=by rw[aT,aa (hl▸hi)];rfl
  dsimp[dk,Lu];rwa[M7 Γ a (a.k.get (x3.get hT) nT) (a.k.get (y3.get gm) nm) (aX (aZ gm)) hd lo l3 ∅ ?_ ∅ sz (λc k hc e=>Bw (h.cl i c k hc e) ∅) ht λreps ds S' a'=>hK _ _ #[reps,ds,_,_,rfl,a']]
  have gi:=gd (b:=b) (i:=i) ∅;have ib:=a.ib
  clear a hK lo
  cases e:b.getD i 0 with
  |zero=>erw[cw _]
  |succ v=>
   rw[e] at gi;rcases fst' i v gi with z|⟨p,hp,e'⟩
   .erw[absurd z (dX v)]
   .have:=ib p hp
    rw[aT,e'] at this;erw[this]
 .rintro env S4 ⟨reps,ds,x4,x5,rfl,a⟩
  obtain⟨k4,gA4,gR4,dl,-,nw,ib,ir,rl⟩:=a;rw[lu,ah,hl] at ib ir rl;room;refine ca h3 #[S4.length,_,_,_,rfl,vX,(Ext.app _).get gA4,λk' S5 o5 gT gk=>#[rfl,?_]];have y5:Ext S4 S5:=Ek o5;have t':∀(r p:Nat),reps[r]?=some p->(reps.map λp=>told.getD p none).getD r none=told.getD p none/\∀c,RP go b reps r c=(go p c).map λk=>b.getD k 0:=λr p e=>by
   refine#[by rw[aT,aC,e];rfl,λc=>by rw[JO e]]
  rwa[q _ (reps.map λp=>told.getD p none) ds (RP go b reps) b reps S5 #[#[k',_,gT,gk,y5.get gR4,λj d hj=>?_,λj c hj=>?_],by rw[ah];erw[dl],by rw[ah];omega,λj c k hc e=>?_] (λn hn=>?_) (aP x3.1 (aP k4.1 y5.1)) #[#[fs0.length,rb,st],ib,by simp,ir,t']]
  .have hr:=aa (show j<reps.length from dl▸aZ hj)
   rw[JO hr]
   erw[y5.get (nw j d _ hj hr).2]
  .unfold RP;rw[dD (dl▸hj)];rfl
  .unfold RP at e
   let#[p,hp,e]:=aA.mp e;let#[v,hv,e]:=au.mp e;subst e;rw[ah]
   erw[ib v (h.cl p c v hc hv)]
  .have nS:n<S.length:=az hn hBl
   have n2:=az nS x12.1;have n3:=az nS x3.1;rw[y5.2 n (az n3 k4.1),k4.2 n n3 (λz=>?_),x3.2 n nS]
   rcases aR.mp z with z|z
   .erw[aX n2 z]
   .rcases aR.mp z with z|z
    .erw[aX (bc n2) z]
    .erw[Nat.not_le_of_lt hn (hB n z)]
def JP(ts:List Tr)(w:List Nat):Option Nat->Prop
 |none=>∀(i:Nat)t,ts[i]?=some t->¬En t (hs t w)
 |some i=>(∃t,ts[i]?=some t/\En t (hs t w))/\∀(i':Nat)t,i'<i->ts[i']?=some t->¬En t (hs t w)
theorem M8{ts:List Tr}{w:List Nat}{o o':Option Nat}(h:JP ts w o)(h':JP ts w o'):o=o':=by
 cases o with
 |none=>
  cases o' with
  |none=>rfl
  |some i=>let#[#[t,e,z],_]:=h';erw[absurd z (h i t e)]
 |some i=>
  let#[#[t,e,z],n]:=h;cases o' with
  |none=>erw[absurd z (h' i t e)]
  |some j=>
   let#[#[t',e',z'],n']:=h';rcases JY i j with y|y|y
   .erw[absurd z (n' i t y e)]
   .rw[y]
   .erw[absurd z' (n j t' y e')]
noncomputable def tot(N:Nat)(go:Nat->Nat->Option Nat)(w:List Nat):Nat:=w.foldl (gN N go) 0
theorem vL{N c:Nat}{go:Nat->Nat->Option Nat}{w:List Nat}:tot N go (w++[c])=gN N go (tot N go w) c:=by unfold tot;rw[fq];rfl
theorem NQ{bh:List Nat}:QG bh 0 0:=λp=>by simp
section
variable{ts:List Tr}{sg:List (List Nat)}{bh en lots rs:List Nat}{u:Nat}{told:List (Option Nat)}
abbrev zJ(sg:List (List Nat)):Nat->Nat:=λc=>j9 (·.contains c) sg
theorem A9(A:CW ts sg bh en)(U:Kj sg bh en u)(P:Wj (bh.map (·&&&u)) en (zJ sg) lots rs told)(gz0:∀j c,told.length<=j->FT (zJ sg) lots rs j c=none):∀(n:Nat)(w:List Nat),w.length=n->(∀c∈w,c∈SG)->(∃r,rs[tot told.length (FT (zJ sg) lots rs) w]?=some r/\NI ts u w r)\/(tot told.length (FT (zJ sg) lots rs) w=told.length/\NI ts u w 0)
 |0,w,hn,_=>by
  rw[nv.mp hn]
  let#[r,h1,h2]:=P.b 0 1 P.z;erw[.inl #[r,h1,FN A h2]]
 |n+1,w,hn,hw=>by
  rcases gw w with rfl|⟨w,c,rfl⟩
  .simp at hn
  rw[gx] at hn hw ⊢;have cm:c∈SG:=hw c (by simp);rw[vL]
  rcases A9 A U P gz0 n w (by simpa using hn) (λc m=>hw c (by simp[m])) with⟨r,h1,h2⟩|⟨h1,h2⟩
  .unfold gN
   rw[C5 h1]
   unfold gz;by_cases z:r&&&zJ sg c=0
   .rw[if_pos z]
    erw[.inr #[rfl,vF A U h2 (show QG _ (r&&&zJ sg c) 0 by rw[z];exact NQ)]]
   .rw[if_neg z]
    have hm:=(P.m r (ao h1) c cm).resolve_left z;have hk:=cC hm;have e:lots[lots.idxOf (r&&&zJ sg c)]?=some (r&&&zJ sg c):=by rw[aa hk,i4 hk]
    let#[r',e1,e2]:=P.b _ _ e;erw[.inl #[r',e1,vF A U h2 e2]]
  .rwa[.inr #[?_,vF A U h2 (by rw[Nat.zero_and];erw[NQ])]]
   unfold gN;rw[h1,gz0 _ c (ar _)];rfl
theorem Vw{i:Nat}:¬Ov 0 en i:=λ⟨_,_,p,h,_⟩=>by simp at h
theorem C6(A:CW ts sg bh en)(U:Kj sg bh en u){w:List Nat}{r c:Nat}(h:NI ts u w r){o:Option Nat}(f:Wg (r&&&zJ sg c) en o):JP ts (w++[c]) o:=by
 have k:=Jp (c:=c) A U h;cases o with
 |none=>erw[λi t e z=>f i ((k i).mpr #[t,e,z])]
 |some i=>exact#[(k i).mp f.1,λi' t hi e z=>f.2 i' hi ((k i').mpr #[t,e,z])]
theorem FU(A:CW ts sg bh en)(U:Kj sg bh en u)(P:Wj (bh.map (·&&&u)) en (zJ sg) lots rs told)(gz0:∀j c,told.length<=j->FT (zJ sg) lots rs j c=none)(w:List Nat)(hw:∀c∈w,c∈SG):JP ts w ((told++[none]).getD (tot told.length (FT (zJ sg) lots rs) w) none):=by
 have nn:(told++[none]).getD told.length none=none:=by rw[aT];simp
 have tt:∀{k:Nat}{o:Option Nat},told[k]?=some o->(told++[none]).getD k none=o:=λ{k o}e=>by rw[aT,ag (aZ e),e];rfl
 rcases gw w with rfl|⟨w,c,rfl⟩
 .let#[o,e1,e2]:=P.t 0 1 P.z
  rw[show tot told.length (FT (zJ sg) lots rs) []=0 from rfl,tt e1]
  cases o with
  |none=>
   rintro i t e ⟨p,hp,z⟩;have hp:p=0:=hp;subst hp;have:=A.nl t (ao e);have z:eM [t]=true:=z;simp[eM,this] at z
  |some i=>
   let#[Z,f1,p,f2,f3]:=e2.1;have p0:=gC.mp f2;subst p0;have il:i<ts.length:=by rw[<-A.FL];erw[aZ f1]
   let#[Z',g1,g2]:=A.e i _ (aa il);rw[f1] at g1;cases g1;rw[g2,aj] at f3;let#[n,n0,pl]:=A.pos _ (cu il);erw[absurd rfl (yR pl n0 f3.1)]
 .rw[gx] at hw ⊢
  have cm:c∈SG:=hw c (by simp);rw[vL]
  rcases A9 A U P gz0 _ w rfl (λc m=>hw c (by simp[m])) with⟨r,h1,h2⟩|⟨h1,h2⟩
  .unfold gN
   rw[C5 h1]
   unfold gz;by_cases z:r&&&zJ sg c=0
   .rw[if_pos z]
    show JP ts _ ((told++[none]).getD told.length none)
    rw[nn]
    erw[C6 (r:=r) A U h2 (o:=none) (by rw[z];exact λi=>Vw)]
   .rw[if_neg z]
    have hm:=(P.m r (ao h1) c cm).resolve_left z;have hk:=cC hm;have e:lots[lots.idxOf (r&&&zJ sg c)]?=some (r&&&zJ sg c):=by rw[aa hk,i4 hk]
    let#[o,e1,e2]:=P.t _ _ e;show JP ts _ ((told++[none]).getD (lots.idxOf (r&&&zJ sg c)) none);rw[tt e1]
    erw[C6 A U h2 e2]
  .unfold gN
   rw[h1,gz0 _ c (ar _)]
   show JP ts _ ((told++[none]).getD told.length none)
   rw[nn]
   erw[C6 (r:=0) A U h2 (o:=none) (by rw[Nat.zero_and];exact λi=>Vw)]
end
section
variable{told told':List (Option Nat)}{go go':Nat->Nat->Option Nat}{b reps:List Nat}
theorem NR{g:Nat->Nat->Nat}:∀{m i j:Nat},Eqv told g m i j->told[i]?=told[j]?
 |0,_,_,h=>h
 |m+1,_,_,h=>NR h.1
theorem Em(M:Wk told go told' go' b reps)(cl:∀j c k,c∈SG->go j c=some k->k<told.length){i j:Nat}(hi:i<=told.length)(hj:j<=told.length)(e:b.getD i 0=b.getD j 0):(told++[none])[i]?=(told++[none])[j]?/\∀c∈SG,b.getD (gN told.length go i c) 0=b.getD (gN told.length go j c) 0:=by
 let#[m,R,st]:=M.k;have hN:(told++[none]).length=told.length+1:=by simp
 have hq:=(R.iff i j ∅ ∅).mp e;refine#[NR hq,λc hc=>?_];have le:∀i,gN told.length go i c<(told++[none]).length:=λi=>by
  unfold gN;cases z:go i c with
  |none=>show told.length<_;omega
  |some k=>have:=cl i c k hc z;show k<_;omega
 exact(R.iff _ _ (le i) (le j)).mpr ((st i j ∅ ∅ hq).2 c hc)
theorem Eo(M:Wk told go told' go' b reps)(cl:∀j c k,c∈SG->go j c=some k->k<told.length)(z0:∀j c,told.length<=j->go j c=none)(h0:0<told.length):∀(n:Nat)(w:List Nat),w.length=n->(∀c∈w,c∈SG)->tot told.length go w<=told.length/\match sY go' w with
  |some r=>r<reps.length/\b.getD (tot told.length go w) 0=r
  |none=>b.getD (tot told.length go w) 0=b.getD told.length 0
 |0,w,hn,_=>by
  rw[nv.mp hn]
  have h1:=M.a 0 h0;let#[m,R,_]:=M.k;refine#[cw _,?_];show 0<reps.length/\b.getD 0 0=0;have bl:=R.len;have hN:(told++[none]).length=told.length+1:=by simp
  have gi:=gd (b:=b) (i:=0) ∅;refine#[∅,?_];cases e:b.getD 0 0 with
  |zero=>rfl
  |succ v=>
   rw[e] at gi;have:=um b [] 0 v (by rw[R.fx];erw[gi]);rcases this with z|⟨p,hp,_⟩
   .simp at z
   .omega
 |n+1,w,hn,hw=>by
  rcases gw w with rfl|⟨w,c,rfl⟩
  .simp at hn
  rw[gx] at hn hw ⊢;have cm:c∈SG:=hw c (by simp);let#[il,ih]:=Eo M cl z0 h0 n w (by simpa using hn) (λc m=>hw c (by simp[m]));rw[vL,rL]
  refine#[?_,?_]
  .unfold gN
   cases z:go (tot told.length go w) c with
   |none=>erw[ar _]
   |some k=>erw[cY (cl _ c k cm z)]
  cases e:sY go' w with
  |none=>
   rw[e] at ih;have:=(Em M cl il (ar _) ih).2 c cm;show b.getD _ 0=_;rw[this]
   unfold gN;rw[z0 _ c (ar _)];rfl
  |some r=>
   rw[e] at ih;let#[rl,er]:=ih;have hp:=aa rl;let#[p1,p2,_]:=M.r r _ hp;have tg:=(M.t r _ hp).2 c;generalize reps[r]=p at hp p1 p2 tg;have:=(Em M cl il (cY p1) (by rw[er,p2])).2 c cm;show match go' r c with|some r=>r<reps.length/\_=r|none=>_
   rw[tg,this]
   unfold gN;cases z:go p c with
   |none=>rfl
   |some k=>exact#[M.a k (cl p c k cm z),rfl]
theorem FV(M:Wk told go told' go' b reps)(cl:∀j c k,c∈SG->go j c=some k->k<told.length)(z0:∀j c,told.length<=j->go j c=none)(h0:0<told.length)(w:List Nat)(hw:∀c∈w,c∈SG):fst told' go' w=(told++[none]).getD (tot told.length go w) none:=by
 let#[il,h]:=Eo M cl z0 h0 _ w rfl hw;unfold fst;cases e:sY go' w with
 |none=>
  rw[e] at h;have:=(Em M cl il (ar _) h).1;rw[aT,this];simp
 |some r=>
  rw[e] at h;let#[rl,er]:=h;have hp:=aa rl;let#[p1,p2,_]:=M.r r _ hp;have:=(Em M cl il (cY p1) (by rw[er,p2])).1;rw[aT,this,ag p1,<-aT]
  exact(M.t r _ hp).1
end
def Vx:Spec:=λus S Q _=>∃n xs ts,us=[.loc n]/\S[n]?=some (.lst (xs.map .str))/\ZL ts xs/\CY ts/\gJ ts<=10/\∀T told ls go S',FQ S' T told ls go->0<told.length->(∀w,(∀c∈w,c∈SG)->JP ts w (fst told go w))->Ext S S'->Q (.loc T) S'
theorem Vy(Γ:bT)(h1:Γ "places_of"=US)(h2:Γ "spread"=Rf)(h3:Γ "smallest"=Rj):Keeps Γ mW 0 Vx:=by
 rintro us S Q E ⟨n,xs,ts,rfl,gn,hR,hT,hs,q⟩;unfold mW;room;rwa[ca h1 #[n,xs,ts,10,rfl,gn,hR,hT,hs,λP u sg bh en S1 pp A U l x1=>?_]];have al:=A.len;have b0:0<bh.length:=∅
 rwa[ca h2 #[P,_,en,_,λp=>p=0\/∃t∈ts,IN t p=true,rfl,pp,#[by rw[ah];omega,λq B p hq hB hp=>.inr ?_,λp hp=>?_],.inl rfl,λT told ls lots rs S2 tb dl x2 sp=>?_]]
 .let#[B',e,rfl]:=yT hB
  rw[cG,aj] at hp;rcases hq with rfl|⟨t,m,i⟩
  .let#[B0,e0,f0]:=A.b0
   rw[e] at e0;cases e0;let#[t,m,f]:=(f0 p).mp hp.1;exact#[t,m,ji f]
  .let#[B0,e0,f0]:=A.b t m q i
   rw[e] at e0;cases e0;rw[f0] at hp;exact#[t,m,fP hp.1]
 .rw[ah]
  rcases hp with rfl|⟨t,m,i⟩
  .erw[b0]
  .rw[al];erw[aZ (A.sgn t m p i)]
 have t0:0<told.length:=by rw[sp.len];erw[aZ sp.z]
 let#[_,_,_,_,rp]:=tb.o;have ll:=tb.ll;rwa[ca h3 #[T,told,ls,_,S1.length,rfl,tb,t0,dl,x2.1,λT' told' ls' go' b reps S3 tb' k3 l3 M=>?_]];have z0:∀j c,told.length<=j->FT (zJ sg) lots rs j c=none:=λj c hj=>rp.z j c ∅
 rwa[q T' told' ls' go' S3 tb' ?_ (λw hw=>?_) #[by have:=x1.1;have:=x2.1;omega,λn hn=>?_]]
 .rw[M.len]
  have:=M.a 0 t0;omega
 .rw[FV M tb.cl z0 t0 w hw]
  erw[FU A U sp z0 w hw]
 .have:=x1.1
  rw[k3 n ∅,x2.2 n ∅,x1.2 n hn]
def JQ:Spec:=λus S Q _=>∃n x ts,us=[.loc n,.str x]/\S[n]?=some (.lst (ts.map enc))/\CY ts/\x.length<=1000/\∀o S',JP ts x o->Ext S S'->Q (uN o) S'
theorem Vz(Γ:bT)(h1:Γ "_law_rests"=UY)(h2:Γ "_law_ends"=U0):Keeps Γ kI 3 JQ:=by
 rintro us S Q E ⟨n,x,ts,rfl,gn,hT,hx,q⟩;unfold kI;have tl:=hT.len;room;rw[nE gn]
 dsimp[bp,ah,Lr,gK];refine#[∅,∅,∅,?_];rwa[cQ (λi env S1=>∃(x2 x3 x4:Option U),env=[some (.loc n),some (.str x),x2,x3,x4]/\Ext S S1/\∀(j:Nat)t,j<i->ts[j]?=some t->¬En t (hs t x)) (λ_ _ _ _=>trivial) _ ?_ ?_ #[none,none,none,rfl,.refl,∅]]
 .rintro i u env S1 K hu ⟨x2,x3,x4,rfl,x1,inv⟩ hK
  let#[rfl,hi]:=kX hu;have et:=aa hi;have hm:=cu hi;generalize ts[i]=t at et hm;let#[n0,pl,n1,sz,dt]:=QJ hT hm;room;rw[x1.get gn,aD]
  rwa[at_of et #[by simp,by simp,?_]];have xa:Ext S (S1++[SO.lst [U.tup [enc t]]]):=x1.trans (Ext.app _);have ga:(S1++[SO.lst [U.tup [enc t]]])[S1.length]?=some (.lst [cL [t]]):=by simp;rfl
  generalize S1.length=m0 at ga;generalize S1++[SO.lst [U.tup [enc t]]]=S2 at xa ga;room;rwa[cQ (λk env S3=>∃(m:Nat)(X:List U)(x4:Option U),env=[some (.loc n),some (.str x),some (ba i),some (.loc m),x4]/\Ext S S3/\S3[m]?=some (.lst X)/\Qq t (hs t (x.take k)) X) (λ_ _ _ _=>trivial) _ ?_ ?_ #[m0,_,x4,rfl,xa,ga,FF t]]
  .rintro k u env S3 K' hu ⟨m,X,x4,rfl,x3,g3,r3⟩ hK'
   let#[c,hc,rfl]:=fj hu;have Xl:=Eb pl r3;room;rwa[ca h1 #[m,c,X,t,_,n0,rfl,g3,r3,pl,n1,dt,sz,∅,λm' Y S4 x4 g4 r4=>?_]];room;erw[hK' _ _ #[m',Y,_,rfl,x3.trans x4,g4,by rw[take_snoc hc,rF];exact r4]]
  .rintro env S3 ⟨m,X,x4,rfl,x3,g3,r3⟩
   rw[ah,bP] at r3;have Xl:=Eb pl r3;room;rwa[ca h2 #[m,X,t,_,rfl,g3,r3,dt,sz,∅,λb S4 hb x4=>?_]];room;cases b with
   |true=>
    rw[if_pos rfl]
    room;erw[q (some i) S4 #[#[t,et,hb.mp rfl],inv] (x3.trans x4)]
   |false=>
    rw[if_neg (by simp)]
    room;rwa[hK _ _ #[_,_,_,rfl,x3.trans x4,λj t' hj e z=>?_]];by_cases y:j=i
    .subst y
     rw[et] at e;cases e;have:=hb.mpr z;simp at this
    .erw[inv j t' ∅ e z]
 .rintro env S1 ⟨x2,x3,x4,rfl,x1,inv⟩
  room;exact q none S1 (λi t e=>inv i t (by have:=aZ e;simpa using this) e) x1
theorem VA{S:bj}{q:Bool->Prop}{a:Bool}:i0 .ne (.bl a) (.bl a) S q=q false:=by
 show((Ar (.bl a) (.bl a)=true)/\u6 (.bl a) (.bl a) λb=>q !b)=_
 unfold u6;have:oX (.bl a) (.bl a)=true:=by show(a==a)=true;simp
 rw[this]
 erw[propext #[λh=>h.2.2,λh=>#[rfl,#[rfl,rfl,rfl,by show 0<=100;omega],h]]]
theorem NS{S:bj}{q:Bool->Prop}{o:Option Nat}:i0 .ne (uN o) (uN o) S q=q false:=by
 cases o with
 |none=>unfold uN;dsimp[Tq,Xi,Xo,true_and];rfl
 |some i=>unfold uN;dsimp[Tp,Xh,Xm,true_and,beq_self_eq_true,bz]
theorem M9{l:List Nat}{k:Nat}:qh l none (some (k:Int))=l.take k:=by
 unfold qh;dsimp[jO,d7,gK,ya,Nat.zero_min,jv,Nat.sub_zero];by_cases h:k<=l.length
 .rw[vW h]
 .rw[uC ∅,bP,d6 ∅]
theorem VB(Γ:bT)(h1:Γ "Table.first"=JM)(h2:Γ "_law_first"=JQ)(h3:Γ "Table.goes"=FR){S:bj}{T nt i:Nat}{told:List (Option Nat)}{ls x:List Nat}{go:Nat->Nat->Option Nat}{ts:List Tr}{y0 y3 y4 y8 y9:Option U}{K:Env->bj->Prop}{Q:KU}{E:Env->KX}(tb:FQ S T told ls go)(t0:0<told.length)(hf:∀w,(∀c∈w,c∈SG)->JP ts w (fst told go w))(gn:S[nt]?=some (.lst (ts.map enc)))(hT:CY ts)(hx:∀c∈x,c∈SG)(xl:x.length<=1000)(hi:i<=x.length)
  (q:∀S' y8 y9,Ext S S'->K [y0,some (.loc nt),some (.loc T),y3,y4,some (.str x),some (uN (sY go (x.take (i+1)))),some (ba i),y8,y9] S'):
  Rest Γ XZ #[K,Q,E] [y0,some (.loc nt),some (.loc T),y3,y4,some (.str x),some (uN (sY go (x.take i))),some (ba i),y8,y9] S:=by
 unfold XZ;let#[k,R,oT,gk,rp]:=tb.o;have hxt:∀c∈x.take i,c∈SG:=λc m=>hx c (Dh m)
 have oT':=oT;unfold M0 at oT';have sl:∀(S:bj)(r:KU),Nt (.str x) none (some ((i:Nat):Int)) S r=r (.str (x.take i)) S:=λS r=>by
  unfold Nt;dsimp[M9];exact propext #[λh=>h.2.2,λh=>#[#[λi e=>(by cases e),λi e=>(by injection e with e;omega)],∅,h]]
 room;rw[oT',bL]
 refine#[#[rfl,rfl],?_];rw[sl]
 refine ca h1 #[T,told,ls,go,_,rfl,tb,t0,hxt,?_];have fin:Rest Γ XY #[K,Q,E] [y0,some (.loc nt),some (.loc T),y3,y4,some (.str x),some (uN (sY go (x.take i))),some (ba i),some (uN (fst told go (x.take i))),some (uN (fst told go (x.take i)))] S:=by
  have ff:=hf _ hxt;generalize fst told go (x.take i)=o at ff;unfold XY;room;rw[NS]
  dsimp[ak,if_false,VA];rw[sl]
  rwa[ca h2 #[nt,_,ts,rfl,gn,hT,by rw[dE];omega,λo' S2 ho x2=>?_]];have eo:=M8 ff ho;subst eo;dsimp[NS,ak,if_false];room;cases e:sY go (x.take i) with
  |none=>
   dsimp[uN,oB,bz,ak,if_false];room;have:=q S2 (some (uN o)) (some (uN o)) x2;have en:sY go (x.take (i+1))=none:=A6 (k:=i) (by rw[List.take_take,vW ∅];erw[e]);rw[en] at this;erw[this]
  |some j=>
   dsimp[uN,oB,bM,if_true];refine#[∅,?_];by_cases y:i<x.length
   .have y':((i:Int)<(x.length:Int)):=∅
    dsimp[y',decide_true,if_true];have hc:=aa y;room;rw[x2.get oT',bL]
    refine#[#[rfl,rfl],∅,?_];rw[jb,hc,bp]
    rwa[ca h3 #[T,told,ls,go,j,_,rfl,tb.ext x2,zj tb t0 _ hxt e,hx _ (cu y),?_]];room;have:=q S2 (some (uN o)) (some (uN o)) x2;rw[take_snoc hc,rL,e] at this;erw[this]
   .have y':¬((i:Int)<(x.length:Int)):=∅
    dsimp[y',decide_false,ak,if_false];room;have:=q S2 (some (uN o)) (some (uN o)) x2;rw[show x.take (i+1)=x.take i by rw[d6 ∅,d6 ∅],e] at this;erw[this]
 room;cases e:sY go (x.take i) with
 |none=>
  have ef:fst told go (x.take i)=none:=by unfold fst;rw[e];rfl
  rw[e,ef] at fin;dsimp[uN,oB,if_true];rw[ef]
  erw[fin]
 |some j=>
  have jl:=zj tb t0 _ hxt e;have ef:fst told go (x.take i)=told[j]:=by unfold fst;rw[e,sW,aT,aa jl];rfl
  rw[e,ef] at fin;dsimp[uN,oB,ak,if_false];rw[Yy oT]
  room;rw[gk,aD,ef]
  erw[at_of (aa jl) fin]
def Yz:Spec:=λus _ Q _=>∃ns:List Int,us=[.sj ns]/\ns.length<=63/\∀S',Q (.bl true) S'
theorem YA(Γ:bT)(h1:Γ "Table.first"=JM)(h2:Γ "_law_first"=JQ)(h3:Γ "Table.goes"=FR){S:bj}{T nt:Nat}{told:List (Option Nat)}{ls x:List Nat}{go:Nat->Nat->Option Nat}{ts:List Tr}{y0 y3 y4 y6 y7 y8 y9:Option U}{K:Env->bj->Prop}{Q:KU}{E:Env->KX}(tb:FQ S T told ls go)(t0:0<told.length)(hf:∀w,(∀c∈w,c∈SG)->JP ts w (fst told go w))(gn:S[nt]?=some (.lst (ts.map enc)))(hT:CY ts)(hx:∀c∈x,c∈SG)(xl:x.length<=1000)
  (q:∀S' y6 y7 y8 y9,Ext S S'->K [y0,some (.loc nt),some (.loc T),y3,y4,some (.str x),y6,y7,y8,y9] S'):
  Rest Γ V6 #[K,Q,E] [y0,some (.loc nt),some (.loc T),y3,y4,some (.str x),y6,y7,y8,y9] S:=by
 unfold V6;room;have e1:((x.length:Int)+1)=((x.length+1:Nat):Int):=∅
 rw[e1]
 refine#[∅,∅,∅,?_];rwa[cQ (λi env S1=>∃(y7 y8 y9:Option U),env=[y0,some (.loc nt),some (.loc T),y3,y4,some (.str x),some (uN (sY go (x.take i))),y7,y8,y9]/\Ext S S1) (λ_ _ _ _=>trivial) _ ?_ ?_ #[_,_,_,rfl,.refl]]
 .rintro i u env S1 K' hu ⟨y7,y8,y9,rfl,x1⟩ hK
  let#[rfl,hi]:=kX hu;erw[VB Γ h1 h2 h3 (tb.ext x1) t0 hf (x1.get gn) hT hx xl ∅ λS2 y8 y9 x2=>hK _ _ #[_,_,_,rfl,x1.trans x2]]
 .rintro env S1 ⟨y7,y8,y9,rfl,x1⟩
  room;erw[q _ _ _ _ _ x1]
theorem Rk(Γ:bT)(h1:Γ "_law_mix"=tD.xw)(h2:Γ "_law_trees"=QQ)(h3:Γ "_law_text"=QR)(h4:Γ "written"=Ee (λt=>bU t<=3\/(A3 t/\bU t<=3+1)) wr)(h5:Γ "table_of"=Vx)(h6:Γ "_law_all"=tD.AU)(h7:Γ "Table.first"=JM)(h8:Γ "_law_first"=JQ)(h9:Γ "Table.goes"=FR):Keeps Γ DG 9 Yz:=by
 rintro us S Q E ⟨ns,rfl,hl,q⟩;unfold DG;room;rwa[ca h1 #[ns,50,rfl,∅,λm m0 m1=>#[∅,?_]]];rwa[ca h2 #[ns,_,rfl,∅,∅,∅,λts nt S2 hT hV hz x1 g2=>?_]];have tl:=hT.len;room;rw[g2,aD]
 refine gH (ts.map enc) (λi acc S3=>Ext S2 S3/\∃xs:List (List Nat),acc=xs.map .str/\xs.length=i/\∀(j:Nat)t y,ts[j]?=some t->xs[j]?=some y->y.length<=1000/\∃r,tI y=.ok (enc t,r)) (λi acc S3 hi h9=>by let#[x,xs,e1,e2,_]:=h9;exact#[x.get g2,by rw[e1,ah];simp at hi;omega]) (λi u acc S3 k hu hi hk=>?_) (λacc S3 h=>?_) #[.refl,[],rfl,rfl,λj t y _ e=>by simp at e]
 .let#[x3,xs,rfl,e2,inv]:=hi
  let#[t,et,rfl]:=fj hu;have mt:=ao et;have d4:=hT.dp t mt;rwa[ca h4 #[t,rfl,.inl ∅,hV t mt,d4,λS4 x4=>hk _ _ #[x3.trans x4,xs++[wr t],by simp,by simp[e2],λj t' y e3 e4=>?_]]];by_cases z':j=i
  .subst z'
   rw[aw ∅,e2,bH] at e4;cases e4;rw[et] at e3;cases e3;exact#[by have:=(kZ (hV t mt) d4).2.2;omega,[],MV (hV t mt) d4]
  .have jl:j<i:=by
    have:=(ae.mp e4).1;simp at this;omega
   rw[ag ∅] at e4;erw[inv j t' y e3 e4]
 let#[x3,xs,rfl,e2,inv]:=h;rw[ah] at e2;have x4:Ext S2 (S3++[SO.lst (xs.map U.str)]):=x3.trans (Ext.app _);have g4:(S3++[SO.lst (xs.map U.str)])[S3.length]?=some (.lst (xs.map U.str)):=by simp
 generalize S3.length=n4 at g4;generalize S3++[SO.lst (xs.map U.str)]=S4 at g4 x4;rwa[ca h5 #[n4,xs,ts,rfl,g4,#[∅,inv],hT,∅,λT told ls go S5 tb t0 hf x5=>?_]];have g5:=(x4.trans x5).get g2;room;rwa[ca h6 #[rfl,λG hG=>?_]];have gl:G.length=95:=by rw[hG];rfl
 room;refine#[∅,∅,?_];rwa[cQ (λi env S7=>Ext S5 S7/\∃(y4 y5 y6 y7 y8 y9:Option U),env=[some (.sj ns),some (.loc nt),some (.loc T),some (.str G),y4,y5,y6,y7,y8,y9]) (λ_ _ _ _=>trivial) _ ?_ ?_ #[.refl,none,none,none,none,none,none,rfl]]
 .rintro i u env S7 K hu ⟨x7,y4,y5,y6,y7,y8,y9,rfl⟩ hK
  let#[rfl,hi]:=kX (n:=4) hu;room;refine ca h1 #[ns,_,rfl,∅,λm m0 m1=>#[∅,?_]];refine ca h3 #[ns,_,_,rfl,∅,∅,∅,λx S8 hx xl x8=>?_];room;refine ca h1 #[ns,_,rfl,∅,λm2 m3 m4=>#[∅,?_]];have fin:∀x,(∀c∈x,c∈SG)->x.length<=1000->Rest Γ V6 #[K,Q,λ_=>E] [some (.sj ns),some (.loc nt),some (.loc T),some (.str G),some (ba i),some (.str x),y6,y7,y8,y9] S8:=λx hx xl=>
   YA Γ h7 h8 h9 (tb.ext (x7.trans x8)) t0 hf ((x7.trans x8).get g5) hT hx xl λS9 y6 y7 y8 y9 x9=>hK _ _ #[(x7.trans x8).trans x9,_,_,_,_,_,_,rfl]
  room;by_cases z:m2%3=0
  .have z':(m2%3==0)=true:=by rw[beq_iff_eq];erw[z]
   dsimp[z',if_true];room;rwa[ca h1 #[ns,_,rfl,∅,λm5 m6 m7=>#[∅,?_]]];refine#[∅,qp (i5 _ ∅) (by rw[gl];erw[fY _ ∅]) λc hc=>#[by simp;omega,?_]];rwa[Rest.go (fin _ (λc' m'=>?_) (by simp;omega))];rcases aI.mp m' with m'|m'
   .erw[hx c' m']
   .have:c'=c:=by simpa using m'
    rw[this,<-hG];erw[hc]
  .have z':(m2%3==0)=false:=by rw[beq_eq_false_iff_ne];erw[z]
   dsimp[z',ak,if_false];erw[Rest.go (fin x hx ∅)]
 .rintro env S7 ⟨x7,y4,y5,y6,y7,y8,y9,rfl⟩
  room;erw[q S7]
end PL.ue
end
section
set_option autoImplicit false
namespace L2
open PySem PySem.Spec PyProof.Rows PySem.W
open PL (U SO bj Xn KU KX bT)
def wj:PL.Spec:=λ_ _ _ _=>False
def FW(Γ:bT)(x:String)(sp:PL.Spec):bT:=λy=>if y=x then sp else Γ y
def Role(c:Ctx)(T:Tab)(x:String)(f:Addr):Prop:=
 (x∈T.fns/\c.mg (nm x)=some (.ref f))\/(∃p∈T.qk,x=p.2++"."++p.1/\∃C,c.cls p.2=some C/\Meth c.K C (nm p.1) f)\/(∃y∈T.qj,x=y++".__init__"/\∃C,c.cls y=some C/\Mk c.K C f)
theorem FnAt.mono{c:Ctx}{j k:Nat}{f:Addr}{sp:PL.Spec}(F:FnAt c j f sp)(h:j<=k):FnAt c k f sp:=by
 let#[fd,ps,F,B]:=F;exact#[fd,ps,F.mono h,B]
theorem bG{Γ:bT}{x:String}{sp:PL.Spec}:FW Γ x sp x=sp:=if_pos rfl
theorem ur{Γ:bT}{x y:String}{sp:PL.Spec}(h:y≠x):FW Γ x sp y=Γ y:=if_neg h
theorem gc.add{c:Ctx}{T:Tab}{Γ:bT}{k k':Nat}{x:String}{sp:PL.Spec}(G:gc c T Γ k)(h:k<=k')(F:∀f,Role c T x f->FnAt c k' f sp):gc c T (FW Γ x sp) k':=by
 refine#[λy hy=>?_,λp hp=>?_,λy hy=>?_]
 .let#[f,hm,kp,A]:=G.fns y hy
  refine#[f,hm,kp,?_];by_cases e:y=x
  .subst e;rw[bG];erw[F f (.inl #[hy,hm])]
  .rw[ur e];erw[A.mono h]
 .let#[C,f,hc,hm,A]:=G.RH p hp
  refine#[C,f,hc,hm,?_];by_cases e:p.2++"."++p.1=x
  .rw[e,bG];erw[F f (.inr (.inl #[p,hp,e.symm,C,hc,hm]))]
  .rw[ur e];erw[A.mono h]
 .let#[C,f,hc,hg,hm,A]:=G.cls y hy
  refine#[C,f,hc,hg,hm,?_];by_cases e:y++".__init__"=x
  .rw[e,bG];erw[F f (.inr (.inr #[y,hy,e.symm,C,hc,hm]))]
  .rw[ur e];erw[A.mono h]
theorem Na{c:Ctx}{T:Tab}{x:String}{f0 f:Addr}(hm:c.mg (nm x)=some (.ref f0))(h2:(T.qk.all λp=>p.2++"."++p.1 !=x)=true)(h3:(T.qj.all λy=>y++".__init__" !=x)=true)(R:Role c T x f):f=f0:=by
 rcases R with⟨_,e⟩|⟨p,hp,e,_⟩|⟨y,hy,e,_⟩
 .rw[hm] at e;cases e;rfl
 .have:=cz.mp h2 p hp
  rw[e] at this;simp at this
 .have:=cz.mp h3 y hy
  rw[e] at this;simp at this
theorem Nb{c:Ctx}{T:Tab}{m cl:String}{C f0 f:Addr}(hc:c.cls cl=some C)(hm:Meth c.K C (nm m) f0)(h1:T.fns.contains (cl++"."++m)=false)(h2:(T.qk.all λp=>p.2++"."++p.1 !=cl++"."++m||(p.1==m&&p.2==cl))=true)(h3:(T.qj.all λy=>y++".__init__" !=cl++"."++m)=true)(R:Role c T (cl++"."++m) f):f=f0:=by
 rcases R with⟨h,_⟩|⟨p,hp,e,C',hc',hm'⟩|⟨y,hy,e,_⟩
 .erw[absurd (gv.mpr h) (by rw[h1];simp)]
 .have:=cz.mp h2 p hp
  rw[e] at this;simp at this;let#[e1,e2]:=this;rw[e2,hc] at hc';cases hc';rw[e1] at hm';have:=hm.at_.symm.trans hm'.at_;cases this;rfl
 .have:=cz.mp h3 y hy
  rw[e] at this;simp at this
theorem Nc{c:Ctx}{T:Tab}{cl:String}{C f0 f:Addr}(hc:c.cls cl=some C)(hm:Mk c.K C f0)(h1:T.fns.contains (cl++".__init__")=false)(h2:(T.qk.all λp=>p.2++"."++p.1 !=cl++".__init__")=true)(h3:(T.qj.all λy=>y++".__init__" !=cl++".__init__"||y==cl)=true)(R:Role c T (cl++".__init__") f):f=f0:=by
 rcases R with⟨h,_⟩|⟨p,hp,e,C',hc',hm'⟩|⟨y,hy,e,C',hc',hm'⟩
 .erw[absurd (gv.mpr h) (by rw[h1];simp)]
 .have:=cz.mp h2 p hp
  rw[e] at this;simp at this
 .have:=cz.mp h3 y hy
  rw[e] at this;simp at this;rw[this,hc] at hc';cases hc';have:=hm.init.symm.trans hm'.init;cases this;rfl
theorem VC{c:Ctx}{k:Nat}{f:Addr}{fd:dW}{ps:List Str}(B:Binds c.K fd ps []):FnAt c k f wj:=
 #[fd,ps,#[λvs H Q E h=>by let#[us,ρ,S0,QU,EU,r,R,w,q,qx]:=h;erw[w.elim],λA outer s H args us vs Q E hr he hb hv hs=>by let#[us,ρ,S0,QU,EU,r,R,w,q,qx]:=hs;erw[w.elim]],B]
structure Df(c:Ctx)(T:Tab)(st:Stmt)(f:Addr)(N ps:List Str)(b:PL.dm)(m:Nat):Prop where
 fn:∃x qual fd,Kd c.K x qual st f fd/\Binds c.K fd ps []
 sc:lx N ps (bO st)
 tx:∃n,Kg T n #[(bO st).names,N,true] (fK st)=some b
 hm:N.length=ps.length+m
theorem Df.ok{c:Ctx}{T:Tab}{Γ:bT}{st:Stmt}{f:Addr}{N ps:List Str}{b:PL.dm}{m k kx:Nat}{sp:PL.Spec}(D:Df c T st f N ps b m)(B:Base c T kx)(hkx:kx<=k)(G:gc c T Γ k)(hk:PL.Keeps Γ b m sp)(hl:∀us S Q E,sp us S Q E->us.length=ps.length):FnAt c (k+2) f sp:=by
 let#[x,qual,fd,F,Bi]:=D.fn;let#[n,hc]:=D.tx;exact#[fd,ps,NA F D.sc B hkx G hc hk D.hm hl,Bi]
theorem Df.up{c:Ctx}{T:Tab}{Γ:bT}{st:Stmt}{f:Addr}{N ps:List Str}{b:PL.dm}{m k kx:Nat}{x:String}{sp:PL.Spec}(D:Df c T st f N ps b m)(R:∀g,Role c T x g->g=f)(B:Base c T kx)(hkx:kx<=k)(G:gc c T Γ k)(hk:PL.Keeps Γ b m sp)(hl:∀us S Q E,sp us S Q E->us.length=ps.length):gc c T (FW Γ x sp) (k+2):=
 G.add ∅ λg r=>by rw[R g r];erw[D.ok B hkx G hk hl]
def eS(Γ Γ':bT)(l:List String):Prop:=∀x,x∉l->Γ' x=Γ x
theorem eS.refl(Γ:bT)(l:List String):eS Γ Γ l:=λ_ _=>rfl
theorem eS.up{Γ Γ':bT}{l:List String}{x:String}{sp:PL.Spec}(h:eS Γ Γ' l)(m:x∈l):eS Γ (FW Γ' x sp) l:=λy hy=>(ur (λe=>hy (by rw[e];erw[m]))).trans (h y hy)
theorem gc.none{c:Ctx}{T:Tab}{k:Nat}(h1:∀x∈T.fns,∃f,c.mg (nm x)=some (.ref f)/\Bz c.K (.ref f)=true/\FnAt c k f wj)(h2:∀p∈T.qk,∃C f,c.cls p.2=some C/\Meth c.K C (nm p.1) f/\FnAt c k f wj)
  (h3:∀x∈T.qj,∃C f,c.cls x=some C/\c.mg (nm x)=some (.ref C)/\Mk c.K C f/\FnAt c k f wj):gc c T (λ_=>wj) k:=#[h1,h2,h3]
end L2
end
section
set_option autoImplicit false
namespace L2
open PySem PySem.Spec PyProof.Rows PySem.W
open PL (U SO bj Xn KU KX bT)
noncomputable def RN:List String:=["in_order","all_but","is_ahead","stretch","read","joined","Reader.__init__","Reader.sees","Reader.passes","Reader.choice","Reader.row","Reader.repeat","Reader.atom","Reader.bracket","Reader.sign_class","Reader.item","Reader.written_sign"]
structure gg(c:Ctx)(T:Tab)(x:String)(n m:Nat)(b:PL.dm):Prop where
 ex:∃st f N ps,Df c T st f N ps b m/\ps.length=n/\∀g,Role c T x g->g=f
structure GS(c:Ctx)(T:Tab)(kx:Nat)(Γ:bT)(k:Nat):Prop where
 le:kx<=k
 ok:gc c T Γ k
theorem gg.up{c:Ctx}{T:Tab}{Γ:bT}{b:PL.dm}{n m k kx:Nat}{x:String}{sp:PL.Spec}(D:gg c T x n m b)(B:Base c T kx)(G:GS c T kx Γ k)(hk:PL.Keeps Γ b m sp)(hl:∀us S Q E,sp us S Q E->us.length=n):GS c T kx (FW Γ x sp) (k+2):=by
 let#[st,f,N,ps,D0,e,R]:=D.ex;exact#[Nat.le_add_right_of_le G.le,L2.Df.up D0 R B G.le G.ok hk (λus S Q E h=>(hl us S Q E h).trans e.symm)]
structure FX(c:Ctx)(T:Tab):Prop where
 Qj:gg c T "in_order" 1 0 PL.mR
 CO:gg c T "all_but" 1 0 PL.o9
 ahead:gg c T "is_ahead" 2 0 PL.mS
 IT:gg c T "stretch" 2 0 PL.pb
 read:gg c T "read" 1 2 PL.yB
 joined:gg c T "joined" 2 0 PL.qW
 init:gg c T "Reader.__init__" 2 0 PL.jQ
 sees:gg c T "Reader.sees" 2 0 PL.jR
 passes:gg c T "Reader.passes" 2 0 PL.iH
 choice:gg c T "Reader.choice" 1 1 PL.iI
 row:gg c T "Reader.row" 1 1 PL.kA
 repeat_:gg c T "Reader.repeat" 1 1 PL.iJ
 atom:gg c T "Reader.atom" 1 0 PL.jS
 bracket:gg c T "Reader.bracket" 1 1 PL.gW
 cls:gg c T "Reader.sign_class" 1 2 PL.fw
 item:gg c T "Reader.item" 1 3 PL.jT
 ws:gg c T "Reader.written_sign" 2 1 PL.eF
theorem tK{args:List U}{p:List Nat->PL.PR U}{d:Nat}(us:List U)(S:bj)(Q:KU)(E:KX)(h:PL.zH args p d us S Q E):us.length=args.length+1:=by
 let#[r,x,rest,rfl,_]:=h;rfl
theorem len_T{f:List Nat->List Nat}(us:List U)(S:bj)(Q:KU)(E:KX)(h:PL.spT f us S Q E):us.length=1:=by
 let#[l,rfl,_]:=h;rfl
theorem Ba{c:Ctx}{T:Tab}{Γ:bT}{k kx:Nat}(R:FX c T)(B:Base c T kx)(G:GS c T kx Γ k):∃Γ',GS c T kx Γ' (k+16)/\eS Γ Γ' RN/\PL.GR Γ'/\Γ' "joined"=PL.kU/\Γ' "Reader.__init__"=PL.ni:=by
 have g1:=R.Qj.up B G (PL.AM _) len_T;have g2:=R.CO.up B g1 (PL.vp _) len_T;have g3:=R.ahead.up B g2 (PL.AN _) (λus S Q E h=>by let#[a,b,rfl,_]:=h;rfl);have g4:=R.IT.up B g3 (PL.CN _) (λus S Q E h=>by let#[a,b,rfl,_]:=h;rfl);have g5:=R.joined.up B g4 (PL.Fz _) (λus S Q E h=>by let#[a,b,t,rfl,_]:=h;rfl);have g6:=R.init.up B g5 (PL.I9 _) (λus S Q E h=>by let#[a,b,rfl,_]:=h;rfl);have g7:=R.sees.up B g6 (PL.Mv _) (λus S Q E h=>by let#[a,b,_,_,_,rfl,_]:=h;rfl);have g8:=R.passes.up B g7 (PL.Mw _ bG) (λus S Q E h=>by let#[l,d,h]:=h;exact tK _ _ _ _ h);refine#[_,g8,?_,#[rfl,rfl,rfl,rfl,rfl,rfl],rfl,rfl];refine eS.up (eS.up (eS.up (eS.up (eS.up (eS.up (eS.up (eS.up (eS.refl _ _) ?_) ?_) ?_) ?_) ?_) ?_) ?_) ?_<;>decide
theorem VD{Γ:bT}(k d:Nat)(h:d+k=6)(hc:∀j,k=j+1->Γ "Reader.choice"=PL.zH [] (PL.gZ (PL.tH j)) (d+1)):PL.Up Γ (PL.tH k) d:=by
 cases k with
 |zero=>erw[.inl #[rfl,∅]]
 |succ j=>erw[.inr #[_,rfl,∅,PL.sF (j+1),hc j rfl]]
theorem tL{c:Ctx}{T:Tab}{Γ Γ0:bT}{k kx:Nat}(R:FX c T)(B:Base c T kx)(G:GS c T kx Γ k)(Sm:eS Γ0 Γ RN)(gr:PL.GR Γ)(gj:Γ "joined"=PL.kU)(gi:Γ "Reader.__init__"=PL.ni)(n d:Nat)(hd:d+n=6)
  (hc:∀j,n=j+1->Γ "Reader.choice"=PL.zH [] (PL.gZ (PL.tH j)) (d+1)):
  ∃Γ',GS c T kx Γ' (k+16)/\eS Γ0 Γ' RN/\PL.GR Γ'/\Γ' "joined"=PL.kU/\Γ' "Reader.__init__"=PL.ni/\Γ' "Reader.choice"=PL.zH [] (PL.gZ (PL.tH n)) d:=by
 let#[e1,e2,e3,e4,e5,e6]:=gr;have hbo:=PL.sF n;have g1:=R.bracket.up B G (PL.Uq _ #[e1,e2,e3,e4,e5,e6] (PL.tH n) d (VD n d hd hc)) (λus S Q E h=>by let#[a,b,_,rfl,_]:=h;rfl);have g2:=R.ws.up B g1 (PL.IU _ #[e1,e2,e3,e4,e5,e6] d) (λus S Q E h=>by let#[m,h]:=h;exact tK _ _ _ _ h);have g3:=R.item.up B g2 (PL.My _ d #[#[e1,e2,e3,e4,e5,e6],rfl]) tK;have g4:=R.cls.up B g3 (PL.Qk _ d #[#[#[e1,e2,e3,e4,e5,e6],rfl],rfl]) tK;have g5:=R.atom.up B g4 (PL.MC _ (PL.tH n) d #[#[#[#[e1,e2,e3,e4,e5,e6],rfl],rfl],rfl,rfl]) tK;have g6:=R.repeat_.up B g5 (PL.FA _ (PL.tH n) d hbo #[#[#[#[#[e1,e2,e3,e4,e5,e6],rfl],rfl],rfl,rfl],rfl]) tK;have g7:=R.row.up B g6 (PL.Qn _ (PL.tH n) d hbo #[#[#[#[#[#[e1,e2,e3,e4,e5,e6],rfl],rfl],rfl,rfl],rfl],rfl,gj]) tK;have g8:=R.choice.up B g7 (PL.FC _ (PL.tH n) d hbo #[#[#[#[#[#[#[e1,e2,e3,e4,e5,e6],rfl],rfl],rfl,rfl],rfl],rfl,gj],rfl]) tK;refine#[_,g8,?_,#[e1,e2,e3,e4,e5,e6],gj,gi,rfl];refine eS.up (eS.up (eS.up (eS.up (eS.up (eS.up (eS.up (eS.up Sm ?_) ?_) ?_) ?_) ?_) ?_) ?_) ?_<;>decide
theorem vM{c:Ctx}{T:Tab}{Γ Γ0:bT}{k kx:Nat}(R:FX c T)(B:Base c T kx)(G:GS c T kx Γ k)(Sm:eS Γ0 Γ RN)(gr:PL.GR Γ)(gj:Γ "joined"=PL.kU)(gi:Γ "Reader.__init__"=PL.ni):
  ∀(n d:Nat),d+n=6->∃Γ',GS c T kx Γ' (k+16*(n+1))/\eS Γ0 Γ' RN/\PL.GR Γ'/\Γ' "joined"=PL.kU/\Γ' "Reader.__init__"=PL.ni/\Γ' "Reader.choice"=PL.zH [] (PL.gZ (PL.tH n)) d
 |0,d,h=>tL R B G Sm gr gj gi 0 d h (λj e=>∅)
 |n+1,d,h=>by
  let#[Γ1,G1,S1,r1,j1,i1,c1]:=vM R B G Sm gr gj gi n (d+1) ∅;let#[Γ2,G2,z]:=tL R B G1 S1 r1 j1 i1 (n+1) d h (λj e=>by cases e;erw[c1]);exact#[Γ2,G2,z]
theorem C7{c:Ctx}{T:Tab}{Γ:bT}{k kx:Nat}(R:FX c T)(B:Base c T kx)(G:GS c T kx Γ k):∃Γ',GS c T kx Γ' (k+130)/\eS Γ Γ' RN/\Γ' "read"=PL.CQ/\Γ' "all_but"=PL.spT PL.dY:=by
 let#[Γ1,G1,S1,r1,j1,i1]:=Ba R B G;let#[Γ2,G2,S2,r2,j2,i2,c2]:=vM R B G1 S1 r1 j1 i1 6 0 rfl;have g:=R.read.up B G2 (PL.MD _ i2 c2) (λus S Q E h=>by let#[x,rfl,_]:=h;rfl);exact#[_,g,eS.up S2 ⋯,bG,r2.CO]
end L2
end
section
set_option autoImplicit false
namespace L2
open PySem PySem.Spec PyProof.Rows PySem.W
open PL (U SO bj Xn KU KX bT)
structure oK where
 x:String
 q:String
 cl:String
 st:Stmt
 N:List Str
 ps:List Str
 b:PL.dm
def FY(K:Frag)(x qual:Str)(st:Stmt)(f:Addr):Prop:=∃(oc:Value)(od:Option Addr)(kV dc pm:Value)(an:Option Addr)(cd ct:Value)(sl:Array (Option Value)),
 K.lookup f=some #[oc,od,.func (fnOf x qual (ly st) (fK st) (bO st) .none kV dc pm an cd ct),sl]/\codeIn K cd qual=true/\Bz K (.ref f)=true
theorem FY.fn{K:Frag}{x qual:Str}{st:Stmt}{f:Addr}(h:FY K x qual st f):∃fd,Kd K x qual st f fd/\Bz K (.ref f)=true:=by
 let#[oc,od,kV,dc,pm,an,cd,ct,sl,h1,h2,h3]:=h;exact#[_,Hj h1 h2 h3,h3]
inductive Bb(K:Frag)(CA:List (String×Addr)):oK->Prop
 |fn{q:String}{st:Stmt}{N ps:List Str}{b:PL.dm}{f:Addr}:nsIn K bC (b7 q)=some (some (.ref f))->FY K (b7 q) (b7 q) st f->Bb K CA #[q,q,"",st,N,ps,b]
 |mt{x q cl:String}{st:Stmt}{N ps:List Str}{b:PL.dm}{f C:Addr}:(cl=="")=false->CA.lookup cl=some C->findIn K (.ref C) (b7 q)=some (some (.ref f))->isFn K (.ref f)=true->FY K (b7 q) (b7 x) st f->Bb K CA #[x,q,cl,st,N,ps,b]
def zo(r:oK):Prop:=∀(x qual:Str)(kV dc pm:Value)(an:Option Addr)(cd ct:Value)(us:List Value),us.length=r.ps.length->Kn (fnOf x qual (ly r.st) (fK r.st) (bO r.st) .none kV dc pm an cd ct) #[us,[]]=pure (r.ps.zip us)
abbrev JR(r:oK)(us:List Value):Prop:=∀(x qual:Str)(kV dc pm:Value)(an:Option Addr)(cd ct:Value),Kn (fnOf x qual (ly r.st) (fK r.st) (bO r.st) .none kV dc pm an cd ct) #[us,[]]=pure (r.ps.zip us)
theorem Rl{α:Type}{l:List α}{n:Nat}(h:l.length=n+1):∃a r,l=a::r/\r.length=n:=by
 cases l with
 |nil=>erw[absurd h (Nat.succ_ne_zero n).symm]
 |cons a r=>exact#[a,r,rfl,mw h]
theorem ZR{α:Type}{l:List α}(h:l.length=1):∃a,l=[a]:=ju.mp h
theorem ln2{α:Type}{l:List α}(h:l.length=2):∃a b,l=[a,b]:=by
 let#[a,r,rfl,k]:=Rl h;let#[b,rfl]:=ZR k;exact#[a,b,rfl]
theorem ZS{α:Type}{l:List α}(h:l.length=3):∃a b c,l=[a,b,c]:=by
 let#[a,r,rfl,k]:=Rl h;let#[b,c,rfl]:=ln2 k;exact#[a,b,c,rfl]
theorem bd0{r:oK}(e:r.ps.length=0)(h:JR r []):zo r:=λx q a b c d f g us hl=>by
 rw[e] at hl;obtain rfl:=nv.mp hl;erw[h x q a b c d f g]
theorem bd1{r:oK}(e:r.ps.length=1)(h:∀a,JR r [a]):zo r:=λx q a b c d f g us hl=>by
 let#[u,rfl]:=ZR (hl.trans e);erw[h u x q a b c d f g]
theorem bd2{r:oK}(e:r.ps.length=2)(h:∀a b,JR r [a,b]):zo r:=λx q a b c d f g us hl=>by
 let#[u,v,rfl]:=ln2 (hl.trans e);erw[h u v x q a b c d f g]
theorem bd3{r:oK}(e:r.ps.length=3)(h:∀a b c,JR r [a,b,c]):zo r:=λx q a b c d f g us hl=>by
 let#[u,v,w,rfl]:=ZS (hl.trans e);erw[h u v w x q a b c d f g]
theorem bd4{r:oK}(e:r.ps.length=4)(h:∀a b c d,JR r [a,b,c,d]):zo r:=λx q a b c d f g us hl=>by
 let#[u,s,rfl,k]:=Rl (hl.trans e);let#[v,w,z,rfl]:=ZS k;erw[h u v w z x q a b c d f g]
noncomputable def FZ(r:oK):Bool:=(bO r.st).kind==.function && !(bO r.st).isCoroutine && !(bO r.st).isGenerator&&decide r.N.Nodup&&r.N.take r.ps.length==r.ps&&(r.ps.all λx=>(bO r.st).names.lookup x==some .local||(bO r.st).names.lookup x==some .cell)&&((bO r.st).names.all λy=>y.2 !=.free)&&decide (r.ps.length<=r.N.length)
theorem FZ.sc{r:oK}(h:FZ r=true):lx r.N r.ps (bO r.st)/\r.ps.length<=r.N.length:=by
 unfold FZ at h;dsimp[aj,cz,decide_eq_true_eq,bu,beq_iff_eq,gB,bne_iff_ne] at h;let#[#[#[#[#[#[#[h1,h2],h3],h4],h5],h6],h7],h8]:=h;exact#[#[h1,h2,h3,h4,h5,h6,h7],h8]
noncomputable def Rm(T:Tab)(r:oK):Bool:=
 if r.cl=="" then(T.qk.all λp=>p.2++"."++p.1 !=r.x)&&(T.qj.all λy=>y++".__init__" !=r.x)
 else !(T.fns.contains r.x)&&r.x==r.cl++"."++r.q&&if r.q=="__init__" then(T.qk.all λp=>p.2++"."++p.1 !=r.x)&&(T.qj.all λy=>y++".__init__" !=r.x||y==r.cl)
  else(T.qk.all λp=>p.2++"."++p.1 !=r.x||(p.1==r.q&&p.2==r.cl))&&(T.qj.all λy=>y++".__init__" !=r.x)
noncomputable def JS(rows:List oK):List String:=(rows.filter λr=>r.cl=="").map (·.x)
noncomputable def JT(rows:List oK):List (String×String):=(rows.filter λr=>r.cl !=""&&r.q !="__init__").map λr=>(r.q,r.cl)
structure Nd(K:Frag)(p:String×Addr)(fl:List String):Prop where
 ns:nsIn K bC (b7 p.1)=some (some (.ref p.2))
 cl:EX K p.2
 ms:makesIn K p.2=true
 kp:Bz K (.ref p.2)=true
 na:fl.map (λf=>findIn K (.ref p.2) (b7 f))=fl.map λ_=>some none
theorem rN{α:Type}{x:String}{a:α}:∀{l:List (String×α)},l.lookup x=some a->(x,a)∈l
 | (k,v)::l,h=>by
  rw[aN] at h;split at h
  .rename_i e
   have e:x=k:=eq_of_beq e;cases h;subst e;erw[aO ..]
  .erw[aB _ (rN h)]
theorem VE{K:Frag}{C:Addr}{fl:List String}(h:fl.map (λf=>findIn K (.ref C) (b7 f))=fl.map λ_=>some none):∀f∈fl,lQ K C (nm f):=λf m=>sX.mp h f m
section
variable{c:Ctx}{T:Tab}{rows:List oK}{CA:List (String×Addr)}{h:Heap}{fl:List String}
theorem Nf(X:c.K.In h)(G:h.Ns bC c.mg)(hc:c.cls=λx=>CA.lookup x)(hC:∀p∈CA,Nd c.K p fl)(R:∀r∈rows,Bb c.K CA r)(bd:∀r∈rows,zo r)(sc:rows.all FZ=true)(rl:rows.all (Rm T)=true)
  (tx:rows.map (λr=>Kg T 60 #[(bO r.st).names,r.N,true] (fK r.st))=rows.map λr=>some r.b) (i:Nat) (r:oK) (e:rows[i]?=some r):gg c T r.x r.ps.length (r.N.length-r.ps.length) r.b:=by
 have m:=ao e;let#[s1,s2]:=(cz.mp sc r m |> FZ.sc)
 have t:=sX.mp tx r m;have b:=bd r m;have rr:=cz.mp rl r m;have ln:r.N.length=r.ps.length+(r.N.length-r.ps.length):=∅
 cases R r m with
 |fn h1 h2=>
  let#[fd,F,kp]:=h2.fn;refine#[#[_,_,_,_,#[#[_,_,fd,F,F.binds λkV dc pm an cd ct us hl=>b _ _ kV dc pm an cd ct us hl],s1,#[60,t],ln],rfl,λg ro=>?_]];have rr:((T.qk.all λp=>p.2++"."++p.1 !=_)&&(T.qj.all λy=>y++".__init__" !=_))=true:=rr;rw[aj] at rr;erw[Na (qA X G h1) rr.1 rr.2 ro]
 |@mt x q cl st N ps b' f C hn h0 h1 h2 h3=>
  let#[fd,F,kp]:=h3.fn;refine#[#[_,_,_,_,#[#[_,_,fd,F,F.binds λkV dc pm an cd ct us hl=>b _ _ kV dc pm an cd ct us hl],s1,#[60,t],ln],rfl,λg ro=>?_]];unfold Rm at rr;dsimp[hn,ak,if_false,aj,gB,beq_iff_eq] at rr;let#[#[r1,r2],r3]:=rr;have hcl:c.cls cl=some C:=by rw[hc];erw[h0]
  have cm:=hC _ (rN h0);subst r2;by_cases z:q="__init__"
  .subst z
   dsimp[if_true,aj] at r3;have e:cl++"."++"__init__"=cl++".__init__":=by rw[String.append_assoc];rfl
   have ro:Role c T (cl++"."++"__init__") g:=ro;rw[e] at r1 r3 ro;erw[Nc (cl:=cl) hcl #[cm.ms,h1,h2,cm.kp] r1 r3.1 r3.2 ro]
  .rw[if_neg z,aj] at r3
   erw[Nb (m:=q) (cl:=cl) hcl #[h1,h2,kp] r1 r3.1 r3.2 ro]
theorem C8{r:oK}{f:Addr}{x qual:Str}{k:Nat}(b:zo r)(h:FY c.K x qual r.st f):FnAt c k f wj:=by
 let#[fd,F,kp]:=h.fn;erw[VC (F.binds λkV dc pm an cd ct us hl=>b _ _ kV dc pm an cd ct us hl)]
theorem Rn{k:Nat}(X:c.K.In h)(G:h.Ns bC c.mg)(hc:c.cls=λx=>CA.lookup x)(hC:∀p∈CA,Nd c.K p fl)(R:∀r∈rows,Bb c.K CA r)(bd:∀r∈rows,zo r)
  (t1:T.fns=JS rows) (t2:T.qk=JT rows) (t3:∀x∈T.qj,∃r∈rows,r.cl=x/\r.q="__init__"/\(x=="")=false):gc c T (λ_=>wj) k:=by
 rwa[gc.none (λx hx=>?_) (λp hp=>?_) (λx hx=>?_)]
 .rw[t1] at hx
  let#[r,hr,rfl]:=bB.mp hx;let#[m,e]:=eU.mp hr;have b:=bd r m;cases R r m with
  |@fn q st N ps b' f h1 h2=>
   let#[fd,F,kp]:=h2.fn;exact#[f,qA X G h1,kp,C8 b h2]
  |mt hn=>erw[absurd e (by show ¬(_=="")=true;rw[hn];simp)]
 .rw[t2] at hp
  let#[r,hr,rfl]:=bB.mp hp;let#[m,e]:=eU.mp hr;have b:=bd r m;cases R r m with
  |fn h1 h2=>simp at e
  |@mt x q cl st N ps b' f C hn h0 h1 h2 h3=>
   let#[fd,F,kp]:=h3.fn;exact#[C,f,by rw[hc];erw[h0],#[h1,h2,kp],C8 b h3]
 .let#[r,m,rfl,eq,ne]:=t3 x hx
  have b:=bd r m;cases R r m with
  |fn h1 h2=>simp at ne
  |@mt x q cl st N ps b' f C hn h0 h1 h2 h3=>
   have eq:q="__init__":=eq;subst eq;have cm:=hC _ (rN h0);exact#[C,f,by rw[hc];erw[h0],qA X G cm.ns,#[cm.ms,h1,h2,cm.kp],C8 b h3]
theorem Ro(hc:c.cls=λx=>CA.lookup x)(hC:∀p∈CA,Nd c.K p fl)(x:String)(C:Addr)(h:c.cls x=some C):EX c.K C/\∀f∈fl,lQ c.K C (nm f):=by
 rw[hc] at h;have:=hC _ (rN h);exact#[this.cl,VE this.na]
end
theorem uu{c:Ctx}{x:String}{s:Str}{t:Tok}{l:List Nat}(h:c.mg (nm x)=some (.str s t))(e:s=tx l):∃v u,c.mg (nm x)=some u/\RelV v u/\∀ρ H,Rep c ρ H (.str l) v:=
 #[.str (tx l),_,h,#[t,by rw[e]],λ_ _=>bx.mpr rfl]
theorem Bc{K:Frag}{a:Addr}:∀(kvs:List (Str×Str)),(∀p∈kvs,∃t,nsIn K a p.1=some (some (.str p.2 t)))->∀k v,(kvs.map λp=>(p.1,V.str p.2)).lookup k=some v->∃u,RelV v u/\nsIn K a k=some (some u)
 |[],_,k,v,h=>by simp at h
 |p::r,hp,k,v,h=>by
  rw[ay,aN] at h;split at h
  .rename_i e
   have e:k=p.1:=eq_of_beq e;cases h;let#[t,z]:=hp p (aO ..);exact#[_,#[t,rfl],by rw[e];erw[z]]
  .erw[Bc r (λq hq=>hp q (aB _ hq)) k v h]
noncomputable def F3:Value->Option Str
 |.str s _=>some s
 |_=>none
theorem Ep(k:Str):∀(es:List ij)(ks:List Str),es.map (λe=>F3 e.key)=ks.map some->k∉ks->es.find? (·.key.isStr k)=none/\es.any (·.refKey)=false
 |[],_,_,_=>#[rfl,rfl]
 |e::r,[],h,_=>by cases h
 |⟨hs,ky,vl⟩::r,q::ks,h,n=>by
  rw[ay,ay,dG] at h;let#[i,j]:=Ep k r ks h.2 λz=>n (aB _ z)
  have h1:F3 ky=some q:=h.1;cases ky with
  |str s t=>
   have e:s=q:=aH h1;subst e;have ne:(s==k)=false:=by
    rw[beq_eq_false_iff_ne];erw[λz=>n (z▸aO ..)]
   exact#[by rw[dQ];show(match (s==k) with|true=>_|false=>_)=_;rw[ne];erw[i],by rw[cU,j];rfl]
  |_=>cases h1
theorem Ng{c:Ctx}{x:String}{a:Addr}{es:Array ij}{n:Nat}{kvs:List (List Nat×List Nat)}(h:c.mg (nm x)=some (.ref a))(l:c.K.lookup a=some #[.type "dict",none,.dict es n,#[]])(kl:Bm c.w.params es.toList)
  (ky:es.toList.map (λe=>F3 e.key)=(kvs.map λp=>tx p.1).map some) (ns:(a==bY)=false)
  (hk:∀p∈kvs,∃t,nsIn c.K a (tx p.1)=some (some (.str (tx p.2) t))):∃v u,c.mg (nm x)=some u/\RelV v u/\∀ρ H,Rep c ρ H (.tab kvs) v:=by
 refine#[.ref a,_,h,rfl,λρ H=>uf.mpr #[a,rfl,#[es,n,l,kl],λk v e=>?_,λk e=>?_,ns]]
 .rwa[Bc (kvs.map λp=>(tx p.1,tx p.2)) ?_ k v (by rw[bq];erw[e])]
  intro p hp;let#[q,hq,rfl]:=bB.mp hp;erw[hk q hq]
 .have nm:k∉kvs.map λp=>tx p.1:=λz=>by
   let#[q,hq,rfl]:=bB.mp z;have:=List.lookup_eq_none_iff.mp e (tx q.1,V.str (tx q.2)) (bB.mpr #[q,hq,rfl]);simp at this
  let#[i,j]:=Ep k _ _ ky nm;unfold nsIn;rw[l]
  show(match es.toList.find? (·.key.isStr k) with|some e=>some (some e.val)|none=>if es.toList.any (·.refKey) then none else some none)=some none
  rw[i,j]
  rfl
theorem VF{c:Ctx}{x:String}{a:Addr}{es:Array ij}{n:Nat}{z0 z1 z2 k0 k1 k2:Str}{t0 t1 t2:Tok}{l0 l1 l2 m0 m1 m2:List Nat}(h:c.mg (nm x)=some (.ref a))(l:c.K.lookup a=some #[.type "dict",none,.dict es n,#[]])(kl:Bm c.w.params es.toList)
  (ky:es.toList.map (λe=>F3 e.key)= [some k0,some k1,some k2]) (ns:(a==bY)=false) (c0:k0=tx l0) (c1:k1=tx l1) (c2:k2=tx l2)
  (r0:nsIn c.K a k0=some (some (.str z0 t0))) (e0:z0=tx m0) (r1:nsIn c.K a k1=some (some (.str z1 t1))) (e1:z1=tx m1) (r2:nsIn c.K a k2=some (some (.str z2 t2))) (e2:z2=tx m2):
  ∃v u,c.mg (nm x)=some u/\RelV v u/\∀ρ H,Rep c ρ H (.tab [(l0,m0),(l1,m1),(l2,m2)]) v:=by
 subst c0 c1 c2 e0 e1 e2;rwa[Ng h l kl ky ns ?_];erw[aU.mpr #[#[t0,r0],aU.mpr #[#[t1,r1],aU.mpr #[#[t2,r2],λ_ h=>(cy h).elim]]]]
end L2
end
section
set_option autoImplicit false
namespace L2
open PySem PySem.Spec PyProof.Rows PySem.W
open PL (U SO bj Xn KU KX bT)
theorem gc.mono{c:Ctx}{T:Tab}{Γ:bT}{j k:Nat}(G:gc c T Γ j)(h:j<=k):gc c T Γ k:=
 #[λx hx=>let ⟨f,a,b,d⟩:=G.fns x hx;#[f,a,b,d.mono h],λp hp=>let ⟨C,f,a,b,d⟩:=G.RH p hp;#[C,f,a,b,d.mono h],λx hx=>let ⟨C,f,a,b,e,d⟩:=G.cls x hx;#[C,f,a,b,e,d.mono h]]
theorem gc.mix{c:Ctx}{T:Tab}{Γ Γ1 Γ2:bT}{k:Nat}(G1:gc c T Γ1 k)(G2:gc c T Γ2 k)(h:∀x,Γ x=Γ1 x\/Γ x=Γ2 x):gc c T Γ k:=by
 refine#[λx hx=>?_,λp hp=>?_,λx hx=>?_]
 .rcases h x with e|e<;>rw[e]
  .erw[G1.fns x hx]
  .erw[G2.fns x hx]
 .rcases h (p.2++"."++p.1) with e|e<;>rw[e]
  .erw[G1.RH p hp]
  .erw[G2.RH p hp]
 .rcases h (x++".__init__") with e|e<;>rw[e]
  .erw[G1.cls x hx]
  .erw[G2.cls x hx]
theorem GS.mono{c:Ctx}{T:Tab}{kx:Nat}{Γ:bT}{j k:Nat}(G:GS c T kx Γ j)(h:j<=k):GS c T kx Γ k:=#[aP G.le h,gc.mono G.ok h]
structure Rr(c:Ctx)(T:Tab):Prop where
 written:gg c T "written" 1 0 PL.pd
 row:gg c T "row_text" 1 0 PL.mT
 rep:gg c T "repeat_text" 1 2 PL.jU
 atom:gg c T "atom_text" 1 0 PL.lA
 place:gg c T "place_text" 1 0 PL.kB
 sign:gg c T "sign_text" 2 0 PL.lB
 texts:gg c T "class_texts" 1 1 PL.jV
 guarded:gg c T "guarded" 1 0 PL.pe
 items:gg c T "class_items" 1 2 PL.jW
 runs:gg c T "runs" 1 3 PL.yC
 YB:gg c T "run_items" 1 2 PL.lC
open PL.mj in
structure zq(c:Ctx)(T:Tab):Prop where
 po:gg c T "places_of" 2 4 lE
 to:gg c T "tree_of" 2 1 ph
 mem:gg c T "members" 1 0 pj
 pt:gg c T "Part.__init__" 4 0 lF
 ZT:gg c T "one_behind_other" 2 2 fL
 ZU:gg c T "one_or_other" 2 0 jc
 li:gg c T "Layout.__init__" 1 0 jX
 hm:gg c T "Layout.how_many" 1 0 f9
 cr:gg c T "Layout.close_rule" 2 0 fA
 lk:gg c T "Layout.link" 3 1 jY
 lay:gg c T "Layout.lay" 2 0 kC
 lp:gg c T "Layout.lay_place" 2 1 fM
 lr:gg c T "Layout.lay_row" 2 3 gX
 lc:gg c T "Layout.lay_choice" 2 2 fB
 lq:gg c T "Layout.lay_repeat" 2 4 fD
 us:gg c T "useful_places" 1 5 iK
 ptt:gg c T "places_that_take" 2 0 fN
 pi:gg c T "Places.__init__" 2 1 jZ
 by_:gg c T "Places.beyond" 2 2 iL
 fr:gg c T "Places.first_rule" 2 2 fE
open PL.mj in
structure C9(c:Ctx)(T:Tab):Prop where
 cell:gg c T "_law_cell" 2 0 PL.tD.lD
 mix:gg c T "_law_mix" 2 1 PL.tD.mU
 all:gg c T "_law_all" 0 1 PL.tD.mV
 no:gg c T "_law_nothing" 1 0 jd
 be:gg c T "_law_behind" 2 4 j0
 re:gg c T "_law_rests" 2 3 kD
 ed:gg c T "_law_ends" 1 0 oC
 f1:gg c T "_law_first" 2 3 PL.ue.kI
 sm:gg c T "_law_small" 3 3 kE
 tr:gg c T "_law_trees" 4 3 kF
 tx:gg c T "_law_text" 3 0 lG
open PL.ue in
structure VG(c:Ctx)(T:Tab):Prop where
 tb:gg c T "table_of" 1 0 mW
 ti:gg c T "Table.__init__" 3 0 kG
 go:gg c T "Table.goes" 3 0 kH
 fi:gg c T "Table.first" 2 2 j5
 sp:gg c T "spread" 1 7 qX
 st:gg c T "smallest" 1 5 mY
 wn:gg c T "with_nowhere" 1 1 je
 ro:gg c T "rounds" 2 3 qY
 pa:gg c T "parted" 3 3 qZ
 nu:gg c T "numbered" 1 1 mZ
 te:gg c T "telling_signs" 1 2 iM
open PL PL.mj in
theorem Bd{D:Tr->Prop}{f:Tr->List Nat}(us:List U)(S:bj)(Q:KU)(E:KX)(h:Ee D f us S Q E):us.length=1:=by
 let#[_,rfl,_]:=h;rfl
open PL PL.mj in
theorem xK{D:Tr->U->Prop}(us:List U)(S:bj)(Q:KU)(E:KX)(h:gI D us S Q E):us.length=2:=by
 let#[_,_,_,_,_,_,rfl,_]:=h;rfl
open PL PL.mj in
theorem uv{c:Ctx}{T:Tab}{Γ:bT}{j kx:Nat}(W:Rr c T)(B:Base c T kx)(G:GS c T kx Γ j)(k:Nat)(hk:k<=10)(D:Tr->Prop)(hD:∀t,bU t<=k->A3 t->D t)(hp:Γ "place_text"=MS)(hw:Γ "written"=Ee D wr):
  ∃Γ',GS c T kx Γ' (j+8)/\Γ' "place_text"=MS/\Γ' "written"=Ee (λt=>bU t<=k\/(A3 t/\bU t<=k+1)) wr:=by
 have g1:=W.atom.up B G (QT _ k D hD hp hw) Bd;have g2:=W.rep.up B g1 (QW _ k hk bG) Bd;have g3:=W.row.up B g2 (QY _ k bG) Bd;have g4:=W.written.up B g3 (QZ _ k bG) Bd;exact#[_,g4,hp,bG]
open PL PL.mj in
theorem VH{c:Ctx}{T:Tab}{Γ:bT}{j kx:Nat}(R:FX c T)(W:Rr c T)(B:Base c T kx)(G:GS c T kx Γ j):∃Γ',GS c T kx Γ' (j+50)/\Γ' "written"=Ee (λt=>bU t<=3\/(A3 t/\bU t<=3+1)) wr:=by
 have a0:=R.CO.up B G (vp _) len_T;have a1:=W.sign.up B a0 (U2 _) (λus S Q E h=>by let#[_,_,rfl,_]:=h;rfl);have a2:=W.YB.up B a1 (U4 _ bG) (λus S Q E h=>by let#[_,rfl,_]:=h;rfl);have a3:=W.runs.up B a2 (U6 _) (λus S Q E h=>by let#[_,rfl,_]:=h;rfl);have a4:=W.items.up B a3 (U8 _ rfl rfl) (λus S Q E h=>by let#[_,rfl,_]:=h;rfl);have a5:=W.guarded.up B a4 (Va _) (λus S Q E h=>by let#[_,_,rfl,_]:=h;rfl);have a6:=W.texts.up B a5 (Vc _ rfl rfl rfl) (λus S Q E h=>by let#[_,rfl,_]:=h;rfl);have a7:=W.place.up B a6 (Vd _ rfl rfl rfl) (λus S Q E h=>by let#[_,rfl,_]:=h;rfl);have a8:=W.written.up B a7 (sp:=Ee (λ_=>False) wr) (λus S Q E h=>by let#[_,_,h,_]:=h;exact h.elim) Bd;let#[Γ1,G1,p1,w1]:=uv W B a8 0 ∅ _ (λt d r=>by cases t<;>first|exact r.elim|exact absurd d (Nat.not_succ_le_zero _)) rfl bG;obtain⟨Γ2,G2,p2,w2⟩:=uv W B G1 1 ∅ _ (λt d r=>.inr #[r,d]) p1 w1;obtain⟨Γ3,G3,p3,w3⟩:=uv W B G2 2 ∅ _ (λt d r=>.inr #[r,d]) p2 w2;obtain⟨Γ4,G4,p4,w4⟩:=uv W B G3 3 ∅ _ (λt d r=>.inr #[r,d]) p3 w3;exact#[Γ4,G4,w4]
section
open PL PL.mj
structure GP(Γ:bT):Prop where
 mem:Γ "members"=AW
 pt:Γ "Part.__init__"=yS
 ZT:Γ "one_behind_other"=qr sI
 ZU:Γ "one_or_other"=qr Uv
 li:Γ "Layout.__init__"=Qw
 hm:Γ "Layout.how_many"=Qx
 cr:Γ "Layout.close_rule"=Qy
 lk:Γ "Layout.link"=Ji
 lp:Γ "Layout.lay_place"=gI λt u=>∃n l,t=.one n l/\u=.str l
variable{c:Ctx}{T:Tab}{Γ:bT}{j kx:Nat}
theorem Nh(P:zq c T)(B:Base c T kx)(G:GS c T kx Γ j):∃Γ',GS c T kx Γ' (j+20)/\GP Γ'/\Γ' "Layout.lay"=gI (Tu 0):=by
 have g1:=P.mem.up B G (Qt _) (λus S Q E h=>by let#[_,rfl,_]:=h;rfl);have g2:=P.pt.up B g1 (Uu _) (λus S Q E h=>by let#[_,_,_,_,rfl,_]:=h;rfl);have g3:=P.ZT.up B g2 (Qu _ bG) (λus S Q E h=>by let#[_,_,_,_,_,_,_,_,rfl,_]:=h;rfl);have g4:=P.ZU.up B g3 (Uw _ rfl) (λus S Q E h=>by let#[_,_,_,_,_,_,_,_,rfl,_]:=h;rfl);have g5:=P.li.up B g4 (Ux _) (λus S Q E h=>by let#[_,rfl,_]:=h;rfl);have g6:=P.hm.up B g5 (Uy _) (λus S Q E h=>by let#[_,_,_,_,rfl,_]:=h;rfl);have g7:=P.cr.up B g6 (Uz _) (λus S Q E h=>by let#[_,_,_,_,_,_,_,_,_,_,rfl,_]:=h;rfl);have g8:=P.lk.up B g7 (UB _ rfl) (λus S Q E h=>by let#[_,_,_,_,_,_,rfl,_]:=h;rfl);have g9:=P.lp.up B g8 (UC _ rfl) xK;have ga:=P.lay.up B g9 (sp:=gI (Tu 0)) (λus S Q E h=>by let#[_,_,_,_,_,_,_,h,_]:=h;erw[absurd h.1 (dX _)]) xK;exact#[_,ga,#[rfl,rfl,rfl,rfl,rfl,rfl,rfl,rfl,rfl],bG]
theorem rO(P:zq c T)(B:Base c T kx)(G:GS c T kx Γ j)(g:GP Γ)(d:Nat)(hd:d<=100)(hl:Γ "Layout.lay"=gI (Tu d)):∃Γ',GS c T kx Γ' (j+8)/\GP Γ'/\Γ' "Layout.lay"=gI (Tu (d+1)):=by
 let#[e1,e2,e3,e4,e5,e6,e7,e8,e9]:=g;have g1:=P.lr.up B G (UG _ d e2 hl e8 e3) xK;have g2:=P.lc.up B g1 (UH _ d e2 hl e4) xK;have g3:=P.lq.up B g2 (UI _ d hd e2 hl e8) xK;have g4:=P.lay.up B g3 (QE _ d e9 rfl rfl rfl) xK;exact#[_,g4,#[e1,e2,e3,e4,e5,e6,e7,e8,e9],bG]
theorem VI(P:zq c T)(B:Base c T kx)(G:GS c T kx Γ j):∃Γ',GS c T kx Γ' (j+75)/\GP Γ'/\Γ' "Layout.lay"=gI (Tu 4)/\Γ' "Places.__init__"=Jl/\Γ' "Places.beyond"=Jm/\Γ' "Places.first_rule"=Jn:=by
 let#[Γ0,G0,p0,l0]:=Nh P B G;let#[Γ1,G1,p1,l1]:=rO P B G0 p0 0 ∅ l0;let#[Γ2,G2,p2,l2]:=rO P B G1 p1 1 ∅ l1;let#[Γ3,G3,p3,l3]:=rO P B G2 p2 2 ∅ l2;let#[Γ4,G4,p4,l4]:=rO P B G3 p3 3 ∅ l3;let#[e1,e2,e3,e4,e5,e6,e7,e8,e9]:=p4;have g1:=P.us.up B G4 (UK _ e1) (λus S Q E h=>by let#[_,_,_,_,rfl,_]:=h;rfl);have g2:=P.ptt.up B g1 (QF _) (λus S Q E h=>by let#[_,_,_,_,_,rfl,_]:=h;rfl);have g3:=P.pi.up B g2 (UM _ rfl bG) (λus S Q E h=>by let#[_,_,_,_,_,rfl,_]:=h;rfl);have g4:=P.by_.up B g3 (UN _ e1) (λus S Q E h=>by let#[_,_,_,_,_,rfl,_]:=h;rfl);have g5:=P.fr.up B g4 (UO _) (λus S Q E h=>by let#[_,_,_,_,_,rfl,_]:=h;rfl);exact#[_,g5.mono ∅,#[e1,e2,e3,e4,e5,e6,e7,e8,e9],l4,rfl,rfl,bG]
open PL.ue in
theorem VJ(W:VG c T)(B:Base c T kx)(G:GS c T kx Γ j)(h1:Γ "Places.beyond"=Jm)(h2:Γ "Places.first_rule"=Jn)(g:GP Γ)(h3:Γ "Layout.lay"=gI (Tu 4))(h4:Γ "Places.__init__"=Jl):∃Γ',GS c T kx Γ' (j+25)/\GP Γ'/\Γ' "Layout.lay"=gI (Tu 4)/\Γ' "Places.__init__"=Jl/\Γ' "spread"=Rf/\Γ' "smallest"=Rj/\Γ' "Table.first"=JM/\Γ' "Table.goes"=FR:=by
 let#[e1,e2,e3,e4,e5,e6,e7,e8,e9]:=g;have g1:=W.nu.up B G (Q2 _) (λus S Q E h=>by let#[_,rfl,_]:=h;rfl);have g2:=W.te.up B g1 (Q3 _) (λus S Q E h=>by let#[_,_,_,rfl,_]:=h;rfl);have g3:=W.wn.up B g2 (Vj _) (λus S Q E h=>by let#[_,_,_,rfl,_]:=h;rfl);have g4:=W.pa.up B g3 (Q6 _ rfl) (λus S Q E h=>by let#[_,_,_,_,_,_,_,rfl,_]:=h;rfl);have g5:=W.ro.up B g4 (Vo _ rfl rfl bG) (λus S Q E h=>by let#[_,_,_,_,rfl,_]:=h;rfl);have g6:=W.ti.up B g5 (Vp _) (λus S Q E h=>by let#[_,_,_,_,rfl,_]:=h;rfl);have g7:=W.go.up B g6 (Vq _) (λus S Q E h=>by let#[_,_,_,_,_,_,rfl,_]:=h;rfl);have g8:=W.fi.up B g7 (Vr _ bG) (λus S Q E h=>by let#[_,_,_,_,_,rfl,_]:=h;rfl);have g9:=W.sp.up B g8 (Vu _ h1 h2 rfl) (λus S Q E h=>by let#[_,_,_,_,_,rfl,_]:=h;rfl);have ga:=W.st.up B g9 (Vv _ rfl rfl rfl) (λus S Q E h=>by let#[_,_,_,_,_,rfl,_]:=h;rfl);exact#[_,ga.mono ∅,#[e1,e2,e3,e4,e5,e6,e7,e8,e9],h3,h4,rfl,bG,rfl,rfl]
theorem rP(L:C9 c T)(B:Base c T kx)(G:GS c T kx Γ j)(d:Nat)(hd:d<=100)(h1:Γ "_law_nothing"=yY d)(h2:Γ "_law_behind"=C1 d):∃Γ',GS c T kx Γ' (j+4)/\Γ' "_law_nothing"=yY (d+1)/\Γ' "_law_behind"=C1 (d+1):=by
 have g1:=L.be.up B G (UX _ d hd h2 h1) (λus S Q E h=>by let#[_,_,rfl,_]:=h;rfl);have g2:=L.no.up B g1 (UW _ d h1) (λus S Q E h=>by let#[_,rfl,_]:=h;rfl);exact#[_,g2,bG,rfl]
theorem VL(L:C9 c T)(B:Base c T kx)(G:GS c T kx Γ j):∃Γ',GS c T kx Γ' (j+60)/\Γ' "_law_mix"=tD.xw/\Γ' "_law_trees"=QQ/\Γ' "_law_text"=QR/\Γ' "_law_first"=PL.ue.JQ/\Γ' "_law_all"=tD.AU:=by
 have a1:=L.no.up B G (sp:=yY 0) (λus S Q E h=>by
  obtain⟨_,_,⟨_,_,h,_⟩|⟨_,_,h,_⟩⟩:=h
  .erw[absurd h (dX _)]
  .erw[absurd h (dX _)]) (λus S Q E h=>by let#[_,rfl,_]:=h;rfl)
 have a2:=L.be.up B a1 (sp:=C1 0) (λus S Q E h=>by
  obtain⟨_,_,_,⟨_,_,h,_⟩|⟨_,_,h,_⟩⟩:=h
  .erw[absurd h (dX _)]
  .erw[absurd h (dX _)]) (λus S Q E h=>by let#[_,_,rfl,_]:=h;rfl)
 let#[Γ1,G1,n1,b1]:=rP L B a2 0 ∅ rfl bG;let#[Γ2,G2,n2,b2]:=rP L B G1 1 ∅ n1 b1;let#[Γ3,G3,n3,b3]:=rP L B G2 2 ∅ n2 b2;let#[Γ4,G4,n4,b4]:=rP L B G3 3 ∅ n3 b3;let#[Γ5,G5,n5,b5]:=rP L B G4 4 ∅ n4 b4;have c1:=L.cell.up B G5 (sp:=tD.CS) (tD.MF _) (λus S Q E h=>by let#[_,_,rfl,_]:=h;rfl);have c2:=L.mix.up B c1 (sp:=tD.xw) (tD.Qo _ bG) (λus S Q E h=>by let#[_,_,rfl,_]:=h;rfl);have c3:=L.all.up B c2 (sp:=tD.AU) (tD.Qp _) (λus S Q E h=>by let#[rfl,_]:=h;rfl);have c4:=L.sm.up B c3 (sp:=MU 0) (λus S Q E h=>by let#[_,_,_,_,_,h,_]:=h;erw[absurd h (dX _)]) (λus S Q E h=>by let#[_,_,_,rfl,_]:=h;rfl);have c5:=L.sm.up B c4 (Jy _ 0 rfl rfl bG) (λus S Q E h=>by let#[_,_,_,rfl,_]:=h;rfl);have c6:=L.sm.up B c5 (Jy _ 1 rfl rfl bG) (λus S Q E h=>by let#[_,_,_,rfl,_]:=h;rfl);have c7:=L.sm.up B c6 (Jy _ 2 rfl rfl bG) (λus S Q E h=>by let#[_,_,_,rfl,_]:=h;rfl);have c8:=L.tr.up B c7 (Ve _ bG n5) (λus S Q E h=>by let#[_,_,rfl,_]:=h;rfl);have c9:=L.tx.up B c8 (Vf _ rfl) (λus S Q E h=>by let#[_,_,_,rfl,_]:=h;rfl);have cc:=L.re.up B c9 (UZ _ b5) (λus S Q E h=>by let#[_,_,_,_,_,_,rfl,_]:=h;rfl);have cd:=L.ed.up B cc (U1 _ n5) (λus S Q E h=>by let#[_,_,_,_,rfl,_]:=h;rfl);have ce:=L.f1.up B cd (PL.ue.Vz _ rfl bG) (λus S Q E h=>by let#[_,_,_,rfl,_]:=h;rfl);exact#[_,ce.mono ∅,rfl,rfl,rfl,bG,rfl]
theorem zr{Γ1 Γ2:bT}(l:List String)(G1:GS c T kx Γ1 j)(G2:GS c T kx Γ2 j):GS c T kx (λx=>if x∈l then Γ1 x else Γ2 x) j:=#[G1.le,gc.mix G1.ok G2.ok λx=>by
 by_cases h:x∈l
 .erw[.inl (if_pos h)]
 .erw[.inr (if_neg h)]]
theorem JU{xs qual:Str}{st:Stmt}{f:Addr}{fd:dW}{N ps:List Str}(R:FX c T)(W:Rr c T)(P:zq c T)(Tb:VG c T)(L:C9 c T)(F:Kd c.K xs qual st f fd)(S:lx N ps (bO st))(tx:Kg T 60 #[(bO st).names,N,true] (fK st)=some PL.ue.DG)(hm:N.length=ps.length+9)(hp:ps.length=1)(B:Base c T 1)(G:gc c T (λ_=>wj) 1):kg c.P c.w c.K c.mg c.base (tQ c.P c.w) 200 f fd ps (lift c CJ):=by
 have G:GS c T 1 (λ_=>wj) 1:=#[ar _,G]
 obtain⟨Γr,Gr,-,hr,-⟩:=C7 R B G;let#[Γw,Gw,hw]:=VH R W B G;let#[Γq,Gq,gq,ql,qi,qb,qf]:=VI P B G;let#[Γp,Gp,gp,pl,pi,ps1,pt,pf,pg]:=VJ Tb B Gq qb qf gq ql qi;let#[Γl,Gl,l1,l2,l3,l4,l5]:=VL L B G;let#[e1,e2,e3,e4,e5,e6,e7,e8,e9]:=gp;have m1:=zr ["read"] Gr (Gp.mono (k:=1+130) ∅);have g1:=P.to.up B m1 (UR _ hr) (λus S Q E h=>by let#[_,_,_,_,rfl,_]:=h;rfl);have g2:=P.po.up B g1 (UT _ e5 pl bG e6 e7 pi) (λus S Q E h=>by let#[_,_,_,_,rfl,_]:=h;rfl);have g4:=Tb.tb.up B g2 (PL.ue.Vy _ bG ps1 pt) (λus S Q E h=>by let#[_,_,_,rfl,_]:=h;rfl);have m2:=zr ["written"] (Gw.mono (k:=139) ∅) (g4.mono ∅);have m3:=zr ["_law_mix","_law_trees","_law_text","_law_first","_law_all"] (Gl.mono (k:=139) ∅) m2;have h:=NA F S B m3.le m3.ok tx (sp:=CJ) (PL.ue.Rk _ l1 l2 l3 hw rfl l5 pf l4 pg) hm (λus S Q E h=>by let#[_,rfl,_]:=h;erw[hp.symm]);erw[h.mono ∅]
end
end L2
end
section
set_option autoImplicit false
namespace Dc
open PySem PySem.Spec PyProof.Rows PySem.W L2
noncomputable def top(i:Nat):Stmt:=PySem.Challenge.pw_tokenwright_k22_tables_gone_through.main.body.getD i (.Pass #[0,0,0,0])
noncomputable def rows:List oK:=
 #["in_order","in_order","",top 10,["signs"],["signs"],PL.mR]::
 #["all_but","all_but","",top 11,["signs"],["signs"],PL.o9]::
 #["is_ahead","is_ahead","",top 12,["one","other"],["one","other"],PL.mS]::
 #["stretch","stretch","",top 13,["first","last"],["first","last"],PL.pb]::
 #["read","read","",top 18,["text","reader","tree"],["text"],PL.yB]::
 #["joined","joined","",top 19,["kind","trees"],["kind","trees"],PL.qW]::
 #["Reader.__init__","__init__","Reader",inClass (top 20) 0,["self","text"],["self","text"],PL.jQ]::
 #["Reader.sees","sees","Reader",inClass (top 20) 1,["self","signs"],["self","signs"],PL.jR]::
 #["Reader.passes","passes","Reader",inClass (top 20) 2,["self","signs"],["self","signs"],PL.iH]::
 #["Reader.choice","choice","Reader",inClass (top 20) 3,["self","trees"],["self"],PL.iI]::
 #["Reader.row","row","Reader",inClass (top 20) 4,["self","trees"],["self"],PL.kA]::
 #["Reader.repeat","repeat","Reader",inClass (top 20) 5,["self","tree"],["self"],PL.iJ]::
 #["Reader.atom","atom","Reader",inClass (top 20) 6,["self"],["self"],PL.jS]::
 #["Reader.bracket","bracket","Reader",inClass (top 20) 7,["self","tree"],["self"],PL.gW]::
 #["Reader.sign_class","sign_class","Reader",inClass (top 20) 8,["self","turned","taken"],["self"],PL.fw]::
 #["Reader.item","item","Reader",inClass (top 20) 9,["self","first","second_at","second"],["self"],PL.jT]::
 #["Reader.written_sign","written_sign","Reader",inClass (top 20) 10,["self","marked","sign"],["self","marked"],PL.eF]::
 #["written","written","",top 47,["tree"],["tree"],PL.pd]::
 #["row_text","row_text","",top 48,["tree"],["tree"],PL.mT]::
 #["repeat_text","repeat_text","",top 49,["tree","marks","inner"],["tree"],PL.jU]::
 #["atom_text","atom_text","",top 50,["tree"],["tree"],PL.lA]::
 #["place_text","place_text","",top 51,["signs"],["signs"],PL.kB]::
 #["sign_text","sign_text","",top 52,["sign","marked"],["sign","marked"],PL.lB]::
 #["class_texts","class_texts","",top 53,["signs","texts"],["signs"],PL.jV]::
 #["guarded","guarded","",top 54,["items"],["items"],PL.pe]::
 #["class_items","class_items","",top 55,["signs","items","run"],["signs"],PL.jW]::
 #["runs","runs","",top 56,["signs","found","run","sign"],["signs"],PL.yC]::
 #["run_items","run_items","",top 57,["run","singles","whole"],["run"],PL.lC]::
 #["places_of","places_of","",top 24,["rules","most","layout","number","rule","part"],["rules","most"],PL.mj.lE]::
 #["tree_of","tree_of","",top 25,["rule","number","fault"],["rule","number"],PL.mj.ph]::
 #["members","members","",top 26,["bits"],["bits"],PL.mj.pj]::
 #["Part.__init__","__init__","Part",inClass (top 27) 0,["self","empty","firsts","lasts"],["self","empty","firsts","lasts"],PL.mj.lF]::
 #["one_behind_other","one_behind_other","",top 28,["one","other","firsts","lasts"],["one","other"],PL.mj.fL]::
 #["one_or_other","one_or_other","",top 29,["one","other"],["one","other"],PL.mj.jc]::
 #["Layout.__init__","__init__","Layout",inClass (top 30) 0,["self"],["self"],PL.mj.jX]::
 #["Layout.how_many","how_many","Layout",inClass (top 30) 1,["self"],["self"],PL.mj.f9]::
 #["Layout.close_rule","close_rule","Layout",inClass (top 30) 2,["self","part"],["self","part"],PL.mj.fA]::
 #["Layout.link","link","Layout",inClass (top 30) 3,["self","lasts","firsts","place"],["self","lasts","firsts"],PL.mj.jY]::
 #["Layout.lay","lay","Layout",inClass (top 30) 4,["self","tree"],["self","tree"],PL.mj.kC]::
 #["Layout.lay_place","lay_place","Layout",inClass (top 30) 5,["self","signs","place"],["self","signs"],PL.mj.fM]::
 #["Layout.lay_row","lay_row","Layout",inClass (top 30) 6,["self","trees","whole","tree","part"],["self","trees"],PL.mj.gX]::
 #["Layout.lay_choice","lay_choice","Layout",inClass (top 30) 7,["self","trees","whole","tree"],["self","trees"],PL.mj.fB]::
 #["Layout.lay_repeat","lay_repeat","Layout",inClass (top 30) 8,["self","tree","marks","inner","part","empty"],["self","tree"],PL.mj.fD]::
 #["useful_places","useful_places","",top 31,["layout","takes_some","grown","lasts","useful","place"],["layout"],PL.mj.iK]::
 #["places_that_take","places_that_take","",top 32,["layout","sign"],["layout","sign"],PL.mj.fN]::
 #["Places.__init__","__init__","Places",inClass (top 33) 0,["self","layout","useful"],["self","layout"],PL.mj.jZ]::
 #["Places.beyond","beyond","Places",inClass (top 33) 1,["self","held","reached","place"],["self","held"],PL.mj.iL]::
 #["Places.first_rule","first_rule","Places",inClass (top 33) 2,["self","held","number","lasts"],["self","held"],PL.mj.fE]::
 #["table_of","table_of","",top 36,["rules"],["rules"],PL.ue.mW]::
 #["Table.__init__","__init__","Table",inClass (top 37) 0,["self","told","rows"],["self","told","rows"],PL.ue.kG]::
 #["Table.goes","goes","Table",inClass (top 37) 2,["self","state","sign"],["self","state","sign"],PL.ue.kH]::
 #["Table.first","first","Table",inClass (top 37) 3,["self","text","state","sign"],["self","text"],PL.ue.j5]::
 #["spread","spread","",top 38,["places","lots","numbers","rows","reach","row","sign","held"],["places"],PL.ue.qX]::
 #["smallest","smallest","",top 39,["table","blocks","told","rows","state","row"],["table"],PL.ue.mY]::
 #["with_nowhere","with_nowhere","",top 40,["rows","nowhere"],["rows"],PL.ue.je]::
 #["rounds","rounds","",top 41,["told","rows","signs","found","finer"],["told","rows"],PL.ue.qY]::
 #["parted","parted","",top 42,["blocks","rows","signs","keys","state","row"],["blocks","rows","signs"],PL.ue.qZ]::
 #["numbered","numbered","",top 43,["keys","numbers"],["keys"],PL.ue.mZ]::
 #["telling_signs","telling_signs","",top 44,["rows","firsts","sign"],["rows"],PL.ue.iM]::
 #["_law_cell","_law_cell","",top 59,["_law_script","_law_k"],["_law_script","_law_k"],PL.tD.lD]::
 #["_law_mix","_law_mix","",top 60,["_law_script","_law_k","_law_number"],["_law_script","_law_k"],PL.tD.mU]::
 #["_law_all","_law_all","",top 63,["_law_low"],[],PL.tD.mV]::
 #["_law_nothing","_law_nothing","",top 64,["_law_tree"],["_law_tree"],PL.mj.jd]::
 #["_law_behind","_law_behind","",top 65,["_law_tree","_law_sign","_law_found","_law_part","_law_k","_law_more_here"],["_law_tree","_law_sign"],PL.mj.j0]::
 #["_law_rests","_law_rests","",top 66,["_law_rows","_law_sign","_law_found","_law_row","_law_rest"],["_law_rows","_law_sign"],PL.mj.kD]::
 #["_law_ends","_law_ends","",top 67,["_law_rows"],["_law_rows"],PL.mj.oC]::
 #["_law_first","_law_first","",top 70,["_law_trees_here","_law_text_here","_law_k","_law_rows","_law_sign"],["_law_trees_here","_law_text_here"],PL.ue.kI]::
 #["_law_small","_law_small","",top 73,["_law_script","_law_base","_law_deep","_law_number","_law_way","_law_parts"],["_law_script","_law_base","_law_deep"],PL.mj.kE]::
 #["_law_trees","_law_trees","",top 74,["_law_script","_law_base","_law_many","_law_deep","_law_found","_law_k","_law_tree"],["_law_script","_law_base","_law_many","_law_deep"],PL.mj.kF]::
 #["_law_text","_law_text","",top 75,["_law_script","_law_base","_law_many"],["_law_script","_law_base","_law_many"],PL.mj.lG]::[]
noncomputable def T:Tab where
 const:=[("SIGNS",.str PL.SG),("MARKED_OUTSIDE",.str [46,124,40,41,91,93,42,43,63,92]),("MARKED_WITHIN",.str [93,45,92]),("DEEPEST",.int 6),("REPEATS",.tab [([42],[115,116,97,114]),([43],[112,108,117,115]),([63],[109,97,121,98,101])]),("BEHIND_BACKSLASH",.str [46,124,40,41,91,93,42,43,63,92,45,94,110]),("MOST_RULES",.int 6),("AHEAD",.int 1),("MOST_PLACES",.int 10),("MARKS",.tab [([115,116,97,114],[42]),([112,108,117,115],[43]),([109,97,121,98,101],[63])])]
 fns:=JS rows
 qj:=["Reader","Part","Layout","Places","Table"]
 qk:=JT rows
 yD:=["text","at","depth","rule","empty","firsts","lasts","signs","behind","ends","takers","takes","told","rows"]
 lT:=["len","tuple","list","dict","sum","min","max","all","any","range","enumerate"]
theorem YC:rows.all FZ=true:=by decide +kernel
theorem YD:rows.all (Rm T)=true:=by decide +kernel
theorem YE:rows.map (λr=>Kg T 60 #[(bO r.st).names,r.N,true] (fK r.st))=rows.map λr=>some r.b:=by kernel_rfl
theorem VM:∀r∈rows,zo r:=by
 unfold rows
 repeat' refine aU.mpr #[?_,?_]
 all_goals first|exact λ_ h=>(cy h).elim|exact bd1 rfl λ_ _ _ _ _ _ _ _ _=>rfl|exact bd2 rfl λ_ _ _ _ _ _ _ _ _ _=>rfl|exact bd3 rfl λ_ _ _ _ _ _ _ _ _ _ _=>rfl|exact bd0 rfl λ_ _ _ _ _ _ _ _=>rfl|exact bd4 rfl λ_ _ _ _ _ _ _ _ _ _ _ _=>rfl
noncomputable abbrev sL:Stmt:=top 76
theorem Rt:lx ["_law_script","_law_trees_here","_law_table","_law_signs","_law_k","_law_text_here","_law_state","_law_size","_law_found","_law_due"] ["_law_script"] (bO sL):=#[rfl,rfl,rfl,by decide +kernel,rfl,by decide +kernel,by decide +kernel]
theorem Ru:Kg T 60 #[(bO sL).names,["_law_script","_law_trees_here","_law_table","_law_signs","_law_k","_law_text_here","_law_state","_law_size","_law_found","_law_due"],true] (fK sL)=some PL.ue.DG:=by kernel_rfl
end Dc
end
section
set_option autoImplicit true
namespace Dc
open PySem PySem.Spec PyProof.Rows PySem.W L2
theorem all_mk{l:GB}{w:bJ}{K:Frag}{h:Heap}{mg:Str->Option Value}{fa:Addr}(X:K.In h)(G:h.Ns bC mg)(hfa:mg "law"=some (.ref fa))
  (a_law:nsIn K bC "law"=some (some (.ref fl)))
  (f_law:FY K "law" "law" sL fl)
  (hC:∀p∈([("Reader",C_Reader),("Part",C_Part),("Layout",C_Layout),("Places",C_Places),("Table",C_Table)]:List (String×Addr)),Nd K p T.yD)
  (hR:∀r∈rows,Bb K [("Reader",C_Reader),("Part",C_Part),("Layout",C_Layout),("Places",C_Places),("Table",C_Table)] r)
  (a_SIGNS:nsIn K bC "SIGNS"=some (some (.str z_SIGNS t_SIGNS)))
  (e_SIGNS:z_SIGNS=tx PL.SG)
  (a_MARKED_OUTSIDE:nsIn K bC "MARKED_OUTSIDE"=some (some (.str z_MARKED_OUTSIDE t_MARKED_OUTSIDE)))
  (e_MARKED_OUTSIDE:z_MARKED_OUTSIDE=tx [46,124,40,41,91,93,42,43,63,92])
  (a_MARKED_WITHIN:nsIn K bC "MARKED_WITHIN"=some (some (.str z_MARKED_WITHIN t_MARKED_WITHIN)))
  (e_MARKED_WITHIN:z_MARKED_WITHIN=tx [93,45,92])
  (a_DEEPEST:nsIn K bC "DEEPEST"=some (some (.int 6 t_DEEPEST)))
  (a_REPEATS:nsIn K bC "REPEATS"=some (some (.ref r_REPEATS)))
  (l_REPEATS:K.lookup r_REPEATS=some #[.type "dict",none,.dict es_REPEATS ec_REPEATS,#[]])
  (kl_REPEATS:Bm w.params es_REPEATS.toList)
  (ky_REPEATS:es_REPEATS.toList.map (λe=>F3 e.key)= [some ("*":Str),some ("+":Str),some ("?":Str)])
  (sm_REPEATS:(r_REPEATS==bY)=false)
  (r_REPEATS0:nsIn K r_REPEATS "*"=some (some (.str z_REPEATS0 t_REPEATS0)))
  (re_REPEATS0:z_REPEATS0=tx [115,116,97,114])
  (r_REPEATS1:nsIn K r_REPEATS "+"=some (some (.str z_REPEATS1 t_REPEATS1)))
  (re_REPEATS1:z_REPEATS1=tx [112,108,117,115])
  (r_REPEATS2:nsIn K r_REPEATS "?"=some (some (.str z_REPEATS2 t_REPEATS2)))
  (re_REPEATS2:z_REPEATS2=tx [109,97,121,98,101])
  (a_BEHIND_BACKSLASH:nsIn K bC "BEHIND_BACKSLASH"=some (some (.str z_BEHIND_BACKSLASH t_BEHIND_BACKSLASH)))
  (e_BEHIND_BACKSLASH:z_BEHIND_BACKSLASH=tx [46,124,40,41,91,93,42,43,63,92,45,94,110])
  (a_MOST_RULES:nsIn K bC "MOST_RULES"=some (some (.int 6 t_MOST_RULES)))
  (a_AHEAD:nsIn K bC "AHEAD"=some (some (.int 1 t_AHEAD)))
  (a_MOST_PLACES:nsIn K bC "MOST_PLACES"=some (some (.int 10 t_MOST_PLACES)))
  (a_MARKS:nsIn K bC "MARKS"=some (some (.ref r_MARKS)))
  (l_MARKS:K.lookup r_MARKS=some #[.type "dict",none,.dict es_MARKS ec_MARKS,#[]])
  (kl_MARKS:Bm w.params es_MARKS.toList)
  (ky_MARKS:es_MARKS.toList.map (λe=>F3 e.key)= [some ("star":Str),some ("plus":Str),some ("maybe":Str)])
  (sm_MARKS:(r_MARKS==bY)=false)
  (r_MARKS0:nsIn K r_MARKS "star"=some (some (.str z_MARKS0 t_MARKS0)))
  (re_MARKS0:z_MARKS0=tx [42])
  (r_MARKS1:nsIn K r_MARKS "plus"=some (some (.str z_MARKS1 t_MARKS1)))
  (re_MARKS1:z_MARKS1=tx [43])
  (r_MARKS2:nsIn K r_MARKS "maybe"=some (some (.str z_MARKS2 t_MARKS2)))
  (re_MARKS2:z_MARKS2=tx [63])
  (hz:∀b∈T.lT,nsIn K bC (b7 b)=some none)
  : ∃fd:dW,(∀(s:aq)(v:Value),Bh s fd #[[v],[]] [("_law_script",v)])/\∀base:Heap,K.In base->base.Ns bC mg->kg l.prog w K mg base (tQ l.prog w) 200 fa fd ["_law_script"] (yL K):=by
 have e:=hfa.symm.trans (qA X G a_law);cases e;let#[oc,od,kV,dc,pm,an,cd,ct,sl,h1,h2,h3]:=f_law;refine#[fnOf "law" "law" (ly sL) (fK sL) (bO sL) .none kV dc pm an cd ct,λs v=>.of_eq rfl,λbase _ _=>?_]
 let c:L2.Ctx:=#[l.prog,w,K,mg,base,λx=>([("Reader",C_Reader),("Part",C_Part),("Layout",C_Layout),("Places",C_Places),("Table",C_Table)]:List (String×Addr)).lookup x]
 have hT:Ip c T:=by
  refine#[?_,λx hx=>mg_none_of X G (hz x hx),Ro rfl hC]
  .exact(aU.mpr #[uu (qA X G a_SIGNS) e_SIGNS,(aU.mpr #[uu (qA X G a_MARKED_OUTSIDE) e_MARKED_OUTSIDE,(aU.mpr #[uu (qA X G a_MARKED_WITHIN) e_MARKED_WITHIN,(aU.mpr #[#[.int 6,_,qA X G a_DEEPEST,#[t_DEEPEST,rfl],λ_ _=>aQ.mpr rfl],(aU.mpr #[VF (qA X G a_REPEATS) l_REPEATS kl_REPEATS ky_REPEATS sm_REPEATS (by kernel_rfl:("*":Str)=tx [42]) (by kernel_rfl:("+":Str)=tx [43]) (by kernel_rfl:("?":Str)=tx [63]) r_REPEATS0 re_REPEATS0 r_REPEATS1 re_REPEATS1 r_REPEATS2 re_REPEATS2,(aU.mpr #[uu (qA X G a_BEHIND_BACKSLASH) e_BEHIND_BACKSLASH,(aU.mpr #[#[.int 6,_,qA X G a_MOST_RULES,#[t_MOST_RULES,rfl],λ_ _=>aQ.mpr rfl],(aU.mpr #[#[.int 1,_,qA X G a_AHEAD,#[t_AHEAD,rfl],λ_ _=>aQ.mpr rfl],(aU.mpr #[#[.int 10,_,qA X G a_MOST_PLACES,#[t_MOST_PLACES,rfl],λ_ _=>aQ.mpr rfl],(aU.mpr #[VF (qA X G a_MARKS) l_MARKS kl_MARKS ky_MARKS sm_MARKS (by kernel_rfl:("star":Str)=tx [115,116,97,114]) (by kernel_rfl:("plus":Str)=tx [112,108,117,115]) (by kernel_rfl:("maybe":Str)=tx [109,97,121,98,101]) r_MARKS0 re_MARKS0 r_MARKS1 re_MARKS1 r_MARKS2 re_MARKS2,(λ_ h=>(cy h).elim)])])])])])])])])])])
 have hB:Base c T 1:=#[hT]
 have G0:gc c T (λ_=>wj) 1:=Rn X G rfl hC hR VM rfl rfl (aU.mpr #[#[rows[6],cu _,rfl,rfl,rfl],(aU.mpr #[#[rows[31],cu _,rfl,rfl,rfl],(aU.mpr #[#[rows[34],cu _,rfl,rfl,rfl],(aU.mpr #[#[rows[45],cu _,rfl,rfl,rfl],(aU.mpr #[#[rows[49],cu _,rfl,rfl,rfl],(λ_ h=>(cy h).elim)])])])])]);have R:=Nf (c:=c) X G rfl hC hR VM YC YD YE;erw[Mu (JU #[R 0 _ rfl,R 1 _ rfl,R 2 _ rfl,R 3 _ rfl,R 4 _ rfl,R 5 _ rfl,R 6 _ rfl,R 7 _ rfl,R 8 _ rfl,R 9 _ rfl,R 10 _ rfl,R 11 _ rfl,R 12 _ rfl,R 13 _ rfl,R 14 _ rfl,R 15 _ rfl,R 16 _ rfl] #[R 17 _ rfl,R 18 _ rfl,R 19 _ rfl,R 20 _ rfl,R 21 _ rfl,R 22 _ rfl,R 23 _ rfl,R 24 _ rfl,R 25 _ rfl,R 26 _ rfl,R 27 _ rfl] #[R 28 _ rfl,R 29 _ rfl,R 30 _ rfl,R 31 _ rfl,R 32 _ rfl,R 33 _ rfl,R 34 _ rfl,R 35 _ rfl,R 36 _ rfl,R 37 _ rfl,R 38 _ rfl,R 39 _ rfl,R 40 _ rfl,R 41 _ rfl,R 42 _ rfl,R 43 _ rfl,R 44 _ rfl,R 45 _ rfl,R 46 _ rfl,R 47 _ rfl] #[R 48 _ rfl,R 49 _ rfl,R 50 _ rfl,R 51 _ rfl,R 52 _ rfl,R 53 _ rfl,R 54 _ rfl,R 55 _ rfl,R 56 _ rfl,R 57 _ rfl,R 58 _ rfl] #[R 59 _ rfl,R 60 _ rfl,R 61 _ rfl,R 62 _ rfl,R 63 _ rfl,R 64 _ rfl,R 65 _ rfl,R 66 _ rfl,R 67 _ rfl,R 68 _ rfl,R 69 _ rfl] (Hj h1 h2 h3) Rt Ru rfl rfl hB G0)]
theorem walk{l:GB}{q:bf}{loose:List Str}{XP:(Str->Option Value)->Heap->Prop}{YP:bJ->Heap->Prop}{d:DefRec}{K:Gy->Frag}(hn:l.most=some 63)(hdf:d.params.defaults=[])
  (hY:∀(w:bJ)(h:Heap),YP w h->(K w.params).In h)
  (F:∀(w:bJ)(mg:Str->Option Value)(fa:Addr)(h:Heap),(K w.params).In h->h.Ns bC mg->mg d.name=some (.ref fa) ->
   ∃fd:dW,(∀(s:aq)(u:Value),Bh s fd #[[u],[]] [("_law_script",u)])/\∀base:Heap,(K w.params).In base->base.Ns bC mg->kg l.prog w (K w.params) mg base (tQ l.prog w) 200 fa fd ["_law_script"] (yL (K w.params))):
  WalkO q loose XP YP l.row.toRowW d [] (λf vs=>Ew f vs):=
 L2.K8 (n:=63) (k:=200) (x:="_law_script") (CX:=λw=>tQ l.prog w) (sp:=λw=>yL (K w.params)) hn ⋯ hdf #[rfl,⋯,⋯] hY F (λ_ _ a ns hl o hS=>#[a,ns,rfl,hl,IK o hS,λ_=>rfl]) λ_ _ _ _ _ z=>Qg z
end Dc
end
end Lake
end
section
open Lake
structure PySem.W.Fast:Prop where(tw2270056782142575003 tw10575436746556466444 tw185823445734074131 tw17650424282022576856 tw8621397735228036379 tw12646519321769907213 tw11240840524604224748 tw16099563630330720065 tw17013454705437796733 tw2283648787473564973 tw15657101760521779026 tw12482923372134811493 tw7195040271919822724 tw11427350633487200244 tw9098558185752568844 tw16306903721294282298 tw18370854236086118649 tw6073541564129672335 tw13846069474114797937 tw13906967135650967292 tw7300454434657909105 tw9316923548645953899 tw13915987594126042683 tw15709702409353696588 tw6856014857310598496 tw9721873647413483602 tw1270629915604958770 tw4666539803493881975 tw13470563184988415489 tw14958581117526460033 tw15043955985898621275 tw10615455871614299940 tw17490240392171022194 tw5005361603453919119 tw11452734455143503904 tw17040521136696695556 tw4437145979854960810 tw17722221297143205498 tw1989746079650531524 tw12225562247394764120 tw11422295216393296833 tw8034517646037411848 tw13758196342259439646 tw17075237288020487994 tw9448260669833306234 tw17005009282694492156 tw1115869380357597337 tw2822103596464119726 tw17798021916192042942 tw7620303703013414157 tw8226068052013806952 tw17231622931246054915 tw15211400328836433339 tw14831116868052164954 tw13541319183752588461 tw11889999149855967468 tw3447269623382308760 tw5272241881935970165 tw7142083607972500250 tw18412684143229732367 tw16731286526803628454 tw7695102898433136160 tw17506547463405805888 tw12480630743877878558 tw7009451140887337306 tw5739076985134942065 tw1596379602404805096 tw11171923603210375543 tw8501728142869790317 tw10932705048984480059 tw11765347857079607618 tw605807221162288443 tw1045510744393977319 tw14063626917845091672 tw5616479523128084244 tw621738037814334570 tw14069063114740001682 tw4672065639531940530 tw6540624764638592349 tw16122889262862774010 tw2452698970209069291 tw523347718081666898 tw18168653828430997419 tw11325496536313053544 tw3366424956849600747 tw7510025616338063390 tw5002331258745315496 tw3309680011963174284 tw7193499237652027362 tw7524190496181743633 tw7604674200359571370 tw16549212334188146413 tw11142062234399367615 tw5563141333967027701 tw887659523250309388 tw635179158801169810 tw8011796030474459052 tw8657131086978483433 tw14922856189341334533 tw18336393256652222230 tw1148627974100629918 tw13991623226022166754 tw15392938064082522986 tw4734420569864019777 tw12983485140183958239 tw1496506651559961715 tw14166020163812580372 tw6878197556952129857 tw2153625109267898613 tw9735265276136472875 tw4664672718351115084 tw16513228537947618315 tw866981077168482433 tw4933313920649934183 tw2457641625462290669 tw3359415736840368651 tw7213179852550140282 tw11441951202918024042 tw8145273411304647533 tw10534493277093391095 tw11198282200480188242 tw14791283148758676646 tw16137503437611996759 tw9271903900956069781 tw7270663973900503518 tw16571164338974313729 tw12567927404879612844 tw3947084000603267428 tw8924535760116087298 tw18136150659725097320 tw14418569463039680400 tw12656487234898004316 tw959640650680039625 tw9102040698615614388 tw702358630978012828 tw9941575148842496229 tw13894353064333848283 tw13145650093802206300 tw16973738930735992542 tw14300631309076916116 tw9892220956089631583 tw4953181711662278876 tw5799265112050592350 tw1874845865951658635 tw7035712061587379181 tw6966811211310517233 tw17228131057259864540 tw17545358889716208659 tw5216621434880355628 tw3314971478901461597 tw17535165952497292746 tw12607976975369178952 tw13875392199102512191 tw9530424087974231862 tw7098167367204874041 tw4390975786344634957 tw4479722401601848543 tw2741346947722988990 tw18029589777961363353 tw11843442320780820295 tw10590534067376149345 tw10388017572693729924 tw5439737453696304489 tw17848432790440083860 tw1775788428091091439 tw16917959194770800009 tw7151006496269563353 tw810718462400115198 tw10086279903606882773 tw16444802926053004408 tw6983354713950644700 tw14192038560516958305 tw2663443521418589798 tw8000641732031845897 tw14292896888667259839 tw3564861937848996403 tw14556862790425560677 tw11137094712816347591 tw10794633516184485140 tw12852099579779080773 tw4206759292060888567 tw1411323604156541386 tw8883260227105242128 tw2122712942449271034 tw6594351331155432296 tw15855658432304225094 tw8208436505957400078 tw13447828814636845351 tw12091207526424009444 tw1251513806195581200 tw15645783608545189787 tw8922597727880283653 tw13126110369797545053 tw12835003052219368070 tw5853431739761043481 tw10863785308817554261 tw5924464489428360067 tw11544812127773102595 tw4850804333790358729 tw5311171251276505759 tw16143775462422305851 tw5212499150676952615 tw15782859600283062790 tw10256634687282333053 tw2629342873275929965 tw6898250211854074552 tw735195906814549873 tw8566800208215712738 tw14596438036787612590 tw11849277662961749979 tw12142436053109500492 tw3810498519316604943 tw16014013971094659795 tw16165981890863317610 tw15097623232184677832 tw7122173612325172676 tw11247960667890774641 tw15090057410058683718 tw2769854165702292814 tw17635202187786548790 tw11720203812729976525 tw18355558448327550212 tw7916900156328608520 tw17772455190288254277 tw14305692594729092356 tw14320350292500330945 tw3410924601720017362 tw7527642842895170508 tw8205814616388246299 tw11257260137749582617 tw13619536298085050795 tw5456117346368582932 tw6667562190234333358 tw6675910868623991922 tw10414421592772772637 tw6911449858733570454 tw6590676639365236847 tw6616929402718733296 tw685777202173394075 tw17588615587784251162 tw8190402756994209484 tw7040630768714061490 tw9935888377391949941 tw2396828619763323136 tw8173055203380531904 tw13415412914126853404 tw11795012975892015725 tw392700295589277021 tw8294594767093034820 tw17372812883641918002 tw14837989369837364791 tw9298971008789319927 tw5434093866702614181 tw16438431250976700698 tw6879589308681668300 tw15460470906620592671 tw5144959755590899960 tw878099152721307672 tw7170824885854728594 tw5095094832855738814 tw1839368270295010689 tw13624518140091989392 tw10503335436714780608 tw13740549055556289461 tw10421774119760802098 tw10784017342904547252 tw5068802344186304190 tw9477921947763730923 tw17845205071976821868 tw1204866679800978798 tw9560892891370139007 tw7598120995174266398 tw6129588282451670386 tw17937262014128435829 tw15868481472444903807 tw3095120839241602810 tw3669998814143180821 tw2067681374121926048 tw10899089770343997667 tw9776950015390579900 tw3937551304100475501 tw14371206483161462699 tw10180025397446824563 tw7384289153549225133 tw12790590354950442760 tw7445957253380056727 tw7359072643085634872 tw16733450612735798870 tw1082781861736467580 tw9247890920244744580 tw8836521665245408997 tw848013284849481614 tw7853575333123864416 tw6438385209668069801 tw6162509475993040778 tw5547436722478103309 tw5043026450086670061 tw3414483880135412296 tw3163295522253594698 tw17568218267054939084 tw12911067361341487336 tw12799019695757553577 tw12165211094919892557 tw1102203248550413601 tw10984714892113700709 tw10820446076971885935 tw4262975233188408442 tw15813698936713609735 tw4414785123673818696 tw3231053352375401917 tw17017861240414204684 tw7639247175431782812 tw2430223383664643903 tw14669081050383362228 tw10027433640219302515 tw9734084328344361624 tw2420019765893063790 tw7537567392967837573 tw7286472821176259526 tw3829380804208753322 tw1820479815350275149 tw1739440792593873920 tw16609317352042685733 tw16298638599640554150 tw15326844132649363200 tw14778074755525096191 tw17714601517486209371 tw16575731066835213690 tw13651091447917810548 tw6003604656620559268 tw1894854108126273249 tw9413418706508302069 tw15133315429609223561 tw11479123289057636010 tw10319513381688879814 tw8117727627793764107 tw5014530294057118337 tw3800141651732695602 tw2838298839069495282 tw2386911164785353628 tw17251888962327303134 tw15242116776275833276 tw14983879915519690188 tw14289024734515464716 tw14262000980479795928 tw13663951510560850569 tw11151220488135533197 tw9163337375872756524 tw874820972677162438 tw8645931304974159876 tw8276804696346735858 tw7210270353348188353 tw7145132029161994698 tw6911441470761975315 tw4096334819361172256 tw3588741568021625956 tw2973666348174446073 tw18149363496380084908 tw18057976278725456321 tw17495714132981933424 tw15795496994090868997 tw14748432330546557229 tw14614420961316875761 tw14108520373125004798 tw13383022779592025189 tw13316949912873327433 tw13065587200893129667 tw12881678170501055205 tw12692261946660791656 tw12563067857463111985 tw11872471033583974857 tw10779267216610477027 tw1003550588209408806 tw17383527555806763301:True)
open PySem PySem.W PyProof.Rows
set_option maxRecDepth 100000 in
set_option maxHeartbeats 0 in
theorem PySem.Challenge.cw_tokenwright_k22_tables_gone_through_holds : PySem.Challenge.rw_tokenwright_k22_tables_gone_through.Holds := by
 w_on;o_law;k_head;(case hw=>w_witness2)
 k_fill
 refine Dc.walk (l:=PySem.Challenge.rw_tokenwright_k22_tables_gone_through) rfl rfl (fun w h Y=>PySem.W.kIn_of Y) ?F
 case F=>
  intro w mg fa h KX G hmg;refine' Dc.all_mk KX G hmg ?a_law ?f_law ?hC ?hR ?a_SIGNS ?e_SIGNS ?a_MARKED_OUTSIDE ?e_MARKED_OUTSIDE ?a_MARKED_WITHIN ?e_MARKED_WITHIN ?a_DEEPEST ?a_REPEATS ?l_REPEATS ?kl_REPEATS ?ky_REPEATS ?sm_REPEATS ?r_REPEATS0 ?re_REPEATS0 ?r_REPEATS1 ?re_REPEATS1 ?r_REPEATS2 ?re_REPEATS2 ?a_BEHIND_BACKSLASH ?e_BEHIND_BACKSLASH ?a_MOST_RULES ?a_AHEAD ?a_MOST_PLACES ?a_MARKS ?l_MARKS ?kl_MARKS ?ky_MARKS ?sm_MARKS ?r_MARKS0 ?re_MARKS0 ?r_MARKS1 ?re_MARKS1 ?r_MARKS2 ?re_MARKS2 ?hz
  (case a_law=>k_is)
  (case f_law=>exact⟨_,_,_,_,_,_,_,_,_,by k_is,by k_is,by k_is⟩)
  (case hC=>(repeat' refine aU.mpr ⟨?_,?_⟩);all_goals first | exact fun _ h=>(cy h).elim | exact⟨(by(try dsimp only);k_is),⟨(by(try dsimp only);k_is),(by(try dsimp only);k_is),(by(try dsimp only);k_is),(by(try dsimp only);k_is)⟩,(by(try dsimp only);k_is),(by(try dsimp only);k_is),(by kernel_rfl)⟩)
  (case hR=>unfold Dc.rows;(repeat' refine aU.mpr ⟨?_,?_⟩);all_goals first | exact fun _ h=>(cy h).elim | exact .fn (by k_is) ⟨_,_,_,_,_,_,_,_,_,by k_is,by k_is,by k_is⟩ | exact .mt rfl rfl (by k_is) (by k_is) ⟨_,_,_,_,_,_,_,_,_,by k_is,by k_is,by k_is⟩)
  (case a_SIGNS=>k_is)
  (case e_SIGNS=>kernel_rfl)
  (case a_MARKED_OUTSIDE=>k_is)
  (case e_MARKED_OUTSIDE=>kernel_rfl)
  (case a_MARKED_WITHIN=>k_is)
  (case e_MARKED_WITHIN=>kernel_rfl)
  (case a_DEEPEST=>k_is)
  (case a_REPEATS=>k_is)
  (case l_REPEATS=>k_is)
  (case kl_REPEATS=>exact⟨⟨_,_,rfl,rfl⟩,⟨⟨_,_,rfl,rfl⟩,⟨⟨_,_,rfl,rfl⟩,trivial⟩⟩⟩)
  (case ky_REPEATS=>kernel_rfl)
  (case sm_REPEATS=>kernel_rfl)
  (case r_REPEATS0=>k_is)
  (case re_REPEATS0=>kernel_rfl)
  (case r_REPEATS1=>k_is)
  (case re_REPEATS1=>kernel_rfl)
  (case r_REPEATS2=>k_is)
  (case re_REPEATS2=>kernel_rfl)
  (case a_BEHIND_BACKSLASH=>k_is)
  (case e_BEHIND_BACKSLASH=>kernel_rfl)
  (case a_MOST_RULES=>k_is)
  (case a_AHEAD=>k_is)
  (case a_MOST_PLACES=>k_is)
  (case a_MARKS=>k_is)
  (case l_MARKS=>k_is)
  (case kl_MARKS=>exact⟨⟨_,_,rfl,rfl⟩,⟨⟨_,_,rfl,rfl⟩,⟨⟨_,_,rfl,rfl⟩,trivial⟩⟩⟩)
  (case ky_MARKS=>kernel_rfl)
  (case sm_MARKS=>kernel_rfl)
  (case r_MARKS0=>k_is)
  (case re_MARKS0=>kernel_rfl)
  (case r_MARKS1=>k_is)
  (case re_MARKS1=>kernel_rfl)
  (case r_MARKS2=>k_is)
  (case re_MARKS2=>kernel_rfl)
  (case hz=>unfold Dc.T;(repeat' refine aU.mpr ⟨?_,?_⟩);all_goals first | exact fun _ h=>(cy h).elim | k_is)
end
